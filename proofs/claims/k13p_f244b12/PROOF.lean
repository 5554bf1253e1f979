import PyProof.Rows.All
import Wide.All
import OpenK.AllK
import Wide.FinOn
import PyProof.EqAt
import PyProof.EqKinds
import PyProof.TupleCall
import HandS.ForMost
import HandS.Wide
import HandS.WideBits
import HandS.Gcd
import HandS.IsInst
import HandS.Property
import HandS.ClsMeth
import HandS.FStr
import HandS.Flow
import HandS.OwnEq
import HandS.MakeKw
import HandS.MethStar
import KE.KOpsOwn
import KE.KMathG
import KE.KFmtOwn
import PyProof.InstNe
import KE.KCallOwn
import PyProof.Rows.ReprR
import PyProof.Rows.ReprShort
import HandS.MakeKwOnly
import HandS.Conv
import HandS.Style
import HandS.HeadNt
import HandS.HeadEnd
import HandS.Head0
import HandS.Head1
import HandS.Head2
import HandS.Head3
import KE.KStateDown
import HandS.Walk
import PyProof.NeKinds
import PyProof.ReprNest
import PyProof.StrHeap
import HandS.Star
import PySem.Challenge.RW_innerfractions_k13_whole_polynomials_put
import PyProof.ReprLen
set_option Elab.async false
set_option linter.all false
set_option maxRecDepth 100000
set_option maxHeartbeats 4000000
/-! Worlds and data: what an expression comes to, whatever else is laid. -/
namespace Inn
open PySem L2
/-- addresses that may change, and what holds of them throughout -/
structure Wld where
  M : Addr → Prop
  I : Hp → Prop
  st : ∀ {H H' : Hp}, I H → (∀ a, M a → H' a = H a) → I H'
  al : ∀ {H : Hp} {a : Addr}, I H → M a → ∃ o, H a = some o
/-- nothing changes -/
def W0 : Wld := ⟨fun _ => False, fun _ => True, fun _ _ => trivial, fun _ h => h.elim⟩
def Up (W : Wld) (H H' : Hp) : Prop := ∀ a o, ¬ W.M a → H a = some o → H' a = some o
theorem Up.refl {W : Wld} (H : Hp) : Up W H H := fun _ _ _ h => h
theorem Up.trans {W : Wld} {H H1 H2 : Hp} (a : Up W H H1) (b : Up W H1 H2) : Up W H H2 := fun x o n h => b x o n (a x o n h)
theorem Up.of {W : Wld} {H H' : Hp} (s : Same H H') : Up W H H' := fun a o _ h => s a o h
theorem not_M {W : Wld} {H : Hp} {p : Addr} (hI : W.I H) (hp : H p = none) : ¬ W.M p := fun m => by
  obtain ⟨o, e⟩ := W.al hI m
  rw [e] at hp
  cases hp
theorem Up.new {W : Wld} {H : Hp} {p : Addr} {o : HO} (h : H p = none) : Up W H (upd H p o) := fun a u _ e => by
  rw [upd_ne (ne_of_none e h)]
  exact e
theorem I_new {W : Wld} {H : Hp} {p : Addr} {o : HO} (hI : W.I H) (h : H p = none) : W.I (upd H p o) := W.st hI fun a m => by
  obtain ⟨u, e⟩ := W.al hI m
  exact upd_ne (ne_of_none e h)
/-- an object that was laid since may still be changed -/
theorem Up.mut {W : Wld} {H H' : Hp} {p : Addr} {o : HO} (e : Up W H H') (h : H p = none) : Up W H (upd H' p o) := fun a u n ha => by
  rw [upd_ne (ne_of_none ha h)]
  exact e a u n ha
theorem I_mut {W : Wld} {H : Hp} {p : Addr} {o : HO} (hI : W.I H) (h : ¬ W.M p) : W.I (upd H p o) := W.st hI fun a m => upd_ne fun z => h (z ▸ m)
/-- data of a kind, as it stands in the abstract heap -/
class Dat (α : Type) where
  Is : Wld → Hp → V → α → Prop
  up : ∀ {W : Wld} {H H' : Hp} {v : V} {x : α}, Up W H H' → Is W H v x → Is W H' v x
open Dat (Is)
instance : Dat Int := ⟨fun _ _ v x => v = .int x, fun _ h => h⟩
instance : Dat Bool := ⟨fun _ _ v x => v = .bl x, fun _ h => h⟩
instance : Dat Str := ⟨fun _ _ v x => v = .str x, fun _ h => h⟩
instance : Dat Unit := ⟨fun _ _ v _ => v = .non, fun _ h => h⟩
instance {α β : Type} [Dat α] [Dat β] : Dat (α × β) where
  Is W H v x := ∃ p u w, v = .ref p ∧ ¬ W.M p ∧ H p = some (.tup [u, w]) ∧ Is W H u x.1 ∧ Is W H w x.2
  up e h := by
    obtain ⟨p, u, w, e1, n, e2, h1, h2⟩ := h
    exact ⟨p, u, w, e1, n, e p _ n e2, Dat.up e h1, Dat.up e h2⟩
instance {α : Type} [Dat α] : Dat (Option α) where
  Is W H v x := match x with
    | none => v = .non
    | some y => Is W H v y
  up e h := by
    rename_i x
    cases x with
    | none => exact h
    | some y => exact Dat.up (α := α) e h
theorem paired_up {α : Type} [Dat α] {W : Wld} {H H' : Hp} (e : Up W H H') : ∀ {us : List V} {xs : List α}, Paired (fun u x => Is W H u x) us xs → Paired (fun u x => Is W H' u x) us xs
  | _, _, .nil => .nil
  | _, _, .cons h t => .cons (Dat.up e h) (paired_up e t)
instance {α : Type} [Dat α] : Dat (List α) where
  Is W H v xs := ∃ p us, v = .ref p ∧ ¬ W.M p ∧ H p = some (.lst us) ∧ Paired (fun u x => Is W H u x) us xs
  up e h := by
    obtain ⟨p, us, e1, n, e2, h1⟩ := h
    exact ⟨p, us, e1, n, e p _ n e2, paired_up e h1⟩
/-- a Ratio of the class at C -/
structure Rt (C : Addr) where
  t : Int
  b : Int
def rfs (t b : Int) : List (Str × V) := putF "_bottom" (.int b) (putF "_top" (.int t) [])
instance {C : Addr} : Dat (Rt C) where
  Is W H v x := ∃ p dx, v = .ref p ∧ ¬ W.M p ∧ H p = some (.ins C dx (rfs x.t x.b))
  up e h := by
    obtain ⟨p, dx, e1, n, e2⟩ := h
    exact ⟨p, dx, e1, n, e p _ n e2⟩
/-- a value of any kind, as it is -/
structure AnyV where
  v : V
/-- arguments -/
class DArgs (A : Type) where
  Is : Wld → Hp → List V → A → Prop
  up : ∀ {W : Wld} {H H' : Hp} {v : List V} {x : A}, Up W H H' → Is W H v x → Is W H' v x
  n : Nat
  len : ∀ {W : Wld} {H : Hp} {v : List V} {x : A}, Is W H v x → v.length = n
structure Nil where
instance : DArgs Nil := ⟨fun _ _ vs _ => vs = [], fun _ h => h, 0, fun h => by rw [h] <;> rfl⟩
structure Cns (α A : Type) where
  h : α
  t : A
instance {α A : Type} [Dat α] [DArgs A] : DArgs (Cns α A) where
  Is W H vs a := ∃ v r, vs = v :: r ∧ Is W H v a.h ∧ DArgs.Is W H r a.t
  up e h := by
    obtain ⟨v, r, e1, h1, h2⟩ := h
    exact ⟨v, r, e1, Dat.up e h1, DArgs.up e h2⟩
  n := DArgs.n A + 1
  len h := by
    obtain ⟨v, r, e1, h1, h2⟩ := h
    rw [e1, List.length_cons, DArgs.len h2]
section
variable {α β γ A : Type} [Dat α] [Dat β] [Dat γ] [DArgs A]
def Ev (W : Wld) (te : TE) (σ : L2.St) (H : Hp) (P : α → Prop) : Prop :=
  ∀ H1, Up W H H1 → W.I H1 → ∀ Q : VK, (∀ v H2 x, Up W H1 H2 → W.I H2 → Is W H2 v x → P x → Q v H2) → te σ H1 Q
def EvT (W : Wld) (tt : TT) (σ : L2.St) (H : Hp) (P : Bool → Prop) : Prop :=
  ∀ H1, Up W H H1 → W.I H1 → ∀ Q : Bool → Hp → Prop, (∀ b H2, Up W H1 H2 → W.I H2 → P b → Q b H2) → tt σ H1 Q
def EvA (W : Wld) (ta : TA) (σ : L2.St) (H : Hp) (P : A → Prop) : Prop :=
  ∀ H1, Up W H H1 → W.I H1 → ∀ Q : List V → Hp → Prop, (∀ vs H2 a, Up W H1 H2 → W.I H2 → DArgs.Is W H2 vs a → P a → Q vs H2) → ta σ H1 Q
/-- e comes to data with P -/
def Dx (X : Cx) (W : Wld) (e : Expr) (σ : L2.St) (H : Hp) (P : α → Prop) : Prop := ∃ te, PE X e te ∧ Ev W te σ H P
def Tx (X : Cx) (W : Wld) (e : Expr) (σ : L2.St) (H : Hp) (P : Bool → Prop) : Prop := ∃ tt, PT X e tt ∧ EvT W tt σ H P
/-- .. within and, or -/
def Txw (X : Cx) (W : Wld) (e : Expr) (σ : L2.St) (H : Hp) (P : Bool → Prop) : Prop := ∃ tt, PW X e tt ∧ EvT W tt σ H P
def Ax (X : Cx) (W : Wld) (es : List Expr) (σ : L2.St) (H : Hp) (P : A → Prop) : Prop := ∃ ta, PA X es ta ∧ EvA W ta σ H P
variable {X : Cx} {W : Wld} {σ : L2.St} {H : Hp} {pos : Pos} {a b e : Expr} {es : List Expr}
theorem Dx.imp {P R : α → Prop} (h : Dx X W e σ H P) (i : ∀ x, P x → R x) : Dx X W e σ H R :=
  let ⟨te, pe, ev⟩ := h
  ⟨te, pe, fun H1 u hI Q q => ev H1 u hI Q fun v H2 x u2 i2 hx hp => q v H2 x u2 i2 hx (i x hp)⟩
theorem Dx.to {x y : α} (h : Dx X W e σ H (· = x)) (i : x = y) : Dx X W e σ H (· = y) := i ▸ h
theorem Dx.up {H' : Hp} {P : α → Prop} (h : Dx X W e σ H P) (u : Up W H H') : Dx X W e σ H' P :=
  let ⟨te, pe, ev⟩ := h
  ⟨te, pe, fun H1 u1 hI Q q => ev H1 (u.trans u1) hI Q q⟩
theorem Tx.imp {P R : Bool → Prop} (h : Tx X W e σ H P) (i : ∀ x, P x → R x) : Tx X W e σ H R :=
  let ⟨te, pe, ev⟩ := h
  ⟨te, pe, fun H1 u hI Q q => ev H1 u hI Q fun b H2 u2 i2 hp => q b H2 u2 i2 (i b hp)⟩
theorem Tx.to {x y : Bool} (h : Tx X W e σ H (· = x)) (i : x = y) : Tx X W e σ H (· = y) := i ▸ h
/-! ### names, constants -/
theorem dx_var (i : Nat) {nm : Str} {v : V} {x : α} (hv : Is W H v x) (hσ : σ[i]? = some (some v) := by rfl) (hN : X.N[i]? = some nm := by rfl)
    (hvis : Vis X.env.scope nm := by first | exact Or.inl rfl | exact Or.inr (Or.inl rfl) | exact Or.inr (Or.inr rfl)) (hd : (nm == ("__debug__" : Str)) = false := by decide) (hcd : (nm == ("__classdict__" : Str)) = false := by decide) :
    Dx X W (.Name nm pos) σ H (· = x) :=
  ⟨_, pe_var hN hvis hd hcd, fun H1 u hI Q q => ⟨v, hσ, q v H1 x (Up.refl _) hI (Dat.up u hv) rfl⟩⟩
theorem dx_int {i : Int} {j} : Dx X W (.Constant (.int i) j pos) σ H (fun x : Int => x = i) := ⟨_, pe_int, fun H1 _ hI Q q => q _ H1 i (Up.refl _) hI rfl rfl⟩
theorem dx_bl {i : Bool} {j} : Dx X W (.Constant (.bool i) j pos) σ H (fun x : Bool => x = i) := ⟨_, pe_bl, fun H1 _ hI Q q => q _ H1 i (Up.refl _) hI rfl rfl⟩
theorem dx_str {i : Str} {j} : Dx X W (.Constant (.str i) j pos) σ H (fun x : Str => x = i) := ⟨_, pe_str, fun H1 _ hI Q q => q _ H1 i (Up.refl _) hI rfl rfl⟩
theorem dx_non {j} : Dx X W (.Constant .none j pos) σ H (fun x : Unit => x = ()) := ⟨_, pe_non, fun H1 _ hI Q q => q _ H1 () (Up.refl _) hI rfl rfl⟩
/-- None as no value -/
theorem dx_none {j} : Dx X W (.Constant .none j pos) σ H (fun x : Option α => x = none) := ⟨_, pe_non, fun H1 _ hI Q q => q _ H1 none (Up.refl _) hI rfl rfl⟩
theorem dx_some {x : α} (h : Dx X W e σ H (· = x)) : Dx X W e σ H (fun y : Option α => y = some x) :=
  let ⟨te, pe, ev⟩ := h
  ⟨te, pe, fun H1 u hI Q q => ev H1 u hI Q fun v H2 y u2 i2 hx hp => q v H2 (some y) u2 i2 hx (by rw [hp])⟩
/-! ### operators -/
theorem dx_op {op : Operator} {r : R2} {P : α → Prop} {R : β → Prop} {S : γ → Prop} (ho : OpR X (binaryOp op) r) (ha : Dx X W a σ H P) (hb : Dx X W b σ H R)
    (hr : ∀ u v H1 x y (Q : VK), Up W H H1 → W.I H1 → Is W H1 u x → Is W H1 v y → P x → R y → (∀ w H2 z, Up W H1 H2 → W.I H2 → Is W H2 w z → S z → Q w H2) → r u v H1 Q) :
    Dx X W (.BinOp a op b pos) σ H S := by
  obtain ⟨ta, pa, va⟩ := ha
  obtain ⟨tb, pb, vb⟩ := hb
  refine ⟨_, pe_op ho pa pb, fun H1 u hI Q q => va H1 u hI _ fun v H2 x u2 i2 hx px => vb H2 (u.trans u2) i2 _ fun w H3 y u3 i3 hy py => ?_⟩
  exact hr v w H3 x y Q ((u.trans u2).trans u3) i3 (Dat.up u3 hx) hy px py fun w' H4 z u4 i4 hz sz => q w' H4 z ((u2.trans u3).trans u4) i4 hz sz
theorem dx_opI {op : Operator} {C : Int → Int → Prop} {g : Int → Int → Int} {i j : Int} (ho : OpR X (binaryOp op) (rI C fun i j => .int (g i j))) (ha : Dx X W a σ H (· = i)) (hb : Dx X W b σ H (· = j)) (hc : C i j) :
    Dx X W (.BinOp a op b pos) σ H (· = g i j) := dx_op ho ha hb fun u v H1 x y Q _ hI hx hy px py q => by
  subst px; subst py
  exact ⟨_, _, hx, hy, hc, q _ H1 _ (Up.refl _) hI rfl rfl⟩
theorem dx_opI0 {op : Operator} {g : Int → Int → Int} {i j : Int} (ho : OpR X (binaryOp op) (rI0 fun i j => .int (g i j))) (ha : Dx X W a σ H (· = i)) (hb : Dx X W b σ H (· = j)) :
    Dx X W (.BinOp a op b pos) σ H (· = g i j) := dx_op ho ha hb fun u v H1 x y Q _ hI hx hy px py q => by
  subst px; subst py
  exact ⟨_, _, hx, hy, q _ H1 _ (Up.refl _) hI rfl rfl⟩
theorem dx_add {i j : Int} (ha : Dx X W a σ H (· = i)) (hb : Dx X W b σ H (· = j)) : Dx X W (.BinOp a .Add b pos) σ H (· = i + j) := dx_opI0 op_add ha hb
theorem dx_sub {i j : Int} (ha : Dx X W a σ H (· = i)) (hb : Dx X W b σ H (· = j)) : Dx X W (.BinOp a .Sub b pos) σ H (· = i - j) := dx_opI0 op_sub ha hb
theorem dx_mul {i j : Int} (ha : Dx X W a σ H (· = i)) (hb : Dx X W b σ H (· = j)) (hc : CMulW i j) : Dx X W (.BinOp a .Mult b pos) σ H (· = i * j) := dx_opI (g := fun i j => i * j) op_mulW ha hb hc
theorem dx_mod {i j : Int} (ha : Dx X W a σ H (· = i)) (hb : Dx X W b σ H (· = j)) (hc : j ≠ 0) : Dx X W (.BinOp a .Mod b pos) σ H (· = i.fmod j) := dx_opI (g := fun i j => i.fmod j) op_modN ha hb hc
/-! with P -/
theorem dx_addP {P R : Int → Prop} (ha : Dx X W a σ H P) (hb : Dx X W b σ H R) : Dx X W (.BinOp a .Add b pos) σ H (fun z => ∃ i j, P i ∧ R j ∧ z = i + j) := dx_op op_add ha hb fun u v H1 x y Q _ hI hx hy px py q =>
  ⟨_, _, hx, hy, q _ H1 _ (Up.refl _) hI rfl ⟨x, y, px, py, rfl⟩⟩
theorem dx_subP {P R : Int → Prop} (ha : Dx X W a σ H P) (hb : Dx X W b σ H R) : Dx X W (.BinOp a .Sub b pos) σ H (fun z => ∃ i j, P i ∧ R j ∧ z = i - j) := dx_op op_sub ha hb fun u v H1 x y Q _ hI hx hy px py q =>
  ⟨_, _, hx, hy, q _ H1 _ (Up.refl _) hI rfl ⟨x, y, px, py, rfl⟩⟩
/-! ### displays -/
theorem ax_nil : Ax X W [] σ H (fun x : Nil => x = ⟨⟩) := ⟨_, pa_nil, fun H1 _ hI Q q => q [] H1 ⟨⟩ (Up.refl _) hI rfl rfl⟩
theorem ax_consP {P : α → Prop} {R : A → Prop} (h : Dx X W e σ H P) (hr : Ax X W es σ H R) (hs : starEach (e :: es) X.env = (false, eval e X.env) :: starEach es X.env := by rfl) :
    Ax X W (e :: es) σ H (fun z : Cns α A => P z.h ∧ R z.t) := by
  obtain ⟨te, pe, ev⟩ := h
  obtain ⟨ta, pa, va⟩ := hr
  refine ⟨_, pa_cons pe pa hs, fun H1 u hI Q q => ev H1 u hI _ fun v H2 x u2 i2 hx px => va H2 (u.trans u2) i2 _ fun vs H3 r u3 i3 hr pr => ?_⟩
  exact q (v :: vs) H3 ⟨x, r⟩ (u2.trans u3) i3 ⟨v, vs, rfl, Dat.up u3 hx, hr⟩ ⟨px, pr⟩
theorem ax_cons {x : α} {r : A} (h : Dx X W e σ H (· = x)) (hr : Ax X W es σ H (· = r)) (hs : starEach (e :: es) X.env = (false, eval e X.env) :: starEach es X.env := by rfl) :
    Ax X W (e :: es) σ H (· = Cns.mk x r) := by
  obtain ⟨ta, pa, ev⟩ := ax_consP h hr hs
  exact ⟨ta, pa, fun H1 u hI Q q => ev H1 u hI Q fun vs H2 a u2 i2 ha pa => q vs H2 a u2 i2 ha (by obtain ⟨p1, p2⟩ := pa; cases a; subst p1; subst p2; rfl)⟩
theorem dx_tupP {P : α → Prop} {R : β → Prop} {k} (ha : Dx X W a σ H P) (hb : Dx X W b σ H R) (hs : starEach (a :: [b]) X.env = (false, eval a X.env) :: starEach [b] X.env := by rfl) (hs1 : starEach (b :: []) X.env = (false, eval b X.env) :: starEach [] X.env := by rfl) :
    Dx X W (.Tuple [a, b] k pos) σ H (fun z : α × β => P z.1 ∧ R z.2) := by
  obtain ⟨ta, pa, va⟩ := ha
  obtain ⟨tb, pb, vb⟩ := hb
  refine ⟨_, pe_tup (pa_cons pa (pa_cons pb pa_nil hs1) hs), fun H1 u hI Q q => va H1 u hI _ fun v H2 x u2 i2 hx px => vb H2 (u.trans u2) i2 _ fun w H3 y u3 i3 hy py => ⟨by show 2 ≤ sizeLine; decide, fun p hp => ?_⟩⟩
  exact q _ _ (x, y) ((u2.trans u3).trans (Up.new hp)) (I_new i3 hp) ⟨p, v, w, rfl, not_M i3 hp, upd_same, Dat.up (Up.new hp) (Dat.up u3 hx), Dat.up (Up.new hp) hy⟩ ⟨px, py⟩
theorem dx_tup {x : α} {y : β} {k} (ha : Dx X W a σ H (· = x)) (hb : Dx X W b σ H (· = y)) (hs : starEach (a :: [b]) X.env = (false, eval a X.env) :: starEach [b] X.env := by rfl) (hs1 : starEach (b :: []) X.env = (false, eval b X.env) :: starEach [] X.env := by rfl) :
    Dx X W (.Tuple [a, b] k pos) σ H (· = (x, y)) := (dx_tupP ha hb hs hs1).imp fun z pz => by obtain ⟨p1, p2⟩ := pz; cases z; subst p1; subst p2; rfl
/-- items of one kind -/
def Lx (X : Cx) (W : Wld) (es : List Expr) (σ : L2.St) (H : Hp) (P : List α → Prop) : Prop := ∃ ta, PA X es ta ∧ ∀ H1, Up W H H1 → W.I H1 → ∀ Q : List V → Hp → Prop, (∀ vs H2 xs, Up W H1 H2 → W.I H2 → Paired (fun u x => Is W H2 u x) vs xs → P xs → Q vs H2) → ta σ H1 Q
theorem lx_nil : Lx (α := α) X W [] σ H (· = []) := ⟨_, pa_nil, fun H1 _ hI Q q => q [] H1 [] (Up.refl _) hI .nil rfl⟩
theorem lx_consP {P : α → Prop} {R : List α → Prop} (h : Dx X W e σ H P) (hr : Lx X W es σ H R) (hs : starEach (e :: es) X.env = (false, eval e X.env) :: starEach es X.env := by rfl) : Lx X W (e :: es) σ H (fun z => ∃ x r, P x ∧ R r ∧ z = x :: r) := by
  obtain ⟨te, pe, ev⟩ := h
  obtain ⟨ta, pa, va⟩ := hr
  refine ⟨_, pa_cons pe pa hs, fun H1 u hI Q q => ev H1 u hI _ fun v H2 x u2 i2 hx px => va H2 (u.trans u2) i2 _ fun vs H3 r u3 i3 hr pr => ?_⟩
  exact q (v :: vs) H3 (x :: r) (u2.trans u3) i3 (.cons (Dat.up u3 hx) hr) ⟨x, r, px, pr, rfl⟩
theorem lx_cons {x : α} {r : List α} (h : Dx X W e σ H (· = x)) (hr : Lx X W es σ H (· = r)) (hs : starEach (e :: es) X.env = (false, eval e X.env) :: starEach es X.env := by rfl) : Lx X W (e :: es) σ H (· = x :: r) := by
  obtain ⟨ta, pa, ev⟩ := lx_consP h hr hs
  exact ⟨ta, pa, fun H1 u hI Q q => ev H1 u hI Q fun vs H2 a u2 i2 ha pa => q vs H2 a u2 i2 ha (by obtain ⟨x', r', p1, p2, e⟩ := pa; rw [e, p1, p2])⟩
theorem paired_len {F : V → α → Prop} : ∀ {us : List V} {xs : List α}, Paired F us xs → us.length = xs.length
  | _, _, .nil => rfl
  | _, _, .cons _ t => congrArg Nat.succ (paired_len t)
theorem dx_lstP {P : List α → Prop} (h : Lx X W es σ H P) (hl : ∀ xs, P xs → xs.length ≤ 100000) : Dx X W (.List es pos) σ H P := by
  obtain ⟨ta, pa, va⟩ := h
  refine ⟨_, pe_lst pa, fun H1 u hI Q q => va H1 u hI _ fun vs H2 xs u2 i2 hx px => ⟨Nat.le_trans (by rw [paired_len hx]; exact hl xs px) (by decide), fun p hp => ?_⟩⟩
  exact q _ _ xs (u2.trans (Up.new hp)) (I_new i2 hp) ⟨p, vs, rfl, not_M i2 hp, upd_same, paired_up (Up.new hp) hx⟩ px
theorem dx_lst {xs : List α} (h : Lx X W es σ H (· = xs)) (hl : xs.length ≤ 100000) : Dx X W (.List es pos) σ H (· = xs) := dx_lstP h fun ys e => e ▸ hl
/-! ### items -/
theorem dx_ix0 {x : α} {y : β} {i : Expr} (h : Dx X W a σ H (· = (x, y))) (hi : Dx X W i σ H (fun z : Int => z = 0)) (hs : PlainIx i := by exact fun _ _ => rfl) : Dx X W (.Subscript a i pos) σ H (· = x) := by
  obtain ⟨ta, pa, va⟩ := h
  obtain ⟨ti, pi, vi⟩ := hi
  refine ⟨_, pe_ix ix_tup pa pi hs, fun H1 u hI Q q => va H1 u hI _ fun v H2 z u2 i2 hz pz => vi H2 (u.trans u2) i2 _ fun w H3 n u3 i3 hn pn => ?_⟩
  subst pz; subst pn
  obtain ⟨p, v1, v2, rfl, n, e2, h1, h2⟩ := Dat.up u3 hz
  cases hn
  exact ⟨p, _, 0, v1, rfl, rfl, SqT.of e2, rfl, q _ H3 x (u2.trans u3) i3 h1 rfl⟩
theorem dx_ix1 {x : α} {y : β} {i : Expr} (h : Dx X W a σ H (· = (x, y))) (hi : Dx X W i σ H (fun z : Int => z = 1)) (hs : PlainIx i := by exact fun _ _ => rfl) : Dx X W (.Subscript a i pos) σ H (· = y) := by
  obtain ⟨ta, pa, va⟩ := h
  obtain ⟨ti, pi, vi⟩ := hi
  refine ⟨_, pe_ix ix_tup pa pi hs, fun H1 u hI Q q => va H1 u hI _ fun v H2 z u2 i2 hz pz => vi H2 (u.trans u2) i2 _ fun w H3 n u3 i3 hn pn => ?_⟩
  subst pz; subst pn
  obtain ⟨p, v1, v2, rfl, n, e2, h1, h2⟩ := Dat.up u3 hz
  cases hn
  exact ⟨p, _, 1, v2, rfl, rfl, SqT.of e2, rfl, q _ H3 y (u2.trans u3) i3 h2 rfl⟩
theorem paired_get {F : V → α → Prop} : ∀ {us : List V} {xs : List α} {i : Nat} {x : α}, Paired F us xs → xs[i]? = some x → ∃ u, us[i]? = some u ∧ F u x
  | _, _, _, _, .nil, e => by simp at e
  | _, _, 0, _, .cons r _, e => by simp at e; subst e; exact ⟨_, rfl, r⟩
  | _, _, i + 1, x, .cons _ t, e => by
    obtain ⟨u, h1, h2⟩ := paired_get (i := i) (x := x) t (by simpa using e)
    exact ⟨u, by simpa using h1, h2⟩
theorem paired_getL {F : V → α → Prop} : ∀ {us : List V} {xs : List α} {i : Nat} {u : V}, Paired F us xs → us[i]? = some u → ∃ x, xs[i]? = some x ∧ F u x
  | _, _, _, _, .nil, e => by simp at e
  | _, _, 0, _, .cons r _, e => by simp at e; subst e; exact ⟨_, rfl, r⟩
  | _, _, i + 1, x, .cons _ t, e => by
    obtain ⟨u, h1, h2⟩ := paired_getL (i := i) (u := x) t (by simpa using e)
    exact ⟨u, by simpa using h1, h2⟩
theorem dx_ixLP {xs : List α} {i : Expr} {P : Int → Prop} (h : Dx X W a σ H (· = xs)) (hi : Dx X W i σ H P) (hb : ∀ n, P n → 0 ≤ n ∧ n < xs.length) (hs : PlainIx i := by exact fun _ _ => rfl) : Dx X W (.Subscript a i pos) σ H (fun x => ∃ n : Nat, P (n : Int) ∧ xs[n]? = some x) := by
  obtain ⟨ta, pa, va⟩ := h
  obtain ⟨ti, pi, vi⟩ := hi
  refine ⟨_, pe_ix ix_list pa pi hs, fun H1 u hI Q q => va H1 u hI _ fun v H2 z u2 i2 hz pz => vi H2 (u.trans u2) i2 _ fun w H3 n u3 i3 hn pn => ?_⟩
  subst pz
  obtain ⟨p, us, rfl, nm, e2, h1⟩ := Dat.up u3 hz
  cases hn
  obtain ⟨b0, b1⟩ := hb n pn
  obtain ⟨m, rfl⟩ : ∃ m : Nat, n = (m : Int) := ⟨n.toNat, by omega⟩
  have hm : m < z.length := by omega
  obtain ⟨w, hw, hx⟩ := paired_get h1 (List.getElem?_eq_getElem hm)
  exact ⟨p, us, m, w, rfl, rfl, SqL.of e2, atI_nat hw, q _ H3 _ (u2.trans u3) i3 hx ⟨m, pn, List.getElem?_eq_getElem hm⟩⟩
theorem dx_ixL {xs : List α} {x : α} {i : Expr} {n : Nat} (h : Dx X W a σ H (· = xs)) (hi : Dx X W i σ H (fun z : Int => z = n)) (hx : xs[n]? = some x) (hs : PlainIx i := by exact fun _ _ => rfl) : Dx X W (.Subscript a i pos) σ H (· = x) :=
  (dx_ixLP h hi (by rintro m rfl; have := (List.getElem?_eq_some_iff.mp hx).1; omega) hs).imp fun y hy => by
    obtain ⟨m, e, g⟩ := hy
    have : m = n := by omega
    subst this
    rw [hx] at g
    exact (Option.some.inj g).symm
end
end Inn
set_option Elab.async false
set_option linter.all false
set_option maxRecDepth 100000
set_option maxHeartbeats 4000000
namespace Inn
open PySem L2
open Dat (Is)
section
variable {α β γ A : Type} [Dat α] [Dat β] [Dat γ] [DArgs A]
variable {X : Cx} {W : Wld} {σ : L2.St} {H : Hp} {pos : Pos} {a b c e : Expr} {es rest : List Expr}
/-! ### comparisons and tests -/
theorem ev_cmpI {op : CmpOp} {g : Int → Int → Bool} {i j : Int} {ta tb : TE} (va : Ev W ta σ H (· = i)) (vb : Ev W tb σ H (· = j)) : Ev W (tOp (rI0 fun i j => .bl (g i j)) ta tb) σ H (· = g i j) :=
  fun H1 u hI Q q => va H1 u hI _ fun v H2 x u2 i2 hx px => vb H2 (u.trans u2) i2 _ fun w H3 y u3 i3 hy py => by
    subst px; subst py
    exact ⟨_, _, hx, hy, q _ H3 _ (u2.trans u3) i3 rfl rfl⟩
theorem ev_test {te : TE} {P : Bool → Prop} (h : Ev W te σ H P) : EvT W (tTest te) σ H P := fun H1 u hI Q q => h H1 u hI _ fun v H2 x u2 i2 hx px => ⟨x, hx, q x H2 u2 i2 px⟩
theorem ev_B {te : TE} {P : Bool → Prop} (h : Ev W te σ H P) : EvT W (tB te) σ H P := fun H1 u hI Q q => h H1 u hI _ fun v H2 x u2 i2 hx px => ⟨x, hx, q x H2 u2 i2 px⟩
theorem tx_val {P : Bool → Prop} (h : Dx X W e σ H P) (he : ∀ whole, isTrue e X.env whole = (do let v ← whole; standAt e.pos; holding [v] (truthy v)) := by intro _; rfl) : Tx X W e σ H P :=
  let ⟨_, pe, ev⟩ := h
  ⟨_, pt_val pe he, ev_B ev⟩
section
variable {i j : Int}
theorem tx_lt (ha : Dx X W a σ H (· = i)) (hb : Dx X W b σ H (· = j)) : Tx X W (.Compare a [.Lt] [b] pos) σ H (· = decide (i < j)) := let ⟨_, pa, va⟩ := ha; let ⟨_, pb, vb⟩ := hb; ⟨_, pt_cmpR op_lt pa pb (nomark _), ev_test (ev_cmpI (op := .Lt) va vb)⟩
theorem tx_le (ha : Dx X W a σ H (· = i)) (hb : Dx X W b σ H (· = j)) : Tx X W (.Compare a [.LtE] [b] pos) σ H (· = decide (i ≤ j)) := let ⟨_, pa, va⟩ := ha; let ⟨_, pb, vb⟩ := hb; ⟨_, pt_cmpR op_le pa pb (nomark _), ev_test (ev_cmpI (op := .Lt) va vb)⟩
theorem tx_gt (ha : Dx X W a σ H (· = i)) (hb : Dx X W b σ H (· = j)) : Tx X W (.Compare a [.Gt] [b] pos) σ H (· = decide (j < i)) := let ⟨_, pa, va⟩ := ha; let ⟨_, pb, vb⟩ := hb; ⟨_, pt_cmpR op_gt pa pb (nomark _), ev_test (ev_cmpI (op := .Lt) va vb)⟩
theorem tx_ge (ha : Dx X W a σ H (· = i)) (hb : Dx X W b σ H (· = j)) : Tx X W (.Compare a [.GtE] [b] pos) σ H (· = decide (j ≤ i)) := let ⟨_, pa, va⟩ := ha; let ⟨_, pb, vb⟩ := hb; ⟨_, pt_cmpR op_ge pa pb (nomark _), ev_test (ev_cmpI (op := .Lt) va vb)⟩
theorem dx_lt (ha : Dx X W a σ H (· = i)) (hb : Dx X W b σ H (· = j)) : Dx X W (.Compare a [.Lt] [b] pos) σ H (· = decide (i < j)) := let ⟨_, pa, va⟩ := ha; let ⟨_, pb, vb⟩ := hb; ⟨_, pe_cmpR op_lt pa pb (nomark _), ev_cmpI (op := .Lt) va vb⟩
theorem dx_le (ha : Dx X W a σ H (· = i)) (hb : Dx X W b σ H (· = j)) : Dx X W (.Compare a [.LtE] [b] pos) σ H (· = decide (i ≤ j)) := let ⟨_, pa, va⟩ := ha; let ⟨_, pb, vb⟩ := hb; ⟨_, pe_cmpR op_le pa pb (nomark _), ev_cmpI (op := .Lt) va vb⟩
theorem dx_gt (ha : Dx X W a σ H (· = i)) (hb : Dx X W b σ H (· = j)) : Dx X W (.Compare a [.Gt] [b] pos) σ H (· = decide (j < i)) := let ⟨_, pa, va⟩ := ha; let ⟨_, pb, vb⟩ := hb; ⟨_, pe_cmpR op_gt pa pb (nomark _), ev_cmpI (op := .Lt) va vb⟩
theorem dx_ge (ha : Dx X W a σ H (· = i)) (hb : Dx X W b σ H (· = j)) : Dx X W (.Compare a [.GtE] [b] pos) σ H (· = decide (j ≤ i)) := let ⟨_, pa, va⟩ := ha; let ⟨_, pb, vb⟩ := hb; ⟨_, pe_cmpR op_ge pa pb (nomark _), ev_cmpI (op := .Lt) va vb⟩
end
/-- flat kinds of which == tells equality -/
class Flat (α : Type) [Dat α] [DecidableEq α] where
  v : α → V
  is : ∀ {W : Wld} {H : Hp} {u : V} {x : α}, Is W H u x → u = v x
  sc : ∀ x y : α, scal (v x) (v y) = true
  eq : ∀ x y : α, decide (v x = v y) = decide (x = y)
instance : Flat Int := ⟨V.int, fun h => h, fun _ _ => rfl, fun x y => by simp⟩
instance : Flat Bool := ⟨V.bl, fun h => h, fun _ _ => rfl, fun x y => by simp⟩
instance : Flat Str := ⟨V.str, fun h => h, fun _ _ => rfl, fun x y => by simp⟩
theorem ev_eqF [DecidableEq α] [Flat α] {x y : α} {ta tb : TE} (va : Ev W ta σ H (· = x)) (vb : Ev W tb σ H (· = y)) : Ev W (tOp rEq ta tb) σ H (· = decide (x = y)) :=
  fun H1 u hI Q q => va H1 u hI _ fun v H2 x' u2 i2 hx px => vb H2 (u.trans u2) i2 _ fun w H3 y' u3 i3 hy py => by
    subst px; subst py
    rw [Flat.is hx, Flat.is hy]
    exact ⟨Flat.sc _ _, by rw [Flat.eq]; exact q _ H3 _ (u2.trans u3) i3 rfl rfl⟩
theorem ev_neF [DecidableEq α] [Flat α] {x y : α} {ta tb : TE} (va : Ev W ta σ H (· = x)) (vb : Ev W tb σ H (· = y)) : Ev W (tOp rNe ta tb) σ H (· = !decide (x = y)) :=
  fun H1 u hI Q q => va H1 u hI _ fun v H2 x' u2 i2 hx px => vb H2 (u.trans u2) i2 _ fun w H3 y' u3 i3 hy py => by
    subst px; subst py
    rw [Flat.is hx, Flat.is hy]
    exact ⟨Flat.sc _ _, by rw [Flat.eq]; exact q _ H3 _ (u2.trans u3) i3 rfl rfl⟩
section
variable [DecidableEq α] [Flat α] {x y : α}
theorem tx_eq (ha : Dx X W a σ H (· = x)) (hb : Dx X W b σ H (· = y)) : Tx X W (.Compare a [.Eq] [b] pos) σ H (· = decide (x = y)) := let ⟨_, pa, va⟩ := ha; let ⟨_, pb, vb⟩ := hb; ⟨_, pt_cmpR op_eq pa pb (nomark _), ev_test (ev_eqF va vb)⟩
theorem tx_ne (ha : Dx X W a σ H (· = x)) (hb : Dx X W b σ H (· = y)) : Tx X W (.Compare a [.NotEq] [b] pos) σ H (· = !decide (x = y)) := let ⟨_, pa, va⟩ := ha; let ⟨_, pb, vb⟩ := hb; ⟨_, pt_cmpR op_ne pa pb (nomark _), ev_test (ev_neF va vb)⟩
theorem dx_eq (ha : Dx X W a σ H (· = x)) (hb : Dx X W b σ H (· = y)) : Dx X W (.Compare a [.Eq] [b] pos) σ H (· = decide (x = y)) := let ⟨_, pa, va⟩ := ha; let ⟨_, pb, vb⟩ := hb; ⟨_, pe_cmpR op_eq pa pb (nomark _), ev_eqF va vb⟩
theorem dx_ne (ha : Dx X W a σ H (· = x)) (hb : Dx X W b σ H (· = y)) : Dx X W (.Compare a [.NotEq] [b] pos) σ H (· = !decide (x = y)) := let ⟨_, pa, va⟩ := ha; let ⟨_, pb, vb⟩ := hb; ⟨_, pe_cmpR op_ne pa pb (nomark _), ev_neF va vb⟩
end
/-- kinds that == compares item by item -/
class PyD (α : Type) [Dat α] [DecidableEq α] where
  py : α → PyData
  dp : ∀ {K : PySem.W.Frag} {W : Wld} {H : Hp} {u : V} {x : α}, Is W H u x → Dp K H u (py x)
  lay : ∀ x : α, (py x).canLay0 = true
  dep : Nat
  le : ∀ x : α, (py x).depth ≤ dep
  eq : ∀ x y : α, PyData.eqv (py x) (py y) = decide (x = y)
instance : PyD Int := ⟨.int, fun h => by cases h; exact .int _, fun _ => rfl, 0, fun _ => Nat.le_refl _, fun x y => by unfold PyData.eqv; exact Bool.beq_eq_decide_eq x y⟩
instance : PyD Bool := ⟨.bool, fun h => by cases h; exact .bl _, fun _ => rfl, 0, fun _ => Nat.le_refl _, fun x y => by unfold PyData.eqv; exact Bool.beq_eq_decide_eq x y⟩
instance {α β : Type} [Dat α] [Dat β] [DecidableEq α] [DecidableEq β] [PyD α] [PyD β] : PyD (α × β) where
  py x := .tuple [PyD.py x.1, PyD.py x.2]
  dp h := by
    obtain ⟨p, u, w, rfl, n, e, h1, h2⟩ := h
    exact .tup (SqT.of e) (.cons (PyD.dp h1) (.cons (PyD.dp h2) .nil))
  lay x := by
    show (PyData.canLay0 _ && (PyData.canLay0 _ && true)) = true
    rw [PyD.lay, PyD.lay]
    rfl
  dep := max (PyD.dep α) (PyD.dep β) + 1
  le x := by
    have h1 := PyD.le x.1
    have h2 := PyD.le x.2
    show max (PyData.depth _) (max (PyData.depth _) 0) + 1 ≤ _
    omega
  eq x y := by
    show (PyData.eqv _ _ && (PyData.eqv _ _ && true)) = _
    rw [PyD.eq, PyD.eq, Bool.and_true]
    obtain ⟨x1, x2⟩ := x
    obtain ⟨y1, y2⟩ := y
    by_cases h1 : x1 = y1 <;> by_cases h2 : x2 = y2 <;> simp [h1, h2]
theorem dpAll_of {K : PySem.W.Frag} {H : Hp} [DecidableEq α] [PyD α] : ∀ {us : List V} {xs : List α}, Paired (fun u x => Is W H u x) us xs → DpAll K H us (xs.map PyD.py)
  | _, _, .nil => .nil
  | _, _, .cons h t => .cons (PyD.dp h) (dpAll_of t)
theorem eqvAll_of [DecidableEq α] [PyD α] : ∀ (xs ys : List α), PyData.eqvAll (xs.map PyD.py) (ys.map PyD.py) = decide (xs = ys)
  | [], [] => by simp [PyData.eqvAll]
  | [], _ :: _ => by simp [PyData.eqvAll]
  | _ :: _, [] => by simp [PyData.eqvAll]
  | x :: xs, y :: ys => by
    show (PyData.eqv _ _ && PyData.eqvAll _ _) = _
    rw [PyD.eq, eqvAll_of xs ys]
    by_cases h1 : x = y <;> by_cases h2 : xs = ys <;> simp [h1, h2]
theorem layAll_of [DecidableEq α] [PyD α] : ∀ (xs : List α), PyData.canLayAll0 (xs.map PyD.py) = true
  | [] => rfl
  | x :: xs => by
    show (PyData.canLay0 _ && PyData.canLayAll0 _) = true
    rw [PyD.lay, layAll_of xs]
    rfl
theorem depAll_of [DecidableEq α] [PyD α] : ∀ (xs : List α), PyData.depthAll (xs.map PyD.py) ≤ PyD.dep α
  | [] => Nat.zero_le _
  | x :: xs => by
    have h1 := PyD.le x
    have h2 := depAll_of xs
    show max (PyData.depth _) (PyData.depthAll _) ≤ _
    omega
instance {α : Type} [Dat α] [DecidableEq α] [PyD α] : PyD (List α) where
  py xs := .list (xs.map PyD.py)
  dp h := by
    obtain ⟨p, us, rfl, n, e, h1⟩ := h
    exact .lst (SqL.of e) (dpAll_of h1)
  lay xs := layAll_of xs
  dep := PyD.dep α + 1
  le xs := Nat.succ_le_succ (depAll_of xs)
  eq xs ys := eqvAll_of xs ys
theorem shaped_of [DecidableEq α] [PyD α] (hd : PyD.dep α ≤ 64) (x : α) : SeqAt.shaped (PyD.py x) = true := by
  unfold SeqAt.shaped
  rw [PyD.lay, decide_eq_true (Nat.le_trans (PyD.le x) hd)]
  rfl
theorem ev_eqD [DecidableEq α] [PyD α] {x y : α} {K : PySem.W.Frag} {ta tb : TE} (va : Ev W ta σ H (· = x)) (vb : Ev W tb σ H (· = y)) (hd : PyD.dep α ≤ 64) : Ev W (tOp (rEqD K) ta tb) σ H (· = decide (x = y)) :=
  fun H1 u hI Q q => va H1 u hI _ fun v H2 x' u2 i2 hx px => vb H2 (u.trans u2) i2 _ fun w H3 y' u3 i3 hy py => by
    subst px; subst py
    exact ⟨_, _, PyD.dp (Dat.up u3 hx), PyD.dp hy, shaped_of hd _, shaped_of hd _, by rw [PyD.eq]; exact q _ H3 _ (u2.trans u3) i3 rfl rfl⟩
theorem ev_neD [DecidableEq α] [PyD α] {x y : α} {K : PySem.W.Frag} {ta tb : TE} (va : Ev W ta σ H (· = x)) (vb : Ev W tb σ H (· = y)) (hd : PyD.dep α ≤ 64) : Ev W (tOp (rNeD K) ta tb) σ H (· = !decide (x = y)) :=
  fun H1 u hI Q q => va H1 u hI _ fun v H2 x' u2 i2 hx px => vb H2 (u.trans u2) i2 _ fun w H3 y' u3 i3 hy py => by
    subst px; subst py
    exact ⟨_, _, PyD.dp (Dat.up u3 hx), PyD.dp hy, shaped_of hd _, shaped_of hd _, by rw [PyD.eq]; exact q _ H3 _ (u2.trans u3) i3 rfl rfl⟩
section
variable [DecidableEq α] [PyD α] {x y : α}
theorem tx_eqD (hu : X.A.units + 64 < cLine) (ha : Dx X W a σ H (· = x)) (hb : Dx X W b σ H (· = y)) (hd : PyD.dep α ≤ 64 := by decide) : Tx X W (.Compare a [.Eq] [b] pos) σ H (· = decide (x = y)) := let ⟨_, pa, va⟩ := ha; let ⟨_, pb, vb⟩ := hb; ⟨_, pt_cmpR (op_eqD hu) pa pb (nomark _), ev_test (ev_eqD va vb hd)⟩
theorem tx_neD (hu : X.A.units + 64 < cLine) (ha : Dx X W a σ H (· = x)) (hb : Dx X W b σ H (· = y)) (hd : PyD.dep α ≤ 64 := by decide) : Tx X W (.Compare a [.NotEq] [b] pos) σ H (· = !decide (x = y)) := let ⟨_, pa, va⟩ := ha; let ⟨_, pb, vb⟩ := hb; ⟨_, pt_cmpR (op_neD hu) pa pb (nomark _), ev_test (ev_neD va vb hd)⟩
theorem dx_eqD (hu : X.A.units + 64 < cLine) (ha : Dx X W a σ H (· = x)) (hb : Dx X W b σ H (· = y)) (hd : PyD.dep α ≤ 64 := by decide) : Dx X W (.Compare a [.Eq] [b] pos) σ H (· = decide (x = y)) := let ⟨_, pa, va⟩ := ha; let ⟨_, pb, vb⟩ := hb; ⟨_, pe_cmpR (op_eqD hu) pa pb (nomark _), ev_eqD va vb hd⟩
end
/-! and, or, not -/
theorem tx_not {k : Bool} (h : Tx X W a σ H (· = k)) : Tx X W (.UnaryOp .Not a pos) σ H (· = !k) := let ⟨_, p, v⟩ := h; ⟨_, pt_not p, fun H1 u hI Q q => v H1 u hI _ fun b H2 u2 i2 hb => q (!b) H2 u2 i2 (by rw [hb])⟩
theorem txw_and1 {P : Bool → Prop} (h : Tx X W a σ H P) : Txw X W (.BoolOp .And [a] pos) σ H P := let ⟨_, p, v⟩ := h; ⟨_, pw_and1 p, v⟩
theorem txw_or1 {P : Bool → Prop} (h : Tx X W a σ H P) : Txw X W (.BoolOp .Or [a] pos) σ H P := let ⟨_, p, v⟩ := h; ⟨_, pw_or1 p, v⟩
/-- what is never asked need be nothing -/
theorem txw_and {k l : Bool} (h : Tx X W a σ H (· = k)) (h2 : k = true → Txw X W (.BoolOp .And (b :: rest) pos) σ H (· = l)) (hp : k = false → ∃ t, PW X (.BoolOp .And (b :: rest) pos) t) : Txw X W (.BoolOp .And (a :: b :: rest) pos) σ H (· = (k && l)) := by
  obtain ⟨_, p, v⟩ := h
  cases k with
  | true =>
    obtain ⟨_, p2, v2⟩ := h2 rfl
    exact ⟨_, pw_and p p2, fun H1 u hI Q q => v H1 u hI _ fun b' H2 u2 i2 hb => by
      subst hb
      exact v2 H2 (u.trans u2) i2 Q fun b3 H3 u3 i3 hb3 => q b3 H3 (u2.trans u3) i3 (by rw [hb3]; rfl)⟩
  | false =>
    obtain ⟨_, p2⟩ := hp rfl
    exact ⟨_, pw_and p p2, fun H1 u hI Q q => v H1 u hI _ fun b' H2 u2 i2 hb => by
      subst hb
      exact q false H2 u2 i2 rfl⟩
theorem txw_or {k l : Bool} (h : Tx X W a σ H (· = k)) (h2 : k = false → Txw X W (.BoolOp .Or (b :: rest) pos) σ H (· = l)) (hp : k = true → ∃ t, PW X (.BoolOp .Or (b :: rest) pos) t) : Txw X W (.BoolOp .Or (a :: b :: rest) pos) σ H (· = (k || l)) := by
  obtain ⟨_, p, v⟩ := h
  cases k with
  | false =>
    obtain ⟨_, p2, v2⟩ := h2 rfl
    exact ⟨_, pw_or p p2, fun H1 u hI Q q => v H1 u hI _ fun b' H2 u2 i2 hb => by
      subst hb
      exact v2 H2 (u.trans u2) i2 Q fun b3 H3 u3 i3 hb3 => q b3 H3 (u2.trans u3) i3 (by rw [hb3]; rfl)⟩
  | true =>
    obtain ⟨_, p2⟩ := hp rfl
    exact ⟨_, pw_or p p2, fun H1 u hI Q q => v H1 u hI _ fun b' H2 u2 i2 hb => by
      subst hb
      exact q true H2 u2 i2 rfl⟩
theorem Txw.tx {P : Bool → Prop} (h : Txw X W e σ H P) : Tx X W e σ H P := let ⟨_, p, v⟩ := h; ⟨_, p.pt, v⟩
/-- both always asked for their proof -/
theorem txw_and' {k l : Bool} (h : Tx X W a σ H (· = k)) (h2 : Txw X W (.BoolOp .And (b :: rest) pos) σ H (· = l)) : Txw X W (.BoolOp .And (a :: b :: rest) pos) σ H (· = (k && l)) := txw_and h (fun _ => h2) fun _ => let ⟨_, p, _⟩ := h2; ⟨_, p⟩
theorem txw_or' {k l : Bool} (h : Tx X W a σ H (· = k)) (h2 : Txw X W (.BoolOp .Or (b :: rest) pos) σ H (· = l)) : Txw X W (.BoolOp .Or (a :: b :: rest) pos) σ H (· = (k || l)) := txw_or h (fun _ => h2) fun _ => let ⟨_, p, _⟩ := h2; ⟨_, p⟩
/-- values -/
theorem dx_one {op} {P : α → Prop} (h : Dx X W a σ H P) : Dx X W (.BoolOp op [a] pos) σ H P := let ⟨_, p, v⟩ := h; ⟨_, pe_one p, v⟩
theorem dx_and {k l : Bool} (h : Dx X W a σ H (· = k)) (h2 : k = true → Dx X W (.BoolOp .And (b :: rest) pos) σ H (· = l)) (hp : k = false → ∃ t, PE X (.BoolOp .And (b :: rest) pos) t) : Dx X W (.BoolOp .And (a :: b :: rest) pos) σ H (· = (k && l)) := by
  obtain ⟨_, p, v⟩ := h
  cases k with
  | true =>
    obtain ⟨_, p2, v2⟩ := h2 rfl
    exact ⟨_, pe_and p p2, fun H1 u hI Q q => v H1 u hI _ fun v' H2 x u2 i2 hx hb => by
      subst hb
      exact ⟨true, hx, v2 H2 (u.trans u2) i2 Q fun v3 H3 b3 u3 i3 hx3 hb3 => q v3 H3 b3 (u2.trans u3) i3 hx3 (by rw [hb3]; rfl)⟩⟩
  | false =>
    obtain ⟨_, p2⟩ := hp rfl
    exact ⟨_, pe_and p p2, fun H1 u hI Q q => v H1 u hI _ fun v' H2 x u2 i2 hx hb => by
      subst hb
      exact ⟨false, hx, q (.bl false) H2 false u2 i2 rfl rfl⟩⟩
theorem dx_or {k l : Bool} (h : Dx X W a σ H (· = k)) (h2 : k = false → Dx X W (.BoolOp .Or (b :: rest) pos) σ H (· = l)) (hp : k = true → ∃ t, PE X (.BoolOp .Or (b :: rest) pos) t) : Dx X W (.BoolOp .Or (a :: b :: rest) pos) σ H (· = (k || l)) := by
  obtain ⟨_, p, v⟩ := h
  cases k with
  | false =>
    obtain ⟨_, p2, v2⟩ := h2 rfl
    exact ⟨_, pe_or p p2, fun H1 u hI Q q => v H1 u hI _ fun v' H2 x u2 i2 hx hb => by
      subst hb
      exact ⟨false, hx, v2 H2 (u.trans u2) i2 Q fun v3 H3 b3 u3 i3 hx3 hb3 => q v3 H3 b3 (u2.trans u3) i3 hx3 (by rw [hb3]; rfl)⟩⟩
  | true =>
    obtain ⟨_, p2⟩ := hp rfl
    exact ⟨_, pe_or p p2, fun H1 u hI Q q => v H1 u hI _ fun v' H2 x u2 i2 hx hb => by
      subst hb
      exact ⟨true, hx, q (.bl true) H2 true u2 i2 rfl rfl⟩⟩
theorem dx_and' {k l : Bool} (h : Dx X W a σ H (· = k)) (h2 : Dx X W (.BoolOp .And (b :: rest) pos) σ H (· = l)) : Dx X W (.BoolOp .And (a :: b :: rest) pos) σ H (· = (k && l)) := dx_and h (fun _ => h2) fun _ => let ⟨_, p, _⟩ := h2; ⟨_, p⟩
theorem dx_or' {k l : Bool} (h : Dx X W a σ H (· = k)) (h2 : Dx X W (.BoolOp .Or (b :: rest) pos) σ H (· = l)) : Dx X W (.BoolOp .Or (a :: b :: rest) pos) σ H (· = (k || l)) := dx_or h (fun _ => h2) fun _ => let ⟨_, p, _⟩ := h2; ⟨_, p⟩
theorem dx_not {k : Bool} (h : Dx X W a σ H (· = k)) : Dx X W (.UnaryOp .Not a pos) σ H (· = !k) := let ⟨_, p, v⟩ := h; ⟨_, pe_not p, fun H1 u hI Q q => v H1 u hI _ fun v' H2 x u2 i2 hx hb => ⟨x, hx, q _ H2 (!x) u2 i2 rfl (by rw [hb])⟩⟩
theorem dx_neg {i : Int} (h : Dx X W a σ H (· = i)) : Dx X W (.UnaryOp .USub a pos) σ H (· = -i) := let ⟨_, p, v⟩ := h; ⟨_, pe_un un_neg p, fun H1 u hI Q q => v H1 u hI _ fun v' H2 x u2 i2 hx hb => ⟨x, hx, q _ H2 (-x) u2 i2 rfl (by rw [hb])⟩⟩
theorem dx_if {k : Bool} {x : α} (h : Tx X W c σ H (· = k)) (h1 : k = true → Dx X W a σ H (· = x)) (h2 : k = false → Dx X W b σ H (· = x)) (p1 : k = false → ∃ t, PE X a t) (p2 : k = true → ∃ t, PE X b t) : Dx X W (.IfExp c a b pos) σ H (· = x) := by
  obtain ⟨_, p, v⟩ := h
  cases k with
  | true =>
    obtain ⟨_, pa, va⟩ := h1 rfl
    obtain ⟨_, pb⟩ := p2 rfl
    exact ⟨_, pe_ifExp p pa pb, fun H1 u hI Q q => v H1 u hI _ fun b' H2 u2 i2 hb => by
      subst hb
      exact va H2 (u.trans u2) i2 Q fun v3 H3 b3 u3 i3 hx3 hb3 => q v3 H3 b3 (u2.trans u3) i3 hx3 hb3⟩
  | false =>
    obtain ⟨_, pb, vb⟩ := h2 rfl
    obtain ⟨_, pa⟩ := p1 rfl
    exact ⟨_, pe_ifExp p pa pb, fun H1 u hI Q q => v H1 u hI _ fun b' H2 u2 i2 hb => by
      subst hb
      exact vb H2 (u.trans u2) i2 Q fun v3 H3 b3 u3 i3 hx3 hb3 => q v3 H3 b3 (u2.trans u3) i3 hx3 hb3⟩
theorem dx_ifB {k : Bool} {x y : α} (h : Tx X W c σ H (· = k)) (h1 : Dx X W a σ H (· = x)) (h2 : Dx X W b σ H (· = y)) : Dx X W (.IfExp c a b pos) σ H (· = if k = true then x else y) :=
  dx_if h (fun e => by rw [if_pos e]; exact h1) (fun e => by rw [if_neg (by rw [e]; exact Bool.false_ne_true)]; exact h2) (fun _ => let ⟨_, p, _⟩ := h1; ⟨_, p⟩) (fun _ => let ⟨_, p, _⟩ := h2; ⟨_, p⟩)
/-! ### statements -/
def Wss (X : Cx) (sts : List Stmt) (D : Ends) (σ : L2.St) (H : Hp) : Prop := ∃ t, PSs X sts t ∧ t D σ H
theorem wss_all {sts : List Stmt} : PSs X sts (fun D σ H => Wss X sts D σ H) := ⟨fun pins s σ H D I ⟨t, p, q⟩ => p.run pins s σ H D I q⟩
variable {D : Ends} {sts bd be : List Stmt}
theorem wss_nil (h : D.nx σ H) : Wss X [] D σ H := ⟨_, pss_nil, h⟩
theorem wss_never : False → Wss X sts D σ H := fun h => h.elim
theorem wss_set (i : Nat) {nm : Str} {P : α → Prop} {pos' : Pos} (he : Dx X W e σ H P) (hI : W.I H) (k : ∀ v H1 x, Up W H H1 → W.I H1 → Is W H1 v x → P x → Wss X sts D (σ.set i (some v)) H1) (nd : X.N.Nodup)
    (hi : X.N[i]? = some nm := by rfl) (hx : Loc X.env.scope nm := by first | exact Or.inl rfl | exact Or.inr rfl) (hs : swapsWith e (some (.Name nm pos')) pos.line X.env = pure false := by rfl) (hf : X.fn nm = true ∨ X.env.scope.names.lookup nm = some .local := by first | exact .inl rfl | exact .inr rfl) :
    Wss X (.Assign [.Name nm pos'] e pos :: sts) D σ H := by
  obtain ⟨te, pe, ev⟩ := he
  exact ⟨_, pss_cons (ps_set nd hi hx pe hs hf) wss_all, ev H (Up.refl _) hI _ fun v H1 x u i1 hx hp => k v H1 x u i1 hx hp⟩
theorem wss_ret {P : α → Prop} (he : Dx X W e σ H P) (hI : W.I H) (k : ∀ v H1 x, Up W H H1 → W.I H1 → Is W H1 v x → P x → D.rt v H1) : Wss X (.Return (some e) pos :: sts) D σ H := by
  obtain ⟨te, pe, ev⟩ := he
  exact ⟨_, pss_cons (ps_ret pe) wss_all, ev H (Up.refl _) hI _ fun v H1 x u i1 hx hp => k v H1 x u i1 hx hp⟩
theorem wss_if {P : Bool → Prop} (hc : Tx X W c σ H P) (hI : W.I H) (k : ∀ b H1, Up W H H1 → W.I H1 → P b → if b = true then Wss X bd { D with nx := fun σ' H' => Wss X sts D σ' H' } σ H1 else Wss X be { D with nx := fun σ' H' => Wss X sts D σ' H' } σ H1) : Wss X (.If c bd be pos :: sts) D σ H := by
  obtain ⟨tc, pc, ev⟩ := hc
  exact ⟨_, pss_cons (ps_if pc wss_all wss_all) wss_all, ev H (Up.refl _) hI _ fun b H1 u i1 hb => k b H1 u i1 hb⟩
/-- the answer is known -/
theorem wss_ifT {k : Bool} (hc : Tx X W c σ H (· = k)) (hI : W.I H) (hk : k = true) (q : ∀ H1, Up W H H1 → W.I H1 → Wss X bd { D with nx := fun σ' H' => Wss X sts D σ' H' } σ H1) : Wss X (.If c bd be pos :: sts) D σ H := wss_if hc hI fun b H1 u i1 hb => by
  subst hb
  rw [if_pos hk]
  exact q H1 u i1
theorem wss_ifF {k : Bool} (hc : Tx X W c σ H (· = k)) (hI : W.I H) (hk : k = false) (q : ∀ H1, Up W H H1 → W.I H1 → Wss X be { D with nx := fun σ' H' => Wss X sts D σ' H' } σ H1) : Wss X (.If c bd be pos :: sts) D σ H := wss_if hc hI fun b H1 u i1 hb => by
  subst hb
  rw [if_neg (by rw [hk]; exact Bool.false_ne_true)]
  exact q H1 u i1
theorem wss_ifF0 {k : Bool} (hc : Tx X W c σ H (· = k)) (hI : W.I H) (hk : k = false) (q : ∀ H1, Up W H H1 → W.I H1 → Wss X sts D σ H1) : Wss X (.If c bd [] pos :: sts) D σ H := wss_ifF hc hI hk fun H1 u i1 => wss_nil (q H1 u i1)
theorem wss_if2 {k : Bool} (hc : Tx X W c σ H (· = k)) (hI : W.I H) (h1 : k = true → ∀ H1, Up W H H1 → W.I H1 → Wss X bd { D with nx := fun σ' H' => Wss X sts D σ' H' } σ H1) (h2 : k = false → ∀ H1, Up W H H1 → W.I H1 → Wss X be { D with nx := fun σ' H' => Wss X sts D σ' H' } σ H1) :
    Wss X (.If c bd be pos :: sts) D σ H := by
  cases k with
  | true => exact wss_ifT hc hI rfl (h1 rfl)
  | false => exact wss_ifF hc hI rfl (h2 rfl)
/-- a, b = x, y -/
theorem wss_par (i j : Nat) {n1 n2 : Str} {P : α → Prop} {R : β → Prop} {p1 p2 pt pt2 : Pos} {kt k2} (ha : Dx X W a σ H P) (hb : Dx X W b σ H R) (hI : W.I H)
    (k : ∀ v w H1 x y, Up W H H1 → W.I H1 → Is W H1 v x → Is W H1 w y → P x → R y → Wss X sts D ((σ.set i (some v)).set j (some w)) H1) (hc : X.calm = true) (nd : X.N.Nodup) (hi : X.N[i]? = some n1 := by rfl) (hj : X.N[j]? = some n2 := by rfl) (hij : i ≠ j := by decide)
    (hx : X.env.scope.names.lookup n1 = some .local := by rfl) (hy : X.env.scope.names.lookup n2 = some .local := by rfl)
    (hw : swappedStores [.Tuple [.Name n1 p1, .Name n2 p2] kt pt] (.Tuple [a, b] k2 pt2) X.env = pure (some [n1, n2]) := by rfl)
    (hs : swapsWithSole [.Tuple [.Name n1 p1, .Name n2 p2] kt pt] (.Tuple [a, b] k2 pt2) pos.line X.env = pure false := by rfl)
    (e1 : starEach (a :: [b]) X.env = (false, eval a X.env) :: starEach [b] X.env := by rfl) (e2 : starEach (b :: []) X.env = (false, eval b X.env) :: starEach [] X.env := by rfl) :
    Wss X (.Assign [.Tuple [.Name n1 p1, .Name n2 p2] kt pt] (.Tuple [a, b] k2 pt2) pos :: sts) D σ H := by
  obtain ⟨ta, pa, va⟩ := ha
  obtain ⟨tb, pb, vb⟩ := hb
  refine ⟨_, pss_cons (ps_par hc nd hi hj hij hx hy (pa_cons pa (pa_cons pb pa_nil e2) e1) hw hs) wss_all, va H (Up.refl _) hI _ fun v H1 x u1 i1 h1 px => vb H1 u1 i1 _ fun w H2 y u2 i2 h2 py => ⟨v, w, rfl, ?_⟩⟩
  exact k v w H2 x y (u1.trans u2) i2 (Dat.up u2 h1) h2 px py
end
end Inn
set_option Elab.async false
set_option linter.all false
set_option maxRecDepth 100000
set_option maxHeartbeats 4000000
namespace PySem
open Sem (wp)
open Builtin
section
variable (a : Int) (t : Tok) (l C dx : Addr)
theorem own_int_add : Meets (Builtin.«int.__add__» ⟨[.int a t, .ref l], []⟩) (fun _ R s => s.heap.get? l = some (PySem.W.instObj C dx) ∧ R (.ok (.ret Value.notImplemented)) s) :=
  .of_wp fun prog w A R s h => by obtain ⟨hp, g, d, tk, os⟩ := s; obtain ⟨hl, h⟩ := h; wp_walk; exact ⟨_, rfl, h⟩
theorem own_int_sub : Meets (Builtin.«int.__sub__» ⟨[.int a t, .ref l], []⟩) (fun _ R s => s.heap.get? l = some (PySem.W.instObj C dx) ∧ R (.ok (.ret Value.notImplemented)) s) :=
  .of_wp fun prog w A R s h => by obtain ⟨hp, g, d, tk, os⟩ := s; obtain ⟨hl, h⟩ := h; wp_walk; exact ⟨_, rfl, h⟩
theorem own_int_mul : Meets (Builtin.«int.__mul__» ⟨[.int a t, .ref l], []⟩) (fun _ R s => s.heap.get? l = some (PySem.W.instObj C dx) ∧ R (.ok (.ret Value.notImplemented)) s) :=
  .of_wp fun prog w A R s h => by obtain ⟨hp, g, d, tk, os⟩ := s; obtain ⟨hl, h⟩ := h; wp_walk; exact ⟨_, rfl, h⟩
theorem own_int_eq : Meets (Builtin.«int.__eq__» ⟨[.int a t, .ref l], []⟩) (fun _ R s => s.heap.get? l = some (PySem.W.instObj C dx) ∧ R (.ok (.ret Value.notImplemented)) s) :=
  .of_wp fun prog w A R s h => by obtain ⟨hp, g, d, tk, os⟩ := s; obtain ⟨hl, h⟩ := h; wp_walk; exact ⟨_, rfl, h⟩
end
namespace W
open PySem.Calls PyProof.Rows
section
variable {prog : Program} {w : World} {A : Around} {E : Value → Shared → Prop} {s : Shared} {K : Frag} {x C f f0 : Addr} {ox : Obj} {od : Option Obj} {i : Int} {t : Tok} {b : Value}
/-- int op own instance: the instance's reflected def -/
theorem rop_int {op : Operator} {idl : String} {Q : Value → Shared → Prop} (X : K.In s.heap) (I : InstAt s.heap x ox C od) (hc : selfFirst K C = true)
    (h0 : findIn K (.ref C) (PySem.dunder op.info.2) = some (some (.ref f0))) (hs : findIn K (.ref C) (dunderR op.info.2) = some (some (.ref f))) (hf : isFn K (.ref f) = true) (hsub : subIn K (.ref C) (.type "int") = some false)
    (hfT : fillsNumberSlot (.type "int") op.info.2 = pure true) (slot : Slot "int" (PySem.dunder op.info.2) idl)
    (hd : ∀ Q : Value → Shared → Prop, Q .notImplemented s → wpAny (model prog w) A (call (.builtin idl) [.int i t, .ref x]) Q E s)
    (h : wpAny (model prog w) A (call (.ref f) [.ref x, .int i t]) (CmpBack Q) E s) : wpAny (model prog w) A (binaryOp op (.int i t) (.ref x)) Q E s := by
  obtain ⟨cd, rest, hcd, hm⟩ := ksp_first hc
  rcases hi : op.info with ⟨sym, nm'⟩
  rw [hi] at h0 hs hfT slot
  dsimp only at h0 hs hfT slot
  have one := ksp_try X I hs hf h
  have two : ∀ Q : Option Value → Shared → Prop, Q none s → wpAny (model prog w) A (tryMethod (.int i t) (PySem.dunder nm') (.ref x)) Q E s := fun Q q => wpAny_tryMethod_declines (typeIs_int _ _ _) slot (hd _ ⟨rfl, q⟩)
  have L3 : Looks (model prog w) s.heap (fillsNumberSlot (.ref C) nm') true := fills_K X hcd hm h0
  have L5 : Looks (model prog w) s.heap (isSubtype (.ref C) (.type "int")) false := looks_subIn X hsub
  have hne : (Value.type "int" == Value.ref C) = false := Bool.eq_false_iff.mpr fun q => by cases beq_iff_eq.mp q
  simp only [binaryOp, hi]
  refine wpAny_holding (wpAny_bind ?_)
  unfold binaryOp1
  refine wpAny_bind (wpAny_typeOf (typeIs_int _ _ _) (wpAny_bind (I.type.here (wpAny_bind (wpAny_of_eq hfT ?_)))))
  simp only [hne, Bool.false_eq_true, if_false]
  refine wpAny_bind (L3.here ?_)
  simp only [Bool.and_self, if_true]
  refine wpAny_bind (L5.here ?_)
  have hpy : numberSlotInPython (.type "int") nm' = pure false := rfl
  simp only [Bool.false_eq_true, if_false, pure_bind, Bool.not_false, Bool.and_self, if_true, hpy]
  refine wpAny_bind (two _ ?_)
  refine wpAny_bind (wpAny_mono one (fun r s' hr' => ?_) fun _ _ e => e)
  obtain ⟨v, rfl, hq⟩ := hr'
  exact wpAny_bind (wpAny_rule (wpAny_pure (wpAny_pure hq)))
/-- object.__ne__ of an instance with its own __eq__ -/
theorem ne_call {Q : Value → Shared → Prop} (hu : A.in1.units < cLine) (X : K.In s.heap) (I : InstAt s.heap x ox C od) (hm : mroIn K C (.type "object") = some true) (he : findIn K (.ref C) "__eq__" = some (some (.ref f))) (hf : isFn K (.ref f) = true)
    (h : wpAny (model prog w) A.in1 (call (.ref f) [.ref x, b]) (fun v s' => ∃ k, v = .bool k ∧ Q (.bool (!k)) s') E s) : wpAny (model prog w) A (call (.builtin "object.__ne__") [.ref x, b]) Q E s := by
  refine wpAny_call (codeAny_call_builtin (by decide +kernel) F.cmpEntry_ne (check_slot (i := "object.__ne__") (owner := "object") (n := "__ne__") (by decide +kernel) (by decide +kernel) (I.type.andThen (looks_mroIn X hm)) (F.cmpArgs_ne _ _) ?_))
  unfold Builtin.«object.__ne__»
  repeat (first
    | with_reducible refine wpAny_cRoomFor hu ?_
    | (refine wpAny_bind (m := callSpecialIfBound? (.ref x) (Str.ofString "__eq__") [b])
        (ifBound_K X I he hf (wpAny_mono h (fun r s' hr => by
          obtain ⟨k, rfl, hq⟩ := hr
          repeat (first | exact hq | exact wpAny_pure hq | exact wpAny_truthy_bool hq | (refine wpAny_bind (m := truthy (.bool _)) (wpAny_truthy_bool ?_)) | wp_step)) fun _ _ e => e)))
    | wp_step)
theorem bind_objne (self : Value) : bindSpecial (.builtin "object.__ne__") self = pure (.builtin "object.__ne__", [self]) := F.cmp_object.ne.bind self
theorem ifBound_B {M : Model} {id : String} {name : Str} {args : List Value} {Q : Option Value → Shared → Prop} (X : K.In s.heap) (I : InstAt s.heap x ox C od) (hs : findIn K (.ref C) name = some (some (.builtin id))) (hb : ∀ self, bindSpecial (.builtin id) self = pure (.builtin id, [self]))
    (h : wpAny M A (call (.builtin id) (.ref x :: args)) (fun v => Q (some v)) E s) : wpAny M A (callSpecialIfBound? (.ref x) name args) Q E s := by
  simp only [callSpecialIfBound?, bindSpecialIfBound?]
  refine wpAny_holding (wpAny_bind (wpAny_bind (wpAny_bind (I.type.here ((looks_findIn X hs).here ?_)))))
  simp only [hb]
  refine wpAny_bind (wpAny_askSetting (wpAny_ite ?_))
  have fin : wpAny M A (call (.builtin id) ([.ref x] ++ args) >>= fun v => pure (some v)) Q E s := wpAny_bind (wpAny_mono h (fun v s' h' => wpAny_pure h') fun _ _ h' => h')
  split
  · exact wpAny_bind (wpAny_pure (wpAny_pure (by exact fin)))
  · exact wpAny_tryCatch (wpAny_bind (wpAny_pure (wpAny_pure (by exact fin))))
/-- own != by the own == -/
theorem ne_K {tb : Value} {Q : Value → Shared → Prop} (hu : A.units + 1 < cLine) (X : K.In s.heap) (I : InstAt s.heap x ox C od) (hb : Looks (model prog w) s.heap (typeOf b) tb) (hn : notFirst K C tb = true)
    (hs : findIn K (.ref C) "__ne__" = some (some (.builtin "object.__ne__"))) (hm : mroIn K C (.type "object") = some true) (he : findIn K (.ref C) "__eq__" = some (some (.ref f))) (hf : isFn K (.ref f) = true)
    (h : wpAny (model prog w) A.in1 (call (.ref f) [.ref x, b]) (fun v s' => ∃ k, v = .bool k ∧ Q (.bool (!k)) s') E s) : wpAny (model prog w) A (richCompare .NotEq (.ref x) b) Q E s := by
  have one : wpAny (model prog w) A (tryCompare (.ref x) "__ne__" b) (fun r s' => ∃ v, r = some v ∧ Q v s') E s := by
    unfold tryCompare
    refine wpAny_bind (ifBound_B X I hs bind_objne (ne_call (by show A.units + 1 < cLine; exact hu) X I hm he hf (wpAny_mono h (fun v s' hv => ?_) fun _ _ e => e)))
    obtain ⟨k, e, hq⟩ := hv
    exact ⟨k, e, wpAny_pure ⟨_, rfl, hq⟩⟩
  unfold richCompare
  simp only [oneThing_ref]
  refine wpAny_holding (wpAny_bind (wpAny_cRoomFor (Nat.lt_of_succ_lt hu) ?_))
  rw [cmpInfo_NotEq]
  dsimp only
  refine wpAny_bind (I.type.here (wpAny_bind (hb.here ?_)))
  split
  · rename_i q
    have e : subIn K tb (.ref C) = some false := by
      rcases Bool.or_eq_true_iff.mp hn with e | e
      · rw [beq_iff_eq.mp e] at q; simp at q
      · exact beq_iff_eq.mp e
    refine wpAny_bind ((looks_subIn X e).here ?_)
    simp only [Bool.false_eq_true, if_false]
    refine wpAny_bind (wpAny_mono one (fun r s' z => ?_) fun _ _ e => e)
    obtain ⟨v, rfl, hq⟩ := z
    exact wpAny_pure hq
  · refine wpAny_bind (wpAny_pure ?_)
    simp only [Bool.false_eq_true, if_false]
    refine wpAny_bind (wpAny_mono one (fun r s' z => ?_) fun _ _ e => e)
    obtain ⟨v, rfl, hq⟩ := z
    exact wpAny_pure hq
/-- int == own instance: the instance's == -/
theorem eq_int_own {Q : Value → Shared → Prop} (hu : A.units < cLine) (X : K.In s.heap) (I : InstAt s.heap x ox C od) (hs : findIn K (.ref C) "__eq__" = some (some (.ref f))) (hf : isFn K (.ref f) = true) (hsub : subIn K (.ref C) (.type "int") = some false)
    (hd : ∀ Q : Value → Shared → Prop, Q .notImplemented s → wpAny (model prog w) A (call (.builtin "int.__eq__") [.int i t, .ref x]) Q E s)
    (h : wpAny (model prog w) A (call (.ref f) [.ref x, .int i t]) (CmpBack Q) E s) : wpAny (model prog w) A (richCompare .Eq (.int i t) (.ref x)) Q E s := by
  have one : wpAny (model prog w) A (tryCompare (.ref x) "__eq__" (.int i t)) (fun r s' => ∃ v, r = some v ∧ Q v s') E s := by
    unfold tryCompare
    refine wpAny_bind (ifBound_K X I hs hf (wpAny_mono h (fun v s' hv => ?_) fun _ _ e => e))
    cases v <;> first | exact hv.elim | exact wpAny_pure ⟨_, rfl, hv⟩
  have two : ∀ Q : Option Value → Shared → Prop, Q none s → wpAny (model prog w) A (tryCompare (.int i t) "__eq__" (.ref x)) Q E s := fun Q q => by
    unfold tryCompare
    exact wpAny_bind (wpAny_callSpecialIfBound?_slot (typeIs_int _ _ _) F.slot_int_eq (hd _ (wpAny_pure q)))
  have L5 : Looks (model prog w) s.heap (isSubtype (.ref C) (.type "int")) false := looks_subIn X hsub
  unfold richCompare
  simp only [oneThing?]
  refine wpAny_holding (wpAny_bind (wpAny_cRoomFor hu ?_))
  simp only [cmpInfo]
  refine wpAny_bind (wpAny_typeOf (typeIs_int _ _ _) (wpAny_bind (I.type.here ?_)))
  have hne : (Value.type "int" != Value.ref C) = true := bne_iff_ne.mpr fun q => nomatch q
  have hne2 : (Value.ref C != Value.type "int") = true := bne_iff_ne.mpr fun q => nomatch q
  simp only [hne, hne2, if_true]
  refine wpAny_bind (L5.here ?_)
  simp only [Bool.false_eq_true, if_false, Bool.not_false, if_true]
  refine wpAny_bind (two _ ?_)
  refine wpAny_bind (wpAny_mono one (fun r s' z => ?_) fun _ _ e => e)
  obtain ⟨v, rfl, hq⟩ := z
  exact wpAny_pure hq
end
end W
end PySem
set_option Elab.async false
set_option linter.all false
set_option maxRecDepth 100000
set_option maxHeartbeats 4000000
namespace Inn
open PySem L2 PySem.Spec PyProof.Rows
open Dat (Is)
/-! ### promises over data -/
def SpF {A β : Type} [DArgs A] [Dat β] (pre : A → Prop) (R : A → β → Prop) : Sp := fun vs H Q _ => ∃ (W : Wld) (a : A), DArgs.Is W H vs a ∧ W.I H ∧ pre a ∧ ∀ u H' y, Up W H H' → W.I H' → Is W H' u y → R a y → Q u H'
theorem spF_len {A β : Type} [DArgs A] [Dat β] {pre : A → Prop} {R : A → β → Prop} {vs : List V} {H : Hp} {Q : VK} {E : XK} (h : SpF pre R vs H Q E) : vs.length = DArgs.n A := by
  obtain ⟨W, a, h1, _⟩ := h
  exact DArgs.len h1
/-- a def of the module -/
structure Def (P : Program) (w : World) (K : PySem.W.Frag) (mg : Str → Option Value) (base : Heap) (k : Nat) (nm : Str) (ps : List Str) (sp : Sp) : Prop where
  ex : ∃ f fd, FnOk P w K mg base CX0 k f fd ps sp ∧ mg nm = some (.ref f) ∧ PySem.W.keepIn K (.ref f) = true ∧ Binds K fd ps []
theorem Def.mono {P : Program} {w : World} {K : PySem.W.Frag} {mg : Str → Option Value} {base : Heap} {j k : Nat} {nm : Str} {ps : List Str} {sp : Sp} (d : Def P w K mg base j nm ps sp) (h : j ≤ k) : Def P w K mg base k nm ps sp :=
  let ⟨f, fd, F, a, b, c⟩ := d.ex
  ⟨f, fd, F.mono h, a, b, c⟩
/-- a method of the class at C -/
structure MDef (P : Program) (w : World) (K : PySem.W.Frag) (mg : Str → Option Value) (base : Heap) (k : Nat) (C : Addr) (nm : Str) (ps : List Str) (sp : Sp) : Prop where
  ex : ∃ f fd, FnOk P w K mg base CX0 k f fd ps sp ∧ Meth K C nm f ∧ Binds K fd ps []
/-- a property -/
structure PDef (P : Program) (w : World) (K : PySem.W.Frag) (mg : Str → Option Value) (base : Heap) (k : Nat) (C : Addr) (nm : Str) (sp : Sp) : Prop where
  ex : ∃ p g fd, FnOk P w K mg base CX0 k g fd ["self"] sp ∧ PropOf K C nm p g ∧ Binds K fd ["self"] []
section
variable {α β γ A : Type} [Dat α] [Dat β] [Dat γ] [DArgs A]
variable {X : Cx} {W : Wld} {σ : L2.St} {H : Hp} {pos p apos : Pos} {a b c e o : Expr} {es rest : List Expr} {k : Nat} {nm : Str} {ps : List Str} {pre : A → Prop} {R : A → β → Prop} {C : Addr}
theorem ev_spF {ta : TA} {P : A → Prop} (va : EvA W ta σ H P) (hp : ∀ a, P a → pre a) {E : XK} : Ev W (tCall (SpF pre R) [] E ta) σ H (fun y => ∃ a, P a ∧ R a y) := fun H1 u hI Q q => va H1 u hI _ fun vs H2 a u2 i2 ha pa => by
  rw [List.append_nil]
  exact ⟨W, a, ha, i2, hp a pa, fun w H3 y u3 i3 hy ry => q w H3 y (u2.trans u3) i3 hy ⟨a, pa, ry⟩⟩
theorem dx_callP {P : A → Prop} (B : Def X.prog X.w X.K X.mg X.base k nm ps (SpF pre R)) (hr : Room k X.A) (ha : Ax X W (e :: es) σ H P) (hp : ∀ a, P a → pre a) (hg : Gl X nm := by rfl) (hdb : (nm == ("__debug__" : Str)) = false := by decide)
    (he : starEach (e :: es) X.env = (false, eval e X.env) :: starEach es X.env := by rfl) (hpl : (backTo pos (starEach es X.env)).any (·.1) = false := by rfl) : Dx X W (.Call (.Name nm p) (e :: es) [] pos) σ H (fun y => ∃ a, P a ∧ R a y) := by
  obtain ⟨f, fd, F, hm, hk, hb⟩ := B.ex
  obtain ⟨ta, pa, va⟩ := ha
  exact ⟨_, pe_call (E := E0) F hr hg hm hk hb .nil pass0 pa hdb he hpl, ev_spF va hp⟩
theorem dx_call {x : A} (B : Def X.prog X.w X.K X.mg X.base k nm ps (SpF pre R)) (hr : Room k X.A) (ha : Ax X W (e :: es) σ H (· = x)) (hp : pre x) (hg : Gl X nm := by rfl) (hdb : (nm == ("__debug__" : Str)) = false := by decide)
    (he : starEach (e :: es) X.env = (false, eval e X.env) :: starEach es X.env := by rfl) (hpl : (backTo pos (starEach es X.env)).any (·.1) = false := by rfl) : Dx X W (.Call (.Name nm p) (e :: es) [] pos) σ H (R x) :=
  (dx_callP B hr ha (fun a pa => pa ▸ hp) hg hdb he hpl).imp fun y hy => by
    obtain ⟨a, pa, ry⟩ := hy
    exact pa ▸ ry
theorem dx_call0 {pre : Nil → Prop} {R : Nil → β → Prop} (B : Def X.prog X.w X.K X.mg X.base k nm ps (SpF pre R)) (hr : Room k X.A) (hI0 : True) (hp : pre ⟨⟩) (hg : Gl X nm := by rfl) (hdb : (nm == ("__debug__" : Str)) = false := by decide) :
    Dx X W (.Call (.Name nm p) [] [] pos) σ H (R ⟨⟩) := by
  obtain ⟨f, fd, F, hm, hk, hb⟩ := B.ex
  exact ⟨_, pe_call0 (E := E0) F hr hg hm hk hb .nil pass0 hdb, fun H1 u hI Q q => ⟨W, ⟨⟩, rfl, hI, hp, fun w H3 y u3 i3 hy ry => q w H3 y u3 i3 hy ry⟩⟩
end
/-! ### the body of a def -/
theorem fn_body {A β : Type} [DArgs A] [Dat β] {pre : A → Prop} {R : A → β → Prop} {P : Program} {w : World} {K : PySem.W.Frag} {mg : Str → Option Value} {base : Heap} {x qual : Str} {st : Stmt} {f : Addr} {fd : FuncData} {N ps : List Str} {k : Nat}
    (F : Fun K x qual st f fd) (S : FnScope N ps (defScope st)) (hn : DArgs.n A = ps.length)
    (body : ∀ (cdv : Value) (A' : Around) (outer : List Env) (s : Shared) (H : Hp) (E : XK) (W : Wld) (vs : List V) (a : A) (Q : VK), Room k (A'.deeper (envOfC qual (defScope st) s.heap.objs.size f cdv)) → DArgs.Is W H vs a → W.I H → pre a →
      (∀ u H' y, Up W H H' → W.I H' → Is W H' u y → R a y → Q u H') → Wss (cxOf CX0 P w K mg base N qual (defScope st) f cdv A' outer s H E).nox (defBody st) { nx := fun _ H' => Q .non H', rt := Q } (start N vs) H) :
    FnOk P w K mg base CX0 (k + 1) f fd ps (SpF pre R) :=
  F.ok S (fun vs H Q E h => (spF_len h).trans hn) fun cdv A' outer s H vs Q E hr ⟨W, a, h1, hI, hp, q⟩ => body cdv A' outer s H E W vs a Q hr h1 hI hp q
/-! ### values of any kind -/
inductive Vd (C : Addr) where
  | int (i : Int) | bl (b : Bool) | non | str (x : Str) | rat (x : Rt C) | lst | tup | dct
instance {C : Addr} : Dat (Vd C) where
  Is W H v x := match x with
    | .int i => v = .int i
    | .bl b => v = .bl b
    | .non => v = .non
    | .str z => v = .str z
    | .rat r => Is W H v r
    | .lst => ∃ p us, v = .ref p ∧ ¬ W.M p ∧ H p = some (.lst us)
    | .tup => ∃ p us, v = .ref p ∧ ¬ W.M p ∧ H p = some (.tup us)
    | .dct => ∃ p us, v = .ref p ∧ ¬ W.M p ∧ H p = some (.dK us)
  up e h := by
    rename_i x
    cases x with
    | int i => exact h
    | bl b => exact h
    | non => exact h
    | str z => exact h
    | rat r => exact Dat.up (α := Rt C) e h
    | lst => obtain ⟨p, us, e1, n, e2⟩ := h; exact ⟨p, us, e1, n, e p _ n e2⟩
    | tup => obtain ⟨p, us, e1, n, e2⟩ := h; exact ⟨p, us, e1, n, e p _ n e2⟩
    | dct => obtain ⟨p, us, e1, n, e2⟩ := h; exact ⟨p, us, e1, n, e p _ n e2⟩
/-- a NUMBER -/
inductive Nm (C : Addr) where
  | i (n : Int) | r (x : Rt C)
namespace Nm
variable {C : Addr}
def t : Nm C → Int
  | .i n => n
  | .r x => x.t
def b : Nm C → Int
  | .i _ => 1
  | .r x => x.b
def vd : Nm C → Vd C
  | .i n => .int n
  | .r x => .rat x
end Nm
instance {C : Addr} : Dat (Nm C) where
  Is W H v x := match x with
    | .i n => v = .int n
    | .r y => Is W H v y
  up e h := by
    rename_i x
    cases x with
    | i n => exact h
    | r y => exact Dat.up (α := Rt C) e h
section
variable {X : Cx} {W : Wld} {σ : L2.St} {H : Hp} {pos p apos : Pos} {a b c e o : Expr} {C : Addr} {α β : Type} [Dat α] [Dat β]
/-- one kind of data as another -/
theorem Dx.as {P : α → Prop} {R : β → Prop} (h : Dx X W e σ H P) (f : α → β) (hf : ∀ {H v x}, Is W H v x → P x → Is W H v (f x) ∧ R (f x)) : Dx X W e σ H R :=
  let ⟨te, pe, ev⟩ := h
  ⟨te, pe, fun H1 u hI Q q => ev H1 u hI Q fun v H2 x u2 i2 hx px => q v H2 (f x) u2 i2 (hf hx px).1 (hf hx px).2⟩
theorem dx_nmI {i : Int} (h : Dx X W e σ H (· = i)) : Dx X W e σ H (fun y : Nm C => y = .i i) := h.as Nm.i fun hx px => by subst px; exact ⟨hx, rfl⟩
theorem dx_nmR {r : Rt C} (h : Dx X W e σ H (· = r)) : Dx X W e σ H (fun y : Nm C => y = .r r) := h.as Nm.r fun hx px => by subst px; exact ⟨hx, rfl⟩
theorem dx_vdN {n : Nm C} (h : Dx X W e σ H (· = n)) : Dx X W e σ H (fun y : Vd C => y = n.vd) := h.as Nm.vd fun {H v x} hx px => by
  subst px
  cases x with
  | i n => exact ⟨hx, rfl⟩
  | r y => exact ⟨hx, rfl⟩
theorem dx_vdI {i : Int} (h : Dx X W e σ H (· = i)) : Dx X W e σ H (fun y : Vd C => y = .int i) := h.as Vd.int fun hx px => by subst px; exact ⟨hx, rfl⟩
theorem dx_vdB {i : Bool} (h : Dx X W e σ H (· = i)) : Dx X W e σ H (fun y : Vd C => y = .bl i) := h.as Vd.bl fun hx px => by subst px; exact ⟨hx, rfl⟩
theorem dx_vdS {i : Str} (h : Dx X W e σ H (· = i)) : Dx X W e σ H (fun y : Vd C => y = .str i) := h.as Vd.str fun hx px => by subst px; exact ⟨hx, rfl⟩
theorem dx_vdU {i : Unit} (h : Dx X W e σ H (· = i)) : Dx X W e σ H (fun y : Vd C => y = .non) := h.as (fun _ => Vd.non) fun hx px => ⟨hx, rfl⟩
theorem dx_vdR {i : Rt C} (h : Dx X W e σ H (· = i)) : Dx X W e σ H (fun y : Vd C => y = .rat i) := h.as Vd.rat fun hx px => by subst px; exact ⟨hx, rfl⟩
theorem dx_vdL {P : List α → Prop} (h : Dx X W e σ H P) : Dx X W e σ H (fun y : Vd C => y = .lst) := h.as (fun _ => Vd.lst) fun hx _ => by
  obtain ⟨p, us, e1, n, e2, _⟩ := hx
  exact ⟨⟨p, us, e1, n, e2⟩, rfl⟩
theorem dx_vdT {P : α × β → Prop} (h : Dx X W e σ H P) : Dx X W e σ H (fun y : Vd C => y = .tup) := h.as (fun _ => Vd.tup) fun hx _ => by
  obtain ⟨p, us, ws, e1, n, e2, _⟩ := hx
  exact ⟨⟨p, _, e1, n, e2⟩, rfl⟩
end
/-! ### isinstance -/
/-- what the class at C is to the built-in ones -/
structure Own (K : PySem.W.Frag) (C : Addr) : Prop where
  cl : Cls K C
  ha : PySem.W.findIn K (.ref C) "__class__" = some (some (.builtin "object.__class__"))
  hn : PySem.W.specialIn K (.builtin "object.__class__") "__get__" = some (some (.builtin "getset_descriptor.__get__"))
  htk : PySem.W.takesIn K (.builtin "object.__class__") = some true
  hm : PySem.W.mroIn K C (.type "object") = some true
  kint : PySem.W.kitOne K (.ref C) (.type "int") = some false
  kbl : PySem.W.kitOne K (.ref C) (.type "bool") = some false
  klst : PySem.W.kitOne K (.ref C) (.type "list") = some false
  ktup : PySem.W.kitOne K (.ref C) (.type "tuple") = some false
  self : PySem.W.kitOne K (.ref C) (.ref C) = some true
  ty : ∀ T ∈ ["int", "bool", "NoneType", "str", "list", "tuple", "dict"], PySem.W.kitOne K (.type T) (.ref C) = some false
def Vd.tyv {C : Addr} : Vd C → Value
  | .int _ => .type "int" | .bl _ => .type "bool" | .non => .type "NoneType" | .str _ => .type "str" | .rat _ => .ref C | .lst => .type "list" | .tup => .type "tuple" | .dct => .type "dict"
theorem ty_of {K : PySem.W.Frag} {C : Addr} (O : Own K C) {W : Wld} {H : Hp} {v : V} {x : Vd C} (h : Is W H v x) : TyX K H v x.tyv := by
  cases x with
  | int i => cases h; exact .base (.int i)
  | bl b => cases h; exact .base (.bl b)
  | non => cases h; exact .base .non
  | str z => cases h; exact .base (.str z)
  | rat r => obtain ⟨p, dx, rfl, n, e⟩ := h; exact .base (.ins e O.cl O.ha O.hn O.htk O.hm)
  | lst => obtain ⟨p, us, rfl, n, e⟩ := h; exact .base (.lst e)
  | tup => obtain ⟨p, us, rfl, n, e⟩ := h; exact .base (.tup e)
  | dct => obtain ⟨p, us, rfl, n, e⟩ := h; exact .base (.dK e)
def Vd.isInt {C : Addr} : Vd C → Bool
  | .int _ => true
  | .bl _ => true
  | _ => false
def Vd.isBl {C : Addr} : Vd C → Bool
  | .bl _ => true
  | _ => false
def Vd.isRat {C : Addr} : Vd C → Bool
  | .rat _ => true
  | _ => false
section
variable {X : Cx} {W : Wld} {σ : L2.St} {H : Hp} {pos p p2 : Pos} {e : Expr} {C : Addr} {x : Vd C}
theorem dx_isi {b : Bool} {c : V} {u : Value} {e2 : Expr} (O : Own X.K C) (h : Dx X W e σ H (· = x)) (pe2 : PE X e2 (tC c)) (hu : ClsV c u) (hk : ∀ t, TyX X.K H c t → True) (hm : X.mg "isinstance" = none)
    (kit : PySem.W.kitOne X.K x.tyv u = some b)
    (hg : Gl X "isinstance" := by rfl) (hs : starEach (e :: [e2]) X.env = (false, eval e X.env) :: starEach [e2] X.env := by rfl) (hs2 : starEach (e2 :: []) X.env = (false, eval e2 X.env) :: starEach [] X.env := by rfl) (hpl : (backTo pos (starEach [e2] X.env)).any (·.1) = false := by rfl) :
    Dx X W (.Call (.Name "isinstance" p) [e, e2] [] pos) σ H (· = b) := by
  obtain ⟨te, pe, ev⟩ := h
  refine ⟨_, pe_callB call_isi hg hm (by decide +kernel) (pa_cons pe (pa_cons pe2 pa_nil hs2) hs) (he := hs) (hpl := hpl), fun H1 u1 hI Q q => ev H1 u1 hI _ fun v H2 y u2 i2 hy py => ?_⟩
  subst py
  exact ⟨v, c, _, u, b, rfl, hu, ty_of O hy, kit, q _ H2 b u2 i2 rfl rfl⟩
theorem dx_isInt (O : Own X.K C) (h : Dx X W e σ H (· = x)) (hm : X.mg "isinstance" = none) (hi : X.mg "int" = none) (hg : Gl X "isinstance" := by rfl) (hgi : Gl X "int" := by rfl) (hs : starEach (e :: [.Name "int" p2]) X.env = (false, eval e X.env) :: starEach [.Name "int" p2] X.env := by rfl)
    (hs2 : starEach (.Name "int" p2 :: []) X.env = (false, eval (.Name "int" p2) X.env) :: starEach [] X.env := by rfl) (hpl : (backTo pos (starEach [.Name "int" p2] X.env)).any (·.1) = false := by rfl) :
    Dx X W (.Call (.Name "isinstance" p) [e, .Name "int" p2] [] pos) σ H (· = x.isInt) := by
  refine dx_isi O h (pe_bltn (v := .ty "int") (u := .type "int") hgi hi (by decide +kernel) rfl) (.ty "int") (fun _ _ => trivial) hm ?_ hg hs hs2 hpl
  cases x with
  | rat r => exact O.kint
  | int i => exact kit_ty (show kitB "int" "int" = some true by decide +kernel)
  | bl i => exact kit_ty (show kitB "bool" "int" = some true by decide +kernel)
  | non => exact kit_ty (show kitB "NoneType" "int" = some false by decide +kernel)
  | str i => exact kit_ty (show kitB "str" "int" = some false by decide +kernel)
  | lst => exact kit_ty (show kitB "list" "int" = some false by decide +kernel)
  | tup => exact kit_ty (show kitB "tuple" "int" = some false by decide +kernel)
  | dct => exact kit_ty (show kitB "dict" "int" = some false by decide +kernel)
theorem dx_isBl (O : Own X.K C) (h : Dx X W e σ H (· = x)) (hm : X.mg "isinstance" = none) (hi : X.mg "bool" = none) (hg : Gl X "isinstance" := by rfl) (hgi : Gl X "bool" := by rfl) (hs : starEach (e :: [.Name "bool" p2]) X.env = (false, eval e X.env) :: starEach [.Name "bool" p2] X.env := by rfl)
    (hs2 : starEach (.Name "bool" p2 :: []) X.env = (false, eval (.Name "bool" p2) X.env) :: starEach [] X.env := by rfl) (hpl : (backTo pos (starEach [.Name "bool" p2] X.env)).any (·.1) = false := by rfl) :
    Dx X W (.Call (.Name "isinstance" p) [e, .Name "bool" p2] [] pos) σ H (· = x.isBl) := by
  refine dx_isi O h (pe_bltn (v := .ty "bool") (u := .type "bool") hgi hi (by decide +kernel) rfl) (.ty "bool") (fun _ _ => trivial) hm ?_ hg hs hs2 hpl
  cases x with
  | rat r => exact O.kbl
  | int i => exact kit_ty (show kitB "int" "bool" = some false by decide +kernel)
  | bl i => exact kit_ty (show kitB "bool" "bool" = some true by decide +kernel)
  | non => exact kit_ty (show kitB "NoneType" "bool" = some false by decide +kernel)
  | str i => exact kit_ty (show kitB "str" "bool" = some false by decide +kernel)
  | lst => exact kit_ty (show kitB "list" "bool" = some false by decide +kernel)
  | tup => exact kit_ty (show kitB "tuple" "bool" = some false by decide +kernel)
  | dct => exact kit_ty (show kitB "dict" "bool" = some false by decide +kernel)
theorem dx_isRat {nm : Str} (O : Own X.K C) (h : Dx X W e σ H (· = x)) (hm : X.mg "isinstance" = none) (hi : X.mg nm = some (.ref C)) (hg : Gl X "isinstance" := by rfl) (hgi : Gl X nm := by rfl) (hs : starEach (e :: [.Name nm p2]) X.env = (false, eval e X.env) :: starEach [.Name nm p2] X.env := by rfl)
    (hs2 : starEach (.Name nm p2 :: []) X.env = (false, eval (.Name nm p2) X.env) :: starEach [] X.env := by rfl) (hpl : (backTo pos (starEach [.Name nm p2] X.env)).any (·.1) = false := by rfl) (hd : (nm == ("__debug__" : Str)) = false := by decide) :
    Dx X W (.Call (.Name "isinstance" p) [e, .Name nm p2] [] pos) σ H (· = x.isRat) := by
  refine dx_isi O h (pe_glob (v := .ref C) (u := .ref C) hgi hi rfl hd) (.own C) (fun _ _ => trivial) hm ?_ hg hs hs2 hpl
  cases x with
  | rat r => exact O.self
  | int i => exact O.ty _ (by decide)
  | bl i => exact O.ty _ (by decide)
  | non => exact O.ty _ (by decide)
  | str i => exact O.ty _ (by decide)
  | lst => exact O.ty _ (by decide)
  | tup => exact O.ty _ (by decide)
  | dct => exact O.ty _ (by decide)
end
end Inn
set_option Elab.async false
set_option linter.all false
set_option maxRecDepth 100000
set_option maxHeartbeats 4000000
namespace Inn
open PySem L2 PySem.Spec PyProof.Rows
open Dat (Is)
/-! ### Ratios: fields, properties, methods -/
theorem tb_ne : ¬ (("_top" : Str) = "_bottom") := by decide +kernel
theorem rfs_eq (t b : Int) : rfs t b = ([("_top", V.int t), ("_bottom", V.int b)] : List (Str × V)) := by
  show (if ("_top" : Str) = "_bottom" then [(("_top" : Str), V.int b)] else (("_top" : Str), V.int t) :: putF "_bottom" (V.int b) []) = _
  rw [if_neg tb_ne]
  all_goals rfl
theorem rfs_top (t b : Int) : (rfs t b).lookup ("_top" : Str) = some (.int t) := by
  unfold rfs
  rw [lookup_putF, if_neg tb_ne, lookup_putF, if_pos rfl]
theorem rfs_bottom (t b : Int) : (rfs t b).lookup ("_bottom" : Str) = some (.int b) := by
  unfold rfs
  rw [lookup_putF, if_pos rfl]
theorem rfs_no (t b : Int) {m : Str} (h1 : ¬ m = "_bottom") (h2 : ¬ m = "_top") : (rfs t b).lookup m = none := by
  unfold rfs
  rw [lookup_putF, if_neg h1, lookup_putF, if_neg h2]
  all_goals rfl
section
variable {X : Cx} {W : Wld} {σ : L2.St} {H : Hp} {pos p apos : Pos} {a b e o : Expr} {es : List Expr} {C : Addr} {r : Rt C} {nm : Str} {k : Nat} {ps : List Str} {α β A : Type} [Dat α] [Dat β] [DArgs A]
theorem dx_top (c : Cls X.K C) (n : NoAttr X.K C "_top") (h : Dx X W o σ H (· = r)) (hb : attributeBase o "_top" X.env (eval o X.env) = eval o X.env := by rfl) : Dx X W (.Attribute o "_top" pos) σ H (· = r.t) := by
  obtain ⟨te, pe, ev⟩ := h
  refine ⟨_, pe_fld pe hb, fun H1 u hI Q q => ev H1 u hI _ fun v H2 x u2 i2 hx px => ?_⟩
  subst px
  obtain ⟨p, dx, rfl, nm, e2⟩ := id hx
  exact ⟨p, C, dx, _, _, rfl, e2, c, n, rfs_top _ _, q _ H2 _ u2 i2 rfl rfl⟩
theorem dx_bot (c : Cls X.K C) (n : NoAttr X.K C "_bottom") (h : Dx X W o σ H (· = r)) (hb : attributeBase o "_bottom" X.env (eval o X.env) = eval o X.env := by rfl) : Dx X W (.Attribute o "_bottom" pos) σ H (· = r.b) := by
  obtain ⟨te, pe, ev⟩ := h
  refine ⟨_, pe_fld pe hb, fun H1 u hI Q q => ev H1 u hI _ fun v H2 x u2 i2 hx px => ?_⟩
  subst px
  obtain ⟨p, dx, rfl, nm, e2⟩ := id hx
  exact ⟨p, C, dx, _, _, rfl, e2, c, n, rfs_bottom _ _, q _ H2 _ u2 i2 rfl rfl⟩
theorem dx_prop {pre : Cns (Rt C) Nil → Prop} {R : Cns (Rt C) Nil → β → Prop} (c : Cls X.K C) (B : PDef X.prog X.w X.K X.mg X.base k C nm (SpF pre R)) (hr : Room (k + 1) X.A) (h : Dx X W o σ H (· = r)) (hp : pre ⟨r, ⟨⟩⟩)
    (hb : attributeBase o nm X.env (eval o X.env) = eval o X.env := by rfl) : Dx X W (.Attribute o nm pos) σ H (R ⟨r, ⟨⟩⟩) := by
  obtain ⟨p, g, fd, F, hp', hbi⟩ := B.ex
  obtain ⟨te, pe, ev⟩ := h
  refine ⟨_, pe_prop (E := E0) pe c hp' F hr hbi .nil pass0 hb, fun H1 u hI Q q => ev H1 u hI _ fun v H2 x u2 i2 hx px => ?_⟩
  subst px
  obtain ⟨q1, dx, rfl, nm, e2⟩ := id hx
  exact ⟨q1, dx, _, rfl, e2, W, ⟨x, ⟨⟩⟩, ⟨_, [], rfl, hx, rfl⟩, i2, hp, fun w H3 y u3 i3 hy ry => q w H3 y (u2.trans u3) i3 hy ry⟩
theorem dx_meth {x : A} {pre : Cns (Rt C) A → Prop} {R : Cns (Rt C) A → β → Prop} {pl : Sem Bool} (c : Cls X.K C) (B : MDef X.prog X.w X.K X.mg X.base k C nm ps (SpF pre R)) (hr : Room k X.A) (h : Dx X W o σ H (· = r)) (ha : Ax X W (e :: es) σ H (· = x)) (hp : pre ⟨r, x⟩)
    (h1 : ¬ nm = "_bottom" := by decide +kernel) (h2 : ¬ nm = "_top" := by decide +kernel)
    (hst : starEach (e :: es) X.env = (false, eval e X.env) :: starEach es X.env := by rfl) (hpl : (backTo pos (starEach es X.env)).any (·.1) = false := by rfl)
    (ht : eval (.Call (.Attribute o nm apos) (e :: es) [] pos) X.env = (do
      let ov ← eval o X.env
      standAt apos.atName
      let (f, first) ← holding [ov] (getMethod ov nm pl)
      callWith pos f first (backTo pos (starEach (e :: es) X.env)) (backToKw pos (keywordEach [] X.env))) := by rfl) : Dx X W (.Call (.Attribute o nm apos) (e :: es) [] pos) σ H (R ⟨r, x⟩) := by
  obtain ⟨f, fd, F, hm, hbi⟩ := B.ex
  obtain ⟨te, pe, ev⟩ := h
  obtain ⟨ta, pa, va⟩ := ha
  refine ⟨_, pe_meth (E := E0) pe c hm F hr hbi .nil pass0 pa hst hpl ht, fun H1 u hI Q q => ev H1 u hI _ fun v H2 y u2 i2 hy py => ?_⟩
  subst py
  obtain ⟨q1, dx, rfl, nm, e2⟩ := id hy
  refine ⟨q1, dx, _, rfl, e2, rfs_no _ _ h1 h2, va H2 (u.trans u2) i2 _ fun vs H3 z u3 i3 hz pz => ?_⟩
  subst pz
  rw [List.append_nil]
  exact ⟨W, ⟨y, z⟩, ⟨_, vs, rfl, Dat.up u3 hy, hz⟩, i3, hp, fun w H4 y' u4 i4 hy' ry => q w H4 y' ((u2.trans u3).trans u4) i4 hy' ry⟩
theorem dx_meth0 {pre : Cns (Rt C) Nil → Prop} {R : Cns (Rt C) Nil → β → Prop} {pl : Sem Bool} (c : Cls X.K C) (B : MDef X.prog X.w X.K X.mg X.base k C nm ps (SpF pre R)) (hr : Room k X.A) (h : Dx X W o σ H (· = r)) (hp : pre ⟨r, ⟨⟩⟩)
    (h1 : ¬ nm = "_bottom" := by decide +kernel) (h2 : ¬ nm = "_top" := by decide +kernel)
    (ht : eval (.Call (.Attribute o nm apos) [] [] pos) X.env = (do
      let ov ← eval o X.env
      standAt apos.atName
      let (f, first) ← holding [ov] (getMethod ov nm pl)
      callWith pos f first (backTo pos (starEach [] X.env)) (backToKw pos (keywordEach [] X.env))) := by rfl) : Dx X W (.Call (.Attribute o nm apos) [] [] pos) σ H (R ⟨r, ⟨⟩⟩) := by
  obtain ⟨f, fd, F, hm, hbi⟩ := B.ex
  obtain ⟨te, pe, ev⟩ := h
  refine ⟨_, pe_meth0 (E := E0) pe c hm F hr hbi .nil pass0 ht, fun H1 u hI Q q => ev H1 u hI _ fun v H2 y u2 i2 hy py => ?_⟩
  subst py
  obtain ⟨q1, dx, rfl, nm, e2⟩ := id hy
  exact ⟨q1, dx, _, rfl, e2, rfs_no _ _ h1 h2, W, ⟨y, ⟨⟩⟩, ⟨_, [], rfl, hy, rfl⟩, i2, hp, fun w H4 y' u4 i4 hy' ry => q w H4 y' (u2.trans u4) i4 hy' ry⟩
/-! ### made -/
/-- what __init__ makes of top and bottom -/
def mkS (t b : Int) : Int := if b > 0 then (Int.gcd t b : Int) else -(Int.gcd t b : Int)
def mk (C : Addr) (t b : Int) : Rt C := ⟨t.fdiv (mkS t b), b.fdiv (mkS t b)⟩
/-- small enough for any reckoning -/
def Sm (i : Int) : Prop := i.natAbs < 2 ^ 8000
def spInit (C : Addr) : Sp := fun vs H Q _ => ∃ p dx t b, vs = [.ref p, .int t, .int b] ∧ H p = some (.ins C dx []) ∧ b ≠ 0 ∧ Sm t ∧ Sm b ∧
  ∀ H', (∀ q o, q ≠ p → H q = some o → H' q = some o) → H' p = some (.ins C dx (rfs (mk C t b).t (mk C t b).b)) → Q .non H'
/-- the class: its name, its maker -/
structure CDef (P : Program) (w : World) (K : PySem.W.Frag) (mg : Str → Option Value) (base : Heap) (k : Nat) (C : Addr) (nm : Str) : Prop where
  ex : ∃ f fd, FnOk P w K mg base CX0 k f fd ["self", "top", "bottom"] (spInit C) ∧ Mk K C f ∧ mg nm = some (.ref C) ∧ Binds K fd ["self", "top", "bottom"] []
theorem made_ok {x dx : Addr} {t b : Int} {H1 : Hp} {Q : VK} {E : XK} (hI : W.I H1) (nx : H1 x = none) (ndx : H1 dx = none) (ne : dx ≠ x) (hb0 : b ≠ 0) (st : Sm t) (sb : Sm b)
    (q : ∀ H2, Up W H1 H2 → W.I H2 → Is W H2 (.ref x) (mk C t b) → Q (.ref x) H2) : spInit C (.ref x :: ([.int t, .int b] ++ [])) (upd (upd H1 dx (.own x)) x (.ins C dx [])) (fun v H2 => v = .non ∧ Q (.ref x) H2) E := by
  refine ⟨x, dx, t, b, rfl, upd_same, hb0, st, sb, fun H' keep hx => ⟨rfl, ?_⟩⟩
  have k1 : ∀ a o, H1 a = some o → H' a = some o := fun a o e => keep a o (ne_of_none e nx) (by rw [upd_ne (ne_of_none e nx), upd_ne (ne_of_none e ndx)]; exact e)
  refine q H' (fun a o _ e => k1 a o e) (W.st hI fun a m => ?_) ⟨x, dx, rfl, not_M hI nx, hx⟩
  obtain ⟨o, e⟩ := W.al hI m
  rw [e]
  exact k1 a o e
theorem dx_make {t b' : Int} (B : CDef X.prog X.w X.K X.mg X.base k C nm) (hr : Room (k + 1) X.A) (ha : Dx X W a σ H (· = t)) (hb : Dx X W b σ H (· = b')) (h0 : b' ≠ 0) (st : Sm t) (sb : Sm b') (hg : Gl X nm := by rfl) (hdb : (nm == ("__debug__" : Str)) = false := by decide)
    (he : starEach (a :: [b]) X.env = (false, eval a X.env) :: starEach [b] X.env := by rfl) (he2 : starEach (b :: []) X.env = (false, eval b X.env) :: starEach [] X.env := by rfl) (hpl : (backTo pos (starEach [b] X.env)).any (·.1) = false := by rfl) :
    Dx X W (.Call (.Name nm p) [a, b] [] pos) σ H (· = mk C t b') := by
  obtain ⟨f, fd, F, M, hm, hbi⟩ := B.ex
  obtain ⟨ta, pa, va⟩ := ha
  obtain ⟨tb, pb, vb⟩ := hb
  refine ⟨_, pe_make (E := E0) M F hr hg hm hbi .nil pass0 (pa_cons pa (pa_cons pb pa_nil he2) he) hdb he hpl, fun H1 u hI Q q => va H1 u hI _ fun v H2 x u2 i2 hx px => vb H2 (u.trans u2) i2 _ fun w H3 y u3 i3 hy py => ?_⟩
  subst px; subst py
  cases hx
  cases hy
  intro x1 dx1 nx ndx ne
  exact made_ok i3 nx ndx ne h0 st sb fun H4 u4 i4 h4 => q _ H4 _ ((u2.trans u3).trans u4) i4 h4 rfl
/-! ### operators of Ratios -/
structure OpF (K : PySem.W.Frag) (C : Addr) (op : Operator) (f fr : Addr) (ro : Option Value) (fo : Option Value) : Prop where
  sf : PySem.W.selfFirst K C = true
  at_ : PySem.W.findIn K (.ref C) (PySem.dunder op.info.2) = some (some (.ref f))
  isf : PySem.W.isFn K (.ref f) = true
  atR : PySem.W.findIn K (.ref C) (dunderR op.info.2) = some (some (.ref fr))
  isr : PySem.W.isFn K (.ref fr) = true
  i1 : PySem.W.findIn K (.type "int") (PySem.dunder op.info.2) = some fo
  i2 : PySem.W.findIn K (.type "int") (dunderR op.info.2) = some ro
  s1 : PySem.W.subIn K (.type "int") (.ref C) = some false
  s2 : PySem.W.subIn K (.ref C) (.type "int") = some false
/-- the operator's def; the reflected one -/
structure ODef (P : Program) (w : World) (K : PySem.W.Frag) (mg : Str → Option Value) (base : Heap) (k : Nat) (C : Addr) (op : Operator) (g : Rt C → Nm C → Rt C) (pre : Cns (Rt C) (Cns (Nm C) Nil) → Prop) : Prop where
  ex : ∃ f fr fd ro fo, OpF K C op f fr ro fo ∧ FnOk P w K mg base CX0 k f fd ["self", "other"] (SpF pre fun a y => y = g a.h a.t.h) ∧ Binds K fd ["self", "other"] []
structure RDef (P : Program) (w : World) (K : PySem.W.Frag) (mg : Str → Option Value) (base : Heap) (k : Nat) (C : Addr) (op : Operator) (gr : Rt C → Int → Rt C) (prer : Cns (Rt C) (Cns Int Nil) → Prop) : Prop where
  ex : ∃ f fr fdr ro fo, OpF K C op f fr ro fo ∧ FnOk P w K mg base CX0 k fr fdr ["self", "other"] (SpF prer fun a y => y = gr a.h a.t.h) ∧ Binds K fdr ["self", "other"] []
theorem relV_back {Q : VK} {pins : List (Addr × Obj)} {v : Value} {s : Shared} (h : EP X pins σ Q v s) : PySem.W.CmpBack (EP X pins σ Q) v s := by
  obtain ⟨x, H', I, r, q⟩ := id h
  cases v <;> first | exact h | (cases x <;> first | (cases r; done) | (obtain ⟨t, e⟩ := r; cases e))
variable {op : Operator} {g : Rt C → Nm C → Rt C} {pre : Cns (Rt C) (Cns (Nm C) Nil) → Prop} {gr : Rt C → Int → Rt C} {prer : Cns (Rt C) (Cns Int Nil) → Prop} {n : Nm C}
theorem dx_ownop (B : ODef X.prog X.w X.K X.mg X.base k C op g pre) (hr : Room k X.A) (ha : Dx X W a σ H (· = r)) (hb : Dx X W b σ H (· = n)) (hp : pre ⟨r, n, ⟨⟩⟩) : Dx X W (.BinOp a op b pos) σ H (· = g r n) := by
  obtain ⟨f, fr, fd, ro, fo, O, F, hbi⟩ := B.ex
  have ho : OpR X (binaryOp op) (fun x y H Q => ∃ (W : Wld) (r : Rt C) (n : Nm C), Is W H x r ∧ Is W H y n ∧ W.I H ∧ pre ⟨r, n, ⟨⟩⟩ ∧ ∀ u H', Up W H H' → W.I H' → Is W H' u (g r n) → Q u H') := by
    intro pins s σ H x y u v Q I rx ry ⟨W, r, n, hx, hy, hI, hp, q⟩
    obtain ⟨p1, dx, rfl, nM, e1⟩ := id hx
    cases rx
    obtain ⟨mA, J, _⟩ := ins_get I.hok e1
    obtain ⟨od, J, _⟩ := J.look
    obtain ⟨m, hF⟩ := I.fr
    have run : wpAny (model X.prog X.w) X.A (call (.ref f) [.ref p1, v]) (PySem.W.CmpBack (EP X pins σ Q)) X.xe s := by
      have z : SpF pre (fun a y => y = g a.h a.t.h) ([.ref p1, y] ++ []) H Q E0 := ⟨W, ⟨r, n, ⟨⟩⟩, ⟨_, _, rfl, hx, _, _, rfl, hy, rfl⟩, hI, hp, fun w H' y' u' i' hy' ey => q w H' u' i' (ey ▸ hy')⟩
      exact thn (run_fn (us := [.ref p1, v]) (vs := [.ref p1, y]) F hr hbi .nil pass0 I (.cons rfl (.cons ry .nil)) z) fun _ _ h => relV_back h
    cases n with
    | r y' =>
      obtain ⟨p2, dy, rfl, nM2, e2⟩ := id hy
      cases ry
      obtain ⟨mB, J', _⟩ := ins_get I.hok e2
      obtain ⟨od', J', _⟩ := J'.look
      exact PySem.W.binop_K hF I.ok.mod.kin J J'.type O.sf O.at_ O.isf run
    | i j =>
      cases hy
      obtain ⟨t, rfl⟩ := ry
      exact PySem.W.ksp_binT (T := "int") hF I.ok.mod.kin J rfl O.sf O.at_ O.isf O.atR (.inr ⟨_, rfl⟩) O.i1 O.i2 O.s1 run
  exact dx_op ho ha hb fun u v H1 x y Q _ hI hx hy px py q => by
    subst px; subst py
    exact ⟨W, x, y, hx, hy, hI, hp, fun w H2 u2 i2 h2 => q w H2 _ u2 i2 h2 rfl⟩
theorem dx_rown {j : Int} {idl : String} (B : RDef X.prog X.w X.K X.mg X.base k C op gr prer) (hr : Room k X.A) (ha : Dx X W a σ H (· = j)) (hb : Dx X W b σ H (· = r)) (hp : prer ⟨r, j, ⟨⟩⟩)
    (hfT : fillsNumberSlot (.type "int") op.info.2 = pure true) (slot : Slot "int" (PySem.dunder op.info.2) idl)
    (hd : ∀ (i : Int) (t : Tok) (l dx : Addr) (s : Shared) (Q : Value → Shared → Prop), s.heap.get? l = some (PySem.W.instObj C dx) → Q .notImplemented s → wpAny (model X.prog X.w) X.A (call (.builtin idl) [.int i t, .ref l]) Q X.xe s) :
    Dx X W (.BinOp a op b pos) σ H (· = gr r j) := by
  obtain ⟨f, fr, fdr, ro, fo, O, F, hbi⟩ := B.ex
  have ho : OpR X (binaryOp op) (fun x y H Q => ∃ (W : Wld) (r : Rt C) (j : Int), x = .int j ∧ Is W H y r ∧ W.I H ∧ prer ⟨r, j, ⟨⟩⟩ ∧ ∀ u H', Up W H H' → W.I H' → Is W H' u (gr r j) → Q u H') := by
    intro pins s σ H x y u v Q I rx ry ⟨W, r, j, hx, hy, hI, hp, q⟩
    subst hx
    obtain ⟨t, rfl⟩ := rx
    obtain ⟨p1, dx, rfl, nM, e1⟩ := id hy
    cases ry
    obtain ⟨mA, J, _⟩ := ins_get I.hok e1
    obtain ⟨od, J, _⟩ := J.look
    obtain ⟨_, _, _, e3, _⟩ := (show ObjOk X.prog X.w H s.heap p1 (.ins C dx _) from I.hok p1 _ e1)
    have run : wpAny (model X.prog X.w) X.A (call (.ref fr) [.ref p1, .int j t]) (PySem.W.CmpBack (EP X pins σ Q)) X.xe s := by
      have z : SpF prer (fun a y => y = gr a.h a.t.h) ([.ref p1, .int j] ++ []) H Q E0 := ⟨W, ⟨r, j, ⟨⟩⟩, ⟨_, _, rfl, hy, _, _, rfl, rfl, rfl⟩, hI, hp, fun w H' y' u' i' hy' ey => q w H' u' i' (ey ▸ hy')⟩
      exact thn (run_fn (us := [.ref p1, .int j t]) (vs := [.ref p1, .int j]) F hr hbi .nil pass0 I (.cons rfl (.cons ⟨t, rfl⟩ .nil)) z) fun _ _ h => relV_back h
    exact PySem.W.rop_int I.kIn J O.sf O.at_ O.atR O.isr O.s2 hfT slot (fun Q q => hd j t p1 dx s Q e3 q) run
  exact dx_op ho ha hb fun u v H1 x y Q _ hI hx hy px py q => by
    subst px; subst py
    exact ⟨W, y, x, hx, hy, hI, hp, fun w H2 u2 i2 h2 => q w H2 _ u2 i2 h2 rfl⟩
/-- -r -/
theorem dx_ownneg {f : Addr} {fd : FuncData} {g : Rt C → Rt C} {pre : Cns (Rt C) Nil → Prop} (hs : PySem.W.findIn X.K (.ref C) "__neg__" = some (some (.ref f))) (hf : PySem.W.isFn X.K (.ref f) = true) (F : FnOk X.prog X.w X.K X.mg X.base CX0 k f fd ["self"] (SpF pre fun a y => y = g a.h)) (hbi : Binds X.K fd ["self"] []) (hr : Room k X.A)
    (ha : Dx X W a σ H (· = r)) (hp : pre ⟨r, ⟨⟩⟩) : Dx X W (.UnaryOp .USub a pos) σ H (· = g r) := by
  have ho : UnR X (unaryOp .USub) (fun x H Q => ∃ (W : Wld) (r : Rt C), Is W H x r ∧ W.I H ∧ pre ⟨r, ⟨⟩⟩ ∧ ∀ u H', Up W H H' → W.I H' → Is W H' u (g r) → Q u H') := by
    intro pins s σ H x u Q I rx ⟨W, r, hx, hI, hp, q⟩
    obtain ⟨p1, dx, rfl, nM, e1⟩ := id hx
    cases rx
    obtain ⟨mA, J, _⟩ := ins_get I.hok e1
    obtain ⟨od, J, _⟩ := J.look
    obtain ⟨m, hF⟩ := I.fr
    refine PySem.W.ksp_neg hF I.ok.mod.kin J hs hf ?_
    exact run_fn (us := [.ref p1]) (vs := [.ref p1]) (E := E0) F hr hbi .nil pass0 I (.cons rfl .nil) ⟨W, ⟨r, ⟨⟩⟩, ⟨_, _, rfl, hx, rfl⟩, hI, hp, fun w H' y' u' i' hy' ey => q w H' u' i' (ey ▸ hy')⟩
  obtain ⟨ta, pa, va⟩ := ha
  refine ⟨_, pe_un ho pa, fun H1 u hI Q q => va H1 u hI _ fun v H2 x u2 i2 hx px => ?_⟩
  subst px
  exact ⟨W, x, hx, i2, hp, fun w H3 u3 i3 h3 => q w H3 _ (u2.trans u3) i3 h3 rfl⟩
end
section
variable {X : Cx} {W : Wld} {σ : L2.St} {H : Hp} {pos : Pos} {a b : Expr} {C : Addr} {r : Rt C} {k : Nat} {g : Rt C → Nm C → Rt C} {pre : Cns (Rt C) (Cns (Nm C) Nil) → Prop} {gr : Rt C → Int → Rt C} {prer : Cns (Rt C) (Cns Int Nil) → Prop} {j : Int}
theorem dx_radd (B : RDef X.prog X.w X.K X.mg X.base k C .Add gr prer) (hr : Room k X.A) (ha : Dx X W a σ H (· = j)) (hb : Dx X W b σ H (· = r)) (hp : prer ⟨r, j, ⟨⟩⟩) : Dx X W (.BinOp a .Add b pos) σ H (· = gr r j) :=
  dx_rown B hr ha hb hp F.fills_int_add F.slot_int_add fun i t l dx s Q e q => call_meets F.slot_int_add (typeIs_int s i t) F.entry_int_add (F.args_int_add_2 _ _) (PySem.own_int_add i t l C dx) ⟨e, q⟩
theorem dx_rsub (B : RDef X.prog X.w X.K X.mg X.base k C .Sub gr prer) (hr : Room k X.A) (ha : Dx X W a σ H (· = j)) (hb : Dx X W b σ H (· = r)) (hp : prer ⟨r, j, ⟨⟩⟩) : Dx X W (.BinOp a .Sub b pos) σ H (· = gr r j) :=
  dx_rown B hr ha hb hp F.fills_int_sub F.slot_int_sub fun i t l dx s Q e q => call_meets F.slot_int_sub (typeIs_int s i t) F.entry_int_sub (F.args_int_sub_2 _ _) (PySem.own_int_sub i t l C dx) ⟨e, q⟩
theorem dx_rmul (B : RDef X.prog X.w X.K X.mg X.base k C .Mult gr prer) (hr : Room k X.A) (ha : Dx X W a σ H (· = j)) (hb : Dx X W b σ H (· = r)) (hp : prer ⟨r, j, ⟨⟩⟩) : Dx X W (.BinOp a .Mult b pos) σ H (· = gr r j) :=
  dx_rown B hr ha hb hp F.fills_int_mul F.slot_int_mul fun i t l dx s Q e q => call_meets F.slot_int_mul (typeIs_int s i t) F.entry_int_mul (F.args_int_mul_2 _ _) (PySem.own_int_mul i t l C dx) ⟨e, q⟩
end
end Inn
set_option Elab.async false
set_option linter.all false
set_option maxRecDepth 100000
set_option maxHeartbeats 4000000
namespace Inn
open PySem L2 PySem.Spec PyProof.Rows
open Dat (Is)
section
variable {X : Cx} {W : Wld} {σ : L2.St} {H : Hp} {pos p apos : Pos} {a b e o : Expr} {es : List Expr} {C : Addr} {r : Rt C} {nm : Str} {k : Nat} {ps : List Str} {α β A : Type} [Dat α] [Dat β] [DArgs A]
/-! ### == of Ratios -/
def eqRV (r : Rt C) : Vd C → Bool
  | .rat y => decide (r.t = y.t) && decide (r.b = y.b)
  | _ => false
structure EqF (K : PySem.W.Frag) (C : Addr) (f : Addr) : Prop where
  at_ : PySem.W.findIn K (.ref C) "__eq__" = some (some (.ref f))
  isf : PySem.W.isFn K (.ref f) = true
  ne : PySem.W.findIn K (.ref C) "__ne__" = some (some (.builtin "object.__ne__"))
  hm : PySem.W.mroIn K C (.type "object") = some true
  sub : ∀ T ∈ ["int", "NoneType", "str"], PySem.W.subIn K (.type T) (.ref C) = some false
  s2 : PySem.W.subIn K (.ref C) (.type "int") = some false
structure EDef (P : Program) (w : World) (K : PySem.W.Frag) (mg : Str → Option Value) (base : Heap) (k : Nat) (C : Addr) : Prop where
  ex : ∃ f fd, EqF K C f ∧ FnOk P w K mg base CX0 k f fd ["self", "other"] (SpF (fun _ : Cns (Rt C) (Cns (Vd C) Nil) => True) fun a y => y = eqRV a.h a.t.h) ∧ Binds K fd ["self", "other"] []
/-- kinds that == of a Ratio is asked with -/
def Vd.easy : Vd C → Bool
  | .int _ => true
  | .non => true
  | .str _ => true
  | .rat _ => true
  | _ => false
theorem looks_vd {K : PySem.W.Frag} {pins : List (Addr × Obj)} {s : Shared} {v : V} {u : Value} {x : Vd C} (I : Inv X pins σ H s) (hx : Is W H v x) (rv : RelV v u) (he : x.easy = true) : PySem.W.Looks (model X.prog X.w) s.heap (typeOf u) x.tyv := by
  cases x with
  | int i => cases hx; obtain ⟨t, rfl⟩ := rv; exact .of_pure rfl
  | non => cases hx; cases rv; exact .of_pure rfl
  | str z => cases hx; obtain ⟨t, rfl⟩ := rv; exact .of_pure rfl
  | rat r =>
    obtain ⟨p1, dx, rfl, nM, e1⟩ := id hx
    cases rv
    obtain ⟨mA, J, _⟩ := ins_get I.hok e1
    obtain ⟨od, J, _⟩ := J.look
    exact J.type
  | bl b => cases he
  | lst => cases he
  | tup => cases he
  | dct => cases he
theorem notFirst_vd {K : PySem.W.Frag} {f : Addr} (E : EqF K C f) {x : Vd C} (he : x.easy = true) : PySem.W.notFirst K C x.tyv = true := by
  unfold PySem.W.notFirst
  cases x with
  | int i => show (_ || PySem.W.subIn K (.type "int") (.ref C) == some false) = true; rw [E.sub "int" (by decide)]; simp
  | non => show (_ || PySem.W.subIn K (.type "NoneType") (.ref C) == some false) = true; rw [E.sub "NoneType" (by decide)]; simp
  | str z => show (_ || PySem.W.subIn K (.type "str") (.ref C) == some false) = true; rw [E.sub "str" (by decide)]; simp
  | rat r => show (Value.ref C == Value.ref C || _) = true; simp
  | bl b => cases he
  | lst => cases he
  | tup => cases he
  | dct => cases he
def rEqOwn (C : Addr) (neg : Bool) : R2 := fun x y H Q => ∃ (W : Wld) (r : Rt C) (v : Vd C), Is W H x r ∧ Is W H y v ∧ W.I H ∧ v.easy = true ∧ ∀ H', Up W H H' → W.I H' → Q (.bl (if neg = true then !eqRV r v else eqRV r v)) H'
theorem op_eqOwn (B : EDef X.prog X.w X.K X.mg X.base k C) (hr : Room k X.A) : OpR X (compareOp .Eq) (rEqOwn C false) := by
  obtain ⟨f, fd, E, F, hbi⟩ := B.ex
  intro pins s σ H x y u v Q I rx ry ⟨W, r, n, hx, hy, hI, he, q⟩
  have lk := looks_vd (K := X.K) I hy ry he
  obtain ⟨p1, dx, rfl, nM, e1⟩ := id hx
  cases rx
  obtain ⟨mA, J, _⟩ := ins_get I.hok e1
  obtain ⟨od, J, _⟩ := J.look
  obtain ⟨m, hF⟩ := I.fr
  refine PySem.W.cmp_K (op := .Eq) hr.units0 hF I.ok.mod.kin J lk (notFirst_vd E he) E.at_ E.isf ?_
  have z : SpF (fun _ : Cns (Rt C) (Cns (Vd C) Nil) => True) (fun a y => y = eqRV a.h a.t.h) ([.ref p1, y] ++ []) H Q E0 := ⟨W, ⟨r, n, ⟨⟩⟩, ⟨_, _, rfl, hx, _, _, rfl, hy, rfl⟩, hI, trivial, fun w H' y' u' i' hy' ey => by
    cases hy'
    subst ey
    exact q H' u' i'⟩
  exact thn (run_fn (us := [.ref p1, v]) (vs := [.ref p1, y]) F hr hbi .nil pass0 I (.cons rfl (.cons ry .nil)) z) fun _ _ h => relV_back h
theorem op_neOwn (B : EDef X.prog X.w X.K X.mg X.base k C) (hr : Room (k + 1) X.A) : OpR X (compareOp .NotEq) (rEqOwn C true) := by
  obtain ⟨f, fd, E, F, hbi⟩ := B.ex
  intro pins s σ H x y u v Q I rx ry ⟨W, r, n, hx, hy, hI, he, q⟩
  have lk := looks_vd (K := X.K) I hy ry he
  obtain ⟨p1, dx, rfl, nM, e1⟩ := id hx
  cases rx
  obtain ⟨mA, J, _⟩ := ins_get I.hok e1
  obtain ⟨od, J, _⟩ := J.look
  refine PySem.W.ne_K (by have := hr.un; omega) I.kIn J lk (notFirst_vd E he) E.ne E.hm E.at_ E.isf ?_
  have z : SpF (fun _ : Cns (Rt C) (Cns (Vd C) Nil) => True) (fun a y => y = eqRV a.h a.t.h) ([.ref p1, y] ++ []) H (fun w H' => w = .bl (eqRV r n) ∧ Up W H H' ∧ W.I H') E0 := ⟨W, ⟨r, n, ⟨⟩⟩, ⟨_, _, rfl, hx, _, _, rfl, hy, rfl⟩, hI, trivial, fun w H' y' u' i' hy' ey => by
    cases hy'
    subst ey
    exact ⟨rfl, u', i'⟩⟩
  have hl := F.len _ _ _ _ z
  have r2 : Vals [V.ref p1, y] [Value.ref p1, v] := .cons rfl (.cons ry .nil)
  refine wpAny_call (codeAny_mono (F.run X.A.in1 X.stack s H ⟨[.ref p1, v], []⟩ [.ref p1, v] [.ref p1, y] _ E0 hr.in1 I.env0.in1 (by
    have h := hbi s [.ref p1, v] I.kIn (by simpa using hl)
    simpa using h) r2 z) fun rr s' hq => ?_)
  cases rr with
  | error e => exact False.elim hq
  | ok fl =>
    cases fl with
    | ret w =>
      obtain ⟨z, H', I', rz, ez, ex, iz⟩ := I.after hq
      subst ez
      cases rz
      exact ⟨_, rfl, .bl (!eqRV r n), H', I', rfl, q H' ex iz⟩
    | next => exact False.elim hq
    | brk => exact False.elim hq
    | cont => exact False.elim hq
theorem ev_eqOwn {neg : Bool} {v : Vd C} {ta tb : TE} (va : Ev W ta σ H (· = r)) (vb : Ev W tb σ H (· = v)) (he : v.easy = true) : Ev W (tOp (rEqOwn C neg) ta tb) σ H (· = if neg = true then !eqRV r v else eqRV r v) :=
  fun H1 u hI Q q => va H1 u hI _ fun x H2 x' u2 i2 hx px => vb H2 (u.trans u2) i2 _ fun y H3 y' u3 i3 hy py => by
    subst px; subst py
    exact ⟨W, _, _, Dat.up u3 hx, hy, i3, he, fun H4 u4 i4 => q _ H4 _ ((u2.trans u3).trans u4) i4 rfl rfl⟩
theorem dx_eqOwn {v : Vd C} (B : EDef X.prog X.w X.K X.mg X.base k C) (hr : Room k X.A) (ha : Dx X W a σ H (· = r)) (hb : Dx X W b σ H (· = v)) (he : v.easy = true) : Dx X W (.Compare a [.Eq] [b] pos) σ H (· = eqRV r v) := let ⟨_, pa, va⟩ := ha; let ⟨_, pb, vb⟩ := hb; ⟨_, pe_cmpR (op_eqOwn B hr) pa pb (nomark _), ev_eqOwn (neg := false) va vb he⟩
theorem dx_neOwn {v : Vd C} (B : EDef X.prog X.w X.K X.mg X.base k C) (hr : Room (k + 1) X.A) (ha : Dx X W a σ H (· = r)) (hb : Dx X W b σ H (· = v)) (he : v.easy = true) : Dx X W (.Compare a [.NotEq] [b] pos) σ H (· = !eqRV r v) := let ⟨_, pa, va⟩ := ha; let ⟨_, pb, vb⟩ := hb; ⟨_, pe_cmpR (op_neOwn B hr) pa pb (nomark _), ev_eqOwn (neg := true) va vb he⟩
theorem tx_neOwn {v : Vd C} (B : EDef X.prog X.w X.K X.mg X.base k C) (hr : Room (k + 1) X.A) (ha : Dx X W a σ H (· = r)) (hb : Dx X W b σ H (· = v)) (he : v.easy = true) : Tx X W (.Compare a [.NotEq] [b] pos) σ H (· = !eqRV r v) := let ⟨_, pa, va⟩ := ha; let ⟨_, pb, vb⟩ := hb; ⟨_, pt_cmpR (op_neOwn B hr) pa pb (nomark _), ev_test (ev_eqOwn (neg := true) va vb he)⟩
/-- int == Ratio -/
theorem dx_eqIntOwn {j : Int} (B : EDef X.prog X.w X.K X.mg X.base k C) (hr : Room k X.A) (ha : Dx X W a σ H (· = j)) (hb : Dx X W b σ H (· = r)) : Dx X W (.Compare a [.Eq] [b] pos) σ H (· = false) := by
  obtain ⟨f, fd, E, F, hbi⟩ := B.ex
  have ho : OpR X (compareOp .Eq) (fun x y H Q => ∃ (W : Wld) (r : Rt C) (j : Int), x = .int j ∧ Is W H y r ∧ W.I H ∧ ∀ H', Up W H H' → W.I H' → Q (.bl false) H') := by
    intro pins s σ H x y u v Q I rx ry ⟨W, r, j, hx, hy, hI, q⟩
    subst hx
    obtain ⟨t, rfl⟩ := rx
    obtain ⟨p1, dx, rfl, nM, e1⟩ := id hy
    cases ry
    obtain ⟨mA, J, _⟩ := ins_get I.hok e1
    obtain ⟨od, J, _⟩ := J.look
    obtain ⟨_, _, _, e3, _⟩ := (show ObjOk X.prog X.w H s.heap p1 (.ins C dx _) from I.hok p1 _ e1)
    have run : wpAny (model X.prog X.w) X.A (call (.ref f) [.ref p1, .int j t]) (PySem.W.CmpBack (EP X pins σ Q)) X.xe s := by
      have z : SpF (fun _ : Cns (Rt C) (Cns (Vd C) Nil) => True) (fun a y => y = eqRV a.h a.t.h) ([.ref p1, .int j] ++ []) H Q E0 := ⟨W, ⟨r, .int j, ⟨⟩⟩, ⟨_, _, rfl, hy, _, _, rfl, rfl, rfl⟩, hI, trivial, fun w H' y' u' i' hy' ey => by
        cases hy'
        subst ey
        exact q H' u' i'⟩
      exact thn (run_fn (us := [.ref p1, .int j t]) (vs := [.ref p1, .int j]) F hr hbi .nil pass0 I (.cons rfl (.cons ⟨t, rfl⟩ .nil)) z) fun _ _ h => relV_back h
    refine PySem.W.eq_int_own hr.units0 I.kIn J E.at_ E.isf E.s2 (fun Q q => ?_) run
    exact call_meets PySem.F.slot_int_eq (typeIs_int s j t) PySem.F.entry_int_eq (PySem.F.args_int_eq_2 _ _) (PySem.own_int_eq j t p1 C dx) ⟨e3, q⟩
  obtain ⟨ta, pa, va⟩ := ha
  obtain ⟨tb, pb, vb⟩ := hb
  refine ⟨_, pe_cmpR ho pa pb (nomark _), fun H1 u hI Q q => va H1 u hI _ fun x H2 x' u2 i2 hx px => vb H2 (u.trans u2) i2 _ fun y H3 y' u3 i3 hy py => ?_⟩
  subst px; subst py
  exact ⟨W, _, _, hx, hy, i3, fun H4 u4 i4 => q _ H4 false ((u2.trans u3).trans u4) i4 rfl rfl⟩
/-! ### str, repr of Ratios -/
structure SDef (P : Program) (w : World) (K : PySem.W.Frag) (mg : Str → Option Value) (base : Heap) (k : Nat) (C : Addr) (nm : Str) (g : Rt C → Str) (pre : Rt C → Prop) : Prop where
  ex : ∃ f fd, PySem.W.findIn K (.ref C) nm = some (some (.ref f)) ∧ PySem.W.isFn K (.ref f) = true ∧ FnOk P w K mg base CX0 k f fd ["self"] (SpF (fun a : Cns (Rt C) Nil => pre a.h) fun a y => y = g a.h) ∧ Binds K fd ["self"] []
variable {g : Rt C → Str} {pre : Rt C → Prop}
theorem own_text {A' : Around} (F : ∃ f fd, PySem.W.findIn X.K (.ref C) nm = some (some (.ref f)) ∧ PySem.W.isFn X.K (.ref f) = true ∧ FnOk X.prog X.w X.K X.mg X.base CX0 k f fd ["self"] (SpF (fun a : Cns (Rt C) Nil => pre a.h) fun a y => y = g a.h) ∧ Binds X.K fd ["self"] [])
    (hr : Room k A') (fr : A'.frames = X.A.frames) {pins : List (Addr × Obj)} {s : Shared} {v : V} {u : Value} {Q : VK} (I : Inv X pins σ H s) (hx : Is W H v r) (rv : RelV v u) (hI : W.I H) (hp : pre r) (q : ∀ H', Up W H H' → W.I H' → Q (.str (g r)) H') :
    ∃ (f : Addr) (p1 : Addr) (od : Obj) (ox : Obj), PySem.W.findIn X.K (.ref C) nm = some (some (.ref f)) ∧ PySem.W.isFn X.K (.ref f) = true ∧ u = .ref p1 ∧ PySem.W.InstAt s.heap p1 ox C (some od) ∧ wpAny (model X.prog X.w) A' (call (.ref f) [.ref p1]) (PySem.W.StrBack (EP X pins σ Q)) X.xe s := by
  obtain ⟨f, fd, hs, hf, F, hbi⟩ := F
  obtain ⟨p1, dx, rfl, nM, e1⟩ := id hx
  cases rv
  obtain ⟨mA, J, _⟩ := ins_get I.hok e1
  obtain ⟨od, J, _⟩ := J.look
  refine ⟨f, p1, od, _, hs, hf, rfl, J, ?_⟩
  have z : SpF (fun a : Cns (Rt C) Nil => pre a.h) (fun a y => y = g a.h) [.ref p1] H (fun w H' => w = .str (g r) ∧ Up W H H' ∧ W.I H') E0 := ⟨W, ⟨r, ⟨⟩⟩, ⟨_, _, rfl, hx, rfl⟩, hI, hp, fun w H' y' u' i' hy' ey => by
    cases hy'
    subst ey
    exact ⟨rfl, u', i'⟩⟩
  have hl := F.len _ _ _ _ z
  have e0 : Env0 X.prog X.w X.K X.mg X.base A' X.stack s H := by
    have e := I.env0
    exact ⟨by rw [fr]; exact e.frames, e.mod, e.bs, e.bsz, e.funs, e.frf, e.hok, e.bare⟩
  refine wpAny_call (codeAny_mono (F.run A' X.stack s H ⟨[.ref p1], []⟩ [.ref p1] [.ref p1] _ E0 hr e0 (by
    have h := hbi s [.ref p1] I.kIn (by simpa using hl)
    simpa using h) (.cons rfl .nil) z) fun rr s' hq => ?_)
  cases rr with
  | error e => exact False.elim hq
  | ok fl =>
    cases fl with
    | ret w =>
      obtain ⟨z, H', I', rz, ez, ex, iz⟩ := I.after hq
      subst ez
      obtain ⟨t, rfl⟩ := rz
      exact ⟨.str (g r), H', I', ⟨t, rfl⟩, q H' ex iz⟩
    | next => exact False.elim hq
    | brk => exact False.elim hq
    | cont => exact False.elim hq
theorem dx_strOwn (B : SDef X.prog X.w X.K X.mg X.base k C "__str__" g pre) (hr : Room (k + 2) X.A) (h : Dx X W e σ H (· = r)) (hp : pre r) (hm : X.mg "str" = none) (hg : Gl X "str" := by rfl)
    (hs : starEach (e :: []) X.env = (false, eval e X.env) :: starEach [] X.env := by rfl) (hpl : (backTo pos (starEach [] X.env)).any (·.1) = false := by rfl) : Dx X W (.Call (.Name "str" p) [e] [] pos) σ H (· = g r) := by
  have hc : CallR X (.type "str") (fun vs H Q => ∃ (W : Wld) (r : Rt C) (v : V), vs = [v] ∧ Is W H v r ∧ W.I H ∧ pre r ∧ ∀ H', Up W H H' → W.I H' → Q (.str (g r)) H') := by
    intro pins s σ H vs us Q I rv ⟨W, r, v, e1, hx, hI, hp, q⟩
    subst e1
    cases rv with
    | cons rv rn =>
      cases rn
      have hr2 : Room k X.A.in1.in1 := hr.in1.in1
      obtain ⟨f, p1, od, ox, hs, hf, rfl, J, run⟩ := own_text B.ex hr2 rfl I hx rv hI hp q
      exact PySem.W.kso_call hr2.units0 I.kIn J hs hf run
  obtain ⟨te, pe, ev⟩ := h
  refine ⟨_, pe_callTy hc hg hm (by decide +kernel) (pa_cons pe pa_nil hs) (he := hs) (hpl := hpl), fun H1 u hI Q q => ev H1 u hI _ fun v H2 x u2 i2 hx px => ?_⟩
  subst px
  exact ⟨W, x, v, rfl, hx, i2, hp, fun H3 u3 i3 => q _ H3 _ (u2.trans u3) i3 rfl rfl⟩
theorem dx_reprOwn (B : SDef X.prog X.w X.K X.mg X.base k C "__repr__" g pre) (hr : Room (k + 1) X.A) (h : Dx X W e σ H (· = r)) (hp : pre r) (hm : X.mg "repr" = none) (hg : Gl X "repr" := by rfl)
    (hs : starEach (e :: []) X.env = (false, eval e X.env) :: starEach [] X.env := by rfl) (hpl : (backTo pos (starEach [] X.env)).any (·.1) = false := by rfl) : Dx X W (.Call (.Name "repr" p) [e] [] pos) σ H (· = g r) := by
  have hc : CallR X (.builtin "repr") (fun vs H Q => ∃ (W : Wld) (r : Rt C) (v : V), vs = [v] ∧ Is W H v r ∧ W.I H ∧ pre r ∧ ∀ H', Up W H H' → W.I H' → Q (.str (g r)) H') := by
    intro pins s σ H vs us Q I rv ⟨W, r, v, e1, hx, hI, hp, q⟩
    subst e1
    cases rv with
    | cons rv rn =>
      cases rn
      obtain ⟨f, p1, od, ox, hs, hf, rfl, J, run⟩ := own_text B.ex hr.in1 rfl I hx rv hI hp q
      obtain ⟨m, hF⟩ := I.fr
      exact PySem.W.repr_K hr.in1.units0 hF I.ok.mod.kin J hs hf run
  obtain ⟨te, pe, ev⟩ := h
  refine ⟨_, pe_callB hc hg hm (by decide +kernel) (pa_cons pe pa_nil hs) (he := hs) (hpl := hpl), fun H1 u hI Q q => ev H1 u hI _ fun v H2 x u2 i2 hx px => ?_⟩
  subst px
  exact ⟨W, x, v, rfl, hx, i2, hp, fun H3 u3 i3 => q _ H3 _ (u2.trans u3) i3 rfl rfl⟩
end
end Inn
set_option Elab.async false
set_option linter.all false
set_option maxRecDepth 100000
set_option maxHeartbeats 4000000
namespace Inn
open PySem L2 PySem.Spec PyProof.Rows
open Dat (Is)
section
variable {X : Cx} {W : Wld} {σ : L2.St} {H : Hp} {pos p apos : Pos} {a b e o : Expr} {es : List Expr} {nm : Str} {k : Nat} {α β A : Type} [Dat α] [Dat β] [DArgs A]
/-! ### built-ins -/
theorem dx_cb1 {id : String} {r : List V → Hp → VK → Prop} {P : α → Prop} {S : β → Prop} (hc : CallR X (.builtin id) r) (h : Dx X W e σ H P) (hm : X.mg nm = none) (hv : bootBuiltins nm = some (.builtin id))
    (hr : ∀ v H1 x (Q : VK), Up W H H1 → W.I H1 → Is W H1 v x → P x → (∀ w H2 y, Up W H1 H2 → W.I H2 → Is W H2 w y → S y → Q w H2) → r [v] H1 Q) (hg : Gl X nm := by rfl) (hn : nm ≠ "__name__" := by decide) (hdb : (nm == ("__debug__" : Str)) = false := by decide)
    (hs : starEach (e :: []) X.env = (false, eval e X.env) :: starEach [] X.env := by rfl) (hpl : (backTo pos (starEach [] X.env)).any (·.1) = false := by rfl) : Dx X W (.Call (.Name nm p) [e] [] pos) σ H S := by
  obtain ⟨te, pe, ev⟩ := h
  exact ⟨_, pe_callB hc hg hm hv (pa_cons pe pa_nil hs) hn hdb hs hpl, fun H1 u hI Q q => ev H1 u hI _ fun v H2 x u2 i2 hx px => hr v H2 x Q (u.trans u2) i2 hx px fun w H3 y u3 i3 hy sy => q w H3 y (u2.trans u3) i3 hy sy⟩
theorem dx_cb2 {γ : Type} [Dat γ] {id : String} {r : List V → Hp → VK → Prop} {P : α → Prop} {P2 : γ → Prop} {S : β → Prop} (hc : CallR X (.builtin id) r) (h : Dx X W a σ H P) (h2 : Dx X W b σ H P2) (hm : X.mg nm = none) (hv : bootBuiltins nm = some (.builtin id))
    (hr : ∀ v w H1 x z (Q : VK), Up W H H1 → W.I H1 → Is W H1 v x → Is W H1 w z → P x → P2 z → (∀ w H2 y, Up W H1 H2 → W.I H2 → Is W H2 w y → S y → Q w H2) → r [v, w] H1 Q) (hg : Gl X nm := by rfl) (hn : nm ≠ "__name__" := by decide) (hdb : (nm == ("__debug__" : Str)) = false := by decide)
    (hs : starEach (a :: [b]) X.env = (false, eval a X.env) :: starEach [b] X.env := by rfl) (hs2 : starEach (b :: []) X.env = (false, eval b X.env) :: starEach [] X.env := by rfl) (hpl : (backTo pos (starEach [b] X.env)).any (·.1) = false := by rfl) : Dx X W (.Call (.Name nm p) [a, b] [] pos) σ H S := by
  obtain ⟨te, pe, ev⟩ := h
  obtain ⟨tb, pb, vb⟩ := h2
  exact ⟨_, pe_callB hc hg hm hv (pa_cons pe (pa_cons pb pa_nil hs2) hs) hn hdb hs hpl, fun H1 u hI Q q => ev H1 u hI _ fun v H2 x u2 i2 hx px => vb H2 (u.trans u2) i2 _ fun w H3 z u3 i3 hz pz => hr v w H3 x z Q ((u.trans u2).trans u3) i3 (Dat.up u3 hx) hz px pz fun w' H4 y u4 i4 hy sy => q w' H4 y ((u2.trans u3).trans u4) i4 hy sy⟩
theorem dx_abs {i : Int} (h : Dx X W e σ H (· = i)) (hm : X.mg "abs" = none) (hg : Gl X "abs" := by rfl) (hs : starEach (e :: []) X.env = (false, eval e X.env) :: starEach [] X.env := by rfl) (hpl : (backTo pos (starEach [] X.env)).any (·.1) = false := by rfl) :
    Dx X W (.Call (.Name "abs" p) [e] [] pos) σ H (fun x : Int => x = if i < 0 then -i else i) := dx_cb1 call_abs h hm (by decide +kernel) (fun v H1 x Q _ hI hx px q => by
  subst px
  exact ⟨x, by rw [show v = V.int x from hx], q _ H1 _ (Up.refl _) hI rfl rfl⟩) hg (hs := hs) (hpl := hpl)
theorem dx_max2P {i : Int} {P : Int → Prop} (hc : X.calm = true) (ha : Dx X W a σ H (· = i)) (hb : Dx X W b σ H P) (hm : X.mg "max" = none) (hg : Gl X "max" := by rfl) (hs : starEach (a :: [b]) X.env = (false, eval a X.env) :: starEach [b] X.env := by rfl) (hs2 : starEach (b :: []) X.env = (false, eval b X.env) :: starEach [] X.env := by rfl) (hpl : (backTo pos (starEach [b] X.env)).any (·.1) = false := by rfl) :
    Dx X W (.Call (.Name "max" p) [a, b] [] pos) σ H (fun x : Int => ∃ j, P j ∧ x = if j > i then j else i) := dx_cb2 (call_max2 hc) ha hb hm (by decide +kernel) (fun v w H1 x z Q _ hI hx hz px pz q => by
  subst px
  exact ⟨x, z, by rw [show v = V.int x from hx, show w = V.int z from hz], q _ H1 _ (Up.refl _) hI rfl ⟨z, pz, rfl⟩⟩) hg (hs := hs) (hs2 := hs2) (hpl := hpl)
theorem dx_ty1 {T : String} {r : List V → Hp → VK → Prop} {P : α → Prop} {S : β → Prop} (hc : CallR X (.type T) r) (h : Dx X W e σ H P) (hm : X.mg nm = none) (hv : bootBuiltins nm = some (.type T))
    (hr : ∀ v H1 x (Q : VK), Up W H H1 → W.I H1 → Is W H1 v x → P x → (∀ w H2 y, Up W H1 H2 → W.I H2 → Is W H2 w y → S y → Q w H2) → r [v] H1 Q) (hg : Gl X nm := by rfl) (hn : nm ≠ "__name__" := by decide) (hdb : (nm == ("__debug__" : Str)) = false := by decide)
    (hs : starEach (e :: []) X.env = (false, eval e X.env) :: starEach [] X.env := by rfl) (hpl : (backTo pos (starEach [] X.env)).any (·.1) = false := by rfl) : Dx X W (.Call (.Name nm p) [e] [] pos) σ H S := by
  obtain ⟨te, pe, ev⟩ := h
  exact ⟨_, pe_callTy hc hg hm hv (pa_cons pe pa_nil hs) hn hdb hs hpl, fun H1 u hI Q q => ev H1 u hI _ fun v H2 x u2 i2 hx px => hr v H2 x Q (u.trans u2) i2 hx px fun w H3 y u3 i3 hy sy => q w H3 y (u2.trans u3) i3 hy sy⟩
theorem dx_intP {P : Int → Prop} (h : Dx X W e σ H P) (hm : X.mg "int" = none) (hg : Gl X "int" := by rfl) (hs : starEach (e :: []) X.env = (false, eval e X.env) :: starEach [] X.env := by rfl) (hpl : (backTo pos (starEach [] X.env)).any (·.1) = false := by rfl) :
    Dx X W (.Call (.Name "int" p) [e] [] pos) σ H P := dx_ty1 call_int1 h hm (by decide +kernel) (fun v H1 x Q _ hI hx px q => .inl ⟨x, by rw [show v = V.int x from hx], q _ H1 x (Up.refl _) hI rfl px⟩) hg (hs := hs) (hpl := hpl)
theorem dx_intB {k : Bool} (h : Dx X W e σ H (· = k)) (hm : X.mg "int" = none) (hg : Gl X "int" := by rfl) (hs : starEach (e :: []) X.env = (false, eval e X.env) :: starEach [] X.env := by rfl) (hpl : (backTo pos (starEach [] X.env)).any (·.1) = false := by rfl) :
    Dx X W (.Call (.Name "int" p) [e] [] pos) σ H (fun x : Int => x = if k = true then 1 else 0) := dx_ty1 call_int1 h hm (by decide +kernel) (fun v H1 x Q _ hI hx px q => by
  subst px
  exact .inr ⟨x, by rw [show v = V.bl x from hx], q _ H1 _ (Up.refl _) hI rfl rfl⟩) hg (hs := hs) (hpl := hpl)
theorem dx_strI {i : Int} (h : Dx X W e σ H (· = i)) (hz : i.natAbs.log2 < 1920) (hm : X.mg "str" = none) (hg : Gl X "str" := by rfl) (hs : starEach (e :: []) X.env = (false, eval e X.env) :: starEach [] X.env := by rfl) (hpl : (backTo pos (starEach [] X.env)).any (·.1) = false := by rfl) :
    Dx X W (.Call (.Name "str" p) [e] [] pos) σ H (fun x : Str => x = (Str.ofString (toString i))) := dx_ty1 call_str_int h hm (by decide +kernel) (fun v H1 x Q _ hI hx px q => by
  subst px
  exact ⟨x, by rw [show v = V.int x from hx], hz, q _ H1 _ (Up.refl _) hI rfl rfl⟩) hg (hs := hs) (hpl := hpl)
theorem dx_len {xs : List α} (h : Dx X W e σ H (· = xs)) (hm : X.mg "len" = none) (hg : Gl X "len" := by rfl) (hs : starEach (e :: []) X.env = (false, eval e X.env) :: starEach [] X.env := by rfl) (hpl : (backTo pos (starEach [] X.env)).any (·.1) = false := by rfl) :
    Dx X W (.Call (.Name "len" p) [e] [] pos) σ H (fun x : Int => x = xs.length) := dx_cb1 call_len_seq h hm PySem.boot_len (fun v H1 x Q _ hI hx px q => by
  subst px
  obtain ⟨p, us, rfl, n, e1, h1⟩ := hx
  refine ⟨p, us, rfl, .inl (SqL.of e1), ?_⟩
  rw [paired_len h1]
  exact q _ H1 _ (Up.refl _) hI rfl rfl) hg (hs := hs) (hpl := hpl)
theorem ints_of {H : Hp} : ∀ {us : List V} {ns : List Int}, Paired (fun u x => Is W H u x) us ns → us = ns.map V.int
  | _, _, .nil => rfl
  | _, _, .cons h t => by rw [List.map_cons, ints_of t, show _ = V.int _ from h]
theorem bls_of {H : Hp} : ∀ {us : List V} {ns : List Bool}, Paired (fun u x => Is W H u x) us ns → us = ns.map V.bl
  | _, _, .nil => rfl
  | _, _, .cons h t => by rw [List.map_cons, bls_of t, show _ = V.bl _ from h]
theorem dx_sum {xs : List Int} (hc : X.calm = true) (h : Dx X W e σ H (· = xs)) (hm : X.mg "sum" = none) (hg : Gl X "sum" := by rfl) (hs : starEach (e :: []) X.env = (false, eval e X.env) :: starEach [] X.env := by rfl) (hpl : (backTo pos (starEach [] X.env)).any (·.1) = false := by rfl) :
    Dx X W (.Call (.Name "sum" p) [e] [] pos) σ H (· = xs.sum) := dx_cb1 (cr_sum hc) h hm (by decide +kernel) (fun v H1 x Q _ hI hx px q => by
  subst px
  obtain ⟨p, us, rfl, n, e1, h1⟩ := hx
  rw [ints_of h1] at e1
  exact ⟨p, x, rfl, SqL.of e1, q _ H1 _ (Up.refl _) hI rfl rfl⟩) hg (hs := hs) (hpl := hpl)
theorem dx_all {xs : List Bool} (hc : X.calm = true) (h : Dx X W e σ H (· = xs)) (hm : X.mg "all" = none) (hg : Gl X "all" := by rfl) (hs : starEach (e :: []) X.env = (false, eval e X.env) :: starEach [] X.env := by rfl) (hpl : (backTo pos (starEach [] X.env)).any (·.1) = false := by rfl) :
    Dx X W (.Call (.Name "all" p) [e] [] pos) σ H (· = xs.all id) := dx_cb1 (cr_all hc) h hm (by decide +kernel) (fun v H1 x Q _ hI hx px q => by
  subst px
  obtain ⟨p, us, rfl, n, e1, h1⟩ := hx
  rw [bls_of h1] at e1
  exact ⟨p, x, rfl, SqL.of e1, q _ H1 _ (Up.refl _) hI rfl rfl⟩) hg (hs := hs) (hpl := hpl)
/-- divmod by a written positive number -/
theorem dx_divmodP {P : Int → Prop} {j : Int} (ha : Dx X W a σ H P) (hb : Dx X W b σ H (· = j)) (h0 : 0 < j) (h9 : j.natAbs.log2 < 9000) (hm : X.mg "divmod" = none) (hg : Gl X "divmod" := by rfl) (hs : starEach (a :: [b]) X.env = (false, eval a X.env) :: starEach [b] X.env := by rfl) (hs2 : starEach (b :: []) X.env = (false, eval b X.env) :: starEach [] X.env := by rfl) (hpl : (backTo pos (starEach [b] X.env)).any (·.1) = false := by rfl) :
    Dx X W (.Call (.Name "divmod" p) [a, b] [] pos) σ H (fun x : Int × Int => ∃ i, P i ∧ x = (i / j, i % j)) := dx_cb2 call_divmodW ha hb hm (by decide +kernel) (fun v w H1 x z Q _ hI hx hz px pz q => by
  subst pz
  refine ⟨x, z, by rw [show v = V.int x from hx, show w = V.int z from hz], ⟨h0, PyProof.noPylong_of_log2 h9⟩, fun p hp => ?_⟩
  exact q _ _ (x / z, x % z) (Up.new hp) (I_new hI hp) ⟨p, _, _, rfl, not_M hI hp, upd_same, rfl, rfl⟩ ⟨x, px, rfl⟩) hg (hs := hs) (hs2 := hs2) (hpl := hpl)
/-- gcd, lcm: a module's name for a built-in -/
theorem dx_gcd {i j : Int} (ha : Dx X W a σ H (· = i)) (hb : Dx X W b σ H (· = j)) (hm : X.mg "gcd" = some (.builtin "math.gcd")) (hg : Gl X "gcd" := by rfl) (hs : starEach (a :: [b]) X.env = (false, eval a X.env) :: starEach [b] X.env := by rfl) (hs2 : starEach (b :: []) X.env = (false, eval b X.env) :: starEach [] X.env := by rfl) (hpl : (backTo pos (starEach [b] X.env)).any (·.1) = false := by rfl) :
    Dx X W (.Call (.Name "gcd" p) [a, b] [] pos) σ H (fun x : Int => x = (Int.gcd i j : Int)) := by
  obtain ⟨te, pe, ev⟩ := ha
  obtain ⟨tb, pb, vb⟩ := hb
  refine ⟨_, pe_callBfun cr_gcd hg hm (pa_cons pe (pa_cons pb pa_nil hs2) hs) (by decide) hs hpl, fun H1 u hI Q q => ev H1 u hI _ fun v H2 x u2 i2 hx px => vb H2 (u.trans u2) i2 _ fun w H3 z u3 i3 hz pz => ?_⟩
  subst px; subst pz
  exact ⟨x, z, by rw [show v = V.int x from hx, show w = V.int z from hz], q _ H3 _ (u2.trans u3) i3 rfl rfl⟩
/-- bits for the built-in gcd and lcm -/
def Lc (i : Int) : Prop := i.natAbs < 2 ^ 6000
theorem lcm_bits {n : Nat} (h : n < 2 ^ 6000) : n.log2 < 6000 := by
  by_cases h0 : n = 0
  · subst h0; decide
  · exact (Nat.log2_lt h0).mpr h
theorem cr_lcm : CallR X (.builtin "math.lcm") (fun vs H Q => ∃ i j : Int, vs = [.int i, .int j] ∧ Lc i ∧ Lc j ∧ Q (.int (Nat.lcm i.natAbs j.natAbs : Nat)) H) := by
  intro pins s σ H vs us Q I r h
  obtain ⟨i, j, rfl, hi, hj, q⟩ := h
  obtain ⟨t, u, rfl⟩ := Vals.int2 r
  have e1 : Nat.lcm 1 i.natAbs = i.natAbs := by simp [Nat.lcm]
  have h1 := lcm_bits hi
  have h2 := lcm_bits hj
  have hl : Nat.lcm i.natAbs j.natAbs < 2 ^ 12000 := by
    refine Nat.lt_of_le_of_lt (Nat.div_le_self _ _) ?_
    rw [show (12000 : Nat) = 6000 + 6000 from rfl, Nat.pow_add]
    exact Nat.mul_lt_mul'' hi hj
  have g := PySem.W.mg_run_lcm i t j u (by
      have : (max 1 i.natAbs).log2 < 6000 := by
        rcases Nat.le_total 1 i.natAbs with h | h
        · rw [Nat.max_eq_right h]; exact h1
        · rw [Nat.max_eq_left h]; decide
      omega) (by
      have : (max i.natAbs j.natAbs).log2 < 6000 := by
        rcases Nat.le_total i.natAbs j.natAbs with h | h
        · rw [Nat.max_eq_right h]; exact h2
        · rw [Nat.max_eq_left h]; exact h1
      omega) (by
      rw [e1, Int.natAbs_natCast]
      have : (Nat.lcm i.natAbs j.natAbs).log2 < 12000 := by
        by_cases h0 : Nat.lcm i.natAbs j.natAbs = 0
        · rw [h0]; decide
        · exact (Nat.log2_lt h0).mpr hl
      have e : bitsLine = 134217728 := by decide
      omega)
  rw [e1] at g
  exact call_function_meets PySem.W.MGF.kind_lcm PySem.W.MGF.plain_lcm PySem.W.MGF.entry_lcm (PySem.W.MGF.args_lcm _ _) g.meets ⟨.int _, H, I.tok _, ⟨_, rfl⟩, q⟩
theorem dx_lcm {i j : Int} (ha : Dx X W a σ H (· = i)) (hb : Dx X W b σ H (· = j)) (li : Lc i) (lj : Lc j) (hm : X.mg "lcm" = some (.builtin "math.lcm")) (hg : Gl X "lcm" := by rfl) (hs : starEach (a :: [b]) X.env = (false, eval a X.env) :: starEach [b] X.env := by rfl) (hs2 : starEach (b :: []) X.env = (false, eval b X.env) :: starEach [] X.env := by rfl) (hpl : (backTo pos (starEach [b] X.env)).any (·.1) = false := by rfl) :
    Dx X W (.Call (.Name "lcm" p) [a, b] [] pos) σ H (fun x : Int => x = (Nat.lcm i.natAbs j.natAbs : Nat)) := by
  obtain ⟨te, pe, ev⟩ := ha
  obtain ⟨tb, pb, vb⟩ := hb
  refine ⟨_, pe_callBfun cr_lcm hg hm (pa_cons pe (pa_cons pb pa_nil hs2) hs) (by decide) hs hpl, fun H1 u hI Q q => ev H1 u hI _ fun v H2 x u2 i2 hx px => vb H2 (u.trans u2) i2 _ fun w H3 z u3 i3 hz pz => ?_⟩
  subst px; subst pz
  exact ⟨x, z, by rw [show v = V.int x from hx, show w = V.int z from hz], li, lj, q _ H3 _ (u2.trans u3) i3 rfl rfl⟩
/-! ### more operators -/
theorem op_fdivA : OpR X (binaryOp .FloorDiv) (rI (fun _ j => j ≠ 0 ∧ j.natAbs.log2 < 9000) fun i j => .int (i.fdiv j)) := opI fun i j _ _ _ _ _ hc q => floordiv_int hc.1 q (.inl (PyProof.noPylong_of_log2 hc.2))
theorem dx_fdiv {i j : Int} (ha : Dx X W a σ H (· = i)) (hb : Dx X W b σ H (· = j)) (h0 : j ≠ 0) (h9 : j.natAbs.log2 < 9000) : Dx X W (.BinOp a .FloorDiv b pos) σ H (· = i.fdiv j) := dx_opI (g := fun i j => i.fdiv j) op_fdivA ha hb ⟨h0, h9⟩
theorem dx_fdivP {P : Int → Prop} {j : Int} (ha : Dx X W a σ H P) (hb : Dx X W b σ H (· = j)) (h0 : j ≠ 0) (h9 : j.natAbs.log2 < 9000) : Dx X W (.BinOp a .FloorDiv b pos) σ H (fun z => ∃ i, P i ∧ z = i.fdiv j) := dx_op op_fdivA ha hb fun u v H1 x y Q _ hI hx hy px py q => by
  subst py
  exact ⟨_, _, hx, hy, ⟨h0, h9⟩, q _ H1 _ (Up.refl _) hI rfl ⟨x, px, rfl⟩⟩
theorem dx_modP {P : Int → Prop} {j : Int} (ha : Dx X W a σ H P) (hb : Dx X W b σ H (· = j)) (h0 : j ≠ 0) : Dx X W (.BinOp a .Mod b pos) σ H (fun z => ∃ i, P i ∧ z = i.fmod j) := dx_op op_modN ha hb fun u v H1 x y Q _ hI hx hy px py q => by
  subst py
  exact ⟨_, _, hx, hy, h0, q _ H1 _ (Up.refl _) hI rfl ⟨x, px, rfl⟩⟩
theorem dx_mulP {P R : Int → Prop} (ha : Dx X W a σ H P) (hb : Dx X W b σ H R) (hc : ∀ i j, P i → R j → CMulW i j) : Dx X W (.BinOp a .Mult b pos) σ H (fun z => ∃ i j, P i ∧ R j ∧ z = i * j) := dx_op op_mulW ha hb fun u v H1 x y Q _ hI hx hy px py q =>
  ⟨_, _, hx, hy, hc x y px py, q _ H1 _ (Up.refl _) hI rfl ⟨x, y, px, py, rfl⟩⟩
theorem dx_pow {i j : Int} (ha : Dx X W a σ H (· = i)) (hb : Dx X W b σ H (· = j)) (hc : 0 ≤ j ∧ j ≤ 1000000 ∧ i.natAbs < 2 ^ 64) : Dx X W (.BinOp a .Pow b pos) σ H (· = i ^ j.toNat) := dx_opI (g := fun i j => i ^ j.toNat) op_pow ha hb hc
theorem tx_gtP {P : Int → Prop} {j : Int} (ha : Dx X W a σ H P) (hb : Dx X W b σ H (· = j)) : Tx X W (.Compare a [.Gt] [b] pos) σ H (fun z => ∃ i, P i ∧ z = decide (j < i)) := by
  obtain ⟨ta, pa, va⟩ := ha
  obtain ⟨tb, pb, vb⟩ := hb
  refine ⟨_, pt_cmpR op_gt pa pb (nomark _), fun H1 u hI Q q => va H1 u hI _ fun v H2 x u2 i2 hx px => vb H2 (u.trans u2) i2 _ fun w H3 y u3 i3 hy py => ?_⟩
  subst py
  exact ⟨_, _, hx, hy, _, rfl, q _ H3 (u2.trans u3) i3 ⟨x, px, rfl⟩⟩
/-- texts -/
theorem dx_addS {x y : Str} (ha : Dx X W a σ H (· = x)) (hb : Dx X W b σ H (· = y)) (hl : x.length + y.length ≤ sizeLine) : Dx X W (.BinOp a .Add b pos) σ H (· = x ++ y) := dx_op op_add_str ha hb fun u v H1 x' y' Q _ hI hx hy px py q => by
  subst px; subst py
  exact ⟨_, _, hx, hy, hl, q _ H1 _ (Up.refl _) hI rfl rfl⟩
/-- lists -/
theorem paired_app {F : V → α → Prop} : ∀ {us vs : List V} {xs ys : List α}, Paired F us xs → Paired F vs ys → Paired F (us ++ vs) (xs ++ ys)
  | _, _, _, _, .nil, s => s
  | _, _, _, _, .cons r t, s => .cons r (paired_app t s)
theorem dx_cat {xs ys : List α} (ha : Dx X W a σ H (· = xs)) (hb : Dx X W b σ H (· = ys)) (hl : xs.length + ys.length ≤ 100000) : Dx X W (.BinOp a .Add b pos) σ H (· = xs ++ ys) := dx_op op_cat ha hb fun u v H1 x' y' Q _ hI hx hy px py q => by
  subst px; subst py
  obtain ⟨p1, us, rfl, n1, e1, h1⟩ := hx
  obtain ⟨p2, vs, rfl, n2, e2, h2⟩ := hy
  refine ⟨p1, p2, us, vs, rfl, rfl, e1, e2, Nat.le_trans (by rw [paired_len h1, paired_len h2]; exact hl) (by decide), fun p hp => ?_⟩
  exact q _ _ _ (Up.new hp) (I_new hI hp) ⟨p, _, rfl, not_M hI hp, upd_same, paired_up (Up.new hp) (paired_app h1 h2)⟩ rfl
theorem paired_rep {F : V → α → Prop} {us : List V} {xs : List α} (h : Paired F us xs) : ∀ n : Nat, Paired F (List.replicate n us).flatten (List.replicate n xs).flatten
  | 0 => .nil
  | n + 1 => by
    rw [List.replicate_succ, List.replicate_succ, List.flatten_cons, List.flatten_cons]
    exact paired_app h (paired_rep h n)
theorem dx_rep {xs : List α} {k : Int} (ha : Dx X W a σ H (· = xs)) (hb : Dx X W b σ H (· = k)) (h0 : 0 ≤ k) (h1 : k ≤ 1000) (hl : xs.length ≤ 1000) : Dx X W (.BinOp a .Mult b pos) σ H (· = (List.replicate k.toNat xs).flatten) := dx_op op_rep ha hb fun u v H1 x' y' Q _ hI hx hy px py q => by
  subst px; subst py
  obtain ⟨p1, us, rfl, n1, e1, h1'⟩ := hx
  refine ⟨p1, _, us, rfl, hy, e1, by omega, by omega, Nat.le_trans (Nat.mul_le_mul (by rw [paired_len h1']; exact hl) (show y'.toNat ≤ 1000 by omega)) (by decide), fun p hp => ?_⟩
  exact q _ _ _ (Up.new hp) (I_new hI hp) ⟨p, _, rfl, not_M hI hp, upd_same, paired_up (Up.new hp) (paired_rep h1' _)⟩ rfl
/-! ### f"{a}..{b}" -/
def Jx (X : Cx) (W : Wld) (es : List Expr) (σ : L2.St) (H : Hp) (ys : List Str) : Prop := ∃ ts, PJ X es ts ∧ ∀ acc : Str, acc.length + (ys.map (·.length)).sum ≤ sizeLine → ∀ H1, Up W H H1 → W.I H1 → ∀ Q : Str → Hp → Prop, (∀ H2, Up W H1 H2 → W.I H2 → Q (ys.foldl (· ++ ·) acc) H2) → tJs ts acc σ H1 Q
theorem jx_nil : Jx X W [] σ H [] := ⟨[], .nil, fun acc _ H1 _ hI Q q => q H1 (Up.refl _) hI⟩
theorem jx_cons {e : Expr} {es : List Expr} {y : Str} {ys : List Str} (h : Dx X W e σ H (· = y)) (hr : Jx X W es σ H ys) : Jx X W (e :: es) σ H (y :: ys) := by
  obtain ⟨te, pe, ev⟩ := h
  obtain ⟨ts, pj, vj⟩ := hr
  refine ⟨te :: ts, .cons pe pj, fun acc hl H1 u hI Q q => ev H1 u hI _ fun v H2 x u2 i2 hx px => ?_⟩
  subst px
  rw [List.map_cons, List.sum_cons] at hl
  have hl2 : (acc ++ x).length = acc.length + x.length := by exact PySem.Str.length_append _ _
  exact ⟨x, hx, by omega, vj (acc ++ x) (by omega) H2 (u.trans u2) i2 Q fun H3 u3 i3 => q H3 (u2.trans u3) i3⟩
theorem dx_fmtS {e : Expr} {y : Str} (h : Dx X W e σ H (· = y)) (hl : y.length ≤ sizeLine) : Dx X W (.FormattedValue e (-1) none pos) σ H (· = y) := by
  obtain ⟨te, pe, ev⟩ := h
  exact ⟨_, pe_fmt pe, fun H1 u hI Q q => ev H1 u hI _ fun v H2 x u2 i2 hx px => by subst px; exact .inl ⟨x, hx, hl, q _ H2 x u2 i2 rfl rfl⟩⟩
theorem dx_fmtI {e : Expr} {i : Int} (h : Dx X W e σ H (· = i)) (hz : i.natAbs.log2 < 1920) : Dx X W (.FormattedValue e (-1) none pos) σ H (fun x : Str => x = Str.ofString (toString i)) := by
  obtain ⟨te, pe, ev⟩ := h
  exact ⟨_, pe_fmt pe, fun H1 u hI Q q => ev H1 u hI _ fun v H2 x u2 i2 hx px => by subst px; exact .inr ⟨x, hx, hz, q _ H2 _ u2 i2 rfl rfl⟩⟩
theorem dx_joined {v1 v2 : Expr} {rest : List Expr} {ys : List Str} (h : Jx X W (v1 :: v2 :: rest) σ H ys) (hl : (ys.map (·.length)).sum ≤ sizeLine) : Dx X W (.JoinedStr (v1 :: v2 :: rest) pos) σ H (· = ys.foldl (· ++ ·) Str.empty) := by
  obtain ⟨ts, pj, vj⟩ := h
  exact ⟨_, pe_joined pj, fun H1 u hI Q q => vj Str.empty (by show 0 + _ ≤ _; omega) H1 u hI _ fun H2 u2 i2 => q _ H2 _ u2 i2 rfl rfl⟩
end
end Inn
set_option Elab.async false
set_option linter.all false
set_option maxRecDepth 100000
set_option maxHeartbeats 4000000
namespace Inn
open PySem L2 PySem.Spec PyProof.Rows
open Dat (Is)
/-- plain data stand the same in a lesser world -/
class Wk (α : Type) [Dat α] where
  wk : ∀ {W W' : Wld} {H : Hp} {v : V} {x : α}, (∀ a, W.M a → W'.M a) → Is W' H v x → Is W H v x
instance : Wk Int := ⟨fun _ h => h⟩
instance : Wk Bool := ⟨fun _ h => h⟩
instance : Wk Str := ⟨fun _ h => h⟩
instance {α β : Type} [Dat α] [Dat β] [Wk α] [Wk β] : Wk (α × β) := ⟨fun m h => by
  obtain ⟨p, u, w, e1, n, e2, h1, h2⟩ := h
  exact ⟨p, u, w, e1, fun z => n (m _ z), e2, Wk.wk m h1, Wk.wk m h2⟩⟩
theorem paired_wk {α : Type} [Dat α] [Wk α] {W W' : Wld} {H : Hp} (m : ∀ a, W.M a → W'.M a) : ∀ {us : List V} {xs : List α}, Paired (fun u x => Is W' H u x) us xs → Paired (fun u x => Is W H u x) us xs
  | _, _, .nil => .nil
  | _, _, .cons h t => .cons (Wk.wk m h) (paired_wk m t)
instance {α : Type} [Dat α] [Wk α] : Wk (List α) := ⟨fun m h => by
  obtain ⟨p, us, e1, n, e2, h1⟩ := h
  exact ⟨p, us, e1, fun z => n (m _ z), e2, paired_wk m h1⟩⟩
instance {C : Addr} : Wk (Rt C) := ⟨fun m h => by
  obtain ⟨p, dx, e1, n, e2⟩ := h
  exact ⟨p, dx, e1, fun z => n (m _ z), e2⟩⟩
theorem paired_is {α : Type} [Dat α] {W : Wld} {H H' : Hp} {us : List V} {xs : List α} {i : Nat} {u : V} {x : α} (h : Paired (fun u x => Is W H u x) us xs) (hu : us[i]? = some u) (hx : xs[i]? = some x) (e : Up W H H') : Is W H' u x := by
  obtain ⟨x', h1, h2⟩ := paired_getL h hu
  rw [hx] at h1
  cases h1
  exact Dat.up e h2
/-! ### one list that grows -/
/-- the world in which the list at p, of no data, holds us -/
def Wg (W : Wld) (p : Addr) (us : List V) : Wld where
  M a := W.M a ∨ a = p
  I H := W.I H ∧ H p = some (.lst us)
  st h k := ⟨W.st h.1 fun a m => k a (.inl m), by rw [k p (.inr rfl)]; exact h.2⟩
  al h m := by
    rcases m with m | rfl
    · exact W.al h.1 m
    · exact ⟨_, h.2⟩
theorem wg_sub {W : Wld} {p : Addr} {us : List V} : ∀ a, W.M a → (Wg W p us).M a := fun _ m => .inl m
theorem wg_same {W : Wld} {p : Addr} {us vs : List V} : ∀ a, (Wg W p us).M a → (Wg W p vs).M a := fun _ m => m
/-- what stood ahead of the list's making stands -/
theorem up_wg {W : Wld} {H H' : Hp} {p : Addr} {us : List V} (u : Up (Wg W p us) H H') (hp : H p = none) : Up W H H' := fun a o n e => u a o (fun m => m.elim n fun z => ne_of_none e hp z) e
theorem up_at {W : Wld} {H : Hp} {D : Addr} {us : List V} {o : HO} : Up (Wg W D us) H (upd H D o) := fun a u n e => by
  rw [upd_ne fun z => n (.inr z)]
  exact e
theorem Up.gw {W : Wld} {H H' : Hp} {p : Addr} {us : List V} (u : Up W H H') : Up (Wg W p us) H H' := fun a o n e => u a o (fun m => n (.inl m)) e
/-- data that stood ahead of the list's making -/
class Gr (α : Type) [Dat α] where
  gr : ∀ {W : Wld} {H : Hp} {D : Addr} {us : List V} {v : V} {x : α}, H D = none → Is W H v x → Is (Wg W D us) H v x
instance : Gr Int := ⟨fun _ h => h⟩
instance : Gr Bool := ⟨fun _ h => h⟩
instance : Gr Str := ⟨fun _ h => h⟩
theorem gr_M {W : Wld} {H : Hp} {D p : Addr} {us : List V} {o : HO} (n : ¬ W.M p) (hD : H D = none) (e : H p = some o) : ¬ (Wg W D us).M p := fun m => m.elim n fun z => ne_of_none e hD z
instance {α β : Type} [Dat α] [Dat β] [Gr α] [Gr β] : Gr (α × β) := ⟨fun hD h => by
  obtain ⟨p, u, w, e1, n, e2, h1, h2⟩ := h
  exact ⟨p, u, w, e1, gr_M n hD e2, e2, Gr.gr hD h1, Gr.gr hD h2⟩⟩
theorem paired_gr {α : Type} [Dat α] [Gr α] {W : Wld} {H : Hp} {D : Addr} {vs : List V} (hD : H D = none) : ∀ {us : List V} {xs : List α}, Paired (fun u x => Is W H u x) us xs → Paired (fun u x => Is (Wg W D vs) H u x) us xs
  | _, _, .nil => .nil
  | _, _, .cons h t => .cons (Gr.gr hD h) (paired_gr hD t)
instance {α : Type} [Dat α] [Gr α] : Gr (List α) := ⟨fun hD h => by
  obtain ⟨p, us, e1, n, e2, h1⟩ := h
  exact ⟨p, us, e1, gr_M n hD e2, e2, paired_gr hD h1⟩⟩
instance {C : Addr} : Gr (Rt C) := ⟨fun hD h => by
  obtain ⟨p, dx, e1, n, e2⟩ := h
  exact ⟨p, dx, e1, gr_M n hD e2, e2⟩⟩
instance {C : Addr} : Gr (Vd C) := ⟨fun {W H D us v x} hD h => by
  cases x with
  | int i => exact h
  | bl i => exact h
  | non => exact h
  | str i => exact h
  | rat r => exact Gr.gr (α := Rt C) hD h
  | lst => obtain ⟨p, us, e1, n, e2⟩ := h; exact ⟨p, us, e1, gr_M n hD e2, e2⟩
  | tup => obtain ⟨p, us, e1, n, e2⟩ := h; exact ⟨p, us, e1, gr_M n hD e2, e2⟩
  | dct => obtain ⟨p, us, e1, n, e2⟩ := h; exact ⟨p, us, e1, gr_M n hD e2, e2⟩⟩
instance {C : Addr} : Gr (Nm C) := ⟨fun {W H D us v x} hD h => by
  cases x with
  | i n => exact h
  | r r => exact Gr.gr (α := Rt C) hD h⟩
instance {C : Addr} : Wk (Vd C) := ⟨fun {W W' H v x} m h => by
  cases x with
  | int i => exact h
  | bl i => exact h
  | non => exact h
  | str i => exact h
  | rat r => exact Wk.wk (α := Rt C) m h
  | lst => obtain ⟨p, us, e1, n, e2⟩ := h; exact ⟨p, us, e1, fun z => n (m _ z), e2⟩
  | tup => obtain ⟨p, us, e1, n, e2⟩ := h; exact ⟨p, us, e1, fun z => n (m _ z), e2⟩
  | dct => obtain ⟨p, us, e1, n, e2⟩ := h; exact ⟨p, us, e1, fun z => n (m _ z), e2⟩⟩
instance {C : Addr} : Wk (Nm C) := ⟨fun {W W' H v x} m h => by
  cases x with
  | i n => exact h
  | r r => exact Wk.wk (α := Rt C) m h⟩
section
variable {X : Cx} {W : Wld} {σ : L2.St} {H : Hp} {pos p apos : Pos} {a b c e o : Expr} {es : List Expr} {nm : Str} {k : Nat} {α β A : Type} [Dat α] [Dat β] [DArgs A] {D : Ends} {sts bd be : List Stmt}
/-- a value is dropped -/
theorem wss_expr {P : α → Prop} (he : Dx X W e σ H P) (hI : W.I H) (q : ∀ v H1 x, Up W H H1 → W.I H1 → Is W H1 v x → P x → Wss X sts D σ H1) (hs : swapsWith e none pos.line X.env = pure false := by rfl) : Wss X (.Expr e pos :: sts) D σ H := by
  obtain ⟨te, pe, ev⟩ := he
  exact ⟨_, pss_cons (ps_expr pe hs) wss_all, ev H (Up.refl _) hI _ fun v H1 x u i1 hx hp => q v H1 x u i1 hx hp⟩
/-- xs.append(e), the list at l -/
theorem wss_append {l : Addr} (i : Nat) {nl : Str} {us : List V} {P : α → Prop} {p1 pa1 : Pos} (hσ : σ[i]? = some (some (.ref l))) (he : Dx X W e σ H P) (hI : W.I H) (hl : ∀ H1, Up W H H1 → W.I H1 → H1 l = some (.lst us)) (hz : us.length < 100000)
    (q : ∀ v H1 x, Up W H H1 → W.I H1 → Is W H1 v x → P x → Wss X sts D σ (upd H1 l (.lst (us ++ [v]))))
    (hN : X.N[i]? = some nl := by rfl) (hvis : Vis X.env.scope nl := by first | exact Or.inl rfl | exact Or.inr (Or.inl rfl) | exact Or.inr (Or.inr rfl)) (hd : (nl == ("__debug__" : Str)) = false := by decide) (hcd : (nl == ("__classdict__" : Str)) = false := by decide)
    (hbase : attributeBase (.Name nl p1) "append" X.env (eval (.Name nl p1) X.env) = eval (.Name nl p1) X.env := by rfl)
    (hfew : ((backTo p (starEach (e :: []) X.env)).all (fun x => !x.1) && (backToKw p (keywordEach [] X.env)).all (fun x => x.1.isSome)
      && decide ((e :: ([] : List Expr)).length + ([] : List Keyword).length + (if ([] : List Keyword).isEmpty then 0 else 1) < 30)) = true := by rfl)
    (hline : (pa1.endLine == p.line) = true := by rfl)
    (hs : starEach (e :: []) X.env = (false, eval e X.env) :: starEach [] X.env := by rfl) (hpl : (backTo p (starEach [] X.env)).any (·.1) = false := by rfl) (hsw : swapsWith (.Call (.Attribute (.Name nl p1) "append" pa1) [e] [] p) none pos.line X.env = pure false := by rfl) :
    Wss X (.Expr (.Call (.Attribute (.Name nl p1) "append" pa1) [e] [] p) pos :: sts) D σ H := by
  obtain ⟨te, pe, ev⟩ := he
  refine ⟨_, pss_cons (ps_expr (pe_bm PySem.F.plainAttrs_list PySem.F.slot_list_append PySem.F.type_list_append mt_append (pe_var hN hvis hd hcd) (pa_cons pe pa_nil hs) hbase hfew hline hs hpl) hsw) wss_all, ?_⟩
  refine ⟨.ref l, hσ, ?_⟩
  have hl0 := hl H (Up.refl _) hI
  refine ⟨.inl ⟨rfl, _, SqL.of hl0⟩, ev H (Up.refl _) hI _ fun v H1 x u i1 hx hp => ?_⟩
  exact ⟨l, us, v, rfl, rfl, hl H1 u i1, Nat.lt_of_lt_of_le hz (by decide), q v H1 x u i1 hx hp⟩
/-! ### loops -/
/-- for x in xs -/
theorem wss_forL (j : Nat) {xs : List α} {nm : Str} {p1 : Pos} {iter : Expr} (hi : Dx X W iter σ H (· = xs)) (hI : W.I H) (Pv : Nat → L2.St → Hp → Prop) (nd : X.N.Nodup) (hp : PassesOwn (model X.prog X.w) X.A X.env X.xe) (hc : X.calm = true)
    (h0 : ∀ H1, Up W H H1 → W.I H1 → Pv 0 σ H1)
    (hs : ∀ H1, Up W H H1 → W.I H1 → ∀ (i : Nat) x v σ' H', xs[i]? = some x → Up W H1 H' → W.I H' → Is W H' v x → Pv i σ' H' → Wss X bd { D with nx := fun σ2 H2 => Up W H1 H2 ∧ W.I H2 ∧ Pv (i + 1) σ2 H2, ct := fun σ2 H2 => Up W H1 H2 ∧ W.I H2 ∧ Pv (i + 1) σ2 H2, bk := fun σ2 H2 => Wss X sts D σ2 H2 } (σ'.set j (some v)) H')
    (hd : ∀ σ' H', Up W H H' → W.I H' → Pv xs.length σ' H' → Wss X sts D σ' H') (hN : X.N[j]? = some nm := by rfl) (hx : L2.Loc X.env.scope nm := by first | exact Or.inl rfl | exact Or.inr rfl) (hf : X.fn nm = true ∨ X.env.scope.names.lookup nm = some .local := by first | exact .inl rfl | exact .inr rfl)
    (hfs : ∀ x, foldedSetIterable iter X.env x = pure x := by intro _; rfl) :
    Wss X (.For (.Name nm p1) iter bd [] pos :: sts) D σ H := by
  obtain ⟨te, pe, ev⟩ := hi
  refine ⟨_, pss_cons (ps_for hp hc (pi_list pe) (pg_name (i := j) nd hN hx hf) wss_all hfs) wss_all, ev H (Up.refl _) hI _ fun v H1 ys u1 i1 hv ey => ?_⟩
  subst ey
  obtain ⟨a, us, rfl, n, e1, h1⟩ := id hv
  refine ⟨a, rfl, ⟨_, SqL.of e1⟩, for_list (K := X.K) (a := a) (xs := us) (fun i σ' H' => Up W H1 H' ∧ W.I H' ∧ Pv i σ' H') ⟨Up.refl _, i1, h0 H1 u1 i1⟩ (fun i σ' H' _ q => SqL.of (q.1 a _ n e1)) (fun i w σ' H' hw q => ?_) (fun σ' H' q => ?_)⟩
  · obtain ⟨q1, q2, q3⟩ := q
    obtain ⟨x, hx', hwx⟩ := paired_getL h1 hw
    exact hs H1 u1 i1 i x w σ' H' hx' q1 q2 (paired_is h1 hw hx' q1) q3
  · obtain ⟨q1, q2, q3⟩ := q
    rw [paired_len h1] at q3
    exact hd σ' H' (u1.trans q1) q2 q3
/-- for a, b in xs, xs pairs -/
theorem wss_forL2 (j1 j2 : Nat) {xs : List (α × β)} {n1 n2 : Str} {p1 p2 pt : Pos} {kt : Nat} {iter : Expr} (hi : Dx X W iter σ H (· = xs)) (hI : W.I H) (Pv : Nat → L2.St → Hp → Prop) (nd : X.N.Nodup) (hp : PassesOwn (model X.prog X.w) X.A X.env X.xe) (hc : X.calm = true)
    (h0 : ∀ H1, Up W H H1 → W.I H1 → Pv 0 σ H1)
    (hs : ∀ H1, Up W H H1 → W.I H1 → ∀ (i : Nat) x y v w σ' H', xs[i]? = some (x, y) → Up W H1 H' → W.I H' → Is W H' v x → Is W H' w y → Pv i σ' H' → Wss X bd { D with nx := fun σ2 H2 => Up W H1 H2 ∧ W.I H2 ∧ Pv (i + 1) σ2 H2, ct := fun σ2 H2 => Up W H1 H2 ∧ W.I H2 ∧ Pv (i + 1) σ2 H2, bk := fun σ2 H2 => Wss X sts D σ2 H2 } ((σ'.set j1 (some v)).set j2 (some w)) H')
    (hd : ∀ σ' H', Up W H H' → W.I H' → Pv xs.length σ' H' → Wss X sts D σ' H') (hN1 : X.N[j1]? = some n1 := by rfl) (hN2 : X.N[j2]? = some n2 := by rfl) (hx1 : L2.Loc X.env.scope n1 := by first | exact Or.inl rfl | exact Or.inr rfl) (hx2 : L2.Loc X.env.scope n2 := by first | exact Or.inl rfl | exact Or.inr rfl)
    (hf1 : X.fn n1 = true ∨ X.env.scope.names.lookup n1 = some .local := by first | exact .inl rfl | exact .inr rfl) (hf2 : X.fn n2 = true ∨ X.env.scope.names.lookup n2 = some .local := by first | exact .inl rfl | exact .inr rfl)
    (ha1 : (assignEach (.Name n1 p1 :: [.Name n2 p2]) X.env).map (·.2) = assign (.Name n1 p1) X.env :: (assignEach [.Name n2 p2] X.env).map (·.2) := by rfl) (ha2 : (assignEach (.Name n2 p2 :: []) X.env).map (·.2) = assign (.Name n2 p2) X.env :: (assignEach [] X.env).map (·.2) := by rfl)
    (hn : (assignEach [.Name n1 p1, .Name n2 p2] X.env).length = 2 := by rfl) (hst : (assignEach [.Name n1 p1, .Name n2 p2] X.env).findIdx? (·.1) = none := by rfl)
    (hfs : ∀ x, foldedSetIterable iter X.env x = pure x := by intro _; rfl) :
    Wss X (.For (.Tuple [.Name n1 p1, .Name n2 p2] kt pt) iter bd [] pos :: sts) D σ H := by
  obtain ⟨te, pe, ev⟩ := hi
  refine ⟨_, pss_cons (ps_for hp hc (pi_list pe) (pg_tup hc (pgs_cons (pg_name (i := j1) nd hN1 hx1 hf1) (pgs_cons (pg_name (i := j2) nd hN2 hx2 hf2) pgs_nil ha2) ha1) hn hst) wss_all hfs) wss_all, ev H (Up.refl _) hI _ fun v H1 ys u1 i1 hv ey => ?_⟩
  subst ey
  obtain ⟨a, us, rfl, n, e1, h1⟩ := id hv
  refine ⟨a, rfl, ⟨_, SqL.of e1⟩, for_list (K := X.K) (a := a) (xs := us) (fun i σ' H' => Up W H1 H' ∧ W.I H' ∧ Pv i σ' H') ⟨Up.refl _, i1, h0 H1 u1 i1⟩ (fun i σ' H' _ q => SqL.of (q.1 a _ n e1)) (fun i w σ' H' hw q => ?_) (fun σ' H' q => ?_)⟩
  · obtain ⟨q1, q2, q3⟩ := q
    obtain ⟨x, hx', hwx⟩ := paired_getL h1 hw
    have hz := paired_is h1 hw hx' q1
    obtain ⟨pp, v1, v2, rfl, nn, e2, z1, z2⟩ := id hz
    exact ⟨pp, [v1, v2], rfl, SqT.of e2, rfl, v1, [v2], rfl, v2, [], rfl, rfl, hs H1 u1 i1 i x.1 x.2 v1 v2 σ' H' hx' q1 q2 z1 z2 q3⟩
  · obtain ⟨q1, q2, q3⟩ := q
    rw [paired_len h1] at q3
    exact hd σ' H' (u1.trans q1) q2 q3
/-- for k in range(n) -/
theorem wss_forR (j : Nat) {n : Int} {nm : Str} {p1 p2 pr : Pos} {ea : Expr} (hi : Dx X W ea σ H (· = n)) (hI : W.I H) (hn0 : 0 ≤ n) (hn1 : n ≤ 100000) (Pv : Nat → L2.St → Hp → Prop) (nd : X.N.Nodup) (hp : PassesOwn (model X.prog X.w) X.A X.env X.xe) (hc : X.calm = true) (hm : X.mg "range" = none)
    (h0 : ∀ H1, Up W H H1 → W.I H1 → Pv 0 σ H1)
    (hs : ∀ (i : Nat) σ' H', (i : Int) < n → Up W H H' → W.I H' → Pv i σ' H' → Wss X bd { D with nx := fun σ2 H2 => Up W H H2 ∧ W.I H2 ∧ Pv (i + 1) σ2 H2, ct := fun σ2 H2 => Up W H H2 ∧ W.I H2 ∧ Pv (i + 1) σ2 H2, bk := fun σ2 H2 => Wss X sts D σ2 H2 } (σ'.set j (some (.int (i : Int)))) H')
    (hd : ∀ σ' H', Up W H H' → W.I H' → Pv n.toNat σ' H' → Wss X sts D σ' H') (hg : Gl X "range" := by rfl) (hN : X.N[j]? = some nm := by rfl) (hx : L2.Loc X.env.scope nm := by first | exact Or.inl rfl | exact Or.inr rfl) (hf : X.fn nm = true ∨ X.env.scope.names.lookup nm = some .local := by first | exact .inl rfl | exact .inr rfl)
    (hst : starEach (ea :: []) X.env = (false, eval ea X.env) :: starEach [] X.env := by rfl) (hst2 : starEach [ea] X.env = [(false, eval ea X.env)] := by rfl) (hfs : ∀ x, foldedSetIterable (.Call (.Name "range" p2) [ea] [] pr) X.env x = pure x := by intro _; rfl) :
    Wss X (.For (.Name nm p1) (.Call (.Name "range" p2) [ea] [] pr) bd [] pos :: sts) D σ H := by
  obtain ⟨te, pe, ev⟩ := hi
  refine ⟨_, pss_cons (ps_for hp hc (pi_range1 hg hm (pa_cons pe pa_nil hst) hst2) (pg_name (i := j) nd hN hx hf) wss_all hfs) wss_all, ev H (Up.refl _) hI _ fun v H1 m u1 i1 hv em => ?_⟩
  subst em
  cases hv
  refine ⟨m, rfl, by omega, by omega, for_range (lo := 0) (n := m.toNat) (fun i σ' H' => Up W H H' ∧ W.I H' ∧ Pv i σ' H') ⟨u1, i1, h0 H1 u1 i1⟩ (fun i σ' H' hi q => ?_) (fun σ' H' q => hd σ' H' q.1 q.2.1 q.2.2)⟩
  have e0 : (0 : Int) + (i : Int) = (i : Int) := Int.zero_add _
  show Wss X bd { D with nx := fun σ' H' => Up W H H' ∧ W.I H' ∧ Pv (i + 1) σ' H', ct := fun σ' H' => Up W H H' ∧ W.I H' ∧ Pv (i + 1) σ' H', bk := _ } (σ'.set j (some (.int ((0 : Int) + (i : Int))))) H'
  rw [e0]
  exact hs i σ' H' (by omega) q.1 q.2.1 q.2.2
/-- while t, by a word that falls -/
theorem wss_while (Wd : Nat → L2.St → Hp → Prop) (hp : PassesOwn (model X.prog X.w) X.A X.env X.xe) (m0 : Nat) (h0 : Wd m0 σ H)
    (hs : ∀ m σ' H', Wd m σ' H' → ∃ (W' : Wld) (b : Bool), W'.I H' ∧ Tx X W' c σ' H' (· = b) ∧ ∀ H1, Up W' H' H1 → W'.I H1 → (b = true → Wss X bd { D with nx := fun σ2 H2 => ∃ m', m' < m ∧ Wd m' σ2 H2, ct := fun σ2 H2 => ∃ m', m' < m ∧ Wd m' σ2 H2, bk := fun σ2 H2 => Wss X sts D σ2 H2 } σ' H1) ∧ (b = false → Wss X sts D σ' H1)) :
    Wss X (.While c bd [] pos :: sts) D σ H := by
  have hc : PT X c (fun σ H Q => ∃ t, PT X c t ∧ t σ H Q) := ⟨fun pins s σ H Q I ⟨t, pt, q⟩ => pt.run pins s σ H Q I q⟩
  refine ⟨_, pss_cons (ps_while hp hc wss_all) wss_all, Wd, ⟨m0, h0⟩, fun m σ' H' hw => ?_⟩
  obtain ⟨W', b, hI, ⟨t, pt, ev⟩, q⟩ := hs m σ' H' hw
  refine ⟨t, pt, ev H' (Up.refl _) hI _ fun b' H1 u1 i1 eb => ?_⟩
  subst eb
  obtain ⟨q1, q2⟩ := q H1 u1 i1
  cases b' with
  | true => exact ⟨_, fun σ2 H2 z => z, q1 rfl⟩
  | false => exact q2 rfl
end
end Inn
set_option Elab.async false
set_option linter.all false
set_option maxRecDepth 100000
set_option maxHeartbeats 4000000
namespace Inn
open PySem L2 PySem.Spec PyProof.Rows
open Dat (Is)
section
variable {X : Cx} {W : Wld} {σ : L2.St} {H : Hp} {pos p apos : Pos} {a b c e o : Expr} {es : List Expr} {nm : Str} {k : Nat} {α β γ A : Type} [Dat α] [Dat β] [Dat γ] [DArgs A]
/-- a block's element, whatever the block -/
def Bx (X : Cx) (W : Wld) (scope : Scope) (e : Expr) (σ : L2.St) (H : Hp) (P : α → Prop) : Prop :=
  ∀ (s : Shared) (H' : Hp) (C : Addr) (cl : List (Str × Addr)) (fp : List Addr), Dx (X.blk s H' scope (compEnvC scope cl C X.env) fp) W e σ H P
def tBx (X : Cx) (scope : Scope) (e : Expr) : TE := fun σ H Q => ∀ (s : Shared) (H' : Hp) (C : Addr) (cl : List (Str × Addr)) (fp : List Addr), ∃ t, PE (X.blk s H' scope (compEnvC scope cl C X.env) fp) e t ∧ t σ H Q
theorem pe_tBx {scope : Scope} {s : Shared} {H' : Hp} {C : Addr} {cl : List (Str × Addr)} {fp : List Addr} : PE (X.blk s H' scope (compEnvC scope cl C X.env) fp) e (tBx X scope e) :=
  ⟨fun pins s1 σ H Q I h => let ⟨t, pt, q⟩ := h s H' C cl fp; pt.run pins s1 σ H Q I q⟩
theorem Bx.ev {scope : Scope} {P : α → Prop} (h : Bx X W scope e σ H P) : Ev W (tBx X scope e) σ H P := fun H1 u hI Q q s H' C cl fp =>
  let ⟨t, pt, ev⟩ := h s H' C cl fp
  ⟨t, pt, ev H1 u hI Q q⟩
/-- what a comprehension has made of the first items: each as R says -/
inductive Mapd (R : α → β → Prop) : List α → List β → Prop
  | nil : Mapd R [] []
  | snoc {xs : List α} {ys : List β} {x : α} {y : β} : Mapd R xs ys → R x y → Mapd R (xs ++ [x]) (ys ++ [y])
theorem Mapd.eq {f : α → β} {xs : List α} {ys : List β} (h : Mapd (fun x y => y = f x) xs ys) : ys = xs.map f := by
  induction h with
  | nil => rfl
  | snoc h r ih => rw [List.map_append, ih, r] <;> rfl
theorem Mapd.len {R : α → β → Prop} {xs : List α} {ys : List β} (h : Mapd R xs ys) : ys.length = xs.length := by
  induction h with
  | nil => rfl
  | snoc h r ih => simp [ih]
theorem take_more {α : Type} : ∀ {l : List α} {i : Nat} {x : α}, l[i]? = some x → l.take (i + 1) = l.take i ++ [x]
  | [], i, x, h => by simp at h
  | a :: l, 0, x, h => by
    have e : a = x := Option.some.inj h
    subst e
    rfl
  | a :: l, i + 1, x, h => by
    have ih := take_more (l := l) (i := i) (x := x) h
    show a :: l.take (i + 1) = a :: l.take i ++ [x]
    rw [ih]
    rfl
/-- the list at D so far -/
def LcW (W : Wld) (R : α → β → Prop) (xs : List α) (H1 : Hp) (D : Addr) (i : Nat) (H' : Hp) : Prop :=
  Up (Wg W D []) H1 H' ∧ ∃ us ys, (Wg W D us).I H' ∧ Paired (fun u x => Is (Wg W D us) H' u x) us ys ∧ Mapd R (xs.take i) ys
theorem lcw_turn [Wk β] {R : α → β → Prop} {xs : List α} {H1 H' : Hp} {D : Addr} {i : Nat} {x : α} {te : TE} {σ2 : L2.St} (hD : ¬ W.M D) (hx : xs[i]? = some x) (hi : xs.length ≤ 100000) (p : LcW W R xs H1 D i H') (ev : ∀ us, (Wg W D us).I H' → Ev (Wg W D us) te σ2 H' (R x)) :
    te σ2 H' fun y H4 => ∃ acc, H4 D = some (.lst acc) ∧ acc.length < sizeLine ∧ LcW W R xs H1 D (i + 1) (upd H4 D (.lst (acc ++ [y]))) := by
  obtain ⟨p1, us, ys, p2, h2, h3⟩ := p
  have hlt := (List.getElem?_eq_some_iff.mp hx).1
  refine ev us p2 H' (Up.refl _) p2 _ fun v H4 y u4 i4 hy ry => ⟨us, i4.2, ?_, (p1.trans u4).trans up_at, us ++ [v], ys ++ [y], ⟨I_mut i4.1 hD, upd_same⟩, ?_, ?_⟩
  · have e1 := paired_len h2
    have e2 := h3.len
    rw [List.length_take] at e2
    exact Nat.lt_of_lt_of_le (show us.length < 100001 by omega) (by decide)
  · exact paired_wk (W' := Wg W D us) wg_same (paired_up (u4.trans up_at) h2 |> fun q => paired_app q (.cons (Dat.up (W := Wg W D us) up_at hy) .nil))
  · rw [take_more hx]
    exact .snoc h3 ry
/-- a comprehension: as a value, or set to a name -/
def Dc (X : Cx) (W : Wld) (e : Expr) (σ : L2.St) (H : Hp) (P : α → Prop) : Prop := ∃ te, PE X e te ∧ (∀ {i : Nat} {y : Str} {py spos : Pos}, X.N[i]? = some y → X.env.scope.names.lookup y = some .local → swapsWith e (some (.Name y py)) spos.line X.env = pure true → PS X (.Assign [.Name y py] e spos) (tAsg te (gName i))) ∧ Ev W te σ H P
theorem Dc.dx {P : α → Prop} (h : Dc X W e σ H P) : Dx X W e σ H P := let ⟨te, pe, _, ev⟩ := h; ⟨te, pe, ev⟩
theorem Dc.imp {P R : α → Prop} (h : Dc X W e σ H P) (f : ∀ x, P x → R x) : Dc X W e σ H R := let ⟨te, pe, ps, ev⟩ := h; ⟨te, pe, ps, fun H1 u hI Q q => ev H1 u hI Q fun v H2 x u2 i2 hx px => q v H2 x u2 i2 hx (f x px)⟩
/-- name = [..] -/
theorem wss_setC (i : Nat) {nm : Str} {P : α → Prop} {pos' : Pos} {D : Ends} {sts : List Stmt} (he : Dc X W e σ H P) (hI : W.I H) (k : ∀ v H1 x, Up W H H1 → W.I H1 → Is W H1 v x → P x → Wss X sts D (σ.set i (some v)) H1)
    (hi : X.N[i]? = some nm := by rfl) (hx : X.env.scope.names.lookup nm = some .local := by rfl) (hs : swapsWith e (some (.Name nm pos')) pos.line X.env = pure true := by rfl) :
    Wss X (.Assign [.Name nm pos'] e pos :: sts) D σ H := by
  obtain ⟨te, pe, ps, ev⟩ := he
  exact ⟨_, pss_cons (ps hi hx hs) wss_all, ev H (Up.refl _) hI _ fun v H1 x u i1 hx hp => k v H1 x u i1 hx hp⟩
/-- [elt for x in xs] -/
theorem dc_lc (i : Nat) {x : Str} {px pc : Pos} {elt iter : Expr} {scope : Scope} {xs : List α} {R : α → β → Prop} [Gr α] [Wk β] (hit : Dx X W iter σ H (· = xs)) (hl : xs.length ≤ 40000)
    (he : ∀ (D : Addr) (H1 : Hp) (us : List V), Up W H H1 → W.I H1 → H1 D = none → ∀ (j : Nat) (y : α) (v : V) H2, xs[j]? = some y → Up (Wg W D us) H1 H2 → (Wg W D us).I H2 → Is (Wg W D us) H2 v y → Bx X (Wg W D us) scope elt ((σ.set i none).set i (some v)) H2 (R y))
    (hc : X.calm = true) (hN : X.N.Nodup) (ok : BlkOk X.N X.env.scope scope [(x, i)])
    (hg : ∀ (s : Shared) (H : Hp) (C : Addr) (cl : List (Str × Addr)) (fp : List Addr), PG (X.blk s H scope (compEnvC scope cl C X.env) fp) (.Name x px) (gName i)) (hs : ∀ x, foldedSetIterable iter X.env x = pure x := by intro _; rfl) :
    Dc X W (.ListComp elt [⟨.Name x px, iter, [], 0⟩] scope pc) σ H (fun ys => Mapd R xs ys) := by
  obtain ⟨ti, pi, vi⟩ := hit
  refine ⟨_, pe_lc (own := [(x, i)]) hc hN (pi_list pi) ok hg (fun _ _ _ _ _ => pts_nil) (fun _ _ _ _ _ => pe_tBx) hs, fun h1 h2 h3 => ps_setLc (own := [(x, i)]) hc hN h1 h2 h3 (pi_list pi) ok hg (fun _ _ _ _ _ => pts_nil) (fun _ _ _ _ _ => pe_tBx) hs, fun H1 u1 i1 Q q => vi H1 u1 i1 _ fun v H2 zs u2 i2 hv ez => ?_⟩
  subst ez
  obtain ⟨a, us, rfl, n, e1, h1⟩ := id hv
  refine ⟨a, rfl, ⟨_, SqL.of e1⟩, fun D hD => lc_list (xs := us) (fun j H' => LcW W R zs H2 D j H') ⟨up_at, [], [], ⟨I_new i2 hD, upd_same⟩, .nil, .nil⟩ (fun j H' _ p => SqL.of (p.1 a _ (gr_M n hD e1) e1)) (fun j w H' hw p => ?_) (fun H' p => ?_)⟩
  · obtain ⟨y, hy, hwy⟩ := paired_getL h1 hw
    have hset : ((σ.set i none).set i (some w)).set i none = σ.set i none := by rw [List.set_set, List.set_set]
    refine ⟨hset, ?_⟩
    exact lcw_turn (not_M i2 hD) hy (by omega) p fun us' pI => (he D H2 us' (u1.trans u2) i2 hD j y w H' hy p.1 pI (Dat.up (W := Wg W D us') p.1 (Gr.gr hD hwy))).ev
  · obtain ⟨p1, us', ys, p2, h2, h3⟩ := p
    rw [paired_len h1, List.take_length] at h3
    have uu := up_wg p1 hD
    exact q (.ref D) H' ys (u2.trans uu) p2.1 ⟨D, us', rfl, not_M i2 hD, p2.2, paired_wk wg_sub h2⟩ h3
/-- [elt for x, y in xs], xs pairs -/
theorem dc_lc2 (i1 i2 : Nat) {n1 n2 : Str} {p1 p2 pt pc : Pos} {kt : Nat} {elt iter : Expr} {scope : Scope} {xs : List (α × γ)} {R : α × γ → β → Prop} [Gr α] [Gr γ] [Wk β] (hit : Dx X W iter σ H (· = xs)) (hl : xs.length ≤ 40000) (hi12 : i1 ≠ i2)
    (he : ∀ (D : Addr) (H1 : Hp) (us : List V), Up W H H1 → W.I H1 → H1 D = none → ∀ (j : Nat) (y : α) (z : γ) (v w : V) H2, xs[j]? = some (y, z) → Up (Wg W D us) H1 H2 → (Wg W D us).I H2 → Is (Wg W D us) H2 v y → Is (Wg W D us) H2 w z → Bx X (Wg W D us) scope elt ((((σ.set i2 none).set i1 none).set i1 (some v)).set i2 (some w)) H2 (R (y, z)))
    (hc : X.calm = true) (hN : X.N.Nodup) (ok : BlkOk X.N X.env.scope scope [(n1, i1), (n2, i2)])
    (hg : ∀ (s : Shared) (H : Hp) (C : Addr) (cl : List (Str × Addr)) (fp : List Addr), PG (X.blk s H scope (compEnvC scope cl C X.env) fp) (.Tuple [.Name n1 p1, .Name n2 p2] kt pt) (gTup X.K 2 (gCons (gName i1) (gCons (gName i2) gNil)))) (hs : ∀ x, foldedSetIterable iter X.env x = pure x := by intro _; rfl) :
    Dc X W (.ListComp elt [⟨.Tuple [.Name n1 p1, .Name n2 p2] kt pt, iter, [], 0⟩] scope pc) σ H (fun ys => Mapd R xs ys) := by
  obtain ⟨ti, pi, vi⟩ := hit
  refine ⟨_, pe_lc (own := [(n1, i1), (n2, i2)]) hc hN (pi_list pi) ok hg (fun _ _ _ _ _ => pts_nil) (fun _ _ _ _ _ => pe_tBx) hs, fun h1 h2 h3 => ps_setLc (own := [(n1, i1), (n2, i2)]) hc hN h1 h2 h3 (pi_list pi) ok hg (fun _ _ _ _ _ => pts_nil) (fun _ _ _ _ _ => pe_tBx) hs, fun H1 u1 i1' Q q => vi H1 u1 i1' _ fun v H2 zs u2 i2' hv ez => ?_⟩
  subst ez
  obtain ⟨a, us, rfl, n, e1, h1⟩ := id hv
  refine ⟨a, rfl, ⟨_, SqL.of e1⟩, fun D hD => lc_list (xs := us) (fun j H' => LcW W R zs H2 D j H') ⟨up_at, [], [], ⟨I_new i2' hD, upd_same⟩, .nil, .nil⟩ (fun j H' _ p => SqL.of (p.1 a _ (gr_M n hD e1) e1)) (fun j w H' hw p => ?_) (fun H' p => ?_)⟩
  · obtain ⟨y, hy, hwy⟩ := paired_getL h1 hw
    have hy2 : Is (Wg W D []) H' w y := Dat.up p.1 (Gr.gr hD hwy)
    obtain ⟨pp, v1, v2, rfl, nn, e2, z1, z2⟩ := id hy2
    refine ⟨pp, [v1, v2], rfl, SqT.of e2, rfl, v1, [v2], rfl, v2, [], rfl, rfl, ?_, ?_⟩
    · show ((((((σ.set i2 none).set i1 none).set i1 (some v1)).set i2 (some v2)).set i2 none).set i1 none) = ((σ.set i2 none).set i1 none)
      have e : ∀ B : L2.St, ((((B.set i1 none).set i1 (some v1)).set i2 (some v2)).set i2 none).set i1 none = (B.set i2 none).set i1 none := fun B => by
        rw [List.set_set, List.set_set, List.set_comm (l := B.set i1 (some v1)) none none hi12.symm, List.set_set, List.set_comm none none hi12]
      rw [e, List.set_set]
    · refine lcw_turn (not_M i2' hD) hy (by omega) p fun us' pI => (he D H2 us' (u1.trans u2) i2' hD j y.1 y.2 v1 v2 H' hy p.1 pI ?_ ?_).ev
      · have hy3 : Is (Wg W D us') H' (.ref pp) y := Dat.up (W := Wg W D us') p.1 (Gr.gr hD hwy)
        obtain ⟨pp', w1, w2, ep, _, e3, z1', z2'⟩ := hy3
        cases ep
        rw [e2] at e3
        cases e3
        exact z1'
      · have hy3 : Is (Wg W D us') H' (.ref pp) y := Dat.up (W := Wg W D us') p.1 (Gr.gr hD hwy)
        obtain ⟨pp', w1, w2, ep, _, e3, z1', z2'⟩ := hy3
        cases ep
        rw [e2] at e3
        cases e3
        exact z2'
  · obtain ⟨p1, us', ys, p2, h2, h3⟩ := p
    rw [paired_len h1, List.take_length] at h3
    have uu := up_wg p1 hD
    exact q (.ref D) H' ys (u2.trans uu) p2.1 ⟨D, us', rfl, not_M i2' hD, p2.2, paired_wk wg_sub h2⟩ h3
end
end Inn
set_option Elab.async false
set_option linter.all false
set_option maxRecDepth 100000
set_option maxHeartbeats 4000000
namespace Inn
open PySem L2 PySem.Spec PyProof.Rows
open Dat (Is)
/-! ### defs that show texts of lists: no text is being made around them -/
/-- a def's promise where no repr runs -/
structure FnG (P : Program) (w : World) (K : PySem.W.Frag) (mg : Str → Option Value) (base : Heap) (k : Nat) (f : Addr) (fd : FuncData) (ps : List Str) (sp : Sp) : Prop where
  ln : ∀ vs H Q E, sp vs H Q E → vs.length = ps.length
  go : ∀ (A : Around) (fr : List Env) (s : Shared) (H : Hp) (args : Args) (us : List Value) (vs : List V) (Q : VK), A.guards = some [] → Room k A → Env0 P w K mg base A fr s H → BindsTo s fd args (ps.zip us) → Vals vs us → sp vs H Q E0 →
    codeAny (model P w) A (.call (.ref f) args) (fun r s' => ∃ u, r = .ok (.ret u) ∧ CE fr P w H s Q u s') s
theorem guards_deeper (A : Around) (env : Env) : (A.deeper env).guards = A.guards := rfl
section
variable {P : Program} {w : World} {K : PySem.W.Frag} {mg : Str → Option Value} {base : Heap} {k : Nat} {f : Addr} {fd : FuncData} {N ps : List Str} {sp : Sp}
theorem FnG.of (F : FnOk P w K mg base CX0 k f fd ps sp) : FnG P w K mg base k f fd ps sp :=
  ⟨F.len, fun A fr s H args us vs Q _ hr he hb hv hs => codeAny_mono (F.run A fr s H args us vs Q E0 hr he hb hv hs) fun r s' h => by
    cases r with
    | error e => exact False.elim h
    | ok fl => cases fl with
      | ret u => exact ⟨u, rfl, h⟩
      | next => exact False.elim h
      | brk => exact False.elim h
      | cont => exact False.elim h⟩
theorem fnG_of {x qual : Str} {st : Stmt} (F : Fun K x qual st f fd) (S : FnScope N ps (defScope st)) (ln : ∀ vs H Q E, sp vs H Q E → vs.length = ps.length)
    (body : ∀ (cdv : Value) (A : Around) (fr : List Env) (s : Shared) (H : Hp) (vs : List V) (Q : VK), A.guards = some [] → Room k (A.deeper (envOfC qual (defScope st) s.heap.objs.size f cdv)) → sp vs H Q E0 →
      Wss (cxOf CX0 P w K mg base N qual (defScope st) f cdv A fr s H E0).nox (defBody st) { nx := fun _ H' => Q .non H', rt := Q } (start N vs) H) : FnG P w K mg base (k + 1) f fd ps sp := by
  obtain ⟨oc, od, kV, doc, pm, an, cdv, ct, osl, rfl, lk, hcd⟩ := F.ex
  refine ⟨ln, fun A fr s H args us vs Q hG hr e0 hb rv hsp => ?_⟩
  have there : K.In s.heap := e0.mod.kin.keeps fun b o z => (e0.bs b o z).1
  have open_ : s.heap.NoLimit := e0.mod.nolimit.keeps fun b o z => (e0.bs b o z).1
  have kinds : ∀ y ∈ ps.zip us, (defScope st).names.lookup y.1 = some .local ∨ ((defScope st).names.lookup y.1 = some .cell ∧ ((cellsFrom (s.heap.objs.size + 1) (defScope st).names []).lookup y.1).isSome = true) := by
    rintro ⟨n, v⟩ hy
    exact (S.par n (List.of_mem_zip hy).1).imp id fun q => ⟨q, PySem.W.cellsFrom_some _ _ _ (.inl q)⟩
  have code := PySem.W.codeRec_of there hcd
  apply codeAny_call_function hr.depth (there _ _ lk) rfl S.co S.gen rfl code
  apply hb
  apply wpAny_newFunctionEnv_cells S.kind kinds
  intro env he s1 ic
  subst he
  refine ⟨open_.keeps ic.toInCall.keep, codeAny_func ?_⟩
  obtain ⟨t, pt, q⟩ := body cdv A fr s H vs Q hG (hr.deeper _) hsp
  have inv := inv_start (CX := CX0) (E := E0) S hr.hd e0 (ln _ _ _ _ hsp) rv ic
  have done := pt.run [] s1 _ H _ (inv.wish _) q
  refine wpAny_mono done (fun fl s' hs => ?_) fun _ _ z => z.elim
  cases fl with
  | ret u =>
    obtain ⟨v, σ', H', J, rv', q'⟩ := hs
    exact ⟨u, rfl, v, H', J.os, J.bare, J.base, J.hok, rv', q'⟩
  | next =>
    obtain ⟨σ', H', J, q'⟩ := hs
    exact ⟨Value.none, rfl, V.non, H', J.os, J.bare, J.base, J.hok, rfl, q'⟩
  | brk => exact hs.elim fun _ z => z.elim fun _ z => z.2.elim
  | cont => exact hs.elim fun _ z => z.elim fun _ z => z.2.elim
end
/-- .. of the module -/
structure DefG (P : Program) (w : World) (K : PySem.W.Frag) (mg : Str → Option Value) (base : Heap) (k : Nat) (nm : Str) (ps : List Str) (sp : Sp) : Prop where
  ex : ∃ f fd, FnG P w K mg base k f fd ps sp ∧ mg nm = some (.ref f) ∧ PySem.W.keepIn K (.ref f) = true ∧ Binds K fd ps []
theorem run_G {X : Cx} {k : Nat} {f : Addr} {fd : FuncData} {ps : List Str} {sp : Sp} {pins : List (Addr × Obj)} {σ : L2.St} {H : Hp} {s : Shared} {Q : VK} {us : List Value} {vs : List V} (F : FnG X.prog X.w X.K X.mg X.base k f fd ps sp) (hG : X.A.guards = some []) (hr : Room k X.A) (hb : Binds X.K fd ps [])
    (I : Inv X pins σ H s) (rv : Vals vs us) (h : sp vs H Q E0) : wpAny (model X.prog X.w) X.A (call (.ref f) us) (EP X pins σ Q) X.xe s := by
  have hl : us.length = ps.length := by rw [← rv.length]; exact F.ln _ _ _ _ h
  have b := hb s us I.kIn (by rw [List.append_nil]; exact hl)
  rw [List.append_nil] at b
  refine wpAny_call (codeAny_mono (F.go X.A X.stack s H ⟨us, []⟩ us vs Q hG hr I.env0 b rv h) fun r s' ⟨u, er, ce⟩ => ?_)
  subst er
  exact I.after ce
section
variable {α β A : Type} [Dat α] [Dat β] [DArgs A] {X : Cx} {W : Wld} {σ : L2.St} {H : Hp} {pos p : Pos} {e : Expr} {es : List Expr} {k : Nat} {nm : Str} {ps : List Str} {pre : A → Prop} {R : A → β → Prop}
theorem dx_callGP {P : A → Prop} (B : DefG X.prog X.w X.K X.mg X.base k nm ps (SpF pre R)) (hG : X.A.guards = some []) (hr : Room k X.A) (ha : Ax X W (e :: es) σ H P) (hp : ∀ a, P a → pre a) (hg : Gl X nm := by rfl) (hdb : (nm == ("__debug__" : Str)) = false := by decide)
    (he : starEach (e :: es) X.env = (false, eval e X.env) :: starEach es X.env := by rfl) (hpl : (backTo pos (starEach es X.env)).any (·.1) = false := by rfl) : Dx X W (.Call (.Name nm p) (e :: es) [] pos) σ H (fun y => ∃ a, P a ∧ R a y) := by
  obtain ⟨f, fd, F, hm, hk, hb⟩ := B.ex
  obtain ⟨ta, pa, va⟩ := ha
  have pe : PE X (.Call (.Name nm p) (e :: es) [] pos) (fun σ H Q => ta σ H fun vs H1 => SpF pre R vs H1 Q E0) := by
    refine ⟨fun pins s σ H Q I h => wpAny_Call_Name_kw (ld_glob I hg hm ?_ hdb)⟩
    exact PySem.W.callWith_K (h₀ := X.base) I.ok.mod.kin hk (thn (pa.run pos pins s σ H _ I h) fun us s1 ⟨vs, H1, I1, rv, q⟩ => ⟨I1.kIn, run_G F hG hr hb I1 rv q⟩) he hpl
  exact ⟨_, pe, fun H1 u hI Q q => va H1 u hI _ fun vs H2 a u2 i2 ha pa => ⟨W, a, ha, i2, hp a pa, fun w H3 y u3 i3 hy ry => q w H3 y (u2.trans u3) i3 hy ⟨a, pa, ry⟩⟩⟩
theorem dx_callG {x : A} (B : DefG X.prog X.w X.K X.mg X.base k nm ps (SpF pre R)) (hG : X.A.guards = some []) (hr : Room k X.A) (ha : Ax X W (e :: es) σ H (· = x)) (hp : pre x) (hg : Gl X nm := by rfl) (hdb : (nm == ("__debug__" : Str)) = false := by decide)
    (he : starEach (e :: es) X.env = (false, eval e X.env) :: starEach es X.env := by rfl) (hpl : (backTo pos (starEach es X.env)).any (·.1) = false := by rfl) : Dx X W (.Call (.Name nm p) (e :: es) [] pos) σ H (R x) :=
  (dx_callGP B hG hr ha (fun a pa => pa ▸ hp) hg hdb he hpl).imp fun y hy => by
    obtain ⟨a, pa, ry⟩ := hy
    exact pa ▸ ry
theorem fnG_body {P : Program} {w : World} {K : PySem.W.Frag} {mg : Str → Option Value} {base : Heap} {x qual : Str} {st : Stmt} {f : Addr} {fd : FuncData} {N : List Str}
    (F : Fun K x qual st f fd) (S : FnScope N ps (defScope st)) (hn : DArgs.n A = ps.length)
    (body : ∀ (cdv : Value) (A' : Around) (outer : List Env) (s : Shared) (H : Hp) (W : Wld) (vs : List V) (a : A) (Q : VK), A'.guards = some [] → Room k (A'.deeper (envOfC qual (defScope st) s.heap.objs.size f cdv)) → DArgs.Is W H vs a → W.I H → pre a →
      (∀ u H' y, Up W H H' → W.I H' → Is W H' u y → R a y → Q u H') → Wss (cxOf CX0 P w K mg base N qual (defScope st) f cdv A' outer s H E0).nox (defBody st) { nx := fun _ H' => Q .non H', rt := Q } (start N vs) H) :
    FnG P w K mg base (k + 1) f fd ps (SpF pre R) :=
  fnG_of F S (fun vs H Q E h => (spF_len h).trans hn) fun cdv A' outer s H vs Q hG hr ⟨W, a, h1, hI, hp, q⟩ => body cdv A' outer s H W vs a Q hG hr h1 hI hp q
end
/-! ### repr of data -/
class PyR (α : Type) [Dat α] where
  py : α → PyData
  dp : ∀ {K : PySem.W.Frag} {W : Wld} {H : Hp} {u : V} {x : α}, Is W H u x → Dp K H u (py x)
  nd : ∀ x : α, (py x).hasDict = false
  dep : Nat
  le : ∀ x : α, (py x).depth ≤ dep
instance : PyR Int := ⟨.int, fun h => by cases h; exact .int _, fun _ => rfl, 0, fun _ => Nat.le_refl _⟩
instance : PyR Bool := ⟨.bool, fun h => by cases h; exact .bl _, fun _ => rfl, 0, fun _ => Nat.le_refl _⟩
theorem dpAllR {α : Type} [Dat α] [PyR α] {K : PySem.W.Frag} {W : Wld} {H : Hp} : ∀ {us : List V} {xs : List α}, Paired (fun u x => Is W H u x) us xs → DpAll K H us (xs.map PyR.py)
  | _, _, .nil => .nil
  | _, _, .cons h t => .cons (PyR.dp h) (dpAllR t)
theorem ndAllR {α : Type} [Dat α] [PyR α] : ∀ (xs : List α), PyData.hasDictAll (xs.map PyR.py) = false
  | [] => rfl
  | x :: xs => by
    show (PyData.hasDict _ || PyData.hasDictAll _) = false
    rw [PyR.nd, ndAllR xs]
    rfl
theorem depAllR {α : Type} [Dat α] [PyR α] : ∀ (xs : List α), PyData.depthAll (xs.map PyR.py) ≤ PyR.dep α
  | [] => Nat.zero_le _
  | x :: xs => by
    have h1 := PyR.le x
    have h2 := depAllR xs
    show max (PyData.depth _) (PyData.depthAll _) ≤ _
    omega
instance {α : Type} [Dat α] [PyR α] : PyR (List α) where
  py xs := .list (xs.map PyR.py)
  dp h := by
    obtain ⟨p, us, rfl, n, e, h1⟩ := h
    exact .lst (SqL.of e) (dpAllR h1)
  nd xs := ndAllR xs
  dep := PyR.dep α + 1
  le xs := Nat.succ_le_succ (depAllR xs)
/-- an int or a bool -/
inductive Ib where
  | i (n : Int) | b (k : Bool)
instance : Dat Ib := ⟨fun _ _ v x => match x with | .i n => v = .int n | .b k => v = .bl k, fun {_ _ _ _ x} _ h => by cases x <;> exact h⟩
instance : PyR Ib := ⟨fun x => match x with | .i n => .int n | .b k => .bool k, fun {K W H u x} h => by
  cases x with
  | i n => cases h; exact .int _
  | b k => cases h; exact .bl _, fun x => by cases x <;> rfl, 0, fun x => by cases x <;> exact Nat.le_refl _⟩
section
variable {X : Cx} {W : Wld} {σ : L2.St} {H : Hp} {pos p : Pos} {e : Expr} {α : Type} [Dat α]
theorem dx_ibI {i : Int} (h : Dx X W e σ H (· = i)) : Dx X W e σ H (fun y : Ib => y = .i i) := h.as Ib.i fun hx px => by subst px; exact ⟨hx, rfl⟩
theorem dx_ibB {i : Bool} (h : Dx X W e σ H (· = i)) : Dx X W e σ H (fun y : Ib => y = .b i) := h.as Ib.b fun hx px => by subst px; exact ⟨hx, rfl⟩
theorem dx_reprL [PyR α] {xs : List α} (hG : X.A.guards = some []) (hu : X.A.units + 64 < cLine) (hdep : PyR.dep α ≤ 8) (h : Dx X W e σ H (· = xs)) (hsh : PyData.showableAll (xs.map PyR.py) = true) (hsz : (PyData.list (xs.map PyR.py)).shown.length ≤ sizeLine) (hm : X.mg "repr" = none) (hg : Gl X "repr" := by rfl)
    (hs : starEach (e :: []) X.env = (false, eval e X.env) :: starEach [] X.env := by rfl) (hpl : (backTo pos (starEach [] X.env)).any (·.1) = false := by rfl) : Dx X W (.Call (.Name "repr" p) [e] [] pos) σ H (fun y : Str => y = (PyData.list (xs.map PyR.py)).shown) := by
  have hc : CallR X (.builtin "repr") (fun vs H Q => ∃ (d : List PyData) (v : V) (a : Addr), vs = [v] ∧ v = .ref a ∧ Dp X.K H v (.list d) ∧ (PyData.list d).hasDict = false ∧ PyData.showable (.list d) = true ∧ (PyData.list d).depth ≤ 10 ∧ (PyData.list d).shown.length ≤ sizeLine ∧ Q (.str (PyData.list d).shown) H) := by
    intro pins s σ H vs us Q I rv ⟨d, v, a, e1, e2, hd, nd, sh, dep, sz, q⟩
    subst e1; subst e2
    cases rv with
    | cons rv rn =>
      cases rn
      cases rv
      obtain ⟨as, rd⟩ := Dp.reads I (.list d) (.ref a) (.ref a) hd rfl
      obtain ⟨m, hF⟩ := I.fr
      refine repr_of_reads' rd sh (PyData.noDict_hsm nd) hG (by omega) (fun _ _ z => z) (fun h' u tk hk => ?_) sz
      exact ⟨.str _, H, I.kept hk, ⟨u, rfl⟩, q⟩
  refine dx_cb1 hc h hm (by decide +kernel) (fun v H1 x Q _ hI hx px q => ?_) hg (hs := hs) (hpl := hpl)
  subst px
  obtain ⟨p, us, e0, n, e1, h1⟩ := hx
  subst e0
  exact ⟨x.map PyR.py, .ref p, p, rfl, rfl, .lst (SqL.of e1) (dpAllR h1), ndAllR x, hsh, Nat.le_trans (Nat.succ_le_succ (depAllR x)) (by omega), hsz, q _ H1 _ (Up.refl _) hI rfl rfl⟩
end
end Inn
set_option Elab.async false
set_option linter.all false
set_option maxRecDepth 100000
set_option maxHeartbeats 4000000
namespace Inn
open PySem L2 PySem.Spec PyProof.Rows
open Dat (Is)
/-! ### the list that a law draws from -/
def PotL (a b : Int) : HO := .lst [.int a, .int b]
/-- the world lets the two numbers at l change -/
structure PotW (W : Wld) (l : Addr) : Prop where
  m : W.M l
  rd : ∀ {H}, W.I H → ∃ a b : Int, 0 ≤ a ∧ 0 ≤ b ∧ b < 2 ^ 40 ∧ H l = some (PotL a b)
  wr : ∀ {H} (a b : Int), W.I H → 0 ≤ a → 0 ≤ b → b < 2 ^ 40 → W.I (upd H l (PotL a b))
structure Pot where
  l : Addr
instance : Dat Pot := ⟨fun W _ v x => v = .ref x.l ∧ PotW W x.l, fun _ h => h⟩
theorem pot_gr {W : Wld} {H H' : Hp} {D : Addr} {us : List V} {v : V} {x : Pot} (hI : W.I H) (hD : H D = none) (h : Is W H v x) : Is (Wg W D us) H' v x := by
  obtain ⟨e, p⟩ := h
  have ne : x.l ≠ D := by
    obtain ⟨a, b, _, _, _, e1⟩ := p.rd hI
    exact ne_of_none e1 hD
  exact ⟨e, .inl p.m, fun h => p.rd h.1, fun a b h h1 h2 h3 => ⟨p.wr a b h.1 h1 h2 h3, by rw [upd_ne ne.symm]; exact h.2⟩⟩
/-- only the pot changes -/
def Wp (l : Addr) : Wld where
  M a := a = l
  I H := ∃ a b : Int, 0 ≤ a ∧ 0 ≤ b ∧ b < 2 ^ 40 ∧ H l = some (PotL a b)
  st h k := by
    obtain ⟨a, b, h1, h2, h3, h4⟩ := h
    exact ⟨a, b, h1, h2, h3, by rw [k _ rfl]; exact h4⟩
  al h m := by
    obtain ⟨a, b, h1, h2, h3, h4⟩ := h
    exact ⟨_, by rw [m]; exact h4⟩
theorem pot_wp (l : Addr) : PotW (Wp l) l := ⟨rfl, fun h => h, fun a b _ h1 h2 h3 => ⟨a, b, h1, h2, h3, upd_same⟩⟩
theorem up_pot {W : Wld} {H : Hp} {l : Addr} {o : HO} (m : W.M l) : Up W H (upd H l o) := fun a u n e => by
  rw [upd_ne (show a ≠ l from fun z => n (by rw [z]; exact m))]
  exact e
section
variable {X : Cx} {W : Wld} {σ : L2.St} {H : Hp} {pos p apos : Pos} {a b c e o : Expr} {es : List Expr} {nm : Str} {k : Nat} {α β γ A : Type} [Dat α] [Dat β] [Dat γ] [DArgs A] {D : Ends} {sts : List Stmt} {x : Pot}
theorem dx_pot0 {i : Expr} (h : Dx X W a σ H (· = x)) (hi : Dx X W i σ H (fun z : Int => z = 0)) (hs : PlainIx i := by exact fun _ _ => rfl) : Dx X W (.Subscript a i pos) σ H (fun y : Int => 0 ≤ y) := by
  obtain ⟨ta, pa, va⟩ := h
  obtain ⟨ti, pi, vi⟩ := hi
  refine ⟨_, pe_ix ix_list pa pi hs, fun H1 u hI Q q => va H1 u hI _ fun v H2 z u2 i2 hz pz => vi H2 (u.trans u2) i2 _ fun w H3 n u3 i3 hn pn => ?_⟩
  subst pz; subst pn
  obtain ⟨rfl, P⟩ := hz
  cases hn
  obtain ⟨c, d, h1, h2, h3, e⟩ := P.rd i3
  exact ⟨z.l, [.int c, .int d], 0, .int c, rfl, rfl, SqL.of e, rfl, q _ H3 c (u2.trans u3) i3 rfl h1⟩
theorem dx_pot1 {i : Expr} (h : Dx X W a σ H (· = x)) (hi : Dx X W i σ H (fun z : Int => z = 1)) (hs : PlainIx i := by exact fun _ _ => rfl) : Dx X W (.Subscript a i pos) σ H (fun y : Int => 0 ≤ y ∧ y < 2 ^ 40) := by
  obtain ⟨ta, pa, va⟩ := h
  obtain ⟨ti, pi, vi⟩ := hi
  refine ⟨_, pe_ix ix_list pa pi hs, fun H1 u hI Q q => va H1 u hI _ fun v H2 z u2 i2 hz pz => vi H2 (u.trans u2) i2 _ fun w H3 n u3 i3 hn pn => ?_⟩
  subst pz; subst pn
  obtain ⟨rfl, P⟩ := hz
  cases hn
  obtain ⟨c, d, h1, h2, h3, e⟩ := P.rd i3
  exact ⟨z.l, [.int c, .int d], 1, .int d, rfl, rfl, SqL.of e, rfl, q _ H3 d (u2.trans u3) i3 rfl ⟨h2, h3⟩⟩
/-- pot[1] = e -/
theorem wss_pot1 {P : Int → Prop} {i : Expr} {ps : Pos} (he : Dx X W e σ H P) (h : ∀ H', Dx X W a σ H' (· = x)) (hi : ∀ H', Dx X W i σ H' (fun z : Int => z = 1)) (hI : W.I H) (hP : ∀ n, P n → 0 ≤ n ∧ n < 2 ^ 40) (q : ∀ H1, Up W H H1 → W.I H1 → Wss X sts D σ H1)
    (ha : ∀ v, assign (.Subscript a i ps) X.env v = (do
      let ov ← holding [v] (eval a X.env)
      let iv ← holding [v, ov] (eval i X.env)
      standAt ps
      holding [v, ov, iv] (setItem ov iv v)
      release [v, ov, iv] []) := by intro _; rfl) (hs : swapsWithSole [.Subscript a i ps] e pos.line X.env = pure false := by rfl) (hw : swappedStores [.Subscript a i ps] e X.env = pure none := by rfl)
    (h1 : (assignEach [.Subscript a i ps] X.env).map (·.2) = [assign (.Subscript a i ps) X.env] := by rfl) : Wss X (.Assign [.Subscript a i ps] e pos :: sts) D σ H := by
  obtain ⟨te, pe, ev⟩ := he
  obtain ⟨ta, pa, va⟩ := h H
  obtain ⟨ti, pi, vi⟩ := hi H
  refine ⟨_, pss_cons (ps_asg pe (pg_sub pa pi set_list ha) hs hw h1) wss_all, ev H (Up.refl _) hI _ fun v H1 n u1 i1 hn pn => va H1 u1 i1 _ fun ov H2 z u2 i2 hz pz => vi H2 (u1.trans u2) i2 _ fun iv H3 m u3 i3 hm pm => ?_⟩
  subst pz; subst pm
  obtain ⟨rfl, PW⟩ := hz
  cases hn
  cases hm
  obtain ⟨c, d, h1, h2, h3, e⟩ := PW.rd i3
  obtain ⟨n0, n1⟩ := hP n pn
  exact ⟨z.l, [.int c, .int d], 1, 1, rfl, rfl, e, rfl, q _ (((u1.trans u2).trans u3).trans (up_pot PW.m)) (PW.wr c n i3 h1 n0 n1)⟩
/-- pot[0], digit = divmod(..) -/
theorem wss_pot0 (j : Nat) {P : Int × Int → Prop} {i : Expr} {ps pn pt : Pos} {kt : Nat} (he : Dx X W e σ H P) (h : ∀ H', Dx X W a σ H' (· = x)) (hi : ∀ H', Dx X W i σ H' (fun z : Int => z = 0)) (hI : W.I H) (hP : ∀ n, P n → 0 ≤ n.1) (nd : X.N.Nodup) (hc : X.calm = true)
    (q : ∀ H1 (n : Int × Int), P n → Up W H H1 → W.I H1 → Wss X sts D (σ.set j (some (.int n.2))) H1) (hN : X.N[j]? = some nm := by rfl) (hx : L2.Loc X.env.scope nm := by first | exact Or.inl rfl | exact Or.inr rfl) (hf : X.fn nm = true ∨ X.env.scope.names.lookup nm = some .local := by first | exact .inl rfl | exact .inr rfl)
    (ha : ∀ v, assign (.Subscript a i ps) X.env v = (do
      let ov ← holding [v] (eval a X.env)
      let iv ← holding [v, ov] (eval i X.env)
      standAt ps
      holding [v, ov, iv] (setItem ov iv v)
      release [v, ov, iv] []) := by intro _; rfl)
    (ha1 : (assignEach (.Subscript a i ps :: [.Name nm pn]) X.env).map (·.2) = assign (.Subscript a i ps) X.env :: (assignEach [.Name nm pn] X.env).map (·.2) := by rfl) (ha2 : (assignEach (.Name nm pn :: []) X.env).map (·.2) = assign (.Name nm pn) X.env :: (assignEach [] X.env).map (·.2) := by rfl)
    (hn : (assignEach [.Subscript a i ps, .Name nm pn] X.env).length = 2 := by rfl) (hst : (assignEach [.Subscript a i ps, .Name nm pn] X.env).findIdx? (·.1) = none := by rfl)
    (hs : swapsWithSole [.Tuple [.Subscript a i ps, .Name nm pn] kt pt] e pos.line X.env = pure false := by rfl) (hw : swappedStores [.Tuple [.Subscript a i ps, .Name nm pn] kt pt] e X.env = pure none := by rfl)
    (h1 : (assignEach [.Tuple [.Subscript a i ps, .Name nm pn] kt pt] X.env).map (·.2) = [assign (.Tuple [.Subscript a i ps, .Name nm pn] kt pt) X.env] := by rfl) : Wss X (.Assign [.Tuple [.Subscript a i ps, .Name nm pn] kt pt] e pos :: sts) D σ H := by
  obtain ⟨te, pe, ev⟩ := he
  obtain ⟨ta, pa, va⟩ := h H
  obtain ⟨ti, pi, vi⟩ := hi H
  refine ⟨_, pss_cons (ps_asg pe (pg_tup hc (pgs_cons (pg_sub pa pi set_list ha) (pgs_cons (pg_name (i := j) nd hN hx hf) pgs_nil ha2) ha1) hn hst) hs hw h1) wss_all, ev H (Up.refl _) hI _ fun v H1 n u1 i1 hn pn => ?_⟩
  obtain ⟨pp, w1, w2, rfl, nM, e2, z1, z2⟩ := hn
  refine ⟨pp, _, rfl, SqT.of e2, rfl, w1, [w2], rfl, va H1 u1 i1 _ fun ov H2 z u2 i2 hz pz => vi H2 (u1.trans u2) i2 _ fun iv H3 m u3 i3 hm pm => ?_⟩
  subst pz; subst pm
  obtain ⟨rfl, PW⟩ := hz
  cases hm
  cases z1
  cases z2
  obtain ⟨c, d, h1, h2, h3, e⟩ := PW.rd i3
  exact ⟨z.l, [.int c, .int d], 0, 0, rfl, rfl, e, rfl, _, [], rfl, rfl, q _ n pn (((u1.trans u2).trans u3).trans (up_pot PW.m)) (PW.wr n.1 d i3 (hP n pn) h2 h3)⟩
/-- what a draw tells -/
def DrawPre : Cns Pot (Cns Int Nil) → Prop := fun a => 0 < a.t.h ∧ a.t.h < 2 ^ 30
def DrawR : Cns Pot (Cns Int Nil) → Int → Prop := fun a y => 0 ≤ y ∧ y < a.t.h
end
/-! ### a, b = a pair; self.f = an int -/
section
variable {X : Cx} {W : Wld} {σ : L2.St} {H : Hp} {pos : Pos} {e : Expr} {α β : Type} [Dat α] [Dat β] {D : Ends} {sts : List Stmt}
theorem wss_unp (j1 j2 : Nat) {P : α × β → Prop} {n1 n2 : Str} {p1 p2 pt : Pos} {kt : Nat} (he : Dx X W e σ H P) (hI : W.I H) (nd : X.N.Nodup) (hc : X.calm = true)
    (q : ∀ v w H1 (x : α) (y : β), P (x, y) → Up W H H1 → W.I H1 → Is W H1 v x → Is W H1 w y → Wss X sts D ((σ.set j1 (some v)).set j2 (some w)) H1)
    (hN1 : X.N[j1]? = some n1 := by rfl) (hN2 : X.N[j2]? = some n2 := by rfl) (hx1 : L2.Loc X.env.scope n1 := by first | exact Or.inl rfl | exact Or.inr rfl) (hx2 : L2.Loc X.env.scope n2 := by first | exact Or.inl rfl | exact Or.inr rfl)
    (hf1 : X.fn n1 = true ∨ X.env.scope.names.lookup n1 = some .local := by first | exact .inl rfl | exact .inr rfl) (hf2 : X.fn n2 = true ∨ X.env.scope.names.lookup n2 = some .local := by first | exact .inl rfl | exact .inr rfl)
    (ha1 : (assignEach (.Name n1 p1 :: [.Name n2 p2]) X.env).map (·.2) = assign (.Name n1 p1) X.env :: (assignEach [.Name n2 p2] X.env).map (·.2) := by rfl) (ha2 : (assignEach (.Name n2 p2 :: []) X.env).map (·.2) = assign (.Name n2 p2) X.env :: (assignEach [] X.env).map (·.2) := by rfl)
    (hn : (assignEach [.Name n1 p1, .Name n2 p2] X.env).length = 2 := by rfl) (hst : (assignEach [.Name n1 p1, .Name n2 p2] X.env).findIdx? (·.1) = none := by rfl)
    (hs : swapsWithSole [.Tuple [.Name n1 p1, .Name n2 p2] kt pt] e pos.line X.env = pure false := by rfl) (hw : swappedStores [.Tuple [.Name n1 p1, .Name n2 p2] kt pt] e X.env = pure none := by rfl)
    (h1 : (assignEach [.Tuple [.Name n1 p1, .Name n2 p2] kt pt] X.env).map (·.2) = [assign (.Tuple [.Name n1 p1, .Name n2 p2] kt pt) X.env] := by rfl) : Wss X (.Assign [.Tuple [.Name n1 p1, .Name n2 p2] kt pt] e pos :: sts) D σ H := by
  obtain ⟨te, pe, ev⟩ := he
  refine ⟨_, pss_cons (ps_asg pe (pg_tup hc (pgs_cons (pg_name (i := j1) nd hN1 hx1 hf1) (pgs_cons (pg_name (i := j2) nd hN2 hx2 hf2) pgs_nil ha2) ha1) hn hst) hs hw h1) wss_all, ev H (Up.refl _) hI _ fun v H1 n u1 i1 hn pn => ?_⟩
  obtain ⟨pp, w1, w2, rfl, nM, e2, z1, z2⟩ := hn
  exact ⟨pp, _, rfl, SqT.of e2, rfl, w1, [w2], rfl, w2, [], rfl, rfl, q w1 w2 H1 n.1 n.2 pn u1 i1 z1 z2⟩
/-- one object alone changes, and is o -/
def Wx (p : Addr) (o : HO) : Wld where
  M a := a = p
  I H := H p = some o
  st h k := by rw [k _ rfl]; exact h
  al h m := ⟨o, by rw [m]; exact h⟩
theorem wss_fld {p C dx : Addr} {fs : List (Str × V)} {i : Int} {f : Str} {n0 : Str} {ps pa : Pos} (c : Cls X.K C) (na : NoAttr X.K C f) (hl : fs.length < 1000) (he : Dx X (Wx p (.ins C dx fs)) e σ H (· = i)) (hI : (Wx p (.ins C dx fs)).I H) (hσ : σ[0]? = some (some (.ref p)))
    (q : ∀ H1, Up (Wx p (.ins C dx fs)) H H1 → Wss X sts D σ (upd H1 p (.ins C dx (putF f (.int i) fs)))) (hN : X.N[0]? = some n0 := by rfl) (hvis : Vis X.env.scope n0 := by first | exact Or.inl rfl | exact Or.inr (Or.inl rfl)) (hd : (n0 == ("__debug__" : Str)) = false := by decide) (hcd : (n0 == ("__classdict__" : Str)) = false := by decide)
    (hs : swapsWith e (some (.Attribute (.Name n0 ps) f pa)) pos.line X.env = pure false := by rfl) : Wss X (.Assign [.Attribute (.Name n0 ps) f pa] e pos :: sts) D σ H := by
  obtain ⟨te, pe, ev⟩ := he
  refine ⟨_, pss_cons (ps_fld (pe_var hN hvis hd hcd) pe hs) wss_all, ev H (Up.refl _) hI _ fun v H1 n u1 i1 hn pn => ?_⟩
  subst pn
  cases hn
  exact ⟨.ref p, hσ, p, C, dx, fs, rfl, i1, c, na, hl, q H1 u1⟩
end
end Inn
set_option Elab.async false
set_option linter.all false
set_option maxRecDepth 100000
set_option maxHeartbeats 4000000
namespace Inn
open PySem L2 PySem.Spec PyProof.Rows
open Dat (Is)
/-- the one value g -/
abbrev SpE {A β : Type} [DArgs A] [Dat β] (pre : A → Prop) (g : A → β) : Sp := SpF pre fun a y => y = g a
section
variable {α β A : Type} [Dat α] [Dat β] [DArgs A] {X : Cx} {W : Wld} {σ : L2.St} {H : Hp} {pos p apos : Pos} {a b c e o : Expr} {es rest : List Expr} {k : Nat} {nm : Str} {ps : List Str} {pre : A → Prop} {g : A → β} {C : Addr} {r : Rt C} {x : A}
theorem dx_callE (B : Def X.prog X.w X.K X.mg X.base k nm ps (SpE pre g)) (hr : Room k X.A) (ha : Ax X W (e :: es) σ H (· = x)) (hp : pre x) (hg : Gl X nm := by rfl) (hdb : (nm == ("__debug__" : Str)) = false := by decide)
    (he : starEach (e :: es) X.env = (false, eval e X.env) :: starEach es X.env := by rfl) (hpl : (backTo pos (starEach es X.env)).any (·.1) = false := by rfl) : Dx X W (.Call (.Name nm p) (e :: es) [] pos) σ H (· = g x) := dx_call B hr ha hp hg hdb he hpl
theorem dx_callGE (B : DefG X.prog X.w X.K X.mg X.base k nm ps (SpE pre g)) (hG : X.A.guards = some []) (hr : Room k X.A) (ha : Ax X W (e :: es) σ H (· = x)) (hp : pre x) (hg : Gl X nm := by rfl) (hdb : (nm == ("__debug__" : Str)) = false := by decide)
    (he : starEach (e :: es) X.env = (false, eval e X.env) :: starEach es X.env := by rfl) (hpl : (backTo pos (starEach es X.env)).any (·.1) = false := by rfl) : Dx X W (.Call (.Name nm p) (e :: es) [] pos) σ H (· = g x) := dx_callG B hG hr ha hp hg hdb he hpl
theorem dx_propE {pre : Cns (Rt C) Nil → Prop} {g : Cns (Rt C) Nil → β} (c : Cls X.K C) (B : PDef X.prog X.w X.K X.mg X.base k C nm (SpE pre g)) (hr : Room (k + 1) X.A) (h : Dx X W o σ H (· = r)) (hp : pre ⟨r, ⟨⟩⟩)
    (hb : attributeBase o nm X.env (eval o X.env) = eval o X.env := by rfl) : Dx X W (.Attribute o nm pos) σ H (· = g ⟨r, ⟨⟩⟩) := dx_prop c B hr h hp hb
theorem dx_methE {x : A} {pre : Cns (Rt C) A → Prop} {g : Cns (Rt C) A → β} {pl : Sem Bool} (c : Cls X.K C) (B : MDef X.prog X.w X.K X.mg X.base k C nm ps (SpE pre g)) (hr : Room k X.A) (h : Dx X W o σ H (· = r)) (ha : Ax X W (e :: es) σ H (· = x)) (hp : pre ⟨r, x⟩)
    (h1 : ¬ nm = "_bottom" := by decide +kernel) (h2 : ¬ nm = "_top" := by decide +kernel)
    (hst : starEach (e :: es) X.env = (false, eval e X.env) :: starEach es X.env := by rfl) (hpl : (backTo pos (starEach es X.env)).any (·.1) = false := by rfl)
    (ht : eval (.Call (.Attribute o nm apos) (e :: es) [] pos) X.env = (do
      let ov ← eval o X.env
      standAt apos.atName
      let (f, first) ← holding [ov] (getMethod ov nm pl)
      callWith pos f first (backTo pos (starEach (e :: es) X.env)) (backToKw pos (keywordEach [] X.env))) := by rfl) : Dx X W (.Call (.Attribute o nm apos) (e :: es) [] pos) σ H (· = g ⟨r, x⟩) := dx_meth c B hr h ha hp h1 h2 hst hpl ht
theorem dx_meth0E {pre : Cns (Rt C) Nil → Prop} {g : Cns (Rt C) Nil → β} {pl : Sem Bool} (c : Cls X.K C) (B : MDef X.prog X.w X.K X.mg X.base k C nm ps (SpE pre g)) (hr : Room k X.A) (h : Dx X W o σ H (· = r)) (hp : pre ⟨r, ⟨⟩⟩)
    (h1 : ¬ nm = "_bottom" := by decide +kernel) (h2 : ¬ nm = "_top" := by decide +kernel)
    (ht : eval (.Call (.Attribute o nm apos) [] [] pos) X.env = (do
      let ov ← eval o X.env
      standAt apos.atName
      let (f, first) ← holding [ov] (getMethod ov nm pl)
      callWith pos f first (backTo pos (starEach [] X.env)) (backToKw pos (keywordEach [] X.env))) := by rfl) : Dx X W (.Call (.Attribute o nm apos) [] [] pos) σ H (· = g ⟨r, ⟨⟩⟩) := dx_meth0 c B hr h hp h1 h2 ht
end
end Inn
set_option Elab.async false
set_option linter.all false
set_option maxRecDepth 100000
set_option maxHeartbeats 4000000
namespace Inn
open PySem L2 PySem.Spec PyProof.Rows
open Dat (Is)
/-! ### arguments by name -/
/-- how a def binds n values by place and the names ks -/
structure KwF (K : PySem.W.Frag) (fd : FuncData) (ps : List Str) (n : Nat) (ks : List Str) (gV : List V → List V → List V) : Prop where
  ex : ∃ g, KBn K fd ps n ks g gV
section
variable {X : Cx} {W : Wld} {σ : L2.St} {H : Hp} {pos p apos kpos : Pos} {a b c e o : Expr} {es : List Expr} {k : Nat} {nm m : Str} {α β γ A : Type} [Dat α] [Dat β] [Dat γ] [DArgs A] {ps ks : List Str} {f C : Addr} {fd : FuncData} {sp : Sp} {kws : List Keyword} {gV : List V → List V → List V}
def Kx (X : Cx) (W : Wld) (kws : List Keyword) (σ : L2.St) (H : Hp) (P : A → Prop) : Prop := ∃ ta, PK X kws ta ∧ EvA W ta σ H P
theorem kx_nil : Kx X W [] σ H (fun x : Nil => x = ⟨⟩) := ⟨_, pk_nil, fun H1 _ hI Q q => q [] H1 ⟨⟩ (Up.refl _) hI rfl rfl⟩
theorem kx_cons {x : α} {r : A} {kn : Option Str} (h : Dx X W e σ H (· = x)) (hr : Kx X W kws σ H (· = r)) : Kx X W (⟨kn, e, kpos⟩ :: kws) σ H (· = Cns.mk x r) := by
  obtain ⟨te, pe, ev⟩ := h
  obtain ⟨ta, pa, va⟩ := hr
  refine ⟨_, pk_cons pe pa, fun H1 u hI Q q => ev H1 u hI _ fun v H2 x' u2 i2 hx px => va H2 (u.trans u2) i2 _ fun vs H3 r' u3 i3 hr' pr => ?_⟩
  subst px; subst pr
  exact q (v :: vs) H3 ⟨x', r'⟩ (u2.trans u3) i3 ⟨v, vs, rfl, Dat.up u3 hx, hr'⟩ rfl
theorem run_kw {pins : List (Addr × Obj)} {s : Shared} {Q : VK} {us ws : List Value} {vs zs : List V} (F : FnOk X.prog X.w X.K X.mg X.base CX0 k f fd ps sp) (hr : Room k X.A) {n : Nat} (hb : KwF X.K fd ps n ks gV)
    (I : Inv X pins σ H s) (r : Vals vs us) (rz : Vals zs ws) (l1 : vs.length = n) (l2 : zs.length = ks.length) (h : sp (gV vs zs) H Q E0) :
    codeAny (model X.prog X.w) X.A (.call (.ref f) ⟨us, ks.zip ws⟩) (fun r s' => match r with | .ok (.ret v) => EP X pins σ Q v s' | .ok _ => False | .error e => X.xe e s') s := by
  obtain ⟨g, hb⟩ := hb.ex
  refine codeAny_mono (F.run X.A X.stack s H ⟨us, ks.zip ws⟩ (g us ws) (gV vs zs) Q E0 hr I.env0 (hb.to s us ws I.kIn (r.length.symm.trans l1) (rz.length.symm.trans l2)) (hb.rel r rz) h) fun r s' hq => ?_
  cases r with
  | error e => exact False.elim hq
  | ok fl =>
    cases fl with
    | ret u => exact I.after hq
    | next => exact False.elim hq
    | brk => exact False.elim hq
    | cont => exact False.elim hq
/-- a def, called by names alone -/
structure KDef (P : Program) (w : World) (K : PySem.W.Frag) (mg : Str → Option Value) (base : Heap) (k : Nat) (nm : Str) (ps ks : List Str) (gV : List V → List V → List V) (sp : Sp) : Prop where
  ex : ∃ f fd, FnOk P w K mg base CX0 k f fd ps sp ∧ mg nm = some (.ref f) ∧ PySem.W.keepIn K (.ref f) = true ∧ KwF K fd ps 0 ks gV
theorem dx_callKE {kw : Keyword} {pre : A → Prop} {g : A → β} {x : A} (B : KDef X.prog X.w X.K X.mg X.base k nm ps ks gV (SpE pre g)) (hr : Room k X.A) (hkw : Kx X W (kw :: kws) σ H (· = x)) (hp : pre x) (hgv : ∀ zs, gV [] zs = zs) (hln : DArgs.n A = ks.length)
    (hg : Gl X nm := by rfl) (hdb : (nm == ("__debug__" : Str)) = false := by decide) (hall : (backToKw pos (keywordEach (kw :: kws) X.env)).all (·.1.isSome) = true := by rfl) (hks : (backToKw pos (keywordEach (kw :: kws) X.env)).filterMap (·.1) = ks := by rfl)
    (hpl : ((backTo pos (starEach [] X.env)).any (·.1) || (backToKw pos (keywordEach (kw :: kws) X.env)).any (·.1.isNone)) = false := by rfl) : Dx X W (.Call (.Name nm p) [] (kw :: kws) pos) σ H (· = g x) := by
  obtain ⟨f, fd, F, hm, hk, hb⟩ := B.ex
  obtain ⟨tk, pk, vk⟩ := hkw
  have pe : PE X (.Call (.Name nm p) [] (kw :: kws) pos) (fun σ H Q => tk σ H fun zs H2 => zs.length = ks.length ∧ SpE pre g (gV [] zs) H2 Q E0) := by
    refine ⟨fun pins s σ H Q I h => ?_⟩
    refine wpAny_Call_Name_kw (ld_glob I hg hm ?_ hdb)
    refine PySem.W.callWith_KW0 (h₀ := X.base) I.ok.mod.kin hk hall (thn (pk.run pos pins s σ H _ I h) fun ws s2 ⟨zs, H2, I2, rz, l2, q2⟩ => ⟨I2.kIn, ?_⟩) hpl
    rw [hks]
    exact wpAny_call (run_kw F hr hb I2 .nil rz rfl l2 q2)
  refine ⟨_, pe, fun H1 u hI Q q => vk H1 u hI _ fun zs H2 a u2 i2 ha pa => ?_⟩
  subst pa
  exact ⟨(DArgs.len ha).trans hln, W, a, by rw [hgv]; exact ha, i2, hp, fun w H3 y u3 i3 hy ry => q w H3 y (u2.trans u3) i3 hy ry⟩
/-- a method, called by names alone -/
structure KMDef (P : Program) (w : World) (K : PySem.W.Frag) (mg : Str → Option Value) (base : Heap) (k : Nat) (C : Addr) (nm : Str) (ps ks : List Str) (sp : Sp) : Prop where
  ex : ∃ f fd, FnOk P w K mg base CX0 k f fd ps sp ∧ Meth K C nm f ∧ KwF K fd ps 1 ks (· ++ ·)
theorem dx_methKE {kw : Keyword} {x : A} {r : Rt C} {pre : Cns (Rt C) A → Prop} {g : Cns (Rt C) A → β} {pl : Sem Bool} (c : Cls X.K C) (B : KMDef X.prog X.w X.K X.mg X.base k C nm ps ks (SpE pre g)) (hr : Room k X.A) (h : Dx X W o σ H (· = r)) (hkw : Kx X W (kw :: kws) σ H (· = x)) (hp : pre ⟨r, x⟩) (hln : DArgs.n A = ks.length)
    (h1 : ¬ nm = "_bottom" := by decide +kernel) (h2 : ¬ nm = "_top" := by decide +kernel) (hall : (backToKw pos (keywordEach (kw :: kws) X.env)).all (·.1.isSome) = true := by rfl) (hks : (backToKw pos (keywordEach (kw :: kws) X.env)).filterMap (·.1) = ks := by rfl)
    (hpl : ((backTo pos (starEach [] X.env)).any (·.1) || (backToKw pos (keywordEach (kw :: kws) X.env)).any (·.1.isNone)) = false := by rfl)
    (ht : eval (.Call (.Attribute o nm apos) [] (kw :: kws) pos) X.env = (do
      let ov ← eval o X.env
      standAt apos.atName
      let (f, first) ← holding [ov] (getMethod ov nm pl)
      callWith pos f first (backTo pos (starEach [] X.env)) (backToKw pos (keywordEach (kw :: kws) X.env))) := by rfl) : Dx X W (.Call (.Attribute o nm apos) [] (kw :: kws) pos) σ H (· = g ⟨r, x⟩) := by
  obtain ⟨f, fd, F, hm, hb⟩ := B.ex
  obtain ⟨te, pe, ev⟩ := h
  obtain ⟨tk, pk, vk⟩ := hkw
  have pe : PE X (.Call (.Attribute o nm apos) [] (kw :: kws) pos) (fun σ H Q => te σ H fun x H1 => ∃ a dx fs, x = .ref a ∧ H1 a = some (.ins C dx fs) ∧ fs.lookup nm = none ∧ tk σ H1 fun zs H2 => zs.length = ks.length ∧ SpE pre g (.ref a :: zs) H2 Q E0) := by
    refine ⟨fun pins s σ H Q I h => ?_⟩
    refine PySem.W.methodCall_KW (pl := pl) (thn (pe.run pins s σ H _ I h) fun u s1 ⟨x, H1, I1, rx, a, dx, fs, ex, ea, l, q⟩ => ?_) ht
    subst ex
    obtain rfl : u = Value.ref a := rx
    refine getmeth_ok I1 ea c hm l ?_
    refine PySem.W.callWith_KW0 (first := [.ref a]) (h₀ := X.base) I.ok.mod.kin hm.kp hall (thn (pk.run pos pins s1 σ H1 _ I1 q) fun ws s2 ⟨zs, H2, I2, rz, l2, q2⟩ => ⟨I2.kIn, ?_⟩) hpl
    rw [hks]
    exact wpAny_call (run_kw (us := [.ref a]) (vs := [.ref a]) F hr hb I2 (.cons rfl .nil) rz rfl l2 q2)
  refine ⟨_, pe, fun H1 u hI Q q => ev H1 u hI _ fun v H2 y u2 i2 hy py => ?_⟩
  subst py
  obtain ⟨q1, dx, rfl, nM, e2⟩ := id hy
  refine ⟨q1, dx, _, rfl, e2, rfs_no _ _ h1 h2, vk H2 (u.trans u2) i2 _ fun zs H3 z u3 i3 hz pz => ?_⟩
  subst pz
  exact ⟨(DArgs.len hz).trans hln, W, ⟨y, z⟩, ⟨_, zs, rfl, Dat.up u3 hy, hz⟩, i3, hp, fun w H4 y' u4 i4 hy' ry => q w H4 y' ((u2.trans u3).trans u4) i4 hy' ry⟩
/-- the class, called by both names, the last first -/
structure KCDef (P : Program) (w : World) (K : PySem.W.Frag) (mg : Str → Option Value) (base : Heap) (k : Nat) (C : Addr) (nm : Str) : Prop where
  ex : ∃ f fd g, FnOk P w K mg base CX0 k f fd ["self", "top", "bottom"] (spInit C) ∧ Mk K C f ∧ mg nm = some (.ref C) ∧ KBn K fd ["self", "top", "bottom"] 1 ["bottom", "top"] g (fun vs zs => vs ++ zs.reverse)
theorem dx_makeKE {k1 k2 : Keyword} {t b' : Int} (B : KCDef X.prog X.w X.K X.mg X.base k C nm) (hr : Room (k + 1) X.A) (hkw : Kx X W [k1, k2] σ H (· = (⟨b', ⟨t, ⟨⟩⟩⟩ : Cns Int (Cns Int Nil)))) (h0 : b' ≠ 0) (st : Sm t) (sb : Sm b')
    (hg : Gl X nm := by rfl) (hdb : (nm == ("__debug__" : Str)) = false := by decide) (hall : (backToKw pos (keywordEach [k1, k2] X.env)).all (·.1.isSome) = true := by rfl) (hks : (backToKw pos (keywordEach [k1, k2] X.env)).filterMap (·.1) = (["bottom", "top"] : List Str) := by rfl)
    (hpl : ((backTo pos (starEach [] X.env)).any (·.1) || (backToKw pos (keywordEach [k1, k2] X.env)).any (·.1.isNone)) = false := by rfl) : Dx X W (.Call (.Name nm p) [] [k1, k2] pos) σ H (· = mk C t b') := by
  obtain ⟨f, fd, g, F, M, hm, hb⟩ := B.ex
  obtain ⟨tk, pk, vk⟩ := hkw
  refine ⟨_, pe_makeK0 (E := E0) M F hr hg hm hb pass0 pk hall hks hdb hpl, fun H1 u hI Q q => vk H1 u hI _ fun zs H2 a u2 i2 ha pa => ?_⟩
  subst pa
  obtain ⟨z1, _, rfl, e1, z2, _, rfl, e2, rfl⟩ := ha
  cases e1
  cases e2
  refine ⟨rfl, rfl, fun x dx nx ndx ne => ?_⟩
  exact made_ok i2 nx ndx ne h0 st sb fun H4 u4 i4 h4 => q _ H4 _ (u2.trans u4) i4 h4 rfl
/-! ### classes as values -/
structure Cl where
  u : V
instance : Dat Cl := ⟨fun _ _ v x => v = x.u, fun _ h => h⟩
theorem dx_ty (hm : X.mg nm = none) (hv : bootBuiltins nm = some (.type T)) (hg : Gl X nm := by rfl) (hn : nm ≠ "__name__" := by decide +kernel) (hd : (nm == ("__debug__" : Str)) = false := by decide) : Dx X W (.Name nm p) σ H (· = Cl.mk (.ty T)) :=
  ⟨_, pe_bltn (v := .ty T) (u := .type T) hg hm hv rfl hn hd, fun H1 _ hI Q q => q _ H1 _ (Up.refl _) hI rfl rfl⟩
theorem dx_cls (hm : X.mg nm = some (.ref C)) (hg : Gl X nm := by rfl) (hdb : (nm == ("__debug__" : Str)) = false := by decide) : Dx X W (.Name nm p) σ H (· = Cl.mk (.ref C)) :=
  ⟨_, pe_glob (v := .ref C) (u := .ref C) hg hm rfl hdb, fun H1 _ hI Q q => q _ H1 _ (Up.refl _) hI rfl rfl⟩
/-- C(a, b), the class in a local name -/
theorem dx_makeV {t b' : Int} {es2 : List Expr} (B : CDef X.prog X.w X.K X.mg X.base k C m) (hr : Room (k + 1) X.A) (hf : Dx X W (.Name nm p) σ H (· = Cl.mk (.ref C))) (hargs : Ax X W (e :: es) σ H (· = (⟨t, ⟨b', ⟨⟩⟩⟩ : Cns Int (Cns Int Nil)))) (h0 : b' ≠ 0) (st : Sm t) (sb : Sm b')
    (he : starEach (e :: es) X.env = (false, eval e X.env) :: starEach es X.env := by rfl) (hpl : (backTo pos (starEach es X.env)).any (·.1) = false := by rfl) : Dx X W (.Call (.Name nm p) (e :: es) [] pos) σ H (· = mk C t b') := by
  obtain ⟨f, fd, F, M, hm, hbi⟩ := B.ex
  obtain ⟨tf, pf, vf⟩ := hf
  obtain ⟨ta, pa, va⟩ := hargs
  have pe : PE X (.Call (.Name nm p) (e :: es) [] pos) (fun σ H Q => tf σ H fun c H1 => c = .ref C ∧ ta σ H1 fun vs H2 => ∀ x dx, H2 x = none → H2 dx = none → dx ≠ x → spInit C (.ref x :: (vs ++ [])) (upd (upd H2 dx (.own x)) x (.ins C dx [])) (fun v H3 => v = .non ∧ Q (.ref x) H3) E0) := by
    refine ⟨fun pins s σ H Q I h => ?_⟩
    refine wpAny_Call_Name_kw (thn (pf.run pins s σ H _ I h) fun u s1 ⟨c, H1, I1, rc, ec, q1⟩ => ?_)
    subst ec
    obtain rfl : u = Value.ref C := rc
    refine PySem.W.callWith_K (h₀ := X.base) I.ok.mod.kin M.kp (thn (pa.run pos pins s1 σ H1 _ I1 q1) fun us s2 ⟨vs, H2, I2, r, q⟩ => ⟨I2.kIn, ?_⟩) he hpl
    exact run_make M F hr hbi .nil pass0 I2 r q
  refine ⟨_, pe, fun H1 u hI Q q => vf H1 u hI _ fun v H2 z u2 i2 hz pz => ?_⟩
  subst pz
  refine ⟨hz, va H2 (u.trans u2) i2 _ fun vs H3 z u3 i3 hz pz x dx nx ndx ne => ?_⟩
  subst pz
  obtain ⟨z1, _, rfl, e1, z2, _, rfl, e2, rfl⟩ := hz
  cases e1
  cases e2
  exact made_ok i3 nx ndx ne h0 st sb fun H4 u4 i4 h4 => q _ H4 _ ((u2.trans u3).trans u4) i4 h4 rfl
/-! ### classmethods -/
structure CmDef (P : Program) (w : World) (K : PySem.W.Frag) (mg : Str → Option Value) (base : Heap) (k : Nat) (C : Addr) (nm : Str) (ps ks : List Str) (sp : Sp) : Prop where
  ex : ∃ f fd mc p, FnOk P w K mg base CX0 k f fd ps sp ∧ ClX.CRead K C mc ∧ ClX.CMet K C mc nm p f ∧ Binds K fd ps [] ∧ KwF K fd ps 1 ks (· ++ ·)
theorem dx_cmethE {x : A} {pre : Cns Cl A → Prop} {g : Cns Cl A → β} {pl : Sem Bool} (B : CmDef X.prog X.w X.K X.mg X.base k C nm ps ks (SpE pre g)) (hr : Room k X.A) (h : Dx X W o σ H (· = Cl.mk (.ref C))) (ha : Ax X W (e :: es) σ H (· = x)) (hp : pre ⟨⟨.ref C⟩, x⟩)
    (hst : starEach (e :: es) X.env = (false, eval e X.env) :: starEach es X.env := by rfl) (hpl : (backTo pos (starEach es X.env)).any (·.1) = false := by rfl)
    (ht : eval (.Call (.Attribute o nm apos) (e :: es) [] pos) X.env = (do
      let ov ← eval o X.env
      standAt apos.atName
      let (f, first) ← holding [ov] (getMethod ov nm pl)
      callWith pos f first (backTo pos (starEach (e :: es) X.env)) (backToKw pos (keywordEach [] X.env))) := by rfl) : Dx X W (.Call (.Attribute o nm apos) (e :: es) [] pos) σ H (· = g ⟨⟨.ref C⟩, x⟩) := by
  obtain ⟨f, fd, mc, q, F, R, M, hb, _⟩ := B.ex
  obtain ⟨te, pe, ev⟩ := h
  obtain ⟨ta, pa, va⟩ := ha
  refine ⟨_, ClX.pe_cmeth (E := E0) pe R M (F.raw hb .nil) hr pass0 pa hst hpl ht, fun H1 u hI Q q => ev H1 u hI _ fun v H2 y u2 i2 hy py => ?_⟩
  subst py
  refine ⟨hy, va H2 (u.trans u2) i2 _ fun vs H3 z u3 i3 hz pz => ?_⟩
  subst pz
  rw [List.append_nil]
  exact ⟨W, ⟨⟨.ref C⟩, z⟩, ⟨_, vs, rfl, rfl, hz⟩, i3, hp, fun w H4 y' u4 i4 hy' ry => q w H4 y' ((u2.trans u3).trans u4) i4 hy' ry⟩
theorem dx_cmethKE {kw : Keyword} {x : A} {pre : Cns Cl A → Prop} {g : Cns Cl A → β} {pl : Sem Bool} (B : CmDef X.prog X.w X.K X.mg X.base k C nm ps ks (SpE pre g)) (hr : Room k X.A) (h : Dx X W o σ H (· = Cl.mk (.ref C))) (hkw : Kx X W (kw :: kws) σ H (· = x)) (hp : pre ⟨⟨.ref C⟩, x⟩) (hln : DArgs.n A = ks.length)
    (hall : (backToKw pos (keywordEach (kw :: kws) X.env)).all (·.1.isSome) = true := by rfl) (hks : (backToKw pos (keywordEach (kw :: kws) X.env)).filterMap (·.1) = ks := by rfl)
    (hpl : ((backTo pos (starEach [] X.env)).any (·.1) || (backToKw pos (keywordEach (kw :: kws) X.env)).any (·.1.isNone)) = false := by rfl)
    (ht : eval (.Call (.Attribute o nm apos) [] (kw :: kws) pos) X.env = (do
      let ov ← eval o X.env
      standAt apos.atName
      let (f, first) ← holding [ov] (getMethod ov nm pl)
      callWith pos f first (backTo pos (starEach [] X.env)) (backToKw pos (keywordEach (kw :: kws) X.env))) := by rfl) : Dx X W (.Call (.Attribute o nm apos) [] (kw :: kws) pos) σ H (· = g ⟨⟨.ref C⟩, x⟩) := by
  obtain ⟨f, fd, mc, q, F, R, M, _, hb⟩ := B.ex
  obtain ⟨te, pe, ev⟩ := h
  obtain ⟨tk, pk, vk⟩ := hkw
  have pe : PE X (.Call (.Attribute o nm apos) [] (kw :: kws) pos) (fun σ H Q => te σ H fun x H1 => x = .ref C ∧ tk σ H1 fun zs H2 => zs.length = ks.length ∧ SpE pre g (.ref C :: zs) H2 Q E0) := by
    refine ⟨fun pins s σ H Q I h => ?_⟩
    refine PySem.W.methodCall_KW (pl := pl) (thn (pe.run pins s σ H _ I h) fun u s1 ⟨x, H1, I1, rx, ex, q⟩ => ?_) ht
    subst ex
    obtain rfl : u = Value.ref C := rx
    refine ClX.getmethcm_ok I1 R M fun s2 I2 => ?_
    refine PySem.W.callWith_of hpl (PySem.W.keeps_M M.fi) (evalArgs_kw2_nil hall (thn (pk.run pos _ s2 σ H1 _ I2 q) fun ws s3 ⟨zs, H2, I3, rz, l2, q2⟩ => ⟨⟨ClX.pin_at I3, I3.kIn⟩, ?_⟩))
    rw [hks]
    refine thn (wpAny_call (PySem.W.method_call (ClX.pin_at I3) (run_kw (us := [.ref C]) (vs := [.ref C]) F hr hb I3 (.cons rfl .nil) rz rfl l2 q2))) fun _ _ y => ClX.unpinE y
  refine ⟨_, pe, fun H1 u hI Q q => ev H1 u hI _ fun v H2 y u2 i2 hy py => ?_⟩
  subst py
  refine ⟨hy, vk H2 (u.trans u2) i2 _ fun zs H3 z u3 i3 hz pz => ?_⟩
  subst pz
  exact ⟨(DArgs.len hz).trans hln, W, ⟨⟨.ref C⟩, z⟩, ⟨_, zs, rfl, rfl, hz⟩, i3, hp, fun w H4 y' u4 i4 hy' ry => q w H4 y' ((u2.trans u3).trans u4) i4 hy' ry⟩
end
end Inn
set_option Elab.async false
set_option linter.all false
set_option maxRecDepth 100000
set_option maxHeartbeats 4000000
namespace Inn
open PySem L2 PySem.Spec PyProof.Rows
open Dat (Is)
/-! ### a list, or a tuple of any length -/
structure Sq (α : Type) where
  tp : Bool
  l : List α
def Sq.ho (tp : Bool) (us : List V) : HO := if tp = true then .tup us else .lst us
instance {α : Type} [Dat α] : Dat (Sq α) where
  Is W H v x := ∃ p us, v = .ref p ∧ ¬ W.M p ∧ H p = some (Sq.ho x.tp us) ∧ Paired (fun u y => Is W H u y) us x.l
  up e h := by
    obtain ⟨p, us, e1, n, e2, h1⟩ := h
    exact ⟨p, us, e1, n, e p _ n e2, paired_up e h1⟩
instance {α : Type} [Dat α] [Gr α] : Gr (Sq α) := ⟨fun hD h => by
  obtain ⟨p, us, e1, n, e2, h1⟩ := h
  exact ⟨p, us, e1, gr_M n hD e2, e2, paired_gr hD h1⟩⟩
instance {α : Type} [Dat α] [Wk α] : Wk (Sq α) := ⟨fun m h => by
  obtain ⟨p, us, e1, n, e2, h1⟩ := h
  exact ⟨p, us, e1, fun z => n (m _ z), e2, paired_wk m h1⟩⟩
section
variable {X : Cx} {W : Wld} {σ : L2.St} {H : Hp} {pos p p1 p2 apos : Pos} {a b c e o : Expr} {es : List Expr} {nm : Str} {k : Nat} {α β γ A : Type} [Dat α] [Dat β] [Dat γ] [DArgs A] {C : Addr}
theorem dx_sqL {xs : List α} (h : Dx X W e σ H (· = xs)) : Dx X W e σ H (fun y : Sq α => y = ⟨false, xs⟩) := h.as (fun l => ⟨false, l⟩) fun hx px => by subst px; exact ⟨hx, rfl⟩
/-- tuple(a list) -/
theorem dx_tupleOf {xs : List α} (h : Dx X W e σ H (· = xs)) (hm : X.mg "tuple" = none) (hg : Gl X "tuple" := by rfl) (hs : starEach (e :: []) X.env = (false, eval e X.env) :: starEach [] X.env := by rfl) : Dx X W (.Call (.Name "tuple" p) [e] [] pos) σ H (fun y : Sq α => y = ⟨true, xs⟩) := by
  obtain ⟨te, pe, ev⟩ := h
  refine ⟨_, pe_tupleOf hg hm pe hs, fun H1 u hI Q q => ev H1 u hI _ fun v H2 x u2 i2 hx px => ?_⟩
  subst px
  obtain ⟨a, us, rfl, n, e1, h1⟩ := hx
  refine .inl ⟨a, us, rfl, SqL.of e1, fun D hD => ?_⟩
  have un : Up W H2 (upd H2 D (.tup us)) := Up.new hD
  exact q _ _ ⟨true, x⟩ (u2.trans un) (I_new i2 hD) ⟨D, us, rfl, not_M i2 hD, upd_same, paired_up un h1⟩ rfl
/-- isinstance(x, (C1, C2)) -/
theorem dx_isi2 {x : Sq α} (h : Dx X W e σ H (· = x)) (hm : X.mg "isinstance" = none) (h1 : X.mg "list" = none) (h2 : X.mg "tuple" = none) {kt : Nat} {pt : Pos} (hg : Gl X "isinstance" := by rfl) (hg1 : Gl X "list" := by rfl) (hg2 : Gl X "tuple" := by rfl)
    (hs : starEach (e :: [.Tuple [.Name "list" p1, .Name "tuple" p2] kt pt]) X.env = (false, eval e X.env) :: starEach [.Tuple [.Name "list" p1, .Name "tuple" p2] kt pt] X.env := by rfl)
    (hs2 : starEach (.Tuple [.Name "list" p1, .Name "tuple" p2] kt pt :: []) X.env = (false, eval (.Tuple [.Name "list" p1, .Name "tuple" p2] kt pt) X.env) :: starEach [] X.env := by rfl) (hpl : (backTo pos (starEach [.Tuple [.Name "list" p1, .Name "tuple" p2] kt pt] X.env)).any (·.1) = false := by rfl) 
    (hs3 : starEach (.Name "list" p1 :: [.Name "tuple" p2]) X.env = (false, eval (.Name "list" p1) X.env) :: starEach [.Name "tuple" p2] X.env := by rfl) (hs4 : starEach (.Name "tuple" p2 :: []) X.env = (false, eval (.Name "tuple" p2) X.env) :: starEach [] X.env := by rfl) :
    Dx X W (.Call (.Name "isinstance" p) [e, .Tuple [.Name "list" p1, .Name "tuple" p2] kt pt] [] pos) σ H (· = true) := by
  obtain ⟨te, pe, ev⟩ := h
  obtain ⟨tt, pt', vt⟩ := dx_tupP (X := X) (W := W) (σ := σ) (H := H) (pos := pt) (k := kt) (dx_ty (p := p1) h1 (show bootBuiltins "list" = some (.type "list") by decide +kernel) hg1) (dx_ty (p := p2) h2 (show bootBuiltins "tuple" = some (.type "tuple") by decide +kernel) hg2) hs3 hs4
  refine ⟨_, pe_callB call_isiT hg hm (by decide +kernel) (pa_cons pe (pa_cons pt' pa_nil hs2) hs) (he := hs) (hpl := hpl), fun H1 u1 hI Q q => ev H1 u1 hI _ fun v H2 y u2 i2 hy py => vt H2 (u1.trans u2) i2 _ fun w H3 z u3 i3 hz pz => ?_⟩
  subst py
  obtain ⟨z1, z2⟩ := z
  obtain ⟨pz1, pz2⟩ := pz
  cases pz1
  cases pz2
  obtain ⟨pp, v1, v2, rfl, nM, e2, w1, w2⟩ := hz
  cases w1
  cases w2
  obtain ⟨a, us, rfl, n, e1, h1⟩ := Dat.up u3 hy
  have hk : ∀ T ∈ ["list", "tuple"], PySem.W.kitAny X.K (.type T) [.type "list", .type "tuple"] = some true := by
    intro T hT
    rcases List.mem_cons.mp hT with e | hT
    · subst e
      exact kitAny_cons (kit_ty (show kitB "list" "list" = some true by decide +kernel)) (fun h => nomatch h) fun _ => rfl
    · rcases List.mem_cons.mp hT with e | hT
      · subst e
        exact kitAny_cons (kit_ty (show kitB "tuple" "list" = some false by decide +kernel)) (fun _ => kitAny_cons (kit_ty (show kitB "tuple" "tuple" = some true by decide +kernel)) (fun h => nomatch h) fun _ => rfl) fun h => nomatch h
      · cases hT
  cases y with
  | mk tp l =>
    cases tp with
    | true => exact ⟨.ref a, pp, [.ty "list", .ty "tuple"], .type "tuple", [.type "list", .type "tuple"], true, rfl, e2, .cons (.ty "list") (.cons (.ty "tuple") .nil), .base (.tup e1), hk _ (by decide), q _ H3 true (u2.trans u3) i3 rfl rfl⟩
    | false => exact ⟨.ref a, pp, [.ty "list", .ty "tuple"], .type "list", [.type "list", .type "tuple"], true, rfl, e2, .cons (.ty "list") (.cons (.ty "tuple") .nil), .base (.lst e1), hk _ (by decide), q _ H3 true (u2.trans u3) i3 rfl rfl⟩
/-- [elt for x in xs], xs a list or a tuple -/
theorem dc_lcS (i : Nat) {x : Str} {px pc : Pos} {elt iter : Expr} {scope : Scope} {xs : Sq α} {R : α → β → Prop} [Gr α] [Wk β] (hit : Dx X W iter σ H (· = xs)) (hl : xs.l.length ≤ 40000)
    (he : ∀ (D : Addr) (H1 : Hp) (us : List V), Up W H H1 → W.I H1 → H1 D = none → ∀ (j : Nat) (y : α) (v : V) H2, xs.l[j]? = some y → Up (Wg W D us) H1 H2 → (Wg W D us).I H2 → Is (Wg W D us) H2 v y → Bx X (Wg W D us) scope elt ((σ.set i none).set i (some v)) H2 (R y))
    (hc : X.calm = true) (hN : X.N.Nodup) (ok : BlkOk X.N X.env.scope scope [(x, i)])
    (hg : ∀ (s : Shared) (H : Hp) (C : Addr) (cl : List (Str × Addr)) (fp : List Addr), PG (X.blk s H scope (compEnvC scope cl C X.env) fp) (.Name x px) (gName i)) (hs : ∀ x, foldedSetIterable iter X.env x = pure x := by intro _; rfl) :
    Dc X W (.ListComp elt [⟨.Name x px, iter, [], 0⟩] scope pc) σ H (fun ys => Mapd R xs.l ys) := by
  obtain ⟨tp, l⟩ := xs
  cases tp with
  | false => exact dc_lc i (hit.as (fun y : Sq α => y.l) fun hx px => by subst px; exact ⟨hx, rfl⟩) hl he hc hN ok hg hs
  | true =>
    obtain ⟨ti, pi, vi⟩ := hit
    refine ⟨_, pe_lc (own := [(x, i)]) hc hN (pi_tup pi) ok hg (fun _ _ _ _ _ => pts_nil) (fun _ _ _ _ _ => pe_tBx) hs, fun h1 h2 h3 => ps_setLc (own := [(x, i)]) hc hN h1 h2 h3 (pi_tup pi) ok hg (fun _ _ _ _ _ => pts_nil) (fun _ _ _ _ _ => pe_tBx) hs, fun H1 u1 i1 Q q => vi H1 u1 i1 _ fun v H2 zs u2 i2 hv ez => ?_⟩
    subst ez
    obtain ⟨a, us, rfl, n, e1, h1⟩ := id hv
    have e1' : H2 a = some (.tup us) := e1
    refine ⟨a, rfl, ⟨_, SqT.of e1'⟩, fun D hD => lc_tup (xs := us) (fun j H' => LcW W R l H2 D j H') ⟨up_at, [], [], ⟨I_new i2 hD, upd_same⟩, .nil, .nil⟩ (fun j H' _ p => SqT.of (p.1 a _ (gr_M n hD e1') e1')) (fun j w H' hw p => ?_) (fun H' p => ?_)⟩
    · obtain ⟨y, hy, hwy⟩ := paired_getL h1 hw
      have hset : ((σ.set i none).set i (some w)).set i none = σ.set i none := by rw [List.set_set, List.set_set]
      refine ⟨hset, ?_⟩
      exact lcw_turn (not_M i2 hD) hy (show l.length ≤ 100000 from Nat.le_trans hl (by decide)) p fun us' pI => (he D H2 us' (u1.trans u2) i2 hD j y w H' hy p.1 pI (Dat.up (W := Wg W D us') p.1 (Gr.gr hD hwy))).ev
    · obtain ⟨p1, us', ys, p2, h2, h3⟩ := p
      rw [paired_len h1, List.take_length] at h3
      have uu := up_wg p1 hD
      exact q (.ref D) H' ys (u2.trans uu) p2.1 ⟨D, us', rfl, not_M i2 hD, p2.2, paired_wk wg_sub h2⟩ h3
end
end Inn
set_option Elab.async false
set_option linter.all false
set_option maxRecDepth 100000
set_option maxHeartbeats 4000000
namespace Inn
open PySem L2 PySem.Spec PyProof.Rows
open Dat (Is)
section
variable {X : Cx} {W : Wld} {σ : L2.St} {H : Hp} {pos : Pos} {a b c e : Expr} {es : List Expr} {α β γ A : Type} [Dat α] [Dat β] [Dat γ] [DArgs A] {D : Ends} {sts : List Stmt}
/-- a, b, c = x, y, z -/
theorem wss_par3 (i j l : Nat) {n1 n2 n3 : Str} {x : α} {y : β} {z : γ} {p1 p2 p3 pt pt2 : Pos} {kt k2} (ha : Ax X W [a, b, c] σ H (· = (⟨x, ⟨y, ⟨z, ⟨⟩⟩⟩⟩ : Cns α (Cns β (Cns γ Nil))))) (hI : W.I H)
    (k : ∀ u v w H1, Up W H H1 → W.I H1 → Is W H1 u x → Is W H1 v y → Is W H1 w z → Wss X sts D (((σ.set i (some u)).set j (some v)).set l (some w)) H1) (hc : X.calm = true) (nd : X.N.Nodup) (hi : X.N[i]? = some n1 := by rfl) (hj : X.N[j]? = some n2 := by rfl) (hl : X.N[l]? = some n3 := by rfl) (hij : i ≠ j := by decide) (hil : i ≠ l := by decide) (hjl : j ≠ l := by decide)
    (hx : X.env.scope.names.lookup n1 = some .local := by rfl) (hy : X.env.scope.names.lookup n2 = some .local := by rfl) (hz : X.env.scope.names.lookup n3 = some .local := by rfl)
    (hw : swappedStores [.Tuple [.Name n1 p1, .Name n2 p2, .Name n3 p3] kt pt] (.Tuple [a, b, c] k2 pt2) X.env = pure (some [n1, n2, n3]) := by rfl)
    (hs : swapsWithSole [.Tuple [.Name n1 p1, .Name n2 p2, .Name n3 p3] kt pt] (.Tuple [a, b, c] k2 pt2) pos.line X.env = pure false := by rfl) :
    Wss X (.Assign [.Tuple [.Name n1 p1, .Name n2 p2, .Name n3 p3] kt pt] (.Tuple [a, b, c] k2 pt2) pos :: sts) D σ H := by
  obtain ⟨ta, pa, va⟩ := ha
  refine ⟨_, pss_cons (ps_par3 hc nd hi hj hl hij hil hjl hx hy hz pa hw hs) wss_all, va H (Up.refl _) hI _ fun vs H1 r u1 i1 hr er => ?_⟩
  subst er
  obtain ⟨v1, _, rfl, h1, v2, _, rfl, h2, v3, _, rfl, h3, rfl⟩ := hr
  exact ⟨v1, v2, v3, rfl, k v1 v2 v3 H1 u1 i1 h1 h2 h3⟩
/-- five names at once -/
theorem wss_par5 (j1 j2 j3 j4 j5 : Nat) {n1 n2 n3 n4 n5 : Str} {p1 p2 p3 p4 p5 pt pt2 : Pos} {kt k2} {x : A} (ha : Ax X W es σ H (· = x)) (hn5 : DArgs.n A = 5) (hI : W.I H)
    (k : ∀ v1 v2 v3 v4 v5 H1, Up W H H1 → W.I H1 → DArgs.Is W H1 [v1, v2, v3, v4, v5] x → Wss X sts D (((((σ.set j1 (some v1)).set j2 (some v2)).set j3 (some v3)).set j4 (some v4)).set j5 (some v5)) H1) (hc : X.calm = true) (nd : X.N.Nodup)
    (hN1 : X.N[j1]? = some n1 := by rfl) (hN2 : X.N[j2]? = some n2 := by rfl) (hN3 : X.N[j3]? = some n3 := by rfl) (hN4 : X.N[j4]? = some n4 := by rfl) (hN5 : X.N[j5]? = some n5 := by rfl)
    (hx1 : X.env.scope.names.lookup n1 = some .local := by rfl) (hx2 : X.env.scope.names.lookup n2 = some .local := by rfl) (hx3 : X.env.scope.names.lookup n3 = some .local := by rfl) (hx4 : X.env.scope.names.lookup n4 = some .local := by rfl) (hx5 : X.env.scope.names.lookup n5 = some .local := by rfl)
    (ha1 : (assignEach (.Name n1 p1 :: [.Name n2 p2, .Name n3 p3, .Name n4 p4, .Name n5 p5]) X.env).map (·.2) = assign (.Name n1 p1) X.env :: (assignEach [.Name n2 p2, .Name n3 p3, .Name n4 p4, .Name n5 p5] X.env).map (·.2) := by rfl)
    (ha2 : (assignEach (.Name n2 p2 :: [.Name n3 p3, .Name n4 p4, .Name n5 p5]) X.env).map (·.2) = assign (.Name n2 p2) X.env :: (assignEach [.Name n3 p3, .Name n4 p4, .Name n5 p5] X.env).map (·.2) := by rfl)
    (ha3 : (assignEach (.Name n3 p3 :: [.Name n4 p4, .Name n5 p5]) X.env).map (·.2) = assign (.Name n3 p3) X.env :: (assignEach [.Name n4 p4, .Name n5 p5] X.env).map (·.2) := by rfl)
    (ha4 : (assignEach (.Name n4 p4 :: [.Name n5 p5]) X.env).map (·.2) = assign (.Name n4 p4) X.env :: (assignEach [.Name n5 p5] X.env).map (·.2) := by rfl)
    (ha5 : (assignEach (.Name n5 p5 :: []) X.env).map (·.2) = assign (.Name n5 p5) X.env :: (assignEach [] X.env).map (·.2) := by rfl)
    (hn : (assignEach [.Name n1 p1, .Name n2 p2, .Name n3 p3, .Name n4 p4, .Name n5 p5] X.env).length = 5 := by rfl) (hst : (assignEach [.Name n1 p1, .Name n2 p2, .Name n3 p3, .Name n4 p4, .Name n5 p5] X.env).findIdx? (·.1) = none := by rfl)
    (hs : swapsWithSole [.Tuple [.Name n1 p1, .Name n2 p2, .Name n3 p3, .Name n4 p4, .Name n5 p5] kt pt] (.Tuple es k2 pt2) pos.line X.env = pure false := by rfl) (hw : swappedStores [.Tuple [.Name n1 p1, .Name n2 p2, .Name n3 p3, .Name n4 p4, .Name n5 p5] kt pt] (.Tuple es k2 pt2) X.env = pure none := by rfl)
    (h1 : (assignEach [.Tuple [.Name n1 p1, .Name n2 p2, .Name n3 p3, .Name n4 p4, .Name n5 p5] kt pt] X.env).map (·.2) = [assign (.Tuple [.Name n1 p1, .Name n2 p2, .Name n3 p3, .Name n4 p4, .Name n5 p5] kt pt) X.env] := by rfl) :
    Wss X (.Assign [.Tuple [.Name n1 p1, .Name n2 p2, .Name n3 p3, .Name n4 p4, .Name n5 p5] kt pt] (.Tuple es k2 pt2) pos :: sts) D σ H := by
  obtain ⟨ta, pa, va⟩ := ha
  refine ⟨_, pss_cons (ps_asg (pe_tup pa) (pg_tup hc (pgs_cons (pg_name (i := j1) nd hN1 (.inl hx1) (.inr hx1)) (pgs_cons (pg_name (i := j2) nd hN2 (.inl hx2) (.inr hx2)) (pgs_cons (pg_name (i := j3) nd hN3 (.inl hx3) (.inr hx3)) (pgs_cons (pg_name (i := j4) nd hN4 (.inl hx4) (.inr hx4)) (pgs_cons (pg_name (i := j5) nd hN5 (.inl hx5) (.inr hx5)) pgs_nil ha5) ha4) ha3) ha2) ha1) hn hst) hs hw h1) wss_all, va H (Up.refl _) hI _ fun vs H1 r u1 i1 hr er => ?_⟩
  subst er
  have hl := (DArgs.len hr).trans hn5
  match vs, hl, hr with
  | [v1, v2, v3, v4, v5], _, hr =>
    refine ⟨by show 5 ≤ sizeLine; decide, fun p hp => ?_⟩
    refine ⟨p, [v1, v2, v3, v4, v5], rfl, SqT.of upd_same, rfl, v1, _, rfl, v2, _, rfl, v3, _, rfl, v4, _, rfl, v5, _, rfl, rfl, ?_⟩
    exact k v1 v2 v3 v4 v5 _ (u1.trans (Up.new hp)) (I_new i1 hp) (DArgs.up (Up.new hp) hr)
end
end Inn
set_option Elab.async false
set_option linter.all false
set_option maxRecDepth 100000
set_option maxHeartbeats 4000000
namespace Inn
open PySem L2 PySem.Spec PyProof.Rows
open Dat (Is)
section
variable {X : Cx} {W : Wld} {σ : L2.St} {H : Hp} {pos p : Pos} {a b c e : Expr} {es : List Expr} {nm : Str} {α β γ A : Type} [Dat α] [Dat β] [Dat γ] [DArgs A] {D : Ends} {sts bd : List Stmt} {C : Addr}
/-- name = [], a list that is to grow -/
theorem wss_newL (i : Nat) {pos' : Pos} (q : ∀ p, H p = none → Wss X sts D (σ.set i (some (.ref p))) (upd H p (.lst []))) (nd : X.N.Nodup)
    (hi : X.N[i]? = some nm := by rfl) (hx : Loc X.env.scope nm := by first | exact Or.inl rfl | exact Or.inr rfl) (hs : swapsWith (.List [] p) (some (.Name nm pos')) pos.line X.env = pure false := by rfl) (hf : X.fn nm = true ∨ X.env.scope.names.lookup nm = some .local := by first | exact .inl rfl | exact .inr rfl) :
    Wss X (.Assign [.Name nm pos'] (.List [] p) pos :: sts) D σ H :=
  ⟨_, pss_cons (ps_set nd hi hx (pe_lst pa_nil) hs hf) wss_all, by show 0 ≤ sizeLine; decide, fun p hp => q p hp⟩
/-- for k in range(n), what holds said in full -/
theorem wss_forRv (j : Nat) {n : Int} {p1 p2 pr : Pos} {ea : Expr} (hi : Dx X W ea σ H (· = n)) (hI : W.I H) (hn0 : 0 ≤ n) (hn1 : n ≤ 100000) (Pv : Nat → L2.St → Hp → Prop) (nd : X.N.Nodup) (hp : PassesOwn (model X.prog X.w) X.A X.env X.xe) (hc : X.calm = true) (hm : X.mg "range" = none)
    (h0 : ∀ H1, Up W H H1 → W.I H1 → Pv 0 σ H1)
    (hs : ∀ (i : Nat) σ' H', (i : Int) < n → Pv i σ' H' → Wss X bd { D with nx := Pv (i + 1), ct := Pv (i + 1), bk := fun σ2 H2 => Wss X sts D σ2 H2 } (σ'.set j (some (.int (i : Int)))) H')
    (hd : ∀ σ' H', Pv n.toNat σ' H' → Wss X sts D σ' H') (hg : Gl X "range" := by rfl) (hN : X.N[j]? = some nm := by rfl) (hx : L2.Loc X.env.scope nm := by first | exact Or.inl rfl | exact Or.inr rfl) (hf : X.fn nm = true ∨ X.env.scope.names.lookup nm = some .local := by first | exact .inl rfl | exact .inr rfl)
    (hst : starEach (ea :: []) X.env = (false, eval ea X.env) :: starEach [] X.env := by rfl) (hst2 : starEach [ea] X.env = [(false, eval ea X.env)] := by rfl) (hfs : ∀ x, foldedSetIterable (.Call (.Name "range" p2) [ea] [] pr) X.env x = pure x := by intro _; rfl) :
    Wss X (.For (.Name nm p1) (.Call (.Name "range" p2) [ea] [] pr) bd [] pos :: sts) D σ H := by
  obtain ⟨te, pe, ev⟩ := hi
  refine ⟨_, pss_cons (ps_for hp hc (pi_range1 hg hm (pa_cons pe pa_nil hst) hst2) (pg_name (i := j) nd hN hx hf) wss_all hfs) wss_all, ev H (Up.refl _) hI _ fun v H1 m u1 i1 hv em => ?_⟩
  subst em
  cases hv
  refine ⟨m, rfl, by omega, by omega, for_range (lo := 0) (n := m.toNat) Pv (h0 H1 u1 i1) (fun i σ' H' hi q => ?_) (fun σ' H' q => hd σ' H' q)⟩
  have e0 : (0 : Int) + (i : Int) = (i : Int) := Int.zero_add _
  show Wss X bd { D with nx := Pv (i + 1), ct := Pv (i + 1), bk := _ } (σ'.set j (some (.int ((0 : Int) + (i : Int))))) H'
  rw [e0]
  exact hs i σ' H' (by omega) q
theorem pot_wg {x : Pot} {H' : Hp} {q : Addr} {us : List V} {v : V} (hn : ¬ W.M q) (h : Is W H v x) : Is (Wg W q us) H' v x := by
  obtain ⟨e, P⟩ := h
  have ne : x.l ≠ q := fun z => hn (by rw [← z]; exact P.m)
  exact ⟨e, .inl P.m, fun h => P.rd h.1, fun a b h h1 h2 h3 => ⟨P.wr a b h.1 h1 h2 h3, by rw [upd_ne ne.symm]; exact h.2⟩⟩
/-- {} as a value of any kind -/
theorem dx_vdD : Dx X W (.Dict [] [] pos) σ H (fun y : Vd C => y = .dct) :=
  ⟨_, pe_dnewK, fun H1 _ hI Q q p hp => q _ _ (Vd.dct : Vd C) (Up.new hp) (I_new hI hp) (show ∃ p_1 us, V.ref p = V.ref p_1 ∧ ¬W.M p_1 ∧ upd H1 p (HO.dK []) p_1 = some (HO.dK us) from ⟨p, [], rfl, not_M hI hp, upd_same⟩) rfl⟩
end
end Inn
set_option Elab.async false
set_option linter.all false
set_option maxRecDepth 100000
set_option maxHeartbeats 4000000
namespace Inn
open PySem L2 PySem.Spec PyProof.Rows
open Dat (Is)
/-! ### the script, as the caller hands it -/
structure Scr (K : PySem.W.Frag) where
  l : List Int
instance {K : PySem.W.Frag} : Dat (Scr K) where
  Is W H v x := ∃ a, v = .ref a ∧ ¬ W.M a ∧ SqL K H a (x.l.map V.int)
  up e h := by
    obtain ⟨a, e1, n, h1⟩ := h
    refine ⟨a, e1, n, ?_⟩
    rcases h1 with h1 | h1
    · refine .inl ?_
      rcases h1 with h1 | ⟨o, h1⟩
      · exact .inl (e a _ n h1)
      · exact .inr ⟨o, e a _ n h1⟩
    · exact .inr h1
section
variable {X : Cx} {W : Wld} {σ : L2.St} {H : Hp} {pos p : Pos} {a e i : Expr} {x : Scr X.K}
theorem dx_lenS (h : Dx X W e σ H (· = x)) (hm : X.mg "len" = none) (hg : Gl X "len" := by rfl) (hs : starEach (e :: []) X.env = (false, eval e X.env) :: starEach [] X.env := by rfl) (hpl : (backTo pos (starEach [] X.env)).any (·.1) = false := by rfl) :
    Dx X W (.Call (.Name "len" p) [e] [] pos) σ H (fun y : Int => y = (x.l.length : Nat)) := dx_cb1 call_len_seq h hm PySem.boot_len (fun v H1 y Q _ hI hx px q => by
  subst px
  obtain ⟨b, e0, n, h1⟩ := hx
  subst e0
  have q' : Q (.int ((y.l.map V.int).length : Nat)) H1 := by
    rw [List.length_map]
    exact q _ H1 _ (Up.refl _) hI rfl rfl
  exact ⟨b, _, rfl, .inl h1, q'⟩) hg (hs := hs) (hpl := hpl)
theorem dx_ixS {n : Nat} {z : Int} (h : Dx X W a σ H (· = x)) (hi : Dx X W i σ H (fun z : Int => z = n)) (hx : x.l[n]? = some z) (hs : PlainIx i := by exact fun _ _ => rfl) : Dx X W (.Subscript a i pos) σ H (· = z) := by
  obtain ⟨ta, pa, va⟩ := h
  obtain ⟨ti, pi, vi⟩ := hi
  refine ⟨_, pe_ix ix_list pa pi hs, fun H1 u hI Q q => va H1 u hI _ fun v H2 y u2 i2 hy py => vi H2 (u.trans u2) i2 _ fun w H3 m u3 i3 hm pm => ?_⟩
  subst py; subst pm
  obtain ⟨b, e0, nM, h1⟩ := Dat.up u3 hy
  subst e0
  cases hm
  have hw : (y.l.map V.int)[n]? = some (.int z) := by rw [List.getElem?_map, hx]; rfl
  exact ⟨b, _, n, _, rfl, rfl, h1, atI_nat hw, q _ H3 _ (u2.trans u3) i3 rfl rfl⟩
end
/-! ### the law's call, where no text is being made -/
section
variable {P : Program} {w : World} {K : PySem.W.Frag} {mg mb : Str → Option Value} {k : Nat} {fa a : Addr} {fd : FuncData} {x : Str} {sp : Sp} {s1 : Shared} {vs : List Value} {ns : List Int}
/-- the law's def is run over the abstract heap T, in which the script alone may stand -/
theorem callG_core {T : Hp} (inK : K.In s1.heap) (gl : s1.heap.Ns mainGlobals mg) (bn : s1.heap.Ns builtinsNs mb) (bo : ∀ x : Str, x ≠ "__name__" → mb x = bootBuiltins x) (nl : s1.heap.NoLimit) (ge : s1.gens = #[])
    (obj : s1.heap.get? a = some { cls := .type "list", data := .seq vs.toArray }) (rm : Room k callerA)
    (F : ∀ base : Heap, K.In base → base.Ns mainGlobals mg → FnG P w K mg base k fa fd [x] sp) (bd : ∀ (s : Shared) (u : Value), BindsTo s fd ⟨[u], []⟩ [(x, u)]) (okT : HOk P w T s1.heap)
    (onlyT : Only T) (hs : sp [.ref a] T (fun v _ => v = .bl true) E0) (at_ : ∀ c, T c ≠ none → c = a) (notK : T a ≠ none → K.lookup a = none) :
    codeAny (model P w) callerA (.call (.ref fa) ⟨[.ref a], []⟩) (fun r s' => r = .ok (.ret (.bool true)) ∧ OldK s1.heap s'.heap ∧ s'.os = s1.os ∧ AllBare s'.gens) s1 := by
  have free : ∀ {c : Addr} {u : Obj}, s1.heap.get? c = some u → (∀ z, u ≠ { cls := .type "list", data := .seq z }) → T c = none := fun {c u} g d => by
    by_cases z : T c = none
    · exact z
    · have ec := at_ c z
      rw [ec, obj] at g
      exact absurd (Option.some.inj g).symm (d _)
  have seen : ∀ {c : Addr} {u : Obj}, s1.heap.get? c = some u → T c = none → (hidT s1.heap T).get? c = some u := fun g z => hidT_get g z
  have spaces : ∀ {c : Addr} {m : Str → Option Value}, s1.heap.Ns c m → (hidT s1.heap T).Ns c m := by
    rintro c m ⟨u, en, ep, g, d, rest⟩
    refine ⟨u, en, ep, seen g (free g fun z h => ?_), d, rest⟩
    rw [h] at d
    exact absurd d (by intro h2; cases h2)
  have kept : K.In (hidT s1.heap T) := fun c u g => seen (inK c u g) (by
    by_cases z : T c = none
    · exact z
    · have ec := at_ c z
      rw [ec] at g z
      have := notK z
      rw [g] at this
      cases this)
  obtain ⟨lim, l1, l2⟩ := nl
  have module : Mod K mg (hidT s1.heap T) := ⟨kept, spaces gl, ⟨mb, spaces bn, bo⟩, lim, spaces l1, l2⟩
  have start0 : Env0 P w K mg (hidT s1.heap T) callerA [] s1 T := ⟨rfl, module, fun c u g => of_hidT g, Nat.le_of_eq (hidT_size _ _), trivial, (fun c hc => nomatch hc), okT, .of_eq ge⟩
  refine codeAny_mono ((F _ kept (spaces gl)).go callerA [] s1 T ⟨[.ref a], []⟩ [.ref a] [.ref a] _ rfl rm start0 (bd s1 (.ref a)) (.cons rfl .nil) hs) ?_
  rintro r s2 ⟨u, rfl, v, H2, os2, bare2, un2, ok2, rel2, ev⟩
  have ev : v = .bl true := ev
  subst ev
  have eu : u = Value.bool true := rel2
  subst eu
  refine ⟨rfl, OldK.of_keep fun c o g => ?_, os2, bare2⟩
  rcases onlyT c with z | ⟨ob, xs, z⟩
  · exact un2.keep c o g z (fun m => nomatch m) (by simp)
  · have later := un2.frzs c ob _ z
    obtain ⟨g1, _⟩ := okT c _ z
    obtain ⟨g2, _⟩ := ok2 c _ later
    rw [g] at g1
    cases g1
    exact g2
theorem callG (inK : K.In s1.heap) (gl : s1.heap.Ns mainGlobals mg) (bn : s1.heap.Ns builtinsNs mb) (bo : ∀ x : Str, x ≠ "__name__" → mb x = bootBuiltins x) (nl : s1.heap.NoLimit) (ge : s1.gens = #[])
    (obj : s1.heap.get? a = some { cls := .type "list", data := .seq vs.toArray }) (itz : IntsAre vs ns) (few : ns.length ≤ sizeLine) (rm : Room k callerA)
    (F : ∀ base : Heap, K.In base → base.Ns mainGlobals mg → FnG P w K mg base k fa fd [x] sp) (bd : ∀ (s : Shared) (u : Value), BindsTo s fd ⟨[u], []⟩ [(x, u)])
    (hs : ∀ T : Hp, Only T → SqL K T a (ns.map V.int) → sp [.ref a] T (fun v _ => v = .bl true) E0) :
    codeAny (model P w) callerA (.call (.ref fa) ⟨[.ref a], []⟩) (fun r s' => r = .ok (.ret (.bool true)) ∧ OldK s1.heap s'.heap ∧ s'.os = s1.os ∧ AllBare s'.gens) s1 := by
  have rel := vals_ints itz
  have lv := itz.length
  by_cases inside : K.lookup a = none
  · -- its own object: frozen
    let fz : HO := .frz { cls := .type "list", data := .seq vs.toArray } (.lst (ns.map V.int))
    let T : Hp := fun c => if c = a then some fz else none
    have Ta : T a = some fz := if_pos rfl
    have To : ∀ {c}, c ≠ a → T c = none := fun z => if_neg z
    have only : Only T := fun c => by
      by_cases z : c = a
      · exact .inr ⟨_, _, by rw [z]; exact Ta⟩
      · exact .inl (To z)
    refine callG_core (T := T) inK gl bn bo nl ge obj rm F bd (fun c u z => ?_) only (hs T only (.inl (.inr ⟨_, Ta⟩))) (fun c z => ?_) fun _ => inside
    · by_cases e : c = a
      · subst e
        rw [Ta] at z
        cases z
        exact ⟨obj, by rw [List.length_map]; exact few, vs, _, rel, obj⟩
      · rw [To e] at z
        cases z
    · by_cases e : c = a
      · exact e
      · exact absurd (To e) z
  · -- one of the module's objects
    obtain ⟨o, ho⟩ := Option.ne_none_iff_exists'.mp inside
    have same := inK a o ho
    rw [obj] at same
    cases same
    have none_ : Only fun _ => none := fun _ => .inl rfl
    refine callG_core (T := fun _ => none) inK gl bn bo nl ge obj rm F bd (fun c u z => nomatch z) none_ (hs _ none_ (.inr ⟨_, vs.toArray, _, ho, rfl, rfl, rfl, ?_, ?_⟩)) (fun c z => absurd rfl z) fun z => absurd rfl z
    · rw [List.size_toArray, lv]
      exact few
    · simpa using rel
end
/-- the walk of a law whose def shows lists -/
theorem walkG {l : PySem.W.OpenLaw} {n k : Nat} {q : Program} {loose : List Str} {XP : (Str → Option Value) → Heap → Prop} {YP : World → Heap → Prop} {d : DefRec} {K : Params → PySem.W.Frag} {sp : World → Sp} {x : Str}
    (most : l.most = some n) (small : n ≤ sizeLine) (nodef : d.params.defaults = []) (rm : Room k callerA) (inY : ∀ (w : World) (h : Heap), YP w h → (K w.params).In h)
    (F : ∀ (w : World) (mg : Str → Option Value) (fa : Addr) (h : Heap), (K w.params).In h → h.Ns mainGlobals mg → mg d.name = some (.ref fa) →
      ∃ fd : FuncData, (∀ (s : Shared) (u : Value), BindsTo s fd ⟨[u], []⟩ [(x, u)]) ∧ ∀ base : Heap, (K w.params).In base → base.Ns mainGlobals mg → FnG l.prog w (K w.params) mg base k fa fd [x] (sp w))
    (hs : ∀ (w : World) (T : Hp) (a : Addr) (ns : List Int), ns.length ≤ n → Only T → SqL (K w.params) T a (ns.map V.int) → sp w [.ref a] T (fun v _ => v = .bl true) E0) :
    PySem.W.WalkO q loose XP YP l.row.toRowW d [] (fun f vs => PySem.call f vs) := by
  refine Att.attach_call most nodef fun w s0 s1 mg mb fa o pm cd doc a vs ns G Y ho hd hcd named obj itz len ge => ?_
  have inK := inY w _ Y
  obtain ⟨fd, bd, all⟩ := F w mg fa _ inK G.T.g named
  exact callG inK G.T.g G.T.b G.T.builtins G.T.nolimit ge obj itz (Nat.le_trans len small) rm all bd fun T oT hS => hs w T a ns len oT hS
end Inn
set_option Elab.async false
set_option linter.all false
set_option maxRecDepth 100000
set_option maxHeartbeats 4000000
namespace Inn
open PySem L2 PySem.Spec PyProof.Rows
/-! ### a head that tells one truth over the written part, and defs by places -/
def seeX (ok : PySem.W.Frag → Bool) (fn : List He5.DefA) (K : PySem.W.Frag) : He.AlD := (ok K && fn.all fun d => d.ok K, fn.map fun d => He5.fnA K (d.at_ K))
def dueX (fn : List He5.DefA) : He.AlD := (true, fn.map He5.DefA.val)
def TellX (ok : PySem.W.Frag → Bool) (fn : List He5.DefA) (K : PySem.W.Frag) : Prop := seeX ok fn K = dueX fn
def atX (n : Nat) (ok : PySem.W.Frag → Bool) (fn : List He5.DefA) (g : Addr → Option Obj) : He.AlD := seeX ok fn (He.frG g (He5.asA g n))
def hookX (n : Nat) (ok : PySem.W.Frag → Bool) (fn : List He5.DefA) : PySem.W.Hook where
  α := He.AlD
  obs := fun s => atX n ok fn s.heap.get?
  val := fun _ => dueX fn
  says := fun _ h => ∃ K : PySem.W.Frag, K.In h ∧ TellX ok fn K
  of := fun _ _ e => ⟨_, He.frG_in, e⟩
  keeps := fun _ _ _ ⟨K, hK, c⟩ k => ⟨K, PySem.W.Frag.In.keeps hK k, c⟩
theorem atX_eq {n : Nat} {ok : PySem.W.Frag → Bool} {fn : List He5.DefA} {g : Addr → Option Obj} {s : Shared} (h : ∀ a, g a = s.heap.get? a) : atX n ok fn g = (hookX n ok fn).obs s := by
  have e : g = s.heap.get? := funext h
  rw [e] <;> rfl
theorem TellX.truth {ok : PySem.W.Frag → Bool} {fn : List He5.DefA} {K : PySem.W.Frag} (c : TellX ok fn K) : ok K = true := (He.ba (show (ok K && fn.all fun d => d.ok K) = true from congrArg (fun z : He.AlD => z.1) c)).1
theorem TellX.def_ {ok : PySem.W.Frag → Bool} {fn : List He5.DefA} {K : PySem.W.Frag} (c : TellX ok fn K) (i : Nat) {d : He5.DefA} (h : fn[i]? = some d := by rfl) : ∃ fd, L2.FunD K d.name d.qual d.params d.body d.scope (d.dvs K) (d.kws K) (d.at_ K) fd := by
  have c2 := (He.ba (show (ok K && fn.all fun d => d.ok K) = true from congrArg (fun z : He.AlD => z.1) c)).2
  have e : fn.map (fun d => He5.fnA K (d.at_ K)) = fn.map He5.DefA.val := congrArg (fun z : He.AlD => z.2) c
  have e2 := congrArg (fun l => l[i]?) e
  simp only [List.getElem?_map, h] at e2
  exact He5.DefA.funD (Option.some.inj e2) (List.all_eq_true.mp c2 d (List.mem_of_getElem? h))
end Inn
set_option Elab.async false
set_option linter.all false
set_option maxRecDepth 100000
set_option maxHeartbeats 4000000
/-! Data of any kind, one type: what a value is in the abstract heap; expressions by what they ask. -/
namespace Uv
open PySem L2 Inn PySem.Spec PyProof.Rows
/-- the program's classes by number: where each stands, its fields in their sequence -/
structure Ct where
  at_ : Nat → Addr
  fs : Nat → List Str
  n : Nat
inductive D where
  | int (i : Int) | bl (b : Bool) | str (x : Str) | non
  | lst (l : List D) | tup (l : List D) | dct (ks : List Key) (l : List D)
  | ins (c : Nat) (l : List D)
  | pot (a : Addr) | cls (v : V)
instance : Inhabited D := ⟨.non⟩
section
variable (T : Ct) (N : Addr → Prop) (Pt : Addr → Prop) (H : Hp)
mutual
inductive IsD : V → D → Prop
  | int {i : Int} : IsD (.int i) (.int i)
  | bl {b : Bool} : IsD (.bl b) (.bl b)
  | str {x : Str} : IsD (.str x) (.str x)
  | non : IsD .non .non
  | lst {p : Addr} {us : List V} {l : List D} (n : ¬ N p) (e : H p = some (.lst us)) (h : IsDs us l) : IsD (.ref p) (.lst l)
  | tup {p : Addr} {us : List V} {l : List D} (n : ¬ N p) (e : H p = some (.tup us)) (h : IsDs us l) : IsD (.ref p) (.tup l)
  | dct {p : Addr} {kvs : List (Key × V)} {ks : List Key} {l : List D} (n : ¬ N p) (e : H p = some (.dK kvs)) (hk : kvs.map Prod.fst = ks) (h : IsDs (kvs.map Prod.snd) l) : IsD (.ref p) (.dct ks l)
  | ins {p dx : Addr} {c : Nat} {us : List V} {l : List D} (hc : c < T.n) (n : ¬ N p) (e : H p = some (.ins (T.at_ c) dx ((T.fs c).zip us))) (hl : us.length = (T.fs c).length) (h : IsDs us l) : IsD (.ref p) (.ins c l)
  | pot {a : Addr} (h : Pt a) : IsD (.ref a) (.pot a)
  | cls {v : V} : IsD v (.cls v)
inductive IsDs : List V → List D → Prop
  | nil : IsDs [] []
  | cons {v : V} {d : D} {vs : List V} {ds : List D} (h : IsD v d) (t : IsDs vs ds) : IsDs (v :: vs) (d :: ds)
end
end
section
variable {T : Ct} {N N' : Addr → Prop} {Pt Pt' : Addr → Prop} {H H' : Hp}
mutual
theorem IsD.conv (k : ∀ a o, ¬ N a → H a = some o → ¬ N' a ∧ H' a = some o) (kp : ∀ a, Pt a → Pt' a) : ∀ {v : V} {d : D}, IsD T N Pt H v d → IsD T N' Pt' H' v d
  | _, _, .int => .int
  | _, _, .bl => .bl
  | _, _, .str => .str
  | _, _, .non => .non
  | _, _, .lst n e h => .lst (k _ _ n e).1 (k _ _ n e).2 (IsDs.conv k kp h)
  | _, _, .tup n e h => .tup (k _ _ n e).1 (k _ _ n e).2 (IsDs.conv k kp h)
  | _, _, .dct n e hk h => .dct (k _ _ n e).1 (k _ _ n e).2 hk (IsDs.conv k kp h)
  | _, _, .ins hc n e hl h => .ins hc (k _ _ n e).1 (k _ _ n e).2 hl (IsDs.conv k kp h)
  | _, _, .pot h => .pot (kp _ h)
  | _, _, .cls => .cls
theorem IsDs.conv (k : ∀ a o, ¬ N a → H a = some o → ¬ N' a ∧ H' a = some o) (kp : ∀ a, Pt a → Pt' a) : ∀ {vs : List V} {ds : List D}, IsDs T N Pt H vs ds → IsDs T N' Pt' H' vs ds
  | _, _, .nil => .nil
  | _, _, .cons h t => .cons (IsD.conv k kp h) (IsDs.conv k kp t)
end
theorem IsDs.len : ∀ {vs : List V} {ds : List D}, IsDs T N Pt H vs ds → vs.length = ds.length
  | _, _, .nil => rfl
  | _, _, .cons _ t => congrArg Nat.succ t.len
theorem IsDs.get : ∀ {vs : List V} {ds : List D} {i : Nat} {d : D}, IsDs T N Pt H vs ds → ds[i]? = some d → ∃ v, vs[i]? = some v ∧ IsD T N Pt H v d
  | _, _, _, _, .nil, e => by simp at e
  | _, _, 0, _, .cons r _, e => by simp at e; subst e; exact ⟨_, rfl, r⟩
  | _, _, i + 1, d, .cons _ t, e => by
    obtain ⟨u, h1, h2⟩ := IsDs.get (i := i) (d := d) t (by simpa using e)
    exact ⟨u, by simpa using h1, h2⟩
theorem IsDs.getL : ∀ {vs : List V} {ds : List D} {i : Nat} {v : V}, IsDs T N Pt H vs ds → vs[i]? = some v → ∃ d, ds[i]? = some d ∧ IsD T N Pt H v d
  | _, _, _, _, .nil, e => by simp at e
  | _, _, 0, _, .cons r _, e => by simp at e; subst e; exact ⟨_, rfl, r⟩
  | _, _, i + 1, v, .cons _ t, e => by
    obtain ⟨u, h1, h2⟩ := IsDs.getL (i := i) (v := v) t (by simpa using e)
    exact ⟨u, by simpa using h1, h2⟩
theorem IsDs.app : ∀ {vs ws : List V} {ds es : List D}, IsDs T N Pt H vs ds → IsDs T N Pt H ws es → IsDs T N Pt H (vs ++ ws) (ds ++ es)
  | _, _, _, _, .nil, h => h
  | _, _, _, _, .cons r t, h => .cons r (t.app h)
theorem IsDs.take (n : Nat) : ∀ {vs : List V} {ds : List D}, IsDs T N Pt H vs ds → IsDs T N Pt H (vs.take n) (ds.take n)
  | _, _, .nil => by simp; exact .nil
  | _, _, .cons r t => by
    cases n with
    | zero => exact .nil
    | succ n => exact .cons r (t.take n)
theorem IsDs.drop (n : Nat) : ∀ {vs : List V} {ds : List D}, IsDs T N Pt H vs ds → IsDs T N Pt H (vs.drop n) (ds.drop n)
  | _, _, .nil => by simp; exact .nil
  | _, _, .cons r t => by
    cases n with
    | zero => exact .cons r t
    | succ n => exact t.drop n
theorem IsDs.rev : ∀ {vs : List V} {ds : List D}, IsDs T N Pt H vs ds → IsDs T N Pt H vs.reverse ds.reverse
  | _, _, .nil => .nil
  | _, _, .cons r t => by
    rw [List.reverse_cons, List.reverse_cons]
    exact t.rev.app (.cons r .nil)
theorem IsDs.set {v : V} {d : D} (h : IsD T N Pt H v d) : ∀ {vs : List V} {ds : List D} (i : Nat), IsDs T N Pt H vs ds → IsDs T N Pt H (vs.set i v) (ds.set i d)
  | _, _, _, .nil => .nil
  | _, _, 0, .cons _ t => .cons h t
  | _, _, i + 1, .cons r t => .cons r (IsDs.set h i t)
theorem IsDs.paired : ∀ {vs : List V} {ds : List D}, IsDs T N Pt H vs ds → Paired (fun u x => IsD T N Pt H u x) vs ds
  | _, _, .nil => .nil
  | _, _, .cons r t => .cons r t.paired
theorem IsDs.ofP : ∀ {vs : List V} {ds : List D}, Paired (fun u x => IsD T N Pt H u x) vs ds → IsDs T N Pt H vs ds
  | _, _, .nil => .nil
  | _, _, .cons r t => .cons r (IsDs.ofP t)
end
/-- a world that keeps the pots at P -/
structure Wo extends Wld where
  P : Addr → Prop
  pm : ∀ {a}, P a → M a
  rd : ∀ {H a}, I H → P a → ∃ x y : Int, 0 ≤ x ∧ 0 ≤ y ∧ y < 2 ^ 40 ∧ H a = some (PotL x y)
  wr : ∀ {H a} (x y : Int), I H → P a → 0 ≤ x → 0 ≤ y → y < 2 ^ 40 → I (upd H a (PotL x y))
theorem Wo.potW {W : Wo} {a : Addr} (h : W.P a) : PotW W.toWld a := ⟨W.pm h, fun i => W.rd i h, fun x y i => W.wr x y i h⟩
abbrev Is (T : Ct) (W : Wo) (H : Hp) (v : V) (d : D) : Prop := IsD T W.M W.P H v d
abbrev Iss (T : Ct) (W : Wo) (H : Hp) (v : List V) (d : List D) : Prop := IsDs T W.M W.P H v d
theorem Is.up {T : Ct} {W : Wo} {H H' : Hp} {v : V} {d : D} (u : Up W.toWld H H') (h : Is T W H v d) : Is T W H' v d := IsD.conv (fun a o n e => ⟨n, u a o n e⟩) (fun _ p => p) h
theorem Iss.up {T : Ct} {W : Wo} {H H' : Hp} {v : List V} {d : List D} (u : Up W.toWld H H') (h : Iss T W H v d) : Iss T W H' v d := IsDs.conv (fun a o n e => ⟨n, u a o n e⟩) (fun _ p => p) h
/-- what is asked so that every outcome has R -/
abbrev M (α : Type) := (α → Prop) → Prop
def rt {α : Type} (x : α) : M α := fun R => R x
def bd {α β : Type} (m : M α) (k : α → M β) : M β := fun R => m fun x => k x R
def fail {α : Type} : M α := fun _ => False
/-- asked: p -/
def asks {α : Type} (p : Prop) (m : M α) : M α := fun R => p ∧ m R
def ite2 (b : Bool) (A B : Prop) : Prop := match b with
  | true => A
  | false => B
def iteM {α : Type} (m : M Bool) (a b : M α) : M α := fun R => m fun k => ite2 k (a R) (b R)
def lnil : M (List D) := fun R => R []
def lcons (m : M D) (ml : M (List D)) : M (List D) := fun R => m fun x => ml fun xs => R (x :: xs)
section
variable (T : Ct) (X : Cx) (W : Wo)
def Ev (te : TE) (σ : L2.St) (H : Hp) (P : D → Prop) : Prop :=
  ∀ H1, Up W.toWld H H1 → W.I H1 → ∀ Q : VK, (∀ v H2 d, Up W.toWld H1 H2 → W.I H2 → Is T W H2 v d → P d → Q v H2) → te σ H1 Q
def EvL (ta : TA) (σ : L2.St) (H : Hp) (P : List D → Prop) : Prop :=
  ∀ H1, Up W.toWld H H1 → W.I H1 → ∀ Q : List V → Hp → Prop, (∀ vs H2 ds, Up W.toWld H1 H2 → W.I H2 → Iss T W H2 vs ds → P ds → Q vs H2) → ta σ H1 Q
def De (e : Expr) (σ : L2.St) (H : Hp) (P : D → Prop) : Prop := ∃ te, PE X e te ∧ Ev T W te σ H P
def Le (es : List Expr) (σ : L2.St) (H : Hp) (P : List D → Prop) : Prop := ∃ ta, PA X es ta ∧ EvL T W ta σ H P
/-- e by what it asks -/
def Dw (e : Expr) (σ : L2.St) (H : Hp) (m : M D) : Prop := ∀ R, m R → De T X W e σ H R
def Lw (es : List Expr) (σ : L2.St) (H : Hp) (m : M (List D)) : Prop := ∀ R, m R → Le T X W es σ H R
def Tw (e : Expr) (σ : L2.St) (H : Hp) (m : M Bool) : Prop := ∀ R, m R → Inn.Tx X W.toWld e σ H R
def Ww (e : Expr) (σ : L2.St) (H : Hp) (m : M Bool) : Prop := ∀ R, m R → Inn.Txw X W.toWld e σ H R
end
section
variable {X : Cx} {e : Expr} {es : List Expr}
def teAny (X : Cx) (e : Expr) : TE := fun σ H Q => ∃ t, PE X e t ∧ t σ H Q
theorem pe_any : PE X e (teAny X e) := ⟨fun pins s σ H Q I ⟨t, p, q⟩ => p.run pins s σ H Q I q⟩
def ttAny (X : Cx) (e : Expr) : TT := fun σ H Q => ∃ t, PT X e t ∧ t σ H Q
theorem pt_any : PT X e (ttAny X e) := ⟨fun pins s σ H Q I ⟨t, p, q⟩ => p.run pins s σ H Q I q⟩
def twAny (X : Cx) (e : Expr) : TT := fun σ H Q => ∃ t, PW X e t ∧ t σ H Q
theorem pw_any : PW X e (twAny X e) := ⟨fun whole pins s σ H Q I ⟨t, p, q⟩ => p.run whole pins s σ H Q I q⟩
def taAny (X : Cx) (es : List Expr) : TA := fun σ H Q => ∃ t, PA X es t ∧ t σ H Q
theorem pa_any : PA X es (taAny X es) := ⟨fun pos pins s σ H Q I ⟨t, p, q⟩ => p.run pos pins s σ H Q I q⟩
end
section
variable {T : Ct} {X : Cx} {W : Wo} {σ : L2.St} {H H1 H2 : Hp} {pos : Pos} {a b c e : Expr} {es rest : List Expr} {R : D → Prop} {m ma mb : M D}
/-- a reading that goes on -/
theorem Dw.go (h : Dw T X W e σ H m) (hm : m R) (u : Up W.toWld H H1) (hI : W.I H1) {Q : VK} (q : ∀ v H2 d, Up W.toWld H1 H2 → W.I H2 → Is T W H2 v d → R d → Q v H2) : teAny X e σ H1 Q := by
  obtain ⟨t, p, ev⟩ := h R hm
  exact ⟨t, p, ev H1 u hI Q q⟩
theorem Tw.go {m : M Bool} {R : Bool → Prop} (h : Tw X W e σ H m) (hm : m R) (u : Up W.toWld H H1) (hI : W.I H1) {Q : Bool → Hp → Prop} (q : ∀ b H2, Up W.toWld H1 H2 → W.I H2 → R b → Q b H2) : ttAny X e σ H1 Q := by
  obtain ⟨t, p, ev⟩ := h R hm
  exact ⟨t, p, ev H1 u hI Q q⟩
theorem Ww.go {m : M Bool} {R : Bool → Prop} (h : Ww X W e σ H m) (hm : m R) (u : Up W.toWld H H1) (hI : W.I H1) {Q : Bool → Hp → Prop} (q : ∀ b H2, Up W.toWld H1 H2 → W.I H2 → R b → Q b H2) : twAny X e σ H1 Q := by
  obtain ⟨t, p, ev⟩ := h R hm
  exact ⟨t, p, ev H1 u hI Q q⟩
theorem Lw.go {m : M (List D)} {R : List D → Prop} (h : Lw T X W es σ H m) (hm : m R) (u : Up W.toWld H H1) (hI : W.I H1) {Q : List V → Hp → Prop} (q : ∀ vs H2 ds, Up W.toWld H1 H2 → W.I H2 → Iss T W H2 vs ds → R ds → Q vs H2) : taAny X es σ H1 Q := by
  obtain ⟨t, p, ev⟩ := h R hm
  exact ⟨t, p, ev H1 u hI Q q⟩
theorem Dw.of {te : TE} (pe : PE X e te) (h : ∀ R, m R → Ev T W te σ H R) : Dw T X W e σ H m := fun R hm => ⟨te, pe, h R hm⟩
end
/-! ### the slots -/
def Sees (T : Ct) (W : Wo) (σ : L2.St) (H : Hp) (ρ : List (Option D)) : Prop := σ.length = ρ.length ∧ ∀ (i : Nat) (d : D), ρ[i]? = some (some d) → ∃ v, σ[i]? = some (some v) ∧ Is T W H v d
/-- where the run stands: H0 is where the def began, W0 its world -/
structure Now (T : Ct) (W0 W : Wo) (H0 : Hp) (σ : L2.St) (H : Hp) (ρ : List (Option D)) : Prop where
  up : Up W0.toWld H0 H
  rel : ∀ a o, ¬ W0.M a → H0 a = some o → ¬ W.M a
  inv : W.I H
  see : Sees T W σ H ρ
section
variable {T : Ct} {W0 W : Wo} {H0 H H1 : Hp} {σ : L2.St} {ρ : List (Option D)}
theorem Sees.up (h : Sees T W σ H ρ) (u : Up W.toWld H H1) : Sees T W σ H1 ρ := ⟨h.1, fun i d e => let ⟨v, e1, h1⟩ := h.2 i d e; ⟨v, e1, h1.up u⟩⟩
theorem Sees.set {v : V} {d : D} (h : Sees T W σ H ρ) (i : Nat) (hv : Is T W H v d) : Sees T W (σ.set i (some v)) H (ρ.set i (some d)) := by
  refine ⟨by rw [List.length_set, List.length_set]; exact h.1, fun j x e => ?_⟩
  rw [List.getElem?_set] at e ⊢
  by_cases ij : i = j
  · subst ij
    rw [if_pos rfl] at e ⊢
    rw [h.1]
    by_cases hi : i < ρ.length
    · rw [if_pos hi] at e ⊢
      cases e
      exact ⟨v, rfl, hv⟩
    · rw [if_neg hi] at e
      cases e
  · rw [if_neg ij] at e ⊢
    exact h.2 j x e
theorem Sees.unset (h : Sees T W σ H ρ) (i : Nat) : Sees T W (σ.set i none) H (ρ.set i none) := by
  refine ⟨by rw [List.length_set, List.length_set]; exact h.1, fun j x e => ?_⟩
  rw [List.getElem?_set] at e ⊢
  by_cases ij : i = j
  · subst ij
    rw [if_pos rfl] at e
    by_cases hi : i < ρ.length
    · rw [if_pos hi] at e
      cases e
    · rw [if_neg hi] at e
      cases e
  · rw [if_neg ij] at e ⊢
    exact h.2 j x e
/-- less is known -/
theorem Sees.less {ρ' : List (Option D)} (h : Sees T W σ H ρ) (hl : ρ'.length = ρ.length) (k : ∀ (i : Nat) (d : D), ρ'[i]? = some (some d) → ρ[i]? = some (some d)) : Sees T W σ H ρ' := ⟨h.1.trans hl.symm, fun i d e => h.2 i d (k i d e)⟩
theorem Now.go (n : Now T W0 W H0 σ H ρ) (u : Up W.toWld H H1) (i : W.I H1) : Now T W0 W H0 σ H1 ρ := ⟨fun a o x y => u a o (n.rel a o x y) (n.up a o x y), n.rel, i, n.see.up u⟩
theorem Now.set {v : V} {d : D} (n : Now T W0 W H0 σ H ρ) (i : Nat) (h : Is T W H v d) : Now T W0 W H0 (σ.set i (some v)) H (ρ.set i (some d)) := ⟨n.up, n.rel, n.inv, n.see.set i h⟩
theorem Now.less {ρ' : List (Option D)} (n : Now T W0 W H0 σ H ρ) (hl : ρ'.length = ρ.length) (k : ∀ (i : Nat) (d : D), ρ'[i]? = some (some d) → ρ[i]? = some (some d)) : Now T W0 W H0 σ H ρ' := ⟨n.up, n.rel, n.inv, n.see.less hl k⟩
end
end Uv
set_option Elab.async false
set_option linter.all false
set_option maxRecDepth 100000
set_option maxHeartbeats 4000000
namespace Uv
open PySem L2 Inn PySem.Spec PyProof.Rows
/-! ### what is asked, construct by construct -/
def op2 (g : D → D → M D) (ma mb : M D) : M D := fun R => ma fun x => mb fun y => g x y R
def op1 (g : D → M D) (ma : M D) : M D := fun R => ma fun x => g x R
def opN (g : List D → M D) (ml : M (List D)) : M D := fun R => ml fun xs => g xs R
def tst (m : M D) : M Bool := fun R => m fun d => match d with
  | .bl b => R b
  | _ => False
def never2 : D → D → M D := fun _ _ => fail
def addG (own : D → D → M D) : D → D → M D
  | .int i, .int j => rt (.int (i + j))
  | .lst a, .lst b => asks (a.length + b.length ≤ sizeLine) (rt (.lst (a ++ b)))
  | .str a, .str b => asks (a.length + b.length ≤ sizeLine) (rt (.str (a ++ b)))
  | x, y => own x y
def subG (own : D → D → M D) : D → D → M D
  | .int i, .int j => rt (.int (i - j))
  | x, y => own x y
def mulG (own : D → D → M D) : D → D → M D
  | .int i, .int j => asks (CMulX i j) (rt (.int (i * j)))
  | .lst a, .int k => asks (-(2 ^ 63) ≤ k ∧ k < 2 ^ 63 ∧ a.length * k.toNat ≤ sizeLine) (rt (.lst (List.replicate k.toNat a).flatten))
  | x, y => own x y
def modG : D → D → M D
  | .int i, .int j => asks (j ≠ 0) (rt (.int (i.fmod j)))
  | _, _ => fail
def powG : D → D → M D
  | .int i, .int j => asks (0 ≤ j ∧ j ≤ 1000000 ∧ i.natAbs < 2 ^ 64) (rt (.int (i ^ j.toNat)))
  | _, _ => fail
def fdivG : D → D → M D
  | .int i, .int j => asks (j ≠ 0 ∧ j.natAbs.log2 < 9000) (rt (.int (i.fdiv j)))
  | _, _ => fail
def ltG : D → D → M D
  | .int i, .int j => rt (.bl (decide (i < j)))
  | _, _ => fail
def leG : D → D → M D
  | .int i, .int j => rt (.bl (decide (i ≤ j)))
  | _, _ => fail
def gtG : D → D → M D
  | .int i, .int j => rt (.bl (decide (j < i)))
  | _, _ => fail
def geG : D → D → M D
  | .int i, .int j => rt (.bl (decide (j ≤ i)))
  | _, _ => fail
def isNoneG : D → D → M D
  | .non, .non => rt (.bl true)
  | _, .non => rt (.bl false)
  | _, _ => fail
def notNoneG : D → D → M D
  | .non, .non => rt (.bl false)
  | _, .non => rt (.bl true)
  | _, _ => fail
def negG (own : D → M D) : D → M D
  | .int i => rt (.int (-i))
  | x => own x
/-- a value's truth -/
def tru : D → M Bool
  | .non => rt false
  | .bl b => rt b
  | .int i => rt (i != 0)
  | .str x => asks (x.length ≤ sizeLine) (rt ((x.length : Int) != 0))
  | .lst l => rt (!l.isEmpty)
  | .tup l => rt (!l.isEmpty)
  | .dct _ l => rt (!l.isEmpty)
  | _ => fail
def truM (m : M D) : M Bool := fun R => m fun d => tru d R
def notM (m : M Bool) : M Bool := fun R => m fun b => R (!b)
def blM (m : M Bool) : M D := fun R => m fun b => R (.bl b)
def andM (ma mb : M Bool) : M Bool := fun R => ma fun k => ite2 k (mb R) (R false)
def orM (ma mb : M Bool) : M Bool := fun R => ma fun k => ite2 k (R true) (mb R)
def andV (ma mb : M D) : M D := fun R => ma fun x => tru x fun k => ite2 k (mb R) (R x)
def orV (ma mb : M D) : M D := fun R => ma fun x => tru x fun k => ite2 k (R x) (mb R)
def ixG : D → D → M D
  | .lst l, .int i => fun R => ∃ x, atI l i = some x ∧ R x
  | .tup l, .int i => fun R => ∃ x, atI l i = some x ∧ R x
  | .str z, .int i => fun R => z.length ≤ sizeLine ∧ ∃ c, atI z.cps.toList i = some c ∧ R (.str ⟨#[c]⟩)
  | _, _ => fail
/-- the items of xs[lo:hi] -/
def cut {α : Type} (xs : List α) (lo hi : Option Int) : List α := (xs.drop (HT.sIx xs.length 0 lo)).take (HT.sIx xs.length xs.length hi - HT.sIx xs.length 0 lo)
def partM (m : M D) : M (Option Int) := fun R => m fun d => match d with
  | .int i => R (some i)
  | _ => False
def noPart : M (Option Int) := fun R => R none
def sliceG : D → Option Int → Option Int → M D
  | .lst l, lo, hi => rt (.lst (cut l lo hi))
  | .tup l, lo, hi => asks (¬ (HT.sIx l.length 0 lo = 0 ∧ HT.sIx l.length l.length hi = l.length)) (rt (.tup (cut l lo hi)))
  | _, _, _ => fail
def slM (m : M D) (lo hi : M (Option Int)) : M D := fun R => m fun x => lo fun l => hi fun h => sliceG x l h R
def revG : D → M D
  | .lst l => rt (.lst l.reverse)
  | _ => fail
/-! ### operators -/
section
variable (T : Ct) (W : Wo)
def rD2 (g : D → D → M D) : R2 := fun u v H Q => ∃ x y R, Is T W H u x ∧ Is T W H v y ∧ W.I H ∧ g x y R ∧ ∀ z w H', R z → Up W.toWld H H' → W.I H' → Is T W H' w z → Q w H'
def rD1 (g : D → M D) : V → Hp → VK → Prop := fun u H Q => ∃ x R, Is T W H u x ∧ W.I H ∧ g x R ∧ ∀ z w H', R z → Up W.toWld H H' → W.I H' → Is T W H' w z → Q w H'
def rDN (g : List D → M D) : List V → Hp → VK → Prop := fun us H Q => ∃ xs R, Iss T W H us xs ∧ W.I H ∧ g xs R ∧ ∀ z w H', R z → Up W.toWld H H' → W.I H' → Is T W H' w z → Q w H'
end
abbrev Op2 (T : Ct) (X : Cx) (W : Wo) (f : Value → Value → Sem Value) (g : D → D → M D) : Prop := OpR X f (rD2 T W g)
abbrev Op1 (T : Ct) (X : Cx) (W : Wo) (f : Value → Sem Value) (g : D → M D) : Prop := UnR X f (rD1 T W g)
abbrev OpN (T : Ct) (X : Cx) (W : Wo) (f : Value) (g : List D → M D) : Prop := CallR X f (rDN T W g)
section
variable {T : Ct} {X : Cx} {W : Wo} {own : D → D → M D} {own1 : D → M D} {f : Value → Value → Sem Value} {f1 : Value → Sem Value}
theorem op_never : Op2 T X W f never2 := fun _ _ _ _ _ _ _ _ _ _ _ _ h => by obtain ⟨_, _, _, _, _, _, z, _⟩ := h; exact z.elim
theorem op1_never : Op1 T X W f1 (fun _ => fail) := fun _ _ _ _ _ _ _ _ _ h => by obtain ⟨_, _, _, _, z, _⟩ := h; exact z.elim
theorem op_addG (h : Op2 T X W (binaryOp .Add) own) : Op2 T X W (binaryOp .Add) (addG own) := by
  intro pins s σ H u v a b Q I ra rb ⟨x, y, R, hx, hy, hI, hg, q⟩
  unfold addG at hg
  split at hg
  · cases hx; cases hy
    exact op_add pins s σ H _ _ _ _ Q I ra rb ⟨_, _, rfl, rfl, q _ _ _ hg (Up.refl _) hI .int⟩
  · cases hx with | lst n e h => cases hy with | lst n2 e2 h2 =>
    exact op_cat pins s σ H _ _ _ _ Q I ra rb ⟨_, _, _, _, rfl, rfl, e, e2, by rw [h.len, h2.len]; exact hg.1, fun p hp => q _ _ _ hg.2 (Up.new hp) (I_new hI hp) (.lst (not_M hI hp) upd_same ((Iss.up (Up.new hp) h).app (Iss.up (Up.new hp) h2)))⟩
  · cases hx; cases hy
    exact op_add_str pins s σ H _ _ _ _ Q I ra rb ⟨_, _, rfl, rfl, hg.1, q _ _ _ hg.2 (Up.refl _) hI .str⟩
  · exact h pins s σ H _ _ _ _ Q I ra rb ⟨_, _, R, hx, hy, hI, hg, q⟩
theorem op_subG (h : Op2 T X W (binaryOp .Sub) own) : Op2 T X W (binaryOp .Sub) (subG own) := by
  intro pins s σ H u v a b Q I ra rb ⟨x, y, R, hx, hy, hI, hg, q⟩
  unfold subG at hg
  split at hg
  · cases hx; cases hy
    exact op_sub pins s σ H _ _ _ _ Q I ra rb ⟨_, _, rfl, rfl, q _ _ _ hg (Up.refl _) hI .int⟩
  · exact h pins s σ H _ _ _ _ Q I ra rb ⟨_, _, R, hx, hy, hI, hg, q⟩
theorem IsDs.rep {N P : Addr → Prop} {H : Hp} {vs : List V} {ds : List D} (h : IsDs T N P H vs ds) : ∀ k : Nat, IsDs T N P H (List.replicate k vs).flatten (List.replicate k ds).flatten
  | 0 => .nil
  | k + 1 => by
    rw [List.replicate_succ, List.replicate_succ, List.flatten_cons, List.flatten_cons]
    exact h.app (IsDs.rep h k)
theorem op_mulG (h : Op2 T X W (binaryOp .Mult) own) : Op2 T X W (binaryOp .Mult) (mulG own) := by
  intro pins s σ H u v a b Q I ra rb ⟨x, y, R, hx, hy, hI, hg, q⟩
  unfold mulG at hg
  split at hg
  · cases hx; cases hy
    exact op_mulX pins s σ H _ _ _ _ Q I ra rb ⟨_, _, rfl, rfl, hg.1, q _ _ _ hg.2 (Up.refl _) hI .int⟩
  · cases hx with | lst n e h =>
    cases hy
    exact op_rep pins s σ H _ _ _ _ Q I ra rb ⟨_, _, _, rfl, rfl, e, hg.1.1, hg.1.2.1, by rw [h.len]; exact hg.1.2.2, fun p hp => q _ _ _ hg.2 (Up.new hp) (I_new hI hp) (.lst (not_M hI hp) upd_same ((Iss.up (Up.new hp) h).rep _))⟩
  · exact h pins s σ H _ _ _ _ Q I ra rb ⟨_, _, R, hx, hy, hI, hg, q⟩
theorem op_modG : Op2 T X W (binaryOp .Mod) modG := by
  intro pins s σ H u v a b Q I ra rb ⟨x, y, R, hx, hy, hI, hg, q⟩
  unfold modG at hg
  split at hg
  · cases hx; cases hy
    exact op_modN pins s σ H _ _ _ _ Q I ra rb ⟨_, _, rfl, rfl, hg.1, q _ _ _ hg.2 (Up.refl _) hI .int⟩
  · exact hg.elim
theorem op_fdivG : Op2 T X W (binaryOp .FloorDiv) fdivG := by
  intro pins s σ H u v a b Q I ra rb ⟨x, y, R, hx, hy, hI, hg, q⟩
  unfold fdivG at hg
  split at hg
  · cases hx; cases hy
    exact op_fdivA pins s σ H _ _ _ _ Q I ra rb ⟨_, _, rfl, rfl, hg.1, q _ _ _ hg.2 (Up.refl _) hI .int⟩
  · exact hg.elim
theorem op_powG : Op2 T X W (binaryOp .Pow) powG := by
  intro pins s σ H u v a b Q I ra rb ⟨x, y, R, hx, hy, hI, hg, q⟩
  unfold powG at hg
  split at hg
  · cases hx; cases hy
    exact op_pow pins s σ H _ _ _ _ Q I ra rb ⟨_, _, rfl, rfl, hg.1, q _ _ _ hg.2 (Up.refl _) hI .int⟩
  · exact hg.elim
theorem op_ltG : Op2 T X W (compareOp .Lt) ltG := by
  intro pins s σ H u v a b Q I ra rb ⟨x, y, R, hx, hy, hI, hg, q⟩
  unfold ltG at hg
  split at hg
  · cases hx; cases hy
    exact op_lt pins s σ H _ _ _ _ Q I ra rb ⟨_, _, rfl, rfl, q _ _ _ hg (Up.refl _) hI .bl⟩
  · exact hg.elim
theorem op_leG : Op2 T X W (compareOp .LtE) leG := by
  intro pins s σ H u v a b Q I ra rb ⟨x, y, R, hx, hy, hI, hg, q⟩
  unfold leG at hg
  split at hg
  · cases hx; cases hy
    exact op_le pins s σ H _ _ _ _ Q I ra rb ⟨_, _, rfl, rfl, q _ _ _ hg (Up.refl _) hI .bl⟩
  · exact hg.elim
theorem op_gtG : Op2 T X W (compareOp .Gt) gtG := by
  intro pins s σ H u v a b Q I ra rb ⟨x, y, R, hx, hy, hI, hg, q⟩
  unfold gtG at hg
  split at hg
  · cases hx; cases hy
    exact op_gt pins s σ H _ _ _ _ Q I ra rb ⟨_, _, rfl, rfl, q _ _ _ hg (Up.refl _) hI .bl⟩
  · exact hg.elim
theorem op_geG : Op2 T X W (compareOp .GtE) geG := by
  intro pins s σ H u v a b Q I ra rb ⟨x, y, R, hx, hy, hI, hg, q⟩
  unfold geG at hg
  split at hg
  · cases hx; cases hy
    exact op_ge pins s σ H _ _ _ _ Q I ra rb ⟨_, _, rfl, rfl, q _ _ _ hg (Up.refl _) hI .bl⟩
  · exact hg.elim
theorem isNon {N P : Addr → Prop} {H : Hp} {v : V} {x : D} (h : IsD T N P H v x) (hn : x ≠ .non) (hc : ∀ v, x ≠ .cls v) : v ≠ .non := by
  intro z
  subst z
  cases h with
  | non => exact hn rfl
  | cls => exact hc _ rfl
theorem op_isNoneG : Op2 T X W (compareOp .Is) (fun x y => asks (∀ v, x ≠ .cls v) (isNoneG x y)) := by
  intro pins s σ H u v a b Q I ra rb ⟨x, y, R, hx, hy, hI, ⟨hc, hg⟩, q⟩
  unfold isNoneG at hg
  split at hg
  · cases hx; cases hy
    exact op_isN pins s σ H _ _ _ _ Q I ra rb ⟨rfl, q _ _ _ hg (Up.refl _) hI .bl⟩
  · rename_i hn
    cases hy
    have e : decide (u = .non) = false := decide_eq_false (isNon hx hn hc)
    exact op_isN pins s σ H _ _ _ _ Q I ra rb ⟨rfl, by rw [e]; exact q _ _ _ hg (Up.refl _) hI .bl⟩
  · exact hg.elim
theorem op_notNoneG : Op2 T X W (compareOp .IsNot) (fun x y => asks (∀ v, x ≠ .cls v) (notNoneG x y)) := by
  intro pins s σ H u v a b Q I ra rb ⟨x, y, R, hx, hy, hI, ⟨hc, hg⟩, q⟩
  unfold notNoneG at hg
  split at hg
  · cases hx; cases hy
    exact op_notN pins s σ H _ _ _ _ Q I ra rb ⟨rfl, q _ _ _ hg (Up.refl _) hI .bl⟩
  · rename_i hn
    cases hy
    have e : decide (u = .non) = false := decide_eq_false (isNon hx hn hc)
    exact op_notN pins s σ H _ _ _ _ Q I ra rb ⟨rfl, by rw [e]; exact q _ _ _ hg (Up.refl _) hI .bl⟩
  · exact hg.elim
theorem op_negG (h : Op1 T X W (unaryOp .USub) own1) : Op1 T X W (unaryOp .USub) (negG own1) := by
  intro pins s σ H u a Q I ra ⟨x, R, hx, hI, hg, q⟩
  unfold negG at hg
  split at hg
  · cases hx
    exact un_neg pins s σ H _ _ Q I ra ⟨_, rfl, q _ _ _ hg (Up.refl _) hI .int⟩
  · exact h pins s σ H _ _ Q I ra ⟨_, R, hx, hI, hg, q⟩
end
section
variable {T : Ct} {X : Cx} {W W0 : Wo} {σ : L2.St} {H H0 : Hp} {pos : Pos} {a b c e : Expr} {es rest : List Expr} {ma mb m : M D} {mt mu : M Bool} {ρ : List (Option D)}
/-! ### names, constants -/
theorem dv (i : Nat) (n : Now T W0 W H0 σ H ρ) {nm : Str} {d : D} (hρ : ρ[i]? = some (some d) := by rfl) (hN : X.N[i]? = some nm := by rfl)
    (hvis : Vis X.env.scope nm := by first | exact Or.inl rfl | exact Or.inr (Or.inl rfl) | exact Or.inr (Or.inr rfl)) (hd : (nm == ("__debug__" : Str)) = false := by decide) (hcd : (nm == ("__classdict__" : Str)) = false := by decide) :
    Dw T X W (.Name nm pos) σ H (rt d) := by
  obtain ⟨v, e, h⟩ := n.see.2 i d hρ
  exact .of (pe_var hN hvis hd hcd) fun R hm H1 u hI Q q => ⟨v, e, q v H1 d (Up.refl _) hI (h.up u) hm⟩
theorem d_int {i : Int} {j} : Dw T X W (.Constant (.int i) j pos) σ H (rt (.int i)) := .of pe_int fun R hm H1 _ hI Q q => q _ H1 _ (Up.refl _) hI .int hm
theorem d_bl {i : Bool} {j} : Dw T X W (.Constant (.bool i) j pos) σ H (rt (.bl i)) := .of pe_bl fun R hm H1 _ hI Q q => q _ H1 _ (Up.refl _) hI .bl hm
theorem d_str {i : Str} {j} : Dw T X W (.Constant (.str i) j pos) σ H (rt (.str i)) := .of pe_str fun R hm H1 _ hI Q q => q _ H1 _ (Up.refl _) hI .str hm
theorem d_non {j} : Dw T X W (.Constant .none j pos) σ H (rt .non) := .of pe_non fun R hm H1 _ hI Q q => q _ H1 _ (Up.refl _) hI .non hm
/-- a module's constant -/
theorem d_gint {nm : Str} {i : Int} {t : Tok} (hm : X.mg nm = some (.int i t)) (hg : Gl X nm := by rfl) (hd : (nm == ("__debug__" : Str)) = false := by decide) : Dw T X W (.Name nm pos) σ H (rt (.int i)) :=
  .of (pe_glob (v := .int i) hg hm ⟨_, rfl⟩ hd) fun R hm H1 _ hI Q q => q _ H1 _ (Up.refl _) hI .int hm
theorem d_gstr {nm : Str} {i : Str} {t : Tok} (hm : X.mg nm = some (.str i t)) (hg : Gl X nm := by rfl) (hd : (nm == ("__debug__" : Str)) = false := by decide) : Dw T X W (.Name nm pos) σ H (rt (.str i)) :=
  .of (pe_glob (v := .str i) hg hm ⟨_, rfl⟩ hd) fun R hm H1 _ hI Q q => q _ H1 _ (Up.refl _) hI .str hm
/-! ### operators -/
theorem dw_bin {op : Operator} {g : D → D → M D} (ho : Op2 T X W (binaryOp op) g) (ha : Dw T X W a σ H ma) (hb : Dw T X W b σ H mb) : Dw T X W (.BinOp a op b pos) σ H (op2 g ma mb) := by
  refine .of (pe_op ho pe_any pe_any) fun R hm H1 u hI Q q => ha.go hm u hI fun v H2 x u2 i2 hx px => hb.go px (u.trans u2) i2 fun w H3 y u3 i3 hy py => ?_
  exact ⟨x, y, R, hx.up u3, hy, i3, py, fun z w' H4 hz u4 i4 h4 => q w' H4 z ((u2.trans u3).trans u4) i4 h4 hz⟩
theorem dw_un {op : UnaryOp} {g : D → M D} (ho : Op1 T X W (unaryOp op) g) (ha : Dw T X W a σ H ma) : Dw T X W (.UnaryOp op a pos) σ H (op1 g ma) := by
  refine .of (pe_un ho pe_any) fun R hm H1 u hI Q q => ha.go hm u hI fun v H2 x u2 i2 hx px => ?_
  exact ⟨x, R, hx, i2, px, fun z w' H4 hz u4 i4 h4 => q w' H4 z (u2.trans u4) i4 h4 hz⟩
theorem dw_cmp {op : CmpOp} {g : D → D → M D} (ho : Op2 T X W (compareOp op) g) (ha : Dw T X W a σ H ma) (hb : Dw T X W b σ H mb) (hn : behindInMarks op b = false := by first | exact nomark _ | rfl) : Dw T X W (.Compare a [op] [b] pos) σ H (op2 g ma mb) := by
  refine .of (pe_cmpR ho pe_any pe_any hn) fun R hm H1 u hI Q q => ha.go hm u hI fun v H2 x u2 i2 hx px => hb.go px (u.trans u2) i2 fun w H3 y u3 i3 hy py => ?_
  exact ⟨x, y, R, hx.up u3, hy, i3, py, fun z w' H4 hz u4 i4 h4 => q w' H4 z ((u2.trans u3).trans u4) i4 h4 hz⟩
/-! ### tests -/
theorem Tw.of {te : TT} {m : M Bool} (pe : PT X e te) (h : ∀ R, m R → Inn.EvT W.toWld te σ H R) : Tw X W e σ H m := fun R hm => ⟨te, pe, h R hm⟩
theorem tw_cmp {op : CmpOp} {g : D → D → M D} (ho : Op2 T X W (compareOp op) g) (ha : Dw T X W a σ H ma) (hb : Dw T X W b σ H mb) (hn : behindInMarks op b = false := by first | exact nomark _ | rfl) : Tw X W (.Compare a [op] [b] pos) σ H (tst (op2 g ma mb)) := by
  refine .of (pt_cmpR ho pe_any pe_any hn) fun R hm H1 u hI Q q => ha.go hm u hI fun v H2 x u2 i2 hx px => hb.go px (u.trans u2) i2 fun w H3 y u3 i3 hy py => ?_
  refine ⟨x, y, _, hx.up u3, hy, i3, py, fun z w' H4 hz u4 i4 h4 => ?_⟩
  cases h4 with
  | bl => exact ⟨_, rfl, q _ H4 ((u2.trans u3).trans u4) i4 hz⟩
  | _ => exact hz.elim
theorem tru_V {v : V} {d : D} {R : Bool → Prop} {K : PySem.W.Frag} (h : Is T W H v d) (ht : tru d R) : ∃ k, TruV K v H k ∧ R k := by
  cases h with
  | int => exact ⟨_, rfl, ht⟩
  | bl => exact ⟨_, rfl, ht⟩
  | str => exact ⟨_, ⟨ht.1, rfl⟩, ht.2⟩
  | non => exact ⟨_, rfl, ht⟩
  | lst n e h =>
    refine ⟨_, .inl ⟨_, SqL.of e, rfl⟩, ?_⟩
    cases h <;> exact ht
  | tup n e h =>
    refine ⟨_, .inr (.inl ⟨_, SqT.of e, rfl⟩), ?_⟩
    cases h <;> exact ht
  | dct n e hk h =>
    refine ⟨_, .inr (.inr ⟨_, e, rfl⟩), ?_⟩
    rename_i kvs _ _
    cases kvs <;> cases h <;> exact ht
  | ins => exact ht.elim
  | pot => exact ht.elim
  | cls => exact ht.elim
theorem tw_tru (ha : Dw T X W a σ H ma) (he : ∀ whole, isTrue a X.env whole = (do let v ← whole; standAt a.pos; holding [v] (truthy v)) := by intro _; rfl) : Tw X W a σ H (truM ma) := by
  refine .of (pt_truth pe_any he) fun R hm H1 u hI Q q => ha.go hm u hI fun v H2 x u2 i2 hx px => ?_
  obtain ⟨k, hk, hr⟩ := tru_V (K := X.K) hx px
  exact ⟨k, hk, q k H2 u2 i2 hr⟩
theorem tw_not (h : Tw X W a σ H mt) : Tw X W (.UnaryOp .Not a pos) σ H (notM mt) := .of (pt_not pt_any) fun R hm H1 u hI Q q => h.go hm u hI fun b H2 u2 i2 hb => q (!b) H2 u2 i2 hb
theorem Ww.of {te : TT} {m : M Bool} (pe : PW X e te) (h : ∀ R, m R → Inn.EvT W.toWld te σ H R) : Ww X W e σ H m := fun R hm => ⟨te, pe, h R hm⟩
theorem ww_and1 (h : Tw X W a σ H mt) : Ww X W (.BoolOp .And [a] pos) σ H mt := .of (pw_and1 pt_any) fun R hm H1 u hI Q q => h.go hm u hI q
theorem ww_or1 (h : Tw X W a σ H mt) : Ww X W (.BoolOp .Or [a] pos) σ H mt := .of (pw_or1 pt_any) fun R hm H1 u hI Q q => h.go hm u hI q
theorem ww_and (h : Tw X W a σ H mt) (h2 : Ww X W (.BoolOp .And (b :: rest) pos) σ H mu) : Ww X W (.BoolOp .And (a :: b :: rest) pos) σ H (andM mt mu) :=
  .of (pw_and pt_any pw_any) fun R hm H1 u hI Q q => h.go hm u hI fun k H2 u2 i2 hk => by
    cases k with
    | true => exact h2.go hk (u.trans u2) i2 fun k' H3 u3 i3 hk' => q k' H3 (u2.trans u3) i3 hk'
    | false => exact q false H2 u2 i2 hk
theorem ww_or (h : Tw X W a σ H mt) (h2 : Ww X W (.BoolOp .Or (b :: rest) pos) σ H mu) : Ww X W (.BoolOp .Or (a :: b :: rest) pos) σ H (orM mt mu) :=
  .of (pw_or pt_any pw_any) fun R hm H1 u hI Q q => h.go hm u hI fun k H2 u2 i2 hk => by
    cases k with
    | false => exact h2.go hk (u.trans u2) i2 fun k' H3 u3 i3 hk' => q k' H3 (u2.trans u3) i3 hk'
    | true => exact q true H2 u2 i2 hk
theorem tw_w (h : Ww X W e σ H mt) : Tw X W e σ H mt := fun R hm => let ⟨t, p, ev⟩ := h R hm; ⟨t, p.pt, ev⟩
/-! values of tests -/
theorem dw_one {op} (h : Dw T X W a σ H ma) : Dw T X W (.BoolOp op [a] pos) σ H ma := .of (pe_one pe_any) fun R hm H1 u hI Q q => h.go hm u hI q
theorem dw_and (h : Dw T X W a σ H ma) (h2 : Dw T X W (.BoolOp .And (b :: rest) pos) σ H mb) : Dw T X W (.BoolOp .And (a :: b :: rest) pos) σ H (andV ma mb) :=
  .of (pe_andT pe_any pe_any) fun R hm H1 u hI Q q => h.go hm u hI fun v H2 x u2 i2 hx px => by
    obtain ⟨k, hk, hr⟩ := tru_V (K := X.K) hx px
    refine ⟨k, hk, ?_⟩
    cases k with
    | true => exact h2.go hr (u.trans u2) i2 fun w H3 y u3 i3 hy py => q w H3 y (u2.trans u3) i3 hy py
    | false => exact q v H2 x u2 i2 hx hr
theorem dw_or (h : Dw T X W a σ H ma) (h2 : Dw T X W (.BoolOp .Or (b :: rest) pos) σ H mb) : Dw T X W (.BoolOp .Or (a :: b :: rest) pos) σ H (orV ma mb) :=
  .of (pe_orT pe_any pe_any) fun R hm H1 u hI Q q => h.go hm u hI fun v H2 x u2 i2 hx px => by
    obtain ⟨k, hk, hr⟩ := tru_V (K := X.K) hx px
    refine ⟨k, hk, ?_⟩
    cases k with
    | false => exact h2.go hr (u.trans u2) i2 fun w H3 y u3 i3 hy py => q w H3 y (u2.trans u3) i3 hy py
    | true => exact q v H2 x u2 i2 hx hr
theorem dw_not (h : Dw T X W a σ H ma) : Dw T X W (.UnaryOp .Not a pos) σ H (blM (notM (truM ma))) :=
  .of (pe_notT pe_any) fun R hm H1 u hI Q q => h.go hm u hI fun v H2 x u2 i2 hx px => by
    obtain ⟨k, hk, hr⟩ := tru_V (K := X.K) hx px
    exact ⟨k, hk, q _ H2 _ u2 i2 .bl hr⟩
theorem dw_if (hc : Tw X W c σ H mt) (ha : Dw T X W a σ H ma) (hb : Dw T X W b σ H mb) : Dw T X W (.IfExp c a b pos) σ H (iteM mt ma mb) :=
  .of (pe_ifExp pt_any pe_any pe_any) fun R hm H1 u hI Q q => hc.go hm u hI fun k H2 u2 i2 px => by
    cases k with
    | true => exact ha.go px (u.trans u2) i2 fun w H3 y u3 i3 hy py => q w H3 y (u2.trans u3) i3 hy py
    | false => exact hb.go px (u.trans u2) i2 fun w H3 y u3 i3 hy py => q w H3 y (u2.trans u3) i3 hy py
/-! ### displays, items -/
theorem Lw.of {te : TA} {m : M (List D)} (pe : PA X es te) (h : ∀ R, m R → EvL T W te σ H R) : Lw T X W es σ H m := fun R hm => ⟨te, pe, h R hm⟩
theorem l_nil : Lw T X W [] σ H lnil := .of pa_nil fun R hm H1 _ hI Q q => q [] H1 [] (Up.refl _) hI .nil hm
theorem l_cons {ml : M (List D)} (h : Dw T X W e σ H m) (hr : Lw T X W es σ H ml) (hs : starEach (e :: es) X.env = (false, eval e X.env) :: starEach es X.env := by rfl) : Lw T X W (e :: es) σ H (lcons m ml) :=
  .of (pa_cons pe_any pa_any hs) fun R hm H1 u hI Q q => h.go hm u hI fun v H2 x u2 i2 hx px => hr.go px (u.trans u2) i2 fun vs H3 xs u3 i3 hxs pxs => q (v :: vs) H3 (x :: xs) (u2.trans u3) i3 (.cons (hx.up u3) hxs) pxs
def lstM (ml : M (List D)) : M D := fun R => ml fun xs => xs.length ≤ sizeLine ∧ R (.lst xs)
def tupM (ml : M (List D)) : M D := fun R => ml fun xs => xs.length ≤ sizeLine ∧ R (.tup xs)
theorem dw_lst {ml : M (List D)} (h : Lw T X W es σ H ml) : Dw T X W (.List es pos) σ H (lstM ml) :=
  .of (pe_lst pa_any) fun R hm H1 u hI Q q => h.go hm u hI fun vs H2 xs u2 i2 hxs px => ⟨by rw [hxs.len]; exact px.1, fun p hp => q _ _ _ (u2.trans (Up.new hp)) (I_new i2 hp) (.lst (not_M i2 hp) upd_same (hxs.up (Up.new hp))) px.2⟩
theorem dw_tup {ml : M (List D)} {k} (h : Lw T X W es σ H ml) : Dw T X W (.Tuple es k pos) σ H (tupM ml) :=
  .of (pe_tup pa_any) fun R hm H1 u hI Q q => h.go hm u hI fun vs H2 xs u2 i2 hxs px => ⟨by rw [hxs.len]; exact px.1, fun p hp => q _ _ _ (u2.trans (Up.new hp)) (I_new i2 hp) (.tup (not_M i2 hp) upd_same (hxs.up (Up.new hp))) px.2⟩
/-- {} -/
theorem dw_dct0 : Dw T X W (.Dict [] [] pos) σ H (rt (.dct [] [])) :=
  .of pe_dnewK fun R hm H1 u hI Q q p hp => q _ _ _ (Up.new hp) (I_new hI hp) (.dct (not_M hI hp) upd_same rfl .nil) hm
theorem atI_map {α β : Type} {xs : List α} {ys : List β} {i : Int} {x : α} (hl : xs.length = ys.length) (h : atI xs i = some x) : ∃ j : Nat, ixN xs.length i = some j ∧ xs[j]? = some x ∧ atI ys i = ys[j]? := by
  unfold atI at h ⊢
  rw [← hl]
  cases e : ixN xs.length i with
  | none => rw [e] at h; cases h
  | some j => rw [e] at h; exact ⟨j, rfl, h, rfl⟩
theorem iss_atI {us : List V} {l : List D} {i : Int} {x : D} (h : Iss T W H us l) (e : atI l i = some x) : ∃ u, atI us i = some u ∧ Is T W H u x := by
  obtain ⟨j, _, e1, e2⟩ := atI_map (ys := us) h.len.symm e
  obtain ⟨u, h1, h2⟩ := h.get e1
  exact ⟨u, e2.trans h1, h2⟩
theorem dw_ix {i : Expr} (h : Dw T X W a σ H ma) (hi : Dw T X W i σ H mb) (hs : PlainIx i := by exact fun _ _ => rfl) : Dw T X W (.Subscript a i pos) σ H (op2 ixG ma mb) := by
  refine .of (pe_ix ix_seq pe_any pe_any hs) fun R hm H1 u hI Q q => h.go hm u hI fun v H2 x u2 i2 hx px => hi.go px (u.trans u2) i2 fun w H3 y u3 i3 hy py => ?_
  have hx := hx.up u3
  unfold ixG at py
  split at py
  · obtain ⟨z, ez, hz⟩ := py
    cases hx with | lst n e hl =>
    cases hy
    obtain ⟨w, ew, hw⟩ := iss_atI hl ez
    exact .inl ⟨_, _, _, w, rfl, rfl, SqL.of e, ew, q w H3 z (u2.trans u3) i3 hw hz⟩
  · obtain ⟨z, ez, hz⟩ := py
    cases hx with | tup n e hl =>
    cases hy
    obtain ⟨w, ew, hw⟩ := iss_atI hl ez
    exact .inr (.inl ⟨_, _, _, w, rfl, rfl, SqT.of e, ew, q w H3 z (u2.trans u3) i3 hw hz⟩)
  · obtain ⟨hz, c, ec, hr⟩ := py
    cases hx; cases hy
    exact .inr (.inr ⟨_, _, c, rfl, rfl, hz, ec, q _ H3 _ (u2.trans u3) i3 .str hr⟩)
  · exact py.elim
end
end Uv
set_option Elab.async false
set_option linter.all false
set_option maxRecDepth 100000
set_option maxHeartbeats 4000000
namespace Uv
open PySem L2 Inn PySem.Spec PyProof.Rows
/-! ### slices -/
theorem IsDs.cut {T : Ct} {N P : Addr → Prop} {H : Hp} {vs : List V} {ds : List D} (h : IsDs T N P H vs ds) (lo hi : Option Int) : IsDs T N P H (cutV vs lo hi) (cut ds lo hi) := by
  unfold cutV Uv.cut
  rw [h.len]
  exact (h.drop _).take _
section
variable {T : Ct} {X : Cx} {W W0 : Wo} {σ : L2.St} {H H0 : Hp} {pos p p2 : Pos} {a b c e : Expr} {es rest : List Expr} {ma mb m : M D} {ml : M (List D)} {mt mu : M Bool} {ρ : List (Option D)} {nm : Str} {lo hi : Option Expr} {mlo mhi : M (Option Int)}
def Pw (T : Ct) (X : Cx) (W : Wo) (lo : Option Expr) (σ : L2.St) (H : Hp) (m : M (Option Int)) : Prop :=
  ∀ R, m R → ∃ t, PO X lo t ∧ ∀ H1, Up W.toWld H H1 → W.I H1 → ∀ Q : Option Int → Hp → Prop, (∀ o H2, Up W.toWld H1 H2 → W.I H2 → R o → Q o H2) → t σ H1 Q
def toAny (X : Cx) (lo : Option Expr) : TO := fun σ H Q => ∃ t, PO X lo t ∧ t σ H Q
theorem po_any : PO X lo (toAny X lo) := ⟨fun pins s σ H Q I ⟨t, p, q⟩ => p.run pins s σ H Q I q⟩
theorem Pw.go {m : M (Option Int)} {R : Option Int → Prop} {H1 : Hp} (h : Pw T X W lo σ H m) (hm : m R) (u : Up W.toWld H H1) (hI : W.I H1) {Q : Option Int → Hp → Prop} (q : ∀ o H2, Up W.toWld H1 H2 → W.I H2 → R o → Q o H2) : toAny X lo σ H1 Q := by
  obtain ⟨t, p, ev⟩ := h R hm
  exact ⟨t, p, ev H1 u hI Q q⟩
theorem p_none : Pw T X W none σ H noPart := fun R hm => ⟨_, po_none, fun H1 _ hI Q q => q none H1 (Up.refl _) hI hm⟩
theorem p_some (h : Dw T X W e σ H m) : Pw T X W (some e) σ H (partM m) := fun R hm => ⟨_, po_some pe_any, fun H1 u hI Q q => h.go hm u hI fun v H2 x u2 i2 hx px => by
  cases hx with
  | int => exact ⟨_, rfl, q _ H2 u2 i2 px⟩
  | _ => exact px.elim⟩
theorem dw_slice (h : Dw T X W a σ H ma) (hl : Pw T X W lo σ H mlo) (hh : Pw T X W hi σ H mhi) : Dw T X W (.Subscript a (.Slice lo hi none p2) pos) σ H (slM ma mlo mhi) := by
  refine .of (pe_slice (SlR.or sl_list sl_tup) pe_any po_any po_any) fun R hm H1 u hI Q q => h.go hm u hI fun v H2 x u2 i2 hx px => hl.go px (u.trans u2) i2 fun l H3 u3 i3 pl => hh.go pl ((u.trans u2).trans u3) i3 fun g H4 u4 i4 pg => ?_
  have hx := hx.up (u3.trans u4)
  unfold sliceG at pg
  split at pg
  · cases hx with | lst n e hd =>
    exact .inl ⟨_, _, rfl, SqL.of e, fun p hp => q _ _ _ (((u2.trans u3).trans u4).trans (Up.new hp)) (I_new i4 hp) (.lst (not_M i4 hp) upd_same (Iss.up (Up.new hp) (hd.cut l g))) pg⟩
  · cases hx with | tup n e hd =>
    exact .inr ⟨_, _, rfl, SqT.of e, by rw [hd.len]; exact pg.1, fun p hp => q _ _ _ (((u2.trans u3).trans u4).trans (Up.new hp)) (I_new i4 hp) (.tup (not_M i4 hp) upd_same (Iss.up (Up.new hp) (hd.cut l g))) pg.2⟩
  · exact pg.elim
/-- xs[::-1] -/
theorem dw_rev {k : Nat} {p1 p2 p3 : Pos} (h : Dw T X W a σ H ma) : Dw T X W (.Subscript a (.Slice none none (some (.UnaryOp .USub (.Constant (.int 1) k p1) p2)) p3) pos) σ H (op1 revG ma) := by
  refine .of (pe_revL pe_any) fun R hm H1 u hI Q q => h.go hm u hI fun v H2 x u2 i2 hx px => ?_
  unfold revG at px
  split at px
  · cases hx with | lst n e hd =>
    exact ⟨_, _, rfl, SqL.of e, fun p hp => q _ _ _ (u2.trans (Up.new hp)) (I_new i2 hp) (.lst (not_M i2 hp) upd_same (Iss.up (Up.new hp) hd.rev)) px⟩
  · exact px.elim
/-! ### calls of built-ins -/
theorem dw_B {id : String} {g : List D → M D} (ho : OpN T X W (.builtin id) g) (hm : X.mg nm = none) (hv : bootBuiltins nm = some (.builtin id)) (ha : Lw T X W (e :: es) σ H ml) (hg : Gl X nm := by rfl) (hn : nm ≠ "__name__" := by decide) (hdb : (nm == ("__debug__" : Str)) = false := by decide)
    (hs : starEach (e :: es) X.env = (false, eval e X.env) :: starEach es X.env := by rfl) (hpl : (backTo pos (starEach es X.env)).any (·.1) = false := by rfl) : Dw T X W (.Call (.Name nm p) (e :: es) [] pos) σ H (opN g ml) :=
  .of (pe_callB ho hg hm hv pa_any hn hdb hs hpl) fun R hm H1 u hI Q q => ha.go hm u hI fun vs H2 xs u2 i2 hx px => ⟨xs, R, hx, i2, px, fun z w H3 hz u3 i3 h3 => q w H3 z (u2.trans u3) i3 h3 hz⟩
theorem dw_Ty {id : String} {g : List D → M D} (ho : OpN T X W (.type id) g) (hm : X.mg nm = none) (hv : bootBuiltins nm = some (.type id)) (ha : Lw T X W (e :: es) σ H ml) (hg : Gl X nm := by rfl) (hn : nm ≠ "__name__" := by decide) (hdb : (nm == ("__debug__" : Str)) = false := by decide)
    (hs : starEach (e :: es) X.env = (false, eval e X.env) :: starEach es X.env := by rfl) (hpl : (backTo pos (starEach es X.env)).any (·.1) = false := by rfl) : Dw T X W (.Call (.Name nm p) (e :: es) [] pos) σ H (opN g ml) :=
  .of (pe_callTy ho hg hm hv pa_any hn hdb hs hpl) fun R hm H1 u hI Q q => ha.go hm u hI fun vs H2 xs u2 i2 hx px => ⟨xs, R, hx, i2, px, fun z w H3 hz u3 i3 h3 => q w H3 z (u2.trans u3) i3 h3 hz⟩
theorem dw_Fn {id : String} {g : List D → M D} (ho : OpN T X W (.builtin id) g) (hm : X.mg nm = some (.builtin id)) (ha : Lw T X W (e :: es) σ H ml) (hg : Gl X nm := by rfl) (hdb : (nm == ("__debug__" : Str)) = false := by decide)
    (hs : starEach (e :: es) X.env = (false, eval e X.env) :: starEach es X.env := by rfl) (hpl : (backTo pos (starEach es X.env)).any (·.1) = false := by rfl) : Dw T X W (.Call (.Name nm p) (e :: es) [] pos) σ H (opN g ml) :=
  .of (pe_callBfun ho hg hm pa_any hdb hs hpl) fun R hm H1 u hI Q q => ha.go hm u hI fun vs H2 xs u2 i2 hx px => ⟨xs, R, hx, i2, px, fun z w H3 hz u3 i3 h3 => q w H3 z (u2.trans u3) i3 h3 hz⟩
end
def lenF : List D → M D
  | [.lst l] => rt (.int (l.length : Nat))
  | [.tup l] => rt (.int (l.length : Nat))
  | [.str x] => asks (x.length ≤ sizeLine) (rt (.int (x.length : Nat)))
  | _ => fail
def absF : List D → M D
  | [.int i] => rt (.int (if i < 0 then -i else i))
  | _ => fail
def intsOf : List D → Option (List Int)
  | [] => some []
  | .int i :: r => (intsOf r).map (i :: ·)
  | _ :: _ => none
def blsOf : List D → Option (List Bool)
  | [] => some []
  | .bl i :: r => (blsOf r).map (i :: ·)
  | _ :: _ => none
def maxF : List D → M D
  | [.int i, .int j] => rt (.int (if j > i then j else i))
  | [.lst l] => fun R => ∃ ns, intsOf l = some ns ∧ 0 < ns.length ∧ ∀ m, m ∈ ns → (∀ y, y ∈ ns → y ≤ m) → R (.int m)
  | _ => fail
def minF : List D → M D
  | [.int i, .int j] => rt (.int (if j < i then j else i))
  | [.lst l] => fun R => ∃ ns, intsOf l = some ns ∧ 0 < ns.length ∧ ∀ m, m ∈ ns → (∀ y, y ∈ ns → m ≤ y) → R (.int m)
  | _ => fail
def intF : List D → M D
  | [.int i] => rt (.int i)
  | [.bl k] => rt (.int (if k = true then 1 else 0))
  | _ => fail
def strF (own : D → M D) : List D → M D
  | [.int i] => asks (i.natAbs.log2 < 1920) (rt (.str (Str.ofString (toString i))))
  | [x] => own x
  | _ => fail
def sumF : List D → M D
  | [.lst l] => fun R => ∃ ns, intsOf l = some ns ∧ R (.int ns.sum)
  | _ => fail
def allF : List D → M D
  | [.lst l] => fun R => ∃ ns, blsOf l = some ns ∧ R (.bl (ns.all id))
  | _ => fail
def anyF : List D → M D
  | [.lst l] => fun R => ∃ ns, blsOf l = some ns ∧ R (.bl (ns.any id))
  | _ => fail
def gcdF : List D → M D
  | [.int i, .int j] => rt (.int (Int.gcd i j : Nat))
  | _ => fail
def lcmF : List D → M D
  | [.int i, .int j] => asks (Lc i ∧ Lc j) (rt (.int (Nat.lcm i.natAbs j.natAbs : Nat)))
  | _ => fail
def divmodF : List D → M D
  | [.int i, .int j] => asks (0 < j ∧ j.natAbs.log2 < 9000) (rt (.tup [.int (i / j), .int (i % j)]))
  | _ => fail
def listF : List D → M D
  | [.lst l] => rt (.lst l)
  | [.tup l] => rt (.lst l)
  | _ => fail
def tupleF : List D → M D
  | [.lst l] => rt (.tup l)
  | [.tup l] => rt (.tup l)
  | _ => fail
section
variable {T : Ct} {X : Cx} {W : Wo}
theorem intsOf_V {N P : Addr → Prop} {H : Hp} : ∀ {vs : List V} {ds : List D} {ns : List Int}, IsDs T N P H vs ds → intsOf ds = some ns → vs = ns.map V.int
  | _, _, _, .nil, e => by
    cases e
    rfl
  | _, d :: r, ns, .cons h t, e => by
    cases d with
    | int i =>
      cases h
      unfold intsOf at e
      cases e2 : intsOf r with
      | none => rw [e2] at e; cases e
      | some ms =>
        rw [e2] at e
        cases e
        rw [intsOf_V t e2, List.map_cons]
    | _ => cases e
theorem blsOf_V {N P : Addr → Prop} {H : Hp} : ∀ {vs : List V} {ds : List D} {ns : List Bool}, IsDs T N P H vs ds → blsOf ds = some ns → vs = ns.map V.bl
  | _, _, _, .nil, e => by
    cases e
    rfl
  | _, d :: r, ns, .cons h t, e => by
    cases d with
    | bl i =>
      cases h
      unfold blsOf at e
      cases e2 : blsOf r with
      | none => rw [e2] at e; cases e
      | some ms =>
        rw [e2] at e
        cases e
        rw [blsOf_V t e2, List.map_cons]
    | _ => cases e
/-- one thing handed -/
theorem iss1 {H : Hp} {us : List V} {x : D} (h : Iss T W H us [x]) : ∃ u, us = [u] ∧ Is T W H u x := by
  cases h with
  | cons h t => cases t; exact ⟨_, rfl, h⟩
theorem iss2 {H : Hp} {us : List V} {x y : D} (h : Iss T W H us [x, y]) : ∃ u v, us = [u, v] ∧ Is T W H u x ∧ Is T W H v y := by
  cases h with
  | cons h t => cases t with | cons h2 t => cases t; exact ⟨_, _, rfl, h, h2⟩
theorem b_len : OpN T X W (.builtin "len") lenF := by
  intro pins s σ H us vs Q I r ⟨xs, R, hx, hI, hg, q⟩
  unfold lenF at hg
  split at hg
  · obtain ⟨u, rfl, h⟩ := iss1 hx
    cases h with | lst n e hd =>
    exact call_len_seq pins s σ H _ _ Q I r ⟨_, _, rfl, .inl (SqL.of e), by rw [hd.len]; exact q _ _ _ hg (Up.refl _) hI .int⟩
  · obtain ⟨u, rfl, h⟩ := iss1 hx
    cases h with | tup n e hd =>
    exact call_len_seq pins s σ H _ _ Q I r ⟨_, _, rfl, .inr (SqT.of e), by rw [hd.len]; exact q _ _ _ hg (Up.refl _) hI .int⟩
  · obtain ⟨u, rfl, h⟩ := iss1 hx
    cases h
    exact call_len_str pins s σ H _ _ Q I r ⟨_, rfl, hg.1, q _ _ _ hg.2 (Up.refl _) hI .int⟩
  · exact hg.elim
theorem b_abs : OpN T X W (.builtin "abs") absF := by
  intro pins s σ H us vs Q I r ⟨xs, R, hx, hI, hg, q⟩
  unfold absF at hg
  split at hg
  · obtain ⟨u, rfl, h⟩ := iss1 hx
    cases h
    exact call_abs pins s σ H _ _ Q I r ⟨_, rfl, q _ _ _ hg (Up.refl _) hI .int⟩
  · exact hg.elim
theorem b_max (hc : X.calm = true) : OpN T X W (.builtin "max") maxF := by
  intro pins s σ H us vs Q I r ⟨xs, R, hx, hI, hg, q⟩
  unfold maxF at hg
  split at hg
  · obtain ⟨u, v, rfl, h1, h2⟩ := iss2 hx
    cases h1; cases h2
    exact call_max2 hc pins s σ H _ _ Q I r ⟨_, _, rfl, q _ _ _ hg (Up.refl _) hI .int⟩
  · obtain ⟨u, rfl, h⟩ := iss1 hx
    obtain ⟨ns, e1, e2, hg⟩ := hg
    cases h with | lst n e hd =>
    rw [intsOf_V hd e1] at e
    exact cr_max hc pins s σ H _ _ Q I r ⟨_, ns, rfl, SqL.of e, e2, fun m h1 h2 => q _ _ _ (hg m h1 h2) (Up.refl _) hI .int⟩
  · exact hg.elim
theorem b_min (hc : X.calm = true) : OpN T X W (.builtin "min") minF := by
  intro pins s σ H us vs Q I r ⟨xs, R, hx, hI, hg, q⟩
  unfold minF at hg
  split at hg
  · obtain ⟨u, v, rfl, h1, h2⟩ := iss2 hx
    cases h1; cases h2
    exact call_min2 hc pins s σ H _ _ Q I r ⟨_, _, rfl, q _ _ _ hg (Up.refl _) hI .int⟩
  · obtain ⟨u, rfl, h⟩ := iss1 hx
    obtain ⟨ns, e1, e2, hg⟩ := hg
    cases h with | lst n e hd =>
    rw [intsOf_V hd e1] at e
    exact cr_min hc pins s σ H _ _ Q I r ⟨_, ns, rfl, SqL.of e, e2, fun m h1 h2 => q _ _ _ (hg m h1 h2) (Up.refl _) hI .int⟩
  · exact hg.elim
theorem b_int : OpN T X W (.type "int") intF := by
  intro pins s σ H us vs Q I r ⟨xs, R, hx, hI, hg, q⟩
  unfold intF at hg
  split at hg
  · obtain ⟨u, rfl, h⟩ := iss1 hx
    cases h
    exact call_int1 pins s σ H _ _ Q I r (.inl ⟨_, rfl, q _ _ _ hg (Up.refl _) hI .int⟩)
  · obtain ⟨u, rfl, h⟩ := iss1 hx
    cases h
    exact call_int1 pins s σ H _ _ Q I r (.inr ⟨_, rfl, q _ _ _ hg (Up.refl _) hI .int⟩)
  · exact hg.elim
theorem b_sum (hc : X.calm = true) : OpN T X W (.builtin "sum") sumF := by
  intro pins s σ H us vs Q I r ⟨xs, R, hx, hI, hg, q⟩
  unfold sumF at hg
  split at hg
  · obtain ⟨u, rfl, h⟩ := iss1 hx
    obtain ⟨ns, e1, hg⟩ := hg
    cases h with | lst n e hd =>
    rw [intsOf_V hd e1] at e
    exact cr_sum hc pins s σ H _ _ Q I r ⟨_, ns, rfl, SqL.of e, q _ _ _ hg (Up.refl _) hI .int⟩
  · exact hg.elim
theorem b_all (hc : X.calm = true) : OpN T X W (.builtin "all") allF := by
  intro pins s σ H us vs Q I r ⟨xs, R, hx, hI, hg, q⟩
  unfold allF at hg
  split at hg
  · obtain ⟨u, rfl, h⟩ := iss1 hx
    obtain ⟨ns, e1, hg⟩ := hg
    cases h with | lst n e hd =>
    rw [blsOf_V hd e1] at e
    exact cr_all hc pins s σ H _ _ Q I r ⟨_, ns, rfl, SqL.of e, q _ _ _ hg (Up.refl _) hI .bl⟩
  · exact hg.elim
theorem b_any (hc : X.calm = true) : OpN T X W (.builtin "any") anyF := by
  intro pins s σ H us vs Q I r ⟨xs, R, hx, hI, hg, q⟩
  unfold anyF at hg
  split at hg
  · obtain ⟨u, rfl, h⟩ := iss1 hx
    obtain ⟨ns, e1, hg⟩ := hg
    cases h with | lst n e hd =>
    rw [blsOf_V hd e1] at e
    exact cr_any hc pins s σ H _ _ Q I r ⟨_, ns, rfl, SqL.of e, q _ _ _ hg (Up.refl _) hI .bl⟩
  · exact hg.elim
theorem b_gcd : OpN T X W (.builtin "math.gcd") gcdF := by
  intro pins s σ H us vs Q I r ⟨xs, R, hx, hI, hg, q⟩
  unfold gcdF at hg
  split at hg
  · obtain ⟨u, v, rfl, h1, h2⟩ := iss2 hx
    cases h1; cases h2
    exact cr_gcd pins s σ H _ _ Q I r ⟨_, _, rfl, q _ _ _ hg (Up.refl _) hI .int⟩
  · exact hg.elim
theorem b_lcm : OpN T X W (.builtin "math.lcm") lcmF := by
  intro pins s σ H us vs Q I r ⟨xs, R, hx, hI, hg, q⟩
  unfold lcmF at hg
  split at hg
  · obtain ⟨u, v, rfl, h1, h2⟩ := iss2 hx
    cases h1; cases h2
    exact cr_lcm pins s σ H _ _ Q I r ⟨_, _, rfl, hg.1.1, hg.1.2, q _ _ _ hg.2 (Up.refl _) hI .int⟩
  · exact hg.elim
theorem b_divmod : OpN T X W (.builtin "divmod") divmodF := by
  intro pins s σ H us vs Q I r ⟨xs, R, hx, hI, hg, q⟩
  unfold divmodF at hg
  split at hg
  · obtain ⟨u, v, rfl, h1, h2⟩ := iss2 hx
    cases h1; cases h2
    exact call_divmodW pins s σ H _ _ Q I r ⟨_, _, rfl, ⟨hg.1.1, PyProof.noPylong_of_log2 hg.1.2⟩, fun p hp => q _ _ _ hg.2 (Up.new hp) (I_new hI hp) (.tup (not_M hI hp) upd_same (.cons .int (.cons .int .nil)))⟩
  · exact hg.elim
theorem b_list : OpN T X W (.type "list") listF := by
  intro pins s σ H us vs Q I r ⟨xs, R, hx, hI, hg, q⟩
  unfold listF at hg
  split at hg
  · obtain ⟨u, rfl, h⟩ := iss1 hx
    cases h with | lst n e hd =>
    exact call_list_of pins s σ H _ _ Q I r ⟨_, _, rfl, .inl (SqL.of e), fun p hp => q _ _ _ hg (Up.new hp) (I_new hI hp) (.lst (not_M hI hp) upd_same (Iss.up (Up.new hp) hd))⟩
  · obtain ⟨u, rfl, h⟩ := iss1 hx
    cases h with | tup n e hd =>
    exact call_list_of pins s σ H _ _ Q I r ⟨_, _, rfl, .inr (SqT.of e), fun p hp => q _ _ _ hg (Up.new hp) (I_new hI hp) (.lst (not_M hI hp) upd_same (Iss.up (Up.new hp) hd))⟩
  · exact hg.elim
theorem b_tuple : OpN T X W (.type "tuple") tupleF := by
  intro pins s σ H us vs Q I r ⟨xs, R, hx, hI, hg, q⟩
  unfold tupleF at hg
  split at hg
  · obtain ⟨u, rfl, h⟩ := iss1 hx
    cases h with | lst n e hd =>
    exact call_tuple_of pins s σ H _ _ Q I r ⟨_, _, rfl, .inl ⟨SqL.of e, fun p hp => q _ _ _ hg (Up.new hp) (I_new hI hp) (.tup (not_M hI hp) upd_same (Iss.up (Up.new hp) hd))⟩⟩
  · obtain ⟨u, rfl, h⟩ := iss1 hx
    cases h with | tup n e hd =>
    exact call_tuple_of pins s σ H _ _ Q I r ⟨_, _, rfl, .inr ⟨SqT.of e, q _ _ _ hg (Up.refl _) hI (.tup n e hd)⟩⟩
  · exact hg.elim
theorem b_strI {own : D → M D} (h : OpN T X W (.type "str") (fun l => match l with | [x] => own x | _ => fail)) : OpN T X W (.type "str") (strF own) := by
  intro pins s σ H us vs Q I r ⟨xs, R, hx, hI, hg, q⟩
  unfold strF at hg
  split at hg
  · obtain ⟨u, rfl, h⟩ := iss1 hx
    cases h
    exact call_str_int pins s σ H _ _ Q I r ⟨_, rfl, hg.1, q _ _ _ hg.2 (Up.refl _) hI .str⟩
  · exact h pins s σ H us vs Q I r ⟨_, R, hx, hI, hg, q⟩
  · exact hg.elim
end
end Uv
set_option Elab.async false
set_option linter.all false
set_option maxRecDepth 100000
set_option maxHeartbeats 4000000
namespace Uv
open PySem L2 Inn PySem.Spec PyProof.Rows
/-! ### one object that changes -/
/-- the world in which the object at p, of no data, is o -/
def Wh (W : Wo) (p : Addr) (o : HO) : Wo where
  M a := W.M a ∨ a = p
  I H := W.I H ∧ H p = some o
  st h k := ⟨W.st h.1 fun a m => k a (.inl m), by rw [k p (.inr rfl)]; exact h.2⟩
  al h m := by
    rcases m with m | rfl
    · exact W.al h.1 m
    · exact ⟨_, h.2⟩
  P a := W.P a ∧ a ≠ p
  pm h := .inl (W.pm h.1)
  rd i h := W.rd i.1 h.1
  wr x y i h h1 h2 h3 := ⟨W.wr x y i.1 h.1 h1 h2 h3, by rw [upd_ne h.2.symm]; exact i.2⟩
/-- .. a list of us -/
abbrev Wg (W : Wo) (p : Addr) (us : List V) : Wo := Wh W p (.lst us)
section
variable {T : Ct} {W : Wo} {H H' : Hp} {p : Addr} {us vs : HO} {v : V} {d : D} {xs : List V} {ds : List D} {ρ : List (Option D)} {σ : L2.St}
theorem pot_ne (hI : W.I H) (hp : H p = none) : ∀ a, W.P a → W.P a ∧ a ≠ p := fun a h => ⟨h, fun z => by
  obtain ⟨x, y, _, _, _, e⟩ := W.rd hI h
  rw [z, hp] at e
  cases e⟩
theorem Is.gr (hI : W.I H) (hp : H p = none) (h : Is T W H v d) : Is T (Wh W p us) H v d := IsD.conv (fun a o n e => ⟨fun m => m.elim n fun z => ne_of_none e hp z, e⟩) (pot_ne hI hp) h
theorem Iss.gr (hI : W.I H) (hp : H p = none) (h : Iss T W H xs ds) : Iss T (Wh W p us) H xs ds := IsDs.conv (fun a o n e => ⟨fun m => m.elim n fun z => ne_of_none e hp z, e⟩) (pot_ne hI hp) h
theorem Is.wk (h : Is T (Wh W p us) H v d) : Is T W H v d := IsD.conv (fun a o n e => ⟨fun m => n (.inl m), e⟩) (fun _ h => h.1) h
theorem Iss.wk (h : Iss T (Wh W p us) H xs ds) : Iss T W H xs ds := IsDs.conv (fun a o n e => ⟨fun m => n (.inl m), e⟩) (fun _ h => h.1) h
/-- the list is changed -/
theorem Is.gw {o : HO} (h : Is T (Wh W p us) H v d) : Is T (Wh W p vs) (upd H p o) v d := IsD.conv (fun a o' n e => ⟨n, by rw [upd_ne (fun z => n (.inr z))]; exact e⟩) (fun _ h => h) h
theorem Iss.gw {o : HO} (h : Iss T (Wh W p us) H xs ds) : Iss T (Wh W p vs) (upd H p o) xs ds := IsDs.conv (fun a o' n e => ⟨n, by rw [upd_ne (fun z => n (.inr z))]; exact e⟩) (fun _ h => h) h
theorem Sees.gr (hI : W.I H) (hp : H p = none) (h : Sees T W σ H ρ) : Sees T (Wh W p us) σ H ρ := ⟨h.1, fun i d e => let ⟨v, e1, h1⟩ := h.2 i d e; ⟨v, e1, h1.gr hI hp⟩⟩
theorem Sees.wk (h : Sees T (Wh W p us) σ H ρ) : Sees T W σ H ρ := ⟨h.1, fun i d e => let ⟨v, e1, h1⟩ := h.2 i d e; ⟨v, e1, h1.wk⟩⟩
theorem Sees.gw {o : HO} (h : Sees T (Wh W p us) σ H ρ) : Sees T (Wh W p vs) σ (upd H p o) ρ := ⟨h.1, fun i d e => let ⟨v, e1, h1⟩ := h.2 i d e; ⟨v, e1, h1.gw⟩⟩
theorem wg_up (hp : ¬ W.M p) (u : Up (Wh W p us).toWld H H') : ∀ a o, ¬ W.M a → a ≠ p → H a = some o → H' a = some o := fun a o n z e => u a o (fun m => m.elim n z) e
end
/-! ### what is walked over -/
/-- what comes: data that stand, or a new tuple of such -/
def Got (T : Ct) (W : Wo) (H2 : Hp) (x : V) (H' H'' : Hp) (d : D) : Prop :=
  (H'' = H' ∧ Is T W H2 x d) ∨ ∃ p us l, x = .ref p ∧ d = .tup l ∧ H' p = none ∧ H'' = upd H' p (.tup us) ∧ Iss T W H2 us l
structure Src (T : Ct) (W : Wo) (H2 : Hp) (G : Hp → Prop) (Y : Nat → Hp → V → Hp → Prop) (ds : List D) : Prop where
  st : ∀ H', Up W.toWld H2 H' → G H'
  yl : ∀ i H' x H'', i < ds.length → Up W.toWld H2 H' → Y i H' x H'' → ∃ d, ds[i]? = some d ∧ Got T W H2 x H' H'' d
def Iw (T : Ct) (X : Cx) (W : Wo) (tg iter : Expr) (σ : L2.St) (H : Hp) (m : M (List D)) : Prop :=
  ∀ R, m R → ∃ wi, PI X tg iter wi ∧ ∀ H1, Up W.toWld H H1 → W.I H1 → ∀ Rk : It → Hp → Prop, (∀ J H2 ds G Y, Up W.toWld H1 H2 → W.I H2 → Walk J ds.length G Y → Src T W H2 G Y ds → R ds → Rk J H2) → wi σ H1 Rk
/-- the items of a value -/
def itemsG : D → M (List D)
  | .lst l => rt l
  | .tup l => rt l
  | _ => fail
def itemsM (m : M D) : M (List D) := fun R => m fun d => itemsG d R
section
variable {T : Ct} {X : Cx} {W W0 : Wo} {σ : L2.St} {H H0 : Hp} {pos p p2 : Pos} {a b c e tg iter : Expr} {es rest : List Expr} {ma mb m : M D} {ml : M (List D)} {mt mu : M Bool} {ρ : List (Option D)} {nm : Str}
def iSeq (K : PySem.W.Frag) (tl : TE) : TI := fun σ H R => tl σ H fun x H1 =>
  (∃ a xs, x = .ref a ∧ SqL K H1 a xs ∧ R (Itl K a) H1) ∨ (∃ a xs, x = .ref a ∧ SqT K H1 a xs ∧ R (Itt K a) H1)
theorem pi_seq {l : Expr} {tl : TE} (hl : PE X l tl) : PI X tg l (iSeq X.K tl) := by
  constructor
  intro pins s σ H R I h
  apply thn (hl.run pins s σ H _ I h)
  rintro v s1 ⟨x, H1, I1, r1, q1⟩
  have I2 : ∀ (ob : Obj), Inv X pins σ H1 { s1 with heap := s1.heap.push ob } := fun ob => I1.kept (t' := s1.toks) fun b o e => Heap.get?_push_of_some _ e
  have fr : ∀ b ∈ [s1.heap.objs.size], FpOk X pins H1 b := by
    intro b hb
    rw [List.mem_singleton.mp hb]
    exact I1.fpOk (Nat.le_refl _) (I1.hok.fresh (Nat.le_refl _))
  rcases q1 with ⟨a, xs, rfl, hq, q⟩ | ⟨a, xs, rfl, hq, q⟩ <;> cases r1
  case' inl =>
    obtain ⟨its, _, pl, _⟩ := I1.list hq
    apply wpAny_pyIter_list pl.isList
  case' inr =>
    obtain ⟨its, _, pl, _⟩ := I1.tuple hq
    apply wpAny_pyIter_tuple (show s1.heap.IsTuple a its.toArray from pl)
  case' inl => exact ⟨s1.heap.objs.size, [s1.heap.objs.size], _, _, H1, rfl, I2 _, turn_list a _, ⟨_, Heap.get?_push_size _ rfl, rfl, rfl⟩, fr, q⟩
  case' inr => exact ⟨s1.heap.objs.size, [s1.heap.objs.size], _, _, H1, rfl, I2 _, turn_tuple a _, ⟨_, Heap.get?_push_size _ rfl, rfl, rfl⟩, fr, q⟩
theorem iw_val (h : Dw T X W e σ H m) : Iw T X W tg e σ H (itemsM m) := fun R hm => ⟨_, pi_seq pe_any, fun H1 u hI Rk q => h.go hm u hI fun v H2 d u2 i2 hd pd => by
  have src : ∀ {l : List D} {us : List V} {G : Hp → Prop}, Iss T W H2 us l → (∀ H', Up W.toWld H2 H' → G H') → Src T W H2 G (YAt us) l := fun {l us G} hs hG => ⟨hG, fun i H' x H'' hi u' y => by
    obtain ⟨z, hz, hx⟩ := hs.getL y.2
    exact ⟨z, hz, .inl ⟨y.1, hx⟩⟩⟩
  unfold itemsG at pd
  split at pd
  · cases hd with | lst n e hs =>
    refine .inl ⟨_, _, rfl, SqL.of e, q _ H2 _ (fun H' => SqL X.K H' _ _) _ u2 i2 (by rw [← hs.len]; exact walk_list) (src hs fun H' u' => SqL.of (u' _ _ n e)) pd⟩
  · cases hd with | tup n e hs =>
    refine .inr ⟨_, _, rfl, SqT.of e, q _ H2 _ (fun H' => SqT X.K H' _ _) _ u2 i2 (by rw [← hs.len]; exact walk_tup) (src hs fun H' u' => SqT.of (u' _ _ n e)) pd⟩
  · exact pd.elim⟩
def range1G : List D → M (List D)
  | [.int n] => asks (-(2 ^ 62) ≤ n ∧ n < 2 ^ 62) (rt ((List.range n.toNat).map fun i => .int (i : Nat)))
  | _ => fail
def range2G : List D → M (List D)
  | [.int a, .int b] => asks (-(2 ^ 62) ≤ a ∧ a < 2 ^ 62 ∧ -(2 ^ 62) ≤ b ∧ b < 2 ^ 62) (rt ((List.range (b - a).toNat).map fun i => .int (a + (i : Nat))))
  | _ => fail
def walkM (g : List D → M (List D)) (ml : M (List D)) : M (List D) := fun R => ml fun xs => g xs R
theorem src_range {H2 : Hp} {lo : Int} {n : Nat} {f : Nat → D} (hf : ∀ i, f i = .int (lo + (i : Nat))) : Src T W H2 (fun _ => True) (YFn fun i => .int (lo + i)) ((List.range n).map f) := ⟨fun _ _ => trivial, fun i H' x H'' hi u y => by
  rw [List.length_map, List.length_range] at hi
  refine ⟨f i, by rw [List.getElem?_map, List.getElem?_range hi]; rfl, .inl ⟨y.1, ?_⟩⟩
  rw [y.2, hf]
  exact .int⟩
theorem iw_range1 (ha : Lw T X W [a] σ H ml) (hm : X.mg "range" = none) (hg : Gl X "range" := by rfl) (hs : starEach [a] X.env = [(false, eval a X.env)] := by rfl) :
    Iw T X W tg (.Call (.Name "range" p) [a] [] pos) σ H (walkM range1G ml) := fun R hR => ⟨_, pi_range1 hg hm pa_any hs, fun H1 u hI Rk q => ha.go hR u hI fun vs H2 xs u2 i2 hx px => by
  unfold range1G at px
  split at px
  · rename_i n
    obtain ⟨v, rfl, h⟩ := iss1 hx
    cases h
    refine ⟨n, rfl, px.1.1, px.1.2, q _ H2 _ _ _ u2 i2 ?_ (src_range (lo := 0) (n := n.toNat) fun i => by rw [Int.zero_add]) px.2⟩
    rw [List.length_map, List.length_range]
    exact walk_range
  · exact px.elim⟩
theorem iw_range2 (ha : Lw T X W [a, b] σ H ml) (hm : X.mg "range" = none) (hg : Gl X "range" := by rfl) (hs : starEach [a, b] X.env = [(false, eval a X.env), (false, eval b X.env)] := by rfl) (hs2 : starEach [b] X.env = [(false, eval b X.env)] := by rfl) :
    Iw T X W tg (.Call (.Name "range" p) [a, b] [] pos) σ H (walkM range2G ml) := fun R hR => ⟨_, pi_range2 hg hm pa_any hs hs2, fun H1 u hI Rk q => ha.go hR u hI fun vs H2 xs u2 i2 hx px => by
  unfold range2G at px
  split at px
  · rename_i lo hi
    obtain ⟨v, w, rfl, h, h2⟩ := iss2 hx
    cases h
    cases h2
    refine ⟨lo, hi, rfl, ⟨px.1.1, px.1.2.1, px.1.2.2.1, px.1.2.2.2⟩, q _ H2 _ _ _ u2 i2 ?_ (src_range (lo := lo) (n := (hi - lo).toNat) fun i => rfl) px.2⟩
    rw [List.length_map, List.length_range]
    exact walk_range
  · exact px.elim⟩
/-- enumerate(a list) -/
def enumG : List D → M (List D)
  | [.lst l] => rt (l.zipIdx.map fun x => .tup [.int (x.2 : Nat), x.1])
  | _ => fail
def zipG : List D → M (List D)
  | [.lst a, .lst b] => rt ((a.zip b).map fun x => .tup [x.1, x.2])
  | _ => fail
theorem iw_enum {elts : List Expr} {kk : Nat} {tpos : Pos} (ha : Lw T X W [a] σ H ml) (hm : X.mg "enumerate" = none) (hg : Gl X "enumerate" := by rfl) (hs : starEach [a] X.env = [(false, eval a X.env)] := by rfl) :
    Iw T X W (.Tuple elts kk tpos) (.Call (.Name "enumerate" p) [a] [] pos) σ H (walkM enumG ml) := fun R hR => ⟨_, pi_enum hg hm pa_any hs, fun H1 u hI Rk q => ha.go hR u hI fun vs H2 xs u2 i2 hx px => by
  unfold enumG at px
  split at px
  · obtain ⟨v, rfl, h⟩ := iss1 hx
    cases h with | lst n e hs =>
    rename_i l _ us
    refine ⟨_, us, rfl, SqL.of e, q _ H2 _ (fun H' => SqL X.K H' _ us) (YPair (fun i => some (.int (i : Nat))) (fun i => us[i]?)) u2 i2 ?_ ⟨fun H' u' => SqL.of (u' _ _ n e), fun i H' x H'' hi u' y => ?_⟩ px⟩
    · rw [List.length_map, List.length_zipIdx, ← hs.len]
      exact walk_enum
    · rw [List.length_map, List.length_zipIdx] at hi
      obtain ⟨Tn, x1, x2, rfl, hn, rfl, e1, e2⟩ := y
      cases e1
      obtain ⟨z, hz, hx2⟩ := hs.getL e2
      refine ⟨.tup [.int (i : Nat), z], ?_, .inr ⟨Tn, _, _, rfl, rfl, hn, rfl, .cons .int (.cons hx2 .nil)⟩⟩
      rw [List.getElem?_map, List.getElem?_zipIdx, hz]
      simp
  · exact px.elim⟩
theorem iw_zip {elts : List Expr} {kk : Nat} {tpos : Pos} (ha : Lw T X W [a, b] σ H ml) (hm : X.mg "zip" = none) (hg : Gl X "zip" := by rfl) (hs : starEach [a, b] X.env = (false, eval a X.env) :: starEach [b] X.env := by rfl) (hpl : (backTo pos (starEach [b] X.env)).any (·.1) = false := by rfl) :
    Iw T X W (.Tuple elts kk tpos) (.Call (.Name "zip" p) [a, b] [] pos) σ H (walkM zipG ml) := fun R hR => ⟨_, pi_zip hg hm pa_any hs hpl, fun H1 u hI Rk q => ha.go hR u hI fun vs H2 xs u2 i2 hx px => by
  unfold zipG at px
  split at px
  · obtain ⟨v, w, rfl, h, h'⟩ := iss2 hx
    cases h with | lst n e hs =>
    cases h' with | lst n' e' hs' =>
    rename_i l l' _ us _ us'
    refine ⟨_, _, us, us', rfl, SqL.of e, SqL.of e', q _ H2 _ (fun H' => SqL X.K H' _ us ∧ SqL X.K H' _ us') (YPair (fun i => us[i]?) (fun i => us'[i]?)) u2 i2 ?_ ⟨fun H' u' => ⟨SqL.of (u' _ _ n e), SqL.of (u' _ _ n' e')⟩, fun i H' x H'' hi u' y => ?_⟩ px⟩
    · exact walk_zip (by rw [List.length_map, List.length_zip, ← hs.len, ← hs'.len])
    · obtain ⟨Tn, x1, x2, rfl, hn, rfl, e1, e2⟩ := y
      obtain ⟨z1, hz1, hx1⟩ := hs.getL e1
      obtain ⟨z2, hz2, hx2⟩ := hs'.getL e2
      refine ⟨.tup [z1, z2], ?_, .inr ⟨Tn, _, _, rfl, rfl, hn, rfl, .cons hx1 (.cons hx2 .nil)⟩⟩
      rw [List.getElem?_map, (List.getElem?_zip_eq_some (z := (z1, z2))).mpr ⟨hz1, hz2⟩]
      rfl
  · exact px.elim⟩
end
end Uv
set_option Elab.async false
set_option linter.all false
set_option maxRecDepth 100000
set_option maxHeartbeats 4000000
namespace Uv
open PySem L2 Inn PySem.Spec PyProof.Rows
/-! ### comprehensions -/
def mapIf (t : D → M Bool) (f : D → M D) : List D → M (List D)
  | [] => fun R => R []
  | d :: ds => fun R => t d fun b => ite2 b (f d fun y => mapIf t f ds fun ys => R (y :: ys)) (mapIf t f ds R)
def mapD (f : D → M D) : List D → M (List D)
  | [] => fun R => R []
  | d :: ds => fun R => f d fun y => mapD f ds fun ys => R (y :: ys)
theorem mapIf_yes {f : D → M D} : ∀ {ds : List D}, mapIf (fun _ => rt true) f ds = mapD f ds
  | [] => rfl
  | d :: ds => by
    funext R
    show (f d fun y => mapIf (fun _ => rt true) f ds fun ys => R (y :: ys)) = _
    rw [mapIf_yes (ds := ds)]
    rfl
def lcM (it : M (List D)) (f : D → M D) : M D := fun R => it fun ds => ds.length ≤ sizeLine ∧ mapD f ds fun ys => R (.lst ys)
def lcIfM (it : M (List D)) (t : D → M Bool) (f : D → M D) : M D := fun R => it fun ds => ds.length ≤ sizeLine ∧ mapIf t f ds fun ys => R (.lst ys)
def un2 {α : Type} (k : D → D → M α) : D → M α
  | .tup [x, y] => k x y
  | _ => fail
def un3 {α : Type} (k : D → D → D → M α) : D → M α
  | .tup [x, y, z] => k x y z
  | _ => fail
def wipeD (ρ : List (Option D)) : List Nat → List (Option D)
  | [] => ρ
  | v :: vs => (wipeD ρ vs).set v none
section
variable {T : Ct} {X : Cx} {W W0 : Wo} {σ : L2.St} {H H0 : Hp} {pos p pc : Pos} {e elt tg iter : Expr} {es : List Expr} {m : M D} {mi : M (List D)} {ρ : List (Option D)} {scope : Scope} {own : List (Str × Nat)} {ifs : List Expr}
theorem Sees.wipe (h : Sees T W σ H ρ) : ∀ vs : List Nat, Sees T W (L2.wipe σ vs) H (wipeD ρ vs)
  | [] => h
  | v :: vs => (Sees.wipe h vs).unset v
def tBx (X : Cx) (scope : Scope) (e : Expr) : TE := fun σ H Q => ∀ (s : Shared) (H' : Hp) (C : Addr) (cl : List (Str × Addr)) (fp : List Addr), ∃ t, PE (X.blk s H' scope (compEnvC scope cl C X.env) fp) e t ∧ t σ H Q
theorem pe_tBx {s : Shared} {H' : Hp} {C : Addr} {cl : List (Str × Addr)} {fp : List Addr} : PE (X.blk s H' scope (compEnvC scope cl C X.env) fp) e (tBx X scope e) :=
  ⟨fun pins s1 σ H Q I h => let ⟨t, pt, q⟩ := h s H' C cl fp; pt.run pins s1 σ H Q I q⟩
def ttBx (X : Cx) (scope : Scope) (e : Expr) : TT := fun σ H Q => ∀ (s : Shared) (H' : Hp) (C : Addr) (cl : List (Str × Addr)) (fp : List Addr), ∃ t, PT (X.blk s H' scope (compEnvC scope cl C X.env) fp) e t ∧ t σ H Q
theorem pt_tBx {s : Shared} {H' : Hp} {C : Addr} {cl : List (Str × Addr)} {fp : List Addr} : PT (X.blk s H' scope (compEnvC scope cl C X.env) fp) e (ttBx X scope e) :=
  ⟨fun pins s1 σ H Q I h => let ⟨t, pt, q⟩ := h s H' C cl fp; pt.run pins s1 σ H Q I q⟩
/-- where a comprehension stands: at turn i, the list at D -/
structure LcI (T : Ct) (W : Wo) (H2 : Hp) (Dn : Addr) (ds : List D) (t : D → M Bool) (f : D → M D) (R : D → Prop) (i : Nat) (H' : Hp) : Prop where
  ex : ∃ us ys, Up (Wg W Dn us).toWld H2 H' ∧ (Wg W Dn us).I H' ∧ Iss T (Wg W Dn us) H' us ys ∧ us.length ≤ i ∧ mapIf t f (ds.drop i) fun zs => R (.lst (ys ++ zs))
/-- a comprehension as a value or as a name's new value -/
def Dc (T : Ct) (X : Cx) (W : Wo) (e : Expr) (σ : L2.St) (H : Hp) (m : M D) : Prop :=
  ∀ R, m R → ∃ te, PE X e te ∧ (∀ {i : Nat} {y : Str} {py spos : Pos}, X.N[i]? = some y → X.env.scope.names.lookup y = some .local → swapsWith e (some (.Name y py)) spos.line X.env = pure true → PS X (.Assign [.Name y py] e spos) (tAsg te (gName i))) ∧ Ev T W te σ H R
theorem Dc.dw (h : Dc T X W e σ H m) : Dw T X W e σ H m := fun R hm => let ⟨te, pe, _, ev⟩ := h R hm; ⟨te, pe, ev⟩
theorem dc_core {t : D → M Bool} {f : D → M D} {bnd : D → List (Option D) → Prop} {g : TG} {tt : TT} (hit : Iw T X W tg iter σ H mi) (hS : Sees T W σ H ρ) (hc : X.calm = true) (hN : X.N.Nodup) (ok : BlkOk X.N X.env.scope scope own)
    (hg : ∀ (s : Shared) (H : Hp) (C : Addr) (cl : List (Str × Addr)) (fp : List Addr), PG (X.blk s H scope (compEnvC scope cl C X.env) fp) tg g)
    (ht : ∀ (s : Shared) (H : Hp) (C : Addr) (cl : List (Str × Addr)) (fp : List Addr), PTs (X.blk s H scope (compEnvC scope cl C X.env) fp) ifs tt)
    (htg : ∀ (W' : Wo) (H' : Hp) v d R (Q : L2.St → Hp → Prop), Sees T W' (L2.wipe σ (own.map (·.2))) H' (wipeD ρ (own.map (·.2))) → Is T W' H' v d → t d R → (∀ σ2 ρ2, Sees T W' σ2 H' ρ2 → bnd d ρ2 → L2.wipe σ2 (own.map (·.2)) = L2.wipe σ (own.map (·.2)) → Q σ2 H') → g v (L2.wipe σ (own.map (·.2))) H' Q)
    (htt : ∀ (W' : Wo) σ2 H' d ρ2 R (Q : Bool → Hp → Prop), Sees T W' σ2 H' ρ2 → W'.I H' → bnd d ρ2 → t d R → (∀ k H2, Up W'.toWld H' H2 → W'.I H2 → R k → Q k H2) → tt σ2 H' Q)
    (he : ∀ (s : Shared) (Hb : Hp) (C : Addr) (cl : List (Str × Addr)) (fp : List Addr) (W' : Wo) σ2 H' d ρ2, Sees T W' σ2 H' ρ2 → bnd d ρ2 → Dw T (X.blk s Hb scope (compEnvC scope cl C X.env) fp) W' elt σ2 H' (f d))
    (hs : ∀ x, foldedSetIterable iter X.env x = pure x := by intro _; rfl) : Dc T X W (.ListComp elt [⟨tg, iter, ifs, 0⟩] scope pc) σ H (lcIfM mi t f) := by
  intro R hm
  obtain ⟨wi, pi, vi⟩ := hit _ hm
  refine ⟨_, pe_lc (own := own) hc hN pi ok hg ht (fun _ _ _ _ _ => pe_tBx) hs, fun h1 h2 h3 => ps_setLc (own := own) hc hN h1 h2 h3 pi ok hg ht (fun _ _ _ _ _ => pe_tBx) hs, fun H1 u1 i1 Q q => vi H1 u1 i1 _ fun J H2 ds G Y u2 i2 wk src hr => ?_⟩
  obtain ⟨hl, hr⟩ := hr
  intro Dn hD
  have hnM : ¬ W.M Dn := not_M i2 hD
  have kp : ∀ {us H'}, Up (Wg W Dn us).toWld H2 H' → Up W.toWld H2 H' := fun {us H'} u a o n e => u a o (fun m => m.elim n fun z => ne_of_none e hD z) e
  refine lc_it wk (LcI T W H2 Dn ds t f R) ?_ (fun i H' _ hp => ?_) (fun i x H' H'' hi hp hy => ?_) (fun H' hp => ?_)
  · exact ⟨[], [], fun a o n e => by rw [upd_ne (fun z => n (.inr z))]; exact e, ⟨I_new i2 hD, upd_same⟩, .nil, Nat.le_refl _, by simpa using hr⟩
  · obtain ⟨us, ys, pu, _⟩ := hp.ex
    exact src.st H' (kp pu)
  · obtain ⟨us, ys, pu, pI, ps, pl, pm⟩ := hp.ex
    obtain ⟨d, hd, got⟩ := src.yl i H' x H'' hi (kp pu) hy
    have hdrop : ds.drop i = d :: ds.drop (i + 1) := by
      rw [List.drop_eq_getElem_cons hi]
      rw [List.getElem?_eq_getElem hi] at hd
      rw [Option.some.inj hd]
    rw [hdrop] at pm
    -- the item as data of the inner world
    have st : ∀ {v d'}, Is T W H2 v d' → Is T (Wg W Dn us) H' v d' := fun h => IsD.conv (fun a o n e => ⟨fun m => m.elim n fun z => ne_of_none e hD z, pu a o (fun m => m.elim n fun z => ne_of_none e hD z) e⟩) (pot_ne i2 hD) h
    have sts : ∀ {v d'}, Iss T W H2 v d' → Iss T (Wg W Dn us) H' v d' := fun h => IsDs.conv (fun a o n e => ⟨fun m => m.elim n fun z => ne_of_none e hD z, pu a o (fun m => m.elim n fun z => ne_of_none e hD z) e⟩) (pot_ne i2 hD) h
    have item : Is T (Wg W Dn us) H'' x d ∧ Up (Wg W Dn us).toWld H' H'' ∧ (Wg W Dn us).I H'' := by
      rcases got with ⟨rfl, h⟩ | ⟨p, zs, l, rfl, rfl, hn, rfl, h⟩
      · exact ⟨st h, Up.refl _, pI⟩
      · exact ⟨.tup (not_M pI hn) upd_same (Iss.up (Up.new hn) (sts h)), Up.new hn, I_new pI hn⟩
    obtain ⟨hx, ux, ix⟩ := item
    have sees : Sees T (Wg W Dn us) (L2.wipe σ (own.map (·.2))) H'' (wipeD ρ (own.map (·.2))) := by
      have h0 : Sees T W σ H2 ρ := (hS.up u1).up u2
      have h1 : Sees T (Wg W Dn us) σ H' ρ := ⟨h0.1, fun i d e => let ⟨v, e1, h1⟩ := h0.2 i d e; ⟨v, e1, st h1⟩⟩
      exact (h1.up ux).wipe _
    refine htg _ H'' x d _ _ sees hx pm fun σ2 ρ2 s2 b2 w2 => ⟨w2, htt _ σ2 H'' d ρ2 _ _ s2 ix b2 pm fun k H3 u3 i3 hk => ?_⟩
    cases k with
    | false =>
      rw [if_neg Bool.false_ne_true]
      exact ⟨us, ys, (pu.trans ux).trans u3, i3, (ps.up ux).up u3, Nat.le_succ_of_le pl, hk⟩
    | true =>
      rw [if_pos rfl]
      intro s Hb C cl fp
      obtain ⟨te, pe, ev⟩ := he s Hb C cl fp _ σ2 H3 d ρ2 (s2.up u3) b2 _ hk
      refine ⟨te, pe, ev H3 (Up.refl _) i3 _ fun v H4 y u4 i4 hv hy' => ⟨us, i4.2, Nat.lt_of_le_of_lt pl (Nat.lt_of_lt_of_le hi hl), ?_⟩⟩
      have u14 := ((pu.trans ux).trans u3).trans u4
      refine ⟨us ++ [v], ys ++ [y], fun a o n e => ?_, ⟨I_mut i4.1 hnM, upd_same⟩, ?_, ?_, ?_⟩
      · rw [upd_ne (fun z => n (.inr z))]
        exact u14 a o n e
      · exact ((((ps.up ux).up u3).up u4).gw).app (.cons hv.gw .nil)
      · rw [List.length_append]
        exact Nat.succ_le_succ pl
      · have e : (fun zs => R (.lst ((ys ++ [y]) ++ zs))) = fun zs => R (.lst (ys ++ (y :: zs))) := by
          funext zs
          rw [List.append_assoc]
          rfl
        rw [e]
        exact hy'
  · obtain ⟨us, ys, pu, pI, ps, pl, pm⟩ := hp.ex
    rw [List.drop_length] at pm
    have pm : R (.lst (ys ++ [])) := pm
    rw [List.append_nil] at pm
    exact q _ H' _ (u2.trans (kp pu)) pI.1 (.lst hnM pI.2 ps.wk) pm
theorem wipe1 {σ : L2.St} {i : Nat} {v : V} : L2.wipe ((L2.wipe σ [i]).set i (some v)) [i] = L2.wipe σ [i] := by
  show (((σ.set i none).set i (some v)).set i none) = σ.set i none
  rw [List.set_set, List.set_set]
theorem wipe2 {σ : L2.St} {i j : Nat} {v w : V} (h : i ≠ j) : L2.wipe (((L2.wipe σ [i, j]).set i (some v)).set j (some w)) [i, j] = L2.wipe σ [i, j] := by
  have e : ∀ B : L2.St, ((((B.set i none).set i (some v)).set j (some w)).set j none).set i none = (B.set j none).set i none := fun B => by
    rw [List.set_set, List.set_set, List.set_comm (l := B.set i (some v)) none none h.symm, List.set_set, List.set_comm none none h]
  show ((((((σ.set j none).set i none).set i (some v)).set j (some w)).set j none).set i none) = (σ.set j none).set i none
  rw [e, List.set_set]
/-- [elt for x in it] -/
theorem dc_1 (i : Nat) {x : Str} {px : Pos} {f : D → M D} (hit : Iw T X W (.Name x px) iter σ H mi) (hS : Sees T W σ H ρ)
    (he : ∀ (s : Shared) (Hb : Hp) (C : Addr) (cl : List (Str × Addr)) (fp : List Addr) (W' : Wo) σ2 H' d, Sees T W' σ2 H' ((wipeD ρ [i]).set i (some d)) → Dw T (X.blk s Hb scope (compEnvC scope cl C X.env) fp) W' elt σ2 H' (f d))
    (hc : X.calm = true) (hN : X.N.Nodup) (ok : BlkOk X.N X.env.scope scope [(x, i)])
    (hg : ∀ (s : Shared) (H : Hp) (C : Addr) (cl : List (Str × Addr)) (fp : List Addr), PG (X.blk s H scope (compEnvC scope cl C X.env) fp) (.Name x px) (gName i)) (hs : ∀ x, foldedSetIterable iter X.env x = pure x := by intro _; rfl) :
    Dc T X W (.ListComp elt [⟨.Name x px, iter, [], 0⟩] scope pc) σ H (lcM mi f) := by
  have h := dc_core (pc := pc) (own := [(x, i)]) (t := fun _ => rt true) (bnd := fun d ρ2 => ρ2 = (wipeD ρ [i]).set i (some d)) hit hS hc hN ok hg (fun _ _ _ _ _ => pts_nil)
    (fun W' H' v d R Q s hv _ q => q _ _ (s.set i hv) rfl wipe1) (fun W' σ2 H' d ρ2 R Q s hI b ht q => q true H' (Up.refl _) hI ht) (fun s Hb C cl fp W' σ2 H' d ρ2 se b => by subst b; exact he s Hb C cl fp W' σ2 H' d se) hs
  unfold lcIfM at h
  simp only [mapIf_yes] at h
  exact h
/-- .. if c -/
theorem dc_1if (i : Nat) {x : Str} {px : Pos} {c : Expr} {f : D → M D} {t : D → M Bool} (hit : Iw T X W (.Name x px) iter σ H mi) (hS : Sees T W σ H ρ)
    (ht : ∀ (s : Shared) (Hb : Hp) (C : Addr) (cl : List (Str × Addr)) (fp : List Addr) (W' : Wo) σ2 H' d, Sees T W' σ2 H' ((wipeD ρ [i]).set i (some d)) → Tw (X.blk s Hb scope (compEnvC scope cl C X.env) fp) W' c σ2 H' (t d))
    (he : ∀ (s : Shared) (Hb : Hp) (C : Addr) (cl : List (Str × Addr)) (fp : List Addr) (W' : Wo) σ2 H' d, Sees T W' σ2 H' ((wipeD ρ [i]).set i (some d)) → Dw T (X.blk s Hb scope (compEnvC scope cl C X.env) fp) W' elt σ2 H' (f d))
    (hc : X.calm = true) (hN : X.N.Nodup) (ok : BlkOk X.N X.env.scope scope [(x, i)])
    (hg : ∀ (s : Shared) (H : Hp) (C : Addr) (cl : List (Str × Addr)) (fp : List Addr), PG (X.blk s H scope (compEnvC scope cl C X.env) fp) (.Name x px) (gName i)) (hs : ∀ x, foldedSetIterable iter X.env x = pure x := by intro _; rfl) :
    Dc T X W (.ListComp elt [⟨.Name x px, iter, [c], 0⟩] scope pc) σ H (lcIfM mi t f) :=
  dc_core (pc := pc) (own := [(x, i)]) (bnd := fun d ρ2 => ρ2 = (wipeD ρ [i]).set i (some d)) hit hS hc hN ok hg (fun _ _ _ _ _ => pts_one pt_tBx)
    (fun W' H' v d R Q s hv _ q => q _ _ (s.set i hv) rfl wipe1) (fun W' σ2 H' d ρ2 R Q se hI b hT q s Hb C cl fp => by
      subst b
      obtain ⟨te, pe, ev⟩ := ht s Hb C cl fp W' σ2 H' d se R hT
      exact ⟨te, pe, ev H' (Up.refl _) hI Q q⟩) (fun s Hb C cl fp W' σ2 H' d ρ2 se b => by subst b; exact he s Hb C cl fp W' σ2 H' d se) hs
/-- [elt for x, y in it] -/
theorem un2_of {α : Type} {k : D → D → M α} {d : D} {R : α → Prop} (h : un2 k d R) : ∃ x y, d = .tup [x, y] := by
  unfold un2 at h
  split at h
  · exact ⟨_, _, rfl⟩
  · exact h.elim
theorem dc_2 (i j : Nat) {x y : Str} {px py pt : Pos} {kt : Nat} {f : D → D → M D} (hit : Iw T X W (.Tuple [.Name x px, .Name y py] kt pt) iter σ H mi) (hS : Sees T W σ H ρ) (hij : i ≠ j)
    (he : ∀ (s : Shared) (Hb : Hp) (C : Addr) (cl : List (Str × Addr)) (fp : List Addr) (W' : Wo) σ2 H' d e, Sees T W' σ2 H' (((wipeD ρ [i, j]).set i (some d)).set j (some e)) → Dw T (X.blk s Hb scope (compEnvC scope cl C X.env) fp) W' elt σ2 H' (f d e))
    (hc : X.calm = true) (hN : X.N.Nodup) (ok : BlkOk X.N X.env.scope scope [(x, i), (y, j)])
    (hg : ∀ (s : Shared) (H : Hp) (C : Addr) (cl : List (Str × Addr)) (fp : List Addr), PG (X.blk s H scope (compEnvC scope cl C X.env) fp) (.Tuple [.Name x px, .Name y py] kt pt) (gTup X.K 2 (gCons (gName i) (gCons (gName j) gNil)))) (hs : ∀ x, foldedSetIterable iter X.env x = pure x := by intro _; rfl) :
    Dc T X W (.ListComp elt [⟨.Tuple [.Name x px, .Name y py] kt pt, iter, [], 0⟩] scope pc) σ H (lcM mi (un2 f)) := by
  have h := dc_core (pc := pc) (own := [(x, i), (y, j)]) (f := un2 f) (t := fun d => un2 (fun _ _ => rt true) d) (bnd := fun d ρ2 => ∃ a b, d = .tup [a, b] ∧ ρ2 = ((wipeD ρ [i, j]).set i (some a)).set j (some b)) hit hS hc hN ok hg (fun _ _ _ _ _ => pts_nil)
    (fun W' H' v d R Q s hv hT q => by
      obtain ⟨a, b, rfl⟩ := un2_of hT
      cases hv with | tup n e hs =>
      obtain ⟨u, w, rfl, h1, h2⟩ := iss2 hs
      exact ⟨_, _, rfl, SqT.of e, rfl, u, _, rfl, w, _, rfl, rfl, q _ _ ((s.set i h1).set j h2) ⟨a, b, rfl, rfl⟩ (wipe2 hij)⟩)
    (fun W' σ2 H' d ρ2 R Q s hI b hT q => by
      obtain ⟨a, c, rfl, rfl⟩ := b
      exact q true H' (Up.refl _) hI hT) (fun s Hb C cl fp W' σ2 H' d ρ2 se b => by
      obtain ⟨a, c, rfl, rfl⟩ := b
      exact he s Hb C cl fp W' σ2 H' a c se) hs
  have e : ∀ ds, mapIf (fun d => un2 (fun _ _ => rt true) d) (un2 f) ds = mapD (un2 f) ds := by
    intro ds
    induction ds with
    | nil => rfl
    | cons d ds ih =>
      funext R
      by_cases hd : ∃ a b, d = .tup [a, b]
      · obtain ⟨a, b, rfl⟩ := hd
        show (un2 f (.tup [a, b]) fun y => mapIf (fun d => un2 (fun _ _ => rt true) d) (un2 f) ds fun ys => R (y :: ys)) = _
        rw [ih]
        rfl
      · have no : ∀ {α : Type} {k : D → D → M α} {R : α → Prop}, un2 k d R = False := fun {α k R} => eq_false fun h => hd (un2_of h)
        show un2 _ d _ = un2 _ d _
        rw [no, no]
  unfold lcIfM at h
  simp only [e] at h
  exact h
/-- .. if c -/
theorem dc_2if (i j : Nat) {x y : Str} {px py pt : Pos} {kt : Nat} {c : Expr} {f : D → D → M D} {t : D → D → M Bool} (hit : Iw T X W (.Tuple [.Name x px, .Name y py] kt pt) iter σ H mi) (hS : Sees T W σ H ρ) (hij : i ≠ j)
    (ht : ∀ (s : Shared) (Hb : Hp) (C : Addr) (cl : List (Str × Addr)) (fp : List Addr) (W' : Wo) σ2 H' d e, Sees T W' σ2 H' (((wipeD ρ [i, j]).set i (some d)).set j (some e)) → Tw (X.blk s Hb scope (compEnvC scope cl C X.env) fp) W' c σ2 H' (t d e))
    (he : ∀ (s : Shared) (Hb : Hp) (C : Addr) (cl : List (Str × Addr)) (fp : List Addr) (W' : Wo) σ2 H' d e, Sees T W' σ2 H' (((wipeD ρ [i, j]).set i (some d)).set j (some e)) → Dw T (X.blk s Hb scope (compEnvC scope cl C X.env) fp) W' elt σ2 H' (f d e))
    (hc : X.calm = true) (hN : X.N.Nodup) (ok : BlkOk X.N X.env.scope scope [(x, i), (y, j)])
    (hg : ∀ (s : Shared) (H : Hp) (C : Addr) (cl : List (Str × Addr)) (fp : List Addr), PG (X.blk s H scope (compEnvC scope cl C X.env) fp) (.Tuple [.Name x px, .Name y py] kt pt) (gTup X.K 2 (gCons (gName i) (gCons (gName j) gNil)))) (hs : ∀ x, foldedSetIterable iter X.env x = pure x := by intro _; rfl) :
    Dc T X W (.ListComp elt [⟨.Tuple [.Name x px, .Name y py] kt pt, iter, [c], 0⟩] scope pc) σ H (lcIfM mi (un2 t) (un2 f)) :=
  dc_core (pc := pc) (own := [(x, i), (y, j)]) (bnd := fun d ρ2 => ∃ a b, d = .tup [a, b] ∧ ρ2 = ((wipeD ρ [i, j]).set i (some a)).set j (some b)) hit hS hc hN ok hg (fun _ _ _ _ _ => pts_one pt_tBx)
    (fun W' H' v d R Q s hv hT q => by
      obtain ⟨a, b, rfl⟩ := un2_of hT
      cases hv with | tup n e hs =>
      obtain ⟨u, w, rfl, h1, h2⟩ := iss2 hs
      exact ⟨_, _, rfl, SqT.of e, rfl, u, _, rfl, w, _, rfl, rfl, q _ _ ((s.set i h1).set j h2) ⟨a, b, rfl, rfl⟩ (wipe2 hij)⟩)
    (fun W' σ2 H' d ρ2 R Q se hI b hT q s Hb C cl fp => by
      obtain ⟨a, e, rfl, rfl⟩ := b
      obtain ⟨te, pe, ev⟩ := ht s Hb C cl fp W' σ2 H' a e se R hT
      exact ⟨te, pe, ev H' (Up.refl _) hI Q q⟩) (fun s Hb C cl fp W' σ2 H' d ρ2 se b => by
      obtain ⟨a, c, rfl, rfl⟩ := b
      exact he s Hb C cl fp W' σ2 H' a c se) hs
end
end Uv
set_option Elab.async false
set_option linter.all false
set_option maxRecDepth 100000
set_option maxHeartbeats 4000000
namespace Uv
open PySem L2 Inn PySem.Spec PyProof.Rows
/-! ### loops by what they ask -/
def forC {S : Type} (f : D → S → (S → Prop) → (S → Prop) → Prop) (k : S → Prop) : List D → S → Prop
  | [], s => k s
  | d :: ds, s => f d s (fun s' => forC f k ds s') k
def loopC {S : Type} (c : S → M Bool) (f : S → (S → Prop) → (S → Prop) → Prop) (k : S → Prop) : Nat → S → Prop
  | 0, _ => False
  | n + 1, s => c s fun b => ite2 b (f s (loopC c f k n) k) (k s)
def whC {S : Type} (c : S → M Bool) (f : S → (S → Prop) → (S → Prop) → Prop) (k : S → Prop) (s : S) : Prop := ∃ n, loopC c f k n s
def un2F {S : Type} (f : D → D → S → (S → Prop) → (S → Prop) → Prop) : D → S → (S → Prop) → (S → Prop) → Prop
  | .tup [x, y], s, nx, bk => f x y s nx bk
  | _, _, _, _ => False
/-- a pair of values is taken apart -/
def un2P (k : D → D → Prop) : D → Prop
  | .tup [x, y] => k x y
  | _ => False
def un3P (k : D → D → D → Prop) : D → Prop
  | .tup [x, y, z] => k x y z
  | _ => False
section
variable {T : Ct} {X : Cx} {W W0 : Wo} {σ : L2.St} {H H0 H1 : Hp} {pos p pc px py pz pt pt2 : Pos} {a b c e iter : Expr} {es : List Expr} {m ma mb : M D} {ml mi : M (List D)} {mt : M Bool} {ρ ρ1 : List (Option D)} {D' : Ends} {sts body be : List Stmt} {nm n1 n2 n3 : Str} {P : D → Prop} {kt k2 : Nat}
theorem Now.join (a : Now T W0 W H0 σ H ρ) {σ1 : L2.St} (b : Now T W W H σ1 H1 ρ1) : Now T W0 W H0 σ1 H1 ρ1 := ⟨fun x o n e => b.up x o (a.rel x o n e) (a.up x o n e), a.rel, b.inv, b.see⟩
theorem Now.base (a : Now T W0 W H0 σ H ρ) : Now T W W H σ H ρ := ⟨Up.refl _, fun _ _ n _ => n, a.inv, a.see⟩
theorem w_set (i : Nat) {pos' : Pos} (n : Now T W0 W H0 σ H ρ) (he : Dw T X W e σ H m) (hm : m P) (nd : X.N.Nodup) (k : ∀ d σ1 H1, Now T W0 W H0 σ1 H1 (ρ.set i (some d)) → P d → Wss X sts D' σ1 H1)
    (hi : X.N[i]? = some nm := by rfl) (hx : Loc X.env.scope nm := by first | exact Or.inl rfl | exact Or.inr rfl) (hs : swapsWith e (some (.Name nm pos')) pos.line X.env = pure false := by rfl) (hf : X.fn nm = true ∨ X.env.scope.names.lookup nm = some .local := by first | exact .inl rfl | exact .inr rfl) :
    Wss X (.Assign [.Name nm pos'] e pos :: sts) D' σ H :=
  ⟨_, pss_cons (ps_set nd hi hx pe_any hs hf) wss_all, he.go hm (Up.refl _) n.inv fun v H1 d u i1 hd pd => k d _ H1 ((n.go u i1).set i hd) pd⟩
/-- name = [..] -/
theorem w_setC (i : Nat) {pos' : Pos} (n : Now T W0 W H0 σ H ρ) (he : Dc T X W e σ H m) (hm : m P) (k : ∀ d σ1 H1, Now T W0 W H0 σ1 H1 (ρ.set i (some d)) → P d → Wss X sts D' σ1 H1)
    (hi : X.N[i]? = some nm := by rfl) (hx : X.env.scope.names.lookup nm = some .local := by rfl) (hs : swapsWith e (some (.Name nm pos')) pos.line X.env = pure true := by rfl) :
    Wss X (.Assign [.Name nm pos'] e pos :: sts) D' σ H := by
  obtain ⟨te, pe, ps, ev⟩ := he P hm
  exact ⟨_, pss_cons (ps hi hx hs) wss_all, ev H (Up.refl _) n.inv _ fun v H1 d u i1 hd pd => k d _ H1 ((n.go u i1).set i hd) pd⟩
theorem w_ret (n : Now T W0 W H0 σ H ρ) (he : Dw T X W e σ H m) (hm : m P) (k : ∀ d v H1, P d → Up W.toWld H H1 → W.I H1 → Is T W H1 v d → D'.rt v H1) : Wss X (.Return (some e) pos :: sts) D' σ H :=
  ⟨_, pss_cons (ps_ret pe_any) wss_all, he.go hm (Up.refl _) n.inv fun v H1 d u i1 hd pd => k d v H1 pd u i1 hd⟩
theorem w_retN (n : Now T W0 W H0 σ H ρ) (k : D'.rt .non H) : Wss X (.Return none pos :: sts) D' σ H := ⟨_, pss_cons ps_retN wss_all, k⟩
theorem w_nil (k : D'.nx σ H) : Wss X [] D' σ H := ⟨_, pss_nil, k⟩
theorem w_pass (k : Wss X sts D' σ H) : Wss X (.Pass pos :: sts) D' σ H := ⟨_, pss_cons ps_pass wss_all, k⟩
theorem w_break (k : D'.bk σ H) : Wss X (.Break pos :: sts) D' σ H := ⟨_, pss_cons ps_break wss_all, k⟩
theorem w_cont (k : D'.ct σ H) : Wss X (.Continue pos :: sts) D' σ H := ⟨_, pss_cons ps_continue wss_all, k⟩
/-- a value is dropped -/
theorem w_expr (n : Now T W0 W H0 σ H ρ) (he : Dw T X W e σ H m) (hm : m P) (k : ∀ d H1, Now T W0 W H0 σ H1 ρ → P d → Wss X sts D' σ H1) (hs : swapsWith e none pos.line X.env = pure false := by rfl) : Wss X (.Expr e pos :: sts) D' σ H :=
  ⟨_, pss_cons (ps_expr pe_any hs) wss_all, he.go hm (Up.refl _) n.inv fun v H1 d u i1 hd pd => k d H1 (n.go u i1) pd⟩
theorem w_if {A B : Prop} (n : Now T W0 W H0 σ H ρ) (hc : Tw X W c σ H mt) (hm : mt fun b => ite2 b A B) (k1 : ∀ H1, Now T W0 W H0 σ H1 ρ → A → Wss X body { D' with nx := fun σ' H' => Wss X sts D' σ' H' } σ H1)
    (k2 : ∀ H1, Now T W0 W H0 σ H1 ρ → B → Wss X be { D' with nx := fun σ' H' => Wss X sts D' σ' H' } σ H1) : Wss X (.If c body be pos :: sts) D' σ H :=
  ⟨_, pss_cons (ps_if pt_any wss_all wss_all) wss_all, hc.go hm (Up.refl _) n.inv fun b H1 u i1 pb => by
    cases b with
    | true =>
      rw [if_pos rfl]
      exact k1 H1 (n.go u i1) pb
    | false =>
      rw [if_neg Bool.false_ne_true]
      exact k2 H1 (n.go u i1) pb⟩
/-- a, b = x, y -/
def setS (i : Nat) (v : V) (σ : L2.St) : L2.St := σ.set i (some v)
theorem w_par (i j : Nat) {P : List D → Prop} (n : Now T W0 W H0 σ H ρ) (ha : Lw T X W [a, b] σ H ml) (hm : ml P) (hc : X.calm = true) (nd : X.N.Nodup)
    (k : ∀ d1 d2 σ1 H1, Now T W0 W H0 σ1 H1 ((ρ.set i (some d1)).set j (some d2)) → P [d1, d2] → Wss X sts D' σ1 H1) (hl : ∀ xs, P xs → xs.length = 2) (hi : X.N[i]? = some n1 := by rfl) (hj : X.N[j]? = some n2 := by rfl) (hij : i ≠ j := by decide)
    (hx : X.env.scope.names.lookup n1 = some .local := by rfl) (hy : X.env.scope.names.lookup n2 = some .local := by rfl)
    (hw : swappedStores [.Tuple [.Name n1 px, .Name n2 py] kt pt] (.Tuple [a, b] k2 pt2) X.env = pure (some [n1, n2]) := by rfl)
    (hs : swapsWithSole [.Tuple [.Name n1 px, .Name n2 py] kt pt] (.Tuple [a, b] k2 pt2) pos.line X.env = pure false := by rfl) :
    Wss X (.Assign [.Tuple [.Name n1 px, .Name n2 py] kt pt] (.Tuple [a, b] k2 pt2) pos :: sts) D' σ H := by
  refine ⟨_, pss_cons (ps_par hc nd hi hj hij hx hy pa_any hw hs) wss_all, ha.go hm (Up.refl _) n.inv fun vs H1 ds u i1 hd pd => ?_⟩
  have e := hl ds pd
  match ds, e with
  | [d1, d2], _ =>
    obtain ⟨v, w, rfl, h1, h2⟩ := iss2 hd
    exact ⟨v, w, rfl, k d1 d2 _ H1 (((n.go u i1).set i h1).set j h2) pd⟩
theorem w_par3 (i j l : Nat) {P : List D → Prop} (n : Now T W0 W H0 σ H ρ) (ha : Lw T X W [a, b, c] σ H ml) (hm : ml P) (hc : X.calm = true) (nd : X.N.Nodup)
    (k : ∀ d1 d2 d3 σ1 H1, Now T W0 W H0 σ1 H1 (((ρ.set i (some d1)).set j (some d2)).set l (some d3)) → P [d1, d2, d3] → Wss X sts D' σ1 H1) (hl : ∀ xs, P xs → xs.length = 3) (hi : X.N[i]? = some n1 := by rfl) (hj : X.N[j]? = some n2 := by rfl) (hl' : X.N[l]? = some n3 := by rfl) (hij : i ≠ j := by decide) (hil : i ≠ l := by decide) (hjl : j ≠ l := by decide)
    (hx : X.env.scope.names.lookup n1 = some .local := by rfl) (hy : X.env.scope.names.lookup n2 = some .local := by rfl) (hz : X.env.scope.names.lookup n3 = some .local := by rfl)
    (hw : swappedStores [.Tuple [.Name n1 px, .Name n2 py, .Name n3 pz] kt pt] (.Tuple [a, b, c] k2 pt2) X.env = pure (some [n1, n2, n3]) := by rfl)
    (hs : swapsWithSole [.Tuple [.Name n1 px, .Name n2 py, .Name n3 pz] kt pt] (.Tuple [a, b, c] k2 pt2) pos.line X.env = pure false := by rfl) :
    Wss X (.Assign [.Tuple [.Name n1 px, .Name n2 py, .Name n3 pz] kt pt] (.Tuple [a, b, c] k2 pt2) pos :: sts) D' σ H := by
  refine ⟨_, pss_cons (ps_par3 hc nd hi hj hl' hij hil hjl hx hy hz pa_any hw hs) wss_all, ha.go hm (Up.refl _) n.inv fun vs H1 ds u i1 hd pd => ?_⟩
  have e := hl ds pd
  match ds, e with
  | [d1, d2, d3], _ =>
    cases hd with | cons h1 t =>
    obtain ⟨v, w, rfl, h2, h3⟩ := iss2 t
    exact ⟨_, v, w, rfl, k d1 d2 d3 _ H1 ((((n.go u i1).set i h1).set j h2).set l h3) pd⟩
/-- targets that are names -/
inductive Tgs (X : Cx) : List Expr → List Nat → TGs → Prop where
  | nil : Tgs X [] [] gNil
  | cons {x : Str} {i : Nat} {ts : List Expr} {is : List Nat} {g : TGs} {q : Pos} (hi : X.N[i]? = some x) (hx : L2.Loc X.env.scope x) (hf : X.fn x = true ∨ X.env.scope.names.lookup x = some .local) (ha : (assignEach (.Name x q :: ts) X.env).map (·.2) = assign (.Name x q) X.env :: (assignEach ts X.env).map (·.2)) (r : Tgs X ts is g) : Tgs X (.Name x q :: ts) (i :: is) (gCons (gName i) g)
def setMany : List Nat → List D → List (Option D) → List (Option D)
  | i :: is, d :: ds, ρ => setMany is ds (ρ.set i (some d))
  | _, _, ρ => ρ
theorem tgs_pgs (nd : X.N.Nodup) : ∀ {ts : List Expr} {is : List Nat} {g : TGs}, Tgs X ts is g → PGs X ts g
  | _, _, _, .nil => pgs_nil
  | _, _, _, .cons hi hx hf ha r => pgs_cons (pg_name nd hi hx hf) (tgs_pgs nd r) ha
theorem tgs_go : ∀ {ts : List Expr} {is : List Nat} {g : TGs} {vs : List V} {ds : List D} {σ : L2.St} {ρ : List (Option D)} {Q : L2.St → Hp → Prop}, Tgs X ts is g → is.length = ds.length → Iss T W H1 vs ds → Sees T W σ H1 ρ → (∀ σ1, Sees T W σ1 H1 (setMany is ds ρ) → Q σ1 H1) → g vs σ H1 Q
  | _, _, _, _, _, _, _, _, .nil, hl, hv, s, q => by
    cases hv with
    | nil => exact ⟨rfl, q _ s⟩
    | cons _ _ => cases hl
  | _, _, _, _, _, _, _, _, .cons hi hx hf ha r, hl, hv, s, q => by
    cases hv with
    | nil => cases hl
    | cons h t => exact ⟨_, _, rfl, tgs_go r (Nat.succ.inj hl) t (s.set _ h) q⟩
/-- a, b, .. = e -/
def unP (n : Nat) (k : List D → Prop) : D → Prop
  | .tup l => l.length = n ∧ k l
  | _ => False
theorem w_unp {ts : List Expr} {is : List Nat} {g : TGs} {P : List D → Prop} (n : Now T W0 W H0 σ H ρ) (tg : Tgs X ts is g) (he : Dw T X W e σ H m) (hm : m (unP is.length P)) (nd : X.N.Nodup) (hc : X.calm = true)
    (k : ∀ ds σ1 H1, ds.length = is.length → Now T W0 W H0 σ1 H1 (setMany is ds ρ) → P ds → Wss X sts D' σ1 H1) (hn : (assignEach ts X.env).length = is.length := by rfl) (hst : (assignEach ts X.env).findIdx? (·.1) = none := by rfl)
    (hs : swapsWithSole [.Tuple ts kt pt] e pos.line X.env = pure false := by rfl) (hw : swappedStores [.Tuple ts kt pt] e X.env = pure none := by rfl) (h1 : (assignEach [.Tuple ts kt pt] X.env).map (·.2) = [assign (.Tuple ts kt pt) X.env] := by rfl) : Wss X (.Assign [.Tuple ts kt pt] e pos :: sts) D' σ H := by
  refine ⟨_, pss_cons (ps_asg pe_any (pg_tup (n := is.length) hc (tgs_pgs nd tg) hn hst) hs hw h1) wss_all, he.go hm (Up.refl _) n.inv fun v H1 d u i1 hd pd => ?_⟩
  unfold unP at pd
  split at pd
  · obtain ⟨hl, pd⟩ := pd
    cases hd with | tup nM ee hv =>
    exact ⟨_, _, rfl, SqT.of ee, hv.len.trans hl, tgs_go tg hl.symm hv (n.see.up u) fun σ1 s1 => k _ σ1 H1 hl ⟨(n.go u i1).up, n.rel, i1, s1⟩ pd⟩
  · exact pd.elim
/-! ### for -/
theorem w_for {S : Type} {tg : Expr} {g : TG} {ρs : S → List (Option D)} {ρb : S → D → List (Option D) → Prop} {f : D → S → (S → Prop) → (S → Prop) → Prop} {kk : S → Prop} (s0 : S) (n : Now T W0 W H0 σ H ρ) (hit : Iw T X W tg iter σ H mi) (hm : mi fun ds => forC f kk ds s0) (hp : PassesOwn (model X.prog X.w) X.A X.env X.xe) (hc : X.calm = true) (hg : PG X tg g)
    (htg : ∀ s d σ1 H1 v nx bk Q, Sees T W σ1 H1 (ρs s) → Is T W H1 v d → f d s nx bk → (∀ σ2 ρ2, Sees T W σ2 H1 ρ2 → ρb s d ρ2 → Q σ2 H1) → g v σ1 H1 Q)
    (h0 : ∀ H2, Now T W0 W H0 σ H2 ρ → Now T W0 W H0 σ H2 (ρs s0))
    (hs : ∀ H2, Now T W0 W H0 σ H2 ρ → ∀ d s nx bk (Nx Bk : L2.St → Hp → Prop) σ1 H1 ρ2, Now T W W H2 σ1 H1 ρ2 → ρb s d ρ2 → (∀ s2 σ2 H3, Now T W W H2 σ2 H3 (ρs s2) → nx s2 → Nx σ2 H3) → (∀ s2 σ2 H3, Now T W W H2 σ2 H3 (ρs s2) → bk s2 → Bk σ2 H3) → f d s nx bk → Wss X body { D' with nx := Nx, ct := Nx, bk := Bk } σ1 H1)
    (hd : ∀ s σ1 H1, Now T W0 W H0 σ1 H1 (ρs s) → kk s → Wss X sts D' σ1 H1) (hfs : ∀ x, foldedSetIterable iter X.env x = pure x := by intro _; rfl) : Wss X (.For tg iter body [] pos :: sts) D' σ H := by
  obtain ⟨wi, pi, vi⟩ := hit _ hm
  refine ⟨_, pss_cons (ps_for hp hc pi hg wss_all hfs) wss_all, vi H (Up.refl _) n.inv _ fun J H2 ds G Y u2 i2 wk src hr => ?_⟩
  have nO := n.go u2 i2
  have back : ∀ {s σ1 H1}, Now T W W H2 σ1 H1 (ρs s) → Now T W0 W H0 σ1 H1 (ρs s) := fun b => nO.join b
  refine for_it wk (fun i σ1 H1 => ∃ s, Now T W W H2 σ1 H1 (ρs s) ∧ forC f kk (ds.drop i) s) ⟨s0, (h0 H2 nO).base, by simpa using hr⟩ (fun i σ1 H1 _ hp => ?_) (fun i x σ1 H1 H3 hi hp hy => ?_) (fun σ1 H1 hp => ?_)
  · obtain ⟨s, ns, _⟩ := hp
    exact src.st H1 ns.up
  · obtain ⟨s, ns, pm⟩ := hp
    obtain ⟨d, hd', got⟩ := src.yl i H1 x H3 hi ns.up hy
    have hdrop : ds.drop i = d :: ds.drop (i + 1) := by
      rw [List.drop_eq_getElem_cons hi]
      rw [List.getElem?_eq_getElem hi] at hd'
      rw [Option.some.inj hd']
    rw [hdrop] at pm
    have item : Is T W H3 x d ∧ Up W.toWld H1 H3 ∧ W.I H3 := by
      rcases got with ⟨rfl, h⟩ | ⟨p, zs, l, rfl, rfl, hn, rfl, h⟩
      · exact ⟨h.up ns.up, Up.refl _, ns.inv⟩
      · exact ⟨.tup (not_M ns.inv hn) upd_same (Iss.up (Up.new hn) (h.up ns.up)), Up.new hn, I_new ns.inv hn⟩
    obtain ⟨hx, ux, ix⟩ := item
    have n3 := ns.go ux ix
    refine htg s d σ1 H3 x _ _ _ n3.see hx pm fun σ2 ρ2 s2 b2 => ?_
    exact hs H2 nO d s _ _ _ _ σ2 H3 ρ2 ⟨n3.up, n3.rel, ix, s2⟩ b2 (fun s2 σ3 H4 n4 h4 => ⟨s2, n4, h4⟩) (fun s2 σ3 H4 n4 h4 => hd s2 σ3 H4 (back n4) h4) pm
  · obtain ⟨s, ns, pm⟩ := hp
    rw [List.drop_length] at pm
    exact hd s σ1 H1 (back ns) pm
/-- for x in it -/
theorem w_for1 {S : Type} (i : Nat) {x : Str} (ρs : S → List (Option D)) {f : D → S → (S → Prop) → (S → Prop) → Prop} {kk : S → Prop} (s0 : S) (n : Now T W0 W H0 σ H ρ) (hit : Iw T X W (.Name x px) iter σ H mi) (hm : mi fun ds => forC f kk ds s0) (nd : X.N.Nodup) (hp : PassesOwn (model X.prog X.w) X.A X.env X.xe) (hc : X.calm = true)
    (h0 : ∀ H2, Now T W0 W H0 σ H2 ρ → Now T W0 W H0 σ H2 (ρs s0))
    (hs : ∀ H2, Now T W0 W H0 σ H2 ρ → ∀ d s nx bk (Nx Bk : L2.St → Hp → Prop) σ1 H1, Now T W W H2 σ1 H1 ((ρs s).set i (some d)) → (∀ s2 σ2 H3, Now T W W H2 σ2 H3 (ρs s2) → nx s2 → Nx σ2 H3) → (∀ s2 σ2 H3, Now T W W H2 σ2 H3 (ρs s2) → bk s2 → Bk σ2 H3) → f d s nx bk → Wss X body { D' with nx := Nx, ct := Nx, bk := Bk } σ1 H1)
    (hd : ∀ s σ1 H1, Now T W0 W H0 σ1 H1 (ρs s) → kk s → Wss X sts D' σ1 H1) (hN : X.N[i]? = some x := by rfl) (hx : L2.Loc X.env.scope x := by first | exact Or.inl rfl | exact Or.inr rfl) (hf : X.fn x = true ∨ X.env.scope.names.lookup x = some .local := by first | exact .inl rfl | exact .inr rfl)
    (hfs : ∀ x, foldedSetIterable iter X.env x = pure x := by intro _; rfl) : Wss X (.For (.Name x px) iter body [] pos :: sts) D' σ H :=
  w_for (ρb := fun s d ρ2 => ρ2 = (ρs s).set i (some d)) s0 n hit hm hp hc (pg_name (i := i) nd hN hx hf) (fun s d σ1 H1 v nx bk Q se hv _ q => q _ _ (se.set i hv) rfl) h0
    (fun H2 nO d s nx bk Nx Bk σ1 H1 ρ2 n2 e h1 h2 h3 => by subst e; exact hs H2 nO d s nx bk Nx Bk σ1 H1 n2 h1 h2 h3) hd hfs
/-- for x, y in it -/
theorem w_for2 {S : Type} (i j : Nat) {x y : Str} (ρs : S → List (Option D)) {f : D → D → S → (S → Prop) → (S → Prop) → Prop} {kk : S → Prop} (s0 : S) (n : Now T W0 W H0 σ H ρ) (hit : Iw T X W (.Tuple [.Name x px, .Name y py] kt pt) iter σ H mi) (hm : mi fun ds => forC (un2F f) kk ds s0) (nd : X.N.Nodup) (hp : PassesOwn (model X.prog X.w) X.A X.env X.xe) (hc : X.calm = true)
    (h0 : ∀ H2, Now T W0 W H0 σ H2 ρ → Now T W0 W H0 σ H2 (ρs s0))
    (hs : ∀ H2, Now T W0 W H0 σ H2 ρ → ∀ d e s nx bk (Nx Bk : L2.St → Hp → Prop) σ1 H1, Now T W W H2 σ1 H1 (((ρs s).set i (some d)).set j (some e)) → (∀ s2 σ2 H3, Now T W W H2 σ2 H3 (ρs s2) → nx s2 → Nx σ2 H3) → (∀ s2 σ2 H3, Now T W W H2 σ2 H3 (ρs s2) → bk s2 → Bk σ2 H3) → f d e s nx bk → Wss X body { D' with nx := Nx, ct := Nx, bk := Bk } σ1 H1)
    (hd : ∀ s σ1 H1, Now T W0 W H0 σ1 H1 (ρs s) → kk s → Wss X sts D' σ1 H1) (hN1 : X.N[i]? = some x := by rfl) (hN2 : X.N[j]? = some y := by rfl) (hx1 : L2.Loc X.env.scope x := by first | exact Or.inl rfl | exact Or.inr rfl) (hx2 : L2.Loc X.env.scope y := by first | exact Or.inl rfl | exact Or.inr rfl)
    (hf1 : X.fn x = true ∨ X.env.scope.names.lookup x = some .local := by first | exact .inl rfl | exact .inr rfl) (hf2 : X.fn y = true ∨ X.env.scope.names.lookup y = some .local := by first | exact .inl rfl | exact .inr rfl)
    (ha1 : (assignEach (.Name x px :: [.Name y py]) X.env).map (·.2) = assign (.Name x px) X.env :: (assignEach [.Name y py] X.env).map (·.2) := by rfl) (ha2 : (assignEach (.Name y py :: []) X.env).map (·.2) = assign (.Name y py) X.env :: (assignEach [] X.env).map (·.2) := by rfl)
    (hn : (assignEach [.Name x px, .Name y py] X.env).length = 2 := by rfl) (hst : (assignEach [.Name x px, .Name y py] X.env).findIdx? (·.1) = none := by rfl)
    (hfs : ∀ x, foldedSetIterable iter X.env x = pure x := by intro _; rfl) : Wss X (.For (.Tuple [.Name x px, .Name y py] kt pt) iter body [] pos :: sts) D' σ H :=
  w_for (ρb := fun s d ρ2 => ∃ a b, d = .tup [a, b] ∧ ρ2 = ((ρs s).set i (some a)).set j (some b)) s0 n hit hm hp hc (pg_tup hc (pgs_cons (pg_name (i := i) nd hN1 hx1 hf1) (pgs_cons (pg_name (i := j) nd hN2 hx2 hf2) pgs_nil ha2) ha1) hn hst)
    (fun s d σ1 H1 v nx bk Q se hv h q => by
      unfold un2F at h
      split at h
      · cases hv with | tup nM e hs =>
        obtain ⟨u, w, rfl, h1, h2⟩ := iss2 hs
        exact ⟨_, _, rfl, SqT.of e, rfl, u, _, rfl, w, _, rfl, rfl, q _ _ ((se.set i h1).set j h2) ⟨_, _, rfl, rfl⟩⟩
      · exact h.elim) h0
    (fun H2 nO d s nx bk Nx Bk σ1 H1 ρ2 n2 e h1 h2 h3 => by
      obtain ⟨a, b, rfl, rfl⟩ := e
      exact hs H2 nO a b s nx bk Nx Bk σ1 H1 n2 h1 h2 h3) hd hfs
/-- while c -/
theorem w_while {S : Type} (ρs : S → List (Option D)) {cm : S → M Bool} {f : S → (S → Prop) → (S → Prop) → Prop} {kk : S → Prop} (s0 : S) (n : Now T W0 W H0 σ H ρ) (hm : whC cm f kk s0) (hp : PassesOwn (model X.prog X.w) X.A X.env X.xe)
    (h0 : Now T W0 W H0 σ H (ρs s0)) (hc : ∀ s σ1 H1, Now T W0 W H0 σ1 H1 (ρs s) → Tw X W c σ1 H1 (cm s))
    (hs : ∀ s nx bk (Nx Bk : L2.St → Hp → Prop) σ1 H1, Now T W0 W H0 σ1 H1 (ρs s) → (∀ s2 σ2 H3, Now T W0 W H0 σ2 H3 (ρs s2) → nx s2 → Nx σ2 H3) → (∀ s2 σ2 H3, Now T W0 W H0 σ2 H3 (ρs s2) → bk s2 → Bk σ2 H3) → f s nx bk → Wss X body { D' with nx := Nx, ct := Nx, bk := Bk } σ1 H1)
    (hd : ∀ s σ1 H1, Now T W0 W H0 σ1 H1 (ρs s) → kk s → Wss X sts D' σ1 H1) : Wss X (.While c body [] pos :: sts) D' σ H := by
  obtain ⟨n0, hm⟩ := hm
  have hpt : PT X c (ttAny X c) := pt_any
  refine ⟨_, pss_cons (ps_while hp hpt wss_all) wss_all, fun m σ1 H1 => ∃ s, Now T W0 W H0 σ1 H1 (ρs s) ∧ loopC cm f kk m s, ⟨n0, s0, h0, hm⟩, fun m σ1 H1 hw => ?_⟩
  obtain ⟨s, ns, hl⟩ := hw
  cases m with
  | zero => exact hl.elim
  | succ m =>
    refine (hc s σ1 H1 ns).go hl (Up.refl _) ns.inv fun b H2 u2 i2 pb => ?_
    cases b with
    | true => exact ⟨_, fun σ2 H2 z => z, hs s _ _ _ _ σ1 H2 (ns.go u2 i2) (fun s2 σ2 H3 n3 h3 => ⟨m, Nat.lt_succ_self m, s2, n3, h3⟩) (fun s2 σ2 H3 n3 h3 => hd s2 σ2 H3 n3 h3) pb⟩
    | false => exact hd s σ1 H2 (ns.go u2 i2) pb
end
end Uv
set_option Elab.async false
set_option linter.all false
set_option maxRecDepth 100000
set_option maxHeartbeats 4000000
namespace Uv
open PySem L2 Inn PySem.Spec PyProof.Rows
/-! ### promises -/
/-- a def asks s of its arguments; fr: all that it tells is new -/
def SpD (T : Ct) (fr : Bool) (n : Nat) (s : List D → M D) : Sp := fun vs H Q _ => ∃ (W : Wo) (ds : List D) (R : D → Prop), Iss T W H vs ds ∧ ds.length = n ∧ W.I H ∧ s ds R ∧
  ∀ y u H', R y → Up W.toWld H H' → W.I H' → Is T W H' u y → (fr = true → IsD T (fun a => W.M a ∨ ∃ o, H a = some o) W.P H' u y) → Q u H'
def startD (N : List Str) (ds : List D) : List (Option D) := ds.map some ++ List.replicate (N.length - ds.length) none
section
variable {T : Ct} {P : Program} {w : World} {K : PySem.W.Frag} {mg : Str → Option Value} {base : Heap} {x qual : Str} {st : Stmt} {f C : Addr} {fd : FuncData} {N ps : List Str} {k n : Nat} {fr : Bool} {s : List D → M D} {dvs : List V} {kws : List (Str × V)}
theorem spD_len {vs : List V} {H : Hp} {Q : VK} {E : XK} (h : SpD T fr n s vs H Q E) : vs.length = n := by
  obtain ⟨W, ds, R, h1, h2, _⟩ := h
  rw [h1.len, h2]
theorem sees_start {W : Wo} {H : Hp} {vs : List V} {ds : List D} (h : Iss T W H vs ds) : Sees T W (L2.start N vs) H (startD N ds) := by
  have hl := h.len
  refine ⟨by unfold L2.start startD; simp [hl], fun i d e => ?_⟩
  unfold startD at e
  unfold L2.start
  by_cases hi : i < ds.length
  · rw [List.getElem?_append_left (by simpa using hi), List.getElem?_map] at e
    rw [List.getElem?_append_left (by simpa [hl] using hi), List.getElem?_map]
    cases e2 : ds[i]? with
    | none => rw [e2] at e; cases e
    | some z =>
      rw [e2] at e
      cases e
      obtain ⟨v, h1, h2⟩ := h.get e2
      exact ⟨v, by rw [h1]; rfl, h2⟩
  · rw [List.getElem?_append_right (by simpa using hi)] at e
    rw [List.getElem?_replicate] at e
    split at e <;> cases e
/-- the body of a def -/
theorem fn_D (F : FunD K x qual (defArgs st) (defBody st) (defScope st) dvs kws f fd) (S : FnScope N ps (defScope st)) (hn : ps.length = n)
    (body : ∀ (cdv : Value) (A' : Around) (outer : List Env) (s0 : Shared) (H : Hp) (E : XK) (W : Wo) (vs : List V) (ds : List D) (R : D → Prop) (Q : VK), Room k (A'.deeper (envOfC qual (defScope st) s0.heap.objs.size f cdv)) → Now T W W H (L2.start N vs) H (startD N ds) → s ds R →
      (∀ y u H', R y → Up W.toWld H H' → W.I H' → Is T W H' u y → (fr = true → IsD T (fun a => W.M a ∨ ∃ o, H a = some o) W.P H' u y) → Q u H') →
      Wss (cxOf CX0 P w K mg base N qual (defScope st) f cdv A' outer s0 H E).nox (defBody st) { nx := fun _ H' => Q .non H', rt := Q } (L2.start N vs) H) :
    FnOk P w K mg base CX0 (k + 1) f fd ps (SpD T fr n s) :=
  F.ok S (fun vs H Q E h => (spD_len h).trans hn.symm) fun cdv A' outer s0 H vs Q E hr ⟨W, ds, R, h1, h2, hI, hm, q⟩ => by
    obtain ⟨t, p, z⟩ := body cdv A' outer s0 H E W vs ds R Q hr ⟨Up.refl _, fun _ _ m _ => m, hI, sees_start h1⟩ hm q
    refine ⟨t, ?_, z⟩
    exact PSs.nox p
/-- .. of a def that shows texts of lists -/
theorem fn_DG (F : Fun K x qual st f fd) (S : FnScope N ps (defScope st)) (hn : ps.length = n)
    (body : ∀ (cdv : Value) (A' : Around) (outer : List Env) (s0 : Shared) (H : Hp) (W : Wo) (vs : List V) (ds : List D) (R : D → Prop) (Q : VK), A'.guards = some [] → Room k (A'.deeper (envOfC qual (defScope st) s0.heap.objs.size f cdv)) → Now T W W H (L2.start N vs) H (startD N ds) → s ds R →
      (∀ y u H', R y → Up W.toWld H H' → W.I H' → Is T W H' u y → (fr = true → IsD T (fun a => W.M a ∨ ∃ o, H a = some o) W.P H' u y) → Q u H') →
      Wss (cxOf CX0 P w K mg base N qual (defScope st) f cdv A' outer s0 H E0).nox (defBody st) { nx := fun _ H' => Q .non H', rt := Q } (L2.start N vs) H) :
    FnG P w K mg base (k + 1) f fd ps (SpD T fr n s) :=
  fnG_of F S (fun vs H Q E h => (spD_len h).trans hn.symm) fun cdv A' outer s0 H vs Q hG hr ⟨W, ds, R, h1, h2, hI, hm, q⟩ => body cdv A' outer s0 H W vs ds R Q hG hr ⟨Up.refl _, fun _ _ m _ => m, hI, sees_start h1⟩ hm q
end
/-- a def of the module; one that shows lists; .. called by names too: n0 by place, the names ks, then by π in the sequence of the parameters -/
structure DefD (T : Ct) (P : Program) (w : World) (K : PySem.W.Frag) (mg : Str → Option Value) (base : Heap) (k : Nat) (nm : Str) (fr : Bool) (n : Nat) (s : List D → M D) : Prop where
  ex : ∃ f fd ps, FnOk P w K mg base CX0 k f fd ps (SpD T fr n s) ∧ mg nm = some (.ref f) ∧ PySem.W.keepIn K (.ref f) = true ∧ Binds K fd ps []
  len : ∀ ds R, s ds R → ds.length = n
structure DefDG (T : Ct) (P : Program) (w : World) (K : PySem.W.Frag) (mg : Str → Option Value) (base : Heap) (k : Nat) (nm : Str) (fr : Bool) (n : Nat) (s : List D → M D) : Prop where
  ex : ∃ f fd ps, FnG P w K mg base k f fd ps (SpD T fr n s) ∧ mg nm = some (.ref f) ∧ PySem.W.keepIn K (.ref f) = true ∧ Binds K fd ps []
  len : ∀ ds R, s ds R → ds.length = n
def arr {α : Type} (π : List Nat) (l : List α) : List α := π.filterMap (l[·]?)
structure DefK (T : Ct) (P : Program) (w : World) (K : PySem.W.Frag) (mg : Str → Option Value) (base : Heap) (k : Nat) (nm : Str) (fr : Bool) (n0 : Nat) (ks : List Str) (π : List Nat) (n : Nat) (s : List D → M D) : Prop where
  ex : ∃ f fd ps, FnOk P w K mg base CX0 k f fd ps (SpD T fr n s) ∧ mg nm = some (.ref f) ∧ PySem.W.keepIn K (.ref f) = true ∧ KwF K fd ps n0 ks (fun a b => arr π (a ++ b))
  len : ∀ ds R, s ds R → ds.length = n
section
variable {T : Ct} {N Pt : Addr → Prop} {H : Hp}
theorem IsDs.arr {vs : List V} {ds : List D} (h : IsDs T N Pt H vs ds) : ∀ π : List Nat, IsDs T N Pt H (Uv.arr π vs) (Uv.arr π ds)
  | [] => .nil
  | i :: π => by
    unfold Uv.arr
    cases e : ds[i]? with
    | none =>
      have e2 : vs[i]? = none := List.getElem?_eq_none_iff.mpr (by rw [h.len]; exact List.getElem?_eq_none_iff.mp e)
      rw [List.filterMap_cons_none e, List.filterMap_cons_none e2]
      exact IsDs.arr h π
    | some d =>
      obtain ⟨v, e2, hv⟩ := h.get e
      rw [List.filterMap_cons_some e, List.filterMap_cons_some e2]
      exact .cons hv (IsDs.arr h π)
end
theorem Vals.arr {vs : List V} {us : List Value} (r : Vals vs us) : ∀ π : List Nat, Vals (Uv.arr π vs) (Uv.arr π us)
  | [] => .nil
  | i :: π => by
    unfold Uv.arr
    cases e : vs[i]? with
    | none =>
      have e2 : us[i]? = none := r.none_of e
      rw [List.filterMap_cons_none e, List.filterMap_cons_none e2]
      exact Vals.arr r π
    | some d =>
      obtain ⟨v, e2, hv⟩ := r.get e
      rw [List.filterMap_cons_some e, List.filterMap_cons_some e2]
      exact .cons hv (Vals.arr r π)
section
variable {T : Ct} {X : Cx} {W W0 : Wo} {σ : L2.St} {H H0 : Hp} {pos p kpos apos : Pos} {e o : Expr} {es : List Expr} {m mo : M D} {ml : M (List D)} {ρ : List (Option D)} {nm : Str} {fr : Bool} {n n0 k : Nat} {s : List D → M D} {ks : List Str} {π : List Nat} {kws : List Keyword}
theorem call_ev {ta : TA} {R : D → Prop} {Q : VK} {H1 : Hp} (ha : Lw T X W es σ H ml) (hm : opN s ml R) (len : ∀ ds R, s ds R → ds.length = n) (u : Up W.toWld H H1) (hI : W.I H1) (q : ∀ v H2 d, Up W.toWld H1 H2 → W.I H2 → Is T W H2 v d → R d → Q v H2) :
    taAny X es σ H1 fun vs H2 => SpD T fr n s vs H2 Q E0 := ha.go hm u hI fun vs H2 ds u2 i2 hx px => ⟨W, ds, R, hx, len ds R px, i2, px, fun y w H3 hy u3 i3 h3 _ => q w H3 y (u2.trans u3) i3 h3 hy⟩
theorem dw_call (B : DefD T X.prog X.w X.K X.mg X.base k nm fr n s) (hr : Room k X.A) (ha : Lw T X W (e :: es) σ H ml) (hg : Gl X nm := by rfl) (hdb : (nm == ("__debug__" : Str)) = false := by decide)
    (he : starEach (e :: es) X.env = (false, eval e X.env) :: starEach es X.env := by rfl) (hpl : (backTo pos (starEach es X.env)).any (·.1) = false := by rfl) : Dw T X W (.Call (.Name nm p) (e :: es) [] pos) σ H (opN s ml) := by
  obtain ⟨f, fd, ps, F, hm, hk, hb⟩ := B.ex
  refine .of (pe_call (E := E0) F hr hg hm hk hb .nil pass0 pa_any hdb he hpl) fun R hR H1 u hI Q q => ?_
  have h := call_ev (ta := taAny X (e :: es)) (fr := fr) ha hR B.len u hI q
  refine (show _ from ?_)
  obtain ⟨t, pt, z⟩ := h
  refine ⟨t, pt, ?_⟩
  have e : (fun vs H2 => SpD T fr n s (vs ++ []) H2 Q E0) = fun vs H2 => SpD T fr n s vs H2 Q E0 := by
    funext vs H2
    rw [List.append_nil]
  rw [e]
  exact z
theorem dw_call0 (B : DefD T X.prog X.w X.K X.mg X.base k nm fr n s) (hr : Room k X.A) (hg : Gl X nm := by rfl) (hdb : (nm == ("__debug__" : Str)) = false := by decide) : Dw T X W (.Call (.Name nm p) [] [] pos) σ H (s []) := by
  obtain ⟨f, fd, ps, F, hm, hk, hb⟩ := B.ex
  exact .of (pe_call0 (E := E0) F hr hg hm hk hb .nil pass0 hdb) fun R hR H1 u hI Q q => ⟨W, [], R, .nil, B.len _ _ hR, hI, hR, fun y w H3 hy u3 i3 h3 _ => q w H3 y u3 i3 h3 hy⟩
theorem dw_callG (B : DefDG T X.prog X.w X.K X.mg X.base k nm fr n s) (hG : X.A.guards = some []) (hr : Room k X.A) (ha : Lw T X W (e :: es) σ H ml) (hg : Gl X nm := by rfl) (hdb : (nm == ("__debug__" : Str)) = false := by decide)
    (he : starEach (e :: es) X.env = (false, eval e X.env) :: starEach es X.env := by rfl) (hpl : (backTo pos (starEach es X.env)).any (·.1) = false := by rfl) : Dw T X W (.Call (.Name nm p) (e :: es) [] pos) σ H (opN s ml) := by
  obtain ⟨f, fd, ps, F, hm, hk, hb⟩ := B.ex
  have pe : PE X (.Call (.Name nm p) (e :: es) [] pos) (fun σ H Q => taAny X (e :: es) σ H fun vs H1 => SpD T fr n s vs H1 Q E0) := by
    refine ⟨fun pins s0 σ H Q I h => wpAny_Call_Name_kw (ld_glob I hg hm ?_ hdb)⟩
    exact PySem.W.callWith_K (h₀ := X.base) I.ok.mod.kin hk (thn (pa_any.run pos pins s0 σ H _ I h) fun us s1 ⟨vs, H1, I1, rv, q⟩ => ⟨I1.kIn, run_G F hG hr hb I1 rv q⟩) he hpl
  exact .of pe fun R hR H1 u hI Q q => call_ev (ta := taAny X (e :: es)) ha hR B.len u hI q
/-! ### arguments by name -/
def Kw (T : Ct) (X : Cx) (W : Wo) (kws : List Keyword) (σ : L2.St) (H : Hp) (m : M (List D)) : Prop := ∀ R, m R → ∃ ta, PK X kws ta ∧ EvL T W ta σ H fun ds => ds.length = kws.length ∧ R ds
def tkAny (X : Cx) (kws : List Keyword) : TA := fun σ H Q => ∃ t, PK X kws t ∧ t σ H Q
theorem pk_any : PK X kws (tkAny X kws) := ⟨fun pos pins s σ H Q I ⟨t, p, q⟩ => p.run pos pins s σ H Q I q⟩
theorem Kw.go {m : M (List D)} {R : List D → Prop} {H1 : Hp} (h : Kw T X W kws σ H m) (hm : m R) (u : Up W.toWld H H1) (hI : W.I H1) {Q : List V → Hp → Prop} (q : ∀ vs H2 ds, Up W.toWld H1 H2 → W.I H2 → Iss T W H2 vs ds → ds.length = kws.length → R ds → Q vs H2) : tkAny X kws σ H1 Q := by
  obtain ⟨t, p, ev⟩ := h R hm
  exact ⟨t, p, ev H1 u hI Q fun vs H2 ds u2 i2 hs hr => q vs H2 ds u2 i2 hs hr.1 hr.2⟩
theorem k_nil : Kw T X W [] σ H lnil := fun R hm => ⟨_, pk_nil, fun H1 _ hI Q q => q [] H1 [] (Up.refl _) hI .nil ⟨rfl, hm⟩⟩
theorem k_cons {kn : Option Str} (h : Dw T X W e σ H m) (hr : Kw T X W kws σ H ml) : Kw T X W (⟨kn, e, kpos⟩ :: kws) σ H (lcons m ml) := fun R hm =>
  ⟨_, pk_cons pe_any pk_any, fun H1 u hI Q q => h.go hm u hI fun v H2 x u2 i2 hx px => hr.go px (u.trans u2) i2 fun vs H3 xs u3 i3 hxs hl pxs => q (v :: vs) H3 (x :: xs) (u2.trans u3) i3 (.cons (hx.up u3) hxs) ⟨congrArg Nat.succ hl, pxs⟩⟩
theorem dw_callK {kw : Keyword} (B : DefK T X.prog X.w X.K X.mg X.base k nm fr 0 ks π n s) (hr : Room k X.A) (hkw : Kw T X W (kw :: kws) σ H ml) (hkl : (kw :: kws).length = ks.length := by rfl)
    (hg : Gl X nm := by rfl) (hdb : (nm == ("__debug__" : Str)) = false := by decide) (hall : (backToKw pos (keywordEach (kw :: kws) X.env)).all (·.1.isSome) = true := by rfl) (hks : (backToKw pos (keywordEach (kw :: kws) X.env)).filterMap (·.1) = ks := by rfl)
    (hpl : ((backTo pos (starEach [] X.env)).any (·.1) || (backToKw pos (keywordEach (kw :: kws) X.env)).any (·.1.isNone)) = false := by rfl) : Dw T X W (.Call (.Name nm p) [] (kw :: kws) pos) σ H (opN (fun ds => s (arr π ds)) ml) := by
  obtain ⟨f, fd, ps, F, hm, hk, hb⟩ := B.ex
  have pe : PE X (.Call (.Name nm p) [] (kw :: kws) pos) (fun σ H Q => tkAny X (kw :: kws) σ H fun zs H2 => zs.length = ks.length ∧ SpD T fr n s (arr π ([] ++ zs)) H2 Q E0) := by
    refine ⟨fun pins s0 σ H Q I h => ?_⟩
    refine wpAny_Call_Name_kw (ld_glob I hg hm ?_ hdb)
    refine PySem.W.callWith_KW0 (h₀ := X.base) I.ok.mod.kin hk hall (thn (pk_any.run pos pins s0 σ H _ I h) fun ws s2 ⟨zs, H2, I2, rz, l2, q2⟩ => ⟨I2.kIn, ?_⟩) hpl
    rw [hks]
    exact wpAny_call (run_kw F hr hb I2 .nil rz rfl l2 q2)
  exact .of pe fun R hR H1 u hI Q q => hkw.go hR u hI fun vs H2 ds u2 i2 hx hl px => ⟨(hx.len.trans hl).trans hkl, W, arr π ds, R, by rw [List.nil_append]; exact hx.arr π, B.len _ R px, i2, px, fun y w H3 hy u3 i3 h3 _ => q w H3 y (u2.trans u3) i3 h3 hy⟩
end
end Uv
set_option Elab.async false
set_option linter.all false
set_option maxRecDepth 100000
set_option maxHeartbeats 4000000
namespace Uv
open PySem L2 Inn PySem.Spec PyProof.Rows
/-! ### the program's classes -/
/-- types by name -/
inductive Ty where
  | int | bool | str | list | tuple | dict | c (n : Nat)
  deriving DecidableEq
def Ty.nm : Ty → String
  | .int => "int" | .bool => "bool" | .str => "str" | .list => "list" | .tuple => "tuple" | .dict => "dict" | .c _ => ""
def isT : Ty → D → Bool
  | .int, .int _ => true
  | .int, .bl _ => true
  | .bool, .bl _ => true
  | .str, .str _ => true
  | .list, .lst _ => true
  | .tuple, .tup _ => true
  | .dict, .dct _ _ => true
  | .c n, .ins m _ => n == m
  | _, _ => false
def Ty.val (T : Ct) : Ty → Value
  | .c n => .ref (T.at_ n)
  | t => .type t.nm
def Ty.v (T : Ct) : Ty → V
  | .c n => .ref (T.at_ n)
  | t => .ty t.nm
structure ClsD (K : PySem.W.Frag) (T : Ct) (c : Nat) : Prop where
  cl : Cls K (T.at_ c)
  no : ∀ f ∈ T.fs c, NoAttr K (T.at_ c) f
  nd : (T.fs c).Nodup
  few : (T.fs c).length < 1000
  ha : PySem.W.findIn K (.ref (T.at_ c)) "__class__" = some (some (.builtin "object.__class__"))
  hn : PySem.W.specialIn K (.builtin "object.__class__") "__get__" = some (some (.builtin "getset_descriptor.__get__"))
  htk : PySem.W.takesIn K (.builtin "object.__class__") = some true
  hm : PySem.W.mroIn K (T.at_ c) (.type "object") = some true
  kb : ∀ t ∈ ["int", "bool", "str", "list", "tuple", "dict"], PySem.W.kitOne K (.ref (T.at_ c)) (.type t) = some false
  bk : ∀ t ∈ ["int", "bool", "NoneType", "str", "list", "tuple", "dict"], PySem.W.kitOne K (.type t) (.ref (T.at_ c)) = some false
  kc : ∀ c', c' < T.n → PySem.W.kitOne K (.ref (T.at_ c)) (.ref (T.at_ c')) = some (c' == c)
def AllC (K : PySem.W.Frag) (T : Ct) : Prop := ∀ c, c < T.n → ClsD K T c
/-- a value whose type is told -/
def plainD : D → Bool
  | .pot _ => false
  | .cls _ => false
  | _ => true
def tyv (T : Ct) : D → Value
  | .int _ => .type "int" | .bl _ => .type "bool" | .non => .type "NoneType" | .str _ => .type "str" | .lst _ => .type "list" | .tup _ => .type "tuple" | .dct _ _ => .type "dict" | .ins c _ => .ref (T.at_ c)
  | _ => .none
theorem lookup_zip {fs : List Str} (nd : fs.Nodup) : ∀ {us : List V} {i : Nat} {f : Str} {v : V}, fs[i]? = some f → us[i]? = some v → (fs.zip us).lookup f = some v := by
  induction fs with
  | nil => intro us i f v h; simp at h
  | cons g gs ih =>
    intro us i f v h hv
    cases us with
    | nil => simp at hv
    | cons u us =>
      rw [List.zip_cons_cons, List.lookup_cons]
      cases i with
      | zero =>
        simp at h hv
        subst h; subst hv
        simp
      | succ i =>
        have h' : gs[i]? = some f := by simpa using h
        have hv' : us[i]? = some v := by simpa using hv
        have hne : ¬ f = g := fun z => (List.nodup_cons.mp nd).1 (z ▸ List.mem_of_getElem? h')
        rw [show (f == g) = false from beq_eq_false_iff_ne.mpr hne]
        exact ih (List.nodup_cons.mp nd).2 h' hv'
theorem lookup_no {fs : List Str} {f : Str} : ∀ {us : List V}, f ∉ fs → (fs.zip us).lookup f = none := by
  induction fs with
  | nil => intro us _; rfl
  | cons g gs ih =>
    intro us h
    cases us with
    | nil => rfl
    | cons u us =>
      rw [List.zip_cons_cons, List.lookup_cons]
      have h' : ¬ f = g ∧ f ∉ gs := by simpa using h
      rw [show (f == g) = false from beq_eq_false_iff_ne.mpr h'.1]
      exact ih h'.2
def fldI (c i : Nat) : D → M D
  | .ins c' l => fun R => c' = c ∧ ∃ x, l[i]? = some x ∧ R x
  | _ => fail
def isiG (ts : List Ty) (d : D) : M D := asks (plainD d = true) (rt (.bl (ts.any fun t => isT t d)))
section
variable {T : Ct} {X : Cx} {W W0 : Wo} {σ : L2.St} {H H0 : Hp} {pos p p1 p2 pt apos : Pos} {e e2 o : Expr} {es : List Expr} {m mo : M D} {ml : M (List D)} {ρ : List (Option D)} {nm f : Str} {fr : Bool} {c i n k : Nat} {s : List D → M D}
theorem dw_fld (c i : Nat) (hc : c < T.n) (C : AllC X.K T) (hf : (T.fs c)[i]? = some f) (ho : Dw T X W o σ H m) (hb : attributeBase o f X.env (eval o X.env) = eval o X.env := by rfl) : Dw T X W (.Attribute o f pos) σ H (op1 (fldI c i) m) := by
  refine .of (pe_fld pe_any hb) fun R hm H1 u hI Q q => ho.go hm u hI fun v H2 d u2 i2 hd pd => ?_
  unfold fldI at pd
  split at pd
  · obtain ⟨e, x, hx, hr⟩ := pd
    cases hd with | ins hc' n ee hl hs =>
    subst e
    obtain ⟨v, hv, hvx⟩ := hs.get hx
    exact ⟨_, _, _, _, _, rfl, ee, (C _ hc).cl, (C _ hc).no f (List.mem_of_getElem? hf), lookup_zip (C _ hc).nd hf hv, q v H2 x u2 i2 hvx hr⟩
  · exact pd.elim
/-! ### isinstance -/
theorem ty_D (C : AllC X.K T) {v : V} {d : D} (h : Is T W H v d) (hp : plainD d = true) : TyX X.K H v (tyv T d) := by
  cases h with
  | int => exact .base (.int _)
  | bl => exact .base (.bl _)
  | str => exact .base (.str _)
  | non => exact .base .non
  | lst n e h => exact .base (.lst e)
  | tup n e h => exact .base (.tup e)
  | dct n e hk h => exact .base (.dK e)
  | ins hc n e hl h =>
    have c := C _ hc
    exact .base (.ins e c.cl c.ha c.hn c.htk c.hm)
  | pot => cases hp
  | cls => cases hp
theorem kit_D (C : AllC X.K T) {d : D} (hd : ∀ c l, d = .ins c l → c < T.n) (hp : plainD d = true) (t : Ty) (ht : ∀ c, t = .c c → c < T.n) : PySem.W.kitOne X.K (tyv T d) (t.val T) = some (isT t d) := by
  cases d with
  | pot a => cases hp
  | cls v => cases hp
  | ins c l =>
    have h := C c (hd c l rfl)
    cases t with
    | c c' => exact (h.kc c' (ht c' rfl)).trans rfl
    | int => exact h.kb _ (by decide)
    | bool => exact h.kb _ (by decide)
    | str => exact h.kb _ (by decide)
    | list => exact h.kb _ (by decide)
    | tuple => exact h.kb _ (by decide)
    | dict => exact h.kb _ (by decide)
  | _ =>
    cases t with
    | c c' => exact (C c' (ht c' rfl)).bk _ (by decide)
    | _ => first
      | exact (show PySem.W.kitOne X.K (.type _) (.type _) = some true from kit_ty (by decide +kernel))
      | exact (show PySem.W.kitOne X.K (.type _) (.type _) = some false from kit_ty (by decide +kernel))
theorem ins_lt {v : V} {d : D} (h : Is T W H v d) : ∀ c l, d = .ins c l → c < T.n := by
  rintro c l rfl
  cases h with
  | ins hc _ _ _ _ => exact hc
/-- an expression that is a class -/
structure TyE (T : Ct) (X : Cx) (e : Expr) (t : Ty) : Prop where
  pe : PE X e (tC (t.v T))
  cv : ClsV (t.v T) (t.val T)
  lt : ∀ c, t = .c c → c < T.n
theorem ty_b (t : Ty) (hm : X.mg nm = none) (hv : bootBuiltins nm = some (.type t.nm)) (hc : ∀ c, t ≠ .c c) (hg : Gl X nm := by rfl) (hn : nm ≠ "__name__" := by decide) (hd : (nm == ("__debug__" : Str)) = false := by decide) : TyE T X (.Name nm p) t := by
  cases t with
  | c c => exact absurd rfl (hc c)
  | _ => exact ⟨pe_bltn hg hm hv rfl hn hd, .ty _, fun _ h => nomatch h⟩
theorem ty_c (c : Nat) (hc : c < T.n) (hm : X.mg nm = some (.ref (T.at_ c))) (hg : Gl X nm := by rfl) (hd : (nm == ("__debug__" : Str)) = false := by decide) : TyE T X (.Name nm p) (.c c) :=
  ⟨pe_glob (v := .ref (T.at_ c)) hg hm rfl hd, .own _, fun _ h => by cases h; exact hc⟩
theorem dw_isi {t : Ty} (C : AllC X.K T) (h : Dw T X W e σ H m) (ht : TyE T X e2 t) (hm : X.mg "isinstance" = none) (hg : Gl X "isinstance" := by rfl) (hs : starEach (e :: [e2]) X.env = (false, eval e X.env) :: starEach [e2] X.env := by rfl) (hs2 : starEach (e2 :: []) X.env = (false, eval e2 X.env) :: starEach [] X.env := by rfl) (hpl : (backTo pos (starEach [e2] X.env)).any (·.1) = false := by rfl) :
    Dw T X W (.Call (.Name "isinstance" p) [e, e2] [] pos) σ H (op1 (isiG [t]) m) := by
  refine .of (pe_callB call_isi hg hm (by decide +kernel) (pa_cons pe_any (pa_cons ht.pe pa_nil hs2) hs) (he := hs) (hpl := hpl)) fun R hR H1 u1 hI Q q => h.go hR u1 hI fun v H2 d u2 i2 hd pd => ?_
  have z : R (.bl (isT t d)) := by
    have w := pd.2
    unfold rt at w
    rw [List.any_cons, List.any_nil, Bool.or_false] at w
    exact w
  exact ⟨v, _, _, _, _, rfl, ht.cv, ty_D C hd pd.1, kit_D C (ins_lt hd) pd.1 t ht.lt, q _ H2 _ u2 i2 .bl z⟩
theorem kit_any (C : AllC X.K T) {d : D} (hd : ∀ c l, d = .ins c l → c < T.n) (hp : plainD d = true) : ∀ {ts : List Ty}, (∀ t ∈ ts, ∀ c, t = .c c → c < T.n) → PySem.W.kitAny X.K (tyv T d) (ts.map (Ty.val T)) = some (ts.any fun t => isT t d)
  | [], _ => rfl
  | t :: ts, h => by
    have h1 := kit_D C hd hp t (h t List.mem_cons_self)
    have h2 := kit_any C hd hp (ts := ts) fun t ht => h t (List.mem_cons_of_mem _ ht)
    rw [List.map_cons, List.any_cons]
    cases e : isT t d with
    | true =>
      rw [e] at h1
      exact kitAny_cons h1 (fun h => nomatch h) fun _ => rfl
    | false =>
      rw [e] at h1
      exact kitAny_cons h1 (fun _ => h2) fun h => nomatch h
theorem dw_isi2 {e3 : Expr} {t t2 : Ty} {kt : Nat} (C : AllC X.K T) (h : Dw T X W e σ H m) (ht : TyE T X e2 t) (ht2 : TyE T X e3 t2) (hm : X.mg "isinstance" = none) (hg : Gl X "isinstance" := by rfl)
    (hs : starEach (e :: [.Tuple [e2, e3] kt pt]) X.env = (false, eval e X.env) :: starEach [.Tuple [e2, e3] kt pt] X.env := by rfl) (hs2 : starEach (.Tuple [e2, e3] kt pt :: []) X.env = (false, eval (.Tuple [e2, e3] kt pt) X.env) :: starEach [] X.env := by rfl) (hpl : (backTo pos (starEach [.Tuple [e2, e3] kt pt] X.env)).any (·.1) = false := by rfl)
    (hs3 : starEach (e2 :: [e3]) X.env = (false, eval e2 X.env) :: starEach [e3] X.env := by rfl) (hs4 : starEach (e3 :: []) X.env = (false, eval e3 X.env) :: starEach [] X.env := by rfl) :
    Dw T X W (.Call (.Name "isinstance" p) [e, .Tuple [e2, e3] kt pt] [] pos) σ H (op1 (isiG [t, t2]) m) := by
  refine .of (pe_callB call_isiT hg hm (by decide +kernel) (pa_cons pe_any (pa_cons (pe_tup (pa_cons ht.pe (pa_cons ht2.pe pa_nil hs4) hs3)) pa_nil hs2) hs) (he := hs) (hpl := hpl)) fun R hR H1 u1 hI Q q => h.go hR u1 hI fun v H2 d u2 i2 hd pd => ⟨by show 2 ≤ sizeLine; decide, fun tp hp => ?_⟩
  have lt : ∀ z ∈ [t, t2], ∀ c, z = .c c → c < T.n := by
    intro z hz
    rcases List.mem_cons.mp hz with r | hz
    · subst r; exact ht.lt
    · rw [List.mem_singleton.mp hz]; exact ht2.lt
  have un : Up W.toWld H2 (upd H2 tp (.tup [t.v T, t2.v T])) := Up.new hp
  exact ⟨v, tp, _, _, [t.val T, t2.val T], _, rfl, upd_same, .cons ht.cv (.cons ht2.cv .nil), ty_D C (hd.up un) pd.1, kit_any C (ins_lt hd) pd.1 lt, q _ _ _ (u2.trans un) (I_new i2 hp) .bl pd.2⟩
/-! ### methods, properties -/
structure MethD (T : Ct) (P : Program) (w : World) (K : PySem.W.Frag) (mg : Str → Option Value) (base : Heap) (k c : Nat) (nm : Str) (fr : Bool) (n : Nat) (s : List D → M D) : Prop where
  ex : ∃ f fd ps, FnOk P w K mg base CX0 k f fd ps (SpD T fr n s) ∧ Meth K (T.at_ c) nm f ∧ Binds K fd ps []
  len : ∀ ds R, s ds R → ds.length = n
structure PropD (T : Ct) (P : Program) (w : World) (K : PySem.W.Frag) (mg : Str → Option Value) (base : Heap) (k c : Nat) (nm : Str) (fr : Bool) (s : List D → M D) : Prop where
  ex : ∃ p g fd ps, FnOk P w K mg base CX0 k g fd ps (SpD T fr 1 s) ∧ PropOf K (T.at_ c) nm p g ∧ Binds K fd ps []
def methM (c : Nat) (s : List D → M D) (mo : M D) (ml : M (List D)) : M D := fun R => mo fun d => (∃ l, d = .ins c l) ∧ ml fun ds => s (d :: ds) R
def propM (c : Nat) (s : List D → M D) (d : D) : M D := fun R => (∃ l, d = .ins c l) ∧ s [d] R
theorem dw_prop (B : PropD T X.prog X.w X.K X.mg X.base k c nm fr s) (C : AllC X.K T) (hr : Room (k + 1) X.A) (h : Dw T X W o σ H mo) (hb : attributeBase o nm X.env (eval o X.env) = eval o X.env := by rfl) : Dw T X W (.Attribute o nm pos) σ H (op1 (propM c s) mo) := by
  obtain ⟨p, g, fd, ps, F, hp', hbi⟩ := B.ex
  by_cases hc : c < T.n
  · refine .of (pe_prop (E := E0) pe_any (C c hc).cl hp' F hr hbi .nil pass0 hb) fun R hR H1 u hI Q q => h.go hR u hI fun v H2 d u2 i2 hd pd => ?_
    obtain ⟨⟨l, rfl⟩, pd⟩ := pd
    have hd0 := hd
    cases hd with | ins hc' n ee hl hs =>
    exact ⟨_, _, _, rfl, ee, W, _, R, .cons hd0 .nil, rfl, i2, pd, fun y w H3 hy u3 i3 h3 _ => q w H3 y (u2.trans u3) i3 h3 hy⟩
  · refine .of pe_any fun R hR H1 u hI Q q => ?_
    exact ⟨_, pe_fld (f := nm) (pos := pos) (pe_any (e := o)) hb, h.go hR u hI fun v H2 d u2 i2 hd pd => by
      obtain ⟨⟨l, rfl⟩, _⟩ := pd
      cases hd with | ins hc' n ee hl hs => exact absurd hc' hc⟩
theorem dw_meth {pl : Sem Bool} (B : MethD T X.prog X.w X.K X.mg X.base k c nm fr n s) (hc : c < T.n) (C : AllC X.K T) (hr : Room k X.A) (h : Dw T X W o σ H mo) (ha : Lw T X W (e :: es) σ H ml) (hnf : nm ∉ T.fs c)
    (hst : starEach (e :: es) X.env = (false, eval e X.env) :: starEach es X.env := by rfl) (hpl : (backTo pos (starEach es X.env)).any (·.1) = false := by rfl)
    (ht : eval (.Call (.Attribute o nm apos) (e :: es) [] pos) X.env = (do
      let ov ← eval o X.env
      standAt apos.atName
      let (f, first) ← holding [ov] (getMethod ov nm pl)
      callWith pos f first (backTo pos (starEach (e :: es) X.env)) (backToKw pos (keywordEach [] X.env))) := by rfl) : Dw T X W (.Call (.Attribute o nm apos) (e :: es) [] pos) σ H (methM c s mo ml) := by
  obtain ⟨f, fd, ps, F, hm, hbi⟩ := B.ex
  refine .of (pe_meth (E := E0) pe_any (C c hc).cl hm F hr hbi .nil pass0 pa_any hst hpl ht) fun R hR H1 u hI Q q => h.go hR u hI fun v H2 d u2 i2 hd pd => ?_
  obtain ⟨⟨l, rfl⟩, pd⟩ := pd
  have hd0 := hd
  cases hd with | ins hc' nM ee hl hs =>
  refine ⟨_, _, _, rfl, ee, lookup_no hnf, ha.go pd (u.trans u2) i2 fun vs H3 ds u3 i3 hx px => ?_⟩
  rw [List.append_nil]
  exact ⟨W, _, R, .cons (hd0.up u3) hx, B.len _ R px, i3, px, fun y w H4 hy u4 i4 h4 _ => q w H4 y ((u2.trans u3).trans u4) i4 h4 hy⟩
theorem dw_meth0 {pl : Sem Bool} (B : MethD T X.prog X.w X.K X.mg X.base k c nm fr n s) (hc : c < T.n) (C : AllC X.K T) (hr : Room k X.A) (h : Dw T X W o σ H mo) (hnf : nm ∉ T.fs c)
    (ht : eval (.Call (.Attribute o nm apos) [] [] pos) X.env = (do
      let ov ← eval o X.env
      standAt apos.atName
      let (f, first) ← holding [ov] (getMethod ov nm pl)
      callWith pos f first (backTo pos (starEach [] X.env)) (backToKw pos (keywordEach [] X.env))) := by rfl) : Dw T X W (.Call (.Attribute o nm apos) [] [] pos) σ H (methM c s mo lnil) := by
  obtain ⟨f, fd, ps, F, hm, hbi⟩ := B.ex
  refine .of (pe_meth0 (E := E0) pe_any (C c hc).cl hm F hr hbi .nil pass0 ht) fun R hR H1 u hI Q q => h.go hR u hI fun v H2 d u2 i2 hd pd => ?_
  obtain ⟨⟨l, rfl⟩, pd⟩ := pd
  have hd0 := hd
  cases hd with | ins hc' nM ee hl hs =>
  exact ⟨_, _, _, rfl, ee, lookup_no hnf, W, _, R, .cons hd0 .nil, B.len _ R pd, i2, pd, fun y w H4 hy u4 i4 h4 _ => q w H4 y (u2.trans u4) i4 h4 hy⟩
end
end Uv
set_option Elab.async false
set_option linter.all false
set_option maxRecDepth 100000
set_option maxHeartbeats 4000000
namespace Uv
open PySem L2 Inn PySem.Spec PyProof.Rows
/-! ### instances are made -/
/-- what __init__ asks; what fields come of it -/
def SpI (T : Ct) (c n : Nat) (s : List D → M (List D)) : Sp := fun vs H Q _ => ∃ (W : Wo) (H1 : Hp) (p dx : Addr) (us : List V) (ds : List D) (R : List D → Prop), vs = .ref p :: us ∧ H1 p = none ∧ H1 dx = none ∧ dx ≠ p ∧ H = upd (upd H1 dx (.own p)) p (.ins (T.at_ c) dx []) ∧ W.I H1 ∧
  Iss T W H1 us ds ∧ ds.length = n ∧ s ds R ∧ ∀ fl us' H', R fl → Up W.toWld H1 H' → W.I H' → H' p = some (.ins (T.at_ c) dx ((T.fs c).zip us')) → us'.length = (T.fs c).length → Iss T W H' us' fl → Q .non H'
structure MkD (T : Ct) (P : Program) (w : World) (K : PySem.W.Frag) (mg : Str → Option Value) (base : Heap) (k c : Nat) (nm : Str) (n : Nat) (s : List D → M (List D)) (dds : List D) : Prop where
  ex : ∃ f fd ps ds dvs, FnOk P w K mg base CX0 k f fd ps (SpI T c n s) ∧ Mk K (T.at_ c) f ∧ mg nm = some (.ref (T.at_ c)) ∧ Binds K fd ps ds ∧ Vals dvs ds ∧ ∀ (W : Wo) (H : Hp), Iss T W H dvs dds
  len : ∀ ds R, s ds R → ds.length = n
  lt : c < T.n
/-- .. called by names: all of ks, in the sequence π -/
structure MkK (T : Ct) (P : Program) (w : World) (K : PySem.W.Frag) (mg : Str → Option Value) (base : Heap) (k c : Nat) (nm : Str) (ks : List Str) (π : List Nat) (n : Nat) (s : List D → M (List D)) : Prop where
  ex : ∃ f fd ps g, FnOk P w K mg base CX0 k f fd ps (SpI T c n s) ∧ Mk K (T.at_ c) f ∧ mg nm = some (.ref (T.at_ c)) ∧ KBn K fd ps 1 ks g (fun vs zs => vs ++ arr π zs)
  len : ∀ ds R, s ds R → ds.length = n
  lt : c < T.n
def mkM (c : Nat) (s : List D → M (List D)) (dds : List D) (ds : List D) : M D := fun R => s (ds ++ dds) fun fl => R (.ins c fl)
section
variable {T : Ct} {X : Cx} {W W0 : Wo} {σ : L2.St} {H H0 H1 : Hp} {pos p kpos apos : Pos} {e o : Expr} {es : List Expr} {m mo : M D} {ml : M (List D)} {ρ : List (Option D)} {nm : Str} {fr : Bool} {n c k : Nat} {s : List D → M (List D)} {dds : List D} {ks : List Str} {π : List Nat} {kws : List Keyword}
theorem made_D {x dx : Addr} {us : List V} {ds : List D} {R : D → Prop} {Q : VK} {E : XK} (hI : W.I H1) (nx : H1 x = none) (ndx : H1 dx = none) (ne : dx ≠ x) (hc : c < T.n) (hx : Iss T W H1 us ds) (hl : ds.length = n) (hm : s ds fun fl => R (.ins c fl))
    (q : ∀ v H2 d, Up W.toWld H1 H2 → W.I H2 → Is T W H2 v d → R d → Q v H2) : SpI T c n s (.ref x :: us) (upd (upd H1 dx (.own x)) x (.ins (T.at_ c) dx [])) (fun v H2 => v = .non ∧ Q (.ref x) H2) E :=
  ⟨W, H1, x, dx, us, ds, _, rfl, nx, ndx, ne, rfl, hI, hx, hl, hm, fun fl us' H' hr u i e hl' hs => ⟨rfl, q _ H' _ u i (.ins hc (not_M hI nx) e hl' hs) hr⟩⟩
theorem dw_make (B : MkD T X.prog X.w X.K X.mg X.base k c nm n s dds) (hr : Room (k + 1) X.A) (ha : Lw T X W (e :: es) σ H ml) (hg : Gl X nm := by rfl) (hdb : (nm == ("__debug__" : Str)) = false := by decide)
    (he : starEach (e :: es) X.env = (false, eval e X.env) :: starEach es X.env := by rfl) (hpl : (backTo pos (starEach es X.env)).any (·.1) = false := by rfl) : Dw T X W (.Call (.Name nm p) (e :: es) [] pos) σ H (opN (mkM c s dds) ml) := by
  obtain ⟨f, fd, ps, dsv, dvs, F, M, hm, hbi, hdv, hd⟩ := B.ex
  refine .of (pe_make (E := E0) M F hr hg hm hbi hdv pass0 pa_any hdb he hpl) fun R hR H1 u hI Q q => ha.go hR u hI fun vs H2 ds u2 i2 hx px => fun x dx nx ndx ne => ?_
  exact made_D i2 nx ndx ne B.lt (hx.app (hd W H2)) (B.len _ _ px) px fun v H3 d u3 i3 h3 hd' => q v H3 d (u2.trans u3) i3 h3 hd'
theorem dw_makeK {k1 k2 : Keyword} (B : MkK T X.prog X.w X.K X.mg X.base k c nm ks π n s) (hr : Room (k + 1) X.A) (hkw : Kw T X W (k1 :: k2 :: kws) σ H ml) (hkl : (k1 :: k2 :: kws).length = ks.length := by rfl)
    (hg : Gl X nm := by rfl) (hdb : (nm == ("__debug__" : Str)) = false := by decide) (hall : (backToKw pos (keywordEach (k1 :: k2 :: kws) X.env)).all (·.1.isSome) = true := by rfl) (hks : (backToKw pos (keywordEach (k1 :: k2 :: kws) X.env)).filterMap (·.1) = ks := by rfl)
    (hpl : ((backTo pos (starEach [] X.env)).any (·.1) || (backToKw pos (keywordEach (k1 :: k2 :: kws) X.env)).any (·.1.isNone)) = false := by rfl) : Dw T X W (.Call (.Name nm p) [] (k1 :: k2 :: kws) pos) σ H (opN (fun ds => mkM c s [] (arr π ds)) ml) := by
  obtain ⟨f, fd, ps, g, F, M, hm, hb⟩ := B.ex
  refine .of (pe_makeK0 (E := E0) M F hr hg hm hb pass0 pk_any hall hks hdb hpl) fun R hR H1 u hI Q q => hkw.go hR u hI fun vs H2 ds u2 i2 hx hl px => ⟨rfl, (hx.len.trans hl).trans hkl, fun x dx nx ndx ne => ?_⟩
  have px : s (arr π ds ++ []) (fun fl => R (.ins c fl)) := px
  rw [List.append_nil] at px
  exact made_D i2 nx ndx ne B.lt (hx.arr π) (B.len _ _ px) px fun v H3 d u3 i3 h3 hd' => q v H3 d (u2.trans u3) i3 h3 hd'
end
/-! ### the body of __init__ -/
theorem notin_take {f : Str} : ∀ {fs : List Str} {i : Nat}, fs.Nodup → fs[i]? = some f → f ∉ fs.take i
  | [], _, _, h => by simp at h
  | g :: gs, 0, _, _ => by simp
  | g :: gs, i + 1, nd, h => by
    have h' : gs[i]? = some f := by simpa using h
    have h1 := List.nodup_cons.mp nd
    rw [List.take_succ_cons, List.mem_cons]
    rintro (rfl | z)
    · exact h1.1 (List.mem_of_getElem? h')
    · exact notin_take h1.2 h' z
theorem putF_zip {f : Str} {v : V} : ∀ {fs : List Str} {us : List V}, us.length = fs.length → f ∉ fs → putF f v (fs.zip us) = (fs ++ [f]).zip (us ++ [v])
  | [], us, h, _ => by
    cases us with
    | nil => rfl
    | cons _ _ => cases h
  | g :: gs, us, h, hf => by
    cases us with
    | nil => cases h
    | cons u us =>
      have h2 : ¬ f = g ∧ f ∉ gs := by simpa using hf
      rw [List.zip_cons_cons, List.cons_append, List.cons_append, List.zip_cons_cons]
      unfold putF
      first
      | rw [if_neg (fun z => h2.1 z.symm), putF_zip (Nat.succ.inj h) h2.2]
      | rw [if_neg h2.1, putF_zip (Nat.succ.inj h) h2.2]
/-- an instance of c is being made at p: us stand in its first fields -/
structure Bld (T : Ct) (W : Wo) (c : Nat) (p dx : Addr) (H : Hp) (us : List V) (fl : List D) : Prop where
  e : H p = some (.ins (T.at_ c) dx (((T.fs c).take us.length).zip us))
  le : us.length ≤ (T.fs c).length
  nM : ¬ W.M p
  hs : Iss T (Wh W p (.ins (T.at_ c) dx (((T.fs c).take us.length).zip us))) H us fl
abbrev Wi (T : Ct) (W : Wo) (c : Nat) (p dx : Addr) (us : List V) : Wo := Wh W p (.ins (T.at_ c) dx (((T.fs c).take us.length).zip us))
section
variable {T : Ct} {P : Program} {w : World} {K : PySem.W.Frag} {mg : Str → Option Value} {base : Heap} {x qual : Str} {st : Stmt} {f C : Addr} {fd : FuncData} {N ps : List Str} {k n c : Nat} {s : List D → M (List D)} {dvs : List V} {kws : List (Str × V)}
theorem fn_I (F : FunD K x qual (defArgs st) (defBody st) (defScope st) dvs kws f fd) (S : FnScope N ps (defScope st)) (hn : ps.length = n + 1) (hNl : ps.length ≤ N.length)
    (body : ∀ (cdv : Value) (A' : Around) (outer : List Env) (s0 : Shared) (H1 H : Hp) (E : XK) (W : Wo) (p dx : Addr) (us : List V) (ds : List D) (R : List D → Prop) (Q : VK), Room k (A'.deeper (envOfC qual (defScope st) s0.heap.objs.size f cdv)) → (L2.start N (.ref p :: us))[0]? = some (some (.ref p)) →
      Now T W (Wi T W c p dx []) H1 (L2.start N (.ref p :: us)) H ((startD N (.non :: ds)).set 0 none) → Bld T W c p dx H [] [] → s ds R →
      (∀ us' fl H', us'.length = (T.fs c).length → R fl → Up W.toWld H1 H' → (Wi T W c p dx us').I H' → Bld T W c p dx H' us' fl → Q .non H') →
      Wss (cxOf CX0 P w K mg base N qual (defScope st) f cdv A' outer s0 H E).nox (defBody st) { nx := fun _ H' => Q .non H', rt := Q } (L2.start N (.ref p :: us)) H) :
    FnOk P w K mg base CX0 (k + 1) f fd ps (SpI T c n s) :=
  F.ok S (fun vs H Q E h => by
    obtain ⟨W, H1, p, dx, us, ds, R, rfl, _, _, _, _, _, hx, hl, _⟩ := h
    rw [List.length_cons, hx.len, hl, hn]) fun cdv A' outer s0 H vs Q E hr ⟨W, H1, p, dx, us, ds, R, e1, np, ndx, ne, eH, hI, hx, hl, hm, q⟩ => by
    subst e1
    have hu0 : Up W.toWld H1 H := fun a o nM e => by
      rw [eH, upd_ne (ne_of_none e np), upd_ne (ne_of_none e ndx)]
      exact e
    have hp : H p = some (.ins (T.at_ c) dx []) := by rw [eH]; exact upd_same
    have hIH : W.I H := W.st hI fun a m => by
      obtain ⟨o, e⟩ := W.al hI m
      rw [e]
      rw [eH, upd_ne (ne_of_none e np), upd_ne (ne_of_none e ndx)]
      exact e
    have nMp : ¬ W.M p := not_M hI np
    have args : Iss T (Wi T W c p dx []) H us ds := IsDs.conv (fun a o nM e => ⟨fun z => z.elim nM fun z => ne_of_none e np z, hu0 a o nM e⟩) (pot_ne hI np) hx
    have start : Sees T (Wi T W c p dx []) (L2.start N (.ref p :: us)) H ((startD N (.non :: ds)).set 0 none) := by
      have hs : Sees T (Wi T W c p dx []) (L2.start N (.non :: us)) H (startD N (.non :: ds)) := sees_start (.cons .non args)
      refine ⟨by rw [List.length_set, ← hs.1]; unfold L2.start; simp, fun i d e => ?_⟩
      cases i with
      | zero =>
        rw [List.getElem?_set] at e
        simp at e
      | succ i =>
        rw [List.getElem?_set_ne (by omega)] at e
        obtain ⟨v, h1, h2⟩ := hs.2 (i + 1) d e
        exact ⟨v, by unfold L2.start at h1 ⊢; simpa using h1, h2⟩
    obtain ⟨t, pt, z⟩ := body cdv A' outer s0 H1 H E W p dx us ds R Q hr (by unfold L2.start; rfl) ⟨hu0, fun a o nM e z => z.elim nM fun z => ne_of_none e np z, ⟨hIH, by simpa using hp⟩, start⟩ ⟨by simpa using hp, Nat.zero_le _, nMp, .nil⟩ hm fun us' fl H' hl' hr' u' i' b' => by
      have e' : (T.fs c).take us'.length = T.fs c := by rw [hl', List.take_length]
      have ee := b'.e
      rw [e'] at ee
      exact q fl us' H' hr' u' i'.1 ee hl' b'.hs.wk
    exact ⟨t, PSs.nox pt, z⟩
end
section
variable {T : Ct} {X : Cx} {W : Wo} {σ : L2.St} {H H0 : Hp} {pos : Pos} {e : Expr} {m : M D} {ρ : List (Option D)} {c : Nat} {us : List V} {fl : List D} {p dx : Addr} {D' : Ends} {sts : List Stmt} {P : D → Prop} {nm f : Str}
/-- self.f = e, the next field -/
theorem w_fld {p0 pa : Pos} (n : Now T W (Wi T W c p dx us) H0 σ H ρ) (b : Bld T W c p dx H us fl) (hc : c < T.n) (C : AllC X.K T) (hσ : σ[0]? = some (some (.ref p))) (hf : (T.fs c)[us.length]? = some f) (he : Dw T X (Wi T W c p dx us) e σ H m) (hm : m P)
    (k : ∀ d v H1, Now T W (Wi T W c p dx (us ++ [v])) H0 σ H1 ρ → Bld T W c p dx H1 (us ++ [v]) (fl ++ [d]) → P d → Wss X sts D' σ H1)
    (hN : X.N[0]? = some nm := by rfl) (hvis : Vis X.env.scope nm := by first | exact Or.inl rfl | exact Or.inr (Or.inl rfl) | exact Or.inr (Or.inr rfl)) (hd : (nm == ("__debug__" : Str)) = false := by decide) (hcd : (nm == ("__classdict__" : Str)) = false := by decide)
    (hs : swapsWith e (some (.Attribute (.Name nm p0) f pa)) pos.line X.env = pure false := by rfl) : Wss X (.Assign [.Attribute (.Name nm p0) f pa] e pos :: sts) D' σ H := by
  refine ⟨_, pss_cons (ps_fld (pe_var hN hvis hd hcd) pe_any hs) wss_all, he.go hm (Up.refl _) n.inv fun v H1 d u i1 hv pd => ⟨.ref p, hσ, ?_⟩⟩
  have cl := C c hc
  have hlt : us.length < (T.fs c).length := (List.getElem?_eq_some_iff.mp hf).1
  have ep := i1.2
  refine ⟨p, T.at_ c, dx, _, rfl, ep, cl.cl, cl.no f (List.mem_of_getElem? hf), ?_, ?_⟩
  · rw [List.length_zip]
    exact Nat.lt_of_le_of_lt (Nat.min_le_right _ _) (Nat.lt_trans hlt cl.few)
  · have tk : (T.fs c).take (us ++ [v]).length = (T.fs c).take us.length ++ [f] := by
      rw [List.length_append, List.length_singleton, List.take_add_one, hf]
      rfl
    have hz : putF f v (((T.fs c).take us.length).zip us) = ((T.fs c).take (us ++ [v]).length).zip (us ++ [v]) := by
      rw [tk]
      exact putF_zip (by rw [List.length_take, Nat.min_eq_left b.le]) (notin_take cl.nd hf)
    rw [hz]
    have nM := b.nM
    exact k d v _ ⟨fun a o x y => by
      rw [upd_ne (fun z => n.rel a o x y (.inr z))]
      exact u a o (n.rel a o x y) (n.up a o x y), n.rel, ⟨I_mut i1.1 nM, upd_same⟩, (n.see.up u).gw⟩
      ⟨upd_same, by rw [List.length_append]; exact hlt, nM, ((Iss.up u b.hs).gw).app (.cons hv.gw .nil)⟩ pd
end
end Uv
set_option Elab.async false
set_option linter.all false
set_option maxRecDepth 100000
set_option maxHeartbeats 4000000
namespace Uv
open PySem L2 Inn PySem.Spec PyProof.Rows
/-! ### the classes' own operators -/
structure OpB (T : Ct) (P : Program) (w : World) (K : PySem.W.Frag) (mg : Str → Option Value) (base : Heap) (k c : Nat) (op : Operator) (s sr : List D → M D) : Prop where
  ex : ∃ f fr fd fdr ps psr ro fo b b', OpF K (T.at_ c) op f fr ro fo ∧ FnOk P w K mg base CX0 k f fd ps (SpD T b 2 s) ∧ L2.Binds K fd ps [] ∧ FnOk P w K mg base CX0 k fr fdr psr (SpD T b' 2 sr) ∧ L2.Binds K fdr psr []
def ownB (c : Nat) (s sr : List D → M D) : D → D → M D
  | .ins c' l, .int i => fun R => c' = c ∧ s [.ins c' l, .int i] R
  | .ins c' l, .ins c2 l2 => fun R => c' = c ∧ c2 = c ∧ s [.ins c' l, .ins c2 l2] R
  | .int i, .ins c' l => fun R => c' = c ∧ sr [.ins c' l, .int i] R
  | _, _ => fail
section
variable {T : Ct} {X : Cx} {W : Wo} {k c : Nat} {op : Operator} {s sr : List D → M D}
theorem spD_of {fr : Bool} {n : Nat} {s : List D → M D} {H : Hp} {us : List V} {ds : List D} {R : D → Prop} {Q : VK} {E : XK} (hx : Iss T W H us ds) (hl : ds.length = n) (hI : W.I H) (hm : s ds R) (q : ∀ z w H', R z → Up W.toWld H H' → W.I H' → Is T W H' w z → Q w H') : SpD T fr n s us H Q E :=
  ⟨W, ds, R, hx, hl, hI, hm, fun y u H' hy uu i h _ => q y u H' hy uu i h⟩
theorem op_ownB {idl : String} (B : OpB T X.prog X.w X.K X.mg X.base k c op s sr) (hr : Room k X.A) (hfT : fillsNumberSlot (.type "int") op.info.2 = pure true) (slot : Slot "int" (PySem.dunder op.info.2) idl)
    (hd : ∀ (i : Int) (t : Tok) (l dx C : Addr) (s : Shared) (Q : Value → Shared → Prop), s.heap.get? l = some (PySem.W.instObj C dx) → Q .notImplemented s → wpAny (model X.prog X.w) X.A (call (.builtin idl) [.int i t, .ref l]) Q X.xe s) : Op2 T X W (binaryOp op) (ownB c s sr) := by
  obtain ⟨f, fr, fd, fdr, ps, psr, ro, fo, b, b', O, F, hb, Fr', hbr⟩ := B.ex
  intro pins s0 σ H u v a1 a2 Q I ra rb ⟨x, y, R, hx, hy, hI, hg, q⟩
  unfold ownB at hg
  split at hg
  · obtain ⟨rfl, hg⟩ := hg
    have hx0 := hx
    cases hx with | ins hc nM e hl hs =>
    have hy0 := hy
    cases hy
    cases ra
    obtain ⟨t, rfl⟩ := rb
    obtain ⟨mA, J, _⟩ := ins_get I.hok e
    obtain ⟨od, J, _⟩ := J.look
    obtain ⟨m, hF⟩ := I.fr
    refine PySem.W.ksp_binT (T := "int") hF I.ok.mod.kin J rfl O.sf O.at_ O.isf O.atR (.inr ⟨_, rfl⟩) O.i1 O.i2 O.s1 ?_
    exact thn (run_fn (us := [.ref _, .int _ t]) (vs := [.ref _, .int _]) (E := E0) F hr hb .nil pass0 I (.cons rfl (.cons ⟨t, rfl⟩ .nil)) (spD_of (.cons hx0 (.cons hy0 .nil)) rfl hI hg q)) fun _ _ h => relV_back h
  · obtain ⟨rfl, rfl, hg⟩ := hg
    have hx0 := hx
    cases hx with | ins hc nM e hl hs =>
    have hy0 := hy
    cases hy with | ins hc2 nM2 e2 hl2 hs2 =>
    cases ra
    cases rb
    obtain ⟨mA, J, _⟩ := ins_get I.hok e
    obtain ⟨od, J, _⟩ := J.look
    obtain ⟨mB, J', _⟩ := ins_get I.hok e2
    obtain ⟨od', J', _⟩ := J'.look
    obtain ⟨m, hF⟩ := I.fr
    refine PySem.W.binop_K hF I.ok.mod.kin J J'.type O.sf O.at_ O.isf ?_
    exact thn (run_fn (us := [.ref _, .ref _]) (vs := [.ref _, .ref _]) (E := E0) F hr hb .nil pass0 I (.cons rfl (.cons rfl .nil)) (spD_of (.cons hx0 (.cons hy0 .nil)) rfl hI hg q)) fun _ _ h => relV_back h
  · obtain ⟨rfl, hg⟩ := hg
    have hx0 := hx
    cases hx
    have hy0 := hy
    cases hy with | ins hc2 nM2 e2 hl2 hs2 =>
    obtain ⟨t, rfl⟩ := ra
    cases rb
    obtain ⟨mA, J, _⟩ := ins_get I.hok e2
    obtain ⟨od, J, _⟩ := J.look
    obtain ⟨_, _, _, e3, _⟩ := (show ObjOk X.prog X.w H s0.heap _ (.ins (T.at_ _) _ _) from I.hok _ _ e2)
    refine PySem.W.rop_int I.kIn J O.sf O.at_ O.atR O.isr O.s2 hfT slot (fun Q q => hd _ t _ _ _ s0 Q e3 q) ?_
    exact thn (run_fn (us := [.ref _, .int _ t]) (vs := [.ref _, .int _]) (E := E0) Fr' hr hbr .nil pass0 I (.cons rfl (.cons ⟨t, rfl⟩ .nil)) (spD_of (.cons hy0 (.cons hx0 .nil)) rfl hI hg q)) fun _ _ h => relV_back h
  · exact hg.elim
theorem op_ownAdd (B : OpB T X.prog X.w X.K X.mg X.base k c .Add s sr) (hr : Room k X.A) : Op2 T X W (binaryOp .Add) (ownB c s sr) :=
  op_ownB B hr F.fills_int_add F.slot_int_add fun i t l dx C s Q e q => call_meets F.slot_int_add (typeIs_int s i t) F.entry_int_add (F.args_int_add_2 _ _) (PySem.own_int_add i t l C dx) ⟨e, q⟩
theorem op_ownSub (B : OpB T X.prog X.w X.K X.mg X.base k c .Sub s sr) (hr : Room k X.A) : Op2 T X W (binaryOp .Sub) (ownB c s sr) :=
  op_ownB B hr F.fills_int_sub F.slot_int_sub fun i t l dx C s Q e q => call_meets F.slot_int_sub (typeIs_int s i t) F.entry_int_sub (F.args_int_sub_2 _ _) (PySem.own_int_sub i t l C dx) ⟨e, q⟩
theorem op_ownMul (B : OpB T X.prog X.w X.K X.mg X.base k c .Mult s sr) (hr : Room k X.A) : Op2 T X W (binaryOp .Mult) (ownB c s sr) :=
  op_ownB B hr F.fills_int_mul F.slot_int_mul fun i t l dx C s Q e q => call_meets F.slot_int_mul (typeIs_int s i t) F.entry_int_mul (F.args_int_mul_2 _ _) (PySem.own_int_mul i t l C dx) ⟨e, q⟩
/-- several classes -/
theorem op_alt {f : Value → Value → Sem Value} {g g' : D → D → M D} {pick : D → D → Bool} (h : Op2 T X W f g) (h' : Op2 T X W f g') : Op2 T X W f (fun x y => if pick x y = true then g x y else g' x y) := by
  intro pins s0 σ H u v a1 a2 Q I ra rb ⟨x, y, R, hx, hy, hI, hg, q⟩
  dsimp only at hg
  split at hg
  · exact h pins s0 σ H u v a1 a2 Q I ra rb ⟨x, y, R, hx, hy, hI, hg, q⟩
  · exact h' pins s0 σ H u v a1 a2 Q I ra rb ⟨x, y, R, hx, hy, hI, hg, q⟩
structure NegB (T : Ct) (P : Program) (w : World) (K : PySem.W.Frag) (mg : Str → Option Value) (base : Heap) (k c : Nat) (s : List D → M D) : Prop where
  ex : ∃ f fd ps b, PySem.W.findIn K (.ref (T.at_ c)) "__neg__" = some (some (.ref f)) ∧ PySem.W.isFn K (.ref f) = true ∧ FnOk P w K mg base CX0 k f fd ps (SpD T b 1 s) ∧ L2.Binds K fd ps []
def ownN (c : Nat) (s : List D → M D) : D → M D
  | .ins c' l => fun R => c' = c ∧ s [.ins c' l] R
  | _ => fail
theorem op_ownN (B : NegB T X.prog X.w X.K X.mg X.base k c s) (hr : Room k X.A) : Op1 T X W (unaryOp .USub) (ownN c s) := by
  obtain ⟨f, fd, ps, b, h1, h2, F, hb⟩ := B.ex
  intro pins s0 σ H u a1 Q I ra ⟨x, R, hx, hI, hg, q⟩
  unfold ownN at hg
  split at hg
  · obtain ⟨rfl, hg⟩ := hg
    have hx0 := hx
    cases hx with | ins hc nM e hl hs =>
    cases ra
    obtain ⟨mA, J, _⟩ := ins_get I.hok e
    obtain ⟨od, J, _⟩ := J.look
    obtain ⟨m, hF⟩ := I.fr
    refine PySem.W.ksp_neg hF I.ok.mod.kin J h1 h2 ?_
    exact run_fn (us := [.ref _]) (vs := [.ref _]) (E := E0) F hr hb .nil pass0 I (.cons rfl .nil) (spD_of (.cons hx0 .nil) rfl hI hg q)
  · exact hg.elim
end
end Uv
set_option Elab.async false
set_option linter.all false
set_option maxRecDepth 100000
set_option maxHeartbeats 4000000
namespace PySem.SeqAt
open AutoSeq1 (wpAny_loadPart')
open MeetsSeq MeetsSeq2 MeetsSeq3 SeqRoads2
section
variable {prog : Program} {w : World} {A : Around} {R : Result → Shared → Prop}
/-- at every state of J the two lists stand, of m items each -/
def TwoL (a b : Addr) (m : Nat) (J : Shared → Prop) : Prop := ∀ s, J s → ∃ (xs ys : Array Value) (c c2 : Nat), s.heap.get? a = some { cls := .type "list", data := .seq xs c } ∧ s.heap.get? b = some { cls := .type "list", data := .seq ys c2 } ∧ xs.size = m ∧ ys.size = m
def ItemsL (prog : Program) (w : World) (A : Around) (E : Value → Shared → Prop) (a b : Addr) (m : Nat) (J : Shared → Prop) (I : Nat → Shared → Prop) (F : Shared → Prop) : Prop :=
  ∀ i s (xs ys : Array Value) (c c2 : Nat), J s → I i s → s.heap.get? a = some { cls := .type "list", data := .seq xs c } → s.heap.get? b = some { cls := .type "list", data := .seq ys c2 } →
    ∀ (h1 : i < xs.size) (h2 : i < ys.size), wpAny (model prog w) A (eqBool xs[i] ys[i]) (fun r s' => J s' ∧ (r = true → I (i + 1) s') ∧ (r = false → F s')) E s
/-- code 2: ==, 3: != -/
theorem loopJ {neg : Bool} {cd : Int} (hcd : cd = if neg = true then 3 else 2) {a b : Addr} {m : Nat} {J : Shared → Prop} {I : Nat → Shared → Prop} {F : Shared → Prop} (hJ : TwoL a b m J) (turn : ItemsL prog w A.in1 (fun e s' => R (.error e) s') a b m J I F)
    (fin : ∀ s, J s → I m s → R (.ok (.ret (.bool (!neg)))) s) (bad : ∀ s, J s → F s → R (.ok (.ret (.bool neg))) s) (k : Nat) :
    ∀ i : Nat, m - i = k → i ≤ m → ∀ s, J s → I i s → wpAny (model prog w) A.in1 (Builtin.«list.__eq__.loop» ⟨[.ref a, .ref b, rawInt i, rawInt cd], []⟩)
      (fun fin s' => match fin with | .done f => R (.ok f) s' | .again c' => c'.quiet = true ∧ codeAny (model prog w) A c' R s') (fun e s' => R (.error e) s') s := by
  induction k with
  | zero =>
    intro i hk hi s j h
    obtain ⟨xs, ys, c, c2, ea, eb, n1, n2⟩ := hJ s j
    have last : i = m := by omega
    have done := fin s j (last ▸ h)
    obtain ⟨hp, g, d, tk, os⟩ := s
    have no1 : xs[((i : Nat) : Int).toNat]? = none := by simp; omega
    have no2 : ys[((i : Nat) : Int).toNat]? = none := by simp; omega
    cases neg with
    | false =>
      subst hcd
      simp only [Bool.false_eq_true, if_false]
      wp_walk using wpAny_loadPart' ea, wpAny_loadPart' eb
      rw [no1, no2]
      wp_walk using wpAny_loadPart' ea, wpAny_loadPart' eb
      show R (.ok (.ret (.bool (xs.size == ys.size)))) _
      rw [n1, n2]
      simpa using done
    | true =>
      subst hcd
      simp only [if_true]
      wp_walk using wpAny_loadPart' ea, wpAny_loadPart' eb
      rw [no1, no2]
      wp_walk using wpAny_loadPart' ea, wpAny_loadPart' eb
      show R (.ok (.ret (.bool (xs.size != ys.size)))) _
      rw [n1, n2]
      simpa using done
  | succ k ih =>
    intro i hk hi s j h
    obtain ⟨xs, ys, c, c2, ea, eb, n1, n2⟩ := hJ s j
    have l1 : i < xs.size := by omega
    have l2 : i < ys.size := by omega
    have go := turn i s xs ys c c2 j h ea eb l1 l2
    obtain ⟨hp, g, d, tk, os⟩ := s
    have it1 : xs[((i : Nat) : Int).toNat]? = some xs[i] := by simp [l1]
    have it2 : ys[((i : Nat) : Int).toNat]? = some ys[i] := by simp [l2]
    have nx : ((i : Int) + 1) = ((i + 1 : Nat) : Int) := by omega
    cases neg with
    | false =>
      simp only [Bool.false_eq_true, if_false] at hcd
      subst hcd
      wp_walk using wpAny_loadPart' ea, wpAny_loadPart' eb
      rw [it1, it2]
      refine wpAny_bind (wpAny_mono go (fun r s2 q => ?_) fun _ _ x => x)
      obtain ⟨j2, q1, q2⟩ := q
      cases r with
      | true =>
        have more := ih (i + 1) (by omega) (by omega) s2 j2 (q1 rfl)
        obtain ⟨hp2, g2, d2, tk2, os2⟩ := s2
        wp_walk
        rw [nx]
        refine ⟨plainId_quiet plain_eq_loop _, codeAny_builtin entry_eq_loop ?_⟩
        rw [Around.under_plainId plain_eq_loop _]
        exact more
      | false =>
        obtain ⟨xs2, ys2, c3, c4, ea2, eb2, n3, n4⟩ := hJ s2 j2
        have out := bad s2 j2 (q2 rfl)
        obtain ⟨hp2, g2, d2, tk2, os2⟩ := s2
        have k1 : xs2[((i : Nat) : Int).toNat]? = some (xs2[i]'(by omega)) := by rw [Int.toNat_natCast]; exact Array.getElem?_eq_getElem _
        have k2 : ys2[((i : Nat) : Int).toNat]? = some (ys2[i]'(by omega)) := by rw [Int.toNat_natCast]; exact Array.getElem?_eq_getElem _
        wp_walk using wpAny_loadPart' ea2, wpAny_loadPart' eb2
        rw [k1, k2]
        wp_walk
        exact out
    | true =>
      simp only [if_true] at hcd
      subst hcd
      wp_walk using wpAny_loadPart' ea, wpAny_loadPart' eb
      rw [it1, it2]
      refine wpAny_bind (wpAny_mono go (fun r s2 q => ?_) fun _ _ x => x)
      obtain ⟨j2, q1, q2⟩ := q
      cases r with
      | true =>
        have more := ih (i + 1) (by omega) (by omega) s2 j2 (q1 rfl)
        obtain ⟨hp2, g2, d2, tk2, os2⟩ := s2
        wp_walk
        rw [nx]
        refine ⟨plainId_quiet plain_eq_loop _, codeAny_builtin entry_eq_loop ?_⟩
        rw [Around.under_plainId plain_eq_loop _]
        exact more
      | false =>
        obtain ⟨xs2, ys2, c3, c4, ea2, eb2, n3, n4⟩ := hJ s2 j2
        have out := bad s2 j2 (q2 rfl)
        obtain ⟨hp2, g2, d2, tk2, os2⟩ := s2
        have k1 : xs2[((i : Nat) : Int).toNat]? = some (xs2[i]'(by omega)) := by rw [Int.toNat_natCast]; exact Array.getElem?_eq_getElem _
        have k2 : ys2[((i : Nat) : Int).toNat]? = some (ys2[i]'(by omega)) := by rw [Int.toNat_natCast]; exact Array.getElem?_eq_getElem _
        wp_walk using wpAny_loadPart' ea2, wpAny_loadPart' eb2
        rw [k1, k2]
        wp_walk
        exact out
theorem listJ {neg : Bool} {a b : Addr} {m : Nat} {J : Shared → Prop} {I : Nat → Shared → Prop} {F : Shared → Prop} (hJ : TwoL a b m J) (turn : ItemsL prog w A.in1 (fun e s' => R (.error e) s') a b m J I F)
    (fin : ∀ s, J s → I m s → R (.ok (.ret (.bool (!neg)))) s) (bad : ∀ s, J s → F s → R (.ok (.ret (.bool neg))) s) {s : Shared} (j : J s) (h : I 0 s) :
    wpAny (model prog w) A.in1 ((if neg = true then Builtin.«list.__ne__» else Builtin.«list.__eq__») ⟨[.ref a, .ref b], []⟩)
      (fun fin s' => match fin with | .done f => R (.ok f) s' | .again c' => c'.quiet = true ∧ codeAny (model prog w) A c' R s') (fun e s' => R (.error e) s') s := by
  obtain ⟨xs, ys, c, c2, ea, eb, n1, n2⟩ := hJ s j
  have go := loopJ (A := A) (R := R) (neg := neg) rfl hJ turn fin bad _ 0 rfl (Nat.zero_le _) s j h
  obtain ⟨hp, g, d, tk, os⟩ := s
  have ll := AutoSeq1.sub_list_list
  have same : ¬ (xs.size != ys.size) = true := by simp [n1, n2]
  cases neg with
  | false =>
    simp only [Bool.false_eq_true, if_false] at go ⊢
    wp_walk using wpAny_loadPart' ea, wpAny_loadPart' eb
    refine ⟨plainId_quiet plain_eq_loop _, codeAny_builtin entry_eq_loop ?_⟩
    rw [Around.under_plainId plain_eq_loop _]
    exact go
  | true =>
    simp only [if_true] at go ⊢
    wp_walk using wpAny_loadPart' ea, wpAny_loadPart' eb
    refine ⟨plainId_quiet plain_eq_loop _, codeAny_builtin entry_eq_loop ?_⟩
    rw [Around.under_plainId plain_eq_loop _]
    exact go
def ItemsT (prog : Program) (w : World) (A : Around) (E : Value → Shared → Prop) (xs ys : Array Value) (J : Shared → Prop) (I : Nat → Shared → Prop) (F : Shared → Prop) : Prop :=
  ∀ i s, J s → I i s → ∀ (h1 : i < xs.size) (h2 : i < ys.size), wpAny (model prog w) A (eqBool xs[i] ys[i]) (fun r s' => J s' ∧ (r = true → I (i + 1) s') ∧ (r = false → F s')) E s
theorem tupJ {neg : Bool} {a b : Addr} {xs ys : Array Value} {c c2 : Nat} {d1 d2 : Option Addr} {s1 s2 : Array (Option Value)} {J : Shared → Prop} {I : Nat → Shared → Prop} {F : Shared → Prop} (turn : ItemsT prog w A.in1 (fun e s' => R (.error e) s') xs ys J I F)
    (fin : ∀ s, J s → I (min xs.size ys.size) s → R (.ok (.ret (.bool (if xs.size = ys.size then !neg else neg)))) s) (bad : ∀ s, J s → F s → R (.ok (.ret (.bool neg))) s) {s : Shared}
    (ea : s.heap.get? a = some { cls := .type "tuple", dict := d1, data := .seq xs c, slots := s1 }) (eb : s.heap.get? b = some { cls := .type "tuple", dict := d2, data := .seq ys c2, slots := s2 }) (j : J s) (h : I 0 s) :
    wpAny (model prog w) A.in1 ((if neg = true then Builtin.«tuple.__ne__» else Builtin.«tuple.__eq__») ⟨[.ref a, .ref b], []⟩)
      (fun fin s' => match fin with | .done f => R (.ok f) s' | .again c' => c'.quiet = true ∧ codeAny (model prog w) A c' R s') (fun e s' => R (.error e) s') s := by
  have tt := AutoSeq1.sub_tuple_tuple
  have hz : (xs.toList.zip ys.toList).length = min xs.size ys.size := by simp
  have step : ∀ (y x : Value) (rest : List (Value × Value)) (i : Nat), (y, x) :: rest = (xs.toList.zip ys.toList).drop i → ∃ (h1 : i < xs.size) (h2 : i < ys.size), y = xs[i] ∧ x = ys[i] ∧ rest = (xs.toList.zip ys.toList).drop (i + 1) := by
    intro y x rest i e
    have lt : i < (xs.toList.zip ys.toList).length := by
      rcases Nat.lt_or_ge i (xs.toList.zip ys.toList).length with h' | h'
      · exact h'
      · rw [List.drop_of_length_le h'] at e; cases e
    have h1 : i < xs.size := by omega
    have h2 : i < ys.size := by omega
    rw [List.drop_eq_getElem_cons lt] at e
    injection e with e1 e2
    exact ⟨h1, h2, by simpa using congrArg Prod.fst e1, by simpa using congrArg Prod.snd e1, e2⟩
  have over : ∀ i : Nat, [] = (xs.toList.zip ys.toList).drop i → i ≤ min xs.size ys.size → i = min xs.size ys.size := by
    intro i e hi
    rcases Nat.lt_or_ge i (xs.toList.zip ys.toList).length with h' | h'
    · rw [List.drop_eq_getElem_cons h'] at e; cases e
    · omega
  have j0 := j
  have h0 := h
  obtain ⟨hp, g, d, tk, os⟩ := s
  cases neg with
  | false =>
    simp only [Bool.false_eq_true, if_false]
    wp_walk using wpAny_loadPart' ea, wpAny_loadPart' eb, wpAny_forIn_list _ (fun rest q s' => q.1 = none ∧ J s' ∧ ∃ i, rest = (xs.toList.zip ys.toList).drop i ∧ i ≤ min xs.size ys.size ∧ I i s') _
    case turn =>
      rintro ⟨y, x⟩ rest q s' ⟨hq, js, i, e, hi, hI⟩
      obtain ⟨h1, h2, rfl, rfl, er⟩ := step _ _ _ _ e
      refine wpAny_bind (wpAny_mono (turn i s' js hI h1 h2) (fun r s2 z => ?_) fun _ _ x => x)
      obtain ⟨j2, q1, q2⟩ := z
      cases r with
      | true =>
        have more := q1 rfl
        wp_walk
        exact ⟨rfl, j2, i + 1, er, by omega, more⟩
      | false =>
        have out := bad s2 j2 (q2 rfl)
        wp_walk
        exact out
    case fin =>
      rintro ⟨q1, q2⟩ s' ⟨hq, js, i, e, hi, hI⟩
      simp only at hq
      subst hq
      have out := fin s' js (over i e hi ▸ hI)
      wp_walk
      by_cases hs : xs.size = ys.size
      · rw [if_pos hs] at out
        simpa [Builtin.Tuple.tupleCompareSizes, hs] using out
      · rw [if_neg hs] at out
        have : (xs.size == ys.size) = false := by simpa using hs
        simpa [Builtin.Tuple.tupleCompareSizes, this] using out
    case h =>
      exact ⟨rfl, j0, 0, rfl, Nat.zero_le _, h0⟩
  | true =>
    simp only [if_true]
    wp_walk using wpAny_loadPart' ea, wpAny_loadPart' eb, wpAny_forIn_list _ (fun rest q s' => q.1 = none ∧ J s' ∧ ∃ i, rest = (xs.toList.zip ys.toList).drop i ∧ i ≤ min xs.size ys.size ∧ I i s') _
    case turn =>
      rintro ⟨y, x⟩ rest q s' ⟨hq, js, i, e, hi, hI⟩
      obtain ⟨h1, h2, rfl, rfl, er⟩ := step _ _ _ _ e
      refine wpAny_bind (wpAny_mono (turn i s' js hI h1 h2) (fun r s2 z => ?_) fun _ _ x => x)
      obtain ⟨j2, q1, q2⟩ := z
      cases r with
      | true =>
        have more := q1 rfl
        wp_walk
        exact ⟨rfl, j2, i + 1, er, by omega, more⟩
      | false =>
        have out := bad s2 j2 (q2 rfl)
        wp_walk
        exact out
    case fin =>
      rintro ⟨q1, q2⟩ s' ⟨hq, js, i, e, hi, hI⟩
      simp only at hq
      subst hq
      have out := fin s' js (over i e hi ▸ hI)
      wp_walk
      by_cases hs : xs.size = ys.size
      · rw [if_pos hs] at out
        simpa [Builtin.Tuple.tupleCompareSizes, hs, bne] using out
      · rw [if_neg hs] at out
        have : (xs.size == ys.size) = false := by simpa using hs
        simpa [Builtin.Tuple.tupleCompareSizes, this, bne] using out
    case h =>
      exact ⟨rfl, j0, 0, rfl, Nat.zero_le _, h0⟩
end
end PySem.SeqAt
set_option Elab.async false
set_option linter.all false
set_option maxRecDepth 100000
set_option maxHeartbeats 4000000
namespace PySem.SeqAt
section
variable {prog : Program} {w : World} {A : Around} {E : Value → Shared → Prop} {Q : Bool → Shared → Prop}
theorem rcJ_list {neg : Bool} {a b : Addr} {m : Nat} {J : Shared → Prop} {I : Nat → Shared → Prop} {Fb : Shared → Prop} (hu : A.units < cLine) (hJ : TwoL a b m J) (turn : ItemsL prog w A.in1 E a b m J I Fb)
    (fin : ∀ s, J s → I m s → Q (!neg) s) (bad : ∀ s, J s → Fb s → Q neg s) {s : Shared} (j : J s) (h : I 0 s) : wpAny (model prog w) A (richCompare (if neg = true then .NotEq else .Eq) (.ref a) (.ref b)) (fun v s' => ∃ r, v = .bool r ∧ Q r s') E s := by
  obtain ⟨xs, ys, c, c2, ea, eb, _, _⟩ := hJ s j
  have go := listJ (A := A) (R := wants (fun v s' => v ≠ .notImplemented ∧ ∃ r, v = .bool r ∧ Q r s') E) (neg := neg) hJ turn (fun s' j' q => ⟨(fun x => nomatch x), _, rfl, fin s' j' q⟩) (fun s' j' q => ⟨(fun x => nomatch x), _, rfl, bad s' j' q⟩) j h
  cases neg with
  | false => exact wpAny_richCompare_same_room (op := .Eq) ⟨_, ea, rfl⟩ ⟨_, eb, rfl⟩ F.slot_list_eq (GQ.call_here F.slot_list_eq ⟨_, ea, rfl⟩ F.entry_list_eq (F.args_list_eq_2 _ _) go) hu
  | true => exact wpAny_richCompare_same_room (op := .NotEq) ⟨_, ea, rfl⟩ ⟨_, eb, rfl⟩ F.slot_list_ne (GQ.call_here F.slot_list_ne ⟨_, ea, rfl⟩ F.entry_list_ne (F.args_list_ne_2 _ _) go) hu
theorem rcJ_lens {neg : Bool} {a b : Addr} {xs ys : Array Value} {s : Shared} (hu : A.units < cLine) (ha : s.heap.IsList a xs) (hb : s.heap.IsList b ys) (hn : xs.size ≠ ys.size) (h : Q neg s) :
    wpAny (model prog w) A (richCompare (if neg = true then .NotEq else .Eq) (.ref a) (.ref b)) (fun v s' => ∃ r, v = .bool r ∧ Q r s') E s := by
  have hn' : (xs.size != ys.size) = true := bne_iff_ne.mpr hn
  cases neg with
  | false => exact RcAt.lists_lengths ha hb hn' hu prog w E _ ⟨_, rfl, h⟩
  | true => exact RcNeAt.lists_lengths ha hb hn' hu prog w E _ ⟨_, rfl, h⟩
theorem rcJ_tup {neg : Bool} {a b : Addr} {xs ys : Array Value} {J : Shared → Prop} {I : Nat → Shared → Prop} {Fb : Shared → Prop} {s : Shared} (hu : A.units < cLine) (ha : s.heap.IsTuple a xs) (hb : s.heap.IsTuple b ys) (turn : ItemsT prog w A.in1 E xs ys J I Fb)
    (fin : ∀ s, J s → I (min xs.size ys.size) s → Q (if xs.size = ys.size then !neg else neg) s) (bad : ∀ s, J s → Fb s → Q neg s) (j : J s) (h : I 0 s) : wpAny (model prog w) A (richCompare (if neg = true then .NotEq else .Eq) (.ref a) (.ref b)) (fun v s' => ∃ r, v = .bool r ∧ Q r s') E s := by
  obtain ⟨⟨k1, d1, da1, s1⟩, e1, t1, n1, q1⟩ := id ha
  obtain ⟨⟨k2, d2, da2, s2⟩, e2, t2, n2, q2⟩ := id hb
  simp only at t1 q1 t2 q2
  subst t1 q1 t2 q2
  have go := tupJ (A := A) (R := wants (fun v s' => v ≠ .notImplemented ∧ ∃ r, v = .bool r ∧ Q r s') E) (neg := neg) turn (fun s' j' q => ⟨(fun x => nomatch x), _, rfl, fin s' j' q⟩) (fun s' j' q => ⟨(fun x => nomatch x), _, rfl, bad s' j' q⟩) e1 e2 j h
  cases neg with
  | false => exact wpAny_richCompare_same_room (op := .Eq) ⟨_, e1, rfl⟩ ⟨_, e2, rfl⟩ F.slot_tuple_eq (GQ.call_here F.slot_tuple_eq ⟨_, e1, rfl⟩ F.entry_tuple_eq (F.args_tuple_eq_2 _ _) go) hu
  | true => exact wpAny_richCompare_same_room (op := .NotEq) ⟨_, e1, rfl⟩ ⟨_, e2, rfl⟩ F.slot_tuple_ne (GQ.call_here F.slot_tuple_ne ⟨_, e1, rfl⟩ F.entry_tuple_ne (F.args_tuple_ne_2 _ _) go) hu
end
end PySem.SeqAt
namespace Uv
open PySem L2 Inn PySem.Spec PyProof.Rows
/-! ### == in depth -/
def flatD : D → Option V
  | .int i => some (.int i)
  | .bl b => some (.bl b)
  | .str x => some (.str x)
  | .non => some .non
  | _ => none
def easyD : D → Bool
  | .int _ => true
  | .non => true
  | .str _ => true
  | .ins _ _ => true
  | _ => false
/-- own == by class -/
abbrev OwnE := Nat → List D → M D
def cmpE (x y : D) : Option Bool := match flatD x, flatD y with
  | some u, some v => some (eqV u v)
  | _, _ => none
def whenB (o : Option Bool) (R : Bool → Prop) : Prop := match o with
  | some b => R b
  | none => False
def flatE (x y : D) : M Bool := fun R => whenB (cmpE x y) R
theorem flatE_ex {x y : D} {R : Bool → Prop} (h : flatE x y R) : ∃ u v, flatD x = some u ∧ flatD y = some v ∧ R (eqV u v) := by
  have h : whenB (cmpE x y) R := h
  unfold cmpE at h
  cases hu : flatD x with
  | none => rw [hu] at h; exact h.elim
  | some u =>
    cases hv : flatD y with
    | none => rw [hu, hv] at h; exact h.elim
    | some v =>
      rw [hu, hv] at h
      exact ⟨u, v, rfl, rfl, h⟩
def eq0 (s : OwnE) : D → D → M Bool := fun x y R => match x with
  | .ins c l => easyD y = true ∧ tst (s c [.ins c l, y]) R
  | x => flatE x y R
def eqS (f : D → D → M Bool) : List D → List D → M Bool
  | x :: xs, y :: ys => fun R => f x y fun b => ite2 b (eqS f xs ys R) (R false)
  | [], [] => rt true
  | _, _ => rt false
def eqL (f : D → D → M Bool) (a b : List D) : M Bool := if a.length = b.length then eqS f a b else rt false
def eq1 (s : OwnE) (f : D → D → M Bool) : D → D → M Bool := fun x y R => match x, y with
  | .lst a, .lst b => eqL f a b R
  | .tup a, .tup b => eqS f a b R
  | x, y => eq0 s x y R
/-- to the depth n -/
def eqD (s : OwnE) : Nat → D → D → M Bool
  | 0 => eq0 s
  | n + 1 => eq1 s (eqD s n)
def eqG (s : OwnE) (n : Nat) : D → D → M D := fun x y R => eqD s n x y fun b => R (.bl b)
def neG (s : OwnE) (n : Nat) : D → D → M D := fun x y R => eqD s n x y fun b => R (.bl (!b))
/-- a value is equal to itself -/
def SameE (f : D → D → M Bool) : Prop := ∀ (T : Ct) (N P : Addr → Prop) (H : Hp) (v : V) (a b : D) (R : Bool → Prop), (∀ c c', c < T.n → c' < T.n → T.at_ c = T.at_ c' → c = c') → IsD T N P H v a → IsD T N P H v b → f a b R → R true
def SameOwn (s : OwnE) : Prop := ∀ (T : Ct) (N P : Addr → Prop) (H : Hp) (us : List V) (c : Nat) (a b : List D) (R : Bool → Prop), (∀ c c', c < T.n → c' < T.n → T.at_ c = T.at_ c' → c = c') → IsDs T N P H us a → IsDs T N P H us b → tst (s c [.ins c a, .ins c b]) R → R true
theorem eqV_refl (v : V) (h : flatV v = true) : eqV v v = true := by
  cases v <;> first | rfl | exact absurd (show false = true from h) Bool.false_ne_true | (unfold eqV; simp)
theorem zip_inj {fs : List Str} : ∀ {us us' : List V}, us.length = fs.length → us'.length = fs.length → fs.zip us = fs.zip us' → us = us' := by
  induction fs with
  | nil =>
    intro us us' h h' _
    rw [List.length_eq_zero_iff.mp h, List.length_eq_zero_iff.mp h']
  | cons g gs ih =>
    intro us us' h h' e
    cases us with
    | nil => cases h
    | cons u us =>
      cases us' with
      | nil => cases h'
      | cons u' us' =>
        rw [List.zip_cons_cons, List.zip_cons_cons] at e
        injection e with e1 e2
        rw [ih (Nat.succ.inj h) (Nat.succ.inj h') e2, (Prod.mk.inj e1).2]
theorem same0 {s : OwnE} (hs : SameOwn s) : SameE (eq0 s) := by
  intro T N P H v a b R inj ha hb h
  unfold eq0 at h
  split at h
  · obtain ⟨he, h⟩ := h
    cases ha with | ins hc n e hl hds =>
    cases hb with
    | ins hc2 n2 e2 hl2 hds2 =>
      rw [e] at e2
      injection e2 with e2
      injection e2 with e3 e4 e5
      have ec := inj _ _ hc hc2 e3
      subst ec
      have eu := zip_inj hl hl2 e5
      subst eu
      exact hs T N P H _ _ _ _ R inj hds hds2 h
    | lst n2 e2 _ => rw [e] at e2; cases e2
    | tup n2 e2 _ => rw [e] at e2; cases e2
    | dct n2 e2 _ _ => rw [e] at e2; cases e2
    | pot _ => cases he
    | cls => cases he
  · obtain ⟨u, w, hu, hw, h⟩ := flatE_ex h
    have key : ∀ {x : D} {z : V}, IsD T N P H v x → flatD x = some z → v = z ∧ flatV z = true := by
      intro x z hx hz
      cases hx <;> cases hz <;> exact ⟨rfl, rfl⟩
    obtain ⟨e1, f1⟩ := key ha hu
    obtain ⟨e2, _⟩ := key hb hw
    rw [← e2, ← e1, eqV_refl v (e1 ▸ f1)] at h
    exact h
theorem sameS {f : D → D → M Bool} (hf : SameE f) {T : Ct} {N P : Addr → Prop} {H : Hp} (inj : ∀ c c', c < T.n → c' < T.n → T.at_ c = T.at_ c' → c = c') {R : Bool → Prop} : ∀ {us : List V} {a b : List D}, IsDs T N P H us a → IsDs T N P H us b → eqS f a b R → R true
  | _, _, _, .nil, .nil, h => h
  | _, _, _, .cons h1 t1, .cons h2 t2, h => sameS hf inj t1 t2 (hf T N P H _ _ _ _ inj h1 h2 h)
theorem sameD {s : OwnE} (hs : SameOwn s) : ∀ n : Nat, SameE (eqD s n)
  | 0 => same0 hs
  | n + 1 => by
    intro T N P H v a b R inj ha hb h
    have h : eq1 s (eqD s n) a b R := h
    unfold eq1 at h
    split at h
    · cases ha with | lst _ e hd =>
      cases hb with | lst _ e2 hd2 =>
      rw [e] at e2
      injection e2 with e2
      injection e2 with e2
      subst e2
      unfold eqL at h
      rw [if_pos (hd.len.symm.trans hd2.len)] at h
      exact sameS (sameD hs n) inj hd hd2 h
    · cases ha with | tup _ e hd =>
      cases hb with | tup _ e2 hd2 =>
      rw [e] at e2
      injection e2 with e2
      injection e2 with e2
      subst e2
      exact sameS (sameD hs n) inj hd hd2 h
    · exact same0 hs T N P H v a b R inj ha hb h
end Uv
set_option Elab.async false
set_option linter.all false
set_option maxRecDepth 100000
set_option maxHeartbeats 4000000
namespace PySem.SeqAt
theorem eqBool_rc {prog : Program} {w : World} {A : Around} {E : Value → Shared → Prop} {s : Shared} {l : Addr} {v : Value} {Q : Bool → Shared → Prop} (hne : Value.ref l ≠ v) (h : wpAny (model prog w) A (richCompare .Eq (.ref l) v) (fun z s' => ∃ r, z = .bool r ∧ Q r s') E s) : wpAny (model prog w) A (eqBool (.ref l) v) Q E s := by
  unfold eqBool
  refine wpAny_holding (wpAny_ite_split (fun e => absurd (eq_of_beq e) hne) fun _ => wpAny_bind (wpAny_mono h (fun z s' hz => ?_) fun _ _ e => e))
  obtain ⟨r, rfl, q⟩ := hz
  exact wpAny_truthy_bool q
theorem eqBool_is {prog : Program} {w : World} {A : Around} {E : Value → Shared → Prop} {s : Shared} {u : Value} {Q : Bool → Shared → Prop} (h : Q true s) : wpAny (model prog w) A (eqBool u u) Q E s := EqAt.same (A := A) (s := s) u prog w E Q h
end PySem.SeqAt
namespace Uv
open PySem L2 Inn PySem.Spec PyProof.Rows
structure EqsB (T : Ct) (P : Program) (w : World) (K : PySem.W.Frag) (mg : Str → Option Value) (base : Heap) (k : Nat) (s : OwnE) : Prop where
  all : ∀ c, c < T.n → (∀ ds R, ¬ s c ds R) ∨ ∃ f fd ps b, EqF K (T.at_ c) f ∧ FnOk P w K mg base CX0 k f fd ps (SpD T b 2 (s c)) ∧ L2.Binds K fd ps []
  same : SameOwn s
  inj : ∀ c c', c < T.n → c' < T.n → T.at_ c = T.at_ c' → c = c'
  sub2 : ∀ c c', c < T.n → c' < T.n → c ≠ c' → PySem.W.subIn K (.ref (T.at_ c')) (.ref (T.at_ c)) = some false
section
variable {T : Ct} {X : Cx} {W : Wo} {k n : Nat} {s : OwnE}
/-- what comes of an own == or of one in depth -/
def EqO (X : Cx) (W : Wo) (pins : List (Addr × Obj)) (σ : L2.St) (H : Hp) (R : Bool → Prop) (r : Bool) (s' : Shared) : Prop := R r ∧ ∃ H', Inv X pins σ H' s' ∧ Up W.toWld H H' ∧ W.I H'
def RunE (T : Ct) (X : Cx) (W : Wo) (k : Nat) (f : D → D → M Bool) : Prop :=
  ∀ (A : Around) (pins : List (Addr × Obj)) (s : Shared) (σ : L2.St) (H : Hp) (u v : V) (x y : Value) (a b : D) (R : Bool → Prop), L2.Sub X k A → Inv X pins σ H s → W.I H → Is T W H u a → Is T W H v b → RelV u x → RelV v y → f a b R →
    wpAny (model X.prog X.w) A (eqBool x y) (EqO X W pins σ H R) X.xe s
def RunC (T : Ct) (X : Cx) (W : Wo) (neg : Bool) (k : Nat) (f : D → D → M Bool) : Prop :=
  ∀ (A : Around) (pins : List (Addr × Obj)) (s : Shared) (σ : L2.St) (H : Hp) (u v : V) (x y : Value) (a b : D) (R : Bool → Prop), L2.Sub X k A → Inv X pins σ H s → W.I H → Is T W H u a → Is T W H v b → RelV u x → RelV v y → f a b R →
    wpAny (model X.prog X.w) A (richCompare (if neg = true then .NotEq else .Eq) x y) (fun z s' => ∃ r, z = .bool (if neg = true then !r else r) ∧ EqO X W pins σ H R r s') X.xe s
theorem RunE.mono {f : D → D → M Bool} (h : RunE T X W k f) (hn : k ≤ n) : RunE T X W n f := fun A pins s σ H u v x y a b R sb => h A pins s σ H u v x y a b R (sb.mono hn)
theorem looks_D {pins : List (Addr × Obj)} {st : Shared} {σ : L2.St} {H : Hp} {v : V} {u : Value} {d : D} (I : Inv X pins σ H st) (hx : Is T W H v d) (rv : RelV v u) (he : easyD d = true) : PySem.W.Looks (model X.prog X.w) st.heap (typeOf u) (tyv T d) := by
  cases hx with
  | int => obtain ⟨t, rfl⟩ := rv; exact .of_pure rfl
  | non => cases rv; exact .of_pure rfl
  | str => obtain ⟨t, rfl⟩ := rv; exact .of_pure rfl
  | ins hc nM e hl hs =>
    cases rv
    obtain ⟨mA, J, _⟩ := ins_get I.hok e
    obtain ⟨od, J, _⟩ := J.look
    exact J.type
  | _ => cases he
theorem own_run {f : Addr} {fd : FuncData} {ps : List Str} {b0 : Bool} {c : Nat} (F : FnOk X.prog X.w X.K X.mg X.base CX0 k f fd ps (SpD T b0 2 (s c))) (hbi : L2.Binds X.K fd ps []) {A : Around} {pins : List (Addr × Obj)} {st : Shared} {σ : L2.St} {H : Hp} {u v : V} {x y : Value} {a b : D} {R : Bool → Prop}
    (hr : Room k A) (fr : A.frames = X.A.frames) (I : Inv X pins σ H st) (hI : W.I H) (ha : Is T W H u a) (hb : Is T W H v b) (rx : RelV u x) (ry : RelV v y) (hm : tst (s c [a, b]) R) :
    wpAny (model X.prog X.w) A (call (.ref f) [x, y]) (fun z s' => ∃ r, z = .bool r ∧ EqO X W pins σ H R r s') X.xe st := by
  have sp : SpD T b0 2 (s c) [u, v] H (fun z H' => (∃ r, z = .bl r ∧ R r) ∧ Up W.toWld H H' ∧ W.I H') E0 :=
    ⟨W, [a, b], _, .cons ha (.cons hb .nil), rfl, hI, hm, fun d w H' hd u' i' h' _ => by
      cases h' with
      | bl => exact ⟨⟨_, rfl, hd⟩, u', i'⟩
      | _ => exact hd.elim⟩
  have hl := F.len _ _ _ _ sp
  have e0 : Env0 X.prog X.w X.K X.mg X.base A X.stack st H := by
    have e := I.env0
    exact ⟨by rw [fr]; exact e.frames, e.mod, e.bs, e.bsz, e.funs, e.frf, e.hok, e.bare⟩
  refine wpAny_call (codeAny_mono (F.run A X.stack st H ⟨[x, y], []⟩ [x, y] [u, v] _ E0 hr e0 (by
    have h := hbi st [x, y] I.kIn (by simpa using hl)
    simpa using h) (.cons rx (.cons ry .nil)) sp) fun rr s' hq => ?_)
  cases rr with
  | error e => exact False.elim hq
  | ok fl =>
    cases fl with
    | ret w =>
      obtain ⟨z, H', I', rz, ⟨r, ez, hr'⟩, ex, iz⟩ := I.after hq
      subst ez
      cases rz
      exact ⟨r, rfl, hr', H', I', ex, iz⟩
    | next => exact False.elim hq
    | brk => exact False.elim hq
    | cont => exact False.elim hq
theorem rcOwn {neg : Bool} (B : EqsB T X.prog X.w X.K X.mg X.base k s) {A : Around} {pins : List (Addr × Obj)} {st : Shared} {σ : L2.St} {H : Hp} {u v : V} {x y : Value} {c : Nat} {l : List D} {b : D} {R : Bool → Prop}
    (sb : L2.Sub X (k + 1) A) (I : Inv X pins σ H st) (hI : W.I H) (ha : Is T W H u (.ins c l)) (hb : Is T W H v b) (rx : RelV u x) (ry : RelV v y) (he : easyD b = true) (hm : tst (s c [.ins c l, b]) R) :
    wpAny (model X.prog X.w) A (richCompare (if neg = true then .NotEq else .Eq) x y) (fun z s' => ∃ r, z = .bool (if neg = true then !r else r) ∧ EqO X W pins σ H R r s') X.xe st := by
  have lk := looks_D (X := X) I hb ry he
  have hc : c < T.n := by
    cases ha with | ins hc _ _ _ _ => exact hc
  rcases B.all c hc with no | ⟨f, fd, ps, b0, E, F, hbi⟩
  · exact (no _ _ hm).elim
  have nf : PySem.W.notFirst X.K (T.at_ c) (tyv T b) = true := by
    unfold PySem.W.notFirst
    cases hb with
    | int => show (_ || PySem.W.subIn X.K (.type "int") (.ref (T.at_ c)) == some false) = true; rw [E.sub "int" (by decide)]; simp
    | non => show (_ || PySem.W.subIn X.K (.type "NoneType") (.ref (T.at_ c)) == some false) = true; rw [E.sub "NoneType" (by decide)]; simp
    | str => show (_ || PySem.W.subIn X.K (.type "str") (.ref (T.at_ c)) == some false) = true; rw [E.sub "str" (by decide)]; simp
    | @ins p2 dx2 c2 us2 l2 hc2 _ _ _ _ =>
      by_cases e : c2 = c
      · subst e
        show (Value.ref (T.at_ c2) == Value.ref (T.at_ c2) || _) = true
        simp
      · show (_ || PySem.W.subIn X.K (.ref (T.at_ c2)) (.ref (T.at_ c)) == some false) = true
        rw [B.sub2 c c2 hc hc2 (fun z => e z.symm)]
        simp
    | _ => cases he
  have ha0 := ha
  cases ha with | ins hc nM e1 hl hs =>
  cases rx
  obtain ⟨mA, J, _⟩ := ins_get I.hok e1
  obtain ⟨od, J, _⟩ := J.look
  obtain ⟨m, hF⟩ := I.fr
  cases neg with
  | false =>
    refine PySem.W.cmp_K (op := .Eq) sb.room.units0 hF I.ok.mod.kin J lk nf E.at_ E.isf ?_
    refine wpAny_mono (own_run F hbi (sb.room.mono (Nat.le_succ _)) sb.fr I hI ha0 hb rfl ry hm) (fun z s' q => ?_) fun _ _ e => e
    obtain ⟨r, rfl, q⟩ := q
    exact ⟨r, rfl, q⟩
  | true =>
    refine PySem.W.ne_K (by have := sb.room.un; omega) I.kIn J lk nf E.ne E.hm E.at_ E.isf ?_
    refine wpAny_mono (own_run F hbi sb.room.in1 sb.fr I hI ha0 hb rfl ry hm) (fun z s' q => ?_) fun _ _ e => e
    obtain ⟨r, rfl, q⟩ := q
    exact ⟨r, rfl, r, rfl, q⟩
theorem run0 (B : EqsB T X.prog X.w X.K X.mg X.base k s) : RunE T X W (k + 1) (eq0 s) := by
  intro A pins st σ H u v x y a b R sb I hI ha hb rx ry h
  have h0 := h
  unfold eq0 at h
  split at h
  · obtain ⟨he, hm⟩ := h
    by_cases hxy : x = y
    · subst hxy
      have huv : u = v := by
        have ha0 := ha
        cases ha with | ins hc nM e1 hl hs =>
        cases rx
        cases hb with
        | int => obtain ⟨t, z⟩ := ry; cases z
        | str => obtain ⟨t, z⟩ := ry; cases z
        | non => cases ry
        | ins hc2 nM2 e2 hl2 hs2 => cases ry; rfl
        | _ => cases he
      subst huv
      exact PySem.SeqAt.eqBool_is ⟨same0 B.same T W.M W.P H u _ _ R B.inj ha hb h0, H, I, Up.refl _, hI⟩
    · have hx : ∃ p, x = .ref p := by
        cases ha
        cases rx
        exact ⟨_, rfl⟩
      obtain ⟨p, rfl⟩ := hx
      exact PySem.SeqAt.eqBool_rc hxy (wpAny_mono (rcOwn (neg := false) B sb I hI ha hb rx ry he hm) (fun z s' q => q) fun _ _ e => e)
  · obtain ⟨z1, z2, e1, e2, hr⟩ := flatE_ex h
    have key : ∀ {v : V} {x : D} {z : V}, Is T W H v x → flatD x = some z → v = z ∧ flatV z = true := by
      intro v x z hx hz
      cases hx <;> cases hz <;> exact ⟨rfl, rfl⟩
    obtain ⟨rfl, f1⟩ := key ha e1
    obtain ⟨rfl, f2⟩ := key hb e2
    exact eqAt_V (A := A) (s := st) rx ry f1 f2 X.prog X.w X.xe _ ⟨hr, H, I, Up.refl _, hI⟩
end
end Uv
set_option Elab.async false
set_option linter.all false
set_option maxRecDepth 100000
set_option maxHeartbeats 4000000
namespace Uv
open PySem L2 Inn PySem.Spec PyProof.Rows
section
variable {T : Ct} {X : Cx} {W : Wo} {k n : Nat} {s : OwnE} {f : D → D → M Bool}
def JJ (X : Cx) (W : Wo) (pins : List (Addr × Obj)) (σ : L2.St) (H : Hp) (s' : Shared) : Prop := ∃ H', Inv X pins σ H' s' ∧ Up W.toWld H H' ∧ W.I H'
theorem eqS_step {la lb : List D} {i : Nat} {R : Bool → Prop} (h : eqS f (la.drop i) (lb.drop i) R) {a b : D} (h1 : la[i]? = some a) (h2 : lb[i]? = some b) : f a b fun r => ite2 r (eqS f (la.drop (i + 1)) (lb.drop (i + 1)) R) (R false) := by
  obtain ⟨l1, e1⟩ := List.getElem?_eq_some_iff.mp h1
  obtain ⟨l2, e2⟩ := List.getElem?_eq_some_iff.mp h2
  rw [List.drop_eq_getElem_cons l1, List.drop_eq_getElem_cons l2, e1, e2] at h
  exact h
theorem eqS_over {la lb : List D} {R : Bool → Prop} (h : eqS f (la.drop (min la.length lb.length)) (lb.drop (min la.length lb.length)) R) : R (decide (la.length = lb.length)) := by
  rcases Nat.lt_trichotomy la.length lb.length with l | l | l
  · rw [Nat.min_eq_left (Nat.le_of_lt l), List.drop_length, List.drop_eq_getElem_cons l] at h
    rw [decide_eq_false (Nat.ne_of_lt l)]
    exact h
  · rw [l, Nat.min_self] at h
    have e1 : la.drop lb.length = [] := by rw [← l, List.drop_length]
    rw [e1, List.drop_length] at h
    rw [decide_eq_true l]
    exact h
  · rw [Nat.min_eq_right (Nat.le_of_lt l), List.drop_length, List.drop_eq_getElem_cons l] at h
    rw [decide_eq_false (Nat.ne_of_gt l)]
    exact h
theorem turnJ (hf : RunE T X W k f) {A : Around} (sb : L2.Sub X k A) {pins : List (Addr × Obj)} {σ : L2.St} {H : Hp} {us vs : List V} {la lb : List D} {xs ys : Array Value} {its its2 : List Value} {R : Bool → Prop}
    (ha : Iss T W H us la) (hb : Iss T W H vs lb) (rx : Vals us its) (ry : Vals vs its2) (e1 : xs = its.toArray) (e2 : ys = its2.toArray) (i : Nat) (st : Shared) (j : JJ X W pins σ H st) (h : eqS f (la.drop i) (lb.drop i) R) (h1 : i < xs.size) (h2 : i < ys.size) :
    wpAny (model X.prog X.w) A (eqBool xs[i] ys[i]) (fun r s' => JJ X W pins σ H s' ∧ (r = true → eqS f (la.drop (i + 1)) (lb.drop (i + 1)) R) ∧ (r = false → R false)) X.xe st := by
  subst e1 e2
  obtain ⟨H1, I1, u1, i1⟩ := j
  have k1 : i < us.length := by rw [rx.length]; simpa using h1
  have k2 : i < vs.length := by rw [ry.length]; simpa using h2
  obtain ⟨x, ex, rx1⟩ := rx.get (List.getElem?_eq_getElem k1)
  obtain ⟨y, ey, ry1⟩ := ry.get (List.getElem?_eq_getElem k2)
  obtain ⟨a, ea, ha1⟩ := ha.getL (List.getElem?_eq_getElem k1)
  obtain ⟨b, eb, hb1⟩ := hb.getL (List.getElem?_eq_getElem k2)
  have g1 : its.toArray[i] = x := by
    have : i < its.length := by simpa using h1
    rw [List.getElem?_eq_getElem this] at ex
    simpa using Option.some.inj ex
  have g2 : its2.toArray[i] = y := by
    have : i < its2.length := by simpa using h2
    rw [List.getElem?_eq_getElem this] at ey
    simpa using Option.some.inj ey
  rw [g1, g2]
  refine wpAny_mono (hf A pins st σ H1 _ _ x y a b _ sb I1 i1 (Is.up u1 ha1) (Is.up u1 hb1) rx1 ry1 (eqS_step h ea eb)) (fun r s' q => ?_) fun _ _ e => e
  obtain ⟨hr, H2, I2, u2, i2⟩ := q
  refine ⟨⟨H2, I2, u1.trans u2, i2⟩, fun z => ?_, fun z => ?_⟩ <;> subst z <;> exact hr
theorem rcLst {neg : Bool} (hf : RunE T X W k f) {A : Around} {pins : List (Addr × Obj)} {st : Shared} {σ : L2.St} {H : Hp} {u v : V} {x y : Value} {la lb : List D} {R : Bool → Prop}
    (sb : L2.Sub X (k + 1) A) (I : Inv X pins σ H st) (hI : W.I H) (ha : Is T W H u (.lst la)) (hb : Is T W H v (.lst lb)) (rx : RelV u x) (ry : RelV v y) (hm : eqL f la lb R) :
    wpAny (model X.prog X.w) A (richCompare (if neg = true then .NotEq else .Eq) x y) (fun z s' => ∃ r, z = .bool (if neg = true then !r else r) ∧ EqO X W pins σ H R r s') X.xe st := by
  cases ha with | @lst p us _ nM e hs =>
  cases hb with | @lst q vs _ nM2 e2 hs2 =>
  cases rx
  cases ry
  have start : JJ X W pins σ H st := ⟨H, I, Up.refl _, hI⟩
  unfold eqL at hm
  split at hm
  · rename_i len
    have read : ∀ s', JJ X W pins σ H s' → ∃ its its2 c c2, s'.heap.get? p = some { cls := .type "list", data := .seq (its : List Value).toArray c } ∧ s'.heap.get? q = some { cls := .type "list", data := .seq (its2 : List Value).toArray c2 } ∧ Vals us its ∧ Vals vs its2 := by
      rintro s' ⟨H1, I1, u1, _⟩
      obtain ⟨_, its, c, r, g⟩ := I1.hok p _ (u1 _ _ nM e)
      obtain ⟨_, its2, c2, r2, g2⟩ := I1.hok q _ (u1 _ _ nM2 e2)
      exact ⟨its, its2, c, c2, g, g2, r, r2⟩
    have lus : us.length = la.length := hs.len
    have lvs : vs.length = la.length := hs2.len.trans len.symm
    have go := PySem.SeqAt.rcJ_list (neg := neg) (A := A) (E := X.xe) (prog := X.prog) (w := X.w) (a := p) (b := q) (m := la.length) (J := JJ X W pins σ H) (I := fun i _ => eqS f (la.drop i) (lb.drop i) R) (Fb := fun _ => R false) (Q := fun r s' => EqO X W pins σ H R (if neg = true then !r else r) s') sb.room.units0
      (fun s' j => by
        obtain ⟨its, its2, c, c2, g, g2, r, r2⟩ := read s' j
        exact ⟨_, _, c, c2, g, g2, by rw [List.size_toArray, ← r.length, lus], by rw [List.size_toArray, ← r2.length, lvs]⟩)
      (fun i s' xs ys c c2 j h g1 g2 h1 h2 => by
        obtain ⟨its, its2, c3, c4, g3, g4, r, r2⟩ := read s' j
        rw [g1] at g3
        rw [g2] at g4
        have z1 : xs = its.toArray := by cases g3; rfl
        have z2 : ys = its2.toArray := by cases g4; rfl
        exact turnJ hf sb.in1 hs hs2 r r2 z1 z2 i s' j h h1 h2)
      (fun s' j h => by
        have e : lb.length = la.length := len.symm
        have h : R true := by
          have h : eqS f (la.drop la.length) (lb.drop la.length) R := h
          rw [← e, List.drop_length, e, List.drop_length] at h
          exact h
        obtain ⟨H1, I1, u1, i1⟩ := j
        cases neg <;> exact ⟨h, H1, I1, u1, i1⟩)
      (fun s' j h => by
        obtain ⟨H1, I1, u1, i1⟩ := j
        cases neg <;> exact ⟨h, H1, I1, u1, i1⟩) start hm
    refine wpAny_mono go (fun z s' h => ?_) fun _ _ e => e
    obtain ⟨r, rfl, h⟩ := h
    refine ⟨if neg = true then !r else r, ?_, h⟩
    cases neg <;> simp
  · rename_i len
    obtain ⟨its, r, pl, _⟩ := I.list (SqL.of e)
    obtain ⟨its2, r2, pl2, _⟩ := I.list (SqL.of e2)
    have go := PySem.SeqAt.rcJ_lens (neg := neg) (A := A) (E := X.xe) (prog := X.prog) (w := X.w) (s := st) (Q := fun r s' => EqO X W pins σ H R (if neg = true then !r else r) s') sb.room.units0 pl.isList pl2.isList
      (by rw [List.size_toArray, List.size_toArray, ← r.length, ← r2.length, hs.len, hs2.len]; exact len) (by cases neg <;> exact ⟨hm, start⟩)
    refine wpAny_mono go (fun z s' h => ?_) fun _ _ e => e
    obtain ⟨r, rfl, h⟩ := h
    refine ⟨if neg = true then !r else r, ?_, h⟩
    cases neg <;> simp
theorem rcTup {neg : Bool} (hf : RunE T X W k f) {A : Around} {pins : List (Addr × Obj)} {st : Shared} {σ : L2.St} {H : Hp} {u v : V} {x y : Value} {la lb : List D} {R : Bool → Prop}
    (sb : L2.Sub X (k + 1) A) (I : Inv X pins σ H st) (hI : W.I H) (ha : Is T W H u (.tup la)) (hb : Is T W H v (.tup lb)) (rx : RelV u x) (ry : RelV v y) (hm : eqS f la lb R) :
    wpAny (model X.prog X.w) A (richCompare (if neg = true then .NotEq else .Eq) x y) (fun z s' => ∃ r, z = .bool (if neg = true then !r else r) ∧ EqO X W pins σ H R r s') X.xe st := by
  cases ha with | @tup p us _ nM e hs =>
  cases hb with | @tup q vs _ nM2 e2 hs2 =>
  cases rx
  cases ry
  have start : JJ X W pins σ H st := ⟨H, I, Up.refl _, hI⟩
  obtain ⟨its, r, pl, _⟩ := I.tuple (SqT.of e)
  obtain ⟨its2, r2, pl2, _⟩ := I.tuple (SqT.of e2)
  have z1 : its.toArray.size = la.length := by rw [List.size_toArray, ← r.length]; exact hs.len
  have z2 : its2.toArray.size = lb.length := by rw [List.size_toArray, ← r2.length]; exact hs2.len
  have go := PySem.SeqAt.rcJ_tup (neg := neg) (A := A) (E := X.xe) (prog := X.prog) (w := X.w) (J := JJ X W pins σ H) (I := fun i _ => eqS f (la.drop i) (lb.drop i) R) (Fb := fun _ => R false) (Q := fun r s' => EqO X W pins σ H R (if neg = true then !r else r) s') sb.room.units0 pl pl2
    (fun i s' j h h1 h2 => turnJ hf sb.in1 hs hs2 r r2 rfl rfl i s' j h h1 h2)
    (fun s' j h => by
      rw [z1, z2] at h ⊢
      have h := eqS_over h
      obtain ⟨H1, I1, u1, i1⟩ := j
      by_cases le : la.length = lb.length
      · rw [if_pos le]
        rw [decide_eq_true le] at h
        cases neg <;> exact ⟨h, H1, I1, u1, i1⟩
      · rw [if_neg le]
        rw [decide_eq_false le] at h
        cases neg <;> exact ⟨h, H1, I1, u1, i1⟩)
    (fun s' j h => by
      obtain ⟨H1, I1, u1, i1⟩ := j
      cases neg <;> exact ⟨h, H1, I1, u1, i1⟩) start hm
  refine wpAny_mono go (fun z s' h => ?_) fun _ _ e => e
  obtain ⟨r, rfl, h⟩ := h
  refine ⟨if neg = true then !r else r, ?_, h⟩
  cases neg <;> simp
theorem Is.ref1 {H : Hp} {u : V} {l : List D} (h : Is T W H u (.lst l)) : ∃ p, u = .ref p := by cases h; exact ⟨_, rfl⟩
theorem Is.ref2 {H : Hp} {u : V} {l : List D} (h : Is T W H u (.tup l)) : ∃ p, u = .ref p := by cases h; exact ⟨_, rfl⟩
theorem runD (B : EqsB T X.prog X.w X.K X.mg X.base k s) : ∀ n : Nat, RunE T X W (k + 1 + n) (eqD s n)
  | 0 => run0 B
  | n + 1 => by
    intro A pins st σ H u v x y a b R sb I hI ha hb rx ry h
    have h0 := h
    have h : eq1 s (eqD s n) a b R := h
    have same : x = y → (∃ p, u = .ref p) → (∃ p, v = .ref p) → wpAny (model X.prog X.w) A (eqBool x y) (EqO X W pins σ H R) X.xe st := by
      rintro rfl ⟨p, rfl⟩ ⟨q, rfl⟩
      cases rx
      cases ry
      exact PySem.SeqAt.eqBool_is ⟨sameD B.same (n + 1) T W.M W.P H _ a b R B.inj ha hb h0, H, I, Up.refl _, hI⟩
    unfold eq1 at h
    split at h
    · by_cases hxy : x = y
      · exact same hxy ha.ref1 hb.ref1
      · obtain ⟨p, rfl⟩ := ha.ref1
        cases rx
        exact PySem.SeqAt.eqBool_rc hxy (wpAny_mono (rcLst (neg := false) (runD B n) sb I hI ha hb rfl ry h) (fun z s' q => q) fun _ _ e => e)
    · by_cases hxy : x = y
      · exact same hxy ha.ref2 hb.ref2
      · obtain ⟨p, rfl⟩ := ha.ref2
        cases rx
        exact PySem.SeqAt.eqBool_rc hxy (wpAny_mono (rcTup (neg := false) (runD B n) sb I hI ha hb rfl ry h) (fun z s' q => q) fun _ _ e => e)
    · exact run0 B A pins st σ H u v x y a b R (sb.mono (by omega)) I hI ha hb rx ry h
/-- at the top -/
def cmpT (x y : D) : Option Bool := match flatD x, flatD y with
  | some u, some v => if scal u v = true then some (eqV u v) else none
  | _, _ => none
theorem scal_eq {u v : V} (h : scal u v = true) : eqV u v = decide (u = v) ∨ ∃ a b, u = .byt a ∧ v = .byt b := by
  cases u <;> cases v <;> first
    | exact absurd h Bool.false_ne_true
    | exact .inr ⟨_, _, rfl, rfl⟩
    | (refine .inl ?_; unfold eqV; rw [Bool.eq_iff_iff]; simp)
theorem flat_nb {x : D} {a : Array UInt8} : flatD x ≠ some (.byt a) := by
  intro h
  cases x <;> cases h
theorem cmpT_ex {x y : D} {R : Bool → Prop} (h : whenB (cmpT x y) R) : ∃ u v, flatD x = some u ∧ flatD y = some v ∧ scal u v = true ∧ R (decide (u = v)) := by
  unfold cmpT at h
  cases hu : flatD x with
  | none => rw [hu] at h; exact h.elim
  | some u =>
    cases hv : flatD y with
    | none => rw [hu, hv] at h; exact h.elim
    | some v =>
      rw [hu, hv] at h
      dsimp only at h
      by_cases hs : scal u v = true
      · rw [if_pos hs] at h
        rcases scal_eq hs with e | ⟨a, b, e1, _⟩
        · exact ⟨u, v, rfl, rfl, hs, e ▸ h⟩
        · rw [e1] at hu
          exact absurd hu flat_nb
      · rw [if_neg hs] at h
        exact h.elim
def top1 (s : OwnE) (f : D → D → M Bool) : D → D → M Bool := fun x y R => match x, y with
  | .lst a, .lst b => eqL f a b R
  | .tup a, .tup b => eqS f a b R
  | .ins c l, y => easyD y = true ∧ tst (s c [.ins c l, y]) R
  | x, y => whenB (cmpT x y) R
def eqT (s : OwnE) (n : Nat) : D → D → M D := fun x y R => top1 s (eqD s n) x y fun b => R (.bl b)
def neT (s : OwnE) (n : Nat) : D → D → M D := fun x y R => top1 s (eqD s n) x y fun b => R (.bl (!b))
theorem op_top {neg : Bool} (B : EqsB T X.prog X.w X.K X.mg X.base k s) (n : Nat) (hr : Room (k + 2 + n) X.A) : Op2 T X W (compareOp (if neg = true then .NotEq else .Eq)) (fun x y R => top1 s (eqD s n) x y fun b => R (.bl (if neg = true then !b else b))) := by
  intro pins st σ H u v x y Q I rx ry ⟨a, b, R, ha, hb, hI, hg, q⟩
  have sb : L2.Sub X (k + 1 + n + 1) X.A := ⟨hr.mono (by omega), rfl⟩
  obtain ⟨Rb, hRb⟩ : ∃ Rb : Bool → Prop, Rb = fun b => R (.bl (if neg = true then !b else b)) := ⟨_, rfl⟩
  dsimp only at hg
  rw [← hRb] at hg
  have fin : ∀ z s', (∃ r, z = .bool (if neg = true then !r else r) ∧ EqO X W pins σ H Rb r s') → EP X pins σ Q z s' := by
    rintro z s' ⟨r, rfl, hr, H', I', u', i'⟩
    rw [hRb] at hr
    exact ⟨.bl _, H', I', rfl, q _ _ H' hr u' i' .bl⟩
  unfold top1 at hg
  split at hg
  · have go := rcLst (neg := neg) (runD B n) sb I hI ha hb rx ry hg
    cases neg <;> exact wpAny_mono go fin fun _ _ e => e
  · have go := rcTup (neg := neg) (runD B n) sb I hI ha hb rx ry hg
    cases neg <;> exact wpAny_mono go fin fun _ _ e => e
  · have go := rcOwn (neg := neg) B (sb.mono (by omega)) I hI ha hb rx ry hg.1 hg.2
    cases neg <;> exact wpAny_mono go fin fun _ _ e => e
  · obtain ⟨z1, z2, e1, e2, sc, hr⟩ := cmpT_ex hg
    have key : ∀ {v : V} {x : D} {z : V}, Is T W H v x → flatD x = some z → v = z := by
      intro v x z hx hz
      cases hx <;> cases hz <;> rfl
    obtain rfl := key ha e1
    obtain rfl := key hb e2
    rw [hRb] at hr
    cases neg with
    | false => exact op_eq pins st σ H _ _ _ _ Q I rx ry ⟨sc, q _ _ H hr (Up.refl _) hI .bl⟩
    | true => exact op_ne pins st σ H _ _ _ _ Q I rx ry ⟨sc, q _ _ H hr (Up.refl _) hI .bl⟩
theorem op_eqT (B : EqsB T X.prog X.w X.K X.mg X.base k s) (n : Nat) (hr : Room (k + 2 + n) X.A) : Op2 T X W (compareOp .Eq) (eqT s n) := op_top (neg := false) B n hr
theorem op_neT (B : EqsB T X.prog X.w X.K X.mg X.base k s) (n : Nat) (hr : Room (k + 2 + n) X.A) : Op2 T X W (compareOp .NotEq) (neT s n) := op_top (neg := true) B n hr
end
end Uv
set_option Elab.async false
set_option linter.all false
set_option maxRecDepth 100000
set_option maxHeartbeats 4000000
namespace PySem
open Sem (wp)
open Builtin
open Builtin.List
section
variable {prog : Program} {w : World} {A : Around} {R : Result → Shared → Prop} {E : Value → Shared → Prop}
abbrev GoesOn (prog : Program) (w : World) (A : Around) (R : Result → Shared → Prop) : Fin → Shared → Prop := fun fin s' => match fin with | .done f => R (.ok f) s' | .again c' => c'.quiet = true ∧ codeAny (model prog w) A c' R s'
abbrev ListAt (s : Shared) (a : Addr) (xs : Array Value) (c : Nat) : Prop := s.heap.get? a = some { cls := .type "list", data := .seq xs c }
/-- the texts of a list's items are gathered in the list at G -/
structure Gath (prog : Program) (w : World) (A : Around) (E : Value → Shared → Prop) (a G : Addr) (m : Nat) (ts : List Str) (J : Nat → Shared → Prop) : Prop where
  rd : ∀ i s, J i s → ∃ xs c ys c2 dn, ListAt s a xs c ∧ xs.size = m ∧ ListAt s G ys c2 ∧ ys.toList = strValues dn ∧ dn.map (·.1) = ts.take i
  turn : ∀ i s xs c, J i s → ListAt s a xs c → ∀ (h : i < xs.size) (t : Str), ts[i]? = some t → ∀ (b : Nat) (more : List Value), b + t.length ≤ sizeLine → wpAny (model prog w) (A.under (.builtin "list.__repr__.loop" ⟨.ref a :: more, []⟩)) (pyReprUnder b xs[i]) (fun t' s' => t' = t ∧ J i s') E s
  push : ∀ i s t tk n, J i s → ts[i]? = some t → J (i + 1) { s with heap := s.heap.update G (Obj.mapSeq (·.push (.str t tk))), toks := n }
  tok : ∀ i s n, J i s → J i { s with toks := n }
theorem textsGath {a G : Addr} {m : Nat} {ts : List Str} {J : Nat → Shared → Prop} (g : Gath prog w A (fun e s' => R (.error e) s') a G m ts J) (hl : ts.length = m) {base : Nat} (hz : base + (listText ts).length ≤ sizeLine)
    (fin : ∀ s u, J m s → R (.ok (.ret (.str (listText ts) u))) s) : ∀ (k i : Nat) (s : Shared), m - i = k → i ≤ m → J i s →
      codeAny (model prog w) A (.builtin "list.__repr__.loop" ⟨[.ref a, rawInt i, .ref G, rawInt ((base + piled (ts.take i) : Nat) : Int)], []⟩) R s := by
  have whole : (listText ts).length = (textFrom 0 "[" ts).length + 1 := by
    show (textFrom 0 "[" ts ++ "]").length = _
    rw [strLen_append]
    rfl
  have lens := textFrom_len ts 0 "["
  have few : m ≤ sizeLine := by
    have q := lens.1
    rw [if_neg (Nat.lt_irrefl 0)] at q
    omega
  have each : ∀ t ∈ ts, t.length ≤ sizeLine := fun t ht => by
    have q := lens.2.1 t ht
    omega
  have pl := piled_le_listText ts
  have fits : (listText ts).length ≤ sizeLine := by omega
  intro k
  induction k with
  | zero =>
    intro i s hk hi j
    have last : i = m := by omega
    obtain ⟨xs, c, ys, c2, dn, e1, n1, e2, e3, e4⟩ := g.rd i s j
    refine codeAny_builtin F.entry_list_repr_loop ?_
    show wpAny _ _ («list.__repr__.loop» ⟨[.ref a, .int i 0, .ref G, .int ((base + piled (ts.take i) : Nat) : Int) 0], []⟩) _ _ s
    rw [repr_loop_tree]
    refine wpAny_bind (wpAny_listItems e1 rfl ?_)
    have no : xs[(i : Int).toNat]? = none := by simp [last, n1]
    simp only [no]
    unfold reprEnd
    refine wpAny_bind (wpAny_listItems e2 rfl ?_)
    rw [e3, repr_fold]
    refine wpAny_bind (wpAny_pure ?_)
    have all : dn.map (·.1) = ts := by rw [e4, last, ← hl, List.take_length]
    rw [all]
    refine wpAny_bind (wpAny_mkStr (wpAny_pure ?_) fits)
    exact fin _ _ (last ▸ g.tok i s _ j)
  | succ k ih =>
    intro i s hk hi j
    obtain ⟨xs, c, ys, c2, dn, e1, n1, e2, e3, e4⟩ := g.rd i s j
    have lt : i < xs.size := by omega
    have lt2 : i < ts.length := by omega
    obtain ⟨t, et⟩ : ∃ t, ts[i]? = some t := ⟨_, List.getElem?_eq_getElem lt2⟩
    have p1 := piled_take_succ et
    have p2 := piled_take_le ts (i + 1)
    refine codeAny_builtin F.entry_list_repr_loop ?_
    show wpAny _ _ («list.__repr__.loop» ⟨[.ref a, .int i 0, .ref G, .int ((base + piled (ts.take i) : Nat) : Int) 0], []⟩) _ _ s
    rw [repr_loop_tree]
    refine wpAny_bind (wpAny_listItems e1 rfl ?_)
    have it : xs[(i : Int).toNat]? = some xs[i] := by simp [lt]
    simp only [it]
    rw [Int.toNat_natCast]
    refine wpAny_bind (wpAny_holding (wpAny_mono (g.turn i s xs c j e1 lt t et (base + piled (ts.take i) + 1) _ (by omega)) (fun t' s' q => ?_) fun _ _ e => e))
    obtain ⟨rfl, j'⟩ := q
    obtain ⟨xs', c', ys', c2', dn', e1', n1', e2', e3', e4'⟩ := g.rd i s' j'
    refine wpAny_bind (wpAny_mkStr ?_ (each _ (List.mem_of_getElem? et)))
    refine wpAny_bind ?_
    show wpAny _ _ (updateSeq G _) _ _ _
    have sz : ys'.size ≤ sizeLine := by
      have z1 : ys'.toList.length = ys'.size := by simp
      have z2 : (strValues dn').length = dn'.length := by simp [strValues]
      have z3 : dn'.length = (ts.take i).length := by rw [← e4', List.length_map]
      have z4 : (ts.take i).length ≤ i := by rw [List.length_take]; omega
      rw [e3'] at z1
      omega
    refine wpAny_updateSeq e2' rfl (wpAny_pure ⟨F.quiet_list_repr_loop _, ?_⟩) sz
    have nx : ((i : Int) + 1) = ((i + 1 : Nat) : Int) := by omega
    have nb : base + piled (ts.take i) + (t'.length + 2) = base + piled (ts.take (i + 1)) := by omega
    rw [nx, nb]
    exact ih (i + 1) _ (by omega) (by omega) (g.push i s' t' s'.toks (s'.toks + 1) j' et)
variable {s : Shared}
theorem listReprJ {a : Addr} {xs : Array Value} {c m : Nat} {gs : List Code} {ts : List Str} {J : Nat → Shared → Prop} (hg : A.guards = some gs) (hno : ∀ v more kw, Code.builtin "list.__repr__.loop" ⟨v :: more, kw⟩ ∈ gs → Builtin.List.listSameRef v (.ref a) = false)
    (e : ListAt s a xs c) (hx : xs.size = m) (hm : 0 < m) (g : Gath prog w A (fun e s' => R (.error e) s') a s.heap.objs.size m ts J) (hl : ts.length = m) {base : Nat} (hz : base + (listText ts).length ≤ sizeLine)
    (start : J 0 { s with heap := s.heap.push { cls := .type "list", data := .seq #[] } }) (fin : ∀ s u, J m s → R (.ok (.ret (.str (listText ts) u))) s) :
    wpAny (model prog w) A.in1 (Builtin.listReprAt base ⟨[.ref a], []⟩) (GoesOn prog w A R) (fun e s' => R (.error e) s') s := by
  obtain ⟨its⟩ := xs
  cases its with
  | nil =>
    simp at hx
    omega
  | cons x l =>
    refine wpAny_list_repr_head (A := A.in1) hg hno e rfl ?_
    refine wpAny_bind (m := newList []) (wpAny_newObj_type (wpAny_pure ⟨F.quiet_list_repr_loop _, ?_⟩))
    have go := textsGath (A := A) (R := R) g hl hz fin (m - 0) 0 _ rfl (Nat.zero_le _) start
    exact go
/-- .. inside another text -/
theorem underListJ {a : Addr} {base : Nat} {ts : List Str} {Q : Str → Shared → Prop} {xs : Array Value} {c : Nat} (e : ListAt s a xs c) (hu : A.units < cLine) (hz : base + (listText ts).length ≤ sizeLine)
    (h : wpAny (model prog w) A.in1 (Builtin.listReprAt base ⟨[.ref a], []⟩) (GoesOn prog w A (callEnd (fun v s' => (∃ x u, v = .str x u) ∧ ∃ x u, v = .str x u ∧ Q x s') E)) (fun e s' => callEnd (fun v s' => (∃ x u, v = .str x u) ∧ ∃ x u, v = .str x u ∧ Q x s') E (.error e) s') s) :
    wpAny (model prog w) A (pyReprUnder base (.ref a)) Q E s := by
  have hb : base ≤ sizeLine := by omega
  refine wpAny_pyReprUnder_ref hb (wpAny_pyReprObjUnder_twin (T := "list") (twin := "list.__repr__.under") ⟨_, e, rfl⟩ F.slot_list_repr.toG rfl hu ?_)
  exact call_twin_plain F.plain_list_repr_under F.entry_list_repr_under F.check_list_repr_under ⟨_, e, rfl⟩ F.slot_list_repr.toG (F.args_list_repr_1 _) h
/-- .. by repr(x) -/
theorem callListJ {a : Addr} {Q : Value → Shared → Prop} {xs : Array Value} {c : Nat} (e : ListAt s a xs c) (hu : A.units + 1 < cLine)
    (h : wpAny (model prog w) A.in1.in1 (Builtin.listReprAt 0 ⟨[.ref a], []⟩) (GoesOn prog w A.in1 (callEnd (fun v s' => ∃ x u, v = .str x u ∧ Q v s') E)) (fun e s' => callEnd (fun v s' => ∃ x u, v = .str x u ∧ Q v s') E (.error e) s') s) :
    wpAny (model prog w) A (call (.builtin "repr") [.ref a]) Q E s :=
  call_repr_slot hu ⟨_, e, rfl⟩ F.slot_list_repr.toG (wpAny_call (codeAny_call_builtin F.slot_list_repr.plain F.entry_list_repr (F.slot_list_repr.check _ _ _ _ _ _ _ _ ⟨_, e, rfl⟩ (F.args_list_repr_1 _) h)))
/-- empty lists -/
theorem underNilJ {a : Addr} {base : Nat} {Q : Str → Shared → Prop} {c : Nat} (e : ListAt s a #[] c) (hu : A.units < cLine) (hb : base ≤ sizeLine) (h : ∀ n, Q "[]" { s with toks := n }) : wpAny (model prog w) A (pyReprUnder base (.ref a)) Q E s :=
  wpAny_pyReprUnder_ref hb (wpAny_pyReprObjUnder_list_empty ⟨_, e, rfl⟩ hu e rfl ⟨_, _, rfl, h _⟩)
/-- an instance's own text -/
theorem underOwnJ {K : PySem.W.Frag} {x C f : Addr} {ox : Obj} {od : Option Obj} {base : Nat} {Q : Str → Shared → Prop} (hu : A.units < cLine) (hb : base ≤ sizeLine) (Y : K.In s.heap) (I : PySem.W.InstAt s.heap x ox C od) (hs : PySem.W.findIn K (.ref C) "__repr__" = some (some (.ref f))) (hf : PySem.W.isFn K (.ref f) = true)
    (h : wpAny (model prog w) A (call (.ref f) [.ref x]) (fun v s' => ∃ t u, v = .str t u ∧ Q t s') E s) : wpAny (model prog w) A (pyReprUnder base (.ref x)) Q E s := by
  refine wpAny_pyReprUnder_ref hb ?_
  unfold pyReprObjUnder pyReprObjBy
  refine wpAny_bind (wpAny_cRoomFor hu ?_)
  refine wpAny_bind (wpAny_bind (I.type.here ((PySem.W.looks_findIn Y hs).here ?_)))
  show wpAny _ _ (if (some (Value.ref f)).isNone = true then _ else _) _ _ _
  rw [if_neg (by simp)]
  refine wpAny_bind ?_
  simp only [callSpecialIfBoundBy?, bindSpecialIfBound?]
  refine wpAny_holding (wpAny_bind (wpAny_bind (wpAny_bind (I.type.here ((PySem.W.looks_findIn Y hs).here ?_)))))
  have last : wpAny (model prog w) A (call (.ref f) ([.ref x] ++ []) >>= fun v => pure (some v)) (fun r s' => ∃ v t u, r = some v ∧ v = .str t u ∧ Q t s') E s := by
    refine wpAny_bind (wpAny_mono h (fun v s' q => ?_) fun _ _ e => e)
    obtain ⟨t, u, rfl, q⟩ := q
    exact wpAny_pure ⟨_, t, u, rfl, rfl, q⟩
  have fin : ∀ (r : Option Value) (s' : Shared), (∃ v t u, r = some v ∧ v = .str t u ∧ Q t s') → wpAny (model prog w) A (match r with
      | some r => do if ← isInstance r (.type "str") then pure r else raiseError "TypeError" s!"__repr__ returned non-string (type {← typeNameOf r})"
      | none => unsupported "repr:special-get-raises") (fun v s' => ∃ t u, v = .str t u ∧ Q t s') E s' := by
    rintro r s' ⟨v, t, u, rfl, rfl, q⟩
    exact wpAny_bind (wpAny_isInstance (T := "str") (b := true) rfl isSubtype_str_str (wpAny_pure ⟨t, u, rfl, q⟩))
  refine wpAny_bind (wpAny_askSetting (wpAny_ite ?_))
  have out : wpAny (model prog w) A (call (.ref f) ([.ref x] ++ []) >>= fun v => pure (some v)) (fun r s' => wpAny (model prog w) A (match r with
      | some r => do if ← isInstance r (.type "str") then pure r else raiseError "TypeError" s!"__repr__ returned non-string (type {← typeNameOf r})"
      | none => unsupported "repr:special-get-raises") (fun v s' => ∃ t u, v = .str t u ∧ Q t s') E s') E s := wpAny_mono last fin fun _ _ e => e
  split
  · exact wpAny_bind ((PySem.W.bind_fn Y _ (beq_iff_eq.mp hf)).here (wpAny_pure (by exact out)))
  · exact wpAny_tryCatch (wpAny_bind ((PySem.W.bind_fn Y _ (beq_iff_eq.mp hf)).here (wpAny_pure (by exact out))))
end
end PySem
set_option Elab.async false
set_option linter.all false
set_option maxRecDepth 100000
set_option maxHeartbeats 4000000
namespace PySem
open Sem (wp)
open Builtin
section
variable {prog : Program} {w : World} {A : Around} {R : Result → Shared → Prop} {E : Value → Shared → Prop} {s : Shared}
inductive TurnsT (prog : Program) (w : World) (A : Around) (E : Value → Shared → Prop) (J : Shared → Prop) : List Value → List Str → Prop
  | nil : TurnsT prog w A E J [] []
  | cons {x : Value} {t : Str} {l : List Value} {ts : List Str} (h : ∀ b s, J s → b + t.length ≤ sizeLine → wpAny (model prog w) A (pyReprUnder b x) (fun t' s' => t' = t ∧ J s') E s) (r : TurnsT prog w A E J l ts) : TurnsT prog w A E J (x :: l) (t :: ts)
theorem TurnsT.len {J : Shared → Prop} : ∀ {l : List Value} {ts : List Str}, TurnsT prog w A E J l ts → ts.length = l.length
  | _, _, .nil => rfl
  | _, _, .cons _ r => congrArg Nat.succ r.len
theorem tupFoldJ {J : Shared → Prop} : ∀ (l : List Value) (ts : List Str) (acc : Array Str) (n : Nat) (s : Shared) (Q : (Array Str × Nat) → Shared → Prop), TurnsT prog w A E J l ts → n + piled ts ≤ sizeLine → J s →
    (∀ s', J s' → Q ⟨acc ++ ts.toArray, n + piled ts⟩ s') → wpAny (model prog w) A (forIn l (⟨acc, n⟩ : (Array Str × Nat)) tupBody) Q E s := by
  intro l
  induction l with
  | nil =>
    intro ts acc n s Q hT _ j h
    cases hT
    have z := h s j
    simp only [List.forIn_nil]
    exact wpAny_pure (by simpa [piled] using z)
  | cons x l ih =>
    intro ts acc n s Q hT hn j h
    cases hT with
    | @cons _ t _ us hx hl =>
      rw [piled_cons] at hn
      rw [List.forIn_cons]
      refine wpAny_bind (wpAny_bind (wpAny_mono (hx (n + 1) s j (by omega)) (fun t' s' q => ?_) fun _ _ e => e))
      obtain ⟨rfl, j'⟩ := q
      refine wpAny_pure (ih us (acc.push t') (n + (t'.length + 2)) s' Q hl (by omega) j' fun s2 j2 => ?_)
      have z := h s2 j2
      rw [show n + piled (t' :: us) = n + (t'.length + 2) + piled us by rw [piled_cons]; omega] at z
      simpa using z
theorem tupReprJ {a : Addr} {o : Obj} {items : Array Value} {n : Nat} {ts : List Str} {J : Shared → Prop} {gs : List Code} {base : Nat} {id : String} {more : List Value}
    (ha : s.heap.get? a = some o) (hd : o.data = .seq items n) (hg : A.guards = some gs) (hno : ∀ c ∈ gs, tupGuardF (.ref a) (c, default) = false)
    (hT : TurnsT prog w (A.under (.builtin id ⟨.ref a :: more, []⟩)) (fun e s' => R (.error e) s') J items.toList ts) (j : J s)
    (fin : ∀ s' u, J s' → R (.ok (.ret (.str (tupleText ts) u))) { s' with toks := s'.toks + 1 }) (hz : base + (tupleText ts).length ≤ sizeLine) :
    wpOwn (model prog w) A (.builtin id ⟨.ref a :: more, []⟩) (Builtin.tupleReprAt base ⟨[.ref a], []⟩) (GoesOn prog w A R) (fun e s' => R (.error e) s') s := by
  have hlen : ts.length = items.size := by simpa using hT.len
  have hp := piled_le_tupleText ts
  have fits : (tupleText ts).length ≤ sizeLine := by omega
  rw [tuple_repr_tree, tupleReprUnderWay_eq]
  refine wpOwn_bind (wpOwn_stackTailAny hg (tupGuardF_off _) (tupGuardF_pos _) ?_)
  have none : (gs.any fun c => tupGuardF (.ref a) (c, default)) = false := by
    rw [List.any_eq_false]
    intro c hc
    rw [hno c hc]
    exact Bool.false_ne_true
  rw [none]
  refine wpOwn_of_wpAny ?_
  show wpAny _ _ (tupleReprRest base (.ref a)) _ _ s
  unfold tupleReprRest Builtin.Tuple.tupleItemsOf
  refine wpAny_bind (wpAny_bind (wpAny_seqItems ha hd (wpAny_pure ?_)))
  rw [← Array.forIn_toList]
  refine wpAny_bind (tupFoldJ _ ts _ _ _ _ hT (by omega) j fun s' j' => ?_)
  refine wpAny_bind (wpAny_mkStr (wpAny_pure ?_) (by simpa [tupleText, hlen] using fits))
  have z := fin s' s'.toks j'
  simpa [tupleText, hlen] using z
theorem underTupJ {a : Addr} {o : Obj} {base : Nat} {ts : List Str} {Q : Str → Shared → Prop} (ha : s.heap.get? a = some o) (hc : o.cls = .type "tuple") (hu : A.units < cLine) (hz : base + (tupleText ts).length ≤ sizeLine)
    (h : wpOwn (model prog w) A (.builtin "tuple.__repr__.under" ⟨[.ref a, rawInt base], []⟩) (Builtin.tupleReprAt base ⟨[.ref a], []⟩) (GoesOn prog w A (callEnd (fun v s' => (∃ x u, v = .str x u) ∧ ∃ x u, v = .str x u ∧ Q x s') E)) (fun e s' => callEnd (fun v s' => (∃ x u, v = .str x u) ∧ ∃ x u, v = .str x u ∧ Q x s') E (.error e) s') s) :
    wpAny (model prog w) A (pyReprUnder base (.ref a)) Q E s := by
  have hb : base ≤ sizeLine := by omega
  refine wpAny_pyReprUnder_ref hb (wpAny_pyReprObjUnder_twin (T := "tuple") (twin := "tuple.__repr__.under") ⟨o, ha, hc⟩ F.slot_tuple_repr rfl hu ?_)
  exact call_twin_own (F.quiet_tuple_repr_under _) F.entry_tuple_repr_under F.check_tuple_repr_under ⟨o, ha, hc⟩ F.slot_tuple_repr (F.args_tuple_repr_1 _) h
theorem callTupJ {a : Addr} {o : Obj} {Q : Value → Shared → Prop} (ha : s.heap.get? a = some o) (hc : o.cls = .type "tuple") (hu : A.units + 1 < cLine)
    (h : wpOwn (model prog w) A.in1 (.builtin "tuple.__repr__" ⟨[.ref a], []⟩) (Builtin.tupleReprAt 0 ⟨[.ref a], []⟩) (GoesOn prog w A.in1 (callEnd (fun v s' => ∃ x u, v = .str x u ∧ Q v s') E)) (fun e s' => callEnd (fun v s' => ∃ x u, v = .str x u ∧ Q v s') E (.error e) s') s) :
    wpAny (model prog w) A (call (.builtin "repr") [.ref a]) Q E s :=
  call_repr_slot hu ⟨o, ha, hc⟩ F.slot_tuple_repr (wpAny_call (codeAny_call_builtin_own (Code.quiet_builtin _ (by decide +kernel)) F.entry_tuple_repr (F.slot_tuple_repr.check _ _ _ _ _ _ _ _ ⟨o, ha, hc⟩ (F.args_tuple_repr_1 _) h)))
end
end PySem
set_option Elab.async false
set_option linter.all false
set_option maxRecDepth 100000
set_option maxHeartbeats 4000000
namespace Uv
open PySem L2 Inn PySem.Spec PyProof.Rows
/-! ### texts -/
mutual
def dep : D → Nat
  | .lst l => depL l + 1
  | .tup l => depL l + 1
  | .dct _ l => depL l + 1
  | .ins _ l => depL l + 1
  | _ => 0
def depL : List D → Nat
  | [] => 0
  | d :: ds => max (dep d) (depL ds)
end
mutual
/-- neither pots nor values of no kind -/
def pur : D → Bool
  | .lst l => purL l
  | .tup l => purL l
  | .dct _ l => purL l
  | .ins _ l => purL l
  | .pot _ => false
  | .cls _ => false
  | _ => true
def purL : List D → Bool
  | [] => true
  | d :: ds => pur d && purL ds
end
section
variable {T : Ct} {N P : Addr → Prop} {H : Hp}
mutual
theorem IsD.one (inj : ∀ c c', c < T.n → c' < T.n → T.at_ c = T.at_ c' → c = c') : ∀ {v : V} {d : D} {d' : D}, IsD T N P H v d → pur d = true → IsD T N P H v d' → pur d' = true → d = d'
  | _, _, _, .int, _, h', p' => by cases h' with | int => rfl | cls => cases p'
  | _, _, _, .bl, _, h', p' => by cases h' with | bl => rfl | cls => cases p'
  | _, _, _, .str, _, h', p' => by cases h' with | str => rfl | cls => cases p'
  | _, _, _, .non, _, h', p' => by cases h' with | non => rfl | cls => cases p'
  | _, _, _, .lst n e h, p, h', p' => by
    cases h' with
    | lst n2 e2 h2 =>
      rw [e] at e2
      injection e2 with e2
      injection e2 with e2
      subst e2
      rw [IsDs.one inj h p h2 p']
    | tup n2 e2 _ => rw [e] at e2; cases e2
    | dct n2 e2 _ _ => rw [e] at e2; cases e2
    | ins _ n2 e2 _ _ => rw [e] at e2; cases e2
    | pot => cases p'
    | cls => cases p'
  | _, _, _, .tup n e h, p, h', p' => by
    cases h' with
    | tup n2 e2 h2 =>
      rw [e] at e2
      injection e2 with e2
      injection e2 with e2
      subst e2
      rw [IsDs.one inj h p h2 p']
    | lst n2 e2 _ => rw [e] at e2; cases e2
    | dct n2 e2 _ _ => rw [e] at e2; cases e2
    | ins _ n2 e2 _ _ => rw [e] at e2; cases e2
    | pot => cases p'
    | cls => cases p'
  | _, _, _, .dct n e hk h, p, h', p' => by
    cases h' with
    | dct n2 e2 hk2 h2 =>
      rw [e] at e2
      injection e2 with e2
      injection e2 with e2
      subst e2
      subst hk hk2
      rw [IsDs.one inj h p h2 p']
    | lst n2 e2 _ => rw [e] at e2; cases e2
    | tup n2 e2 _ => rw [e] at e2; cases e2
    | ins _ n2 e2 _ _ => rw [e] at e2; cases e2
    | pot => cases p'
    | cls => cases p'
  | _, _, _, .ins hc n e hl h, p, h', p' => by
    cases h' with
    | ins hc2 n2 e2 hl2 h2 =>
      rw [e] at e2
      injection e2 with e2
      injection e2 with e3 e4 e5
      have ec := inj _ _ hc hc2 e3
      subst ec
      have eu := zip_inj hl hl2 e5
      subst eu
      rw [IsDs.one inj h p h2 p']
    | lst n2 e2 _ => rw [e] at e2; cases e2
    | tup n2 e2 _ => rw [e] at e2; cases e2
    | dct n2 e2 _ _ => rw [e] at e2; cases e2
    | pot => cases p'
    | cls => cases p'
  | _, _, _, .pot _, p, _, _ => by cases p
  | _, _, _, .cls, p, _, _ => by cases p
theorem IsDs.one (inj : ∀ c c', c < T.n → c' < T.n → T.at_ c = T.at_ c' → c = c') : ∀ {vs : List V} {ds ds' : List D}, IsDs T N P H vs ds → purL ds = true → IsDs T N P H vs ds' → purL ds' = true → ds = ds'
  | _, _, _, .nil, _, h', _ => by cases h'; rfl
  | _, _, _, .cons h t, p, h', p' => by
    cases h' with | cons h2 t2 =>
    unfold purL at p p'
    rw [Bool.and_eq_true] at p p'
    rw [IsD.one inj h p.1 h2 p'.1, IsDs.one inj t p.2 t2 p'.2]
end
end
abbrev OwnT := Nat → List D → Option Str
def mapT (f : D → Option Str) : List D → Option (List Str)
  | [] => some []
  | d :: ds => match f d, mapT f ds with
    | some t, some ts => some (t :: ts)
    | _, _ => none
def txt0 (own : OwnT) : D → Option Str
  | .int i => if i.natAbs.log2 < 1920 then some (toString i : String) else none
  | .bl b => some (if b then "True" else "False" : String)
  | .non => some "None"
  | .str x => some (reprText x)
  | .ins c l => if purL l = true then own c l else none
  | _ => none
def txt1 (own : OwnT) (f : D → Option Str) : D → Option Str
  | .lst l => (mapT f l).map listText
  | .tup l => (mapT f l).map tupleText
  | .dct [] [] => some (dictText [])
  | d => txt0 own d
def txtD (own : OwnT) : Nat → D → Option Str
  | 0 => txt0 own
  | n + 1 => txt1 own (txtD own n)
theorem mapT_len {f : D → Option Str} : ∀ {l : List D} {ts : List Str}, mapT f l = some ts → ts.length = l.length
  | [], _, h => by cases h; rfl
  | d :: ds, ts, h => by
    unfold mapT at h
    split at h
    · cases h
      rename_i e
      rw [List.length_cons, List.length_cons, mapT_len e]
    · cases h
theorem mapT_get {f : D → Option Str} : ∀ {l : List D} {ts : List Str} {i : Nat} {d : D} {t : Str}, mapT f l = some ts → l[i]? = some d → ts[i]? = some t → f d = some t
  | [], _, _, _, _, _, hd, _ => by simp at hd
  | x :: xs, ts, i, d, t, h, hd, ht => by
    unfold mapT at h
    split at h
    · rename_i u us e1 e2
      cases h
      cases i with
      | zero =>
        simp at hd ht
        subst hd ht
        exact e1
      | succ i => exact mapT_get e2 (by simpa using hd) (by simpa using ht)
    · cases h
theorem pur_of0 {own : OwnT} {d : D} {t : Str} (h : txt0 own d = some t) : pur d = true := by
  cases d with
  | ins c l =>
    have h : (if purL l = true then own c l else none) = some t := h
    split at h
    · assumption
    · cases h
  | int => rfl
  | bl => rfl
  | non => rfl
  | str => rfl
  | _ => cases h
theorem purL_ofM {f : D → Option Str} (hf : ∀ {d t}, f d = some t → pur d = true) : ∀ {l : List D} {ts : List Str}, mapT f l = some ts → purL l = true
  | [], _, _ => rfl
  | d :: ds, ts, h => by
    unfold mapT at h
    split at h
    · rename_i e1 e2
      unfold purL
      rw [hf e1, purL_ofM hf e2]
      rfl
    · cases h
theorem pur_of {own : OwnT} : ∀ {n : Nat} {d : D} {t : Str}, txtD own n d = some t → pur d = true
  | 0, _, _, h => pur_of0 h
  | n + 1, d, t, h => by
    have h : txt1 own (txtD own n) d = some t := h
    unfold txt1 at h
    split at h
    · cases e : mapT (txtD own n) _ with
      | none => rw [e] at h; cases h
      | some ts => exact purL_ofM (fun h => pur_of h) e
    · cases e : mapT (txtD own n) _ with
      | none => rw [e] at h; cases h
      | some ts => exact purL_ofM (fun h => pur_of h) e
    · rfl
    · exact pur_of0 h
theorem dep_mem {l : List D} {d : D} (h : d ∈ l) : dep d ≤ depL l := by
  induction l with
  | nil => cases h
  | cons x xs ih =>
    unfold depL
    rcases List.mem_cons.mp h with rfl | h
    · exact Nat.le_max_left _ _
    · exact Nat.le_trans (ih h) (Nat.le_max_right _ _)
end Uv
set_option Elab.async false
set_option linter.all false
set_option maxRecDepth 100000
set_option maxHeartbeats 4000000
namespace Uv
open PySem L2 Inn PySem.Spec PyProof.Rows
/-- own texts -/
structure TxtB (T : Ct) (P : Program) (w : World) (K : PySem.W.Frag) (mg : Str → Option Value) (base : Heap) (k : Nat) (own : OwnT) : Prop where
  all : ∀ c, c < T.n → (∀ l, own c l = none) ∨ ∃ f fd ps b, PySem.W.findIn K (.ref (T.at_ c)) "__repr__" = some (some (.ref f)) ∧ PySem.W.isFn K (.ref f) = true ∧ FnOk P w K mg base CX0 k f fd ps (SpD T b 1 (fun ds R => ∃ l t, ds = [.ins c l] ∧ own c l = some t ∧ R (.str t))) ∧ L2.Binds K fd ps []
  inj : ∀ c c', c < T.n → c' < T.n → T.at_ c = T.at_ c' → c = c'
/-- the lists whose texts are being made are deeper than d -/
def Gd (T : Ct) (W : Wo) (H : Hp) (n : Nat) (g : List Code) : Prop := ∀ id v more kw, Code.builtin id ⟨v :: more, kw⟩ ∈ g → ∀ b, v = .ref b → ∃ db, pur db = true ∧ Is T W H (.ref b) db ∧ n < dep db
section
variable {T : Ct} {X : Cx} {k n : Nat} {own : OwnT}
theorem Gd.nil {W : Wo} {H : Hp} {n : Nat} : Gd T W H n [] := fun _ _ _ _ h => nomatch h
theorem Gd.conv {W W' : Wo} {H H' : Hp} {n m : Nat} {g : List Code} (h : Gd T W H n g) (hm : m ≤ n) (k : ∀ {v d}, Is T W H v d → Is T W' H' v d) : Gd T W' H' m g := fun id v more kw hc b hb => by
  obtain ⟨db, p, i, l⟩ := h id v more kw hc b hb
  exact ⟨db, p, k i, Nat.lt_of_le_of_lt hm l⟩
theorem Gd.clear {W : Wo} {H : Hp} {d : D} {p : Addr} {g : List Code} (inj : ∀ c c', c < T.n → c' < T.n → T.at_ c = T.at_ c' → c = c') (h : Gd T W H (dep d) g) (hd : Is T W H (.ref p) d) (hp : pur d = true) : Clear g p := fun id v more kw hc e => by
  obtain ⟨db, p', i, l⟩ := h id v more kw hc p e
  rw [IsD.one inj i p' hd hp] at l
  exact Nat.lt_irrefl _ l
theorem Gd.cons {W : Wo} {H : Hp} {d : D} {p : Addr} {m : Nat} {g : List Code} {id : String} {more : List Value} (h : Gd T W H m g) (hd : Is T W H (.ref p) d) (hp : pur d = true) (hm : m < dep d) : Gd T W H m (.builtin id ⟨.ref p :: more, []⟩ :: g) := fun id' v' more' kw' hc b hb => by
  rcases List.mem_cons.mp hc with e | hc
  · cases e
    cases hb
    exact ⟨d, hp, hd, hm⟩
  · exact h id' v' more' kw' hc b hb
def TxO (X : Cx) (W : Wo) (pins : List (Addr × Obj)) (σ : L2.St) (H : Hp) (t t' : Str) (s' : Shared) : Prop := t' = t ∧ ∃ H', Inv X pins σ H' s' ∧ Up W.toWld H H' ∧ W.I H'
def RunT (T : Ct) (X : Cx) (k : Nat) (f : D → Option Str) : Prop :=
  ∀ (W : Wo) (A : Around) (pins : List (Addr × Obj)) (s : Shared) (σ : L2.St) (H : Hp) (v : V) (x : Value) (d : D) (t : Str) (b : Nat) (g : List Code), L2.Sub X k A → A.guards = some g → Gd T W H (dep d) g → Inv X pins σ H s → W.I H → Is T W H v d → RelV v x → f d = some t → b + t.length ≤ sizeLine →
    wpAny (model X.prog X.w) A (pyReprUnder b x) (TxO X W pins σ H t) X.xe s
theorem sub_of {A A' : Around} (sb : L2.Sub X (k + 1) A) (h1 : A'.depth ≤ A.depth + 1) (h2 : A'.units = A.units + 1) (h3 : A'.handled = A.handled) (h4 : A'.frames = A.frames) : L2.Sub X k A' :=
  ⟨⟨by rw [h3]; exact sb.room.hd, by have := sb.room.dp; omega, by rw [h2]; have := sb.room.un; omega⟩, h4.trans sb.fr⟩
theorem sub_list {A : Around} {args : Args} (sb : L2.Sub X (k + 1) A) : L2.Sub X k (A.under (.builtin "list.__repr__.loop" args)) :=
  sub_of sb (by simp [Around.under, Code.weight, Code.isCreation, Code.isGuard, Code.isCaller, Code.frames, Code.isFrame, guardIds]) (units_under_list_loop A args) rfl rfl
theorem sub_tup {A : Around} {args : Args} (sb : L2.Sub X (k + 1) A) : L2.Sub X k (A.under (.builtin "tuple.__repr__" args)) :=
  sub_of sb (by simp [Around.under, Code.weight, Code.isCreation, Code.isGuard, Code.isCaller, Code.frames, Code.isFrame, guardIds]) (units_under_tuple_repr A args) rfl rfl
theorem sub_tupU {A : Around} {args : Args} (sb : L2.Sub X (k + 1) A) : L2.Sub X k (A.under (.builtin "tuple.__repr__.under" args)) :=
  sub_of sb (by simp [Around.under, Code.weight, Code.isCreation, Code.isGuard, Code.isCaller, Code.frames, Code.isFrame, guardIds]) (units_under_tuple_repr_under A args) rfl rfl
end
end Uv
set_option Elab.async false
set_option linter.all false
set_option maxRecDepth 100000
set_option maxHeartbeats 4000000
namespace Uv
open PySem L2 Inn PySem.Spec PyProof.Rows
section
variable {T : Ct} {X : Cx} {k n : Nat} {own : OwnT}
theorem ownT_run {W : Wo} {f : Addr} {fd : FuncData} {ps : List Str} {b0 : Bool} {c : Nat} (F : FnOk X.prog X.w X.K X.mg X.base CX0 k f fd ps (SpD T b0 1 (fun ds R => ∃ l t, ds = [.ins c l] ∧ own c l = some t ∧ R (.str t)))) (hbi : L2.Binds X.K fd ps [])
    {A : Around} {pins : List (Addr × Obj)} {st : Shared} {σ : L2.St} {H : Hp} {u : V} {x : Value} {l : List D} {t : Str} (hr : Room k A) (fr : A.frames = X.A.frames) (I : Inv X pins σ H st) (hI : W.I H) (ha : Is T W H u (.ins c l)) (rx : RelV u x) (ht : own c l = some t) :
    wpAny (model X.prog X.w) A (call (.ref f) [x]) (fun z s' => ∃ tk, z = .str t tk ∧ ∃ H', Inv X pins σ H' s' ∧ Up W.toWld H H' ∧ W.I H') X.xe st := by
  have sp : SpD T b0 1 (fun ds R => ∃ l t, ds = [.ins c l] ∧ own c l = some t ∧ R (.str t)) [u] H (fun z H' => z = .str t ∧ Up W.toWld H H' ∧ W.I H') E0 :=
    ⟨W, [.ins c l], (· = .str t), .cons ha .nil, rfl, hI, ⟨l, t, rfl, ht, rfl⟩, fun d w H' hd u' i' h' _ => by
      subst hd
      cases h'
      exact ⟨rfl, u', i'⟩⟩
  have hl := F.len _ _ _ _ sp
  have e0 : Env0 X.prog X.w X.K X.mg X.base A X.stack st H := by
    have e := I.env0
    exact ⟨by rw [fr]; exact e.frames, e.mod, e.bs, e.bsz, e.funs, e.frf, e.hok, e.bare⟩
  refine wpAny_call (codeAny_mono (F.run A X.stack st H ⟨[x], []⟩ [x] [u] _ E0 hr e0 (by
    have h := hbi st [x] I.kIn (by simpa using hl)
    simpa using h) (.cons rx .nil) sp) fun rr s' hq => ?_)
  cases rr with
  | error e => exact False.elim hq
  | ok fl =>
    cases fl with
    | ret w =>
      obtain ⟨z, H', I', rz, ez, ex, iz⟩ := I.after hq
      subst ez
      obtain ⟨tk, rfl⟩ := rz
      exact ⟨tk, rfl, H', I', ex, iz⟩
    | next => exact False.elim hq
    | brk => exact False.elim hq
    | cont => exact False.elim hq
theorem runT0 (B : TxtB T X.prog X.w X.K X.mg X.base k own) : RunT T X k (txt0 own) := by
  intro W A pins s σ H v x d t b g sb hg gd I hI hv rv ht hz
  have leaf : ∀ {y : Value} {t' : Str}, ReprIs X.prog X.w y t' → t' = t → wpAny (model X.prog X.w) A (pyReprUnder b y) (TxO X W pins σ H t) X.xe s := fun h e => by
    subst e
    exact h b hz A X.xe s _ fun tk => ⟨rfl, H, I.tok tk, Up.refl _, hI⟩
  cases hv with
  | @int i =>
    obtain ⟨tk, rfl⟩ := rv
    have ht : (if i.natAbs.log2 < 1920 then some (Str.ofString (toString i)) else none) = some t := ht
    split at ht
    · rename_i hb
      exact leaf (ReprIs.int tk hb) (Option.some.inj ht)
    · cases ht
  | bl =>
    cases rv
    rename_i k2
    exact leaf (ReprIs.bool _) (by cases k2 <;> exact Option.some.inj ht)
  | non =>
    cases rv
    exact leaf ReprIs.none (Option.some.inj ht)
  | str =>
    obtain ⟨tk, rfl⟩ := rv
    exact leaf (ReprIs.str _ tk (by have e := Option.some.inj ht; rw [e]; omega)) (Option.some.inj ht)
  | @ins p dx c us l hc nM e hl hs =>
    have ht : (if purL l = true then own c l else none) = some t := ht
    split at ht
    · rcases B.all c hc with no | ⟨f, fd, ps, b0, e1, e2, F, hbi⟩
      · rw [no] at ht
        cases ht
      · cases rv
        obtain ⟨mA, J, _⟩ := ins_get I.hok e
        obtain ⟨od, J, _⟩ := J.look
        refine underOwnJ sb.room.units0 (by omega) I.kIn J e1 e2 (wpAny_mono (ownT_run (W := W) F hbi sb.room sb.fr I hI (.ins hc nM e hl hs) rfl ht) (fun z s' q => ?_) fun _ _ e => e)
        obtain ⟨tk, rfl, H', I', u', i'⟩ := q
        exact ⟨t, tk, rfl, rfl, H', I', u', i'⟩
    · cases ht
  | _ => cases ht
theorem vals_strs : ∀ {ts : List Str} {its : List Value}, Vals (ts.map V.str) its → ∃ dn, its = strValues dn ∧ dn.map (·.1) = ts
  | [], _, h => by cases h; exact ⟨[], rfl, rfl⟩
  | t :: ts, _, h => by
    cases h with | cons r h =>
    obtain ⟨tk, rfl⟩ := r
    obtain ⟨dn, rfl, e⟩ := vals_strs h
    exact ⟨(t, tk) :: dn, rfl, by rw [List.map_cons, e]⟩
theorem vals_push {vs : List V} {its : List Value} (h : Vals vs its) {t : Str} {tk : Tok} : Vals (vs ++ [.str t]) (its ++ [.str t tk]) := by
  induction h with
  | nil => exact .cons ⟨tk, rfl⟩ .nil
  | cons r _ ih => exact .cons r ih
/-- while the texts of l's items are gathered in the list at G -/
structure GJ (T : Ct) (X : Cx) (W : Wo) (pins : List (Addr × Obj)) (σ : L2.St) (H : Hp) (G : Addr) (ts : List Str) (i : Nat) (s' : Shared) : Prop where
  ex : ∃ H', Inv X pins σ H' s' ∧ Up W.toWld H H' ∧ W.I H' ∧ H' G = some (.lst ((ts.take i).map V.str))
theorem gath {f : D → Option Str} (hf : RunT T X k f) {W : Wo} {A : Around} {pins : List (Addr × Obj)} {s : Shared} {σ : L2.St} {H : Hp} {p : Addr} {us : List V} {l : List D} {g : List Code} {ts : List Str}
    (inj : ∀ c c', c < T.n → c' < T.n → T.at_ c = T.at_ c' → c = c') (sb : L2.Sub X (k + 1) A) (hg : A.guards = some g) (gd : Gd T W H (dep (.lst l)) g) (I : Inv X pins σ H s) (hI : W.I H) (nM : ¬ W.M p) (e : H p = some (.lst us)) (hs : Iss T W H us l) (ht : mapT f l = some ts) (hp : purL l = true) :
    Gath X.prog X.w A X.xe p s.heap.objs.size l.length ts (GJ T X W pins σ H s.heap.objs.size ts) := by
  have hG : H s.heap.objs.size = none := I.hok.fresh (Nat.le_refl _)
  have nG : ¬ W.M s.heap.objs.size := not_M hI hG
  have ne : p ≠ s.heap.objs.size := fun z => by rw [z, hG] at e; cases e
  have hlen := mapT_len ht
  have read : ∀ i s', GJ T X W pins σ H s.heap.objs.size ts i s' → ∃ its c its2 c2 dn, ListAt s' p (its : List Value).toArray c ∧ Vals us its ∧ ListAt s' s.heap.objs.size (its2 : List Value).toArray c2 ∧ its2 = strValues dn ∧ dn.map (·.1) = ts.take i := by
    rintro i s' ⟨H1, I1, u1, _, eG⟩
    obtain ⟨_, its, c, r, q⟩ := I1.hok p _ (u1 _ _ nM e)
    obtain ⟨_, its2, c2, r2, q2⟩ := I1.hok _ _ eG
    obtain ⟨dn, e1, e2⟩ := vals_strs r2
    exact ⟨its, c, its2, c2, dn, q, r, q2, e1, e2⟩
  refine ⟨fun i s' j => ?_, fun i s' xs c j el h t et b more hz => ?_, fun i s' t tk n j et => ?_, fun i s' n j => ?_⟩
  · obtain ⟨its, c, its2, c2, dn, q, r, q2, e1, e2⟩ := read i s' j
    exact ⟨_, c, _, c2, dn, q, by rw [List.size_toArray, ← r.length, hs.len], q2, by rw [← e1], e2⟩
  · obtain ⟨its, c', its2, c2, dn, q, r, q2, e1, e2⟩ := read i s' j
    have q := q.symm.trans el
    have exs : xs = its.toArray := by cases q; rfl
    subst exs
    obtain ⟨H1, I1, u1, i1, eG⟩ := j
    have k1 : i < us.length := by rw [r.length]; simpa using h
    obtain ⟨y, ey, ry⟩ := r.get (List.getElem?_eq_getElem k1)
    obtain ⟨d, ed, hd⟩ := hs.getL (List.getElem?_eq_getElem k1)
    have ey' : its.toArray[i] = y := by
      have : i < its.length := by simpa using h
      rw [List.getElem?_eq_getElem this] at ey
      simpa using Option.some.inj ey
    rw [ey']
    have st : ∀ {v d}, Is T W H v d → Is T (Wg W s.heap.objs.size ((ts.take i).map V.str)) H1 v d := fun h => IsD.conv (fun a o n e => ⟨fun m => m.elim n fun z => ne_of_none e hG z, u1 a o n e⟩) (pot_ne hI hG) h
    have whole : Is T W H (.ref p) (.lst l) := .lst nM e hs
    have hdl : dep d < dep (.lst l) := Nat.lt_succ_of_le (dep_mem (List.mem_of_getElem? ed))
    have gd' : Gd T (Wg W s.heap.objs.size ((ts.take i).map V.str)) H1 (dep d) (.builtin "list.__repr__.loop" ⟨.ref p :: more, []⟩ :: g) :=
      (gd.conv (Nat.le_of_lt hdl) st).cons (st whole) (show pur (.lst l) = true from hp) hdl
    refine wpAny_mono (hf _ _ pins s' σ H1 _ y d t b _ (sub_list sb) (guards_under_guard (isGuard_list_loop _) hg) gd' I1 ⟨i1, eG⟩ (st hd) ry (mapT_get ht ed et) hz) (fun t' s2 q => ?_) fun _ _ e => e
    obtain ⟨rfl, H2, I2, u2, i2⟩ := q
    refine ⟨rfl, ⟨H2, I2, fun a o nMa ea => ?_, i2.1, i2.2⟩⟩
    exact u2 a o (fun m => m.elim nMa fun z => ne_of_none ea hG z) (u1 a o nMa ea)
  · obtain ⟨H1, I1, u1, i1, eG⟩ := j
    obtain ⟨_, its2, c2, r2, q2⟩ := I1.hok _ _ eG
    have lt : i < ts.length := (List.getElem?_eq_some_iff.mp et).1
    have e2 : (ts.take (i + 1)).map V.str = (ts.take i).map V.str ++ [.str t] := by rw [List.take_add_one, et]; simp
    have z : l.length ≤ sizeLine := by
      obtain ⟨_, _, _, z⟩ := I.list (SqL.of e)
      rw [← hs.len]
      exact z
    refine ⟨upd H1 s.heap.objs.size (.lst ((ts.take (i + 1)).map V.str)), ?_, fun a o nMa ea => ?_, I_mut i1 nG, upd_same⟩
    · rw [e2]
      refine I1.lset eG q2 (its' := its2 ++ [.str t tk]) (by simp) (vals_push r2) ?_
      rw [← e2, List.length_map, List.length_take]
      omega
    · rw [upd_ne (fun z => ne_of_none ea hG z)]
      exact u1 a o nMa ea
  · obtain ⟨H1, I1, u1, i1, eG⟩ := j
    exact ⟨H1, I1.tok n, u1, i1, eG⟩
end
end Uv
set_option Elab.async false
set_option linter.all false
set_option maxRecDepth 100000
set_option maxHeartbeats 4000000
namespace Uv
open PySem L2 Inn PySem.Spec PyProof.Rows
section
variable {T : Ct} {X : Cx} {k n : Nat} {own : OwnT}
theorem listText_nil' : listText [] = ("[]" : Str) := by rfl
theorem dct0 {pins : List (Addr × Obj)} {s : Shared} {σ : L2.St} {H : Hp} {p : Addr} (I : Inv X pins σ H s) (e : H p = some (.dK [])) : ∃ o ep, s.heap.get? p = some o ∧ o.cls = .type "dict" ∧ o.data = .dict #[] ep ∧ (p == sysModules) = false := by
  obtain ⟨_, ya, va, ra, da⟩ := (show ObjOk X.prog X.w H s.heap p (.dK []) from I.hok p _ e)
  have va0 : va = [] := by
    have := ra.length
    exact List.length_eq_zero_iff.mp (by simpa using this.symm)
  subst va0
  obtain ⟨oa, es, ep, hoa, hc, hda, hka, hpa, _⟩ := da
  have z := hpa.length
  have es0 : es = #[] := by
    have : es.toList = [] := List.length_eq_zero_iff.mp (by simpa using z)
    exact Array.toList_eq_nil_iff.mp this
  exact ⟨oa, ep, hoa, hc.1, es0 ▸ hda, ya⟩
theorem tx_list {f : D → Option Str} (hf : RunT T X k f) {W : Wo} {A : Around} {pins : List (Addr × Obj)} {s : Shared} {σ : L2.St} {H : Hp} {p : Addr} {us : List V} {l : List D} {g : List Code} {ts : List Str} {base : Nat} {R : Result → Shared → Prop}
    (inj : ∀ c c', c < T.n → c' < T.n → T.at_ c = T.at_ c' → c = c') (sb : L2.Sub X (k + 1) A) (hg : A.guards = some g) (gd : Gd T W H (dep (.lst l)) g) (I : Inv X pins σ H s) (hI : W.I H) (nM : ¬ W.M p) (e : H p = some (.lst us)) (hs : Iss T W H us l) (ht : mapT f l = some ts) (hp : purL l = true) (hl : l ≠ [])
    (hz : base + (listText ts).length ≤ sizeLine) (hE : (fun e s' => R (.error e) s') = X.xe) (fin : ∀ s' u, (∃ H', Inv X pins σ H' s' ∧ Up W.toWld H H' ∧ W.I H') → R (.ok (.ret (.str (listText ts) u))) s') :
    wpAny (model X.prog X.w) A.in1 (Builtin.listReprAt base ⟨[.ref p], []⟩) (GoesOn X.prog X.w A R) (fun e s' => R (.error e) s') s := by
  obtain ⟨_, its, c, r, q⟩ := I.hok p _ e
  have G := gath hf inj sb hg gd I hI nM e hs ht hp
  rw [← hE] at G
  have hG : H s.heap.objs.size = none := I.hok.fresh (Nat.le_refl _)
  have nG : ¬ W.M s.heap.objs.size := not_M hI hG
  have cl := Gd.clear inj gd (show Is T W H (.ref p) (.lst l) from .lst nM e hs) (show pur (.lst l) = true from hp)
  refine listReprJ (m := l.length) hg (fun v more kw hm => listSameRef_of_ne (cl _ v more kw hm)) q (by rw [List.size_toArray, ← r.length, hs.len]) (List.length_pos_iff.mpr hl) G (mapT_len ht) hz ?_ (fun s' u j => ?_)
  · refine ⟨upd H s.heap.objs.size (.lst []), ?_, Up.new hG, I_new hI hG, by rw [List.take_zero]; exact upd_same⟩
    exact I.lnew (its := []) .nil (Nat.zero_le _)
  · obtain ⟨H1, I1, u1, i1, _⟩ := j
    exact fin s' u ⟨H1, I1, u1, i1⟩
theorem turns {f : D → Option Str} (hf : RunT T X k f) {W : Wo} {A : Around} {pins : List (Addr × Obj)} {σ : L2.St} {H : Hp} {m : Nat} {g : List Code} (sb : L2.Sub X k A) (hg : A.guards = some g) (gd : Gd T W H m g) : ∀ {us : List V} {its : List Value} {l : List D} {ts : List Str}, Vals us its → Iss T W H us l → depL l ≤ m → mapT f l = some ts →
    TurnsT X.prog X.w A X.xe (fun s' => ∃ H', Inv X pins σ H' s' ∧ Up W.toWld H H' ∧ W.I H') its ts
  | _, _, _, _, .nil, .nil, _, h => by cases h; exact .nil
  | _, _, d :: l, ts, .cons r rs, .cons h1 hs, hd, h => by
    unfold mapT at h
    split at h
    · rename_i t ts' e1 e2
      cases h
      have hd1 : dep d ≤ m := Nat.le_trans (Nat.le_max_left _ _) hd
      refine .cons (fun b s' j hz => ?_) (turns hf sb hg gd rs hs (Nat.le_trans (Nat.le_max_right _ _) hd) e2)
      obtain ⟨H1, I1, u1, i1⟩ := j
      refine wpAny_mono (hf W A pins s' σ H1 _ _ d t b g sb hg (gd.conv hd1 (fun h => Is.up u1 h)) I1 i1 (Is.up u1 h1) r e1 hz) (fun t' s2 q => ?_) fun _ _ e => e
      obtain ⟨rfl, H2, I2, u2, i2⟩ := q
      exact ⟨rfl, H2, I2, u1.trans u2, i2⟩
    · cases h
theorem runT1 (B : TxtB T X.prog X.w X.K X.mg X.base k own) {j : Nat} (hj : k ≤ j) {f : D → Option Str} (hf : RunT T X j f) (hp : ∀ {d t}, f d = some t → pur d = true) : RunT T X (j + 1) (txt1 own f) := by
  intro W A pins s σ H v x d t b g sb hg gd I hI hv rv ht hz
  unfold txt1 at ht
  split at ht
  · rename_i l
    cases e : mapT f l with
    | none => rw [e] at ht; cases ht
    | some ts =>
      rw [e] at ht
      cases ht
      have pl := purL_ofM hp e
      cases hv with | @lst p us _ nM eH hs =>
      cases rv
      obtain ⟨_, its, c, r, q⟩ := I.hok p _ eH
      by_cases hl : l = []
      · subst hl
        cases hs
        cases r
        cases e
        exact underNilJ q sb.room.units0 (by omega) fun n => ⟨rfl, H, I.tok n, Up.refl _, hI⟩
      · exact underListJ q sb.room.units0 hz (tx_list hf B.inj sb hg gd I hI nM eH hs e pl hl hz rfl fun s' u j => ⟨⟨_, _, rfl⟩, _, _, rfl, rfl, j⟩)
  · rename_i l
    cases e : mapT f l with
    | none => rw [e] at ht; cases ht
    | some ts =>
      rw [e] at ht
      cases ht
      have pl := purL_ofM hp e
      have hv0 := hv
      cases hv with | @tup p us _ nM eH hs =>
      cases rv
      obtain ⟨its, r, pt, _⟩ := I.tuple (SqT.of eH)
      obtain ⟨o, ho, hc, n, hd⟩ := pt
      have cl := Gd.clear B.inj gd hv0 (show pur (.tup l) = true from pl)
      have hdl : depL l < dep (.tup l) := Nat.lt_succ_self _
      have gd' : Gd T W H (depL l) (.builtin "tuple.__repr__.under" ⟨.ref p :: [rawInt b], []⟩ :: g) := (gd.conv (Nat.le_of_lt hdl) fun h => h).cons hv0 (show pur (.tup l) = true from pl) hdl
      refine underTupJ ho hc sb.room.units0 hz (tupReprJ ho hd hg (tupGuardF_of_clear cl) (turns hf (sub_tupU sb) (guards_under_guard (isGuard_tuple_repr_under _) hg) gd' (by simpa using r) hs (Nat.le_refl _) e) ⟨H, I, Up.refl _, hI⟩ (fun s' u j => ?_) hz)
      obtain ⟨H1, I1, u1, i1⟩ := j
      exact ⟨⟨_, _, rfl⟩, _, _, rfl, rfl, H1, I1.tok _, u1, i1⟩
  · cases ht
    cases hv with | @dct p kvs _ _ nM eH hk hs =>
    cases rv
    have : kvs = [] := List.map_eq_nil_iff.mp hk
    subst this
    obtain ⟨o, ep, ho, hc, hd, hsys⟩ := dct0 I eH
    have cl := Gd.clear B.inj gd (show Is T W H (.ref p) (.dct [] []) from .dct nM eH hk hs) rfl
    have K : ReprK X.prog X.w [p] s.heap 1 (.ref p) (dictText []) := ReprK.dict (as := []) (d := 0) ho hc hd hsys (by simp) .nil
    exact K b hz A g X.xe s _ hg (fun c hm => by rw [List.mem_singleton.mp hm]; exact cl) (by have := sb.room.un; omega) (fun _ _ z => z) fun h' tk hk => ⟨rfl, H, I.kept hk, Up.refl _, hI⟩
  · exact runT0 B W A pins s σ H v x d t b g (sb.mono (by omega)) hg gd I hI hv rv ht hz
theorem runT (B : TxtB T X.prog X.w X.K X.mg X.base k own) : ∀ n : Nat, RunT T X (k + n) (txtD own n)
  | 0 => runT0 B
  | n + 1 => runT1 B (Nat.le_add_right _ _) (runT B n) (fun h => pur_of h)
/-- repr(x) -/
def reprF (own : OwnT) (n : Nat) : List D → M D
  | [d] => fun R => ∃ t, txtD own n d = some t ∧ t.length ≤ sizeLine ∧ R (.str t)
  | _ => fail
theorem b_repr {W : Wo} (B : TxtB T X.prog X.w X.K X.mg X.base k own) (hG : X.A.guards = some []) (hr : Room (k + n + 2) X.A) : OpN T X W (.builtin "repr") (reprF own n) := by
  intro pins s σ H us vs Q I r ⟨xs, R, hx, hI, hg, q⟩
  unfold reprF at hg
  split at hg
  · rename_i d
    obtain ⟨t, ht, hz, hR⟩ := hg
    obtain ⟨v, rfl, hv⟩ := iss1 hx
    cases r with
    | @cons _ u0 _ _ rv rn =>
      cases rn
      have fin : ∀ {z s'}, (∃ tk, z = .str t tk ∧ ∃ H', Inv X pins σ H' s' ∧ Up W.toWld H H' ∧ W.I H') → EP X pins σ Q z s' := by
        rintro z s' ⟨tk, rfl, H', I', u', i'⟩
        exact ⟨.str t, H', I', ⟨tk, rfl⟩, q _ _ H' hR u' i' .str⟩
      have sb : L2.Sub X (k + n + 2) X.A := ⟨hr, rfl⟩
      have sb1 : L2.Sub X (k + n + 1) X.A.in1 := sb.in1
      have flat : ∀ {t'}, txt0 own d = some t' → t' = t → wpAny (model X.prog X.w) X.A (call (.builtin "repr") [u0]) (EP X pins σ Q) X.xe s := fun {t'} h0 et => by
        subst et
        cases hv with
        | @int i =>
          obtain ⟨tk, rfl⟩ := rv
          have h0 : (if i.natAbs.log2 < 1920 then some (Str.ofString (toString i)) else none) = some t' := h0
          split at h0
          · rename_i hb
            cases h0
            exact PySem.P.repr_of_int hb (fin ⟨_, rfl, H, I.tok _, Up.refl _, hI⟩)
          · cases h0
        | @bl b2 =>
          cases rv
          refine PySem.P.repr_of_bool (fin ⟨s.toks, ?_, H, I.tok _, Up.refl _, hI⟩)
          cases b2 <;> cases h0 <;> rfl
        | non =>
          cases rv
          cases h0
          exact PySem.P.repr_of_none (fin ⟨_, rfl, H, I.tok _, Up.refl _, hI⟩)
        | str =>
          obtain ⟨tk, rfl⟩ := rv
          cases h0
          exact PySem.P.repr_of_str (fin ⟨_, rfl, H, I.tok _, Up.refl _, hI⟩) hz
        | @ins p dx c us l hc nM e hl hs =>
          have h0 : (if purL l = true then own c l else none) = some t' := h0
          split at h0
          · rcases B.all c hc with no | ⟨f, fd, ps, b0, e1, e2, F, hbi⟩
            · rw [no] at h0
              cases h0
            · cases rv
              obtain ⟨mA, J, _⟩ := ins_get I.hok e
              obtain ⟨od, J, _⟩ := J.look
              obtain ⟨m, hF⟩ := I.fr
              refine PySem.W.repr_K sb1.room.units0 hF I.ok.mod.kin J e1 e2 (wpAny_mono (ownT_run (W := W) F hbi (sb1.room.mono (by omega)) rfl I hI (.ins hc nM e hl hs) rfl h0) (fun z s' q => ?_) fun _ _ e => e)
              obtain ⟨tk, rfl, H', I', u', i'⟩ := q
              exact fin ⟨tk, rfl, H', I', u', i'⟩
          · cases h0
        | _ => cases h0
      cases n with
      | zero => exact flat ht rfl
      | succ n =>
        replace ht : txt1 own (txtD own n) d = some t := ht
        unfold txt1 at ht
        split at ht
        · rename_i l
          cases e : mapT (txtD own n) l with
          | none => rw [e] at ht; cases ht
          | some ts =>
            rw [e] at ht
            cases ht
            have pl := purL_ofM (fun h => pur_of h) e
            cases hv with | @lst p us _ nM eH hs =>
            cases rv
            obtain ⟨_, its, c, r, ql⟩ := I.hok p _ eH
            by_cases hl : l = []
            · subst hl
              cases hs
              cases r
              cases e
              exact call_repr_slot (by have := hr.un; omega) ⟨_, ql, rfl⟩ F.slot_list_repr.toG (call_list_repr_empty ⟨_, ql, rfl⟩ ql rfl ⟨_, _, rfl, fin ⟨_, rfl, H, I.tok _, Up.refl _, hI⟩⟩)
            · exact callListJ ql (by have := hr.un; omega) (tx_list (runT B n) B.inj (sb1.mono (by omega)) hG Gd.nil I hI nM eH hs e pl hl (by simpa using hz) rfl fun s' u j => ⟨_, _, rfl, fin ⟨_, rfl, j⟩⟩)
        · rename_i l
          cases e : mapT (txtD own n) l with
          | none => rw [e] at ht; cases ht
          | some ts =>
            rw [e] at ht
            cases ht
            cases hv with | @tup p us _ nM eH hs =>
            cases rv
            obtain ⟨its, r, pt, _⟩ := I.tuple (SqT.of eH)
            obtain ⟨o, ho, hc, m, hd⟩ := pt
            have pl := purL_ofM (fun h => pur_of h) e
            have gd' : Gd T W H (depL l) (.builtin "tuple.__repr__" ⟨.ref p :: [], []⟩ :: []) := (Gd.nil (n := depL l)).cons (show Is T W H (.ref p) (.tup l) from .tup nM eH hs) (show pur (.tup l) = true from pl) (Nat.lt_succ_self _)
            refine callTupJ ho hc (by have := hr.un; omega) (tupReprJ ho hd hG (tupGuardF_of_clear (Clear.nil _)) (turns (runT B n) (sub_tup (sb1.mono (by omega))) (guards_under_guard (isGuard_tuple_repr _) hG) gd' (by simpa using r) hs (Nat.le_refl _) e) ⟨H, I, Up.refl _, hI⟩ (fun s' u j => ?_) (by simpa using hz))
            obtain ⟨H1, I1, u1, i1⟩ := j
            exact ⟨_, _, rfl, fin ⟨_, rfl, H1, I1.tok _, u1, i1⟩⟩
        · cases ht
          cases hv with | @dct p kvs _ _ nM eH hk hs =>
          cases rv
          have : kvs = [] := List.map_eq_nil_iff.mp hk
          subst this
          obtain ⟨o, ep, ho, hc, hd, hsys⟩ := dct0 I eH
          exact call_repr_slot (by have := hr.un; omega) ⟨o, ho, hc⟩ F.slot_dict_repr (call_dict_reprK (as := []) (d := 0) ho hc hd hsys (by simp) .nil hG (fun c _ => Clear.nil c) (by have := hr.un; show X.A.units + 1 + 1 < cLine; omega) (fun _ _ z => z) (fun h' tk1 tk hk => ⟨_, _, rfl, fin ⟨_, rfl, H, I.kept hk, Up.refl _, hI⟩⟩) hz)
        · exact flat ht rfl
  · exact hg.elim
end
end Uv
set_option Elab.async false
set_option linter.all false
set_option maxRecDepth 100000
set_option maxHeartbeats 4000000
namespace Uv
open PySem L2 Inn PySem.Spec PyProof.Rows
def isBG : D → D → M D
  | .bl a, .bl b => rt (.bl (a == b))
  | _, _ => fail
def notBG : D → D → M D
  | .bl a, .bl b => rt (.bl (!(a == b)))
  | _, _ => fail
/-- a op b op' c -/
def chainM (g g' : D → D → M D) (ma mb mc : M D) : M D := fun R => ma fun x => mb fun y => g x y fun z => match z with
  | .bl k => ite2 k (mc fun w => g' y w R) (R (.bl false))
  | _ => False
def flats : List D → Option (List V)
  | [] => some []
  | d :: ds => match flatD d, flats ds with
    | some v, some vs => some (v :: vs)
    | _, _ => none
/-- x in a list or tuple of flat values -/
def inG (neg : Bool) : D → D → M D := fun x y R => match y with
  | .lst l => ∃ v vs, flatD x = some v ∧ flats l = some vs ∧ R (.bl (if neg = true then !inV v vs else inV v vs))
  | .tup l => ∃ v vs, flatD x = some v ∧ flats l = some vs ∧ R (.bl (if neg = true then !inV v vs else inV v vs))
  | _ => False
/-- *m in a display -/
def starM (m : M D) (ml : M (List D)) : M (List D) := fun R => m fun d => itemsG d fun xs => ml fun ys => R (xs ++ ys)
def fmtG : D → M D
  | .int i => asks (i.natAbs.log2 < 1920) (rt (.str (Str.ofString (toString i))))
  | .str y => asks (y.length ≤ sizeLine) (rt (.str y))
  | _ => fail
def joinM : Str → List (M D) → M Str
  | acc, [] => fun R => R acc
  | acc, m :: ms => fun R => m fun d => ∃ y, d = .str y ∧ (acc ++ y).length ≤ sizeLine ∧ joinM (acc ++ y) ms R
def strM (ms : List (M D)) : M D := fun R => joinM Str.empty ms fun t => R (.str t)
section
variable {T : Ct} {X : Cx} {W W0 : Wo} {σ : L2.St} {H H0 : Hp} {pos p : Pos} {a b c e : Expr} {es : List Expr} {ma mb mc m : M D} {ml : M (List D)} {ρ : List (Option D)} {own1 own2 : D → D → M D}
theorem sv (i : Nat) (n : Sees T W σ H ρ) {nm : Str} {d : D} (hρ : ρ[i]? = some (some d) := by rfl) (hN : X.N[i]? = some nm := by rfl)
    (hvis : Vis X.env.scope nm := by first | exact Or.inl rfl | exact Or.inr (Or.inl rfl) | exact Or.inr (Or.inr rfl)) (hd : (nm == ("__debug__" : Str)) = false := by decide) (hcd : (nm == ("__classdict__" : Str)) = false := by decide) :
    Dw T X W (.Name nm pos) σ H (rt d) := by
  obtain ⟨v, e, h⟩ := n.2 i d hρ
  exact .of (pe_var hN hvis hd hcd) fun R hm H1 u hI Q q => ⟨v, e, q v H1 d (Up.refl _) hI (h.up u) hm⟩
theorem op_isBG : Op2 T X W (compareOp .Is) isBG := by
  intro pins s σ H u v a b Q I ra rb ⟨x, y, R, hx, hy, hI, hg, q⟩
  unfold isBG at hg
  split at hg
  · cases hx; cases hy
    cases ra; cases rb
    rename_i k j
    have h : EP X pins σ Q (.bool (Value.bool k == Value.bool j)) s := ⟨.bl (k == j), H, I, by cases k <;> cases j <;> rfl, q _ _ H hg (Up.refl _) hI .bl⟩
    exact wpAny_bind (wpAny_pure (wpAny_pure h))
  · exact hg.elim
theorem op_notBG : Op2 T X W (compareOp .IsNot) notBG := by
  intro pins s σ H u v a b Q I ra rb ⟨x, y, R, hx, hy, hI, hg, q⟩
  unfold notBG at hg
  split at hg
  · cases hx; cases hy
    cases ra; cases rb
    rename_i k j
    have h : EP X pins σ Q (.bool (!(Value.bool k == Value.bool j))) s := ⟨.bl (!(k == j)), H, I, by cases k <;> cases j <;> rfl, q _ _ H hg (Up.refl _) hI .bl⟩
    exact wpAny_bind (wpAny_pure (wpAny_pure h))
  · exact hg.elim
theorem flats_V {N P : Addr → Prop} {H : Hp} : ∀ {us : List V} {l : List D} {vs : List V}, IsDs T N P H us l → flats l = some vs → us = vs ∧ us.all flatV = true
  | _, _, _, .nil, h => by cases h; exact ⟨rfl, rfl⟩
  | _, d :: ds, _, .cons hd t, h => by
    unfold flats at h
    split at h
    · rename_i v vs e1 e2
      cases h
      obtain ⟨rfl, h2⟩ := flats_V t e2
      cases hd <;> cases e1 <;> exact ⟨rfl, by rw [List.all_cons, h2]; rfl⟩
    · cases h
theorem flat_V {N P : Addr → Prop} {H : Hp} {u v : V} {d : D} (h : IsD T N P H u d) (e : flatD d = some v) : u = v ∧ flatV v = true := by
  cases h <;> cases e <;> exact ⟨rfl, rfl⟩
theorem op_inG0 {neg : Bool} : Op2 T X W (compareOp (if neg = true then .NotIn else .In)) (inG neg) := by
  intro pins s σ H u v a b Q I ra rb ⟨x, y, R, hx, hy, hI, hg, q⟩
  unfold inG at hg
  have main : ∀ {p : Addr} {us : List V} {l : List D}, v = .ref p → (SqL X.K H p us ∨ SqT X.K H p us) → Iss T W H us l → (∃ z vs, flatD x = some z ∧ flats l = some vs ∧ R (.bl (if neg = true then !inV z vs else inV z vs))) → wpAny (model X.prog X.w) X.A (compareOp (if neg = true then .NotIn else .In) a b) (EP X pins σ Q) X.xe s := by
    intro p us l ev hq hs ⟨z, vs, e1, e2, hr⟩
    subst ev
    obtain ⟨rfl, f1⟩ := flat_V hx e1
    obtain ⟨rfl, f2⟩ := flats_V hs e2
    cases neg with
    | false => exact op_in_seq pins s σ H _ _ _ _ Q I ra rb ⟨p, us, rfl, hq, f1, f2, q _ _ H hr (Up.refl _) hI .bl⟩
    | true => exact op_notIn_seq pins s σ H _ _ _ _ Q I ra rb ⟨p, us, rfl, hq, f1, f2, q _ _ H hr (Up.refl _) hI .bl⟩
  split at hg
  · cases hy with | lst n e hs => exact main rfl (.inl (SqL.of e)) hs hg
  · cases hy with | tup n e hs => exact main rfl (.inr (SqT.of e)) hs hg
  · exact hg.elim
theorem op_inG : Op2 T X W (compareOp .In) (inG false) := op_inG0 (neg := false)
theorem op_notInG : Op2 T X W (compareOp .NotIn) (inG true) := op_inG0 (neg := true)
theorem chain_ev {op op' : CmpOp} {g g' : D → D → M D} (ha : Dw T X W a σ H ma) (hb : Dw T X W b σ H mb) (hc : Dw T X W c σ H mc) {R : D → Prop} (hm : chainM g g' ma mb mc R) {H1 : Hp} (u : Up W.toWld H H1) (hI : W.I H1) {Q : VK} (q : ∀ v H2 d, Up W.toWld H1 H2 → W.I H2 → Is T W H2 v d → R d → Q v H2) :
    tChain (rD2 T W g) (rD2 T W g') (teAny X a) (teAny X b) (teAny X c) σ H1 Q := ha.go hm u hI fun v H2 x u2 i2 hx px => hb.go px (u.trans u2) i2 fun w H3 y u3 i3 hy py => by
  refine ⟨x, y, _, hx.up u3, hy, i3, py, fun z w' H4 hz u4 i4 h4 => ?_⟩
  cases h4 with
  | @bl k =>
    refine ⟨k, rfl, ?_⟩
    cases k with
    | true =>
      rw [if_pos rfl]
      refine hc.go (R := fun w => g' y w R) hz (((u.trans u2).trans u3).trans u4) i4 fun w2 H5 z2 u5 i5 h5 p5 => ?_
      exact ⟨y, z2, R, Is.up (u4.trans u5) hy, h5, i5, p5, fun z w' H6 hz u6 i6 h6 => q w' H6 z ((((u2.trans u3).trans u4).trans u5).trans u6) i6 h6 hz⟩
    | false =>
      rw [if_neg Bool.false_ne_true]
      exact q _ H4 _ ((u2.trans u3).trans u4) i4 .bl hz
  | _ => exact hz.elim
theorem dw_chain {op op' : CmpOp} {g g' : D → D → M D} (ho : Op2 T X W (compareOp op) g) (ho' : Op2 T X W (compareOp op') g') (ha : Dw T X W a σ H ma) (hb : Dw T X W b σ H mb) (hc : Dw T X W c σ H mc) (hl : lastMarks [op, op'] [b, c] = false := by with_unfolding_all rfl) :
    Dw T X W (.Compare a [op, op'] [b, c] pos) σ H (chainM g g' ma mb mc) :=
  .of (pe_chain ho ho' pe_any pe_any pe_any hl) fun R hm H1 u hI Q q => chain_ev (op := op) (op' := op') ha hb hc hm u hI q
theorem tw_chain {op op' : CmpOp} {g g' : D → D → M D} (ho : Op2 T X W (compareOp op) g) (ho' : Op2 T X W (compareOp op') g') (ha : Dw T X W a σ H ma) (hb : Dw T X W b σ H mb) (hc : Dw T X W c σ H mc) (hl : lastMarks [op, op'] [b, c] = false := by with_unfolding_all rfl) :
    Tw X W (.Compare a [op, op'] [b, c] pos) σ H (tst (chainM g g' ma mb mc)) :=
  .of (pt_chain ho ho' pe_any pe_any pe_any hl) fun R hm H1 u hI Q q => chain_ev (op := op) (op' := op') ha hb hc hm u hI fun v H2 d u2 i2 hd pd => by
    cases hd with
    | bl => exact ⟨_, rfl, q _ H2 u2 i2 pd⟩
    | _ => exact pd.elim
theorem l_star (h : Dw T X W e σ H m) (hr : Lw T X W es σ H ml) (hs : starEach (.Starred e p :: es) X.env = (true, eval e X.env) :: starEach es X.env := by rfl) : Lw T X W (.Starred e p :: es) σ H (starM m ml) :=
  .of (StX.pa_star pe_any pa_any hs) fun R hm H1 u hI Q q => h.go hm u hI fun v H2 x u2 i2 hx px => by
    have main : ∀ {p : Addr} {us : List V} {l : List D}, v = .ref p → (SqT X.K H2 p us ∨ SqL X.K H2 p us) → Iss T W H2 us l → (ml fun ys => R (l ++ ys)) → ∃ p xs, v = V.ref p ∧ (SqT X.K H2 p xs ∨ SqL X.K H2 p xs) ∧ taAny X es σ H2 fun ys H3 => Q (xs ++ ys) H3 := fun {p us l} ev hq hs hr' =>
      ⟨p, us, ev, hq, hr.go hr' (u.trans u2) i2 fun vs H3 xs u3 i3 hxs pxs => q (us ++ vs) H3 (l ++ xs) (u2.trans u3) i3 ((Iss.up u3 hs).app hxs) pxs⟩
    unfold itemsG at px
    split at px
    · cases hx with | lst n e hs => exact main rfl (.inr (SqL.of e)) hs px
    · cases hx with | tup n e hs => exact main rfl (.inl (SqT.of e)) hs px
    · exact px.elim
theorem dw_fmt (h : Dw T X W e σ H m) : Dw T X W (.FormattedValue e (-1) none pos) σ H (op1 fmtG m) :=
  .of (pe_fmt pe_any) fun R hm H1 u hI Q q => h.go hm u hI fun v H2 x u2 i2 hx px => by
    unfold fmtG at px
    split at px
    · cases hx
      exact .inr ⟨_, rfl, px.1, q _ H2 _ u2 i2 .str px.2⟩
    · cases hx
      exact .inl ⟨_, rfl, px.1, q _ H2 _ u2 i2 .str px.2⟩
    · exact px.elim
/-- the parts of a text -/
def Jw (T : Ct) (X : Cx) (W : Wo) (es : List Expr) (σ : L2.St) (H : Hp) (ms : List (M D)) : Prop := ∃ ts, PJ X es ts ∧ ∀ (acc : Str) (R : Str → Prop), joinM acc ms R → ∀ H1, Up W.toWld H H1 → W.I H1 → ∀ Q : Str → Hp → Prop, (∀ t H2, Up W.toWld H1 H2 → W.I H2 → R t → Q t H2) → tJs ts acc σ H1 Q
theorem j_nil : Jw T X W [] σ H [] := ⟨[], .nil, fun acc R hm H1 u hI Q q => q acc H1 (Up.refl _) hI hm⟩
theorem j_cons {ms : List (M D)} (h : Dw T X W e σ H m) (hr : Jw T X W es σ H ms) : Jw T X W (e :: es) σ H (m :: ms) := by
  obtain ⟨ts, pj, vj⟩ := hr
  refine ⟨teAny X e :: ts, .cons pe_any pj, fun acc R hm H1 u hI Q q => h.go hm u hI fun v H2 x u2 i2 hx px => ?_⟩
  obtain ⟨y, rfl, hz, hm⟩ := px
  cases hx
  exact ⟨y, rfl, hz, vj (acc ++ y) R hm H2 (u.trans u2) i2 Q fun t H3 u3 i3 hr => q t H3 (u2.trans u3) i3 hr⟩
theorem dw_joined {v1 v2 : Expr} {rest : List Expr} {ms : List (M D)} (h : Jw T X W (v1 :: v2 :: rest) σ H ms) : Dw T X W (.JoinedStr (v1 :: v2 :: rest) pos) σ H (strM ms) := by
  obtain ⟨ts, pj, vj⟩ := h
  exact .of (pe_joined pj) fun R hm H1 u hI Q q => vj Str.empty _ hm H1 u hI _ fun t H2 u2 i2 hr => q _ H2 _ u2 i2 .str hr
end
end Uv
set_option Elab.async false
set_option linter.all false
set_option maxRecDepth 100000
set_option maxHeartbeats 4000000
namespace Uv
open PySem L2 Inn PySem.Spec PyProof.Rows
/-! ### a list that is a def's own: it stands in the slot i, at p -/
structure NowO (T : Ct) (W0 W : Wo) (H0 : Hp) (σ : L2.St) (H : Hp) (ρ : List (Option D)) (i : Nat) (l : List D) (p : Addr) (us : List V) : Prop where
  now : Now T W0 (Wg W p us) H0 σ H (ρ.set i (some (.cls (.ref p))))
  con : Iss T (Wg W p us) H us l
  nM : ¬ W.M p
section
variable {T : Ct} {X : Cx} {W W0 W1 : Wo} {σ σ1 : L2.St} {H H0 H1 : Hp} {pos p0 p1 p2 pa pc : Pos} {a b c e : Expr} {es : List Expr} {m ma mb mc : M D} {ml : M (List D)} {mt : M Bool} {ρ ρ1 ρ2 : List (Option D)} {i : Nat} {l : List D} {p : Addr} {us : List V} {D' : Ends} {sts body : List Stmt} {nm : Str} {P : D → Prop} {PL : List D → Prop}
theorem Now.join2 (a : Now T W0 W H0 σ H ρ) (b : Now T W W1 H σ1 H1 ρ1) : Now T W0 W1 H0 σ1 H1 ρ1 := ⟨fun x o n e => b.up x o (a.rel x o n e) (a.up x o n e), fun x o n e => b.rel x o (a.rel x o n e) (a.up x o n e), b.inv, b.see⟩
theorem NowO.at_ (o : NowO T W0 W H0 σ H ρ i l p us) (hρ : (ρ.set i (some (D.cls (.ref p))))[i]? = some (some (.cls (.ref p)))) : σ[i]? = some (some (.ref p)) := by
  obtain ⟨v, e, h⟩ := o.now.see.2 i _ hρ
  cases h
  exact e
theorem NowO.next (o : NowO T W0 W H0 σ H ρ i l p us) (n : Now T (Wg W p us) (Wg W p us) H σ1 H1 ρ2) (e : ρ2 = ρ1.set i (some (.cls (.ref p))) := by rfl) : NowO T W0 W H0 σ1 H1 ρ1 i l p us := by
  subst e
  exact ⟨o.now.join2 n, Iss.up n.up o.con, o.nM⟩
theorem NowO.go (o : NowO T W0 W H0 σ H ρ i l p us) (u : Up (Wg W p us).toWld H H1) (hI : (Wg W p us).I H1) : NowO T W0 W H0 σ H1 ρ i l p us := ⟨o.now.go u hI, Iss.up u o.con, o.nM⟩
/-- the list is let go: a value like others -/
theorem NowO.thaw (o : NowO T W0 W H0 σ H ρ i l p us) (hρ : (ρ.set i (some (D.cls (.ref p))))[i]? = some (some (.cls (.ref p)))) (hrel : ∀ x o', ¬ W0.M x → H0 x = some o' → ¬ W.M x) : Now T W0 W H0 σ H (ρ.set i (some (.lst l))) := by
  refine ⟨o.now.up, hrel, o.now.inv.1, ⟨by rw [o.now.see.1, List.length_set, List.length_set], fun j d e => ?_⟩⟩
  by_cases hij : i = j
  · subst hij
    rw [List.getElem?_set_self (by
      have := (List.getElem?_eq_some_iff.mp hρ).1
      simpa using this)] at e
    cases e
    exact ⟨_, o.at_ hρ, .lst o.nM o.now.inv.2 o.con.wk⟩
  · rw [List.getElem?_set_ne hij] at e
    obtain ⟨v, e1, h1⟩ := o.now.see.2 j d (by rw [List.getElem?_set_ne hij]; exact e)
    exact ⟨v, e1, h1.wk⟩
theorem NowO.rel (o : NowO T W0 W H0 σ H ρ i l p us) : ∀ x o', ¬ W0.M x → H0 x = some o' → ¬ W.M x := fun x o' n e m => o.now.rel x o' n e (.inl m)
theorem NowO.end_ (o : NowO T W0 W H0 σ H ρ i l p us) (hρ : (ρ.set i (some (D.cls (.ref p))))[i]? = some (some (.cls (.ref p))) := by rfl) : Now T W0 W H0 σ H (ρ.set i (some (.lst l))) := o.thaw hρ o.rel
/-- less is known of the other slots -/
theorem NowO.less (o : NowO T W0 W H0 σ H ρ i l p us) (hl : (ρ1.set i (some (.cls (.ref p)))).length = (ρ.set i (some (.cls (.ref p)))).length) (k : ∀ (j : Nat) (d : D), (ρ1.set i (some (.cls (.ref p))))[j]? = some (some d) → (ρ.set i (some (.cls (.ref p))))[j]? = some (some d)) : NowO T W0 W H0 σ H ρ1 i l p us :=
  ⟨o.now.less hl k, o.con, o.nM⟩
/-- tests that read the list as it stands -/
theorem up_thaw (hI : (Wg W p us).I H) (hI1 : (Wg W p us).I H1) (u : Up (Wg W p us).toWld H H1) : Up W.toWld H H1 := fun x o n e => by
  by_cases hx : x = p
  · subst hx
    rw [hI.2] at e
    cases e
    exact hI1.2
  · exact u x o (fun z => z.elim n hx) e
theorem tw_thaw (o : NowO T W0 W H0 σ H ρ i l p us) (h : Tw X W c σ H mt) : Tw X (Wg W p us) c σ H mt := fun R hm => by
  obtain ⟨t, pt, ev⟩ := h R hm
  refine ⟨t, pt, fun H1 u hI Q q => ev H1 (up_thaw o.now.inv hI u) hI.1 Q fun b H2 u2 i2 hb => q b H2 (fun x o' n e => u2 x o' (fun z => n (.inl z)) e) ⟨i2, u2 p _ o.nM hI.2⟩ hb⟩
/-- a flat value read off it -/
def flatM (m : M D) : M D := fun R => m fun d => flatD d ≠ none ∧ R d
theorem dw_thaw (o : NowO T W0 W H0 σ H ρ i l p us) (h : Dw T X W e σ H m) : Dw T X (Wg W p us) e σ H (flatM m) := fun R hm => by
  obtain ⟨t, pt, ev⟩ := h _ hm
  refine ⟨t, pt, fun H1 u hI Q q => ev H1 (up_thaw o.now.inv hI u) hI.1 Q fun v H2 d u2 i2 hd hp => q v H2 d (fun x o' n e => u2 x o' (fun z => n (.inl z)) e) ⟨i2, u2 p _ o.nM hI.2⟩ ?_ hp.2⟩
  obtain ⟨hf, _⟩ := hp
  cases hd with
  | int => exact .int
  | bl => exact .bl
  | str => exact .str
  | non => exact .non
  | _ => exact absurd rfl hf
/-- an item of it -/
theorem dw_ixO (o : NowO T W0 W H0 σ H ρ i l p us) (hj : Dw T X (Wg W p us) b σ H mb) (hs : PlainIx b := by exact fun _ _ => rfl) (hρ : (ρ.set i (some (D.cls (.ref p))))[i]? = some (some (.cls (.ref p))) := by rfl) (hN : X.N[i]? = some nm := by rfl)
    (hvis : Vis X.env.scope nm := by first | exact Or.inl rfl | exact Or.inr (Or.inl rfl) | exact Or.inr (Or.inr rfl)) (hd : (nm == ("__debug__" : Str)) = false := by decide) (hcd : (nm == ("__classdict__" : Str)) = false := by decide) :
    Dw T X (Wg W p us) (.Subscript (.Name nm p0) b pos) σ H (op2 ixG (rt (.lst l)) mb) := by
  refine .of (pe_ix ix_seq (pe_var hN hvis hd hcd) pe_any hs) fun R hm H1 u hI Q q => ⟨.ref p, o.at_ hρ, ?_⟩
  have hm : mb fun y => ixG (.lst l) y R := hm
  refine hj.go hm u hI fun w H3 y u3 i3 hy py => ?_
  unfold ixG at py
  cases y with
  | int k =>
    obtain ⟨z, ez, hz⟩ := py
    cases hy
    obtain ⟨w, ew, hw⟩ := iss_atI (Iss.up (u.trans u3) o.con) ez
    exact .inl ⟨_, _, _, w, rfl, rfl, SqL.of i3.2, ew, q w H3 z u3 i3 hw hz⟩
  | _ => exact py.elim
/-- x[j] = e -/
def storeM (l : List D) (m mj : M D) (k : List D → Prop) : Prop := m fun d => mj fun y => match y with
  | .int z => ∃ j, ixN l.length z = some j ∧ k (l.set j d)
  | _ => False
theorem w_storeO (o : NowO T W0 W H0 σ H ρ i l p us) (he : Dw T X (Wg W p us) e σ H m) (hj : Dw T X (Wg W p us) b σ H mb) (hm : storeM l m mb PL) (k : ∀ l' us' H1, NowO T W0 W H0 σ H1 ρ i l' p us' → PL l' → Wss X sts D' σ H1)
    (hρ : (ρ.set i (some (D.cls (.ref p))))[i]? = some (some (.cls (.ref p))) := by rfl) (hN : X.N[i]? = some nm := by rfl)
    (hvis : Vis X.env.scope nm := by first | exact Or.inl rfl | exact Or.inr (Or.inl rfl) | exact Or.inr (Or.inr rfl)) (hd : (nm == ("__debug__" : Str)) = false := by decide) (hcd : (nm == ("__classdict__" : Str)) = false := by decide)
    (hs : swapsWithSole [.Subscript (.Name nm p0) b p1] e pos.line X.env = pure false := by rfl) (hw : swappedStores [.Subscript (.Name nm p0) b p1] e X.env = pure none := by rfl) (h1 : (assignEach [.Subscript (.Name nm p0) b p1] X.env).map (·.2) = [assign (.Subscript (.Name nm p0) b p1) X.env] := by rfl)
    (ha : ∀ v, assign (.Subscript (.Name nm p0) b p1) X.env v = (do
      let ov ← holding [v] (eval (.Name nm p0) X.env)
      let iv ← holding [v, ov] (eval b X.env)
      standAt p1
      holding [v, ov, iv] (setItem ov iv v)
      release [v, ov, iv] []) := by intro _; rfl) :
    Wss X (.Assign [.Subscript (.Name nm p0) b p1] e pos :: sts) D' σ H := by
  refine ⟨_, pss_cons (ps_asg pe_any (pg_sub (pe_var hN hvis hd hcd) pe_any set_list ha) hs hw h1) wss_all, he.go hm (Up.refl _) o.now.inv fun v H1 d u i1 hv pd => ⟨.ref p, o.at_ hρ, hj.go pd u i1 fun w H2 y u2 i2 hy py => ?_⟩⟩
  cases y with
  | int z =>
    obtain ⟨j, ej, hk⟩ := py
    cases hy
    have hc := Iss.up (u.trans u2) o.con
    refine ⟨p, us, z, j, rfl, rfl, i2.2, by rw [o.con.len]; exact ej, ?_⟩
    have hv2 := Is.up u2 hv
    refine k (l.set j d) (us.set j v) _ ⟨⟨fun x o' n e => ?_, o.now.rel, ⟨I_mut i2.1 o.nM, upd_same⟩, ((o.now.see.up u).up u2).gw⟩, Iss.gw (IsDs.set hv2 j hc), o.nM⟩ hk
    have nx : x ≠ p := fun z => o.now.rel x o' n e (.inr z)
    rw [upd_ne nx]
    exact (u.trans u2) x o' (o.now.rel x o' n e) (o.now.up x o' n e)
  | _ => exact py.elim
/-- x.append(e) -/
def appM (l : List D) (m : M D) (k : List D → Prop) : Prop := m fun d => l.length < sizeLine ∧ k (l ++ [d])
theorem w_appO (o : NowO T W0 W H0 σ H ρ i l p us) (he : Dw T X (Wg W p us) e σ H m) (hm : appM l m PL) (k : ∀ l' us' H1, NowO T W0 W H0 σ H1 ρ i l' p us' → PL l' → Wss X sts D' σ H1)
    (hρ : (ρ.set i (some (D.cls (.ref p))))[i]? = some (some (.cls (.ref p))) := by rfl) (hN : X.N[i]? = some nm := by rfl)
    (hvis : Vis X.env.scope nm := by first | exact Or.inl rfl | exact Or.inr (Or.inl rfl) | exact Or.inr (Or.inr rfl)) (hd : (nm == ("__debug__" : Str)) = false := by decide) (hcd : (nm == ("__classdict__" : Str)) = false := by decide)
    (hbase : attributeBase (.Name nm p0) "append" X.env (eval (.Name nm p0) X.env) = eval (.Name nm p0) X.env := by rfl)
    (hfew : ((backTo pc (starEach (e :: []) X.env)).all (fun x => !x.1) && (backToKw pc (keywordEach [] X.env)).all (fun x => x.1.isSome)
      && decide ((e :: ([] : List Expr)).length + ([] : List Keyword).length + (if ([] : List Keyword).isEmpty then 0 else 1) < 30)) = true := by rfl)
    (hline : (pa.endLine == pc.line) = true := by rfl)
    (hs : starEach (e :: []) X.env = (false, eval e X.env) :: starEach [] X.env := by rfl) (hpl : (backTo pc (starEach [] X.env)).any (·.1) = false := by rfl) (hsw : swapsWith (.Call (.Attribute (.Name nm p0) "append" pa) [e] [] pc) none pos.line X.env = pure false := by rfl) :
    Wss X (.Expr (.Call (.Attribute (.Name nm p0) "append" pa) [e] [] pc) pos :: sts) D' σ H := by
  refine ⟨_, pss_cons (ps_expr (pe_bm PySem.F.plainAttrs_list PySem.F.slot_list_append PySem.F.type_list_append mt_append (pe_var hN hvis hd hcd) (pa_cons pe_any pa_nil hs) hbase hfew hline hs hpl) hsw) wss_all, ?_⟩
  refine ⟨.ref p, o.at_ hρ, .inl ⟨rfl, _, SqL.of o.now.inv.2⟩, he.go hm (Up.refl _) o.now.inv fun v H1 d u i1 hv pd => ?_⟩
  refine ⟨p, us, v, rfl, rfl, i1.2, by rw [o.con.len]; exact pd.1, ?_⟩
  refine k (l ++ [d]) (us ++ [v]) _ ⟨⟨fun x o' n e => ?_, o.now.rel, ⟨I_mut i1.1 o.nM, upd_same⟩, (o.now.see.up u).gw⟩, Iss.gw ((Iss.up u o.con).app (.cons hv .nil)), o.nM⟩ pd.2
  have nx : x ≠ p := fun z => o.now.rel x o' n e (.inr z)
  rw [upd_ne nx]
  exact u x o' (o.now.rel x o' n e) (o.now.up x o' n e)
/-- x.extend(e) -/
def extM (l : List D) (m : M D) (k : List D → Prop) : Prop := m fun d => match d with
  | .lst r => l.length + r.length ≤ sizeLine ∧ k (l ++ r)
  | _ => False
theorem w_extO (o : NowO T W0 W H0 σ H ρ i l p us) (he : Dw T X (Wg W p us) e σ H m) (hm : extM l m PL) (k : ∀ l' us' H1, NowO T W0 W H0 σ H1 ρ i l' p us' → PL l' → Wss X sts D' σ H1)
    (hρ : (ρ.set i (some (D.cls (.ref p))))[i]? = some (some (.cls (.ref p))) := by rfl) (hN : X.N[i]? = some nm := by rfl)
    (hvis : Vis X.env.scope nm := by first | exact Or.inl rfl | exact Or.inr (Or.inl rfl) | exact Or.inr (Or.inr rfl)) (hd : (nm == ("__debug__" : Str)) = false := by decide) (hcd : (nm == ("__classdict__" : Str)) = false := by decide)
    (hbase : attributeBase (.Name nm p0) "extend" X.env (eval (.Name nm p0) X.env) = eval (.Name nm p0) X.env := by rfl)
    (hfew : ((backTo pc (starEach (e :: []) X.env)).all (fun x => !x.1) && (backToKw pc (keywordEach [] X.env)).all (fun x => x.1.isSome)
      && decide ((e :: ([] : List Expr)).length + ([] : List Keyword).length + (if ([] : List Keyword).isEmpty then 0 else 1) < 30)) = true := by rfl)
    (hline : (pa.endLine == pc.line) = true := by rfl)
    (hs : starEach (e :: []) X.env = (false, eval e X.env) :: starEach [] X.env := by rfl) (hpl : (backTo pc (starEach [] X.env)).any (·.1) = false := by rfl) (hsw : swapsWith (.Call (.Attribute (.Name nm p0) "extend" pa) [e] [] pc) none pos.line X.env = pure false := by rfl) :
    Wss X (.Expr (.Call (.Attribute (.Name nm p0) "extend" pa) [e] [] pc) pos :: sts) D' σ H := by
  refine ⟨_, pss_cons (ps_expr (pe_bm PySem.F.plainAttrs_list PySem.F.slot_list_extend PySem.F.type_list_extend mt_extend (pe_var hN hvis hd hcd) (pa_cons pe_any pa_nil hs) hbase hfew hline hs hpl) hsw) wss_all, ?_⟩
  refine ⟨.ref p, o.at_ hρ, .inl ⟨rfl, _, SqL.of o.now.inv.2⟩, he.go hm (Up.refl _) o.now.inv fun v H1 d u i1 hv pd => ?_⟩
  cases hv with
  | @lst q vs r nq eq hq =>
    refine ⟨p, q, us, vs, rfl, rfl, i1.2, eq, by rw [o.con.len, hq.len]; exact pd.1, ?_⟩
    refine k (l ++ r) (us ++ vs) _ ⟨⟨fun x o' n e => ?_, o.now.rel, ⟨I_mut i1.1 o.nM, upd_same⟩, (o.now.see.up u).gw⟩, Iss.gw ((Iss.up u o.con).app hq), o.nM⟩ pd.2
    have nx : x ≠ p := fun z => o.now.rel x o' n e (.inr z)
    rw [upd_ne nx]
    exact u x o' (o.now.rel x o' n e) (o.now.up x o' n e)
  | _ => exact pd.elim
/-- x.pop() -/
def popM (l : List D) (k : List D → Prop) : Prop := l ≠ [] ∧ k l.dropLast
theorem IsDs.dropLast {T : Ct} {N P : Addr → Prop} {H : Hp} {vs : List V} {ds : List D} (h : IsDs T N P H vs ds) : IsDs T N P H vs.dropLast ds.dropLast := by
  rw [List.dropLast_eq_take, List.dropLast_eq_take, h.len]
  exact h.take _
theorem w_popO (o : NowO T W0 W H0 σ H ρ i l p us) (hm : popM l PL) (k : ∀ l' us' H1, NowO T W0 W H0 σ H1 ρ i l' p us' → PL l' → Wss X sts D' σ H1)
    (hρ : (ρ.set i (some (D.cls (.ref p))))[i]? = some (some (.cls (.ref p))) := by rfl) (hN : X.N[i]? = some nm := by rfl)
    (hvis : Vis X.env.scope nm := by first | exact Or.inl rfl | exact Or.inr (Or.inl rfl) | exact Or.inr (Or.inr rfl)) (hd : (nm == ("__debug__" : Str)) = false := by decide) (hcd : (nm == ("__classdict__" : Str)) = false := by decide)
    (hbase : attributeBase (.Name nm p0) "pop" X.env (eval (.Name nm p0) X.env) = eval (.Name nm p0) X.env := by rfl) (hline : (pa.endLine == pc.line) = true := by rfl) (hsw : swapsWith (.Call (.Attribute (.Name nm p0) "pop" pa) [] [] pc) none pos.line X.env = pure false := by rfl) :
    Wss X (.Expr (.Call (.Attribute (.Name nm p0) "pop" pa) [] [] pc) pos :: sts) D' σ H := by
  refine ⟨_, pss_cons (ps_expr (pe_bm0 PySem.F.plainAttrs_list PySem.F.slot_list_pop PySem.F.type_list_pop mt_pop (pe_var hN hvis hd hcd) hbase hline) hsw) wss_all, ?_⟩
  have hl : us ≠ [] := fun z => hm.1 (List.length_eq_zero_iff.mp (by rw [← o.con.len, z]; rfl))
  have lt : us.length - 1 < us.length := Nat.sub_lt (List.length_pos_iff.mpr hl) Nat.one_pos
  refine ⟨.ref p, o.at_ hρ, .inl ⟨rfl, _, SqL.of o.now.inv.2⟩, p, us, us[us.length - 1], rfl, rfl, o.now.inv.2, List.getElem?_eq_getElem lt, ?_⟩
  refine k l.dropLast us.dropLast _ ⟨⟨fun x o' n e => ?_, o.now.rel, ⟨I_mut o.now.inv.1 o.nM, upd_same⟩, o.now.see.gw⟩, Iss.gw o.con.dropLast, o.nM⟩ hm.2
  have nx : x ≠ p := fun z => o.now.rel x o' n e (.inr z)
  rw [upd_ne nx]
  exact o.now.up x o' n e
end
end Uv
set_option Elab.async false
set_option linter.all false
set_option maxRecDepth 100000
set_option maxHeartbeats 4000000
namespace Uv
open PySem L2 Inn PySem.Spec PyProof.Rows
/-! ### a new list -/
/-- e makes a new list of ms's items -/
def Fw (T : Ct) (X : Cx) (W : Wo) (e : Expr) (σ : L2.St) (H : Hp) (m : M (List D)) : Prop :=
  ∀ R, m R → ∃ te, PE X e te ∧ ∀ H1, Up W.toWld H H1 → W.I H1 → ∀ Q : VK, (∀ p us H2 l, H1 p = none → Up W.toWld H1 H2 → W.I H2 → H2 p = some (.lst us) → Iss T (Wg W p us) H2 us l → R l → Q (.ref p) H2) → te σ H1 Q
/-- the list's items as data of the world in which it is alone -/
theorem lone {T : Ct} {W : Wo} {H : Hp} {p : Addr} {us vs : List V} {l : List D} (hI : W.I H) (hp : H p = none) (h : Iss T W H us l) : Iss T (Wg W p vs) (upd H p (.lst vs)) us l :=
  IsDs.conv (fun a o n e => ⟨fun m => m.elim n fun z => ne_of_none e hp z, by rw [upd_ne (ne_of_none e hp)]; exact e⟩) (pot_ne hI hp) h
section
variable {T : Ct} {X : Cx} {W W0 W1 : Wo} {σ σ1 : L2.St} {H H0 H1 : Hp} {pos p0 p1 p2 pa pc : Pos} {a b c e : Expr} {es : List Expr} {m ma mb mc : M D} {ml : M (List D)} {mt : M Bool} {ρ ρ1 ρ2 : List (Option D)} {i : Nat} {l : List D} {p : Addr} {us : List V} {D' : Ends} {sts body be : List Stmt} {nm : Str} {P : D → Prop} {PL : List D → Prop}
def fitM (ml : M (List D)) : M (List D) := fun R => ml fun xs => xs.length ≤ sizeLine ∧ R xs
theorem fw_lst (h : Lw T X W es σ H ml) : Fw T X W (.List es pos) σ H (fitM ml) := fun R hm =>
  ⟨_, pe_lst pa_any, fun H1 u hI Q q => h.go hm u hI fun vs H2 xs u2 i2 hxs px => ⟨by rw [hxs.len]; exact px.1, fun p hp => q p vs _ xs (by
    cases e : H1 p with
    | none => rfl
    | some o =>
      by_cases hM : W.M p
      · obtain ⟨o', e'⟩ := W.al i2 hM
        rw [hp] at e'
        cases e'
      · have := u2 p o hM e
        rw [hp] at this
        cases this) (u2.trans (Up.new hp)) (I_new i2 hp) upd_same (lone i2 hp hxs) px.2⟩⟩
theorem none_back {H2 : Hp} (u : Up W.toWld H1 H2) (hI : W.I H2) (hp : H2 p = none) : H1 p = none := by
  cases e : H1 p with
  | none => rfl
  | some o =>
    by_cases hM : W.M p
    · obtain ⟨o', e'⟩ := W.al hI hM
      rw [hp] at e'
      cases e'
    · have := u p o hM e
      rw [hp] at this
      cases this
/-- [..] * n -/
def repM (ml : M (List D)) (mb : M D) : M (List D) := fun R => ml fun xs => xs.length ≤ sizeLine ∧ mb fun d => match d with
  | .int k => (-(2 ^ 63) ≤ k ∧ k < 2 ^ 63 ∧ xs.length * k.toNat ≤ sizeLine) ∧ R (List.replicate k.toNat xs).flatten
  | _ => False
theorem fw_mul {p3 : Pos} (h : Lw T X W es σ H ml) (hb : Dw T X W b σ H mb) : Fw T X W (.BinOp (.List es p3) .Mult b pos) σ H (repM ml mb) := fun R hm =>
  ⟨_, pe_op op_rep (pe_lst pa_any) pe_any, fun H1 u hI Q q => h.go hm u hI fun vs H2 xs u2 i2 hxs px => ⟨by rw [hxs.len]; exact px.1, fun p hp => hb.go px.2 ((u.trans u2).trans (Up.new hp)) (I_new i2 hp) fun w H3 y u3 i3 hy py => by
    cases y with
    | int k =>
      cases hy
      have e3 : H3 p = some (.lst vs) := u3 p _ (not_M i2 hp) upd_same
      have hxs3 : Iss T W H3 vs xs := Iss.up ((Up.new hp).trans u3) hxs
      exact ⟨p, k, vs, rfl, rfl, e3, py.1.1, py.1.2.1, by rw [hxs.len]; exact py.1.2.2, fun p' hp' => q p' _ _ _ (none_back (u2.trans ((Up.new hp).trans u3)) i3 hp') (((u2.trans (Up.new hp)).trans u3).trans (Up.new hp')) (I_new i3 hp') upd_same (lone i3 hp' (hxs3.rep _)) py.2⟩
    | _ => exact py.elim⟩⟩
/-- list(x) -/
theorem fw_list {nm : Str} (h : Dw T X W e σ H m) (hm : X.mg nm = none) (hv : bootBuiltins nm = some (.type "list")) (hg : Gl X nm := by rfl) (hn : nm ≠ "__name__" := by decide) (hdb : (nm == ("__debug__" : Str)) = false := by decide)
    (hs : starEach (e :: []) X.env = (false, eval e X.env) :: starEach [] X.env := by rfl) (hpl : (backTo pos (starEach [] X.env)).any (·.1) = false := by rfl) : Fw T X W (.Call (.Name nm p0) [e] [] pos) σ H (itemsM m) := fun R hR =>
  ⟨_, pe_callTy call_list_of hg hm hv (pa_cons pe_any pa_nil hs) hn hdb hs hpl, fun H1 u hI Q q => h.go hR u hI fun v H2 x u2 i2 hx px => by
    unfold itemsG at px
    split at px
    · cases hx with | @lst p0 us0 l0 n e hd =>
      exact ⟨_, _, rfl, .inl (SqL.of e), fun p hp => q p _ _ _ (none_back u2 i2 hp) (u2.trans (Up.new hp)) (I_new i2 hp) upd_same (lone i2 hp hd) px⟩
    · cases hx with | @tup p0 us0 l0 n e hd =>
      exact ⟨_, _, rfl, .inr (SqT.of e), fun p hp => q p _ _ _ (none_back u2 i2 hp) (u2.trans (Up.new hp)) (I_new i2 hp) upd_same (lone i2 hp hd) px⟩
    · exact px.elim⟩
/-- a + b, lists -/
def catM (ma mb : M D) : M (List D) := fun R => ma fun x => mb fun y => match x, y with
  | .lst a, .lst b => a.length + b.length ≤ sizeLine ∧ R (a ++ b)
  | _, _ => False
theorem fw_cat (ha : Dw T X W a σ H ma) (hb : Dw T X W b σ H mb) : Fw T X W (.BinOp a .Add b pos) σ H (catM ma mb) := fun R hR =>
  ⟨_, pe_op op_cat pe_any pe_any, fun H1 u hI Q q => ha.go hR u hI fun v H2 x u2 i2 hx px => hb.go px (u.trans u2) i2 fun w H3 y u3 i3 hy py => by
    have hx := hx.up u3
    split at py
    · cases hx with | lst n e h1 =>
      cases hy with | lst n2 e2 h2 =>
      exact ⟨_, _, _, _, rfl, rfl, e, e2, by rw [h1.len, h2.len]; exact py.1, fun p hp => q p _ _ _ (none_back (u2.trans u3) i3 hp) ((u2.trans u3).trans (Up.new hp)) (I_new i3 hp) upd_same (lone i3 hp (h1.app h2)) py.2⟩
    · exact py.elim⟩
/-- x = a new list, which is the def's own from here on -/
theorem w_own (i : Nat) {pos' : Pos} (n : Now T W0 W H0 σ H ρ) (he : Fw T X W e σ H ml) (hm : ml PL) (nd : X.N.Nodup) (k : ∀ l p us σ1 H1, NowO T W0 W H0 σ1 H1 ρ i l p us → PL l → Wss X sts D' σ1 H1)
    (hi : X.N[i]? = some nm := by rfl) (hx : Loc X.env.scope nm := by first | exact Or.inl rfl | exact Or.inr rfl) (hs : swapsWith e (some (.Name nm pos')) pos.line X.env = pure false := by rfl) (hf : X.fn nm = true ∨ X.env.scope.names.lookup nm = some .local := by first | exact .inl rfl | exact .inr rfl) :
    Wss X (.Assign [.Name nm pos'] e pos :: sts) D' σ H := by
  obtain ⟨te, pe, ev⟩ := he PL hm
  refine ⟨_, pss_cons (ps_set nd hi hx pe hs hf) wss_all, ev H (Up.refl _) n.inv _ fun p us H1 l hp u i1 e1 hl pl => ?_⟩
  have nM : ¬ W.M p := fun z => by
    obtain ⟨o, e⟩ := W.al n.inv z
    rw [hp] at e
    cases e
  have sees : Sees T (Wg W p us) σ H1 ρ := ⟨n.see.1, fun j d ej => by
    obtain ⟨v, e2, h2⟩ := n.see.2 j d ej
    exact ⟨v, e2, IsD.conv (fun a o nn ee => ⟨fun z => z.elim nn fun z => ne_of_none ee hp z, u a o nn ee⟩) (pot_ne n.inv hp) h2⟩⟩
  exact k l p us _ H1 ⟨⟨fun a o x y => u a o (n.rel a o x y) (n.up a o x y), fun a o x y z => z.elim (n.rel a o x y) fun z => ne_of_none (n.up a o x y) hp z, ⟨i1, e1⟩, sees.set i .cls⟩, hl, nM⟩ pl
/-! ### what is told -/
/-- return e, where the def began at Hs -/
theorem w_retW {Hs : Hp} {R : D → Prop} {Q : VK} (n : Now T W W Hs σ H ρ) (he : Dw T X W e σ H m) (hm : m R) (hq : ∀ y u H', R y → Up W.toWld Hs H' → W.I H' → Is T W H' u y → Q u H') (hD : D'.rt = Q) : Wss X (.Return (some e) pos :: sts) D' σ H :=
  w_ret n he hm fun d v H1 pd u i1 hd => by
    rw [hD]
    exact hq d v H1 pd (n.up.trans u) i1 hd
/-- .. while a list is the def's own -/
theorem w_retO {Hs : Hp} {R : D → Prop} {Q : VK} (o : NowO T W W Hs σ H ρ i l p us) (he : Dw T X (Wg W p us) e σ H m) (hm : m R) (hq : ∀ y u H', R y → Up W.toWld Hs H' → W.I H' → Is T W H' u y → Q u H') (hD : D'.rt = Q) : Wss X (.Return (some e) pos :: sts) D' σ H :=
  ⟨_, pss_cons (ps_ret pe_any) wss_all, he.go hm (Up.refl _) o.now.inv fun v H1 d u i1 hd pd => by
    show D'.rt v H1
    rw [hD]
    exact hq d v H1 pd (o.now.go u i1).up i1.1 hd.wk⟩
end
end Uv
set_option Elab.async false
set_option linter.all false
set_option maxRecDepth 100000
set_option maxHeartbeats 4000000
namespace Uv
open PySem L2 Inn PySem.Spec PyProof.Rows
section
variable {T : Ct} {X : Cx} {W W0 W1 : Wo} {σ σ1 : L2.St} {H H0 H1 : Hp} {pos p0 p1 p2 pa pc px py pt : Pos} {a b c e iter : Expr} {es : List Expr} {m ma mb mc : M D} {ml mi : M (List D)} {mt : M Bool} {ρ ρ1 ρ2 : List (Option D)} {i : Nat} {l : List D} {p : Addr} {us : List V} {D' : Ends} {sts body be : List Stmt} {nm : Str} {P : D → Prop} {PL : List D → Prop} {kt : Nat}
/-! ### loops while a list is the def's own -/
theorem w_forO {S : Type} {tg : Expr} {g : TG} {ρs : S → List (Option D)} {ls : S → List D} {ρb : S → D → List (Option D) → Prop} {f : D → S → (S → Prop) → (S → Prop) → Prop} {kk : S → Prop} (s0 : S) (o : NowO T W0 W H0 σ H ρ i l p us) (hit : Iw T X (Wg W p us) tg iter σ H mi) (hm : mi fun ds => forC f kk ds s0) (hp : PassesOwn (model X.prog X.w) X.A X.env X.xe) (hc : X.calm = true) (hg : PG X tg g)
    (htg : ∀ (W' : Wo) s d σ1 H1 v nx bk Q, Sees T W' σ1 H1 ((ρs s).set i (some (.cls (.ref p)))) → Is T W' H1 v d → f d s nx bk → (∀ σ2 ρ2, Sees T W' σ2 H1 (ρ2.set i (some (.cls (.ref p)))) → ρb s d ρ2 → Q σ2 H1) → g v σ1 H1 Q)
    (h0 : ∀ H2, NowO T W0 W H0 σ H2 ρ i l p us → NowO T W0 W H0 σ H2 (ρs s0) i (ls s0) p us)
    (hs : ∀ H2, NowO T W0 W H0 σ H2 ρ i l p us → ∀ d s nx bk (Nx Bk : L2.St → Hp → Prop) σ1 H1 ρ2 us1, NowO T (Wg W p us) W H2 σ1 H1 ρ2 i (ls s) p us1 → ρb s d ρ2 → (∀ s2 σ2 H3 us2, NowO T (Wg W p us) W H2 σ2 H3 (ρs s2) i (ls s2) p us2 → nx s2 → Nx σ2 H3) → (∀ s2 σ2 H3 us2, NowO T (Wg W p us) W H2 σ2 H3 (ρs s2) i (ls s2) p us2 → bk s2 → Bk σ2 H3) → f d s nx bk → Wss X body { D' with nx := Nx, ct := Nx, bk := Bk } σ1 H1)
    (hd : ∀ s σ1 H1 us1, NowO T W0 W H0 σ1 H1 (ρs s) i (ls s) p us1 → kk s → Wss X sts D' σ1 H1) (hfs : ∀ x, foldedSetIterable iter X.env x = pure x := by intro _; rfl) : Wss X (.For tg iter body [] pos :: sts) D' σ H := by
  obtain ⟨wi, pi, vi⟩ := hit _ hm
  refine ⟨_, pss_cons (ps_for hp hc pi hg wss_all hfs) wss_all, vi H (Up.refl _) o.now.inv _ fun J H2 ds G Y u2 i2 wk src hr => ?_⟩
  have oO := o.go u2 i2
  have back : ∀ {s σ1 H1 us1}, NowO T (Wg W p us) W H2 σ1 H1 (ρs s) i (ls s) p us1 → NowO T W0 W H0 σ1 H1 (ρs s) i (ls s) p us1 := fun b => ⟨oO.now.join2 b.now, b.con, b.nM⟩
  have oB := h0 H2 oO
  refine for_it wk (fun j σ1 H1 => ∃ s us1, NowO T (Wg W p us) W H2 σ1 H1 (ρs s) i (ls s) p us1 ∧ forC f kk (ds.drop j) s) ⟨s0, us, ⟨oB.now.base, oB.con, oB.nM⟩, by simpa using hr⟩ (fun j σ1 H1 _ hp => ?_) (fun j x σ1 H1 H3 hj hp hy => ?_) (fun σ1 H1 hp => ?_)
  · obtain ⟨s, us1, ns, _⟩ := hp
    exact src.st H1 ns.now.up
  · obtain ⟨s, us1, ns, pm⟩ := hp
    obtain ⟨d, hd', got⟩ := src.yl j H1 x H3 hj ns.now.up hy
    have hdrop : ds.drop j = d :: ds.drop (j + 1) := by
      rw [List.drop_eq_getElem_cons hj]
      rw [List.getElem?_eq_getElem hj] at hd'
      rw [Option.some.inj hd']
    rw [hdrop] at pm
    have item : Is T (Wg W p us1) H3 x d ∧ Up (Wg W p us1).toWld H1 H3 ∧ (Wg W p us1).I H3 := by
      rcases got with ⟨rfl, h⟩ | ⟨q, zs, l, rfl, rfl, hn, rfl, h⟩
      · exact ⟨Is.up ns.now.up h, Up.refl _, ns.now.inv⟩
      · exact ⟨.tup (not_M ns.now.inv hn) upd_same (Iss.up (W := Wg W p us1) (Up.new hn) (Iss.up ns.now.up h)), Up.new hn, I_new ns.now.inv hn⟩
    obtain ⟨hx, ux, ix⟩ := item
    have n3 := ns.go ux ix
    refine htg (Wg W p us1) s d σ1 H3 x _ _ _ n3.now.see hx pm fun σ2 ρ2 s2 b2 => ?_
    exact hs H2 oO d s _ _ _ _ σ2 H3 ρ2 us1 ⟨⟨n3.now.up, n3.now.rel, ix, s2⟩, n3.con, n3.nM⟩ b2 (fun s2 σ3 H4 us2 n4 h4 => ⟨s2, us2, n4, h4⟩) (fun s2 σ3 H4 us2 n4 h4 => hd s2 σ3 H4 us2 (back n4) h4) pm
  · obtain ⟨s, us1, ns, pm⟩ := hp
    rw [List.drop_length] at pm
    exact hd s σ1 H1 us1 (back ns) pm
theorem w_forO1 {S : Type} (j : Nat) {x : Str} (ρs : S → List (Option D)) (ls : S → List D) {f : D → S → (S → Prop) → (S → Prop) → Prop} {kk : S → Prop} (s0 : S) (o : NowO T W0 W H0 σ H ρ i l p us) (hit : Iw T X (Wg W p us) (.Name x px) iter σ H mi) (hm : mi fun ds => forC f kk ds s0) (nd : X.N.Nodup) (hp : PassesOwn (model X.prog X.w) X.A X.env X.xe) (hc : X.calm = true)
    (h0 : ∀ H2, NowO T W0 W H0 σ H2 ρ i l p us → NowO T W0 W H0 σ H2 (ρs s0) i (ls s0) p us)
    (hs : ∀ H2, NowO T W0 W H0 σ H2 ρ i l p us → ∀ d s nx bk (Nx Bk : L2.St → Hp → Prop) σ1 H1 us1, NowO T (Wg W p us) W H2 σ1 H1 ((ρs s).set j (some d)) i (ls s) p us1 → (∀ s2 σ2 H3 us2, NowO T (Wg W p us) W H2 σ2 H3 (ρs s2) i (ls s2) p us2 → nx s2 → Nx σ2 H3) → (∀ s2 σ2 H3 us2, NowO T (Wg W p us) W H2 σ2 H3 (ρs s2) i (ls s2) p us2 → bk s2 → Bk σ2 H3) → f d s nx bk → Wss X body { D' with nx := Nx, ct := Nx, bk := Bk } σ1 H1)
    (hd : ∀ s σ1 H1 us1, NowO T W0 W H0 σ1 H1 (ρs s) i (ls s) p us1 → kk s → Wss X sts D' σ1 H1) (hji : j ≠ i := by decide) (hN : X.N[j]? = some x := by rfl) (hx : L2.Loc X.env.scope x := by first | exact Or.inl rfl | exact Or.inr rfl) (hf : X.fn x = true ∨ X.env.scope.names.lookup x = some .local := by first | exact .inl rfl | exact .inr rfl)
    (hfs : ∀ x, foldedSetIterable iter X.env x = pure x := by intro _; rfl) : Wss X (.For (.Name x px) iter body [] pos :: sts) D' σ H :=
  w_forO (ρs := ρs) (ls := ls) (ρb := fun s d ρ2 => ρ2 = (ρs s).set j (some d)) s0 o hit hm hp hc (pg_name (i := j) nd hN hx hf) (fun W' s d σ1 H1 v nx bk Q se hv _ q => q _ _ (by rw [List.set_comm _ _ hji]; exact se.set j hv) rfl) h0
    (fun H2 nO d s nx bk Nx Bk σ1 H1 ρ2 us1 n2 e h1 h2 h3 => by subst e; exact hs H2 nO d s nx bk Nx Bk σ1 H1 us1 n2 h1 h2 h3) hd hfs
theorem w_forO2 {S : Type} (j k : Nat) {x y : Str} (ρs : S → List (Option D)) (ls : S → List D) {f : D → D → S → (S → Prop) → (S → Prop) → Prop} {kk : S → Prop} (s0 : S) (o : NowO T W0 W H0 σ H ρ i l p us) (hit : Iw T X (Wg W p us) (.Tuple [.Name x px, .Name y py] kt pt) iter σ H mi) (hm : mi fun ds => forC (un2F f) kk ds s0) (nd : X.N.Nodup) (hp : PassesOwn (model X.prog X.w) X.A X.env X.xe) (hc : X.calm = true)
    (h0 : ∀ H2, NowO T W0 W H0 σ H2 ρ i l p us → NowO T W0 W H0 σ H2 (ρs s0) i (ls s0) p us)
    (hs : ∀ H2, NowO T W0 W H0 σ H2 ρ i l p us → ∀ d e s nx bk (Nx Bk : L2.St → Hp → Prop) σ1 H1 us1, NowO T (Wg W p us) W H2 σ1 H1 (((ρs s).set j (some d)).set k (some e)) i (ls s) p us1 → (∀ s2 σ2 H3 us2, NowO T (Wg W p us) W H2 σ2 H3 (ρs s2) i (ls s2) p us2 → nx s2 → Nx σ2 H3) → (∀ s2 σ2 H3 us2, NowO T (Wg W p us) W H2 σ2 H3 (ρs s2) i (ls s2) p us2 → bk s2 → Bk σ2 H3) → f d e s nx bk → Wss X body { D' with nx := Nx, ct := Nx, bk := Bk } σ1 H1)
    (hd : ∀ s σ1 H1 us1, NowO T W0 W H0 σ1 H1 (ρs s) i (ls s) p us1 → kk s → Wss X sts D' σ1 H1) (hji : j ≠ i := by decide) (hki : k ≠ i := by decide) (hN1 : X.N[j]? = some x := by rfl) (hN2 : X.N[k]? = some y := by rfl) (hx1 : L2.Loc X.env.scope x := by first | exact Or.inl rfl | exact Or.inr rfl) (hx2 : L2.Loc X.env.scope y := by first | exact Or.inl rfl | exact Or.inr rfl)
    (hf1 : X.fn x = true ∨ X.env.scope.names.lookup x = some .local := by first | exact .inl rfl | exact .inr rfl) (hf2 : X.fn y = true ∨ X.env.scope.names.lookup y = some .local := by first | exact .inl rfl | exact .inr rfl)
    (ha1 : (assignEach (.Name x px :: [.Name y py]) X.env).map (·.2) = assign (.Name x px) X.env :: (assignEach [.Name y py] X.env).map (·.2) := by rfl) (ha2 : (assignEach (.Name y py :: []) X.env).map (·.2) = assign (.Name y py) X.env :: (assignEach [] X.env).map (·.2) := by rfl)
    (hn : (assignEach [.Name x px, .Name y py] X.env).length = 2 := by rfl) (hst : (assignEach [.Name x px, .Name y py] X.env).findIdx? (·.1) = none := by rfl)
    (hfs : ∀ x, foldedSetIterable iter X.env x = pure x := by intro _; rfl) : Wss X (.For (.Tuple [.Name x px, .Name y py] kt pt) iter body [] pos :: sts) D' σ H :=
  w_forO (ρs := ρs) (ls := ls) (ρb := fun s d ρ2 => ∃ a b, d = .tup [a, b] ∧ ρ2 = ((ρs s).set j (some a)).set k (some b)) s0 o hit hm hp hc (pg_tup hc (pgs_cons (pg_name (i := j) nd hN1 hx1 hf1) (pgs_cons (pg_name (i := k) nd hN2 hx2 hf2) pgs_nil ha2) ha1) hn hst)
    (fun W' s d σ1 H1 v nx bk Q se hv h q => by
      unfold un2F at h
      split at h
      · cases hv with | tup nM e hs =>
        obtain ⟨u, w, rfl, h1, h2⟩ := iss2 hs
        refine ⟨_, _, rfl, SqT.of e, rfl, u, _, rfl, w, _, rfl, rfl, q _ _ ?_ ⟨_, _, rfl, rfl⟩⟩
        rw [List.set_comm _ _ hki, List.set_comm (l := ρs s) _ _ hji]
        exact (se.set j h1).set k h2
      · exact h.elim) h0
    (fun H2 nO d s nx bk Nx Bk σ1 H1 ρ2 us1 n2 e h1 h2 h3 => by
      obtain ⟨a, b, rfl, rfl⟩ := e
      exact hs H2 nO a b s nx bk Nx Bk σ1 H1 us1 n2 h1 h2 h3) hd hfs
theorem w_whileO {S : Type} (ρs : S → List (Option D)) (ls : S → List D) {cm : S → M Bool} {f : S → (S → Prop) → (S → Prop) → Prop} {kk : S → Prop} (s0 : S) (o : NowO T W0 W H0 σ H ρ i l p us) (hm : whC cm f kk s0) (hp : PassesOwn (model X.prog X.w) X.A X.env X.xe)
    (h0 : NowO T W0 W H0 σ H (ρs s0) i (ls s0) p us) (hc : ∀ s σ1 H1 us1, NowO T W0 W H0 σ1 H1 (ρs s) i (ls s) p us1 → Tw X (Wg W p us1) c σ1 H1 (cm s))
    (hs : ∀ s nx bk (Nx Bk : L2.St → Hp → Prop) σ1 H1 us1, NowO T W0 W H0 σ1 H1 (ρs s) i (ls s) p us1 → (∀ s2 σ2 H3 us2, NowO T W0 W H0 σ2 H3 (ρs s2) i (ls s2) p us2 → nx s2 → Nx σ2 H3) → (∀ s2 σ2 H3 us2, NowO T W0 W H0 σ2 H3 (ρs s2) i (ls s2) p us2 → bk s2 → Bk σ2 H3) → f s nx bk → Wss X body { D' with nx := Nx, ct := Nx, bk := Bk } σ1 H1)
    (hd : ∀ s σ1 H1 us1, NowO T W0 W H0 σ1 H1 (ρs s) i (ls s) p us1 → kk s → Wss X sts D' σ1 H1) : Wss X (.While c body [] pos :: sts) D' σ H := by
  obtain ⟨n0, hm⟩ := hm
  have hpt : PT X c (ttAny X c) := pt_any
  refine ⟨_, pss_cons (ps_while hp hpt wss_all) wss_all, fun m σ1 H1 => ∃ s us1, NowO T W0 W H0 σ1 H1 (ρs s) i (ls s) p us1 ∧ loopC cm f kk m s, ⟨n0, s0, us, h0, hm⟩, fun m σ1 H1 hw => ?_⟩
  obtain ⟨s, us1, ns, hl⟩ := hw
  cases m with
  | zero => exact hl.elim
  | succ m =>
    refine (hc s σ1 H1 us1 ns).go hl (Up.refl _) ns.now.inv fun b H2 u2 i2 pb => ?_
    cases b with
    | true => exact ⟨_, fun σ2 H2 z => z, hs s _ _ _ _ σ1 H2 us1 (ns.go u2 i2) (fun s2 σ2 H3 us2 n3 h3 => ⟨m, Nat.lt_succ_self m, s2, us2, n3, h3⟩) (fun s2 σ2 H3 us2 n3 h3 => hd s2 σ2 H3 us2 n3 h3) pb⟩
    | false => exact hd s σ1 H2 us1 (ns.go u2 i2) pb
end
end Uv
set_option Elab.async false
set_option linter.all false
set_option maxRecDepth 100000
set_option maxHeartbeats 4000000
namespace Uv
open PySem L2 Inn PySem.Spec PyProof.Rows
/-! ### results of which all is new -/
/-- new since H -/
abbrev IsN (T : Ct) (W : Wo) (H1 H2 : Hp) (v : V) (d : D) : Prop := IsD T (fun a => W.M a ∨ ∃ o, H1 a = some o) W.P H2 v d
abbrev IsNs (T : Ct) (W : Wo) (H1 H2 : Hp) (v : List V) (d : List D) : Prop := IsDs T (fun a => W.M a ∨ ∃ o, H1 a = some o) W.P H2 v d
section
variable {T : Ct} {X : Cx} {W W0 W1 : Wo} {σ σ1 : L2.St} {H H0 H1 H2 H3 : Hp} {pos p0 p1 p2 pa pc px py pt : Pos} {a b c e iter elt : Expr} {es : List Expr} {m ma mb mc : M D} {ml mi : M (List D)} {mt : M Bool} {ρ ρ1 ρ2 : List (Option D)} {i : Nat} {l : List D} {p : Addr} {us : List V} {D' : Ends} {sts body be : List Stmt} {nm : Str} {P : D → Prop} {PL : List D → Prop} {kt : Nat} {v : V} {d : D}
theorem IsN.is (h : IsN T W H1 H2 v d) : Is T W H2 v d := IsD.conv (fun a o n e => ⟨fun m => n (.inl m), e⟩) (fun _ h => h) h
theorem IsNs.is {vs : List V} {ds : List D} (h : IsNs T W H1 H2 vs ds) : Iss T W H2 vs ds := IsDs.conv (fun a o n e => ⟨fun m => n (.inl m), e⟩) (fun _ h => h) h
theorem IsN.up (h : IsN T W H1 H2 v d) (u : Up W.toWld H2 H3) : IsN T W H1 H3 v d := IsD.conv (fun a o n e => ⟨n, u a o (fun m => n (.inl m)) e⟩) (fun _ h => h) h
theorem IsNs.up {vs : List V} {ds : List D} (h : IsNs T W H1 H2 vs ds) (u : Up W.toWld H2 H3) : IsNs T W H1 H3 vs ds := IsDs.conv (fun a o n e => ⟨n, u a o (fun m => n (.inl m)) e⟩) (fun _ h => h) h
/-- new since earlier -/
theorem IsN.back (h : IsN T W H1 H2 v d) (u : Up W.toWld H H1) : IsN T W H H2 v d := IsD.conv (fun a o n e => ⟨fun z => z.elim (fun m => n (.inl m)) fun ⟨o', e'⟩ => n (.inr ⟨o', u a o' (fun m => n (.inl m)) e'⟩), e⟩) (fun _ h => h) h
theorem IsNs.back {vs : List V} {ds : List D} (h : IsNs T W H1 H2 vs ds) (u : Up W.toWld H H1) : IsNs T W H H2 vs ds := IsDs.conv (fun a o n e => ⟨fun z => z.elim (fun m => n (.inl m)) fun ⟨o', e'⟩ => n (.inr ⟨o', u a o' (fun m => n (.inl m)) e'⟩), e⟩) (fun _ h => h) h
def Fd (T : Ct) (X : Cx) (W : Wo) (e : Expr) (σ : L2.St) (H : Hp) (m : M D) : Prop :=
  ∀ R, m R → ∃ te, PE X e te ∧ ∀ H1, Up W.toWld H H1 → W.I H1 → ∀ Q : VK, (∀ v H2 d, Up W.toWld H1 H2 → W.I H2 → IsN T W H1 H2 v d → R d → Q v H2) → te σ H1 Q
def Lf (T : Ct) (X : Cx) (W : Wo) (es : List Expr) (σ : L2.St) (H : Hp) (m : M (List D)) : Prop :=
  ∀ R, m R → ∃ ta, PA X es ta ∧ ∀ H1, Up W.toWld H H1 → W.I H1 → ∀ Q : List V → Hp → Prop, (∀ vs H2 ds, Up W.toWld H1 H2 → W.I H2 → IsNs T W H1 H2 vs ds → R ds → Q vs H2) → ta σ H1 Q
theorem Fd.dw (h : Fd T X W e σ H m) : Dw T X W e σ H m := fun R hm => by
  obtain ⟨te, pe, ev⟩ := h R hm
  exact ⟨te, pe, fun H1 u hI Q q => ev H1 u hI Q fun v H2 d u2 i2 hd pd => q v H2 d u2 i2 hd.is pd⟩
theorem Fd.go {R : D → Prop} (h : Fd T X W e σ H m) (hm : m R) (u : Up W.toWld H H1) (hI : W.I H1) {Q : VK} (q : ∀ v H2 d, Up W.toWld H1 H2 → W.I H2 → IsN T W H1 H2 v d → R d → Q v H2) : teAny X e σ H1 Q := by
  obtain ⟨t, p, ev⟩ := h R hm
  exact ⟨t, p, ev H1 u hI Q q⟩
theorem Lf.go {R : List D → Prop} (h : Lf T X W es σ H ml) (hm : ml R) (u : Up W.toWld H H1) (hI : W.I H1) {Q : List V → Hp → Prop} (q : ∀ vs H2 ds, Up W.toWld H1 H2 → W.I H2 → IsNs T W H1 H2 vs ds → R ds → Q vs H2) : taAny X es σ H1 Q := by
  obtain ⟨t, p, ev⟩ := h R hm
  exact ⟨t, p, ev H1 u hI Q q⟩
theorem Fd.of {te : TE} (pe : PE X e te) (h : ∀ R, m R → ∀ H1, Up W.toWld H H1 → W.I H1 → ∀ Q : VK, (∀ v H2 d, Up W.toWld H1 H2 → W.I H2 → IsN T W H1 H2 v d → R d → Q v H2) → te σ H1 Q) : Fd T X W e σ H m := fun R hm => ⟨te, pe, h R hm⟩
theorem isN_flat (h : Is T W H2 v d) (hf : flatD d ≠ none) : IsN T W H1 H2 v d := by
  cases h with
  | int => exact .int
  | bl => exact .bl
  | str => exact .str
  | non => exact .non
  | _ => exact absurd rfl hf
theorem fd_flat (h : Dw T X W e σ H m) : Fd T X W e σ H (flatM m) := .of pe_any fun R hm H1 u hI Q q => h.go hm u hI fun v H2 d u2 i2 hd pd => q v H2 d u2 i2 (isN_flat hd pd.1) pd.2
theorem lf_nil : Lf T X W [] σ H lnil := fun R hm => ⟨_, pa_nil, fun H1 _ hI Q q => q [] H1 [] (Up.refl _) hI .nil hm⟩
theorem lf_cons (h : Fd T X W e σ H m) (hr : Lf T X W es σ H ml) (hs : starEach (e :: es) X.env = (false, eval e X.env) :: starEach es X.env := by rfl) : Lf T X W (e :: es) σ H (lcons m ml) := fun R hm =>
  ⟨_, pa_cons pe_any pa_any hs, fun H1 u hI Q q => h.go hm u hI fun v H2 x u2 i2 hx px => hr.go px (u.trans u2) i2 fun vs H3 xs u3 i3 hxs pxs => q (v :: vs) H3 (x :: xs) (u2.trans u3) i3 (.cons (hx.up u3) (hxs.back u2)) pxs⟩
theorem isN_new {o : HO} {q : Addr} (u : Up W.toWld H1 H2) (hI : W.I H2) (hq : H2 q = none) : ¬ (W.M q ∨ ∃ o, H1 q = some o) := fun z => z.elim (fun m => not_M hI hq m) fun ⟨o, e⟩ => by
  rw [none_back u hI hq] at e
  cases e
theorem fd_lst (h : Lf T X W es σ H ml) : Fd T X W (.List es pos) σ H (lstM ml) :=
  .of (pe_lst pa_any) fun R hm H1 u hI Q q => h.go hm u hI fun vs H2 xs u2 i2 hxs px => ⟨by rw [hxs.len]; exact px.1, fun p hp => q _ _ _ (u2.trans (Up.new hp)) (I_new i2 hp) (.lst (isN_new (o := .own p) u2 i2 hp) upd_same (hxs.up (Up.new hp))) px.2⟩
/-- an instance of flat fields -/
def mkF (c : Nat) (s : List D → M (List D)) (dds : List D) (ds : List D) : M D := fun R => s (ds ++ dds) fun fl => flats fl ≠ none ∧ R (.ins c fl)
theorem isNs_flats {N N' Pt : Addr → Prop} {H : Hp} : ∀ {vs : List V} {ds : List D}, IsDs T N Pt H vs ds → flats ds ≠ none → IsDs T N' Pt H vs ds
  | _, _, .nil, _ => .nil
  | _, d :: ds, .cons h t, hf => by
    unfold flats at hf
    split at hf
    · rename_i v vs e1 e2
      exact .cons (by cases h <;> first | exact .int | exact .bl | exact .str | exact .non | cases e1) (isNs_flats t (by rw [e2]; simp))
    · exact absurd rfl hf
theorem fd_make {k c n : Nat} {s : List D → M (List D)} {dds : List D} (B : MkD T X.prog X.w X.K X.mg X.base k c nm n s dds) (hr : Room (k + 1) X.A) (ha : Lw T X W (e :: es) σ H ml) (hg : Gl X nm := by rfl) (hdb : (nm == ("__debug__" : Str)) = false := by decide)
    (he : starEach (e :: es) X.env = (false, eval e X.env) :: starEach es X.env := by rfl) (hpl : (backTo pos (starEach es X.env)).any (·.1) = false := by rfl) : Fd T X W (.Call (.Name nm p0) (e :: es) [] pos) σ H (opN (mkF c s dds) ml) := by
  obtain ⟨f, fd, ps, dsv, dvs, F, M, hm, hbi, hdv, hd⟩ := B.ex
  refine .of (pe_make (E := E0) M F hr hg hm hbi hdv pass0 pa_any hdb he hpl) fun R hR H1 u hI Q q => ha.go hR u hI fun vs H2 ds u2 i2 hx px => fun x dx nx ndx ne => ?_
  have hs := hx.app (hd W H2)
  refine ⟨W, H2, x, dx, vs ++ dvs, ds ++ dds, _, rfl, nx, ndx, ne, rfl, i2, hs, B.len _ _ px, px, fun fl us' H' hr u i e hl' hs' => ⟨rfl, q _ H' _ (u2.trans u) i (.ins B.lt ?_ e hl' (isNs_flats hs' hr.1)) hr.2⟩⟩
  exact isN_new (o := .own x) u2 i2 nx
theorem fd_call {k n : Nat} {s : List D → M D} (B : DefD T X.prog X.w X.K X.mg X.base k nm true n s) (hr : Room k X.A) (ha : Lw T X W (e :: es) σ H ml) (hg : Gl X nm := by rfl) (hdb : (nm == ("__debug__" : Str)) = false := by decide)
    (he : starEach (e :: es) X.env = (false, eval e X.env) :: starEach es X.env := by rfl) (hpl : (backTo pos (starEach es X.env)).any (·.1) = false := by rfl) : Fd T X W (.Call (.Name nm p0) (e :: es) [] pos) σ H (opN s ml) := by
  obtain ⟨f, fd, ps, F, hm, hk, hb⟩ := B.ex
  refine .of (pe_call (E := E0) F hr hg hm hk hb .nil pass0 pa_any hdb he hpl) fun R hR H1 u hI Q q => ha.go hR u hI fun vs H2 ds u2 i2 hx px => ?_
  rw [List.append_nil]
  exact ⟨W, ds, R, hx, B.len ds R px, i2, px, fun y w H3 hy u3 i3 h3 hf => q w H3 y (u2.trans u3) i3 (IsN.back (hf rfl) u2) hy⟩
theorem fd_callK {k n : Nat} {s : List D → M D} {ks : List Str} {π : List Nat} {kw : Keyword} {kws : List Keyword} (B : DefK T X.prog X.w X.K X.mg X.base k nm true 0 ks π n s) (hr : Room k X.A) (hkw : Kw T X W (kw :: kws) σ H ml) (hkl : (kw :: kws).length = ks.length := by rfl)
    (hg : Gl X nm := by rfl) (hdb : (nm == ("__debug__" : Str)) = false := by decide) (hall : (backToKw pos (keywordEach (kw :: kws) X.env)).all (·.1.isSome) = true := by rfl) (hks : (backToKw pos (keywordEach (kw :: kws) X.env)).filterMap (·.1) = ks := by rfl)
    (hpl : ((backTo pos (starEach [] X.env)).any (·.1) || (backToKw pos (keywordEach (kw :: kws) X.env)).any (·.1.isNone)) = false := by rfl) : Fd T X W (.Call (.Name nm p0) [] (kw :: kws) pos) σ H (opN (fun ds => s (arr π ds)) ml) := by
  obtain ⟨f, fd, ps, F, hm, hk, hb⟩ := B.ex
  have pe : PE X (.Call (.Name nm p0) [] (kw :: kws) pos) (fun σ H Q => tkAny X (kw :: kws) σ H fun zs H2 => zs.length = ks.length ∧ SpD T true n s (arr π ([] ++ zs)) H2 Q E0) := by
    refine ⟨fun pins s0 σ H Q I h => ?_⟩
    refine wpAny_Call_Name_kw (ld_glob I hg hm ?_ hdb)
    refine PySem.W.callWith_KW0 (h₀ := X.base) I.ok.mod.kin hk hall (thn (pk_any.run pos pins s0 σ H _ I h) fun ws s2 ⟨zs, H2, I2, rz, l2, q2⟩ => ⟨I2.kIn, ?_⟩) hpl
    rw [hks]
    exact wpAny_call (run_kw F hr hb I2 .nil rz rfl l2 q2)
  exact .of pe fun R hR H1 u hI Q q => hkw.go hR u hI fun vs H2 ds u2 i2 hx hl px => ⟨(hx.len.trans hl).trans hkl, W, arr π ds, R, by rw [List.nil_append]; exact hx.arr π, B.len _ R px, i2, px, fun y w H3 hy u3 i3 h3 hf => q w H3 y (u2.trans u3) i3 (IsN.back (hf rfl) u2) hy⟩
/-- return e, all new -/
theorem w_retF {Hs : Hp} {R : D → Prop} {Q : VK} (n : Now T W W Hs σ H ρ) (he : Fd T X W e σ H m) (hm : m R) (hq : ∀ y u H', R y → Up W.toWld Hs H' → W.I H' → Is T W H' u y → (true = true → IsD T (fun a => W.M a ∨ ∃ o, Hs a = some o) W.P H' u y) → Q u H') (hD : D'.rt = Q) : Wss X (.Return (some e) pos :: sts) D' σ H :=
  ⟨_, pss_cons (ps_ret pe_any) wss_all, he.go hm (Up.refl _) n.inv fun v H1 d u i1 hd pd => by
    show D'.rt v H1
    rw [hD]
    exact hq d v H1 pd (n.up.trans u) i1 hd.is fun _ => hd.back n.up⟩
end
/-! ### comprehensions of new items -/
structure LcN (T : Ct) (W : Wo) (H2 : Hp) (Dn : Addr) (ds : List D) (f : D → M D) (R : D → Prop) (i : Nat) (H' : Hp) : Prop where
  ex : ∃ us ys, Up (Wg W Dn us).toWld H2 H' ∧ (Wg W Dn us).I H' ∧ IsNs T (Wg W Dn us) H2 H' us ys ∧ us.length ≤ i ∧ mapD f (ds.drop i) fun zs => R (.lst (ys ++ zs))
section
variable {T : Ct} {X : Cx} {W W0 : Wo} {σ : L2.St} {H H0 : Hp} {pos p pc : Pos} {e elt tg iter : Expr} {es : List Expr} {m : M D} {mi : M (List D)} {ρ : List (Option D)} {scope : Scope} {own : List (Str × Nat)} {ifs : List Expr}
theorem fd_core {f : D → M D} {bnd : D → List (Option D) → Prop} {g : TG} (hit : Iw T X W tg iter σ H mi) (hS : Sees T W σ H ρ) (hc : X.calm = true) (hN : X.N.Nodup) (ok : BlkOk X.N X.env.scope scope own)
    (hg : ∀ (s : Shared) (H : Hp) (C : Addr) (cl : List (Str × Addr)) (fp : List Addr), PG (X.blk s H scope (compEnvC scope cl C X.env) fp) tg g)
    (htg : ∀ (W' : Wo) (H' : Hp) v d R (Q : L2.St → Hp → Prop), Sees T W' (L2.wipe σ (own.map (·.2))) H' (wipeD ρ (own.map (·.2))) → Is T W' H' v d → f d R → (∀ σ2 ρ2, Sees T W' σ2 H' ρ2 → bnd d ρ2 → L2.wipe σ2 (own.map (·.2)) = L2.wipe σ (own.map (·.2)) → Q σ2 H') → g v (L2.wipe σ (own.map (·.2))) H' Q)
    (he : ∀ (s : Shared) (Hb : Hp) (C : Addr) (cl : List (Str × Addr)) (fp : List Addr) (W' : Wo) σ2 H' d ρ2, Sees T W' σ2 H' ρ2 → bnd d ρ2 → Fd T (X.blk s Hb scope (compEnvC scope cl C X.env) fp) W' elt σ2 H' (f d))
    (hs : ∀ x, foldedSetIterable iter X.env x = pure x := by intro _; rfl) : Fd T X W (.ListComp elt [⟨tg, iter, [], 0⟩] scope pc) σ H (lcM mi f) := by
  intro R hm
  obtain ⟨wi, pi, vi⟩ := hit _ hm
  refine ⟨_, pe_lc (own := own) hc hN pi ok hg (fun _ _ _ _ _ => pts_nil) (fun _ _ _ _ _ => pe_tBx) hs, fun H1 u1 i1 Q q => vi H1 u1 i1 _ fun J H2 ds G Y u2 i2 wk src hr => ?_⟩
  obtain ⟨hl, hr⟩ := hr
  intro Dn hD
  have hnM : ¬ W.M Dn := not_M i2 hD
  have kp : ∀ {us H'}, Up (Wg W Dn us).toWld H2 H' → Up W.toWld H2 H' := fun {us H'} u a o n e => u a o (fun m => m.elim n fun z => ne_of_none e hD z) e
  refine lc_it wk (LcN T W H2 Dn ds f R) ?_ (fun i H' _ hp => ?_) (fun i x H' H'' hi hp hy => ?_) (fun H' hp => ?_)
  · exact ⟨[], [], fun a o n e => by rw [upd_ne (fun z => n (.inr z))]; exact e, ⟨I_new i2 hD, upd_same⟩, .nil, Nat.le_refl _, by simpa using hr⟩
  · obtain ⟨us, ys, pu, _⟩ := hp.ex
    exact src.st H' (kp pu)
  · obtain ⟨us, ys, pu, pI, ps, pl, pm⟩ := hp.ex
    obtain ⟨d, hd, got⟩ := src.yl i H' x H'' hi (kp pu) hy
    have hdrop : ds.drop i = d :: ds.drop (i + 1) := by
      rw [List.drop_eq_getElem_cons hi]
      rw [List.getElem?_eq_getElem hi] at hd
      rw [Option.some.inj hd]
    rw [hdrop] at pm
    have st : ∀ {v d'}, Is T W H2 v d' → Is T (Wg W Dn us) H' v d' := fun h => IsD.conv (fun a o n e => ⟨fun m => m.elim n fun z => ne_of_none e hD z, pu a o (fun m => m.elim n fun z => ne_of_none e hD z) e⟩) (pot_ne i2 hD) h
    have sts : ∀ {v d'}, Iss T W H2 v d' → Iss T (Wg W Dn us) H' v d' := fun h => IsDs.conv (fun a o n e => ⟨fun m => m.elim n fun z => ne_of_none e hD z, pu a o (fun m => m.elim n fun z => ne_of_none e hD z) e⟩) (pot_ne i2 hD) h
    have item : Is T (Wg W Dn us) H'' x d ∧ Up (Wg W Dn us).toWld H' H'' ∧ (Wg W Dn us).I H'' := by
      rcases got with ⟨rfl, h⟩ | ⟨p, zs, l, rfl, rfl, hn, rfl, h⟩
      · exact ⟨st h, Up.refl _, pI⟩
      · exact ⟨.tup (not_M pI hn) upd_same (Iss.up (Up.new hn) (sts h)), Up.new hn, I_new pI hn⟩
    obtain ⟨hx, ux, ix⟩ := item
    have sees : Sees T (Wg W Dn us) (L2.wipe σ (own.map (·.2))) H'' (wipeD ρ (own.map (·.2))) := by
      have h0 : Sees T W σ H2 ρ := (hS.up u1).up u2
      have h1 : Sees T (Wg W Dn us) σ H' ρ := ⟨h0.1, fun i d e => let ⟨v, e1, h1⟩ := h0.2 i d e; ⟨v, e1, st h1⟩⟩
      exact (h1.up ux).wipe _
    refine htg _ H'' x d _ _ sees hx pm fun σ2 ρ2 s2 b2 w2 => ⟨w2, ?_⟩
    unfold tYes
    dsimp only
    rw [if_pos rfl]
    intro s Hb C cl fp
    obtain ⟨te, pe, ev⟩ := he s Hb C cl fp _ σ2 H'' d ρ2 s2 b2 _ pm
    refine ⟨te, pe, ev H'' (Up.refl _) ix _ fun v H4 y u4 i4 hv hy' => ⟨us, i4.2, Nat.lt_of_le_of_lt pl (Nat.lt_of_lt_of_le hi hl), ?_⟩⟩
    have u14 := (pu.trans ux).trans u4
    refine ⟨us ++ [v], ys ++ [y], fun a o n e => ?_, ⟨I_mut i4.1 hnM, upd_same⟩, ?_, ?_, ?_⟩
    · rw [upd_ne (fun z => n (.inr z))]
      exact u14 a o n e
    · have hall : IsNs T (Wg W Dn us) H2 H4 (us ++ [v]) (ys ++ [y]) := ((ps.up ux).up u4).app (.cons (hv.back (pu.trans ux)) .nil)
      exact IsDs.conv (fun a o n e => ⟨n, by rw [upd_ne (fun z => n (.inl (.inr z)))]; exact e⟩) (fun _ h => h) hall
    · rw [List.length_append]
      exact Nat.succ_le_succ pl
    · have e : (fun zs => R (.lst ((ys ++ [y]) ++ zs))) = fun zs => R (.lst (ys ++ (y :: zs))) := by
        funext zs
        rw [List.append_assoc]
        rfl
      rw [e]
      exact hy'
  · obtain ⟨us, ys, pu, pI, ps, pl, pm⟩ := hp.ex
    rw [List.drop_length] at pm
    have pm : R (.lst (ys ++ [])) := pm
    rw [List.append_nil] at pm
    have old : ∀ a, (W.M a ∨ ∃ o, H1 a = some o) → ((Wg W Dn us).M a ∨ ∃ o, H2 a = some o) := fun a z => z.elim (fun m => .inl (.inl m)) fun ⟨o, e⟩ => by
      by_cases hM : W.M a
      · exact .inl (.inl hM)
      · exact .inr ⟨o, u2 a o hM e⟩
    refine q _ H' _ (u2.trans (kp pu)) pI.1 (.lst (isN_new (o := .own Dn) u2 i2 hD) pI.2 ?_) pm
    exact IsDs.conv (fun a o n e => ⟨fun z => n (old a z), e⟩) (fun _ h => h.1) ps
/-- [elt for x in it], all new -/
theorem fd_1 (i : Nat) {x : Str} {px : Pos} {f : D → M D} (hit : Iw T X W (.Name x px) iter σ H mi) (hS : Sees T W σ H ρ)
    (he : ∀ (s : Shared) (Hb : Hp) (C : Addr) (cl : List (Str × Addr)) (fp : List Addr) (W' : Wo) σ2 H' d, Sees T W' σ2 H' ((wipeD ρ [i]).set i (some d)) → Fd T (X.blk s Hb scope (compEnvC scope cl C X.env) fp) W' elt σ2 H' (f d))
    (hc : X.calm = true) (hN : X.N.Nodup) (ok : BlkOk X.N X.env.scope scope [(x, i)])
    (hg : ∀ (s : Shared) (H : Hp) (C : Addr) (cl : List (Str × Addr)) (fp : List Addr), PG (X.blk s H scope (compEnvC scope cl C X.env) fp) (.Name x px) (gName i)) (hs : ∀ x, foldedSetIterable iter X.env x = pure x := by intro _; rfl) :
    Fd T X W (.ListComp elt [⟨.Name x px, iter, [], 0⟩] scope pc) σ H (lcM mi f) :=
  fd_core (own := [(x, i)]) (bnd := fun d ρ2 => ρ2 = (wipeD ρ [i]).set i (some d)) hit hS hc hN ok hg
    (fun W' H' v d R Q s hv _ q => q _ _ (s.set i hv) rfl wipe1) (fun s Hb C cl fp W' σ2 H' d ρ2 se b => by subst b; exact he s Hb C cl fp W' σ2 H' d se) hs
end
end Uv
set_option Elab.async false
set_option linter.all false
set_option maxRecDepth 100000
set_option maxHeartbeats 4000000
namespace Uv
open PySem L2 Inn PySem.Spec PyProof.Rows
/-! ### what is new is set apart, to be written into later -/
def Wr (W : Wo) (Cs : Addr → Option HO) : Wo where
  M a := W.M a ∨ ∃ o, Cs a = some o
  I H := W.I H ∧ ∀ a o, Cs a = some o → H a = some o
  st h k := ⟨W.st h.1 fun a m => k a (.inl m), fun a o e => by rw [k a (.inr ⟨o, e⟩)]; exact h.2 a o e⟩
  al h m := m.elim (fun m => W.al h.1 m) fun ⟨o, e⟩ => ⟨o, h.2 _ o e⟩
  P a := W.P a ∧ Cs a = none
  pm h := .inl (W.pm h.1)
  rd i h := W.rd i.1 h.1
  wr x y i h h1 h2 h3 := ⟨W.wr x y i.1 h.1 h1 h2 h3, fun b o e => by
    rw [upd_ne (fun z => by rw [z, h.2] at e; cases e)]
    exact i.2 b o e⟩
structure NowR (T : Ct) (W0 W : Wo) (H0 : Hp) (σ : L2.St) (H : Hp) (ρ : List (Option D)) (i : Nat) (d : D) (Cs : Addr → Option HO) (v : V) : Prop where
  now : Now T W0 (Wr W Cs) H0 σ H (ρ.set i (some (.cls v)))
  con : IsD T (fun a => W.M a ∨ Cs a = none) W.P H v d
  dj : ∀ a, W.M a → Cs a = none
section
variable {T : Ct} {X : Cx} {W W0 W1 : Wo} {σ σ1 : L2.St} {H H0 H1 : Hp} {pos p0 p1 p2 pa pc px py pt : Pos} {a b c e iter : Expr} {es : List Expr} {m ma mb mc : M D} {ml mi : M (List D)} {mt : M Bool} {ρ ρ1 ρ2 : List (Option D)} {i : Nat} {l : List D} {p : Addr} {us : List V} {D' : Ends} {sts body be : List Stmt} {nm : Str} {P : D → Prop} {PL : List D → Prop} {kt : Nat} {d : D} {Cs : Addr → Option HO} {v : V}
theorem w_region (i : Nat) {pos' : Pos} (n : Now T W0 W H0 σ H ρ) (he : Fd T X W e σ H m) (hm : m P) (nd : X.N.Nodup) (k : ∀ d Cs v σ1 H1, NowR T W0 W H0 σ1 H1 ρ i d Cs v → P d → Wss X sts D' σ1 H1)
    (hi : X.N[i]? = some nm := by rfl) (hx : Loc X.env.scope nm := by first | exact Or.inl rfl | exact Or.inr rfl) (hs : swapsWith e (some (.Name nm pos')) pos.line X.env = pure false := by rfl) (hf : X.fn nm = true ∨ X.env.scope.names.lookup nm = some .local := by first | exact .inl rfl | exact .inr rfl) :
    Wss X (.Assign [.Name nm pos'] e pos :: sts) D' σ H := by
  obtain ⟨te, pe, ev⟩ := he P hm
  refine ⟨_, pss_cons (ps_set nd hi hx pe hs hf) wss_all, ev H (Up.refl _) n.inv _ fun v H1 d u i1 hv pd => ?_⟩
  have hC : ∀ a o, H a = some o → (fun a => match H a with | some _ => none | none => H1 a : Addr → Option HO) a = none := fun a o e => by simp [e]
  refine k d (fun a => match H a with | some _ => none | none => H1 a) v _ H1 ⟨⟨fun a o x y => u a o (n.rel a o x y) (n.up a o x y), fun a o x y z => ?_, ⟨i1, fun a o e => ?_⟩, Sees.set ?_ i .cls⟩, ?_, fun a m => ?_⟩ pd
  · rcases z with z | ⟨o', z⟩
    · exact n.rel a o x y z
    · rw [hC a o (n.up a o x y)] at z
      cases z
  · dsimp only at e
    split at e
    · cases e
    · exact e
  · refine ⟨n.see.1, fun j d ej => ?_⟩
    obtain ⟨w, e2, h2⟩ := n.see.2 j d ej
    refine ⟨w, e2, IsD.conv (fun a o nn ee => ⟨fun z => z.elim nn fun ⟨o', z⟩ => (by rw [hC a o ee] at z; cases z), u a o nn ee⟩) (fun a hp => ⟨hp, ?_⟩) h2⟩
    obtain ⟨o, eo⟩ := W.al n.inv (W.pm hp)
    exact hC a o eo
  · refine IsD.conv (fun a o nn ee => ⟨fun z => z.elim (fun m => nn (.inl m)) fun z => ?_, ee⟩) (fun _ h => h) hv
    have hn : H a = none := by
      cases e : H a with
      | none => rfl
      | some o' => exact absurd (Or.inr ⟨o', e⟩) nn
    simp [hn, ee] at z
  · obtain ⟨o, eo⟩ := W.al n.inv m
    exact hC a o eo
theorem up_thawR (hI : (Wr W Cs).I H) (hI1 : (Wr W Cs).I H1) (u : Up (Wr W Cs).toWld H H1) : Up W.toWld H H1 := fun x o n e => by
  cases h : Cs x with
  | some c =>
    have e1 := hI.2 x c h
    have e2 := hI1.2 x c h
    rw [e] at e1
    cases e1
    exact e2
  | none => exact u x o (fun z => z.elim n fun ⟨o', z⟩ => by rw [h] at z; cases z) e
theorem up_frz (hI : W.I H) (nM : ∀ a o, Cs a = some o → ¬ W.M a ∧ H a = some o) (u : Up W.toWld H H1) (hI1 : W.I H1) : (Wr W Cs).I H1 := ⟨hI1, fun a o e => u a o (nM a o e).1 (nM a o e).2⟩
theorem NowR.nM (r : NowR T W0 W H0 σ H ρ i d Cs v) : ∀ a o, Cs a = some o → ¬ W.M a := fun a o e m => by rw [r.dj a m] at e; cases e
theorem NowR.next (r : NowR T W0 W H0 σ H ρ i d Cs v) (n : Now T (Wr W Cs) (Wr W Cs) H σ1 H1 ρ2) (e : ρ2 = ρ1.set i (some (.cls v)) := by rfl) : NowR T W0 W H0 σ1 H1 ρ1 i d Cs v := by
  subst e
  refine ⟨r.now.join2 n, IsD.conv (fun a o nn ee => ⟨nn, ?_⟩) (fun _ h => h) r.con, r.dj⟩
  cases h : Cs a with
  | none => exact absurd (Or.inr h) nn
  | some c =>
    have e1 := r.now.inv.2 a c h
    rw [ee] at e1
    cases e1
    exact n.inv.2 a o h
theorem NowR.go (r : NowR T W0 W H0 σ H ρ i d Cs v) (u : Up (Wr W Cs).toWld H H1) (hI : (Wr W Cs).I H1) : NowR T W0 W H0 σ H1 ρ i d Cs v := r.next (r.now.base.go u hI)
theorem NowR.val (r : NowR T W0 W H0 σ H ρ i d Cs v) (hρ : (ρ.set i (some (D.cls v)))[i]? = some (some (.cls v))) : σ[i]? = some (some v) := by
  obtain ⟨w, e, h⟩ := r.now.see.2 i _ hρ
  cases h
  exact e
theorem NowR.lone (r : NowR T W0 W H0 σ H ρ i d Cs v) : ∀ {w d'}, Is T (Wr W Cs) H w d' → Is T W H w d' := fun h => IsD.conv (fun a o nn ee => ⟨fun m => nn (.inl m), ee⟩) (fun a hp => hp.1) h
/-- let go -/
theorem NowR.end_ (r : NowR T W0 W H0 σ H ρ i d Cs v) (hρ : (ρ.set i (some (D.cls v)))[i]? = some (some (.cls v)) := by rfl) : Now T W0 W H0 σ H (ρ.set i (some d)) := by
  refine ⟨r.now.up, fun x o' n e m => r.now.rel x o' n e (.inl m), r.now.inv.1, ⟨by rw [r.now.see.1, List.length_set, List.length_set], fun j d' e => ?_⟩⟩
  by_cases hij : i = j
  · subst hij
    rw [List.getElem?_set_self (by
      have := (List.getElem?_eq_some_iff.mp hρ).1
      simpa using this)] at e
    cases e
    exact ⟨_, r.val hρ, IsD.conv (fun a o nn ee => ⟨fun m => nn (.inl m), ee⟩) (fun _ h => h) r.con⟩
  · rw [List.getElem?_set_ne hij] at e
    obtain ⟨w, e1, h1⟩ := r.now.see.2 j d' (by rw [List.getElem?_set_ne hij]; exact e)
    exact ⟨w, e1, r.lone h1⟩
theorem tw_thawR (r : NowR T W0 W H0 σ H ρ i d Cs v) (h : Tw X W c σ H mt) : Tw X (Wr W Cs) c σ H mt := fun R hm => by
  obtain ⟨t, pt, ev⟩ := h R hm
  refine ⟨t, pt, fun H1 u hI Q q => ev H1 (up_thawR r.now.inv hI u) hI.1 Q fun b H2 u2 i2 hb => q b H2 (fun x o' n e => u2 x o' (fun z => n (.inl z)) e) (up_frz hI.1 (fun a o e => ⟨r.nM a o e, hI.2 a o e⟩) u2 i2) hb⟩
theorem dw_thawR (r : NowR T W0 W H0 σ H ρ i d Cs v) (h : Dw T X W e σ H m) : Dw T X (Wr W Cs) e σ H (flatM m) := fun R hm => by
  obtain ⟨t, pt, ev⟩ := h _ hm
  refine ⟨t, pt, fun H1 u hI Q q => ev H1 (up_thawR r.now.inv hI u) hI.1 Q fun w H2 d' u2 i2 hd hp => q w H2 d' (fun x o' n e => u2 x o' (fun z => n (.inl z)) e) (up_frz hI.1 (fun a o e => ⟨r.nM a o e, hI.2 a o e⟩) u2 i2) ?_ hp.2⟩
  obtain ⟨hf, _⟩ := hp
  cases hd with
  | int => exact .int
  | bl => exact .bl
  | str => exact .str
  | non => exact .non
  | _ => exact absurd rfl hf
/-- return while something is set apart -/
theorem w_retR {Hs : Hp} {R : D → Prop} {Q : VK} (r : NowR T W W Hs σ H ρ i d Cs v) (he : Dw T X (Wr W Cs) e σ H m) (hm : m R) (hq : ∀ y u H', R y → Up W.toWld Hs H' → W.I H' → Is T W H' u y → Q u H') (hD : D'.rt = Q) : Wss X (.Return (some e) pos :: sts) D' σ H :=
  ⟨_, pss_cons (ps_ret pe_any) wss_all, he.go hm (Up.refl _) r.now.inv fun w H1 d' u i1 hd pd => by
    show D'.rt w H1
    rw [hD]
    have r1 := r.go u i1
    exact hq d' w H1 pd r1.now.up i1.1 (r1.lone hd)⟩
/-- the slots but i and j, when what was set apart has been written into -/
theorem NowR.spoil {σ1 : L2.St} (r : NowR T W0 W H0 σ H ρ i d Cs v) (hI : W.I H1) (hu : ∀ a o, ¬ (Wr W Cs).M a → H a = some o → H1 a = some o) (hl : σ1.length = σ.length) (S : List Nat) (hσ : ∀ j, j ∉ S → σ1[j]? = σ[j]?) (hρl : ρ1.length = ρ.length) (hρ : ∀ j d, ρ1[j]? = some (some d) → j ∉ S ∧ j ≠ i ∧ ρ[j]? = some (some d)) : Now T W0 W H0 σ1 H1 ρ1 := by
  refine ⟨fun a o x y => hu a o (r.now.rel a o x y) (r.now.up a o x y), fun x o' n e m => r.now.rel x o' n e (.inl m), hI, ⟨by rw [hl, r.now.see.1, List.length_set, hρl], fun j d' e => ?_⟩⟩
  obtain ⟨h1, h2, h3⟩ := hρ j d' e
  obtain ⟨w, e1, hw⟩ := r.now.see.2 j d' (by rw [List.getElem?_set_ne (Ne.symm h2)]; exact h3)
  exact ⟨w, by rw [hσ j h1]; exact e1, IsD.conv (fun a o nn ee => ⟨fun m => nn (.inl m), hu a o nn ee⟩) (fun a hp => hp.1) hw⟩
/-- x.append(e): x is not looked at again -/
theorem w_spoil1 (r : NowR T W0 W H0 σ H ρ i (.lst l) Cs v) (he : Dw T X (Wr W Cs) e σ H m) (hm : m fun _ => l.length < sizeLine) (k : ∀ H1, Now T W0 W H0 σ H1 (ρ.set i none) → Wss X sts D' σ H1)
    (hρ : (ρ.set i (some (D.cls v)))[i]? = some (some (.cls v)) := by rfl) (hN : X.N[i]? = some nm := by rfl)
    (hvis : Vis X.env.scope nm := by first | exact Or.inl rfl | exact Or.inr (Or.inl rfl) | exact Or.inr (Or.inr rfl)) (hd : (nm == ("__debug__" : Str)) = false := by decide) (hcd : (nm == ("__classdict__" : Str)) = false := by decide)
    (hbase : attributeBase (.Name nm p0) "append" X.env (eval (.Name nm p0) X.env) = eval (.Name nm p0) X.env := by rfl)
    (hfew : ((backTo pc (starEach (e :: []) X.env)).all (fun x => !x.1) && (backToKw pc (keywordEach [] X.env)).all (fun x => x.1.isSome)
      && decide ((e :: ([] : List Expr)).length + ([] : List Keyword).length + (if ([] : List Keyword).isEmpty then 0 else 1) < 30)) = true := by rfl)
    (hline : (pa.endLine == pc.line) = true := by rfl)
    (hs : starEach (e :: []) X.env = (false, eval e X.env) :: starEach [] X.env := by rfl) (hpl : (backTo pc (starEach [] X.env)).any (·.1) = false := by rfl) (hsw : swapsWith (.Call (.Attribute (.Name nm p0) "append" pa) [e] [] pc) none pos.line X.env = pure false := by rfl) :
    Wss X (.Expr (.Call (.Attribute (.Name nm p0) "append" pa) [e] [] pc) pos :: sts) D' σ H := by
  refine ⟨_, pss_cons (ps_expr (pe_bm PySem.F.plainAttrs_list PySem.F.slot_list_append PySem.F.type_list_append mt_append (pe_var hN hvis hd hcd) (pa_cons pe_any pa_nil hs) hbase hfew hline hs hpl) hsw) wss_all, ?_⟩
  have hv := r.val hρ
  have con := r.con
  cases con with | @lst p us _ nn ep hs' =>
  refine ⟨.ref p, hv, .inl ⟨rfl, _, SqL.of ep⟩, he.go hm (Up.refl _) r.now.inv fun w H1 d u i1 hw pd => ?_⟩
  have r1 := r.go u i1
  have con := r1.con
  cases con with | @lst _ us1 _ nn1 ep1 hs1 =>
  have nM : ¬ W.M p := fun z => nn (.inl z)
  have inC : ∃ o, Cs p = some o := by
    cases h : Cs p with
    | none => exact absurd (Or.inr h) nn
    | some o => exact ⟨o, rfl⟩
  refine ⟨p, us1, w, rfl, rfl, ep1, by rw [hs1.len]; exact pd, k _ (r1.spoil (I_mut i1.1 nM) (fun a o x y => ?_) rfl [i] (fun _ _ => rfl) (by rw [List.length_set]) (fun j d' e => ?_))⟩
  · rw [upd_ne (fun z => x (.inr (by rw [z]; exact inC)))]
    exact y
  · by_cases hij : i = j
    · subst hij
      rw [List.getElem?_set] at e
      split at e
      · split at e <;> cases e
      · rename_i h; exact absurd rfl h
    · rw [List.getElem?_set_ne hij] at e
      exact ⟨by simpa using fun z => hij z.symm, fun z => hij z.symm, e⟩
theorem purL_get : ∀ {ds : List D} {t : Nat} {x : D}, purL ds = true → ds[t]? = some x → pur x = true
  | [], _, _, _, h => by simp at h
  | y :: ys, 0, x, h, e => by
    unfold purL at h
    rw [Bool.and_eq_true] at h
    simp at e
    subst e
    exact h.1
  | y :: ys, t + 1, x, h, e => by
    unfold purL at h
    rw [Bool.and_eq_true] at h
    exact purL_get h.2 (by simpa using e)
/-- lists that are each written into once -/
def spoilP : D → Prop
  | .lst ds => pur (.lst ds) = true ∧ ds.length ≤ 1000 ∧ ∀ x ∈ ds, ∃ l, x = .lst l ∧ l.length ≤ 1000
  | _ => False
/-- for y in x: y.append(None), neither is looked at again -/
theorem w_spoil2 (j : Nat) {nx ny : Str} {kn : Nat} {q1 q2 pos2 : Pos} (inj : ∀ c c', c < T.n → c' < T.n → T.at_ c = T.at_ c' → c = c') (r : NowR T W0 W H0 σ H ρ i d Cs v) (hm : spoilP d) (nd : X.N.Nodup) (hp : PassesOwn (model X.prog X.w) X.A X.env X.xe) (hc : X.calm = true) (k : ∀ σ1 H1, Now T W0 W H0 σ1 H1 ((ρ.set i none).set j none) → Wss X sts D' σ1 H1)
    (hρ : (ρ.set i (some (D.cls v)))[i]? = some (some (.cls v)) := by rfl) (hN : X.N[i]? = some nx := by rfl) (hNj : X.N[j]? = some ny := by rfl) (hij : i ≠ j := by decide) (hjl : j < ρ.length := by first | decide | simp)
    (hvis : Vis X.env.scope nx := by first | exact Or.inl rfl | exact Or.inr (Or.inl rfl) | exact Or.inr (Or.inr rfl)) (hd : (nx == ("__debug__" : Str)) = false := by decide) (hcd : (nx == ("__classdict__" : Str)) = false := by decide)
    (hvis2 : Vis X.env.scope ny := by first | exact Or.inl rfl | exact Or.inr (Or.inl rfl) | exact Or.inr (Or.inr rfl)) (hd2 : (ny == ("__debug__" : Str)) = false := by decide) (hcd2 : (ny == ("__classdict__" : Str)) = false := by decide)
    (hx : L2.Loc X.env.scope ny := by first | exact Or.inl rfl | exact Or.inr rfl) (hf : X.fn ny = true ∨ X.env.scope.names.lookup ny = some .local := by first | exact .inl rfl | exact .inr rfl)
    (hfs : ∀ z, foldedSetIterable (.Name nx p0) X.env z = pure z := by intro _; rfl)
    (hbase : attributeBase (.Name ny q1) "append" X.env (eval (.Name ny q1) X.env) = eval (.Name ny q1) X.env := by rfl)
    (hfew : ((backTo pc (starEach ((.Constant .none kn q2) :: []) X.env)).all (fun x => !x.1) && (backToKw pc (keywordEach [] X.env)).all (fun x => x.1.isSome)
      && decide (((.Constant .none kn q2) :: ([] : List Expr)).length + ([] : List Keyword).length + (if ([] : List Keyword).isEmpty then 0 else 1) < 30)) = true := by rfl)
    (hline : (pa.endLine == pc.line) = true := by rfl)
    (hs : starEach ((.Constant .none kn q2) :: []) X.env = (false, eval (.Constant .none kn q2) X.env) :: starEach [] X.env := by rfl) (hpl : (backTo pc (starEach [] X.env)).any (·.1) = false := by rfl) (hsw : swapsWith (.Call (.Attribute (.Name ny q1) "append" pa) [.Constant .none kn q2] [] pc) none pos2.line X.env = pure false := by rfl) :
    Wss X (.For (.Name ny px) (.Name nx p0) [.Expr (.Call (.Attribute (.Name ny q1) "append" pa) [.Constant .none kn q2] [] pc) pos2] [] pos :: sts) D' σ H := by
  have hv := r.val hρ
  have con := r.con
  cases con with
  | @lst p us ds nn ep hs' =>
    obtain ⟨pu, few, each⟩ := hm
    have app : PS X (.Expr (.Call (.Attribute (.Name ny q1) "append" pa) [.Constant .none kn q2] [] pc) pos2) _ := ps_expr (pe_bm PySem.F.plainAttrs_list PySem.F.slot_list_append PySem.F.type_list_append mt_append (pe_var hNj hvis2 hd2 hcd2) (pa_cons pe_non pa_nil hs) hbase hfew hline hs hpl) hsw
    refine ⟨_, pss_cons (ps_for hp hc (pi_list (pe_var hN hvis hd hcd)) (pg_name (i := j) nd hNj hx hf) (pss_cons app pss_nil) hfs) wss_all, ?_⟩
    have inC : ∀ {a : Addr}, ¬ (W.M a ∨ Cs a = none) → ∃ o, Cs a = some o := fun {a} nn => by
      cases h : Cs a with
      | none => exact absurd (Or.inr h) nn
      | some o => exact ⟨o, rfl⟩
    have items : ∀ u ∈ us, ∃ q l, u = .ref q ∧ q ≠ p ∧ ¬ W.M q ∧ (∃ o, Cs q = some o) ∧ H q = some (.lst l) ∧ l.length ≤ 1000 := by
      intro u hu
      obtain ⟨t, ht⟩ := List.getElem?_of_mem hu
      obtain ⟨x, ex, hux⟩ := hs'.getL ht
      obtain ⟨l, rfl, hl⟩ := each x (List.mem_of_getElem? ex)
      cases hux with | @lst q ws _ nq eq hq =>
      refine ⟨q, ws, rfl, fun z => ?_, fun m => nq (.inl m), inC nq, eq, by rw [hq.len]; exact hl⟩
      subst z
      have pl : pur (.lst l) = true := purL_get pu ex
      have one := IsD.one inj (IsD.lst nq eq hq : IsD T (fun a => W.M a ∨ Cs a = none) W.P H (.ref q) (.lst l)) pl (IsD.lst nn ep hs') pu
      have dl : dep (.lst l) < dep (.lst ds) := Nat.lt_succ_of_le (dep_mem (List.mem_of_getElem? ex))
      rw [one] at dl
      exact Nat.lt_irrefl _ dl
    refine ⟨.ref p, hv, p, rfl, ⟨_, SqL.of ep⟩, for_list (K := X.K) (a := p) (xs := us) (fun t σ' H' => (σ'.length = σ.length ∧ ∀ j', j' ≠ j → σ'[j']? = σ[j']?) ∧ W.I H' ∧ (∀ a o, ¬ (Wr W Cs).M a → H a = some o → H' a = some o) ∧ H' p = some (.lst us) ∧ ∀ u ∈ us, ∃ q l, u = .ref q ∧ H' q = some (.lst l) ∧ l.length ≤ 1000 + t)
      ⟨⟨rfl, fun _ _ => rfl⟩, r.now.inv.1, fun _ _ _ e => e, ep, fun u hu => ?_⟩ (fun t σ' H' _ q => SqL.of q.2.2.2.1) (fun t u σ' H' hu q => ?_) (fun σ' H' q => ?_)⟩
    · obtain ⟨q, l, e1, _, _, _, e2, hl⟩ := items u hu
      exact ⟨q, l, e1, e2, by omega⟩
    · obtain ⟨⟨h1, h2⟩, h3, h4, h5, h6⟩ := q
      have hmem := List.mem_of_getElem? hu
      obtain ⟨q, l0, rfl, nqp, nMq, qC, _, _⟩ := items u hmem
      obtain ⟨q', l, eq', e2, hl⟩ := h6 _ hmem
      cases eq'
      have jl : j < σ'.length := by
        rw [h1, r.now.see.1, List.length_set]
        exact hjl
      have at_ : (σ'.set j (some (.ref q)))[j]? = some (some (.ref q)) := List.getElem?_set_self jl
      refine ⟨.ref q, at_, .inl ⟨rfl, _, SqL.of e2⟩, q, l, .non, rfl, rfl, e2, Nat.lt_of_le_of_lt hl (Nat.lt_of_le_of_lt (Nat.add_le_add_left (Nat.le_trans (Nat.le_of_lt (List.getElem?_eq_some_iff.mp hu).1) (by rw [hs'.len]; exact few)) 1000) (by decide)), ?_⟩
      refine ⟨⟨by rw [List.length_set]; exact h1, fun j' hj' => by rw [List.getElem?_set_ne (Ne.symm hj')]; exact h2 j' hj'⟩, I_mut h3 nMq, fun a o x y => ?_, by rw [upd_ne (Ne.symm nqp)]; exact h5, fun u hu' => ?_⟩
      · rw [upd_ne (fun z => x (.inr (by rw [z]; exact qC)))]
        exact h4 a o x y
      · obtain ⟨q2, l2, e3, e4, hl2⟩ := h6 u hu'
        by_cases hq : q2 = q
        · subst hq
          exact ⟨q2, _, e3, upd_same, by rw [List.length_append, List.length_singleton]; omega⟩
        · exact ⟨q2, l2, e3, by rw [upd_ne hq]; exact e4, by omega⟩
    · obtain ⟨⟨h1, h2⟩, h3, h4, h5, h6⟩ := q
      refine k σ' H' (r.spoil h3 h4 h1 [j] (fun j' hj' => h2 j' (by simpa using hj')) (by rw [List.length_set, List.length_set]) (fun j' d' e => ?_))
      by_cases hj : j = j'
      · subst hj
        rw [List.getElem?_set] at e
        split at e
        · split at e <;> cases e
        · rename_i h; exact absurd rfl h
      · rw [List.getElem?_set_ne hj] at e
        by_cases hi : i = j'
        · subst hi
          rw [List.getElem?_set] at e
          split at e
          · split at e <;> cases e
          · rename_i h; exact absurd rfl h
        · rw [List.getElem?_set_ne hi] at e
          exact ⟨by simpa using fun z => hj z.symm, fun z => hi z.symm, e⟩
  | _ => exact hm.elim
end
end Uv
set_option Elab.async false
set_option linter.all false
set_option maxRecDepth 100000
set_option maxHeartbeats 4000000
namespace Uv
open PySem L2 Inn PySem.Spec PyProof.Rows
/-! ### for texts that are printed -/
inductive Lq : List (Option D) → List (Option D) → Prop
  | nil : Lq [] []
  | same {o : Option D} {a b : List (Option D)} (t : Lq a b) : Lq (o :: a) (o :: b)
  | none {o : Option D} {a b : List (Option D)} (t : Lq a b) : Lq (none :: a) (o :: b)
theorem Lq.len : ∀ {a b : List (Option D)}, Lq a b → a.length = b.length
  | _, _, .nil => rfl
  | _, _, .same t => congrArg Nat.succ t.len
  | _, _, .none t => congrArg Nat.succ t.len
theorem Lq.get : ∀ {a b : List (Option D)} {i : Nat} {d : D}, Lq a b → a[i]? = some (some d) → b[i]? = some (some d)
  | _, _, _, _, .nil, e => e
  | _, _, 0, _, .same t, e => e
  | _, _, i + 1, _, .same t, e => by simpa using t.get (by simpa using e)
  | _, _, 0, _, .none t, e => by simp at e
  | _, _, i + 1, _, .none t, e => by simpa using t.get (by simpa using e)
section
variable {T : Ct} {W W0 : Wo} {H H0 : Hp} {σ : L2.St} {ρ ρ' : List (Option D)} {i : Nat} {l : List D} {p : Addr} {us : List V} {d : D} {Cs : Addr → Option HO} {v : V}
theorem Now.as (n : Now T W0 W H0 σ H ρ) (e : ρ = ρ') : Now T W0 W H0 σ H ρ' := e ▸ n
theorem Now.cut (n : Now T W0 W H0 σ H ρ) (h : Lq ρ' ρ) : Now T W0 W H0 σ H ρ' := n.less h.len fun _ _ e => h.get e
theorem Sees.as (n : Sees T W σ H ρ) (e : ρ = ρ') : Sees T W σ H ρ' := e ▸ n
theorem NowO.as (o : NowO T W0 W H0 σ H ρ i l p us) (e : ρ.set i none = ρ'.set i none) : NowO T W0 W H0 σ H ρ' i l p us := by
  have e2 : ρ.set i (some (.cls (.ref p))) = ρ'.set i (some (.cls (.ref p))) := by
    have := congrArg (fun l => l.set i (some (D.cls (.ref p)))) e
    simpa only [List.set_set] using this
  exact ⟨o.now.as e2, o.con, o.nM⟩
theorem lq_set : ∀ {ρ' ρ : List (Option D)} (i : Nat) (c : Option D), Lq ρ' ρ → Lq (ρ'.set i c) (ρ.set i c)
  | _, _, _, _, .nil => .nil
  | _, _, 0, _, .same t => .same t
  | _, _, i + 1, c, .same t => .same (lq_set i c t)
  | _, _, 0, _, .none t => .same t
  | _, _, i + 1, c, .none t => .none (lq_set i c t)
theorem NowO.cut (o : NowO T W0 W H0 σ H ρ i l p us) (h : Lq ρ' ρ) : NowO T W0 W H0 σ H ρ' i l p us := ⟨o.now.cut (lq_set i _ h), o.con, o.nM⟩
theorem NowR.as (o : NowR T W0 W H0 σ H ρ i d Cs v) (e : ρ.set i none = ρ'.set i none) : NowR T W0 W H0 σ H ρ' i d Cs v := by
  have e2 : ρ.set i (some (.cls v)) = ρ'.set i (some (.cls v)) := by
    have := congrArg (fun l => l.set i (some (D.cls v))) e
    simpa only [List.set_set] using this
  exact ⟨o.now.as e2, o.con, o.dj⟩
end
/-- two, three values -/
def l2 (k : D → D → Prop) : List D → Prop
  | [a, b] => k a b
  | _ => False
def l3 (k : D → D → D → Prop) : List D → Prop
  | [a, b, c] => k a b c
  | _ => False
theorem l2_len {k : D → D → Prop} : ∀ xs, l2 k xs → xs.length = 2
  | [], h => h.elim
  | [_], h => h.elim
  | [_, _], _ => rfl
  | _ :: _ :: _ :: _, h => h.elim
theorem l3_len {k : D → D → D → Prop} : ∀ xs, l3 k xs → xs.length = 3
  | [], h => h.elim
  | [_], h => h.elim
  | [_, _], h => h.elim
  | [_, _, _], _ => rfl
  | _ :: _ :: _ :: _ :: _, h => h.elim
/-- no class has an own == -/
def noE : OwnE := fun _ _ => fail
theorem same_noE : SameOwn noE := fun _ _ _ _ _ _ _ _ R _ _ _ h => h.elim
/-- a promise of less -/
theorem fnOk_imp {P : Program} {w : World} {K : PySem.W.Frag} {mg : Str → Option Value} {base : Heap} {CX : CXT} {k : Nat} {f : Addr} {fd : FuncData} {ps : List Str} {sp sp' : Sp} (F : FnOk P w K mg base CX k f fd ps sp) (h : ∀ vs H Q E, sp' vs H Q E → sp vs H Q E) : FnOk P w K mg base CX k f fd ps sp' :=
  ⟨fun vs H Q E z => F.len vs H Q E (h vs H Q E z), fun A fr s H args us vs Q E hr e0 hb rv z => F.run A fr s H args us vs Q E hr e0 hb rv (h vs H Q E z)⟩
/-! names of built-ins -/
theorem hv_len : bootBuiltins "len" = some (.builtin "len") := by decide +kernel
theorem hv_abs : bootBuiltins "abs" = some (.builtin "abs") := by decide +kernel
theorem hv_max : bootBuiltins "max" = some (.builtin "max") := by decide +kernel
theorem hv_min : bootBuiltins "min" = some (.builtin "min") := by decide +kernel
theorem hv_sum : bootBuiltins "sum" = some (.builtin "sum") := by decide +kernel
theorem hv_all : bootBuiltins "all" = some (.builtin "all") := by decide +kernel
theorem hv_any : bootBuiltins "any" = some (.builtin "any") := by decide +kernel
theorem hv_divmod : bootBuiltins "divmod" = some (.builtin "divmod") := by decide +kernel
theorem hv_repr : bootBuiltins "repr" = some (.builtin "repr") := by decide +kernel
theorem hv_int : bootBuiltins "int" = some (.type "int") := by decide +kernel
theorem hv_bool : bootBuiltins "bool" = some (.type "bool") := by decide +kernel
theorem hv_str : bootBuiltins "str" = some (.type "str") := by decide +kernel
theorem hv_list : bootBuiltins "list" = some (.type "list") := by decide +kernel
theorem hv_tuple : bootBuiltins "tuple" = some (.type "tuple") := by decide +kernel
theorem hv_dict : bootBuiltins "dict" = some (.type "dict") := by decide +kernel
end Uv
set_option Elab.async false
set_option linter.all false
set_option maxRecDepth 100000
set_option maxHeartbeats 4000000
namespace Uv
open PySem L2 Inn PySem.Spec PyProof.Rows
theorem len2 {α : Type} : ∀ {l : List α}, l.length = 2 → ∃ a b, l = [a, b]
  | [_, _], _ => ⟨_, _, rfl⟩
theorem len3 {α : Type} : ∀ {l : List α}, l.length = 3 → ∃ a b c, l = [a, b, c]
  | [_, _, _], _ => ⟨_, _, _, rfl⟩
theorem len4 {α : Type} : ∀ {l : List α}, l.length = 4 → ∃ a b c d, l = [a, b, c, d]
  | [_, _, _, _], _ => ⟨_, _, _, _, rfl⟩
def l4 (k : D → D → D → D → Prop) : List D → Prop
  | [a, b, c, d] => k a b c d
  | _ => False
section
variable {T : Ct} {X : Cx} {W W0 : Wo} {H H0 H1 : Hp} {σ σ1 : L2.St} {ρ ρ1 : List (Option D)} {i : Nat} {l l1 : List D} {p : Addr} {us us1 : List V} {d : D} {Cs : Addr → Option HO} {v : V} {D' : Ends} {sts : List Stmt} {a b : Expr} {ml : M (List D)} {mb : M D} {pos px py pt pt2 : Pos} {kt k2 : Nat} {n1 n2 : Str}
theorem NowO.joinO (oO : NowO T W0 W H0 σ H ρ i l p us) (o : NowO T (Wg W p us) W H σ1 H1 ρ1 i l1 p us1) : NowO T W0 W H0 σ1 H1 ρ1 i l1 p us1 := ⟨oO.now.join2 o.now, o.con, o.nM⟩
theorem NowO.under {ρ0 : List (Option D)} (nO : Now T W0 W H0 σ H ρ0) (o : NowO T W W H σ1 H1 ρ1 i l p us) : NowO T W0 W H0 σ1 H1 ρ1 i l p us := ⟨nO.join2 o.now, o.con, o.nM⟩
theorem NowR.under {ρ0 : List (Option D)} (nO : Now T W0 W H0 σ H ρ0) (o : NowR T W W H σ1 H1 ρ1 i d Cs v) : NowR T W0 W H0 σ1 H1 ρ1 i d Cs v := ⟨nO.join2 o.now, o.con, o.dj⟩
def spoilM (d : D) (m : M D) (k : Prop) : Prop := ∃ l, d = .lst l ∧ (m fun _ => l.length < sizeLine) ∧ k
/-- a, b = a new list, y -/
def parOM (ml : M (List D)) (mb : M D) (k : List D → D → Prop) : Prop := ml fun l => mb fun d => k l d
theorem w_parO (i j : Nat) {K : List D → D → Prop} (n : Now T W0 W H0 σ H ρ) (ha : Fw T X W a σ H ml) (hb : ∀ (W' : Wo) (H' : Hp), Sees T W' σ H' ρ → Dw T X W' b σ H' mb) (hm : parOM ml mb K) (hc : X.calm = true) (nd : X.N.Nodup)
    (k : ∀ l d p us σ1 H1, NowO T W0 W H0 σ1 H1 (ρ.set j (some d)) i l p us → K l d → Wss X sts D' σ1 H1) (hi : X.N[i]? = some n1 := by rfl) (hj : X.N[j]? = some n2 := by rfl) (hij : i ≠ j := by decide)
    (hx : X.env.scope.names.lookup n1 = some .local := by rfl) (hy : X.env.scope.names.lookup n2 = some .local := by rfl)
    (hw : swappedStores [.Tuple [.Name n1 px, .Name n2 py] kt pt] (.Tuple [a, b] k2 pt2) X.env = pure (some [n1, n2]) := by rfl)
    (hs : swapsWithSole [.Tuple [.Name n1 px, .Name n2 py] kt pt] (.Tuple [a, b] k2 pt2) pos.line X.env = pure false := by rfl)
    (hs1 : starEach (a :: [b]) X.env = (false, eval a X.env) :: starEach [b] X.env := by rfl) (hs2 : starEach (b :: []) X.env = (false, eval b X.env) :: starEach [] X.env := by rfl) :
    Wss X (.Assign [.Tuple [.Name n1 px, .Name n2 py] kt pt] (.Tuple [a, b] k2 pt2) pos :: sts) D' σ H := by
  obtain ⟨te, pe, ev⟩ := ha _ hm
  refine ⟨_, pss_cons (ps_par hc nd hi hj hij hx hy (pa_cons pe (pa_cons pe_any pa_nil hs2) hs1) hw hs) wss_all, ev H (Up.refl _) n.inv _ fun p us H1 l hp u i1 e1 hl pl => ?_⟩
  have nM : ¬ W.M p := fun z => by
    obtain ⟨o, e⟩ := W.al n.inv z
    rw [hp] at e
    cases e
  have sees : Sees T (Wg W p us) σ H1 ρ := ⟨n.see.1, fun j d ej => by
    obtain ⟨v, e2, h2⟩ := n.see.2 j d ej
    exact ⟨v, e2, IsD.conv (fun a o nn ee => ⟨fun z => z.elim nn fun z => ne_of_none ee hp z, u a o nn ee⟩) (pot_ne n.inv hp) h2⟩⟩
  refine (hb (Wg W p us) H1 sees).go pl (Up.refl _) ⟨i1, e1⟩ fun w H2 d u2 i2 hw pd => ?_
  refine ⟨.ref p, w, rfl, k l d p us _ H2 ⟨⟨fun a o x y => u2 a o (fun z => z.elim (n.rel a o x y) fun z => ne_of_none (n.up a o x y) hp z) (u a o (n.rel a o x y) (n.up a o x y)), fun a o x y z => z.elim (n.rel a o x y) fun z => ne_of_none (n.up a o x y) hp z, i2, ?_⟩, Iss.up u2 hl, nM⟩ pd⟩
  have z := ((sees.up u2).set i (.cls (v := .ref p))).set j hw
  rw [List.set_comm (l := ρ) _ _ hij] at z
  exact z
/-! instances in the making -/
theorem Now.ref0 (n : Now T W0 W H0 σ H ρ) {j : Nat} (hρ : ρ[j]? = some (some (.cls v)) := by rfl) : σ[j]? = some (some v) := by
  obtain ⟨w, e, h⟩ := n.see.2 j _ hρ
  cases h
  exact e
theorem Now.self0 (n : Now T W0 W H0 σ H ρ) (j : Nat) (h : σ[j]? = some (some v)) : Now T W0 W H0 σ H (ρ.set j (some (.cls v))) := by
  refine ⟨n.up, n.rel, n.inv, ⟨by rw [List.length_set]; exact n.see.1, fun j' d e => ?_⟩⟩
  by_cases hj : j = j'
  · subst hj
    rw [List.getElem?_set] at e
    split at e
    · split at e
      · cases e
        exact ⟨_, h, .cls⟩
      · cases e
    · rename_i z; exact absurd rfl z
  · rw [List.getElem?_set_ne hj] at e
    exact n.see.2 j' d e
theorem Bld.up {c : Nat} {dx : Addr} {fl : List D} (b : Bld T W c p dx H us fl) (n : Now T (Wi T W c p dx us) (Wi T W c p dx us) H σ1 H1 ρ1) : Bld T W c p dx H1 us fl := ⟨n.inv.2, b.le, b.nM, Iss.up n.up b.hs⟩
theorem b_never {f : Value} : OpN T X W f (fun l => match l with | [x] => (fun _ : D => (fail : M D)) x | _ => fail) := by
  intro pins s σ H us vs Q I r ⟨xs, R, hx, hI, hg, q⟩
  match xs, hg with
  | [], hg => exact hg.elim
  | [_], hg => exact hg.elim
  | _ :: _ :: _, hg => exact hg.elim
end
end Uv
set_option Elab.async false
set_option linter.all false
set_option maxRecDepth 100000
set_option maxHeartbeats 4000000
set_option exponentiation.threshold 20000
/-! the head's word, the law's own def, draws: for all laws -/
namespace Uv
open PySem L2 Inn PySem.Spec PyProof.Rows
theorem len1 {α : Type} : ∀ {l : List α}, l.length = 1 → ∃ a, l = [a]
  | [_], _ => ⟨_, rfl⟩
theorem len5 {α : Type} : ∀ {l : List α}, l.length = 5 → ∃ a b c d e, l = [a, b, c, d, e]
  | [_, _, _, _, _], _ => ⟨_, _, _, _, _, rfl⟩
theorem len6 {α : Type} : ∀ {l : List α}, l.length = 6 → ∃ a b c d e f, l = [a, b, c, d, e, f]
  | [_, _, _, _, _, _], _ => ⟨_, _, _, _, _, _, rfl⟩
theorem len7 {α : Type} : ∀ {l : List α}, l.length = 7 → ∃ a b c d e f g, l = [a, b, c, d, e, f, g]
  | [_, _, _, _, _, _, _], _ => ⟨_, _, _, _, _, _, _, rfl⟩
theorem fmod_lt {i j : Int} (h : 0 < j) : 0 ≤ i.fmod j ∧ i.fmod j < j := ⟨Int.fmod_nonneg_of_pos i h, Int.fmod_lt_of_pos i h⟩
theorem sm30 {i : Int} (h0 : 0 ≤ i) (h : i < 2 ^ 40) : i.natAbs < 2 ^ 40 := by omega
theorem cm40 {i j : Int} (h0 : 0 ≤ i) (h : i < 2 ^ 40) (k0 : 0 ≤ j) (k : j < 2 ^ 40) : CMulW i j := wide_mul (a := 40) (b := 40) (sm30 h0 h) (sm30 k0 k) (by decide) (by decide) (by decide)
theorem dxpe {α : Type} [Dat α] {X : Cx} {W : Wld} {e : Expr} {σ : L2.St} {H : Hp} {P : α → Prop} (h : Dx X W e σ H P) : ∃ t, PE X e t := let ⟨t, pe, _⟩ := h; ⟨t, pe⟩
theorem log9 {m : Int} (h0 : 0 < m) (h1 : m < 2 ^ 30) : m.natAbs.log2 < 9000 := by
  have := (Nat.log2_lt (n := m.natAbs) (k := 30) (by omega)).mpr (by omega)
  omega
/-- a world in which nothing changes -/
def WZ : Wld := ⟨fun _ => False, fun _ => True, fun _ _ => trivial, fun _ h => h.elim⟩
def PotR (y : List Int) : Prop := ∃ c d, y = [c, d] ∧ 0 ≤ c ∧ 0 ≤ d ∧ d < 2 ^ 40
def spLaw (K : PySem.W.Frag) : Sp := fun vs H Q _ => ∃ (a : Addr) (ns : List Int), vs = [.ref a] ∧ SqL K H a (ns.map V.int) ∧ ∀ H', Q (.bl true) H'
def intIn (K : PySem.W.Frag) (x : Str) (v : Int) : Bool := match PySem.W.nsIn K mainGlobals x with
  | some (some (.int i _)) => i == v
  | _ => false
def strIn (K : PySem.W.Frag) (x : Str) (v : Str) : Bool := match PySem.W.nsIn K mainGlobals x with
  | some (some (.str i _)) => i == v
  | _ => false
def hasRec (K : PySem.W.Frag) (p : Addr) : Bool := match PySem.W.recIn K p "property" with
  | some (.ref _ :: _) => true
  | _ => false
section
variable {P : Program} {w : World} {K : PySem.W.Frag} {mg : Str → Option Value} {hp : Heap} {base : Heap} {k : Nat} {f : Addr} {fd : FuncData} {ps : List Str}
theorem intIn_ok {x : Str} {v : Int} (X : K.In hp) (G : hp.Ns mainGlobals mg) (e : intIn K x v = true) : ∃ t, mg x = some (.int v t) := by
  unfold intIn at e
  split at e
  · rename_i i t h
    have := eq_of_beq e
    subst this
    exact ⟨t, PySem.W.mg_of X G h⟩
  · cases e
theorem strIn_ok {x : Str} {v : Str} (X : K.In hp) (G : hp.Ns mainGlobals mg) (e : strIn K x v = true) : ∃ t, mg x = some (.str v t) := by
  unfold strIn at e
  split at e
  · rename_i i t h
    have : i = v := by simpa using e
    subst this
    exact ⟨t, PySem.W.mg_of X G h⟩
  · cases e
theorem rec_of {C : Addr} {m : Str} (h : hasRec K (He.ma K C m) = true) : ∃ rest, PySem.W.recIn K (He.ma K C m) "property" = some (.ref (He5.wf K C "property" m) :: rest) := by
  unfold He5.wf
  unfold hasRec at h
  split at h
  · rename_i f r e
    exact ⟨r, by rw [e]⟩
  · cases h
theorem kwf_of {n qual : Str} {args : Arguments} {body : List Stmt} {scope : Scope} {ks : List Str} {π : List Nat} (F : FunD K n qual args body scope [] [] f fd)
    (h : ∀ (kV doc pm : Value) (an : Option Addr) (cdv ct : Value) (ws : List Value), ws.length = ks.length → bindArgs (PySem.W.fnOf n qual args body scope .none kV doc pm an cdv ct) ⟨[], ks.zip ws⟩ = pure (ps.zip (arr π ws))) : KwF K fd ps 0 ks (fun a b => arr π (a ++ b)) := by
  obtain ⟨oc, od, dV, kV, doc, pm, an, cdv, ct, osl, rfl, lk, hcd, hD, hK⟩ := F.ex
  rcases hD with ⟨_, rfl⟩ | ⟨e, _⟩
  · refine ⟨fun us ws => arr π (us ++ ws), ⟨fun s us ws _ l1 l2 => ?_, fun r1 r2 => Uv.Vals.arr (r1.append r2) π⟩⟩
    have : us = [] := List.length_eq_zero_iff.mp l1
    subst this
    rw [List.nil_append]
    exact .of_eq (h kV doc pm an cdv ct ws l2)
  · exact absurd rfl e
theorem opf_of {C : Addr} {op : Operator} {d r : Str} {f fr : Addr} (hd : PySem.dunder op.info.2 = d) (hr : dunderR op.info.2 = r) (sf : PySem.W.selfFirst K C = true) (a : PySem.W.findIn K (.ref C) d = some (some (.ref f))) (i : PySem.W.isFn K (.ref f) = true)
    (a2 : PySem.W.findIn K (.ref C) r = some (some (.ref fr))) (i2 : PySem.W.isFn K (.ref fr) = true) (x1 : (PySem.W.findIn K (.type "int") d).isSome = true) (x2 : (PySem.W.findIn K (.type "int") r).isSome = true)
    (s1 : PySem.W.subIn K (.type "int") (.ref C) = some false) (s2 : PySem.W.subIn K (.ref C) (.type "int") = some false) : ∃ ro fo, OpF K C op f fr ro fo := by
  obtain ⟨fo, e1⟩ := Option.isSome_iff_exists.mp x1
  obtain ⟨ro, e2⟩ := Option.isSome_iff_exists.mp x2
  subst hd
  subst hr
  exact ⟨ro, fo, ⟨sf, a, i, a2, i2, e1, e2, s1, s2⟩⟩
/-- a draw -/
theorem draw_D {T : Ct} {s : List D → M D} (F : FnOk P w K mg base CX0 k f fd ps (SpF DrawPre DrawR)) (hs : ∀ ds R, s ds R → ∃ a n, ds = [.pot a, .int n] ∧ 0 < n ∧ n ≤ 2 ^ 20 ∧ ∀ i : Int, 0 ≤ i → i < n → R (.int i)) : FnOk P w K mg base CX0 k f fd ps (SpD T false 2 s) :=
  FnOk.imp F fun vs H Q E ⟨W, ds, R, hx, hl, hI, hm, q⟩ => by
    obtain ⟨a, n, rfl, h0, h1, h⟩ := hs _ _ hm
    cases hx with | cons ha t =>
    cases t with | cons hb t =>
    cases t
    cases ha with | pot hp =>
    cases hb
    refine ⟨W.toWld, ⟨⟨a⟩, ⟨n, ⟨⟩⟩⟩, ⟨_, _, rfl, ⟨rfl, W.potW hp⟩, _, _, rfl, rfl, rfl⟩, hI, ⟨h0, by show n < 2 ^ 30; omega⟩, fun u H' y u1 i1 hy ey => ?_⟩
    cases hy
    exact q _ _ H' (h _ ey.1 ey.2) u1 i1 .int fun z => nomatch z
/-- one pot, in a world of nothing else that changes -/
def WoP (l : Addr) : Wo := { Wp l with
  P := fun a => a = l
  pm := fun h => h
  rd := fun {H a} i h => by
    subst h
    exact (pot_wp a).rd i
  wr := fun {H a} x y i h h1 h2 h3 => by
    subst h
    exact (pot_wp a).wr x y i h1 h2 h3 }
theorem wss_retD {T : Ct} {X : Cx} {e : Expr} {nm : Str} {p pos rp : Pos} {σ : L2.St} {H : Hp} {D' : Ends} {sts : List Stmt} {fr : Bool} {k : Nat} {s : List D → M D} (B : DefDG T X.prog X.w X.K X.mg X.base k nm fr 1 s) (hs : ∀ a R, R (.bl true) → s [.pot a] R) (hG : X.A.guards = some []) (hr : Room k X.A)
    (ha : Dx X WZ e σ H (fun y : List Int => PotR y)) (kk : ∀ H1, D'.rt (.bl true) H1) (hg : Gl X nm := by rfl) (hdb : (nm == ("__debug__" : Str)) = false := by decide) (he : starEach (e :: []) X.env = (false, eval e X.env) :: starEach [] X.env := by rfl) (hpl : (backTo pos (starEach [] X.env)).any (·.1) = false := by rfl) :
    Wss X (.Return (some (.Call (.Name nm p) [e] [] pos)) rp :: sts) D' σ H := by
  obtain ⟨te, pe, ev⟩ := ha
  obtain ⟨f, fd, ps, F, hm, hk, hb⟩ := B.ex
  have pc : PE X (.Call (.Name nm p) [e] [] pos) (fun σ H Q => taAny X [e] σ H fun vs H1 => SpD T fr 1 s vs H1 Q E0) := by
    refine ⟨fun pins s0 σ H Q I h => wpAny_Call_Name_kw (ld_glob I hg hm ?_ hdb)⟩
    exact PySem.W.callWith_K (h₀ := X.base) I.ok.mod.kin hk (thn (pa_any.run pos pins s0 σ H _ I h) fun us s1 ⟨vs, H1, I1, rv, q⟩ => ⟨I1.kIn, run_G F hG hr hb I1 rv q⟩) he hpl
  refine ⟨_, pss_cons (ps_ret pc) wss_all, ?_⟩
  refine ⟨_, pa_cons pe pa_nil he, ev H (Up.refl _) trivial _ fun v H1 y u1 i1 hy ry => ?_⟩
  obtain ⟨c, d, rfl, c0, d0, d1⟩ := ry
  obtain ⟨q, us, rfl, _, e1, h1⟩ := hy
  rw [ints_of h1] at e1
  exact ⟨WoP q, [.pot q], (· = .bl true), .cons (.pot rfl) .nil, rfl, ⟨c, d, c0, d0, d1, e1⟩, hs q _ rfl, fun y u H' ey _ _ hy' _ => by
    subst ey
    cases hy'
    exact kk H'⟩
end
/-! range with a step -/
def range3G : List D → M (List D)
  | [.int a, .int b, .int c] => fun R => ∃ n, RgC a b c n ∧ R ((List.range n).map fun i => .int (a + (i : Nat) * c))
  | _ => fail
theorem src_rangeC {T : Ct} {W : Wo} {H2 : Hp} {lo c : Int} {n : Nat} : Src T W H2 (fun _ => True) (YFn fun i => .int (lo + (i : Nat) * c)) ((List.range n).map fun i => .int (lo + (i : Nat) * c)) := ⟨fun _ _ => trivial, fun i H' x H'' hi u y => by
  rw [List.length_map, List.length_range] at hi
  refine ⟨.int (lo + (i : Nat) * c), by rw [List.getElem?_map, List.getElem?_range hi]; rfl, .inl ⟨y.1, ?_⟩⟩
  rw [y.2]
  exact .int⟩
theorem iss3 {T : Ct} {W : Wo} {H : Hp} {vs : List V} {a b c : D} (h : Iss T W H vs [a, b, c]) : ∃ u v w, vs = [u, v, w] ∧ Is T W H u a ∧ Is T W H v b ∧ Is T W H w c := by
  cases h with | cons h t =>
  cases t with | cons h2 t =>
  cases t with | cons h3 t =>
  cases t
  exact ⟨_, _, _, rfl, h, h2, h3⟩
theorem iw_range3 {T : Ct} {X : Cx} {W : Wo} {σ : L2.St} {H : Hp} {pos p : Pos} {a b c tg : Expr} {ml : M (List D)} (ha : Lw T X W [a, b, c] σ H ml) (hm : X.mg "range" = none) (hg : Gl X "range" := by rfl) (hs : starEach [a, b, c] X.env = (false, eval a X.env) :: starEach [b, c] X.env := by rfl) (hpl : (backTo pos (starEach [b, c] X.env)).any (·.1) = false := by rfl) :
    Iw T X W tg (.Call (.Name "range" p) [a, b, c] [] pos) σ H (walkM range3G ml) := fun R hR => ⟨_, pi_range3 hg hm pa_any hs hpl, fun H1 u hI Rk q => ha.go hR u hI fun vs H2 xs u2 i2 hx px => by
  unfold range3G at px
  split at px
  · rename_i i j k
    obtain ⟨v1, v2, v3, rfl, h, h2, h3⟩ := iss3 hx
    cases h
    cases h2
    cases h3
    obtain ⟨n, hn, pr⟩ := px
    refine ⟨i, j, k, n, rfl, hn, q _ H2 _ _ _ u2 i2 ?_ src_rangeC pr⟩
    rw [List.length_map, List.length_range]
    exact walk_rangeC
  · exact px.elim⟩
/-! equal to itself, at the top -/
theorem same_top {s : OwnE} (hs : SameOwn s) (n : Nat) : SameE (top1 s (eqD s n)) := by
  intro T N P H v a b R inj ha hb h
  unfold top1 at h
  split at h
  · exact sameD hs (n + 1) T N P H v _ _ R inj ha hb h
  · exact sameD hs (n + 1) T N P H v _ _ R inj ha hb h
  · exact same0 hs T N P H v _ _ R inj ha hb h
  · obtain ⟨z1, z2, e1, e2, sc, hr⟩ := cmpT_ex h
    have key : ∀ {x : D} {z : V}, IsD T N P H v x → flatD x = some z → v = z := by
      intro x z hx hz
      cases hx <;> cases hz <;> rfl
    rw [← key ha e1, ← key hb e2, decide_eq_true rfl] at hr
    exact hr
theorem same_at {s : OwnE} (hs : SameOwn s) {n i : Nat} {T : Ct} {N P : Addr → Prop} {H : Hp} {us : List V} {a b : List D} {x y : D} {R : D → Prop} (inj : ∀ c c', c < T.n → c' < T.n → T.at_ c = T.at_ c' → c = c') (ha : IsDs T N P H us a) (hb : IsDs T N P H us b) (hx : a[i]? = some x) (hy : b[i]? = some y) (h : eqT s n x y R) : R (.bl true) := by
  obtain ⟨v, e1, h1⟩ := ha.get hx
  obtain ⟨v', e2, h2⟩ := hb.get hy
  rw [e1] at e2
  cases e2
  exact same_top hs n T N P H v x y (fun k => R (.bl k)) inj h1 h2 h
end Uv
set_option Elab.async false
set_option linter.all false
set_option maxRecDepth 100000
set_option maxHeartbeats 4000000
set_option exponentiation.threshold 20000
namespace Sl
open PySem L2 Inn Uv
/-- a draw: any number below -/
def drawG : D → D → M D
  | .pot _, .int n => fun R => 0 < n ∧ n ≤ 2 ^ 20 ∧ ∀ i : Int, 0 ≤ i → i < n → R (.int i)
  | _, _ => fail
def s_law_draw : List D → M D
  | [a, b] => drawG a b
  | _ => fail
theorem len_s_law_draw : ∀ {ds : List D} {R : D → Prop}, s_law_draw ds R → ds.length = 2
  | [], _, h => h.elim
  | [_], _, h => h.elim
  | [_, _], _, _ => rfl
  | _ :: _ :: _ :: _, _, h => h.elim
def ratT (a b : Int) : Str := ([Str.ofString "Ratio(", Str.ofString (toString a), Str.ofString ", ", Str.ofString (toString b), Str.ofString ")"] : List Str).foldl (· ++ ·) Str.empty
def ownT : OwnT := fun c l => match c, l with
  | 0, [.int a, .int b] => if a.natAbs.log2 < 1920 ∧ b.natAbs.log2 < 1920 then some (ratT a b) else none
  | _, _ => none
def s_trimmed : List D → M D
  | [vnumbers] => fun R => (opN lenF (lcons (rt vnumbers) (lnil))) (fun vmany => whC (fun vs : D => andM (tst (op2 (gtG) (rt vs) (rt (D.int 0)))) (tst (op2 (eqT noE 1) (op2 ixG (rt vnumbers) (op2 (subG never2) (rt vs) (rt (D.int 1)))) (rt (D.int 0))))) (fun (vs : D) nx bk => (op2 (subG never2) (rt vs) (rt (D.int 1))) (fun vmany2 => nx vmany2)) (fun vs : D => (opN listF (lcons (slM (rt vnumbers) (noPart) (partM (rt vs))) (lnil))) R) (vmany : D))
  | _ => fail
theorem len_s_trimmed : ∀ {ds : List D} {R : D → Prop}, s_trimmed ds R → ds.length = 1
  | [], _, h => h.elim
  | [_], _, _ => rfl
  | _ :: _ :: _, _, h => h.elim
def s_negated : List D → M D
  | [vpoly] => fun R => (lcM (itemsM (rt vpoly)) (fun vnumber => op1 (negG fun _ => fail) (rt vnumber))) R
  | _ => fail
theorem len_s_negated : ∀ {ds : List D} {R : D → Prop}, s_negated ds R → ds.length = 1
  | [], _, h => h.elim
  | [_], _, _ => rfl
  | _ :: _ :: _, _, h => h.elim
def s_scaled_by : List D → M D
  | [vpoly, vnumber] => fun R => (iteM (tst (op2 (neT noE 1) (rt vnumber) (rt (D.int 0)))) (lcM (itemsM (rt vpoly)) (fun vpart => op2 (mulG never2) (rt vnumber) (rt vpart))) (lstM (lnil))) R
  | _ => fail
theorem len_s_scaled_by : ∀ {ds : List D} {R : D → Prop}, s_scaled_by ds R → ds.length = 2
  | [], _, h => h.elim
  | [_], _, h => h.elim
  | [_, _], _, _ => rfl
  | _ :: _ :: _ :: _, _, h => h.elim
def s_summed : List D → M D
  | [vfirst, vsecond] => fun R => (iteM (tst (op2 (leG) (opN lenF (lcons (rt vfirst) (lnil))) (opN lenF (lcons (rt vsecond) (lnil))))) (tupM (lcons (rt vfirst) (lcons (rt vsecond) (lnil)))) (tupM (lcons (rt vsecond) (lcons (rt vfirst) (lnil))))) (unP 2 (l2 (fun vshort vlong => (opN s_trimmed (lcons (op2 (addG never2) (lcM (walkM zipG (lcons (rt vshort) (lcons (rt vlong) (lnil)))) (un2 (fun vone vother => op2 (addG never2) (rt vone) (rt vother)))) (slM (rt vlong) (partM (opN lenF (lcons (rt vshort) (lnil)))) (noPart))) (lnil))) R)))
  | _ => fail
theorem len_s_summed : ∀ {ds : List D} {R : D → Prop}, s_summed ds R → ds.length = 2
  | [], _, h => h.elim
  | [_], _, h => h.elim
  | [_, _], _, _ => rfl
  | _ :: _ :: _ :: _, _, h => h.elim
def s_lessened : List D → M D
  | [vfirst, vsecond] => fun R => (opN s_summed (lcons (rt vfirst) (lcons (opN s_negated (lcons (rt vsecond) (lnil))) (lnil)))) R
  | _ => fail
theorem len_s_lessened : ∀ {ds : List D} {R : D → Prop}, s_lessened ds R → ds.length = 2
  | [], _, h => h.elim
  | [_], _, h => h.elim
  | [_, _], _, _ => rfl
  | _ :: _ :: _ :: _, _, h => h.elim
def s_multiplied : List D → M D
  | [vfirst, vsecond] => fun R => (orM (notM (truM (rt vfirst))) (notM (truM (rt vsecond)))) (fun b => ite2 b ((lstM (lnil)) R) ((tupM (lcons (opN lenF (lcons (rt vsecond) (lnil))) (lcons (op2 (subG never2) (opN lenF (lcons (rt vfirst) (lnil))) (rt (D.int 1))) (lnil)))) (unP 2 (l2 (fun vwide vlast => (lcM (walkM range1G (lcons (op2 (addG never2) (rt vlast) (rt vwide)) (lnil))) (fun vpower => opN sumF (lcons (lcM (walkM range2G (lcons (opN maxF (lcons (rt (D.int 0)) (lcons (op2 (addG never2) (op2 (subG never2) (rt vpower) (rt vwide)) (rt (D.int 1))) (lnil)))) (lcons (op2 (addG never2) (opN minF (lcons (rt vpower) (lcons (rt vlast) (lnil)))) (rt (D.int 1))) (lnil)))) (fun vat => op2 (mulG never2) (op2 ixG (rt vfirst) (rt vat)) (op2 ixG (rt vsecond) (op2 (subG never2) (rt vpower) (rt vat))))) (lnil)))) R)))))
  | _ => fail
theorem len_s_multiplied : ∀ {ds : List D} {R : D → Prop}, s_multiplied ds R → ds.length = 2
  | [], _, h => h.elim
  | [_], _, h => h.elim
  | [_, _], _, _ => rfl
  | _ :: _ :: _ :: _, _, h => h.elim
def s_derived_bare : List D → M D
  | [vpoly] => fun R => (slM (lcM (walkM enumG (lcons (rt vpoly) (lnil))) (un2 (fun vat vnumber => op2 (mulG never2) (rt vat) (rt vnumber)))) (partM (rt (D.int 1))) (noPart)) R
  | _ => fail
theorem len_s_derived_bare : ∀ {ds : List D} {R : D → Prop}, s_derived_bare ds R → ds.length = 1
  | [], _, h => h.elim
  | [_], _, _ => rfl
  | _ :: _ :: _, _, h => h.elim
def s_is_integer : List D → M D
  | [vvalue] => fun R => (andV (op1 (isiG [.int]) (rt vvalue)) (blM (notM (truM (op1 (isiG [.bool]) (rt vvalue)))))) R
  | _ => fail
theorem len_s_is_integer : ∀ {ds : List D} {R : D → Prop}, s_is_integer ds R → ds.length = 1
  | [], _, h => h.elim
  | [_], _, _ => rfl
  | _ :: _ :: _, _, h => h.elim
def s_Ratio_init : List D → M (List D)
  | [vtop, vbottom] => fun R => (notM (truM (opN s_is_integer (lcons (rt vtop) (lnil))))) (fun b => ite2 b (False) ((orM (notM (truM (opN s_is_integer (lcons (rt vbottom) (lnil))))) (tst (op2 (eqT noE 1) (rt vbottom) (rt (D.int 0))))) (fun b => ite2 b (False) ((iteM (tst (op2 (gtG) (rt vbottom) (rt (D.int 0)))) (opN gcdF (lcons (rt vtop) (lcons (rt vbottom) (lnil)))) (op1 (negG fun _ => fail) (opN gcdF (lcons (rt vtop) (lcons (rt vbottom) (lnil)))))) (fun vshared => (op2 fdivG (rt vtop) (rt vshared)) (fun v_top => (op2 fdivG (rt vbottom) (rt vshared)) (fun v_bottom => R [v_top, v_bottom])))))))
  | _ => fail
theorem len_s_Ratio_init : ∀ {ds : List D} {R : List D → Prop}, s_Ratio_init ds R → ds.length = 2
  | [], _, h => h.elim
  | [_], _, h => h.elim
  | [_, _], _, _ => rfl
  | _ :: _ :: _ :: _, _, h => h.elim
def s_Ratio_eq : List D → M D
  | [vself, vother] => fun R => (andV (op1 (isiG [(.c 0)]) (rt vother)) (andV (op2 (eqT noE 1) (op1 (fldI 0 0) (rt vself)) (op1 (fldI 0 0) (rt vother))) (op2 (eqT noE 1) (op1 (fldI 0 1) (rt vself)) (op1 (fldI 0 1) (rt vother))))) R
  | _ => fail
theorem len_s_Ratio_eq : ∀ {ds : List D} {R : D → Prop}, s_Ratio_eq ds R → ds.length = 2
  | [], _, h => h.elim
  | [_], _, h => h.elim
  | [_, _], _, _ => rfl
  | _ :: _ :: _ :: _, _, h => h.elim
def ownE : OwnE := fun c => match c with | 0 => s_Ratio_eq | _ => fun _ => fail
def s_Ratio_repr : List D → M D
  | [vself] => fun R => (strM [rt (D.str "Ratio("), op1 fmtG (op1 (fldI 0 0) (rt vself)), rt (D.str ", "), op1 fmtG (op1 (fldI 0 1) (rt vself)), rt (D.str ")")]) R
  | _ => fail
theorem len_s_Ratio_repr : ∀ {ds : List D} {R : D → Prop}, s_Ratio_repr ds R → ds.length = 1
  | [], _, h => h.elim
  | [_], _, _ => rfl
  | _ :: _ :: _, _, h => h.elim
def s_is_number : List D → M D
  | [vvalue] => fun R => (orV (op1 (isiG [(.c 0)]) (rt vvalue)) (opN s_is_integer (lcons (rt vvalue) (lnil)))) R
  | _ => fail
theorem len_s_is_number : ∀ {ds : List D} {R : D → Prop}, s_is_number ds R → ds.length = 1
  | [], _, h => h.elim
  | [_], _, _ => rfl
  | _ :: _ :: _, _, h => h.elim
def s_need_number : List D → M D
  | [vvalue] => fun R => (notM (truM (opN s_is_number (lcons (rt vvalue) (lnil))))) (fun b => ite2 b (False) (R D.non))
  | _ => fail
theorem len_s_need_number : ∀ {ds : List D} {R : D → Prop}, s_need_number ds R → ds.length = 1
  | [], _, h => h.elim
  | [_], _, _ => rfl
  | _ :: _ :: _, _, h => h.elim
def s_pair_of : List D → M D
  | [vnumber] => fun R => (truM (op1 (isiG [(.c 0)]) (rt vnumber))) (fun b => ite2 b ((tupM (lcons (op1 (fldI 0 0) (rt vnumber)) (lcons (op1 (fldI 0 1) (rt vnumber)) (lnil)))) R) ((opN s_need_number (lcons (rt vnumber) (lnil))) (fun _ => (tupM (lcons (rt vnumber) (lcons (rt (D.int 1)) (lnil)))) R)))
  | _ => fail
theorem len_s_pair_of : ∀ {ds : List D} {R : D → Prop}, s_pair_of ds R → ds.length = 1
  | [], _, h => h.elim
  | [_], _, _ => rfl
  | _ :: _ :: _, _, h => h.elim
def s_cleared : List D → M D
  | [vnumbers] => fun R => (lcM (itemsM (rt vnumbers)) (fun vnumber => opN s_pair_of (lcons (rt vnumber) (lnil)))) (fun vpairs => (rt (D.int 1)) (fun vbelow => (itemsM (rt vpairs)) (fun ds => forC (un2F (fun v_ vbottom (vs : D) nx bk => (opN lcmF (lcons (rt vs) (lcons (rt vbottom) (lnil)))) (fun vbelow2 => nx vbelow2))) (fun vs : D => (tupM (lcons (lcM (itemsM (rt vpairs)) (un2 (fun vtop vbottom2 => op2 (mulG never2) (rt vtop) (op2 fdivG (rt vs) (rt vbottom2))))) (lcons (rt vs) (lnil)))) R) ds (vbelow : D))))
  | _ => fail
theorem len_s_cleared : ∀ {ds : List D} {R : D → Prop}, s_cleared ds R → ds.length = 1
  | [], _, h => h.elim
  | [_], _, _ => rfl
  | _ :: _ :: _, _, h => h.elim
def s_ratios_over : List D → M D
  | [vintegers, vbelow] => fun R => (lcM (itemsM (rt vintegers)) (fun vnumber => opN (mkF 0 s_Ratio_init []) (lcons (rt vnumber) (lcons (rt vbelow) (lnil))))) R
  | _ => fail
theorem len_s_ratios_over : ∀ {ds : List D} {R : D → Prop}, s_ratios_over ds R → ds.length = 2
  | [], _, h => h.elim
  | [_], _, h => h.elim
  | [_, _], _, _ => rfl
  | _ :: _ :: _ :: _, _, h => h.elim
def s_is_poly : List D → M D
  | [vvalue] => fun R => (orM (notM (truM (op1 (isiG [.list, .tuple]) (rt vvalue)))) (tst (op2 (gtG) (opN lenF (lcons (rt vvalue) (lnil))) (rt (D.int 25))))) (fun b => ite2 b ((rt (D.bl false)) R) ((opN allF (lcons (lcM (itemsM (rt vvalue)) (fun vnumber => opN s_is_number (lcons (rt vnumber) (lnil)))) (lnil))) R))
  | _ => fail
theorem len_s_is_poly : ∀ {ds : List D} {R : D → Prop}, s_is_poly ds R → ds.length = 1
  | [], _, h => h.elim
  | [_], _, _ => rfl
  | _ :: _ :: _, _, h => h.elim
def s_need_poly : List D → M D
  | [vvalue] => fun R => (notM (truM (opN s_is_poly (lcons (rt vvalue) (lnil))))) (fun b => ite2 b (False) (R D.non))
  | _ => fail
theorem len_s_need_poly : ∀ {ds : List D} {R : D → Prop}, s_need_poly ds R → ds.length = 1
  | [], _, h => h.elim
  | [_], _, _ => rfl
  | _ :: _ :: _, _, h => h.elim
def s_need_polys : List D → M D
  | [vpoly, vother] => fun R => (opN s_need_poly (lcons (rt vpoly) (lnil))) (fun _ => (opN s_need_poly (lcons (rt vother) (lnil))) (fun _ => R D.non))
  | _ => fail
theorem len_s_need_polys : ∀ {ds : List D} {R : D → Prop}, s_need_polys ds R → ds.length = 2
  | [], _, h => h.elim
  | [_], _, h => h.elim
  | [_, _], _, _ => rfl
  | _ :: _ :: _ :: _, _, h => h.elim
def s_cleared_poly : List D → M D
  | [vpoly] => fun R => (opN s_cleared (lcons (rt vpoly) (lnil))) (unP 2 (l2 (fun vintegers vbelow => (tupM (lcons (opN s_trimmed (lcons (rt vintegers) (lnil))) (lcons (rt vbelow) (lnil)))) R)))
  | _ => fail
theorem len_s_cleared_poly : ∀ {ds : List D} {R : D → Prop}, s_cleared_poly ds R → ds.length = 1
  | [], _, h => h.elim
  | [_], _, _ => rfl
  | _ :: _ :: _, _, h => h.elim
def s_cleared_both : List D → M D
  | [vpoly, vother] => fun R => (opN s_cleared (lcons (lstM (starM (rt vpoly) (starM (rt vother) (lnil)))) (lnil))) (unP 2 (l2 (fun vintegers vbelow => (tupM (lcons (opN s_trimmed (lcons (slM (rt vintegers) (noPart) (partM (opN lenF (lcons (rt vpoly) (lnil))))) (lnil))) (lcons (opN s_trimmed (lcons (slM (rt vintegers) (partM (opN lenF (lcons (rt vpoly) (lnil)))) (noPart)) (lnil))) (lcons (rt vbelow) (lnil))))) R)))
  | _ => fail
theorem len_s_cleared_both : ∀ {ds : List D} {R : D → Prop}, s_cleared_both ds R → ds.length = 2
  | [], _, h => h.elim
  | [_], _, h => h.elim
  | [_, _], _, _ => rfl
  | _ :: _ :: _ :: _, _, h => h.elim
def s_told : List D → M D
  | [vpoly] => fun R => (opN s_need_poly (lcons (rt vpoly) (lnil))) (fun _ => (opN s_cleared_poly (lcons (rt vpoly) (lnil))) (unP 2 (l2 (fun vintegers vbelow => (opN s_ratios_over (lcons (rt vintegers) (lcons (rt vbelow) (lnil)))) R))))
  | _ => fail
theorem len_s_told : ∀ {ds : List D} {R : D → Prop}, s_told ds R → ds.length = 1
  | [], _, h => h.elim
  | [_], _, _ => rfl
  | _ :: _ :: _, _, h => h.elim
def s_degree : List D → M D
  | [vpoly] => fun R => (opN s_need_poly (lcons (rt vpoly) (lnil))) (fun _ => (op2 (subG never2) (opN lenF (lcons (op2 ixG (opN s_cleared_poly (lcons (rt vpoly) (lnil))) (rt (D.int 0))) (lnil))) (rt (D.int 1))) R)
  | _ => fail
theorem len_s_degree : ∀ {ds : List D} {R : D → Prop}, s_degree ds R → ds.length = 1
  | [], _, h => h.elim
  | [_], _, _ => rfl
  | _ :: _ :: _, _, h => h.elim
def s_plus : List D → M D
  | [vpoly, vother] => fun R => (opN s_need_polys (lcons (rt vpoly) (lcons (rt vother) (lnil)))) (fun _ => (opN s_cleared_both (lcons (rt vpoly) (lcons (rt vother) (lnil)))) (unP 3 (l3 (fun vfirst vsecond vbelow => (opN s_ratios_over (lcons (opN s_summed (lcons (rt vfirst) (lcons (rt vsecond) (lnil)))) (lcons (rt vbelow) (lnil)))) R))))
  | _ => fail
theorem len_s_plus : ∀ {ds : List D} {R : D → Prop}, s_plus ds R → ds.length = 2
  | [], _, h => h.elim
  | [_], _, h => h.elim
  | [_, _], _, _ => rfl
  | _ :: _ :: _ :: _, _, h => h.elim
def s_minus : List D → M D
  | [vpoly, vother] => fun R => (opN s_need_polys (lcons (rt vpoly) (lcons (rt vother) (lnil)))) (fun _ => (opN s_cleared_both (lcons (rt vpoly) (lcons (rt vother) (lnil)))) (unP 3 (l3 (fun vfirst vsecond vbelow => (opN s_ratios_over (lcons (opN s_lessened (lcons (rt vfirst) (lcons (rt vsecond) (lnil)))) (lcons (rt vbelow) (lnil)))) R))))
  | _ => fail
theorem len_s_minus : ∀ {ds : List D} {R : D → Prop}, s_minus ds R → ds.length = 2
  | [], _, h => h.elim
  | [_], _, h => h.elim
  | [_, _], _, _ => rfl
  | _ :: _ :: _ :: _, _, h => h.elim
def s_scaled : List D → M D
  | [vpoly, vnumber] => fun R => (opN s_need_poly (lcons (rt vpoly) (lnil))) (fun _ => (opN s_pair_of (lcons (rt vnumber) (lnil))) (unP 2 (l2 (fun vtop vbottom => (opN s_cleared_poly (lcons (rt vpoly) (lnil))) (unP 2 (l2 (fun vintegers vbelow => (opN s_ratios_over (lcons (opN s_scaled_by (lcons (rt vintegers) (lcons (rt vtop) (lnil)))) (lcons (op2 (mulG never2) (rt vbelow) (rt vbottom)) (lnil)))) R)))))))
  | _ => fail
theorem len_s_scaled : ∀ {ds : List D} {R : D → Prop}, s_scaled ds R → ds.length = 2
  | [], _, h => h.elim
  | [_], _, h => h.elim
  | [_, _], _, _ => rfl
  | _ :: _ :: _ :: _, _, h => h.elim
def s_times : List D → M D
  | [vpoly, vother] => fun R => (opN s_need_polys (lcons (rt vpoly) (lcons (rt vother) (lnil)))) (fun _ => (opN s_cleared_poly (lcons (rt vpoly) (lnil))) (unP 2 (l2 (fun vfirst vlow => (opN s_cleared_poly (lcons (rt vother) (lnil))) (unP 2 (l2 (fun vsecond vunder => (opN s_multiplied (lcons (rt vfirst) (lcons (rt vsecond) (lnil)))) (fun vproduct => (tst (op2 (gtG) (opN lenF (lcons (rt vproduct) (lnil))) (rt (D.int 25)))) (fun b => ite2 b (False) ((opN s_ratios_over (lcons (rt vproduct) (lcons (op2 (mulG never2) (rt vlow) (rt vunder)) (lnil)))) R))))))))))
  | _ => fail
theorem len_s_times : ∀ {ds : List D} {R : D → Prop}, s_times ds R → ds.length = 2
  | [], _, h => h.elim
  | [_], _, h => h.elim
  | [_, _], _, _ => rfl
  | _ :: _ :: _ :: _, _, h => h.elim
def s_derived : List D → M D
  | [vpoly] => fun R => (opN s_need_poly (lcons (rt vpoly) (lnil))) (fun _ => (opN s_cleared_poly (lcons (rt vpoly) (lnil))) (unP 2 (l2 (fun vintegers vbelow => (opN s_ratios_over (lcons (opN s_derived_bare (lcons (rt vintegers) (lnil))) (lcons (rt vbelow) (lnil)))) R))))
  | _ => fail
theorem len_s_derived : ∀ {ds : List D} {R : D → Prop}, s_derived ds R → ds.length = 1
  | [], _, h => h.elim
  | [_], _, _ => rfl
  | _ :: _ :: _, _, h => h.elim
def s_worth : List D → M D
  | [vpoly, vnumber] => fun R => (opN s_need_poly (lcons (rt vpoly) (lnil))) (fun _ => (opN s_pair_of (lcons (rt vnumber) (lnil))) (unP 2 (l2 (fun vtop vbottom => (opN s_cleared_poly (lcons (rt vpoly) (lnil))) (unP 2 (l2 (fun vintegers vbelow => (tupM (lcons (rt (D.int 0)) (lcons (rt (D.int 1)) (lnil)))) (unP 2 (l2 (fun vtotal vpower => (itemsM (op1 revG (rt vintegers))) (fun ds => forC (fun vpart (vs : D × D) nx bk => (op2 (addG never2) (op2 (mulG never2) (rt vs.1) (rt vtop)) (op2 (mulG never2) (rt vpart) (rt vs.2))) (fun vtotal2 => (op2 (mulG never2) (rt vs.2) (rt vbottom)) (fun vpower2 => nx (vtotal2, vpower2)))) (fun vs : D × D => (opN (mkM 0 s_Ratio_init []) (lcons (op2 (mulG never2) (rt vs.1) (rt vbottom)) (lcons (op2 (mulG never2) (rt vbelow) (rt vs.2)) (lnil)))) R) ds ((vtotal, vpower) : D × D))))))))))))
  | _ => fail
theorem len_s_worth : ∀ {ds : List D} {R : D → Prop}, s_worth ds R → ds.length = 2
  | [], _, h => h.elim
  | [_], _, h => h.elim
  | [_, _], _, _ => rfl
  | _ :: _ :: _ :: _, _, h => h.elim
def s_law_pick : List D → M D
  | [vpot_here, vsome] => fun R => (op2 ixG (rt vsome) (opN s_law_draw (lcons (rt vpot_here) (lcons (opN lenF (lcons (rt vsome) (lnil))) (lnil))))) R
  | _ => fail
theorem len_s_law_pick : ∀ {ds : List D} {R : D → Prop}, s_law_pick ds R → ds.length = 2
  | [], _, h => h.elim
  | [_], _, h => h.elim
  | [_, _], _, _ => rfl
  | _ :: _ :: _ :: _, _, h => h.elim
def s_law_low : List D → M D
  | [vtop, vbottom] => fun R => (lcons (opN absF (lcons (rt vtop) (lnil))) (lcons (opN absF (lcons (rt vbottom) (lnil))) (lnil))) (l2 (fun vone vother => whC (fun vs : D × D => tst (op2 (gtG) (rt vs.2) (rt (D.int 0)))) (fun (vs : D × D) nx bk => (lcons (rt vs.2) (lcons (op2 modG (opN intF (lcons (rt vs.1) (lnil))) (rt vs.2)) (lnil))) (l2 (fun vone2 vother2 => nx (vone2, vother2)))) (fun vs : D × D => (iteM (tst (op2 (gtG) (rt vbottom) (rt (D.int 0)))) (rt vs.1) (op2 (subG never2) (rt (D.int 0)) (rt vs.1))) (fun vone3 => (tupM (lcons (op2 fdivG (rt vtop) (rt vone3)) (lcons (op2 fdivG (rt vbottom) (rt vone3)) (lnil)))) R)) ((vone, vother) : D × D)))
  | _ => fail
theorem len_s_law_low : ∀ {ds : List D} {R : D → Prop}, s_law_low ds R → ds.length = 2
  | [], _, h => h.elim
  | [_], _, h => h.elim
  | [_, _], _, _ => rfl
  | _ :: _ :: _ :: _, _, h => h.elim
def s_law_plus : List D → M D
  | [va, vb] => fun R => (opN s_law_low (lcons (op2 (addG never2) (op2 (mulG never2) (op2 ixG (rt va) (rt (D.int 0))) (op2 ixG (rt vb) (rt (D.int 1)))) (op2 (mulG never2) (op2 ixG (rt vb) (rt (D.int 0))) (op2 ixG (rt va) (rt (D.int 1))))) (lcons (op2 (mulG never2) (op2 ixG (rt va) (rt (D.int 1))) (op2 ixG (rt vb) (rt (D.int 1)))) (lnil)))) R
  | _ => fail
theorem len_s_law_plus : ∀ {ds : List D} {R : D → Prop}, s_law_plus ds R → ds.length = 2
  | [], _, h => h.elim
  | [_], _, h => h.elim
  | [_, _], _, _ => rfl
  | _ :: _ :: _ :: _, _, h => h.elim
def s_law_by : List D → M D
  | [va, vb] => fun R => (opN s_law_low (lcons (op2 (mulG never2) (op2 ixG (rt va) (rt (D.int 0))) (op2 ixG (rt vb) (rt (D.int 0)))) (lcons (op2 (mulG never2) (op2 ixG (rt va) (rt (D.int 1))) (op2 ixG (rt vb) (rt (D.int 1)))) (lnil)))) R
  | _ => fail
theorem len_s_law_by : ∀ {ds : List D} {R : D → Prop}, s_law_by ds R → ds.length = 2
  | [], _, h => h.elim
  | [_], _, h => h.elim
  | [_, _], _, _ => rfl
  | _ :: _ :: _ :: _, _, h => h.elim
def s_law_trim : List D → M D
  | [vpoly_here] => fun R => (opN lenF (lcons (rt vpoly_here) (lnil))) (fun vmany => whC (fun vs : D => andM (tst (op2 (gtG) (rt vs) (rt (D.int 0)))) (tst (op2 (eqT noE 1) (op2 ixG (op2 ixG (rt vpoly_here) (op2 (subG never2) (rt vs) (rt (D.int 1)))) (rt (D.int 0))) (rt (D.int 0))))) (fun (vs : D) nx bk => (op2 (subG never2) (rt vs) (rt (D.int 1))) (fun vmany2 => nx vmany2)) (fun vs : D => (slM (rt vpoly_here) (noPart) (partM (rt vs))) R) (vmany : D))
  | _ => fail
theorem len_s_law_trim : ∀ {ds : List D} {R : D → Prop}, s_law_trim ds R → ds.length = 1
  | [], _, h => h.elim
  | [_], _, _ => rfl
  | _ :: _ :: _, _, h => h.elim
def s_law_sum : List D → M D
  | [vone, vother] => fun R => (iteM (tst (op2 (geG) (opN lenF (lcons (rt vone) (lnil))) (opN lenF (lcons (rt vother) (lnil))))) (tupM (lcons (rt vone) (lcons (rt vother) (lnil)))) (tupM (lcons (rt vother) (lcons (rt vone) (lnil))))) (unP 2 (l2 (fun vmine vyours => (opN s_law_trim (lcons (lcM (walkM range1G (lcons (opN lenF (lcons (rt vmine) (lnil))) (lnil))) (fun vat => iteM (tst (op2 (ltG) (rt vat) (opN lenF (lcons (rt vyours) (lnil))))) (opN s_law_plus (lcons (op2 ixG (rt vmine) (rt vat)) (lcons (op2 ixG (rt vyours) (rt vat)) (lnil)))) (op2 ixG (rt vmine) (rt vat)))) (lnil))) R)))
  | _ => fail
theorem len_s_law_sum : ∀ {ds : List D} {R : D → Prop}, s_law_sum ds R → ds.length = 2
  | [], _, h => h.elim
  | [_], _, h => h.elim
  | [_, _], _, _ => rfl
  | _ :: _ :: _ :: _, _, h => h.elim
def s_law_scaled : List D → M D
  | [vpoly_here, vnumber_here] => fun R => (opN s_law_trim (lcons (lcM (itemsM (rt vpoly_here)) (fun vone => opN s_law_by (lcons (rt vone) (lcons (rt vnumber_here) (lnil))))) (lnil))) R
  | _ => fail
theorem len_s_law_scaled : ∀ {ds : List D} {R : D → Prop}, s_law_scaled ds R → ds.length = 2
  | [], _, h => h.elim
  | [_], _, h => h.elim
  | [_, _], _, _ => rfl
  | _ :: _ :: _ :: _, _, h => h.elim
def s_law_less : List D → M D
  | [vone, vother] => fun R => (opN s_law_sum (lcons (rt vone) (lcons (opN s_law_scaled (lcons (rt vother) (lcons (tupM (lcons (op1 (negG fun _ => fail) (rt (D.int 1))) (lcons (rt (D.int 1)) (lnil)))) (lnil)))) (lnil)))) R
  | _ => fail
theorem len_s_law_less : ∀ {ds : List D} {R : D → Prop}, s_law_less ds R → ds.length = 2
  | [], _, h => h.elim
  | [_], _, h => h.elim
  | [_, _], _, _ => rfl
  | _ :: _ :: _ :: _, _, h => h.elim
def s_law_times : List D → M D
  | [vone, vother] => fun R => (repM (lcons (tupM (lcons (rt (D.int 0)) (lcons (rt (D.int 1)) (lnil)))) (lnil)) (opN maxF (lcons (rt (D.int 0)) (lcons (op2 (subG never2) (op2 (addG never2) (opN lenF (lcons (rt vone) (lnil))) (opN lenF (lcons (rt vother) (lnil)))) (rt (D.int 1))) (lnil))))) (fun vfound => (walkM enumG (lcons (rt vone) (lnil))) (fun ds => forC (un2F (fun vat vmine (vs : List D) nx bk => (walkM enumG (lcons (rt vother) (lnil))) (fun ds => forC (un2F (fun vto vyours (vs2 : List D) nx bk => storeM vs2 (opN s_law_plus (lcons (op2 ixG (rt (D.lst vs2)) (op2 (addG never2) (rt vat) (rt vto))) (lcons (opN s_law_by (lcons (rt vmine) (lcons (rt vyours) (lnil)))) (lnil)))) (op2 (addG never2) (rt vat) (rt vto)) (fun vfound2 => nx vfound2))) (fun vs2 : List D => nx vs2) ds (vs : List D)))) (fun vs : List D => (opN s_law_trim (lcons (rt (D.lst vs)) (lnil))) R) ds (vfound : List D)))
  | _ => fail
theorem len_s_law_times : ∀ {ds : List D} {R : D → Prop}, s_law_times ds R → ds.length = 2
  | [], _, h => h.elim
  | [_], _, h => h.elim
  | [_, _], _, _ => rfl
  | _ :: _ :: _ :: _, _, h => h.elim
def s_law_ratios : List D → M D
  | [vpoly_here] => fun R => (lcM (itemsM (rt vpoly_here)) (fun vnumber_here => opN (mkM 0 s_Ratio_init []) (lcons (op2 ixG (rt vnumber_here) (rt (D.int 0))) (lcons (op2 ixG (rt vnumber_here) (rt (D.int 1))) (lnil))))) R
  | _ => fail
theorem len_s_law_ratios : ∀ {ds : List D} {R : D → Prop}, s_law_ratios ds R → ds.length = 1
  | [], _, h => h.elim
  | [_], _, _ => rfl
  | _ :: _ :: _, _, h => h.elim
def s_law_number : List D → M D
  | [vpot_here, vmost] => fun R => (opN s_law_low (lcons (op2 (subG never2) (opN s_law_draw (lcons (rt vpot_here) (lcons (op2 (addG never2) (op2 (mulG never2) (rt (D.int 2)) (rt vmost)) (rt (D.int 1))) (lnil)))) (rt vmost)) (lcons (opN s_law_pick (lcons (rt vpot_here) (lcons (lstM (lcons (rt (D.int 1)) (lcons (rt (D.int 1)) (lcons (rt (D.int 1)) (lcons (rt (D.int 2)) (lcons (rt (D.int 3)) (lnil))))))) (lnil)))) (lnil)))) R
  | _ => fail
theorem len_s_law_number : ∀ {ds : List D} {R : D → Prop}, s_law_number ds R → ds.length = 2
  | [], _, h => h.elim
  | [_], _, h => h.elim
  | [_, _], _, _ => rfl
  | _ :: _ :: _ :: _, _, h => h.elim
def s_law_poly : List D → M D
  | [vpot_here, vmany] => fun R => (fitM (lnil)) (fun vfound => (walkM range1G (lcons (opN s_law_draw (lcons (rt vpot_here) (lcons (op2 (addG never2) (rt vmany) (rt (D.int 1))) (lnil)))) (lnil))) (fun ds => forC (fun vplace (vs : List D) nx bk => appM vs (iteM (tst (op2 (gtG) (opN s_law_draw (lcons (rt vpot_here) (lcons (rt (D.int 4)) (lnil)))) (rt (D.int 0)))) (opN s_law_number (lcons (rt vpot_here) (lcons (rt (D.int 4)) (lnil)))) (tupM (lcons (rt (D.int 0)) (lcons (rt (D.int 1)) (lnil))))) (fun vfound2 => nx vfound2)) (fun vs : List D => (opN s_law_trim (lcons (rt (D.lst vs)) (lnil))) R) ds (vfound : List D)))
  | _ => fail
theorem len_s_law_poly : ∀ {ds : List D} {R : D → Prop}, s_law_poly ds R → ds.length = 2
  | [], _, h => h.elim
  | [_], _, h => h.elim
  | [_, _], _, _ => rfl
  | _ :: _ :: _ :: _, _, h => h.elim
def s_law_standing : List D → M D
  | [vpot_here, vmany] => fun R => (op2 (addG never2) (opN s_law_poly (lcons (rt vpot_here) (lcons (op2 (subG never2) (rt vmany) (rt (D.int 1))) (lnil)))) (lstM (lcons (opN s_law_pick (lcons (rt vpot_here) (lcons (lstM (lcons (tupM (lcons (rt (D.int 1)) (lcons (rt (D.int 1)) (lnil)))) (lcons (tupM (lcons (op1 (negG fun _ => fail) (rt (D.int 1))) (lcons (rt (D.int 1)) (lnil)))) (lcons (tupM (lcons (rt (D.int 2)) (lcons (rt (D.int 1)) (lnil)))) (lcons (tupM (lcons (op1 (negG fun _ => fail) (rt (D.int 3))) (lcons (rt (D.int 2)) (lnil)))) (lnil)))))) (lnil)))) (lnil)))) R
  | _ => fail
theorem len_s_law_standing : ∀ {ds : List D} {R : D → Prop}, s_law_standing ds R → ds.length = 2
  | [], _, h => h.elim
  | [_], _, h => h.elim
  | [_, _], _, _ => rfl
  | _ :: _ :: _ :: _, _, h => h.elim
def s_law_given : List D → M D
  | [vpot_here, vpoly_here] => fun R => (lcM (itemsM (rt vpoly_here)) (fun vone => iteM (andM (tst (op2 (eqT noE 1) (op2 ixG (rt vone) (rt (D.int 1))) (rt (D.int 1)))) (tst (op2 (eqT noE 1) (opN s_law_draw (lcons (rt vpot_here) (lcons (rt (D.int 2)) (lnil)))) (rt (D.int 0))))) (op2 ixG (rt vone) (rt (D.int 0))) (opN (mkM 0 s_Ratio_init []) (lcons (op2 ixG (rt vone) (rt (D.int 0))) (lcons (op2 ixG (rt vone) (rt (D.int 1))) (lnil)))))) (fun vfound => (op2 (addG never2) (rt vfound) (op2 (mulG never2) (lstM (lcons (rt (D.int 0)) (lnil))) (opN s_law_pick (lcons (rt vpot_here) (lcons (lstM (lcons (rt (D.int 0)) (lcons (rt (D.int 0)) (lcons (rt (D.int 1)) (lcons (rt (D.int 2)) (lnil)))))) (lnil)))))) (fun vfound2 => (iteM (tst (op2 (eqT noE 1) (opN s_law_draw (lcons (rt vpot_here) (lcons (rt (D.int 3)) (lnil)))) (rt (D.int 0)))) (opN tupleF (lcons (rt vfound2) (lnil))) (rt vfound2)) R))
  | _ => fail
theorem len_s_law_given : ∀ {ds : List D} {R : D → Prop}, s_law_given ds R → ds.length = 2
  | [], _, h => h.elim
  | [_], _, h => h.elim
  | [_, _], _, _ => rfl
  | _ :: _ :: _ :: _, _, h => h.elim
def s_law_handed : List D → M D
  | [vpot_here, vnumber_here] => fun R => (iteM (andM (tst (op2 (eqT noE 1) (op2 ixG (rt vnumber_here) (rt (D.int 1))) (rt (D.int 1)))) (tst (op2 (eqT noE 1) (opN s_law_draw (lcons (rt vpot_here) (lcons (rt (D.int 2)) (lnil)))) (rt (D.int 0))))) (op2 ixG (rt vnumber_here) (rt (D.int 0))) (opN (mkM 0 s_Ratio_init []) (lcons (op2 ixG (rt vnumber_here) (rt (D.int 0))) (lcons (op2 ixG (rt vnumber_here) (rt (D.int 1))) (lnil))))) R
  | _ => fail
theorem len_s_law_handed : ∀ {ds : List D} {R : D → Prop}, s_law_handed ds R → ds.length = 2
  | [], _, h => h.elim
  | [_], _, h => h.elim
  | [_, _], _, _ => rfl
  | _ :: _ :: _ :: _, _, h => h.elim
def s_law_worth : List D → M D
  | [vpoly_here, vnumber_here] => fun R => (tupM (lcons (rt (D.int 0)) (lcons (rt (D.int 1)) (lnil)))) (fun vfound => (itemsM (op1 revG (rt vpoly_here))) (fun ds => forC (fun vone (vs : D) nx bk => (opN s_law_plus (lcons (opN s_law_by (lcons (rt vs) (lcons (rt vnumber_here) (lnil)))) (lcons (rt vone) (lnil)))) (fun vfound2 => nx vfound2)) (fun vs : D => (rt vs) R) ds (vfound : D)))
  | _ => fail
theorem len_s_law_worth : ∀ {ds : List D} {R : D → Prop}, s_law_worth ds R → ds.length = 2
  | [], _, h => h.elim
  | [_], _, h => h.elim
  | [_, _], _, _ => rfl
  | _ :: _ :: _ :: _, _, h => h.elim
def s_law_derived : List D → M D
  | [vpoly_here] => fun R => (opN s_law_trim (lcons (lcM (walkM range2G (lcons (rt (D.int 1)) (lcons (opN lenF (lcons (rt vpoly_here) (lnil))) (lnil)))) (fun vat => opN s_law_by (lcons (op2 ixG (rt vpoly_here) (rt vat)) (lcons (tupM (lcons (rt vat) (lcons (rt (D.int 1)) (lnil)))) (lnil))))) (lnil))) R
  | _ => fail
theorem len_s_law_derived : ∀ {ds : List D} {R : D → Prop}, s_law_derived ds R → ds.length = 1
  | [], _, h => h.elim
  | [_], _, _ => rfl
  | _ :: _ :: _, _, h => h.elim
def s_law_two_right : List D → M D
  | [vpot_here, vone, vother] => fun R => (lcons (opN s_law_given (lcons (rt vpot_here) (lcons (rt vone) (lnil)))) (lcons (opN s_law_given (lcons (rt vpot_here) (lcons (rt vother) (lnil)))) (lcons (opN s_law_number (lcons (rt vpot_here) (lcons (rt (D.int 3)) (lnil)))) (lnil)))) (l3 (fun vfirst vsecond vnumber_here => (lcons (opN s_law_handed (lcons (rt vpot_here) (lcons (rt vnumber_here) (lnil)))) (lcons (opN (reprF ownT 2) (lcons (lstM (lcons (rt vfirst) (lcons (rt vsecond) (lnil)))) (lnil))) (lnil))) (l2 (fun vpassed vstay => (lstM (lcons (rt vone) (lcons (opN s_law_sum (lcons (rt vone) (lcons (rt vother) (lnil)))) (lcons (opN s_law_less (lcons (rt vone) (lcons (rt vother) (lnil)))) (lcons (opN s_law_times (lcons (rt vone) (lcons (rt vother) (lnil)))) (lcons (opN s_law_scaled (lcons (rt vone) (lcons (rt vnumber_here) (lnil)))) (lcons (opN s_law_derived (lcons (rt vone) (lnil))) (lnil)))))))) (fun vdue => (lstM (lcons (opN s_told (lcons (rt vfirst) (lnil))) (lcons (opN s_plus (lcons (rt vfirst) (lcons (rt vsecond) (lnil)))) (lcons (opN s_minus (lcons (rt vfirst) (lcons (rt vsecond) (lnil)))) (lcons (opN s_times (lcons (rt vfirst) (lcons (rt vsecond) (lnil)))) (lcons (opN s_scaled (lcons (rt vfirst) (lcons (rt vpassed) (lnil)))) (lcons (opN s_derived (lcons (rt vfirst) (lnil))) (lnil)))))))) (fun vfound => (tst (op2 (neT ownE 3) (opN (reprF ownT 2) (lcons (rt vfound) (lnil))) (opN (reprF ownT 2) (lcons (lcM (itemsM (rt vdue)) (fun vpoly_here => opN s_law_ratios (lcons (rt vpoly_here) (lnil)))) (lnil))))) (fun b => ite2 b ((rt (D.bl false)) R) ((lstM (lcons (opN (fun ds => s_told (arr [0] ds)) (lcons (rt vfirst) (lnil))) (lcons (opN (fun ds => s_plus (arr [1, 0] ds)) (lcons (rt vsecond) (lcons (rt vfirst) (lnil)))) (lcons (opN (fun ds => s_minus (arr [1, 0] ds)) (lcons (rt vsecond) (lcons (rt vfirst) (lnil)))) (lcons (opN (fun ds => s_times (arr [1, 0] ds)) (lcons (rt vsecond) (lcons (rt vfirst) (lnil)))) (lcons (opN (fun ds => s_scaled (arr [1, 0] ds)) (lcons (rt vpassed) (lcons (rt vfirst) (lnil)))) (lnil))))))) (fun vnamed => (orM (tst (op2 (neT ownE 3) (op2 (addG never2) (rt vnamed) (lstM (lcons (opN (fun ds => s_derived (arr [0] ds)) (lcons (rt vfirst) (lnil))) (lnil)))) (rt vfound))) (orM (tst (op2 (neT ownE 3) (lcM (itemsM (rt vfound)) (fun vpoly_here2 => opN s_degree (lcons (rt vpoly_here2) (lnil)))) (lcM (itemsM (rt vdue)) (fun vpoly_here3 => op2 (subG never2) (opN lenF (lcons (rt vpoly_here3) (lnil))) (rt (D.int 1)))))) (tst (op2 (neT ownE 3) (opN s_degree (lcons (rt vfirst) (lnil))) (op2 (subG never2) (opN lenF (lcons (rt vone) (lnil))) (rt (D.int 1))))))) (fun b => ite2 b ((rt (D.bl false)) R) ((spoilP vfound ∧ (orM (tst (op2 (neT ownE 3) (opN s_times (lcons (rt vsecond) (lcons (rt vfirst) (lnil)))) (opN s_law_ratios (lcons (op2 ixG (rt vdue) (rt (D.int 3))) (lnil))))) (orM (tst (op2 (neT ownE 3) (opN s_plus (lcons (rt vsecond) (lcons (rt vfirst) (lnil)))) (opN s_law_ratios (lcons (op2 ixG (rt vdue) (rt (D.int 1))) (lnil))))) (tst (op2 (neT ownE 3) (opN s_told (lcons (rt vfirst) (lnil))) (opN s_law_ratios (lcons (rt vone) (lnil))))))) (fun b => ite2 b ((rt (D.bl false)) R) ((lstM (lcons (opN s_worth (lcons (rt vfirst) (lcons (rt vpassed) (lnil)))) (lcons (opN (fun ds => s_worth (arr [1, 0] ds)) (lcons (rt vpassed) (lcons (rt vsecond) (lnil)))) (lcons (opN s_worth (lcons (opN s_times (lcons (rt vfirst) (lcons (rt vsecond) (lnil)))) (lcons (rt vpassed) (lnil)))) (lnil))))) (fun vworths => (lcons (opN s_law_worth (lcons (rt vone) (lcons (rt vnumber_here) (lnil)))) (lcons (opN s_law_worth (lcons (rt vother) (lcons (rt vnumber_here) (lnil)))) (lnil))) (l2 (fun vmine vyours => (tst (op2 (neT ownE 3) (opN (reprF ownT 2) (lcons (rt vworths) (lnil))) (opN (reprF ownT 2) (lcons (opN s_law_ratios (lcons (lstM (lcons (rt vmine) (lcons (rt vyours) (lcons (opN s_law_by (lcons (rt vmine) (lcons (rt vyours) (lnil)))) (lnil))))) (lnil))) (lnil))))) (fun b => ite2 b ((rt (D.bl false)) R) ((andV (op2 (eqT ownE 3) (opN s_derived (lcons (opN s_times (lcons (rt vfirst) (lcons (rt vsecond) (lnil)))) (lnil))) (opN s_plus (lcons (opN s_times (lcons (opN s_derived (lcons (rt vfirst) (lnil))) (lcons (rt vsecond) (lnil)))) (lcons (opN s_times (lcons (rt vfirst) (lcons (opN s_derived (lcons (rt vsecond) (lnil))) (lnil)))) (lnil))))) (op2 (eqT ownE 3) (opN (reprF ownT 2) (lcons (lstM (lcons (rt vfirst) (lcons (rt vsecond) (lnil)))) (lnil))) (rt vstay))) R)))))))))))))))))))
  | _ => fail
theorem len_s_law_two_right : ∀ {ds : List D} {R : D → Prop}, s_law_two_right ds R → ds.length = 3
  | [], _, h => h.elim
  | [_], _, h => h.elim
  | [_, _], _, h => h.elim
  | [_, _, _], _, _ => rfl
  | _ :: _ :: _ :: _ :: _, _, h => h.elim
def s_law_values_right : List D → M D
  | [vpot_here, vpoly_here] => fun R => (op2 (addG never2) (opN listF (lcons (opN s_law_given (lcons (rt vpot_here) (lcons (rt vpoly_here) (lnil)))) (lnil))) (lstM (lcons (rt (D.int 1)) (lnil)))) (fun vgood => (lcons (opN s_law_draw (lcons (rt vpot_here) (lcons (opN lenF (lcons (rt vgood) (lnil))) (lnil)))) (lcons (opN s_law_pick (lcons (rt vpot_here) (lcons (lstM (lcons (rt D.non) (lcons (rt (D.bl true)) (lcons (rt (D.str "1")) (lcons (lstM (lcons (rt (D.int 1)) (lnil))) (lcons (tupM (lnil)) (lcons (rt (D.dct [] [])) (lnil)))))))) (lnil)))) (lnil))) (l2 (fun vat vodd => (lstM (lcons (rt vgood) (lcons (opN tupleF (lcons (rt vgood) (lnil))) (lcons (lstM (lnil)) (lcons (tupM (lnil)) (lcons (op2 (mulG never2) (lstM (lcons (rt (D.int 0)) (lnil))) (rt (D.int 25))) (lcons (slM (rt vgood) (noPart) (partM (rt vat))) (lcons (op2 (mulG never2) (lstM (lcons (opN (mkM 0 s_Ratio_init []) (lcons (rt (D.int 1)) (lcons (rt (D.int 3)) (lnil)))) (lnil))) (rt (D.int 25))) (lnil))))))))) (fun vyes => (lstM (lcons (op2 (addG never2) (op2 (addG never2) (slM (rt vgood) (noPart) (partM (rt vat))) (lstM (lcons (rt vodd) (lnil)))) (slM (rt vgood) (partM (op2 (addG never2) (rt vat) (rt (D.int 1)))) (noPart))) (lcons (op2 (addG never2) (rt vgood) (lstM (lcons (rt vodd) (lnil)))) (lcons (lstM (lcons (rt vgood) (lnil))) (lcons (op2 (mulG never2) (lstM (lcons (rt (D.int 0)) (lnil))) (rt (D.int 26))) (lcons (rt (D.dct [] [])) (lcons (rt D.non) (lcons (rt (D.int 5)) (lcons (rt (D.str "1")) (lcons (rt (D.str "")) (lcons (opN (mkM 0 s_Ratio_init [D.int 1]) (lcons (rt (D.int 2)) (lnil))) (lcons (rt (D.bl true)) (lcons (opN tupleF (lcons (op2 (mulG never2) (lstM (lcons (rt (D.int 1)) (lnil))) (rt (D.int 26))) (lnil))) (lnil)))))))))))))) (fun vno => (op2 (eqT noE 1) (opN (reprF ownT 1) (lcons (op2 (addG never2) (lcM (itemsM (op2 (addG never2) (rt vyes) (rt vno))) (fun vvalue => opN s_is_poly (lcons (rt vvalue) (lnil)))) (lstM (lcons (opN (fun ds => s_is_poly (arr [0] ds)) (lcons (rt vgood) (lnil))) (lnil)))) (lnil))) (opN (reprF ownT 1) (lcons (op2 (addG never2) (op2 (addG never2) (op2 (mulG never2) (lstM (lcons (rt (D.bl true)) (lnil))) (opN lenF (lcons (rt vyes) (lnil)))) (op2 (mulG never2) (lstM (lcons (rt (D.bl false)) (lnil))) (opN lenF (lcons (rt vno) (lnil))))) (lstM (lcons (rt (D.bl true)) (lnil)))) (lnil)))) R)))))
  | _ => fail
theorem len_s_law_values_right : ∀ {ds : List D} {R : D → Prop}, s_law_values_right ds R → ds.length = 2
  | [], _, h => h.elim
  | [_], _, h => h.elim
  | [_, _], _, _ => rfl
  | _ :: _ :: _ :: _, _, h => h.elim
def s_law_right : List D → M D
  | [vpot_here] => fun R => (lstM (lcons (opN s_law_poly (lcons (rt vpot_here) (lcons (rt (D.int 5)) (lnil)))) (lcons (opN s_law_poly (lcons (rt vpot_here) (lcons (rt (D.int 8)) (lnil)))) (lcons (opN s_law_standing (lcons (rt vpot_here) (lcons (rt (D.int 6)) (lnil)))) (lcons (lstM (lnil)) (lcons (lstM (lcons (tupM (lcons (rt (D.int 7)) (lcons (rt (D.int 3)) (lnil)))) (lnil))) (lnil))))))) (fun vpolys => (walkM range1G (lcons (rt (D.int 3)) (lnil))) (fun ds => forC (fun vturn (vs : Unit) nx bk => (notM (truM (opN s_law_two_right (lcons (rt vpot_here) (lcons (opN s_law_pick (lcons (rt vpot_here) (lcons (rt vpolys) (lnil)))) (lcons (opN s_law_pick (lcons (rt vpot_here) (lcons (rt vpolys) (lnil)))) (lnil))))))) (fun b => ite2 b ((rt (D.bl false)) R) (nx ()))) (fun vs : Unit => (op2 (addG never2) (rt (D.int 1)) (opN s_law_draw (lcons (rt vpot_here) (lcons (rt (D.int 9)) (lnil))))) (fun vnumber_here => (tst (op2 (neT ownE 2) (opN s_times (lcons (op2 (addG never2) (op2 (mulG never2) (lstM (lcons (rt (D.int 0)) (lnil))) (rt (D.int 12))) (lstM (lcons (rt (D.int 1)) (lnil)))) (lcons (op2 (addG never2) (op2 (mulG never2) (lstM (lcons (rt (D.int 0)) (lnil))) (rt (D.int 12))) (lstM (lcons (rt vnumber_here) (lcons (rt (D.int 0)) (lnil))))) (lnil)))) (op2 (addG never2) (op2 (mulG never2) (lstM (lcons (opN (mkM 0 s_Ratio_init [D.int 1]) (lcons (rt (D.int 0)) (lnil))) (lnil))) (rt (D.int 24))) (lstM (lcons (opN (mkM 0 s_Ratio_init [D.int 1]) (lcons (rt vnumber_here) (lnil))) (lnil)))))) (fun b => ite2 b ((rt (D.bl false)) R) ((opN s_law_values_right (lcons (rt vpot_here) (lcons (opN s_law_pick (lcons (rt vpot_here) (lcons (rt vpolys) (lnil)))) (lnil)))) R)))) ds (() : Unit)))
  | _ => fail
theorem len_s_law_right : ∀ {ds : List D} {R : D → Prop}, s_law_right ds R → ds.length = 1
  | [], _, h => h.elim
  | [_], _, _ => rfl
  | _ :: _ :: _, _, h => h.elim
def s_put_over : List D → M D
  | [vpoly, vup, vdown, vmany] => fun R => (lcons (lstM (lnil)) (lcons (lstM (lcons (rt (D.int 1)) (lnil))) (lnil))) (l2 (fun vtotal vpower => (walkM range3G (lcons (rt vmany) (lcons (op1 (negG fun _ => fail) (rt (D.int 1))) (lcons (op1 (negG fun _ => fail) (rt (D.int 1))) (lnil))))) (fun ds => forC (fun vat (vs : D × D) nx bk => (iteM (tst (op2 (ltG) (rt vat) (opN lenF (lcons (rt vpoly) (lnil))))) (op2 ixG (rt vpoly) (rt vat)) (rt (D.int 0))) (fun vnumber => (opN s_summed (lcons (opN s_multiplied (lcons (rt vs.1) (lcons (rt vup) (lnil)))) (lcons (opN s_scaled_by (lcons (rt vs.2) (lcons (rt vnumber) (lnil)))) (lnil)))) (fun vtotal2 => (opN s_multiplied (lcons (rt vs.2) (lcons (rt vdown) (lnil)))) (fun vpower2 => nx (vtotal2, vpower2))))) (fun vs : D × D => (rt vs.1) R) ds ((vtotal, vpower) : D × D))))
  | _ => fail
theorem len_s_put_over : ∀ {ds : List D} {R : D → Prop}, s_put_over ds R → ds.length = 4
  | [], _, h => h.elim
  | [_], _, h => h.elim
  | [_, _], _, h => h.elim
  | [_, _, _], _, h => h.elim
  | [_, _, _, _], _, _ => rfl
  | _ :: _ :: _ :: _ :: _ :: _, _, h => h.elim
def s_raised : List D → M D
  | [vnumber, vmany] => fun R => (rt (D.int 1)) (fun vpower => (walkM range1G (lcons (rt vmany) (lnil))) (fun ds => forC (fun v_ (vs : D) nx bk => (op2 (mulG never2) (rt vs) (rt vnumber)) (fun vpower2 => nx vpower2)) (fun vs : D => (rt vs) R) ds (vpower : D)))
  | _ => fail
theorem len_s_raised : ∀ {ds : List D} {R : D → Prop}, s_raised ds R → ds.length = 2
  | [], _, h => h.elim
  | [_], _, h => h.elim
  | [_, _], _, _ => rfl
  | _ :: _ :: _ :: _, _, h => h.elim
def s_put_in : List D → M D
  | [vpoly, vother] => fun R => (opN s_need_polys (lcons (rt vpoly) (lcons (rt vother) (lnil)))) (fun _ => (opN s_cleared_poly (lcons (rt vpoly) (lnil))) (unP 2 (l2 (fun vfirst vlow => (opN s_cleared_poly (lcons (rt vother) (lnil))) (unP 2 (l2 (fun vsecond vunder => (opN maxF (lcons (rt (D.int 0)) (lcons (op2 (subG never2) (opN lenF (lcons (rt vfirst) (lnil))) (rt (D.int 1))) (lnil)))) (fun vmany => (tst (op2 (gtG) (op2 (mulG never2) (rt vmany) (op2 (subG never2) (opN lenF (lcons (rt vsecond) (lnil))) (rt (D.int 1)))) (rt (D.int 24)))) (fun b => ite2 b (False) ((opN s_ratios_over (lcons (opN s_put_over (lcons (rt vfirst) (lcons (rt vsecond) (lcons (lstM (lcons (rt vunder) (lnil))) (lcons (rt vmany) (lnil)))))) (lcons (op2 (mulG never2) (rt vlow) (opN s_raised (lcons (rt vunder) (lcons (rt vmany) (lnil))))) (lnil)))) R))))))))))
  | _ => fail
theorem len_s_put_in : ∀ {ds : List D} {R : D → Prop}, s_put_in ds R → ds.length = 2
  | [], _, h => h.elim
  | [_], _, h => h.elim
  | [_, _], _, _ => rfl
  | _ :: _ :: _ :: _, _, h => h.elim
def s_law_led : List D → M D
  | [vpoly_here, vother] => fun R => (lstM (lnil)) (fun vfound => (itemsM (op1 revG (rt vpoly_here))) (fun ds => forC (fun vone (vs : D) nx bk => (opN s_law_sum (lcons (opN s_law_times (lcons (rt vs) (lcons (rt vother) (lnil)))) (lcons (opN s_law_trim (lcons (lstM (lcons (rt vone) (lnil))) (lnil))) (lnil)))) (fun vfound2 => nx vfound2)) (fun vs : D => (rt vs) R) ds (vfound : D)))
  | _ => fail
theorem len_s_law_led : ∀ {ds : List D} {R : D → Prop}, s_law_led ds R → ds.length = 2
  | [], _, h => h.elim
  | [_], _, h => h.elim
  | [_, _], _, _ => rfl
  | _ :: _ :: _ :: _, _, h => h.elim
def s_law_put_right : List D → M D
  | [vpot_here, vone, vother, vthird] => fun R => (tupM (lcons (opN s_law_given (lcons (rt vpot_here) (lcons (rt vone) (lnil)))) (lcons (opN s_law_given (lcons (rt vpot_here) (lcons (rt vother) (lnil)))) (lcons (opN s_law_given (lcons (rt vpot_here) (lcons (rt vthird) (lnil)))) (lcons (opN s_law_number (lcons (rt vpot_here) (lcons (rt (D.int 2)) (lnil)))) (lnil)))))) (unP 4 (l4 (fun vfirst vsecond vlast vnumber_here => (lcons (opN s_law_handed (lcons (rt vpot_here) (lcons (rt vnumber_here) (lnil)))) (lcons (opN (reprF ownT 2) (lcons (lstM (lcons (rt vfirst) (lcons (rt vsecond) (lcons (rt vlast) (lnil))))) (lnil))) (lnil))) (l2 (fun vpassed vstay => (opN s_put_in (lcons (rt vfirst) (lcons (rt vsecond) (lnil)))) (fun vfound => (orM (tst (op2 (neT ownE 3) (opN (reprF ownT 2) (lcons (rt vfound) (lnil))) (opN (reprF ownT 2) (lcons (opN s_law_ratios (lcons (opN s_law_led (lcons (rt vone) (lcons (rt vother) (lnil)))) (lnil))) (lnil))))) (tst (op2 (neT ownE 3) (opN (fun ds => s_put_in (arr [1, 0] ds)) (lcons (rt vsecond) (lcons (rt vfirst) (lnil)))) (rt vfound)))) (fun b => ite2 b ((rt (D.bl false)) R) ((tst (op2 (neT ownE 3) (opN s_worth (lcons (rt vfound) (lcons (rt vpassed) (lnil)))) (opN s_worth (lcons (rt vfirst) (lcons (opN s_worth (lcons (rt vsecond) (lcons (rt vpassed) (lnil)))) (lnil)))))) (fun b => ite2 b ((rt (D.bl false)) R) ((tst (op2 (neT ownE 3) (opN s_put_in (lcons (rt vfound) (lcons (rt vlast) (lnil)))) (opN s_put_in (lcons (rt vfirst) (lcons (opN s_put_in (lcons (rt vsecond) (lcons (rt vlast) (lnil)))) (lnil)))))) (fun b => ite2 b ((rt (D.bl false)) R) ((orM (tst (op2 (neT ownE 3) (opN s_put_in (lcons (opN s_plus (lcons (rt vfirst) (lcons (rt vlast) (lnil)))) (lcons (rt vsecond) (lnil)))) (opN s_plus (lcons (rt vfound) (lcons (opN s_put_in (lcons (rt vlast) (lcons (rt vsecond) (lnil)))) (lnil)))))) (tst (op2 (neT ownE 3) (opN s_put_in (lcons (opN s_times (lcons (rt vfirst) (lcons (rt vlast) (lnil)))) (lcons (rt vsecond) (lnil)))) (opN s_times (lcons (rt vfound) (lcons (opN s_put_in (lcons (rt vlast) (lcons (rt vsecond) (lnil)))) (lnil))))))) (fun b => ite2 b ((rt (D.bl false)) R) ((orM (tst (op2 (neT ownE 3) (opN s_derived (lcons (rt vfound) (lnil))) (opN s_times (lcons (opN s_put_in (lcons (opN s_derived (lcons (rt vfirst) (lnil))) (lcons (rt vsecond) (lnil)))) (lcons (opN s_derived (lcons (rt vsecond) (lnil))) (lnil)))))) (tst (op2 (neT ownE 3) (opN (reprF ownT 2) (lcons (lstM (lcons (rt vfirst) (lcons (rt vsecond) (lcons (rt vlast) (lnil))))) (lnil))) (rt vstay)))) (fun b => ite2 b ((rt (D.bl false)) R) ((orV (op2 (eqT ownE 3) (opN lenF (lcons (rt vone) (lnil))) (rt (D.int 0))) (orV (op2 (ltG) (opN lenF (lcons (rt vother) (lnil))) (rt (D.int 2))) (op2 (eqT ownE 3) (opN s_degree (lcons (rt vfound) (lnil))) (op2 (mulG never2) (op2 (subG never2) (opN lenF (lcons (rt vone) (lnil))) (rt (D.int 1))) (op2 (subG never2) (opN lenF (lcons (rt vother) (lnil))) (rt (D.int 1))))))) R))))))))))))))))
  | _ => fail
theorem len_s_law_put_right : ∀ {ds : List D} {R : D → Prop}, s_law_put_right ds R → ds.length = 4
  | [], _, h => h.elim
  | [_], _, h => h.elim
  | [_, _], _, h => h.elim
  | [_, _, _], _, h => h.elim
  | [_, _, _, _], _, _ => rfl
  | _ :: _ :: _ :: _ :: _ :: _, _, h => h.elim
def s_law_right_k13 : List D → M D
  | [vpot_here] => fun R => (lcons (opN s_law_standing (lcons (rt vpot_here) (lcons (rt (D.int 5)) (lnil)))) (lcons (opN s_law_standing (lcons (rt vpot_here) (lcons (rt (D.int 4)) (lnil)))) (lcons (opN s_law_poly (lcons (rt vpot_here) (lcons (rt (D.int 3)) (lnil)))) (lnil)))) (l3 (fun vone vother vthird => (opN s_law_pick (lcons (rt vpot_here) (lcons (lstM (lcons (lstM (lnil)) (lcons (lstM (lcons (tupM (lcons (rt (D.int 3)) (lcons (rt (D.int 1)) (lnil)))) (lnil))) (lcons (lstM (lcons (tupM (lcons (rt (D.int 0)) (lcons (rt (D.int 1)) (lnil)))) (lcons (tupM (lcons (rt (D.int 1)) (lcons (rt (D.int 1)) (lnil)))) (lnil)))) (lcons (lstM (lcons (tupM (lcons (rt (D.int 0)) (lcons (rt (D.int 1)) (lnil)))) (lcons (tupM (lcons (op1 (negG fun _ => fail) (rt (D.int 2))) (lcons (rt (D.int 1)) (lnil)))) (lnil)))) (lcons (lstM (lcons (tupM (lcons (rt (D.int 0)) (lcons (rt (D.int 1)) (lnil)))) (lcons (tupM (lcons (rt (D.int 0)) (lcons (rt (D.int 1)) (lnil)))) (lcons (tupM (lcons (rt (D.int 1)) (lcons (rt (D.int 1)) (lnil)))) (lnil))))) (lnil))))))) (lnil)))) (fun vflat => (orM (notM (truM (opN s_law_put_right (lcons (rt vpot_here) (lcons (rt vone) (lcons (rt vother) (lcons (rt vthird) (lnil)))))))) (orM (notM (truM (opN s_law_put_right (lcons (rt vpot_here) (lcons (rt vflat) (lcons (rt vone) (lcons (rt vthird) (lnil)))))))) (notM (truM (opN s_law_put_right (lcons (rt vpot_here) (lcons (rt vone) (lcons (rt vflat) (lcons (lstM (lnil)) (lnil)))))))))) (fun b => ite2 b ((rt (D.bl false)) R) ((opN s_law_given (lcons (rt vpot_here) (lcons (rt vone) (lnil)))) (fun vgiven_here => (orM (tst (op2 (neT ownE 3) (opN s_put_in (lcons (rt vgiven_here) (lcons (lstM (lcons (rt (D.int 0)) (lcons (rt (D.int 1)) (lnil)))) (lnil)))) (opN s_law_ratios (lcons (rt vone) (lnil))))) (orM (tst (op2 (neT ownE 3) (opN s_put_in (lcons (lstM (lcons (rt (D.int 0)) (lcons (rt (D.int 1)) (lcons (rt (D.int 0)) (lnil))))) (lcons (rt vgiven_here) (lnil)))) (opN s_law_ratios (lcons (rt vone) (lnil))))) (tst (op2 (neT ownE 3) (opN s_put_in (lcons (lstM (lnil)) (lcons (rt vgiven_here) (lnil)))) (lstM (lnil)))))) (fun b => ite2 b ((rt (D.bl false)) R) ((op2 (subG never2) (opN s_law_draw (lcons (rt vpot_here) (lcons (rt (D.int 7)) (lnil)))) (rt (D.int 3))) (fun vnumber_here => (opN s_worth (lcons (rt vgiven_here) (lcons (rt vnumber_here) (lnil)))) (fun vthere => (tst (op2 (neT ownE 3) (opN s_put_in (lcons (lstM (lcons (rt vnumber_here) (lnil))) (lcons (rt vgiven_here) (lnil)))) (iteM (tst (op2 (neT ownE 3) (rt vnumber_here) (rt (D.int 0)))) (lstM (lcons (opN (mkM 0 s_Ratio_init [D.int 1]) (lcons (rt vnumber_here) (lnil))) (lnil))) (lstM (lnil))))) (fun b => ite2 b ((rt (D.bl false)) R) ((op2 (eqT ownE 3) (opN s_put_in (lcons (rt vgiven_here) (lcons (lstM (lcons (rt vnumber_here) (lnil))) (lnil)))) (iteM (tst (op2 (neT ownE 3) (rt vthere) (opN (mkM 0 s_Ratio_init [D.int 1]) (lcons (rt (D.int 0)) (lnil))))) (lstM (lcons (rt vthere) (lnil))) (lstM (lnil)))) R))))))))))))
  | _ => fail
theorem len_s_law_right_k13 : ∀ {ds : List D} {R : D → Prop}, s_law_right_k13 ds R → ds.length = 1
  | [], _, h => h.elim
  | [_], _, _ => rfl
  | _ :: _ :: _, _, h => h.elim
end Sl
set_option Elab.async false
set_option linter.all false
set_option maxRecDepth 100000
set_option maxHeartbeats 4000000
set_option exponentiation.threshold 20000
namespace K13
open PySem L2 Inn Uv Sl
def top (i : Nat) : Stmt := PySem.Challenge.pw_innerfractions_k13_whole_polynomials_put.main.body.getD i (.Pass ⟨0, 0, 0, 0⟩)
abbrev cm (i j : Nat) : Stmt := inClass (top i) j
def rc (K : PySem.W.Frag) : Addr := He.ga K "Ratio"
def ct (K : PySem.W.Frag) : Ct := ⟨fun c => match c with | 0 => rc K | _ => 0, fun c => match c with | 0 => ["_top", "_bottom"] | _ => [], 1⟩
structure Txt (K : PySem.W.Frag) (mg : Str → Option Value) : Prop where
  C : AllC K (ct K)
  inj : ∀ c c', c < (ct K).n → c' < (ct K).n → (ct K).at_ c = (ct K).at_ c' → c = c'
  sub2 : ∀ c c', c < (ct K).n → c' < (ct K).n → c ≠ c' → PySem.W.subIn K (.ref ((ct K).at_ c')) (.ref ((ct K).at_ c)) = some false
  mg_Ratio : mg "Ratio" = some (.ref ((ct K).at_ 0))
  len : mg "len" = none
  abs : mg "abs" = none
  max : mg "max" = none
  min : mg "min" = none
  sum : mg "sum" = none
  all : mg "all" = none
  any : mg "any" = none
  divmod : mg "divmod" = none
  repr : mg "repr" = none
  range : mg "range" = none
  enumerate : mg "enumerate" = none
  zip : mg "zip" = none
  isinstance : mg "isinstance" = none
  int_ : mg "int" = none
  bool_ : mg "bool" = none
  str_ : mg "str" = none
  list_ : mg "list" = none
  tuple_ : mg "tuple" = none
  dict_ : mg "dict" = none
  gcd : mg "gcd" = some (.builtin "math.gcd")
  lcm : mg "lcm" = some (.builtin "math.lcm")
  c_MOST_NUMBERS : ∃ t, mg "MOST_NUMBERS" = some (.int 25 t)
  c_MOST_DEGREE : ∃ t, mg "MOST_DEGREE" = some (.int 24 t)
theorem Txt.E0 {P : Program} {w : World} {K : PySem.W.Frag} {mg : Str → Option Value} {base : Heap} (Tx : Txt K mg) : EqsB (ct K) P w K mg base 0 noE := ⟨fun _ _ => .inl fun _ _ h => h, same_noE, Tx.inj, Tx.sub2⟩
section
variable {P : Program} {w : World} {K : PySem.W.Frag} {mg : Str → Option Value} {base : Heap} {f : Addr} {fd : FuncData}
theorem ok_is_integer (F : FunD K "is_integer" "is_integer" (defArgs (top 18)) (defBody (top 18)) (defScope (top 18)) [] [] f fd) (Tx : Txt K mg)  : FnOk P w K mg base CX0 1 f fd ["value"] (SpD (ct K) false 1 s_is_integer) := by
  have sc : FnScope ["value"] ["value"] (defScope (top 18)) := ⟨rfl, rfl, rfl, by decide +kernel, rfl, by decide +kernel, by decide +kernel⟩
  refine fn_D F sc rfl fun cdv A' outer s0 H E W vs ds R Q hr n hm hq => ?_
  obtain ⟨vvalue, rfl⟩ : ∃ vvalue, ds = [vvalue] := len1 (len_s_is_integer hm)
  have n := n.as (ρ' := [some vvalue]) rfl
  unfold s_is_integer at hm
  have hq := fun y u H' a b c d => hq y u H' a b c d fun h => nomatch h
  exact w_retW n (dw_and (dw_isi Tx.C (sv 0 n.see) (ty_b .int Tx.int_ hv_int (fun _ h => nomatch h)) Tx.isinstance) (dw_one (dw_not (dw_isi Tx.C (sv 0 n.see) (ty_b .bool Tx.bool_ hv_bool (fun _ h => nomatch h)) Tx.isinstance)))) hm hq rfl
theorem ok_Ratio_init (F : FunD K "__init__" "Ratio.__init__" (defArgs (cm 20 0)) (defBody (cm 20 0)) (defScope (cm 20 0)) [.int 1] [] f fd) (Tx : Txt K mg) (D_is_integer : DefD (ct K) P w K mg base 1 "is_integer" false 1 s_is_integer) : FnOk P w K mg base CX0 4 f fd ["self", "top", "bottom"] (SpI (ct K) 0 2 s_Ratio_init) := by
  have sc : FnScope ["self", "top", "bottom", "shared"] ["self", "top", "bottom"] (defScope (cm 20 0)) := ⟨rfl, rfl, rfl, by decide +kernel, rfl, by decide +kernel, by decide +kernel⟩
  refine fn_I (n := 2) F sc rfl (by decide) fun cdv A' outer s0 H1 H E W p dx us ds R Q hr h0 n b hm hq => ?_
  obtain ⟨vtop, vbottom, rfl⟩ : ∃ vtop vbottom, ds = [vtop, vbottom] := len2 (len_s_Ratio_init hm)
  unfold s_Ratio_init at hm
  have n := (n.self0 0 h0).as (ρ' := [some (D.cls (.ref p)), some vtop, some vbottom, none]) rfl
  refine w_if n.base (tw_not (tw_tru (dw_call D_is_integer (hr.mono (by decide)) (l_cons (sv 1 n.see) l_nil)))) hm (fun _ n hm => hm.elim) (fun _ n1 hm => w_nil ?_)
  show Wss _ _ _ _ _
  have b := b.up n1
  have n := n.join n1
  refine w_if n.base (tw_w (ww_or (tw_not (tw_tru (dw_call D_is_integer (hr.mono (by decide)) (l_cons (sv 2 n.see) l_nil)))) (ww_or1 (tw_cmp (op_eqT Tx.E0 1 (hr.mono (by decide))) (sv 2 n.see) d_int)))) hm (fun _ n hm => hm.elim) (fun _ n1 hm => w_nil ?_)
  show Wss _ _ _ _ _
  have b := b.up n1
  have n := n.join n1
  refine w_set 3 n.base (dw_if (tw_cmp op_gtG (sv 2 n.see) d_int) (dw_Fn b_gcd Tx.gcd (l_cons (sv 1 n.see) (l_cons (sv 2 n.see) l_nil))) (dw_un (op_negG op1_never) (dw_Fn b_gcd Tx.gcd (l_cons (sv 1 n.see) (l_cons (sv 2 n.see) l_nil))))) hm sc.nd (fun vshared _ _ n1 hm => ?_)
  have b := b.up n1
  have n := (n.join n1).as (ρ' := [some (D.cls (.ref p)), some vtop, some vbottom, some vshared]) rfl
  refine w_fld n b (by show 0 < 1; decide) Tx.C n.ref0 rfl (dw_bin op_fdivG (sv 1 n.see) (sv 3 n.see)) hm (fun v_top _ _ n b hm => ?_)
  refine w_fld n b (by show 0 < 1; decide) Tx.C n.ref0 rfl (dw_bin op_fdivG (sv 2 n.see) (sv 3 n.see)) hm (fun v_bottom _ _ n b hm => ?_)
  exact w_nil (hq _ _ _ rfl hm n.up n.inv b)
theorem ok_is_number (F : FunD K "is_number" "is_number" (defArgs (top 21)) (defBody (top 21)) (defScope (top 21)) [] [] f fd) (Tx : Txt K mg) (D_is_integer : DefD (ct K) P w K mg base 1 "is_integer" false 1 s_is_integer) : FnOk P w K mg base CX0 2 f fd ["value"] (SpD (ct K) false 1 s_is_number) := by
  have sc : FnScope ["value"] ["value"] (defScope (top 21)) := ⟨rfl, rfl, rfl, by decide +kernel, rfl, by decide +kernel, by decide +kernel⟩
  refine fn_D F sc rfl fun cdv A' outer s0 H E W vs ds R Q hr n hm hq => ?_
  obtain ⟨vvalue, rfl⟩ : ∃ vvalue, ds = [vvalue] := len1 (len_s_is_number hm)
  have n := n.as (ρ' := [some vvalue]) rfl
  unfold s_is_number at hm
  have hq := fun y u H' a b c d => hq y u H' a b c d fun h => nomatch h
  exact w_retW n (dw_or (dw_isi Tx.C (sv 0 n.see) (ty_c 0 (by show 0 < 1; decide) Tx.mg_Ratio) Tx.isinstance) (dw_one (dw_call D_is_integer (hr.mono (by decide)) (l_cons (sv 0 n.see) l_nil)))) hm hq rfl
theorem ok_is_poly (F : FunD K "is_poly" "is_poly" (defArgs (top 29)) (defBody (top 29)) (defScope (top 29)) [] [] f fd) (Tx : Txt K mg) (D_is_number : DefD (ct K) P w K mg base 2 "is_number" false 1 s_is_number) : FnOk P w K mg base CX0 3 f fd ["value"] (SpD (ct K) false 1 s_is_poly) := by
  have sc : FnScope ["value", "number"] ["value"] (defScope (top 29)) := ⟨rfl, rfl, rfl, by decide +kernel, rfl, by decide +kernel, by decide +kernel⟩
  obtain ⟨_, h_MOST_NUMBERS⟩ := Tx.c_MOST_NUMBERS
  refine fn_D F sc rfl fun cdv A' outer s0 H E W vs ds R Q hr n hm hq => ?_
  obtain ⟨vvalue, rfl⟩ : ∃ vvalue, ds = [vvalue] := len1 (len_s_is_poly hm)
  have n := n.as (ρ' := [some vvalue, none]) rfl
  unfold s_is_poly at hm
  have hq := fun y u H' a b c d => hq y u H' a b c d fun h => nomatch h
  refine w_if n (tw_w (ww_or (tw_not (tw_tru (dw_isi2 Tx.C (sv 0 n.see) (ty_b .list Tx.list_ hv_list (fun _ h => nomatch h)) (ty_b .tuple Tx.tuple_ hv_tuple (fun _ h => nomatch h)) Tx.isinstance))) (ww_or1 (tw_cmp op_gtG (dw_B b_len Tx.len hv_len (l_cons (sv 0 n.see) l_nil)) (d_gint h_MOST_NUMBERS))))) hm (fun _ n hm => ?_) (fun _ n hm => ?_)
  · exact w_retW n d_bl hm hq rfl
  · refine w_nil ?_
    show Wss _ _ _ _ _
    exact w_retW n (dw_B (b_all rfl) Tx.all hv_all (l_cons (dc_1 1 (iw_val (sv 0 n.see)) n.see (fun _ _ _ _ _ _ _ _ vnumber S2 => have S2 := S2.as (ρ' := [some vvalue, some vnumber]) rfl; (dw_call D_is_number (hr.mono (by decide)) (l_cons (sv 1 S2) l_nil))) rfl sc.nd (blkOk_by (show blkC ["value", "number"] (defScope (top 29)) _ _ = true by decide +kernel)) (fun _ _ _ _ _ => pg_name (i := 1) sc.nd rfl (by first | exact Or.inl rfl | exact Or.inr rfl))).dw l_nil)) hm hq rfl
theorem ok_need_poly (F : FunD K "need_poly" "need_poly" (defArgs (top 30)) (defBody (top 30)) (defScope (top 30)) [] [] f fd) (Tx : Txt K mg) (D_is_poly : DefD (ct K) P w K mg base 3 "is_poly" false 1 s_is_poly) : FnOk P w K mg base CX0 4 f fd ["value"] (SpD (ct K) false 1 s_need_poly) := by
  have sc : FnScope ["value"] ["value"] (defScope (top 30)) := ⟨rfl, rfl, rfl, by decide +kernel, rfl, by decide +kernel, by decide +kernel⟩
  refine fn_D F sc rfl fun cdv A' outer s0 H E W vs ds R Q hr n hm hq => ?_
  obtain ⟨vvalue, rfl⟩ : ∃ vvalue, ds = [vvalue] := len1 (len_s_need_poly hm)
  have n := n.as (ρ' := [some vvalue]) rfl
  unfold s_need_poly at hm
  have hq := fun y u H' a b c d => hq y u H' a b c d fun h => nomatch h
  refine w_if n (tw_not (tw_tru (dw_call D_is_poly (hr.mono (by decide)) (l_cons (sv 0 n.see) l_nil)))) hm (fun _ n hm => ?_) (fun _ n hm => ?_)
  · exact hm.elim
  · refine w_nil ?_
    show Wss _ _ _ _ _
    exact w_nil (hq D.non .non _ hm n.up n.inv .non)
theorem ok_need_number (F : FunD K "need_number" "need_number" (defArgs (top 22)) (defBody (top 22)) (defScope (top 22)) [] [] f fd) (Tx : Txt K mg) (D_is_number : DefD (ct K) P w K mg base 2 "is_number" false 1 s_is_number) : FnOk P w K mg base CX0 3 f fd ["value"] (SpD (ct K) false 1 s_need_number) := by
  have sc : FnScope ["value"] ["value"] (defScope (top 22)) := ⟨rfl, rfl, rfl, by decide +kernel, rfl, by decide +kernel, by decide +kernel⟩
  refine fn_D F sc rfl fun cdv A' outer s0 H E W vs ds R Q hr n hm hq => ?_
  obtain ⟨vvalue, rfl⟩ : ∃ vvalue, ds = [vvalue] := len1 (len_s_need_number hm)
  have n := n.as (ρ' := [some vvalue]) rfl
  unfold s_need_number at hm
  have hq := fun y u H' a b c d => hq y u H' a b c d fun h => nomatch h
  refine w_if n (tw_not (tw_tru (dw_call D_is_number (hr.mono (by decide)) (l_cons (sv 0 n.see) l_nil)))) hm (fun _ n hm => ?_) (fun _ n hm => ?_)
  · exact hm.elim
  · refine w_nil ?_
    show Wss _ _ _ _ _
    exact w_nil (hq D.non .non _ hm n.up n.inv .non)
theorem ok_pair_of (F : FunD K "pair_of" "pair_of" (defArgs (top 23)) (defBody (top 23)) (defScope (top 23)) [] [] f fd) (Tx : Txt K mg) (D_need_number : DefD (ct K) P w K mg base 3 "need_number" false 1 s_need_number) : FnOk P w K mg base CX0 4 f fd ["number"] (SpD (ct K) false 1 s_pair_of) := by
  have sc : FnScope ["number"] ["number"] (defScope (top 23)) := ⟨rfl, rfl, rfl, by decide +kernel, rfl, by decide +kernel, by decide +kernel⟩
  refine fn_D F sc rfl fun cdv A' outer s0 H E W vs ds R Q hr n hm hq => ?_
  obtain ⟨vnumber, rfl⟩ : ∃ vnumber, ds = [vnumber] := len1 (len_s_pair_of hm)
  have n := n.as (ρ' := [some vnumber]) rfl
  unfold s_pair_of at hm
  have hq := fun y u H' a b c d => hq y u H' a b c d fun h => nomatch h
  refine w_if n (tw_tru (dw_isi Tx.C (sv 0 n.see) (ty_c 0 (by show 0 < 1; decide) Tx.mg_Ratio) Tx.isinstance)) hm (fun _ n hm => ?_) (fun _ n hm => ?_)
  · exact w_retW n (dw_tup (l_cons (dw_fld 0 0 (by show 0 < 1; decide) Tx.C rfl (sv 0 n.see)) (l_cons (dw_fld 0 1 (by show 0 < 1; decide) Tx.C rfl (sv 0 n.see)) l_nil))) hm hq rfl
  · refine w_nil ?_
    show Wss _ _ _ _ _
    refine w_expr n (dw_call D_need_number (hr.mono (by decide)) (l_cons (sv 0 n.see) l_nil)) hm (fun _ _ n hm => ?_)
    exact w_retW n (dw_tup (l_cons (sv 0 n.see) (l_cons d_int l_nil))) hm hq rfl
theorem ok_cleared (F : FunD K "cleared" "cleared" (defArgs (top 24)) (defBody (top 24)) (defScope (top 24)) [] [] f fd) (Tx : Txt K mg) (D_pair_of : DefD (ct K) P w K mg base 4 "pair_of" false 1 s_pair_of) : FnOk P w K mg base CX0 5 f fd ["numbers"] (SpD (ct K) false 1 s_cleared) := by
  have sc : FnScope ["numbers", "pairs", "below", "_", "bottom", "number", "top"] ["numbers"] (defScope (top 24)) := ⟨rfl, rfl, rfl, by decide +kernel, rfl, by decide +kernel, by decide +kernel⟩
  refine fn_D F sc rfl fun cdv A' outer s0 H E W vs ds R Q hr n hm hq => ?_
  obtain ⟨vnumbers, rfl⟩ : ∃ vnumbers, ds = [vnumbers] := len1 (len_s_cleared hm)
  have n := n.as (ρ' := [some vnumbers, none, none, none, none, none, none]) rfl
  unfold s_cleared at hm
  have hq := fun y u H' a b c d => hq y u H' a b c d fun h => nomatch h
  refine w_setC 1 n (dc_1 5 (iw_val (sv 0 n.see)) n.see (fun _ _ _ _ _ _ _ _ vnumber S2 => have S2 := S2.as (ρ' := [some vnumbers, none, none, none, none, some vnumber, none]) rfl; (dw_call D_pair_of (hr.mono (by decide)) (l_cons (sv 5 S2) l_nil))) rfl sc.nd (blkOk_by (show blkC ["numbers", "pairs", "below", "_", "bottom", "number", "top"] (defScope (top 24)) _ _ = true by decide +kernel)) (fun _ _ _ _ _ => pg_name (i := 5) sc.nd rfl (by first | exact Or.inl rfl | exact Or.inr rfl))) hm (fun vpairs _ _ n1 hm => ?_)
  have n := n1.as (ρ' := [some vnumbers, some vpairs, none, none, none, none, none]) rfl
  refine w_set 2 n (d_int) hm sc.nd (fun vbelow _ _ n1 hm => ?_)
  have n := n1.as (ρ' := [some vnumbers, some vpairs, some vbelow, none, none, none, none]) rfl
  refine w_for2 3 4 (fun vs : D => [some vnumbers, some vpairs, some vs, none, none, none, none]) (vbelow : D) n (iw_val (sv 1 n.see)) hm sc.nd PassesOwn.never rfl (fun _ n => n.cut (.same (.same (.same (.none (.none (.none (.none .nil)))))))) (fun _ vnO v_ vbottom vs nx bk Nx Bk _ _ n h1 h2 hm => ?_) (fun vs _ _ n hm => ?_)
  · have n := n.as (ρ' := [some vnumbers, some vpairs, some vs, some v_, some vbottom, none, none]) rfl
    refine w_set 2 n (dw_Fn b_lcm Tx.lcm (l_cons (sv 2 n.see) (l_cons (sv 4 n.see) l_nil))) hm sc.nd (fun vbelow2 _ _ n1 hm => ?_)
    have n := n1.as (ρ' := [some vnumbers, some vpairs, some vbelow2, some v_, some vbottom, none, none]) rfl
    exact w_nil (h1 vbelow2 _ _ (n.cut (.same (.same (.same (.none (.none (.none (.none .nil)))))))) hm)
  · have n := n.as (ρ' := [some vnumbers, some vpairs, some vs, none, none, none, none]) rfl
    exact w_retW n (dw_tup (l_cons (dc_2 6 4 (iw_val (sv 1 n.see)) n.see (by decide) (fun _ _ _ _ _ _ _ _ vtop vbottom2 S2 => have S2 := S2.as (ρ' := [some vnumbers, some vpairs, some vs, none, some vbottom2, none, some vtop]) rfl; (dw_bin (op_mulG op_never) (sv 6 S2) (dw_bin op_fdivG (sv 2 S2) (sv 4 S2)))) rfl sc.nd (blkOk_by (show blkC ["numbers", "pairs", "below", "_", "bottom", "number", "top"] (defScope (top 24)) _ _ = true by decide +kernel)) (fun _ _ _ _ _ => pg_tup rfl (pgs_cons (pg_name (i := 6) sc.nd rfl (Or.inl rfl)) (pgs_cons (pg_name (i := 4) sc.nd rfl (Or.inl rfl)) pgs_nil rfl) rfl) rfl rfl)).dw (l_cons (sv 2 n.see) l_nil))) hm hq rfl
theorem ok_trimmed (F : FunD K "trimmed" "trimmed" (defArgs (top 4)) (defBody (top 4)) (defScope (top 4)) [] [] f fd) (Tx : Txt K mg)  : FnOk P w K mg base CX0 4 f fd ["numbers"] (SpD (ct K) false 1 s_trimmed) := by
  have sc : FnScope ["numbers", "many"] ["numbers"] (defScope (top 4)) := ⟨rfl, rfl, rfl, by decide +kernel, rfl, by decide +kernel, by decide +kernel⟩
  refine fn_D F sc rfl fun cdv A' outer s0 H E W vs ds R Q hr n hm hq => ?_
  obtain ⟨vnumbers, rfl⟩ : ∃ vnumbers, ds = [vnumbers] := len1 (len_s_trimmed hm)
  have n := n.as (ρ' := [some vnumbers, none]) rfl
  unfold s_trimmed at hm
  have hq := fun y u H' a b c d => hq y u H' a b c d fun h => nomatch h
  refine w_set 1 n (dw_B b_len Tx.len hv_len (l_cons (sv 0 n.see) l_nil)) hm sc.nd (fun vmany _ _ n1 hm => ?_)
  have n := n1.as (ρ' := [some vnumbers, some vmany]) rfl
  refine w_while (fun vs : D => [some vnumbers, some vs]) (vmany : D) n hm PassesOwn.never (n.cut (.same (.same .nil))) (fun vs _ _ n => ?_) (fun vs nx bk Nx Bk _ _ n h1 h2 hm => ?_) (fun vs _ _ n hm => ?_)
  · have n := n.as (ρ' := [some vnumbers, some vs]) rfl
    exact (tw_w (ww_and (tw_cmp op_gtG (sv 1 n.see) d_int) (ww_and1 (tw_cmp (op_eqT Tx.E0 1 (hr.mono (by decide))) (dw_ix (sv 0 n.see) (dw_bin (op_subG op_never) (sv 1 n.see) d_int)) d_int))))
  · have n := n.as (ρ' := [some vnumbers, some vs]) rfl
    refine w_set 1 n (dw_bin (op_subG op_never) (sv 1 n.see) d_int) hm sc.nd (fun vmany2 _ _ n1 hm => ?_)
    have n := n1.as (ρ' := [some vnumbers, some vmany2]) rfl
    exact w_nil (h1 vmany2 _ _ (n.cut (.same (.same .nil))) hm)
  · have n := n.as (ρ' := [some vnumbers, some vs]) rfl
    exact w_retW n (dw_Ty b_list Tx.list_ hv_list (l_cons (dw_slice (sv 0 n.see) p_none (p_some (sv 1 n.see))) l_nil)) hm hq rfl
theorem ok_cleared_poly (F : FunD K "cleared_poly" "cleared_poly" (defArgs (top 32)) (defBody (top 32)) (defScope (top 32)) [] [] f fd) (Tx : Txt K mg) (D_cleared : DefD (ct K) P w K mg base 5 "cleared" false 1 s_cleared) (D_trimmed : DefD (ct K) P w K mg base 4 "trimmed" false 1 s_trimmed) : FnOk P w K mg base CX0 6 f fd ["poly"] (SpD (ct K) false 1 s_cleared_poly) := by
  have sc : FnScope ["poly", "integers", "below"] ["poly"] (defScope (top 32)) := ⟨rfl, rfl, rfl, by decide +kernel, rfl, by decide +kernel, by decide +kernel⟩
  refine fn_D F sc rfl fun cdv A' outer s0 H E W vs ds R Q hr n hm hq => ?_
  obtain ⟨vpoly, rfl⟩ : ∃ vpoly, ds = [vpoly] := len1 (len_s_cleared_poly hm)
  have n := n.as (ρ' := [some vpoly, none, none]) rfl
  unfold s_cleared_poly at hm
  have hq := fun y u H' a b c d => hq y u H' a b c d fun h => nomatch h
  refine w_unp n (.cons (i := 1) rfl (by first | exact Or.inl rfl | exact Or.inr rfl) (by first | exact .inl rfl | exact .inr rfl) rfl (.cons (i := 2) rfl (by first | exact Or.inl rfl | exact Or.inr rfl) (by first | exact .inl rfl | exact .inr rfl) rfl .nil)) (dw_call D_cleared (hr.mono (by decide)) (l_cons (sv 0 n.see) l_nil)) hm sc.nd rfl (fun ds _ _ hl n1 hm => ?_)
  obtain ⟨vintegers, vbelow, rfl⟩ := len2 hl
  dsimp only [l2] at hm
  have n := n1.as (ρ' := [some vpoly, some vintegers, some vbelow]) rfl
  exact w_retW n (dw_tup (l_cons (dw_call D_trimmed (hr.mono (by decide)) (l_cons (sv 1 n.see) l_nil)) (l_cons (sv 2 n.see) l_nil))) hm hq rfl
theorem ok_worth (F : FunD K "worth" "worth" (defArgs (top 39)) (defBody (top 39)) (defScope (top 39)) [] [] f fd) (Tx : Txt K mg) (D_cleared_poly : DefD (ct K) P w K mg base 6 "cleared_poly" false 1 s_cleared_poly) (D_need_poly : DefD (ct K) P w K mg base 4 "need_poly" false 1 s_need_poly) (D_pair_of : DefD (ct K) P w K mg base 4 "pair_of" false 1 s_pair_of) (M_Ratio2 : MkD (ct K) P w K mg base 4 0 "Ratio" 2 s_Ratio_init []) : FnOk P w K mg base CX0 7 f fd ["poly", "number"] (SpD (ct K) false 2 s_worth) := by
  have sc : FnScope ["poly", "number", "top", "bottom", "integers", "below", "total", "power", "part"] ["poly", "number"] (defScope (top 39)) := ⟨rfl, rfl, rfl, by decide +kernel, rfl, by decide +kernel, by decide +kernel⟩
  refine fn_D F sc rfl fun cdv A' outer s0 H E W vs ds R Q hr n hm hq => ?_
  obtain ⟨vpoly, vnumber, rfl⟩ : ∃ vpoly vnumber, ds = [vpoly, vnumber] := len2 (len_s_worth hm)
  have n := n.as (ρ' := [some vpoly, some vnumber, none, none, none, none, none, none, none]) rfl
  unfold s_worth at hm
  have hq := fun y u H' a b c d => hq y u H' a b c d fun h => nomatch h
  refine w_expr n (dw_call D_need_poly (hr.mono (by decide)) (l_cons (sv 0 n.see) l_nil)) hm (fun _ _ n hm => ?_)
  refine w_unp n (.cons (i := 2) rfl (by first | exact Or.inl rfl | exact Or.inr rfl) (by first | exact .inl rfl | exact .inr rfl) rfl (.cons (i := 3) rfl (by first | exact Or.inl rfl | exact Or.inr rfl) (by first | exact .inl rfl | exact .inr rfl) rfl .nil)) (dw_call D_pair_of (hr.mono (by decide)) (l_cons (sv 1 n.see) l_nil)) hm sc.nd rfl (fun ds _ _ hl n1 hm => ?_)
  obtain ⟨vtop, vbottom, rfl⟩ := len2 hl
  dsimp only [l2] at hm
  have n := n1.as (ρ' := [some vpoly, some vnumber, some vtop, some vbottom, none, none, none, none, none]) rfl
  refine w_unp n (.cons (i := 4) rfl (by first | exact Or.inl rfl | exact Or.inr rfl) (by first | exact .inl rfl | exact .inr rfl) rfl (.cons (i := 5) rfl (by first | exact Or.inl rfl | exact Or.inr rfl) (by first | exact .inl rfl | exact .inr rfl) rfl .nil)) (dw_call D_cleared_poly (hr.mono (by decide)) (l_cons (sv 0 n.see) l_nil)) hm sc.nd rfl (fun ds _ _ hl n1 hm => ?_)
  obtain ⟨vintegers, vbelow, rfl⟩ := len2 hl
  dsimp only [l2] at hm
  have n := n1.as (ρ' := [some vpoly, some vnumber, some vtop, some vbottom, some vintegers, some vbelow, none, none, none]) rfl
  refine w_unp n (.cons (i := 6) rfl (by first | exact Or.inl rfl | exact Or.inr rfl) (by first | exact .inl rfl | exact .inr rfl) rfl (.cons (i := 7) rfl (by first | exact Or.inl rfl | exact Or.inr rfl) (by first | exact .inl rfl | exact .inr rfl) rfl .nil)) (dw_tup (l_cons d_int (l_cons d_int l_nil))) hm sc.nd rfl (fun ds _ _ hl n1 hm => ?_)
  obtain ⟨vtotal, vpower, rfl⟩ := len2 hl
  dsimp only [l2] at hm
  have n := n1.as (ρ' := [some vpoly, some vnumber, some vtop, some vbottom, some vintegers, some vbelow, some vtotal, some vpower, none]) rfl
  refine w_for1 8 (fun vs : D × D => [some vpoly, some vnumber, some vtop, some vbottom, some vintegers, some vbelow, some vs.1, some vs.2, none]) ((vtotal, vpower) : D × D) n (iw_val (dw_rev (sv 4 n.see))) hm sc.nd PassesOwn.never rfl (fun _ n => n.cut (.same (.same (.same (.same (.same (.same (.same (.same (.none .nil)))))))))) (fun _ vnO vpart vs nx bk Nx Bk _ _ n h1 h2 hm => ?_) (fun vs _ _ n hm => ?_)
  · have n := n.as (ρ' := [some vpoly, some vnumber, some vtop, some vbottom, some vintegers, some vbelow, some vs.1, some vs.2, some vpart]) rfl
    refine w_set 6 n (dw_bin (op_addG op_never) (dw_bin (op_mulG op_never) (sv 6 n.see) (sv 2 n.see)) (dw_bin (op_mulG op_never) (sv 8 n.see) (sv 7 n.see))) hm sc.nd (fun vtotal2 _ _ n1 hm => ?_)
    have n := n1.as (ρ' := [some vpoly, some vnumber, some vtop, some vbottom, some vintegers, some vbelow, some vtotal2, some vs.2, some vpart]) rfl
    refine w_set 7 n (dw_bin (op_mulG op_never) (sv 7 n.see) (sv 3 n.see)) hm sc.nd (fun vpower2 _ _ n1 hm => ?_)
    have n := n1.as (ρ' := [some vpoly, some vnumber, some vtop, some vbottom, some vintegers, some vbelow, some vtotal2, some vpower2, some vpart]) rfl
    exact w_nil (h1 (vtotal2, vpower2) _ _ (n.cut (.same (.same (.same (.same (.same (.same (.same (.same (.none .nil)))))))))) hm)
  · have n := n.as (ρ' := [some vpoly, some vnumber, some vtop, some vbottom, some vintegers, some vbelow, some vs.1, some vs.2, none]) rfl
    exact w_retW n (dw_make M_Ratio2 (hr.mono (by decide)) (l_cons (dw_bin (op_mulG op_never) (sv 6 n.see) (sv 3 n.see)) (l_cons (dw_bin (op_mulG op_never) (sv 5 n.see) (sv 7 n.see)) l_nil))) hm hq rfl
theorem ok_need_polys (F : FunD K "need_polys" "need_polys" (defArgs (top 31)) (defBody (top 31)) (defScope (top 31)) [] [] f fd) (Tx : Txt K mg) (D_need_poly : DefD (ct K) P w K mg base 4 "need_poly" false 1 s_need_poly) : FnOk P w K mg base CX0 5 f fd ["poly", "other"] (SpD (ct K) false 2 s_need_polys) := by
  have sc : FnScope ["poly", "other"] ["poly", "other"] (defScope (top 31)) := ⟨rfl, rfl, rfl, by decide +kernel, rfl, by decide +kernel, by decide +kernel⟩
  refine fn_D F sc rfl fun cdv A' outer s0 H E W vs ds R Q hr n hm hq => ?_
  obtain ⟨vpoly, vother, rfl⟩ : ∃ vpoly vother, ds = [vpoly, vother] := len2 (len_s_need_polys hm)
  have n := n.as (ρ' := [some vpoly, some vother]) rfl
  unfold s_need_polys at hm
  have hq := fun y u H' a b c d => hq y u H' a b c d fun h => nomatch h
  refine w_expr n (dw_call D_need_poly (hr.mono (by decide)) (l_cons (sv 0 n.see) l_nil)) hm (fun _ _ n hm => ?_)
  refine w_expr n (dw_call D_need_poly (hr.mono (by decide)) (l_cons (sv 1 n.see) l_nil)) hm (fun _ _ n hm => ?_)
  exact w_nil (hq D.non .non _ hm n.up n.inv .non)
theorem ok_ratios_over (F : FunD K "ratios_over" "ratios_over" (defArgs (top 25)) (defBody (top 25)) (defScope (top 25)) [] [] f fd) (Tx : Txt K mg) (M_Ratio2 : MkD (ct K) P w K mg base 4 0 "Ratio" 2 s_Ratio_init []) : FnOk P w K mg base CX0 6 f fd ["integers", "below"] (SpD (ct K) true 2 s_ratios_over) := by
  have sc : FnScope ["integers", "below", "number"] ["integers", "below"] (defScope (top 25)) := ⟨rfl, rfl, rfl, by decide +kernel, rfl, by decide +kernel, by decide +kernel⟩
  refine fn_D F sc rfl fun cdv A' outer s0 H E W vs ds R Q hr n hm hq => ?_
  obtain ⟨vintegers, vbelow, rfl⟩ : ∃ vintegers vbelow, ds = [vintegers, vbelow] := len2 (len_s_ratios_over hm)
  have n := n.as (ρ' := [some vintegers, some vbelow, none]) rfl
  unfold s_ratios_over at hm
  exact w_retF n (fd_1 2 (iw_val (sv 0 n.see)) n.see (fun _ _ _ _ _ _ _ _ vnumber S2 => have S2 := S2.as (ρ' := [some vintegers, some vbelow, some vnumber]) rfl; (fd_make M_Ratio2 (hr.mono (by decide)) (l_cons (sv 2 S2) (l_cons (sv 1 S2) l_nil)))) rfl sc.nd (blkOk_by (show blkC ["integers", "below", "number"] (defScope (top 25)) _ _ = true by decide +kernel)) (fun _ _ _ _ _ => pg_name (i := 2) sc.nd rfl (by first | exact Or.inl rfl | exact Or.inr rfl))) hm hq rfl
theorem ok_summed (F : FunD K "summed" "summed" (defArgs (top 6)) (defBody (top 6)) (defScope (top 6)) [] [] f fd) (Tx : Txt K mg) (D_trimmed : DefD (ct K) P w K mg base 4 "trimmed" false 1 s_trimmed) : FnOk P w K mg base CX0 5 f fd ["first", "second"] (SpD (ct K) false 2 s_summed) := by
  have sc : FnScope ["first", "second", "short", "long", "one", "other"] ["first", "second"] (defScope (top 6)) := ⟨rfl, rfl, rfl, by decide +kernel, rfl, by decide +kernel, by decide +kernel⟩
  refine fn_D F sc rfl fun cdv A' outer s0 H E W vs ds R Q hr n hm hq => ?_
  obtain ⟨vfirst, vsecond, rfl⟩ : ∃ vfirst vsecond, ds = [vfirst, vsecond] := len2 (len_s_summed hm)
  have n := n.as (ρ' := [some vfirst, some vsecond, none, none, none, none]) rfl
  unfold s_summed at hm
  have hq := fun y u H' a b c d => hq y u H' a b c d fun h => nomatch h
  refine w_unp n (.cons (i := 2) rfl (by first | exact Or.inl rfl | exact Or.inr rfl) (by first | exact .inl rfl | exact .inr rfl) rfl (.cons (i := 3) rfl (by first | exact Or.inl rfl | exact Or.inr rfl) (by first | exact .inl rfl | exact .inr rfl) rfl .nil)) (dw_if (tw_cmp op_leG (dw_B b_len Tx.len hv_len (l_cons (sv 0 n.see) l_nil)) (dw_B b_len Tx.len hv_len (l_cons (sv 1 n.see) l_nil))) (dw_tup (l_cons (sv 0 n.see) (l_cons (sv 1 n.see) l_nil))) (dw_tup (l_cons (sv 1 n.see) (l_cons (sv 0 n.see) l_nil)))) hm sc.nd rfl (fun ds _ _ hl n1 hm => ?_)
  obtain ⟨vshort, vlong, rfl⟩ := len2 hl
  dsimp only [l2] at hm
  have n := n1.as (ρ' := [some vfirst, some vsecond, some vshort, some vlong, none, none]) rfl
  exact w_retW n (dw_call D_trimmed (hr.mono (by decide)) (l_cons (dw_bin (op_addG op_never) (dc_2 4 5 (iw_zip (l_cons (sv 2 n.see) (l_cons (sv 3 n.see) l_nil)) Tx.zip) n.see (by decide) (fun _ _ _ _ _ _ _ _ vone vother S2 => have S2 := S2.as (ρ' := [some vfirst, some vsecond, some vshort, some vlong, some vone, some vother]) rfl; (dw_bin (op_addG op_never) (sv 4 S2) (sv 5 S2))) rfl sc.nd (blkOk_by (show blkC ["first", "second", "short", "long", "one", "other"] (defScope (top 6)) _ _ = true by decide +kernel)) (fun _ _ _ _ _ => pg_tup rfl (pgs_cons (pg_name (i := 4) sc.nd rfl (Or.inl rfl)) (pgs_cons (pg_name (i := 5) sc.nd rfl (Or.inl rfl)) pgs_nil rfl) rfl) rfl rfl)).dw (dw_slice (sv 3 n.see) (p_some (dw_B b_len Tx.len hv_len (l_cons (sv 2 n.see) l_nil))) p_none)) l_nil)) hm hq rfl
theorem ok_multiplied (F : FunD K "multiplied" "multiplied" (defArgs (top 7)) (defBody (top 7)) (defScope (top 7)) [] [] f fd) (Tx : Txt K mg)  : FnOk P w K mg base CX0 1 f fd ["first", "second"] (SpD (ct K) false 2 s_multiplied) := by
  have sc : FnScope ["first", "second", "wide", "last", "power", "at"] ["first", "second"] (defScope (top 7)) := ⟨rfl, rfl, rfl, by decide +kernel, rfl, by decide +kernel, by decide +kernel⟩
  refine fn_D F sc rfl fun cdv A' outer s0 H E W vs ds R Q hr n hm hq => ?_
  obtain ⟨vfirst, vsecond, rfl⟩ : ∃ vfirst vsecond, ds = [vfirst, vsecond] := len2 (len_s_multiplied hm)
  have n := n.as (ρ' := [some vfirst, some vsecond, none, none, none, none]) rfl
  unfold s_multiplied at hm
  have hq := fun y u H' a b c d => hq y u H' a b c d fun h => nomatch h
  refine w_if n (tw_w (ww_or (tw_not (tw_tru (sv 0 n.see))) (ww_or1 (tw_not (tw_tru (sv 1 n.see)))))) hm (fun _ n hm => ?_) (fun _ n hm => ?_)
  · exact w_retW n (dw_lst l_nil) hm hq rfl
  · refine w_nil ?_
    show Wss _ _ _ _ _
    refine w_unp n (.cons (i := 2) rfl (by first | exact Or.inl rfl | exact Or.inr rfl) (by first | exact .inl rfl | exact .inr rfl) rfl (.cons (i := 3) rfl (by first | exact Or.inl rfl | exact Or.inr rfl) (by first | exact .inl rfl | exact .inr rfl) rfl .nil)) (dw_tup (l_cons (dw_B b_len Tx.len hv_len (l_cons (sv 1 n.see) l_nil)) (l_cons (dw_bin (op_subG op_never) (dw_B b_len Tx.len hv_len (l_cons (sv 0 n.see) l_nil)) d_int) l_nil))) hm sc.nd rfl (fun ds _ _ hl n1 hm => ?_)
    obtain ⟨vwide, vlast, rfl⟩ := len2 hl
    dsimp only [l2] at hm
    have n := n1.as (ρ' := [some vfirst, some vsecond, some vwide, some vlast, none, none]) rfl
    exact w_retW n (dc_1 4 (iw_range1 (l_cons (dw_bin (op_addG op_never) (sv 3 n.see) (sv 2 n.see)) l_nil) Tx.range) n.see (fun _ _ _ _ _ _ _ _ vpower S2 => have S2 := S2.as (ρ' := [some vfirst, some vsecond, some vwide, some vlast, some vpower, none]) rfl; (dw_B (b_sum rfl) Tx.sum hv_sum (l_cons (dc_1 5 (iw_range2 (l_cons (dw_B (b_max rfl) Tx.max hv_max (l_cons d_int (l_cons (dw_bin (op_addG op_never) (dw_bin (op_subG op_never) (sv 4 S2) (sv 2 S2)) d_int) l_nil))) (l_cons (dw_bin (op_addG op_never) (dw_B (b_min rfl) Tx.min hv_min (l_cons (sv 4 S2) (l_cons (sv 3 S2) l_nil))) d_int) l_nil)) Tx.range) S2 (fun _ _ _ _ _ _ _ _ vat S2 => have S2 := S2.as (ρ' := [some vfirst, some vsecond, some vwide, some vlast, some vpower, some vat]) rfl; (dw_bin (op_mulG op_never) (dw_ix (sv 0 S2) (sv 5 S2)) (dw_ix (sv 1 S2) (dw_bin (op_subG op_never) (sv 4 S2) (sv 5 S2))))) rfl sc.nd (blkOk_by (by kernel_rfl)) (fun _ _ _ _ _ => pg_name (i := 5) sc.nd rfl (by first | exact Or.inl rfl | exact Or.inr rfl))).dw l_nil))) rfl sc.nd (blkOk_by (show blkC ["first", "second", "wide", "last", "power", "at"] (defScope (top 7)) _ _ = true by decide +kernel)) (fun _ _ _ _ _ => pg_name (i := 4) sc.nd rfl (by first | exact Or.inl rfl | exact Or.inr rfl))).dw hm hq rfl
theorem ok_scaled_by (F : FunD K "scaled_by" "scaled_by" (defArgs (top 5)) (defBody (top 5)) (defScope (top 5)) [] [] f fd) (Tx : Txt K mg)  : FnOk P w K mg base CX0 4 f fd ["poly", "number"] (SpD (ct K) false 2 s_scaled_by) := by
  have sc : FnScope ["poly", "number", "part"] ["poly", "number"] (defScope (top 5)) := ⟨rfl, rfl, rfl, by decide +kernel, rfl, by decide +kernel, by decide +kernel⟩
  refine fn_D F sc rfl fun cdv A' outer s0 H E W vs ds R Q hr n hm hq => ?_
  obtain ⟨vpoly, vnumber, rfl⟩ : ∃ vpoly vnumber, ds = [vpoly, vnumber] := len2 (len_s_scaled_by hm)
  have n := n.as (ρ' := [some vpoly, some vnumber, none]) rfl
  unfold s_scaled_by at hm
  have hq := fun y u H' a b c d => hq y u H' a b c d fun h => nomatch h
  exact w_retW n (dw_if (tw_cmp (op_neT Tx.E0 1 (hr.mono (by decide))) (sv 1 n.see) d_int) (dc_1 2 (iw_val (sv 0 n.see)) n.see (fun _ _ _ _ _ _ _ _ vpart S2 => have S2 := S2.as (ρ' := [some vpoly, some vnumber, some vpart]) rfl; (dw_bin (op_mulG op_never) (sv 1 S2) (sv 2 S2))) rfl sc.nd (blkOk_by (show blkC ["poly", "number", "part"] (defScope (top 5)) _ _ = true by decide +kernel)) (fun _ _ _ _ _ => pg_name (i := 2) sc.nd rfl (by first | exact Or.inl rfl | exact Or.inr rfl))).dw (dw_lst l_nil)) hm hq rfl
theorem ok_put_over (F : FunD K "put_over" "put_over" (defArgs (top 9)) (defBody (top 9)) (defScope (top 9)) [] [] f fd) (Tx : Txt K mg) (D_multiplied : DefD (ct K) P w K mg base 1 "multiplied" false 2 s_multiplied) (D_scaled_by : DefD (ct K) P w K mg base 4 "scaled_by" false 2 s_scaled_by) (D_summed : DefD (ct K) P w K mg base 5 "summed" false 2 s_summed) : FnOk P w K mg base CX0 6 f fd ["poly", "up", "down", "many"] (SpD (ct K) false 4 s_put_over) := by
  have sc : FnScope ["poly", "up", "down", "many", "total", "power", "at", "number"] ["poly", "up", "down", "many"] (defScope (top 9)) := ⟨rfl, rfl, rfl, by decide +kernel, rfl, by decide +kernel, by decide +kernel⟩
  refine fn_D F sc rfl fun cdv A' outer s0 H E W vs ds R Q hr n hm hq => ?_
  obtain ⟨vpoly, vup, vdown, vmany, rfl⟩ : ∃ vpoly vup vdown vmany, ds = [vpoly, vup, vdown, vmany] := len4 (len_s_put_over hm)
  have n := n.as (ρ' := [some vpoly, some vup, some vdown, some vmany, none, none, none, none]) rfl
  unfold s_put_over at hm
  have hq := fun y u H' a b c d => hq y u H' a b c d fun h => nomatch h
  refine w_par 4 5 n (l_cons (dw_lst l_nil) (l_cons (dw_lst (l_cons d_int l_nil)) l_nil)) hm rfl sc.nd (fun vtotal vpower _ _ n1 hm => ?_) l2_len
  dsimp only [l2] at hm
  have n := n1.as (ρ' := [some vpoly, some vup, some vdown, some vmany, some vtotal, some vpower, none, none]) rfl
  refine w_for1 6 (fun vs : D × D => [some vpoly, some vup, some vdown, some vmany, some vs.1, some vs.2, none, none]) ((vtotal, vpower) : D × D) n (iw_range3 (l_cons (sv 3 n.see) (l_cons (dw_un (op_negG op1_never) d_int) (l_cons (dw_un (op_negG op1_never) d_int) l_nil))) Tx.range) hm sc.nd PassesOwn.never rfl (fun _ n => n.cut (.same (.same (.same (.same (.same (.same (.none (.none .nil))))))))) (fun _ vnO vat vs nx bk Nx Bk _ _ n h1 h2 hm => ?_) (fun vs _ _ n hm => ?_)
  · have n := n.as (ρ' := [some vpoly, some vup, some vdown, some vmany, some vs.1, some vs.2, some vat, none]) rfl
    refine w_set 7 n (dw_if (tw_cmp op_ltG (sv 6 n.see) (dw_B b_len Tx.len hv_len (l_cons (sv 0 n.see) l_nil))) (dw_ix (sv 0 n.see) (sv 6 n.see)) d_int) hm sc.nd (fun vnumber _ _ n1 hm => ?_)
    have n := n1.as (ρ' := [some vpoly, some vup, some vdown, some vmany, some vs.1, some vs.2, some vat, some vnumber]) rfl
    refine w_set 4 n (dw_call D_summed (hr.mono (by decide)) (l_cons (dw_call D_multiplied (hr.mono (by decide)) (l_cons (sv 4 n.see) (l_cons (sv 1 n.see) l_nil))) (l_cons (dw_call D_scaled_by (hr.mono (by decide)) (l_cons (sv 5 n.see) (l_cons (sv 7 n.see) l_nil))) l_nil))) hm sc.nd (fun vtotal2 _ _ n1 hm => ?_)
    have n := n1.as (ρ' := [some vpoly, some vup, some vdown, some vmany, some vtotal2, some vs.2, some vat, some vnumber]) rfl
    refine w_set 5 n (dw_call D_multiplied (hr.mono (by decide)) (l_cons (sv 5 n.see) (l_cons (sv 2 n.see) l_nil))) hm sc.nd (fun vpower2 _ _ n1 hm => ?_)
    have n := n1.as (ρ' := [some vpoly, some vup, some vdown, some vmany, some vtotal2, some vpower2, some vat, some vnumber]) rfl
    exact w_nil (h1 (vtotal2, vpower2) _ _ (n.cut (.same (.same (.same (.same (.same (.same (.none (.none .nil))))))))) hm)
  · have n := n.as (ρ' := [some vpoly, some vup, some vdown, some vmany, some vs.1, some vs.2, none, none]) rfl
    exact w_retW n (sv 4 n.see) hm hq rfl
theorem ok_raised (F : FunD K "raised" "raised" (defArgs (top 3)) (defBody (top 3)) (defScope (top 3)) [] [] f fd) (Tx : Txt K mg)  : FnOk P w K mg base CX0 1 f fd ["number", "many"] (SpD (ct K) false 2 s_raised) := by
  have sc : FnScope ["number", "many", "power", "_"] ["number", "many"] (defScope (top 3)) := ⟨rfl, rfl, rfl, by decide +kernel, rfl, by decide +kernel, by decide +kernel⟩
  refine fn_D F sc rfl fun cdv A' outer s0 H E W vs ds R Q hr n hm hq => ?_
  obtain ⟨vnumber, vmany, rfl⟩ : ∃ vnumber vmany, ds = [vnumber, vmany] := len2 (len_s_raised hm)
  have n := n.as (ρ' := [some vnumber, some vmany, none, none]) rfl
  unfold s_raised at hm
  have hq := fun y u H' a b c d => hq y u H' a b c d fun h => nomatch h
  refine w_set 2 n (d_int) hm sc.nd (fun vpower _ _ n1 hm => ?_)
  have n := n1.as (ρ' := [some vnumber, some vmany, some vpower, none]) rfl
  refine w_for1 3 (fun vs : D => [some vnumber, some vmany, some vs, none]) (vpower : D) n (iw_range1 (l_cons (sv 1 n.see) l_nil) Tx.range) hm sc.nd PassesOwn.never rfl (fun _ n => n.cut (.same (.same (.same (.none .nil))))) (fun _ vnO v_ vs nx bk Nx Bk _ _ n h1 h2 hm => ?_) (fun vs _ _ n hm => ?_)
  · have n := n.as (ρ' := [some vnumber, some vmany, some vs, some v_]) rfl
    refine w_set 2 n (dw_bin (op_mulG op_never) (sv 2 n.see) (sv 0 n.see)) hm sc.nd (fun vpower2 _ _ n1 hm => ?_)
    have n := n1.as (ρ' := [some vnumber, some vmany, some vpower2, some v_]) rfl
    exact w_nil (h1 vpower2 _ _ (n.cut (.same (.same (.same (.none .nil))))) hm)
  · have n := n.as (ρ' := [some vnumber, some vmany, some vs, none]) rfl
    exact w_retW n (sv 2 n.see) hm hq rfl
theorem ok_put_in (F : FunD K "put_in" "put_in" (defArgs (top 38)) (defBody (top 38)) (defScope (top 38)) [] [] f fd) (Tx : Txt K mg) (D_cleared_poly : DefD (ct K) P w K mg base 6 "cleared_poly" false 1 s_cleared_poly) (D_need_polys : DefD (ct K) P w K mg base 5 "need_polys" false 2 s_need_polys) (D_put_over : DefD (ct K) P w K mg base 6 "put_over" false 4 s_put_over) (D_raised : DefD (ct K) P w K mg base 1 "raised" false 2 s_raised) (D_ratios_over : DefD (ct K) P w K mg base 6 "ratios_over" true 2 s_ratios_over) : FnOk P w K mg base CX0 7 f fd ["poly", "other"] (SpD (ct K) false 2 s_put_in) := by
  have sc : FnScope ["poly", "other", "first", "low", "second", "under", "many"] ["poly", "other"] (defScope (top 38)) := ⟨rfl, rfl, rfl, by decide +kernel, rfl, by decide +kernel, by decide +kernel⟩
  obtain ⟨_, h_MOST_DEGREE⟩ := Tx.c_MOST_DEGREE
  refine fn_D F sc rfl fun cdv A' outer s0 H E W vs ds R Q hr n hm hq => ?_
  obtain ⟨vpoly, vother, rfl⟩ : ∃ vpoly vother, ds = [vpoly, vother] := len2 (len_s_put_in hm)
  have n := n.as (ρ' := [some vpoly, some vother, none, none, none, none, none]) rfl
  unfold s_put_in at hm
  have hq := fun y u H' a b c d => hq y u H' a b c d fun h => nomatch h
  refine w_expr n (dw_call D_need_polys (hr.mono (by decide)) (l_cons (sv 0 n.see) (l_cons (sv 1 n.see) l_nil))) hm (fun _ _ n hm => ?_)
  refine w_unp n (.cons (i := 2) rfl (by first | exact Or.inl rfl | exact Or.inr rfl) (by first | exact .inl rfl | exact .inr rfl) rfl (.cons (i := 3) rfl (by first | exact Or.inl rfl | exact Or.inr rfl) (by first | exact .inl rfl | exact .inr rfl) rfl .nil)) (dw_call D_cleared_poly (hr.mono (by decide)) (l_cons (sv 0 n.see) l_nil)) hm sc.nd rfl (fun ds _ _ hl n1 hm => ?_)
  obtain ⟨vfirst, vlow, rfl⟩ := len2 hl
  dsimp only [l2] at hm
  have n := n1.as (ρ' := [some vpoly, some vother, some vfirst, some vlow, none, none, none]) rfl
  refine w_unp n (.cons (i := 4) rfl (by first | exact Or.inl rfl | exact Or.inr rfl) (by first | exact .inl rfl | exact .inr rfl) rfl (.cons (i := 5) rfl (by first | exact Or.inl rfl | exact Or.inr rfl) (by first | exact .inl rfl | exact .inr rfl) rfl .nil)) (dw_call D_cleared_poly (hr.mono (by decide)) (l_cons (sv 1 n.see) l_nil)) hm sc.nd rfl (fun ds _ _ hl n1 hm => ?_)
  obtain ⟨vsecond, vunder, rfl⟩ := len2 hl
  dsimp only [l2] at hm
  have n := n1.as (ρ' := [some vpoly, some vother, some vfirst, some vlow, some vsecond, some vunder, none]) rfl
  refine w_set 6 n (dw_B (b_max rfl) Tx.max hv_max (l_cons d_int (l_cons (dw_bin (op_subG op_never) (dw_B b_len Tx.len hv_len (l_cons (sv 2 n.see) l_nil)) d_int) l_nil))) hm sc.nd (fun vmany _ _ n1 hm => ?_)
  have n := n1.as (ρ' := [some vpoly, some vother, some vfirst, some vlow, some vsecond, some vunder, some vmany]) rfl
  refine w_if n (tw_cmp op_gtG (dw_bin (op_mulG op_never) (sv 6 n.see) (dw_bin (op_subG op_never) (dw_B b_len Tx.len hv_len (l_cons (sv 4 n.see) l_nil)) d_int)) (d_gint h_MOST_DEGREE)) hm (fun _ n hm => ?_) (fun _ n hm => ?_)
  · exact hm.elim
  · refine w_nil ?_
    show Wss _ _ _ _ _
    exact w_retW n (dw_call D_ratios_over (hr.mono (by decide)) (l_cons (dw_call D_put_over (hr.mono (by decide)) (l_cons (sv 2 n.see) (l_cons (sv 4 n.see) (l_cons (dw_lst (l_cons (sv 5 n.see) l_nil)) (l_cons (sv 6 n.see) l_nil))))) (l_cons (dw_bin (op_mulG op_never) (sv 3 n.see) (dw_call D_raised (hr.mono (by decide)) (l_cons (sv 5 n.see) (l_cons (sv 6 n.see) l_nil)))) l_nil))) hm hq rfl
theorem ok_cleared_both (F : FunD K "cleared_both" "cleared_both" (defArgs (top 33)) (defBody (top 33)) (defScope (top 33)) [] [] f fd) (Tx : Txt K mg) (D_cleared : DefD (ct K) P w K mg base 5 "cleared" false 1 s_cleared) (D_trimmed : DefD (ct K) P w K mg base 4 "trimmed" false 1 s_trimmed) : FnOk P w K mg base CX0 6 f fd ["poly", "other"] (SpD (ct K) false 2 s_cleared_both) := by
  have sc : FnScope ["poly", "other", "integers", "below"] ["poly", "other"] (defScope (top 33)) := ⟨rfl, rfl, rfl, by decide +kernel, rfl, by decide +kernel, by decide +kernel⟩
  refine fn_D F sc rfl fun cdv A' outer s0 H E W vs ds R Q hr n hm hq => ?_
  obtain ⟨vpoly, vother, rfl⟩ : ∃ vpoly vother, ds = [vpoly, vother] := len2 (len_s_cleared_both hm)
  have n := n.as (ρ' := [some vpoly, some vother, none, none]) rfl
  unfold s_cleared_both at hm
  have hq := fun y u H' a b c d => hq y u H' a b c d fun h => nomatch h
  refine w_unp n (.cons (i := 2) rfl (by first | exact Or.inl rfl | exact Or.inr rfl) (by first | exact .inl rfl | exact .inr rfl) rfl (.cons (i := 3) rfl (by first | exact Or.inl rfl | exact Or.inr rfl) (by first | exact .inl rfl | exact .inr rfl) rfl .nil)) (dw_call D_cleared (hr.mono (by decide)) (l_cons (dw_lst (l_star (sv 0 n.see) (l_star (sv 1 n.see) l_nil))) l_nil)) hm sc.nd rfl (fun ds _ _ hl n1 hm => ?_)
  obtain ⟨vintegers, vbelow, rfl⟩ := len2 hl
  dsimp only [l2] at hm
  have n := n1.as (ρ' := [some vpoly, some vother, some vintegers, some vbelow]) rfl
  exact w_retW n (dw_tup (l_cons (dw_call D_trimmed (hr.mono (by decide)) (l_cons (dw_slice (sv 2 n.see) p_none (p_some (dw_B b_len Tx.len hv_len (l_cons (sv 0 n.see) l_nil)))) l_nil)) (l_cons (dw_call D_trimmed (hr.mono (by decide)) (l_cons (dw_slice (sv 2 n.see) (p_some (dw_B b_len Tx.len hv_len (l_cons (sv 0 n.see) l_nil))) p_none) l_nil)) (l_cons (sv 3 n.see) l_nil)))) hm hq rfl
theorem ok_plus (F : FunD K "plus" "plus" (defArgs (top 35)) (defBody (top 35)) (defScope (top 35)) [] [] f fd) (Tx : Txt K mg) (D_cleared_both : DefD (ct K) P w K mg base 6 "cleared_both" false 2 s_cleared_both) (D_need_polys : DefD (ct K) P w K mg base 5 "need_polys" false 2 s_need_polys) (D_ratios_over : DefD (ct K) P w K mg base 6 "ratios_over" true 2 s_ratios_over) (D_summed : DefD (ct K) P w K mg base 5 "summed" false 2 s_summed) : FnOk P w K mg base CX0 7 f fd ["poly", "other"] (SpD (ct K) true 2 s_plus) := by
  have sc : FnScope ["poly", "other", "first", "second", "below"] ["poly", "other"] (defScope (top 35)) := ⟨rfl, rfl, rfl, by decide +kernel, rfl, by decide +kernel, by decide +kernel⟩
  refine fn_D F sc rfl fun cdv A' outer s0 H E W vs ds R Q hr n hm hq => ?_
  obtain ⟨vpoly, vother, rfl⟩ : ∃ vpoly vother, ds = [vpoly, vother] := len2 (len_s_plus hm)
  have n := n.as (ρ' := [some vpoly, some vother, none, none, none]) rfl
  unfold s_plus at hm
  refine w_expr n (dw_call D_need_polys (hr.mono (by decide)) (l_cons (sv 0 n.see) (l_cons (sv 1 n.see) l_nil))) hm (fun _ _ n hm => ?_)
  refine w_unp n (.cons (i := 2) rfl (by first | exact Or.inl rfl | exact Or.inr rfl) (by first | exact .inl rfl | exact .inr rfl) rfl (.cons (i := 3) rfl (by first | exact Or.inl rfl | exact Or.inr rfl) (by first | exact .inl rfl | exact .inr rfl) rfl (.cons (i := 4) rfl (by first | exact Or.inl rfl | exact Or.inr rfl) (by first | exact .inl rfl | exact .inr rfl) rfl .nil))) (dw_call D_cleared_both (hr.mono (by decide)) (l_cons (sv 0 n.see) (l_cons (sv 1 n.see) l_nil))) hm sc.nd rfl (fun ds _ _ hl n1 hm => ?_)
  obtain ⟨vfirst, vsecond, vbelow, rfl⟩ := len3 hl
  dsimp only [l3] at hm
  have n := n1.as (ρ' := [some vpoly, some vother, some vfirst, some vsecond, some vbelow]) rfl
  exact w_retF n (fd_call D_ratios_over (hr.mono (by decide)) (l_cons (dw_call D_summed (hr.mono (by decide)) (l_cons (sv 2 n.see) (l_cons (sv 3 n.see) l_nil))) (l_cons (sv 4 n.see) l_nil))) hm hq rfl
theorem ok_times (F : FunD K "times" "times" (defArgs (top 36)) (defBody (top 36)) (defScope (top 36)) [] [] f fd) (Tx : Txt K mg) (D_cleared_poly : DefD (ct K) P w K mg base 6 "cleared_poly" false 1 s_cleared_poly) (D_multiplied : DefD (ct K) P w K mg base 1 "multiplied" false 2 s_multiplied) (D_need_polys : DefD (ct K) P w K mg base 5 "need_polys" false 2 s_need_polys) (D_ratios_over : DefD (ct K) P w K mg base 6 "ratios_over" true 2 s_ratios_over) : FnOk P w K mg base CX0 7 f fd ["poly", "other"] (SpD (ct K) true 2 s_times) := by
  have sc : FnScope ["poly", "other", "first", "low", "second", "under", "product"] ["poly", "other"] (defScope (top 36)) := ⟨rfl, rfl, rfl, by decide +kernel, rfl, by decide +kernel, by decide +kernel⟩
  obtain ⟨_, h_MOST_NUMBERS⟩ := Tx.c_MOST_NUMBERS
  refine fn_D F sc rfl fun cdv A' outer s0 H E W vs ds R Q hr n hm hq => ?_
  obtain ⟨vpoly, vother, rfl⟩ : ∃ vpoly vother, ds = [vpoly, vother] := len2 (len_s_times hm)
  have n := n.as (ρ' := [some vpoly, some vother, none, none, none, none, none]) rfl
  unfold s_times at hm
  refine w_expr n (dw_call D_need_polys (hr.mono (by decide)) (l_cons (sv 0 n.see) (l_cons (sv 1 n.see) l_nil))) hm (fun _ _ n hm => ?_)
  refine w_unp n (.cons (i := 2) rfl (by first | exact Or.inl rfl | exact Or.inr rfl) (by first | exact .inl rfl | exact .inr rfl) rfl (.cons (i := 3) rfl (by first | exact Or.inl rfl | exact Or.inr rfl) (by first | exact .inl rfl | exact .inr rfl) rfl .nil)) (dw_call D_cleared_poly (hr.mono (by decide)) (l_cons (sv 0 n.see) l_nil)) hm sc.nd rfl (fun ds _ _ hl n1 hm => ?_)
  obtain ⟨vfirst, vlow, rfl⟩ := len2 hl
  dsimp only [l2] at hm
  have n := n1.as (ρ' := [some vpoly, some vother, some vfirst, some vlow, none, none, none]) rfl
  refine w_unp n (.cons (i := 4) rfl (by first | exact Or.inl rfl | exact Or.inr rfl) (by first | exact .inl rfl | exact .inr rfl) rfl (.cons (i := 5) rfl (by first | exact Or.inl rfl | exact Or.inr rfl) (by first | exact .inl rfl | exact .inr rfl) rfl .nil)) (dw_call D_cleared_poly (hr.mono (by decide)) (l_cons (sv 1 n.see) l_nil)) hm sc.nd rfl (fun ds _ _ hl n1 hm => ?_)
  obtain ⟨vsecond, vunder, rfl⟩ := len2 hl
  dsimp only [l2] at hm
  have n := n1.as (ρ' := [some vpoly, some vother, some vfirst, some vlow, some vsecond, some vunder, none]) rfl
  refine w_set 6 n (dw_call D_multiplied (hr.mono (by decide)) (l_cons (sv 2 n.see) (l_cons (sv 4 n.see) l_nil))) hm sc.nd (fun vproduct _ _ n1 hm => ?_)
  have n := n1.as (ρ' := [some vpoly, some vother, some vfirst, some vlow, some vsecond, some vunder, some vproduct]) rfl
  refine w_if n (tw_cmp op_gtG (dw_B b_len Tx.len hv_len (l_cons (sv 6 n.see) l_nil)) (d_gint h_MOST_NUMBERS)) hm (fun _ n hm => ?_) (fun _ n hm => ?_)
  · exact hm.elim
  · refine w_nil ?_
    show Wss _ _ _ _ _
    exact w_retF n (fd_call D_ratios_over (hr.mono (by decide)) (l_cons (sv 6 n.see) (l_cons (dw_bin (op_mulG op_never) (sv 3 n.see) (sv 5 n.see)) l_nil))) hm hq rfl
theorem ok_derived_bare (F : FunD K "derived_bare" "derived_bare" (defArgs (top 8)) (defBody (top 8)) (defScope (top 8)) [] [] f fd) (Tx : Txt K mg)  : FnOk P w K mg base CX0 1 f fd ["poly"] (SpD (ct K) false 1 s_derived_bare) := by
  have sc : FnScope ["poly", "at", "number"] ["poly"] (defScope (top 8)) := ⟨rfl, rfl, rfl, by decide +kernel, rfl, by decide +kernel, by decide +kernel⟩
  refine fn_D F sc rfl fun cdv A' outer s0 H E W vs ds R Q hr n hm hq => ?_
  obtain ⟨vpoly, rfl⟩ : ∃ vpoly, ds = [vpoly] := len1 (len_s_derived_bare hm)
  have n := n.as (ρ' := [some vpoly, none, none]) rfl
  unfold s_derived_bare at hm
  have hq := fun y u H' a b c d => hq y u H' a b c d fun h => nomatch h
  exact w_retW n (dw_slice (dc_2 1 2 (iw_enum (l_cons (sv 0 n.see) l_nil) Tx.enumerate) n.see (by decide) (fun _ _ _ _ _ _ _ _ vat vnumber S2 => have S2 := S2.as (ρ' := [some vpoly, some vat, some vnumber]) rfl; (dw_bin (op_mulG op_never) (sv 1 S2) (sv 2 S2))) rfl sc.nd (blkOk_by (show blkC ["poly", "at", "number"] (defScope (top 8)) _ _ = true by decide +kernel)) (fun _ _ _ _ _ => pg_tup rfl (pgs_cons (pg_name (i := 1) sc.nd rfl (Or.inl rfl)) (pgs_cons (pg_name (i := 2) sc.nd rfl (Or.inl rfl)) pgs_nil rfl) rfl) rfl rfl)).dw (p_some d_int) p_none) hm hq rfl
theorem ok_derived (F : FunD K "derived" "derived" (defArgs (top 37)) (defBody (top 37)) (defScope (top 37)) [] [] f fd) (Tx : Txt K mg) (D_cleared_poly : DefD (ct K) P w K mg base 6 "cleared_poly" false 1 s_cleared_poly) (D_derived_bare : DefD (ct K) P w K mg base 1 "derived_bare" false 1 s_derived_bare) (D_need_poly : DefD (ct K) P w K mg base 4 "need_poly" false 1 s_need_poly) (D_ratios_over : DefD (ct K) P w K mg base 6 "ratios_over" true 2 s_ratios_over) : FnOk P w K mg base CX0 7 f fd ["poly"] (SpD (ct K) true 1 s_derived) := by
  have sc : FnScope ["poly", "integers", "below"] ["poly"] (defScope (top 37)) := ⟨rfl, rfl, rfl, by decide +kernel, rfl, by decide +kernel, by decide +kernel⟩
  refine fn_D F sc rfl fun cdv A' outer s0 H E W vs ds R Q hr n hm hq => ?_
  obtain ⟨vpoly, rfl⟩ : ∃ vpoly, ds = [vpoly] := len1 (len_s_derived hm)
  have n := n.as (ρ' := [some vpoly, none, none]) rfl
  unfold s_derived at hm
  refine w_expr n (dw_call D_need_poly (hr.mono (by decide)) (l_cons (sv 0 n.see) l_nil)) hm (fun _ _ n hm => ?_)
  refine w_unp n (.cons (i := 1) rfl (by first | exact Or.inl rfl | exact Or.inr rfl) (by first | exact .inl rfl | exact .inr rfl) rfl (.cons (i := 2) rfl (by first | exact Or.inl rfl | exact Or.inr rfl) (by first | exact .inl rfl | exact .inr rfl) rfl .nil)) (dw_call D_cleared_poly (hr.mono (by decide)) (l_cons (sv 0 n.see) l_nil)) hm sc.nd rfl (fun ds _ _ hl n1 hm => ?_)
  obtain ⟨vintegers, vbelow, rfl⟩ := len2 hl
  dsimp only [l2] at hm
  have n := n1.as (ρ' := [some vpoly, some vintegers, some vbelow]) rfl
  exact w_retF n (fd_call D_ratios_over (hr.mono (by decide)) (l_cons (dw_call D_derived_bare (hr.mono (by decide)) (l_cons (sv 1 n.see) l_nil)) (l_cons (sv 2 n.see) l_nil))) hm hq rfl
theorem ok_degree (F : FunD K "degree" "degree" (defArgs (top 34)) (defBody (top 34)) (defScope (top 34)) [] [] f fd) (Tx : Txt K mg) (D_cleared_poly : DefD (ct K) P w K mg base 6 "cleared_poly" false 1 s_cleared_poly) (D_need_poly : DefD (ct K) P w K mg base 4 "need_poly" false 1 s_need_poly) : FnOk P w K mg base CX0 7 f fd ["poly"] (SpD (ct K) false 1 s_degree) := by
  have sc : FnScope ["poly"] ["poly"] (defScope (top 34)) := ⟨rfl, rfl, rfl, by decide +kernel, rfl, by decide +kernel, by decide +kernel⟩
  refine fn_D F sc rfl fun cdv A' outer s0 H E W vs ds R Q hr n hm hq => ?_
  obtain ⟨vpoly, rfl⟩ : ∃ vpoly, ds = [vpoly] := len1 (len_s_degree hm)
  have n := n.as (ρ' := [some vpoly]) rfl
  unfold s_degree at hm
  have hq := fun y u H' a b c d => hq y u H' a b c d fun h => nomatch h
  refine w_expr n (dw_call D_need_poly (hr.mono (by decide)) (l_cons (sv 0 n.see) l_nil)) hm (fun _ _ n hm => ?_)
  exact w_retW n (dw_bin (op_subG op_never) (dw_B b_len Tx.len hv_len (l_cons (dw_ix (dw_call D_cleared_poly (hr.mono (by decide)) (l_cons (sv 0 n.see) l_nil)) d_int) l_nil)) d_int) hm hq rfl
theorem ok_Ratio_eq (F : FunD K "__eq__" "Ratio.__eq__" (defArgs (cm 20 16)) (defBody (cm 20 16)) (defScope (cm 20 16)) [] [] f fd) (Tx : Txt K mg)  : FnOk P w K mg base CX0 4 f fd ["self", "other"] (SpD (ct K) false 2 s_Ratio_eq) := by
  have sc : FnScope ["self", "other"] ["self", "other"] (defScope (cm 20 16)) := ⟨rfl, rfl, rfl, by decide +kernel, rfl, by decide +kernel, by decide +kernel⟩
  refine fn_D F sc rfl fun cdv A' outer s0 H E W vs ds R Q hr n hm hq => ?_
  obtain ⟨vself, vother, rfl⟩ : ∃ vself vother, ds = [vself, vother] := len2 (len_s_Ratio_eq hm)
  have n := n.as (ρ' := [some vself, some vother]) rfl
  unfold s_Ratio_eq at hm
  have hq := fun y u H' a b c d => hq y u H' a b c d fun h => nomatch h
  exact w_retW n (dw_and (dw_isi Tx.C (sv 1 n.see) (ty_c 0 (by show 0 < 1; decide) Tx.mg_Ratio) Tx.isinstance) (dw_and (dw_cmp (op_eqT Tx.E0 1 (hr.mono (by decide))) (dw_fld 0 0 (by show 0 < 1; decide) Tx.C rfl (sv 0 n.see)) (dw_fld 0 0 (by show 0 < 1; decide) Tx.C rfl (sv 1 n.see))) (dw_one (dw_cmp (op_eqT Tx.E0 1 (hr.mono (by decide))) (dw_fld 0 1 (by show 0 < 1; decide) Tx.C rfl (sv 0 n.see)) (dw_fld 0 1 (by show 0 < 1; decide) Tx.C rfl (sv 1 n.see)))))) hm hq rfl
theorem ok_Ratio_repr (F : FunD K "__repr__" "Ratio.__repr__" (defArgs (cm 20 18)) (defBody (cm 20 18)) (defScope (cm 20 18)) [] [] f fd) (Tx : Txt K mg)  : FnOk P w K mg base CX0 1 f fd ["self"] (SpD (ct K) false 1 s_Ratio_repr) := by
  have sc : FnScope ["self"] ["self"] (defScope (cm 20 18)) := ⟨rfl, rfl, rfl, by decide +kernel, rfl, by decide +kernel, by decide +kernel⟩
  refine fn_D F sc rfl fun cdv A' outer s0 H E W vs ds R Q hr n hm hq => ?_
  obtain ⟨vself, rfl⟩ : ∃ vself, ds = [vself] := len1 (len_s_Ratio_repr hm)
  have n := n.as (ρ' := [some vself]) rfl
  unfold s_Ratio_repr at hm
  have hq := fun y u H' a b c d => hq y u H' a b c d fun h => nomatch h
  exact w_retW n (dw_joined (j_cons d_str (j_cons (dw_fmt (dw_fld 0 0 (by show 0 < 1; decide) Tx.C rfl (sv 0 n.see))) (j_cons d_str (j_cons (dw_fmt (dw_fld 0 1 (by show 0 < 1; decide) Tx.C rfl (sv 0 n.see))) (j_cons d_str j_nil)))))) hm hq rfl
end
end K13
set_option Elab.async false
set_option linter.all false
set_option maxRecDepth 100000
set_option maxHeartbeats 4000000
set_option exponentiation.threshold 20000
namespace K13
open PySem L2 Inn Uv Sl
section
variable {P : Program} {w : World} {K : PySem.W.Frag} {mg : Str → Option Value} {base : Heap} {f : Addr} {fd : FuncData}
theorem ok_law_pick (F : FunD K "_law_pick" "_law_pick" (defArgs (top 43)) (defBody (top 43)) (defScope (top 43)) [] [] f fd) (Tx : Txt K mg) (D_law_draw : DefD (ct K) P w K mg base 1 "_law_draw" false 2 s_law_draw) : FnOk P w K mg base CX0 2 f fd ["_law_pot_here", "_law_some"] (SpD (ct K) false 2 s_law_pick) := by
  have sc : FnScope ["_law_pot_here", "_law_some"] ["_law_pot_here", "_law_some"] (defScope (top 43)) := ⟨rfl, rfl, rfl, by decide +kernel, rfl, by decide +kernel, by decide +kernel⟩
  refine fn_D F sc rfl fun cdv A' outer s0 H E W vs ds R Q hr n hm hq => ?_
  obtain ⟨vpot_here, vsome, rfl⟩ : ∃ vpot_here vsome, ds = [vpot_here, vsome] := len2 (len_s_law_pick hm)
  have n := n.as (ρ' := [some vpot_here, some vsome]) rfl
  unfold s_law_pick at hm
  have hq := fun y u H' a b c d => hq y u H' a b c d fun h => nomatch h
  exact w_retW n (dw_ix (sv 1 n.see) (dw_call D_law_draw (hr.mono (by decide)) (l_cons (sv 0 n.see) (l_cons (dw_B b_len Tx.len hv_len (l_cons (sv 1 n.see) l_nil)) l_nil)))) hm hq rfl
theorem ok_law_given (F : FunD K "_law_given" "_law_given" (defArgs (top 54)) (defBody (top 54)) (defScope (top 54)) [] [] f fd) (Tx : Txt K mg) (D_law_draw : DefD (ct K) P w K mg base 1 "_law_draw" false 2 s_law_draw) (D_law_pick : DefD (ct K) P w K mg base 2 "_law_pick" false 2 s_law_pick) (M_Ratio2 : MkD (ct K) P w K mg base 4 0 "Ratio" 2 s_Ratio_init []) : FnOk P w K mg base CX0 6 f fd ["_law_pot_here", "_law_poly_here"] (SpD (ct K) false 2 s_law_given) := by
  have sc : FnScope ["_law_pot_here", "_law_poly_here", "_law_found", "_law_one"] ["_law_pot_here", "_law_poly_here"] (defScope (top 54)) := ⟨rfl, rfl, rfl, by decide +kernel, rfl, by decide +kernel, by decide +kernel⟩
  refine fn_D F sc rfl fun cdv A' outer s0 H E W vs ds R Q hr n hm hq => ?_
  obtain ⟨vpot_here, vpoly_here, rfl⟩ : ∃ vpot_here vpoly_here, ds = [vpot_here, vpoly_here] := len2 (len_s_law_given hm)
  have n := n.as (ρ' := [some vpot_here, some vpoly_here, none, none]) rfl
  unfold s_law_given at hm
  have hq := fun y u H' a b c d => hq y u H' a b c d fun h => nomatch h
  refine w_setC 2 n (dc_1 3 (iw_val (sv 1 n.see)) n.see (fun _ _ _ _ _ _ _ _ vone S2 => have S2 := S2.as (ρ' := [some vpot_here, some vpoly_here, none, some vone]) rfl; (dw_if (tw_w (ww_and (tw_cmp (op_eqT Tx.E0 1 (hr.mono (by decide))) (dw_ix (sv 3 S2) d_int) d_int) (ww_and1 (tw_cmp (op_eqT Tx.E0 1 (hr.mono (by decide))) (dw_call D_law_draw (hr.mono (by decide)) (l_cons (sv 0 S2) (l_cons d_int l_nil))) d_int)))) (dw_ix (sv 3 S2) d_int) (dw_make M_Ratio2 (hr.mono (by decide)) (l_cons (dw_ix (sv 3 S2) d_int) (l_cons (dw_ix (sv 3 S2) d_int) l_nil))))) rfl sc.nd (blkOk_by (show blkC ["_law_pot_here", "_law_poly_here", "_law_found", "_law_one"] (defScope (top 54)) _ _ = true by decide +kernel)) (fun _ _ _ _ _ => pg_name (i := 3) sc.nd rfl (by first | exact Or.inl rfl | exact Or.inr rfl))) hm (fun vfound _ _ n1 hm => ?_)
  have n := n1.as (ρ' := [some vpot_here, some vpoly_here, some vfound, none]) rfl
  refine w_set 2 n (dw_bin (op_addG op_never) (sv 2 n.see) (dw_bin (op_mulG op_never) (dw_lst (l_cons d_int l_nil)) (dw_call D_law_pick (hr.mono (by decide)) (l_cons (sv 0 n.see) (l_cons (dw_lst (l_cons d_int (l_cons d_int (l_cons d_int (l_cons d_int l_nil))))) l_nil))))) hm sc.nd (fun vfound2 _ _ n1 hm => ?_)
  have n := n1.as (ρ' := [some vpot_here, some vpoly_here, some vfound2, none]) rfl
  exact w_retW n (dw_if (tw_cmp (op_eqT Tx.E0 1 (hr.mono (by decide))) (dw_call D_law_draw (hr.mono (by decide)) (l_cons (sv 0 n.see) (l_cons d_int l_nil))) d_int) (dw_Ty b_tuple Tx.tuple_ hv_tuple (l_cons (sv 2 n.see) l_nil)) (sv 2 n.see)) hm hq rfl
theorem ok_law_trim (F : FunD K "_law_trim" "_law_trim" (defArgs (top 47)) (defBody (top 47)) (defScope (top 47)) [] [] f fd) (Tx : Txt K mg)  : FnOk P w K mg base CX0 4 f fd ["_law_poly_here"] (SpD (ct K) false 1 s_law_trim) := by
  have sc : FnScope ["_law_poly_here", "_law_many"] ["_law_poly_here"] (defScope (top 47)) := ⟨rfl, rfl, rfl, by decide +kernel, rfl, by decide +kernel, by decide +kernel⟩
  refine fn_D F sc rfl fun cdv A' outer s0 H E W vs ds R Q hr n hm hq => ?_
  obtain ⟨vpoly_here, rfl⟩ : ∃ vpoly_here, ds = [vpoly_here] := len1 (len_s_law_trim hm)
  have n := n.as (ρ' := [some vpoly_here, none]) rfl
  unfold s_law_trim at hm
  have hq := fun y u H' a b c d => hq y u H' a b c d fun h => nomatch h
  refine w_set 1 n (dw_B b_len Tx.len hv_len (l_cons (sv 0 n.see) l_nil)) hm sc.nd (fun vmany _ _ n1 hm => ?_)
  have n := n1.as (ρ' := [some vpoly_here, some vmany]) rfl
  refine w_while (fun vs : D => [some vpoly_here, some vs]) (vmany : D) n hm PassesOwn.never (n.cut (.same (.same .nil))) (fun vs _ _ n => ?_) (fun vs nx bk Nx Bk _ _ n h1 h2 hm => ?_) (fun vs _ _ n hm => ?_)
  · have n := n.as (ρ' := [some vpoly_here, some vs]) rfl
    exact (tw_w (ww_and (tw_cmp op_gtG (sv 1 n.see) d_int) (ww_and1 (tw_cmp (op_eqT Tx.E0 1 (hr.mono (by decide))) (dw_ix (dw_ix (sv 0 n.see) (dw_bin (op_subG op_never) (sv 1 n.see) d_int)) d_int) d_int))))
  · have n := n.as (ρ' := [some vpoly_here, some vs]) rfl
    refine w_set 1 n (dw_bin (op_subG op_never) (sv 1 n.see) d_int) hm sc.nd (fun vmany2 _ _ n1 hm => ?_)
    have n := n1.as (ρ' := [some vpoly_here, some vmany2]) rfl
    exact w_nil (h1 vmany2 _ _ (n.cut (.same (.same .nil))) hm)
  · have n := n.as (ρ' := [some vpoly_here, some vs]) rfl
    exact w_retW n (dw_slice (sv 0 n.see) p_none (p_some (sv 1 n.see))) hm hq rfl
theorem ok_law_low (F : FunD K "_law_low" "_law_low" (defArgs (top 44)) (defBody (top 44)) (defScope (top 44)) [] [] f fd) (Tx : Txt K mg)  : FnOk P w K mg base CX0 1 f fd ["_law_top", "_law_bottom"] (SpD (ct K) false 2 s_law_low) := by
  have sc : FnScope ["_law_top", "_law_bottom", "_law_one", "_law_other"] ["_law_top", "_law_bottom"] (defScope (top 44)) := ⟨rfl, rfl, rfl, by decide +kernel, rfl, by decide +kernel, by decide +kernel⟩
  refine fn_D F sc rfl fun cdv A' outer s0 H E W vs ds R Q hr n hm hq => ?_
  obtain ⟨vtop, vbottom, rfl⟩ : ∃ vtop vbottom, ds = [vtop, vbottom] := len2 (len_s_law_low hm)
  have n := n.as (ρ' := [some vtop, some vbottom, none, none]) rfl
  unfold s_law_low at hm
  have hq := fun y u H' a b c d => hq y u H' a b c d fun h => nomatch h
  refine w_par 2 3 n (l_cons (dw_B b_abs Tx.abs hv_abs (l_cons (sv 0 n.see) l_nil)) (l_cons (dw_B b_abs Tx.abs hv_abs (l_cons (sv 1 n.see) l_nil)) l_nil)) hm rfl sc.nd (fun vone vother _ _ n1 hm => ?_) l2_len
  dsimp only [l2] at hm
  have n := n1.as (ρ' := [some vtop, some vbottom, some vone, some vother]) rfl
  refine w_while (fun vs : D × D => [some vtop, some vbottom, some vs.1, some vs.2]) ((vone, vother) : D × D) n hm PassesOwn.never (n.cut (.same (.same (.same (.same .nil))))) (fun vs _ _ n => ?_) (fun vs nx bk Nx Bk _ _ n h1 h2 hm => ?_) (fun vs _ _ n hm => ?_)
  · have n := n.as (ρ' := [some vtop, some vbottom, some vs.1, some vs.2]) rfl
    exact (tw_cmp op_gtG (sv 3 n.see) d_int)
  · have n := n.as (ρ' := [some vtop, some vbottom, some vs.1, some vs.2]) rfl
    refine w_par 2 3 n (l_cons (sv 3 n.see) (l_cons (dw_bin op_modG (dw_Ty b_int Tx.int_ hv_int (l_cons (sv 2 n.see) l_nil)) (sv 3 n.see)) l_nil)) hm rfl sc.nd (fun vone2 vother2 _ _ n1 hm => ?_) l2_len
    dsimp only [l2] at hm
    have n := n1.as (ρ' := [some vtop, some vbottom, some vone2, some vother2]) rfl
    exact w_nil (h1 (vone2, vother2) _ _ (n.cut (.same (.same (.same (.same .nil))))) hm)
  · have n := n.as (ρ' := [some vtop, some vbottom, some vs.1, some vs.2]) rfl
    refine w_set 2 n (dw_if (tw_cmp op_gtG (sv 1 n.see) d_int) (sv 2 n.see) (dw_bin (op_subG op_never) d_int (sv 2 n.see))) hm sc.nd (fun vone3 _ _ n1 hm => ?_)
    have n := n1.as (ρ' := [some vtop, some vbottom, some vone3, some vs.2]) rfl
    exact w_retW n (dw_tup (l_cons (dw_bin op_fdivG (sv 0 n.see) (sv 2 n.see)) (l_cons (dw_bin op_fdivG (sv 1 n.see) (sv 2 n.see)) l_nil))) hm hq rfl
theorem ok_law_number (F : FunD K "_law_number" "_law_number" (defArgs (top 51)) (defBody (top 51)) (defScope (top 51)) [] [] f fd) (Tx : Txt K mg) (D_law_draw : DefD (ct K) P w K mg base 1 "_law_draw" false 2 s_law_draw) (D_law_low : DefD (ct K) P w K mg base 1 "_law_low" false 2 s_law_low) (D_law_pick : DefD (ct K) P w K mg base 2 "_law_pick" false 2 s_law_pick) : FnOk P w K mg base CX0 3 f fd ["_law_pot_here", "_law_most"] (SpD (ct K) false 2 s_law_number) := by
  have sc : FnScope ["_law_pot_here", "_law_most"] ["_law_pot_here", "_law_most"] (defScope (top 51)) := ⟨rfl, rfl, rfl, by decide +kernel, rfl, by decide +kernel, by decide +kernel⟩
  refine fn_D F sc rfl fun cdv A' outer s0 H E W vs ds R Q hr n hm hq => ?_
  obtain ⟨vpot_here, vmost, rfl⟩ : ∃ vpot_here vmost, ds = [vpot_here, vmost] := len2 (len_s_law_number hm)
  have n := n.as (ρ' := [some vpot_here, some vmost]) rfl
  unfold s_law_number at hm
  have hq := fun y u H' a b c d => hq y u H' a b c d fun h => nomatch h
  exact w_retW n (dw_call D_law_low (hr.mono (by decide)) (l_cons (dw_bin (op_subG op_never) (dw_call D_law_draw (hr.mono (by decide)) (l_cons (sv 0 n.see) (l_cons (dw_bin (op_addG op_never) (dw_bin (op_mulG op_never) d_int (sv 1 n.see)) d_int) l_nil))) (sv 1 n.see)) (l_cons (dw_call D_law_pick (hr.mono (by decide)) (l_cons (sv 0 n.see) (l_cons (dw_lst (l_cons d_int (l_cons d_int (l_cons d_int (l_cons d_int (l_cons d_int l_nil)))))) l_nil))) l_nil))) hm hq rfl
theorem ok_law_poly (F : FunD K "_law_poly" "_law_poly" (defArgs (top 52)) (defBody (top 52)) (defScope (top 52)) [] [] f fd) (Tx : Txt K mg) (D_law_draw : DefD (ct K) P w K mg base 1 "_law_draw" false 2 s_law_draw) (D_law_number : DefD (ct K) P w K mg base 3 "_law_number" false 2 s_law_number) (D_law_trim : DefD (ct K) P w K mg base 4 "_law_trim" false 1 s_law_trim) : FnOk P w K mg base CX0 5 f fd ["_law_pot_here", "_law_many"] (SpD (ct K) false 2 s_law_poly) := by
  have sc : FnScope ["_law_pot_here", "_law_many", "_law_found", "_law_place"] ["_law_pot_here", "_law_many"] (defScope (top 52)) := ⟨rfl, rfl, rfl, by decide +kernel, rfl, by decide +kernel, by decide +kernel⟩
  refine fn_D F sc rfl fun cdv A' outer s0 H E W vs ds R Q hr n hm hq => ?_
  obtain ⟨vpot_here, vmany, rfl⟩ : ∃ vpot_here vmany, ds = [vpot_here, vmany] := len2 (len_s_law_poly hm)
  have n := n.as (ρ' := [some vpot_here, some vmany, none, none]) rfl
  unfold s_law_poly at hm
  have hq := fun y u H' a b c d => hq y u H' a b c d fun h => nomatch h
  refine w_own 2 n (fw_lst l_nil) hm sc.nd (fun vfound _ _ _ _ o hm => ?_)
  refine w_forO1 3 (fun vs : List D => [some vpot_here, some vmany, none, none]) (fun vs => vs) (vfound : List D) o (iw_range1 (l_cons (dw_call D_law_draw (hr.mono (by decide)) (l_cons (sv 0 o.now.see) (l_cons (dw_bin (op_addG op_never) (sv 1 o.now.see) d_int) l_nil))) l_nil) Tx.range) hm sc.nd PassesOwn.never rfl (fun _ o => o.cut (.same (.same (.none (.none .nil))))) (fun _ vnO vplace vs nx bk Nx Bk _ _ _ o h1 h2 hm => ?_) (fun vs _ _ _ o hm => ?_)
  · have o := o.as (ρ' := [some vpot_here, some vmany, none, some vplace]) rfl
    refine w_appO o (dw_if (tw_cmp op_gtG (dw_call D_law_draw (hr.mono (by decide)) (l_cons (sv 0 o.now.see) (l_cons d_int l_nil))) d_int) (dw_call D_law_number (hr.mono (by decide)) (l_cons (sv 0 o.now.see) (l_cons d_int l_nil))) (dw_tup (l_cons d_int (l_cons d_int l_nil)))) hm (fun vfound2 _ _ o hm => ?_)
    exact w_nil (h1 vfound2 _ _ _ (o.cut (.same (.same (.none (.none .nil))))) hm)
  · have o := o.as (ρ' := [some vpot_here, some vmany, none, none]) rfl
    have n := (o.end_).as (ρ' := [some vpot_here, some vmany, some (D.lst vs), none]) rfl
    exact w_retW n (dw_call D_law_trim (hr.mono (by decide)) (l_cons (sv 2 n.see) l_nil)) hm hq rfl
theorem ok_law_standing (F : FunD K "_law_standing" "_law_standing" (defArgs (top 53)) (defBody (top 53)) (defScope (top 53)) [] [] f fd) (Tx : Txt K mg) (D_law_pick : DefD (ct K) P w K mg base 2 "_law_pick" false 2 s_law_pick) (D_law_poly : DefD (ct K) P w K mg base 5 "_law_poly" false 2 s_law_poly) : FnOk P w K mg base CX0 6 f fd ["_law_pot_here", "_law_many"] (SpD (ct K) false 2 s_law_standing) := by
  have sc : FnScope ["_law_pot_here", "_law_many"] ["_law_pot_here", "_law_many"] (defScope (top 53)) := ⟨rfl, rfl, rfl, by decide +kernel, rfl, by decide +kernel, by decide +kernel⟩
  refine fn_D F sc rfl fun cdv A' outer s0 H E W vs ds R Q hr n hm hq => ?_
  obtain ⟨vpot_here, vmany, rfl⟩ : ∃ vpot_here vmany, ds = [vpot_here, vmany] := len2 (len_s_law_standing hm)
  have n := n.as (ρ' := [some vpot_here, some vmany]) rfl
  unfold s_law_standing at hm
  have hq := fun y u H' a b c d => hq y u H' a b c d fun h => nomatch h
  exact w_retW n (dw_bin (op_addG op_never) (dw_call D_law_poly (hr.mono (by decide)) (l_cons (sv 0 n.see) (l_cons (dw_bin (op_subG op_never) (sv 1 n.see) d_int) l_nil))) (dw_lst (l_cons (dw_call D_law_pick (hr.mono (by decide)) (l_cons (sv 0 n.see) (l_cons (dw_lst (l_cons (dw_tup (l_cons d_int (l_cons d_int l_nil))) (l_cons (dw_tup (l_cons (dw_un (op_negG op1_never) d_int) (l_cons d_int l_nil))) (l_cons (dw_tup (l_cons d_int (l_cons d_int l_nil))) (l_cons (dw_tup (l_cons (dw_un (op_negG op1_never) d_int) (l_cons d_int l_nil))) l_nil))))) l_nil))) l_nil))) hm hq rfl
theorem ok_law_handed (F : FunD K "_law_handed" "_law_handed" (defArgs (top 55)) (defBody (top 55)) (defScope (top 55)) [] [] f fd) (Tx : Txt K mg) (D_law_draw : DefD (ct K) P w K mg base 1 "_law_draw" false 2 s_law_draw) (M_Ratio2 : MkD (ct K) P w K mg base 4 0 "Ratio" 2 s_Ratio_init []) : FnOk P w K mg base CX0 6 f fd ["_law_pot_here", "_law_number_here"] (SpD (ct K) false 2 s_law_handed) := by
  have sc : FnScope ["_law_pot_here", "_law_number_here"] ["_law_pot_here", "_law_number_here"] (defScope (top 55)) := ⟨rfl, rfl, rfl, by decide +kernel, rfl, by decide +kernel, by decide +kernel⟩
  refine fn_D F sc rfl fun cdv A' outer s0 H E W vs ds R Q hr n hm hq => ?_
  obtain ⟨vpot_here, vnumber_here, rfl⟩ : ∃ vpot_here vnumber_here, ds = [vpot_here, vnumber_here] := len2 (len_s_law_handed hm)
  have n := n.as (ρ' := [some vpot_here, some vnumber_here]) rfl
  unfold s_law_handed at hm
  have hq := fun y u H' a b c d => hq y u H' a b c d fun h => nomatch h
  exact w_retW n (dw_if (tw_w (ww_and (tw_cmp (op_eqT Tx.E0 1 (hr.mono (by decide))) (dw_ix (sv 1 n.see) d_int) d_int) (ww_and1 (tw_cmp (op_eqT Tx.E0 1 (hr.mono (by decide))) (dw_call D_law_draw (hr.mono (by decide)) (l_cons (sv 0 n.see) (l_cons d_int l_nil))) d_int)))) (dw_ix (sv 1 n.see) d_int) (dw_make M_Ratio2 (hr.mono (by decide)) (l_cons (dw_ix (sv 1 n.see) d_int) (l_cons (dw_ix (sv 1 n.see) d_int) l_nil)))) hm hq rfl
theorem ok_law_ratios (F : FunD K "_law_ratios" "_law_ratios" (defArgs (top 50)) (defBody (top 50)) (defScope (top 50)) [] [] f fd) (Tx : Txt K mg) (M_Ratio2 : MkD (ct K) P w K mg base 4 0 "Ratio" 2 s_Ratio_init []) : FnOk P w K mg base CX0 6 f fd ["_law_poly_here"] (SpD (ct K) false 1 s_law_ratios) := by
  have sc : FnScope ["_law_poly_here", "_law_number_here"] ["_law_poly_here"] (defScope (top 50)) := ⟨rfl, rfl, rfl, by decide +kernel, rfl, by decide +kernel, by decide +kernel⟩
  refine fn_D F sc rfl fun cdv A' outer s0 H E W vs ds R Q hr n hm hq => ?_
  obtain ⟨vpoly_here, rfl⟩ : ∃ vpoly_here, ds = [vpoly_here] := len1 (len_s_law_ratios hm)
  have n := n.as (ρ' := [some vpoly_here, none]) rfl
  unfold s_law_ratios at hm
  have hq := fun y u H' a b c d => hq y u H' a b c d fun h => nomatch h
  exact w_retW n (dc_1 1 (iw_val (sv 0 n.see)) n.see (fun _ _ _ _ _ _ _ _ vnumber_here S2 => have S2 := S2.as (ρ' := [some vpoly_here, some vnumber_here]) rfl; (dw_make M_Ratio2 (hr.mono (by decide)) (l_cons (dw_ix (sv 1 S2) d_int) (l_cons (dw_ix (sv 1 S2) d_int) l_nil)))) rfl sc.nd (blkOk_by (show blkC ["_law_poly_here", "_law_number_here"] (defScope (top 50)) _ _ = true by decide +kernel)) (fun _ _ _ _ _ => pg_name (i := 1) sc.nd rfl (by first | exact Or.inl rfl | exact Or.inr rfl))).dw hm hq rfl
theorem ok_law_plus (F : FunD K "_law_plus" "_law_plus" (defArgs (top 45)) (defBody (top 45)) (defScope (top 45)) [] [] f fd) (Tx : Txt K mg) (D_law_low : DefD (ct K) P w K mg base 1 "_law_low" false 2 s_law_low) : FnOk P w K mg base CX0 2 f fd ["_law_a", "_law_b"] (SpD (ct K) false 2 s_law_plus) := by
  have sc : FnScope ["_law_a", "_law_b"] ["_law_a", "_law_b"] (defScope (top 45)) := ⟨rfl, rfl, rfl, by decide +kernel, rfl, by decide +kernel, by decide +kernel⟩
  refine fn_D F sc rfl fun cdv A' outer s0 H E W vs ds R Q hr n hm hq => ?_
  obtain ⟨va, vb, rfl⟩ : ∃ va vb, ds = [va, vb] := len2 (len_s_law_plus hm)
  have n := n.as (ρ' := [some va, some vb]) rfl
  unfold s_law_plus at hm
  have hq := fun y u H' a b c d => hq y u H' a b c d fun h => nomatch h
  exact w_retW n (dw_call D_law_low (hr.mono (by decide)) (l_cons (dw_bin (op_addG op_never) (dw_bin (op_mulG op_never) (dw_ix (sv 0 n.see) d_int) (dw_ix (sv 1 n.see) d_int)) (dw_bin (op_mulG op_never) (dw_ix (sv 1 n.see) d_int) (dw_ix (sv 0 n.see) d_int))) (l_cons (dw_bin (op_mulG op_never) (dw_ix (sv 0 n.see) d_int) (dw_ix (sv 1 n.see) d_int)) l_nil))) hm hq rfl
theorem ok_law_sum (F : FunD K "_law_sum" "_law_sum" (defArgs (top 48)) (defBody (top 48)) (defScope (top 48)) [] [] f fd) (Tx : Txt K mg) (D_law_plus : DefD (ct K) P w K mg base 2 "_law_plus" false 2 s_law_plus) (D_law_trim : DefD (ct K) P w K mg base 4 "_law_trim" false 1 s_law_trim) : FnOk P w K mg base CX0 5 f fd ["_law_one", "_law_other"] (SpD (ct K) false 2 s_law_sum) := by
  have sc : FnScope ["_law_one", "_law_other", "_law_mine", "_law_yours", "_law_at"] ["_law_one", "_law_other"] (defScope (top 48)) := ⟨rfl, rfl, rfl, by decide +kernel, rfl, by decide +kernel, by decide +kernel⟩
  refine fn_D F sc rfl fun cdv A' outer s0 H E W vs ds R Q hr n hm hq => ?_
  obtain ⟨vone, vother, rfl⟩ : ∃ vone vother, ds = [vone, vother] := len2 (len_s_law_sum hm)
  have n := n.as (ρ' := [some vone, some vother, none, none, none]) rfl
  unfold s_law_sum at hm
  have hq := fun y u H' a b c d => hq y u H' a b c d fun h => nomatch h
  refine w_unp n (.cons (i := 2) rfl (by first | exact Or.inl rfl | exact Or.inr rfl) (by first | exact .inl rfl | exact .inr rfl) rfl (.cons (i := 3) rfl (by first | exact Or.inl rfl | exact Or.inr rfl) (by first | exact .inl rfl | exact .inr rfl) rfl .nil)) (dw_if (tw_cmp op_geG (dw_B b_len Tx.len hv_len (l_cons (sv 0 n.see) l_nil)) (dw_B b_len Tx.len hv_len (l_cons (sv 1 n.see) l_nil))) (dw_tup (l_cons (sv 0 n.see) (l_cons (sv 1 n.see) l_nil))) (dw_tup (l_cons (sv 1 n.see) (l_cons (sv 0 n.see) l_nil)))) hm sc.nd rfl (fun ds _ _ hl n1 hm => ?_)
  obtain ⟨vmine, vyours, rfl⟩ := len2 hl
  dsimp only [l2] at hm
  have n := n1.as (ρ' := [some vone, some vother, some vmine, some vyours, none]) rfl
  exact w_retW n (dw_call D_law_trim (hr.mono (by decide)) (l_cons (dc_1 4 (iw_range1 (l_cons (dw_B b_len Tx.len hv_len (l_cons (sv 2 n.see) l_nil)) l_nil) Tx.range) n.see (fun _ _ _ _ _ _ _ _ vat S2 => have S2 := S2.as (ρ' := [some vone, some vother, some vmine, some vyours, some vat]) rfl; (dw_if (tw_cmp op_ltG (sv 4 S2) (dw_B b_len Tx.len hv_len (l_cons (sv 3 S2) l_nil))) (dw_call D_law_plus (hr.mono (by decide)) (l_cons (dw_ix (sv 2 S2) (sv 4 S2)) (l_cons (dw_ix (sv 3 S2) (sv 4 S2)) l_nil))) (dw_ix (sv 2 S2) (sv 4 S2)))) rfl sc.nd (blkOk_by (show blkC ["_law_one", "_law_other", "_law_mine", "_law_yours", "_law_at"] (defScope (top 48)) _ _ = true by decide +kernel)) (fun _ _ _ _ _ => pg_name (i := 4) sc.nd rfl (by first | exact Or.inl rfl | exact Or.inr rfl))).dw l_nil)) hm hq rfl
theorem ok_law_by (F : FunD K "_law_by" "_law_by" (defArgs (top 46)) (defBody (top 46)) (defScope (top 46)) [] [] f fd) (Tx : Txt K mg) (D_law_low : DefD (ct K) P w K mg base 1 "_law_low" false 2 s_law_low) : FnOk P w K mg base CX0 2 f fd ["_law_a", "_law_b"] (SpD (ct K) false 2 s_law_by) := by
  have sc : FnScope ["_law_a", "_law_b"] ["_law_a", "_law_b"] (defScope (top 46)) := ⟨rfl, rfl, rfl, by decide +kernel, rfl, by decide +kernel, by decide +kernel⟩
  refine fn_D F sc rfl fun cdv A' outer s0 H E W vs ds R Q hr n hm hq => ?_
  obtain ⟨va, vb, rfl⟩ : ∃ va vb, ds = [va, vb] := len2 (len_s_law_by hm)
  have n := n.as (ρ' := [some va, some vb]) rfl
  unfold s_law_by at hm
  have hq := fun y u H' a b c d => hq y u H' a b c d fun h => nomatch h
  exact w_retW n (dw_call D_law_low (hr.mono (by decide)) (l_cons (dw_bin (op_mulG op_never) (dw_ix (sv 0 n.see) d_int) (dw_ix (sv 1 n.see) d_int)) (l_cons (dw_bin (op_mulG op_never) (dw_ix (sv 0 n.see) d_int) (dw_ix (sv 1 n.see) d_int)) l_nil))) hm hq rfl
theorem ok_law_times (F : FunD K "_law_times" "_law_times" (defArgs (top 49)) (defBody (top 49)) (defScope (top 49)) [] [] f fd) (Tx : Txt K mg) (D_law_by : DefD (ct K) P w K mg base 2 "_law_by" false 2 s_law_by) (D_law_plus : DefD (ct K) P w K mg base 2 "_law_plus" false 2 s_law_plus) (D_law_trim : DefD (ct K) P w K mg base 4 "_law_trim" false 1 s_law_trim) : FnOk P w K mg base CX0 5 f fd ["_law_one", "_law_other"] (SpD (ct K) false 2 s_law_times) := by
  have sc : FnScope ["_law_one", "_law_other", "_law_found", "_law_at", "_law_mine", "_law_to", "_law_yours"] ["_law_one", "_law_other"] (defScope (top 49)) := ⟨rfl, rfl, rfl, by decide +kernel, rfl, by decide +kernel, by decide +kernel⟩
  refine fn_D F sc rfl fun cdv A' outer s0 H E W vs ds R Q hr n hm hq => ?_
  obtain ⟨vone, vother, rfl⟩ : ∃ vone vother, ds = [vone, vother] := len2 (len_s_law_times hm)
  have n := n.as (ρ' := [some vone, some vother, none, none, none, none, none]) rfl
  unfold s_law_times at hm
  have hq := fun y u H' a b c d => hq y u H' a b c d fun h => nomatch h
  refine w_own 2 n (fw_mul (l_cons (dw_tup (l_cons d_int (l_cons d_int l_nil))) l_nil) (dw_B (b_max rfl) Tx.max hv_max (l_cons d_int (l_cons (dw_bin (op_subG op_never) (dw_bin (op_addG op_never) (dw_B b_len Tx.len hv_len (l_cons (sv 0 n.see) l_nil)) (dw_B b_len Tx.len hv_len (l_cons (sv 1 n.see) l_nil))) d_int) l_nil)))) hm sc.nd (fun vfound _ _ _ _ o hm => ?_)
  refine w_forO2 3 4 (fun vs : List D => [some vone, some vother, none, none, none, none, none]) (fun vs => vs) (vfound : List D) o (iw_enum (l_cons (sv 0 o.now.see) l_nil) Tx.enumerate) hm sc.nd PassesOwn.never rfl (fun _ o => o.cut (.same (.same (.none (.none (.none (.none (.none .nil)))))))) (fun _ vnO vat vmine vs nx bk Nx Bk _ _ _ o h1 h2 hm => ?_) (fun vs _ _ _ o hm => ?_)
  · have o := o.as (ρ' := [some vone, some vother, none, some vat, some vmine, none, none]) rfl
    refine w_forO2 5 6 (fun vs2 : List D => [some vone, some vother, none, some vat, some vmine, none, none]) (fun vs2 => vs2) (vs : List D) o (iw_enum (l_cons (sv 1 o.now.see) l_nil) Tx.enumerate) hm sc.nd PassesOwn.never rfl (fun _ o => o.cut (.same (.same (.none (.same (.same (.none (.none .nil)))))))) (fun _ vnO2 vto vyours vs2 nx bk Nx Bk _ _ _ o h1 h2 hm => ?_) (fun vs2 _ _ _ o hm => ?_)
    · have o := o.as (ρ' := [some vone, some vother, none, some vat, some vmine, some vto, some vyours]) rfl
      refine w_storeO o (dw_call D_law_plus (hr.mono (by decide)) (l_cons (dw_ixO o (dw_bin (op_addG op_never) (sv 3 o.now.see) (sv 5 o.now.see))) (l_cons (dw_call D_law_by (hr.mono (by decide)) (l_cons (sv 4 o.now.see) (l_cons (sv 6 o.now.see) l_nil))) l_nil))) (dw_bin (op_addG op_never) (sv 3 o.now.see) (sv 5 o.now.see)) hm (fun vfound2 _ _ o hm => ?_)
      exact w_nil (h1 vfound2 _ _ _ (o.cut (.same (.same (.none (.same (.same (.none (.none .nil)))))))) hm)
    · have o := o.as (ρ' := [some vone, some vother, none, some vat, some vmine, none, none]) rfl
      exact w_nil (h1 vs2 _ _ _ (o.cut (.same (.same (.none (.none (.none (.none (.none .nil)))))))) hm)
  · have o := o.as (ρ' := [some vone, some vother, none, none, none, none, none]) rfl
    have n := (o.end_).as (ρ' := [some vone, some vother, some (D.lst vs), none, none, none, none]) rfl
    exact w_retW n (dw_call D_law_trim (hr.mono (by decide)) (l_cons (sv 2 n.see) l_nil)) hm hq rfl
theorem ok_law_led (F : FunD K "_law_led" "_law_led" (defArgs (top 56)) (defBody (top 56)) (defScope (top 56)) [] [] f fd) (Tx : Txt K mg) (D_law_sum : DefD (ct K) P w K mg base 5 "_law_sum" false 2 s_law_sum) (D_law_times : DefD (ct K) P w K mg base 5 "_law_times" false 2 s_law_times) (D_law_trim : DefD (ct K) P w K mg base 4 "_law_trim" false 1 s_law_trim) : FnOk P w K mg base CX0 6 f fd ["_law_poly_here", "_law_other"] (SpD (ct K) false 2 s_law_led) := by
  have sc : FnScope ["_law_poly_here", "_law_other", "_law_found", "_law_one"] ["_law_poly_here", "_law_other"] (defScope (top 56)) := ⟨rfl, rfl, rfl, by decide +kernel, rfl, by decide +kernel, by decide +kernel⟩
  refine fn_D F sc rfl fun cdv A' outer s0 H E W vs ds R Q hr n hm hq => ?_
  obtain ⟨vpoly_here, vother, rfl⟩ : ∃ vpoly_here vother, ds = [vpoly_here, vother] := len2 (len_s_law_led hm)
  have n := n.as (ρ' := [some vpoly_here, some vother, none, none]) rfl
  unfold s_law_led at hm
  have hq := fun y u H' a b c d => hq y u H' a b c d fun h => nomatch h
  refine w_set 2 n (dw_lst l_nil) hm sc.nd (fun vfound _ _ n1 hm => ?_)
  have n := n1.as (ρ' := [some vpoly_here, some vother, some vfound, none]) rfl
  refine w_for1 3 (fun vs : D => [some vpoly_here, some vother, some vs, none]) (vfound : D) n (iw_val (dw_rev (sv 0 n.see))) hm sc.nd PassesOwn.never rfl (fun _ n => n.cut (.same (.same (.same (.none .nil))))) (fun _ vnO vone vs nx bk Nx Bk _ _ n h1 h2 hm => ?_) (fun vs _ _ n hm => ?_)
  · have n := n.as (ρ' := [some vpoly_here, some vother, some vs, some vone]) rfl
    refine w_set 2 n (dw_call D_law_sum (hr.mono (by decide)) (l_cons (dw_call D_law_times (hr.mono (by decide)) (l_cons (sv 2 n.see) (l_cons (sv 1 n.see) l_nil))) (l_cons (dw_call D_law_trim (hr.mono (by decide)) (l_cons (dw_lst (l_cons (sv 3 n.see) l_nil)) l_nil)) l_nil))) hm sc.nd (fun vfound2 _ _ n1 hm => ?_)
    have n := n1.as (ρ' := [some vpoly_here, some vother, some vfound2, some vone]) rfl
    exact w_nil (h1 vfound2 _ _ (n.cut (.same (.same (.same (.none .nil))))) hm)
  · have n := n.as (ρ' := [some vpoly_here, some vother, some vs, none]) rfl
    exact w_retW n (sv 2 n.see) hm hq rfl
theorem ok_law_put_right (F : Fun K "_law_put_right" "_law_put_right" (top 57) f fd) (Tx : Txt K mg) (D_law_given : DefD (ct K) P w K mg base 6 "_law_given" false 2 s_law_given) (D_law_handed : DefD (ct K) P w K mg base 6 "_law_handed" false 2 s_law_handed) (D_law_led : DefD (ct K) P w K mg base 6 "_law_led" false 2 s_law_led) (D_law_number : DefD (ct K) P w K mg base 3 "_law_number" false 2 s_law_number) (D_law_ratios : DefD (ct K) P w K mg base 6 "_law_ratios" false 1 s_law_ratios) (D_degree : DefD (ct K) P w K mg base 7 "degree" false 1 s_degree) (D_derived : DefD (ct K) P w K mg base 7 "derived" true 1 s_derived) (D_plus : DefD (ct K) P w K mg base 7 "plus" true 2 s_plus) (D_put_in : DefD (ct K) P w K mg base 7 "put_in" false 2 s_put_in) (D_times : DefD (ct K) P w K mg base 7 "times" true 2 s_times) (D_worth : DefD (ct K) P w K mg base 7 "worth" false 2 s_worth) (K_put_in_other_poly : DefK (ct K) P w K mg base 7 "put_in" false 0 ["other", "poly"] [1, 0] 2 s_put_in) (E1 : EqsB (ct K) P w K mg base 4 ownE) (RT : TxtB (ct K) P w K mg base 1 ownT) : FnG P w K mg base 10 f fd ["_law_pot_here", "_law_one", "_law_other", "_law_third"] (SpD (ct K) false 4 s_law_put_right) := by
  have sc : FnScope ["_law_pot_here", "_law_one", "_law_other", "_law_third", "_law_first", "_law_second", "_law_last", "_law_number_here", "_law_passed", "_law_stay", "_law_found"] ["_law_pot_here", "_law_one", "_law_other", "_law_third"] (defScope (top 57)) := ⟨rfl, rfl, rfl, by decide +kernel, rfl, by decide +kernel, by decide +kernel⟩
  refine fn_DG F sc rfl fun cdv A' outer s0 H W vs ds R Q hG hr n hm hq => ?_
  obtain ⟨vpot_here, vone, vother, vthird, rfl⟩ : ∃ vpot_here vone vother vthird, ds = [vpot_here, vone, vother, vthird] := len4 (len_s_law_put_right hm)
  have n := n.as (ρ' := [some vpot_here, some vone, some vother, some vthird, none, none, none, none, none, none, none]) rfl
  unfold s_law_put_right at hm
  have hq := fun y u H' a b c d => hq y u H' a b c d fun h => nomatch h
  refine w_unp n (.cons (i := 4) rfl (by first | exact Or.inl rfl | exact Or.inr rfl) (by first | exact .inl rfl | exact .inr rfl) rfl (.cons (i := 5) rfl (by first | exact Or.inl rfl | exact Or.inr rfl) (by first | exact .inl rfl | exact .inr rfl) rfl (.cons (i := 6) rfl (by first | exact Or.inl rfl | exact Or.inr rfl) (by first | exact .inl rfl | exact .inr rfl) rfl (.cons (i := 7) rfl (by first | exact Or.inl rfl | exact Or.inr rfl) (by first | exact .inl rfl | exact .inr rfl) rfl .nil)))) (dw_tup (l_cons (dw_call D_law_given (hr.mono (by decide)) (l_cons (sv 0 n.see) (l_cons (sv 1 n.see) l_nil))) (l_cons (dw_call D_law_given (hr.mono (by decide)) (l_cons (sv 0 n.see) (l_cons (sv 2 n.see) l_nil))) (l_cons (dw_call D_law_given (hr.mono (by decide)) (l_cons (sv 0 n.see) (l_cons (sv 3 n.see) l_nil))) (l_cons (dw_call D_law_number (hr.mono (by decide)) (l_cons (sv 0 n.see) (l_cons d_int l_nil))) l_nil))))) hm sc.nd rfl (fun ds _ _ hl n1 hm => ?_)
  obtain ⟨vfirst, vsecond, vlast, vnumber_here, rfl⟩ := len4 hl
  dsimp only [l4] at hm
  have n := n1.as (ρ' := [some vpot_here, some vone, some vother, some vthird, some vfirst, some vsecond, some vlast, some vnumber_here, none, none, none]) rfl
  refine w_par 8 9 n (l_cons (dw_call D_law_handed (hr.mono (by decide)) (l_cons (sv 0 n.see) (l_cons (sv 7 n.see) l_nil))) (l_cons (dw_B (b_repr (n := 2) RT hG (hr.mono (by decide))) Tx.repr hv_repr (l_cons (dw_lst (l_cons (sv 4 n.see) (l_cons (sv 5 n.see) (l_cons (sv 6 n.see) l_nil)))) l_nil)) l_nil)) hm rfl sc.nd (fun vpassed vstay _ _ n1 hm => ?_) l2_len
  dsimp only [l2] at hm
  have n := n1.as (ρ' := [some vpot_here, some vone, some vother, some vthird, some vfirst, some vsecond, some vlast, some vnumber_here, some vpassed, some vstay, none]) rfl
  refine w_set 10 n (dw_call D_put_in (hr.mono (by decide)) (l_cons (sv 4 n.see) (l_cons (sv 5 n.see) l_nil))) hm sc.nd (fun vfound _ _ n1 hm => ?_)
  have n := n1.as (ρ' := [some vpot_here, some vone, some vother, some vthird, some vfirst, some vsecond, some vlast, some vnumber_here, some vpassed, some vstay, some vfound]) rfl
  refine w_if n (tw_w (ww_or (tw_cmp (op_neT E1 3 (hr.mono (by decide))) (dw_B (b_repr (n := 2) RT hG (hr.mono (by decide))) Tx.repr hv_repr (l_cons (sv 10 n.see) l_nil)) (dw_B (b_repr (n := 2) RT hG (hr.mono (by decide))) Tx.repr hv_repr (l_cons (dw_call D_law_ratios (hr.mono (by decide)) (l_cons (dw_call D_law_led (hr.mono (by decide)) (l_cons (sv 1 n.see) (l_cons (sv 2 n.see) l_nil))) l_nil)) l_nil))) (ww_or1 (tw_cmp (op_neT E1 3 (hr.mono (by decide))) (dw_callK K_put_in_other_poly (hr.mono (by decide)) (k_cons (sv 5 n.see) (k_cons (sv 4 n.see) k_nil))) (sv 10 n.see))))) hm (fun _ n hm => ?_) (fun _ n hm => ?_)
  · exact w_retW n d_bl hm hq rfl
  · refine w_nil ?_
    show Wss _ _ _ _ _
    refine w_if n (tw_cmp (op_neT E1 3 (hr.mono (by decide))) (dw_call D_worth (hr.mono (by decide)) (l_cons (sv 10 n.see) (l_cons (sv 8 n.see) l_nil))) (dw_call D_worth (hr.mono (by decide)) (l_cons (sv 4 n.see) (l_cons (dw_call D_worth (hr.mono (by decide)) (l_cons (sv 5 n.see) (l_cons (sv 8 n.see) l_nil))) l_nil)))) hm (fun _ n hm => ?_) (fun _ n hm => ?_)
    · exact w_retW n d_bl hm hq rfl
    · refine w_nil ?_
      show Wss _ _ _ _ _
      refine w_if n (tw_cmp (op_neT E1 3 (hr.mono (by decide))) (dw_call D_put_in (hr.mono (by decide)) (l_cons (sv 10 n.see) (l_cons (sv 6 n.see) l_nil))) (dw_call D_put_in (hr.mono (by decide)) (l_cons (sv 4 n.see) (l_cons (dw_call D_put_in (hr.mono (by decide)) (l_cons (sv 5 n.see) (l_cons (sv 6 n.see) l_nil))) l_nil)))) hm (fun _ n hm => ?_) (fun _ n hm => ?_)
      · exact w_retW n d_bl hm hq rfl
      · refine w_nil ?_
        show Wss _ _ _ _ _
        refine w_if n (tw_w (ww_or (tw_cmp (op_neT E1 3 (hr.mono (by decide))) (dw_call D_put_in (hr.mono (by decide)) (l_cons (dw_call D_plus (hr.mono (by decide)) (l_cons (sv 4 n.see) (l_cons (sv 6 n.see) l_nil))) (l_cons (sv 5 n.see) l_nil))) (dw_call D_plus (hr.mono (by decide)) (l_cons (sv 10 n.see) (l_cons (dw_call D_put_in (hr.mono (by decide)) (l_cons (sv 6 n.see) (l_cons (sv 5 n.see) l_nil))) l_nil)))) (ww_or1 (tw_cmp (op_neT E1 3 (hr.mono (by decide))) (dw_call D_put_in (hr.mono (by decide)) (l_cons (dw_call D_times (hr.mono (by decide)) (l_cons (sv 4 n.see) (l_cons (sv 6 n.see) l_nil))) (l_cons (sv 5 n.see) l_nil))) (dw_call D_times (hr.mono (by decide)) (l_cons (sv 10 n.see) (l_cons (dw_call D_put_in (hr.mono (by decide)) (l_cons (sv 6 n.see) (l_cons (sv 5 n.see) l_nil))) l_nil))))))) hm (fun _ n hm => ?_) (fun _ n hm => ?_)
        · exact w_retW n d_bl hm hq rfl
        · refine w_nil ?_
          show Wss _ _ _ _ _
          refine w_if n (tw_w (ww_or (tw_cmp (op_neT E1 3 (hr.mono (by decide))) (dw_call D_derived (hr.mono (by decide)) (l_cons (sv 10 n.see) l_nil)) (dw_call D_times (hr.mono (by decide)) (l_cons (dw_call D_put_in (hr.mono (by decide)) (l_cons (dw_call D_derived (hr.mono (by decide)) (l_cons (sv 4 n.see) l_nil)) (l_cons (sv 5 n.see) l_nil))) (l_cons (dw_call D_derived (hr.mono (by decide)) (l_cons (sv 5 n.see) l_nil)) l_nil)))) (ww_or1 (tw_cmp (op_neT E1 3 (hr.mono (by decide))) (dw_B (b_repr (n := 2) RT hG (hr.mono (by decide))) Tx.repr hv_repr (l_cons (dw_lst (l_cons (sv 4 n.see) (l_cons (sv 5 n.see) (l_cons (sv 6 n.see) l_nil)))) l_nil)) (sv 9 n.see))))) hm (fun _ n hm => ?_) (fun _ n hm => ?_)
          · exact w_retW n d_bl hm hq rfl
          · refine w_nil ?_
            show Wss _ _ _ _ _
            exact w_retW n (dw_or (dw_cmp (op_eqT E1 3 (hr.mono (by decide))) (dw_B b_len Tx.len hv_len (l_cons (sv 1 n.see) l_nil)) d_int) (dw_or (dw_cmp op_ltG (dw_B b_len Tx.len hv_len (l_cons (sv 2 n.see) l_nil)) d_int) (dw_one (dw_cmp (op_eqT E1 3 (hr.mono (by decide))) (dw_call D_degree (hr.mono (by decide)) (l_cons (sv 10 n.see) l_nil)) (dw_bin (op_mulG op_never) (dw_bin (op_subG op_never) (dw_B b_len Tx.len hv_len (l_cons (sv 1 n.see) l_nil)) d_int) (dw_bin (op_subG op_never) (dw_B b_len Tx.len hv_len (l_cons (sv 2 n.see) l_nil)) d_int)))))) hm hq rfl
theorem ok_law_right_k13 (F : Fun K "_law_right" "_law_right" (top 58) f fd) (Tx : Txt K mg) (D_law_draw : DefD (ct K) P w K mg base 1 "_law_draw" false 2 s_law_draw) (D_law_given : DefD (ct K) P w K mg base 6 "_law_given" false 2 s_law_given) (D_law_pick : DefD (ct K) P w K mg base 2 "_law_pick" false 2 s_law_pick) (D_law_poly : DefD (ct K) P w K mg base 5 "_law_poly" false 2 s_law_poly) (D_law_put_right : DefDG (ct K) P w K mg base 10 "_law_put_right" false 4 s_law_put_right) (D_law_ratios : DefD (ct K) P w K mg base 6 "_law_ratios" false 1 s_law_ratios) (D_law_standing : DefD (ct K) P w K mg base 6 "_law_standing" false 2 s_law_standing) (D_put_in : DefD (ct K) P w K mg base 7 "put_in" false 2 s_put_in) (D_worth : DefD (ct K) P w K mg base 7 "worth" false 2 s_worth) (M_Ratio1 : MkD (ct K) P w K mg base 4 0 "Ratio" 2 s_Ratio_init [D.int 1]) (E1 : EqsB (ct K) P w K mg base 4 ownE) : FnG P w K mg base 11 f fd ["_law_pot_here"] (SpD (ct K) false 1 s_law_right_k13) := by
  have sc : FnScope ["_law_pot_here", "_law_one", "_law_other", "_law_third", "_law_flat", "_law_given_here", "_law_number_here", "_law_there"] ["_law_pot_here"] (defScope (top 58)) := ⟨rfl, rfl, rfl, by decide +kernel, rfl, by decide +kernel, by decide +kernel⟩
  refine fn_DG F sc rfl fun cdv A' outer s0 H W vs ds R Q hG hr n hm hq => ?_
  obtain ⟨vpot_here, rfl⟩ : ∃ vpot_here, ds = [vpot_here] := len1 (len_s_law_right_k13 hm)
  have n := n.as (ρ' := [some vpot_here, none, none, none, none, none, none, none]) rfl
  unfold s_law_right_k13 at hm
  have hq := fun y u H' a b c d => hq y u H' a b c d fun h => nomatch h
  refine w_par3 1 2 3 n (l_cons (dw_call D_law_standing (hr.mono (by decide)) (l_cons (sv 0 n.see) (l_cons d_int l_nil))) (l_cons (dw_call D_law_standing (hr.mono (by decide)) (l_cons (sv 0 n.see) (l_cons d_int l_nil))) (l_cons (dw_call D_law_poly (hr.mono (by decide)) (l_cons (sv 0 n.see) (l_cons d_int l_nil))) l_nil))) hm rfl sc.nd (fun vone vother vthird _ _ n1 hm => ?_) l3_len
  dsimp only [l3] at hm
  have n := n1.as (ρ' := [some vpot_here, some vone, some vother, some vthird, none, none, none, none]) rfl
  refine w_set 4 n (dw_call D_law_pick (hr.mono (by decide)) (l_cons (sv 0 n.see) (l_cons (dw_lst (l_cons (dw_lst l_nil) (l_cons (dw_lst (l_cons (dw_tup (l_cons d_int (l_cons d_int l_nil))) l_nil)) (l_cons (dw_lst (l_cons (dw_tup (l_cons d_int (l_cons d_int l_nil))) (l_cons (dw_tup (l_cons d_int (l_cons d_int l_nil))) l_nil))) (l_cons (dw_lst (l_cons (dw_tup (l_cons d_int (l_cons d_int l_nil))) (l_cons (dw_tup (l_cons (dw_un (op_negG op1_never) d_int) (l_cons d_int l_nil))) l_nil))) (l_cons (dw_lst (l_cons (dw_tup (l_cons d_int (l_cons d_int l_nil))) (l_cons (dw_tup (l_cons d_int (l_cons d_int l_nil))) (l_cons (dw_tup (l_cons d_int (l_cons d_int l_nil))) l_nil)))) l_nil)))))) l_nil))) hm sc.nd (fun vflat _ _ n1 hm => ?_)
  have n := n1.as (ρ' := [some vpot_here, some vone, some vother, some vthird, some vflat, none, none, none]) rfl
  refine w_if n (tw_w (ww_or (tw_not (tw_tru (dw_callG D_law_put_right hG (hr.mono (by decide)) (l_cons (sv 0 n.see) (l_cons (sv 1 n.see) (l_cons (sv 2 n.see) (l_cons (sv 3 n.see) l_nil))))))) (ww_or (tw_not (tw_tru (dw_callG D_law_put_right hG (hr.mono (by decide)) (l_cons (sv 0 n.see) (l_cons (sv 4 n.see) (l_cons (sv 1 n.see) (l_cons (sv 3 n.see) l_nil))))))) (ww_or1 (tw_not (tw_tru (dw_callG D_law_put_right hG (hr.mono (by decide)) (l_cons (sv 0 n.see) (l_cons (sv 1 n.see) (l_cons (sv 4 n.see) (l_cons (dw_lst l_nil) l_nil))))))))))) hm (fun _ n hm => ?_) (fun _ n hm => ?_)
  · exact w_retW n d_bl hm hq rfl
  · refine w_nil ?_
    show Wss _ _ _ _ _
    refine w_set 5 n (dw_call D_law_given (hr.mono (by decide)) (l_cons (sv 0 n.see) (l_cons (sv 1 n.see) l_nil))) hm sc.nd (fun vgiven_here _ _ n1 hm => ?_)
    have n := n1.as (ρ' := [some vpot_here, some vone, some vother, some vthird, some vflat, some vgiven_here, none, none]) rfl
    refine w_if n (tw_w (ww_or (tw_cmp (op_neT E1 3 (hr.mono (by decide))) (dw_call D_put_in (hr.mono (by decide)) (l_cons (sv 5 n.see) (l_cons (dw_lst (l_cons d_int (l_cons d_int l_nil))) l_nil))) (dw_call D_law_ratios (hr.mono (by decide)) (l_cons (sv 1 n.see) l_nil))) (ww_or (tw_cmp (op_neT E1 3 (hr.mono (by decide))) (dw_call D_put_in (hr.mono (by decide)) (l_cons (dw_lst (l_cons d_int (l_cons d_int (l_cons d_int l_nil)))) (l_cons (sv 5 n.see) l_nil))) (dw_call D_law_ratios (hr.mono (by decide)) (l_cons (sv 1 n.see) l_nil))) (ww_or1 (tw_cmp (op_neT E1 3 (hr.mono (by decide))) (dw_call D_put_in (hr.mono (by decide)) (l_cons (dw_lst l_nil) (l_cons (sv 5 n.see) l_nil))) (dw_lst l_nil)))))) hm (fun _ n hm => ?_) (fun _ n hm => ?_)
    · exact w_retW n d_bl hm hq rfl
    · refine w_nil ?_
      show Wss _ _ _ _ _
      refine w_set 6 n (dw_bin (op_subG op_never) (dw_call D_law_draw (hr.mono (by decide)) (l_cons (sv 0 n.see) (l_cons d_int l_nil))) d_int) hm sc.nd (fun vnumber_here _ _ n1 hm => ?_)
      have n := n1.as (ρ' := [some vpot_here, some vone, some vother, some vthird, some vflat, some vgiven_here, some vnumber_here, none]) rfl
      refine w_set 7 n (dw_call D_worth (hr.mono (by decide)) (l_cons (sv 5 n.see) (l_cons (sv 6 n.see) l_nil))) hm sc.nd (fun vthere _ _ n1 hm => ?_)
      have n := n1.as (ρ' := [some vpot_here, some vone, some vother, some vthird, some vflat, some vgiven_here, some vnumber_here, some vthere]) rfl
      refine w_if n (tw_cmp (op_neT E1 3 (hr.mono (by decide))) (dw_call D_put_in (hr.mono (by decide)) (l_cons (dw_lst (l_cons (sv 6 n.see) l_nil)) (l_cons (sv 5 n.see) l_nil))) (dw_if (tw_cmp (op_neT E1 3 (hr.mono (by decide))) (sv 6 n.see) d_int) (dw_lst (l_cons (dw_make M_Ratio1 (hr.mono (by decide)) (l_cons (sv 6 n.see) l_nil)) l_nil)) (dw_lst l_nil))) hm (fun _ n hm => ?_) (fun _ n hm => ?_)
      · exact w_retW n d_bl hm hq rfl
      · refine w_nil ?_
        show Wss _ _ _ _ _
        exact w_retW n (dw_cmp (op_eqT E1 3 (hr.mono (by decide))) (dw_call D_put_in (hr.mono (by decide)) (l_cons (sv 5 n.see) (l_cons (dw_lst (l_cons (sv 6 n.see) l_nil)) l_nil))) (dw_if (tw_cmp (op_neT E1 3 (hr.mono (by decide))) (sv 7 n.see) (dw_make M_Ratio1 (hr.mono (by decide)) (l_cons d_int l_nil))) (dw_lst (l_cons (sv 7 n.see) l_nil)) (dw_lst l_nil))) hm hq rfl
end
end K13
set_option Elab.async false
set_option linter.all false
set_option maxRecDepth 100000
set_option maxHeartbeats 4000000
namespace Uv
open PySem PySem.Spec PyProof.Rows L2 Inn
/-! the head: what it tells of the objects below n; its run in three looks -/
def atY (n : Nat) (ok : PySem.W.Frag → Bool) (fn : List He5.DefA) (g : Addr → Option Obj) : He.AlD := seeX ok fn (He.frG g (List.range n))
def hookY (n : Nat) (ok : PySem.W.Frag → Bool) (fn : List He5.DefA) : PySem.W.Hook where
  α := He.AlD
  obs := fun s => atY n ok fn s.heap.get?
  val := fun _ => dueX fn
  says := fun _ h => ∃ K : PySem.W.Frag, K.In h ∧ TellX ok fn K
  of := fun _ _ e => ⟨_, He.frG_in, e⟩
  keeps := fun _ _ _ ⟨K, hK, c⟩ k => ⟨K, PySem.W.Frag.In.keeps hK k, c⟩
theorem atY_eq {n : Nat} {ok : PySem.W.Frag → Bool} {fn : List He5.DefA} {g : Addr → Option Obj} {s : Shared} (h : ∀ a, g a = s.heap.get? a) : atY n ok fn g = (hookY n ok fn).obs s := by
  have e : g = s.heap.get? := funext h
  rw [e] <;> rfl
theorem three {α β γ δ : Type} {X : Option α} {f : α → β} {g : α → γ} {h : α → δ} {b : β} {c : γ} {d : δ} (h1 : X.map f = some b) (h2 : X.map g = some c) (h3 : X.map h = some d) : X.map (fun x => (f x, g x, h x)) = some (b, c, d) := by
  cases X with
  | none => cases h1
  | some x =>
    cases h1
    cases h2
    cases h3
    rfl
/-- the walk, the written part told by the head -/
theorem walkE {l : PySem.W.OpenLaw} {n k : Nat} {q : Program} {loose : List Str} {XP : (Str → Option Value) → Heap → Prop} {YP : World → Heap → Prop} {d : DefRec} {x : Str}
    (most : l.most = some n) (small : n ≤ sizeLine) (nodef : d.params.defaults = []) (rm : Room k callerA)
    (F : ∀ (w : World) (mg : Str → Option Value) (fa : Addr) (h : Heap), YP w h → h.Ns mainGlobals mg → mg d.name = some (.ref fa) → ∃ (K : PySem.W.Frag) (fd : FuncData) (sp : Sp), K.In h ∧ (∀ (s : Shared) (u : Value), BindsTo s fd ⟨[u], []⟩ [(x, u)]) ∧
      (∀ (T : Hp) (a : Addr) (ns : List Int), Only T → SqL K T a (ns.map V.int) → sp [.ref a] T (fun v _ => v = .bl true) E0) ∧ ∀ base : Heap, K.In base → base.Ns mainGlobals mg → FnG l.prog w K mg base k fa fd [x] sp) :
    PySem.W.WalkO q loose XP YP l.row.toRowW d [] (fun f vs => PySem.call f vs) := by
  refine Att.attach_call most nodef fun w s0 s1 mg mb fa o pm cd doc a vs ns G Y ho hd hcd named obj itz len ge => ?_
  obtain ⟨K, fd, sp, inK, bd, hs, all⟩ := F w mg fa _ Y G.T.g named
  exact callG inK G.T.g G.T.b G.T.builtins G.T.nolimit ge obj itz (Nat.le_trans len small) rm all bd fun T oT hS => hs T a ns oT hS
end Uv
set_option Elab.async false
set_option linter.all false
set_option maxRecDepth 100000
set_option maxHeartbeats 0
set_option exponentiation.threshold 20000
namespace K13
open PySem PySem.Spec PyProof.Rows L2 Inn Uv
def facts (K : PySem.W.Frag) : List Bool := [
  He.eqO (PySem.W.nsIn K mainGlobals "len") (some none),
  He.eqO (PySem.W.nsIn K mainGlobals "abs") (some none),
  He.eqO (PySem.W.nsIn K mainGlobals "max") (some none),
  He.eqO (PySem.W.nsIn K mainGlobals "min") (some none),
  He.eqO (PySem.W.nsIn K mainGlobals "sum") (some none),
  He.eqO (PySem.W.nsIn K mainGlobals "all") (some none),
  He.eqO (PySem.W.nsIn K mainGlobals "any") (some none),
  He.eqO (PySem.W.nsIn K mainGlobals "divmod") (some none),
  He.eqO (PySem.W.nsIn K mainGlobals "repr") (some none),
  He.eqO (PySem.W.nsIn K mainGlobals "range") (some none),
  He.eqO (PySem.W.nsIn K mainGlobals "enumerate") (some none),
  He.eqO (PySem.W.nsIn K mainGlobals "zip") (some none),
  He.eqO (PySem.W.nsIn K mainGlobals "isinstance") (some none),
  He.eqO (PySem.W.nsIn K mainGlobals "int") (some none),
  He.eqO (PySem.W.nsIn K mainGlobals "bool") (some none),
  He.eqO (PySem.W.nsIn K mainGlobals "str") (some none),
  He.eqO (PySem.W.nsIn K mainGlobals "list") (some none),
  He.eqO (PySem.W.nsIn K mainGlobals "tuple") (some none),
  He.eqO (PySem.W.nsIn K mainGlobals "dict") (some none),
  He.eqO (PySem.W.nsIn K mainGlobals "gcd") (some (some (.builtin "math.gcd"))),
  He.eqO (PySem.W.nsIn K mainGlobals "lcm") (some (some (.builtin "math.lcm"))),
  intIn K "MOST_NUMBERS" 25,
  intIn K "MOST_DEGREE" 24,
  He.eqO (PySem.W.nsIn K mainGlobals "_law_pick") (some (some (.ref (He.ga K "_law_pick")))),
  He.eqO (PySem.W.nsIn K mainGlobals "is_integer") (some (some (.ref (He.ga K "is_integer")))),
  He.eqO (PySem.W.nsIn K mainGlobals "_law_given") (some (some (.ref (He.ga K "_law_given")))),
  He.eqO (PySem.W.nsIn K mainGlobals "is_number") (some (some (.ref (He.ga K "is_number")))),
  He.eqO (PySem.W.nsIn K mainGlobals "is_poly") (some (some (.ref (He.ga K "is_poly")))),
  He.eqO (PySem.W.nsIn K mainGlobals "need_poly") (some (some (.ref (He.ga K "need_poly")))),
  He.eqO (PySem.W.nsIn K mainGlobals "need_number") (some (some (.ref (He.ga K "need_number")))),
  He.eqO (PySem.W.nsIn K mainGlobals "pair_of") (some (some (.ref (He.ga K "pair_of")))),
  He.eqO (PySem.W.nsIn K mainGlobals "cleared") (some (some (.ref (He.ga K "cleared")))),
  He.eqO (PySem.W.nsIn K mainGlobals "trimmed") (some (some (.ref (He.ga K "trimmed")))),
  He.eqO (PySem.W.nsIn K mainGlobals "cleared_poly") (some (some (.ref (He.ga K "cleared_poly")))),
  He.eqO (PySem.W.nsIn K mainGlobals "worth") (some (some (.ref (He.ga K "worth")))),
  He.eqO (PySem.W.nsIn K mainGlobals "_law_trim") (some (some (.ref (He.ga K "_law_trim")))),
  He.eqO (PySem.W.nsIn K mainGlobals "_law_low") (some (some (.ref (He.ga K "_law_low")))),
  He.eqO (PySem.W.nsIn K mainGlobals "_law_number") (some (some (.ref (He.ga K "_law_number")))),
  He.eqO (PySem.W.nsIn K mainGlobals "_law_poly") (some (some (.ref (He.ga K "_law_poly")))),
  He.eqO (PySem.W.nsIn K mainGlobals "_law_standing") (some (some (.ref (He.ga K "_law_standing")))),
  He.eqO (PySem.W.nsIn K mainGlobals "need_polys") (some (some (.ref (He.ga K "need_polys")))),
  He.eqO (PySem.W.nsIn K mainGlobals "ratios_over") (some (some (.ref (He.ga K "ratios_over")))),
  He.eqO (PySem.W.nsIn K mainGlobals "summed") (some (some (.ref (He.ga K "summed")))),
  He.eqO (PySem.W.nsIn K mainGlobals "multiplied") (some (some (.ref (He.ga K "multiplied")))),
  He.eqO (PySem.W.nsIn K mainGlobals "scaled_by") (some (some (.ref (He.ga K "scaled_by")))),
  He.eqO (PySem.W.nsIn K mainGlobals "put_over") (some (some (.ref (He.ga K "put_over")))),
  He.eqO (PySem.W.nsIn K mainGlobals "raised") (some (some (.ref (He.ga K "raised")))),
  He.eqO (PySem.W.nsIn K mainGlobals "put_in") (some (some (.ref (He.ga K "put_in")))),
  He.eqO (PySem.W.nsIn K mainGlobals "_law_handed") (some (some (.ref (He.ga K "_law_handed")))),
  He.eqO (PySem.W.nsIn K mainGlobals "cleared_both") (some (some (.ref (He.ga K "cleared_both")))),
  He.eqO (PySem.W.nsIn K mainGlobals "plus") (some (some (.ref (He.ga K "plus")))),
  He.eqO (PySem.W.nsIn K mainGlobals "times") (some (some (.ref (He.ga K "times")))),
  He.eqO (PySem.W.nsIn K mainGlobals "derived_bare") (some (some (.ref (He.ga K "derived_bare")))),
  He.eqO (PySem.W.nsIn K mainGlobals "derived") (some (some (.ref (He.ga K "derived")))),
  He.eqO (PySem.W.nsIn K mainGlobals "degree") (some (some (.ref (He.ga K "degree")))),
  He.eqO (PySem.W.nsIn K mainGlobals "_law_ratios") (some (some (.ref (He.ga K "_law_ratios")))),
  He.eqO (PySem.W.nsIn K mainGlobals "_law_plus") (some (some (.ref (He.ga K "_law_plus")))),
  He.eqO (PySem.W.nsIn K mainGlobals "_law_sum") (some (some (.ref (He.ga K "_law_sum")))),
  He.eqO (PySem.W.nsIn K mainGlobals "_law_by") (some (some (.ref (He.ga K "_law_by")))),
  He.eqO (PySem.W.nsIn K mainGlobals "_law_times") (some (some (.ref (He.ga K "_law_times")))),
  He.eqO (PySem.W.nsIn K mainGlobals "_law_led") (some (some (.ref (He.ga K "_law_led")))),
  He.eqO (PySem.W.nsIn K mainGlobals "_law_put_right") (some (some (.ref (He.ga K "_law_put_right")))),
  He.eqO (PySem.W.nsIn K mainGlobals "_law_right") (some (some (.ref (He.ga K "_law_right")))),
  He.eqO (PySem.W.nsIn K mainGlobals "_law_pot") (some (some (.ref (He.ga K "_law_pot")))),
  He.eqO (PySem.W.nsIn K mainGlobals "_law_draw") (some (some (.ref (He.ga K "_law_draw")))),
  He.eqO (PySem.W.nsIn K mainGlobals "law") (some (some (.ref (He.ga K "law")))),
  He.eqO (PySem.W.specialIn K (.builtin "object.__class__") "__get__") (some (some (.builtin "getset_descriptor.__get__"))),
  decide (PySem.W.takesIn K (.builtin "object.__class__") = some true),
  He.eqO (PySem.W.nsIn K mainGlobals "Ratio") (some (some (.ref (rc K)))),
  PySem.W.plainGet K (rc K) Str.empty,
  PySem.W.hasDictIn K (rc K),
  PySem.W.plainOver K (rc K),
  He.eqO (PySem.W.findIn K (.ref (rc K)) "__setattr__") (some (some (.builtin "object.__setattr__"))),
  He.eqO (PySem.W.findIn K (.ref (rc K)) "__class__") (some (some (.builtin "object.__class__"))),
  decide (PySem.W.mroIn K (rc K) (.type "object") = some true),
  decide (PySem.W.kitOne K (.ref (rc K)) (.type "int") = some false),
  decide (PySem.W.kitOne K (.ref (rc K)) (.type "bool") = some false),
  decide (PySem.W.kitOne K (.ref (rc K)) (.type "str") = some false),
  decide (PySem.W.kitOne K (.ref (rc K)) (.type "list") = some false),
  decide (PySem.W.kitOne K (.ref (rc K)) (.type "tuple") = some false),
  decide (PySem.W.kitOne K (.ref (rc K)) (.type "dict") = some false),
  decide (PySem.W.kitOne K (.type "int") (.ref (rc K)) = some false),
  decide (PySem.W.kitOne K (.type "bool") (.ref (rc K)) = some false),
  decide (PySem.W.kitOne K (.type "NoneType") (.ref (rc K)) = some false),
  decide (PySem.W.kitOne K (.type "str") (.ref (rc K)) = some false),
  decide (PySem.W.kitOne K (.type "list") (.ref (rc K)) = some false),
  decide (PySem.W.kitOne K (.type "tuple") (.ref (rc K)) = some false),
  decide (PySem.W.kitOne K (.type "dict") (.ref (rc K)) = some false),
  decide (PySem.W.kitOne K (.ref (rc K)) (.ref (rc K)) = some true),
  He.eqO (PySem.W.findIn K (.ref (rc K)) "_top") (some none),
  He.eqO (PySem.W.findIn K (.ref (rc K)) "_bottom") (some none),
  PySem.W.makesIn K (rc K),
  PySem.W.keepIn K (.ref (rc K)),
  He.eqO (PySem.W.findIn K (.ref (rc K)) "__init__") (some (some (.ref (He.ma K (rc K) "__init__")))),
  PySem.W.isFn K (.ref (He.ma K (rc K) "__init__")),
  He.eqO (PySem.W.findIn K (.ref (rc K)) "__eq__") (some (some (.ref (He.ma K (rc K) "__eq__")))),
  PySem.W.isFn K (.ref (He.ma K (rc K) "__eq__")),
  He.eqO (PySem.W.findIn K (.ref (rc K)) "__ne__") (some (some (.builtin "object.__ne__"))),
  decide (PySem.W.subIn K (.type "int") (.ref (rc K)) = some false),
  decide (PySem.W.subIn K (.type "NoneType") (.ref (rc K)) = some false),
  decide (PySem.W.subIn K (.type "str") (.ref (rc K)) = some false),
  decide (PySem.W.subIn K (.ref (rc K)) (.type "int") = some false),
  He.eqO (PySem.W.findIn K (.ref (rc K)) "__repr__") (some (some (.ref (He.ma K (rc K) "__repr__")))),
  PySem.W.isFn K (.ref (He.ma K (rc K) "__repr__"))]
def okX (K : PySem.W.Frag) : Bool := (facts K).all id
def fn : List He5.DefA := [
  ⟨fun K => He.ga K "_law_pick", "_law_pick", "_law_pick", defArgs (top 43), defBody (top 43), defScope (top 43), [], []⟩,
  ⟨fun K => He.ga K "is_integer", "is_integer", "is_integer", defArgs (top 18), defBody (top 18), defScope (top 18), [], []⟩,
  ⟨fun K => He.ma K (rc K) "__init__", "__init__", "Ratio.__init__", defArgs (cm 20 0), defBody (cm 20 0), defScope (cm 20 0), [.int 1], []⟩,
  ⟨fun K => He.ga K "_law_given", "_law_given", "_law_given", defArgs (top 54), defBody (top 54), defScope (top 54), [], []⟩,
  ⟨fun K => He.ga K "is_number", "is_number", "is_number", defArgs (top 21), defBody (top 21), defScope (top 21), [], []⟩,
  ⟨fun K => He.ga K "is_poly", "is_poly", "is_poly", defArgs (top 29), defBody (top 29), defScope (top 29), [], []⟩,
  ⟨fun K => He.ga K "need_poly", "need_poly", "need_poly", defArgs (top 30), defBody (top 30), defScope (top 30), [], []⟩,
  ⟨fun K => He.ga K "need_number", "need_number", "need_number", defArgs (top 22), defBody (top 22), defScope (top 22), [], []⟩,
  ⟨fun K => He.ga K "pair_of", "pair_of", "pair_of", defArgs (top 23), defBody (top 23), defScope (top 23), [], []⟩,
  ⟨fun K => He.ga K "cleared", "cleared", "cleared", defArgs (top 24), defBody (top 24), defScope (top 24), [], []⟩,
  ⟨fun K => He.ga K "trimmed", "trimmed", "trimmed", defArgs (top 4), defBody (top 4), defScope (top 4), [], []⟩,
  ⟨fun K => He.ga K "cleared_poly", "cleared_poly", "cleared_poly", defArgs (top 32), defBody (top 32), defScope (top 32), [], []⟩,
  ⟨fun K => He.ga K "worth", "worth", "worth", defArgs (top 39), defBody (top 39), defScope (top 39), [], []⟩,
  ⟨fun K => He.ga K "_law_trim", "_law_trim", "_law_trim", defArgs (top 47), defBody (top 47), defScope (top 47), [], []⟩,
  ⟨fun K => He.ga K "_law_low", "_law_low", "_law_low", defArgs (top 44), defBody (top 44), defScope (top 44), [], []⟩,
  ⟨fun K => He.ga K "_law_number", "_law_number", "_law_number", defArgs (top 51), defBody (top 51), defScope (top 51), [], []⟩,
  ⟨fun K => He.ga K "_law_poly", "_law_poly", "_law_poly", defArgs (top 52), defBody (top 52), defScope (top 52), [], []⟩,
  ⟨fun K => He.ga K "_law_standing", "_law_standing", "_law_standing", defArgs (top 53), defBody (top 53), defScope (top 53), [], []⟩,
  ⟨fun K => He.ga K "need_polys", "need_polys", "need_polys", defArgs (top 31), defBody (top 31), defScope (top 31), [], []⟩,
  ⟨fun K => He.ga K "ratios_over", "ratios_over", "ratios_over", defArgs (top 25), defBody (top 25), defScope (top 25), [], []⟩,
  ⟨fun K => He.ga K "summed", "summed", "summed", defArgs (top 6), defBody (top 6), defScope (top 6), [], []⟩,
  ⟨fun K => He.ga K "multiplied", "multiplied", "multiplied", defArgs (top 7), defBody (top 7), defScope (top 7), [], []⟩,
  ⟨fun K => He.ga K "scaled_by", "scaled_by", "scaled_by", defArgs (top 5), defBody (top 5), defScope (top 5), [], []⟩,
  ⟨fun K => He.ga K "put_over", "put_over", "put_over", defArgs (top 9), defBody (top 9), defScope (top 9), [], []⟩,
  ⟨fun K => He.ga K "raised", "raised", "raised", defArgs (top 3), defBody (top 3), defScope (top 3), [], []⟩,
  ⟨fun K => He.ga K "put_in", "put_in", "put_in", defArgs (top 38), defBody (top 38), defScope (top 38), [], []⟩,
  ⟨fun K => He.ga K "_law_handed", "_law_handed", "_law_handed", defArgs (top 55), defBody (top 55), defScope (top 55), [], []⟩,
  ⟨fun K => He.ga K "cleared_both", "cleared_both", "cleared_both", defArgs (top 33), defBody (top 33), defScope (top 33), [], []⟩,
  ⟨fun K => He.ga K "plus", "plus", "plus", defArgs (top 35), defBody (top 35), defScope (top 35), [], []⟩,
  ⟨fun K => He.ga K "times", "times", "times", defArgs (top 36), defBody (top 36), defScope (top 36), [], []⟩,
  ⟨fun K => He.ga K "derived_bare", "derived_bare", "derived_bare", defArgs (top 8), defBody (top 8), defScope (top 8), [], []⟩,
  ⟨fun K => He.ga K "derived", "derived", "derived", defArgs (top 37), defBody (top 37), defScope (top 37), [], []⟩,
  ⟨fun K => He.ga K "degree", "degree", "degree", defArgs (top 34), defBody (top 34), defScope (top 34), [], []⟩,
  ⟨fun K => He.ga K "_law_ratios", "_law_ratios", "_law_ratios", defArgs (top 50), defBody (top 50), defScope (top 50), [], []⟩,
  ⟨fun K => He.ga K "_law_plus", "_law_plus", "_law_plus", defArgs (top 45), defBody (top 45), defScope (top 45), [], []⟩,
  ⟨fun K => He.ga K "_law_sum", "_law_sum", "_law_sum", defArgs (top 48), defBody (top 48), defScope (top 48), [], []⟩,
  ⟨fun K => He.ga K "_law_by", "_law_by", "_law_by", defArgs (top 46), defBody (top 46), defScope (top 46), [], []⟩,
  ⟨fun K => He.ga K "_law_times", "_law_times", "_law_times", defArgs (top 49), defBody (top 49), defScope (top 49), [], []⟩,
  ⟨fun K => He.ga K "_law_led", "_law_led", "_law_led", defArgs (top 56), defBody (top 56), defScope (top 56), [], []⟩,
  ⟨fun K => He.ma K (rc K) "__eq__", "__eq__", "Ratio.__eq__", defArgs (cm 20 16), defBody (cm 20 16), defScope (cm 20 16), [], []⟩,
  ⟨fun K => He.ma K (rc K) "__repr__", "__repr__", "Ratio.__repr__", defArgs (cm 20 18), defBody (cm 20 18), defScope (cm 20 18), [], []⟩,
  ⟨fun K => He.ga K "_law_put_right", "_law_put_right", "_law_put_right", defArgs (top 57), defBody (top 57), defScope (top 57), [], []⟩,
  ⟨fun K => He.ga K "_law_right", "_law_right", "_law_right", defArgs (top 58), defBody (top 58), defScope (top 58), [], []⟩,
  ⟨fun K => He.ga K "_law_pot", "_law_pot", "_law_pot", defArgs (top 41), defBody (top 41), defScope (top 41), [], []⟩,
  ⟨fun K => He.ga K "_law_draw", "_law_draw", "_law_draw", defArgs (top 42), defBody (top 42), defScope (top 42), [], []⟩,
  ⟨fun K => He.ga K "law", "law", "law", defArgs (top 59), defBody (top 59), defScope (top 59), [], []⟩]
theorem okX.at {K : PySem.W.Frag} (h : okX K = true) (i : Nat) {b : Bool} (e : (facts K)[i]? = some b := by rfl) : b = true := List.all_eq_true.mp h b (List.mem_of_getElem? e)
abbrev R : PySem.W.OpenRow := PySem.W.OpenLaw.row PySem.Challenge.rw_innerfractions_k13_whole_polynomials_put
abbrev hk : PySem.W.Hook := hookY 3000 okX fn
def ob (s : PySem.W.SharedT) : He.AlD := atY 3000 okX fn (HandSHeadRun.getT s)
theorem ob_eq (s : PySem.W.SharedT) : ob s = hk.obs s.abs := atY_eq (HandSHeadRun.getT_eq s)
abbrev names : List Str := [("_wall" : Str), ("__name__" : Str), ("raised" : Str), ("trimmed" : Str), ("scaled_by" : Str), ("summed" : Str), ("multiplied" : Str), ("derived_bare" : Str), ("put_over" : Str), ("LetterError" : Str), ("InvalidNumber" : Str), ("InvalidPoly" : Str), ("DividedByZero" : Str), ("LimitError" : Str), ("TooMany" : Str), ("is_integer" : Str), ("Ratio" : Str), ("is_number" : Str), ("need_number" : Str), ("pair_of" : Str), ("cleared" : Str), ("ratios_over" : Str), ("MOST_NUMBERS" : Str), ("MOST_DEGREE" : Str), ("is_poly" : Str), ("need_poly" : Str), ("need_polys" : Str), ("cleared_poly" : Str), ("cleared_both" : Str), ("degree" : Str), ("plus" : Str), ("times" : Str), ("derived" : Str), ("put_in" : Str), ("worth" : Str), ("_law_pot" : Str), ("_law_draw" : Str), ("_law_pick" : Str), ("_law_low" : Str), ("_law_plus" : Str), ("_law_by" : Str), ("_law_trim" : Str), ("_law_sum" : Str), ("_law_times" : Str), ("_law_ratios" : Str), ("_law_number" : Str), ("_law_poly" : Str), ("_law_standing" : Str), ("_law_given" : Str), ("_law_handed" : Str), ("_law_led" : Str), ("_law_put_right" : Str), ("_law_right" : Str)]
open HandSHeadRun PySem.W in
theorem run1 (w : World) : (wholeF (fun p => stepQ (denQ tabQ) p w) fenceQ 30000 R.prog).map (fun x => looksF R.prog x.1.heap x.2.abs) = some true := by kernel_rfl
open HandSHeadRun PySem.W in
theorem run2 (w : World) : (wholeF (fun p => stepQ (denQ tabQ) p w) fenceQ 30000 R.prog).map (fun x => seenQ (view R.prog [0, 59]) names (importedModules R.prog.main.body) (fun s => xlAt (view R.prog [0, 59]) [] s && recOk R.toRowW.records s) x.2.abs) = some (openGood (view R.prog [0, 59]) names) := by kernel_rfl
open HandSHeadRun PySem.W in
theorem run3 (w : World) : (wholeF (fun p => stepQ (denQ tabQ) p w) fenceQ 30000 R.prog).map (fun x => ob x.2) = some (hk.val w) := by kernel_rfl
theorem run (w : World) : HandSHeadRun.RunEqI R (PySem.W.view R.prog [0, 59]) hk ob 30000 names w := by
  delta HandSHeadRun.RunEqI
  exact three (run1 w) (run2 w) (run3 w)
end K13
set_option Elab.async false
set_option linter.all false
set_option maxRecDepth 100000
set_option maxHeartbeats 4000000
namespace Uv
open PySem L2 Inn
/-! ### what is asked, read off -/
section
variable {α : Type} {R : D → Prop} {Rb : Bool → Prop} {Rl : List D → Prop} {own : D → D → M D} {own1 : D → M D} {i j : Int} {a b : List D} {x y : Str} {s : OwnE} {n : Nat}
def tstK (R : Bool → Prop) : D → Prop
  | .bl b => R b
  | _ => False
def partK (R : Option Int → Prop) : D → Prop
  | .int i => R (some i)
  | _ => False
theorem v_op2 {g : D → D → M D} {ma mb : M D} : op2 g ma mb R = ma fun x => mb fun y => g x y R := (rfl)
theorem v_op1 {g : D → M D} {ma : M D} : op1 g ma R = ma fun x => g x R := (rfl)
theorem v_opN {g : List D → M D} {ml : M (List D)} : opN g ml R = ml fun xs => g xs R := (rfl)
theorem v_rt {x : α} {R : α → Prop} : rt x R = R x := (rfl)
theorem v_fail {R : α → Prop} : (fail : M α) R = False := (rfl)
theorem v_asks {p : Prop} {m : M α} {R : α → Prop} : asks p m R = (p ∧ m R) := (rfl)
theorem v_lcons {m : M D} {ml : M (List D)} : lcons m ml Rl = m fun x => ml fun xs => Rl (x :: xs) := (rfl)
theorem v_lnil : lnil Rl = Rl [] := (rfl)
theorem v_tst {m : M D} : tst m Rb = m (tstK Rb) := (rfl)
theorem v_tstK {b : Bool} : tstK Rb (.bl b) = Rb b := (rfl)
theorem v_truM {m : M D} : truM m Rb = m fun d => tru d Rb := (rfl)
theorem v_notM {m : M Bool} : notM m Rb = m fun b => Rb (!b) := (rfl)
theorem v_blM {m : M Bool} : blM m R = m fun b => R (.bl b) := (rfl)
theorem v_andM {ma mb : M Bool} : Uv.andM ma mb Rb = ma fun k => ite2 k (mb Rb) (Rb false) := (rfl)
theorem v_orM {ma mb : M Bool} : Uv.orM ma mb Rb = ma fun k => ite2 k (Rb true) (mb Rb) := (rfl)
theorem v_andV {ma mb : M D} : andV ma mb R = ma fun x => tru x fun k => ite2 k (mb R) (R x) := (rfl)
theorem v_orV {ma mb : M D} : orV ma mb R = ma fun x => tru x fun k => ite2 k (R x) (mb R) := (rfl)
theorem v_iteM {m : M Bool} {ma mb : M α} {R : α → Prop} : iteM m ma mb R = m fun k => ite2 k (ma R) (mb R) := (rfl)
theorem v_t {A B : Prop} : ite2 true A B = A := (rfl)
theorem v_f {A B : Prop} : ite2 false A B = B := (rfl)
theorem v_partM {m : M D} {R : Option Int → Prop} : partM m R = m (partK R) := (rfl)
theorem v_partK {R : Option Int → Prop} : partK R (.int i) = R (some i) := (rfl)
theorem v_noPart {R : Option Int → Prop} : noPart R = R none := (rfl)
theorem v_slM {m : M D} {lo hi : M (Option Int)} : slM m lo hi R = m fun x => lo fun l => hi fun h => sliceG x l h R := (rfl)
theorem v_slice {lo hi : Option Int} : sliceG (.lst a) lo hi R = R (.lst (cut a lo hi)) := (rfl)
theorem v_rev : revG (.lst a) R = R (.lst a.reverse) := (rfl)
theorem v_walkM {g : List D → M (List D)} {ml : M (List D)} : walkM g ml Rl = ml fun xs => g xs Rl := (rfl)
theorem v_itemsM {m : M D} : itemsM m Rl = m fun d => itemsG d Rl := (rfl)
theorem v_itemsL : itemsG (.lst a) Rl = Rl a := (rfl)
theorem v_itemsT : itemsG (.tup a) Rl = Rl a := (rfl)
theorem v_lstM {ml : M (List D)} : lstM ml R = ml fun xs => xs.length ≤ sizeLine ∧ R (.lst xs) := (rfl)
theorem v_tupM {ml : M (List D)} : tupM ml R = ml fun xs => xs.length ≤ sizeLine ∧ R (.tup xs) := (rfl)
theorem v_fitM {ml : M (List D)} : fitM ml Rl = ml fun xs => xs.length ≤ sizeLine ∧ Rl xs := (rfl)
theorem v_starM {m : M D} {ml : M (List D)} : starM m ml Rl = m fun d => itemsG d fun xs => ml fun ys => Rl (xs ++ ys) := (rfl)
theorem v_lcM {it : M (List D)} {f : D → M D} : lcM it f R = it fun ds => ds.length ≤ sizeLine ∧ mapD f ds fun ys => R (.lst ys) := (rfl)
theorem v_lcIfM {it : M (List D)} {t : D → M Bool} {f : D → M D} : lcIfM it t f R = it fun ds => ds.length ≤ sizeLine ∧ mapIf t f ds fun ys => R (.lst ys) := (rfl)
def repK (xs : List D) (R : List D → Prop) : D → Prop
  | .int k => (-(2 ^ 63) ≤ k ∧ k < 2 ^ 63 ∧ xs.length * k.toNat ≤ sizeLine) ∧ R (List.replicate k.toNat xs).flatten
  | _ => False
theorem v_repM {ml : M (List D)} {mb : M D} : repM ml mb Rl = ml fun xs => xs.length ≤ sizeLine ∧ mb (repK xs Rl) := (rfl)
theorem v_repK {xs : List D} : repK xs Rl (.int i) = ((-(2 ^ 63) ≤ i ∧ i < 2 ^ 63 ∧ xs.length * i.toNat ≤ sizeLine) ∧ Rl (List.replicate i.toNat xs).flatten) := (rfl)
theorem v_addI : addG own (.int i) (.int j) R = R (.int (i + j)) := (rfl)
theorem v_addL : addG own (.lst a) (.lst b) R = (a.length + b.length ≤ sizeLine ∧ R (.lst (a ++ b))) := (rfl)
theorem v_subI : subG own (.int i) (.int j) R = R (.int (i - j)) := (rfl)
theorem v_mulI : mulG own (.int i) (.int j) R = (CMulX i j ∧ R (.int (i * j))) := (rfl)
theorem v_mulL : mulG own (.lst a) (.int j) R = ((-(2 ^ 63) ≤ j ∧ j < 2 ^ 63 ∧ a.length * j.toNat ≤ sizeLine) ∧ R (.lst (List.replicate j.toNat a).flatten)) := (rfl)
theorem v_modI : modG (.int i) (.int j) R = (j ≠ 0 ∧ R (.int (i.fmod j))) := (rfl)
theorem v_powI : powG (.int i) (.int j) R = ((0 ≤ j ∧ j ≤ 1000000 ∧ i.natAbs < 2 ^ 64) ∧ R (.int (i ^ j.toNat))) := (rfl)
theorem v_fdivI : fdivG (.int i) (.int j) R = ((j ≠ 0 ∧ j.natAbs.log2 < 9000) ∧ R (.int (i.fdiv j))) := (rfl)
theorem v_ltI : ltG (.int i) (.int j) R = R (.bl (decide (i < j))) := (rfl)
theorem v_leI : leG (.int i) (.int j) R = R (.bl (decide (i ≤ j))) := (rfl)
theorem v_gtI : gtG (.int i) (.int j) R = R (.bl (decide (j < i))) := (rfl)
theorem v_geI : geG (.int i) (.int j) R = R (.bl (decide (j ≤ i))) := (rfl)
theorem v_negI : negG own1 (.int i) R = R (.int (-i)) := (rfl)
theorem v_truB {k : Bool} : tru (.bl k) Rb = Rb k := (rfl)
theorem v_truI : tru (.int i) Rb = Rb (i != 0) := (rfl)
theorem v_truL : tru (.lst a) Rb = Rb (!a.isEmpty) := (rfl)
theorem v_truT : tru (.tup a) Rb = Rb (!a.isEmpty) := (rfl)
theorem v_truN : tru .non Rb = Rb false := (rfl)
theorem v_ixL : ixG (.lst a) (.int i) R = ∃ x, atI a i = some x ∧ R x := (rfl)
theorem v_ixT : ixG (.tup a) (.int i) R = ∃ x, atI a i = some x ∧ R x := (rfl)
theorem v_lenL : lenF [.lst a] R = R (.int (a.length : Nat)) := (rfl)
theorem v_lenT : lenF [.tup a] R = R (.int (a.length : Nat)) := (rfl)
theorem v_abs : absF [.int i] R = R (.int (if i < 0 then -i else i)) := (rfl)
theorem v_max : maxF [.int i, .int j] R = R (.int (if j > i then j else i)) := (rfl)
theorem v_min : minF [.int i, .int j] R = R (.int (if j < i then j else i)) := (rfl)
theorem v_int : intF [.int i] R = R (.int i) := (rfl)
theorem v_sum : sumF [.lst a] R = ∃ ns, intsOf a = some ns ∧ R (.int ns.sum) := (rfl)
theorem v_all : allF [.lst a] R = ∃ ns, blsOf a = some ns ∧ R (.bl (ns.all id)) := (rfl)
theorem v_any : anyF [.lst a] R = ∃ ns, blsOf a = some ns ∧ R (.bl (ns.any id)) := (rfl)
theorem v_gcd : gcdF [.int i, .int j] R = R (.int (Int.gcd i j : Nat)) := (rfl)
theorem v_lcm : lcmF [.int i, .int j] R = ((Lc i ∧ Lc j) ∧ R (.int (Nat.lcm i.natAbs j.natAbs : Nat))) := (rfl)
theorem v_listL : listF [.lst a] R = R (.lst a) := (rfl)
theorem v_listT : listF [.tup a] R = R (.lst a) := (rfl)
theorem v_tupleL : tupleF [.lst a] R = R (.tup a) := (rfl)
theorem v_tupleT : tupleF [.tup a] R = R (.tup a) := (rfl)
theorem v_eqI : eqT s n (.int i) (.int j) R = R (.bl (i == j)) := (rfl)
theorem v_neI : neT s n (.int i) (.int j) R = R (.bl (!(i == j))) := (rfl)
theorem v_eqS : eqT s n (.str x) (.str y) R = R (.bl (x == y)) := (rfl)
theorem v_neS : neT s n (.str x) (.str y) R = R (.bl (!(x == y))) := (rfl)
theorem v_eqL : eqT s n (.lst a) (.lst b) R = eqL (eqD s n) a b fun k => R (.bl k) := (rfl)
theorem v_neL : neT s n (.lst a) (.lst b) R = eqL (eqD s n) a b fun k => R (.bl (!k)) := (rfl)
theorem v_un2 {k : D → D → M α} {x y : D} {R : α → Prop} : un2 k (.tup [x, y]) R = k x y R := (rfl)
theorem v_un2F {S : Type} {f : D → D → S → (S → Prop) → (S → Prop) → Prop} {x y : D} {s : S} {nx bk : S → Prop} : un2F f (.tup [x, y]) s nx bk = f x y s nx bk := (rfl)
theorem v_unP {k : List D → Prop} : unP n k (.tup a) = (a.length = n ∧ k a) := (rfl)
theorem v_l2 {k : D → D → Prop} {x y : D} : l2 k [x, y] = k x y := (rfl)
theorem v_l3 {k : D → D → D → Prop} {x y z : D} : l3 k [x, y, z] = k x y z := (rfl)
theorem v_l4 {k : D → D → D → D → Prop} {x y z w : D} : l4 k [x, y, z, w] = k x y z w := (rfl)
theorem v_range1 : range1G [.int i] Rl = ((-(2 ^ 62) ≤ i ∧ i < 2 ^ 62) ∧ Rl ((List.range i.toNat).map fun k => .int (k : Nat))) := (rfl)
theorem v_range2 : range2G [.int i, .int j] Rl = ((-(2 ^ 62) ≤ i ∧ i < 2 ^ 62 ∧ -(2 ^ 62) ≤ j ∧ j < 2 ^ 62) ∧ Rl ((List.range (j - i).toNat).map fun k => .int (i + (k : Nat)))) := (rfl)
theorem v_enum : enumG [.lst a] Rl = Rl (a.zipIdx.map fun x => .tup [.int (x.2 : Nat), x.1]) := (rfl)
theorem v_zip : zipG [.lst a, .lst b] Rl = Rl ((a.zip b).map fun x => .tup [x.1, x.2]) := (rfl)
theorem v_isi {ts : List Ty} {d : D} : isiG ts d R = (plainD d = true ∧ R (.bl (ts.any fun t => isT t d))) := (rfl)
theorem v_fld {c i : Nat} {c' : Nat} : fldI c i (.ins c' a) R = (c' = c ∧ ∃ x, a[i]? = some x ∧ R x) := (rfl)
theorem v_mkM {c : Nat} {s : List D → M (List D)} {dds ds : List D} : mkM c s dds ds R = s (ds ++ dds) fun fl => R (.ins c fl) := (rfl)
theorem v_mkF {c : Nat} {s : List D → M (List D)} {dds ds : List D} : mkF c s dds ds R = s (ds ++ dds) fun fl => flats fl ≠ none ∧ R (.ins c fl) := (rfl)
theorem v_methM {c : Nat} {s : List D → M D} {mo : M D} {ml : M (List D)} : methM c s mo ml R = mo fun d => (∃ l, d = .ins c l) ∧ ml fun ds => s (d :: ds) R := (rfl)
theorem v_propM {c : Nat} {s : List D → M D} {d : D} : propM c s d R = ((∃ l, d = .ins c l) ∧ s [d] R) := (rfl)
theorem v_flatM {m : M D} : flatM m R = m fun d => flatD d ≠ none ∧ R d := (rfl)
theorem v_appM {m : M D} {k : List D → Prop} : appM a m k = m fun d => a.length < sizeLine ∧ k (a ++ [d]) := (rfl)
theorem v_popM {k : List D → Prop} : popM a k = (a ≠ [] ∧ k a.dropLast) := (rfl)
def extK (l : List D) (k : List D → Prop) : D → Prop
  | .lst r => l.length + r.length ≤ sizeLine ∧ k (l ++ r)
  | _ => False
theorem v_extM {m : M D} {k : List D → Prop} : extM a m k = m (extK a k) := (rfl)
theorem v_extK {k : List D → Prop} : extK a k (.lst b) = (a.length + b.length ≤ sizeLine ∧ k (a ++ b)) := (rfl)
def storeK (l : List D) (d : D) (k : List D → Prop) : D → Prop
  | .int z => ∃ j, ixN l.length z = some j ∧ k (l.set j d)
  | _ => False
theorem v_storeM {m mj : M D} {k : List D → Prop} : storeM a m mj k = m fun d => mj (storeK a d k) := (rfl)
theorem v_storeK {d : D} {k : List D → Prop} : storeK a d k (.int i) = ∃ j, ixN a.length i = some j ∧ k (a.set j d) := (rfl)
theorem v_catM {ma mb : M D} : catM ma mb Rl = ma fun x => mb fun y => match x, y with
  | .lst a, .lst b => a.length + b.length ≤ sizeLine ∧ Rl (a ++ b)
  | _, _ => False := (rfl)
theorem v_parOM {ml : M (List D)} {mb : M D} {k : List D → D → Prop} : parOM ml mb k = ml fun l => mb fun d => k l d := (rfl)
theorem v_repr {own : OwnT} {d : D} : reprF own n [d] R = ∃ t, txtD own n d = some t ∧ t.length ≤ sizeLine ∧ R (.str t) := (rfl)
theorem v_arr {π : List Nat} : arr π a = π.filterMap (a[·]?) := (rfl)
theorem v_isB {k l : Bool} : isBG (.bl k) (.bl l) R = R (.bl (k == l)) := (rfl)
theorem v_notB {k l : Bool} : notBG (.bl k) (.bl l) R = R (.bl (!(k == l))) := (rfl)
theorem v_spoil {m : M D} {k : Prop} : spoilM (.lst a) m k = ∃ l, D.lst a = .lst l ∧ (m fun _ => l.length < sizeLine) ∧ k := (rfl)
theorem v_chain {g g' : D → D → M D} {ma mb mc : M D} : chainM g g' ma mb mc R = ma fun x => mb fun y => g x y fun z => match z with
  | .bl k => ite2 k (mc fun w => g' y w R) (R (.bl false))
  | _ => False := (rfl)
end
/-! ### loops, lists made item by item -/
theorem forC_ind {S : Type} {f : D → S → (S → Prop) → (S → Prop) → Prop} {k : S → Prop} (I : Nat → S → Prop) : ∀ (ds : List D) (s0 : S) (i0 : Nat), I i0 s0 → (∀ i d s nx, ds[i]? = some d → I (i0 + i) s → (∀ s', I (i0 + i + 1) s' → nx s') → f d s nx k) → (∀ s, I (i0 + ds.length) s → k s) → forC f k ds s0
  | [], s0, i0, h, _, fin => fin s0 h
  | d :: ds, s0, i0, h, step, fin => step 0 d s0 _ rfl h fun s' hs' => forC_ind I ds s' (i0 + 1) hs' (fun i d' s nx hd hi hn => step (i + 1) d' s nx (by simpa using hd) (by rw [show i0 + (i + 1) = i0 + 1 + i by omega]; exact hi) (fun s' hs' => hn s' (by rw [show i0 + 1 + i + 1 = i0 + (i + 1) + 1 by omega]; exact hs'))) fun s hs => fin s (by rw [List.length_cons, show i0 + (ds.length + 1) = i0 + 1 + ds.length by omega]; exact hs)
/-- over the images of xs -/
theorem forC_map {S β : Type} {f : D → S → (S → Prop) → (S → Prop) → Prop} {k : S → Prop} {e : β → D} (I : List β → S → Prop) (s0 : S) : ∀ (xs : List β), I [] s0 → (∀ (ys : List β) (x : β) (zs : List β) s nx, xs = ys ++ x :: zs → I ys s → (∀ s', I (ys ++ [x]) s' → nx s') → f (e x) s nx k) → (∀ s, I xs s → k s) → forC f k (xs.map e) s0 := by
  have main : ∀ (zs ys : List β) (s : S), I ys s → (∀ (ys' : List β) (x : β) (zs' : List β) s nx, ys ++ zs = ys' ++ x :: zs' → I ys' s → (∀ s', I (ys' ++ [x]) s' → nx s') → f (e x) s nx k) → (∀ s, I (ys ++ zs) s → k s) → forC f k (zs.map e) s := by
    intro zs
    induction zs with
    | nil =>
      intro ys s h _ fin
      rw [List.append_nil] at fin
      exact fin s h
    | cons x zs ih =>
      intro ys s h step fin
      refine step ys x zs s _ rfl h fun s' hs' => ih (ys ++ [x]) s' hs' (fun ys' x' zs' s nx e => step ys' x' zs' s nx (by rw [← e, List.append_assoc]; rfl)) fun s hs => fin s (by rw [List.append_assoc] at hs; exact hs)
  intro xs h step fin
  exact main xs [] s0 h step fin
theorem whC_ind {S : Type} {c : S → M Bool} {f : S → (S → Prop) → (S → Prop) → Prop} {k : S → Prop} (I : S → Prop) (μ : S → Nat) (s0 : S) (h0 : I s0) (step : ∀ s nx, I s → (∀ s', I s' → μ s' < μ s → nx s') → c s fun b => ite2 b (f s nx k) (k s)) : whC c f k s0 := by
  have main : ∀ (n : Nat) (s : S), I s → μ s < n → loopC c f k n s := by
    intro n
    induction n with
    | zero => intro s _ h; exact absurd h (Nat.not_lt_zero _)
    | succ n ih =>
      intro s hs hn
      exact step s _ hs fun s' hs' hm => ih s' hs' (by omega)
  exact ⟨μ s0 + 1, main _ s0 h0 (Nat.lt_succ_self _)⟩
theorem mapD_map {β : Type} {f : D → M D} {e φ : β → D} : ∀ {xs : List β} {R : List D → Prop}, (∀ x ∈ xs, ∀ R' : D → Prop, R' (φ x) → f (e x) R') → R (xs.map φ) → mapD f (xs.map e) R
  | [], _, _, h => h
  | x :: xs, R, hf, h => hf x List.mem_cons_self _ (mapD_map (xs := xs) (fun x hx => hf x (List.mem_cons_of_mem _ hx)) h)
/-- item by item a value of which Q holds -/
inductive All2 {β γ : Type} (Q : β → γ → Prop) : List β → List γ → Prop
  | nil : All2 Q [] []
  | cons {x : β} {y : γ} {xs : List β} {ys : List γ} (h : Q x y) (t : All2 Q xs ys) : All2 Q (x :: xs) (y :: ys)
theorem All2.len {β γ : Type} {Q : β → γ → Prop} : ∀ {xs : List β} {ys : List γ}, All2 Q xs ys → xs.length = ys.length
  | _, _, .nil => rfl
  | _, _, .cons _ t => congrArg Nat.succ t.len
theorem mapD_all {β : Type} {f : D → M D} {e : β → D} {Q : β → D → Prop} : ∀ {xs : List β} {R : List D → Prop}, (∀ x ∈ xs, ∀ R' : D → Prop, (∀ y, Q x y → R' y) → f (e x) R') → (∀ ys, All2 Q xs ys → R ys) → mapD f (xs.map e) R
  | [], _, _, h => h [] .nil
  | x :: xs, R, hf, h => hf x List.mem_cons_self _ fun y hy => mapD_all (xs := xs) (fun x hx => hf x (List.mem_cons_of_mem _ hx)) fun ys hys => h (y :: ys) (.cons hy hys)
theorem mapIf_map {β : Type} {t : D → M Bool} {f : D → M D} {e φ : β → D} {p : β → Bool} : ∀ {xs : List β} {R : List D → Prop}, (∀ x ∈ xs, ∀ R' : Bool → Prop, R' (p x) → t (e x) R') → (∀ x ∈ xs, p x = true → ∀ R' : D → Prop, R' (φ x) → f (e x) R') → R ((xs.filter p).map φ) → mapIf t f (xs.map e) R
  | [], _, _, _, h => h
  | x :: xs, R, ht, hf, h => by
    refine ht x List.mem_cons_self _ ?_
    rw [List.filter_cons] at h
    cases hp : p x with
    | true =>
      rw [hp, if_pos rfl] at h
      exact hf x List.mem_cons_self hp _ (mapIf_map (xs := xs) (fun x hx => ht x (List.mem_cons_of_mem _ hx)) (fun x hx => hf x (List.mem_cons_of_mem _ hx)) h)
    | false =>
      rw [hp, if_neg Bool.false_ne_true] at h
      exact mapIf_map (xs := xs) (fun x hx => ht x (List.mem_cons_of_mem _ hx)) (fun x hx => hf x (List.mem_cons_of_mem _ hx)) h
theorem sz {n : Nat} (h : n ≤ 10000 := by decide) : n ≤ sizeLine := Nat.le_trans h (by decide)
theorem intsOf_map : ∀ (l : List Int), intsOf (l.map .int) = some l
  | [] => rfl
  | i :: l => by
    rw [List.map_cons]
    unfold intsOf
    rw [intsOf_map l]
    rfl
theorem blsOf_map : ∀ (l : List Bool), blsOf (l.map .bl) = some l
  | [] => rfl
  | i :: l => by
    rw [List.map_cons]
    unfold blsOf
    rw [blsOf_map l]
    rfl
end Uv
local macro_rules | `(tactic| rfl') => `(tactic| try simp only [↓Uv.v_op2, ↓Uv.v_op1, ↓Uv.v_opN, ↓Uv.v_rt, ↓Uv.v_asks, ↓Uv.v_lcons, ↓Uv.v_lnil, ↓Uv.v_tst, ↓Uv.v_tstK, ↓Uv.v_truM, ↓Uv.v_notM, ↓Uv.v_blM, ↓Uv.v_andM, ↓Uv.v_orM, ↓Uv.v_andV, ↓Uv.v_orV, ↓Uv.v_iteM, ↓Uv.v_t, ↓Uv.v_f, ↓Uv.v_partM, ↓Uv.v_partK, ↓Uv.v_noPart, ↓Uv.v_slM, ↓Uv.v_slice, ↓Uv.v_rev, ↓Uv.v_walkM, ↓Uv.v_itemsM, ↓Uv.v_itemsL, ↓Uv.v_itemsT, ↓Uv.v_lstM, ↓Uv.v_tupM, ↓Uv.v_fitM, ↓Uv.v_starM, ↓Uv.v_lcM, ↓Uv.v_lcIfM, ↓Uv.v_repM, ↓Uv.v_repK, ↓Uv.v_addI, ↓Uv.v_addL, ↓Uv.v_subI, ↓Uv.v_mulI, ↓Uv.v_mulL, ↓Uv.v_modI, ↓Uv.v_powI, ↓Uv.v_fdivI, ↓Uv.v_ltI, ↓Uv.v_leI, ↓Uv.v_gtI, ↓Uv.v_geI, ↓Uv.v_negI, ↓Uv.v_truB, ↓Uv.v_truI, ↓Uv.v_truL, ↓Uv.v_truT, ↓Uv.v_truN, ↓Uv.v_ixL, ↓Uv.v_ixT, ↓Uv.v_lenL, ↓Uv.v_lenT, ↓Uv.v_abs, ↓Uv.v_max, ↓Uv.v_min, ↓Uv.v_int, ↓Uv.v_sum, ↓Uv.v_all, ↓Uv.v_any, ↓Uv.v_gcd, ↓Uv.v_lcm, ↓Uv.v_listL, ↓Uv.v_listT, ↓Uv.v_tupleL, ↓Uv.v_tupleT, ↓Uv.v_eqI, ↓Uv.v_neI, ↓Uv.v_eqS, ↓Uv.v_neS, ↓Uv.v_eqL, ↓Uv.v_neL, ↓Uv.v_un2, ↓Uv.v_un2F, ↓Uv.v_unP, ↓Uv.v_l2, ↓Uv.v_l3, ↓Uv.v_l4, ↓Uv.v_range1, ↓Uv.v_range2, ↓Uv.v_enum, ↓Uv.v_zip, ↓Uv.v_isi, ↓Uv.v_fld, ↓Uv.v_mkM, ↓Uv.v_mkF, ↓Uv.v_methM, ↓Uv.v_propM, ↓Uv.v_flatM, ↓Uv.v_appM, ↓Uv.v_popM, ↓Uv.v_extM, ↓Uv.v_extK, ↓Uv.v_storeM, ↓Uv.v_storeK, ↓Uv.v_parOM, ↓Uv.v_repr, ↓Uv.v_isB, ↓Uv.v_notB, List.length_cons, List.length_nil, Nat.zero_add, true_and, and_true])
set_option Elab.async false
set_option linter.all false
set_option maxRecDepth 100000
set_option maxHeartbeats 1000000
namespace Uv
open PySem L2 Inn
/-! ### bounds in bits -/
def Bt (k : Nat) (i : Int) : Prop := i.natAbs < 2 ^ k
theorem Bt.mono {a b : Nat} {i : Int} (h : Bt a i) (hab : a ≤ b) : Bt b i := Nat.lt_of_lt_of_le h (Nat.pow_le_pow_right (by decide) hab)
theorem Bt.zero {k : Nat} : Bt k 0 := Nat.pow_pos (by decide)
theorem Bt.neg {k : Nat} {i : Int} (h : Bt k i) : Bt k (-i) := by
  unfold Bt
  rw [Int.natAbs_neg]
  exact h
theorem Bt.mul {a b : Nat} {i j : Int} (h : Bt a i) (h' : Bt b j) : Bt (a + b) (i * j) := by
  unfold Bt at *
  rw [Int.natAbs_mul, Nat.pow_add]
  exact Nat.mul_lt_mul_of_lt_of_le h (Nat.le_of_lt h') (Nat.pow_pos (by decide))
theorem Bt.add {a : Nat} {i j : Int} (h : Bt a i) (h' : Bt a j) : Bt (a + 1) (i + j) := by
  unfold Bt at *
  have := Int.natAbs_add_le i j
  rw [Nat.pow_succ]
  omega
theorem Bt.sub {a : Nat} {i j : Int} (h : Bt a i) (h' : Bt a j) : Bt (a + 1) (i - j) := by
  rw [Int.sub_eq_add_neg]
  exact h.add h'.neg
theorem Bt.le {a : Nat} {i j : Int} (h : Bt a i) (hj : j.natAbs ≤ i.natAbs) : Bt a j := Nat.lt_of_le_of_lt hj h
theorem Bt.log {k : Nat} {i : Int} (h : Bt k i) (hk : 0 < k) : i.natAbs.log2 < k := by
  by_cases h0 : i.natAbs = 0
  · rw [h0]
    exact Nat.lt_of_le_of_lt (by decide) hk
  · exact (Nat.log2_lt h0).mpr h
theorem Bt.lc {k : Nat} {i : Int} (h : Bt k i) (hk : k ≤ 6000) : Lc i := Nat.lt_of_lt_of_le h (Nat.pow_le_pow_right (by decide) hk)
theorem intBits_le {k : Nat} {i : Int} (h : Bt k i) (hk : 0 < k) : (Builtin.Int.intBits i : Int) ≤ k := by
  unfold Builtin.Int.intBits
  have := h.log hk
  split <;> omega
theorem Bt.cm {a b : Nat} {i j : Int} (h : Bt a i) (h' : Bt b j) (hab : a + b ≤ 1000000) : CMulX i j := by
  unfold CMulX
  have h1 := intBits_le (h.mono (Nat.le_succ a)) (Nat.succ_pos a)
  have h2 := intBits_le (h'.mono (Nat.le_succ b)) (Nat.succ_pos b)
  omega
theorem Bt.of {k : Nat} {i : Int} (n : Nat) (h : i.natAbs < n) (hn : n ≤ 2 ^ k) : Bt k i := Nat.lt_of_lt_of_le h hn
theorem Bt.nat {k n : Nat} (h : n < 2 ^ k) : Bt k (n : Int) := h
theorem Bt.sum {k m : Nat} : ∀ {l : List Int}, (∀ i ∈ l, Bt k i) → l.length ≤ m → (l.sum).natAbs ≤ m * 2 ^ k
  | [], _, _ => Nat.zero_le _
  | i :: l, h, hl => by
    have h1 := h i List.mem_cons_self
    rw [List.length_cons] at hl
    have h2 := Bt.sum (m := m - 1) (fun j hj => h j (List.mem_cons_of_mem _ hj)) (by omega)
    have h3 := Int.natAbs_add_le i l.sum
    rw [List.sum_cons]
    have e : m = (m - 1) + 1 := by omega
    rw [e, Nat.add_mul, Nat.one_mul]
    unfold Bt at h1
    omega
/-! ### lists -/
theorem atI_nat' {α : Type} {l : List α} {i : Nat} : atI l (i : Int) = l[i]? := by
  unfold atI ixN
  rw [if_pos (by omega)]
  by_cases h : (i : Int) < (l.length : Int)
  · rw [if_pos h]
    rfl
  · rw [if_neg h]
    rw [List.getElem?_eq_none (by omega)]
    rfl
theorem atI_of {α : Type} {l : List α} {i : Int} {j : Nat} {x : α} (h : i = j) (e : l[j]? = some x) : atI l i = some x := by
  rw [h, atI_nat']
  exact e
theorem atI_last {α : Type} {l : List α} (h : l ≠ []) : atI l (-1) = l[l.length - 1]? := by
  have := List.length_pos_iff.mpr h
  unfold atI ixN
  rw [if_neg (by omega), if_pos (by omega)]
  show l[((-1 : Int) + l.length).toNat]? = _
  congr 1
  omega
theorem cut_to {α : Type} {l : List α} {n : Nat} : cut l none (some (n : Int)) = l.take n := by
  unfold cut
  rw [HT.sIx_none, HT.sIx_nat, List.drop_zero, Nat.sub_zero]
  by_cases h : n ≤ l.length
  · rw [Nat.min_eq_left h]
  · rw [Nat.min_eq_right (by omega), List.take_length, List.take_of_length_le (by omega)]
theorem cut_from {α : Type} {l : List α} {n : Nat} : cut l (some (n : Int)) none = l.drop n := by
  unfold cut
  rw [HT.sIx_nat, HT.sIx_none]
  by_cases h : n ≤ l.length
  · rw [Nat.min_eq_left h, List.take_of_length_le (by rw [List.length_drop]; omega)]
  · rw [Nat.min_eq_right (by omega), List.drop_length, List.drop_of_length_le (by omega)]
    simp
theorem ixN_nat {n i : Nat} (h : i < n) : ixN n (i : Int) = some i := by
  unfold ixN
  rw [if_pos (by omega), if_pos (by omega)]
  rfl
/-! ### integers, rationals as data -/
abbrev iL (l : List Int) : D := .lst (l.map .int)
abbrev encR (q : Rat) : D := .ins 0 [.int q.num, .int q.den]
abbrev encP (q : Rat) : D := .tup [.int q.num, .int q.den]
/-- a NUMBER -/
inductive Nu : D → Rat → Prop
  | int {q : Rat} (h : q.den = 1) : Nu (.int q.num) q
  | rat {q : Rat} : Nu (encR q) q
theorem iL_get {l : List Int} {i : Nat} {a : Int} (h : l[i]? = some a) : (l.map D.int)[i]? = some (.int a) := by
  rw [List.getElem?_map, h]
  rfl
def tlen {α : Type} (z : α → Bool) (l : List α) : Nat → Nat
  | 0 => 0
  | n + 1 => match l[n]? with
    | some a => if z a = true then tlen z l n else n + 1
    | none => n + 1
theorem tlen_0 {α : Type} {z : α → Bool} {l : List α} : tlen z l 0 = 0 := rfl
theorem tlen_s {α : Type} {z : α → Bool} {l : List α} {n : Nat} : tlen z l (n + 1) = match l[n]? with
  | some a => if z a = true then tlen z l n else n + 1
  | none => n + 1 := rfl
/-- without the z's at the end -/
def trimZ {α : Type} (z : α → Bool) (l : List α) : List α := l.take (tlen z l l.length)
abbrev trim (l : List Int) : List Int := trimZ (· == 0) l
abbrev trimQ (l : List Rat) : List Rat := trimZ (fun q => q.num == 0) l
theorem tlen_le {α : Type} {z : α → Bool} {l : List α} : ∀ n, tlen z l n ≤ n
  | 0 => Nat.le_refl _
  | n + 1 => by
    unfold tlen
    split
    · split
      · exact Nat.le_succ_of_le (tlen_le n)
      · exact Nat.le_refl _
    · exact Nat.le_refl _
theorem trimZ_len {α : Type} {z : α → Bool} {l : List α} : (trimZ z l).length = tlen z l l.length := by
  unfold trimZ
  rw [List.length_take, Nat.min_eq_left (tlen_le _)]
theorem trimZ_map {α β : Type} {z : α → Bool} {y : β → Bool} {f : α → β} {l : List α} (h : ∀ a ∈ l, y (f a) = z a) : trimZ y (l.map f) = (trimZ z l).map f := by
  have e : ∀ n, tlen y (l.map f) n = tlen z l n := by
    intro n
    induction n with
    | zero => rfl
    | succ n ih =>
      unfold tlen
      rw [List.getElem?_map]
      cases hl : l[n]? with
      | none => rfl
      | some a =>
        dsimp only [Option.map]
        rw [h a (List.mem_of_getElem? hl), ih]
  unfold trimZ
  rw [List.length_map, e, List.map_take]
theorem tlen_zero {α : Type} {z : α → Bool} {l : List α} : ∀ {n i : Nat} {a : α}, tlen z l n ≤ i → i < n → l[i]? = some a → z a = true
  | n + 1, i, a, h, hi, e => by
    unfold tlen at h
    cases hl : l[n]? with
    | none =>
      rw [hl] at h
      dsimp only at h
      omega
    | some b =>
      rw [hl] at h
      dsimp only at h
      by_cases hz : z b = true
      · rw [if_pos hz] at h
        by_cases hin : i = n
        · subst hin
          rw [hl] at e
          cases e
          exact hz
        · exact tlen_zero h (by omega) e
      · rw [if_neg hz] at h
        omega
/-- its last item is no z -/
def Trimd {α : Type} (z : α → Bool) (l : List α) : Prop := ∀ a, l.getLast? = some a → z a = false
theorem trimZ_trimd {α : Type} {z : α → Bool} {l : List α} : Trimd z (trimZ z l) := by
  have key : ∀ n, n ≤ l.length → Trimd z (l.take (tlen z l n)) := by
    intro n
    induction n with
    | zero => intro _ a h; simp [tlen] at h
    | succ n ih =>
      intro hn a h
      have lt : n < l.length := by omega
      unfold tlen at h
      rw [List.getElem?_eq_getElem lt] at h
      dsimp only at h
      by_cases hz : z l[n] = true
      · rw [if_pos hz] at h
        exact ih (by omega) a h
      · rw [if_neg hz] at h
        have e : l.take (n + 1) = l.take n ++ [l[n]] := by rw [List.take_add_one, List.getElem?_eq_getElem lt]; rfl
        rw [e, List.getLast?_concat] at h
        cases h
        exact Bool.eq_false_iff.mpr hz
  exact key _ (Nat.le_refl _)
theorem trimZ_of {α : Type} {z : α → Bool} {l : List α} (h : Trimd z l) : trimZ z l = l := by
  unfold trimZ
  cases hl : l.length with
  | zero =>
    rw [List.length_eq_zero_iff.mp hl]
    rfl
  | succ n =>
    have lt : n < l.length := by omega
    have e : l.getLast? = some l[n] := by rw [List.getLast?_eq_getElem?, show l.length - 1 = n by omega]; exact List.getElem?_eq_getElem lt
    unfold tlen
    rw [List.getElem?_eq_getElem lt]
    dsimp only
    rw [h _ e, if_neg Bool.false_ne_true, ← hl, List.take_length]
theorem mem_trimZ {α : Type} {z : α → Bool} {l : List α} {a : α} (h : a ∈ trimZ z l) : a ∈ l := List.mem_of_mem_take h
end Uv
set_option Elab.async false
set_option linter.all false
set_option maxRecDepth 100000
set_option maxHeartbeats 1000000
namespace Ml
open PySem L2 Inn Uv
/-- item by item, what is longer stays -/
def zipL {α : Type} (f : α → α → α) : List α → List α → List α
  | [], b => b
  | a, [] => a
  | x :: a, y :: b => f x y :: zipL f a b
theorem zipL_nil {α : Type} {f : α → α → α} {a : List α} : zipL f a [] = a := by cases a <;> rfl
theorem zipL_eq {α : Type} {f : α → α → α} : ∀ {a b : List α}, a.length ≤ b.length → zipL f a b = (a.zip b).map (fun p => f p.1 p.2) ++ b.drop a.length
  | [], b, _ => rfl
  | x :: a, [], h => by simp at h
  | x :: a, y :: b, h => by
    unfold zipL
    rw [zipL_eq (a := a) (b := b) (by simpa using h)]
    rfl
theorem zipL_comm {α : Type} {f : α → α → α} (hf : ∀ x y, f x y = f y x) : ∀ {a b : List α}, zipL f a b = zipL f b a
  | [], b => by rw [zipL_nil]; rfl
  | x :: a, [] => rfl
  | x :: a, y :: b => by
    unfold zipL
    rw [hf, zipL_comm hf (a := a) (b := b)]
theorem zipL_len {α : Type} {f : α → α → α} : ∀ {a b : List α}, (zipL f a b).length = max a.length b.length
  | [], b => by simp [zipL]
  | x :: a, [] => by simp [zipL]
  | x :: a, y :: b => by
    unfold zipL
    rw [List.length_cons, zipL_len (a := a) (b := b), List.length_cons, List.length_cons]
    omega
/-! ### rationals -/
theorem q_num {a : Int} {b : Nat} (hb : b ≠ 0) : ((a : Rat) / (b : Rat)).num = a / (Int.gcd a b : Nat) ∧ ((a : Rat) / (b : Rat)).den = b / Int.gcd a b := by
  have e : (a : Rat) / (b : Rat) = Rat.divInt a b := by rw [Rat.divInt_eq_div]; rfl
  rw [e, Rat.num_divInt, Rat.den_divInt, if_neg (by omega)]
  have s : ((b : Int)).sign = 1 := Int.sign_eq_one_of_pos (by omega)
  rw [s, Int.one_mul, Int.gcd_comm]
  exact ⟨rfl, rfl⟩
theorem q_of (q : Rat) : q = (q.num : Rat) / (q.den : Rat) := by
  have e := Rat.num_divInt_den q
  rw [Rat.divInt_eq_div, Rat.intCast_natCast] at e
  exact e.symm
theorem q_eq0 {q : Rat} : (q.num == 0) = decide (q = 0) := by
  rw [Bool.eq_iff_iff]
  simp [Rat.num_eq_zero]
theorem q_mul {a : Int} {b : Nat} (hb : b ≠ 0) {q : Rat} (h : q = (a : Rat) / (b : Rat)) : q.den ∣ b ∧ q.num * ((b / q.den : Nat) : Int) = a := by
  have hq := q_num (a := a) hb
  rw [← h] at hq
  have g0 : Int.gcd a b ≠ 0 := fun z => hb (by have := (Int.gcd_eq_zero_iff.mp z).2; omega)
  have gd : Int.gcd a b ∣ b := Int.gcd_dvd_natAbs_right a b
  obtain ⟨c, hc⟩ := gd
  have ga : ((Int.gcd a b : Nat) : Int) ∣ a := Int.gcd_dvd_left a b
  obtain ⟨d, hd⟩ := ga
  generalize hg : Int.gcd a b = g at *
  have e1 : q.den = c := by rw [hq.2, hc, Nat.mul_div_cancel_left _ (Nat.pos_of_ne_zero g0)]
  have e2 : q.num = d := by rw [hq.1]; conv => lhs; rw [hd]; rw [Int.mul_ediv_cancel_left _ (by omega)]
  have c0 : c ≠ 0 := fun z => hb (by rw [hc, z]; simp)
  refine ⟨⟨g, by rw [e1, hc, Nat.mul_comm]⟩, ?_⟩
  rw [e1, e2, hc, Nat.mul_div_cancel _ (Nat.pos_of_ne_zero c0), hd]
  exact Int.mul_comm _ _
theorem q_bits {a : Int} {b k : Nat} (hb : b ≠ 0) {q : Rat} (h : q = (a : Rat) / (b : Rat)) (ha : Bt k a) : Bt k q.num := by
  have e := (q_mul hb h).2
  refine ha.le ?_
  rw [← e, Int.natAbs_mul]
  have : 0 < b / q.den := Nat.div_pos (Nat.le_of_dvd (Nat.pos_of_ne_zero hb) (q_mul hb h).1) q.den_pos
  exact Nat.le_mul_of_pos_right _ (by omega)
/-! ### polynomials: lists of rationals -/
/-- all over N, k bits above -/
def Pl (N k : Nat) (qs : List Rat) : Prop := ∀ q ∈ qs, ∃ a : Int, q = (a : Rat) / (N : Rat) ∧ Bt k a
theorem Pl.den {N k : Nat} {qs : List Rat} (h : Pl N k qs) (hN : N ≠ 0) : ∀ q ∈ qs, q.den ∣ N := fun q hq => by
  obtain ⟨a, e, _⟩ := h q hq
  exact (q_mul hN e).1
theorem Pl.num {N k : Nat} {qs : List Rat} (h : Pl N k qs) (hN : N ≠ 0) : ∀ q ∈ qs, Bt k q.num := fun q hq => by
  obtain ⟨a, e, b⟩ := h q hq
  exact q_bits hN e b
theorem Pl.mono {N k k' : Nat} {qs : List Rat} (h : Pl N k qs) (hk : k ≤ k') : Pl N k' qs := fun q hq => by
  obtain ⟨a, e, b⟩ := h q hq
  exact ⟨a, e, b.mono hk⟩
theorem Pl.sub {N k : Nat} {qs rs : List Rat} (h : Pl N k qs) (hs : ∀ q ∈ rs, q ∈ qs) : Pl N k rs := fun q hq => h q (hs q hq)
theorem Pl.app {N k : Nat} {qs rs : List Rat} (h : Pl N k qs) (h' : Pl N k rs) : Pl N k (qs ++ rs) := fun q hq => (List.mem_append.mp hq).elim (h q) (h' q)
abbrev lft (L : Nat) (a : List Int) : List Rat := a.map fun i => ((i : Int) : Rat) / ((L : Nat) : Rat)
/-- the coefficient at k -/
def cf (p : List Rat) (k : Nat) : Rat := (p[k]?).getD 0
theorem cf_nil {k : Nat} : cf [] k = 0 := by simp [cf]
theorem cf_0 {a : Rat} {p : List Rat} : cf (a :: p) 0 = a := by simp [cf]
theorem cf_s {a : Rat} {p : List Rat} {k : Nat} : cf (a :: p) (k + 1) = cf p k := by simp [cf]
theorem cf_ge {p : List Rat} {k : Nat} (h : p.length ≤ k) : cf p k = 0 := by
  unfold cf
  rw [List.getElem?_eq_none h]
  rfl
theorem cf_get {p : List Rat} {k : Nat} {a : Rat} (h : p[k]? = some a) : cf p k = a := by
  unfold cf
  rw [h]
  rfl
theorem cf_map {p : List Rat} {f : Rat → Rat} (h0 : f 0 = 0) {k : Nat} : cf (p.map f) k = f (cf p k) := by
  unfold cf
  rw [List.getElem?_map]
  cases p[k]? with
  | none => exact h0.symm
  | some a => rfl
theorem cf_zipL {f : Rat → Rat → Rat} (h1 : ∀ x, f x 0 = x) (h2 : ∀ x, f 0 x = x) : ∀ (p q : List Rat) (k : Nat), cf (zipL f p q) k = f (cf p k) (cf q k) := by
  intro p
  induction p with
  | nil => intro q k; rw [cf_nil, h2]; rfl
  | cons a p ih =>
    intro q k
    cases q with
    | nil => rw [cf_nil, h1]; rfl
    | cons b q =>
      cases k with
      | zero => rw [cf_0, cf_0]; rfl
      | succ k =>
        rw [cf_s, cf_s]
        exact ih q k
theorem cf_trimZ {p : List Rat} {k : Nat} : cf (trimQ p) k = cf p k := by
  unfold cf trimQ trimZ
  rw [List.getElem?_take]
  split
  · rfl
  · rename_i h
    cases e : p[k]? with
    | none => rfl
    | some a =>
      have := tlen_zero (z := fun q : Rat => q.num == 0) (l := p) (n := p.length) (i := k) (by omega) (List.getElem?_eq_some_iff.mp e).1 e
      rw [q_eq0] at this
      exact (of_decide_eq_true this).symm
abbrev TrQ (p : List Rat) : Prop := Trimd (fun q => q.num == 0) p
theorem TrQ.last {p : List Rat} (h : TrQ p) (hp : p ≠ []) : cf p (p.length - 1) ≠ 0 := by
  intro z
  have e : p.getLast? = some (p.getLast hp) := List.getLast?_eq_getLast _
  have := h _ e
  dsimp only at this
  rw [q_eq0] at this
  apply of_decide_eq_false this
  rw [← z, cf_get (a := p.getLast hp)]
  rw [← e, List.getLast?_eq_getElem?]
/-- polynomials are told by their coefficients -/
theorem poly_ext {p q : List Rat} (hp : TrQ p) (hq : TrQ q) (h : ∀ k, cf p k = cf q k) : p = q := by
  have len : ∀ {p q : List Rat}, TrQ p → (∀ k, cf p k = cf q k) → p.length ≤ q.length := by
    intro p q hp h
    by_cases e : p = []
    · rw [e]; exact Nat.zero_le _
    · have := hp.last e
      rw [h] at this
      have l := List.length_pos_iff.mpr e
      by_cases hl : p.length ≤ q.length
      · exact hl
      · exact absurd (cf_ge (by omega)) this
  have l1 := len hp h
  have l2 := len hq fun k => (h k).symm
  refine List.ext_getElem? fun k => ?_
  by_cases hk : k < p.length
  · have e1 := List.getElem?_eq_getElem hk
    have e2 := List.getElem?_eq_getElem (show k < q.length by omega)
    have := h k
    rw [cf_get e1, cf_get e2] at this
    rw [e1, e2, this]
  · rw [List.getElem?_eq_none (by omega), List.getElem?_eq_none (by omega)]
theorem TrQ.map {p : List Rat} {f : Rat → Rat} (h : TrQ p) (hf : ∀ x, f x = 0 → x = 0) : TrQ (p.map f) := fun a e => by
  rw [List.getLast?_map] at e
  cases hl : p.getLast? with
  | none => rw [hl] at e; cases e
  | some b =>
    rw [hl] at e
    cases e
    have := h b hl
    dsimp only at this ⊢
    rw [q_eq0] at this ⊢
    exact decide_eq_false fun z => of_decide_eq_false this (hf b z)
/-! products -/
def shift (g : Nat → Rat) : Nat → Rat
  | 0 => 0
  | k + 1 => g k
def mulc : List Rat → (Nat → Rat) → Nat → Rat
  | [], _ => fun _ => 0
  | a :: p, g => fun k => a * g k + shift (mulc p g) k
theorem shift_add {g h : Nat → Rat} {k : Nat} : shift (fun k => g k + h k) k = shift g k + shift h k := by
  cases k with
  | zero => show (0 : Rat) = 0 + 0; rw [Rat.add_zero]
  | succ k => rfl
theorem shift_congr {g h : Nat → Rat} (e : ∀ k, g k = h k) {k : Nat} : shift g k = shift h k := by
  cases k with
  | zero => rfl
  | succ k => exact e k
theorem mulc_congr {g h : Nat → Rat} (e : ∀ k, g k = h k) : ∀ {p : List Rat} {k : Nat}, mulc p g k = mulc p h k
  | [], _ => rfl
  | a :: p, k => by
    show a * g k + shift (mulc p g) k = a * h k + shift (mulc p h) k
    rw [e, shift_congr fun k => mulc_congr e (p := p) (k := k)]
/-- as a sum -/
theorem mulc_sum : ∀ {p : List Rat} {g : Nat → Rat} {k : Nat}, mulc p g k = ((List.range p.length).map fun i => if i ≤ k then cf p i * g (k - i) else 0).sum
  | [], _, _ => rfl
  | a :: p, g, k => by
    show a * g k + shift (mulc p g) k = _
    rw [List.length_cons, List.range_succ_eq_map, List.map_cons, List.sum_cons, List.map_map, if_pos (Nat.zero_le _), cf_0, Nat.sub_zero]
    congr 1
    cases k with
    | zero =>
      show (0 : Rat) = _
      have : (List.range p.length).map ((fun i => if i ≤ 0 then cf (a :: p) i * g (0 - i) else 0) ∘ Nat.succ) = (List.range p.length).map fun _ => (0 : Rat) := by
        refine List.map_congr_left fun i _ => ?_
        show (if i + 1 ≤ 0 then cf (a :: p) (i + 1) * g (0 - (i + 1)) else 0) = 0
        exact if_neg (Nat.not_succ_le_zero i)
      rw [this]
      generalize List.range p.length = l
      induction l with
      | nil => rfl
      | cons x l ih => rw [List.map_cons, List.sum_cons, ← ih, Rat.add_zero]
    | succ k =>
      show mulc p g k = _
      rw [mulc_sum]
      congr 1
      refine List.map_congr_left fun i _ => ?_
      show _ = (if i + 1 ≤ k + 1 then cf (a :: p) (i + 1) * g (k + 1 - (i + 1)) else 0)
      rw [cf_s, Nat.add_sub_add_right]
      by_cases h : i ≤ k
      · rw [if_pos h, if_pos (by omega)]
      · rw [if_neg h, if_neg (by omega)]
def pmul : List Rat → List Rat → List Rat
  | [], _ => []
  | a :: p, q => zipL (· + ·) (q.map (a * ·)) (0 :: pmul p q)
theorem cf_add {p q : List Rat} {k : Nat} : cf (zipL (· + ·) p q) k = cf p k + cf q k := cf_zipL (fun x => Rat.add_zero x) (fun x => Rat.zero_add x) p q k
theorem cf_pmul : ∀ {p q : List Rat} {k : Nat}, cf (pmul p q) k = mulc p (cf q) k
  | [], q, k => cf_nil
  | a :: p, q, k => by
    show cf (zipL (· + ·) (q.map (a * ·)) (0 :: pmul p q)) k = a * cf q k + shift (mulc p (cf q)) k
    rw [cf_add, cf_map (Rat.mul_zero a)]
    congr 1
    cases k with
    | zero => rw [cf_0]; rfl
    | succ k => rw [cf_s, cf_pmul]; rfl
/-! worths -/
def pev : List Rat → Rat → Rat
  | [], _ => 0
  | a :: p, x => a + x * pev p x
theorem pev_zero {x : Rat} : ∀ {p : List Rat}, (∀ k, cf p k = 0) → pev p x = 0
  | [], _ => rfl
  | a :: p, h => by
    have h0 := h 0
    rw [cf_0] at h0
    show a + x * pev p x = 0
    rw [pev_zero fun k => by have := h (k + 1); rw [cf_s] at this; exact this, h0]
    grind
theorem pev_congr {x : Rat} : ∀ {p q : List Rat}, (∀ k, cf p k = cf q k) → pev p x = pev q x
  | [], q, h => (pev_zero fun k => by rw [← h k, cf_nil]).symm
  | a :: p, [], h => pev_zero fun k => by rw [h k, cf_nil]
  | a :: p, b :: q, h => by
    have h0 := h 0
    rw [cf_0, cf_0] at h0
    show a + x * pev p x = b + x * pev q x
    rw [h0, pev_congr (p := p) (q := q) fun k => by have := h (k + 1); rw [cf_s, cf_s] at this; exact this]
theorem pev_add {x : Rat} : ∀ {p q : List Rat}, pev (zipL (· + ·) p q) x = pev p x + pev q x
  | [], q => by show pev q x = 0 + pev q x; grind
  | a :: p, [] => by show pev (a :: p) x = pev (a :: p) x + 0; grind
  | a :: p, b :: q => by
    show (a + b) + x * pev (zipL (· + ·) p q) x = (a + x * pev p x) + (b + x * pev q x)
    rw [pev_add]
    grind
theorem pev_smul {x c : Rat} : ∀ {p : List Rat}, pev (p.map (c * ·)) x = c * pev p x
  | [] => by show (0 : Rat) = c * 0; grind
  | a :: p => by
    show c * a + x * pev (p.map (c * ·)) x = c * (a + x * pev p x)
    rw [pev_smul]
    grind
theorem pev_pmul {x : Rat} : ∀ {p q : List Rat}, pev (pmul p q) x = pev p x * pev q x
  | [], q => by show (0 : Rat) = 0 * pev q x; grind
  | a :: p, q => by
    show pev (zipL (· + ·) (q.map (a * ·)) (0 :: pmul p q)) x = (a + x * pev p x) * pev q x
    rw [pev_add, pev_smul]
    show a * pev q x + (0 + x * pev (pmul p q) x) = _
    rw [pev_pmul]
    grind
/-! derivatives -/
def derF (c : Nat) : List Rat → List Rat
  | [] => []
  | a :: p => (c : Rat) * a :: derF (c + 1) p
def pder : List Rat → List Rat
  | [] => []
  | _ :: p => derF 1 p
theorem cf_derF : ∀ {c : Nat} {p : List Rat} {k : Nat}, cf (derF c p) k = ((c + k : Nat) : Rat) * cf p k
  | c, [], k => by rw [cf_nil]; show cf [] k = _; rw [cf_nil, Rat.mul_zero]
  | c, a :: p, 0 => by rw [cf_0]; show cf (_ :: _) 0 = _; rw [cf_0, Nat.add_zero]
  | c, a :: p, k + 1 => by
    show cf (_ :: derF (c + 1) p) (k + 1) = _
    rw [cf_s, cf_s, cf_derF, show c + 1 + k = c + (k + 1) by omega]
theorem cf_pder : ∀ {p : List Rat} {k : Nat}, cf (pder p) k = ((k + 1 : Nat) : Rat) * cf p (k + 1)
  | [], k => by show cf [] k = _; rw [cf_nil, cf_nil, Rat.mul_zero]
  | a :: p, k => by
    show cf (derF 1 p) k = _
    rw [cf_derF, cf_s, Nat.add_comm]
end Ml
set_option Elab.async false
set_option linter.all false
set_option maxRecDepth 100000
set_option maxHeartbeats 1000000
namespace Ml
open PySem L2 Inn Uv Sl
theorem m_trimmed {l : List Int} {R : D → Prop} (h : R (iL (trim l))) : s_trimmed [iL l] R := by
  unfold s_trimmed
  rfl'
  refine whC_ind (fun d => ∃ n : Nat, d = .int n ∧ n ≤ l.length ∧ tlen (· == 0) l n = tlen (· == 0) l l.length) (fun d => match d with | .int i => i.toNat | _ => 0) _ ⟨l.length, by rw [List.length_map], Nat.le_refl _, rfl⟩ ?_
  rintro d nx ⟨n, rfl, hn, ht⟩ hnx
  rfl'
  cases n with
  | zero =>
    have e : decide ((0 : Int) < ((0 : Nat) : Int)) = false := by decide
    rw [e]
    rfl'
    rw [cut_to, ← List.map_take]
    rw [tlen_0] at ht
    have e2 : trim l = l.take 0 := by unfold trim trimZ; rw [← ht]
    rw [← e2]
    exact h
  | succ n =>
    have lt : n < l.length := by omega
    have e : decide ((0 : Int) < ((n + 1 : Nat) : Int)) = true := decide_eq_true (by omega)
    rw [e]
    rfl'
    refine ⟨.int l[n], atI_of (j := n) (by omega) (iL_get (List.getElem?_eq_getElem lt)), ?_⟩
    rfl'
    rw [tlen_s, List.getElem?_eq_getElem lt] at ht
    dsimp only at ht
    by_cases hz : (l[n] == 0) = true
    · rw [hz]
      rfl'
      rw [if_pos hz] at ht
      refine hnx _ ⟨n, ?_, by omega, ht⟩ ?_
      · congr 1
        omega
      · show (((n + 1 : Nat) : Int) - 1).toNat < ((n + 1 : Nat) : Int).toNat
        omega
    · rw [if_neg hz] at ht
      rw [Bool.eq_false_iff.mpr hz]
      rfl'
      rw [cut_to, ← List.map_take]
      have e2 : trim l = l.take (n + 1) := by unfold trim trimZ; rw [← ht]
      rw [← e2]
      exact h
theorem m_negated {l : List Int} {R : D → Prop} (hl : l.length ≤ sizeLine) (h : R (iL (l.map fun a => -a))) : s_negated [iL l] R := by
  unfold s_negated
  rfl'
  refine ⟨by rw [List.length_map]; exact hl, mapD_map (φ := fun a => D.int (-a)) (fun x _ R' h => by rfl'; exact h) ?_⟩
  have e : l.map (fun a => D.int (-a)) = (l.map fun a => -a).map .int := by rw [List.map_map]; rfl
  rw [e]
  exact h
theorem m_scaled_by {l : List Int} {n : Int} {a b : Nat} {R : D → Prop} (hl : l.length ≤ sizeLine) (hn : Bt a n) (hb : ∀ i ∈ l, Bt b i) (hab : a + b ≤ 1000000) (h : R (iL (if n = 0 then [] else l.map fun i => n * i))) : s_scaled_by [iL l, .int n] R := by
  unfold s_scaled_by
  rfl'
  by_cases hz : n = 0
  · subst hz
    rw [if_pos rfl] at h
    have e : (!((0 : Int) == 0)) = false := rfl
    rw [e]
    rfl'
    exact ⟨sz, h⟩
  · rw [if_neg hz] at h
    have e : (!(n == 0)) = true := by simp [hz]
    rw [e]
    rfl'
    refine ⟨by rw [List.length_map]; exact hl, mapD_map (φ := fun i => D.int (n * i)) (fun x hx R' h => by rfl'; exact ⟨hn.cm (hb x hx) hab, h⟩) ?_⟩
    have e : l.map (fun i => D.int (n * i)) = (l.map fun i => n * i).map .int := by rw [List.map_map]; rfl
    rw [e]
    exact h
theorem zip_ints {a b : List Int} : ((a.map D.int).zip (b.map D.int)).map (fun x => D.tup [x.1, x.2]) = (a.zip b).map fun p => D.tup [.int p.1, .int p.2] := by
  rw [List.zip_map, List.map_map]
  rfl
theorem m_summed {a b : List Int} {R : D → Prop} (hl : a.length + b.length ≤ sizeLine) (h : R (iL (trim (zipL (· + ·) a b)))) : s_summed [iL a, iL b] R := by
  have main : ∀ {a b : List Int}, a.length + b.length ≤ sizeLine → a.length ≤ b.length → R (iL (trim (zipL (· + ·) a b))) → (zipG [iL a, iL b] fun ds => ds.length ≤ sizeLine ∧ mapD (un2 fun x y => op2 (addG never2) (rt x) (rt y)) ds fun ys => sliceG (iL b) (some ((a.map D.int).length : Nat)) none fun y => addG never2 (.lst ys) y fun x => s_trimmed [x] R) := by
    intro a b hl hab h
    rfl'
    rw [zip_ints]
    refine ⟨by rw [List.length_map, List.length_zip]; omega, mapD_map (φ := fun p => D.int (p.1 + p.2)) (fun p _ R' h => by rfl'; exact h) ?_⟩
    rw [cut_from]
    rfl'
    refine ⟨by rw [List.length_map, List.length_zip, List.length_drop, List.length_map]; omega, ?_⟩
    have e : (a.zip b).map (fun p => D.int (p.1 + p.2)) ++ (b.map D.int).drop (a.map D.int).length = (zipL (· + ·) a b).map .int := by
      rw [zipL_eq hab, List.map_append, List.map_map, List.map_drop, List.length_map]
      rfl
    rw [e]
    exact m_trimmed h
  unfold s_summed
  rfl'
  have e : decide (((a.map D.int).length : Int) ≤ ((b.map D.int).length : Int)) = decide (a.length ≤ b.length) := by rw [List.length_map, List.length_map]; simp
  rw [e]
  by_cases hab : a.length ≤ b.length
  · rw [decide_eq_true hab]
    rfl'
    exact ⟨sz, main hl hab h⟩
  · rw [decide_eq_false hab]
    rfl'
    exact ⟨sz, main (a := b) (b := a) (by omega) (by omega) (by rw [zipL_comm (a := b) (b := a) (fun x y => Int.add_comm x y)]; exact h)⟩
end Ml
set_option Elab.async false
set_option linter.all false
set_option maxRecDepth 100000
set_option maxHeartbeats 1000000
namespace Ml
open PySem L2 Inn Uv Sl
/-! kinds -/
theorem it_int_int {i : Int} : isT .int (.int i) = true := rfl
theorem it_int_bl {b : Bool} : isT .int (.bl b) = true := rfl
theorem it_int_non  : isT .int (.non) = false := rfl
theorem it_int_str {x : Str} : isT .int (.str x) = false := rfl
theorem it_int_lst {l : List D} : isT .int (.lst l) = false := rfl
theorem it_int_tup {l : List D} : isT .int (.tup l) = false := rfl
theorem it_int_dct {ks : List Key} {l : List D} : isT .int (.dct ks l) = false := rfl
theorem it_int_ins {m : Nat} {l : List D} : isT .int (.ins m l) = false := rfl
theorem it_bool_int {i : Int} : isT .bool (.int i) = false := rfl
theorem it_bool_bl {b : Bool} : isT .bool (.bl b) = true := rfl
theorem it_bool_non  : isT .bool (.non) = false := rfl
theorem it_bool_str {x : Str} : isT .bool (.str x) = false := rfl
theorem it_bool_lst {l : List D} : isT .bool (.lst l) = false := rfl
theorem it_bool_tup {l : List D} : isT .bool (.tup l) = false := rfl
theorem it_bool_dct {ks : List Key} {l : List D} : isT .bool (.dct ks l) = false := rfl
theorem it_bool_ins {m : Nat} {l : List D} : isT .bool (.ins m l) = false := rfl
theorem it_str_int {i : Int} : isT .str (.int i) = false := rfl
theorem it_str_bl {b : Bool} : isT .str (.bl b) = false := rfl
theorem it_str_non  : isT .str (.non) = false := rfl
theorem it_str_str {x : Str} : isT .str (.str x) = true := rfl
theorem it_str_lst {l : List D} : isT .str (.lst l) = false := rfl
theorem it_str_tup {l : List D} : isT .str (.tup l) = false := rfl
theorem it_str_dct {ks : List Key} {l : List D} : isT .str (.dct ks l) = false := rfl
theorem it_str_ins {m : Nat} {l : List D} : isT .str (.ins m l) = false := rfl
theorem it_list_int {i : Int} : isT .list (.int i) = false := rfl
theorem it_list_bl {b : Bool} : isT .list (.bl b) = false := rfl
theorem it_list_non  : isT .list (.non) = false := rfl
theorem it_list_str {x : Str} : isT .list (.str x) = false := rfl
theorem it_list_lst {l : List D} : isT .list (.lst l) = true := rfl
theorem it_list_tup {l : List D} : isT .list (.tup l) = false := rfl
theorem it_list_dct {ks : List Key} {l : List D} : isT .list (.dct ks l) = false := rfl
theorem it_list_ins {m : Nat} {l : List D} : isT .list (.ins m l) = false := rfl
theorem it_tuple_int {i : Int} : isT .tuple (.int i) = false := rfl
theorem it_tuple_bl {b : Bool} : isT .tuple (.bl b) = false := rfl
theorem it_tuple_non  : isT .tuple (.non) = false := rfl
theorem it_tuple_str {x : Str} : isT .tuple (.str x) = false := rfl
theorem it_tuple_lst {l : List D} : isT .tuple (.lst l) = false := rfl
theorem it_tuple_tup {l : List D} : isT .tuple (.tup l) = true := rfl
theorem it_tuple_dct {ks : List Key} {l : List D} : isT .tuple (.dct ks l) = false := rfl
theorem it_tuple_ins {m : Nat} {l : List D} : isT .tuple (.ins m l) = false := rfl
theorem it_dict_int {i : Int} : isT .dict (.int i) = false := rfl
theorem it_dict_bl {b : Bool} : isT .dict (.bl b) = false := rfl
theorem it_dict_non  : isT .dict (.non) = false := rfl
theorem it_dict_str {x : Str} : isT .dict (.str x) = false := rfl
theorem it_dict_lst {l : List D} : isT .dict (.lst l) = false := rfl
theorem it_dict_tup {l : List D} : isT .dict (.tup l) = false := rfl
theorem it_dict_dct {ks : List Key} {l : List D} : isT .dict (.dct ks l) = true := rfl
theorem it_dict_ins {m : Nat} {l : List D} : isT .dict (.ins m l) = false := rfl
theorem it_c_int {i : Int} {n : Nat} : isT (.c n) (.int i) = false := rfl
theorem it_c_bl {b : Bool} {n : Nat} : isT (.c n) (.bl b) = false := rfl
theorem it_c_non  {n : Nat} : isT (.c n) (.non) = false := rfl
theorem it_c_str {x : Str} {n : Nat} : isT (.c n) (.str x) = false := rfl
theorem it_c_lst {l : List D} {n : Nat} : isT (.c n) (.lst l) = false := rfl
theorem it_c_tup {l : List D} {n : Nat} : isT (.c n) (.tup l) = false := rfl
theorem it_c_dct {ks : List Key} {l : List D} {n : Nat} : isT (.c n) (.dct ks l) = false := rfl
theorem it_c_ins {m : Nat} {l : List D} {n : Nat} : isT (.c n) (.ins m l) = (n == m) := rfl
theorem pl_int {i : Int} : plainD (.int i) = true := rfl
theorem pl_bl {b : Bool} : plainD (.bl b) = true := rfl
theorem pl_non  : plainD (.non) = true := rfl
theorem pl_str {x : Str} : plainD (.str x) = true := rfl
theorem pl_lst {l : List D} : plainD (.lst l) = true := rfl
theorem pl_tup {l : List D} : plainD (.tup l) = true := rfl
theorem pl_dct {ks : List Key} {l : List D} : plainD (.dct ks l) = true := rfl
theorem pl_ins {m : Nat} {l : List D} : plainD (.ins m l) = true := rfl
end Ml
local macro_rules | `(tactic| bv_omega) => `(tactic| try simp only [↓Uv.v_op2, ↓Uv.v_op1, ↓Uv.v_opN, ↓Uv.v_rt, ↓Uv.v_asks, ↓Uv.v_lcons, ↓Uv.v_lnil, ↓Uv.v_tst, ↓Uv.v_tstK, ↓Uv.v_truM, ↓Uv.v_notM, ↓Uv.v_blM, ↓Uv.v_andM, ↓Uv.v_orM, ↓Uv.v_andV, ↓Uv.v_orV, ↓Uv.v_iteM, ↓Uv.v_t, ↓Uv.v_f, ↓Uv.v_truB, ↓Uv.v_truI, ↓Uv.v_truL, ↓Uv.v_truT, ↓Uv.v_isi, List.any_cons, List.any_nil, Bool.or_false, Bool.or_true, Bool.false_or, Bool.true_or, Bool.not_true, Bool.not_false, Nat.beq_refl, BEq.rfl, true_and, and_true, Ml.it_int_int, Ml.it_int_bl, Ml.it_int_non, Ml.it_int_str, Ml.it_int_lst, Ml.it_int_tup, Ml.it_int_dct, Ml.it_int_ins, Ml.it_bool_int, Ml.it_bool_bl, Ml.it_bool_non, Ml.it_bool_str, Ml.it_bool_lst, Ml.it_bool_tup, Ml.it_bool_dct, Ml.it_bool_ins, Ml.it_str_int, Ml.it_str_bl, Ml.it_str_non, Ml.it_str_str, Ml.it_str_lst, Ml.it_str_tup, Ml.it_str_dct, Ml.it_str_ins, Ml.it_list_int, Ml.it_list_bl, Ml.it_list_non, Ml.it_list_str, Ml.it_list_lst, Ml.it_list_tup, Ml.it_list_dct, Ml.it_list_ins, Ml.it_tuple_int, Ml.it_tuple_bl, Ml.it_tuple_non, Ml.it_tuple_str, Ml.it_tuple_lst, Ml.it_tuple_tup, Ml.it_tuple_dct, Ml.it_tuple_ins, Ml.it_dict_int, Ml.it_dict_bl, Ml.it_dict_non, Ml.it_dict_str, Ml.it_dict_lst, Ml.it_dict_tup, Ml.it_dict_dct, Ml.it_dict_ins, Ml.it_c_int, Ml.it_c_bl, Ml.it_c_non, Ml.it_c_str, Ml.it_c_lst, Ml.it_c_tup, Ml.it_c_dct, Ml.it_c_ins, Ml.pl_int, Ml.pl_bl, Ml.pl_non, Ml.pl_str, Ml.pl_lst, Ml.pl_tup, Ml.pl_dct, Ml.pl_ins])
set_option Elab.async false
set_option linter.all false
set_option maxRecDepth 100000
set_option maxHeartbeats 1000000
namespace Ml
open PySem L2 Inn Uv Sl
/-! ### numbers -/
theorem m_int_int {i : Int} {R : D → Prop} (h : R (.bl true)) : s_is_integer [.int i] R := by
  unfold s_is_integer
  bv_omega
  exact h
theorem m_int_no {d : D} {R : D → Prop} (hp : plainD d = true) (hi : isT .int d = false) (h : R (.bl false)) : s_is_integer [d] R := by
  unfold s_is_integer
  bv_omega
  rw [hi, hp]
  bv_omega
  exact h
theorem m_int_bl {b : Bool} {R : D → Prop} (h : R (.bl false)) : s_is_integer [.bl b] R := by
  unfold s_is_integer
  bv_omega
  exact h
theorem m_num_yes {d : D} {q : Rat} {R : D → Prop} (hd : Nu d q) (h : R (.bl true)) : s_is_number [d] R := by
  cases hd with
  | int hq =>
    unfold s_is_number
    bv_omega
    exact m_int_int h
  | rat =>
    unfold s_is_number
    bv_omega
    exact h
theorem m_num_no {d : D} {R : D → Prop} (hp : plainD d = true) (hi : isT .int d = false) (hc : isT (.c 0) d = false) (h : R (.bl false)) : s_is_number [d] R := by
  unfold s_is_number
  bv_omega
  rw [hp, hc]
  bv_omega
  exact m_int_no hp hi h
theorem m_num_bl {b : Bool} {R : D → Prop} (h : R (.bl false)) : s_is_number [.bl b] R := by
  unfold s_is_number
  bv_omega
  exact m_int_bl h
theorem m_pair {d : D} {q : Rat} {R : D → Prop} (hd : Nu d q) (h : R (encP q)) : s_pair_of [d] R := by
  cases hd with
  | int hq =>
    unfold s_pair_of
    bv_omega
    unfold s_need_number
    bv_omega
    refine m_num_yes (.int hq) ?_
    bv_omega
    rfl'
    have h : R (.tup [.int q.num, .int (q.den : Nat)]) := h
    rw [hq] at h
    exact ⟨sz, h⟩
  | rat =>
    unfold s_pair_of
    bv_omega
    rfl'
    exact ⟨_, rfl, _, rfl, sz, h⟩
end Ml
set_option Elab.async false
set_option linter.all false
set_option maxRecDepth 100000
set_option maxHeartbeats 1000000
namespace Ml
open PySem L2 Inn Uv Sl
/-! ### lists of numbers -/
abbrev encQ (p : List Rat) : D := .lst (p.map encR)
abbrev encPP (p : List Rat) : D := .lst (p.map encP)
abbrev rq (a b : Int) : Rat := Rat.divInt a b
theorem mapD_all2 {β : Type} {Q : D → β → Prop} {f : D → M D} {φ : β → D} : ∀ {ds : List D} {xs : List β} {R : List D → Prop}, All2 Q ds xs → (∀ d x, x ∈ xs → Q d x → ∀ R' : D → Prop, R' (φ x) → f d R') → R (xs.map φ) → mapD f ds R
  | [], _, R, .nil, _, h => h
  | d :: ds, _, R, .cons hd t, hf, h => hf d _ List.mem_cons_self hd _ (mapD_all2 t (fun d x hx => hf d x (List.mem_cons_of_mem _ hx)) h)
theorem all2_app {β γ : Type} {Q : β → γ → Prop} : ∀ {xs xs' : List β} {ys ys' : List γ}, All2 Q xs ys → All2 Q xs' ys' → All2 Q (xs ++ xs') (ys ++ ys')
  | [], _, _, _, .nil, h => h
  | _ :: _, _, _, _, .cons h t, h2 => .cons h (all2_app t h2)
abbrev Nus (ds : List D) (qs : List Rat) : Prop := All2 Nu ds qs
theorem nus_r : ∀ {qs : List Rat}, Nus (qs.map encR) qs
  | [] => .nil
  | _ :: _ => .cons .rat nus_r
/-- a list or a tuple -/
inductive Sq : D → List D → Prop
  | l {ds : List D} : Sq (.lst ds) ds
  | t {ds : List D} : Sq (.tup ds) ds
theorem Sq.items {v : D} {ds : List D} {R : List D → Prop} (h : Sq v ds) : itemsG v R = R ds := by cases h <;> rfl
theorem Sq.len {v : D} {ds : List D} {R : D → Prop} (h : Sq v ds) : lenF [v] R = R (.int (ds.length : Nat)) := by cases h <;> rfl
theorem v_items {m : D} {R : List D → Prop} : itemsM (rt m) R = itemsG m R := rfl
/-! making a Ratio -/
theorem dvd_fdiv {g c : Int} (hg : g ≠ 0) : (g * c).fdiv g = c := Int.mul_fdiv_cancel_left c hg
theorem fdiv_nat {a : Int} {b : Nat} : a.fdiv (b : Int) = a / (b : Int) := Int.fdiv_eq_ediv_of_nonneg a (by omega)
theorem _root_.Uv.Bt.dvd {k : Nat} {i j : Int} (h : Bt k i) (hi : i ≠ 0) (hj : j ∣ i) : Bt k j := Nat.lt_of_le_of_lt (Nat.le_of_dvd (Int.natAbs_pos.mpr hi) (Int.natAbs_dvd_natAbs.mpr hj)) h
theorem m_init {a b : Int} {k : Nat} {R : List D → Prop} (hb : b ≠ 0) (hk : Bt k b) (hk2 : k ≤ 9000) (h : R [.int (rq a b).num, .int ((rq a b).den : Nat)]) : s_Ratio_init [.int a, .int b] R := by
  unfold s_Ratio_init
  bv_omega
  refine m_int_int ?_
  bv_omega
  refine m_int_int ?_
  bv_omega
  rfl'
  have e : (b == 0) = false := by simp [hb]
  rw [e]
  rfl'
  have g0 : Int.gcd a b ≠ 0 := fun z => hb (Int.gcd_eq_zero_iff.mp z).2
  obtain ⟨c, hc⟩ := Int.gcd_dvd_left a b
  obtain ⟨d, hd⟩ := Int.gcd_dvd_right a b
  have n1 : (rq a b).num = b.sign * a / (Int.gcd a b : Nat) := by
    show (Rat.divInt a b).num = _
    rw [Rat.num_divInt, Int.gcd_comm]
  have n2 : (rq a b).den = b.natAbs / Int.gcd a b := by
    show (Rat.divInt a b).den = _
    rw [Rat.den_divInt, if_neg hb, Int.gcd_comm]
  have lg : (Int.gcd a b : Int).natAbs.log2 < 9000 := ((hk.dvd hb (Int.gcd_dvd_right a b)).mono hk2).log (by decide)
  generalize Int.gcd a b = g at *
  have gz : (g : Int) ≠ 0 := by omega
  have nz : -(g : Int) ≠ 0 := by omega
  have ea : a.fdiv (g : Int) = c := by rw [hc]; exact dvd_fdiv gz
  have eb : b.fdiv (g : Int) = d := by rw [hd]; exact dvd_fdiv gz
  have ea' : a.fdiv (-(g : Int)) = -c := by rw [hc, ← Int.neg_mul_neg]; exact dvd_fdiv nz
  have eb' : b.fdiv (-(g : Int)) = -d := by rw [hd, ← Int.neg_mul_neg]; exact dvd_fdiv nz
  by_cases hp : 0 < b
  · rw [decide_eq_true hp]
    rfl'
    refine ⟨⟨gz, lg⟩, ⟨gz, lg⟩, ?_⟩
    rw [ea, eb]
    rw [Int.sign_eq_one_of_pos hp, Int.one_mul] at n1
    have m1 : a / (g : Int) = c := by rw [← fdiv_nat]; exact ea
    have m2 : ((b.natAbs / g : Nat) : Int) = d := by
      rw [Int.natCast_ediv, Int.natAbs_of_nonneg (Int.le_of_lt hp), ← fdiv_nat]
      exact eb
    rw [n1, n2, m1, m2] at h
    exact h
  · rw [decide_eq_false hp]
    rfl'
    refine ⟨⟨nz, by rw [Int.natAbs_neg]; exact lg⟩, ⟨nz, by rw [Int.natAbs_neg]; exact lg⟩, ?_⟩
    rw [ea', eb']
    rw [Int.sign_eq_neg_one_of_neg (by omega), Int.neg_one_mul] at n1
    have m1 : -a / (g : Int) = -c := by rw [← fdiv_nat, hc, ← Int.mul_neg]; exact dvd_fdiv gz
    have m2 : ((b.natAbs / g : Nat) : Int) = -d := by
      have e : (b.natAbs : Int) = -b := by omega
      rw [Int.natCast_ediv, e, ← fdiv_nat, hd, ← Int.mul_neg]
      exact dvd_fdiv gz
    rw [n1, n2, m1, m2] at h
    exact h
theorem rq_eq {a b : Int} : rq a b = (a : Rat) / (b : Rat) := Rat.divInt_eq_div a b
theorem rq_nat {a : Int} {b : Nat} : rq a (b : Int) = (a : Rat) / (b : Rat) := Rat.divInt_eq_div a b
theorem m_mk {a b : Int} {k : Nat} {R : D → Prop} (hb : b ≠ 0) (hk : Bt k b) (hk2 : k ≤ 9000) (h : R (encR (rq a b))) : mkM 0 s_Ratio_init [] [.int a, .int b] R := by
  rfl'
  exact m_init hb hk hk2 h
theorem m_mkF {a b : Int} {k : Nat} {R : D → Prop} (hb : b ≠ 0) (hk : Bt k b) (hk2 : k ≤ 9000) (h : R (encR (rq a b))) : mkF 0 s_Ratio_init [] [.int a, .int b] R := by
  rfl'
  exact m_init hb hk hk2 ⟨(fun e => nomatch e), h⟩
/-! brought over one number -/
theorem nat_bt {n k : Nat} (h : n < 2 ^ k) : Bt k (n : Int) := h
theorem lcm_pos' {a b : Nat} (ha : a ≠ 0) (hb : b ≠ 0) : Nat.lcm a b ≠ 0 := Nat.lcm_ne_zero ha hb
abbrev upto (L : Nat) (qs : List Rat) : List Int := qs.map fun q => q.num * ((L / q.den : Nat) : Int)
theorem upto_lft {L : Nat} (hL : L ≠ 0) : ∀ {qs : List Rat}, (∀ q ∈ qs, q.den ∣ L) → lft L (upto L qs) = qs
  | [], _ => rfl
  | q :: qs, h => by
    show ((q.num * ((L / q.den : Nat) : Int) : Int) : Rat) / (L : Rat) :: lft L (upto L qs) = q :: qs
    rw [upto_lft hL fun q hq => h q (List.mem_cons_of_mem _ hq)]
    congr 1
    obtain ⟨c, hc⟩ := h q List.mem_cons_self
    have dp := q.den_pos
    have c0 : c ≠ 0 := fun z => hL (by rw [hc, z, Nat.mul_zero])
    rw [hc, Nat.mul_div_cancel_left _ dp]
    have e := q_of q
    have d0 : (q.den : Rat) ≠ 0 := by exact_mod_cast q.den_nz
    have c1 : (c : Rat) ≠ 0 := by exact_mod_cast c0
    rw [Rat.intCast_mul, Rat.natCast_mul, Rat.intCast_natCast]
    conv => rhs; rw [e]
    grind
theorem upto_bt {N k L : Nat} {qs : List Rat} (h : Pl N k qs) (hN : N ≠ 0) (hL : L ∣ N) : ∀ i ∈ upto L qs, Bt k i := by
  intro i hi
  obtain ⟨q, hq, rfl⟩ := List.mem_map.mp hi
  obtain ⟨a, e, b⟩ := h q hq
  refine b.le ?_
  have m := (q_mul hN e).2
  rw [← m, Int.natAbs_mul, Int.natAbs_mul]
  refine Nat.mul_le_mul (Nat.le_refl _) ?_
  show L / q.den ≤ N / q.den
  exact Nat.div_le_div_right (Nat.le_of_dvd (Nat.pos_of_ne_zero hN) hL)
theorem m_cleared {v : D} {ds : List D} {qs : List Rat} {N k : Nat} {R : D → Prop} (hs : Sq v ds) (hd : Nus ds qs) (hl : qs.length ≤ 10000) (hp : Pl N k qs) (hN : N ≠ 0) (hb : N < 2 ^ 6000) (hk : k ≤ 10000)
    (h : ∀ (L : Nat) (a : List Int), L ≠ 0 → L ∣ N → lft L a = qs → (∀ i ∈ a, Bt k i) → R (.tup [iL a, .int L])) : s_cleared [v] R := by
  unfold s_cleared
  rfl'
  rw [hs.items]
  refine ⟨by rw [hd.len]; exact sz hl, mapD_all2 (φ := encP) hd (fun d q _ hq R' h => m_pair hq h) ?_⟩
  rfl'
  refine forC_map (fun ys s => ∃ L : Nat, s = .int L ∧ L ≠ 0 ∧ L ∣ N ∧ ∀ q ∈ ys, q.den ∣ L) _ qs ⟨1, rfl, by decide, Nat.one_dvd N, fun q hq => nomatch hq⟩ ?_ ?_
  · rintro ys q zs s nx e ⟨L, rfl, l0, l1, l2⟩ hn
    have mem : q ∈ qs := by rw [e]; exact List.mem_append_right _ List.mem_cons_self
    rfl'
    have dn := hp.den hN q mem
    have ll : L ≤ N := Nat.le_of_dvd (Nat.pos_of_ne_zero hN) l1
    have ld : q.den ≤ N := Nat.le_of_dvd (Nat.pos_of_ne_zero hN) dn
    refine ⟨⟨Nat.lt_of_le_of_lt ll hb, Nat.lt_of_le_of_lt ld hb⟩, hn _ ⟨Nat.lcm L q.den, rfl, lcm_pos' l0 q.den_nz, Nat.lcm_dvd l1 dn, ?_⟩⟩
    intro q' hq'
    rcases List.mem_append.mp hq' with h1 | h1
    · exact Nat.dvd_trans (l2 q' h1) (Nat.dvd_lcm_left _ _)
    · rw [List.mem_singleton.mp h1]
      exact Nat.dvd_lcm_right _ _
  · rintro s ⟨L, rfl, l0, l1, l2⟩
    have ll : L ≤ N := Nat.le_of_dvd (Nat.pos_of_ne_zero hN) l1
    rfl'
    refine ⟨by rw [List.length_map]; exact sz hl, mapD_map (φ := fun q => .int (q.num * ((L / q.den : Nat) : Int))) (fun q hq R' h => ?_) ?_⟩
    · rfl'
      have dn := hp.den hN q hq
      have ld : q.den ≤ N := Nat.le_of_dvd (Nat.pos_of_ne_zero hN) dn
      refine ⟨⟨by have := q.den_pos; omega, ?_⟩, ?_, ?_⟩
      · exact ((nat_bt (Nat.lt_of_le_of_lt ld hb)).mono (by decide)).log (by decide)
      · rw [fdiv_nat, ← Int.natCast_ediv]
        have b1 := hp.num hN q hq
        have b2 : Bt 6000 ((L / q.den : Nat) : Int) := Nat.lt_of_le_of_lt (Nat.le_trans (Nat.div_le_self _ _) ll) hb
        exact b1.cm b2 (by omega)
      · rw [fdiv_nat, ← Int.natCast_ediv]
        exact h
    · have e : qs.map (fun q => D.int (q.num * ((L / q.den : Nat) : Int))) = (upto L qs).map .int := by rw [List.map_map]; rfl
      rw [e]
      exact ⟨sz, h L (upto L qs) l0 l1 (upto_lft l0 l2) (upto_bt hp hN l1)⟩
theorem m_over {L k : Nat} {a : List Int} {R : D → Prop} (hL : L ≠ 0) (hk : L < 2 ^ k) (hk2 : k ≤ 9000) (hl : a.length ≤ sizeLine) (h : R (encQ (lft L a))) : s_ratios_over [iL a, .int L] R := by
  unfold s_ratios_over
  rfl'
  refine ⟨by rw [List.length_map]; exact hl, mapD_map (φ := fun i : Int => encR ((i : Rat) / (L : Rat))) (fun i _ R' h => ?_) ?_⟩
  · exact m_mkF (by omega) (nat_bt hk) hk2 (by rw [rq_nat]; exact h)
  · have e : a.map (fun i : Int => encR ((i : Rat) / (L : Rat))) = (lft L a).map encR := by rw [List.map_map]; rfl
    rw [e]
    exact h
end Ml
set_option Elab.async false
set_option linter.all false
set_option maxRecDepth 100000
set_option maxHeartbeats 1000000
namespace Ml
open PySem L2 Inn Uv Sl
/-! ### lists of rationals in canonical form -/
theorem lft_trim {L : Nat} (hL : L ≠ 0) {a : List Int} : lft L (trim a) = trimQ (lft L a) := by
  refine (trimZ_map fun i _ => ?_).symm
  rw [q_eq0, Bool.eq_iff_iff, decide_eq_true_eq, beq_iff_eq]
  have l : (L : Rat) ≠ 0 := by exact_mod_cast hL
  constructor
  · intro h
    have : (i : Rat) = 0 := by grind
    exact_mod_cast this
  · intro h
    rw [h]
    grind
theorem TrQ.mk {p : List Rat} (h : p ≠ [] → cf p (p.length - 1) ≠ 0) : TrQ p := by
  intro a e
  dsimp only
  rw [q_eq0]
  refine decide_eq_false fun z => ?_
  have hp : p ≠ [] := by rintro rfl; cases e
  apply h hp
  rw [List.getLast?_eq_getElem?] at e
  rw [cf_get e, z]
theorem trQ_trim {p : List Rat} : TrQ (trimQ p) := trimZ_trimd
/-- told by the coefficients -/
theorem to_trim {p q : List Rat} (hp : TrQ p) (h : ∀ k, cf p k = cf q k) : p = trimQ q := poly_ext hp trQ_trim fun k => by rw [cf_trimZ]; exact h k
theorem trim_congr {p q : List Rat} (h : ∀ k, cf p k = cf q k) : trimQ p = trimQ q := poly_ext trQ_trim trQ_trim fun k => by rw [cf_trimZ, cf_trimZ]; exact h k
theorem zipL_map {α β : Type} {f : α → α → α} {f' : β → β → β} {g : α → β} (h : ∀ x y, g (f x y) = f' (g x) (g y)) : ∀ {a b : List α}, (zipL f a b).map g = zipL f' (a.map g) (b.map g)
  | [], b => rfl
  | x :: a, [] => rfl
  | x :: a, y :: b => by
    unfold zipL
    rw [List.map_cons, h, zipL_map h]
    rfl
theorem lft_add {L : Nat} {a b : List Int} : lft L (zipL (· + ·) a b) = zipL (· + ·) (lft L a) (lft L b) := zipL_map fun x y => by rw [Rat.intCast_add]; grind
theorem lft_take {L n : Nat} {a : List Int} : lft L (a.take n) = (lft L a).take n := List.map_take
theorem lft_drop {L n : Nat} {a : List Int} : lft L (a.drop n) = (lft L a).drop n := List.map_drop
theorem lft_len {L : Nat} {a : List Int} : (lft L a).length = a.length := List.length_map _
theorem lft_neg {L : Nat} {a : List Int} : lft L (a.map fun i => -i) = (lft L a).map fun q => -q := by
  show (a.map fun i => -i).map (fun i : Int => (i : Rat) / (L : Rat)) = (a.map fun i : Int => (i : Rat) / (L : Rat)).map fun q => -q
  rw [List.map_map, List.map_map]
  refine List.map_congr_left fun i _ => ?_
  show ((-i : Int) : Rat) / (L : Rat) = -((i : Rat) / (L : Rat))
  rw [Rat.intCast_neg]
  grind
theorem cf_neg {p : List Rat} {k : Nat} : cf (p.map fun q => -q) k = -cf p k := cf_map (f := fun q => -q) (by show -(0 : Rat) = 0; grind)
theorem cf_smul {p : List Rat} {c : Rat} {k : Nat} : cf (p.map fun q => c * q) k = c * cf p k := cf_map (f := fun q => c * q) (Rat.mul_zero c)
abbrev padd (p q : List Rat) : List Rat := trimQ (zipL (· + ·) p q)
abbrev psub (p q : List Rat) : List Rat := trimQ (zipL (· + ·) p (q.map fun x => -x))
abbrev psm (c : Rat) (p : List Rat) : List Rat := trimQ (p.map fun x => c * x)
abbrev ptim (p q : List Rat) : List Rat := trimQ (pmul p q)
abbrev pdif (p : List Rat) : List Rat := trimQ (pder p)
theorem cf_padd {p q : List Rat} {k : Nat} : cf (padd p q) k = cf p k + cf q k := by rw [cf_trimZ, cf_add]
theorem cf_psub {p q : List Rat} {k : Nat} : cf (psub p q) k = cf p k - cf q k := by rw [cf_trimZ, cf_add, cf_neg, Rat.sub_eq_add_neg]
theorem cf_psm {c : Rat} {p : List Rat} {k : Nat} : cf (psm c p) k = c * cf p k := by rw [cf_trimZ, cf_smul]
theorem cf_ptim {p q : List Rat} {k : Nat} : cf (ptim p q) k = mulc p (cf q) k := by rw [cf_trimZ, cf_pmul]
theorem cf_pdif {p : List Rat} {k : Nat} : cf (pdif p) k = ((k + 1 : Nat) : Rat) * cf p (k + 1) := by rw [cf_trimZ, cf_pder]
/-! sums -/
theorem sum_zero {β : Type} {f : β → Rat} : ∀ {l : List β}, (∀ x ∈ l, f x = 0) → (l.map f).sum = 0
  | [], _ => rfl
  | x :: l, h => by rw [List.map_cons, List.sum_cons, h x List.mem_cons_self, sum_zero fun y hy => h y (List.mem_cons_of_mem _ hy), Rat.add_zero]
theorem sum_app : ∀ {l m : List Rat}, (l ++ m).sum = l.sum + m.sum
  | [], m => by show m.sum = 0 + m.sum; rw [Rat.zero_add]
  | x :: l, m => by rw [List.cons_append, List.sum_cons, List.sum_cons, sum_app, Rat.add_assoc]
/-- what is 0 outside -/
theorem sum_window {n lo c : Nat} {f : Nat → Rat} (hn : lo + c ≤ n) (h : ∀ i, i < n → (i < lo ∨ lo + c ≤ i) → f i = 0) : ((List.range n).map f).sum = ((List.range c).map fun j => f (lo + j)).sum := by
  obtain ⟨d, rfl⟩ : ∃ d, n = lo + c + d := ⟨n - (lo + c), by omega⟩
  rw [List.range_add, List.range_add, List.map_append, List.map_append, sum_app, sum_app, sum_zero (l := List.range lo), List.map_map, List.map_map]
  · rw [sum_zero (l := List.range d), Rat.add_zero, Rat.zero_add]
    · rfl
    · intro j hj
      have := List.mem_range.mp hj
      show f (lo + c + j) = 0
      exact h _ (by omega) (.inr (by omega))
  · intro i hi
    have := List.mem_range.mp hi
    exact h i (by omega) (.inl this)
theorem cast_sum {L : Nat} : ∀ {l : List Int}, ((l.sum : Int) : Rat) / (L : Rat) = (lft L l).sum
  | [] => by
    show (((0 : Int)) : Rat) / (L : Rat) = 0
    rw [Rat.intCast_zero]
    grind
  | x :: l => by
    rw [List.sum_cons, Rat.intCast_add]
    show _ = (x : Rat) / (L : Rat) + (lft L l).sum
    rw [← cast_sum]
    grind
/-! ### polynomials in the program -/
theorem m_isp {v : D} {ds : List D} {qs : List Rat} {R : D → Prop} (hs : Sq v ds) (hd : Nus ds qs) (hl : qs.length ≤ 25) (h : R (.bl true)) : s_is_poly [v] R := by
  unfold s_is_poly
  have e : isT .list v = true ∨ isT .tuple v = true := by cases hs; exact .inl rfl; exact .inr rfl
  have ep : plainD v = true := by cases hs <;> rfl
  have fin : (mapD (fun vnumber => opN s_is_number (lcons (rt vnumber) lnil)) ds fun ys => allF [.lst ys] R) := by
    refine mapD_all2 (φ := fun _ => .bl true) hd (fun d q _ hq R' h => m_num_yes hq h) ?_
    rfl'
    refine ⟨qs.map fun _ => true, ?_, ?_⟩
    · rw [show qs.map (fun _ => D.bl true) = (qs.map fun _ => true).map D.bl by rw [List.map_map]; rfl]
      exact blsOf_map _
    · have : (qs.map fun _ => true).all id = true := by simp
      rw [this]
      exact h
  have len := hd.len
  bv_omega
  rw [ep]
  have : (isT .list v || isT .tuple v) = true := by rcases e with e | e <;> rw [e] <;> simp
  rw [this]
  bv_omega
  rfl'
  rw [hs.len]
  rfl'
  have : decide ((25 : Int) < ((ds.length : Nat) : Int)) = false := decide_eq_false (by omega)
  rw [this]
  rfl'
  rw [hs.items]
  exact ⟨sz (by omega), fin⟩
theorem m_need {v : D} {ds : List D} {qs : List Rat} {R : D → Prop} (hs : Sq v ds) (hd : Nus ds qs) (hl : qs.length ≤ 25) (h : R .non) : s_need_poly [v] R := by
  unfold s_need_poly
  bv_omega
  refine m_isp hs hd hl ?_
  bv_omega
  exact h
theorem m_needs {v v' : D} {ds ds' : List D} {qs qs' : List Rat} {R : D → Prop} (hs : Sq v ds) (hd : Nus ds qs) (hl : qs.length ≤ 25) (hs' : Sq v' ds') (hd' : Nus ds' qs') (hl' : qs'.length ≤ 25) (h : R .non) : s_need_polys [v, v'] R := by
  unfold s_need_polys
  bv_omega
  exact m_need hs hd hl (m_need hs' hd' hl' h)
/-- a polynomial, over N, of k bits -/
structure Po (N k : Nat) (v : D) (qs : List Rat) : Prop where
  ex : ∃ ds, Sq v ds ∧ Nus ds qs
  len : qs.length ≤ 25
  pl : Pl N k qs
structure Ok (N k : Nat) : Prop where
  n0 : N ≠ 0
  nb : N < 2 ^ 4000
  kb : k ≤ 4000
theorem m_need' {N k : Nat} {v : D} {qs : List Rat} {R : D → Prop} (hp : Po N k v qs) (h : R .non) : s_need_poly [v] R := by
  obtain ⟨ds, hs, hd⟩ := hp.ex
  exact m_need hs hd hp.len h
theorem m_needs' {N k N' k' : Nat} {v v' : D} {qs qs' : List Rat} {R : D → Prop} (hp : Po N k v qs) (hp' : Po N' k' v' qs') (h : R .non) : s_need_polys [v, v'] R := by
  obtain ⟨ds, hs, hd⟩ := hp.ex
  obtain ⟨ds', hs', hd'⟩ := hp'.ex
  exact m_needs hs hd hp.len hs' hd' hp'.len h
theorem n6 {N : Nat} (h : N < 2 ^ 4000) : N < 2 ^ 6000 := Nat.lt_of_lt_of_le h (Nat.pow_le_pow_right (by decide) (by decide))
theorem m_cp {N k : Nat} {v : D} {qs : List Rat} {R : D → Prop} (ok : Ok N k) (hp : Po N k v qs)
    (h : ∀ (L : Nat) (a : List Int), L ≠ 0 → L ∣ N → lft L a = trimQ qs → Trimd (· == 0) a → a.length ≤ 25 → (∀ i ∈ a, Bt k i) → R (.tup [iL a, .int L])) : s_cleared_poly [v] R := by
  unfold s_cleared_poly
  obtain ⟨ds, hs, hd⟩ := hp.ex
  have hl := hp.len
  rfl'
  refine m_cleared hs hd (by omega) hp.pl ok.n0 (n6 ok.nb) (by have := ok.kb; omega) fun L a l0 l1 el ab => ?_
  rfl'
  refine m_trimmed ⟨sz, h L (trim a) l0 l1 (by rw [lft_trim l0, el]) trimZ_trimd ?_ fun i hi => ab i (mem_trimZ hi)⟩
  rw [trimZ_len]
  have := tlen_le (z := fun x : Int => x == 0) (l := a) a.length
  have e := congrArg List.length el
  rw [List.length_map] at e
  omega
theorem m_told {N k : Nat} {v : D} {qs : List Rat} {R : D → Prop} (ok : Ok N k) (hp : Po N k v qs) (h : R (encQ (trimQ qs))) : s_told [v] R := by
  unfold s_told
  rfl'
  refine m_need' hp (m_cp ok hp fun L a l0 l1 el ta la ab => ?_)
  rfl'
  refine m_over l0 (Nat.lt_of_le_of_lt (Nat.le_of_dvd (Nat.pos_of_ne_zero ok.n0) l1) ok.nb) (by decide) (sz (by omega)) ?_
  rw [el]
  exact h
theorem m_degree {N k : Nat} {v : D} {qs : List Rat} {R : D → Prop} (ok : Ok N k) (hp : Po N k v qs) (h : R (.int (((trimQ qs).length : Nat) - 1 : Int))) : s_degree [v] R := by
  unfold s_degree
  rfl'
  refine m_need' hp (m_cp ok hp fun L a l0 l1 el ta la ab => ?_)
  rfl'
  refine ⟨_, rfl, ?_⟩
  rfl'
  have e := congrArg List.length el
  rw [List.length_map] at e ⊢
  rw [e]
  exact h
theorem m_cb {N k : Nat} {v v' : D} {qs qs' : List Rat} {R : D → Prop} (ok : Ok N k) (hp : Po N k v qs) (hp' : Po N k v' qs')
    (h : ∀ (L : Nat) (a b : List Int), L ≠ 0 → L ∣ N → lft L a = trimQ qs → lft L b = trimQ qs' → a.length ≤ 25 → b.length ≤ 25 → (∀ i ∈ a, Bt k i) → (∀ i ∈ b, Bt k i) → R (.tup [iL a, iL b, .int L])) : s_cleared_both [v, v'] R := by
  unfold s_cleared_both
  obtain ⟨ds, hs, hd⟩ := hp.ex
  obtain ⟨ds', hs', hd'⟩ := hp'.ex
  have hl := hp.len
  have hl' := hp'.len
  rfl'
  rw [hs.items, hs'.items, List.append_nil]
  refine ⟨?_, ?_⟩
  · rw [List.length_append, hd.len, hd'.len]
    exact sz (by omega)
  refine m_cleared .l (all2_app hd hd') (by rw [List.length_append]; omega) (hp.pl.app hp'.pl) ok.n0 (n6 ok.nb) (by have := ok.kb; omega) fun L a l0 l1 el ab => ?_
  rfl'
  simp only [hs.len]
  rfl'
  simp only [cut_to, cut_from, ← List.map_take, ← List.map_drop]
  refine m_trimmed (m_trimmed ⟨sz, h L _ _ l0 l1 ?_ ?_ ?_ ?_ (fun i hi => ab i (List.mem_of_mem_take (mem_trimZ hi))) fun i hi => ab i (List.mem_of_mem_drop (mem_trimZ hi))⟩)
  · rw [lft_trim l0, lft_take, el, hd.len, List.take_left]
  · rw [lft_trim l0, lft_drop, el, hd.len, List.drop_left]
  · rw [trimZ_len]
    refine Nat.le_trans (tlen_le _) ?_
    rw [List.length_take, hd.len]
    omega
  · rw [trimZ_len]
    refine Nat.le_trans (tlen_le _) ?_
    have e := congrArg List.length el
    rw [List.length_map, List.length_append] at e
    rw [List.length_drop, hd.len]
    omega
end Ml
set_option Elab.async false
set_option linter.all false
set_option maxRecDepth 100000
set_option maxHeartbeats 1000000
namespace Ml
open PySem L2 Inn Uv Sl
theorem trimZ_le {α : Type} {z : α → Bool} {l : List α} : (trimZ z l).length ≤ l.length := by
  rw [trimZ_len]
  exact tlen_le _
theorem le_n {L N : Nat} (hN : N ≠ 0) (h : L ∣ N) : L ≤ N := Nat.le_of_dvd (Nat.pos_of_ne_zero hN) h
theorem padd_trim {p q : List Rat} : trimQ (zipL (· + ·) (trimQ p) (trimQ q)) = padd p q := trim_congr fun k => by rw [cf_add, cf_add, cf_trimZ, cf_trimZ]
theorem m_plus {N k : Nat} {v v' : D} {qs qs' : List Rat} {R : D → Prop} (ok : Ok N k) (hp : Po N k v qs) (hp' : Po N k v' qs') (h : R (encQ (padd qs qs'))) : s_plus [v, v'] R := by
  unfold s_plus
  rfl'
  refine m_needs' hp hp' (m_cb ok hp hp' fun L a b l0 l1 ea eb la lb ba bb => ?_)
  rfl'
  refine m_summed (sz (by omega)) (m_over l0 (Nat.lt_of_le_of_lt (le_n ok.n0 l1) ok.nb) (by decide) ?_ ?_)
  · exact sz (Nat.le_trans trimZ_le (by rw [zipL_len]; omega))
  · rw [lft_trim l0, lft_add, ea, eb, padd_trim]
    exact h
theorem m_lessened {a b : List Int} {R : D → Prop} (ha : a.length ≤ 1000) (hb : b.length ≤ 1000) (h : R (iL (trim (zipL (· + ·) a (b.map fun i => -i))))) : s_lessened [iL a, iL b] R := by
  unfold s_lessened
  rfl'
  refine m_negated (sz (by omega)) (m_summed ?_ h)
  rw [List.length_map]
  exact sz (by omega)
theorem m_minus {N k : Nat} {v v' : D} {qs qs' : List Rat} {R : D → Prop} (ok : Ok N k) (hp : Po N k v qs) (hp' : Po N k v' qs') (h : R (encQ (psub qs qs'))) : s_minus [v, v'] R := by
  unfold s_minus
  rfl'
  refine m_needs' hp hp' (m_cb ok hp hp' fun L a b l0 l1 ea eb la lb ba bb => ?_)
  rfl'
  refine m_lessened (by omega) (by omega) (m_over l0 (Nat.lt_of_le_of_lt (le_n ok.n0 l1) ok.nb) (by decide) ?_ ?_)
  · exact sz (Nat.le_trans trimZ_le (by rw [zipL_len, List.length_map]; omega))
  · rw [lft_trim l0, lft_add, lft_neg, ea, eb]
    have e : trimQ (zipL (· + ·) (trimQ qs) ((trimQ qs').map fun q => -q)) = psub qs qs' := trim_congr fun k => by rw [cf_add, cf_add, cf_neg, cf_neg, cf_trimZ, cf_trimZ]
    rw [e]
    exact h
theorem mul_lt8 {a b : Nat} (h : a < 2 ^ 4000) (h' : b < 2 ^ 4000) : a * b < 2 ^ 8000 := by
  have e : (2 : Nat) ^ 8000 = 2 ^ 4000 * 2 ^ 4000 := Nat.pow_add 2 4000 4000
  rw [e]
  exact Nat.mul_lt_mul_of_lt_of_le h (Nat.le_of_lt h') (Nat.pow_pos (by decide))
/-- a number over N, of k bits -/
structure Rn (N k : Nat) (q : Rat) : Prop where
  ex : ∃ a : Int, q = (a : Rat) / (N : Rat) ∧ Bt k a
theorem Rn.den {N k : Nat} {q : Rat} (h : Rn N k q) (hN : N ≠ 0) : q.den ∣ N := by
  obtain ⟨a, e, _⟩ := h.ex
  exact (q_mul hN e).1
theorem Rn.num {N k : Nat} {q : Rat} (h : Rn N k q) (hN : N ≠ 0) : Bt k q.num := by
  obtain ⟨a, e, b⟩ := h.ex
  exact q_bits hN e b
theorem Pl.rn {N k : Nat} {qs : List Rat} (h : Pl N k qs) {q : Rat} (hq : q ∈ qs) : Rn N k q := ⟨h q hq⟩
theorem psm_zero {p : List Rat} {c : Rat} (hc : c = 0) : psm c p = [] := by
  refine (to_trim (p := []) (fun a e => by cases e) fun k => ?_).symm
  rw [cf_nil, cf_smul, hc]
  grind
theorem m_scaled {N k N' k' : Nat} {v d : D} {qs : List Rat} {c : Rat} {R : D → Prop} (ok : Ok N k) (ok' : Ok N' k') (hp : Po N k v qs) (hd : Nu d c) (hc : Rn N' k' c) (h : R (encQ (psm c qs))) : s_scaled [v, d] R := by
  unfold s_scaled
  rfl'
  refine m_need' hp (m_pair hd ?_)
  rfl'
  refine m_cp ok hp fun L a l0 l1 ea ta la ba => ?_
  rfl'
  have kb := ok.kb
  have kb' := ok'.kb
  have dn := c.den_nz
  have dl : c.den < 2 ^ 4000 := Nat.lt_of_le_of_lt (le_n ok'.n0 (hc.den ok'.n0)) ok'.nb
  have ll : L < 2 ^ 4000 := Nat.lt_of_le_of_lt (le_n ok.n0 l1) ok.nb
  refine m_scaled_by (sz (by omega)) (hc.num ok'.n0) ba (by omega) ⟨(nat_bt ll).cm (nat_bt dl) (by decide), ?_⟩
  rw [← Int.natCast_mul]
  refine m_over (k := 8000) (Nat.mul_ne_zero l0 dn) ?_ (by decide) ?_ ?_
  · exact mul_lt8 ll dl
  · split
    · exact Nat.zero_le _
    · rw [List.length_map]
      exact sz (by omega)
  · by_cases hz : c.num = 0
    · rw [if_pos hz]
      rw [psm_zero (Rat.num_eq_zero.mp hz)] at h
      exact h
    · rw [if_neg hz]
      have e : lft (L * c.den) (a.map fun i => c.num * i) = psm c qs := by
        have e1 : lft (L * c.den) (a.map fun i => c.num * i) = (lft L a).map fun q => c * q := by
          show (a.map fun i => c.num * i).map (fun i : Int => (i : Rat) / ((L * c.den : Nat) : Rat)) = (a.map fun i : Int => (i : Rat) / (L : Rat)).map fun q => c * q
          rw [List.map_map, List.map_map]
          refine List.map_congr_left fun i _ => ?_
          show ((c.num * i : Int) : Rat) / ((L * c.den : Nat) : Rat) = c * ((i : Rat) / (L : Rat))
          rw [Rat.intCast_mul, Rat.natCast_mul]
          have e2 := q_of c
          have l2 : (L : Rat) ≠ 0 := by exact_mod_cast l0
          have d2 : (c.den : Rat) ≠ 0 := by exact_mod_cast dn
          generalize (c.num : Rat) = x at *
          generalize (c.den : Rat) = y at *
          rw [e2]
          grind
        rw [e1, ea]
        refine to_trim (TrQ.map trQ_trim fun x hx => ?_) fun k => ?_
        · have c0 : c ≠ 0 := fun z => hz (Rat.num_eq_zero.mpr z)
          grind
        · rw [cf_smul, cf_smul, cf_trimZ]
      rw [e]
      exact h
/-! products -/
def ci (a : List Int) (i : Nat) : Int := (a[i]?).getD 0
theorem ci_lt {a : List Int} {i : Nat} (h : i < a.length) : a[i]? = some (ci a i) := by
  unfold ci
  rw [List.getElem?_eq_getElem h]
  rfl
theorem ci_bt {a : List Int} {i k : Nat} (h : ∀ x ∈ a, Bt k x) : Bt k (ci a i) := by
  unfold ci
  cases e : a[i]? with
  | none => exact Bt.zero
  | some x => exact h x (List.mem_of_getElem? e)
theorem cf_lft {L : Nat} {a : List Int} {i : Nat} : cf (lft L a) i = (ci a i : Rat) / (L : Rat) := by
  unfold cf ci
  rw [List.getElem?_map]
  cases a[i]? with
  | none =>
    show (0 : Rat) = ((0 : Int) : Rat) / (L : Rat)
    rw [Rat.intCast_zero]
    grind
  | some x => rfl
theorem ci_ge {a : List Int} {i : Nat} (h : a.length ≤ i) : ci a i = 0 := by
  unfold ci
  rw [List.getElem?_eq_none h]
  rfl
/-- the sum at k -/
def cl (a b : List Int) (k : Nat) : List Int := (List.range (min k (a.length - 1) + 1 - (k + 1 - b.length))).map fun j => ci a (k + 1 - b.length + j) * ci b (k - (k + 1 - b.length + j))
def mulL (a b : List Int) : List Int := if a.isEmpty || b.isEmpty then [] else (List.range (a.length - 1 + b.length)).map fun k => (cl a b k).sum
theorem cl_sum {L L' : Nat} {a b : List Int} {k : Nat} (ha : a ≠ []) (hk : k < a.length - 1 + b.length) : (((cl a b k).sum : Int) : Rat) / ((L * L' : Nat) : Rat) = mulc (lft L a) (cf (lft L' b)) k := by
  have la := List.length_pos_iff.mpr ha
  rw [cast_sum, mulc_sum, lft_len, sum_window (lo := k + 1 - b.length) (c := min k (a.length - 1) + 1 - (k + 1 - b.length)) (by omega)]
  · unfold cl
    show ((((List.range _).map _).map fun i : Int => (i : Rat) / ((L * L' : Nat) : Rat)).sum) = _
    rw [List.map_map]
    congr 1
    refine List.map_congr_left fun j hj => ?_
    have := List.mem_range.mp hj
    rw [if_pos (by omega), cf_lft, cf_lft]
    show ((ci a (k + 1 - b.length + j) * ci b (k - (k + 1 - b.length + j)) : Int) : Rat) / ((L * L' : Nat) : Rat) = _
    rw [Rat.intCast_mul, Rat.natCast_mul]
    grind
  · intro i hi ho
    by_cases h : i ≤ k
    · rw [if_pos h]
      have : ci b (k - i) = 0 := ci_ge (by omega)
      rw [cf_lft, cf_lft, this, Rat.intCast_zero]
      grind
    · rw [if_neg h]
theorem cl_top {a b : List Int} (ha : a ≠ []) (hb : b ≠ []) : (cl a b (a.length - 1 + (b.length - 1))).sum = ci a (a.length - 1) * ci b (b.length - 1) := by
  have la := List.length_pos_iff.mpr ha
  have lb := List.length_pos_iff.mpr hb
  unfold cl
  rw [show min (a.length - 1 + (b.length - 1)) (a.length - 1) + 1 - (a.length - 1 + (b.length - 1) + 1 - b.length) = 1 by omega]
  show ci a (a.length - 1 + (b.length - 1) + 1 - b.length + 0) * ci b (a.length - 1 + (b.length - 1) - (a.length - 1 + (b.length - 1) + 1 - b.length + 0)) + 0 = _
  rw [show a.length - 1 + (b.length - 1) + 1 - b.length + 0 = a.length - 1 by omega, show a.length - 1 + (b.length - 1) - (a.length - 1) = b.length - 1 by omega, Int.add_zero]
theorem mulc_ge {p q : List Rat} {k : Nat} (h : p.length + q.length ≤ k + 1) : mulc p (cf q) k = 0 := by
  rw [mulc_sum]
  refine sum_zero fun i hi => ?_
  have := List.mem_range.mp hi
  by_cases hk : i ≤ k
  · rw [if_pos hk, cf_ge (p := q) (by omega)]
    grind
  · rw [if_neg hk]
theorem mulc_nil {g : Nat → Rat} (hg : ∀ k, g k = 0) : ∀ {p : List Rat} {k : Nat}, mulc p g k = 0
  | [], _ => rfl
  | a :: p, k => by
    show a * g k + shift (mulc p g) k = 0
    rw [hg]
    cases k with
    | zero => show a * 0 + (0 : Rat) = 0; grind
    | succ k => show a * 0 + mulc p g k = 0; rw [mulc_nil hg]; grind
theorem cf_mulL {L L' : Nat} {a b : List Int} {k : Nat} : cf (lft (L * L') (mulL a b)) k = mulc (lft L a) (cf (lft L' b)) k := by
  unfold mulL
  by_cases ha : a = []
  · subst ha
    exact cf_nil
  by_cases hb : b = []
  · subst hb
    rw [mulc_nil (g := cf (lft L' [])) fun k => cf_nil]
    have e : (a.isEmpty || ([] : List Int).isEmpty) = true := by simp
    rw [e, if_pos rfl]
    exact cf_nil
  have e : (a.isEmpty || b.isEmpty) = false := by simp [ha, hb]
  rw [e, if_neg Bool.false_ne_true]
  by_cases hk : k < a.length - 1 + b.length
  · rw [cf_lft, ← cl_sum ha hk]
    unfold ci
    rw [List.getElem?_map, List.getElem?_range hk]
    rfl
  · have la := List.length_pos_iff.mpr ha
    rw [cf_ge, mulc_ge]
    · rw [lft_len, lft_len]
      omega
    · rw [lft_len, List.length_map, List.length_range]
      omega
theorem mulL_len {a b : List Int} : (mulL a b).length ≤ a.length + b.length - 1 := by
  unfold mulL
  split
  · exact Nat.zero_le _
  · rw [List.length_map, List.length_range]
    rename_i h
    have : a ≠ [] := by rintro rfl; exact h rfl
    have := List.length_pos_iff.mpr this
    omega
theorem trimd_lft {L : Nat} (hL : L ≠ 0) {a : List Int} (h : Trimd (· == 0) a) : TrQ (lft L a) := by
  have e : lft L a = trimQ (lft L a) := by rw [← lft_trim hL]; exact congrArg (lft L) (trimZ_of h).symm
  rw [e]
  exact trQ_trim
theorem trQ_mulL {L : Nat} (hL : L ≠ 0) {a b : List Int} (h : Trimd (· == 0) a) (h' : Trimd (· == 0) b) : TrQ (lft L (mulL a b)) := by
  refine trimd_lft hL ?_
  unfold mulL
  by_cases ha : a = []
  · subst ha
    intro x e
    cases e
  by_cases hb : b = []
  · subst hb
    intro x e
    simp at e
  have e : (a.isEmpty || b.isEmpty) = false := by simp [ha, hb]
  rw [e, if_neg Bool.false_ne_true]
  have la := List.length_pos_iff.mpr ha
  have lb := List.length_pos_iff.mpr hb
  intro x hx
  rw [List.getLast?_eq_getElem?, List.length_map, List.length_range, List.getElem?_map, List.getElem?_range (by omega)] at hx
  have hx : (cl a b (a.length - 1 + b.length - 1)).sum = x := Option.some.inj hx
  rw [show a.length - 1 + b.length - 1 = a.length - 1 + (b.length - 1) by omega, cl_top ha hb] at hx
  subst hx
  have h1 := h (ci a (a.length - 1)) (by rw [List.getLast?_eq_getElem?, ci_lt (by omega)])
  have h2 := h' (ci b (b.length - 1)) (by rw [List.getLast?_eq_getElem?, ci_lt (by omega)])
  simp only [beq_eq_false_iff_ne, ne_eq] at h1 h2 ⊢
  exact Int.mul_ne_zero h1 h2
end Ml
set_option Elab.async false
set_option linter.all false
set_option maxRecDepth 100000
set_option maxHeartbeats 1000000
namespace Ml
open PySem L2 Inn Uv Sl
theorem isE {α : Type} {a : List α} {f : α → D} : (a.map f).isEmpty = a.isEmpty := by cases a <;> rfl
theorem m_multiplied {a b : List Int} {ka kb : Nat} {R : D → Prop} (ha : a.length ≤ 1000) (hb : b.length ≤ 1000) (ba : ∀ i ∈ a, Bt ka i) (bb : ∀ i ∈ b, Bt kb i) (hk : ka + kb ≤ 1000000) (h : R (iL (mulL a b))) : s_multiplied [iL a, iL b] R := by
  unfold s_multiplied
  rfl'
  rw [isE, isE]
  unfold mulL at h
  by_cases e1 : a = []
  · subst e1
    rfl'
    exact ⟨sz, h⟩
  by_cases e2 : b = []
  · subst e2
    have e : a.isEmpty = false := by simp [e1]
    rw [e] at h ⊢
    rfl'
    exact ⟨sz, h⟩
  have e3 : a.isEmpty = false := by simp [e1]
  have e4 : b.isEmpty = false := by simp [e2]
  rw [e3, e4] at h ⊢
  rw [if_neg (by simp)] at h
  rfl'
  have la := List.length_pos_iff.mpr e1
  have lb := List.length_pos_iff.mpr e2
  rw [List.length_map, List.length_map]
  refine ⟨sz, ⟨by omega, by omega⟩, ⟨?_, mapD_map (φ := fun k => .int ((cl a b k).sum)) (fun k hk' R' h' => ?_) ?_⟩⟩
  · rw [List.length_map, List.length_range]
    exact sz (by omega)
  · have hk2 := List.mem_range.mp hk'
    rfl'
    have elo : (if ((k : Nat) : Int) - ((b.length : Nat) : Int) + 1 > 0 then ((k : Nat) : Int) - ((b.length : Nat) : Int) + 1 else 0) = ((k + 1 - b.length : Nat) : Int) := by split <;> omega
    have ehi : (if ((a.length : Nat) : Int) - 1 < ((k : Nat) : Int) then ((a.length : Nat) : Int) - 1 else ((k : Nat) : Int)) + 1 = ((min k (a.length - 1) + 1 : Nat) : Int) := by split <;> omega
    rw [elo, ehi]
    have ec : (((min k (a.length - 1) + 1 : Nat) : Int) - ((k + 1 - b.length : Nat) : Int)).toNat = min k (a.length - 1) + 1 - (k + 1 - b.length) := by omega
    rw [ec]
    refine ⟨⟨by omega, by omega, by omega, by omega⟩, ?_, mapD_map (φ := fun j => .int (ci a (k + 1 - b.length + j) * ci b (k - (k + 1 - b.length + j)))) (fun j hj R2 h2 => ?_) ?_⟩
    · rw [List.length_map, List.length_range]
      exact sz (by omega)
    · have hj2 := List.mem_range.mp hj
      rfl'
      refine ⟨_, atI_of (j := k + 1 - b.length + j) (by omega) (iL_get (ci_lt (by omega))), _, atI_of (j := k - (k + 1 - b.length + j)) (by omega) (iL_get (ci_lt (by omega))), ?_⟩
      rfl'
      exact ⟨(ci_bt ba).cm (ci_bt bb) hk, h2⟩
    · rfl'
      refine ⟨cl a b k, ?_, h'⟩
      have e : (List.range (min k (a.length - 1) + 1 - (k + 1 - b.length))).map (fun j => D.int (ci a (k + 1 - b.length + j) * ci b (k - (k + 1 - b.length + j)))) = (cl a b k).map .int := by
        unfold cl
        rw [List.map_map]
        rfl
      rw [e]
      exact intsOf_map _
  · have ec : (((a.length : Nat) : Int) - 1 + ((b.length : Nat) : Int)).toNat = a.length - 1 + b.length := by omega
    rw [ec]
    have e : (List.range (a.length - 1 + b.length)).map (fun k => D.int ((cl a b k).sum)) = ((List.range (a.length - 1 + b.length)).map fun k => (cl a b k).sum).map .int := by
      rw [List.map_map]
      rfl
    rw [e]
    exact h
theorem mulc_trim {p q : List Rat} {k : Nat} : mulc (trimQ p) (cf (trimQ q)) k = mulc p (cf q) k := by
  have c : ∀ {p : List Rat} {g : Nat → Rat} {k : Nat} {n : Nat}, p.length ≤ n → mulc p g k = ((List.range n).map fun i => if i ≤ k then cf p i * g (k - i) else 0).sum := by
    intro p g k n hn
    rw [mulc_sum, sum_window (n := n) (lo := 0) (c := p.length) (by omega)]
    · congr 1
      refine List.map_congr_left fun i _ => ?_
      rw [Nat.zero_add]
    · intro i hi ho
      split
      · rw [cf_ge (p := p) (by omega)]
        grind
      · rfl
  rw [mulc_congr (h := cf q) fun k => cf_trimZ, c (n := p.length) (Nat.le_refl _), c (n := p.length) trimZ_le]
  congr 1
  refine List.map_congr_left fun i _ => ?_
  rw [cf_trimZ]
theorem m_times {N k N' k' : Nat} {v v' : D} {qs qs' : List Rat} {R : D → Prop} (ok : Ok N k) (ok' : Ok N' k') (hp : Po N k v qs) (hp' : Po N' k' v' qs') (hl : (trimQ qs).length + (trimQ qs').length ≤ 26) (h : R (encQ (ptim qs qs'))) : s_times [v, v'] R := by
  unfold s_times
  rfl'
  refine m_needs' hp hp' (m_cp ok hp fun L a l0 l1 ea ta la ba => ?_)
  rfl'
  refine m_cp ok' hp' fun M b m0 m1 eb tb lb bb => ?_
  rfl'
  have kb := ok.kb
  have kb' := ok'.kb
  refine m_multiplied (by omega) (by omega) ba bb (by omega) ?_
  rfl'
  have lm := mulL_len (a := a) (b := b)
  have la' := congrArg List.length ea
  have lb' := congrArg List.length eb
  rw [List.length_map] at la' lb'
  have e : decide ((25 : Int) < (((mulL a b).map D.int).length : Nat)) = false := decide_eq_false (by rw [List.length_map]; omega)
  rw [e]
  rfl'
  have ll : L < 2 ^ 4000 := Nat.lt_of_le_of_lt (le_n ok.n0 l1) ok.nb
  have ml : M < 2 ^ 4000 := Nat.lt_of_le_of_lt (le_n ok'.n0 m1) ok'.nb
  refine ⟨(nat_bt ll).cm (nat_bt ml) (by decide), ?_⟩
  rw [← Int.natCast_mul]
  refine m_over (k := 8000) (Nat.mul_ne_zero l0 m0) (mul_lt8 ll ml) (by decide) (sz (by omega)) ?_
  have e : lft (L * M) (mulL a b) = ptim qs qs' := by
    refine to_trim (trQ_mulL (Nat.mul_ne_zero l0 m0) ta tb) fun k => ?_
    rw [cf_mulL, cf_pmul, ea, mulc_congr (g := cf (lft M b)) (h := cf (trimQ qs')) fun k => by rw [eb], mulc_trim]
  rw [e]
  exact h
/-! derivatives -/
def derL (a : List Int) : List Int := (a.zipIdx.map fun x => (x.2 : Int) * x.1).drop 1
theorem m_derb {a : List Int} {k : Nat} {R : D → Prop} (ha : a.length ≤ 1000) (ba : ∀ i ∈ a, Bt k i) (hk : k ≤ 100000) (h : R (iL (derL a))) : s_derived_bare [iL a] R := by
  unfold s_derived_bare
  rfl'
  have e : (a.map D.int).zipIdx.map (fun x => D.tup [.int (x.2 : Nat), x.1]) = a.zipIdx.map fun x => D.tup [.int (x.2 : Nat), .int x.1] := by
    rw [List.zipIdx_map, List.map_map]
    rfl
  rw [e]
  refine ⟨by rw [List.length_map, List.length_zipIdx]; exact sz (by omega), mapD_map (φ := fun x => .int ((x.2 : Int) * x.1)) (fun x hx R' h' => ?_) ?_⟩
  · rfl'
    obtain ⟨x, i⟩ := x
    have m := List.mem_zipIdx hx
    have b1 : Bt 10 ((i : Nat) : Int) := by show i < 2 ^ 10; omega
    refine ⟨b1.cm (ba x ?_) (by omega), h'⟩
    exact List.mem_of_getElem? (List.mem_zipIdx_iff_getElem?.mp hx)
  · rfl'
    have e1 : cut (a.zipIdx.map fun x => D.int ((x.2 : Int) * x.1)) (some 1) none = (derL a).map .int := by
      rw [show (1 : Int) = ((1 : Nat) : Int) from rfl, cut_from]
      unfold derL
      rw [List.map_drop, List.map_map]
      rfl
    rw [e1]
    exact h
theorem ci_der {a : List Int} {k : Nat} : ci (derL a) k = ((k + 1 : Nat) : Int) * ci a (k + 1) := by
  unfold ci derL
  rw [List.getElem?_drop, List.getElem?_map, List.getElem?_zipIdx, Nat.add_comm 1 k]
  cases a[k + 1]? with
  | none => exact (Int.mul_zero _).symm
  | some x =>
    show ((0 + (k + 1) : Nat) : Int) * x = _
    rw [Nat.zero_add]
    rfl
theorem derL_len {a : List Int} : (derL a).length = a.length - 1 := by
  unfold derL
  rw [List.length_drop, List.length_map, List.length_zipIdx]
theorem m_derived {N k : Nat} {v : D} {qs : List Rat} {R : D → Prop} (ok : Ok N k) (hp : Po N k v qs) (h : R (encQ (pdif qs))) : s_derived [v] R := by
  unfold s_derived
  rfl'
  refine m_need' hp (m_cp ok hp fun L a l0 l1 ea ta la ba => ?_)
  rfl'
  refine m_derb (by omega) ba (by have := ok.kb; omega) (m_over l0 (Nat.lt_of_le_of_lt (le_n ok.n0 l1) ok.nb) (by decide) (sz (by rw [derL_len]; omega)) ?_)
  have e : lft L (derL a) = pdif qs := by
    refine to_trim (trimd_lft l0 fun x hx => ?_) fun k => ?_
    · rw [List.getLast?_eq_getElem?, derL_len] at hx
      by_cases hlen : a.length - 1 = 0
      · rw [hlen] at hx
        have : derL a = [] := List.length_eq_zero_iff.mp (by rw [derL_len, hlen])
        rw [this] at hx
        cases hx
      · rw [ci_lt (by rw [derL_len]; omega), ci_der, show a.length - 1 - 1 + 1 = a.length - 1 by omega] at hx
        cases hx
        have h1 := ta (ci a (a.length - 1)) (by rw [List.getLast?_eq_getElem?, ci_lt (by omega)])
        simp only [beq_eq_false_iff_ne, ne_eq] at h1 ⊢
        exact Int.mul_ne_zero (by omega) h1
    · rw [cf_lft, ci_der, cf_pder, ← cf_trimZ (p := qs), ← ea, cf_lft, Rat.intCast_mul, Rat.intCast_natCast]
      grind
  rw [e]
  exact h
/-! worths -/
theorem pev_trim {p : List Rat} {x : Rat} : pev (trimQ p) x = pev p x := pev_congr fun k => cf_trimZ
theorem iL_rev {a : List Int} : (a.map D.int).reverse = a.reverse.map .int := List.map_reverse.symm
theorem m_worth {N k N' k' : Nat} {v d : D} {qs : List Rat} {x : Rat} {R : D → Prop} (ok : Ok N k) (ok' : Ok N' k') (hp : Po N k v qs) (hd : Nu d x) (hx : Rn N' k' x) (hs : k ≤ 100 ∧ N < 2 ^ 100 ∧ k' ≤ 100 ∧ N' < 2 ^ 100) (h : R (encR (pev qs x))) : s_worth [v, d] R := by
  unfold s_worth
  rfl'
  refine m_need' hp (m_pair hd ?_)
  rfl'
  refine m_cp ok hp fun L a l0 l1 ea ta la ba => ?_
  rfl'
  rw [iL_rev]
  have dn := x.den_nz
  have dle := le_n ok'.n0 (hx.den ok'.n0)
  have lle := le_n ok.n0 l1
  obtain ⟨s1, s2, s3, s4⟩ := hs
  have bd : Bt 100 ((x.den : Nat) : Int) := Nat.lt_of_le_of_lt dle s4
  have bt : Bt 100 x.num := (hx.num ok'.n0).mono s3
  have bl : Bt 100 ((L : Nat) : Int) := Nat.lt_of_le_of_lt lle s2
  have db := x.den_nz
  refine ⟨sz, ?_⟩
  refine forC_map (fun ys s => ∃ (t : Int) (u : Nat), s = (.int t, .int u) ∧ u ≠ 0 ∧ Bt (100 * ys.length + 1) u ∧ Bt (101 * ys.length + 102) t ∧ (t : Rat) * (x.den : Rat) = (u : Rat) * ((L : Rat) * pev (lft L ys.reverse) x)) _ a.reverse ⟨0, 1, rfl, by decide, Bt.of 2 (by decide) (by decide), Bt.zero, ?_⟩ ?_ ?_
  · show ((0 : Int) : Rat) * _ = ((1 : Nat) : Rat) * ((L : Rat) * 0)
    rw [Rat.intCast_zero]
    grind
  · rintro ys i zs s nx e ⟨t, u, rfl, u0, ub, tb, hv⟩ hn
    have mem : i ∈ a := List.mem_reverse.mp (by rw [e]; exact List.mem_append_right _ List.mem_cons_self)
    have bi := (ba i mem).mono s1
    have ly : ys.length ≤ 25 := by
      have := congrArg List.length e
      rw [List.length_reverse, List.length_append] at this
      omega
    rfl'
    refine ⟨tb.cm bt (by omega), bi.cm ub (by omega), ub.cm bd (by omega), hn _ ⟨_, u * x.den, rfl, Nat.mul_ne_zero u0 dn, ?_, ?_, ?_⟩⟩
    · rw [List.length_append, Int.natCast_mul]
      exact (ub.mul bd).mono (by simp; omega)
    · rw [List.length_append]
      exact (((tb.mul bt).mono (b := 101 * ys.length + 202) (by omega)).add ((bi.mul ub).mono (by omega))).mono (by simp; omega)
    · rw [List.reverse_append]
      show _ = _ * (_ * ((i : Rat) / (L : Rat) + x * pev (lft L ys.reverse) x))
      rw [Rat.intCast_add, Rat.intCast_mul, Rat.intCast_mul, Rat.natCast_mul, Rat.intCast_natCast]
      have e2 := q_of x
      have l2 : (L : Rat) ≠ 0 := by exact_mod_cast l0
      have d2 : (x.den : Rat) ≠ 0 := by exact_mod_cast dn
      generalize pev (lft L ys.reverse) x = P at *
      have e3 : x * (x.den : Rat) = (x.num : Rat) := by
        conv => lhs; lhs; rw [e2]
        grind
      generalize (x.num : Rat) = X at *
      generalize (x.den : Rat) = Y at *
      generalize (t : Rat) = T at *
      generalize (u : Rat) = U at *
      generalize (i : Rat) = I at *
      have e4 : (L : Rat) * (I / (L : Rat)) = I := by grind
      generalize (L : Rat) = l at *
      have : (T * X + I * U) * Y = (U * Y) * (l * (I / l) + l * (x * P)) := by
        rw [e4]
        have : T * X * Y = (T * Y) * X := by grind
        grind
      grind
  · rintro s ⟨t, u, rfl, u0, ub, tb, hv⟩
    rw [List.reverse_reverse, ea, pev_trim] at hv
    rw [List.length_reverse] at ub tb
    rfl'
    refine ⟨tb.cm bd (by omega), bl.cm ub (by omega), ?_⟩
    refine m_mk (k := 100 + (100 * a.length + 1)) (Int.mul_ne_zero (by omega) (by omega)) (bl.mul ub) (by omega) ?_
    have e : rq (t * ((x.den : Nat) : Int)) (((L : Nat) : Int) * ((u : Nat) : Int)) = pev qs x := by
      rw [rq_eq, Rat.intCast_mul, Rat.intCast_mul, Rat.intCast_natCast, Rat.intCast_natCast, Rat.intCast_natCast, hv]
      have l2 : (L : Rat) ≠ 0 := by exact_mod_cast l0
      have u2 : (u : Rat) ≠ 0 := by exact_mod_cast u0
      grind
    rw [e]
    exact h
end Ml
set_option Elab.async false
set_option linter.all false
set_option maxRecDepth 100000
set_option maxHeartbeats 1000000
set_option exponentiation.threshold 20000
namespace Ml
open PySem L2 Inn Uv Sl
/-! ### what is equal -/
def EqR (n : Nat) (d : D) : Prop := ∀ R : Bool → Prop, R true → eqD ownE n d d R
theorem eq0_int {i : Int} {R : Bool → Prop} (h : R true) : eq0 ownE (.int i) (.int i) R := by
  show whenB (some (eqV (.int i) (.int i))) R
  rw [eqV_refl _ rfl]
  exact h
theorem eqr_int {n : Nat} {i : Int} : EqR n (.int i) := fun R h => by cases n <;> exact eq0_int h
theorem m_req {q r : Rat} {R : D → Prop} (h : R (.bl (decide (q = r)))) : s_Ratio_eq [encR q, encR r] R := by
  unfold s_Ratio_eq
  bv_omega
  rfl'
  refine ⟨_, rfl, _, rfl, ?_⟩
  rfl'
  by_cases hn : q.num = r.num
  · have e : (q.num == r.num) = true := beq_iff_eq.mpr hn
    rw [e]
    rfl'
    refine ⟨_, rfl, _, rfl, ?_⟩
    rfl'
    by_cases hd : q.den = r.den
    · have e : q = r := Rat.ext hn hd
      have e2 : (((q.den : Nat) : Int) == ((r.den : Nat) : Int)) = true := beq_iff_eq.mpr (by rw [hd])
      rw [e2]
      rw [decide_eq_true e] at h
      exact h
    · have e2 : (((q.den : Nat) : Int) == ((r.den : Nat) : Int)) = false := by
        rw [beq_eq_false_iff_ne]
        omega
      rw [e2]
      rw [decide_eq_false fun e => hd (by rw [e])] at h
      exact h
  · have e : (q.num == r.num) = false := by
      rw [beq_eq_false_iff_ne]
      exact hn
    rw [e]
    rfl'
    rw [decide_eq_false fun e => hn (by rw [e])] at h
    exact h
theorem eq0_rat {q : Rat} {R : Bool → Prop} (h : R true) : eq0 ownE (encR q) (encR q) R := by
  refine ⟨rfl, ?_⟩
  show s_Ratio_eq [encR q, encR q] (tstK R)
  refine m_req ?_
  rw [decide_eq_true rfl]
  exact h
theorem eqr_rat {n : Nat} {q : Rat} : EqR n (encR q) := fun R h => by cases n <;> exact eq0_rat h
theorem eqs_refl {n : Nat} {R : Bool → Prop} (h : R true) : ∀ {ds : List D}, (∀ d ∈ ds, EqR n d) → eqS (eqD ownE n) ds ds R
  | [], _ => h
  | d :: ds, hd => hd d List.mem_cons_self _ (eqs_refl h fun d h => hd d (List.mem_cons_of_mem _ h))
theorem eql_refl {n : Nat} {R : Bool → Prop} {ds : List D} (hd : ∀ d ∈ ds, EqR n d) (h : R true) : eqL (eqD ownE n) ds ds R := by
  unfold eqL
  rw [if_pos rfl]
  exact eqs_refl h hd
theorem eqr_lst {n : Nat} {ds : List D} (hd : ∀ d ∈ ds, EqR n d) : EqR (n + 1) (.lst ds) := fun _ h => eql_refl hd h
theorem m_eq {n : Nat} {R : D → Prop} {ds : List D} (hd : ∀ d ∈ ds, EqR n d) (h : R (.bl true)) : eqT ownE n (.lst ds) (.lst ds) R := by
  rfl'
  exact eql_refl hd h
theorem m_ne {n : Nat} {R : D → Prop} {ds : List D} (hd : ∀ d ∈ ds, EqR n d) (h : R (.bl false)) : neT ownE n (.lst ds) (.lst ds) R := by
  rfl'
  exact eql_refl hd h
theorem eqr_Q {n : Nat} {p : List Rat} : EqR (n + 1) (encQ p) := eqr_lst fun d hd => by
  obtain ⟨q, _, rfl⟩ := List.mem_map.mp hd
  exact eqr_rat
/-! ### texts -/
def Tl (n : Nat) (d : D) (b : Nat) : Prop := ∃ t, txtD ownT n d = some t ∧ t.length ≤ b
theorem Tl.mono {n b c : Nat} {d : D} (h : Tl n d b) (hb : b ≤ c) : Tl n d c := by
  obtain ⟨t, e, l⟩ := h
  exact ⟨t, e, Nat.le_trans l hb⟩
theorem txt_len {i : Int} {k : Nat} (h : i.natAbs.log2 < k) (hk : 0 < k) : (Str.ofString (toString i)).length ≤ k + 1 := by
  have := int_text_length_le hk h
  rw [ofString_length]
  exact this
theorem tl_int {n : Nat} {i : Int} (h : Bt 1000 i) : Tl n (.int i) 1001 := by
  have l := h.log (by decide)
  have e : txtD ownT n (.int i) = some (toString i : String) := by
    have : txt0 ownT (.int i) = some (toString i : String) := if_pos (by omega)
    cases n <;> exact this
  exact ⟨_, e, txt_len l (by decide)⟩
/-- a number of few bits -/
structure Sn (q : Rat) : Prop where
  n : Bt 1000 q.num
  d : Bt 1000 ((q.den : Nat) : Int)
theorem tl_rat {n : Nat} {q : Rat} (h : Sn q) : Tl n (encR q) 2020 := by
  have l1 := h.n.log (by decide)
  have l2 := h.d.log (by decide)
  have e : txtD ownT n (encR q) = some (ratT q.num ((q.den : Nat) : Int)) := by
    have e1 : purL [D.int q.num, D.int ((q.den : Nat) : Int)] = true := rfl
    have e2 : ownT 0 [D.int q.num, D.int ((q.den : Nat) : Int)] = some (ratT q.num ((q.den : Nat) : Int)) := if_pos ⟨by omega, by omega⟩
    have : txt0 ownT (encR q) = some (ratT q.num ((q.den : Nat) : Int)) := by
      show (if purL [D.int q.num, D.int ((q.den : Nat) : Int)] = true then ownT 0 [D.int q.num, D.int ((q.den : Nat) : Int)] else none) = _
      rw [e1, if_pos rfl, e2]
    cases n <;> exact this
  refine ⟨_, e, ?_⟩
  have t1 := txt_len l1 (by decide)
  have t2 := txt_len l2 (by decide)
  have la : ∀ a b : Str, (a ++ b).length = a.length + b.length := fun a b => Str.length_append a b
  have e0 : (Str.empty).length = 0 := rfl
  have e1 : (Str.ofString "Ratio(").length = 6 := rfl
  have e2 : (Str.ofString ", ").length = 2 := rfl
  have e3 : (Str.ofString ")").length = 1 := rfl
  unfold ratT
  simp only [List.foldl_cons, List.foldl_nil, la, e0, e1, e2, e3]
  omega
theorem mapT_tl {n b : Nat} : ∀ {ds : List D}, (∀ d ∈ ds, Tl n d b) → ∃ ts, mapT (txtD ownT n) ds = some ts ∧ (ts.map (·.length)).sum ≤ ds.length * b
  | [], _ => ⟨[], rfl, Nat.zero_le _⟩
  | d :: ds, h => by
    obtain ⟨t, e, l⟩ := h d List.mem_cons_self
    obtain ⟨ts, e2, l2⟩ := mapT_tl fun d hd => h d (List.mem_cons_of_mem _ hd)
    refine ⟨t :: ts, ?_, ?_⟩
    · unfold mapT
      rw [e, e2]
    · rw [List.map_cons, List.sum_cons, List.length_cons, Nat.succ_mul]
      omega
theorem tl_lst {n b m : Nat} {ds : List D} (h : ∀ d ∈ ds, Tl n d b) (hm : ds.length ≤ m) : Tl (n + 1) (.lst ds) (m * (b + 2) + 3) := by
  obtain ⟨ts, e, l⟩ := mapT_tl h
  refine ⟨listText ts, ?_, ?_⟩
  · show (mapT (txtD ownT n) ds).map listText = _
    rw [e]
    rfl
  · have := listText_len_le ts
    have e2 := mapT_len e
    have : m * (b + 2) = m * b + m * 2 := Nat.mul_add _ _ _
    have : ds.length * b ≤ m * b := Nat.mul_le_mul_right _ hm
    omega
theorem tl_tup {n b m : Nat} {ds : List D} (h : ∀ d ∈ ds, Tl n d b) (hm : ds.length ≤ m) : Tl (n + 1) (.tup ds) (m * (b + 2) + 3) := by
  obtain ⟨ts, e, l⟩ := mapT_tl h
  refine ⟨tupleText ts, ?_, ?_⟩
  · show (mapT (txtD ownT n) ds).map tupleText = _
    rw [e]
    rfl
  · have := tupleText_len_le ts
    have e2 := mapT_len e
    have : m * (b + 2) = m * b + m * 2 := Nat.mul_add _ _ _
    have : ds.length * b ≤ m * b := Nat.mul_le_mul_right _ hm
    omega
theorem tl_Q {n m : Nat} {p : List Rat} (h : ∀ q ∈ p, Sn q) (hm : p.length ≤ m) : Tl (n + 1) (encQ p) (m * 2022 + 3) := tl_lst (fun d hd => by
  obtain ⟨q, hq, rfl⟩ := List.mem_map.mp hd
  exact tl_rat (h q hq)) (by rw [List.length_map]; exact hm)
theorem m_repr {n b : Nat} {d : D} {R : D → Prop} (h : Tl n d b) (hb : b ≤ 16777216) (hR : ∀ t, R (.str t)) : reprF ownT n [d] R := by
  obtain ⟨t, e, l⟩ := h
  exact ⟨t, e, Nat.le_trans l hb, hR t⟩
/-- two texts of one value -/
theorem m_repr2 {n b : Nat} {d : D} {R : D → D → Prop} (h : Tl n d b) (hb : b ≤ 16777216) (hR : ∀ t, R (.str t) (.str t)) : reprF ownT n [d] fun x => reprF ownT n [d] fun y => R x y := by
  obtain ⟨t, e, l⟩ := h
  have l2 : t.length ≤ sizeLine := Nat.le_trans l hb
  exact ⟨t, e, l2, t, e, l2, hR t⟩
theorem m_neS {n : Nat} {t : Str} {R : D → Prop} (h : R (.bl false)) : neT ownE n (.str t) (.str t) R := by
  rfl'
  have : (t == t) = true := by simp
  rw [this]
  exact h
theorem m_eqS {s : OwnE} {n : Nat} {t : Str} {R : D → Prop} (h : R (.bl true)) : eqT s n (.str t) (.str t) R := by
  rfl'
  have : (t == t) = true := by simp
  rw [this]
  exact h
end Ml
set_option Elab.async false
set_option linter.all false
set_option maxRecDepth 100000
set_option maxHeartbeats 1000000
set_option exponentiation.threshold 20000
namespace Ml
open PySem L2 Inn Uv Sl
theorem same_ownE : SameOwn ownE := by
  intro T N P H us c a b R inj ha hb h
  cases c with
  | succ c => exact h.elim
  | zero =>
    have h : s_Ratio_eq [.ins 0 a, .ins 0 b] (tstK R) := h
    unfold s_Ratio_eq at h
    obtain ⟨_, h⟩ := h
    obtain ⟨_, x, hx, _, y, hy, h⟩ := h
    have h := same_at same_noE inj ha hb hx hy h
    obtain ⟨_, x2, hx2, _, y2, hy2, h⟩ := h
    exact same_at same_noE inj ha hb hx2 hy2 h
theorem own_repr {l : List D} {t : Str} {R : D → Prop} (h : ownT 0 l = some t) (hR : R (.str t)) : s_Ratio_repr [.ins 0 l] R := by
  unfold ownT at h
  split at h
  · rename_i a b e
    split at h
    · rename_i hc
      obtain ⟨h1, h2⟩ := hc
      cases h
      have t1 := txt_len h1 (by decide)
      have t2 := txt_len h2 (by decide)
      have la : ∀ a b : Str, (a ++ b).length = a.length + b.length := fun a b => Str.length_append a b
      have e0 : (Str.empty).length = 0 := rfl
      have e1 : (Str.ofString "Ratio(").length = 6 := rfl
      have e2 : (Str.ofString ", ").length = 2 := rfl
      have e3 : (Str.ofString ")").length = 1 := rfl
      have hs : 10000 ≤ sizeLine := by decide
      unfold s_Ratio_repr
      refine ⟨_, rfl, ?_, rfl, _, rfl, ?_⟩
      · simp only [la, e0, e1]; omega
      refine ⟨h1, _, rfl, ?_, _, rfl, ?_, rfl, _, rfl, h2, _, rfl, ?_, _, rfl, ?_, hR⟩
      all_goals (simp only [la, e0, e1, e2, e3]; omega)
    · cases h
  · cases h
theorem draw_inv : ∀ (ds : List D) (R : D → Prop), s_law_draw ds R → ∃ a n, ds = [.pot a, .int n] ∧ 0 < n ∧ n ≤ 2 ^ 20 ∧ ∀ i : Int, 0 ≤ i → i < n → R (.int i) := by
  intro ds R h
  unfold s_law_draw at h
  split at h
  · unfold drawG at h
    split at h
    · exact ⟨_, _, rfl, h⟩
    · exact h.elim
  · exact h.elim
end Ml
set_option Elab.async false
set_option linter.all false
set_option maxRecDepth 100000
set_option maxHeartbeats 4000000
set_option exponentiation.threshold 20000
namespace K13
open PySem PySem.Spec PyProof.Rows L2 Inn Uv Sl
section
variable {P : Program} {w : World} {K : PySem.W.Frag} {mg : Str → Option Value} {hp : Heap} {base : Heap}
theorem cls0 (h : okX K = true) : ClsD K (ct K) 0 where
  cl := ⟨(okX.at h 69), (okX.at h 70), (okX.at h 71), (He.eqO_ok (okX.at h 72))⟩
  no := by
    intro f hf
    have hf : f ∈ (["_top", "_bottom"] : List Str) := hf
    simp only [List.mem_cons, List.not_mem_nil, or_false] at hf
    rcases hf with rfl | rfl
    · exact (He.eqO_ok (okX.at h 89))
    · exact (He.eqO_ok (okX.at h 90))
  nd := by show (["_top", "_bottom"] : List Str).Nodup; decide +kernel
  few := by show (["_top", "_bottom"] : List Str).length < 1000; decide
  ha := (He.eqO_ok (okX.at h 73))
  hn := (He.eqO_ok (okX.at h 66))
  htk := (of_decide_eq_true (okX.at h 67))
  hm := (of_decide_eq_true (okX.at h 74))
  kb := by
    intro t ht
    simp only [List.mem_cons, List.not_mem_nil, or_false] at ht
    rcases ht with rfl | rfl | rfl | rfl | rfl | rfl
    · exact (of_decide_eq_true (okX.at h 75))
    · exact (of_decide_eq_true (okX.at h 76))
    · exact (of_decide_eq_true (okX.at h 77))
    · exact (of_decide_eq_true (okX.at h 78))
    · exact (of_decide_eq_true (okX.at h 79))
    · exact (of_decide_eq_true (okX.at h 80))
  bk := by
    intro t ht
    simp only [List.mem_cons, List.not_mem_nil, or_false] at ht
    rcases ht with rfl | rfl | rfl | rfl | rfl | rfl | rfl
    · exact (of_decide_eq_true (okX.at h 81))
    · exact (of_decide_eq_true (okX.at h 82))
    · exact (of_decide_eq_true (okX.at h 83))
    · exact (of_decide_eq_true (okX.at h 84))
    · exact (of_decide_eq_true (okX.at h 85))
    · exact (of_decide_eq_true (okX.at h 86))
    · exact (of_decide_eq_true (okX.at h 87))
  kc := by
    intro c hc
    have hc : c < 1 := hc
    match c, hc with
    | 0, _ => exact (of_decide_eq_true (okX.at h 88))
    | c + 1, hc => exact absurd hc (by omega)
theorem txt_of (X : K.In hp) (G : hp.Ns mainGlobals mg) (h : okX K = true) : Txt K mg where
  C := by
    intro c hc
    have hc : c < 1 := hc
    match c, hc with
    | 0, _ => exact cls0 h
    | c + 1, hc => exact absurd hc (by omega)
  inj := by
    intro c c' hc hc'
    have hc : c < 1 := hc
    have hc' : c' < 1 := hc'
    match c, c', hc, hc' with
    | 0, 0, _, _ => exact fun _ => rfl
    | c + 1, _, hc, _ => exact absurd hc (by omega)
    | _, c + 1, _, hc => exact absurd hc (by omega)
  sub2 := by
    intro c c' hc hc'
    have hc : c < 1 := hc
    have hc' : c' < 1 := hc'
    match c, c', hc, hc' with
    | 0, 0, _, _ => exact fun n => absurd rfl n
    | c + 1, _, hc, _ => exact absurd hc (by omega)
    | _, c + 1, _, hc => exact absurd hc (by omega)
  mg_Ratio := (PySem.W.mg_of X G (He.eqO_ok (okX.at h 68)))
  len := PySem.W.mg_none_of X G (He.eqO_ok (okX.at h 0))
  abs := PySem.W.mg_none_of X G (He.eqO_ok (okX.at h 1))
  max := PySem.W.mg_none_of X G (He.eqO_ok (okX.at h 2))
  min := PySem.W.mg_none_of X G (He.eqO_ok (okX.at h 3))
  sum := PySem.W.mg_none_of X G (He.eqO_ok (okX.at h 4))
  all := PySem.W.mg_none_of X G (He.eqO_ok (okX.at h 5))
  any := PySem.W.mg_none_of X G (He.eqO_ok (okX.at h 6))
  divmod := PySem.W.mg_none_of X G (He.eqO_ok (okX.at h 7))
  repr := PySem.W.mg_none_of X G (He.eqO_ok (okX.at h 8))
  range := PySem.W.mg_none_of X G (He.eqO_ok (okX.at h 9))
  enumerate := PySem.W.mg_none_of X G (He.eqO_ok (okX.at h 10))
  zip := PySem.W.mg_none_of X G (He.eqO_ok (okX.at h 11))
  isinstance := PySem.W.mg_none_of X G (He.eqO_ok (okX.at h 12))
  int_ := PySem.W.mg_none_of X G (He.eqO_ok (okX.at h 13))
  bool_ := PySem.W.mg_none_of X G (He.eqO_ok (okX.at h 14))
  str_ := PySem.W.mg_none_of X G (He.eqO_ok (okX.at h 15))
  list_ := PySem.W.mg_none_of X G (He.eqO_ok (okX.at h 16))
  tuple_ := PySem.W.mg_none_of X G (He.eqO_ok (okX.at h 17))
  dict_ := PySem.W.mg_none_of X G (He.eqO_ok (okX.at h 18))
  gcd := (PySem.W.mg_of X G (He.eqO_ok (okX.at h 19)))
  lcm := (PySem.W.mg_of X G (He.eqO_ok (okX.at h 20)))
  c_MOST_NUMBERS := intIn_ok X G (okX.at h 21)
  c_MOST_DEGREE := intIn_ok X G (okX.at h 22)
theorem scP : FnScope ["_law_script", "_law_k", "_law_cell"] ["_law_script", "_law_k"] (defScope (top 41)) := ⟨rfl, rfl, rfl, by decide +kernel, rfl, by decide +kernel, by decide +kernel⟩
theorem ok_law_pot {f : Addr} {fd : FuncData} (F : Fun K "_law_pot" "_law_pot" (top 41) f fd) (T : Txt K mg) : FnOk P w K mg base CX0 1 f fd ["_law_script", "_law_k"] (SpF (fun a : Cns (Scr K) (Cns Int Nil) => a.t.h = 0) fun _ y => PotR y) := by
  refine fn_body F scP rfl fun cdv A' outer s H E W vs ⟨x, i, ⟨⟩⟩ Q hr hargs hI hp k => ?_
  obtain ⟨v, _, rfl, hv, v2, _, rfl, hv2, rfl⟩ := hargs
  have hp : i = 0 := hp
  subst hp
  have hv2 : Dat.Is W H v2 (0 : Int) := hv2
  refine wss_set (P := fun y : Int => True) 2 (Dx.imp (P := fun y => y = (match x.l with | [] => 139 | a :: _ => if a < 0 then -a else a)) ?_ fun _ _ => trivial) hI (fun v3 H1 c u1 i1 h3 _ => ?_) scP.nd
  · obtain ⟨xl⟩ := x
    have hv : Dat.Is W H v (⟨xl⟩ : Scr K) := hv
    cases xl with
    | nil =>
      refine dx_if (tx_lt (dx_var 1 hv2) (dx_lenS (dx_var (α := Scr K) 0 hv) T.len)) (fun h => absurd (of_decide_eq_true h) (show ¬ ((0 : Int) < 0) by decide)) (fun _ => (dx_add (dx_mul dx_int (dx_var 1 hv2) (cm40 (i := 73) (j := 0) (by decide) (by decide) (by decide) (by decide))) dx_int).to rfl) (fun _ => ?_) fun h => absurd (of_decide_eq_true h) (show ¬ ((0 : Int) < 0) by decide)
      have hz : Dat.Is WZ (fun _ => some (.lst [.int 0])) (.ref 0) (⟨[0]⟩ : Scr K) := ⟨0, rfl, fun h => h, SqL.of rfl⟩
      exact dxpe (W := WZ) (σ := [some (.ref 0), some (.int 0)]) (H := fun _ => some (.lst [.int 0])) (dx_abs (dx_ixS (x := (⟨[0]⟩ : Scr K)) (z := 0) (n := 0) (dx_var 0 hz) (dx_var 1 rfl) rfl) T.abs)
    | cons a l =>
      refine dx_if (tx_lt (dx_var 1 hv2) (dx_lenS (dx_var (α := Scr K) 0 hv) T.len)) (fun _ => (dx_abs (dx_ixS (x := (⟨a :: l⟩ : Scr K)) (z := a) (n := 0) (dx_var (α := Scr K) 0 hv) ((dx_var 1 hv2).imp fun _ h => h) rfl) T.abs).to rfl) (fun h => ?_) (fun h => ?_) fun h => ?_
      · exfalso; revert h; simp
      · exfalso; revert h; simp
      · exact dxpe (W := W) (σ := start ["_law_script", "_law_k", "_law_cell"] [v, v2]) (H := H) (dx_add (dx_mul dx_int (dx_var 1 hv2) (cm40 (i := 73) (j := 0) (by decide) (by decide) (by decide) (by decide))) (dx_int (i := 139)))
  · have h3 : Dat.Is W H1 v3 c := h3
    have hk : Dat.Is W H1 v2 (0 : Int) := hv2
    refine wss_ret (dx_lstP (lx_consP (dx_max2P rfl dx_int (dx_sub (dx_var 2 h3) (dx_pow (i := 10) (j := 18) dx_int dx_int ⟨by decide, by decide, by decide⟩)) T.max) (lx_consP (dx_addP (dx_modP (dx_intP (dx_addP (dx_addP (dx_mulP (dx_modP (dx_intP (dx_var 2 h3) T.int_) dx_int (by decide)) dx_int ?_) (dx_mul dx_int (dx_var 1 hk) (cm40 (by decide) (by decide) (by decide) (by decide)))) dx_int) T.int_) dx_int (by decide)) dx_int) lx_nil)) ?_) i1 fun u H2 y u2 i2 hy ey => k u H2 y (u1.trans u2) i2 hy ?_
    · rintro i j ⟨c', _, rfl⟩ rfl
      have := fmod_lt (i := c') (j := 2147483549) (by decide)
      exact cm40 this.1 (by omega) (by decide) (by decide)
    · rintro xs ⟨x1, r1, _, ⟨x2, r2, _, e, rfl⟩, rfl⟩
      rw [e]
      show 2 ≤ 100000
      decide
    · obtain ⟨x1, r1, ⟨j1, ej1, ex1⟩, ⟨x2, r2, ⟨a2, b2, ⟨a3, _, ea3⟩, eb2, ex2⟩, er2, er1⟩, ey⟩ := ey
      have m := fmod_lt (i := a3) (j := 2147483579) (by decide)
      refine ⟨x1, x2, by rw [ey, er1, er2], ?_, ?_, ?_⟩
      · rw [ex1]; split <;> omega
      · omega
      · omega
theorem scD : FnScope ["_law_pot_here", "_law_many", "_law_digit"] ["_law_pot_here", "_law_many"] (defScope (top 42)) := ⟨rfl, rfl, rfl, by decide +kernel, rfl, by decide +kernel, by decide +kernel⟩
theorem ok_law_draw {f : Addr} {fd : FuncData} (F : Fun K "_law_draw" "_law_draw" (top 42) f fd) (T : Txt K mg) : FnOk P w K mg base CX0 1 f fd ["_law_pot_here", "_law_many"] (SpF DrawPre DrawR) := by
  refine fn_body F scD rfl fun cdv A' outer s H E W vs ⟨x, m, ⟨⟩⟩ Q hr hargs hI hp k => ?_
  obtain ⟨v, _, rfl, hv, v2, _, rfl, hv2, rfl⟩ := hargs
  have hp0 : 0 < m := hp.1
  have hp1 : m < 2 ^ 30 := hp.2
  have hv2 : Dat.Is W H v2 m := hv2
  have pot : ∀ H, Dat.Is W H v x := fun _ => hv
  have hm9 : m.natAbs.log2 < 9000 := log9 hp0 hp1
  refine wss_if (tx_gtP (dx_pot0 (dx_var 0 (pot _)) dx_int) dx_int) hI fun b H1 u1 i1 _ => ?_
  have hv21 : ∀ H', Dat.Is W H' v2 m := fun _ => hv2
  split
  · refine wss_pot0 2 (dx_divmodP (dx_pot0 (dx_var 0 (pot _)) dx_int) (dx_var 1 (hv21 _)) hp0 hm9 T.divmod) (fun H' => dx_var 0 (pot H')) (fun H' => dx_int) i1 (fun n hn => ?_) scD.nd rfl (fun H2 n hn u2 i2 => ?_)
    · obtain ⟨i, h0, rfl⟩ := hn
      exact Int.ediv_nonneg h0 (Int.le_of_lt hp0)
    · refine wss_ret (dx_var (α := Int) (x := n.2) 2 rfl) i2 fun u H3 y u3 i3 hy ey => k u H3 y (u1.trans (u2.trans u3)) i3 hy ?_
      obtain ⟨i, h0, rfl⟩ := hn
      rw [ey]
      exact ⟨Int.emod_nonneg _ (Int.ne_of_gt hp0), Int.emod_lt_of_pos _ hp0⟩
  · refine wss_nil ?_
    refine wss_pot1 (dx_modP (dx_intP (dx_addP (dx_mulP (dx_pot1 (dx_var 0 (pot _)) dx_int) dx_int ?_) dx_int) T.int_) dx_int (by decide)) (fun H' => dx_var 0 (pot H')) (fun H' => dx_int) i1 (fun n hn => ?_) (fun H2 u2 i2 => ?_)
    · rintro i j ⟨h0, h1⟩ rfl
      exact cm40 h0 h1 (by decide) (by decide)
    · obtain ⟨i, _, rfl⟩ := hn
      have := fmod_lt (i := i) (j := 2147483629) (by decide)
      exact ⟨this.1, by omega⟩
    · refine wss_ret (dx_modP (dx_intP (dx_fdivP (dx_modP (dx_intP (dx_mulP (dx_pot1 (dx_var 0 (pot _)) dx_int) (dx_pot1 (dx_var 0 (pot _)) dx_int) ?_) T.int_) dx_int (by decide)) dx_int (by decide) (by decide)) T.int_) (dx_var 1 (hv21 _)) (Int.ne_of_gt hp0)) i2 fun u H3 y u3 i3 hy ey => k u H3 y (u1.trans (u2.trans u3)) i3 hy ?_
      · rintro i j ⟨h0, h1⟩ ⟨k0, k1⟩
        exact cm40 h0 h1 k0 k1
      · obtain ⟨i, _, rfl⟩ := ey
        exact fmod_lt hp0
theorem scL : FnScope ["_law_script"] ["_law_script"] (defScope (top 59)) := ⟨rfl, rfl, rfl, by decide +kernel, rfl, by decide +kernel, by decide +kernel⟩
abbrev DPot (P : Program) (w : World) (K : PySem.W.Frag) (mg : Str → Option Value) (base : Heap) : Prop := Def P w K mg base 1 "_law_pot" ["_law_script", "_law_k"] (SpF (fun a : Cns (Scr K) (Cns Int Nil) => a.t.h = 0) fun _ y => PotR y)
theorem ok_law {f : Addr} {fd : FuncData} (F : Fun K "law" "law" (top 59) f fd) (DP : DPot P w K mg base) (DR : DefDG (ct K) P w K mg base 11 "_law_right" false 1 s_law_right_k13) (hs : ∀ a R, R (.bl true) → s_law_right_k13 [.pot a] R) : FnG P w K mg base 12 f fd ["_law_script"] (spLaw K) := by
  refine fnG_of F scL (fun vs H Q E ⟨a, ns, e, _⟩ => by rw [e]; rfl) fun cdv A outer s H vs Q hG hr ⟨a, ns, e, hS, k⟩ => ?_
  subst e
  have hv : Dat.Is WZ H (.ref a) (⟨ns⟩ : Scr K) := ⟨a, rfl, fun h => h, hS⟩
  refine wss_retD DR hs hG hr (Dx.imp (P := PotR) ?_ fun _ h => h) k
  exact Dx.imp (dx_call (x := (⟨⟨ns⟩, ⟨(0 : Int), ⟨⟩⟩⟩ : Cns (Scr K) (Cns Int Nil))) DP (hr.mono (by decide)) (ax_cons (dx_var 0 hv) (ax_cons dx_int ax_nil)) rfl) fun _ h => h
theorem all_of (X : K.In hp) (G : hp.Ns mainGlobals mg) (c : TellX okX fn K) : DPot P w K mg base ∧ DefDG (ct K) P w K mg base 11 "_law_right" false 1 s_law_right_k13 := by
  have h := c.truth
  have Tx := txt_of X G h
  obtain ⟨fd42, F42⟩ := c.def_ 42
  have F42 : FunD K "_law_right" "_law_right" (defArgs (top 58)) (defBody (top 58)) (defScope (top 58)) [] [] (He.ga K "_law_right") fd42 := F42
  have b42 := FunD.bindsN (ps := ["_law_pot_here"]) F42 fun _ _ _ _ _ _ us hl => match us, hl with | [_], _ => rfl
  obtain ⟨fd44, F44⟩ := c.def_ 44
  have F44 : FunD K "_law_draw" "_law_draw" (defArgs (top 42)) (defBody (top 42)) (defScope (top 42)) [] [] (He.ga K "_law_draw") fd44 := F44
  have b44 := FunD.bindsN (ps := ["_law_pot_here", "_law_many"]) F44 fun _ _ _ _ _ _ us hl => match us, hl with | [_, _], _ => rfl
  have D_law_draw : DefD (ct K) P w K mg base 1 "_law_draw" false 2 s_law_draw := ⟨⟨_, _, _, draw_D (ok_law_draw (He5.fun_of F44) Tx) Ml.draw_inv, (PySem.W.mg_of X G (He.eqO_ok (okX.at h 64))), F44.kp, b44⟩, fun _ _ => len_s_law_draw⟩
  obtain ⟨fd3, F3⟩ := c.def_ 3
  have F3 : FunD K "_law_given" "_law_given" (defArgs (top 54)) (defBody (top 54)) (defScope (top 54)) [] [] (He.ga K "_law_given") fd3 := F3
  have b3 := FunD.bindsN (ps := ["_law_pot_here", "_law_poly_here"]) F3 fun _ _ _ _ _ _ us hl => match us, hl with | [_, _], _ => rfl
  obtain ⟨fd0, F0⟩ := c.def_ 0
  have F0 : FunD K "_law_pick" "_law_pick" (defArgs (top 43)) (defBody (top 43)) (defScope (top 43)) [] [] (He.ga K "_law_pick") fd0 := F0
  have b0 := FunD.bindsN (ps := ["_law_pot_here", "_law_some"]) F0 fun _ _ _ _ _ _ us hl => match us, hl with | [_, _], _ => rfl
  have ok0 := ok_law_pick (P := P) (w := w) (mg := mg) (base := base) F0 Tx D_law_draw
  have D_law_pick : DefD (ct K) P w K mg base 2 "_law_pick" false 2 s_law_pick := ⟨⟨_, _, _, ok0, (PySem.W.mg_of X G (He.eqO_ok (okX.at h 23))), F0.kp, b0⟩, (fun _ _ => len_s_law_pick)⟩
  obtain ⟨fd2, F2⟩ := c.def_ 2
  have F2 : FunD K "__init__" "Ratio.__init__" (defArgs (cm 20 0)) (defBody (cm 20 0)) (defScope (cm 20 0)) [.int 1] [] (He.ma K (rc K) "__init__") fd2 := F2
  obtain ⟨fd1, F1⟩ := c.def_ 1
  have F1 : FunD K "is_integer" "is_integer" (defArgs (top 18)) (defBody (top 18)) (defScope (top 18)) [] [] (He.ga K "is_integer") fd1 := F1
  have b1 := FunD.bindsN (ps := ["value"]) F1 fun _ _ _ _ _ _ us hl => match us, hl with | [_], _ => rfl
  have ok1 := ok_is_integer (P := P) (w := w) (mg := mg) (base := base) F1 Tx 
  have D_is_integer : DefD (ct K) P w K mg base 1 "is_integer" false 1 s_is_integer := ⟨⟨_, _, _, ok1, (PySem.W.mg_of X G (He.eqO_ok (okX.at h 24))), F1.kp, b1⟩, (fun _ _ => len_s_is_integer)⟩
  have ok2 := ok_Ratio_init (P := P) (w := w) (mg := mg) (base := base) F2 Tx D_is_integer
  obtain ⟨dsM_Ratio2, dvM_Ratio2, dbM_Ratio2⟩ := FunD.binds1 (ps := ["self", "top", "bottom"]) F2 3 1 (by simp) rfl fun T kV doc pm an cdv ct us its l1 l2 => match us, l1, its, l2 with | [_, _, _], _, [_], _ => ⟨_, rfl, rfl⟩
  have M_Ratio2 : MkD (ct K) P w K mg base 4 0 "Ratio" 2 s_Ratio_init [] := ⟨⟨_, _, _, dsM_Ratio2, _, ok2, ⟨(okX.at h 91), (He.eqO_ok (okX.at h 93)), (okX.at h 94), (okX.at h 92)⟩, (PySem.W.mg_of X G (He.eqO_ok (okX.at h 68))), dbM_Ratio2, dvM_Ratio2, fun _ _ => .nil⟩, (fun _ _ => len_s_Ratio_init), by show 0 < 1; decide⟩
  have ok3 := ok_law_given (P := P) (w := w) (mg := mg) (base := base) F3 Tx D_law_draw D_law_pick M_Ratio2
  have D_law_given : DefD (ct K) P w K mg base 6 "_law_given" false 2 s_law_given := ⟨⟨_, _, _, ok3, (PySem.W.mg_of X G (He.eqO_ok (okX.at h 25))), F3.kp, b3⟩, (fun _ _ => len_s_law_given)⟩
  obtain ⟨fd16, F16⟩ := c.def_ 16
  have F16 : FunD K "_law_poly" "_law_poly" (defArgs (top 52)) (defBody (top 52)) (defScope (top 52)) [] [] (He.ga K "_law_poly") fd16 := F16
  have b16 := FunD.bindsN (ps := ["_law_pot_here", "_law_many"]) F16 fun _ _ _ _ _ _ us hl => match us, hl with | [_, _], _ => rfl
  obtain ⟨fd15, F15⟩ := c.def_ 15
  have F15 : FunD K "_law_number" "_law_number" (defArgs (top 51)) (defBody (top 51)) (defScope (top 51)) [] [] (He.ga K "_law_number") fd15 := F15
  have b15 := FunD.bindsN (ps := ["_law_pot_here", "_law_most"]) F15 fun _ _ _ _ _ _ us hl => match us, hl with | [_, _], _ => rfl
  obtain ⟨fd14, F14⟩ := c.def_ 14
  have F14 : FunD K "_law_low" "_law_low" (defArgs (top 44)) (defBody (top 44)) (defScope (top 44)) [] [] (He.ga K "_law_low") fd14 := F14
  have b14 := FunD.bindsN (ps := ["_law_top", "_law_bottom"]) F14 fun _ _ _ _ _ _ us hl => match us, hl with | [_, _], _ => rfl
  have ok14 := ok_law_low (P := P) (w := w) (mg := mg) (base := base) F14 Tx 
  have D_law_low : DefD (ct K) P w K mg base 1 "_law_low" false 2 s_law_low := ⟨⟨_, _, _, ok14, (PySem.W.mg_of X G (He.eqO_ok (okX.at h 36))), F14.kp, b14⟩, (fun _ _ => len_s_law_low)⟩
  have ok15 := ok_law_number (P := P) (w := w) (mg := mg) (base := base) F15 Tx D_law_draw D_law_low D_law_pick
  have D_law_number : DefD (ct K) P w K mg base 3 "_law_number" false 2 s_law_number := ⟨⟨_, _, _, ok15, (PySem.W.mg_of X G (He.eqO_ok (okX.at h 37))), F15.kp, b15⟩, (fun _ _ => len_s_law_number)⟩
  obtain ⟨fd13, F13⟩ := c.def_ 13
  have F13 : FunD K "_law_trim" "_law_trim" (defArgs (top 47)) (defBody (top 47)) (defScope (top 47)) [] [] (He.ga K "_law_trim") fd13 := F13
  have b13 := FunD.bindsN (ps := ["_law_poly_here"]) F13 fun _ _ _ _ _ _ us hl => match us, hl with | [_], _ => rfl
  have ok13 := ok_law_trim (P := P) (w := w) (mg := mg) (base := base) F13 Tx 
  have D_law_trim : DefD (ct K) P w K mg base 4 "_law_trim" false 1 s_law_trim := ⟨⟨_, _, _, ok13, (PySem.W.mg_of X G (He.eqO_ok (okX.at h 35))), F13.kp, b13⟩, (fun _ _ => len_s_law_trim)⟩
  have ok16 := ok_law_poly (P := P) (w := w) (mg := mg) (base := base) F16 Tx D_law_draw D_law_number D_law_trim
  have D_law_poly : DefD (ct K) P w K mg base 5 "_law_poly" false 2 s_law_poly := ⟨⟨_, _, _, ok16, (PySem.W.mg_of X G (He.eqO_ok (okX.at h 38))), F16.kp, b16⟩, (fun _ _ => len_s_law_poly)⟩
  obtain ⟨fd41, F41⟩ := c.def_ 41
  have F41 : FunD K "_law_put_right" "_law_put_right" (defArgs (top 57)) (defBody (top 57)) (defScope (top 57)) [] [] (He.ga K "_law_put_right") fd41 := F41
  have b41 := FunD.bindsN (ps := ["_law_pot_here", "_law_one", "_law_other", "_law_third"]) F41 fun _ _ _ _ _ _ us hl => match us, hl with | [_, _, _, _], _ => rfl
  obtain ⟨fd26, F26⟩ := c.def_ 26
  have F26 : FunD K "_law_handed" "_law_handed" (defArgs (top 55)) (defBody (top 55)) (defScope (top 55)) [] [] (He.ga K "_law_handed") fd26 := F26
  have b26 := FunD.bindsN (ps := ["_law_pot_here", "_law_number_here"]) F26 fun _ _ _ _ _ _ us hl => match us, hl with | [_, _], _ => rfl
  have ok26 := ok_law_handed (P := P) (w := w) (mg := mg) (base := base) F26 Tx D_law_draw M_Ratio2
  have D_law_handed : DefD (ct K) P w K mg base 6 "_law_handed" false 2 s_law_handed := ⟨⟨_, _, _, ok26, (PySem.W.mg_of X G (He.eqO_ok (okX.at h 48))), F26.kp, b26⟩, (fun _ _ => len_s_law_handed)⟩
  obtain ⟨fd38, F38⟩ := c.def_ 38
  have F38 : FunD K "_law_led" "_law_led" (defArgs (top 56)) (defBody (top 56)) (defScope (top 56)) [] [] (He.ga K "_law_led") fd38 := F38
  have b38 := FunD.bindsN (ps := ["_law_poly_here", "_law_other"]) F38 fun _ _ _ _ _ _ us hl => match us, hl with | [_, _], _ => rfl
  obtain ⟨fd35, F35⟩ := c.def_ 35
  have F35 : FunD K "_law_sum" "_law_sum" (defArgs (top 48)) (defBody (top 48)) (defScope (top 48)) [] [] (He.ga K "_law_sum") fd35 := F35
  have b35 := FunD.bindsN (ps := ["_law_one", "_law_other"]) F35 fun _ _ _ _ _ _ us hl => match us, hl with | [_, _], _ => rfl
  obtain ⟨fd34, F34⟩ := c.def_ 34
  have F34 : FunD K "_law_plus" "_law_plus" (defArgs (top 45)) (defBody (top 45)) (defScope (top 45)) [] [] (He.ga K "_law_plus") fd34 := F34
  have b34 := FunD.bindsN (ps := ["_law_a", "_law_b"]) F34 fun _ _ _ _ _ _ us hl => match us, hl with | [_, _], _ => rfl
  have ok34 := ok_law_plus (P := P) (w := w) (mg := mg) (base := base) F34 Tx D_law_low
  have D_law_plus : DefD (ct K) P w K mg base 2 "_law_plus" false 2 s_law_plus := ⟨⟨_, _, _, ok34, (PySem.W.mg_of X G (He.eqO_ok (okX.at h 56))), F34.kp, b34⟩, (fun _ _ => len_s_law_plus)⟩
  have ok35 := ok_law_sum (P := P) (w := w) (mg := mg) (base := base) F35 Tx D_law_plus D_law_trim
  have D_law_sum : DefD (ct K) P w K mg base 5 "_law_sum" false 2 s_law_sum := ⟨⟨_, _, _, ok35, (PySem.W.mg_of X G (He.eqO_ok (okX.at h 57))), F35.kp, b35⟩, (fun _ _ => len_s_law_sum)⟩
  obtain ⟨fd37, F37⟩ := c.def_ 37
  have F37 : FunD K "_law_times" "_law_times" (defArgs (top 49)) (defBody (top 49)) (defScope (top 49)) [] [] (He.ga K "_law_times") fd37 := F37
  have b37 := FunD.bindsN (ps := ["_law_one", "_law_other"]) F37 fun _ _ _ _ _ _ us hl => match us, hl with | [_, _], _ => rfl
  obtain ⟨fd36, F36⟩ := c.def_ 36
  have F36 : FunD K "_law_by" "_law_by" (defArgs (top 46)) (defBody (top 46)) (defScope (top 46)) [] [] (He.ga K "_law_by") fd36 := F36
  have b36 := FunD.bindsN (ps := ["_law_a", "_law_b"]) F36 fun _ _ _ _ _ _ us hl => match us, hl with | [_, _], _ => rfl
  have ok36 := ok_law_by (P := P) (w := w) (mg := mg) (base := base) F36 Tx D_law_low
  have D_law_by : DefD (ct K) P w K mg base 2 "_law_by" false 2 s_law_by := ⟨⟨_, _, _, ok36, (PySem.W.mg_of X G (He.eqO_ok (okX.at h 58))), F36.kp, b36⟩, (fun _ _ => len_s_law_by)⟩
  have ok37 := ok_law_times (P := P) (w := w) (mg := mg) (base := base) F37 Tx D_law_by D_law_plus D_law_trim
  have D_law_times : DefD (ct K) P w K mg base 5 "_law_times" false 2 s_law_times := ⟨⟨_, _, _, ok37, (PySem.W.mg_of X G (He.eqO_ok (okX.at h 59))), F37.kp, b37⟩, (fun _ _ => len_s_law_times)⟩
  have ok38 := ok_law_led (P := P) (w := w) (mg := mg) (base := base) F38 Tx D_law_sum D_law_times D_law_trim
  have D_law_led : DefD (ct K) P w K mg base 6 "_law_led" false 2 s_law_led := ⟨⟨_, _, _, ok38, (PySem.W.mg_of X G (He.eqO_ok (okX.at h 60))), F38.kp, b38⟩, (fun _ _ => len_s_law_led)⟩
  obtain ⟨fd33, F33⟩ := c.def_ 33
  have F33 : FunD K "_law_ratios" "_law_ratios" (defArgs (top 50)) (defBody (top 50)) (defScope (top 50)) [] [] (He.ga K "_law_ratios") fd33 := F33
  have b33 := FunD.bindsN (ps := ["_law_poly_here"]) F33 fun _ _ _ _ _ _ us hl => match us, hl with | [_], _ => rfl
  have ok33 := ok_law_ratios (P := P) (w := w) (mg := mg) (base := base) F33 Tx M_Ratio2
  have D_law_ratios : DefD (ct K) P w K mg base 6 "_law_ratios" false 1 s_law_ratios := ⟨⟨_, _, _, ok33, (PySem.W.mg_of X G (He.eqO_ok (okX.at h 55))), F33.kp, b33⟩, (fun _ _ => len_s_law_ratios)⟩
  obtain ⟨fd32, F32⟩ := c.def_ 32
  have F32 : FunD K "degree" "degree" (defArgs (top 34)) (defBody (top 34)) (defScope (top 34)) [] [] (He.ga K "degree") fd32 := F32
  have b32 := FunD.bindsN (ps := ["poly"]) F32 fun _ _ _ _ _ _ us hl => match us, hl with | [_], _ => rfl
  obtain ⟨fd11, F11⟩ := c.def_ 11
  have F11 : FunD K "cleared_poly" "cleared_poly" (defArgs (top 32)) (defBody (top 32)) (defScope (top 32)) [] [] (He.ga K "cleared_poly") fd11 := F11
  have b11 := FunD.bindsN (ps := ["poly"]) F11 fun _ _ _ _ _ _ us hl => match us, hl with | [_], _ => rfl
  obtain ⟨fd9, F9⟩ := c.def_ 9
  have F9 : FunD K "cleared" "cleared" (defArgs (top 24)) (defBody (top 24)) (defScope (top 24)) [] [] (He.ga K "cleared") fd9 := F9
  have b9 := FunD.bindsN (ps := ["numbers"]) F9 fun _ _ _ _ _ _ us hl => match us, hl with | [_], _ => rfl
  obtain ⟨fd8, F8⟩ := c.def_ 8
  have F8 : FunD K "pair_of" "pair_of" (defArgs (top 23)) (defBody (top 23)) (defScope (top 23)) [] [] (He.ga K "pair_of") fd8 := F8
  have b8 := FunD.bindsN (ps := ["number"]) F8 fun _ _ _ _ _ _ us hl => match us, hl with | [_], _ => rfl
  obtain ⟨fd7, F7⟩ := c.def_ 7
  have F7 : FunD K "need_number" "need_number" (defArgs (top 22)) (defBody (top 22)) (defScope (top 22)) [] [] (He.ga K "need_number") fd7 := F7
  have b7 := FunD.bindsN (ps := ["value"]) F7 fun _ _ _ _ _ _ us hl => match us, hl with | [_], _ => rfl
  obtain ⟨fd4, F4⟩ := c.def_ 4
  have F4 : FunD K "is_number" "is_number" (defArgs (top 21)) (defBody (top 21)) (defScope (top 21)) [] [] (He.ga K "is_number") fd4 := F4
  have b4 := FunD.bindsN (ps := ["value"]) F4 fun _ _ _ _ _ _ us hl => match us, hl with | [_], _ => rfl
  have ok4 := ok_is_number (P := P) (w := w) (mg := mg) (base := base) F4 Tx D_is_integer
  have D_is_number : DefD (ct K) P w K mg base 2 "is_number" false 1 s_is_number := ⟨⟨_, _, _, ok4, (PySem.W.mg_of X G (He.eqO_ok (okX.at h 26))), F4.kp, b4⟩, (fun _ _ => len_s_is_number)⟩
  have ok7 := ok_need_number (P := P) (w := w) (mg := mg) (base := base) F7 Tx D_is_number
  have D_need_number : DefD (ct K) P w K mg base 3 "need_number" false 1 s_need_number := ⟨⟨_, _, _, ok7, (PySem.W.mg_of X G (He.eqO_ok (okX.at h 29))), F7.kp, b7⟩, (fun _ _ => len_s_need_number)⟩
  have ok8 := ok_pair_of (P := P) (w := w) (mg := mg) (base := base) F8 Tx D_need_number
  have D_pair_of : DefD (ct K) P w K mg base 4 "pair_of" false 1 s_pair_of := ⟨⟨_, _, _, ok8, (PySem.W.mg_of X G (He.eqO_ok (okX.at h 30))), F8.kp, b8⟩, (fun _ _ => len_s_pair_of)⟩
  have ok9 := ok_cleared (P := P) (w := w) (mg := mg) (base := base) F9 Tx D_pair_of
  have D_cleared : DefD (ct K) P w K mg base 5 "cleared" false 1 s_cleared := ⟨⟨_, _, _, ok9, (PySem.W.mg_of X G (He.eqO_ok (okX.at h 31))), F9.kp, b9⟩, (fun _ _ => len_s_cleared)⟩
  obtain ⟨fd10, F10⟩ := c.def_ 10
  have F10 : FunD K "trimmed" "trimmed" (defArgs (top 4)) (defBody (top 4)) (defScope (top 4)) [] [] (He.ga K "trimmed") fd10 := F10
  have b10 := FunD.bindsN (ps := ["numbers"]) F10 fun _ _ _ _ _ _ us hl => match us, hl with | [_], _ => rfl
  have ok10 := ok_trimmed (P := P) (w := w) (mg := mg) (base := base) F10 Tx 
  have D_trimmed : DefD (ct K) P w K mg base 4 "trimmed" false 1 s_trimmed := ⟨⟨_, _, _, ok10, (PySem.W.mg_of X G (He.eqO_ok (okX.at h 32))), F10.kp, b10⟩, (fun _ _ => len_s_trimmed)⟩
  have ok11 := ok_cleared_poly (P := P) (w := w) (mg := mg) (base := base) F11 Tx D_cleared D_trimmed
  have D_cleared_poly : DefD (ct K) P w K mg base 6 "cleared_poly" false 1 s_cleared_poly := ⟨⟨_, _, _, ok11, (PySem.W.mg_of X G (He.eqO_ok (okX.at h 33))), F11.kp, b11⟩, (fun _ _ => len_s_cleared_poly)⟩
  obtain ⟨fd6, F6⟩ := c.def_ 6
  have F6 : FunD K "need_poly" "need_poly" (defArgs (top 30)) (defBody (top 30)) (defScope (top 30)) [] [] (He.ga K "need_poly") fd6 := F6
  have b6 := FunD.bindsN (ps := ["value"]) F6 fun _ _ _ _ _ _ us hl => match us, hl with | [_], _ => rfl
  obtain ⟨fd5, F5⟩ := c.def_ 5
  have F5 : FunD K "is_poly" "is_poly" (defArgs (top 29)) (defBody (top 29)) (defScope (top 29)) [] [] (He.ga K "is_poly") fd5 := F5
  have b5 := FunD.bindsN (ps := ["value"]) F5 fun _ _ _ _ _ _ us hl => match us, hl with | [_], _ => rfl
  have ok5 := ok_is_poly (P := P) (w := w) (mg := mg) (base := base) F5 Tx D_is_number
  have D_is_poly : DefD (ct K) P w K mg base 3 "is_poly" false 1 s_is_poly := ⟨⟨_, _, _, ok5, (PySem.W.mg_of X G (He.eqO_ok (okX.at h 27))), F5.kp, b5⟩, (fun _ _ => len_s_is_poly)⟩
  have ok6 := ok_need_poly (P := P) (w := w) (mg := mg) (base := base) F6 Tx D_is_poly
  have D_need_poly : DefD (ct K) P w K mg base 4 "need_poly" false 1 s_need_poly := ⟨⟨_, _, _, ok6, (PySem.W.mg_of X G (He.eqO_ok (okX.at h 28))), F6.kp, b6⟩, (fun _ _ => len_s_need_poly)⟩
  have ok32 := ok_degree (P := P) (w := w) (mg := mg) (base := base) F32 Tx D_cleared_poly D_need_poly
  have D_degree : DefD (ct K) P w K mg base 7 "degree" false 1 s_degree := ⟨⟨_, _, _, ok32, (PySem.W.mg_of X G (He.eqO_ok (okX.at h 54))), F32.kp, b32⟩, (fun _ _ => len_s_degree)⟩
  obtain ⟨fd31, F31⟩ := c.def_ 31
  have F31 : FunD K "derived" "derived" (defArgs (top 37)) (defBody (top 37)) (defScope (top 37)) [] [] (He.ga K "derived") fd31 := F31
  have b31 := FunD.bindsN (ps := ["poly"]) F31 fun _ _ _ _ _ _ us hl => match us, hl with | [_], _ => rfl
  obtain ⟨fd30, F30⟩ := c.def_ 30
  have F30 : FunD K "derived_bare" "derived_bare" (defArgs (top 8)) (defBody (top 8)) (defScope (top 8)) [] [] (He.ga K "derived_bare") fd30 := F30
  have b30 := FunD.bindsN (ps := ["poly"]) F30 fun _ _ _ _ _ _ us hl => match us, hl with | [_], _ => rfl
  have ok30 := ok_derived_bare (P := P) (w := w) (mg := mg) (base := base) F30 Tx 
  have D_derived_bare : DefD (ct K) P w K mg base 1 "derived_bare" false 1 s_derived_bare := ⟨⟨_, _, _, ok30, (PySem.W.mg_of X G (He.eqO_ok (okX.at h 52))), F30.kp, b30⟩, (fun _ _ => len_s_derived_bare)⟩
  obtain ⟨fd19, F19⟩ := c.def_ 19
  have F19 : FunD K "ratios_over" "ratios_over" (defArgs (top 25)) (defBody (top 25)) (defScope (top 25)) [] [] (He.ga K "ratios_over") fd19 := F19
  have b19 := FunD.bindsN (ps := ["integers", "below"]) F19 fun _ _ _ _ _ _ us hl => match us, hl with | [_, _], _ => rfl
  have ok19 := ok_ratios_over (P := P) (w := w) (mg := mg) (base := base) F19 Tx M_Ratio2
  have D_ratios_over : DefD (ct K) P w K mg base 6 "ratios_over" true 2 s_ratios_over := ⟨⟨_, _, _, ok19, (PySem.W.mg_of X G (He.eqO_ok (okX.at h 41))), F19.kp, b19⟩, (fun _ _ => len_s_ratios_over)⟩
  have ok31 := ok_derived (P := P) (w := w) (mg := mg) (base := base) F31 Tx D_cleared_poly D_derived_bare D_need_poly D_ratios_over
  have D_derived : DefD (ct K) P w K mg base 7 "derived" true 1 s_derived := ⟨⟨_, _, _, ok31, (PySem.W.mg_of X G (He.eqO_ok (okX.at h 53))), F31.kp, b31⟩, (fun _ _ => len_s_derived)⟩
  obtain ⟨fd28, F28⟩ := c.def_ 28
  have F28 : FunD K "plus" "plus" (defArgs (top 35)) (defBody (top 35)) (defScope (top 35)) [] [] (He.ga K "plus") fd28 := F28
  have b28 := FunD.bindsN (ps := ["poly", "other"]) F28 fun _ _ _ _ _ _ us hl => match us, hl with | [_, _], _ => rfl
  obtain ⟨fd27, F27⟩ := c.def_ 27
  have F27 : FunD K "cleared_both" "cleared_both" (defArgs (top 33)) (defBody (top 33)) (defScope (top 33)) [] [] (He.ga K "cleared_both") fd27 := F27
  have b27 := FunD.bindsN (ps := ["poly", "other"]) F27 fun _ _ _ _ _ _ us hl => match us, hl with | [_, _], _ => rfl
  have ok27 := ok_cleared_both (P := P) (w := w) (mg := mg) (base := base) F27 Tx D_cleared D_trimmed
  have D_cleared_both : DefD (ct K) P w K mg base 6 "cleared_both" false 2 s_cleared_both := ⟨⟨_, _, _, ok27, (PySem.W.mg_of X G (He.eqO_ok (okX.at h 49))), F27.kp, b27⟩, (fun _ _ => len_s_cleared_both)⟩
  obtain ⟨fd18, F18⟩ := c.def_ 18
  have F18 : FunD K "need_polys" "need_polys" (defArgs (top 31)) (defBody (top 31)) (defScope (top 31)) [] [] (He.ga K "need_polys") fd18 := F18
  have b18 := FunD.bindsN (ps := ["poly", "other"]) F18 fun _ _ _ _ _ _ us hl => match us, hl with | [_, _], _ => rfl
  have ok18 := ok_need_polys (P := P) (w := w) (mg := mg) (base := base) F18 Tx D_need_poly
  have D_need_polys : DefD (ct K) P w K mg base 5 "need_polys" false 2 s_need_polys := ⟨⟨_, _, _, ok18, (PySem.W.mg_of X G (He.eqO_ok (okX.at h 40))), F18.kp, b18⟩, (fun _ _ => len_s_need_polys)⟩
  obtain ⟨fd20, F20⟩ := c.def_ 20
  have F20 : FunD K "summed" "summed" (defArgs (top 6)) (defBody (top 6)) (defScope (top 6)) [] [] (He.ga K "summed") fd20 := F20
  have b20 := FunD.bindsN (ps := ["first", "second"]) F20 fun _ _ _ _ _ _ us hl => match us, hl with | [_, _], _ => rfl
  have ok20 := ok_summed (P := P) (w := w) (mg := mg) (base := base) F20 Tx D_trimmed
  have D_summed : DefD (ct K) P w K mg base 5 "summed" false 2 s_summed := ⟨⟨_, _, _, ok20, (PySem.W.mg_of X G (He.eqO_ok (okX.at h 42))), F20.kp, b20⟩, (fun _ _ => len_s_summed)⟩
  have ok28 := ok_plus (P := P) (w := w) (mg := mg) (base := base) F28 Tx D_cleared_both D_need_polys D_ratios_over D_summed
  have D_plus : DefD (ct K) P w K mg base 7 "plus" true 2 s_plus := ⟨⟨_, _, _, ok28, (PySem.W.mg_of X G (He.eqO_ok (okX.at h 50))), F28.kp, b28⟩, (fun _ _ => len_s_plus)⟩
  obtain ⟨fd25, F25⟩ := c.def_ 25
  have F25 : FunD K "put_in" "put_in" (defArgs (top 38)) (defBody (top 38)) (defScope (top 38)) [] [] (He.ga K "put_in") fd25 := F25
  have b25 := FunD.bindsN (ps := ["poly", "other"]) F25 fun _ _ _ _ _ _ us hl => match us, hl with | [_, _], _ => rfl
  obtain ⟨fd23, F23⟩ := c.def_ 23
  have F23 : FunD K "put_over" "put_over" (defArgs (top 9)) (defBody (top 9)) (defScope (top 9)) [] [] (He.ga K "put_over") fd23 := F23
  have b23 := FunD.bindsN (ps := ["poly", "up", "down", "many"]) F23 fun _ _ _ _ _ _ us hl => match us, hl with | [_, _, _, _], _ => rfl
  obtain ⟨fd21, F21⟩ := c.def_ 21
  have F21 : FunD K "multiplied" "multiplied" (defArgs (top 7)) (defBody (top 7)) (defScope (top 7)) [] [] (He.ga K "multiplied") fd21 := F21
  have b21 := FunD.bindsN (ps := ["first", "second"]) F21 fun _ _ _ _ _ _ us hl => match us, hl with | [_, _], _ => rfl
  have ok21 := ok_multiplied (P := P) (w := w) (mg := mg) (base := base) F21 Tx 
  have D_multiplied : DefD (ct K) P w K mg base 1 "multiplied" false 2 s_multiplied := ⟨⟨_, _, _, ok21, (PySem.W.mg_of X G (He.eqO_ok (okX.at h 43))), F21.kp, b21⟩, (fun _ _ => len_s_multiplied)⟩
  obtain ⟨fd22, F22⟩ := c.def_ 22
  have F22 : FunD K "scaled_by" "scaled_by" (defArgs (top 5)) (defBody (top 5)) (defScope (top 5)) [] [] (He.ga K "scaled_by") fd22 := F22
  have b22 := FunD.bindsN (ps := ["poly", "number"]) F22 fun _ _ _ _ _ _ us hl => match us, hl with | [_, _], _ => rfl
  have ok22 := ok_scaled_by (P := P) (w := w) (mg := mg) (base := base) F22 Tx 
  have D_scaled_by : DefD (ct K) P w K mg base 4 "scaled_by" false 2 s_scaled_by := ⟨⟨_, _, _, ok22, (PySem.W.mg_of X G (He.eqO_ok (okX.at h 44))), F22.kp, b22⟩, (fun _ _ => len_s_scaled_by)⟩
  have ok23 := ok_put_over (P := P) (w := w) (mg := mg) (base := base) F23 Tx D_multiplied D_scaled_by D_summed
  have D_put_over : DefD (ct K) P w K mg base 6 "put_over" false 4 s_put_over := ⟨⟨_, _, _, ok23, (PySem.W.mg_of X G (He.eqO_ok (okX.at h 45))), F23.kp, b23⟩, (fun _ _ => len_s_put_over)⟩
  obtain ⟨fd24, F24⟩ := c.def_ 24
  have F24 : FunD K "raised" "raised" (defArgs (top 3)) (defBody (top 3)) (defScope (top 3)) [] [] (He.ga K "raised") fd24 := F24
  have b24 := FunD.bindsN (ps := ["number", "many"]) F24 fun _ _ _ _ _ _ us hl => match us, hl with | [_, _], _ => rfl
  have ok24 := ok_raised (P := P) (w := w) (mg := mg) (base := base) F24 Tx 
  have D_raised : DefD (ct K) P w K mg base 1 "raised" false 2 s_raised := ⟨⟨_, _, _, ok24, (PySem.W.mg_of X G (He.eqO_ok (okX.at h 46))), F24.kp, b24⟩, (fun _ _ => len_s_raised)⟩
  have ok25 := ok_put_in (P := P) (w := w) (mg := mg) (base := base) F25 Tx D_cleared_poly D_need_polys D_put_over D_raised D_ratios_over
  have D_put_in : DefD (ct K) P w K mg base 7 "put_in" false 2 s_put_in := ⟨⟨_, _, _, ok25, (PySem.W.mg_of X G (He.eqO_ok (okX.at h 47))), F25.kp, b25⟩, (fun _ _ => len_s_put_in)⟩
  obtain ⟨fd29, F29⟩ := c.def_ 29
  have F29 : FunD K "times" "times" (defArgs (top 36)) (defBody (top 36)) (defScope (top 36)) [] [] (He.ga K "times") fd29 := F29
  have b29 := FunD.bindsN (ps := ["poly", "other"]) F29 fun _ _ _ _ _ _ us hl => match us, hl with | [_, _], _ => rfl
  have ok29 := ok_times (P := P) (w := w) (mg := mg) (base := base) F29 Tx D_cleared_poly D_multiplied D_need_polys D_ratios_over
  have D_times : DefD (ct K) P w K mg base 7 "times" true 2 s_times := ⟨⟨_, _, _, ok29, (PySem.W.mg_of X G (He.eqO_ok (okX.at h 51))), F29.kp, b29⟩, (fun _ _ => len_s_times)⟩
  obtain ⟨fd12, F12⟩ := c.def_ 12
  have F12 : FunD K "worth" "worth" (defArgs (top 39)) (defBody (top 39)) (defScope (top 39)) [] [] (He.ga K "worth") fd12 := F12
  have b12 := FunD.bindsN (ps := ["poly", "number"]) F12 fun _ _ _ _ _ _ us hl => match us, hl with | [_, _], _ => rfl
  have ok12 := ok_worth (P := P) (w := w) (mg := mg) (base := base) F12 Tx D_cleared_poly D_need_poly D_pair_of M_Ratio2
  have D_worth : DefD (ct K) P w K mg base 7 "worth" false 2 s_worth := ⟨⟨_, _, _, ok12, (PySem.W.mg_of X G (He.eqO_ok (okX.at h 34))), F12.kp, b12⟩, (fun _ _ => len_s_worth)⟩
  have K_put_in_other_poly : DefK (ct K) P w K mg base 7 "put_in" false 0 ["other", "poly"] [1, 0] 2 s_put_in := ⟨⟨_, _, ["poly", "other"], ok25, (PySem.W.mg_of X G (He.eqO_ok (okX.at h 47))), F25.kp, kwf_of F25 fun _ _ _ _ _ _ ws hl => match ws, hl with | [_, _], _ => rfl⟩, (fun _ _ => len_s_put_in)⟩
  obtain ⟨fd39, F39⟩ := c.def_ 39
  have F39 : FunD K "__eq__" "Ratio.__eq__" (defArgs (cm 20 16)) (defBody (cm 20 16)) (defScope (cm 20 16)) [] [] (He.ma K (rc K) "__eq__") fd39 := F39
  have b39 := FunD.bindsN (ps := ["self", "other"]) F39 fun _ _ _ _ _ _ us hl => match us, hl with | [_, _], _ => rfl
  have ok39 := ok_Ratio_eq (P := P) (w := w) (mg := mg) (base := base) F39 Tx 
  have eqf0 : EqF K ((ct K).at_ 0) (He.ma K (rc K) "__eq__") := ⟨(He.eqO_ok (okX.at h 95)), (okX.at h 96), (He.eqO_ok (okX.at h 97)), (of_decide_eq_true (okX.at h 74)), (by
      intro T hT
      simp only [List.mem_cons, List.not_mem_nil, or_false] at hT
      rcases hT with rfl | rfl | rfl
      · exact (of_decide_eq_true (okX.at h 98))
      · exact (of_decide_eq_true (okX.at h 99))
      · exact (of_decide_eq_true (okX.at h 100))), (of_decide_eq_true (okX.at h 101))⟩
  have E1 : EqsB (ct K) P w K mg base 4 ownE := ⟨(by
      intro c hc
      have hc : c < 1 := hc
      match c, hc with
      | 0, _ => exact .inr ⟨_, _, _, _, eqf0, ok39.mono (by decide), b39⟩
      | c + 1, hc => exact absurd hc (by omega)), Ml.same_ownE, Tx.inj, Tx.sub2⟩
  obtain ⟨fd40, F40⟩ := c.def_ 40
  have F40 : FunD K "__repr__" "Ratio.__repr__" (defArgs (cm 20 18)) (defBody (cm 20 18)) (defScope (cm 20 18)) [] [] (He.ma K (rc K) "__repr__") fd40 := F40
  have b40 := FunD.bindsN (ps := ["self"]) F40 fun _ _ _ _ _ _ us hl => match us, hl with | [_], _ => rfl
  have ok40 := ok_Ratio_repr (P := P) (w := w) (mg := mg) (base := base) F40 Tx 
  have RT : TxtB (ct K) P w K mg base 1 ownT := ⟨(by
      intro c hc
      have hc : c < 1 := hc
      match c, hc with
      | 0, _ => exact .inr ⟨_, _, _, _, (He.eqO_ok (okX.at h 102)), (okX.at h 103), (FnOk.imp ok40 fun vs H Q E ⟨W, ds, R, hx, hl, hI, ⟨l, t, e, ht, hR⟩, q⟩ => ⟨W, ds, R, hx, hl, hI, by rw [e]; exact Ml.own_repr ht hR, q⟩).mono (by decide), b40⟩
      | c + 1, hc => exact absurd hc (by omega)), Tx.inj⟩
  have ok41 := ok_law_put_right (P := P) (w := w) (mg := mg) (base := base) (He5.fun_of F41) Tx D_law_given D_law_handed D_law_led D_law_number D_law_ratios D_degree D_derived D_plus D_put_in D_times D_worth K_put_in_other_poly E1 RT
  have D_law_put_right : DefDG (ct K) P w K mg base 10 "_law_put_right" false 4 s_law_put_right := ⟨⟨_, _, _, ok41, (PySem.W.mg_of X G (He.eqO_ok (okX.at h 61))), F41.kp, b41⟩, (fun _ _ => len_s_law_put_right)⟩
  obtain ⟨fd17, F17⟩ := c.def_ 17
  have F17 : FunD K "_law_standing" "_law_standing" (defArgs (top 53)) (defBody (top 53)) (defScope (top 53)) [] [] (He.ga K "_law_standing") fd17 := F17
  have b17 := FunD.bindsN (ps := ["_law_pot_here", "_law_many"]) F17 fun _ _ _ _ _ _ us hl => match us, hl with | [_, _], _ => rfl
  have ok17 := ok_law_standing (P := P) (w := w) (mg := mg) (base := base) F17 Tx D_law_pick D_law_poly
  have D_law_standing : DefD (ct K) P w K mg base 6 "_law_standing" false 2 s_law_standing := ⟨⟨_, _, _, ok17, (PySem.W.mg_of X G (He.eqO_ok (okX.at h 39))), F17.kp, b17⟩, (fun _ _ => len_s_law_standing)⟩
  obtain ⟨dsM_Ratio1, dvM_Ratio1, dbM_Ratio1⟩ := FunD.binds1 (ps := ["self", "top", "bottom"]) F2 2 0 (by simp) rfl fun T kV doc pm an cdv ct us its l1 l2 => match us, l1, its, l2 with | [_, _], _, [_], _ => ⟨_, rfl, rfl⟩
  have M_Ratio1 : MkD (ct K) P w K mg base 4 0 "Ratio" 2 s_Ratio_init [D.int 1] := ⟨⟨_, _, _, dsM_Ratio1, _, ok2, ⟨(okX.at h 91), (He.eqO_ok (okX.at h 93)), (okX.at h 94), (okX.at h 92)⟩, (PySem.W.mg_of X G (He.eqO_ok (okX.at h 68))), dbM_Ratio1, dvM_Ratio1, fun _ _ => .cons .int (.nil)⟩, (fun _ _ => len_s_Ratio_init), by show 0 < 1; decide⟩
  have ok42 := ok_law_right_k13 (P := P) (w := w) (mg := mg) (base := base) (He5.fun_of F42) Tx D_law_draw D_law_given D_law_pick D_law_poly D_law_put_right D_law_ratios D_law_standing D_put_in D_worth M_Ratio1 E1
  obtain ⟨fd43, F43⟩ := c.def_ 43
  have F43 : FunD K "_law_pot" "_law_pot" (defArgs (top 41)) (defBody (top 41)) (defScope (top 41)) [] [] (He.ga K "_law_pot") fd43 := F43
  have b43 := FunD.bindsN (ps := ["_law_script", "_law_k"]) F43 fun _ _ _ _ _ _ us hl => match us, hl with | [_, _], _ => rfl
  exact ⟨⟨_, _, ok_law_pot (He5.fun_of F43) Tx, (PySem.W.mg_of X G (He.eqO_ok (okX.at h 63))), F43.kp, b43⟩, ⟨⟨_, _, _, ok42, (PySem.W.mg_of X G (He.eqO_ok (okX.at h 62))), F42.kp, b42⟩, (fun _ _ => len_s_law_right_k13)⟩⟩
theorem law_of {f : Addr} (X : K.In hp) (G : hp.Ns mainGlobals mg) (c : TellX okX fn K) (hfa : mg ("law" : Str) = some (.ref f)) (hs : ∀ a R, R (.bl true) → s_law_right_k13 [.pot a] R) :
    ∃ fd : FuncData, (∀ (s : Shared) (v : Value), BindsTo s fd ⟨[v], []⟩ [("_law_script", v)]) ∧ ∀ base : Heap, K.In base → base.Ns mainGlobals mg → FnG P w K mg base 12 f fd ["_law_script"] (spLaw K) := by
  have h := c.truth
  obtain ⟨fd, F⟩ := c.def_ 45
  have F : FunD K "law" "law" (defArgs (top 59)) (defBody (top 59)) (defScope (top 59)) [] [] (He.ga K "law") fd := F
  have e := hfa.symm.trans (PySem.W.mg_of X G (He.eqO_ok (okX.at h 65)))
  cases e
  have b := FunD.bindsA (ps := ["_law_script"]) F fun _ _ _ _ _ _ us hl => match us, hl with | [_], _ => rfl
  refine ⟨fd, fun s v => b s [v] rfl, fun base _ _ => ?_⟩
  obtain ⟨dp, dr⟩ := all_of (P := P) (w := w) (base := base) X G c
  exact ok_law (He5.fun_of F) dp dr hs
end
end K13
set_option Elab.async false
set_option linter.all false
set_option maxRecDepth 100000
set_option maxHeartbeats 1000000
set_option exponentiation.threshold 20000
namespace Ml
open PySem L2 Inn Uv Sl
/-! ### the law's own reckoning -/
theorem rq_div {a b : Int} (hb : b ≠ 0) : (0 < b → a.fdiv (Int.gcd a b : Nat) = (rq a b).num ∧ b.fdiv (Int.gcd a b : Nat) = ((rq a b).den : Nat)) ∧ (¬ 0 < b → a.fdiv (0 - (Int.gcd a b : Nat)) = (rq a b).num ∧ b.fdiv (0 - (Int.gcd a b : Nat)) = ((rq a b).den : Nat)) ∧ Int.gcd a b ≠ 0 ∧ (Int.gcd a b : Int) ∣ b := by
  have g0 : Int.gcd a b ≠ 0 := fun z => hb (Int.gcd_eq_zero_iff.mp z).2
  have dv := Int.gcd_dvd_right a b
  obtain ⟨c, hc⟩ := Int.gcd_dvd_left a b
  obtain ⟨d, hd⟩ := Int.gcd_dvd_right a b
  have n1 : (rq a b).num = b.sign * a / (Int.gcd a b : Nat) := by
    show (Rat.divInt a b).num = _
    rw [Rat.num_divInt, Int.gcd_comm]
  have n2 : (rq a b).den = b.natAbs / Int.gcd a b := by
    show (Rat.divInt a b).den = _
    rw [Rat.den_divInt, if_neg hb, Int.gcd_comm]
  generalize Int.gcd a b = g at *
  have gz : (g : Int) ≠ 0 := by omega
  have nz : -(g : Int) ≠ 0 := by omega
  have ea : a.fdiv (g : Int) = c := by rw [hc]; exact dvd_fdiv gz
  have eb : b.fdiv (g : Int) = d := by rw [hd]; exact dvd_fdiv gz
  have ea' : a.fdiv (-(g : Int)) = -c := by rw [hc, ← Int.neg_mul_neg]; exact dvd_fdiv nz
  have eb' : b.fdiv (-(g : Int)) = -d := by rw [hd, ← Int.neg_mul_neg]; exact dvd_fdiv nz
  rw [Int.zero_sub, ea, eb, ea', eb']
  refine ⟨fun hp => ?_, fun hp => ?_, g0, dv⟩
  · rw [Int.sign_eq_one_of_pos hp, Int.one_mul] at n1
    have m1 : a / (g : Int) = c := by rw [← fdiv_nat]; exact ea
    have m2 : ((b.natAbs / g : Nat) : Int) = d := by
      rw [Int.natCast_ediv, Int.natAbs_of_nonneg (Int.le_of_lt hp), ← fdiv_nat]
      exact eb
    rw [n1, n2, m1, m2]
    exact ⟨rfl, rfl⟩
  · rw [Int.sign_eq_neg_one_of_neg (by omega), Int.neg_one_mul] at n1
    have m1 : -a / (g : Int) = -c := by rw [← fdiv_nat, hc, ← Int.mul_neg]; exact dvd_fdiv gz
    have m2 : ((b.natAbs / g : Nat) : Int) = -d := by
      have e : (b.natAbs : Int) = -b := by omega
      rw [Int.natCast_ediv, e, ← fdiv_nat, hd, ← Int.mul_neg]
      exact dvd_fdiv gz
    rw [n1, n2, m1, m2]
    exact ⟨rfl, rfl⟩
theorem abs_nat {i : Int} : (if i < 0 then -i else i) = ((i.natAbs : Nat) : Int) := by split <;> omega
theorem fmod_nat {x y : Nat} : ((x : Nat) : Int).fmod ((y : Nat) : Int) = ((x % y : Nat) : Int) := by
  rw [Int.fmod_eq_emod_of_nonneg _ (by omega)]
  rfl
theorem m_low {a b : Int} {k : Nat} {R : D → Prop} (hb : b ≠ 0) (hk : Bt k b) (hk2 : k ≤ 9000) (h : R (encP (rq a b))) : s_law_low [.int a, .int b] R := by
  unfold s_law_low
  rfl'
  rw [abs_nat, abs_nat]
  obtain ⟨r1, r2, g0, gd⟩ := rq_div (a := a) hb
  refine whC_ind (fun s => ∃ x y : Nat, s = (.int x, .int y) ∧ Nat.gcd x y = Int.gcd a b) (fun s => match s.2 with | .int i => i.toNat | _ => 0) _ ⟨_, _, rfl, rfl⟩ ?_
  rintro s nx ⟨x, y, rfl, hg⟩ hn
  rfl'
  by_cases hy : 0 < y
  · have e : decide ((0 : Int) < ((y : Nat) : Int)) = true := decide_eq_true (by omega)
    rw [e]
    rfl'
    refine ⟨by omega, hn _ ⟨y, x % y, by rw [fmod_nat], ?_⟩ ?_⟩
    · rw [← hg, Nat.gcd_comm x y, Nat.gcd_rec y x]
      exact Nat.gcd_comm _ _
    · show ((x : Int).fmod (y : Int)).toNat < ((y : Nat) : Int).toNat
      rw [fmod_nat]
      have := Nat.mod_lt x hy
      omega
  · have e : decide ((0 : Int) < ((y : Nat) : Int)) = false := decide_eq_false (by omega)
    rw [e]
    rfl'
    have y0 : y = 0 := by omega
    rw [y0, Nat.gcd_zero_right] at hg
    subst hg
    have lg : ((Int.gcd a b : Nat) : Int).natAbs.log2 < 9000 := ((hk.dvd hb gd).mono hk2).log (by decide)
    by_cases hp : 0 < b
    · rw [decide_eq_true hp]
      rfl'
      refine ⟨⟨by omega, lg⟩, ⟨by omega, lg⟩, ?_⟩
      rw [(r1 hp).1, (r1 hp).2]
      exact ⟨sz, h⟩
    · rw [decide_eq_false hp]
      rfl'
      have lg2 : (0 - ((Int.gcd a b : Nat) : Int)).natAbs.log2 < 9000 := by rw [Int.zero_sub, Int.natAbs_neg]; exact lg
      refine ⟨⟨by omega, lg2⟩, ⟨by omega, lg2⟩, ?_⟩
      rw [(r2 hp).1, (r2 hp).2]
      exact ⟨sz, h⟩
/-- a rational whose top and bottom have k bits -/
structure Ht (k : Nat) (q : Rat) : Prop where
  n : Bt k q.num
  d : Bt k ((q.den : Nat) : Int)
theorem Ht.mono {k m : Nat} {q : Rat} (h : Ht k q) (hm : k ≤ m) : Ht m q := ⟨h.n.mono hm, h.d.mono hm⟩
theorem rq_ht {a b : Int} {k : Nat} (hb : b ≠ 0) (ha : Bt k a) (hb2 : Bt k b) : Ht k (rq a b) := by
  obtain ⟨r1, r2, g0, gd⟩ := rq_div (a := a) hb
  have n1 : (rq a b).num.natAbs ≤ a.natAbs := by
    show (Rat.divInt a b).num.natAbs ≤ _
    rw [Rat.num_divInt]
    obtain ⟨c, hc⟩ := Int.gcd_dvd_left a b
    have gz : ((Int.gcd a b : Nat) : Int) ≠ 0 := by omega
    rw [Int.gcd_comm b a]
    generalize Int.gcd a b = g at *
    subst hc
    rw [show b.sign * ((g : Int) * c) = (g : Int) * (b.sign * c) by rw [← Int.mul_assoc, ← Int.mul_assoc, Int.mul_comm b.sign], Int.mul_ediv_cancel_left _ gz, Int.natAbs_mul, Int.natAbs_mul]
    have s1 : b.sign.natAbs ≤ 1 := by rw [Int.natAbs_sign]; split <;> omega
    have : g ≠ 0 := by omega
    have h1 : b.sign.natAbs * c.natAbs ≤ 1 * c.natAbs := Nat.mul_le_mul_right _ s1
    have h2 : 1 * c.natAbs ≤ g * c.natAbs := Nat.mul_le_mul_right _ (by omega)
    exact Nat.le_trans h1 h2
  have n2 : (rq a b).den ≤ b.natAbs := by
    show (Rat.divInt a b).den ≤ _
    rw [Rat.den_divInt, if_neg hb]
    exact Nat.div_le_self _ _
  exact ⟨ha.le n1, Nat.lt_of_le_of_lt n2 hb2⟩
theorem q_add (p q : Rat) : rq (p.num * q.den + q.num * p.den) (p.den * q.den) = p + q := by
  rw [rq_eq, Rat.intCast_add, Rat.intCast_mul, Rat.intCast_mul, Rat.intCast_mul, Rat.intCast_natCast, Rat.intCast_natCast]
  have e1 := q_of p
  have e2 := q_of q
  have d1 : (p.den : Rat) ≠ 0 := by exact_mod_cast p.den_nz
  have d2 : (q.den : Rat) ≠ 0 := by exact_mod_cast q.den_nz
  generalize (p.num : Rat) = a at *
  generalize (q.num : Rat) = b at *
  generalize (p.den : Rat) = c at *
  generalize (q.den : Rat) = d at *
  rw [e1, e2]
  grind
theorem q_by (p q : Rat) : rq (p.num * q.num) (p.den * q.den) = p * q := by
  rw [rq_eq, Rat.intCast_mul, Rat.intCast_mul, Rat.intCast_natCast, Rat.intCast_natCast]
  have e1 := q_of p
  have e2 := q_of q
  have d1 : (p.den : Rat) ≠ 0 := by exact_mod_cast p.den_nz
  have d2 : (q.den : Rat) ≠ 0 := by exact_mod_cast q.den_nz
  generalize (p.num : Rat) = a at *
  generalize (q.num : Rat) = b at *
  generalize (p.den : Rat) = c at *
  generalize (q.den : Rat) = d at *
  rw [e1, e2]
  grind
theorem den0 {p q : Rat} : ((p.den : Nat) : Int) * ((q.den : Nat) : Int) ≠ 0 := Int.mul_ne_zero (by have := p.den_nz; omega) (by have := q.den_nz; omega)
theorem Ht.add {a b : Nat} {p q : Rat} (h : Ht a p) (h' : Ht b q) : Ht (a + b + 1) (p + q) := by
  have := rq_ht (k := a + b + 1) (a := p.num * q.den + q.num * p.den) den0 ((h.n.mul h'.d).add ((h'.n.mul h.d).mono (by omega))) ((h.d.mul h'.d).mono (by omega))
  rw [q_add] at this
  exact this
theorem Ht.mul {a b : Nat} {p q : Rat} (h : Ht a p) (h' : Ht b q) : Ht (a + b) (p * q) := by
  have := rq_ht (k := a + b) (a := p.num * q.num) den0 (h.n.mul h'.n) (h.d.mul h'.d)
  rw [q_by] at this
  exact this
theorem at0 {q : Rat} {R : D → Prop} (h : R (.int q.num)) : ixG (encP q) (.int 0) R := by
  rfl'
  exact ⟨_, rfl, h⟩
theorem at1 {q : Rat} {R : D → Prop} (h : R (.int (q.den : Nat))) : ixG (encP q) (.int 1) R := by
  rfl'
  exact ⟨_, rfl, h⟩
theorem m_lplus {p q : Rat} {a b : Nat} {R : D → Prop} (h : Ht a p) (h' : Ht b q) (hab : a + b ≤ 8000) (hR : R (encP (p + q))) : s_law_plus [encP p, encP q] R := by
  unfold s_law_plus
  rfl'
  refine ⟨_, rfl, _, rfl, ?_⟩
  rfl'
  refine ⟨h.n.cm h'.d (by omega), _, rfl, _, rfl, ?_⟩
  rfl'
  refine ⟨h'.n.cm h.d (by omega), _, rfl, _, rfl, ?_⟩
  rfl'
  refine ⟨h.d.cm h'.d (by omega), m_low den0 (h.d.mul h'.d) (by omega) ?_⟩
  rw [q_add]
  exact hR
theorem m_lby {p q : Rat} {a b : Nat} {R : D → Prop} (h : Ht a p) (h' : Ht b q) (hab : a + b ≤ 8000) (hR : R (encP (p * q))) : s_law_by [encP p, encP q] R := by
  unfold s_law_by
  rfl'
  refine ⟨_, rfl, _, rfl, ?_⟩
  rfl'
  refine ⟨h.n.cm h'.n (by omega), _, rfl, _, rfl, ?_⟩
  rfl'
  refine ⟨h.d.cm h'.d (by omega), m_low den0 (h.d.mul h'.d) (by omega) ?_⟩
  rw [q_by]
  exact hR
theorem iQ_get {l : List Rat} {i : Nat} {a : Rat} (h : l[i]? = some a) : (l.map encP)[i]? = some (encP a) := by
  rw [List.getElem?_map, h]
  rfl
theorem m_ltrim {l : List Rat} {R : D → Prop} (h : R (encPP (trimQ l))) : s_law_trim [encPP l] R := by
  unfold s_law_trim
  rfl'
  refine whC_ind (fun d => ∃ n : Nat, d = .int n ∧ n ≤ l.length ∧ tlen (fun q : Rat => q.num == 0) l n = tlen (fun q : Rat => q.num == 0) l l.length) (fun d => match d with | .int i => i.toNat | _ => 0) _ ⟨l.length, by rw [List.length_map], Nat.le_refl _, rfl⟩ ?_
  rintro d nx ⟨n, rfl, hn, ht⟩ hnx
  rfl'
  cases n with
  | zero =>
    have e : decide ((0 : Int) < ((0 : Nat) : Int)) = false := by decide
    rw [e]
    rfl'
    rw [cut_to, ← List.map_take]
    rw [tlen_0] at ht
    have e2 : trimQ l = l.take 0 := by unfold trimQ trimZ; rw [← ht]
    rw [← e2]
    exact h
  | succ n =>
    have lt : n < l.length := by omega
    have e : decide ((0 : Int) < ((n + 1 : Nat) : Int)) = true := decide_eq_true (by omega)
    rw [e]
    rfl'
    refine ⟨encP l[n], atI_of (j := n) (by omega) (iQ_get (List.getElem?_eq_getElem lt)), ?_⟩
    refine at0 ?_
    rfl'
    rw [tlen_s, List.getElem?_eq_getElem lt] at ht
    dsimp only at ht
    by_cases hz : (l[n].num == 0) = true
    · rw [hz]
      rfl'
      rw [if_pos hz] at ht
      refine hnx _ ⟨n, ?_, by omega, ht⟩ ?_
      · congr 1
        omega
      · show (((n + 1 : Nat) : Int) - 1).toNat < ((n + 1 : Nat) : Int).toNat
        omega
    · rw [if_neg hz] at ht
      rw [Bool.eq_false_iff.mpr hz]
      rfl'
      rw [cut_to, ← List.map_take]
      have e2 : trimQ l = l.take (n + 1) := by unfold trimQ trimZ; rw [← ht]
      rw [← e2]
      exact h
/-- all of k bits -/
def Hs (k : Nat) (p : List Rat) : Prop := ∀ q ∈ p, Ht k q
theorem ht0 {k : Nat} (hk : 0 < k) : Ht k 0 := ⟨Bt.zero, Bt.of 2 (by decide) (Nat.le_trans (by decide) (Nat.pow_le_pow_right (by decide) hk))⟩
theorem Hs.cf {k i : Nat} {p : List Rat} (h : Hs k p) (hk : 0 < k) : Ht k (Ml.cf p i) := by
  unfold Ml.cf
  cases e : p[i]? with
  | none => exact ht0 hk
  | some q => exact h q (List.mem_of_getElem? e)
theorem cf_lt {p : List Rat} {i : Nat} (h : i < p.length) : p[i]? = some (cf p i) := by
  unfold cf
  rw [List.getElem?_eq_getElem h]
  rfl
def tab (n : Nat) (f : Nat → Rat) : List Rat := (List.range n).map f
theorem cf_tab {n k : Nat} {f : Nat → Rat} : cf (tab n f) k = if k < n then f k else 0 := by
  unfold cf tab
  rw [List.getElem?_map]
  by_cases h : k < n
  · rw [List.getElem?_range h, if_pos h]
    rfl
  · rw [List.getElem?_eq_none (by rw [List.length_range]; omega), if_neg h]
    rfl
theorem m_lsum {p q : List Rat} {a b : Nat} {R : D → Prop} (hp : Hs a p) (hq : Hs b q) (ha : 0 < a) (hb : 0 < b) (hab : a + b ≤ 8000) (l1 : p.length ≤ 1000) (l2 : q.length ≤ 1000) (h : R (encPP (padd p q))) : s_law_sum [encPP p, encPP q] R := by
  have main : ∀ {p q : List Rat} {a b : Nat}, Hs a p → Hs b q → 0 < a → 0 < b → a + b ≤ 8000 → p.length ≤ 1000 → q.length ≤ p.length → R (encPP (padd p q)) → range1G [.int ((p.map encP).length : Nat)] fun xs => xs.length ≤ sizeLine ∧ mapD (fun vat => iteM (tst (op2 ltG (rt vat) (opN lenF (lcons (rt (encPP q)) lnil)))) (opN s_law_plus (lcons (op2 ixG (rt (encPP p)) (rt vat)) (lcons (op2 ixG (rt (encPP q)) (rt vat)) lnil))) (op2 ixG (rt (encPP p)) (rt vat))) xs fun ys => s_law_trim [.lst ys] R := by
    intro p q a b hp hq ha hb hab lp lq h
    rfl'
    rw [List.length_map]
    refine ⟨by omega, ?_, mapD_map (φ := fun k => encP (cf p k + cf q k)) (fun k hk R' h' => ?_) ?_⟩
    · rw [List.length_map, List.length_range]
      exact sz (by omega)
    · have hk := List.mem_range.mp hk
      have hk : k < p.length := by omega
      rfl'
      rw [List.length_map]
      by_cases hkq : k < q.length
      · have e : decide (((k : Nat) : Int) < ((q.length : Nat) : Int)) = true := decide_eq_true (by omega)
        rw [e]
        rfl'
        refine ⟨_, atI_of rfl (iQ_get (cf_lt hk)), _, atI_of rfl (iQ_get (cf_lt hkq)), m_lplus (hp.cf ha) (hq.cf hb) hab h'⟩
      · have e : decide (((k : Nat) : Int) < ((q.length : Nat) : Int)) = false := decide_eq_false (by omega)
        rw [e]
        rfl'
        refine ⟨_, atI_of rfl (iQ_get (cf_lt hk)), ?_⟩
        rw [cf_ge (p := q) (by omega), Rat.add_zero] at h'
        exact h'
    · have e : (List.range ((p.length : Nat) : Int).toNat).map (fun k => encP (cf p k + cf q k)) = (tab p.length fun k => cf p k + cf q k).map encP := by
        unfold tab
        rw [List.map_map, Int.toNat_natCast]
        rfl
      rw [e]
      refine m_ltrim ?_
      have e2 : trimQ (tab p.length fun k => cf p k + cf q k) = padd p q := trim_congr fun k => by
        rw [cf_tab, cf_add]
        split
        · rfl
        · rw [cf_ge (p := p) (by omega), cf_ge (p := q) (by omega), Rat.add_zero]
      rw [e2]
      exact h
  unfold s_law_sum
  rfl'
  have e : decide (((q.map encP).length : Int) ≤ ((p.map encP).length : Int)) = decide (q.length ≤ p.length) := by rw [List.length_map, List.length_map]; simp
  rw [e]
  by_cases hl : q.length ≤ p.length
  · rw [decide_eq_true hl]
    rfl'
    exact ⟨sz, main hp hq ha hb hab l1 hl h⟩
  · rw [decide_eq_false hl]
    rfl'
    refine ⟨sz, main hq hp hb ha (by omega) l2 (by omega) ?_⟩
    have e2 : padd q p = padd p q := trim_congr fun k => by rw [cf_add, cf_add, Rat.add_comm]
    rw [e2]
    exact h
theorem m_lscaled {p : List Rat} {c : Rat} {a b : Nat} {R : D → Prop} (hp : Hs a p) (hc : Ht b c) (hab : a + b ≤ 8000) (l1 : p.length ≤ 1000) (h : R (encPP (psm c p))) : s_law_scaled [encPP p, encP c] R := by
  unfold s_law_scaled
  rfl'
  refine ⟨by rw [List.length_map]; exact sz (by omega), mapD_map (φ := fun q => encP (c * q)) (fun q hq R' h' => ?_) ?_⟩
  · refine m_lby (hp q hq) hc hab ?_
    rw [Rat.mul_comm]
    exact h'
  · have e : p.map (fun q => encP (c * q)) = (p.map fun q => c * q).map encP := by rw [List.map_map]; rfl
    rw [e]
    exact m_ltrim h
theorem psm_ht {p : List Rat} {c : Rat} {a b : Nat} (hp : Hs a p) (hc : Ht b c) : Hs (b + a) (psm c p) := fun q hq => by
  obtain ⟨r, hr, rfl⟩ := List.mem_map.mp (mem_trimZ hq)
  exact hc.mul (hp r hr)
theorem m_lless {p q : List Rat} {a b : Nat} {R : D → Prop} (hp : Hs a p) (hq : Hs b q) (ha : 0 < a) (hb : 0 < b) (hab : a + b + 1 ≤ 8000) (l1 : p.length ≤ 1000) (l2 : q.length ≤ 1000) (h : R (encPP (psub p q))) : s_law_less [encPP p, encPP q] R := by
  have h1 : Ht 1 (-1 : Rat) := ⟨show (1 : Nat) < 2 ^ 1 by decide, show (1 : Nat) < 2 ^ 1 by decide⟩
  unfold s_law_less
  rfl'
  refine ⟨sz, ?_⟩
  refine m_lscaled (c := -1) hq h1 (by omega) l2 ?_
  refine m_lsum hp (psm_ht hq h1) ha (by omega) (by omega) l1 (Nat.le_trans trimZ_le (by rw [List.length_map]; omega)) ?_
  have e : padd p (psm (-1) q) = psub p q := trim_congr fun k => by
    rw [cf_add, cf_add, cf_neg, cf_psm]
    grind
  rw [e]
  exact h
theorem m_lworth {p : List Rat} {x : Rat} {a b : Nat} {R : D → Prop} (hp : Hs a p) (hx : Ht b x) (hb : 0 < b) (l1 : p.length ≤ 40) (hab : a + b ≤ 100) (h : R (encP (pev p x))) : s_law_worth [encPP p, encP x] R := by
  unfold s_law_worth
  rfl'
  refine ⟨sz, ?_⟩
  rw [← List.map_reverse]
  refine forC_map (fun ys s => s = encP (pev ys.reverse x) ∧ Ht (ys.length * (a + b + 1) + 1) (pev ys.reverse x)) _ p.reverse ⟨rfl, ht0 (Nat.succ_pos _)⟩ ?_ ?_
  · rintro ys q zs s nx e ⟨rfl, hh⟩ hn
    have mem : q ∈ p := List.mem_reverse.mp (by rw [e]; exact List.mem_append_right _ List.mem_cons_self)
    have ly : ys.length ≤ 40 := by
      have := congrArg List.length e
      rw [List.length_reverse, List.length_append] at this
      omega
    have lb : ys.length * (a + b + 1) ≤ 40 * 101 := Nat.mul_le_mul ly (by omega)
    rfl'
    have hm := hh.mul hx
    refine m_lby hh hx (by omega) (m_lplus hm (hp q mem) (by omega) (hn _ ?_))
    have e2 : pev (ys ++ [q]).reverse x = pev ys.reverse x * x + q := by
      rw [List.reverse_append]
      show q + x * pev ys.reverse x = _
      grind
    rw [e2]
    refine ⟨rfl, (hm.add (hp q mem)).mono ?_⟩
    rw [List.length_append, List.length_singleton, Nat.add_mul]
    omega
  · rintro s ⟨rfl, _⟩
    rw [List.reverse_reverse]
    rfl'
    exact h
theorem m_lderived {p : List Rat} {a : Nat} {R : D → Prop} (hp : Hs a p) (ha : 0 < a) (l1 : p.length ≤ 1000) (hab : a ≤ 7000) (h : R (encPP (pdif p))) : s_law_derived [encPP p] R := by
  unfold s_law_derived
  rfl'
  rw [List.length_map]
  refine ⟨⟨by omega, by omega⟩, ?_, mapD_map (φ := fun k => encP (cf p (k + 1) * ((k + 1 : Nat) : Rat))) (fun k hk R' h' => ?_) ?_⟩
  · rw [List.length_map, List.length_range]
    exact sz (by omega)
  · have hk := List.mem_range.mp hk
    have hk : k + 1 < p.length := by omega
    rfl'
    have e1 : (1 : Int) + ((k : Nat) : Int) = (((k + 1 : Nat) : Rat).num) := by
      rw [Rat.num_natCast]
      omega
    have e2 : (1 : Int) = ((((k + 1 : Nat) : Rat).den : Nat) : Int) := by
      rw [Rat.den_natCast]
      rfl
    have hh : Ht 10 ((k + 1 : Nat) : Rat) := ⟨by rw [← e1]; show (1 + (k : Int)).natAbs < 2 ^ 10; omega, by rw [← e2]; show (1 : Nat) < 2 ^ 10; decide⟩
    refine ⟨_, atI_of (j := k + 1) (by omega) (iQ_get (cf_lt hk)), sz, ?_⟩
    have go := m_lby (R := R') (hp.cf (i := k + 1) ha) hh (by omega) h'
    unfold encP at go ⊢
    rw [← e1, ← e2] at go
    exact go
  · have e : (List.range (((p.length : Nat) : Int) - 1).toNat).map (fun k => encP (cf p (k + 1) * ((k + 1 : Nat) : Rat))) = (tab (p.length - 1) fun k => cf p (k + 1) * ((k + 1 : Nat) : Rat)).map encP := by
      unfold tab
      rw [List.map_map, show (((p.length : Nat) : Int) - 1).toNat = p.length - 1 by omega]
      rfl
    rw [e]
    refine m_ltrim ?_
    have e2 : trimQ (tab (p.length - 1) fun k => cf p (k + 1) * ((k + 1 : Nat) : Rat)) = pdif p := trim_congr fun k => by
      rw [cf_tab, cf_pder]
      split
      · exact Rat.mul_comm _ _
      · rw [cf_ge (p := p) (by omega), Rat.mul_zero]
    rw [e2]
    exact h
theorem m_lratios {p : List Rat} {a : Nat} {R : D → Prop} (hp : Hs a p) (hab : a ≤ 9000) (l1 : p.length ≤ 10000) (h : R (encQ p)) : s_law_ratios [encPP p] R := by
  unfold s_law_ratios
  rfl'
  refine ⟨by rw [List.length_map]; exact sz (by omega), mapD_map (φ := encR) (fun q hq R' h' => ?_) h⟩
  rfl'
  refine ⟨_, rfl, _, rfl, ?_⟩
  refine m_mk (by have := q.den_nz; omega) (hp q hq).d hab ?_
  have e : rq q.num ((q.den : Nat) : Int) = q := Rat.num_divInt_den q
  rw [e]
  exact h'
end Ml
set_option Elab.async false
set_option linter.all false
set_option maxRecDepth 100000
set_option maxHeartbeats 1000000
set_option exponentiation.threshold 20000
namespace Ml
open PySem L2 Inn Uv Sl
theorem enum_at {β : Type} {p : List β} {ys zs : List (β × Nat)} {x : β × Nat} (h : p.zipIdx = ys ++ x :: zs) : x.2 = ys.length ∧ p[ys.length]? = some x.1 := by
  have e : p.zipIdx[ys.length]? = some x := by rw [h, List.getElem?_append_right (Nat.le_refl _), Nat.sub_self]; rfl
  rw [List.getElem?_zipIdx] at e
  cases hp : p[ys.length]? with
  | none => rw [hp] at e; cases e
  | some c =>
    rw [hp] at e
    cases e
    exact ⟨Nat.zero_add _, rfl⟩
theorem enum_P {p : List Rat} : (p.map encP).zipIdx.map (fun x => D.tup [.int (x.2 : Nat), x.1]) = p.zipIdx.map fun x => D.tup [.int (x.2 : Nat), encP x.1] := by
  rw [List.zipIdx_map, List.map_map]
  rfl
def row (p q : List Rat) (i k : Nat) : Rat := if i ≤ k then cf p i * cf q (k - i) else 0
def rows (p q : List Rat) (i k : Nat) : Rat := ((List.range i).map fun t => row p q t k).sum
theorem rows_s {p q : List Rat} {i k : Nat} : rows p q (i + 1) k = rows p q i k + row p q i k := by
  unfold rows
  rw [List.range_succ, List.map_append, sum_app]
  show _ + (row p q i k + 0) = _
  rw [Rat.add_zero]
theorem rows_all {p q : List Rat} {k : Nat} : rows p q p.length k = mulc p (cf q) k := mulc_sum.symm
theorem cf_set {l : List Rat} {a k : Nat} {v : Rat} (h : a < l.length) : cf (l.set a v) k = if k = a then v else cf l k := by
  unfold cf
  by_cases hk : k = a
  · subst hk
    rw [if_pos rfl, List.getElem?_set_self h]
    rfl
  · rw [if_neg hk, List.getElem?_set_ne (fun e => hk e.symm)]
theorem Hs.mono {a b : Nat} {p : List Rat} (h : Hs a p) (hab : a ≤ b) : Hs b p := fun q hq => (h q hq).mono hab
theorem m_ltimes {p q : List Rat} {a b : Nat} {R : D → Prop} (hp : Hs a p) (hq : Hs b q) (ha : 0 < a) (hb : 0 < b) (l1 : p.length ≤ 1000) (l2 : q.length ≤ 1000) (hab : p.length * q.length * (a + b + 1) + a + b ≤ 7000) (h : R (encPP (ptim p q))) : s_law_times [encPP p, encPP q] R := by
  unfold s_law_times
  rfl'
  rw [List.length_map, List.length_map, enum_P, enum_P]
  have em : (if ((p.length : Nat) : Int) + ((q.length : Nat) : Int) - 1 > 0 then ((p.length : Nat) : Int) + ((q.length : Nat) : Int) - 1 else 0) = ((p.length + q.length - 1 : Nat) : Int) := by split <;> omega
  rw [em, Int.toNat_natCast]
  refine ⟨sz, sz, ⟨by omega, by omega, sz (by omega)⟩, ?_⟩
  have e0 : (List.replicate (p.length + q.length - 1) [D.tup [.int 0, .int 1]]).flatten = (List.replicate (p.length + q.length - 1) (0 : Rat)).map encP := by
    rw [List.flatten_replicate_singleton, List.map_replicate]
    rfl
  rw [e0]
  have cz : ∀ n k, cf (List.replicate n (0 : Rat)) k = 0 := by
    intro n k
    unfold cf
    rw [List.getElem?_replicate]
    split <;> rfl
  refine forC_map (fun ys s => ∃ vals : List Rat, s = vals.map encP ∧ vals.length = p.length + q.length - 1 ∧ (∀ k, cf vals k = rows p q ys.length k) ∧ Hs (1 + ys.length * q.length * (a + b + 1)) vals) _ p.zipIdx ⟨_, rfl, List.length_replicate, fun k => cz _ k, ?_⟩ ?_ ?_
  · intro x hx
    rw [(List.mem_replicate.mp hx).2]
    exact ht0 (by omega)
  · rintro ys ⟨c, i⟩ zs s nx e ⟨vals, rfl, lv, hv, hh⟩ hn
    obtain ⟨ei, ec⟩ := enum_at e
    dsimp only at ei ec
    have li := (List.getElem?_eq_some_iff.mp ec).1
    rw [← ei] at hv hh ec li
    have ec2 := cf_get ec
    rfl'
    refine forC_map (fun ys' s => ∃ vals : List Rat, s = vals.map encP ∧ vals.length = p.length + q.length - 1 ∧ (∀ k, cf vals k = rows p q i k + if k < i + ys'.length then row p q i k else 0) ∧ Hs (1 + (i * q.length + ys'.length) * (a + b + 1)) vals) _ q.zipIdx ⟨vals, rfl, lv, fun k => ?_, ?_⟩ ?_ ?_
    · rw [hv k]
      show _ = _ + if k < i + 0 then row p q i k else 0
      by_cases hk : k < i
      · unfold row
        rw [if_pos (by omega), if_neg (by omega), Rat.add_zero]
      · rw [if_neg (by omega), Rat.add_zero]
    · exact hh
    · rintro ys' ⟨d, j⟩ zs' s nx' e' ⟨vals', rfl, lv', hv', hh'⟩ hn'
      obtain ⟨ej, ed⟩ := enum_at e'
      dsimp only at ej ed
      have lj := (List.getElem?_eq_some_iff.mp ed).1
      rw [← ej] at hv' hh' ed lj
      have ed2 := cf_get ed
      have lij : i + j < vals'.length := by omega
      have b1 : i * q.length + j + 1 ≤ p.length * q.length := by
        have : (i + 1) * q.length ≤ p.length * q.length := Nat.mul_le_mul_right _ li
        rw [Nat.add_mul] at this
        omega
      have b2 : (i * q.length + j + 1) * (a + b + 1) ≤ p.length * q.length * (a + b + 1) := Nat.mul_le_mul_right _ b1
      rw [Nat.add_mul (i * q.length + j)] at b2
      have b3 : (i * q.length + (j + 1)) * (a + b + 1) = (i * q.length + j) * (a + b + 1) + (a + b + 1) := by rw [← Nat.add_assoc, Nat.add_mul, Nat.one_mul]
      have mc := hp c (List.mem_of_getElem? ec)
      have md := hq d (List.mem_of_getElem? ed)
      rfl'
      refine ⟨_, atI_of (j := i + j) (by omega) (iQ_get (cf_lt lij)), ?_⟩
      refine m_lby mc md (by omega) ?_
      refine m_lplus (hh'.cf (by omega)) (mc.mul md) (by omega) ?_
      rfl'
      refine ⟨i + j, ?_, hn' _ ⟨vals'.set (i + j) (cf vals' (i + j) + c * d), ?_, ?_, ?_, ?_⟩⟩
      · rw [List.length_map]
        exact ixN_nat lij
      · rw [List.map_set]
      · rw [List.length_set]
        exact lv'
      · intro k
        rw [cf_set lij, List.length_append, List.length_singleton, ← ej]
        by_cases hk : k = i + j
        · subst hk
          rw [if_pos rfl, hv', if_neg (by omega), if_pos (by omega), Rat.add_zero]
          unfold row
          rw [if_pos (by omega), ec2, show i + j - i = j by omega, ed2]
        · rw [if_neg hk, hv']
          by_cases hk2 : k < i + j
          · rw [if_pos hk2, if_pos (by omega)]
          · rw [if_neg hk2, if_neg (by omega)]
      · rw [List.length_append, List.length_singleton, ← ej]
        intro x hx
        rcases List.mem_or_eq_of_mem_set hx with h1 | h1
        · exact (hh' x h1).mono (by rw [b3]; omega)
        · rw [h1]
          exact ((hh'.cf (i := i + j) (by omega)).add (mc.mul md)).mono (by rw [b3]; omega)
    · rintro s ⟨vals', rfl, lv', hv', hh'⟩
      rw [List.length_zipIdx] at hv' hh'
      refine hn _ ⟨vals', rfl, lv', fun k => ?_, ?_⟩
      · rw [List.length_append, List.length_singleton, ← ei, rows_s, hv' k]
        by_cases hk : k < i + q.length
        · rw [if_pos hk]
        · rw [if_neg hk]
          unfold row
          rw [if_pos (by omega), cf_ge (p := q) (by omega), Rat.mul_zero]
      · rw [List.length_append, List.length_singleton, ← ei, Nat.add_mul i 1, Nat.one_mul]
        exact hh'
  · rintro s ⟨vals, rfl, lv, hv, hh⟩
    rw [List.length_zipIdx] at hv
    rfl'
    refine m_ltrim ?_
    have e : trimQ vals = ptim p q := trim_congr fun k => by rw [hv k, rows_all, cf_pmul]
    rw [e]
    exact h
end Ml
set_option Elab.async false
set_option linter.all false
set_option maxRecDepth 100000
set_option maxHeartbeats 1000000
set_option exponentiation.threshold 20000
namespace Ml
open PySem L2 Inn Uv Sl
/-! ### a value that tells the polynomial p, over N, of k bits -/
theorem mulc_ext {p p' : List Rat} {g : Nat → Rat} (h : ∀ k, cf p k = cf p' k) {k : Nat} : mulc p g k = mulc p' g k := by
  have c : ∀ {p : List Rat} {n : Nat}, p.length ≤ n → mulc p g k = ((List.range n).map fun i => if i ≤ k then cf p i * g (k - i) else 0).sum := by
    intro p n hn
    rw [mulc_sum, sum_window (n := n) (lo := 0) (c := p.length) (by omega)]
    · congr 1
      refine List.map_congr_left fun i _ => ?_
      rw [Nat.zero_add]
    · intro i hi ho
      split
      · rw [cf_ge (p := p) (by omega)]
        grind
      · rfl
  rw [c (p := p) (n := p.length + p'.length) (by omega), c (p := p') (n := p.length + p'.length) (by omega)]
  congr 1
  refine List.map_congr_left fun i _ => ?_
  rw [h]
theorem padd_t {p q : List Rat} : padd (trimQ p) (trimQ q) = padd p q := padd_trim
theorem psub_t {p q : List Rat} : psub (trimQ p) (trimQ q) = psub p q := trim_congr fun k => by rw [cf_add, cf_add, cf_neg, cf_neg, cf_trimZ, cf_trimZ]
theorem psm_t {c : Rat} {p : List Rat} : psm c (trimQ p) = psm c p := trim_congr fun k => by rw [cf_smul, cf_smul, cf_trimZ]
theorem ptim_t {p q : List Rat} : ptim (trimQ p) (trimQ q) = ptim p q := trim_congr fun k => by rw [cf_pmul, cf_pmul, mulc_trim]
theorem pdif_t {p : List Rat} : pdif (trimQ p) = pdif p := trim_congr fun k => by rw [cf_pder, cf_pder, cf_trimZ]
structure Pv (N k : Nat) (v : D) (p : List Rat) : Prop where
  ex : ∃ qs, Po N k v qs ∧ trimQ qs = p
section
variable {N k N' k' : Nat} {v v' d : D} {p p' : List Rat} {c x : Rat} {R : D → Prop}
theorem Pv.tr (h : Pv N k v p) : TrQ p := by
  obtain ⟨qs, _, rfl⟩ := h.ex
  exact trQ_trim
theorem Pv.len (h : Pv N k v p) : p.length ≤ 25 := by
  obtain ⟨qs, hp, rfl⟩ := h.ex
  exact Nat.le_trans trimZ_le hp.len
theorem Pv.pl (h : Pv N k v p) : Pl N k p := by
  obtain ⟨qs, hp, rfl⟩ := h.ex
  exact hp.pl.sub fun q hq => mem_trimZ hq
theorem g_told (ok : Ok N k) (hp : Pv N k v p) (h : R (encQ p)) : s_told [v] R := by
  obtain ⟨qs, gp, rfl⟩ := hp.ex
  exact m_told ok gp h
theorem g_degree (ok : Ok N k) (hp : Pv N k v p) (h : R (.int ((p.length : Nat) - 1 : Int))) : s_degree [v] R := by
  obtain ⟨qs, gp, rfl⟩ := hp.ex
  exact m_degree ok gp h
theorem g_plus (ok : Ok N k) (hp : Pv N k v p) (hp' : Pv N k v' p') (h : R (encQ (padd p p'))) : s_plus [v, v'] R := by
  obtain ⟨qs, gp, rfl⟩ := hp.ex
  obtain ⟨qs', gp', rfl⟩ := hp'.ex
  rw [padd_t] at h
  exact m_plus ok gp gp' h
theorem g_minus (ok : Ok N k) (hp : Pv N k v p) (hp' : Pv N k v' p') (h : R (encQ (psub p p'))) : s_minus [v, v'] R := by
  obtain ⟨qs, gp, rfl⟩ := hp.ex
  obtain ⟨qs', gp', rfl⟩ := hp'.ex
  rw [psub_t] at h
  exact m_minus ok gp gp' h
theorem g_scaled (ok : Ok N k) (ok' : Ok N' k') (hp : Pv N k v p) (hd : Nu d c) (hc : Rn N' k' c) (h : R (encQ (psm c p))) : s_scaled [v, d] R := by
  obtain ⟨qs, gp, rfl⟩ := hp.ex
  rw [psm_t] at h
  exact m_scaled ok ok' gp hd hc h
theorem g_times (ok : Ok N k) (ok' : Ok N' k') (hp : Pv N k v p) (hp' : Pv N' k' v' p') (hl : p.length + p'.length ≤ 26) (h : R (encQ (ptim p p'))) : s_times [v, v'] R := by
  obtain ⟨qs, gp, rfl⟩ := hp.ex
  obtain ⟨qs', gp', rfl⟩ := hp'.ex
  rw [ptim_t] at h
  exact m_times ok ok' gp gp' hl h
theorem g_derived (ok : Ok N k) (hp : Pv N k v p) (h : R (encQ (pdif p))) : s_derived [v] R := by
  obtain ⟨qs, gp, rfl⟩ := hp.ex
  rw [pdif_t] at h
  exact m_derived ok gp h
theorem g_worth (ok : Ok N k) (ok' : Ok N' k') (hp : Pv N k v p) (hd : Nu d x) (hx : Rn N' k' x) (hs : k ≤ 100 ∧ N < 2 ^ 100 ∧ k' ≤ 100 ∧ N' < 2 ^ 100) (h : R (encR (pev p x))) : s_worth [v, d] R := by
  obtain ⟨qs, gp, rfl⟩ := hp.ex
  rw [pev_trim] at h
  exact m_worth ok ok' gp hd hx hs h
end
theorem pv_Q {N k : Nat} {p : List Rat} (ht : TrQ p) (hl : p.length ≤ 25) (hp : Pl N k p) : Pv N k (encQ p) p := ⟨p, ⟨⟨_, .l, nus_r⟩, hl, hp⟩, trimZ_of ht⟩
/-! ### how great the numbers are -/
theorem Pl.cf {N k : Nat} {p : List Rat} (h : Pl N k p) (i : Nat) : ∃ a : Int, cf p i = (a : Rat) / (N : Rat) ∧ Bt k a := by
  by_cases hi : i < p.length
  · exact h _ (List.mem_of_getElem? (cf_lt hi))
  · refine ⟨0, ?_, Bt.zero⟩
    rw [cf_ge (by omega), Rat.intCast_zero]
    grind
theorem pl_cf {N k : Nat} {p : List Rat} (h : ∀ i, ∃ a : Int, Ml.cf p i = (a : Rat) / (N : Rat) ∧ Bt k a) : Pl N k p := by
  intro q hq
  obtain ⟨i, hi, rfl⟩ := List.mem_iff_getElem.mp hq
  have := h i
  rw [cf_get (List.getElem?_eq_getElem hi)] at this
  exact this
theorem pl_trim {N k : Nat} {p : List Rat} (h : Pl N k p) : Pl N k (trimQ p) := h.sub fun q hq => mem_trimZ hq
theorem pl_add {N k : Nat} {p q : List Rat} (h : Pl N k p) (h' : Pl N k q) : Pl N (k + 1) (padd p q) := pl_cf fun i => by
  obtain ⟨a, ea, ba⟩ := h.cf i
  obtain ⟨b, eb, bb⟩ := h'.cf i
  refine ⟨a + b, ?_, ba.add bb⟩
  rw [cf_padd, ea, eb, Rat.intCast_add]
  grind
theorem pl_sub {N k : Nat} {p q : List Rat} (h : Pl N k p) (h' : Pl N k q) : Pl N (k + 1) (psub p q) := pl_cf fun i => by
  obtain ⟨a, ea, ba⟩ := h.cf i
  obtain ⟨b, eb, bb⟩ := h'.cf i
  refine ⟨a - b, ?_, ba.sub bb⟩
  rw [cf_psub, ea, eb, Rat.intCast_sub]
  grind
theorem pl_sm {N k N' k' : Nat} {p : List Rat} {c : Rat} (h : Pl N k p) (hc : Rn N' k' c) : Pl (N' * N) (k' + k) (psm c p) := pl_cf fun i => by
  obtain ⟨a, ea, ba⟩ := h.cf i
  obtain ⟨b, eb, bb⟩ := hc.ex
  refine ⟨b * a, ?_, bb.mul ba⟩
  rw [cf_psm, ea, eb, Rat.intCast_mul, Rat.natCast_mul]
  grind
theorem pl_dif {N k m : Nat} {p : List Rat} (h : Pl N k p) (hl : p.length ≤ 2 ^ m) : Pl N (m + k) (pdif p) := pl_cf fun i => by
  by_cases hi : i + 1 < p.length
  · obtain ⟨a, ea, ba⟩ := h.cf (i + 1)
    have bi : Bt m ((i + 1 : Nat) : Int) := by show i + 1 < 2 ^ m; omega
    refine ⟨((i + 1 : Nat) : Int) * a, ?_, bi.mul ba⟩
    rw [cf_pdif, ea, Rat.intCast_mul, Rat.intCast_natCast]
    grind
  · refine ⟨0, ?_, Bt.zero⟩
    rw [cf_pdif, cf_ge (p := p) (by omega), Rat.intCast_zero]
    grind
theorem mulc_over {N k N' k' : Nat} {g : Nat → Rat} (hg : ∀ i, ∃ a : Int, g i = (a : Rat) / (N' : Rat) ∧ Bt k' a) : ∀ {p : List Rat}, Pl N k p → ∀ i, ∃ a : Int, mulc p g i = (a : Rat) / ((N * N' : Nat) : Rat) ∧ a.natAbs ≤ p.length * 2 ^ (k + k')
  | [], _, i => ⟨0, by show (0 : Rat) = _; rw [Rat.intCast_zero]; grind, Nat.zero_le _⟩
  | c :: p, h, i => by
    obtain ⟨a, ea, ba⟩ := h c List.mem_cons_self
    obtain ⟨b, eb, bb⟩ := hg i
    have ih := mulc_over hg (p := p) (h.sub fun q hq => List.mem_cons_of_mem _ hq)
    have e : a.natAbs * b.natAbs < 2 ^ (k + k') := by
      have := ba.mul bb
      unfold Bt at this
      rw [Int.natAbs_mul] at this
      exact this
    cases i with
    | zero =>
      refine ⟨a * b, ?_, ?_⟩
      · show c * g 0 + 0 = _
        rw [ea, eb, Rat.intCast_mul, Rat.natCast_mul]
        grind
      · rw [Int.natAbs_mul, List.length_cons, Nat.succ_mul]
        omega
    | succ i =>
      obtain ⟨d, ed, bd⟩ := ih i
      refine ⟨a * b + d, ?_, ?_⟩
      · show c * g (i + 1) + mulc p g i = _
        rw [ea, eb, ed, Rat.intCast_add, Rat.intCast_mul, Rat.natCast_mul]
        grind
      · rw [List.length_cons, Nat.succ_mul]
        have := Int.natAbs_add_le (a * b) d
        rw [Int.natAbs_mul] at this
        omega
theorem pl_tim {N k N' k' m : Nat} {p q : List Rat} (h : Pl N k p) (h' : Pl N' k' q) (hl : p.length < 2 ^ m) : Pl (N * N') (m + (k + k')) (ptim p q) := pl_cf fun i => by
  obtain ⟨a, ea, ba⟩ := mulc_over (fun i => h'.cf i) h i
  refine ⟨a, by rw [cf_ptim]; exact ea, ?_⟩
  show a.natAbs < _
  rw [Nat.pow_add]
  exact Nat.lt_of_le_of_lt ba (Nat.mul_lt_mul_of_lt_of_le hl (Nat.le_refl _) (Nat.pow_pos (by decide)))
theorem padd_len {p q : List Rat} : (padd p q).length ≤ max p.length q.length := by
  refine Nat.le_trans trimZ_le ?_
  rw [zipL_len]
  exact Nat.le_refl _
theorem psub_len {p q : List Rat} : (psub p q).length ≤ max p.length q.length := by
  refine Nat.le_trans trimZ_le ?_
  rw [zipL_len, List.length_map]
  exact Nat.le_refl _
theorem psm_len {p : List Rat} {c : Rat} : (psm c p).length ≤ p.length := by
  refine Nat.le_trans trimZ_le ?_
  rw [List.length_map]
  exact Nat.le_refl _
theorem len_of {p : List Rat} {n : Nat} (ht : TrQ p) (h : ∀ k, n ≤ k → cf p k = 0) : p.length ≤ n := by
  by_cases e : p = []
  · rw [e]; exact Nat.zero_le _
  · have l := List.length_pos_iff.mpr e
    by_cases hn : p.length ≤ n
    · exact hn
    · exact absurd (h _ (by omega)) (ht.last e)
theorem pdif_len {p : List Rat} : (pdif p).length ≤ p.length - 1 := len_of trQ_trim fun k hk => by
  rw [cf_pdif, cf_ge (p := p) (by omega), Rat.mul_zero]
theorem ptim_len {p q : List Rat} : (ptim p q).length ≤ p.length + q.length - 1 := len_of trQ_trim fun k hk => by
  rw [cf_ptim, mulc_ge (by omega)]
theorem Pl.hs {N k m : Nat} {p : List Rat} (h : Pl N k p) (h0 : N ≠ 0) (hN : N < 2 ^ m) (hk : k ≤ m) : Hs m p := fun q hq => ⟨((h.num h0) q hq).mono hk, Nat.lt_of_le_of_lt (le_n h0 (h.den h0 q hq)) hN⟩
theorem Rn.ht {N k m : Nat} {q : Rat} (h : Rn N k q) (h0 : N ≠ 0) (hN : N < 2 ^ m) (hk : k ≤ m) : Ht m q := ⟨(h.num h0).mono hk, Nat.lt_of_le_of_lt (le_n h0 (h.den h0)) hN⟩
theorem Hs.sn {m : Nat} {p : List Rat} (h : Hs m p) (hm : m ≤ 1000) : ∀ q ∈ p, Sn q := fun q hq => ⟨(h q hq).n.mono hm, (h q hq).d.mono hm⟩
theorem Ht.sn {m : Nat} {q : Rat} (h : Ht m q) (hm : m ≤ 1000) : Sn q := ⟨h.n.mono hm, h.d.mono hm⟩
/-! ### the rule of products -/
theorem mulc_add {g : Nat → Rat} : ∀ {p q : List Rat} {k : Nat}, mulc (zipL (· + ·) p q) g k = mulc p g k + mulc q g k
  | [], q, k => by show mulc q g k = 0 + mulc q g k; rw [Rat.zero_add]
  | a :: p, [], k => by show mulc (a :: p) g k = mulc (a :: p) g k + 0; rw [Rat.add_zero]
  | a :: p, b :: q, k => by
    show (a + b) * g k + shift (mulc (zipL (· + ·) p q) g) k = (a * g k + shift (mulc p g) k) + (b * g k + shift (mulc q g) k)
    rw [shift_congr (fun k => mulc_add (p := p) (q := q) (k := k)), shift_add]
    grind
theorem mulc_rule {g : Nat → Rat} : ∀ {p : List Rat} {k : Nat}, ((k + 1 : Nat) : Rat) * mulc p g (k + 1) = mulc (pder p) g k + mulc p (fun j => ((j + 1 : Nat) : Rat) * g (j + 1)) k
  | [], k => by
    show ((k + 1 : Nat) : Rat) * 0 = 0 + 0
    rw [Rat.mul_zero, Rat.add_zero]
  | a :: p, k => by
    have e : mulc (pder (a :: p)) g k = mulc (zipL (· + ·) p (0 :: pder p)) g k := mulc_ext fun k => by
      rw [cf_pder, cf_s, cf_add]
      cases k with
      | zero => rw [cf_0, Rat.add_zero]; show ((0 + 1 : Nat) : Rat) * cf p 0 = _; grind
      | succ k => rw [cf_s, cf_pder]; grind
    rw [e, mulc_add]
    show ((k + 1 : Nat) : Rat) * (a * g (k + 1) + mulc p g k) = (mulc p g k + (0 * g k + shift (mulc (pder p) g) k)) + (a * (((k + 1 : Nat) : Rat) * g (k + 1)) + shift (mulc p fun j => ((j + 1 : Nat) : Rat) * g (j + 1)) k)
    cases k with
    | zero =>
      show _ = (mulc p g 0 + (0 * g 0 + 0)) + (a * (((0 + 1 : Nat) : Rat) * g (0 + 1)) + 0)
      grind
    | succ k =>
      have ih := mulc_rule (g := g) (p := p) (k := k)
      show _ = (mulc p g (k + 1) + (0 * g (k + 1) + mulc (pder p) g k)) + (a * (((k + 1 + 1 : Nat) : Rat) * g (k + 1 + 1)) + mulc p (fun j => ((j + 1 : Nat) : Rat) * g (j + 1)) k)
      generalize mulc (pder p) g k = u at *
      generalize mulc p (fun j => ((j + 1 : Nat) : Rat) * g (j + 1)) k = w at *
      generalize mulc p g (k + 1) = z at *
      have e3 : ((k + 1 + 1 : Nat) : Rat) = ((k + 1 : Nat) : Rat) + 1 := by rw [Rat.natCast_add (k + 1) 1]; rfl
      rw [e3]
      grind
theorem product_rule {p q : List Rat} : pdif (ptim p q) = padd (ptim (pdif p) q) (ptim p (pdif q)) := trim_congr fun k => by
  rw [cf_pder, cf_add, cf_ptim, cf_ptim, cf_ptim, mulc_rule, mulc_ext (p := pdif p) (p' := pder p) fun k => cf_trimZ, mulc_congr (g := cf (pdif q)) fun k => cf_pdif]
end Ml
set_option Elab.async false
set_option linter.all false
set_option maxRecDepth 100000
set_option maxHeartbeats 1000000
set_option exponentiation.threshold 20000
namespace Ml
open PySem L2 Inn Uv Sl
instance {k : Nat} {i : Int} : Decidable (Bt k i) := inferInstanceAs (Decidable (_ < _))
theorem encP_lit {q : Rat} {a : Int} {b : Nat} (h1 : q.num = a) (h2 : q.den = b) : encP q = .tup [.int a, .int (b : Nat)] := by rw [encP, h1, h2]
theorem encR_lit {q : Rat} {a : Int} {b : Nat} (h1 : q.num = a) (h2 : q.den = b) : encR q = .ins 0 [.int a, .int (b : Nat)] := by rw [encR, h1, h2]
/-! ### draws -/
theorem m_draw {a : Addr} {n : Int} {R : D → Prop} (h0 : 0 < n) (h1 : n ≤ 2 ^ 20) (h : ∀ i : Nat, (i : Int) < n → R (.int i)) : s_law_draw [.pot a, .int n] R :=
  ⟨h0, h1, fun i i0 i1 => by
    obtain ⟨k, rfl⟩ := Int.eq_ofNat_of_zero_le i0
    exact h k i1⟩
theorem m_pick {a : Addr} {xs : List D} {R : D → Prop} (h0 : 0 < xs.length) (h1 : xs.length ≤ 10000) (h : ∀ x ∈ xs, R x) : s_law_pick [.pot a, .lst xs] R := by
  unfold s_law_pick
  rfl'
  refine m_draw (by omega) (by omega) fun i hi => ?_
  have hi : i < xs.length := by omega
  rfl'
  exact ⟨xs[i], atI_of rfl (List.getElem?_eq_getElem hi), h _ (List.getElem_mem hi)⟩
/-- a number of the law: over 6, of 5 bits -/
abbrev Lq (q : Rat) : Prop := Rn 6 5 q
theorem lq_of {i b : Int} {e : Nat} (hd : b * (e : Int) = 6) (hi : i.natAbs * e < 32) : Lq (rq i b) := by
  refine ⟨i * e, ?_, ?_⟩
  · rw [rq_eq]
    have h6 : ((6 : Nat) : Rat) = (b : Rat) * (e : Rat) := by
      rw [← Rat.intCast_natCast e, ← Rat.intCast_mul, hd]
      rfl
    have b0 : (b : Rat) ≠ 0 := fun z => by
      rw [z, Rat.zero_mul] at h6
      exact absurd h6 (by decide)
    have e0 : (e : Rat) ≠ 0 := fun z => by
      rw [z, Rat.mul_zero] at h6
      exact absurd h6 (by decide)
    rw [h6, Rat.intCast_mul, Rat.intCast_natCast]
    grind
  · show (i * (e : Int)).natAbs < 2 ^ 5
    rw [Int.natAbs_mul]
    exact hi
theorem m_number {a : Addr} {m : Int} {R : D → Prop} (h0 : 0 ≤ m) (h1 : m ≤ 4) (h : ∀ q, Lq q → R (encP q)) : s_law_number [.pot a, .int m] R := by
  unfold s_law_number
  rfl'
  refine ⟨Bt.cm (a := 3) (b := 3) (by decide) (by show m.natAbs < 2 ^ 3; omega) (by decide), m_draw (by omega) (by omega) fun i hi => ?_⟩
  rfl'
  refine ⟨sz, m_pick (by decide) (by decide) fun x hx => ?_⟩
  simp only [List.mem_cons, List.not_mem_nil, or_false] at hx
  have two : x = D.int 1 ∨ x = D.int 2 ∨ x = D.int 3 := by
    rcases hx with h | h | h | h | h
    · exact .inl h
    · exact .inl h
    · exact .inl h
    · exact .inr (.inl h)
    · exact .inr (.inr h)
  rcases two with rfl | rfl | rfl
  · exact m_low (k := 2) (by decide) (by decide) (by decide) (h _ (lq_of (e := 6) (by decide) (by omega)))
  · exact m_low (k := 2) (by decide) (by decide) (by decide) (h _ (lq_of (e := 3) (by decide) (by omega)))
  · exact m_low (k := 2) (by decide) (by decide) (by decide) (h _ (lq_of (e := 2) (by decide) (by omega)))
/-- a polynomial of the law -/
structure Lp (n : Nat) (p : List Rat) : Prop where
  t : TrQ p
  l : p.length ≤ n
  q : ∀ q ∈ p, Lq q
theorem Lp.mono {n m : Nat} {p : List Rat} (h : Lp n p) (hm : n ≤ m) : Lp m p := ⟨h.t, Nat.le_trans h.l hm, h.q⟩
theorem Lp.pl {n : Nat} {p : List Rat} (h : Lp n p) : Pl 6 5 p := fun q hq => (h.q q hq).ex
theorem lq0 : Lq 0 := ⟨0, by decide +kernel, Bt.zero⟩
theorem lp_trim {n : Nat} {p : List Rat} (hl : p.length ≤ n) (h : ∀ q ∈ p, Lq q) : Lp n (trimQ p) := ⟨trQ_trim, Nat.le_trans trimZ_le hl, fun q hq => h q (mem_trimZ hq)⟩
theorem m_lpoly {a : Addr} {n : Int} {m : Nat} {R : D → Prop} (hm : n = m) (h1 : m ≤ 20) (h : ∀ p, Lp m p → R (encPP p)) : s_law_poly [.pot a, .int n] R := by
  subst hm
  unfold s_law_poly
  rfl'
  refine ⟨sz, m_draw (by omega) (by omega) fun k hk => ?_⟩
  rfl'
  refine ⟨⟨by omega, by omega⟩, ?_⟩
  refine forC_map (fun ys s => ∃ p : List Rat, s = p.map encP ∧ p.length = ys.length ∧ ∀ q ∈ p, Lq q) _ (List.range ((k : Nat) : Int).toNat) ⟨[], rfl, rfl, fun _ h => nomatch h⟩ ?_ ?_
  · rintro ys x zs s nx e ⟨p, rfl, lp, hp⟩ hn
    have ly : ys.length ≤ 20 := by
      have := congrArg List.length e
      rw [List.length_range, List.length_append] at this
      omega
    have go : ∀ q, Lq q → (p.map encP).length < sizeLine ∧ nx (p.map encP ++ [encP q]) := fun q hq => ⟨by rw [List.length_map]; exact Nat.lt_of_lt_of_le (show p.length < 100 by omega) (sz (n := 100)), hn _ ⟨p ++ [q], by rw [List.map_append]; rfl, by rw [List.length_append, List.length_append, lp]; rfl, fun r hr => (List.mem_append.mp hr).elim (hp r) fun h => by rw [List.mem_singleton.mp h]; exact hq⟩⟩
    rfl'
    refine m_draw (by decide) (by decide) fun i hi => ?_
    rfl'
    cases decide ((0 : Int) < (i : Int)) with
    | true =>
      rfl'
      exact m_number (by decide) (by decide) go
    | false =>
      rfl'
      exact ⟨sz, go 0 lq0⟩
  · rintro s ⟨p, rfl, lp, hp⟩
    rfl'
    refine m_ltrim (h _ (lp_trim ?_ hp))
    rw [List.length_range] at lp
    omega
theorem trQ_app {p : List Rat} {c : Rat} (hc : c ≠ 0) : TrQ (p ++ [c]) := fun a e => by
  rw [List.getLast?_concat] at e
  cases e
  dsimp only
  rw [q_eq0]
  exact decide_eq_false hc
theorem m_lstand {a : Addr} {n : Int} {m : Nat} {R : D → Prop} (hm : n = m) (h0 : 0 < m) (h1 : m ≤ 20) (h : ∀ p, Lp m p → p ≠ [] → R (encPP p)) : s_law_standing [.pot a, .int n] R := by
  subst hm
  unfold s_law_standing
  rfl'
  refine m_lpoly (m := m - 1) (by omega) (by omega) fun p hp => ?_
  have lp := hp.l
  have go : ∀ q, Lq q → q ≠ 0 → R (.lst (p.map encP ++ [encP q])) := fun q hq h0 => by
    have e : p.map encP ++ [encP q] = (p ++ [q]).map encP := by rw [List.map_append]; rfl
    rw [e]
    refine h _ ⟨trQ_app h0, ?_, fun r hr => (List.mem_append.mp hr).elim (hp.q r) fun h => by rw [List.mem_singleton.mp h]; exact hq⟩ (by simp)
    rw [List.length_append, List.length_singleton]
    omega
  refine ⟨sz, sz, sz, sz, sz, m_pick (by decide) (by decide) fun x hx => ⟨sz, ?_⟩⟩
  simp only [List.mem_cons, List.not_mem_nil, or_false] at hx
  rcases hx with rfl | rfl | rfl | rfl
  · rfl'
    exact ⟨by rw [List.length_map]; exact sz (by omega), go 1 ⟨6, by decide +kernel, by decide⟩ (by decide +kernel)⟩
  · rfl'
    exact ⟨by rw [List.length_map]; exact sz (by omega), go (-1) ⟨-6, by decide +kernel, by decide⟩ (by decide +kernel)⟩
  · rfl'
    exact ⟨by rw [List.length_map]; exact sz (by omega), go 2 ⟨12, by decide +kernel, by decide⟩ (by decide +kernel)⟩
  · rfl'
    refine ⟨by rw [List.length_map]; exact sz (by omega), ?_⟩
    have := go (rq (-3) 2) ⟨-9, by decide +kernel, by decide⟩ (by decide +kernel)
    rw [encP_lit (a := -3) (b := 2) (by decide +kernel) (by decide +kernel)] at this
    exact this
/-! ### what is handed over -/
/-- p handed over: numbers, noughts behind -/
structure Gv (p : List Rat) (v : D) : Prop where
  ex : ∃ (ds : List D) (j : Nat), Sq v ds ∧ Nus ds (p ++ List.replicate j 0) ∧ j ≤ 2
theorem cf_rep {n k : Nat} : cf (List.replicate n 0) k = 0 := by
  unfold cf
  rw [List.getElem?_replicate]
  split <;> rfl
theorem cf_app0 {p : List Rat} {j k : Nat} : cf (p ++ List.replicate j 0) k = cf p k := by
  unfold cf
  by_cases h : k < p.length
  · rw [List.getElem?_append_left h]
  · rw [List.getElem?_append_right (by omega), List.getElem?_replicate, List.getElem?_eq_none (by omega)]
    split <;> rfl
theorem Gv.pv {p : List Rat} {v : D} {N k n : Nat} (h : Gv p v) (ht : TrQ p) (hp : Pl N k p) (hl : p.length ≤ n) (hn : n ≤ 20) : Pv N k v p := by
  obtain ⟨ds, j, hs, hd, hj⟩ := h.ex
  refine ⟨p ++ List.replicate j 0, ⟨⟨ds, hs, hd⟩, by rw [List.length_append, List.length_replicate]; omega, hp.app fun q hq => ?_⟩, ?_⟩
  · rw [(List.mem_replicate.mp hq).2]
    refine ⟨0, ?_, Bt.zero⟩
    rw [Rat.intCast_zero]
    grind
  · exact (to_trim ht fun k => cf_app0.symm).symm
theorem nu_tl {d : D} {q : Rat} {n : Nat} (h : Nu d q) (hs : Sn q) : Tl n d 2020 := by
  cases h with
  | int h => exact (tl_int hs.n).mono (by decide)
  | rat => exact tl_rat hs
theorem nus_tl {n : Nat} : ∀ {ds : List D} {qs : List Rat}, Nus ds qs → (∀ q ∈ qs, Sn q) → ∀ d ∈ ds, Tl n d 2020
  | _, _, .cons h t, hs, d, hd => by
    rcases List.mem_cons.mp hd with rfl | hd
    · exact nu_tl h (hs _ List.mem_cons_self)
    · exact nus_tl t (fun q hq => hs q (List.mem_cons_of_mem _ hq)) d hd
theorem sn0 : Sn 0 := ⟨Bt.zero, by show (1 : Nat) < 2 ^ 1000; exact Nat.lt_of_lt_of_le (by decide : 1 < 2 ^ 1) (Nat.pow_le_pow_right (by decide) (by decide))⟩
theorem Gv.tl {p : List Rat} {v : D} {n : Nat} (h : Gv p v) (hs : ∀ q ∈ p, Sn q) (hl : p.length ≤ 28) : Tl (n + 1) v (30 * 2022 + 3) := by
  obtain ⟨ds, j, hq, hd, hj⟩ := h.ex
  have hd2 := nus_tl (n := n) hd fun q hq => (List.mem_append.mp hq).elim (hs q) fun h => by rw [(List.mem_replicate.mp h).2]; exact sn0
  have ll : ds.length ≤ 30 := by
    rw [hd.len, List.length_append, List.length_replicate]
    omega
  cases hq with
  | l => exact tl_lst hd2 ll
  | t => exact tl_tup hd2 ll
theorem den_eq {q : Rat} : (((q.den : Nat) : Int) == 1) = decide (q.den = 1) := by
  rw [Bool.eq_iff_iff, beq_iff_eq, decide_eq_true_eq]
  omega
theorem m_handed {a : Addr} {q : Rat} {k : Nat} {R : D → Prop} (hq : Bt k ((q.den : Nat) : Int)) (hk : k ≤ 9000) (h : ∀ d, Nu d q → R d) : s_law_handed [.pot a, encP q] R := by
  have rat : mkM 0 s_Ratio_init [] [.int q.num, .int (q.den : Nat)] R := m_mk (by have := q.den_nz; omega) hq hk (by
    have e : rq q.num ((q.den : Nat) : Int) = q := Rat.num_divInt_den q
    rw [e]
    exact h _ .rat)
  unfold s_law_handed
  rfl'
  refine ⟨_, rfl, ?_⟩
  rfl'
  rw [den_eq]
  by_cases hd : q.den = 1
  · rw [decide_eq_true hd]
    rfl'
    refine m_draw (by decide) (by decide) fun i hi => ?_
    rfl'
    cases ((i : Int) == 0) with
    | true =>
      rfl'
      exact ⟨_, rfl, h _ (.int hd)⟩
    | false =>
      rfl'
      exact ⟨_, rfl, _, rfl, rat⟩
  · rw [decide_eq_false hd]
    rfl'
    exact ⟨_, rfl, _, rfl, rat⟩
theorem mapD_any {β : Type} {f : D → M D} {e : β → D} {Q : D → β → Prop} : ∀ {xs : List β} {R : List D → Prop}, (∀ x ∈ xs, ∀ R' : D → Prop, (∀ y, Q y x → R' y) → f (e x) R') → (∀ ys, All2 Q ys xs → R ys) → mapD f (xs.map e) R
  | [], _, _, h => h [] .nil
  | x :: xs, R, hf, h => hf x List.mem_cons_self _ fun y hy => mapD_any (xs := xs) (fun x hx => hf x (List.mem_cons_of_mem _ hx)) fun ys hys => h (y :: ys) (.cons hy hys)
theorem nu0 : Nu (.int 0) 0 := .int (q := 0) rfl
theorem nus_rep : ∀ j : Nat, Nus (List.replicate j [D.int 0]).flatten (List.replicate j 0)
  | 0 => .nil
  | j + 1 => .cons nu0 (nus_rep j)
theorem m_given {a : Addr} {p : List Rat} {k : Nat} {R : D → Prop} (hp : Hs k p) (hk : k ≤ 9000) (hl : p.length ≤ 1000) (h : ∀ v, Gv p v → R v) : s_law_given [.pot a, encPP p] R := by
  unfold s_law_given
  rfl'
  refine ⟨by rw [List.length_map]; exact sz (by omega), mapD_any (Q := Nu) (fun q hq R' h' => ?_) fun ds hd => ?_⟩
  · have go := m_handed (a := a) (R := R') (hp q hq).d hk h'
    unfold s_law_handed at go
    exact go
  · rfl'
    refine ⟨sz, sz, m_pick (by decide) (by decide) fun x hx => ?_⟩
    obtain ⟨j, rfl, hj⟩ : ∃ j : Nat, x = D.int j ∧ j ≤ 2 := by
      simp only [List.mem_cons, List.not_mem_nil, or_false] at hx
      rcases hx with rfl | rfl | rfl | rfl
      · exact ⟨0, rfl, by decide⟩
      · exact ⟨0, rfl, by decide⟩
      · exact ⟨1, rfl, by decide⟩
      · exact ⟨2, rfl, by decide⟩
    rfl'
    have ll := hd.len
    have lf : (List.replicate ((j : Nat) : Int).toNat [D.int 0]).flatten.length = j := by simp
    refine ⟨⟨by omega, by omega, sz (by omega)⟩, sz (by omega), m_draw (by decide) (by decide) fun i hi => ?_⟩
    have e : ((j : Nat) : Int).toNat = j := Int.toNat_natCast j
    rw [e]
    have gv := all2_app hd (nus_rep j)
    rfl'
    cases ((i : Int) == 0) with
    | true =>
      rfl'
      exact h _ ⟨_, j, .t, gv, hj⟩
    | false =>
      rfl'
      exact h _ ⟨_, j, .l, gv, hj⟩
end Ml
set_option Elab.async false
set_option linter.all false
set_option maxRecDepth 100000
set_option maxHeartbeats 1000000
set_option exponentiation.threshold 20000
namespace Ml
open PySem L2 Inn Uv Sl
/-! ### polynomials are told by their worths -/
/-- divided by t less a, without the rest -/
def sdiv (a : Rat) : List Rat → List Rat
  | [] => []
  | _ :: p => pev p a :: sdiv a p
theorem pev_sdiv {a x : Rat} : ∀ {p : List Rat}, pev p x - pev p a = (x - a) * pev (sdiv a p) x
  | [] => by show (0 : Rat) - 0 = (x - a) * 0; grind
  | c :: p => by
    have ih := pev_sdiv (a := a) (x := x) (p := p)
    show (c + x * pev p x) - (c + a * pev p a) = (x - a) * (pev p a + x * pev (sdiv a p) x)
    grind
theorem cf_sdiv {a : Rat} : ∀ {p : List Rat} {k : Nat}, cf p k = (match k with | 0 => pev p a | j + 1 => cf (sdiv a p) j) - a * cf (sdiv a p) k
  | [], 0 => by rw [cf_nil]; show (0 : Rat) = 0 - a * cf [] 0; rw [cf_nil]; grind
  | [], k + 1 => by rw [cf_nil]; show (0 : Rat) = cf [] k - a * cf [] (k + 1); rw [cf_nil, cf_nil]; grind
  | c :: p, 0 => by
    rw [cf_0]
    show c = (c + a * pev p a) - a * cf (pev p a :: sdiv a p) 0
    rw [cf_0]
    grind
  | c :: p, k + 1 => by
    rw [cf_s]
    show cf p k = cf (pev p a :: sdiv a p) k - a * cf (pev p a :: sdiv a p) (k + 1)
    rw [cf_s, cf_sdiv (a := a) (p := p) (k := k)]
    cases k with
    | zero => rw [cf_0]
    | succ k => rw [cf_s]
theorem sdiv_top {a : Rat} : ∀ {p : List Rat} {k : Nat}, p.length ≤ k + 1 → cf (sdiv a p) k = 0
  | [], k, _ => cf_nil
  | c :: p, 0, h => by
    show cf (pev p a :: sdiv a p) 0 = 0
    rw [cf_0, List.length_eq_zero_iff.mp (show p.length = 0 by rw [List.length_cons] at h; omega)]
    rfl
  | c :: p, k + 1, h => by
    show cf (pev p a :: sdiv a p) (k + 1) = 0
    rw [cf_s]
    exact sdiv_top (by rw [List.length_cons] at h; omega)
/-- no polynomial but nought has so many roots -/
theorem vanish : ∀ {xs : List Rat} {p : List Rat}, xs.Nodup → p.length ≤ xs.length → (∀ x ∈ xs, pev p x = 0) → ∀ k, cf p k = 0
  | [], p, _, hl, _, k => by
    rw [List.length_eq_zero_iff.mp (Nat.le_zero.mp hl)]
    exact cf_nil
  | a :: xs, p, nd, hl, h, k => by
    have nd' := List.nodup_cons.mp nd
    have ha : pev p a = 0 := h a List.mem_cons_self
    have q0 := vanish (xs := xs) (p := trimQ (sdiv a p)) nd'.2 (len_of trQ_trim fun k hk => by
      rw [cf_trimZ]
      rw [List.length_cons] at hl
      exact sdiv_top (by omega)) fun x hx => by
      rw [pev_trim]
      have hx0 := h x (List.mem_cons_of_mem _ hx)
      have e := pev_sdiv (a := a) (x := x) (p := p)
      rw [hx0, ha] at e
      have ne : x - a ≠ 0 := fun z => nd'.1 (by rw [show a = x by grind]; exact hx)
      grind
    have q1 : ∀ k, cf (sdiv a p) k = 0 := fun k => by rw [← cf_trimZ]; exact q0 k
    rw [cf_sdiv (a := a), q1 k]
    cases k with
    | zero => show pev p a - a * 0 = 0; rw [ha]; grind
    | succ k => show cf (sdiv a p) k - a * 0 = 0; rw [q1]; grind
theorem nodup_nat (n : Nat) : ((List.range n).map fun i => ((i : Nat) : Rat)).Nodup := by
  refine List.Pairwise.map _ (R := fun a b : Nat => a ≠ b) (fun a b h e => h (by exact_mod_cast e)) ?_
  exact List.nodup_range
theorem pev_neg {p : List Rat} {x : Rat} : pev (p.map fun q => -q) x = -pev p x := by
  have e : p.map (fun q => -q) = p.map fun q => (-1) * q := List.map_congr_left fun q _ => by grind
  rw [e, pev_smul]
  grind
theorem cf_of_pev {p q : List Rat} (h : ∀ x, pev p x = pev q x) : ∀ k, cf p k = cf q k := by
  have z := vanish (xs := (List.range (max p.length q.length)).map fun i => ((i : Nat) : Rat)) (p := zipL (· + ·) p (q.map fun x => -x)) (nodup_nat _) (by rw [zipL_len, List.length_map, List.length_map, List.length_range]; exact Nat.le_refl _) fun x _ => by
    rw [pev_add, pev_neg, h x]
    grind
  intro k
  have := z k
  rw [cf_add, cf_neg] at this
  grind
theorem pev_ext {p q : List Rat} (hp : TrQ p) (hq : TrQ q) (h : ∀ x, pev p x = pev q x) : p = q := poly_ext hp hq (cf_of_pev h)
theorem pev_padd {p q : List Rat} {x : Rat} : pev (padd p q) x = pev p x + pev q x := by rw [pev_trim, pev_add]
theorem pev_psub {p q : List Rat} {x : Rat} : pev (psub p q) x = pev p x - pev q x := by rw [pev_trim, pev_add, pev_neg, Rat.sub_eq_add_neg]
theorem pev_psm {p : List Rat} {c x : Rat} : pev (psm c p) x = c * pev p x := by rw [pev_trim, pev_smul]
theorem pev_tim {p q : List Rat} {x : Rat} : pev (ptim p q) x = pev p x * pev q x := by rw [pev_trim, pev_pmul]
theorem pev_one {c x : Rat} : pev [c] x = c := by show c + x * 0 = c; grind
/-! ### one put in another one -/
def pput : List Rat → List Rat → List Rat
  | [], _ => []
  | a :: p, q => padd (ptim (pput p q) q) (trimQ [a])
theorem pput_tr {q : List Rat} : ∀ {p : List Rat}, TrQ (pput p q)
  | [] => fun a e => nomatch e
  | _ :: _ => trQ_trim
theorem pev_put {q : List Rat} {x : Rat} : ∀ {p : List Rat}, pev (pput p q) x = pev p (pev q x)
  | [] => rfl
  | a :: p => by
    show pev (padd (ptim (pput p q) q) (trimQ [a])) x = a + pev q x * pev p (pev q x)
    rw [pev_padd, pev_tim, pev_trim, pev_one, pev_put]
    grind
theorem put_eq {p q r : List Rat} (hr : TrQ r) (h : ∀ x, pev r x = pev p (pev q x)) : r = pput p q := pev_ext hr pput_tr fun x => by rw [pev_put]; exact h x
theorem pder_cons {a : Rat} {p : List Rat} {x : Rat} : pev (pder (a :: p)) x = pev p x + x * pev (pder p) x := by
  have e : ∀ k, cf (pder (a :: p)) k = cf (zipL (· + ·) p (0 :: pder p)) k := fun k => by
    rw [cf_pder, cf_s, cf_add]
    cases k with
    | zero => rw [cf_0, Rat.add_zero]; show ((0 + 1 : Nat) : Rat) * cf p 0 = _; grind
    | succ k =>
      rw [cf_s, cf_pder]
      have e3 : ((k + 1 + 1 : Nat) : Rat) = ((k + 1 : Nat) : Rat) + 1 := by rw [Rat.natCast_add (k + 1) 1]; rfl
      rw [e3]
      grind
  rw [pev_congr e, pev_add]
  show pev p x + (0 + x * pev (pder p) x) = _
  grind
theorem pev_dif {p : List Rat} {x : Rat} : pev (pdif p) x = pev (pder p) x := pev_trim
theorem pev_dif_congr {p q : List Rat} (h : ∀ k, cf p k = cf q k) {x : Rat} : pev (pder p) x = pev (pder q) x := pev_congr fun k => by rw [cf_pder, cf_pder, h]
theorem pev_dif_add {p q : List Rat} {x : Rat} : pev (pder (padd p q)) x = pev (pder p) x + pev (pder q) x := by
  have e : ∀ k, cf (pder (padd p q)) k = cf (padd (pder p) (pder q)) k := fun k => by
    rw [cf_pder, cf_padd, cf_padd, cf_pder, cf_pder]
    grind
  rw [pev_congr e, pev_padd]
theorem pev_dif_tim {p q : List Rat} {x : Rat} : pev (pder (ptim p q)) x = pev (pder p) x * pev q x + pev p x * pev (pder q) x := by
  rw [← pev_dif, product_rule, pev_padd, pev_tim, pev_tim, pev_dif, pev_dif]
theorem pev_chain {q : List Rat} {x : Rat} : ∀ {p : List Rat}, pev (pder (pput p q)) x = pev (pder p) (pev q x) * pev (pder q) x
  | [] => by show (0 : Rat) = 0 * _; grind
  | a :: p => by
    show pev (pder (padd (ptim (pput p q) q) (trimQ [a]))) x = _
    rw [pev_dif_add, pev_dif_tim, pder_cons, pev_chain, pev_put]
    have e : pev (pder (trimQ [a])) x = 0 := by
      rw [pev_dif_congr (q := [a]) fun k => cf_trimZ]
      rfl
    rw [e]
    grind
theorem chain_rule {p q : List Rat} : pdif (pput p q) = ptim (pput (pdif p) q) (pdif q) := pev_ext trQ_trim trQ_trim fun x => by
  rw [pev_dif, pev_tim, pev_chain, pev_put, pev_dif, pev_dif]
theorem put_put {p q r : List Rat} : pput (pput p q) r = pput p (pput q r) := pev_ext pput_tr pput_tr fun x => by rw [pev_put, pev_put, pev_put, pev_put]
theorem put_add {p q r : List Rat} : pput (padd p q) r = padd (pput p r) (pput q r) := pev_ext pput_tr trQ_trim fun x => by rw [pev_put, pev_padd, pev_padd, pev_put, pev_put]
theorem put_tim {p q r : List Rat} : pput (ptim p q) r = ptim (pput p r) (pput q r) := pev_ext pput_tr trQ_trim fun x => by rw [pev_put, pev_tim, pev_tim, pev_put, pev_put]
/-! lengths -/
theorem tim_len {p q : List Rat} (hp : TrQ p) (hq : TrQ q) (h1 : p ≠ []) (h2 : q ≠ []) : (ptim p q).length = p.length + q.length - 1 := by
  have l1 := List.length_pos_iff.mpr h1
  have l2 := List.length_pos_iff.mpr h2
  have le := ptim_len (p := p) (q := q)
  have top : cf (ptim p q) (p.length - 1 + (q.length - 1)) ≠ 0 := by
    rw [cf_ptim, mulc_sum]
    have e : ((List.range p.length).map fun i => if i ≤ p.length - 1 + (q.length - 1) then cf p i * cf q (p.length - 1 + (q.length - 1) - i) else 0).sum = cf p (p.length - 1) * cf q (q.length - 1) := by
      rw [sum_window (lo := p.length - 1) (c := 1) (by omega)]
      · show (if p.length - 1 + 0 ≤ p.length - 1 + (q.length - 1) then cf p (p.length - 1 + 0) * cf q (p.length - 1 + (q.length - 1) - (p.length - 1 + 0)) else 0) + 0 = _
        rw [if_pos (by omega), Rat.add_zero, Nat.add_zero, show p.length - 1 + (q.length - 1) - (p.length - 1) = q.length - 1 by omega]
      · intro i hi ho
        by_cases h : i ≤ p.length - 1 + (q.length - 1)
        · rw [if_pos h, cf_ge (p := q) (by omega)]
          grind
        · rw [if_neg h]
    rw [e]
    have a1 := hp.last h1
    have a2 := hq.last h2
    grind
  by_cases hl : p.length + q.length - 1 ≤ (ptim p q).length
  · omega
  · exact absurd (cf_ge (by omega)) top
theorem add_len {p q : List Rat} (h : q.length < p.length) (hp : TrQ p) : (padd p q).length = p.length := by
  have le := padd_len (p := p) (q := q)
  have hne : p ≠ [] := by rintro rfl; exact absurd h (Nat.not_lt_zero _)
  have top : cf (padd p q) (p.length - 1) ≠ 0 := by
    rw [cf_padd, cf_ge (p := q) (by omega), Rat.add_zero]
    exact hp.last hne
  by_cases hl : p.length ≤ (padd p q).length
  · omega
  · exact absurd (cf_ge (by omega)) top
theorem trQ_tail {a : Rat} {p : List Rat} (h : TrQ (a :: p)) : TrQ p := fun b e => h b (by
  cases p with
  | nil => cases e
  | cons c p => rw [List.getLast?_cons_cons]; exact e)
theorem one_len {a : Rat} : (trimQ [a]).length ≤ 1 := trimZ_le
theorem put_len {q : List Rat} (hq : TrQ q) (h2 : 2 ≤ q.length) : ∀ {p : List Rat}, TrQ p → p ≠ [] → (pput p q).length = (p.length - 1) * (q.length - 1) + 1
  | [], _, h => absurd rfl h
  | [a], h, _ => by
    show (padd (ptim [] q) (trimQ [a])).length = _
    have ha : a ≠ 0 := by
      have := h a rfl
      dsimp only at this
      rw [q_eq0] at this
      exact of_decide_eq_false this
    have e : padd (ptim [] q) (trimQ [a]) = [a] := pev_ext trQ_trim (trQ_app (p := []) ha) fun x => by
      rw [pev_padd, pev_tim, pev_trim]
      show 0 * _ + _ = _
      grind
    rw [e]
    simp
  | a :: b :: p, h, _ => by
    have ht := trQ_tail h
    have ih := put_len hq h2 (p := b :: p) ht (by simp)
    have ne : pput (b :: p) q ≠ [] := fun z => by
      rw [z] at ih
      simp at ih
    have nq : q ≠ [] := by rintro rfl; simp at h2
    have tl := tim_len pput_tr hq ne nq
    show (padd (ptim (pput (b :: p) q) q) (trimQ [a])).length = _
    have ol := one_len (a := a)
    rw [add_len (p := ptim (pput (b :: p) q) q) (q := trimQ [a]) (by rw [tl]; omega) trQ_trim, tl, ih]
    have e : (a :: b :: p).length - 1 = (b :: p).length - 1 + 1 := by simp
    rw [e, Nat.succ_mul]
    omega
theorem put_le {q : List Rat} {n : Nat} (hq : q.length ≤ n + 1) : ∀ {p : List Rat}, (pput p q).length ≤ (p.length - 1) * n + 1
  | [] => Nat.zero_le _
  | [a] => by
    show (padd (ptim [] q) (trimQ [a])).length ≤ _
    have e : padd (ptim [] q) (trimQ [a]) = trimQ [a] := pev_ext trQ_trim trQ_trim fun x => by
      rw [pev_padd, pev_tim, pev_trim]
      show 0 * _ + _ = _
      grind
    rw [e]
    exact Nat.le_trans one_len (by omega)
  | a :: b :: p => by
    have ih := put_le hq (p := b :: p)
    have tl := ptim_len (p := pput (b :: p) q) (q := q)
    have al := padd_len (p := ptim (pput (b :: p) q) q) (q := trimQ [a])
    have ol := one_len (a := a)
    show (padd (ptim (pput (b :: p) q) q) (trimQ [a])).length ≤ _
    have e : (a :: b :: p).length - 1 = (b :: p).length - 1 + 1 := by simp
    rw [e, Nat.succ_mul]
    omega
end Ml
set_option Elab.async false
set_option linter.all false
set_option maxRecDepth 100000
set_option maxHeartbeats 1000000
set_option exponentiation.threshold 20000
namespace Ml
open PySem L2 Inn Uv Sl
theorem pow_bt {M mb : Nat} (hM : M < 2 ^ mb) (i : Nat) : Bt (mb * i + 1) ((M ^ i : Nat) : Int) := by
  show M ^ i < 2 ^ (mb * i + 1)
  have h1 : M ^ i ≤ (2 ^ mb) ^ i := Nat.pow_le_pow_left (Nat.le_of_lt hM) i
  rw [← Nat.pow_mul] at h1
  exact Nat.lt_of_le_of_lt h1 (Nat.pow_lt_pow_right (by decide) (Nat.lt_succ_self _))
theorem m_raised {M n mb : Nat} {R : D → Prop} (hM : M < 2 ^ mb) (hn : n ≤ 1000) (hb : mb * 1001 ≤ 900000) (h : R (.int ((M ^ n : Nat) : Int))) : s_raised [.int (M : Nat), .int (n : Nat)] R := by
  unfold s_raised
  rfl'
  refine ⟨⟨by omega, by omega⟩, ?_⟩
  rw [Int.toNat_natCast]
  refine forC_map (fun ys s => s = .int ((M ^ ys.length : Nat) : Int)) _ (List.range n) rfl (fun ys x zs s nx e hs hn' => ?_) fun s hs => ?_
  · subst hs
    have ly : ys.length ≤ n := by
      have := congrArg List.length e
      rw [List.length_range, List.length_append] at this
      omega
    have lm : mb * ys.length ≤ mb * 1000 := Nat.mul_le_mul_left _ (by omega)
    rfl'
    refine ⟨(pow_bt hM ys.length).cm (nat_bt hM) (by omega), hn' _ ?_⟩
    rw [List.length_append, List.length_singleton, Nat.pow_succ, Int.natCast_mul]
  · subst hs
    rw [List.length_range]
    rfl'
    exact h
theorem lft_scale {L : Nat} (hL : L ≠ 0) {a : List Int} : lft L a = (lft 1 a).map fun q => (1 / (L : Rat)) * q := by
  show a.map (fun i : Int => (i : Rat) / (L : Rat)) = (a.map fun i : Int => (i : Rat) / ((1 : Nat) : Rat)).map _
  rw [List.map_map]
  refine List.map_congr_left fun i _ => ?_
  show (i : Rat) / (L : Rat) = (1 / (L : Rat)) * ((i : Rat) / ((1 : Nat) : Rat))
  have : ((1 : Nat) : Rat) = 1 := rfl
  rw [this]
  grind
theorem pev_lft {L : Nat} (hL : L ≠ 0) {a : List Int} {x : Rat} : pev (lft L a) x = (1 / (L : Rat)) * pev (lft 1 a) x := by rw [lft_scale hL, pev_smul]
theorem pev_mulL {a b : List Int} {x : Rat} : pev (lft 1 (mulL a b)) x = pev (lft 1 a) x * pev (lft 1 b) x := by
  rw [← pev_pmul]
  refine pev_congr fun k => ?_
  rw [cf_pmul]
  exact cf_mulL (L := 1) (L' := 1)
theorem mulL_one {x y : Int} : mulL [x] [y] = [x * y] := by
  simp [mulL, cl, ci, List.range_succ]
theorem mulL_bt {a b : List Int} {k l : Nat} (ha : ∀ i ∈ a, Bt k i) (hb : ∀ i ∈ b, Bt l i) (hl : a.length ≤ 1000) : ∀ i ∈ mulL a b, Bt (10 + (k + l)) i := by
  intro i hi
  unfold mulL at hi
  split at hi
  · cases hi
  · obtain ⟨j, hj, rfl⟩ := List.mem_map.mp hi
    have := Bt.sum (k := k + l) (m := 1000) (l := cl a b j) (fun z hz => by
      obtain ⟨u, _, rfl⟩ := List.mem_map.mp hz
      exact (ci_bt ha).mul (ci_bt hb)) (by
      unfold cl
      rw [List.length_map, List.length_range]
      omega)
    show _ < 2 ^ (10 + (k + l))
    rw [Nat.pow_add]
    exact Nat.lt_of_le_of_lt this (Nat.mul_lt_mul_of_lt_of_le (by decide) (Nat.le_refl _) (Nat.pow_pos (by decide)))
theorem drop_ci {a : List Int} {j : Nat} {y : Rat} : pev ((lft 1 a).drop j) y = (ci a j : Rat) + y * pev ((lft 1 a).drop (j + 1)) y := by
  by_cases h : j < a.length
  · rw [List.drop_eq_getElem_cons (by rw [lft_len]; exact h)]
    have e : (lft 1 a)[j]'(by rw [lft_len]; exact h) = (ci a j : Rat) := by
      have := cf_lft (L := 1) (a := a) (i := j)
      rw [cf_get (List.getElem?_eq_getElem (by rw [lft_len]; exact h))] at this
      rw [this]
      have : ((1 : Nat) : Rat) = 1 := rfl
      rw [this]
      grind
    rw [e]
    rfl
  · rw [List.drop_of_length_le (by rw [lft_len]; omega), List.drop_of_length_le (by rw [lft_len]; omega), ci_ge (by omega)]
    show (0 : Rat) = ((0 : Int) : Rat) + y * 0
    rw [Rat.intCast_zero]
    grind
theorem trim_bt {a : List Int} {k : Nat} (h : ∀ i ∈ a, Bt k i) : ∀ i ∈ trim a, Bt k i := fun i hi => h i (mem_trimZ hi)
theorem zip_bt {k : Nat} : ∀ {a b : List Int}, (∀ i ∈ a, Bt k i) → (∀ i ∈ b, Bt k i) → ∀ i ∈ zipL (· + ·) a b, Bt (k + 1) i
  | [], b, _, hb, i, hi => (hb i hi).mono (Nat.le_succ _)
  | x :: a, [], ha, _, i, hi => (ha i hi).mono (Nat.le_succ _)
  | x :: a, y :: b, ha, hb, i, hi => by
    unfold zipL at hi
    rcases List.mem_cons.mp hi with h | h
    · rw [h]
      exact (ha x List.mem_cons_self).add (hb y List.mem_cons_self)
    · exact zip_bt (fun i hi => ha i (List.mem_cons_of_mem _ hi)) (fun i hi => hb i (List.mem_cons_of_mem _ hi)) i h
theorem pev_trimI {a : List Int} {x : Rat} : pev (lft 1 (trim a)) x = pev (lft 1 a) x := by rw [lft_trim (by decide), pev_trim]
theorem nat_cast_pow {M i : Nat} : (((M ^ i : Nat) : Int) : Rat) = (M : Rat) ^ i := by
  rw [Rat.intCast_natCast]
  induction i with
  | zero => rfl
  | succ i ih => rw [Nat.pow_succ, Rat.natCast_mul, ih, Rat.pow_succ]
theorem m_put_over {a b : List Int} {M n ka kb mb : Nat} {R : D → Prop} (hM0 : M ≠ 0) (hM : M < 2 ^ mb) (la : a.length ≤ 25) (hn : n = a.length - 1) (lb : b.length ≤ 25) (ba : ∀ i ∈ a, Bt ka i) (bb : ∀ i ∈ b, Bt kb i) (hk : ka ≤ 5000) (hk2 : kb ≤ 5000) (hk3 : mb ≤ 5000)
    (h : ∀ t : List Int, Trimd (· == 0) t → t.length ≤ 1000 → (∀ x, pev (lft 1 t) x = (M : Rat) ^ n * pev (lft 1 a) (pev (lft M b) x)) → R (iL t)) : s_put_over [iL a, iL b, .lst [.int (M : Nat)], .int (n : Nat)] R := by
  have m0 : (M : Rat) ≠ 0 := by exact_mod_cast hM0
  unfold s_put_over
  rfl'
  refine ⟨sz, sz, n + 1, by have := RgC.neg (i := (n : Int)) (j := -1) (by omega) (by omega) (by decide) (by decide); rwa [show ((n : Int) - -1).toNat = n + 1 by omega] at this, ?_⟩
  refine forC_map (fun ys s => ∃ t : List Int, s = (iL t, iL [((M ^ ys.length : Nat) : Int)]) ∧ Trimd (· == 0) t ∧ t.length ≤ 25 * ys.length ∧ (∀ i ∈ t, Bt (ys.length * (kb + mb + 12) + (ka + 2)) i) ∧ ∀ x, (M : Rat) * pev (lft 1 t) x = (M : Rat) ^ ys.length * pev ((lft 1 a).drop (n + 1 - ys.length)) (pev (lft M b) x)) _ (List.range (n + 1)) ⟨[], rfl, (fun _ h => nomatch h), Nat.zero_le _, (fun _ h => nomatch h), fun x => ?_⟩ (fun ys j zs s nx e hs hn' => ?_) fun s hs => ?_
  · show (M : Rat) * 0 = _ ^ 0 * pev ((lft 1 a).drop (n + 1)) _
    rw [List.drop_of_length_le (by rw [lft_len]; omega)]
    show (M : Rat) * 0 = _ * 0
    grind
  · obtain ⟨t, rfl, tt, tl, tb, tv⟩ := hs
    have ey : ys.length ≤ n ∧ j = ys.length := by
      have l := congrArg List.length e
      rw [List.length_range, List.length_append, List.length_cons] at l
      have g : (List.range (n + 1))[ys.length]? = some j := by rw [e, List.getElem?_append_right (Nat.le_refl _), Nat.sub_self]; rfl
      rw [List.getElem?_range (by omega)] at g
      exact ⟨by omega, (Option.some.inj g).symm⟩
    obtain ⟨hy, rfl⟩ := ey
    generalize hi : ys.length = i at *
    have ei : ((n : Nat) : Int) + ((i : Nat) : Int) * -1 = ((n - i : Nat) : Int) := by omega
    have bk : i * (kb + mb + 12) ≤ 24 * (kb + mb + 12) := Nat.mul_le_mul_right _ (by omega)
    have bm : mb * i ≤ mb * 24 := Nat.mul_le_mul_left _ (by omega)
    have bs : (i + 1) * (kb + mb + 12) = i * (kb + mb + 12) + (kb + mb + 12) := Nat.succ_mul _ _
    have bi : mb * i ≤ i * (kb + mb + 12) := by rw [Nat.mul_comm]; exact Nat.mul_le_mul_left _ (by omega)
    rfl'
    rw [ei, List.length_map]
    have go : ∀ c : Int, c = ci a (n - i) → s_multiplied [iL t, iL b] (fun x => s_scaled_by [iL [((M ^ i : Nat) : Int)], .int c] fun x_1 => s_summed [x, x_1] fun x => s_multiplied [iL [((M ^ i : Nat) : Int)], .lst [.int (M : Nat)]] fun x_2 => nx (x, x_2)) := by
      rintro c rfl
      have bc : Bt ka (ci a (n - i)) := ci_bt ba
      refine m_multiplied (by omega) (by omega) tb bb (by omega) ?_
      refine m_scaled_by (by show 1 ≤ sizeLine; exact sz) bc (b := mb * i + 1) (fun z hz => by rw [List.mem_singleton.mp hz]; exact pow_bt hM i) (by omega) ?_
      have lm := mulL_len (a := t) (b := b)
      have e2 : (if ci a (n - i) = 0 then [] else [((M ^ i : Nat) : Int)].map fun z => ci a (n - i) * z) = if ci a (n - i) = 0 then [] else [ci a (n - i) * ((M ^ i : Nat) : Int)] := rfl
      rw [e2]
      have l2 : (if ci a (n - i) = 0 then [] else [ci a (n - i) * ((M ^ i : Nat) : Int)]).length ≤ 1 := by split <;> simp
      have b2 : ∀ z ∈ (if ci a (n - i) = 0 then [] else [ci a (n - i) * ((M ^ i : Nat) : Int)]), Bt (ka + (mb * i + 1)) z := by
        intro z hz
        split at hz
        · cases hz
        · rw [List.mem_singleton.mp hz]
          exact bc.mul (pow_bt hM i)
      have v2 : ∀ x, pev (lft 1 (if ci a (n - i) = 0 then [] else [ci a (n - i) * ((M ^ i : Nat) : Int)])) x = (ci a (n - i) : Rat) * (M : Rat) ^ i := by
        intro x
        split
        · rename_i hz
          rw [hz, Rat.intCast_zero]
          show (0 : Rat) = 0 * _
          grind
        · show pev [((ci a (n - i) * ((M ^ i : Nat) : Int) : Int) : Rat) / ((1 : Nat) : Rat)] x = _
          rw [pev_one, Rat.intCast_mul, nat_cast_pow]
          have : ((1 : Nat) : Rat) = 1 := rfl
          rw [this]
          grind
      generalize (if ci a (n - i) = 0 then [] else [ci a (n - i) * ((M ^ i : Nat) : Int)]) = u at *
      refine m_summed (sz (by omega)) ?_
      refine m_multiplied (a := [((M ^ i : Nat) : Int)]) (b := [(M : Int)]) (ka := mb * i + 1) (kb := mb) (show 1 ≤ 1000 by decide) (show 1 ≤ 1000 by decide) (fun z hz => by rw [List.mem_singleton.mp hz]; exact pow_bt hM i) (fun z hz => by rw [List.mem_singleton.mp hz]; exact nat_bt hM) (by omega) ?_
      rw [mulL_one]
      refine hn' _ ⟨trim (zipL (· + ·) (mulL t b) u), ?_, trimZ_trimd, ?_, ?_, fun x => ?_⟩
      · rw [List.length_append, List.length_singleton, hi, Nat.pow_succ, Int.natCast_mul]
      · rw [List.length_append, List.length_singleton, hi]
        refine Nat.le_trans trimZ_le ?_
        rw [zipL_len]
        omega
      · rw [List.length_append, List.length_singleton, hi]
        refine trim_bt fun z hz => (zip_bt (k := 10 + ((i * (kb + mb + 12) + (ka + 2)) + kb)) (mulL_bt tb bb (by omega)) (fun z hz => (b2 z hz).mono (by omega)) z hz).mono (by omega)
      · rw [List.length_append, List.length_singleton, hi, pev_trimI, lft_add, pev_add, pev_mulL, v2]
        have e3 : n + 1 - (i + 1) = n - i := by omega
        rw [e3, drop_ci, show n - i + 1 = n + 1 - i by omega]
        have h1 := tv x
        have h2 : pev (lft 1 b) x = (M : Rat) * pev (lft M b) x := by
          rw [pev_lft (L := M) hM0]
          grind
        rw [h2, Rat.pow_succ]
        generalize pev (lft M b) x = y at *
        generalize pev (lft 1 t) x = w at *
        generalize pev ((lft 1 a).drop (n + 1 - i)) y = z at *
        generalize (ci a (n - i) : Rat) = c at *
        generalize (M : Rat) ^ i = P at *
        generalize (M : Rat) = m at *
        have : m * (w * (m * y) + c * P) = (m * w) * (m * y) + m * (c * P) := by grind
        rw [this, h1]
        grind
    by_cases hl : n - i < a.length
    · have e : decide (((n - i : Nat) : Int) < ((a.length : Nat) : Int)) = true := decide_eq_true (by omega)
      rw [e]
      rfl'
      exact ⟨_, atI_of rfl (iL_get (ci_lt hl)), go _ rfl⟩
    · have e : decide (((n - i : Nat) : Int) < ((a.length : Nat) : Int)) = false := decide_eq_false (by omega)
      rw [e]
      rfl'
      exact go 0 (ci_ge (by omega)).symm
  · obtain ⟨t, rfl, tt, tl, tb, tv⟩ := hs
    rw [List.length_range] at tl tb tv
    rfl'
    refine h t tt (by omega) fun x => ?_
    have h1 := tv x
    rw [show n + 1 - (n + 1) = 0 by omega, List.drop_zero, Rat.pow_succ] at h1
    generalize pev (lft 1 a) (pev (lft M b) x) = z at *
    generalize pev (lft 1 t) x = w at *
    generalize (M : Rat) ^ n = P at *
    generalize (M : Rat) = m at *
    grind
theorem g_put {N k N' k' l m : Nat} {v v' : D} {p p' : List Rat} {R : D → Prop} (ok : Ok N k) (ok' : Ok N' k') (hp : Pv N k v p) (hp' : Pv N' k' v' p') (hd : (p.length - 1) * (p'.length - 1) ≤ 24) (hN : N < 2 ^ l) (hN' : N' < 2 ^ m) (hb : l + 24 * m ≤ 9000) (hm : m ≤ 800) (h : R (encQ (pput p p'))) : s_put_in [v, v'] R := by
  obtain ⟨qs, gp, rfl⟩ := hp.ex
  obtain ⟨qs', gp', rfl⟩ := hp'.ex
  unfold s_put_in
  rfl'
  refine m_needs' gp gp' (m_cp ok gp fun L a l0 l1 ea ta la ba => ?_)
  rfl'
  refine m_cp ok' gp' fun M b m0 m1 eb tb lb bb => ?_
  rfl'
  have la' := congrArg List.length ea
  have lb' := congrArg List.length eb
  rw [List.length_map] at la' lb'
  rw [← la', ← lb'] at hd
  rw [List.length_map, List.length_map]
  have em : (if ((a.length : Nat) : Int) - 1 > 0 then ((a.length : Nat) : Int) - 1 else 0) = ((a.length - 1 : Nat) : Int) := by split <;> omega
  rw [em]
  have ll : L < 2 ^ l := Nat.lt_of_le_of_lt (le_n ok.n0 l1) hN
  have ml : M < 2 ^ m := Nat.lt_of_le_of_lt (le_n ok'.n0 m1) hN'
  have kb := ok.kb
  have kb' := ok'.kb
  refine ⟨Bt.cm (a := 5) (b := 5) (by show a.length - 1 < 2 ^ 5; omega) (by show ((b.length : Int) - 1).natAbs < 2 ^ 5; omega) (by decide), ?_⟩
  have e : decide ((24 : Int) < ((a.length - 1 : Nat) : Int) * (((b.length : Nat) : Int) - 1)) = false := decide_eq_false (by
    by_cases hb0 : b.length = 0
    · rw [hb0]
      have : ((a.length - 1 : Nat) : Int) * (((0 : Nat) : Int) - 1) = -((a.length - 1 : Nat) : Int) := by omega
      omega
    · have e1 : ((b.length : Nat) : Int) - 1 = ((b.length - 1 : Nat) : Int) := by omega
      rw [e1, ← Int.natCast_mul]
      omega)
  rw [e]
  rfl'
  refine ⟨sz, m_put_over m0 ml la rfl lb ba bb (by omega) (by omega) (by omega) fun t tt tl tv => ?_⟩
  refine m_raised ml (by omega) (by omega) ?_
  rfl'
  have bM := pow_bt ml (a.length - 1)
  have b24 : m * (a.length - 1) ≤ m * 24 := Nat.mul_le_mul_left _ (by omega)
  refine ⟨(nat_bt ll).cm bM (by omega), ?_⟩
  rw [← Int.natCast_mul]
  have M0 : M ^ (a.length - 1) ≠ 0 := Nat.pos_iff_ne_zero.mp (Nat.pow_pos (Nat.pos_of_ne_zero m0))
  have big : L * M ^ (a.length - 1) < 2 ^ (l + m * 24) := by
    rw [Nat.pow_add, Nat.pow_mul]
    have h1 : M ^ (a.length - 1) ≤ (2 ^ m) ^ (a.length - 1) := Nat.pow_le_pow_left (Nat.le_of_lt ml) _
    have h2 : (2 ^ m) ^ (a.length - 1) ≤ (2 ^ m) ^ 24 := Nat.pow_le_pow_right (Nat.pow_pos (by decide)) (by omega)
    exact Nat.mul_lt_mul_of_lt_of_le ll (Nat.le_trans h1 h2) (Nat.pow_pos (Nat.pow_pos (by decide)))
  refine m_over (Nat.mul_ne_zero l0 M0) big (by omega) (sz (by omega)) ?_
  have e2 : lft (L * M ^ (a.length - 1)) t = pput (trimQ qs) (trimQ qs') := by
    refine put_eq (trimd_lft (Nat.mul_ne_zero l0 M0) tt) fun x => ?_
    rw [pev_lft (Nat.mul_ne_zero l0 M0), tv, ← ea, pev_lft (L := L) l0, ← eb, Rat.natCast_mul]
    have ep : ((M ^ (a.length - 1) : Nat) : Rat) = (M : Rat) ^ (a.length - 1) := by
      rw [← nat_cast_pow, Rat.intCast_natCast]
    rw [ep]
    have n1 : (L : Rat) ≠ 0 := by exact_mod_cast l0
    have n2 : (M : Rat) ^ (a.length - 1) ≠ 0 := by rw [← ep]; exact_mod_cast M0
    generalize (M : Rat) ^ (a.length - 1) = P at *
    generalize (L : Rat) = z at *
    grind
  rw [e2]
  exact h
end Ml
set_option Elab.async false
set_option linter.all false
set_option maxRecDepth 100000
set_option maxHeartbeats 4000000
set_option exponentiation.threshold 20000
namespace Ml
open PySem L2 Inn Uv Sl
theorem okk {N k : Nat} (h0 : N ≠ 0) (hN : N < 2 ^ 100) (hk : k ≤ 100) : Ok N k := ⟨h0, Nat.lt_of_lt_of_le hN (Nat.pow_le_pow_right (by decide) (by decide)), by omega⟩
theorem Lp.hs {n : Nat} {p : List Rat} (h : Lp n p) : Hs 5 p := h.pl.hs (by decide) (by decide) (by decide)
theorem rn_lq {q : Rat} (h : Lq q) : Ht 5 q := h.ht (by decide) (by decide) (by decide)
theorem mulc_gadd {g h : Nat → Rat} : ∀ {p : List Rat} {k : Nat}, mulc p (fun j => g j + h j) k = mulc p g k + mulc p h k
  | [], _ => by show (0 : Rat) = 0 + 0; rw [Rat.add_zero]
  | a :: p, k => by
    show a * (g k + h k) + shift (mulc p fun j => g j + h j) k = (a * g k + shift (mulc p g) k) + (a * h k + shift (mulc p h) k)
    rw [shift_congr (fun k => mulc_gadd (p := p) (k := k)), shift_add]
    grind
theorem mulc_one {a : Rat} : ∀ {p : List Rat} {k : Nat}, mulc p (fun j => if j = 0 then a else 0) k = a * cf p k
  | [], _ => by rw [cf_nil, Rat.mul_zero]; rfl
  | b :: p, k => by
    show b * (if k = 0 then a else 0) + shift (mulc p fun j => if j = 0 then a else 0) k = _
    cases k with
    | zero => rw [cf_0, if_pos rfl]; show b * a + 0 = _; grind
    | succ k =>
      rw [cf_s, if_neg (by omega)]
      show b * 0 + mulc p (fun j => if j = 0 then a else 0) k = _
      rw [mulc_one]
      grind
theorem mulc_shift {g : Nat → Rat} : ∀ {p : List Rat} {k : Nat}, mulc p (shift g) k = shift (mulc p g) k
  | [], k => by cases k <;> rfl
  | b :: p, 0 => by show b * 0 + 0 = (0 : Rat); grind
  | b :: p, k + 1 => by
    show b * g k + mulc p (shift g) k = b * g k + shift (mulc p g) k
    rw [mulc_shift]
theorem mulc_comm : ∀ {p q : List Rat} {k : Nat}, mulc p (cf q) k = mulc q (cf p) k
  | [], q, k => by
    rw [mulc_nil fun k => cf_nil]
    rfl
  | a :: p, q, k => by
    have e : ∀ k, cf (a :: p) k = (if k = 0 then a else 0) + shift (cf p) k := by
      intro k
      cases k with
      | zero => rw [cf_0, if_pos rfl]; show a = a + 0; rw [Rat.add_zero]
      | succ k => rw [cf_s, if_neg (by omega)]; show _ = 0 + cf p k; rw [Rat.zero_add]
    rw [mulc_congr e, mulc_gadd, mulc_one, mulc_shift]
    show a * cf q k + shift (mulc p (cf q)) k = _
    rw [shift_congr fun k => mulc_comm (p := p) (q := q) (k := k)]
theorem ptim_comm {p q : List Rat} : ptim p q = ptim q p := trim_congr fun k => by rw [cf_pmul, cf_pmul, mulc_comm]
theorem padd_comm {p q : List Rat} : padd p q = padd q p := trim_congr fun k => by rw [cf_add, cf_add, Rat.add_comm]
theorem pev_ptim {p q : List Rat} {x : Rat} : pev (ptim p q) x = pev p x * pev q x := by rw [pev_trim, pev_pmul]
theorem ht_pev {a b : Nat} {x : Rat} (hx : Ht b x) : ∀ {p : List Rat}, Hs a p → Ht (p.length * (a + b + 1) + 1) (pev p x)
  | [], _ => ht0 (by omega)
  | c :: p, h => by
    have ih := ht_pev (a := a) hx (p := p) fun q hq => h q (List.mem_cons_of_mem _ hq)
    refine ((h c List.mem_cons_self).add (hx.mul ih)).mono ?_
    rw [List.length_cons, Nat.succ_mul]
    omega
theorem purL_Q : ∀ {p : List Rat}, purL (p.map encR) = true
  | [] => rfl
  | q :: p => by
    have e : purL ((q :: p).map encR) = (pur (encR q) && purL (p.map encR)) := rfl
    rw [e, purL_Q]
    rfl
theorem pur_Q {p : List Rat} : pur (encQ p) = true := purL_Q
theorem purL_QQ : ∀ {ps : List (List Rat)}, purL (ps.map encQ) = true
  | [] => rfl
  | p :: ps => by
    have e : purL ((p :: ps).map encQ) = (pur (encQ p) && purL (ps.map encQ)) := rfl
    rw [e, purL_QQ, pur_Q]
    rfl
theorem arr_0 {a : D} : arr [0] [a] = [a] := rfl
theorem arr_10 {a b : D} : arr [1, 0] [a, b] = [b, a] := rfl
theorem ok6 : Ok 6 5 := okk (by decide) (by decide) (by decide)
theorem mapD_c {f : D → M D} {d : D} {ds : List D} {R : List D → Prop} : mapD f (d :: ds) R = f d fun y => mapD f ds fun ys => R (y :: ys) := rfl
theorem mapD_n {f : D → M D} {R : List D → Prop} : mapD f [] R = R [] := rfl
theorem m_two {a : Addr} {p q : List Rat} {R : D → Prop} (hp : Lp 8 p) (hq : Lp 8 q) (h : R (.bl true)) : s_law_two_right [.pot a, encPP p, encPP q] R := by
  have lp := hp.l
  have lq := hq.l
  unfold s_law_two_right
  rfl'
  refine m_given hp.hs (by decide) (by omega) fun v gv => ?_
  refine m_given hq.hs (by decide) (by omega) fun v' gv' => ?_
  rfl'
  refine m_number (by decide) (by decide) fun c hc => ?_
  rfl'
  refine m_handed (rn_lq hc).d (by decide) fun d hd => ?_
  rfl'
  refine ⟨sz, ?_⟩
  have sp := hp.hs.sn (by decide)
  have sq := hq.hs.sn (by decide)
  obtain ⟨t, et, lt⟩ := tl_lst (n := 1) (ds := [v, v']) (m := 2) (fun d hd => by
    simp only [List.mem_cons, List.not_mem_nil, or_false] at hd
    rcases hd with rfl | rfl
    · exact gv.tl sp (by omega)
    · exact gv'.tl sq (by omega)) (Nat.le_refl _)
  have lt := Nat.le_trans lt (show _ ≤ sizeLine by decide)
  refine ⟨t, et, lt, ?_⟩
  rfl'
  have lpq : p.length * q.length ≤ 8 * 8 := Nat.mul_le_mul lp lq
  have pva := gv.pv (N := 6) (k := 5) (n := 8) hp.t hp.pl hp.l (by decide)
  have pvb := gv'.pv (N := 6) (k := 5) (n := 8) hq.t hq.pl hq.l (by decide)
  have ha := hp.hs
  have hb := hq.hs
  have h0 := pl_add hp.pl hq.pl
  have h1 := pl_sub hp.pl hq.pl
  have h2 := pl_tim (m := 4) hp.pl hq.pl (by omega)
  have h3 := pl_sm hp.pl hc
  have h4 := pl_dif (m := 4) hp.pl (by omega)
  have l0 := padd_len (p := p) (q := q)
  have l1 := psub_len (p := p) (q := q)
  have l2 := ptim_len (p := p) (q := q)
  have l3 := psm_len (p := p) (c := c)
  have l4 := pdif_len (p := p)
  have s0 := h0.hs (m := 14) (by decide) (by decide) (by decide)
  have s1 := h1.hs (m := 14) (by decide) (by decide) (by decide)
  have s2 := h2.hs (m := 14) (by decide) (by decide) (by decide)
  have s3 := h3.hs (m := 14) (by decide) (by decide) (by decide)
  have s4 := h4.hs (m := 14) (by decide) (by decide) (by decide)
  have hcc := rn_lq hc
  refine m_lsum ha hb (by decide) (by decide) (by decide) (by omega) (by omega) ?_
  refine m_lless ha hb (by decide) (by decide) (by decide) (by omega) (by omega) ?_
  refine m_ltimes ha hb (by decide) (by decide) (by omega) (by omega) (by omega) ?_
  refine m_lscaled ha hcc (by decide) (by omega) ?_
  refine m_lderived ha (by decide) (by omega) (by decide) ⟨sz, ?_⟩
  refine g_told ok6 pva (g_plus ok6 pva pvb (g_minus ok6 pva pvb (g_times ok6 ok6 pva pvb (by omega) ?_)))
  refine g_scaled ok6 ok6 pva hd hc (g_derived ok6 pva ⟨sz, ?_⟩)
  let due := [p, padd p q, psub p q, ptim p q, psm c p, pdif p]
  have hdue : ∀ x ∈ due, Hs 14 x ∧ x.length ≤ 15 ∧ TrQ x ∧ ∃ N k, Ok N k ∧ Pl N k x := by
    intro x hx
    simp only [due, List.mem_cons, List.not_mem_nil, or_false] at hx
    rcases hx with rfl | rfl | rfl | rfl | rfl | rfl
    · exact ⟨ha.mono (by decide), by omega, hp.t, _, _, ok6, hp.pl⟩
    · exact ⟨s0, by omega, trQ_trim, _, _, okk (by decide) (by decide) (by decide), h0⟩
    · exact ⟨s1, by omega, trQ_trim, _, _, okk (by decide) (by decide) (by decide), h1⟩
    · exact ⟨s2, by omega, trQ_trim, _, _, okk (by decide) (by decide) (by decide), h2⟩
    · exact ⟨s3, by omega, trQ_trim, _, _, okk (by decide) (by decide) (by decide), h3⟩
    · exact ⟨s4, by omega, trQ_trim, _, _, okk (by decide) (by decide) (by decide), h4⟩
  obtain ⟨u, eu, lu⟩ := tl_lst (n := 1) (ds := due.map encQ) (m := 6) (fun d hd => by
    obtain ⟨x, hx, rfl⟩ := List.mem_map.mp hd
    exact tl_Q (m := 15) ((hdue x hx).1.sn (by decide)) (hdue x hx).2.1) (Nat.le_refl _)
  have lu := Nat.le_trans lu (show _ ≤ sizeLine by decide)
  refine ⟨u, eu, lu, sz, ?_⟩
  refine mapD_map (xs := due) (e := encPP) (φ := encQ) (fun x hx R' h' => ?_) ⟨u, eu, lu, ?_⟩
  · rfl'
    exact m_lratios (hdue x hx).1 (by decide) (by have := (hdue x hx).2.1; omega) h'
  have uu : (u == u) = true := by simp
  rw [uu]
  rfl'
  simp only [arr_0, arr_10]
  refine g_told ok6 pva (g_plus ok6 pva pvb (g_minus ok6 pva pvb (g_times ok6 ok6 pva pvb (by omega) ?_)))
  refine g_scaled ok6 ok6 pva hd hc ⟨sz, g_derived ok6 pva ⟨sz, sz, ?_⟩⟩
  refine eql_refl (n := 3) (ds := due.map encQ) (fun d hd => ?_) ?_
  · obtain ⟨x, _, rfl⟩ := List.mem_map.mp hd
    exact eqr_Q
  rfl'
  refine ⟨sz, mapD_map (xs := due) (e := encQ) (φ := fun x => .int ((x.length : Nat) - 1 : Int)) (fun x hx R' h' => ?_) ?_⟩
  · obtain ⟨_, hl, ht, N, k, ok, pl⟩ := hdue x hx
    rfl'
    exact g_degree ok (pv_Q ht (by omega) pl) h'
  refine ⟨sz, mapD_map (xs := due) (e := encPP) (φ := fun x => .int ((x.length : Nat) - 1 : Int)) (fun x hx R' h' => ?_) ?_⟩
  · rfl'
    rw [List.length_map]
    exact h'
  refine eql_refl (n := 3) (fun d hd => ?_) ?_
  · obtain ⟨x, _, rfl⟩ := List.mem_map.mp hd
    exact eqr_int
  rfl'
  refine g_degree ok6 pva ?_
  rw [List.length_map]
  rfl'
  have e0 : (((p.length : Nat) : Int) - 1 == ((p.length : Nat) : Int) - 1) = true := by simp
  rw [e0]
  rfl'
  refine ⟨⟨purL_QQ (ps := due), (show (6 : Nat) ≤ 1000 by decide), fun x hx => ?_⟩, ?_⟩
  · obtain ⟨y, hy, rfl⟩ := List.mem_map.mp (show x ∈ due.map encQ from hx)
    exact ⟨_, rfl, by rw [List.length_map]; have := (hdue y hy).2.1; omega⟩
  refine g_times ok6 ok6 pvb pva (by omega) ⟨_, rfl, m_lratios s2 (by decide) (by omega) ?_⟩
  rw [ptim_comm (p := q) (q := p)]
  refine m_ne (fun d hd => ?_) ?_
  · obtain ⟨x, _, rfl⟩ := List.mem_map.mp hd
    exact eqr_rat
  rfl'
  refine g_plus ok6 pvb pva ⟨_, rfl, m_lratios s0 (by decide) (by omega) ?_⟩
  rw [padd_comm (p := q) (q := p)]
  refine m_ne (fun d hd => ?_) ?_
  · obtain ⟨x, _, rfl⟩ := List.mem_map.mp hd
    exact eqr_rat
  rfl'
  refine g_told ok6 pva (m_lratios ha (by decide) (by omega) ?_)
  refine m_ne (fun d hd => ?_) ?_
  · obtain ⟨x, _, rfl⟩ := List.mem_map.mp hd
    exact eqr_rat
  rfl'
  have pvt := pv_Q (N := 6 * 6) (k := 4 + (5 + 5)) (p := ptim p q) trQ_trim (by omega) h2
  have ok36 : ∀ k, k ≤ 100 → Ok (6 * 6) k := fun k hk => okk (by decide) (by decide) hk
  refine g_worth ok6 ok6 pva hd hc (by decide) ?_
  refine g_worth ok6 ok6 pvb hd hc (by decide) ?_
  refine g_times ok6 ok6 pva pvb (by omega) (g_worth (ok36 _ (by decide)) ok6 pvt hd hc (by decide) ⟨sz, ?_⟩)
  refine m_lworth ha hcc (by decide) (by omega) (by decide) ?_
  refine m_lworth hb hcc (by decide) (by omega) (by decide) ?_
  have hx := ht_pev hcc ha
  have hy := ht_pev hcc hb
  have hx : Ht 100 (pev p c) := hx.mono (by omega)
  have hy : Ht 100 (pev q c) := hy.mono (by omega)
  have hz := hx.mul hy
  have hs3 : Hs 200 [pev p c, pev q c, pev p c * pev q c] := by
    intro x hx'
    simp only [List.mem_cons, List.not_mem_nil, or_false] at hx'
    rcases hx' with rfl | rfl | rfl
    · exact hx.mono (by decide)
    · exact hy.mono (by decide)
    · exact hz
  obtain ⟨w, ew, lw⟩ := tl_Q (n := 1) (hs3.sn (by decide)) (show _ ≤ 3 from Nat.le_refl 3)
  have lw := Nat.le_trans lw (show _ ≤ sizeLine by decide)
  rw [pev_ptim]
  refine ⟨w, ew, lw, m_lby hx hy (by decide) ⟨sz, ?_⟩⟩
  refine m_lratios (p := [pev p c, pev q c, pev p c * pev q c]) hs3 (by decide) (by show 3 ≤ 10000; decide) ⟨w, ew, lw, ?_⟩
  have ww : (w == w) = true := by simp
  rw [ww]
  rfl'
  have h4' := pl_dif (m := 4) hq.pl (by omega)
  have l4' := pdif_len (p := q)
  have pvd := pv_Q (N := 6) (k := 4 + 5) (p := pdif p) trQ_trim (by omega) h4
  have pvd' := pv_Q (N := 6) (k := 4 + 5) (p := pdif q) trQ_trim (by omega) h4'
  have ok9 : Ok 6 (4 + 5) := okk (by decide) (by decide) (by decide)
  refine g_times ok6 ok6 pva pvb (by omega) (g_derived (ok36 _ (by decide)) pvt ?_)
  have g1 : Pl (6 * 6) 18 (ptim (pdif p) q) := (pl_tim (m := 4) h4 hq.pl (by omega)).mono (by decide)
  have g2 : Pl (6 * 6) 18 (ptim p (pdif q)) := (pl_tim (m := 4) hp.pl h4' (by omega)).mono (by decide)
  have m1 := ptim_len (p := pdif p) (q := q)
  have m2 := ptim_len (p := p) (q := pdif q)
  refine g_derived ok6 pva (g_times ok9 ok6 pvd pvb (by omega) ?_)
  refine g_derived ok6 pvb (g_times ok6 ok9 pva pvd' (by omega) ?_)
  refine g_plus (ok36 18 (by decide)) (pv_Q trQ_trim (by omega) g1) (pv_Q trQ_trim (by omega) g2) ?_
  rw [← product_rule]
  refine m_eq (fun d hd => ?_) ?_
  · obtain ⟨x, _, rfl⟩ := List.mem_map.mp hd
    exact eqr_rat
  rfl'
  refine ⟨sz, t, et, lt, ?_⟩
  have tt : (t == t) = true := by simp
  rw [tt]
  exact h
theorem m_isp_gen {v : D} {ds : List D} {bs : List Bool} {R : D → Prop} (hs : Sq v ds) (hl : ds.length ≤ 25) (hb : All2 (fun d b => ∀ R' : D → Prop, R' (.bl b) → s_is_number [d] R') ds bs) (h : R (.bl (bs.all id))) : s_is_poly [v] R := by
  unfold s_is_poly
  have e : isT .list v = true ∨ isT .tuple v = true := by cases hs; exact .inl rfl; exact .inr rfl
  have ep : plainD v = true := by cases hs <;> rfl
  have fin : (mapD (fun vnumber => opN s_is_number (lcons (rt vnumber) lnil)) ds fun ys => allF [.lst ys] R) := by
    refine mapD_all2 (φ := D.bl) hb (fun d b _ hb R' h => hb R' h) ?_
    rfl'
    exact ⟨bs, blsOf_map _, h⟩
  bv_omega
  rw [ep]
  have : (isT .list v || isT .tuple v) = true := by rcases e with e | e <;> rw [e] <;> simp
  rw [this]
  bv_omega
  rfl'
  rw [hs.len]
  rfl'
  have : decide ((25 : Int) < ((ds.length : Nat) : Int)) = false := decide_eq_false (by omega)
  rw [this]
  rfl'
  rw [hs.items]
  exact ⟨sz (by omega), fin⟩
theorem m_isp_far {v : D} {ds : List D} {R : D → Prop} (hs : Sq v ds) (hl : 25 < ds.length) (h : R (.bl false)) : s_is_poly [v] R := by
  unfold s_is_poly
  have e : isT .list v = true ∨ isT .tuple v = true := by cases hs; exact .inl rfl; exact .inr rfl
  have ep : plainD v = true := by cases hs <;> rfl
  bv_omega
  rw [ep]
  have : (isT .list v || isT .tuple v) = true := by rcases e with e | e <;> rw [e] <;> simp
  rw [this]
  bv_omega
  rfl'
  rw [hs.len]
  rfl'
  have : decide ((25 : Int) < ((ds.length : Nat) : Int)) = true := decide_eq_true (by omega)
  rw [this]
  rfl'
  exact h
theorem m_isp_not {v : D} {R : D → Prop} (hp : plainD v = true) (h1 : isT .list v = false) (h2 : isT .tuple v = false) (h : R (.bl false)) : s_is_poly [v] R := by
  unfold s_is_poly
  bv_omega
  rw [hp, h1, h2]
  bv_omega
  exact h
/-- it is a number, or none -/
def NumB (d : D) (b : Bool) : Prop := ∀ R' : D → Prop, R' (.bl b) → s_is_number [d] R'
theorem nums_b : ∀ {ds : List D} {qs : List Rat}, Nus ds qs → All2 NumB ds (ds.map fun _ => true)
  | _, _, .nil => .nil
  | _, _, .cons h t => .cons (fun R' h' => m_num_yes h h') (nums_b t)
theorem numb_no {d : D} (hp : plainD d = true) (hi : isT .int d = false) (hc : isT (.c 0) d = false) : NumB d false := fun R' h => m_num_no hp hi hc h
theorem m_isp_yes {v : D} {ds : List D} {qs : List Rat} {R : D → Prop} (hs : Sq v ds) (hd : Nus ds qs) (hl : ds.length ≤ 25) (h : R (.bl true)) : s_is_poly [v] R := m_isp hs hd (by rw [← hd.len]; exact hl) h
theorem all2_take {β γ : Type} {Q : β → γ → Prop} : ∀ {xs : List β} {ys : List γ} (n : Nat), All2 Q xs ys → All2 Q (xs.take n) (ys.take n)
  | _, _, _, .nil => by rw [List.take_nil, List.take_nil]; exact .nil
  | _, _, 0, .cons _ _ => .nil
  | _, _, n + 1, .cons h t => .cons h (all2_take n t)
theorem all2_drop {β γ : Type} {Q : β → γ → Prop} : ∀ {xs : List β} {ys : List γ} (n : Nat), All2 Q xs ys → All2 Q (xs.drop n) (ys.drop n)
  | _, _, _, .nil => by rw [List.drop_nil, List.drop_nil]; exact .nil
  | _, _, 0, .cons h t => .cons h t
  | _, _, n + 1, .cons _ t => all2_drop n t
theorem m_isp_odd {v o : D} {ds es : List D} {ps qs : List Rat} {R : D → Prop} (hs : Sq v (ds ++ o :: es)) (hd : Nus ds ps) (he : Nus es qs) (ho : NumB o false) (h : R (.bl false)) : s_is_poly [v] R := by
  by_cases hl : (ds ++ o :: es).length ≤ 25
  · refine m_isp_gen hs hl (all2_app (nums_b hd) (.cons ho (nums_b he))) ?_
    have : ((ds.map fun _ => true) ++ false :: (es.map fun _ => true)).all id = false := by simp
    rw [this]
    exact h
  · exact m_isp_far hs (by omega) h
theorem nus_repn {d : D} {q : Rat} (h : Nu d q) : ∀ n : Nat, Nus (List.replicate n [d]).flatten (List.replicate n q)
  | 0 => .nil
  | n + 1 => .cons h (nus_repn h n)
theorem tl_bl {n : Nat} {b : Bool} : Tl n (.bl b) 5 := by
  cases b <;> cases n <;> exact ⟨_, rfl, by decide⟩
theorem m_values {a : Addr} {p : List Rat} {R : D → Prop} (hp : Lp 8 p) (h : R (.bl true)) : s_law_values_right [.pot a, encPP p] R := by
  have lp := hp.l
  unfold s_law_values_right
  rfl'
  refine m_given hp.hs (by decide) (by omega) fun v gv => ?_
  obtain ⟨ds, j, hs, hd, hj⟩ := gv.ex
  have ll := hd.len
  rw [List.length_append, List.length_replicate] at ll
  have lv : listF [v] = fun R => R (.lst ds) := by cases hs <;> rfl
  rw [lv]
  rfl'
  have hg : Nus (ds ++ [D.int 1]) ((p ++ List.replicate j 0) ++ [1]) := all2_app hd (.cons (.int (q := 1) rfl) .nil)
  have lg : (ds ++ [D.int 1]).length = ds.length + 1 := by simp
  rw [lg]
  generalize ds ++ [D.int 1] = gs at *
  generalize (p ++ List.replicate j 0) ++ [1] = gq at *
  refine ⟨sz, sz (by omega), m_draw (by omega) (by omega) fun i hi => ?_⟩
  rfl'
  refine ⟨sz, sz, sz, m_pick (by decide) (by decide) fun o ho => ?_⟩
  have no : NumB o false := by
    simp only [List.mem_cons, List.not_mem_nil, or_false] at ho
    rcases ho with rfl | rfl | rfl | rfl | rfl | rfl
    · exact numb_no rfl rfl rfl
    · exact fun R' h => m_num_bl h
    · exact numb_no rfl rfl rfl
    · exact numb_no rfl rfl rfl
    · exact numb_no rfl rfl rfl
    · exact numb_no rfl rfl rfl
  refine ⟨sz, sz, sz, ⟨by decide, by decide, by decide⟩, m_init (a := 1) (b := 3) (k := 2) (by decide) (by decide) (by decide) ?_⟩
  rw [show [D.int (rq 1 3).num, D.int (((rq 1 3).den : Nat) : Int)] = [D.int 1, D.int 3] from by rw [show (rq 1 3).num = 1 by decide +kernel, show (rq 1 3).den = 3 by decide +kernel]; rfl]
  rw [cut_to]
  have e1 : ((i : Nat) : Int) + 1 = ((i + 1 : Nat) : Int) := rfl
  rw [e1, cut_from]
  have lt := List.length_take (l := gs) (i := i)
  have ld := List.length_drop (l := gs) (i := i + 1)
  refine ⟨sz, ⟨by decide, by decide, by decide⟩, sz, sz, sz (by omega), sz (by rw [List.length_append, List.length_singleton]; omega), sz, sz (by omega), sz, sz, ⟨by decide, by decide, by decide⟩, ?_⟩
  refine m_init (a := 2) (b := 1) (k := 1) (by decide) (by decide) (by decide) ?_
  rw [show [D.int (rq 2 1).num, D.int (((rq 2 1).den : Nat) : Int)] = [D.int 2, D.int 1] from by rw [show (rq 2 1).num = 2 by decide +kernel, show (rq 2 1).den = 1 by decide +kernel]; rfl]
  refine ⟨sz, ⟨by decide, by decide, by decide⟩, sz, sz, sz (n := 19), ?_⟩
  simp only [List.cons_append, List.nil_append, mapD_c, mapD_n]
  rfl'
  have n0 : Nus ([] : List D) [] := .nil
  have r13 : Nu (.ins 0 [.int 1, .int 3]) (rq 1 3) := by
    have := Nu.rat (q := rq 1 3)
    rw [encR_lit (a := 1) (b := 3) (by decide +kernel) (by decide +kernel)] at this
    exact this
  refine m_isp_yes .l hg (by omega) (m_isp_yes .t hg (by omega) (m_isp_yes .l n0 (by decide) (m_isp_yes .t n0 (by decide) ?_)))
  refine m_isp_yes .l (nus_repn nu0 25) (by decide) (m_isp_yes .l (all2_take i hg) (by omega) (m_isp_yes .l (nus_repn r13 25) (by decide) ?_))
  refine m_isp_odd (ds := gs.take i) (o := o) (es := gs.drop (i + 1)) (by rw [List.append_assoc]; exact .l) (all2_take i hg) (all2_drop (i + 1) hg) no ?_
  refine m_isp_odd (ds := gs) (o := o) (es := []) .l hg n0 no ?_
  refine m_isp_odd (ds := []) (o := .lst gs) (es := []) .l n0 n0 (numb_no rfl rfl rfl) ?_
  refine m_isp_far .l (by decide) ?_
  refine m_isp_not rfl rfl rfl (m_isp_not rfl rfl rfl (m_isp_not rfl rfl rfl (m_isp_not rfl rfl rfl (m_isp_not rfl rfl rfl (m_isp_not rfl rfl rfl (m_isp_not rfl rfl rfl ?_))))))
  refine m_isp_far .t (by decide) ?_
  rw [arr_0]
  refine m_isp_yes .l hg (by omega) ?_
  let L : List D := [.bl true, .bl true, .bl true, .bl true, .bl true, .bl true, .bl true, .bl false, .bl false, .bl false, .bl false, .bl false, .bl false, .bl false, .bl false, .bl false, .bl false, .bl false, .bl false, .bl true]
  obtain ⟨w, ew, lw⟩ := tl_lst (n := 0) (ds := L) (b := 5) (m := 20) (fun d hd => by
    simp only [L, List.mem_cons, List.not_mem_nil, or_false] at hd
    rcases hd with h | h | h | h | h | h | h | h | h | h | h | h | h | h | h | h | h | h | h | h <;> rw [h] <;> exact tl_bl) (Nat.le_refl _)
  have lw := Nat.le_trans lw (show _ ≤ sizeLine by decide)
  have ww : (w == w) = true := by simp
  refine ⟨sz, sz (n := 20), w, ew, lw, sz, ⟨by decide, by decide, by decide⟩, sz, ⟨by decide, by decide, by decide⟩, by decide, sz, by decide, w, ew, lw, ?_⟩
  rw [ww]
  exact h
abbrev z12 : List Rat := List.replicate 12 0
theorem big_ex : ∀ i : Fin 9, trimQ (z12 ++ [((1 + ((i.val : Nat) : Int) : Int) : Rat), 0]) = z12 ++ [((1 + ((i.val : Nat) : Int) : Int) : Rat)] ∧ ptim (z12 ++ [1]) (z12 ++ [((1 + ((i.val : Nat) : Int) : Int) : Rat)]) = List.replicate 24 0 ++ [((1 + ((i.val : Nat) : Int) : Int) : Rat)] := by decide +kernel
theorem nu_int (i : Int) : Nu (.int i) (i : Rat) := by
  have := Nu.int (q := (i : Rat)) (Rat.den_intCast i)
  rw [Rat.num_intCast] at this
  exact this
theorem rq_one {i : Int} : rq i 1 = (i : Rat) := by
  rw [rq_eq]
  show (i : Rat) / 1 = i
  grind
theorem pl_int1 {k : Nat} {q : Rat} {i : Int} (h : q = (i : Rat)) (b : Bt k i) : ∃ a : Int, q = (a : Rat) / ((1 : Nat) : Rat) ∧ Bt k a := ⟨i, by rw [h]; show (i : Rat) = (i : Rat) / 1; grind, b⟩
theorem pv_big {n : Int} {j : Nat} {k : Nat} (hj : j ≤ 1) (hk : Bt k n) (ht : trimQ (z12 ++ ((n : Rat) :: List.replicate j 0)) = z12 ++ [(n : Rat)]) : Pv 1 k (.lst ((List.replicate 12 [D.int 0]).flatten ++ (D.int n :: (List.replicate j [D.int 0]).flatten))) (z12 ++ [(n : Rat)]) := by
  refine ⟨z12 ++ ((n : Rat) :: List.replicate j 0), ⟨⟨_, .l, all2_app (nus_rep 12) (.cons (nu_int n) (nus_rep j))⟩, by simp; omega, fun q hq => ?_⟩, ht⟩
  rcases List.mem_append.mp hq with h | h
  · rw [(List.mem_replicate.mp h).2]
    exact pl_int1 (i := 0) rfl Bt.zero
  · rcases List.mem_cons.mp h with h | h
    · exact pl_int1 h hk
    · rw [(List.mem_replicate.mp h).2]
      exact pl_int1 (i := 0) rfl Bt.zero
theorem m_right {a : Addr} {R : D → Prop} (h : R (.bl true)) : s_law_right [.pot a] R := by
  unfold s_law_right
  rfl'
  refine m_lpoly (m := 5) rfl (by decide) fun p1 h1 => ?_
  refine m_lpoly (m := 8) rfl (by decide) fun p2 h2 => ?_
  refine m_lstand (m := 6) rfl (by decide) (by decide) fun p3 h3 _ => ?_
  let xs : List D := [encPP p1, encPP p2, encPP p3, .lst [], .lst [.tup [.int 7, .int 3]]]
  have hxs : ∀ x ∈ xs, ∃ p, Lp 8 p ∧ x = encPP p := by
    intro x hx
    simp only [xs, List.mem_cons, List.not_mem_nil, or_false] at hx
    rcases hx with rfl | rfl | rfl | rfl | rfl
    · exact ⟨p1, h1.mono (by decide), rfl⟩
    · exact ⟨p2, h2, rfl⟩
    · exact ⟨p3, h3.mono (by decide), rfl⟩
    · exact ⟨[], ⟨(fun a e => nomatch e), by decide, fun q h => nomatch h⟩, rfl⟩
    · refine ⟨[rq 7 3], ⟨trQ_app (p := []) (by decide +kernel), by decide, fun q h => ?_⟩, ?_⟩
      · rw [List.mem_singleton.mp h]
        exact ⟨14, by decide +kernel, by decide⟩
      · show _ = D.lst [encP (rq 7 3)]
        rw [encP_lit (a := 7) (b := 3) (by decide +kernel) (by decide +kernel)]
        rfl
  refine ⟨sz, sz, sz, sz, ⟨by decide, by decide⟩, forC_map (fun _ _ => True) _ _ trivial (fun ys x zs s nx e _ hn => ?_) fun s _ => ?_⟩
  · refine m_pick (xs := xs) (show 0 < 5 by decide) (show 5 ≤ 10000 by decide) fun x hx => m_pick (xs := xs) (show 0 < 5 by decide) (show 5 ≤ 10000 by decide) fun y hy => ?_
    obtain ⟨p, hp, rfl⟩ := hxs x hx
    obtain ⟨q, hq, rfl⟩ := hxs y hy
    refine m_two hp hq ?_
    rfl'
    exact hn _ trivial
  · refine m_draw (by decide) (by decide) fun i hi => ?_
    rfl'
    have hi : i < 9 := by omega
    obtain ⟨b1, b2⟩ := big_ex ⟨i, hi⟩
    dsimp only at b1 b2
    have bn : Bt 5 (1 + (i : Int)) := by show (1 + (i : Int)).natAbs < 2 ^ 5; omega
    generalize 1 + (i : Int) = n at *
    refine ⟨sz, ⟨by decide, by decide, by decide⟩, sz, by decide, sz, ⟨by decide, by decide, by decide⟩, sz, by decide, ?_⟩
    have ok1 : Ok 1 5 := okk (by decide) (by decide) (by decide)
    have pv1 := pv_big (n := 1) (j := 0) (k := 5) (by decide) (by decide) (by decide +kernel)
    have pv2 := pv_big (n := n) (j := 1) (k := 5) (by decide) bn b1
    refine g_times ok1 ok1 pv1 pv2 (by simp) ?_
    have b2 : ptim (z12 ++ [((1 : Int) : Rat)]) (z12 ++ [(n : Rat)]) = List.replicate 24 0 ++ [(n : Rat)] := b2
    rw [b2]
    refine m_init (a := 0) (b := 1) (k := 1) (by decide) (by decide) (by decide) ⟨sz, ⟨by decide, by decide, by decide⟩, ?_⟩
    refine m_init (a := n) (b := 1) (k := 1) (by decide) (by decide) (by decide) ⟨sz, by rw [List.flatten_replicate_singleton, List.length_replicate]; exact sz, ?_⟩
    rw [rq_one, rq_one]
    have e : (List.replicate (Int.toNat 24) [D.ins 0 [D.int ((0 : Int) : Rat).num, D.int ((((0 : Int) : Rat).den : Nat) : Int)]]).flatten ++ [D.ins 0 [D.int (n : Rat).num, D.int (((n : Rat).den : Nat) : Int)]] = (List.replicate 24 (0 : Rat) ++ [(n : Rat)]).map encR := rfl
    rw [e]
    refine m_ne (fun d hd => ?_) ?_
    · obtain ⟨x, _, rfl⟩ := List.mem_map.mp hd
      exact eqr_rat
    rfl'
    refine m_pick (xs := xs) (show 0 < 5 by decide) (show 5 ≤ 10000 by decide) fun x hx => ?_
    obtain ⟨p, hp, rfl⟩ := hxs x hx
    exact m_values hp h
end Ml
set_option Elab.async false
set_option linter.all false
set_option maxRecDepth 100000
set_option maxHeartbeats 4000000
set_option exponentiation.threshold 20000
namespace Ml
open PySem L2 Inn Uv Sl
theorem pl_up {N k M m : Nat} {p : List Rat} (h : Pl N k p) (hM : M ≠ 0) (hm : M < 2 ^ m) : Pl (M * N) (m + k) p := fun q hq => by
  obtain ⟨a, e, b⟩ := h q hq
  refine ⟨(M : Int) * a, ?_, (nat_bt hm).mul b⟩
  have : (M : Rat) ≠ 0 := by exact_mod_cast hM
  rw [e, Rat.natCast_mul, Rat.intCast_mul, Rat.intCast_natCast]
  grind
theorem pow6 (n : Nat) : 6 ^ n ≠ 0 ∧ 6 ^ n < 2 ^ (3 * n + 1) := ⟨Nat.pos_iff_ne_zero.mp (Nat.pow_pos (by decide)), by
  have : (6 : Nat) ^ n ≤ (2 ^ 3) ^ n := Nat.pow_le_pow_left (by decide) n
  rw [← Nat.pow_mul] at this
  exact Nat.lt_of_le_of_lt this (Nat.pow_lt_pow_right (by decide) (Nat.lt_succ_self _))⟩
theorem pl_put0 {q : List Rat} (hq : Pl 6 9 q) (lq : q.length ≤ 5) : ∀ {p : List Rat}, Pl 6 9 p → p.length ≤ 5 → Pl (6 ^ (p.length + 1)) (15 * p.length + 10) (pput p q)
  | [], _, _ => fun _ h => nomatch h
  | a :: p, hp, lp => by
    rw [List.length_cons] at lp ⊢
    have ih := pl_put0 hq lq (p := p) (hp.sub fun _ h => List.mem_cons_of_mem _ h) (by omega)
    have ll := put_le (q := q) (n := 4) lq (p := p)
    have t := pl_tim (m := 5) ih hq (by omega)
    have o : Pl 6 9 (trimQ [a]) := pl_trim (hp.sub fun x h => by rw [List.mem_singleton.mp h]; exact List.mem_cons_self)
    have u := pl_up o (pow6 (p.length + 1)).1 (pow6 (p.length + 1)).2
    rw [Nat.pow_succ 6 (p.length + 1)]
    exact (pl_add (t.mono (k' := 15 * (p.length + 1) + 9) (by omega)) (u.mono (by omega))).mono (by omega)
theorem pl_put {p q : List Rat} (hp : Pl 6 9 p) (hq : Pl 6 9 q) (lp : p.length ≤ 5) (lq : q.length ≤ 5) : Pl (6 ^ 6) 100 (pput p q) := by
  have h := pl_put0 hq lq hp lp
  have u := pl_up h (pow6 (5 - p.length)).1 (pow6 (5 - p.length)).2
  rw [← Nat.pow_add, show 5 - p.length + (p.length + 1) = 6 by omega] at u
  exact u.mono (by omega)
theorem rn_pev {N k M m μ : Nat} {x : Rat} (hM : M ≠ 0) (hμ : M < 2 ^ μ) (hN : N ≠ 0) (hx : Rn M m x) : ∀ {p : List Rat}, Pl N k p → Rn (N * M ^ p.length) ((μ + m + 1) * p.length + k + 1) (pev p x)
  | [], _ => ⟨0, by show (0 : Rat) = _; rw [Rat.intCast_zero]; grind, Bt.zero⟩
  | c :: p, h => by
    obtain ⟨a, ea, ba⟩ := h c List.mem_cons_self
    obtain ⟨b, eb, bb⟩ := hx.ex
    obtain ⟨d, ed, bd⟩ := (rn_pev hM hμ hN hx (p := p) (h.sub fun _ hq => List.mem_cons_of_mem _ hq)).ex
    have bp := pow_bt hμ (p.length + 1)
    refine ⟨a * ((M ^ (p.length + 1) : Nat) : Int) + b * d, ?_, ?_⟩
    · show c + x * pev p x = _
      rw [ed, ea, eb, List.length_cons, Rat.intCast_add, Rat.intCast_mul, Rat.intCast_mul, Rat.intCast_natCast, Rat.natCast_mul, Rat.natCast_mul, Nat.pow_succ, Rat.natCast_mul]
      have n1 : (M : Rat) ≠ 0 := by exact_mod_cast hM
      have n2 : (N : Rat) ≠ 0 := by exact_mod_cast hN
      have n3 : ((M ^ p.length : Nat) : Rat) ≠ 0 := by exact_mod_cast Nat.pos_iff_ne_zero.mp (Nat.pow_pos (Nat.pos_of_ne_zero hM))
      generalize ((M ^ p.length : Nat) : Rat) = P at *
      generalize (M : Rat) = z at *
      generalize (N : Rat) = y at *
      grind
    · have h1 := ba.mul bp
      have h2 := bb.mul bd
      have e1 : (μ + m + 1) * (p.length + 1) = (μ + m + 1) * p.length + (μ + m + 1) := Nat.mul_succ _ _
      have e2 : μ * (p.length + 1) ≤ (μ + m + 1) * (p.length + 1) := Nat.mul_le_mul_right _ (by omega)
      have e3 : μ * (p.length + 1) = μ * p.length + μ := Nat.mul_succ _ _
      have e4 : μ * p.length ≤ (μ + m + 1) * p.length := Nat.mul_le_mul_right _ (by omega)
      rw [List.length_cons]
      exact ((h1.mono (b := (μ + m + 1) * p.length + k + 1 + (μ + m)) (by omega)).add (h2.mono (by omega))).mono (by omega)
theorem m_neR {n : Nat} {q r : Rat} {R : D → Prop} (h : R (.bl (!decide (q = r)))) : neT ownE n (encR q) (encR r) R := by
  refine ⟨rfl, ?_⟩
  show s_Ratio_eq [encR q, encR r] _
  exact m_req h
theorem Lp.pl9 {n : Nat} {p : List Rat} (h : Lp n p) : Pl 6 9 p := h.pl.mono (by decide)
theorem m_lled {p q : List Rat} {R : D → Prop} (hp : Lp 5 p) (hq : Lp 5 q) (h : R (encPP (pput p q))) : s_law_led [encPP p, encPP q] R := by
  have lp := hp.l
  have lq := hq.l
  unfold s_law_led
  rfl'
  refine ⟨sz, ?_⟩
  rw [← List.map_reverse]
  refine forC_map (fun ys s => s = encPP (pput ys.reverse q)) _ p.reverse rfl (fun ys c zs s nx e hs hn => ?_) fun s hs => ?_
  · subst hs
    have sub : ∀ x ∈ ys.reverse, x ∈ p := fun x hx => List.mem_reverse.mp (by rw [e]; exact List.mem_append_left _ (List.mem_reverse.mp hx))
    have mem : c ∈ p := List.mem_reverse.mp (by rw [e]; exact List.mem_append_right _ List.mem_cons_self)
    have ly : ys.length ≤ 4 := by
      have := congrArg List.length e
      rw [List.length_reverse, List.length_append, List.length_cons] at this
      omega
    have pl := pl_put0 hq.pl9 lq (p := ys.reverse) (hp.pl9.sub sub) (by rw [List.length_reverse]; omega)
    rw [List.length_reverse] at pl
    have ll := put_le (q := q) (n := 4) lq (p := ys.reverse)
    rw [List.length_reverse] at ll
    have p6 := pow6 (ys.length + 1)
    have hs := pl.hs (m := 75) p6.1 (Nat.lt_of_lt_of_le p6.2 (Nat.pow_le_pow_right (by decide) (by omega))) (by omega)
    have hc : Hs 5 [c] := fun x hx => by rw [List.mem_singleton.mp hx]; exact hp.hs c mem
    have tl := ptim_len (p := pput ys.reverse q) (q := q)
    have pt := pl_tim (m := 5) pl hq.pl9 (by omega)
    have p7 := pow6 (ys.length + 2)
    rw [← Nat.pow_succ] at pt
    have ht := pt.hs (m := 95) p7.1 (Nat.lt_of_lt_of_le p7.2 (Nat.pow_le_pow_right (by decide) (by omega))) (by omega)
    have lm : (pput ys.reverse q).length * q.length ≤ 13 * 5 := Nat.mul_le_mul (by omega) lq
    rfl'
    refine m_ltimes hs (hq.hs) (by decide) (by decide) (by omega) (by omega) (by omega) ⟨sz, m_ltrim (l := [c]) ?_⟩
    refine m_lsum ht (fun x hx => hc x (mem_trimZ hx)) (by decide) (by decide) (by decide) (by omega) (Nat.le_trans one_len (by decide)) (hn _ ?_)
    rw [List.reverse_append]
    rfl
  · subst hs
    rw [List.reverse_reverse]
    rfl'
    exact h
theorem m_put {a : Addr} {p q r : List Rat} {R : D → Prop} (hp : Lp 5 p) (hq : Lp 5 q) (hr : Lp 3 r) (hd : (p.length - 1) * (q.length - 1) ≤ 12) (h : R (.bl true)) : s_law_put_right [.pot a, encPP p, encPP q, encPP r] R := by
  have lp := hp.l
  have lq := hq.l
  have lr := hr.l
  unfold s_law_put_right
  rfl'
  refine m_given hp.hs (by decide) (by omega) fun v gv => ?_
  refine m_given hq.hs (by decide) (by omega) fun v' gv' => ?_
  refine m_given hr.hs (by decide) (by omega) fun w gw => ?_
  refine m_number (by decide) (by decide) fun c hc => ⟨sz, ?_⟩
  rfl'
  refine m_handed (rn_lq hc).d (by decide) fun d hd => ?_
  rfl'
  have sp := hp.hs.sn (by decide)
  have sq := hq.hs.sn (by decide)
  have sr := hr.hs.sn (by decide)
  obtain ⟨t, et, lt⟩ := tl_lst (n := 1) (ds := [v, v', w]) (m := 3) (fun d hd => by
    simp only [List.mem_cons, List.not_mem_nil, or_false] at hd
    rcases hd with rfl | rfl | rfl
    · exact gv.tl sp (by omega)
    · exact gv'.tl sq (by omega)
    · exact gw.tl sr (by omega)) (Nat.le_refl _)
  have lt := Nat.le_trans lt (show _ ≤ sizeLine by decide)
  have pva := gv.pv (N := 6) (k := 9) (n := 5) hp.t hp.pl9 hp.l (by decide)
  have pvb := gv'.pv (N := 6) (k := 9) (n := 5) hq.t hq.pl9 hq.l (by decide)
  have pvr := gw.pv (N := 6) (k := 9) (n := 3) hr.t hr.pl9 hr.l (by decide)
  have okA : Ok 6 9 := okk (by decide) (by decide) (by decide)
  have okB : Ok (6 ^ 6) 100 := ⟨by decide, Nat.lt_of_lt_of_le (by decide : 6 ^ 6 < 2 ^ 20) (Nat.pow_le_pow_right (by decide) (by decide)), by decide⟩
  have f1 := pl_put hp.pl9 hq.pl9 lp lq
  have d1 := put_le (p := p) (q := q) (n := q.length - 1) (by omega)
  have pvf := pv_Q (N := 6 ^ 6) (k := 100) (p := pput p q) pput_tr (by omega) f1
  have s1 := f1.hs (m := 120) (by decide) (by decide) (by decide)
  obtain ⟨u, eu, lu⟩ := tl_Q (n := 1) (s1.sn (by decide)) (show _ ≤ 13 by omega)
  have lu := Nat.le_trans lu (show _ ≤ sizeLine by decide)
  have eqQ : ∀ {p : List Rat} {R : D → Prop}, R (.bl false) → neT ownE 3 (encQ p) (encQ p) R := fun h => m_ne (fun d hd => by
    obtain ⟨x, _, rfl⟩ := List.mem_map.mp hd
    exact eqr_rat) h
  refine ⟨sz, t, et, lt, g_put (l := 3) (m := 3) okA okA pva pvb (by omega) (by decide) (by decide) (by decide) (by decide) ⟨u, eu, lu, ?_⟩⟩
  refine m_lled hp hq (m_lratios s1 (by decide) (by omega) ⟨u, eu, lu, ?_⟩)
  have uu : (u == u) = true := by simp
  rw [uu]
  rfl'
  simp only [arr_10]
  refine g_put (l := 3) (m := 3) okA okA pva pvb (by omega) (by decide) (by decide) (by decide) (by decide) (eqQ ?_)
  rfl'
  have rq' := rn_pev (N := 6) (M := 6) (m := 5) (μ := 3) (by decide) (by decide) (by decide) hc hq.pl9
  have lq6 : 6 * 6 ^ q.length < 2 ^ 20 := by
    have : (6 : Nat) ^ q.length ≤ 6 ^ 5 := Nat.pow_le_pow_right (by decide) lq
    exact Nat.lt_of_le_of_lt (Nat.mul_le_mul_left 6 this) (by decide)
  have rq' : Rn (6 * 6 ^ q.length) 60 (pev q c) := ⟨by
    obtain ⟨a, e, b⟩ := rq'.ex
    exact ⟨a, e, b.mono (by omega)⟩⟩
  have q60 : Ok (6 * 6 ^ q.length) 60 := okk (Nat.mul_ne_zero (by decide) (pow6 _).1) (Nat.lt_of_lt_of_le lq6 (by decide)) (by decide)
  refine g_worth okB ok6 pvf hd hc (by decide) ?_
  refine g_worth okA ok6 pvb hd hc (by decide) ?_
  refine g_worth okA q60 pva .rat rq' ⟨by decide, by decide, by decide, Nat.lt_of_lt_of_le lq6 (by decide)⟩ ?_
  rw [pev_put]
  refine m_neR ?_
  rw [decide_eq_true rfl]
  rfl'
  have d2 := put_le (p := q) (q := r) (n := 2) (by omega)
  have d3 := put_le (p := r) (q := q) (n := q.length - 1) (by omega)
  have pvqr := pv_Q (N := 6 ^ 6) (k := 100) (p := pput q r) pput_tr (by omega) (pl_put hq.pl9 hr.pl9 lq (by omega))
  have dd : (r.length - 1) * (q.length - 1) ≤ 2 * 4 := Nat.mul_le_mul (by omega) (by omega)
  have pvrq := pv_Q (N := 6 ^ 6) (k := 100) (p := pput r q) pput_tr (by omega) (pl_put hr.pl9 hq.pl9 (by omega) lq)
  have m1 : ((pput p q).length - 1) * (r.length - 1) ≤ 12 * 2 := Nat.mul_le_mul (by omega) (by omega)
  have m2 : (q.length - 1) * (r.length - 1) ≤ 4 * 2 := Nat.mul_le_mul (by omega) (by omega)
  have m3 : (p.length - 1) * ((pput q r).length - 1) ≤ 24 := by
    have : (p.length - 1) * ((pput q r).length - 1) ≤ (p.length - 1) * ((q.length - 1) * 2) := Nat.mul_le_mul_left _ (by omega)
    rw [← Nat.mul_assoc] at this
    omega
  refine g_put (l := 16) (m := 3) okB okA pvf pvr (by omega) (by decide) (by decide) (by decide) (by decide) ?_
  refine g_put (l := 3) (m := 3) okA okA pvb pvr (by omega) (by decide) (by decide) (by decide) (by decide) ?_
  refine g_put (l := 3) (m := 16) okA okB pva pvqr (by omega) (by decide) (by decide) (by decide) (by decide) ?_
  rw [put_put]
  refine eqQ ?_
  rfl'
  have a1 := padd_len (p := p) (q := r)
  have a2 := ptim_len (p := p) (q := r)
  have pvs := pv_Q (N := 6) (k := 9 + 1) (p := padd p r) trQ_trim (by omega) (pl_add hp.pl9 hr.pl9)
  have pvt := pv_Q (N := 6 * 6) (k := 3 + (9 + 9)) (p := ptim p r) trQ_trim (by omega) (pl_tim hp.pl9 hr.pl9 (by omega))
  have n1 : ((padd p r).length - 1) * (q.length - 1) ≤ 4 * 4 := Nat.mul_le_mul (by omega) (by omega)
  have n2 : ((ptim p r).length - 1) * (q.length - 1) ≤ 6 * 4 := Nat.mul_le_mul (by omega) (by omega)
  refine g_plus okA pva pvr (g_put (l := 3) (m := 3) (okk (by decide) (by decide) (by decide)) okA pvs pvb (by omega) (by decide) (by decide) (by decide) (by decide) ?_)
  refine g_put (l := 3) (m := 3) okA okA pvr pvb (by omega) (by decide) (by decide) (by decide) (by decide) (g_plus okB pvf pvrq ?_)
  rw [put_add]
  refine eqQ ?_
  rfl'
  refine g_times okA okA pva pvr (by omega) (g_put (l := 6) (m := 3) (okk (by decide) (by decide) (by decide)) okA pvt pvb (by omega) (by decide) (by decide) (by decide) (by decide) ?_)
  refine g_put (l := 3) (m := 3) okA okA pvr pvb (by omega) (by decide) (by decide) (by decide) (by decide) (g_times okB okB pvf pvrq (by omega) ?_)
  rw [put_tim]
  refine eqQ ?_
  rfl'
  have dp9 : Pl 6 9 (pdif p) := (pl_dif (m := 3) hp.pl (by omega)).mono (by decide)
  have dq9 : Pl 6 9 (pdif q) := (pl_dif (m := 3) hq.pl (by omega)).mono (by decide)
  have ldp := pdif_len (p := p)
  have ldq := pdif_len (p := q)
  have pvdp := pv_Q (N := 6) (k := 9) (p := pdif p) trQ_trim (by omega) dp9
  have pvdq := pv_Q (N := 6) (k := 9) (p := pdif q) trQ_trim (by omega) dq9
  have d4 := put_le (p := pdif p) (q := q) (n := q.length - 1) (by omega)
  have d5 : ((pdif p).length - 1) * (q.length - 1) ≤ (p.length - 1) * (q.length - 1) := Nat.mul_le_mul_right _ (by omega)
  have pvdpq := pv_Q (N := 6 ^ 6) (k := 100) (p := pput (pdif p) q) pput_tr (by omega) (pl_put dp9 hq.pl9 (by omega) lq)
  refine g_derived okB pvf (g_derived okA pva ?_)
  refine g_put (l := 3) (m := 3) okA okA pvdp pvb (by omega) (by decide) (by decide) (by decide) (by decide) (g_derived okA pvb ?_)
  refine g_times okB okA pvdpq pvdq (by omega) ?_
  rw [chain_rule]
  refine eqQ ?_
  rfl'
  refine ⟨sz, t, et, lt, ?_⟩
  have tt : (t == t) = true := by simp
  rw [tt]
  rfl'
  rw [List.length_map, List.length_map]
  by_cases h0 : p.length = 0
  · have e : (((p.length : Nat) : Int) == 0) = true := by rw [h0]; rfl
    rw [e]
    rfl'
    exact h
  have e : (((p.length : Nat) : Int) == 0) = false := by rw [beq_eq_false_iff_ne]; omega
  rw [e]
  rfl'
  by_cases h1 : q.length < 2
  · rw [decide_eq_true (show ((q.length : Nat) : Int) < 2 by omega)]
    rfl'
    exact h
  rw [decide_eq_false (show ¬ ((q.length : Nat) : Int) < 2 by omega)]
  rfl'
  refine g_degree okB pvf ⟨Bt.cm (a := 5) (b := 5) (by show ((p.length : Int) - 1).natAbs < 2 ^ 5; omega) (by show ((q.length : Int) - 1).natAbs < 2 ^ 5; omega) (by decide), ?_⟩
  rfl'
  have pl := put_len (p := p) (q := q) hq.t (by omega) hp.t (by rintro rfl; exact h0 rfl)
  have e2 : ((pput p q).length : Int) - 1 = ((p.length : Int) - 1) * ((q.length : Int) - 1) := by
    rw [show ((p.length : Int) - 1) = ((p.length - 1 : Nat) : Int) by omega, show ((q.length : Int) - 1) = ((q.length - 1 : Nat) : Int) by omega, ← Int.natCast_mul, pl]
    omega
  rw [e2, beq_self_eq_true]
  exact h
theorem lp_lit {n : Nat} {p : List Rat} (h1 : TrQ p) (h2 : p.length ≤ n) (h3 : ∀ q ∈ p, Lq q) : Lp n p := ⟨h1, h2, h3⟩
abbrev castL (l : List Int) : List Rat := l.map fun i : Int => (i : Rat)
theorem pv_iL {k : Nat} {l : List Int} (hl : l.length ≤ 25) (hb : ∀ i ∈ l, Bt k i) : Pv 1 k (iL l) (trimQ (castL l)) := by
  have nu : ∀ l : List Int, Nus (l.map D.int) (castL l) := fun l => by
    induction l with
    | nil => exact .nil
    | cons i l ih => exact .cons (nu_int i) ih
  refine ⟨castL l, ⟨⟨_, .l, nu l⟩, by rw [List.length_map]; exact hl, fun q hq => ?_⟩, rfl⟩
  obtain ⟨i, hi, rfl⟩ := List.mem_map.mp hq
  exact pl_int1 rfl (hb i hi)
theorem trim_one {c : Rat} : trimQ [c] = if c = 0 then [] else [c] := by
  by_cases h : c = 0
  · rw [if_pos h]
    refine (to_trim (p := []) (fun a e => nomatch e) fun k => ?_).symm
    rw [cf_nil]
    cases k with
    | zero => rw [cf_0, h]
    | succ k => rw [cf_s, cf_nil]
  · rw [if_neg h]
    exact trimZ_of (trQ_app (p := []) h)
theorem put_X {p : List Rat} (ht : TrQ p) : pput p [0, 1] = p := (put_eq ht fun x => by
  have : pev [0, 1] x = x := by show 0 + x * (1 + x * 0) = x; grind
  rw [this]).symm
theorem X_put {p : List Rat} (ht : TrQ p) : pput [0, 1] p = p := (put_eq ht fun x => by
  show _ = 0 + pev p x * (1 + pev p x * 0)
  grind).symm
theorem put_c {p : List Rat} {c : Rat} : pput p (trimQ [c]) = trimQ [pev p c] := pev_ext pput_tr trQ_trim fun x => by rw [pev_put, pev_trim, pev_one, pev_trim, pev_one]
theorem c_put {p : List Rat} {c : Rat} : pput (trimQ [c]) p = trimQ [c] := pev_ext pput_tr trQ_trim fun x => by rw [pev_put, pev_trim, pev_one, pev_trim, pev_one]
theorem eqQ3 {p : List Rat} {R : D → Prop} (h : R (.bl false)) : neT ownE 3 (encQ p) (encQ p) R := m_ne (fun d hd => by
    obtain ⟨x, _, rfl⟩ := List.mem_map.mp hd
    exact eqr_rat) h
theorem m_right13 {a : Addr} {R : D → Prop} (h : R (.bl true)) : s_law_right_k13 [.pot a] R := by
  unfold s_law_right_k13
  rfl'
  refine m_lstand (m := 5) rfl (by decide) (by decide) fun p hp np => ?_
  refine m_lstand (m := 4) rfl (by decide) (by decide) fun q hq nq => ?_
  refine m_lpoly (m := 3) rfl (by decide) fun r hr => ?_
  rfl'
  let xs : List D := [.lst [], .lst [.tup [.int 3, .int 1]], .lst [.tup [.int 0, .int 1], .tup [.int 1, .int 1]], .lst [.tup [.int 0, .int 1], .tup [.int (-2), .int 1]], .lst [.tup [.int 0, .int 1], .tup [.int 0, .int 1], .tup [.int 1, .int 1]]]
  have L0 : Lq 0 := lq0
  have L1 : Lq 1 := ⟨6, by decide +kernel, by decide⟩
  have hxs : ∀ x ∈ xs, ∃ f, Lp 3 f ∧ x = encPP f := by
    intro x hx
    simp only [xs, List.mem_cons, List.not_mem_nil, or_false] at hx
    rcases hx with rfl | rfl | rfl | rfl | rfl
    · exact ⟨[], lp_lit (fun a e => nomatch e) (by decide) (fun q h => nomatch h), rfl⟩
    · refine ⟨[3], lp_lit (trQ_app (p := []) (by decide +kernel)) (by decide) fun q h => ?_, rfl⟩
      rw [List.mem_singleton.mp h]
      exact ⟨18, by decide +kernel, by decide⟩
    · refine ⟨[0, 1], lp_lit (trQ_app (p := [0]) (by decide +kernel)) (by decide) fun q h => ?_, rfl⟩
      simp only [List.mem_cons, List.not_mem_nil, or_false] at h
      rcases h with rfl | rfl
      · exact L0
      · exact L1
    · refine ⟨[0, -2], lp_lit (trQ_app (p := [0]) (by decide +kernel)) (by decide) fun q h => ?_, rfl⟩
      simp only [List.mem_cons, List.not_mem_nil, or_false] at h
      rcases h with rfl | rfl
      · exact L0
      · exact ⟨-12, by decide +kernel, by decide⟩
    · refine ⟨[0, 0, 1], lp_lit (trQ_app (p := [0, 0]) (by decide +kernel)) (by decide) fun q h => ?_, rfl⟩
      simp only [List.mem_cons, List.not_mem_nil, or_false] at h
      rcases h with rfl | rfl | rfl
      · exact L0
      · exact L0
      · exact L1
  have lp := hp.l
  have lq := hq.l
  refine ⟨sz, sz, sz, sz, sz, sz, sz, sz, sz, sz, sz, sz, sz, sz, m_pick (xs := xs) (show 0 < 5 by decide) (show 5 ≤ 10000 by decide) fun f hf => ?_⟩
  obtain ⟨f, lf, rfl⟩ := hxs f hf
  have lfl := lf.l
  have d1 : (p.length - 1) * (q.length - 1) ≤ 4 * 3 := Nat.mul_le_mul (by omega) (by omega)
  have d2 : (f.length - 1) * (p.length - 1) ≤ 2 * 4 := Nat.mul_le_mul (by omega) (by omega)
  have d3 : (p.length - 1) * (f.length - 1) ≤ 4 * 2 := Nat.mul_le_mul (by omega) (by omega)
  refine m_put hp (hq.mono (by decide)) hr (by omega) ?_
  rfl'
  refine m_put (lf.mono (by decide)) hp hr (by omega) ?_
  rfl'
  refine ⟨sz, m_put (r := []) hp (lf.mono (by decide)) (lp_lit (fun a e => nomatch e) (by decide) (fun q h => nomatch h)) (by omega) ?_⟩
  rfl'
  refine m_given hp.hs (by decide) (by omega) fun v gv => ⟨sz, ?_⟩
  have pva := gv.pv (N := 6) (k := 9) (n := 5) hp.t hp.pl9 hp.l (by decide)
  have okA : Ok 6 9 := okk (by decide) (by decide) (by decide)
  have ok1 : Ok 1 9 := okk (by decide) (by decide) (by decide)
  have b01 : ∀ l : List Int, (∀ i ∈ l, i.natAbs ≤ 5) → ∀ i ∈ l, Bt 9 i := fun l h i hi => Nat.lt_of_le_of_lt (h i hi) (by decide)
  have x1 := pv_iL (k := 9) (l := [0, 1]) (by decide) (b01 _ (by decide))
  rw [show trimQ (castL [0, 1]) = [0, 1] by decide +kernel] at x1
  have x2 := pv_iL (k := 9) (l := [0, 1, 0]) (by decide) (b01 _ (by decide))
  rw [show trimQ (castL [0, 1, 0]) = [0, 1] by decide +kernel] at x2
  have x3 := pv_iL (k := 9) (l := []) (by decide) (b01 _ (by decide))
  rw [show trimQ (castL []) = [] by decide +kernel] at x3
  refine g_put (l := 3) (m := 1) okA ok1 pva x1 (by show (p.length - 1) * 1 ≤ 24; omega) (by decide) (by decide) (by decide) (by decide) (m_lratios hp.hs (by decide) (by omega) ?_)
  rw [put_X hp.t]
  refine eqQ3 ?_
  rfl'
  refine ⟨sz, g_put (l := 1) (m := 3) ok1 okA x2 pva (by show 1 * (p.length - 1) ≤ 24; omega) (by decide) (by decide) (by decide) (by decide) (m_lratios hp.hs (by decide) (by omega) ?_)⟩
  rw [X_put hp.t]
  refine eqQ3 ?_
  rfl'
  refine ⟨sz, g_put (l := 1) (m := 3) ok1 okA x3 pva (by show 0 * (p.length - 1) ≤ 24; omega) (by decide) (by decide) (by decide) (by decide) ⟨sz, ?_⟩⟩
  refine m_ne (ds := []) (fun d hd => nomatch hd) ?_
  rfl'
  refine m_draw (by decide) (by decide) fun i hi => ?_
  rfl'
  have hn : ((i : Int) - 3).natAbs ≤ 5 := by omega
  generalize (i : Int) - 3 = n at *
  have xn := pv_iL (k := 9) (l := [n]) (show 1 ≤ 25 by decide) (b01 _ (fun i hi => by rw [List.mem_singleton.mp hi]; exact hn))
  have xn : Pv 1 9 (iL [n]) (trimQ [(n : Rat)]) := xn
  have rn : Rn 1 9 (n : Rat) := ⟨pl_int1 rfl (Nat.lt_of_le_of_lt hn (by decide))⟩
  have ol := one_len (a := (n : Rat))
  refine g_worth okA ok1 pva (nu_int n) rn (by decide) ⟨sz, ?_⟩
  refine g_put (l := 1) (m := 3) ok1 okA xn pva (by
    have : ((trimQ [(n : Rat)]).length - 1) = 0 := by omega
    rw [this, Nat.zero_mul]
    decide) (by decide) (by decide) (by decide) (by decide) ?_
  rw [c_put, trim_one]
  have r0 : ∀ {R' : List D → Prop}, R' [.int 0, .int 1] → s_Ratio_init [.int 0, .int 1] R' := fun h => m_init (a := 0) (b := 1) (k := 1) (by decide) (by decide) (by decide) (by
    rw [rq_one]
    exact h)
  rfl'
  have fin : 1 ≤ sizeLine ∧ s_put_in [v, D.lst [D.int n]] fun x => s_Ratio_init ([D.int 0] ++ [D.int 1]) fun fl => neT ownE 3 (encR (pev p n)) (D.ins 0 fl) (tstK fun k => Uv.ite2 k (1 ≤ sizeLine ∧ eqT ownE 3 x (D.lst [encR (pev p n)]) R) (0 ≤ sizeLine ∧ eqT ownE 3 x (D.lst []) R)) := by
    refine ⟨sz, g_put (l := 3) (m := 1) okA ok1 pva xn (by
      have : ((trimQ [(n : Rat)]).length - 1) = 0 := by omega
      rw [this, Nat.mul_zero]
      decide) (by decide) (by decide) (by decide) (by decide) (r0 ?_)⟩
    show neT ownE 3 (encR (pev p n)) (encR 0) _
    rw [put_c, trim_one]
    refine m_neR ?_
    by_cases h0 : pev p n = 0
    · rw [decide_eq_true h0, if_pos h0]
      rfl'
      exact ⟨sz, eql_refl (n := 3) (ds := []) (fun d hd => nomatch hd) h⟩
    · rw [decide_eq_false h0, if_neg h0]
      rfl'
      exact ⟨sz, eql_refl (n := 3) (ds := [encR (pev p n)]) (fun d hd => by rw [List.mem_singleton.mp hd]; exact eqr_rat) h⟩
  by_cases h0 : n = 0
  · have e : (!(n == 0)) = false := by rw [h0]; rfl
    rw [e, if_pos (show (n : Rat) = 0 by rw [h0]; rfl)]
    rfl'
    refine ⟨sz, eql_refl (n := 3) (ds := []) (fun d hd => nomatch hd) ?_⟩
    rfl'
    exact fin
  · have e : (!(n == 0)) = true := by simp [h0]
    rw [e, if_neg (show ¬ (n : Rat) = 0 by exact_mod_cast h0)]
    rfl'
    refine m_init (a := n) (b := 1) (k := 1) (by decide) (by decide) (by decide) ⟨sz, ?_⟩
    rw [rq_one]
    refine eql_refl (n := 3) (ds := [encR (n : Rat)]) (fun d hd => by rw [List.mem_singleton.mp hd]; exact eqr_rat) ?_
    rfl'
    exact fin
end Ml
set_option Elab.async false
set_option linter.all false
set_option maxRecDepth 100000
set_option maxHeartbeats 4000000
set_option exponentiation.threshold 20000
open PySem PySem.W PySem.Calls PyProof.Rows
set_option maxHeartbeats 0 in
theorem PySem.Challenge.cw_innerfractions_k13_whole_polynomials_put_holds : PySem.Challenge.rw_innerfractions_k13_whole_polynomials_put.Holds := by
  w_on; o_law
  refine HandSHeadRun.head_imp (r := OpenLaw.row PySem.Challenge.rw_innerfractions_k13_whole_polynomials_put) (q := view (OpenLaw.row PySem.Challenge.rw_innerfractions_k13_whole_polynomials_put).prog [0, 59]) (H := K13.hk) (ob := K13.ob) (M := 30000) (loose := K13.names) (d := HandSHeadRun.topDef (OpenLaw.row PySem.Challenge.rw_innerfractions_k13_whole_polynomials_put).prog 59) (kwd := []) K13.ob_eq K13.run
    (by kernel_rfl) (by kernel_rfl) (by kernel_rfl) (by rfl) (by first | assumption | decide +kernel) (by decide +kernel) ⟨rfl, rfl, rfl, rfl, rfl, by decide +kernel⟩ ?hw ?hc
  case hw => w_witness2
  case hc =>
    refine Uv.walkE (l := PySem.Challenge.rw_innerfractions_k13_whole_polynomials_put) (n := 63) (k := 12) (x := "_law_script") rfl (by decide) (by kernel_rfl) ⟨rfl, by decide, by decide⟩ ?F
    intro w mg fa h Y G hmg0
    obtain ⟨K, KX, c⟩ := Y
    have hmg : mg ("law" : PySem.Str) = some (.ref fa) := by
      have e : (HandSHeadRun.topDef (OpenLaw.row PySem.Challenge.rw_innerfractions_k13_whole_polynomials_put).prog 59).name = ("law" : PySem.Str) := by kernel_rfl
      rw [← e]
      exact hmg0
    obtain ⟨fd, hb, hF⟩ := K13.law_of (P := (PySem.Challenge.rw_innerfractions_k13_whole_polynomials_put).prog) (w := w) KX G c hmg fun a R h => Ml.m_right13 h
    exact ⟨K, fd, Uv.spLaw K, KX, hb, fun T a ns oT hS => ⟨a, ns, rfl, hS, fun _ => rfl⟩, hF⟩
