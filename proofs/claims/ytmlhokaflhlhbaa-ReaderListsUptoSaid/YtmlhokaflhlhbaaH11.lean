/- Part H11 of the ghost memory: lemmas and contracts used by the proofs of this seat's laws; each theorem bears its own conditions. -/
import Derived.Test.YtmlhokaflhlhbaaH10
import Derived.WalkKit
import Derived.WalkSpells
import Derived.WalkLawsBesides
import Derived.Lib.Hide
import Derived.BigQuiet
import Derived.StillTailTactics
import Derived.Deep.RegionHeld3
import Derived.Deep.AppendLies
import Derived.Laws.CopyOwn
import Derived.Deep.DeepCutAuto
import Derived.Deep.QuietTactic
import Derived.Maps.AppendAt
import Derived.Great.BuildSlice
import Derived.Laws.StructEq
import Derived.IntWalk
import Derived.ProofKit
import Derived.OpenShut
import Derived.SizedLaws
import Derived.Deep.Slices
namespace Go.Proofs.Ytmlhokaflhlhbaa
open Go.RowKit
set_option linter.unusedVariables false
set_option linter.unusedSimpArgs false
section
variable {P : Program} {T : Xk} {O : Objs} {n : Nat}
theorem Jv {E : Env} {op : Op} {K K' : G → Objs → Nat → Prop} (h : gop P T E O n op K) (hk : ∀ g O' n', K g O' n' → K' g O' n') : gop P T E O n op K' := by
 unfold gop at h ⊢
 split at h
 ·split at h
  ·rename_i hev
   first
    | exact ⟨h.1, h.2.mono hk⟩
    | (simp only [hev]; exact ⟨h.1, h.2.mono hk⟩)
  exact h.elim
 split at h
 ·rename_i S g O' n' hs
  exact ⟨h.1, hk _ _ _ h.2⟩
 exact h.elim
def Vo (P : Program) (T : Xk) (ops : List Oper) : List Bool → List (Option Bool) → List Oper → Env → Objs → Nat → GK → Prop
 | _, _, [], E, O, n, K => K E O n
 | true :: bs, ds, o :: l, E, O, n, K => match o.guard with
  | none => gop P T E O n o.op fun g O' n' => Vo P T ops bs ds l (Zo E o.dst g) O' n' K
  | some g => match ds with
   | some true :: ds' => Z8 ops E (some g) = some true ∧ gop P T E O n o.op fun g O' n' => Vo P T ops bs ds' l (Zo E o.dst g) O' n' K
   | _ => False
 | false :: bs, ds, o :: l, E, O, n, K => match o.guard with
  | none => pop P T E O n o.op fun g => Vo P T ops bs ds l (Zo E o.dst g) O n K
  | some g => match ds with
   | some true :: ds' => Z8 ops E (some g) = some true ∧ pop P T E O n o.op fun g => Vo P T ops bs ds' l (Zo E o.dst g) O n K
   | some false :: ds' => Z8 ops E (some g) = some false ∧ Vo P T ops bs ds' l (Zo E o.dst (.val undef)) O n K
   | none :: ds' => match Z8 ops E (some g) with
    | some b => Yj o.op = true ∧ Kl T E O n o.op b fun g => Vo P T ops bs ds' l (Zo E o.dst g) O n K
    | none => False
   | [] => False
 | [], _, _ :: _, _, _, _, _ => False
def onB (P : Program) (T : Xk) (ops : List Oper) (bs : List Bool) (ds : List (Option Bool)) (l : List Oper) (E : Env) (d : Option Tmp) (K : GK) (g : G) (O' : Objs) (n' : Nat) : Prop := Vo P T ops bs ds l (Zo E d g) O' n' K
def Zme (P : Program) (T : Xk) (ops : List Oper) (bs : List Bool) (ds : List (Option Bool)) (l : List Oper) (E : Env) (d : Option Tmp) (O : Objs) (n : Nat) (K : GK) (g : G) : Prop := Vo P T ops bs ds l (Zo E d g) O n K
theorem Zao (ops : List Oper) (bs : List Bool) (ds : List (Option Bool)) (E : Env) (K : GK) : Vo P T ops bs ds [] E O n K = K E O n := by cases bs <;> cases ds <;> simp only [Vo]
theorem Zan (ops : List Oper) (bs : List Bool) (ds : List (Option Bool)) (d : Option Tmp) (op : Op) (ty : TypeId) (pos : String) (af : Array Edge) (l : List Oper) (E : Env) (K : GK) : Vo P T ops (true :: bs) ds (⟨d, op, ty, pos, af, none⟩ :: l) E O n K = gop P T E O n op (onB P T ops bs ds l E d K) := by cases ds <;> rfl
theorem Us (ops : List Oper) (bs : List Bool) (ds : List (Option Bool)) (d : Option Tmp) (op : Op) (ty : TypeId) (pos : String) (af : Array Edge) (g : Nat × Bool) (l : List Oper) (E : Env) (K : GK) :
  Vo P T ops (true :: bs) (some true :: ds) (⟨d, op, ty, pos, af, some g⟩ :: l) E O n K = (Z8 ops E (some g) = some true ∧ gop P T E O n op (onB P T ops bs ds l E d K)) := rfl
theorem Vp (ops : List Oper) (bs : List Bool) (ds : List (Option Bool)) (d : Option Tmp) (op : Op) (ty : TypeId) (pos : String) (af : Array Edge) (l : List Oper) (E : Env) (K : GK) : Vo P T ops (false :: bs) ds (⟨d, op, ty, pos, af, none⟩ :: l) E O n K = pop P T E O n op (Zme P T ops bs ds l E d O n K) := by cases ds <;> rfl
theorem Zfm (ops : List Oper) (bs : List Bool) (ds : List (Option Bool)) (d : Option Tmp) (op : Op) (ty : TypeId) (pos : String) (af : Array Edge) (g : Nat × Bool) (l : List Oper) (E : Env) (K : GK) :
  Vo P T ops (false :: bs) (some true :: ds) (⟨d, op, ty, pos, af, some g⟩ :: l) E O n K = (Z8 ops E (some g) = some true ∧ pop P T E O n op (Zme P T ops bs ds l E d O n K)) := rfl
theorem Zfk (ops : List Oper) (bs : List Bool) (ds : List (Option Bool)) (d : Option Tmp) (op : Op) (ty : TypeId) (pos : String) (af : Array Edge) (g : Nat × Bool) (l : List Oper) (E : Env) (K : GK) :
  Vo P T ops (false :: bs) (some false :: ds) (⟨d, op, ty, pos, af, some g⟩ :: l) E O n K = (Z8 ops E (some g) = some false ∧ Vo P T ops bs ds l (Zo E d (.val undef)) O n K) := rfl
theorem Zfl (ops : List Oper) (bs : List Bool) (ds : List (Option Bool)) (d : Option Tmp) (op : Op) (ty : TypeId) (pos : String) (af : Array Edge) (g : Nat × Bool) (l : List Oper) (E : Env) (K : GK) :
  Vo P T ops (false :: bs) (none :: ds) (⟨d, op, ty, pos, af, some g⟩ :: l) E O n K = match Z8 ops E (some g) with
   | some b => Yj op = true ∧ Kl T E O n op b (Zme P T ops bs ds l E d O n K)
   | none => False := rfl
end
end Go.Proofs.Ytmlhokaflhlhbaa
