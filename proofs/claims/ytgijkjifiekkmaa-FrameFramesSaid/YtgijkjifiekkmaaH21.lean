/- Part H21 of the ghost memory: lemmas and contracts used by the proofs of this seat's laws; each theorem bears its own conditions. -/
import Derived.Test.YtgijkjifiekkmaaH20
import Derived.WalkKit
import Derived.WalkSpells
import Derived.WalkLawsBesides
import Derived.Lib.Hide
import Derived.BigQuiet
import Derived.StillTailTactics
import Derived.Deep.RegionHeld3
import Derived.Deep.AppendLies
import Derived.Laws.CopyOwn
import Derived.Deep.DeepCutAuto
import Derived.Deep.QuietTactic
import Derived.Maps.AppendAt
import Derived.Great.BuildSlice
import Derived.Laws.StructEq
import Derived.IntWalk
import Derived.ProofKit
import Derived.OpenShut
import Derived.SizedLaws
import Derived.Deep.Slices
namespace Go.Proofs.Ytgijkjifiekkmaa
open Go.RowKit
set_option linter.unusedVariables false
set_option linter.unusedSimpArgs false
section
variable {P : Program} {T : Y6}
def agree (n0 : Nat → Prop) (O O' : Objs) : Prop := ∀ i, n0 i → O' i = O i
theorem agree.trans {n0 : Nat → Prop} {O O' O'' : Objs} (h : agree n0 O O') (k : agree n0 O' O'') : agree n0 O O'' := fun i hi => (k i hi).trans (h i hi)
inductive Kd where
 | plain
 | low
 | bar
 | pass
 | shp
 | fill (b : Bool)
def sameS (O O' : Objs) : Prop := ∀ i o, O i = some o → ∃ o', O' i = some o' ∧ o'.row = o.row ∧ o'.n = o.n
theorem sameS.refl (O : Objs) : sameS O O := fun _ o h => ⟨o, h, rfl, rfl⟩
theorem sameS.trans {O O' O'' : Objs} (h : sameS O O') (k : sameS O' O'') : sameS O O'' := fun i o ho => by
 obtain ⟨o1, a1, a2, a3⟩ := h i o ho
 obtain ⟨o2, b1, b2, b3⟩ := k i o1 a1
 exact ⟨o2, b1, b2.trans a2, b3.trans a3⟩
def Uv : Bool → G → Bool
 | false, .ref .. => true
 | true, .rp .. => true
 | _, _ => false
theorem Zkv {O O' : Objs} {cs : List G} {a : G} {b : Bool} (hf : Uv b a = true) (h : U2 O cs a = some O') : ∃ i q q', O i = some q ∧ q.row = b ∧ q'.row = q.row ∧ q'.n = q.n ∧ O' = O.upd i (some q') ∧ ∀ O2 : Objs, O2 i = some q → U2 O2 cs a = some (O2.upd i (some q')) := by
 cases a with
 | ref i off =>
  cases b with
  | true => simp [Uv] at hf
  | false =>
   simp only [U2] at h
   cases hi : O i with
   | none => rw [hi] at h; cases h
   | some q =>
    rw [hi] at h
    simp only at h
    by_cases hr : q.row = true
    ·rw [if_pos hr] at h; cases h
    rw [if_neg hr] at h
    obtain ⟨c, hc, e⟩ := Option.map_eq_some_iff.1 h
    exact ⟨i, q, { q with cells := c }, hi, by simpa using hr, rfl, rfl, e.symm, fun O2 h2 => by simp only [U2, h2]; rw [if_neg hr, hc]; rfl⟩
 | rp i k off =>
  cases b with
  | false => simp [Uv] at hf
  | true =>
   simp only [U2] at h
   cases hi : O i with
   | none => rw [hi] at h; cases h
   | some q =>
    rw [hi] at h
    simp only at h
    by_cases hr : q.row = true ∧ k = q.n
    ·rw [if_pos hr] at h
     obtain ⟨c, hc, e⟩ := Option.map_eq_some_iff.1 h
     exact ⟨i, q, { q with cells := c }, hi, hr.1, rfl, rfl, e.symm, fun O2 h2 => by simp only [U2, h2]; rw [if_pos hr, hc]; rfl⟩
    rw [if_neg hr] at h; cases h
 | _ => cases b <;> simp [Uv] at hf
def Fills (T : Y6) (b : Bool) (E : Env) (O : Objs) (op : Op) (O' : Objs) : Prop := ∃ t a x, op = .store t a x ∧ Uv b (Ur E a) = true ∧ Ky T O t (Ur E a) (Ur E x) = some O' ∧ wok (op.operands.toList.map (ev E))
theorem Zf2 {T : Y6} {O O' : Objs} {t : TypeId} {x a : G} {b : Bool} (hf : Uv b a = true) (h : Ky T O t a x = some O') : ∃ i q q', O i = some q ∧ q.row = b ∧ q'.row = q.row ∧ q'.n = q.n ∧ O' = O.upd i (some q') ∧ ∀ O2 : Objs, O2 i = some q → Ky T O2 t a x = some (O2.upd i (some q')) := by
 unfold Ky at h ⊢
 split at h
 ·split at h
  ·rename_i hc
   obtain ⟨i, q, q', h1, h2, h3, h4, h5, h6⟩ := Zkv hf h
   exact ⟨i, q, q', h1, h2, h3, h4, h5, fun O2 ho => by rw [if_pos hc]; exact h6 O2 ho⟩
  cases h
 cases h
theorem Zk8 {O : Objs} {i : Nat} {q q' : GObj} (ho : O i = some q) (h1 : q'.row = q.row) (h2 : q'.n = q.n) : sameS O (O.upd i (some q')) ∧ sameS (O.upd i (some q')) O := by
 refine ⟨fun j o hj => ?_, fun j o hj => ?_⟩
 ·by_cases e : j = i
  ·subst e; rw [ho] at hj; injection hj with hj; subst hj; exact ⟨q', Xn _ _ _, h1, h2⟩
  exact ⟨o, by rw [Qj _ _ e]; exact hj, rfl, rfl⟩
 by_cases e : j = i
 ·subst e; rw [Xn] at hj; injection hj with hj; subst hj; exact ⟨q, ho, h1.symm, h2.symm⟩
 rw [Qj _ _ e] at hj; exact ⟨o, hj, rfl, rfl⟩
theorem Fills.same {b : Bool} {E : Env} {O O' : Objs} {op : Op} (h : Fills T b E O op O') : sameS O O' ∧ sameS O' O := by
 obtain ⟨t, a, x, _, hf, hs, _⟩ := h
 obtain ⟨i, q, q', h1, h2, h3, h4, h5, _⟩ := Zf2 hf hs
 subst h5
 exact Zk8 h1 h3 h4
theorem Fills.eq {b : Bool} {E E' : Env} {O O' : Objs} {op : Op} (hE : ∀ x ∈ op.operands, ev E x = ev E' x) (h : Fills T b E O op O') : Fills T b E' O op O' := by
 obtain ⟨t, a, x, e, hf, hs, hw⟩ := h
 subst e
 have e1 : Ur E a = Ur E' a := by unfold Ur; rw [hE a (by simp [Op.operands])]
 have e2 : Ur E x = Ur E' x := by unfold Ur; rw [hE x (by simp [Op.operands])]
 refine ⟨t, a, x, rfl, by rw [← e1]; exact hf, by rw [← e1, ← e2]; exact hs, ?_⟩
 rw [show (Op.store t a x).operands.toList.map (ev E') = (Op.store t a x).operands.toList.map (ev E) from List.map_congr_left fun y hy => (hE y (by simpa using hy)).symm]
 exact hw
theorem Fills.gop {b : Bool} {E : Env} {O O' : Objs} {n : Nat} {op : Op} {K : G → Objs → Nat → Prop} (h : Fills T b E O op O') (hk : K (.val undef) O' n) : gop P T E O n op K := by
 obtain ⟨t, a, x, e, hf, hs, hw⟩ := h
 subst e
 unfold Go.Proofs.Ytgijkjifiekkmaa.gop Ji Qs
 simp only [hs, Option.map_some]
 exact ⟨⟨hw, trivial⟩, hk⟩
def Zf4 (ks : List Kd) (i : Nat) : Kd := ks.getD i .plain
def Zou (ki kj : Kd) (y : Oper) : Bool := match ki, kj with
 | .plain, .plain => true
 | .plain, .low => true
 | .low, .plain => true
 | .low, .low => true
 | .pass, .low => true
 | .pass, .plain => Jp y
 | .bar, .plain => Jp y
 | .plain, .shp => true
 | .low, .shp => true
 | .shp, .plain => true
 | .shp, .low => true
 | .shp, .shp => true
 | .fill _, .shp => true
 | .shp, .fill _ => true
 | .fill b, .fill c => b != c
 | .fill _, .plain => Jp y
 | _, _ => false
end
section
variable {P : Program} {T : Y6}
def Zey (ops : List Oper) (ks : List Kd) (j i : Nat) : Bool := match ops[i]?, ops[j]? with
 | some o, some y => (Vz ops o y && Zou (Zf4 ks i) (Zf4 ks j) y) || ((Je ops []).getD i []).contains j
 | _, _ => true
end
section
variable {P : Program} {T : Y6}
def Zos (n0 : Nat → Prop) : G → Prop
 | .ref i _ => n0 i
 | .row i _ => n0 i
 | .rs i _ _ => n0 i
 | .rp i _ _ => n0 i
 | _ => True
def Zmz (n0 : Nat → Prop) : List G → Prop
 | [] => True
 | g :: l => Zos n0 g ∧ Zmz n0 l
def PCallA (P : Program) (f : FuncId) (gs : List G) (K : G → Prop) : Prop := ∃ r, (∀ O n, GPure P f gs O n r) ∧ K r
theorem PCallA.of {f : FuncId} {gs : List G} {r : G} {K : G → Prop} (h : ∀ O n, GPure P f gs O n r) (hk : K r) : PCallA P f gs K := ⟨r, h, hk⟩
def Zk2 (P : Program) (T : Y6) (n0 : Nat → Prop) (E : Env) (O : Objs) (n : Nat) (op : Op) (K : G → Prop) : Prop :=
 match op with
 | .call ⟨.value o, args, _⟩ => match ev E o with
  | .fn f k cs => wok (args.toList.map (ev E)) ∧ PCallA P f (cs.take k ++ args.toList.map (Ur E) ++ cs.drop k) K
  | _ => False
 | op => match Ji T E O n op with
  | some (S, g, _, _) => S ∧ Xp op = true ∧ Zmz n0 (op.operands.toList.map (Ur E)) ∧ K g
  | none => False
def Zlz : Op → Bool
 | .load .. => false
 | .call .. => false
 | op => Xp op
def Zm4 (T : Y6) (E : Env) (O : Objs) (n : Nat) (op : Op) (K : G → Prop) : Prop :=
 match Ji T E O n op with
  | some (S, g, _, _) => S ∧ Zlz op = true ∧ K g
  | none => False
def Zeg (b : Bool) (E : Env) : Op → Bool
 | .store _ a _ => Uv b (Ur E a)
 | _ => false
def Xc (P : Program) (T : Y6) (ops : List Oper) (n0 : Nat → Prop) : List Kd → List (Option Bool) → List Oper → Env → Objs → Nat → GK → Prop
 | _, _, [], E, O, n, K => K E O n
 | .bar :: ks, ds, o :: l, E, O, n, K => match o.guard with
  | none => gop P T E O n o.op fun g O' n' => Xc P T ops n0 ks ds l (Zm E o.dst g) O' n' K
  | some _ => False
 | .pass :: ks, ds, o :: l, E, O, n, K => match o.guard with
  | none => gop P T E O n o.op fun g O' n' => agree n0 O O' ∧ Xc P T ops n0 ks ds l (Zm E o.dst g) O' n' K
  | some _ => False
 | .plain :: ks, ds, o :: l, E, O, n, K => match o.guard with
  | none => Vw P T E O n o.op fun g => Xc P T ops n0 ks ds l (Zm E o.dst g) O n K
  | some g => match ds with
   | some true :: ds' => Zx ops E (some g) = some true ∧ Vw P T E O n o.op fun g => Xc P T ops n0 ks ds' l (Zm E o.dst g) O n K
   | some false :: ds' => Zx ops E (some g) = some false ∧ Xc P T ops n0 ks ds' l (Zm E o.dst (.val undef)) O n K
   | _ => False
 | .low :: ks, ds, o :: l, E, O, n, K => match o.guard with
  | none => Zk2 P T n0 E O n o.op fun g => Xc P T ops n0 ks ds l (Zm E o.dst g) O n K
  | some g => match ds with
   | some true :: ds' => Zx ops E (some g) = some true ∧ Zk2 P T n0 E O n o.op fun g => Xc P T ops n0 ks ds' l (Zm E o.dst g) O n K
   | some false :: ds' => Zx ops E (some g) = some false ∧ Xc P T ops n0 ks ds' l (Zm E o.dst (.val undef)) O n K
   | _ => False
 | .shp :: ks, ds, o :: l, E, O, n, K => match o.guard with
  | none => Zm4 T E O n o.op fun g => Xc P T ops n0 ks ds l (Zm E o.dst g) O n K
  | some _ => False
 | .fill b :: ks, ds, o :: l, E, O, n, K => match o.guard with
  | none => Zeg b E o.op = true ∧ gop P T E O n o.op fun g O' n' => Xc P T ops n0 ks ds l (Zm E o.dst g) O' n' K
  | some _ => False
 | [], _, _ :: _, _, _, _, _ => False
end
section
variable {P : Program} {T : Y6}
def Zm2 (P : Program) (T : Y6) (ops : List Oper) (n0 : Nat → Prop) (ks : List Kd) (ds : List (Option Bool)) (l : List Oper) (E : Env) (d : Option Tmp) (K : GK) (g : G) (O' : Objs) (n' : Nat) : Prop := Xc P T ops n0 ks ds l (Zm E d g) O' n' K
def Zot (P : Program) (T : Y6) (ops : List Oper) (n0 : Nat → Prop) (ks : List Kd) (ds : List (Option Bool)) (l : List Oper) (E : Env) (d : Option Tmp) (O : Objs) (K : GK) (g : G) (O' : Objs) (n' : Nat) : Prop := agree n0 O O' ∧ Xc P T ops n0 ks ds l (Zm E d g) O' n' K
def Zhu (P : Program) (T : Y6) (ops : List Oper) (n0 : Nat → Prop) (ks : List Kd) (ds : List (Option Bool)) (l : List Oper) (E : Env) (d : Option Tmp) (O : Objs) (n : Nat) (K : GK) (g : G) : Prop := Xc P T ops n0 ks ds l (Zm E d g) O n K
theorem Zdv (ops : List Oper) (n0 : Nat → Prop) (ks : List Kd) (ds : List (Option Bool)) (E : Env) (O : Objs) (n : Nat) (K : GK) : Xc P T ops n0 ks ds [] E O n K = K E O n := by cases ks <;> cases ds <;> simp only [Xc]
theorem Zdt (ops : List Oper) (n0 : Nat → Prop) (ks : List Kd) (ds : List (Option Bool)) (d : Option Tmp) (op : Op) (ty : TypeId) (pos : String) (af : Array Edge) (l : List Oper) (E : Env) (O : Objs) (n : Nat) (K : GK) : Xc P T ops n0 (.bar :: ks) ds (⟨d, op, ty, pos, af, none⟩ :: l) E O n K = gop P T E O n op (Zm2 P T ops n0 ks ds l E d K) := by cases ds <;> rfl
theorem Zb3 (ops : List Oper) (n0 : Nat → Prop) (ks : List Kd) (ds : List (Option Bool)) (d : Option Tmp) (op : Op) (ty : TypeId) (pos : String) (af : Array Edge) (l : List Oper) (E : Env) (O : Objs) (n : Nat) (K : GK) : Xc P T ops n0 (.pass :: ks) ds (⟨d, op, ty, pos, af, none⟩ :: l) E O n K = gop P T E O n op (Zot P T ops n0 ks ds l E d O K) := by cases ds <;> rfl
theorem Zat (ops : List Oper) (n0 : Nat → Prop) (ks : List Kd) (ds : List (Option Bool)) (d : Option Tmp) (op : Op) (ty : TypeId) (pos : String) (af : Array Edge) (l : List Oper) (E : Env) (O : Objs) (n : Nat) (K : GK) : Xc P T ops n0 (.plain :: ks) ds (⟨d, op, ty, pos, af, none⟩ :: l) E O n K = Vw P T E O n op (Zhu P T ops n0 ks ds l E d O n K) := by cases ds <;> rfl
theorem Zdu (ops : List Oper) (n0 : Nat → Prop) (ks : List Kd) (ds : List (Option Bool)) (d : Option Tmp) (op : Op) (ty : TypeId) (pos : String) (af : Array Edge) (l : List Oper) (E : Env) (O : Objs) (n : Nat) (K : GK) : Xc P T ops n0 (.low :: ks) ds (⟨d, op, ty, pos, af, none⟩ :: l) E O n K = Zk2 P T n0 E O n op (Zhu P T ops n0 ks ds l E d O n K) := by cases ds <;> rfl
theorem Zdw (ops : List Oper) (n0 : Nat → Prop) (ks : List Kd) (ds : List (Option Bool)) (d : Option Tmp) (op : Op) (ty : TypeId) (pos : String) (af : Array Edge) (l : List Oper) (E : Env) (O : Objs) (n : Nat) (K : GK) : Xc P T ops n0 (.shp :: ks) ds (⟨d, op, ty, pos, af, none⟩ :: l) E O n K = Zm4 T E O n op (Zhu P T ops n0 ks ds l E d O n K) := by cases ds <;> rfl
theorem Zb2 (ops : List Oper) (n0 : Nat → Prop) (b : Bool) (ks : List Kd) (ds : List (Option Bool)) (d : Option Tmp) (op : Op) (ty : TypeId) (pos : String) (af : Array Edge) (l : List Oper) (E : Env) (O : Objs) (n : Nat) (K : GK) : Xc P T ops n0 (.fill b :: ks) ds (⟨d, op, ty, pos, af, none⟩ :: l) E O n K = (Zeg b E op = true ∧ gop P T E O n op (Zm2 P T ops n0 ks ds l E d K)) := by cases ds <;> rfl
theorem Zgm (ops : List Oper) (n0 : Nat → Prop) (ks : List Kd) (ds : List (Option Bool)) (d : Option Tmp) (op : Op) (ty : TypeId) (pos : String) (af : Array Edge) (g : Nat × Bool) (l : List Oper) (E : Env) (O : Objs) (n : Nat) (K : GK) :
  Xc P T ops n0 (.plain :: ks) (some true :: ds) (⟨d, op, ty, pos, af, some g⟩ :: l) E O n K = (Zx ops E (some g) = some true ∧ Vw P T E O n op (Zhu P T ops n0 ks ds l E d O n K)) := rfl
theorem Zgl (ops : List Oper) (n0 : Nat → Prop) (ks : List Kd) (ds : List (Option Bool)) (d : Option Tmp) (op : Op) (ty : TypeId) (pos : String) (af : Array Edge) (g : Nat × Bool) (l : List Oper) (E : Env) (O : Objs) (n : Nat) (K : GK) :
  Xc P T ops n0 (.plain :: ks) (some false :: ds) (⟨d, op, ty, pos, af, some g⟩ :: l) E O n K = (Zx ops E (some g) = some false ∧ Xc P T ops n0 ks ds l (Zm E d (.val undef)) O n K) := rfl
theorem Zgk (ops : List Oper) (n0 : Nat → Prop) (ks : List Kd) (ds : List (Option Bool)) (d : Option Tmp) (op : Op) (ty : TypeId) (pos : String) (af : Array Edge) (g : Nat × Bool) (l : List Oper) (E : Env) (O : Objs) (n : Nat) (K : GK) :
  Xc P T ops n0 (.low :: ks) (some true :: ds) (⟨d, op, ty, pos, af, some g⟩ :: l) E O n K = (Zx ops E (some g) = some true ∧ Zk2 P T n0 E O n op (Zhu P T ops n0 ks ds l E d O n K)) := rfl
theorem Zgj (ops : List Oper) (n0 : Nat → Prop) (ks : List Kd) (ds : List (Option Bool)) (d : Option Tmp) (op : Op) (ty : TypeId) (pos : String) (af : Array Edge) (g : Nat × Bool) (l : List Oper) (E : Env) (O : Objs) (n : Nat) (K : GK) :
  Xc P T ops n0 (.low :: ks) (some false :: ds) (⟨d, op, ty, pos, af, some g⟩ :: l) E O n K = (Zx ops E (some g) = some false ∧ Xc P T ops n0 ks ds l (Zm E d (.val undef)) O n K) := rfl
def Ka (ops : List Oper) : List Nat → List Oper
 | [] => []
 | i :: L => match ops[i]? with
  | some o => o :: Ka ops L
  | none => Ka ops L
end
end Go.Proofs.Ytgijkjifiekkmaa
