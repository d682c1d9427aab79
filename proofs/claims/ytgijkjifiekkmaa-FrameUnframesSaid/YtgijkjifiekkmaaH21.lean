/- Part H21 of the ghost memory: lemmas and contracts used by the proofs of this seat's laws; each theorem bears its own conditions. -/
import Derived.Test.YtgijkjifiekkmaaH20
import Derived.WalkKit
import Derived.WalkSpells
import Derived.WalkLawsBesides
import Derived.Lib.Hide
import Derived.BigQuiet
import Derived.StillTailTactics
import Derived.Deep.RegionHeld3
import Derived.Deep.AppendLies
import Derived.Laws.CopyOwn
import Derived.Deep.DeepCutAuto
import Derived.Deep.QuietTactic
import Derived.Maps.AppendAt
import Derived.Great.BuildSlice
import Derived.Laws.StructEq
import Derived.IntWalk
import Derived.ProofKit
import Derived.OpenShut
import Derived.SizedLaws
import Derived.Deep.Slices
namespace Go.Proofs.Ytgijkjifiekkmaa
open Go.RowKit
set_option linter.unusedVariables false
set_option linter.unusedSimpArgs false
section
variable {P : Program} {T : Y5}
def agree (n0 : Nat → Prop) (O O' : Objs) : Prop := ∀ i, n0 i → O' i = O i
theorem agree.trans {n0 : Nat → Prop} {O O' O'' : Objs} (h : agree n0 O O') (k : agree n0 O' O'') : agree n0 O O'' := fun i hi => (k i hi).trans (h i hi)
inductive Kd where
 | plain
 | low
 | bar
 | pass
 | shp
 | fill (b : Bool)
def sameS (O O' : Objs) : Prop := ∀ i o, O i = some o → ∃ o', O' i = some o' ∧ o'.row = o.row ∧ o'.n = o.n
theorem sameS.refl (O : Objs) : sameS O O := fun _ o h => ⟨o, h, rfl, rfl⟩
theorem sameS.trans {O O' O'' : Objs} (h : sameS O O') (k : sameS O' O'') : sameS O O'' := fun i o ho => by
 obtain ⟨o1, a1, a2, a3⟩ := h i o ho
 obtain ⟨o2, b1, b2, b3⟩ := k i o1 a1
 exact ⟨o2, b1, b2.trans a2, b3.trans a3⟩
def Uk : Bool → G → Bool
 | false, .ref .. => true
 | true, .rp .. => true
 | _, _ => false
theorem Zkt {O O' : Objs} {cs : List G} {a : G} {b : Bool} (hf : Uk b a = true) (h : Us O cs a = some O') : ∃ i q q', O i = some q ∧ q.row = b ∧ q'.row = q.row ∧ q'.n = q.n ∧ O' = O.upd i (some q') ∧ ∀ O2 : Objs, O2 i = some q → Us O2 cs a = some (O2.upd i (some q')) := by
 cases a with
 | ref i off =>
  cases b with
  | true => simp [Uk] at hf
  | false =>
   simp only [Us] at h
   cases hi : O i with
   | none => rw [hi] at h; cases h
   | some q =>
    rw [hi] at h
    simp only at h
    by_cases hr : q.row = true
    ·rw [if_pos hr] at h; cases h
    rw [if_neg hr] at h
    obtain ⟨c, hc, e⟩ := Option.map_eq_some_iff.1 h
    exact ⟨i, q, { q with cells := c }, hi, by simpa using hr, rfl, rfl, e.symm, fun O2 h2 => by simp only [Us, h2]; rw [if_neg hr, hc]; rfl⟩
 | rp i k off =>
  cases b with
  | false => simp [Uk] at hf
  | true =>
   simp only [Us] at h
   cases hi : O i with
   | none => rw [hi] at h; cases h
   | some q =>
    rw [hi] at h
    simp only at h
    by_cases hr : q.row = true ∧ k = q.n
    ·rw [if_pos hr] at h
     obtain ⟨c, hc, e⟩ := Option.map_eq_some_iff.1 h
     exact ⟨i, q, { q with cells := c }, hi, hr.1, rfl, rfl, e.symm, fun O2 h2 => by simp only [Us, h2]; rw [if_pos hr, hc]; rfl⟩
    rw [if_neg hr] at h; cases h
 | _ => cases b <;> simp [Uk] at hf
def Fills (T : Y5) (b : Bool) (E : Env) (O : Objs) (op : Op) (O' : Objs) : Prop := ∃ t a x, op = .store t a x ∧ Uk b (Uh E a) = true ∧ Ky T O t (Uh E a) (Uh E x) = some O' ∧ wok (op.operands.toList.map (ev E))
theorem Zf0 {T : Y5} {O O' : Objs} {t : TypeId} {x a : G} {b : Bool} (hf : Uk b a = true) (h : Ky T O t a x = some O') : ∃ i q q', O i = some q ∧ q.row = b ∧ q'.row = q.row ∧ q'.n = q.n ∧ O' = O.upd i (some q') ∧ ∀ O2 : Objs, O2 i = some q → Ky T O2 t a x = some (O2.upd i (some q')) := by
 unfold Ky at h ⊢
 split at h
 ·split at h
  ·rename_i hc
   obtain ⟨i, q, q', h1, h2, h3, h4, h5, h6⟩ := Zkt hf h
   exact ⟨i, q, q', h1, h2, h3, h4, h5, fun O2 ho => by rw [if_pos hc]; exact h6 O2 ho⟩
  cases h
 cases h
theorem Zk8 {O : Objs} {i : Nat} {q q' : GObj} (ho : O i = some q) (h1 : q'.row = q.row) (h2 : q'.n = q.n) : sameS O (O.upd i (some q')) ∧ sameS (O.upd i (some q')) O := by
 refine ⟨fun j o hj => ?_, fun j o hj => ?_⟩
 ·by_cases e : j = i
  ·subst e; rw [ho] at hj; injection hj with hj; subst hj; exact ⟨q', Xn _ _ _, h1, h2⟩
  exact ⟨o, by rw [Qh _ _ e]; exact hj, rfl, rfl⟩
 by_cases e : j = i
 ·subst e; rw [Xn] at hj; injection hj with hj; subst hj; exact ⟨q, ho, h1.symm, h2.symm⟩
 rw [Qh _ _ e] at hj; exact ⟨o, hj, rfl, rfl⟩
theorem Fills.same {b : Bool} {E : Env} {O O' : Objs} {op : Op} (h : Fills T b E O op O') : sameS O O' ∧ sameS O' O := by
 obtain ⟨t, a, x, _, hf, hs, _⟩ := h
 obtain ⟨i, q, q', h1, h2, h3, h4, h5, _⟩ := Zf0 hf hs
 subst h5
 exact Zk8 h1 h3 h4
theorem Fills.eq {b : Bool} {E E' : Env} {O O' : Objs} {op : Op} (hE : ∀ x ∈ op.operands, ev E x = ev E' x) (h : Fills T b E O op O') : Fills T b E' O op O' := by
 obtain ⟨t, a, x, e, hf, hs, hw⟩ := h
 subst e
 have e1 : Uh E a = Uh E' a := by unfold Uh; rw [hE a (by simp [Op.operands])]
 have e2 : Uh E x = Uh E' x := by unfold Uh; rw [hE x (by simp [Op.operands])]
 refine ⟨t, a, x, rfl, by rw [← e1]; exact hf, by rw [← e1, ← e2]; exact hs, ?_⟩
 rw [show (Op.store t a x).operands.toList.map (ev E') = (Op.store t a x).operands.toList.map (ev E) from List.map_congr_left fun y hy => (hE y (by simpa using hy)).symm]
 exact hw
theorem Fills.gop {b : Bool} {E : Env} {O O' : Objs} {n : Nat} {op : Op} {K : G → Objs → Nat → Prop} (h : Fills T b E O op O') (hk : K (.val undef) O' n) : gop P T E O n op K := by
 obtain ⟨t, a, x, e, hf, hs, hw⟩ := h
 subst e
 unfold Go.Proofs.Ytgijkjifiekkmaa.gop Jh Qo
 simp only [hs, Option.map_some]
 exact ⟨⟨hw, trivial⟩, hk⟩
def Zf2 (ks : List Kd) (i : Nat) : Kd := ks.getD i .plain
def Zou (ki kj : Kd) (y : Oper) : Bool := match ki, kj with
 | .plain, .plain => true
 | .plain, .low => true
 | .low, .plain => true
 | .low, .low => true
 | .pass, .low => true
 | .pass, .plain => Jn y
 | .bar, .plain => Jn y
 | .plain, .shp => true
 | .low, .shp => true
 | .shp, .plain => true
 | .shp, .low => true
 | .shp, .shp => true
 | .fill _, .shp => true
 | .shp, .fill _ => true
 | .fill b, .fill c => b != c
 | .fill _, .plain => Jn y
 | _, _ => false
end
section
variable {P : Program} {T : Y5}
def Zey (ops : List Oper) (ks : List Kd) (j i : Nat) : Bool := match ops[i]?, ops[j]? with
 | some o, some y => (Vu ops o y && Zou (Zf2 ks i) (Zf2 ks j) y) || ((Je ops []).getD i []).contains j
 | _, _ => true
end
section
variable {P : Program} {T : Y5}
def Zor (n0 : Nat → Prop) : G → Prop
 | .ref i _ => n0 i
 | .row i _ => n0 i
 | .rs i _ _ => n0 i
 | .rp i _ _ => n0 i
 | _ => True
def Zmz (n0 : Nat → Prop) : List G → Prop
 | [] => True
 | g :: l => Zor n0 g ∧ Zmz n0 l
def PCallA (P : Program) (f : FuncId) (gs : List G) (K : G → Prop) : Prop := ∃ r, (∀ O n, GPure P f gs O n r) ∧ K r
theorem PCallA.of {f : FuncId} {gs : List G} {r : G} {K : G → Prop} (h : ∀ O n, GPure P f gs O n r) (hk : K r) : PCallA P f gs K := ⟨r, h, hk⟩
def Zk1 (P : Program) (T : Y5) (n0 : Nat → Prop) (E : Env) (O : Objs) (n : Nat) (op : Op) (K : G → Prop) : Prop :=
 match op with
 | .call ⟨.value o, args, _⟩ => match ev E o with
  | .fn f k cs => wok (args.toList.map (ev E)) ∧ PCallA P f (cs.take k ++ args.toList.map (Uh E) ++ cs.drop k) K
  | _ => False
 | op => match Jh T E O n op with
  | some (S, g, _, _) => S ∧ Xp op = true ∧ Zmz n0 (op.operands.toList.map (Uh E)) ∧ K g
  | none => False
def Zlx : Op → Bool
 | .load .. => false
 | .call .. => false
 | op => Xp op
def Zm4 (T : Y5) (E : Env) (O : Objs) (n : Nat) (op : Op) (K : G → Prop) : Prop :=
 match Jh T E O n op with
  | some (S, g, _, _) => S ∧ Zlx op = true ∧ K g
  | none => False
def Zee (b : Bool) (E : Env) : Op → Bool
 | .store _ a _ => Uk b (Uh E a)
 | _ => false
def Xb (P : Program) (T : Y5) (ops : List Oper) (n0 : Nat → Prop) : List Kd → List (Option Bool) → List Oper → Env → Objs → Nat → GK → Prop
 | _, _, [], E, O, n, K => K E O n
 | .bar :: ks, ds, o :: l, E, O, n, K => match o.guard with
  | none => gop P T E O n o.op fun g O' n' => Xb P T ops n0 ks ds l (Zq E o.dst g) O' n' K
  | some _ => False
 | .pass :: ks, ds, o :: l, E, O, n, K => match o.guard with
  | none => gop P T E O n o.op fun g O' n' => agree n0 O O' ∧ Xb P T ops n0 ks ds l (Zq E o.dst g) O' n' K
  | some _ => False
 | .plain :: ks, ds, o :: l, E, O, n, K => match o.guard with
  | none => Vs P T E O n o.op fun g => Xb P T ops n0 ks ds l (Zq E o.dst g) O n K
  | some g => match ds with
   | some true :: ds' => Z5 ops E (some g) = some true ∧ Vs P T E O n o.op fun g => Xb P T ops n0 ks ds' l (Zq E o.dst g) O n K
   | some false :: ds' => Z5 ops E (some g) = some false ∧ Xb P T ops n0 ks ds' l (Zq E o.dst (.val undef)) O n K
   | _ => False
 | .low :: ks, ds, o :: l, E, O, n, K => match o.guard with
  | none => Zk1 P T n0 E O n o.op fun g => Xb P T ops n0 ks ds l (Zq E o.dst g) O n K
  | some g => match ds with
   | some true :: ds' => Z5 ops E (some g) = some true ∧ Zk1 P T n0 E O n o.op fun g => Xb P T ops n0 ks ds' l (Zq E o.dst g) O n K
   | some false :: ds' => Z5 ops E (some g) = some false ∧ Xb P T ops n0 ks ds' l (Zq E o.dst (.val undef)) O n K
   | _ => False
 | .shp :: ks, ds, o :: l, E, O, n, K => match o.guard with
  | none => Zm4 T E O n o.op fun g => Xb P T ops n0 ks ds l (Zq E o.dst g) O n K
  | some _ => False
 | .fill b :: ks, ds, o :: l, E, O, n, K => match o.guard with
  | none => Zee b E o.op = true ∧ gop P T E O n o.op fun g O' n' => Xb P T ops n0 ks ds l (Zq E o.dst g) O' n' K
  | some _ => False
 | [], _, _ :: _, _, _, _, _ => False
end
section
variable {P : Program} {T : Y5}
def Zm2 (P : Program) (T : Y5) (ops : List Oper) (n0 : Nat → Prop) (ks : List Kd) (ds : List (Option Bool)) (l : List Oper) (E : Env) (d : Option Tmp) (K : GK) (g : G) (O' : Objs) (n' : Nat) : Prop := Xb P T ops n0 ks ds l (Zq E d g) O' n' K
def Zos (P : Program) (T : Y5) (ops : List Oper) (n0 : Nat → Prop) (ks : List Kd) (ds : List (Option Bool)) (l : List Oper) (E : Env) (d : Option Tmp) (O : Objs) (K : GK) (g : G) (O' : Objs) (n' : Nat) : Prop := agree n0 O O' ∧ Xb P T ops n0 ks ds l (Zq E d g) O' n' K
def Zhs (P : Program) (T : Y5) (ops : List Oper) (n0 : Nat → Prop) (ks : List Kd) (ds : List (Option Bool)) (l : List Oper) (E : Env) (d : Option Tmp) (O : Objs) (n : Nat) (K : GK) (g : G) : Prop := Xb P T ops n0 ks ds l (Zq E d g) O n K
theorem Zds (ops : List Oper) (n0 : Nat → Prop) (ks : List Kd) (ds : List (Option Bool)) (E : Env) (O : Objs) (n : Nat) (K : GK) : Xb P T ops n0 ks ds [] E O n K = K E O n := by cases ks <;> cases ds <;> simp only [Xb]
theorem Zdq (ops : List Oper) (n0 : Nat → Prop) (ks : List Kd) (ds : List (Option Bool)) (d : Option Tmp) (op : Op) (ty : TypeId) (pos : String) (af : Array Edge) (l : List Oper) (E : Env) (O : Objs) (n : Nat) (K : GK) : Xb P T ops n0 (.bar :: ks) ds (⟨d, op, ty, pos, af, none⟩ :: l) E O n K = gop P T E O n op (Zm2 P T ops n0 ks ds l E d K) := by cases ds <;> rfl
theorem Zb2 (ops : List Oper) (n0 : Nat → Prop) (ks : List Kd) (ds : List (Option Bool)) (d : Option Tmp) (op : Op) (ty : TypeId) (pos : String) (af : Array Edge) (l : List Oper) (E : Env) (O : Objs) (n : Nat) (K : GK) : Xb P T ops n0 (.pass :: ks) ds (⟨d, op, ty, pos, af, none⟩ :: l) E O n K = gop P T E O n op (Zos P T ops n0 ks ds l E d O K) := by cases ds <;> rfl
theorem Zai (ops : List Oper) (n0 : Nat → Prop) (ks : List Kd) (ds : List (Option Bool)) (d : Option Tmp) (op : Op) (ty : TypeId) (pos : String) (af : Array Edge) (l : List Oper) (E : Env) (O : Objs) (n : Nat) (K : GK) : Xb P T ops n0 (.plain :: ks) ds (⟨d, op, ty, pos, af, none⟩ :: l) E O n K = Vs P T E O n op (Zhs P T ops n0 ks ds l E d O n K) := by cases ds <;> rfl
theorem Zdr (ops : List Oper) (n0 : Nat → Prop) (ks : List Kd) (ds : List (Option Bool)) (d : Option Tmp) (op : Op) (ty : TypeId) (pos : String) (af : Array Edge) (l : List Oper) (E : Env) (O : Objs) (n : Nat) (K : GK) : Xb P T ops n0 (.low :: ks) ds (⟨d, op, ty, pos, af, none⟩ :: l) E O n K = Zk1 P T n0 E O n op (Zhs P T ops n0 ks ds l E d O n K) := by cases ds <;> rfl
theorem Zdt (ops : List Oper) (n0 : Nat → Prop) (ks : List Kd) (ds : List (Option Bool)) (d : Option Tmp) (op : Op) (ty : TypeId) (pos : String) (af : Array Edge) (l : List Oper) (E : Env) (O : Objs) (n : Nat) (K : GK) : Xb P T ops n0 (.shp :: ks) ds (⟨d, op, ty, pos, af, none⟩ :: l) E O n K = Zm4 T E O n op (Zhs P T ops n0 ks ds l E d O n K) := by cases ds <;> rfl
theorem Zb1 (ops : List Oper) (n0 : Nat → Prop) (b : Bool) (ks : List Kd) (ds : List (Option Bool)) (d : Option Tmp) (op : Op) (ty : TypeId) (pos : String) (af : Array Edge) (l : List Oper) (E : Env) (O : Objs) (n : Nat) (K : GK) : Xb P T ops n0 (.fill b :: ks) ds (⟨d, op, ty, pos, af, none⟩ :: l) E O n K = (Zee b E op = true ∧ gop P T E O n op (Zm2 P T ops n0 ks ds l E d K)) := by cases ds <;> rfl
theorem Zgk (ops : List Oper) (n0 : Nat → Prop) (ks : List Kd) (ds : List (Option Bool)) (d : Option Tmp) (op : Op) (ty : TypeId) (pos : String) (af : Array Edge) (g : Nat × Bool) (l : List Oper) (E : Env) (O : Objs) (n : Nat) (K : GK) :
  Xb P T ops n0 (.plain :: ks) (some true :: ds) (⟨d, op, ty, pos, af, some g⟩ :: l) E O n K = (Z5 ops E (some g) = some true ∧ Vs P T E O n op (Zhs P T ops n0 ks ds l E d O n K)) := rfl
theorem Zgj (ops : List Oper) (n0 : Nat → Prop) (ks : List Kd) (ds : List (Option Bool)) (d : Option Tmp) (op : Op) (ty : TypeId) (pos : String) (af : Array Edge) (g : Nat × Bool) (l : List Oper) (E : Env) (O : Objs) (n : Nat) (K : GK) :
  Xb P T ops n0 (.plain :: ks) (some false :: ds) (⟨d, op, ty, pos, af, some g⟩ :: l) E O n K = (Z5 ops E (some g) = some false ∧ Xb P T ops n0 ks ds l (Zq E d (.val undef)) O n K) := rfl
theorem Zgi (ops : List Oper) (n0 : Nat → Prop) (ks : List Kd) (ds : List (Option Bool)) (d : Option Tmp) (op : Op) (ty : TypeId) (pos : String) (af : Array Edge) (g : Nat × Bool) (l : List Oper) (E : Env) (O : Objs) (n : Nat) (K : GK) :
  Xb P T ops n0 (.low :: ks) (some true :: ds) (⟨d, op, ty, pos, af, some g⟩ :: l) E O n K = (Z5 ops E (some g) = some true ∧ Zk1 P T n0 E O n op (Zhs P T ops n0 ks ds l E d O n K)) := rfl
theorem Zgh (ops : List Oper) (n0 : Nat → Prop) (ks : List Kd) (ds : List (Option Bool)) (d : Option Tmp) (op : Op) (ty : TypeId) (pos : String) (af : Array Edge) (g : Nat × Bool) (l : List Oper) (E : Env) (O : Objs) (n : Nat) (K : GK) :
  Xb P T ops n0 (.low :: ks) (some false :: ds) (⟨d, op, ty, pos, af, some g⟩ :: l) E O n K = (Z5 ops E (some g) = some false ∧ Xb P T ops n0 ks ds l (Zq E d (.val undef)) O n K) := rfl
def Ka (ops : List Oper) : List Nat → List Oper
 | [] => []
 | i :: L => match ops[i]? with
  | some o => o :: Ka ops L
  | none => Ka ops L
end
end Go.Proofs.Ytgijkjifiekkmaa
