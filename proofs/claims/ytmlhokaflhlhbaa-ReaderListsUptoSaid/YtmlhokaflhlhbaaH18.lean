/- Part H18 of the ghost memory: lemmas and contracts used by the proofs of this seat's laws; each theorem bears its own conditions. -/
import Derived.Test.YtmlhokaflhlhbaaH17
import Derived.WalkKit
import Derived.WalkSpells
import Derived.WalkLawsBesides
import Derived.Lib.Hide
import Derived.BigQuiet
import Derived.StillTailTactics
import Derived.Deep.RegionHeld3
import Derived.Deep.AppendLies
import Derived.Laws.CopyOwn
import Derived.Deep.DeepCutAuto
import Derived.Deep.QuietTactic
import Derived.Maps.AppendAt
import Derived.Great.BuildSlice
import Derived.Laws.StructEq
import Derived.IntWalk
import Derived.ProofKit
import Derived.OpenShut
import Derived.SizedLaws
import Derived.Deep.Slices
namespace Go.Proofs.Ytmlhokaflhlhbaa
open Go.RowKit
set_option linter.unusedVariables false
set_option linter.unusedSimpArgs false
theorem Zay : Jz .any = .any := rfl
theorem Za3 (v : Value) : Jz (.val v) = .val v := rfl
theorem Zax (cs : List G) : Jz (.agg cs) = .agg cs := rfl
theorem Za2 (cs : List G) : Jz (.tup cs) = .tup cs := rfl
theorem Zcs (n : Nat) (cs : List G) : Jz (.sl n cs) = .sl n cs := rfl
theorem Zcp (cs : List G) (k : Nat) : Jz (.ip cs k) = .ip cs k := rfl
theorem Za1 (i n : Nat) : Jz (.row i n) = .row i n := rfl
theorem Zcr (i a n : Nat) : Jz (.rs i a n) = .rs i a n := rfl
theorem Zcq (i n a : Nat) : Jz (.rp i n a) = .rp i n a := rfl
theorem Zaz (i a : Nat) : Jz (.ref i a) = .ref i a := rfl
theorem Zcn (f k : Nat) (cs : List G) : Jz (.fn f k cs) = .fn f k cs := rfl
theorem U1 (b : Bool) (g : G) : Jz (.when b g) = g := rfl
section
variable {O : Objs} {T : Xk} {op : BinOp} {t : TypeId}
theorem Zb4 : Z9 O .any = True := rfl
theorem Zb8 (v : Value) : Z9 O (.val v) = True := rfl
theorem Zb3 (cs : List G) : Z9 O (.agg cs) = True := rfl
theorem Zb7 (cs : List G) : Z9 O (.tup cs) = True := rfl
theorem Ze8 (n : Nat) (cs : List G) : Z9 O (.sl n cs) = True := rfl
theorem Ze5 (cs : List G) (k : Nat) : Z9 O (.ip cs k) = True := rfl
theorem Ze3 (f k : Nat) (cs : List G) : Z9 O (.fn f k cs) = True := rfl
theorem Zak (b : Bool) (g : G) : Z9 O (.when b g) = True := rfl
theorem Zb5 (i a : Nat) : Z9 O (.ref i a) = ∃ o, O i = some o ∧ o.row = false := rfl
theorem Ze7 (i a n : Nat) : Z9 O (.rs i a n) = ∃ o, O i = some o ∧ o.row = false := rfl
theorem Ze6 (i k a : Nat) : Z9 O (.rp i k a) = ∃ o, O i = some o ∧ o.row = true ∧ k = o.n := rfl
theorem Zb6 (i k : Nat) : Z9 O (.row i k) = ∃ o, O i = some o ∧ o.row = true ∧ k = o.n := rfl
theorem Zem (k k' : IntKind) (a b : Int) : Zej T op t (.val (.int k a)) (.val (.int k' b)) = (Zj0 op k a k' b).map fun r => (r.1, .val r.2) := rfl
theorem Zel (a b : Bool) : Zej T op t (.val (.bool a)) (.val (.bool b)) = match Zp T t, op with
  | some .bool, .eql => some (True, .val (.bool (a == b)))
  | some .bool, .neq => some (True, .val (.bool (a != b)))
  | _, _ => none := rfl
theorem Zer (a b : ByteArray) : Zej T op t (.val (.string a)) (.val (.string b)) = match op with
  | .eql => some (True, .val (.bool (a.toList == b.toList)))
  | .neq => some (True, .val (.bool (!(a.toList == b.toList))))
  | _ => none := rfl
theorem Zep : Zej T op t (.val (.pointer none)) (.val (.pointer none)) = match Zp T t, op with
  | some (.ptr _), .eql => some (True, .val (.bool true))
  | some (.ptr _), .neq => some (True, .val (.bool false))
  | _, _ => none := rfl
theorem Zeq (i a : Nat) : Zej T op t (.ref i a) (.val (.pointer none)) = match Zp T t, op with
  | some (.ptr _), .eql => some (True, .val (.bool false))
  | some (.ptr _), .neq => some (True, .val (.bool true))
  | _, _ => none := rfl
theorem Zen (cs : List G) (k : Nat) : Zej T op t (.ip cs k) (.val (.pointer none)) = match Zp T t, op with
  | some (.ptr _), .eql => some (True, .val (.bool false))
  | some (.ptr _), .neq => some (True, .val (.bool true))
  | _, _ => none := rfl
theorem Zeo (a : Option Addr) (l c l' c' : Nat) : Zej T op t (.val (.slice a l c)) (.val (.slice none l' c')) = match Zp T t, op with
  | some (.slice _), .eql => some (True, .val (.bool a.isNone))
  | some (.slice _), .neq => some (True, .val (.bool (!a.isNone)))
  | _, _ => none := rfl
theorem Zek (xs ys : List G) : Zej T op t (.agg xs) (.agg ys) = match T t, Zg4 T 6 t xs ys with
  | some i, some b => if i.k.isAgg = true ∧ i.eq = true then (match op with
   | .eql => some (True, .val (.bool b))
   | .neq => some (True, .val (.bool (!b)))
   | _ => none) else none
  | _, _ => none := rfl
end
theorem Zfd : G.one .any = false := rfl
theorem Zfh (v : Value) : G.one (.val v) = v.oneCell' := rfl
theorem Zfc (cs : List G) : G.one (.agg cs) = false := rfl
theorem Zfg (cs : List G) : G.one (.tup cs) = false := rfl
theorem Zcc (b : Bool) (g : G) : G.one (.when b g) = false := rfl
theorem Zit (n : Nat) (cs : List G) : G.one (.sl n cs) = true := rfl
theorem Ziq (cs : List G) (k : Nat) : G.one (.ip cs k) = true := rfl
theorem Zff (i n : Nat) : G.one (.row i n) = true := rfl
theorem Zis (i a n : Nat) : G.one (.rs i a n) = true := rfl
theorem Zir (i n a : Nat) : G.one (.rp i n a) = true := rfl
theorem Zfe (i a : Nat) : G.one (.ref i a) = true := rfl
theorem Zip (f k : Nat) (cs : List G) : G.one (.fn f k cs) = true := rfl
theorem Va (cs : List G) : Yf (.agg cs) = some cs := rfl
theorem Vf (v : Value) : Yf (.val v) = match v with
  | .agg vs => some (vs.toList.map .val)
  | v => if G.one (.val v) = true then some [.val v] else none := by cases v <;> rfl
theorem Ue (n : Nat) (cs : List G) : Yf (.sl n cs) = some [.sl n cs] := rfl
theorem Ub (cs : List G) (k : Nat) : Yf (.ip cs k) = some [.ip cs k] := rfl
theorem Vd (i n : Nat) : Yf (.row i n) = some [.row i n] := rfl
theorem Ud (i a n : Nat) : Yf (.rs i a n) = some [.rs i a n] := rfl
theorem Uc (i n a : Nat) : Yf (.rp i n a) = some [.rp i n a] := rfl
theorem Vc (i a : Nat) : Yf (.ref i a) = some [.ref i a] := rfl
theorem V9 (f k : Nat) (cs : List G) : Yf (.fn f k cs) = some [.fn f k cs] := rfl
theorem Vb : Yf .any = none := rfl
theorem Ve (cs : List G) : Yf (.tup cs) = none := rfl
theorem Kk (b : Bool) (g : G) : Yf (.when b g) = none := rfl
def gP {α : Type} (f : α → List G) : Option α → G
 | none => .val (.pointer none)
 | some x => .ip (f x) 0
def eP {α : Type} (f : α → List G) (x : Option α) : List G := [gP f x]
section
variable {α : Type} {f : α → List G} {T : Xk} {t e : TypeId} {O O' : Objs} {n' : Nat}
theorem Zeh : gP f none = .val (.pointer none) := rfl
theorem Zei (x : α) : gP f (some x) = .ip (f x) 0 := rfl
theorem Zco (x : Option α) : Jz (gP f x) = gP f x := by cases x <;> rfl
theorem Zjw (x : Option α) (l : List G) : wok (gP f x :: l) = wok l := by cases x <;> rfl
theorem Ur (x : Option α) : (gP f x).one = true := by cases x <;> rfl
theorem Ua (x : Option α) : Yf (gP f x) = some [gP f x] := by cases x <;> rfl
theorem Jm (h : ∀ x, G.pures (f x) = true) (x : Option α) : (gP f x).pure = true := by
 cases x with
 | none => rfl
 | some x => simp only [gP, G.pure, h]
theorem U4 (h : ∀ x, G.pures (f x) = true) (k : Nat) (x : Option α) : (gP f x).under k = true := Zbd k _ (Jm h x)
theorem Zks (h : ∀ x, G.pures (f x) = true) (x : Option α) : wk O O' n' (gP f x) (gP f x) = True := eq_true (Zlq _ (U4 h _ x))
theorem Ze4 (x : Option α) : Z9 O (gP f x) = True := by cases x <;> rfl
theorem Zly (hk : Zp T t = some (.ptr e)) (x : Option α) : Zej T .eql t (gP f x) (.val (.pointer none)) = some (True, .val (.bool x.isNone)) := by cases x <;> simp [gP, Zej, hk]
end
end Go.Proofs.Ytmlhokaflhlhbaa
