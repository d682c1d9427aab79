/- Part H18 of the ghost memory: lemmas and contracts used by the proofs of this seat's laws; each theorem bears its own conditions. -/
import Derived.Test.YtgijkjifiekkmaaH17
import Derived.WalkKit
import Derived.WalkSpells
import Derived.WalkLawsBesides
import Derived.Lib.Hide
import Derived.BigQuiet
import Derived.StillTailTactics
import Derived.Deep.RegionHeld3
import Derived.Deep.AppendLies
import Derived.Laws.CopyOwn
import Derived.Deep.DeepCutAuto
import Derived.Deep.QuietTactic
import Derived.Maps.AppendAt
import Derived.Great.BuildSlice
import Derived.Laws.StructEq
import Derived.IntWalk
import Derived.ProofKit
import Derived.OpenShut
import Derived.SizedLaws
import Derived.Deep.Slices
namespace Go.Proofs.Ytgijkjifiekkmaa
open Go.RowKit
set_option linter.unusedVariables false
set_option linter.unusedSimpArgs false
theorem Zd1 : Qj .any = .any := rfl
theorem Zd5 (v : Value) : Qj (.val v) = .val v := rfl
theorem Zd0 (cs : List G) : Qj (.agg cs) = .agg cs := rfl
theorem Zd4 (cs : List G) : Qj (.tup cs) = .tup cs := rfl
theorem Zgx (n : Nat) (cs : List G) : Qj (.sl n cs) = .sl n cs := rfl
theorem Zgu (cs : List G) (k : Nat) : Qj (.ip cs k) = .ip cs k := rfl
theorem Zd3 (i n : Nat) : Qj (.row i n) = .row i n := rfl
theorem Zgw (i a n : Nat) : Qj (.rs i a n) = .rs i a n := rfl
theorem Zgv (i n a : Nat) : Qj (.rp i n a) = .rp i n a := rfl
theorem Zd2 (i a : Nat) : Qj (.ref i a) = .ref i a := rfl
theorem Zgs (f k : Nat) (cs : List G) : Qj (.fn f k cs) = .fn f k cs := rfl
theorem Zca (b : Bool) (g : G) : Qj (.when b g) = g := rfl
section
variable {O : Objs} {T : Y5} {op : BinOp} {t : TypeId}
theorem Zf5 : Y6 O .any = True := rfl
theorem Zf9 (v : Value) : Y6 O (.val v) = True := rfl
theorem Zf4 (cs : List G) : Y6 O (.agg cs) = True := rfl
theorem Zf8 (cs : List G) : Y6 O (.tup cs) = True := rfl
theorem Zis (n : Nat) (cs : List G) : Y6 O (.sl n cs) = True := rfl
theorem Zip (cs : List G) (k : Nat) : Y6 O (.ip cs k) = True := rfl
theorem Zin (f k : Nat) (cs : List G) : Y6 O (.fn f k cs) = True := rfl
theorem Zdk (b : Bool) (g : G) : Y6 O (.when b g) = True := rfl
theorem Zf6 (i a : Nat) : Y6 O (.ref i a) = ∃ o, O i = some o ∧ o.row = false := rfl
theorem Zir (i a n : Nat) : Y6 O (.rs i a n) = ∃ o, O i = some o ∧ o.row = false := rfl
theorem Ziq (i k a : Nat) : Y6 O (.rp i k a) = ∃ o, O i = some o ∧ o.row = true ∧ k = o.n := rfl
theorem Zf7 (i k : Nat) : Y6 O (.row i k) = ∃ o, O i = some o ∧ o.row = true ∧ k = o.n := rfl
theorem Zh9 (k k' : IntKind) (a b : Int) : Zar T op t (.val (.int k a)) (.val (.int k' b)) = (Zhm op k a k' b).map fun r => (r.1, .val r.2) := rfl
theorem Zh8 (a b : Bool) : Zar T op t (.val (.bool a)) (.val (.bool b)) = match Zr T t, op with
  | some .bool, .eql => some (True, .val (.bool (a == b)))
  | some .bool, .neq => some (True, .val (.bool (a != b)))
  | _, _ => none := rfl
theorem Zie (a b : ByteArray) : Zar T op t (.val (.string a)) (.val (.string b)) = match op with
  | .eql => some (True, .val (.bool (a.toList == b.toList)))
  | .neq => some (True, .val (.bool (!(a.toList == b.toList))))
  | _ => none := rfl
theorem Zic : Zar T op t (.val (.pointer none)) (.val (.pointer none)) = match Zr T t, op with
  | some (.ptr _), .eql => some (True, .val (.bool true))
  | some (.ptr _), .neq => some (True, .val (.bool false))
  | _, _ => none := rfl
theorem Zid (i a : Nat) : Zar T op t (.ref i a) (.val (.pointer none)) = match Zr T t, op with
  | some (.ptr _), .eql => some (True, .val (.bool false))
  | some (.ptr _), .neq => some (True, .val (.bool true))
  | _, _ => none := rfl
theorem Zia (cs : List G) (k : Nat) : Zar T op t (.ip cs k) (.val (.pointer none)) = match Zr T t, op with
  | some (.ptr _), .eql => some (True, .val (.bool false))
  | some (.ptr _), .neq => some (True, .val (.bool true))
  | _, _ => none := rfl
theorem Zib (a : Option Addr) (l c l' c' : Nat) : Zar T op t (.val (.slice a l c)) (.val (.slice none l' c')) = match Zr T t, op with
  | some (.slice _), .eql => some (True, .val (.bool a.isNone))
  | some (.slice _), .neq => some (True, .val (.bool (!a.isNone)))
  | _, _ => none := rfl
theorem Zh7 (xs ys : List G) : Zar T op t (.agg xs) (.agg ys) = match T t, Zcr T 6 t xs ys with
  | some i, some b => if i.k.isAgg = true ∧ i.eq = true then (match op with
   | .eql => some (True, .val (.bool b))
   | .neq => some (True, .val (.bool (!b)))
   | _ => none) else none
  | _, _ => none := rfl
end
theorem Ziy : G.one .any = false := rfl
theorem Zi3 (v : Value) : G.one (.val v) = v.oneCell' := rfl
theorem Zix (cs : List G) : G.one (.agg cs) = false := rfl
theorem Zi2 (cs : List G) : G.one (.tup cs) = false := rfl
theorem Zgd (b : Bool) (g : G) : G.one (.when b g) = false := rfl
theorem Zlt (n : Nat) (cs : List G) : G.one (.sl n cs) = true := rfl
theorem Zlq (cs : List G) (k : Nat) : G.one (.ip cs k) = true := rfl
theorem Zi1 (i n : Nat) : G.one (.row i n) = true := rfl
theorem Zls (i a n : Nat) : G.one (.rs i a n) = true := rfl
theorem Zlr (i n a : Nat) : G.one (.rp i n a) = true := rfl
theorem Ziz (i a : Nat) : G.one (.ref i a) = true := rfl
theorem Zlp (f k : Nat) (cs : List G) : G.one (.fn f k cs) = true := rfl
theorem Gu (cs : List G) : Z7 (.agg cs) = some cs := rfl
theorem Gz (v : Value) : Z7 (.val v) = match v with
  | .agg vs => some (vs.toList.map .val)
  | v => if G.one (.val v) = true then some [.val v] else none := by cases v <;> rfl
theorem Za9 (n : Nat) (cs : List G) : Z7 (.sl n cs) = some [.sl n cs] := rfl
theorem Za6 (cs : List G) (k : Nat) : Z7 (.ip cs k) = some [.ip cs k] := rfl
theorem Gx (i n : Nat) : Z7 (.row i n) = some [.row i n] := rfl
theorem Za8 (i a n : Nat) : Z7 (.rs i a n) = some [.rs i a n] := rfl
theorem Za7 (i n a : Nat) : Z7 (.rp i n a) = some [.rp i n a] := rfl
theorem Gw (i a : Nat) : Z7 (.ref i a) = some [.ref i a] := rfl
theorem Za4 (f k : Nat) (cs : List G) : Z7 (.fn f k cs) = some [.fn f k cs] := rfl
theorem Gv : Z7 .any = none := rfl
theorem Gy (cs : List G) : Z7 (.tup cs) = none := rfl
theorem Uj (b : Bool) (g : G) : Z7 (.when b g) = none := rfl
def gP {α : Type} (f : α → List G) : Option α → G
 | none => .val (.pointer none)
 | some x => .ip (f x) 0
def eP {α : Type} (f : α → List G) (x : Option α) : List G := [gP f x]
section
variable {α : Type} {f : α → List G} {T : Y5} {t e : TypeId} {O O' : Objs} {n' : Nat}
theorem Zh5 : gP f none = .val (.pointer none) := rfl
theorem Zh6 (x : α) : gP f (some x) = .ip (f x) 0 := rfl
theorem Zgt (x : Option α) : Qj (gP f x) = gP f x := by cases x <;> rfl
theorem Zmj (x : Option α) (l : List G) : wok (gP f x :: l) = wok l := by cases x <;> rfl
theorem Gj (x : Option α) : (gP f x).one = true := by cases x <;> rfl
theorem Za5 (x : Option α) : Z7 (gP f x) = some [gP f x] := by cases x <;> rfl
theorem Jj (h : ∀ x, G.pures (f x) = true) (x : Option α) : (gP f x).pure = true := by
 cases x with
 | none => rfl
 | some x => simp only [gP, G.pure, h]
theorem Vd (h : ∀ x, G.pures (f x) = true) (k : Nat) (x : Option α) : (gP f x).under k = true := Kz k _ (Jj h x)
theorem Zkh (h : ∀ x, G.pures (f x) = true) (x : Option α) : wk O O' n' (gP f x) (gP f x) = True := eq_true (Ze6 _ (Vd h _ x))
theorem Zio (x : Option α) : Y6 O (gP f x) = True := by cases x <;> rfl
end
end Go.Proofs.Ytgijkjifiekkmaa
