/- Part H18 of the ghost memory: lemmas and contracts used by the proofs of this seat's laws; each theorem bears its own conditions. -/
import Derived.Test.YtgijkjifiekkmaaH17
import Derived.WalkKit
import Derived.WalkSpells
import Derived.WalkLawsBesides
import Derived.Lib.Hide
import Derived.BigQuiet
import Derived.StillTailTactics
import Derived.Deep.RegionHeld3
import Derived.Deep.AppendLies
import Derived.Laws.CopyOwn
import Derived.Deep.DeepCutAuto
import Derived.Deep.QuietTactic
import Derived.Maps.AppendAt
import Derived.Great.BuildSlice
import Derived.Laws.StructEq
import Derived.IntWalk
import Derived.ProofKit
import Derived.OpenShut
import Derived.SizedLaws
import Derived.Deep.Slices
namespace Go.Proofs.Ytgijkjifiekkmaa
open Go.RowKit
set_option linter.unusedVariables false
set_option linter.unusedSimpArgs false
theorem Zd4 : Qm .any = .any := rfl
theorem Zd8 (v : Value) : Qm (.val v) = .val v := rfl
theorem Zd3 (cs : List G) : Qm (.agg cs) = .agg cs := rfl
theorem Zd7 (cs : List G) : Qm (.tup cs) = .tup cs := rfl
theorem Zg2 (n : Nat) (cs : List G) : Qm (.sl n cs) = .sl n cs := rfl
theorem Zgz (cs : List G) (k : Nat) : Qm (.ip cs k) = .ip cs k := rfl
theorem Zd6 (i n : Nat) : Qm (.row i n) = .row i n := rfl
theorem Zg1 (i a n : Nat) : Qm (.rs i a n) = .rs i a n := rfl
theorem Zg0 (i n a : Nat) : Qm (.rp i n a) = .rp i n a := rfl
theorem Zd5 (i a : Nat) : Qm (.ref i a) = .ref i a := rfl
theorem Zgx (f k : Nat) (cs : List G) : Qm (.fn f k cs) = .fn f k cs := rfl
theorem Zcc (b : Bool) (g : G) : Qm (.when b g) = g := rfl
section
variable {O : Objs} {T : Y6} {op : BinOp} {t : TypeId}
theorem Zf7 : Y7 O .any = True := rfl
theorem Zgb (v : Value) : Y7 O (.val v) = True := rfl
theorem Zf6 (cs : List G) : Y7 O (.agg cs) = True := rfl
theorem Zga (cs : List G) : Y7 O (.tup cs) = True := rfl
theorem Ziv (n : Nat) (cs : List G) : Y7 O (.sl n cs) = True := rfl
theorem Zis (cs : List G) (k : Nat) : Y7 O (.ip cs k) = True := rfl
theorem Ziq (f k : Nat) (cs : List G) : Y7 O (.fn f k cs) = True := rfl
theorem Zdn (b : Bool) (g : G) : Y7 O (.when b g) = True := rfl
theorem Zf8 (i a : Nat) : Y7 O (.ref i a) = ∃ o, O i = some o ∧ o.row = false := rfl
theorem Ziu (i a n : Nat) : Y7 O (.rs i a n) = ∃ o, O i = some o ∧ o.row = false := rfl
theorem Zit (i k a : Nat) : Y7 O (.rp i k a) = ∃ o, O i = some o ∧ o.row = true ∧ k = o.n := rfl
theorem Zf9 (i k : Nat) : Y7 O (.row i k) = ∃ o, O i = some o ∧ o.row = true ∧ k = o.n := rfl
theorem Zid (k k' : IntKind) (a b : Int) : Za2 T op t (.val (.int k a)) (.val (.int k' b)) = (Zho op k a k' b).map fun r => (r.1, .val r.2) := rfl
theorem Zic (a b : Bool) : Za2 T op t (.val (.bool a)) (.val (.bool b)) = match Zn T t, op with
  | some .bool, .eql => some (True, .val (.bool (a == b)))
  | some .bool, .neq => some (True, .val (.bool (a != b)))
  | _, _ => none := rfl
theorem Zii (a b : ByteArray) : Za2 T op t (.val (.string a)) (.val (.string b)) = match op with
  | .eql => some (True, .val (.bool (a.toList == b.toList)))
  | .neq => some (True, .val (.bool (!(a.toList == b.toList))))
  | _ => none := rfl
theorem Zig : Za2 T op t (.val (.pointer none)) (.val (.pointer none)) = match Zn T t, op with
  | some (.ptr _), .eql => some (True, .val (.bool true))
  | some (.ptr _), .neq => some (True, .val (.bool false))
  | _, _ => none := rfl
theorem Zih (i a : Nat) : Za2 T op t (.ref i a) (.val (.pointer none)) = match Zn T t, op with
  | some (.ptr _), .eql => some (True, .val (.bool false))
  | some (.ptr _), .neq => some (True, .val (.bool true))
  | _, _ => none := rfl
theorem Zie (cs : List G) (k : Nat) : Za2 T op t (.ip cs k) (.val (.pointer none)) = match Zn T t, op with
  | some (.ptr _), .eql => some (True, .val (.bool false))
  | some (.ptr _), .neq => some (True, .val (.bool true))
  | _, _ => none := rfl
theorem Zif (a : Option Addr) (l c l' c' : Nat) : Za2 T op t (.val (.slice a l c)) (.val (.slice none l' c')) = match Zn T t, op with
  | some (.slice _), .eql => some (True, .val (.bool a.isNone))
  | some (.slice _), .neq => some (True, .val (.bool (!a.isNone)))
  | _, _ => none := rfl
theorem Zib (xs ys : List G) : Za2 T op t (.agg xs) (.agg ys) = match T t, Zcu T 6 t xs ys with
  | some i, some b => if i.k.isAgg = true ∧ i.eq = true then (match op with
   | .eql => some (True, .val (.bool b))
   | .neq => some (True, .val (.bool (!b)))
   | _ => none) else none
  | _, _ => none := rfl
end
theorem Zi0 : G.one .any = false := rfl
theorem Zi5 (v : Value) : G.one (.val v) = v.oneCell' := rfl
theorem Ziz (cs : List G) : G.one (.agg cs) = false := rfl
theorem Zi4 (cs : List G) : G.one (.tup cs) = false := rfl
theorem Zgg (b : Bool) (g : G) : G.one (.when b g) = false := rfl
theorem Zlv (n : Nat) (cs : List G) : G.one (.sl n cs) = true := rfl
theorem Zls (cs : List G) (k : Nat) : G.one (.ip cs k) = true := rfl
theorem Zi3 (i n : Nat) : G.one (.row i n) = true := rfl
theorem Zlu (i a n : Nat) : G.one (.rs i a n) = true := rfl
theorem Zlt (i n a : Nat) : G.one (.rp i n a) = true := rfl
theorem Zi1 (i a : Nat) : G.one (.ref i a) = true := rfl
theorem Zlr (f k : Nat) (cs : List G) : G.one (.fn f k cs) = true := rfl
theorem Zad (cs : List G) : Z3 (.agg cs) = some cs := rfl
theorem Zai (v : Value) : Z3 (.val v) = match v with
  | .agg vs => some (vs.toList.map .val)
  | v => if G.one (.val v) = true then some [.val v] else none := by cases v <;> rfl
theorem Zbg (n : Nat) (cs : List G) : Z3 (.sl n cs) = some [.sl n cs] := rfl
theorem Zbd (cs : List G) (k : Nat) : Z3 (.ip cs k) = some [.ip cs k] := rfl
theorem Zag (i n : Nat) : Z3 (.row i n) = some [.row i n] := rfl
theorem Zbf (i a n : Nat) : Z3 (.rs i a n) = some [.rs i a n] := rfl
theorem Zbe (i n a : Nat) : Z3 (.rp i n a) = some [.rp i n a] := rfl
theorem Zaf (i a : Nat) : Z3 (.ref i a) = some [.ref i a] := rfl
theorem Zbb (f k : Nat) (cs : List G) : Z3 (.fn f k cs) = some [.fn f k cs] := rfl
theorem Zae : Z3 .any = none := rfl
theorem Zah (cs : List G) : Z3 (.tup cs) = none := rfl
theorem Uu (b : Bool) (g : G) : Z3 (.when b g) = none := rfl
def gP {α : Type} (f : α → List G) : Option α → G
 | none => .val (.pointer none)
 | some x => .ip (f x) 0
def eP {α : Type} (f : α → List G) (x : Option α) : List G := [gP f x]
section
variable {α : Type} {f : α → List G} {T : Y6} {t e : TypeId} {O O' : Objs} {n' : Nat}
theorem Zh9 : gP f none = .val (.pointer none) := rfl
theorem Zia (x : α) : gP f (some x) = .ip (f x) 0 := rfl
theorem Zgy (x : Option α) : Qm (gP f x) = gP f x := by cases x <;> rfl
theorem Zmk (x : Option α) (l : List G) : wok (gP f x :: l) = wok l := by cases x <;> rfl
theorem Gu (x : Option α) : (gP f x).one = true := by cases x <;> rfl
theorem Zbc (x : Option α) : Z3 (gP f x) = some [gP f x] := by cases x <;> rfl
theorem Jj (h : ∀ x, G.pures (f x) = true) (x : Option α) : (gP f x).pure = true := by
 cases x with
 | none => rfl
 | some x => simp only [gP, G.pure, h]
theorem Vh (h : ∀ x, G.pures (f x) = true) (k : Nat) (x : Option α) : (gP f x).under k = true := Kz k _ (Jj h x)
theorem Zkj (h : ∀ x, G.pures (f x) = true) (x : Option α) : wk O O' n' (gP f x) (gP f x) = True := eq_true (Ze7 _ (Vh h _ x))
theorem Zir (x : Option α) : Y7 O (gP f x) = True := by cases x <;> rfl
end
end Go.Proofs.Ytgijkjifiekkmaa
