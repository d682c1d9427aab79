/- Part H18 of the ghost memory: lemmas and contracts used by the proofs of this seat's laws; each theorem bears its own conditions. -/
import Derived.Test.YtmlhokaflhlhbaaH17
import Derived.WalkKit
import Derived.WalkSpells
import Derived.WalkLawsBesides
import Derived.Lib.Hide
import Derived.BigQuiet
import Derived.StillTailTactics
import Derived.Deep.RegionHeld3
import Derived.Deep.AppendLies
import Derived.Laws.CopyOwn
import Derived.Deep.DeepCutAuto
import Derived.Deep.QuietTactic
import Derived.Maps.AppendAt
import Derived.Great.BuildSlice
import Derived.Laws.StructEq
import Derived.IntWalk
import Derived.ProofKit
import Derived.OpenShut
import Derived.SizedLaws
import Derived.Deep.Slices
namespace Go.Proofs.Ytmlhokaflhlhbaa
open Go.RowKit
set_option linter.unusedVariables false
set_option linter.unusedSimpArgs false
theorem Zbu : Kp .any = .any := rfl
theorem Zbz (v : Value) : Kp (.val v) = .val v := rfl
theorem Zbt (cs : List G) : Kp (.agg cs) = .agg cs := rfl
theorem Zby (cs : List G) : Kp (.tup cs) = .tup cs := rfl
theorem Zdw (n : Nat) (cs : List G) : Kp (.sl n cs) = .sl n cs := rfl
theorem Zdt (cs : List G) (k : Nat) : Kp (.ip cs k) = .ip cs k := rfl
theorem Zbx (i n : Nat) : Kp (.row i n) = .row i n := rfl
theorem Zdv (i a n : Nat) : Kp (.rs i a n) = .rs i a n := rfl
theorem Zdu (i n a : Nat) : Kp (.rp i n a) = .rp i n a := rfl
theorem Zbv (i a : Nat) : Kp (.ref i a) = .ref i a := rfl
theorem Zdr (f k : Nat) (cs : List G) : Kp (.fn f k cs) = .fn f k cs := rfl
theorem Gx (b : Bool) (g : G) : Kp (.when b g) = g := rfl
section
variable {O : Objs} {T : Xr} {op : BinOp} {t : TypeId}
theorem Zc8 : Ye O .any = True := rfl
theorem Zdc (v : Value) : Ye O (.val v) = True := rfl
theorem Zc7 (cs : List G) : Ye O (.agg cs) = True := rfl
theorem Zdb (cs : List G) : Ye O (.tup cs) = True := rfl
theorem Zf6 (n : Nat) (cs : List G) : Ye O (.sl n cs) = True := rfl
theorem Zf3 (cs : List G) (k : Nat) : Ye O (.ip cs k) = True := rfl
theorem Zf1 (f k : Nat) (cs : List G) : Ye O (.fn f k cs) = True := rfl
theorem Zbe (b : Bool) (g : G) : Ye O (.when b g) = True := rfl
theorem Zc9 (i a : Nat) : Ye O (.ref i a) = ∃ o, O i = some o ∧ o.row = false := rfl
theorem Zf5 (i a n : Nat) : Ye O (.rs i a n) = ∃ o, O i = some o ∧ o.row = false := rfl
theorem Zf4 (i k a : Nat) : Ye O (.rp i k a) = ∃ o, O i = some o ∧ o.row = true ∧ k = o.n := rfl
theorem Zda (i k : Nat) : Ye O (.row i k) = ∃ o, O i = some o ∧ o.row = true ∧ k = o.n := rfl
theorem Zfl (k k' : IntKind) (a b : Int) : Zfi T op t (.val (.int k a)) (.val (.int k' b)) = (Zk6 op k a k' b).map fun r => (r.1, .val r.2) := rfl
theorem Zfk (a b : Bool) : Zfi T op t (.val (.bool a)) (.val (.bool b)) = match Zs T t, op with
  | some .bool, .eql => some (True, .val (.bool (a == b)))
  | some .bool, .neq => some (True, .val (.bool (a != b)))
  | _, _ => none := rfl
theorem Zfq (a b : ByteArray) : Zfi T op t (.val (.string a)) (.val (.string b)) = match op with
  | .eql => some (True, .val (.bool (a.toList == b.toList)))
  | .neq => some (True, .val (.bool (!(a.toList == b.toList))))
  | _ => none := rfl
theorem Zfo : Zfi T op t (.val (.pointer none)) (.val (.pointer none)) = match Zs T t, op with
  | some (.ptr _), .eql => some (True, .val (.bool true))
  | some (.ptr _), .neq => some (True, .val (.bool false))
  | _, _ => none := rfl
theorem Zfp (i a : Nat) : Zfi T op t (.ref i a) (.val (.pointer none)) = match Zs T t, op with
  | some (.ptr _), .eql => some (True, .val (.bool false))
  | some (.ptr _), .neq => some (True, .val (.bool true))
  | _, _ => none := rfl
theorem Zfm (cs : List G) (k : Nat) : Zfi T op t (.ip cs k) (.val (.pointer none)) = match Zs T t, op with
  | some (.ptr _), .eql => some (True, .val (.bool false))
  | some (.ptr _), .neq => some (True, .val (.bool true))
  | _, _ => none := rfl
theorem Zfn (a : Option Addr) (l c l' c' : Nat) : Zfi T op t (.val (.slice a l c)) (.val (.slice none l' c')) = match Zs T t, op with
  | some (.slice _), .eql => some (True, .val (.bool a.isNone))
  | some (.slice _), .neq => some (True, .val (.bool (!a.isNone)))
  | _, _ => none := rfl
theorem Zfj (xs ys : List G) : Zfi T op t (.agg xs) (.agg ys) = match T t, Zh3 T 6 t xs ys with
  | some i, some b => if i.k.isAgg = true ∧ i.eq = true then (match op with
   | .eql => some (True, .val (.bool b))
   | .neq => some (True, .val (.bool (!b)))
   | _ => none) else none
  | _, _ => none := rfl
end
theorem Zga : G.one .any = false := rfl
theorem Zge (v : Value) : G.one (.val v) = v.oneCell' := rfl
theorem Zf9 (cs : List G) : G.one (.agg cs) = false := rfl
theorem Zgd (cs : List G) : G.one (.tup cs) = false := rfl
theorem Zde (b : Bool) (g : G) : G.one (.when b g) = false := rfl
theorem Zjw (n : Nat) (cs : List G) : G.one (.sl n cs) = true := rfl
theorem Zjt (cs : List G) (k : Nat) : G.one (.ip cs k) = true := rfl
theorem Zgc (i n : Nat) : G.one (.row i n) = true := rfl
theorem Zjv (i a n : Nat) : G.one (.rs i a n) = true := rfl
theorem Zju (i n a : Nat) : G.one (.rp i n a) = true := rfl
theorem Zgb (i a : Nat) : G.one (.ref i a) = true := rfl
theorem Zjs (f k : Nat) (cs : List G) : G.one (.fn f k cs) = true := rfl
theorem Vx (cs : List G) : Ym (.agg cs) = some cs := rfl
theorem V2 (v : Value) : Ym (.val v) = match v with
  | .agg vs => some (vs.toList.map .val)
  | v => if G.one (.val v) = true then some [.val v] else none := by cases v <;> rfl
theorem U8 (n : Nat) (cs : List G) : Ym (.sl n cs) = some [.sl n cs] := rfl
theorem U5 (cs : List G) (k : Nat) : Ym (.ip cs k) = some [.ip cs k] := rfl
theorem V0 (i n : Nat) : Ym (.row i n) = some [.row i n] := rfl
theorem U7 (i a n : Nat) : Ym (.rs i a n) = some [.rs i a n] := rfl
theorem U6 (i n a : Nat) : Ym (.rp i n a) = some [.rp i n a] := rfl
theorem Vz (i a : Nat) : Ym (.ref i a) = some [.ref i a] := rfl
theorem U3 (f k : Nat) (cs : List G) : Ym (.fn f k cs) = some [.fn f k cs] := rfl
theorem Vy : Ym .any = none := rfl
theorem V1 (cs : List G) : Ym (.tup cs) = none := rfl
theorem K9 (b : Bool) (g : G) : Ym (.when b g) = none := rfl
def gP {α : Type} (f : α → List G) : Option α → G
 | none => .val (.pointer none)
 | some x => .ip (f x) 0
def eP {α : Type} (f : α → List G) (x : Option α) : List G := [gP f x]
section
variable {α : Type} {f : α → List G} {T : Xr} {t e : TypeId} {O O' : Objs} {n' : Nat}
theorem Zfg : gP f none = .val (.pointer none) := rfl
theorem Zfh (x : α) : gP f (some x) = .ip (f x) 0 := rfl
theorem Zds (x : Option α) : Kp (gP f x) = gP f x := by cases x <;> rfl
theorem Zk2 (x : Option α) (l : List G) : wok (gP f x :: l) = wok l := by cases x <;> rfl
theorem Gl (x : Option α) : (gP f x).one = true := by cases x <;> rfl
theorem U4 (x : Option α) : Ym (gP f x) = some [gP f x] := by cases x <;> rfl
theorem Kb (h : ∀ x, G.pures (f x) = true) (x : Option α) : (gP f x).pure = true := by
 cases x with
 | none => rfl
 | some x => simp only [gP, G.pure, h]
theorem G0 (h : ∀ x, G.pures (f x) = true) (k : Nat) (x : Option α) : (gP f x).under k = true := Zcb k _ (Kb h x)
theorem Zlt (h : ∀ x, G.pures (f x) = true) (x : Option α) : wk O O' n' (gP f x) (gP f x) = True := eq_true (Zmq _ (G0 h _ x))
theorem Zf2 (x : Option α) : Ye O (gP f x) = True := by cases x <;> rfl
theorem Zm6 (hk : Zs T t = some (.ptr e)) (x : Option α) : Zfi T .eql t (gP f x) (.val (.pointer none)) = some (True, .val (.bool x.isNone)) := by cases x <;> simp [gP, Zfi, hk]
end
end Go.Proofs.Ytmlhokaflhlhbaa
