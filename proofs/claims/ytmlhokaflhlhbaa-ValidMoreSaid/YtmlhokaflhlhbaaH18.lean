/- Part H18 of the ghost memory: lemmas and contracts used by the proofs of this seat's laws; each theorem bears its own conditions. -/
import Derived.Test.YtmlhokaflhlhbaaH17
import Derived.WalkKit
import Derived.WalkSpells
import Derived.WalkLawsBesides
import Derived.Lib.Hide
import Derived.BigQuiet
import Derived.StillTailTactics
import Derived.Deep.RegionHeld3
import Derived.Deep.AppendLies
import Derived.Laws.CopyOwn
import Derived.Deep.DeepCutAuto
import Derived.Deep.QuietTactic
import Derived.Maps.AppendAt
import Derived.Great.BuildSlice
import Derived.Laws.StructEq
import Derived.IntWalk
import Derived.ProofKit
import Derived.OpenShut
import Derived.SizedLaws
import Derived.Deep.Slices
namespace Go.Proofs.Ytmlhokaflhlhbaa
open Go.RowKit
set_option linter.unusedVariables false
set_option linter.unusedSimpArgs false
theorem Zbt : Kk .any = .any := rfl
theorem Zby (v : Value) : Kk (.val v) = .val v := rfl
theorem Zbs (cs : List G) : Kk (.agg cs) = .agg cs := rfl
theorem Zbx (cs : List G) : Kk (.tup cs) = .tup cs := rfl
theorem Zdw (n : Nat) (cs : List G) : Kk (.sl n cs) = .sl n cs := rfl
theorem Zdt (cs : List G) (k : Nat) : Kk (.ip cs k) = .ip cs k := rfl
theorem Zbw (i n : Nat) : Kk (.row i n) = .row i n := rfl
theorem Zdv (i a n : Nat) : Kk (.rs i a n) = .rs i a n := rfl
theorem Zdu (i n a : Nat) : Kk (.rp i n a) = .rp i n a := rfl
theorem Zbu (i a : Nat) : Kk (.ref i a) = .ref i a := rfl
theorem Zdr (f k : Nat) (cs : List G) : Kk (.fn f k cs) = .fn f k cs := rfl
theorem Gu (b : Bool) (g : G) : Kk (.when b g) = g := rfl
section
variable {O : Objs} {T : Xq} {op : BinOp} {t : TypeId}
theorem Zc7 : Ye O .any = True := rfl
theorem Zdb (v : Value) : Ye O (.val v) = True := rfl
theorem Zc6 (cs : List G) : Ye O (.agg cs) = True := rfl
theorem Zda (cs : List G) : Ye O (.tup cs) = True := rfl
theorem Zga (n : Nat) (cs : List G) : Ye O (.sl n cs) = True := rfl
theorem Zf7 (cs : List G) (k : Nat) : Ye O (.ip cs k) = True := rfl
theorem Zf5 (f k : Nat) (cs : List G) : Ye O (.fn f k cs) = True := rfl
theorem Zbe (b : Bool) (g : G) : Ye O (.when b g) = True := rfl
theorem Zc8 (i a : Nat) : Ye O (.ref i a) = ∃ o, O i = some o ∧ o.row = false := rfl
theorem Zf9 (i a n : Nat) : Ye O (.rs i a n) = ∃ o, O i = some o ∧ o.row = false := rfl
theorem Zf8 (i k a : Nat) : Ye O (.rp i k a) = ∃ o, O i = some o ∧ o.row = true ∧ k = o.n := rfl
theorem Zc9 (i k : Nat) : Ye O (.row i k) = ∃ o, O i = some o ∧ o.row = true ∧ k = o.n := rfl
theorem Zfo (k k' : IntKind) (a b : Int) : Zfl T op t (.val (.int k a)) (.val (.int k' b)) = (Zla op k a k' b).map fun r => (r.1, .val r.2) := rfl
theorem Zfn (a b : Bool) : Zfl T op t (.val (.bool a)) (.val (.bool b)) = match Zt T t, op with
  | some .bool, .eql => some (True, .val (.bool (a == b)))
  | some .bool, .neq => some (True, .val (.bool (a != b)))
  | _, _ => none := rfl
theorem Zft (a b : ByteArray) : Zfl T op t (.val (.string a)) (.val (.string b)) = match op with
  | .eql => some (True, .val (.bool (a.toList == b.toList)))
  | .neq => some (True, .val (.bool (!(a.toList == b.toList))))
  | _ => none := rfl
theorem Zfr : Zfl T op t (.val (.pointer none)) (.val (.pointer none)) = match Zt T t, op with
  | some (.ptr _), .eql => some (True, .val (.bool true))
  | some (.ptr _), .neq => some (True, .val (.bool false))
  | _, _ => none := rfl
theorem Zfs (i a : Nat) : Zfl T op t (.ref i a) (.val (.pointer none)) = match Zt T t, op with
  | some (.ptr _), .eql => some (True, .val (.bool false))
  | some (.ptr _), .neq => some (True, .val (.bool true))
  | _, _ => none := rfl
theorem Zfp (cs : List G) (k : Nat) : Zfl T op t (.ip cs k) (.val (.pointer none)) = match Zt T t, op with
  | some (.ptr _), .eql => some (True, .val (.bool false))
  | some (.ptr _), .neq => some (True, .val (.bool true))
  | _, _ => none := rfl
theorem Zfq (a : Option Addr) (l c l' c' : Nat) : Zfl T op t (.val (.slice a l c)) (.val (.slice none l' c')) = match Zt T t, op with
  | some (.slice _), .eql => some (True, .val (.bool a.isNone))
  | some (.slice _), .neq => some (True, .val (.bool (!a.isNone)))
  | _, _ => none := rfl
theorem Zfm (xs ys : List G) : Zfl T op t (.agg xs) (.agg ys) = match T t, Zid T 6 t xs ys with
  | some i, some b => if i.k.isAgg = true ∧ i.eq = true then (match op with
   | .eql => some (True, .val (.bool b))
   | .neq => some (True, .val (.bool (!b)))
   | _ => none) else none
  | _, _ => none := rfl
end
theorem Zgf : G.one .any = false := rfl
theorem Zgj (v : Value) : G.one (.val v) = v.oneCell' := rfl
theorem Zge (cs : List G) : G.one (.agg cs) = false := rfl
theorem Zgi (cs : List G) : G.one (.tup cs) = false := rfl
theorem Zde (b : Bool) (g : G) : G.one (.when b g) = false := rfl
theorem Zj0 (n : Nat) (cs : List G) : G.one (.sl n cs) = true := rfl
theorem Zjx (cs : List G) (k : Nat) : G.one (.ip cs k) = true := rfl
theorem Zgh (i n : Nat) : G.one (.row i n) = true := rfl
theorem Zjz (i a n : Nat) : G.one (.rs i a n) = true := rfl
theorem Zjy (i n a : Nat) : G.one (.rp i n a) = true := rfl
theorem Zgg (i a : Nat) : G.one (.ref i a) = true := rfl
theorem Zjw (f k : Nat) (cs : List G) : G.one (.fn f k cs) = true := rfl
theorem Vu (cs : List G) : Yn (.agg cs) = some cs := rfl
theorem Vz (v : Value) : Yn (.val v) = match v with
  | .agg vs => some (vs.toList.map .val)
  | v => if G.one (.val v) = true then some [.val v] else none := by cases v <;> rfl
theorem U5 (n : Nat) (cs : List G) : Yn (.sl n cs) = some [.sl n cs] := rfl
theorem U2 (cs : List G) (k : Nat) : Yn (.ip cs k) = some [.ip cs k] := rfl
theorem Vx (i n : Nat) : Yn (.row i n) = some [.row i n] := rfl
theorem U4 (i a n : Nat) : Yn (.rs i a n) = some [.rs i a n] := rfl
theorem U3 (i n a : Nat) : Yn (.rp i n a) = some [.rp i n a] := rfl
theorem Vw (i a : Nat) : Yn (.ref i a) = some [.ref i a] := rfl
theorem U0 (f k : Nat) (cs : List G) : Yn (.fn f k cs) = some [.fn f k cs] := rfl
theorem Vv : Yn .any = none := rfl
theorem Vy (cs : List G) : Yn (.tup cs) = none := rfl
theorem K5 (b : Bool) (g : G) : Yn (.when b g) = none := rfl
def gP {α : Type} (f : α → List G) : Option α → G
 | none => .val (.pointer none)
 | some x => .ip (f x) 0
def eP {α : Type} (f : α → List G) (x : Option α) : List G := [gP f x]
section
variable {α : Type} {f : α → List G} {T : Xq} {t e : TypeId} {O O' : Objs} {n' : Nat}
theorem Zfj : gP f none = .val (.pointer none) := rfl
theorem Zfk (x : α) : gP f (some x) = .ip (f x) 0 := rfl
theorem Zds (x : Option α) : Kk (gP f x) = gP f x := by cases x <;> rfl
theorem Zk6 (x : Option α) (l : List G) : wok (gP f x :: l) = wok l := by cases x <;> rfl
theorem Gi (x : Option α) : (gP f x).one = true := by cases x <;> rfl
theorem U1 (x : Option α) : Yn (gP f x) = some [gP f x] := by cases x <;> rfl
theorem J5 (h : ∀ x, G.pures (f x) = true) (x : Option α) : (gP f x).pure = true := by
 cases x with
 | none => rfl
 | some x => simp only [gP, G.pure, h]
theorem Gx (h : ∀ x, G.pures (f x) = true) (k : Nat) (x : Option α) : (gP f x).under k = true := Zca k _ (J5 h x)
theorem Zlz (h : ∀ x, G.pures (f x) = true) (x : Option α) : wk O O' n' (gP f x) (gP f x) = True := eq_true (Zmw _ (Gx h _ x))
theorem Zf6 (x : Option α) : Ye O (gP f x) = True := by cases x <;> rfl
theorem Znb (hk : Zt T t = some (.ptr e)) (x : Option α) : Zfl T .eql t (gP f x) (.val (.pointer none)) = some (True, .val (.bool x.isNone)) := by cases x <;> simp [gP, Zfl, hk]
end
end Go.Proofs.Ytmlhokaflhlhbaa
