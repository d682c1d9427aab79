/- Part H18 of the ghost memory: lemmas and contracts used by the proofs of this seat's laws; each theorem bears its own conditions. -/
import Derived.Test.YtmlhokaflhlhbaaH17
import Derived.WalkKit
import Derived.WalkSpells
import Derived.WalkLawsBesides
import Derived.Lib.Hide
import Derived.BigQuiet
import Derived.StillTailTactics
import Derived.Deep.RegionHeld3
import Derived.Deep.AppendLies
import Derived.Laws.CopyOwn
import Derived.Deep.DeepCutAuto
import Derived.Deep.QuietTactic
import Derived.Maps.AppendAt
import Derived.Great.BuildSlice
import Derived.Laws.StructEq
import Derived.IntWalk
import Derived.ProofKit
import Derived.OpenShut
import Derived.SizedLaws
import Derived.Deep.Slices
namespace Go.Proofs.Ytmlhokaflhlhbaa
open Go.RowKit
set_option linter.unusedVariables false
set_option linter.unusedSimpArgs false
theorem Zbv : Kl .any = .any := rfl
theorem Zb0 (v : Value) : Kl (.val v) = .val v := rfl
theorem Zbu (cs : List G) : Kl (.agg cs) = .agg cs := rfl
theorem Zbz (cs : List G) : Kl (.tup cs) = .tup cs := rfl
theorem Zdw (n : Nat) (cs : List G) : Kl (.sl n cs) = .sl n cs := rfl
theorem Zdt (cs : List G) (k : Nat) : Kl (.ip cs k) = .ip cs k := rfl
theorem Zby (i n : Nat) : Kl (.row i n) = .row i n := rfl
theorem Zdv (i a n : Nat) : Kl (.rs i a n) = .rs i a n := rfl
theorem Zdu (i n a : Nat) : Kl (.rp i n a) = .rp i n a := rfl
theorem Zbw (i a : Nat) : Kl (.ref i a) = .ref i a := rfl
theorem Zdr (f k : Nat) (cs : List G) : Kl (.fn f k cs) = .fn f k cs := rfl
theorem Gy (b : Bool) (g : G) : Kl (.when b g) = g := rfl
section
variable {O : Objs} {T : Xq} {op : BinOp} {t : TypeId}
theorem Zc7 : Ye O .any = True := rfl
theorem Zdb (v : Value) : Ye O (.val v) = True := rfl
theorem Zc6 (cs : List G) : Ye O (.agg cs) = True := rfl
theorem Zda (cs : List G) : Ye O (.tup cs) = True := rfl
theorem Zf7 (n : Nat) (cs : List G) : Ye O (.sl n cs) = True := rfl
theorem Zf4 (cs : List G) (k : Nat) : Ye O (.ip cs k) = True := rfl
theorem Zf2 (f k : Nat) (cs : List G) : Ye O (.fn f k cs) = True := rfl
theorem Zbg (b : Bool) (g : G) : Ye O (.when b g) = True := rfl
theorem Zc8 (i a : Nat) : Ye O (.ref i a) = ∃ o, O i = some o ∧ o.row = false := rfl
theorem Zf6 (i a n : Nat) : Ye O (.rs i a n) = ∃ o, O i = some o ∧ o.row = false := rfl
theorem Zf5 (i k a : Nat) : Ye O (.rp i k a) = ∃ o, O i = some o ∧ o.row = true ∧ k = o.n := rfl
theorem Zc9 (i k : Nat) : Ye O (.row i k) = ∃ o, O i = some o ∧ o.row = true ∧ k = o.n := rfl
theorem Zfm (k k' : IntKind) (a b : Int) : Zfj T op t (.val (.int k a)) (.val (.int k' b)) = (Zk3 op k a k' b).map fun r => (r.1, .val r.2) := rfl
theorem Zfl (a b : Bool) : Zfj T op t (.val (.bool a)) (.val (.bool b)) = match Zt T t, op with
  | some .bool, .eql => some (True, .val (.bool (a == b)))
  | some .bool, .neq => some (True, .val (.bool (a != b)))
  | _, _ => none := rfl
theorem Zfr (a b : ByteArray) : Zfj T op t (.val (.string a)) (.val (.string b)) = match op with
  | .eql => some (True, .val (.bool (a.toList == b.toList)))
  | .neq => some (True, .val (.bool (!(a.toList == b.toList))))
  | _ => none := rfl
theorem Zfp : Zfj T op t (.val (.pointer none)) (.val (.pointer none)) = match Zt T t, op with
  | some (.ptr _), .eql => some (True, .val (.bool true))
  | some (.ptr _), .neq => some (True, .val (.bool false))
  | _, _ => none := rfl
theorem Zfq (i a : Nat) : Zfj T op t (.ref i a) (.val (.pointer none)) = match Zt T t, op with
  | some (.ptr _), .eql => some (True, .val (.bool false))
  | some (.ptr _), .neq => some (True, .val (.bool true))
  | _, _ => none := rfl
theorem Zfn (cs : List G) (k : Nat) : Zfj T op t (.ip cs k) (.val (.pointer none)) = match Zt T t, op with
  | some (.ptr _), .eql => some (True, .val (.bool false))
  | some (.ptr _), .neq => some (True, .val (.bool true))
  | _, _ => none := rfl
theorem Zfo (a : Option Addr) (l c l' c' : Nat) : Zfj T op t (.val (.slice a l c)) (.val (.slice none l' c')) = match Zt T t, op with
  | some (.slice _), .eql => some (True, .val (.bool a.isNone))
  | some (.slice _), .neq => some (True, .val (.bool (!a.isNone)))
  | _, _ => none := rfl
theorem Zfk (xs ys : List G) : Zfj T op t (.agg xs) (.agg ys) = match T t, Zh6 T 6 t xs ys with
  | some i, some b => if i.k.isAgg = true ∧ i.eq = true then (match op with
   | .eql => some (True, .val (.bool b))
   | .neq => some (True, .val (.bool (!b)))
   | _ => none) else none
  | _, _ => none := rfl
end
theorem Zgc : G.one .any = false := rfl
theorem Zgg (v : Value) : G.one (.val v) = v.oneCell' := rfl
theorem Zgb (cs : List G) : G.one (.agg cs) = false := rfl
theorem Zgf (cs : List G) : G.one (.tup cs) = false := rfl
theorem Zde (b : Bool) (g : G) : G.one (.when b g) = false := rfl
theorem Zjt (n : Nat) (cs : List G) : G.one (.sl n cs) = true := rfl
theorem Zjq (cs : List G) (k : Nat) : G.one (.ip cs k) = true := rfl
theorem Zge (i n : Nat) : G.one (.row i n) = true := rfl
theorem Zjs (i a n : Nat) : G.one (.rs i a n) = true := rfl
theorem Zjr (i n a : Nat) : G.one (.rp i n a) = true := rfl
theorem Zgd (i a : Nat) : G.one (.ref i a) = true := rfl
theorem Zjp (f k : Nat) (cs : List G) : G.one (.fn f k cs) = true := rfl
theorem Vs (cs : List G) : Yn (.agg cs) = some cs := rfl
theorem Vx (v : Value) : Yn (.val v) = match v with
  | .agg vs => some (vs.toList.map .val)
  | v => if G.one (.val v) = true then some [.val v] else none := by cases v <;> rfl
theorem U7 (n : Nat) (cs : List G) : Yn (.sl n cs) = some [.sl n cs] := rfl
theorem U4 (cs : List G) (k : Nat) : Yn (.ip cs k) = some [.ip cs k] := rfl
theorem Vv (i n : Nat) : Yn (.row i n) = some [.row i n] := rfl
theorem U6 (i a n : Nat) : Yn (.rs i a n) = some [.rs i a n] := rfl
theorem U5 (i n a : Nat) : Yn (.rp i n a) = some [.rp i n a] := rfl
theorem Vu (i a : Nat) : Yn (.ref i a) = some [.ref i a] := rfl
theorem U2 (f k : Nat) (cs : List G) : Yn (.fn f k cs) = some [.fn f k cs] := rfl
theorem Vt : Yn .any = none := rfl
theorem Vw (cs : List G) : Yn (.tup cs) = none := rfl
theorem K5 (b : Bool) (g : G) : Yn (.when b g) = none := rfl
def gP {α : Type} (f : α → List G) : Option α → G
 | none => .val (.pointer none)
 | some x => .ip (f x) 0
def eP {α : Type} (f : α → List G) (x : Option α) : List G := [gP f x]
section
variable {α : Type} {f : α → List G} {T : Xq} {t e : TypeId} {O O' : Objs} {n' : Nat}
theorem Zfh : gP f none = .val (.pointer none) := rfl
theorem Zfi (x : α) : gP f (some x) = .ip (f x) 0 := rfl
theorem Zds (x : Option α) : Kl (gP f x) = gP f x := by cases x <;> rfl
theorem Zkz (x : Option α) (l : List G) : wok (gP f x :: l) = wok l := by cases x <;> rfl
theorem Gm (x : Option α) : (gP f x).one = true := by cases x <;> rfl
theorem U3 (x : Option α) : Yn (gP f x) = some [gP f x] := by cases x <;> rfl
theorem J8 (h : ∀ x, G.pures (f x) = true) (x : Option α) : (gP f x).pure = true := by
 cases x with
 | none => rfl
 | some x => simp only [gP, G.pure, h]
theorem Zaa (h : ∀ x, G.pures (f x) = true) (k : Nat) (x : Option α) : (gP f x).under k = true := Zcb k _ (J8 h x)
theorem Zlq (h : ∀ x, G.pures (f x) = true) (x : Option α) : wk O O' n' (gP f x) (gP f x) = True := eq_true (Zmn _ (Zaa h _ x))
theorem Zf3 (x : Option α) : Ye O (gP f x) = True := by cases x <;> rfl
theorem Zm3 (hk : Zt T t = some (.ptr e)) (x : Option α) : Zfj T .eql t (gP f x) (.val (.pointer none)) = some (True, .val (.bool x.isNone)) := by cases x <;> simp [gP, Zfj, hk]
end
end Go.Proofs.Ytmlhokaflhlhbaa
