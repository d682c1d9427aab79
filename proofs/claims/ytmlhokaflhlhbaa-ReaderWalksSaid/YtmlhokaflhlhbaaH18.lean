/- Part H18 of the ghost memory: lemmas and contracts used by the proofs of this seat's laws; each theorem bears its own conditions. -/
import Derived.Test.YtmlhokaflhlhbaaH17
import Derived.WalkKit
import Derived.WalkSpells
import Derived.WalkLawsBesides
import Derived.Lib.Hide
import Derived.BigQuiet
import Derived.StillTailTactics
import Derived.Deep.RegionHeld3
import Derived.Deep.AppendLies
import Derived.Laws.CopyOwn
import Derived.Deep.DeepCutAuto
import Derived.Deep.QuietTactic
import Derived.Maps.AppendAt
import Derived.Great.BuildSlice
import Derived.Laws.StructEq
import Derived.IntWalk
import Derived.ProofKit
import Derived.OpenShut
import Derived.SizedLaws
import Derived.Deep.Slices
namespace Go.Proofs.Ytmlhokaflhlhbaa
open Go.RowKit
set_option linter.unusedVariables false
set_option linter.unusedSimpArgs false
theorem Zb3 : Ky .any = .any := rfl
theorem Zb8 (v : Value) : Ky (.val v) = .val v := rfl
theorem Zb2 (cs : List G) : Ky (.agg cs) = .agg cs := rfl
theorem Zb7 (cs : List G) : Ky (.tup cs) = .tup cs := rfl
theorem Zd1 (n : Nat) (cs : List G) : Ky (.sl n cs) = .sl n cs := rfl
theorem Zdy (cs : List G) (k : Nat) : Ky (.ip cs k) = .ip cs k := rfl
theorem Zb6 (i n : Nat) : Ky (.row i n) = .row i n := rfl
theorem Zd0 (i a n : Nat) : Ky (.rs i a n) = .rs i a n := rfl
theorem Zdz (i n a : Nat) : Ky (.rp i n a) = .rp i n a := rfl
theorem Zb4 (i a : Nat) : Ky (.ref i a) = .ref i a := rfl
theorem Zdw (f k : Nat) (cs : List G) : Ky (.fn f k cs) = .fn f k cs := rfl
theorem Zak (b : Bool) (g : G) : Ky (.when b g) = g := rfl
section
variable {O : Objs} {T : X1} {op : BinOp} {t : TypeId}
theorem Zdc : Yf O .any = True := rfl
theorem Zdg (v : Value) : Yf O (.val v) = True := rfl
theorem Zdb (cs : List G) : Yf O (.agg cs) = True := rfl
theorem Zdf (cs : List G) : Yf O (.tup cs) = True := rfl
theorem Zgi (n : Nat) (cs : List G) : Yf O (.sl n cs) = True := rfl
theorem Zgf (cs : List G) (k : Nat) : Yf O (.ip cs k) = True := rfl
theorem Zgd (f k : Nat) (cs : List G) : Yf O (.fn f k cs) = True := rfl
theorem Zbp (b : Bool) (g : G) : Yf O (.when b g) = True := rfl
theorem Zdd (i a : Nat) : Yf O (.ref i a) = ∃ o, O i = some o ∧ o.row = false := rfl
theorem Zgh (i a n : Nat) : Yf O (.rs i a n) = ∃ o, O i = some o ∧ o.row = false := rfl
theorem Zgg (i k a : Nat) : Yf O (.rp i k a) = ∃ o, O i = some o ∧ o.row = true ∧ k = o.n := rfl
theorem Zde (i k : Nat) : Yf O (.row i k) = ∃ o, O i = some o ∧ o.row = true ∧ k = o.n := rfl
theorem Zfw (k k' : IntKind) (a b : Int) : Zft T op t (.val (.int k a)) (.val (.int k' b)) = (Zlm op k a k' b).map fun r => (r.1, .val r.2) := rfl
theorem Zfv (a b : Bool) : Zft T op t (.val (.bool a)) (.val (.bool b)) = match Z0 T t, op with
  | some .bool, .eql => some (True, .val (.bool (a == b)))
  | some .bool, .neq => some (True, .val (.bool (a != b)))
  | _, _ => none := rfl
theorem Zf1 (a b : ByteArray) : Zft T op t (.val (.string a)) (.val (.string b)) = match op with
  | .eql => some (True, .val (.bool (a.toList == b.toList)))
  | .neq => some (True, .val (.bool (!(a.toList == b.toList))))
  | _ => none := rfl
theorem Zfz : Zft T op t (.val (.pointer none)) (.val (.pointer none)) = match Z0 T t, op with
  | some (.ptr _), .eql => some (True, .val (.bool true))
  | some (.ptr _), .neq => some (True, .val (.bool false))
  | _, _ => none := rfl
theorem Zf0 (i a : Nat) : Zft T op t (.ref i a) (.val (.pointer none)) = match Z0 T t, op with
  | some (.ptr _), .eql => some (True, .val (.bool false))
  | some (.ptr _), .neq => some (True, .val (.bool true))
  | _, _ => none := rfl
theorem Zfx (cs : List G) (k : Nat) : Zft T op t (.ip cs k) (.val (.pointer none)) = match Z0 T t, op with
  | some (.ptr _), .eql => some (True, .val (.bool false))
  | some (.ptr _), .neq => some (True, .val (.bool true))
  | _, _ => none := rfl
theorem Zfy (a : Option Addr) (l c l' c' : Nat) : Zft T op t (.val (.slice a l c)) (.val (.slice none l' c')) = match Z0 T t, op with
  | some (.slice _), .eql => some (True, .val (.bool a.isNone))
  | some (.slice _), .neq => some (True, .val (.bool (!a.isNone)))
  | _, _ => none := rfl
theorem Zfu (xs ys : List G) : Zft T op t (.agg xs) (.agg ys) = match T t, Zih T 6 t xs ys with
  | some i, some b => if i.k.isAgg = true ∧ i.eq = true then (match op with
   | .eql => some (True, .val (.bool b))
   | .neq => some (True, .val (.bool (!b)))
   | _ => none) else none
  | _, _ => none := rfl
end
theorem Zgp : G.one .any = false := rfl
theorem Zgt (v : Value) : G.one (.val v) = v.oneCell' := rfl
theorem Zgo (cs : List G) : G.one (.agg cs) = false := rfl
theorem Zgs (cs : List G) : G.one (.tup cs) = false := rfl
theorem Zdk (b : Bool) (g : G) : G.one (.when b g) = false := rfl
theorem Zka (n : Nat) (cs : List G) : G.one (.sl n cs) = true := rfl
theorem Zj7 (cs : List G) (k : Nat) : G.one (.ip cs k) = true := rfl
theorem Zgr (i n : Nat) : G.one (.row i n) = true := rfl
theorem Zj9 (i a n : Nat) : G.one (.rs i a n) = true := rfl
theorem Zj8 (i n a : Nat) : G.one (.rp i n a) = true := rfl
theorem Zgq (i a : Nat) : G.one (.ref i a) = true := rfl
theorem Zj6 (f k : Nat) (cs : List G) : G.one (.fn f k cs) = true := rfl
theorem Ub (cs : List G) : Yn (.agg cs) = some cs := rfl
theorem Ug (v : Value) : Yn (.val v) = match v with
  | .agg vs => some (vs.toList.map .val)
  | v => if G.one (.val v) = true then some [.val v] else none := by cases v <;> rfl
theorem Gn (n : Nat) (cs : List G) : Yn (.sl n cs) = some [.sl n cs] := rfl
theorem Gk (cs : List G) (k : Nat) : Yn (.ip cs k) = some [.ip cs k] := rfl
theorem Ue (i n : Nat) : Yn (.row i n) = some [.row i n] := rfl
theorem Gm (i a n : Nat) : Yn (.rs i a n) = some [.rs i a n] := rfl
theorem Gl (i n a : Nat) : Yn (.rp i n a) = some [.rp i n a] := rfl
theorem Ud (i a : Nat) : Yn (.ref i a) = some [.ref i a] := rfl
theorem Gi (f k : Nat) (cs : List G) : Yn (.fn f k cs) = some [.fn f k cs] := rfl
theorem Uc : Yn .any = none := rfl
theorem Uf (cs : List G) : Yn (.tup cs) = none := rfl
theorem Vj (b : Bool) (g : G) : Yn (.when b g) = none := rfl
def gP {α : Type} (f : α → List G) : Option α → G
 | none => .val (.pointer none)
 | some x => .ip (f x) 0
def eP {α : Type} (f : α → List G) (x : Option α) : List G := [gP f x]
section
variable {α : Type} {f : α → List G} {T : X1} {t e : TypeId} {O O' : Objs} {n' : Nat}
theorem Zfr : gP f none = .val (.pointer none) := rfl
theorem Zfs (x : α) : gP f (some x) = .ip (f x) 0 := rfl
theorem Zdx (x : Option α) : Ky (gP f x) = gP f x := by cases x <;> rfl
theorem Zlh (x : Option α) (l : List G) : wok (gP f x :: l) = wok l := by cases x <;> rfl
theorem G0 (x : Option α) : (gP f x).one = true := by cases x <;> rfl
theorem Gj (x : Option α) : Yn (gP f x) = some [gP f x] := by cases x <;> rfl
theorem Kj (h : ∀ x, G.pures (f x) = true) (x : Option α) : (gP f x).pure = true := by
 cases x with
 | none => rfl
 | some x => simp only [gP, G.pure, h]
theorem Zan (h : ∀ x, G.pures (f x) = true) (k : Nat) (x : Option α) : (gP f x).under k = true := Zcf k _ (Kj h x)
theorem Zmd (h : ∀ x, G.pures (f x) = true) (x : Option α) : wk O O' n' (gP f x) (gP f x) = True := eq_true (Zm9 _ (Zan h _ x))
theorem Zge (x : Option α) : Yf O (gP f x) = True := by cases x <;> rfl
theorem Znk (hk : Z0 T t = some (.ptr e)) (x : Option α) : Zft T .eql t (gP f x) (.val (.pointer none)) = some (True, .val (.bool x.isNone)) := by cases x <;> simp [gP, Zft, hk]
end
end Go.Proofs.Ytmlhokaflhlhbaa
