/- Part H18 of the ghost memory: lemmas and contracts used by the proofs of this seat's laws; each theorem bears its own conditions. -/
import Derived.Test.YtgpaglmhkklneaaGreatH17
import Derived.WalkKit
import Derived.WalkSpells
import Derived.WalkLawsBesides
import Derived.Lib.Hide
import Derived.BigQuiet
import Derived.StillTailTactics
import Derived.Deep.RegionHeld3
import Derived.Deep.AppendLies
import Derived.Laws.CopyOwn
import Derived.Deep.DeepCutAuto
import Derived.Deep.QuietTactic
import Derived.Maps.AppendAt
import Derived.Great.BuildSlice
import Derived.Laws.StructEq
import Derived.ChangeKeysEq
import Derived.IntWalk
import Derived.Lib.AppendZeros
import Derived.Lib.AppendZerosOnto
import Derived.ProofKit
import Derived.OpenShut
import Derived.SizedLaws
import Derived.Deep.Slices
namespace Go.Proofs.YtgpaglmhkklneaaGreat
open Go.RowKit
set_option linter.unusedVariables false
set_option linter.unusedSimpArgs false
theorem Zqb : Zdy .any = .any := rfl
theorem Zqf (v : Value) : Zdy (.val v) = .val v := rfl
theorem Zqa (cs : List G) : Zdy (.agg cs) = .agg cs := rfl
theorem Zqe (cs : List G) : Zdy (.tup cs) = .tup cs := rfl
theorem Zt1 (n : Nat) (cs : List G) : Zdy (.sl n cs) = .sl n cs := rfl
theorem Ztx (cs : List G) (k : Nat) : Zdy (.ip cs k) = .ip cs k := rfl
theorem Zqd (i n : Nat) : Zdy (.row i n) = .row i n := rfl
theorem Zt0 (i a n : Nat) : Zdy (.rs i a n) = .rs i a n := rfl
theorem Ztz (i n a : Nat) : Zdy (.rp i n a) = .rp i n a := rfl
theorem Zty (i n a k : Nat) : Zdy (.rl i n a k) = .rl i n a k := rfl
theorem Zqc (i a : Nat) : Zdy (.ref i a) = .ref i a := rfl
theorem Ztv (f k : Nat) (cs : List G) : Zdy (.fn f k cs) = .fn f k cs := rfl
theorem Znq (b : Bool) (g : G) : Zdy (.when b g) = g := rfl
section
variable {O : Objs} {T : K3} {op : BinOp} {t : TypeId}
theorem Zsn : Qn O .any = True := rfl
theorem Zsr (v : Value) : Qn O (.val v) = True := rfl
theorem Zsm (cs : List G) : Qn O (.agg cs) = True := rfl
theorem Zsq (cs : List G) : Qn O (.tup cs) = True := rfl
theorem Zxc (n : Nat) (cs : List G) : Qn O (.sl n cs) = True := rfl
theorem Zw8 (cs : List G) (k : Nat) : Qn O (.ip cs k) = True := rfl
theorem Zw6 (f k : Nat) (cs : List G) : Qn O (.fn f k cs) = True := rfl
theorem Zpr (b : Bool) (g : G) : Qn O (.when b g) = True := rfl
theorem Zso (i a : Nat) : Qn O (.ref i a) = ∃ o, O i = some o ∧ o.row = false := rfl
theorem Zxb (i a n : Nat) : Qn O (.rs i a n) = ∃ o, O i = some o ∧ o.row = false := rfl
theorem Zxa (i k a : Nat) : Qn O (.rp i k a) = ∃ o, O i = some o ∧ o.row = true ∧ k = o.n := rfl
theorem Zw9 (i k a l : Nat) : Qn O (.rl i k a l) = True := rfl
theorem Zsp (i k : Nat) : Qn O (.row i k) = ∃ o, O i = some o ∧ o.row = true ∧ k = o.n := rfl
theorem Zw0 : Ziz O .any = True := rfl
theorem Zw3 (v : Value) : Ziz O (.val v) = True := rfl
theorem Zwz (cs : List G) : Ziz O (.agg cs) = True := rfl
theorem Zw2 (cs : List G) : Ziz O (.tup cs) = True := rfl
theorem Z1q (n : Nat) (cs : List G) : Ziz O (.sl n cs) = True := rfl
theorem Z1n (cs : List G) (k : Nat) : Ziz O (.ip cs k) = True := rfl
theorem Z1m (f k : Nat) (cs : List G) : Ziz O (.fn f k cs) = True := rfl
theorem Zw1 (i k : Nat) : Ziz O (.row i k) = True := rfl
theorem Z1o (i k a l : Nat) : Ziz O (.rl i k a l) = True := rfl
theorem Z1p (i a n : Nat) : Ziz O (.rs i a n) = ∃ o, O i = some o ∧ o.row = false := rfl
theorem Zwf (k k' : IntKind) (a b : Int) : Zqz T op t (.val (.int k a)) (.val (.int k' b)) = (Zz1 op k a k' b).map fun r => (r.1, .val r.2) := rfl
theorem Zwe (a b : Bool) : Zqz T op t (.val (.bool a)) (.val (.bool b)) = match Yt T t, op with
  | some .bool, .eql => some (True, .val (.bool (a == b)))
  | some .bool, .neq => some (True, .val (.bool (a != b)))
  | _, _ => none := rfl
theorem Zwk (a b : ByteArray) : Zqz T op t (.val (.string a)) (.val (.string b)) = match op with
  | .eql => some (True, .val (.bool (a.toList == b.toList)))
  | .neq => some (True, .val (.bool (!(a.toList == b.toList))))
  | _ => none := rfl
theorem Zwi : Zqz T op t (.val (.pointer none)) (.val (.pointer none)) = match Yt T t, op with
  | some (.ptr _), .eql => some (True, .val (.bool true))
  | some (.ptr _), .neq => some (True, .val (.bool false))
  | _, _ => none := rfl
theorem Zwj (i a : Nat) : Zqz T op t (.ref i a) (.val (.pointer none)) = match Yt T t, op with
  | some (.ptr _), .eql => some (True, .val (.bool false))
  | some (.ptr _), .neq => some (True, .val (.bool true))
  | _, _ => none := rfl
theorem Zwg (cs : List G) (k : Nat) : Zqz T op t (.ip cs k) (.val (.pointer none)) = match Yt T t, op with
  | some (.ptr _), .eql => some (True, .val (.bool false))
  | some (.ptr _), .neq => some (True, .val (.bool true))
  | _, _ => none := rfl
theorem Zwh (a : Option Addr) (l c l' c' : Nat) : Zqz T op t (.val (.slice a l c)) (.val (.slice none l' c')) = match Yt T t, op with
  | some (.slice _), .eql => some (True, .val (.bool a.isNone))
  | some (.slice _), .neq => some (True, .val (.bool (!a.isNone)))
  | _, _ => none := rfl
theorem Zwd (xs ys : List G) : Zqz T op t (.agg xs) (.agg ys) = match T t, Zsd T 6 t xs ys with
  | some i, some b => if i.k.isAgg = true ∧ i.eq = true then (match op with
   | .eql => some (True, .val (.bool b))
   | .neq => some (True, .val (.bool (!b)))
   | _ => none) else none
  | _, _ => none := rfl
end
theorem Zxl : G.one .any = false := rfl
theorem Zxp (v : Value) : G.one (.val v) = v.oneCell' := rfl
theorem Zxk (cs : List G) : G.one (.agg cs) = false := rfl
theorem Zxo (cs : List G) : G.one (.tup cs) = false := rfl
theorem Zs9 (b : Bool) (g : G) : G.one (.when b g) = false := rfl
theorem Z1y (n : Nat) (cs : List G) : G.one (.sl n cs) = true := rfl
theorem Z1u (cs : List G) (k : Nat) : G.one (.ip cs k) = true := rfl
theorem Zxn (i n : Nat) : G.one (.row i n) = true := rfl
theorem Z1x (i a n : Nat) : G.one (.rs i a n) = true := rfl
theorem Z1w (i n a : Nat) : G.one (.rp i n a) = true := rfl
theorem Z1v (i n a k : Nat) : G.one (.rl i n a k) = true := rfl
theorem Zxm (i a : Nat) : G.one (.ref i a) = true := rfl
theorem Z1t (f k : Nat) (cs : List G) : G.one (.fn f k cs) = true := rfl
theorem Zk2 (cs : List G) : Q5 (.agg cs) = some cs := rfl
theorem Zk7 (v : Value) : Q5 (.val v) = match v with
  | .agg vs => some (vs.toList.map .val)
  | v => if G.one (.val v) = true then some [.val v] else none := by cases v <;> rfl
theorem Zmw (n : Nat) (cs : List G) : Q5 (.sl n cs) = some [.sl n cs] := rfl
theorem Zms (cs : List G) (k : Nat) : Q5 (.ip cs k) = some [.ip cs k] := rfl
theorem Zk5 (i n : Nat) : Q5 (.row i n) = some [.row i n] := rfl
theorem Zmv (i a n : Nat) : Q5 (.rs i a n) = some [.rs i a n] := rfl
theorem Zmu (i n a : Nat) : Q5 (.rp i n a) = some [.rp i n a] := rfl
theorem Zmt (i n a k : Nat) : Q5 (.rl i n a k) = some [.rl i n a k] := rfl
theorem Zk4 (i a : Nat) : Q5 (.ref i a) = some [.ref i a] := rfl
theorem Zmq (f k : Nat) (cs : List G) : Q5 (.fn f k cs) = some [.fn f k cs] := rfl
theorem Zk3 : Q5 .any = none := rfl
theorem Zk6 (cs : List G) : Q5 (.tup cs) = none := rfl
theorem Zj8 (b : Bool) (g : G) : Q5 (.when b g) = none := rfl
def gP {α : Type} (f : α → List G) : Option α → G
 | none => .val (.pointer none)
 | some x => .ip (f x) 0
def eP {α : Type} (f : α → List G) (x : Option α) : List G := [gP f x]
section
variable {α : Type} {f : α → List G} {T : K3} {t e : TypeId} {O O' : Objs} {n' : Nat}
theorem Zwa : gP f none = .val (.pointer none) := rfl
theorem Zwb (x : α) : gP f (some x) = .ip (f x) 0 := rfl
theorem Ztw (x : Option α) : Zdy (gP f x) = gP f x := by cases x <;> rfl
theorem Z26 (x : Option α) (l : List G) : wok (gP f x :: l) = wok l := by cases x <;> rfl
theorem Zbr (x : Option α) : (gP f x).one = true := by cases x <;> rfl
theorem Zmr (x : Option α) : Q5 (gP f x) = some [gP f x] := by cases x <;> rfl
theorem Q8 (h : ∀ x, G.pures (f x) = true) (x : Option α) : (gP f x).pure = true := by
 cases x with
 | none => rfl
 | some x => simp only [gP, G.pure, h]
theorem Uv (h : ∀ x, G.pures (f x) = true) (k : Nat) (x : Option α) : (gP f x).under k = true := Zkh k _ (Q8 h x)
theorem Zi5 (h : ∀ x, G.pures (f x) = true) (x : Option α) : wk O O' n' (gP f x) (gP f x) = True := eq_true (Zzi _ (Uv h _ x))
theorem Zw7 (x : Option α) : Qn O (gP f x) = True := by cases x <;> rfl
end
theorem Zo0 {α : Type} : ∀ {l : List α} {k : Nat} {x : α}, l[k]? = some x → l.set k x = l
 | [], k, x, h => by simp at h
 | y :: l, 0, x, h => by simp at h; simp [h]
 | y :: l, k + 1, x, h => by simp only [List.set_cons_succ, Zo0 (l := l) (k := k) (by simpa using h)]
section
variable {P : Program} {w : World} {O : Objs} {m : Hands} {n : Nat}
theorem Z13 (hM : Mem w O m n) {p : Nat} {q q' : GObj} (hp : O p = some q) (h1 : q'.row = q.row) (h2 : q'.ty = q.ty) (h3 : q'.sz = q.sz) (h4 : q'.n = q.n) (hc : ∀ vs, G.reps w O m n q.cells vs → G.reps w O m n q'.cells vs) :
  Mem w (O.upd p (some q')) m n ∧ Ext w O m n w (O.upd p (some q')) m n := by
 have hpn : p < n := by
  rcases Nat.lt_or_ge p n with h | h
  ·exact h
  rw [hM.fresh p h] at hp; cases hp
 have hold : ∀ i o', (O.upd p (some q')) i = some o' → ∃ o, O i = some o ∧ o'.row = o.row ∧ o'.n = o.n := fun i o' hi => by
  by_cases e : i = p
  ·subst e; rw [Z3] at hi; injection hi with hi; subst hi; exact ⟨q, hp, h1, h4⟩
  rw [Yo _ _ e] at hi; exact ⟨o', hi, rfl, rfl⟩
 have hrep : ∀ (gs : List G) (vs : List Value), G.reps w O m n gs vs → G.reps w (O.upd p (some q')) m n gs vs := fun gs vs h => Zc2 hold gs vs h (Zaj gs vs h)
 refine ⟨⟨fun i hi => ?_, fun i o' hi => ?_, fun i j oi oj b hi hj => ?_⟩, ⟨rfl, rfl, rfl, Nat.le_refl _, Nat.le_refl _, fun b _ ho => ⟨rfl, fun ⟨i, o', hi, hb⟩ => ?_⟩, fun i _ o' hi => ?_⟩⟩
 ·rw [Yo _ _ (by omega)]; exact hM.fresh i hi
 ·by_cases e : i = p
  ·subst e
   rw [Z3] at hi
   injection hi with hi
   subst hi
   obtain ⟨vs, hr, hx⟩ := hM.obj i q hp
   refine ⟨vs, hrep _ _ (hc vs hr), ?_⟩
   rw [h1, h2, h3, h4]; exact hx
  rw [Yo _ _ e] at hi
  obtain ⟨vs, hr, hx⟩ := hM.obj i o' hi
  exact ⟨vs, hrep _ _ hr, hx⟩
 ·obtain ⟨o1, e1, _⟩ := hold i oi hi
  obtain ⟨o2, e2, _⟩ := hold j oj hj
  exact hM.apart i j o1 o2 b e1 e2
 ·obtain ⟨o1, e1, _⟩ := hold i o' hi
  exact ho ⟨i, o1, e1, hb⟩
 obtain ⟨o1, e1, e2, e3⟩ := hold i o' hi
 exact ⟨o1, e1, e2, Nat.le_of_eq e3.symm, fun _ => rfl⟩
theorem Kp {ba : Nat} {E : Env} {p k : Nat} {q : GObj} (t : TypeId) (sz : Nat) (hp : O p = some q) (hk : q.cells[k]? = some (.val (.slice none 0 0))) (hb : ba ≤ n) :
  Fit2 ba E O n E ((O.upd n (some ⟨true, t, sz, 0, []⟩)).upd p (some ⟨q.row, q.ty, q.sz, q.n, q.cells.set k (.row n 0)⟩)) (n + 1) := fun w m a hM hE => by
 have hpn : p ≠ n := fun e => by rw [e, hM.fresh n (Nat.le_refl _)] at hp; cases hp
 obtain ⟨h1, h2⟩ := Zu9 hM t sz
 have hp' : (O.upd n (some ⟨true, t, sz, 0, []⟩)) p = some q := by rw [Yo _ _ hpn]; exact hp
 obtain ⟨h3, h4⟩ := Z13 (q' := ⟨q.row, q.ty, q.sz, q.n, q.cells.set k (.row n 0)⟩) h1 hp' rfl rfl rfl rfl (fun vs hr => by
  obtain ⟨v, hv, hrv⟩ := Zkj _ _ hr k _ hk
  simp only [G.rep] at hrv
  subst hrv
  have := Zox q.cells vs k (.row n 0) (.slice none 0 0) hr (Zva t sz)
  rw [Zo0 hv] at this
  exact this)
 have hX := h2.trans h4
 exact ⟨_, h3, hE.ext hX, hX.base hb⟩
end
end Go.Proofs.YtgpaglmhkklneaaGreat
