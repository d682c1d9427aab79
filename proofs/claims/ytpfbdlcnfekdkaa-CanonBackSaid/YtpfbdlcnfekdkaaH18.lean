/- Part H18 of the ghost memory: lemmas and contracts used by the proofs of this seat's laws; each theorem bears its own conditions. -/
import Derived.Test.YtpfbdlcnfekdkaaH17
import Derived.WalkKit
import Derived.WalkSpells
import Derived.WalkLawsBesides
import Derived.Lib.Hide
import Derived.BigQuiet
import Derived.StillTailTactics
import Derived.Deep.RegionHeld3
import Derived.Deep.AppendLies
import Derived.Laws.CopyOwn
import Derived.Deep.DeepCutAuto
import Derived.Deep.QuietTactic
import Derived.Maps.AppendAt
import Derived.Great.BuildSlice
import Derived.Laws.StructEq
import Derived.ChangeKeysEq
import Derived.IntWalk
import Derived.Lib.AppendZeros
import Derived.Lib.AppendZerosOnto
import Derived.ProofKit
import Derived.OpenShut
import Derived.SizedLaws
import Derived.Deep.Slices
namespace Go.Proofs.Ytpfbdlcnfekdkaa
open Go.RowKit
set_option linter.unusedVariables false
set_option linter.unusedSimpArgs false
theorem Zkf : Zct .any = .any := rfl
theorem Zkk (v : Value) : Zct (.val v) = .val v := rfl
theorem Zke (cs : List G) : Zct (.agg cs) = .agg cs := rfl
theorem Zkj (cs : List G) : Zct (.tup cs) = .tup cs := rfl
theorem Znm (n : Nat) (cs : List G) : Zct (.sl n cs) = .sl n cs := rfl
theorem Zni (cs : List G) (k : Nat) : Zct (.ip cs k) = .ip cs k := rfl
theorem Zki (i n : Nat) : Zct (.row i n) = .row i n := rfl
theorem Znl (i a n : Nat) : Zct (.rs i a n) = .rs i a n := rfl
theorem Znk (i n a : Nat) : Zct (.rp i n a) = .rp i n a := rfl
theorem Znj (i n a k : Nat) : Zct (.rl i n a k) = .rl i n a k := rfl
theorem Zkg (i a : Nat) : Zct (.ref i a) = .ref i a := rfl
theorem Zng (f k : Nat) (cs : List G) : Zct (.fn f k cs) = .fn f k cs := rfl
theorem Zh1 (b : Bool) (g : G) : Zct (.when b g) = g := rfl
section
variable {O : Objs} {T : Kq} {op : BinOp} {t : TypeId}
theorem Zmm : Xt O .any = True := rfl
theorem Zmq (v : Value) : Xt O (.val v) = True := rfl
theorem Zml (cs : List G) : Xt O (.agg cs) = True := rfl
theorem Zmp (cs : List G) : Xt O (.tup cs) = True := rfl
theorem Zqs (n : Nat) (cs : List G) : Xt O (.sl n cs) = True := rfl
theorem Zqo (cs : List G) (k : Nat) : Xt O (.ip cs k) = True := rfl
theorem Zqm (f k : Nat) (cs : List G) : Xt O (.fn f k cs) = True := rfl
theorem Zjq (b : Bool) (g : G) : Xt O (.when b g) = True := rfl
theorem Zmn (i a : Nat) : Xt O (.ref i a) = ∃ o, O i = some o ∧ o.row = false := rfl
theorem Zqr (i a n : Nat) : Xt O (.rs i a n) = ∃ o, O i = some o ∧ o.row = false := rfl
theorem Zqq (i k a : Nat) : Xt O (.rp i k a) = ∃ o, O i = some o ∧ o.row = true ∧ k = o.n := rfl
theorem Zqp (i k a l : Nat) : Xt O (.rl i k a l) = True := rfl
theorem Zmo (i k : Nat) : Xt O (.row i k) = ∃ o, O i = some o ∧ o.row = true ∧ k = o.n := rfl
theorem Zp4 (k k' : IntKind) (a b : Int) : Zp1 T op t (.val (.int k a)) (.val (.int k' b)) = (Zx0 op k a k' b).map fun r => (r.1, .val r.2) := rfl
theorem Zp3 (a b : Bool) : Zp1 T op t (.val (.bool a)) (.val (.bool b)) = match Yb T t, op with
  | some .bool, .eql => some (True, .val (.bool (a == b)))
  | some .bool, .neq => some (True, .val (.bool (a != b)))
  | _, _ => none := rfl
theorem Zp9 (a b : ByteArray) : Zp1 T op t (.val (.string a)) (.val (.string b)) = match op with
  | .eql => some (True, .val (.bool (a.toList == b.toList)))
  | .neq => some (True, .val (.bool (!(a.toList == b.toList))))
  | _ => none := rfl
theorem Zp7 : Zp1 T op t (.val (.pointer none)) (.val (.pointer none)) = match Yb T t, op with
  | some (.ptr _), .eql => some (True, .val (.bool true))
  | some (.ptr _), .neq => some (True, .val (.bool false))
  | _, _ => none := rfl
theorem Zp8 (i a : Nat) : Zp1 T op t (.ref i a) (.val (.pointer none)) = match Yb T t, op with
  | some (.ptr _), .eql => some (True, .val (.bool false))
  | some (.ptr _), .neq => some (True, .val (.bool true))
  | _, _ => none := rfl
theorem Zp5 (cs : List G) (k : Nat) : Zp1 T op t (.ip cs k) (.val (.pointer none)) = match Yb T t, op with
  | some (.ptr _), .eql => some (True, .val (.bool false))
  | some (.ptr _), .neq => some (True, .val (.bool true))
  | _, _ => none := rfl
theorem Zp6 (a : Option Addr) (l c l' c' : Nat) : Zp1 T op t (.val (.slice a l c)) (.val (.slice none l' c')) = match Yb T t, op with
  | some (.slice _), .eql => some (True, .val (.bool a.isNone))
  | some (.slice _), .neq => some (True, .val (.bool (!a.isNone)))
  | _, _ => none := rfl
theorem Zp2 (xs ys : List G) : Zp1 T op t (.agg xs) (.agg ys) = match T t, Zti T 6 t xs ys with
  | some i, some b => if i.k.isAgg = true ∧ i.eq = true then (match op with
   | .eql => some (True, .val (.bool b))
   | .neq => some (True, .val (.bool (!b)))
   | _ => none) else none
  | _, _ => none := rfl
end
theorem Zq6 : G.one .any = false := rfl
theorem Zra (v : Value) : G.one (.val v) = v.oneCell' := rfl
theorem Zq5 (cs : List G) : G.one (.agg cs) = false := rfl
theorem Zq9 (cs : List G) : G.one (.tup cs) = false := rfl
theorem Zm4 (b : Bool) (g : G) : G.one (.when b g) = false := rfl
theorem Zv2 (n : Nat) (cs : List G) : G.one (.sl n cs) = true := rfl
theorem Zvy (cs : List G) (k : Nat) : G.one (.ip cs k) = true := rfl
theorem Zq8 (i n : Nat) : G.one (.row i n) = true := rfl
theorem Zv1 (i a n : Nat) : G.one (.rs i a n) = true := rfl
theorem Zv0 (i n a : Nat) : G.one (.rp i n a) = true := rfl
theorem Zvz (i n a k : Nat) : G.one (.rl i n a k) = true := rfl
theorem Zq7 (i a : Nat) : G.one (.ref i a) = true := rfl
theorem Zvx (f k : Nat) (cs : List G) : G.one (.fn f k cs) = true := rfl
theorem Ze9 (cs : List G) : Qh (.agg cs) = some cs := rfl
theorem Zfe (v : Value) : Qh (.val v) = match v with
  | .agg vs => some (vs.toList.map .val)
  | v => if G.one (.val v) = true then some [.val v] else none := by cases v <;> rfl
theorem Zg4 (n : Nat) (cs : List G) : Qh (.sl n cs) = some [.sl n cs] := rfl
theorem Zg0 (cs : List G) (k : Nat) : Qh (.ip cs k) = some [.ip cs k] := rfl
theorem Zfc (i n : Nat) : Qh (.row i n) = some [.row i n] := rfl
theorem Zg3 (i a n : Nat) : Qh (.rs i a n) = some [.rs i a n] := rfl
theorem Zg2 (i n a : Nat) : Qh (.rp i n a) = some [.rp i n a] := rfl
theorem Zg1 (i n a k : Nat) : Qh (.rl i n a k) = some [.rl i n a k] := rfl
theorem Zfb (i a : Nat) : Qh (.ref i a) = some [.ref i a] := rfl
theorem Zgy (f k : Nat) (cs : List G) : Qh (.fn f k cs) = some [.fn f k cs] := rfl
theorem Zfa : Qh .any = none := rfl
theorem Zfd (cs : List G) : Qh (.tup cs) = none := rfl
theorem Zd7 (b : Bool) (g : G) : Qh (.when b g) = none := rfl
def gP {α : Type} (f : α → List G) : Option α → G
 | none => .val (.pointer none)
 | some x => .ip (f x) 0
def eP {α : Type} (f : α → List G) (x : Option α) : List G := [gP f x]
section
variable {α : Type} {f : α → List G} {T : Kq} {t e : TypeId} {O O' : Objs} {n' : Nat}
theorem Zpz : gP f none = .val (.pointer none) := rfl
theorem Zp0 (x : α) : gP f (some x) = .ip (f x) 0 := rfl
theorem Znh (x : Option α) : Zct (gP f x) = gP f x := by cases x <;> rfl
theorem Zxu (x : Option α) (l : List G) : wok (gP f x :: l) = wok l := by cases x <;> rfl
theorem Zgg (x : Option α) : (gP f x).one = true := by cases x <;> rfl
theorem Zgz (x : Option α) : Qh (gP f x) = some [gP f x] := by cases x <;> rfl
theorem Za6 (h : ∀ x, G.pures (f x) = true) (x : Option α) : (gP f x).pure = true := by
 cases x with
 | none => rfl
 | some x => simp only [gP, G.pure, h]
theorem Zf5 (h : ∀ x, G.pures (f x) = true) (k : Nat) (x : Option α) : (gP f x).under k = true := Zk8 k _ (Za6 h x)
theorem Zxo (h : ∀ x, G.pures (f x) = true) (x : Option α) : wk O O' n' (gP f x) (gP f x) = True := eq_true (Z0f _ (Zf5 h _ x))
theorem Zqn (x : Option α) : Xt O (gP f x) = True := by cases x <;> rfl
theorem Z01 (hk : Yb T t = some (.ptr e)) (x : Option α) : Zp1 T .eql t (gP f x) (.val (.pointer none)) = some (True, .val (.bool x.isNone)) := by cases x <;> simp [gP, Zp1, hk]
end
theorem Zwg {α : Type} : ∀ {l : List α} {k : Nat} {x : α}, l[k]? = some x → l.set k x = l
 | [], k, x, h => by simp at h
 | y :: l, 0, x, h => by simp at h; simp [h]
 | y :: l, k + 1, x, h => by simp only [List.set_cons_succ, Zwg (l := l) (k := k) (by simpa using h)]
section
variable {P : Program} {w : World} {O : Objs} {m : Hands} {n : Nat}
theorem Z4o (hM : Mem w O m n) {p : Nat} {q q' : GObj} (hp : O p = some q) (h1 : q'.row = q.row) (h2 : q'.ty = q.ty) (h3 : q'.sz = q.sz) (h4 : q'.n = q.n) (hc : ∀ vs, G.reps w O m n q.cells vs → G.reps w O m n q'.cells vs) :
  Mem w (O.upd p (some q')) m n ∧ Ext w O m n w (O.upd p (some q')) m n := by
 have hpn : p < n := by
  rcases Nat.lt_or_ge p n with h | h
  ·exact h
  rw [hM.fresh p h] at hp; cases hp
 have hold : ∀ i o', (O.upd p (some q')) i = some o' → ∃ o, O i = some o ∧ o'.row = o.row ∧ o'.n = o.n := fun i o' hi => by
  by_cases e : i = p
  ·subst e; rw [Yz] at hi; injection hi with hi; subst hi; exact ⟨q, hp, h1, h4⟩
  rw [Q7 _ _ e] at hi; exact ⟨o', hi, rfl, rfl⟩
 have hrep : ∀ (gs : List G) (vs : List Value), G.reps w O m n gs vs → G.reps w (O.upd p (some q')) m n gs vs := fun gs vs h => Zcg hold gs vs h (U7 gs vs h)
 refine ⟨⟨fun i hi => ?_, fun i o' hi => ?_, fun i j oi oj b hi hj => ?_⟩, ⟨rfl, rfl, rfl, Nat.le_refl _, Nat.le_refl _, fun b _ ho => ⟨rfl, fun ⟨i, o', hi, hb⟩ => ?_⟩, fun i _ o' hi => ?_⟩⟩
 ·rw [Q7 _ _ (by omega)]; exact hM.fresh i hi
 ·by_cases e : i = p
  ·subst e
   rw [Yz] at hi
   injection hi with hi
   subst hi
   obtain ⟨vs, hr, hx⟩ := hM.obj i q hp
   refine ⟨vs, hrep _ _ (hc vs hr), ?_⟩
   rw [h1, h2, h3, h4]; exact hx
  rw [Q7 _ _ e] at hi
  obtain ⟨vs, hr, hx⟩ := hM.obj i o' hi
  exact ⟨vs, hrep _ _ hr, hx⟩
 ·obtain ⟨o1, e1, _⟩ := hold i oi hi
  obtain ⟨o2, e2, _⟩ := hold j oj hj
  exact hM.apart i j o1 o2 b e1 e2
 ·obtain ⟨o1, e1, _⟩ := hold i o' hi
  exact ho ⟨i, o1, e1, hb⟩
 obtain ⟨o1, e1, e2, e3⟩ := hold i o' hi
 exact ⟨o1, e1, e2, Nat.le_of_eq e3.symm, fun _ => rfl⟩
theorem Zkn {ba : Nat} {E : Env} {p k : Nat} {q : GObj} (t : TypeId) (sz : Nat) (hp : O p = some q) (hk : q.cells[k]? = some (.val (.slice none 0 0))) (hb : ba ≤ n) :
  Fit2 ba E O n E ((O.upd n (some ⟨true, t, sz, 0, []⟩)).upd p (some ⟨q.row, q.ty, q.sz, q.n, q.cells.set k (.row n 0)⟩)) (n + 1) := fun w m a hM hE => by
 have hpn : p ≠ n := fun e => by rw [e, hM.fresh n (Nat.le_refl _)] at hp; cases hp
 obtain ⟨h1, h2⟩ := Zyi hM t sz
 have hp' : (O.upd n (some ⟨true, t, sz, 0, []⟩)) p = some q := by rw [Q7 _ _ hpn]; exact hp
 obtain ⟨h3, h4⟩ := Z4o (q' := ⟨q.row, q.ty, q.sz, q.n, q.cells.set k (.row n 0)⟩) h1 hp' rfl rfl rfl rfl (fun vs hr => by
  obtain ⟨v, hv, hrv⟩ := Zor _ _ hr k _ hk
  simp only [G.rep] at hrv
  subst hrv
  have := Zv8 q.cells vs k (.row n 0) (.slice none 0 0) hr (Zyj t sz)
  rw [Zwg hv] at this
  exact this)
 have hX := h2.trans h4
 exact ⟨_, h3, hE.ext hX, hX.base hb⟩
end
end Go.Proofs.Ytpfbdlcnfekdkaa
