/- Part H18 of the ghost memory: lemmas and contracts used by the proofs of this seat's laws; each theorem bears its own conditions. -/
import Derived.Test.YtmlhokaflhlhbaaH17
import Derived.WalkKit
import Derived.WalkSpells
import Derived.WalkLawsBesides
import Derived.Lib.Hide
import Derived.BigQuiet
import Derived.StillTailTactics
import Derived.Deep.RegionHeld3
import Derived.Deep.AppendLies
import Derived.Laws.CopyOwn
import Derived.Deep.DeepCutAuto
import Derived.Deep.QuietTactic
import Derived.Maps.AppendAt
import Derived.Great.BuildSlice
import Derived.Laws.StructEq
import Derived.IntWalk
import Derived.ProofKit
import Derived.OpenShut
import Derived.SizedLaws
import Derived.Deep.Slices
namespace Go.Proofs.Ytmlhokaflhlhbaa
open Go.RowKit
set_option linter.unusedVariables false
set_option linter.unusedSimpArgs false
theorem Zg3 : Vc .any = .any := rfl
theorem Zg7 (v : Value) : Vc (.val v) = .val v := rfl
theorem Zg2 (cs : List G) : Vc (.agg cs) = .agg cs := rfl
theorem Zg6 (cs : List G) : Vc (.tup cs) = .tup cs := rfl
theorem Zj1 (n : Nat) (cs : List G) : Vc (.sl n cs) = .sl n cs := rfl
theorem Zjy (cs : List G) (k : Nat) : Vc (.ip cs k) = .ip cs k := rfl
theorem Zg5 (i n : Nat) : Vc (.row i n) = .row i n := rfl
theorem Zj0 (i a n : Nat) : Vc (.rs i a n) = .rs i a n := rfl
theorem Zjz (i n a : Nat) : Vc (.rp i n a) = .rp i n a := rfl
theorem Zg4 (i a : Nat) : Vc (.ref i a) = .ref i a := rfl
theorem Zjw (f k : Nat) (cs : List G) : Vc (.fn f k cs) = .fn f k cs := rfl
theorem Ze8 (b : Bool) (g : G) : Vc (.when b g) = g := rfl
section
variable {O : Objs} {T : Qe} {op : BinOp} {t : TypeId}
theorem Zi6 : Yv O .any = True := rfl
theorem Zja (v : Value) : Yv O (.val v) = True := rfl
theorem Zi5 (cs : List G) : Yv O (.agg cs) = True := rfl
theorem Zi9 (cs : List G) : Yv O (.tup cs) = True := rfl
theorem Zmr (n : Nat) (cs : List G) : Yv O (.sl n cs) = True := rfl
theorem Zmo (cs : List G) (k : Nat) : Yv O (.ip cs k) = True := rfl
theorem Zmm (f k : Nat) (cs : List G) : Yv O (.fn f k cs) = True := rfl
theorem Zgn (b : Bool) (g : G) : Yv O (.when b g) = True := rfl
theorem Zi7 (i a : Nat) : Yv O (.ref i a) = ∃ o, O i = some o ∧ o.row = false := rfl
theorem Zmq (i a n : Nat) : Yv O (.rs i a n) = ∃ o, O i = some o ∧ o.row = false := rfl
theorem Zmp (i k a : Nat) : Yv O (.rp i k a) = ∃ o, O i = some o ∧ o.row = true ∧ k = o.n := rfl
theorem Zi8 (i k : Nat) : Yv O (.row i k) = ∃ o, O i = some o ∧ o.row = true ∧ k = o.n := rfl
theorem Zl1 (k k' : IntKind) (a b : Int) : Zfq T op t (.val (.int k a)) (.val (.int k' b)) = (Zo9 op k a k' b).map fun r => (r.1, .val r.2) := rfl
theorem Zl0 (a b : Bool) : Zfq T op t (.val (.bool a)) (.val (.bool b)) = match Z7 T t, op with
  | some .bool, .eql => some (True, .val (.bool (a == b)))
  | some .bool, .neq => some (True, .val (.bool (a != b)))
  | _, _ => none := rfl
theorem Zl6 (a b : ByteArray) : Zfq T op t (.val (.string a)) (.val (.string b)) = match op with
  | .eql => some (True, .val (.bool (a.toList == b.toList)))
  | .neq => some (True, .val (.bool (!(a.toList == b.toList))))
  | _ => none := rfl
theorem Zl4 : Zfq T op t (.val (.pointer none)) (.val (.pointer none)) = match Z7 T t, op with
  | some (.ptr _), .eql => some (True, .val (.bool true))
  | some (.ptr _), .neq => some (True, .val (.bool false))
  | _, _ => none := rfl
theorem Zl5 (i a : Nat) : Zfq T op t (.ref i a) (.val (.pointer none)) = match Z7 T t, op with
  | some (.ptr _), .eql => some (True, .val (.bool false))
  | some (.ptr _), .neq => some (True, .val (.bool true))
  | _, _ => none := rfl
theorem Zl2 (cs : List G) (k : Nat) : Zfq T op t (.ip cs k) (.val (.pointer none)) = match Z7 T t, op with
  | some (.ptr _), .eql => some (True, .val (.bool false))
  | some (.ptr _), .neq => some (True, .val (.bool true))
  | _, _ => none := rfl
theorem Zl3 (a : Option Addr) (l c l' c' : Nat) : Zfq T op t (.val (.slice a l c)) (.val (.slice none l' c')) = match Z7 T t, op with
  | some (.slice _), .eql => some (True, .val (.bool a.isNone))
  | some (.slice _), .neq => some (True, .val (.bool (!a.isNone)))
  | _, _ => none := rfl
theorem Zlz (xs ys : List G) : Zfq T op t (.agg xs) (.agg ys) = match T t, Zis T 6 t xs ys with
  | some i, some b => if i.k.isAgg = true ∧ i.eq = true then (match op with
   | .eql => some (True, .val (.bool b))
   | .neq => some (True, .val (.bool (!b)))
   | _ => none) else none
  | _, _ => none := rfl
end
theorem Zmz : G.one .any = false := rfl
theorem Zm3 (v : Value) : G.one (.val v) = v.oneCell' := rfl
theorem Zmy (cs : List G) : G.one (.agg cs) = false := rfl
theorem Zm2 (cs : List G) : G.one (.tup cs) = false := rfl
theorem Zjf (b : Bool) (g : G) : G.one (.when b g) = false := rfl
theorem Zq0 (n : Nat) (cs : List G) : G.one (.sl n cs) = true := rfl
theorem Zqx (cs : List G) (k : Nat) : G.one (.ip cs k) = true := rfl
theorem Zm1 (i n : Nat) : G.one (.row i n) = true := rfl
theorem Zqz (i a n : Nat) : G.one (.rs i a n) = true := rfl
theorem Zqy (i n a : Nat) : G.one (.rp i n a) = true := rfl
theorem Zm0 (i a : Nat) : G.one (.ref i a) = true := rfl
theorem Zqw (f k : Nat) (cs : List G) : G.one (.fn f k cs) = true := rfl
theorem Zcd (cs : List G) : Y8 (.agg cs) = some cs := rfl
theorem Zci (v : Value) : Y8 (.val v) = match v with
  | .agg vs => some (vs.toList.map .val)
  | v => if G.one (.val v) = true then some [.val v] else none := by cases v <;> rfl
theorem Zeg (n : Nat) (cs : List G) : Y8 (.sl n cs) = some [.sl n cs] := rfl
theorem Zed (cs : List G) (k : Nat) : Y8 (.ip cs k) = some [.ip cs k] := rfl
theorem Zcg (i n : Nat) : Y8 (.row i n) = some [.row i n] := rfl
theorem Zef (i a n : Nat) : Y8 (.rs i a n) = some [.rs i a n] := rfl
theorem Zee (i n a : Nat) : Y8 (.rp i n a) = some [.rp i n a] := rfl
theorem Zcf (i a : Nat) : Y8 (.ref i a) = some [.ref i a] := rfl
theorem Zeb (f k : Nat) (cs : List G) : Y8 (.fn f k cs) = some [.fn f k cs] := rfl
theorem Zce : Y8 .any = none := rfl
theorem Zch (cs : List G) : Y8 (.tup cs) = none := rfl
theorem Zbr (b : Bool) (g : G) : Y8 (.when b g) = none := rfl
def gP {α : Type} (f : α → List G) : Option α → G
 | none => .val (.pointer none)
 | some x => .ip (f x) 0
def eP {α : Type} (f : α → List G) (x : Option α) : List G := [gP f x]
section
variable {α : Type} {f : α → List G} {T : Qe} {t e : TypeId} {O O' : Objs} {n' : Nat}
theorem Zlw : gP f none = .val (.pointer none) := rfl
theorem Zlx (x : α) : gP f (some x) = .ip (f x) 0 := rfl
theorem Zjx (x : Option α) : Vc (gP f x) = gP f x := by cases x <;> rfl
theorem Zr8 (x : Option α) (l : List G) : wok (gP f x :: l) = wok l := by cases x <;> rfl
theorem Zbx (x : Option α) : (gP f x).one = true := by cases x <;> rfl
theorem Zec (x : Option α) : Y8 (gP f x) = some [gP f x] := by cases x <;> rfl
theorem Kz (h : ∀ x, G.pures (f x) = true) (x : Option α) : (gP f x).pure = true := by
 cases x with
 | none => rfl
 | some x => simp only [gP, G.pure, h]
theorem Zaq (h : ∀ x, G.pures (f x) = true) (k : Nat) (x : Option α) : (gP f x).under k = true := Zbz k _ (Kz h x)
theorem Zlk (h : ∀ x, G.pures (f x) = true) (x : Option α) : wk O O' n' (gP f x) (gP f x) = True := eq_true (Zoo _ (Zaq h _ x))
theorem Zmn (x : Option α) : Yv O (gP f x) = True := by cases x <;> rfl
theorem Zo4 (hk : Z7 T t = some (.ptr e)) (x : Option α) : Zfq T .eql t (gP f x) (.val (.pointer none)) = some (True, .val (.bool x.isNone)) := by cases x <;> simp [gP, Zfq, hk]
end
theorem Zp2 {α : Type} : ∀ {l : List α} {k : Nat} {x : α}, l[k]? = some x → l.set k x = l
 | [], k, x, h => by simp at h
 | y :: l, 0, x, h => by simp at h; simp [h]
 | y :: l, k + 1, x, h => by simp only [List.set_cons_succ, Zp2 (l := l) (k := k) (by simpa using h)]
section
variable {P : Program} {w : World} {O : Objs} {m : Hands} {n : Nat}
theorem Zq5 (hM : Mem w O m n) {p : Nat} {q q' : GObj} (hp : O p = some q) (h1 : q'.row = q.row) (h2 : q'.ty = q.ty) (h3 : q'.sz = q.sz) (h4 : q'.n = q.n) (hc : ∀ vs, G.reps w O m n q.cells vs → G.reps w O m n q'.cells vs) :
  Mem w (O.upd p (some q')) m n ∧ Ext w O m n w (O.upd p (some q')) m n := by
 have hpn : p < n := by
  rcases Nat.lt_or_ge p n with h | h
  ·exact h
  rw [hM.fresh p h] at hp; cases hp
 have hold : ∀ i o', (O.upd p (some q')) i = some o' → ∃ o, O i = some o ∧ o'.row = o.row ∧ o'.n = o.n := fun i o' hi => by
  by_cases e : i = p
  ·subst e; rw [Xs] at hi; injection hi with hi; subst hi; exact ⟨q, hp, h1, h4⟩
  rw [Q4 _ _ e] at hi; exact ⟨o', hi, rfl, rfl⟩
 have hrep : ∀ (gs : List G) (vs : List Value), G.reps w O m n gs vs → G.reps w (O.upd p (some q')) m n gs vs := fun gs vs h => Vp hold gs vs h (Jt gs vs h)
 refine ⟨⟨fun i hi => ?_, fun i o' hi => ?_, fun i j oi oj b hi hj => ?_⟩, ⟨rfl, rfl, rfl, Nat.le_refl _, Nat.le_refl _, fun b _ ho => ⟨rfl, fun ⟨i, o', hi, hb⟩ => ?_⟩, fun i _ o' hi => ?_⟩⟩
 ·rw [Q4 _ _ (by omega)]; exact hM.fresh i hi
 ·by_cases e : i = p
  ·subst e
   rw [Xs] at hi
   injection hi with hi
   subst hi
   obtain ⟨vs, hr, hx⟩ := hM.obj i q hp
   refine ⟨vs, hrep _ _ (hc vs hr), ?_⟩
   rw [h1, h2, h3, h4]; exact hx
  rw [Q4 _ _ e] at hi
  obtain ⟨vs, hr, hx⟩ := hM.obj i o' hi
  exact ⟨vs, hrep _ _ hr, hx⟩
 ·obtain ⟨o1, e1, _⟩ := hold i oi hi
  obtain ⟨o2, e2, _⟩ := hold j oj hj
  exact hM.apart i j o1 o2 b e1 e2
 ·obtain ⟨o1, e1, _⟩ := hold i o' hi
  exact ho ⟨i, o1, e1, hb⟩
 obtain ⟨o1, e1, e2, e3⟩ := hold i o' hi
 exact ⟨o1, e1, e2, Nat.le_of_eq e3.symm, fun _ => rfl⟩
theorem Zih {ba : Nat} {E : Env} {p k : Nat} {q : GObj} (t : TypeId) (sz : Nat) (hp : O p = some q) (hk : q.cells[k]? = some (.val (.slice none 0 0))) (hb : ba ≤ n) :
  Fit2 ba E O n E ((O.upd n (some ⟨true, t, sz, 0, []⟩)).upd p (some ⟨q.row, q.ty, q.sz, q.n, q.cells.set k (.row n 0)⟩)) (n + 1) := fun w m a hM hE => by
 have hpn : p ≠ n := fun e => by rw [e, hM.fresh n (Nat.le_refl _)] at hp; cases hp
 obtain ⟨h1, h2⟩ := Zk1 hM t sz
 have hp' : (O.upd n (some ⟨true, t, sz, 0, []⟩)) p = some q := by rw [Q4 _ _ hpn]; exact hp
 obtain ⟨h3, h4⟩ := Zq5 (q' := ⟨q.row, q.ty, q.sz, q.n, q.cells.set k (.row n 0)⟩) h1 hp' rfl rfl rfl rfl (fun vs hr => by
  obtain ⟨v, hv, hrv⟩ := Zf4 _ _ hr k _ hk
  simp only [G.rep] at hrv
  subst hrv
  have := Zpy q.cells vs k (.row n 0) (.slice none 0 0) hr (Zk2 t sz)
  rw [Zp2 hv] at this
  exact this)
 have hX := h2.trans h4
 exact ⟨_, h3, hE.ext hX, hX.base hb⟩
end
end Go.Proofs.Ytmlhokaflhlhbaa
