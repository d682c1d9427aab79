/- Part H18 of the ghost memory: lemmas and contracts used by the proofs of this seat's laws; each theorem bears its own conditions. -/
import Derived.Test.YtgffgbdnbjbmoaaH17
import Derived.WalkKit
import Derived.WalkSpells
import Derived.WalkLawsBesides
import Derived.Lib.Hide
import Derived.BigQuiet
import Derived.StillTailTactics
import Derived.Deep.RegionHeld3
import Derived.Deep.AppendLies
import Derived.Laws.CopyOwn
import Derived.Deep.DeepCutAuto
import Derived.Deep.QuietTactic
import Derived.Maps.AppendAt
import Derived.Great.BuildSlice
import Derived.Laws.StructEq
import Derived.ChangeKeysEq
import Derived.IntWalk
import Derived.Lib.AppendZeros
import Derived.Lib.AppendZerosOnto
import Derived.ProofKit
import Derived.OpenShut
import Derived.SizedLaws
import Derived.Deep.Slices
namespace Go.Proofs.Ytgffgbdnbjbmoaa
open Go.RowKit
set_option linter.unusedVariables false
set_option linter.unusedSimpArgs false
theorem Zo2 : Uu .any = .any := rfl
theorem Zo6 (v : Value) : Uu (.val v) = .val v := rfl
theorem Zo1 (cs : List G) : Uu (.agg cs) = .agg cs := rfl
theorem Zo5 (cs : List G) : Uu (.tup cs) = .tup cs := rfl
theorem Zs1 (n : Nat) (cs : List G) : Uu (.sl n cs) = .sl n cs := rfl
theorem Zsx (cs : List G) (k : Nat) : Uu (.ip cs k) = .ip cs k := rfl
theorem Zo4 (i n : Nat) : Uu (.row i n) = .row i n := rfl
theorem Zs0 (i a n : Nat) : Uu (.rs i a n) = .rs i a n := rfl
theorem Zsz (i n a : Nat) : Uu (.rp i n a) = .rp i n a := rfl
theorem Zsy (i n a k : Nat) : Uu (.rl i n a k) = .rl i n a k := rfl
theorem Zo3 (i a : Nat) : Uu (.ref i a) = .ref i a := rfl
theorem Zsv (f k : Nat) (cs : List G) : Uu (.fn f k cs) = .fn f k cs := rfl
theorem Zm3 (b : Bool) (g : G) : Uu (.when b g) = g := rfl
section
variable {O : Objs} {T : Jo} {op : BinOp} {t : TypeId}
theorem Zrw : Xi O .any = True := rfl
theorem Zr0 (v : Value) : Xi O (.val v) = True := rfl
theorem Zrv (cs : List G) : Xi O (.agg cs) = True := rfl
theorem Zrz (cs : List G) : Xi O (.tup cs) = True := rfl
theorem Zvs (n : Nat) (cs : List G) : Xi O (.sl n cs) = True := rfl
theorem Zvo (cs : List G) (k : Nat) : Xi O (.ip cs k) = True := rfl
theorem Zvm (f k : Nat) (cs : List G) : Xi O (.fn f k cs) = True := rfl
theorem Zoi (b : Bool) (g : G) : Xi O (.when b g) = True := rfl
theorem Zrx (i a : Nat) : Xi O (.ref i a) = ∃ o, O i = some o ∧ o.row = false := rfl
theorem Zvr (i a n : Nat) : Xi O (.rs i a n) = ∃ o, O i = some o ∧ o.row = false := rfl
theorem Zvq (i k a : Nat) : Xi O (.rp i k a) = ∃ o, O i = some o ∧ o.row = true ∧ k = o.n := rfl
theorem Zvp (i k a l : Nat) : Xi O (.rl i k a l) = True := rfl
theorem Zry (i k : Nat) : Xi O (.row i k) = ∃ o, O i = some o ∧ o.row = true ∧ k = o.n := rfl
theorem Zvh : Zdu O .any = True := rfl
theorem Zvk (v : Value) : Zdu O (.val v) = True := rfl
theorem Zvg (cs : List G) : Zdu O (.agg cs) = True := rfl
theorem Zvj (cs : List G) : Zdu O (.tup cs) = True := rfl
theorem Zzv (n : Nat) (cs : List G) : Zdu O (.sl n cs) = True := rfl
theorem Zzs (cs : List G) (k : Nat) : Zdu O (.ip cs k) = True := rfl
theorem Zzr (f k : Nat) (cs : List G) : Zdu O (.fn f k cs) = True := rfl
theorem Zvi (i k : Nat) : Zdu O (.row i k) = True := rfl
theorem Zzt (i k a l : Nat) : Zdu O (.rl i k a l) = True := rfl
theorem Zzu (i a n : Nat) : Zdu O (.rs i a n) = ∃ o, O i = some o ∧ o.row = false := rfl
theorem Zu0 (k k' : IntKind) (a b : Int) : Ziz T op t (.val (.int k a)) (.val (.int k' b)) = (Ztz op k a k' b).map fun r => (r.1, .val r.2) := rfl
theorem Zuz (a b : Bool) : Ziz T op t (.val (.bool a)) (.val (.bool b)) = match Ya T t, op with
  | some .bool, .eql => some (True, .val (.bool (a == b)))
  | some .bool, .neq => some (True, .val (.bool (a != b)))
  | _, _ => none := rfl
theorem Zu5 (a b : ByteArray) : Ziz T op t (.val (.string a)) (.val (.string b)) = match op with
  | .eql => some (True, .val (.bool (a.toList == b.toList)))
  | .neq => some (True, .val (.bool (!(a.toList == b.toList))))
  | _ => none := rfl
theorem Zu3 : Ziz T op t (.val (.pointer none)) (.val (.pointer none)) = match Ya T t, op with
  | some (.ptr _), .eql => some (True, .val (.bool true))
  | some (.ptr _), .neq => some (True, .val (.bool false))
  | _, _ => none := rfl
theorem Zu4 (i a : Nat) : Ziz T op t (.ref i a) (.val (.pointer none)) = match Ya T t, op with
  | some (.ptr _), .eql => some (True, .val (.bool false))
  | some (.ptr _), .neq => some (True, .val (.bool true))
  | _, _ => none := rfl
theorem Zu1 (cs : List G) (k : Nat) : Ziz T op t (.ip cs k) (.val (.pointer none)) = match Ya T t, op with
  | some (.ptr _), .eql => some (True, .val (.bool false))
  | some (.ptr _), .neq => some (True, .val (.bool true))
  | _, _ => none := rfl
theorem Zu2 (a : Option Addr) (l c l' c' : Nat) : Ziz T op t (.val (.slice a l c)) (.val (.slice none l' c')) = match Ya T t, op with
  | some (.slice _), .eql => some (True, .val (.bool a.isNone))
  | some (.slice _), .neq => some (True, .val (.bool (!a.isNone)))
  | _, _ => none := rfl
theorem Zuy (xs ys : List G) : Ziz T op t (.agg xs) (.agg ys) = match T t, Znl T 6 t xs ys with
  | some i, some b => if i.k.isAgg = true ∧ i.eq = true then (match op with
   | .eql => some (True, .val (.bool b))
   | .neq => some (True, .val (.bool (!b)))
   | _ => none) else none
  | _, _ => none := rfl
end
theorem Zvy : G.one .any = false := rfl
theorem Zv3 (v : Value) : G.one (.val v) = v.oneCell' := rfl
theorem Zvx (cs : List G) : G.one (.agg cs) = false := rfl
theorem Zv2 (cs : List G) : G.one (.tup cs) = false := rfl
theorem Zsc (b : Bool) (g : G) : G.one (.when b g) = false := rfl
theorem Z0h (n : Nat) (cs : List G) : G.one (.sl n cs) = true := rfl
theorem Z0d (cs : List G) (k : Nat) : G.one (.ip cs k) = true := rfl
theorem Zv1 (i n : Nat) : G.one (.row i n) = true := rfl
theorem Z0g (i a n : Nat) : G.one (.rs i a n) = true := rfl
theorem Z0f (i n a : Nat) : G.one (.rp i n a) = true := rfl
theorem Z0e (i n a k : Nat) : G.one (.rl i n a k) = true := rfl
theorem Zvz (i a : Nat) : G.one (.ref i a) = true := rfl
theorem Z0c (f k : Nat) (cs : List G) : G.one (.fn f k cs) = true := rfl
theorem Zj5 (cs : List G) : Xv (.agg cs) = some cs := rfl
theorem Zka (v : Value) : Xv (.val v) = match v with
  | .agg vs => some (vs.toList.map .val)
  | v => if G.one (.val v) = true then some [.val v] else none := by cases v <;> rfl
theorem Zlt (n : Nat) (cs : List G) : Xv (.sl n cs) = some [.sl n cs] := rfl
theorem Zlp (cs : List G) (k : Nat) : Xv (.ip cs k) = some [.ip cs k] := rfl
theorem Zj8 (i n : Nat) : Xv (.row i n) = some [.row i n] := rfl
theorem Zls (i a n : Nat) : Xv (.rs i a n) = some [.rs i a n] := rfl
theorem Zlr (i n a : Nat) : Xv (.rp i n a) = some [.rp i n a] := rfl
theorem Zlq (i n a k : Nat) : Xv (.rl i n a k) = some [.rl i n a k] := rfl
theorem Zj7 (i a : Nat) : Xv (.ref i a) = some [.ref i a] := rfl
theorem Zln (f k : Nat) (cs : List G) : Xv (.fn f k cs) = some [.fn f k cs] := rfl
theorem Zj6 : Xv .any = none := rfl
theorem Zj9 (cs : List G) : Xv (.tup cs) = none := rfl
theorem Zir (b : Bool) (g : G) : Xv (.when b g) = none := rfl
def gP {α : Type} (f : α → List G) : Option α → G
 | none => .val (.pointer none)
 | some x => .ip (f x) 0
def eP {α : Type} (f : α → List G) (x : Option α) : List G := [gP f x]
section
variable {α : Type} {f : α → List G} {T : Jo} {t e : TypeId} {O O' : Objs} {n' : Nat}
theorem Zuw : gP f none = .val (.pointer none) := rfl
theorem Zux (x : α) : gP f (some x) = .ip (f x) 0 := rfl
theorem Zsw (x : Option α) : Uu (gP f x) = gP f x := by cases x <;> rfl
theorem Z1x (x : Option α) (l : List G) : wok (gP f x :: l) = wok l := by cases x <;> rfl
theorem Zbb (x : Option α) : (gP f x).one = true := by cases x <;> rfl
theorem Zlo (x : Option α) : Xv (gP f x) = some [gP f x] := by cases x <;> rfl
theorem Ju (h : ∀ x, G.pures (f x) = true) (x : Option α) : (gP f x).pure = true := by
 cases x with
 | none => rfl
 | some x => simp only [gP, G.pure, h]
theorem Uk (h : ∀ x, G.pures (f x) = true) (k : Nat) (x : Option α) : (gP f x).under k = true := Zff k _ (Ju h x)
theorem Zht (h : ∀ x, G.pures (f x) = true) (x : Option α) : wk O O' n' (gP f x) (gP f x) = True := eq_true (Zql _ (Uk h _ x))
theorem Zvn (x : Option α) : Xi O (gP f x) = True := by cases x <;> rfl
theorem Zkf (hk : Ya T t = some (.ptr e)) (x : Option α) : Ziz T .eql t (gP f x) (.val (.pointer none)) = some (True, .val (.bool x.isNone)) := by cases x <;> simp [gP, Ziz, hk]
end
theorem Zm2 {α : Type} : ∀ {l : List α} {k : Nat} {x : α}, l[k]? = some x → l.set k x = l
 | [], k, x, h => by simp at h
 | y :: l, 0, x, h => by simp at h; simp [h]
 | y :: l, k + 1, x, h => by simp only [List.set_cons_succ, Zm2 (l := l) (k := k) (by simpa using h)]
section
variable {P : Program} {w : World} {O : Objs} {m : Hands} {n : Nat}
theorem Zuf (hM : Mem w O m n) {p : Nat} {q q' : GObj} (hp : O p = some q) (h1 : q'.row = q.row) (h2 : q'.ty = q.ty) (h3 : q'.sz = q.sz) (h4 : q'.n = q.n) (hc : ∀ vs, G.reps w O m n q.cells vs → G.reps w O m n q'.cells vs) :
  Mem w (O.upd p (some q')) m n ∧ Ext w O m n w (O.upd p (some q')) m n := by
 have hpn : p < n := by
  rcases Nat.lt_or_ge p n with h | h
  ·exact h
  rw [hM.fresh p h] at hp; cases hp
 have hold : ∀ i o', (O.upd p (some q')) i = some o' → ∃ o, O i = some o ∧ o'.row = o.row ∧ o'.n = o.n := fun i o' hi => by
  by_cases e : i = p
  ·subst e; rw [Yo] at hi; injection hi with hi; subst hi; exact ⟨q, hp, h1, h4⟩
  rw [Xh _ _ e] at hi; exact ⟨o', hi, rfl, rfl⟩
 have hrep : ∀ (gs : List G) (vs : List Value), G.reps w O m n gs vs → G.reps w (O.upd p (some q')) m n gs vs := fun gs vs h => Uj hold gs vs h (Kw gs vs h)
 refine ⟨⟨fun i hi => ?_, fun i o' hi => ?_, fun i j oi oj b hi hj => ?_⟩, ⟨rfl, rfl, rfl, Nat.le_refl _, Nat.le_refl _, fun b _ ho => ⟨rfl, fun ⟨i, o', hi, hb⟩ => ?_⟩, fun i _ o' hi => ?_⟩⟩
 ·rw [Xh _ _ (by omega)]; exact hM.fresh i hi
 ·by_cases e : i = p
  ·subst e
   rw [Yo] at hi
   injection hi with hi
   subst hi
   obtain ⟨vs, hr, hx⟩ := hM.obj i q hp
   refine ⟨vs, hrep _ _ (hc vs hr), ?_⟩
   rw [h1, h2, h3, h4]; exact hx
  rw [Xh _ _ e] at hi
  obtain ⟨vs, hr, hx⟩ := hM.obj i o' hi
  exact ⟨vs, hrep _ _ hr, hx⟩
 ·obtain ⟨o1, e1, _⟩ := hold i oi hi
  obtain ⟨o2, e2, _⟩ := hold j oj hj
  exact hM.apart i j o1 o2 b e1 e2
 ·obtain ⟨o1, e1, _⟩ := hold i o' hi
  exact ho ⟨i, o1, e1, hb⟩
 obtain ⟨o1, e1, e2, e3⟩ := hold i o' hi
 exact ⟨o1, e1, e2, Nat.le_of_eq e3.symm, fun _ => rfl⟩
theorem Ze3 {ba : Nat} {E : Env} {p k : Nat} {q : GObj} (t : TypeId) (sz : Nat) (hp : O p = some q) (hk : q.cells[k]? = some (.val (.slice none 0 0))) (hb : ba ≤ n) :
  Fit2 ba E O n E ((O.upd n (some ⟨true, t, sz, 0, []⟩)).upd p (some ⟨q.row, q.ty, q.sz, q.n, q.cells.set k (.row n 0)⟩)) (n + 1) := fun w m a hM hE => by
 have hpn : p ≠ n := fun e => by rw [e, hM.fresh n (Nat.le_refl _)] at hp; cases hp
 obtain ⟨h1, h2⟩ := Zn4 hM t sz
 have hp' : (O.upd n (some ⟨true, t, sz, 0, []⟩)) p = some q := by rw [Xh _ _ hpn]; exact hp
 obtain ⟨h3, h4⟩ := Zuf (q' := ⟨q.row, q.ty, q.sz, q.n, q.cells.set k (.row n 0)⟩) h1 hp' rfl rfl rfl rfl (fun vs hr => by
  obtain ⟨v, hv, hrv⟩ := Zg1 _ _ hr k _ hk
  simp only [G.rep] at hrv
  subst hrv
  have := Zmy q.cells vs k (.row n 0) (.slice none 0 0) hr (Zn5 t sz)
  rw [Zm2 hv] at this
  exact this)
 have hX := h2.trans h4
 exact ⟨_, h3, hE.ext hX, hX.base hb⟩
end
end Go.Proofs.Ytgffgbdnbjbmoaa
