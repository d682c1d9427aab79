/- Part H18 of the ghost memory: lemmas and contracts used by the proofs of this seat's laws; each theorem bears its own conditions. -/
import Derived.Test.YtgffgbdnbjbmoaaH17
import Derived.WalkKit
import Derived.WalkSpells
import Derived.WalkLawsBesides
import Derived.Lib.Hide
import Derived.BigQuiet
import Derived.StillTailTactics
import Derived.Deep.RegionHeld3
import Derived.Deep.AppendLies
import Derived.Laws.CopyOwn
import Derived.Deep.DeepCutAuto
import Derived.Deep.QuietTactic
import Derived.Maps.AppendAt
import Derived.Great.BuildSlice
import Derived.Laws.StructEq
import Derived.ChangeKeysEq
import Derived.IntWalk
import Derived.Lib.AppendZeros
import Derived.Lib.AppendZerosOnto
import Derived.ProofKit
import Derived.OpenShut
import Derived.SizedLaws
import Derived.Deep.Slices
namespace Go.Proofs.Ytgffgbdnbjbmoaa
open Go.RowKit
set_option linter.unusedVariables false
set_option linter.unusedSimpArgs false
theorem Zml : Vg .any = .any := rfl
theorem Zmp (v : Value) : Vg (.val v) = .val v := rfl
theorem Zmk (cs : List G) : Vg (.agg cs) = .agg cs := rfl
theorem Zmo (cs : List G) : Vg (.tup cs) = .tup cs := rfl
theorem Zqh (n : Nat) (cs : List G) : Vg (.sl n cs) = .sl n cs := rfl
theorem Zqd (cs : List G) (k : Nat) : Vg (.ip cs k) = .ip cs k := rfl
theorem Zmn (i n : Nat) : Vg (.row i n) = .row i n := rfl
theorem Zqg (i a n : Nat) : Vg (.rs i a n) = .rs i a n := rfl
theorem Zqf (i n a : Nat) : Vg (.rp i n a) = .rp i n a := rfl
theorem Zqe (i n a k : Nat) : Vg (.rl i n a k) = .rl i n a k := rfl
theorem Zmm (i a : Nat) : Vg (.ref i a) = .ref i a := rfl
theorem Zqb (f k : Nat) (cs : List G) : Vg (.fn f k cs) = .fn f k cs := rfl
theorem Zkt (b : Bool) (g : G) : Vg (.when b g) = g := rfl
section
variable {O : Objs} {T : Qr} {op : BinOp} {t : TypeId}
theorem Zph : Yz O .any = True := rfl
theorem Zpl (v : Value) : Yz O (.val v) = True := rfl
theorem Zpg (cs : List G) : Yz O (.agg cs) = True := rfl
theorem Zpk (cs : List G) : Yz O (.tup cs) = True := rfl
theorem Zsv (n : Nat) (cs : List G) : Yz O (.sl n cs) = True := rfl
theorem Zsr (cs : List G) (k : Nat) : Yz O (.ip cs k) = True := rfl
theorem Zsp (f k : Nat) (cs : List G) : Yz O (.fn f k cs) = True := rfl
theorem Zl2 (b : Bool) (g : G) : Yz O (.when b g) = True := rfl
theorem Zpi (i a : Nat) : Yz O (.ref i a) = ∃ o, O i = some o ∧ o.row = false := rfl
theorem Zsu (i a n : Nat) : Yz O (.rs i a n) = ∃ o, O i = some o ∧ o.row = false := rfl
theorem Zst (i k a : Nat) : Yz O (.rp i k a) = ∃ o, O i = some o ∧ o.row = true ∧ k = o.n := rfl
theorem Zss (i k a l : Nat) : Yz O (.rl i k a l) = True := rfl
theorem Zpj (i k : Nat) : Yz O (.row i k) = ∃ o, O i = some o ∧ o.row = true ∧ k = o.n := rfl
theorem Zsk : Zbx O .any = True := rfl
theorem Zsn (v : Value) : Zbx O (.val v) = True := rfl
theorem Zsj (cs : List G) : Zbx O (.agg cs) = True := rfl
theorem Zsm (cs : List G) : Zbx O (.tup cs) = True := rfl
theorem Zws (n : Nat) (cs : List G) : Zbx O (.sl n cs) = True := rfl
theorem Zwp (cs : List G) (k : Nat) : Zbx O (.ip cs k) = True := rfl
theorem Zwo (f k : Nat) (cs : List G) : Zbx O (.fn f k cs) = True := rfl
theorem Zsl (i k : Nat) : Zbx O (.row i k) = True := rfl
theorem Zwq (i k a l : Nat) : Zbx O (.rl i k a l) = True := rfl
theorem Zwr (i a n : Nat) : Zbx O (.rs i a n) = ∃ o, O i = some o ∧ o.row = false := rfl
theorem Zr4 (k k' : IntKind) (a b : Int) : Zgg T op t (.val (.int k a)) (.val (.int k' b)) = (Zrb op k a k' b).map fun r => (r.1, .val r.2) := rfl
theorem Zr3 (a b : Bool) : Zgg T op t (.val (.bool a)) (.val (.bool b)) = match Z0 T t, op with
  | some .bool, .eql => some (True, .val (.bool (a == b)))
  | some .bool, .neq => some (True, .val (.bool (a != b)))
  | _, _ => none := rfl
theorem Zr9 (a b : ByteArray) : Zgg T op t (.val (.string a)) (.val (.string b)) = match op with
  | .eql => some (True, .val (.bool (a.toList == b.toList)))
  | .neq => some (True, .val (.bool (!(a.toList == b.toList))))
  | _ => none := rfl
theorem Zr7 : Zgg T op t (.val (.pointer none)) (.val (.pointer none)) = match Z0 T t, op with
  | some (.ptr _), .eql => some (True, .val (.bool true))
  | some (.ptr _), .neq => some (True, .val (.bool false))
  | _, _ => none := rfl
theorem Zr8 (i a : Nat) : Zgg T op t (.ref i a) (.val (.pointer none)) = match Z0 T t, op with
  | some (.ptr _), .eql => some (True, .val (.bool false))
  | some (.ptr _), .neq => some (True, .val (.bool true))
  | _, _ => none := rfl
theorem Zr5 (cs : List G) (k : Nat) : Zgg T op t (.ip cs k) (.val (.pointer none)) = match Z0 T t, op with
  | some (.ptr _), .eql => some (True, .val (.bool false))
  | some (.ptr _), .neq => some (True, .val (.bool true))
  | _, _ => none := rfl
theorem Zr6 (a : Option Addr) (l c l' c' : Nat) : Zgg T op t (.val (.slice a l c)) (.val (.slice none l' c')) = match Z0 T t, op with
  | some (.slice _), .eql => some (True, .val (.bool a.isNone))
  | some (.slice _), .neq => some (True, .val (.bool (!a.isNone)))
  | _, _ => none := rfl
theorem Zr2 (xs ys : List G) : Zgg T op t (.agg xs) (.agg ys) = match T t, Zk9 T 6 t xs ys with
  | some i, some b => if i.k.isAgg = true ∧ i.eq = true then (match op with
   | .eql => some (True, .val (.bool b))
   | .neq => some (True, .val (.bool (!b)))
   | _ => none) else none
  | _, _ => none := rfl
end
theorem Zs1 : G.one .any = false := rfl
theorem Zs7 (v : Value) : G.one (.val v) = v.oneCell' := rfl
theorem Zs0 (cs : List G) : G.one (.agg cs) = false := rfl
theorem Zs6 (cs : List G) : G.one (.tup cs) = false := rfl
theorem Zpv (b : Bool) (g : G) : G.one (.when b g) = false := rfl
theorem Zxg (n : Nat) (cs : List G) : G.one (.sl n cs) = true := rfl
theorem Zxc (cs : List G) (k : Nat) : G.one (.ip cs k) = true := rfl
theorem Zs5 (i n : Nat) : G.one (.row i n) = true := rfl
theorem Zxf (i a n : Nat) : G.one (.rs i a n) = true := rfl
theorem Zxe (i n a : Nat) : G.one (.rp i n a) = true := rfl
theorem Zxd (i n a k : Nat) : G.one (.rl i n a k) = true := rfl
theorem Zs3 (i a : Nat) : G.one (.ref i a) = true := rfl
theorem Zxb (f k : Nat) (cs : List G) : G.one (.fn f k cs) = true := rfl
theorem Zhp (cs : List G) : Xc (.agg cs) = some cs := rfl
theorem Zhu (v : Value) : Xc (.val v) = match v with
  | .agg vs => some (vs.toList.map .val)
  | v => if G.one (.val v) = true then some [.val v] else none := by cases v <;> rfl
theorem Zjh (n : Nat) (cs : List G) : Xc (.sl n cs) = some [.sl n cs] := rfl
theorem Zjd (cs : List G) (k : Nat) : Xc (.ip cs k) = some [.ip cs k] := rfl
theorem Zhs (i n : Nat) : Xc (.row i n) = some [.row i n] := rfl
theorem Zjg (i a n : Nat) : Xc (.rs i a n) = some [.rs i a n] := rfl
theorem Zjf (i n a : Nat) : Xc (.rp i n a) = some [.rp i n a] := rfl
theorem Zje (i n a k : Nat) : Xc (.rl i n a k) = some [.rl i n a k] := rfl
theorem Zhr (i a : Nat) : Xc (.ref i a) = some [.ref i a] := rfl
theorem Zjb (f k : Nat) (cs : List G) : Xc (.fn f k cs) = some [.fn f k cs] := rfl
theorem Zhq : Xc .any = none := rfl
theorem Zht (cs : List G) : Xc (.tup cs) = none := rfl
theorem Zga (b : Bool) (g : G) : Xc (.when b g) = none := rfl
def gP {α : Type} (f : α → List G) : Option α → G
 | none => .val (.pointer none)
 | some x => .ip (f x) 0
def eP {α : Type} (f : α → List G) (x : Option α) : List G := [gP f x]
section
variable {α : Type} {f : α → List G} {T : Qr} {t e : TypeId} {O O' : Objs} {n' : Nat}
theorem Zr0 : gP f none = .val (.pointer none) := rfl
theorem Zr1 (x : α) : gP f (some x) = .ip (f x) 0 := rfl
theorem Zqc (x : Option α) : Vg (gP f x) = gP f x := by cases x <;> rfl
theorem Zys (x : Option α) (l : List G) : wok (gP f x :: l) = wok l := by cases x <;> rfl
theorem Gi (x : Option α) : (gP f x).one = true := by cases x <;> rfl
theorem Zjc (x : Option α) : Xc (gP f x) = some [gP f x] := by cases x <;> rfl
theorem Qz (h : ∀ x, G.pures (f x) = true) (x : Option α) : (gP f x).pure = true := by
 cases x with
 | none => rfl
 | some x => simp only [gP, G.pure, h]
theorem K6 (h : ∀ x, G.pures (f x) = true) (k : Nat) (x : Option α) : (gP f x).under k = true := Zde k _ (Qz h x)
theorem Zfg (h : ∀ x, G.pures (f x) = true) (x : Option α) : wk O O' n' (gP f x) (gP f x) = True := eq_true (Zn9 _ (K6 h _ x))
theorem Zsq (x : Option α) : Yz O (gP f x) = True := by cases x <;> rfl
theorem Zhz (hk : Z0 T t = some (.ptr e)) (x : Option α) : Zgg T .eql t (gP f x) (.val (.pointer none)) = some (True, .val (.bool x.isNone)) := by cases x <;> simp [gP, Zgg, hk]
end
theorem Zks {α : Type} : ∀ {l : List α} {k : Nat} {x : α}, l[k]? = some x → l.set k x = l
 | [], k, x, h => by simp at h
 | y :: l, 0, x, h => by simp at h; simp [h]
 | y :: l, k + 1, x, h => by simp only [List.set_cons_succ, Zks (l := l) (k := k) (by simpa using h)]
section
variable {P : Program} {w : World} {O : Objs} {m : Hands} {n : Nat}
theorem Zrn (hM : Mem w O m n) {p : Nat} {q q' : GObj} (hp : O p = some q) (h1 : q'.row = q.row) (h2 : q'.ty = q.ty) (h3 : q'.sz = q.sz) (h4 : q'.n = q.n) (hc : ∀ vs, G.reps w O m n q.cells vs → G.reps w O m n q'.cells vs) :
  Mem w (O.upd p (some q')) m n ∧ Ext w O m n w (O.upd p (some q')) m n := by
 have hpn : p < n := by
  rcases Nat.lt_or_ge p n with h | h
  ·exact h
  rw [hM.fresh p h] at hp; cases hp
 have hold : ∀ i o', (O.upd p (some q')) i = some o' → ∃ o, O i = some o ∧ o'.row = o.row ∧ o'.n = o.n := fun i o' hi => by
  by_cases e : i = p
  ·subst e; rw [Yi] at hi; injection hi with hi; subst hi; exact ⟨q, hp, h1, h4⟩
  rw [Y5 _ _ e] at hi; exact ⟨o', hi, rfl, rfl⟩
 have hrep : ∀ (gs : List G) (vs : List Value), G.reps w O m n gs vs → G.reps w (O.upd p (some q')) m n gs vs := fun gs vs h => K5 hold gs vs h (Jp gs vs h)
 refine ⟨⟨fun i hi => ?_, fun i o' hi => ?_, fun i j oi oj b hi hj => ?_⟩, ⟨rfl, rfl, rfl, Nat.le_refl _, Nat.le_refl _, fun b _ ho => ⟨rfl, fun ⟨i, o', hi, hb⟩ => ?_⟩, fun i _ o' hi => ?_⟩⟩
 ·rw [Y5 _ _ (by omega)]; exact hM.fresh i hi
 ·by_cases e : i = p
  ·subst e
   rw [Yi] at hi
   injection hi with hi
   subst hi
   obtain ⟨vs, hr, hx⟩ := hM.obj i q hp
   refine ⟨vs, hrep _ _ (hc vs hr), ?_⟩
   rw [h1, h2, h3, h4]; exact hx
  rw [Y5 _ _ e] at hi
  obtain ⟨vs, hr, hx⟩ := hM.obj i o' hi
  exact ⟨vs, hrep _ _ hr, hx⟩
 ·obtain ⟨o1, e1, _⟩ := hold i oi hi
  obtain ⟨o2, e2, _⟩ := hold j oj hj
  exact hM.apart i j o1 o2 b e1 e2
 ·obtain ⟨o1, e1, _⟩ := hold i o' hi
  exact ho ⟨i, o1, e1, hb⟩
 obtain ⟨o1, e1, e2, e3⟩ := hold i o' hi
 exact ⟨o1, e1, e2, Nat.le_of_eq e3.symm, fun _ => rfl⟩
theorem Zi5 {ba : Nat} {E : Env} {p k : Nat} {q : GObj} (t : TypeId) (sz : Nat) (hp : O p = some q) (hk : q.cells[k]? = some (.val (.slice none 0 0))) (hb : ba ≤ n) :
  Fit2 ba E O n E ((O.upd n (some ⟨true, t, sz, 0, []⟩)).upd p (some ⟨q.row, q.ty, q.sz, q.n, q.cells.set k (.row n 0)⟩)) (n + 1) := fun w m a hM hE => by
 have hpn : p ≠ n := fun e => by rw [e, hM.fresh n (Nat.le_refl _)] at hp; cases hp
 obtain ⟨h1, h2⟩ := Zgz hM t sz
 have hp' : (O.upd n (some ⟨true, t, sz, 0, []⟩)) p = some q := by rw [Y5 _ _ hpn]; exact hp
 obtain ⟨h3, h4⟩ := Zrn (q' := ⟨q.row, q.ty, q.sz, q.n, q.cells.set k (.row n 0)⟩) h1 hp' rfl rfl rfl rfl (fun vs hr => by
  obtain ⟨v, hv, hrv⟩ := Zeu _ _ hr k _ hk
  simp only [G.rep] at hrv
  subst hrv
  have := Zkp q.cells vs k (.row n 0) (.slice none 0 0) hr (Zg0 t sz)
  rw [Zks hv] at this
  exact this)
 have hX := h2.trans h4
 exact ⟨_, h3, hE.ext hX, hX.base hb⟩
end
end Go.Proofs.Ytgffgbdnbjbmoaa
