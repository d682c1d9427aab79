/- Part H6 of the ghost memory: lemmas and contracts used by the proofs of this seat's laws; each theorem bears its own conditions. -/
import Derived.Test.YtgpaglmhkklneaaH5
import Derived.WalkKit
import Derived.WalkSpells
import Derived.WalkLawsBesides
import Derived.Lib.Hide
import Derived.BigQuiet
import Derived.StillTailTactics
import Derived.Deep.RegionHeld3
import Derived.Deep.AppendLies
import Derived.Laws.CopyOwn
import Derived.Deep.DeepCutAuto
import Derived.Deep.QuietTactic
import Derived.Maps.AppendAt
import Derived.Great.BuildSlice
import Derived.Laws.StructEq
import Derived.ChangeKeysEq
import Derived.IntWalk
import Derived.Lib.AppendZeros
import Derived.Lib.AppendZerosOnto
import Derived.ProofKit
import Derived.OpenShut
import Derived.SizedLaws
import Derived.Deep.Slices
namespace Go.Proofs.Ytgpaglmhkklneaa
open Go.RowKit
set_option linter.unusedVariables false
set_option linter.unusedSimpArgs false
section
variable {P : Program} {T : Vt} {O O' X X' : Objs} {n n' n0 ba : Nat} {E E' : Env} {Q : GQ} {c x y : Code}
def Xs {Z1 Z2 : Type} (J1 : Z1 → GQ) (J2 : Z2 → GQ) : Z1 ⊕ Z2 → GQ
 | .inl z => J1 z
 | .inr z => J2 z
theorem Yfu {Z : Type} {J : Z → GQ} {z : Z} (h : W P ba x (J z) E O n) (k : W P ba x (J z) E O n → W P ba (.seq x y) Q E O n) : W P ba (.seq x y) Q E O n := k h
theorem Gu {Z : Type} {J : Z → GQ} {z : Z} {id : Nat} (h : W P ba c (J z) E O n) (k : W P ba c (J z) E O n → W P ba (.block id c) Q E O n) : W P ba (.block id c) Q E O n := k h
theorem Yu {id : Nat} (h : W P ba c (JX id ba E' O' n0) E O n) (k : Q .normal E' O' n0) : W P ba (.block id c) Q E O n :=
 Yl (Yft h (by show Ye id Q (.exit id) E' O' n0; simp only [Ye, if_true]; exact k))
theorem Jc {id : Nat} (h : W P ba c (JR ba E' O' n0) E O n) (k : Q .ret E' O' n0) : W P ba (.block id c) Q E O n := Yl (Yfs h k)
theorem GCalls.argsW {f : FuncId} {gs gs' : List G} {K : G → Objs → Nat → Prop} (hw : wkl O O n gs gs') (h : GCalls P f gs' O n K) : GCalls P f gs O n K := GCalls.args h hw
theorem Xr {i : Nat} {o : Option GObj} (hU : Und O n) (hi : i < n) : ∀ j, n ≤ j → O.upd i o j = none := fun j hj => by rw [Yp _ _ (by omega)]; exact hU.fresh j hj
theorem Xd (O : Objs) (i : Nat) (a b : Option GObj) : (O.upd i a).upd i b = O.upd i b := by funext j; unfold Objs.upd; split <;> rfl
theorem U6 {α : Type} {f : α → List G} (h : ∀ x, (f x).all G.one = true) : ∀ xs : List α, (fl f xs).all G.one = true
 | [] => rfl
 | x :: xs => by rw [Zar, List.all_append, h x, U6 h xs]; rfl
section
variable {α : Type} {xs ys : List α} {f : α → List G} {t e : TypeId} {ie : TyI}
theorem Yai {lo hi : Int} {sz : Nat} (hf : ∀ x, (f x).length = sz) (h : Zgi xs lo hi = some ys) : ((fl f xs).drop (lo.toNat * sz)).take ((hi - lo).toNat * sz) = fl f ys := by
 rw [Zrq hf, Zvi hf, Z7k h]
theorem Z86 {lo hi : Option KI} (ht : Y1 T t = some (.slice e)) (he : T e = some ie) (hf : ∀ x, (f x).length = ie.size) (h : Zgi xs (bLo lo) (bHi hi xs.length) = some ys) :
  Zg1 T t (.sl xs.length (fl f xs)) lo hi none = some (0 ≤ bLo lo ∧ bLo lo ≤ bHi hi xs.length ∧ bHi hi xs.length ≤ bMx none xs.length ∧ bMx none xs.length ≤ xs.length, .sl ys.length (fl f ys)) := by
 unfold Zg1
 simp only [ht, he, Option.isSome_none, Bool.false_eq_true, false_and, if_false]
 rw [Yai hf h, ← Z48 h]
theorem Z5z {lo : Option KI} {hi : KI} (ht : Y1 T t = some (.slice e)) (he : T e = some ie) (hf : ∀ x, (f x).length = ie.size) (h : Zgi xs (bLo lo) hi.2 = some ys) :
  Zg1 T t (.sl xs.length (fl f xs)) lo (some hi) (some hi) = some (0 ≤ bLo lo ∧ bLo lo ≤ hi.2 ∧ hi.2 ≤ hi.2 ∧ hi.2 ≤ xs.length, .sl ys.length (fl f ys)) := by
 unfold Zg1
 simp only [ht, he, Option.isSome_some, Bool.true_eq_false, and_false, if_false, bHi, bMx]
 rw [Yai hf h, ← Z48 h]
end
end
theorem Zpc (T : Vt) (t : TypeId) (c : G) (cs : List G) (off : Nat) : Ziq T t (c :: cs) off = match T t with
  | none => none
  | some i => if i.k.isAgg then (if off + i.size ≤ (c :: cs).length then some (.agg (((c :: cs).drop off).take i.size)) else none) else (c :: cs)[off]? := rfl
theorem Zl7 (c : G) (cells cs : List G) (off : Nat) : Kc (c :: cells) cs off = if off + cs.length ≤ (c :: cells).length then some ((c :: cells).take off ++ cs ++ (c :: cells).drop (off + cs.length)) else none := rfl
section
variable {O O' : Objs} {n' : Nat}
theorem Zx0 : wkl O O' n' [] [] = True := by simp [wkl]
theorem Zoq (g g' : G) (r r' : List G) : wkl O O' n' (g :: r) (g' :: r') = (wk O O' n' g g' ∧ wkl O O' n' r r') := by
 simp only [wkl, List.cons.injEq, eq_iff_iff]
 exact ⟨fun ⟨_, _, ⟨rfl, rfl⟩, h⟩ => h, fun h => ⟨_, _, ⟨rfl, rfl⟩, h⟩⟩
theorem Z3p (g : G) : wk O O' n' g .any = True := by unfold wk; rfl
theorem Z3u (g : G) (u : Value) : wk O O' n' g (.val u) = (g = .val u) := by unfold wk; rfl
theorem Z3o (a b : List G) : wk O O' n' (.agg a) (.agg b) = wkl O O' n' a b := by simp [wk]
theorem Z3t (a b : List G) : wk O O' n' (.tup a) (.tup b) = wkl O O' n' a b := by simp [wk]
theorem Z8n (f f' k k' : Nat) (a b : List G) : wk O O' n' (.fn f k a) (.fn f' k' b) = (f = f' ∧ k = k' ∧ wkl O O' n' a b) := by
 simp only [wk, G.fn.injEq, eq_iff_iff]
 exact ⟨fun ⟨_, ⟨h1, h2, rfl⟩, h⟩ => ⟨h1, h2, h⟩, fun ⟨h1, h2, h⟩ => ⟨_, ⟨h1, h2, rfl⟩, h⟩⟩
theorem Z8s (k k' : Nat) (a b : List G) : wk O O' n' (.sl k a) (.sl k' b) = (k = k' ∧ wkl O O' n' a b) := by simp [wk]
theorem Zto (k k' c : Nat) (b : List G) : wk O O' n' (.val (.slice none k c)) (.sl k' b) = (k = 0 ∧ k' = 0 ∧ b = []) := by simp [wk]
theorem Ztp (i k k' : Nat) (b : List G) : wk O O' n' (.row i k) (.sl k' b) = (k = k' ∧ O' i = none ∧ ∃ o, O i = some o ∧ o.row = true ∧ k = o.n ∧ wkl O O' n' o.cells b) := by simp [wk]
theorem Zxz (i off k k' : Nat) (b : List G) : wk O O' n' (.rs i off k) (.sl k' b) = (off = 0 ∧ k = k' ∧ O' i = none ∧ ∃ o, O i = some o ∧ o.row = false ∧ wkl O O' n' o.cells b) := by simp [wk]
theorem Z8o (k k' : Nat) (a b : List G) : wk O O' n' (.ip a k) (.ip b k') = (k = k' ∧ wkl O O' n' a b) := by simp [wk]
theorem Ztn (i k k' : Nat) (b : List G) : wk O O' n' (.ref i k) (.ip b k') = (k = k' ∧ O' i = none ∧ ∃ o, O i = some o ∧ o.row = false ∧ wkl O O' n' o.cells b) := by simp [wk]
theorem Z3s (g : G) (i k : Nat) : wk O O' n' g (.row i k) = (g = .row i k ∧ i < n') := by unfold wk; rfl
theorem Z8r (g : G) (i o k : Nat) : wk O O' n' g (.rs i o k) = (g = .rs i o k ∧ i < n') := by unfold wk; rfl
theorem Z8q (g : G) (i o k : Nat) : wk O O' n' g (.rp i o k) = (g = .rp i o k ∧ i < n') := by unfold wk; rfl
theorem Z8p (g : G) (i o k l : Nat) : wk O O' n' g (.rl i o k l) = (g = .rl i o k l ∧ i < n') := by unfold wk; rfl
theorem Z3q (g : G) (i k : Nat) : wk O O' n' g (.ref i k) = (g = .ref i k ∧ i < n') := by unfold wk; rfl
theorem Z18 (n K : Nat) : (n < n + K) = (0 < K) := by simp
theorem Z62 (n j K : Nat) : (n + j < n + K) = (j < K) := by simp
end
theorem Zdv {O O' : Objs} {n' : Nat} (b b' : List G) : ∀ a : List G, G.pures a = true → wkl O O' n' (a ++ b) (a ++ b') = wkl O O' n' b b'
 | [], _ => rfl
 | x :: a, h => by
  simp only [G.pures, Bool.and_eq_true] at h
  rw [List.cons_append, List.cons_append, Zoq, Zdv b b' a h.2, eq_iff_iff]
  exact ⟨fun q => q.2, fun q => ⟨Z3r x (Zmu _ x h.1), q⟩⟩
theorem Zfa {S R : Type} {step : S → Option (S ⊕ R)} (I : S → Prop) (m : S → Nat) (post : R → Prop)
  (hstep : ∀ s, I s → (∃ s', step s = some (.inl s') ∧ I s' ∧ m s' < m s) ∨ (∃ r, step s = some (.inr r) ∧ post r)) : ∀ s, I s → ∃ r, Zy step s = some r ∧ post r := by
 have key : ∀ k s, m s ≤ k → I s → ∃ r, Zy step s = some r ∧ post r := by
  intro k
  induction k with
  | zero =>
   intro s hm hi
   rcases hstep s hi with ⟨s', h1, h2, h3⟩ | ⟨r, h1, h2⟩
   ·omega
   exact ⟨r, Y7 h1, h2⟩
  | succ k ih =>
   intro s hm hi
   rcases hstep s hi with ⟨s', h1, h2, h3⟩ | ⟨r, h1, h2⟩
   ·obtain ⟨r, h4, h5⟩ := ih s' (by omega) h2
    exact ⟨r, by rw [X2 h1]; exact h4, h5⟩
   exact ⟨r, Y7 h1, h2⟩
 exact fun s hi => key (m s) s (Nat.le_refl _) hi
theorem Zm0 {S R : Type} {step : S → Option (S ⊕ R)} {r : R} (I : S → Prop) (m : S → Nat)
  (hstep : ∀ s, I s → (∃ s', step s = some (.inl s') ∧ I s' ∧ m s' < m s) ∨ step s = some (.inr r)) (s : S) (hi : I s) : Zy step s = some r := by
 obtain ⟨r', h1, h2⟩ := Zfa I m (· = r) (fun s hi => by rcases hstep s hi with h | h; exact .inl h; exact .inr ⟨r, h, rfl⟩) s hi
 rw [h1, h2]
end Go.Proofs.Ytgpaglmhkklneaa
