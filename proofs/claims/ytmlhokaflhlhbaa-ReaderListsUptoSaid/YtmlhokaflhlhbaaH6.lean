/- Part H6 of the ghost memory: lemmas and contracts used by the proofs of this seat's laws; each theorem bears its own conditions. -/
import Derived.Test.YtmlhokaflhlhbaaH5
import Derived.WalkKit
import Derived.WalkSpells
import Derived.WalkLawsBesides
import Derived.Lib.Hide
import Derived.BigQuiet
import Derived.StillTailTactics
import Derived.Deep.RegionHeld3
import Derived.Deep.AppendLies
import Derived.Laws.CopyOwn
import Derived.Deep.DeepCutAuto
import Derived.Deep.QuietTactic
import Derived.Maps.AppendAt
import Derived.Great.BuildSlice
import Derived.Laws.StructEq
import Derived.IntWalk
import Derived.ProofKit
import Derived.OpenShut
import Derived.SizedLaws
import Derived.Deep.Slices
namespace Go.Proofs.Ytmlhokaflhlhbaa
open Go.RowKit
set_option linter.unusedVariables false
set_option linter.unusedSimpArgs false
section
variable {P : Program} {T : Xk} {O O' X X' : Objs} {n n' n0 ba : Nat} {E E' : Env} {Q : GQ} {c x y : Code}
def Znw {Z1 Z2 : Type} (J1 : Z1 → GQ) (J2 : Z2 → GQ) : Z1 ⊕ Z2 → GQ
 | .inl z => J1 z
 | .inr z => J2 z
theorem Zsl {Z : Type} {J : Z → GQ} {z : Z} (h : W P ba x (J z) E O n) (k : W P ba x (J z) E O n → W P ba (.seq x y) Q E O n) : W P ba (.seq x y) Q E O n := k h
theorem Zr3 {Z : Type} {J : Z → GQ} {z : Z} {id : Nat} (h : W P ba c (J z) E O n) (k : W P ba c (J z) E O n → W P ba (.block id c) Q E O n) : W P ba (.block id c) Q E O n := k h
theorem Zeb {id : Nat} (h : W P ba c (JX id ba E' O' n0) E O n) (k : Q .normal E' O' n0) : W P ba (.block id c) Q E O n :=
 J6 (Zsk h (by show Ze id Q (.exit id) E' O' n0; simp only [Ze, if_true]; exact k))
theorem Zpq {id : Nat} (h : W P ba c (JR ba E' O' n0) E O n) (k : Q .ret E' O' n0) : W P ba (.block id c) Q E O n := J6 (Zsj h k)
theorem Zda (O : Objs) (i : Nat) (a b : Option GObj) : (O.upd i a).upd i b = O.upd i b := by funext j; unfold Objs.upd; split <;> rfl
theorem J8 {α : Type} {f : α → List G} (h : ∀ x, (f x).all G.one = true) : ∀ xs : List α, (fl f xs).all G.one = true
 | [] => rfl
 | x :: xs => by rw [Qw, List.all_append, h x, J8 h xs]; rfl
section
variable {α : Type} {xs ys : List α} {f : α → List G} {t e : TypeId} {ie : TyI}
theorem Zr6 {lo hi : Int} {sz : Nat} (hf : ∀ x, (f x).length = sz) (h : Zd8 xs lo hi = some ys) : ((fl f xs).drop (lo.toNat * sz)).take ((hi - lo).toNat * sz) = fl f ys := by
 rw [Zhu hf, Zk2 hf, Zoq h]
theorem Zpd {lo hi : Option KI} (ht : Zp T t = some (.slice e)) (he : T e = some ie) (hf : ∀ x, (f x).length = ie.size) (h : Zd8 xs (Gq lo) (bHi hi xs.length) = some ys) :
  Zd0 T t (.sl xs.length (fl f xs)) lo hi none = some (0 ≤ Gq lo ∧ Gq lo ≤ bHi hi xs.length ∧ bHi hi xs.length ≤ bMx none xs.length ∧ bMx none xs.length ≤ xs.length, .sl ys.length (fl f ys)) := by
 unfold Zd0
 simp only [ht, he, Option.isSome_none, Bool.false_eq_true, false_and, if_false]
 rw [Zr6 hf h, ← Zqr h]
end
end
theorem Zai (T : Xk) (t : TypeId) (c : G) (cs : List G) (off : Nat) : Zb0 T t (c :: cs) off = match T t with
  | none => none
  | some i => if i.k.isAgg then (if off + i.size ≤ (c :: cs).length then some (.agg (((c :: cs).drop off).take i.size)) else none) else (c :: cs)[off]? := rfl
theorem Ui (c : G) (cells cs : List G) (off : Nat) : Km (c :: cells) cs off = if off + cs.length ≤ (c :: cells).length then some ((c :: cells).take off ++ cs ++ (c :: cells).drop (off + cs.length)) else none := rfl
section
variable {O O' : Objs} {n' : Nat}
theorem Zgx : Kh O O' n' [] [] = True := by simp [Kh]
theorem U7 (g g' : G) (r r' : List G) : Kh O O' n' (g :: r) (g' :: r') = (wk O O' n' g g' ∧ Kh O O' n' r r') := by
 simp only [Kh, List.cons.injEq, eq_iff_iff]
 exact ⟨fun ⟨_, _, ⟨rfl, rfl⟩, h⟩ => h, fun h => ⟨_, _, ⟨rfl, rfl⟩, h⟩⟩
theorem Zjr (g : G) : wk O O' n' g .any = True := by unfold wk; rfl
theorem Zjv (g : G) (u : Value) : wk O O' n' g (.val u) = (g = .val u) := by unfold wk; rfl
theorem Zjq (a b : List G) : wk O O' n' (.agg a) (.agg b) = Kh O O' n' a b := by simp [wk]
theorem Zju (a b : List G) : wk O O' n' (.tup a) (.tup b) = Kh O O' n' a b := by simp [wk]
theorem Znq (f f' k k' : Nat) (a b : List G) : wk O O' n' (.fn f k a) (.fn f' k' b) = (f = f' ∧ k = k' ∧ Kh O O' n' a b) := by
 simp only [wk, G.fn.injEq, eq_iff_iff]
 exact ⟨fun ⟨_, ⟨h1, h2, rfl⟩, h⟩ => ⟨h1, h2, h⟩, fun ⟨h1, h2, h⟩ => ⟨_, ⟨h1, h2, rfl⟩, h⟩⟩
theorem Znu (k k' : Nat) (a b : List G) : wk O O' n' (.sl k a) (.sl k' b) = (k = k' ∧ Kh O O' n' a b) := by simp [wk]
theorem Za5 (k k' c : Nat) (b : List G) : wk O O' n' (.val (.slice none k c)) (.sl k' b) = (k = 0 ∧ k' = 0 ∧ b = []) := by simp [wk]
theorem Zdc (i k k' : Nat) (b : List G) : wk O O' n' (.row i k) (.sl k' b) = (k = k' ∧ O' i = none ∧ ∃ o, O i = some o ∧ o.row = true ∧ k = o.n ∧ Kh O O' n' o.cells b) := by simp [wk]
theorem Zgv (i off k k' : Nat) (b : List G) : wk O O' n' (.rs i off k) (.sl k' b) = (off = 0 ∧ k = k' ∧ O' i = none ∧ ∃ o, O i = some o ∧ o.row = false ∧ Kh O O' n' o.cells b) := by simp [wk]
theorem Znr (k k' : Nat) (a b : List G) : wk O O' n' (.ip a k) (.ip b k') = (k = k' ∧ Kh O O' n' a b) := by simp [wk]
theorem Zdb (i k k' : Nat) (b : List G) : wk O O' n' (.ref i k) (.ip b k') = (k = k' ∧ O' i = none ∧ ∃ o, O i = some o ∧ o.row = false ∧ Kh O O' n' o.cells b) := by simp [wk]
theorem Zjt (g : G) (i k : Nat) : wk O O' n' g (.row i k) = (g = .row i k ∧ i < n') := by unfold wk; rfl
theorem Znt (g : G) (i o k : Nat) : wk O O' n' g (.rs i o k) = (g = .rs i o k ∧ i < n') := by unfold wk; rfl
theorem Zns (g : G) (i o k : Nat) : wk O O' n' g (.rp i o k) = (g = .rp i o k ∧ i < n') := by unfold wk; rfl
theorem Zjs (g : G) (i k : Nat) : wk O O' n' g (.ref i k) = (g = .ref i k ∧ i < n') := by unfold wk; rfl
theorem Zil (n K : Nat) : (n < n + K) = (0 < K) := by simp
theorem Zma (n j K : Nat) : (n + j < n + K) = (j < K) := by simp
end
theorem Ga {O O' : Objs} {n' : Nat} (b b' : List G) : ∀ a : List G, G.pures a = true → Kh O O' n' (a ++ b) (a ++ b') = Kh O O' n' b b'
 | [], _ => rfl
 | x :: a, h => by
  simp only [G.pures, Bool.and_eq_true] at h
  rw [List.cons_append, List.cons_append, U7, Ga b b' a h.2, eq_iff_iff]
  exact ⟨fun q => q.2, fun q => ⟨Zlq x (Zbd _ x h.1), q⟩⟩
end Go.Proofs.Ytmlhokaflhlhbaa
