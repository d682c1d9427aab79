/- Part H6 of the ghost memory: lemmas and contracts used by the proofs of this seat's laws; each theorem bears its own conditions. -/
import Derived.Test.YtgpaglmhkklneaaGreatH5
import Derived.WalkKit
import Derived.WalkSpells
import Derived.WalkLawsBesides
import Derived.Lib.Hide
import Derived.BigQuiet
import Derived.StillTailTactics
import Derived.Deep.RegionHeld3
import Derived.Deep.AppendLies
import Derived.Laws.CopyOwn
import Derived.Deep.DeepCutAuto
import Derived.Deep.QuietTactic
import Derived.Maps.AppendAt
import Derived.Great.BuildSlice
import Derived.Laws.StructEq
import Derived.ChangeKeysEq
import Derived.IntWalk
import Derived.Lib.AppendZeros
import Derived.Lib.AppendZerosOnto
import Derived.ProofKit
import Derived.OpenShut
import Derived.SizedLaws
import Derived.Deep.Slices
namespace Go.Proofs.YtgpaglmhkklneaaGreat
open Go.RowKit
set_option linter.unusedVariables false
set_option linter.unusedSimpArgs false
section
variable {P : Program} {T : K3} {O O' X X' : Objs} {n n' n0 ba : Nat} {E E' : Env} {Q : GQ} {c x y : Code}
def Vy {Z1 Z2 : Type} (J1 : Z1 → GQ) (J2 : Z2 → GQ) : Z1 ⊕ Z2 → GQ
 | .inl z => J1 z
 | .inr z => J2 z
theorem Ybn {Z : Type} {J : Z → GQ} {z : Z} (h : W P ba x (J z) E O n) (k : W P ba x (J z) E O n → W P ba (.seq x y) Q E O n) : W P ba (.seq x y) Q E O n := k h
theorem Zhs {Z : Type} {J : Z → GQ} {z : Z} {id : Nat} (h : W P ba c (J z) E O n) (k : W P ba c (J z) E O n → W P ba (.block id c) Q E O n) : W P ba (.block id c) Q E O n := k h
theorem Qb {id : Nat} (h : W P ba c (JX id ba E' O' n0) E O n) (k : Q .normal E' O' n0) : W P ba (.block id c) Q E O n :=
 Xh (Ybl h (by show Xm id Q (.exit id) E' O' n0; simp only [Xm, if_true]; exact k))
theorem Zcb {id : Nat} (h : W P ba c (JR ba E' O' n0) E O n) (k : Q .ret E' O' n0) : W P ba (.block id c) Q E O n := Xh (Ybk h k)
theorem GCalls.argsW {f : FuncId} {gs gs' : List G} {K : G → Objs → Nat → Prop} (hw : Uz O O n gs gs') (h : GCalls P f gs' O n K) : GCalls P f gs O n K := GCalls.args h hw
theorem Xt {i : Nat} {o : Option GObj} (hU : Und O n) (hi : i < n) : ∀ j, n ≤ j → O.upd i o j = none := fun j hj => by rw [Yo _ _ (by omega)]; exact hU.fresh j hj
theorem Xb (O : Objs) (i : Nat) (a b : Option GObj) : (O.upd i a).upd i b = O.upd i b := by funext j; unfold Objs.upd; split <;> rfl
theorem J6 {α : Type} {f : α → List G} (h : ∀ x, (f x).all G.one = true) : ∀ xs : List α, (fl f xs).all G.one = true
 | [] => rfl
 | x :: xs => by rw [U8, List.all_append, h x, J6 h xs]; rfl
section
variable {α : Type} {xs ys : List α} {f : α → List G} {t e : TypeId} {ie : TyI}
theorem Z5v {lo hi : Int} {sz : Nat} (hf : ∀ x, (f x).length = sz) (h : Zhf xs lo hi = some ys) : ((fl f xs).drop (lo.toNat * sz)).take ((hi - lo).toNat * sz) = fl f ys := by
 rw [Zn7 hf, Zrc hf, Z3z h]
theorem Z4o {lo hi : Option KI} (ht : Yt T t = some (.slice e)) (he : T e = some ie) (hf : ∀ x, (f x).length = ie.size) (h : Zhf xs (bLo lo) (bHi hi xs.length) = some ys) :
  Zg6 T t (.sl xs.length (fl f xs)) lo hi none = some (0 ≤ bLo lo ∧ bLo lo ≤ bHi hi xs.length ∧ bHi hi xs.length ≤ bMx none xs.length ∧ bMx none xs.length ≤ xs.length, .sl ys.length (fl f ys)) := by
 unfold Zg6
 simp only [ht, he, Option.isSome_none, Bool.false_eq_true, false_and, if_false]
 rw [Z5v hf h, ← Z0q h]
theorem Z1j {lo : Option KI} {hi : KI} (ht : Yt T t = some (.slice e)) (he : T e = some ie) (hf : ∀ x, (f x).length = ie.size) (h : Zhf xs (bLo lo) hi.2 = some ys) :
  Zg6 T t (.sl xs.length (fl f xs)) lo (some hi) (some hi) = some (0 ≤ bLo lo ∧ bLo lo ≤ hi.2 ∧ hi.2 ≤ hi.2 ∧ hi.2 ≤ xs.length, .sl ys.length (fl f ys)) := by
 unfold Zg6
 simp only [ht, he, Option.isSome_some, Bool.true_eq_false, and_false, if_false, bHi, bMx]
 rw [Z5v hf h, ← Z0q h]
end
end
theorem Zpo (T : K3) (t : TypeId) (c : G) (cs : List G) (off : Nat) : Ziv T t (c :: cs) off = match T t with
  | none => none
  | some i => if i.k.isAgg then (if off + i.size ≤ (c :: cs).length then some (.agg (((c :: cs).drop off).take i.size)) else none) else (c :: cs)[off]? := rfl
theorem Zm4 (c : G) (cells cs : List G) (off : Nat) : Kh (c :: cells) cs off = if off + cs.length ≤ (c :: cells).length then some ((c :: cells).take off ++ cs ++ (c :: cells).drop (off + cs.length)) else none := rfl
section
variable {O O' : Objs} {n' : Nat}
theorem Zzk : Uz O O' n' [] [] = True := by simp [Uz]
theorem Zo5 (g g' : G) (r r' : List G) : Uz O O' n' (g :: r) (g' :: r') = (wk O O' n' g g' ∧ Uz O O' n' r r') := by
 simp only [Uz, List.cons.injEq, eq_iff_iff]
 exact ⟨fun ⟨_, _, ⟨rfl, rfl⟩, h⟩ => h, fun h => ⟨_, _, ⟨rfl, rfl⟩, h⟩⟩
theorem Z21 (g : G) : wk O O' n' g .any = True := by unfold wk; rfl
theorem Z25 (g : G) (u : Value) : wk O O' n' g (.val u) = (g = .val u) := by unfold wk; rfl
theorem Z20 (a b : List G) : wk O O' n' (.agg a) (.agg b) = Uz O O' n' a b := by simp [wk]
theorem Z24 (a b : List G) : wk O O' n' (.tup a) (.tup b) = Uz O O' n' a b := by simp [wk]
theorem Z8f (f f' k k' : Nat) (a b : List G) : wk O O' n' (.fn f k a) (.fn f' k' b) = (f = f' ∧ k = k' ∧ Uz O O' n' a b) := by
 simp only [wk, G.fn.injEq, eq_iff_iff]
 exact ⟨fun ⟨_, ⟨h1, h2, rfl⟩, h⟩ => ⟨h1, h2, h⟩, fun ⟨h1, h2, h⟩ => ⟨_, ⟨h1, h2, rfl⟩, h⟩⟩
theorem Z8k (k k' : Nat) (a b : List G) : wk O O' n' (.sl k a) (.sl k' b) = (k = k' ∧ Uz O O' n' a b) := by simp [wk]
theorem Zup (k k' c : Nat) (b : List G) : wk O O' n' (.val (.slice none k c)) (.sl k' b) = (k = 0 ∧ k' = 0 ∧ b = []) := by simp [wk]
theorem Zuq (i k k' : Nat) (b : List G) : wk O O' n' (.row i k) (.sl k' b) = (k = k' ∧ O' i = none ∧ ∃ o, O i = some o ∧ o.row = true ∧ k = o.n ∧ Uz O O' n' o.cells b) := by simp [wk]
theorem Zzj (i off k k' : Nat) (b : List G) : wk O O' n' (.rs i off k) (.sl k' b) = (off = 0 ∧ k = k' ∧ O' i = none ∧ ∃ o, O i = some o ∧ o.row = false ∧ Uz O O' n' o.cells b) := by simp [wk]
theorem Z8g (k k' : Nat) (a b : List G) : wk O O' n' (.ip a k) (.ip b k') = (k = k' ∧ Uz O O' n' a b) := by simp [wk]
theorem Zuo (i k k' : Nat) (b : List G) : wk O O' n' (.ref i k) (.ip b k') = (k = k' ∧ O' i = none ∧ ∃ o, O i = some o ∧ o.row = false ∧ Uz O O' n' o.cells b) := by simp [wk]
theorem Z23 (g : G) (i k : Nat) : wk O O' n' g (.row i k) = (g = .row i k ∧ i < n') := by unfold wk; rfl
theorem Z8j (g : G) (i o k : Nat) : wk O O' n' g (.rs i o k) = (g = .rs i o k ∧ i < n') := by unfold wk; rfl
theorem Z8i (g : G) (i o k : Nat) : wk O O' n' g (.rp i o k) = (g = .rp i o k ∧ i < n') := by unfold wk; rfl
theorem Z8h (g : G) (i o k l : Nat) : wk O O' n' g (.rl i o k l) = (g = .rl i o k l ∧ i < n') := by unfold wk; rfl
theorem Z22 (g : G) (i k : Nat) : wk O O' n' g (.ref i k) = (g = .ref i k ∧ i < n') := by unfold wk; rfl
theorem Z1r (n K : Nat) : (n < n + K) = (0 < K) := by simp
theorem Z57 (n j K : Nat) : (n + j < n + K) = (j < K) := by simp
end
theorem Uw {O O' : Objs} {n' : Nat} (b b' : List G) : ∀ a : List G, G.pures a = true → Uz O O' n' (a ++ b) (a ++ b') = Uz O O' n' b b'
 | [], _ => rfl
 | x :: a, h => by
  simp only [G.pures, Bool.and_eq_true] at h
  rw [List.cons_append, List.cons_append, Zo5, Uw b b' a h.2, eq_iff_iff]
  exact ⟨fun q => q.2, fun q => ⟨Zzi x (Zkh _ x h.1), q⟩⟩
theorem Zft {S R : Type} {step : S → Option (S ⊕ R)} (I : S → Prop) (m : S → Nat) (post : R → Prop)
  (hstep : ∀ s, I s → (∃ s', step s = some (.inl s') ∧ I s' ∧ m s' < m s) ∨ (∃ r, step s = some (.inr r) ∧ post r)) : ∀ s, I s → ∃ r, Ya step s = some r ∧ post r := by
 have key : ∀ k s, m s ≤ k → I s → ∃ r, Ya step s = some r ∧ post r := by
  intro k
  induction k with
  | zero =>
   intro s hm hi
   rcases hstep s hi with ⟨s', h1, h2, h3⟩ | ⟨r, h1, h2⟩
   ·omega
   exact ⟨r, Xw h1, h2⟩
  | succ k ih =>
   intro s hm hi
   rcases hstep s hi with ⟨s', h1, h2, h3⟩ | ⟨r, h1, h2⟩
   ·obtain ⟨r, h4, h5⟩ := ih s' (by omega) h2
    exact ⟨r, by rw [J5 h1]; exact h4, h5⟩
   exact ⟨r, Xw h1, h2⟩
 exact fun s hi => key (m s) s (Nat.le_refl _) hi
theorem Ztn {S R : Type} {step : S → Option (S ⊕ R)} {r : R} (I : S → Prop) (m : S → Nat)
  (hstep : ∀ s, I s → (∃ s', step s = some (.inl s') ∧ I s' ∧ m s' < m s) ∨ step s = some (.inr r)) (s : S) (hi : I s) : Ya step s = some r := by
 obtain ⟨r', h1, h2⟩ := Zft I m (· = r) (fun s hi => by rcases hstep s hi with h | h; exact .inl h; exact .inr ⟨r, h, rfl⟩) s hi
 rw [h1, h2]
end Go.Proofs.YtgpaglmhkklneaaGreat
