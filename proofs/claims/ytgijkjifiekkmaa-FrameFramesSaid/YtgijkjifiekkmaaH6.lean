/- Part H6 of the ghost memory: lemmas and contracts used by the proofs of this seat's laws; each theorem bears its own conditions. -/
import Derived.Test.YtgijkjifiekkmaaH5
import Derived.WalkKit
import Derived.WalkSpells
import Derived.WalkLawsBesides
import Derived.Lib.Hide
import Derived.BigQuiet
import Derived.StillTailTactics
import Derived.Deep.RegionHeld3
import Derived.Deep.AppendLies
import Derived.Laws.CopyOwn
import Derived.Deep.DeepCutAuto
import Derived.Deep.QuietTactic
import Derived.Maps.AppendAt
import Derived.Great.BuildSlice
import Derived.Laws.StructEq
import Derived.IntWalk
import Derived.ProofKit
import Derived.OpenShut
import Derived.SizedLaws
import Derived.Deep.Slices
namespace Go.Proofs.Ytgijkjifiekkmaa
open Go.RowKit
set_option linter.unusedVariables false
set_option linter.unusedSimpArgs false
section
variable {P : Program} {T : Y6} {O O' X X' : Objs} {n n' n0 ba : Nat} {E E' : Env} {Q : GQ} {c x y : Code}
def Qz {Z1 Z2 : Type} (J1 : Z1 → GQ) (J2 : Z2 → GQ) : Z1 ⊕ Z2 → GQ
 | .inl z => J1 z
 | .inr z => J2 z
theorem V9 {Z : Type} {J : Z → GQ} {z : Z} {id : Nat} (h : W P ba c (J z) E O n) (k : W P ba c (J z) E O n → W P ba (.block id c) Q E O n) : W P ba (.block id c) Q E O n := k h
theorem Z7 {id : Nat} (h : W P ba c (JX id ba E' O' n0) E O n) (k : Q .normal E' O' n0) : W P ba (.block id c) Q E O n :=
 Ye (Zo0 h (by show Zd id Q (.exit id) E' O' n0; simp only [Zd, if_true]; exact k))
theorem Jm {id : Nat} (h : W P ba c (JR ba E' O' n0) E O n) (k : Q .ret E' O' n0) : W P ba (.block id c) Q E O n := Ye (Zoz h k)
theorem Zmc {i : Nat} {o : Option GObj} (h : O i = o) : O.upd i o = O := by
 funext j; unfold Objs.upd; split
 ·rename_i e; subst e; exact h.symm
 rfl
theorem Zab {i : Nat} {o : Option GObj} (hU : Und O n) (hi : i < n) : ∀ j, n ≤ j → O.upd i o j = none := fun j hj => by rw [Qj _ _ (by omega)]; exact hU.fresh j hj
theorem Zg7 (O : Objs) (i : Nat) (a b : Option GObj) : (O.upd i a).upd i b = O.upd i b := by funext j; unfold Objs.upd; split <;> rfl
theorem Zop (hT : Yd P T) {f : FuncId} {gs : List G} {fn : Func} {c : Code} (hc : ∀ args w, (callFunc f args).run P w = .ok (.enter f args) w) (hf : P.funcs[f]? = some fn) (hb : fn.body = some c)
  {r : G} {i : Nat} {q q' : GObj} (hn : gs.length ≤ fn.ntmps) (hi : i < n) (ho : O i = some q) (h : Und O n → W P n c (Fin T fn.results.toList r n (O.upd i (some q')) n) ⟨fn.ntmps, [], Zft 0 gs⟩ (Zk (O.upd i (some q)) n []) n) : GTo P f gs O n r (O.upd i (some q')) n := by
 refine Qp hT hc hf hb hn (Nat.le_refl _) fun hU => ?_
 have := h hU
 rw [Zmc ho] at this
 exact this
theorem Jn {α : Type} {f : α → List G} (h : ∀ x, (f x).all G.one = true) : ∀ xs : List α, (fl f xs).all G.one = true
 | [] => rfl
 | x :: xs => by rw [Q5, List.all_append, h x, Jn h xs]; rfl
section
variable {α : Type} {xs ys : List α} {f : α → List G} {t e : TypeId} {ie : TyI}
theorem Zon {lo hi : Int} {sz : Nat} (hf : ∀ x, (f x).length = sz) (h : Jd xs lo hi = some ys) : ((fl f xs).drop (lo.toNat * sz)).take ((hi - lo).toNat * sz) = fl f ys := by
 rw [Uw hf, Za4 hf, Zji h]
theorem Zkw {lo hi : Option KI} (ht : Zn T t = some (.slice e)) (he : T e = some ie) (hf : ∀ x, (f x).length = ie.size) (h : Jd xs (Jz lo) (Gf hi xs.length) = some ys) :
  Kx T t (.sl xs.length (fl f xs)) lo hi none = some (0 ≤ Jz lo ∧ Jz lo ≤ Gf hi xs.length ∧ Gf hi xs.length ≤ Vt none xs.length ∧ Vt none xs.length ≤ xs.length, .sl ys.length (fl f ys)) := by
 unfold Kx
 simp only [ht, he, Option.isSome_none, Bool.false_eq_true, false_and, if_false]
 rw [Zon hf h, ← Zl1 h]
end
end
theorem Zdj (T : Y6) (t : TypeId) (c : G) (cs : List G) (off : Nat) : Kg T t (c :: cs) off = match T t with
  | none => none
  | some i => if i.k.isAgg then (if off + i.size ≤ (c :: cs).length then some (.agg (((c :: cs).drop off).take i.size)) else none) else (c :: cs)[off]? := rfl
theorem Zbn (c : G) (cells cs : List G) (off : Nat) : X8 (c :: cells) cs off = if off + cs.length ≤ (c :: cells).length then some ((c :: cells).take off ++ cs ++ (c :: cells).drop (off + cs.length)) else none := rfl
section
variable {O O' : Objs} {n' : Nat}
theorem Zkl : Q7 O O' n' [] [] = True := by simp [Q7]
theorem Zcn (g g' : G) (r r' : List G) : Q7 O O' n' (g :: r) (g' :: r') = (wk O O' n' g g' ∧ Q7 O O' n' r r') := by
 simp only [Q7, List.cons.injEq, eq_iff_iff]
 exact ⟨fun ⟨_, _, ⟨rfl, rfl⟩, h⟩ => h, fun h => ⟨_, _, ⟨rfl, rfl⟩, h⟩⟩
theorem Zme (g : G) : wk O O' n' g .any = True := by unfold wk; rfl
theorem Zmj (g : G) (u : Value) : wk O O' n' g (.val u) = (g = .val u) := by unfold wk; rfl
theorem Zmd (a b : List G) : wk O O' n' (.agg a) (.agg b) = Q7 O O' n' a b := by simp [wk]
theorem Zmi (a b : List G) : wk O O' n' (.tup a) (.tup b) = Q7 O O' n' a b := by simp [wk]
theorem Zoe (f f' k k' : Nat) (a b : List G) : wk O O' n' (.fn f k a) (.fn f' k' b) = (f = f' ∧ k = k' ∧ Q7 O O' n' a b) := by
 simp only [wk, G.fn.injEq, eq_iff_iff]
 exact ⟨fun ⟨_, ⟨h1, h2, rfl⟩, h⟩ => ⟨h1, h2, h⟩, fun ⟨h1, h2, h⟩ => ⟨_, ⟨h1, h2, rfl⟩, h⟩⟩
theorem Zoi (k k' : Nat) (a b : List G) : wk O O' n' (.sl k a) (.sl k' b) = (k = k' ∧ Q7 O O' n' a b) := by simp [wk]
theorem Zg9 (k k' c : Nat) (b : List G) : wk O O' n' (.val (.slice none k c)) (.sl k' b) = (k = 0 ∧ k' = 0 ∧ b = []) := by simp [wk]
theorem Zha (i k k' : Nat) (b : List G) : wk O O' n' (.row i k) (.sl k' b) = (k = k' ∧ O' i = none ∧ ∃ o, O i = some o ∧ o.row = true ∧ k = o.n ∧ Q7 O O' n' o.cells b) := by simp [wk]
theorem Zkk (i off k k' : Nat) (b : List G) : wk O O' n' (.rs i off k) (.sl k' b) = (off = 0 ∧ k = k' ∧ O' i = none ∧ ∃ o, O i = some o ∧ o.row = false ∧ Q7 O O' n' o.cells b) := by simp [wk]
theorem Zof (k k' : Nat) (a b : List G) : wk O O' n' (.ip a k) (.ip b k') = (k = k' ∧ Q7 O O' n' a b) := by simp [wk]
theorem Zg8 (i k k' : Nat) (b : List G) : wk O O' n' (.ref i k) (.ip b k') = (k = k' ∧ O' i = none ∧ ∃ o, O i = some o ∧ o.row = false ∧ Q7 O O' n' o.cells b) := by simp [wk]
theorem Zmh (g : G) (i k : Nat) : wk O O' n' g (.row i k) = (g = .row i k ∧ i < n') := by unfold wk; rfl
theorem Zoh (g : G) (i o k : Nat) : wk O O' n' g (.rs i o k) = (g = .rs i o k ∧ i < n') := by unfold wk; rfl
theorem Zog (g : G) (i o k : Nat) : wk O O' n' g (.rp i o k) = (g = .rp i o k ∧ i < n') := by unfold wk; rfl
theorem Zmg (g : G) (i k : Nat) : wk O O' n' g (.ref i k) = (g = .ref i k ∧ i < n') := by unfold wk; rfl
theorem Zlk (n K : Nat) : (n < n + K) = (0 < K) := by simp
theorem Zng (n j K : Nat) : (n + j < n + K) = (j < K) := by simp
end
theorem Vj {O O' : Objs} {n' : Nat} (b b' : List G) : ∀ a : List G, G.pures a = true → Q7 O O' n' (a ++ b) (a ++ b') = Q7 O O' n' b b'
 | [], _ => rfl
 | x :: a, h => by
  simp only [G.pures, Bool.and_eq_true] at h
  rw [List.cons_append, List.cons_append, Zcn, Vj b b' a h.2, eq_iff_iff]
  exact ⟨fun q => q.2, fun q => ⟨Ze7 x (Kz _ x h.1), q⟩⟩
theorem Ze5 {S R : Type} {step : S → Option (S ⊕ R)} (I : S → Prop) (m : S → Nat) (post : R → Prop)
  (hstep : ∀ s, I s → (∃ s', step s = some (.inl s') ∧ I s' ∧ m s' < m s) ∨ (∃ r, step s = some (.inr r) ∧ post r)) : ∀ s, I s → ∃ r, Zj step s = some r ∧ post r := by
 have key : ∀ k s, m s ≤ k → I s → ∃ r, Zj step s = some r ∧ post r := by
  intro k
  induction k with
  | zero =>
   intro s hm hi
   rcases hstep s hi with ⟨s', h1, h2, h3⟩ | ⟨r, h1, h2⟩
   ·omega
   exact ⟨r, Y8 h1, h2⟩
  | succ k ih =>
   intro s hm hi
   rcases hstep s hi with ⟨s', h1, h2, h3⟩ | ⟨r, h1, h2⟩
   ·obtain ⟨r, h4, h5⟩ := ih s' (by omega) h2
    exact ⟨r, by rw [Zi h1]; exact h4, h5⟩
   exact ⟨r, Y8 h1, h2⟩
 exact fun s hi => key (m s) s (Nat.le_refl _) hi
theorem Zhz {S R : Type} {step : S → Option (S ⊕ R)} {r : R} (I : S → Prop) (m : S → Nat)
  (hstep : ∀ s, I s → (∃ s', step s = some (.inl s') ∧ I s' ∧ m s' < m s) ∨ step s = some (.inr r)) (s : S) (hi : I s) : Zj step s = some r := by
 obtain ⟨r', h1, h2⟩ := Ze5 I m (· = r) (fun s hi => by rcases hstep s hi with h | h; exact .inl h; exact .inr ⟨r, h, rfl⟩) s hi
 rw [h1, h2]
end Go.Proofs.Ytgijkjifiekkmaa
