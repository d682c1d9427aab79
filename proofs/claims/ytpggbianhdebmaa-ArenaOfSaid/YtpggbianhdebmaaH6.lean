/- Part H6 of the ghost memory: lemmas and contracts used by the proofs of this seat's laws; each theorem bears its own conditions. -/
import Derived.Test.YtpggbianhdebmaaH5
import Derived.WalkKit
import Derived.WalkSpells
import Derived.WalkLawsBesides
import Derived.Lib.Hide
import Derived.BigQuiet
import Derived.StillTailTactics
import Derived.Deep.RegionHeld3
import Derived.Deep.AppendLies
import Derived.Laws.CopyOwn
import Derived.Deep.DeepCutAuto
import Derived.Deep.QuietTactic
import Derived.Maps.AppendAt
import Derived.Great.BuildSlice
import Derived.Laws.StructEq
import Derived.ChangeKeysEq
import Derived.IntWalk
import Derived.Lib.AppendZeros
import Derived.Lib.AppendZerosOnto
import Derived.ProofKit
import Derived.OpenShut
import Derived.SizedLaws
import Derived.Deep.Slices
namespace Go.Proofs.Ytpggbianhdebmaa
open Go.RowKit
set_option linter.unusedVariables false
set_option linter.unusedSimpArgs false
section
variable {P : Program} {T : Tab} {O O' X X' : Objs} {n n' n0 ba : Nat} {E E' : Env} {Q : GQ} {c x y : Code}
def SumJ {Z1 Z2 : Type} (J1 : Z1 → GQ) (J2 : Z2 → GQ) : Z1 ⊕ Z2 → GQ
  | .inl z => J1 z
  | .inr z => J2 z
theorem W_sum {Z : Type} {J : Z → GQ} {z : Z} (h : W P ba x (J z) E O n) (k : W P ba x (J z) E O n → W P ba (.seq x y) Q E O n) : W P ba (.seq x y) Q E O n := k h
theorem W_sumB {Z : Type} {J : Z → GQ} {z : Z} {id : Nat} (h : W P ba c (J z) E O n) (k : W P ba c (J z) E O n → W P ba (.block id c) Q E O n) : W P ba (.block id c) Q E O n := k h
theorem W_blockX {id : Nat} (h : W P ba c (JX id ba E' O' n0) E O n) (k : Q .normal E' O' n0) : W P ba (.block id c) Q E O n :=
  W_block (W_atX h (by show gblock id Q (.exit id) E' O' n0; simp only [gblock, if_true]; exact k))
theorem W_blockR {id : Nat} (h : W P ba c (JR ba E' O' n0) E O n) (k : Q .ret E' O' n0) : W P ba (.block id c) Q E O n := W_block (W_atR h k)
theorem W_blockO {id id' : Nat} (h : W P ba c (JX id' ba E' O' n0) E O n) (k : gblock id Q (.exit id') E' O' n0) : W P ba (.block id c) Q E O n := W_block (W_atX h k)
theorem GCalls.argsW {f : FuncId} {gs gs' : List G} {K : G → Objs → Nat → Prop} (hw : wkl O O n gs gs') (h : GCalls P f gs' O n K) : GCalls P f gs O n K := GCalls.args h hw
theorem upd_self {i : Nat} {o : Option GObj} (h : O i = o) : O.upd i o = O := by
  funext j; unfold Objs.upd; split
  · rename_i e; subst e; exact h.symm
  · rfl
theorem upd_fresh {i : Nat} {o : Option GObj} (hU : Und O n) (hi : i < n) : ∀ j, n ≤ j → O.upd i o j = none := fun j hj => by rw [upd_ne _ _ (by omega)]; exact hU.fresh j hj
theorem upd_updU (O : Objs) (i : Nat) (a b : Option GObj) : (O.upd i a).upd i b = O.upd i b := by funext j; unfold Objs.upd; split <;> rfl
/-- a function that goes on with a row that it is lent -/
theorem fn_ofO (hT : TabOk P T) {f : FuncId} {gs : List G} {fn : Func} {c : Code} (hc : ∀ args w, (callFunc f args).run P w = .ok (.enter f args) w) (hf : P.funcs[f]? = some fn) (hb : fn.body = some c)
    {r : G} {i : Nat} {q q' : GObj} (hn : gs.length ≤ fn.ntmps) (hi : i < n) (ho : O i = some q) (h : Und O n → W P n c (Fin T fn.results.toList r n (O.upd i (some q')) n) ⟨fn.ntmps, [], genv 0 gs⟩ (Loc (O.upd i (some q)) n []) n) : GTo P f gs O n r (O.upd i (some q')) n := by
  refine fn_of hT hc hf hb hn (Nat.le_refl _) fun hU => ?_
  have := h hU
  rw [upd_self ho] at this
  exact this
theorem all_one_fl {α : Type} {f : α → List G} (h : ∀ x, (f x).all G.one = true) : ∀ xs : List α, (fl f xs).all G.one = true
  | [] => rfl
  | x :: xs => by rw [fl_cons, List.all_append, h x, all_one_fl h xs]; rfl
section
variable {α : Type} {xs ys : List α} {f : α → List G} {t e : TypeId} {ie : TyI}
theorem fl_sub {lo hi : Int} {sz : Nat} (hf : ∀ x, (f x).length = sz) (h : subI xs lo hi = some ys) : ((fl f xs).drop (lo.toNat * sz)).take ((hi - lo).toNat * sz) = fl f ys := by
  rw [fl_drop hf, fl_take hf, subI_eq h]
theorem gslice_sl {lo hi : Option KI} (ht : tkind T t = some (.slice e)) (he : T e = some ie) (hf : ∀ x, (f x).length = ie.size) (h : subI xs (bLo lo) (bHi hi xs.length) = some ys) :
    gslice T t (.sl xs.length (fl f xs)) lo hi none = some (0 ≤ bLo lo ∧ bLo lo ≤ bHi hi xs.length ∧ bHi hi xs.length ≤ bMx none xs.length ∧ bMx none xs.length ≤ xs.length, .sl ys.length (fl f ys)) := by
  unfold gslice
  simp only [ht, he, Option.isSome_none, Bool.false_eq_true, false_and, if_false]
  rw [fl_sub hf h, ← subI_len h]
theorem gslice_sl3 {lo : Option KI} {hi : KI} (ht : tkind T t = some (.slice e)) (he : T e = some ie) (hf : ∀ x, (f x).length = ie.size) (h : subI xs (bLo lo) hi.2 = some ys) :
    gslice T t (.sl xs.length (fl f xs)) lo (some hi) (some hi) = some (0 ≤ bLo lo ∧ bLo lo ≤ hi.2 ∧ hi.2 ≤ hi.2 ∧ hi.2 ≤ xs.length, .sl ys.length (fl f ys)) := by
  unfold gslice
  simp only [ht, he, Option.isSome_some, Bool.true_eq_false, and_false, if_false, bHi, bMx]
  rw [fl_sub hf h, ← subI_len h]
end
end
theorem gpart_lit (T : Tab) (t : TypeId) (c : G) (cs : List G) (off : Nat) : gpart T t (c :: cs) off = match T t with
    | none => none
    | some i => if i.k.isAgg then (if off + i.size ≤ (c :: cs).length then some (.agg (((c :: cs).drop off).take i.size)) else none) else (c :: cs)[off]? := rfl
theorem gplace_lit (c : G) (cells cs : List G) (off : Nat) : gplace (c :: cells) cs off = if off + cs.length ≤ (c :: cells).length then some ((c :: cells).take off ++ cs ++ (c :: cells).drop (off + cs.length)) else none := rfl
section
variable {O O' : Objs} {n' : Nat}
theorem wkl_nil : wkl O O' n' [] [] = True := by simp [wkl]
theorem wkl_cons (g g' : G) (r r' : List G) : wkl O O' n' (g :: r) (g' :: r') = (wk O O' n' g g' ∧ wkl O O' n' r r') := by
  simp only [wkl, List.cons.injEq, eq_iff_iff]
  exact ⟨fun ⟨_, _, ⟨rfl, rfl⟩, h⟩ => h, fun h => ⟨_, _, ⟨rfl, rfl⟩, h⟩⟩
theorem wk_any (g : G) : wk O O' n' g .any = True := by unfold wk; rfl
theorem wk_val (g : G) (u : Value) : wk O O' n' g (.val u) = (g = .val u) := by unfold wk; rfl
theorem wk_agg (a b : List G) : wk O O' n' (.agg a) (.agg b) = wkl O O' n' a b := by simp [wk]
theorem wk_tup (a b : List G) : wk O O' n' (.tup a) (.tup b) = wkl O O' n' a b := by simp [wk]
theorem wk_fn (f f' k k' : Nat) (a b : List G) : wk O O' n' (.fn f k a) (.fn f' k' b) = (f = f' ∧ k = k' ∧ wkl O O' n' a b) := by
  simp only [wk, G.fn.injEq, eq_iff_iff]
  exact ⟨fun ⟨_, ⟨h1, h2, rfl⟩, h⟩ => ⟨h1, h2, h⟩, fun ⟨h1, h2, h⟩ => ⟨_, ⟨h1, h2, rfl⟩, h⟩⟩
theorem wk_sl (k k' : Nat) (a b : List G) : wk O O' n' (.sl k a) (.sl k' b) = (k = k' ∧ wkl O O' n' a b) := by simp [wk]
theorem wk_slnil (k k' c : Nat) (b : List G) : wk O O' n' (.val (.slice none k c)) (.sl k' b) = (k = 0 ∧ k' = 0 ∧ b = []) := by simp [wk]
theorem wk_slrow (i k k' : Nat) (b : List G) : wk O O' n' (.row i k) (.sl k' b) = (k = k' ∧ O' i = none ∧ ∃ o, O i = some o ∧ o.row = true ∧ k = o.n ∧ wkl O O' n' o.cells b) := by simp [wk]
theorem wk_slrs (i off k k' : Nat) (b : List G) : wk O O' n' (.rs i off k) (.sl k' b) = (off = 0 ∧ k = k' ∧ O' i = none ∧ ∃ o, O i = some o ∧ o.row = false ∧ wkl O O' n' o.cells b) := by simp [wk]
theorem wk_ip (k k' : Nat) (a b : List G) : wk O O' n' (.ip a k) (.ip b k') = (k = k' ∧ wkl O O' n' a b) := by simp [wk]
theorem wk_ipref (i k k' : Nat) (b : List G) : wk O O' n' (.ref i k) (.ip b k') = (k = k' ∧ O' i = none ∧ ∃ o, O i = some o ∧ o.row = false ∧ wkl O O' n' o.cells b) := by simp [wk]
theorem wk_row (g : G) (i k : Nat) : wk O O' n' g (.row i k) = (g = .row i k ∧ i < n') := by unfold wk; rfl
theorem wk_rs (g : G) (i o k : Nat) : wk O O' n' g (.rs i o k) = (g = .rs i o k ∧ i < n') := by unfold wk; rfl
theorem wk_rp (g : G) (i o k : Nat) : wk O O' n' g (.rp i o k) = (g = .rp i o k ∧ i < n') := by unfold wk; rfl
theorem wk_rl (g : G) (i o k l : Nat) : wk O O' n' g (.rl i o k l) = (g = .rl i o k l ∧ i < n') := by unfold wk; rfl
theorem wk_ref (g : G) (i k : Nat) : wk O O' n' g (.ref i k) = (g = .ref i k ∧ i < n') := by unfold wk; rfl
theorem locLt0 (n K : Nat) : (n < n + K) = (0 < K) := by simp
theorem locLt (n j K : Nat) : (n + j < n + K) = (j < K) := by simp
end
theorem wkl_same {O O' : Objs} {n' : Nat} (b b' : List G) : ∀ a : List G, G.pures a = true → wkl O O' n' (a ++ b) (a ++ b') = wkl O O' n' b b'
  | [], _ => rfl
  | x :: a, h => by
    simp only [G.pures, Bool.and_eq_true] at h
    rw [List.cons_append, List.cons_append, wkl_cons, wkl_same b b' a h.2, eq_iff_iff]
    exact ⟨fun q => q.2, fun q => ⟨wk_refl x (pure_under _ x h.1), q⟩⟩
/-- rounds by a measure -/
theorem runLoop_rule {S R : Type} {step : S → Option (S ⊕ R)} (I : S → Prop) (m : S → Nat) (post : R → Prop)
    (hstep : ∀ s, I s → (∃ s', step s = some (.inl s') ∧ I s' ∧ m s' < m s) ∨ (∃ r, step s = some (.inr r) ∧ post r)) : ∀ s, I s → ∃ r, runLoop step s = some r ∧ post r := by
  have key : ∀ k s, m s ≤ k → I s → ∃ r, runLoop step s = some r ∧ post r := by
    intro k
    induction k with
    | zero =>
      intro s hm hi
      rcases hstep s hi with ⟨s', h1, h2, h3⟩ | ⟨r, h1, h2⟩
      · omega
      · exact ⟨r, runLoop_end h1, h2⟩
    | succ k ih =>
      intro s hm hi
      rcases hstep s hi with ⟨s', h1, h2, h3⟩ | ⟨r, h1, h2⟩
      · obtain ⟨r, h4, h5⟩ := ih s' (by omega) h2
        exact ⟨r, by rw [runLoop_step h1]; exact h4, h5⟩
      · exact ⟨r, runLoop_end h1, h2⟩
  exact fun s hi => key (m s) s (Nat.le_refl _) hi
theorem runLoop_eq {S R : Type} {step : S → Option (S ⊕ R)} {r : R} (I : S → Prop) (m : S → Nat)
    (hstep : ∀ s, I s → (∃ s', step s = some (.inl s') ∧ I s' ∧ m s' < m s) ∨ step s = some (.inr r)) (s : S) (hi : I s) : runLoop step s = some r := by
  obtain ⟨r', h1, h2⟩ := runLoop_rule I m (· = r) (fun s hi => by rcases hstep s hi with h | h; exact .inl h; exact .inr ⟨r, h, rfl⟩) s hi
  rw [h1, h2]

end Go.Proofs.Ytpggbianhdebmaa
