/- Part H7 of the ghost memory: lemmas and contracts used by the proofs of this seat's laws; each theorem bears its own conditions. -/
import Derived.Test.YtmlhokaflhlhbaaH6
import Derived.WalkKit
import Derived.WalkSpells
import Derived.WalkLawsBesides
import Derived.Lib.Hide
import Derived.BigQuiet
import Derived.StillTailTactics
import Derived.Deep.RegionHeld3
import Derived.Deep.AppendLies
import Derived.Laws.CopyOwn
import Derived.Deep.DeepCutAuto
import Derived.Deep.QuietTactic
import Derived.Maps.AppendAt
import Derived.Great.BuildSlice
import Derived.Laws.StructEq
import Derived.IntWalk
import Derived.ProofKit
import Derived.OpenShut
import Derived.SizedLaws
import Derived.Deep.Slices
namespace Go.Proofs.Ytmlhokaflhlhbaa
open Go.RowKit
set_option linter.unusedVariables false
set_option linter.unusedSimpArgs false
section
variable {α β ρ : Type} {xs ys : List α} {i lo hi : Int} {f : α → List G} {T : Qi} {t e : TypeId} {ti : TyI} {r : ρ}
theorem bC {o : Option α} {K : α → Option ρ} (h : o.bind K = some r) : ∃ x, o = some x ∧ K x = some r := Option.bind_eq_some_iff.1 h
theorem bE {K : α → Option ρ} (ht : T t = some ti) (hf : ∀ x, (f x).length = ti.size) (h0 : 0 < ti.size) (h : (J5 xs i).bind K = some r) :
  ∃ x, J5 xs i = some x ∧ 0 ≤ i ∧ i < (xs.length : Int) ∧ Zeu T t (fl f xs) (i.toNat * ti.size) = (if ti.k.isAgg then some (.agg (f x)) else (f x)[0]?) ∧ K x = some r := by
 obtain ⟨x, hx, h⟩ := Option.bind_eq_some_iff.1 h
 exact ⟨x, hx, Zsi hx, Zvl hx, Zua ht hf h0 hx, h⟩
theorem bS {K : List α → Option ρ} {lo hi : Option KI} {a b : Int} (hlo : bLo lo = a) (hhi : bHi hi xs.length = b) (ht : Yb T t = some (.slice e)) (he : T e = some ti) (hf : ∀ x, (f x).length = ti.size) (h : (Zfr xs a b).bind K = some r) :
  ∃ ys, 0 ≤ a ∧ a ≤ b ∧ b ≤ xs.length ∧ Zg4 T t (.sl xs.length (fl f xs)) lo hi none = some (True, .sl ys.length (fl f ys)) ∧ K ys = some r := by
 subst hlo hhi
 obtain ⟨ys, hy, h⟩ := Option.bind_eq_some_iff.1 h
 have h1 := Zsu hy
 have h2 := Zst hy
 have h3 := Zss hy
 refine ⟨ys, h1, h2, h3, ?_, h⟩
 rw [Ztb ht he hf hy]
 simp only [h1, h2, h3, bMx, Int.le_refl, and_self]
theorem bA {b k : Nat} {K : List α → Option ρ} (hk : ys.length = k) (h : (Zhe b xs ys).bind K = some r) : ∃ zs, (xs.length + k) * b ≤ 140737488355328 ∧ xs.length + k ≤ 140737488355328 ∧ zs = xs ++ ys ∧ K zs = some r := by
 obtain ⟨zs, hz, h⟩ := Option.bind_eq_some_iff.1 h
 subst hk
 exact ⟨zs, Zrq hz, Zrr hz, Zoc hz, h⟩
theorem bA0 {b k : Nat} {K : List α → Option ρ} (hk : ys.length = k) (h : (Zhe b ([] : List α) ys).bind K = some r) : ∃ zs, k * b ≤ 140737488355328 ∧ k ≤ 140737488355328 ∧ zs = ys ∧ K zs = some r := by
 obtain ⟨zs, hz, h⟩ := Option.bind_eq_some_iff.1 h
 subst hk
 have h1 := Zrq hz
 have h2 := Zrr hz
 simp only [List.length_nil, Nat.zero_add] at h1 h2
 exact ⟨zs, h1, h2, Zoc hz, h⟩
theorem bG {c : Prop} [Decidable c] {K : Unit → Option ρ} (h : (Uk c).bind K = some r) : c ∧ K () = some r := by
 obtain ⟨u, hu, h⟩ := Option.bind_eq_some_iff.1 h
 exact ⟨Zub hu, h⟩
theorem bM {b : Nat} {x : α} {K : List α → Option ρ} (h : (Zib b i x).bind K = some r) : ∃ zs, 0 ≤ i ∧ (b : Int) * i ≤ 140737488355328 ∧ i ≤ 140737488355328 ∧ zs = List.replicate i.toNat x ∧ K zs = some r := by
 obtain ⟨zs, hz, h⟩ := Option.bind_eq_some_iff.1 h
 have := Zvn hz
 exact ⟨zs, this.1, this.2.1, this.2.2, Zuk hz, h⟩
end
section
variable {P : Program} {T : Qi} {O O' X X' : Objs} {n n' n0 : Nat} {E E' : Env} {Q : GQ} {c x y : Code}
theorem Zot (l : List (Nat × G)) : ∀ k : List Nat, leL l (Zd9 l k)
 | [] => trivial
 | _ :: k => ⟨rfl, Zot l k⟩
theorem Zr {ba : Nat} (keep : List Nat) (h : W P ba x (Zi (fun E O n => W P ba y Q ⟨E.n, [], Zd9 E.l keep⟩ O n) Q) E O n) : W P ba (.seq x y) Q E O n := by
 refine Zh fun hb w m a hM hE => ?_
 refine wp_mono (h hb w m a hM hE) fun e a' w' ⟨E2, O2, n2, m2, h1, h2, h3, h4⟩ => ⟨E2, O2, n2, m2, ?_, h2, h3, h4⟩
 cases e with
 | normal => exact fun hb3 w3 m3 a3 hM3 hE3 => (h1 : W P ba y Q _ O2 n2) hb3 w3 m3 a3 hM3 (hE3.le ⟨rfl, Zot _ _⟩)
 | exit id => exact h1
 | goto l => exact h1
 | ret => exact h1
 | panic ch => exact h1
 | outgrown => exact h1
theorem Zn0 {ba : Nat} (hb : ba ≤ n) : Fit2 ba E O n E O n := fun w m a hM hE => ⟨m, hM, hE, (Ext.refl w O m n).base hb⟩
theorem Zx {l l' : List (Option GObj)} {k : Nat} (hU : Und X n) (hk : l'.length = k) (hn : E'.n = E.n) (h : Zes (Z5 X n l) (Z5 X n l') (n + k) l l' ∧ Zlf (Z5 X n l) (Z5 X n l') (n + k) E.l E'.l) : Fit E (Z5 X n l) E' (Z5 X n l') (n + k) :=
 ⟨hn, Zc2 hk (OutLe.refl hU (Nat.le_add_right _ _)) h.1, h.2⟩
theorem Xn {i : Nat} {q q' : GObj} {l l' : List (Option GObj)} {k : Nat} (hU : Und X n) (hk : l'.length = k) (hn : E'.n = E.n)
  (h : Zfj q q' ∧ Ud (Z5 (X.upd i (some q)) n l) (Z5 (X.upd i (some q')) n l') (n + k) q.cells q'.cells ∧ Zes (Z5 (X.upd i (some q)) n l) (Z5 (X.upd i (some q')) n l') (n + k) l l' ∧ Zlf (Z5 (X.upd i (some q)) n l) (Z5 (X.upd i (some q')) n l') (n + k) E.l E'.l) :
  Fit E (Z5 (X.upd i (some q)) n l) E' (Z5 (X.upd i (some q')) n l') (n + k) :=
 ⟨hn, Zc2 hk (OutLe.upd hU (Nat.le_add_right _ _) h.1 h.2.1) h.2.2.1, h.2.2.2⟩
theorem Zl {ba : Nat} {r : G} {rs : List ResultVar} {l : List (Option GObj)} {e : Exit} (he : e = .normal ∨ e = .ret) (hU : Und X n) (gs : List G) (hb : ba ≤ n') (h : Zdv T (Z5 X n l) E rs = some gs ∧ wk (Z5 X n l) X n (Zhz gs) r) : Fin T rs r ba X n e E (Z5 X n l) n' :=
 ⟨he, E, _, n', gs, Zn0 hb, h.1, Zpx hU.fresh (OutLe.refl hU (Nat.le_refl _)), h.2⟩
end
end Go.Proofs.Ytmlhokaflhlhbaa
