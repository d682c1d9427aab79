/- Part H7 of the ghost memory: lemmas and contracts used by the proofs of this seat's laws; each theorem bears its own conditions. -/
import Derived.Test.YtpggbianhdebmaaH6
import Derived.WalkKit
import Derived.WalkSpells
import Derived.WalkLawsBesides
import Derived.Lib.Hide
import Derived.BigQuiet
import Derived.StillTailTactics
import Derived.Deep.RegionHeld3
import Derived.Deep.AppendLies
import Derived.Laws.CopyOwn
import Derived.Deep.DeepCutAuto
import Derived.Deep.QuietTactic
import Derived.Maps.AppendAt
import Derived.Great.BuildSlice
import Derived.Laws.StructEq
import Derived.ChangeKeysEq
import Derived.IntWalk
import Derived.Lib.AppendZeros
import Derived.Lib.AppendZerosOnto
import Derived.ProofKit
import Derived.OpenShut
import Derived.SizedLaws
import Derived.Deep.Slices
namespace Go.Proofs.Ytpggbianhdebmaa
open Go.RowKit
set_option linter.unusedVariables false
set_option linter.unusedSimpArgs false
section
variable {α β ρ : Type} {xs ys : List α} {i lo hi : Int} {f : α → List G} {T : Tab} {t e : TypeId} {ti : TyI} {r : ρ}
theorem bC {o : Option α} {K : α → Option ρ} (h : o.bind K = some r) : ∃ x, o = some x ∧ K x = some r := Option.bind_eq_some_iff.1 h
theorem bE {K : α → Option ρ} (ht : T t = some ti) (hf : ∀ x, (f x).length = ti.size) (h0 : 0 < ti.size) (h : (getI xs i).bind K = some r) :
    ∃ x, getI xs i = some x ∧ 0 ≤ i ∧ i < (xs.length : Int) ∧ gpart T t (fl f xs) (i.toNat * ti.size) = (if ti.k.isAgg then some (.agg (f x)) else (f x)[0]?) ∧ K x = some r := by
  obtain ⟨x, hx, h⟩ := Option.bind_eq_some_iff.1 h
  exact ⟨x, hx, getI_lo hx, getI_hi hx, gpart_el ht hf h0 hx, h⟩
theorem bS {K : List α → Option ρ} {lo hi : Option KI} {a b : Int} (hlo : bLo lo = a) (hhi : bHi hi xs.length = b) (ht : tkind T t = some (.slice e)) (he : T e = some ti) (hf : ∀ x, (f x).length = ti.size) (h : (subI xs a b).bind K = some r) :
    ∃ ys, 0 ≤ a ∧ a ≤ b ∧ b ≤ xs.length ∧ gslice T t (.sl xs.length (fl f xs)) lo hi none = some (True, .sl ys.length (fl f ys)) ∧ K ys = some r := by
  subst hlo hhi
  obtain ⟨ys, hy, h⟩ := Option.bind_eq_some_iff.1 h
  have h1 := subI_lo hy
  have h2 := subI_le hy
  have h3 := subI_hi hy
  refine ⟨ys, h1, h2, h3, ?_, h⟩
  rw [gslice_sl ht he hf hy]
  simp only [h1, h2, h3, bMx, Int.le_refl, and_self]
theorem bS3 {K : List α → Option ρ} {lo : Option KI} {hi : KI} {a b : Int} (hlo : bLo lo = a) (hhi : hi.2 = b) (ht : tkind T t = some (.slice e)) (he : T e = some ti) (hf : ∀ x, (f x).length = ti.size) (h : (subI xs a b).bind K = some r) :
    ∃ ys, 0 ≤ a ∧ a ≤ b ∧ b ≤ xs.length ∧ gslice T t (.sl xs.length (fl f xs)) lo (some hi) (some hi) = some (True, .sl ys.length (fl f ys)) ∧ K ys = some r := by
  subst hlo hhi
  obtain ⟨ys, hy, h⟩ := Option.bind_eq_some_iff.1 h
  have h1 := subI_lo hy
  have h2 := subI_le hy
  have h3 := subI_hi hy
  refine ⟨ys, h1, h2, h3, ?_, h⟩
  rw [gslice_sl3 ht he hf hy]
  simp only [h1, h2, h3, Int.le_refl, and_self]
theorem bA {b k : Nat} {K : List α → Option ρ} (hk : ys.length = k) (h : (appI b xs ys).bind K = some r) : ∃ zs, (xs.length + k) * b ≤ 140737488355328 ∧ xs.length + k ≤ 140737488355328 ∧ zs = xs ++ ys ∧ K zs = some r := by
  obtain ⟨zs, hz, h⟩ := Option.bind_eq_some_iff.1 h
  subst hk
  exact ⟨zs, appI_1 hz, appI_2 hz, appI_eq hz, h⟩
theorem bA0 {b k : Nat} {K : List α → Option ρ} (hk : ys.length = k) (h : (appI b ([] : List α) ys).bind K = some r) : ∃ zs, k * b ≤ 140737488355328 ∧ k ≤ 140737488355328 ∧ zs = ys ∧ K zs = some r := by
  obtain ⟨zs, hz, h⟩ := Option.bind_eq_some_iff.1 h
  subst hk
  have h1 := appI_1 hz
  have h2 := appI_2 hz
  simp only [List.length_nil, Nat.zero_add] at h1 h2
  exact ⟨zs, h1, h2, appI_eq hz, h⟩
theorem bG {c : Prop} [Decidable c] {K : Unit → Option ρ} (h : (guardI c).bind K = some r) : c ∧ K () = some r := by
  obtain ⟨u, hu, h⟩ := Option.bind_eq_some_iff.1 h
  exact ⟨guardI_p hu, h⟩
theorem bM {b : Nat} {x : α} {K : List α → Option ρ} (h : (makeI b i x).bind K = some r) : ∃ zs, 0 ≤ i ∧ (b : Int) * i ≤ 140737488355328 ∧ i ≤ 140737488355328 ∧ zs = List.replicate i.toNat x ∧ K zs = some r := by
  obtain ⟨zs, hz, h⟩ := Option.bind_eq_some_iff.1 h
  have := makeI_p hz
  exact ⟨zs, this.1, this.2.1, this.2.2, makeI_eq hz, h⟩
theorem fl_replicate (k : Nat) (x : α) : fl f (List.replicate k x) = (List.replicate k (f x)).flatten := by simp [fl]
end
section
variable {P : Program} {T : Tab} {O O' X X' : Objs} {n n' n0 : Nat} {E E' : Env} {Q : GQ} {c x y : Code}
theorem keep_le (l : List (Nat × G)) : ∀ k : List Nat, leL l (keepL l k)
  | [] => trivial
  | _ :: k => ⟨rfl, keep_le l k⟩
/-- on, with some of the slots alone -/
theorem W_sq {ba : Nat} (keep : List Nat) (h : W P ba x (gthen (fun E O n => W P ba y Q ⟨E.n, [], keepL E.l keep⟩ O n) Q) E O n) : W P ba (.seq x y) Q E O n := by
  refine W_seqK fun hb w m a hM hE => ?_
  refine wp_mono (h hb w m a hM hE) fun e a' w' ⟨E2, O2, n2, m2, h1, h2, h3, h4⟩ => ⟨E2, O2, n2, m2, ?_, h2, h3, h4⟩
  cases e with
  | normal => exact fun hb3 w3 m3 a3 hM3 hE3 => (h1 : W P ba y Q _ O2 n2) hb3 w3 m3 a3 hM3 (hE3.le ⟨rfl, keep_le _ _⟩)
  | exit id => exact h1
  | goto l => exact h1
  | ret => exact h1
  | panic ch => exact h1
  | outgrown => exact h1
theorem fit2_refl {ba : Nat} (hb : ba ≤ n) : Fit2 ba E O n E O n := fun w m a hM hE => ⟨m, hM, hE, (Ext.refl w O m n).base hb⟩
theorem fit_loc {l l' : List (Option GObj)} {k : Nat} (hU : Und X n) (hk : l'.length = k) (hn : E'.n = E.n) (h : fitO (Loc X n l) (Loc X n l') (n + k) l l' ∧ fitL (Loc X n l) (Loc X n l') (n + k) E.l E'.l) : Fit E (Loc X n l) E' (Loc X n l') (n + k) :=
  ⟨hn, less_loc hk (OutLe.refl hU (Nat.le_add_right _ _)) h.1, h.2⟩
theorem fit_loco {i : Nat} {q q' : GObj} {l l' : List (Option GObj)} {k : Nat} (hU : Und X n) (hk : l'.length = k) (hn : E'.n = E.n)
    (h : sameO q q' ∧ wkl (Loc (X.upd i (some q)) n l) (Loc (X.upd i (some q')) n l') (n + k) q.cells q'.cells ∧ fitO (Loc (X.upd i (some q)) n l) (Loc (X.upd i (some q')) n l') (n + k) l l' ∧ fitL (Loc (X.upd i (some q)) n l) (Loc (X.upd i (some q')) n l') (n + k) E.l E'.l) :
    Fit E (Loc (X.upd i (some q)) n l) E' (Loc (X.upd i (some q')) n l') (n + k) :=
  ⟨hn, less_loc hk (OutLe.upd hU (Nat.le_add_right _ _) h.1 h.2.1) h.2.2.1, h.2.2.2⟩
theorem fin_loc {ba : Nat} {r : G} {rs : List ResultVar} {l : List (Option GObj)} {e : Exit} (he : e = .normal ∨ e = .ret) (hU : Und X n) (gs : List G) (hb : ba ≤ n') (h : gres T (Loc X n l) E rs = some gs ∧ wk (Loc X n l) X n (gone gs) r) : Fin T rs r ba X n e E (Loc X n l) n' :=
  ⟨he, E, _, n', gs, fit2_refl hb, h.1, less_out hU.fresh (OutLe.refl hU (Nat.le_refl _)), h.2⟩
theorem fin_loco {ba : Nat} {r : G} {rs : List ResultVar} {i : Nat} {q q' : GObj} {l : List (Option GObj)} {e : Exit} (he : e = .normal ∨ e = .ret) (hU : Und X n) (hi : i < n) (gs : List G) (hb : ba ≤ n')
    (h : gres T (Loc (X.upd i (some q)) n l) E rs = some gs ∧ sameO q q' ∧ wkl (Loc (X.upd i (some q)) n l) (X.upd i (some q')) n q.cells q'.cells ∧ wk (Loc (X.upd i (some q)) n l) (X.upd i (some q')) n (gone gs) r) : Fin T rs r ba (X.upd i (some q')) n e E (Loc (X.upd i (some q)) n l) n' :=
  ⟨he, E, _, n', gs, fit2_refl hb, h.1, less_out (upd_fresh hU hi) (OutLe.upd hU (Nat.le_refl _) h.2.1 h.2.2.1), h.2.2.2⟩
end

end Go.Proofs.Ytpggbianhdebmaa
