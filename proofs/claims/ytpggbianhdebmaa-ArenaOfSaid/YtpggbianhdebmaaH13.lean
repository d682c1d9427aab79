/- Part H13 of the ghost memory: lemmas and contracts used by the proofs of this seat's laws; each theorem bears its own conditions. -/
import Derived.Test.YtpggbianhdebmaaH12
import Derived.WalkKit
import Derived.WalkSpells
import Derived.WalkLawsBesides
import Derived.Lib.Hide
import Derived.BigQuiet
import Derived.StillTailTactics
import Derived.Deep.RegionHeld3
import Derived.Deep.AppendLies
import Derived.Laws.CopyOwn
import Derived.Deep.DeepCutAuto
import Derived.Deep.QuietTactic
import Derived.Maps.AppendAt
import Derived.Great.BuildSlice
import Derived.Laws.StructEq
import Derived.ChangeKeysEq
import Derived.IntWalk
import Derived.Lib.AppendZeros
import Derived.Lib.AppendZerosOnto
import Derived.ProofKit
import Derived.OpenShut
import Derived.SizedLaws
import Derived.Deep.Slices
namespace Go.Proofs.Ytpggbianhdebmaa
open Go.RowKit
set_option linter.unusedVariables false
set_option linter.unusedSimpArgs false
section
variable {P : Program} {T : Tab} {O O2 X : Objs} {n n' : Nat} {f : FuncId} {gs gs' : List G} {K : G → Objs → Nat → Prop} {E : Env}
/-- a call behind which some of one's own is not told any more -/
theorem GCalls.drop (hL : LessO O O2 n) (hw : wkl O O2 n gs gs') (h : GCalls P f gs' O2 n K) : GCalls P f gs O n K := by
  refine ⟨h.1, fun w m vs hM hr => ?_⟩
  refine (h.2 w m vs (hM.weak hL) (wkl_sound hM hL _ _ hr _ hw)).mono fun e w' ⟨v, g, O', n', m', h1, h2, h3, h4, h5⟩ => ⟨v, g, O', n', m', h1, h2, ?_, h4, h5⟩
  exact ((Ext.refl w O m n).weak hL (Nat.le_refl _)).trans h3
theorem GCalls.dropL {l l' : List (Option GObj)} {k : Nat} (hU : Und X n) (hk : l'.length = k) (hw : fitO (Loc X n l) (Loc X n l') (n + k) l l' ∧ wkl (Loc X n l) (Loc X n l') (n + k) gs gs') (h : GCalls P f gs' (Loc X n l') (n + k) K) : GCalls P f gs (Loc X n l) (n + k) K :=
  GCalls.drop (less_loc hk (OutLe.refl hU (Nat.le_add_right _ _)) hw.1) hw.2 h
theorem fin_locR {ba : Nat} {r : G} {rs : List ResultVar} {l l' : List (Option GObj)} {k : Nat} {e : Exit} (he : e = .normal ∨ e = .ret) (hU : Und X n) (hk : l'.length = k) (gs : List G) (hb : ba ≤ n')
    (h : gres T (Loc X n l) E rs = some gs ∧ fitO (Loc X n l) (Loc X n l') (n + k) l l' ∧ wk (Loc X n l) (Loc X n l') (n + k) (gone gs) r) : Fin T rs r ba (Loc X n l') (n + k) e E (Loc X n l) n' :=
  ⟨he, E, _, n', gs, fit2_refl hb, h.1, less_loc hk (OutLe.refl hU (Nat.le_add_right _ _)) h.2.1, h.2.2⟩
theorem Loc_cat (X : Objs) (n : Nat) (l l' : List (Option GObj)) {k : Nat} (hk : l.length = k) : Loc (Loc X n l) (n + k) l' = Loc X n (l ++ l') := by
  subst hk
  funext i
  unfold Loc
  by_cases h1 : i < n
  · rw [if_pos (by omega), if_pos h1, if_pos h1]
  · by_cases h2 : i < n + l.length
    · rw [if_pos h2, if_neg h1, if_neg h1, List.getElem?_append_left (by omega)]
    · rw [if_neg h2, if_neg h1, List.getElem?_append_right (by omega)]
      congr 2
      omega
theorem Loc_cat0 (X : Objs) (n : Nat) (l' : List (Option GObj)) : Loc (Loc X n []) n l' = Loc X n l' := Loc_cat X n [] l' (k := 0) rfl
theorem Loc_cat1 (X : Objs) (n : Nat) (a : Option GObj) (l' : List (Option GObj)) : Loc (Loc X n [a]) (n + 1) l' = Loc X n (a :: l') := Loc_cat X n [a] l' rfl
theorem Loc_cat2 (X : Objs) (n : Nat) (a b : Option GObj) (l' : List (Option GObj)) : Loc (Loc X n [a, b]) (n + 2) l' = Loc X n (a :: b :: l') := Loc_cat X n [a, b] l' rfl
theorem Loc_cat3 (X : Objs) (n : Nat) (a b c : Option GObj) (l' : List (Option GObj)) : Loc (Loc X n [a, b, c]) (n + 3) l' = Loc X n (a :: b :: c :: l') := Loc_cat X n [a, b, c] l' rfl
theorem Loc_cat4 (X : Objs) (n : Nat) (a b c d : Option GObj) (l' : List (Option GObj)) : Loc (Loc X n [a, b, c, d]) (n + 4) l' = Loc X n (a :: b :: c :: d :: l') := Loc_cat X n [a, b, c, d] l' rfl
theorem Loc_cat5 (X : Objs) (n : Nat) (a b c d e : Option GObj) (l' : List (Option GObj)) : Loc (Loc X n [a, b, c, d, e]) (n + 5) l' = Loc X n (a :: b :: c :: d :: e :: l') := Loc_cat X n [a, b, c, d, e] l' rfl
end
theorem noObjs_at (i : Nat) : noObjs i = none := rfl
theorem wkl_nils {α : Type} {O O' : Objs} {n' : Nat} (f : α → List G) : ∀ k : Nat, wkl O O' n' (List.replicate k [G.val (.slice none 0 0)]).flatten (fl (eL f) (List.replicate k []))
  | 0 => by simp [wkl, fl]
  | k + 1 => by
    rw [List.replicate_succ, List.replicate_succ, List.flatten_cons, fl_cons]
    simp only [eL, fl_nil, List.length_nil, List.cons_append, List.nil_append, wkl_cons]
    exact ⟨by simp [wk_slnil], wkl_nils f k⟩

end Go.Proofs.Ytpggbianhdebmaa
