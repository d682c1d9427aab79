/- Part H13 of the ghost memory: lemmas and contracts used by the proofs of this seat's laws; each theorem bears its own conditions. -/
import Derived.Test.YtgpaglmhkklneaaH12
import Derived.WalkKit
import Derived.WalkSpells
import Derived.WalkLawsBesides
import Derived.Lib.Hide
import Derived.BigQuiet
import Derived.StillTailTactics
import Derived.Deep.RegionHeld3
import Derived.Deep.AppendLies
import Derived.Laws.CopyOwn
import Derived.Deep.DeepCutAuto
import Derived.Deep.QuietTactic
import Derived.Maps.AppendAt
import Derived.Great.BuildSlice
import Derived.Laws.StructEq
import Derived.ChangeKeysEq
import Derived.IntWalk
import Derived.Lib.AppendZeros
import Derived.Lib.AppendZerosOnto
import Derived.ProofKit
import Derived.OpenShut
import Derived.SizedLaws
import Derived.Deep.Slices
namespace Go.Proofs.Ytgpaglmhkklneaa
open Go.RowKit
set_option linter.unusedVariables false
set_option linter.unusedSimpArgs false
section
variable {P : Program} {T : Vt} {O O2 X : Objs} {n n' : Nat} {f : FuncId} {gs gs' : List G} {K : G → Objs → Nat → Prop} {E : Env}
theorem GCalls.drop (hL : LessO O O2 n) (hw : wkl O O2 n gs gs') (h : GCalls P f gs' O2 n K) : GCalls P f gs O n K := by
 refine ⟨h.1, fun w m vs hM hr => ?_⟩
 refine (h.2 w m vs (hM.weak hL) (U4 hM hL _ _ hr _ hw)).mono fun e w' ⟨v, g, O', n', m', h1, h2, h3, h4, h5⟩ => ⟨v, g, O', n', m', h1, h2, ?_, h4, h5⟩
 exact ((Ext.refl w O m n).weak hL (Nat.le_refl _)).trans h3
theorem GCalls.dropL {l l' : List (Option GObj)} {k : Nat} (hU : Und X n) (hk : l'.length = k) (hw : Zp5 (Zv X n l) (Zv X n l') (n + k) l l' ∧ wkl (Zv X n l) (Zv X n l') (n + k) gs gs') (h : GCalls P f gs' (Zv X n l') (n + k) K) : GCalls P f gs (Zv X n l) (n + k) K :=
 GCalls.drop (Zlf hk (OutLe.refl hU (Nat.le_add_right _ _)) hw.1) hw.2 h
theorem Zyi {ba : Nat} {r : G} {rs : List ResultVar} {l l' : List (Option GObj)} {k : Nat} {e : Exit} (he : e = .normal ∨ e = .ret) (hU : Und X n) (hk : l'.length = k) (gs : List G) (hb : ba ≤ n')
  (h : Znp T (Zv X n l) E rs = some gs ∧ Zp5 (Zv X n l) (Zv X n l') (n + k) l l' ∧ wk (Zv X n l) (Zv X n l') (n + k) (gone gs) r) : Fin T rs r ba (Zv X n l') (n + k) e E (Zv X n l) n' :=
 ⟨he, E, _, n', gs, Z0p hb, h.1, Zlf hk (OutLe.refl hU (Nat.le_add_right _ _)) h.2.1, h.2.2⟩
theorem K8 (X : Objs) (n : Nat) (l l' : List (Option GObj)) {k : Nat} (hk : l.length = k) : Zv (Zv X n l) (n + k) l' = Zv X n (l ++ l') := by
 subst hk
 funext i
 unfold Zv
 by_cases h1 : i < n
 ·rw [if_pos (by omega), if_pos h1, if_pos h1]
 by_cases h2 : i < n + l.length
 ·rw [if_pos h2, if_neg h1, if_neg h1, List.getElem?_append_left (by omega)]
 rw [if_neg h2, if_neg h1, List.getElem?_append_right (by omega)]
 congr 2
 omega
theorem Zq7 (X : Objs) (n : Nat) (l' : List (Option GObj)) : Zv (Zv X n []) n l' = Zv X n l' := K8 X n [] l' (k := 0) rfl
theorem Zq8 (X : Objs) (n : Nat) (a : Option GObj) (l' : List (Option GObj)) : Zv (Zv X n [a]) (n + 1) l' = Zv X n (a :: l') := K8 X n [a] l' rfl
theorem Zq9 (X : Objs) (n : Nat) (a b : Option GObj) (l' : List (Option GObj)) : Zv (Zv X n [a, b]) (n + 2) l' = Zv X n (a :: b :: l') := K8 X n [a, b] l' rfl
theorem Zra (X : Objs) (n : Nat) (a b c : Option GObj) (l' : List (Option GObj)) : Zv (Zv X n [a, b, c]) (n + 3) l' = Zv X n (a :: b :: c :: l') := K8 X n [a, b, c] l' rfl
theorem Zrb (X : Objs) (n : Nat) (a b c d : Option GObj) (l' : List (Option GObj)) : Zv (Zv X n [a, b, c, d]) (n + 4) l' = Zv X n (a :: b :: c :: d :: l') := K8 X n [a, b, c, d] l' rfl
theorem Zrc (X : Objs) (n : Nat) (a b c d e : Option GObj) (l' : List (Option GObj)) : Zv (Zv X n [a, b, c, d, e]) (n + 5) l' = Zv X n (a :: b :: c :: d :: e :: l') := K8 X n [a, b, c, d, e] l' rfl
end
theorem Zpf (i : Nat) : Zcf i = none := rfl
end Go.Proofs.Ytgpaglmhkklneaa
