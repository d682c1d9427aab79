/- Part H25 of the ghost memory: lemmas and contracts used by the proofs of this seat's laws; each theorem bears its own conditions. -/
import Derived.Test.YtmlhokaflhlhbaaH24
import Derived.WalkKit
import Derived.WalkSpells
import Derived.WalkLawsBesides
import Derived.Lib.Hide
import Derived.BigQuiet
import Derived.StillTailTactics
import Derived.Deep.RegionHeld3
import Derived.Deep.AppendLies
import Derived.Laws.CopyOwn
import Derived.Deep.DeepCutAuto
import Derived.Deep.QuietTactic
import Derived.Maps.AppendAt
import Derived.Great.BuildSlice
import Derived.Laws.StructEq
import Derived.IntWalk
import Derived.ProofKit
import Derived.OpenShut
import Derived.SizedLaws
import Derived.Deep.Slices
namespace Go.Proofs.Ytmlhokaflhlhbaa
open Go.RowKit
set_option linter.unusedVariables false
set_option linter.unusedSimpArgs false
section
variable {P : Program} {T : Qe}
inductive FT where
 | seq (L : List Nat)
 | one (i : Nat) (a : FT)
 | two (i : Nat) (a : FT) (j : Nat) (b : FT)
def Zyl (ops : List Oper) (M : List Nat) (k : Nat) : Prop := ∃ l ∈ M, l ∈ (Vw ops []).getD k []
def OkT (ops : List Oper) (ks : List Kd) (Pl S : List Nat) : FT → List Nat → Prop
 | .seq L, M => L.Perm M ∧ (Pl ++ (L ++ S)).Pairwise (fun j i => Gg ops ks j i = true)
 | .one i a, M => i ∈ M ∧ (∀ k ∈ M ++ S, k = i ∨ Zyl ops M k) ∧ (∀ p ∈ Pl, Gg ops ks p i = true) ∧ OkT ops ks Pl S a (M.erase i)
 | .two i a j b, M => (i ∈ M ∧ j ∈ M) ∧ (∀ k ∈ M ++ S, k = i ∨ k = j ∨ Zyl ops M k) ∧ (∀ p ∈ Pl, Gg ops ks p i = true ∧ Gg ops ks p j = true) ∧ OkT ops ks Pl S a (M.erase i) ∧ OkT ops ks Pl S b (M.erase j)
theorem OkT.sub {ops : List Oper} {ks : List Kd} {Pl Pl' S : List Nat} (hs : Pl'.Sublist Pl) : ∀ (t : FT) (M : List Nat), OkT ops ks Pl S t M → OkT ops ks Pl' S t M
 | .seq L, M, h => ⟨h.1, h.2.sublist (hs.append (List.Sublist.refl _))⟩
 | .one i a, M, h => ⟨h.1, h.2.1, fun p hp => h.2.2.1 p (hs.subset hp), OkT.sub hs a _ h.2.2.2⟩
 | .two i a j b, M, h => ⟨h.1, h.2.1, fun p hp => h.2.2.1 p (hs.subset hp), OkT.sub hs a _ h.2.2.2.1, OkT.sub hs b _ h.2.2.2.2⟩
def prT (P : Program) (T : Qe) (ops : List Oper) (ks : List Kd) (n0 : Nat → Prop) (S : List Nat) (K : GK) : FT → GK
 | .seq L => fun E O n => Yt P T ops n0 ((L ++ S).map (Uo ks)) [] (Qp ops (L ++ S)) E O n K
 | .one i a => fun E O n => Yt P T ops n0 [Uo ks i] [] (Qp ops [i]) E O n (prT P T ops ks n0 S K a)
 | .two i a j b => fun E O n => Yt P T ops n0 [Uo ks i] [] (Qp ops [i]) E O n (prT P T ops ks n0 S K a) ∧ Yt P T ops n0 [Uo ks j] [] (Qp ops [j]) E O n (prT P T ops ks n0 S K b)
end
end Go.Proofs.Ytmlhokaflhlhbaa
