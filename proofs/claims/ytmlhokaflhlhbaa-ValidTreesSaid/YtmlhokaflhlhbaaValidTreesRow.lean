/- Called with any arguments, the law ValidTrees returns true and leaves them as they were; no other condition. -/
import Derived.Test.YtmlhokaflhlhbaaRows
import Derived.Test.YtmlhokaflhlhbaaVM5
import Derived.Test.YtmlhokaflhlhbaaVQ1
import Derived.Test.YtmlhokaflhlhbaaH8
import Derived.WalkKit
import Derived.ProofKit
import Derived.OpenShut
import Derived.ShutString
import Derived.ChangeOld
import Derived.Below
import Derived.SizedLaws
namespace Go.Proofs.Ytmlhokaflhlhbaa.validTrees
open Go.ChangeShapes Go.WideShapes Go.ChangeAt Go.RowKit
open Go.ChangeMaps (open_string shut_string)
set_option linter.unusedVariables false
set_option linter.unusedSimpArgs false
theorem Z03 : Zdn Try.prog 31 (eI .u64) (fun x => (Lit.int .u64 x).wf = true) := K7 Try.underlying31
theorem Zy5 : Zdn Try.prog 31 (eI .u64) (fun x : Int => (Lit.int .u64 x).wf = true) := (K7 Try.underlying31)
theorem Zzz : Zdn Try.prog 42 (eL (eI .u64)) (fun xs : (List Int) => xs.length * 8 ≤ 140737488351232 ∧ ∀ x ∈ xs, (fun x : Int => (Lit.int .u64 x).wf = true) x) := by
 have h := Zl2 (P := Try.prog) (t := 42) (sz := 1) Try.underlying42 (by kernel_rfl) (by decide) (fun _ => rfl) Zy5
 have hb : Try.prog.bytesOf 31 = 8 := by kernel_rfl
 rw [hb] at h
 exact h
theorem Zy6 : Zdn Try.prog 42 (eL (eI .u64)) (fun xs : (List Int) => xs.length * 8 ≤ 140737488351232 ∧ ∀ x ∈ xs, (fun x : Int => (Lit.int .u64 x).wf = true) x) := Zzz
theorem Zzy : Zdn Try.prog 22 (eL (eL (eI .u64))) (fun xs : (List (List Int)) => xs.length * 24 ≤ 140737488351232 ∧ ∀ x ∈ xs, (fun xs : (List Int) => xs.length * 8 ≤ 140737488351232 ∧ ∀ x ∈ xs, (fun x : Int => (Lit.int .u64 x).wf = true) x) x) := by
 have h := Zl2 (P := Try.prog) (t := 22) (sz := 1) Try.underlying22 (by kernel_rfl) (by decide) (fun _ => rfl) Zy6
 have hb : Try.prog.bytesOf 42 = 24 := by kernel_rfl
 rw [hb] at h
 exact h
theorem op3 : Zdn Try.prog 3 (eI .i64) (fun x => (Lit.int .i64 x).wf = true) := K7 Try.underlying3
def Ur (x : Zy) : Prop := (fun x : Int => (Lit.int .i64 x).wf = true) x.Depth ∧ (fun x : Int => (Lit.int .i64 x).wf = true) x.Weight ∧ (fun x : Int => (Lit.int .i64 x).wf = true) x.MaxD ∧ (fun x : Int => (Lit.int .i64 x).wf = true) x.MaxOut
theorem Z04 : Zdn Try.prog 51 X3 Ur := by
 have h := Zjq (P := Try.prog) (t := 51) (g := X3) (fun p => (⟨p.1, p.2.1, p.2.2.1, p.2.2.2.1⟩ : Zy)) Try.underlying51 (by kernel_rfl) (fun n => (Ko (k := 1) rfl (by kernel_rfl) ((K7 Try.underlying3) _) (Ko (k := 1) rfl (by kernel_rfl) ((K7 Try.underlying3) _) (Ko (k := 1) rfl (by kernel_rfl) ((K7 Try.underlying3) _) (Ko (k := 1) rfl (by kernel_rfl) ((K7 Try.underlying3) _) Zl1))))) (fun x => rfl)
 intro n H enc W base spare held cs d ps h1 h2
 obtain ⟨x, ⟨y, rfl, hy⟩, hr⟩ := h n H enc W base spare held cs d ps h1 h2
 exact ⟨_, by unfold Ur; simp only; exact ⟨hy.1, hy.2.1, hy.2.2.1, hy.2.2.2.1⟩, hr⟩
theorem Zy7 : Zdn Try.prog 52 X3 Ur := by
 have h := Zjq (P := Try.prog) (t := 52) (g := X3) (fun p => (⟨p.1, p.2.1, p.2.2.1, p.2.2.2.1⟩ : Zy)) Try.underlying52 (by kernel_rfl) (fun n => (Ko (k := 1) rfl (by kernel_rfl) ((K7 Try.underlying3) _) (Ko (k := 1) rfl (by kernel_rfl) ((K7 Try.underlying3) _) (Ko (k := 1) rfl (by kernel_rfl) ((K7 Try.underlying3) _) (Ko (k := 1) rfl (by kernel_rfl) ((K7 Try.underlying3) _) Zl1))))) (fun x => rfl)
 intro n H enc W base spare held cs d ps h1 h2
 obtain ⟨x, ⟨y, rfl, hy⟩, hr⟩ := h n H enc W base spare held cs d ps h1 h2
 exact ⟨_, by unfold Ur; simp only; exact ⟨hy.1, hy.2.1, hy.2.2.1, hy.2.2.2.1⟩, hr⟩
theorem Zzt (l : List (List Int)) (h : l.length * 24 ≤ 140737488351232 ∧ ∀ x ∈ l, x.length * 8 ≤ 140737488351232 ∧ ∀ w ∈ x, (Lit.int .u64 w).wf = true) : WS l := by
 refine ⟨by have := h.1; omega, fun x hx => by have := (h.2 x hx).1; omega, fun x hx w hw => ?_⟩
 have := (h.2 x hx).2 w hw
 simp [Lit.wf, IntKind.min, IntKind.max, IntKind.signed, IntKind.bits] at this
 omega
theorem Z02 {a : Int} (h : (Lit.int .u8 a).wf = true) : 0 ≤ a ∧ a < 256 := by
 simp [Lit.wf, IntKind.min, IntKind.max, IntKind.signed, IntKind.bits] at h
 omega
theorem Z01 {a : Int} (h : (Lit.int .u32 a).wf = true) : 0 ≤ a ∧ a < 4294967296 := by
 simp [Lit.wf, IntKind.min, IntKind.max, IntKind.signed, IntKind.bits] at h
 omega
theorem own : ownKnob Try.prog.godebug = none := by kernel_rfl
theorem Zua : laidOutB Try.prog = true := by kernel_rfl
set_option maxRecDepth 100000 in
theorem lifted (os : Os) (started : os.Started) (H : Type) (enc : TypeId × Value → H) :
  ReturnsInHanded {} Try.checked os 7 .any (Rows.validTreesSpec.pre6 enc Try.prog Try.f7 Rows.validTreesRow.domain false) (Rows.validTreesSpec.post enc Try.prog Try.f7 false true false false) := by
 refine returnsInHanded_of_change_sized (C := Try.checked) own started (by kernel_rfl) Try.func7
  (ChangeSpec.witness6 (enc := enc) (C := Try.checked) false ⟨#[], #[.slice none 0 0, .agg #[.int .i64 0, .int .i64 0, .int .i64 0, .int .i64 0]], []⟩ 12 (by kernel_rfl) (by kernel_rfl) (by kernel_rfl) (by kernel_rfl)) ?_
 intro W base args ds gs before hval0 hW hcnd hsz0 _
 have hval : ∀ (j : Nat) t v, Try.f7.params[j]? = some t → args[j]? = some v → Value.okWide Try.prog W .any base t v := hval0
 have hW' := hW
 obtain ⟨p, q, hA0, hV, rfl, hfz, hnd⟩ := hW
 have hA : DataW.TrodAll enc Try.prog W 0 (fun _ => true) true Try.f7.params.toList args.toList ds p := hA0
 rw [Try.params7] at hA hval
 obtain ⟨v0, vs0, d0, ds0, p0, q0, hargs, rfl, rfl, h0, r0⟩ := trodAll_cons hA
 obtain ⟨v1, vs1, d1, ds1, p1, q1, rfl, rfl, rfl, h1, r1⟩ := trodAll_cons r0
 obtain ⟨rfl, rfl, rfl⟩ := trodAll_nil r1
 obtain rfl : args = #[v0, v1] := by cases args; simp_all
 obtain ⟨rfl, rfl⟩ := trodVars_none hV
 clear hA0 hval0
 have hsz : (DataW.weightsEach Try.prog (Try.f7.params.toList ++ Rows.validTreesSpec.plain.varTypes Try.prog) _).all (· ≤ reachBytes) = true := hsz0
 clear hsz0
 rw [Try.params7] at hsz
 have lt0 : ∀ x ∈ p0, x.block < W.heap.size := by obtain ⟨m, hm⟩ := h0; exact DataW.trod_lt m _ _ _ hm
 obtain ⟨x0, w0, e0⟩ := Zrl Zzy h0 (Zo6 hsz (j := 0) rfl rfl)
 have g0 := Zxj (Zvd Try.underlying22 (hval 0 22 v0 rfl rfl)) e0
 have lt1 : ∀ x ∈ p1, x.block < W.heap.size := by obtain ⟨m, hm⟩ := h1; exact DataW.trod_lt m _ _ _ hm
 obtain ⟨x1, w1, e1⟩ := Zrl Zy7 h1 (Zo6 hsz (j := 1) rfl rfl)
 have g1 := Zxi (Zs3 Try.underlying52 (hval 1 52 v1 rfl rfl)) e1
 refine (Zyn (Zdd ((fun l wl x _ => Zqm (Zzt l wl) x) x0 w0 x1 w1)).pure (vs := [v0, v1]) ⟨_, _, rfl, g0, ⟨_, _, rfl, g1, rfl⟩⟩).mono fun e W' ⟨he, bel⟩ => ?_
 subst he
 exact ⟨_, rfl, _, _, _, [], _, [], hW', trodAll_mk1 (shut_bool Try.underlying4 _), (trodAll_cons_mk (Below.trod Zua (by kernel_rfl) (of_decide_eq_true (by kernel_rfl)) h0 bel lt0) (trodAll_cons_mk (Below.trod Zua (by kernel_rfl) (of_decide_eq_true (by kernel_rfl)) h1 bel lt1) trodAll_mk0)), rfl, bel.frame _, fun h => by cases h⟩
theorem proved : Rows.ValidTreesSaid :=
 OpenClaim.holds_of_wide 7 Try.f7 rfl rfl rfl rfl rfl rfl rfl ⟨rfl, rfl, rfl, rfl, rfl⟩ rfl rfl rfl rfl rfl (by kernel_rfl) Try.func7 (by kernel_rfl)
  (of_decide_eq_true (by kernel_rfl)) (by unfold Func.isWrapper; first | (rw [if_pos (by decide +kernel)]; kernel_rfl) | (rw [if_neg (by decide +kernel)]; exact ⟨rfl, rfl⟩))
  (fun os started H enc _ => lifted os started H enc)
end Go.Proofs.Ytmlhokaflhlhbaa.validTrees
