/- Called with any arguments, the law SlotsNone returns true and leaves them as they were; no other condition. -/
import Derived.Test.YtkdanjfmobibbaaRows
import Derived.Test.YtkdanjfmobibbaaNM1
import Derived.Test.YtkdanjfmobibbaaNP1
import Derived.Test.YtkdanjfmobibbaaH8
import Derived.WalkKit
import Derived.ProofKit
import Derived.OpenShut
import Derived.ShutString
import Derived.ChangeOld
import Derived.Below
import Derived.SizedLaws
namespace Go.Proofs.Ytkdanjfmobibbaa.slotsNone
open Go.ChangeShapes Go.WideShapes Go.ChangeAt Go.RowKit
open Go.ChangeMaps (open_string shut_string)
set_option linter.unusedVariables false
set_option linter.unusedSimpArgs false
theorem op3 : Opens Try.prog 3 (eI .i64) (fun x => (Lit.int .i64 x).wf = true) := opens_int Try.underlying3

theorem op3e : Opens Try.prog 3 (eI .i64) (fun x : Int => (Lit.int .i64 x).wf = true) := (opens_int Try.underlying3)

theorem op22 : Opens Try.prog 22 (eL (eI .i64)) (fun xs : (List Int) => xs.length * 8 ≤ 140737488351232 ∧ ∀ x ∈ xs, (fun x : Int => (Lit.int .i64 x).wf = true) x) := by
  have h := opens_slice (P := Try.prog) (t := 22) (sz := 1) Try.underlying22 (by kernel_rfl) (by decide) (fun _ => rfl) op3e
  have hb : Try.prog.bytesOf 3 = 8 := by kernel_rfl
  rw [hb] at h
  exact h

theorem op33 : Opens Try.prog 33 (eI .u64) (fun x => (Lit.int .u64 x).wf = true) := opens_int Try.underlying33

theorem op33e : Opens Try.prog 33 (eI .u64) (fun x : Int => (Lit.int .u64 x).wf = true) := (opens_int Try.underlying33)

theorem op38 : Opens Try.prog 38 (eL (eI .u64)) (fun xs : (List Int) => xs.length * 8 ≤ 140737488351232 ∧ ∀ x ∈ xs, (fun x : Int => (Lit.int .u64 x).wf = true) x) := by
  have h := opens_slice (P := Try.prog) (t := 38) (sz := 1) Try.underlying38 (by kernel_rfl) (by decide) (fun _ => rfl) op33e
  have hb : Try.prog.bytesOf 33 = 8 := by kernel_rfl
  rw [hb] at h
  exact h

theorem op38e : Opens Try.prog 38 (eL (eI .u64)) (fun xs : (List Int) => xs.length * 8 ≤ 140737488351232 ∧ ∀ x ∈ xs, (fun x : Int => (Lit.int .u64 x).wf = true) x) := op38

theorem op45 : Opens Try.prog 45 (eL (eL (eI .u64))) (fun xs : (List (List Int)) => xs.length * 24 ≤ 140737488351232 ∧ ∀ x ∈ xs, (fun xs : (List Int) => xs.length * 8 ≤ 140737488351232 ∧ ∀ x ∈ xs, (fun x : Int => (Lit.int .u64 x).wf = true) x) x) := by
  have h := opens_slice (P := Try.prog) (t := 45) (sz := 1) Try.underlying45 (by kernel_rfl) (by decide) (fun _ => rfl) op38e
  have hb : Try.prog.bytesOf 38 = 24 := by kernel_rfl
  rw [hb] at h
  exact h

def wf_S_centolaw35_Deed (x : S_centolaw35_Deed) : Prop := (fun x : Int => (Lit.int .i64 x).wf = true) x.Kind ∧ (fun x : Int => (Lit.int .i64 x).wf = true) x.I ∧ (fun xs : (List Int) => xs.length * 8 ≤ 140737488351232 ∧ ∀ x ∈ xs, (fun x : Int => (Lit.int .i64 x).wf = true) x) x.At ∧ (fun xs : (List (List Int)) => xs.length * 24 ≤ 140737488351232 ∧ ∀ x ∈ xs, (fun xs : (List Int) => xs.length * 8 ≤ 140737488351232 ∧ ∀ x ∈ xs, (fun x : Int => (Lit.int .u64 x).wf = true) x) x) x.L

theorem op91 : Opens Try.prog 91 e_S_centolaw35_Deed wf_S_centolaw35_Deed := by
  have h := opens_struct (P := Try.prog) (t := 91) (g := e_S_centolaw35_Deed) (fun p => (⟨p.1, p.2.1, p.2.2.1, p.2.2.2.1⟩ : S_centolaw35_Deed)) Try.underlying91 (by kernel_rfl) (fun n => (opensFs_cons (k := 1) rfl (by kernel_rfl) ((opens_int Try.underlying3) _) (opensFs_cons (k := 1) rfl (by kernel_rfl) ((opens_int Try.underlying3) _) (opensFs_cons (k := 1) rfl (by kernel_rfl) (op22 _) (opensFs_cons (k := 1) rfl (by kernel_rfl) (op45 _) opensFs_nil))))) (fun x => rfl)
  intro n H enc W base spare held cs d ps h1 h2
  obtain ⟨x, ⟨y, rfl, hy⟩, hr⟩ := h n H enc W base spare held cs d ps h1 h2
  exact ⟨_, by unfold wf_S_centolaw35_Deed; simp only; exact ⟨hy.1, hy.2.1, hy.2.2.1, hy.2.2.2.1⟩, hr⟩

theorem opn92 : Opens Try.prog 92 e_S_centolaw35_Deed wf_S_centolaw35_Deed := by
  have h := opens_struct (P := Try.prog) (t := 92) (g := e_S_centolaw35_Deed) (fun p => (⟨p.1, p.2.1, p.2.2.1, p.2.2.2.1⟩ : S_centolaw35_Deed)) Try.underlying92 (by kernel_rfl) (fun n => (opensFs_cons (k := 1) rfl (by kernel_rfl) ((opens_int Try.underlying3) _) (opensFs_cons (k := 1) rfl (by kernel_rfl) ((opens_int Try.underlying3) _) (opensFs_cons (k := 1) rfl (by kernel_rfl) (op22 _) (opensFs_cons (k := 1) rfl (by kernel_rfl) (op45 _) opensFs_nil))))) (fun x => rfl)
  intro n H enc W base spare held cs d ps h1 h2
  obtain ⟨x, ⟨y, rfl, hy⟩, hr⟩ := h n H enc W base spare held cs d ps h1 h2
  exact ⟨_, by unfold wf_S_centolaw35_Deed; simp only; exact ⟨hy.1, hy.2.1, hy.2.2.1, hy.2.2.2.1⟩, hr⟩

theorem own : ownKnob Try.prog.godebug = none := by kernel_rfl
theorem laidOut : laidOutB Try.prog = true := by kernel_rfl
set_option maxRecDepth 100000 in
theorem lifted (os : Os) (started : os.Started) (H : Type) (enc : TypeId × Value → H) :
    ReturnsInHanded {} Try.checked os 14 .any (Rows.slotsNoneSpec.pre6 enc Try.prog Try.f14 Rows.slotsNoneRow.domain false) (Rows.slotsNoneSpec.post enc Try.prog Try.f14 false true false false) := by
  refine returnsInHanded_of_change_sized (C := Try.checked) own started (by kernel_rfl) Try.func14
    (ChangeSpec.witness6 (enc := enc) (C := Try.checked) false ⟨#[], #[.agg #[.int .i64 0, .int .i64 0, .slice none 0 0, .slice none 0 0]], []⟩ 12 (by kernel_rfl) (by kernel_rfl) (by kernel_rfl) (by kernel_rfl)) ?_
  intro W base args ds gs before hval0 hW hcnd hsz0 _
  have hval : ∀ (j : Nat) t v, Try.f14.params[j]? = some t → args[j]? = some v → Value.okWide Try.prog W .any base t v := hval0
  have hW' := hW
  obtain ⟨p, q, hA0, hV, rfl, hfz, hnd⟩ := hW
  have hA : DataW.TrodAll enc Try.prog W 0 (fun _ => true) true Try.f14.params.toList args.toList ds p := hA0
  rw [Try.params14] at hA hval
  obtain ⟨v0, vs0, d0, ds0, p0, q0, hargs, rfl, rfl, h0, r0⟩ := trodAll_cons hA
  obtain ⟨rfl, rfl, rfl⟩ := trodAll_nil r0
  obtain rfl : args = #[v0] := by cases args; simp_all
  obtain ⟨rfl, rfl⟩ := trodVars_none hV
  clear hA0 hval0
  have hsz : (DataW.weightsEach Try.prog (Try.f14.params.toList ++ Rows.slotsNoneSpec.plain.varTypes Try.prog) _).all (· ≤ reachBytes) = true := hsz0
  clear hsz0
  rw [Try.params14] at hsz
  have lt0 : ∀ x ∈ p0, x.block < W.heap.size := by obtain ⟨m, hm⟩ := h0; exact DataW.trod_lt m _ _ _ hm
  obtain ⟨x0, w0, e0⟩ := open_arg opn92 h0 (arg_sized hsz (j := 0) rfl rfl)
  have g0 := arg_agg (agg_struct Try.underlying92 (hval 0 92 v0 rfl rfl)) e0
  refine (law_of (ok_centolaw35_SlotsNone ((fun d wd => slotsNone_p d) x0 w0)).pure (vs := [v0]) ⟨_, _, rfl, g0, rfl⟩).mono fun e W' ⟨he, bel⟩ => ?_
  subst he
  exact ⟨_, rfl, _, _, _, [], _, [], hW', trodAll_mk1 (shut_bool Try.underlying4 _), (trodAll_cons_mk (Below.trod laidOut (by kernel_rfl) (of_decide_eq_true (by kernel_rfl)) h0 bel lt0) trodAll_mk0), rfl, bel.frame _, fun h => by cases h⟩

theorem proved : Rows.SlotsNoneSaid :=
  OpenClaim.holds_of_wide 14 Try.f14 rfl rfl rfl rfl rfl rfl rfl ⟨rfl, rfl, rfl, rfl, rfl⟩ rfl rfl rfl rfl rfl (by kernel_rfl) Try.func14 (by kernel_rfl)
    (of_decide_eq_true (by kernel_rfl)) (by unfold Func.isWrapper; first | (rw [if_pos (by decide +kernel)]; kernel_rfl) | (rw [if_neg (by decide +kernel)]; exact ⟨rfl, rfl⟩))
    (fun os started H enc _ => lifted os started H enc)
end Go.Proofs.Ytkdanjfmobibbaa.slotsNone
