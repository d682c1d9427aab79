/- Called with any arguments, the law PathCompares returns true and leaves them as they were; no other condition. -/
import Derived.Test.YtbcgiaijjaocdaaRows
import Derived.Test.YtbcgiaijjaocdaaAM2
import Derived.Test.YtbcgiaijjaocdaaAP3
import Derived.Test.YtbcgiaijjaocdaaH8
import Derived.WalkKit
import Derived.ProofKit
import Derived.OpenShut
import Derived.ShutString
import Derived.ChangeOld
import Derived.Below
import Derived.SizedLaws
namespace Go.Proofs.Ytbcgiaijjaocdaa.pathCompares
open Go.ChangeShapes Go.WideShapes Go.ChangeAt Go.RowKit
open Go.ChangeMaps (open_string shut_string)
set_option linter.unusedVariables false
set_option linter.unusedSimpArgs false
theorem op3 : Opens Try.prog 3 (eI .i64) (fun x => (Lit.int .i64 x).wf = true) := opens_int Try.underlying3

def wf_S_api_Step (x : S_api_Step) : Prop := (fun x : Int => (Lit.int .i64 x).wf = true) x.Kind ∧ (fun x : Int => (Lit.int .i64 x).wf = true) x.At

theorem op101 : Opens Try.prog 101 e_S_api_Step wf_S_api_Step := by
  have h := opens_struct (P := Try.prog) (t := 101) (g := e_S_api_Step) (fun p => (⟨p.1, p.2.1⟩ : S_api_Step)) Try.underlying101 (by kernel_rfl) (fun n => (opensFs_cons (k := 1) rfl (by kernel_rfl) ((opens_int Try.underlying3) _) (opensFs_cons (k := 1) rfl (by kernel_rfl) ((opens_int Try.underlying3) _) opensFs_nil))) (fun x => rfl)
  intro n H enc W base spare held cs d ps h1 h2
  obtain ⟨x, ⟨y, rfl, hy⟩, hr⟩ := h n H enc W base spare held cs d ps h1 h2
  exact ⟨_, by unfold wf_S_api_Step; simp only; exact ⟨hy.1, hy.2.1⟩, hr⟩

theorem opn102 : Opens Try.prog 102 e_S_api_Step wf_S_api_Step := by
  have h := opens_struct (P := Try.prog) (t := 102) (g := e_S_api_Step) (fun p => (⟨p.1, p.2.1⟩ : S_api_Step)) Try.underlying102 (by kernel_rfl) (fun n => (opensFs_cons (k := 1) rfl (by kernel_rfl) ((opens_int Try.underlying3) _) (opensFs_cons (k := 1) rfl (by kernel_rfl) ((opens_int Try.underlying3) _) opensFs_nil))) (fun x => rfl)
  intro n H enc W base spare held cs d ps h1 h2
  obtain ⟨x, ⟨y, rfl, hy⟩, hr⟩ := h n H enc W base spare held cs d ps h1 h2
  exact ⟨_, by unfold wf_S_api_Step; simp only; exact ⟨hy.1, hy.2.1⟩, hr⟩

theorem op102e : Opens Try.prog 102 e_S_api_Step wf_S_api_Step := opn102

theorem op62 : Opens Try.prog 62 (eL e_S_api_Step) (fun xs : (List S_api_Step) => xs.length * 16 ≤ 140737488351232 ∧ ∀ x ∈ xs, wf_S_api_Step x) := by
  have h := opens_slice (P := Try.prog) (t := 62) (sz := 2) Try.underlying62 (by kernel_rfl) (by decide) (fun _ => rfl) op102e
  have hb : Try.prog.bytesOf 102 = 16 := by kernel_rfl
  rw [hb] at h
  exact h
theorem own : ownKnob Try.prog.godebug = none := by kernel_rfl
theorem laidOut : laidOutB Try.prog = true := by kernel_rfl
set_option maxRecDepth 100000 in
theorem lifted (os : Os) (started : os.Started) (H : Type) (enc : TypeId × Value → H) :
    ReturnsInHanded {} Try.checked os 14 .any (Rows.pathComparesSpec.pre6 enc Try.prog Try.f14 Rows.pathComparesRow.domain false) (Rows.pathComparesSpec.post enc Try.prog Try.f14 false true false false) := by
  refine returnsInHanded_of_change_sized (C := Try.checked) own started (by kernel_rfl) Try.func14
    (ChangeSpec.witness6 (enc := enc) (C := Try.checked) false ⟨#[], #[.slice none 0 0, .slice none 0 0], []⟩ 12 (by kernel_rfl) (by kernel_rfl) (by kernel_rfl) (by kernel_rfl)) ?_
  intro W base args ds gs before hval0 hW hcnd hsz0 _
  have hval : ∀ (j : Nat) t v, Try.f14.params[j]? = some t → args[j]? = some v → Value.okWide Try.prog W .any base t v := hval0
  have hW' := hW
  obtain ⟨p, q, hA0, hV, rfl, hfz, hnd⟩ := hW
  have hA : DataW.TrodAll enc Try.prog W 0 (fun _ => true) true Try.f14.params.toList args.toList ds p := hA0
  rw [Try.params14] at hA hval
  obtain ⟨v0, vs0, d0, ds0, p0, q0, hargs, rfl, rfl, h0, r0⟩ := trodAll_cons hA
  obtain ⟨v1, vs1, d1, ds1, p1, q1, rfl, rfl, rfl, h1, r1⟩ := trodAll_cons r0
  obtain ⟨rfl, rfl, rfl⟩ := trodAll_nil r1
  obtain rfl : args = #[v0, v1] := by cases args; simp_all
  obtain ⟨rfl, rfl⟩ := trodVars_none hV
  clear hA0 hval0
  have hsz : (DataW.weightsEach Try.prog (Try.f14.params.toList ++ Rows.pathComparesSpec.plain.varTypes Try.prog) _).all (· ≤ reachBytes) = true := hsz0
  clear hsz0
  rw [Try.params14] at hsz
  have lt0 : ∀ x ∈ p0, x.block < W.heap.size := by obtain ⟨m, hm⟩ := h0; exact DataW.trod_lt m _ _ _ hm
  obtain ⟨x0, w0, e0⟩ := open_arg op62 h0 (arg_sized hsz (j := 0) rfl rfl)
  have g0 := arg_one (one_slice Try.underlying62 (hval 0 62 v0 rfl rfl)) e0
  have lt1 : ∀ x ∈ p1, x.block < W.heap.size := by obtain ⟨m, hm⟩ := h1; exact DataW.trod_lt m _ _ _ hm
  obtain ⟨x1, w1, e1⟩ := open_arg op62 h1 (arg_sized hsz (j := 1) rfl rfl)
  have g1 := arg_one (one_slice Try.underlying62 (hval 1 62 v1 rfl rfl)) e1
  refine (law_of (ok_centolaw31_PathCompares ((fun x wx y wy => pathCompares_p (by have := wx.1; omega) (by have := wy.1; omega)) x0 w0 x1 w1)).pure (vs := [v0, v1]) ⟨_, _, rfl, g0, ⟨_, _, rfl, g1, rfl⟩⟩).mono fun e W' ⟨he, bel⟩ => ?_
  subst he
  exact ⟨_, rfl, _, _, _, [], _, [], hW', trodAll_mk1 (shut_bool Try.underlying4 _), (trodAll_cons_mk (Below.trod laidOut (by kernel_rfl) (of_decide_eq_true (by kernel_rfl)) h0 bel lt0) (trodAll_cons_mk (Below.trod laidOut (by kernel_rfl) (of_decide_eq_true (by kernel_rfl)) h1 bel lt1) trodAll_mk0)), rfl, bel.frame _, fun h => by cases h⟩

theorem proved : Rows.PathComparesSaid :=
  OpenClaim.holds_of_wide 14 Try.f14 rfl rfl rfl rfl rfl rfl rfl ⟨rfl, rfl, rfl, rfl, rfl⟩ rfl rfl rfl rfl rfl (by kernel_rfl) Try.func14 (by kernel_rfl)
    (of_decide_eq_true (by kernel_rfl)) (by unfold Func.isWrapper; first | (rw [if_pos (by decide +kernel)]; kernel_rfl) | (rw [if_neg (by decide +kernel)]; exact ⟨rfl, rfl⟩))
    (fun os started H enc _ => lifted os started H enc)
end Go.Proofs.Ytbcgiaijjaocdaa.pathCompares
