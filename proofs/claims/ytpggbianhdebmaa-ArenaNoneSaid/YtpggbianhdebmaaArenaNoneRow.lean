/- Called with any arguments, the law ArenaNone returns true and leaves them as they were; no other condition. -/
import Derived.Test.YtpggbianhdebmaaRows
import Derived.Test.YtpggbianhdebmaaNM1
import Derived.Test.YtpggbianhdebmaaH8
import Derived.WalkKit
import Derived.ProofKit
import Derived.OpenShut
import Derived.ShutString
import Derived.ChangeOld
import Derived.Below
import Derived.SizedLaws
namespace Go.Proofs.Ytpggbianhdebmaa.arenaNone
open Go.ChangeShapes Go.WideShapes Go.ChangeAt Go.RowKit
open Go.ChangeMaps (open_string shut_string)
set_option linter.unusedVariables false
set_option linter.unusedSimpArgs false
theorem op3 : Opens Try.prog 3 (eI .i64) (fun x => (Lit.int .i64 x).wf = true) := opens_int Try.underlying3

theorem op27 : Opens Try.prog 27 (eI .u64) (fun x => (Lit.int .u64 x).wf = true) := opens_int Try.underlying27

def wf_S_centolaw05_Deed (x : S_centolaw05_Deed) : Prop := (fun x : Int => (Lit.int .i64 x).wf = true) x.Kind ∧ (fun x : Int => (Lit.int .i64 x).wf = true) x.S ∧ (fun x : Int => (Lit.int .i64 x).wf = true) x.At ∧ (fun x : Int => (Lit.int .i64 x).wf = true) x.N ∧ (fun x : Int => (Lit.int .u64 x).wf = true) x.W

theorem op28 : Opens Try.prog 28 e_S_centolaw05_Deed wf_S_centolaw05_Deed := by
  have h := opens_struct (P := Try.prog) (t := 28) (g := e_S_centolaw05_Deed) (fun p => (⟨p.1, p.2.1, p.2.2.1, p.2.2.2.1, p.2.2.2.2.1⟩ : S_centolaw05_Deed)) Try.underlying28 (by kernel_rfl) (fun n => (opensFs_cons (k := 1) rfl (by kernel_rfl) ((opens_int Try.underlying3) _) (opensFs_cons (k := 1) rfl (by kernel_rfl) ((opens_int Try.underlying3) _) (opensFs_cons (k := 1) rfl (by kernel_rfl) ((opens_int Try.underlying3) _) (opensFs_cons (k := 1) rfl (by kernel_rfl) ((opens_int Try.underlying3) _) (opensFs_cons (k := 1) rfl (by kernel_rfl) ((opens_int Try.underlying27) _) opensFs_nil)))))) (fun x => rfl)
  intro n H enc W base spare held cs d ps h1 h2
  obtain ⟨x, ⟨y, rfl, hy⟩, hr⟩ := h n H enc W base spare held cs d ps h1 h2
  exact ⟨_, by unfold wf_S_centolaw05_Deed; simp only; exact ⟨hy.1, hy.2.1, hy.2.2.1, hy.2.2.2.1, hy.2.2.2.2.1⟩, hr⟩

theorem opn29 : Opens Try.prog 29 e_S_centolaw05_Deed wf_S_centolaw05_Deed := by
  have h := opens_struct (P := Try.prog) (t := 29) (g := e_S_centolaw05_Deed) (fun p => (⟨p.1, p.2.1, p.2.2.1, p.2.2.2.1, p.2.2.2.2.1⟩ : S_centolaw05_Deed)) Try.underlying29 (by kernel_rfl) (fun n => (opensFs_cons (k := 1) rfl (by kernel_rfl) ((opens_int Try.underlying3) _) (opensFs_cons (k := 1) rfl (by kernel_rfl) ((opens_int Try.underlying3) _) (opensFs_cons (k := 1) rfl (by kernel_rfl) ((opens_int Try.underlying3) _) (opensFs_cons (k := 1) rfl (by kernel_rfl) ((opens_int Try.underlying3) _) (opensFs_cons (k := 1) rfl (by kernel_rfl) ((opens_int Try.underlying27) _) opensFs_nil)))))) (fun x => rfl)
  intro n H enc W base spare held cs d ps h1 h2
  obtain ⟨x, ⟨y, rfl, hy⟩, hr⟩ := h n H enc W base spare held cs d ps h1 h2
  exact ⟨_, by unfold wf_S_centolaw05_Deed; simp only; exact ⟨hy.1, hy.2.1, hy.2.2.1, hy.2.2.2.1, hy.2.2.2.2.1⟩, hr⟩

theorem own : ownKnob Try.prog.godebug = none := by kernel_rfl
theorem laidOut : laidOutB Try.prog = true := by kernel_rfl
set_option maxRecDepth 100000 in
theorem lifted (os : Os) (started : os.Started) (H : Type) (enc : TypeId × Value → H) :
    ReturnsInHanded {} Try.checked os 6 .any (Rows.arenaNoneSpec.pre6 enc Try.prog Try.f6 Rows.arenaNoneRow.domain false) (Rows.arenaNoneSpec.post enc Try.prog Try.f6 false true false false) := by
  refine returnsInHanded_of_change_sized (C := Try.checked) own started (by kernel_rfl) Try.func6
    (ChangeSpec.witness6 (enc := enc) (C := Try.checked) false ⟨#[], #[.agg #[.int .i64 0, .int .i64 0, .int .i64 0, .int .i64 0, .int .u64 0]], []⟩ 12 (by kernel_rfl) (by kernel_rfl) (by kernel_rfl) (by kernel_rfl)) ?_
  intro W base args ds gs before hval0 hW hcnd hsz0 _
  have hval : ∀ (j : Nat) t v, Try.f6.params[j]? = some t → args[j]? = some v → Value.okWide Try.prog W .any base t v := hval0
  have hW' := hW
  obtain ⟨p, q, hA0, hV, rfl, hfz, hnd⟩ := hW
  have hA : DataW.TrodAll enc Try.prog W 0 (fun _ => true) true Try.f6.params.toList args.toList ds p := hA0
  rw [Try.params6] at hA hval
  obtain ⟨v0, vs0, d0, ds0, p0, q0, hargs, rfl, rfl, h0, r0⟩ := trodAll_cons hA
  obtain ⟨rfl, rfl, rfl⟩ := trodAll_nil r0
  obtain rfl : args = #[v0] := by cases args; simp_all
  obtain ⟨rfl, rfl⟩ := trodVars_none hV
  clear hA0 hval0
  have hsz : (DataW.weightsEach Try.prog (Try.f6.params.toList ++ Rows.arenaNoneSpec.plain.varTypes Try.prog) _).all (· ≤ reachBytes) = true := hsz0
  clear hsz0
  rw [Try.params6] at hsz
  have lt0 : ∀ x ∈ p0, x.block < W.heap.size := by obtain ⟨m, hm⟩ := h0; exact DataW.trod_lt m _ _ _ hm
  obtain ⟨x0, w0, e0⟩ := open_arg opn29 h0 (arg_sized hsz (j := 0) rfl rfl)
  have g0 := arg_agg (agg_struct Try.underlying29 (hval 0 29 v0 rfl rfl)) e0
  refine (law_of (ok_centolaw05_ArenaNone ((fun x wx => rfl) x0 w0)).pure (vs := [v0]) ⟨_, _, rfl, g0, rfl⟩).mono fun e W' ⟨he, bel⟩ => ?_
  subst he
  exact ⟨_, rfl, _, _, _, [], _, [], hW', trodAll_mk1 (shut_bool Try.underlying4 _), (trodAll_cons_mk (Below.trod laidOut (by kernel_rfl) (of_decide_eq_true (by kernel_rfl)) h0 bel lt0) trodAll_mk0), rfl, bel.frame _, fun h => by cases h⟩

theorem proved : Rows.ArenaNoneSaid :=
  OpenClaim.holds_of_wide 6 Try.f6 rfl rfl rfl rfl rfl rfl rfl ⟨rfl, rfl, rfl, rfl, rfl⟩ rfl rfl rfl rfl rfl (by kernel_rfl) Try.func6 (by kernel_rfl)
    (of_decide_eq_true (by kernel_rfl)) (by unfold Func.isWrapper; first | (rw [if_pos (by decide +kernel)]; kernel_rfl) | (rw [if_neg (by decide +kernel)]; exact ⟨rfl, rfl⟩))
    (fun os started H enc _ => lifted os started H enc)
end Go.Proofs.Ytpggbianhdebmaa.arenaNone
