/- Called with any arguments, the law FarPads returns true and leaves them as they were; no other condition. -/
import Derived.Test.YtgijkjifiekkmaaRows
import Derived.Test.YtgijkjifiekkmaaPM2
import Derived.Test.YtgijkjifiekkmaaPP1
import Derived.Test.YtgijkjifiekkmaaH8
import Derived.WalkKit
import Derived.ProofKit
import Derived.OpenShut
import Derived.ShutString
import Derived.ChangeOld
import Derived.Below
import Derived.SizedLaws
namespace Go.Proofs.Ytgijkjifiekkmaa.farPads
open Go.ChangeShapes Go.WideShapes Go.ChangeAt Go.RowKit
open Go.ChangeMaps (open_string shut_string)
set_option linter.unusedVariables false
set_option linter.unusedSimpArgs false
theorem op3 : Opens Try.prog 3 (eI .i64) (fun x => (Lit.int .i64 x).wf = true) := opens_int Try.underlying3

theorem op4 : Opens Try.prog 4 eB (fun _ => True) := opens_bool Try.underlying4

def wf_S_ptr_Ptr (x : S_ptr_Ptr) : Prop := (fun x : Int => (Lit.int .i64 x).wf = true) x.Kind ∧ (fun x : Int => (Lit.int .i64 x).wf = true) x.Off ∧ (fun x : Int => (Lit.int .i64 x).wf = true) x.Data ∧ (fun x : Int => (Lit.int .i64 x).wf = true) x.Ptrs ∧ (fun x : Int => (Lit.int .i64 x).wf = true) x.Code ∧ (fun x : Int => (Lit.int .i64 x).wf = true) x.Count ∧ (fun x : Int => (Lit.int .i64 x).wf = true) x.Segment ∧ (fun _ : Bool => True) x.Double

theorem op38 : Opens Try.prog 38 e_S_ptr_Ptr wf_S_ptr_Ptr := by
  have h := opens_struct (P := Try.prog) (t := 38) (g := e_S_ptr_Ptr) (fun p => (⟨p.1, p.2.1, p.2.2.1, p.2.2.2.1, p.2.2.2.2.1, p.2.2.2.2.2.1, p.2.2.2.2.2.2.1, p.2.2.2.2.2.2.2.1⟩ : S_ptr_Ptr)) Try.underlying38 (by kernel_rfl) (fun n => (opensFs_cons (k := 1) rfl (by kernel_rfl) ((opens_int Try.underlying3) _) (opensFs_cons (k := 1) rfl (by kernel_rfl) ((opens_int Try.underlying3) _) (opensFs_cons (k := 1) rfl (by kernel_rfl) ((opens_int Try.underlying3) _) (opensFs_cons (k := 1) rfl (by kernel_rfl) ((opens_int Try.underlying3) _) (opensFs_cons (k := 1) rfl (by kernel_rfl) ((opens_int Try.underlying3) _) (opensFs_cons (k := 1) rfl (by kernel_rfl) ((opens_int Try.underlying3) _) (opensFs_cons (k := 1) rfl (by kernel_rfl) ((opens_int Try.underlying3) _) (opensFs_cons (k := 1) rfl (by kernel_rfl) ((opens_bool Try.underlying4) _) opensFs_nil))))))))) (fun x => rfl)
  intro n H enc W base spare held cs d ps h1 h2
  obtain ⟨x, ⟨y, rfl, hy⟩, hr⟩ := h n H enc W base spare held cs d ps h1 h2
  exact ⟨_, by unfold wf_S_ptr_Ptr; simp only; exact ⟨hy.1, hy.2.1, hy.2.2.1, hy.2.2.2.1, hy.2.2.2.2.1, hy.2.2.2.2.2.1, hy.2.2.2.2.2.2.1, hy.2.2.2.2.2.2.2.1⟩, hr⟩

theorem opn42 : Opens Try.prog 42 e_S_ptr_Ptr wf_S_ptr_Ptr := by
  have h := opens_struct (P := Try.prog) (t := 42) (g := e_S_ptr_Ptr) (fun p => (⟨p.1, p.2.1, p.2.2.1, p.2.2.2.1, p.2.2.2.2.1, p.2.2.2.2.2.1, p.2.2.2.2.2.2.1, p.2.2.2.2.2.2.2.1⟩ : S_ptr_Ptr)) Try.underlying42 (by kernel_rfl) (fun n => (opensFs_cons (k := 1) rfl (by kernel_rfl) ((opens_int Try.underlying3) _) (opensFs_cons (k := 1) rfl (by kernel_rfl) ((opens_int Try.underlying3) _) (opensFs_cons (k := 1) rfl (by kernel_rfl) ((opens_int Try.underlying3) _) (opensFs_cons (k := 1) rfl (by kernel_rfl) ((opens_int Try.underlying3) _) (opensFs_cons (k := 1) rfl (by kernel_rfl) ((opens_int Try.underlying3) _) (opensFs_cons (k := 1) rfl (by kernel_rfl) ((opens_int Try.underlying3) _) (opensFs_cons (k := 1) rfl (by kernel_rfl) ((opens_int Try.underlying3) _) (opensFs_cons (k := 1) rfl (by kernel_rfl) ((opens_bool Try.underlying4) _) opensFs_nil))))))))) (fun x => rfl)
  intro n H enc W base spare held cs d ps h1 h2
  obtain ⟨x, ⟨y, rfl, hy⟩, hr⟩ := h n H enc W base spare held cs d ps h1 h2
  exact ⟨_, by unfold wf_S_ptr_Ptr; simp only; exact ⟨hy.1, hy.2.1, hy.2.2.1, hy.2.2.2.1, hy.2.2.2.2.1, hy.2.2.2.2.2.1, hy.2.2.2.2.2.2.1, hy.2.2.2.2.2.2.2.1⟩, hr⟩
theorem own : ownKnob Try.prog.godebug = none := by kernel_rfl
theorem laidOut : laidOutB Try.prog = true := by kernel_rfl
set_option maxRecDepth 100000 in
theorem lifted (os : Os) (started : os.Started) (H : Type) (enc : TypeId × Value → H) :
    ReturnsInHanded {} Try.checked os 14 .any (Rows.farPadsSpec.pre6 enc Try.prog Try.f14 Rows.farPadsRow.domain false) (Rows.farPadsSpec.post enc Try.prog Try.f14 false true false false) := by
  refine returnsInHanded_of_change_sized (C := Try.checked) own started (by kernel_rfl) Try.func14
    (ChangeSpec.witness6 (enc := enc) (C := Try.checked) false ⟨#[], #[.agg #[.int .i64 0, .int .i64 0, .int .i64 0, .int .i64 0, .int .i64 0, .int .i64 0, .int .i64 0, .bool false], .int .i64 0], []⟩ 12 (by kernel_rfl) (by kernel_rfl) (by kernel_rfl) (by kernel_rfl)) ?_
  intro W base args ds gs before hval0 hW hcnd hsz0 _
  have hval : ∀ (j : Nat) t v, Try.f14.params[j]? = some t → args[j]? = some v → Value.okWide Try.prog W .any base t v := hval0
  have hW' := hW
  obtain ⟨p, q, hA0, hV, rfl, hfz, hnd⟩ := hW
  have hA : DataW.TrodAll enc Try.prog W 0 (fun _ => true) true Try.f14.params.toList args.toList ds p := hA0
  rw [Try.params14] at hA hval
  obtain ⟨v0, vs0, d0, ds0, p0, q0, hargs, rfl, rfl, h0, r0⟩ := trodAll_cons hA
  obtain ⟨v1, vs1, d1, ds1, p1, q1, rfl, rfl, rfl, h1, r1⟩ := trodAll_cons r0
  obtain ⟨rfl, rfl, rfl⟩ := trodAll_nil r1
  obtain rfl : args = #[v0, v1] := by cases args; simp_all
  obtain ⟨rfl, rfl⟩ := trodVars_none hV
  clear hA0 hval0
  have hsz : (DataW.weightsEach Try.prog (Try.f14.params.toList ++ Rows.farPadsSpec.plain.varTypes Try.prog) _).all (· ≤ reachBytes) = true := hsz0
  clear hsz0
  rw [Try.params14] at hsz
  have lt0 : ∀ x ∈ p0, x.block < W.heap.size := by obtain ⟨m, hm⟩ := h0; exact DataW.trod_lt m _ _ _ hm
  obtain ⟨x0, w0, e0⟩ := open_arg opn42 h0 (arg_sized hsz (j := 0) rfl rfl)
  have g0 := arg_agg (agg_struct Try.underlying42 (hval 0 42 v0 rfl rfl)) e0
  have lt1 : ∀ x ∈ p1, x.block < W.heap.size := by obtain ⟨m, hm⟩ := h1; exact DataW.trod_lt m _ _ _ hm
  obtain ⟨x1, w1, e1⟩ := open_arg (opens_int Try.underlying3) h1 (arg_sized hsz (j := 1) rfl rfl)
  have g1 := arg_one (one_int Try.underlying3 (hval 1 3 v1 rfl rfl)) e1
  refine (law_of (ok_centolaw06_FarPads ((fun p _ x _ => farPads_p p x) x0 w0 x1 w1)).pure (vs := [v0, v1]) ⟨_, _, rfl, g0, ⟨_, _, rfl, g1, rfl⟩⟩).mono fun e W' ⟨he, bel⟩ => ?_
  subst he
  exact ⟨_, rfl, _, _, _, [], _, [], hW', trodAll_mk1 (shut_bool Try.underlying4 _), (trodAll_cons_mk (Below.trod laidOut (by kernel_rfl) (of_decide_eq_true (by kernel_rfl)) h0 bel lt0) (trodAll_cons_mk (Below.trod laidOut (by kernel_rfl) (of_decide_eq_true (by kernel_rfl)) h1 bel lt1) trodAll_mk0)), rfl, bel.frame _, fun h => by cases h⟩

theorem proved : Rows.FarPadsSaid :=
  OpenClaim.holds_of_wide 14 Try.f14 rfl rfl rfl rfl rfl rfl rfl ⟨rfl, rfl, rfl, rfl, rfl⟩ rfl rfl rfl rfl rfl (by kernel_rfl) Try.func14 (by kernel_rfl)
    (of_decide_eq_true (by kernel_rfl)) (by unfold Func.isWrapper; first | (rw [if_pos (by decide +kernel)]; kernel_rfl) | (rw [if_neg (by decide +kernel)]; exact ⟨rfl, rfl⟩))
    (fun os started H enc _ => lifted os started H enc)
end Go.Proofs.Ytgijkjifiekkmaa.farPads
