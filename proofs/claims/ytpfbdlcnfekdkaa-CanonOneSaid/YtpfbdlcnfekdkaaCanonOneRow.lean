/- Called with any arguments, the law CanonOne returns true and leaves them as they were; no other condition. -/
import Derived.Test.YtpfbdlcnfekdkaaRows
import Derived.Test.YtpfbdlcnfekdkaaVM4
import Derived.Test.YtpfbdlcnfekdkaaVP3
import Derived.Test.YtpfbdlcnfekdkaaH8
import Derived.WalkKit
import Derived.ProofKit
import Derived.OpenShut
import Derived.ShutString
import Derived.ChangeOld
import Derived.Below
import Derived.SizedLaws
namespace Go.Proofs.Ytpfbdlcnfekdkaa.canonOne
open Go.ChangeShapes Go.WideShapes Go.ChangeAt Go.RowKit
open Go.ChangeMaps (open_string shut_string)
set_option linter.unusedVariables false
set_option linter.unusedSimpArgs false
theorem op3 : Opens Try.prog 3 (eI .i64) (fun x => (Lit.int .i64 x).wf = true) := opens_int Try.underlying3

theorem op63 : Opens Try.prog 63 (eI .u64) (fun x => (Lit.int .u64 x).wf = true) := opens_int Try.underlying63

theorem op63e : Opens Try.prog 63 (eI .u64) (fun x : Int => (Lit.int .u64 x).wf = true) := (opens_int Try.underlying63)

theorem op26 : Opens Try.prog 26 (eL (eI .u64)) (fun xs : (List Int) => xs.length * 8 ≤ 140737488351232 ∧ ∀ x ∈ xs, (fun x : Int => (Lit.int .u64 x).wf = true) x) := by
  have h := opens_slice (P := Try.prog) (t := 26) (sz := 1) Try.underlying26 (by kernel_rfl) (by decide) (fun _ => rfl) op63e
  have hb : Try.prog.bytesOf 63 = 8 := by kernel_rfl
  rw [hb] at h
  exact h

inductive wf_S_api_Tree : S_api_Tree → Prop
  | mk (x : S_api_Tree) (h0 : (fun x : Int => (Lit.int .i64 x).wf = true) x.Kind) (h1 : (fun xs : (List Int) => xs.length * 8 ≤ 140737488351232 ∧ ∀ x ∈ xs, (fun x : Int => (Lit.int .u64 x).wf = true) x) x.Words) (h2a : x.Kids.length * 56 ≤ 140737488351232) (h2b : ∀ y ∈ x.Kids, wf_S_api_Tree y) : wf_S_api_Tree x

theorem opsl27 (n : Nat) (he : ∀ m, m < n → OpensF Try.prog 29 e_S_api_Tree wf_S_api_Tree m) : OpensF Try.prog 27 (eL e_S_api_Tree) (fun xs : (List S_api_Tree) => xs.length * 56 ≤ 140737488351232 ∧ ∀ x ∈ xs, wf_S_api_Tree x) n := by
  have h := opensF_sliceG (P := Try.prog) (t := 27) (sz := 3) n Try.underlying27 (by kernel_rfl) (by decide) (fun _ => rfl) he
  have hb : Try.prog.bytesOf 29 = 56 := by kernel_rfl
  rw [hb] at h
  exact h

theorem opG28 (n : Nat) : (OpensF Try.prog 29 e_S_api_Tree wf_S_api_Tree n) := by
  induction n using Nat.strongRecOn with
  | ind n ih =>
    cases n with
    | zero => exact opensF_zero
    | succ n =>
      have i28 : ∀ q, q < n → OpensF Try.prog 29 e_S_api_Tree wf_S_api_Tree q := fun q hq => (ih q (by omega))
      have j28 : OpensF Try.prog 29 e_S_api_Tree wf_S_api_Tree n := (ih n (by omega))
      have h := opensF_struct (P := Try.prog) (t := 29) (g := e_S_api_Tree) (fun p => (⟨p.1, p.2.1, p.2.2.1⟩ : S_api_Tree)) Try.underlying29 (by kernel_rfl) (opensFs_cons (k := 1) rfl (by kernel_rfl) ((opens_int Try.underlying3) _) (opensFs_cons (k := 1) rfl (by kernel_rfl) (op26 _) (opensFs_cons (k := 1) rfl (by kernel_rfl) (opsl27 n i28) opensFs_nil))) (fun x => by simp only [e_S_api_Tree, e0_eq_S_api_Tree, eI, eB, eS, eL, List.cons_append, List.nil_append, List.append_nil, List.append_assoc])
      intro H enc W base spare held cs d ps h1 h2
      obtain ⟨x, ⟨y, rfl, hy⟩, hr⟩ := h H enc W base spare held cs d ps h1 h2
      obtain ⟨y0, y1, y2, u⟩ := y
      obtain ⟨a0, a1, ⟨a2a, a2b⟩, _⟩ := hy
      exact ⟨_, wf_S_api_Tree.mk ⟨y0, y1, y2⟩ a0 a1 a2a a2b, hr⟩

theorem opn29 : Opens Try.prog 29 e_S_api_Tree wf_S_api_Tree := fun n => (opG28 n)

theorem op27 : Opens Try.prog 27 (eL e_S_api_Tree) (fun xs : (List S_api_Tree) => xs.length * 56 ≤ 140737488351232 ∧ ∀ x ∈ xs, wf_S_api_Tree x) := fun n => opsl27 n (fun m _ => opn29 m)

theorem wf_bd (t : S_api_Tree) (h : wf_S_api_Tree t) : Bd t := by
  induction h with
  | mk x h0 h1 h2a h2b ih =>
    refine .mk _ (by have := h1.1; omega) (by omega) (fun w hw => ?_) ih
    have := h1.2 w hw
    simp [Lit.wf, IntKind.min, IntKind.max, IntKind.signed, IntKind.bits] at this
    omega
theorem own : ownKnob Try.prog.godebug = none := by kernel_rfl
theorem laidOut : laidOutB Try.prog = true := by kernel_rfl
set_option maxRecDepth 100000 in
theorem lifted (os : Os) (started : os.Started) (H : Type) (enc : TypeId × Value → H) :
    ReturnsInHanded {} Try.checked os 6 .any (Rows.canonOneSpec.pre6 enc Try.prog Try.f6 Rows.canonOneRow.domain false) (Rows.canonOneSpec.post enc Try.prog Try.f6 false true false false) := by
  refine returnsInHanded_of_change_sized (C := Try.checked) own started (by kernel_rfl) Try.func6
    (ChangeSpec.witness6 (enc := enc) (C := Try.checked) false ⟨#[], #[.agg #[.int .i64 0, .slice none 0 0, .slice none 0 0], .agg #[.int .i64 0, .slice none 0 0, .slice none 0 0]], []⟩ 12 (by kernel_rfl) (by kernel_rfl) (by kernel_rfl) (by kernel_rfl)) ?_
  intro W base args ds gs before hval0 hW hcnd hsz0 _
  have hval : ∀ (j : Nat) t v, Try.f6.params[j]? = some t → args[j]? = some v → Value.okWide Try.prog W .any base t v := hval0
  have hW' := hW
  obtain ⟨p, q, hA0, hV, rfl, hfz, hnd⟩ := hW
  have hA : DataW.TrodAll enc Try.prog W 0 (fun _ => true) true Try.f6.params.toList args.toList ds p := hA0
  rw [Try.params6] at hA hval
  obtain ⟨v0, vs0, d0, ds0, p0, q0, hargs, rfl, rfl, h0, r0⟩ := trodAll_cons hA
  obtain ⟨v1, vs1, d1, ds1, p1, q1, rfl, rfl, rfl, h1, r1⟩ := trodAll_cons r0
  obtain ⟨rfl, rfl, rfl⟩ := trodAll_nil r1
  obtain rfl : args = #[v0, v1] := by cases args; simp_all
  obtain ⟨rfl, rfl⟩ := trodVars_none hV
  clear hA0 hval0
  have hsz : (DataW.weightsEach Try.prog (Try.f6.params.toList ++ Rows.canonOneSpec.plain.varTypes Try.prog) _).all (· ≤ reachBytes) = true := hsz0
  clear hsz0
  rw [Try.params6] at hsz
  have lt0 : ∀ x ∈ p0, x.block < W.heap.size := by obtain ⟨m, hm⟩ := h0; exact DataW.trod_lt m _ _ _ hm
  obtain ⟨x0, w0, e0⟩ := open_arg opn29 h0 (arg_sized hsz (j := 0) rfl rfl)
  have g0 := arg_agg (agg_struct Try.underlying29 (hval 0 29 v0 rfl rfl)) e0
  simp only [e_S_api_Tree, e0_eq_S_api_Tree] at g0
  have lt1 : ∀ x ∈ p1, x.block < W.heap.size := by obtain ⟨m, hm⟩ := h1; exact DataW.trod_lt m _ _ _ hm
  obtain ⟨x1, w1, e1⟩ := open_arg opn29 h1 (arg_sized hsz (j := 1) rfl rfl)
  have g1 := arg_agg (agg_struct Try.underlying29 (hval 1 29 v1 rfl rfl)) e1
  simp only [e_S_api_Tree, e0_eq_S_api_Tree] at g1
  refine (law_of (ok_centolaw12_CanonOne ((fun a wa b wb => canonOne_p (wf_bd a wa) (wf_bd b wb)) x0 w0 x1 w1)).pure (vs := [v0, v1]) ⟨_, _, rfl, g0, ⟨_, _, rfl, g1, rfl⟩⟩).mono fun e W' ⟨he, bel⟩ => ?_
  subst he
  exact ⟨_, rfl, _, _, _, [], _, [], hW', trodAll_mk1 (shut_bool Try.underlying4 _), (trodAll_cons_mk (Below.trod laidOut (by kernel_rfl) (of_decide_eq_true (by kernel_rfl)) h0 bel lt0) (trodAll_cons_mk (Below.trod laidOut (by kernel_rfl) (of_decide_eq_true (by kernel_rfl)) h1 bel lt1) trodAll_mk0)), rfl, bel.frame _, fun h => by cases h⟩

theorem proved : Rows.CanonOneSaid :=
  OpenClaim.holds_of_wide 6 Try.f6 rfl rfl rfl rfl rfl rfl rfl ⟨rfl, rfl, rfl, rfl, rfl⟩ rfl rfl rfl rfl rfl (by kernel_rfl) Try.func6 (by kernel_rfl)
    (of_decide_eq_true (by kernel_rfl)) (by unfold Func.isWrapper; first | (rw [if_pos (by decide +kernel)]; kernel_rfl) | (rw [if_neg (by decide +kernel)]; exact ⟨rfl, rfl⟩))
    (fun os started H enc _ => lifted os started H enc)
end Go.Proofs.Ytpfbdlcnfekdkaa.canonOne
