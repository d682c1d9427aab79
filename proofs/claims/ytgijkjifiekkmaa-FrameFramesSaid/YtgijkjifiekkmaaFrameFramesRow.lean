/- Called with any arguments, the law FrameFrames returns true and leaves them as they were; no other condition. -/
import Derived.Test.YtgijkjifiekkmaaRows
import Derived.Test.YtgijkjifiekkmaaRM2
import Derived.Test.YtgijkjifiekkmaaRP6
import Derived.Test.YtgijkjifiekkmaaH8
import Derived.WalkKit
import Derived.ProofKit
import Derived.OpenShut
import Derived.ShutString
import Derived.ChangeOld
import Derived.Below
import Derived.SizedLaws
namespace Go.Proofs.Ytgijkjifiekkmaa.frameFrames
open Go.ChangeShapes Go.WideShapes Go.ChangeAt Go.RowKit
open Go.ChangeMaps (open_string shut_string)
set_option linter.unusedVariables false
set_option linter.unusedSimpArgs false
theorem Zqu : Us Try.prog 37 (eI .u64) (fun x => (Lit.int .u64 x).wf = true) := Zdq Try.underlying37
theorem Zo7 : Us Try.prog 37 (eI .u64) (fun x : Int => (Lit.int .u64 x).wf = true) := (Zdq Try.underlying37)
theorem Zpu : Us Try.prog 62 (eL (eI .u64)) (fun xs : (List Int) => xs.length * 8 ≤ 140737488351232 ∧ ∀ x ∈ xs, (fun x : Int => (Lit.int .u64 x).wf = true) x) := by
 have h := Zaq (P := Try.prog) (t := 62) (sz := 1) Try.underlying62 (by kernel_rfl) (by decide) (fun _ => rfl) Zo7
 have hb : Try.prog.bytesOf 37 = 8 := by kernel_rfl
 rw [hb] at h
 exact h
theorem Zo8 : Us Try.prog 62 (eL (eI .u64)) (fun xs : (List Int) => xs.length * 8 ≤ 140737488351232 ∧ ∀ x ∈ xs, (fun x : Int => (Lit.int .u64 x).wf = true) x) := Zpu
theorem Zpt : Us Try.prog 22 (eL (eL (eI .u64))) (fun xs : (List (List Int)) => xs.length * 24 ≤ 140737488351232 ∧ ∀ x ∈ xs, (fun xs : (List Int) => xs.length * 8 ≤ 140737488351232 ∧ ∀ x ∈ xs, (fun x : Int => (Lit.int .u64 x).wf = true) x) x) := by
 have h := Zaq (P := Try.prog) (t := 22) (sz := 1) Try.underlying22 (by kernel_rfl) (by decide) (fun _ => rfl) Zo8
 have hb : Try.prog.bytesOf 62 = 24 := by kernel_rfl
 rw [hb] at h
 exact h
theorem Zqt (l : List Int) (h : l.length * 1 ≤ 140737488351232 ∧ ∀ w ∈ l, (Lit.int .u8 w).wf = true) : ∀ x ∈ l, Gt x := fun x hx => by
 have := h.2 x hx
 simp [Lit.wf, IntKind.min, IntKind.max, IntKind.signed, IntKind.bits] at this
 unfold Gt
 omega
theorem Zna (l : List (List Int)) (h : l.length * 24 ≤ 140737488351232 ∧ ∀ x ∈ l, x.length * 8 ≤ 140737488351232 ∧ ∀ w ∈ x, (Lit.int .u64 w).wf = true) : ∀ s ∈ l, ∀ x ∈ s, isW x := fun s hs w hw => by
 have := (h.2 s hs).2 w hw
 simp [Lit.wf, IntKind.min, IntKind.max, IntKind.signed, IntKind.bits] at this
 unfold isW
 omega
theorem own : ownKnob Try.prog.godebug = none := by kernel_rfl
theorem Zmx : laidOutB Try.prog = true := by kernel_rfl
set_option maxRecDepth 100000 in
theorem lifted (os : Os) (started : os.Started) (H : Type) (enc : TypeId × Value → H) :
  ReturnsInHanded {} Try.checked os 3 .any (Rows.frameFramesSpec.pre6 enc Try.prog Try.f3 Rows.frameFramesRow.domain false) (Rows.frameFramesSpec.post enc Try.prog Try.f3 false true false false) := by
 refine returnsInHanded_of_change_sized (C := Try.checked) own started (by kernel_rfl) Try.func3
  (ChangeSpec.witness6 (enc := enc) (C := Try.checked) false ⟨#[], #[.slice none 0 0], []⟩ 12 (by kernel_rfl) (by kernel_rfl) (by kernel_rfl) (by kernel_rfl)) ?_
 intro W base args ds gs before hval0 hW hcnd hsz0 _
 have hval : ∀ (j : Nat) t v, Try.f3.params[j]? = some t → args[j]? = some v → Value.okWide Try.prog W .any base t v := hval0
 have hW' := hW
 obtain ⟨p, q, hA0, hV, rfl, hfz, hnd⟩ := hW
 have hA : DataW.TrodAll enc Try.prog W 0 (fun _ => true) true Try.f3.params.toList args.toList ds p := hA0
 rw [Try.params3] at hA hval
 obtain ⟨v0, vs0, d0, ds0, p0, q0, hargs, rfl, rfl, h0, r0⟩ := trodAll_cons hA
 obtain ⟨rfl, rfl, rfl⟩ := trodAll_nil r0
 obtain rfl : args = #[v0] := by cases args; simp_all
 obtain ⟨rfl, rfl⟩ := trodVars_none hV
 clear hA0 hval0
 have hsz : (DataW.weightsEach Try.prog (Try.f3.params.toList ++ Rows.frameFramesSpec.plain.varTypes Try.prog) _).all (· ≤ reachBytes) = true := hsz0
 clear hsz0
 rw [Try.params3] at hsz
 have lt0 : ∀ x ∈ p0, x.block < W.heap.size := by obtain ⟨m, hm⟩ := h0; exact DataW.trod_lt m _ _ _ hm
 obtain ⟨x0, w0, e0⟩ := Zlw Zpt h0 (Zkp hsz (j := 0) rfl rfl)
 have g0 := Zmp (Zk1 Try.underlying22 (hval 0 22 v0 rfl rfl)) e0
 refine (Zor (J0 ((fun l wl => Zcs (by have := wl.1; omega) (fun s hs => by have := (wl.2 s hs).1; omega) (Zna l wl)) x0 w0)).pure (vs := [v0]) ⟨_, _, rfl, g0, rfl⟩).mono fun e W' ⟨he, bel⟩ => ?_
 subst he
 exact ⟨_, rfl, _, _, _, [], _, [], hW', trodAll_mk1 (shut_bool Try.underlying4 _), (trodAll_cons_mk (Below.trod Zmx (by kernel_rfl) (of_decide_eq_true (by kernel_rfl)) h0 bel lt0) trodAll_mk0), rfl, bel.frame _, fun h => by cases h⟩
theorem proved : Rows.FrameFramesSaid :=
 OpenClaim.holds_of_wide 3 Try.f3 rfl rfl rfl rfl rfl rfl rfl ⟨rfl, rfl, rfl, rfl, rfl⟩ rfl rfl rfl rfl rfl (by kernel_rfl) Try.func3 (by kernel_rfl)
  (of_decide_eq_true (by kernel_rfl)) (by unfold Func.isWrapper; first | (rw [if_pos (by decide +kernel)]; kernel_rfl) | (rw [if_neg (by decide +kernel)]; exact ⟨rfl, rfl⟩))
  (fun os started H enc _ => lifted os started H enc)
end Go.Proofs.Ytgijkjifiekkmaa.frameFrames
