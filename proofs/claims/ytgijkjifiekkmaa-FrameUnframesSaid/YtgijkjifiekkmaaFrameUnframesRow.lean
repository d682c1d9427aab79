/- Called with any arguments, the law FrameUnframes returns true and leaves them as they were; no other condition. -/
import Derived.Test.YtgijkjifiekkmaaRows
import Derived.Test.YtgijkjifiekkmaaRM2
import Derived.Test.YtgijkjifiekkmaaRP4
import Derived.Test.YtgijkjifiekkmaaH8
import Derived.WalkKit
import Derived.ProofKit
import Derived.OpenShut
import Derived.ShutString
import Derived.ChangeOld
import Derived.Below
import Derived.SizedLaws
namespace Go.Proofs.Ytgijkjifiekkmaa.frameUnframes
open Go.ChangeShapes Go.WideShapes Go.ChangeAt Go.RowKit
open Go.ChangeMaps (open_string shut_string)
set_option linter.unusedVariables false
set_option linter.unusedSimpArgs false
theorem op5 : Za0 Try.prog 5 (eI .u8) (fun x => (Lit.int .u8 x).wf = true) := Zdn Try.underlying5
theorem Zpt : Za0 Try.prog 5 (eI .u8) (fun x : Int => (Lit.int .u8 x).wf = true) := (Zdn Try.underlying5)
theorem Zps : Za0 Try.prog 23 (eL (eI .u8)) (fun xs : (List Int) => xs.length * 1 ≤ 140737488351232 ∧ ∀ x ∈ xs, (fun x : Int => (Lit.int .u8 x).wf = true) x) := by
 have h := Zgf (P := Try.prog) (t := 23) (sz := 1) Try.underlying23 (by kernel_rfl) (by decide) (fun _ => rfl) Zpt
 have hb : Try.prog.bytesOf 5 = 1 := by kernel_rfl
 rw [hb] at h
 exact h
theorem Zpq (l : List Int) (h : l.length * 1 ≤ 140737488351232 ∧ ∀ w ∈ l, (Lit.int .u8 w).wf = true) : ∀ x ∈ l, Jz x := fun x hx => by
 have := h.2 x hx
 simp [Lit.wf, IntKind.min, IntKind.max, IntKind.signed, IntKind.bits] at this
 unfold Jz
 omega
theorem own : ownKnob Try.prog.godebug = none := by kernel_rfl
theorem Zmx : laidOutB Try.prog = true := by kernel_rfl
set_option maxRecDepth 100000 in
theorem lifted (os : Os) (started : os.Started) (H : Type) (enc : TypeId × Value → H) :
  ReturnsInHanded {} Try.checked os 4 .any (Rows.frameUnframesSpec.pre6 enc Try.prog Try.f4 Rows.frameUnframesRow.domain false) (Rows.frameUnframesSpec.post enc Try.prog Try.f4 false true false false) := by
 refine returnsInHanded_of_change_sized (C := Try.checked) own started (by kernel_rfl) Try.func4
  (ChangeSpec.witness6 (enc := enc) (C := Try.checked) false ⟨#[], #[.slice none 0 0], []⟩ 12 (by kernel_rfl) (by kernel_rfl) (by kernel_rfl) (by kernel_rfl)) ?_
 intro W base args ds gs before hval0 hW hcnd hsz0 _
 have hval : ∀ (j : Nat) t v, Try.f4.params[j]? = some t → args[j]? = some v → Value.okWide Try.prog W .any base t v := hval0
 have hW' := hW
 obtain ⟨p, q, hA0, hV, rfl, hfz, hnd⟩ := hW
 have hA : DataW.TrodAll enc Try.prog W 0 (fun _ => true) true Try.f4.params.toList args.toList ds p := hA0
 rw [Try.params4] at hA hval
 obtain ⟨v0, vs0, d0, ds0, p0, q0, hargs, rfl, rfl, h0, r0⟩ := trodAll_cons hA
 obtain ⟨rfl, rfl, rfl⟩ := trodAll_nil r0
 obtain rfl : args = #[v0] := by cases args; simp_all
 obtain ⟨rfl, rfl⟩ := trodVars_none hV
 clear hA0 hval0
 have hsz : (DataW.weightsEach Try.prog (Try.f4.params.toList ++ Rows.frameUnframesSpec.plain.varTypes Try.prog) _).all (· ≤ reachBytes) = true := hsz0
 clear hsz0
 rw [Try.params4] at hsz
 have lt0 : ∀ x ∈ p0, x.block < W.heap.size := by obtain ⟨m, hm⟩ := h0; exact DataW.trod_lt m _ _ _ hm
 obtain ⟨x0, w0, e0⟩ := Zlu Zps h0 (Zkn hsz (j := 0) rfl rfl)
 have g0 := Zmp (Zk0 Try.underlying23 (hval 0 23 v0 rfl rfl)) e0
 refine (Zop (Ji ((fun l wl => Zaq (Zpq l wl) (by have := wl.1; omega)) x0 w0)).pure (vs := [v0]) ⟨_, _, rfl, g0, rfl⟩).mono fun e W' ⟨he, bel⟩ => ?_
 subst he
 exact ⟨_, rfl, _, _, _, [], _, [], hW', trodAll_mk1 (shut_bool Try.underlying4 _), (trodAll_cons_mk (Below.trod Zmx (by kernel_rfl) (of_decide_eq_true (by kernel_rfl)) h0 bel lt0) trodAll_mk0), rfl, bel.frame _, fun h => by cases h⟩
theorem proved : Rows.FrameUnframesSaid :=
 OpenClaim.holds_of_wide 4 Try.f4 rfl rfl rfl rfl rfl rfl rfl ⟨rfl, rfl, rfl, rfl, rfl⟩ rfl rfl rfl rfl rfl (by kernel_rfl) Try.func4 (by kernel_rfl)
  (of_decide_eq_true (by kernel_rfl)) (by unfold Func.isWrapper; first | (rw [if_pos (by decide +kernel)]; kernel_rfl) | (rw [if_neg (by decide +kernel)]; exact ⟨rfl, rfl⟩))
  (fun os started H enc _ => lifted os started H enc)
end Go.Proofs.Ytgijkjifiekkmaa.frameUnframes
