/- Called with any arguments, the law InternClasses returns true and leaves them as they were; no other condition. -/
import Derived.Test.YtgffgbdnbjbmoaaRows
import Derived.Test.YtgffgbdnbjbmoaaIM4
import Derived.Test.YtgffgbdnbjbmoaaIP2
import Derived.Test.YtgffgbdnbjbmoaaH8
import Derived.WalkKit
import Derived.ProofKit
import Derived.OpenShut
import Derived.ShutString
import Derived.ChangeOld
import Derived.Below
import Derived.SizedLaws
namespace Go.Proofs.Ytgffgbdnbjbmoaa.internClasses
open Go.ChangeShapes Go.WideShapes Go.ChangeAt Go.RowKit
open Go.ChangeMaps (open_string shut_string)
set_option linter.unusedVariables false
set_option linter.unusedSimpArgs false
theorem Z9j : Zcz Try.prog 40 (eI .u64) (fun x => (Lit.int .u64 x).wf = true) := Vq Try.underlying40
theorem Z6c : Zcz Try.prog 40 (eI .u64) (fun x : Int => (Lit.int .u64 x).wf = true) := (Vq Try.underlying40)
theorem Z72 : Zcz Try.prog 26 (eL (eI .u64)) (fun xs : (List Int) => xs.length * 8 ≤ 140737488351232 ∧ ∀ x ∈ xs, (fun x : Int => (Lit.int .u64 x).wf = true) x) := by
 have h := Zgi (P := Try.prog) (t := 26) (sz := 1) Try.underlying26 (by kernel_rfl) (by decide) (fun _ => rfl) Z6c
 have hb : Try.prog.bytesOf 40 = 8 := by kernel_rfl
 rw [hb] at h
 exact h
theorem Z6b : Zcz Try.prog 26 (eL (eI .u64)) (fun xs : (List Int) => xs.length * 8 ≤ 140737488351232 ∧ ∀ x ∈ xs, (fun x : Int => (Lit.int .u64 x).wf = true) x) := Z72
theorem Z71 : Zcz Try.prog 22 (eL (eL (eI .u64))) (fun xs : (List (List Int)) => xs.length * 24 ≤ 140737488351232 ∧ ∀ x ∈ xs, (fun xs : (List Int) => xs.length * 8 ≤ 140737488351232 ∧ ∀ x ∈ xs, (fun x : Int => (Lit.int .u64 x).wf = true) x) x) := by
 have h := Zgi (P := Try.prog) (t := 22) (sz := 1) Try.underlying22 (by kernel_rfl) (by decide) (fun _ => rfl) Z6b
 have hb : Try.prog.bytesOf 26 = 24 := by kernel_rfl
 rw [hb] at h
 exact h
theorem Z6a : Zcz Try.prog 22 (eL (eL (eI .u64))) (fun xs : (List (List Int)) => xs.length * 24 ≤ 140737488351232 ∧ ∀ x ∈ xs, (fun xs : (List Int) => xs.length * 8 ≤ 140737488351232 ∧ ∀ x ∈ xs, (fun x : Int => (Lit.int .u64 x).wf = true) x) x) := Z71
theorem Z73 : Zcz Try.prog 45 (eL (eL (eL (eI .u64)))) (fun xs : (List (List (List Int))) => xs.length * 24 ≤ 140737488351232 ∧ ∀ x ∈ xs, (fun xs : (List (List Int)) => xs.length * 24 ≤ 140737488351232 ∧ ∀ x ∈ xs, (fun xs : (List Int) => xs.length * 8 ≤ 140737488351232 ∧ ∀ x ∈ xs, (fun x : Int => (Lit.int .u64 x).wf = true) x) x) x) := by
 have h := Zgi (P := Try.prog) (t := 45) (sz := 1) Try.underlying45 (by kernel_rfl) (by decide) (fun _ => rfl) Z6a
 have hb : Try.prog.bytesOf 22 = 24 := by kernel_rfl
 rw [hb] at h
 exact h
theorem op3 : Zcz Try.prog 3 (eI .i64) (fun x => (Lit.int .i64 x).wf = true) := Vq Try.underlying3
def Gb (x : Zw) : Prop := (fun x : Int => (Lit.int .i64 x).wf = true) x.Depth ∧ (fun x : Int => (Lit.int .i64 x).wf = true) x.Weight ∧ (fun x : Int => (Lit.int .i64 x).wf = true) x.MaxD ∧ (fun x : Int => (Lit.int .i64 x).wf = true) x.MaxOut
theorem Z9i : Zcz Try.prog 23 Vi Gb := by
 have h := Zi9 (P := Try.prog) (t := 23) (g := Vi) (fun p => (⟨p.1, p.2.1, p.2.2.1, p.2.2.2.1⟩ : Zw)) Try.underlying23 (by kernel_rfl) (fun n => (K7 (k := 1) rfl (by kernel_rfl) ((Vq Try.underlying3) _) (K7 (k := 1) rfl (by kernel_rfl) ((Vq Try.underlying3) _) (K7 (k := 1) rfl (by kernel_rfl) ((Vq Try.underlying3) _) (K7 (k := 1) rfl (by kernel_rfl) ((Vq Try.underlying3) _) Zkm))))) (fun x => rfl)
 intro n H enc W base spare held cs d ps h1 h2
 obtain ⟨x, ⟨y, rfl, hy⟩, hr⟩ := h n H enc W base spare held cs d ps h1 h2
 exact ⟨_, by unfold Gb; simp only; exact ⟨hy.1, hy.2.1, hy.2.2.1, hy.2.2.2.1⟩, hr⟩
theorem Z6d : Zcz Try.prog 24 Vi Gb := by
 have h := Zi9 (P := Try.prog) (t := 24) (g := Vi) (fun p => (⟨p.1, p.2.1, p.2.2.1, p.2.2.2.1⟩ : Zw)) Try.underlying24 (by kernel_rfl) (fun n => (K7 (k := 1) rfl (by kernel_rfl) ((Vq Try.underlying3) _) (K7 (k := 1) rfl (by kernel_rfl) ((Vq Try.underlying3) _) (K7 (k := 1) rfl (by kernel_rfl) ((Vq Try.underlying3) _) (K7 (k := 1) rfl (by kernel_rfl) ((Vq Try.underlying3) _) Zkm))))) (fun x => rfl)
 intro n H enc W base spare held cs d ps h1 h2
 obtain ⟨x, ⟨y, rfl, hy⟩, hr⟩ := h n H enc W base spare held cs d ps h1 h2
 exact ⟨_, by unfold Gb; simp only; exact ⟨hy.1, hy.2.1, hy.2.2.1, hy.2.2.2.1⟩, hr⟩
theorem Z7p (l : List (List Int)) (h : l.length * 24 ≤ 140737488351232 ∧ ∀ x ∈ l, x.length * 8 ≤ 140737488351232 ∧ ∀ w ∈ x, (Lit.int .u64 w).wf = true) : WS l := by
 refine ⟨by have := h.1; omega, fun x hx => by have := (h.2 x hx).1; omega, fun x hx w hw => ?_⟩
 have := (h.2 x hx).2 w hw
 simp [Lit.wf, IntKind.min, IntKind.max, IntKind.signed, IntKind.bits] at this
 omega
theorem Z9h {a : Int} (h : (Lit.int .u8 a).wf = true) : 0 ≤ a ∧ a < 256 := by
 simp [Lit.wf, IntKind.min, IntKind.max, IntKind.signed, IntKind.bits] at h
 omega
theorem Z9d {a : Int} (h : (Lit.int .u32 a).wf = true) : 0 ≤ a ∧ a < 4294967296 := by
 simp [Lit.wf, IntKind.min, IntKind.max, IntKind.signed, IntKind.bits] at h
 omega
theorem Z9e {a : Int} (h : (Lit.int .u64 a).wf = true) : 0 ≤ a ∧ a < 18446744073709551616 := by
 simp [Lit.wf, IntKind.min, IntKind.max, IntKind.signed, IntKind.bits] at h
 omega
theorem own : ownKnob Try.prog.godebug = none := by kernel_rfl
theorem Zve : laidOutB Try.prog = true := by kernel_rfl
set_option maxRecDepth 100000 in
theorem lifted (os : Os) (started : os.Started) (H : Type) (enc : TypeId × Value → H) :
  ReturnsInHanded {} Try.checked os 4 .any (Rows.internClassesSpec.pre6 enc Try.prog Try.f4 Rows.internClassesRow.domain false) (Rows.internClassesSpec.post enc Try.prog Try.f4 false true false false) := by
 refine returnsInHanded_of_change_sized (C := Try.checked) own started (by kernel_rfl) Try.func4
  (ChangeSpec.witness6 (enc := enc) (C := Try.checked) false ⟨#[], #[.slice none 0 0, .agg #[.int .i64 0, .int .i64 0, .int .i64 0, .int .i64 0]], []⟩ 12 (by kernel_rfl) (by kernel_rfl) (by kernel_rfl) (by kernel_rfl)) ?_
 intro W base args ds gs before hval0 hW hcnd hsz0 _
 have hval : ∀ (j : Nat) t v, Try.f4.params[j]? = some t → args[j]? = some v → Value.okWide Try.prog W .any base t v := hval0
 have hW' := hW
 obtain ⟨p, q, hA0, hV, rfl, hfz, hnd⟩ := hW
 have hA : DataW.TrodAll enc Try.prog W 0 (fun _ => true) true Try.f4.params.toList args.toList ds p := hA0
 rw [Try.params4] at hA hval
 obtain ⟨v0, vs0, d0, ds0, p0, q0, hargs, rfl, rfl, h0, r0⟩ := trodAll_cons hA
 obtain ⟨v1, vs1, d1, ds1, p1, q1, rfl, rfl, rfl, h1, r1⟩ := trodAll_cons r0
 obtain ⟨rfl, rfl, rfl⟩ := trodAll_nil r1
 obtain rfl : args = #[v0, v1] := by cases args; simp_all
 obtain ⟨rfl, rfl⟩ := trodVars_none hV
 clear hA0 hval0
 have hsz : (DataW.weightsEach Try.prog (Try.f4.params.toList ++ Rows.internClassesSpec.plain.varTypes Try.prog) _).all (· ≤ reachBytes) = true := hsz0
 clear hsz0
 rw [Try.params4] at hsz
 have lt0 : ∀ x ∈ p0, x.block < W.heap.size := by obtain ⟨m, hm⟩ := h0; exact DataW.trod_lt m _ _ _ hm
 obtain ⟨x0, w0, e0⟩ := Zsd Z73 h0 (Zn6 hsz (j := 0) rfl rfl)
 have g0 := Z15 (Zyj Try.underlying45 (hval 0 45 v0 rfl rfl)) e0
 have lt1 : ∀ x ∈ p1, x.block < W.heap.size := by obtain ⟨m, hm⟩ := h1; exact DataW.trod_lt m _ _ _ hm
 obtain ⟨x1, w1, e1⟩ := Zsd Z6d h1 (Zn6 hsz (j := 1) rfl rfl)
 have g1 := Z14 (Zto Try.underlying24 (hval 1 24 v1 rfl rfl)) e1
 refine (Z5n (Zcp ((fun l wl x _ => Zk1 (fun y hy => Z7p y (wl.2 y hy)) x) x0 w0 x1 w1)).pure (vs := [v0, v1]) ⟨_, _, rfl, g0, ⟨_, _, rfl, g1, rfl⟩⟩).mono fun e W' ⟨he, bel⟩ => ?_
 subst he
 exact ⟨_, rfl, _, _, _, [], _, [], hW', trodAll_mk1 (shut_bool Try.underlying4 _), (trodAll_cons_mk (Below.trod Zve (by kernel_rfl) (of_decide_eq_true (by kernel_rfl)) h0 bel lt0) (trodAll_cons_mk (Below.trod Zve (by kernel_rfl) (of_decide_eq_true (by kernel_rfl)) h1 bel lt1) trodAll_mk0)), rfl, bel.frame _, fun h => by cases h⟩
theorem proved : Rows.InternClassesSaid :=
 OpenClaim.holds_of_wide 4 Try.f4 rfl rfl rfl rfl rfl rfl rfl ⟨rfl, rfl, rfl, rfl, rfl⟩ rfl rfl rfl rfl rfl (by kernel_rfl) Try.func4 (by kernel_rfl)
  (of_decide_eq_true (by kernel_rfl)) (by unfold Func.isWrapper; first | (rw [if_pos (by decide +kernel)]; kernel_rfl) | (rw [if_neg (by decide +kernel)]; exact ⟨rfl, rfl⟩))
  (fun os started H enc _ => lifted os started H enc)
end Go.Proofs.Ytgffgbdnbjbmoaa.internClasses
