/- Called with any arguments, the law CanonBack returns true and leaves them as they were; no other condition. -/
import Derived.Test.YtpfbdlcnfekdkaaRows
import Derived.Test.YtpfbdlcnfekdkaaKM6
import Derived.Test.YtpfbdlcnfekdkaaKP2
import Derived.Test.YtpfbdlcnfekdkaaH8
import Derived.WalkKit
import Derived.ProofKit
import Derived.OpenShut
import Derived.ShutString
import Derived.ChangeOld
import Derived.Below
import Derived.SizedLaws
namespace Go.Proofs.Ytpfbdlcnfekdkaa.canonBack
open Go.ChangeShapes Go.WideShapes Go.ChangeAt Go.RowKit
open Go.ChangeMaps (open_string shut_string)
set_option linter.unusedVariables false
set_option linter.unusedSimpArgs false
theorem op3 : Zo5 Try.prog 3 (eI .i64) (fun x => (Lit.int .i64 x).wf = true) := Zom Try.underlying3
theorem Yfi : Zo5 Try.prog 63 (eI .u64) (fun x => (Lit.int .u64 x).wf = true) := Zom Try.underlying63
theorem Yc1 : Zo5 Try.prog 63 (eI .u64) (fun x : Int => (Lit.int .u64 x).wf = true) := (Zom Try.underlying63)
theorem Yeb : Zo5 Try.prog 26 (eL (eI .u64)) (fun xs : (List Int) => xs.length * 8 ≤ 140737488351232 ∧ ∀ x ∈ xs, (fun x : Int => (Lit.int .u64 x).wf = true) x) := by
 have h := Z1v (P := Try.prog) (t := 26) (sz := 1) Try.underlying26 (by kernel_rfl) (by decide) (fun _ => rfl) Yc1
 have hb : Try.prog.bytesOf 63 = 8 := by kernel_rfl
 rw [hb] at h
 exact h
inductive Jl : Za → Prop
 | mk (x : Za) (h0 : (fun x : Int => (Lit.int .i64 x).wf = true) x.Kind) (h1 : (fun xs : (List Int) => xs.length * 8 ≤ 140737488351232 ∧ ∀ x ∈ xs, (fun x : Int => (Lit.int .u64 x).wf = true) x) x.Words) (h2a : x.Kids.length * 56 ≤ 140737488351232) (h2b : ∀ y ∈ x.Kids, Jl y) : Jl x
theorem Z8y (n : Nat) (he : ∀ m, m < n → Zet Try.prog 29 Zc Jl m) : Zet Try.prog 27 (eL Zc) (fun xs : (List Za) => xs.length * 56 ≤ 140737488351232 ∧ ∀ x ∈ xs, Jl x) n := by
 have h := Zyb (P := Try.prog) (t := 27) (sz := 3) n Try.underlying27 (by kernel_rfl) (by decide) (fun _ => rfl) he
 have hb : Try.prog.bytesOf 29 = 56 := by kernel_rfl
 rw [hb] at h
 exact h
theorem Yc2 (n : Nat) : (Zet Try.prog 29 Zc Jl n) := by
 induction n using Nat.strongRecOn with
 | ind n ih =>
  cases n with
  | zero => exact Zm5
  | succ n =>
   have i28 : ∀ q, q < n → Zet Try.prog 29 Zc Jl q := fun q hq => (ih q (by omega))
   have j28 : Zet Try.prog 29 Zc Jl n := (ih n (by omega))
   have h := Zyc (P := Try.prog) (t := 29) (g := Zc) (fun p => (⟨p.1, p.2.1, p.2.2.1⟩ : Za)) Try.underlying29 (by kernel_rfl) (Zk7 (k := 1) rfl (by kernel_rfl) ((Zom Try.underlying3) _) (Zk7 (k := 1) rfl (by kernel_rfl) (Yeb _) (Zk7 (k := 1) rfl (by kernel_rfl) (Z8y n i28) Z1u))) (fun x => by simp only [Zc, Yu, eI, eB, eS, eL, List.cons_append, List.nil_append, List.append_nil, List.append_assoc])
   intro H enc W base spare held cs d ps h1 h2
   obtain ⟨x, ⟨y, rfl, hy⟩, hr⟩ := h H enc W base spare held cs d ps h1 h2
   obtain ⟨y0, y1, y2, u⟩ := y
   obtain ⟨a0, a1, ⟨a2a, a2b⟩, _⟩ := hy
   exact ⟨_, Jl.mk ⟨y0, y1, y2⟩ a0 a1 a2a a2b, hr⟩
theorem Ybn : Zo5 Try.prog 29 Zc Jl := fun n => (Yc2 n)
theorem Yfh : Zo5 Try.prog 27 (eL Zc) (fun xs : (List Za) => xs.length * 56 ≤ 140737488351232 ∧ ∀ x ∈ xs, Jl x) := fun n => Z8y n (fun m _ => Ybn m)
theorem Ydt (t : Za) (h : Jl t) : Bd t := by
 induction h with
 | mk x h0 h1 h2a h2b ih =>
  refine .mk _ (by have := h1.1; omega) (by omega) (fun w hw => ?_) ih
  have := h1.2 w hw
  simp [Lit.wf, IntKind.min, IntKind.max, IntKind.signed, IntKind.bits] at this
  omega
theorem own : ownKnob Try.prog.godebug = none := by kernel_rfl
theorem Yag : laidOutB Try.prog = true := by kernel_rfl
set_option maxRecDepth 100000 in
theorem lifted (os : Os) (started : os.Started) (H : Type) (enc : TypeId × Value → H) :
  ReturnsInHanded {} Try.checked os 5 .any (Rows.canonBackSpec.pre6 enc Try.prog Try.f5 Rows.canonBackRow.domain false) (Rows.canonBackSpec.post enc Try.prog Try.f5 false true false false) := by
 refine returnsInHanded_of_change_sized (C := Try.checked) own started (by kernel_rfl) Try.func5
  (ChangeSpec.witness6 (enc := enc) (C := Try.checked) false ⟨#[], #[.agg #[.int .i64 0, .slice none 0 0, .slice none 0 0]], []⟩ 12 (by kernel_rfl) (by kernel_rfl) (by kernel_rfl) (by kernel_rfl)) ?_
 intro W base args ds gs before hval0 hW hcnd hsz0 _
 have hval : ∀ (j : Nat) t v, Try.f5.params[j]? = some t → args[j]? = some v → Value.okWide Try.prog W .any base t v := hval0
 have hW' := hW
 obtain ⟨p, q, hA0, hV, rfl, hfz, hnd⟩ := hW
 have hA : DataW.TrodAll enc Try.prog W 0 (fun _ => true) true Try.f5.params.toList args.toList ds p := hA0
 rw [Try.params5] at hA hval
 obtain ⟨v0, vs0, d0, ds0, p0, q0, hargs, rfl, rfl, h0, r0⟩ := trodAll_cons hA
 obtain ⟨rfl, rfl, rfl⟩ := trodAll_nil r0
 obtain rfl : args = #[v0] := by cases args; simp_all
 obtain ⟨rfl, rfl⟩ := trodVars_none hV
 clear hA0 hval0
 have hsz : (DataW.weightsEach Try.prog (Try.f5.params.toList ++ Rows.canonBackSpec.plain.varTypes Try.prog) _).all (· ≤ reachBytes) = true := hsz0
 clear hsz0
 rw [Try.params5] at hsz
 have lt0 : ∀ x ∈ p0, x.block < W.heap.size := by obtain ⟨m, hm⟩ := h0; exact DataW.trod_lt m _ _ _ hm
 obtain ⟨x0, w0, e0⟩ := Z8x Ybn h0 (Z6g hsz (j := 0) rfl rfl)
 have g0 := Z97 (Z3v Try.underlying29 (hval 0 29 v0 rfl rfl)) e0
 simp only [Zc, Yu] at g0
 refine (Yb4 (Zjx ((fun x wx => Z0r (Ydt x wx)) x0 w0)).pure (vs := [v0]) ⟨_, _, rfl, g0, rfl⟩).mono fun e W' ⟨he, bel⟩ => ?_
 subst he
 exact ⟨_, rfl, _, _, _, [], _, [], hW', trodAll_mk1 (shut_bool Try.underlying4 _), (trodAll_cons_mk (Below.trod Yag (by kernel_rfl) (of_decide_eq_true (by kernel_rfl)) h0 bel lt0) trodAll_mk0), rfl, bel.frame _, fun h => by cases h⟩
theorem proved : Rows.CanonBackSaid :=
 OpenClaim.holds_of_wide 5 Try.f5 rfl rfl rfl rfl rfl rfl rfl ⟨rfl, rfl, rfl, rfl, rfl⟩ rfl rfl rfl rfl rfl (by kernel_rfl) Try.func5 (by kernel_rfl)
  (of_decide_eq_true (by kernel_rfl)) (by unfold Func.isWrapper; first | (rw [if_pos (by decide +kernel)]; kernel_rfl) | (rw [if_neg (by decide +kernel)]; exact ⟨rfl, rfl⟩))
  (fun os started H enc _ => lifted os started H enc)
end Go.Proofs.Ytpfbdlcnfekdkaa.canonBack
