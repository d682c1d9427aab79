/- Called with any arguments, the law EqualGoes returns true and leaves them as they were; no other condition. -/
import Derived.Test.YtmlhokaflhlhbaaRows
import Derived.Test.YtmlhokaflhlhbaaQM3
import Derived.Test.YtmlhokaflhlhbaaQP2
import Derived.Test.YtmlhokaflhlhbaaH8
import Derived.WalkKit
import Derived.ProofKit
import Derived.OpenShut
import Derived.ShutString
import Derived.ChangeOld
import Derived.Below
import Derived.SizedLaws
namespace Go.Proofs.Ytmlhokaflhlhbaa.equalGoes
open Go.ChangeShapes Go.WideShapes Go.ChangeAt Go.RowKit
open Go.ChangeMaps (open_string shut_string)
set_option linter.unusedVariables false
set_option linter.unusedSimpArgs false
theorem Z0m : Zbb Try.prog 31 (eI .u64) (fun x => (Lit.int .u64 x).wf = true) := Jp Try.underlying31
theorem Zyr : Zbb Try.prog 31 (eI .u64) (fun x : Int => (Lit.int .u64 x).wf = true) := (Jp Try.underlying31)
theorem Zzi : Zbb Try.prog 42 (eL (eI .u64)) (fun xs : (List Int) => xs.length * 8 ≤ 140737488351232 ∧ ∀ x ∈ xs, (fun x : Int => (Lit.int .u64 x).wf = true) x) := by
 have h := Zhj (P := Try.prog) (t := 42) (sz := 1) Try.underlying42 (by kernel_rfl) (by decide) (fun _ => rfl) Zyr
 have hb : Try.prog.bytesOf 31 = 8 := by kernel_rfl
 rw [hb] at h
 exact h
theorem Zys : Zbb Try.prog 42 (eL (eI .u64)) (fun xs : (List Int) => xs.length * 8 ≤ 140737488351232 ∧ ∀ x ∈ xs, (fun x : Int => (Lit.int .u64 x).wf = true) x) := Zzi
theorem Zxz : Zbb Try.prog 22 (eL (eL (eI .u64))) (fun xs : (List (List Int)) => xs.length * 24 ≤ 140737488351232 ∧ ∀ x ∈ xs, (fun xs : (List Int) => xs.length * 8 ≤ 140737488351232 ∧ ∀ x ∈ xs, (fun x : Int => (Lit.int .u64 x).wf = true) x) x) := by
 have h := Zhj (P := Try.prog) (t := 22) (sz := 1) Try.underlying22 (by kernel_rfl) (by decide) (fun _ => rfl) Zys
 have hb : Try.prog.bytesOf 42 = 24 := by kernel_rfl
 rw [hb] at h
 exact h
theorem op3 : Zbb Try.prog 3 (eI .i64) (fun x => (Lit.int .i64 x).wf = true) := Jp Try.underlying3
def Ve (x : Z5) : Prop := (fun x : Int => (Lit.int .i64 x).wf = true) x.Depth ∧ (fun x : Int => (Lit.int .i64 x).wf = true) x.Weight ∧ (fun x : Int => (Lit.int .i64 x).wf = true) x.MaxD ∧ (fun x : Int => (Lit.int .i64 x).wf = true) x.MaxOut
theorem Z0n : Zbb Try.prog 51 Qu Ve := by
 have h := Zf0 (P := Try.prog) (t := 51) (g := Qu) (fun p => (⟨p.1, p.2.1, p.2.2.1, p.2.2.2.1⟩ : Z5)) Try.underlying51 (by kernel_rfl) (fun n => (Jd (k := 1) rfl (by kernel_rfl) ((Jp Try.underlying3) _) (Jd (k := 1) rfl (by kernel_rfl) ((Jp Try.underlying3) _) (Jd (k := 1) rfl (by kernel_rfl) ((Jp Try.underlying3) _) (Jd (k := 1) rfl (by kernel_rfl) ((Jp Try.underlying3) _) Zhi))))) (fun x => rfl)
 intro n H enc W base spare held cs d ps h1 h2
 obtain ⟨x, ⟨y, rfl, hy⟩, hr⟩ := h n H enc W base spare held cs d ps h1 h2
 exact ⟨_, by unfold Ve; simp only; exact ⟨hy.1, hy.2.1, hy.2.2.1, hy.2.2.2.1⟩, hr⟩
theorem Zyt : Zbb Try.prog 52 Qu Ve := by
 have h := Zf0 (P := Try.prog) (t := 52) (g := Qu) (fun p => (⟨p.1, p.2.1, p.2.2.1, p.2.2.2.1⟩ : Z5)) Try.underlying52 (by kernel_rfl) (fun n => (Jd (k := 1) rfl (by kernel_rfl) ((Jp Try.underlying3) _) (Jd (k := 1) rfl (by kernel_rfl) ((Jp Try.underlying3) _) (Jd (k := 1) rfl (by kernel_rfl) ((Jp Try.underlying3) _) (Jd (k := 1) rfl (by kernel_rfl) ((Jp Try.underlying3) _) Zhi))))) (fun x => rfl)
 intro n H enc W base spare held cs d ps h1 h2
 obtain ⟨x, ⟨y, rfl, hy⟩, hr⟩ := h n H enc W base spare held cs d ps h1 h2
 exact ⟨_, by unfold Ve; simp only; exact ⟨hy.1, hy.2.1, hy.2.2.1, hy.2.2.2.1⟩, hr⟩
theorem Zv6 (l : List (List Int)) (h : l.length * 24 ≤ 140737488351232 ∧ ∀ x ∈ l, x.length * 8 ≤ 140737488351232 ∧ ∀ w ∈ x, (Lit.int .u64 w).wf = true) : WS l := by
 refine ⟨by have := h.1; omega, fun x hx => by have := (h.2 x hx).1; omega, fun x hx w hw => ?_⟩
 have := (h.2 x hx).2 w hw
 simp [Lit.wf, IntKind.min, IntKind.max, IntKind.signed, IntKind.bits] at this
 omega
theorem Z0l {a : Int} (h : (Lit.int .u8 a).wf = true) : 0 ≤ a ∧ a < 256 := by
 simp [Lit.wf, IntKind.min, IntKind.max, IntKind.signed, IntKind.bits] at h
 omega
theorem Z0k {a : Int} (h : (Lit.int .u32 a).wf = true) : 0 ≤ a ∧ a < 4294967296 := by
 simp [Lit.wf, IntKind.min, IntKind.max, IntKind.signed, IntKind.bits] at h
 omega
theorem own : ownKnob Try.prog.godebug = none := by kernel_rfl
theorem Zht : laidOutB Try.prog = true := by kernel_rfl
set_option maxRecDepth 100000 in
theorem lifted (os : Os) (started : os.Started) (H : Type) (enc : TypeId × Value → H) :
  ReturnsInHanded {} Try.checked os 14 .any (Rows.equalGoesSpec.pre6 enc Try.prog Try.f14 Rows.equalGoesRow.domain false) (Rows.equalGoesSpec.post enc Try.prog Try.f14 false true false false) := by
 refine returnsInHanded_of_change_sized (C := Try.checked) own started (by kernel_rfl) Try.func14
  (ChangeSpec.witness6 (enc := enc) (C := Try.checked) false ⟨#[], #[.slice none 0 0, .slice none 0 0, .slice none 0 0, .agg #[.int .i64 0, .int .i64 0, .int .i64 0, .int .i64 0]], []⟩ 12 (by kernel_rfl) (by kernel_rfl) (by kernel_rfl) (by kernel_rfl)) ?_
 intro W base args ds gs before hval0 hW hcnd hsz0 _
 have hval : ∀ (j : Nat) t v, Try.f14.params[j]? = some t → args[j]? = some v → Value.okWide Try.prog W .any base t v := hval0
 have hW' := hW
 obtain ⟨p, q, hA0, hV, rfl, hfz, hnd⟩ := hW
 have hA : DataW.TrodAll enc Try.prog W 0 (fun _ => true) true Try.f14.params.toList args.toList ds p := hA0
 rw [Try.params14] at hA hval
 obtain ⟨v0, vs0, d0, ds0, p0, q0, hargs, rfl, rfl, h0, r0⟩ := trodAll_cons hA
 obtain ⟨v1, vs1, d1, ds1, p1, q1, rfl, rfl, rfl, h1, r1⟩ := trodAll_cons r0
 obtain ⟨v2, vs2, d2, ds2, p2, q2, rfl, rfl, rfl, h2, r2⟩ := trodAll_cons r1
 obtain ⟨v3, vs3, d3, ds3, p3, q3, rfl, rfl, rfl, h3, r3⟩ := trodAll_cons r2
 obtain ⟨rfl, rfl, rfl⟩ := trodAll_nil r3
 obtain rfl : args = #[v0, v1, v2, v3] := by cases args; simp_all
 obtain ⟨rfl, rfl⟩ := trodVars_none hV
 clear hA0 hval0
 have hsz : (DataW.weightsEach Try.prog (Try.f14.params.toList ++ Rows.equalGoesSpec.plain.varTypes Try.prog) _).all (· ≤ reachBytes) = true := hsz0
 clear hsz0
 rw [Try.params14] at hsz
 have lt0 : ∀ x ∈ p0, x.block < W.heap.size := by obtain ⟨m, hm⟩ := h0; exact DataW.trod_lt m _ _ _ hm
 obtain ⟨x0, w0, e0⟩ := Zfz Zxz h0 (Zdh hsz (j := 0) rfl rfl)
 have g0 := Zlp (Zgr Try.underlying22 (hval 0 22 v0 rfl rfl)) e0
 have lt1 : ∀ x ∈ p1, x.block < W.heap.size := by obtain ⟨m, hm⟩ := h1; exact DataW.trod_lt m _ _ _ hm
 obtain ⟨x1, w1, e1⟩ := Zfz Zxz h1 (Zdh hsz (j := 1) rfl rfl)
 have g1 := Zlp (Zgr Try.underlying22 (hval 1 22 v1 rfl rfl)) e1
 have lt2 : ∀ x ∈ p2, x.block < W.heap.size := by obtain ⟨m, hm⟩ := h2; exact DataW.trod_lt m _ _ _ hm
 obtain ⟨x2, w2, e2⟩ := Zfz Zxz h2 (Zdh hsz (j := 2) rfl rfl)
 have g2 := Zlp (Zgr Try.underlying22 (hval 2 22 v2 rfl rfl)) e2
 have lt3 : ∀ x ∈ p3, x.block < W.heap.size := by obtain ⟨m, hm⟩ := h3; exact DataW.trod_lt m _ _ _ hm
 obtain ⟨x3, w3, e3⟩ := Zfz Zyt h3 (Zdh hsz (j := 3) rfl rfl)
 have g3 := Zwk (Zqb Try.underlying52 (hval 3 52 v3 rfl rfl)) e3
 refine (Zxs (Zbh ((fun l wl m wm n wn x _ => Zo0 (Zv6 l wl) (Zv6 m wm) (Zv6 n wn) x) x0 w0 x1 w1 x2 w2 x3 w3)).pure (vs := [v0, v1, v2, v3]) ⟨_, _, rfl, g0, ⟨_, _, rfl, g1, ⟨_, _, rfl, g2, ⟨_, _, rfl, g3, rfl⟩⟩⟩⟩).mono fun e W' ⟨he, bel⟩ => ?_
 subst he
 exact ⟨_, rfl, _, _, _, [], _, [], hW', trodAll_mk1 (shut_bool Try.underlying4 _), (trodAll_cons_mk (Below.trod Zht (by kernel_rfl) (of_decide_eq_true (by kernel_rfl)) h0 bel lt0) (trodAll_cons_mk (Below.trod Zht (by kernel_rfl) (of_decide_eq_true (by kernel_rfl)) h1 bel lt1) (trodAll_cons_mk (Below.trod Zht (by kernel_rfl) (of_decide_eq_true (by kernel_rfl)) h2 bel lt2) (trodAll_cons_mk (Below.trod Zht (by kernel_rfl) (of_decide_eq_true (by kernel_rfl)) h3 bel lt3) trodAll_mk0)))), rfl, bel.frame _, fun h => by cases h⟩
theorem proved : Rows.EqualGoesSaid :=
 OpenClaim.holds_of_wide 14 Try.f14 rfl rfl rfl rfl rfl rfl rfl ⟨rfl, rfl, rfl, rfl, rfl⟩ rfl rfl rfl rfl rfl (by kernel_rfl) Try.func14 (by kernel_rfl)
  (of_decide_eq_true (by kernel_rfl)) (by unfold Func.isWrapper; first | (rw [if_pos (by decide +kernel)]; kernel_rfl) | (rw [if_neg (by decide +kernel)]; exact ⟨rfl, rfl⟩))
  (fun os started H enc _ => lifted os started H enc)
end Go.Proofs.Ytmlhokaflhlhbaa.equalGoes
