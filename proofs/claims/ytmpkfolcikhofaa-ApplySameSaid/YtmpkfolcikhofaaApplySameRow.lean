/- Called with any arguments, the law ApplySame returns true and leaves them as they were; no other condition. -/
import Derived.Test.YtmpkfolcikhofaaRows
import Derived.Test.YtmpkfolcikhofaaSM5
import Derived.Test.YtmpkfolcikhofaaSP3
import Derived.Test.YtmpkfolcikhofaaH8
import Derived.WalkKit
import Derived.ProofKit
import Derived.OpenShut
import Derived.ShutString
import Derived.ChangeOld
import Derived.Below
import Derived.SizedLaws
namespace Go.Proofs.Ytmpkfolcikhofaa.applySame
open Go.ChangeShapes Go.WideShapes Go.ChangeAt Go.RowKit
open Go.ChangeMaps (open_string shut_string)
set_option linter.unusedVariables false
set_option linter.unusedSimpArgs false
theorem op3 : Zhh Try.prog 3 (eI .i64) (fun x => (Lit.int .i64 x).wf = true) := Zg6 Try.underlying3
theorem Z1v : Zhh Try.prog 71 (eI .u64) (fun x => (Lit.int .u64 x).wf = true) := Zg6 Try.underlying71
theorem Zzv : Zhh Try.prog 71 (eI .u64) (fun x : Int => (Lit.int .u64 x).wf = true) := (Zg6 Try.underlying71)
theorem Z0q : Zhh Try.prog 22 (eL (eI .u64)) (fun xs : (List Int) => xs.length * 8 ≤ 140737488351232 ∧ ∀ x ∈ xs, (fun x : Int => (Lit.int .u64 x).wf = true) x) := by
 have h := Zrv (P := Try.prog) (t := 22) (sz := 1) Try.underlying22 (by kernel_rfl) (by decide) (fun _ => rfl) Zzv
 have hb : Try.prog.bytesOf 71 = 8 := by kernel_rfl
 rw [hb] at h
 exact h
inductive wf_S_api_Tree : S_api_Tree → Prop
 | mk (x : S_api_Tree) (h0 : (fun x : Int => (Lit.int .i64 x).wf = true) x.Kind) (h1 : (fun xs : (List Int) => xs.length * 8 ≤ 140737488351232 ∧ ∀ x ∈ xs, (fun x : Int => (Lit.int .u64 x).wf = true) x) x.Words) (h2a : x.Kids.length * 56 ≤ 140737488351232) (h2b : ∀ y ∈ x.Kids, wf_S_api_Tree y) : wf_S_api_Tree x
theorem Zw0 (n : Nat) (he : ∀ m, m < n → Gp Try.prog 25 Zb wf_S_api_Tree m) : Gp Try.prog 23 (eL Zb) (fun xs : (List S_api_Tree) => xs.length * 56 ≤ 140737488351232 ∧ ∀ x ∈ xs, wf_S_api_Tree x) n := by
 have h := Zox (P := Try.prog) (t := 23) (sz := 3) n Try.underlying23 (by kernel_rfl) (by decide) (fun _ => rfl) he
 have hb : Try.prog.bytesOf 25 = 56 := by kernel_rfl
 rw [hb] at h
 exact h
theorem Zzw (n : Nat) : (Gp Try.prog 25 Zb wf_S_api_Tree n) := by
 induction n using Nat.strongRecOn with
 | ind n ih =>
  cases n with
  | zero => exact Zfw
  | succ n =>
   have i24 : ∀ q, q < n → Gp Try.prog 25 Zb wf_S_api_Tree q := fun q hq => (ih q (by omega))
   have j24 : Gp Try.prog 25 Zb wf_S_api_Tree n := (ih n (by omega))
   have h := Zoy (P := Try.prog) (t := 25) (g := Zb) (fun p => (⟨p.1, p.2.1, p.2.2.1⟩ : S_api_Tree)) Try.underlying25 (by kernel_rfl) (Zel (k := 1) rfl (by kernel_rfl) ((Zg6 Try.underlying3) _) (Zel (k := 1) rfl (by kernel_rfl) (Z0q _) (Zel (k := 1) rfl (by kernel_rfl) (Zw0 n i24) Zru))) (fun x => by simp only [Zb, Yc, eI, eB, eS, eL, List.cons_append, List.nil_append, List.append_nil, List.append_assoc])
   intro H enc W base spare held cs d ps h1 h2
   obtain ⟨x, ⟨y, rfl, hy⟩, hr⟩ := h H enc W base spare held cs d ps h1 h2
   obtain ⟨y0, y1, y2, u⟩ := y
   obtain ⟨a0, a1, ⟨a2a, a2b⟩, _⟩ := hy
   exact ⟨_, wf_S_api_Tree.mk ⟨y0, y1, y2⟩ a0 a1 a2a a2b, hr⟩
theorem Zuy : Zhh Try.prog 25 Zb wf_S_api_Tree := fun n => (Zzw n)
theorem Z1u : Zhh Try.prog 23 (eL Zb) (fun xs : (List S_api_Tree) => xs.length * 56 ≤ 140737488351232 ∧ ∀ x ∈ xs, wf_S_api_Tree x) := fun n => Zw0 n (fun m _ => Zuy m)
theorem Zxw (t : S_api_Tree) (h : wf_S_api_Tree t) : Bd t := by
 induction h with
 | mk x h0 h1 h2a h2b ih =>
  refine .mk _ (by have := h1.1; omega) (by omega) (fun w hw => ?_) ih
  have := h1.2 w hw
  simp [Lit.wf, IntKind.min, IntKind.max, IntKind.signed, IntKind.bits] at this
  omega
theorem own : ownKnob Try.prog.godebug = none := by kernel_rfl
theorem Zqb : laidOutB Try.prog = true := by kernel_rfl
set_option maxRecDepth 100000 in
theorem lifted (os : Os) (started : os.Started) (H : Type) (enc : TypeId × Value → H) :
  ReturnsInHanded {} Try.checked os 14 .any (Rows.applySameSpec.pre6 enc Try.prog Try.f14 Rows.applySameRow.domain false) (Rows.applySameSpec.post enc Try.prog Try.f14 false true false false) := by
 refine returnsInHanded_of_change_sized (C := Try.checked) own started (by kernel_rfl) Try.func14
  (ChangeSpec.witness6 (enc := enc) (C := Try.checked) false ⟨#[], #[.agg #[.int .i64 0, .slice none 0 0, .slice none 0 0], .agg #[.int .i64 0, .slice none 0 0, .slice none 0 0], .agg #[.int .i64 0, .slice none 0 0, .slice none 0 0]], []⟩ 12 (by kernel_rfl) (by kernel_rfl) (by kernel_rfl) (by kernel_rfl)) ?_
 intro W base args ds gs before hval0 hW hcnd hsz0 _
 have hval : ∀ (j : Nat) t v, Try.f14.params[j]? = some t → args[j]? = some v → Value.okWide Try.prog W .any base t v := hval0
 have hW' := hW
 obtain ⟨p, q, hA0, hV, rfl, hfz, hnd⟩ := hW
 have hA : DataW.TrodAll enc Try.prog W 0 (fun _ => true) true Try.f14.params.toList args.toList ds p := hA0
 rw [Try.params14] at hA hval
 obtain ⟨v0, vs0, d0, ds0, p0, q0, hargs, rfl, rfl, h0, r0⟩ := trodAll_cons hA
 obtain ⟨v1, vs1, d1, ds1, p1, q1, rfl, rfl, rfl, h1, r1⟩ := trodAll_cons r0
 obtain ⟨v2, vs2, d2, ds2, p2, q2, rfl, rfl, rfl, h2, r2⟩ := trodAll_cons r1
 obtain ⟨rfl, rfl, rfl⟩ := trodAll_nil r2
 obtain rfl : args = #[v0, v1, v2] := by cases args; simp_all
 obtain ⟨rfl, rfl⟩ := trodVars_none hV
 clear hA0 hval0
 have hsz : (DataW.weightsEach Try.prog (Try.f14.params.toList ++ Rows.applySameSpec.plain.varTypes Try.prog) _).all (· ≤ reachBytes) = true := hsz0
 clear hsz0
 rw [Try.params14] at hsz
 have lt0 : ∀ x ∈ p0, x.block < W.heap.size := by obtain ⟨m, hm⟩ := h0; exact DataW.trod_lt m _ _ _ hm
 obtain ⟨x0, w0, e0⟩ := Zmz Zuy h0 (Zkj hsz (j := 0) rfl rfl)
 have g0 := Zpq (Zhm Try.underlying25 (hval 0 25 v0 rfl rfl)) e0
 simp only [Zb, Yc] at g0
 have lt1 : ∀ x ∈ p1, x.block < W.heap.size := by obtain ⟨m, hm⟩ := h1; exact DataW.trod_lt m _ _ _ hm
 obtain ⟨x1, w1, e1⟩ := Zmz Zuy h1 (Zkj hsz (j := 1) rfl rfl)
 have g1 := Zpq (Zhm Try.underlying25 (hval 1 25 v1 rfl rfl)) e1
 simp only [Zb, Yc] at g1
 have lt2 : ∀ x ∈ p2, x.block < W.heap.size := by obtain ⟨m, hm⟩ := h2; exact DataW.trod_lt m _ _ _ hm
 obtain ⟨x2, w2, e2⟩ := Zmz Zuy h2 (Zkj hsz (j := 2) rfl rfl)
 have g2 := Zpq (Zhm Try.underlying25 (hval 2 25 v2 rfl rfl)) e2
 simp only [Zb, Yc] at g2
 refine (Zzc (Zdr ((fun x wx y wy z wz => Zq2 (Zxw x wx) (Zxw y wy) (Zxw z wz)) x0 w0 x1 w1 x2 w2)).pure (vs := [v0, v1, v2]) ⟨_, _, rfl, g0, ⟨_, _, rfl, g1, ⟨_, _, rfl, g2, rfl⟩⟩⟩).mono fun e W' ⟨he, bel⟩ => ?_
 subst he
 exact ⟨_, rfl, _, _, _, [], _, [], hW', trodAll_mk1 (shut_bool Try.underlying4 _), (trodAll_cons_mk (Below.trod Zqb (by kernel_rfl) (of_decide_eq_true (by kernel_rfl)) h0 bel lt0) (trodAll_cons_mk (Below.trod Zqb (by kernel_rfl) (of_decide_eq_true (by kernel_rfl)) h1 bel lt1) (trodAll_cons_mk (Below.trod Zqb (by kernel_rfl) (of_decide_eq_true (by kernel_rfl)) h2 bel lt2) trodAll_mk0))), rfl, bel.frame _, fun h => by cases h⟩
theorem proved : Rows.ApplySameSaid :=
 OpenClaim.holds_of_wide 14 Try.f14 rfl rfl rfl rfl rfl rfl rfl ⟨rfl, rfl, rfl, rfl, rfl⟩ rfl rfl rfl rfl rfl (by kernel_rfl) Try.func14 (by kernel_rfl)
  (of_decide_eq_true (by kernel_rfl)) (by unfold Func.isWrapper; first | (rw [if_pos (by decide +kernel)]; kernel_rfl) | (rw [if_neg (by decide +kernel)]; exact ⟨rfl, rfl⟩))
  (fun os started H enc _ => lifted os started H enc)
end Go.Proofs.Ytmpkfolcikhofaa.applySame
