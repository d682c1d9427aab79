/- Called with any arguments, the law InvertBack returns true and leaves them as they were; no other condition. -/
import Derived.Test.YtbcgiaijjaocdaaRows
import Derived.Test.YtbcgiaijjaocdaaVM5
import Derived.Test.YtbcgiaijjaocdaaVP3
import Derived.Test.YtbcgiaijjaocdaaH8
import Derived.WalkKit
import Derived.ProofKit
import Derived.OpenShut
import Derived.ShutString
import Derived.ChangeOld
import Derived.Below
import Derived.SizedLaws
namespace Go.Proofs.Ytbcgiaijjaocdaa.invertBack
open Go.ChangeShapes Go.WideShapes Go.ChangeAt Go.RowKit
open Go.ChangeMaps (open_string shut_string)
set_option linter.unusedVariables false
set_option linter.unusedSimpArgs false
theorem op3 : Zbo Try.prog 3 (eI .i64) (fun x => (Lit.int .i64 x).wf = true) := Qu Try.underlying3
theorem Z8y : Zbo Try.prog 56 (eI .u64) (fun x => (Lit.int .u64 x).wf = true) := Qu Try.underlying56
theorem Z6p : Zbo Try.prog 56 (eI .u64) (fun x : Int => (Lit.int .u64 x).wf = true) := (Qu Try.underlying56)
theorem Z7q : Zbo Try.prog 22 (eL (eI .u64)) (fun xs : (List Int) => xs.length * 8 ≤ 140737488351232 ∧ ∀ x ∈ xs, (fun x : Int => (Lit.int .u64 x).wf = true) x) := by
 have h := Zm2 (P := Try.prog) (t := 22) (sz := 1) Try.underlying22 (by kernel_rfl) (by decide) (fun _ => rfl) Z6p
 have hb : Try.prog.bytesOf 56 = 8 := by kernel_rfl
 rw [hb] at h
 exact h
inductive wf_S_api_Tree : S_api_Tree → Prop
 | mk (x : S_api_Tree) (h0 : (fun x : Int => (Lit.int .i64 x).wf = true) x.Kind) (h1 : (fun xs : (List Int) => xs.length * 8 ≤ 140737488351232 ∧ ∀ x ∈ xs, (fun x : Int => (Lit.int .u64 x).wf = true) x) x.Words) (h2a : x.Kids.length * 56 ≤ 140737488351232) (h2b : ∀ y ∈ x.Kids, wf_S_api_Tree y) : wf_S_api_Tree x
theorem Z13 (n : Nat) (he : ∀ m, m < n → Ke Try.prog 25 Zb wf_S_api_Tree m) : Ke Try.prog 23 (eL Zb) (fun xs : (List S_api_Tree) => xs.length * 56 ≤ 140737488351232 ∧ ∀ x ∈ xs, wf_S_api_Tree x) n := by
 have h := Zf7 (P := Try.prog) (t := 23) (sz := 3) n Try.underlying23 (by kernel_rfl) (by decide) (fun _ => rfl) he
 have hb : Try.prog.bytesOf 25 = 56 := by kernel_rfl
 rw [hb] at h
 exact h
theorem Z6r (n : Nat) : (Ke Try.prog 25 Zb wf_S_api_Tree n) := by
 induction n using Nat.strongRecOn with
 | ind n ih =>
  cases n with
  | zero => exact Zay
  | succ n =>
   have i24 : ∀ q, q < n → Ke Try.prog 25 Zb wf_S_api_Tree q := fun q hq => (ih q (by omega))
   have j24 : Ke Try.prog 25 Zb wf_S_api_Tree n := (ih n (by omega))
   have h := Zbu (P := Try.prog) (t := 25) (g := Zb) (fun p => (⟨p.1, p.2.1, p.2.2.1⟩ : S_api_Tree)) Try.underlying25 (by kernel_rfl) (Yr (k := 1) rfl (by kernel_rfl) ((Qu Try.underlying3) _) (Yr (k := 1) rfl (by kernel_rfl) (Z7q _) (Yr (k := 1) rfl (by kernel_rfl) (Z13 n i24) Zb9))) (fun x => by simp only [Zb, Yn, eI, eB, eS, eL, List.cons_append, List.nil_append, List.append_nil, List.append_assoc])
   intro H enc W base spare held cs d ps h1 h2
   obtain ⟨x, ⟨y, rfl, hy⟩, hr⟩ := h H enc W base spare held cs d ps h1 h2
   obtain ⟨y0, y1, y2, u⟩ := y
   obtain ⟨a0, a1, ⟨a2a, a2b⟩, _⟩ := hy
   exact ⟨_, wf_S_api_Tree.mk ⟨y0, y1, y2⟩ a0 a1 a2a a2b, hr⟩
theorem Zzf : Zbo Try.prog 25 Zb wf_S_api_Tree := fun n => (Z6r n)
theorem Z7r : Zbo Try.prog 23 (eL Zb) (fun xs : (List S_api_Tree) => xs.length * 56 ≤ 140737488351232 ∧ ∀ x ∈ xs, wf_S_api_Tree x) := fun n => Z13 n (fun m _ => Zzf m)
theorem op5 : Zbo Try.prog 5 (eI .u8) (fun x => (Lit.int .u8 x).wf = true) := Qu Try.underlying5
def Qq (x : Zq) : Prop := (fun x : Int => (Lit.int .i64 x).wf = true) x.At ∧ (fun x : Int => (Lit.int .u8 x).wf = true) x.Mask ∧ (fun x : Int => (Lit.int .u64 x).wf = true) x.Old ∧ (fun x : Int => (Lit.int .u64 x).wf = true) x.New
theorem Z8z : Zbo Try.prog 57 Zh Qq := by
 have h := Zlc (P := Try.prog) (t := 57) (g := Zh) (fun p => (⟨p.1, p.2.1, p.2.2.1, p.2.2.2.1⟩ : Zq)) Try.underlying57 (by kernel_rfl) (fun n => (Yr (k := 1) rfl (by kernel_rfl) ((Qu Try.underlying3) _) (Yr (k := 1) rfl (by kernel_rfl) ((Qu Try.underlying5) _) (Yr (k := 1) rfl (by kernel_rfl) ((Qu Try.underlying56) _) (Yr (k := 1) rfl (by kernel_rfl) ((Qu Try.underlying56) _) Zb9))))) (fun x => rfl)
 intro n H enc W base spare held cs d ps h1 h2
 obtain ⟨x, ⟨y, rfl, hy⟩, hr⟩ := h n H enc W base spare held cs d ps h1 h2
 exact ⟨_, by unfold Qq; simp only; exact ⟨hy.1, hy.2.1, hy.2.2.1, hy.2.2.2.1⟩, hr⟩
theorem Z6t : Zbo Try.prog 58 Zh Qq := by
 have h := Zlc (P := Try.prog) (t := 58) (g := Zh) (fun p => (⟨p.1, p.2.1, p.2.2.1, p.2.2.2.1⟩ : Zq)) Try.underlying58 (by kernel_rfl) (fun n => (Yr (k := 1) rfl (by kernel_rfl) ((Qu Try.underlying3) _) (Yr (k := 1) rfl (by kernel_rfl) ((Qu Try.underlying5) _) (Yr (k := 1) rfl (by kernel_rfl) ((Qu Try.underlying56) _) (Yr (k := 1) rfl (by kernel_rfl) ((Qu Try.underlying56) _) Zb9))))) (fun x => rfl)
 intro n H enc W base spare held cs d ps h1 h2
 obtain ⟨x, ⟨y, rfl, hy⟩, hr⟩ := h n H enc W base spare held cs d ps h1 h2
 exact ⟨_, by unfold Qq; simp only; exact ⟨hy.1, hy.2.1, hy.2.2.1, hy.2.2.2.1⟩, hr⟩
theorem Z6q : Zbo Try.prog 58 Zh Qq := Z6t
theorem Z7s : Zbo Try.prog 26 (eL Zh) (fun xs : (List Zq) => xs.length * 32 ≤ 140737488351232 ∧ ∀ x ∈ xs, Qq x) := by
 have h := Zm2 (P := Try.prog) (t := 26) (sz := 4) Try.underlying26 (by kernel_rfl) (by decide) (fun _ => rfl) Z6q
 have hb : Try.prog.bytesOf 58 = 32 := by kernel_rfl
 rw [hb] at h
 exact h
mutual
inductive wf_S_api_Edit : S_api_Edit → Prop
 | mk (x : S_api_Edit) (h0 : (fun x : Int => (Lit.int .i64 x).wf = true) x.Kind) (h1 : wf_S_api_Tree x.Old) (h2 : wf_S_api_Tree x.New) (h3 : (fun xs : (List Zq) => xs.length * 32 ≤ 140737488351232 ∧ ∀ x ∈ xs, Qq x) x.Words) (h4a : x.Kids.length * 208 ≤ 140737488351232) (h4b : ∀ y ∈ x.Kids, wf_S_api_KidEdit y) (h5 : (fun x : Int => (Lit.int .i64 x).wf = true) x.List_) (h6a : x.Ops.length * 240 ≤ 140737488351232) (h6b : ∀ y ∈ x.Ops, wf_S_api_Op y) : wf_S_api_Edit x
inductive wf_S_api_Op : S_api_Op → Prop
 | mk (x : S_api_Op) (h0 : (fun x : Int => (Lit.int .i64 x).wf = true) x.Kind) (h1 : (fun x : Int => (Lit.int .i64 x).wf = true) x.N) (h2 : (fun xs : (List S_api_Tree) => xs.length * 56 ≤ 140737488351232 ∧ ∀ x ∈ xs, wf_S_api_Tree x) x.L) (h3 : wf_S_api_Edit x.E) : wf_S_api_Op x
inductive wf_S_api_KidEdit : S_api_KidEdit → Prop
 | mk (x : S_api_KidEdit) (h0 : (fun x : Int => (Lit.int .i64 x).wf = true) x.At) (h1 : wf_S_api_Edit x.E) : wf_S_api_KidEdit x
end
theorem Z14 (n : Nat) (he : ∀ m, m < n → Ke Try.prog 71 Zk wf_S_api_KidEdit m) : Ke Try.prog 27 (eL Zk) (fun xs : (List S_api_KidEdit) => xs.length * 208 ≤ 140737488351232 ∧ ∀ x ∈ xs, wf_S_api_KidEdit x) n := by
 have h := Zf7 (P := Try.prog) (t := 27) (sz := 12) n Try.underlying27 (by kernel_rfl) (by decide) (fun _ => rfl) he
 have hb : Try.prog.bytesOf 71 = 208 := by kernel_rfl
 rw [hb] at h
 exact h
theorem Z15 (n : Nat) (he : ∀ m, m < n → Ke Try.prog 69 Zf wf_S_api_Op m) : Ke Try.prog 28 (eL Zf) (fun xs : (List S_api_Op) => xs.length * 240 ≤ 140737488351232 ∧ ∀ x ∈ xs, wf_S_api_Op x) n := by
 have h := Zf7 (P := Try.prog) (t := 28) (sz := 14) n Try.underlying28 (by kernel_rfl) (by decide) (fun _ => rfl) he
 have hb : Try.prog.bytesOf 69 = 240 := by kernel_rfl
 rw [hb] at h
 exact h
theorem Z10 (n : Nat) : (Ke Try.prog 30 X4 wf_S_api_Edit n ∧ Ke Try.prog 69 Zf wf_S_api_Op n ∧ Ke Try.prog 71 Zk wf_S_api_KidEdit n) := by
 induction n using Nat.strongRecOn with
 | ind n ih =>
  cases n with
  | zero => exact ⟨Zay, Zay, Zay⟩
  | succ n =>
   have i29 : ∀ q, q < n → Ke Try.prog 30 X4 wf_S_api_Edit q := fun q hq => (ih q (by omega)).1
   have j29 : Ke Try.prog 30 X4 wf_S_api_Edit n := (ih n (by omega)).1
   have i68 : ∀ q, q < n → Ke Try.prog 69 Zf wf_S_api_Op q := fun q hq => (ih q (by omega)).2.1
   have j68 : Ke Try.prog 69 Zf wf_S_api_Op n := (ih n (by omega)).2.1
   have i70 : ∀ q, q < n → Ke Try.prog 71 Zk wf_S_api_KidEdit q := fun q hq => (ih q (by omega)).2.2
   have j70 : Ke Try.prog 71 Zk wf_S_api_KidEdit n := (ih n (by omega)).2.2
   refine ⟨?_, ?_, ?_⟩
   ·have h := Zbu (P := Try.prog) (t := 30) (g := X4) (fun p => (⟨p.1, p.2.1, p.2.2.1, p.2.2.2.1, p.2.2.2.2.1, p.2.2.2.2.2.1, p.2.2.2.2.2.2.1⟩ : S_api_Edit)) Try.underlying30 (by kernel_rfl) (Yr (k := 1) rfl (by kernel_rfl) ((Qu Try.underlying3) _) (Yr (k := 3) rfl (by kernel_rfl) (Zzf _) (Yr (k := 3) rfl (by kernel_rfl) (Zzf _) (Yr (k := 1) rfl (by kernel_rfl) (Z7s _) (Yr (k := 1) rfl (by kernel_rfl) (Z14 n i70) (Yr (k := 1) rfl (by kernel_rfl) ((Qu Try.underlying3) _) (Yr (k := 1) rfl (by kernel_rfl) (Z15 n i68) Zb9))))))) (fun x => by simp only [X4, Xl, Zb, Yn, Zh, Zk, Y1, Zf, Xv, eI, eB, eS, eL, List.cons_append, List.nil_append, List.append_nil, List.append_assoc])
    intro H enc W base spare held cs d ps h1 h2
    obtain ⟨x, ⟨y, rfl, hy⟩, hr⟩ := h H enc W base spare held cs d ps h1 h2
    obtain ⟨y0, y1, y2, y3, y4, y5, y6, u⟩ := y
    obtain ⟨a0, a1, a2, a3, ⟨a4a, a4b⟩, a5, ⟨a6a, a6b⟩, _⟩ := hy
    exact ⟨_, wf_S_api_Edit.mk ⟨y0, y1, y2, y3, y4, y5, y6⟩ a0 a1 a2 a3 a4a a4b a5 a6a a6b, hr⟩
   ·have h := Zbu (P := Try.prog) (t := 69) (g := Zf) (fun p => (⟨p.1, p.2.1, p.2.2.1, p.2.2.2.1⟩ : S_api_Op)) Try.underlying69 (by kernel_rfl) (Yr (k := 1) rfl (by kernel_rfl) ((Qu Try.underlying3) _) (Yr (k := 1) rfl (by kernel_rfl) ((Qu Try.underlying3) _) (Yr (k := 1) rfl (by kernel_rfl) (Z7r _) (Yr (k := 11) rfl (by kernel_rfl) j29 Zb9)))) (fun x => by simp only [Zf, Xv, Zb, Yn, X4, Xl, Zh, Zk, Y1, eI, eB, eS, eL, List.cons_append, List.nil_append, List.append_nil, List.append_assoc])
    intro H enc W base spare held cs d ps h1 h2
    obtain ⟨x, ⟨y, rfl, hy⟩, hr⟩ := h H enc W base spare held cs d ps h1 h2
    obtain ⟨y0, y1, y2, y3, u⟩ := y
    obtain ⟨a0, a1, a2, a3, _⟩ := hy
    exact ⟨_, wf_S_api_Op.mk ⟨y0, y1, y2, y3⟩ a0 a1 a2 a3, hr⟩
   have h := Zbu (P := Try.prog) (t := 71) (g := Zk) (fun p => (⟨p.1, p.2.1⟩ : S_api_KidEdit)) Try.underlying71 (by kernel_rfl) (Yr (k := 1) rfl (by kernel_rfl) ((Qu Try.underlying3) _) (Yr (k := 11) rfl (by kernel_rfl) j29 Zb9)) (fun x => by simp only [Zk, Y1, X4, Xl, Zb, Yn, Zh, Zf, Xv, eI, eB, eS, eL, List.cons_append, List.nil_append, List.append_nil, List.append_assoc])
   intro H enc W base spare held cs d ps h1 h2
   obtain ⟨x, ⟨y, rfl, hy⟩, hr⟩ := h H enc W base spare held cs d ps h1 h2
   obtain ⟨y0, y1, u⟩ := y
   obtain ⟨a0, a1, _⟩ := hy
   exact ⟨_, wf_S_api_KidEdit.mk ⟨y0, y1⟩ a0 a1, hr⟩
theorem Z6s : Zbo Try.prog 30 X4 wf_S_api_Edit := fun n => (Z10 n).1
theorem Z6u : Zbo Try.prog 69 Zf wf_S_api_Op := fun n => (Z10 n).2.1
theorem Z6v : Zbo Try.prog 71 Zk wf_S_api_KidEdit := fun n => (Z10 n).2.2
theorem Z8w : Zbo Try.prog 27 (eL Zk) (fun xs : (List S_api_KidEdit) => xs.length * 208 ≤ 140737488351232 ∧ ∀ x ∈ xs, wf_S_api_KidEdit x) := fun n => Z14 n (fun m _ => Z6v m)
theorem Z8x : Zbo Try.prog 28 (eL Zf) (fun xs : (List S_api_Op) => xs.length * 240 ≤ 140737488351232 ∧ ∀ x ∈ xs, wf_S_api_Op x) := fun n => Z15 n (fun m _ => Z6u m)
theorem Zzq (t : S_api_Tree) (h : wf_S_api_Tree t) : Bd t := by
 induction h with
 | mk x h0 h1 h2a h2b ih =>
  refine .mk _ (by have := h1.1; omega) (by omega) (fun w hw => ?_) ih
  have := h1.2 w hw
  simp [Lit.wf, IntKind.min, IntKind.max, IntKind.signed, IntKind.bits] at this
  omega
theorem Z41 {w : Zq} (h : Qq w) : (0 ≤ w.Mask ∧ w.Mask < 256) ∧ (0 ≤ w.Old ∧ w.Old < 18446744073709551616) ∧ (0 ≤ w.New ∧ w.New < 18446744073709551616) := by
 obtain ⟨_, h1, h2, h3⟩ := h
 simp [Lit.wf, IntKind.min, IntKind.max, IntKind.signed, IntKind.bits] at h1 h2 h3
 omega
theorem Z7n (e : S_api_Edit) (h : wf_S_api_Edit e) : BE e :=
 wf_S_api_Edit.rec (motive_1 := fun e _ => BE e) (motive_2 := fun o _ => BO o) (motive_3 := fun k _ => BE k.E)
  (fun x h0 h1 h2 h3 h4a h4b h5 h6a h6b i4 i6 => .mk _ (Zzq _ h1) (Zzq _ h2) (by have := h3.1; omega) (fun w hw => Z41 (h3.2 w hw)) (by omega) i4 (by omega) (fun o ho => (i6 o ho).1) (fun o ho => (i6 o ho).2))
  (fun x h0 h1 h2 h3 i3 => ⟨⟨by have := h2.1; omega, fun t ht => Zzq t (h2.2 t ht)⟩, i3⟩)
  (fun x h0 h1 i1 => i1) h
theorem own : ownKnob Try.prog.godebug = none := by kernel_rfl
theorem Zy3 : laidOutB Try.prog = true := by kernel_rfl
set_option maxRecDepth 100000 in
theorem lifted (os : Os) (started : os.Started) (H : Type) (enc : TypeId × Value → H) :
  ReturnsInHanded {} Try.checked os 7 .any (Rows.invertBackSpec.pre6 enc Try.prog Try.f7 Rows.invertBackRow.domain false) (Rows.invertBackSpec.post enc Try.prog Try.f7 false true false false) := by
 refine returnsInHanded_of_change_sized (C := Try.checked) own started (by kernel_rfl) Try.func7
  (ChangeSpec.witness6 (enc := enc) (C := Try.checked) false ⟨#[], #[.agg #[.int .i64 0, .int .i64 0, .slice none 0 0, .slice none 0 0, .int .i64 0, .slice none 0 0, .slice none 0 0, .slice none 0 0, .slice none 0 0, .int .i64 0, .slice none 0 0], .agg #[.int .i64 0, .slice none 0 0, .slice none 0 0]], []⟩ 12 (by kernel_rfl) (by kernel_rfl) (by kernel_rfl) (by kernel_rfl)) ?_
 intro W base args ds gs before hval0 hW hcnd hsz0 _
 have hval : ∀ (j : Nat) t v, Try.f7.params[j]? = some t → args[j]? = some v → Value.okWide Try.prog W .any base t v := hval0
 have hW' := hW
 obtain ⟨p, q, hA0, hV, rfl, hfz, hnd⟩ := hW
 have hA : DataW.TrodAll enc Try.prog W 0 (fun _ => true) true Try.f7.params.toList args.toList ds p := hA0
 rw [Try.params7] at hA hval
 obtain ⟨v0, vs0, d0, ds0, p0, q0, hargs, rfl, rfl, h0, r0⟩ := trodAll_cons hA
 obtain ⟨v1, vs1, d1, ds1, p1, q1, rfl, rfl, rfl, h1, r1⟩ := trodAll_cons r0
 obtain ⟨rfl, rfl, rfl⟩ := trodAll_nil r1
 obtain rfl : args = #[v0, v1] := by cases args; simp_all
 obtain ⟨rfl, rfl⟩ := trodVars_none hV
 clear hA0 hval0
 have hsz : (DataW.weightsEach Try.prog (Try.f7.params.toList ++ Rows.invertBackSpec.plain.varTypes Try.prog) _).all (· ≤ reachBytes) = true := hsz0
 clear hsz0
 rw [Try.params7] at hsz
 have lt0 : ∀ x ∈ p0, x.block < W.heap.size := by obtain ⟨m, hm⟩ := h0; exact DataW.trod_lt m _ _ _ hm
 obtain ⟨x0, w0, e0⟩ := Zvo Z6s h0 (Zq4 hsz (j := 0) rfl rfl)
 have g0 := Zyp (Zn2 Try.underlying30 (hval 0 30 v0 rfl rfl)) e0
 simp only [X4, Xl, Zb, Yn, Zh, Zk, Y1, Zf, Xv] at g0
 have lt1 : ∀ x ∈ p1, x.block < W.heap.size := by obtain ⟨m, hm⟩ := h1; exact DataW.trod_lt m _ _ _ hm
 obtain ⟨x1, w1, e1⟩ := Zvo Zzf h1 (Zq4 hsz (j := 1) rfl rfl)
 have g1 := Zyp (Zn2 Try.underlying25 (hval 1 25 v1 rfl rfl)) e1
 simp only [Zb, Yn] at g1
 refine (Z5t (Zf4 ((fun x wx y wy => Zsq (Z7n x wx) (Zzq y wy)) x0 w0 x1 w1)).pure (vs := [v0, v1]) ⟨_, _, rfl, g0, ⟨_, _, rfl, g1, rfl⟩⟩).mono fun e W' ⟨he, bel⟩ => ?_
 subst he
 exact ⟨_, rfl, _, _, _, [], _, [], hW', trodAll_mk1 (shut_bool Try.underlying4 _), (trodAll_cons_mk (Below.trod Zy3 (by kernel_rfl) (of_decide_eq_true (by kernel_rfl)) h0 bel lt0) (trodAll_cons_mk (Below.trod Zy3 (by kernel_rfl) (of_decide_eq_true (by kernel_rfl)) h1 bel lt1) trodAll_mk0)), rfl, bel.frame _, fun h => by cases h⟩
theorem proved : Rows.InvertBackSaid :=
 OpenClaim.holds_of_wide 7 Try.f7 rfl rfl rfl rfl rfl rfl rfl ⟨rfl, rfl, rfl, rfl, rfl⟩ rfl rfl rfl rfl rfl (by kernel_rfl) Try.func7 (by kernel_rfl)
  (of_decide_eq_true (by kernel_rfl)) (by unfold Func.isWrapper; first | (rw [if_pos (by decide +kernel)]; kernel_rfl) | (rw [if_neg (by decide +kernel)]; exact ⟨rfl, rfl⟩))
  (fun os started H enc _ => lifted os started H enc)
end Go.Proofs.Ytbcgiaijjaocdaa.invertBack
