/- Called with any arguments, the law ApplyApart returns true and leaves them as they were; no other condition. -/
import Derived.Test.YtmpkfolcikhofaaRows
import Derived.Test.YtmpkfolcikhofaaSM5
import Derived.Test.YtmpkfolcikhofaaSP3
import Derived.Test.YtmpkfolcikhofaaH8
import Derived.WalkKit
import Derived.ProofKit
import Derived.OpenShut
import Derived.ShutString
import Derived.ChangeOld
import Derived.Below
import Derived.SizedLaws
namespace Go.Proofs.Ytmpkfolcikhofaa.applyApart
open Go.ChangeShapes Go.WideShapes Go.ChangeAt Go.RowKit
open Go.ChangeMaps (open_string shut_string)
set_option linter.unusedVariables false
set_option linter.unusedSimpArgs false
theorem op3 : Zaf Try.prog 3 (eI .i64) (fun x => (Lit.int .i64 x).wf = true) := Qc Try.underlying3
theorem Z5u : Zaf Try.prog 71 (eI .u64) (fun x => (Lit.int .u64 x).wf = true) := Qc Try.underlying71
theorem Z3k : Zaf Try.prog 71 (eI .u64) (fun x : Int => (Lit.int .u64 x).wf = true) := (Qc Try.underlying71)
theorem Z4m : Zaf Try.prog 22 (eL (eI .u64)) (fun xs : (List Int) => xs.length * 8 ≤ 140737488351232 ∧ ∀ x ∈ xs, (fun x : Int => (Lit.int .u64 x).wf = true) x) := by
 have h := Znz (P := Try.prog) (t := 22) (sz := 1) Try.underlying22 (by kernel_rfl) (by decide) (fun _ => rfl) Z3k
 have hb : Try.prog.bytesOf 71 = 8 := by kernel_rfl
 rw [hb] at h
 exact h
inductive wf_S_api_Tree : S_api_Tree → Prop
 | mk (x : S_api_Tree) (h0 : (fun x : Int => (Lit.int .i64 x).wf = true) x.Kind) (h1 : (fun xs : (List Int) => xs.length * 8 ≤ 140737488351232 ∧ ∀ x ∈ xs, (fun x : Int => (Lit.int .u64 x).wf = true) x) x.Words) (h2a : x.Kids.length * 56 ≤ 140737488351232) (h2b : ∀ y ∈ x.Kids, wf_S_api_Tree y) : wf_S_api_Tree x
theorem Z0c (n : Nat) (he : ∀ m, m < n → Jk Try.prog 25 Zb wf_S_api_Tree m) : Jk Try.prog 23 (eL Zb) (fun xs : (List S_api_Tree) => xs.length * 56 ≤ 140737488351232 ∧ ∀ x ∈ xs, wf_S_api_Tree x) n := by
 have h := Ze9 (P := Try.prog) (t := 23) (sz := 3) n Try.underlying23 (by kernel_rfl) (by decide) (fun _ => rfl) he
 have hb : Try.prog.bytesOf 25 = 56 := by kernel_rfl
 rw [hb] at h
 exact h
theorem Z3m (n : Nat) : (Jk Try.prog 25 Zb wf_S_api_Tree n) := by
 induction n using Nat.strongRecOn with
 | ind n ih =>
  cases n with
  | zero => exact Gs
  | succ n =>
   have i24 : ∀ q, q < n → Jk Try.prog 25 Zb wf_S_api_Tree q := fun q hq => (ih q (by omega))
   have j24 : Jk Try.prog 25 Zb wf_S_api_Tree n := (ih n (by omega))
   have h := Zal (P := Try.prog) (t := 25) (g := Zb) (fun p => (⟨p.1, p.2.1, p.2.2.1⟩ : S_api_Tree)) Try.underlying25 (by kernel_rfl) (Yf (k := 1) rfl (by kernel_rfl) ((Qc Try.underlying3) _) (Yf (k := 1) rfl (by kernel_rfl) (Z4m _) (Yf (k := 1) rfl (by kernel_rfl) (Z0c n i24) Zay))) (fun x => by simp only [Zb, Ya, eI, eB, eS, eL, List.cons_append, List.nil_append, List.append_nil, List.append_assoc])
   intro H enc W base spare held cs d ps h1 h2
   obtain ⟨x, ⟨y, rfl, hy⟩, hr⟩ := h H enc W base spare held cs d ps h1 h2
   obtain ⟨y0, y1, y2, u⟩ := y
   obtain ⟨a0, a1, ⟨a2a, a2b⟩, _⟩ := hy
   exact ⟨_, wf_S_api_Tree.mk ⟨y0, y1, y2⟩ a0 a1 a2a a2b, hr⟩
theorem Zuq : Zaf Try.prog 25 Zb wf_S_api_Tree := fun n => (Z3m n)
theorem Z4n : Zaf Try.prog 23 (eL Zb) (fun xs : (List S_api_Tree) => xs.length * 56 ≤ 140737488351232 ∧ ∀ x ∈ xs, wf_S_api_Tree x) := fun n => Z0c n (fun m _ => Zuq m)
theorem op5 : Zaf Try.prog 5 (eI .u8) (fun x => (Lit.int .u8 x).wf = true) := Qc Try.underlying5
def X8 (x : Zo) : Prop := (fun x : Int => (Lit.int .i64 x).wf = true) x.At ∧ (fun x : Int => (Lit.int .u8 x).wf = true) x.Mask ∧ (fun x : Int => (Lit.int .u64 x).wf = true) x.Old ∧ (fun x : Int => (Lit.int .u64 x).wf = true) x.New
theorem Z5v : Zaf Try.prog 90 Zm X8 := by
 have h := Zld (P := Try.prog) (t := 90) (g := Zm) (fun p => (⟨p.1, p.2.1, p.2.2.1, p.2.2.2.1⟩ : Zo)) Try.underlying90 (by kernel_rfl) (fun n => (Yf (k := 1) rfl (by kernel_rfl) ((Qc Try.underlying3) _) (Yf (k := 1) rfl (by kernel_rfl) ((Qc Try.underlying5) _) (Yf (k := 1) rfl (by kernel_rfl) ((Qc Try.underlying71) _) (Yf (k := 1) rfl (by kernel_rfl) ((Qc Try.underlying71) _) Zay))))) (fun x => rfl)
 intro n H enc W base spare held cs d ps h1 h2
 obtain ⟨x, ⟨y, rfl, hy⟩, hr⟩ := h n H enc W base spare held cs d ps h1 h2
 exact ⟨_, by unfold X8; simp only; exact ⟨hy.1, hy.2.1, hy.2.2.1, hy.2.2.2.1⟩, hr⟩
theorem Z3q : Zaf Try.prog 91 Zm X8 := by
 have h := Zld (P := Try.prog) (t := 91) (g := Zm) (fun p => (⟨p.1, p.2.1, p.2.2.1, p.2.2.2.1⟩ : Zo)) Try.underlying91 (by kernel_rfl) (fun n => (Yf (k := 1) rfl (by kernel_rfl) ((Qc Try.underlying3) _) (Yf (k := 1) rfl (by kernel_rfl) ((Qc Try.underlying5) _) (Yf (k := 1) rfl (by kernel_rfl) ((Qc Try.underlying71) _) (Yf (k := 1) rfl (by kernel_rfl) ((Qc Try.underlying71) _) Zay))))) (fun x => rfl)
 intro n H enc W base spare held cs d ps h1 h2
 obtain ⟨x, ⟨y, rfl, hy⟩, hr⟩ := h n H enc W base spare held cs d ps h1 h2
 exact ⟨_, by unfold X8; simp only; exact ⟨hy.1, hy.2.1, hy.2.2.1, hy.2.2.2.1⟩, hr⟩
theorem Z3l : Zaf Try.prog 91 Zm X8 := Z3q
theorem Z4o : Zaf Try.prog 50 (eL Zm) (fun xs : (List Zo) => xs.length * 32 ≤ 140737488351232 ∧ ∀ x ∈ xs, X8 x) := by
 have h := Znz (P := Try.prog) (t := 50) (sz := 4) Try.underlying50 (by kernel_rfl) (by decide) (fun _ => rfl) Z3l
 have hb : Try.prog.bytesOf 91 = 32 := by kernel_rfl
 rw [hb] at h
 exact h
mutual
inductive wf_S_api_Edit : S_api_Edit → Prop
 | mk (x : S_api_Edit) (h0 : (fun x : Int => (Lit.int .i64 x).wf = true) x.Kind) (h1 : wf_S_api_Tree x.Old) (h2 : wf_S_api_Tree x.New) (h3 : (fun xs : (List Zo) => xs.length * 32 ≤ 140737488351232 ∧ ∀ x ∈ xs, X8 x) x.Words) (h4a : x.Kids.length * 208 ≤ 140737488351232) (h4b : ∀ y ∈ x.Kids, wf_S_api_KidEdit y) (h5 : (fun x : Int => (Lit.int .i64 x).wf = true) x.List_) (h6a : x.Ops.length * 240 ≤ 140737488351232) (h6b : ∀ y ∈ x.Ops, wf_S_api_Op y) : wf_S_api_Edit x
inductive wf_S_api_KidEdit : S_api_KidEdit → Prop
 | mk (x : S_api_KidEdit) (h0 : (fun x : Int => (Lit.int .i64 x).wf = true) x.At) (h1 : wf_S_api_Edit x.E) : wf_S_api_KidEdit x
inductive wf_S_api_Op : S_api_Op → Prop
 | mk (x : S_api_Op) (h0 : (fun x : Int => (Lit.int .i64 x).wf = true) x.Kind) (h1 : (fun x : Int => (Lit.int .i64 x).wf = true) x.N) (h2 : (fun xs : (List S_api_Tree) => xs.length * 56 ≤ 140737488351232 ∧ ∀ x ∈ xs, wf_S_api_Tree x) x.L) (h3 : wf_S_api_Edit x.E) : wf_S_api_Op x
end
theorem Z0d (n : Nat) (he : ∀ m, m < n → Jk Try.prog 62 Zp wf_S_api_KidEdit m) : Jk Try.prog 51 (eL Zp) (fun xs : (List S_api_KidEdit) => xs.length * 208 ≤ 140737488351232 ∧ ∀ x ∈ xs, wf_S_api_KidEdit x) n := by
 have h := Ze9 (P := Try.prog) (t := 51) (sz := 12) n Try.underlying51 (by kernel_rfl) (by decide) (fun _ => rfl) he
 have hb : Try.prog.bytesOf 62 = 208 := by kernel_rfl
 rw [hb] at h
 exact h
theorem Z0e (n : Nat) (he : ∀ m, m < n → Jk Try.prog 64 Zt wf_S_api_Op m) : Jk Try.prog 52 (eL Zt) (fun xs : (List S_api_Op) => xs.length * 240 ≤ 140737488351232 ∧ ∀ x ∈ xs, wf_S_api_Op x) n := by
 have h := Ze9 (P := Try.prog) (t := 52) (sz := 14) n Try.underlying52 (by kernel_rfl) (by decide) (fun _ => rfl) he
 have hb : Try.prog.bytesOf 64 = 240 := by kernel_rfl
 rw [hb] at h
 exact h
theorem Z0b (n : Nat) : (Jk Try.prog 54 Yz wf_S_api_Edit n ∧ Jk Try.prog 62 Zp wf_S_api_KidEdit n ∧ Jk Try.prog 64 Zt wf_S_api_Op n) := by
 induction n using Nat.strongRecOn with
 | ind n ih =>
  cases n with
  | zero => exact ⟨Gs, Gs, Gs⟩
  | succ n =>
   have i53 : ∀ q, q < n → Jk Try.prog 54 Yz wf_S_api_Edit q := fun q hq => (ih q (by omega)).1
   have j53 : Jk Try.prog 54 Yz wf_S_api_Edit n := (ih n (by omega)).1
   have i61 : ∀ q, q < n → Jk Try.prog 62 Zp wf_S_api_KidEdit q := fun q hq => (ih q (by omega)).2.1
   have j61 : Jk Try.prog 62 Zp wf_S_api_KidEdit n := (ih n (by omega)).2.1
   have i63 : ∀ q, q < n → Jk Try.prog 64 Zt wf_S_api_Op q := fun q hq => (ih q (by omega)).2.2
   have j63 : Jk Try.prog 64 Zt wf_S_api_Op n := (ih n (by omega)).2.2
   refine ⟨?_, ?_, ?_⟩
   ·have h := Zal (P := Try.prog) (t := 54) (g := Yz) (fun p => (⟨p.1, p.2.1, p.2.2.1, p.2.2.2.1, p.2.2.2.2.1, p.2.2.2.2.2.1, p.2.2.2.2.2.2.1⟩ : S_api_Edit)) Try.underlying54 (by kernel_rfl) (Yf (k := 1) rfl (by kernel_rfl) ((Qc Try.underlying3) _) (Yf (k := 3) rfl (by kernel_rfl) (Zuq _) (Yf (k := 3) rfl (by kernel_rfl) (Zuq _) (Yf (k := 1) rfl (by kernel_rfl) (Z4o _) (Yf (k := 1) rfl (by kernel_rfl) (Z0d n i61) (Yf (k := 1) rfl (by kernel_rfl) ((Qc Try.underlying3) _) (Yf (k := 1) rfl (by kernel_rfl) (Z0e n i63) Zay))))))) (fun x => by simp only [Yz, Yv, Zb, Ya, Zm, Zp, Yj, Zt, Y5, eI, eB, eS, eL, List.cons_append, List.nil_append, List.append_nil, List.append_assoc])
    intro H enc W base spare held cs d ps h1 h2
    obtain ⟨x, ⟨y, rfl, hy⟩, hr⟩ := h H enc W base spare held cs d ps h1 h2
    obtain ⟨y0, y1, y2, y3, y4, y5, y6, u⟩ := y
    obtain ⟨a0, a1, a2, a3, ⟨a4a, a4b⟩, a5, ⟨a6a, a6b⟩, _⟩ := hy
    exact ⟨_, wf_S_api_Edit.mk ⟨y0, y1, y2, y3, y4, y5, y6⟩ a0 a1 a2 a3 a4a a4b a5 a6a a6b, hr⟩
   ·have h := Zal (P := Try.prog) (t := 62) (g := Zp) (fun p => (⟨p.1, p.2.1⟩ : S_api_KidEdit)) Try.underlying62 (by kernel_rfl) (Yf (k := 1) rfl (by kernel_rfl) ((Qc Try.underlying3) _) (Yf (k := 11) rfl (by kernel_rfl) j53 Zay)) (fun x => by simp only [Zp, Yj, Yz, Yv, Zb, Ya, Zm, Zt, Y5, eI, eB, eS, eL, List.cons_append, List.nil_append, List.append_nil, List.append_assoc])
    intro H enc W base spare held cs d ps h1 h2
    obtain ⟨x, ⟨y, rfl, hy⟩, hr⟩ := h H enc W base spare held cs d ps h1 h2
    obtain ⟨y0, y1, u⟩ := y
    obtain ⟨a0, a1, _⟩ := hy
    exact ⟨_, wf_S_api_KidEdit.mk ⟨y0, y1⟩ a0 a1, hr⟩
   have h := Zal (P := Try.prog) (t := 64) (g := Zt) (fun p => (⟨p.1, p.2.1, p.2.2.1, p.2.2.2.1⟩ : S_api_Op)) Try.underlying64 (by kernel_rfl) (Yf (k := 1) rfl (by kernel_rfl) ((Qc Try.underlying3) _) (Yf (k := 1) rfl (by kernel_rfl) ((Qc Try.underlying3) _) (Yf (k := 1) rfl (by kernel_rfl) (Z4n _) (Yf (k := 11) rfl (by kernel_rfl) j53 Zay)))) (fun x => by simp only [Zt, Y5, Zb, Ya, Yz, Yv, Zm, Zp, Yj, eI, eB, eS, eL, List.cons_append, List.nil_append, List.append_nil, List.append_assoc])
   intro H enc W base spare held cs d ps h1 h2
   obtain ⟨x, ⟨y, rfl, hy⟩, hr⟩ := h H enc W base spare held cs d ps h1 h2
   obtain ⟨y0, y1, y2, y3, u⟩ := y
   obtain ⟨a0, a1, a2, a3, _⟩ := hy
   exact ⟨_, wf_S_api_Op.mk ⟨y0, y1, y2, y3⟩ a0 a1 a2 a3, hr⟩
theorem Z3n : Zaf Try.prog 54 Yz wf_S_api_Edit := fun n => (Z0b n).1
theorem Z3o : Zaf Try.prog 62 Zp wf_S_api_KidEdit := fun n => (Z0b n).2.1
theorem Z3p : Zaf Try.prog 64 Zt wf_S_api_Op := fun n => (Z0b n).2.2
theorem Z5s : Zaf Try.prog 51 (eL Zp) (fun xs : (List S_api_KidEdit) => xs.length * 208 ≤ 140737488351232 ∧ ∀ x ∈ xs, wf_S_api_KidEdit x) := fun n => Z0d n (fun m _ => Z3o m)
theorem Z5t : Zaf Try.prog 52 (eL Zt) (fun xs : (List S_api_Op) => xs.length * 240 ≤ 140737488351232 ∧ ∀ x ∈ xs, wf_S_api_Op x) := fun n => Z0e n (fun m _ => Z3p m)
theorem Zv4 (t : S_api_Tree) (h : wf_S_api_Tree t) : Bd t := by
 induction h with
 | mk x h0 h1 h2a h2b ih =>
  refine .mk _ (by have := h1.1; omega) (by omega) (fun w hw => ?_) ih
  have := h1.2 w hw
  simp [Lit.wf, IntKind.min, IntKind.max, IntKind.signed, IntKind.bits] at this
  omega
theorem Z19 {w : Zo} (h : X8 w) : (0 ≤ w.Mask ∧ w.Mask < 256) ∧ (0 ≤ w.Old ∧ w.Old < 18446744073709551616) ∧ (0 ≤ w.New ∧ w.New < 18446744073709551616) := by
 obtain ⟨_, h1, h2, h3⟩ := h
 simp [Lit.wf, IntKind.min, IntKind.max, IntKind.signed, IntKind.bits] at h1 h2 h3
 omega
theorem Z4j (e : S_api_Edit) (h : wf_S_api_Edit e) : BE e :=
 wf_S_api_Edit.rec (motive_1 := fun e _ => BE e) (motive_2 := fun k _ => BE k.E) (motive_3 := fun o _ => BO o)
  (fun x h0 h1 h2 h3 h4a h4b h5 h6a h6b i4 i6 => .mk _ (Zv4 _ h1) (Zv4 _ h2) (by have := h3.1; omega) (fun w hw => Z19 (h3.2 w hw)) (by omega) i4 (by omega) (fun o ho => (i6 o ho).1) (fun o ho => (i6 o ho).2))
  (fun x h0 h1 i1 => i1)
  (fun x h0 h1 h2 h3 i3 => ⟨⟨by have := h2.1; omega, fun t ht => Zv4 t (h2.2 t ht)⟩, i3⟩) h
theorem own : ownKnob Try.prog.godebug = none := by kernel_rfl
theorem Zs8 : laidOutB Try.prog = true := by kernel_rfl
set_option maxRecDepth 100000 in
theorem lifted (os : Os) (started : os.Started) (H : Type) (enc : TypeId × Value → H) :
  ReturnsInHanded {} Try.checked os 13 .any (Rows.applyApartSpec.pre6 enc Try.prog Try.f13 Rows.applyApartRow.domain false) (Rows.applyApartSpec.post enc Try.prog Try.f13 false true false false) := by
 refine returnsInHanded_of_change_sized (C := Try.checked) own started (by kernel_rfl) Try.func13
  (ChangeSpec.witness6 (enc := enc) (C := Try.checked) false ⟨#[], #[.agg #[.int .i64 0, .int .i64 0, .slice none 0 0, .slice none 0 0, .int .i64 0, .slice none 0 0, .slice none 0 0, .slice none 0 0, .slice none 0 0, .int .i64 0, .slice none 0 0], .agg #[.int .i64 0, .slice none 0 0, .slice none 0 0], .agg #[.int .i64 0, .slice none 0 0, .slice none 0 0]], []⟩ 12 (by kernel_rfl) (by kernel_rfl) (by kernel_rfl) (by kernel_rfl)) ?_
 intro W base args ds gs before hval0 hW hcnd hsz0 _
 have hval : ∀ (j : Nat) t v, Try.f13.params[j]? = some t → args[j]? = some v → Value.okWide Try.prog W .any base t v := hval0
 have hW' := hW
 obtain ⟨p, q, hA0, hV, rfl, hfz, hnd⟩ := hW
 have hA : DataW.TrodAll enc Try.prog W 0 (fun _ => true) true Try.f13.params.toList args.toList ds p := hA0
 rw [Try.params13] at hA hval
 obtain ⟨v0, vs0, d0, ds0, p0, q0, hargs, rfl, rfl, h0, r0⟩ := trodAll_cons hA
 obtain ⟨v1, vs1, d1, ds1, p1, q1, rfl, rfl, rfl, h1, r1⟩ := trodAll_cons r0
 obtain ⟨v2, vs2, d2, ds2, p2, q2, rfl, rfl, rfl, h2, r2⟩ := trodAll_cons r1
 obtain ⟨rfl, rfl, rfl⟩ := trodAll_nil r2
 obtain rfl : args = #[v0, v1, v2] := by cases args; simp_all
 obtain ⟨rfl, rfl⟩ := trodVars_none hV
 clear hA0 hval0
 have hsz : (DataW.weightsEach Try.prog (Try.f13.params.toList ++ Rows.applyApartSpec.plain.varTypes Try.prog) _).all (· ≤ reachBytes) = true := hsz0
 clear hsz0
 rw [Try.params13] at hsz
 have lt0 : ∀ x ∈ p0, x.block < W.heap.size := by obtain ⟨m, hm⟩ := h0; exact DataW.trod_lt m _ _ _ hm
 obtain ⟨x0, w0, e0⟩ := Zps Z3n h0 (Zm2 hsz (j := 0) rfl rfl)
 have g0 := Zsn (Zjx Try.underlying54 (hval 0 54 v0 rfl rfl)) e0
 simp only [Yz, Yv, Zb, Ya, Zm, Zp, Yj, Zt, Y5] at g0
 have lt1 : ∀ x ∈ p1, x.block < W.heap.size := by obtain ⟨m, hm⟩ := h1; exact DataW.trod_lt m _ _ _ hm
 obtain ⟨x1, w1, e1⟩ := Zps Zuq h1 (Zm2 hsz (j := 1) rfl rfl)
 have g1 := Zsn (Zjx Try.underlying25 (hval 1 25 v1 rfl rfl)) e1
 simp only [Zb, Ya] at g1
 have lt2 : ∀ x ∈ p2, x.block < W.heap.size := by obtain ⟨m, hm⟩ := h2; exact DataW.trod_lt m _ _ _ hm
 obtain ⟨x2, w2, e2⟩ := Zps Zuq h2 (Zm2 hsz (j := 2) rfl rfl)
 have g2 := Zsn (Zjx Try.underlying25 (hval 2 25 v2 rfl rfl)) e2
 simp only [Zb, Ya] at g2
 refine (Z2v (Ze7 ((fun x wx y wy z wz => Zsm (Z4j x wx) (Zv4 y wy) (Zv4 z wz)) x0 w0 x1 w1 x2 w2)).pure (vs := [v0, v1, v2]) ⟨_, _, rfl, g0, ⟨_, _, rfl, g1, ⟨_, _, rfl, g2, rfl⟩⟩⟩).mono fun e W' ⟨he, bel⟩ => ?_
 subst he
 exact ⟨_, rfl, _, _, _, [], _, [], hW', trodAll_mk1 (shut_bool Try.underlying4 _), (trodAll_cons_mk (Below.trod Zs8 (by kernel_rfl) (of_decide_eq_true (by kernel_rfl)) h0 bel lt0) (trodAll_cons_mk (Below.trod Zs8 (by kernel_rfl) (of_decide_eq_true (by kernel_rfl)) h1 bel lt1) (trodAll_cons_mk (Below.trod Zs8 (by kernel_rfl) (of_decide_eq_true (by kernel_rfl)) h2 bel lt2) trodAll_mk0))), rfl, bel.frame _, fun h => by cases h⟩
theorem proved : Rows.ApplyApartSaid :=
 OpenClaim.holds_of_wide 13 Try.f13 rfl rfl rfl rfl rfl rfl rfl ⟨rfl, rfl, rfl, rfl, rfl⟩ rfl rfl rfl rfl rfl (by kernel_rfl) Try.func13 (by kernel_rfl)
  (of_decide_eq_true (by kernel_rfl)) (by unfold Func.isWrapper; first | (rw [if_pos (by decide +kernel)]; kernel_rfl) | (rw [if_neg (by decide +kernel)]; exact ⟨rfl, rfl⟩))
  (fun os started H enc _ => lifted os started H enc)
end Go.Proofs.Ytmpkfolcikhofaa.applyApart
