/- Called with any arguments, the law HistoryNone returns true and leaves them as they were; no other condition. -/
import Derived.Test.YtgpaglmhkklneaaGreatRows
import Derived.Test.YtgpaglmhkklneaaGreatNM5
import Derived.Test.YtgpaglmhkklneaaGreatNP1
import Derived.Test.YtgpaglmhkklneaaGreatH8
import Derived.WalkKit
import Derived.ProofKit
import Derived.OpenShut
import Derived.ShutString
import Derived.ChangeOld
import Derived.Below
import Derived.SizedLaws
namespace Go.Proofs.YtgpaglmhkklneaaGreat.historyNone
open Go.ChangeShapes Go.WideShapes Go.ChangeAt Go.RowKit
open Go.ChangeMaps (open_string shut_string)
set_option linter.unusedVariables false
set_option linter.unusedSimpArgs false
theorem op3 : Zca Tryz.prog 3 (eI .i64) (fun x => (Lit.int .i64 x).wf = true) := Qt Tryz.underlying3
theorem Ye4 : Zca Tryz.prog 46 (eI .u64) (fun x => (Lit.int .u64 x).wf = true) := Qt Tryz.underlying46
theorem Yb2 : Zca Tryz.prog 46 (eI .u64) (fun x : Int => (Lit.int .u64 x).wf = true) := (Qt Tryz.underlying46)
theorem Ydp : Zca Tryz.prog 22 (eL (eI .u64)) (fun xs : (List Int) => xs.length * 8 ≤ 140737488351232 ∧ ∀ x ∈ xs, (fun x : Int => (Lit.int .u64 x).wf = true) x) := by
 have h := Zqr (P := Tryz.prog) (t := 22) (sz := 1) Tryz.underlying22 (by kernel_rfl) (by decide) (fun _ => rfl) Yb2
 have hb : Tryz.prog.bytesOf 46 = 8 := by kernel_rfl
 rw [hb] at h
 exact h
inductive Ql : Zb → Prop
 | mk (x : Zb) (h0 : (fun x : Int => (Lit.int .i64 x).wf = true) x.Kind) (h1 : (fun xs : (List Int) => xs.length * 8 ≤ 140737488351232 ∧ ∀ x ∈ xs, (fun x : Int => (Lit.int .u64 x).wf = true) x) x.Words) (h2a : x.Kids.length * 56 ≤ 140737488351232) (h2b : ∀ y ∈ x.Kids, Ql y) : Ql x
theorem Z6r (n : Nat) (he : ∀ m, m < n → Ve Tryz.prog 25 Za Ql m) : Ve Tryz.prog 23 (eL Za) (fun xs : (List Zb) => xs.length * 56 ≤ 140737488351232 ∧ ∀ x ∈ xs, Ql x) n := by
 have h := Zje (P := Tryz.prog) (t := 23) (sz := 3) n Tryz.underlying23 (by kernel_rfl) (by decide) (fun _ => rfl) he
 have hb : Tryz.prog.bytesOf 25 = 56 := by kernel_rfl
 rw [hb] at h
 exact h
theorem Yb4 (n : Nat) : (Ve Tryz.prog 25 Za Ql n) := by
 induction n using Nat.strongRecOn with
 | ind n ih =>
  cases n with
  | zero => exact Zcv
  | succ n =>
   have i24 : ∀ q, q < n → Ve Tryz.prog 25 Za Ql q := fun q hq => (ih q (by omega))
   have j24 : Ve Tryz.prog 25 Za Ql n := (ih n (by omega))
   have h := Zeq (P := Tryz.prog) (t := 25) (g := Za) (fun p => (⟨p.1, p.2.1, p.2.2.1⟩ : Zb)) Tryz.underlying25 (by kernel_rfl) (Yr (k := 1) rfl (by kernel_rfl) ((Qt Tryz.underlying3) _) (Yr (k := 1) rfl (by kernel_rfl) (Ydp _) (Yr (k := 1) rfl (by kernel_rfl) (Z6r n i24) Zaq))) (fun x => by simp only [Za, Yh, eI, eB, eS, eL, List.cons_append, List.nil_append, List.append_nil, List.append_assoc])
   intro H enc W base spare held cs d ps h1 h2
   obtain ⟨x, ⟨y, rfl, hy⟩, hr⟩ := h H enc W base spare held cs d ps h1 h2
   obtain ⟨y0, y1, y2, u⟩ := y
   obtain ⟨a0, a1, ⟨a2a, a2b⟩, _⟩ := hy
   exact ⟨_, Ql.mk ⟨y0, y1, y2⟩ a0 a1 a2a a2b, hr⟩
theorem Z6o : Zca Tryz.prog 25 Za Ql := fun n => (Yb4 n)
theorem Ydq : Zca Tryz.prog 23 (eL Za) (fun xs : (List Zb) => xs.length * 56 ≤ 140737488351232 ∧ ∀ x ∈ xs, Ql x) := fun n => Z6r n (fun m _ => Z6o m)
theorem op5 : Zca Tryz.prog 5 (eI .u8) (fun x => (Lit.int .u8 x).wf = true) := Qt Tryz.underlying5
def Js (x : Zs) : Prop := (fun x : Int => (Lit.int .i64 x).wf = true) x.At ∧ (fun x : Int => (Lit.int .u8 x).wf = true) x.Mask ∧ (fun x : Int => (Lit.int .u64 x).wf = true) x.Old ∧ (fun x : Int => (Lit.int .u64 x).wf = true) x.New
theorem Ye5 : Zca Tryz.prog 47 Zg Js := by
 have h := Zhl (P := Tryz.prog) (t := 47) (g := Zg) (fun p => (⟨p.1, p.2.1, p.2.2.1, p.2.2.2.1⟩ : Zs)) Tryz.underlying47 (by kernel_rfl) (fun n => (Yr (k := 1) rfl (by kernel_rfl) ((Qt Tryz.underlying3) _) (Yr (k := 1) rfl (by kernel_rfl) ((Qt Tryz.underlying5) _) (Yr (k := 1) rfl (by kernel_rfl) ((Qt Tryz.underlying46) _) (Yr (k := 1) rfl (by kernel_rfl) ((Qt Tryz.underlying46) _) Zaq))))) (fun x => rfl)
 intro n H enc W base spare held cs d ps h1 h2
 obtain ⟨x, ⟨y, rfl, hy⟩, hr⟩ := h n H enc W base spare held cs d ps h1 h2
 exact ⟨_, by unfold Js; simp only; exact ⟨hy.1, hy.2.1, hy.2.2.1, hy.2.2.2.1⟩, hr⟩
theorem Yb6 : Zca Tryz.prog 48 Zg Js := by
 have h := Zhl (P := Tryz.prog) (t := 48) (g := Zg) (fun p => (⟨p.1, p.2.1, p.2.2.1, p.2.2.2.1⟩ : Zs)) Tryz.underlying48 (by kernel_rfl) (fun n => (Yr (k := 1) rfl (by kernel_rfl) ((Qt Tryz.underlying3) _) (Yr (k := 1) rfl (by kernel_rfl) ((Qt Tryz.underlying5) _) (Yr (k := 1) rfl (by kernel_rfl) ((Qt Tryz.underlying46) _) (Yr (k := 1) rfl (by kernel_rfl) ((Qt Tryz.underlying46) _) Zaq))))) (fun x => rfl)
 intro n H enc W base spare held cs d ps h1 h2
 obtain ⟨x, ⟨y, rfl, hy⟩, hr⟩ := h n H enc W base spare held cs d ps h1 h2
 exact ⟨_, by unfold Js; simp only; exact ⟨hy.1, hy.2.1, hy.2.2.1, hy.2.2.2.1⟩, hr⟩
theorem Yb3 : Zca Tryz.prog 48 Zg Js := Yb6
theorem Ydr : Zca Tryz.prog 26 (eL Zg) (fun xs : (List Zs) => xs.length * 32 ≤ 140737488351232 ∧ ∀ x ∈ xs, Js x) := by
 have h := Zqr (P := Tryz.prog) (t := 26) (sz := 4) Tryz.underlying26 (by kernel_rfl) (by decide) (fun _ => rfl) Yb3
 have hb : Tryz.prog.bytesOf 48 = 32 := by kernel_rfl
 rw [hb] at h
 exact h
mutual
inductive Jz : Zc → Prop
 | mk (x : Zc) (h0 : (fun x : Int => (Lit.int .i64 x).wf = true) x.Kind) (h1 : Ql x.Old) (h2 : Ql x.New) (h3 : (fun xs : (List Zs) => xs.length * 32 ≤ 140737488351232 ∧ ∀ x ∈ xs, Js x) x.Words) (h4a : x.Kids.length * 208 ≤ 140737488351232) (h4b : ∀ y ∈ x.Kids, Qy y) (h5 : (fun x : Int => (Lit.int .i64 x).wf = true) x.List_) (h6a : x.Ops.length * 240 ≤ 140737488351232) (h6b : ∀ y ∈ x.Ops, Uc y) : Jz x
inductive Qy : Zp → Prop
 | mk (x : Zp) (h0 : (fun x : Int => (Lit.int .i64 x).wf = true) x.At) (h1 : Jz x.E) : Qy x
inductive Uc : Zj → Prop
 | mk (x : Zj) (h0 : (fun x : Int => (Lit.int .i64 x).wf = true) x.Kind) (h1 : (fun x : Int => (Lit.int .i64 x).wf = true) x.N) (h2 : (fun xs : (List Zb) => xs.length * 56 ≤ 140737488351232 ∧ ∀ x ∈ xs, Ql x) x.L) (h3 : Jz x.E) : Uc x
end
theorem Z6s (n : Nat) (he : ∀ m, m < n → Ve Tryz.prog 59 Zi Qy m) : Ve Tryz.prog 27 (eL Zi) (fun xs : (List Zp) => xs.length * 208 ≤ 140737488351232 ∧ ∀ x ∈ xs, Qy x) n := by
 have h := Zje (P := Tryz.prog) (t := 27) (sz := 12) n Tryz.underlying27 (by kernel_rfl) (by decide) (fun _ => rfl) he
 have hb : Tryz.prog.bytesOf 59 = 208 := by kernel_rfl
 rw [hb] at h
 exact h
theorem Z6t (n : Nat) (he : ∀ m, m < n → Ve Tryz.prog 61 Zf Uc m) : Ve Tryz.prog 28 (eL Zf) (fun xs : (List Zj) => xs.length * 240 ≤ 140737488351232 ∧ ∀ x ∈ xs, Uc x) n := by
 have h := Zje (P := Tryz.prog) (t := 28) (sz := 14) n Tryz.underlying28 (by kernel_rfl) (by decide) (fun _ => rfl) he
 have hb : Tryz.prog.bytesOf 61 = 240 := by kernel_rfl
 rw [hb] at h
 exact h
theorem Z6l (n : Nat) : (Ve Tryz.prog 30 Ze Jz n ∧ Ve Tryz.prog 59 Zi Qy n ∧ Ve Tryz.prog 61 Zf Uc n) := by
 induction n using Nat.strongRecOn with
 | ind n ih =>
  cases n with
  | zero => exact ⟨Zcv, Zcv, Zcv⟩
  | succ n =>
   have i29 : ∀ q, q < n → Ve Tryz.prog 30 Ze Jz q := fun q hq => (ih q (by omega)).1
   have j29 : Ve Tryz.prog 30 Ze Jz n := (ih n (by omega)).1
   have i58 : ∀ q, q < n → Ve Tryz.prog 59 Zi Qy q := fun q hq => (ih q (by omega)).2.1
   have j58 : Ve Tryz.prog 59 Zi Qy n := (ih n (by omega)).2.1
   have i60 : ∀ q, q < n → Ve Tryz.prog 61 Zf Uc q := fun q hq => (ih q (by omega)).2.2
   have j60 : Ve Tryz.prog 61 Zf Uc n := (ih n (by omega)).2.2
   refine ⟨?_, ?_, ?_⟩
   ·have h := Zeq (P := Tryz.prog) (t := 30) (g := Ze) (fun p => (⟨p.1, p.2.1, p.2.2.1, p.2.2.2.1, p.2.2.2.2.1, p.2.2.2.2.2.1, p.2.2.2.2.2.2.1⟩ : Zc)) Tryz.underlying30 (by kernel_rfl) (Yr (k := 1) rfl (by kernel_rfl) ((Qt Tryz.underlying3) _) (Yr (k := 3) rfl (by kernel_rfl) (Z6o _) (Yr (k := 3) rfl (by kernel_rfl) (Z6o _) (Yr (k := 1) rfl (by kernel_rfl) (Ydr _) (Yr (k := 1) rfl (by kernel_rfl) (Z6s n i58) (Yr (k := 1) rfl (by kernel_rfl) ((Qt Tryz.underlying3) _) (Yr (k := 1) rfl (by kernel_rfl) (Z6t n i60) Zaq))))))) (fun x => by simp only [Ze, Y3, Za, Yh, Zg, Zi, Yk, Zf, Xc, eI, eB, eS, eL, List.cons_append, List.nil_append, List.append_nil, List.append_assoc])
    intro H enc W base spare held cs d ps h1 h2
    obtain ⟨x, ⟨y, rfl, hy⟩, hr⟩ := h H enc W base spare held cs d ps h1 h2
    obtain ⟨y0, y1, y2, y3, y4, y5, y6, u⟩ := y
    obtain ⟨a0, a1, a2, a3, ⟨a4a, a4b⟩, a5, ⟨a6a, a6b⟩, _⟩ := hy
    exact ⟨_, Jz.mk ⟨y0, y1, y2, y3, y4, y5, y6⟩ a0 a1 a2 a3 a4a a4b a5 a6a a6b, hr⟩
   ·have h := Zeq (P := Tryz.prog) (t := 59) (g := Zi) (fun p => (⟨p.1, p.2.1⟩ : Zp)) Tryz.underlying59 (by kernel_rfl) (Yr (k := 1) rfl (by kernel_rfl) ((Qt Tryz.underlying3) _) (Yr (k := 11) rfl (by kernel_rfl) j29 Zaq)) (fun x => by simp only [Zi, Yk, Ze, Y3, Za, Yh, Zg, Zf, Xc, eI, eB, eS, eL, List.cons_append, List.nil_append, List.append_nil, List.append_assoc])
    intro H enc W base spare held cs d ps h1 h2
    obtain ⟨x, ⟨y, rfl, hy⟩, hr⟩ := h H enc W base spare held cs d ps h1 h2
    obtain ⟨y0, y1, u⟩ := y
    obtain ⟨a0, a1, _⟩ := hy
    exact ⟨_, Qy.mk ⟨y0, y1⟩ a0 a1, hr⟩
   have h := Zeq (P := Tryz.prog) (t := 61) (g := Zf) (fun p => (⟨p.1, p.2.1, p.2.2.1, p.2.2.2.1⟩ : Zj)) Tryz.underlying61 (by kernel_rfl) (Yr (k := 1) rfl (by kernel_rfl) ((Qt Tryz.underlying3) _) (Yr (k := 1) rfl (by kernel_rfl) ((Qt Tryz.underlying3) _) (Yr (k := 1) rfl (by kernel_rfl) (Ydq _) (Yr (k := 11) rfl (by kernel_rfl) j29 Zaq)))) (fun x => by simp only [Zf, Xc, Za, Yh, Ze, Y3, Zg, Zi, Yk, eI, eB, eS, eL, List.cons_append, List.nil_append, List.append_nil, List.append_assoc])
   intro H enc W base spare held cs d ps h1 h2
   obtain ⟨x, ⟨y, rfl, hy⟩, hr⟩ := h H enc W base spare held cs d ps h1 h2
   obtain ⟨y0, y1, y2, y3, u⟩ := y
   obtain ⟨a0, a1, a2, a3, _⟩ := hy
   exact ⟨_, Uc.mk ⟨y0, y1, y2, y3⟩ a0 a1 a2 a3, hr⟩
theorem Z97 : Zca Tryz.prog 30 Ze Jz := fun n => (Z6l n).1
theorem Yb7 : Zca Tryz.prog 59 Zi Qy := fun n => (Z6l n).2.1
theorem Yb8 : Zca Tryz.prog 61 Zf Uc := fun n => (Z6l n).2.2
theorem Ye1 : Zca Tryz.prog 27 (eL Zi) (fun xs : (List Zp) => xs.length * 208 ≤ 140737488351232 ∧ ∀ x ∈ xs, Qy x) := fun n => Z6s n (fun m _ => Yb7 m)
theorem Ye2 : Zca Tryz.prog 28 (eL Zf) (fun xs : (List Zj) => xs.length * 240 ≤ 140737488351232 ∧ ∀ x ∈ xs, Uc x) := fun n => Z6t n (fun m _ => Yb8 m)
def Vo (x : Q3) : Prop := (fun x : Int => (Lit.int .i64 x).wf = true) x.Kind ∧ (fun x : Int => (Lit.int .i64 x).wf = true) x.I ∧ Jz x.E
theorem Ye3 : Zca Tryz.prog 31 X5 Vo := by
 have h := Zhl (P := Tryz.prog) (t := 31) (g := X5) (fun p => (⟨p.1, p.2.1, p.2.2.1⟩ : Q3)) Tryz.underlying31 (by kernel_rfl) (fun n => (Yr (k := 1) rfl (by kernel_rfl) ((Qt Tryz.underlying3) _) (Yr (k := 1) rfl (by kernel_rfl) ((Qt Tryz.underlying3) _) (Yr (k := 11) rfl (by kernel_rfl) (Z97 _) Zaq)))) (fun x => by first | rfl | (simp [eI, X5, Ze, Y3, Yh, Yk, Xc]; done))
 intro n H enc W base spare held cs d ps h1 h2
 obtain ⟨x, ⟨y, rfl, hy⟩, hr⟩ := h n H enc W base spare held cs d ps h1 h2
 exact ⟨_, by unfold Vo; simp only; exact ⟨hy.1, hy.2.1, hy.2.2.1⟩, hr⟩
theorem Yb5 : Zca Tryz.prog 32 X5 Vo := by
 have h := Zhl (P := Tryz.prog) (t := 32) (g := X5) (fun p => (⟨p.1, p.2.1, p.2.2.1⟩ : Q3)) Tryz.underlying32 (by kernel_rfl) (fun n => (Yr (k := 1) rfl (by kernel_rfl) ((Qt Tryz.underlying3) _) (Yr (k := 1) rfl (by kernel_rfl) ((Qt Tryz.underlying3) _) (Yr (k := 11) rfl (by kernel_rfl) (Z97 _) Zaq)))) (fun x => by first | rfl | (simp [eI, X5, Ze, Y3, Yh, Yk, Xc]; done))
 intro n H enc W base spare held cs d ps h1 h2
 obtain ⟨x, ⟨y, rfl, hy⟩, hr⟩ := h n H enc W base spare held cs d ps h1 h2
 exact ⟨_, by unfold Vo; simp only; exact ⟨hy.1, hy.2.1, hy.2.2.1⟩, hr⟩
theorem Z8c (t : Zb) (h : Ql t) : Bd t := by
 induction h with
 | mk x h0 h1 h2a h2b ih =>
  refine .mk _ (by have := h1.1; omega) (by omega) (fun w hw => ?_) ih
  have := h1.2 w hw
  simp [Lit.wf, IntKind.min, IntKind.max, IntKind.signed, IntKind.bits] at this
  omega
theorem Z9x {w : Zs} (h : Js w) : (0 ≤ w.Mask ∧ w.Mask < 256) ∧ (0 ≤ w.Old ∧ w.Old < 18446744073709551616) ∧ (0 ≤ w.New ∧ w.New < 18446744073709551616) := by
 obtain ⟨_, h1, h2, h3⟩ := h
 simp [Lit.wf, IntKind.min, IntKind.max, IntKind.signed, IntKind.bits] at h1 h2 h3
 omega
theorem Ydg (e : Zc) (h : Jz e) : BE e :=
 Jz.rec (motive_1 := fun e _ => BE e) (motive_2 := fun k _ => BE k.E) (motive_3 := fun o _ => BO o)
  (fun x h0 h1 h2 h3 h4a h4b h5 h6a h6b i4 i6 => .mk _ (Z8c _ h1) (Z8c _ h2) (by have := h3.1; omega) (fun w hw => Z9x (h3.2 w hw)) (by omega) i4 (by omega) (fun o ho => (i6 o ho).1) (fun o ho => (i6 o ho).2))
  (fun x h0 h1 i1 => i1)
  (fun x h0 h1 h2 h3 i3 => ⟨⟨by have := h2.1; omega, fun t ht => Z8c t (h2.2 t ht)⟩, i3⟩) h
theorem own : ownKnob Tryz.prog.godebug = none := by kernel_rfl
theorem Z87 : laidOutB Tryz.prog = true := by kernel_rfl
set_option maxRecDepth 100000 in
theorem lifted (os : Os) (started : os.Started) (H : Type) (enc : TypeId × Value → H) :
  ReturnsInHanded {} Tryz.checked os 3 .any (Rows.historyNoneSpec.pre6 enc Tryz.prog Tryz.f3 Rows.historyNoneRow.domain false) (Rows.historyNoneSpec.post enc Tryz.prog Tryz.f3 false true false false) := by
 refine returnsInHanded_of_change_sized (C := Tryz.checked) own started (by kernel_rfl) Tryz.func3
  (ChangeSpec.witness6 (enc := enc) (C := Tryz.checked) false ⟨#[], #[.agg #[.int .i64 0, .int .i64 0, .int .i64 0, .int .i64 0, .slice none 0 0, .slice none 0 0, .int .i64 0, .slice none 0 0, .slice none 0 0, .slice none 0 0, .slice none 0 0, .int .i64 0, .slice none 0 0]], []⟩ 12 (by kernel_rfl) (by kernel_rfl) (by kernel_rfl) (by kernel_rfl)) ?_
 intro W base args ds gs before hval0 hW hcnd hsz0 _
 have hval : ∀ (j : Nat) t v, Tryz.f3.params[j]? = some t → args[j]? = some v → Value.okWide Tryz.prog W .any base t v := hval0
 have hW' := hW
 obtain ⟨p, q, hA0, hV, rfl, hfz, hnd⟩ := hW
 have hA : DataW.TrodAll enc Tryz.prog W 0 (fun _ => true) true Tryz.f3.params.toList args.toList ds p := hA0
 rw [Tryz.params3] at hA hval
 obtain ⟨v0, vs0, d0, ds0, p0, q0, hargs, rfl, rfl, h0, r0⟩ := trodAll_cons hA
 obtain ⟨rfl, rfl, rfl⟩ := trodAll_nil r0
 obtain rfl : args = #[v0] := by cases args; simp_all
 obtain ⟨rfl, rfl⟩ := trodVars_none hV
 clear hA0 hval0
 have hsz : (DataW.weightsEach Tryz.prog (Tryz.f3.params.toList ++ Rows.historyNoneSpec.plain.varTypes Tryz.prog) _).all (· ≤ reachBytes) = true := hsz0
 clear hsz0
 rw [Tryz.params3] at hsz
 have lt0 : ∀ x ∈ p0, x.block < W.heap.size := by obtain ⟨m, hm⟩ := h0; exact DataW.trod_lt m _ _ _ hm
 obtain ⟨x0, w0, e0⟩ := Z6m Yb5 h0 (Z4g hsz (j := 0) rfl rfl)
 have g0 := Z8t (Z04 Tryz.underlying32 (hval 0 32 v0 rfl rfl)) e0
 simp only [X5, Ze, Y3, Za, Yh, Zg, Zi, Yk, Zf, Xc] at g0
 refine (Yaz (Zio ((fun (x : Q3) (wx : Vo x) => Zuy (d := x) (Ydg _ wx.2.2)) x0 w0)).pure (vs := [v0]) ⟨_, _, rfl, g0, rfl⟩).mono fun e W' ⟨he, bel⟩ => ?_
 subst he
 exact ⟨_, rfl, _, _, _, [], _, [], hW', trodAll_mk1 (shut_bool Tryz.underlying4 _), (trodAll_cons_mk (Below.trod Z87 (by kernel_rfl) (of_decide_eq_true (by kernel_rfl)) h0 bel lt0) trodAll_mk0), rfl, bel.frame _, fun h => by cases h⟩
theorem proved : Rows.HistoryNoneSaid :=
 OpenClaim.holds_of_wide 3 Tryz.f3 rfl rfl rfl rfl rfl rfl rfl ⟨rfl, rfl, rfl, rfl, rfl⟩ rfl rfl rfl rfl rfl (by kernel_rfl) Tryz.func3 (by kernel_rfl)
  (of_decide_eq_true (by kernel_rfl)) (by unfold Func.isWrapper; first | (rw [if_pos (by decide +kernel)]; kernel_rfl) | (rw [if_neg (by decide +kernel)]; exact ⟨rfl, rfl⟩))
  (fun os started H enc _ => lifted os started H enc)
end Go.Proofs.YtgpaglmhkklneaaGreat.historyNone
