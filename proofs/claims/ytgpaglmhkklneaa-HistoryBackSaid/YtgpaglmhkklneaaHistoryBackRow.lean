/- Called with any arguments, the law HistoryBack returns true and leaves them as they were; no other condition. -/
import Derived.Test.YtgpaglmhkklneaaRows
import Derived.Test.YtgpaglmhkklneaaBM7
import Derived.Test.YtgpaglmhkklneaaBP3
import Derived.Test.YtgpaglmhkklneaaH8
import Derived.WalkKit
import Derived.ProofKit
import Derived.OpenShut
import Derived.ShutString
import Derived.ChangeOld
import Derived.Below
import Derived.SizedLaws
namespace Go.Proofs.Ytgpaglmhkklneaa.historyBack
open Go.ChangeShapes Go.WideShapes Go.ChangeAt Go.RowKit
open Go.ChangeMaps (open_string shut_string)
set_option linter.unusedVariables false
set_option linter.unusedSimpArgs false
theorem op3 : Zed Try.prog 3 (eI .i64) (fun x => (Lit.int .i64 x).wf = true) := J9 Try.underlying3
theorem Yi1 : Zed Try.prog 50 (eI .u64) (fun x => (Lit.int .u64 x).wf = true) := J9 Try.underlying50
theorem Yga : Zed Try.prog 50 (eI .u64) (fun x : Int => (Lit.int .u64 x).wf = true) := (J9 Try.underlying50)
theorem Yhn : Zed Try.prog 22 (eL (eI .u64)) (fun xs : (List Int) => xs.length * 8 ≤ 140737488351232 ∧ ∀ x ∈ xs, (fun x : Int => (Lit.int .u64 x).wf = true) x) := by
 have h := Zoh (P := Try.prog) (t := 22) (sz := 1) Try.underlying22 (by kernel_rfl) (by decide) (fun _ => rfl) Yga
 have hb : Try.prog.bytesOf 50 = 8 := by kernel_rfl
 rw [hb] at h
 exact h
inductive Qs : Zb → Prop
 | mk (x : Zb) (h0 : (fun x : Int => (Lit.int .i64 x).wf = true) x.Kind) (h1 : (fun xs : (List Int) => xs.length * 8 ≤ 140737488351232 ∧ ∀ x ∈ xs, (fun x : Int => (Lit.int .u64 x).wf = true) x) x.Words) (h2a : x.Kids.length * 56 ≤ 140737488351232) (h2b : ∀ y ∈ x.Kids, Qs y) : Qs x
theorem Ybe (n : Nat) (he : ∀ m, m < n → Ue Try.prog 25 Za Qs m) : Ue Try.prog 23 (eL Za) (fun xs : (List Zb) => xs.length * 56 ≤ 140737488351232 ∧ ∀ x ∈ xs, Qs x) n := by
 have h := Zk2 (P := Try.prog) (t := 23) (sz := 3) n Try.underlying23 (by kernel_rfl) (by decide) (fun _ => rfl) he
 have hb : Try.prog.bytesOf 25 = 56 := by kernel_rfl
 rw [hb] at h
 exact h
theorem Ygc (n : Nat) : (Ue Try.prog 25 Za Qs n) := by
 induction n using Nat.strongRecOn with
 | ind n ih =>
  cases n with
  | zero => exact Zes
  | succ n =>
   have i24 : ∀ q, q < n → Ue Try.prog 25 Za Qs q := fun q hq => (ih q (by omega))
   have j24 : Ue Try.prog 25 Za Qs n := (ih n (by omega))
   have h := Zfx (P := Try.prog) (t := 25) (g := Za) (fun p => (⟨p.1, p.2.1, p.2.2.1⟩ : Zb)) Try.underlying25 (by kernel_rfl) (Xa (k := 1) rfl (by kernel_rfl) ((J9 Try.underlying3) _) (Xa (k := 1) rfl (by kernel_rfl) (Yhn _) (Xa (k := 1) rfl (by kernel_rfl) (Ybe n i24) Zgf))) (fun x => by simp only [Za, Yx, eI, eB, eS, eL, List.cons_append, List.nil_append, List.append_nil, List.append_assoc])
   intro H enc W base spare held cs d ps h1 h2
   obtain ⟨x, ⟨y, rfl, hy⟩, hr⟩ := h H enc W base spare held cs d ps h1 h2
   obtain ⟨y0, y1, y2, u⟩ := y
   obtain ⟨a0, a1, ⟨a2a, a2b⟩, _⟩ := hy
   exact ⟨_, Qs.mk ⟨y0, y1, y2⟩ a0 a1 a2a a2b, hr⟩
theorem Z7e : Zed Try.prog 25 Za Qs := fun n => (Ygc n)
theorem Yho : Zed Try.prog 23 (eL Za) (fun xs : (List Zb) => xs.length * 56 ≤ 140737488351232 ∧ ∀ x ∈ xs, Qs x) := fun n => Ybe n (fun m _ => Z7e m)
theorem op5 : Zed Try.prog 5 (eI .u8) (fun x => (Lit.int .u8 x).wf = true) := J9 Try.underlying5
def J4 (x : Zu) : Prop := (fun x : Int => (Lit.int .i64 x).wf = true) x.At ∧ (fun x : Int => (Lit.int .u8 x).wf = true) x.Mask ∧ (fun x : Int => (Lit.int .u64 x).wf = true) x.Old ∧ (fun x : Int => (Lit.int .u64 x).wf = true) x.New
theorem Yi2 : Zed Try.prog 51 Zh J4 := by
 have h := Zsl (P := Try.prog) (t := 51) (g := Zh) (fun p => (⟨p.1, p.2.1, p.2.2.1, p.2.2.2.1⟩ : Zu)) Try.underlying51 (by kernel_rfl) (fun n => (Xa (k := 1) rfl (by kernel_rfl) ((J9 Try.underlying3) _) (Xa (k := 1) rfl (by kernel_rfl) ((J9 Try.underlying5) _) (Xa (k := 1) rfl (by kernel_rfl) ((J9 Try.underlying50) _) (Xa (k := 1) rfl (by kernel_rfl) ((J9 Try.underlying50) _) Zgf))))) (fun x => rfl)
 intro n H enc W base spare held cs d ps h1 h2
 obtain ⟨x, ⟨y, rfl, hy⟩, hr⟩ := h n H enc W base spare held cs d ps h1 h2
 exact ⟨_, by unfold J4; simp only; exact ⟨hy.1, hy.2.1, hy.2.2.1, hy.2.2.2.1⟩, hr⟩
theorem Yge : Zed Try.prog 52 Zh J4 := by
 have h := Zsl (P := Try.prog) (t := 52) (g := Zh) (fun p => (⟨p.1, p.2.1, p.2.2.1, p.2.2.2.1⟩ : Zu)) Try.underlying52 (by kernel_rfl) (fun n => (Xa (k := 1) rfl (by kernel_rfl) ((J9 Try.underlying3) _) (Xa (k := 1) rfl (by kernel_rfl) ((J9 Try.underlying5) _) (Xa (k := 1) rfl (by kernel_rfl) ((J9 Try.underlying50) _) (Xa (k := 1) rfl (by kernel_rfl) ((J9 Try.underlying50) _) Zgf))))) (fun x => rfl)
 intro n H enc W base spare held cs d ps h1 h2
 obtain ⟨x, ⟨y, rfl, hy⟩, hr⟩ := h n H enc W base spare held cs d ps h1 h2
 exact ⟨_, by unfold J4; simp only; exact ⟨hy.1, hy.2.1, hy.2.2.1, hy.2.2.2.1⟩, hr⟩
theorem Ygb : Zed Try.prog 52 Zh J4 := Yge
theorem Yhq : Zed Try.prog 33 (eL Zh) (fun xs : (List Zu) => xs.length * 32 ≤ 140737488351232 ∧ ∀ x ∈ xs, J4 x) := by
 have h := Zoh (P := Try.prog) (t := 33) (sz := 4) Try.underlying33 (by kernel_rfl) (by decide) (fun _ => rfl) Ygb
 have hb : Try.prog.bytesOf 52 = 32 := by kernel_rfl
 rw [hb] at h
 exact h
mutual
inductive Jk : Zc → Prop
 | mk (x : Zc) (h0 : (fun x : Int => (Lit.int .i64 x).wf = true) x.Kind) (h1 : Qs x.Old) (h2 : Qs x.New) (h3 : (fun xs : (List Zu) => xs.length * 32 ≤ 140737488351232 ∧ ∀ x ∈ xs, J4 x) x.Words) (h4a : x.Kids.length * 208 ≤ 140737488351232) (h4b : ∀ y ∈ x.Kids, Q2 y) (h5 : (fun x : Int => (Lit.int .i64 x).wf = true) x.List_) (h6a : x.Ops.length * 240 ≤ 140737488351232) (h6b : ∀ y ∈ x.Ops, Gq y) : Jk x
inductive Q2 : Zp → Prop
 | mk (x : Zp) (h0 : (fun x : Int => (Lit.int .i64 x).wf = true) x.At) (h1 : Jk x.E) : Q2 x
inductive Gq : Zm → Prop
 | mk (x : Zm) (h0 : (fun x : Int => (Lit.int .i64 x).wf = true) x.Kind) (h1 : (fun x : Int => (Lit.int .i64 x).wf = true) x.N) (h2 : (fun xs : (List Zb) => xs.length * 56 ≤ 140737488351232 ∧ ∀ x ∈ xs, Qs x) x.L) (h3 : Jk x.E) : Gq x
end
theorem Ybf (n : Nat) (he : ∀ m, m < n → Ue Try.prog 65 Zk Q2 m) : Ue Try.prog 34 (eL Zk) (fun xs : (List Zp) => xs.length * 208 ≤ 140737488351232 ∧ ∀ x ∈ xs, Q2 x) n := by
 have h := Zk2 (P := Try.prog) (t := 34) (sz := 12) n Try.underlying34 (by kernel_rfl) (by decide) (fun _ => rfl) he
 have hb : Try.prog.bytesOf 65 = 208 := by kernel_rfl
 rw [hb] at h
 exact h
theorem Ybg (n : Nat) (he : ∀ m, m < n → Ue Try.prog 68 Zg Gq m) : Ue Try.prog 35 (eL Zg) (fun xs : (List Zm) => xs.length * 240 ≤ 140737488351232 ∧ ∀ x ∈ xs, Gq x) n := by
 have h := Zk2 (P := Try.prog) (t := 35) (sz := 14) n Try.underlying35 (by kernel_rfl) (by decide) (fun _ => rfl) he
 have hb : Try.prog.bytesOf 68 = 240 := by kernel_rfl
 rw [hb] at h
 exact h
theorem Yba (n : Nat) : (Ue Try.prog 37 Zd Jk n ∧ Ue Try.prog 65 Zk Q2 n ∧ Ue Try.prog 68 Zg Gq n) := by
 induction n using Nat.strongRecOn with
 | ind n ih =>
  cases n with
  | zero => exact ⟨Zes, Zes, Zes⟩
  | succ n =>
   have i36 : ∀ q, q < n → Ue Try.prog 37 Zd Jk q := fun q hq => (ih q (by omega)).1
   have j36 : Ue Try.prog 37 Zd Jk n := (ih n (by omega)).1
   have i64 : ∀ q, q < n → Ue Try.prog 65 Zk Q2 q := fun q hq => (ih q (by omega)).2.1
   have j64 : Ue Try.prog 65 Zk Q2 n := (ih n (by omega)).2.1
   have i67 : ∀ q, q < n → Ue Try.prog 68 Zg Gq q := fun q hq => (ih q (by omega)).2.2
   have j67 : Ue Try.prog 68 Zg Gq n := (ih n (by omega)).2.2
   refine ⟨?_, ?_, ?_⟩
   ·have h := Zfx (P := Try.prog) (t := 37) (g := Zd) (fun p => (⟨p.1, p.2.1, p.2.2.1, p.2.2.2.1, p.2.2.2.2.1, p.2.2.2.2.2.1, p.2.2.2.2.2.2.1⟩ : Zc)) Try.underlying37 (by kernel_rfl) (Xa (k := 1) rfl (by kernel_rfl) ((J9 Try.underlying3) _) (Xa (k := 3) rfl (by kernel_rfl) (Z7e _) (Xa (k := 3) rfl (by kernel_rfl) (Z7e _) (Xa (k := 1) rfl (by kernel_rfl) (Yhq _) (Xa (k := 1) rfl (by kernel_rfl) (Ybf n i64) (Xa (k := 1) rfl (by kernel_rfl) ((J9 Try.underlying3) _) (Xa (k := 1) rfl (by kernel_rfl) (Ybg n i67) Zgf))))))) (fun x => by simp only [Zd, Xw, Za, Yx, Zh, Zk, Xe, Zg, Qr, eI, eB, eS, eL, List.cons_append, List.nil_append, List.append_nil, List.append_assoc])
    intro H enc W base spare held cs d ps h1 h2
    obtain ⟨x, ⟨y, rfl, hy⟩, hr⟩ := h H enc W base spare held cs d ps h1 h2
    obtain ⟨y0, y1, y2, y3, y4, y5, y6, u⟩ := y
    obtain ⟨a0, a1, a2, a3, ⟨a4a, a4b⟩, a5, ⟨a6a, a6b⟩, _⟩ := hy
    exact ⟨_, Jk.mk ⟨y0, y1, y2, y3, y4, y5, y6⟩ a0 a1 a2 a3 a4a a4b a5 a6a a6b, hr⟩
   ·have h := Zfx (P := Try.prog) (t := 65) (g := Zk) (fun p => (⟨p.1, p.2.1⟩ : Zp)) Try.underlying65 (by kernel_rfl) (Xa (k := 1) rfl (by kernel_rfl) ((J9 Try.underlying3) _) (Xa (k := 11) rfl (by kernel_rfl) j36 Zgf)) (fun x => by simp only [Zk, Xe, Zd, Xw, Za, Yx, Zh, Zg, Qr, eI, eB, eS, eL, List.cons_append, List.nil_append, List.append_nil, List.append_assoc])
    intro H enc W base spare held cs d ps h1 h2
    obtain ⟨x, ⟨y, rfl, hy⟩, hr⟩ := h H enc W base spare held cs d ps h1 h2
    obtain ⟨y0, y1, u⟩ := y
    obtain ⟨a0, a1, _⟩ := hy
    exact ⟨_, Q2.mk ⟨y0, y1⟩ a0 a1, hr⟩
   have h := Zfx (P := Try.prog) (t := 68) (g := Zg) (fun p => (⟨p.1, p.2.1, p.2.2.1, p.2.2.2.1⟩ : Zm)) Try.underlying68 (by kernel_rfl) (Xa (k := 1) rfl (by kernel_rfl) ((J9 Try.underlying3) _) (Xa (k := 1) rfl (by kernel_rfl) ((J9 Try.underlying3) _) (Xa (k := 1) rfl (by kernel_rfl) (Yho _) (Xa (k := 11) rfl (by kernel_rfl) j36 Zgf)))) (fun x => by simp only [Zg, Qr, Za, Yx, Zd, Xw, Zh, Zk, Xe, eI, eB, eS, eL, List.cons_append, List.nil_append, List.append_nil, List.append_assoc])
   intro H enc W base spare held cs d ps h1 h2
   obtain ⟨x, ⟨y, rfl, hy⟩, hr⟩ := h H enc W base spare held cs d ps h1 h2
   obtain ⟨y0, y1, y2, y3, u⟩ := y
   obtain ⟨a0, a1, a2, a3, _⟩ := hy
   exact ⟨_, Gq.mk ⟨y0, y1, y2, y3⟩ a0 a1 a2 a3, hr⟩
theorem Ygd : Zed Try.prog 37 Zd Jk := fun n => (Yba n).1
theorem Ygf : Zed Try.prog 65 Zk Q2 := fun n => (Yba n).2.1
theorem Ygg : Zed Try.prog 68 Zg Gq := fun n => (Yba n).2.2
theorem Yiz : Zed Try.prog 34 (eL Zk) (fun xs : (List Zp) => xs.length * 208 ≤ 140737488351232 ∧ ∀ x ∈ xs, Q2 x) := fun n => Ybf n (fun m _ => Ygf m)
theorem Yi0 : Zed Try.prog 35 (eL Zg) (fun xs : (List Zm) => xs.length * 240 ≤ 140737488351232 ∧ ∀ x ∈ xs, Gq x) := fun n => Ybg n (fun m _ => Ygg m)
theorem Yf9 : Zed Try.prog 37 Zd Jk := Ygd
theorem Yhp : Zed Try.prog 26 (eL Zd) (fun xs : (List Zc) => xs.length * 200 ≤ 140737488351232 ∧ ∀ x ∈ xs, Jk x) := by
 have h := Zoh (P := Try.prog) (t := 26) (sz := 11) Try.underlying26 (by kernel_rfl) (by decide) (fun _ => rfl) Yf9
 have hb : Try.prog.bytesOf 37 = 200 := by kernel_rfl
 rw [hb] at h
 exact h
theorem Z8m (t : Zb) (h : Qs t) : Bd t := by
 induction h with
 | mk x h0 h1 h2a h2b ih =>
  refine .mk _ (by have := h1.1; omega) (by omega) (fun w hw => ?_) ih
  have := h1.2 w hw
  simp [Lit.wf, IntKind.min, IntKind.max, IntKind.signed, IntKind.bits] at this
  omega
theorem Yd4 {w : Zu} (h : J4 w) : (0 ≤ w.Mask ∧ w.Mask < 256) ∧ (0 ≤ w.Old ∧ w.Old < 18446744073709551616) ∧ (0 ≤ w.New ∧ w.New < 18446744073709551616) := by
 obtain ⟨_, h1, h2, h3⟩ := h
 simp [Lit.wf, IntKind.min, IntKind.max, IntKind.signed, IntKind.bits] at h1 h2 h3
 omega
theorem Yhf (e : Zc) (h : Jk e) : BE e :=
 Jk.rec (motive_1 := fun e _ => BE e) (motive_2 := fun k _ => BE k.E) (motive_3 := fun o _ => BO o)
  (fun x h0 h1 h2 h3 h4a h4b h5 h6a h6b i4 i6 => .mk _ (Z8m _ h1) (Z8m _ h2) (by have := h3.1; omega) (fun w hw => Yd4 (h3.2 w hw)) (by omega) i4 (by omega) (fun o ho => (i6 o ho).1) (fun o ho => (i6 o ho).2))
  (fun x h0 h1 i1 => i1)
  (fun x h0 h1 h2 h3 i3 => ⟨⟨by have := h2.1; omega, fun t ht => Z8m t (h2.2 t ht)⟩, i3⟩) h
theorem own : ownKnob Try.prog.godebug = none := by kernel_rfl
theorem Z6z : laidOutB Try.prog = true := by kernel_rfl
set_option maxRecDepth 100000 in
theorem lifted (os : Os) (started : os.Started) (H : Type) (enc : TypeId × Value → H) :
  ReturnsInHanded {} Try.checked os 3 .any (Rows.historyBackSpec.pre6 enc Try.prog Try.f3 Rows.historyBackRow.domain false) (Rows.historyBackSpec.post enc Try.prog Try.f3 false true false false) := by
 refine returnsInHanded_of_change_sized (C := Try.checked) own started (by kernel_rfl) Try.func3
  (ChangeSpec.witness6 (enc := enc) (C := Try.checked) false ⟨#[], #[.agg #[.int .i64 0, .slice none 0 0, .slice none 0 0], .slice none 0 0], []⟩ 12 (by kernel_rfl) (by kernel_rfl) (by kernel_rfl) (by kernel_rfl)) ?_
 intro W base args ds gs before hval0 hW hcnd hsz0 _
 have hval : ∀ (j : Nat) t v, Try.f3.params[j]? = some t → args[j]? = some v → Value.okWide Try.prog W .any base t v := hval0
 have hW' := hW
 obtain ⟨p, q, hA0, hV, rfl, hfz, hnd⟩ := hW
 have hA : DataW.TrodAll enc Try.prog W 0 (fun _ => true) true Try.f3.params.toList args.toList ds p := hA0
 rw [Try.params3] at hA hval
 obtain ⟨v0, vs0, d0, ds0, p0, q0, hargs, rfl, rfl, h0, r0⟩ := trodAll_cons hA
 obtain ⟨v1, vs1, d1, ds1, p1, q1, rfl, rfl, rfl, h1, r1⟩ := trodAll_cons r0
 obtain ⟨rfl, rfl, rfl⟩ := trodAll_nil r1
 obtain rfl : args = #[v0, v1] := by cases args; simp_all
 obtain ⟨rfl, rfl⟩ := trodVars_none hV
 clear hA0 hval0
 have hsz : (DataW.weightsEach Try.prog (Try.f3.params.toList ++ Rows.historyBackSpec.plain.varTypes Try.prog) _).all (· ≤ reachBytes) = true := hsz0
 clear hsz0
 rw [Try.params3] at hsz
 have lt0 : ∀ x ∈ p0, x.block < W.heap.size := by obtain ⟨m, hm⟩ := h0; exact DataW.trod_lt m _ _ _ hm
 obtain ⟨x0, w0, e0⟩ := Z4v Z7e h0 (Z0j hsz (j := 0) rfl rfl)
 have g0 := Ycj (Z5l Try.underlying25 (hval 0 25 v0 rfl rfl)) e0
 simp only [Za, Yx] at g0
 have lt1 : ∀ x ∈ p1, x.block < W.heap.size := by obtain ⟨m, hm⟩ := h1; exact DataW.trod_lt m _ _ _ hm
 obtain ⟨x1, w1, e1⟩ := Z4v Yhp h1 (Z0j hsz (j := 1) rfl rfl)
 have g1 := Yck (Z9e Try.underlying26 (hval 1 26 v1 rfl rfl)) e1
 refine (Yfc (Zj2 ((fun x wx y wy => Zz3 (Z8m x wx) (fun e he => Yhf e (wy.2 e he))) x0 w0 x1 w1)).pure (vs := [v0, v1]) ⟨_, _, rfl, g0, ⟨_, _, rfl, g1, rfl⟩⟩).mono fun e W' ⟨he, bel⟩ => ?_
 subst he
 exact ⟨_, rfl, _, _, _, [], _, [], hW', trodAll_mk1 (shut_bool Try.underlying4 _), (trodAll_cons_mk (Below.trod Z6z (by kernel_rfl) (of_decide_eq_true (by kernel_rfl)) h0 bel lt0) (trodAll_cons_mk (Below.trod Z6z (by kernel_rfl) (of_decide_eq_true (by kernel_rfl)) h1 bel lt1) trodAll_mk0)), rfl, bel.frame _, fun h => by cases h⟩
theorem proved : Rows.HistoryBackSaid :=
 OpenClaim.holds_of_wide 3 Try.f3 rfl rfl rfl rfl rfl rfl rfl ⟨rfl, rfl, rfl, rfl, rfl⟩ rfl rfl rfl rfl rfl (by kernel_rfl) Try.func3 (by kernel_rfl)
  (of_decide_eq_true (by kernel_rfl)) (by unfold Func.isWrapper; first | (rw [if_pos (by decide +kernel)]; kernel_rfl) | (rw [if_neg (by decide +kernel)]; exact ⟨rfl, rfl⟩))
  (fun os started H enc _ => lifted os started H enc)
end Go.Proofs.Ytgpaglmhkklneaa.historyBack
