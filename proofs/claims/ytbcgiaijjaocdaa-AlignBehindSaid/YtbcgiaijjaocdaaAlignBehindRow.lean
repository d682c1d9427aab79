/- Called with any arguments, the law AlignBehind returns true and leaves them as they were; no other condition. -/
import Derived.Test.YtbcgiaijjaocdaaRows
import Derived.Test.YtbcgiaijjaocdaaWM4
import Derived.Test.YtbcgiaijjaocdaaWP2
import Derived.Test.YtbcgiaijjaocdaaH8
import Derived.WalkKit
import Derived.ProofKit
import Derived.OpenShut
import Derived.ShutString
import Derived.ChangeOld
import Derived.Below
import Derived.SizedLaws
namespace Go.Proofs.Ytbcgiaijjaocdaa.alignBehind
open Go.ChangeShapes Go.WideShapes Go.ChangeAt Go.RowKit
open Go.ChangeMaps (open_string shut_string)
set_option linter.unusedVariables false
set_option linter.unusedSimpArgs false
theorem op3 : Opens Try.prog 3 (eI .i64) (fun x => (Lit.int .i64 x).wf = true) := opens_int Try.underlying3
theorem op56 : Opens Try.prog 56 (eI .u64) (fun x => (Lit.int .u64 x).wf = true) := opens_int Try.underlying56
theorem op56e : Opens Try.prog 56 (eI .u64) (fun x : Int => (Lit.int .u64 x).wf = true) := (opens_int Try.underlying56)
theorem op22 : Opens Try.prog 22 (eL (eI .u64)) (fun xs : (List Int) => xs.length * 8 ≤ 140737488351232 ∧ ∀ x ∈ xs, (fun x : Int => (Lit.int .u64 x).wf = true) x) := by
  have h := opens_slice (P := Try.prog) (t := 22) (sz := 1) Try.underlying22 (by kernel_rfl) (by decide) (fun _ => rfl) op56e
  have hb : Try.prog.bytesOf 56 = 8 := by kernel_rfl
  rw [hb] at h
  exact h
inductive wf_S_api_Tree : S_api_Tree → Prop
  | mk (x : S_api_Tree) (h0 : (fun x : Int => (Lit.int .i64 x).wf = true) x.Kind) (h1 : (fun xs : (List Int) => xs.length * 8 ≤ 140737488351232 ∧ ∀ x ∈ xs, (fun x : Int => (Lit.int .u64 x).wf = true) x) x.Words) (h2a : x.Kids.length * 56 ≤ 140737488351232) (h2b : ∀ y ∈ x.Kids, wf_S_api_Tree y) : wf_S_api_Tree x
theorem opsl23 (n : Nat) (he : ∀ m, m < n → OpensF Try.prog 25 e_S_api_Tree wf_S_api_Tree m) : OpensF Try.prog 23 (eL e_S_api_Tree) (fun xs : (List S_api_Tree) => xs.length * 56 ≤ 140737488351232 ∧ ∀ x ∈ xs, wf_S_api_Tree x) n := by
  have h := opensF_sliceG (P := Try.prog) (t := 23) (sz := 3) n Try.underlying23 (by kernel_rfl) (by decide) (fun _ => rfl) he
  have hb : Try.prog.bytesOf 25 = 56 := by kernel_rfl
  rw [hb] at h
  exact h
theorem opG24 (n : Nat) : (OpensF Try.prog 25 e_S_api_Tree wf_S_api_Tree n) := by
  induction n using Nat.strongRecOn with
  | ind n ih =>
    cases n with
    | zero => exact opensF_zero
    | succ n =>
      have i24 : ∀ q, q < n → OpensF Try.prog 25 e_S_api_Tree wf_S_api_Tree q := fun q hq => (ih q (by omega))
      have j24 : OpensF Try.prog 25 e_S_api_Tree wf_S_api_Tree n := (ih n (by omega))
      have h := opensF_struct (P := Try.prog) (t := 25) (g := e_S_api_Tree) (fun p => (⟨p.1, p.2.1, p.2.2.1⟩ : S_api_Tree)) Try.underlying25 (by kernel_rfl) (opensFs_cons (k := 1) rfl (by kernel_rfl) ((opens_int Try.underlying3) _) (opensFs_cons (k := 1) rfl (by kernel_rfl) (op22 _) (opensFs_cons (k := 1) rfl (by kernel_rfl) (opsl23 n i24) opensFs_nil))) (fun x => by simp only [e_S_api_Tree, e0_eq_S_api_Tree, eI, eB, eS, eL, List.cons_append, List.nil_append, List.append_nil, List.append_assoc])
      intro H enc W base spare held cs d ps h1 h2
      obtain ⟨x, ⟨y, rfl, hy⟩, hr⟩ := h H enc W base spare held cs d ps h1 h2
      obtain ⟨y0, y1, y2, u⟩ := y
      obtain ⟨a0, a1, ⟨a2a, a2b⟩, _⟩ := hy
      exact ⟨_, wf_S_api_Tree.mk ⟨y0, y1, y2⟩ a0 a1 a2a a2b, hr⟩
theorem opn25 : Opens Try.prog 25 e_S_api_Tree wf_S_api_Tree := fun n => (opG24 n)
theorem op23 : Opens Try.prog 23 (eL e_S_api_Tree) (fun xs : (List S_api_Tree) => xs.length * 56 ≤ 140737488351232 ∧ ∀ x ∈ xs, wf_S_api_Tree x) := fun n => opsl23 n (fun m _ => opn25 m)
theorem op5 : Opens Try.prog 5 (eI .u8) (fun x => (Lit.int .u8 x).wf = true) := opens_int Try.underlying5
def wf_S_api_WordEdit (x : S_api_WordEdit) : Prop := (fun x : Int => (Lit.int .i64 x).wf = true) x.At ∧ (fun x : Int => (Lit.int .u8 x).wf = true) x.Mask ∧ (fun x : Int => (Lit.int .u64 x).wf = true) x.Old ∧ (fun x : Int => (Lit.int .u64 x).wf = true) x.New
theorem op57 : Opens Try.prog 57 e_S_api_WordEdit wf_S_api_WordEdit := by
  have h := opens_struct (P := Try.prog) (t := 57) (g := e_S_api_WordEdit) (fun p => (⟨p.1, p.2.1, p.2.2.1, p.2.2.2.1⟩ : S_api_WordEdit)) Try.underlying57 (by kernel_rfl) (fun n => (opensFs_cons (k := 1) rfl (by kernel_rfl) ((opens_int Try.underlying3) _) (opensFs_cons (k := 1) rfl (by kernel_rfl) ((opens_int Try.underlying5) _) (opensFs_cons (k := 1) rfl (by kernel_rfl) ((opens_int Try.underlying56) _) (opensFs_cons (k := 1) rfl (by kernel_rfl) ((opens_int Try.underlying56) _) opensFs_nil))))) (fun x => rfl)
  intro n H enc W base spare held cs d ps h1 h2
  obtain ⟨x, ⟨y, rfl, hy⟩, hr⟩ := h n H enc W base spare held cs d ps h1 h2
  exact ⟨_, by unfold wf_S_api_WordEdit; simp only; exact ⟨hy.1, hy.2.1, hy.2.2.1, hy.2.2.2.1⟩, hr⟩
theorem opn58 : Opens Try.prog 58 e_S_api_WordEdit wf_S_api_WordEdit := by
  have h := opens_struct (P := Try.prog) (t := 58) (g := e_S_api_WordEdit) (fun p => (⟨p.1, p.2.1, p.2.2.1, p.2.2.2.1⟩ : S_api_WordEdit)) Try.underlying58 (by kernel_rfl) (fun n => (opensFs_cons (k := 1) rfl (by kernel_rfl) ((opens_int Try.underlying3) _) (opensFs_cons (k := 1) rfl (by kernel_rfl) ((opens_int Try.underlying5) _) (opensFs_cons (k := 1) rfl (by kernel_rfl) ((opens_int Try.underlying56) _) (opensFs_cons (k := 1) rfl (by kernel_rfl) ((opens_int Try.underlying56) _) opensFs_nil))))) (fun x => rfl)
  intro n H enc W base spare held cs d ps h1 h2
  obtain ⟨x, ⟨y, rfl, hy⟩, hr⟩ := h n H enc W base spare held cs d ps h1 h2
  exact ⟨_, by unfold wf_S_api_WordEdit; simp only; exact ⟨hy.1, hy.2.1, hy.2.2.1, hy.2.2.2.1⟩, hr⟩
theorem op58e : Opens Try.prog 58 e_S_api_WordEdit wf_S_api_WordEdit := opn58
theorem op26 : Opens Try.prog 26 (eL e_S_api_WordEdit) (fun xs : (List S_api_WordEdit) => xs.length * 32 ≤ 140737488351232 ∧ ∀ x ∈ xs, wf_S_api_WordEdit x) := by
  have h := opens_slice (P := Try.prog) (t := 26) (sz := 4) Try.underlying26 (by kernel_rfl) (by decide) (fun _ => rfl) op58e
  have hb : Try.prog.bytesOf 58 = 32 := by kernel_rfl
  rw [hb] at h
  exact h
mutual
inductive wf_S_api_Edit : S_api_Edit → Prop
  | mk (x : S_api_Edit) (h0 : (fun x : Int => (Lit.int .i64 x).wf = true) x.Kind) (h1 : wf_S_api_Tree x.Old) (h2 : wf_S_api_Tree x.New) (h3 : (fun xs : (List S_api_WordEdit) => xs.length * 32 ≤ 140737488351232 ∧ ∀ x ∈ xs, wf_S_api_WordEdit x) x.Words) (h4a : x.Kids.length * 208 ≤ 140737488351232) (h4b : ∀ y ∈ x.Kids, wf_S_api_KidEdit y) (h5 : (fun x : Int => (Lit.int .i64 x).wf = true) x.List_) (h6a : x.Ops.length * 240 ≤ 140737488351232) (h6b : ∀ y ∈ x.Ops, wf_S_api_Op y) : wf_S_api_Edit x
inductive wf_S_api_Op : S_api_Op → Prop
  | mk (x : S_api_Op) (h0 : (fun x : Int => (Lit.int .i64 x).wf = true) x.Kind) (h1 : (fun x : Int => (Lit.int .i64 x).wf = true) x.N) (h2 : (fun xs : (List S_api_Tree) => xs.length * 56 ≤ 140737488351232 ∧ ∀ x ∈ xs, wf_S_api_Tree x) x.L) (h3 : wf_S_api_Edit x.E) : wf_S_api_Op x
inductive wf_S_api_KidEdit : S_api_KidEdit → Prop
  | mk (x : S_api_KidEdit) (h0 : (fun x : Int => (Lit.int .i64 x).wf = true) x.At) (h1 : wf_S_api_Edit x.E) : wf_S_api_KidEdit x
end
theorem opsl27 (n : Nat) (he : ∀ m, m < n → OpensF Try.prog 71 e_S_api_KidEdit wf_S_api_KidEdit m) : OpensF Try.prog 27 (eL e_S_api_KidEdit) (fun xs : (List S_api_KidEdit) => xs.length * 208 ≤ 140737488351232 ∧ ∀ x ∈ xs, wf_S_api_KidEdit x) n := by
  have h := opensF_sliceG (P := Try.prog) (t := 27) (sz := 12) n Try.underlying27 (by kernel_rfl) (by decide) (fun _ => rfl) he
  have hb : Try.prog.bytesOf 71 = 208 := by kernel_rfl
  rw [hb] at h
  exact h
theorem opsl28 (n : Nat) (he : ∀ m, m < n → OpensF Try.prog 69 e_S_api_Op wf_S_api_Op m) : OpensF Try.prog 28 (eL e_S_api_Op) (fun xs : (List S_api_Op) => xs.length * 240 ≤ 140737488351232 ∧ ∀ x ∈ xs, wf_S_api_Op x) n := by
  have h := opensF_sliceG (P := Try.prog) (t := 28) (sz := 14) n Try.underlying28 (by kernel_rfl) (by decide) (fun _ => rfl) he
  have hb : Try.prog.bytesOf 69 = 240 := by kernel_rfl
  rw [hb] at h
  exact h
theorem opG29 (n : Nat) : (OpensF Try.prog 30 e_S_api_Edit wf_S_api_Edit n ∧ OpensF Try.prog 69 e_S_api_Op wf_S_api_Op n ∧ OpensF Try.prog 71 e_S_api_KidEdit wf_S_api_KidEdit n) := by
  induction n using Nat.strongRecOn with
  | ind n ih =>
    cases n with
    | zero => exact ⟨opensF_zero, opensF_zero, opensF_zero⟩
    | succ n =>
      have i29 : ∀ q, q < n → OpensF Try.prog 30 e_S_api_Edit wf_S_api_Edit q := fun q hq => (ih q (by omega)).1
      have j29 : OpensF Try.prog 30 e_S_api_Edit wf_S_api_Edit n := (ih n (by omega)).1
      have i68 : ∀ q, q < n → OpensF Try.prog 69 e_S_api_Op wf_S_api_Op q := fun q hq => (ih q (by omega)).2.1
      have j68 : OpensF Try.prog 69 e_S_api_Op wf_S_api_Op n := (ih n (by omega)).2.1
      have i70 : ∀ q, q < n → OpensF Try.prog 71 e_S_api_KidEdit wf_S_api_KidEdit q := fun q hq => (ih q (by omega)).2.2
      have j70 : OpensF Try.prog 71 e_S_api_KidEdit wf_S_api_KidEdit n := (ih n (by omega)).2.2
      refine ⟨?_, ?_, ?_⟩
      · have h := opensF_struct (P := Try.prog) (t := 30) (g := e_S_api_Edit) (fun p => (⟨p.1, p.2.1, p.2.2.1, p.2.2.2.1, p.2.2.2.2.1, p.2.2.2.2.2.1, p.2.2.2.2.2.2.1⟩ : S_api_Edit)) Try.underlying30 (by kernel_rfl) (opensFs_cons (k := 1) rfl (by kernel_rfl) ((opens_int Try.underlying3) _) (opensFs_cons (k := 3) rfl (by kernel_rfl) (opn25 _) (opensFs_cons (k := 3) rfl (by kernel_rfl) (opn25 _) (opensFs_cons (k := 1) rfl (by kernel_rfl) (op26 _) (opensFs_cons (k := 1) rfl (by kernel_rfl) (opsl27 n i70) (opensFs_cons (k := 1) rfl (by kernel_rfl) ((opens_int Try.underlying3) _) (opensFs_cons (k := 1) rfl (by kernel_rfl) (opsl28 n i68) opensFs_nil))))))) (fun x => by simp only [e_S_api_Edit, e0_eq_S_api_Edit, e_S_api_Tree, e0_eq_S_api_Tree, e_S_api_WordEdit, e_S_api_KidEdit, e0_eq_S_api_KidEdit, e_S_api_Op, e0_eq_S_api_Op, eI, eB, eS, eL, List.cons_append, List.nil_append, List.append_nil, List.append_assoc])
        intro H enc W base spare held cs d ps h1 h2
        obtain ⟨x, ⟨y, rfl, hy⟩, hr⟩ := h H enc W base spare held cs d ps h1 h2
        obtain ⟨y0, y1, y2, y3, y4, y5, y6, u⟩ := y
        obtain ⟨a0, a1, a2, a3, ⟨a4a, a4b⟩, a5, ⟨a6a, a6b⟩, _⟩ := hy
        exact ⟨_, wf_S_api_Edit.mk ⟨y0, y1, y2, y3, y4, y5, y6⟩ a0 a1 a2 a3 a4a a4b a5 a6a a6b, hr⟩
      · have h := opensF_struct (P := Try.prog) (t := 69) (g := e_S_api_Op) (fun p => (⟨p.1, p.2.1, p.2.2.1, p.2.2.2.1⟩ : S_api_Op)) Try.underlying69 (by kernel_rfl) (opensFs_cons (k := 1) rfl (by kernel_rfl) ((opens_int Try.underlying3) _) (opensFs_cons (k := 1) rfl (by kernel_rfl) ((opens_int Try.underlying3) _) (opensFs_cons (k := 1) rfl (by kernel_rfl) (op23 _) (opensFs_cons (k := 11) rfl (by kernel_rfl) j29 opensFs_nil)))) (fun x => by simp only [e_S_api_Op, e0_eq_S_api_Op, e_S_api_Tree, e0_eq_S_api_Tree, e_S_api_Edit, e0_eq_S_api_Edit, e_S_api_WordEdit, e_S_api_KidEdit, e0_eq_S_api_KidEdit, eI, eB, eS, eL, List.cons_append, List.nil_append, List.append_nil, List.append_assoc])
        intro H enc W base spare held cs d ps h1 h2
        obtain ⟨x, ⟨y, rfl, hy⟩, hr⟩ := h H enc W base spare held cs d ps h1 h2
        obtain ⟨y0, y1, y2, y3, u⟩ := y
        obtain ⟨a0, a1, a2, a3, _⟩ := hy
        exact ⟨_, wf_S_api_Op.mk ⟨y0, y1, y2, y3⟩ a0 a1 a2 a3, hr⟩
      · have h := opensF_struct (P := Try.prog) (t := 71) (g := e_S_api_KidEdit) (fun p => (⟨p.1, p.2.1⟩ : S_api_KidEdit)) Try.underlying71 (by kernel_rfl) (opensFs_cons (k := 1) rfl (by kernel_rfl) ((opens_int Try.underlying3) _) (opensFs_cons (k := 11) rfl (by kernel_rfl) j29 opensFs_nil)) (fun x => by simp only [e_S_api_KidEdit, e0_eq_S_api_KidEdit, e_S_api_Edit, e0_eq_S_api_Edit, e_S_api_Tree, e0_eq_S_api_Tree, e_S_api_WordEdit, e_S_api_Op, e0_eq_S_api_Op, eI, eB, eS, eL, List.cons_append, List.nil_append, List.append_nil, List.append_assoc])
        intro H enc W base spare held cs d ps h1 h2
        obtain ⟨x, ⟨y, rfl, hy⟩, hr⟩ := h H enc W base spare held cs d ps h1 h2
        obtain ⟨y0, y1, u⟩ := y
        obtain ⟨a0, a1, _⟩ := hy
        exact ⟨_, wf_S_api_KidEdit.mk ⟨y0, y1⟩ a0 a1, hr⟩
theorem opn30 : Opens Try.prog 30 e_S_api_Edit wf_S_api_Edit := fun n => (opG29 n).1
theorem opn69 : Opens Try.prog 69 e_S_api_Op wf_S_api_Op := fun n => (opG29 n).2.1
theorem opn71 : Opens Try.prog 71 e_S_api_KidEdit wf_S_api_KidEdit := fun n => (opG29 n).2.2
theorem op27 : Opens Try.prog 27 (eL e_S_api_KidEdit) (fun xs : (List S_api_KidEdit) => xs.length * 208 ≤ 140737488351232 ∧ ∀ x ∈ xs, wf_S_api_KidEdit x) := fun n => opsl27 n (fun m _ => opn71 m)
theorem op28 : Opens Try.prog 28 (eL e_S_api_Op) (fun xs : (List S_api_Op) => xs.length * 240 ≤ 140737488351232 ∧ ∀ x ∈ xs, wf_S_api_Op x) := fun n => opsl28 n (fun m _ => opn69 m)
theorem wf_bd (t : S_api_Tree) (h : wf_S_api_Tree t) : Bd t := by
  induction h with
  | mk x h0 h1 h2a h2b ih =>
    refine .mk _ (by have := h1.1; omega) (by omega) (fun w hw => ?_) ih
    have := h1.2 w hw
    simp [Lit.wf, IntKind.min, IntKind.max, IntKind.signed, IntKind.bits] at this
    omega
theorem wf_word {w : S_api_WordEdit} (h : wf_S_api_WordEdit w) : (0 ≤ w.Mask ∧ w.Mask < 256) ∧ (0 ≤ w.Old ∧ w.Old < 18446744073709551616) ∧ (0 ≤ w.New ∧ w.New < 18446744073709551616) := by
  obtain ⟨_, h1, h2, h3⟩ := h
  simp [Lit.wf, IntKind.min, IntKind.max, IntKind.signed, IntKind.bits] at h1 h2 h3
  omega
theorem wf_be (e : S_api_Edit) (h : wf_S_api_Edit e) : BE e :=
  wf_S_api_Edit.rec (motive_1 := fun e _ => BE e) (motive_2 := fun o _ => BO o) (motive_3 := fun k _ => BE k.E)
    (fun x h0 h1 h2 h3 h4a h4b h5 h6a h6b i4 i6 => .mk _ (wf_bd _ h1) (wf_bd _ h2) (by have := h3.1; omega) (fun w hw => wf_word (h3.2 w hw)) (by omega) i4 (by omega) (fun o ho => (i6 o ho).1) (fun o ho => (i6 o ho).2))
    (fun x h0 h1 h2 h3 i3 => ⟨⟨by have := h2.1; omega, fun t ht => wf_bd t (h2.2 t ht)⟩, i3⟩)
    (fun x h0 h1 i1 => i1) h
theorem wf_bo (o : S_api_Op) (h : wf_S_api_Op o) : BO o :=
  wf_S_api_Op.rec (motive_1 := fun e _ => BE e) (motive_2 := fun o _ => BO o) (motive_3 := fun k _ => BE k.E)
    (fun x h0 h1 h2 h3 h4a h4b h5 h6a h6b i4 i6 => .mk _ (wf_bd _ h1) (wf_bd _ h2) (by have := h3.1; omega) (fun w hw => wf_word (h3.2 w hw)) (by omega) i4 (by omega) (fun o ho => (i6 o ho).1) (fun o ho => (i6 o ho).2))
    (fun x h0 h1 h2 h3 i3 => ⟨⟨by have := h2.1; omega, fun t ht => wf_bd t (h2.2 t ht)⟩, i3⟩)
    (fun x h0 h1 i1 => i1) h
theorem wf_bl (x : List S_api_Op) (h : x.length * 240 ≤ 140737488351232 ∧ ∀ o ∈ x, wf_S_api_Op o) : BL x := ⟨by have := h.1; omega, fun o ho => wf_bo o (h.2 o ho)⟩
theorem own : ownKnob Try.prog.godebug = none := by kernel_rfl
theorem laidOut : laidOutB Try.prog = true := by kernel_rfl
set_option maxRecDepth 100000 in
theorem lifted (os : Os) (started : os.Started) (H : Type) (enc : TypeId × Value → H) :
    ReturnsInHanded {} Try.checked os 10 .any (Rows.alignBehindSpec.pre6 enc Try.prog Try.f10 Rows.alignBehindRow.domain false) (Rows.alignBehindSpec.post enc Try.prog Try.f10 false true false false) := by
  refine returnsInHanded_of_change_sized (C := Try.checked) own started (by kernel_rfl) Try.func10
    (ChangeSpec.witness6 (enc := enc) (C := Try.checked) false ⟨#[], #[.slice none 0 0, .slice none 0 0], []⟩ 12 (by kernel_rfl) (by kernel_rfl) (by kernel_rfl) (by kernel_rfl)) ?_
  intro W base args ds gs before hval0 hW hcnd hsz0 _
  have hval : ∀ (j : Nat) t v, Try.f10.params[j]? = some t → args[j]? = some v → Value.okWide Try.prog W .any base t v := hval0
  have hW' := hW
  obtain ⟨p, q, hA0, hV, rfl, hfz, hnd⟩ := hW
  have hA : DataW.TrodAll enc Try.prog W 0 (fun _ => true) true Try.f10.params.toList args.toList ds p := hA0
  rw [Try.params10] at hA hval
  obtain ⟨v0, vs0, d0, ds0, p0, q0, hargs, rfl, rfl, h0, r0⟩ := trodAll_cons hA
  obtain ⟨v1, vs1, d1, ds1, p1, q1, rfl, rfl, rfl, h1, r1⟩ := trodAll_cons r0
  obtain ⟨rfl, rfl, rfl⟩ := trodAll_nil r1
  obtain rfl : args = #[v0, v1] := by cases args; simp_all
  obtain ⟨rfl, rfl⟩ := trodVars_none hV
  clear hA0 hval0
  have hsz : (DataW.weightsEach Try.prog (Try.f10.params.toList ++ Rows.alignBehindSpec.plain.varTypes Try.prog) _).all (· ≤ reachBytes) = true := hsz0
  clear hsz0
  rw [Try.params10] at hsz
  have lt0 : ∀ x ∈ p0, x.block < W.heap.size := by obtain ⟨m, hm⟩ := h0; exact DataW.trod_lt m _ _ _ hm
  obtain ⟨x0, w0, e0⟩ := open_arg op28 h0 (arg_sized hsz (j := 0) rfl rfl)
  have g0 := arg_one (one_slice Try.underlying28 (hval 0 28 v0 rfl rfl)) e0
  have lt1 : ∀ x ∈ p1, x.block < W.heap.size := by obtain ⟨m, hm⟩ := h1; exact DataW.trod_lt m _ _ _ hm
  obtain ⟨x1, w1, e1⟩ := open_arg op28 h1 (arg_sized hsz (j := 1) rfl rfl)
  have g1 := arg_one (one_slice Try.underlying28 (hval 1 28 v1 rfl rfl)) e1
  refine (law_of (ok_centolaw24_AlignBehind ((fun x wx y wy => alignBehind_p (wf_bl x wx) (wf_bl y wy)) x0 w0 x1 w1)).pure (vs := [v0, v1]) ⟨_, _, rfl, g0, ⟨_, _, rfl, g1, rfl⟩⟩).mono fun e W' ⟨he, bel⟩ => ?_
  subst he
  exact ⟨_, rfl, _, _, _, [], _, [], hW', trodAll_mk1 (shut_bool Try.underlying4 _), (trodAll_cons_mk (Below.trod laidOut (by kernel_rfl) (of_decide_eq_true (by kernel_rfl)) h0 bel lt0) (trodAll_cons_mk (Below.trod laidOut (by kernel_rfl) (of_decide_eq_true (by kernel_rfl)) h1 bel lt1) trodAll_mk0)), rfl, bel.frame _, fun h => by cases h⟩
theorem proved : Rows.AlignBehindSaid :=
  OpenClaim.holds_of_wide 10 Try.f10 rfl rfl rfl rfl rfl rfl rfl ⟨rfl, rfl, rfl, rfl, rfl⟩ rfl rfl rfl rfl rfl (by kernel_rfl) Try.func10 (by kernel_rfl)
    (of_decide_eq_true (by kernel_rfl)) (by unfold Func.isWrapper; first | (rw [if_pos (by decide +kernel)]; kernel_rfl) | (rw [if_neg (by decide +kernel)]; exact ⟨rfl, rfl⟩))
    (fun os started H enc _ => lifted os started H enc)
end Go.Proofs.Ytbcgiaijjaocdaa.alignBehind
