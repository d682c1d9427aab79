/- Called with any arguments, the law ReaderLists returns true and leaves them as they were; where what comes in is of bulk at most 1048576. -/
import Derived.Test.YtmlhokaflhlhbaaRows
import Derived.Test.YtmlhokaflhlhbaaVM5
import Derived.Test.YtmlhokaflhlhbaaVQ7
import Derived.Test.YtmlhokaflhlhbaaH8
import Derived.WalkKit
import Derived.ProofKit
import Derived.OpenShut
import Derived.ShutString
import Derived.ChangeOld
import Derived.Below
import Derived.SizedLaws
import Derived.Deep.CondSized
namespace Go.Proofs.Ytmlhokaflhlhbaa.readerListsUpto
open Go.ChangeShapes Go.WideShapes Go.ChangeAt Go.RowKit
open Go.ChangeMaps (open_string shut_string)
set_option linter.unusedVariables false
set_option linter.unusedSimpArgs false
theorem op3 : Zhf Try.prog 3 (eI .i64) (fun x => (Lit.int .i64 x).wf = true) := Zam Try.underlying3
theorem Zuo : Zhf Try.prog 31 (eI .u64) (fun x => (Lit.int .u64 x).wf = true) := Zam Try.underlying31
theorem Zst : Zhf Try.prog 31 (eI .u64) (fun x : Int => (Lit.int .u64 x).wf = true) := (Zam Try.underlying31)
theorem Ztj : Zhf Try.prog 42 (eL (eI .u64)) (fun xs : (List Int) => xs.length * 8 ≤ 140737488351232 ∧ ∀ x ∈ xs, (fun x : Int => (Lit.int .u64 x).wf = true) x) := by
 have h := Zmh (P := Try.prog) (t := 42) (sz := 1) Try.underlying42 (by kernel_rfl) (by decide) (fun _ => rfl) Zst
 have hb : Try.prog.bytesOf 31 = 8 := by kernel_rfl
 rw [hb] at h
 exact h
theorem Zun (l : List (List Int)) (h : l.length * 24 ≤ 140737488351232 ∧ ∀ x ∈ l, x.length * 8 ≤ 140737488351232 ∧ ∀ w ∈ x, (Lit.int .u64 w).wf = true) : WS l := by
 refine ⟨by have := h.1; omega, fun x hx => by have := (h.2 x hx).1; omega, fun x hx w hw => ?_⟩
 have := (h.2 x hx).2 w hw
 simp [Lit.wf, IntKind.min, IntKind.max, IntKind.signed, IntKind.bits] at this
 omega
theorem Zum {a : Int} (h : (Lit.int .u8 a).wf = true) : 0 ≤ a ∧ a < 256 := by
 simp [Lit.wf, IntKind.min, IntKind.max, IntKind.signed, IntKind.bits] at h
 omega
theorem Zul {a : Int} (h : (Lit.int .u32 a).wf = true) : 0 ≤ a ∧ a < 4294967296 := by
 simp [Lit.wf, IntKind.min, IntKind.max, IntKind.signed, IntKind.bits] at h
 omega
theorem Zp4 {H : Type} (d : DataW H) : 1 ≤ Rows.uptoBulk d := by
 cases d with
 | lit l => cases l <;> simp [Rows.uptoBulk]
 | nil => simp [Rows.uptoBulk]
 | ptr d => simp [Rows.uptoBulk]
 | slice elems spare => simp [Rows.uptoBulk]
 | agg parts => simp [Rows.uptoBulk]
 | iface t d => simp [Rows.uptoBulk]
 | map entries => simp [Rows.uptoBulk]
 | held h => simp [Rows.uptoBulk]
theorem Zp1 {H : Type} (l : List (DataW H)) : l.length ≤ Rows.uptoBulkAll l := by
 induction l with
 | nil => simp
 | cons x r ih => have := Zp4 x; simp only [Rows.uptoBulkAll, List.length_cons]; omega
theorem Zp3 {H : Type} {d : DataW H} {l : List (DataW H)} (h : d ∈ l) : Rows.uptoBulk d ≤ Rows.uptoBulkAll l := by
 induction h with
 | head r => simp only [Rows.uptoBulkAll]; omega
 | tail x _ ih => simp only [Rows.uptoBulkAll]; omega
/-- a slice among the arguments is no longer than their bulk -/
theorem Zp2 {H : Type} {ds es sp : List (DataW H)} {n : Nat} (hk : Rows.uptoBulkAll ds ≤ n) (hd : DataW.slice es sp ∈ ds) : es.length ≤ n := by
 have h1 := Zp3 hd
 have h2 := Zp1 es
 simp only [Rows.uptoBulk] at h1
 omega
/-- a list that came in is told by as many parts -/
theorem Zq0 {H : Type} {enc : TypeId × Value → H} {P : Program} {W : World} {base : Nat} {held : Bool} {spare : Nat → Bool} {t e : TypeId} {v : Value} {d : DataW H} {ps : List MemPlace} {g : List G} {k : Nat} (ht : P.underlying t = some (.slice e)) (h : DataW.Trod enc P W base spare held t v d ps) (h1 : v.oneCell' = true) (hg : (G.sl k g).rep W Q1 (fun _ => undef) 0 v) : k = 0 ∨ ∃ es sp, d = .slice es sp ∧ es.length = k := by
 obtain ⟨n, hn⟩ := h
 rw [Zh7 h1] at hn
 simp only [G.rep] at hg
 obtain ⟨A, c, hv, _⟩ := hg
 rcases DataW.trod_slice ht hn with ⟨hx, hd⟩ | ⟨a, len, cap, elems, Zhd, n', _, hx, hd, _, _, _, hlen, _⟩
 ·left
  rw [hv] at hx
  injection hx with hx _
  injection hx with _ hx _
 right
 rw [hv] at hx
 injection hx with hx _
 injection hx with _ hx _
 injection hd with hd _
 exact ⟨_, _, hd, by rw [List.length_map, hlen, hx]⟩
theorem Ztf (l : List Int) (h : l.length * 8 ≤ 140737488351232 ∧ ∀ w ∈ l, (Lit.int .u64 w).wf = true) : ∀ x ∈ l, 0 ≤ x ∧ x < 18446744073709551616 := fun x hx => by
 have := h.2 x hx
 simp [Lit.wf, IntKind.min, IntKind.max, IntKind.signed, IntKind.bits] at this
 omega
theorem own : ownKnob Try.prog.godebug = none := by kernel_rfl
theorem Zle : laidOutB Try.prog = true := by kernel_rfl
set_option maxRecDepth 100000 in
theorem lifted (os : Os) (started : os.Started) (H : Type) (enc : TypeId × Value → H) (F : Stop.Interp) :
  ReturnsInHanded {} Try.checked os 4 .any ((Rows.OpenSpec.upto Rows.readerListsSpec).pre6 enc Try.prog Try.f4 Rows.readerListsUptoRow.domain false) (((Rows.OpenSpec.upto Rows.readerListsSpec).at F).post enc Try.prog Try.f4 false true false false) := by
 refine returnsInHanded_of_cond_sized (C := Try.checked) (s := Rows.OpenSpec.upto Rows.readerListsSpec) (k := Rows.uptoSmall) rfl own started (by kernel_rfl) Try.func4
  (OpenSpec.witness (enc := enc) (C := Try.checked) (s := Rows.OpenSpec.upto Rows.readerListsSpec) (k := Rows.uptoSmall) rfl false ⟨#[], #[.int .i64 0, .slice none 0 0, .int .i64 0], []⟩ 8 (by kernel_rfl) (by kernel_rfl) (by kernel_rfl)
   (x := ([.lit (.int .i64 0), .nil, .lit (.int .i64 0)], [], [])) (by kernel_rfl) rfl (by kernel_rfl)) ?_
 intro W base args ds gs before hval0 hW hcnd hk hsz0 _
 have hval : ∀ (j : Nat) t v, Try.f4.params[j]? = some t → args[j]? = some v → Value.okWide Try.prog W .any base t v := hval0
 have hW' := hW
 obtain ⟨p, q, hA0, hV, rfl, hfz, hnd⟩ := hW
 have hA : DataW.TrodAll enc Try.prog W 0 (fun _ => true) true Try.f4.params.toList args.toList ds p := hA0
 rw [Try.params4] at hA hval
 obtain ⟨v0, vs0, d0, ds0, p0, q0, hargs, rfl, rfl, h0, r0⟩ := trodAll_cons hA
 obtain ⟨v1, vs1, d1, ds1, p1, q1, rfl, rfl, rfl, h1, r1⟩ := trodAll_cons r0
 obtain ⟨v2, vs2, d2, ds2, p2, q2, rfl, rfl, rfl, h2, r2⟩ := trodAll_cons r1
 obtain ⟨rfl, rfl, rfl⟩ := trodAll_nil r2
 obtain rfl : args = #[v0, v1, v2] := by cases args; simp_all
 obtain ⟨rfl, rfl⟩ := trodVars_none hV
 clear hA0 hval0
 have hsz : (DataW.weightsEach Try.prog (Try.f4.params.toList ++ (Rows.OpenSpec.upto Rows.readerListsSpec).bare.plain.varTypes Try.prog) _).all (· ≤ reachBytes) = true := hsz0
 clear hsz0
 rw [Try.params4] at hsz
 have lt0 : ∀ x ∈ p0, x.block < W.heap.size := by obtain ⟨m, hm⟩ := h0; exact DataW.trod_lt m _ _ _ hm
 obtain ⟨x0, w0, e0⟩ := Ziu (Zam Try.underlying3) h0 (Zgz hsz (j := 0) rfl rfl)
 have g0 := Zkx (Zok Try.underlying3 (hval 0 3 v0 rfl rfl)) e0
 have lt1 : ∀ x ∈ p1, x.block < W.heap.size := by obtain ⟨m, hm⟩ := h1; exact DataW.trod_lt m _ _ _ hm
 obtain ⟨x1, w1, e1⟩ := Ziu Ztj h1 (Zgz hsz (j := 1) rfl rfl)
 have g1 := Zkx (Zkj Try.underlying42 (hval 1 42 v1 rfl rfl)) e1
 have lt2 : ∀ x ∈ p2, x.block < W.heap.size := by obtain ⟨m, hm⟩ := h2; exact DataW.trod_lt m _ _ _ hm
 obtain ⟨x2, w2, e2⟩ := Ziu (Zam Try.underlying3) h2 (Zgz hsz (j := 2) rfl rfl)
 have g2 := Zkx (Zok Try.underlying3 (hval 2 3 v2 rfl rfl)) e2
 have hlen : x1.length ≤ 1048576 := by
  have hk2 := of_decide_eq_true hk
  rcases Zq0 Try.underlying42 h1 (Zkj Try.underlying42 (hval 1 42 v1 rfl rfl)) g1 with h | ⟨es, sp, hd, hn⟩
  ·omega
  rw [← hn]
  exact Zp2 (es := es) (sp := sp) hk2 (by subst hd; simp)
 refine (Zsa (Gd (Zj9 x0 (Ztf x1 w1) (by omega) x2)).pure (vs := [v0, v1, v2]) ⟨_, _, rfl, g0, ⟨_, _, rfl, g1, ⟨_, _, rfl, g2, rfl⟩⟩⟩).mono fun e W' ⟨he, bel⟩ => ?_
 subst he
 exact ⟨_, rfl, _, _, _, [], _, [], hW', trodAll_mk1 (shut_bool Try.underlying4 _), (trodAll_cons_mk (Below.trod Zle (by kernel_rfl) (of_decide_eq_true (by kernel_rfl)) h0 bel lt0) (trodAll_cons_mk (Below.trod Zle (by kernel_rfl) (of_decide_eq_true (by kernel_rfl)) h1 bel lt1) (trodAll_cons_mk (Below.trod Zle (by kernel_rfl) (of_decide_eq_true (by kernel_rfl)) h2 bel lt2) trodAll_mk0))), rfl, bel.frame _, fun h => by cases h⟩
theorem proved : Rows.ReaderListsUptoSaid :=
 OpenClaim.holds_of_cond 4 Try.f4 rfl rfl rfl rfl rfl rfl rfl ⟨rfl, rfl, rfl, rfl, rfl⟩ rfl rfl rfl rfl rfl (by kernel_rfl) Try.func4 (by kernel_rfl)
  (of_decide_eq_true (by kernel_rfl)) (by unfold Func.isWrapper; first | (rw [if_pos (by decide +kernel)]; kernel_rfl) | (rw [if_neg (by decide +kernel)]; exact ⟨rfl, rfl⟩))
  (fun os started H enc _ F => lifted os started H enc F)
end Go.Proofs.Ytmlhokaflhlhbaa.readerListsUpto
