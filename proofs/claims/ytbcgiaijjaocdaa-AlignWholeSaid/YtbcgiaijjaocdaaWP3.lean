/- Plain facts on this seat's mirrors (part WP3); each theorem bears its own conditions. -/
import Derived.Test.YtbcgiaijjaocdaaWP2
import Derived.IntWalk
namespace Go.Proofs.Ytbcgiaijjaocdaa
open Go.RowKit
set_option linter.unusedVariables false
set_option linter.unusedSimpArgs false
theorem chk_mem {α : Type} {pl : α → Int} {ok : Int → α → Bool} {Q : α → Prop} (h : ∀ p x, ok p x = true → Q x) : ∀ (xs : List α) (p : Int), chk pl ok p xs = true → ∀ x ∈ xs, Q x
  | [], _, _ => fun x hx => by cases hx
  | y :: xs, p, hc => fun x hx => by
    rw [chk, Bool.and_eq_true] at hc
    rcases List.mem_cons.1 hx with rfl | hx
    · exact h p _ hc.1
    · exact chk_mem h xs (pl y) hc.2 x hx
abbrev EO := S_api_Op
def n0T : Tr := ⟨0, [], []⟩
def eS0 : Ed := ⟨0, ⟨0, [], []⟩, ⟨0, [], []⟩, [], [], 0, []⟩
theorem rE_lens {e : Ed} (hb : BE e) {d : Nat} (h : rE e d = true) : e.Ops.foldl stR (0, 0) = e.Ops.foldl stI (0, 0) := by
  have h0 : Sm (0, 0) := by unfold Sm; simp
  have hnil : noLO e = true → e.Ops.foldl stR (0, 0) = e.Ops.foldl stI (0, 0) := fun h => by
    unfold noLO at h
    rw [Bool.and_eq_true, beq_iff_eq, beq_iff_eq] at h
    rw [List.eq_nil_of_length_eq_zero h.2]
    rfl
  rw [rE_eq] at h
  split at h
  · cases h
  split at h
  · unfold sameE at h
    simp only [Bool.and_eq_true] at h
    exact hnil h.2.2.2
  split at h
  · simp only [Bool.and_eq_true] at h
    exact hnil h.1.2
  split at h
  · simp only [Bool.and_eq_true] at h
    exact hnil h.1.2
  split at h
  · simp only [Bool.and_eq_true] at h
    exact (fold_same (fun o => rE o.E (d - 1)) e.Ops (0, 0) h0 (List.all_eq_true.1 h.2.2.1) (fun o ho => (hb.l o ho).1)).1
  · cases h
def thN (o : EO) : Nat := if o.Kind = 0 then o.N.toNat else if o.Kind = 3 then 1 else o.L.length
def opk (o : EO) : Prop := (o.Kind = 0 ∧ 1 ≤ o.N) ∨ (o.Kind = 1 ∧ o.L ≠ []) ∨ (o.Kind = 2 ∧ o.L ≠ []) ∨ o.Kind = 3
def sumT (l : List EO) : Nat := (l.map thN).sum
/-- an edit that can be written -/
inductive GN : Ed → Prop
  | mk (e : Ed) (hw : e.Words.length ≤ 1048576) (hk : e.Kids.length ≤ 1048576) (ho : e.Ops.length ≤ 1048576) (hs : sumT e.Ops ≤ 1073741824) (hp : ∀ o ∈ e.Ops, opk o) (ik : ∀ k ∈ e.Kids, GN k.E) (io : ∀ o ∈ e.Ops, GN o.E) : GN e
theorem GN.w {e : Ed} (h : GN e) : e.Words.length ≤ 1048576 := by cases h; assumption
theorem GN.k {e : Ed} (h : GN e) : e.Kids.length ≤ 1048576 := by cases h; assumption
theorem GN.o {e : Ed} (h : GN e) : e.Ops.length ≤ 1048576 := by cases h; assumption
theorem GN.s {e : Ed} (h : GN e) : sumT e.Ops ≤ 1073741824 := by cases h; assumption
theorem GN.p {e : Ed} (h : GN e) : ∀ o ∈ e.Ops, opk o := by cases h; assumption
theorem GN.ks {e : Ed} (h : GN e) : ∀ k ∈ e.Kids, GN k.E := by cases h; assumption
theorem GN.os {e : Ed} (h : GN e) : ∀ o ∈ e.Ops, GN o.E := by cases h; assumption
theorem gn_same {e : Ed} (h : sameE e = true) : GN e := by
  unfold sameE noWK noLO at h
  simp only [Bool.and_eq_true, beq_iff_eq] at h
  obtain ⟨_, _, ⟨h1, h2⟩, _, h3⟩ := h
  have w := List.eq_nil_of_length_eq_zero h1
  have k := List.eq_nil_of_length_eq_zero h2
  have o := List.eq_nil_of_length_eq_zero h3
  exact .mk _ (by rw [w]; simp) (by rw [k]; simp) (by rw [o]; simp) (by rw [o]; simp [sumT]) (by rw [o]; simp) (by rw [k]; simp) (by rw [o]; simp)
theorem gn_s0 : GN eS0 := .mk _ (by simp [eS0]) (by simp [eS0]) (by simp [eS0]) (by simp [eS0, sumT]) (by simp [eS0]) (by simp [eS0]) (by simp [eS0])
theorem bd_n0 : Bd n0T := .mk _ (by simp [n0T]) (by simp [n0T]) (by simp [n0T]) (by simp [n0T])
theorem be_s0 : BE eS0 := .mk _ bd_n0 bd_n0 (by simp [eS0]) (by simp [eS0]) (by simp [eS0]) (by simp [eS0]) (by simp [eS0]) (by simp [eS0]) (by simp [eS0])
theorem thN_thr {l : Int} {o : EO} {r : Bool} (h : okO l o r = true) : ((thN o : Nat) : Int) = thr o := by
  unfold okO at h
  unfold thN thr
  by_cases h0 : o.Kind = 0
  · rw [if_pos h0] at h
    simp only [Bool.and_eq_true, decide_eq_true_eq] at h
    rw [if_pos h0, if_pos h0]
    split <;> split at * <;> omega
  · rw [if_neg h0] at h ⊢
    rw [if_neg h0]
    by_cases h12 : o.Kind = 1 ∨ o.Kind = 2
    · rw [if_pos h12, if_neg (by omega)]
    · rw [if_neg h12] at h ⊢
      by_cases h3 : o.Kind = 3
      · rw [if_pos h3, if_pos h3]; rfl
      · rw [if_neg h3] at h; cases h
theorem okO_opk {l : Int} {o : EO} {r : Bool} (h : okO l o r = true) : opk o := by
  unfold okO at h
  unfold opk
  by_cases h0 : o.Kind = 0
  · rw [if_pos h0] at h
    simp only [Bool.and_eq_true, decide_eq_true_eq] at h
    exact .inl ⟨h0, h.1.1⟩
  rw [if_neg h0] at h
  by_cases h12 : o.Kind = 1 ∨ o.Kind = 2
  · rw [if_pos h12] at h
    simp only [Bool.and_eq_true, decide_eq_true_eq] at h
    have hne : o.L ≠ [] := by
      intro he
      rw [he] at h
      simp at h
    rcases h12 with h1 | h2
    · exact .inr (.inl ⟨h1, hne⟩)
    · exact .inr (.inr (.inl ⟨h2, hne⟩))
  · rw [if_neg h12] at h
    by_cases h3 : o.Kind = 3
    · exact .inr (.inr (.inr h3))
    · rw [if_neg h3] at h; cases h
theorem sum_lens {l : Int} (r : EO → Bool) : ∀ (os : List EO) (s : Int × Int), Sm s → (∀ o ∈ os, okO l o (r o) = true) → (∀ o ∈ os, o.L.length * 56 ≤ 140737488355328) → lensB (os.foldl stI s) = true → s.1 + s.2 + ((sumT os : Nat) : Int) ≤ (os.foldl stI s).1 + (os.foldl stI s).2
  | [], s, _, _, _, _ => by simp [sumT]
  | o :: os, s, hs, h, hl, hb => by
    have hsm := stI_sm hs (hl o (.head _))
    have hup := fold_up os (stI s o) hsm (fun x hx => hl x (.tail _ hx))
    have ih := sum_lens r os (stI s o) hsm (fun x hx => h x (.tail _ hx)) (fun x hx => hl x (.tail _ hx)) hb
    have hso : sumT (o :: os) = thN o + sumT os := by unfold sumT; simp
    have ht := thN_thr (h o (.head _))
    rw [List.foldl_cons] at hb ⊢
    unfold lensB at hb
    rw [Bool.and_eq_true, decide_eq_true_eq, decide_eq_true_eq] at hb
    have n1 : (stI s o).1 ≠ 1048576 := fun he => by have := hup.1 he; omega
    have n2 : (stI s o).2 ≠ 1048576 := fun he => by have := hup.2 he; omega
    have key : s.1 + s.2 + thr o ≤ (stI s o).1 + (stI s o).2 := by
      have hth : 0 ≤ thr o := by omega
      unfold stI capI at n1 n2 ⊢
      simp only at n1 n2 ⊢
      by_cases k2 : o.Kind = 2
      · rw [if_neg (by omega : ¬ o.Kind = 1)] at n2 ⊢
        rw [if_pos k2]
        split at n2
        · omega
        · rename_i h5; rw [if_neg h5]; omega
      · rw [if_neg k2] at n1 ⊢
        split at n1
        · omega
        · rename_i h5
          rw [if_neg h5]
          by_cases k1 : o.Kind = 1
          · rw [if_pos k1]; omega
          · rw [if_neg k1] at n2 ⊢
            split at n2
            · omega
            · rename_i h6; rw [if_neg h6]; omega
    rw [hso]
    omega
theorem kid_sumN {α : Type} {f : α → Nat} {x : α} : ∀ {l : List α}, x ∈ l → f x ≤ (l.map f).sum
  | y :: l, h => by
    rw [List.map_cons, List.sum_cons]
    rcases List.mem_cons.1 h with rfl | h
    · omega
    · have := kid_sumN (f := f) h; omega
theorem len_sumN {α : Type} {f : α → Nat} : ∀ {l : List α}, (∀ x ∈ l, 1 ≤ f x) → l.length ≤ (l.map f).sum
  | [], _ => Nat.le_refl _
  | y :: l, h => by
    rw [List.map_cons, List.sum_cons, List.length_cons]
    have := len_sumN (f := f) (l := l) fun x hx => h x (by simp [hx])
    have := h y (by simp)
    omega
theorem ce_pos (e : Ed) : 1 ≤ ce e := by rw [ce_eq]; omega
theorem gn_rE : ∀ (n : Nat) (e : Ed) (d : Nat), SizeOf.sizeOf e < n → BE e → ce e ≤ 1000000 → rE e d = true → GN e
  | 0, _, _, h, _, _, _ => by omega
  | n + 1, e, d, hn, hb, hc, h => by
    have hc' := hc
    rw [ce_eq] at hc'
    have hk1 : e.Kids.length ≤ (e.Kids.map fun k => ce k.E).sum := len_sumN fun x _ => ce_pos _
    have hlens := rE_lens hb h
    have hparts : (∀ k ∈ e.Kids, ∃ d', rE k.E d' = true) ∧ (∀ o ∈ e.Ops, opk o ∧ (sameE o.E = true ∨ ∃ d', rE o.E d' = true)) ∧ sumT e.Ops ≤ 2097152 := by
      rw [rE_eq] at h
      by_cases hd : d = 0
      · rw [if_pos hd] at h; cases h
      rw [if_neg hd] at h
      by_cases h0 : e.Kind = 0
      · rw [if_pos h0] at h
        unfold sameE noWK noLO at h
        simp only [Bool.and_eq_true, beq_iff_eq] at h
        obtain ⟨_, _, ⟨h1, h2⟩, _, h3⟩ := h
        rw [List.eq_nil_of_length_eq_zero h2, List.eq_nil_of_length_eq_zero h3]
        simp [sumT]
      rw [if_neg h0] at h
      by_cases h1 : e.Kind = 1
      · rw [if_pos h1] at h
        unfold noWK noLO at h
        simp only [Bool.and_eq_true, beq_iff_eq] at h
        rw [List.eq_nil_of_length_eq_zero h.1.1.2, List.eq_nil_of_length_eq_zero h.1.2.2]
        simp [sumT]
      rw [if_neg h1] at h
      by_cases h2 : e.Kind = 2
      · rw [if_pos h2] at h
        unfold noLO at h
        simp only [Bool.and_eq_true, beq_iff_eq] at h
        rw [List.eq_nil_of_length_eq_zero h.1.2.2]
        refine ⟨fun k hk => ⟨d - 1, ?_⟩, by simp, by simp [sumT]⟩
        exact chk_mem (Q := fun k : S_api_KidEdit => rE k.E (d - 1) = true) (fun p x hx => by
          unfold okK okP at hx
          simp only [Bool.and_eq_true] at hx
          exact hx.2.2) e.Kids (-1) h.2.2 k hk
      rw [if_neg h2] at h
      by_cases h3 : e.Kind = 3
      · rw [if_pos h3] at h
        unfold noWK at h
        rw [Bool.and_eq_true, Bool.and_eq_true, Bool.and_eq_true, Bool.and_eq_true, Bool.and_eq_true, Bool.and_eq_true, beq_iff_eq, beq_iff_eq, List.all_eq_true] at h
        obtain ⟨⟨_, _, hk⟩, _, hall, hB⟩ := h
        rw [List.eq_nil_of_length_eq_zero hk]
        refine ⟨by simp, fun o ho => ⟨okO_opk (hall o ho), ?_⟩, ?_⟩
        · have := hall o ho
          unfold okO at this
          by_cases k0 : o.Kind = 0
          · rw [if_pos k0] at this
            simp only [Bool.and_eq_true] at this
            exact .inl this.2.2
          rw [if_neg k0] at this
          by_cases k12 : o.Kind = 1 ∨ o.Kind = 2
          · rw [if_pos k12] at this
            simp only [Bool.and_eq_true] at this
            exact .inl this.2.2.2
          rw [if_neg k12] at this
          by_cases k3 : o.Kind = 3
          · rw [if_pos k3] at this
            simp only [Bool.and_eq_true] at this
            exact .inr ⟨d - 1, this.2.2.2.2⟩
          · rw [if_neg k3] at this; cases this
        · rw [hlens] at hB
          have := sum_lens (l := e.List_) (fun o => rE o.E (d - 1)) e.Ops (0, 0) ⟨⟨by decide, by decide⟩, by decide, by decide⟩ hall (fun o ho => (hb.l o ho).1) hB
          unfold lensB at hB
          rw [Bool.and_eq_true, decide_eq_true_eq, decide_eq_true_eq] at hB
          simp only at this
          omega
      · rw [if_neg h3] at h; cases h
    refine .mk _ (by omega) (by omega) (by omega) (by omega) (fun o ho => (hparts.2.1 o ho).1) (fun k hk => ?_) (fun o ho => ?_)
    · obtain ⟨d', hd'⟩ := hparts.1 k hk
      have := kid_sumN (f := fun k : S_api_KidEdit => ce k.E) hk
      exact gn_rE n k.E d' (by have := kidE_lt hk; omega) (hb.ks k hk) (by omega) hd'
    · rcases (hparts.2.1 o ho).2 with hs | ⟨d', hd'⟩
      · exact gn_same hs
      · have := kid_sumN (f := fun o : S_api_Op => ce o.E) ho
        exact gn_rE n o.E d' (by have := opE_lt ho; omega) (hb.os o ho) (by omega) hd'

/-- does a right edit go through few kids? -/
def lgt (e : Ed) : Bool := (!(decide (2000 < (e.Ops.foldl stR (0, 0)).1) || decide (2000 < (e.Ops.foldl stR (0, 0)).2))) && ((e.Kids.attach.map fun k => lgt k.1.E).all id && (e.Ops.attach.map fun o => lgt o.1.E).all id)
termination_by SizeOf.sizeOf e
decreasing_by
  · exact kidE_lt k.2
  · exact opE_lt o.2
theorem lgt_eq (e : Ed) : lgt e = ((!(decide (2000 < (e.Ops.foldl stR (0, 0)).1) || decide (2000 < (e.Ops.foldl stR (0, 0)).2))) && ((e.Kids.all fun k => lgt k.E) && (e.Ops.all fun o => lgt o.E))) := by
  have h1 : (e.Kids.attach.map fun k => lgt k.1.E) = e.Kids.map fun k => lgt k.E := List.attach_map_val (f := fun k : S_api_KidEdit => lgt k.E)
  have h2 : (e.Ops.attach.map fun o => lgt o.1.E) = e.Ops.map fun o => lgt o.E := List.attach_map_val (f := fun o : EO => lgt o.E)
  rw [lgt, h1, h2, List.all_map, List.all_map]
  rfl
theorem light_lv : ∀ (k : Nat) (e : Ed), BE e → SizeOf.sizeOf e < k → lv_centoref20_Light k e = some (lgt e)
  | 0, _, _, h => by omega
  | k + 1, e, hb, hk => by
    show b_centoref20_Light (lv_centoref20_Light k) e = _
    unfold b_centoref20_Light
    have l0 : runLoop (b_centoref20_Light_L0 (lv_centoref20_Light k) e) 0 = some (if (e.Kids.all fun x => lgt x.E) = true then Sum.inr () else Sum.inl ()) :=
      loop_all e.Kids _ (fun x => lgt x.E) (Sum.inl () : Unit ⊕ Unit) (Sum.inr ()) hb.k (fun i x hi hx hm => by
        unfold b_centoref20_Light_L0
        rw [lt_t hi, cond_true, getI_of hx, Option.bind_some, light_lv k x.E (hb.ks x hm) (by have := kidE_lt hm; omega), Option.bind_some]
        cases lgt x.E <;> rfl) (by unfold b_centoref20_Light_L0; rw [lt_f]; rfl)
    have l1 : runLoop (b_centoref20_Light_L1 (lv_centoref20_Light k) e) 0 = some (if (e.Ops.all fun x => lgt x.E) = true then Sum.inr () else Sum.inl ()) :=
      loop_all e.Ops _ (fun x => lgt x.E) (Sum.inl () : Unit ⊕ Unit) (Sum.inr ()) hb.o (fun i x hi hx hm => by
        unfold b_centoref20_Light_L1
        rw [lt_t hi, cond_true, getI_of hx, Option.bind_some, light_lv k x.E (hb.os x hm) (by have := opE_lt hm; omega), Option.bind_some]
        cases lgt x.E <;> rfl) (by unfold b_centoref20_Light_L1; rw [lt_f]; rfl)
    rw [lgt_eq, lenR_ok hb, Option.bind_some, l0, l1]
    generalize decide (2000 < (e.Ops.foldl stR (0, 0)).1) = q1
    generalize decide (2000 < (e.Ops.foldl stR (0, 0)).2) = q2
    generalize (e.Kids.all fun x => lgt x.E) = q3
    generalize (e.Ops.all fun x => lgt x.E) = q4
    cases q1 <;> cases q2 <;> cases q3 <;> cases q4 <;> rfl
theorem light_ok {e : Ed} (hb : BE e) : m_centoref20_Light e = some (lgt e) := lim_eq (SizeOf.sizeOf e + 1) fun k hk => light_lv k e hb (by omega)
theorem good20 {e : Ed} (hb : BE e) : ∃ b, m_centoref20_Good e = some b ∧ (b = true → rE e 64 = true ∧ ce e ≤ 3000) := by
  obtain ⟨b, h1, h2⟩ := few20 hb
  have h3 := eref_ok hb (d := 64) (by decide)
  rw [show ((64 : Nat) : Int) = 64 from rfl] at h3
  unfold m_centoref20_Good
  rw [h1, Option.bind_some, h3, light_ok hb]
  refine ⟨b && (rE e 64 && lgt e), ?_, fun h => ?_⟩
  · cases b <;> cases rE e 64 <;> cases lgt e <;> rfl
  · simp only [Bool.and_eq_true] at h
    exact ⟨h.2.1, h2 h.1⟩
/-- two lists of steps side by side: a cursor goes through one of them -/
theorem kids_ok {o : EO} (h : opk o) : m_align_kids o = some ((thN o : Nat) : Int) ∧ 1 ≤ thN o := by
  unfold m_align_kids thN
  rcases h with ⟨k, h⟩ | ⟨k, h⟩ | ⟨k, h⟩ | k
  · rw [if_pos k, show (o.Kind == 0) = true from by rw [k]; rfl, cond_true]
    exact ⟨by congr 1; omega, by omega⟩
  · have := List.length_pos_iff.2 h
    rw [if_neg (by omega), if_neg (by omega), show (o.Kind == 0) = false from by rw [k]; rfl, show (o.Kind == 1) = true from by rw [k]; rfl]
    exact ⟨rfl, by omega⟩
  · have := List.length_pos_iff.2 h
    rw [if_neg (by omega), if_neg (by omega), show (o.Kind == 0) = false from by rw [k]; rfl, show (o.Kind == 1) = false from by rw [k]; rfl, show (o.Kind == 2) = true from by rw [k]; rfl]
    exact ⟨rfl, by omega⟩
  · rw [if_neg (by omega), if_pos k, show (o.Kind == 0) = false from by rw [k]; rfl, show (o.Kind == 1) = false from by rw [k]; rfl, show (o.Kind == 2) = false from by rw [k]; rfl]
    exact ⟨rfl, by omega⟩
def atHead (a : List EO) (g : Nat) : Prop := match a with
  | [] => g = 0
  | o :: _ => g ≤ thN o
structure CI (a : List EO) (g : Nat) : Prop where
  p : ∀ o ∈ a, opk o
  s : sumT a ≤ 1073741824
  g : atHead a g
def nxA (a : List EO) (g : Nat) : List EO := match a with
  | [] => []
  | o :: r => if g < thN o then o :: r else r
def nxG (a : List EO) (g : Nat) : Nat := match a with
  | [] => 0
  | o :: _ => if g < thN o then g else 0
def kdA (a : List EO) : Int := match a with
  | [] => 0
  | o :: _ => o.Kind
def lfA (a : List EO) (g : Nat) : Int := match a with
  | [] => 0
  | o :: _ => ((thN o - g : Nat) : Int)
def mu (a : List EO) (g : Nat) : Nat := match a with
  | [] => 0
  | o :: r => r.length + (if g < thN o then 1 else 0)
theorem sumT_cons (o : EO) (r : List EO) : sumT (o :: r) = thN o + sumT r := by unfold sumT; rw [List.map_cons, List.sum_cons]
theorem mu_le (a : List EO) (g : Nat) : mu a g ≤ a.length := by
  unfold mu
  split
  · simp
  · rename_i o r
    rw [List.length_cons]
    split <;> omega
theorem nx_CI {a : List EO} {g : Nat} (h : CI a g) : CI (nxA a g) (nxG a g) ∧ (∀ o r, nxA a g = o :: r → nxG a g < thN o) ∧ mu (nxA a g) (nxG a g) = mu a g := by
  cases a with
  | nil => exact ⟨⟨h.p, h.s, rfl⟩, fun o r e => by simp [nxA] at e, rfl⟩
  | cons o r =>
    have hs := h.s
    rw [sumT_cons] at hs
    by_cases hg : g < thN o
    · have e1 : nxA (o :: r) g = o :: r := if_pos hg
      have e2 : nxG (o :: r) g = g := if_pos hg
      rw [e1, e2]
      exact ⟨h, fun o' r' e => by injection e with e _; rw [← e]; exact hg, rfl⟩
    · have e1 : nxA (o :: r) g = r := if_neg hg
      have e2 : nxG (o :: r) g = 0 := if_neg hg
      have e3 : mu (o :: r) g = r.length := by show r.length + (if g < thN o then 1 else 0) = _; rw [if_neg hg, Nat.add_zero]
      rw [e1, e2, e3]
      have hp : ∀ x ∈ r, opk x := fun x hx => h.p x (by simp [hx])
      cases r with
      | nil => exact ⟨⟨hp, by omega, rfl⟩, fun o' r' e => by simp at e, rfl⟩
      | cons o' r' =>
        have := (kids_ok (hp o' (by simp))).2
        refine ⟨⟨hp, by omega, Nat.zero_le _⟩, fun x y e => by injection e with e _; rw [← e]; omega, ?_⟩
        show r'.length + (if 0 < thN o' then 1 else 0) = _
        rw [if_pos (by omega)]; rfl
theorem l0_nil (g : Int) : m_align_cursor_next_L0 ([], g) = some (.inr (.inr ([], g))) := rfl
theorem l0_more {o : EO} {r : List EO} {g : Nat} (ho : opk o) (hs : thN o ≤ 1073741824) (hg : g < thN o) : m_align_cursor_next_L0 (o :: r, ((g : Nat) : Int)) = some (.inr (.inl (o.Kind, ((thN o - g : Nat) : Int), o :: r, ((g : Nat) : Int)))) := by
  unfold m_align_cursor_next_L0
  have e0 : getI (o :: r) 0 = some o := getI_of (i := 0) rfl
  have e1 : decide (0 < ((o :: r).length : Int)) = true := by rw [decide_eq_true_eq, List.length_cons]; omega
  have e2 : IntKind.i64.wrap (((thN o : Nat) : Int) - ((g : Nat) : Int)) = ((thN o - g : Nat) : Int) := by rw [i64s (by omega) (by omega)]; omega
  have e3 : decide (0 < ((thN o - g : Nat) : Int)) = true := by rw [decide_eq_true_eq]; omega
  simp only
  rw [e1, cond_true, e0, Option.bind_some, (kids_ok ho).1, Option.bind_some, e2, e3, cond_true, Option.bind_some]
theorem l0_gone {o : EO} {r : List EO} (ho : opk o) (hs : thN o ≤ 1073741824) : m_align_cursor_next_L0 (o :: r, ((thN o : Nat) : Int)) = some (.inl (r, 0)) := by
  unfold m_align_cursor_next_L0
  have e0 : getI (o :: r) 0 = some o := getI_of (i := 0) rfl
  have e1 : decide (0 < ((o :: r).length : Int)) = true := by rw [decide_eq_true_eq, List.length_cons]; omega
  have e2 : IntKind.i64.wrap (((thN o : Nat) : Int) - ((thN o : Nat) : Int)) = 0 := by rw [Int.sub_self]; rfl
  have e4 : subI (o :: r) 1 ((o :: r).length : Int) = some r := by
    rw [subI_ok (by omega) (by rw [List.length_cons]; omega) (Int.le_refl _)]
    simp
  simp only
  rw [e1, cond_true, e0, Option.bind_some, (kids_ok ho).1, Option.bind_some, e2, show decide ((0 : Int) < 0) = false from rfl, cond_false, e4, Option.bind_some]
theorem next_ok {a : List EO} {g : Nat} (h : CI a g) : m_align_cursor_next ⟨a, ((g : Nat) : Int)⟩ = some (kdA (nxA a g), lfA (nxA a g) (nxG a g), ⟨nxA a g, ((nxG a g : Nat) : Int)⟩) := by
  unfold m_align_cursor_next
  simp only
  cases a with
  | nil =>
    have hg : g = 0 := h.g
    subst hg
    rw [runLoop_end (l0_nil _), Option.bind_some]
    rfl
  | cons o r =>
    have hs := h.s
    rw [sumT_cons] at hs
    have ho := h.p o (by simp)
    by_cases hg : g < thN o
    · have e1 : nxA (o :: r) g = o :: r := if_pos hg
      have e2 : nxG (o :: r) g = g := if_pos hg
      rw [e1, e2, runLoop_end (l0_more ho (by omega) hg), Option.bind_some]
      rfl
    · have hgg : g = thN o := by have : g ≤ thN o := h.g; omega
      have e1 : nxA (o :: r) g = r := if_neg hg
      have e2 : nxG (o :: r) g = 0 := if_neg hg
      rw [e1, e2, hgg, runLoop_step (l0_gone ho (by omega))]
      cases r with
      | nil => rw [runLoop_end (l0_nil _), Option.bind_some]; rfl
      | cons o' r' =>
        have ho' := h.p o' (by simp)
        have := (kids_ok ho').2
        rw [sumT_cons] at hs
        have := runLoop_end (l0_more (r := r') (g := 0) ho' (by omega) (by omega))
        rw [show (((0 : Nat) : Int)) = 0 from rfl] at this
        rw [this, Option.bind_some]
        rfl
theorem take_ok {o : EO} {r : List EO} {g n : Nat} (ho : opk o) (hs : thN o ≤ 1073741824) (h : g + n ≤ thN o) : ∃ x, m_align_cursor_take ⟨o :: r, ((g : Nat) : Int)⟩ ((n : Nat) : Int) = some (x, ⟨o :: r, ((g + n : Nat) : Int)⟩) := by
  unfold m_align_cursor_take
  have e0 : getI (o :: r) 0 = some o := getI_of (i := 0) rfl
  have e2 : IntKind.i64.wrap (((g : Nat) : Int) + ((n : Nat) : Int)) = ((g + n : Nat) : Int) := by rw [i64s (by omega) (by omega)]; omega
  simp only
  rw [e0, Option.bind_some, e2]
  unfold thN at h
  rcases ho with ⟨k, hh⟩ | ⟨k, hh⟩ | ⟨k, hh⟩ | k
  · rw [show (o.Kind == 0) = true from by rw [k]; rfl, cond_true, Option.bind_some]
    exact ⟨_, rfl⟩
  · rw [if_neg (by omega), if_neg (by omega)] at h
    rw [show (o.Kind == 0) = false from by rw [k]; rfl, show (o.Kind == 1) = true from by rw [k]; rfl, cond_false, cond_true, Option.bind_some, cond_true, subI_ok (by omega) (by omega) (by omega)]
    exact ⟨_, rfl⟩
  · rw [if_neg (by omega), if_neg (by omega)] at h
    rw [show (o.Kind == 0) = false from by rw [k]; rfl, show (o.Kind == 1) = false from by rw [k]; rfl, show (o.Kind == 2) = true from by rw [k]; rfl, cond_false, cond_false, Option.bind_some, cond_true, subI_ok (by omega) (by omega) (by omega)]
    exact ⟨_, rfl⟩
  · rw [show (o.Kind == 0) = false from by rw [k]; rfl, show (o.Kind == 1) = false from by rw [k]; rfl, show (o.Kind == 2) = false from by rw [k]; rfl, cond_false, cond_false, Option.bind_some, cond_false, Option.bind_some]
    exact ⟨_, rfl⟩
/-- a round laid some piece, and one of the two lists has a step fewer -/
def Less (a : List EO) (g : Nat) (b : List EO) (h : Nat) (out : List S_align_Piece) (r : ((List S_api_Op) × Int × (List S_api_Op) × Int × (List S_align_Piece)) ⊕ ((List S_align_Piece) × Bool)) : Prop :=
  r = .inr (out, true) ∨ r = .inr ([], false) ∨ ∃ a' g' b' h' x, r = .inl (a', ((g' : Nat) : Int), b', ((h' : Nat) : Int), out ++ [x]) ∧ CI a' g' ∧ CI b' h' ∧ mu a' g' + mu b' h' + 1 ≤ mu a g + mu b h
theorem eat {o : EO} {r : List EO} {g n : Nat} (h : CI (o :: r) g) (hn : g + n ≤ thN o) : CI (o :: r) (g + n) ∧ mu (o :: r) (g + n) ≤ mu (o :: r) g ∧ (g < thN o → g + n = thN o → mu (o :: r) (g + n) + 1 ≤ mu (o :: r) g) := by
  refine ⟨⟨h.p, h.s, hn⟩, ?_, fun h1 h2 => ?_⟩
  · show r.length + (if g + n < thN o then 1 else 0) ≤ r.length + (if g < thN o then 1 else 0)
    split <;> split <;> omega
  · show r.length + (if g + n < thN o then 1 else 0) + 1 ≤ r.length + (if g < thN o then 1 else 0)
    rw [if_neg (by omega), if_pos h1]; omega
theorem piece_step {k k' : Int} {a : List EO} {g : Nat} {b : List EO} {h : Nat} {out : List S_align_Piece} (ha : CI a g) (hb : CI b h) (ho : out.length ≤ 4194304) : ∃ r, m_align_pieces_L0 k k' (a, ((g : Nat) : Int), b, ((h : Nat) : Int), out) = some r ∧ Less a g b h out r := by
  obtain ⟨a1, a2, a3⟩ := nx_CI ha
  obtain ⟨b1, b2, b3⟩ := nx_CI hb
  have ea := next_ok ha
  have eb := next_ok hb
  unfold m_align_pieces_L0
  simp only
  unfold Less
  rw [← a3, ← b3]
  generalize nxA a g = a' at *
  generalize nxG a g = g' at *
  generalize nxA b h = b' at *
  generalize nxG b h = h' at *
  have ap : ∀ x : S_align_Piece, appI 488 out [x] = some (out ++ [x]) := fun x => appI_ok (by simp only [List.length_singleton]; omega) (by simp only [List.length_singleton]; omega)
  cases a' with
  | nil =>
    have hg' : g' = 0 := a1.g
    subst hg'
    have ea' : m_align_cursor_next ⟨a, ((g : Nat) : Int)⟩ = some (0, 0, ⟨[], ((0 : Nat) : Int)⟩) := ea
    cases b' with
    | nil =>
      have hh' : h' = 0 := b1.g
      subst hh'
      have eb' : m_align_cursor_next ⟨b, ((h : Nat) : Int)⟩ = some (0, 0, ⟨[], ((0 : Nat) : Int)⟩) := eb
      rw [ea', Option.bind_some, eb', Option.bind_some]
      refine ⟨.inr (out, true), ?_, .inl rfl⟩
      rfl
    | cons o' r' =>
      have q := b2 o' r' rfl
      have hs := b1.s
      rw [sumT_cons] at hs
      have e3 : decide (0 < ((thN o' - h' : Nat) : Int)) = true := by rw [decide_eq_true_eq]; omega
      have e4 : (((thN o' - h' : Nat) : Int) == 0) = false := by rw [beq_eq_false_iff_ne]; omega
      obtain ⟨x, hx⟩ := take_ok (r := r') (g := h') (n := thN o' - h') (b1.p o' (by simp)) (by omega) (by omega)
      obtain ⟨t1, t2, t3⟩ := eat (n := thN o' - h') b1 (by omega)
      have eb' : m_align_cursor_next ⟨b, ((h : Nat) : Int)⟩ = some (o'.Kind, ((thN o' - h' : Nat) : Int), ⟨o' :: r', ((h' : Nat) : Int)⟩) := eb
      rw [ea', Option.bind_some, eb', Option.bind_some]
      simp only
      rw [show decide ((0 : Int) < 0) = false from rfl, cond_false, cond_false, e3, cond_true, show ((0 : Int) == 0) = true from rfl, cond_true, e4, cond_false, cond_true, cond_true]
      cases o'.Kind == k' with
      | true =>
        rw [cond_true, hx, Option.bind_some, ap, Option.bind_some]
        exact ⟨_, rfl, .inr (.inr ⟨_, _, _, _, _, rfl, a1, t1, by have := t3 q (by omega); (try simp only); omega⟩)⟩
      | false => exact ⟨_, rfl, .inr (.inl rfl)⟩
  | cons o r =>
    have p := a2 o r rfl
    have hs := a1.s
    rw [sumT_cons] at hs
    have e1 : decide (0 < ((thN o - g' : Nat) : Int)) = true := by rw [decide_eq_true_eq]; omega
    have e2 : (((thN o - g' : Nat) : Int) == 0) = false := by rw [beq_eq_false_iff_ne]; omega
    have ea' : m_align_cursor_next ⟨a, ((g : Nat) : Int)⟩ = some (o.Kind, ((thN o - g' : Nat) : Int), ⟨o :: r, ((g' : Nat) : Int)⟩) := ea
    rw [ea', Option.bind_some]
    simp only
    rw [e1, cond_true]
    cases o.Kind == k with
    | true =>
      obtain ⟨x, hx⟩ := take_ok (r := r) (g := g') (n := thN o - g') (a1.p o (by simp)) (by omega) (by omega)
      obtain ⟨t1, t2, t3⟩ := eat (n := thN o - g') a1 (by omega)
      have eb' : m_align_cursor_next ⟨b, ((h : Nat) : Int)⟩ = some (kdA b', lfA b' h', ⟨b', ((h' : Nat) : Int)⟩) := eb
      rw [eb', Option.bind_some, cond_true, hx, Option.bind_some]
      simp only
      rw [ap, Option.bind_some]
      exact ⟨_, rfl, .inr (.inr ⟨_, _, _, _, _, rfl, t1, b1, by have := t3 p (by omega); (try simp only); omega⟩)⟩
    | false =>
      cases b' with
      | nil =>
        have eb' : m_align_cursor_next ⟨b, ((h : Nat) : Int)⟩ = some (0, 0, ⟨[], ((h' : Nat) : Int)⟩) := eb
        rw [eb', Option.bind_some]
        simp only
        rw [cond_false, e2, cond_false, cond_false]
        exact ⟨_, rfl, .inr (.inl rfl)⟩
      | cons o' r' =>
        have q := b2 o' r' rfl
        have hs' := b1.s
        rw [sumT_cons] at hs'
        have e3 : decide (0 < ((thN o' - h' : Nat) : Int)) = true := by rw [decide_eq_true_eq]; omega
        have e4 : (((thN o' - h' : Nat) : Int) == 0) = false := by rw [beq_eq_false_iff_ne]; omega
        have eb' : m_align_cursor_next ⟨b, ((h : Nat) : Int)⟩ = some (o'.Kind, ((thN o' - h' : Nat) : Int), ⟨o' :: r', ((h' : Nat) : Int)⟩) := eb
        rw [eb', Option.bind_some]
        simp only
        rw [cond_false, e2, cond_false, cond_false, e3, cond_true]
        cases o'.Kind == k' with
        | true =>
          obtain ⟨x, hx⟩ := take_ok (r := r') (g := h') (n := thN o' - h') (b1.p o' (by simp)) (by omega) (by omega)
          obtain ⟨t1, t2, t3⟩ := eat (n := thN o' - h') b1 (by omega)
          rw [cond_true, hx, Option.bind_some, ap, Option.bind_some]
          exact ⟨_, rfl, .inr (.inr ⟨_, _, _, _, _, rfl, a1, t1, by have := t3 q (by omega); (try simp only); omega⟩)⟩
        | false =>
          have em : (if ((thN o' - h' : Nat) : Int) < ((thN o - g' : Nat) : Int) then ((thN o' - h' : Nat) : Int) else ((thN o - g' : Nat) : Int)) = ((min (thN o - g') (thN o' - h') : Nat) : Int) := by split <;> omega
          obtain ⟨x, hx⟩ := take_ok (r := r) (g := g') (n := min (thN o - g') (thN o' - h')) (a1.p o (by simp)) (by omega) (by omega)
          obtain ⟨y, hy⟩ := take_ok (r := r') (g := h') (n := min (thN o - g') (thN o' - h')) (b1.p o' (by simp)) (by omega) (by omega)
          obtain ⟨t1, t2, t3⟩ := eat (n := min (thN o - g') (thN o' - h')) a1 (by omega)
          obtain ⟨u1, u2, u3⟩ := eat (n := min (thN o - g') (thN o' - h')) b1 (by omega)
          rw [cond_false, e4, cond_false, em, hx, Option.bind_some, hy, Option.bind_some, ap, Option.bind_some]
          refine ⟨_, rfl, .inr (.inr ⟨_, _, _, _, _, rfl, t1, u1, ?_⟩)⟩
          try simp only
          by_cases hm : thN o - g' ≤ thN o' - h'
          · have := t3 p (by omega); omega
          · have := u3 q (by omega); omega
theorem pieces_loop {k k' : Int} : ∀ (m : Nat) (a : List EO) (g : Nat) (b : List EO) (h : Nat) (out : List S_align_Piece), mu a g + mu b h ≤ m → CI a g → CI b h → out.length + m ≤ 4194304 →
    ∃ o ok, runLoop (m_align_pieces_L0 k k') (a, ((g : Nat) : Int), b, ((h : Nat) : Int), out) = some (o, ok) ∧ (ok = true → o.length ≤ out.length + m)
  | m, a, g, b, h, out, hm, ha, hb, ho => by
    obtain ⟨r, h1, h2⟩ := piece_step (k := k) (k' := k') ha hb (out := out) (by omega)
    rcases h2 with rfl | rfl | ⟨a', g', b', h', x, rfl, c1, c2, c3⟩
    · exact ⟨_, _, runLoop_end h1, fun _ => by omega⟩
    · exact ⟨_, _, runLoop_end h1, fun h => by simp at h⟩
    · cases m with
      | zero => omega
      | succ m =>
        obtain ⟨o, ok, q1, q2⟩ := pieces_loop (k := k) (k' := k') m a' g' b' h' (out ++ [x]) (by omega) c1 c2 (by rw [List.length_append, List.length_singleton]; omega)
        refine ⟨o, ok, by rw [runLoop_step h1]; exact q1, fun h => ?_⟩
        have := q2 h
        rw [List.length_append, List.length_singleton] at this
        omega
theorem ci_of {l : Int} {a : List EO} (h : GN ⟨3, n0T, n0T, [], [], l, a⟩) : CI a 0 := ⟨h.p, h.s, by unfold atHead; split <;> omega⟩
theorem through_ok {a b : List EO} (ha : CI a 0) (hb : CI b 0) (h1 : a.length ≤ 1048576) (h2 : b.length ≤ 1048576) : ∃ o ok, m_align_Through a b = some (o, ok) ∧ (ok = true → o.length ≤ a.length + b.length) := by
  have m1 := mu_le a 0
  have m2 := mu_le b 0
  obtain ⟨o, ok, q1, q2⟩ := pieces_loop (k := 2) (k' := 2) (a.length + b.length) a 0 b 0 [] (by omega) ha hb (by simp only [List.length_nil]; omega)
  refine ⟨o, ok, ?_, fun h => by have := q2 h; simp only [List.length_nil] at this; omega⟩
  unfold m_align_Through m_align_pieces
  rw [show (((0 : Nat) : Int)) = 0 from rfl] at q1
  rw [q1]
  rfl
def BL (a : List EO) : Prop := (a.length : Int) ≤ 140737488355328 ∧ ∀ o ∈ a, BO o
theorem BL.be {a : List EO} (h : BL a) (l : Int) : BE ⟨3, n0T, n0T, [], [], l, a⟩ := .mk _ bd_n0 bd_n0 (by simp) (by simp) (by simp) (by simp) h.1 (fun o ho => (h.2 o ho).1) fun o ho => (h.2 o ho).2
theorem steps_ok {a : List EO} (h : BL a) : ∃ b, m_centolaw24_steps a = some b ∧ (b = true → CI a 0 ∧ a.length ≤ 1048576) := by
  obtain ⟨b1, p1, q1⟩ := good20 (h.be 8)
  obtain ⟨b2, p2, q2⟩ := good20 (h.be 4)
  have f : ∀ l : Int, rE ⟨3, n0T, n0T, [], [], l, a⟩ 64 = true ∧ ce ⟨3, n0T, n0T, [], [], l, a⟩ ≤ 3000 → CI a 0 ∧ a.length ≤ 1048576 := fun l hr => by
    have hg := gn_rE _ _ 64 (Nat.lt_succ_self _) (h.be l) (by omega) hr.1
    exact ⟨ci_of hg, hg.o⟩
  unfold m_centolaw24_steps
  unfold n0T at p1 p2
  rw [p1, Option.bind_some]
  cases b1 with
  | true => exact ⟨true, rfl, fun _ => f 8 (q1 rfl)⟩
  | false =>
    rw [cond_false, p2, Option.bind_some]
    exact ⟨b2, by cases b2 <;> rfl, fun hh => f 4 (q2 hh)⟩
def q24 : List EO := [⟨2, 0, [⟨10, [1], []⟩], eS0⟩, ⟨0, 2, [], eS0⟩]
set_option maxRecDepth 20000 in
theorem awake24 : m_centolaw24_awake = some true := by
  have a1 : m_align_cursor_next ⟨[⟨0, 3, [], eS0⟩], 0⟩ = some (0, 3, ⟨[⟨0, 3, [], eS0⟩], 0⟩) := Option.bind_eq_some_iff.2 ⟨.inl (0, 3, [⟨0, 3, [], eS0⟩], 0), runLoop_end rfl, rfl⟩
  have a2 : m_align_cursor_next ⟨[⟨0, 3, [], eS0⟩], 1⟩ = some (0, 2, ⟨[⟨0, 3, [], eS0⟩], 1⟩) := Option.bind_eq_some_iff.2 ⟨.inl (0, 2, [⟨0, 3, [], eS0⟩], 1), runLoop_end rfl, rfl⟩
  have a3 : m_align_cursor_next ⟨[⟨0, 3, [], eS0⟩], 3⟩ = some (0, 0, ⟨[], 0⟩) := Option.bind_eq_some_iff.2 ⟨.inr ([], 0), (runLoop_step (s' := ([], 0)) rfl).trans (runLoop_end rfl), rfl⟩
  have b1 : m_align_cursor_next ⟨⟨0, 1, [], eS0⟩ :: q24, 0⟩ = some (0, 1, ⟨⟨0, 1, [], eS0⟩ :: q24, 0⟩) := Option.bind_eq_some_iff.2 ⟨.inl (0, 1, ⟨0, 1, [], eS0⟩ :: q24, 0), runLoop_end rfl, rfl⟩
  have b2 : m_align_cursor_next ⟨⟨0, 1, [], eS0⟩ :: q24, 1⟩ = some (2, 1, ⟨q24, 0⟩) := Option.bind_eq_some_iff.2 ⟨.inl (2, 1, q24, 0), (runLoop_step (s' := (q24, 0)) rfl).trans (runLoop_end rfl), rfl⟩
  have b3 : m_align_cursor_next ⟨q24, 1⟩ = some (0, 2, ⟨[⟨0, 2, [], eS0⟩], 0⟩) := Option.bind_eq_some_iff.2 ⟨.inl (0, 2, [⟨0, 2, [], eS0⟩], 0), (runLoop_step (s' := ([⟨0, 2, [], eS0⟩], 0)) rfl).trans (runLoop_end rfl), rfl⟩
  have b4 : m_align_cursor_next ⟨[⟨0, 2, [], eS0⟩], 2⟩ = some (0, 0, ⟨[], 0⟩) := Option.bind_eq_some_iff.2 ⟨.inr ([], 0), (runLoop_step (s' := ([], 0)) rfl).trans (runLoop_end rfl), rfl⟩
  let x1 : S_align_Piece := ⟨0, ⟨0, 1, [], eS0⟩, ⟨0, 1, [], eS0⟩⟩
  let x2 : S_align_Piece := ⟨2, ⟨0, 0, [], eS0⟩, ⟨2, 0, [⟨10, [1], []⟩], eS0⟩⟩
  let x3 : S_align_Piece := ⟨0, ⟨0, 2, [], eS0⟩, ⟨0, 2, [], eS0⟩⟩
  have s1 : m_align_pieces_L0 2 2 ([⟨0, 3, [], eS0⟩], 0, ⟨0, 1, [], eS0⟩ :: q24, 0, []) = some (.inl ([⟨0, 3, [], eS0⟩], 1, ⟨0, 1, [], eS0⟩ :: q24, 1, [x1])) :=
    Option.bind_eq_some_iff.2 ⟨_, a1, Option.bind_eq_some_iff.2 ⟨_, b1, rfl⟩⟩
  have s2 : m_align_pieces_L0 2 2 ([⟨0, 3, [], eS0⟩], 1, ⟨0, 1, [], eS0⟩ :: q24, 1, [x1]) = some (.inl ([⟨0, 3, [], eS0⟩], 1, q24, 1, [x1, x2])) :=
    Option.bind_eq_some_iff.2 ⟨_, a2, Option.bind_eq_some_iff.2 ⟨_, b2, rfl⟩⟩
  have s3 : m_align_pieces_L0 2 2 ([⟨0, 3, [], eS0⟩], 1, q24, 1, [x1, x2]) = some (.inl ([⟨0, 3, [], eS0⟩], 3, [⟨0, 2, [], eS0⟩], 2, [x1, x2, x3])) :=
    Option.bind_eq_some_iff.2 ⟨_, a2, Option.bind_eq_some_iff.2 ⟨_, b3, rfl⟩⟩
  have s4 : m_align_pieces_L0 2 2 ([⟨0, 3, [], eS0⟩], 3, [⟨0, 2, [], eS0⟩], 2, [x1, x2, x3]) = some (.inr ([x1, x2, x3], true)) :=
    Option.bind_eq_some_iff.2 ⟨_, a3, Option.bind_eq_some_iff.2 ⟨_, b4, rfl⟩⟩
  have hl : runLoop (m_align_pieces_L0 2 2) ([⟨0, 3, [], eS0⟩], 0, ⟨0, 1, [], eS0⟩ :: q24, 0, []) = some ([x1, x2, x3], true) := by
    rw [runLoop_step s1, runLoop_step s2, runLoop_step s3, runLoop_end s4]
  have ht : m_align_Through [⟨0, 3, [], eS0⟩] (⟨0, 1, [], eS0⟩ :: q24) = some ([x1, x2, x3], true) :=
    Option.bind_eq_some_iff.2 ⟨_, Option.bind_eq_some_iff.2 ⟨_, hl, rfl⟩, rfl⟩
  exact Option.bind_eq_some_iff.2 ⟨_, ht, rfl⟩
theorem alignWhole_p {a b : List EO} (ha : BL a) (hb : BL b) : m_centolaw24_AlignWhole a b = some true := by
  obtain ⟨s, h1, h2⟩ := steps_ok ha
  obtain ⟨t, h3, h4⟩ := steps_ok hb
  unfold m_centolaw24_AlignWhole
  rw [h1, Option.bind_some]
  cases s with
  | false => rw [cond_false, Option.bind_some, cond_true, awake24]; rfl
  | true =>
    rw [cond_true, h3, Option.bind_some]
    cases t with
    | false => rw [Option.bind_some, awake24]; rfl
    | true =>
      obtain ⟨c1, l1⟩ := h2 rfl
      obtain ⟨c2, l2⟩ := h4 rfl
      obtain ⟨o, ok, q1, q2⟩ := through_ok c1 c2 l1 l2
      rw [Option.bind_some, q1, awake24]
      cases ok with
      | false => rfl
      | true =>
        have hd : decide ((o.length : Int) ≤ IntKind.i64.wrap ((a.length : Int) + (b.length : Int))) = true := by
          rw [i64s (by omega) (by omega), decide_eq_true_eq]
          have := q2 rfl
          omega
        simp only [Option.bind_some, Bool.not_true, cond_false, cond_true, hd]


end Go.Proofs.Ytbcgiaijjaocdaa
