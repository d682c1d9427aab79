/- Plain facts on this seat's mirrors (part VP2); each theorem bears its own conditions. -/
import Derived.Test.YtpfbdlcnfekdkaaVP1
import Derived.IntWalk
namespace Go.Proofs.Ytpfbdlcnfekdkaa
open Go.RowKit
set_option linter.unusedVariables false
set_option linter.unusedSimpArgs false
theorem TX.s {t : Tr} (h : TX t) : t.Kind = 9 → ∀ k ∈ t.Kids, k.Kind = 1 := by cases h; assumption
theorem TX.all {t : Tr} (h : TX t) : ∀ k ∈ t.Kids, TX k := by cases h; assumption
theorem TX.z : TX n0T := .mk _ (fun _ => rfl) (fun h => by simp [n0T] at h) (by simp [n0T])
theorem TX.nn : ∀ (n : Nat) (t : Tr), SizeOf.sizeOf t < n → TX t → TX (nrm t)
  | 0, _, h, _ => by omega
  | n + 1, t, hn, h => by
    by_cases h0 : t.Kind = 0
    · rw [nrm_null h0]; exact TX.z
    by_cases h1 : t.Kind = 1
    · rw [nrm_struct h1]
      refine .mk _ (fun h => by simp only at h; omega) (fun h => by simp only at h; omega) fun k hk => ?_
      obtain ⟨y, hy, rfl⟩ := List.mem_map.1 (tr_mem hk)
      exact TX.nn n y (by have := kid_lt hy; omega) (h.all y hy)
    · rw [nrm_list h0 h1]
      refine .mk _ h.w (fun h9 k hk => ?_) fun k hk => ?_
      · obtain ⟨y, hy, rfl⟩ := List.mem_map.1 hk
        rw [nrm_kind]; exact h.s h9 y hy
      · obtain ⟨y, hy, rfl⟩ := List.mem_map.1 hk
        exact TX.nn n y (by have := kid_lt hy; omega) (h.all y hy)
theorem TX.n {t : Tr} (h : TX t) : TX (nrm t) := TX.nn _ t (Nat.lt_succ_self _) h
theorem atD_mem {α : Type} {z : α} {l : List α} {i : Nat} : atD z l i ∈ l ∨ atD z l i = z := by
  unfold atD
  cases h : l[i]? with
  | none => exact .inr rfl
  | some x => exact .inl (List.mem_of_getElem? h)
theorem atD_rg {l : List Int} (h : ∀ x ∈ l, 0 ≤ x ∧ x < 18446744073709551616) (i : Nat) : 0 ≤ atD 0 l i ∧ atD 0 l i < 18446744073709551616 := by
  rcases atD_mem (z := (0 : Int)) (l := l) (i := i) with q | q
  · exact h _ q
  · rw [q]; omega
/-- a good tree without what is in vain -/
structure GT (t : Tr) : Prop where
  n : NT t
  g : Rg t
  x : TX t
theorem GT.z : GT n0T := ⟨NT.z, Rg.z, TX.z⟩
theorem GT.all {t : Tr} (h : GT t) : ∀ k ∈ t.Kids, GT k := fun k hk => ⟨h.n.kids k hk, h.g.all k hk, h.x.all k hk⟩
theorem GT.of {t : Tr} (hb : Bd t) (hx : TX t) : GT (nrm t) := ⟨NT.of t, hb.nrm.rg, hx.n⟩
def both {α : Type} (f : α → α → Option α) : Option α → Option α → Option α
  | some x, some y => f x y
  | some x, none => some x
  | none, y => y
def Rise {α : Type} (pl : α → Int) (l : List α) : Prop := l.Pairwise (fun a b => pl a < pl b) ∧ ∀ x ∈ l, 0 ≤ pl x
theorem Rise.tail {α : Type} {pl : α → Int} {x : α} {l : List α} (h : Rise pl (x :: l)) : Rise pl l := ⟨(List.pairwise_cons.1 h.1).2, fun y hy => h.2 y (.tail _ hy)⟩
theorem GT.w {t : Tr} (h : GT t) (j : Nat) : 0 ≤ atD 0 t.Words j ∧ atD 0 t.Words j < 18446744073709551616 := atD_rg h.g.u j
theorem w_l (a b : Int) : IntKind.i64.wrap (IntKind.i64.wrap a + b) = IntKind.i64.wrap (a + b) := by rw [IntKind.wrap_i64 a, IntKind.wrap_i64, IntKind.wrap_i64]; omega
theorem w_r (a b : Int) : IntKind.i64.wrap (a + IntKind.i64.wrap b) = IntKind.i64.wrap (a + b) := by rw [IntKind.wrap_i64 b, IntKind.wrap_i64, IntKind.wrap_i64]; omega
theorem w_w (a : Int) : IntKind.i64.wrap (IntKind.i64.wrap a) = IntKind.i64.wrap a := by rw [IntKind.wrap_i64 a, IntKind.wrap_i64]; omega
theorem w_lr (a b : Int) : IntKind.i64.wrap (IntKind.i64.wrap a + IntKind.i64.wrap b) = IntKind.i64.wrap (a + b) := by rw [w_l, w_r]
theorem sum_foldl {α : Type} (g : α → Int) : ∀ (l : List α) (s : Int), l.foldl (fun s x => s + g x) s = s + (l.map g).sum
  | [], s => by simp
  | x :: l, s => by rw [List.foldl_cons, sum_foldl g l, List.map_cons, List.sum_cons]; omega
/-- how many words, and kids -/
def frS (s : Int × Int) (x : Tr) : Int × Int := (if s.1 < (x.Words.length : Int) then (x.Words.length : Int) else s.1, if s.2 < (x.Kids.length : Int) then (x.Kids.length : Int) else s.2)
def fr (l : List Tr) : Int × Int := l.foldl frS (0, 0)
theorem frame_ok {t : Tr} (hl : (t.Kids.length : Int) ≤ 140737488355328) : m_tree_Frame t = some (fr t.Kids) := by
  unfold m_tree_Frame
  rw [(loop_fold t.Kids (fun (s : Int × Int) (i : Int) => (s.1, s.2, i)) frS id (fun _ => True) (m_tree_Frame_L0 t) hl (fun s i x _ hi hx hm => ⟨trivial, by
    unfold m_tree_Frame_L0
    simp only
    rw [lt_t hi, cond_true, getI_of hx, Option.bind_some]
    rfl⟩) (fun s _ => by
    unfold m_tree_Frame_L0
    simp only
    rw [lt_f, cond_false]
    rfl) (0, 0) trivial).1, Option.bind_some]
  rfl
theorem rframe_ok {t : Tr} (hl : (t.Kids.length : Int) ≤ 140737488355328) : m_centoref07_Frame t = some (fr t.Kids) := by
  unfold m_centoref07_Frame
  rw [(loop_fold t.Kids (fun (s : Int × Int) (i : Int) => (s.1, s.2, i)) frS id (fun _ => True) (m_centoref07_Frame_L0 t) hl (fun s i x _ hi hx hm => ⟨trivial, by
    unfold m_centoref07_Frame_L0 frS
    simp only
    rw [lt_t hi, cond_true, getI_of hx, Option.bind_some]
    by_cases h1 : s.1 < (x.Words.length : Int) <;> by_cases h2 : s.2 < (x.Kids.length : Int) <;> simp [h1, h2]⟩) (fun s _ => by
    unfold m_centoref07_Frame_L0
    simp only
    rw [lt_f, cond_false]
    rfl) (0, 0) trivial).1, Option.bind_some]
  rfl
/-- a row's own words -/
def h9 (l : List Tr) : Int := IntKind.i64.wrap (1 + IntKind.i64.wrap ((l.length : Int) * IntKind.i64.wrap ((fr l).1 + (fr l).2)))
def roomZ (c : Int) (n : Nat) : Int := ((n * wid c + 63) / 64 : Nat)
/-- how many words a norm takes -/
def sz (t : Tr) : Int :=
  if t.Kind = 1 then ((t.Words.length : Int) + (t.Kids.length : Int)) + (t.Kids.attach.map fun k => sz k.1).sum
  else if 2 ≤ t.Kind ∧ t.Kind ≤ 7 then roomZ (t.Kind - 2) t.Kids.length
  else if t.Kind = 8 then (t.Kids.length : Int) + (t.Kids.attach.map fun k => sz k.1).sum
  else if t.Kind = 9 then h9 t.Kids + (t.Kids.attach.map fun k => (k.1.Kids.attach.map fun j => sz j.1).sum).sum
  else 0
termination_by SizeOf.sizeOf t
decreasing_by
  · exact kid_lt k.2
  · exact kid_lt k.2
  · exact Nat.lt_trans (kid_lt j.2) (kid_lt k.2)
theorem sz_eq (t : Tr) : sz t = if t.Kind = 1 then ((t.Words.length : Int) + (t.Kids.length : Int)) + (t.Kids.map sz).sum
  else if 2 ≤ t.Kind ∧ t.Kind ≤ 7 then roomZ (t.Kind - 2) t.Kids.length
  else if t.Kind = 8 then (t.Kids.length : Int) + (t.Kids.map sz).sum
  else if t.Kind = 9 then h9 t.Kids + (t.Kids.map fun k => (k.Kids.map sz).sum).sum
  else 0 := by
  rw [sz]
  have h1 : (t.Kids.attach.map fun k => (k.1.Kids.attach.map fun j => sz j.1).sum) = t.Kids.map fun k => (k.Kids.map sz).sum := by
    have : (fun (k : { x // x ∈ t.Kids }) => (k.1.Kids.attach.map fun j => sz j.1).sum) = fun (k : { x // x ∈ t.Kids }) => (fun k : Tr => (k.Kids.map sz).sum) k.1 := funext fun k => congrArg List.sum (List.attach_map_val (f := sz))
    rw [this]
    exact List.attach_map_val (f := fun k : Tr => (k.Kids.map sz).sum)
  rw [h1]
  simp only [List.attach_map_val]
theorem c5' {c : Int} (h : 0 ≤ c ∧ c ≤ 5) : c = 0 ∨ c = 1 ∨ c = 2 ∨ c = 3 ∨ c = 4 ∨ c = 5 := by omega
theorem rwid_ok {c : Int} (h : 0 ≤ c ∧ c ≤ 5) : m_centoref01_Width c = some ((wid c : Nat) : Int) := by
  unfold m_centoref01_Width
  rcases c5' h with rfl | rfl | rfl | rfl | rfl | rfl <;> rfl
theorem rroom_ok {c : Int} (h : 0 ≤ c ∧ c ≤ 5) {n : Nat} (hn : n ≤ 1099511627776) : m_centoref01_Room c (n : Int) = some (((n * wid c + 63) / 64 : Nat) : Int) := by
  unfold m_centoref01_Room
  rw [rwid_ok h, Option.bind_some]
  have key : ∀ (w p : Nat), (1 ≤ w ∧ w ≤ 64) → w * p = 64 → Int.tdiv 64 (w : Int) = (p : Int) → (cond (cond (cond (decide ((w : Int) < 1)) true (decide ((n : Int) < 0))) true (decide ((1099511627776 : Int) < (n : Int)))) (some 0) ((some ((w : Nat) : Int)).bind fun y5 => (guardI (y5 ≠ 0)).bind fun u6 => (guardI ((IntKind.i64.wrap (Int.tdiv 64 y5)) ≠ 0)).bind fun u8 => cond (decide (0 < (Int.tmod (n : Int) (IntKind.i64.wrap (Int.tdiv 64 y5))))) ((guardI ((IntKind.i64.wrap (Int.tdiv 64 y5)) ≠ 0)).bind fun u10 => some (IntKind.i64.wrap ((IntKind.i64.wrap (Int.tdiv (n : Int) (IntKind.i64.wrap (Int.tdiv 64 y5)))) + 1))) ((guardI ((IntKind.i64.wrap (Int.tdiv 64 y5)) ≠ 0)).bind fun u12 => some (IntKind.i64.wrap (Int.tdiv (n : Int) (IntKind.i64.wrap (Int.tdiv 64 y5))))))) = some (((n * w + 63) / 64 : Nat) : Int) := fun w p hw hp ht => by
    have hp1 : 1 ≤ p ∧ p ≤ 64 := by
      rcases Nat.eq_zero_or_pos p with q | q
      · rw [q] at hp; omega
      · exact ⟨q, by have := Nat.mul_le_mul_right p hw.1; omega⟩
    have hd : n / p ≤ n := Nat.div_le_self _ _
    have hm : p * (n / p) + n % p = n := Nat.div_add_mod n p
    have hml : n % p < p := Nat.mod_lt _ hp1.1
    have ed : (n : Int) / (p : Int) = ((n / p : Nat) : Int) := rfl
    have em : (n : Int) % (p : Int) = ((n % p : Nat) : Int) := rfl
    have enw : n * w = 64 * (n / p) + n % p * w := by
      have : n * w = (p * (n / p) + n % p) * w := by rw [hm]
      rw [this, Nat.add_mul, Nat.mul_comm p, Nat.mul_assoc, Nat.mul_comm p, hp, Nat.mul_comm (n / p)]
    rw [show decide ((w : Int) < 1) = false from by rw [decide_eq_false_iff_not]; omega, cond_false, show decide ((n : Int) < 0) = false from by rw [decide_eq_false_iff_not]; omega, cond_false, show decide ((1099511627776 : Int) < (n : Int)) = false from by rw [decide_eq_false_iff_not]; omega, cond_false, Option.bind_some, ht, i64s (x := (p : Int)) (by omega) (by omega), guardI_ok (by omega), Option.bind_some, guardI_ok (by omega), Option.bind_some, Int.tmod_eq_emod_of_nonneg (by omega), Int.tdiv_eq_ediv_of_nonneg (by omega), ed, em, i64s (x := ((n / p : Nat) : Int)) (by omega) (by omega), i64s (x := ((n / p : Nat) : Int) + 1) (by omega) (by omega)]
    by_cases q : 0 < n % p
    · have h1 : 1 * w ≤ n % p * w := Nat.mul_le_mul_right _ q
      have h2 : (n % p + 1) * w ≤ p * w := Nat.mul_le_mul_right _ hml
      rw [Nat.mul_comm p, hp, Nat.add_mul, Nat.one_mul] at h2
      rw [show decide ((0 : Int) < ((n % p : Nat) : Int)) = true from by rw [decide_eq_true_eq]; omega, cond_true, Option.bind_some]
      congr 1
      generalize n % p * w = z at *
      omega
    · have h0 : n % p = 0 := by omega
      rw [h0, Nat.zero_mul] at enw
      rw [show decide ((0 : Int) < ((n % p : Nat) : Int)) = false from by rw [decide_eq_false_iff_not]; omega, cond_false, Option.bind_some]
      congr 1
      omega
  rcases c5' h with rfl | rfl | rfl | rfl | rfl | rfl
  · rw [show decide (((wid 0 : Nat) : Int) < 1) = true from rfl, cond_true, cond_true, cond_true, show wid 0 = 0 from rfl, Nat.mul_zero]
    rfl
  · exact key 1 64 (by decide) rfl rfl
  · exact key 8 8 (by decide) rfl rfl
  · exact key 16 4 (by decide) rfl rfl
  · exact key 32 2 (by decide) rfl rfl
  · exact key 64 1 (by decide) rfl rfl
theorem wroom_ok {c : Int} (h : 0 ≤ c ∧ c ≤ 5) {n : Nat} (hn : n ≤ 1048576) : m_word_Room c (n : Int) = some (roomZ c n) := by
  have hw : m_word_Width c = some (((wid c : Nat) : Int), true) := by
    unfold m_word_Width
    rcases c5' h with rfl | rfl | rfl | rfl | rfl | rfl <;> rfl
  have hb : wid c ≤ 64 := by rcases c5' h with rfl | rfl | rfl | rfl | rfl | rfl <;> decide
  have hm : n * wid c ≤ 1048576 * 64 := Nat.mul_le_mul hn hb
  unfold m_word_Room roomZ
  rw [hw, Option.bind_some]
  simp only
  rw [Bool.not_true, cond_false, decide_eq_false (by omega), cond_false, decide_eq_false (by omega), cond_false, ← Int.natCast_mul]
  generalize n * wid c = m at hm ⊢
  rw [i64s (x := (m : Int)) (by omega) (by omega), i64s (x := (m : Int) + 63) (by omega) (by omega), Int.tdiv_eq_ediv_of_nonneg (by omega), i64s (by omega) (by omega)]
  congr 1
theorem rt_len {t : Tr} {d : Nat} (h : rt t d = true) : 0 ≤ t.Kind ∧ t.Kind ≤ 10 ∧ t.Kids.length < 1048576 ∧ (t.Kind = 0 ∨ t.Kind = 10 → t.Kids = []) ∧ ∀ k ∈ t.Kids, rt k (d - 1) = true := by
  rw [rt_eq] at h
  by_cases h0 : t.Kind = 0
  · rw [if_pos h0, Bool.and_eq_true, beq_iff_eq, beq_iff_eq] at h
    have := List.length_eq_zero_iff.1 h.2
    rw [this]
    exact ⟨by omega, by omega, by simp, fun _ => rfl, fun k hk => by cases hk⟩
  by_cases h1 : t.Kind = 10
  · rw [if_neg h0, if_pos h1, Bool.and_eq_true, beq_iff_eq, beq_iff_eq] at h
    have := List.length_eq_zero_iff.1 h.2
    rw [this]
    exact ⟨by omega, by omega, by simp, fun _ => rfl, fun k hk => by cases hk⟩
  rw [if_neg h0, if_neg h1] at h
  by_cases hb : t.Kind < 0 ∨ 10 < t.Kind ∨ d = 0 ∨ 65536 ≤ t.Words.length ∨ (t.Kind = 1 ∧ 65536 ≤ t.Kids.length) ∨ 1048576 ≤ t.Kids.length ∨ (1 < t.Kind ∧ 0 < t.Words.length)
  · rw [if_pos hb] at h; cases h
  rw [if_neg hb, List.all_eq_true] at h
  refine ⟨by omega, by omega, by omega, fun q => by omega, fun k hk => ?_⟩
  have := h k hk
  rw [Bool.and_eq_true] at this
  exact this.1
theorem sizes_loop {k : Nat} (l : List Tr) (hl : (l.length : Int) ≤ 140737488355328) (h : ∀ x ∈ l, (lv_tree_size k).1 x = some (IntKind.i64.wrap (sz x))) : runLoop (b_tree_sizes_L0 (lv_tree_size k).1 l) (0, 0) = some (IntKind.i64.wrap (l.map sz).sum) := by
  have := (loop_fold l (fun (s : Int) (i : Int) => (IntKind.i64.wrap s, i)) (fun s x => s + sz x) (fun s => IntKind.i64.wrap s) (fun _ => True) (b_tree_sizes_L0 (lv_tree_size k).1 l) hl (fun s i x _ hi hx hm => ⟨trivial, by
    unfold b_tree_sizes_L0
    simp only
    rw [lt_t hi, cond_true, getI_of hx, Option.bind_some, h x hm, Option.bind_some, w_lr]⟩) (fun s _ => by
    unfold b_tree_sizes_L0
    simp only
    rw [lt_f, cond_false]) 0 trivial).1
  rw [sum_foldl, Int.zero_add] at this
  exact this
theorem size_lv : ∀ (k : Nat), (∀ (t : Tr) (d : Nat), rt t d = true → 2 * SizeOf.sizeOf t < k → (lv_tree_size k).1 t = some (IntKind.i64.wrap (sz t))) ∧
    (∀ l : List Tr, 0 < k → (l.length : Int) ≤ 140737488355328 → (∀ x ∈ l, (∃ d, rt x d = true) ∧ 2 * SizeOf.sizeOf x + 1 < k) → (lv_tree_size k).2 l = some (IntKind.i64.wrap (l.map sz).sum))
  | 0 => ⟨fun _ _ _ h => by omega, fun _ h => by omega⟩
  | k + 1 => by
    obtain ⟨i1, i2⟩ := size_lv k
    refine ⟨fun t d hr hk => ?_, fun l _ hl h => ?_⟩
    · obtain ⟨r1, r2, r3, r4, r5⟩ := rt_len hr
      have s0 : 0 < SizeOf.sizeOf t := by
        obtain ⟨a, b, c⟩ := t
        simp only [S_api_Tree.mk.sizeOf_spec]
        omega
      have k0 : 0 < k := by omega
      have hs : ∀ x ∈ t.Kids, (∃ d, rt x d = true) ∧ 2 * SizeOf.sizeOf x + 1 < k := fun x hx => ⟨⟨_, r5 x hx⟩, by have := kid_lt hx; omega⟩
      have hk9 : ∀ y ∈ t.Kids, (lv_tree_size k).2 y.Kids = some (IntKind.i64.wrap (y.Kids.map sz).sum) := fun y hy =>
        i2 _ k0 (by have := (rt_len (r5 y hy)).2.2.1; omega) fun x hx => ⟨⟨_, (rt_len (r5 y hy)).2.2.2.2 x hx⟩, by have := kid_lt hx; have := kid_lt hy; omega⟩
      show b_tree_size (lv_tree_size k).1 (lv_tree_size k).2 t = _
      unfold b_tree_size m_tree_Data
      rw [sz_eq]
      by_cases h1 : t.Kind = 1
      · rw [if_pos h1, show (t.Kind == 1) = true from by rw [h1]; rfl, cond_true, i2 _ k0 (by omega) hs, Option.bind_some, w_lr]
      rw [if_neg h1, beq_eq_false_iff_ne.2 h1, cond_false, Option.bind_some]
      by_cases h2 : 2 ≤ t.Kind ∧ t.Kind ≤ 7
      · rw [if_pos h2, decide_eq_true h2.1, cond_true, decide_eq_true h2.2, cond_true, i64s (by omega) (by omega), wroom_ok (by omega) (by omega), Option.bind_some]
        have : IntKind.i64.wrap (roomZ (t.Kind - 2) t.Kids.length) = roomZ (t.Kind - 2) t.Kids.length := by
          have hb : wid (t.Kind - 2) ≤ 64 := by rcases c5' (c := t.Kind - 2) (by omega) with q | q | q | q | q | q <;> rw [q] <;> decide
          have hm : t.Kids.length * wid (t.Kind - 2) ≤ 1048576 * 64 := Nat.mul_le_mul (by omega) hb
          unfold roomZ
          rw [i64s (by omega) (by omega)]
        rw [this]
      rw [if_neg h2]
      have hc : cond (decide (2 ≤ t.Kind)) (decide (t.Kind ≤ 7)) false = false := by
        rw [cond_and, Bool.and_eq_false_iff, decide_eq_false_iff_not, decide_eq_false_iff_not]; omega
      rw [hc, cond_false]
      by_cases h8 : t.Kind = 8
      · rw [if_pos h8, show (t.Kind == 8) = true from by rw [h8]; rfl, cond_true, i2 _ k0 (by omega) hs, Option.bind_some, w_r]
      rw [if_neg h8, beq_eq_false_iff_ne.2 h8, cond_false]
      by_cases h9' : t.Kind = 9
      · rw [if_pos h9', show (t.Kind == 9) = true from by rw [h9']; rfl, cond_true, frame_ok (by omega), Option.bind_some]
        have := (loop_fold t.Kids (fun (s : Int) (i : Int) => (IntKind.i64.wrap s, i)) (fun s x => s + (x.Kids.map sz).sum) (fun s => IntKind.i64.wrap s) (fun _ => True) (b_tree_size_L0 (lv_tree_size k).2 t) (by omega) (fun s i x _ hi hx hm => ⟨trivial, by
          unfold b_tree_size_L0
          simp only
          rw [lt_t hi, cond_true, getI_of hx, Option.bind_some, hk9 x hm, Option.bind_some, w_lr]⟩) (fun s _ => by
          unfold b_tree_size_L0
          simp only
          rw [lt_f, cond_false]) (h9 t.Kids) trivial).1
        rw [sum_foldl, show IntKind.i64.wrap (h9 t.Kids) = h9 t.Kids from w_w _] at this
        show (runLoop (b_tree_size_L0 (lv_tree_size k).2 t) (h9 t.Kids, 0)).bind _ = _
        rw [this, Option.bind_some]
      · rw [if_neg h9', beq_eq_false_iff_ne.2 h9', cond_false]
        rfl
    · show b_tree_sizes (lv_tree_size k).1 (lv_tree_size k).2 l = _
      unfold b_tree_sizes
      rw [sizes_loop l hl (fun x hx => by obtain ⟨⟨d, hd⟩, hh⟩ := h x hx; exact i1 x d hd (by omega)), Option.bind_some]

theorem size_ok {t : Tr} {d : Nat} (h : rt t d = true) : m_tree_size t = some (IntKind.i64.wrap (sz t)) := lim_eq (2 * SizeOf.sizeOf t + 1) fun k hk => (size_lv k).1 t d h (by omega)
theorem Size_ok {t : Tr} {d : Nat} (hb : Bd t) (h : rt t d = true) : m_tree_Size t = some (IntKind.i64.wrap (sz (nrm t))) := by
  unfold m_tree_Size
  rw [norm_ok hb, Option.bind_some, size_ok (rtN h), Option.bind_some]
theorem rsize_lv : ∀ (k : Nat) (t : Tr) (d : Nat), rt t d = true → SizeOf.sizeOf t < k → lv_centoref07_Size k t = some (IntKind.i64.wrap (sz t))
  | 0, _, _, _, h => by omega
  | k + 1, t, d, hr, hk => by
    obtain ⟨r1, r2, r3, r4, r5⟩ := rt_len hr
    have ih : ∀ x ∈ t.Kids, lv_centoref07_Size k x = some (IntKind.i64.wrap (sz x)) := fun x hx => rsize_lv k x _ (r5 x hx) (by have := kid_lt hx; omega)
    have ih2 : ∀ y ∈ t.Kids, ∀ x ∈ y.Kids, lv_centoref07_Size k x = some (IntKind.i64.wrap (sz x)) := fun y hy x hx => rsize_lv k x _ ((rt_len (r5 y hy)).2.2.2.2 x hx) (by have := kid_lt hx; have := kid_lt hy; omega)
    have lp : ∀ s : Int, runLoop (b_centoref07_Size_L2 (lv_centoref07_Size k) t) (IntKind.i64.wrap s, 0) = some (IntKind.i64.wrap (s + (t.Kids.map sz).sum)) := fun s => by
      have := (loop_fold t.Kids (fun (s : Int) (i : Int) => (IntKind.i64.wrap s, i)) (fun s x => s + sz x) (fun s => IntKind.i64.wrap s) (fun _ => True) (b_centoref07_Size_L2 (lv_centoref07_Size k) t) (by omega) (fun s i x _ hi hx hm => ⟨trivial, by
        unfold b_centoref07_Size_L2
        simp only
        rw [lt_t hi, cond_true, getI_of hx, Option.bind_some, ih x hm, Option.bind_some, w_lr]⟩) (fun s _ => by
        unfold b_centoref07_Size_L2
        simp only
        rw [lt_f, cond_false]) s trivial).1
      rw [sum_foldl] at this
      exact this
    show b_centoref07_Size (lv_centoref07_Size k) t = _
    unfold b_centoref07_Size
    rw [sz_eq]
    by_cases h1 : t.Kind = 1
    · rw [if_pos h1, show (t.Kind == 1) = true from by rw [h1]; rfl, cond_true, Option.bind_some]
      simp only
      rw [lp, Option.bind_some]
    rw [if_neg h1, beq_eq_false_iff_ne.2 h1, cond_false]
    by_cases h8 : t.Kind = 8
    · rw [if_neg (by omega), if_pos h8, show (t.Kind == 8) = true from by rw [h8]; rfl, cond_true, Option.bind_some]
      simp only
      have := lp (t.Kids.length : Int)
      rw [i64s (x := (t.Kids.length : Int)) (by omega) (by omega)] at this
      rw [this, Option.bind_some]
    rw [beq_eq_false_iff_ne.2 h8, cond_false]
    have hc : (cond (t.Kind == 2) (some (t.Kind == 2)) (cond (t.Kind == 3) (some (t.Kind == 3)) (cond (t.Kind == 4) (some (t.Kind == 4)) (cond (t.Kind == 5) (some (t.Kind == 5)) (cond (t.Kind == 6) (some (t.Kind == 6)) (some (t.Kind == 7))))))) = some (decide (2 ≤ t.Kind ∧ t.Kind ≤ 7)) := by
      by_cases h2 : 2 ≤ t.Kind ∧ t.Kind ≤ 7
      · rcases (show t.Kind = 2 ∨ t.Kind = 3 ∨ t.Kind = 4 ∨ t.Kind = 5 ∨ t.Kind = 6 ∨ t.Kind = 7 by omega) with q | q | q | q | q | q <;> rw [q] <;> rfl
      · rw [decide_eq_false h2, beq_eq_false_iff_ne.2 (by omega : ¬ t.Kind = 2), beq_eq_false_iff_ne.2 (by omega : ¬ t.Kind = 3), beq_eq_false_iff_ne.2 (by omega : ¬ t.Kind = 4), beq_eq_false_iff_ne.2 (by omega : ¬ t.Kind = 5), beq_eq_false_iff_ne.2 (by omega : ¬ t.Kind = 6), beq_eq_false_iff_ne.2 (by omega : ¬ t.Kind = 7)]
        rfl
    rw [hc, Option.bind_some]
    by_cases h2 : 2 ≤ t.Kind ∧ t.Kind ≤ 7
    · have hb : wid (t.Kind - 2) ≤ 64 := by rcases c5' (c := t.Kind - 2) (by omega) with q | q | q | q | q | q <;> rw [q] <;> decide
      have hm : t.Kids.length * wid (t.Kind - 2) ≤ 1048576 * 64 := Nat.mul_le_mul (by omega) hb
      rw [decide_eq_true h2, cond_true, if_pos h2, i64s (x := t.Kind - 2) (by omega) (by omega), rroom_ok (by omega) (by omega), Option.bind_some, Option.bind_some]
      unfold roomZ
      rw [i64s (by omega) (by omega)]
    rw [decide_eq_false h2, cond_false, if_neg h2, if_neg h8]
    by_cases h9' : t.Kind = 9
    · rw [if_pos h9', show (t.Kind == 9) = true from by rw [h9']; rfl, cond_true, rframe_ok (by omega), Option.bind_some]
      have := (loop_fold t.Kids (fun (s : Int) (i : Int) => (IntKind.i64.wrap s, i)) (fun s x => s + (x.Kids.map sz).sum) (fun s => IntKind.i64.wrap s) (fun _ => True) (b_centoref07_Size_L0 (lv_centoref07_Size k) t) (by omega) (fun s i x _ hi hx hm => ⟨trivial, by
        have hxl := (rt_len (r5 x hm)).2.2.1
        have inner := (loop_fold x.Kids (fun (s : Int) (i : Int) => (IntKind.i64.wrap s, i)) (fun s x => s + sz x) (fun s => IntKind.i64.wrap s) (fun _ => True) (b_centoref07_Size_L1 (lv_centoref07_Size k) t (IntKind.i64.wrap s, (i : Int))) (by omega) (fun s j y _ hj hy hmy => ⟨trivial, by
          unfold b_centoref07_Size_L1
          simp only
          rw [getI_of hx, Option.bind_some, lt_t hj, cond_true, Option.bind_some, getI_of hy, Option.bind_some, ih2 x hm y hmy, Option.bind_some, w_lr]⟩) (fun s _ => by
          unfold b_centoref07_Size_L1
          simp only
          rw [getI_of hx, Option.bind_some, lt_f, cond_false]) s trivial).1
        rw [sum_foldl] at inner
        unfold b_centoref07_Size_L0
        simp only
        rw [lt_t hi, cond_true, inner, Option.bind_some]⟩) (fun s _ => by
        unfold b_centoref07_Size_L0
        simp only
        rw [lt_f, cond_false]) (h9 t.Kids) trivial).1
      rw [sum_foldl, show IntKind.i64.wrap (h9 t.Kids) = h9 t.Kids from w_w _] at this
      have h9e : IntKind.i64.wrap (1 + IntKind.i64.wrap ((t.Kids.length : Int) * IntKind.i64.wrap ((fr t.Kids).1 + (fr t.Kids).2))) = h9 t.Kids := rfl
      rw [h9e, this, Option.bind_some, Option.bind_some]
    · rw [if_neg h9', beq_eq_false_iff_ne.2 h9', cond_false, Option.bind_some]
      simp only
      have := lp 0
      rw [show IntKind.i64.wrap 0 = 0 from rfl, r4 (by omega)] at this
      rw [this, Option.bind_some]
      rfl
theorem rsize_ok {t : Tr} {d : Nat} (h : rt t d = true) : m_centoref07_Size t = some (IntKind.i64.wrap (sz t)) := lim_eq (SizeOf.sizeOf t + 1) fun k hk => rsize_lv k t d h (by omega)

/-- kids put to a state one after the other, each with its place -/
def foldI {α σ : Type} (f : σ → Nat → α → σ) : σ → Nat → List α → σ
  | s, _, [] => s
  | s, i, x :: xs => foldI f (f s i x) (i + 1) xs
theorem loop_I {α σ S R : Type} (xs : List α) (pack : Int → σ → S) (out : σ → R) (step : S → Option (S ⊕ R)) (f : σ → Nat → α → σ) (I : Nat → σ → Prop) (hl : (xs.length : Int) ≤ 140737488355328)
    (h1 : ∀ (i : Nat) (s : σ) (x : α), i < xs.length → xs[i]? = some x → x ∈ xs → I i s → step (pack i s) = some (.inl (pack (IntKind.i64.wrap ((i : Int) + 1)) (f s i x))) ∧ I (i + 1) (f s i x))
    (h2 : ∀ s, I xs.length s → step (pack xs.length s) = some (.inr (out s))) (s : σ) (h0 : I 0 s) : runLoop step (pack 0 s) = some (out (foldI f s 0 xs)) ∧ I xs.length (foldI f s 0 xs) := by
  have key : ∀ (l pre : List α) (s : σ), xs = pre ++ l → I pre.length s → runLoop step (pack (pre.length : Nat) s) = some (out (foldI f s pre.length l)) ∧ I xs.length (foldI f s pre.length l) := fun l => by
    induction l with
    | nil =>
      intro pre s hp hi
      rw [List.append_nil] at hp
      subst hp
      exact ⟨runLoop_end (h2 s hi), hi⟩
    | cons x l ih =>
      intro pre s hp hI
      have hx : xs[pre.length]? = some x := by rw [hp, List.getElem?_append_right (Nat.le_refl _), Nat.sub_self]; rfl
      have hi : pre.length < xs.length := by rw [hp]; simp
      obtain ⟨a, b⟩ := h1 pre.length s x hi hx (List.mem_of_getElem? hx) hI
      rw [i64s (by omega) (by omega)] at a
      have := ih (pre ++ [x]) (f s pre.length x) (by rw [hp]; simp) (by rw [List.length_append, List.length_singleton]; exact b)
      rw [List.length_append, List.length_singleton] at this
      exact ⟨(runLoop_step a).trans this.1, this.2⟩
  exact key xs [] s rfl h0
theorem isum_append : ∀ l m : List Int, (l ++ m).sum = l.sum + m.sum
  | [], m => by simp
  | x :: l, m => by simp only [List.cons_append, List.sum_cons, isum_append l m]; omega
theorem isum_nonneg : ∀ l : List Int, (∀ x ∈ l, 0 ≤ x) → 0 ≤ l.sum
  | [], _ => by simp
  | x :: l, h => by
    have := isum_nonneg l fun y hy => h y (.tail _ hy)
    have := h x (.head _)
    simp only [List.sum_cons]
    omega
theorem sum_step {α : Type} {f : α → Int} {xs : List α} {i : Nat} {x : α} (hx : xs[i]? = some x) (h : ∀ x ∈ xs, 0 ≤ f x) : ((xs.take (i + 1)).map f).sum = ((xs.take i).map f).sum + f x ∧ ((xs.take i).map f).sum + f x ≤ (xs.map f).sum := by
  have e : ((xs.take (i + 1)).map f).sum = ((xs.take i).map f).sum + f x := by
    rw [List.take_add_one, hx, List.map_append, isum_append]
    simp
  refine ⟨e, ?_⟩
  have e2 : (xs.map f).sum = ((xs.take (i + 1)).map f).sum + ((xs.drop (i + 1)).map f).sum := by
    rw [← isum_append, ← List.map_append, List.take_append_drop]
  have := isum_nonneg ((xs.drop (i + 1)).map f) fun y hy => by
    obtain ⟨z, hz, rfl⟩ := List.mem_map.1 hy
    exact h z (List.mem_of_mem_drop hz)
  omega
theorem sum_pos {α : Type} {f : α → Int} {xs : List α} (h : ∀ x ∈ xs, 0 ≤ f x) : 0 ≤ (xs.map f).sum := isum_nonneg _ fun y hy => by
  obtain ⟨z, hz, rfl⟩ := List.mem_map.1 hy
  exact h z hz
theorem encS {off data ptrs : Int} (a : -536870912 ≤ off) (b : off < 536870912) (c : 0 ≤ data) (d : data < 65536) (e : 0 ≤ ptrs) (f : ptrs < 65536) (g : ¬ (off = 0 ∧ data = 0 ∧ ptrs = 0)) :
    m_ptr_Encode (⟨1, off, data, ptrs, 0, 0, 0, false⟩ : S_ptr_Ptr) = some (off % 1073741824 * 4 + data * 4294967296 + ptrs * 281474976710656, true) := by
  have hd : decP ((off % 1073741824).toNat * 4 + data.toNat * 4294967296 + ptrs.toNat * 281474976710656) = ⟨1, off, data, ptrs, 0, 0, 0, false⟩ := by
    generalize hw : (off % 1073741824).toNat * 4 + data.toNat * 4294967296 + ptrs.toNat * 281474976710656 = w
    have h1 : ¬ w = 0 := by omega
    have h2 : w % 4 = 0 := by omega
    unfold decP
    rw [if_neg h1, if_pos h2]
    unfold offN
    simp only [S_ptr_Ptr.mk.injEq, true_and, and_true]
    refine ⟨?_, by omega, by omega⟩
    split <;> omega
  have := encode_dec ((off % 1073741824).toNat * 4 + data.toNat * 4294967296 + ptrs.toNat * 281474976710656) (by omega) (by rw [hd]; show ¬ (1 : Int) = 4; decide)
  rw [hd] at this
  rw [this]
  congr 2
  omega
theorem encL {off code count : Int} (a : -536870912 ≤ off) (b : off < 536870912) (c : 0 ≤ code) (d : code < 8) (e : 0 ≤ count) (f : count < 536870912) :
    m_ptr_Encode (⟨2, off, 0, 0, code, count, 0, false⟩ : S_ptr_Ptr) = some (off % 1073741824 * 4 + 1 + code * 4294967296 + count * 34359738368, true) := by
  have hd : decP ((off % 1073741824).toNat * 4 + 1 + code.toNat * 4294967296 + count.toNat * 34359738368) = ⟨2, off, 0, 0, code, count, 0, false⟩ := by
    generalize hw : (off % 1073741824).toNat * 4 + 1 + code.toNat * 4294967296 + count.toNat * 34359738368 = w
    have h1 : ¬ w = 0 := by omega
    have h2 : ¬ w % 4 = 0 := by omega
    have h3 : w % 4 = 1 := by omega
    unfold decP
    rw [if_neg h1, if_neg h2, if_pos h3]
    unfold offN
    simp only [S_ptr_Ptr.mk.injEq, true_and, and_true]
    refine ⟨?_, by omega, by omega⟩
    split <;> omega
  have := encode_dec ((off % 1073741824).toNat * 4 + 1 + code.toNat * 4294967296 + count.toNat * 34359738368) (by omega) (by rw [hd]; show ¬ (2 : Int) = 4; decide)
  rw [hd] at this
  rw [this]
  congr 2
  omega
theorem u64i {x : Int} (h0 : 0 ≤ x) (h1 : x < 18446744073709551616) : IntKind.u64.wrap x = x := IntWalk.u64_in _ (by omega)
theorem rpointer {a t k u : Int} (a0 : 0 ≤ a) (a1 : a ≤ 1048576) (t0 : 0 ≤ t) (t1 : t ≤ 1048576) (k0 : 0 ≤ k) (k1 : k ≤ 1) (u0 : 0 ≤ u) (u1 : u < 4294967296) :
    m_centoref12_pointer a t k u = some ((t - a - 1) % 1073741824 * 4 + k + u * 4294967296) := by
  unfold m_centoref12_pointer
  rw [i64s (x := t - a) (by omega) (by omega), i64s (x := t - a - 1) (by omega) (by omega)]
  by_cases h : t - a - 1 < 0
  · rw [decide_eq_true h, cond_true, i64s (by omega) (by omega), Option.bind_some, i64s (x := 4 * _) (by omega) (by omega), i64s (by omega) (by omega), u64i (x := u * _) (by omega) (by omega), u64i (x := _ + k) (by omega) (by omega), u64i (by omega) (by omega)]
    congr 1
    omega
  · rw [decide_eq_false h, cond_false, Option.bind_some, i64s (x := 4 * _) (by omega) (by omega), i64s (by omega) (by omega), u64i (x := u * _) (by omega) (by omega), u64i (x := _ + k) (by omega) (by omega), u64i (by omega) (by omega)]
    congr 1
    omega

/-- a number put beside the ones before it -/
def putF (w : Nat) (out : List Int) (i : Nat) (n : Int) : List Int := setI out ((i * w / 64 : Nat) : Int) (out[i * w / 64]?.getD 0 + n * 2 ^ (i * w % 64))
def putI (w N : Nat) (i : Nat) (out : List Int) : Prop := out.length = (N * w + 63) / 64 ∧ ∀ (q : Nat) (v : Int), out[q]? = some v → 0 ≤ v ∧ v < 2 ^ min 64 (i * w - q * 64)
theorem pow_lt64 {s w : Nat} {v n : Int} (h0 : 0 ≤ v) (h1 : v < 2 ^ s) (n0 : 0 ≤ n) (n1 : n < 2 ^ w) : 0 ≤ v + n * 2 ^ s ∧ v + n * 2 ^ s < 2 ^ (s + w) ∧ 0 ≤ n * 2 ^ s := by
  have p : (0 : Int) < 2 ^ s := Int.pow_pos (by decide)
  have a := Int.mul_nonneg n0 (Int.le_of_lt p)
  have b : (n + 1) * 2 ^ s ≤ 2 ^ w * 2 ^ s := Int.mul_le_mul_of_nonneg_right (by omega) (Int.le_of_lt p)
  rw [Int.add_mul, Int.one_mul, Int.mul_comm (2 ^ w), ← Int.pow_add] at b
  exact ⟨by omega, by omega, a⟩
theorem pow_mono {a b : Nat} (h : a ≤ b) : (2 : Int) ^ a ≤ 2 ^ b := by
  have := Nat.pow_le_pow_right (n := 2) (by decide) h
  exact_mod_cast this
theorem putF_I {w N i : Nat} {out : List Int} {n : Int} (hw : 0 < w) (hs : i * w % 64 + w ≤ 64) (hi : i < N) (hI : putI w N i out) (n0 : 0 ≤ n) (n1 : n < 2 ^ w) :
    ∃ v : Int, out[i * w / 64]? = some v ∧ 0 ≤ v ∧ v < 2 ^ (i * w % 64) ∧ v + n * 2 ^ (i * w % 64) < 18446744073709551616 ∧ 0 ≤ n * 2 ^ (i * w % 64) ∧ putI w N (i + 1) (putF w out i n) := by
  obtain ⟨hl, hv⟩ := hI
  have hm : i * w + w ≤ N * w := by
    have := Nat.mul_le_mul_right w (show i + 1 ≤ N by omega)
    rwa [Nat.add_mul, Nat.one_mul] at this
  have hq : i * w / 64 < out.length := by rw [hl]; omega
  have hx : out[i * w / 64]? = some out[i * w / 64] := List.getElem?_eq_getElem hq
  obtain ⟨v0, v1⟩ := hv _ _ hx
  have e : min 64 (i * w - i * w / 64 * 64) = i * w % 64 := by omega
  rw [e] at v1
  obtain ⟨a, b, c⟩ := pow_lt64 v0 v1 n0 n1
  have d := pow_mono hs
  refine ⟨_, hx, v0, v1, by omega, c, by unfold putF; rw [setI_len, hl], fun q u hu => ?_⟩
  unfold putF setI at hu
  rw [Int.toNat_natCast, hx, Option.getD_some, List.getElem?_set] at hu
  have e1 : (i + 1) * w = i * w + w := by rw [Nat.add_mul, Nat.one_mul]
  by_cases h : i * w / 64 = q
  · rw [if_pos h, if_pos hq] at hu
    cases hu
    subst h
    refine ⟨a, ?_⟩
    have : min 64 ((i + 1) * w - i * w / 64 * 64) = i * w % 64 + w := by rw [e1]; omega
    rw [this]
    exact b
  · rw [if_neg h] at hu
    obtain ⟨u0, u1⟩ := hv _ _ hu
    refine ⟨u0, Int.lt_of_lt_of_le u1 (pow_mono ?_)⟩
    rw [e1]
    omega
theorem put0_I (w N : Nat) : putI w N 0 (List.replicate ((N * w + 63) / 64) 0) := by
  refine ⟨List.length_replicate, fun q v h => ?_⟩
  have := List.mem_of_getElem? h
  rw [List.mem_replicate] at this
  rw [this.2]
  exact ⟨by decide, Int.pow_pos (by decide)⟩
def putC (c : Int) (ns : List Int) : List Int := if c = 0 then [] else foldI (putF (wid c)) (List.replicate ((ns.length * wid c + 63) / 64) 0) 0 ns
theorem wput_loop {w each : Nat} (hw : 0 < w) (hw2 : w ≤ 64) (he : 0 < each) (he2 : each ≤ 64) (hE : IntKind.i64.wrap (Int.tdiv 64 (w : Int)) = (each : Int)) (hq : ∀ i : Nat, i / each = i * w / 64) (hr : ∀ i : Nat, i % each * w = i * w % 64) (hs : ∀ i : Nat, i * w % 64 + w ≤ 64)
    {ns : List Int} (hn : ns.length ≤ 1048576) (hf : ∀ n ∈ ns, 0 ≤ n ∧ n < 2 ^ w) :
    runLoop (m_word_Put_L1 ns ((w : Int), true)) (0, List.replicate ((ns.length * w + 63) / 64) 0) = some (foldI (putF w) (List.replicate ((ns.length * w + 63) / 64) 0) 0 ns) ∧ putI w ns.length ns.length (foldI (putF w) (List.replicate ((ns.length * w + 63) / 64) 0) 0 ns) :=
  loop_I ns (fun i s => (i, s)) (fun s => s) (m_word_Put_L1 ns ((w : Int), true)) (putF w) (putI w ns.length) (by omega) (fun i s n hi hx hm hI => by
    obtain ⟨n0, n1⟩ := hf n hm
    obtain ⟨v, hv, v0, v1, v2, v3, v4⟩ := putF_I hw (hs i) hi hI n0 n1
    refine ⟨?_, v4⟩
    unfold m_word_Put_L1
    simp only
    have e1 : IntKind.i64.wrap (Int.tdiv (i : Int) (each : Int)) = ((i * w / 64 : Nat) : Int) := by
      have hb := Nat.mul_le_mul_left i hw2
      rw [Int.tdiv_eq_ediv_of_nonneg (by omega), ← Int.natCast_ediv, hq i, i64s (by omega) (by omega)]
    have e2 : IntKind.i64.wrap (Int.tmod (i : Int) (each : Int) * (w : Int)) = ((i * w % 64 : Nat) : Int) := by
      rw [Int.tmod_eq_emod_of_nonneg (by omega), ← Int.natCast_emod, ← Int.natCast_mul, hr i, i64s (by omega) (by omega)]
    have e3 : min (Int.toNat ((i * w % 64 : Nat) : Int)) 64 = i * w % 64 := by omega
    have e4 : IntKind.u64.wrap (n * 2 ^ (i * w % 64)) = n * 2 ^ (i * w % 64) := u64i v3 (by omega)
    have e5 : IntKind.u64.wrap (lorI .u64 v (n * 2 ^ (i * w % 64))) = v + n * 2 ^ (i * w % 64) := by
      obtain ⟨a, rfl⟩ := Int.eq_ofNat_of_zero_le v0
      obtain ⟨b, rfl⟩ := Int.eq_ofNat_of_zero_le n0
      have f : ((b : Nat) : Int) * 2 ^ (i * w % 64) = ((b * 2 ^ (i * w % 64) : Nat) : Int) := by simp
      have f1 : a < 2 ^ (i * w % 64) := by exact_mod_cast v1
      rw [f] at v2 v3 ⊢
      rw [lor64w _ _ (by omega) (by omega), or_add _ _ _ f1, Int.natCast_add]
    rw [lt_t hi, cond_true, getI_of hx, Option.bind_some, hE, guardI_ok (by omega), Option.bind_some, e1, getI_of hv, Option.bind_some, Option.bind_some, e2, guardI_ok (by omega), Option.bind_some, e3, e4, e5]
    unfold putF
    rw [hv]
    rfl) (fun s _ => by
    unfold m_word_Put_L1
    simp only
    rw [lt_f, cond_false]) _ (put0_I w ns.length)
theorem wput0_loop {c : Int} {ns : List Int} (h : 0 ≤ c ∧ c ≤ 5) (hn : ns.length ≤ 1048576) (hf : ∀ n ∈ ns, 0 ≤ n ∧ fitsP c n = true) : runLoop (m_word_Put_L0 c ns) (true, 0) = some true :=
  (loop_I ns (fun i s => (s, i)) (fun s => s) (m_word_Put_L0 c ns) (fun s _ _ => s) (fun _ s => s = true) (by omega) (fun i s n hi hx hm hI => by
    subst hI
    refine ⟨?_, rfl⟩
    unfold m_word_Put_L0
    simp only
    rw [lt_t hi, cond_true, getI_of hx, Option.bind_some, cond_true, wfits_ok h.1 h.2 (hf n hm).1, Option.bind_some, (hf n hm).2]
    rfl) (fun s _ => by
    unfold m_word_Put_L0
    simp only
    rw [lt_f, cond_false]) true rfl).1.trans (by
    have : ∀ (l : List Int) (k : Nat), foldI (fun (s : Bool) (_ : Nat) (_ : Int) => s) true k l = true := fun l => by
      induction l with
      | nil => intro k; rfl
      | cons x l ih => intro k; exact ih (k + 1)
    rw [this])
theorem wput_ok {c : Int} (h : 0 ≤ c ∧ c ≤ 5) {ns : List Int} (hn : ns.length ≤ 1048576) (hf : ∀ n ∈ ns, 0 ≤ n ∧ fitsP c n = true) : m_word_Put c ns = some (putC c ns, true) ∧ (putC c ns).length = (ns.length * wid c + 63) / 64 := by
  have hw : m_word_Width c = some (((wid c : Nat) : Int), true) := by
    unfold m_word_Width
    rcases c5' h with rfl | rfl | rfl | rfl | rfl | rfl <;> rfl
  have hb : wid c ≤ 64 := by rcases c5' h with rfl | rfl | rfl | rfl | rfl | rfl <;> decide
  have hm : ns.length * wid c ≤ 1048576 * 64 := Nat.mul_le_mul hn hb
  have hf' : ∀ n ∈ ns, 0 ≤ n ∧ n < 2 ^ wid c := fun n hn => ⟨(hf n hn).1, by have := (hf n hn).2; unfold fitsP at this; exact of_decide_eq_true this⟩
  unfold m_word_Put putC
  rw [hw, Option.bind_some]
  simp only
  rw [wput0_loop h hn hf, Option.bind_some, Bool.not_true, cond_false, wroom_ok h hn, Option.bind_some]
  unfold roomZ
  rw [makeI_ok (by omega) (by omega) (by omega), Option.bind_some, Int.toNat_natCast]
  have key : ∀ w each : Nat, wid c = w → 0 < w → 0 < each → each ≤ 64 → IntKind.i64.wrap (Int.tdiv 64 (w : Int)) = (each : Int) → (∀ i : Nat, i / each = i * w / 64) → (∀ i : Nat, i % each * w = i * w % 64) → (∀ i : Nat, i * w % 64 + w ≤ 64) → ¬ c = 0 →
      (cond (((wid c : Nat) : Int) == 0) (some (List.replicate ((ns.length * wid c + 63) / 64) (0 : Int), true)) ((guardI (((wid c : Nat) : Int) ≠ 0)).bind fun u14 => (runLoop (m_word_Put_L1 ns (((wid c : Nat) : Int), true)) (0, List.replicate ((ns.length * wid c + 63) / 64) 0)).bind fun (z24 : (List Int)) => some (z24, true))) = some ((if c = 0 then [] else foldI (putF (wid c)) (List.replicate ((ns.length * wid c + 63) / 64) 0) 0 ns), true) ∧ (if c = 0 then [] else foldI (putF (wid c)) (List.replicate ((ns.length * wid c + 63) / 64) 0) 0 ns).length = (ns.length * wid c + 63) / 64 := by
    intro w each ew a1 a2 a3 a4 a5 a6 a7 a8
    have := wput_loop a1 (by omega) a2 a3 a4 a5 a6 a7 hn (by rw [← ew]; exact hf')
    rw [ew, if_neg a8, ieqF (by omega), cond_false, guardI_ok (by omega), Option.bind_some, this.1, Option.bind_some]
    exact ⟨rfl, this.2.1⟩
  rcases c5' h with rfl | rfl | rfl | rfl | rfl | rfl
  · exact ⟨by simp [wid], by simp [wid]⟩
  · exact key 1 64 rfl (by decide) (by decide) (by decide) rfl (fun i => by omega) (fun i => by omega) (fun i => by omega) (by decide)
  · exact key 8 8 rfl (by decide) (by decide) (by decide) rfl (fun i => by omega) (fun i => by omega) (fun i => by omega) (by decide)
  · exact key 16 4 rfl (by decide) (by decide) (by decide) rfl (fun i => by omega) (fun i => by omega) (fun i => by omega) (by decide)
  · exact key 32 2 rfl (by decide) (by decide) (by decide) rfl (fun i => by omega) (fun i => by omega) (fun i => by omega) (by decide)
  · exact key 64 1 rfl (by decide) (by decide) (by decide) rfl (fun i => by omega) (fun i => by omega) (fun i => by omega) (by decide)

theorem dbl_loop {y2 : Int} {s0 : Int × List Int} {s : Nat} {n : Int} (hs : s < 64) (he : Int.tmod (IntKind.i64.wrap (s0.1 * y2)) 64 = (s : Int)) (n0 : 0 ≤ n) (hb : n * 2 ^ s < 18446744073709551616) : runLoop (m_centoref01_Put_L1 y2 s0) (n, 0) = some (n * 2 ^ s) := by
  refine runLoop_eq (fun st => ∃ j : Nat, j ≤ s ∧ st = (n * 2 ^ j, (j : Int))) (fun st => s - st.2.toNat) ?_ _ ⟨0, by omega, by simp⟩
  rintro st ⟨j, hj, rfl⟩
  unfold m_centoref01_Put_L1
  simp only
  rw [he]
  by_cases h : j < s
  · left
    have p : n * 2 ^ (j + 1) ≤ n * 2 ^ s := Int.mul_le_mul_of_nonneg_left (pow_mono (by omega)) n0
    have q : n * 2 ^ j * 2 = n * 2 ^ (j + 1) := by rw [Int.pow_succ, Int.mul_assoc]
    have r : 0 ≤ n * 2 ^ (j + 1) := Int.mul_nonneg n0 (Int.le_of_lt (Int.pow_pos (by decide)))
    refine ⟨(n * 2 ^ (j + 1), ((j + 1 : Nat) : Int)), ?_, ⟨j + 1, by omega, rfl⟩, by simp only; omega⟩
    rw [decide_eq_true (by omega), cond_true, q, u64i r (by omega), i64s (by omega) (by omega)]
    rfl
  · right
    obtain rfl : j = s := by omega
    rw [decide_eq_false (by omega), cond_false]
theorem rput_loop {c : Int} {w : Nat} (h : 0 ≤ c ∧ c ≤ 5) (ew : wid c = w) (hw : 0 < w) (hw2 : w ≤ 64) (hs : ∀ i : Nat, i * w % 64 + w ≤ 64)
    {ns : List Int} (hn : ns.length ≤ 1048576) (hu : ∀ n ∈ ns, 0 ≤ n ∧ n < 18446744073709551616 ∧ fitsP c n = true) :
    runLoop (m_centoref01_Put_L0 c ns (w : Int)) (0, List.replicate ((ns.length * w + 63) / 64) 0) = some (.inr (foldI (putF w) (List.replicate ((ns.length * w + 63) / 64) 0) 0 ns)) :=
  (loop_I ns (fun i s => (i, s)) (fun s => .inr s) (m_centoref01_Put_L0 c ns (w : Int)) (putF w) (putI w ns.length) (by omega) (fun i s n hi hx hm hI => by
    obtain ⟨n0, n1, n2⟩ := hu n hm
    have n3 : n < 2 ^ w := by unfold fitsP at n2; rw [← ew]; exact of_decide_eq_true n2
    obtain ⟨v, hv, v0, v1, v2, v3, v4⟩ := putF_I hw (hs i) hi hI n0 n3
    refine ⟨?_, v4⟩
    unfold m_centoref01_Put_L0
    simp only
    have hb := Nat.mul_le_mul_left i hw2
    have e1 : IntKind.i64.wrap ((i : Int) * (w : Int)) = ((i * w : Nat) : Int) := by
      rw [← Int.natCast_mul, i64s (by omega) (by omega)]
    have e2 : IntKind.i64.wrap (Int.tdiv ((i * w : Nat) : Int) 64) = ((i * w / 64 : Nat) : Int) := by
      rw [Int.tdiv_eq_ediv_of_nonneg (by omega), i64s (by omega) (by omega)]
      omega
    have e3 : Int.tmod (IntKind.i64.wrap ((i : Int) * (w : Int))) 64 = ((i * w % 64 : Nat) : Int) := by
      rw [e1, Int.tmod_eq_emod_of_nonneg (by omega)]
      omega
    have e4 := dbl_loop (y2 := (w : Int)) (s0 := ((i : Int), s)) (by omega) e3 n0 (by omega)
    rw [lt_t hi, cond_true, getI_of hx, Option.bind_some, rfits_ok h.1 h.2 n0 n1, Option.bind_some, n2, Bool.not_true, cond_false, e4, Option.bind_some, decide_eq_true (by omega), cond_true, e1, e2, getI_of hv, Option.bind_some, Option.bind_some, u64i (by omega) v2]
    unfold putF
    rw [hv]
    rfl) (fun s _ => by
    unfold m_centoref01_Put_L0
    simp only
    rw [lt_f, cond_false]) _ (put0_I w ns.length)).1
theorem rput_loop0 {ns : List Int} (hn : ns.length ≤ 1048576) (hu : ∀ n ∈ ns, 0 ≤ n ∧ n < 18446744073709551616 ∧ fitsP 0 n = true) (l0 : List Int) : runLoop (m_centoref01_Put_L0 0 ns ((0 : Nat) : Int)) (0, l0) = some (.inr l0) := by
  have := (loop_I ns (fun i s => (i, s)) (fun s => .inr s) (m_centoref01_Put_L0 0 ns ((0 : Nat) : Int)) (fun s _ _ => s) (fun _ s => s = l0) (by omega) (fun i s n hi hx hm hI => by
    obtain ⟨n0, n1, n2⟩ := hu n hm
    refine ⟨?_, hI⟩
    unfold m_centoref01_Put_L0
    simp only
    have e3 : Int.tmod (IntKind.i64.wrap ((i : Int) * ((0 : Nat) : Int))) 64 = ((0 : Nat) : Int) := by
      rw [Int.natCast_zero, Int.mul_zero]
      rfl
    have e4 := dbl_loop (y2 := ((0 : Nat) : Int)) (s0 := ((i : Int), s)) (by omega) e3 n0 (by omega)
    rw [lt_t hi, cond_true, getI_of hx, Option.bind_some, rfits_ok (by decide) (by decide) n0 n1, Option.bind_some, n2, Bool.not_true, cond_false, e4, Option.bind_some, decide_eq_false (by decide), cond_false, Option.bind_some]) (fun s _ => by
    unfold m_centoref01_Put_L0
    simp only
    rw [lt_f, cond_false]) l0 rfl)
  rw [this.1, this.2]
theorem rputC_ok {c : Int} (h : 0 ≤ c ∧ c ≤ 5) {ns : List Int} (hn : ns.length ≤ 1048576) (hu : ∀ n ∈ ns, 0 ≤ n ∧ n < 18446744073709551616 ∧ fitsP c n = true) : m_centoref01_Put c ns = some (putC c ns, true) := by
  have hb : wid c ≤ 64 := by rcases c5' h with rfl | rfl | rfl | rfl | rfl | rfl <;> decide
  have hm : ns.length * wid c ≤ 1048576 * 64 := Nat.mul_le_mul hn hb
  unfold m_centoref01_Put putC
  rw [rwid_ok h, Option.bind_some, decide_eq_false (by omega), cond_false, rroom_ok h (by omega), Option.bind_some, makeI_ok (by omega) (by omega) (by omega), Option.bind_some, Int.toNat_natCast]
  have key : ∀ w : Nat, wid c = w → 0 < w → (∀ i : Nat, i * w % 64 + w ≤ 64) → ¬ c = 0 → ((runLoop (m_centoref01_Put_L0 c ns ((wid c : Nat) : Int)) (0, List.replicate ((ns.length * wid c + 63) / 64) 0)).bind fun (z20 : (Unit ⊕ (List Int))) => match z20 with | .inl z20 => some (([] : (List Int)), false) | .inr z20 => some (z20, true)) = some ((if c = 0 then [] else foldI (putF (wid c)) (List.replicate ((ns.length * wid c + 63) / 64) 0) 0 ns), true) := by
    intro w ew a1 a2 a3
    rw [if_neg a3, ew, rput_loop h ew a1 (by omega) a2 hn hu]
    rfl
  rcases c5' h with rfl | rfl | rfl | rfl | rfl | rfl
  · rw [show wid 0 = 0 from rfl, rput_loop0 hn hu, Nat.mul_zero, if_pos rfl]
    rfl
  · exact key 1 rfl (by decide) (fun i => by omega) (by decide)
  · exact key 8 rfl (by decide) (fun i => by omega) (by decide)
  · exact key 16 rfl (by decide) (fun i => by omega) (by decide)
  · exact key 32 rfl (by decide) (fun i => by omega) (by decide)
  · exact key 64 rfl (by decide) (fun i => by omega) (by decide)
/-- the atoms' numbers -/
def ato (t : Tr) : List Int := t.Kids.map fun k => k.Words.headD 0
theorem ato_len (t : Tr) : (ato t).length = t.Kids.length := by unfold ato; rw [List.length_map]
theorem numbers_ok {t : Tr} (hk : 2 ≤ t.Kind ∧ t.Kind ≤ 7) (hn : t.Kids.length ≤ 1048576) (ha : ∀ k ∈ t.Kids, ∃ w, k.Words = [w] ∧ 0 ≤ w ∧ fitsP (t.Kind - 2) w = true) : m_canon_numbers t = some (putC (t.Kind - 2) (ato t)) := by
  have l0 := loop_map t.Kids (fun k => k.Words.headD 0) (m_canon_numbers_L0 t) [] (by omega) (fun i x out hi hx hm ho => by
    obtain ⟨w, hw, _⟩ := ha x hm
    have e : m_tree_Word x 0 = some w := by
      unfold m_tree_Word
      rw [hw]
      rfl
    unfold m_canon_numbers_L0
    simp only [List.length_nil] at ho ⊢
    rw [lt_t hi, cond_true, getI_of hx, Option.bind_some, e, Option.bind_some, appI_ok (by simp only [List.length_singleton]; omega) (by simp only [List.length_singleton]; omega), Option.bind_some, hw]
    rfl) (fun out => by
    unfold m_canon_numbers_L0
    simp only
    rw [lt_f, cond_false])
  unfold m_canon_numbers
  rw [l0, Option.bind_some, i64s (by omega) (by omega)]
  have : m_word_Put (t.Kind - 2) (ato t) = some (putC (t.Kind - 2) (ato t), true) := (wput_ok (by omega) (by rw [ato_len]; omega) (fun n hn => by
    obtain ⟨k, hk, rfl⟩ := List.mem_map.1 hn
    obtain ⟨w, hw, h0, h1⟩ := ha k hk
    rw [hw]
    exact ⟨h0, h1⟩)).1
  unfold ato at this
  rw [List.nil_append, this]
  rfl
theorem atoms_ok {t : Tr} (hn : t.Kids.length ≤ 1048576) (ha : ∀ k ∈ t.Kids, ∃ w, k.Words = [w] ∧ 0 ≤ w ∧ fitsP (t.Kind - 2) w = true) : m_centoref12_atoms t = some (ato t) := by
  have l0 := loop_map t.Kids (fun k => k.Words.headD 0) (m_centoref12_atoms_L0 t) [] (by omega) (fun i x out hi hx hm ho => by
    obtain ⟨w, hw, _⟩ := ha x hm
    have e : getI x.Words 0 = some w := by rw [hw]; rfl
    unfold m_centoref12_atoms_L0
    simp only [List.length_nil] at ho ⊢
    rw [lt_t hi, cond_true, getI_of hx, Option.bind_some, e, Option.bind_some, appI_ok (by simp only [List.length_singleton]; omega) (by simp only [List.length_singleton]; omega), Option.bind_some, hw]
    rfl) (fun out => by
    unfold m_centoref12_atoms_L0
    simp only
    rw [lt_f, cond_false])
  unfold m_centoref12_atoms
  rw [l0, Option.bind_some, List.nil_append]
  rfl

theorem nsum_mem {α : Type} {f : α → Nat} {x : α} : ∀ {l : List α}, x ∈ l → f x ≤ (l.map f).sum
  | [], h => by cases h
  | y :: l, h => by
    simp only [List.map_cons, List.sum_cons]
    rcases List.mem_cons.1 h with rfl | h
    · omega
    · have := nsum_mem (f := f) h; omega
theorem nsum_len {α : Type} {f : α → Nat} : ∀ {l : List α}, (∀ x ∈ l, 1 ≤ f x) → l.length ≤ (l.map f).sum
  | [], _ => by simp
  | y :: l, h => by
    have := nsum_len fun x hx => h x (.tail _ hx)
    have := h y (.head _)
    simp only [List.map_cons, List.sum_cons, List.length_cons]
    omega
theorem nsum_le {α β : Type} {f : α → Nat} {g : β → Nat} (p : α → β) : ∀ {l : List α}, (∀ x ∈ l, g (p x) ≤ f x) → ((l.map p).map g).sum ≤ (l.map f).sum
  | [], _ => by simp
  | y :: l, h => by
    have := nsum_le p fun x hx => h x (.tail _ hx)
    have := h y (.head _)
    simp only [List.map_cons, List.sum_cons]
    omega
theorem tr_sumC {α : Type} {p : α → Bool} {f : α → Nat} : ∀ l : List α, ((tr p l).map f).sum ≤ (l.map f).sum
  | [] => by simp [tr]
  | x :: l => by
    have := tr_sumC (p := p) (f := f) l
    by_cases h : tr p l = []
    · rw [tr_cons_nil h]
      split <;> simp
    · rw [tr_cons_ne h]
      simp only [List.map_cons, List.sum_cons]
      omega
theorem pt_pos (t : Tr) : 1 ≤ pt t := by rw [pt_eq]; omega
theorem pt_kid {t x : Tr} (h : x ∈ t.Kids) : pt x + 1 ≤ pt t := by
  have := nsum_mem (f := pt) h
  rw [pt_eq t]
  omega
theorem pt_kids (t : Tr) : 1 + t.Words.length + t.Kids.length ≤ pt t := by
  have := nsum_len (f := pt) (l := t.Kids) fun x _ => pt_pos x
  rw [pt_eq t]
  omega
theorem pt_nrmC : ∀ (n : Nat) (t : Tr), SizeOf.sizeOf t < n → pt (nrm t) ≤ pt t
  | 0, _, h => by omega
  | n + 1, t, h => by
    have ih : ∀ x ∈ t.Kids, pt (nrm x) ≤ pt x := fun x hx => pt_nrmC n x (by have := kid_lt hx; omega)
    have e := nsum_le (f := pt) (g := pt) nrm ih
    by_cases h0 : t.Kind = 0
    · rw [nrm_null h0, pt_eq]
      exact pt_pos t
    by_cases h1 : t.Kind = 1
    · rw [nrm_struct h1, pt_eq, pt_eq t]
      simp only
      have a := tr_len (fun x : Int => x == 0) t.Words
      have b := tr_sumC (p := fun x : Tr => x.Kind == 0) (f := pt) (t.Kids.map nrm)
      exact Nat.add_le_add (Nat.add_le_add_left a 1) (Nat.le_trans b e)
    · rw [nrm_list h0 h1, pt_eq, pt_eq t]
      simp only
      omega
theorem fr_key {M N : Int} : ∀ (l : List Tr) (s : Int × Int), (∀ x ∈ l, (x.Words.length : Int) ≤ M ∧ (x.Kids.length : Int) ≤ N) → 0 ≤ s.1 → s.1 ≤ M → 0 ≤ s.2 → s.2 ≤ N →
    s.1 ≤ (l.foldl frS s).1 ∧ (l.foldl frS s).1 ≤ M ∧ s.2 ≤ (l.foldl frS s).2 ∧ (l.foldl frS s).2 ≤ N ∧ ∀ x ∈ l, (x.Words.length : Int) ≤ (l.foldl frS s).1 ∧ (x.Kids.length : Int) ≤ (l.foldl frS s).2
  | [], s, _, a, b, c, d => ⟨Int.le_refl _, b, Int.le_refl _, d, fun x hx => by cases hx⟩
  | y :: l, s, h, a, b, c, d => by
    obtain ⟨h1, h2⟩ := h y (.head _)
    have e1 : s.1 ≤ (frS s y).1 ∧ (frS s y).1 ≤ M ∧ (y.Words.length : Int) ≤ (frS s y).1 := by unfold frS; simp only; split <;> omega
    have e2 : s.2 ≤ (frS s y).2 ∧ (frS s y).2 ≤ N ∧ (y.Kids.length : Int) ≤ (frS s y).2 := by unfold frS; simp only; split <;> omega
    obtain ⟨k1, k2, k3, k4, k5⟩ := fr_key l (frS s y) (fun x hx => h x (.tail _ hx)) (by omega) e1.2.1 (by omega) e2.2.1
    rw [List.foldl_cons]
    refine ⟨by omega, k2, by omega, k4, fun x hx => ?_⟩
    rcases List.mem_cons.1 hx with rfl | hx
    · omega
    · exact k5 x hx
theorem fr_bd {M N : Int} {l : List Tr} (h : ∀ x ∈ l, (x.Words.length : Int) ≤ M ∧ (x.Kids.length : Int) ≤ N) (hM : 0 ≤ M) (hN : 0 ≤ N) :
    0 ≤ (fr l).1 ∧ (fr l).1 ≤ M ∧ 0 ≤ (fr l).2 ∧ (fr l).2 ≤ N ∧ ∀ x ∈ l, (x.Words.length : Int) ≤ (fr l).1 ∧ (x.Kids.length : Int) ≤ (fr l).2 :=
  fr_key l (0, 0) h (Int.le_refl _) hM (Int.le_refl _) hN
theorem isum_le {α : Type} {f : α → Int} {g : α → Nat} {c : Int} : ∀ {l : List α}, (∀ x ∈ l, 0 ≤ f x ∧ f x ≤ c * (g x : Int)) → 0 ≤ (l.map f).sum ∧ (l.map f).sum ≤ c * (((l.map g).sum : Nat) : Int)
  | [], _ => by simp
  | y :: l, h => by
    obtain ⟨a, b⟩ := isum_le fun x hx => h x (.tail _ hx)
    obtain ⟨c1, d⟩ := h y (.head _)
    simp only [List.map_cons, List.sum_cons, Int.natCast_add, Int.mul_add]
    omega
theorem rt_inv {t : Tr} {d : Nat} (h : rt t d = true) (h0 : ¬ t.Kind = 0) (h1 : ¬ t.Kind = 10) : t.Words.length < 65536 ∧ (t.Kind = 1 → t.Kids.length < 65536) ∧ (1 < t.Kind → t.Words = []) ∧ ∀ k ∈ t.Kids, rt k (d - 1) = true ∧ okk t.Kind k = true := by
  rw [rt_eq, if_neg h0, if_neg h1] at h
  by_cases hb : t.Kind < 0 ∨ 10 < t.Kind ∨ d = 0 ∨ 65536 ≤ t.Words.length ∨ (t.Kind = 1 ∧ 65536 ≤ t.Kids.length) ∨ 1048576 ≤ t.Kids.length ∨ (1 < t.Kind ∧ 0 < t.Words.length)
  · rw [if_pos hb] at h; cases h
  rw [if_neg hb, List.all_eq_true] at h
  refine ⟨by omega, fun h => by omega, fun h => List.length_eq_zero_iff.1 (by omega), fun k hk => ?_⟩
  have := h k hk
  rwa [Bool.and_eq_true] at this
/-- the words and pointers that the structs of a list have -/
theorem h9_eq {l : List Tr} (hl : l.length ≤ 200000) (h : ∀ x ∈ l, x.Words.length ≤ 65535 ∧ x.Kids.length ≤ 65535) : h9 l = 1 + (l.length : Int) * ((fr l).1 + (fr l).2) ∧ 0 ≤ (l.length : Int) * ((fr l).1 + (fr l).2) ∧ (l.length : Int) * ((fr l).1 + (fr l).2) ≤ 26214000000 ∧ (0 ≤ (fr l).1 ∧ (fr l).1 ≤ 65535 ∧ 0 ≤ (fr l).2 ∧ (fr l).2 ≤ 65535 ∧ ∀ x ∈ l, (x.Words.length : Int) ≤ (fr l).1 ∧ (x.Kids.length : Int) ≤ (fr l).2) := by
  have f := fr_bd (M := 65535) (N := 65535) (l := l) (fun x hx => by have := h x hx; omega) (by decide) (by decide)
  have a : 0 ≤ (l.length : Int) * ((fr l).1 + (fr l).2) := Int.mul_nonneg (by omega) (by omega)
  have b : (l.length : Int) * ((fr l).1 + (fr l).2) ≤ 200000 * 131070 := Int.mul_le_mul (by omega) (by omega) (by omega) (by decide)
  refine ⟨?_, a, by omega, f⟩
  unfold h9
  rw [i64s (x := (fr l).1 + (fr l).2) (by omega) (by omega), i64s (x := (l.length : Int) * _) (by omega) (by omega), i64s (by omega) (by omega)]
theorem room_le {c : Int} (h : 0 ≤ c ∧ c ≤ 5) (n : Nat) : (n * wid c + 63) / 64 ≤ n := by
  have hb : wid c ≤ 64 := by rcases c5' h with rfl | rfl | rfl | rfl | rfl | rfl <;> decide
  have := Nat.mul_le_mul_left n hb
  omega
theorem sz_bd : ∀ (n : Nat) (t : Tr) (d : Nat), SizeOf.sizeOf t < n → rt t d = true → pt t ≤ 200000 → 0 ≤ sz t ∧ sz t ≤ 27000000000 * (pt t : Int)
  | 0, _, _, h, _, _ => by omega
  | n + 1, t, d, h, hr, hp => by
    obtain ⟨_, _, _, _, hk⟩ := rt_len hr
    have ih : ∀ x ∈ t.Kids, 0 ≤ sz x ∧ sz x ≤ 27000000000 * (pt x : Int) := fun x hx => sz_bd n x (d - 1) (by have := kid_lt hx; omega) (hk x hx) (by have := pt_kid hx; omega)
    have ih2 : ∀ x ∈ t.Kids, 0 ≤ (x.Kids.map sz).sum ∧ (x.Kids.map sz).sum ≤ 27000000000 * (pt x : Int) := fun x hx => by
      have := isum_le (f := sz) (g := pt) (c := 27000000000) (l := x.Kids) fun y hy => sz_bd n y (d - 1 - 1) (by have := kid_lt hx; have := kid_lt hy; omega) ((rt_len (hk x hx)).2.2.2.2 y hy) (by have := pt_kid hx; have := pt_kid hy; omega)
      rw [pt_eq x]
      omega
    have s1 := isum_le ih
    have s2 := isum_le ih2
    have pk := pt_kids t
    have pe := pt_eq t
    rw [sz_eq]
    by_cases h1 : t.Kind = 1
    · rw [if_pos h1]; omega
    by_cases h2 : 2 ≤ t.Kind ∧ t.Kind ≤ 7
    · rw [if_neg h1, if_pos h2]
      have := room_le (c := t.Kind - 2) (by omega) t.Kids.length
      unfold roomZ
      omega
    by_cases h8 : t.Kind = 8
    · rw [if_neg h1, if_neg h2, if_pos h8]; omega
    by_cases h9' : t.Kind = 9
    · rw [if_neg h1, if_neg h2, if_neg h8, if_pos h9']
      obtain ⟨e, a, b, _⟩ := h9_eq (l := t.Kids) (by omega) (fun x hx => by
        obtain ⟨r1, r2⟩ := (rt_inv hr (by omega) (by omega)).2.2.2 x hx
        unfold okk at r2
        rw [if_neg h2, Bool.and_eq_true, bne_iff_ne, Bool.or_eq_true, bne_iff_ne, beq_iff_eq] at r2
        have k1 : x.Kind = 1 := by rcases r2.2 with h | h; exact absurd h9' h; exact h
        have := rt_inv r1 (by omega) (by omega)
        have := this.2.1 k1
        omega)
      omega
    · rw [if_neg h1, if_neg h2, if_neg h8, if_neg h9']; omega
theorem sz_nn {t : Tr} {d : Nat} (hr : rt t d = true) (hp : pt t ≤ 200000) : 0 ≤ sz t ∧ sz t ≤ 5400000000000000 := by
  have := sz_bd _ t d (Nat.lt_succ_self _) hr hp
  omega

/-- words, filled up with noughts -/
def zs (l : List Int) (N : Nat) : List Int := l ++ List.replicate (N - l.length) 0
theorem zs_len {l : List Int} {N : Nat} (h : l.length ≤ N) : (zs l N).length = N := by
  unfold zs
  rw [List.length_append, List.length_replicate]
  omega
theorem zs_get {l : List Int} {N a : Nat} {v : Int} (h : l[a]? = some v) : (zs l N)[a]? = some v := by
  unfold zs
  rw [List.getElem?_append_left (List.getElem?_eq_some_iff.1 h).1, h]
theorem zs_set {l : List Int} {N a : Nat} {v : Int} (h : a < l.length) : setI (zs l N) (a : Int) v = zs (setI l (a : Int) v) N := by
  unfold zs
  rw [setI_len]
  unfold setI
  rw [Int.toNat_natCast, List.set_append_left _ _ h]
theorem zs_cpy {l ys : List Int} {N : Nat} (h : l.length + ys.length ≤ N) : cpyAt (zs l N) (l.length : Int) ys = zs (l ++ ys) N := by
  unfold cpyAt
  rw [zs_len (by omega)]
  unfold zs
  rw [Int.toNat_natCast, List.take_left, List.take_of_length_le (by omega), List.drop_append, List.drop_replicate, List.drop_eq_nil_of_le (by omega), List.nil_append, List.length_append]
  congr 2
  omega
theorem zs_add {l : List Int} {N n : Nat} (h : l.length + n ≤ N) : zs (l ++ List.replicate n 0) N = zs l N := by
  unfold zs
  rw [List.length_append, List.length_replicate, List.append_assoc, List.replicate_append_replicate]
  congr 2
  omega
theorem add_ok {l : List Int} {n : Nat} (h : l.length + n ≤ 1048576) : m_centoref12_add l (n : Int) = some (l ++ List.replicate n 0) := by
  have := (loop_I (List.replicate n ()) (fun i s => (i, s)) (fun s => s) (m_centoref12_add_L0 (n : Int)) (fun s _ _ => s ++ [0]) (fun i s => s = l ++ List.replicate i 0) (by rw [List.length_replicate]; omega) (fun i s x hi hx hm hI => by
    subst hI
    rw [List.length_replicate] at hi
    refine ⟨?_, ?_⟩
    · unfold m_centoref12_add_L0
      simp only
      rw [decide_eq_true (by omega), cond_true, appI_ok (by rw [List.length_append, List.length_replicate, List.length_singleton]; omega) (by rw [List.length_append, List.length_replicate, List.length_singleton]; omega)]
      rfl
    · rw [List.append_assoc, List.replicate_succ']) (fun s _ => by
    unfold m_centoref12_add_L0
    simp only
    rw [List.length_replicate, lt_f, cond_false]) l (by simp))
  unfold m_centoref12_add
  rw [this.1, Option.bind_some, this.2, List.length_replicate]
/-- the words that a tree is laid into, as the document lays them -/
noncomputable def ly (t : Tr) (l : List Int) (a : Nat) : List Int := (lv_centoref12_Lay (SizeOf.sizeOf t + 1) l (a : Int) t).getD []
/-- both lay a tree alike -/
def Sim (t : Tr) : Prop := ∀ (l : List Int) (a : Nat), a < l.length → (l.length : Int) + sz t ≤ 131072 →
  ((ly t l a).length : Int) = l.length + sz t ∧ (∀ j, SizeOf.sizeOf t < j → lv_centoref12_Lay j l (a : Int) t = some (ly t l a)) ∧
  (∀ N k : Nat, (l.length : Int) + sz t ≤ N → N ≤ 131072 → 4 * SizeOf.sizeOf t < k → (lv_canon_layer_point k).1 ⟨zs l N, (l.length : Int)⟩ (a : Int) t = some ⟨zs (ly t l a) N, ((ly t l a).length : Int)⟩)
theorem sim_of {t : Tr} {l R : List Int} {a : Nat} (hr : (R.length : Int) = l.length + sz t) (ref : ∀ j, SizeOf.sizeOf t ≤ j → b_centoref12_Lay (lv_centoref12_Lay j) l (a : Int) t = some R)
    (prog : ∀ N k : Nat, (l.length : Int) + sz t ≤ N → N ≤ 131072 → 4 * SizeOf.sizeOf t < k + 4 → (lv_canon_layer_point (k + 4)).1 ⟨zs l N, (l.length : Int)⟩ (a : Int) t = some ⟨zs R N, (R.length : Int)⟩) :
    ly t l a = R ∧ ((ly t l a).length : Int) = l.length + sz t ∧ (∀ j, SizeOf.sizeOf t < j → lv_centoref12_Lay j l (a : Int) t = some (ly t l a)) ∧
    (∀ N k : Nat, (l.length : Int) + sz t ≤ N → N ≤ 131072 → 4 * SizeOf.sizeOf t < k → (lv_canon_layer_point k).1 ⟨zs l N, (l.length : Int)⟩ (a : Int) t = some ⟨zs (ly t l a) N, ((ly t l a).length : Int)⟩) := by
  have e : ly t l a = R := by
    unfold ly
    have := ref (SizeOf.sizeOf t) (Nat.le_refl _)
    show Option.getD (b_centoref12_Lay (lv_centoref12_Lay (SizeOf.sizeOf t)) l (a : Int) t) [] = R
    rw [this]
    rfl
  refine ⟨e, by rw [e]; exact hr, fun j hj => ?_, fun N k h1 h2 h3 => ?_⟩
  · obtain ⟨i, rfl⟩ : ∃ i, j = i + 1 := ⟨j - 1, by omega⟩
    rw [e]
    exact ref i (by omega)
  · have := size_pos t
    obtain ⟨i, rfl⟩ : ∃ i, k = i + 4 := ⟨k - 4, by omega⟩
    rw [e]
    exact prog N i h1 h2 h3
theorem lvc1 (k : Nat) : (lv_canon_layer_point (k + 1)).1 = b_canon_layer_point ((lv_canon_layer_point k).1) ((lv_canon_layer_point k).2.1) ((lv_canon_layer_point k).2.2.1) ((lv_canon_layer_point k).2.2.2) := rfl
theorem lvc2 (k : Nat) : (lv_canon_layer_point (k + 1)).2.1 = b_canon_layer_content ((lv_canon_layer_point k).1) ((lv_canon_layer_point k).2.1) ((lv_canon_layer_point k).2.2.1) ((lv_canon_layer_point k).2.2.2) := rfl
theorem lvc3 (k : Nat) : (lv_canon_layer_point (k + 1)).2.2.1 = b_canon_layer_pointAll ((lv_canon_layer_point k).1) ((lv_canon_layer_point k).2.1) ((lv_canon_layer_point k).2.2.1) ((lv_canon_layer_point k).2.2.2) := rfl
theorem lvc4 (k : Nat) : (lv_canon_layer_point (k + 1)).2.2.2 = b_canon_layer_structs ((lv_canon_layer_point k).1) ((lv_canon_layer_point k).2.1) ((lv_canon_layer_point k).2.2.1) ((lv_canon_layer_point k).2.2.2) := rfl
/-- kids laid one behind the other -/
noncomputable def lyK (b : Nat) (ks : List Tr) (l : List Int) : List Int := foldI (fun l i x => ly x l (b + i)) l 0 ks
theorem foldI_I {α σ : Type} {f : σ → Nat → α → σ} (I : Nat → σ → Prop) (xs : List α) (h : ∀ (i : Nat) (s : σ) (x : α), i < xs.length → xs[i]? = some x → x ∈ xs → I i s → I (i + 1) (f s i x)) {s : σ} (h0 : I 0 s) : I xs.length (foldI f s 0 xs) := by
  have key : ∀ (l pre : List α) (s : σ), xs = pre ++ l → I pre.length s → I xs.length (foldI f s pre.length l) := fun l => by
    induction l with
    | nil =>
      intro pre s hp hi
      rw [List.append_nil] at hp
      subst hp
      exact hi
    | cons x l ih =>
      intro pre s hp hI
      have hx : xs[pre.length]? = some x := by rw [hp, List.getElem?_append_right (Nat.le_refl _), Nat.sub_self]; rfl
      have hi : pre.length < xs.length := by rw [hp]; simp
      have b := h pre.length s x hi hx (List.mem_of_getElem? hx) hI
      have := ih (pre ++ [x]) (f s pre.length x) (by rw [hp]; simp) (by rw [List.length_append, List.length_singleton]; exact b)
      rw [List.length_append, List.length_singleton] at this
      exact this
  exact key xs [] s rfl h0
theorem kid_step {ks : List Tr} (hk : ∀ x ∈ ks, Sim x ∧ 0 ≤ sz x) {l : List Int} {b : Nat} (hb : b + ks.length ≤ l.length) (hs : (l.length : Int) + (ks.map sz).sum ≤ 131072)
    (i : Nat) (s : List Int) (x : Tr) (hi : i < ks.length) (hx : ks[i]? = some x) (hm : x ∈ ks) (hI : (s.length : Int) = l.length + ((ks.take i).map sz).sum) :
    b + i < s.length ∧ (s.length : Int) + sz x ≤ l.length + (ks.map sz).sum ∧ ((ly x s (b + i)).length : Int) = l.length + ((ks.take (i + 1)).map sz).sum := by
  obtain ⟨h1, h2⟩ := sum_step (f := sz) hx fun y hy => (hk y hy).2
  have h3 := sum_pos (f := sz) (xs := ks.take i) fun y hy => (hk y (List.mem_of_mem_take hy)).2
  have h4 := ((hk x hm).1 s (b + i) (by omega) (by omega)).1
  exact ⟨by omega, by omega, by omega⟩
theorem kidsLen {ks : List Tr} (hk : ∀ x ∈ ks, Sim x ∧ 0 ≤ sz x) {l : List Int} {b : Nat} (hb : b + ks.length ≤ l.length) (hs : (l.length : Int) + (ks.map sz).sum ≤ 131072) : ((lyK b ks l).length : Int) = l.length + (ks.map sz).sum := by
  have := foldI_I (f := fun l i x => ly x l (b + i)) (fun i (s : List Int) => (s.length : Int) = l.length + ((ks.take i).map sz).sum) ks (fun i s x hi hx hm hI => (kid_step hk hb hs i s x hi hx hm hI).2.2) (s := l) (by simp)
  rw [List.take_length] at this
  exact this
theorem kidsR {ks : List Tr} (hk : ∀ x ∈ ks, Sim x ∧ 0 ≤ sz x) {l : List Int} {b : Nat} (hb : b + ks.length ≤ l.length) (hs : (l.length : Int) + (ks.map sz).sum ≤ 131072)
    (j : Nat) (step : Int × List Int → Option ((Int × List Int) ⊕ List Int)) (hj : ∀ x ∈ ks, SizeOf.sizeOf x < j)
    (h1 : ∀ (i : Nat) (s : List Int) (x : Tr) (s' : List Int), i < ks.length → ks[i]? = some x → x ∈ ks → lv_centoref12_Lay j s ((b + i : Nat) : Int) x = some s' → step ((i : Int), s) = some (.inl (IntKind.i64.wrap ((i : Int) + 1), s')))
    (h2 : ∀ s, step ((ks.length : Int), s) = some (.inr s)) : runLoop step (0, l) = some (lyK b ks l) := by
  have h3 := sum_pos (f := sz) (xs := ks) fun y hy => (hk y hy).2
  exact (loop_I ks (fun i s => (i, s)) (fun s => s) step (fun l i x => ly x l (b + i)) (fun i (s : List Int) => (s.length : Int) = l.length + ((ks.take i).map sz).sum) (by omega) (fun i s x hi hx hm hI => by
    obtain ⟨a1, a2, a3⟩ := kid_step hk hb hs i s x hi hx hm hI
    exact ⟨h1 i s x _ hi hx hm (((hk x hm).1 s (b + i) a1 (by omega)).2.1 j (hj x hm)), a3⟩) (fun s _ => h2 s) l (by simp)).1
theorem kidsP {ks : List Tr} (hk : ∀ x ∈ ks, Sim x ∧ 0 ≤ sz x) {l : List Int} {b : Nat} (hb : b + ks.length ≤ l.length) (hs : (l.length : Int) + (ks.map sz).sum ≤ 131072)
    (N m : Nat) (hN : (l.length : Int) + (ks.map sz).sum ≤ N) (hN2 : N ≤ 131072) (hm : ∀ x ∈ ks, 4 * SizeOf.sizeOf x < m) :
    (lv_canon_layer_point (m + 1)).2.2.1 ⟨zs l N, (l.length : Int)⟩ (b : Int) ks = some ⟨zs (lyK b ks l) N, ((lyK b ks l).length : Int)⟩ := by
  have h3 := sum_pos (f := sz) (xs := ks) fun y hy => (hk y hy).2
  rw [lvc3]
  unfold b_canon_layer_pointAll
  have := (loop_I ks (fun i (s : List Int) => (i, zs s N, (s.length : Int))) (fun s => (zs s N, (s.length : Int))) (b_canon_layer_pointAll_L0 (lv_canon_layer_point m).1 (b : Int) ks) (fun l i x => ly x l (b + i)) (fun i (s : List Int) => (s.length : Int) = l.length + ((ks.take i).map sz).sum) (by omega) (fun i s x hi hx hm' hI => by
    obtain ⟨a1, a2, a3⟩ := kid_step hk hb hs i s x hi hx hm' hI
    refine ⟨?_, a3⟩
    unfold b_canon_layer_pointAll_L0
    simp only
    have e : IntKind.i64.wrap ((b : Int) + (i : Int)) = ((b + i : Nat) : Int) := by rw [i64s (by omega) (by omega)]; omega
    rw [lt_t hi, cond_true, getI_of hx, Option.bind_some, e, ((hk x hm').1 s (b + i) a1 (by omega)).2.2 N m (by omega) hN2 (hm x hm'), Option.bind_some]) (fun s _ => by
    unfold b_canon_layer_pointAll_L0
    simp only
    rw [lt_f, cond_false]) l (by simp)).1
  rw [this]
  rfl

theorem beq_t {a b : Int} (h : a = b) : (a == b) = true := by rw [h]; exact beq_self_eq_true b
theorem get_at {l : List Int} {a : Nat} (h : a < l.length) : getI l (a : Int) = some l[a] := getI_of (List.getElem?_eq_getElem h)
theorem getz {l : List Int} {a N : Nat} (h : a < l.length) : getI (zs l N) (a : Int) = some l[a] := getI_of (zs_get (List.getElem?_eq_getElem h))
theorem lyK_nil {ks : List Tr} (h : ks = []) (b b' : Nat) (l : List Int) : lyK b ks l = lyK b' ks l := by subst h; rfl
theorem sim_null {t : Tr} (h0 : t.Kind = 0) : Sim t := fun l a ha hs => by
  have e : sz t = 0 := by
    rw [sz_eq, if_neg (by omega), if_neg (by omega), if_neg (by omega), if_neg (by omega)]
  exact (sim_of (R := l) (by omega) (fun j _ => by
    unfold b_centoref12_Lay
    rw [beq_t h0, cond_true]) (fun N k _ _ _ => by
    rw [lvc1]
    unfold b_canon_layer_point
    rw [beq_t h0, cond_true])).2
/-- the offset of a struct -/
def offS (t : Tr) (l : List Int) (a : Nat) : Int := if t.Words.length + t.Kids.length = 0 then -1 else (l.length : Int) - a - 1
def RS1 (t : Tr) (l : List Int) (a : Nat) : List Int := setI l (a : Int) (offS t l a % 1073741824 * 4 + (t.Words.length : Int) * 4294967296 + (t.Kids.length : Int) * 281474976710656) ++ t.Words ++ List.replicate t.Kids.length 0
theorem lay_struct {t : Tr} (h1 : t.Kind = 1) (hw : t.Words.length < 65536) (hkl : t.Kids.length < 65536) (hk : ∀ x ∈ t.Kids, Sim x ∧ 0 ≤ sz x) (l : List Int) (a : Nat) (ha : a < l.length) (hs : (l.length : Int) + sz t ≤ 131072) :
    ly t l a = lyK (l.length + t.Words.length) t.Kids (RS1 t l a) ∧ ((ly t l a).length : Int) = l.length + sz t ∧ (∀ j, SizeOf.sizeOf t < j → lv_centoref12_Lay j l (a : Int) t = some (ly t l a)) ∧
    (∀ N k : Nat, (l.length : Int) + sz t ≤ N → N ≤ 131072 → 4 * SizeOf.sizeOf t < k → (lv_canon_layer_point k).1 ⟨zs l N, (l.length : Int)⟩ (a : Int) t = some ⟨zs (ly t l a) N, ((ly t l a).length : Int)⟩) := by
  have es : sz t = ((t.Words.length : Int) + (t.Kids.length : Int)) + (t.Kids.map sz).sum := by rw [sz_eq, if_pos h1]
  have s0 := sum_pos (f := sz) (xs := t.Kids) fun y hy => (hk y hy).2
  have k0 : (t.Kind == 0) = false := ieqF (by omega)
  have k1 : (t.Kind == 1) = true := beq_t h1
  have l2 : (RS1 t l a).length = l.length + t.Words.length + t.Kids.length := by unfold RS1; rw [List.length_append, List.length_append, setI_len, List.length_replicate]
  have hb : l.length + t.Words.length + t.Kids.length ≤ (RS1 t l a).length := by omega
  have hs2 : ((RS1 t l a).length : Int) + (t.Kids.map sz).sum ≤ 131072 := by omega
  have len := kidsLen hk hb hs2
  have ho : -536870912 ≤ offS t l a ∧ offS t l a < 536870912 ∧ ¬ (offS t l a = 0 ∧ (t.Words.length : Int) = 0 ∧ (t.Kids.length : Int) = 0) := by unfold offS; split <;> omega
  refine sim_of (by rw [len]; omega) (fun j hj => ?_) (fun N k hN hN2 hkk => ?_)
  · unfold b_centoref12_Lay
    rw [k0, cond_false, k1, cond_true]
    have ez : (cond ((IntKind.i64.wrap ((t.Words.length : Int) + (t.Kids.length : Int))) == 0) (some (a : Int)) (some (l.length : Int))) = some (((if t.Words.length + t.Kids.length = 0 then a else l.length : Nat) : Nat) : Int) := by
      rw [i64s (by omega) (by omega)]
      by_cases q : t.Words.length + t.Kids.length = 0
      · rw [beq_t (by omega), cond_true, if_pos q]
      · rw [ieqF (by omega), cond_false, if_neg q]
    rw [ez, Option.bind_some]
    generalize ht : (if t.Words.length + t.Kids.length = 0 then a else l.length) = tt
    have hto : tt ≤ l.length ∧ (tt : Int) - a - 1 = offS t l a ∧ (tt = l.length ∨ t.Kids = []) := by
      unfold offS
      by_cases q : t.Words.length + t.Kids.length = 0
      · rw [if_pos q] at ht ⊢
        exact ⟨by omega, by omega, .inr (List.length_eq_zero_iff.1 (by omega))⟩
      · rw [if_neg q] at ht ⊢
        exact ⟨by omega, by omega, .inl ht.symm⟩
    have hto3 : t.Kids.length = 0 ∨ tt = l.length := by
      rcases hto.2.2 with h | h
      · exact .inr h
      · exact .inl (by rw [h]; rfl)
    rw [u64i (x := (t.Words.length : Int)) (by omega) (by omega), u64i (x := (t.Kids.length : Int)) (by omega) (by omega), u64i (x := 65536 * _) (by omega) (by omega), u64i (by omega) (by omega), rpointer (by omega) (by omega) (by omega) (by omega) (by decide) (by decide) (by omega) (by omega), Option.bind_some, get_at ha, Option.bind_some, hto.2.1]
    have ev : offS t l a % 1073741824 * 4 + 0 + ((t.Words.length : Int) + 65536 * (t.Kids.length : Int)) * 4294967296 = offS t l a % 1073741824 * 4 + (t.Words.length : Int) * 4294967296 + (t.Kids.length : Int) * 281474976710656 := by omega
    rw [ev, appI_ok (by rw [setI_len]; omega) (by rw [setI_len]; omega), Option.bind_some, add_ok (by rw [List.length_append, setI_len]; omega), Option.bind_some]
    have := kidsR (b := tt + t.Words.length) hk (by omega) hs2 j (b_centoref12_Lay_L0 (lv_centoref12_Lay j) t (tt : Int)) (fun x hx => by have := kid_lt hx; omega) (fun i s x s' hi hx hm hq => by
      unfold b_centoref12_Lay_L0
      simp only
      have e : IntKind.i64.wrap (IntKind.i64.wrap ((tt : Int) + (t.Words.length : Int)) + (i : Int)) = ((tt + t.Words.length + i : Nat) : Int) := by rw [i64s (x := (tt : Int) + _) (by omega) (by omega), i64s (by omega) (by omega)]; omega
      rw [lt_t hi, cond_true, getI_of hx, Option.bind_some, e, hq, Option.bind_some]) (fun s => by
      unfold b_centoref12_Lay_L0
      simp only
      rw [lt_f, cond_false])
    unfold RS1 at this ⊢
    rw [this, Option.bind_some]
    rcases hto.2.2 with h | h
    · rw [h]
    · rw [lyK_nil h]
  · rw [lvc1]
    unfold b_canon_layer_point
    rw [k0, cond_false]
    have e1 : m_canon_shape t = some (⟨1, 0, (t.Words.length : Int), (t.Kids.length : Int), 0, 0, 0, false⟩ : S_ptr_Ptr) := by unfold m_canon_shape; rw [k1, cond_true]
    have e2 : m_ptr_Ptr_Words (⟨1, 0, (t.Words.length : Int), (t.Kids.length : Int), 0, 0, 0, false⟩ : S_ptr_Ptr) = some ((t.Words.length : Int) + (t.Kids.length : Int), true) := by
      unfold m_ptr_Ptr_Words
      simp only
      rw [beq_t rfl, cond_true, i64s (by omega) (by omega)]
    have e3 : (cond (cond ((1 : Int) == 1) (((t.Words.length : Int) + (t.Kids.length : Int)) == 0) false) (some (-1)) (some (IntKind.i64.wrap ((IntKind.i64.wrap ((l.length : Int) - (a : Int))) - 1)))) = some (offS t l a) := by
      unfold offS
      rw [i64s (x := (l.length : Int) - (a : Int)) (by omega) (by omega), i64s (by omega) (by omega), beq_t rfl, cond_true]
      by_cases q : t.Words.length + t.Kids.length = 0
      · rw [beq_t (by omega), cond_true, if_pos q]
      · rw [ieqF (by omega), cond_false, if_neg q]
    rw [e1, Option.bind_some, e2, Option.bind_some]
    simp only
    rw [e3, Option.bind_some, encS ho.1 ho.2.1 (by omega) (by omega) (by omega) (by omega) ho.2.2, Option.bind_some, getz ha, Option.bind_some, zs_set ha, lvc2]
    unfold b_canon_layer_content
    simp only
    rw [k1, cond_true]
    have l1 := setI_len l (a : Int) (offS t l a % 1073741824 * 4 + (t.Words.length : Int) * 4294967296 + (t.Kids.length : Int) * 281474976710656)
    unfold RS1 at l2 len hb hs2 ⊢
    generalize setI l (a : Int) (offS t l a % 1073741824 * 4 + (t.Words.length : Int) * 4294967296 + (t.Kids.length : Int) * 281474976710656) = m at *
    rw [zs_len (by omega), guardI_ok (by omega), Option.bind_some, i64s (x := (l.length : Int) + _) (by omega) (by omega), i64s (by omega) (by omega), ← l1, zs_cpy (by omega), ← zs_add (n := t.Kids.length) (by rw [List.length_append]; omega)]
    have := kidsP hk hb hs2 N (k + 1) (by omega) hN2 (fun x hx => by have := kid_lt hx; omega)
    have e4 : (m.length : Int) + ((min t.Words.length (((N : Nat) : Int) - (m.length : Int)).toNat : Nat) : Int) = ((m.length + t.Words.length : Nat) : Int) := by omega
    have e5 : (m.length : Int) + ((t.Words.length : Int) + (t.Kids.length : Int)) = ((m ++ t.Words ++ List.replicate t.Kids.length 0).length : Int) := by omega
    rw [e4, e5, ← l1] at *
    rw [this]
    rfl

theorem pwidth {c : Int} (h : 0 ≤ c ∧ c ≤ 6) : m_ptr_width c = some (if c = 6 then 64 else ((wid c : Nat) : Int)) := by
  have : c = 0 ∨ c = 1 ∨ c = 2 ∨ c = 3 ∨ c = 4 ∨ c = 5 ∨ c = 6 := by omega
  rcases this with rfl | rfl | rfl | rfl | rfl | rfl | rfl <;> rfl
/-- how many words a list's content takes -/
def rmL (c : Int) (n : Nat) : Nat := if c = 6 then n else (n * wid c + 63) / 64
theorem pwords {c off : Int} {n : Nat} (h : 0 ≤ c ∧ c ≤ 6) (hn : n ≤ 200000) : m_ptr_Ptr_Words (⟨2, off, 0, 0, c, (n : Int), 0, false⟩ : S_ptr_Ptr) = some (((rmL c n : Nat) : Int), true) := by
  unfold m_ptr_Ptr_Words
  simp only
  rw [ieqF (a := 2) (b := 1) (by decide), cond_false, beq_t (a := 2) (b := 2) rfl, cond_true, ieqF (a := c) (b := 7) (by omega), cond_false, cond_true, decide_eq_true (by omega), cond_true, decide_eq_true (by omega), cond_true, decide_eq_true (by omega), cond_true, decide_eq_true (by omega), cond_true, pwidth h, Option.bind_some]
  unfold rmL
  by_cases q : c = 6
  · rw [if_pos q, if_pos q, i64s (x := (n : Int) * 64) (by omega) (by omega), i64s (x := (n : Int) * 64 + 63) (by omega) (by omega), Int.tdiv_eq_ediv_of_nonneg (by omega), i64s (by omega) (by omega)]
    congr 2
    omega
  · rw [if_neg q, if_neg q]
    have hb : wid c ≤ 64 := by rcases c5' (show 0 ≤ c ∧ c ≤ 5 by omega) with rfl | rfl | rfl | rfl | rfl | rfl <;> decide
    have hm : n * wid c ≤ 200000 * 64 := Nat.mul_le_mul hn hb
    rw [← Int.natCast_mul]
    generalize n * wid c = m at hm ⊢
    rw [i64s (x := (m : Int)) (by omega) (by omega), i64s (x := (m : Int) + 63) (by omega) (by omega), Int.tdiv_eq_ediv_of_nonneg (by omega), i64s (by omega) (by omega)]
    congr 1
def hdL (t : Tr) (l : List Int) (a : Nat) : Int := ((l.length : Int) - a - 1) % 1073741824 * 4 + 1 + (t.Kind - 2) * 4294967296 + (t.Kids.length : Int) * 34359738368
theorem pshape {t : Tr} (h2 : 2 ≤ t.Kind ∧ t.Kind ≤ 8) : m_canon_shape t = some (⟨2, 0, 0, 0, t.Kind - 2, (t.Kids.length : Int), 0, false⟩ : S_ptr_Ptr) := by
  unfold m_canon_shape
  rw [ieqF (by omega), cond_false, ieqF (by omega), cond_false, i64s (by omega) (by omega)]
/-- a list of data, or of pointers: what its pointer is -/
theorem point_list {t : Tr} (h2 : 2 ≤ t.Kind ∧ t.Kind ≤ 8) (hn : t.Kids.length ≤ 200000) {l : List Int} {a N : Nat} (ha : a < l.length) (hl : l.length ≤ 131072) (k : Nat) :
    (lv_canon_layer_point (k + 1)).1 ⟨zs l N, (l.length : Int)⟩ (a : Int) t = ((lv_canon_layer_point k).2.1 ⟨zs (setI l (a : Int) (hdL t l a)) N, ((l.length + rmL (t.Kind - 2) t.Kids.length : Nat) : Int)⟩ (l.length : Int) t).bind fun y => some ⟨y.words, y.next⟩ := by
  rw [lvc1]
  unfold b_canon_layer_point
  have hr : rmL (t.Kind - 2) t.Kids.length ≤ t.Kids.length := by
    unfold rmL
    split
    · exact Nat.le_refl _
    · exact room_le (by omega) _
  rw [ieqF (by omega), cond_false, pshape h2, Option.bind_some, pwords (by omega) hn, Option.bind_some]
  simp only
  rw [ieqF (a := 2) (b := 1) (by decide), cond_false, cond_false, Option.bind_some, i64s (x := (l.length : Int) - (a : Int)) (by omega) (by omega), i64s (by omega) (by omega), encL (by omega) (by omega) (by omega) (by omega) (by omega) (by omega), Option.bind_some, getz ha, Option.bind_some, zs_set ha, i64s (by omega) (by omega)]
  rfl
theorem lay_ptrs {t : Tr} (h8 : t.Kind = 8) (hn : t.Kids.length ≤ 200000) (hk : ∀ x ∈ t.Kids, Sim x ∧ 0 ≤ sz x) (l : List Int) (a : Nat) (ha : a < l.length) (hs : (l.length : Int) + sz t ≤ 131072) :
    ly t l a = lyK l.length t.Kids (setI l (a : Int) (hdL t l a) ++ List.replicate t.Kids.length 0) ∧ ((ly t l a).length : Int) = l.length + sz t ∧ (∀ j, SizeOf.sizeOf t < j → lv_centoref12_Lay j l (a : Int) t = some (ly t l a)) ∧
    (∀ N k : Nat, (l.length : Int) + sz t ≤ N → N ≤ 131072 → 4 * SizeOf.sizeOf t < k → (lv_canon_layer_point k).1 ⟨zs l N, (l.length : Int)⟩ (a : Int) t = some ⟨zs (ly t l a) N, ((ly t l a).length : Int)⟩) := by
  have es : sz t = (t.Kids.length : Int) + (t.Kids.map sz).sum := by rw [sz_eq, if_neg (by omega), if_neg (by omega), if_pos h8]
  have s0 := sum_pos (f := sz) (xs := t.Kids) fun y hy => (hk y hy).2
  have l1 := setI_len l (a : Int) (hdL t l a)
  have l2 : (setI l (a : Int) (hdL t l a) ++ List.replicate t.Kids.length 0).length = l.length + t.Kids.length := by rw [List.length_append, setI_len, List.length_replicate]
  have hb : l.length + t.Kids.length ≤ (setI l (a : Int) (hdL t l a) ++ List.replicate t.Kids.length 0).length := by omega
  have hs2 : ((setI l (a : Int) (hdL t l a) ++ List.replicate t.Kids.length 0).length : Int) + (t.Kids.map sz).sum ≤ 131072 := by omega
  have len := kidsLen hk hb hs2
  refine sim_of (by rw [len]; omega) (fun j hj => ?_) (fun N k hN hN2 hkk => ?_)
  · unfold b_centoref12_Lay
    rw [ieqF (by omega), cond_false, ieqF (by omega), cond_false, beq_t h8, cond_true, u64i (x := (t.Kids.length : Int)) (by omega) (by omega), u64i (x := 8 * _) (by omega) (by omega), u64i (by omega) (by omega), rpointer (by omega) (by omega) (by omega) (by omega) (by decide) (by decide) (by omega) (by omega), Option.bind_some, get_at ha, Option.bind_some]
    have ev : ((l.length : Int) - (a : Int) - 1) % 1073741824 * 4 + 1 + (6 + 8 * (t.Kids.length : Int)) * 4294967296 = hdL t l a := by unfold hdL; rw [h8]; omega
    rw [ev, add_ok (by omega), Option.bind_some]
    have := kidsR hk hb hs2 j (b_centoref12_Lay_L1 (lv_centoref12_Lay j) l t) (fun x hx => by have := kid_lt hx; omega) (fun i s x s' hi hx hm hq => by
      unfold b_centoref12_Lay_L1
      simp only
      have e : IntKind.i64.wrap ((l.length : Int) + (i : Int)) = ((l.length + i : Nat) : Int) := by rw [i64s (by omega) (by omega)]; omega
      rw [lt_t hi, cond_true, getI_of hx, Option.bind_some, e, hq, Option.bind_some]) (fun s => by
      unfold b_centoref12_Lay_L1
      simp only
      rw [lt_f, cond_false])
    rw [this, Option.bind_some]
  · rw [point_list (by omega) hn ha (by omega), lvc2]
    unfold b_canon_layer_content
    simp only
    rw [ieqF (by omega), cond_false, beq_t h8, cond_true]
    have e0 : rmL (t.Kind - 2) t.Kids.length = t.Kids.length := by unfold rmL; rw [if_pos (by omega)]
    have := kidsP hk hb hs2 N (k + 1) (by omega) hN2 (fun x hx => by have := kid_lt hx; omega)
    rw [zs_add (by omega), l2] at this
    rw [e0, this]
    rfl
theorem lay_data {t : Tr} (h2 : 2 ≤ t.Kind ∧ t.Kind ≤ 7) (hn : t.Kids.length ≤ 200000) (hat : ∀ k ∈ t.Kids, ∃ w, k.Words = [w] ∧ 0 ≤ w ∧ w < 18446744073709551616 ∧ fitsP (t.Kind - 2) w = true) (l : List Int) (a : Nat) (ha : a < l.length) (hs : (l.length : Int) + sz t ≤ 131072) :
    ly t l a = setI l (a : Int) (hdL t l a) ++ putC (t.Kind - 2) (ato t) ∧ ((ly t l a).length : Int) = l.length + sz t ∧ (∀ j, SizeOf.sizeOf t < j → lv_centoref12_Lay j l (a : Int) t = some (ly t l a)) ∧
    (∀ N k : Nat, (l.length : Int) + sz t ≤ N → N ≤ 131072 → 4 * SizeOf.sizeOf t < k → (lv_canon_layer_point k).1 ⟨zs l N, (l.length : Int)⟩ (a : Int) t = some ⟨zs (ly t l a) N, ((ly t l a).length : Int)⟩) := by
  have es : sz t = ((rmL (t.Kind - 2) t.Kids.length : Nat) : Int) := by
    rw [sz_eq, if_neg (by omega), if_pos h2]
    unfold roomZ rmL
    rw [if_neg (by omega)]
  have hr : rmL (t.Kind - 2) t.Kids.length ≤ t.Kids.length := by
    unfold rmL
    rw [if_neg (by omega)]
    exact room_le (by omega) _
  have l1 := setI_len l (a : Int) (hdL t l a)
  have hp : (putC (t.Kind - 2) (ato t)).length = rmL (t.Kind - 2) t.Kids.length := by
    have := (wput_ok (c := t.Kind - 2) (by omega) (ns := ato t) (by rw [ato_len]; omega) (fun n hn => by
      obtain ⟨k, hk, rfl⟩ := List.mem_map.1 hn
      obtain ⟨w, hw, h0, _, h1⟩ := hat k hk
      rw [hw]
      exact ⟨h0, h1⟩)).2
    rw [this, ato_len]
    unfold rmL
    rw [if_neg (by omega)]
  have l2 : (setI l (a : Int) (hdL t l a) ++ putC (t.Kind - 2) (ato t)).length = l.length + rmL (t.Kind - 2) t.Kids.length := by rw [List.length_append, setI_len, hp]
  refine sim_of (by rw [l2]; omega) (fun j hj => ?_) (fun N k hN hN2 hkk => ?_)
  · unfold b_centoref12_Lay
    rw [ieqF (by omega), cond_false, ieqF (by omega), cond_false, ieqF (by omega), cond_false, ieqF (by omega), cond_false, atoms_ok (by omega) (fun k hk => by obtain ⟨w, a, b, _, c⟩ := hat k hk; exact ⟨w, a, b, c⟩), Option.bind_some, i64s (x := t.Kind - 2) (by omega) (by omega), rputC_ok (by omega) (by rw [ato_len]; omega) (fun n hn => by
      obtain ⟨k, hk, rfl⟩ := List.mem_map.1 hn
      obtain ⟨w, hw, h0, h1, h2⟩ := hat k hk
      rw [hw]
      exact ⟨h0, h1, h2⟩), Option.bind_some, u64i (x := t.Kind - 2) (by omega) (by omega), u64i (x := (t.Kids.length : Int)) (by omega) (by omega), u64i (x := 8 * _) (by omega) (by omega), u64i (by omega) (by omega), rpointer (by omega) (by omega) (by omega) (by omega) (by decide) (by decide) (by omega) (by omega), Option.bind_some, get_at ha, Option.bind_some]
    have ev : ((l.length : Int) - (a : Int) - 1) % 1073741824 * 4 + 1 + (t.Kind - 2 + 8 * (t.Kids.length : Int)) * 4294967296 = hdL t l a := by unfold hdL; omega
    simp only
    rw [ev, appI_ok (by omega) (by omega)]
    rfl
  · rw [point_list (by omega) hn ha (by omega), lvc2]
    unfold b_canon_layer_content
    simp only
    rw [ieqF (by omega), cond_false, ieqF (by omega), cond_false, ieqF (by omega), cond_false, zs_len (by omega), guardI_ok (by omega), Option.bind_some, numbers_ok h2 (by omega) (fun k hk => by obtain ⟨w, a, b, _, c⟩ := hat k hk; exact ⟨w, a, b, c⟩), Option.bind_some, Option.bind_some]
    have := zs_cpy (l := setI l (a : Int) (hdL t l a)) (ys := putC (t.Kind - 2) (ato t)) (N := N) (by omega)
    rw [l1] at this
    simp only
    rw [this, l2]


end Go.Proofs.Ytpfbdlcnfekdkaa
