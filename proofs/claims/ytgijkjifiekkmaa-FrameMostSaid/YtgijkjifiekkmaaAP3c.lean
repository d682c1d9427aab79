/- Plain facts on this seat's mirrors (part AP3c); each theorem bears its own conditions. -/
import Derived.Test.YtgijkjifiekkmaaAP3b
import Derived.IntWalk
namespace Go.Proofs.Ytgijkjifiekkmaa
open Go.RowKit
set_option linter.unusedVariables false
set_option linter.unusedSimpArgs false
/-- a word of eight bytes -/
def num8 (b : List Int) (k : Nat) : Nat := byteN b k + byteN b (k + 1) * 256 + byteN b (k + 2) * 65536 + byteN b (k + 3) * 16777216 + byteN b (k + 4) * 4294967296 + byteN b (k + 5) * 1099511627776 + byteN b (k + 6) * 281474976710656 + byteN b (k + 7) * 72057594037927936
theorem lor_add64 (x y k : Nat) (hx : x < 2 ^ k) (hy : y < 256) (hk : k ≤ 56) : IntKind.u64.wrap (lorI .u64 (x : Int) (IntKind.u64.wrap (IntKind.u64.wrap (y : Int) * 2 ^ k))) = ((x + y * 2 ^ k : Nat) : Int) := by
  have hp : (2 : Nat) ^ k ≤ 72057594037927936 := by have := Nat.pow_le_pow_right (n := 2) (by decide) hk; simpa using this
  have hm : y * 2 ^ k ≤ 255 * 72057594037927936 := Nat.mul_le_mul (by omega) hp
  have e : ((y : Int) * 2 ^ k) = ((y * 2 ^ k : Nat) : Int) := by simp
  rw [u64w (x := (y : Int)) (by omega), e, u64w (x := ((y * 2 ^ k : Nat) : Int)) (by omega)]
  have ho : x ||| (y * 2 ^ k) = x + y * 2 ^ k := by
    rw [Nat.or_comm, Nat.mul_comm, ← Nat.two_pow_add_eq_or_of_lt hx, Nat.add_comm]
  rw [lor64 x (y * 2 ^ k) (by omega) (by omega), ho, u64w (by omega)]
theorem of_step (a : Arr Int 8) (ha : ∀ x ∈ a.1, isB x) (w i : Nat) (hi : i < 8) (hw : w < 2 ^ (8 * i)) : m_word_Of_L0 a ((w : Int), (i : Int)) = some (.inl (((w + byteN a.1 i * 2 ^ (8 * i) : Nat) : Int), ((i + 1 : Nat) : Int))) := by
  unfold m_word_Of_L0
  simp only
  have e : decide ((i : Int) < 8) = true := by rw [decide_eq_true_eq]; omega
  have hb := byteN_p ha i
  rw [e, cond_true, get_byte ha (by rw [a.2]; exact hi), Option.bind_some, i64w (x := 8 * (i : Int)) (by omega), guardI_ok (by omega), Option.bind_some, show min (Int.toNat (8 * (i : Int))) 64 = 8 * i by omega, lor_add64 w _ (8 * i) hw hb (by omega), i64w (by omega)]
  rfl
theorem of_p (a : Arr Int 8) (ha : ∀ x ∈ a.1, isB x) : m_word_Of a = some (num8 a.1 0 : Int) := by
  unfold m_word_Of
  have b0 := byteN_p ha 0
  have b1 := byteN_p ha 1
  have b2 := byteN_p ha 2
  have b3 := byteN_p ha 3
  have b4 := byteN_p ha 4
  have b5 := byteN_p ha 5
  have b6 := byteN_p ha 6
  have b7 := byteN_p ha 7
  have s0 := runLoop_step (of_step a ha 0 0 (by decide) (by decide))
  have s1 := runLoop_step (of_step a ha (0 + byteN a.1 0 * 2 ^ (8 * 0)) 1 (by decide) (by omega))
  have s2 := runLoop_step (of_step a ha (0 + byteN a.1 0 * 2 ^ (8 * 0) + byteN a.1 1 * 2 ^ (8 * 1)) 2 (by decide) (by omega))
  have s3 := runLoop_step (of_step a ha (0 + byteN a.1 0 * 2 ^ (8 * 0) + byteN a.1 1 * 2 ^ (8 * 1) + byteN a.1 2 * 2 ^ (8 * 2)) 3 (by decide) (by omega))
  have s4 := runLoop_step (of_step a ha (0 + byteN a.1 0 * 2 ^ (8 * 0) + byteN a.1 1 * 2 ^ (8 * 1) + byteN a.1 2 * 2 ^ (8 * 2) + byteN a.1 3 * 2 ^ (8 * 3)) 4 (by decide) (by omega))
  have s5 := runLoop_step (of_step a ha (0 + byteN a.1 0 * 2 ^ (8 * 0) + byteN a.1 1 * 2 ^ (8 * 1) + byteN a.1 2 * 2 ^ (8 * 2) + byteN a.1 3 * 2 ^ (8 * 3) + byteN a.1 4 * 2 ^ (8 * 4)) 5 (by decide) (by omega))
  have s6 := runLoop_step (of_step a ha (0 + byteN a.1 0 * 2 ^ (8 * 0) + byteN a.1 1 * 2 ^ (8 * 1) + byteN a.1 2 * 2 ^ (8 * 2) + byteN a.1 3 * 2 ^ (8 * 3) + byteN a.1 4 * 2 ^ (8 * 4) + byteN a.1 5 * 2 ^ (8 * 5)) 6 (by decide) (by omega))
  have s7 := runLoop_step (of_step a ha (0 + byteN a.1 0 * 2 ^ (8 * 0) + byteN a.1 1 * 2 ^ (8 * 1) + byteN a.1 2 * 2 ^ (8 * 2) + byteN a.1 3 * 2 ^ (8 * 3) + byteN a.1 4 * 2 ^ (8 * 4) + byteN a.1 5 * 2 ^ (8 * 5) + byteN a.1 6 * 2 ^ (8 * 6)) 7 (by decide) (by omega))
  have s8 : ∀ x, runLoop (m_word_Of_L0 a) (x, ((8 : Nat) : Int)) = some x := fun x => runLoop_end (by unfold m_word_Of_L0; rfl)
  have := s0.trans (s1.trans (s2.trans (s3.trans (s4.trans (s5.trans (s6.trans (s7.trans (s8 _))))))))
  rw [show ((0 : Nat) : Int) = 0 from rfl] at this
  rw [this, Option.bind_some]
  unfold num8
  simp only [Nat.zero_add]
  congr 2
  omega
theorem set_fold {α : Type} (f : Nat → α) (k : Nat) : ∀ (j : Nat) (s : List α), j ≤ k → s.length = k → (List.range j).foldl (fun s i => s.set i (f i)) s = (List.range j).map f ++ s.drop j
  | 0, s, _, _ => by simp
  | j + 1, s, hj, hs => by
    have ih := set_fold f k j s (by omega) hs
    rw [List.range_succ, List.foldl_append, ih, List.map_append, List.foldl_cons, List.foldl_nil]
    have hl : ((List.range j).map f).length = j := by simp
    rw [List.set_append_right _ _ (by omega), hl, Nat.sub_self]
    have hd : s.drop j = s[j]'(by omega) :: s.drop (j + 1) := List.drop_eq_getElem_cons (by omega)
    rw [hd, List.set_cons_zero, List.append_assoc]
    rfl
def wordsP (b : List Int) : List Int := (List.range (b.length / 8)).map fun i => (num8 b (8 * i) : Int)
theorem byteN_drop (b : List Int) (k j : Nat) : byteN (b.drop k) j = byteN b (k + j) := by
  unfold byteN
  rw [List.getD_eq_getElem?_getD, List.getD_eq_getElem?_getD, List.getElem?_drop]
theorem byteN_take (b : List Int) (k j : Nat) (h : j < k) : byteN (b.take k) j = byteN b j := by
  unfold byteN
  rw [List.getD_eq_getElem?_getD, List.getD_eq_getElem?_getD, List.getElem?_take, if_pos h]
theorem byteN_app (a b : List Int) (j : Nat) (h : j < a.length) : byteN (a ++ b) j = byteN a j := by
  unfold byteN
  rw [List.getD_eq_getElem?_getD, List.getD_eq_getElem?_getD, List.getElem?_append_left h]
theorem words_round (b l2 : List Int) (hb : ∀ x ∈ b, isB x) (hbl : b.length ≤ 1000000000000) (hk : l2.length = b.length / 8) (s : List Int) (hs : s.length = l2.length) (i : Nat) (hi : i < l2.length) :
    m_word_Words_L0 b l2 ((i : Int), s) = some (.inl (((i + 1 : Nat) : Int), s.set i (num8 b (8 * i) : Int))) := by
  unfold m_word_Words_L0
  simp only
  have e : decide ((i : Int) < l2.length) = true := by rw [decide_eq_true_eq]; omega
  rw [e, cond_true, Option.bind_some, i64w (x := 8 * (i : Int)) (by omega), subI_ok (by omega) (by omega) (by omega), Option.bind_some]
  have hd : ((b.drop (8 * (i : Int)).toNat).take ((b.length : Int) - 8 * (i : Int)).toNat) = b.drop (8 * i) := by
    rw [show (8 * (i : Int)).toNat = 8 * i by omega, List.take_of_length_le (by rw [List.length_drop]; omega)]
  rw [hd]
  have h8 : 8 * i + 8 ≤ b.length := by omega
  have hc : (Arr.cpy (⟨[0, 0, 0, 0, 0, 0, 0, 0], rfl⟩ : Arr Int 8) (b.drop (8 * i))).1 = (b.drop (8 * i)).take 8 := by
    unfold Arr.cpy
    have : ((b.drop (8 * i)).take 8).length = 8 := by rw [List.length_take, List.length_drop]; omega
    simp only [this]
    simp
  have hq : ∀ j, j < 8 → byteN ((b.drop (8 * i)).take 8) j = byteN b (8 * i + j) := fun j hj => by rw [byteN_take _ _ _ hj, byteN_drop]
  rw [of_p _ (by rw [hc]; exact fun x hx => hb x (List.mem_of_mem_drop (List.mem_of_mem_take hx))), Option.bind_some, hc]
  have hn : num8 ((b.drop (8 * i)).take 8) 0 = num8 b (8 * i) := by
    unfold num8
    simp only [Nat.zero_add]
    rw [hq 0 (by decide), hq 1 (by decide), hq 2 (by decide), hq 3 (by decide), hq 4 (by decide), hq 5 (by decide), hq 6 (by decide), hq 7 (by decide)]
    rfl
  rw [hn, getI_of (List.getElem?_eq_getElem (by omega)), Option.bind_some, i64w (by omega)]
  rfl
theorem words_p (b : List Int) (hb : ∀ x ∈ b, isB x) (hbl : b.length ≤ 100000000000) : m_word_Words b = some (if b.length % 8 = 0 then (wordsP b, true) else ([], false)) := by
  unfold m_word_Words
  rw [Int.tmod_eq_emod_of_nonneg (by omega)]
  by_cases h : b.length % 8 = 0
  · have e : ((b.length : Int) % 8 != 0) = false := by simp; omega
    rw [e, cond_false, if_pos h, Int.tdiv_eq_ediv_of_nonneg (by omega), i64w (x := (b.length : Int) / 8) (by omega), makeI_ok (by omega) (by omega) (by omega), Option.bind_some]
    have hk : ((b.length : Int) / 8).toNat = b.length / 8 := by omega
    rw [hk]
    obtain ⟨l2, hl⟩ : ∃ l2, List.replicate (b.length / 8) (0 : Int) = l2 := ⟨_, rfl⟩
    have hl2 : l2.length = b.length / 8 := by rw [← hl, List.length_replicate]
    rw [hl]
    have hloop := loop_each (List.range (b.length / 8)) (fun i (s : {s : List Int // s.length = l2.length}) => (i, s.1)) (m_word_Words_L0 b l2) (fun s i => some (.inl ⟨s.1.set i (num8 b (8 * i) : Int), by rw [List.length_set]; exact s.2⟩)) (fun s => s.1) (fun i s x hi hx => by
      obtain ⟨rfl, hi⟩ := range_get hx
      exact words_round b l2 hb (by omega) hl2 s.1 s.2 x (by omega)) (fun s => by
      unfold m_word_Words_L0
      simp only
      have : decide (((List.range (b.length / 8)).length : Int) < l2.length) = false := by rw [decide_eq_false_iff_not, List.length_range]; omega
      rw [this, cond_false]) ⟨l2, rfl⟩
    have hf : ∀ (xs : List Nat) (s : {s : List Int // s.length = l2.length}), foldE (fun s i => some (.inl ⟨s.1.set i (num8 b (8 * i) : Int), by rw [List.length_set]; exact s.2⟩)) (fun s => s.1) xs s = some (xs.foldl (fun s i => s.set i (num8 b (8 * i) : Int)) s.1) := fun xs => by
      induction xs with
      | nil => intro s; rfl
      | cons x xs ih => intro s; unfold foldE; exact ih _
    have := hloop.trans (hf _ _)
    simp only at this
    rw [this, Option.bind_some, set_fold (fun i => (num8 b (8 * i) : Int)) (b.length / 8) (b.length / 8) l2 (Nat.le_refl _) hl2, List.drop_of_length_le (by omega), List.append_nil]
    rfl
  · have e : ((b.length : Int) % 8 != 0) = true := by simp; omega
    rw [e, cond_true, if_neg h]

end Go.Proofs.Ytgijkjifiekkmaa
