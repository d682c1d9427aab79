/- Plain facts on this seat's mirrors (part FP4); each theorem bears its own conditions. -/
import Derived.Test.YtgijkjifiekkmaaFM1
import Derived.IntWalk
namespace Go.Proofs.Ytgijkjifiekkmaa
open Go.RowKit
set_option linter.unusedVariables false
set_option linter.unusedSimpArgs false
theorem ieqF {a b : Int} (h : ¬ a = b) : (a == b) = false := by simp [h]
/-- a pointer, as a word has it -/
def offN (w : Nat) : Int := if w / 4 % 1073741824 < 536870912 then ((w / 4 % 1073741824 : Nat) : Int) else ((w / 4 % 1073741824 : Nat) : Int) - 1073741824
def decP (w : Nat) : S_ptr_Ptr :=
  if w = 0 then ⟨0, 0, 0, 0, 0, 0, 0, false⟩
  else if w % 4 = 0 then ⟨1, offN w, (w / 4294967296 % 65536 : Nat), (w / 281474976710656 % 65536 : Nat), 0, 0, 0, false⟩
  else if w % 4 = 1 then ⟨2, offN w, 0, 0, (w / 4294967296 % 8 : Nat), (w / 34359738368 % 536870912 : Nat), 0, false⟩
  else if w % 4 = 2 then ⟨3, (w / 8 % 536870912 : Nat), 0, 0, 0, 0, (w / 4294967296 % 4294967296 : Nat), decide (w / 4 % 2 = 1)⟩
  else ⟨4, 0, 0, 0, 0, 0, 0, false⟩
theorem natpow (b : Nat) : ((2 : Int) ^ b) = ((2 ^ b : Nat) : Int) := by simp
theorem field_p (w f b : Nat) (hw : w < 18446744073709551616) (hf : f < 64) (hb : b ≤ 40) : m_ptr_field w f b = some ((w / 2 ^ f % 2 ^ b : Nat) : Int) := by
  unfold m_ptr_field guardI
  rw [if_pos (Int.natCast_nonneg _), if_pos (Int.natCast_nonneg _)]
  simp only [Option.bind_some, Option.some.injEq]
  have hp : (2 : Nat) ^ b ≤ 1099511627776 := by have := Nat.pow_le_pow_right (n := 2) (by decide) hb; simpa using this
  have h1 : 0 < (2 : Nat) ^ b := Nat.pow_pos (by decide)
  have e1 : (min ((f : Int).toNat) 64) = f := by omega
  have e2 : (min ((b : Int).toNat) 64) = b := by omega
  have hd : w / 2 ^ f < 18446744073709551616 := Nat.lt_of_le_of_lt (Nat.div_le_self _ _) hw
  have e3 : ((w : Int).fdiv ((2 ^ f : Nat) : Int)) = ((w / 2 ^ f : Nat) : Int) := by
    rw [Int.fdiv_eq_ediv_of_nonneg _ (Int.natCast_nonneg _), Int.natCast_ediv]
  rw [e1, e2, natpow, natpow, e3]
  clear e3
  generalize hq : 2 ^ b = q at *
  generalize w / 2 ^ f = x at *
  rw [Int.one_mul, IntWalk.u64_in (q : Int) (by omega), IntWalk.u64_in ((q : Int) - 1) (by omega)]
  have e4 : ((q : Int) - 1) = ((q - 1 : Nat) : Int) := by omega
  rw [e4, land64 _ _ hd (by omega), ← hq, Nat.and_two_pow_sub_one_eq_mod, hq]
  have : x % q < q := Nat.mod_lt _ h1
  rw [IntWalk.u64_in _ (by omega), IntWalk.i64_in _ (by omega)]
theorem off_eq (w : Nat) (hw : w < 18446744073709551616) : IntKind.i64.wrap ((IntKind.i32.wrap (IntKind.u32.wrap (w : Int))).fdiv (2 ^ min (Int.toNat 2) 32)) = offN w := by
  have e : (2 : Int) ^ min (Int.toNat 2) 32 = 4 := by decide
  rw [e, Int.fdiv_eq_ediv_of_nonneg _ (by decide), IntKind.wrap_u32, IntKind.wrap_i32]
  unfold offN
  rw [IntWalk.i64_in _ (by omega)]
  split <;> omega
theorem offset_p (w : Nat) (hw : w < 18446744073709551616) : m_ptr_offset w = some (offN w) := congrArg some (off_eq w hw)
theorem and3 (w : Nat) (hw : w < 18446744073709551616) : IntKind.u64.wrap (landI .u64 w 3) = ((w % 4 : Nat) : Int) := by
  have := land64 w 3 hw (by decide)
  rw [show ((3 : Nat) : Int) = 3 from rfl] at this
  rw [this, show (3 : Nat) = 2 ^ 2 - 1 from rfl, Nat.and_two_pow_sub_one_eq_mod, IntWalk.u64_in _ (by omega)]
theorem bit2 (w : Nat) (hw : w < 18446744073709551616) : (IntKind.u64.wrap (landI .u64 ((w : Int).fdiv (2 ^ min (Int.toNat 2) 64)) 1) == 1) = decide (w / 4 % 2 = 1) := by
  have e1 : (2 : Int) ^ min (Int.toNat 2) 64 = 4 := by decide
  have e2 : ((w : Int).fdiv 4) = ((w / 4 : Nat) : Int) := by rw [Int.fdiv_eq_ediv_of_nonneg _ (by decide)]; rfl
  have e3 := land64 (w / 4) 1 (by omega) (by decide)
  rw [show ((1 : Nat) : Int) = 1 from rfl, Nat.and_one_is_mod] at e3
  rw [e1, e2, e3, IntWalk.u64_in _ (by omega)]
  by_cases h : w / 4 % 2 = 1
  · rw [h]; decide
  · have : w / 4 % 2 = 0 := by omega
    rw [this]; decide
theorem beqN (a : Nat) (b : Nat) : ((a : Int) == (b : Int)) = decide (a = b) := by
  by_cases h : a = b
  · subst h; simp
  · simp [h, Int.natCast_inj]
theorem decode_p (w : Nat) (hw : w < 18446744073709551616) : m_ptr_Decode w = some (decP w) := by
  unfold m_ptr_Decode
  have f1 : m_ptr_field w 32 16 = _ := field_p w 32 16 hw (by decide) (by decide)
  have f2 : m_ptr_field w 48 16 = _ := field_p w 48 16 hw (by decide) (by decide)
  have f3 : m_ptr_field w 32 3 = _ := field_p w 32 3 hw (by decide) (by decide)
  have f4 : m_ptr_field w 35 29 = _ := field_p w 35 29 hw (by decide) (by decide)
  have f5 : m_ptr_field w 3 29 = _ := field_p w 3 29 hw (by decide) (by decide)
  have f6 : m_ptr_field w 32 32 = _ := field_p w 32 32 hw (by decide) (by decide)
  have c0 : ((w : Int) == 0) = _ := beqN w 0
  have c1 : (((w % 4 : Nat) : Int) == 0) = _ := beqN (w % 4) 0
  have c2 : (((w % 4 : Nat) : Int) == 1) = _ := beqN (w % 4) 1
  have c3 : (((w % 4 : Nat) : Int) == 2) = _ := beqN (w % 4) 2
  rw [and3 w hw, offset_p w hw, f1, f2, f3, f4, f5, f6, bit2 w hw, c0, c1, c2, c3]
  simp only [Option.bind_some]
  unfold decP
  by_cases h0 : w = 0
  · simp [h0]
  by_cases h1 : w % 4 = 0
  · simp [h0, h1]
  by_cases h2 : w % 4 = 1
  · simp [h0, h2]
  by_cases h3 : w % 4 = 2
  · simp [h0, h3]
  · simp [h0, h1, h2, h3]
theorem mod_step (x i : Nat) : x % 2 ^ (i + 1) = x % 2 ^ i + 2 ^ i * (x / 2 ^ i % 2) := Nat.mod_pow_succ
theorem rfield_p (w f b : Nat) (hw : w < 18446744073709551616) (hf : f < 64) (hb : b ≤ 40) : m_centoref04_field w f b = some ((w / 2 ^ f % 2 ^ b : Nat) : Int) := by
  unfold m_centoref04_field
  have l0 : runLoop (m_centoref04_field_L0 f) ((w : Int), 0) = some ((w / 2 ^ f : Nat) : Int) := by
    refine runLoop_eq (fun s => ∃ i : Nat, i ≤ f ∧ s = (((w / 2 ^ i : Nat) : Int), (i : Int))) (fun s => f - s.2.toNat) ?_ _ ⟨0, by omega, by simp⟩
    rintro s ⟨i, hi, rfl⟩
    unfold m_centoref04_field_L0
    have hs : w / 2 ^ (i + 1) = w / 2 ^ i / 2 := by rw [Nat.pow_succ, Nat.div_div_eq_div_mul]
    have hd : w / 2 ^ i < 18446744073709551616 := Nat.lt_of_le_of_lt (Nat.div_le_self _ _) hw
    by_cases h : i < f
    · left
      refine ⟨(((w / 2 ^ (i + 1) : Nat) : Int), ((i + 1 : Nat) : Int)), ?_, ⟨i + 1, by omega, rfl⟩, by simp only; omega⟩
      have : decide ((i : Int) < f) = true := by simp; omega
      simp only [this, cond_true]
      rw [hs]
      generalize w / 2 ^ i = y at *
      rw [Int.tdiv_eq_ediv_of_nonneg (by omega), u64w (by omega), i64w (by omega)]
      rfl
    · right
      have : decide ((i : Int) < f) = false := by simp; omega
      obtain rfl : i = f := by omega
      simp only [this, cond_false]
  rw [l0]
  simp only [Option.bind_some]
  generalize hx : w / 2 ^ f = x at *
  have hd : x < 18446744073709551616 := by rw [← hx]; exact Nat.lt_of_le_of_lt (Nat.div_le_self _ _) hw
  have l1 : runLoop (m_centoref04_field_L1 b) ((x : Int), 0, 1, 0) = some ((x % 2 ^ b : Nat) : Int) := by
    refine runLoop_eq (fun s => ∃ j : Nat, j ≤ b ∧ s = (((x / 2 ^ j : Nat) : Int), ((x % 2 ^ j : Nat) : Int), ((2 ^ j : Nat) : Int), (j : Int))) (fun s => b - s.2.2.2.toNat) ?_ _ ⟨0, by omega, by simp [Nat.mod_one]⟩
    rintro s ⟨j, hj, rfl⟩
    unfold m_centoref04_field_L1
    have hdj : x / 2 ^ j < 18446744073709551616 := Nat.lt_of_le_of_lt (Nat.div_le_self _ _) hd
    have hpj : (2 : Nat) ^ j ≤ 1099511627776 := by have := Nat.pow_le_pow_right (n := 2) (by decide) (Nat.le_trans hj hb); simpa using this
    have h0 : 0 < (2 : Nat) ^ j := Nat.pow_pos (by decide)
    have hm := mod_step x j
    have hs2 : x / 2 ^ (j + 1) = x / 2 ^ j / 2 := by rw [Nat.pow_succ, Nat.div_div_eq_div_mul]
    have hp2 : (2 : Nat) ^ (j + 1) = 2 ^ j * 2 := Nat.pow_succ ..
    have hlt : x % 2 ^ j < 2 ^ j := Nat.mod_lt _ h0
    by_cases h : j < b
    · left
      refine ⟨(((x / 2 ^ (j + 1) : Nat) : Int), ((x % 2 ^ (j + 1) : Nat) : Int), ((2 ^ (j + 1) : Nat) : Int), ((j + 1 : Nat) : Int)), ?_, ⟨j + 1, by omega, rfl⟩, by simp only; omega⟩
      have : decide ((j : Int) < b) = true := by simp; omega
      simp only [this, cond_true]
      rw [hs2, hm, hp2]
      clear hs2 hm hp2
      generalize x / 2 ^ j = y at *
      generalize x % 2 ^ j = r at *
      generalize 2 ^ j = p at *
      rw [Int.tmod_eq_emod_of_nonneg (by omega), Int.tdiv_eq_ediv_of_nonneg (by omega)]
      by_cases hb1 : y % 2 = 1
      · have e : (((y : Int) % 2) == 1) = true := by simp; omega
        rw [e, cond_true, hb1, i64w (by omega)]
        simp only [Option.bind_some]
        rw [u64w (by omega), i64w (by omega), i64w (by omega)]
        simp only [Option.some.injEq, Sum.inl.injEq, Prod.mk.injEq]
        omega
      · have e : (((y : Int) % 2) == 1) = false := by simp; omega
        have hb0 : y % 2 = 0 := by omega
        rw [e, cond_false, hb0]
        simp only [Option.bind_some]
        rw [u64w (by omega), i64w (by omega), i64w (by omega)]
        simp only [Option.some.injEq, Sum.inl.injEq, Prod.mk.injEq]
        omega
    · right
      have : decide ((j : Int) < b) = false := by simp; omega
      obtain rfl : j = b := by omega
      simp only [this, cond_false]
  rw [l1]
  simp only [Option.bind_some]
theorem rdecode_p (w : Nat) (hw : w < 18446744073709551616) : m_centoref04_Decode w = some (decP w) := by
  unfold m_centoref04_Decode
  have f0 : m_centoref04_field w 2 30 = _ := rfield_p w 2 30 hw (by decide) (by decide)
  have f00 : m_centoref04_field w 0 2 = _ := rfield_p w 0 2 hw (by decide) (by decide)
  have f1 : m_centoref04_field w 32 16 = _ := rfield_p w 32 16 hw (by decide) (by decide)
  have f2 : m_centoref04_field w 48 16 = _ := rfield_p w 48 16 hw (by decide) (by decide)
  have f3 : m_centoref04_field w 32 3 = _ := rfield_p w 32 3 hw (by decide) (by decide)
  have f4 : m_centoref04_field w 35 29 = _ := rfield_p w 35 29 hw (by decide) (by decide)
  have f5 : m_centoref04_field w 3 29 = _ := rfield_p w 3 29 hw (by decide) (by decide)
  have f6 : m_centoref04_field w 32 32 = _ := rfield_p w 32 32 hw (by decide) (by decide)
  have f7 : m_centoref04_field w 2 1 = _ := rfield_p w 2 1 hw (by decide) (by decide)
  have c0 : ((w : Int) == 0) = _ := beqN w 0
  have c1 : (((w % 4 : Nat) : Int) == 0) = _ := beqN (w % 4) 0
  have c2 : (((w % 4 : Nat) : Int) == 1) = _ := beqN (w % 4) 1
  have c3 : (((w % 4 : Nat) : Int) == 2) = _ := beqN (w % 4) 2
  have c4 : (((w / 4 % 2 : Nat) : Int) == 1) = _ := beqN (w / 4 % 2) 1
  simp only [Nat.reducePow, Nat.div_one] at f0 f00 f1 f2 f3 f4 f5 f6 f7
  have ho : (cond (decide (536870912 ≤ ((w / 4 % 1073741824 : Nat) : Int))) (some (IntKind.i64.wrap (((w / 4 % 1073741824 : Nat) : Int) - 1073741824))) (some ((w / 4 % 1073741824 : Nat) : Int))) = some (offN w) := by
    unfold offN
    rw [i64w (by omega)]
    by_cases h : w / 4 % 1073741824 < 536870912
    · have : decide (536870912 ≤ ((w / 4 % 1073741824 : Nat) : Int)) = false := by simp; omega
      rw [this, if_pos h, cond_false]
    · have : decide (536870912 ≤ ((w / 4 % 1073741824 : Nat) : Int)) = true := by simp; omega
      rw [this, if_neg h, cond_true]
  rw [f0]
  simp only [Option.bind_some, ho]
  rw [f00, f1, f2, f3, f4, f5, f6, f7]
  simp only [Option.bind_some]
  rw [c0, c1, c2, c3, c4]
  unfold decP
  by_cases h0 : w = 0
  · simp [h0]
  by_cases h1 : w % 4 = 0
  · simp [h0, h1]
  by_cases h2 : w % 4 = 1
  · simp [h0, h2]
  by_cases h3 : w % 4 = 2
  · simp [h0, h3]
  · simp [h0, h1, h2, h3]

end Go.Proofs.Ytgijkjifiekkmaa
