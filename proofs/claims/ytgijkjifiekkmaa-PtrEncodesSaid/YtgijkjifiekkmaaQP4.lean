/- Plain facts on this seat's mirrors (part QP4); each theorem bears its own conditions. -/
import Derived.Test.YtgijkjifiekkmaaQD
import Derived.IntWalk
namespace Go.Proofs.Ytgijkjifiekkmaa
open Go.RowKit
set_option linter.unusedVariables false
set_option linter.unusedSimpArgs false
theorem ieqF {a b : Int} (h : ¬ a = b) : (a == b) = false := by simp [h]
/-- a pointer, as a word has it -/
def offN (w : Nat) : Int := if w / 4 % 1073741824 < 536870912 then ((w / 4 % 1073741824 : Nat) : Int) else ((w / 4 % 1073741824 : Nat) : Int) - 1073741824
def decP (w : Nat) : S_ptr_Ptr :=
  if w = 0 then ⟨0, 0, 0, 0, 0, 0, 0, false⟩
  else if w % 4 = 0 then ⟨1, offN w, (w / 4294967296 % 65536 : Nat), (w / 281474976710656 % 65536 : Nat), 0, 0, 0, false⟩
  else if w % 4 = 1 then ⟨2, offN w, 0, 0, (w / 4294967296 % 8 : Nat), (w / 34359738368 % 536870912 : Nat), 0, false⟩
  else if w % 4 = 2 then ⟨3, (w / 8 % 536870912 : Nat), 0, 0, 0, 0, (w / 4294967296 % 4294967296 : Nat), decide (w / 4 % 2 = 1)⟩
  else ⟨4, 0, 0, 0, 0, 0, 0, false⟩
theorem natpow (b : Nat) : ((2 : Int) ^ b) = ((2 ^ b : Nat) : Int) := by simp
theorem field_p (w f b : Nat) (hw : w < 18446744073709551616) (hf : f < 64) (hb : b ≤ 40) : m_ptr_field w f b = some ((w / 2 ^ f % 2 ^ b : Nat) : Int) := by
  unfold m_ptr_field guardI
  rw [if_pos (Int.natCast_nonneg _), if_pos (Int.natCast_nonneg _)]
  simp only [Option.bind_some, Option.some.injEq]
  have hp : (2 : Nat) ^ b ≤ 1099511627776 := by have := Nat.pow_le_pow_right (n := 2) (by decide) hb; simpa using this
  have h1 : 0 < (2 : Nat) ^ b := Nat.pow_pos (by decide)
  have e1 : (min ((f : Int).toNat) 64) = f := by omega
  have e2 : (min ((b : Int).toNat) 64) = b := by omega
  have hd : w / 2 ^ f < 18446744073709551616 := Nat.lt_of_le_of_lt (Nat.div_le_self _ _) hw
  have e3 : ((w : Int).fdiv ((2 ^ f : Nat) : Int)) = ((w / 2 ^ f : Nat) : Int) := by
    rw [Int.fdiv_eq_ediv_of_nonneg _ (Int.natCast_nonneg _), Int.natCast_ediv]
  rw [e1, e2, natpow, natpow, e3]
  clear e3
  generalize hq : 2 ^ b = q at *
  generalize w / 2 ^ f = x at *
  rw [Int.one_mul, IntWalk.u64_in (q : Int) (by omega), IntWalk.u64_in ((q : Int) - 1) (by omega)]
  have e4 : ((q : Int) - 1) = ((q - 1 : Nat) : Int) := by omega
  rw [e4, land64 _ _ hd (by omega), ← hq, Nat.and_two_pow_sub_one_eq_mod, hq]
  have : x % q < q := Nat.mod_lt _ h1
  rw [IntWalk.u64_in _ (by omega), IntWalk.i64_in _ (by omega)]
theorem off_eq (w : Nat) (hw : w < 18446744073709551616) : IntKind.i64.wrap ((IntKind.i32.wrap (IntKind.u32.wrap (w : Int))).fdiv (2 ^ min (Int.toNat 2) 32)) = offN w := by
  have e : (2 : Int) ^ min (Int.toNat 2) 32 = 4 := by decide
  rw [e, Int.fdiv_eq_ediv_of_nonneg _ (by decide), IntKind.wrap_u32, IntKind.wrap_i32]
  unfold offN
  rw [IntWalk.i64_in _ (by omega)]
  split <;> omega
theorem offset_p (w : Nat) (hw : w < 18446744073709551616) : m_ptr_offset w = some (offN w) := congrArg some (off_eq w hw)
theorem and3 (w : Nat) (hw : w < 18446744073709551616) : IntKind.u64.wrap (landI .u64 w 3) = ((w % 4 : Nat) : Int) := by
  have := land64 w 3 hw (by decide)
  rw [show ((3 : Nat) : Int) = 3 from rfl] at this
  rw [this, show (3 : Nat) = 2 ^ 2 - 1 from rfl, Nat.and_two_pow_sub_one_eq_mod, IntWalk.u64_in _ (by omega)]
theorem bit2 (w : Nat) (hw : w < 18446744073709551616) : (IntKind.u64.wrap (landI .u64 ((w : Int).fdiv (2 ^ min (Int.toNat 2) 64)) 1) == 1) = decide (w / 4 % 2 = 1) := by
  have e1 : (2 : Int) ^ min (Int.toNat 2) 64 = 4 := by decide
  have e2 : ((w : Int).fdiv 4) = ((w / 4 : Nat) : Int) := by rw [Int.fdiv_eq_ediv_of_nonneg _ (by decide)]; rfl
  have e3 := land64 (w / 4) 1 (by omega) (by decide)
  rw [show ((1 : Nat) : Int) = 1 from rfl, Nat.and_one_is_mod] at e3
  rw [e1, e2, e3, IntWalk.u64_in _ (by omega)]
  by_cases h : w / 4 % 2 = 1
  · rw [h]; decide
  · have : w / 4 % 2 = 0 := by omega
    rw [this]; decide
theorem beqN (a : Nat) (b : Nat) : ((a : Int) == (b : Int)) = decide (a = b) := by
  by_cases h : a = b
  · subst h; simp
  · simp [h, Int.natCast_inj]
theorem decode_p (w : Nat) (hw : w < 18446744073709551616) : m_ptr_Decode w = some (decP w) := by
  unfold m_ptr_Decode
  have f1 : m_ptr_field w 32 16 = _ := field_p w 32 16 hw (by decide) (by decide)
  have f2 : m_ptr_field w 48 16 = _ := field_p w 48 16 hw (by decide) (by decide)
  have f3 : m_ptr_field w 32 3 = _ := field_p w 32 3 hw (by decide) (by decide)
  have f4 : m_ptr_field w 35 29 = _ := field_p w 35 29 hw (by decide) (by decide)
  have f5 : m_ptr_field w 3 29 = _ := field_p w 3 29 hw (by decide) (by decide)
  have f6 : m_ptr_field w 32 32 = _ := field_p w 32 32 hw (by decide) (by decide)
  have c0 : ((w : Int) == 0) = _ := beqN w 0
  have c1 : (((w % 4 : Nat) : Int) == 0) = _ := beqN (w % 4) 0
  have c2 : (((w % 4 : Nat) : Int) == 1) = _ := beqN (w % 4) 1
  have c3 : (((w % 4 : Nat) : Int) == 2) = _ := beqN (w % 4) 2
  rw [and3 w hw, offset_p w hw, f1, f2, f3, f4, f5, f6, bit2 w hw, c0, c1, c2, c3]
  simp only [Option.bind_some]
  unfold decP
  by_cases h0 : w = 0
  · simp [h0]
  by_cases h1 : w % 4 = 0
  · simp [h0, h1]
  by_cases h2 : w % 4 = 1
  · simp [h0, h2]
  by_cases h3 : w % 4 = 2
  · simp [h0, h3]
  · simp [h0, h1, h2, h3]
theorem mod_step (x i : Nat) : x % 2 ^ (i + 1) = x % 2 ^ i + 2 ^ i * (x / 2 ^ i % 2) := Nat.mod_pow_succ
theorem rfield_p (w f b : Nat) (hw : w < 18446744073709551616) (hf : f < 64) (hb : b ≤ 40) : m_centoref04_field w f b = some ((w / 2 ^ f % 2 ^ b : Nat) : Int) := by
  unfold m_centoref04_field
  have l0 : runLoop (m_centoref04_field_L0 f) ((w : Int), 0) = some ((w / 2 ^ f : Nat) : Int) := by
    refine runLoop_eq (fun s => ∃ i : Nat, i ≤ f ∧ s = (((w / 2 ^ i : Nat) : Int), (i : Int))) (fun s => f - s.2.toNat) ?_ _ ⟨0, by omega, by simp⟩
    rintro s ⟨i, hi, rfl⟩
    unfold m_centoref04_field_L0
    have hs : w / 2 ^ (i + 1) = w / 2 ^ i / 2 := by rw [Nat.pow_succ, Nat.div_div_eq_div_mul]
    have hd : w / 2 ^ i < 18446744073709551616 := Nat.lt_of_le_of_lt (Nat.div_le_self _ _) hw
    by_cases h : i < f
    · left
      refine ⟨(((w / 2 ^ (i + 1) : Nat) : Int), ((i + 1 : Nat) : Int)), ?_, ⟨i + 1, by omega, rfl⟩, by simp only; omega⟩
      have : decide ((i : Int) < f) = true := by simp; omega
      simp only [this, cond_true]
      rw [hs]
      generalize w / 2 ^ i = y at *
      rw [Int.tdiv_eq_ediv_of_nonneg (by omega), u64w (by omega), i64w (by omega)]
      rfl
    · right
      have : decide ((i : Int) < f) = false := by simp; omega
      obtain rfl : i = f := by omega
      simp only [this, cond_false]
  rw [l0]
  simp only [Option.bind_some]
  generalize hx : w / 2 ^ f = x at *
  have hd : x < 18446744073709551616 := by rw [← hx]; exact Nat.lt_of_le_of_lt (Nat.div_le_self _ _) hw
  have l1 : runLoop (m_centoref04_field_L1 b) ((x : Int), 0, 1, 0) = some ((x % 2 ^ b : Nat) : Int) := by
    refine runLoop_eq (fun s => ∃ j : Nat, j ≤ b ∧ s = (((x / 2 ^ j : Nat) : Int), ((x % 2 ^ j : Nat) : Int), ((2 ^ j : Nat) : Int), (j : Int))) (fun s => b - s.2.2.2.toNat) ?_ _ ⟨0, by omega, by simp [Nat.mod_one]⟩
    rintro s ⟨j, hj, rfl⟩
    unfold m_centoref04_field_L1
    have hdj : x / 2 ^ j < 18446744073709551616 := Nat.lt_of_le_of_lt (Nat.div_le_self _ _) hd
    have hpj : (2 : Nat) ^ j ≤ 1099511627776 := by have := Nat.pow_le_pow_right (n := 2) (by decide) (Nat.le_trans hj hb); simpa using this
    have h0 : 0 < (2 : Nat) ^ j := Nat.pow_pos (by decide)
    have hm := mod_step x j
    have hs2 : x / 2 ^ (j + 1) = x / 2 ^ j / 2 := by rw [Nat.pow_succ, Nat.div_div_eq_div_mul]
    have hp2 : (2 : Nat) ^ (j + 1) = 2 ^ j * 2 := Nat.pow_succ ..
    have hlt : x % 2 ^ j < 2 ^ j := Nat.mod_lt _ h0
    by_cases h : j < b
    · left
      refine ⟨(((x / 2 ^ (j + 1) : Nat) : Int), ((x % 2 ^ (j + 1) : Nat) : Int), ((2 ^ (j + 1) : Nat) : Int), ((j + 1 : Nat) : Int)), ?_, ⟨j + 1, by omega, rfl⟩, by simp only; omega⟩
      have : decide ((j : Int) < b) = true := by simp; omega
      simp only [this, cond_true]
      rw [hs2, hm, hp2]
      clear hs2 hm hp2
      generalize x / 2 ^ j = y at *
      generalize x % 2 ^ j = r at *
      generalize 2 ^ j = p at *
      rw [Int.tmod_eq_emod_of_nonneg (by omega), Int.tdiv_eq_ediv_of_nonneg (by omega)]
      by_cases hb1 : y % 2 = 1
      · have e : (((y : Int) % 2) == 1) = true := by simp; omega
        rw [e, cond_true, hb1, i64w (by omega)]
        simp only [Option.bind_some]
        rw [u64w (by omega), i64w (by omega), i64w (by omega)]
        simp only [Option.some.injEq, Sum.inl.injEq, Prod.mk.injEq]
        omega
      · have e : (((y : Int) % 2) == 1) = false := by simp; omega
        have hb0 : y % 2 = 0 := by omega
        rw [e, cond_false, hb0]
        simp only [Option.bind_some]
        rw [u64w (by omega), i64w (by omega), i64w (by omega)]
        simp only [Option.some.injEq, Sum.inl.injEq, Prod.mk.injEq]
        omega
    · right
      have : decide ((j : Int) < b) = false := by simp; omega
      obtain rfl : j = b := by omega
      simp only [this, cond_false]
  rw [l1]
  simp only [Option.bind_some]
theorem rdecode_p (w : Nat) (hw : w < 18446744073709551616) : m_centoref04_Decode w = some (decP w) := by
  unfold m_centoref04_Decode
  have f0 : m_centoref04_field w 2 30 = _ := rfield_p w 2 30 hw (by decide) (by decide)
  have f00 : m_centoref04_field w 0 2 = _ := rfield_p w 0 2 hw (by decide) (by decide)
  have f1 : m_centoref04_field w 32 16 = _ := rfield_p w 32 16 hw (by decide) (by decide)
  have f2 : m_centoref04_field w 48 16 = _ := rfield_p w 48 16 hw (by decide) (by decide)
  have f3 : m_centoref04_field w 32 3 = _ := rfield_p w 32 3 hw (by decide) (by decide)
  have f4 : m_centoref04_field w 35 29 = _ := rfield_p w 35 29 hw (by decide) (by decide)
  have f5 : m_centoref04_field w 3 29 = _ := rfield_p w 3 29 hw (by decide) (by decide)
  have f6 : m_centoref04_field w 32 32 = _ := rfield_p w 32 32 hw (by decide) (by decide)
  have f7 : m_centoref04_field w 2 1 = _ := rfield_p w 2 1 hw (by decide) (by decide)
  have c0 : ((w : Int) == 0) = _ := beqN w 0
  have c1 : (((w % 4 : Nat) : Int) == 0) = _ := beqN (w % 4) 0
  have c2 : (((w % 4 : Nat) : Int) == 1) = _ := beqN (w % 4) 1
  have c3 : (((w % 4 : Nat) : Int) == 2) = _ := beqN (w % 4) 2
  have c4 : (((w / 4 % 2 : Nat) : Int) == 1) = _ := beqN (w / 4 % 2) 1
  simp only [Nat.reducePow, Nat.div_one] at f0 f00 f1 f2 f3 f4 f5 f6 f7
  have ho : (cond (decide (536870912 ≤ ((w / 4 % 1073741824 : Nat) : Int))) (some (IntKind.i64.wrap (((w / 4 % 1073741824 : Nat) : Int) - 1073741824))) (some ((w / 4 % 1073741824 : Nat) : Int))) = some (offN w) := by
    unfold offN
    rw [i64w (by omega)]
    by_cases h : w / 4 % 1073741824 < 536870912
    · have : decide (536870912 ≤ ((w / 4 % 1073741824 : Nat) : Int)) = false := by simp; omega
      rw [this, if_pos h, cond_false]
    · have : decide (536870912 ≤ ((w / 4 % 1073741824 : Nat) : Int)) = true := by simp; omega
      rw [this, if_neg h, cond_true]
  rw [f0]
  simp only [Option.bind_some, ho]
  rw [f00, f1, f2, f3, f4, f5, f6, f7]
  simp only [Option.bind_some]
  rw [c0, c1, c2, c3, c4]
  unfold decP
  by_cases h0 : w = 0
  · simp [h0]
  by_cases h1 : w % 4 = 0
  · simp [h0, h1]
  by_cases h2 : w % 4 = 1
  · simp [h0, h2]
  by_cases h3 : w % 4 = 2
  · simp [h0, h3]
  · simp [h0, h1, h2, h3]
theorem or_add (k a b : Nat) (h : a < 2 ^ k) : a ||| (b * 2 ^ k) = a + b * 2 ^ k := by
  rw [Nat.or_comm, Nat.mul_comm, ← Nat.two_pow_add_eq_or_of_lt h, Nat.add_comm]
/-- the word that 'lay' lays -/
def layI (p : S_ptr_Ptr) : Int :=
  if p.Kind = 1 then IntKind.u64.wrap (lorI .u64 (IntKind.u64.wrap (lorI .u64 (IntKind.u64.wrap (IntKind.u32.wrap (IntKind.u32.wrap p.Off * 2 ^ min (Int.toNat 2) 32))) (IntKind.u64.wrap (IntKind.u64.wrap p.Data * 2 ^ min (Int.toNat 32) 64)))) (IntKind.u64.wrap (IntKind.u64.wrap p.Ptrs * 2 ^ min (Int.toNat 48) 64)))
  else if p.Kind = 2 then IntKind.u64.wrap (lorI .u64 (IntKind.u64.wrap (lorI .u64 (IntKind.u64.wrap (lorI .u64 1 (IntKind.u64.wrap (IntKind.u32.wrap (IntKind.u32.wrap p.Off * 2 ^ min (Int.toNat 2) 32))))) (IntKind.u64.wrap (IntKind.u64.wrap p.Code * 2 ^ min (Int.toNat 32) 64)))) (IntKind.u64.wrap (IntKind.u64.wrap p.Count * 2 ^ min (Int.toNat 35) 64)))
  else if p.Kind = 3 then
    if p.Double = true then IntKind.u64.wrap (lorI .u64 (IntKind.u64.wrap (lorI .u64 (IntKind.u64.wrap (lorI .u64 2 (IntKind.u64.wrap (IntKind.u64.wrap p.Off * 2 ^ min (Int.toNat 3) 64)))) (IntKind.u64.wrap (IntKind.u64.wrap p.Segment * 2 ^ min (Int.toNat 32) 64)))) 4)
    else IntKind.u64.wrap (lorI .u64 (IntKind.u64.wrap (lorI .u64 2 (IntKind.u64.wrap (IntKind.u64.wrap p.Off * 2 ^ min (Int.toNat 3) 64)))) (IntKind.u64.wrap (IntKind.u64.wrap p.Segment * 2 ^ min (Int.toNat 32) 64)))
  else 0
theorem lay_p (p : S_ptr_Ptr) : m_ptr_lay p = some (layI p) := by
  unfold m_ptr_lay layI
  by_cases h1 : p.Kind = 1
  · simp [h1]
  by_cases h2 : p.Kind = 2
  · simp [h2]
  by_cases h3 : p.Kind = 3
  · by_cases hd : p.Double = true <;> simp [h3, hd]
  · simp [h1, h2, h3, ieqF h1, ieqF h2, ieqF h3]
theorem wrap_lt (x : Int) : ∃ w : Nat, IntKind.u64.wrap x = (w : Int) ∧ w < 18446744073709551616 := by
  refine ⟨(x % 18446744073709551616).toNat, ?_, by omega⟩
  simp [IntKind.wrap, IntKind.bits, IntKind.signed]
  omega
theorem layI_nat (p : S_ptr_Ptr) : ∃ w : Nat, layI p = (w : Int) ∧ w < 18446744073709551616 := by
  unfold layI
  split
  · exact wrap_lt _
  split
  · exact wrap_lt _
  split
  · split <;> exact wrap_lt _
  · exact ⟨0, rfl, by decide⟩
theorem u64c (x : Nat) (h : x < 18446744073709551616) : IntKind.u64.wrap (x : Int) = (x : Int) := IntWalk.u64_in _ (by omega)
theorem u32off (w : Nat) : IntKind.u64.wrap (IntKind.u32.wrap (IntKind.u32.wrap (offN w) * 2 ^ min (Int.toNat 2) 32)) = ((w / 4 % 1073741824 * 2 ^ 2 : Nat) : Int) := by
  have e : (2 : Int) ^ min (Int.toNat 2) 32 = 4 := by decide
  rw [e, IntKind.wrap_u32, IntKind.wrap_u32]
  unfold offN
  rw [IntWalk.u64_in _ (by omega)]
  split <;> omega
theorem lor64w (x y : Nat) (hx : x < 18446744073709551616) (hy : y < 18446744073709551616) : IntKind.u64.wrap (lorI .u64 x y) = ((x ||| y : Nat) : Int) := by
  rw [lor64 x y hx hy, u64c _ (by have := Nat.or_lt_two_pow (n := 64) (show x < 2 ^ 64 by omega) (show y < 2 ^ 64 by omega); omega)]
theorem shl64 (x k : Nat) (hx : x < 18446744073709551616) (hk : k ≤ 64) (h : x * 2 ^ k < 18446744073709551616) : IntKind.u64.wrap (IntKind.u64.wrap (x : Int) * 2 ^ min (Int.toNat (k : Int)) 64) = ((x * 2 ^ k : Nat) : Int) := by
  have e : min (Int.toNat (k : Int)) 64 = k := by omega
  have e2 : ((x : Int) * (2 : Int) ^ k) = ((x * 2 ^ k : Nat) : Int) := by simp
  rw [u64c x hx, e, e2, u64c _ h]
theorem lay_dec (w : Nat) (hw : w < 18446744073709551616) (h3 : ¬ (decP w).Kind = 4) : layI (decP w) = (w : Int) := by
  by_cases h0 : w = 0
  · subst h0; rfl
  by_cases h1 : w % 4 = 0
  · have e : decP w = ⟨1, offN w, (w / 4294967296 % 65536 : Nat), (w / 281474976710656 % 65536 : Nat), 0, 0, 0, false⟩ := by simp [decP, h0, h1]
    rw [e]
    unfold layI
    rw [if_pos rfl]
    simp only
    have s1 := shl64 (w / 4294967296 % 65536) 32 (by omega) (by decide) (by omega)
    have s2 := shl64 (w / 281474976710656 % 65536) 48 (by omega) (by decide) (by omega)
    rw [show ((32 : Nat) : Int) = 32 from rfl] at s1
    rw [show ((48 : Nat) : Int) = 48 from rfl] at s2
    rw [u32off, s1, s2, lor64w _ _ (by omega) (by omega), or_add 32 _ _ (by omega), lor64w _ _ (by omega) (by omega), or_add 48 _ _ (by omega)]
    omega
  by_cases h2 : w % 4 = 1
  · have e : decP w = ⟨2, offN w, 0, 0, (w / 4294967296 % 8 : Nat), (w / 34359738368 % 536870912 : Nat), 0, false⟩ := by simp [decP, h0, h1, h2]
    rw [e]
    unfold layI
    rw [if_neg (by simp), if_pos rfl]
    simp only
    have s1 := shl64 (w / 4294967296 % 8) 32 (by omega) (by decide) (by omega)
    have s2 := shl64 (w / 34359738368 % 536870912) 35 (by omega) (by decide) (by omega)
    rw [show ((32 : Nat) : Int) = 32 from rfl] at s1
    rw [show ((35 : Nat) : Int) = 35 from rfl] at s2
    have l1 := lor64w 1 (w / 4 % 1073741824 * 2 ^ 2) (by decide) (by omega)
    rw [show ((1 : Nat) : Int) = 1 from rfl, or_add 2 1 _ (by decide)] at l1
    rw [u32off, s1, s2, l1, lor64w _ _ (by omega) (by omega), or_add 32 _ _ (by omega), lor64w _ _ (by omega) (by omega), or_add 35 _ _ (by omega)]
    omega
  by_cases h4 : w % 4 = 2
  · have e : decP w = ⟨3, (w / 8 % 536870912 : Nat), 0, 0, 0, 0, (w / 4294967296 % 4294967296 : Nat), decide (w / 4 % 2 = 1)⟩ := by simp [decP, h0, h1, h2, h4]
    rw [e]
    unfold layI
    rw [if_neg (by simp), if_neg (by simp), if_pos rfl]
    simp only
    have s1 := shl64 (w / 8 % 536870912) 3 (by omega) (by decide) (by omega)
    have s2 := shl64 (w / 4294967296 % 4294967296) 32 (by omega) (by decide) (by omega)
    rw [show ((3 : Nat) : Int) = 3 from rfl] at s1
    rw [show ((32 : Nat) : Int) = 32 from rfl] at s2
    have l1 := lor64w 2 (w / 8 % 536870912 * 2 ^ 3) (by decide) (by omega)
    rw [show ((2 : Nat) : Int) = 2 from rfl, or_add 3 2 _ (by decide)] at l1
    rw [s1, s2, l1, lor64w _ _ (by omega) (by omega), or_add 32 _ _ (by omega)]
    by_cases hb : w / 4 % 2 = 1
    · rw [if_pos (by simpa using hb)]
      have l2 := lor64w (2 + w / 8 % 536870912 * 2 ^ 3 + w / 4294967296 % 4294967296 * 2 ^ 32) 4 (by omega) (by decide)
      rw [show ((4 : Nat) : Int) = 4 from rfl] at l2
      rw [l2]
      have : (2 + w / 8 % 536870912 * 2 ^ 3 + w / 4294967296 % 4294967296 * 2 ^ 32) ||| 4 = 2 + w / 8 % 536870912 * 2 ^ 3 + w / 4294967296 % 4294967296 * 2 ^ 32 + 4 := by
        have e1 : 2 + w / 8 % 536870912 * 2 ^ 3 + w / 4294967296 % 4294967296 * 2 ^ 32 = 2 ^ 3 * (w / 8 % 536870912 + w / 4294967296 % 4294967296 * 2 ^ 29) + 2 := by omega
        rw [e1]
        generalize w / 8 % 536870912 + w / 4294967296 % 4294967296 * 2 ^ 29 = q
        conv => lhs; rw [Nat.two_pow_add_eq_or_of_lt (by decide), Nat.or_assoc, show (2 ||| 4 : Nat) = 6 from rfl, ← Nat.two_pow_add_eq_or_of_lt (by decide)]
      rw [this]
      omega
    · rw [if_neg (by simpa using hb)]
      omega
  · exact absurd (by simp [decP, h0, h1, h2, h4]) h3


theorem mine_p (p : S_ptr_Ptr) : m_centolaw04_mine p = some p := rfl
theorem ptr_beq (p q : S_ptr_Ptr) : ((p.Kind == q.Kind) && ((p.Off == q.Off) && ((p.Data == q.Data) && ((p.Ptrs == q.Ptrs) && ((p.Code == q.Code) && ((p.Count == q.Count) && ((p.Segment == q.Segment) && (p.Double == q.Double)))))))) = true ↔ p = q := by
  cases p; cases q
  simp [and_assoc]
theorem dec_kind (w : Nat) : (decP w).Kind = 0 ∨ (decP w).Kind = 1 ∨ (decP w).Kind = 2 ∨ (decP w).Kind = 3 ∨ (decP w).Kind = 4 := by
  unfold decP
  split
  · exact .inl rfl
  split
  · exact .inr (.inl rfl)
  split
  · exact .inr (.inr (.inl rfl))
  split
  · exact .inr (.inr (.inr (.inl rfl)))
  · exact .inr (.inr (.inr (.inr rfl)))
open Classical in
/-- what 'Encode' tells -/
theorem encode_p (p : S_ptr_Ptr) : ∃ w : Nat, w < 18446744073709551616 ∧ layI p = (w : Int) ∧ m_ptr_Encode p = some ((w : Int), decide (p.Kind ≠ 4 ∧ decP w = p)) := by
  obtain ⟨w, hw, hlt⟩ := layI_nat p
  refine ⟨w, hlt, hw, ?_⟩
  unfold m_ptr_Encode
  rw [lay_p, hw]
  simp only [Option.bind_some, decode_p w hlt]
  by_cases h4 : p.Kind = 4
  · simp [h4]
  · have hk : (p.Kind != 4) = true := by simp [h4]
    rw [hk]
    simp only [cond_true, Option.bind_some, Option.some.injEq, Prod.mk.injEq, true_and]
    rw [Bool.eq_iff_iff, ptr_beq]
    simp [h4]
theorem encode_dec (w : Nat) (hw : w < 18446744073709551616) (h : ¬ (decP w).Kind = 4) : m_ptr_Encode (decP w) = some ((w : Int), true) := by
  obtain ⟨v, hv, h1, h2⟩ := encode_p (decP w)
  have : v = w := by have := lay_dec w hw h; omega
  subst this
  rw [h2]
  simp [h]
theorem awake4_p : m_centolaw04_awake = some true := by
  have d1 : m_ptr_Decode 4294967296 = _ := decode_p 4294967296 (by decide)
  have d2 : m_ptr_Decode 4294967292 = _ := decode_p 4294967292 (by decide)
  unfold m_centolaw04_awake
  rw [d1, d2]
  simp only [Option.bind_some]
  decide
theorem ptrDecodes_p (w : Nat) (hw : w < 18446744073709551616) : m_centolaw04_PtrDecodes w = some true := by
  unfold m_centolaw04_PtrDecodes
  rw [decode_p w hw, rdecode_p w hw]
  simp only [Option.bind_some, mine_p, awake4_p]
  have e := (ptr_beq (decP w) (decP w)).2 rfl
  rw [e]
  by_cases h : (decP w).Kind = 4
  · obtain ⟨v, hv, h1, h2⟩ := encode_p (decP w)
    rw [h2]
    simp [h]
  · rw [encode_dec w hw h]
    simp [ieqF h]
/-- is there a word of it? -/
def RightP (p : S_ptr_Ptr) : Prop :=
  p = ⟨0, 0, 0, 0, 0, 0, 0, false⟩ ∨
  (p.Kind = 1 ∧ -536870912 ≤ p.Off ∧ p.Off < 536870912 ∧ 0 ≤ p.Data ∧ p.Data < 65536 ∧ 0 ≤ p.Ptrs ∧ p.Ptrs < 65536 ∧ p.Code = 0 ∧ p.Count = 0 ∧ p.Segment = 0 ∧ p.Double = false ∧ ¬ (p.Off = 0 ∧ p.Data = 0 ∧ p.Ptrs = 0)) ∨
  (p.Kind = 2 ∧ -536870912 ≤ p.Off ∧ p.Off < 536870912 ∧ 0 ≤ p.Code ∧ p.Code < 8 ∧ 0 ≤ p.Count ∧ p.Count < 536870912 ∧ p.Data = 0 ∧ p.Ptrs = 0 ∧ p.Segment = 0 ∧ p.Double = false) ∨
  (p.Kind = 3 ∧ 0 ≤ p.Off ∧ p.Off < 536870912 ∧ 0 ≤ p.Segment ∧ p.Segment < 4294967296 ∧ p.Data = 0 ∧ p.Ptrs = 0 ∧ p.Code = 0 ∧ p.Count = 0)
theorem condAnd (a b : Bool) : cond a b false = true ↔ a = true ∧ b = true := by cases a <;> simp
theorem condOr (a b : Bool) : cond a true b = true ↔ a = true ∨ b = true := by cases a <;> simp
theorem right_p (p : S_ptr_Ptr) : ∃ b : Bool, m_centoref04_Right p = some b ∧ (b = true ↔ RightP p) := by
  unfold m_centoref04_Right
  by_cases h0 : p.Kind = 0
  · refine ⟨_, by rw [h0]; rfl, ?_⟩
    cases p
    simp only at h0
    subst h0
    simp [RightP, and_assoc]
  by_cases h1 : p.Kind = 1
  · refine ⟨_, by rw [h1]; rfl, ?_⟩
    cases p
    simp only at h1
    subst h1
    simp only [condAnd, condOr, RightP, decide_eq_true_eq, Bool.and_eq_true, beq_iff_eq, Bool.not_eq_true', bne_iff_ne, ne_eq, S_ptr_Ptr.mk.injEq]
    simp [and_assoc]
    omega
  by_cases h2 : p.Kind = 2
  · refine ⟨_, by rw [h2]; rfl, ?_⟩
    cases p
    simp only at h2
    subst h2
    simp only [condAnd, condOr, RightP, decide_eq_true_eq, Bool.and_eq_true, beq_iff_eq, Bool.not_eq_true', bne_iff_ne, ne_eq, S_ptr_Ptr.mk.injEq]
    simp [and_assoc]
  by_cases h3 : p.Kind = 3
  · refine ⟨_, by rw [h3]; rfl, ?_⟩
    cases p
    simp only at h3
    subst h3
    simp only [condAnd, condOr, RightP, decide_eq_true_eq, Bool.and_eq_true, beq_iff_eq, Bool.not_eq_true', bne_iff_ne, ne_eq, S_ptr_Ptr.mk.injEq]
    simp [and_assoc]
  · refine ⟨false, by simp [ieqF h0, ieqF h1, ieqF h2, ieqF h3], ?_⟩
    cases p
    simp only at h0 h1 h2 h3
    simp [RightP, h0, h1, h2, h3]
theorem encPtr (p : S_ptr_Ptr) (h : RightP p) : ∃ w : Nat, w < 18446744073709551616 ∧ decP w = p ∧ ¬ p.Kind = 4 := by
  obtain ⟨k, off, data, ptrs, code, count, seg, dbl⟩ := p
  rcases h with h | ⟨rfl, a, b, c, d, e, f, rfl, rfl, rfl, rfl, g⟩ | ⟨rfl, a, b, c, d, e, f, rfl, rfl, rfl, rfl⟩ | ⟨rfl, a, b, c, d, rfl, rfl, rfl, rfl⟩
  · exact ⟨0, by decide, by rw [h]; rfl, by rw [h]; decide⟩
  · simp only at a b c d e f g
    refine ⟨(off % 1073741824).toNat * 4 + data.toNat * 4294967296 + ptrs.toNat * 281474976710656, by omega, ?_, by simp⟩
    generalize hw : (off % 1073741824).toNat * 4 + data.toNat * 4294967296 + ptrs.toNat * 281474976710656 = w
    have h1 : ¬ w = 0 := by omega
    have h2 : w % 4 = 0 := by omega
    unfold decP
    rw [if_neg h1, if_pos h2]
    unfold offN
    simp only [S_ptr_Ptr.mk.injEq, true_and, and_true]
    refine ⟨?_, by omega, by omega⟩
    split <;> omega
  · simp only at a b c d e f
    refine ⟨(off % 1073741824).toNat * 4 + 1 + code.toNat * 4294967296 + count.toNat * 34359738368, by omega, ?_, by simp⟩
    generalize hw : (off % 1073741824).toNat * 4 + 1 + code.toNat * 4294967296 + count.toNat * 34359738368 = w
    have h1 : ¬ w = 0 := by omega
    have h2 : ¬ w % 4 = 0 := by omega
    have h3 : w % 4 = 1 := by omega
    unfold decP
    rw [if_neg h1, if_neg h2, if_pos h3]
    unfold offN
    simp only [S_ptr_Ptr.mk.injEq, true_and, and_true]
    refine ⟨?_, by omega, by omega⟩
    split <;> omega
  · simp only at a b c d
    refine ⟨off.toNat * 8 + 2 + (if dbl = true then 4 else 0) + seg.toNat * 4294967296, by split <;> omega, ?_, by simp⟩
    generalize hw : off.toNat * 8 + 2 + (if dbl = true then 4 else 0) + seg.toNat * 4294967296 = w
    have hd : (dbl = true ∧ w = off.toNat * 8 + 6 + seg.toNat * 4294967296) ∨ (dbl = false ∧ w = off.toNat * 8 + 2 + seg.toNat * 4294967296) := by
      cases dbl
      · exact .inr ⟨rfl, by simp at hw; omega⟩
      · exact .inl ⟨rfl, by simp at hw; omega⟩
    clear hw
    have h1 : ¬ w = 0 := by omega
    have h2 : ¬ w % 4 = 0 := by omega
    have h3 : ¬ w % 4 = 1 := by omega
    have h4 : w % 4 = 2 := by omega
    unfold decP
    rw [if_neg h1, if_neg h2, if_neg h3, if_pos h4]
    simp only [S_ptr_Ptr.mk.injEq, true_and, and_true]
    refine ⟨by omega, by omega, ?_⟩
    rcases hd with ⟨rfl, hw⟩ | ⟨rfl, hw⟩
    · simp; omega
    · simp; omega
theorem right_of_dec (w : Nat) (hw : w < 18446744073709551616) (h : ¬ (decP w).Kind = 4) : RightP (decP w) := by
  unfold decP at h ⊢
  have ho : -536870912 ≤ offN w ∧ offN w < 536870912 ∧ (offN w = 0 → w / 4 % 1073741824 = 0) := by unfold offN; split <;> omega
  split
  · exact .inl rfl
  split
  · refine .inr (.inl ⟨rfl, ho.1, ho.2.1, ?_⟩)
    simp only [true_and]
    refine ⟨by omega, by omega, by omega, by omega, ?_⟩
    intro ⟨q1, q2, q3⟩
    have := ho.2.2 q1
    omega
  split
  · refine .inr (.inr (.inl ⟨rfl, ho.1, ho.2.1, ?_⟩))
    simp only [true_and, and_true]
    omega
  split
  · refine .inr (.inr (.inr ⟨rfl, ?_⟩))
    simp only [true_and, and_true]
    omega
  · rename_i h0 h1 h2 h3
    rw [if_neg h0, if_neg h1, if_neg h2, if_neg h3] at h
    exact absurd rfl h
open Classical in
theorem ptrEncodes_p (p : S_ptr_Ptr) : m_centolaw04_PtrEncodes p = some true := by
  unfold m_centolaw04_PtrEncodes
  obtain ⟨w, hw, h1, h2⟩ := encode_p p
  obtain ⟨b, hb, hb2⟩ := right_p p
  rw [mine_p]
  simp only [Option.bind_some, h2, hb, mine_p, awake4_p, decode_p w hw, rdecode_p w hw]
  have key : (p.Kind ≠ 4 ∧ decP w = p) ↔ RightP p := by
    constructor
    · rintro ⟨k1, k2⟩
      rw [← k2]
      exact right_of_dec w hw (by rw [k2]; exact k1)
    · intro hr
      obtain ⟨v, hv, k1, k2⟩ := encPtr p hr
      refine ⟨k2, ?_⟩
      have : layI p = (v : Int) := by rw [← k1]; exact lay_dec v hv (by rw [k1]; exact k2)
      have : v = w := by omega
      rw [← this, k1]
  have hbb : decide (p.Kind ≠ 4 ∧ decP w = p) = b := by
    rw [Bool.eq_iff_iff, hb2]
    simpa using key
  rw [hbb]
  cases hc : b with
  | false => simp
  | true =>
    have hr := hb2.1 hc
    obtain ⟨_, hd⟩ := key.2 hr
    have e := (ptr_beq p p).2 rfl
    rw [hd, e]
    rfl

end Go.Proofs.Ytgijkjifiekkmaa
