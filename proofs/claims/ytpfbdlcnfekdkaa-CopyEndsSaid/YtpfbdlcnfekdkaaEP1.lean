/- Plain facts on this seat's mirrors (part EP1); each theorem bears its own conditions. -/
import Derived.Test.YtpfbdlcnfekdkaaED
import Derived.Test.YtpfbdlcnfekdkaaEE
import Derived.IntWalk
namespace Go.Proofs.Ytpfbdlcnfekdkaa
open Go.RowKit
set_option linter.unusedVariables false
set_option linter.unusedSimpArgs false
theorem ieqF {a b : Int} (h : ¬ a = b) : (a == b) = false := by simp [h]
/-- a pointer, as a word has it -/
def offN (w : Nat) : Int := if w / 4 % 1073741824 < 536870912 then ((w / 4 % 1073741824 : Nat) : Int) else ((w / 4 % 1073741824 : Nat) : Int) - 1073741824
def decP (w : Nat) : S_ptr_Ptr :=
  if w = 0 then ⟨0, 0, 0, 0, 0, 0, 0, false⟩
  else if w % 4 = 0 then ⟨1, offN w, (w / 4294967296 % 65536 : Nat), (w / 281474976710656 % 65536 : Nat), 0, 0, 0, false⟩
  else if w % 4 = 1 then ⟨2, offN w, 0, 0, (w / 4294967296 % 8 : Nat), (w / 34359738368 % 536870912 : Nat), 0, false⟩
  else if w % 4 = 2 then ⟨3, (w / 8 % 536870912 : Nat), 0, 0, 0, 0, (w / 4294967296 % 4294967296 : Nat), decide (w / 4 % 2 = 1)⟩
  else ⟨4, 0, 0, 0, 0, 0, 0, false⟩
theorem natpow (b : Nat) : ((2 : Int) ^ b) = ((2 ^ b : Nat) : Int) := by simp
theorem field_p (w f b : Nat) (hw : w < 18446744073709551616) (hf : f < 64) (hb : b ≤ 40) : m_ptr_field w f b = some ((w / 2 ^ f % 2 ^ b : Nat) : Int) := by
  unfold m_ptr_field guardI
  rw [if_pos (Int.natCast_nonneg _), if_pos (Int.natCast_nonneg _)]
  simp only [Option.bind_some, Option.some.injEq]
  have hp : (2 : Nat) ^ b ≤ 1099511627776 := by have := Nat.pow_le_pow_right (n := 2) (by decide) hb; simpa using this
  have h1 : 0 < (2 : Nat) ^ b := Nat.pow_pos (by decide)
  have e1 : (min ((f : Int).toNat) 64) = f := by omega
  have e2 : (min ((b : Int).toNat) 64) = b := by omega
  have hd : w / 2 ^ f < 18446744073709551616 := Nat.lt_of_le_of_lt (Nat.div_le_self _ _) hw
  have e3 : ((w : Int).fdiv ((2 ^ f : Nat) : Int)) = ((w / 2 ^ f : Nat) : Int) := by
    rw [Int.fdiv_eq_ediv_of_nonneg _ (Int.natCast_nonneg _), Int.natCast_ediv]
  rw [e1, e2, natpow, natpow, e3]
  clear e3
  generalize hq : 2 ^ b = q at *
  generalize w / 2 ^ f = x at *
  rw [Int.one_mul, IntWalk.u64_in (q : Int) (by omega), IntWalk.u64_in ((q : Int) - 1) (by omega)]
  have e4 : ((q : Int) - 1) = ((q - 1 : Nat) : Int) := by omega
  rw [e4, land64 _ _ hd (by omega), ← hq, Nat.and_two_pow_sub_one_eq_mod, hq]
  have : x % q < q := Nat.mod_lt _ h1
  rw [IntWalk.u64_in _ (by omega), IntWalk.i64_in _ (by omega)]
theorem off_eq (w : Nat) (hw : w < 18446744073709551616) : IntKind.i64.wrap ((IntKind.i32.wrap (IntKind.u32.wrap (w : Int))).fdiv (2 ^ min (Int.toNat 2) 32)) = offN w := by
  have e : (2 : Int) ^ min (Int.toNat 2) 32 = 4 := by decide
  rw [e, Int.fdiv_eq_ediv_of_nonneg _ (by decide), IntKind.wrap_u32, IntKind.wrap_i32]
  unfold offN
  rw [IntWalk.i64_in _ (by omega)]
  split <;> omega
theorem offset_p (w : Nat) (hw : w < 18446744073709551616) : m_ptr_offset w = some (offN w) := congrArg some (off_eq w hw)
theorem and3 (w : Nat) (hw : w < 18446744073709551616) : IntKind.u64.wrap (landI .u64 w 3) = ((w % 4 : Nat) : Int) := by
  have := land64 w 3 hw (by decide)
  rw [show ((3 : Nat) : Int) = 3 from rfl] at this
  rw [this, show (3 : Nat) = 2 ^ 2 - 1 from rfl, Nat.and_two_pow_sub_one_eq_mod, IntWalk.u64_in _ (by omega)]
theorem bit2 (w : Nat) (hw : w < 18446744073709551616) : (IntKind.u64.wrap (landI .u64 ((w : Int).fdiv (2 ^ min (Int.toNat 2) 64)) 1) == 1) = decide (w / 4 % 2 = 1) := by
  have e1 : (2 : Int) ^ min (Int.toNat 2) 64 = 4 := by decide
  have e2 : ((w : Int).fdiv 4) = ((w / 4 : Nat) : Int) := by rw [Int.fdiv_eq_ediv_of_nonneg _ (by decide)]; rfl
  have e3 := land64 (w / 4) 1 (by omega) (by decide)
  rw [show ((1 : Nat) : Int) = 1 from rfl, Nat.and_one_is_mod] at e3
  rw [e1, e2, e3, IntWalk.u64_in _ (by omega)]
  by_cases h : w / 4 % 2 = 1
  · rw [h]; decide
  · have : w / 4 % 2 = 0 := by omega
    rw [this]; decide
theorem beqN (a : Nat) (b : Nat) : ((a : Int) == (b : Int)) = decide (a = b) := by
  by_cases h : a = b
  · subst h; simp
  · simp [h, Int.natCast_inj]
theorem decode_p (w : Nat) (hw : w < 18446744073709551616) : m_ptr_Decode w = some (decP w) := by
  unfold m_ptr_Decode
  have f1 : m_ptr_field w 32 16 = _ := field_p w 32 16 hw (by decide) (by decide)
  have f2 : m_ptr_field w 48 16 = _ := field_p w 48 16 hw (by decide) (by decide)
  have f3 : m_ptr_field w 32 3 = _ := field_p w 32 3 hw (by decide) (by decide)
  have f4 : m_ptr_field w 35 29 = _ := field_p w 35 29 hw (by decide) (by decide)
  have f5 : m_ptr_field w 3 29 = _ := field_p w 3 29 hw (by decide) (by decide)
  have f6 : m_ptr_field w 32 32 = _ := field_p w 32 32 hw (by decide) (by decide)
  have c0 : ((w : Int) == 0) = _ := beqN w 0
  have c1 : (((w % 4 : Nat) : Int) == 0) = _ := beqN (w % 4) 0
  have c2 : (((w % 4 : Nat) : Int) == 1) = _ := beqN (w % 4) 1
  have c3 : (((w % 4 : Nat) : Int) == 2) = _ := beqN (w % 4) 2
  rw [and3 w hw, offset_p w hw, f1, f2, f3, f4, f5, f6, bit2 w hw, c0, c1, c2, c3]
  simp only [Option.bind_some]
  unfold decP
  by_cases h0 : w = 0
  · simp [h0]
  by_cases h1 : w % 4 = 0
  · simp [h0, h1]
  by_cases h2 : w % 4 = 1
  · simp [h0, h2]
  by_cases h3 : w % 4 = 2
  · simp [h0, h3]
  · simp [h0, h1, h2, h3]
theorem mod_step (x i : Nat) : x % 2 ^ (i + 1) = x % 2 ^ i + 2 ^ i * (x / 2 ^ i % 2) := Nat.mod_pow_succ
theorem rfield_p (w f b : Nat) (hw : w < 18446744073709551616) (hf : f < 64) (hb : b ≤ 40) : m_centoref04_field w f b = some ((w / 2 ^ f % 2 ^ b : Nat) : Int) := by
  unfold m_centoref04_field
  have l0 : runLoop (m_centoref04_field_L0 f) ((w : Int), 0) = some ((w / 2 ^ f : Nat) : Int) := by
    refine runLoop_eq (fun s => ∃ i : Nat, i ≤ f ∧ s = (((w / 2 ^ i : Nat) : Int), (i : Int))) (fun s => f - s.2.toNat) ?_ _ ⟨0, by omega, by simp⟩
    rintro s ⟨i, hi, rfl⟩
    unfold m_centoref04_field_L0
    have hs : w / 2 ^ (i + 1) = w / 2 ^ i / 2 := by rw [Nat.pow_succ, Nat.div_div_eq_div_mul]
    have hd : w / 2 ^ i < 18446744073709551616 := Nat.lt_of_le_of_lt (Nat.div_le_self _ _) hw
    by_cases h : i < f
    · left
      refine ⟨(((w / 2 ^ (i + 1) : Nat) : Int), ((i + 1 : Nat) : Int)), ?_, ⟨i + 1, by omega, rfl⟩, by simp only; omega⟩
      have : decide ((i : Int) < f) = true := by simp; omega
      simp only [this, cond_true]
      rw [hs]
      generalize w / 2 ^ i = y at *
      rw [Int.tdiv_eq_ediv_of_nonneg (by omega), u64w (by omega), i64w (by omega)]
      rfl
    · right
      have : decide ((i : Int) < f) = false := by simp; omega
      obtain rfl : i = f := by omega
      simp only [this, cond_false]
  rw [l0]
  simp only [Option.bind_some]
  generalize hx : w / 2 ^ f = x at *
  have hd : x < 18446744073709551616 := by rw [← hx]; exact Nat.lt_of_le_of_lt (Nat.div_le_self _ _) hw
  have l1 : runLoop (m_centoref04_field_L1 b) ((x : Int), 0, 1, 0) = some ((x % 2 ^ b : Nat) : Int) := by
    refine runLoop_eq (fun s => ∃ j : Nat, j ≤ b ∧ s = (((x / 2 ^ j : Nat) : Int), ((x % 2 ^ j : Nat) : Int), ((2 ^ j : Nat) : Int), (j : Int))) (fun s => b - s.2.2.2.toNat) ?_ _ ⟨0, by omega, by simp [Nat.mod_one]⟩
    rintro s ⟨j, hj, rfl⟩
    unfold m_centoref04_field_L1
    have hdj : x / 2 ^ j < 18446744073709551616 := Nat.lt_of_le_of_lt (Nat.div_le_self _ _) hd
    have hpj : (2 : Nat) ^ j ≤ 1099511627776 := by have := Nat.pow_le_pow_right (n := 2) (by decide) (Nat.le_trans hj hb); simpa using this
    have h0 : 0 < (2 : Nat) ^ j := Nat.pow_pos (by decide)
    have hm := mod_step x j
    have hs2 : x / 2 ^ (j + 1) = x / 2 ^ j / 2 := by rw [Nat.pow_succ, Nat.div_div_eq_div_mul]
    have hp2 : (2 : Nat) ^ (j + 1) = 2 ^ j * 2 := Nat.pow_succ ..
    have hlt : x % 2 ^ j < 2 ^ j := Nat.mod_lt _ h0
    by_cases h : j < b
    · left
      refine ⟨(((x / 2 ^ (j + 1) : Nat) : Int), ((x % 2 ^ (j + 1) : Nat) : Int), ((2 ^ (j + 1) : Nat) : Int), ((j + 1 : Nat) : Int)), ?_, ⟨j + 1, by omega, rfl⟩, by simp only; omega⟩
      have : decide ((j : Int) < b) = true := by simp; omega
      simp only [this, cond_true]
      rw [hs2, hm, hp2]
      clear hs2 hm hp2
      generalize x / 2 ^ j = y at *
      generalize x % 2 ^ j = r at *
      generalize 2 ^ j = p at *
      rw [Int.tmod_eq_emod_of_nonneg (by omega), Int.tdiv_eq_ediv_of_nonneg (by omega)]
      by_cases hb1 : y % 2 = 1
      · have e : (((y : Int) % 2) == 1) = true := by simp; omega
        rw [e, cond_true, hb1, i64w (by omega)]
        simp only [Option.bind_some]
        rw [u64w (by omega), i64w (by omega), i64w (by omega)]
        simp only [Option.some.injEq, Sum.inl.injEq, Prod.mk.injEq]
        omega
      · have e : (((y : Int) % 2) == 1) = false := by simp; omega
        have hb0 : y % 2 = 0 := by omega
        rw [e, cond_false, hb0]
        simp only [Option.bind_some]
        rw [u64w (by omega), i64w (by omega), i64w (by omega)]
        simp only [Option.some.injEq, Sum.inl.injEq, Prod.mk.injEq]
        omega
    · right
      have : decide ((j : Int) < b) = false := by simp; omega
      obtain rfl : j = b := by omega
      simp only [this, cond_false]
  rw [l1]
  simp only [Option.bind_some]
theorem rdecode_p (w : Nat) (hw : w < 18446744073709551616) : m_centoref04_Decode w = some (decP w) := by
  unfold m_centoref04_Decode
  have f0 : m_centoref04_field w 2 30 = _ := rfield_p w 2 30 hw (by decide) (by decide)
  have f00 : m_centoref04_field w 0 2 = _ := rfield_p w 0 2 hw (by decide) (by decide)
  have f1 : m_centoref04_field w 32 16 = _ := rfield_p w 32 16 hw (by decide) (by decide)
  have f2 : m_centoref04_field w 48 16 = _ := rfield_p w 48 16 hw (by decide) (by decide)
  have f3 : m_centoref04_field w 32 3 = _ := rfield_p w 32 3 hw (by decide) (by decide)
  have f4 : m_centoref04_field w 35 29 = _ := rfield_p w 35 29 hw (by decide) (by decide)
  have f5 : m_centoref04_field w 3 29 = _ := rfield_p w 3 29 hw (by decide) (by decide)
  have f6 : m_centoref04_field w 32 32 = _ := rfield_p w 32 32 hw (by decide) (by decide)
  have f7 : m_centoref04_field w 2 1 = _ := rfield_p w 2 1 hw (by decide) (by decide)
  have c0 : ((w : Int) == 0) = _ := beqN w 0
  have c1 : (((w % 4 : Nat) : Int) == 0) = _ := beqN (w % 4) 0
  have c2 : (((w % 4 : Nat) : Int) == 1) = _ := beqN (w % 4) 1
  have c3 : (((w % 4 : Nat) : Int) == 2) = _ := beqN (w % 4) 2
  have c4 : (((w / 4 % 2 : Nat) : Int) == 1) = _ := beqN (w / 4 % 2) 1
  simp only [Nat.reducePow, Nat.div_one] at f0 f00 f1 f2 f3 f4 f5 f6 f7
  have ho : (cond (decide (536870912 ≤ ((w / 4 % 1073741824 : Nat) : Int))) (some (IntKind.i64.wrap (((w / 4 % 1073741824 : Nat) : Int) - 1073741824))) (some ((w / 4 % 1073741824 : Nat) : Int))) = some (offN w) := by
    unfold offN
    rw [i64w (by omega)]
    by_cases h : w / 4 % 1073741824 < 536870912
    · have : decide (536870912 ≤ ((w / 4 % 1073741824 : Nat) : Int)) = false := by simp; omega
      rw [this, if_pos h, cond_false]
    · have : decide (536870912 ≤ ((w / 4 % 1073741824 : Nat) : Int)) = true := by simp; omega
      rw [this, if_neg h, cond_true]
  rw [f0]
  simp only [Option.bind_some, ho]
  rw [f00, f1, f2, f3, f4, f5, f6, f7]
  simp only [Option.bind_some]
  rw [c0, c1, c2, c3, c4]
  unfold decP
  by_cases h0 : w = 0
  · simp [h0]
  by_cases h1 : w % 4 = 0
  · simp [h0, h1]
  by_cases h2 : w % 4 = 1
  · simp [h0, h2]
  by_cases h3 : w % 4 = 2
  · simp [h0, h3]
  · simp [h0, h1, h2, h3]
theorem or_add (k a b : Nat) (h : a < 2 ^ k) : a ||| (b * 2 ^ k) = a + b * 2 ^ k := by
  rw [Nat.or_comm, Nat.mul_comm, ← Nat.two_pow_add_eq_or_of_lt h, Nat.add_comm]
/-- the word that 'lay' lays -/
def layI (p : S_ptr_Ptr) : Int :=
  if p.Kind = 1 then IntKind.u64.wrap (lorI .u64 (IntKind.u64.wrap (lorI .u64 (IntKind.u64.wrap (IntKind.u32.wrap (IntKind.u32.wrap p.Off * 2 ^ min (Int.toNat 2) 32))) (IntKind.u64.wrap (IntKind.u64.wrap p.Data * 2 ^ min (Int.toNat 32) 64)))) (IntKind.u64.wrap (IntKind.u64.wrap p.Ptrs * 2 ^ min (Int.toNat 48) 64)))
  else if p.Kind = 2 then IntKind.u64.wrap (lorI .u64 (IntKind.u64.wrap (lorI .u64 (IntKind.u64.wrap (lorI .u64 1 (IntKind.u64.wrap (IntKind.u32.wrap (IntKind.u32.wrap p.Off * 2 ^ min (Int.toNat 2) 32))))) (IntKind.u64.wrap (IntKind.u64.wrap p.Code * 2 ^ min (Int.toNat 32) 64)))) (IntKind.u64.wrap (IntKind.u64.wrap p.Count * 2 ^ min (Int.toNat 35) 64)))
  else if p.Kind = 3 then
    if p.Double = true then IntKind.u64.wrap (lorI .u64 (IntKind.u64.wrap (lorI .u64 (IntKind.u64.wrap (lorI .u64 2 (IntKind.u64.wrap (IntKind.u64.wrap p.Off * 2 ^ min (Int.toNat 3) 64)))) (IntKind.u64.wrap (IntKind.u64.wrap p.Segment * 2 ^ min (Int.toNat 32) 64)))) 4)
    else IntKind.u64.wrap (lorI .u64 (IntKind.u64.wrap (lorI .u64 2 (IntKind.u64.wrap (IntKind.u64.wrap p.Off * 2 ^ min (Int.toNat 3) 64)))) (IntKind.u64.wrap (IntKind.u64.wrap p.Segment * 2 ^ min (Int.toNat 32) 64)))
  else 0
theorem lay_p (p : S_ptr_Ptr) : m_ptr_lay p = some (layI p) := by
  unfold m_ptr_lay layI
  by_cases h1 : p.Kind = 1
  · simp [h1]
  by_cases h2 : p.Kind = 2
  · simp [h2]
  by_cases h3 : p.Kind = 3
  · by_cases hd : p.Double = true <;> simp [h3, hd]
  · simp [h1, h2, h3, ieqF h1, ieqF h2, ieqF h3]
theorem wrap_lt (x : Int) : ∃ w : Nat, IntKind.u64.wrap x = (w : Int) ∧ w < 18446744073709551616 := by
  refine ⟨(x % 18446744073709551616).toNat, ?_, by omega⟩
  simp [IntKind.wrap, IntKind.bits, IntKind.signed]
  omega
theorem layI_nat (p : S_ptr_Ptr) : ∃ w : Nat, layI p = (w : Int) ∧ w < 18446744073709551616 := by
  unfold layI
  split
  · exact wrap_lt _
  split
  · exact wrap_lt _
  split
  · split <;> exact wrap_lt _
  · exact ⟨0, rfl, by decide⟩
theorem u64c (x : Nat) (h : x < 18446744073709551616) : IntKind.u64.wrap (x : Int) = (x : Int) := IntWalk.u64_in _ (by omega)
theorem u32off (w : Nat) : IntKind.u64.wrap (IntKind.u32.wrap (IntKind.u32.wrap (offN w) * 2 ^ min (Int.toNat 2) 32)) = ((w / 4 % 1073741824 * 2 ^ 2 : Nat) : Int) := by
  have e : (2 : Int) ^ min (Int.toNat 2) 32 = 4 := by decide
  rw [e, IntKind.wrap_u32, IntKind.wrap_u32]
  unfold offN
  rw [IntWalk.u64_in _ (by omega)]
  split <;> omega
theorem lor64w (x y : Nat) (hx : x < 18446744073709551616) (hy : y < 18446744073709551616) : IntKind.u64.wrap (lorI .u64 x y) = ((x ||| y : Nat) : Int) := by
  rw [lor64 x y hx hy, u64c _ (by have := Nat.or_lt_two_pow (n := 64) (show x < 2 ^ 64 by omega) (show y < 2 ^ 64 by omega); omega)]
theorem shl64 (x k : Nat) (hx : x < 18446744073709551616) (hk : k ≤ 64) (h : x * 2 ^ k < 18446744073709551616) : IntKind.u64.wrap (IntKind.u64.wrap (x : Int) * 2 ^ min (Int.toNat (k : Int)) 64) = ((x * 2 ^ k : Nat) : Int) := by
  have e : min (Int.toNat (k : Int)) 64 = k := by omega
  have e2 : ((x : Int) * (2 : Int) ^ k) = ((x * 2 ^ k : Nat) : Int) := by simp
  rw [u64c x hx, e, e2, u64c _ h]
theorem lay_dec (w : Nat) (hw : w < 18446744073709551616) (h3 : ¬ (decP w).Kind = 4) : layI (decP w) = (w : Int) := by
  by_cases h0 : w = 0
  · subst h0; rfl
  by_cases h1 : w % 4 = 0
  · have e : decP w = ⟨1, offN w, (w / 4294967296 % 65536 : Nat), (w / 281474976710656 % 65536 : Nat), 0, 0, 0, false⟩ := by simp [decP, h0, h1]
    rw [e]
    unfold layI
    rw [if_pos rfl]
    simp only
    have s1 := shl64 (w / 4294967296 % 65536) 32 (by omega) (by decide) (by omega)
    have s2 := shl64 (w / 281474976710656 % 65536) 48 (by omega) (by decide) (by omega)
    rw [show ((32 : Nat) : Int) = 32 from rfl] at s1
    rw [show ((48 : Nat) : Int) = 48 from rfl] at s2
    rw [u32off, s1, s2, lor64w _ _ (by omega) (by omega), or_add 32 _ _ (by omega), lor64w _ _ (by omega) (by omega), or_add 48 _ _ (by omega)]
    omega
  by_cases h2 : w % 4 = 1
  · have e : decP w = ⟨2, offN w, 0, 0, (w / 4294967296 % 8 : Nat), (w / 34359738368 % 536870912 : Nat), 0, false⟩ := by simp [decP, h0, h1, h2]
    rw [e]
    unfold layI
    rw [if_neg (by simp), if_pos rfl]
    simp only
    have s1 := shl64 (w / 4294967296 % 8) 32 (by omega) (by decide) (by omega)
    have s2 := shl64 (w / 34359738368 % 536870912) 35 (by omega) (by decide) (by omega)
    rw [show ((32 : Nat) : Int) = 32 from rfl] at s1
    rw [show ((35 : Nat) : Int) = 35 from rfl] at s2
    have l1 := lor64w 1 (w / 4 % 1073741824 * 2 ^ 2) (by decide) (by omega)
    rw [show ((1 : Nat) : Int) = 1 from rfl, or_add 2 1 _ (by decide)] at l1
    rw [u32off, s1, s2, l1, lor64w _ _ (by omega) (by omega), or_add 32 _ _ (by omega), lor64w _ _ (by omega) (by omega), or_add 35 _ _ (by omega)]
    omega
  by_cases h4 : w % 4 = 2
  · have e : decP w = ⟨3, (w / 8 % 536870912 : Nat), 0, 0, 0, 0, (w / 4294967296 % 4294967296 : Nat), decide (w / 4 % 2 = 1)⟩ := by simp [decP, h0, h1, h2, h4]
    rw [e]
    unfold layI
    rw [if_neg (by simp), if_neg (by simp), if_pos rfl]
    simp only
    have s1 := shl64 (w / 8 % 536870912) 3 (by omega) (by decide) (by omega)
    have s2 := shl64 (w / 4294967296 % 4294967296) 32 (by omega) (by decide) (by omega)
    rw [show ((3 : Nat) : Int) = 3 from rfl] at s1
    rw [show ((32 : Nat) : Int) = 32 from rfl] at s2
    have l1 := lor64w 2 (w / 8 % 536870912 * 2 ^ 3) (by decide) (by omega)
    rw [show ((2 : Nat) : Int) = 2 from rfl, or_add 3 2 _ (by decide)] at l1
    rw [s1, s2, l1, lor64w _ _ (by omega) (by omega), or_add 32 _ _ (by omega)]
    by_cases hb : w / 4 % 2 = 1
    · rw [if_pos (by simpa using hb)]
      have l2 := lor64w (2 + w / 8 % 536870912 * 2 ^ 3 + w / 4294967296 % 4294967296 * 2 ^ 32) 4 (by omega) (by decide)
      rw [show ((4 : Nat) : Int) = 4 from rfl] at l2
      rw [l2]
      have : (2 + w / 8 % 536870912 * 2 ^ 3 + w / 4294967296 % 4294967296 * 2 ^ 32) ||| 4 = 2 + w / 8 % 536870912 * 2 ^ 3 + w / 4294967296 % 4294967296 * 2 ^ 32 + 4 := by
        have e1 : 2 + w / 8 % 536870912 * 2 ^ 3 + w / 4294967296 % 4294967296 * 2 ^ 32 = 2 ^ 3 * (w / 8 % 536870912 + w / 4294967296 % 4294967296 * 2 ^ 29) + 2 := by omega
        rw [e1]
        generalize w / 8 % 536870912 + w / 4294967296 % 4294967296 * 2 ^ 29 = q
        conv => lhs; rw [Nat.two_pow_add_eq_or_of_lt (by decide), Nat.or_assoc, show (2 ||| 4 : Nat) = 6 from rfl, ← Nat.two_pow_add_eq_or_of_lt (by decide)]
      rw [this]
      omega
    · rw [if_neg (by simpa using hb)]
      omega
  · exact absurd (by simp [decP, h0, h1, h2, h4]) h3


theorem ptr_beq (p q : S_ptr_Ptr) : ((p.Kind == q.Kind) && ((p.Off == q.Off) && ((p.Data == q.Data) && ((p.Ptrs == q.Ptrs) && ((p.Code == q.Code) && ((p.Count == q.Count) && ((p.Segment == q.Segment) && (p.Double == q.Double)))))))) = true ↔ p = q := by
  cases p; cases q
  simp [and_assoc]
open Classical in
/-- what 'Encode' tells -/
theorem encode_p (p : S_ptr_Ptr) : ∃ w : Nat, w < 18446744073709551616 ∧ layI p = (w : Int) ∧ m_ptr_Encode p = some ((w : Int), decide (p.Kind ≠ 4 ∧ decP w = p)) := by
  obtain ⟨w, hw, hlt⟩ := layI_nat p
  refine ⟨w, hlt, hw, ?_⟩
  unfold m_ptr_Encode
  rw [lay_p, hw]
  simp only [Option.bind_some, decode_p w hlt]
  by_cases h4 : p.Kind = 4
  · simp [h4]
  · have hk : (p.Kind != 4) = true := by simp [h4]
    rw [hk]
    simp only [cond_true, Option.bind_some, Option.some.injEq, Prod.mk.injEq, true_and]
    rw [Bool.eq_iff_iff, ptr_beq]
    simp [h4]
theorem encode_dec (w : Nat) (hw : w < 18446744073709551616) (h : ¬ (decP w).Kind = 4) : m_ptr_Encode (decP w) = some ((w : Int), true) := by
  obtain ⟨v, hv, h1, h2⟩ := encode_p (decP w)
  have : v = w := by have := lay_dec w hw h; omega
  subst this
  rw [h2]
  simp [h]
theorem i64s {x : Int} (h1 : -9223372036854775808 ≤ x) (h2 : x ≤ 9223372036854775807) : IntKind.i64.wrap x = x := i64w ⟨h1, h2⟩
theorem lt_t {i n : Nat} (h : i < n) : decide ((i : Int) < (n : Int)) = true := by rw [decide_eq_true_eq]; omega
theorem lt_f {n : Nat} : decide ((n : Int) < (n : Int)) = false := by rw [decide_eq_false_iff_not]; omega
/-- segments that there can be -/
structure WS (l : List (List Int)) : Prop where
  n : l.length * 24 ≤ 140737488355328
  s : ∀ x ∈ l, x.length * 8 ≤ 140737488355328
  w : ∀ x ∈ l, ∀ w ∈ x, 0 ≤ w ∧ w < 18446744073709551616
theorem sClone_ok {l : List Int} (h : l.length * 8 ≤ 140737488355328) : m_slices_Clone_uint64_uint64 l = some l := by
  unfold m_slices_Clone_uint64_uint64
  rw [appI_ok (by simp only [List.length_nil]; omega) (by simp only [List.length_nil]; omega), List.nil_append]
theorem setI_ofN {α : Type} (l : List α) (n : Nat) (v : α) : setI l (n : Int) v = l.set n v := by unfold setI; rw [Int.toNat_natCast]
theorem aClone_loop {l : List (List Int)} (h : WS l) : ∀ (r : List (List Int)) (i : Nat), l.drop i = r → i ≤ l.length →
    runLoop (m_arena_clone_L0 l) ((i : Int), l.take i ++ List.replicate r.length []) = some l
  | [], i, hd, hi => by
    have hl : i = l.length := by
      have := congrArg List.length hd
      rw [List.length_drop, List.length_nil] at this; omega
    subst hl
    refine runLoop_end ?_
    unfold m_arena_clone_L0
    simp only
    rw [lt_f, cond_false]
    simp
  | x :: r, i, hd, hi => by
    have hi' : i < l.length := by
      rcases Nat.lt_or_ge i l.length with q | q
      · exact q
      · rw [List.drop_eq_nil_of_le q] at hd; cases hd
    have hx : l[i]? = some x := by
      have := congrArg (·[0]?) hd
      simpa using this
    have hm := List.mem_of_getElem? hx
    have hd' : l.drop (i + 1) = r := by
      have := congrArg (List.drop 1) hd
      rw [List.drop_drop] at this
      simpa [Nat.add_comm] using this
    have hn := h.n
    have hlen : (l.take i).length = i := by rw [List.length_take]; omega
    have hg : getI (l.take i ++ List.replicate (r.length + 1) []) (i : Int) = some ([] : List Int) := getI_of (by rw [List.getElem?_append_right (by omega), hlen, Nat.sub_self]; rfl)
    have hstep : m_arena_clone_L0 l ((i : Int), l.take i ++ List.replicate (r.length + 1) []) = some (.inl (((i + 1 : Nat) : Int), l.take (i + 1) ++ List.replicate r.length [])) := by
      unfold m_arena_clone_L0
      simp only
      rw [lt_t hi', cond_true, getI_of hx, Option.bind_some, sClone_ok (h.s x hm), Option.bind_some, hg, Option.bind_some, i64s (by omega) (by omega), setI_ofN, List.set_append_right _ _ (by omega), hlen, Nat.sub_self, List.replicate_succ, List.set_cons_zero, List.take_add_one, hx, List.append_assoc]
      rfl
    rw [List.length_cons, runLoop_step hstep]
    exact aClone_loop h r (i + 1) hd' (by omega)
theorem aClone_ok {l : List (List Int)} (h : WS l) : m_arena_clone l = some l := by
  have hn := h.n
  have := aClone_loop h l 0 rfl (Nat.zero_le _)
  rw [List.take_zero, List.nil_append, show (((0 : Nat) : Int)) = 0 from rfl] at this
  unfold m_arena_clone
  rw [makeI_ok (by omega) (by omega) (by omega), Option.bind_some, Int.toNat_natCast, this]
  rfl
theorem aOf_ok {l : List (List Int)} (h : WS l) : m_arena_Of l = some (some ⟨l, 0, 0⟩) := by
  unfold m_arena_Of
  rw [aClone_ok h, Option.bind_some]
/-- a segment -/
def seg (l : List (List Int)) (s : Int) : List Int := (l[s.toNat]?).getD []
/-- so many words of a segment, from one on, are there -/
def inB (l : List (List Int)) (s a n : Int) : Bool := decide (0 ≤ s) && (decide (s < l.length) && (decide (0 ≤ a) && (decide (0 ≤ n) && decide (a + n ≤ (seg l s).length))))
theorem inB_iff {l : List (List Int)} {s a n : Int} : inB l s a n = true ↔ 0 ≤ s ∧ s < l.length ∧ 0 ≤ a ∧ 0 ≤ n ∧ a + n ≤ (seg l s).length := by
  unfold inB
  simp only [Bool.and_eq_true, decide_eq_true_eq]
theorem seg_get {l : List (List Int)} {s : Int} (h0 : 0 ≤ s) (h1 : s < l.length) : getI l s = some (seg l s) ∧ seg l s ∈ l := by
  have hs : s.toNat < l.length := by omega
  unfold seg getI
  rw [if_pos h0, List.getElem?_eq_getElem hs]
  exact ⟨rfl, List.getElem_mem hs⟩
def wd (l : List (List Int)) (s a : Int) : Int := ((seg l s)[a.toNat]?).getD 0
theorem wd_get {l : List (List Int)} {s a : Int} (h : inB l s a 1 = true) : getI (seg l s) a = some (wd l s a) ∧ wd l s a ∈ seg l s := by
  rw [inB_iff] at h
  have ha : a.toNat < (seg l s).length := by omega
  unfold wd getI
  rw [if_pos h.2.2.1, List.getElem?_eq_getElem ha]
  exact ⟨rfl, List.getElem_mem ha⟩
theorem wd_rg {l : List (List Int)} (hw : WS l) (s a : Int) : 0 ≤ wd l s a ∧ wd l s a < 18446744073709551616 := by
  unfold wd
  cases h : (seg l s)[a.toNat]? with
  | none => simp
  | some w =>
    have hm := List.mem_of_getElem? h
    unfold seg at hm
    cases hs : l[s.toNat]? with
    | none => rw [hs] at hm; cases hm
    | some x => rw [hs] at hm; exact hw.w x (List.mem_of_getElem? hs) w hm
theorem seg_len {l : List (List Int)} (hw : WS l) (s : Int) : (seg l s).length * 8 ≤ 140737488355328 := by
  unfold seg
  cases hs : l[s.toNat]? with
  | none => simp
  | some x => exact hw.s x (List.mem_of_getElem? hs)
section
variable {A : S_arena_Arena}
theorem aLen_ok : m_arena_Arena_Len (some A) = some (A.segments.length : Int) := rfl
theorem aThere_ok (s : Int) : m_arena_Arena_there (some A) s = some (decide (0 ≤ s) && decide (s < A.segments.length)) := by
  unfold m_arena_Arena_there
  rw [aLen_ok, Option.bind_some]
  cases decide (0 ≤ s) <;> rfl
theorem aSize_ok (s : Int) : m_arena_Arena_Size (some A) s = some (if 0 ≤ s ∧ s < A.segments.length then ((seg A.segments s).length : Int) else 0) := by
  unfold m_arena_Arena_Size
  rw [aThere_ok, Option.bind_some]
  by_cases h : 0 ≤ s ∧ s < A.segments.length
  · rw [decide_eq_true h.1, decide_eq_true h.2, if_pos h, Option.bind_some, (seg_get h.1 h.2).1]
    rfl
  · rw [if_neg h, show (decide (0 ≤ s) && decide (s < A.segments.length)) = false from by rw [Bool.and_eq_false_iff, decide_eq_false_iff_not, decide_eq_false_iff_not]; omega]
    rfl
theorem aHas_ok (hw : WS A.segments) (s a n : Int) : m_arena_Arena_Has (some A) s a n = some (inB A.segments s a n) := by
  have hl := seg_len hw s
  unfold m_arena_Arena_Has inB
  rw [aThere_ok, aSize_ok, Option.bind_some]
  by_cases h : 0 ≤ s ∧ s < A.segments.length
  · rw [if_pos h, decide_eq_true h.1, decide_eq_true h.2]
    by_cases h2 : 0 ≤ a
    · by_cases h3 : 0 ≤ n
      · by_cases h4 : n ≤ ((seg A.segments s).length : Int)
        · simp only [decide_eq_true h2, decide_eq_true h3, Bool.and_true, Bool.true_and, cond_true, Option.bind_some, decide_eq_true h4]
          rw [i64s (by omega) (by omega)]
          congr 1
          rw [Bool.eq_iff_iff, decide_eq_true_eq, decide_eq_true_eq]
          omega
        · simp only [decide_eq_true h2, decide_eq_true h3, Bool.and_true, Bool.true_and, cond_true, cond_false, Option.bind_some, decide_eq_false h4]
          rw [show decide (a + n ≤ ((seg A.segments s).length : Int)) = false from by rw [decide_eq_false_iff_not]; omega]
      · rw [decide_eq_true h2, decide_eq_false h3]; rfl
    · rw [decide_eq_false h2]; rfl
  · rw [show (decide (0 ≤ s) && decide (s < A.segments.length)) = false from by rw [Bool.and_eq_false_iff, decide_eq_false_iff_not, decide_eq_false_iff_not]; omega]
    rw [← Bool.and_assoc, show (decide (0 ≤ s) && decide (s < A.segments.length)) = false from by rw [Bool.and_eq_false_iff, decide_eq_false_iff_not, decide_eq_false_iff_not]; omega]
    rfl
theorem aGet_ok (hw : WS A.segments) (s a : Int) : m_arena_Arena_Get (some A) s a = some (if inB A.segments s a 1 = true then (wd A.segments s a, true) else (0, false)) := by
  unfold m_arena_Arena_Get
  rw [aHas_ok hw, Option.bind_some]
  cases h : inB A.segments s a 1 with
  | false => rfl
  | true =>
    have h' := inB_iff.1 h
    rw [Bool.not_true, cond_false, Option.bind_some, (seg_get h'.1 h'.2.1).1, Option.bind_some, (wd_get h).1]
    rfl
theorem aPart_ok (hw : WS A.segments) (s a n : Int) : m_arena_Arena_Part (some A) s a n = some (if inB A.segments s a n = true then (((seg A.segments s).drop a.toNat).take n.toNat, true) else ([], false)) := by
  have hl := seg_len hw s
  unfold m_arena_Arena_Part
  rw [aHas_ok hw, Option.bind_some]
  cases h : inB A.segments s a n with
  | false => rfl
  | true =>
    have h' := inB_iff.1 h
    rw [Bool.not_true, cond_false, Option.bind_some, (seg_get h'.1 h'.2.1).1, Option.bind_some, i64s (by omega) (by omega), subI_ok (by omega) (by omega) (by omega), Option.bind_some, show a + n - a = n by omega, sClone_ok (by rw [List.length_take, List.length_drop]; omega)]
    rfl
end
/-- a word's pointer -/
def dc (w : Int) : S_ptr_Ptr := decP w.toNat
theorem dc_ok {w : Int} (h : 0 ≤ w ∧ w < 18446744073709551616) : m_ptr_Decode w = some (dc w) := by
  have := decode_p w.toNat (by omega)
  rwa [show ((w.toNat : Nat) : Int) = w by omega] at this
theorem rdc_ok {w : Int} (h : 0 ≤ w ∧ w < 18446744073709551616) : m_centoref04_Decode w = some (dc w) := by
  have := rdecode_p w.toNat (by omega)
  rwa [show ((w.toNat : Nat) : Int) = w by omega] at this
/-- what a pointer's fields are at the most -/
structure PB (p : S_ptr_Ptr) : Prop where
  k : p.Kind = 0 ∨ p.Kind = 1 ∨ p.Kind = 2 ∨ p.Kind = 3 ∨ p.Kind = 4
  o : -536870912 ≤ p.Off ∧ p.Off < 536870912
  d : 0 ≤ p.Data ∧ p.Data < 65536
  q : 0 ≤ p.Ptrs ∧ p.Ptrs < 65536
  c : 0 ≤ p.Code ∧ p.Code < 8
  n : 0 ≤ p.Count ∧ p.Count < 536870912
  s : 0 ≤ p.Segment ∧ p.Segment < 4294967296
  f : p.Kind = 3 → 0 ≤ p.Off
  z : p.Kind = 0 ∨ p.Kind = 4 → p.Off = 0
theorem offN_rg (w : Nat) : -536870912 ≤ offN w ∧ offN w < 536870912 := by
  unfold offN
  split <;> omega
theorem dc_pb (w : Int) : PB (dc w) := by
  have ho := offN_rg w.toNat
  unfold dc decP
  split
  · exact ⟨.inl rfl, by simp, by simp, by simp, by simp, by simp, by simp, by simp, by simp⟩
  split
  · exact ⟨.inr (.inl rfl), ho, by simp only; omega, by simp only; omega, by simp, by simp, by simp, by simp, by simp⟩
  split
  · exact ⟨.inr (.inr (.inl rfl)), ho, by simp, by simp, by simp only; omega, by simp only; omega, by simp, by simp, by simp⟩
  split
  · exact ⟨.inr (.inr (.inr (.inl rfl))), by simp only; omega, by simp, by simp, by simp, by simp, by simp only; omega, fun _ => by simp only; omega, by simp⟩
  · exact ⟨.inr (.inr (.inr (.inr rfl))), by simp, by simp, by simp, by simp, by simp, by simp, by simp, by simp⟩
/-- how many bits a kid takes -/
def wdt (c : Int) : Int := if c = 0 then 0 else if c = 1 then 1 else if c = 2 then 8 else if c = 3 then 16 else if c = 4 then 32 else 64
/-- how many words something takes -/
def pw (p : S_ptr_Ptr) : Int := if p.Kind = 1 then p.Data + p.Ptrs else if p.Code = 7 then p.Count + 1 else (p.Count * wdt p.Code + 63) / 64
theorem c7 {c : Int} (h : 0 ≤ c ∧ c < 8) (h7 : ¬ c = 7) : c = 0 ∨ c = 1 ∨ c = 2 ∨ c = 3 ∨ c = 4 ∨ c = 5 ∨ c = 6 := by omega
theorem width_ok {c : Int} (h : 0 ≤ c ∧ c < 8) (h7 : ¬ c = 7) : m_ptr_width c = some (wdt c) := by
  unfold m_ptr_width
  rcases c7 h h7 with rfl | rfl | rfl | rfl | rfl | rfl | rfl <;> rfl
theorem pw_rg {p : S_ptr_Ptr} (h : PB p) : 0 ≤ pw p ∧ pw p ≤ 1073741824 := by
  have := h.d; have := h.q; have hn := h.n
  unfold pw
  split
  · omega
  split
  · omega
  · rename_i h7
    rcases c7 h.c h7 with q | q | q | q | q | q | q <;> rw [q] <;> unfold wdt <;> simp <;> omega
theorem words_ok {p : S_ptr_Ptr} (h : PB p) : m_ptr_Ptr_Words p = some (if p.Kind = 1 ∨ p.Kind = 2 then (pw p, true) else (0, false)) := by
  have hd := h.d; have hp := h.q; have hn := h.n
  unfold m_ptr_Ptr_Words pw
  by_cases k1 : p.Kind = 1
  · rw [show (p.Kind == 1) = true from by rw [k1]; rfl, cond_true, if_pos (.inl k1), if_pos k1, i64s (by omega) (by omega)]
  rw [show (p.Kind == 1) = false from ieqF k1, cond_false]
  by_cases k2 : p.Kind = 2
  · rw [show (p.Kind == 2) = true from by rw [k2]; rfl, cond_true, if_pos (.inr k2), if_neg k1]
    by_cases c7' : p.Code = 7
    · rw [show (p.Code == 7) = true from by rw [c7']; rfl, cond_true, if_pos c7', i64s (by omega) (by omega)]
    · rw [show (p.Code == 7) = false from ieqF c7', cond_false, if_neg c7', decide_eq_true h.c.1, show decide (p.Code < 7) = true from by rw [decide_eq_true_eq]; have := h.c; omega, decide_eq_true hn.1, show decide (p.Count ≤ 536870911) = true from by rw [decide_eq_true_eq]; omega]
      simp only [cond_true]
      rw [width_ok h.c c7', Option.bind_some]
      have hw : 0 ≤ wdt p.Code ∧ wdt p.Code ≤ 64 := by unfold wdt; repeat' split; all_goals omega
      have h1 : 0 ≤ p.Count * wdt p.Code := Int.mul_nonneg hn.1 hw.1
      have h2 : p.Count * wdt p.Code ≤ 536870912 * 64 := Int.mul_le_mul (by omega) hw.2 hw.1 (by omega)
      rw [i64s (x := p.Count * wdt p.Code) (by omega) (by omega), i64s (x := p.Count * wdt p.Code + 63) (by omega) (by omega), Int.tdiv_eq_ediv_of_nonneg (by omega), i64s (by omega) (by omega)]
  · rw [show (p.Kind == 2) = false from ieqF k2, if_neg (by omega)]
    rfl
theorem rwords_ok {p : S_ptr_Ptr} (h : PB p) (hk : p.Kind = 1 ∨ p.Kind = 2) : m_centoref04_Words p = some (pw p) := by
  have hd := h.d; have hp := h.q; have hn := h.n; have hc := h.c
  unfold m_centoref04_Words pw
  by_cases k1 : p.Kind = 1
  · rw [show (p.Kind == 1) = true from by rw [k1]; rfl, cond_true, if_pos k1, i64s (by omega) (by omega)]
  have k2 : p.Kind = 2 := by omega
  rw [show (p.Kind == 1) = false from ieqF k1, cond_false, show (p.Kind != 2) = false from by rw [k2]; rfl, cond_false, if_neg k1]
  by_cases c7' : p.Code = 7
  · rw [show (p.Code == 7) = true from by rw [c7']; rfl, cond_true, if_pos c7', i64s (by omega) (by omega)]
  rw [show (p.Code == 7) = false from ieqF c7', cond_false, if_neg c7', show decide (p.Code < 0) = false from by rw [decide_eq_false_iff_not]; omega, show decide (6 < p.Code) = false from by rw [decide_eq_false_iff_not]; omega, show decide (p.Count < 0) = false from by rw [decide_eq_false_iff_not]; omega, show decide (536870912 ≤ p.Count) = false from by rw [decide_eq_false_iff_not]; omega]
  simp only [cond_false]
  have hgen : ∀ (k : Int), 0 < k → (guardI (k ≠ 0)).bind (fun _ => cond (decide (0 < Int.tmod p.Count k)) ((guardI (k ≠ 0)).bind fun _ => some (IntKind.i64.wrap (IntKind.i64.wrap (Int.tdiv p.Count k) + 1))) ((guardI (k ≠ 0)).bind fun _ => some (IntKind.i64.wrap (Int.tdiv p.Count k)))) = some (if 0 < p.Count % k then p.Count / k + 1 else p.Count / k) := fun k hk => by
    have hne : k ≠ 0 := by omega
    have h0 : 0 ≤ p.Count / k := Int.ediv_nonneg hn.1 (by omega)
    have h1 : p.Count / k ≤ p.Count := Int.ediv_le_self _ hn.1
    rw [guardI_ok hne, Option.bind_some, Option.bind_some, Option.bind_some, Int.tmod_eq_emod_of_nonneg hn.1, Int.tdiv_eq_ediv_of_nonneg hn.1, i64s (x := p.Count / k) (by omega) (by omega), i64s (x := p.Count / k + 1) (by omega) (by omega)]
    by_cases q : 0 < p.Count % k
    · rw [if_pos q, decide_eq_true q, cond_true]
    · rw [if_neg q, decide_eq_false q, cond_false]
  have hgo : ∀ (k : Int), 0 < k → (if 0 < p.Count % k then p.Count / k + 1 else p.Count / k) = (p.Count + (k - 1)) / k := fun k hk => by
    have e := Int.emod_add_mul_ediv p.Count k
    have e1 := Int.emod_nonneg p.Count (show k ≠ 0 by omega)
    have e2 := Int.emod_lt_of_pos p.Count hk
    split
    · symm
      have : p.Count + (k - 1) = (p.Count % k - 1) + k * (p.Count / k + 1) := by rw [Int.mul_add]; omega
      rw [this, Int.add_mul_ediv_left _ _ (by omega), Int.ediv_eq_zero_of_lt (by omega) (by omega)]
      omega
    · symm
      have : p.Count + (k - 1) = (k - 1) + k * (p.Count / k) := by omega
      rw [this, Int.add_mul_ediv_left _ _ (by omega), Int.ediv_eq_zero_of_lt (by omega) (by omega)]
      omega
  rcases c7 h.c c7' with q | q | q | q | q | q | q
  · rw [show (p.Code == 0) = true from by rw [q]; rfl, cond_true, Option.bind_some, q]
    simp only [wdt, if_true, Int.mul_zero]
    rfl
  · rw [show (p.Code == 0) = false from by rw [q]; rfl, show (p.Code == 1) = true from by rw [q]; rfl, cond_false, cond_true, Option.bind_some]
    simp only
    rw [hgen 64 (by omega), hgo 64 (by omega), q]
    simp [wdt]
  · rw [show (p.Code == 0) = false from by rw [q]; rfl, show (p.Code == 1) = false from by rw [q]; rfl, show (p.Code == 2) = true from by rw [q]; rfl, cond_false, cond_false, cond_true, Option.bind_some]
    simp only
    rw [hgen 8 (by omega), hgo 8 (by omega), q]
    simp [wdt]
    omega
  · rw [show (p.Code == 0) = false from by rw [q]; rfl, show (p.Code == 1) = false from by rw [q]; rfl, show (p.Code == 2) = false from by rw [q]; rfl, show (p.Code == 3) = true from by rw [q]; rfl, cond_false, cond_false, cond_false, cond_true, Option.bind_some]
    simp only
    rw [hgen 4 (by omega), hgo 4 (by omega), q]
    simp [wdt]
    omega
  · rw [show (p.Code == 0) = false from by rw [q]; rfl, show (p.Code == 1) = false from by rw [q]; rfl, show (p.Code == 2) = false from by rw [q]; rfl, show (p.Code == 3) = false from by rw [q]; rfl, show (p.Code == 4) = true from by rw [q]; rfl, cond_false, cond_false, cond_false, cond_false, cond_true, Option.bind_some]
    simp only
    rw [hgen 2 (by omega), hgo 2 (by omega), q]
    simp [wdt]
    omega
  · rw [show (p.Code == 0) = false from by rw [q]; rfl, show (p.Code == 1) = false from by rw [q]; rfl, show (p.Code == 2) = false from by rw [q]; rfl, show (p.Code == 3) = false from by rw [q]; rfl, show (p.Code == 4) = false from by rw [q]; rfl, cond_false, cond_false, cond_false, cond_false, cond_false, Option.bind_some]
    simp only
    rw [hgen 1 (by omega), hgo 1 (by omega), q]
    simp [wdt]
    omega
  · rw [show (p.Code == 0) = false from by rw [q]; rfl, show (p.Code == 1) = false from by rw [q]; rfl, show (p.Code == 2) = false from by rw [q]; rfl, show (p.Code == 3) = false from by rw [q]; rfl, show (p.Code == 4) = false from by rw [q]; rfl, cond_false, cond_false, cond_false, cond_false, cond_false, Option.bind_some]
    simp only
    rw [hgen 1 (by omega), hgo 1 (by omega), q]
    simp [wdt]
    omega

/-- where nothing is pointed to -/
def l0 : S_far_Loc := ⟨⟨0, 0, 0, 0, 0, 0, 0, false⟩, 0, 0⟩
def off0 (p : S_ptr_Ptr) : S_ptr_Ptr := ⟨p.Kind, 0, p.Data, p.Ptrs, p.Code, p.Count, p.Segment, p.Double⟩
/-- what lies at a place, by its shape -/
def tgt (l : List (List Int)) (p : S_ptr_Ptr) (s a : Int) : S_far_Loc × Int :=
  if p.Kind = 4 then (l0, 9) else if p.Kind = 1 ∨ p.Kind = 2 then (if inB l s a (pw p) = true then (⟨off0 p, s, a⟩, 0) else (l0, 7)) else (l0, 8)
/-- what stands in a word, followed -/
def fol (l : List (List Int)) (s a : Int) : S_far_Loc × Int :=
  if inB l s a 1 = true then
    let p := dc (wd l s a)
    if p.Kind = 0 then (l0, 0)
    else if p.Kind = 3 ∧ p.Double = true then
      if inB l p.Segment p.Off 2 = true then
        let b := dc (wd l p.Segment p.Off)
        let q := dc (wd l p.Segment (p.Off + 1))
        if b.Kind = 3 ∧ b.Double = false then (if q.Kind ≠ 4 ∧ q.Off ≠ 0 then (l0, 8) else tgt l q b.Segment b.Off) else (l0, 8)
      else (l0, 7)
    else if p.Kind = 3 then
      if inB l p.Segment p.Off 1 = true then
        let q := dc (wd l p.Segment p.Off)
        tgt l q p.Segment (p.Off + 1 + q.Off)
      else (l0, 7)
    else tgt l p s (a + 1 + p.Off)
  else (l0, 7)
section
variable {A : S_arena_Arena}
theorem target_ok (hw : WS A.segments) {p : S_ptr_Ptr} (h : PB p) (s a : Int) : m_far_target (some A) p s a = some (tgt A.segments p s a) := by
  unfold m_far_target tgt
  by_cases k4 : p.Kind = 4
  · rw [show (p.Kind == 4) = true from by rw [k4]; rfl, if_pos k4]; rfl
  rw [show (p.Kind == 4) = false from ieqF k4, cond_false, if_neg k4, words_ok h, Option.bind_some]
  by_cases k : p.Kind = 1 ∨ p.Kind = 2
  · rw [if_pos k, if_pos k]
    simp only [Bool.not_true, cond_false]
    rw [aHas_ok hw, Option.bind_some]
    cases inB A.segments s a (pw p) <;> rfl
  · rw [if_neg k, if_neg k]
    rfl
theorem take2 {l : List (List Int)} {s a : Int} (h : inB l s a 2 = true) : ((seg l s).drop a.toNat).take (2 : Int).toNat = [wd l s a, wd l s (a + 1)] := by
  have h' := inB_iff.1 h
  have h1 : a.toNat < (seg l s).length := by omega
  have h2 : a.toNat + 1 < (seg l s).length := by omega
  unfold wd
  rw [show (a + 1).toNat = a.toNat + 1 by omega, List.getElem?_eq_getElem h1, List.getElem?_eq_getElem h2, show ((2 : Int).toNat) = 2 from rfl, List.drop_eq_getElem_cons h1, List.drop_eq_getElem_cons h2]
  rfl
theorem double_ok (hw : WS A.segments) (s a : Int) : m_far_double (some A) s a = some (if inB A.segments s a 2 = true then (if (dc (wd A.segments s a)).Kind = 3 ∧ (dc (wd A.segments s a)).Double = false then (if (dc (wd A.segments s (a + 1))).Kind ≠ 4 ∧ (dc (wd A.segments s (a + 1))).Off ≠ 0 then (l0, 8) else tgt A.segments (dc (wd A.segments s (a + 1))) (dc (wd A.segments s a)).Segment (dc (wd A.segments s a)).Off) else (l0, 8)) else (l0, 7)) := by
  unfold m_far_double
  rw [aPart_ok hw, Option.bind_some]
  cases h : inB A.segments s a 2 with
  | false => rfl
  | true =>
    simp only [if_true, Bool.not_true, cond_false]
    rw [take2 h]
    have g0 : getI [wd A.segments s a, wd A.segments s (a + 1)] 0 = some (wd A.segments s a) := rfl
    have g1 : getI [wd A.segments s a, wd A.segments s (a + 1)] 1 = some (wd A.segments s (a + 1)) := rfl
    rw [g0, Option.bind_some, dc_ok (wd_rg hw _ _), Option.bind_some, g1, Option.bind_some, dc_ok (wd_rg hw _ _), Option.bind_some]
    generalize dc (wd A.segments s a) = b
    have hq := dc_pb (wd A.segments s (a + 1))
    revert hq
    generalize dc (wd A.segments s (a + 1)) = q
    intro hq
    by_cases b3 : b.Kind = 3
    · rw [show (b.Kind != 3) = false from by rw [b3]; rfl, cond_false]
      cases bd : b.Double with
      | true => rw [cond_true, if_neg (by simp)]; rfl
      | false =>
        rw [cond_false, if_pos ⟨b3, rfl⟩]
        by_cases hq4 : q.Kind = 4
        · rw [show (q.Kind != 4) = false from by rw [hq4]; rfl, cond_false, cond_false, if_neg (by simp [hq4]), target_ok hw hq]
          rfl
        · rw [show (q.Kind != 4) = true from bne_iff_ne.2 hq4, cond_true]
          by_cases ho : q.Off = 0
          · rw [show (q.Off != 0) = false from by rw [ho]; rfl, cond_false, if_neg (by simp [ho]), target_ok hw hq]
            rfl
          · rw [show (q.Off != 0) = true from bne_iff_ne.2 ho, cond_true, if_pos ⟨hq4, ho⟩]
            rfl
    · rw [show (b.Kind != 3) = true from bne_iff_ne.2 b3, cond_true, cond_true, if_neg (by simp [b3])]
      rfl
theorem at_in {l : List (List Int)} (hw : WS l) {s a n : Int} (h : inB l s a n = true) : 0 ≤ a ∧ a ≤ 17592186044416 := by
  have h' := inB_iff.1 h
  have := seg_len hw s
  omega
theorem single_ok (hw : WS A.segments) (s a : Int) : m_far_single (some A) s a = some (if inB A.segments s a 1 = true then tgt A.segments (dc (wd A.segments s a)) s (a + 1 + (dc (wd A.segments s a)).Off) else (l0, 7)) := by
  unfold m_far_single
  rw [aGet_ok hw, Option.bind_some]
  cases h : inB A.segments s a 1 with
  | false => rfl
  | true =>
    have ha := at_in hw h
    have hq := dc_pb (wd A.segments s a)
    have ho := hq.o
    simp only [if_true, Bool.not_true, cond_false]
    rw [dc_ok (wd_rg hw _ _), Option.bind_some, i64s (x := a + 1) (by omega) (by omega), i64s (by omega) (by omega), target_ok hw hq]
    rfl
theorem follow_ok (hw : WS A.segments) (s a : Int) : m_far_Follow (some A) s a = some (fol A.segments s a) := by
  unfold m_far_Follow fol
  rw [aGet_ok hw, Option.bind_some]
  cases h : inB A.segments s a 1 with
  | false => rfl
  | true =>
    have ha := at_in hw h
    have hq := dc_pb (wd A.segments s a)
    have ho := hq.o
    simp only [if_true, Bool.not_true, cond_false]
    rw [dc_ok (wd_rg hw _ _), Option.bind_some]
    revert hq ho
    generalize dc (wd A.segments s a) = p
    intro hq ho
    by_cases k0 : p.Kind = 0
    · rw [show (p.Kind == 0) = true from by rw [k0]; rfl, cond_true, if_pos k0]; rfl
    rw [show (p.Kind == 0) = false from ieqF k0, cond_false, if_neg k0]
    by_cases k3 : p.Kind = 3
    · rw [show (p.Kind == 3) = true from by rw [k3]; rfl, cond_true, cond_true]
      cases hd : p.Double with
      | true => rw [cond_true, if_pos ⟨k3, rfl⟩, double_ok hw]; rfl
      | false => rw [cond_false, if_neg (by simp), if_pos k3, single_ok hw]; rfl
    · rw [show (p.Kind == 3) = false from ieqF k3, cond_false, cond_false, cond_false, if_neg (by simp [k3]), if_neg k3, i64s (x := a + 1) (by omega) (by omega), i64s (by omega) (by omega), target_ok hw hq]
      rfl
end
/-- the document's -/
def toR (x : S_far_Loc) : S_centoref06_Loc := ⟨x.P, x.Segment, x.At⟩
def toR2 (x : S_far_Loc × Int) : S_centoref06_Loc × Int := (toR x.1, x.2)
theorem rhas_ok {l : List (List Int)} (hw : WS l) (s a : Int) : m_centoref06_has l s a = some (inB l s a 1) := by
  have hl := seg_len hw s
  unfold m_centoref06_has inB
  by_cases h1 : 0 ≤ s
  · by_cases h2 : s < (l.length : Int)
    · by_cases h3 : 0 ≤ a
      · rw [(seg_get h1 h2).1]
        simp only [decide_eq_true h1, decide_eq_true h2, decide_eq_true h3, cond_true, Option.bind_some, Bool.true_and, show decide ((0 : Int) ≤ 1) = true from rfl]
        refine congrArg some ?_
        rw [Bool.eq_iff_iff, decide_eq_true_eq, decide_eq_true_eq]
        omega
      · rw [decide_eq_true h1, decide_eq_true h2, decide_eq_false h3]; rfl
    · rw [decide_eq_true h1, decide_eq_false h2]; rfl
  · rw [decide_eq_false h1]; rfl
theorem rwhole_ok {l : List (List Int)} (hw : WS l) {p : S_ptr_Ptr} (h : PB p) (hk : p.Kind = 1 ∨ p.Kind = 2) (s a : Int) : m_centoref06_whole l ⟨p, s, a⟩ = some (toR2 (if inB l s a (pw p) = true then (⟨off0 p, s, a⟩, 0) else (l0, 7))) := by
  have hl := seg_len hw s
  have hp := pw_rg h
  unfold m_centoref06_whole
  simp only
  rw [rwords_ok h hk, Option.bind_some]
  have key : ∀ b : Bool, inB l s a (pw p) = !b → (cond b (some ((⟨⟨0, 0, 0, 0, 0, 0, 0, false⟩, 0, 0⟩ : S_centoref06_Loc), (7 : Int))) (some ((⟨⟨p.Kind, 0, p.Data, p.Ptrs, p.Code, p.Count, p.Segment, p.Double⟩, s, a⟩ : S_centoref06_Loc), 0))) = some (toR2 (if inB l s a (pw p) = true then (⟨off0 p, s, a⟩, 0) else (l0, 7))) := fun b hb => by
    rw [hb]
    cases b <;> rfl
  have hin : ∀ b : Bool, (b = true ↔ ¬ (0 ≤ s ∧ s < l.length ∧ 0 ≤ a ∧ 0 ≤ pw p ∧ a + pw p ≤ (seg l s).length)) → inB l s a (pw p) = !b := fun b hb => by
    cases hq : inB l s a (pw p) with
    | true =>
      have := inB_iff.1 hq
      cases b with
      | false => rfl
      | true => exact absurd this (hb.1 rfl)
    | false =>
      cases b with
      | true => rfl
      | false =>
        have h2 : ¬ ¬ (0 ≤ s ∧ s < l.length ∧ 0 ≤ a ∧ 0 ≤ pw p ∧ a + pw p ≤ (seg l s).length) := fun q => by have := hb.2 q; cases this
        have h3 := inB_iff.2 (Classical.not_not.1 h2)
        rw [hq] at h3
        cases h3
  by_cases h1 : s < 0
  · rw [decide_eq_true h1, cond_true, Option.bind_some]
    exact key true (hin true ⟨fun _ => by omega, fun _ => rfl⟩)
  · rw [decide_eq_false h1, cond_false]
    by_cases h2 : (l.length : Int) ≤ s
    · rw [decide_eq_true h2, cond_true, Option.bind_some]
      exact key true (hin true ⟨fun _ => by omega, fun _ => rfl⟩)
    · rw [decide_eq_false h2, cond_false]
      by_cases h3 : a < 0
      · rw [decide_eq_true h3, cond_true, Option.bind_some]
        exact key true (hin true ⟨fun _ => by omega, fun _ => rfl⟩)
      · rw [decide_eq_false h3, cond_false, (seg_get (by omega) (by omega)).1, Option.bind_some]
        by_cases h4 : ((seg l s).length : Int) < a
        · rw [decide_eq_true h4, cond_true, Option.bind_some]
          exact key true (hin true ⟨fun _ => by omega, fun _ => rfl⟩)
        · rw [decide_eq_false h4, cond_false, cond_false, cond_false, cond_false, cond_false, Option.bind_some, i64s (by omega) (by omega)]
          exact key _ (hin _ (by rw [decide_eq_true_eq]; omega))
theorem rshape_ok {p : S_ptr_Ptr} : m_centoref06_shape p = some (if p.Kind = 4 then 9 else if p.Kind = 1 ∨ p.Kind = 2 then 0 else 8) := by
  unfold m_centoref06_shape
  by_cases k4 : p.Kind = 4
  · rw [show (p.Kind == 4) = true from by rw [k4]; rfl, if_pos k4]; rfl
  rw [show (p.Kind == 4) = false from ieqF k4, cond_false, if_neg k4]
  by_cases k1 : p.Kind = 1
  · rw [show (p.Kind != 1) = false from by rw [k1]; rfl, if_pos (.inl k1)]; rfl
  · rw [show (p.Kind != 1) = true from bne_iff_ne.2 k1, cond_true]
    by_cases k2 : p.Kind = 2
    · rw [show (p.Kind != 2) = false from by rw [k2]; rfl, if_pos (.inr k2)]; rfl
    · rw [show (p.Kind != 2) = true from bne_iff_ne.2 k2, if_neg (by omega)]; rfl
/-- what is at a place, by the document -/
theorem rend_ok {l : List (List Int)} (hw : WS l) {p : S_ptr_Ptr} (h : PB p) (s a : Int) {k : Int → Option (S_centoref06_Loc × Int)} (hk : k = fun y => cond (y != 0) (some ((⟨⟨0, 0, 0, 0, 0, 0, 0, false⟩, 0, 0⟩ : S_centoref06_Loc), y)) ((m_centoref06_whole l ⟨p, s, a⟩).bind fun y => some (y.1, y.2))) : (m_centoref06_shape p).bind k = some (toR2 (tgt l p s a)) := by
  subst hk
  rw [rshape_ok, Option.bind_some]
  unfold tgt
  by_cases k4 : p.Kind = 4
  · rw [if_pos k4, if_pos k4]; rfl
  rw [if_neg k4, if_neg k4]
  by_cases k : p.Kind = 1 ∨ p.Kind = 2
  · rw [if_pos k, if_pos k, show ((0 : Int) != 0) = false from rfl, cond_false, rwhole_ok hw h k, Option.bind_some]
  · rw [if_neg k, if_neg k]; rfl
theorem ptr_mk (p : S_ptr_Ptr) : (⟨p.Kind, p.Off, p.Data, p.Ptrs, p.Code, p.Count, p.Segment, p.Double⟩ : S_ptr_Ptr) = p := by cases p; rfl
theorem has2 {l : List (List Int)} {s a : Int} (h0 : 0 ≤ a) : inB l s a 2 = (inB l s a 1 && inB l s (a + 1) 1) := by
  rw [Bool.eq_iff_iff, Bool.and_eq_true, inB_iff, inB_iff, inB_iff]
  omega
theorem rfollow_ok {l : List (List Int)} (hw : WS l) (s a : Int) : m_centoref06_Follow l s a = some (toR2 (fol l s a)) := by
  unfold m_centoref06_Follow fol
  rw [rhas_ok hw, Option.bind_some]
  cases h : inB l s a 1 with
  | false => rfl
  | true =>
    have h' := inB_iff.1 h
    have ha := at_in hw h
    have hq := dc_pb (wd l s a)
    simp only [if_true, Bool.not_true, cond_false]
    rw [(seg_get h'.1 h'.2.1).1, Option.bind_some, (wd_get h).1, Option.bind_some, rdc_ok (wd_rg hw _ _), Option.bind_some]
    revert hq
    generalize dc (wd l s a) = p
    intro hq
    have ho := hq.o
    by_cases k0 : p.Kind = 0
    · rw [show (p.Kind == 0) = true from by rw [k0]; rfl, cond_true, if_pos k0]; rfl
    rw [show (p.Kind == 0) = false from ieqF k0, cond_false, if_neg k0]
    by_cases k3 : p.Kind = 3
    · have hf := hq.f k3
      rw [show (p.Kind == 3) = true from by rw [k3]; rfl, cond_true, cond_true, if_pos k3]
      cases hd : p.Double with
      | true =>
        rw [cond_true, if_pos ⟨k3, rfl⟩, rhas_ok hw, Option.bind_some, i64s (by omega) (by omega), rhas_ok hw]
        have h2 := has2 (l := l) (s := p.Segment) hf
        cases b1 : inB l p.Segment p.Off 1 with
        | false =>
          rw [h2, b1]
          rfl
        | true =>
          rw [cond_true, Option.bind_some, Option.bind_some, Bool.not_true, cond_false, h2, b1, Bool.true_and]
          cases b2 : inB l p.Segment (p.Off + 1) 1 with
          | false => rfl
          | true =>
            have b1' := inB_iff.1 b1
            rw [Bool.not_true, cond_false, (seg_get b1'.1 b1'.2.1).1, Option.bind_some, (wd_get b1).1, Option.bind_some, rdc_ok (wd_rg hw _ _), Option.bind_some, (wd_get b2).1, Option.bind_some, rdc_ok (wd_rg hw _ _), Option.bind_some]
            simp only [if_true]
            generalize dc (wd l p.Segment p.Off) = b
            have hq2 := dc_pb (wd l p.Segment (p.Off + 1))
            revert hq2
            generalize dc (wd l p.Segment (p.Off + 1)) = q
            intro hq2
            by_cases b3 : b.Kind = 3
            · rw [show (b.Kind != 3) = false from by rw [b3]; rfl, cond_false]
              cases bd : b.Double with
              | true => rw [cond_true, if_neg (by simp)]; rfl
              | false =>
                rw [cond_false, if_pos ⟨b3, rfl⟩]
                by_cases ho' : q.Off = 0
                · rw [if_neg (by simp [ho'])]
                  refine rend_ok hw hq2 b.Segment b.Off ?_
                  funext y
                  rw [show (q.Off != 0) = false from by rw [ho']; rfl]
                  cases (y == 0) <;> rfl
                · rw [rshape_ok, Option.bind_some, show (q.Off != 0) = true from bne_iff_ne.2 ho']
                  by_cases hq4 : q.Kind = 4
                  · exact absurd (hq2.z (.inr hq4)) ho'
                  · by_cases hk : q.Kind = 1 ∨ q.Kind = 2
                    · rw [if_neg hq4, if_pos hk, if_pos ⟨hq4, ho'⟩]; rfl
                    · rw [if_neg hq4, if_neg hk, if_pos ⟨hq4, ho'⟩]; rfl
            · rw [show (b.Kind != 3) = true from bne_iff_ne.2 b3, cond_true, cond_true, if_neg (by simp [b3])]
              rfl
      | false =>
        rw [cond_false, if_neg (by simp), rhas_ok hw, Option.bind_some]
        cases b1 : inB l p.Segment p.Off 1 with
        | false => rfl
        | true =>
          have b1' := inB_iff.1 b1
          rw [Bool.not_true, cond_false, (seg_get b1'.1 b1'.2.1).1, Option.bind_some, (wd_get b1).1, Option.bind_some, rdc_ok (wd_rg hw _ _), Option.bind_some, Option.bind_some]
          have hq2 := dc_pb (wd l p.Segment p.Off)
          have ho2 := hq2.o
          have ha2 := at_in hw b1
          simp only [ptr_mk]
          rw [i64s (x := p.Off + 1) (by omega) (by omega), i64s (by omega) (by omega)]
          exact rend_ok hw hq2 _ _ rfl
    · rw [show (p.Kind == 3) = false from ieqF k3, cond_false, cond_false, cond_false, if_neg (by simp [k3]), if_neg k3, Option.bind_some]
      simp only [ptr_mk]
      rw [i64s (x := a + 1) (by omega) (by omega), i64s (by omega) (by omega)]
      exact rend_ok hw hq _ _ rfl

theorem ws_one (l : List Int) (h : ∀ w ∈ l, 0 ≤ w ∧ w < 18446744073709551616) (hl : l.length * 8 ≤ 140737488355328) : WS [l] :=
  ⟨by simp, fun x hx => by rw [List.mem_singleton] at hx; subst hx; exact hl, fun x hx => by rw [List.mem_singleton] at hx; subst hx; exact h⟩
theorem tgt_or {l : List (List Int)} {p : S_ptr_Ptr} (h : PB p) {s a : Int} : ((tgt l p s a).2 ≠ 0 ∧ (tgt l p s a).1 = l0) ∨ ((tgt l p s a).2 = 0 ∧ (p.Kind = 1 ∨ p.Kind = 2) ∧ (tgt l p s a).1 = ⟨off0 p, s, a⟩ ∧ inB l s a (pw p) = true) := by
  unfold tgt
  by_cases k4 : p.Kind = 4
  · rw [if_pos k4]; exact .inl ⟨by simp, rfl⟩
  rw [if_neg k4]
  by_cases k : p.Kind = 1 ∨ p.Kind = 2
  · rw [if_pos k]
    by_cases hi : inB l s a (pw p) = true
    · rw [if_pos hi]; exact .inr ⟨rfl, k, rfl, hi⟩
    · rw [if_neg hi]; exact .inl ⟨by simp, rfl⟩
  · rw [if_neg k]; exact .inl ⟨by simp, rfl⟩
theorem off0_pb {p : S_ptr_Ptr} (h : PB p) : PB (off0 p) := ⟨h.k, by simp [off0], h.d, h.q, h.c, h.n, h.s, fun _ => by simp [off0], fun _ => rfl⟩
/-- what is told -/
theorem fol_or (l : List (List Int)) (s a : Int) : ((fol l s a).1 = l0) ∨ ((fol l s a).2 = 0 ∧ ∃ p s' a', PB p ∧ p.Off = 0 ∧ (p.Kind = 1 ∨ p.Kind = 2) ∧ (fol l s a).1 = ⟨p, s', a'⟩ ∧ inB l s' a' (pw p) = true) := by
  have key : ∀ (w s a : Int), ((tgt l (dc w) s a).1 = l0) ∨ ((tgt l (dc w) s a).2 = 0 ∧ ∃ p s' a', PB p ∧ p.Off = 0 ∧ (p.Kind = 1 ∨ p.Kind = 2) ∧ (tgt l (dc w) s a).1 = ⟨p, s', a'⟩ ∧ inB l s' a' (pw p) = true) := fun w s a => by
    rcases tgt_or (l := l) (dc_pb w) (s := s) (a := a) with h | ⟨h1, h2, h3, h4⟩
    · exact .inl h.2
    · exact .inr ⟨h1, off0 (dc w), s, a, off0_pb (dc_pb w), rfl, h2, h3, h4⟩
  unfold fol
  by_cases h : inB l s a 1 = true
  · rw [if_pos h]
    simp only
    split
    · exact .inl rfl
    split
    · split
      · split
        · split
          · exact .inl rfl
          · exact key _ _ _
        · exact .inl rfl
      · exact .inl rfl
    split
    · split
      · exact key _ _ _
      · exact .inl rfl
    · exact key _ _ _
  · rw [if_neg h]; exact .inl rfl
/-- nothing -/
def r0 : S_reader_Ref := ⟨none, 0, 0, 0, 0, 0, 0, 0, 0⟩
def kidsN (r : S_reader_Ref) : Int := if r.kind = 1 then r.ptrs else r.count
/-- what a word means, where it lies -/
def atR (A : S_arena_Arena) (s a : Int) : S_reader_Ref × Int :=
  let x := fol A.segments s a
  if x.2 ≠ 0 ∨ x.1.P.Kind = 0 then (r0, x.2)
  else if x.1.P.Kind = 1 then (⟨some A, 1, x.1.Segment, x.1.At, x.1.P.Data, x.1.P.Ptrs, 0, 0, 0⟩, 0)
  else if x.1.P.Code = 7 then
    let t := dc (wd A.segments x.1.Segment x.1.At)
    if (t.Kind ≠ 0 ∧ t.Kind ≠ 1) ∨ t.Off < 0 ∨ x.1.P.Count < t.Off * (t.Data + t.Ptrs) then (r0, 8)
    else (⟨some A, 9, x.1.Segment, x.1.At, t.Data, t.Ptrs, t.Off, 0, 0⟩, 0)
  else (⟨some A, x.1.P.Code + 2, x.1.Segment, x.1.At, 0, 0, x.1.P.Count, 0, 0⟩, 0)
/-- a value that can be come by -/
inductive OKr (A : S_arena_Arena) : S_reader_Ref → Prop
  | z : OKr A r0
  | st (s a d p : Int) (hd : 0 ≤ d ∧ d < 65536) (hp : 0 ≤ p ∧ p < 65536) (hi : inB A.segments s a (d + p) = true) : OKr A ⟨some A, 1, s, a, d, p, 0, 0, 0⟩
  | li (k s a n : Int) (hk : 2 ≤ k ∧ k ≤ 8) (hn : 0 ≤ n ∧ n < 536870912) (hi : inB A.segments s a ((n * wdt (k - 2) + 63) / 64) = true) : OKr A ⟨some A, k, s, a, 0, 0, n, 0, 0⟩
  | co (s a d p n : Int) (hd : 0 ≤ d ∧ d < 65536) (hp : 0 ≤ p ∧ p < 65536) (hn : 0 ≤ n ∧ n < 536870912) (hw : 0 ≤ n * (d + p) ∧ n * (d + p) < 536870912) (hi : inB A.segments s a (n * (d + p) + 1) = true) : OKr A ⟨some A, 9, s, a, d, p, n, 0, 0⟩
  | at_ (s a c i n : Int) (hc : 0 ≤ c ∧ c ≤ 5) (h0 : 0 ≤ i) (h1 : i < n) (hn : n < 536870912) (hi : inB A.segments s a ((n * wdt c + 63) / 64) = true) : OKr A ⟨some A, 10, s, a, 0, 0, 0, c, i⟩

end Go.Proofs.Ytpfbdlcnfekdkaa
