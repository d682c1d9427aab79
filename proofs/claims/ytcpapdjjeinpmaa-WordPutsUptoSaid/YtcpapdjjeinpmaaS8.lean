/- Lemmas and contracts used by the proofs of this seat's laws (part S8); each theorem bears its own conditions. -/
import Derived.Test.YtcpapdjjeinpmaaRows
import Derived.Test.YtcpapdjjeinpmaaNum
import Derived.Test.YtcpapdjjeinpmaaMem
import Derived.Test.YtcpapdjjeinpmaaWordB
import Derived.Test.YtcpapdjjeinpmaaS2
import Derived.Test.YtcpapdjjeinpmaaS3
import Derived.Test.YtcpapdjjeinpmaaS4
import Derived.Test.YtcpapdjjeinpmaaS6
import Derived.Test.YtcpapdjjeinpmaaS7
import Derived.WalkKit
import Derived.WalkSpells
import Derived.WalkLawsBesides
import Derived.Lib.Hide
import Derived.BigQuiet
import Derived.StillTailTactics
import Derived.Deep.QuietTactic
namespace Go.Proofs.Ytcpapdjjeinpmaa
open Go.RowKit
set_option linter.unusedVariables false

/-- numbers put in words, or one does not fit -/
def PutP (W : Nat) (l : List Nat) (w : World) (e : Ending) (w' : World) : Prop :=
  (fitAll W l l.length = true ∧ RetW (putN W l) w e w') ∨ (fitAll W l l.length = false ∧ e = .returned (.tuple #[.slice none 0 0, .bool false]) ∧ Below w.heap.size w w')

set_option maxHeartbeats 2000000 in
theorem rput_1 (l : List Nat) (B cp : Nat) (A : Option Addr) (w : World) (hA : RdS w B A (u64s l)) (hB : B ≤ w.heap.size) (h64 : ∀ n ∈ l, W64 n) (hm : l.length ≤ 1099511627776) :
    Calls Try.prog 36 #[.int .i64 1, .slice A l.length cp] w (PutP 1 l w) := by
  have hmk := make64 (roomN 1 l.length) (by unfold roomN; omega)
  go_enter Try.func36, Try.ntmps36
  go_wp2_with fail
  refine (rwidth_1 _).mono ?_
  rintro e w1 ⟨rfl, rfl⟩
  go_wp2_with fail
  refine (rroom_1 l.length _ hm).mono ?_
  rintro e w1 ⟨rfl, rfl⟩
  have hR : ∀ k : Nat, k < l.length → k / 64 < roomN 1 l.length := by intro k hk; unfold roomN; omega
  have hput : putN 1 l = (List.range (roomN 1 l.length)).map (putAt 1 l l.length) := rfl
  have hlen : (putN 1 l).length = roomN 1 l.length := by simp [putN]
  generalize roomN 1 l.length = R at *
  have HP := Lib.hid hput
  have HN := Lib.hid hlen
  have HR := Lib.hid hR
  clear hput hlen hR
  go_wp2
  go_loopw [8, 9, 10] (fun i _ _ wr => ∃ k : Nat, k ≤ l.length ∧ i = .int .i64 k ∧ fitAll 1 l k = true ∧ OwnW wr w.heap.size R (putAt 1 l k) ∧ Below w.heap.size w wr) (fun i _ _ _ => l.length - (intOf i).toNat)
  case atStart => exact ⟨0, by omega, rfl, fitAll_zero _ _, OwnW.made _ _ _, (Below.refl _ _).alloc (Nat.le_refl _) _⟩
  case round =>
    obtain ⟨k, hk, rfl, hfk, hown, hbr⟩ := hrel
    by_cases hlt : k < l.length
    · obtain ⟨g, off, rfl, hg, hc⟩ := Rd64.at_ hA hlt
      have hx := (bcell hbr (o := off + k) (Nat.lt_of_lt_of_le hg hB)).trans hc
      have hi1 : (k : Int) < (l.length : Int) := by omega
      have h64k : W64 (l.getD k 0) := by rw [getD_lt hlt]; exact h64 _ (List.getElem_mem hlt)
      have H64 := Lib.hid h64
      have H64k := Lib.hid h64k
      have HA := Lib.hid hA
      have HFK := Lib.hid hfk
      have HOW := Lib.hid hown
      clear hA h64 h64k hc hg hfk hown
      by_cases hfit : l.getD k 0 < 2 ^ 1
      · have hf1 : fitAll 1 l (k + 1) = true := by rw [fitAll_succ _ _ _ hlt, HFK.out, decide_eq_true hfit]; rfl
        have hst := put_step' 1 (by decide) l k hlt hf1
        rw [Nat.mul_one] at hst
        have hs : k % 64 = (k % 64) := by omega
        have hcell := HOW.out.cell (k / 64) (HR.out k hlt)
        have hfree := HOW.out.free (k / 64)
        have hidx : (k : Int) / 64 < (R : Int) := by have := HR.out k hlt; omega
        have hidx0 : 0 ≤ (k : Int) / 64 := by omega
        have hst' : ∀ j, putAt 1 l (k + 1) j = if j = k / 64 then putAt 1 l k (k / 64) + l.getD k 0 * 2 ^ (k % 64) else putAt 1 l k j := fun j => by
          simp only [putAt, Nat.mul_one]
          by_cases e : k / 64 = j
          · subst e; rw [if_pos rfl, if_pos rfl]
          · rw [if_neg e, if_neg (fun h => e h.symm), Nat.add_zero]
        have HST := Lib.hid hst'
        have HS := Lib.hid hst
        have HF1 := Lib.hid hf1
        have HK := Lib.hid hfit
        clear hst' hst hf1 hfit
        generalize hxx : l.getD k 0 = x at *
        have HXX := Lib.hid hxx
        clear hxx
        generalize hpp : putAt 1 l k (k / 64) = p at *
        have HPP := Lib.hid hpp
        clear hpp
        have HSE := Lib.hid hs
        clear hs
        go_wp2_with fail
        refine (rfits_ok 1 x _ (by decide) (by decide) H64k.out).mono ?_
        rintro e w1 ⟨rfl, rfl⟩
        rw [show decide (x < 2 ^ widthOf (Int.toNat 1)) = true from decide_eq_true HK.out]
        go_wp2
        go_loop [9, 10] (fun v i => ∃ j : Nat, j ≤ k % 64 ∧ i = .int .i64 j ∧ v = .int .u64 (x * 2 ^ j : Nat)) (fun _ i => k % 64 - (intOf i).toNat)
        case atStart => exact ⟨0, by omega, rfl, by simp⟩
        case round =>
          obtain ⟨j, hj, rfl, rfl⟩ := hrel
          have hxj : x * 2 ^ j ≤ x * 2 ^ (k % 64) := Nat.mul_le_mul_left _ (Nat.pow_le_pow_right (by decide) hj)
          have hxb : x * 2 ^ (k % 64) + p ≤ 18446744073709551615 := by have := HS.out.2; omega
          have hpw : x * 2 ^ (j + 1) = x * 2 ^ j * 2 := by rw [Nat.pow_succ, Nat.mul_assoc]
          by_cases hjl : j < k % 64
          · have hxj1 : x * 2 ^ (j + 1) ≤ x * 2 ^ (k % 64) := Nat.mul_le_mul_left _ (Nat.pow_le_pow_right (by decide) hjl)
            have hq2 : x * 2 ^ j * 2 ≤ 18446744073709551615 := by omega
            have HW := Lib.hid hpw
            clear hpw hxj hxj1 hxb
            generalize x * 2 ^ j = q at *
            go_wp2
            go_round
            case rel => exact ⟨j + 1, by omega, by go_num, by rw [HW.out]; go_num⟩
            case measure => simp [intOf]; omega
          · obtain rfl : j = k % 64 := by omega
            clear hpw hxj
            generalize hqq : x * 2 ^ (k % 64) = q at *
            have HQQ := Lib.hid hqq
            clear hqq
            go_wp2
            go_roundw
            case rel => exact ⟨k + 1, by omega, by go_num, HF1.out, (HOW.out.set (i := k / 64) (v := p + q)).congr HST.out, hbr.setCell (Nat.le_refl _) _⟩
            case measure => simp [intOf]; omega
      · have hfa : fitAll 1 l l.length = false := fitAll_mono hlt hfit
        have HFA := Lib.hid hfa
        have HK := Lib.hid hfit
        clear hfa hfit
        generalize l.getD k 0 = x at *
        go_wp2_with fail
        refine (rfits_ok 1 x _ (by decide) (by decide) H64k.out).mono ?_
        rintro e w1 ⟨rfl, rfl⟩
        rw [show decide (x < 2 ^ widthOf (Int.toNat 1)) = false from decide_eq_false HK.out]
        go_wp2
        go_ret2
        exact .inr ⟨HFA.out, rfl, hbr⟩
    · obtain rfl : k = l.length := by omega
      have HFK := Lib.hid hfk
      have HOW := Lib.hid hown
      clear hfk hown
      go_wp2
      go_ret2
      exact .inl ⟨HFK.out, _, R, by rw [HN.out]; rfl, Nat.le_of_eq HN.out, by rw [HP.out]; exact HOW.out.rd, hbr⟩

set_option maxHeartbeats 2000000 in
theorem rput_2 (l : List Nat) (B cp : Nat) (A : Option Addr) (w : World) (hA : RdS w B A (u64s l)) (hB : B ≤ w.heap.size) (h64 : ∀ n ∈ l, W64 n) (hm : l.length ≤ 1099511627776) :
    Calls Try.prog 36 #[.int .i64 2, .slice A l.length cp] w (PutP 8 l w) := by
  have hmk := make64 (roomN 8 l.length) (by unfold roomN; omega)
  go_enter Try.func36, Try.ntmps36
  go_wp2_with fail
  refine (rwidth_2 _).mono ?_
  rintro e w1 ⟨rfl, rfl⟩
  go_wp2_with fail
  refine (rroom_2 l.length _ hm).mono ?_
  rintro e w1 ⟨rfl, rfl⟩
  have hR : ∀ k : Nat, k < l.length → k * 8 / 64 < roomN 8 l.length := by intro k hk; unfold roomN; omega
  have hput : putN 8 l = (List.range (roomN 8 l.length)).map (putAt 8 l l.length) := rfl
  have hlen : (putN 8 l).length = roomN 8 l.length := by simp [putN]
  generalize roomN 8 l.length = R at *
  have HP := Lib.hid hput
  have HN := Lib.hid hlen
  have HR := Lib.hid hR
  clear hput hlen hR
  go_wp2
  go_loopw [8, 9, 10] (fun i _ _ wr => ∃ k : Nat, k ≤ l.length ∧ i = .int .i64 k ∧ fitAll 8 l k = true ∧ OwnW wr w.heap.size R (putAt 8 l k) ∧ Below w.heap.size w wr) (fun i _ _ _ => l.length - (intOf i).toNat)
  case atStart => exact ⟨0, by omega, rfl, fitAll_zero _ _, OwnW.made _ _ _, (Below.refl _ _).alloc (Nat.le_refl _) _⟩
  case round =>
    obtain ⟨k, hk, rfl, hfk, hown, hbr⟩ := hrel
    by_cases hlt : k < l.length
    · obtain ⟨g, off, rfl, hg, hc⟩ := Rd64.at_ hA hlt
      have hx := (bcell hbr (o := off + k) (Nat.lt_of_lt_of_le hg hB)).trans hc
      have hi1 : (k : Int) < (l.length : Int) := by omega
      have h64k : W64 (l.getD k 0) := by rw [getD_lt hlt]; exact h64 _ (List.getElem_mem hlt)
      have H64 := Lib.hid h64
      have H64k := Lib.hid h64k
      have HA := Lib.hid hA
      have HFK := Lib.hid hfk
      have HOW := Lib.hid hown
      clear hA h64 h64k hc hg hfk hown
      by_cases hfit : l.getD k 0 < 2 ^ 8
      · have hf1 : fitAll 8 l (k + 1) = true := by rw [fitAll_succ _ _ _ hlt, HFK.out, decide_eq_true hfit]; rfl
        have hst := put_step' 8 (by decide) l k hlt hf1
        have hs : k * 8 % 64 = (k % 8 * 8) := by omega
        have hcell := HOW.out.cell (k * 8 / 64) (HR.out k hlt)
        have hfree := HOW.out.free (k * 8 / 64)
        have hidx : (k : Int) * 8 / 64 < (R : Int) := by have := HR.out k hlt; omega
        have hidx0 : 0 ≤ (k : Int) * 8 / 64 := by omega
        have hst' : ∀ j, putAt 8 l (k + 1) j = if j = k * 8 / 64 then putAt 8 l k (k * 8 / 64) + l.getD k 0 * 2 ^ (k * 8 % 64) else putAt 8 l k j := fun j => by
          simp only [putAt]
          by_cases e : k * 8 / 64 = j
          · subst e; rw [if_pos rfl, if_pos rfl]
          · rw [if_neg e, if_neg (fun h => e h.symm), Nat.add_zero]
        have HST := Lib.hid hst'
        have HS := Lib.hid hst
        have HF1 := Lib.hid hf1
        have HK := Lib.hid hfit
        clear hst' hst hf1 hfit
        generalize hxx : l.getD k 0 = x at *
        have HXX := Lib.hid hxx
        clear hxx
        generalize hpp : putAt 8 l k (k * 8 / 64) = p at *
        have HPP := Lib.hid hpp
        clear hpp
        have HSE := Lib.hid hs
        clear hs
        go_wp2_with fail
        refine (rfits_ok 2 x _ (by decide) (by decide) H64k.out).mono ?_
        rintro e w1 ⟨rfl, rfl⟩
        rw [show decide (x < 2 ^ widthOf (Int.toNat 2)) = true from decide_eq_true HK.out]
        go_wp2
        go_loop [9, 10] (fun v i => ∃ j : Nat, j ≤ k * 8 % 64 ∧ i = .int .i64 j ∧ v = .int .u64 (x * 2 ^ j : Nat)) (fun _ i => k * 8 % 64 - (intOf i).toNat)
        case atStart => exact ⟨0, by omega, rfl, by simp⟩
        case round =>
          obtain ⟨j, hj, rfl, rfl⟩ := hrel
          have hxj : x * 2 ^ j ≤ x * 2 ^ (k * 8 % 64) := Nat.mul_le_mul_left _ (Nat.pow_le_pow_right (by decide) hj)
          have hxb : x * 2 ^ (k * 8 % 64) + p ≤ 18446744073709551615 := by have := HS.out.2; omega
          have hpw : x * 2 ^ (j + 1) = x * 2 ^ j * 2 := by rw [Nat.pow_succ, Nat.mul_assoc]
          by_cases hjl : j < k * 8 % 64
          · have hxj1 : x * 2 ^ (j + 1) ≤ x * 2 ^ (k * 8 % 64) := Nat.mul_le_mul_left _ (Nat.pow_le_pow_right (by decide) hjl)
            have hq2 : x * 2 ^ j * 2 ≤ 18446744073709551615 := by omega
            have HW := Lib.hid hpw
            clear hpw hxj hxj1 hxb
            generalize x * 2 ^ j = q at *
            go_wp2
            go_round
            case rel => exact ⟨j + 1, by omega, by go_num, by rw [HW.out]; go_num⟩
            case measure => simp [intOf]; omega
          · obtain rfl : j = k * 8 % 64 := by omega
            clear hpw hxj
            generalize hqq : x * 2 ^ (k * 8 % 64) = q at *
            have HQQ := Lib.hid hqq
            clear hqq
            go_wp2
            go_roundw
            case rel => exact ⟨k + 1, by omega, by go_num, HF1.out, (HOW.out.set (i := k * 8 / 64) (v := p + q)).congr HST.out, hbr.setCell (Nat.le_refl _) _⟩
            case measure => simp [intOf]; omega
      · have hfa : fitAll 8 l l.length = false := fitAll_mono hlt hfit
        have HFA := Lib.hid hfa
        have HK := Lib.hid hfit
        clear hfa hfit
        generalize l.getD k 0 = x at *
        go_wp2_with fail
        refine (rfits_ok 2 x _ (by decide) (by decide) H64k.out).mono ?_
        rintro e w1 ⟨rfl, rfl⟩
        rw [show decide (x < 2 ^ widthOf (Int.toNat 2)) = false from decide_eq_false HK.out]
        go_wp2
        go_ret2
        exact .inr ⟨HFA.out, rfl, hbr⟩
    · obtain rfl : k = l.length := by omega
      have HFK := Lib.hid hfk
      have HOW := Lib.hid hown
      clear hfk hown
      go_wp2
      go_ret2
      exact .inl ⟨HFK.out, _, R, by rw [HN.out]; rfl, Nat.le_of_eq HN.out, by rw [HP.out]; exact HOW.out.rd, hbr⟩

set_option maxHeartbeats 2000000 in
theorem rput_3 (l : List Nat) (B cp : Nat) (A : Option Addr) (w : World) (hA : RdS w B A (u64s l)) (hB : B ≤ w.heap.size) (h64 : ∀ n ∈ l, W64 n) (hm : l.length ≤ 1099511627776) :
    Calls Try.prog 36 #[.int .i64 3, .slice A l.length cp] w (PutP 16 l w) := by
  have hmk := make64 (roomN 16 l.length) (by unfold roomN; omega)
  go_enter Try.func36, Try.ntmps36
  go_wp2_with fail
  refine (rwidth_3 _).mono ?_
  rintro e w1 ⟨rfl, rfl⟩
  go_wp2_with fail
  refine (rroom_3 l.length _ hm).mono ?_
  rintro e w1 ⟨rfl, rfl⟩
  have hR : ∀ k : Nat, k < l.length → k * 16 / 64 < roomN 16 l.length := by intro k hk; unfold roomN; omega
  have hput : putN 16 l = (List.range (roomN 16 l.length)).map (putAt 16 l l.length) := rfl
  have hlen : (putN 16 l).length = roomN 16 l.length := by simp [putN]
  generalize roomN 16 l.length = R at *
  have HP := Lib.hid hput
  have HN := Lib.hid hlen
  have HR := Lib.hid hR
  clear hput hlen hR
  go_wp2
  go_loopw [8, 9, 10] (fun i _ _ wr => ∃ k : Nat, k ≤ l.length ∧ i = .int .i64 k ∧ fitAll 16 l k = true ∧ OwnW wr w.heap.size R (putAt 16 l k) ∧ Below w.heap.size w wr) (fun i _ _ _ => l.length - (intOf i).toNat)
  case atStart => exact ⟨0, by omega, rfl, fitAll_zero _ _, OwnW.made _ _ _, (Below.refl _ _).alloc (Nat.le_refl _) _⟩
  case round =>
    obtain ⟨k, hk, rfl, hfk, hown, hbr⟩ := hrel
    by_cases hlt : k < l.length
    · obtain ⟨g, off, rfl, hg, hc⟩ := Rd64.at_ hA hlt
      have hx := (bcell hbr (o := off + k) (Nat.lt_of_lt_of_le hg hB)).trans hc
      have hi1 : (k : Int) < (l.length : Int) := by omega
      have h64k : W64 (l.getD k 0) := by rw [getD_lt hlt]; exact h64 _ (List.getElem_mem hlt)
      have H64 := Lib.hid h64
      have H64k := Lib.hid h64k
      have HA := Lib.hid hA
      have HFK := Lib.hid hfk
      have HOW := Lib.hid hown
      clear hA h64 h64k hc hg hfk hown
      by_cases hfit : l.getD k 0 < 2 ^ 16
      · have hf1 : fitAll 16 l (k + 1) = true := by rw [fitAll_succ _ _ _ hlt, HFK.out, decide_eq_true hfit]; rfl
        have hst := put_step' 16 (by decide) l k hlt hf1
        have hs : k * 16 % 64 = (k % 4 * 16) := by omega
        have hcell := HOW.out.cell (k * 16 / 64) (HR.out k hlt)
        have hfree := HOW.out.free (k * 16 / 64)
        have hidx : (k : Int) * 16 / 64 < (R : Int) := by have := HR.out k hlt; omega
        have hidx0 : 0 ≤ (k : Int) * 16 / 64 := by omega
        have hst' : ∀ j, putAt 16 l (k + 1) j = if j = k * 16 / 64 then putAt 16 l k (k * 16 / 64) + l.getD k 0 * 2 ^ (k * 16 % 64) else putAt 16 l k j := fun j => by
          simp only [putAt]
          by_cases e : k * 16 / 64 = j
          · subst e; rw [if_pos rfl, if_pos rfl]
          · rw [if_neg e, if_neg (fun h => e h.symm), Nat.add_zero]
        have HST := Lib.hid hst'
        have HS := Lib.hid hst
        have HF1 := Lib.hid hf1
        have HK := Lib.hid hfit
        clear hst' hst hf1 hfit
        generalize hxx : l.getD k 0 = x at *
        have HXX := Lib.hid hxx
        clear hxx
        generalize hpp : putAt 16 l k (k * 16 / 64) = p at *
        have HPP := Lib.hid hpp
        clear hpp
        have HSE := Lib.hid hs
        clear hs
        go_wp2_with fail
        refine (rfits_ok 3 x _ (by decide) (by decide) H64k.out).mono ?_
        rintro e w1 ⟨rfl, rfl⟩
        rw [show decide (x < 2 ^ widthOf (Int.toNat 3)) = true from decide_eq_true HK.out]
        go_wp2
        go_loop [9, 10] (fun v i => ∃ j : Nat, j ≤ k * 16 % 64 ∧ i = .int .i64 j ∧ v = .int .u64 (x * 2 ^ j : Nat)) (fun _ i => k * 16 % 64 - (intOf i).toNat)
        case atStart => exact ⟨0, by omega, rfl, by simp⟩
        case round =>
          obtain ⟨j, hj, rfl, rfl⟩ := hrel
          have hxj : x * 2 ^ j ≤ x * 2 ^ (k * 16 % 64) := Nat.mul_le_mul_left _ (Nat.pow_le_pow_right (by decide) hj)
          have hxb : x * 2 ^ (k * 16 % 64) + p ≤ 18446744073709551615 := by have := HS.out.2; omega
          have hpw : x * 2 ^ (j + 1) = x * 2 ^ j * 2 := by rw [Nat.pow_succ, Nat.mul_assoc]
          by_cases hjl : j < k * 16 % 64
          · have hxj1 : x * 2 ^ (j + 1) ≤ x * 2 ^ (k * 16 % 64) := Nat.mul_le_mul_left _ (Nat.pow_le_pow_right (by decide) hjl)
            have hq2 : x * 2 ^ j * 2 ≤ 18446744073709551615 := by omega
            have HW := Lib.hid hpw
            clear hpw hxj hxj1 hxb
            generalize x * 2 ^ j = q at *
            go_wp2
            go_round
            case rel => exact ⟨j + 1, by omega, by go_num, by rw [HW.out]; go_num⟩
            case measure => simp [intOf]; omega
          · obtain rfl : j = k * 16 % 64 := by omega
            clear hpw hxj
            generalize hqq : x * 2 ^ (k * 16 % 64) = q at *
            have HQQ := Lib.hid hqq
            clear hqq
            go_wp2
            go_roundw
            case rel => exact ⟨k + 1, by omega, by go_num, HF1.out, (HOW.out.set (i := k * 16 / 64) (v := p + q)).congr HST.out, hbr.setCell (Nat.le_refl _) _⟩
            case measure => simp [intOf]; omega
      · have hfa : fitAll 16 l l.length = false := fitAll_mono hlt hfit
        have HFA := Lib.hid hfa
        have HK := Lib.hid hfit
        clear hfa hfit
        generalize l.getD k 0 = x at *
        go_wp2_with fail
        refine (rfits_ok 3 x _ (by decide) (by decide) H64k.out).mono ?_
        rintro e w1 ⟨rfl, rfl⟩
        rw [show decide (x < 2 ^ widthOf (Int.toNat 3)) = false from decide_eq_false HK.out]
        go_wp2
        go_ret2
        exact .inr ⟨HFA.out, rfl, hbr⟩
    · obtain rfl : k = l.length := by omega
      have HFK := Lib.hid hfk
      have HOW := Lib.hid hown
      clear hfk hown
      go_wp2
      go_ret2
      exact .inl ⟨HFK.out, _, R, by rw [HN.out]; rfl, Nat.le_of_eq HN.out, by rw [HP.out]; exact HOW.out.rd, hbr⟩

set_option maxHeartbeats 2000000 in
theorem rput_4 (l : List Nat) (B cp : Nat) (A : Option Addr) (w : World) (hA : RdS w B A (u64s l)) (hB : B ≤ w.heap.size) (h64 : ∀ n ∈ l, W64 n) (hm : l.length ≤ 1099511627776) :
    Calls Try.prog 36 #[.int .i64 4, .slice A l.length cp] w (PutP 32 l w) := by
  have hmk := make64 (roomN 32 l.length) (by unfold roomN; omega)
  go_enter Try.func36, Try.ntmps36
  go_wp2_with fail
  refine (rwidth_4 _).mono ?_
  rintro e w1 ⟨rfl, rfl⟩
  go_wp2_with fail
  refine (rroom_4 l.length _ hm).mono ?_
  rintro e w1 ⟨rfl, rfl⟩
  have hR : ∀ k : Nat, k < l.length → k * 32 / 64 < roomN 32 l.length := by intro k hk; unfold roomN; omega
  have hput : putN 32 l = (List.range (roomN 32 l.length)).map (putAt 32 l l.length) := rfl
  have hlen : (putN 32 l).length = roomN 32 l.length := by simp [putN]
  generalize roomN 32 l.length = R at *
  have HP := Lib.hid hput
  have HN := Lib.hid hlen
  have HR := Lib.hid hR
  clear hput hlen hR
  go_wp2
  go_loopw [8, 9, 10] (fun i _ _ wr => ∃ k : Nat, k ≤ l.length ∧ i = .int .i64 k ∧ fitAll 32 l k = true ∧ OwnW wr w.heap.size R (putAt 32 l k) ∧ Below w.heap.size w wr) (fun i _ _ _ => l.length - (intOf i).toNat)
  case atStart => exact ⟨0, by omega, rfl, fitAll_zero _ _, OwnW.made _ _ _, (Below.refl _ _).alloc (Nat.le_refl _) _⟩
  case round =>
    obtain ⟨k, hk, rfl, hfk, hown, hbr⟩ := hrel
    by_cases hlt : k < l.length
    · obtain ⟨g, off, rfl, hg, hc⟩ := Rd64.at_ hA hlt
      have hx := (bcell hbr (o := off + k) (Nat.lt_of_lt_of_le hg hB)).trans hc
      have hi1 : (k : Int) < (l.length : Int) := by omega
      have h64k : W64 (l.getD k 0) := by rw [getD_lt hlt]; exact h64 _ (List.getElem_mem hlt)
      have H64 := Lib.hid h64
      have H64k := Lib.hid h64k
      have HA := Lib.hid hA
      have HFK := Lib.hid hfk
      have HOW := Lib.hid hown
      clear hA h64 h64k hc hg hfk hown
      by_cases hfit : l.getD k 0 < 2 ^ 32
      · have hf1 : fitAll 32 l (k + 1) = true := by rw [fitAll_succ _ _ _ hlt, HFK.out, decide_eq_true hfit]; rfl
        have hst := put_step' 32 (by decide) l k hlt hf1
        have hs : k * 32 % 64 = (k % 2 * 32) := by omega
        have hcell := HOW.out.cell (k * 32 / 64) (HR.out k hlt)
        have hfree := HOW.out.free (k * 32 / 64)
        have hidx : (k : Int) * 32 / 64 < (R : Int) := by have := HR.out k hlt; omega
        have hidx0 : 0 ≤ (k : Int) * 32 / 64 := by omega
        have hst' : ∀ j, putAt 32 l (k + 1) j = if j = k * 32 / 64 then putAt 32 l k (k * 32 / 64) + l.getD k 0 * 2 ^ (k * 32 % 64) else putAt 32 l k j := fun j => by
          simp only [putAt]
          by_cases e : k * 32 / 64 = j
          · subst e; rw [if_pos rfl, if_pos rfl]
          · rw [if_neg e, if_neg (fun h => e h.symm), Nat.add_zero]
        have HST := Lib.hid hst'
        have HS := Lib.hid hst
        have HF1 := Lib.hid hf1
        have HK := Lib.hid hfit
        clear hst' hst hf1 hfit
        generalize hxx : l.getD k 0 = x at *
        have HXX := Lib.hid hxx
        clear hxx
        generalize hpp : putAt 32 l k (k * 32 / 64) = p at *
        have HPP := Lib.hid hpp
        clear hpp
        have HSE := Lib.hid hs
        clear hs
        go_wp2_with fail
        refine (rfits_ok 4 x _ (by decide) (by decide) H64k.out).mono ?_
        rintro e w1 ⟨rfl, rfl⟩
        rw [show decide (x < 2 ^ widthOf (Int.toNat 4)) = true from decide_eq_true HK.out]
        go_wp2
        go_loop [9, 10] (fun v i => ∃ j : Nat, j ≤ k * 32 % 64 ∧ i = .int .i64 j ∧ v = .int .u64 (x * 2 ^ j : Nat)) (fun _ i => k * 32 % 64 - (intOf i).toNat)
        case atStart => exact ⟨0, by omega, rfl, by simp⟩
        case round =>
          obtain ⟨j, hj, rfl, rfl⟩ := hrel
          have hxj : x * 2 ^ j ≤ x * 2 ^ (k * 32 % 64) := Nat.mul_le_mul_left _ (Nat.pow_le_pow_right (by decide) hj)
          have hxb : x * 2 ^ (k * 32 % 64) + p ≤ 18446744073709551615 := by have := HS.out.2; omega
          have hpw : x * 2 ^ (j + 1) = x * 2 ^ j * 2 := by rw [Nat.pow_succ, Nat.mul_assoc]
          by_cases hjl : j < k * 32 % 64
          · have hxj1 : x * 2 ^ (j + 1) ≤ x * 2 ^ (k * 32 % 64) := Nat.mul_le_mul_left _ (Nat.pow_le_pow_right (by decide) hjl)
            have hq2 : x * 2 ^ j * 2 ≤ 18446744073709551615 := by omega
            have HW := Lib.hid hpw
            clear hpw hxj hxj1 hxb
            generalize x * 2 ^ j = q at *
            go_wp2
            go_round
            case rel => exact ⟨j + 1, by omega, by go_num, by rw [HW.out]; go_num⟩
            case measure => simp [intOf]; omega
          · obtain rfl : j = k * 32 % 64 := by omega
            clear hpw hxj
            generalize hqq : x * 2 ^ (k * 32 % 64) = q at *
            have HQQ := Lib.hid hqq
            clear hqq
            go_wp2
            go_roundw
            case rel => exact ⟨k + 1, by omega, by go_num, HF1.out, (HOW.out.set (i := k * 32 / 64) (v := p + q)).congr HST.out, hbr.setCell (Nat.le_refl _) _⟩
            case measure => simp [intOf]; omega
      · have hfa : fitAll 32 l l.length = false := fitAll_mono hlt hfit
        have HFA := Lib.hid hfa
        have HK := Lib.hid hfit
        clear hfa hfit
        generalize l.getD k 0 = x at *
        go_wp2_with fail
        refine (rfits_ok 4 x _ (by decide) (by decide) H64k.out).mono ?_
        rintro e w1 ⟨rfl, rfl⟩
        rw [show decide (x < 2 ^ widthOf (Int.toNat 4)) = false from decide_eq_false HK.out]
        go_wp2
        go_ret2
        exact .inr ⟨HFA.out, rfl, hbr⟩
    · obtain rfl : k = l.length := by omega
      have HFK := Lib.hid hfk
      have HOW := Lib.hid hown
      clear hfk hown
      go_wp2
      go_ret2
      exact .inl ⟨HFK.out, _, R, by rw [HN.out]; rfl, Nat.le_of_eq HN.out, by rw [HP.out]; exact HOW.out.rd, hbr⟩

set_option maxHeartbeats 2000000 in
theorem rput_5 (l : List Nat) (B cp : Nat) (A : Option Addr) (w : World) (hA : RdS w B A (u64s l)) (hB : B ≤ w.heap.size) (h64 : ∀ n ∈ l, W64 n) (hm : l.length ≤ 1099511627776) :
    Calls Try.prog 36 #[.int .i64 5, .slice A l.length cp] w (PutP 64 l w) := by
  have hmk := make64 (roomN 64 l.length) (by unfold roomN; omega)
  go_enter Try.func36, Try.ntmps36
  go_wp2_with fail
  refine (rwidth_5 _).mono ?_
  rintro e w1 ⟨rfl, rfl⟩
  go_wp2_with fail
  refine (rroom_5 l.length _ hm).mono ?_
  rintro e w1 ⟨rfl, rfl⟩
  have hR : ∀ k : Nat, k < l.length → k < roomN 64 l.length := by intro k hk; unfold roomN; omega
  have hput : putN 64 l = (List.range (roomN 64 l.length)).map (putAt 64 l l.length) := rfl
  have hlen : (putN 64 l).length = roomN 64 l.length := by simp [putN]
  generalize roomN 64 l.length = R at *
  have HP := Lib.hid hput
  have HN := Lib.hid hlen
  have HR := Lib.hid hR
  clear hput hlen hR
  go_wp2
  go_loopw [8, 9, 10] (fun i _ _ wr => ∃ k : Nat, k ≤ l.length ∧ i = .int .i64 k ∧ fitAll 64 l k = true ∧ OwnW wr w.heap.size R (putAt 64 l k) ∧ Below w.heap.size w wr) (fun i _ _ _ => l.length - (intOf i).toNat)
  case atStart => exact ⟨0, by omega, rfl, fitAll_zero _ _, OwnW.made _ _ _, (Below.refl _ _).alloc (Nat.le_refl _) _⟩
  case round =>
    obtain ⟨k, hk, rfl, hfk, hown, hbr⟩ := hrel
    by_cases hlt : k < l.length
    · obtain ⟨g, off, rfl, hg, hc⟩ := Rd64.at_ hA hlt
      have hx := (bcell hbr (o := off + k) (Nat.lt_of_lt_of_le hg hB)).trans hc
      have hi1 : (k : Int) < (l.length : Int) := by omega
      have h64k : W64 (l.getD k 0) := by rw [getD_lt hlt]; exact h64 _ (List.getElem_mem hlt)
      have H64 := Lib.hid h64
      have H64k := Lib.hid h64k
      have HA := Lib.hid hA
      have HFK := Lib.hid hfk
      have HOW := Lib.hid hown
      clear hA h64 h64k hc hg hfk hown
      by_cases hfit : l.getD k 0 < 2 ^ 64
      · have hf1 : fitAll 64 l (k + 1) = true := by rw [fitAll_succ _ _ _ hlt, HFK.out, decide_eq_true hfit]; rfl
        have hst := put_step' 64 (by decide) l k hlt hf1
        rw [show k * 64 / 64 = k by omega, show k * 64 % 64 = 0 by omega] at hst
        have hcell := HOW.out.cell k (HR.out k hlt)
        have hfree := HOW.out.free k
        have hidx : (k : Int) < (R : Int) := by have := HR.out k hlt; omega
        have hidx0 : 0 ≤ (k : Int) := by omega
        have hst' : ∀ j, putAt 64 l (k + 1) j = if j = k then putAt 64 l k k + l.getD k 0 * 2 ^ 0 else putAt 64 l k j := fun j => by
          simp only [putAt, show k * 64 / 64 = k by omega, show k * 64 % 64 = 0 by omega]
          by_cases e : k = j
          · subst e; rw [if_pos rfl, if_pos rfl]
          · rw [if_neg e, if_neg (fun h => e h.symm), Nat.add_zero]
        have HST := Lib.hid hst'
        have HS := Lib.hid hst
        have HF1 := Lib.hid hf1
        have HK := Lib.hid hfit
        clear hst' hst hf1 hfit
        generalize hxx : l.getD k 0 = x at *
        have HXX := Lib.hid hxx
        clear hxx
        generalize hpp : putAt 64 l k k = p at *
        have HPP := Lib.hid hpp
        clear hpp
        go_wp2_with fail
        refine (rfits_ok 5 x _ (by decide) (by decide) H64k.out).mono ?_
        rintro e w1 ⟨rfl, rfl⟩
        rw [show decide (x < 2 ^ widthOf (Int.toNat 5)) = true from decide_eq_true HK.out]
        go_wp2
        go_loop [9, 10] (fun v i => ∃ j : Nat, j ≤ 0 ∧ i = .int .i64 j ∧ v = .int .u64 (x * 2 ^ j : Nat)) (fun _ i => 0 - (intOf i).toNat)
        case atStart => exact ⟨0, by omega, rfl, by simp⟩
        case round =>
          obtain ⟨j, hj, rfl, rfl⟩ := hrel
          have hxj : x * 2 ^ j ≤ x * 2 ^ 0 := Nat.mul_le_mul_left _ (Nat.pow_le_pow_right (by decide) hj)
          have hxb : x * 2 ^ 0 + p ≤ 18446744073709551615 := by have := HS.out.2; omega
          have hpw : x * 2 ^ (j + 1) = x * 2 ^ j * 2 := by rw [Nat.pow_succ, Nat.mul_assoc]
          by_cases hjl : j < 0
          · exact absurd hjl (Nat.not_lt_zero _)
          · obtain rfl : j = 0 := by omega
            clear hpw hxj
            generalize hqq : x * 2 ^ 0 = q at *
            have HQQ := Lib.hid hqq
            clear hqq
            go_wp2
            go_roundw
            case rel => exact ⟨k + 1, by omega, by go_num, HF1.out, (HOW.out.set (i := k) (v := p + q)).congr HST.out, hbr.setCell (Nat.le_refl _) _⟩
            case measure => simp [intOf]; omega
      · have hfa : fitAll 64 l l.length = false := fitAll_mono hlt hfit
        have HFA := Lib.hid hfa
        have HK := Lib.hid hfit
        clear hfa hfit
        generalize l.getD k 0 = x at *
        go_wp2_with fail
        refine (rfits_ok 5 x _ (by decide) (by decide) H64k.out).mono ?_
        rintro e w1 ⟨rfl, rfl⟩
        rw [show decide (x < 2 ^ widthOf (Int.toNat 5)) = false from decide_eq_false HK.out]
        go_wp2
        go_ret2
        exact .inr ⟨HFA.out, rfl, hbr⟩
    · obtain rfl : k = l.length := by omega
      have HFK := Lib.hid hfk
      have HOW := Lib.hid hown
      clear hfk hown
      go_wp2
      go_ret2
      exact .inl ⟨HFK.out, _, R, by rw [HN.out]; rfl, Nat.le_of_eq HN.out, by rw [HP.out]; exact HOW.out.rd, hbr⟩

set_option maxHeartbeats 2000000 in
theorem rput_bad (c : Int) (l : List Nat) (cp : Nat) (A : Option Addr) (w : World) (h6 : c < 0 ∨ 6 ≤ c) :
    Calls Try.prog 36 #[.int .i64 c, .slice A l.length cp] w fun e w' => e = .returned (.tuple #[.slice none 0 0, .bool false]) ∧ Below w.heap.size w w' := by
  go_enter Try.func36, Try.ntmps36
  go_wp2_with fail
  refine (rwidth_no c _ h6).mono ?_
  rintro e w1 ⟨rfl, rfl⟩
  go_wp2
  go_ret2
  exact ⟨rfl, Below.refl _ _⟩
def Put0 (l : List Nat) (w : World) (e : Ending) (w' : World) : Prop :=
  (fitAll 0 l l.length = true ∧ RetW [] w e w') ∨ (fitAll 0 l l.length = false ∧ e = .returned (.tuple #[.slice none 0 0, .bool false]) ∧ Below w.heap.size w w')
set_option maxHeartbeats 2000000 in
theorem rput_0 (l : List Nat) (B cp : Nat) (A : Option Addr) (w : World) (hA : RdS w B A (u64s l)) (hB : B ≤ w.heap.size) (h64 : ∀ n ∈ l, W64 n) (hm : l.length ≤ 1099511627776) :
    Calls Try.prog 36 #[.int .i64 0, .slice A l.length cp] w (Put0 l w) := by
  have hmk : ∀ u : World, (Instr.makeSlice 22 (.int .i64 0) (.int .i64 0)).run Try.prog u = .ok (.slice (some ⟨u.heap.size, 0, none⟩) 0 0) (u.alloc (.cells (madeCells #[.int .u64 0] 0) 31)) := make64 0 (by decide)
  go_enter Try.func36, Try.ntmps36
  go_wp2_with fail
  refine (rwidth_0 _).mono ?_
  rintro e w1 ⟨rfl, rfl⟩
  go_wp2_with fail
  refine (rroom_0 _ _).mono ?_
  rintro e w1 ⟨rfl, rfl⟩
  go_wp2
  go_loopw [8, 9, 10] (fun i _ _ wr => ∃ k : Nat, k ≤ l.length ∧ i = .int .i64 k ∧ fitAll 0 l k = true ∧ Below w.heap.size w wr) (fun i _ _ _ => l.length - (intOf i).toNat)
  case atStart => exact ⟨0, by omega, rfl, fitAll_zero _ _, (Below.refl _ _).alloc (Nat.le_refl _) _⟩
  case round =>
    obtain ⟨k, hk, rfl, hfk, hbr⟩ := hrel
    by_cases hlt : k < l.length
    · obtain ⟨g, off, rfl, hg, hc⟩ := Rd64.at_ hA hlt
      have hx := (bcell hbr (o := off + k) (Nat.lt_of_lt_of_le hg hB)).trans hc
      have hi1 : (k : Int) < (l.length : Int) := by omega
      have h64k : W64 (l.getD k 0) := by rw [getD_lt hlt]; exact h64 _ (List.getElem_mem hlt)
      have H64 := Lib.hid h64
      have H64k := Lib.hid h64k
      have HA := Lib.hid hA
      have HFK := Lib.hid hfk
      clear hA h64 h64k hc hg hfk
      by_cases hfit : l.getD k 0 < 2 ^ 0
      · have hf1 : fitAll 0 l (k + 1) = true := by rw [fitAll_succ _ _ _ hlt, HFK.out, decide_eq_true hfit]; rfl
        have HF1 := Lib.hid hf1
        have HK := Lib.hid hfit
        clear hf1 hfit
        generalize hxx : l.getD k 0 = x at *
        have HXX := Lib.hid hxx
        clear hxx
        go_wp2_with fail
        refine (rfits_ok 0 x _ (by decide) (by decide) H64k.out).mono ?_
        rintro e w1 ⟨rfl, rfl⟩
        rw [show decide (x < 2 ^ widthOf (Int.toNat 0)) = true from decide_eq_true HK.out]
        go_wp2
        refine wp_loop_rounds 1 ?_
        rw [rounds_succ]
        go_wp2
        go_roundw
        case rel => exact ⟨k + 1, by omega, by go_num, HF1.out, hbr⟩
        case measure => simp [intOf]; omega
      · have hfa : fitAll 0 l l.length = false := fitAll_mono hlt hfit
        have HFA := Lib.hid hfa
        have HK := Lib.hid hfit
        clear hfa hfit
        generalize l.getD k 0 = x at *
        go_wp2_with fail
        refine (rfits_ok 0 x _ (by decide) (by decide) H64k.out).mono ?_
        rintro e w1 ⟨rfl, rfl⟩
        rw [show decide (x < 2 ^ widthOf (Int.toNat 0)) = false from decide_eq_false HK.out]
        go_wp2
        go_ret2
        exact .inr ⟨HFA.out, rfl, hbr⟩
    · obtain rfl : k = l.length := by omega
      have HFK := Lib.hid hfk
      clear hfk
      go_wp2
      go_ret2
      exact .inl ⟨HFK.out, _, 0, rfl, Nat.le_refl _, RdS.nil _ _ _, hbr⟩

end Go.Proofs.Ytcpapdjjeinpmaa
