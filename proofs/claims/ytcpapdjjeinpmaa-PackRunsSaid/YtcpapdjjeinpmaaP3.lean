/- Lemmas and contracts used by the proofs of this seat's laws (part P3); each theorem bears its own conditions. -/
import Derived.Test.YtcpapdjjeinpmaaRows
import Derived.Test.YtcpapdjjeinpmaaNum
import Derived.Test.YtcpapdjjeinpmaaMem
import Derived.Test.YtcpapdjjeinpmaaPk
import Derived.Test.YtcpapdjjeinpmaaWordB
import Derived.Test.YtcpapdjjeinpmaaOps
import Derived.Test.YtcpapdjjeinpmaaP2
import Derived.WalkKit
import Derived.WalkSpells
import Derived.WalkLawsBesides
import Derived.Lib.Hide
import Derived.BigQuiet
import Derived.StillTailTactics
import Derived.Deep.RegionHeld3
import Derived.Deep.AppendLies
import Derived.Laws.CopyOwn
import Derived.Deep.DeepCutAuto
import Derived.Deep.QuietTactic
namespace Go.Proofs.Ytcpapdjjeinpmaa
open Go.RowKit
set_option linter.unusedVariables false
theorem idx8_all (x k : Nat) (hk : k < 8) (w : World) : (Instr.index 32 (.agg #[.int .u8 ((x : Int) % 256), .int .u8 ((x : Int) / 256 % 256), .int .u8 ((x : Int) / 65536 % 256), .int .u8 ((x : Int) / 16777216 % 256), .int .u8 ((x : Int) / 4294967296 % 256), .int .u8 ((x : Int) / 1099511627776 % 256), .int .u8 ((x : Int) / 281474976710656 % 256), .int .u8 ((x : Int) / 72057594037927936 % 256)]) (.int .i64 (k : Int))).run Try.prog w = .ok (.int .u8 ((byteN x k : Nat) : Int)) w := by
  rw [agg_bytes]
  rcases lt8 hk with rfl | rfl | rfl | rfl | rfl | rfl | rfl | rfl
  · exact idx8_0 ..
  · exact idx8_1 ..
  · exact idx8_2 ..
  · exact idx8_3 ..
  · exact idx8_4 ..
  · exact idx8_5 ..
  · exact idx8_6 ..
  · exact idx8_7 ..
/-- a row of the call's own, handed back longer -/
def AppP (base : Nat) (E : TypeId) (xs : List Value) (w : World) (e : Ending) (w' : World) : Prop :=
  ∃ v', e = .returned v' ∧ w'.ownsRow base E 1 v' xs.length xs ∧ Below base w w'
set_option maxHeartbeats 2000000 in
theorem appw_any (t x n base : Nat) (v : Value) (xs : List Value) (w : World) (ht : t < 256) (hown : w.ownsRow base 5 1 v n xs) (hB : base ≤ w.heap.size) (hn : n ≤ 140737488000000) :
    Calls Try.prog 46 #[v, .int .u8 t, .int .u64 x] w (AppP base 5 (xs ++ u8s (t :: selN t x)) w) := by
  have HO := Lib.hid hown
  have hln := own_len hown
  clear hown
  go_enter Try.func46, Try.ntmps46
  go_wp2_with (at_builtin; refine app8 rfl _ _ rfl base _ n _ rfl (HO.out.alloc _) (w.heap.size + 1) 1 1 (some ⟨w.heap.size, 0, none⟩) [t] rfl rfl (by exact RdS.new w _ #[.int .u8 (t : Int)]) (by omega) (by simp; omega) ?_; intro v1 w1 hown1 hgrow)
  have hb1 : Below base w w1 := ((Below.refl _ _).alloc hB _).grown hgrow (by simp; omega) (own_base HO.out)
  have hsz1 : base ≤ w1.heap.size := Nat.le_trans hB hb1.size
  have HO1 := Lib.hid hown1
  clear hown1 hgrow
  go_wp2_with fail
  refine (bytes_any x _).mono ?_
  rintro e w2 ⟨rfl, hb2⟩
  have hb2' : Below base w w2 := hb1.trans (hb2.mono hsz1)
  have hown2 := own_below HO1.out hb2
  have HO2 := Lib.hid hown2
  clear hown2
  go_wp2
  go_loopw [0, 7, 8, 15] (fun v _ _ i wr => ∃ k : Nat, k ≤ 8 ∧ i = .int .i64 k ∧ wr.ownsRow base 5 1 v (n + 1 + (selK t x k).length) (xs ++ u8s (t :: selK t x k)) ∧ Below base w wr) (fun _ _ _ i _ => 8 - (intOf i).toNat)
  case atStart => exact ⟨0, by omega, rfl, HO2.out, hb2'⟩
  case round =>
    obtain ⟨k, hk, rfl, hown, hbr⟩ := hrel
    have HOR := Lib.hid hown
    clear hown
    by_cases hlt : k < 8
    · have hix := idx8_all x k hlt
      have hbit := bit8 t k ht
      have HBIT := Lib.hid hbit
      have hle := selK_le t x k
      clear hbit
      generalize hy : byteN x k = y at *
      have HY := Lib.hid hy
      clear hy
      have hszr : base ≤ wr.heap.size := Nat.le_trans hB hbr.size
      by_cases hb : bitB t k = true
      · have hs := selK_yes (x := x) hb
        have HS := Lib.hid hs
        have htst : (bits .and .u8 ((t : Int) / 2 ^ k) 1 == 1) = true := by rw [HBIT.out, bitB_t hb]; rfl
        clear hs hb
        generalize hl : (selK t x k).length = m at *
        have HL := Lib.hid hl
        clear hl
        go_wp2_with (at_builtin; refine app8 rfl _ _ rfl base _ (n + 1 + m) _ rfl (HOR.out.alloc _) (wr.heap.size + 1) 1 1 (some ⟨wr.heap.size, 0, none⟩) [y] rfl rfl (by exact RdS.new wr _ #[.int .u8 (y : Int)]) (by omega) (by simp; omega) ?_; intro v3 w3 hown3 hgrow3)
        have hb3 : Below base w w3 := (hbr.alloc hszr _).grown hgrow3 (by simp; omega) (own_base HOR.out)
        have HO3 := Lib.hid hown3
        clear hown3 hgrow3
        go_wp2
        go_roundw
        case rel => exact ⟨k + 1, by omega, by go_num, by
          have h := HO3.out
          rw [HS.out, List.length_append, HL.out, HY.out]
          simpa [u8s, Nat.add_assoc] using h, hb3⟩
        case measure => simp [intOf]; omega
      · have hbf : bitB t k = false := by simpa using hb
        have hs := selK_no (x := x) hbf
        have HS := Lib.hid hs
        have htst : (bits .and .u8 ((t : Int) / 2 ^ k) 1 == 1) = false := by
          rw [HBIT.out]; have := bitB_f hbf; exact beq_eq_false_iff_ne.2 (by omega)
        clear hs hb hbf
        go_wp2
        go_roundw
        case rel => exact ⟨k + 1, by omega, by go_num, by rw [HS.out]; exact HOR.out, hbr⟩
        case measure => simp [intOf]; omega
    · obtain rfl : k = 8 := by omega
      go_wp2
      go_ret
      exact ⟨_, rfl, by
        have h := HOR.out
        rw [selK_full] at h
        have e := own_len h
        rw [← e]; exact h, hbr⟩

end Go.Proofs.Ytcpapdjjeinpmaa
