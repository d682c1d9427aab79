/- Lemmas and contracts used by the proofs of this seat's laws (part K2); each theorem bears its own conditions. -/
import Derived.Test.YtcpapdjjeinpmaaRows
import Derived.Test.YtcpapdjjeinpmaaNum
import Derived.Test.YtcpapdjjeinpmaaMem
import Derived.Test.YtcpapdjjeinpmaaPk
import Derived.Test.YtcpapdjjeinpmaaPm
import Derived.Test.YtcpapdjjeinpmaaS1
import Derived.Test.YtcpapdjjeinpmaaS7
import Derived.Test.YtcpapdjjeinpmaaP4
import Derived.Test.YtcpapdjjeinpmaaU6
import Derived.Test.YtcpapdjjeinpmaaU7
import Derived.Test.YtcpapdjjeinpmaaK1
import Derived.WalkKit
import Derived.WalkSpells
import Derived.WalkLawsBesides
import Derived.Lib.Hide
import Derived.BigQuiet
import Derived.StillTailTactics
import Derived.Deep.RegionHeld3
import Derived.Deep.AppendLies
import Derived.Laws.CopyOwn
import Derived.Deep.DeepCutAuto
import Derived.Deep.QuietTactic
namespace Go.Proofs.Ytcpapdjjeinpmaa
open Go.RowKit
set_option linter.unusedVariables false
theorem and1023 (n : Int) : ∃ k : Nat, bits .and .i64 n 1023 = (k : Int) ∧ k < 1024 := by
  have h : ((BitVec.ofInt 64 n) &&& (BitVec.ofInt 64 1023)).toNat < 1024 := by
    rw [BitVec.toNat_and]
    exact Nat.lt_of_le_of_lt Nat.and_le_right (by decide)
  have e : bits .and .i64 n 1023 = IntKind.i64.wrap (((BitVec.ofInt 64 n) &&& (BitVec.ofInt 64 1023)).toNat : Int) := rfl
  rw [e]
  generalize ((BitVec.ofInt 64 n) &&& (BitVec.ofInt 64 1023)).toNat = q at *
  exact ⟨q, IntWalk.i64_in _ (by omega), h⟩
theorem rd_zeros (w : World) (n : Nat) (t : TypeId) : RdS (w.alloc (.cells (madeCells #[.int .u64 0] n) t)) (w.heap.size + 1) (some ⟨w.heap.size, 0, none⟩) (u64s (List.replicate n 0)) := by
  have h := (OwnW.made w n t).rd
  rw [show (List.range n).map (fun _ => 0) = List.replicate n 0 from by
    refine List.ext_getElem (by simp) fun i h1 h2 => by simp] at h
  simpa using h
set_option maxHeartbeats 2000000 in
theorem packRuns (n : Int) (w : World) (_hn : -9223372036854775808 ≤ n ∧ n ≤ 9223372036854775807) :
    Calls Try.prog 11 #[.int .i64 n] w fun e w' => e = .returned (.bool true) ∧ Below w.heap.size w w' := by
  obtain ⟨k, hk, hk2⟩ := and1023 n
  have hmk := make64 k (by omega)
  have hz := pack_zeros k k (Nat.le_refl _)
  have hpl := packN_len (List.replicate k 0)
  have HZ := Lib.hid hz
  have HPL := Lib.hid hpl
  clear hz hpl
  go_enter Try.func11, Try.ntmps11
  go_wp2_with fail
  have hcall := pack_any (List.replicate k 0) (w.heap.size + 1) k (some ⟨w.heap.size, 0, none⟩) (w.alloc (.cells (madeCells #[.int .u64 0] k) 31)) (rd_zeros w k _) (by simp) (fun m hm => by rw [List.eq_of_mem_replicate hm]; unfold W64; decide) (by simp) (by simp; omega)
  rw [List.length_replicate] at hcall
  refine hcall.mono ?_
  clear hcall
  rintro e w1 ⟨A1, c1, rfl, hlc1, hr1, hb1⟩
  have hb1' : Below w.heap.size w w1 := ((Below.refl _ _).alloc (Nat.le_refl _) _).trans (hb1.mono (by simp))
  rw [HZ.out] at *
  clear hk hmk hr1 hb1
  have ht : (((2 * ((k + 255) / 256) : Nat) : Int) == 2 * (((k : Int) + 255) / 256)) = true := by rw [beq_iff_eq]; omega
  go_wp2_with fail
  refine (awake2 _).mono ?_
  rintro e w5 ⟨rfl, hb5⟩
  go_wp2
  go_ret
  exact ⟨rfl, bstep hb1' hb5⟩
set_option maxHeartbeats 2000000 in
theorem packUnpacks (b : List Nat) (A : Option Addr) (cp : Nat) (m : Int) (w : World) (hA : RdS w w.heap.size A (u8s b)) (h8 : ∀ n ∈ b, n < 256) (hc : b.length ≤ cp) (hm : -9223372036854775808 ≤ m ∧ m ≤ 9223372036854775807) (hl : b.length * 1 ≤ 140737488351232) :
    Calls Try.prog 9 #[.slice A b.length cp, .int .i64 m] w fun e w' => e = .returned (.bool true) ∧ Below w.heap.size w w' := by
  have hcI : (b.length : Int) ≤ (cp : Int) := by omega
  have htl : (b.take 2000).length = min 2000 b.length := List.length_take
  have hA2 : RdS w w.heap.size A (u8s (b.take 2000)) := by rw [u8s_take]; exact hA.take 2000
  have h82 : ∀ n ∈ b.take 2000, n < 256 := fun n hn => h8 n (List.mem_of_mem_take hn)
  have HA2 := Lib.hid hA2
  have H82 := Lib.hid h82
  clear hA h8 hA2 h82
  generalize b.take 2000 = s at *
  go_enter Try.func9, Try.ntmps9
  go_upto_if 11 with (fail)
  go_cut [0] (fun v wr => v = .slice A s.length cp ∧ w = wr)
  case first =>
    by_cases h0 : 2000 < b.length
    · have h0I : 2000 < (b.length : Int) := by omega
      have hc2 : 2000 ≤ (cp : Int) := by omega
      go_wp2_with fail
      go_meet
      exact ⟨by rw [htl, Nat.min_eq_left (by omega)], rfl⟩
    · have h0I : ¬ 2000 < (b.length : Int) := by omega
      go_wp2_with fail
      go_meet
      exact ⟨by rw [htl, Nat.min_eq_right (by omega)], rfl⟩
  case rest =>
    obtain ⟨rfl, rfl⟩ := hcut
    have hs : s.length ≤ 2000 := by omega
    have hsc : s.length ≤ cp := by omega
    have hle := unpG_le s.length s [] m.toNat (Nat.le_refl _) (by simp)
    have HLE := Lib.hid hle
    clear htl hcI hle
    go_wp2_with fail
    refine (unpack_any s m w.heap.size cp A _ HA2.out (Nat.le_refl _) H82.out hsc (by omega) (by omega)).mono ?_
    rintro e w1 ⟨A1, c1, rfl, hr1, hb1⟩
    go_wp2_with fail
    refine (runpack_any s m w.heap.size cp A _ (HA2.out.below hb1) hb1.size H82.out hsc (by omega) (by omega)).mono ?_
    rintro e w2 ⟨A2, c2, rfl, hr2, hb2⟩
    have HR1 := Lib.hid ((hr1.below hb2).mono hb2.size)
    have HR2 := Lib.hid hr2
    clear hr1 hr2
    generalize unpG s [] m.toNat = res at *
    obtain ⟨ws, code⟩ := res
    dsimp only at *
    go_wp2_with fail
    refine (rsame_any ws ws w2.heap.size c1 c2 A1 A2 _ HR1.out HR2.out (by have := HLE.out; omega) (by have := HLE.out; omega)).mono ?_
    rintro e w3 ⟨rfl, hd3⟩
    rw [show decide (ws = ws) = true from decide_eq_true rfl]
    go_wp2_with fail
    refine (awake2 _).mono ?_
    rintro e w5 ⟨rfl, hb5⟩
    go_wp2
    go_ret
    exact ⟨rfl, bstep (bstep (bstep hb1 hb2) (hd3.below _)) hb5⟩

end Go.Proofs.Ytcpapdjjeinpmaa
