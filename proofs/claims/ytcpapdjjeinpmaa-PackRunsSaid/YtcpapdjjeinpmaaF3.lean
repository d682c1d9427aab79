/- Lemmas and contracts used by the proofs of this seat's laws (part F3); each theorem bears its own conditions. -/
import Derived.Test.YtcpapdjjeinpmaaRows
import Derived.Test.YtcpapdjjeinpmaaNum
import Derived.Test.YtcpapdjjeinpmaaMem
import Derived.Test.YtcpapdjjeinpmaaWordB
import Derived.Test.YtcpapdjjeinpmaaOps
import Derived.Test.YtcpapdjjeinpmaaS7
import Derived.Test.YtcpapdjjeinpmaaF1
import Derived.WalkKit
import Derived.WalkSpells
import Derived.WalkLawsBesides
import Derived.Lib.Hide
import Derived.BigQuiet
import Derived.StillTailTactics
import Derived.Deep.RegionHeld3
import Derived.Deep.AppendLies
import Derived.Laws.CopyOwn
import Derived.Deep.QuietTactic
namespace Go.Proofs.Ytcpapdjjeinpmaa
open Go.RowKit
set_option linter.unusedVariables false
set_option maxHeartbeats 2000000 in
theorem words_any (b : List Nat) (B cp : Nat) (A : Option Addr) (w : World) (hA : RdS w B A (u8s b)) (hB : B ≤ w.heap.size) (h8 : ∀ n ∈ b, n < 256) (hcp : b.length ≤ cp) (hm : b.length ≤ 140737488351232) (hd : b.length % 8 = 0) :
    Calls Try.prog 13 #[.slice A b.length cp] w (RetW (wordsN b) w) := by
  have hmk := make64 (b.length / 8) (by omega)
  have hlen := wordsN_len b
  have hdv : ((b.length : Int) / 8) = ((b.length / 8 : Nat) : Int) := by omega
  have hmd : ((b.length : Int) % 8 != 0) = false := by simp; omega
  have hR : ∀ k, k < b.length / 8 → 8 * k + 8 ≤ b.length := by intro k hk; omega
  generalize hRR : b.length / 8 = R at *
  have HN := Lib.hid hlen
  have HR := Lib.hid hR
  have HRR := Lib.hid hRR
  clear hlen hR hRR hd
  go_enter Try.func13, Try.ntmps13
  go_wp2
  go_loopw [5, 6, 17] (fun _ _ i wr => ∃ k : Nat, k ≤ R ∧ i = .int .i64 k ∧ OwnW wr w.heap.size R (fun j => if j < k then wordAt b j else 0) ∧ Below w.heap.size w wr) (fun _ _ i _ => R - (intOf i).toNat)
  case atStart => exact ⟨0, by omega, rfl, (OwnW.made _ _ _).congr fun j => by simp, (Below.refl _ _).alloc (Nat.le_refl _) _⟩
  case round =>
    obtain ⟨k, hk, rfl, hown, hbr⟩ := hrel
    by_cases hlt : k < R
    · have h8k := HR.out k hlt
      obtain ⟨g, off, rfl, hg, hc⟩ := hA (by intro e; have := congrArg List.length e; rw [u8s_len, List.length_nil] at this; omega)
      have hne : ¬ (cp = 8 * k) := by omega
      have hi1 : (k : Int) < (R : Int) := by omega
      have hi0 : 0 ≤ (k : Int) := by omega
      have hk8 : 8 * (k : Int) ≤ (b.length : Int) := by omega
      have hk8n : 8 * k ≤ b.length := by omega
      have hcpI : (b.length : Int) ≤ (cp : Int) := by omega
      have h08 : 0 ≤ 8 * (k : Int) := by omega
      have hw8 : IntKind.i64.wrap (8 * (k : Int)) = 8 * (k : Int) := IntWalk.i64_in _ (by omega)
      have ht8 : (8 * (k : Int)).toNat = 8 * k := by omega
      have HO := Lib.hid hown
      clear hown
      have HC := Lib.hid hc
      clear hc
      go_wp2
      have hf0 : ∀ j, b.getD (8 * k + j) 0 < 256 := fun j => by
        by_cases h : 8 * k + j < b.length
        · rw [getD_lt h]; exact h8 _ (List.getElem_mem h)
        · rw [getD_ge (by omega)]; decide
      obtain ⟨f, hf⟩ : ∃ f : Nat → Nat, f = fun j => b.getD (8 * k + j) 0 := ⟨_, rfl⟩
      have hfb : ∀ j, 0 ≤ ((f j : Nat) : Int) ∧ ((f j : Nat) : Int) < 256 := fun j => by subst hf; have := hf0 j; dsimp only; exact ⟨by omega, by omega⟩
      have hfw : bySum f 8 = wordAt b k := by subst hf; rfl
      have hcs : ∀ j v, ([.int .u8 ((f 0 : Nat) : Int), .int .u8 ((f 1 : Nat) : Int), .int .u8 ((f 2 : Nat) : Int), .int .u8 ((f 3 : Nat) : Int), .int .u8 ((f 4 : Nat) : Int), .int .u8 ((f 5 : Nat) : Int), .int .u8 ((f 6 : Nat) : Int), .int .u8 ((f 7 : Nat) : Int)] : List Value)[j]? = some v → wr.cell? ⟨g, off + 8 * k + j, none⟩ = some v := fun j v hv => by
        have hj : j < 8 := by
          rcases Nat.lt_or_ge j 8 with h | h
          · exact h
          · rw [List.getElem?_eq_none (by simpa using h)] at hv; cases hv
        have h2 : (u8s b)[8 * k + j]? = some (.int .u8 ((b.getD (8 * k + j) 0 : Nat) : Int)) := by
          simp only [u8s, List.getElem?_map, List.getD]
          rw [List.getElem?_eq_getElem (by omega)]
          rfl
        have h3 := HC.out (8 * k + j) _ h2
        rw [Nat.add_assoc, bcell hbr (Nat.lt_of_lt_of_le hg hB), h3, ← hv]
        subst hf
        rcases lt8 hj with rfl | rfl | rfl | rfl | rfl | rfl | rfl | rfl <;> rfl
      have HCS := Lib.hid hcs
      have HFB := Lib.hid hfb
      have HFW := Lib.hid hfw
      clear hcs hf hf0 hfb hfw
      have hgw : g < wr.heap.size := Nat.lt_of_lt_of_le (Nat.lt_of_lt_of_le hg hB) hbr.size
      have HSP : Hid (∀ (o : Obj) j v, ([.int .u8 ((f 0 : Nat) : Int), .int .u8 ((f 1 : Nat) : Int), .int .u8 ((f 2 : Nat) : Int), .int .u8 ((f 3 : Nat) : Int), .int .u8 ((f 4 : Nat) : Int), .int .u8 ((f 5 : Nat) : Int), .int .u8 ((f 6 : Nat) : Int), .int .u8 ((f 7 : Nat) : Int)] : List Value)[j]? = some v → ((wr.alloc o).drew).cell? ((⟨g, off + 8 * k, none⟩ : Addr).add j) = some v) := fun o j v hv => by
        rw [add_cell]
        exact (World.cell?_alloc_lt _ _ _ hgw).trans (HCS.out j v hv)
      go_region_law (first | (refine step_copy_splice rfl _ _ 23 23 rfl 5 Try.underlying23 (by kernel_rfl) _ _ _ _ _ _ rfl rfl wr.heap.size 0 [.int .u8 0, .int .u8 0, .int .u8 0, .int .u8 0, .int .u8 0, .int .u8 0, .int .u8 0, .int .u8 0] 32 (by exact heap_alloc_new _ _) [.int .u8 ((f 0 : Nat) : Int), .int .u8 ((f 1 : Nat) : Int), .int .u8 ((f 2 : Nat) : Int), .int .u8 ((f 3 : Nat) : Int), .int .u8 ((f 4 : Nat) : Int), .int .u8 ((f 5 : Nat) : Int), .int .u8 ((f 6 : Nat) : Int), .int .u8 ((f 7 : Nat) : Int)] (by simp [Nat.min_def]; omega) (by exact fun _ => ⟨rfl, _, rfl, HSP.out _⟩) (by simp) (by simp [Value.oneCell']) wr.heap.size wr (by exact ((Below.refl _ _).alloc (Nat.le_refl _) _).drew) (Nat.le_refl _) ?_; intro w4 hrow hb4))
      have hcc : ∀ j, w4.cell? ⟨wr.heap.size, j, none⟩ = (#[.int .u8 ((f 0 : Nat) : Int), .int .u8 ((f 1 : Nat) : Int), .int .u8 ((f 2 : Nat) : Int), .int .u8 ((f 3 : Nat) : Int), .int .u8 ((f 4 : Nat) : Int), .int .u8 ((f 5 : Nat) : Int), .int .u8 ((f 6 : Nat) : Int), .int .u8 ((f 7 : Nat) : Int)] : Array Value)[j]? := fun j => cell_of_row w4 wr.heap.size j _ _ _ hrow.out
      have c0 := hcc 0
      have c1 := hcc 1
      have c2 := hcc 2
      have c3 := hcc 3
      have c4 := hcc 4
      have c5 := hcc 5
      have c6 := hcc 6
      have c7 := hcc 7
      simp at c0 c1 c2 c3 c4 c5 c6 c7
      clear hcc
      have hsz4 : w.heap.size < wr.heap.size := HO.out.lt
      have ho4 := HO.out.below hb4 hsz4
      have hb4w := bstep hbr hb4
      have HO4 := Lib.hid ho4
      clear ho4
      go_wp2_with fail
      refine (of_any _ _ _ _ _ _ _ _ _ (HFB.out 0) (HFB.out 1) (HFB.out 2) (HFB.out 3) (HFB.out 4) (HFB.out 5) (HFB.out 6) (HFB.out 7)).mono ?_
      rintro e w5 ⟨rfl, hb5⟩
      rw [← bySum_ofB, HFW.out]
      have ho5 := HO4.out.below hb5 (Nat.lt_of_lt_of_le hsz4 hb4.size)
      have hce := ho5.cell k hlt
      have hfr := ho5.free k
      have HO5 := Lib.hid ho5
      clear ho5 c0 c1 c2 c3 c4 c5 c6 c7
      go_wp2
      go_roundw
      case rel => exact ⟨k + 1, by omega, by go_num, HO5.out.set.congr fun j => by
        by_cases h1 : j = k
        · rw [if_pos h1, h1, if_pos (by omega)]
        · rw [if_neg h1]
          by_cases h2 : j < k
          · rw [if_pos h2, if_pos (by omega)]
          · rw [if_neg h2, if_neg (by omega)], (bstep hb4w hb5).setCell (Nat.le_refl _) _⟩
      case measure => simp [intOf]; omega
    · obtain rfl : k = R := by omega
      go_wp2
      go_ret2
      exact ⟨_, k, by rw [HN.out]; rfl, Nat.le_of_eq HN.out, by rw [show wordsN b = (List.range k).map (fun j => if j < k then wordAt b j else 0) from by
        unfold wordsN; rw [HRR.out]; exact List.map_congr_left fun j hj => by rw [if_pos (List.mem_range.1 hj)]]; exact hown.rd, hbr⟩

set_option maxHeartbeats 2000000 in
theorem words_no (b : List Nat) (cp : Nat) (A : Option Addr) (w : World) (hm : b.length ≤ 140737488351232) (hd : ¬ b.length % 8 = 0) :
    Calls Try.prog 13 #[.slice A b.length cp] w fun e w' => e = .returned (.tuple #[.slice none 0 0, .bool false]) ∧ w = w' := by
  have hmd : ((b.length : Int) % 8 != 0) = true := bne_iff_ne.2 (by omega)
  go_enter Try.func13, Try.ntmps13
  go_wp2
  go_ret2
  exact ⟨rfl, rfl⟩
set_option maxHeartbeats 2000000 in
theorem rwords_no (b : List Nat) (cp : Nat) (A : Option Addr) (w : World) (hm : b.length ≤ 140737488351232) (hd : ¬ b.length % 8 = 0) :
    Calls Try.prog 17 #[.slice A b.length cp] w fun e w' => e = .returned (.tuple #[.slice none 0 0, .bool false]) ∧ w = w' := by
  have hmd : 0 < (b.length : Int) % 8 := by omega
  go_enter Try.func17, Try.ntmps17
  go_wp2
  go_ret2
  exact ⟨rfl, rfl⟩
theorem wordsN_take (b : List Nat) (k : Nat) : (List.range (k + 1)).map (wordAt b) = (List.range k).map (wordAt b) ++ [wordAt b k] := by
  rw [List.range_succ, List.map_append]; rfl
set_option maxHeartbeats 2000000 in
theorem rwords_any (b : List Nat) (B cp : Nat) (A : Option Addr) (w : World) (hA : RdS w B A (u8s b)) (hB : B ≤ w.heap.size) (h8 : ∀ n ∈ b, n < 256) (hm : b.length ≤ 140737488351232) (hd : b.length % 8 = 0) :
    Calls Try.prog 17 #[.slice A b.length cp] w (RetW (wordsN b) w) := by
  have hmd : ¬ 0 < (b.length : Int) % 8 := by omega
  have HD := Lib.hid hd
  clear hd
  go_enter Try.func17, Try.ntmps17
  go_wp2
  go_loopw [4, 5] (fun v i wr => ∃ k : Nat, 8 * k ≤ b.length ∧ i = .int .i64 (8 * k : Nat) ∧ wr.ownsRow w.heap.size 31 1 v k (u64s ((List.range k).map (wordAt b))) ∧ Below w.heap.size w wr) (fun _ i _ => b.length - (intOf i).toNat)
  case atStart => exact ⟨0, by omega, rfl, by simpa [u64s] using World.ownsRow_nil w w.heap.size 31 1, Below.refl _ _⟩
  case round =>
    obtain ⟨k, hk, rfl, hown, hbr⟩ := hrel
    by_cases hlt : 8 * k < b.length
    · have h8k : 8 * k + 8 ≤ b.length := by have := HD.out; omega
      have hA1 := hA
      obtain ⟨g, off, rfl, hg, hc⟩ := hA1 (by intro e; have := congrArg List.length e; rw [u8s_len, List.length_nil] at this; omega)
      have hcs : ∀ j, j < 8 → wr.cell? ⟨g, off + (8 * k + j), none⟩ = some (.int .u8 ((b.getD (8 * k + j) 0 : Nat) : Int)) := fun j hj => by
        have h2 : (u8s b)[8 * k + j]? = some (.int .u8 ((b.getD (8 * k + j) 0 : Nat) : Int)) := by
          simp only [u8s, List.getElem?_map, List.getD]
          rw [List.getElem?_eq_getElem (by omega)]
          rfl
        rw [bcell hbr (Nat.lt_of_lt_of_le hg hB), hc (8 * k + j) _ h2]
      have hb0 : ∀ j, 0 ≤ ((b.getD (8 * k + j) 0 : Nat) : Int) ∧ ((b.getD (8 * k + j) 0 : Nat) : Int) < 256 := fun j => by
        by_cases h : 8 * k + j < b.length
        · rw [getD_lt h]; have := h8 _ (List.getElem_mem h); exact ⟨by omega, by omega⟩
        · rw [getD_ge (by omega)]; exact ⟨by decide, by decide⟩
      have hwt := wordsN_take b k
      have HO := Lib.hid hown
      have HC := Lib.hid hcs
      have HB0 := Lib.hid hb0
      have HA := Lib.hid hA
      have HWT := Lib.hid hwt
      clear hown hc hcs hb0 hA hwt
      have e8 : ((8 * k : Nat) : Int) = 8 * (k : Int) := by omega
      go_wp2_with fail
      have hcall := rof_any g off b.length cp (8 * k) _ _ _ _ _ _ _ _ wr (HB0.out 0) (HB0.out 1) (HB0.out 2) (HB0.out 3) (HB0.out 4) (HB0.out 5) (HB0.out 6) (HB0.out 7) (HC.out 0 (by decide)) (HC.out 1 (by decide)) (HC.out 2 (by decide)) (HC.out 3 (by decide)) (HC.out 4 (by decide)) (HC.out 5 (by decide)) (HC.out 6 (by decide)) (HC.out 7 (by decide)) h8k (by omega)
      rw [e8] at hcall
      refine hcall.mono ?_
      clear hcall e8
      rintro e w2 ⟨rfl, rfl⟩
      rw [show ofB _ _ _ _ _ _ _ _ = ((wordAt b k : Nat) : Int) from (bySum_ofB _).symm]
      go_wp2_with (at_builtin; refine app64 rfl _ _ rfl w.heap.size _ k _ rfl (HO.out.alloc _) (wr.heap.size + 1) 1 1 (some ⟨wr.heap.size, 0, none⟩) [wordAt b k] rfl rfl (by exact RdS.new wr _ #[.int .u64 ((wordAt b k : Nat) : Int)]) (by omega) (by exact (balloc hbr _).size) ?_; intro v' w3 hown3 hgrow)
      rw [← u64s_append, ← HWT.out] at hown3
      have hb3 := bgrown (balloc hbr _) hgrow (own_base HO.out)
      have HO3 := Lib.hid hown3
      clear hown3 hgrow
      go_wp2
      go_roundw
      case rel => exact ⟨k + 1, by omega, by go_num, HO3.out, hb3⟩
      case measure => simp [intOf]; omega
    · have hkk : b.length / 8 = k := by omega
      have HKK := Lib.hid hkk
      clear hkk
      obtain ⟨A', c', rfl, hlc, hrd⟩ := own_rd hown
      have HRD := Lib.hid hrd
      clear hown hrd
      go_wp2
      go_ret2
      exact ⟨A', c', by rw [wordsN_len, HKK.out]; rfl, by rw [wordsN_len, HKK.out]; exact hlc, by unfold wordsN; rw [HKK.out]; exact HRD.out, hbr⟩

end Go.Proofs.Ytcpapdjjeinpmaa
