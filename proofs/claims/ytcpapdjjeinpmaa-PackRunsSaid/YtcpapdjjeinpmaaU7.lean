/- Lemmas and contracts used by the proofs of this seat's laws (part U7); each theorem bears its own conditions. -/
import Derived.Test.YtcpapdjjeinpmaaRows
import Derived.Test.YtcpapdjjeinpmaaNum
import Derived.Test.YtcpapdjjeinpmaaMem
import Derived.Test.YtcpapdjjeinpmaaPk
import Derived.Test.YtcpapdjjeinpmaaWordB
import Derived.Test.YtcpapdjjeinpmaaOps
import Derived.Test.YtcpapdjjeinpmaaP2
import Derived.Test.YtcpapdjjeinpmaaF3
import Derived.Test.YtcpapdjjeinpmaaU1
import Derived.Test.YtcpapdjjeinpmaaU2
import Derived.Test.YtcpapdjjeinpmaaU3
import Derived.Test.YtcpapdjjeinpmaaU4
import Derived.Test.YtcpapdjjeinpmaaU5
import Derived.Test.YtcpapdjjeinpmaaU6
import Derived.WalkKit
import Derived.WalkSpells
import Derived.WalkLawsBesides
import Derived.Lib.Hide
import Derived.BigQuiet
import Derived.StillTailTactics
import Derived.Deep.RegionHeld3
import Derived.Deep.AppendLies
import Derived.Laws.CopyOwn
import Derived.Deep.DeepCutAuto
import Derived.Deep.QuietTactic
namespace Go.Proofs.Ytcpapdjjeinpmaa
open Go.RowKit
set_option linter.unusedVariables false
set_option maxRecDepth 100000 in
set_option maxHeartbeats 8000000 in
theorem runpack_any (b : List Nat) (m : Int) (B cp : Nat) (A : Option Addr) (w : World) (hA : RdS w B A (u8s b)) (hB : B ≤ w.heap.size) (h8 : ∀ n ∈ b, n < 256) (hcp : b.length ≤ cp) (hl : b.length ≤ 68719476736) (hm : m ≤ 9223372036854775807) :
    Calls Try.prog 42 #[.slice A b.length cp, .int .i64 m] w (RetU (unpG b [] m.toNat) w) := by
  have hmb : m.toNat ≤ 9223372036854775807 := by omega
  have hmx : m < 0 → m.toNat = 0 := by omega
  have hmy : ¬ m < 0 → m = ((m.toNat : Nat) : Int) := by omega
  generalize m.toNat = mm at *
  have HMX := Lib.hid hmx
  have HMY := Lib.hid hmy
  clear hmx hmy
  go_enter Try.func42, Try.ntmps42
  go_upto_if 14 with (fail)
  go_cut [1] (fun v wr => v = .int .i64 (mm : Nat) ∧ w = wr)
  case first =>
    by_cases h0 : m < 0
    · go_wp2_with fail
      go_meet
      exact ⟨by rw [HMX.out h0]; rfl, rfl⟩
    · go_wp2_with fail
      go_meet
      exact ⟨by rw [← HMY.out h0], rfl⟩
  case rest =>
    obtain ⟨rfl, rfl⟩ := hcut
    clear HMX HMY hm
    go_wp2_with fail
    go_loopw [6, 7, 8, 9, 10, 11, 12] (fun v i _ _ _ _ _ wr => ∃ (a : Nat) (words : List Nat), i = .int .i64 a ∧ a ≤ b.length ∧ wr.ownsRow w.heap.size 31 1 v words.length (u64s words) ∧ unpG (b.drop a) words mm = unpG b [] mm ∧ words.length + 128 * (b.length - a) ≤ 8796093022208 ∧ Below w.heap.size w wr) (fun _ i _ _ _ _ _ _ => b.length - (intOf i).toNat)
    case atStart => exact ⟨0, [], rfl, by omega, by simpa [u64s] using World.ownsRow_nil w w.heap.size 31 1, rfl, by simp; omega, Below.refl _ _⟩
    case round =>
      obtain ⟨a, words, rfl, ha, hown, hun, hM, hbr⟩ := hrel
      have HO := Lib.hid hown
      have HUN := Lib.hid hun
      clear hown hun
      by_cases hlt : a < b.length
      · obtain ⟨g, off, hA', hg, hc⟩ := Rd8.at_ hA hlt
        subst hA'
        have ht8 : b.getD a 0 < 256 := by rw [getD_lt hlt]; exact h8 _ (List.getElem_mem hlt)
        have hdr : b.drop a = b.getD a 0 :: b.drop (a + 1) := by rw [List.drop_eq_getElem_cons hlt, getD_lt hlt]
        have hun2 := HUN.out
        rw [hdr, unpG_cons] at hun2
        have hcells : ∀ k, k < b.length → w.cell? ⟨g, off + k, none⟩ = some (.int .u8 (b.getD k 0 : Nat)) := fun k hk => by
          obtain ⟨g', off', he, _, hck⟩ := Rd8.at_ hA hk
          injection he with he
          injection he with e1 e2 _
          subst e1 e2
          exact hck
        have h8d : ∀ k, b.getD k 0 < 256 := fun k => by
          by_cases h : k < b.length
          · rw [getD_lt h]; exact h8 _ (List.getElem_mem h)
          · rw [getD_ge (by omega)]; decide
        have hrl : (b.drop (a + 1)).length = b.length - (a + 1) := List.length_drop
        have hrg : ∀ k, (b.drop (a + 1)).getD k 0 = b.getD (a + 1 + k) 0 := fun k => getD_drop b (a + 1) k
        have hg' : g < w.heap.size := Nat.lt_of_lt_of_le hg hB
        have hc0 := (bcell hbr (o := off + a) hg').trans hc
        generalize b.getD a 0 = t at *
        generalize hr : b.drop (a + 1) = r at *
        have HUN2 := Lib.hid hun2
        have HCE := Lib.hid hcells
        have H8D := Lib.hid h8d
        have HRG := Lib.hid hrg
        have HR := Lib.hid hr
        have HA := Lib.hid hA
        have H8 := Lib.hid h8
        clear hun2 hcells h8d hrg hr hA hdr hc h8
        obtain ⟨Av, cv, hv, hvc, _⟩ := own_rd HO.out
        subst hv
        have hi1 : (a : Int) < (b.length : Int) := by omega
        go_wp2_with fail
        obtain ⟨wo, rfl⟩ : ∃ wo : World, wo = wr := ⟨_, rfl⟩
        go_loopw [7, 10] (fun i k wr2 => ∃ n : Nat, n ≤ 8 ∧ k = .int .i64 n ∧ i = .int .i64 (a + 1 + rankN t n : Nat) ∧ rankN t n ≤ r.length ∧ wo.heap.size < wr2.heap.size ∧ (∀ j < 8, wr2.cell? ⟨wo.heap.size, j, none⟩ = some (.int .u8 ((if j < n then sprF t r j else 0 : Nat) : Int))) ∧ (∀ j, wr2.frozen? ⟨wo.heap.size, j, none⟩ = false) ∧ Below wo.heap.size wo wr2) (fun _ k _ => 8 - (intOf k).toNat)
        case atStart =>
          refine ⟨0, by omega, rfl, by go_num, by simp [rankN], by simp, fun j hj => ?_, fun j => by simp, (Below.refl _ _).alloc (Nat.le_refl _) _⟩
          have := cells8 wo 32 (fun _ => .int .u8 0) j hj
          simpa using this
        case round =>
          obtain ⟨n, hn, rfl, rfl, hrk, hsz, hcell, hfr, hb2⟩ := hrel
          have HC := Lib.hid hcell
          have HF := Lib.hid hfr
          clear hcell hfr
          by_cases hlt8 : n < 8
          · go_wp2_with fail
            refine (named_any t n _ ht8 (by omega)).mono ?_
            rintro e w3 ⟨rfl, rfl⟩
            by_cases hb : bitB t n = true
            · have hs := rankN_yes hb
              have hrl2 := rankN_lt hb hlt8
              have hsp : sprF t r n = r.getD (rankN t n) 0 := by unfold sprF; rw [if_pos hb]
              rw [HRG.out] at hsp
              have HS := Lib.hid hs
              have HSP := Lib.hid hsp
              rw [hb]
              clear hs hsp hb
              generalize rankN t n = rk at *
              by_cases hend : rk < r.length
              · have hce := HCE.out (a + 1 + rk) (by omega)
                have hc1 := (bcell hb2 (o := off + (a + 1 + rk)) (Nat.lt_of_lt_of_le hg' hbr.size)).trans ((bcell hbr hg').trans hce)
                have hck := HC.out n hlt8
                rw [if_neg (Nat.lt_irrefl n)] at hck
                have hfk := HF.out n
                generalize hy : b.getD (a + 1 + rk) 0 = y at *
                have HY := Lib.hid hy
                clear hy hce
                have hi2 : ((a + 1 + rk : Nat) : Int) < (b.length : Int) := by omega
                go_wp2
                go_roundw
                case rel => exact ⟨n + 1, by omega, by go_num, by rw [HS.out]; go_num, by rw [HS.out]; omega, by simpa using hsz, fun j hj => by
                  by_cases h2 : j = n
                  · subst h2
                    rw [World.cell?_setCell_same _ _ _ hck, if_pos (by omega), HSP.out]
                  · rw [World.cell?_setCell_other _ _ _ _ (by intro he; injection he with _ h3 _; exact h2 h3.symm), HC.out j hj]
                    congr 3
                    by_cases h1 : j < n
                    · rw [if_pos h1, if_pos (by omega)]
                    · rw [if_neg h1, if_neg (by omega)], fun j => by rw [World.frozen?_setCell]; exact HF.out j, hb2.setCell (Nat.le_refl _) _⟩
                case measure => simp [intOf]; omega
              · have hi2 : ¬ ((a + 1 + rk : Nat) : Int) < (b.length : Int) := by omega
                have hres : unpG b [] mm = ([], 4) := by
                  have h := HUN2.out
                  have e : nextM t r words mm = (4, [], []) := by unfold nextM; rw [if_pos (by omega)]
                  rw [e] at h
                  exact h.symm
                have HRES := Lib.hid hres
                clear hres
                go_wp2
                go_ret2
                exact ⟨none, 0, by rw [HRES.out]; rfl, by rw [HRES.out]; exact RdS.nil _ _ _, bstep hbr hb2⟩
            · have hbf : bitB t n = false := by simpa using hb
              have hs := rankN_no hbf
              have hsp : sprF t r n = 0 := by unfold sprF; rw [if_neg hb]
              have HS := Lib.hid hs
              have HSP := Lib.hid hsp
              rw [hbf]
              clear hs hsp hb hbf
              go_wp2
              go_roundw
              case rel => exact ⟨n + 1, by omega, by go_num, by rw [HS.out]; go_num, by rw [HS.out]; exact hrk, hsz, fun j hj => by
                rw [HC.out j hj]
                congr 3
                by_cases h1 : j < n
                · rw [if_pos h1, if_pos (by omega)]
                · rw [if_neg h1]
                  by_cases h2 : j = n
                  · subst h2; rw [if_pos (by omega), HSP.out]
                  · rw [if_neg (by omega)], HF.out, hb2⟩
              case measure => simp [intOf]; omega
          · obtain rfl : n = 8 := by omega
            rw [rankN_full] at *
            have hbd : ∀ i, 0 ≤ ((sprF t r i : Nat) : Int) ∧ ((sprF t r i : Nat) : Int) < 256 := fun i => by
              have h := sprF_lt (t := t) (ps := r) (fun n hn => by rw [← HR.out] at hn; exact H8.out n (List.mem_of_mem_drop hn)) i
              exact ⟨by omega, by omega⟩
            have hcs : ∀ j, j < 8 → wr.cell? ⟨wo.heap.size, 0 + (0 + j), none⟩ = some (.int .u8 ((sprF t r j : Nat) : Int)) := fun j hj => by rw [Nat.zero_add, Nat.zero_add, HC.out j hj, if_pos hj]
            have hst := sprN_take t r
            have hsb : bySum (sprF t r) 8 = sprN t r := rfl
            have hdd : b.drop (a + 1 + popN t) = r.drop (popN t) := by rw [← HR.out, List.drop_drop]
            have HBD := Lib.hid hbd
            have HCS := Lib.hid hcs
            have HST := Lib.hid hst
            have HSB := Lib.hid hsb
            have HDD := Lib.hid hdd
            have hpl := popN_le t
            have hnm : nextM t r words mm = if r.length < popN t then (4, [], []) else if mm < words.length + 1 then (3, [], []) else if t = 0 ∨ t = 255 then runM t (r.drop (popN t)) (words ++ [sprN t (r.take (popN t))]) mm else (0, r.drop (popN t), words ++ [sprN t (r.take (popN t))]) := rfl
            rw [if_neg (by omega), hst] at hnm
            have HNM := Lib.hid hnm
            have HOW := Lib.hid (own_below HO.out hb2)
            have hbw := bstep hbr hb2
            have hcl : words.length + 128 * (b.length - (a + 1 + popN t)) + 128 ≤ 8796093022208 := by omega
            have hcl2 : (t ≠ 0 → 1 ≤ popN t) := fun h => popN_pos ht8 h
            have HCL2 := Lib.hid hcl2
            clear hbd hcs hst hsb hdd hnm hcl2
            generalize popN t = p at *
            by_cases hfull : mm ≤ words.length
            · have hfI : (mm : Int) ≤ (words.length : Int) := by omega
              have hres : unpG b [] mm = ([], 3) := by
                have h := HUN2.out
                have e : nextM t r words mm = (3, [], []) := by rw [HNM.out, if_pos (by omega)]
                rw [e] at h
                exact h.symm
              have HRES := Lib.hid hres
              clear hres
              go_wp2
              go_ret2
              exact ⟨none, 0, by rw [HRES.out]; rfl, by rw [HRES.out]; exact RdS.nil _ _ _, hbw⟩
            · have hfI : ¬ (mm : Int) ≤ (words.length : Int) := by omega
              go_wp2_with fail
              refine (rof_any wo.heap.size 0 8 8 0 _ _ _ _ _ _ _ _ _ (HBD.out 0) (HBD.out 1) (HBD.out 2) (HBD.out 3) (HBD.out 4) (HBD.out 5) (HBD.out 6) (HBD.out 7) (HCS.out 0 (by decide)) (HCS.out 1 (by decide)) (HCS.out 2 (by decide)) (HCS.out 3 (by decide)) (HCS.out 4 (by decide)) (HCS.out 5 (by decide)) (HCS.out 6 (by decide)) (HCS.out 7 (by decide)) (by decide) (by decide)).mono ?_
              rintro e w4 ⟨rfl, rfl⟩
              rw [← bySum_ofB, HSB.out]
              generalize sprN t r = x at *
              have HNM2 : Hid (nextM t r words mm = if t = 0 ∨ t = 255 then runM t (r.drop p) (words ++ [x]) mm else (0, r.drop p, words ++ [x])) := by
                have := HNM.out
                rw [if_neg (by omega)] at this
                exact this
              by_cases h0 : t = 0
              · subst h0
                have hun3 : unpG b [] mm = if (runM 0 (r.drop p) (words ++ [x]) mm).1 = 0 then unpG (runM 0 (r.drop p) (words ++ [x]) mm).2.1 (runM 0 (r.drop p) (words ++ [x]) mm).2.2 mm else ([], (runM 0 (r.drop p) (words ++ [x]) mm).1) := by
                  have h := HUN2.out
                  have e : nextM 0 r words mm = runM 0 (r.drop p) (words ++ [x]) mm := by rw [HNM2.out, if_pos (by omega)]
                  rw [e] at h
                  exact h.symm
                have HUN3 := Lib.hid hun3
                clear hun3
                by_cases hend : a + 1 + p < b.length
                · have hdn : r.drop p = b.getD (a + 1 + p) 0 :: b.drop (a + 1 + p + 1) := by rw [← HDD.out, List.drop_eq_getElem_cons hend, getD_lt hend]
                  have hce := HCE.out (a + 1 + p) hend
                  have hn8 := H8D.out (a + 1 + p)
                  have hr2l : (b.drop (a + 1 + p + 1)).length = b.length - (a + 1 + p + 1) := List.length_drop
                  generalize b.getD (a + 1 + p) 0 = n at *
                  generalize hr2 : b.drop (a + 1 + p + 1) = r2 at *
                  have hrm : runM 0 (r.drop p) (words ++ [x]) mm = if 0 = 255 ∧ r2.length < 8 * n then (4, [], []) else if mm < (words ++ [x]).length + (runW 0 n r2).length then (3, [], []) else (0, (if 0 = 255 then r2.drop (8 * n) else r2), (words ++ [x]) ++ runW 0 n r2) := by rw [hdn]; rfl
                  have hwx : (words ++ [x]).length = words.length + 1 := by simp
                  have HRM := Lib.hid hrm
                  have HR2 := Lib.hid hr2
                  have HWX := Lib.hid hwx
                  have HCE1 := Lib.hid hce
                  have hr2l' : r2.length + (a + 1 + p + 1) = b.length := by omega
                  have HR2L := Lib.hid hr2l'
                  clear hdn hrm hr2 hwx hce hr2l hr2l'
                  have hi5 : ((a + 1 + p : Nat) : Int) < (b.length : Int) := by omega
                  have hrl := runW_len 0 n r2 (fun h => by omega)
                  have hrw : runW 0 n r2 = List.replicate n 0 := by unfold runW; rw [if_neg (by decide)]
                  by_cases hfit : words.length + 1 + n ≤ mm
                  · have hfI2 : ¬ (mm : Int) < (words.length : Int) + 1 + (n : Int) := by omega
                    have HUN4 : Hid (unpG r2 ((words ++ [x]) ++ List.replicate n 0) mm = unpG b [] mm) := by
                      have e : runM 0 (r.drop p) (words ++ [x]) mm = (0, (if 0 = 255 then r2.drop (8 * n) else r2), (words ++ [x]) ++ runW 0 n r2) := by rw [HRM.out, if_neg (fun h => absurd h.1 (by decide)), if_neg (by rw [hrl, HWX.out]; omega)]
                      show _ = _
                      rw [HUN3.out, e, hrw]; rfl
                    clear hrl hrw
                    go_wp2_with (at_builtin; refine app64 rfl _ _ rfl w.heap.size _ words.length _ rfl (HOW.out.alloc _) (wr.heap.size + 1) 1 1 (some ⟨wr.heap.size, 0, none⟩) [x] rfl rfl (by exact RdS.new wr _ #[.int .u64 (x : Int)]) (by omega) (by exact (balloc hbw _).size) ?_; intro v5 w5 hown5 hgrow5; have hb5 := bgrown (balloc hbw _) hgrow5 (own_base HOW.out); rw [← u64s_append] at hown5; obtain ⟨A5, c5, e5, hc5, _⟩ := own_rd hown5; subst e5; have HO5 := Lib.hid hown5; have hcn : w5.cell? ⟨g, off + (a + 1 + p), none⟩ = some (.int .u8 (n : Nat)) := (bcell hb5 hg').trans HCE1.out; clear hown5 hgrow5)
                    obtain ⟨wq, rfl⟩ : ∃ wq : World, wq = wr := ⟨_, rfl⟩
                    go_loopw [6, 7, 12] (fun v at_ i_ wr3 => ∃ i : Nat, i ≤ n ∧ i_ = .int .i64 i ∧ at_ = .int .i64 (a + 1 + p + 1 : Nat) ∧ wr3.ownsRow w.heap.size 31 1 v (words.length + 1 + i) (u64s ((words ++ [x]) ++ List.replicate i 0)) ∧ Below w.heap.size w wr3) (fun _ _ i_ _ => n - (intOf i_).toNat)
                    case atStart => exact ⟨0, by omega, rfl, by go_num, by simpa using HO5.out, hb5⟩
                    case round =>
                      obtain ⟨i, hi, rfl, rfl, hown6, hbr6⟩ := hrel
                      have HO6 := Lib.hid hown6
                      clear hown6
                      by_cases hin : i < n
                      · have hst := rep_snoc i
                        have HST2 := Lib.hid hst
                        clear hst
                        go_wp2_with (at_builtin; refine app64 rfl _ _ rfl w.heap.size _ (words.length + 1 + i) _ rfl (HO6.out.alloc _) (wr.heap.size + 1) 1 1 (some ⟨wr.heap.size, 0, none⟩) [0] rfl rfl (by exact RdS.new wr _ #[.int .u64 0]) (by omega) (by exact (balloc hbr6 _).size) ?_; intro v7 w7 hown7 hgrow7)
                        have hb7 := bgrown (balloc hbr6 _) hgrow7 (own_base HO6.out)
                        rw [← u64s_append] at hown7
                        have HO7 := Lib.hid hown7
                        clear hown7 hgrow7
                        go_wp2
                        go_roundw
                        case rel => exact ⟨i + 1, by omega, by go_num, by go_num, by rw [HST2.out, ← List.append_assoc]; exact HO7.out, hb7⟩
                        case measure => simp [intOf]; omega
                      · obtain rfl : i = n := by omega
                        have HO8 := Lib.hid (by have h := HO6.out; rw [own_len h, u64s_len] at h; exact h)
                        go_wp2
                        go_roundw
                        case rel => exact ⟨a + 1 + p + 1, (words ++ [x]) ++ List.replicate i 0, by go_num, by omega, HO8.out, by rw [HR2.out]; exact HUN4.out, by rw [List.length_append, HWX.out, List.length_replicate]; omega, hbr6⟩
                        case measure => simp [intOf]; omega
                  · have hfI2 : (mm : Int) < (words.length : Int) + 1 + (n : Int) := by omega
                    have hres : unpG b [] mm = ([], 3) := by
                      have e : runM 0 (r.drop p) (words ++ [x]) mm = (3, [], []) := by rw [HRM.out, if_neg (fun h => absurd h.1 (by decide)), if_pos (by rw [hrl, HWX.out]; omega)]
                      rw [HUN3.out, e]; rfl
                    clear hrl hrw
                    have HRES := Lib.hid hres
                    clear hres
                    go_wp2_with (at_builtin; refine app64 rfl _ _ rfl w.heap.size _ words.length _ rfl (HOW.out.alloc _) (wr.heap.size + 1) 1 1 (some ⟨wr.heap.size, 0, none⟩) [x] rfl rfl (by exact RdS.new wr _ #[.int .u64 (x : Int)]) (by omega) (by exact (balloc hbw _).size) ?_; intro v5 w5 hown5 hgrow5; have hb5 := bgrown (balloc hbw _) hgrow5 (own_base HOW.out); rw [← u64s_append] at hown5; obtain ⟨A5, c5, e5, hc5, _⟩ := own_rd hown5; subst e5; have HO5 := Lib.hid hown5; have hcn : w5.cell? ⟨g, off + (a + 1 + p), none⟩ = some (.int .u8 (n : Nat)) := (bcell hb5 hg').trans HCE1.out; clear hown5 hgrow5)
                    go_ret2
                    exact ⟨none, 0, by rw [HRES.out]; rfl, by rw [HRES.out]; exact RdS.nil _ _ _, hb5⟩
                · have hendI : ¬ ((a + 1 + p : Nat) : Int) < (b.length : Int) := by omega
                  have hres : unpG b [] mm = ([], 4) := by
                    rw [HUN3.out, show r.drop p = [] from List.drop_eq_nil_of_le (by omega)]; rfl
                  have HRES := Lib.hid hres
                  clear hres
                  go_wp2_with (at_builtin; refine app64 rfl _ _ rfl w.heap.size _ words.length _ rfl (HOW.out.alloc _) (wr.heap.size + 1) 1 1 (some ⟨wr.heap.size, 0, none⟩) [x] rfl rfl (by exact RdS.new wr _ #[.int .u64 (x : Int)]) (by omega) (by exact (balloc hbw _).size) ?_; intro v5 w5 hown5 hgrow5; have hb5 := bgrown (balloc hbw _) hgrow5 (own_base HOW.out); rw [← u64s_append] at hown5; obtain ⟨A5, c5, e5, hc5, _⟩ := own_rd hown5; subst e5; have HO5 := Lib.hid hown5; clear hown5 hgrow5)
                  go_ret2
                  exact ⟨none, 0, by rw [HRES.out]; rfl, by rw [HRES.out]; exact RdS.nil _ _ _, hb5⟩
              · by_cases h255 : t = 255
                · subst h255
                  have hun3 : unpG b [] mm = if (runM 255 (r.drop p) (words ++ [x]) mm).1 = 0 then unpG (runM 255 (r.drop p) (words ++ [x]) mm).2.1 (runM 255 (r.drop p) (words ++ [x]) mm).2.2 mm else ([], (runM 255 (r.drop p) (words ++ [x]) mm).1) := by
                    have h := HUN2.out
                    have e : nextM 255 r words mm = runM 255 (r.drop p) (words ++ [x]) mm := by rw [HNM2.out, if_pos (by omega)]
                    rw [e] at h
                    exact h.symm
                  have HUN3 := Lib.hid hun3
                  clear hun3
                  by_cases hend : a + 1 + p < b.length
                  · have hdn : r.drop p = b.getD (a + 1 + p) 0 :: b.drop (a + 1 + p + 1) := by rw [← HDD.out, List.drop_eq_getElem_cons hend, getD_lt hend]
                    have hce := HCE.out (a + 1 + p) hend
                    have hn8 := H8D.out (a + 1 + p)
                    have hr2l : (b.drop (a + 1 + p + 1)).length = b.length - (a + 1 + p + 1) := List.length_drop
                    generalize b.getD (a + 1 + p) 0 = n at *
                    generalize hr2 : b.drop (a + 1 + p + 1) = r2 at *
                    have hrm : runM 255 (r.drop p) (words ++ [x]) mm = if 255 = 255 ∧ r2.length < 8 * n then (4, [], []) else if mm < (words ++ [x]).length + (runW 255 n r2).length then (3, [], []) else (0, (if 255 = 255 then r2.drop (8 * n) else r2), (words ++ [x]) ++ runW 255 n r2) := by rw [hdn]; rfl
                    have hwx : (words ++ [x]).length = words.length + 1 := by simp
                    have HRM := Lib.hid hrm
                    have HR2 := Lib.hid hr2
                    have HWX := Lib.hid hwx
                    have HCE1 := Lib.hid hce
                    have hr2l' : r2.length + (a + 1 + p + 1) = b.length := by omega
                    have HR2L := Lib.hid hr2l'
                    clear hdn hrm hr2 hwx hce hr2l hr2l'
                    have hi5 : ((a + 1 + p : Nat) : Int) < (b.length : Int) := by omega
                    by_cases hcut : r2.length < 8 * n
                    · have hcI : (b.length : Int) < ((a + 1 + p : Nat) : Int) + 1 + 8 * (n : Int) := by have := HR2L.out; omega
                      have hres : unpG b [] mm = ([], 4) := by
                        have e : runM 255 (r.drop p) (words ++ [x]) mm = (4, [], []) := by rw [HRM.out, if_pos ⟨rfl, hcut⟩]
                        rw [HUN3.out, e]; rfl
                      have HRES := Lib.hid hres
                      clear hres
                      go_wp2_with (at_builtin; refine app64 rfl _ _ rfl w.heap.size _ words.length _ rfl (HOW.out.alloc _) (wr.heap.size + 1) 1 1 (some ⟨wr.heap.size, 0, none⟩) [x] rfl rfl (by exact RdS.new wr _ #[.int .u64 (x : Int)]) (by omega) (by exact (balloc hbw _).size) ?_; intro v5 w5 hown5 hgrow5; have hb5 := bgrown (balloc hbw _) hgrow5 (own_base HOW.out); rw [← u64s_append] at hown5; obtain ⟨A5, c5, e5, hc5, _⟩ := own_rd hown5; subst e5; have HO5 := Lib.hid hown5; have hcn : w5.cell? ⟨g, off + (a + 1 + p), none⟩ = some (.int .u8 (n : Nat)) := (bcell hb5 hg').trans HCE1.out; clear hown5 hgrow5)
                      go_ret2
                      exact ⟨none, 0, by rw [HRES.out]; rfl, by rw [HRES.out]; exact RdS.nil _ _ _, hb5⟩
                    · have hcI : ¬ (b.length : Int) < ((a + 1 + p : Nat) : Int) + 1 + 8 * (n : Int) := by have := HR2L.out; omega
                      have hcb : a + 1 + p + 1 + 8 * n ≤ b.length := by have := HR2L.out; omega
                      have hrl := runW_len 255 n r2 (fun _ => by omega)
                      have hrw : runW 255 n r2 = (List.range n).map (wordAt (r2.take (8 * n))) := by
                        unfold runW wordsN
                        rw [if_pos rfl, show (r2.take (8 * n)).length / 8 = n by rw [List.length_take]; omega]
                      by_cases hfit : words.length + 1 + n ≤ mm
                      · have hfI2 : ¬ (mm : Int) < (words.length : Int) + 1 + (n : Int) := by omega
                        have HUN4 : Hid (unpG (r2.drop (8 * n)) ((words ++ [x]) ++ (List.range n).map (wordAt (r2.take (8 * n)))) mm = unpG b [] mm) := by
                          have e : runM 255 (r.drop p) (words ++ [x]) mm = (0, (if 255 = 255 then r2.drop (8 * n) else r2), (words ++ [x]) ++ runW 255 n r2) := by rw [HRM.out, if_neg (fun h => hcut h.2), if_neg (by rw [hrl, HWX.out]; omega)]
                          show _ = _
                          rw [HUN3.out, e, hrw]; rfl
                        clear hrl hrw
                        go_wp2_with (at_builtin; refine app64 rfl _ _ rfl w.heap.size _ words.length _ rfl (HOW.out.alloc _) (wr.heap.size + 1) 1 1 (some ⟨wr.heap.size, 0, none⟩) [x] rfl rfl (by exact RdS.new wr _ #[.int .u64 (x : Int)]) (by omega) (by exact (balloc hbw _).size) ?_; intro v5 w5 hown5 hgrow5; have hb5 := bgrown (balloc hbw _) hgrow5 (own_base HOW.out); rw [← u64s_append] at hown5; obtain ⟨A5, c5, e5, hc5, _⟩ := own_rd hown5; subst e5; have HO5 := Lib.hid hown5; have hcn : w5.cell? ⟨g, off + (a + 1 + p), none⟩ = some (.int .u8 (n : Nat)) := (bcell hb5 hg').trans HCE1.out; clear hown5 hgrow5)
                        obtain ⟨wq, rfl⟩ : ∃ wq : World, wq = wr := ⟨_, rfl⟩
                        go_loopw [6, 7, 12] (fun v at_ i_ wr3 => ∃ i : Nat, i ≤ n ∧ i_ = .int .i64 i ∧ at_ = .int .i64 (a + 1 + p + 1 + 8 * i : Nat) ∧ wr3.ownsRow w.heap.size 31 1 v (words.length + 1 + i) (u64s ((words ++ [x]) ++ (List.range i).map (wordAt (r2.take (8 * n))))) ∧ Below w.heap.size w wr3) (fun _ _ i_ _ => n - (intOf i_).toNat)
                        case atStart => exact ⟨0, by omega, rfl, by go_num, by simpa using HO5.out, hb5⟩
                        case round =>
                          obtain ⟨i, hi, rfl, rfl, hown6, hbr6⟩ := hrel
                          have HO6 := Lib.hid hown6
                          clear hown6
                          by_cases hin : i < n
                          · have hst := wordsN_take (r2.take (8 * n)) i
                            have HST2 := Lib.hid hst
                            clear hst
                            have hk8 : ∀ j, j < 8 → a + 1 + p + 1 + 8 * i + j < b.length := fun j hj => by omega
                            have hcs7 : ∀ j, j < 8 → wr.cell? ⟨g, off + (a + 1 + p + 1 + 8 * i + j), none⟩ = some (.int .u8 ((b.getD (a + 1 + p + 1 + 8 * i + j) 0 : Nat) : Int)) := fun j hj => (bcell hbr6 hg').trans (HCE.out _ (hk8 j hj))
                            have hbd7 : ∀ j, 0 ≤ ((b.getD (a + 1 + p + 1 + 8 * i + j) 0 : Nat) : Int) ∧ ((b.getD (a + 1 + p + 1 + 8 * i + j) 0 : Nat) : Int) < 256 := fun j => ⟨by omega, by have := H8D.out (a + 1 + p + 1 + 8 * i + j); omega⟩
                            have hwt : bySum (fun j => b.getD (a + 1 + p + 1 + 8 * i + j) 0) 8 = wordAt (r2.take (8 * n)) i := by
                              unfold wordAt
                              refine mixN_congr _ _ 8 fun j hj => ?_
                              rw [← HR2.out]
                              simp only [List.getD, List.getElem?_take, List.getElem?_drop, if_pos (show 8 * i + j < 8 * n by omega), Nat.add_assoc]
                            have HCS7 := Lib.hid hcs7
                            have HBD7 := Lib.hid hbd7
                            have HWT := Lib.hid hwt
                            clear hcs7 hbd7 hwt hk8
                            go_wp2_with fail
                            refine (rof_any g off b.length cp (a + 1 + p + 1 + 8 * i) _ _ _ _ _ _ _ _ _ (HBD7.out 0) (HBD7.out 1) (HBD7.out 2) (HBD7.out 3) (HBD7.out 4) (HBD7.out 5) (HBD7.out 6) (HBD7.out 7) (HCS7.out 0 (by decide)) (HCS7.out 1 (by decide)) (HCS7.out 2 (by decide)) (HCS7.out 3 (by decide)) (HCS7.out 4 (by decide)) (HCS7.out 5 (by decide)) (HCS7.out 6 (by decide)) (HCS7.out 7 (by decide)) (by omega) (by omega)).mono ?_
                            rintro e w6 ⟨rfl, rfl⟩
                            rw [← bySum_ofB (fun j => b.getD (a + 1 + p + 1 + 8 * i + j) 0), HWT.out]
                            generalize wordAt (r2.take (8 * n)) i = y at *
                            go_wp2_with (at_builtin; refine app64 rfl _ _ rfl w.heap.size _ (words.length + 1 + i) _ rfl (HO6.out.alloc _) (wr.heap.size + 1) 1 1 (some ⟨wr.heap.size, 0, none⟩) [y] rfl rfl (by exact RdS.new wr _ #[.int .u64 (y : Int)]) (by omega) (by exact (balloc hbr6 _).size) ?_; intro v7 w7 hown7 hgrow7)
                            have hb7 := bgrown (balloc hbr6 _) hgrow7 (own_base HO6.out)
                            rw [← u64s_append] at hown7
                            have HO7 := Lib.hid hown7
                            clear hown7 hgrow7
                            go_wp2
                            go_roundw
                            case rel => exact ⟨i + 1, by omega, by go_num, by go_num, by rw [HST2.out, ← List.append_assoc]; exact HO7.out, hb7⟩
                            case measure => simp [intOf]; omega
                          · obtain rfl : i = n := by omega
                            have HO8 := Lib.hid (by have h := HO6.out; rw [own_len h, u64s_len] at h; exact h)
                            go_wp2
                            go_roundw
                            case rel => exact ⟨a + 1 + p + 1 + 8 * i, (words ++ [x]) ++ (List.range i).map (wordAt (r2.take (8 * i))), by go_num, by omega, HO8.out, by rw [← List.drop_drop, HR2.out]; exact HUN4.out, by rw [List.length_append, HWX.out, List.length_map, List.length_range]; omega, hbr6⟩
                            case measure => simp [intOf]; omega
                      · have hfI2 : (mm : Int) < (words.length : Int) + 1 + (n : Int) := by omega
                        have hres : unpG b [] mm = ([], 3) := by
                          have e : runM 255 (r.drop p) (words ++ [x]) mm = (3, [], []) := by rw [HRM.out, if_neg (fun h => hcut h.2), if_pos (by rw [hrl, HWX.out]; omega)]
                          rw [HUN3.out, e]; rfl
                        clear hrl hrw
                        have HRES := Lib.hid hres
                        clear hres
                        go_wp2_with (at_builtin; refine app64 rfl _ _ rfl w.heap.size _ words.length _ rfl (HOW.out.alloc _) (wr.heap.size + 1) 1 1 (some ⟨wr.heap.size, 0, none⟩) [x] rfl rfl (by exact RdS.new wr _ #[.int .u64 (x : Int)]) (by omega) (by exact (balloc hbw _).size) ?_; intro v5 w5 hown5 hgrow5; have hb5 := bgrown (balloc hbw _) hgrow5 (own_base HOW.out); rw [← u64s_append] at hown5; obtain ⟨A5, c5, e5, hc5, _⟩ := own_rd hown5; subst e5; have HO5 := Lib.hid hown5; have hcn : w5.cell? ⟨g, off + (a + 1 + p), none⟩ = some (.int .u8 (n : Nat)) := (bcell hb5 hg').trans HCE1.out; clear hown5 hgrow5)
                        go_ret2
                        exact ⟨none, 0, by rw [HRES.out]; rfl, by rw [HRES.out]; exact RdS.nil _ _ _, hb5⟩
                  · have hendI : ¬ ((a + 1 + p : Nat) : Int) < (b.length : Int) := by omega
                    have hres : unpG b [] mm = ([], 4) := by
                      rw [HUN3.out, show r.drop p = [] from List.drop_eq_nil_of_le (by omega)]; rfl
                    have HRES := Lib.hid hres
                    clear hres
                    go_wp2_with (at_builtin; refine app64 rfl _ _ rfl w.heap.size _ words.length _ rfl (HOW.out.alloc _) (wr.heap.size + 1) 1 1 (some ⟨wr.heap.size, 0, none⟩) [x] rfl rfl (by exact RdS.new wr _ #[.int .u64 (x : Int)]) (by omega) (by exact (balloc hbw _).size) ?_; intro v5 w5 hown5 hgrow5; have hb5 := bgrown (balloc hbw _) hgrow5 (own_base HOW.out); rw [← u64s_append] at hown5; obtain ⟨A5, c5, e5, hc5, _⟩ := own_rd hown5; subst e5; have HO5 := Lib.hid hown5; clear hown5 hgrow5)
                    go_ret2
                    exact ⟨none, 0, by rw [HRES.out]; rfl, by rw [HRES.out]; exact RdS.nil _ _ _, hb5⟩
                · have ht0 : ((t : Int) != 0) = true := bne_iff_ne.2 (by omega)
                  have ht1 : ((t : Int) != 255) = true := bne_iff_ne.2 (by omega)
                  have hun3 : unpG (r.drop p) (words ++ [x]) mm = unpG b [] mm := by
                    have h := HUN2.out
                    have e : nextM t r words mm = (0, r.drop p, words ++ [x]) := by rw [HNM2.out, if_neg (by omega)]
                    rw [e] at h
                    exact h
                  have HUN3 := Lib.hid hun3
                  have hp1 := HCL2.out h0
                  clear hun3 h0 h255
                  go_wp2_with (at_builtin; refine app64 rfl _ _ rfl w.heap.size _ words.length _ rfl (HOW.out.alloc _) (wr.heap.size + 1) 1 1 (some ⟨wr.heap.size, 0, none⟩) [x] rfl rfl (by exact RdS.new wr _ #[.int .u64 (x : Int)]) (by omega) (by exact (balloc hbw _).size) ?_; intro v5 w5 hown5 hgrow5)
                  have hb5 := bgrown (balloc hbw _) hgrow5 (own_base HOW.out)
                  rw [← u64s_append] at hown5
                  have HO5 := Lib.hid hown5
                  clear hown5 hgrow5
                  go_wp2
                  go_roundw
                  case rel => exact ⟨a + 1 + p, words ++ [x], by go_num, by omega, by rw [List.length_append]; exact HO5.out, by rw [HDD.out]; exact HUN3.out, by rw [List.length_append]; simp only [List.length_cons, List.length_nil]; omega, hb5⟩
                  case measure => simp [intOf]; omega
      · obtain rfl : a = b.length := by omega
        have hun2 : (words, 0) = unpG b [] mm := by have := HUN.out; rw [List.drop_length, unpG_nil] at this; exact this
        have HUN2 := Lib.hid hun2
        obtain ⟨Av, cv, hv, hvc, hvr⟩ := own_rd HO.out
        subst hv
        have HVR := Lib.hid hvr
        clear hun2 hvr
        go_wp2
        go_ret2
        exact ⟨Av, cv, by rw [← HUN2.out]; rfl, by rw [← HUN2.out]; exact HVR.out, hbr⟩

end Go.Proofs.Ytcpapdjjeinpmaa
