/- Lemmas and contracts used by the proofs of this seat's laws (part P4); each theorem bears its own conditions. -/
import Derived.Test.YtcpapdjjeinpmaaRows
import Derived.Test.YtcpapdjjeinpmaaNum
import Derived.Test.YtcpapdjjeinpmaaMem
import Derived.Test.YtcpapdjjeinpmaaPk
import Derived.Test.YtcpapdjjeinpmaaWordB
import Derived.Test.YtcpapdjjeinpmaaOps
import Derived.Test.YtcpapdjjeinpmaaP2
import Derived.Test.YtcpapdjjeinpmaaP3
import Derived.Test.YtcpapdjjeinpmaaF1
import Derived.WalkKit
import Derived.WalkSpells
import Derived.WalkLawsBesides
import Derived.Lib.Hide
import Derived.BigQuiet
import Derived.StillTailTactics
import Derived.Deep.RegionHeld3
import Derived.Deep.AppendLies
import Derived.Laws.CopyOwn
import Derived.Deep.DeepCutAuto
import Derived.Deep.QuietTactic
namespace Go.Proofs.Ytcpapdjjeinpmaa
open Go.RowKit
set_option linter.unusedVariables false
theorem pOf_0 : pOf 0 = p0 := by unfold pOf; rw [if_pos rfl]
theorem pOf_7 : pOf 7 = p7 := by unfold pOf; rw [if_neg (by decide)]
set_option maxHeartbeats 4000000 in
theorem pack_any (l : List Nat) (B cp : Nat) (A : Option Addr) (w : World) (hA : RdS w B A (u64s l)) (hB : B ≤ w.heap.size) (h64 : ∀ n ∈ l, W64 n) (hcp : l.length ≤ cp) (hm : l.length ≤ 1099511627776) :
    Calls Try.prog 38 #[.slice A l.length cp] w (RetB (packN l) w) := by
  have hpl := packN_len l
  have HPL := Lib.hid hpl
  clear hpl
  have hz : W64 0 := by unfold W64; decide
  go_enter Try.func38, Try.ntmps38
  go_wp2_with fail
  go_loopw [0, 3, 4, 5, 6, 23, 35] (fun s v _ _ _ _ _ wr => ∃ (rest done : List Nat) (A' : Option Addr) (c' : Nat), s = .slice A' rest.length c' ∧ rest.length ≤ l.length ∧ rest.length ≤ c' ∧ RdS wr B A' (u64s rest) ∧ (∀ n ∈ rest, W64 n) ∧ wr.ownsRow w.heap.size 5 1 v done.length (u8s done) ∧ done ++ packN rest = packN l ∧ Below w.heap.size w wr) (fun s _ _ _ _ _ _ _ => sliceLen s)
  case atStart => exact ⟨l, [], A, cp, rfl, Nat.le_refl _, hcp, hA, h64, by simpa [u8s] using World.ownsRow_nil w w.heap.size 5 1, rfl, Below.refl _ _⟩
  case round =>
    obtain ⟨rest, done, A', c', rfl, hrl, hrc, hrd, hr64, hown, hdone, hbr⟩ := hrel
    have HRD := Lib.hid hrd
    have HR64 := Lib.hid hr64
    have HO := Lib.hid hown
    have HD := Lib.hid hdone
    have HSZ : Hid (done.length ≤ 10995116277760) := by
      have h := congrArg List.length hdone
      rw [List.length_append] at h
      have := HPL.out
      show done.length ≤ 10995116277760
      omega
    clear hrd hr64 hown hdone
    cases hrest : rest with
    | nil =>
      subst hrest
      have HD2 := Lib.hid (show done = packN l by have := HD.out; rw [packN_nil, List.append_nil] at this; exact this)
      obtain ⟨A1, c1, hv, hlc, hr⟩ := own_rd HO.out
      subst hv
      go_wp2
      go_ret
      exact ⟨A1, c1, by rw [← HD2.out]; rfl, by rw [← HD2.out]; exact hlc, by rw [← HD2.out]; exact hr, hbr⟩
    | cons x r =>
      subst hrest
      have hx64 : W64 x := HR64.out x (.head _)
      have hr64 : ∀ n ∈ r, W64 n := fun n hn => HR64.out n (.tail _ hn)
      obtain ⟨g, off, hA', hg, hc⟩ := Rd64.at_ HRD.out (k := 0) (by simp)
      subst hA'
      simp only [List.getD_cons_zero, Nat.add_zero, List.length_cons] at *
      have hpos : 0 < ((r.length : Int) + 1) := by omega
      have hcut1 : ∀ W, (Instr.slice 22 (.slice (some ⟨g, off, none⟩) (r.length + 1) c') (some (.int .i64 1)) none none).run Try.prog W = .ok (.slice (cutA (some ⟨g, off, none⟩) 1 c') r.length (c' - 1)) W := fun W => cut64 (some ⟨g, off, none⟩) (r.length + 1) c' 1 (by omega) hrc W
      have HR64' := Lib.hid hr64
      have HX := Lib.hid hx64
      clear hr64 hx64
      go_wp2_with fail
      refine (unlike_any x 0 _ HX.out hz).mono ?_
      rintro e w1 ⟨rfl, hb1⟩
      have hc1 := (bcell hb1 (o := off) (Nat.lt_of_lt_of_le (Nat.lt_of_lt_of_le hg hB) hbr.size)).trans hc
      have hrd1 : RdS w1 B (cutA (some ⟨g, off, none⟩) 1 c') (u64s r) := by
        have h := (HRD.out.below (hb1.mono (Nat.le_trans hB hbr.size))).cut (k := 1) (c := c') (by rw [u64s_len]; simpa using hrc)
        simpa [u64s] using h
      have hpk := packN_cons x r
      have ht : unl x 0 8 < 256 := unl_lt x 0 8
      generalize unl x 0 8 = tg at *
      have HPK := Lib.hid hpk
      have HRD1 := Lib.hid hrd1
      clear hpk hrd1 hc
      generalize cutA (some ⟨g, off, none⟩) 1 c' = A1 at *
      have hbw1 : Below w.heap.size w w1 := bstep hbr hb1
      go_wp2_with fail
      refine (appw_any tg x done.length w.heap.size _ _ w1 ht (own_below HO.out hb1) hbw1.size (by have := HSZ.out; omega)).mono ?_
      rintro e w2 ⟨v2, rfl, hown2, hb2⟩
      have hbw2 : Below w.heap.size w w2 := hbw1.trans hb2
      have hrd2 := HRD1.out.below (hb2.mono hB)
      have HRD2 := Lib.hid hrd2
      rw [← u8s_append] at hown2
      have HO2 := Lib.hid hown2
      have h8r : (tg :: selN tg x).length ≤ 9 := by
        have := popN_le tg
        simp only [List.length_cons, selN, List.length_map]; unfold popN at this; omega
      have hdn2 : (done ++ tg :: selN tg x).length ≤ 10995116277770 := by rw [List.length_append]; have := HSZ.out; omega
      clear hrd2 hown2 hc1
      by_cases h0 : tg = 0
      · have ht0 : ((tg : Int) == 0) = true := by rw [h0]; rfl
        have HPK0 : Hid (packN (x :: r) = (tg :: selN tg x) ++ runN p0 r :: packN (r.drop (runN p0 r))) := by have := HPK.out; rw [if_pos h0] at this; exact this
        have hrn := runN_le p0 r
        clear h0
        go_wp2_with fail
        refine (run_any r 0 (.inl rfl) B (c' - 1) A1 _ HRD2.out (Nat.le_trans hB hbw2.size) HR64'.out (by omega)).mono ?_
        rintro e w3 ⟨rfl, hb3⟩
        rw [pOf_0]
        generalize runN p0 r = n at *
        have hcut2 := fun W => cut64 A1 r.length (c' - 1) n hrn.1 (by omega) W
        have hrd3 : RdS w3 B (cutA A1 n (c' - 1)) (u64s (r.drop n)) := by
          rw [u64s_drop]; exact (HRD2.out.below (hb3.mono (Nat.le_trans hB hbw2.size))).cut (by rw [u64s_len]; omega)
        have hbw3 := bstep hbw2 hb3
        have HRD3 := Lib.hid hrd3
        generalize cutA A1 n (c' - 1) = A2 at *
        have HO3 := Lib.hid (own_below HO2.out hb3)
        clear hrd3
        go_wp2_with (at_builtin; refine app8 rfl _ _ rfl w.heap.size _ _ _ rfl (HO3.out.alloc _) (w3.heap.size + 1) 1 1 (some ⟨w3.heap.size, 0, none⟩) [n] rfl rfl (by exact RdS.new w3 _ #[.int .u8 (n : Int)]) (by rw [u8s_len]; omega) (by exact (balloc hbw3 _).size) ?_; intro v4 w4 hown4 hgrow)
        have hb4 := bgrown (balloc hbw3 _) hgrow (own_base HO3.out)
        rw [← u8s_append] at hown4
        have hrd4 : RdS w4 B A2 (u64s (r.drop n)) := (HRD3.out.below ((Below.refl _ _).alloc (Nat.le_trans hB hbw3.size) _)).below (by
          exact (Below.refl B _).grown hgrow (by simp; have := hbw3.size; omega) (fun k hk => Nat.le_trans hB (own_base HO3.out k hk)))
        have HRD4 := Lib.hid hrd4
        have HO4 := Lib.hid hown4
        clear hrd4 hown4 hgrow
        have hdl : (r.drop n).length = r.length - n := List.length_drop
        go_wp2
        go_roundw
        case rel => exact ⟨r.drop n, (done ++ tg :: selN tg x) ++ [n], A2, c' - 1 - n, by rw [hdl], by omega, by omega, HRD4.out, fun m hm => HR64'.out m (List.mem_of_mem_drop hm), by
          have h := HO4.out
          rw [u8s_len] at h
          rw [List.length_append]; exact h, by rw [← HD.out, HPK0.out]; simp, hb4⟩
        case measure => simp [sliceLen]; omega
      · have ht0 : ((tg : Int) == 0) = false := beq_eq_false_iff_ne.2 (by omega)
        by_cases h255 : tg = 255
        · have ht255 : ((tg : Int) == 255) = true := by rw [h255]; rfl
          have HPK0 : Hid (packN (x :: r) = (tg :: selN tg x) ++ runN p7 r :: (flatN (r.take (runN p7 r)) ++ packN (r.drop (runN p7 r)))) := by have := HPK.out; rw [if_neg h0, if_pos h255] at this; exact this
          have hrn := runN_le p7 r
          clear h0 h255
          go_wp2_with fail
          refine (run_any r 7 (.inr rfl) B (c' - 1) A1 _ HRD2.out (Nat.le_trans hB hbw2.size) HR64'.out (by omega)).mono ?_
          rintro e w3 ⟨rfl, hb3⟩
          rw [pOf_7]
          generalize runN p7 r = n at *
          have hcut2 := fun W => cut64 A1 r.length (c' - 1) n hrn.1 (by omega) W
          have hrd3 : RdS w3 B A1 (u64s r) := HRD2.out.below (hb3.mono (Nat.le_trans hB hbw2.size))
          have hbw3 := bstep hbw2 hb3
          have HRD3 := Lib.hid hrd3
          have HO3 := Lib.hid (own_below HO2.out hb3)
          clear hrd3
          generalize hA2 : cutA A1 n (c' - 1) = A2 at *
          have HA2 := Lib.hid hA2
          clear hA2
          go_wp2_with (at_builtin; refine app8 rfl _ _ rfl w.heap.size _ _ _ rfl (HO3.out.alloc _) (w3.heap.size + 1) 1 1 (some ⟨w3.heap.size, 0, none⟩) [n] rfl rfl (by exact RdS.new w3 _ #[.int .u8 (n : Int)]) (by rw [u8s_len]; omega) (by exact (balloc hbw3 _).size) ?_; intro v4 w4 hown4 hgrow)
          have hb4 := bgrown (balloc hbw3 _) hgrow (own_base HO3.out)
          rw [← u8s_append] at hown4
          have hrd4 : RdS w4 B A1 (u64s r) := (HRD3.out.below ((Below.refl _ _).alloc (Nat.le_trans hB hbw3.size) _)).below (by
            exact (Below.refl B _).grown hgrow (by simp; have := hbw3.size; omega) (fun k hk => Nat.le_trans hB (own_base HO3.out k hk)))
          have HRD4 := Lib.hid hrd4
          have HO4 := Lib.hid hown4
          clear hrd4 hown4 hgrow
          have htl : (r.take n).length = n := by rw [List.length_take]; omega
          have hdl : (r.drop n).length = r.length - n := List.length_drop
          have hfl := fun W (hW : RdS W B A1 (u64s r)) (hBW : B ≤ W.heap.size) => flat_any (r.take n) B (c' - 1) A1 W (by rw [u64s_take]; exact hW.take n) hBW (by omega)
          rw [htl] at hfl
          have HFL := Lib.hid hfl
          clear hfl
          go_wp2_with fail
          refine (HFL.out _ HRD4.out (Nat.le_trans hB hb4.size)).mono ?_
          rintro e w5 ⟨A5, c5, rfl, hlc5, hrd5, hb5⟩
          have hbw5 := bstep hb4 hb5
          have hfn : (flatN (r.take n)).length = 8 * n := by rw [flatN_len, htl]
          have HRD5 := Lib.hid hrd5
          have HO5 := Lib.hid (own_below HO4.out hb5)
          have HFN := Lib.hid hfn
          clear hrd5 hfn hlc5
          go_wp2_with (at_builtin; refine app8 rfl _ _ rfl w.heap.size _ _ _ rfl HO5.out w5.heap.size (flatN (r.take n)).length c5 A5 (flatN (r.take n)) rfl rfl HRD5.out (by rw [HFN.out, u8s_len]; omega) (by exact hbw5.size) ?_; intro v6 w6 hown6 hgrow6)
          have hb6 := bgrown hbw5 hgrow6 (own_base HO5.out)
          rw [← u8s_append] at hown6
          have hrd6 : RdS w6 B A2 (u64s (r.drop n)) := by
            rw [← HA2.out, u64s_drop]
            refine RdS.cut ?_ (by rw [u64s_len]; omega)
            exact (HRD4.out.below (hb5.mono (Nat.le_trans hB hb4.size))).below ((Below.refl B _).grown hgrow6 (Nat.le_trans hB hbw5.size) (fun k hk => Nat.le_trans hB (own_base HO5.out k hk)))
          have HRD6 := Lib.hid hrd6
          have HO6 := Lib.hid hown6
          clear hrd6 hown6 hgrow6
          go_wp2
          go_roundw
          case rel => exact ⟨r.drop n, ((done ++ tg :: selN tg x) ++ [n]) ++ flatN (r.take n), A2, c' - 1 - n, by rw [hdl], by omega, by omega, HRD6.out, fun m hm => HR64'.out m (List.mem_of_mem_drop hm), by
            have h := HO6.out
            have e := own_len h
            rw [e, u8s_len] at h
            exact h, by rw [← HD.out, HPK0.out]; simp, hb6⟩
          case measure => simp [sliceLen]; omega
        · have ht255 : ((tg : Int) == 255) = false := beq_eq_false_iff_ne.2 (by omega)
          have HPK0 : Hid (packN (x :: r) = (tg :: selN tg x) ++ packN r) := by have := HPK.out; rw [if_neg h0, if_neg h255] at this; exact this
          clear h0 h255
          go_wp2
          go_roundw
          case rel => exact ⟨r, done ++ tg :: selN tg x, A1, c' - 1, rfl, by omega, by omega, HRD2.out, HR64'.out, by
            have h := HO2.out
            rw [u8s_len] at h
            exact h, by rw [← HD.out, HPK0.out]; simp, hbw2⟩
          case measure => simp [sliceLen]

end Go.Proofs.Ytcpapdjjeinpmaa
