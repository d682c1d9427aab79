/- Plain facts on this seat's mirrors (part UP1); each theorem bears its own conditions. -/
import Derived.Test.YtmlhokaflhlhbaaUM4
import Derived.IntWalk
namespace Go.Proofs.Ytmlhokaflhlhbaa
open Go.RowKit
set_option linter.unusedVariables false
set_option linter.unusedSimpArgs false
theorem Jj {a b : Int} (h : ¬ a = b) : (a == b) = false := by simp [h]
def Zot (w : Nat) : Int := if w / 4 % 1073741824 < 536870912 then ((w / 4 % 1073741824 : Nat) : Int) else ((w / 4 % 1073741824 : Nat) : Int) - 1073741824
def Zti (w : Nat) : Z9 :=
  if w = 0 then ⟨0, 0, 0, 0, 0, 0, 0, false⟩
  else if w % 4 = 0 then ⟨1, Zot w, (w / 4294967296 % 65536 : Nat), (w / 281474976710656 % 65536 : Nat), 0, 0, 0, false⟩
  else if w % 4 = 1 then ⟨2, Zot w, 0, 0, (w / 4294967296 % 8 : Nat), (w / 34359738368 % 536870912 : Nat), 0, false⟩
  else if w % 4 = 2 then ⟨3, (w / 8 % 536870912 : Nat), 0, 0, 0, 0, (w / 4294967296 % 4294967296 : Nat), decide (w / 4 % 2 = 1)⟩
  else ⟨4, 0, 0, 0, 0, 0, 0, false⟩
theorem Zp7 (b : Nat) : ((2 : Int) ^ b) = ((2 ^ b : Nat) : Int) := by simp
theorem Zgn (w f b : Nat) (hw : w < 18446744073709551616) (hf : f < 64) (hb : b ≤ 40) : Xe w f b = some ((w / 2 ^ f % 2 ^ b : Nat) : Int) := by
  unfold Xe Qc
  rw [if_pos (Int.natCast_nonneg _), if_pos (Int.natCast_nonneg _)]
  simp only [Option.bind_some, Option.some.injEq]
  have hp : (2 : Nat) ^ b ≤ 1099511627776 := by have := Nat.pow_le_pow_right (n := 2) (by decide) hb; simpa using this
  have h1 : 0 < (2 : Nat) ^ b := Nat.pow_pos (by decide)
  have e1 : (min ((f : Int).toNat) 64) = f := by omega
  have e2 : (min ((b : Int).toNat) 64) = b := by omega
  have hd : w / 2 ^ f < 18446744073709551616 := Nat.lt_of_le_of_lt (Nat.div_le_self _ _) hw
  have e3 : ((w : Int).fdiv ((2 ^ f : Nat) : Int)) = ((w / 2 ^ f : Nat) : Int) := by
    rw [Int.fdiv_eq_ediv_of_nonneg _ (Int.natCast_nonneg _), Int.natCast_ediv]
  rw [e1, e2, Zp7, Zp7, e3]
  clear e3
  generalize hq : 2 ^ b = q at *
  generalize w / 2 ^ f = x at *
  rw [Int.one_mul, IntWalk.u64_in (q : Int) (by omega), IntWalk.u64_in ((q : Int) - 1) (by omega)]
  have e4 : ((q : Int) - 1) = ((q - 1 : Nat) : Int) := by omega
  rw [e4, Ztt _ _ hd (by omega), ← hq, Nat.and_two_pow_sub_one_eq_mod, hq]
  have : x % q < q := Nat.mod_lt _ h1
  rw [IntWalk.u64_in _ (by omega), IntWalk.i64_in _ (by omega)]
theorem Zz7 (w : Nat) (hw : w < 18446744073709551616) : IntKind.i64.wrap ((IntKind.i32.wrap (IntKind.u32.wrap (w : Int))).fdiv (2 ^ min (Int.toNat 2) 32)) = Zot w := by
  have e : (2 : Int) ^ min (Int.toNat 2) 32 = 4 := by decide
  rw [e, Int.fdiv_eq_ediv_of_nonneg _ (by decide), IntKind.wrap_u32, IntKind.wrap_i32]
  unfold Zot
  rw [IntWalk.i64_in _ (by omega)]
  split <;> omega
theorem Zx8 (w : Nat) (hw : w < 18446744073709551616) : Zab w = some (Zot w) := congrArg some (Zz7 w hw)
theorem Z1b (w : Nat) (hw : w < 18446744073709551616) : IntKind.u64.wrap (U0 .u64 w 3) = ((w % 4 : Nat) : Int) := by
  have := Ztt w 3 hw (by decide)
  rw [show ((3 : Nat) : Int) = 3 from rfl] at this
  rw [this, show (3 : Nat) = 2 ^ 2 - 1 from rfl, Nat.and_two_pow_sub_one_eq_mod, IntWalk.u64_in _ (by omega)]
theorem Z1c (w : Nat) (hw : w < 18446744073709551616) : (IntKind.u64.wrap (U0 .u64 ((w : Int).fdiv (2 ^ min (Int.toNat 2) 64)) 1) == 1) = decide (w / 4 % 2 = 1) := by
  have e1 : (2 : Int) ^ min (Int.toNat 2) 64 = 4 := by decide
  have e2 : ((w : Int).fdiv 4) = ((w / 4 : Nat) : Int) := by rw [Int.fdiv_eq_ediv_of_nonneg _ (by decide)]; rfl
  have e3 := Ztt (w / 4) 1 (by omega) (by decide)
  rw [show ((1 : Nat) : Int) = 1 from rfl, Nat.and_one_is_mod] at e3
  rw [e1, e2, e3, IntWalk.u64_in _ (by omega)]
  by_cases h : w / 4 % 2 = 1
  · rw [h]; decide
  have : w / 4 % 2 = 0 := by omega
  rw [this]; decide
theorem Zpo (a : Nat) (b : Nat) : ((a : Int) == (b : Int)) = decide (a = b) := by
  by_cases h : a = b
  · subst h; simp
  simp [h, Int.natCast_inj]
theorem Zxh (w : Nat) (hw : w < 18446744073709551616) : Qv w = some (Zti w) := by
  unfold Qv
  have f1 : Xe w 32 16 = _ := Zgn w 32 16 hw (by decide) (by decide)
  have f2 : Xe w 48 16 = _ := Zgn w 48 16 hw (by decide) (by decide)
  have f3 : Xe w 32 3 = _ := Zgn w 32 3 hw (by decide) (by decide)
  have f4 : Xe w 35 29 = _ := Zgn w 35 29 hw (by decide) (by decide)
  have f5 : Xe w 3 29 = _ := Zgn w 3 29 hw (by decide) (by decide)
  have f6 : Xe w 32 32 = _ := Zgn w 32 32 hw (by decide) (by decide)
  have c0 : ((w : Int) == 0) = _ := Zpo w 0
  have c1 : (((w % 4 : Nat) : Int) == 0) = _ := Zpo (w % 4) 0
  have c2 : (((w % 4 : Nat) : Int) == 1) = _ := Zpo (w % 4) 1
  have c3 : (((w % 4 : Nat) : Int) == 2) = _ := Zpo (w % 4) 2
  rw [Z1b w hw, Zx8 w hw, f1, f2, f3, f4, f5, f6, Z1c w hw, c0, c1, c2, c3]
  simp only [Option.bind_some]
  unfold Zti
  by_cases h0 : w = 0
  · simp [h0]
  by_cases h1 : w % 4 = 0
  · simp [h0, h1]
  by_cases h2 : w % 4 = 1
  · simp [h0, h2]
  by_cases h3 : w % 4 = 2
  · simp [h0, h3]
  simp [h0, h1, h2, h3]
theorem Zx2 (x i : Nat) : x % 2 ^ (i + 1) = x % 2 ^ i + 2 ^ i * (x / 2 ^ i % 2) := Nat.mod_pow_succ
theorem Zah (w f b : Nat) (hw : w < 18446744073709551616) (hf : f < 64) (hb : b ≤ 40) : Z6 w f b = some ((w / 2 ^ f % 2 ^ b : Nat) : Int) := by
  unfold Z6
  have l0 : Ye (J6 f) ((w : Int), 0) = some ((w / 2 ^ f : Nat) : Int) := by
    refine Zoh (fun s => ∃ i : Nat, i ≤ f ∧ s = (((w / 2 ^ i : Nat) : Int), (i : Int))) (fun s => f - s.2.toNat) ?_ _ ⟨0, by omega, by simp⟩
    rintro s ⟨i, hi, rfl⟩
    unfold J6
    have hs : w / 2 ^ (i + 1) = w / 2 ^ i / 2 := by rw [Nat.pow_succ, Nat.div_div_eq_div_mul]
    have hd : w / 2 ^ i < 18446744073709551616 := Nat.lt_of_le_of_lt (Nat.div_le_self _ _) hw
    by_cases h : i < f
    · left
      refine ⟨(((w / 2 ^ (i + 1) : Nat) : Int), ((i + 1 : Nat) : Int)), ?_, ⟨i + 1, by omega, rfl⟩, by simp only; omega⟩
      have : decide ((i : Int) < f) = true := by simp; omega
      simp only [this, cond_true]
      rw [hs]
      generalize w / 2 ^ i = y at *
      rw [Int.tdiv_eq_ediv_of_nonneg (by omega), Zz9 (by omega), Zsh (by omega)]
      rfl
    right
    have : decide ((i : Int) < f) = false := by simp; omega
    obtain rfl : i = f := by omega
    simp only [this, cond_false]
  rw [l0]
  simp only [Option.bind_some]
  generalize hx : w / 2 ^ f = x at *
  have hd : x < 18446744073709551616 := by rw [← hx]; exact Nat.lt_of_le_of_lt (Nat.div_le_self _ _) hw
  have l1 : Ye (J7 b) ((x : Int), 0, 1, 0) = some ((x % 2 ^ b : Nat) : Int) := by
    refine Zoh (fun s => ∃ j : Nat, j ≤ b ∧ s = (((x / 2 ^ j : Nat) : Int), ((x % 2 ^ j : Nat) : Int), ((2 ^ j : Nat) : Int), (j : Int))) (fun s => b - s.2.2.2.toNat) ?_ _ ⟨0, by omega, by simp [Nat.mod_one]⟩
    rintro s ⟨j, hj, rfl⟩
    unfold J7
    have hdj : x / 2 ^ j < 18446744073709551616 := Nat.lt_of_le_of_lt (Nat.div_le_self _ _) hd
    have hpj : (2 : Nat) ^ j ≤ 1099511627776 := by have := Nat.pow_le_pow_right (n := 2) (by decide) (Nat.le_trans hj hb); simpa using this
    have h0 : 0 < (2 : Nat) ^ j := Nat.pow_pos (by decide)
    have hm := Zx2 x j
    have hs2 : x / 2 ^ (j + 1) = x / 2 ^ j / 2 := by rw [Nat.pow_succ, Nat.div_div_eq_div_mul]
    have hp2 : (2 : Nat) ^ (j + 1) = 2 ^ j * 2 := Nat.pow_succ ..
    have hlt : x % 2 ^ j < 2 ^ j := Nat.mod_lt _ h0
    by_cases h : j < b
    · left
      refine ⟨(((x / 2 ^ (j + 1) : Nat) : Int), ((x % 2 ^ (j + 1) : Nat) : Int), ((2 ^ (j + 1) : Nat) : Int), ((j + 1 : Nat) : Int)), ?_, ⟨j + 1, by omega, rfl⟩, by simp only; omega⟩
      have : decide ((j : Int) < b) = true := by simp; omega
      simp only [this, cond_true]
      rw [hs2, hm, hp2]
      clear hs2 hm hp2
      generalize x / 2 ^ j = y at *
      generalize x % 2 ^ j = r at *
      generalize 2 ^ j = p at *
      rw [Int.tmod_eq_emod_of_nonneg (by omega), Int.tdiv_eq_ediv_of_nonneg (by omega)]
      by_cases hb1 : y % 2 = 1
      · have e : (((y : Int) % 2) == 1) = true := by simp; omega
        rw [e, cond_true, hb1, Zsh (by omega)]
        simp only [Option.bind_some]
        rw [Zz9 (by omega), Zsh (by omega), Zsh (by omega)]
        simp only [Option.some.injEq, Sum.inl.injEq, Prod.mk.injEq]
        omega
      have e : (((y : Int) % 2) == 1) = false := by simp; omega
      have hb0 : y % 2 = 0 := by omega
      rw [e, cond_false, hb0]
      simp only [Option.bind_some]
      rw [Zz9 (by omega), Zsh (by omega), Zsh (by omega)]
      simp only [Option.some.injEq, Sum.inl.injEq, Prod.mk.injEq]
      omega
    right
    have : decide ((j : Int) < b) = false := by simp; omega
    obtain rfl : j = b := by omega
    simp only [this, cond_false]
  rw [l1]
  simp only [Option.bind_some]
theorem Zwv (w : Nat) (hw : w < 18446744073709551616) : Yx w = some (Zti w) := by
  unfold Yx
  have f0 : Z6 w 2 30 = _ := Zah w 2 30 hw (by decide) (by decide)
  have f00 : Z6 w 0 2 = _ := Zah w 0 2 hw (by decide) (by decide)
  have f1 : Z6 w 32 16 = _ := Zah w 32 16 hw (by decide) (by decide)
  have f2 : Z6 w 48 16 = _ := Zah w 48 16 hw (by decide) (by decide)
  have f3 : Z6 w 32 3 = _ := Zah w 32 3 hw (by decide) (by decide)
  have f4 : Z6 w 35 29 = _ := Zah w 35 29 hw (by decide) (by decide)
  have f5 : Z6 w 3 29 = _ := Zah w 3 29 hw (by decide) (by decide)
  have f6 : Z6 w 32 32 = _ := Zah w 32 32 hw (by decide) (by decide)
  have f7 : Z6 w 2 1 = _ := Zah w 2 1 hw (by decide) (by decide)
  have c0 : ((w : Int) == 0) = _ := Zpo w 0
  have c1 : (((w % 4 : Nat) : Int) == 0) = _ := Zpo (w % 4) 0
  have c2 : (((w % 4 : Nat) : Int) == 1) = _ := Zpo (w % 4) 1
  have c3 : (((w % 4 : Nat) : Int) == 2) = _ := Zpo (w % 4) 2
  have c4 : (((w / 4 % 2 : Nat) : Int) == 1) = _ := Zpo (w / 4 % 2) 1
  simp only [Nat.reducePow, Nat.div_one] at f0 f00 f1 f2 f3 f4 f5 f6 f7
  have ho : (cond (decide (536870912 ≤ ((w / 4 % 1073741824 : Nat) : Int))) (some (IntKind.i64.wrap (((w / 4 % 1073741824 : Nat) : Int) - 1073741824))) (some ((w / 4 % 1073741824 : Nat) : Int))) = some (Zot w) := by
    unfold Zot
    rw [Zsh (by omega)]
    by_cases h : w / 4 % 1073741824 < 536870912
    · have : decide (536870912 ≤ ((w / 4 % 1073741824 : Nat) : Int)) = false := by simp; omega
      rw [this, if_pos h, cond_false]
    have : decide (536870912 ≤ ((w / 4 % 1073741824 : Nat) : Int)) = true := by simp; omega
    rw [this, if_neg h, cond_true]
  rw [f0]
  simp only [Option.bind_some, ho]
  rw [f00, f1, f2, f3, f4, f5, f6, f7]
  simp only [Option.bind_some]
  rw [c0, c1, c2, c3, c4]
  unfold Zti
  by_cases h0 : w = 0
  · simp [h0]
  by_cases h1 : w % 4 = 0
  · simp [h0, h1]
  by_cases h2 : w % 4 = 1
  · simp [h0, h2]
  by_cases h3 : w % 4 = 2
  · simp [h0, h3]
  simp [h0, h1, h2, h3]
theorem Zyo (x : Nat) (h : x < 18446744073709551616) : IntKind.u64.wrap (x : Int) = (x : Int) := IntWalk.u64_in _ (by omega)
theorem Yu {x : Int} (h1 : -9223372036854775808 ≤ x) (h2 : x ≤ 9223372036854775807) : IntKind.i64.wrap x = x := Zsh ⟨h1, h2⟩
theorem Zy7 {i n : Nat} (h : i < n) : decide ((i : Int) < (n : Int)) = true := by rw [decide_eq_true_eq]; omega
theorem Zy6 {n : Nat} : decide ((n : Int) < (n : Int)) = false := by rw [decide_eq_false_iff_not]; omega
structure WS (l : List (List Int)) : Prop where
  n : l.length * 24 ≤ 140737488355328
  s : ∀ x ∈ l, x.length * 8 ≤ 140737488355328
  w : ∀ x ∈ l, ∀ w ∈ x, 0 ≤ w ∧ w < 18446744073709551616
theorem Zpj {l : List Int} (h : l.length * 8 ≤ 140737488355328) : Yy l = some l := by
  unfold Yy
  rw [Zgm (by simp only [List.length_nil]; omega) (by simp only [List.length_nil]; omega), List.nil_append]
theorem Zyj {α : Type} (l : List α) (n : Nat) (v : α) : Zh3 l (n : Int) v = l.set n v := by unfold Zh3; rw [Int.toNat_natCast]
theorem Zkt {l : List (List Int)} (h : WS l) : ∀ (r : List (List Int)) (i : Nat), l.drop i = r → i ≤ l.length →
    Ye (Jr l) ((i : Int), l.take i ++ List.replicate r.length []) = some l
  | [], i, hd, hi => by
    have hl : i = l.length := by
      have := congrArg List.length hd
      rw [List.length_drop, List.length_nil] at this; omega
    subst hl
    refine Y0 ?_
    unfold Jr
    simp only
    rw [Zy6, cond_false]
    simp
  | x :: r, i, hd, hi => by
    have hi' : i < l.length := by
      rcases Nat.lt_or_ge i l.length with q | q
      · exact q
      rw [List.drop_eq_nil_of_le q] at hd; cases hd
    have hx : l[i]? = some x := by
      have := congrArg (·[0]?) hd
      simpa using this
    have hm := List.mem_of_getElem? hx
    have hd' : l.drop (i + 1) = r := by
      have := congrArg (List.drop 1) hd
      rw [List.drop_drop] at this
      simpa [Nat.add_comm] using this
    have hn := h.n
    have hlen : (l.take i).length = i := by rw [List.length_take]; omega
    have hg : Qo (l.take i ++ List.replicate (r.length + 1) []) (i : Int) = some ([] : List Int) := Gv (by rw [List.getElem?_append_right (by omega), hlen, Nat.sub_self]; rfl)
    have hstep : Jr l ((i : Int), l.take i ++ List.replicate (r.length + 1) []) = some (.inl (((i + 1 : Nat) : Int), l.take (i + 1) ++ List.replicate r.length [])) := by
      unfold Jr
      simp only
      rw [Zy7 hi', cond_true, Gv hx, Option.bind_some, Zpj (h.s x hm), Option.bind_some, hg, Option.bind_some, Yu (by omega) (by omega), Zyj, List.set_append_right _ _ (by omega), hlen, Nat.sub_self, List.replicate_succ, List.set_cons_zero, List.take_add_one, hx, List.append_assoc]
      rfl
    rw [List.length_cons, Qg hstep]
    exact Zkt h r (i + 1) hd' (by omega)
theorem Zv4 {l : List (List Int)} (h : WS l) : U6 l = some l := by
  have hn := h.n
  have := Zkt h l 0 rfl (Nat.zero_le _)
  rw [List.take_zero, List.nil_append, show (((0 : Nat) : Int)) = 0 from rfl] at this
  unfold U6
  rw [Zsn (by omega) (by omega) (by omega), Option.bind_some, Int.toNat_natCast, this]
  rfl
theorem Zw6 {l : List (List Int)} (h : WS l) : Ge l = some (some ⟨l, 0, 0⟩) := by
  unfold Ge
  rw [Zv4 h, Option.bind_some]
def seg (l : List (List Int)) (s : Int) : List Int := (l[s.toNat]?).getD []
def inB (l : List (List Int)) (s a n : Int) : Bool := decide (0 ≤ s) && (decide (s < l.length) && (decide (0 ≤ a) && (decide (0 ≤ n) && decide (a + n ≤ (seg l s).length))))
theorem inB_iff {l : List (List Int)} {s a n : Int} : inB l s a n = true ↔ 0 ≤ s ∧ s < l.length ∧ 0 ≤ a ∧ 0 ≤ n ∧ a + n ≤ (seg l s).length := by
  unfold inB
  simp only [Bool.and_eq_true, decide_eq_true_eq]
theorem Zak {l : List (List Int)} {s : Int} (h0 : 0 ≤ s) (h1 : s < l.length) : Qo l s = some (seg l s) ∧ seg l s ∈ l := by
  have hs : s.toNat < l.length := by omega
  unfold seg Qo
  rw [if_pos h0, List.getElem?_eq_getElem hs]
  exact ⟨rfl, List.getElem_mem hs⟩
def wd (l : List (List Int)) (s a : Int) : Int := ((seg l s)[a.toNat]?).getD 0
theorem Zkr {l : List (List Int)} {s a : Int} (h : inB l s a 1 = true) : Qo (seg l s) a = some (wd l s a) ∧ wd l s a ∈ seg l s := by
  rw [inB_iff] at h
  have ha : a.toNat < (seg l s).length := by omega
  unfold wd Qo
  rw [if_pos h.2.2.1, List.getElem?_eq_getElem ha]
  exact ⟨rfl, List.getElem_mem ha⟩
theorem Zfp {l : List (List Int)} (hw : WS l) (s a : Int) : 0 ≤ wd l s a ∧ wd l s a < 18446744073709551616 := by
  unfold wd
  cases h : (seg l s)[a.toNat]? with
  | none => simp
  | some w =>
    have hm := List.mem_of_getElem? h
    unfold seg at hm
    cases hs : l[s.toNat]? with
    | none => rw [hs] at hm; cases hm
    | some x => rw [hs] at hm; exact hw.w x (List.mem_of_getElem? hs) w hm
theorem Ze6 {l : List (List Int)} (hw : WS l) (s : Int) : (seg l s).length * 8 ≤ 140737488355328 := by
  unfold seg
  cases hs : l[s.toNat]? with
  | none => simp
  | some x => exact hw.s x (List.mem_of_getElem? hs)
section
variable {A : Zm}
theorem Zyv : Uc (some A) = some (A.segments.length : Int) := rfl
theorem Zo2 (s : Int) : Qi (some A) s = some (decide (0 ≤ s) && decide (s < A.segments.length)) := by
  unfold Qi
  rw [Zyv, Option.bind_some]
  cases decide (0 ≤ s) <;> rfl
theorem Zw8 (s : Int) : Qr (some A) s = some (if 0 ≤ s ∧ s < A.segments.length then ((seg A.segments s).length : Int) else 0) := by
  unfold Qr
  rw [Zo2, Option.bind_some]
  by_cases h : 0 ≤ s ∧ s < A.segments.length
  · rw [decide_eq_true h.1, decide_eq_true h.2, if_pos h, Option.bind_some, (Zak h.1 h.2).1]
    rfl
  rw [if_neg h, show (decide (0 ≤ s) && decide (s < A.segments.length)) = false from by rw [Bool.and_eq_false_iff, decide_eq_false_iff_not, decide_eq_false_iff_not]; omega]
  rfl
theorem Zpm (hw : WS A.segments) (s a n : Int) : Qd (some A) s a n = some (inB A.segments s a n) := by
  have hl := Ze6 hw s
  unfold Qd inB
  rw [Zo2, Zw8, Option.bind_some]
  by_cases h : 0 ≤ s ∧ s < A.segments.length
  · rw [if_pos h, decide_eq_true h.1, decide_eq_true h.2]
    by_cases h2 : 0 ≤ a
    · by_cases h3 : 0 ≤ n
      · by_cases h4 : n ≤ ((seg A.segments s).length : Int)
        · simp only [decide_eq_true h2, decide_eq_true h3, Bool.and_true, Bool.true_and, cond_true, Option.bind_some, decide_eq_true h4]
          rw [Yu (by omega) (by omega)]
          congr 1
          rw [Bool.eq_iff_iff, decide_eq_true_eq, decide_eq_true_eq]
          omega
        simp only [decide_eq_true h2, decide_eq_true h3, Bool.and_true, Bool.true_and, cond_true, cond_false, Option.bind_some, decide_eq_false h4]
        rw [show decide (a + n ≤ ((seg A.segments s).length : Int)) = false from by rw [decide_eq_false_iff_not]; omega]
      rw [decide_eq_true h2, decide_eq_false h3]; rfl
    rw [decide_eq_false h2]; rfl
  rw [show (decide (0 ≤ s) && decide (s < A.segments.length)) = false from by rw [Bool.and_eq_false_iff, decide_eq_false_iff_not, decide_eq_false_iff_not]; omega]
  rw [← Bool.and_assoc, show (decide (0 ≤ s) && decide (s < A.segments.length)) = false from by rw [Bool.and_eq_false_iff, decide_eq_false_iff_not, decide_eq_false_iff_not]; omega]
  rfl
theorem Zif (hw : WS A.segments) (s a : Int) : Xg (some A) s a = some (if inB A.segments s a 1 = true then (wd A.segments s a, true) else (0, false)) := by
  unfold Xg
  rw [Zpm hw, Option.bind_some]
  cases h : inB A.segments s a 1 with
  | false => rfl
  | true =>
    have h' := inB_iff.1 h
    rw [Bool.not_true, cond_false, Option.bind_some, (Zak h'.1 h'.2.1).1, Option.bind_some, (Zkr h).1]
    rfl
theorem Zw7 (hw : WS A.segments) (s a n : Int) : Jv (some A) s a n = some (if inB A.segments s a n = true then (((seg A.segments s).drop a.toNat).take n.toNat, true) else ([], false)) := by
  have hl := Ze6 hw s
  unfold Jv
  rw [Zpm hw, Option.bind_some]
  cases h : inB A.segments s a n with
  | false => rfl
  | true =>
    have h' := inB_iff.1 h
    rw [Bool.not_true, cond_false, Option.bind_some, (Zak h'.1 h'.2.1).1, Option.bind_some, Yu (by omega) (by omega), Zmg (by omega) (by omega) (by omega), Option.bind_some, show a + n - a = n by omega, Zpj (by rw [List.length_take, List.length_drop]; omega)]
    rfl
end
def dc (w : Int) : Z9 := Zti w.toNat
theorem Zr0 {w : Int} (h : 0 ≤ w ∧ w < 18446744073709551616) : Qv w = some (dc w) := by
  have := Zxh w.toNat (by omega)
  rwa [show ((w.toNat : Nat) : Int) = w by omega] at this
theorem Zoc {w : Int} (h : 0 ≤ w ∧ w < 18446744073709551616) : Yx w = some (dc w) := by
  have := Zwv w.toNat (by omega)
  rwa [show ((w.toNat : Nat) : Int) = w by omega] at this
structure PB (p : Z9) : Prop where
  k : p.Kind = 0 ∨ p.Kind = 1 ∨ p.Kind = 2 ∨ p.Kind = 3 ∨ p.Kind = 4
  o : -536870912 ≤ p.Off ∧ p.Off < 536870912
  d : 0 ≤ p.Data ∧ p.Data < 65536
  q : 0 ≤ p.Ptrs ∧ p.Ptrs < 65536
  c : 0 ≤ p.Code ∧ p.Code < 8
  n : 0 ≤ p.Count ∧ p.Count < 536870912
  s : 0 ≤ p.Segment ∧ p.Segment < 4294967296
  f : p.Kind = 3 → 0 ≤ p.Off
  z : p.Kind = 0 ∨ p.Kind = 4 → p.Off = 0
theorem Zzc (w : Nat) : -536870912 ≤ Zot w ∧ Zot w < 536870912 := by
  unfold Zot
  split <;> omega
theorem Zft (w : Int) : PB (dc w) := by
  have ho := Zzc w.toNat
  unfold dc Zti
  split
  · exact ⟨.inl rfl, by simp, by simp, by simp, by simp, by simp, by simp, by simp, by simp⟩
  split
  · exact ⟨.inr (.inl rfl), ho, by simp only; omega, by simp only; omega, by simp, by simp, by simp, by simp, by simp⟩
  split
  · exact ⟨.inr (.inr (.inl rfl)), ho, by simp, by simp, by simp only; omega, by simp only; omega, by simp, by simp, by simp⟩
  split
  · exact ⟨.inr (.inr (.inr (.inl rfl))), by simp only; omega, by simp, by simp, by simp, by simp, by simp only; omega, fun _ => by simp only; omega, by simp⟩
  exact ⟨.inr (.inr (.inr (.inr rfl))), by simp, by simp, by simp, by simp, by simp, by simp, by simp, by simp⟩
def wdt (c : Int) : Int := if c = 0 then 0 else if c = 1 then 1 else if c = 2 then 8 else if c = 3 then 16 else if c = 4 then 32 else 64
def pw (p : Z9) : Int := if p.Kind = 1 then p.Data + p.Ptrs else if p.Code = 7 then p.Count + 1 else (p.Count * wdt p.Code + 63) / 64
theorem c7 {c : Int} (h : 0 ≤ c ∧ c < 8) (h7 : ¬ c = 7) : c = 0 ∨ c = 1 ∨ c = 2 ∨ c = 3 ∨ c = 4 ∨ c = 5 ∨ c = 6 := by omega
theorem Zyq {c : Int} (h : 0 ≤ c ∧ c < 8) (h7 : ¬ c = 7) : Zba c = some (wdt c) := by
  unfold Zba
  rcases c7 h h7 with rfl | rfl | rfl | rfl | rfl | rfl | rfl <;> rfl
theorem Z0o {p : Z9} (h : PB p) : 0 ≤ pw p ∧ pw p ≤ 1073741824 := by
  have := h.d; have := h.q; have hn := h.n
  unfold pw
  split
  · omega
  split
  · omega
  rename_i h7
  rcases c7 h.c h7 with q | q | q | q | q | q | q <;> rw [q] <;> unfold wdt <;> simp <;> omega
theorem Zys {p : Z9} (h : PB p) : V2 p = some (if p.Kind = 1 ∨ p.Kind = 2 then (pw p, true) else (0, false)) := by
  have hd := h.d; have hp := h.q; have hn := h.n
  unfold V2 pw
  by_cases k1 : p.Kind = 1
  · rw [show (p.Kind == 1) = true from by rw [k1]; rfl, cond_true, if_pos (.inl k1), if_pos k1, Yu (by omega) (by omega)]
  rw [show (p.Kind == 1) = false from Jj k1, cond_false]
  by_cases k2 : p.Kind = 2
  · rw [show (p.Kind == 2) = true from by rw [k2]; rfl, cond_true, if_pos (.inr k2), if_neg k1]
    by_cases c7' : p.Code = 7
    · rw [show (p.Code == 7) = true from by rw [c7']; rfl, cond_true, if_pos c7', Yu (by omega) (by omega)]
    rw [show (p.Code == 7) = false from Jj c7', cond_false, if_neg c7', decide_eq_true h.c.1, show decide (p.Code < 7) = true from by rw [decide_eq_true_eq]; have := h.c; omega, decide_eq_true hn.1, show decide (p.Count ≤ 536870911) = true from by rw [decide_eq_true_eq]; omega]
    simp only [cond_true]
    rw [Zyq h.c c7', Option.bind_some]
    have hw : 0 ≤ wdt p.Code ∧ wdt p.Code ≤ 64 := by unfold wdt; repeat' split; all_goals omega
    have h1 : 0 ≤ p.Count * wdt p.Code := Int.mul_nonneg hn.1 hw.1
    have h2 : p.Count * wdt p.Code ≤ 536870912 * 64 := Int.mul_le_mul (by omega) hw.2 hw.1 (by omega)
    rw [Yu (x := p.Count * wdt p.Code) (by omega) (by omega), Yu (x := p.Count * wdt p.Code + 63) (by omega) (by omega), Int.tdiv_eq_ediv_of_nonneg (by omega), Yu (by omega) (by omega)]
  rw [show (p.Kind == 2) = false from Jj k2, if_neg (by omega)]
  rfl
theorem Zwy {p : Z9} (h : PB p) (hk : p.Kind = 1 ∨ p.Kind = 2) : Jy p = some (pw p) := by
  have hd := h.d; have hp := h.q; have hn := h.n; have hc := h.c
  unfold Jy pw
  by_cases k1 : p.Kind = 1
  · rw [show (p.Kind == 1) = true from by rw [k1]; rfl, cond_true, if_pos k1, Yu (by omega) (by omega)]
  have k2 : p.Kind = 2 := by omega
  rw [show (p.Kind == 1) = false from Jj k1, cond_false, show (p.Kind != 2) = false from by rw [k2]; rfl, cond_false, if_neg k1]
  by_cases c7' : p.Code = 7
  · rw [show (p.Code == 7) = true from by rw [c7']; rfl, cond_true, if_pos c7', Yu (by omega) (by omega)]
  rw [show (p.Code == 7) = false from Jj c7', cond_false, if_neg c7', show decide (p.Code < 0) = false from by rw [decide_eq_false_iff_not]; omega, show decide (6 < p.Code) = false from by rw [decide_eq_false_iff_not]; omega, show decide (p.Count < 0) = false from by rw [decide_eq_false_iff_not]; omega, show decide (536870912 ≤ p.Count) = false from by rw [decide_eq_false_iff_not]; omega]
  simp only [cond_false]
  have hgen : ∀ (k : Int), 0 < k → (Qc (k ≠ 0)).bind (fun _ => cond (decide (0 < Int.tmod p.Count k)) ((Qc (k ≠ 0)).bind fun _ => some (IntKind.i64.wrap (IntKind.i64.wrap (Int.tdiv p.Count k) + 1))) ((Qc (k ≠ 0)).bind fun _ => some (IntKind.i64.wrap (Int.tdiv p.Count k)))) = some (if 0 < p.Count % k then p.Count / k + 1 else p.Count / k) := fun k hk => by
    have hne : k ≠ 0 := by omega
    have h0 : 0 ≤ p.Count / k := Int.ediv_nonneg hn.1 (by omega)
    have h1 : p.Count / k ≤ p.Count := Int.ediv_le_self _ hn.1
    rw [Zaq hne, Option.bind_some, Option.bind_some, Option.bind_some, Int.tmod_eq_emod_of_nonneg hn.1, Int.tdiv_eq_ediv_of_nonneg hn.1, Yu (x := p.Count / k) (by omega) (by omega), Yu (x := p.Count / k + 1) (by omega) (by omega)]
    by_cases q : 0 < p.Count % k
    · rw [if_pos q, decide_eq_true q, cond_true]
    rw [if_neg q, decide_eq_false q, cond_false]
  have hgo : ∀ (k : Int), 0 < k → (if 0 < p.Count % k then p.Count / k + 1 else p.Count / k) = (p.Count + (k - 1)) / k := fun k hk => by
    have e := Int.emod_add_mul_ediv p.Count k
    have e1 := Int.emod_nonneg p.Count (show k ≠ 0 by omega)
    have e2 := Int.emod_lt_of_pos p.Count hk
    split
    · symm
      have : p.Count + (k - 1) = (p.Count % k - 1) + k * (p.Count / k + 1) := by rw [Int.mul_add]; omega
      rw [this, Int.add_mul_ediv_left _ _ (by omega), Int.ediv_eq_zero_of_lt (by omega) (by omega)]
      omega
    symm
    have : p.Count + (k - 1) = (k - 1) + k * (p.Count / k) := by omega
    rw [this, Int.add_mul_ediv_left _ _ (by omega), Int.ediv_eq_zero_of_lt (by omega) (by omega)]
    omega
  rcases c7 h.c c7' with q | q | q | q | q | q | q
  · rw [show (p.Code == 0) = true from by rw [q]; rfl, cond_true, Option.bind_some, q]
    simp only [wdt, if_true, Int.mul_zero]
    rfl
  · rw [show (p.Code == 0) = false from by rw [q]; rfl, show (p.Code == 1) = true from by rw [q]; rfl, cond_false, cond_true, Option.bind_some]
    simp only
    rw [hgen 64 (by omega), hgo 64 (by omega), q]
    simp [wdt]
  · rw [show (p.Code == 0) = false from by rw [q]; rfl, show (p.Code == 1) = false from by rw [q]; rfl, show (p.Code == 2) = true from by rw [q]; rfl, cond_false, cond_false, cond_true, Option.bind_some]
    simp only
    rw [hgen 8 (by omega), hgo 8 (by omega), q]
    simp [wdt]
    omega
  · rw [show (p.Code == 0) = false from by rw [q]; rfl, show (p.Code == 1) = false from by rw [q]; rfl, show (p.Code == 2) = false from by rw [q]; rfl, show (p.Code == 3) = true from by rw [q]; rfl, cond_false, cond_false, cond_false, cond_true, Option.bind_some]
    simp only
    rw [hgen 4 (by omega), hgo 4 (by omega), q]
    simp [wdt]
    omega
  · rw [show (p.Code == 0) = false from by rw [q]; rfl, show (p.Code == 1) = false from by rw [q]; rfl, show (p.Code == 2) = false from by rw [q]; rfl, show (p.Code == 3) = false from by rw [q]; rfl, show (p.Code == 4) = true from by rw [q]; rfl, cond_false, cond_false, cond_false, cond_false, cond_true, Option.bind_some]
    simp only
    rw [hgen 2 (by omega), hgo 2 (by omega), q]
    simp [wdt]
    omega
  · rw [show (p.Code == 0) = false from by rw [q]; rfl, show (p.Code == 1) = false from by rw [q]; rfl, show (p.Code == 2) = false from by rw [q]; rfl, show (p.Code == 3) = false from by rw [q]; rfl, show (p.Code == 4) = false from by rw [q]; rfl, cond_false, cond_false, cond_false, cond_false, cond_false, Option.bind_some]
    simp only
    rw [hgen 1 (by omega), hgo 1 (by omega), q]
    simp [wdt]
    omega
  rw [show (p.Code == 0) = false from by rw [q]; rfl, show (p.Code == 1) = false from by rw [q]; rfl, show (p.Code == 2) = false from by rw [q]; rfl, show (p.Code == 3) = false from by rw [q]; rfl, show (p.Code == 4) = false from by rw [q]; rfl, cond_false, cond_false, cond_false, cond_false, cond_false, Option.bind_some]
  simp only
  rw [hgen 1 (by omega), hgo 1 (by omega), q]
  simp [wdt]
  omega
def l0 : Y3 := ⟨⟨0, 0, 0, 0, 0, 0, 0, false⟩, 0, 0⟩
def Zsp (p : Z9) : Z9 := ⟨p.Kind, 0, p.Data, p.Ptrs, p.Code, p.Count, p.Segment, p.Double⟩
def tgt (l : List (List Int)) (p : Z9) (s a : Int) : Y3 × Int :=
  if p.Kind = 4 then (l0, 9) else if p.Kind = 1 ∨ p.Kind = 2 then (if inB l s a (pw p) = true then (⟨Zsp p, s, a⟩, 0) else (l0, 7)) else (l0, 8)
def fol (l : List (List Int)) (s a : Int) : Y3 × Int :=
  if inB l s a 1 = true then
    let p := dc (wd l s a)
    if p.Kind = 0 then (l0, 0)
    else if p.Kind = 3 ∧ p.Double = true then
      if inB l p.Segment p.Off 2 = true then
        let b := dc (wd l p.Segment p.Off)
        let q := dc (wd l p.Segment (p.Off + 1))
        if b.Kind = 3 ∧ b.Double = false then (if q.Kind ≠ 4 ∧ q.Off ≠ 0 then (l0, 8) else tgt l q b.Segment b.Off) else (l0, 8)
      else (l0, 7)
    else if p.Kind = 3 then
      if inB l p.Segment p.Off 1 = true then
        let q := dc (wd l p.Segment p.Off)
        tgt l q p.Segment (p.Off + 1 + q.Off)
      else (l0, 7)
    else tgt l p s (a + 1 + p.Off)
  else (l0, 7)
section
variable {A : Zm}
theorem Zg9 (hw : WS A.segments) {p : Z9} (h : PB p) (s a : Int) : Vw (some A) p s a = some (tgt A.segments p s a) := by
  unfold Vw tgt
  by_cases k4 : p.Kind = 4
  · rw [show (p.Kind == 4) = true from by rw [k4]; rfl, if_pos k4]; rfl
  rw [show (p.Kind == 4) = false from Jj k4, cond_false, if_neg k4, Zys h, Option.bind_some]
  by_cases k : p.Kind = 1 ∨ p.Kind = 2
  · rw [if_pos k, if_pos k]
    simp only [Bool.not_true, cond_false]
    rw [Zpm hw, Option.bind_some]
    cases inB A.segments s a (pw p) <;> rfl
  rw [if_neg k, if_neg k]
  rfl
theorem Z0p {l : List (List Int)} {s a : Int} (h : inB l s a 2 = true) : ((seg l s).drop a.toNat).take (2 : Int).toNat = [wd l s a, wd l s (a + 1)] := by
  have h' := inB_iff.1 h
  have h1 : a.toNat < (seg l s).length := by omega
  have h2 : a.toNat + 1 < (seg l s).length := by omega
  unfold wd
  rw [show (a + 1).toNat = a.toNat + 1 by omega, List.getElem?_eq_getElem h1, List.getElem?_eq_getElem h2, show ((2 : Int).toNat) = 2 from rfl, List.drop_eq_getElem_cons h1, List.drop_eq_getElem_cons h2]
  rfl
theorem Zwa (hw : WS A.segments) (s a : Int) : G0 (some A) s a = some (if inB A.segments s a 2 = true then (if (dc (wd A.segments s a)).Kind = 3 ∧ (dc (wd A.segments s a)).Double = false then (if (dc (wd A.segments s (a + 1))).Kind ≠ 4 ∧ (dc (wd A.segments s (a + 1))).Off ≠ 0 then (l0, 8) else tgt A.segments (dc (wd A.segments s (a + 1))) (dc (wd A.segments s a)).Segment (dc (wd A.segments s a)).Off) else (l0, 8)) else (l0, 7)) := by
  unfold G0
  rw [Zw7 hw, Option.bind_some]
  cases h : inB A.segments s a 2 with
  | false => rfl
  | true =>
    simp only [if_true, Bool.not_true, cond_false]
    rw [Z0p h]
    have g0 : Qo [wd A.segments s a, wd A.segments s (a + 1)] 0 = some (wd A.segments s a) := rfl
    have g1 : Qo [wd A.segments s a, wd A.segments s (a + 1)] 1 = some (wd A.segments s (a + 1)) := rfl
    rw [g0, Option.bind_some, Zr0 (Zfp hw _ _), Option.bind_some, g1, Option.bind_some, Zr0 (Zfp hw _ _), Option.bind_some]
    generalize dc (wd A.segments s a) = b
    have hq := Zft (wd A.segments s (a + 1))
    revert hq
    generalize dc (wd A.segments s (a + 1)) = q
    intro hq
    by_cases b3 : b.Kind = 3
    · rw [show (b.Kind != 3) = false from by rw [b3]; rfl, cond_false]
      cases bd : b.Double with
      | true => rw [cond_true, if_neg (by simp)]; rfl
      | false =>
        rw [cond_false, if_pos ⟨b3, rfl⟩]
        by_cases hq4 : q.Kind = 4
        · rw [show (q.Kind != 4) = false from by rw [hq4]; rfl, cond_false, cond_false, if_neg (by simp [hq4]), Zg9 hw hq]
          rfl
        rw [show (q.Kind != 4) = true from bne_iff_ne.2 hq4, cond_true]
        by_cases ho : q.Off = 0
        · rw [show (q.Off != 0) = false from by rw [ho]; rfl, cond_false, if_neg (by simp [ho]), Zg9 hw hq]
          rfl
        rw [show (q.Off != 0) = true from bne_iff_ne.2 ho, cond_true, if_pos ⟨hq4, ho⟩]
        rfl
    rw [show (b.Kind != 3) = true from bne_iff_ne.2 b3, cond_true, cond_true, if_neg (by simp [b3])]
    rfl
theorem Zuf {l : List (List Int)} (hw : WS l) {s a n : Int} (h : inB l s a n = true) : 0 ≤ a ∧ a ≤ 17592186044416 := by
  have h' := inB_iff.1 h
  have := Ze6 hw s
  omega
theorem Zwz (hw : WS A.segments) (s a : Int) : Zaa (some A) s a = some (if inB A.segments s a 1 = true then tgt A.segments (dc (wd A.segments s a)) s (a + 1 + (dc (wd A.segments s a)).Off) else (l0, 7)) := by
  unfold Zaa
  rw [Zif hw, Option.bind_some]
  cases h : inB A.segments s a 1 with
  | false => rfl
  | true =>
    have ha := Zuf hw h
    have hq := Zft (wd A.segments s a)
    have ho := hq.o
    simp only [if_true, Bool.not_true, cond_false]
    rw [Zr0 (Zfp hw _ _), Option.bind_some, Yu (x := a + 1) (by omega) (by omega), Yu (by omega) (by omega), Zg9 hw hq]
    rfl
theorem Zwc (hw : WS A.segments) (s a : Int) : Gz (some A) s a = some (fol A.segments s a) := by
  unfold Gz fol
  rw [Zif hw, Option.bind_some]
  cases h : inB A.segments s a 1 with
  | false => rfl
  | true =>
    have ha := Zuf hw h
    have hq := Zft (wd A.segments s a)
    have ho := hq.o
    simp only [if_true, Bool.not_true, cond_false]
    rw [Zr0 (Zfp hw _ _), Option.bind_some]
    revert hq ho
    generalize dc (wd A.segments s a) = p
    intro hq ho
    by_cases k0 : p.Kind = 0
    · rw [show (p.Kind == 0) = true from by rw [k0]; rfl, cond_true, if_pos k0]; rfl
    rw [show (p.Kind == 0) = false from Jj k0, cond_false, if_neg k0]
    by_cases k3 : p.Kind = 3
    · rw [show (p.Kind == 3) = true from by rw [k3]; rfl, cond_true, cond_true]
      cases hd : p.Double with
      | true => rw [cond_true, if_pos ⟨k3, rfl⟩, Zwa hw]; rfl
      | false => rw [cond_false, if_neg (by simp), if_pos k3, Zwz hw]; rfl
    rw [show (p.Kind == 3) = false from Jj k3, cond_false, cond_false, cond_false, if_neg (by simp [k3]), if_neg k3, Yu (x := a + 1) (by omega) (by omega), Yu (by omega) (by omega), Zg9 hw hq]
    rfl
end
def toR (x : Y3) : Z7 := ⟨x.P, x.Segment, x.At⟩
def Zzo (x : Y3 × Int) : Z7 × Int := (toR x.1, x.2)
theorem Zme {l : List (List Int)} (hw : WS l) (s a : Int) : X4 l s a = some (inB l s a 1) := by
  have hl := Ze6 hw s
  unfold X4 inB
  by_cases h1 : 0 ≤ s
  · by_cases h2 : s < (l.length : Int)
    · by_cases h3 : 0 ≤ a
      · rw [(Zak h1 h2).1]
        simp only [decide_eq_true h1, decide_eq_true h2, decide_eq_true h3, cond_true, Option.bind_some, Bool.true_and, show decide ((0 : Int) ≤ 1) = true from rfl]
        refine congrArg some ?_
        rw [Bool.eq_iff_iff, decide_eq_true_eq, decide_eq_true_eq]
        omega
      rw [decide_eq_true h1, decide_eq_true h2, decide_eq_false h3]; rfl
    rw [decide_eq_true h1, decide_eq_false h2]; rfl
  rw [decide_eq_false h1]; rfl
theorem Zww {l : List (List Int)} (hw : WS l) {p : Z9} (h : PB p) (hk : p.Kind = 1 ∨ p.Kind = 2) (s a : Int) : Xx l ⟨p, s, a⟩ = some (Zzo (if inB l s a (pw p) = true then (⟨Zsp p, s, a⟩, 0) else (l0, 7))) := by
  have hl := Ze6 hw s
  have hp := Z0o h
  unfold Xx
  simp only
  rw [Zwy h hk, Option.bind_some]
  have key : ∀ b : Bool, inB l s a (pw p) = !b → (cond b (some ((⟨⟨0, 0, 0, 0, 0, 0, 0, false⟩, 0, 0⟩ : Z7), (7 : Int))) (some ((⟨⟨p.Kind, 0, p.Data, p.Ptrs, p.Code, p.Count, p.Segment, p.Double⟩, s, a⟩ : Z7), 0))) = some (Zzo (if inB l s a (pw p) = true then (⟨Zsp p, s, a⟩, 0) else (l0, 7))) := fun b hb => by
    rw [hb]
    cases b <;> rfl
  have hin : ∀ b : Bool, (b = true ↔ ¬ (0 ≤ s ∧ s < l.length ∧ 0 ≤ a ∧ 0 ≤ pw p ∧ a + pw p ≤ (seg l s).length)) → inB l s a (pw p) = !b := fun b hb => by
    cases hq : inB l s a (pw p) with
    | true =>
      have := inB_iff.1 hq
      cases b with
      | false => rfl
      | true => exact absurd this (hb.1 rfl)
    | false =>
      cases b with
      | true => rfl
      | false =>
        have h2 : ¬ ¬ (0 ≤ s ∧ s < l.length ∧ 0 ≤ a ∧ 0 ≤ pw p ∧ a + pw p ≤ (seg l s).length) := fun q => by have := hb.2 q; cases this
        have h3 := inB_iff.2 (Classical.not_not.1 h2)
        rw [hq] at h3
        cases h3
  by_cases h1 : s < 0
  · rw [decide_eq_true h1, cond_true, Option.bind_some]
    exact key true (hin true ⟨fun _ => by omega, fun _ => rfl⟩)
  rw [decide_eq_false h1, cond_false]
  by_cases h2 : (l.length : Int) ≤ s
  · rw [decide_eq_true h2, cond_true, Option.bind_some]
    exact key true (hin true ⟨fun _ => by omega, fun _ => rfl⟩)
  rw [decide_eq_false h2, cond_false]
  by_cases h3 : a < 0
  · rw [decide_eq_true h3, cond_true, Option.bind_some]
    exact key true (hin true ⟨fun _ => by omega, fun _ => rfl⟩)
  rw [decide_eq_false h3, cond_false, (Zak (by omega) (by omega)).1, Option.bind_some]
  by_cases h4 : ((seg l s).length : Int) < a
  · rw [decide_eq_true h4, cond_true, Option.bind_some]
    exact key true (hin true ⟨fun _ => by omega, fun _ => rfl⟩)
  rw [decide_eq_false h4, cond_false, cond_false, cond_false, cond_false, cond_false, Option.bind_some, Yu (by omega) (by omega)]
  exact key _ (hin _ (by rw [decide_eq_true_eq]; omega))
theorem Zph {p : Z9} : Xw p = some (if p.Kind = 4 then 9 else if p.Kind = 1 ∨ p.Kind = 2 then 0 else 8) := by
  unfold Xw
  by_cases k4 : p.Kind = 4
  · rw [show (p.Kind == 4) = true from by rw [k4]; rfl, if_pos k4]; rfl
  rw [show (p.Kind == 4) = false from Jj k4, cond_false, if_neg k4]
  by_cases k1 : p.Kind = 1
  · rw [show (p.Kind != 1) = false from by rw [k1]; rfl, if_pos (.inl k1)]; rfl
  rw [show (p.Kind != 1) = true from bne_iff_ne.2 k1, cond_true]
  by_cases k2 : p.Kind = 2
  · rw [show (p.Kind != 2) = false from by rw [k2]; rfl, if_pos (.inr k2)]; rfl
  rw [show (p.Kind != 2) = true from bne_iff_ne.2 k2, if_neg (by omega)]; rfl
theorem Zqm {l : List (List Int)} (hw : WS l) {p : Z9} (h : PB p) (s a : Int) {k : Int → Option (Z7 × Int)} (hk : k = fun y => cond (y != 0) (some ((⟨⟨0, 0, 0, 0, 0, 0, 0, false⟩, 0, 0⟩ : Z7), y)) ((Xx l ⟨p, s, a⟩).bind fun y => some (y.1, y.2))) : (Xw p).bind k = some (Zzo (tgt l p s a)) := by
  subst hk
  rw [Zph, Option.bind_some]
  unfold tgt
  by_cases k4 : p.Kind = 4
  · rw [if_pos k4, if_pos k4]; rfl
  rw [if_neg k4, if_neg k4]
  by_cases k : p.Kind = 1 ∨ p.Kind = 2
  · rw [if_pos k, if_pos k, show ((0 : Int) != 0) = false from rfl, cond_false, Zww hw h k, Option.bind_some]
  rw [if_neg k, if_neg k]; rfl
theorem Zyb (p : Z9) : (⟨p.Kind, p.Off, p.Data, p.Ptrs, p.Code, p.Count, p.Segment, p.Double⟩ : Z9) = p := by cases p; rfl
theorem Z1d {l : List (List Int)} {s a : Int} (h0 : 0 ≤ a) : inB l s a 2 = (inB l s a 1 && inB l s (a + 1) 1) := by
  rw [Bool.eq_iff_iff, Bool.and_eq_true, inB_iff, inB_iff, inB_iff]
  omega
theorem Zt5 {l : List (List Int)} (hw : WS l) (s a : Int) : Ql l s a = some (Zzo (fol l s a)) := by
  unfold Ql fol
  rw [Zme hw, Option.bind_some]
  cases h : inB l s a 1 with
  | false => rfl
  | true =>
    have h' := inB_iff.1 h
    have ha := Zuf hw h
    have hq := Zft (wd l s a)
    simp only [if_true, Bool.not_true, cond_false]
    rw [(Zak h'.1 h'.2.1).1, Option.bind_some, (Zkr h).1, Option.bind_some, Zoc (Zfp hw _ _), Option.bind_some]
    revert hq
    generalize dc (wd l s a) = p
    intro hq
    have ho := hq.o
    by_cases k0 : p.Kind = 0
    · rw [show (p.Kind == 0) = true from by rw [k0]; rfl, cond_true, if_pos k0]; rfl
    rw [show (p.Kind == 0) = false from Jj k0, cond_false, if_neg k0]
    by_cases k3 : p.Kind = 3
    · have hf := hq.f k3
      rw [show (p.Kind == 3) = true from by rw [k3]; rfl, cond_true, cond_true, if_pos k3]
      cases hd : p.Double with
      | true =>
        rw [cond_true, if_pos ⟨k3, rfl⟩, Zme hw, Option.bind_some, Yu (by omega) (by omega), Zme hw]
        have h2 := Z1d (l := l) (s := p.Segment) hf
        cases b1 : inB l p.Segment p.Off 1 with
        | false =>
          rw [h2, b1]
          rfl
        | true =>
          rw [cond_true, Option.bind_some, Option.bind_some, Bool.not_true, cond_false, h2, b1, Bool.true_and]
          cases b2 : inB l p.Segment (p.Off + 1) 1 with
          | false => rfl
          | true =>
            have b1' := inB_iff.1 b1
            rw [Bool.not_true, cond_false, (Zak b1'.1 b1'.2.1).1, Option.bind_some, (Zkr b1).1, Option.bind_some, Zoc (Zfp hw _ _), Option.bind_some, (Zkr b2).1, Option.bind_some, Zoc (Zfp hw _ _), Option.bind_some]
            simp only [if_true]
            generalize dc (wd l p.Segment p.Off) = b
            have hq2 := Zft (wd l p.Segment (p.Off + 1))
            revert hq2
            generalize dc (wd l p.Segment (p.Off + 1)) = q
            intro hq2
            by_cases b3 : b.Kind = 3
            · rw [show (b.Kind != 3) = false from by rw [b3]; rfl, cond_false]
              cases bd : b.Double with
              | true => rw [cond_true, if_neg (by simp)]; rfl
              | false =>
                rw [cond_false, if_pos ⟨b3, rfl⟩]
                by_cases ho' : q.Off = 0
                · rw [if_neg (by simp [ho'])]
                  refine Zqm hw hq2 b.Segment b.Off ?_
                  funext y
                  rw [show (q.Off != 0) = false from by rw [ho']; rfl]
                  cases (y == 0) <;> rfl
                rw [Zph, Option.bind_some, show (q.Off != 0) = true from bne_iff_ne.2 ho']
                by_cases hq4 : q.Kind = 4
                · exact absurd (hq2.z (.inr hq4)) ho'
                by_cases hk : q.Kind = 1 ∨ q.Kind = 2
                · rw [if_neg hq4, if_pos hk, if_pos ⟨hq4, ho'⟩]; rfl
                rw [if_neg hq4, if_neg hk, if_pos ⟨hq4, ho'⟩]; rfl
            rw [show (b.Kind != 3) = true from bne_iff_ne.2 b3, cond_true, cond_true, if_neg (by simp [b3])]
            rfl
      | false =>
        rw [cond_false, if_neg (by simp), Zme hw, Option.bind_some]
        cases b1 : inB l p.Segment p.Off 1 with
        | false => rfl
        | true =>
          have b1' := inB_iff.1 b1
          rw [Bool.not_true, cond_false, (Zak b1'.1 b1'.2.1).1, Option.bind_some, (Zkr b1).1, Option.bind_some, Zoc (Zfp hw _ _), Option.bind_some, Option.bind_some]
          have hq2 := Zft (wd l p.Segment p.Off)
          have ho2 := hq2.o
          have ha2 := Zuf hw b1
          simp only [Zyb]
          rw [Yu (x := p.Off + 1) (by omega) (by omega), Yu (by omega) (by omega)]
          exact Zqm hw hq2 _ _ rfl
    rw [show (p.Kind == 3) = false from Jj k3, cond_false, cond_false, cond_false, if_neg (by simp [k3]), if_neg k3, Option.bind_some]
    simp only [Zyb]
    rw [Yu (x := a + 1) (by omega) (by omega), Yu (by omega) (by omega)]
    exact Zqm hw hq _ _ rfl
theorem Z0a (l : List Int) (h : ∀ w ∈ l, 0 ≤ w ∧ w < 18446744073709551616) (hl : l.length * 8 ≤ 140737488355328) : WS [l] :=
  ⟨by simp, fun x hx => by rw [List.mem_singleton] at hx; subst hx; exact hl, fun x hx => by rw [List.mem_singleton] at hx; subst hx; exact h⟩
theorem Zz8 {l : List (List Int)} {p : Z9} (h : PB p) {s a : Int} : ((tgt l p s a).2 ≠ 0 ∧ (tgt l p s a).1 = l0) ∨ ((tgt l p s a).2 = 0 ∧ (p.Kind = 1 ∨ p.Kind = 2) ∧ (tgt l p s a).1 = ⟨Zsp p, s, a⟩ ∧ inB l s a (pw p) = true) := by
  unfold tgt
  by_cases k4 : p.Kind = 4
  · rw [if_pos k4]; exact .inl ⟨by simp, rfl⟩
  rw [if_neg k4]
  by_cases k : p.Kind = 1 ∨ p.Kind = 2
  · rw [if_pos k]
    by_cases hi : inB l s a (pw p) = true
    · rw [if_pos hi]; exact .inr ⟨rfl, k, rfl, hi⟩
    rw [if_neg hi]; exact .inl ⟨by simp, rfl⟩
  rw [if_neg k]; exact .inl ⟨by simp, rfl⟩
theorem Zzb {p : Z9} (h : PB p) : PB (Zsp p) := ⟨h.k, by simp [Zsp], h.d, h.q, h.c, h.n, h.s, fun _ => by simp [Zsp], fun _ => rfl⟩
theorem Zz5 (l : List (List Int)) (s a : Int) : ((fol l s a).1 = l0) ∨ ((fol l s a).2 = 0 ∧ ∃ p s' a', PB p ∧ p.Off = 0 ∧ (p.Kind = 1 ∨ p.Kind = 2) ∧ (fol l s a).1 = ⟨p, s', a'⟩ ∧ inB l s' a' (pw p) = true) := by
  have key : ∀ (w s a : Int), ((tgt l (dc w) s a).1 = l0) ∨ ((tgt l (dc w) s a).2 = 0 ∧ ∃ p s' a', PB p ∧ p.Off = 0 ∧ (p.Kind = 1 ∨ p.Kind = 2) ∧ (tgt l (dc w) s a).1 = ⟨p, s', a'⟩ ∧ inB l s' a' (pw p) = true) := fun w s a => by
    rcases Zz8 (l := l) (Zft w) (s := s) (a := a) with h | ⟨h1, h2, h3, h4⟩
    · exact .inl h.2
    exact .inr ⟨h1, Zsp (dc w), s, a, Zzb (Zft w), rfl, h2, h3, h4⟩
  unfold fol
  by_cases h : inB l s a 1 = true
  · rw [if_pos h]
    simp only
    split
    · exact .inl rfl
    split
    · split
      · split
        · split
          · exact .inl rfl
          exact key _ _ _
        exact .inl rfl
      exact .inl rfl
    split
    · split
      · exact key _ _ _
      exact .inl rfl
    exact key _ _ _
  rw [if_neg h]; exact .inl rfl
def r0 : Zd := ⟨none, 0, 0, 0, 0, 0, 0, 0, 0⟩
def Z3 (r : Zd) : Int := if r.kind = 1 then r.ptrs else r.count
def atR (A : Zm) (s a : Int) : Zd × Int :=
  let x := fol A.segments s a
  if x.2 ≠ 0 ∨ x.1.P.Kind = 0 then (r0, x.2)
  else if x.1.P.Kind = 1 then (⟨some A, 1, x.1.Segment, x.1.At, x.1.P.Data, x.1.P.Ptrs, 0, 0, 0⟩, 0)
  else if x.1.P.Code = 7 then
    let t := dc (wd A.segments x.1.Segment x.1.At)
    if (t.Kind ≠ 0 ∧ t.Kind ≠ 1) ∨ t.Off < 0 ∨ x.1.P.Count < t.Off * (t.Data + t.Ptrs) then (r0, 8)
    else (⟨some A, 9, x.1.Segment, x.1.At, t.Data, t.Ptrs, t.Off, 0, 0⟩, 0)
  else (⟨some A, x.1.P.Code + 2, x.1.Segment, x.1.At, 0, 0, x.1.P.Count, 0, 0⟩, 0)
inductive OKr (A : Zm) : Zd → Prop
  | z : OKr A r0
  | st (s a d p : Int) (hd : 0 ≤ d ∧ d < 65536) (hp : 0 ≤ p ∧ p < 65536) (hi : inB A.segments s a (d + p) = true) : OKr A ⟨some A, 1, s, a, d, p, 0, 0, 0⟩
  | li (k s a n : Int) (hk : 2 ≤ k ∧ k ≤ 8) (hn : 0 ≤ n ∧ n < 536870912) (hi : inB A.segments s a ((n * wdt (k - 2) + 63) / 64) = true) : OKr A ⟨some A, k, s, a, 0, 0, n, 0, 0⟩
  | co (s a d p n : Int) (hd : 0 ≤ d ∧ d < 65536) (hp : 0 ≤ p ∧ p < 65536) (hn : 0 ≤ n ∧ n < 536870912) (hw : 0 ≤ n * (d + p) ∧ n * (d + p) < 536870912) (hi : inB A.segments s a (n * (d + p) + 1) = true) : OKr A ⟨some A, 9, s, a, d, p, n, 0, 0⟩
  | at_ (s a c i n : Int) (hc : 0 ≤ c ∧ c ≤ 5) (h0 : 0 ≤ i) (h1 : i < n) (hn : n < 536870912) (hi : inB A.segments s a ((n * wdt c + 63) / 64) = true) : OKr A ⟨some A, 10, s, a, 0, 0, 0, c, i⟩
theorem Zzy {A : Zm} {r : Zd} (h : OKr A r) : 0 ≤ r.kind ∧ r.kind ≤ 10 := by cases h <;> simp [r0] <;> omega
theorem Zdn (l : List (List Int)) (s a : Int) : ((fol l s a).2 ≠ 0 ∨ (fol l s a).1.P.Kind = 0) ∨ ((fol l s a).2 = 0 ∧ PB (fol l s a).1.P ∧ ((fol l s a).1.P.Kind = 1 ∨ (fol l s a).1.P.Kind = 2) ∧ inB l (fol l s a).1.Segment (fol l s a).1.At (pw (fol l s a).1.P) = true) := by
  rcases Zz5 l s a with h | ⟨h1, p, s', a', hp, ho, hk, h, hi⟩
  · rw [h]; exact .inl (.inr rfl)
  rw [h]; exact .inr ⟨h1, hp, hk, hi⟩
section
variable {A : Zm}
theorem Zua (w : Int) : 0 ≤ (dc w).Data ∧ (dc w).Data < 65536 ∧ 0 ≤ (dc w).Ptrs ∧ (dc w).Ptrs < 65536 ∧ (dc w).Off < 536870912 := by
  have h := Zft w
  exact ⟨h.d.1, h.d.2, h.q.1, h.q.2, h.o.2⟩
theorem Zx3 {n x : Int} (h0 : -536870912 ≤ n ∧ n < 536870912) (h1 : 0 ≤ x ∧ x ≤ 131070) : -70368744177664 ≤ n * x ∧ n * x ≤ 70368744177664 := by
  constructor
  · have : -536870912 * 131070 ≤ n * x := by
      rcases Int.le_total 0 n with h | h
      · have := Int.mul_nonneg h h1.1; omega
      have h2 : n * 131070 ≤ n * x := Int.mul_le_mul_of_nonpos_left h h1.2
      have h3 : -536870912 * 131070 ≤ n * 131070 := Int.mul_le_mul_of_nonneg_right h0.1 (by omega)
      omega
    omega
  rcases Int.le_total 0 n with h | h
  · have h2 : n * x ≤ n * 131070 := Int.mul_le_mul_of_nonneg_left h1.2 h
    have h3 : n * 131070 ≤ 536870912 * 131070 := Int.mul_le_mul_of_nonneg_right (by omega) (by omega)
    omega
  have := Int.mul_nonpos_of_nonpos_of_nonneg h h1.1
  omega
theorem Zdc (s a : Int) : OKr A (atR A s a).1 := by
  unfold atR
  rcases Zdn A.segments s a with h | ⟨h1, hp, hk, hi⟩
  · rw [if_pos h]; exact .z
  rw [if_neg (by omega)]
  generalize (fol A.segments s a).1 = x at *
  by_cases k1 : x.P.Kind = 1
  · rw [if_pos k1]
    have : pw x.P = x.P.Data + x.P.Ptrs := by unfold pw; rw [if_pos k1]
    rw [this] at hi
    exact .st _ _ _ _ hp.d hp.q hi
  rw [if_neg k1]
  have k2 : x.P.Kind = 2 := by omega
  by_cases c7' : x.P.Code = 7
  · rw [if_pos c7']
    have hpw : pw x.P = x.P.Count + 1 := by unfold pw; rw [if_neg k1, if_pos c7']
    rw [hpw] at hi
    have ht := Zua (wd A.segments x.Segment x.At)
    simp only
    generalize dc (wd A.segments x.Segment x.At) = t at *
    split
    · exact .z
    rename_i hc
    have hn := hp.n
    have h0 : 0 ≤ t.Off * (t.Data + t.Ptrs) := Int.mul_nonneg (by omega) (by omega)
    have hi' := inB_iff.1 hi
    exact .co _ _ _ _ _ (by omega) (by omega) (by omega) (by omega) (inB_iff.2 ⟨hi'.1, hi'.2.1, hi'.2.2.1, by omega, by omega⟩)
  rw [if_neg c7']
  have hpw : pw x.P = (x.P.Count * wdt x.P.Code + 63) / 64 := by unfold pw; rw [if_neg k1, if_neg c7']
  rw [hpw] at hi
  have hc := hp.c
  exact .li _ _ _ _ (by omega) hp.n (by rw [show x.P.Code + 2 - 2 = x.P.Code by omega]; exact hi)
theorem Zxc (hw : WS A.segments) (s a : Int) : Um (some A) s a = some (atR A s a) := by
  unfold Um atR
  rw [Zwc hw, Option.bind_some]
  simp only
  rcases Zdn A.segments s a with h | ⟨h1, hp, hk, hi⟩
  · rw [if_pos h]
    have : cond ((fol A.segments s a).2 != 0) true ((fol A.segments s a).1.P.Kind == 0) = true := by
      rcases h with h | h
      · rw [bne_iff_ne.2 h]; rfl
      rw [show ((fol A.segments s a).1.P.Kind == 0) = true from by rw [h]; rfl]
      cases ((fol A.segments s a).2 != 0) <;> rfl
    rw [this, cond_true]; rfl
  rw [if_neg (by omega), h1, show ((0 : Int) != 0) = false from rfl, cond_false]
  generalize (fol A.segments s a).1 = x at *
  rw [show (x.P.Kind == 0) = false from Jj (by omega), cond_false]
  by_cases k1 : x.P.Kind = 1
  · rw [if_pos k1, show (x.P.Kind == 1) = true from by rw [k1]; rfl, cond_true]
  rw [if_neg k1, show (x.P.Kind == 1) = false from Jj k1, cond_false]
  have hc := hp.c
  by_cases c7' : x.P.Code = 7
  · rw [if_pos c7', show (x.P.Code == 7) = true from by rw [c7']; rfl, cond_true]
    have hpw : pw x.P = x.P.Count + 1 := by unfold pw; rw [if_neg k1, if_pos c7']
    rw [hpw] at hi
    have hn := hp.n
    have hi' := inB_iff.1 hi
    have hi1 : inB A.segments x.Segment x.At 1 = true := inB_iff.2 ⟨hi'.1, hi'.2.1, hi'.2.2.1, by omega, by omega⟩
    unfold Vy
    simp only
    rw [Zif hw, if_pos hi1, Option.bind_some, Zr0 (Zfp hw _ _), Option.bind_some]
    have ht := Zua (wd A.segments x.Segment x.At)
    have ho := (Zft (wd A.segments x.Segment x.At)).o
    generalize dc (wd A.segments x.Segment x.At) = t at *
    have hm := Zx3 (n := t.Off) (x := t.Data + t.Ptrs) ho (by omega)
    rw [Yu (x := t.Data + t.Ptrs) (by omega) (by omega), Yu (x := t.Off * (t.Data + t.Ptrs)) (by omega) (by omega), Yu (x := x.P.Code + 2) (by omega) (by omega), c7']
    by_cases hq : (t.Kind ≠ 0 ∧ t.Kind ≠ 1) ∨ t.Off < 0 ∨ x.P.Count < t.Off * (t.Data + t.Ptrs)
    · rw [if_pos hq]
      have : cond (cond (cond (t.Kind != 0) (t.Kind != 1) false) true (decide (t.Off < 0))) true (decide (x.P.Count < t.Off * (t.Data + t.Ptrs))) = true := by
        rcases hq with ⟨q1, q2⟩ | q | q
        · rw [bne_iff_ne.2 q1, bne_iff_ne.2 q2]; rfl
        · rw [decide_eq_true q]; cases (cond (t.Kind != 0) (t.Kind != 1) false) <;> rfl
        rw [decide_eq_true q]; cases (cond (cond (t.Kind != 0) (t.Kind != 1) false) true (decide (t.Off < 0))) <;> rfl
      rw [this, cond_true]; rfl
    rw [if_neg hq]
    have e1 : cond (t.Kind != 0) (t.Kind != 1) false = false := by
      by_cases q0 : t.Kind = 0
      · rw [show (t.Kind != 0) = false from by rw [q0]; rfl]; rfl
      have q1 : t.Kind = 1 := by omega
      rw [show (t.Kind != 1) = false from by rw [q1]; rfl]
      cases (t.Kind != 0) <;> rfl
    rw [e1, cond_false, show decide (t.Off < 0) = false from by rw [decide_eq_false_iff_not]; omega, cond_false, show decide (x.P.Count < t.Off * (t.Data + t.Ptrs)) = false from by rw [decide_eq_false_iff_not]; omega]
    rfl
  rw [if_neg c7', show (x.P.Code == 7) = false from Jj c7', cond_false, Yu (x := x.P.Code + 2) (by omega) (by omega)]
theorem Zcc (r : Zd) : Yq r = some (Z3 r) := by
  unfold Yq Z3
  by_cases h : r.kind = 1
  · rw [if_pos h, show (r.kind == 1) = true from by rw [h]; rfl]; rfl
  rw [if_neg h, show (r.kind == 1) = false from Jj h]; rfl
def Yh (A : Zm) (r : Zd) (i : Int) : Zd × Int :=
  if i < 0 ∨ Z3 r ≤ i then (r0, 0)
  else if r.kind = 1 then atR A r.segment (r.at_ + r.words + i)
  else if r.kind = 8 then atR A r.segment (r.at_ + i)
  else if r.kind = 9 then (⟨some A, 1, r.segment, r.at_ + 1 + i * (r.words + r.ptrs), r.words, r.ptrs, 0, 0, 0⟩, 0)
  else (⟨some A, 10, r.segment, r.at_, 0, 0, 0, r.kind - 2, i⟩, 0)
theorem Qu {r : Zd} (h : OKr A r) (i : Int) : OKr A (Yh A r i).1 := by
  unfold Yh
  by_cases hi : i < 0 ∨ Z3 r ≤ i
  · rw [if_pos hi]; exact .z
  rw [if_neg hi]
  by_cases k1 : r.kind = 1
  · rw [if_pos k1]; exact Zdc _ _
  rw [if_neg k1]
  by_cases k8 : r.kind = 8
  · rw [if_pos k8]; exact Zdc _ _
  rw [if_neg k8]
  by_cases k9 : r.kind = 9
  · rw [if_pos k9]
    cases h with
    | z => simp [r0] at k9
    | st _ _ _ _ => simp at k1
    | li k s a n hk => simp only at k9; omega
    | at_ => simp at k9
    | co s a d p n hd hp hn hw hin =>
      simp only
      have hi' := inB_iff.1 hin
      simp only [Z3] at hi
      rw [if_neg (by omega)] at hi
      have h1 : 0 ≤ i * (d + p) := Int.mul_nonneg (by omega) (by omega)
      have h2 : (i + 1) * (d + p) ≤ n * (d + p) := Int.mul_le_mul_of_nonneg_right (by omega) (by omega)
      rw [Int.add_mul, Int.one_mul] at h2
      exact .st _ _ _ _ hd hp (inB_iff.2 ⟨hi'.1, hi'.2.1, by omega, by omega, by omega⟩)
  rw [if_neg k9]
  cases h with
  | z => simp [r0, Z3] at hi; omega
  | st _ _ _ _ => simp at k1
  | co => simp at k9
  | at_ => simp [Z3] at hi; omega
  | li k s a n hk hn hin =>
    simp only at k8 k9 ⊢
    simp only [Z3] at hi
    rw [if_neg (by omega)] at hi
    exact .at_ _ _ _ _ n (by omega) (by omega) (by omega) (by omega) hin
theorem Ziq (hw : WS A.segments) {s a n : Int} (h : inB A.segments s a n = true) : 0 ≤ a ∧ 0 ≤ n ∧ a + n ≤ 17592186044416 := by
  have h' := inB_iff.1 h
  have := Ze6 hw s
  omega
theorem Zxr (hw : WS A.segments) {r : Zd} (h : OKr A r) (i : Int) : X6 r i = some (Yh A r i) := by
  unfold X6 Yh
  rw [Zcc]
  have hz : (cond (decide (i < 0)) (some true) ((some (Z3 r)).bind fun y4 => some (cond (decide (i < 0)) true (decide (y4 ≤ i))))) = some (decide (i < 0 ∨ Z3 r ≤ i)) := by
    by_cases h0 : i < 0
    · rw [decide_eq_true h0, cond_true, show decide (i < 0 ∨ Z3 r ≤ i) = true from decide_eq_true (.inl h0)]
    rw [decide_eq_false h0, cond_false, Option.bind_some, cond_false]
    congr 1
    rw [decide_eq_decide]
    omega
  rw [hz, Option.bind_some]
  by_cases hi : i < 0 ∨ Z3 r ≤ i
  · rw [if_pos hi, decide_eq_true hi]; rfl
  rw [if_neg hi, decide_eq_false hi, cond_false]
  cases h with
  | z => exact absurd hi (by first | (simp [Z3, r0]; done) | (simp [Z3, r0]; omega))
  | at_ => exact absurd hi (by first | (simp [Z3]; done) | (simp [Z3]; omega))
  | st s a d p hd hp hin =>
    have := Ziq hw hin
    simp only [Z3, if_true] at hi
    simp only [beq_self_eq_true, cond_true, if_true]
    rw [Yu (x := a + d) (by omega) (by omega), Yu (by omega) (by omega), Zxc hw]
    rfl
  | co s a d p n hd hp hn hwx hin =>
    have := Ziq hw hin
    simp only [Z3] at hi
    rw [if_neg (by omega)] at hi
    simp only [show ((9 : Int) == 1) = false from rfl, show ((9 : Int) == 8) = false from rfl, show ((9 : Int) == 9) = true from rfl, cond_true, cond_false, show ¬ (9 : Int) = 1 from by decide, show ¬ (9 : Int) = 8 from by decide, if_false, if_true]
    have h1 : 0 ≤ i * (d + p) := Int.mul_nonneg (by omega) (by omega)
    have h2 : (i + 1) * (d + p) ≤ n * (d + p) := Int.mul_le_mul_of_nonneg_right (by omega) (by omega)
    rw [Int.add_mul, Int.one_mul] at h2
    rw [Yu (x := a + 1) (by omega) (by omega), Yu (x := d + p) (by omega) (by omega), Yu (x := i * (d + p)) (by omega) (by omega), Yu (by omega) (by omega)]
  | li k s a n hk hn hin =>
    have := Ziq hw hin
    simp only [Z3] at hi
    rw [if_neg (by omega)] at hi
    simp only
    rw [show (k == 1) = false from Jj (by omega), cond_false, if_neg (by omega), show (k == 9) = false from Jj (by omega)]
    by_cases k8 : k = 8
    · have hp : (n * wdt (k - 2) + 63) / 64 = n := by rw [k8]; simp [wdt]; omega
      rw [show (k == 8) = true from by rw [k8]; rfl, cond_true, if_pos k8, Yu (by omega) (by omega), Zxc hw]
      rfl
    rw [show (k == 8) = false from Jj k8, cond_false, cond_false, if_neg k8, if_neg (by omega), Yu (by omega) (by omega)]
def K2 (r : Zd) : Int := if r.kind = 1 then r.words else if r.kind = 10 then 1 else 0
theorem Zgz (r : Zd) : Xo r = some (K2 r) := by
  unfold Xo K2
  by_cases h : r.kind = 1
  · rw [if_pos h, show (r.kind == 1) = true from by rw [h]; rfl]; rfl
  rw [if_neg h, show (r.kind == 1) = false from Jj h]
  by_cases h' : r.kind = 10
  · rw [if_pos h', show (r.kind == 10) = true from by rw [h']; rfl]; rfl
  rw [if_neg h', show (r.kind == 10) = false from Jj h']; rfl
def Zso (w : Int) (c j : Int) : Int := ((w.toNat / 2 ^ (j * wdt c).toNat % 2 ^ (wdt c).toNat : Nat) : Int)
def each (c : Int) : Int := 64 / wdt c
def Zty (A : Zm) (r : Zd) : Int := if r.code = 0 then 0 else Zso (wd A.segments r.segment (r.at_ + r.index / each r.code)) r.code (r.index % each r.code)
theorem c5 {c : Int} (h : 0 ≤ c ∧ c ≤ 5) : c = 0 ∨ c = 1 ∨ c = 2 ∨ c = 3 ∨ c = 4 ∨ c = 5 := by omega
theorem Zpl {c : Int} (h : 0 ≤ c ∧ c ≤ 5) : Us c = some (wdt c, true) := by
  unfold Us
  rcases c5 h with rfl | rfl | rfl | rfl | rfl | rfl <;> rfl
theorem Zwl (w : Nat) (k : Nat) (hw : w < 18446744073709551616) (hk : k ≤ 64) : IntKind.u64.wrap (U0 .u64 (w : Int) (IntKind.u64.wrap (IntKind.u64.wrap (1 * 2 ^ min (Int.toNat (k : Int)) 64) - 1))) = ((w % 2 ^ k : Nat) : Int) := by
  have hm : IntKind.u64.wrap (IntKind.u64.wrap (1 * 2 ^ min (Int.toNat (k : Int)) 64) - 1) = ((2 ^ k - 1 : Nat) : Int) := by
    rw [Int.toNat_natCast, Nat.min_eq_left hk, Zp7]
    rcases Nat.lt_or_ge k 64 with h | h
    · have h1 : 2 ^ k ≤ 2 ^ 63 := Nat.pow_le_pow_right (by decide) (by omega)
      have h2 : 0 < 2 ^ k := Nat.pow_pos (by decide)
      rw [Int.one_mul, Zyo (2 ^ k) (by omega), show (((2 ^ k : Nat) : Int) - 1) = ((2 ^ k - 1 : Nat) : Int) by omega, Zyo _ (by omega)]
    have : k = 64 := by omega
    subst this
    decide
  rw [hm]
  have e : U0 .u64 (w : Int) ((2 ^ k - 1 : Nat) : Int) = ((w &&& (2 ^ k - 1) : Nat) : Int) := by
    unfold U0
    congr 1
    have h1 : 2 ^ k ≤ 2 ^ 64 := Nat.pow_le_pow_right (by decide) hk
    have h2 : 0 < 2 ^ k := Nat.pow_pos (by decide)
    rw [BitVec.toNat_and]
    have e1 : (BitVec.ofInt (IntKind.u64).bits (w : Int)).toNat = w := by
      show (BitVec.ofInt 64 (w : Int)).toNat = w
      rw [BitVec.ofInt_natCast, BitVec.toNat_ofNat]
      exact Nat.mod_eq_of_lt (by omega)
    have e2 : (BitVec.ofInt (IntKind.u64).bits ((2 ^ k - 1 : Nat) : Int)).toNat = 2 ^ k - 1 := by
      show (BitVec.ofInt 64 ((2 ^ k - 1 : Nat) : Int)).toNat = 2 ^ k - 1
      rw [BitVec.ofInt_natCast, BitVec.toNat_ofNat]
      exact Nat.mod_eq_of_lt (by omega)
    rw [e1, e2]
  rw [e, Nat.and_two_pow_sub_one_eq_mod]
  have : w % 2 ^ k ≤ w := Nat.mod_le _ _
  exact IntWalk.u64_in _ (by omega)
theorem Zzs {w c j : Int} (hw : 0 ≤ w ∧ w < 18446744073709551616) (hc : 1 ≤ c ∧ c ≤ 5) (hj : 0 ≤ j ∧ j < each c) : Zb4 [w] c j = some (Zso w c j) := by
  unfold Zb4 Zso
  rw [Zpl (by omega), Option.bind_some]
  simp only
  obtain ⟨d, e, hd⟩ : ∃ d : Nat, wdt c = (d : Int) ∧ (d = 1 ∨ d = 8 ∨ d = 16 ∨ d = 32 ∨ d = 64) := by
    rcases c5 (c := c) (by omega) with rfl | rfl | rfl | rfl | rfl | rfl
    · omega
    · exact ⟨1, rfl, by omega⟩
    · exact ⟨8, rfl, by omega⟩
    · exact ⟨16, rfl, by omega⟩
    · exact ⟨32, rfl, by omega⟩
    exact ⟨64, rfl, by omega⟩
  have he : each c = ((64 / d : Nat) : Int) := by unfold each; rw [e]; rfl
  have hdd : 64 / d * d = 64 := by rcases hd with rfl | rfl | rfl | rfl | rfl <;> rfl
  have hdp : 1 ≤ d ∧ d ≤ 64 := by omega
  have hep : 1 ≤ 64 / d ∧ 64 / d ≤ 64 := by rcases hd with rfl | rfl | rfl | rfl | rfl <;> decide
  rw [he] at hj
  obtain ⟨q, rfl⟩ : ∃ q : Nat, j = q := ⟨j.toNat, by omega⟩
  have hq : q < 64 / d := by omega
  have hqd : q * d + d ≤ 64 := by
    have : (q + 1) * d ≤ 64 / d * d := Nat.mul_le_mul_right d hq
    rw [Nat.add_mul] at this
    omega
  rw [e]
  have t1 : Int.tdiv 64 (d : Int) = ((64 / d : Nat) : Int) := by rw [Int.tdiv_eq_ediv_of_nonneg (by decide)]; rfl
  have t2 : Int.tdiv (q : Int) ((64 / d : Nat) : Int) = 0 := by
    rw [Int.tdiv_eq_ediv_of_nonneg (by omega), show ((q : Int) / ((64 / d : Nat) : Int)) = ((q / (64 / d) : Nat) : Int) from rfl, Nat.div_eq_of_lt hq]
    rfl
  have t3 : Int.tmod (q : Int) ((64 / d : Nat) : Int) = (q : Int) := by
    rw [Int.tmod_eq_emod_of_nonneg (by omega), show ((q : Int) % ((64 / d : Nat) : Int)) = ((q % (64 / d) : Nat) : Int) from rfl, Nat.mod_eq_of_lt hq]
  rw [t1, Yu (x := ((64 / d : Nat) : Int)) (by omega) (by omega), t2, t3, show IntKind.i64.wrap 0 = 0 from by decide]
  have t4 : ((q : Int) * (d : Int)) = ((q * d : Nat) : Int) := by simp
  rw [t4, Yu (x := ((q * d : Nat) : Int)) (by omega) (by omega), show (((d : Nat) : Int) == 0) = false from Jj (by omega), show decide ((q : Int) < 0) = false from by rw [decide_eq_false_iff_not]; omega]
  simp only [cond_false]
  have g0 : Qo [w] 0 = some w := rfl
  have e1 : Qc ((d : Int) ≠ 0) = some () := Zaq (by omega)
  have e2 : Qc (((64 / d : Nat) : Int) ≠ 0) = some () := Zaq (by omega)
  have e3 : Qc (0 ≤ ((q * d : Nat) : Int)) = some () := Zaq (by omega)
  have e4 : Qc (0 ≤ (d : Int)) = some () := Zaq (by omega)
  simp only [e1, e2, e3, e4, g0, Option.bind_some, cond_false, show decide ((([w] : List Int).length : Int) ≤ 0) = false from rfl]
  congr 1
  have hwn : w = ((w.toNat : Nat) : Int) := by omega
  have hf : Int.fdiv w (2 ^ min (Int.toNat ((q * d : Nat) : Int)) 64) = ((w.toNat / 2 ^ (q * d) : Nat) : Int) := by
    rw [Int.toNat_natCast, Nat.min_eq_left (by omega), Zp7, Int.fdiv_eq_ediv_of_nonneg _ (Int.natCast_nonneg _)]
    conv => lhs; rw [hwn]
    rfl
  rw [hf, Zwl _ d (Nat.lt_of_le_of_lt (Nat.div_le_self _ _) (by omega)) (by omega)]
  rw [Int.toNat_natCast, Int.toNat_natCast]
end
section
variable {A : Zm}
def Zv0 (A : Zm) (r : Zd) (i : Int) : Int :=
  if i < 0 ∨ K2 r ≤ i then 0 else if r.kind = 10 then Zty A r else wd A.segments r.segment (r.at_ + i)
theorem Zug {c i n : Int} (hc : 1 ≤ c ∧ c ≤ 5) (h0 : 0 ≤ i) (h1 : i < n) (hn : n < 536870912) : 1 ≤ each c ∧ each c ≤ 64 ∧ 0 ≤ i / each c ∧ i / each c + 1 ≤ (n * wdt c + 63) / 64 ∧ 0 ≤ i % each c ∧ i % each c < each c ∧ Int.tdiv 64 (wdt c) = each c ∧ wdt c ≠ 0 := by
  rcases c5 (c := c) (by omega) with rfl | rfl | rfl | rfl | rfl | rfl
  · omega
  · have e1 : each 1 = 64 := by decide
    have e2 : wdt 1 = 1 := by decide
    rw [e1, e2]; exact ⟨by omega, by omega, by omega, by omega, by omega, by omega, by decide, by decide⟩
  · have e1 : each 2 = 8 := by decide
    have e2 : wdt 2 = 8 := by decide
    rw [e1, e2]; exact ⟨by omega, by omega, by omega, by omega, by omega, by omega, by decide, by decide⟩
  · have e1 : each 3 = 4 := by decide
    have e2 : wdt 3 = 16 := by decide
    rw [e1, e2]; exact ⟨by omega, by omega, by omega, by omega, by omega, by omega, by decide, by decide⟩
  · have e1 : each 4 = 2 := by decide
    have e2 : wdt 4 = 32 := by decide
    rw [e1, e2]; exact ⟨by omega, by omega, by omega, by omega, by omega, by omega, by decide, by decide⟩
  have e1 : each 5 = 1 := by decide
  have e2 : wdt 5 = 64 := by decide
  rw [e1, e2]; exact ⟨by omega, by omega, by omega, by omega, by omega, by omega, by decide, by decide⟩
theorem Zwq (hw : WS A.segments) {s a c i n : Int} (hc : 0 ≤ c ∧ c ≤ 5) (h0 : 0 ≤ i) (h1 : i < n) (hn : n < 536870912) (hi : inB A.segments s a ((n * wdt c + 63) / 64) = true) : Jl ⟨some A, 10, s, a, 0, 0, 0, c, i⟩ = some (Zty A ⟨some A, 10, s, a, 0, 0, 0, c, i⟩) := by
  unfold Jl Zty
  simp only
  rw [Zpl hc, Option.bind_some]
  simp only
  by_cases hz : c = 0
  · subst hz
    rw [show (wdt 0 == 0) = true from by decide, cond_true, if_pos rfl]
  obtain ⟨a1, a2, a3, a4, a5, a6, a7, a8⟩ := Zug (c := c) (by omega) h0 h1 hn
  have hr := Ziq hw hi
  have hi' := inB_iff.1 hi
  have hin : inB A.segments s (a + i / each c) 1 = true := inB_iff.2 ⟨hi'.1, hi'.2.1, by omega, by omega, by omega⟩
  rw [show (wdt c == 0) = false from Jj a8, cond_false, if_neg hz, a7, Yu (x := each c) (by omega) (by omega), Int.tdiv_eq_ediv_of_nonneg h0, Int.tmod_eq_emod_of_nonneg h0, Yu (x := i / each c) (by omega) (by omega), Yu (x := a + i / each c) (by omega) (by omega)]
  have e1 : Qc (wdt c ≠ 0) = some () := Zaq a8
  have e2 : Qc (each c ≠ 0) = some () := Zaq (by omega)
  simp only [e1, e2, Option.bind_some]
  rw [Zif hw, if_pos hin, Option.bind_some]
  simp only
  rw [Zzs (Zfp hw _ _) (by omega) ⟨a5, a6⟩, Option.bind_some]
theorem Zzt (hw : WS A.segments) {r : Zd} (h : OKr A r) (i : Int) : Km r i = some (Zv0 A r i) := by
  unfold Km Zv0
  rw [Zgz]
  have hz : (cond (decide (i < 0)) (some true) ((some (K2 r)).bind fun y4 => some (cond (decide (i < 0)) true (decide (y4 ≤ i))))) = some (decide (i < 0 ∨ K2 r ≤ i)) := by
    by_cases h0 : i < 0
    · rw [decide_eq_true h0, cond_true, show decide (i < 0 ∨ K2 r ≤ i) = true from decide_eq_true (.inl h0)]
    rw [decide_eq_false h0, cond_false, Option.bind_some, cond_false]
    congr 1
    rw [decide_eq_decide]
    omega
  rw [hz, Option.bind_some]
  by_cases hi : i < 0 ∨ K2 r ≤ i
  · rw [if_pos hi, decide_eq_true hi]; rfl
  rw [if_neg hi, decide_eq_false hi, cond_false]
  cases h with
  | z => exact absurd hi (by simp [K2, r0]; try omega)
  | li k s a n hk hn hin => exact absurd hi (by simp only [K2]; rw [if_neg (by omega), if_neg (by omega)]; omega)
  | co s a d p n hd hp hn hwx hin => exact absurd hi (by simp [K2]; try omega)
  | at_ s a c i' n hc h0 h1 hn hin =>
    simp only [beq_self_eq_true, cond_true, if_true]
    rw [Zwq hw hc h0 h1 hn hin]
    rfl
  | st s a d p hd hp hin =>
    have := Ziq hw hin
    have hi' := inB_iff.1 hin
    simp only [K2, if_true] at hi
    simp only [show ((1 : Int) == 10) = false from rfl, cond_false, show ¬ (1 : Int) = 10 from by decide, if_false]
    rw [Yu (by omega) (by omega), Zif hw, if_pos (inB_iff.2 ⟨hi'.1, hi'.2.1, by omega, by omega, by omega⟩)]
    rfl
theorem Zqo (hw : WS A.segments) : Ky (some A) = some (atR A 0 0) := by
  unfold Ky
  rw [Zxc hw]
  rfl
end
abbrev Tr := S_api_Tree
def lvR (r : Zd) : Int := if r.kind = 0 then 0 else if r.kind = 9 ∧ 0 < r.count then 2 else 1
def wtR (r : Zd) : Int := if r.kind = 0 then 0 else if r.kind = 1 then 1 + r.words + r.ptrs else if r.kind = 9 then 1 + r.count * (1 + r.words + r.ptrs) else 1 + r.count
theorem Zwm (r : Zd) : Uo r = some (lvR r) := by
  have hk : Yk r = some r.kind := rfl
  unfold Uo lvR
  rw [hk, Zcc, Option.bind_some]
  by_cases h0 : r.kind = 0
  · rw [show (r.kind == 0) = true from by rw [h0]; rfl, if_pos h0]; rfl
  rw [show (r.kind == 0) = false from Jj h0, if_neg h0, cond_false, Option.bind_some]
  by_cases h9 : r.kind = 9
  · have hkn : Z3 r = r.count := by unfold Z3; rw [if_neg (by omega)]
    rw [show (r.kind == 9) = true from by rw [h9]; rfl, cond_true, Option.bind_some, Option.bind_some, cond_true, hkn]
    by_cases hc : 0 < r.count
    · rw [if_pos ⟨h9, hc⟩, decide_eq_true hc]; rfl
    rw [if_neg (fun q => hc q.2), decide_eq_false hc]; rfl
  rw [show (r.kind == 9) = false from Jj h9, if_neg (fun q => h9 q.1)]; rfl
section
variable {A : Zm}
theorem Zv1 (hw : WS A.segments) {r : Zd} (h : OKr A r) : 0 ≤ wtR r ∧ wtR r ≤ 4503599627370496 ∧ (r.kind ≠ 0 → 1 ≤ wtR r) := by
  cases h with
  | z => simp [wtR, r0]
  | st s a d p hd hp hin => simp [wtR]; omega
  | li k s a n hk hn hin => simp only [wtR]; rw [if_neg (by omega), if_neg (by omega), if_neg (by omega)]; omega
  | co s a d p n hd hp hn hwx hin =>
    simp only [wtR, show ¬ (9 : Int) = 0 from by decide, show ¬ (9 : Int) = 1 from by decide, if_false, if_true]
    have : n * (1 + d + p) = n + n * (d + p) := by rw [Int.add_assoc, Int.mul_add, Int.mul_one]
    omega
  | at_ s a c i n hc h0 h1 hn hin => simp [wtR]
theorem Zw3 (hw : WS A.segments) {r : Zd} (h : OKr A r) : Vl r = some (wtR r) := by
  have hk : Yk r = some r.kind := rfl
  unfold Vl wtR
  rw [hk, Zgz, Zcc, Option.bind_some]
  cases h with
  | z => rfl
  | st s a d p hd hp hin =>
    simp only [K2, Z3, if_true, show ((1 : Int) == 0) = false from rfl, show ((1 : Int) == 1) = true from rfl, cond_false, cond_true, Option.bind_some, show ¬ (1 : Int) = 0 from by decide, if_false]
    rw [Yu (x := 1 + d) (by omega) (by omega), Yu (by omega) (by omega)]
  | li k s a n hk' hn hin =>
    simp only [Z3]
    rw [show (k == 0) = false from Jj (by omega), show (k == 1) = false from Jj (by omega), show (k == 9) = false from Jj (by omega), if_neg (by omega), if_neg (by omega), if_neg (by omega), if_neg (by omega), cond_false, cond_false, cond_false, Option.bind_some, Yu (by omega) (by omega)]
  | co s a d p n hd hp hn hwx hin =>
    have : n * (1 + d + p) = n + n * (d + p) := by rw [Int.add_assoc, Int.mul_add, Int.mul_one]
    unfold Vx
    simp only [Z3, show ((9 : Int) == 0) = false from rfl, show ((9 : Int) == 1) = false from rfl, show ((9 : Int) == 9) = true from rfl, show ((9 : Int) != 9) = false from rfl, cond_false, cond_true, Option.bind_some, show ¬ (9 : Int) = 0 from by decide, show ¬ (9 : Int) = 1 from by decide, if_false, if_true]
    rw [Yu (x := 1 + d) (by omega) (by omega), Yu (x := 1 + d + p) (by omega) (by omega), Yu (x := n * (1 + d + p)) (by omega) (by omega), Yu (by omega) (by omega)]
  | at_ s a c i n hc h0 h1 hn hin => rfl
def Xy (A : Zm) (r : Zd) : List Int := if r.kind = 10 then [Zty A r] else if r.kind = 1 then ((seg A.segments r.segment).drop r.at_.toNat).take r.words.toNat else []
def Ym (f : Zd → Int → Tr × Int × Int) (g : Int → Zd × Int) : Nat → Nat → Int → List Tr → List Tr × Int × Int
  | 0, _, left, acc => (acc, left, 0)
  | m + 1, i, left, acc => if (g i).2 ≠ 0 then (acc, left, (g i).2) else if (f (g i).1 left).2.2 ≠ 0 then (acc, (f (g i).1 left).2.1, (f (g i).1 left).2.2) else Ym f g m (i + 1) (f (g i).1 left).2.1 (acc ++ [(f (g i).1 left).1])
def stK (A : Zm) (f : Zd → Int → Tr × Int × Int) (k : Zd) (left : Int) : Tr × Int × Int :=
  let q := Ym f (Yh A k) k.ptrs.toNat 0 left []
  (⟨1, Xy A k, q.1⟩, q.2)
def Zfh (A : Zm) (k : Zd) (left : Int) : Tr × Int × Int := (⟨k.kind, Xy A k, []⟩, left, 0)
def Gd (A : Zm) (f1 f2 : Zd → Int → Tr × Int × Int) (r : Zd) : Zd → Int → Tr × Int × Int :=
  if r.kind = 9 then stK A f2 else if r.kind = 1 ∨ r.kind = 8 then f1 else Zfh A
def Zdu (A : Zm) (f1 f2 : Zd → Int → Tr × Int × Int) (d : Int) (r : Zd) (left : Int) : Tr × Int × Int :=
  if r.kind = 0 then (⟨r.kind, Xy A r, []⟩, left, 0)
  else if d < lvR r ∨ left < wtR r then (⟨r.kind, Xy A r, []⟩, left, 3)
  else
    let q := Ym (Gd A f1 f2 r) (Yh A r) (Z3 r).toNat 0 (left - wtR r) []
    (⟨r.kind, Xy A r, q.1⟩, q.2)
def bad (_ : Zd) (left : Int) : Tr × Int × Int := (⟨0, [], []⟩, left, 3)
def Ko (A : Zm) : Nat → Zd → Int → Tr × Int × Int
  | 0 => Zdu A bad bad 0
  | 1 => Zdu A (Ko A 0) bad 1
  | d + 2 => Zdu A (Ko A (d + 1)) (Ko A d) ((d + 2 : Nat) : Int)
def Qe (A : Zm) (k : Nat) (d : Nat) : Zd → Int → Tr × Int × Int := if k ≤ d then Ko A (d - k) else bad
theorem Ziy (d : Nat) : Ko A d = Zdu A (Qe A 1 d) (Qe A 2 d) (d : Int) := by
  match d with
  | 0 => rfl
  | 1 => rfl
  | d + 2 =>
    unfold Qe
    rw [if_pos (by omega), if_pos (by omega)]
    rfl
def Lf (A : Zm) (f : Zd → Int → Tr × Int × Int) : Prop := ∀ k left, OKr A k → 0 ≤ left → (f k left).2.2 = 0 → 0 ≤ (f k left).2.1 ∧ (f k left).2.1 ≤ left
theorem Zio {f : Zd → Int → Tr × Int × Int} {g : Int → Zd × Int} (hf : Lf A f) (hg : ∀ i, OKr A (g i).1) : ∀ (m i : Nat) (left : Int) (acc : List Tr), 0 ≤ left → (Ym f g m i left acc).2.2 = 0 → 0 ≤ (Ym f g m i left acc).2.1 ∧ (Ym f g m i left acc).2.1 ≤ left
  | 0, i, left, acc, h0, _ => ⟨h0, Int.le_refl _⟩
  | m + 1, i, left, acc, h0, h => by
    rw [Ym] at h ⊢
    by_cases h1 : (g i).2 ≠ 0
    · rw [if_pos h1] at h; exact absurd h h1
    rw [if_neg h1] at h ⊢
    by_cases h2 : (f (g i).1 left).2.2 ≠ 0
    · rw [if_pos h2] at h; exact absurd h h2
    rw [if_neg h2] at h ⊢
    have h2' : (f (g i).1 left).2.2 = 0 := by omega
    obtain ⟨a1, a2⟩ := hf _ _ (hg i) h0 h2'
    obtain ⟨b1, b2⟩ := Zio hf hg m (i + 1) _ _ a1 h
    exact ⟨b1, by omega⟩
theorem Zkf : Lf A bad := fun k left _ _ h => by simp [bad] at h
theorem Zxw {f : Zd → Int → Tr × Int × Int} (hf : Lf A f) : Lf A (stK A f) := fun k left hk h0 h => Zio hf (fun i => Qu hk i) _ _ _ _ h0 h
theorem Zxu : Lf A (Zfh A) := fun k left _ h0 _ => ⟨h0, Int.le_refl _⟩
theorem Zp3 {f1 f2 : Zd → Int → Tr × Int × Int} (h1 : Lf A f1) (h2 : Lf A f2) (r : Zd) : Lf A (Gd A f1 f2 r) := by
  unfold Gd
  split
  · exact Zxw h2
  split
  · exact h1
  exact Zxu
theorem Zxv (hw : WS A.segments) {f1 f2 : Zd → Int → Tr × Int × Int} (h1 : Lf A f1) (h2 : Lf A f2) (d : Int) : Lf A (Zdu A f1 f2 d) := fun r left hr h0 h => by
  have hwt := Zv1 hw hr
  unfold Zdu at h ⊢
  by_cases k0 : r.kind = 0
  · rw [if_pos k0]; exact ⟨h0, Int.le_refl _⟩
  rw [if_neg k0] at h ⊢
  by_cases hb : d < lvR r ∨ left < wtR r
  · rw [if_pos hb] at h; simp at h
  rw [if_neg hb] at h ⊢
  have := Zio (Zp3 h1 h2 r) (fun i => Qu hr i) (Z3 r).toNat 0 (left - wtR r) [] (by omega) h
  simp only
  omega
theorem Zcz (hw : WS A.segments) : ∀ d, Lf A (Ko A d) := fun d => by
  induction d using Nat.strongRecOn with
  | ind d ih =>
    rw [Ziy]
    refine Zxv hw ?_ ?_ _
    · unfold Qe
      split
      · exact ih _ (by omega)
      exact Zkf
    unfold Qe
    split
    · exact ih _ (by omega)
    exact Zkf
end
theorem Zsk {S R : Type} {s1 s2 : S → Option (S ⊕ R)} (h : ∀ s x, s1 s = some x → s2 s = some x) : ∀ (k : Nat) (s : S) (r : R), Uk s1 k s = some r → Uk s2 k s = some r
  | 0, s, r, q => by simp [Uk] at q
  | k + 1, s, r, q => by
    simp only [Uk] at q ⊢
    cases hs : s1 s with
    | none => rw [hs] at q; cases q
    | some x =>
      rw [hs] at q
      rw [h s x hs]
      cases x with
      | inl s' => exact Zsk h k s' r q
      | inr r' => exact q
theorem Zoi {S R : Type} {s1 s2 : S → Option (S ⊕ R)} (h : ∀ s x, s1 s = some x → s2 s = some x) {s : S} {r : R} (q : Ye s1 s = some r) : Ye s2 s = some r := by
  obtain ⟨k, hk⟩ := Zd1 q
  exact Ze5 (Zsk h k s r hk)
theorem Ub {α β : Type} {o o' : Option α} {f f' : α → Option β} (h : ∀ x, o = some x → o' = some x) (hf : ∀ x y, f x = some y → f' x = some y) {r : β} (q : o.bind f = some r) : o'.bind f' = some r := by
  obtain ⟨x, h1, h2⟩ := Option.bind_eq_some_iff.1 q
  rw [h x h1]
  exact hf x r h2
theorem Zee {α : Type} (c : Bool) {a a' b b' : Option α} (h1 : ∀ r, a = some r → a' = some r) (h2 : ∀ r, b = some r → b' = some r) (r : α) (q : cond c a b = some r) : cond c a' b' = some r := by
  cases c with
  | true => exact h1 r q
  | false => exact h2 r q
theorem Zxy {R : Type} {F : Nat → Option R} {r : R} (hm : ∀ k r, F k = some r → F (k + 1) = some r) {K : Nat} (h : F K = some r) : lim F = some r := by
  refine Zn4 K fun k hk => ?_
  obtain ⟨d, rfl⟩ : ∃ d, k = K + d := ⟨k - K, by omega⟩
  clear hk
  induction d with
  | zero => exact h
  | succ d ih => exact hm _ _ ih
section
variable {A : Zm}
theorem Znp {step : Int × Int → Option ((Int × Int) ⊕ ((Int × Int) ⊕ Int))} {F : Ze → Zd → Option (Int × Ze)} {f : Zd → Int → Tr × Int × Int} {r : Zd} (hw : WS A.segments) (hr : OKr A r) (n : Nat) (hn : n ≤ 1073741824)
    (hs : ∀ (i : Nat) (left : Int), i < n → step ((i : Int), left) = (X6 r i).bind fun y4 => cond (y4.2 != 0) (some (.inr (.inl (y4.2, left)))) ((F ⟨left⟩ y4.1).bind fun y6 => cond (y6.1 != 0) (some (.inr (.inl (y6.1, y6.2.left)))) (some (.inl (IntKind.i64.wrap ((i : Int) + 1), y6.2.left)))))
    (he : ∀ left, step ((n : Int), left) = some (.inr (.inr left)))
    (hf : Lf A f)
    (hF : ∀ (i : Nat) (left : Int), i < n → (Yh A r i).2 = 0 → 0 ≤ left ∧ left ≤ 65536 → ∃ e l', F ⟨left⟩ (Yh A r i).1 = some (e, ⟨l'⟩) ∧ e = (f (Yh A r i).1 left).2.2 ∧ (e = 0 → l' = (f (Yh A r i).1 left).2.1)) : ∀ (m i : Nat) (left : Int) (acc : List Tr), i + m = n → 0 ≤ left ∧ left ≤ 65536 →
    ∃ z, Ye step ((i : Int), left) = some z ∧ ((Ym f (Yh A r) m i left acc).2.2 = 0 → z = .inr (Ym f (Yh A r) m i left acc).2.1) ∧ ((Ym f (Yh A r) m i left acc).2.2 ≠ 0 → ∃ x, z = .inl ((Ym f (Yh A r) m i left acc).2.2, x))
  | 0, i, left, acc, hi, hl => by
    have : i = n := by omega
    subst this
    exact ⟨_, Y0 (he left), fun _ => rfl, fun h => absurd rfl h⟩
  | m + 1, i, left, acc, hi, hl => by
    have hst := hs i left (by omega)
    rw [Zxr hw hr, Option.bind_some] at hst
    rw [Ym]
    by_cases h1 : (Yh A r i).2 ≠ 0
    · rw [if_pos h1]
      rw [show ((Yh A r i).2 != 0) = true from bne_iff_ne.2 h1, cond_true] at hst
      exact ⟨_, Y0 hst, fun h => absurd h h1, fun _ => ⟨_, rfl⟩⟩
    rw [if_neg h1]
    have h1' : (Yh A r i).2 = 0 := by omega
    rw [show ((Yh A r i).2 != 0) = false from by rw [h1']; rfl, cond_false] at hst
    obtain ⟨e, l', q1, q2, q3⟩ := hF i left (by omega) h1' hl
    rw [q1, Option.bind_some] at hst
    simp only at hst
    by_cases h2 : (f (Yh A r i).1 left).2.2 ≠ 0
    · rw [if_pos h2]
      rw [q2, show ((f (Yh A r i).1 left).2.2 != 0) = true from bne_iff_ne.2 h2, cond_true] at hst
      exact ⟨_, Y0 hst, fun h => absurd h h2, fun _ => ⟨_, rfl⟩⟩
    rw [if_neg h2]
    have h2' : (f (Yh A r i).1 left).2.2 = 0 := by omega
    have e0 : e = 0 := q2.trans h2'
    have hl' := q3 e0
    have hb := hf _ left (Qu hr i) hl.1 h2'
    rw [e0, show ((0 : Int) != 0) = false from rfl, cond_false, Yu (by omega) (by omega), hl'] at hst
    rw [Qg (s' := (((i + 1 : Nat) : Int), (f (Yh A r i).1 left).2.1)) hst]
    exact Znp hw hr n hn hs he hf hF m (i + 1) _ _ (by omega) ⟨hb.1, by omega⟩
def CK (A : Zm) (F : Ze → Zd → Int → Option (Int × Ze)) (f : Zd → Int → Tr × Int × Int) (d : Int) (r : Zd) (left : Int) : Prop := ∃ e l', F ⟨left⟩ r d = some (e, ⟨l'⟩) ∧ e = (f r left).2.2 ∧ (e = 0 → l' = (f r left).2.1)
theorem Zds {r : Zd} (h : OKr A r) : 0 ≤ Z3 r ∧ Z3 r ≤ 1073741824 := by
  cases h with
  | z => simp [Z3, r0]
  | st s a d p hd hp hin => simp only [Z3, if_true]; omega
  | li k s a n hk hn hin => simp only [Z3]; rw [if_neg (by omega)]; omega
  | co s a d p n hd hp hn hwx hin => simp only [Z3]; rw [if_neg (by omega)]; omega
  | at_ s a c i n hc h0 h1 hn hin => simp [Z3]
theorem Zxe (hw : WS A.segments) {f1 f2 f3 : Ze → Zd → Int → Option (Int × Ze)} {f : Zd → Int → Tr × Int × Int} (hf : Lf A f) {r : Zd} (hr : OKr A r) {d left : Int} (hl : 0 ≤ left ∧ left ≤ 65536)
    (hF : ∀ (i : Nat) (l : Int), i < (Z3 r).toNat → (Yh A r i).2 = 0 → 0 ≤ l ∧ l ≤ 65536 → CK A f1 f d (Yh A r i).1 l) :
    ∃ e l', X1 f1 f2 f3 ⟨left⟩ r d = some (e, ⟨l'⟩) ∧ e = (Ym f (Yh A r) (Z3 r).toNat 0 left []).2.2 ∧ (e = 0 → l' = (Ym f (Yh A r) (Z3 r).toNat 0 left []).2.1) := by
  have hk := Zds hr
  unfold X1
  rw [Zcc, Option.bind_some]
  have hN : Z3 r = (((Z3 r).toNat : Nat) : Int) := by omega
  obtain ⟨z, z1, z2, z3⟩ := Znp (step := X2 f1 r d (Z3 r)) (F := fun c k => f1 c k d) (f := f) hw hr (Z3 r).toNat (by omega) (fun i l hi => by
    unfold X2
    simp only
    rw [show decide ((i : Int) < Z3 r) = true from by rw [decide_eq_true_eq]; omega, cond_true]) (fun l => by
    unfold X2
    simp only
    rw [show decide ((((Z3 r).toNat : Nat) : Int) < Z3 r) = false from by rw [decide_eq_false_iff_not]; omega, cond_false]) hf hF (Z3 r).toNat 0 left [] (by omega) hl
  rw [show (((0 : Nat) : Int)) = 0 from rfl] at z1
  rw [z1, Option.bind_some]
  by_cases hq : (Ym f (Yh A r) (Z3 r).toNat 0 left []).2.2 = 0
  · rw [z2 hq]
    exact ⟨_, _, rfl, hq.symm, fun _ => rfl⟩
  obtain ⟨x, hx⟩ := z3 hq
  rw [hx]
  exact ⟨_, _, rfl, rfl, fun h => absurd h hq⟩
theorem Zry (hw : WS A.segments) {f1 f2 f3 : Ze → Zd → Int → Option (Int × Ze)} {f : Zd → Int → Tr × Int × Int} (hf : Lf A f) {r : Zd} (hr : OKr A r) {d left : Int} (hd : 0 ≤ d ∧ d ≤ 1000) (hl : 0 ≤ left ∧ left ≤ 65536)
    (hF : ∀ (i : Nat) (l : Int), i < (Z3 r).toNat → (Yh A r i).2 = 0 → 0 ≤ l ∧ l ≤ 65536 → CK A f2 f (d - 1) (Yh A r i).1 l) :
    ∃ e l', Xj f1 f2 f3 ⟨left⟩ r d = some (e, ⟨l'⟩) ∧ e = (Ym f (Yh A r) (Z3 r).toNat 0 left []).2.2 ∧ (e = 0 → l' = (Ym f (Yh A r) (Z3 r).toNat 0 left []).2.1) := by
  have hk := Zds hr
  unfold Xj
  rw [Zcc, Option.bind_some]
  obtain ⟨z, z1, z2, z3⟩ := Znp (step := Xl f2 r d (Z3 r)) (F := fun c k => f2 c k (d - 1)) (f := f) hw hr (Z3 r).toNat (by omega) (fun i l hi => by
    unfold Xl
    simp only
    rw [show decide ((i : Int) < Z3 r) = true from by rw [decide_eq_true_eq]; omega, cond_true, Yu (x := d - 1) (by omega) (by omega)]) (fun l => by
    unfold Xl
    simp only
    rw [show decide ((((Z3 r).toNat : Nat) : Int) < Z3 r) = false from by rw [decide_eq_false_iff_not]; omega, cond_false]) hf hF (Z3 r).toNat 0 left [] (by omega) hl
  rw [show (((0 : Nat) : Int)) = 0 from rfl] at z1
  rw [z1, Option.bind_some]
  by_cases hq : (Ym f (Yh A r) (Z3 r).toNat 0 left []).2.2 = 0
  · rw [z2 hq]
    exact ⟨_, _, rfl, hq.symm, fun _ => rfl⟩
  obtain ⟨x, hx⟩ := z3 hq
  rw [hx]
  exact ⟨_, _, rfl, rfl, fun h => absurd h hq⟩
theorem Zsb {g : Int → Zd × Int} (n : Nat) (hg : ∀ i : Nat, i < n → (g i).2 = 0) : ∀ (m i : Nat) (left : Int) (acc : List Tr), i + m = n → (Ym (Zfh A) g m i left acc).2 = (left, 0)
  | 0, i, left, acc, _ => rfl
  | m + 1, i, left, acc, h => by
    rw [Ym, if_neg (by rw [hg i (by omega)]; simp), if_neg (by simp [Zfh])]
    exact Zsb n hg m (i + 1) left _ (by omega)
theorem Zxq {r : Zd} (hk : 2 ≤ r.kind ∧ r.kind ≤ 7) (i : Int) : (Yh A r i).2 = 0 := by
  unfold Yh
  split
  · rfl
  rw [if_neg (by omega), if_neg (by omega), if_neg (by omega)]
theorem Zf0 {r : Zd} (hk : r.kind = 9) {i : Int} (h : 0 ≤ i ∧ i < Z3 r) : (Yh A r i).1.kind = 1 := by
  unfold Yh
  rw [if_neg (by omega), if_neg (by omega), if_neg (by omega), if_pos hk]
theorem Zv8 (hw : WS A.segments) {f1 f2 f3 : Ze → Zd → Int → Option (Int × Ze)} {g1 g2 : Zd → Int → Tr × Int × Int} {r : Zd} (hr : OKr A r) {d left : Int} (hd : 0 ≤ d ∧ d ≤ 1000) (hl : 0 ≤ left ∧ left ≤ 65536)
    (hK : (r.kind = 1 ∨ r.kind = 8) → 1 ≤ d → ∀ l, 0 ≤ l ∧ l ≤ 65536 → ∃ e l', f2 ⟨l⟩ r (d - 1) = some (e, ⟨l'⟩) ∧ e = (Ym g1 (Yh A r) (Z3 r).toNat 0 l []).2.2 ∧ (e = 0 → l' = (Ym g1 (Yh A r) (Z3 r).toNat 0 l []).2.1))
    (hS : r.kind = 9 → 1 ≤ d → (0 < r.count → 2 ≤ d) → ∀ l, 0 ≤ l ∧ l ≤ 65536 → ∃ e l', f3 ⟨l⟩ r (d - 1) = some (e, ⟨l'⟩) ∧ e = (Ym (stK A g2) (Yh A r) (Z3 r).toNat 0 l []).2.2 ∧ (e = 0 → l' = (Ym (stK A g2) (Yh A r) (Z3 r).toNat 0 l []).2.1)) :
    ∃ e l', Xs f1 f2 f3 ⟨left⟩ r d = some (e, ⟨l'⟩) ∧ e = (Zdu A g1 g2 d r left).2.2 ∧ (e = 0 → l' = (Zdu A g1 g2 d r left).2.1) := by
  have hwt := Zv1 hw hr
  have hkd := Zzy hr
  have hkk : Yk r = some r.kind := rfl
  unfold Xs Zdu
  rw [Zwm, Zw3 hw hr, hkk]
  have hz : (cond (decide (d < lvR r)) (some true) ((some (wtR r)).bind fun y7 => some (cond (decide (d < lvR r)) true (decide (left < y7))))) = some (decide (d < lvR r ∨ left < wtR r)) := by
    by_cases h0 : d < lvR r
    · rw [decide_eq_true h0, cond_true, show decide (d < lvR r ∨ left < wtR r) = true from decide_eq_true (.inl h0)]
    rw [decide_eq_false h0, cond_false, Option.bind_some, cond_false]
    congr 1
    rw [decide_eq_decide]
    omega
  rw [Option.bind_some, hz, Option.bind_some]
  by_cases k0 : r.kind = 0
  · rw [if_pos k0]
    have e1 : lvR r = 0 := by unfold lvR; rw [if_pos k0]
    have e2 : wtR r = 0 := by unfold wtR; rw [if_pos k0]
    rw [e1, e2, show decide (d < 0 ∨ left < 0) = false from by rw [decide_eq_false_iff_not]; omega, cond_false, Option.bind_some, Option.bind_some, k0]
    refine ⟨0, left, ?_, rfl, fun _ => rfl⟩
    show some ((0 : Int), (⟨IntKind.i64.wrap (left - 0)⟩ : Ze)) = _
    rw [Yu (by omega) (by omega), Int.sub_zero]
  rw [if_neg k0]
  by_cases hb : d < lvR r ∨ left < wtR r
  · rw [if_pos hb, decide_eq_true hb, cond_true]
    exact ⟨_, _, rfl, rfl, fun h => by simp at h⟩
  rw [if_neg hb, decide_eq_false hb, cond_false, Option.bind_some, Option.bind_some, Yu (x := left - wtR r) (by omega) (by omega), Yu (x := d - 1) (by omega) (by omega)]
  have hlv : 1 ≤ d := by
    have : 1 ≤ lvR r := by unfold lvR; rw [if_neg k0]; split <;> omega
    omega
  have hl' : 0 ≤ left - wtR r ∧ left - wtR r ≤ 65536 := by omega
  by_cases k18 : r.kind = 1 ∨ r.kind = 8
  · have e1 : (cond (r.kind == 1) (some (r.kind == 1)) (some (r.kind == 8))) = some true := by
      rcases k18 with k | k <;> rw [k] <;> rfl
    have hkf : Gd A g1 g2 r = g1 := by unfold Gd; rw [if_neg (by omega), if_pos k18]
    rw [e1, Option.bind_some, cond_true, hkf]
    obtain ⟨e, l', q1, q2, q3⟩ := hK k18 hlv _ hl'
    rw [q1]
    exact ⟨e, l', rfl, q2, q3⟩
  have e1 : (cond (r.kind == 1) (some (r.kind == 1)) (some (r.kind == 8))) = some false := by
    rw [show (r.kind == 1) = false from Jj (by omega), show (r.kind == 8) = false from Jj (by omega)]; rfl
  rw [e1, Option.bind_some, cond_false]
  by_cases k9 : r.kind = 9
  · have hkf : Gd A g1 g2 r = stK A g2 := by unfold Gd; rw [if_pos k9]
    have hc : 0 < r.count → 2 ≤ d := fun hc => by
      have : lvR r = 2 := by unfold lvR; rw [if_neg k0, if_pos ⟨k9, hc⟩]
      omega
    rw [show (r.kind == 9) = true from by rw [k9]; rfl, cond_true, hkf]
    obtain ⟨e, l', q1, q2, q3⟩ := hS k9 hlv hc _ hl'
    rw [q1]
    exact ⟨e, l', rfl, q2, q3⟩
  have hkf : Gd A g1 g2 r = Zfh A := by unfold Gd; rw [if_neg k9, if_neg k18]
  rw [show (r.kind == 9) = false from Jj k9, cond_false, hkf]
  have hgo : (Ym (Zfh A) (Yh A r) (Z3 r).toNat 0 (left - wtR r) []).2 = (left - wtR r, 0) := by
    by_cases k10 : r.kind = 10
    · have : Z3 r = 0 := by
        cases hr with
        | at_ s a c i n hc h0 h1 hn hin => simp [Z3]
        | z => simp [r0] at k10
        | st => simp at k10
        | li k s a n hk => simp only at k10; omega
        | co => simp at k10
      rw [this]; rfl
    exact Zsb (Z3 r).toNat (fun i _ => Zxq (by omega) i) _ 0 _ _ (by omega)
  refine ⟨0, left - wtR r, rfl, ?_, fun _ => ?_⟩
  · simp only; rw [hgo]
  simp only; rw [hgo]
theorem Zxg (hw : WS A.segments) : ∀ (K : Nat), (∀ (d : Nat) r left, d ≤ 1000 → OKr A r → 0 ≤ left ∧ left ≤ 65536 → 2 * d + 1 ≤ K → CK A (Zq K).1 (Ko A d) d r left) ∧
    (∀ (d : Nat) r left, d ≤ 1000 → OKr A r → 0 ≤ left ∧ left ≤ 65536 → 2 * d + 2 ≤ K → ∃ e l', (Zq K).2.1 ⟨left⟩ r d = some (e, ⟨l'⟩) ∧ e = (Ym (Ko A d) (Yh A r) (Z3 r).toNat 0 left []).2.2 ∧ (e = 0 → l' = (Ym (Ko A d) (Yh A r) (Z3 r).toNat 0 left []).2.1)) ∧
    (∀ (d : Nat) r left, d ≤ 1000 → OKr A r → r.kind = 9 → 0 ≤ left ∧ left ≤ 65536 → (0 < r.count → 1 ≤ d) → 2 * d + 2 ≤ K → ∃ e l', (Zq K).2.2 ⟨left⟩ r d = some (e, ⟨l'⟩) ∧ e = (Ym (stK A (Qe A 1 d)) (Yh A r) (Z3 r).toNat 0 left []).2.2 ∧ (e = 0 → l' = (Ym (stK A (Qe A 1 d)) (Yh A r) (Z3 r).toNat 0 left []).2.1))
  | 0 => ⟨fun d r left _ _ _ h => by omega, fun d r left _ _ _ h => by omega, fun d r left _ _ _ _ _ h => by omega⟩
  | K + 1 => by
    obtain ⟨i1, i2, i3⟩ := Zxg hw K
    refine ⟨fun d r left hd hr hl hK => ?_, fun d r left hd hr hl hK => ?_, fun d r left hd hr k9 hl hc hK => ?_⟩
    · show ∃ e l', Xs (Zq K).1 (Zq K).2.1 (Zq K).2.2 ⟨left⟩ r d = some (e, ⟨l'⟩) ∧ _
      rw [Ziy]
      refine Zv8 hw hr (by omega) hl (fun k18 h1 l hl => ?_) (fun k9 h1 hc l hl => ?_)
      · have := i2 (d - 1) r l (by omega) hr hl (by omega)
        rw [show (((d - 1 : Nat) : Int)) = (d : Int) - 1 by omega] at this
        unfold Qe
        rw [if_pos (by omega)]
        exact this
      have := i3 (d - 1) r l (by omega) hr k9 hl (fun h => by have := hc h; omega) (by omega)
      rw [show (((d - 1 : Nat) : Int)) = (d : Int) - 1 by omega] at this
      have e : Qe A 1 (d - 1) = Qe A 2 d := by
        unfold Qe
        by_cases h2 : 2 ≤ d
        · rw [if_pos (by omega), if_pos h2, show d - 1 - 1 = d - 2 by omega]
        rw [if_neg (by omega), if_neg h2]
      rw [e] at this
      exact this
    · show ∃ e l', X1 (Zq K).1 (Zq K).2.1 (Zq K).2.2 ⟨left⟩ r d = some (e, ⟨l'⟩) ∧ _
      exact Zxe hw (Zcz hw d) hr hl fun i l hi _ hl => i1 d _ l hd (Qu hr i) hl (by omega)
    show ∃ e l', Xj (Zq K).1 (Zq K).2.1 (Zq K).2.2 ⟨left⟩ r d = some (e, ⟨l'⟩) ∧ _
    have hlf : Lf A (Qe A 1 d) := by
      unfold Qe
      split
      · exact Zcz hw _
      exact Zkf
    refine Zry hw (Zxw hlf) hr (by omega) hl fun i l hi _ hl => ?_
    have hkn : Z3 r = r.count := by unfold Z3; rw [if_neg (by omega)]
    have hd1 : 1 ≤ d := hc (by omega)
    have h := i2 (d - 1) (Yh A r i).1 l (by omega) (Qu hr i) hl (by omega)
    rw [show (((d - 1 : Nat) : Int)) = (d : Int) - 1 by omega] at h
    have hk1 := Zf0 (A := A) k9 (i := (i : Int)) (by omega)
    have hkk : Z3 (Yh A r i).1 = (Yh A r i).1.ptrs := by unfold Z3; rw [if_pos hk1]
    rw [hkk] at h
    have e : Qe A 1 d = Ko A (d - 1) := by unfold Qe; rw [if_pos hd1]
    rw [e]
    exact h
def LE3 {α β γ δ : Type} (f g : α → β → γ → Option δ) : Prop := ∀ x y z r, f x y z = some r → g x y z = some r
theorem Zrz : ∀ (k : Nat), LE3 (Zq k).1 (Zq (k + 1)).1 ∧ LE3 (Zq k).2.1 (Zq (k + 1)).2.1 ∧ LE3 (Zq k).2.2 (Zq (k + 1)).2.2
  | 0 => ⟨fun x y z r h => (by cases h), fun x y z r h => (by cases h), fun x y z r h => (by cases h)⟩
  | k + 1 => by
    obtain ⟨i1, i2, i3⟩ := Zrz k
    refine ⟨fun c r d v h => ?_, fun c r d v h => ?_, fun c r d v h => ?_⟩
    · refine Ub (fun _ q => q) (fun z => Zee _ (fun _ q => q) fun _ => Ub (fun _ q => q) fun w _ => Ub (fun _ q => q) fun u _ => Ub (fun _ q => q) fun b => Zee _ (fun _ => Ub (fun x q => i2 _ _ _ x q) fun _ _ q => q) (Zee _ (fun _ => Ub (fun x q => i3 _ _ _ x q) fun _ _ q => q) fun _ q => q)) h
    · refine Ub (fun _ q => q) (fun n _ => Ub (fun x => Zoi fun s y q => ?_) fun _ _ q => q) h
      exact Zee _ (fun _ => Ub (fun _ q => q) fun u => Zee _ (fun _ q => q) fun _ => Ub (fun x q => i1 _ _ _ x q) fun _ _ q => q) (fun _ q => q) y q
    refine Ub (fun _ q => q) (fun n _ => Ub (fun x => Zoi fun s y q => ?_) fun _ _ q => q) h
    exact Zee _ (fun _ => Ub (fun _ q => q) fun u => Zee _ (fun _ q => q) fun _ => Ub (fun x q => i2 _ _ _ x q) fun _ _ q => q) (fun _ q => q) y q
theorem Zv9 (hw : WS A.segments) {d : Nat} (hd : d ≤ 1000) {r : Zd} (hr : OKr A r) {left : Int} (hl : 0 ≤ left ∧ left ≤ 65536) : CK A Ua (Ko A d) d r left := by
  obtain ⟨e, l', h1, h2, h3⟩ := (Zxg hw (2 * d + 1)).1 d r left hd hr hl (Nat.le_refl _)
  exact ⟨e, l', Zxy (F := fun k => (Zq k).1 ⟨left⟩ r d) (fun k x => (Zrz k).1 _ _ _ x) h1, h2, h3⟩
def Zih (x m : Int) : Int := if m < (if x < 0 then 0 else x) then m else (if x < 0 then 0 else x)
def Q2 (x : Z0) : Z0 := ⟨Zih x.Depth 64, Zih x.Weight 65536, Zih x.MaxD 4096, Zih x.MaxOut 131072⟩
theorem Zwn (x : Z0) : Zac x = some (Q2 x) := rfl
theorem Zdl (x m : Int) (hm : 0 ≤ m) : 0 ≤ Zih x m ∧ Zih x m ≤ m := by unfold Zih; repeat' split; all_goals omega
def Zth (A : Zm) (x : Z0) : Int × Int :=
  if (atR A 0 0).2 ≠ 0 then (0, (atR A 0 0).2)
  else
    let q := Ko A (Q2 x).Depth.toNat (atR A 0 0).1 (Q2 x).Weight
    if q.2.2 ≠ 0 then (0, q.2.2) else ((Q2 x).Weight - q.2.1, 0)
theorem Zxf (hw : WS A.segments) (x : Z0) : U7 (some A) x = some (Zth A x) := by
  unfold U7 Zth
  rw [Zwn, Option.bind_some, Zqo hw, Option.bind_some]
  have hd : 0 ≤ (Q2 x).Depth ∧ (Q2 x).Depth ≤ 64 := Zdl _ _ (by decide)
  have hW : 0 ≤ (Q2 x).Weight ∧ (Q2 x).Weight ≤ 65536 := Zdl _ _ (by decide)
  by_cases h : (atR A 0 0).2 ≠ 0
  · rw [if_pos h, show ((atR A 0 0).2 != 0) = true from bne_iff_ne.2 h, cond_true]
  rw [if_neg h, show ((atR A 0 0).2 != 0) = false from bne_eq_false_iff_eq.2 (by omega), cond_false]
  obtain ⟨e, l', h1, h2, h3⟩ := Zv9 hw (d := (Q2 x).Depth.toNat) (by omega) (Zdc (A := A) 0 0) hW
  rw [show (((Q2 x).Depth.toNat : Nat) : Int) = (Q2 x).Depth by omega] at h1
  rw [h1, Option.bind_some]
  simp only
  rw [h2]
  by_cases hq : (Ko A (Q2 x).Depth.toNat (atR A 0 0).1 (Q2 x).Weight).2.2 ≠ 0
  · rw [if_pos hq, show ((Ko A (Q2 x).Depth.toNat (atR A 0 0).1 (Q2 x).Weight).2.2 != 0) = true from bne_iff_ne.2 hq, cond_true]
  have h0 : (Ko A (Q2 x).Depth.toNat (atR A 0 0).1 (Q2 x).Weight).2.2 = 0 := by omega
  have hb := Zcz hw _ _ _ (Zdc (A := A) 0 0) hW.1 h0
  rw [if_neg hq, show ((Ko A (Q2 x).Depth.toNat (atR A 0 0).1 (Q2 x).Weight).2.2 != 0) = false from bne_eq_false_iff_eq.2 h0, cond_false, h3 (by rw [h2, h0]), Yu (by omega) (by omega)]
end
theorem Zbr (x m : Int) (hm : 0 ≤ m) : Xd x m = some (Zih x m) := by
  unfold Xd Zih
  by_cases h : x < 0
  · rw [decide_eq_true h, if_pos h, if_neg (by omega)]; rfl
  rw [decide_eq_false h, if_neg h]
  by_cases h2 : m < x
  · rw [decide_eq_true h2, if_pos h2]; rfl
  rw [decide_eq_false h2, if_neg h2]; rfl
theorem Zt6 (x : Z0) : Jk x = some (Q2 x) := by
  unfold Jk
  rw [Zbr _ _ (by decide), Zbr _ _ (by decide), Zbr _ _ (by decide), Zbr _ _ (by decide)]
  rfl
theorem Zxx (x : Z0) : ∃ w, Jw x = some ⟨x.Depth, w, x.MaxD, x.MaxOut⟩ := by
  unfold Jw
  cases decide (3000 < x.Weight) with
  | true => exact ⟨3000, rfl⟩
  | false => exact ⟨x.Weight, rfl⟩
theorem Zwx {c : Int} (h : 0 ≤ c ∧ c ≤ 5) : Jx c = some (wdt c) := by
  unfold Jx
  rcases c5 h with rfl | rfl | rfl | rfl | rfl | rfl <;> rfl
theorem Zrx (q : Int) (n : Nat) (hn : Int.tmod q 64 = (n : Int)) (hn2 : n < 64) : ∀ (m t w : Nat), t + m = n → w < 18446744073709551616 → Ye (Qj q) ((w : Int), (t : Int)) = some ((w / 2 ^ m : Nat) : Int)
  | 0, t, w, h, hw => by
    refine Y0 ?_
    unfold Qj
    simp only
    rw [hn, show decide ((t : Int) < (n : Int)) = false from by rw [decide_eq_false_iff_not]; omega, cond_false, Nat.pow_zero, Nat.div_one]
  | m + 1, t, w, h, hw => by
    have hs : Qj q ((w : Int), (t : Int)) = some (.inl (((w / 2 : Nat) : Int), ((t + 1 : Nat) : Int))) := by
      unfold Qj
      simp only
      rw [hn, show decide ((t : Int) < (n : Int)) = true from by rw [decide_eq_true_eq]; omega, cond_true, Int.tdiv_eq_ediv_of_nonneg (by omega), show ((w : Int) / 2) = ((w / 2 : Nat) : Int) from rfl, Zyo _ (by omega), Yu (by omega) (by omega)]
      rfl
    rw [Qg hs, Zrx q n hn hn2 m (t + 1) (w / 2) (by omega) (by omega), Nat.div_div_eq_div_mul, Nat.pow_succ, Nat.mul_comm]
theorem Zz3 {l : List Int} (hl : ∀ w ∈ l, 0 ≤ w ∧ w < 18446744073709551616) {k : Nat} {w : Int} (hk : k < 1125899906842624) (hg : l[k / 64]? = some w) : Vf l (k : Int) = some ((w.toNat / 2 ^ (k % 64) % 2 : Nat) : Int) := by
  have hi : k / 64 < l.length := by
    rcases Nat.lt_or_ge (k / 64) l.length with h | h
    · exact h
    rw [List.getElem?_eq_none h] at hg; cases hg
  have hwr := hl w (List.mem_of_getElem? hg)
  unfold Vf
  have t1 : Int.tdiv (k : Int) 64 = ((k / 64 : Nat) : Int) := by rw [Int.tdiv_eq_ediv_of_nonneg (by omega)]; rfl
  have t2 : Int.tmod (k : Int) 64 = ((k % 64 : Nat) : Int) := by rw [Int.tmod_eq_emod_of_nonneg (by omega)]; rfl
  rw [t1, Yu (x := ((k / 64 : Nat) : Int)) (by omega) (by omega), show decide ((k : Int) < 0) = false from by rw [decide_eq_false_iff_not]; omega, cond_false, show decide ((l.length : Int) ≤ ((k / 64 : Nat) : Int)) = false from by rw [decide_eq_false_iff_not]; omega, cond_false, Gv hg, Option.bind_some]
  have hL := Zrx (k : Int) (k % 64) t2 (Nat.mod_lt _ (by decide)) (k % 64) 0 w.toNat (by omega) (by omega)
  rw [show ((w.toNat : Nat) : Int) = w by omega, show (((0 : Nat) : Int)) = 0 from rfl] at hL
  rw [hL, Option.bind_some, Int.tmod_eq_emod_of_nonneg (Int.natCast_nonneg _)]
  rfl
theorem Zr8 {l : List Int} (hl : ∀ w ∈ l, 0 ≤ w ∧ w < 18446744073709551616) {d q i : Nat} {w : Int} (hd : 1 ≤ d ∧ d ≤ 64) (hi : i * d + d < 1125899906842624) (hq : ∀ j, j < d → (i * d + j) / 64 = q ∧ (i * d + j) % 64 = (i * d) % 64 + j) (hg : l[q]? = some w) : ∀ (m : Nat) (acc : Int), m ≤ d → acc = ((w.toNat / 2 ^ ((i * d) % 64 + m) % 2 ^ (d - m) : Nat) : Int) →
    Ye (Qk l (i : Int) (d : Int)) (acc, (m : Int) - 1) = some ((w.toNat / 2 ^ ((i * d) % 64) % 2 ^ d : Nat) : Int)
  | 0, acc, hm, ha => by
    refine Y0 ?_
    unfold Qk
    simp only
    rw [show decide ((0 : Int) ≤ ((0 : Nat) : Int) - 1) = false from rfl, cond_false, ha]
    rfl
  | m + 1, acc, hm, ha => by
    obtain ⟨q1, q2⟩ := hq m (by omega)
    have hb := Zz3 hl (k := i * d + m) (w := w) (by omega) (by rw [q1]; exact hg)
    rw [q2] at hb
    have hlt : w.toNat / 2 ^ ((i * d) % 64 + (m + 1)) % 2 ^ (d - (m + 1)) < 2 ^ 63 := Nat.lt_of_lt_of_le (Nat.mod_lt _ (Nat.pow_pos (by decide))) (Nat.pow_le_pow_right (by decide) (by omega))
    have hbit : w.toNat / 2 ^ ((i * d) % 64 + m) % 2 < 2 := Nat.mod_lt _ (by decide)
    have hstep : Qk l (i : Int) (d : Int) (acc, ((m + 1 : Nat) : Int) - 1) = some (.inl (((w.toNat / 2 ^ ((i * d) % 64 + m) % 2 ^ (d - m) : Nat) : Int), (m : Int) - 1)) := by
      unfold Qk
      simp only
      have e1 : IntKind.i64.wrap (IntKind.i64.wrap ((i : Int) * (d : Int)) + (((m + 1 : Nat) : Int) - 1)) = ((i * d + m : Nat) : Int) := by
        have e0 : ((i : Int) * (d : Int)) = ((i * d : Nat) : Int) := by simp
        rw [e0, Yu (x := ((i * d : Nat) : Int)) (by omega) (by omega), Yu (by omega) (by omega)]
        omega
      rw [show decide ((0 : Int) ≤ ((m + 1 : Nat) : Int) - 1) = true from by rw [decide_eq_true_eq]; omega, cond_true, e1, hb, Option.bind_some, ha]
      have e2 : ((w.toNat / 2 ^ ((i * d) % 64 + (m + 1)) % 2 ^ (d - (m + 1)) : Nat) : Int) * 2 = ((w.toNat / 2 ^ ((i * d) % 64 + (m + 1)) % 2 ^ (d - (m + 1)) * 2 : Nat) : Int) := by simp
      rw [e2, Zyo _ (by omega), ← Int.natCast_add, Zyo _ (by omega), Yu (by omega) (by omega)]
      have e3 : w.toNat / 2 ^ ((i * d) % 64 + (m + 1)) % 2 ^ (d - (m + 1)) * 2 + w.toNat / 2 ^ ((i * d) % 64 + m) % 2 = w.toNat / 2 ^ ((i * d) % 64 + m) % 2 ^ (d - m) := by
        have h1 : w.toNat / 2 ^ ((i * d) % 64 + (m + 1)) = w.toNat / 2 ^ ((i * d) % 64 + m) / 2 := by
          rw [Nat.div_div_eq_div_mul, ← Nat.pow_succ]; rfl
        have h2 : d - m = (d - (m + 1)) + 1 := by omega
        rw [h1, h2]
        generalize w.toNat / 2 ^ ((i * d) % 64 + m) = x
        generalize d - (m + 1) = y
        rw [Nat.pow_succ, Nat.mul_comm (2 ^ y) 2, Nat.mod_mul]
        omega
      rw [e3]
      congr 3
      omega
    rw [Qg hstep]
    exact Zr8 hl hd hi hq hg m _ (by omega) rfl
theorem Zzf {l : List Int} (hl : ∀ w ∈ l, 0 ≤ w ∧ w < 18446744073709551616) {c i n : Int} (hc : 0 ≤ c ∧ c ≤ 5) (h0 : 0 ≤ i) (h1 : i < n) (hn : n < 536870912) (hi : (n * wdt c + 63) / 64 ≤ l.length) : Vg l c i = some (if c = 0 then 0 else Zso ((l[(i / each c).toNat]?).getD 0) c (i % each c)) := by
  unfold Vg
  rw [Zwx hc, Option.bind_some]
  by_cases hz : c = 0
  · subst hz
    rw [if_pos rfl]
    rfl
  rw [if_neg hz]
  obtain ⟨d, e, hd⟩ : ∃ d : Nat, wdt c = (d : Int) ∧ (d = 1 ∨ d = 8 ∨ d = 16 ∨ d = 32 ∨ d = 64) := by
    rcases c5 hc with rfl | rfl | rfl | rfl | rfl | rfl
    · omega
    · exact ⟨1, rfl, by omega⟩
    · exact ⟨8, rfl, by omega⟩
    · exact ⟨16, rfl, by omega⟩
    · exact ⟨32, rfl, by omega⟩
    exact ⟨64, rfl, by omega⟩
  obtain ⟨j, rfl⟩ : ∃ j : Nat, i = j := ⟨i.toNat, by omega⟩
  have he : each c = ((64 / d : Nat) : Int) := by unfold each; rw [e]; rfl
  rw [e] at hi ⊢
  rw [show decide ((d : Int) < 1) = false from by rw [decide_eq_false_iff_not]; omega, show decide ((j : Int) < 0) = false from by rw [decide_eq_false_iff_not]; omega, show decide (1099511627776 < (j : Int)) = false from by rw [decide_eq_false_iff_not]; omega]
  simp only [cond_false]
  rw [Yu (x := (d : Int) - 1) (by omega) (by omega)]
  have hqn : ((j : Int) / each c).toNat = j / (64 / d) := by rw [he]; rfl
  have hrn : ((j : Int) % each c) = ((j % (64 / d) : Nat) : Int) := by rw [he]; rfl
  rw [hqn, hrn]
  have hin : j / (64 / d) < l.length ∧ ∀ t, t < d → (j * d + t) / 64 = j / (64 / d) ∧ (j * d + t) % 64 = (j * d) % 64 + t := by
    rcases hd with rfl | rfl | rfl | rfl | rfl
    · exact ⟨by omega, fun t ht => by omega⟩
    · exact ⟨by omega, fun t ht => by omega⟩
    · exact ⟨by omega, fun t ht => by omega⟩
    · exact ⟨by omega, fun t ht => by omega⟩
    exact ⟨by omega, fun t ht => by omega⟩
  have hoff : (j * d) % 64 = (j % (64 / d)) * d := by
    rcases hd with rfl | rfl | rfl | rfl | rfl
    · omega
    · omega
    · omega
    · omega
    omega
  have hg : l[j / (64 / d)]? = some l[j / (64 / d)] := List.getElem?_eq_getElem hin.1
  have hjd : j * d ≤ 536870912 * 64 := Nat.mul_le_mul (by omega) (by omega)
  rw [Zr8 hl (d := d) (i := j) (by omega) (by omega) hin.2 hg d 0 (Nat.le_refl _) (by rw [Nat.sub_self, Nat.pow_zero, Nat.mod_one]; rfl), Option.bind_some, hg, Option.getD_some]
  unfold Zso
  rw [e, hoff]
  congr 4
section
variable {A : Zm}
def Jt (A : Zm) (r : Zd) : Zo :=
  if r.kind = 0 then ⟨0, 0, 0, 0, 0, 0, 0⟩
  else if r.kind = 1 then ⟨1, r.segment, r.at_, r.words, r.ptrs, 0, 0⟩
  else if r.kind = 9 then ⟨9, r.segment, r.at_ + 1, r.words, r.ptrs, r.count, 0⟩
  else if r.kind = 10 then ⟨10, 0, 0, 0, 0, 0, Zty A r⟩
  else ⟨r.kind, r.segment, r.at_, 0, 0, r.count, 0⟩
def Zoj (A : Zm) (x : Zd × Int) : Zo × Int := (Jt A x.1, x.2)
theorem Zbw {r : Zd} : (Jt A r).Kind = r.kind := by
  unfold Jt
  split
  · symm; assumption
  split
  · symm; assumption
  split
  · symm; assumption
  split
  · symm; assumption
  rfl
theorem Zy1 {w : Int} (h : 0 ≤ w) : (dc w).Kind = 0 ↔ w = 0 := by
  unfold dc Zti
  constructor
  · intro q
    split at q
    · omega
    split at q
    · simp at q
    split at q
    · simp at q
    split at q
    · simp at q
    simp at q
  intro q
  rw [if_pos (by omega)]
theorem Zt3 (hw : WS A.segments) (s a : Int) : Jh A.segments s a = some (Zoj A (atR A s a)) := by
  have hk0 := Zdn A.segments s a
  have hR : Ql A.segments s a = some (⟨(fol A.segments s a).1.P, (fol A.segments s a).1.Segment, (fol A.segments s a).1.At⟩, (fol A.segments s a).2) := Zt5 hw s a
  unfold Jh atR
  rw [hR, Option.bind_some]
  clear hR
  revert hk0
  generalize fol A.segments s a = y
  intro hk0
  obtain ⟨x, e⟩ := y
  dsimp only at hk0 ⊢
  rcases hk0 with h | ⟨h1, hp, hk, hi⟩
  · rw [if_pos h]
    have : cond (e != 0) true (x.P.Kind == 0) = true := by
      rcases h with h | h
      · rw [bne_iff_ne.2 h]; rfl
      rw [show (x.P.Kind == 0) = true from by rw [h]; rfl]
      cases (e != 0) <;> rfl
    rw [this, cond_true]; rfl
  rw [if_neg (by omega), h1, show ((0 : Int) != 0) = false from rfl, cond_false]
  rw [show (x.P.Kind == 0) = false from Jj (by omega), cond_false]
  by_cases k1 : x.P.Kind = 1
  · rw [if_pos k1, show (x.P.Kind == 1) = true from by rw [k1]; rfl, cond_true]
    rfl
  rw [if_neg k1, show (x.P.Kind == 1) = false from Jj k1, cond_false]
  have hc := hp.c
  by_cases c7' : x.P.Code = 7
  · rw [if_pos c7', show decide (x.P.Code < 7) = false from by rw [decide_eq_false_iff_not]; omega, cond_false]
    have hpw : pw x.P = x.P.Count + 1 := by unfold pw; rw [if_neg k1, if_pos c7']
    rw [hpw] at hi
    have hn := hp.n
    have hi' := inB_iff.1 hi
    have hi1 : inB A.segments x.Segment x.At 1 = true := inB_iff.2 ⟨hi'.1, hi'.2.1, hi'.2.2.1, by omega, by omega⟩
    have hwr := Zfp hw x.Segment x.At
    have hrr := Ziq hw hi
    rw [(Zak hi'.1 hi'.2.1).1, Option.bind_some, (Zkr hi1).1, Option.bind_some, Zoc hwr, Option.bind_some]
    have ht := Zua (wd A.segments x.Segment x.At)
    have ho := (Zft (wd A.segments x.Segment x.At)).o
    have hdz := Zy1 hwr.1
    generalize dc (wd A.segments x.Segment x.At) = t at *
    have hm := Zx3 (n := t.Off) (x := t.Data + t.Ptrs) ho (by omega)
    rw [Yu (x := t.Data + t.Ptrs) (by omega) (by omega), Yu (x := t.Off * (t.Data + t.Ptrs)) (by omega) (by omega), Yu (x := x.At + 1) (by omega) (by omega)]
    by_cases hq : (t.Kind ≠ 0 ∧ t.Kind ≠ 1) ∨ t.Off < 0 ∨ x.P.Count < t.Off * (t.Data + t.Ptrs)
    · rw [if_pos hq]
      have : cond (cond (cond (wd A.segments x.Segment x.At != 0) (t.Kind != 1) false) true (decide (t.Off < 0))) true (decide (x.P.Count < t.Off * (t.Data + t.Ptrs))) = true := by
        rcases hq with ⟨q1, q2⟩ | q | q
        · rw [bne_iff_ne.2 (fun z => q1 (hdz.2 z)), bne_iff_ne.2 q2]; rfl
        · rw [decide_eq_true q]; cases (cond (wd A.segments x.Segment x.At != 0) (t.Kind != 1) false) <;> rfl
        rw [decide_eq_true q]; cases (cond (cond (wd A.segments x.Segment x.At != 0) (t.Kind != 1) false) true (decide (t.Off < 0))) <;> rfl
      rw [this, cond_true]; rfl
    rw [if_neg hq]
    have e1 : cond (wd A.segments x.Segment x.At != 0) (t.Kind != 1) false = false := by
      by_cases q0 : wd A.segments x.Segment x.At = 0
      · rw [show (wd A.segments x.Segment x.At != 0) = false from bne_eq_false_iff_eq.2 q0]; rfl
      have q1 : t.Kind = 1 := by
        have : t.Kind ≠ 0 := fun z => q0 (hdz.1 z)
        omega
      rw [show (t.Kind != 1) = false from by rw [q1]; rfl]
      cases (wd A.segments x.Segment x.At != 0) <;> rfl
    rw [e1, cond_false, show decide (t.Off < 0) = false from by rw [decide_eq_false_iff_not]; omega, cond_false, show decide (x.P.Count < t.Off * (t.Data + t.Ptrs)) = false from by rw [decide_eq_false_iff_not]; omega]
    rfl
  rw [if_neg c7', show decide (x.P.Code < 7) = true from by rw [decide_eq_true_eq]; omega, cond_true, Yu (x := 2 + x.P.Code) (by omega) (by omega)]
  unfold Zoj Jt
  simp only
  rw [if_neg (by omega), if_neg (by omega), if_neg (by omega), if_neg (by omega), show 2 + x.P.Code = x.P.Code + 2 by omega]
theorem Zg2 {r : Zd} (h : OKr A r) : Xf (Jt A r) = some (Z3 r) := by
  unfold Xf
  rw [Zbw]
  unfold Z3 Jt
  by_cases h1 : r.kind = 1
  · rw [if_pos h1, show (r.kind == 1) = true from by rw [h1]; rfl, cond_true, if_neg (by omega), if_pos h1]
  rw [if_neg h1, show (r.kind == 1) = false from Jj h1, cond_false]
  by_cases h0 : r.kind = 0
  · rw [if_pos h0]
    cases h with
    | z => rfl
    | st => simp at h0
    | li k s a n hk => simp only at h0; omega
    | co => simp at h0
    | at_ => simp at h0
  rw [if_neg h0, if_neg h1]
  by_cases h9 : r.kind = 9
  · rw [if_pos h9]
  rw [if_neg h9]
  by_cases h10 : r.kind = 10
  · rw [if_pos h10]
    cases h with
    | z => rfl
    | st => rfl
    | li k s a n hk => simp only at h10; omega
    | co => simp at h10
    | at_ => rfl
  rw [if_neg h10]
theorem Zh0 (hw : WS A.segments) {r : Zd} (h : OKr A r) : Xa (Jt A r) A.segments = some (Xy A r) := by
  unfold Xa
  rw [Zbw]
  unfold Xy Jt
  cases h with
  | z => rfl
  | li k s a n hk hn hin =>
    simp only
    rw [show (k == 10) = false from Jj (by omega), cond_false, show (k != 1) = true from bne_iff_ne.2 (by omega), cond_true, if_neg (by omega), if_neg (by omega)]
  | co s a d p n hd hp hn hwx hin => rfl
  | at_ s a c i n hc h0 h1 hn hin => rfl
  | st s a d p hd hp hin =>
    have hi' := inB_iff.1 hin
    have hl := Ze6 hw s
    simp only [show ((1 : Int) == 10) = false from rfl, show ((1 : Int) != 1) = false from rfl, cond_false, show ¬ (1 : Int) = 0 from by decide, show ¬ (1 : Int) = 10 from by decide, if_false, if_true]
    rw [(Zak hi'.1 hi'.2.1).1, Option.bind_some, Yu (x := a + d) (by omega) (by omega), Zmg (by omega) (by omega) (by omega), Option.bind_some, show a + d - a = d by omega, Zgm (by simp only [List.length_nil, List.length_take, List.length_drop]; omega) (by simp only [List.length_nil, List.length_take, List.length_drop]; omega), List.nil_append]
    rfl
theorem Zyi (hw : WS A.segments) (s : Int) : ∀ w ∈ seg A.segments s, 0 ≤ w ∧ w < 18446744073709551616 := by
  unfold seg
  cases h : A.segments[s.toNat]? with
  | none => simp
  | some x => exact hw.w x (List.mem_of_getElem? h)
theorem Zsy (hw : WS A.segments) {r : Zd} (h : OKr A r) (i : Int) : X5 (Jt A r) A.segments i = some (Zoj A (Yh A r i)) := by
  unfold X5 Yh
  rw [Zg2 h, Zbw]
  have hz : (cond (decide (i < 0)) (some true) ((some (Z3 r)).bind fun y4 => some (cond (decide (i < 0)) true (decide (y4 ≤ i))))) = some (decide (i < 0 ∨ Z3 r ≤ i)) := by
    by_cases h0 : i < 0
    · rw [decide_eq_true h0, cond_true, show decide (i < 0 ∨ Z3 r ≤ i) = true from decide_eq_true (.inl h0)]
    rw [decide_eq_false h0, cond_false, Option.bind_some, cond_false]
    congr 1
    rw [decide_eq_decide]
    omega
  rw [hz, Option.bind_some]
  by_cases hi : i < 0 ∨ Z3 r ≤ i
  · rw [if_pos hi, decide_eq_true hi]; rfl
  rw [if_neg hi, decide_eq_false hi, cond_false]
  cases h with
  | z => exact absurd hi (by first | (simp [Z3, r0]; done) | (simp [Z3, r0]; omega))
  | at_ => exact absurd hi (by first | (simp [Z3]; done) | (simp [Z3]; omega))
  | st s a d p hd hp hin =>
    have := Ziq hw hin
    simp only [Z3, if_true] at hi
    have e : Jt A (⟨some A, 1, s, a, d, p, 0, 0, 0⟩ : Zd) = ⟨1, s, a, d, p, 0, 0⟩ := rfl
    simp only [e, beq_self_eq_true, cond_true, if_true]
    rw [Yu (x := a + d) (by omega) (by omega), Yu (by omega) (by omega), Zt3 hw]
    rfl
  | co s a d p n hd hp hn hwx hin =>
    have := Ziq hw hin
    simp only [Z3] at hi
    rw [if_neg (by omega)] at hi
    have e : Jt A (⟨some A, 9, s, a, d, p, n, 0, 0⟩ : Zd) = ⟨9, s, a + 1, d, p, n, 0⟩ := rfl
    simp only [e, show ((9 : Int) == 1) = false from rfl, show ((9 : Int) == 8) = false from rfl, show ((9 : Int) == 9) = true from rfl, cond_true, cond_false, show ¬ (9 : Int) = 1 from by decide, show ¬ (9 : Int) = 8 from by decide, if_false, if_true]
    have h1 : 0 ≤ i * (d + p) := Int.mul_nonneg (by omega) (by omega)
    have h2 : (i + 1) * (d + p) ≤ n * (d + p) := Int.mul_le_mul_of_nonneg_right (by omega) (by omega)
    rw [Int.add_mul, Int.one_mul] at h2
    rw [Yu (x := d + p) (by omega) (by omega), Yu (x := i * (d + p)) (by omega) (by omega), Yu (by omega) (by omega)]
    rfl
  | li k s a n hk hn hin =>
    have hr := Ziq hw hin
    have hi' := inB_iff.1 hin
    simp only [Z3] at hi
    rw [if_neg (by omega)] at hi
    have e : Jt A (⟨some A, k, s, a, 0, 0, n, 0, 0⟩ : Zd) = ⟨k, s, a, 0, 0, n, 0⟩ := by
      unfold Jt
      simp only
      rw [if_neg (by omega), if_neg (by omega), if_neg (by omega), if_neg (by omega)]
    simp only [e]
    rw [show (k == 1) = false from Jj (by omega), cond_false, if_neg (by omega), show (k == 9) = false from Jj (by omega)]
    by_cases k8 : k = 8
    · have hp : (n * wdt (k - 2) + 63) / 64 = n := by rw [k8]; simp [wdt]; omega
      rw [show (k == 8) = true from by rw [k8]; rfl, cond_true, if_pos k8, Yu (by omega) (by omega), Zt3 hw]
      rfl
    rw [show (k == 8) = false from Jj k8, cond_false, cond_false, if_neg k8, if_neg (by omega), Yu (by omega) (by omega), (Zak hi'.1 hi'.2.1).1, Option.bind_some, Zmg (by omega) (by omega) (by omega), Option.bind_some]
    have hlen : ((seg A.segments s).drop a.toNat).length = (seg A.segments s).length - a.toNat := List.length_drop
    have htk : ((seg A.segments s).drop a.toNat).take (((seg A.segments s).length : Int) - a).toNat = (seg A.segments s).drop a.toNat := List.take_of_length_le (by rw [hlen]; omega)
    rw [htk, Zzf (fun w hm => Zyi hw s w (List.mem_of_mem_drop hm)) (c := k - 2) (n := n) (by omega) (by omega) (by omega) (by omega) (by rw [hlen]; omega), Option.bind_some]
    unfold Zoj Jt Zty
    simp only [show ¬ (10 : Int) = 0 from by decide, show ¬ (10 : Int) = 1 from by decide, show ¬ (10 : Int) = 9 from by decide, if_false, if_true]
    congr 3
    by_cases hz : k - 2 = 0
    · rw [if_pos hz, if_pos hz]
    rw [if_neg hz, if_neg hz]
    obtain ⟨a1, a2, a3, a4, a5, a6, a7, a8⟩ := Zug (c := k - 2) (i := i) (n := n) (by omega) (by omega) (by omega) (by omega)
    unfold wd
    rw [List.getElem?_drop, show (a + i / each (k - 2)).toNat = a.toNat + (i / each (k - 2)).toNat by omega]
end
theorem Z0q (t : Tr) : (⟨t.Kind, t.Words, t.Kids⟩ : Tr) = t := by cases t; rfl
section
variable {A : Zm}
theorem Zkh {step : Int × Int × List Tr → Option ((Int × Int × List Tr) ⊕ ((Int × Int × List Tr) ⊕ (Int × List Tr)))} {f : Zd → Int → Tr × Int × Int} {r : Zd} (hr : OKr A r) (n : Nat) (hn : n ≤ 1073741824)
    (hs : ∀ (i : Nat) (left : Int) (acc : List Tr), i < n → acc.length = i → 0 ≤ left ∧ left ≤ 65536 → step (left, (i : Int), acc) = some (if (Yh A r i).2 ≠ 0 then .inr (.inl (left, (Yh A r i).2, acc)) else if (f (Yh A r i).1 left).2.2 ≠ 0 then .inr (.inl ((f (Yh A r i).1 left).2.1, (f (Yh A r i).1 left).2.2, acc)) else .inl ((f (Yh A r i).1 left).2.1, ((i + 1 : Nat) : Int), acc ++ [(f (Yh A r i).1 left).1])))
    (he : ∀ left acc, step (left, (n : Int), acc) = some (.inr (.inr (left, acc))))
    (hf : Lf A f) : ∀ (m i : Nat) (left : Int) (acc : List Tr), i + m = n → acc.length = i → 0 ≤ left ∧ left ≤ 65536 →
    Ye step (left, (i : Int), acc) = some (if (Ym f (Yh A r) m i left acc).2.2 = 0 then .inr ((Ym f (Yh A r) m i left acc).2.1, (Ym f (Yh A r) m i left acc).1) else .inl ((Ym f (Yh A r) m i left acc).2.1, (Ym f (Yh A r) m i left acc).2.2, (Ym f (Yh A r) m i left acc).1))
  | 0, i, left, acc, hi, ha, hl => by
    have : i = n := by omega
    subst this
    exact Y0 (he left acc)
  | m + 1, i, left, acc, hi, ha, hl => by
    have hst := hs i left acc (by omega) ha hl
    rw [Ym]
    by_cases h1 : (Yh A r i).2 ≠ 0
    · rw [if_pos h1] at hst ⊢
      rw [if_neg h1]
      exact Y0 hst
    rw [if_neg h1] at hst ⊢
    by_cases h2 : (f (Yh A r i).1 left).2.2 ≠ 0
    · rw [if_pos h2] at hst ⊢
      rw [if_neg h2]
      exact Y0 hst
    rw [if_neg h2] at hst ⊢
    have hb := hf _ left (Qu hr i) hl.1 (by omega)
    rw [Qg hst]
    exact Zkh hr n hn hs he hf m (i + 1) _ _ (by omega) (by rw [List.length_append, ha]; rfl) ⟨hb.1, by omega⟩
abbrev MF := List (List Int) → Zo → Int → Int → Option (Tr × Int × Int)
theorem Zt2 (hw : WS A.segments) {f1 f2 : MF} {f : Zd → Int → Tr × Int × Int} (hf : Lf A f) {r : Zd} (hr : OKr A r) (h1 : r.kind = 1) {d left : Int} (hl : 0 ≤ left ∧ left ≤ 65536)
    (hF : ∀ (k : Zd) (l : Int), OKr A k → 0 ≤ l ∧ l ≤ 65536 → f1 A.segments (Jt A k) d l = some (f k l)) : Q4 f1 f2 A.segments (Jt A r) d left = some (stK A f r left) := by
  have hp : (Jt A r).Ptrs = r.ptrs := by unfold Jt; rw [if_neg (by omega), if_pos h1]
  have hpr : 0 ≤ r.ptrs ∧ r.ptrs < 65536 := by
    cases hr with
    | z => simp [r0] at h1
    | st s a d p hd hp2 hin => exact hp2
    | li k s a n hk => simp only at h1; omega
    | co => simp at h1
    | at_ => simp at h1
  unfold Q4 stK
  rw [Zh0 hw hr, Option.bind_some]
  have hL := Zkh (step := Q0 f1 A.segments (Jt A r) d) (f := f) hr r.ptrs.toNat (by omega) (fun i l acc hi ha hl => by
    unfold Q0
    simp only
    rw [hp, show decide ((i : Int) < r.ptrs) = true from by rw [decide_eq_true_eq]; omega, cond_true, Zsy hw hr, Option.bind_some]
    simp only [Zoj]
    by_cases h1 : (Yh A r i).2 ≠ 0
    · rw [if_pos h1, bne_iff_ne.2 h1, cond_true]
    rw [if_neg h1, bne_eq_false_iff_eq.2 (show (Yh A r i).2 = 0 by omega), cond_false, hF _ l (Qu hr i) hl, Option.bind_some]
    by_cases h2 : (f (Yh A r i).1 l).2.2 ≠ 0
    · rw [if_pos h2, bne_iff_ne.2 h2, cond_true]
    rw [if_neg h2, bne_eq_false_iff_eq.2 (show (f (Yh A r i).1 l).2.2 = 0 by omega), cond_false, Zgm (by simp only [List.length_singleton]; omega) (by simp only [List.length_singleton]; omega), Option.bind_some, Yu (by omega) (by omega)]
    rfl) (fun l acc => by
    unfold Q0
    simp only
    rw [hp, show decide (((r.ptrs.toNat : Nat) : Int) < r.ptrs) = false from by rw [decide_eq_false_iff_not]; omega, cond_false]) hf r.ptrs.toNat 0 left [] (by omega) rfl hl
  rw [show (((0 : Nat) : Int)) = 0 from rfl] at hL
  rw [hL, Option.bind_some]
  by_cases hq : (Ym f (Yh A r) r.ptrs.toNat 0 left []).2.2 = 0
  · rw [if_pos hq]
    simp only
    rw [show (Ym f (Yh A r) r.ptrs.toNat 0 left []).2 = ((Ym f (Yh A r) r.ptrs.toNat 0 left []).2.1, 0) from by rw [← hq]]
  rw [if_neg hq]
theorem Zub {r : Zd} (hr : OKr A r) : (r.kind = 1 → (Jt A r).Data = r.words ∧ (Jt A r).Ptrs = r.ptrs) ∧ (r.kind = 9 → (Jt A r).Data = r.words ∧ (Jt A r).Ptrs = r.ptrs ∧ (Jt A r).Count = r.count) := by
  refine ⟨fun h => ?_, fun h => ?_⟩
  · unfold Jt
    rw [if_neg (by omega), if_pos h]
    exact ⟨rfl, rfl⟩
  unfold Jt
  rw [if_neg (by omega), if_neg (by omega), if_pos h]
  exact ⟨rfl, rfl, rfl⟩
theorem Zyc (hw : WS A.segments) {f1 f2 : MF} {g1 g2 : Zd → Int → Tr × Int × Int} (l1 : Lf A g1) (l2 : Lf A g2) {r : Zd} (hr : OKr A r) {d left : Int} (hd : 0 ≤ d ∧ d ≤ 1000) (hl : 0 ≤ left ∧ left ≤ 65536)
    (h1 : 1 ≤ d → ∀ (k : Zd) (l : Int), OKr A k → 0 ≤ l ∧ l ≤ 65536 → f1 A.segments (Jt A k) (d - 1) l = some (g1 k l))
    (h2 : 2 ≤ d → ∀ (k : Zd) (l : Int), OKr A k → k.kind = 1 → 0 ≤ l ∧ l ≤ 65536 → f2 A.segments (Jt A k) (d - 2) l = some (stK A g2 k l)) : Xz f1 f2 A.segments (Jt A r) d left = some (Zdu A g1 g2 d r left) := by
  have hwt := Zv1 hw hr
  have hkn := Zds hr
  obtain ⟨fr1, fr9⟩ := Zub hr
  unfold Xz Zdu
  rw [Zh0 hw hr, Option.bind_some, Zbw, Zg2 hr]
  by_cases k0 : r.kind = 0
  · rw [if_pos k0, show (r.kind == 0) = true from by rw [k0]; rfl, cond_true]
  rw [if_neg k0, show (r.kind == 0) = false from Jj k0, cond_false]
  have hlv : (cond (decide (d < 1)) true (cond (cond (r.kind == 9) (decide (0 < (Jt A r).Count)) false) (decide (d < 2)) false)) = decide (d < lvR r) := by
    unfold lvR
    rw [if_neg k0]
    by_cases k9 : r.kind = 9
    · rw [show (r.kind == 9) = true from by rw [k9]; rfl, (fr9 k9).2.2, cond_true]
      by_cases hc : 0 < r.count
      · rw [if_pos ⟨k9, hc⟩, decide_eq_true hc, cond_true]
        by_cases hd1 : d < 1
        · rw [decide_eq_true hd1, cond_true, decide_eq_true (show d < 2 by omega)]
        rw [decide_eq_false hd1, cond_false]
      rw [if_neg (fun q => hc q.2), decide_eq_false hc, cond_false]
      cases decide (d < 1) <;> rfl
    rw [show (r.kind == 9) = false from Jj k9, cond_false, cond_false, if_neg (fun q => k9 q.1)]
    cases decide (d < 1) <;> rfl
  rw [hlv]
  have hwx : ((cond (r.kind == 1) (some (IntKind.i64.wrap ((IntKind.i64.wrap (1 + (Jt A r).Data)) + (Jt A r).Ptrs))) (some (IntKind.i64.wrap (1 + Z3 r)))).bind fun (z5 : Int) => (cond (r.kind == 9) (some (IntKind.i64.wrap (1 + (IntKind.i64.wrap ((Jt A r).Count * (IntKind.i64.wrap ((IntKind.i64.wrap (1 + (Jt A r).Data)) + (Jt A r).Ptrs))))))) (some z5))) = some (wtR r) := by
    unfold wtR
    rw [if_neg k0]
    by_cases k1 : r.kind = 1
    · rw [if_pos k1, show (r.kind == 1) = true from by rw [k1]; rfl, cond_true, Option.bind_some, show (r.kind == 9) = false from Jj (by omega), cond_false, (fr1 k1).1, (fr1 k1).2]
      cases hr with
      | z => simp [r0] at k1
      | st s a d p hd hp hin => simp only; rw [Yu (x := 1 + d) (by omega) (by omega), Yu (by omega) (by omega)]
      | li k s a n hk => simp only at k1; omega
      | co => simp at k1
      | at_ => simp at k1
    rw [if_neg k1, show (r.kind == 1) = false from Jj k1, cond_false, Option.bind_some]
    by_cases k9 : r.kind = 9
    · rw [if_pos k9, show (r.kind == 9) = true from by rw [k9]; rfl, cond_true, (fr9 k9).1, (fr9 k9).2.1, (fr9 k9).2.2]
      cases hr with
      | z => simp [r0] at k9
      | st => simp at k9
      | li k s a n hk => simp only at k9; omega
      | at_ => simp at k9
      | co s a d p n hd hp hn hwx hin =>
        have : n * (1 + d + p) = n + n * (d + p) := by rw [Int.add_assoc, Int.mul_add, Int.mul_one]
        simp only
        rw [Yu (x := 1 + d) (by omega) (by omega), Yu (x := 1 + d + p) (by omega) (by omega), Yu (x := n * (1 + d + p)) (by omega) (by omega), Yu (by omega) (by omega)]
    have hkc : Z3 r = r.count := by unfold Z3; rw [if_neg k1]
    rw [if_neg k9, show (r.kind == 9) = false from Jj k9, cond_false, Yu (by omega) (by omega), hkc]
  by_cases hb1 : d < lvR r
  · rw [decide_eq_true hb1, cond_true, if_pos (.inl hb1)]
  rw [decide_eq_false hb1, cond_false, Option.bind_some]
  have hstep2 : ∀ {K : Int → Option (Tr × Int × Int)}, ((cond (r.kind == 1) (some (IntKind.i64.wrap ((IntKind.i64.wrap (1 + (Jt A r).Data)) + (Jt A r).Ptrs))) (some (IntKind.i64.wrap (1 + Z3 r)))).bind fun (z5 : Int) => (cond (r.kind == 9) (some (IntKind.i64.wrap (1 + (IntKind.i64.wrap ((Jt A r).Count * (IntKind.i64.wrap ((IntKind.i64.wrap (1 + (Jt A r).Data)) + (Jt A r).Ptrs))))))) (some z5)).bind K) = K (wtR r) := fun {K} => by
    rw [← Option.bind_assoc, hwx, Option.bind_some]
  rw [hstep2]
  by_cases hb2 : left < wtR r
  · rw [decide_eq_true hb2, cond_true, if_pos (.inr hb2)]
  rw [decide_eq_false hb2, cond_false, if_neg (by omega), Yu (x := left - wtR r) (by omega) (by omega)]
  have hlvd : 1 ≤ d := by
    have : 1 ≤ lvR r := by unfold lvR; rw [if_neg k0]; split <;> omega
    omega
  have hN : Z3 r = (((Z3 r).toNat : Nat) : Int) := by omega
  -- one kid
  have hkf : ∀ (i : Nat) (l : Int), i < (Z3 r).toNat → (Yh A r i).2 = 0 → 0 ≤ l ∧ l ≤ 65536 → (cond (r.kind == 9) ((f2 A.segments (Jt A (Yh A r i).1) (IntKind.i64.wrap (d - 2)) l).bind fun y16 => some (y16.2.1, y16.2.2, y16.1.Kind, y16.1.Words, y16.1.Kids)) (cond (cond (r.kind == 1) true (r.kind == 8)) ((f1 A.segments (Jt A (Yh A r i).1) (IntKind.i64.wrap (d - 1)) l).bind fun y17 => some (y17.2.1, y17.2.2, y17.1.Kind, y17.1.Words, y17.1.Kids)) (some (l, (Yh A r i).2, (Yh A r i).1.kind, Xy A (Yh A r i).1, ([] : List Tr))))) = some ((Gd A g1 g2 r (Yh A r i).1 l).2.1, (Gd A g1 g2 r (Yh A r i).1 l).2.2, (Gd A g1 g2 r (Yh A r i).1 l).1.Kind, (Gd A g1 g2 r (Yh A r i).1 l).1.Words, (Gd A g1 g2 r (Yh A r i).1 l).1.Kids) := fun i l hi he hl => by
    rw [Yu (x := d - 2) (by omega) (by omega), Yu (x := d - 1) (by omega) (by omega)]
    unfold Gd
    by_cases k9 : r.kind = 9
    · have hkc : Z3 r = r.count := by unfold Z3; rw [if_neg (by omega)]
      have hd2 : 2 ≤ d := by
        have : lvR r = 2 := by unfold lvR; rw [if_neg k0, if_pos ⟨k9, by omega⟩]
        omega
      rw [if_pos k9, show (r.kind == 9) = true from by rw [k9]; rfl, cond_true, h2 hd2 _ l (Qu hr i) (Zf0 k9 ⟨by omega, by omega⟩) hl, Option.bind_some]
    rw [if_neg k9, show (r.kind == 9) = false from Jj k9, cond_false]
    by_cases k18 : r.kind = 1 ∨ r.kind = 8
    · have e1 : cond (r.kind == 1) true (r.kind == 8) = true := by rcases k18 with k | k <;> rw [k] <;> rfl
      rw [if_pos k18, e1, cond_true, h1 hlvd _ l (Qu hr i) hl, Option.bind_some]
    rw [if_neg k18, show (r.kind == 1) = false from Jj (by omega), show (r.kind == 8) = false from Jj (by omega), cond_false, cond_false, he]
    rfl
  have hL := Zkh (step := X0 f1 f2 A.segments (Jt A r) d) (f := Gd A g1 g2 r) hr (Z3 r).toNat (by omega) (fun i l acc hi ha hl => by
    unfold X0
    simp only
    rw [Zg2 hr, Option.bind_some, show decide ((i : Int) < Z3 r) = true from by rw [decide_eq_true_eq]; omega, cond_true, Zsy hw hr, Option.bind_some]
    simp only [Zoj]
    by_cases q1 : (Yh A r i).2 ≠ 0
    · rw [if_pos q1, bne_iff_ne.2 q1, cond_true]
    rw [if_neg q1, bne_eq_false_iff_eq.2 (show (Yh A r i).2 = 0 by omega), cond_false, Zh0 hw (Qu hr i), Option.bind_some, Zbw, Zbw, hkf i l hi (by omega) hl, Option.bind_some]
    simp only [Z0q]
    by_cases q2 : (Gd A g1 g2 r (Yh A r i).1 l).2.2 ≠ 0
    · rw [if_pos q2, bne_iff_ne.2 q2, cond_true]
    rw [if_neg q2, bne_eq_false_iff_eq.2 (show (Gd A g1 g2 r (Yh A r i).1 l).2.2 = 0 by omega), cond_false, Zgm (by simp only [List.length_singleton]; omega) (by simp only [List.length_singleton]; omega), Option.bind_some, Yu (by omega) (by omega)]
    rfl) (fun l acc => by
    unfold X0
    simp only
    rw [Zg2 hr, Option.bind_some, show decide ((((Z3 r).toNat : Nat) : Int) < Z3 r) = false from by rw [decide_eq_false_iff_not]; omega, cond_false]) (Zp3 l1 l2 r) (Z3 r).toNat 0 (left - wtR r) [] (by omega) rfl (by omega)
  rw [show (((0 : Nat) : Int)) = 0 from rfl] at hL
  rw [hL, Option.bind_some]
  simp only
  by_cases hq : (Ym (Gd A g1 g2 r) (Yh A r) (Z3 r).toNat 0 (left - wtR r) []).2.2 = 0
  · rw [if_pos hq]
    simp only
    rw [show (Ym (Gd A g1 g2 r) (Yh A r) (Z3 r).toNat 0 (left - wtR r) []).2 = ((Ym (Gd A g1 g2 r) (Yh A r) (Z3 r).toNat 0 (left - wtR r) []).2.1, 0) from by rw [← hq]]
  rw [if_neg hq]
theorem Zir (hw : WS A.segments) (k d : Nat) : Lf A (Qe A k d) := by
  unfold Qe
  split
  · exact Zcz hw _
  exact Zkf
theorem Zsz (hw : WS A.segments) : ∀ (K : Nat), (∀ (d : Nat) r left, d ≤ 1000 → OKr A r → 0 ≤ left ∧ left ≤ 65536 → 2 * d + 1 ≤ K → (Yi K).1 A.segments (Jt A r) d left = some (Ko A d r left)) ∧
    (∀ (d : Nat) r left, d ≤ 1000 → OKr A r → r.kind = 1 → 0 ≤ left ∧ left ≤ 65536 → 2 * d + 2 ≤ K → (Yi K).2 A.segments (Jt A r) d left = some (stK A (Ko A d) r left))
  | 0 => ⟨fun d r left _ _ _ h => by omega, fun d r left _ _ _ _ h => by omega⟩
  | K + 1 => by
    obtain ⟨i1, i2⟩ := Zsz hw K
    refine ⟨fun d r left hd hr hl hK => ?_, fun d r left hd hr h1 hl hK => ?_⟩
    · show Xz (Yi K).1 (Yi K).2 A.segments (Jt A r) d left = _
      rw [Ziy]
      refine Zyc hw (Zir hw 1 d) (Zir hw 2 d) hr (by omega) hl (fun hd1 k l hk hl => ?_) (fun hd2 k l hk k1 hl => ?_)
      · have := i1 (d - 1) k l (by omega) hk hl (by omega)
        rw [show (((d - 1 : Nat) : Int)) = (d : Int) - 1 by omega] at this
        unfold Qe
        rw [if_pos (by omega)]
        exact this
      have := i2 (d - 2) k l (by omega) hk k1 hl (by omega)
      rw [show (((d - 2 : Nat) : Int)) = (d : Int) - 2 by omega] at this
      unfold Qe
      rw [if_pos (by omega)]
      exact this
    show Q4 (Yi K).1 (Yi K).2 A.segments (Jt A r) d left = _
    exact Zt2 hw (Zcz hw d) hr h1 hl fun k l hk hl => i1 d k l hd hk hl (by omega)
theorem Zyf (hw : WS A.segments) {d : Nat} (hd : d ≤ 1000) {r : Zd} (hr : OKr A r) {left : Int} (hl : 0 ≤ left ∧ left ≤ 65536) : Ul A.segments (Jt A r) d left = some (Ko A d r left) :=
  Zn4 (2 * d + 1) fun k hk => (Zsz hw k).1 d r left hd hr hl hk
def Zhm (A : Zm) (x : Z0) : Tr × Int × Int :=
  if (atR A 0 0).2 ≠ 0 then (⟨0, [], []⟩, 0, (atR A 0 0).2)
  else
    let q := Ko A (Q2 x).Depth.toNat (atR A 0 0).1 (Q2 x).Weight
    if q.2.2 ≠ 0 then (⟨0, [], []⟩, 0, q.2.2) else (q.1, (Q2 x).Weight - q.2.1, 0)
theorem Zw0 (hw : WS A.segments) (x : Z0) : Qm A.segments x = some (Zhm A x) := by
  unfold Qm Zhm
  rw [Zt6, Option.bind_some, Zt3 hw, Option.bind_some]
  simp only [Zoj]
  have hd : 0 ≤ (Q2 x).Depth ∧ (Q2 x).Depth ≤ 64 := Zdl _ _ (by decide)
  have hW : 0 ≤ (Q2 x).Weight ∧ (Q2 x).Weight ≤ 65536 := Zdl _ _ (by decide)
  by_cases h : (atR A 0 0).2 ≠ 0
  · rw [if_pos h, show ((atR A 0 0).2 != 0) = true from bne_iff_ne.2 h, cond_true]
  rw [if_neg h, show ((atR A 0 0).2 != 0) = false from bne_eq_false_iff_eq.2 (by omega), cond_false]
  have hm := Zyf hw (d := (Q2 x).Depth.toNat) (by omega) (Zdc (A := A) 0 0) hW
  rw [show (((Q2 x).Depth.toNat : Nat) : Int) = (Q2 x).Depth by omega] at hm
  rw [hm, Option.bind_some]
  by_cases hq : (Ko A (Q2 x).Depth.toNat (atR A 0 0).1 (Q2 x).Weight).2.2 ≠ 0
  · rw [if_pos hq, show ((Ko A (Q2 x).Depth.toNat (atR A 0 0).1 (Q2 x).Weight).2.2 != 0) = true from bne_iff_ne.2 hq, cond_true]
  have h0 : (Ko A (Q2 x).Depth.toNat (atR A 0 0).1 (Q2 x).Weight).2.2 = 0 := by omega
  have hb := Zcz hw _ _ _ (Zdc (A := A) 0 0) hW.1 h0
  rw [if_neg hq, show ((Ko A (Q2 x).Depth.toNat (atR A 0 0).1 (Q2 x).Weight).2.2 != 0) = false from bne_eq_false_iff_eq.2 h0, cond_false, Yu (by omega) (by omega)]
theorem Zzr (x : Z0) : (Zhm A x).2 = Zth A x := by
  unfold Zhm Zth
  by_cases h : (atR A 0 0).2 ≠ 0
  · rw [if_pos h, if_pos h]
  rw [if_neg h, if_neg h]
  simp only
  by_cases hq : (Ko A (Q2 x).Depth.toNat (atR A 0 0).1 (Q2 x).Weight).2.2 ≠ 0
  · rw [if_pos hq, if_pos hq]
  rw [if_neg hq, if_neg hq]
end
section
variable {A : Zm}
theorem Zoo (hw : WS A.segments) {r : Zd} (h : OKr A r) : ((Xy A r).length : Int) = K2 r := by
  unfold Xy K2
  cases h with
  | z => rfl
  | li k s a n hk hn hin => simp only; rw [if_neg (by omega), if_neg (by omega), if_neg (by omega), if_neg (by omega)]; rfl
  | co => rfl
  | at_ => rfl
  | st s a d p hd hp hin =>
    have hi' := inB_iff.1 hin
    simp only [show ¬ (1 : Int) = 10 from by decide, if_false, if_true, List.length_take, List.length_drop]
    omega
theorem Zw4 (hw : WS A.segments) {r : Zd} (h : OKr A r) {i : Nat} (hi : i < (Xy A r).length) : (Xy A r)[i] = Zv0 A r (i : Int) := by
  have hl := Zoo hw h
  unfold Zv0
  rw [if_neg (by omega)]
  cases h with
  | z => simp [Xy, r0] at hi
  | li k s a n hk hn hin =>
    have : Xy A ⟨some A, k, s, a, 0, 0, n, 0, 0⟩ = [] := by unfold Xy; rw [if_neg (by simp only; omega), if_neg (by simp only; omega)]
    simp [this] at hi
  | co => simp [Xy] at hi
  | at_ s a c j n hc h0 h1 hn hin =>
    have : i = 0 := by
      simp [Xy] at hi; exact hi
    subst this
    rfl
  | st s a d p hd hp hin =>
    have hi' := inB_iff.1 hin
    have hid : (i : Int) < d := by simp [K2] at hl; omega
    simp only [Xy, show ¬ (1 : Int) = 10 from by decide, if_false, if_true, List.getElem_take, List.getElem_drop]
    unfold wd
    rw [show (a + (i : Int)).toNat = a.toNat + i by omega, List.getElem?_eq_getElem (by omega)]
    rfl
end
theorem Zke {t x : Tr} (h : x ∈ t.Kids) : SizeOf.sizeOf x < SizeOf.sizeOf t := by
  obtain ⟨k, w, ks⟩ := t
  have := List.sizeOf_lt_of_mem h
  simp only [S_api_Tree.mk.sizeOf_spec]
  simp only at this
  omega
theorem Zsl {α R : Type} (xs : List α) (step : Int → Option (Int ⊕ R)) (p : α → Bool) (e o : R) (hl : (xs.length : Int) ≤ 140737488355328)
    (h1 : ∀ (i : Nat) (x : α), i < xs.length → xs[i]? = some x → x ∈ xs → step i = some (if p x = true then .inr e else .inl (IntKind.i64.wrap ((i : Int) + 1)))) (h2 : step xs.length = some (.inr o)) : Ye step 0 = some (if xs.any p = true then e else o) := by
  have hloop := Zwo xs (fun i (_ : Unit) => i) step (fun _ x => some (if p x = true then .inr e else .inl ())) (fun _ => o) (fun i s x hi hx => by
    rw [h1 i x hi hx (List.mem_of_getElem? hx), Yu (by omega) (by omega)]
    cases p x <;> rfl) (fun _ => h2) ()
  refine hloop.trans ?_
  rw [Znr p (fun s _ => s) e (fun _ _ => True) xs.length xs () 0 (by omega) trivial (fun s k x _ _ _ => ⟨by cases p x <;> rfl, fun _ => trivial⟩)]
def tr {α : Type} (p : α → Bool) : List α → List α
  | [] => []
  | x :: xs => match tr p xs with
    | [] => if p x = true then [] else [x]
    | y :: ys => x :: y :: ys
def trN {α : Type} (p : α → Bool) (l : List α) : Nat → Nat
  | 0 => 0
  | n + 1 => match l[n]? with
    | some x => if p x = true then trN p l n else n + 1
    | none => 0
theorem Zk6 {α : Type} {p : α → Bool} {x : α} (h : p x = true) : ∀ l : List α, tr p (l ++ [x]) = tr p l
  | [] => by simp [tr, h]
  | y :: l => by simp only [List.cons_append, tr, Zk6 h l]
theorem Zk5 {α : Type} {p : α → Bool} {x : α} (h : p x = false) : ∀ l : List α, tr p (l ++ [x]) = l ++ [x]
  | [] => by simp [tr, h]
  | y :: l => by
    simp only [List.cons_append, tr, Zk5 h l]
    cases hl : l ++ [x] with
    | nil => simp at hl
    | cons a b => rfl
theorem Zuc {α : Type} {p : α → Bool} {l : List α} : ∀ n, n ≤ l.length → l.take (trN p l n) = tr p (l.take n) ∧ trN p l n ≤ n
  | 0, _ => by simp [trN, tr]
  | n + 1, h => by
    have hn : l[n]? = some l[n] := List.getElem?_eq_getElem (by omega)
    have e : l.take (n + 1) = l.take n ++ [l[n]] := by rw [List.take_add_one, hn]; rfl
    obtain ⟨h1, h2⟩ := Zuc (p := p) (l := l) n (by omega)
    unfold trN
    rw [hn]
    simp only
    split
    · rename_i hp
      rw [e, Zk6 hp]
      exact ⟨h1, by omega⟩
    rename_i hp
    rw [e, Zk5 (by simpa using hp), ← e]
    exact ⟨rfl, Nat.le_refl _⟩
theorem Zrh {α : Type} (p : α → Bool) : ∀ l : List α, (tr p l).length ≤ l.length
  | [] => by simp [tr]
  | x :: l => by
    have := Zrh p l
    simp only [tr]
    split
    · split <;> simp
    rename_i y ys he
    rw [he] at this
    simp at this ⊢
    omega
theorem Zri {α : Type} {p : α → Bool} {x : α} : ∀ {l : List α}, x ∈ tr p l → x ∈ l
  | [], h => by simp [tr] at h
  | y :: l, h => by
    simp only [tr] at h
    split at h
    · split at h
      · simp at h
      simp at h; simp [h]
    rename_i z zs he
    rw [← he] at h
    rcases List.mem_cons.1 h with h | h
    · simp [h]
    exact List.mem_cons_of_mem _ (Zri h)
theorem Zyn {α β : Type} {p : α → Bool} {q : β → Bool} {f : α → β} (h : ∀ x, q (f x) = p x) : ∀ l : List α, tr q (l.map f) = (tr p l).map f
  | [] => rfl
  | x :: l => by
    simp only [List.map_cons, tr, Zyn h l]
    cases tr p l with
    | nil => simp only [List.map_nil, h]; split <;> rfl
    | cons y ys => rfl
theorem Zul {α : Type} (l : List α) (p : α → Bool) (step : Int → Option (Int ⊕ Int)) (hl : (l.length : Int) ≤ 140737488355328)
    (h0 : step 0 = some (.inr 0)) (h1 : ∀ (n : Nat) (x : α), l[n]? = some x → n < l.length → step ((n + 1 : Nat) : Int) = some (if p x = true then .inl (n : Int) else .inr ((n + 1 : Nat) : Int))) : Ye step (l.length : Int) = some (trN p l l.length : Int) := by
  have key : ∀ n : Nat, n ≤ l.length → Ye step (n : Int) = some (trN p l n : Int) := fun n => by
    induction n with
    | zero => intro _; exact Y0 h0
    | succ n ih =>
      intro hn
      have hx : l[n]? = some l[n] := List.getElem?_eq_getElem (by omega)
      have h := h1 n _ hx (by omega)
      unfold trN
      rw [hx]
      simp only
      split
      · rename_i hp
        rw [if_pos hp] at h
        rw [Qg h]
        exact ih (by omega)
      rename_i hp
      rw [if_neg hp] at h
      exact Y0 h
  exact key l.length (Nat.le_refl _)
theorem Zs3 {α : Type} {l : List α} {n : Nat} (h : n ≤ l.length) : Zcm l 0 (n : Int) = some (l.take n) := by
  rw [Zmg (by omega) (by omega) (by omega)]
  simp
theorem Z0j {n : Nat} : decide (0 < ((n + 1 : Nat) : Int)) = true := by rw [decide_eq_true_eq]; omega
theorem Zrj {l : List Int} (hl : (l.length : Int) ≤ 140737488355328) : Vh l = some (tr (fun x => x == 0) l) := by
  have hloop := Zul l (fun x => x == 0) (Jm l) hl (by unfold Jm; rfl) (fun n x hx hn => by
    unfold Jm
    rw [Z0j, cond_true, Yu (by omega) (by omega)]
    have e : ((n + 1 : Nat) : Int) - 1 = (n : Int) := by omega
    rw [e, Gv hx]
    simp only [Option.bind_some, cond_true]
    cases x == 0 <;> rfl)
  obtain ⟨h1, h2⟩ := Zuc (p := fun x => x == 0) (l := l) l.length (Nat.le_refl _)
  unfold Vh
  rw [hloop, Option.bind_some, Zs3 h2, Option.bind_some, h1, List.take_length]
theorem Zs5 {l : List Tr} (hl : (l.length : Int) ≤ 140737488355328) : V3 l = some (tr (fun x => x.Kind == 0) l) := by
  have hloop := Zul l (fun x => x.Kind == 0) (Jz l) hl (by unfold Jz; rfl) (fun n x hx hn => by
    unfold Jz
    rw [Z0j, cond_true, Yu (by omega) (by omega)]
    have e : ((n + 1 : Nat) : Int) - 1 = (n : Int) := by omega
    rw [e, Gv hx]
    simp only [Option.bind_some, cond_true]
    cases x.Kind == 0 <;> rfl)
  obtain ⟨h1, h2⟩ := Zuc (p := fun x => x.Kind == 0) (l := l) l.length (Nat.le_refl _)
  unfold V3
  rw [hloop, Option.bind_some, Zs3 h2, Option.bind_some, h1, List.take_length]
inductive Bd : Tr → Prop
  | mk (t : Tr) (h1 : t.Words.length * 8 ≤ 140737488355328) (h2 : t.Kids.length * 56 ≤ 140737488355328) (h3 : ∀ w ∈ t.Words, 0 ≤ w ∧ w < 18446744073709551616) (h4 : ∀ k ∈ t.Kids, Bd k) : Bd t
theorem Bd.w {t : Tr} (h : Bd t) : t.Words.length * 8 ≤ 140737488355328 := by cases h; assumption
theorem Bd.k {t : Tr} (h : Bd t) : t.Kids.length * 56 ≤ 140737488355328 := by cases h; assumption
theorem Bd.u {t : Tr} (h : Bd t) : ∀ w ∈ t.Words, 0 ≤ w ∧ w < 18446744073709551616 := by cases h; assumption
theorem Bd.all {t : Tr} (h : Bd t) : ∀ k ∈ t.Kids, Bd k := by cases h; assumption
def nrm (t : Tr) : Tr :=
  if t.Kind = 0 then ⟨0, [], []⟩
  else if t.Kind = 1 then ⟨1, tr (fun x => x == 0) t.Words, tr (fun x => x.Kind == 0) (t.Kids.attach.map fun k => nrm k.1)⟩
  else ⟨t.Kind, t.Words, t.Kids.attach.map fun k => nrm k.1⟩
termination_by SizeOf.sizeOf t
decreasing_by all_goals exact Zke k.2
theorem Zn7 (t : Tr) : nrm t = if t.Kind = 0 then ⟨0, [], []⟩ else if t.Kind = 1 then ⟨1, tr (fun x => x == 0) t.Words, tr (fun x => x.Kind == 0) (t.Kids.map nrm)⟩ else ⟨t.Kind, t.Words, t.Kids.map nrm⟩ := by
  rw [nrm]
  simp only [List.attach_map_val]
theorem Zx6 (t : Tr) : (nrm t).Kind = t.Kind := by
  rw [Zn7]
  split
  · rename_i h; exact h.symm
  split
  · rename_i h; exact h.symm
  rfl
theorem Zyk {α β : Type} {xs : List α} {f : α → β} {z : β} {i m : Nat} {x : α} (hi : i + (m + 1) = xs.length) (hx : xs[i]? = some x) :
    ((xs.take i).map f ++ List.replicate (m + 1) z).set i (f x) = (xs.take (i + 1)).map f ++ List.replicate m z := by
  have hl : ((xs.take i).map f).length = i := by rw [List.length_map, List.length_take]; omega
  rw [List.set_append, if_neg (by omega), hl, Nat.sub_self, List.replicate_succ, List.set_cons_zero, List.take_add_one, hx]
  simp
theorem Zxz {α β : Type} (xs : List α) (f : α → β) (z : β) (step : Int × List β → Option ((Int × List β) ⊕ List β)) (hl : (xs.length : Int) ≤ 140737488355328)
    (h1 : ∀ (i : Nat) (x : α) (out : List β) (y : β), i < xs.length → xs[i]? = some x → x ∈ xs → out[i]? = some y → step ((i : Int), out) = some (.inl (IntKind.i64.wrap ((i : Int) + 1), Zh3 out (i : Int) (f x))))
    (h2 : ∀ out, step ((xs.length : Int), out) = some (.inr out)) : Ye step (0, List.replicate xs.length z) = some (xs.map f) := by
  have key : ∀ m i, i + m = xs.length → Ye step ((i : Int), (xs.take i).map f ++ List.replicate m z) = some (xs.map f) := fun m => by
    induction m with
    | zero =>
      intro i hi
      have hi' : i = xs.length := by omega
      subst hi'
      rw [List.take_length, List.replicate_zero, List.append_nil]
      exact Y0 (h2 _)
    | succ m ih =>
      intro i hi
      have hx : xs[i]? = some xs[i] := List.getElem?_eq_getElem (by omega)
      have hl' : ((xs.take i).map f).length = i := by rw [List.length_map, List.length_take]; omega
      have hy : ((xs.take i).map f ++ List.replicate (m + 1) z)[i]? = some z := by
        rw [List.getElem?_append_right (by omega), hl', Nat.sub_self, List.replicate_succ]; rfl
      have h := h1 i _ _ z (by omega) hx (List.mem_of_getElem? hx) hy
      rw [Yu (by omega) (by omega)] at h
      rw [Qg h]
      unfold Zh3
      rw [Int.toNat_natCast, Zyk (by omega) hx]
      exact ih (i + 1) (by omega)
  have := key xs.length 0 (by omega)
  simpa using this
theorem Zuq : ∀ (k : Nat) (t : Tr), Bd t → SizeOf.sizeOf t < k → Jn k t = some (nrm t)
  | 0, t, _, h => by omega
  | k + 1, t, hb, hk => by
    have ih : ∀ x ∈ t.Kids, Jn k x = some (nrm x) := fun x hx => Zuq k x (hb.all x hx) (by have := Zke hx; omega)
    have hw := hb.w
    have hkd := hb.k
    show Za6 (Jn k) t = _
    unfold Za6
    rw [Zn7]
    by_cases h0 : t.Kind = 0
    · rw [if_pos h0, h0]; rfl
    have e0 : (t.Kind == 0) = false := by rw [beq_eq_false_iff_ne]; exact h0
    rw [if_neg h0, e0, cond_false]
    have main : ∀ (w : List Int) (ks : List Tr), (ks.length : Int) ≤ 140737488355328 → (56 : Int) * ks.length ≤ 140737488355328 → (∀ x ∈ ks, Jn k x = some (nrm x)) →
        ((cond (decide (0 < ((w, ks).2.length : Int))) ((Zfi 56 ((w, ks).2.length : Int) (⟨(0 : Int), ([] : (List Int)), ([] : (List S_api_Tree))⟩ : S_api_Tree)).bind fun l6 => some l6) (some ([] : List S_api_Tree))).bind fun (z5 : (List S_api_Tree)) => (Ye (Ve (Jn k) (w, ks)) (0, z5)).bind fun (z14 : (List S_api_Tree)) => some (⟨t.Kind, (w, ks).1, z14⟩ : S_api_Tree)) = some ⟨t.Kind, w, ks.map nrm⟩ := fun w ks h1 h2 hks => by
      have hz : (cond (decide (0 < ((w, ks).2.length : Int))) ((Zfi 56 ((w, ks).2.length : Int) (⟨(0 : Int), ([] : (List Int)), ([] : (List S_api_Tree))⟩ : S_api_Tree)).bind fun l6 => some l6) (some ([] : List S_api_Tree))) = some (List.replicate ks.length (⟨0, [], []⟩ : Tr)) := by
        cases ks with
        | nil => rfl
        | cons y ys =>
          have : decide (0 < (((w, y :: ys).2.length : Nat) : Int)) = true := by rw [decide_eq_true_eq]; simp
          rw [this, cond_true, Zsn (Int.natCast_nonneg _) h2 h1, Option.bind_some, Int.toNat_natCast]
      rw [hz, Option.bind_some]
      rw [Zxz ks nrm _ (Ve (Jn k) (w, ks)) h1 (fun i x out z hi hx hm hz => by
          unfold Ve
          simp only
          rw [Zy7 hi, cond_true, Gv hx, Option.bind_some, hks x hm, Option.bind_some, Gv hz, Option.bind_some]) (fun out => by
          unfold Ve
          simp only
          rw [Zy6, cond_false]), Option.bind_some]
    by_cases h1 : t.Kind = 1
    · have e1 : (t.Kind == 1) = true := by rw [beq_iff_eq]; exact h1
      have l1 := Zrh (fun x : Tr => x.Kind == 0) t.Kids
      rw [if_pos h1, e1, cond_true, Zrj (by omega), Option.bind_some, Zs5 (by omega), Option.bind_some, Option.bind_some]
      rw [main _ _ (by omega) (by omega) (fun x hx => ih x (Zri hx)), Zyn (fun x => by rw [Zx6]), h1]
    have e1 : (t.Kind == 1) = false := by rw [beq_eq_false_iff_ne]; exact h1
    rw [if_neg h1, e1, cond_false, Option.bind_some]
    exact main _ _ (by omega) (by omega) ih
theorem Zy9 {t : Tr} (h : Bd t) : Zf2 t = some (nrm t) := Zn4 (SizeOf.sizeOf t + 1) fun k hk => Zuq k t h (by omega)
theorem Zx5 : ∀ (n : Nat) (t : Tr), SizeOf.sizeOf t < n → Bd t → Bd (nrm t)
  | 0, t, h, _ => by omega
  | n + 1, t, hn, hb => by
    have ih : ∀ x ∈ t.Kids, Bd (nrm x) := fun x hx => Zx5 n x (by have := Zke hx; omega) (hb.all x hx)
    have hw := hb.w
    have hk := hb.k
    rw [Zn7]
    split
    · exact .mk _ (by simp) (by simp) (fun w h => by simp at h) (fun w h => by simp at h)
    split
    · have l1 := Zrh (fun x : Int => x == 0) t.Words
      have l2 := Zrh (fun x : Tr => x.Kind == 0) (t.Kids.map nrm)
      rw [List.length_map] at l2
      refine .mk _ (by simp only; omega) (Nat.le_trans (Nat.mul_le_mul_right 56 l2) hk) (fun w h => hb.u w (Zri h)) (fun x h => ?_)
      obtain ⟨y, hy, rfl⟩ := List.mem_map.1 (Zri h)
      exact ih y hy
    refine .mk _ hw (by simp only [List.length_map]; exact hk) hb.u (fun x h => ?_)
    obtain ⟨y, hy, rfl⟩ := List.mem_map.1 h
    exact ih y hy
theorem Bd.nrm {t : Tr} (h : Bd t) : Bd (nrm t) := Zx5 _ t (Nat.lt_succ_self _) h
def eqT (a b : Tr) : Bool := a.Kind == b.Kind && (a.Words == b.Words && (a.Kids.length == b.Kids.length && (a.Kids.attach.zip b.Kids).all fun p => eqT p.1.1 p.2))
termination_by SizeOf.sizeOf a
decreasing_by exact Zke p.1.2
def eqL : List Tr → List Tr → Bool
  | [], [] => true
  | x :: xs, y :: ys => eqT x y && eqL xs ys
  | _, _ => false
theorem Zv2 : ∀ (l m : List Tr) (P : Tr → Prop) (l' : List {x // P x}), l'.map (·.1) = l → (l.length == m.length && (l'.zip m).all fun p => eqT p.1.1 p.2) = eqL l m
  | [], [], P, l', h => by cases l' <;> simp_all [eqL]
  | [], y :: m, P, l', h => by cases l' <;> simp_all [eqL]
  | x :: l, [], P, l', h => by cases l' <;> simp_all [eqL]
  | x :: l, y :: m, P, l', h => by
    cases l' with
    | nil => simp at h
    | cons z l' =>
      simp only [List.map_cons, List.cons.injEq] at h
      have ih := Zv2 l m P l' h.2
      simp only [List.length_cons, List.zip_cons_cons, List.all_cons, eqL, h.1]
      rw [← ih]
      have : (l.length + 1 == m.length + 1) = (l.length == m.length) := by simp
      rw [this]
      cases l.length == m.length <;> cases eqT x y <;> rfl
theorem Zxi (a b : Tr) : eqT a b = (a.Kind == b.Kind && (a.Words == b.Words && eqL a.Kids b.Kids)) := by
  rw [eqT, Zv2 a.Kids b.Kids (· ∈ a.Kids) a.Kids.attach (by simp)]
theorem Zr2 (x y : Tr) (xs ys : List Tr) : eqL (x :: xs) (y :: ys) = (eqT x y && eqL xs ys) := rfl
theorem Zo9 : ∀ (n : Nat) (a b : Tr), SizeOf.sizeOf a < n → (eqT a b = true ↔ a = b)
  | 0, a, b, h => by omega
  | n + 1, a, b, hn => by
    have ih : ∀ x ∈ a.Kids, ∀ y, eqT x y = true ↔ x = y := fun x hx y => Zo9 n x y (by have := Zke hx; omega)
    have hl : ∀ (l m : List Tr), (∀ x ∈ l, x ∈ a.Kids) → (eqL l m = true ↔ l = m) := fun l => by
      induction l with
      | nil => intro m _; cases m <;> simp [eqL]
      | cons x l ihl =>
        intro m hm
        cases m with
        | nil => simp [eqL]
        | cons y m => rw [Zr2, Bool.and_eq_true, ih x (hm x (.head _)) y, ihl m (fun z hz => hm z (.tail _ hz)), List.cons.injEq]
    rw [Zxi, Bool.and_eq_true, Bool.and_eq_true, hl a.Kids b.Kids (fun x hx => hx), beq_iff_eq, beq_iff_eq]
    obtain ⟨k, w, ks⟩ := a
    obtain ⟨k', w', ks'⟩ := b
    simp
theorem eqT_iff {a b : Tr} : eqT a b = true ↔ a = b := Zo9 _ a b (Nat.lt_succ_self _)
theorem Zxa : ∀ (a b : List Int), a.length = b.length → (a.zip b).any (fun p => p.1 != p.2) = !(a == b)
  | [], [], _ => rfl
  | [], _ :: _, h => by simp at h
  | _ :: _, [], h => by simp at h
  | x :: a, y :: b, h => by
    have ih := Zxa a b (by simpa using h)
    rw [List.zip_cons_cons, List.any_cons, ih]
    by_cases hxy : x = y
    · subst hxy; simp
    simp [bne, hxy]
theorem Zx0 {R : Type} (a b : List Int) (step : Int → Option (Int ⊕ R)) (e o : R) (hab : a.length = b.length) (hl : (a.length : Int) ≤ 140737488355328)
    (h1 : ∀ (i : Nat) (x y : Int), i < a.length → a[i]? = some x → b[i]? = some y → step i = some (if (x != y) = true then .inr e else .inl (IntKind.i64.wrap ((i : Int) + 1)))) (h2 : step a.length = some (.inr o)) :
    Ye step 0 = some (if (a == b) = true then o else e) := by
  have hz : (a.zip b).length = a.length := by rw [List.length_zip]; omega
  have := Zsl (a.zip b) step (fun p => p.1 != p.2) e o (by rw [hz]; exact hl) (fun i p hi hp hm => by
    rw [hz] at hi
    have ha : a[i]? = some a[i] := List.getElem?_eq_getElem hi
    have hb : b[i]? = some b[i] := List.getElem?_eq_getElem (by omega)
    have : p = (a[i], b[i]) := by
      rw [List.getElem?_eq_getElem (by rw [hz]; exact hi)] at hp
      injection hp with hp
      rw [← hp, List.getElem_zip]
    subst this
    exact h1 i _ _ hi ha hb) (by rw [hz]; exact h2)
  rw [this, Zxa a b hab]
  cases a == b <;> rfl
theorem Zxt {a b : Nat} : ((a : Int) != (b : Int)) = !(a == b) := by
  rw [Bool.eq_iff_iff]; simp; omega
theorem Zy0 {a b : List Int} (h : ¬ a.length = b.length) : (a == b) = false := by
  rw [beq_eq_false_iff_ne]; intro e; exact h (by rw [e])
theorem Zyh {a b : List Int} (h : (a.length : Int) ≤ 140737488355328) : Kl a b = some (a == b) := by
  unfold Kl
  rw [Zxt]
  by_cases hab : a.length = b.length
  · have : (!(a.length == b.length)) = false := by simp [hab]
    rw [this, cond_false, Zx0 a b (Q3 a b) (.inl ()) (.inr ()) hab h (fun i x y hi hx hy => by
      unfold Q3
      rw [Zy7 hi, cond_true, Gv hx, Option.bind_some, Gv hy, Option.bind_some]
      cases x != y <;> rfl) (by unfold Q3; rw [Zy6]; rfl)]
    cases a == b <;> rfl
  have : (!(a.length == b.length)) = true := by simp [hab]
  rw [this, cond_true, Zy0 hab]
theorem Zzw (q : Tr → Tr → Bool) : ∀ (a b : List Tr), (a.zip b).any (fun p => !q p.1 p.2) = !((a.zip b).all fun p => q p.1 p.2)
  | [], b => by simp
  | x :: a, [] => by simp
  | x :: a, y :: b => by rw [List.zip_cons_cons, List.any_cons, Zzw q a b, List.all_cons]; cases q x y <;> rfl
theorem Zwp {R : Type} (a b : List Tr) (q : Tr → Tr → Bool) (step : Int → Option (Int ⊕ R)) (e o : R) (hab : a.length = b.length) (hl : (a.length : Int) ≤ 140737488355328)
    (h1 : ∀ (i : Nat) (x y : Tr), i < a.length → a[i]? = some x → b[i]? = some y → x ∈ a → y ∈ b → step i = some (if (!q x y) = true then .inr e else .inl (IntKind.i64.wrap ((i : Int) + 1)))) (h2 : step a.length = some (.inr o)) :
    Ye step 0 = some (if ((a.zip b).all fun p => q p.1 p.2) = true then o else e) := by
  have hz : (a.zip b).length = a.length := by rw [List.length_zip]; omega
  have := Zsl (a.zip b) step (fun p => !q p.1 p.2) e o (by rw [hz]; exact hl) (fun i p hi hp hm => by
    rw [hz] at hi
    have ha : a[i]? = some a[i] := List.getElem?_eq_getElem hi
    have hb : b[i]? = some b[i] := List.getElem?_eq_getElem (by omega)
    have : p = (a[i], b[i]) := by
      rw [List.getElem?_eq_getElem (by rw [hz]; exact hi)] at hp
      injection hp with hp
      rw [← hp, List.getElem_zip]
    subst this
    exact h1 i _ _ hi ha hb (List.getElem_mem _) (List.getElem_mem _)) (by rw [hz]; exact h2)
  rw [this, Zzw q a b]
  cases (a.zip b).all fun p => q p.1 p.2 <;> rfl
theorem Zru : ∀ (a b : List Tr), a.length = b.length → ((a.zip b).all fun p => eqT p.1 p.2) = eqL a b
  | [], [], _ => rfl
  | [], _ :: _, h => by simp at h
  | _ :: _, [], h => by simp at h
  | x :: a, y :: b, h => by
    have ih := Zru a b (by simpa using h)
    rw [List.zip_cons_cons, List.all_cons, ih]; rfl
theorem Zuh : ∀ (a b : List Tr), a.length ≠ b.length → eqL a b = false
  | [], [], h => by simp at h
  | [], _ :: _, _ => rfl
  | _ :: _, [], _ => rfl
  | x :: a, y :: b, h => by rw [Zr2, Zuh a b (by simpa using h), Bool.and_false]
theorem Zut : ∀ (k : Nat) (a b : Tr), Bd a → Bd b → SizeOf.sizeOf a < k → Xv k a b = some (eqT a b)
  | 0, a, b, _, _, h => by omega
  | k + 1, a, b, ha, hb, hk => by
    have ih : ∀ x ∈ a.Kids, ∀ y ∈ b.Kids, Xv k x y = some (eqT x y) := fun x hx y hy => Zut k x y (ha.all x hx) (hb.all y hy) (by have := Zke hx; omega)
    have hw := ha.w
    have hkd := ha.k
    show Kj (Xv k) a b = _
    unfold Kj
    rw [Zxi, Zyh (by omega), Option.bind_some, Zxt]
    by_cases h0 : a.Kind = b.Kind
    · have e0 : (a.Kind != b.Kind) = false := by simp [h0]
      have e1 : (a.Kind == b.Kind) = true := by simp [h0]
      rw [e0, e1, cond_false, cond_false, Option.bind_some, Bool.true_and]
      cases hw' : a.Words == b.Words with
      | false => rfl
      | true =>
        rw [Bool.not_true, cond_false, Bool.true_and]
        by_cases hab : a.Kids.length = b.Kids.length
        · have : (!(a.Kids.length == b.Kids.length)) = false := by simp [hab]
          rw [this, cond_false, Zwp a.Kids b.Kids eqT (Qz (Xv k) a b) (.inl ()) (.inr ()) hab (by omega) (fun i x y hi hx hy hmx hmy => by
            unfold Qz
            rw [Zy7 hi, cond_true, Gv hx, Option.bind_some, Gv hy, Option.bind_some, ih x hmx y hmy, Option.bind_some]
            cases eqT x y <;> rfl) (by unfold Qz; rw [Zy6]; rfl)]
          rw [Zru a.Kids b.Kids hab]
          cases eqL a.Kids b.Kids <;> rfl
        have : (!(a.Kids.length == b.Kids.length)) = true := by simp [hab]
        rw [this, cond_true, Zuh _ _ hab]
    have e0 : (a.Kind != b.Kind) = true := by simp [h0]
    have e1 : (a.Kind == b.Kind) = false := by simp [h0]
    rw [e0, e1]; rfl
theorem Zzg {a b : Tr} (ha : Bd a) (hb : Bd b) : Gy a b = some (eqT a b) := Zn4 (SizeOf.sizeOf a + 1) fun k hk => Zut k a b ha hb (by omega)
theorem Zx7 {t : Tr} (h : t.Kind = 0) : nrm t = ⟨0, [], []⟩ := by rw [Zn7, if_pos h]
theorem Ztx {t : Tr} (h : t.Kind = 1) : nrm t = ⟨1, tr (fun x => x == 0) t.Words, tr (fun x => x.Kind == 0) (t.Kids.map nrm)⟩ := by rw [Zn7, if_neg (by rw [h]; decide), if_pos h]
section
variable {A : Zm}
theorem Ztq {f : Zd → Int → Tr × Int × Int} {g : Int → Zd × Int} {Q : Tr → Prop} (hQ : ∀ i left, Q (f (g i).1 left).1) : ∀ (m i : Nat) (left : Int) (acc : List Tr), (∀ t ∈ acc, Q t) → (∀ t ∈ (Ym f g m i left acc).1, Q t) ∧ (Ym f g m i left acc).1.length ≤ acc.length + m
  | 0, i, left, acc, h => ⟨h, Nat.le_refl _⟩
  | m + 1, i, left, acc, h => by
    rw [Ym]
    split
    · exact ⟨h, by simp only; omega⟩
    split
    · exact ⟨h, by simp only; omega⟩
    obtain ⟨h1, h2⟩ := Ztq hQ m (i + 1) (f (g i).1 left).2.1 (acc ++ [(f (g i).1 left).1]) fun t ht => by
      rcases List.mem_append.1 ht with ht | ht
      · exact h t ht
      rw [List.mem_singleton] at ht; subst ht; exact hQ i left
    exact ⟨h1, by rw [List.length_append, List.length_singleton] at h2; omega⟩
theorem Zza {w c j : Int} (hw : 0 ≤ w ∧ w < 18446744073709551616) : 0 ≤ Zso w c j ∧ Zso w c j < 18446744073709551616 := by
  unfold Zso
  have h1 : w.toNat / 2 ^ (j * wdt c).toNat % 2 ^ (wdt c).toNat ≤ w.toNat / 2 ^ (j * wdt c).toNat := Nat.mod_le _ _
  have h2 : w.toNat / 2 ^ (j * wdt c).toNat ≤ w.toNat := Nat.div_le_self _ _
  omega
theorem Zd6 (hw : WS A.segments) (r : Zd) : ∀ w ∈ Xy A r, 0 ≤ w ∧ w < 18446744073709551616 := by
  unfold Xy
  split
  · intro w hm
    rw [List.mem_singleton] at hm
    subst hm
    unfold Zty
    split
    · omega
    exact Zza (Zfp hw _ _)
  split
  · exact fun w hm => Zyi hw _ w (List.mem_of_mem_drop (List.mem_of_mem_take hm))
  exact fun w hm => by cases hm
theorem Zha {r : Zd} (h : OKr A r) : (Xy A r).length ≤ 65536 := by
  unfold Xy
  cases h with
  | z => simp [r0]
  | st s a d p hd hp hin => simp only [show ¬ (1 : Int) = 10 from by decide, if_false, if_true, List.length_take]; omega
  | li k s a n hk hn hin => simp only; rw [if_neg (by omega), if_neg (by omega)]; simp
  | co => simp
  | at_ => simp
theorem Zuo (hw : WS A.segments) : ∀ (d : Nat) r left, OKr A r → 0 ≤ left → left ≤ 65536 → Bd (Ko A d r left).1 := fun d => by
  have key : ∀ (f : Zd → Int → Tr × Int × Int), True := fun _ => trivial
  clear key
  have hst : ∀ (f : Zd → Int → Tr × Int × Int), (∀ r left, OKr A r → Bd (f r left).1) → ∀ r left, OKr A r → r.ptrs ≤ 65536 → Bd (stK A f r left).1 := fun f hf r left hr hp => by
    unfold stK
    have := Ztq (f := f) (g := Yh A r) (Q := Bd) (fun i left => hf _ left (Qu hr i)) r.ptrs.toNat 0 left [] (by simp)
    refine .mk _ (by simp only; have := Zha hr; omega) (by simp only; have := this.2; simp only [List.length_nil] at this; omega) (Zd6 hw r) this.1
  have main : ∀ r left, OKr A r → Bd (Ko A d r left).1 := by
    induction d using Nat.strongRecOn with
    | ind d ih =>
      intro r left hr
      have hbad : ∀ r left, Bd (bad r left).1 := fun r left => .mk _ (by simp [bad]) (by simp [bad]) (by simp [bad]) (by simp [bad])
      have hP : ∀ k, 1 ≤ k → ∀ r left, OKr A r → Bd (Qe A k d r left).1 := fun k hk r left hr => by
        unfold Qe
        split
        · exact ih _ (by omega) r left hr
        exact hbad _ _
      rw [Ziy]
      unfold Zdu
      have hwl := Zha hr
      split
      · exact .mk _ (by simp only; omega) (by simp) (Zd6 hw r) (by simp)
      split
      · exact .mk _ (by simp only; omega) (by simp) (Zd6 hw r) (by simp)
      have hkn := Zds hr
      have hQ : ∀ (i : Int) left, Bd (Gd A (Qe A 1 d) (Qe A 2 d) r (Yh A r i).1 left).1 := fun i left => by
        unfold Gd
        split
        · rename_i k9
          have hkr := Qu hr i
          refine hst _ (fun r left hr => hP 2 (by omega) r left hr) _ _ hkr ?_
          cases hkr' : (Yh A r i).1 with
          | mk a b c d e f g h j =>
            rw [hkr'] at hkr
            cases hkr with
            | z => simp
            | st s a d p hd hp hin => simp only; omega
            | li k s a n hk => simp
            | co s a d p n hd hp hn => simp only; omega
            | at_ => simp
        split
        · exact hP 1 (by omega) _ _ (Qu hr i)
        unfold Zfh
        have := Zha (Qu hr i)
        exact .mk _ (by simp only; omega) (by simp) (Zd6 hw _) (by simp)
      have := Ztq (f := Gd A (Qe A 1 d) (Qe A 2 d) r) (g := Yh A r) (Q := Bd) hQ (Z3 r).toNat 0 (left - wtR r) [] (by simp)
      refine .mk _ (by simp only; omega) ?_ (Zd6 hw r) this.1
      have h2 := this.2
      simp only [List.length_nil] at h2 ⊢
      omega
  exact fun r left hr _ _ => main r left hr
end
def uwR (r : Zd) : Int := if r.kind = 0 then 0 else if r.kind = 1 then 1 + r.words + r.ptrs else if r.kind = 8 then 1 + r.count else 1
section
variable {A : Zm}
theorem Zud {r : Zd} (h : OKr A r) : V4 r = some (uwR r) := by
  have hk : Yk r = some r.kind := rfl
  unfold V4 uwR
  rw [hk, Zgz, Zcc, Option.bind_some]
  cases h with
  | z => rfl
  | st s a d p hd hp hin =>
    simp only [K2, Z3, if_true, show ((1 : Int) == 0) = false from rfl, show ((1 : Int) == 1) = true from rfl, cond_false, cond_true, Option.bind_some, show ¬ (1 : Int) = 0 from by decide, if_false]
    rw [Yu (x := 1 + d) (by omega) (by omega), Yu (by omega) (by omega)]
  | li k s a n hk' hn hin =>
    simp only [Z3]
    rw [show (k == 0) = false from Jj (by omega), show (k == 1) = false from Jj (by omega), if_neg (show ¬ k = 1 by omega), if_neg (show ¬ k = 0 by omega), if_neg (show ¬ k = 1 by omega), cond_false, cond_false]
    by_cases k8 : k = 8
    · rw [if_pos k8, show (k == 8) = true from by rw [k8]; rfl, cond_true, Option.bind_some, Yu (by omega) (by omega)]
    rw [if_neg k8, show (k == 8) = false from Jj k8, cond_false]
  | co s a d p n hd hp hn hwx hin => rfl
  | at_ s a c i n hc h0 h1 hn hin => rfl
theorem Zx4 (r : Zd) : Un r = some (decide (1 ≤ r.kind ∧ r.kind ≤ 9)) := by
  have hk : Yk r = some r.kind := rfl
  unfold Un Zc0
  rw [hk, Option.bind_some]
  by_cases k1 : r.kind = 1
  · rw [show (r.kind == 1) = true from by rw [k1]; rfl, cond_true, Option.bind_some, decide_eq_true (show 1 ≤ r.kind ∧ r.kind ≤ 9 by omega)]
  rw [show (r.kind == 1) = false from Jj k1, cond_false]
  simp only [Option.bind_some, cond_false]
  congr 1
  by_cases h2 : 2 ≤ r.kind
  · rw [decide_eq_true h2, cond_true, decide_eq_decide]; omega
  rw [decide_eq_false h2, cond_false, decide_eq_false (show ¬ (1 ≤ r.kind ∧ r.kind ≤ 9) by omega)]
theorem Zw2 (hw : WS A.segments) {r : Zd} (h : OKr A r) : Ye (Yt r (K2 r)) (0, ([] : List Int)) = some (Xy A r) := by
  have hl := Zoo hw h
  have hle := Zha h
  have key : ∀ (k i : Nat), i + k = (Xy A r).length → Ye (Yt r (K2 r)) ((i : Int), (Xy A r).take i) = some (Xy A r) := fun k => by
    induction k with
    | zero =>
      intro i hi
      refine Y0 ?_
      unfold Yt
      simp only
      rw [show decide ((i : Int) < K2 r) = false from by rw [decide_eq_false_iff_not]; omega, cond_false, List.take_of_length_le (by omega)]
    | succ k ih =>
      intro i hi
      have h1 : i < (Xy A r).length := by omega
      have hs : Yt r (K2 r) ((i : Int), (Xy A r).take i) = some (.inl (((i + 1 : Nat) : Int), (Xy A r).take (i + 1))) := by
        unfold Yt
        simp only
        rw [show decide ((i : Int) < K2 r) = true from by rw [decide_eq_true_eq]; omega, cond_true, Zzt hw h, Option.bind_some, Zgm (by simp only [List.length_singleton, List.length_take]; omega) (by simp only [List.length_singleton, List.length_take]; omega), Option.bind_some, Yu (by omega) (by omega), ← Zw4 hw h h1, List.take_add_one, List.getElem?_eq_getElem h1]
        rfl
      rw [Qg hs]
      exact ih (i + 1) (by omega)
  have := key (Xy A r).length 0 (by omega)
  rw [List.take_zero, show (((0 : Nat) : Int)) = 0 from rfl] at this
  exact this
theorem Zs6 (hw : WS A.segments) {f1 : Zt → Zd → Int → Option (Tr × Int × Zt)} {f : Zd → Int → Tr × Int × Int} (hf : Lf A f) {r : Zd} (hr : OKr A r) (n : Nat) (hn : Z3 r = (n : Int)) (hn2 : n ≤ 1073741824) {X D : Int} (hX : 0 ≤ X) (hD : 1 ≤ D ∧ D ≤ 1000)
    (hF : ∀ (i : Nat) (l L : Int), i < n → (Yh A r i).2 = 0 → 0 ≤ l ∧ l ≤ 65536 → (f (Yh A r i).1 l).2.2 = 0 → l - (f (Yh A r i).1 l).2.1 + X ≤ L → L ≤ 65536 → f1 ⟨L⟩ (Yh A r i).1 (D - 1) = some ((f (Yh A r i).1 l).1, 0, ⟨L - (l - (f (Yh A r i).1 l).2.1 + X)⟩)) : ∀ (m i : Nat) (left L : Int) (acc : List Tr), i + m = n → acc.length = i → 0 ≤ left ∧ left ≤ 65536 → (Ym f (Yh A r) m i left acc).2.2 = 0 → left - (Ym f (Yh A r) m i left acc).2.1 + (m : Int) * X ≤ L → L ≤ 65536 →
    Ye (Yr f1 r D (Z3 r)) ((i : Int), acc, L) = some (.inr ((Ym f (Yh A r) m i left acc).1, L - (left - (Ym f (Yh A r) m i left acc).2.1 + (m : Int) * X)))
  | 0, i, left, L, acc, hi, ha, hl, hq, hL, hL2 => by
    refine Y0 ?_
    unfold Yr
    simp only
    rw [show decide ((i : Int) < Z3 r) = false from by rw [decide_eq_false_iff_not]; omega, cond_false]
    simp only [Ym]
    congr 4
    simp
  | m + 1, i, left, L, acc, hi, ha, hl, hq, hL, hL2 => by
    rw [Ym] at hq hL ⊢
    by_cases h1 : (Yh A r i).2 ≠ 0
    · rw [if_pos h1] at hq; exact absurd hq h1
    rw [if_neg h1] at hq hL ⊢
    by_cases h2 : (f (Yh A r i).1 left).2.2 ≠ 0
    · rw [if_pos h2] at hq; exact absurd hq h2
    rw [if_neg h2] at hq hL ⊢
    have h1' : (Yh A r i).2 = 0 := by omega
    have h2' : (f (Yh A r i).1 left).2.2 = 0 := by omega
    obtain ⟨b1, b2⟩ := hf _ _ (Qu hr i) hl.1 h2'
    obtain ⟨c1, c2⟩ := Zio hf (fun i => Qu hr i) m (i + 1) (f (Yh A r i).1 left).2.1 (acc ++ [(f (Yh A r i).1 left).1]) b1 hq
    have hmX : (((m + 1 : Nat) : Int)) * X = (m : Int) * X + X := by rw [show (((m + 1 : Nat) : Int)) = (m : Int) + 1 by omega, Int.add_mul, Int.one_mul]
    have hmn : 0 ≤ (m : Int) * X := Int.mul_nonneg (by omega) hX
    rw [hmX] at hL ⊢
    have hk := hF i left L (by omega) h1' hl h2' (by omega) hL2
    have hs : Yr f1 r D (Z3 r) ((i : Int), acc, L) = some (.inl (((i + 1 : Nat) : Int), acc ++ [(f (Yh A r i).1 left).1], L - (left - (f (Yh A r i).1 left).2.1 + X))) := by
      unfold Yr
      simp only
      rw [show decide ((i : Int) < Z3 r) = true from by rw [decide_eq_true_eq]; omega, cond_true, Zxr hw hr, Option.bind_some, bne_eq_false_iff_eq.2 h1', cond_false, Yu (x := D - 1) (by omega) (by omega), hk, Option.bind_some]
      simp only
      rw [show ((0 : Int) != 0) = false from rfl, cond_false, Zgm (by simp only [List.length_singleton]; omega) (by simp only [List.length_singleton]; omega), Option.bind_some, Yu (by omega) (by omega)]
      rfl
    rw [Qg hs, Zs6 hw hf hr n hn hn2 hX hD hF m (i + 1) _ _ _ (by omega) (by rw [List.length_append, ha]; rfl) ⟨b1, by omega⟩ hq (by omega) (by omega)]
    refine congrArg some (congrArg Sum.inr (Prod.ext rfl ?_))
    simp only
    omega
theorem Znf (hw : WS A.segments) {f1 : Zt → Zd → Int → Option (Tr × Int × Zt)} {f : Zd → Int → Tr × Int × Int} (hf : Lf A f) {r : Zd} (hr : OKr A r) {X D left L : Int} (hX : 0 ≤ X) (hD : 0 ≤ D ∧ D ≤ 1000) (hD1 : 1 ≤ r.kind ∧ r.kind ≤ 9 → 1 ≤ D) (hl : 0 ≤ left ∧ left ≤ 65536)
    (hq : (Ym f (Yh A r) (Z3 r).toNat 0 left []).2.2 = 0) (hL : uwR r + (left - (Ym f (Yh A r) (Z3 r).toNat 0 left []).2.1 + Z3 r * X) ≤ L) (hL2 : L ≤ 65536)
    (hF : 1 ≤ D → ∀ (i : Nat) (l L : Int), i < (Z3 r).toNat → (Yh A r i).2 = 0 → 0 ≤ l ∧ l ≤ 65536 → (f (Yh A r i).1 l).2.2 = 0 → l - (f (Yh A r i).1 l).2.1 + X ≤ L → L ≤ 65536 → f1 ⟨L⟩ (Yh A r i).1 (D - 1) = some ((f (Yh A r i).1 l).1, 0, ⟨L - (l - (f (Yh A r i).1 l).2.1 + X)⟩)) :
    Yw f1 ⟨L⟩ r D = some (⟨r.kind, Xy A r, (Ym f (Yh A r) (Z3 r).toNat 0 left []).1⟩, 0, ⟨L - (uwR r + (left - (Ym f (Yh A r) (Z3 r).toNat 0 left []).2.1 + Z3 r * X))⟩) := by
  have hkk : Yk r = some r.kind := rfl
  have hkn := Zds hr
  have hg := Zio hf (fun i => Qu hr i) (Z3 r).toNat 0 left [] hl.1 hq
  have hmn : 0 ≤ Z3 r * X := Int.mul_nonneg hkn.1 hX
  have hu : 0 ≤ uwR r := by
    cases hr with
    | z => simp [uwR, r0]
    | st s a d p hd hp hin => simp [uwR]; omega
    | li k s a n hk hn hin => simp only [uwR]; rw [if_neg (by omega), if_neg (by omega)]; split <;> omega
    | co => simp [uwR]
    | at_ => simp [uwR]
  unfold Yw
  rw [Zud hr, Option.bind_some, Zx4, Yu (x := L - uwR r) (by omega) (by omega)]
  have e1 : (cond (decide (L - uwR r < 0)) (some true) (cond (D == 0) ((some (decide (1 ≤ r.kind ∧ r.kind ≤ 9))).bind fun y6 => some (cond (decide (L - uwR r < 0)) true (cond (D == 0) y6 false))) (some (cond (decide (L - uwR r < 0)) true false)))) = some false := by
    rw [decide_eq_false (show ¬ L - uwR r < 0 by omega), cond_false]
    by_cases d0 : D = 0
    · rw [show (D == 0) = true from by rw [d0]; rfl, cond_true, Option.bind_some, cond_true, decide_eq_false (show ¬ (1 ≤ r.kind ∧ r.kind ≤ 9) from fun q => by have := hD1 q; omega)]
      rfl
    rw [show (D == 0) = false from Jj d0]; rfl
  rw [e1, Option.bind_some, cond_false, hkk, Option.bind_some, Zgz, Option.bind_some, Zw2 hw hr, Option.bind_some, Zcc, Option.bind_some]
  by_cases hk0 : Z3 r = 0
  · -- no kids
    have e2 : Ye (Yr f1 r D (Z3 r)) (0, ([] : List Tr), L - uwR r) = some (.inr ([], L - uwR r)) := by
      refine Y0 ?_
      unfold Yr
      simp only
      rw [hk0]
      rfl
    rw [e2, Option.bind_some, hk0]
    simp only [show ((0 : Int).toNat) = 0 from rfl, Ym]
    congr 4
    omega
  have hD' : 1 ≤ D := hD1 (by
    cases hr with
    | z => simp [Z3, r0] at hk0
    | st => simp
    | li k s a n hk => simp only; omega
    | co => simp
    | at_ => simp [Z3] at hk0)
  have hL1 := Zs6 hw hf hr (Z3 r).toNat (by omega) (by omega) hX ⟨hD', hD.2⟩ (hF hD') (Z3 r).toNat 0 left (L - uwR r) [] (by omega) rfl hl hq (by rw [show (((Z3 r).toNat : Nat) : Int) = Z3 r by omega]; omega) (by omega)
  rw [show (((0 : Nat) : Int)) = 0 from rfl, show (((Z3 r).toNat : Nat) : Int) = Z3 r by omega] at hL1
  rw [hL1, Option.bind_some]
  simp only
  congr 4
  omega
theorem Z1a {r : Zd} (h : OKr A r) : wtR r = uwR r + Z3 r * (if r.kind = 9 then 1 + r.words + r.ptrs else if r.kind = 1 ∨ r.kind = 8 then 0 else if r.kind = 0 then 0 else 1) := by
  cases h with
  | z => simp [wtR, uwR, Z3, r0]
  | st s a d p hd hp hin => simp [wtR, uwR]
  | co s a d p n hd hp hn hwx hin => simp [wtR, uwR, Z3]
  | at_ => simp [wtR, uwR, Z3]
  | li k s a n hk hn hin =>
    have : k = 2 ∨ k = 3 ∨ k = 4 ∨ k = 5 ∨ k = 6 ∨ k = 7 ∨ k = 8 := by omega
    rcases this with rfl | rfl | rfl | rfl | rfl | rfl | rfl <;> simp [wtR, uwR, Z3]
theorem Zsi {r : Zd} (hk : r.kind = 9) {i : Int} (h : 0 ≤ i ∧ i < Z3 r) : (Yh A r i).1.words = r.words ∧ (Yh A r i).1.ptrs = r.ptrs := by
  unfold Yh
  rw [if_neg (by omega), if_neg (by omega), if_neg (by omega), if_pos hk]
  exact ⟨rfl, rfl⟩
theorem Zwk {r : Zd} (hk : 2 ≤ r.kind ∧ r.kind ≤ 7) {i : Int} (h : 0 ≤ i ∧ i < Z3 r) : (Yh A r i).1.kind = 10 ∧ Z3 (Yh A r i).1 = 0 := by
  unfold Yh
  rw [if_neg (by omega), if_neg (by omega), if_neg (by omega), if_neg (by omega)]
  exact ⟨rfl, rfl⟩
theorem Zyp (hw : WS A.segments) : ∀ (K : Nat), (∀ (d : Nat) r (left L D : Int), OKr A r → 0 ≤ left ∧ left ≤ 65536 → (Ko A d r left).2.2 = 0 → left - (Ko A d r left).2.1 ≤ L → L ≤ 65536 → (d : Int) ≤ D → D ≤ 1000 → d + 2 ≤ K → r.kind ≠ 10 → Ya K ⟨L⟩ r D = some ((Ko A d r left).1, 0, ⟨L - (left - (Ko A d r left).2.1)⟩)) ∧
    (∀ (d : Nat) r (left L D : Int), OKr A r → r.kind = 1 → 0 ≤ left ∧ left ≤ 65536 → (stK A (Ko A d) r left).2.2 = 0 → left - (stK A (Ko A d) r left).2.1 + (1 + r.words + r.ptrs) ≤ L → L ≤ 65536 → (d : Int) + 1 ≤ D → D ≤ 1000 → d + 3 ≤ K → Ya K ⟨L⟩ r D = some ((stK A (Ko A d) r left).1, 0, ⟨L - (left - (stK A (Ko A d) r left).2.1 + (1 + r.words + r.ptrs))⟩)) ∧
    (∀ r (left L D : Int), OKr A r → r.kind = 10 → Z3 r = 0 → 1 ≤ L → L ≤ 65536 → 0 ≤ D → D ≤ 1000 → 1 ≤ K → Ya K ⟨L⟩ r D = some ((Zfh A r left).1, 0, ⟨L - 1⟩))
  | 0 => ⟨fun d r left L D _ _ _ _ _ _ _ h => by omega, fun d r left L D _ _ _ _ _ _ _ _ h => by omega, fun r left L D _ _ _ _ _ _ _ h => by omega⟩
  | K + 1 => by
    obtain ⟨i1, i2, i3⟩ := Zyp hw K
    refine ⟨fun d r left L D hr hl hq hL hL2 hdD hD hK h10 => ?_, fun d r left L D hr k1 hl hq hL hL2 hdD hD hK => ?_, fun r left L D hr k10 hk0 hL hL2 hD0 hD hK => ?_⟩
    · show Yw (Ya K) ⟨L⟩ r D = _
      have hwt := Zv1 hw hr
      have hkd := Zzy hr
      have hkn := Zds hr
      have hwu := Z1a hr
      rw [Ziy] at hq hL ⊢
      unfold Zdu at hq hL ⊢
      by_cases k0 : r.kind = 0
      · rw [if_pos k0] at hq hL ⊢
        have hz : Z3 r = 0 := by
          cases hr with
          | z => rfl
          | st => simp at k0
          | li k s a n hk => simp only at k0; omega
          | co => simp at k0
          | at_ => simp at k0
        have huz : uwR r = 0 := by unfold uwR; rw [if_pos k0]
        have := Znf hw (f1 := Ya K) (f := bad) Zkf hr (X := 0) (D := D) (left := left) (L := L) (by omega) ⟨by omega, hD⟩ (fun q => by omega) hl (by rw [hz]; rfl) (by rw [hz, huz]; simp only [show ((0 : Int).toNat) = 0 from rfl, Ym]; simp only at hL; omega) hL2 (fun _ i l L hi => by rw [hz] at hi; simp at hi)
        rw [this, hz, huz]
        simp only [show ((0 : Int).toNat) = 0 from rfl, Ym]
        congr 4
        omega
      rw [if_neg k0] at hq hL ⊢
      by_cases hb : (d : Int) < lvR r ∨ left < wtR r
      · rw [if_pos hb] at hq; simp at hq
      rw [if_neg hb] at hq hL ⊢
      simp only at hq hL ⊢
      have hlv : 1 ≤ (d : Int) := by
        have : 1 ≤ lvR r := by unfold lvR; rw [if_neg k0]; split <;> omega
        omega
      have hlf : Lf A (Gd A (Qe A 1 d) (Qe A 2 d) r) := Zp3 (Zir hw 1 d) (Zir hw 2 d) r
      obtain ⟨X, hXe⟩ : ∃ X, (if r.kind = 9 then 1 + r.words + r.ptrs else if r.kind = 1 ∨ r.kind = 8 then 0 else if r.kind = 0 then 0 else 1) = X := ⟨_, rfl⟩
      rw [hXe] at hwu
      have hX0 : 0 ≤ X := by
        rw [← hXe]
        cases hr with
        | z => simp [r0]
        | st => simp
        | li k s a n hk => simp only; repeat' split
                           all_goals omega
        | co s a d p n hd hp => simp; omega
        | at_ => simp
      have hkey := Znf hw (f1 := Ya K) hlf hr hX0 (D := D) (left := left - wtR r) (L := L) ⟨by omega, hD⟩ (fun _ => by omega) ⟨by omega, by omega⟩ hq (by omega) hL2 (fun hD1 i l L hi he hl hq2 hL hL2 => by
        by_cases k9 : r.kind = 9
        · have hkf : Gd A (Qe A 1 d) (Qe A 2 d) r = stK A (Qe A 2 d) := by unfold Gd; rw [if_pos k9]
          have hkc : Z3 r = r.count := by unfold Z3; rw [if_neg (by omega)]
          have hd2 : 2 ≤ d := by
            have : lvR r = 2 := by unfold lvR; rw [if_neg k0, if_pos ⟨k9, by omega⟩]
            omega
          have hm2 : Qe A 2 d = Ko A (d - 2) := by unfold Qe; rw [if_pos hd2]
          rw [hkf, hm2] at hq2 hL ⊢
          obtain ⟨w1, w2⟩ := Zsi (A := A) k9 (i := (i : Int)) ⟨by omega, by omega⟩
          have hX : X = 1 + (Yh A r i).1.words + (Yh A r i).1.ptrs := by rw [← hXe, if_pos k9, w1, w2]
          rw [hX] at hL ⊢
          exact i2 (d - 2) _ l L (D - 1) (Qu hr i) (Zf0 k9 ⟨by omega, by omega⟩) hl hq2 hL hL2 (by omega) (by omega) (by omega)
        by_cases k18 : r.kind = 1 ∨ r.kind = 8
        · have hkf : Gd A (Qe A 1 d) (Qe A 2 d) r = Qe A 1 d := by unfold Gd; rw [if_neg k9, if_pos k18]
          have hm1 : Qe A 1 d = Ko A (d - 1) := by unfold Qe; rw [if_pos (by omega)]
          have hX : X = 0 := by rw [← hXe, if_neg k9, if_pos k18]
          rw [hkf, hm1, hX, Int.add_zero] at hL ⊢
          rw [hkf, hm1] at hq2
          have hk10 : (Yh A r i).1.kind ≠ 10 := by
            unfold Yh
            rw [if_neg (by omega)]
            have hat : ∀ s a, (atR A s a).1.kind ≠ 10 := fun s a => by
              unfold atR
              rcases Zdn A.segments s a with h | ⟨h1, hp, hk, hi⟩
              · rw [if_pos h]; simp [r0]
              rw [if_neg (by omega)]
              have hc := hp.c
              split
              · simp
              split
              · simp only; split <;> simp [r0]
              simp only; omega
            rcases k18 with k | k
            · rw [if_pos k]; exact hat _ _
            rw [if_neg (by omega), if_pos k]; exact hat _ _
          exact i1 (d - 1) _ l L (D - 1) (Qu hr i) hl hq2 hL hL2 (by omega) (by omega) (by omega) hk10
        have hkf : Gd A (Qe A 1 d) (Qe A 2 d) r = Zfh A := by unfold Gd; rw [if_neg k9, if_neg k18]
        have hX : X = 1 := by rw [← hXe, if_neg k9, if_neg k18, if_neg k0]
        rw [hkf, hX] at hL ⊢
        obtain ⟨a1, a2⟩ := Zwk (A := A) (r := r) (i := (i : Int)) (by omega) ⟨by omega, by omega⟩
        have hz : l - (Zfh A (Yh A r i).1 l).2.1 + 1 = 1 := by simp only [Zfh]; omega
        rw [hz] at hL ⊢
        exact i3 _ l L (D - 1) (Qu hr i) a1 a2 hL hL2 (by omega) (by omega) (by omega))
      rw [hkey]
      congr 4
      omega
    · show Yw (Ya K) ⟨L⟩ r D = _
      have hkn : Z3 r = r.ptrs := by unfold Z3; rw [if_pos k1]
      have hu : uwR r = 1 + r.words + r.ptrs := by unfold uwR; rw [if_neg (by omega), if_pos k1]
      unfold stK at hq hL ⊢
      simp only at hq hL ⊢
      rw [← hkn] at hq hL ⊢
      have hkey := Znf hw (f1 := Ya K) (Zcz hw d) hr (X := 0) (D := D) (left := left) (L := L) (by omega) ⟨by omega, hD⟩ (fun _ => by omega) hl hq (by rw [hu]; omega) hL2 (fun hD1 i l L hi he hl hq2 hL hL2 => by
        rw [Int.add_zero] at hL ⊢
        have hk10 : (Yh A r i).1.kind ≠ 10 := by
          unfold Yh
          rw [if_neg (by omega), if_pos k1]
          unfold atR
          rcases Zdn A.segments r.segment (r.at_ + r.words + i) with h | ⟨h1, hp, hk, hi⟩
          · rw [if_pos h]; simp [r0]
          rw [if_neg (by omega)]
          have hc := hp.c
          split
          · simp
          split
          · simp only; split <;> simp [r0]
          simp only; omega
        exact i1 d _ l L (D - 1) (Qu hr i) hl hq2 hL hL2 (by omega) (by omega) (by omega) hk10)
      rw [hkey, hu, k1]
      congr 4
      omega
    show Yw (Ya K) ⟨L⟩ r D = _
    have hu : uwR r = 1 := by unfold uwR; rw [if_neg (by omega), if_neg (by omega), if_neg (by omega)]
    have hkey := Znf hw (f1 := Ya K) (f := bad) Zkf hr (X := 0) (D := D) (left := 0) (L := L) (by omega) ⟨hD0, hD⟩ (fun q => by omega) (by omega) (by rw [hk0]; rfl) (by rw [hk0, hu]; simp only [show ((0 : Int).toNat) = 0 from rfl, Ym]; omega) hL2 (fun _ i l L hi => by rw [hk0] at hi; simp at hi)
    rw [hkey, hk0, hu]
    simp only [show ((0 : Int).toNat) = 0 from rfl, Ym, Zfh]
    congr 4
end
section
variable {A : Zm}
theorem Zxb (s a : Int) : (atR A s a).1.kind ≠ 10 := by
  unfold atR
  rcases Zdn A.segments s a with h | ⟨h1, hp, hk, hi⟩
  · rw [if_pos h]; simp [r0]
  rw [if_neg (by omega)]
  have hc := hp.c
  split
  · simp
  split
  · simp only; split <;> simp [r0]
  simp only; omega
theorem Zs7 (hw : WS A.segments) {d : Nat} (hd : d ≤ 64) {r : Zd} (hr : OKr A r) (h10 : r.kind ≠ 10) {left : Int} (hl : 0 ≤ left ∧ left ≤ 65536) (hq : (Ko A d r left).2.2 = 0) : Vj r = some ((Ko A d r left).1, 0) := by
  have hb := Zcz hw d r left hr hl.1 hq
  have h : Vk ⟨65536⟩ r 64 = some ((Ko A d r left).1, 0, ⟨65536 - (left - (Ko A d r left).2.1)⟩) :=
    Zn4 (d + 2) fun k hk => (Zyp hw k).1 d r left 65536 64 hr hl hq (by omega) (by omega) (by omega) (by omega) hk h10
  unfold Vj
  rw [h, Option.bind_some]
theorem Zrk (x : Z0) : ((Zhm A x).2.2 ≠ 0 ∧ (Zhm A x).1 = ⟨0, [], []⟩ ∧ (Zth A x).2 = (Zhm A x).2.2) ∨ ((Zhm A x).2.2 = 0 ∧ (Zth A x).2 = 0 ∧ (atR A 0 0).2 = 0 ∧ (Ko A (Q2 x).Depth.toNat (atR A 0 0).1 (Q2 x).Weight).2.2 = 0 ∧ (Zhm A x).1 = (Ko A (Q2 x).Depth.toNat (atR A 0 0).1 (Q2 x).Weight).1) := by
  have hc : (Zth A x).2 = (Zhm A x).2.2 := by rw [← Zzr]
  unfold Zhm at hc ⊢
  by_cases h : (atR A 0 0).2 ≠ 0
  · rw [if_pos h] at hc ⊢
    exact .inl ⟨h, rfl, hc⟩
  rw [if_neg h] at hc ⊢
  simp only at hc ⊢
  by_cases hq : (Ko A (Q2 x).Depth.toNat (atR A 0 0).1 (Q2 x).Weight).2.2 ≠ 0
  · rw [if_pos hq] at hc ⊢
    exact .inl ⟨hq, rfl, hc⟩
  rw [if_neg hq] at hc ⊢
  exact .inr ⟨rfl, hc, by omega, by omega, rfl⟩
theorem Ztv (x : Z0) : (Q2 x).Depth.toNat ≤ 64 ∧ 0 ≤ (Q2 x).Weight ∧ (Q2 x).Weight ≤ 65536 := by
  have hd : 0 ≤ (Q2 x).Depth ∧ (Q2 x).Depth ≤ 64 := Zdl _ _ (by decide)
  have hW : 0 ≤ (Q2 x).Weight ∧ (Q2 x).Weight ≤ 65536 := Zdl _ _ (by decide)
  omega
theorem Ztw (hw : WS A.segments) (x : Z0) : Vi (some A) x = some (nrm (Zhm A x).1, (Zhm A x).2.2) := by
  have hl := Ztv x
  unfold Vi
  rw [Zxf hw, Option.bind_some]
  rcases Zrk (A := A) x with ⟨h1, h2, h3⟩ | ⟨h1, h2, h3, h4, h5⟩
  · rw [h3, bne_iff_ne.2 h1, cond_true, h2, Zx7 rfl]
  rw [h2, h1, h5, show ((0 : Int) != 0) = false from rfl, cond_false, Zqo hw, Option.bind_some, h3, show ((0 : Int) != 0) = false from rfl, cond_false, Zs7 hw hl.1 (Zdc 0 0) (Zxb 0 0) ⟨hl.2.1, hl.2.2⟩ h4, Option.bind_some, Zy9 (Zuo hw _ _ _ (Zdc 0 0) hl.2.1 hl.2.2), Option.bind_some]
theorem Zzp (hw : WS A.segments) (x : Z0) : Bd (Zhm A x).1 := by
  have hl := Ztv x
  rcases Zrk (A := A) x with ⟨h1, h2, h3⟩ | ⟨h1, h2, h3, h4, h5⟩
  · rw [h2]; exact .mk _ (by simp) (by simp) (by simp) (by simp)
  rw [h5]; exact Zuo hw _ _ _ (Zdc 0 0) hl.2.1 hl.2.2
end
def a11 : Zm := ⟨[[4294967296, 0]], 0, 0⟩
theorem Zy3 : fol a11.segments 0 0 = (⟨⟨1, 0, 1, 0, 0, 0, 0, false⟩, 0, 1⟩, 0) := rfl
theorem Zz2 : atR a11 0 0 = (⟨some a11, 1, 0, 1, 1, 0, 0, 0, 0⟩, 0) := by
  unfold atR
  rw [Zy3]
  rfl
theorem Zzq : Zhm a11 ⟨1, 2, 0, 0⟩ = (⟨1, [0], []⟩, 2, 0) := by
  unfold Zhm
  rw [Zz2]
  rfl
theorem Zo6 : Qs = some true := by
  have hw : WS a11.segments := Z0a _ (by simp) (by simp)
  unfold Qs
  have ho : Ge ([([4294967296, 0] : List Int)] : List (List Int)) = some (some a11) := Zw6 hw
  have hn : nrm ⟨1, [0], []⟩ = ⟨1, [], []⟩ := by rw [Ztx rfl]; rfl
  rw [ho, Option.bind_some, Ztw hw, Zzq, Option.bind_some]
  simp only
  rw [hn]
  rfl
theorem Zom {l : List (List Int)} (hw : WS l) (x : Z0) : Qp l x = some true := by
  obtain ⟨w, hx⟩ := Zxx x
  unfold Qp
  rw [hx, Option.bind_some]
  generalize (⟨x.Depth, w, x.MaxD, x.MaxOut⟩ : Z0) = y
  have hl := Ztv y
  have hb := Zzp (A := ⟨l, 0, 0⟩) hw y
  rw [show Qm l y = _ from Zw0 (A := ⟨l, 0, 0⟩) hw y, Option.bind_some]
  rcases Zrk (A := ⟨l, 0, 0⟩) y with ⟨h1, h2, h3⟩ | ⟨h1, h2, h3, h4, h5⟩
  · rw [bne_iff_ne.2 h1, cond_true, Zo6]; rfl
  rw [h1, show ((0 : Int) != 0) = false from rfl, cond_false, Zw6 hw, Option.bind_some, Zqo (A := ⟨l, 0, 0⟩) hw, Option.bind_some, Zs7 (A := ⟨l, 0, 0⟩) hw hl.1 (Zdc 0 0) (Zxb 0 0) ⟨hl.2.1, hl.2.2⟩ h4, Option.bind_some, h3]
  rw [h5] at hb ⊢
  simp only [beq_self_eq_true, cond_true]
  rw [Zzg hb hb, eqT_iff.2 rfl, Option.bind_some, cond_true, Zo6]
  rfl
end Go.Proofs.Ytmlhokaflhlhbaa
