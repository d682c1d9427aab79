/- Plain facts on this seat's mirrors (part IP1); each theorem bears its own conditions. -/
import Derived.Test.YtgffgbdnbjbmoaaID
import Derived.Test.YtgffgbdnbjbmoaaIE
import Derived.IntWalk
namespace Go.Proofs.Ytgffgbdnbjbmoaa
open Go.RowKit
set_option linter.unusedVariables false
set_option linter.unusedSimpArgs false
theorem Vv {a b : Int} (h : ¬ a = b) : (a == b) = false := by simp [h]
def Znn (w : Nat) : Int := if w / 4 % 1073741824 < 536870912 then ((w / 4 % 1073741824 : Nat) : Int) else ((w / 4 % 1073741824 : Nat) : Int) - 1073741824
def Ztt (w : Nat) : Z6 :=
 if w = 0 then ⟨0, 0, 0, 0, 0, 0, 0, false⟩
 else if w % 4 = 0 then ⟨1, Znn w, (w / 4294967296 % 65536 : Nat), (w / 281474976710656 % 65536 : Nat), 0, 0, 0, false⟩
 else if w % 4 = 1 then ⟨2, Znn w, 0, 0, (w / 4294967296 % 8 : Nat), (w / 34359738368 % 536870912 : Nat), 0, false⟩
 else if w % 4 = 2 then ⟨3, (w / 8 % 536870912 : Nat), 0, 0, 0, 0, (w / 4294967296 % 4294967296 : Nat), decide (w / 4 % 2 = 1)⟩
 else ⟨4, 0, 0, 0, 0, 0, 0, false⟩
theorem Zp0 (b : Nat) : ((2 : Int) ^ b) = ((2 ^ b : Nat) : Int) := by simp
theorem Zgv (w f b : Nat) (hw : w < 18446744073709551616) (hf : f < 64) (hb : b ≤ 40) : Xr w f b = some ((w / 2 ^ f % 2 ^ b : Nat) : Int) := by
 unfold Xr X9
 rw [if_pos (Int.natCast_nonneg _), if_pos (Int.natCast_nonneg _)]
 simp only [Option.bind_some, Option.some.injEq]
 have hp : (2 : Nat) ^ b ≤ 1099511627776 := by have := Nat.pow_le_pow_right (n := 2) (by decide) hb; simpa using this
 have h1 : 0 < (2 : Nat) ^ b := Nat.pow_pos (by decide)
 have e1 : (min ((f : Int).toNat) 64) = f := by omega
 have e2 : (min ((b : Int).toNat) 64) = b := by omega
 have hd : w / 2 ^ f < 18446744073709551616 := Nat.lt_of_le_of_lt (Nat.div_le_self _ _) hw
 have e3 : ((w : Int).fdiv ((2 ^ f : Nat) : Int)) = ((w / 2 ^ f : Nat) : Int) := by
  rw [Int.fdiv_eq_ediv_of_nonneg _ (Int.natCast_nonneg _), Int.natCast_ediv]
 rw [e1, e2, Zp0, Zp0, e3]
 clear e3
 generalize hq : 2 ^ b = q at *
 generalize w / 2 ^ f = x at *
 rw [Int.one_mul, IntWalk.u64_in (q : Int) (by omega), IntWalk.u64_in ((q : Int) - 1) (by omega)]
 have e4 : ((q : Int) - 1) = ((q - 1 : Nat) : Int) := by omega
 rw [e4, Zt3 _ _ hd (by omega), ← hq, Nat.and_two_pow_sub_one_eq_mod, hq]
 have : x % q < q := Nat.mod_lt _ h1
 rw [IntWalk.u64_in _ (by omega), IntWalk.i64_in _ (by omega)]
theorem Z5r (w : Nat) (hw : w < 18446744073709551616) : IntKind.i64.wrap ((IntKind.i32.wrap (IntKind.u32.wrap (w : Int))).fdiv (2 ^ min (Int.toNat 2) 32)) = Znn w := by
 have e : (2 : Int) ^ min (Int.toNat 2) 32 = 4 := by decide
 rw [e, Int.fdiv_eq_ediv_of_nonneg _ (by decide), IntKind.wrap_u32, IntKind.wrap_i32]
 unfold Znn
 rw [IntWalk.i64_in _ (by omega)]
 split <;> omega
theorem Zz9 (w : Nat) (hw : w < 18446744073709551616) : G9 w = some (Znn w) := congrArg some (Z5r w hw)
theorem Z7x (w : Nat) (hw : w < 18446744073709551616) : IntKind.u64.wrap (Ub .u64 w 3) = ((w % 4 : Nat) : Int) := by
 have := Zt3 w 3 hw (by decide)
 rw [show ((3 : Nat) : Int) = 3 from rfl] at this
 rw [this, show (3 : Nat) = 2 ^ 2 - 1 from rfl, Nat.and_two_pow_sub_one_eq_mod, IntWalk.u64_in _ (by omega)]
theorem Z7z (w : Nat) (hw : w < 18446744073709551616) : (IntKind.u64.wrap (Ub .u64 ((w : Int).fdiv (2 ^ min (Int.toNat 2) 64)) 1) == 1) = decide (w / 4 % 2 = 1) := by
 have e1 : (2 : Int) ^ min (Int.toNat 2) 64 = 4 := by decide
 have e2 : ((w : Int).fdiv 4) = ((w / 4 : Nat) : Int) := by rw [Int.fdiv_eq_ediv_of_nonneg _ (by decide)]; rfl
 have e3 := Zt3 (w / 4) 1 (by omega) (by decide)
 rw [show ((1 : Nat) : Int) = 1 from rfl, Nat.and_one_is_mod] at e3
 rw [e1, e2, e3, IntWalk.u64_in _ (by omega)]
 by_cases h : w / 4 % 2 = 1
 ·rw [h]; decide
 have : w / 4 % 2 = 0 := by omega
 rw [this]; decide
theorem Zpc (a : Nat) (b : Nat) : ((a : Int) == (b : Int)) = decide (a = b) := by
 by_cases h : a = b
 ·subst h; simp
 simp [h, Int.natCast_inj]
theorem Zy8 (w : Nat) (hw : w < 18446744073709551616) : Jt w = some (Ztt w) := by
 unfold Jt
 have f1 : Xr w 32 16 = _ := Zgv w 32 16 hw (by decide) (by decide)
 have f2 : Xr w 48 16 = _ := Zgv w 48 16 hw (by decide) (by decide)
 have f3 : Xr w 32 3 = _ := Zgv w 32 3 hw (by decide) (by decide)
 have f4 : Xr w 35 29 = _ := Zgv w 35 29 hw (by decide) (by decide)
 have f5 : Xr w 3 29 = _ := Zgv w 3 29 hw (by decide) (by decide)
 have f6 : Xr w 32 32 = _ := Zgv w 32 32 hw (by decide) (by decide)
 have c0 : ((w : Int) == 0) = _ := Zpc w 0
 have c1 : (((w % 4 : Nat) : Int) == 0) = _ := Zpc (w % 4) 0
 have c2 : (((w % 4 : Nat) : Int) == 1) = _ := Zpc (w % 4) 1
 have c3 : (((w % 4 : Nat) : Int) == 2) = _ := Zpc (w % 4) 2
 rw [Z7x w hw, Zz9 w hw, f1, f2, f3, f4, f5, f6, Z7z w hw, c0, c1, c2, c3]
 simp only [Option.bind_some]
 unfold Ztt
 by_cases h0 : w = 0
 ·simp [h0]
 by_cases h1 : w % 4 = 0
 ·simp [h0, h1]
 by_cases h2 : w % 4 = 1
 ·simp [h0, h2]
 by_cases h3 : w % 4 = 2
 ·simp [h0, h3]
 simp [h0, h1, h2, h3]
theorem Zz1 (x i : Nat) : x % 2 ^ (i + 1) = x % 2 ^ i + 2 ^ i * (x / 2 ^ i % 2) := Nat.mod_pow_succ
theorem Zae (w f b : Nat) (hw : w < 18446744073709551616) (hf : f < 64) (hb : b ≤ 40) : Zy w f b = some ((w / 2 ^ f % 2 ^ b : Nat) : Int) := by
 unfold Zy
 have l0 : Zx (Ku f) ((w : Int), 0) = some ((w / 2 ^ f : Nat) : Int) := by
  refine Zm0 (fun s => ∃ i : Nat, i ≤ f ∧ s = (((w / 2 ^ i : Nat) : Int), (i : Int))) (fun s => f - s.2.toNat) ?_ _ ⟨0, by omega, by simp⟩
  rintro s ⟨i, hi, rfl⟩
  unfold Ku
  have hs : w / 2 ^ (i + 1) = w / 2 ^ i / 2 := by rw [Nat.pow_succ, Nat.div_div_eq_div_mul]
  have hd : w / 2 ^ i < 18446744073709551616 := Nat.lt_of_le_of_lt (Nat.div_le_self _ _) hw
  by_cases h : i < f
  ·left
   refine ⟨(((w / 2 ^ (i + 1) : Nat) : Int), ((i + 1 : Nat) : Int)), ?_, ⟨i + 1, by omega, rfl⟩, by simp only; omega⟩
   have : decide ((i : Int) < f) = true := by simp; omega
   simp only [this, cond_true]
   rw [hs]
   generalize w / 2 ^ i = y at *
   rw [Int.tdiv_eq_ediv_of_nonneg (by omega), Z5w (by omega), Zrr (by omega)]
   rfl
  right
  have : decide ((i : Int) < f) = false := by simp; omega
  obtain rfl : i = f := by omega
  simp only [this, cond_false]
 rw [l0]
 simp only [Option.bind_some]
 generalize hx : w / 2 ^ f = x at *
 have hd : x < 18446744073709551616 := by rw [← hx]; exact Nat.lt_of_le_of_lt (Nat.div_le_self _ _) hw
 have l1 : Zx (Kv b) ((x : Int), 0, 1, 0) = some ((x % 2 ^ b : Nat) : Int) := by
  refine Zm0 (fun s => ∃ j : Nat, j ≤ b ∧ s = (((x / 2 ^ j : Nat) : Int), ((x % 2 ^ j : Nat) : Int), ((2 ^ j : Nat) : Int), (j : Int))) (fun s => b - s.2.2.2.toNat) ?_ _ ⟨0, by omega, by simp [Nat.mod_one]⟩
  rintro s ⟨j, hj, rfl⟩
  unfold Kv
  have hdj : x / 2 ^ j < 18446744073709551616 := Nat.lt_of_le_of_lt (Nat.div_le_self _ _) hd
  have hpj : (2 : Nat) ^ j ≤ 1099511627776 := by have := Nat.pow_le_pow_right (n := 2) (by decide) (Nat.le_trans hj hb); simpa using this
  have h0 : 0 < (2 : Nat) ^ j := Nat.pow_pos (by decide)
  have hm := Zz1 x j
  have hs2 : x / 2 ^ (j + 1) = x / 2 ^ j / 2 := by rw [Nat.pow_succ, Nat.div_div_eq_div_mul]
  have hp2 : (2 : Nat) ^ (j + 1) = 2 ^ j * 2 := Nat.pow_succ ..
  have hlt : x % 2 ^ j < 2 ^ j := Nat.mod_lt _ h0
  by_cases h : j < b
  ·left
   refine ⟨(((x / 2 ^ (j + 1) : Nat) : Int), ((x % 2 ^ (j + 1) : Nat) : Int), ((2 ^ (j + 1) : Nat) : Int), ((j + 1 : Nat) : Int)), ?_, ⟨j + 1, by omega, rfl⟩, by simp only; omega⟩
   have : decide ((j : Int) < b) = true := by simp; omega
   simp only [this, cond_true]
   rw [hs2, hm, hp2]
   clear hs2 hm hp2
   generalize x / 2 ^ j = y at *
   generalize x % 2 ^ j = r at *
   generalize 2 ^ j = p at *
   rw [Int.tmod_eq_emod_of_nonneg (by omega), Int.tdiv_eq_ediv_of_nonneg (by omega)]
   by_cases hb1 : y % 2 = 1
   ·have e : (((y : Int) % 2) == 1) = true := by simp; omega
    rw [e, cond_true, hb1, Zrr (by omega)]
    simp only [Option.bind_some]
    rw [Z5w (by omega), Zrr (by omega), Zrr (by omega)]
    simp only [Option.some.injEq, Sum.inl.injEq, Prod.mk.injEq]
    omega
   have e : (((y : Int) % 2) == 1) = false := by simp; omega
   have hb0 : y % 2 = 0 := by omega
   rw [e, cond_false, hb0]
   simp only [Option.bind_some]
   rw [Z5w (by omega), Zrr (by omega), Zrr (by omega)]
   simp only [Option.some.injEq, Sum.inl.injEq, Prod.mk.injEq]
   omega
  right
  have : decide ((j : Int) < b) = false := by simp; omega
  obtain rfl : j = b := by omega
  simp only [this, cond_false]
 rw [l1]
 simp only [Option.bind_some]
theorem Zyn (w : Nat) (hw : w < 18446744073709551616) : Y1 w = some (Ztt w) := by
 unfold Y1
 have f0 : Zy w 2 30 = _ := Zae w 2 30 hw (by decide) (by decide)
 have f00 : Zy w 0 2 = _ := Zae w 0 2 hw (by decide) (by decide)
 have f1 : Zy w 32 16 = _ := Zae w 32 16 hw (by decide) (by decide)
 have f2 : Zy w 48 16 = _ := Zae w 48 16 hw (by decide) (by decide)
 have f3 : Zy w 32 3 = _ := Zae w 32 3 hw (by decide) (by decide)
 have f4 : Zy w 35 29 = _ := Zae w 35 29 hw (by decide) (by decide)
 have f5 : Zy w 3 29 = _ := Zae w 3 29 hw (by decide) (by decide)
 have f6 : Zy w 32 32 = _ := Zae w 32 32 hw (by decide) (by decide)
 have f7 : Zy w 2 1 = _ := Zae w 2 1 hw (by decide) (by decide)
 have c0 : ((w : Int) == 0) = _ := Zpc w 0
 have c1 : (((w % 4 : Nat) : Int) == 0) = _ := Zpc (w % 4) 0
 have c2 : (((w % 4 : Nat) : Int) == 1) = _ := Zpc (w % 4) 1
 have c3 : (((w % 4 : Nat) : Int) == 2) = _ := Zpc (w % 4) 2
 have c4 : (((w / 4 % 2 : Nat) : Int) == 1) = _ := Zpc (w / 4 % 2) 1
 simp only [Nat.reducePow, Nat.div_one] at f0 f00 f1 f2 f3 f4 f5 f6 f7
 have ho : (cond (decide (536870912 ≤ ((w / 4 % 1073741824 : Nat) : Int))) (some (IntKind.i64.wrap (((w / 4 % 1073741824 : Nat) : Int) - 1073741824))) (some ((w / 4 % 1073741824 : Nat) : Int))) = some (Znn w) := by
  unfold Znn
  rw [Zrr (by omega)]
  by_cases h : w / 4 % 1073741824 < 536870912
  ·have : decide (536870912 ≤ ((w / 4 % 1073741824 : Nat) : Int)) = false := by simp; omega
   rw [this, if_pos h, cond_false]
  have : decide (536870912 ≤ ((w / 4 % 1073741824 : Nat) : Int)) = true := by simp; omega
  rw [this, if_neg h, cond_true]
 rw [f0]
 simp only [Option.bind_some, ho]
 rw [f00, f1, f2, f3, f4, f5, f6, f7]
 simp only [Option.bind_some]
 rw [c0, c1, c2, c3, c4]
 unfold Ztt
 by_cases h0 : w = 0
 ·simp [h0]
 by_cases h1 : w % 4 = 0
 ·simp [h0, h1]
 by_cases h2 : w % 4 = 1
 ·simp [h0, h2]
 by_cases h3 : w % 4 = 2
 ·simp [h0, h3]
 simp [h0, h1, h2, h3]
theorem Z1m (x : Nat) (h : x < 18446744073709551616) : IntKind.u64.wrap (x : Int) = (x : Int) := IntWalk.u64_in _ (by omega)
theorem Y3 {x : Int} (h1 : -9223372036854775808 ≤ x) (h2 : x ≤ 9223372036854775807) : IntKind.i64.wrap x = x := Zrr ⟨h1, h2⟩
theorem Zid {i n : Nat} (h : i < n) : decide ((i : Int) < (n : Int)) = true := by rw [decide_eq_true_eq]; omega
theorem Zjs {n : Nat} : decide ((n : Int) < (n : Int)) = false := by rw [decide_eq_false_iff_not]; omega
structure WS (l : List (List Int)) : Prop where
 n : l.length * 24 ≤ 140737488355328
 s : ∀ x ∈ l, x.length * 8 ≤ 140737488355328
 w : ∀ x ∈ l, ∀ w ∈ x, 0 ≤ w ∧ w < 18446744073709551616
theorem Zoy {l : List Int} (h : l.length * 8 ≤ 140737488355328) : Y5 l = some l := by
 unfold Y5
 rw [Gu (by simp only [List.length_nil]; omega) (by simp only [List.length_nil]; omega), List.nil_append]
theorem Z0v {α : Type} (l : List α) (n : Nat) (v : α) : Zdl l (n : Int) v = l.set n v := by unfold Zdl; rw [Int.toNat_natCast]
theorem Zj4 {l : List (List Int)} (h : WS l) : ∀ (r : List (List Int)) (i : Nat), l.drop i = r → i ≤ l.length →
  Zx (Kf l) ((i : Int), l.take i ++ List.replicate r.length []) = some l
 | [], i, hd, hi => by
  have hl : i = l.length := by
   have := congrArg List.length hd
   rw [List.length_drop, List.length_nil] at this; omega
  subst hl
  refine Yw ?_
  unfold Kf
  simp only
  rw [Zjs, cond_false]
  simp
 | x :: r, i, hd, hi => by
  have hi' : i < l.length := by
   rcases Nat.lt_or_ge i l.length with q | q
   ·exact q
   rw [List.drop_eq_nil_of_le q] at hd; cases hd
  have hx : l[i]? = some x := by
   have := congrArg (·[0]?) hd
   simpa using this
  have hm := List.mem_of_getElem? hx
  have hd' : l.drop (i + 1) = r := by
   have := congrArg (List.drop 1) hd
   rw [List.drop_drop] at this
   simpa [Nat.add_comm] using this
  have hn := h.n
  have hlen : (l.take i).length = i := by rw [List.length_take]; omega
  have hg : Ql (l.take i ++ List.replicate (r.length + 1) []) (i : Int) = some ([] : List Int) := Qp (by rw [List.getElem?_append_right (by omega), hlen, Nat.sub_self]; rfl)
  have hstep : Kf l ((i : Int), l.take i ++ List.replicate (r.length + 1) []) = some (.inl (((i + 1 : Nat) : Int), l.take (i + 1) ++ List.replicate r.length [])) := by
   unfold Kf
   simp only
   rw [Zid hi', cond_true, Qp hx, Option.bind_some, Zoy (h.s x hm), Option.bind_some, hg, Option.bind_some, Y3 (by omega) (by omega), Z0v, List.set_append_right _ _ (by omega), hlen, Nat.sub_self, List.replicate_succ, List.set_cons_zero, List.take_add_one, hx, List.append_assoc]
   rfl
  rw [List.length_cons, Xf hstep]
  exact Zj4 h r (i + 1) hd' (by omega)
theorem Zxw {l : List (List Int)} (h : WS l) : U2 l = some l := by
 have hn := h.n
 have := Zj4 h l 0 rfl (Nat.zero_le _)
 rw [List.take_zero, List.nil_append, show (((0 : Nat) : Int)) = 0 from rfl] at this
 unfold U2
 rw [Zr5 (by omega) (by omega) (by omega), Option.bind_some, Int.toNat_natCast, this]
 rfl
theorem Z5a {l : List (List Int)} (h : WS l) : Zdd l = some (some ⟨l, 0, 0⟩) := by
 unfold Zdd
 rw [Zxw h, Option.bind_some]
def seg (l : List (List Int)) (s : Int) : List Int := (l[s.toNat]?).getD []
def inB (l : List (List Int)) (s a n : Int) : Bool := decide (0 ≤ s) && (decide (s < l.length) && (decide (0 ≤ a) && (decide (0 ≤ n) && decide (a + n ≤ (seg l s).length))))
theorem inB_iff {l : List (List Int)} {s a n : Int} : inB l s a n = true ↔ 0 ≤ s ∧ s < l.length ∧ 0 ≤ a ∧ 0 ≤ n ∧ a + n ≤ (seg l s).length := by
 unfold inB
 simp only [Bool.and_eq_true, decide_eq_true_eq]
theorem Zah {l : List (List Int)} {s : Int} (h0 : 0 ≤ s) (h1 : s < l.length) : Ql l s = some (seg l s) ∧ seg l s ∈ l := by
 have hs : s.toNat < l.length := by omega
 unfold seg Ql
 rw [if_pos h0, List.getElem?_eq_getElem hs]
 exact ⟨rfl, List.getElem_mem hs⟩
def wd (l : List (List Int)) (s a : Int) : Int := ((seg l s)[a.toNat]?).getD 0
theorem Zj3 {l : List (List Int)} {s a : Int} (h : inB l s a 1 = true) : Ql (seg l s) a = some (wd l s a) ∧ wd l s a ∈ seg l s := by
 rw [inB_iff] at h
 have ha : a.toNat < (seg l s).length := by omega
 unfold wd Ql
 rw [if_pos h.2.2.1, List.getElem?_eq_getElem ha]
 exact ⟨rfl, List.getElem_mem ha⟩
theorem Zfq {l : List (List Int)} (hw : WS l) (s a : Int) : 0 ≤ wd l s a ∧ wd l s a < 18446744073709551616 := by
 unfold wd
 cases h : (seg l s)[a.toNat]? with
 | none => simp
 | some w =>
  have hm := List.mem_of_getElem? h
  unfold seg at hm
  cases hs : l[s.toNat]? with
  | none => rw [hs] at hm; cases hm
  | some x => rw [hs] at hm; exact hw.w x (List.mem_of_getElem? hs) w hm
theorem Zfl {l : List (List Int)} (hw : WS l) (s : Int) : (seg l s).length * 8 ≤ 140737488355328 := by
 unfold seg
 cases hs : l[s.toNat]? with
 | none => simp
 | some x => exact hw.s x (List.mem_of_getElem? hs)
section
variable {A : Zf}
theorem Z13 : V9 (some A) = some (A.segments.length : Int) := rfl
theorem Zn3 (s : Int) : Jf (some A) s = some (decide (0 ≤ s) && decide (s < A.segments.length)) := by
 unfold Jf
 rw [Z13, Option.bind_some]
 cases decide (0 ≤ s) <;> rfl
theorem Zy1 (s : Int) : Jp (some A) s = some (if 0 ≤ s ∧ s < A.segments.length then ((seg A.segments s).length : Int) else 0) := by
 unfold Jp
 rw [Zn3, Option.bind_some]
 by_cases h : 0 ≤ s ∧ s < A.segments.length
 ·rw [decide_eq_true h.1, decide_eq_true h.2, if_pos h, Option.bind_some, (Zah h.1 h.2).1]
  rfl
 rw [if_neg h, show (decide (0 ≤ s) && decide (s < A.segments.length)) = false from by rw [Bool.and_eq_false_iff, decide_eq_false_iff_not, decide_eq_false_iff_not]; omega]
 rfl
theorem Zpa (hw : WS A.segments) (s a n : Int) : Ja (some A) s a n = some (inB A.segments s a n) := by
 have hl := Zfl hw s
 unfold Ja inB
 rw [Zn3, Zy1, Option.bind_some]
 by_cases h : 0 ≤ s ∧ s < A.segments.length
 ·rw [if_pos h, decide_eq_true h.1, decide_eq_true h.2]
  by_cases h2 : 0 ≤ a
  ·by_cases h3 : 0 ≤ n
   ·by_cases h4 : n ≤ ((seg A.segments s).length : Int)
    ·simp only [decide_eq_true h2, decide_eq_true h3, Bool.and_true, Bool.true_and, cond_true, Option.bind_some, decide_eq_true h4]
     rw [Y3 (by omega) (by omega)]
     congr 1
     rw [Bool.eq_iff_iff, decide_eq_true_eq, decide_eq_true_eq]
     omega
    simp only [decide_eq_true h2, decide_eq_true h3, Bool.and_true, Bool.true_and, cond_true, cond_false, Option.bind_some, decide_eq_false h4]
    rw [show decide (a + n ≤ ((seg A.segments s).length : Int)) = false from by rw [decide_eq_false_iff_not]; omega]
   rw [decide_eq_true h2, decide_eq_false h3]; rfl
  rw [decide_eq_false h2]; rfl
 rw [show (decide (0 ≤ s) && decide (s < A.segments.length)) = false from by rw [Bool.and_eq_false_iff, decide_eq_false_iff_not, decide_eq_false_iff_not]; omega]
 rw [← Bool.and_assoc, show (decide (0 ≤ s) && decide (s < A.segments.length)) = false from by rw [Bool.and_eq_false_iff, decide_eq_false_iff_not, decide_eq_false_iff_not]; omega]
 rfl
theorem Zio (hw : WS A.segments) (s a : Int) : Xw (some A) s a = some (if inB A.segments s a 1 = true then (wd A.segments s a, true) else (0, false)) := by
 unfold Xw
 rw [Zpa hw, Option.bind_some]
 cases h : inB A.segments s a 1 with
 | false => rfl
 | true =>
  have h' := inB_iff.1 h
  rw [Bool.not_true, cond_false, Option.bind_some, (Zah h'.1 h'.2.1).1, Option.bind_some, (Zj3 h).1]
  rfl
theorem Zy0 (hw : WS A.segments) (s a n : Int) : Kl (some A) s a n = some (if inB A.segments s a n = true then (((seg A.segments s).drop a.toNat).take n.toNat, true) else ([], false)) := by
 have hl := Zfl hw s
 unfold Kl
 rw [Zpa hw, Option.bind_some]
 cases h : inB A.segments s a n with
 | false => rfl
 | true =>
  have h' := inB_iff.1 h
  rw [Bool.not_true, cond_false, Option.bind_some, (Zah h'.1 h'.2.1).1, Option.bind_some, Y3 (by omega) (by omega), Zlf (by omega) (by omega) (by omega), Option.bind_some, show a + n - a = n by omega, Zoy (by rw [List.length_take, List.length_drop]; omega)]
  rfl
end
def dc (w : Int) : Z6 := Ztt w.toNat
theorem Zq5 {w : Int} (h : 0 ≤ w ∧ w < 18446744073709551616) : Jt w = some (dc w) := by
 have := Zy8 w.toNat (by omega)
 rwa [show ((w.toNat : Nat) : Int) = w by omega] at this
theorem Zmt {w : Int} (h : 0 ≤ w ∧ w < 18446744073709551616) : Y1 w = some (dc w) := by
 have := Zyn w.toNat (by omega)
 rwa [show ((w.toNat : Nat) : Int) = w by omega] at this
structure PB (p : Z6) : Prop where
 k : p.Kind = 0 ∨ p.Kind = 1 ∨ p.Kind = 2 ∨ p.Kind = 3 ∨ p.Kind = 4
 o : -536870912 ≤ p.Off ∧ p.Off < 536870912
 d : 0 ≤ p.Data ∧ p.Data < 65536
 q : 0 ≤ p.Ptrs ∧ p.Ptrs < 65536
 c : 0 ≤ p.Code ∧ p.Code < 8
 n : 0 ≤ p.Count ∧ p.Count < 536870912
 s : 0 ≤ p.Segment ∧ p.Segment < 4294967296
 f : p.Kind = 3 → 0 ≤ p.Off
 z : p.Kind = 0 ∨ p.Kind = 4 → p.Off = 0
theorem Z2m (w : Nat) : -536870912 ≤ Znn w ∧ Znn w < 536870912 := by
 unfold Znn
 split <;> omega
theorem Zfy (w : Int) : PB (dc w) := by
 have ho := Z2m w.toNat
 unfold dc Ztt
 split
 ·exact ⟨.inl rfl, by simp, by simp, by simp, by simp, by simp, by simp, by simp, by simp⟩
 split
 ·exact ⟨.inr (.inl rfl), ho, by simp only; omega, by simp only; omega, by simp, by simp, by simp, by simp, by simp⟩
 split
 ·exact ⟨.inr (.inr (.inl rfl)), ho, by simp, by simp, by simp only; omega, by simp only; omega, by simp, by simp, by simp⟩
 split
 ·exact ⟨.inr (.inr (.inr (.inl rfl))), by simp only; omega, by simp, by simp, by simp, by simp, by simp only; omega, fun _ => by simp only; omega, by simp⟩
 exact ⟨.inr (.inr (.inr (.inr rfl))), by simp, by simp, by simp, by simp, by simp, by simp, by simp, by simp⟩
def wdt (c : Int) : Int := if c = 0 then 0 else if c = 1 then 1 else if c = 2 then 8 else if c = 3 then 16 else if c = 4 then 32 else 64
def pw (p : Z6) : Int := if p.Kind = 1 then p.Data + p.Ptrs else if p.Code = 7 then p.Count + 1 else (p.Count * wdt p.Code + 63) / 64
theorem c7 {c : Int} (h : 0 ≤ c ∧ c < 8) (h7 : ¬ c = 7) : c = 0 ∨ c = 1 ∨ c = 2 ∨ c = 3 ∨ c = 4 ∨ c = 5 ∨ c = 6 := by omega
theorem Z1p {c : Int} (h : 0 ≤ c ∧ c < 8) (h7 : ¬ c = 7) : Zbn c = some (wdt c) := by
 unfold Zbn
 rcases c7 h h7 with rfl | rfl | rfl | rfl | rfl | rfl | rfl <;> rfl
theorem Z6e {p : Z6} (h : PB p) : 0 ≤ pw p ∧ pw p ≤ 1073741824 := by
 have := h.d; have := h.q; have hn := h.n
 unfold pw
 split
 ·omega
 split
 ·omega
 rename_i h7
 rcases c7 h.c h7 with q | q | q | q | q | q | q <;> rw [q] <;> unfold wdt <;> simp <;> omega
theorem Z1y {p : Z6} (h : PB p) : V2 p = some (if p.Kind = 1 ∨ p.Kind = 2 then (pw p, true) else (0, false)) := by
 have hd := h.d; have hp := h.q; have hn := h.n
 unfold V2 pw
 by_cases k1 : p.Kind = 1
 ·rw [show (p.Kind == 1) = true from by rw [k1]; rfl, cond_true, if_pos (.inl k1), if_pos k1, Y3 (by omega) (by omega)]
 rw [show (p.Kind == 1) = false from Vv k1, cond_false]
 by_cases k2 : p.Kind = 2
 ·rw [show (p.Kind == 2) = true from by rw [k2]; rfl, cond_true, if_pos (.inr k2), if_neg k1]
  by_cases c7' : p.Code = 7
  ·rw [show (p.Code == 7) = true from by rw [c7']; rfl, cond_true, if_pos c7', Y3 (by omega) (by omega)]
  rw [show (p.Code == 7) = false from Vv c7', cond_false, if_neg c7', decide_eq_true h.c.1, show decide (p.Code < 7) = true from by rw [decide_eq_true_eq]; have := h.c; omega, decide_eq_true hn.1, show decide (p.Count ≤ 536870911) = true from by rw [decide_eq_true_eq]; omega]
  simp only [cond_true]
  rw [Z1p h.c c7', Option.bind_some]
  have hw : 0 ≤ wdt p.Code ∧ wdt p.Code ≤ 64 := by unfold wdt; repeat' split; all_goals omega
  have h1 : 0 ≤ p.Count * wdt p.Code := Int.mul_nonneg hn.1 hw.1
  have h2 : p.Count * wdt p.Code ≤ 536870912 * 64 := Int.mul_le_mul (by omega) hw.2 hw.1 (by omega)
  rw [Y3 (x := p.Count * wdt p.Code) (by omega) (by omega), Y3 (x := p.Count * wdt p.Code + 63) (by omega) (by omega), Int.tdiv_eq_ediv_of_nonneg (by omega), Y3 (by omega) (by omega)]
 rw [show (p.Kind == 2) = false from Vv k2, if_neg (by omega)]
 rfl
theorem Zyq {p : Z6} (h : PB p) (hk : p.Kind = 1 ∨ p.Kind = 2) : Kq p = some (pw p) := by
 have hd := h.d; have hp := h.q; have hn := h.n; have hc := h.c
 unfold Kq pw
 by_cases k1 : p.Kind = 1
 ·rw [show (p.Kind == 1) = true from by rw [k1]; rfl, cond_true, if_pos k1, Y3 (by omega) (by omega)]
 have k2 : p.Kind = 2 := by omega
 rw [show (p.Kind == 1) = false from Vv k1, cond_false, show (p.Kind != 2) = false from by rw [k2]; rfl, cond_false, if_neg k1]
 by_cases c7' : p.Code = 7
 ·rw [show (p.Code == 7) = true from by rw [c7']; rfl, cond_true, if_pos c7', Y3 (by omega) (by omega)]
 rw [show (p.Code == 7) = false from Vv c7', cond_false, if_neg c7', show decide (p.Code < 0) = false from by rw [decide_eq_false_iff_not]; omega, show decide (6 < p.Code) = false from by rw [decide_eq_false_iff_not]; omega, show decide (p.Count < 0) = false from by rw [decide_eq_false_iff_not]; omega, show decide (536870912 ≤ p.Count) = false from by rw [decide_eq_false_iff_not]; omega]
 simp only [cond_false]
 have hgen : ∀ (k : Int), 0 < k → (X9 (k ≠ 0)).bind (fun _ => cond (decide (0 < Int.tmod p.Count k)) ((X9 (k ≠ 0)).bind fun _ => some (IntKind.i64.wrap (IntKind.i64.wrap (Int.tdiv p.Count k) + 1))) ((X9 (k ≠ 0)).bind fun _ => some (IntKind.i64.wrap (Int.tdiv p.Count k)))) = some (if 0 < p.Count % k then p.Count / k + 1 else p.Count / k) := fun k hk => by
  have hne : k ≠ 0 := by omega
  have h0 : 0 ≤ p.Count / k := Int.ediv_nonneg hn.1 (by omega)
  have h1 : p.Count / k ≤ p.Count := Int.ediv_le_self _ hn.1
  rw [Za8 hne, Option.bind_some, Option.bind_some, Option.bind_some, Int.tmod_eq_emod_of_nonneg hn.1, Int.tdiv_eq_ediv_of_nonneg hn.1, Y3 (x := p.Count / k) (by omega) (by omega), Y3 (x := p.Count / k + 1) (by omega) (by omega)]
  by_cases q : 0 < p.Count % k
  ·rw [if_pos q, decide_eq_true q, cond_true]
  rw [if_neg q, decide_eq_false q, cond_false]
 have hgo : ∀ (k : Int), 0 < k → (if 0 < p.Count % k then p.Count / k + 1 else p.Count / k) = (p.Count + (k - 1)) / k := fun k hk => by
  have e := Int.emod_add_mul_ediv p.Count k
  have e1 := Int.emod_nonneg p.Count (show k ≠ 0 by omega)
  have e2 := Int.emod_lt_of_pos p.Count hk
  split
  ·symm
   have : p.Count + (k - 1) = (p.Count % k - 1) + k * (p.Count / k + 1) := by rw [Int.mul_add]; omega
   rw [this, Int.add_mul_ediv_left _ _ (by omega), Int.ediv_eq_zero_of_lt (by omega) (by omega)]
   omega
  symm
  have : p.Count + (k - 1) = (k - 1) + k * (p.Count / k) := by omega
  rw [this, Int.add_mul_ediv_left _ _ (by omega), Int.ediv_eq_zero_of_lt (by omega) (by omega)]
  omega
 rcases c7 h.c c7' with q | q | q | q | q | q | q
 ·rw [show (p.Code == 0) = true from by rw [q]; rfl, cond_true, Option.bind_some, q]
  simp only [wdt, if_true, Int.mul_zero]
  rfl
 ·rw [show (p.Code == 0) = false from by rw [q]; rfl, show (p.Code == 1) = true from by rw [q]; rfl, cond_false, cond_true, Option.bind_some]
  simp only
  rw [hgen 64 (by omega), hgo 64 (by omega), q]
  simp [wdt]
 ·rw [show (p.Code == 0) = false from by rw [q]; rfl, show (p.Code == 1) = false from by rw [q]; rfl, show (p.Code == 2) = true from by rw [q]; rfl, cond_false, cond_false, cond_true, Option.bind_some]
  simp only
  rw [hgen 8 (by omega), hgo 8 (by omega), q]
  simp [wdt]
  omega
 ·rw [show (p.Code == 0) = false from by rw [q]; rfl, show (p.Code == 1) = false from by rw [q]; rfl, show (p.Code == 2) = false from by rw [q]; rfl, show (p.Code == 3) = true from by rw [q]; rfl, cond_false, cond_false, cond_false, cond_true, Option.bind_some]
  simp only
  rw [hgen 4 (by omega), hgo 4 (by omega), q]
  simp [wdt]
  omega
 ·rw [show (p.Code == 0) = false from by rw [q]; rfl, show (p.Code == 1) = false from by rw [q]; rfl, show (p.Code == 2) = false from by rw [q]; rfl, show (p.Code == 3) = false from by rw [q]; rfl, show (p.Code == 4) = true from by rw [q]; rfl, cond_false, cond_false, cond_false, cond_false, cond_true, Option.bind_some]
  simp only
  rw [hgen 2 (by omega), hgo 2 (by omega), q]
  simp [wdt]
  omega
 ·rw [show (p.Code == 0) = false from by rw [q]; rfl, show (p.Code == 1) = false from by rw [q]; rfl, show (p.Code == 2) = false from by rw [q]; rfl, show (p.Code == 3) = false from by rw [q]; rfl, show (p.Code == 4) = false from by rw [q]; rfl, cond_false, cond_false, cond_false, cond_false, cond_false, Option.bind_some]
  simp only
  rw [hgen 1 (by omega), hgo 1 (by omega), q]
  simp [wdt]
  omega
 rw [show (p.Code == 0) = false from by rw [q]; rfl, show (p.Code == 1) = false from by rw [q]; rfl, show (p.Code == 2) = false from by rw [q]; rfl, show (p.Code == 3) = false from by rw [q]; rfl, show (p.Code == 4) = false from by rw [q]; rfl, cond_false, cond_false, cond_false, cond_false, cond_false, Option.bind_some]
 simp only
 rw [hgen 1 (by omega), hgo 1 (by omega), q]
 simp [wdt]
 omega
def l0 : Xa := ⟨⟨0, 0, 0, 0, 0, 0, 0, false⟩, 0, 0⟩
def Zr9 (p : Z6) : Z6 := ⟨p.Kind, 0, p.Data, p.Ptrs, p.Code, p.Count, p.Segment, p.Double⟩
def tgt (l : List (List Int)) (p : Z6) (s a : Int) : Xa × Int :=
 if p.Kind = 4 then (l0, 9) else if p.Kind = 1 ∨ p.Kind = 2 then (if inB l s a (pw p) = true then (⟨Zr9 p, s, a⟩, 0) else (l0, 7)) else (l0, 8)
def fol (l : List (List Int)) (s a : Int) : Xa × Int :=
 if inB l s a 1 = true then
  let p := dc (wd l s a)
  if p.Kind = 0 then (l0, 0)
  else if p.Kind = 3 ∧ p.Double = true then
   if inB l p.Segment p.Off 2 = true then
    let b := dc (wd l p.Segment p.Off)
    let q := dc (wd l p.Segment (p.Off + 1))
    if b.Kind = 3 ∧ b.Double = false then (if q.Kind ≠ 4 ∧ q.Off ≠ 0 then (l0, 8) else tgt l q b.Segment b.Off) else (l0, 8)
   else (l0, 7)
  else if p.Kind = 3 then
   if inB l p.Segment p.Off 1 = true then
    let q := dc (wd l p.Segment p.Off)
    tgt l q p.Segment (p.Off + 1 + q.Off)
   else (l0, 7)
  else tgt l p s (a + 1 + p.Off)
 else (l0, 7)
section
variable {A : Zf}
theorem Zg4 (hw : WS A.segments) {p : Z6} (h : PB p) (s a : Int) : Vx (some A) p s a = some (tgt A.segments p s a) := by
 unfold Vx tgt
 by_cases k4 : p.Kind = 4
 ·rw [show (p.Kind == 4) = true from by rw [k4]; rfl, if_pos k4]; rfl
 rw [show (p.Kind == 4) = false from Vv k4, cond_false, if_neg k4, Z1y h, Option.bind_some]
 by_cases k : p.Kind = 1 ∨ p.Kind = 2
 ·rw [if_pos k, if_pos k]
  simp only [Bool.not_true, cond_false]
  rw [Zpa hw, Option.bind_some]
  cases inB A.segments s a (pw p) <;> rfl
 rw [if_neg k, if_neg k]
 rfl
theorem Z69 {l : List (List Int)} {s a : Int} (h : inB l s a 2 = true) : ((seg l s).drop a.toNat).take (2 : Int).toNat = [wd l s a, wd l s (a + 1)] := by
 have h' := inB_iff.1 h
 have h1 : a.toNat < (seg l s).length := by omega
 have h2 : a.toNat + 1 < (seg l s).length := by omega
 unfold wd
 rw [show (a + 1).toNat = a.toNat + 1 by omega, List.getElem?_eq_getElem h1, List.getElem?_eq_getElem h2, show ((2 : Int).toNat) = 2 from rfl, List.drop_eq_getElem_cons h1, List.drop_eq_getElem_cons h2]
 rfl
theorem Zx2 (hw : WS A.segments) (s a : Int) : G7 (some A) s a = some (if inB A.segments s a 2 = true then (if (dc (wd A.segments s a)).Kind = 3 ∧ (dc (wd A.segments s a)).Double = false then (if (dc (wd A.segments s (a + 1))).Kind ≠ 4 ∧ (dc (wd A.segments s (a + 1))).Off ≠ 0 then (l0, 8) else tgt A.segments (dc (wd A.segments s (a + 1))) (dc (wd A.segments s a)).Segment (dc (wd A.segments s a)).Off) else (l0, 8)) else (l0, 7)) := by
 unfold G7
 rw [Zy0 hw, Option.bind_some]
 cases h : inB A.segments s a 2 with
 | false => rfl
 | true =>
  simp only [if_true, Bool.not_true, cond_false]
  rw [Z69 h]
  have g0 : Ql [wd A.segments s a, wd A.segments s (a + 1)] 0 = some (wd A.segments s a) := rfl
  have g1 : Ql [wd A.segments s a, wd A.segments s (a + 1)] 1 = some (wd A.segments s (a + 1)) := rfl
  rw [g0, Option.bind_some, Zq5 (Zfq hw _ _), Option.bind_some, g1, Option.bind_some, Zq5 (Zfq hw _ _), Option.bind_some]
  generalize dc (wd A.segments s a) = b
  have hq := Zfy (wd A.segments s (a + 1))
  revert hq
  generalize dc (wd A.segments s (a + 1)) = q
  intro hq
  by_cases b3 : b.Kind = 3
  ·rw [show (b.Kind != 3) = false from by rw [b3]; rfl, cond_false]
   cases bd : b.Double with
   | true => rw [cond_true, if_neg (by simp)]; rfl
   | false =>
    rw [cond_false, if_pos ⟨b3, rfl⟩]
    by_cases hq4 : q.Kind = 4
    ·rw [show (q.Kind != 4) = false from by rw [hq4]; rfl, cond_false, cond_false, if_neg (by simp [hq4]), Zg4 hw hq]
     rfl
    rw [show (q.Kind != 4) = true from bne_iff_ne.2 hq4, cond_true]
    by_cases ho : q.Off = 0
    ·rw [show (q.Off != 0) = false from by rw [ho]; rfl, cond_false, if_neg (by simp [ho]), Zg4 hw hq]
     rfl
    rw [show (q.Off != 0) = true from bne_iff_ne.2 ho, cond_true, if_pos ⟨hq4, ho⟩]
    rfl
  rw [show (b.Kind != 3) = true from bne_iff_ne.2 b3, cond_true, cond_true, if_neg (by simp [b3])]
  rfl
theorem Zur {l : List (List Int)} (hw : WS l) {s a n : Int} (h : inB l s a n = true) : 0 ≤ a ∧ a ≤ 17592186044416 := by
 have h' := inB_iff.1 h
 have := Zfl hw s
 omega
theorem Zyr (hw : WS A.segments) (s a : Int) : G8 (some A) s a = some (if inB A.segments s a 1 = true then tgt A.segments (dc (wd A.segments s a)) s (a + 1 + (dc (wd A.segments s a)).Off) else (l0, 7)) := by
 unfold G8
 rw [Zio hw, Option.bind_some]
 cases h : inB A.segments s a 1 with
 | false => rfl
 | true =>
  have ha := Zur hw h
  have hq := Zfy (wd A.segments s a)
  have ho := hq.o
  simp only [if_true, Bool.not_true, cond_false]
  rw [Zq5 (Zfq hw _ _), Option.bind_some, Y3 (x := a + 1) (by omega) (by omega), Y3 (by omega) (by omega), Zg4 hw hq]
  rfl
theorem Zx3 (hw : WS A.segments) (s a : Int) : G5 (some A) s a = some (fol A.segments s a) := by
 unfold G5 fol
 rw [Zio hw, Option.bind_some]
 cases h : inB A.segments s a 1 with
 | false => rfl
 | true =>
  have ha := Zur hw h
  have hq := Zfy (wd A.segments s a)
  have ho := hq.o
  simp only [if_true, Bool.not_true, cond_false]
  rw [Zq5 (Zfq hw _ _), Option.bind_some]
  revert hq ho
  generalize dc (wd A.segments s a) = p
  intro hq ho
  by_cases k0 : p.Kind = 0
  ·rw [show (p.Kind == 0) = true from by rw [k0]; rfl, cond_true, if_pos k0]; rfl
  rw [show (p.Kind == 0) = false from Vv k0, cond_false, if_neg k0]
  by_cases k3 : p.Kind = 3
  ·rw [show (p.Kind == 3) = true from by rw [k3]; rfl, cond_true, cond_true]
   cases hd : p.Double with
   | true => rw [cond_true, if_pos ⟨k3, rfl⟩, Zx2 hw]; rfl
   | false => rw [cond_false, if_neg (by simp), if_pos k3, Zyr hw]; rfl
  rw [show (p.Kind == 3) = false from Vv k3, cond_false, cond_false, cond_false, if_neg (by simp [k3]), if_neg k3, Y3 (x := a + 1) (by omega) (by omega), Y3 (by omega) (by omega), Zg4 hw hq]
  rfl
end
def toR (x : Xa) : Z3 := ⟨x.P, x.Segment, x.At⟩
def Z22 (x : Xa × Int) : Z3 × Int := (toR x.1, x.2)
theorem Zle {l : List (List Int)} (hw : WS l) (s a : Int) : Q0 l s a = some (inB l s a 1) := by
 have hl := Zfl hw s
 unfold Q0 inB
 by_cases h1 : 0 ≤ s
 ·by_cases h2 : s < (l.length : Int)
  ·by_cases h3 : 0 ≤ a
   ·rw [(Zah h1 h2).1]
    simp only [decide_eq_true h1, decide_eq_true h2, decide_eq_true h3, cond_true, Option.bind_some, Bool.true_and, show decide ((0 : Int) ≤ 1) = true from rfl]
    refine congrArg some ?_
    rw [Bool.eq_iff_iff, decide_eq_true_eq, decide_eq_true_eq]
    omega
   rw [decide_eq_true h1, decide_eq_true h2, decide_eq_false h3]; rfl
  rw [decide_eq_true h1, decide_eq_false h2]; rfl
 rw [decide_eq_false h1]; rfl
theorem Zyo {l : List (List Int)} (hw : WS l) {p : Z6} (h : PB p) (hk : p.Kind = 1 ∨ p.Kind = 2) (s a : Int) : Qu l ⟨p, s, a⟩ = some (Z22 (if inB l s a (pw p) = true then (⟨Zr9 p, s, a⟩, 0) else (l0, 7))) := by
 have hl := Zfl hw s
 have hp := Z6e h
 unfold Qu
 simp only
 rw [Zyq h hk, Option.bind_some]
 have key : ∀ b : Bool, inB l s a (pw p) = !b → (cond b (some ((⟨⟨0, 0, 0, 0, 0, 0, 0, false⟩, 0, 0⟩ : Z3), (7 : Int))) (some ((⟨⟨p.Kind, 0, p.Data, p.Ptrs, p.Code, p.Count, p.Segment, p.Double⟩, s, a⟩ : Z3), 0))) = some (Z22 (if inB l s a (pw p) = true then (⟨Zr9 p, s, a⟩, 0) else (l0, 7))) := fun b hb => by
  rw [hb]
  cases b <;> rfl
 have hin : ∀ b : Bool, (b = true ↔ ¬ (0 ≤ s ∧ s < l.length ∧ 0 ≤ a ∧ 0 ≤ pw p ∧ a + pw p ≤ (seg l s).length)) → inB l s a (pw p) = !b := fun b hb => by
  cases hq : inB l s a (pw p) with
  | true =>
   have := inB_iff.1 hq
   cases b with
   | false => rfl
   | true => exact absurd this (hb.1 rfl)
  | false =>
   cases b with
   | true => rfl
   | false =>
    have h2 : ¬ ¬ (0 ≤ s ∧ s < l.length ∧ 0 ≤ a ∧ 0 ≤ pw p ∧ a + pw p ≤ (seg l s).length) := fun q => by have := hb.2 q; cases this
    have h3 := inB_iff.2 (Classical.not_not.1 h2)
    rw [hq] at h3
    cases h3
 by_cases h1 : s < 0
 ·rw [decide_eq_true h1, cond_true, Option.bind_some]
  exact key true (hin true ⟨fun _ => by omega, fun _ => rfl⟩)
 rw [decide_eq_false h1, cond_false]
 by_cases h2 : (l.length : Int) ≤ s
 ·rw [decide_eq_true h2, cond_true, Option.bind_some]
  exact key true (hin true ⟨fun _ => by omega, fun _ => rfl⟩)
 rw [decide_eq_false h2, cond_false]
 by_cases h3 : a < 0
 ·rw [decide_eq_true h3, cond_true, Option.bind_some]
  exact key true (hin true ⟨fun _ => by omega, fun _ => rfl⟩)
 rw [decide_eq_false h3, cond_false, (Zah (by omega) (by omega)).1, Option.bind_some]
 by_cases h4 : ((seg l s).length : Int) < a
 ·rw [decide_eq_true h4, cond_true, Option.bind_some]
  exact key true (hin true ⟨fun _ => by omega, fun _ => rfl⟩)
 rw [decide_eq_false h4, cond_false, cond_false, cond_false, cond_false, cond_false, Option.bind_some, Y3 (by omega) (by omega)]
 exact key _ (hin _ (by rw [decide_eq_true_eq]; omega))
theorem Zow {p : Z6} : Qt p = some (if p.Kind = 4 then 9 else if p.Kind = 1 ∨ p.Kind = 2 then 0 else 8) := by
 unfold Qt
 by_cases k4 : p.Kind = 4
 ·rw [show (p.Kind == 4) = true from by rw [k4]; rfl, if_pos k4]; rfl
 rw [show (p.Kind == 4) = false from Vv k4, cond_false, if_neg k4]
 by_cases k1 : p.Kind = 1
 ·rw [show (p.Kind != 1) = false from by rw [k1]; rfl, if_pos (.inl k1)]; rfl
 rw [show (p.Kind != 1) = true from bne_iff_ne.2 k1, cond_true]
 by_cases k2 : p.Kind = 2
 ·rw [show (p.Kind != 2) = false from by rw [k2]; rfl, if_pos (.inr k2)]; rfl
 rw [show (p.Kind != 2) = true from bne_iff_ne.2 k2, if_neg (by omega)]; rfl
theorem Zp8 {l : List (List Int)} (hw : WS l) {p : Z6} (h : PB p) (s a : Int) {k : Int → Option (Z3 × Int)} (hk : k = fun y => cond (y != 0) (some ((⟨⟨0, 0, 0, 0, 0, 0, 0, false⟩, 0, 0⟩ : Z3), y)) ((Qu l ⟨p, s, a⟩).bind fun y => some (y.1, y.2))) : (Qt p).bind k = some (Z22 (tgt l p s a)) := by
 subst hk
 rw [Zow, Option.bind_some]
 unfold tgt
 by_cases k4 : p.Kind = 4
 ·rw [if_pos k4, if_pos k4]; rfl
 rw [if_neg k4, if_neg k4]
 by_cases k : p.Kind = 1 ∨ p.Kind = 2
 ·rw [if_pos k, if_pos k, show ((0 : Int) != 0) = false from rfl, cond_false, Zyo hw h k, Option.bind_some]
 rw [if_neg k, if_neg k]; rfl
theorem Z0j (p : Z6) : (⟨p.Kind, p.Off, p.Data, p.Ptrs, p.Code, p.Count, p.Segment, p.Double⟩ : Z6) = p := by cases p; rfl
theorem Z70 {l : List (List Int)} {s a : Int} (h0 : 0 ≤ a) : inB l s a 2 = (inB l s a 1 && inB l s (a + 1) 1) := by
 rw [Bool.eq_iff_iff, Bool.and_eq_true, inB_iff, inB_iff, inB_iff]
 omega
theorem Zug {l : List (List Int)} (hw : WS l) (s a : Int) : Ji l s a = some (Z22 (fol l s a)) := by
 unfold Ji fol
 rw [Zle hw, Option.bind_some]
 cases h : inB l s a 1 with
 | false => rfl
 | true =>
  have h' := inB_iff.1 h
  have ha := Zur hw h
  have hq := Zfy (wd l s a)
  simp only [if_true, Bool.not_true, cond_false]
  rw [(Zah h'.1 h'.2.1).1, Option.bind_some, (Zj3 h).1, Option.bind_some, Zmt (Zfq hw _ _), Option.bind_some]
  revert hq
  generalize dc (wd l s a) = p
  intro hq
  have ho := hq.o
  by_cases k0 : p.Kind = 0
  ·rw [show (p.Kind == 0) = true from by rw [k0]; rfl, cond_true, if_pos k0]; rfl
  rw [show (p.Kind == 0) = false from Vv k0, cond_false, if_neg k0]
  by_cases k3 : p.Kind = 3
  ·have hf := hq.f k3
   rw [show (p.Kind == 3) = true from by rw [k3]; rfl, cond_true, cond_true, if_pos k3]
   cases hd : p.Double with
   | true =>
    rw [cond_true, if_pos ⟨k3, rfl⟩, Zle hw, Option.bind_some, Y3 (by omega) (by omega), Zle hw]
    have h2 := Z70 (l := l) (s := p.Segment) hf
    cases b1 : inB l p.Segment p.Off 1 with
    | false =>
     rw [h2, b1]
     rfl
    | true =>
     rw [cond_true, Option.bind_some, Option.bind_some, Bool.not_true, cond_false, h2, b1, Bool.true_and]
     cases b2 : inB l p.Segment (p.Off + 1) 1 with
     | false => rfl
     | true =>
      have b1' := inB_iff.1 b1
      rw [Bool.not_true, cond_false, (Zah b1'.1 b1'.2.1).1, Option.bind_some, (Zj3 b1).1, Option.bind_some, Zmt (Zfq hw _ _), Option.bind_some, (Zj3 b2).1, Option.bind_some, Zmt (Zfq hw _ _), Option.bind_some]
      simp only [if_true]
      generalize dc (wd l p.Segment p.Off) = b
      have hq2 := Zfy (wd l p.Segment (p.Off + 1))
      revert hq2
      generalize dc (wd l p.Segment (p.Off + 1)) = q
      intro hq2
      by_cases b3 : b.Kind = 3
      ·rw [show (b.Kind != 3) = false from by rw [b3]; rfl, cond_false]
       cases bd : b.Double with
       | true => rw [cond_true, if_neg (by simp)]; rfl
       | false =>
        rw [cond_false, if_pos ⟨b3, rfl⟩]
        by_cases ho' : q.Off = 0
        ·rw [if_neg (by simp [ho'])]
         refine Zp8 hw hq2 b.Segment b.Off ?_
         funext y
         rw [show (q.Off != 0) = false from by rw [ho']; rfl]
         cases (y == 0) <;> rfl
        rw [Zow, Option.bind_some, show (q.Off != 0) = true from bne_iff_ne.2 ho']
        by_cases hq4 : q.Kind = 4
        ·exact absurd (hq2.z (.inr hq4)) ho'
        by_cases hk : q.Kind = 1 ∨ q.Kind = 2
        ·rw [if_neg hq4, if_pos hk, if_pos ⟨hq4, ho'⟩]; rfl
        rw [if_neg hq4, if_neg hk, if_pos ⟨hq4, ho'⟩]; rfl
      rw [show (b.Kind != 3) = true from bne_iff_ne.2 b3, cond_true, cond_true, if_neg (by simp [b3])]
      rfl
   | false =>
    rw [cond_false, if_neg (by simp), Zle hw, Option.bind_some]
    cases b1 : inB l p.Segment p.Off 1 with
    | false => rfl
    | true =>
     have b1' := inB_iff.1 b1
     rw [Bool.not_true, cond_false, (Zah b1'.1 b1'.2.1).1, Option.bind_some, (Zj3 b1).1, Option.bind_some, Zmt (Zfq hw _ _), Option.bind_some, Option.bind_some]
     have hq2 := Zfy (wd l p.Segment p.Off)
     have ho2 := hq2.o
     have ha2 := Zur hw b1
     simp only [Z0j]
     rw [Y3 (x := p.Off + 1) (by omega) (by omega), Y3 (by omega) (by omega)]
     exact Zp8 hw hq2 _ _ rfl
  rw [show (p.Kind == 3) = false from Vv k3, cond_false, cond_false, cond_false, if_neg (by simp [k3]), if_neg k3, Option.bind_some]
  simp only [Z0j]
  rw [Y3 (x := a + 1) (by omega) (by omega), Y3 (by omega) (by omega)]
  exact Zp8 hw hq _ _ rfl
theorem Z5x (l : List Int) (h : ∀ w ∈ l, 0 ≤ w ∧ w < 18446744073709551616) (hl : l.length * 8 ≤ 140737488355328) : WS [l] :=
 ⟨by simp, fun x hx => by rw [List.mem_singleton] at hx; subst hx; exact hl, fun x hx => by rw [List.mem_singleton] at hx; subst hx; exact h⟩
theorem Z5t {l : List (List Int)} {p : Z6} (h : PB p) {s a : Int} : ((tgt l p s a).2 ≠ 0 ∧ (tgt l p s a).1 = l0) ∨ ((tgt l p s a).2 = 0 ∧ (p.Kind = 1 ∨ p.Kind = 2) ∧ (tgt l p s a).1 = ⟨Zr9 p, s, a⟩ ∧ inB l s a (pw p) = true) := by
 unfold tgt
 by_cases k4 : p.Kind = 4
 ·rw [if_pos k4]; exact .inl ⟨by simp, rfl⟩
 rw [if_neg k4]
 by_cases k : p.Kind = 1 ∨ p.Kind = 2
 ·rw [if_pos k]
  by_cases hi : inB l s a (pw p) = true
  ·rw [if_pos hi]; exact .inr ⟨rfl, k, rfl, hi⟩
  rw [if_neg hi]; exact .inl ⟨by simp, rfl⟩
 rw [if_neg k]; exact .inl ⟨by simp, rfl⟩
theorem Z2l {p : Z6} (h : PB p) : PB (Zr9 p) := ⟨h.k, by simp [Zr9], h.d, h.q, h.c, h.n, h.s, fun _ => by simp [Zr9], fun _ => rfl⟩
theorem Z5i (l : List (List Int)) (s a : Int) : ((fol l s a).1 = l0) ∨ ((fol l s a).2 = 0 ∧ ∃ p s' a', PB p ∧ p.Off = 0 ∧ (p.Kind = 1 ∨ p.Kind = 2) ∧ (fol l s a).1 = ⟨p, s', a'⟩ ∧ inB l s' a' (pw p) = true) := by
 have key : ∀ (w s a : Int), ((tgt l (dc w) s a).1 = l0) ∨ ((tgt l (dc w) s a).2 = 0 ∧ ∃ p s' a', PB p ∧ p.Off = 0 ∧ (p.Kind = 1 ∨ p.Kind = 2) ∧ (tgt l (dc w) s a).1 = ⟨p, s', a'⟩ ∧ inB l s' a' (pw p) = true) := fun w s a => by
  rcases Z5t (l := l) (Zfy w) (s := s) (a := a) with h | ⟨h1, h2, h3, h4⟩
  ·exact .inl h.2
  exact .inr ⟨h1, Zr9 (dc w), s, a, Z2l (Zfy w), rfl, h2, h3, h4⟩
 unfold fol
 by_cases h : inB l s a 1 = true
 ·rw [if_pos h]
  simp only
  split
  ·exact .inl rfl
  split
  ·split
   ·split
    ·split
     ·exact .inl rfl
     exact key _ _ _
    exact .inl rfl
   exact .inl rfl
  split
  ·split
   ·exact key _ _ _
   exact .inl rfl
  exact key _ _ _
 rw [if_neg h]; exact .inl rfl
def r0 : Za := ⟨none, 0, 0, 0, 0, 0, 0, 0, 0⟩
def Yd (r : Za) : Int := if r.kind = 1 then r.ptrs else r.count
def atR (A : Zf) (s a : Int) : Za × Int :=
 let x := fol A.segments s a
 if x.2 ≠ 0 ∨ x.1.P.Kind = 0 then (r0, x.2)
 else if x.1.P.Kind = 1 then (⟨some A, 1, x.1.Segment, x.1.At, x.1.P.Data, x.1.P.Ptrs, 0, 0, 0⟩, 0)
 else if x.1.P.Code = 7 then
  let t := dc (wd A.segments x.1.Segment x.1.At)
  if (t.Kind ≠ 0 ∧ t.Kind ≠ 1) ∨ t.Off < 0 ∨ x.1.P.Count < t.Off * (t.Data + t.Ptrs) then (r0, 8)
  else (⟨some A, 9, x.1.Segment, x.1.At, t.Data, t.Ptrs, t.Off, 0, 0⟩, 0)
 else (⟨some A, x.1.P.Code + 2, x.1.Segment, x.1.At, 0, 0, x.1.P.Count, 0, 0⟩, 0)
inductive OKr (A : Zf) : Za → Prop
 | z : OKr A r0
 | st (s a d p : Int) (hd : 0 ≤ d ∧ d < 65536) (hp : 0 ≤ p ∧ p < 65536) (hi : inB A.segments s a (d + p) = true) : OKr A ⟨some A, 1, s, a, d, p, 0, 0, 0⟩
 | li (k s a n : Int) (hk : 2 ≤ k ∧ k ≤ 8) (hn : 0 ≤ n ∧ n < 536870912) (hi : inB A.segments s a ((n * wdt (k - 2) + 63) / 64) = true) : OKr A ⟨some A, k, s, a, 0, 0, n, 0, 0⟩
 | co (s a d p n : Int) (hd : 0 ≤ d ∧ d < 65536) (hp : 0 ≤ p ∧ p < 65536) (hn : 0 ≤ n ∧ n < 536870912) (hw : 0 ≤ n * (d + p) ∧ n * (d + p) < 536870912) (hi : inB A.segments s a (n * (d + p) + 1) = true) : OKr A ⟨some A, 9, s, a, d, p, n, 0, 0⟩
 | at_ (s a c i n : Int) (hc : 0 ≤ c ∧ c ≤ 5) (h0 : 0 ≤ i) (h1 : i < n) (hn : n < 536870912) (hi : inB A.segments s a ((n * wdt c + 63) / 64) = true) : OKr A ⟨some A, 10, s, a, 0, 0, 0, c, i⟩
theorem Zlx (l : List (List Int)) (s a : Int) : ((fol l s a).2 ≠ 0 ∨ (fol l s a).1.P.Kind = 0) ∨ ((fol l s a).2 = 0 ∧ PB (fol l s a).1.P ∧ ((fol l s a).1.P.Kind = 1 ∨ (fol l s a).1.P.Kind = 2) ∧ inB l (fol l s a).1.Segment (fol l s a).1.At (pw (fol l s a).1.P) = true) := by
 rcases Z5i l s a with h | ⟨h1, p, s', a', hp, ho, hk, h, hi⟩
 ·rw [h]; exact .inl (.inr rfl)
 rw [h]; exact .inr ⟨h1, hp, hk, hi⟩
section
variable {A : Zf}
theorem Zuk (w : Int) : 0 ≤ (dc w).Data ∧ (dc w).Data < 65536 ∧ 0 ≤ (dc w).Ptrs ∧ (dc w).Ptrs < 65536 ∧ (dc w).Off < 536870912 := by
 have h := Zfy w
 exact ⟨h.d.1, h.d.2, h.q.1, h.q.2, h.o.2⟩
theorem Zz3 {n x : Int} (h0 : -536870912 ≤ n ∧ n < 536870912) (h1 : 0 ≤ x ∧ x ≤ 131070) : -70368744177664 ≤ n * x ∧ n * x ≤ 70368744177664 := by
 constructor
 ·have : -536870912 * 131070 ≤ n * x := by
   rcases Int.le_total 0 n with h | h
   ·have := Int.mul_nonneg h h1.1; omega
   have h2 : n * 131070 ≤ n * x := Int.mul_le_mul_of_nonpos_left h h1.2
   have h3 : -536870912 * 131070 ≤ n * 131070 := Int.mul_le_mul_of_nonneg_right h0.1 (by omega)
   omega
  omega
 rcases Int.le_total 0 n with h | h
 ·have h2 : n * x ≤ n * 131070 := Int.mul_le_mul_of_nonneg_left h1.2 h
  have h3 : n * 131070 ≤ 536870912 * 131070 := Int.mul_le_mul_of_nonneg_right (by omega) (by omega)
  omega
 have := Int.mul_nonpos_of_nonpos_of_nonneg h h1.1
 omega
theorem Zjj (s a : Int) : OKr A (atR A s a).1 := by
 unfold atR
 rcases Zlx A.segments s a with h | ⟨h1, hp, hk, hi⟩
 ·rw [if_pos h]; exact .z
 rw [if_neg (by omega)]
 generalize (fol A.segments s a).1 = x at *
 by_cases k1 : x.P.Kind = 1
 ·rw [if_pos k1]
  have : pw x.P = x.P.Data + x.P.Ptrs := by unfold pw; rw [if_pos k1]
  rw [this] at hi
  exact .st _ _ _ _ hp.d hp.q hi
 rw [if_neg k1]
 have k2 : x.P.Kind = 2 := by omega
 by_cases c7' : x.P.Code = 7
 ·rw [if_pos c7']
  have hpw : pw x.P = x.P.Count + 1 := by unfold pw; rw [if_neg k1, if_pos c7']
  rw [hpw] at hi
  have ht := Zuk (wd A.segments x.Segment x.At)
  simp only
  generalize dc (wd A.segments x.Segment x.At) = t at *
  split
  ·exact .z
  rename_i hc
  have hn := hp.n
  have h0 : 0 ≤ t.Off * (t.Data + t.Ptrs) := Int.mul_nonneg (by omega) (by omega)
  have hi' := inB_iff.1 hi
  exact .co _ _ _ _ _ (by omega) (by omega) (by omega) (by omega) (inB_iff.2 ⟨hi'.1, hi'.2.1, hi'.2.2.1, by omega, by omega⟩)
 rw [if_neg c7']
 have hpw : pw x.P = (x.P.Count * wdt x.P.Code + 63) / 64 := by unfold pw; rw [if_neg k1, if_neg c7']
 rw [hpw] at hi
 have hc := hp.c
 exact .li _ _ _ _ (by omega) hp.n (by rw [show x.P.Code + 2 - 2 = x.P.Code by omega]; exact hi)
theorem Zy4 (hw : WS A.segments) (s a : Int) : Uh (some A) s a = some (atR A s a) := by
 unfold Uh atR
 rw [Zx3 hw, Option.bind_some]
 simp only
 rcases Zlx A.segments s a with h | ⟨h1, hp, hk, hi⟩
 ·rw [if_pos h]
  have : cond ((fol A.segments s a).2 != 0) true ((fol A.segments s a).1.P.Kind == 0) = true := by
   rcases h with h | h
   ·rw [bne_iff_ne.2 h]; rfl
   rw [show ((fol A.segments s a).1.P.Kind == 0) = true from by rw [h]; rfl]
   cases ((fol A.segments s a).2 != 0) <;> rfl
  rw [this, cond_true]; rfl
 rw [if_neg (by omega), h1, show ((0 : Int) != 0) = false from rfl, cond_false]
 generalize (fol A.segments s a).1 = x at *
 rw [show (x.P.Kind == 0) = false from Vv (by omega), cond_false]
 by_cases k1 : x.P.Kind = 1
 ·rw [if_pos k1, show (x.P.Kind == 1) = true from by rw [k1]; rfl, cond_true]
 rw [if_neg k1, show (x.P.Kind == 1) = false from Vv k1, cond_false]
 have hc := hp.c
 by_cases c7' : x.P.Code = 7
 ·rw [if_pos c7', show (x.P.Code == 7) = true from by rw [c7']; rfl, cond_true]
  have hpw : pw x.P = x.P.Count + 1 := by unfold pw; rw [if_neg k1, if_pos c7']
  rw [hpw] at hi
  have hn := hp.n
  have hi' := inB_iff.1 hi
  have hi1 : inB A.segments x.Segment x.At 1 = true := inB_iff.2 ⟨hi'.1, hi'.2.1, hi'.2.2.1, by omega, by omega⟩
  unfold Vy
  simp only
  rw [Zio hw, if_pos hi1, Option.bind_some, Zq5 (Zfq hw _ _), Option.bind_some]
  have ht := Zuk (wd A.segments x.Segment x.At)
  have ho := (Zfy (wd A.segments x.Segment x.At)).o
  generalize dc (wd A.segments x.Segment x.At) = t at *
  have hm := Zz3 (n := t.Off) (x := t.Data + t.Ptrs) ho (by omega)
  rw [Y3 (x := t.Data + t.Ptrs) (by omega) (by omega), Y3 (x := t.Off * (t.Data + t.Ptrs)) (by omega) (by omega), Y3 (x := x.P.Code + 2) (by omega) (by omega), c7']
  by_cases hq : (t.Kind ≠ 0 ∧ t.Kind ≠ 1) ∨ t.Off < 0 ∨ x.P.Count < t.Off * (t.Data + t.Ptrs)
  ·rw [if_pos hq]
   have : cond (cond (cond (t.Kind != 0) (t.Kind != 1) false) true (decide (t.Off < 0))) true (decide (x.P.Count < t.Off * (t.Data + t.Ptrs))) = true := by
    rcases hq with ⟨q1, q2⟩ | q | q
    ·rw [bne_iff_ne.2 q1, bne_iff_ne.2 q2]; rfl
    ·rw [decide_eq_true q]; cases (cond (t.Kind != 0) (t.Kind != 1) false) <;> rfl
    rw [decide_eq_true q]; cases (cond (cond (t.Kind != 0) (t.Kind != 1) false) true (decide (t.Off < 0))) <;> rfl
   rw [this, cond_true]; rfl
  rw [if_neg hq]
  have e1 : cond (t.Kind != 0) (t.Kind != 1) false = false := by
   by_cases q0 : t.Kind = 0
   ·rw [show (t.Kind != 0) = false from by rw [q0]; rfl]; rfl
   have q1 : t.Kind = 1 := by omega
   rw [show (t.Kind != 1) = false from by rw [q1]; rfl]
   cases (t.Kind != 0) <;> rfl
  rw [e1, cond_false, show decide (t.Off < 0) = false from by rw [decide_eq_false_iff_not]; omega, cond_false, show decide (x.P.Count < t.Off * (t.Data + t.Ptrs)) = false from by rw [decide_eq_false_iff_not]; omega]
  rfl
 rw [if_neg c7', show (x.P.Code == 7) = false from Vv c7', cond_false, Y3 (x := x.P.Code + 2) (by omega) (by omega)]
theorem Zjc (r : Za) : Qb r = some (Yd r) := by
 unfold Qb Yd
 by_cases h : r.kind = 1
 ·rw [if_pos h, show (r.kind == 1) = true from by rw [h]; rfl]; rfl
 rw [if_neg h, show (r.kind == 1) = false from Vv h]; rfl
def Y8 (A : Zf) (r : Za) (i : Int) : Za × Int :=
 if i < 0 ∨ Yd r ≤ i then (r0, 0)
 else if r.kind = 1 then atR A r.segment (r.at_ + r.words + i)
 else if r.kind = 8 then atR A r.segment (r.at_ + i)
 else if r.kind = 9 then (⟨some A, 1, r.segment, r.at_ + 1 + i * (r.words + r.ptrs), r.words, r.ptrs, 0, 0, 0⟩, 0)
 else (⟨some A, 10, r.segment, r.at_, 0, 0, 0, r.kind - 2, i⟩, 0)
theorem Vg {r : Za} (h : OKr A r) (i : Int) : OKr A (Y8 A r i).1 := by
 unfold Y8
 by_cases hi : i < 0 ∨ Yd r ≤ i
 ·rw [if_pos hi]; exact .z
 rw [if_neg hi]
 by_cases k1 : r.kind = 1
 ·rw [if_pos k1]; exact Zjj _ _
 rw [if_neg k1]
 by_cases k8 : r.kind = 8
 ·rw [if_pos k8]; exact Zjj _ _
 rw [if_neg k8]
 by_cases k9 : r.kind = 9
 ·rw [if_pos k9]
  cases h with
  | z => simp [r0] at k9
  | st _ _ _ _ => simp at k1
  | li k s a n hk => simp only at k9; omega
  | at_ => simp at k9
  | co s a d p n hd hp hn hw hin =>
   simp only
   have hi' := inB_iff.1 hin
   simp only [Yd] at hi
   rw [if_neg (by omega)] at hi
   have h1 : 0 ≤ i * (d + p) := Int.mul_nonneg (by omega) (by omega)
   have h2 : (i + 1) * (d + p) ≤ n * (d + p) := Int.mul_le_mul_of_nonneg_right (by omega) (by omega)
   rw [Int.add_mul, Int.one_mul] at h2
   exact .st _ _ _ _ hd hp (inB_iff.2 ⟨hi'.1, hi'.2.1, by omega, by omega, by omega⟩)
 rw [if_neg k9]
 cases h with
 | z => simp [r0, Yd] at hi; omega
 | st _ _ _ _ => simp at k1
 | co => simp at k9
 | at_ => simp [Yd] at hi; omega
 | li k s a n hk hn hin =>
  simp only at k8 k9 ⊢
  simp only [Yd] at hi
  rw [if_neg (by omega)] at hi
  exact .at_ _ _ _ _ n (by omega) (by omega) (by omega) (by omega) hin
theorem Zi4 (hw : WS A.segments) {s a n : Int} (h : inB A.segments s a n = true) : 0 ≤ a ∧ 0 ≤ n ∧ a + n ≤ 17592186044416 := by
 have h' := inB_iff.1 h
 have := Zfl hw s
 omega
theorem Zmb (hw : WS A.segments) {r : Za} (h : OKr A r) (i : Int) : X8 r i = some (Y8 A r i) := by
 unfold X8 Y8
 rw [Zjc]
 have hz : (cond (decide (i < 0)) (some true) ((some (Yd r)).bind fun y4 => some (cond (decide (i < 0)) true (decide (y4 ≤ i))))) = some (decide (i < 0 ∨ Yd r ≤ i)) := by
  by_cases h0 : i < 0
  ·rw [decide_eq_true h0, cond_true, show decide (i < 0 ∨ Yd r ≤ i) = true from decide_eq_true (.inl h0)]
  rw [decide_eq_false h0, cond_false, Option.bind_some, cond_false]
  congr 1
  rw [decide_eq_decide]
  omega
 rw [hz, Option.bind_some]
 by_cases hi : i < 0 ∨ Yd r ≤ i
 ·rw [if_pos hi, decide_eq_true hi]; rfl
 rw [if_neg hi, decide_eq_false hi, cond_false]
 cases h with
 | z => exact absurd hi (by first | (simp [Yd, r0]; done) | (simp [Yd, r0]; omega))
 | at_ => exact absurd hi (by first | (simp [Yd]; done) | (simp [Yd]; omega))
 | st s a d p hd hp hin =>
  have := Zi4 hw hin
  simp only [Yd, if_true] at hi
  simp only [beq_self_eq_true, cond_true, if_true]
  rw [Y3 (x := a + d) (by omega) (by omega), Y3 (by omega) (by omega), Zy4 hw]
  rfl
 | co s a d p n hd hp hn hwx hin =>
  have := Zi4 hw hin
  simp only [Yd] at hi
  rw [if_neg (by omega)] at hi
  simp only [show ((9 : Int) == 1) = false from rfl, show ((9 : Int) == 8) = false from rfl, show ((9 : Int) == 9) = true from rfl, cond_true, cond_false, show ¬ (9 : Int) = 1 from by decide, show ¬ (9 : Int) = 8 from by decide, if_false, if_true]
  have h1 : 0 ≤ i * (d + p) := Int.mul_nonneg (by omega) (by omega)
  have h2 : (i + 1) * (d + p) ≤ n * (d + p) := Int.mul_le_mul_of_nonneg_right (by omega) (by omega)
  rw [Int.add_mul, Int.one_mul] at h2
  rw [Y3 (x := a + 1) (by omega) (by omega), Y3 (x := d + p) (by omega) (by omega), Y3 (x := i * (d + p)) (by omega) (by omega), Y3 (by omega) (by omega)]
 | li k s a n hk hn hin =>
  have := Zi4 hw hin
  simp only [Yd] at hi
  rw [if_neg (by omega)] at hi
  simp only
  rw [show (k == 1) = false from Vv (by omega), cond_false, if_neg (by omega), show (k == 9) = false from Vv (by omega)]
  by_cases k8 : k = 8
  ·have hp : (n * wdt (k - 2) + 63) / 64 = n := by rw [k8]; simp [wdt]; omega
   rw [show (k == 8) = true from by rw [k8]; rfl, cond_true, if_pos k8, Y3 (by omega) (by omega), Zy4 hw]
   rfl
  rw [show (k == 8) = false from Vv k8, cond_false, cond_false, if_neg k8, if_neg (by omega), Y3 (by omega) (by omega)]
def Zap (r : Za) : Int := if r.kind = 1 then r.words else if r.kind = 10 then 1 else 0
theorem Zor (r : Za) : Jr r = some (Zap r) := by
 unfold Jr Zap
 by_cases h : r.kind = 1
 ·rw [if_pos h, show (r.kind == 1) = true from by rw [h]; rfl]; rfl
 rw [if_neg h, show (r.kind == 1) = false from Vv h]
 by_cases h' : r.kind = 10
 ·rw [if_pos h', show (r.kind == 10) = true from by rw [h']; rfl]; rfl
 rw [if_neg h', show (r.kind == 10) = false from Vv h']; rfl
def Zr8 (w : Int) (c j : Int) : Int := ((w.toNat / 2 ^ (j * wdt c).toNat % 2 ^ (wdt c).toNat : Nat) : Int)
def each (c : Int) : Int := 64 / wdt c
def Zt9 (A : Zf) (r : Za) : Int := if r.code = 0 then 0 else Zr8 (wd A.segments r.segment (r.at_ + r.index / each r.code)) r.code (r.index % each r.code)
theorem c5 {c : Int} (h : 0 ≤ c ∧ c ≤ 5) : c = 0 ∨ c = 1 ∨ c = 2 ∨ c = 3 ∨ c = 4 ∨ c = 5 := by omega
theorem Zo8 {c : Int} (h : 0 ≤ c ∧ c ≤ 5) : Uq c = some (wdt c, true) := by
 unfold Uq
 rcases c5 h with rfl | rfl | rfl | rfl | rfl | rfl <;> rfl
theorem Zyf (w : Nat) (k : Nat) (hw : w < 18446744073709551616) (hk : k ≤ 64) : IntKind.u64.wrap (Ub .u64 (w : Int) (IntKind.u64.wrap (IntKind.u64.wrap (1 * 2 ^ min (Int.toNat (k : Int)) 64) - 1))) = ((w % 2 ^ k : Nat) : Int) := by
 have hm : IntKind.u64.wrap (IntKind.u64.wrap (1 * 2 ^ min (Int.toNat (k : Int)) 64) - 1) = ((2 ^ k - 1 : Nat) : Int) := by
  rw [Int.toNat_natCast, Nat.min_eq_left hk, Zp0]
  rcases Nat.lt_or_ge k 64 with h | h
  ·have h1 : 2 ^ k ≤ 2 ^ 63 := Nat.pow_le_pow_right (by decide) (by omega)
   have h2 : 0 < 2 ^ k := Nat.pow_pos (by decide)
   rw [Int.one_mul, Z1m (2 ^ k) (by omega), show (((2 ^ k : Nat) : Int) - 1) = ((2 ^ k - 1 : Nat) : Int) by omega, Z1m _ (by omega)]
  have : k = 64 := by omega
  subst this
  decide
 rw [hm]
 have e : Ub .u64 (w : Int) ((2 ^ k - 1 : Nat) : Int) = ((w &&& (2 ^ k - 1) : Nat) : Int) := by
  unfold Ub
  congr 1
  have h1 : 2 ^ k ≤ 2 ^ 64 := Nat.pow_le_pow_right (by decide) hk
  have h2 : 0 < 2 ^ k := Nat.pow_pos (by decide)
  rw [BitVec.toNat_and]
  have e1 : (BitVec.ofInt (IntKind.u64).bits (w : Int)).toNat = w := by
   show (BitVec.ofInt 64 (w : Int)).toNat = w
   rw [BitVec.ofInt_natCast, BitVec.toNat_ofNat]
   exact Nat.mod_eq_of_lt (by omega)
  have e2 : (BitVec.ofInt (IntKind.u64).bits ((2 ^ k - 1 : Nat) : Int)).toNat = 2 ^ k - 1 := by
   show (BitVec.ofInt 64 ((2 ^ k - 1 : Nat) : Int)).toNat = 2 ^ k - 1
   rw [BitVec.ofInt_natCast, BitVec.toNat_ofNat]
   exact Nat.mod_eq_of_lt (by omega)
  rw [e1, e2]
 rw [e, Nat.and_two_pow_sub_one_eq_mod]
 have : w % 2 ^ k ≤ w := Nat.mod_le _ _
 exact IntWalk.u64_in _ (by omega)
theorem Z27 {w c j : Int} (hw : 0 ≤ w ∧ w < 18446744073709551616) (hc : 1 ≤ c ∧ c ≤ 5) (hj : 0 ≤ j ∧ j < each c) : Zde [w] c j = some (Zr8 w c j) := by
 unfold Zde Zr8
 rw [Zo8 (by omega), Option.bind_some]
 simp only
 obtain ⟨d, e, hd⟩ : ∃ d : Nat, wdt c = (d : Int) ∧ (d = 1 ∨ d = 8 ∨ d = 16 ∨ d = 32 ∨ d = 64) := by
  rcases c5 (c := c) (by omega) with rfl | rfl | rfl | rfl | rfl | rfl
  ·omega
  ·exact ⟨1, rfl, by omega⟩
  ·exact ⟨8, rfl, by omega⟩
  ·exact ⟨16, rfl, by omega⟩
  ·exact ⟨32, rfl, by omega⟩
  exact ⟨64, rfl, by omega⟩
 have he : each c = ((64 / d : Nat) : Int) := by unfold each; rw [e]; rfl
 have hdd : 64 / d * d = 64 := by rcases hd with rfl | rfl | rfl | rfl | rfl <;> rfl
 have hdp : 1 ≤ d ∧ d ≤ 64 := by omega
 have hep : 1 ≤ 64 / d ∧ 64 / d ≤ 64 := by rcases hd with rfl | rfl | rfl | rfl | rfl <;> decide
 rw [he] at hj
 obtain ⟨q, rfl⟩ : ∃ q : Nat, j = q := ⟨j.toNat, by omega⟩
 have hq : q < 64 / d := by omega
 have hqd : q * d + d ≤ 64 := by
  have : (q + 1) * d ≤ 64 / d * d := Nat.mul_le_mul_right d hq
  rw [Nat.add_mul] at this
  omega
 rw [e]
 have t1 : Int.tdiv 64 (d : Int) = ((64 / d : Nat) : Int) := by rw [Int.tdiv_eq_ediv_of_nonneg (by decide)]; rfl
 have t2 : Int.tdiv (q : Int) ((64 / d : Nat) : Int) = 0 := by
  rw [Int.tdiv_eq_ediv_of_nonneg (by omega), show ((q : Int) / ((64 / d : Nat) : Int)) = ((q / (64 / d) : Nat) : Int) from rfl, Nat.div_eq_of_lt hq]
  rfl
 have t3 : Int.tmod (q : Int) ((64 / d : Nat) : Int) = (q : Int) := by
  rw [Int.tmod_eq_emod_of_nonneg (by omega), show ((q : Int) % ((64 / d : Nat) : Int)) = ((q % (64 / d) : Nat) : Int) from rfl, Nat.mod_eq_of_lt hq]
 rw [t1, Y3 (x := ((64 / d : Nat) : Int)) (by omega) (by omega), t2, t3, show IntKind.i64.wrap 0 = 0 from by decide]
 have t4 : ((q : Int) * (d : Int)) = ((q * d : Nat) : Int) := by simp
 rw [t4, Y3 (x := ((q * d : Nat) : Int)) (by omega) (by omega), show (((d : Nat) : Int) == 0) = false from Vv (by omega), show decide ((q : Int) < 0) = false from by rw [decide_eq_false_iff_not]; omega]
 simp only [cond_false]
 have g0 : Ql [w] 0 = some w := rfl
 have e1 : X9 ((d : Int) ≠ 0) = some () := Za8 (by omega)
 have e2 : X9 (((64 / d : Nat) : Int) ≠ 0) = some () := Za8 (by omega)
 have e3 : X9 (0 ≤ ((q * d : Nat) : Int)) = some () := Za8 (by omega)
 have e4 : X9 (0 ≤ (d : Int)) = some () := Za8 (by omega)
 simp only [e1, e2, e3, e4, g0, Option.bind_some, cond_false, show decide ((([w] : List Int).length : Int) ≤ 0) = false from rfl]
 congr 1
 have hwn : w = ((w.toNat : Nat) : Int) := by omega
 have hf : Int.fdiv w (2 ^ min (Int.toNat ((q * d : Nat) : Int)) 64) = ((w.toNat / 2 ^ (q * d) : Nat) : Int) := by
  rw [Int.toNat_natCast, Nat.min_eq_left (by omega), Zp0, Int.fdiv_eq_ediv_of_nonneg _ (Int.natCast_nonneg _)]
  conv => lhs; rw [hwn]
  rfl
 rw [hf, Zyf _ d (Nat.lt_of_le_of_lt (Nat.div_le_self _ _) (by omega)) (by omega)]
 rw [Int.toNat_natCast, Int.toNat_natCast]
end
section
variable {A : Zf}
def Zo9 (A : Zf) (r : Za) (i : Int) : Int :=
 if i < 0 ∨ Zap r ≤ i then 0 else if r.kind = 10 then Zt9 A r else wd A.segments r.segment (r.at_ + i)
theorem Zus {c i n : Int} (hc : 1 ≤ c ∧ c ≤ 5) (h0 : 0 ≤ i) (h1 : i < n) (hn : n < 536870912) : 1 ≤ each c ∧ each c ≤ 64 ∧ 0 ≤ i / each c ∧ i / each c + 1 ≤ (n * wdt c + 63) / 64 ∧ 0 ≤ i % each c ∧ i % each c < each c ∧ Int.tdiv 64 (wdt c) = each c ∧ wdt c ≠ 0 := by
 rcases c5 (c := c) (by omega) with rfl | rfl | rfl | rfl | rfl | rfl
 ·omega
 ·have e1 : each 1 = 64 := by decide
  have e2 : wdt 1 = 1 := by decide
  rw [e1, e2]; exact ⟨by omega, by omega, by omega, by omega, by omega, by omega, by decide, by decide⟩
 ·have e1 : each 2 = 8 := by decide
  have e2 : wdt 2 = 8 := by decide
  rw [e1, e2]; exact ⟨by omega, by omega, by omega, by omega, by omega, by omega, by decide, by decide⟩
 ·have e1 : each 3 = 4 := by decide
  have e2 : wdt 3 = 16 := by decide
  rw [e1, e2]; exact ⟨by omega, by omega, by omega, by omega, by omega, by omega, by decide, by decide⟩
 ·have e1 : each 4 = 2 := by decide
  have e2 : wdt 4 = 32 := by decide
  rw [e1, e2]; exact ⟨by omega, by omega, by omega, by omega, by omega, by omega, by decide, by decide⟩
 have e1 : each 5 = 1 := by decide
 have e2 : wdt 5 = 64 := by decide
 rw [e1, e2]; exact ⟨by omega, by omega, by omega, by omega, by omega, by omega, by decide, by decide⟩
theorem Zyi (hw : WS A.segments) {s a c i n : Int} (hc : 0 ≤ c ∧ c ≤ 5) (h0 : 0 ≤ i) (h1 : i < n) (hn : n < 536870912) (hi : inB A.segments s a ((n * wdt c + 63) / 64) = true) : Kc ⟨some A, 10, s, a, 0, 0, 0, c, i⟩ = some (Zt9 A ⟨some A, 10, s, a, 0, 0, 0, c, i⟩) := by
 unfold Kc Zt9
 simp only
 rw [Zo8 hc, Option.bind_some]
 simp only
 by_cases hz : c = 0
 ·subst hz
  rw [show (wdt 0 == 0) = true from by decide, cond_true, if_pos rfl]
 obtain ⟨a1, a2, a3, a4, a5, a6, a7, a8⟩ := Zus (c := c) (by omega) h0 h1 hn
 have hr := Zi4 hw hi
 have hi' := inB_iff.1 hi
 have hin : inB A.segments s (a + i / each c) 1 = true := inB_iff.2 ⟨hi'.1, hi'.2.1, by omega, by omega, by omega⟩
 rw [show (wdt c == 0) = false from Vv a8, cond_false, if_neg hz, a7, Y3 (x := each c) (by omega) (by omega), Int.tdiv_eq_ediv_of_nonneg h0, Int.tmod_eq_emod_of_nonneg h0, Y3 (x := i / each c) (by omega) (by omega), Y3 (x := a + i / each c) (by omega) (by omega)]
 have e1 : X9 (wdt c ≠ 0) = some () := Za8 a8
 have e2 : X9 (each c ≠ 0) = some () := Za8 (by omega)
 simp only [e1, e2, Option.bind_some]
 rw [Zio hw, if_pos hin, Option.bind_some]
 simp only
 rw [Z27 (Zfq hw _ _) (by omega) ⟨a5, a6⟩, Option.bind_some]
theorem Zlg (hw : WS A.segments) {r : Za} (h : OKr A r) (i : Int) : Qc r i = some (Zo9 A r i) := by
 unfold Qc Zo9
 rw [Zor]
 have hz : (cond (decide (i < 0)) (some true) ((some (Zap r)).bind fun y4 => some (cond (decide (i < 0)) true (decide (y4 ≤ i))))) = some (decide (i < 0 ∨ Zap r ≤ i)) := by
  by_cases h0 : i < 0
  ·rw [decide_eq_true h0, cond_true, show decide (i < 0 ∨ Zap r ≤ i) = true from decide_eq_true (.inl h0)]
  rw [decide_eq_false h0, cond_false, Option.bind_some, cond_false]
  congr 1
  rw [decide_eq_decide]
  omega
 rw [hz, Option.bind_some]
 by_cases hi : i < 0 ∨ Zap r ≤ i
 ·rw [if_pos hi, decide_eq_true hi]; rfl
 rw [if_neg hi, decide_eq_false hi, cond_false]
 cases h with
 | z => exact absurd hi (by simp [Zap, r0]; try omega)
 | li k s a n hk hn hin => exact absurd hi (by simp only [Zap]; rw [if_neg (by omega), if_neg (by omega)]; omega)
 | co s a d p n hd hp hn hwx hin => exact absurd hi (by simp [Zap]; try omega)
 | at_ s a c i' n hc h0 h1 hn hin =>
  simp only [beq_self_eq_true, cond_true, if_true]
  rw [Zyi hw hc h0 h1 hn hin]
  rfl
 | st s a d p hd hp hin =>
  have := Zi4 hw hin
  have hi' := inB_iff.1 hin
  simp only [Zap, if_true] at hi
  simp only [show ((1 : Int) == 10) = false from rfl, cond_false, show ¬ (1 : Int) = 10 from by decide, if_false]
  rw [Y3 (by omega) (by omega), Zio hw, if_pos (inB_iff.2 ⟨hi'.1, hi'.2.1, by omega, by omega, by omega⟩)]
  rfl
theorem Z2s (hw : WS A.segments) : U3 (some A) = some (atR A 0 0) := by
 unfold U3
 rw [Zy4 hw]
 rfl
end
abbrev Tr := Zd
def lvR (r : Za) : Int := if r.kind = 0 then 0 else if r.kind = 9 ∧ 0 < r.count then 2 else 1
def wtR (r : Za) : Int := if r.kind = 0 then 0 else if r.kind = 1 then 1 + r.words + r.ptrs else if r.kind = 9 then 1 + r.count * (1 + r.words + r.ptrs) else 1 + r.count
section
variable {A : Zf}
theorem Z1z (hw : WS A.segments) {r : Za} (h : OKr A r) : 0 ≤ wtR r ∧ wtR r ≤ 4503599627370496 ∧ (r.kind ≠ 0 → 1 ≤ wtR r) := by
 cases h with
 | z => simp [wtR, r0]
 | st s a d p hd hp hin => simp [wtR]; omega
 | li k s a n hk hn hin => simp only [wtR]; rw [if_neg (by omega), if_neg (by omega), if_neg (by omega)]; omega
 | co s a d p n hd hp hn hwx hin =>
  simp only [wtR, show ¬ (9 : Int) = 0 from by decide, show ¬ (9 : Int) = 1 from by decide, if_false, if_true]
  have : n * (1 + d + p) = n + n * (d + p) := by rw [Int.add_assoc, Int.mul_add, Int.mul_one]
  omega
 | at_ s a c i n hc h0 h1 hn hin => simp [wtR]
def Yz (A : Zf) (r : Za) : List Int := if r.kind = 10 then [Zt9 A r] else if r.kind = 1 then ((seg A.segments r.segment).drop r.at_.toNat).take r.words.toNat else []
def Xt (f : Za → Int → Tr × Int × Int) (g : Int → Za × Int) : Nat → Nat → Int → List Tr → List Tr × Int × Int
 | 0, _, left, acc => (acc, left, 0)
 | m + 1, i, left, acc => if (g i).2 ≠ 0 then (acc, left, (g i).2) else if (f (g i).1 left).2.2 ≠ 0 then (acc, (f (g i).1 left).2.1, (f (g i).1 left).2.2) else Xt f g m (i + 1) (f (g i).1 left).2.1 (acc ++ [(f (g i).1 left).1])
def stK (A : Zf) (f : Za → Int → Tr × Int × Int) (k : Za) (left : Int) : Tr × Int × Int :=
 let q := Xt f (Y8 A k) k.ptrs.toNat 0 left []
 (⟨1, Yz A k, q.1⟩, q.2)
def Zip (A : Zf) (k : Za) (left : Int) : Tr × Int × Int := (⟨k.kind, Yz A k, []⟩, left, 0)
def Zco (A : Zf) (f1 f2 : Za → Int → Tr × Int × Int) (r : Za) : Za → Int → Tr × Int × Int :=
 if r.kind = 9 then stK A f2 else if r.kind = 1 ∨ r.kind = 8 then f1 else Zip A
def Zhm (A : Zf) (f1 f2 : Za → Int → Tr × Int × Int) (d : Int) (r : Za) (left : Int) : Tr × Int × Int :=
 if r.kind = 0 then (⟨r.kind, Yz A r, []⟩, left, 0)
 else if d < lvR r ∨ left < wtR r then (⟨r.kind, Yz A r, []⟩, left, 3)
 else
  let q := Xt (Zco A f1 f2 r) (Y8 A r) (Yd r).toNat 0 (left - wtR r) []
  (⟨r.kind, Yz A r, q.1⟩, q.2)
def bad (_ : Za) (left : Int) : Tr × Int × Int := (⟨0, [], []⟩, left, 3)
def Zbo (A : Zf) : Nat → Za → Int → Tr × Int × Int
 | 0 => Zhm A bad bad 0
 | 1 => Zhm A (Zbo A 0) bad 1
 | d + 2 => Zhm A (Zbo A (d + 1)) (Zbo A d) ((d + 2 : Nat) : Int)
def Vs (A : Zf) (k : Nat) (d : Nat) : Za → Int → Tr × Int × Int := if k ≤ d then Zbo A (d - k) else bad
theorem Zk8 (d : Nat) : Zbo A d = Zhm A (Vs A 1 d) (Vs A 2 d) (d : Int) := by
 match d with
 | 0 => rfl
 | 1 => rfl
 | d + 2 =>
  unfold Vs
  rw [if_pos (by omega), if_pos (by omega)]
  rfl
def Lf (A : Zf) (f : Za → Int → Tr × Int × Int) : Prop := ∀ k left, OKr A k → 0 ≤ left → (f k left).2.2 = 0 → 0 ≤ (f k left).2.1 ∧ (f k left).2.1 ≤ left
theorem Zk6 {f : Za → Int → Tr × Int × Int} {g : Int → Za × Int} (hf : Lf A f) (hg : ∀ i, OKr A (g i).1) : ∀ (m i : Nat) (left : Int) (acc : List Tr), 0 ≤ left → (Xt f g m i left acc).2.2 = 0 → 0 ≤ (Xt f g m i left acc).2.1 ∧ (Xt f g m i left acc).2.1 ≤ left
 | 0, i, left, acc, h0, _ => ⟨h0, Int.le_refl _⟩
 | m + 1, i, left, acc, h0, h => by
  rw [Xt] at h ⊢
  by_cases h1 : (g i).2 ≠ 0
  ·rw [if_pos h1] at h; exact absurd h h1
  rw [if_neg h1] at h ⊢
  by_cases h2 : (f (g i).1 left).2.2 ≠ 0
  ·rw [if_pos h2] at h; exact absurd h h2
  rw [if_neg h2] at h ⊢
  have h2' : (f (g i).1 left).2.2 = 0 := by omega
  obtain ⟨a1, a2⟩ := hf _ _ (hg i) h0 h2'
  obtain ⟨b1, b2⟩ := Zk6 hf hg m (i + 1) _ _ a1 h
  exact ⟨b1, by omega⟩
theorem Zt4 : Lf A bad := fun k left _ _ h => by simp [bad] at h
theorem Z5o {f : Za → Int → Tr × Int × Int} (hf : Lf A f) : Lf A (stK A f) := fun k left hk h0 h => Zk6 hf (fun i => Vg hk i) _ _ _ _ h0 h
theorem Zzw : Lf A (Zip A) := fun k left _ h0 _ => ⟨h0, Int.le_refl _⟩
theorem Zvl {f1 f2 : Za → Int → Tr × Int × Int} (h1 : Lf A f1) (h2 : Lf A f2) (r : Za) : Lf A (Zco A f1 f2 r) := by
 unfold Zco
 split
 ·exact Z5o h2
 split
 ·exact h1
 exact Zzw
theorem Zzx (hw : WS A.segments) {f1 f2 : Za → Int → Tr × Int × Int} (h1 : Lf A f1) (h2 : Lf A f2) (d : Int) : Lf A (Zhm A f1 f2 d) := fun r left hr h0 h => by
 have hwt := Z1z hw hr
 unfold Zhm at h ⊢
 by_cases k0 : r.kind = 0
 ·rw [if_pos k0]; exact ⟨h0, Int.le_refl _⟩
 rw [if_neg k0] at h ⊢
 by_cases hb : d < lvR r ∨ left < wtR r
 ·rw [if_pos hb] at h; simp at h
 rw [if_neg hb] at h ⊢
 have := Zk6 (Zvl h1 h2 r) (fun i => Vg hr i) (Yd r).toNat 0 (left - wtR r) [] (by omega) h
 simp only
 omega
theorem Zk7 (hw : WS A.segments) : ∀ d, Lf A (Zbo A d) := fun d => by
 induction d using Nat.strongRecOn with
 | ind d ih =>
  rw [Zk8]
  refine Zzx hw ?_ ?_ _
  ·unfold Vs
   split
   ·exact ih _ (by omega)
   exact Zt4
  unfold Vs
  split
  ·exact ih _ (by omega)
  exact Zt4
end
theorem Zr1 {S R : Type} {s1 s2 : S → Option (S ⊕ R)} (h : ∀ s x, s1 s = some x → s2 s = some x) : ∀ (k : Nat) (s : S) (r : R), Uc s1 k s = some r → Uc s2 k s = some r
 | 0, s, r, q => by simp [Uc] at q
 | k + 1, s, r, q => by
  simp only [Uc] at q ⊢
  cases hs : s1 s with
  | none => rw [hs] at q; cases q
  | some x =>
   rw [hs] at q
   rw [h s x hs]
   cases x with
   | inl s' => exact Zr1 h k s' r q
   | inr r' => exact q
theorem Zm1 {S R : Type} {s1 s2 : S → Option (S ⊕ R)} (h : ∀ s x, s1 s = some x → s2 s = some x) {s : S} {r : R} (q : Zx s1 s = some r) : Zx s2 s = some r := by
 obtain ⟨k, hk⟩ := Zer q
 exact Zfj (Zr1 h k s r hk)
theorem Vf {α β : Type} {o o' : Option α} {f f' : α → Option β} (h : ∀ x, o = some x → o' = some x) (hf : ∀ x y, f x = some y → f' x = some y) {r : β} (q : o.bind f = some r) : o'.bind f' = some r := by
 obtain ⟨x, h1, h2⟩ := Option.bind_eq_some_iff.1 q
 rw [h x h1]
 exact hf x r h2
theorem Gv {α : Type} (c : Bool) {a a' b b' : Option α} (h1 : ∀ r, a = some r → a' = some r) (h2 : ∀ r, b = some r → b' = some r) (r : α) (q : cond c a b = some r) : cond c a' b' = some r := by
 cases c with
 | true => exact h1 r q
 | false => exact h2 r q
theorem Zru {R : Type} {F : Nat → Option R} {r : R} (hm : ∀ k r, F k = some r → F (k + 1) = some r) {K : Nat} (h : F K = some r) : lim F = some r := by
 refine Zpy K fun k hk => ?_
 obtain ⟨d, rfl⟩ : ∃ d, k = K + d := ⟨k - K, by omega⟩
 clear hk
 induction d with
 | zero => exact h
 | succ d ih => exact hm _ _ ih
section
variable {A : Zf}
theorem Zdc {r : Za} (h : OKr A r) : 0 ≤ Yd r ∧ Yd r ≤ 1073741824 := by
 cases h with
 | z => simp [Yd, r0]
 | st s a d p hd hp hin => simp only [Yd, if_true]; omega
 | li k s a n hk hn hin => simp only [Yd]; rw [if_neg (by omega)]; omega
 | co s a d p n hd hp hn hwx hin => simp only [Yd]; rw [if_neg (by omega)]; omega
 | at_ s a c i n hc h0 h1 hn hin => simp [Yd]
theorem Zrs {r : Za} (hk : r.kind = 9) {i : Int} (h : 0 ≤ i ∧ i < Yd r) : (Y8 A r i).1.kind = 1 := by
 unfold Y8
 rw [if_neg (by omega), if_neg (by omega), if_neg (by omega), if_pos hk]
def LE3 {α β γ δ : Type} (f g : α → β → γ → Option δ) : Prop := ∀ x y z r, f x y z = some r → g x y z = some r
def Zis (x m : Int) : Int := if m < (if x < 0 then 0 else x) then m else (if x < 0 then 0 else x)
def Vb (x : Zw) : Zw := ⟨Zis x.Depth 64, Zis x.Weight 65536, Zis x.MaxD 4096, Zis x.MaxOut 131072⟩
theorem Zfx (x m : Int) (hm : 0 ≤ m) : 0 ≤ Zis x m ∧ Zis x m ≤ m := by unfold Zis; repeat' split; all_goals omega
def Zy6 (A : Zf) (x : Zw) : Int × Int :=
 if (atR A 0 0).2 ≠ 0 then (0, (atR A 0 0).2)
 else
  let q := Zbo A (Vb x).Depth.toNat (atR A 0 0).1 (Vb x).Weight
  if q.2.2 ≠ 0 then (0, q.2.2) else ((Vb x).Weight - q.2.1, 0)
end
theorem Zcs (x m : Int) (hm : 0 ≤ m) : Xq x m = some (Zis x m) := by
 unfold Xq Zis
 by_cases h : x < 0
 ·rw [decide_eq_true h, if_pos h, if_neg (by omega)]; rfl
 rw [decide_eq_false h, if_neg h]
 by_cases h2 : m < x
 ·rw [decide_eq_true h2, if_pos h2]; rfl
 rw [decide_eq_false h2, if_neg h2]; rfl
theorem Zuh (x : Zw) : Ka x = some (Vb x) := by
 unfold Ka
 rw [Zcs _ _ (by decide), Zcs _ _ (by decide), Zcs _ _ (by decide), Zcs _ _ (by decide)]
 rfl
theorem Zzy (x : Zw) : ∃ w, Km x = some ⟨x.Depth, w, x.MaxD, x.MaxOut⟩ := by
 unfold Km
 cases decide (3000 < x.Weight) with
 | true => exact ⟨3000, rfl⟩
 | false => exact ⟨x.Weight, rfl⟩
theorem Zyp {c : Int} (h : 0 ≤ c ∧ c ≤ 5) : Kp c = some (wdt c) := by
 unfold Kp
 rcases c5 h with rfl | rfl | rfl | rfl | rfl | rfl <;> rfl
theorem Zq3 (q : Int) (n : Nat) (hn : Int.tmod q 64 = (n : Int)) (hn2 : n < 64) : ∀ (m t w : Nat), t + m = n → w < 18446744073709551616 → Zx (Jg q) ((w : Int), (t : Int)) = some ((w / 2 ^ m : Nat) : Int)
 | 0, t, w, h, hw => by
  refine Yw ?_
  unfold Jg
  simp only
  rw [hn, show decide ((t : Int) < (n : Int)) = false from by rw [decide_eq_false_iff_not]; omega, cond_false, Nat.pow_zero, Nat.div_one]
 | m + 1, t, w, h, hw => by
  have hs : Jg q ((w : Int), (t : Int)) = some (.inl (((w / 2 : Nat) : Int), ((t + 1 : Nat) : Int))) := by
   unfold Jg
   simp only
   rw [hn, show decide ((t : Int) < (n : Int)) = true from by rw [decide_eq_true_eq]; omega, cond_true, Int.tdiv_eq_ediv_of_nonneg (by omega), show ((w : Int) / 2) = ((w / 2 : Nat) : Int) from rfl, Z1m _ (by omega), Y3 (by omega) (by omega)]
   rfl
  rw [Xf hs, Zq3 q n hn hn2 m (t + 1) (w / 2) (by omega) (by omega), Nat.div_div_eq_div_mul, Nat.pow_succ, Nat.mul_comm]
theorem Z5b {l : List Int} (hl : ∀ w ∈ l, 0 ≤ w ∧ w < 18446744073709551616) {k : Nat} {w : Int} (hk : k < 1125899906842624) (hg : l[k / 64]? = some w) : Vm l (k : Int) = some ((w.toNat / 2 ^ (k % 64) % 2 : Nat) : Int) := by
 have hi : k / 64 < l.length := by
  rcases Nat.lt_or_ge (k / 64) l.length with h | h
  ·exact h
  rw [List.getElem?_eq_none h] at hg; cases hg
 have hwr := hl w (List.mem_of_getElem? hg)
 unfold Vm
 have t1 : Int.tdiv (k : Int) 64 = ((k / 64 : Nat) : Int) := by rw [Int.tdiv_eq_ediv_of_nonneg (by omega)]; rfl
 have t2 : Int.tmod (k : Int) 64 = ((k % 64 : Nat) : Int) := by rw [Int.tmod_eq_emod_of_nonneg (by omega)]; rfl
 rw [t1, Y3 (x := ((k / 64 : Nat) : Int)) (by omega) (by omega), show decide ((k : Int) < 0) = false from by rw [decide_eq_false_iff_not]; omega, cond_false, show decide ((l.length : Int) ≤ ((k / 64 : Nat) : Int)) = false from by rw [decide_eq_false_iff_not]; omega, cond_false, Qp hg, Option.bind_some]
 have hL := Zq3 (k : Int) (k % 64) t2 (Nat.mod_lt _ (by decide)) (k % 64) 0 w.toNat (by omega) (by omega)
 rw [show ((w.toNat : Nat) : Int) = w by omega, show (((0 : Nat) : Int)) = 0 from rfl] at hL
 rw [hL, Option.bind_some, Int.tmod_eq_emod_of_nonneg (Int.natCast_nonneg _)]
 rfl
theorem Zrh {l : List Int} (hl : ∀ w ∈ l, 0 ≤ w ∧ w < 18446744073709551616) {d q i : Nat} {w : Int} (hd : 1 ≤ d ∧ d ≤ 64) (hi : i * d + d < 1125899906842624) (hq : ∀ j, j < d → (i * d + j) / 64 = q ∧ (i * d + j) % 64 = (i * d) % 64 + j) (hg : l[q]? = some w) : ∀ (m : Nat) (acc : Int), m ≤ d → acc = ((w.toNat / 2 ^ ((i * d) % 64 + m) % 2 ^ (d - m) : Nat) : Int) →
  Zx (Jh l (i : Int) (d : Int)) (acc, (m : Int) - 1) = some ((w.toNat / 2 ^ ((i * d) % 64) % 2 ^ d : Nat) : Int)
 | 0, acc, hm, ha => by
  refine Yw ?_
  unfold Jh
  simp only
  rw [show decide ((0 : Int) ≤ ((0 : Nat) : Int) - 1) = false from rfl, cond_false, ha]
  rfl
 | m + 1, acc, hm, ha => by
  obtain ⟨q1, q2⟩ := hq m (by omega)
  have hb := Z5b hl (k := i * d + m) (w := w) (by omega) (by rw [q1]; exact hg)
  rw [q2] at hb
  have hlt : w.toNat / 2 ^ ((i * d) % 64 + (m + 1)) % 2 ^ (d - (m + 1)) < 2 ^ 63 := Nat.lt_of_lt_of_le (Nat.mod_lt _ (Nat.pow_pos (by decide))) (Nat.pow_le_pow_right (by decide) (by omega))
  have hbit : w.toNat / 2 ^ ((i * d) % 64 + m) % 2 < 2 := Nat.mod_lt _ (by decide)
  have hstep : Jh l (i : Int) (d : Int) (acc, ((m + 1 : Nat) : Int) - 1) = some (.inl (((w.toNat / 2 ^ ((i * d) % 64 + m) % 2 ^ (d - m) : Nat) : Int), (m : Int) - 1)) := by
   unfold Jh
   simp only
   have e1 : IntKind.i64.wrap (IntKind.i64.wrap ((i : Int) * (d : Int)) + (((m + 1 : Nat) : Int) - 1)) = ((i * d + m : Nat) : Int) := by
    have e0 : ((i : Int) * (d : Int)) = ((i * d : Nat) : Int) := by simp
    rw [e0, Y3 (x := ((i * d : Nat) : Int)) (by omega) (by omega), Y3 (by omega) (by omega)]
    omega
   rw [show decide ((0 : Int) ≤ ((m + 1 : Nat) : Int) - 1) = true from by rw [decide_eq_true_eq]; omega, cond_true, e1, hb, Option.bind_some, ha]
   have e2 : ((w.toNat / 2 ^ ((i * d) % 64 + (m + 1)) % 2 ^ (d - (m + 1)) : Nat) : Int) * 2 = ((w.toNat / 2 ^ ((i * d) % 64 + (m + 1)) % 2 ^ (d - (m + 1)) * 2 : Nat) : Int) := by simp
   rw [e2, Z1m _ (by omega), ← Int.natCast_add, Z1m _ (by omega), Y3 (by omega) (by omega)]
   have e3 : w.toNat / 2 ^ ((i * d) % 64 + (m + 1)) % 2 ^ (d - (m + 1)) * 2 + w.toNat / 2 ^ ((i * d) % 64 + m) % 2 = w.toNat / 2 ^ ((i * d) % 64 + m) % 2 ^ (d - m) := by
    have h1 : w.toNat / 2 ^ ((i * d) % 64 + (m + 1)) = w.toNat / 2 ^ ((i * d) % 64 + m) / 2 := by
     rw [Nat.div_div_eq_div_mul, ← Nat.pow_succ]; rfl
    have h2 : d - m = (d - (m + 1)) + 1 := by omega
    rw [h1, h2]
    generalize w.toNat / 2 ^ ((i * d) % 64 + m) = x
    generalize d - (m + 1) = y
    rw [Nat.pow_succ, Nat.mul_comm (2 ^ y) 2, Nat.mod_mul]
    omega
   rw [e3]
   congr 3
   omega
  rw [Xf hstep]
  exact Zrh hl hd hi hq hg m _ (by omega) rfl
theorem Z2r {l : List Int} (hl : ∀ w ∈ l, 0 ≤ w ∧ w < 18446744073709551616) {c i n : Int} (hc : 0 ≤ c ∧ c ≤ 5) (h0 : 0 ≤ i) (h1 : i < n) (hn : n < 536870912) (hi : (n * wdt c + 63) / 64 ≤ l.length) : Vn l c i = some (if c = 0 then 0 else Zr8 ((l[(i / each c).toNat]?).getD 0) c (i % each c)) := by
 unfold Vn
 rw [Zyp hc, Option.bind_some]
 by_cases hz : c = 0
 ·subst hz
  rw [if_pos rfl]
  rfl
 rw [if_neg hz]
 obtain ⟨d, e, hd⟩ : ∃ d : Nat, wdt c = (d : Int) ∧ (d = 1 ∨ d = 8 ∨ d = 16 ∨ d = 32 ∨ d = 64) := by
  rcases c5 hc with rfl | rfl | rfl | rfl | rfl | rfl
  ·omega
  ·exact ⟨1, rfl, by omega⟩
  ·exact ⟨8, rfl, by omega⟩
  ·exact ⟨16, rfl, by omega⟩
  ·exact ⟨32, rfl, by omega⟩
  exact ⟨64, rfl, by omega⟩
 obtain ⟨j, rfl⟩ : ∃ j : Nat, i = j := ⟨i.toNat, by omega⟩
 have he : each c = ((64 / d : Nat) : Int) := by unfold each; rw [e]; rfl
 rw [e] at hi ⊢
 rw [show decide ((d : Int) < 1) = false from by rw [decide_eq_false_iff_not]; omega, show decide ((j : Int) < 0) = false from by rw [decide_eq_false_iff_not]; omega, show decide (1099511627776 < (j : Int)) = false from by rw [decide_eq_false_iff_not]; omega]
 simp only [cond_false]
 rw [Y3 (x := (d : Int) - 1) (by omega) (by omega)]
 have hqn : ((j : Int) / each c).toNat = j / (64 / d) := by rw [he]; rfl
 have hrn : ((j : Int) % each c) = ((j % (64 / d) : Nat) : Int) := by rw [he]; rfl
 rw [hqn, hrn]
 have hin : j / (64 / d) < l.length ∧ ∀ t, t < d → (j * d + t) / 64 = j / (64 / d) ∧ (j * d + t) % 64 = (j * d) % 64 + t := by
  rcases hd with rfl | rfl | rfl | rfl | rfl
  ·exact ⟨by omega, fun t ht => by omega⟩
  ·exact ⟨by omega, fun t ht => by omega⟩
  ·exact ⟨by omega, fun t ht => by omega⟩
  ·exact ⟨by omega, fun t ht => by omega⟩
  exact ⟨by omega, fun t ht => by omega⟩
 have hoff : (j * d) % 64 = (j % (64 / d)) * d := by
  rcases hd with rfl | rfl | rfl | rfl | rfl
  ·omega
  ·omega
  ·omega
  ·omega
  omega
 have hg : l[j / (64 / d)]? = some l[j / (64 / d)] := List.getElem?_eq_getElem hin.1
 have hjd : j * d ≤ 536870912 * 64 := Nat.mul_le_mul (by omega) (by omega)
 rw [Zrh hl (d := d) (i := j) (by omega) (by omega) hin.2 hg d 0 (Nat.le_refl _) (by rw [Nat.sub_self, Nat.pow_zero, Nat.mod_one]; rfl), Option.bind_some, hg, Option.getD_some]
 unfold Zr8
 rw [e, hoff]
 congr 4
section
variable {A : Zf}
def Ki (A : Zf) (r : Za) : Zm :=
 if r.kind = 0 then ⟨0, 0, 0, 0, 0, 0, 0⟩
 else if r.kind = 1 then ⟨1, r.segment, r.at_, r.words, r.ptrs, 0, 0⟩
 else if r.kind = 9 then ⟨9, r.segment, r.at_ + 1, r.words, r.ptrs, r.count, 0⟩
 else if r.kind = 10 then ⟨10, 0, 0, 0, 0, 0, Zt9 A r⟩
 else ⟨r.kind, r.segment, r.at_, 0, 0, r.count, 0⟩
def Zm6 (A : Zf) (x : Za × Int) : Zm × Int := (Ki A x.1, x.2)
theorem Zcx {r : Za} : (Ki A r).Kind = r.kind := by
 unfold Ki
 split
 ·symm; assumption
 split
 ·symm; assumption
 split
 ·symm; assumption
 split
 ·symm; assumption
 rfl
theorem Z16 {w : Int} (h : 0 ≤ w) : (dc w).Kind = 0 ↔ w = 0 := by
 unfold dc Ztt
 constructor
 ·intro q
  split at q
  ·omega
  split at q
  ·simp at q
  split at q
  ·simp at q
  split at q
  ·simp at q
  simp at q
 intro q
 rw [if_pos (by omega)]
theorem Zue (hw : WS A.segments) (s a : Int) : J7 A.segments s a = some (Zm6 A (atR A s a)) := by
 have hk0 := Zlx A.segments s a
 have hR : Ji A.segments s a = some (⟨(fol A.segments s a).1.P, (fol A.segments s a).1.Segment, (fol A.segments s a).1.At⟩, (fol A.segments s a).2) := Zug hw s a
 unfold J7 atR
 rw [hR, Option.bind_some]
 clear hR
 revert hk0
 generalize fol A.segments s a = y
 intro hk0
 obtain ⟨x, e⟩ := y
 dsimp only at hk0 ⊢
 rcases hk0 with h | ⟨h1, hp, hk, hi⟩
 ·rw [if_pos h]
  have : cond (e != 0) true (x.P.Kind == 0) = true := by
   rcases h with h | h
   ·rw [bne_iff_ne.2 h]; rfl
   rw [show (x.P.Kind == 0) = true from by rw [h]; rfl]
   cases (e != 0) <;> rfl
  rw [this, cond_true]; rfl
 rw [if_neg (by omega), h1, show ((0 : Int) != 0) = false from rfl, cond_false]
 rw [show (x.P.Kind == 0) = false from Vv (by omega), cond_false]
 by_cases k1 : x.P.Kind = 1
 ·rw [if_pos k1, show (x.P.Kind == 1) = true from by rw [k1]; rfl, cond_true]
  rfl
 rw [if_neg k1, show (x.P.Kind == 1) = false from Vv k1, cond_false]
 have hc := hp.c
 by_cases c7' : x.P.Code = 7
 ·rw [if_pos c7', show decide (x.P.Code < 7) = false from by rw [decide_eq_false_iff_not]; omega, cond_false]
  have hpw : pw x.P = x.P.Count + 1 := by unfold pw; rw [if_neg k1, if_pos c7']
  rw [hpw] at hi
  have hn := hp.n
  have hi' := inB_iff.1 hi
  have hi1 : inB A.segments x.Segment x.At 1 = true := inB_iff.2 ⟨hi'.1, hi'.2.1, hi'.2.2.1, by omega, by omega⟩
  have hwr := Zfq hw x.Segment x.At
  have hrr := Zi4 hw hi
  rw [(Zah hi'.1 hi'.2.1).1, Option.bind_some, (Zj3 hi1).1, Option.bind_some, Zmt hwr, Option.bind_some]
  have ht := Zuk (wd A.segments x.Segment x.At)
  have ho := (Zfy (wd A.segments x.Segment x.At)).o
  have hdz := Z16 hwr.1
  generalize dc (wd A.segments x.Segment x.At) = t at *
  have hm := Zz3 (n := t.Off) (x := t.Data + t.Ptrs) ho (by omega)
  rw [Y3 (x := t.Data + t.Ptrs) (by omega) (by omega), Y3 (x := t.Off * (t.Data + t.Ptrs)) (by omega) (by omega), Y3 (x := x.At + 1) (by omega) (by omega)]
  by_cases hq : (t.Kind ≠ 0 ∧ t.Kind ≠ 1) ∨ t.Off < 0 ∨ x.P.Count < t.Off * (t.Data + t.Ptrs)
  ·rw [if_pos hq]
   have : cond (cond (cond (wd A.segments x.Segment x.At != 0) (t.Kind != 1) false) true (decide (t.Off < 0))) true (decide (x.P.Count < t.Off * (t.Data + t.Ptrs))) = true := by
    rcases hq with ⟨q1, q2⟩ | q | q
    ·rw [bne_iff_ne.2 (fun z => q1 (hdz.2 z)), bne_iff_ne.2 q2]; rfl
    ·rw [decide_eq_true q]; cases (cond (wd A.segments x.Segment x.At != 0) (t.Kind != 1) false) <;> rfl
    rw [decide_eq_true q]; cases (cond (cond (wd A.segments x.Segment x.At != 0) (t.Kind != 1) false) true (decide (t.Off < 0))) <;> rfl
   rw [this, cond_true]; rfl
  rw [if_neg hq]
  have e1 : cond (wd A.segments x.Segment x.At != 0) (t.Kind != 1) false = false := by
   by_cases q0 : wd A.segments x.Segment x.At = 0
   ·rw [show (wd A.segments x.Segment x.At != 0) = false from bne_eq_false_iff_eq.2 q0]; rfl
   have q1 : t.Kind = 1 := by
    have : t.Kind ≠ 0 := fun z => q0 (hdz.1 z)
    omega
   rw [show (t.Kind != 1) = false from by rw [q1]; rfl]
   cases (wd A.segments x.Segment x.At != 0) <;> rfl
  rw [e1, cond_false, show decide (t.Off < 0) = false from by rw [decide_eq_false_iff_not]; omega, cond_false, show decide (x.P.Count < t.Off * (t.Data + t.Ptrs)) = false from by rw [decide_eq_false_iff_not]; omega]
  rfl
 rw [if_neg c7', show decide (x.P.Code < 7) = true from by rw [decide_eq_true_eq]; omega, cond_true, Y3 (x := 2 + x.P.Code) (by omega) (by omega)]
 unfold Zm6 Ki
 simp only
 rw [if_neg (by omega), if_neg (by omega), if_neg (by omega), if_neg (by omega), show 2 + x.P.Code = x.P.Code + 2 by omega]
theorem Zg3 {r : Za} (h : OKr A r) : Xu (Ki A r) = some (Yd r) := by
 unfold Xu
 rw [Zcx]
 unfold Yd Ki
 by_cases h1 : r.kind = 1
 ·rw [if_pos h1, show (r.kind == 1) = true from by rw [h1]; rfl, cond_true, if_neg (by omega), if_pos h1]
 rw [if_neg h1, show (r.kind == 1) = false from Vv h1, cond_false]
 by_cases h0 : r.kind = 0
 ·rw [if_pos h0]
  cases h with
  | z => rfl
  | st => simp at h0
  | li k s a n hk => simp only at h0; omega
  | co => simp at h0
  | at_ => simp at h0
 rw [if_neg h0, if_neg h1]
 by_cases h9 : r.kind = 9
 ·rw [if_pos h9]
 rw [if_neg h9]
 by_cases h10 : r.kind = 10
 ·rw [if_pos h10]
  cases h with
  | z => rfl
  | st => rfl
  | li k s a n hk => simp only at h10; omega
  | co => simp at h10
  | at_ => rfl
 rw [if_neg h10]
theorem Zil (hw : WS A.segments) {r : Za} (h : OKr A r) : Xm (Ki A r) A.segments = some (Yz A r) := by
 unfold Xm
 rw [Zcx]
 unfold Yz Ki
 cases h with
 | z => rfl
 | li k s a n hk hn hin =>
  simp only
  rw [show (k == 10) = false from Vv (by omega), cond_false, show (k != 1) = true from bne_iff_ne.2 (by omega), cond_true, if_neg (by omega), if_neg (by omega)]
 | co s a d p n hd hp hn hwx hin => rfl
 | at_ s a c i n hc h0 h1 hn hin => rfl
 | st s a d p hd hp hin =>
  have hi' := inB_iff.1 hin
  have hl := Zfl hw s
  simp only [show ((1 : Int) == 10) = false from rfl, show ((1 : Int) != 1) = false from rfl, cond_false, show ¬ (1 : Int) = 0 from by decide, show ¬ (1 : Int) = 10 from by decide, if_false, if_true]
  rw [(Zah hi'.1 hi'.2.1).1, Option.bind_some, Y3 (x := a + d) (by omega) (by omega), Zlf (by omega) (by omega) (by omega), Option.bind_some, show a + d - a = d by omega, Gu (by simp only [List.length_nil, List.length_take, List.length_drop]; omega) (by simp only [List.length_nil, List.length_take, List.length_drop]; omega), List.nil_append]
  rfl
theorem Z0u (hw : WS A.segments) (s : Int) : ∀ w ∈ seg A.segments s, 0 ≤ w ∧ w < 18446744073709551616 := by
 unfold seg
 cases h : A.segments[s.toNat]? with
 | none => simp
 | some x => exact hw.w x (List.mem_of_getElem? h)
theorem Zsq (hw : WS A.segments) {r : Za} (h : OKr A r) (i : Int) : Q1 (Ki A r) A.segments i = some (Zm6 A (Y8 A r i)) := by
 unfold Q1 Y8
 rw [Zg3 h, Zcx]
 have hz : (cond (decide (i < 0)) (some true) ((some (Yd r)).bind fun y4 => some (cond (decide (i < 0)) true (decide (y4 ≤ i))))) = some (decide (i < 0 ∨ Yd r ≤ i)) := by
  by_cases h0 : i < 0
  ·rw [decide_eq_true h0, cond_true, show decide (i < 0 ∨ Yd r ≤ i) = true from decide_eq_true (.inl h0)]
  rw [decide_eq_false h0, cond_false, Option.bind_some, cond_false]
  congr 1
  rw [decide_eq_decide]
  omega
 rw [hz, Option.bind_some]
 by_cases hi : i < 0 ∨ Yd r ≤ i
 ·rw [if_pos hi, decide_eq_true hi]; rfl
 rw [if_neg hi, decide_eq_false hi, cond_false]
 cases h with
 | z => exact absurd hi (by first | (simp [Yd, r0]; done) | (simp [Yd, r0]; omega))
 | at_ => exact absurd hi (by first | (simp [Yd]; done) | (simp [Yd]; omega))
 | st s a d p hd hp hin =>
  have := Zi4 hw hin
  simp only [Yd, if_true] at hi
  have e : Ki A (⟨some A, 1, s, a, d, p, 0, 0, 0⟩ : Za) = ⟨1, s, a, d, p, 0, 0⟩ := rfl
  simp only [e, beq_self_eq_true, cond_true, if_true]
  rw [Y3 (x := a + d) (by omega) (by omega), Y3 (by omega) (by omega), Zue hw]
  rfl
 | co s a d p n hd hp hn hwx hin =>
  have := Zi4 hw hin
  simp only [Yd] at hi
  rw [if_neg (by omega)] at hi
  have e : Ki A (⟨some A, 9, s, a, d, p, n, 0, 0⟩ : Za) = ⟨9, s, a + 1, d, p, n, 0⟩ := rfl
  simp only [e, show ((9 : Int) == 1) = false from rfl, show ((9 : Int) == 8) = false from rfl, show ((9 : Int) == 9) = true from rfl, cond_true, cond_false, show ¬ (9 : Int) = 1 from by decide, show ¬ (9 : Int) = 8 from by decide, if_false, if_true]
  have h1 : 0 ≤ i * (d + p) := Int.mul_nonneg (by omega) (by omega)
  have h2 : (i + 1) * (d + p) ≤ n * (d + p) := Int.mul_le_mul_of_nonneg_right (by omega) (by omega)
  rw [Int.add_mul, Int.one_mul] at h2
  rw [Y3 (x := d + p) (by omega) (by omega), Y3 (x := i * (d + p)) (by omega) (by omega), Y3 (by omega) (by omega)]
  rfl
 | li k s a n hk hn hin =>
  have hr := Zi4 hw hin
  have hi' := inB_iff.1 hin
  simp only [Yd] at hi
  rw [if_neg (by omega)] at hi
  have e : Ki A (⟨some A, k, s, a, 0, 0, n, 0, 0⟩ : Za) = ⟨k, s, a, 0, 0, n, 0⟩ := by
   unfold Ki
   simp only
   rw [if_neg (by omega), if_neg (by omega), if_neg (by omega), if_neg (by omega)]
  simp only [e]
  rw [show (k == 1) = false from Vv (by omega), cond_false, if_neg (by omega), show (k == 9) = false from Vv (by omega)]
  by_cases k8 : k = 8
  ·have hp : (n * wdt (k - 2) + 63) / 64 = n := by rw [k8]; simp [wdt]; omega
   rw [show (k == 8) = true from by rw [k8]; rfl, cond_true, if_pos k8, Y3 (by omega) (by omega), Zue hw]
   rfl
  rw [show (k == 8) = false from Vv k8, cond_false, cond_false, if_neg k8, if_neg (by omega), Y3 (by omega) (by omega), (Zah hi'.1 hi'.2.1).1, Option.bind_some, Zlf (by omega) (by omega) (by omega), Option.bind_some]
  have hlen : ((seg A.segments s).drop a.toNat).length = (seg A.segments s).length - a.toNat := List.length_drop
  have htk : ((seg A.segments s).drop a.toNat).take (((seg A.segments s).length : Int) - a).toNat = (seg A.segments s).drop a.toNat := List.take_of_length_le (by rw [hlen]; omega)
  rw [htk, Z2r (fun w hm => Z0u hw s w (List.mem_of_mem_drop hm)) (c := k - 2) (n := n) (by omega) (by omega) (by omega) (by omega) (by rw [hlen]; omega), Option.bind_some]
  unfold Zm6 Ki Zt9
  simp only [show ¬ (10 : Int) = 0 from by decide, show ¬ (10 : Int) = 1 from by decide, show ¬ (10 : Int) = 9 from by decide, if_false, if_true]
  congr 3
  by_cases hz : k - 2 = 0
  ·rw [if_pos hz, if_pos hz]
  rw [if_neg hz, if_neg hz]
  obtain ⟨a1, a2, a3, a4, a5, a6, a7, a8⟩ := Zus (c := k - 2) (i := i) (n := n) (by omega) (by omega) (by omega) (by omega)
  unfold wd
  rw [List.getElem?_drop, show (a + i / each (k - 2)).toNat = a.toNat + (i / each (k - 2)).toNat by omega]
end
theorem Z7a (t : Tr) : (⟨t.Kind, t.Words, t.Kids⟩ : Tr) = t := by cases t; rfl
section
variable {A : Zf}
theorem Zjt {step : Int × Int × List Tr → Option ((Int × Int × List Tr) ⊕ ((Int × Int × List Tr) ⊕ (Int × List Tr)))} {f : Za → Int → Tr × Int × Int} {r : Za} (hr : OKr A r) (n : Nat) (hn : n ≤ 1073741824)
  (hs : ∀ (i : Nat) (left : Int) (acc : List Tr), i < n → acc.length = i → 0 ≤ left ∧ left ≤ 65536 → step (left, (i : Int), acc) = some (if (Y8 A r i).2 ≠ 0 then .inr (.inl (left, (Y8 A r i).2, acc)) else if (f (Y8 A r i).1 left).2.2 ≠ 0 then .inr (.inl ((f (Y8 A r i).1 left).2.1, (f (Y8 A r i).1 left).2.2, acc)) else .inl ((f (Y8 A r i).1 left).2.1, ((i + 1 : Nat) : Int), acc ++ [(f (Y8 A r i).1 left).1])))
  (he : ∀ left acc, step (left, (n : Int), acc) = some (.inr (.inr (left, acc))))
  (hf : Lf A f) : ∀ (m i : Nat) (left : Int) (acc : List Tr), i + m = n → acc.length = i → 0 ≤ left ∧ left ≤ 65536 →
  Zx step (left, (i : Int), acc) = some (if (Xt f (Y8 A r) m i left acc).2.2 = 0 then .inr ((Xt f (Y8 A r) m i left acc).2.1, (Xt f (Y8 A r) m i left acc).1) else .inl ((Xt f (Y8 A r) m i left acc).2.1, (Xt f (Y8 A r) m i left acc).2.2, (Xt f (Y8 A r) m i left acc).1))
 | 0, i, left, acc, hi, ha, hl => by
  have : i = n := by omega
  subst this
  exact Yw (he left acc)
 | m + 1, i, left, acc, hi, ha, hl => by
  have hst := hs i left acc (by omega) ha hl
  rw [Xt]
  by_cases h1 : (Y8 A r i).2 ≠ 0
  ·rw [if_pos h1] at hst ⊢
   rw [if_neg h1]
   exact Yw hst
  rw [if_neg h1] at hst ⊢
  by_cases h2 : (f (Y8 A r i).1 left).2.2 ≠ 0
  ·rw [if_pos h2] at hst ⊢
   rw [if_neg h2]
   exact Yw hst
  rw [if_neg h2] at hst ⊢
  have hb := hf _ left (Vg hr i) hl.1 (by omega)
  rw [Xf hst]
  exact Zjt hr n hn hs he hf m (i + 1) _ _ (by omega) (by rw [List.length_append, ha]; rfl) ⟨hb.1, by omega⟩
abbrev MF := List (List Int) → Zm → Int → Int → Option (Tr × Int × Int)
theorem Zud (hw : WS A.segments) {f1 f2 : MF} {f : Za → Int → Tr × Int × Int} (hf : Lf A f) {r : Za} (hr : OKr A r) (h1 : r.kind = 1) {d left : Int} (hl : 0 ≤ left ∧ left ≤ 65536)
  (hF : ∀ (k : Za) (l : Int), OKr A k → 0 ≤ l ∧ l ≤ 65536 → f1 A.segments (Ki A k) d l = some (f k l)) : J4 f1 f2 A.segments (Ki A r) d left = some (stK A f r left) := by
 have hp : (Ki A r).Ptrs = r.ptrs := by unfold Ki; rw [if_neg (by omega), if_pos h1]
 have hpr : 0 ≤ r.ptrs ∧ r.ptrs < 65536 := by
  cases hr with
  | z => simp [r0] at h1
  | st s a d p hd hp2 hin => exact hp2
  | li k s a n hk => simp only at h1; omega
  | co => simp at h1
  | at_ => simp at h1
 unfold J4 stK
 rw [Zil hw hr, Option.bind_some]
 have hL := Zjt (step := Jw f1 A.segments (Ki A r) d) (f := f) hr r.ptrs.toNat (by omega) (fun i l acc hi ha hl => by
  unfold Jw
  simp only
  rw [hp, show decide ((i : Int) < r.ptrs) = true from by rw [decide_eq_true_eq]; omega, cond_true, Zsq hw hr, Option.bind_some]
  simp only [Zm6]
  by_cases h1 : (Y8 A r i).2 ≠ 0
  ·rw [if_pos h1, bne_iff_ne.2 h1, cond_true]
  rw [if_neg h1, bne_eq_false_iff_eq.2 (show (Y8 A r i).2 = 0 by omega), cond_false, hF _ l (Vg hr i) hl, Option.bind_some]
  by_cases h2 : (f (Y8 A r i).1 l).2.2 ≠ 0
  ·rw [if_pos h2, bne_iff_ne.2 h2, cond_true]
  rw [if_neg h2, bne_eq_false_iff_eq.2 (show (f (Y8 A r i).1 l).2.2 = 0 by omega), cond_false, Gu (by simp only [List.length_singleton]; omega) (by simp only [List.length_singleton]; omega), Option.bind_some, Y3 (by omega) (by omega)]
  rfl) (fun l acc => by
  unfold Jw
  simp only
  rw [hp, show decide (((r.ptrs.toNat : Nat) : Int) < r.ptrs) = false from by rw [decide_eq_false_iff_not]; omega, cond_false]) hf r.ptrs.toNat 0 left [] (by omega) rfl hl
 rw [show (((0 : Nat) : Int)) = 0 from rfl] at hL
 rw [hL, Option.bind_some]
 by_cases hq : (Xt f (Y8 A r) r.ptrs.toNat 0 left []).2.2 = 0
 ·rw [if_pos hq]
  simp only
  rw [show (Xt f (Y8 A r) r.ptrs.toNat 0 left []).2 = ((Xt f (Y8 A r) r.ptrs.toNat 0 left []).2.1, 0) from by rw [← hq]]
 rw [if_neg hq]
theorem Zum {r : Za} (hr : OKr A r) : (r.kind = 1 → (Ki A r).Data = r.words ∧ (Ki A r).Ptrs = r.ptrs) ∧ (r.kind = 9 → (Ki A r).Data = r.words ∧ (Ki A r).Ptrs = r.ptrs ∧ (Ki A r).Count = r.count) := by
 refine ⟨fun h => ?_, fun h => ?_⟩
 ·unfold Ki
  rw [if_neg (by omega), if_pos h]
  exact ⟨rfl, rfl⟩
 unfold Ki
 rw [if_neg (by omega), if_neg (by omega), if_pos h]
 exact ⟨rfl, rfl, rfl⟩
theorem Z0k (hw : WS A.segments) {f1 f2 : MF} {g1 g2 : Za → Int → Tr × Int × Int} (l1 : Lf A g1) (l2 : Lf A g2) {r : Za} (hr : OKr A r) {d left : Int} (hd : 0 ≤ d ∧ d ≤ 1000) (hl : 0 ≤ left ∧ left ≤ 65536)
  (h1 : 1 ≤ d → ∀ (k : Za) (l : Int), OKr A k → 0 ≤ l ∧ l ≤ 65536 → f1 A.segments (Ki A k) (d - 1) l = some (g1 k l))
  (h2 : 2 ≤ d → ∀ (k : Za) (l : Int), OKr A k → k.kind = 1 → 0 ≤ l ∧ l ≤ 65536 → f2 A.segments (Ki A k) (d - 2) l = some (stK A g2 k l)) : Qx f1 f2 A.segments (Ki A r) d left = some (Zhm A g1 g2 d r left) := by
 have hwt := Z1z hw hr
 have hkn := Zdc hr
 obtain ⟨fr1, fr9⟩ := Zum hr
 unfold Qx Zhm
 rw [Zil hw hr, Option.bind_some, Zcx, Zg3 hr]
 by_cases k0 : r.kind = 0
 ·rw [if_pos k0, show (r.kind == 0) = true from by rw [k0]; rfl, cond_true]
 rw [if_neg k0, show (r.kind == 0) = false from Vv k0, cond_false]
 have hlv : (cond (decide (d < 1)) true (cond (cond (r.kind == 9) (decide (0 < (Ki A r).Count)) false) (decide (d < 2)) false)) = decide (d < lvR r) := by
  unfold lvR
  rw [if_neg k0]
  by_cases k9 : r.kind = 9
  ·rw [show (r.kind == 9) = true from by rw [k9]; rfl, (fr9 k9).2.2, cond_true]
   by_cases hc : 0 < r.count
   ·rw [if_pos ⟨k9, hc⟩, decide_eq_true hc, cond_true]
    by_cases hd1 : d < 1
    ·rw [decide_eq_true hd1, cond_true, decide_eq_true (show d < 2 by omega)]
    rw [decide_eq_false hd1, cond_false]
   rw [if_neg (fun q => hc q.2), decide_eq_false hc, cond_false]
   cases decide (d < 1) <;> rfl
  rw [show (r.kind == 9) = false from Vv k9, cond_false, cond_false, if_neg (fun q => k9 q.1)]
  cases decide (d < 1) <;> rfl
 rw [hlv]
 have hwx : ((cond (r.kind == 1) (some (IntKind.i64.wrap ((IntKind.i64.wrap (1 + (Ki A r).Data)) + (Ki A r).Ptrs))) (some (IntKind.i64.wrap (1 + Yd r)))).bind fun (z5 : Int) => (cond (r.kind == 9) (some (IntKind.i64.wrap (1 + (IntKind.i64.wrap ((Ki A r).Count * (IntKind.i64.wrap ((IntKind.i64.wrap (1 + (Ki A r).Data)) + (Ki A r).Ptrs))))))) (some z5))) = some (wtR r) := by
  unfold wtR
  rw [if_neg k0]
  by_cases k1 : r.kind = 1
  ·rw [if_pos k1, show (r.kind == 1) = true from by rw [k1]; rfl, cond_true, Option.bind_some, show (r.kind == 9) = false from Vv (by omega), cond_false, (fr1 k1).1, (fr1 k1).2]
   cases hr with
   | z => simp [r0] at k1
   | st s a d p hd hp hin => simp only; rw [Y3 (x := 1 + d) (by omega) (by omega), Y3 (by omega) (by omega)]
   | li k s a n hk => simp only at k1; omega
   | co => simp at k1
   | at_ => simp at k1
  rw [if_neg k1, show (r.kind == 1) = false from Vv k1, cond_false, Option.bind_some]
  by_cases k9 : r.kind = 9
  ·rw [if_pos k9, show (r.kind == 9) = true from by rw [k9]; rfl, cond_true, (fr9 k9).1, (fr9 k9).2.1, (fr9 k9).2.2]
   cases hr with
   | z => simp [r0] at k9
   | st => simp at k9
   | li k s a n hk => simp only at k9; omega
   | at_ => simp at k9
   | co s a d p n hd hp hn hwx hin =>
    have : n * (1 + d + p) = n + n * (d + p) := by rw [Int.add_assoc, Int.mul_add, Int.mul_one]
    simp only
    rw [Y3 (x := 1 + d) (by omega) (by omega), Y3 (x := 1 + d + p) (by omega) (by omega), Y3 (x := n * (1 + d + p)) (by omega) (by omega), Y3 (by omega) (by omega)]
  have hkc : Yd r = r.count := by unfold Yd; rw [if_neg k1]
  rw [if_neg k9, show (r.kind == 9) = false from Vv k9, cond_false, Y3 (by omega) (by omega), hkc]
 by_cases hb1 : d < lvR r
 ·rw [decide_eq_true hb1, cond_true, if_pos (.inl hb1)]
 rw [decide_eq_false hb1, cond_false, Option.bind_some]
 have hstep2 : ∀ {K : Int → Option (Tr × Int × Int)}, ((cond (r.kind == 1) (some (IntKind.i64.wrap ((IntKind.i64.wrap (1 + (Ki A r).Data)) + (Ki A r).Ptrs))) (some (IntKind.i64.wrap (1 + Yd r)))).bind fun (z5 : Int) => (cond (r.kind == 9) (some (IntKind.i64.wrap (1 + (IntKind.i64.wrap ((Ki A r).Count * (IntKind.i64.wrap ((IntKind.i64.wrap (1 + (Ki A r).Data)) + (Ki A r).Ptrs))))))) (some z5)).bind K) = K (wtR r) := fun {K} => by
  rw [← Option.bind_assoc, hwx, Option.bind_some]
 rw [hstep2]
 by_cases hb2 : left < wtR r
 ·rw [decide_eq_true hb2, cond_true, if_pos (.inr hb2)]
 rw [decide_eq_false hb2, cond_false, if_neg (by omega), Y3 (x := left - wtR r) (by omega) (by omega)]
 have hlvd : 1 ≤ d := by
  have : 1 ≤ lvR r := by unfold lvR; rw [if_neg k0]; split <;> omega
  omega
 have hN : Yd r = (((Yd r).toNat : Nat) : Int) := by omega
 -- one kid
 have hkf : ∀ (i : Nat) (l : Int), i < (Yd r).toNat → (Y8 A r i).2 = 0 → 0 ≤ l ∧ l ≤ 65536 → (cond (r.kind == 9) ((f2 A.segments (Ki A (Y8 A r i).1) (IntKind.i64.wrap (d - 2)) l).bind fun y16 => some (y16.2.1, y16.2.2, y16.1.Kind, y16.1.Words, y16.1.Kids)) (cond (cond (r.kind == 1) true (r.kind == 8)) ((f1 A.segments (Ki A (Y8 A r i).1) (IntKind.i64.wrap (d - 1)) l).bind fun y17 => some (y17.2.1, y17.2.2, y17.1.Kind, y17.1.Words, y17.1.Kids)) (some (l, (Y8 A r i).2, (Y8 A r i).1.kind, Yz A (Y8 A r i).1, ([] : List Tr))))) = some ((Zco A g1 g2 r (Y8 A r i).1 l).2.1, (Zco A g1 g2 r (Y8 A r i).1 l).2.2, (Zco A g1 g2 r (Y8 A r i).1 l).1.Kind, (Zco A g1 g2 r (Y8 A r i).1 l).1.Words, (Zco A g1 g2 r (Y8 A r i).1 l).1.Kids) := fun i l hi he hl => by
  rw [Y3 (x := d - 2) (by omega) (by omega), Y3 (x := d - 1) (by omega) (by omega)]
  unfold Zco
  by_cases k9 : r.kind = 9
  ·have hkc : Yd r = r.count := by unfold Yd; rw [if_neg (by omega)]
   have hd2 : 2 ≤ d := by
    have : lvR r = 2 := by unfold lvR; rw [if_neg k0, if_pos ⟨k9, by omega⟩]
    omega
   rw [if_pos k9, show (r.kind == 9) = true from by rw [k9]; rfl, cond_true, h2 hd2 _ l (Vg hr i) (Zrs k9 ⟨by omega, by omega⟩) hl, Option.bind_some]
  rw [if_neg k9, show (r.kind == 9) = false from Vv k9, cond_false]
  by_cases k18 : r.kind = 1 ∨ r.kind = 8
  ·have e1 : cond (r.kind == 1) true (r.kind == 8) = true := by rcases k18 with k | k <;> rw [k] <;> rfl
   rw [if_pos k18, e1, cond_true, h1 hlvd _ l (Vg hr i) hl, Option.bind_some]
  rw [if_neg k18, show (r.kind == 1) = false from Vv (by omega), show (r.kind == 8) = false from Vv (by omega), cond_false, cond_false, he]
  rfl
 have hL := Zjt (step := Qy f1 f2 A.segments (Ki A r) d) (f := Zco A g1 g2 r) hr (Yd r).toNat (by omega) (fun i l acc hi ha hl => by
  unfold Qy
  simp only
  rw [Zg3 hr, Option.bind_some, show decide ((i : Int) < Yd r) = true from by rw [decide_eq_true_eq]; omega, cond_true, Zsq hw hr, Option.bind_some]
  simp only [Zm6]
  by_cases q1 : (Y8 A r i).2 ≠ 0
  ·rw [if_pos q1, bne_iff_ne.2 q1, cond_true]
  rw [if_neg q1, bne_eq_false_iff_eq.2 (show (Y8 A r i).2 = 0 by omega), cond_false, Zil hw (Vg hr i), Option.bind_some, Zcx, Zcx, hkf i l hi (by omega) hl, Option.bind_some]
  simp only [Z7a]
  by_cases q2 : (Zco A g1 g2 r (Y8 A r i).1 l).2.2 ≠ 0
  ·rw [if_pos q2, bne_iff_ne.2 q2, cond_true]
  rw [if_neg q2, bne_eq_false_iff_eq.2 (show (Zco A g1 g2 r (Y8 A r i).1 l).2.2 = 0 by omega), cond_false, Gu (by simp only [List.length_singleton]; omega) (by simp only [List.length_singleton]; omega), Option.bind_some, Y3 (by omega) (by omega)]
  rfl) (fun l acc => by
  unfold Qy
  simp only
  rw [Zg3 hr, Option.bind_some, show decide ((((Yd r).toNat : Nat) : Int) < Yd r) = false from by rw [decide_eq_false_iff_not]; omega, cond_false]) (Zvl l1 l2 r) (Yd r).toNat 0 (left - wtR r) [] (by omega) rfl (by omega)
 rw [show (((0 : Nat) : Int)) = 0 from rfl] at hL
 rw [hL, Option.bind_some]
 simp only
 by_cases hq : (Xt (Zco A g1 g2 r) (Y8 A r) (Yd r).toNat 0 (left - wtR r) []).2.2 = 0
 ·rw [if_pos hq]
  simp only
  rw [show (Xt (Zco A g1 g2 r) (Y8 A r) (Yd r).toNat 0 (left - wtR r) []).2 = ((Xt (Zco A g1 g2 r) (Y8 A r) (Yd r).toNat 0 (left - wtR r) []).2.1, 0) from by rw [← hq]]
 rw [if_neg hq]
theorem Zmg (hw : WS A.segments) (k d : Nat) : Lf A (Vs A k d) := by
 unfold Vs
 split
 ·exact Zk7 hw _
 exact Zt4
theorem Zsr (hw : WS A.segments) : ∀ (K : Nat), (∀ (d : Nat) r left, d ≤ 1000 → OKr A r → 0 ≤ left ∧ left ≤ 65536 → 2 * d + 1 ≤ K → (Ye K).1 A.segments (Ki A r) d left = some (Zbo A d r left)) ∧
  (∀ (d : Nat) r left, d ≤ 1000 → OKr A r → r.kind = 1 → 0 ≤ left ∧ left ≤ 65536 → 2 * d + 2 ≤ K → (Ye K).2 A.segments (Ki A r) d left = some (stK A (Zbo A d) r left))
 | 0 => ⟨fun d r left _ _ _ h => by omega, fun d r left _ _ _ _ h => by omega⟩
 | K + 1 => by
  obtain ⟨i1, i2⟩ := Zsr hw K
  refine ⟨fun d r left hd hr hl hK => ?_, fun d r left hd hr h1 hl hK => ?_⟩
  ·show Qx (Ye K).1 (Ye K).2 A.segments (Ki A r) d left = _
   rw [Zk8]
   refine Z0k hw (Zmg hw 1 d) (Zmg hw 2 d) hr (by omega) hl (fun hd1 k l hk hl => ?_) (fun hd2 k l hk k1 hl => ?_)
   ·have := i1 (d - 1) k l (by omega) hk hl (by omega)
    rw [show (((d - 1 : Nat) : Int)) = (d : Int) - 1 by omega] at this
    unfold Vs
    rw [if_pos (by omega)]
    exact this
   have := i2 (d - 2) k l (by omega) hk k1 hl (by omega)
   rw [show (((d - 2 : Nat) : Int)) = (d : Int) - 2 by omega] at this
   unfold Vs
   rw [if_pos (by omega)]
   exact this
  show J4 (Ye K).1 (Ye K).2 A.segments (Ki A r) d left = _
  exact Zud hw (Zk7 hw d) hr h1 hl fun k l hk hl => i1 d k l hd hk hl (by omega)
theorem Z0o (hw : WS A.segments) {d : Nat} (hd : d ≤ 1000) {r : Za} (hr : OKr A r) {left : Int} (hl : 0 ≤ left ∧ left ≤ 65536) : Ud A.segments (Ki A r) d left = some (Zbo A d r left) :=
 Zpy (2 * d + 1) fun k hk => (Zsr hw k).1 d r left hd hr hl hk
def Zcr (A : Zf) (x : Zw) : Tr × Int × Int :=
 if (atR A 0 0).2 ≠ 0 then (⟨0, [], []⟩, 0, (atR A 0 0).2)
 else
  let q := Zbo A (Vb x).Depth.toNat (atR A 0 0).1 (Vb x).Weight
  if q.2.2 ≠ 0 then (⟨0, [], []⟩, 0, q.2.2) else (q.1, (Vb x).Weight - q.2.1, 0)
theorem Zo7 (hw : WS A.segments) (x : Zw) : Qa A.segments x = some (Zcr A x) := by
 unfold Qa Zcr
 rw [Zuh, Option.bind_some, Zue hw, Option.bind_some]
 simp only [Zm6]
 have hd : 0 ≤ (Vb x).Depth ∧ (Vb x).Depth ≤ 64 := Zfx _ _ (by decide)
 have hW : 0 ≤ (Vb x).Weight ∧ (Vb x).Weight ≤ 65536 := Zfx _ _ (by decide)
 by_cases h : (atR A 0 0).2 ≠ 0
 ·rw [if_pos h, show ((atR A 0 0).2 != 0) = true from bne_iff_ne.2 h, cond_true]
 rw [if_neg h, show ((atR A 0 0).2 != 0) = false from bne_eq_false_iff_eq.2 (by omega), cond_false]
 have hm := Z0o hw (d := (Vb x).Depth.toNat) (by omega) (Zjj (A := A) 0 0) hW
 rw [show (((Vb x).Depth.toNat : Nat) : Int) = (Vb x).Depth by omega] at hm
 rw [hm, Option.bind_some]
 by_cases hq : (Zbo A (Vb x).Depth.toNat (atR A 0 0).1 (Vb x).Weight).2.2 ≠ 0
 ·rw [if_pos hq, show ((Zbo A (Vb x).Depth.toNat (atR A 0 0).1 (Vb x).Weight).2.2 != 0) = true from bne_iff_ne.2 hq, cond_true]
 have h0 : (Zbo A (Vb x).Depth.toNat (atR A 0 0).1 (Vb x).Weight).2.2 = 0 := by omega
 have hb := Zk7 hw _ _ _ (Zjj (A := A) 0 0) hW.1 h0
 rw [if_neg hq, show ((Zbo A (Vb x).Depth.toNat (atR A 0 0).1 (Vb x).Weight).2.2 != 0) = false from bne_eq_false_iff_eq.2 h0, cond_false, Y3 (by omega) (by omega)]
theorem Z26 (x : Zw) : (Zcr A x).2 = Zy6 A x := by
 unfold Zcr Zy6
 by_cases h : (atR A 0 0).2 ≠ 0
 ·rw [if_pos h, if_pos h]
 rw [if_neg h, if_neg h]
 simp only
 by_cases hq : (Zbo A (Vb x).Depth.toNat (atR A 0 0).1 (Vb x).Weight).2.2 ≠ 0
 ·rw [if_pos hq, if_pos hq]
 rw [if_neg hq, if_neg hq]
end
section
variable {A : Zf}
theorem Zni (hw : WS A.segments) {r : Za} (h : OKr A r) : ((Yz A r).length : Int) = Zap r := by
 unfold Yz Zap
 cases h with
 | z => rfl
 | li k s a n hk hn hin => simp only; rw [if_neg (by omega), if_neg (by omega), if_neg (by omega), if_neg (by omega)]; rfl
 | co => rfl
 | at_ => rfl
 | st s a d p hd hp hin =>
  have hi' := inB_iff.1 hin
  simp only [show ¬ (1 : Int) = 10 from by decide, if_false, if_true, List.length_take, List.length_drop]
  omega
theorem Zg6 (hw : WS A.segments) {r : Za} (h : OKr A r) {i : Nat} (hi : i < (Yz A r).length) : (Yz A r)[i] = Zo9 A r (i : Int) := by
 have hl := Zni hw h
 unfold Zo9
 rw [if_neg (by omega)]
 cases h with
 | z => simp [Yz, r0] at hi
 | li k s a n hk hn hin =>
  have : Yz A ⟨some A, k, s, a, 0, 0, n, 0, 0⟩ = [] := by unfold Yz; rw [if_neg (by simp only; omega), if_neg (by simp only; omega)]
  simp [this] at hi
 | co => simp [Yz] at hi
 | at_ s a c j n hc h0 h1 hn hin =>
  have : i = 0 := by
   simp [Yz] at hi; exact hi
  subst this
  rfl
 | st s a d p hd hp hin =>
  have hi' := inB_iff.1 hin
  have hid : (i : Int) < d := by simp [Zap] at hl; omega
  simp only [Yz, show ¬ (1 : Int) = 10 from by decide, if_false, if_true, List.getElem_take, List.getElem_drop]
  unfold wd
  rw [show (a + (i : Int)).toNat = a.toNat + i by omega, List.getElem?_eq_getElem (by omega)]
  rfl
end
theorem Zdb {t x : Tr} (h : x ∈ t.Kids) : SizeOf.sizeOf x < SizeOf.sizeOf t := by
 obtain ⟨k, w, ks⟩ := t
 have := List.sizeOf_lt_of_mem h
 simp only [Zd.mk.sizeOf_spec]
 simp only at this
 omega
theorem Zr2 {α R : Type} (xs : List α) (step : Int → Option (Int ⊕ R)) (p : α → Bool) (e o : R) (hl : (xs.length : Int) ≤ 140737488355328)
  (h1 : ∀ (i : Nat) (x : α), i < xs.length → xs[i]? = some x → x ∈ xs → step i = some (if p x = true then .inr e else .inl (IntKind.i64.wrap ((i : Int) + 1)))) (h2 : step xs.length = some (.inr o)) : Zx step 0 = some (if xs.any p = true then e else o) := by
 have hloop := Zyg xs (fun i (_ : Unit) => i) step (fun _ x => some (if p x = true then .inr e else .inl ())) (fun _ => o) (fun i s x hi hx => by
  rw [h1 i x hi hx (List.mem_of_getElem? hx), Y3 (by omega) (by omega)]
  cases p x <;> rfl) (fun _ => h2) ()
 refine hloop.trans ?_
 rw [Zly p (fun s _ => s) e (fun _ _ => True) xs.length xs () 0 (by omega) trivial (fun s k x _ _ _ => ⟨by cases p x <;> rfl, fun _ => trivial⟩)]
def tr {α : Type} (p : α → Bool) : List α → List α
 | [] => []
 | x :: xs => match tr p xs with
  | [] => if p x = true then [] else [x]
  | y :: ys => x :: y :: ys
end Go.Proofs.Ytgffgbdnbjbmoaa
