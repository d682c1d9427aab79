/- Plain facts on this seat's mirrors (part VP1); each theorem bears its own conditions. -/
import Derived.Test.YtmlhokaflhlhbaaVM5
import Derived.IntWalk
namespace Go.Proofs.Ytmlhokaflhlhbaa
open Go.RowKit
set_option linter.unusedVariables false
set_option linter.unusedSimpArgs false
theorem Ve {a b : Int} (h : ¬ a = b) : (a == b) = false := by simp [h]
def Zlp (w : Nat) : Int := if w / 4 % 1073741824 < 536870912 then ((w / 4 % 1073741824 : Nat) : Int) else ((w / 4 % 1073741824 : Nat) : Int) - 1073741824
def Zpk (w : Nat) : Zx :=
 if w = 0 then ⟨0, 0, 0, 0, 0, 0, 0, false⟩
 else if w % 4 = 0 then ⟨1, Zlp w, (w / 4294967296 % 65536 : Nat), (w / 281474976710656 % 65536 : Nat), 0, 0, 0, false⟩
 else if w % 4 = 1 then ⟨2, Zlp w, 0, 0, (w / 4294967296 % 8 : Nat), (w / 34359738368 % 536870912 : Nat), 0, false⟩
 else if w % 4 = 2 then ⟨3, (w / 8 % 536870912 : Nat), 0, 0, 0, 0, (w / 4294967296 % 4294967296 : Nat), decide (w / 4 % 2 = 1)⟩
 else ⟨4, 0, 0, 0, 0, 0, 0, false⟩
theorem Zmy (b : Nat) : ((2 : Int) ^ b) = ((2 ^ b : Nat) : Int) := by simp
theorem Zeq (w f b : Nat) (hw : w < 18446744073709551616) (hf : f < 64) (hb : b ≤ 40) : Yj w f b = some ((w / 2 ^ f % 2 ^ b : Nat) : Int) := by
 unfold Yj Yx
 rw [if_pos (Int.natCast_nonneg _), if_pos (Int.natCast_nonneg _)]
 simp only [Option.bind_some, Option.some.injEq]
 have hp : (2 : Nat) ^ b ≤ 1099511627776 := by have := Nat.pow_le_pow_right (n := 2) (by decide) hb; simpa using this
 have h1 : 0 < (2 : Nat) ^ b := Nat.pow_pos (by decide)
 have e1 : (min ((f : Int).toNat) 64) = f := by omega
 have e2 : (min ((b : Int).toNat) 64) = b := by omega
 have hd : w / 2 ^ f < 18446744073709551616 := Nat.lt_of_le_of_lt (Nat.div_le_self _ _) hw
 have e3 : ((w : Int).fdiv ((2 ^ f : Nat) : Int)) = ((w / 2 ^ f : Nat) : Int) := by
  rw [Int.fdiv_eq_ediv_of_nonneg _ (Int.natCast_nonneg _), Int.natCast_ediv]
 rw [e1, e2, Zmy, Zmy, e3]
 clear e3
 generalize hq : 2 ^ b = q at *
 generalize w / 2 ^ f = x at *
 rw [Int.one_mul, IntWalk.u64_in (q : Int) (by omega), IntWalk.u64_in ((q : Int) - 1) (by omega)]
 have e4 : ((q : Int) - 1) = ((q - 1 : Nat) : Int) := by omega
 rw [e4, Zpr _ _ hd (by omega), ← hq, Nat.and_two_pow_sub_one_eq_mod, hq]
 have : x % q < q := Nat.mod_lt _ h1
 rw [IntWalk.u64_in _ (by omega), IntWalk.i64_in _ (by omega)]
theorem Ztr (w : Nat) (hw : w < 18446744073709551616) : IntKind.i64.wrap ((IntKind.i32.wrap (IntKind.u32.wrap (w : Int))).fdiv (2 ^ min (Int.toNat 2) 32)) = Zlp w := by
 have e : (2 : Int) ^ min (Int.toNat 2) 32 = 4 := by decide
 rw [e, Int.fdiv_eq_ediv_of_nonneg _ (by decide), IntKind.wrap_u32, IntKind.wrap_i32]
 unfold Zlp
 rw [IntWalk.i64_in _ (by omega)]
 split <;> omega
theorem Zr8 (w : Nat) (hw : w < 18446744073709551616) : Vq w = some (Zlp w) := congrArg some (Ztr w hw)
theorem Zut (w : Nat) (hw : w < 18446744073709551616) : IntKind.u64.wrap (Kl .u64 w 3) = ((w % 4 : Nat) : Int) := by
 have := Zpr w 3 hw (by decide)
 rw [show ((3 : Nat) : Int) = 3 from rfl] at this
 rw [this, show (3 : Nat) = 2 ^ 2 - 1 from rfl, Nat.and_two_pow_sub_one_eq_mod, IntWalk.u64_in _ (by omega)]
theorem Zuu (w : Nat) (hw : w < 18446744073709551616) : (IntKind.u64.wrap (Kl .u64 ((w : Int).fdiv (2 ^ min (Int.toNat 2) 64)) 1) == 1) = decide (w / 4 % 2 = 1) := by
 have e1 : (2 : Int) ^ min (Int.toNat 2) 64 = 4 := by decide
 have e2 : ((w : Int).fdiv 4) = ((w / 4 : Nat) : Int) := by rw [Int.fdiv_eq_ediv_of_nonneg _ (by decide)]; rfl
 have e3 := Zpr (w / 4) 1 (by omega) (by decide)
 rw [show ((1 : Nat) : Int) = 1 from rfl, Nat.and_one_is_mod] at e3
 rw [e1, e2, e3, IntWalk.u64_in _ (by omega)]
 by_cases h : w / 4 % 2 = 1
 ·rw [h]; decide
 have : w / 4 % 2 = 0 := by omega
 rw [this]; decide
theorem Zmh (a : Nat) (b : Nat) : ((a : Int) == (b : Int)) = decide (a = b) := by
 by_cases h : a = b
 ·subst h; simp
 simp [h, Int.natCast_inj]
theorem Zrt (w : Nat) (hw : w < 18446744073709551616) : Xz w = some (Zpk w) := by
 unfold Xz
 have f1 : Yj w 32 16 = _ := Zeq w 32 16 hw (by decide) (by decide)
 have f2 : Yj w 48 16 = _ := Zeq w 48 16 hw (by decide) (by decide)
 have f3 : Yj w 32 3 = _ := Zeq w 32 3 hw (by decide) (by decide)
 have f4 : Yj w 35 29 = _ := Zeq w 35 29 hw (by decide) (by decide)
 have f5 : Yj w 3 29 = _ := Zeq w 3 29 hw (by decide) (by decide)
 have f6 : Yj w 32 32 = _ := Zeq w 32 32 hw (by decide) (by decide)
 have c0 : ((w : Int) == 0) = _ := Zmh w 0
 have c1 : (((w % 4 : Nat) : Int) == 0) = _ := Zmh (w % 4) 0
 have c2 : (((w % 4 : Nat) : Int) == 1) = _ := Zmh (w % 4) 1
 have c3 : (((w % 4 : Nat) : Int) == 2) = _ := Zmh (w % 4) 2
 rw [Zut w hw, Zr8 w hw, f1, f2, f3, f4, f5, f6, Zuu w hw, c0, c1, c2, c3]
 simp only [Option.bind_some]
 unfold Zpk
 by_cases h0 : w = 0
 ·simp [h0]
 by_cases h1 : w % 4 = 0
 ·simp [h0, h1]
 by_cases h2 : w % 4 = 1
 ·simp [h0, h2]
 by_cases h3 : w % 4 = 2
 ·simp [h0, h3]
 simp [h0, h1, h2, h3]
theorem Zr5 (x i : Nat) : x % 2 ^ (i + 1) = x % 2 ^ i + 2 ^ i * (x / 2 ^ i % 2) := Nat.mod_pow_succ
theorem Vr (w f b : Nat) (hw : w < 18446744073709551616) (hf : f < 64) (hb : b ≤ 40) : Zt w f b = some ((w / 2 ^ f % 2 ^ b : Nat) : Int) := by
 unfold Zt
 have l0 : Yh (Qs f) ((w : Int), 0) = some ((w / 2 ^ f : Nat) : Int) := by
  refine Zkh (fun s => ∃ i : Nat, i ≤ f ∧ s = (((w / 2 ^ i : Nat) : Int), (i : Int))) (fun s => f - s.2.toNat) ?_ _ ⟨0, by omega, by simp⟩
  rintro s ⟨i, hi, rfl⟩
  unfold Qs
  have hs : w / 2 ^ (i + 1) = w / 2 ^ i / 2 := by rw [Nat.pow_succ, Nat.div_div_eq_div_mul]
  have hd : w / 2 ^ i < 18446744073709551616 := Nat.lt_of_le_of_lt (Nat.div_le_self _ _) hw
  by_cases h : i < f
  ·left
   refine ⟨(((w / 2 ^ (i + 1) : Nat) : Int), ((i + 1 : Nat) : Int)), ?_, ⟨i + 1, by omega, rfl⟩, by simp only; omega⟩
   have : decide ((i : Int) < f) = true := by simp; omega
   simp only [this, cond_true]
   rw [hs]
   generalize w / 2 ^ i = y at *
   rw [Int.tdiv_eq_ediv_of_nonneg (by omega), Ztu (by omega), Znu (by omega)]
   rfl
  right
  have : decide ((i : Int) < f) = false := by simp; omega
  obtain rfl : i = f := by omega
  simp only [this, cond_false]
 rw [l0]
 simp only [Option.bind_some]
 generalize hx : w / 2 ^ f = x at *
 have hd : x < 18446744073709551616 := by rw [← hx]; exact Nat.lt_of_le_of_lt (Nat.div_le_self _ _) hw
 have l1 : Yh (Qt b) ((x : Int), 0, 1, 0) = some ((x % 2 ^ b : Nat) : Int) := by
  refine Zkh (fun s => ∃ j : Nat, j ≤ b ∧ s = (((x / 2 ^ j : Nat) : Int), ((x % 2 ^ j : Nat) : Int), ((2 ^ j : Nat) : Int), (j : Int))) (fun s => b - s.2.2.2.toNat) ?_ _ ⟨0, by omega, by simp [Nat.mod_one]⟩
  rintro s ⟨j, hj, rfl⟩
  unfold Qt
  have hdj : x / 2 ^ j < 18446744073709551616 := Nat.lt_of_le_of_lt (Nat.div_le_self _ _) hd
  have hpj : (2 : Nat) ^ j ≤ 1099511627776 := by have := Nat.pow_le_pow_right (n := 2) (by decide) (Nat.le_trans hj hb); simpa using this
  have h0 : 0 < (2 : Nat) ^ j := Nat.pow_pos (by decide)
  have hm := Zr5 x j
  have hs2 : x / 2 ^ (j + 1) = x / 2 ^ j / 2 := by rw [Nat.pow_succ, Nat.div_div_eq_div_mul]
  have hp2 : (2 : Nat) ^ (j + 1) = 2 ^ j * 2 := Nat.pow_succ ..
  have hlt : x % 2 ^ j < 2 ^ j := Nat.mod_lt _ h0
  by_cases h : j < b
  ·left
   refine ⟨(((x / 2 ^ (j + 1) : Nat) : Int), ((x % 2 ^ (j + 1) : Nat) : Int), ((2 ^ (j + 1) : Nat) : Int), ((j + 1 : Nat) : Int)), ?_, ⟨j + 1, by omega, rfl⟩, by simp only; omega⟩
   have : decide ((j : Int) < b) = true := by simp; omega
   simp only [this, cond_true]
   rw [hs2, hm, hp2]
   clear hs2 hm hp2
   generalize x / 2 ^ j = y at *
   generalize x % 2 ^ j = r at *
   generalize 2 ^ j = p at *
   rw [Int.tmod_eq_emod_of_nonneg (by omega), Int.tdiv_eq_ediv_of_nonneg (by omega)]
   by_cases hb1 : y % 2 = 1
   ·have e : (((y : Int) % 2) == 1) = true := by simp; omega
    rw [e, cond_true, hb1, Znu (by omega)]
    simp only [Option.bind_some]
    rw [Ztu (by omega), Znu (by omega), Znu (by omega)]
    simp only [Option.some.injEq, Sum.inl.injEq, Prod.mk.injEq]
    omega
   have e : (((y : Int) % 2) == 1) = false := by simp; omega
   have hb0 : y % 2 = 0 := by omega
   rw [e, cond_false, hb0]
   simp only [Option.bind_some]
   rw [Ztu (by omega), Znu (by omega), Znu (by omega)]
   simp only [Option.some.injEq, Sum.inl.injEq, Prod.mk.injEq]
   omega
  right
  have : decide ((j : Int) < b) = false := by simp; omega
  obtain rfl : j = b := by omega
  simp only [this, cond_false]
 rw [l1]
 simp only [Option.bind_some]
theorem Zra (w : Nat) (hw : w < 18446744073709551616) : Z8 w = some (Zpk w) := by
 unfold Z8
 have f0 : Zt w 2 30 = _ := Vr w 2 30 hw (by decide) (by decide)
 have f00 : Zt w 0 2 = _ := Vr w 0 2 hw (by decide) (by decide)
 have f1 : Zt w 32 16 = _ := Vr w 32 16 hw (by decide) (by decide)
 have f2 : Zt w 48 16 = _ := Vr w 48 16 hw (by decide) (by decide)
 have f3 : Zt w 32 3 = _ := Vr w 32 3 hw (by decide) (by decide)
 have f4 : Zt w 35 29 = _ := Vr w 35 29 hw (by decide) (by decide)
 have f5 : Zt w 3 29 = _ := Vr w 3 29 hw (by decide) (by decide)
 have f6 : Zt w 32 32 = _ := Vr w 32 32 hw (by decide) (by decide)
 have f7 : Zt w 2 1 = _ := Vr w 2 1 hw (by decide) (by decide)
 have c0 : ((w : Int) == 0) = _ := Zmh w 0
 have c1 : (((w % 4 : Nat) : Int) == 0) = _ := Zmh (w % 4) 0
 have c2 : (((w % 4 : Nat) : Int) == 1) = _ := Zmh (w % 4) 1
 have c3 : (((w % 4 : Nat) : Int) == 2) = _ := Zmh (w % 4) 2
 have c4 : (((w / 4 % 2 : Nat) : Int) == 1) = _ := Zmh (w / 4 % 2) 1
 simp only [Nat.reducePow, Nat.div_one] at f0 f00 f1 f2 f3 f4 f5 f6 f7
 have ho : (cond (decide (536870912 ≤ ((w / 4 % 1073741824 : Nat) : Int))) (some (IntKind.i64.wrap (((w / 4 % 1073741824 : Nat) : Int) - 1073741824))) (some ((w / 4 % 1073741824 : Nat) : Int))) = some (Zlp w) := by
  unfold Zlp
  rw [Znu (by omega)]
  by_cases h : w / 4 % 1073741824 < 536870912
  ·have : decide (536870912 ≤ ((w / 4 % 1073741824 : Nat) : Int)) = false := by simp; omega
   rw [this, if_pos h, cond_false]
  have : decide (536870912 ≤ ((w / 4 % 1073741824 : Nat) : Int)) = true := by simp; omega
  rw [this, if_neg h, cond_true]
 rw [f0]
 simp only [Option.bind_some, ho]
 rw [f00, f1, f2, f3, f4, f5, f6, f7]
 simp only [Option.bind_some]
 rw [c0, c1, c2, c3, c4]
 unfold Zpk
 by_cases h0 : w = 0
 ·simp [h0]
 by_cases h1 : w % 4 = 0
 ·simp [h0, h1]
 by_cases h2 : w % 4 = 1
 ·simp [h0, h2]
 by_cases h3 : w % 4 = 2
 ·simp [h0, h3]
 simp [h0, h1, h2, h3]
theorem Zsp (x : Nat) (h : x < 18446744073709551616) : IntKind.u64.wrap (x : Int) = (x : Int) := IntWalk.u64_in _ (by omega)
theorem Y8 {x : Int} (h1 : -9223372036854775808 ≤ x) (h2 : x ≤ 9223372036854775807) : IntKind.i64.wrap x = x := Znu ⟨h1, h2⟩
theorem Zs2 {i n : Nat} (h : i < n) : decide ((i : Int) < (n : Int)) = true := by rw [decide_eq_true_eq]; omega
theorem Zuw {n : Nat} : decide ((n : Int) < (n : Int)) = false := by rw [decide_eq_false_iff_not]; omega
structure WS (l : List (List Int)) : Prop where
 n : l.length * 24 ≤ 140737488355328
 s : ∀ x ∈ l, x.length * 8 ≤ 140737488355328
 w : ∀ x ∈ l, ∀ w ∈ x, 0 ≤ w ∧ w < 18446744073709551616
theorem Zma {l : List Int} (h : l.length * 8 ≤ 140737488355328) : Z9 l = some l := by
 unfold Z9
 rw [Zp6 (by simp only [List.length_nil]; omega) (by simp only [List.length_nil]; omega), List.nil_append]
theorem Zse {α : Type} (l : List α) (n : Nat) (v : α) : Zki l (n : Int) v = l.set n v := by unfold Zki; rw [Int.toNat_natCast]
theorem Ziu {l : List (List Int)} (h : WS l) : ∀ (r : List (List Int)) (i : Nat), l.drop i = r → i ≤ l.length →
  Yh (Qh l) ((i : Int), l.take i ++ List.replicate r.length []) = some l
 | [], i, hd, hi => by
  have hl : i = l.length := by
   have := congrArg List.length hd
   rw [List.length_drop, List.length_nil] at this; omega
  subst hl
  refine Jo ?_
  unfold Qh
  simp only
  rw [Zuw, cond_false]
  simp
 | x :: r, i, hd, hi => by
  have hi' : i < l.length := by
   rcases Nat.lt_or_ge i l.length with q | q
   ·exact q
   rw [List.drop_eq_nil_of_le q] at hd; cases hd
  have hx : l[i]? = some x := by
   have := congrArg (·[0]?) hd
   simpa using this
  have hm := List.mem_of_getElem? hx
  have hd' : l.drop (i + 1) = r := by
   have := congrArg (List.drop 1) hd
   rw [List.drop_drop] at this
   simpa [Nat.add_comm] using this
  have hn := h.n
  have hlen : (l.take i).length = i := by rw [List.length_take]; omega
  have hg : Qf (l.take i ++ List.replicate (r.length + 1) []) (i : Int) = some ([] : List Int) := Zf4 (by rw [List.getElem?_append_right (by omega), hlen, Nat.sub_self]; rfl)
  have hstep : Qh l ((i : Int), l.take i ++ List.replicate (r.length + 1) []) = some (.inl (((i + 1 : Nat) : Int), l.take (i + 1) ++ List.replicate r.length [])) := by
   unfold Qh
   simp only
   rw [Zs2 hi', cond_true, Zf4 hx, Option.bind_some, Zma (h.s x hm), Option.bind_some, hg, Option.bind_some, Y8 (by omega) (by omega), Zse, List.set_append_right _ _ (by omega), hlen, Nat.sub_self, List.replicate_succ, List.set_cons_zero, List.take_add_one, hx, List.append_assoc]
   rfl
  rw [List.length_cons, Kk hstep]
  exact Ziu h r (i + 1) hd' (by omega)
theorem Zqn {l : List (List Int)} (h : WS l) : Kv l = some l := by
 have hn := h.n
 have := Ziu h l 0 rfl (Nat.zero_le _)
 rw [List.take_zero, List.nil_append, show (((0 : Nat) : Int)) = 0 from rfl] at this
 unfold Kv
 rw [Zr4 (by omega) (by omega) (by omega), Option.bind_some, Int.toNat_natCast, this]
 rfl
theorem Zrj {l : List (List Int)} (h : WS l) : V1 l = some (some ⟨l, 0, 0⟩) := by
 unfold V1
 rw [Zqn h, Option.bind_some]
def seg (l : List (List Int)) (s : Int) : List Int := (l[s.toNat]?).getD []
def U4 (l : List (List Int)) (s a n : Int) : Bool := decide (0 ≤ s) && (decide (s < l.length) && (decide (0 ≤ a) && (decide (0 ≤ n) && decide (a + n ≤ (seg l s).length))))
theorem inB_iff {l : List (List Int)} {s a n : Int} : U4 l s a n = true ↔ 0 ≤ s ∧ s < l.length ∧ 0 ≤ a ∧ 0 ≤ n ∧ a + n ≤ (seg l s).length := by
 unfold U4
 simp only [Bool.and_eq_true, decide_eq_true_eq]
theorem Vu {l : List (List Int)} {s : Int} (h0 : 0 ≤ s) (h1 : s < l.length) : Qf l s = some (seg l s) ∧ seg l s ∈ l := by
 have hs : s.toNat < l.length := by omega
 unfold seg Qf
 rw [if_pos h0, List.getElem?_eq_getElem hs]
 exact ⟨rfl, List.getElem_mem hs⟩
def wd (l : List (List Int)) (s a : Int) : Int := ((seg l s)[a.toNat]?).getD 0
theorem Zit {l : List (List Int)} {s a : Int} (h : U4 l s a 1 = true) : Qf (seg l s) a = some (wd l s a) ∧ wd l s a ∈ seg l s := by
 rw [inB_iff] at h
 have ha : a.toNat < (seg l s).length := by omega
 unfold wd Qf
 rw [if_pos h.2.2.1, List.getElem?_eq_getElem ha]
 exact ⟨rfl, List.getElem_mem ha⟩
theorem Zel {l : List (List Int)} (hw : WS l) (s a : Int) : 0 ≤ wd l s a ∧ wd l s a < 18446744073709551616 := by
 unfold wd
 cases h : (seg l s)[a.toNat]? with
 | none => simp
 | some w =>
  have hm := List.mem_of_getElem? h
  unfold seg at hm
  cases hs : l[s.toNat]? with
  | none => rw [hs] at hm; cases hm
  | some x => rw [hs] at hm; exact hw.w x (List.mem_of_getElem? hs) w hm
theorem Zci {l : List (List Int)} (hw : WS l) (s : Int) : (seg l s).length * 8 ≤ 140737488355328 := by
 unfold seg
 cases hs : l[s.toNat]? with
 | none => simp
 | some x => exact hw.s x (List.mem_of_getElem? hs)
section
variable {A : Zj}
theorem Zsw : J5 (some A) = some (A.segments.length : Int) := rfl
theorem Zlz (s : Int) : Xi (some A) s = some (decide (0 ≤ s) && decide (s < A.segments.length)) := by
 unfold Xi
 rw [Zsw, Option.bind_some]
 cases decide (0 ≤ s) <;> rfl
theorem Zrl (s : Int) : Xw (some A) s = some (if 0 ≤ s ∧ s < A.segments.length then ((seg A.segments s).length : Int) else 0) := by
 unfold Xw
 rw [Zlz, Option.bind_some]
 by_cases h : 0 ≤ s ∧ s < A.segments.length
 ·rw [decide_eq_true h.1, decide_eq_true h.2, if_pos h, Option.bind_some, (Vu h.1 h.2).1]
  rfl
 rw [if_neg h, show (decide (0 ≤ s) && decide (s < A.segments.length)) = false from by rw [Bool.and_eq_false_iff, decide_eq_false_iff_not, decide_eq_false_iff_not]; omega]
 rfl
theorem Zmf (hw : WS A.segments) (s a n : Int) : Xa (some A) s a n = some (U4 A.segments s a n) := by
 have hl := Zci hw s
 unfold Xa U4
 rw [Zlz, Zrl, Option.bind_some]
 by_cases h : 0 ≤ s ∧ s < A.segments.length
 ·rw [if_pos h, decide_eq_true h.1, decide_eq_true h.2]
  by_cases h2 : 0 ≤ a
  ·by_cases h3 : 0 ≤ n
   ·by_cases h4 : n ≤ ((seg A.segments s).length : Int)
    ·simp only [decide_eq_true h2, decide_eq_true h3, Bool.and_true, Bool.true_and, cond_true, Option.bind_some, decide_eq_true h4]
     rw [Y8 (by omega) (by omega)]
     congr 1
     rw [Bool.eq_iff_iff, decide_eq_true_eq, decide_eq_true_eq]
     omega
    simp only [decide_eq_true h2, decide_eq_true h3, Bool.and_true, Bool.true_and, cond_true, cond_false, Option.bind_some, decide_eq_false h4]
    rw [show decide (a + n ≤ ((seg A.segments s).length : Int)) = false from by rw [decide_eq_false_iff_not]; omega]
   rw [decide_eq_true h2, decide_eq_false h3]; rfl
  rw [decide_eq_false h2]; rfl
 rw [show (decide (0 ≤ s) && decide (s < A.segments.length)) = false from by rw [Bool.and_eq_false_iff, decide_eq_false_iff_not, decide_eq_false_iff_not]; omega]
 rw [← Bool.and_assoc, show (decide (0 ≤ s) && decide (s < A.segments.length)) = false from by rw [Bool.and_eq_false_iff, decide_eq_false_iff_not, decide_eq_false_iff_not]; omega]
 rfl
theorem Zfn (hw : WS A.segments) (s a : Int) : Yl (some A) s a = some (if U4 A.segments s a 1 = true then (wd A.segments s a, true) else (0, false)) := by
 unfold Yl
 rw [Zmf hw, Option.bind_some]
 cases h : U4 A.segments s a 1 with
 | false => rfl
 | true =>
  have h' := inB_iff.1 h
  rw [Bool.not_true, cond_false, Option.bind_some, (Vu h'.1 h'.2.1).1, Option.bind_some, (Zit h).1]
  rfl
theorem Zrk (hw : WS A.segments) (s a n : Int) : Qm (some A) s a n = some (if U4 A.segments s a n = true then (((seg A.segments s).drop a.toNat).take n.toNat, true) else ([], false)) := by
 have hl := Zci hw s
 unfold Qm
 rw [Zmf hw, Option.bind_some]
 cases h : U4 A.segments s a n with
 | false => rfl
 | true =>
  have h' := inB_iff.1 h
  rw [Bool.not_true, cond_false, Option.bind_some, (Vu h'.1 h'.2.1).1, Option.bind_some, Y8 (by omega) (by omega), Zm8 (by omega) (by omega) (by omega), Option.bind_some, show a + n - a = n by omega, Zma (by rw [List.length_take, List.length_drop]; omega)]
  rfl
end
def dc (w : Int) : Zx := Zpk w.toNat
theorem Zng {w : Int} (h : 0 ≤ w ∧ w < 18446744073709551616) : Xz w = some (dc w) := by
 have := Zrt w.toNat (by omega)
 rwa [show ((w.toNat : Nat) : Int) = w by omega] at this
theorem Zkd {w : Int} (h : 0 ≤ w ∧ w < 18446744073709551616) : Z8 w = some (dc w) := by
 have := Zra w.toNat (by omega)
 rwa [show ((w.toNat : Nat) : Int) = w by omega] at this
structure PB (p : Zx) : Prop where
 k : p.Kind = 0 ∨ p.Kind = 1 ∨ p.Kind = 2 ∨ p.Kind = 3 ∨ p.Kind = 4
 o : -536870912 ≤ p.Off ∧ p.Off < 536870912
 d : 0 ≤ p.Data ∧ p.Data < 65536
 q : 0 ≤ p.Ptrs ∧ p.Ptrs < 65536
 c : 0 ≤ p.Code ∧ p.Code < 8
 n : 0 ≤ p.Count ∧ p.Count < 536870912
 s : 0 ≤ p.Segment ∧ p.Segment < 4294967296
 f : p.Kind = 3 → 0 ≤ p.Off
 z : p.Kind = 0 ∨ p.Kind = 4 → p.Off = 0
theorem Zs5 (w : Nat) : -536870912 ≤ Zlp w ∧ Zlp w < 536870912 := by
 unfold Zlp
 split <;> omega
theorem Zc6 (w : Int) : PB (dc w) := by
 have ho := Zs5 w.toNat
 unfold dc Zpk
 split
 ·exact ⟨.inl rfl, by simp, by simp, by simp, by simp, by simp, by simp, by simp, by simp⟩
 split
 ·exact ⟨.inr (.inl rfl), ho, by simp only; omega, by simp only; omega, by simp, by simp, by simp, by simp, by simp⟩
 split
 ·exact ⟨.inr (.inr (.inl rfl)), ho, by simp, by simp, by simp only; omega, by simp only; omega, by simp, by simp, by simp⟩
 split
 ·exact ⟨.inr (.inr (.inr (.inl rfl))), by simp only; omega, by simp, by simp, by simp, by simp, by simp only; omega, fun _ => by simp only; omega, by simp⟩
 exact ⟨.inr (.inr (.inr (.inr rfl))), by simp, by simp, by simp, by simp, by simp, by simp, by simp, by simp⟩
def wdt (c : Int) : Int := if c = 0 then 0 else if c = 1 then 1 else if c = 2 then 8 else if c = 3 then 16 else if c = 4 then 32 else 64
def pw (p : Zx) : Int := if p.Kind = 1 then p.Data + p.Ptrs else if p.Code = 7 then p.Count + 1 else (p.Count * wdt p.Code + 63) / 64
theorem c7 {c : Int} (h : 0 ≤ c ∧ c < 8) (h7 : ¬ c = 7) : c = 0 ∨ c = 1 ∨ c = 2 ∨ c = 3 ∨ c = 4 ∨ c = 5 ∨ c = 6 := by omega
theorem Zsq {c : Int} (h : 0 ≤ c ∧ c < 8) (h7 : ¬ c = 7) : Up c = some (wdt c) := by
 unfold Up
 rcases c7 h h7 with rfl | rfl | rfl | rfl | rfl | rfl | rfl <;> rfl
theorem Zt7 {p : Zx} (h : PB p) : 0 ≤ pw p ∧ pw p ≤ 1073741824 := by
 have := h.d; have := h.q; have hn := h.n
 unfold pw
 split
 ·omega
 split
 ·omega
 rename_i h7
 rcases c7 h.c h7 with q | q | q | q | q | q | q <;> rw [q] <;> unfold wdt <;> simp <;> omega
theorem Zss {p : Zx} (h : PB p) : Jz p = some (if p.Kind = 1 ∨ p.Kind = 2 then (pw p, true) else (0, false)) := by
 have hd := h.d; have hp := h.q; have hn := h.n
 unfold Jz pw
 by_cases k1 : p.Kind = 1
 ·rw [show (p.Kind == 1) = true from by rw [k1]; rfl, cond_true, if_pos (.inl k1), if_pos k1, Y8 (by omega) (by omega)]
 rw [show (p.Kind == 1) = false from Ve k1, cond_false]
 by_cases k2 : p.Kind = 2
 ·rw [show (p.Kind == 2) = true from by rw [k2]; rfl, cond_true, if_pos (.inr k2), if_neg k1]
  by_cases c7' : p.Code = 7
  ·rw [show (p.Code == 7) = true from by rw [c7']; rfl, cond_true, if_pos c7', Y8 (by omega) (by omega)]
  rw [show (p.Code == 7) = false from Ve c7', cond_false, if_neg c7', decide_eq_true h.c.1, show decide (p.Code < 7) = true from by rw [decide_eq_true_eq]; have := h.c; omega, decide_eq_true hn.1, show decide (p.Count ≤ 536870911) = true from by rw [decide_eq_true_eq]; omega]
  simp only [cond_true]
  rw [Zsq h.c c7', Option.bind_some]
  have hw : 0 ≤ wdt p.Code ∧ wdt p.Code ≤ 64 := by unfold wdt; repeat' split; all_goals omega
  have h1 : 0 ≤ p.Count * wdt p.Code := Int.mul_nonneg hn.1 hw.1
  have h2 : p.Count * wdt p.Code ≤ 536870912 * 64 := Int.mul_le_mul (by omega) hw.2 hw.1 (by omega)
  rw [Y8 (x := p.Count * wdt p.Code) (by omega) (by omega), Y8 (x := p.Count * wdt p.Code + 63) (by omega) (by omega), Int.tdiv_eq_ediv_of_nonneg (by omega), Y8 (by omega) (by omega)]
 rw [show (p.Kind == 2) = false from Ve k2, if_neg (by omega)]
 rfl
theorem Zrd {p : Zx} (h : PB p) (hk : p.Kind = 1 ∨ p.Kind = 2) : Qp p = some (pw p) := by
 have hd := h.d; have hp := h.q; have hn := h.n; have hc := h.c
 unfold Qp pw
 by_cases k1 : p.Kind = 1
 ·rw [show (p.Kind == 1) = true from by rw [k1]; rfl, cond_true, if_pos k1, Y8 (by omega) (by omega)]
 have k2 : p.Kind = 2 := by omega
 rw [show (p.Kind == 1) = false from Ve k1, cond_false, show (p.Kind != 2) = false from by rw [k2]; rfl, cond_false, if_neg k1]
 by_cases c7' : p.Code = 7
 ·rw [show (p.Code == 7) = true from by rw [c7']; rfl, cond_true, if_pos c7', Y8 (by omega) (by omega)]
 rw [show (p.Code == 7) = false from Ve c7', cond_false, if_neg c7', show decide (p.Code < 0) = false from by rw [decide_eq_false_iff_not]; omega, show decide (6 < p.Code) = false from by rw [decide_eq_false_iff_not]; omega, show decide (p.Count < 0) = false from by rw [decide_eq_false_iff_not]; omega, show decide (536870912 ≤ p.Count) = false from by rw [decide_eq_false_iff_not]; omega]
 simp only [cond_false]
 have hgen : ∀ (k : Int), 0 < k → (Yx (k ≠ 0)).bind (fun _ => cond (decide (0 < Int.tmod p.Count k)) ((Yx (k ≠ 0)).bind fun _ => some (IntKind.i64.wrap (IntKind.i64.wrap (Int.tdiv p.Count k) + 1))) ((Yx (k ≠ 0)).bind fun _ => some (IntKind.i64.wrap (Int.tdiv p.Count k)))) = some (if 0 < p.Count % k then p.Count / k + 1 else p.Count / k) := fun k hk => by
  have hne : k ≠ 0 := by omega
  have h0 : 0 ≤ p.Count / k := Int.ediv_nonneg hn.1 (by omega)
  have h1 : p.Count / k ≤ p.Count := Int.ediv_le_self _ hn.1
  rw [Vb hne, Option.bind_some, Option.bind_some, Option.bind_some, Int.tmod_eq_emod_of_nonneg hn.1, Int.tdiv_eq_ediv_of_nonneg hn.1, Y8 (x := p.Count / k) (by omega) (by omega), Y8 (x := p.Count / k + 1) (by omega) (by omega)]
  by_cases q : 0 < p.Count % k
  ·rw [if_pos q, decide_eq_true q, cond_true]
  rw [if_neg q, decide_eq_false q, cond_false]
 have hgo : ∀ (k : Int), 0 < k → (if 0 < p.Count % k then p.Count / k + 1 else p.Count / k) = (p.Count + (k - 1)) / k := fun k hk => by
  have e := Int.emod_add_mul_ediv p.Count k
  have e1 := Int.emod_nonneg p.Count (show k ≠ 0 by omega)
  have e2 := Int.emod_lt_of_pos p.Count hk
  split
  ·symm
   have : p.Count + (k - 1) = (p.Count % k - 1) + k * (p.Count / k + 1) := by rw [Int.mul_add]; omega
   rw [this, Int.add_mul_ediv_left _ _ (by omega), Int.ediv_eq_zero_of_lt (by omega) (by omega)]
   omega
  symm
  have : p.Count + (k - 1) = (k - 1) + k * (p.Count / k) := by omega
  rw [this, Int.add_mul_ediv_left _ _ (by omega), Int.ediv_eq_zero_of_lt (by omega) (by omega)]
  omega
 rcases c7 h.c c7' with q | q | q | q | q | q | q
 ·rw [show (p.Code == 0) = true from by rw [q]; rfl, cond_true, Option.bind_some, q]
  simp only [wdt, if_true, Int.mul_zero]
  rfl
 ·rw [show (p.Code == 0) = false from by rw [q]; rfl, show (p.Code == 1) = true from by rw [q]; rfl, cond_false, cond_true, Option.bind_some]
  simp only
  rw [hgen 64 (by omega), hgo 64 (by omega), q]
  simp [wdt]
 ·rw [show (p.Code == 0) = false from by rw [q]; rfl, show (p.Code == 1) = false from by rw [q]; rfl, show (p.Code == 2) = true from by rw [q]; rfl, cond_false, cond_false, cond_true, Option.bind_some]
  simp only
  rw [hgen 8 (by omega), hgo 8 (by omega), q]
  simp [wdt]
  omega
 ·rw [show (p.Code == 0) = false from by rw [q]; rfl, show (p.Code == 1) = false from by rw [q]; rfl, show (p.Code == 2) = false from by rw [q]; rfl, show (p.Code == 3) = true from by rw [q]; rfl, cond_false, cond_false, cond_false, cond_true, Option.bind_some]
  simp only
  rw [hgen 4 (by omega), hgo 4 (by omega), q]
  simp [wdt]
  omega
 ·rw [show (p.Code == 0) = false from by rw [q]; rfl, show (p.Code == 1) = false from by rw [q]; rfl, show (p.Code == 2) = false from by rw [q]; rfl, show (p.Code == 3) = false from by rw [q]; rfl, show (p.Code == 4) = true from by rw [q]; rfl, cond_false, cond_false, cond_false, cond_false, cond_true, Option.bind_some]
  simp only
  rw [hgen 2 (by omega), hgo 2 (by omega), q]
  simp [wdt]
  omega
 ·rw [show (p.Code == 0) = false from by rw [q]; rfl, show (p.Code == 1) = false from by rw [q]; rfl, show (p.Code == 2) = false from by rw [q]; rfl, show (p.Code == 3) = false from by rw [q]; rfl, show (p.Code == 4) = false from by rw [q]; rfl, cond_false, cond_false, cond_false, cond_false, cond_false, Option.bind_some]
  simp only
  rw [hgen 1 (by omega), hgo 1 (by omega), q]
  simp [wdt]
  omega
 rw [show (p.Code == 0) = false from by rw [q]; rfl, show (p.Code == 1) = false from by rw [q]; rfl, show (p.Code == 2) = false from by rw [q]; rfl, show (p.Code == 3) = false from by rw [q]; rfl, show (p.Code == 4) = false from by rw [q]; rfl, cond_false, cond_false, cond_false, cond_false, cond_false, Option.bind_some]
 simp only
 rw [hgen 1 (by omega), hgo 1 (by omega), q]
 simp [wdt]
 omega
def l0 : Yb := ⟨⟨0, 0, 0, 0, 0, 0, 0, false⟩, 0, 0⟩
def Zny (p : Zx) : Zx := ⟨p.Kind, 0, p.Data, p.Ptrs, p.Code, p.Count, p.Segment, p.Double⟩
def tgt (l : List (List Int)) (p : Zx) (s a : Int) : Yb × Int :=
 if p.Kind = 4 then (l0, 9) else if p.Kind = 1 ∨ p.Kind = 2 then (if U4 l s a (pw p) = true then (⟨Zny p, s, a⟩, 0) else (l0, 7)) else (l0, 8)
def fol (l : List (List Int)) (s a : Int) : Yb × Int :=
 if U4 l s a 1 = true then
  let p := dc (wd l s a)
  if p.Kind = 0 then (l0, 0)
  else if p.Kind = 3 ∧ p.Double = true then
   if U4 l p.Segment p.Off 2 = true then
    let b := dc (wd l p.Segment p.Off)
    let q := dc (wd l p.Segment (p.Off + 1))
    if b.Kind = 3 ∧ b.Double = false then (if q.Kind ≠ 4 ∧ q.Off ≠ 0 then (l0, 8) else tgt l q b.Segment b.Off) else (l0, 8)
   else (l0, 7)
  else if p.Kind = 3 then
   if U4 l p.Segment p.Off 1 = true then
    let q := dc (wd l p.Segment p.Off)
    tgt l q p.Segment (p.Off + 1 + q.Off)
   else (l0, 7)
  else tgt l p s (a + 1 + p.Off)
 else (l0, 7)
section
variable {A : Zj}
theorem Zev (hw : WS A.segments) {p : Zx} (h : PB p) (s a : Int) : Jv (some A) p s a = some (tgt A.segments p s a) := by
 unfold Jv tgt
 by_cases k4 : p.Kind = 4
 ·rw [show (p.Kind == 4) = true from by rw [k4]; rfl, if_pos k4]; rfl
 rw [show (p.Kind == 4) = false from Ve k4, cond_false, if_neg k4, Zss h, Option.bind_some]
 by_cases k : p.Kind = 1 ∨ p.Kind = 2
 ·rw [if_pos k, if_pos k]
  simp only [Bool.not_true, cond_false]
  rw [Zmf hw, Option.bind_some]
  cases U4 A.segments s a (pw p) <;> rfl
 rw [if_neg k, if_neg k]
 rfl
theorem Zt9 {l : List (List Int)} {s a : Int} (h : U4 l s a 2 = true) : ((seg l s).drop a.toNat).take (2 : Int).toNat = [wd l s a, wd l s (a + 1)] := by
 have h' := inB_iff.1 h
 have h1 : a.toNat < (seg l s).length := by omega
 have h2 : a.toNat + 1 < (seg l s).length := by omega
 unfold wd
 rw [show (a + 1).toNat = a.toNat + 1 by omega, List.getElem?_eq_getElem h1, List.getElem?_eq_getElem h2, show ((2 : Int).toNat) = 2 from rfl, List.drop_eq_getElem_cons h1, List.drop_eq_getElem_cons h2]
 rfl
theorem Zqu (hw : WS A.segments) (s a : Int) : Vo (some A) s a = some (if U4 A.segments s a 2 = true then (if (dc (wd A.segments s a)).Kind = 3 ∧ (dc (wd A.segments s a)).Double = false then (if (dc (wd A.segments s (a + 1))).Kind ≠ 4 ∧ (dc (wd A.segments s (a + 1))).Off ≠ 0 then (l0, 8) else tgt A.segments (dc (wd A.segments s (a + 1))) (dc (wd A.segments s a)).Segment (dc (wd A.segments s a)).Off) else (l0, 8)) else (l0, 7)) := by
 unfold Vo
 rw [Zrk hw, Option.bind_some]
 cases h : U4 A.segments s a 2 with
 | false => rfl
 | true =>
  simp only [if_true, Bool.not_true, cond_false]
  rw [Zt9 h]
  have g0 : Qf [wd A.segments s a, wd A.segments s (a + 1)] 0 = some (wd A.segments s a) := rfl
  have g1 : Qf [wd A.segments s a, wd A.segments s (a + 1)] 1 = some (wd A.segments s (a + 1)) := rfl
  rw [g0, Option.bind_some, Zng (Zel hw _ _), Option.bind_some, g1, Option.bind_some, Zng (Zel hw _ _), Option.bind_some]
  generalize dc (wd A.segments s a) = b
  have hq := Zc6 (wd A.segments s (a + 1))
  revert hq
  generalize dc (wd A.segments s (a + 1)) = q
  intro hq
  by_cases b3 : b.Kind = 3
  ·rw [show (b.Kind != 3) = false from by rw [b3]; rfl, cond_false]
   cases bd : b.Double with
   | true => rw [cond_true, if_neg (by simp)]; rfl
   | false =>
    rw [cond_false, if_pos ⟨b3, rfl⟩]
    by_cases hq4 : q.Kind = 4
    ·rw [show (q.Kind != 4) = false from by rw [hq4]; rfl, cond_false, cond_false, if_neg (by simp [hq4]), Zev hw hq]
     rfl
    rw [show (q.Kind != 4) = true from bne_iff_ne.2 hq4, cond_true]
    by_cases ho : q.Off = 0
    ·rw [show (q.Off != 0) = false from by rw [ho]; rfl, cond_false, if_neg (by simp [ho]), Zev hw hq]
     rfl
    rw [show (q.Off != 0) = true from bne_iff_ne.2 ho, cond_true, if_pos ⟨hq4, ho⟩]
    rfl
  rw [show (b.Kind != 3) = true from bne_iff_ne.2 b3, cond_true, cond_true, if_neg (by simp [b3])]
  rfl
theorem Zp7 {l : List (List Int)} (hw : WS l) {s a n : Int} (h : U4 l s a n = true) : 0 ≤ a ∧ a ≤ 17592186044416 := by
 have h' := inB_iff.1 h
 have := Zci hw s
 omega
theorem Zre (hw : WS A.segments) (s a : Int) : Vp (some A) s a = some (if U4 A.segments s a 1 = true then tgt A.segments (dc (wd A.segments s a)) s (a + 1 + (dc (wd A.segments s a)).Off) else (l0, 7)) := by
 unfold Vp
 rw [Zfn hw, Option.bind_some]
 cases h : U4 A.segments s a 1 with
 | false => rfl
 | true =>
  have ha := Zp7 hw h
  have hq := Zc6 (wd A.segments s a)
  have ho := hq.o
  simp only [if_true, Bool.not_true, cond_false]
  rw [Zng (Zel hw _ _), Option.bind_some, Y8 (x := a + 1) (by omega) (by omega), Y8 (by omega) (by omega), Zev hw hq]
  rfl
theorem Zqw (hw : WS A.segments) (s a : Int) : Vn (some A) s a = some (fol A.segments s a) := by
 unfold Vn fol
 rw [Zfn hw, Option.bind_some]
 cases h : U4 A.segments s a 1 with
 | false => rfl
 | true =>
  have ha := Zp7 hw h
  have hq := Zc6 (wd A.segments s a)
  have ho := hq.o
  simp only [if_true, Bool.not_true, cond_false]
  rw [Zng (Zel hw _ _), Option.bind_some]
  revert hq ho
  generalize dc (wd A.segments s a) = p
  intro hq ho
  by_cases k0 : p.Kind = 0
  ·rw [show (p.Kind == 0) = true from by rw [k0]; rfl, cond_true, if_pos k0]; rfl
  rw [show (p.Kind == 0) = false from Ve k0, cond_false, if_neg k0]
  by_cases k3 : p.Kind = 3
  ·rw [show (p.Kind == 3) = true from by rw [k3]; rfl, cond_true, cond_true]
   cases hd : p.Double with
   | true => rw [cond_true, if_pos ⟨k3, rfl⟩, Zqu hw]; rfl
   | false => rw [cond_false, if_neg (by simp), if_pos k3, Zre hw]; rfl
  rw [show (p.Kind == 3) = false from Ve k3, cond_false, cond_false, cond_false, if_neg (by simp [k3]), if_neg k3, Y8 (x := a + 1) (by omega) (by omega), Y8 (by omega) (by omega), Zev hw hq]
  rfl
end
def toR (x : Yb) : Zv := ⟨x.P, x.Segment, x.At⟩
def Zta (x : Yb × Int) : Zv × Int := (toR x.1, x.2)
theorem Zjf {l : List (List Int)} (hw : WS l) (s a : Int) : Y4 l s a = some (U4 l s a 1) := by
 have hl := Zci hw s
 unfold Y4 U4
 by_cases h1 : 0 ≤ s
 ·by_cases h2 : s < (l.length : Int)
  ·by_cases h3 : 0 ≤ a
   ·rw [(Vu h1 h2).1]
    simp only [decide_eq_true h1, decide_eq_true h2, decide_eq_true h3, cond_true, Option.bind_some, Bool.true_and, show decide ((0 : Int) ≤ 1) = true from rfl]
    refine congrArg some ?_
    rw [Bool.eq_iff_iff, decide_eq_true_eq, decide_eq_true_eq]
    omega
   rw [decide_eq_true h1, decide_eq_true h2, decide_eq_false h3]; rfl
  rw [decide_eq_true h1, decide_eq_false h2]; rfl
 rw [decide_eq_false h1]; rfl
theorem Zrb {l : List (List Int)} (hw : WS l) {p : Zx} (h : PB p) (hk : p.Kind = 1 ∨ p.Kind = 2) (s a : Int) : Y1 l ⟨p, s, a⟩ = some (Zta (if U4 l s a (pw p) = true then (⟨Zny p, s, a⟩, 0) else (l0, 7))) := by
 have hl := Zci hw s
 have hp := Zt7 h
 unfold Y1
 simp only
 rw [Zrd h hk, Option.bind_some]
 have key : ∀ b : Bool, U4 l s a (pw p) = !b → (cond b (some ((⟨⟨0, 0, 0, 0, 0, 0, 0, false⟩, 0, 0⟩ : Zv), (7 : Int))) (some ((⟨⟨p.Kind, 0, p.Data, p.Ptrs, p.Code, p.Count, p.Segment, p.Double⟩, s, a⟩ : Zv), 0))) = some (Zta (if U4 l s a (pw p) = true then (⟨Zny p, s, a⟩, 0) else (l0, 7))) := fun b hb => by
  rw [hb]
  cases b <;> rfl
 have hin : ∀ b : Bool, (b = true ↔ ¬ (0 ≤ s ∧ s < l.length ∧ 0 ≤ a ∧ 0 ≤ pw p ∧ a + pw p ≤ (seg l s).length)) → U4 l s a (pw p) = !b := fun b hb => by
  cases hq : U4 l s a (pw p) with
  | true =>
   have := inB_iff.1 hq
   cases b with
   | false => rfl
   | true => exact absurd this (hb.1 rfl)
  | false =>
   cases b with
   | true => rfl
   | false =>
    have h2 : ¬ ¬ (0 ≤ s ∧ s < l.length ∧ 0 ≤ a ∧ 0 ≤ pw p ∧ a + pw p ≤ (seg l s).length) := fun q => by have := hb.2 q; cases this
    have h3 := inB_iff.2 (Classical.not_not.1 h2)
    rw [hq] at h3
    cases h3
 by_cases h1 : s < 0
 ·rw [decide_eq_true h1, cond_true, Option.bind_some]
  exact key true (hin true ⟨fun _ => by omega, fun _ => rfl⟩)
 rw [decide_eq_false h1, cond_false]
 by_cases h2 : (l.length : Int) ≤ s
 ·rw [decide_eq_true h2, cond_true, Option.bind_some]
  exact key true (hin true ⟨fun _ => by omega, fun _ => rfl⟩)
 rw [decide_eq_false h2, cond_false]
 by_cases h3 : a < 0
 ·rw [decide_eq_true h3, cond_true, Option.bind_some]
  exact key true (hin true ⟨fun _ => by omega, fun _ => rfl⟩)
 rw [decide_eq_false h3, cond_false, (Vu (by omega) (by omega)).1, Option.bind_some]
 by_cases h4 : ((seg l s).length : Int) < a
 ·rw [decide_eq_true h4, cond_true, Option.bind_some]
  exact key true (hin true ⟨fun _ => by omega, fun _ => rfl⟩)
 rw [decide_eq_false h4, cond_false, cond_false, cond_false, cond_false, cond_false, Option.bind_some, Y8 (by omega) (by omega)]
 exact key _ (hin _ (by rw [decide_eq_true_eq]; omega))
theorem Zl8 {p : Zx} : Y0 p = some (if p.Kind = 4 then 9 else if p.Kind = 1 ∨ p.Kind = 2 then 0 else 8) := by
 unfold Y0
 by_cases k4 : p.Kind = 4
 ·rw [show (p.Kind == 4) = true from by rw [k4]; rfl, if_pos k4]; rfl
 rw [show (p.Kind == 4) = false from Ve k4, cond_false, if_neg k4]
 by_cases k1 : p.Kind = 1
 ·rw [show (p.Kind != 1) = false from by rw [k1]; rfl, if_pos (.inl k1)]; rfl
 rw [show (p.Kind != 1) = true from bne_iff_ne.2 k1, cond_true]
 by_cases k2 : p.Kind = 2
 ·rw [show (p.Kind != 2) = false from by rw [k2]; rfl, if_pos (.inr k2)]; rfl
 rw [show (p.Kind != 2) = true from bne_iff_ne.2 k2, if_neg (by omega)]; rfl
theorem Zm5 {l : List (List Int)} (hw : WS l) {p : Zx} (h : PB p) (s a : Int) {k : Int → Option (Zv × Int)} (hk : k = fun y => cond (y != 0) (some ((⟨⟨0, 0, 0, 0, 0, 0, 0, false⟩, 0, 0⟩ : Zv), y)) ((Y1 l ⟨p, s, a⟩).bind fun y => some (y.1, y.2))) : (Y0 p).bind k = some (Zta (tgt l p s a)) := by
 subst hk
 rw [Zl8, Option.bind_some]
 unfold tgt
 by_cases k4 : p.Kind = 4
 ·rw [if_pos k4, if_pos k4]; rfl
 rw [if_neg k4, if_neg k4]
 by_cases k : p.Kind = 1 ∨ p.Kind = 2
 ·rw [if_pos k, if_pos k, show ((0 : Int) != 0) = false from rfl, cond_false, Zrb hw h k, Option.bind_some]
 rw [if_neg k, if_neg k]; rfl
theorem Zsa (p : Zx) : (⟨p.Kind, p.Off, p.Data, p.Ptrs, p.Code, p.Count, p.Segment, p.Double⟩ : Zx) = p := by cases p; rfl
theorem Zuv {l : List (List Int)} {s a : Int} (h0 : 0 ≤ a) : U4 l s a 2 = (U4 l s a 1 && U4 l s (a + 1) 1) := by
 rw [Bool.eq_iff_iff, Bool.and_eq_true, inB_iff, inB_iff, inB_iff]
 omega
theorem Zpx {l : List (List Int)} (hw : WS l) (s a : Int) : Xl l s a = some (Zta (fol l s a)) := by
 unfold Xl fol
 rw [Zjf hw, Option.bind_some]
 cases h : U4 l s a 1 with
 | false => rfl
 | true =>
  have h' := inB_iff.1 h
  have ha := Zp7 hw h
  have hq := Zc6 (wd l s a)
  simp only [if_true, Bool.not_true, cond_false]
  rw [(Vu h'.1 h'.2.1).1, Option.bind_some, (Zit h).1, Option.bind_some, Zkd (Zel hw _ _), Option.bind_some]
  revert hq
  generalize dc (wd l s a) = p
  intro hq
  have ho := hq.o
  by_cases k0 : p.Kind = 0
  ·rw [show (p.Kind == 0) = true from by rw [k0]; rfl, cond_true, if_pos k0]; rfl
  rw [show (p.Kind == 0) = false from Ve k0, cond_false, if_neg k0]
  by_cases k3 : p.Kind = 3
  ·have hf := hq.f k3
   rw [show (p.Kind == 3) = true from by rw [k3]; rfl, cond_true, cond_true, if_pos k3]
   cases hd : p.Double with
   | true =>
    rw [cond_true, if_pos ⟨k3, rfl⟩, Zjf hw, Option.bind_some, Y8 (by omega) (by omega), Zjf hw]
    have h2 := Zuv (l := l) (s := p.Segment) hf
    cases b1 : U4 l p.Segment p.Off 1 with
    | false =>
     rw [h2, b1]
     rfl
    | true =>
     rw [cond_true, Option.bind_some, Option.bind_some, Bool.not_true, cond_false, h2, b1, Bool.true_and]
     cases b2 : U4 l p.Segment (p.Off + 1) 1 with
     | false => rfl
     | true =>
      have b1' := inB_iff.1 b1
      rw [Bool.not_true, cond_false, (Vu b1'.1 b1'.2.1).1, Option.bind_some, (Zit b1).1, Option.bind_some, Zkd (Zel hw _ _), Option.bind_some, (Zit b2).1, Option.bind_some, Zkd (Zel hw _ _), Option.bind_some]
      simp only [if_true]
      generalize dc (wd l p.Segment p.Off) = b
      have hq2 := Zc6 (wd l p.Segment (p.Off + 1))
      revert hq2
      generalize dc (wd l p.Segment (p.Off + 1)) = q
      intro hq2
      by_cases b3 : b.Kind = 3
      ·rw [show (b.Kind != 3) = false from by rw [b3]; rfl, cond_false]
       cases bd : b.Double with
       | true => rw [cond_true, if_neg (by simp)]; rfl
       | false =>
        rw [cond_false, if_pos ⟨b3, rfl⟩]
        by_cases ho' : q.Off = 0
        ·rw [if_neg (by simp [ho'])]
         refine Zm5 hw hq2 b.Segment b.Off ?_
         funext y
         rw [show (q.Off != 0) = false from by rw [ho']; rfl]
         cases (y == 0) <;> rfl
        rw [Zl8, Option.bind_some, show (q.Off != 0) = true from bne_iff_ne.2 ho']
        by_cases hq4 : q.Kind = 4
        ·exact absurd (hq2.z (.inr hq4)) ho'
        by_cases hk : q.Kind = 1 ∨ q.Kind = 2
        ·rw [if_neg hq4, if_pos hk, if_pos ⟨hq4, ho'⟩]; rfl
        rw [if_neg hq4, if_neg hk, if_pos ⟨hq4, ho'⟩]; rfl
      rw [show (b.Kind != 3) = true from bne_iff_ne.2 b3, cond_true, cond_true, if_neg (by simp [b3])]
      rfl
   | false =>
    rw [cond_false, if_neg (by simp), Zjf hw, Option.bind_some]
    cases b1 : U4 l p.Segment p.Off 1 with
    | false => rfl
    | true =>
     have b1' := inB_iff.1 b1
     rw [Bool.not_true, cond_false, (Vu b1'.1 b1'.2.1).1, Option.bind_some, (Zit b1).1, Option.bind_some, Zkd (Zel hw _ _), Option.bind_some, Option.bind_some]
     have hq2 := Zc6 (wd l p.Segment p.Off)
     have ho2 := hq2.o
     have ha2 := Zp7 hw b1
     simp only [Zsa]
     rw [Y8 (x := p.Off + 1) (by omega) (by omega), Y8 (by omega) (by omega)]
     exact Zm5 hw hq2 _ _ rfl
  rw [show (p.Kind == 3) = false from Ve k3, cond_false, cond_false, cond_false, if_neg (by simp [k3]), if_neg k3, Option.bind_some]
  simp only [Zsa]
  rw [Y8 (x := a + 1) (by omega) (by omega), Y8 (by omega) (by omega)]
  exact Zm5 hw hq _ _ rfl
theorem Ztv (l : List Int) (h : ∀ w ∈ l, 0 ≤ w ∧ w < 18446744073709551616) (hl : l.length * 8 ≤ 140737488355328) : WS [l] :=
 ⟨by simp, fun x hx => by rw [List.mem_singleton] at hx; subst hx; exact hl, fun x hx => by rw [List.mem_singleton] at hx; subst hx; exact h⟩
theorem Zqv : fol [[4294967296, 7]] 0 0 = (⟨⟨1, 0, 1, 0, 0, 0, 0, false⟩, 0, 1⟩, 0) := rfl
theorem Ztt {l : List (List Int)} {p : Zx} (h : PB p) {s a : Int} : ((tgt l p s a).2 ≠ 0 ∧ (tgt l p s a).1 = l0) ∨ ((tgt l p s a).2 = 0 ∧ (p.Kind = 1 ∨ p.Kind = 2) ∧ (tgt l p s a).1 = ⟨Zny p, s, a⟩ ∧ U4 l s a (pw p) = true) := by
 unfold tgt
 by_cases k4 : p.Kind = 4
 ·rw [if_pos k4]; exact .inl ⟨by simp, rfl⟩
 rw [if_neg k4]
 by_cases k : p.Kind = 1 ∨ p.Kind = 2
 ·rw [if_pos k]
  by_cases hi : U4 l s a (pw p) = true
  ·rw [if_pos hi]; exact .inr ⟨rfl, k, rfl, hi⟩
  rw [if_neg hi]; exact .inl ⟨by simp, rfl⟩
 rw [if_neg k]; exact .inl ⟨by simp, rfl⟩
theorem Zs4 {p : Zx} (h : PB p) : PB (Zny p) := ⟨h.k, by simp [Zny], h.d, h.q, h.c, h.n, h.s, fun _ => by simp [Zny], fun _ => rfl⟩
theorem Zto (l : List (List Int)) (s a : Int) : ((fol l s a).1 = l0) ∨ ((fol l s a).2 = 0 ∧ ∃ p s' a', PB p ∧ p.Off = 0 ∧ (p.Kind = 1 ∨ p.Kind = 2) ∧ (fol l s a).1 = ⟨p, s', a'⟩ ∧ U4 l s' a' (pw p) = true) := by
 have key : ∀ (w s a : Int), ((tgt l (dc w) s a).1 = l0) ∨ ((tgt l (dc w) s a).2 = 0 ∧ ∃ p s' a', PB p ∧ p.Off = 0 ∧ (p.Kind = 1 ∨ p.Kind = 2) ∧ (tgt l (dc w) s a).1 = ⟨p, s', a'⟩ ∧ U4 l s' a' (pw p) = true) := fun w s a => by
  rcases Ztt (l := l) (Zc6 w) (s := s) (a := a) with h | ⟨h1, h2, h3, h4⟩
  ·exact .inl h.2
  exact .inr ⟨h1, Zny (dc w), s, a, Zs4 (Zc6 w), rfl, h2, h3, h4⟩
 unfold fol
 by_cases h : U4 l s a 1 = true
 ·rw [if_pos h]
  simp only
  split
  ·exact .inl rfl
  split
  ·split
   ·split
    ·split
     ·exact .inl rfl
     exact key _ _ _
    exact .inl rfl
   exact .inl rfl
  split
  ·split
   ·exact key _ _ _
   exact .inl rfl
  exact key _ _ _
 rw [if_neg h]; exact .inl rfl
def r0 : Zh := ⟨none, 0, 0, 0, 0, 0, 0, 0, 0⟩
def Yt (r : Zh) : Int := if r.kind = 1 then r.ptrs else r.count
def atR (A : Zj) (s a : Int) : Zh × Int :=
 let x := fol A.segments s a
 if x.2 ≠ 0 ∨ x.1.P.Kind = 0 then (r0, x.2)
 else if x.1.P.Kind = 1 then (⟨some A, 1, x.1.Segment, x.1.At, x.1.P.Data, x.1.P.Ptrs, 0, 0, 0⟩, 0)
 else if x.1.P.Code = 7 then
  let t := dc (wd A.segments x.1.Segment x.1.At)
  if (t.Kind ≠ 0 ∧ t.Kind ≠ 1) ∨ t.Off < 0 ∨ x.1.P.Count < t.Off * (t.Data + t.Ptrs) then (r0, 8)
  else (⟨some A, 9, x.1.Segment, x.1.At, t.Data, t.Ptrs, t.Off, 0, 0⟩, 0)
 else (⟨some A, x.1.P.Code + 2, x.1.Segment, x.1.At, 0, 0, x.1.P.Count, 0, 0⟩, 0)
inductive OKr (A : Zj) : Zh → Prop
 | z : OKr A r0
 | st (s a d p : Int) (hd : 0 ≤ d ∧ d < 65536) (hp : 0 ≤ p ∧ p < 65536) (hi : U4 A.segments s a (d + p) = true) : OKr A ⟨some A, 1, s, a, d, p, 0, 0, 0⟩
 | li (k s a n : Int) (hk : 2 ≤ k ∧ k ≤ 8) (hn : 0 ≤ n ∧ n < 536870912) (hi : U4 A.segments s a ((n * wdt (k - 2) + 63) / 64) = true) : OKr A ⟨some A, k, s, a, 0, 0, n, 0, 0⟩
 | co (s a d p n : Int) (hd : 0 ≤ d ∧ d < 65536) (hp : 0 ≤ p ∧ p < 65536) (hn : 0 ≤ n ∧ n < 536870912) (hw : 0 ≤ n * (d + p) ∧ n * (d + p) < 536870912) (hi : U4 A.segments s a (n * (d + p) + 1) = true) : OKr A ⟨some A, 9, s, a, d, p, n, 0, 0⟩
 | at_ (s a c i n : Int) (hc : 0 ≤ c ∧ c ≤ 5) (h0 : 0 ≤ i) (h1 : i < n) (hn : n < 536870912) (hi : U4 A.segments s a ((n * wdt c + 63) / 64) = true) : OKr A ⟨some A, 10, s, a, 0, 0, 0, c, i⟩
theorem Zjp (l : List (List Int)) (s a : Int) : ((fol l s a).2 ≠ 0 ∨ (fol l s a).1.P.Kind = 0) ∨ ((fol l s a).2 = 0 ∧ PB (fol l s a).1.P ∧ ((fol l s a).1.P.Kind = 1 ∨ (fol l s a).1.P.Kind = 2) ∧ U4 l (fol l s a).1.Segment (fol l s a).1.At (pw (fol l s a).1.P) = true) := by
 rcases Zto l s a with h | ⟨h1, p, s', a', hp, ho, hk, h, hi⟩
 ·rw [h]; exact .inl (.inr rfl)
 rw [h]; exact .inr ⟨h1, hp, hk, hi⟩
section
variable {A : Zj}
theorem Zp1 (w : Int) : 0 ≤ (dc w).Data ∧ (dc w).Data < 65536 ∧ 0 ≤ (dc w).Ptrs ∧ (dc w).Ptrs < 65536 ∧ (dc w).Off < 536870912 := by
 have h := Zc6 w
 exact ⟨h.d.1, h.d.2, h.q.1, h.q.2, h.o.2⟩
theorem Zr6 {n x : Int} (h0 : -536870912 ≤ n ∧ n < 536870912) (h1 : 0 ≤ x ∧ x ≤ 131070) : -70368744177664 ≤ n * x ∧ n * x ≤ 70368744177664 := by
 constructor
 ·have : -536870912 * 131070 ≤ n * x := by
   rcases Int.le_total 0 n with h | h
   ·have := Int.mul_nonneg h h1.1; omega
   have h2 : n * 131070 ≤ n * x := Int.mul_le_mul_of_nonpos_left h h1.2
   have h3 : -536870912 * 131070 ≤ n * 131070 := Int.mul_le_mul_of_nonneg_right h0.1 (by omega)
   omega
  omega
 rcases Int.le_total 0 n with h | h
 ·have h2 : n * x ≤ n * 131070 := Int.mul_le_mul_of_nonneg_left h1.2 h
  have h3 : n * 131070 ≤ 536870912 * 131070 := Int.mul_le_mul_of_nonneg_right (by omega) (by omega)
  omega
 have := Int.mul_nonpos_of_nonpos_of_nonneg h h1.1
 omega
theorem Zmg (s a : Int) : OKr A (atR A s a).1 := by
 unfold atR
 rcases Zjp A.segments s a with h | ⟨h1, hp, hk, hi⟩
 ·rw [if_pos h]; exact .z
 rw [if_neg (by omega)]
 generalize (fol A.segments s a).1 = x at *
 by_cases k1 : x.P.Kind = 1
 ·rw [if_pos k1]
  have : pw x.P = x.P.Data + x.P.Ptrs := by unfold pw; rw [if_pos k1]
  rw [this] at hi
  exact .st _ _ _ _ hp.d hp.q hi
 rw [if_neg k1]
 have k2 : x.P.Kind = 2 := by omega
 by_cases c7' : x.P.Code = 7
 ·rw [if_pos c7']
  have hpw : pw x.P = x.P.Count + 1 := by unfold pw; rw [if_neg k1, if_pos c7']
  rw [hpw] at hi
  have ht := Zp1 (wd A.segments x.Segment x.At)
  simp only
  generalize dc (wd A.segments x.Segment x.At) = t at *
  split
  ·exact .z
  rename_i hc
  have hn := hp.n
  have h0 : 0 ≤ t.Off * (t.Data + t.Ptrs) := Int.mul_nonneg (by omega) (by omega)
  have hi' := inB_iff.1 hi
  exact .co _ _ _ _ _ (by omega) (by omega) (by omega) (by omega) (inB_iff.2 ⟨hi'.1, hi'.2.1, hi'.2.2.1, by omega, by omega⟩)
 rw [if_neg c7']
 have hpw : pw x.P = (x.P.Count * wdt x.P.Code + 63) / 64 := by unfold pw; rw [if_neg k1, if_neg c7']
 rw [hpw] at hi
 have hc := hp.c
 exact .li _ _ _ _ (by omega) hp.n (by rw [show x.P.Code + 2 - 2 = x.P.Code by omega]; exact hi)
theorem Zp8 (hw : WS A.segments) (s a : Int) : Jm (some A) s a = some (atR A s a) := by
 unfold Jm atR
 rw [Zqw hw, Option.bind_some]
 simp only
 rcases Zjp A.segments s a with h | ⟨h1, hp, hk, hi⟩
 ·rw [if_pos h]
  have : cond ((fol A.segments s a).2 != 0) true ((fol A.segments s a).1.P.Kind == 0) = true := by
   rcases h with h | h
   ·rw [bne_iff_ne.2 h]; rfl
   rw [show ((fol A.segments s a).1.P.Kind == 0) = true from by rw [h]; rfl]
   cases ((fol A.segments s a).2 != 0) <;> rfl
  rw [this, cond_true]; rfl
 rw [if_neg (by omega), h1, show ((0 : Int) != 0) = false from rfl, cond_false]
 generalize (fol A.segments s a).1 = x at *
 rw [show (x.P.Kind == 0) = false from Ve (by omega), cond_false]
 by_cases k1 : x.P.Kind = 1
 ·rw [if_pos k1, show (x.P.Kind == 1) = true from by rw [k1]; rfl, cond_true]
 rw [if_neg k1, show (x.P.Kind == 1) = false from Ve k1, cond_false]
 have hc := hp.c
 by_cases c7' : x.P.Code = 7
 ·rw [if_pos c7', show (x.P.Code == 7) = true from by rw [c7']; rfl, cond_true]
  have hpw : pw x.P = x.P.Count + 1 := by unfold pw; rw [if_neg k1, if_pos c7']
  rw [hpw] at hi
  have hn := hp.n
  have hi' := inB_iff.1 hi
  have hi1 : U4 A.segments x.Segment x.At 1 = true := inB_iff.2 ⟨hi'.1, hi'.2.1, hi'.2.2.1, by omega, by omega⟩
  unfold Jw
  simp only
  rw [Zfn hw, if_pos hi1, Option.bind_some, Zng (Zel hw _ _), Option.bind_some]
  have ht := Zp1 (wd A.segments x.Segment x.At)
  have ho := (Zc6 (wd A.segments x.Segment x.At)).o
  generalize dc (wd A.segments x.Segment x.At) = t at *
  have hm := Zr6 (n := t.Off) (x := t.Data + t.Ptrs) ho (by omega)
  rw [Y8 (x := t.Data + t.Ptrs) (by omega) (by omega), Y8 (x := t.Off * (t.Data + t.Ptrs)) (by omega) (by omega), Y8 (x := x.P.Code + 2) (by omega) (by omega), c7']
  by_cases hq : (t.Kind ≠ 0 ∧ t.Kind ≠ 1) ∨ t.Off < 0 ∨ x.P.Count < t.Off * (t.Data + t.Ptrs)
  ·rw [if_pos hq]
   have : cond (cond (cond (t.Kind != 0) (t.Kind != 1) false) true (decide (t.Off < 0))) true (decide (x.P.Count < t.Off * (t.Data + t.Ptrs))) = true := by
    rcases hq with ⟨q1, q2⟩ | q | q
    ·rw [bne_iff_ne.2 q1, bne_iff_ne.2 q2]; rfl
    ·rw [decide_eq_true q]; cases (cond (t.Kind != 0) (t.Kind != 1) false) <;> rfl
    rw [decide_eq_true q]; cases (cond (cond (t.Kind != 0) (t.Kind != 1) false) true (decide (t.Off < 0))) <;> rfl
   rw [this, cond_true]; rfl
  rw [if_neg hq]
  have e1 : cond (t.Kind != 0) (t.Kind != 1) false = false := by
   by_cases q0 : t.Kind = 0
   ·rw [show (t.Kind != 0) = false from by rw [q0]; rfl]; rfl
   have q1 : t.Kind = 1 := by omega
   rw [show (t.Kind != 1) = false from by rw [q1]; rfl]
   cases (t.Kind != 0) <;> rfl
  rw [e1, cond_false, show decide (t.Off < 0) = false from by rw [decide_eq_false_iff_not]; omega, cond_false, show decide (x.P.Count < t.Off * (t.Data + t.Ptrs)) = false from by rw [decide_eq_false_iff_not]; omega]
  rfl
 rw [if_neg c7', show (x.P.Code == 7) = false from Ve c7', cond_false, Y8 (x := x.P.Code + 2) (by omega) (by omega)]
theorem Zn5 (r : Zh) : Xc r = some (Yt r) := by
 unfold Xc Yt
 by_cases h : r.kind = 1
 ·rw [if_pos h, show (r.kind == 1) = true from by rw [h]; rfl]; rfl
 rw [if_neg h, show (r.kind == 1) = false from Ve h]; rfl
def Zmw (A : Zj) (r : Zh) (i : Int) : Zh × Int :=
 if i < 0 ∨ Yt r ≤ i then (r0, 0)
 else if r.kind = 1 then atR A r.segment (r.at_ + r.words + i)
 else if r.kind = 8 then atR A r.segment (r.at_ + i)
 else if r.kind = 9 then (⟨some A, 1, r.segment, r.at_ + 1 + i * (r.words + r.ptrs), r.words, r.ptrs, 0, 0, 0⟩, 0)
 else (⟨some A, 10, r.segment, r.at_, 0, 0, 0, r.kind - 2, i⟩, 0)
theorem Zs0 {r : Zh} (h : OKr A r) (i : Int) : OKr A (Zmw A r i).1 := by
 unfold Zmw
 by_cases hi : i < 0 ∨ Yt r ≤ i
 ·rw [if_pos hi]; exact .z
 rw [if_neg hi]
 by_cases k1 : r.kind = 1
 ·rw [if_pos k1]; exact Zmg _ _
 rw [if_neg k1]
 by_cases k8 : r.kind = 8
 ·rw [if_pos k8]; exact Zmg _ _
 rw [if_neg k8]
 by_cases k9 : r.kind = 9
 ·rw [if_pos k9]
  cases h with
  | z => simp [r0] at k9
  | st _ _ _ _ => simp at k1
  | li k s a n hk => simp only at k9; omega
  | at_ => simp at k9
  | co s a d p n hd hp hn hw hin =>
   simp only
   have hi' := inB_iff.1 hin
   simp only [Yt] at hi
   rw [if_neg (by omega)] at hi
   have h1 : 0 ≤ i * (d + p) := Int.mul_nonneg (by omega) (by omega)
   have h2 : (i + 1) * (d + p) ≤ n * (d + p) := Int.mul_le_mul_of_nonneg_right (by omega) (by omega)
   rw [Int.add_mul, Int.one_mul] at h2
   exact .st _ _ _ _ hd hp (inB_iff.2 ⟨hi'.1, hi'.2.1, by omega, by omega, by omega⟩)
 rw [if_neg k9]
 cases h with
 | z => simp [r0, Yt] at hi; omega
 | st _ _ _ _ => simp at k1
 | co => simp at k9
 | at_ => simp [Yt] at hi; omega
 | li k s a n hk hn hin =>
  simp only at k8 k9 ⊢
  simp only [Yt] at hi
  rw [if_neg (by omega)] at hi
  exact .at_ _ _ _ _ n (by omega) (by omega) (by omega) (by omega) hin
theorem Zgb (hw : WS A.segments) {s a n : Int} (h : U4 A.segments s a n = true) : 0 ≤ a ∧ 0 ≤ n ∧ a + n ≤ 17592186044416 := by
 have h' := inB_iff.1 h
 have := Zci hw s
 omega
theorem Ztp (hw : WS A.segments) {r : Zh} (h : OKr A r) (i : Int) : Jd r i = some (Zmw A r i) := by
 unfold Jd Zmw
 rw [Zn5]
 have hz : (cond (decide (i < 0)) (some true) ((some (Yt r)).bind fun y4 => some (cond (decide (i < 0)) true (decide (y4 ≤ i))))) = some (decide (i < 0 ∨ Yt r ≤ i)) := by
  by_cases h0 : i < 0
  ·rw [decide_eq_true h0, cond_true, show decide (i < 0 ∨ Yt r ≤ i) = true from decide_eq_true (.inl h0)]
  rw [decide_eq_false h0, cond_false, Option.bind_some, cond_false]
  congr 1
  rw [decide_eq_decide]
  omega
 rw [hz, Option.bind_some]
 by_cases hi : i < 0 ∨ Yt r ≤ i
 ·rw [if_pos hi, decide_eq_true hi]; rfl
 rw [if_neg hi, decide_eq_false hi, cond_false]
 cases h with
 | z => exact absurd hi (by first | (simp [Yt, r0]; done) | (simp [Yt, r0]; omega))
 | at_ => exact absurd hi (by first | (simp [Yt]; done) | (simp [Yt]; omega))
 | st s a d p hd hp hin =>
  have := Zgb hw hin
  simp only [Yt, if_true] at hi
  simp only [beq_self_eq_true, cond_true, if_true]
  rw [Y8 (x := a + d) (by omega) (by omega), Y8 (by omega) (by omega), Zp8 hw]
  rfl
 | co s a d p n hd hp hn hwx hin =>
  have := Zgb hw hin
  simp only [Yt] at hi
  rw [if_neg (by omega)] at hi
  simp only [show ((9 : Int) == 1) = false from rfl, show ((9 : Int) == 8) = false from rfl, show ((9 : Int) == 9) = true from rfl, cond_true, cond_false, show ¬ (9 : Int) = 1 from by decide, show ¬ (9 : Int) = 8 from by decide, if_false, if_true]
  have h1 : 0 ≤ i * (d + p) := Int.mul_nonneg (by omega) (by omega)
  have h2 : (i + 1) * (d + p) ≤ n * (d + p) := Int.mul_le_mul_of_nonneg_right (by omega) (by omega)
  rw [Int.add_mul, Int.one_mul] at h2
  rw [Y8 (x := a + 1) (by omega) (by omega), Y8 (x := d + p) (by omega) (by omega), Y8 (x := i * (d + p)) (by omega) (by omega), Y8 (by omega) (by omega)]
 | li k s a n hk hn hin =>
  have := Zgb hw hin
  simp only [Yt] at hi
  rw [if_neg (by omega)] at hi
  simp only
  rw [show (k == 1) = false from Ve (by omega), cond_false, if_neg (by omega), show (k == 9) = false from Ve (by omega)]
  by_cases k8 : k = 8
  ·have hp : (n * wdt (k - 2) + 63) / 64 = n := by rw [k8]; simp [wdt]; omega
   rw [show (k == 8) = true from by rw [k8]; rfl, cond_true, if_pos k8, Y8 (by omega) (by omega), Zp8 hw]
   rfl
  rw [show (k == 8) = false from Ve k8, cond_false, cond_false, if_neg k8, if_neg (by omega), Y8 (by omega) (by omega)]
def Jl (r : Zh) : Int := if r.kind = 1 then r.words else if r.kind = 10 then 1 else 0
theorem Zl5 (r : Zh) : Y2 r = some (Jl r) := by
 unfold Y2 Jl
 by_cases h : r.kind = 1
 ·rw [if_pos h, show (r.kind == 1) = true from by rw [h]; rfl]; rfl
 rw [if_neg h, show (r.kind == 1) = false from Ve h]
 by_cases h' : r.kind = 10
 ·rw [if_pos h', show (r.kind == 10) = true from by rw [h']; rfl]; rfl
 rw [if_neg h', show (r.kind == 10) = false from Ve h']; rfl
def Zr7 (w : Int) (c j : Int) : Int := ((w.toNat / 2 ^ (j * wdt c).toNat % 2 ^ (wdt c).toNat : Nat) : Int)
def each (c : Int) : Int := 64 / wdt c
def Zq5 (A : Zj) (r : Zh) : Int := if r.code = 0 then 0 else Zr7 (wd A.segments r.segment (r.at_ + r.index / each r.code)) r.code (r.index % each r.code)
theorem c5 {c : Int} (h : 0 ≤ c ∧ c ≤ 5) : c = 0 ∨ c = 1 ∨ c = 2 ∨ c = 3 ∨ c = 4 ∨ c = 5 := by omega
theorem Zmc {c : Int} (h : 0 ≤ c ∧ c ≤ 5) : Kg c = some (wdt c, true) := by
 unfold Kg
 rcases c5 h with rfl | rfl | rfl | rfl | rfl | rfl <;> rfl
theorem Zq4 (w : Nat) (k : Nat) (hw : w < 18446744073709551616) (hk : k ≤ 64) : IntKind.u64.wrap (Kl .u64 (w : Int) (IntKind.u64.wrap (IntKind.u64.wrap (1 * 2 ^ min (Int.toNat (k : Int)) 64) - 1))) = ((w % 2 ^ k : Nat) : Int) := by
 have hm : IntKind.u64.wrap (IntKind.u64.wrap (1 * 2 ^ min (Int.toNat (k : Int)) 64) - 1) = ((2 ^ k - 1 : Nat) : Int) := by
  rw [Int.toNat_natCast, Nat.min_eq_left hk, Zmy]
  rcases Nat.lt_or_ge k 64 with h | h
  ·have h1 : 2 ^ k ≤ 2 ^ 63 := Nat.pow_le_pow_right (by decide) (by omega)
   have h2 : 0 < 2 ^ k := Nat.pow_pos (by decide)
   rw [Int.one_mul, Zsp (2 ^ k) (by omega), show (((2 ^ k : Nat) : Int) - 1) = ((2 ^ k - 1 : Nat) : Int) by omega, Zsp _ (by omega)]
  have : k = 64 := by omega
  subst this
  decide
 rw [hm]
 have e : Kl .u64 (w : Int) ((2 ^ k - 1 : Nat) : Int) = ((w &&& (2 ^ k - 1) : Nat) : Int) := by
  unfold Kl
  congr 1
  have h1 : 2 ^ k ≤ 2 ^ 64 := Nat.pow_le_pow_right (by decide) hk
  have h2 : 0 < 2 ^ k := Nat.pow_pos (by decide)
  rw [BitVec.toNat_and]
  have e1 : (BitVec.ofInt (IntKind.u64).bits (w : Int)).toNat = w := by
   show (BitVec.ofInt 64 (w : Int)).toNat = w
   rw [BitVec.ofInt_natCast, BitVec.toNat_ofNat]
   exact Nat.mod_eq_of_lt (by omega)
  have e2 : (BitVec.ofInt (IntKind.u64).bits ((2 ^ k - 1 : Nat) : Int)).toNat = 2 ^ k - 1 := by
   show (BitVec.ofInt 64 ((2 ^ k - 1 : Nat) : Int)).toNat = 2 ^ k - 1
   rw [BitVec.ofInt_natCast, BitVec.toNat_ofNat]
   exact Nat.mod_eq_of_lt (by omega)
  rw [e1, e2]
 rw [e, Nat.and_two_pow_sub_one_eq_mod]
 have : w % 2 ^ k ≤ w := Nat.mod_le _ _
 exact IntWalk.u64_in _ (by omega)
theorem Ztb {w c j : Int} (hw : 0 ≤ w ∧ w < 18446744073709551616) (hc : 1 ≤ c ∧ c ≤ 5) (hj : 0 ≤ j ∧ j < each c) : Gx [w] c j = some (Zr7 w c j) := by
 unfold Gx Zr7
 rw [Zmc (by omega), Option.bind_some]
 simp only
 obtain ⟨d, e, hd⟩ : ∃ d : Nat, wdt c = (d : Int) ∧ (d = 1 ∨ d = 8 ∨ d = 16 ∨ d = 32 ∨ d = 64) := by
  rcases c5 (c := c) (by omega) with rfl | rfl | rfl | rfl | rfl | rfl
  ·omega
  ·exact ⟨1, rfl, by omega⟩
  ·exact ⟨8, rfl, by omega⟩
  ·exact ⟨16, rfl, by omega⟩
  ·exact ⟨32, rfl, by omega⟩
  exact ⟨64, rfl, by omega⟩
 have he : each c = ((64 / d : Nat) : Int) := by unfold each; rw [e]; rfl
 have hdd : 64 / d * d = 64 := by rcases hd with rfl | rfl | rfl | rfl | rfl <;> rfl
 have hdp : 1 ≤ d ∧ d ≤ 64 := by omega
 have hep : 1 ≤ 64 / d ∧ 64 / d ≤ 64 := by rcases hd with rfl | rfl | rfl | rfl | rfl <;> decide
 rw [he] at hj
 obtain ⟨q, rfl⟩ : ∃ q : Nat, j = q := ⟨j.toNat, by omega⟩
 have hq : q < 64 / d := by omega
 have hqd : q * d + d ≤ 64 := by
  have : (q + 1) * d ≤ 64 / d * d := Nat.mul_le_mul_right d hq
  rw [Nat.add_mul] at this
  omega
 rw [e]
 have t1 : Int.tdiv 64 (d : Int) = ((64 / d : Nat) : Int) := by rw [Int.tdiv_eq_ediv_of_nonneg (by decide)]; rfl
 have t2 : Int.tdiv (q : Int) ((64 / d : Nat) : Int) = 0 := by
  rw [Int.tdiv_eq_ediv_of_nonneg (by omega), show ((q : Int) / ((64 / d : Nat) : Int)) = ((q / (64 / d) : Nat) : Int) from rfl, Nat.div_eq_of_lt hq]
  rfl
 have t3 : Int.tmod (q : Int) ((64 / d : Nat) : Int) = (q : Int) := by
  rw [Int.tmod_eq_emod_of_nonneg (by omega), show ((q : Int) % ((64 / d : Nat) : Int)) = ((q % (64 / d) : Nat) : Int) from rfl, Nat.mod_eq_of_lt hq]
 rw [t1, Y8 (x := ((64 / d : Nat) : Int)) (by omega) (by omega), t2, t3, show IntKind.i64.wrap 0 = 0 from by decide]
 have t4 : ((q : Int) * (d : Int)) = ((q * d : Nat) : Int) := by simp
 rw [t4, Y8 (x := ((q * d : Nat) : Int)) (by omega) (by omega), show (((d : Nat) : Int) == 0) = false from Ve (by omega), show decide ((q : Int) < 0) = false from by rw [decide_eq_false_iff_not]; omega]
 simp only [cond_false]
 have g0 : Qf [w] 0 = some w := rfl
 have e1 : Yx ((d : Int) ≠ 0) = some () := Vb (by omega)
 have e2 : Yx (((64 / d : Nat) : Int) ≠ 0) = some () := Vb (by omega)
 have e3 : Yx (0 ≤ ((q * d : Nat) : Int)) = some () := Vb (by omega)
 have e4 : Yx (0 ≤ (d : Int)) = some () := Vb (by omega)
 simp only [e1, e2, e3, e4, g0, Option.bind_some, cond_false, show decide ((([w] : List Int).length : Int) ≤ 0) = false from rfl]
 congr 1
 have hwn : w = ((w.toNat : Nat) : Int) := by omega
 have hf : Int.fdiv w (2 ^ min (Int.toNat ((q * d : Nat) : Int)) 64) = ((w.toNat / 2 ^ (q * d) : Nat) : Int) := by
  rw [Int.toNat_natCast, Nat.min_eq_left (by omega), Zmy, Int.fdiv_eq_ediv_of_nonneg _ (Int.natCast_nonneg _)]
  conv => lhs; rw [hwn]
  rfl
 rw [hf, Zq4 _ d (Nat.lt_of_le_of_lt (Nat.div_le_self _ _) (by omega)) (by omega)]
 rw [Int.toNat_natCast, Int.toNat_natCast]
end
theorem Zr0 {R : Type} {step : Int → Option (Int ⊕ R)} {r : R} (n : Nat) (h : ∀ i : Nat, i < n → step (i : Int) = some (.inl ((i + 1 : Nat) : Int))) (he : step (n : Int) = some (.inr r)) : Yh step 0 = some r := by
 have key : ∀ (k i : Nat), i + k = n → Yh step (i : Int) = some r := fun k => by
  induction k with
  | zero =>
   intro i hi
   have : i = n := by omega
   subst this
   exact Jo he
  | succ k ih => intro i hi; rw [Kk (h i (by omega))]; exact ih (i + 1) (by omega)
 exact key n 0 (by omega)
section
variable {A : Zj}
def Zi3 (A : Zj) (r : Zh) (i : Int) : Int :=
 if i < 0 ∨ Jl r ≤ i then 0 else if r.kind = 10 then Zq5 A r else wd A.segments r.segment (r.at_ + i)
theorem Zp9 {c i n : Int} (hc : 1 ≤ c ∧ c ≤ 5) (h0 : 0 ≤ i) (h1 : i < n) (hn : n < 536870912) : 1 ≤ each c ∧ each c ≤ 64 ∧ 0 ≤ i / each c ∧ i / each c + 1 ≤ (n * wdt c + 63) / 64 ∧ 0 ≤ i % each c ∧ i % each c < each c ∧ Int.tdiv 64 (wdt c) = each c ∧ wdt c ≠ 0 := by
 rcases c5 (c := c) (by omega) with rfl | rfl | rfl | rfl | rfl | rfl
 ·omega
 ·have e1 : each 1 = 64 := by decide
  have e2 : wdt 1 = 1 := by decide
  rw [e1, e2]; exact ⟨by omega, by omega, by omega, by omega, by omega, by omega, by decide, by decide⟩
 ·have e1 : each 2 = 8 := by decide
  have e2 : wdt 2 = 8 := by decide
  rw [e1, e2]; exact ⟨by omega, by omega, by omega, by omega, by omega, by omega, by decide, by decide⟩
 ·have e1 : each 3 = 4 := by decide
  have e2 : wdt 3 = 16 := by decide
  rw [e1, e2]; exact ⟨by omega, by omega, by omega, by omega, by omega, by omega, by decide, by decide⟩
 ·have e1 : each 4 = 2 := by decide
  have e2 : wdt 4 = 32 := by decide
  rw [e1, e2]; exact ⟨by omega, by omega, by omega, by omega, by omega, by omega, by decide, by decide⟩
 have e1 : each 5 = 1 := by decide
 have e2 : wdt 5 = 64 := by decide
 rw [e1, e2]; exact ⟨by omega, by omega, by omega, by omega, by omega, by omega, by decide, by decide⟩
theorem Zq6 (hw : WS A.segments) {s a c i n : Int} (hc : 0 ≤ c ∧ c ≤ 5) (h0 : 0 ≤ i) (h1 : i < n) (hn : n < 536870912) (hi : U4 A.segments s a ((n * wdt c + 63) / 64) = true) : X9 ⟨some A, 10, s, a, 0, 0, 0, c, i⟩ = some (Zq5 A ⟨some A, 10, s, a, 0, 0, 0, c, i⟩) := by
 unfold X9 Zq5
 simp only
 rw [Zmc hc, Option.bind_some]
 simp only
 by_cases hz : c = 0
 ·subst hz
  rw [show (wdt 0 == 0) = true from by decide, cond_true, if_pos rfl]
 obtain ⟨a1, a2, a3, a4, a5, a6, a7, a8⟩ := Zp9 (c := c) (by omega) h0 h1 hn
 have hr := Zgb hw hi
 have hi' := inB_iff.1 hi
 have hin : U4 A.segments s (a + i / each c) 1 = true := inB_iff.2 ⟨hi'.1, hi'.2.1, by omega, by omega, by omega⟩
 rw [show (wdt c == 0) = false from Ve a8, cond_false, if_neg hz, a7, Y8 (x := each c) (by omega) (by omega), Int.tdiv_eq_ediv_of_nonneg h0, Int.tmod_eq_emod_of_nonneg h0, Y8 (x := i / each c) (by omega) (by omega), Y8 (x := a + i / each c) (by omega) (by omega)]
 have e1 : Yx (wdt c ≠ 0) = some () := Vb a8
 have e2 : Yx (each c ≠ 0) = some () := Vb (by omega)
 simp only [e1, e2, Option.bind_some]
 rw [Zfn hw, if_pos hin, Option.bind_some]
 simp only
 rw [Ztb (Zel hw _ _) (by omega) ⟨a5, a6⟩, Option.bind_some]
theorem Zjg (hw : WS A.segments) {r : Zh} (h : OKr A r) (i : Int) : Yv r i = some (Zi3 A r i) := by
 unfold Yv Zi3
 rw [Zl5]
 have hz : (cond (decide (i < 0)) (some true) ((some (Jl r)).bind fun y4 => some (cond (decide (i < 0)) true (decide (y4 ≤ i))))) = some (decide (i < 0 ∨ Jl r ≤ i)) := by
  by_cases h0 : i < 0
  ·rw [decide_eq_true h0, cond_true, show decide (i < 0 ∨ Jl r ≤ i) = true from decide_eq_true (.inl h0)]
  rw [decide_eq_false h0, cond_false, Option.bind_some, cond_false]
  congr 1
  rw [decide_eq_decide]
  omega
 rw [hz, Option.bind_some]
 by_cases hi : i < 0 ∨ Jl r ≤ i
 ·rw [if_pos hi, decide_eq_true hi]; rfl
 rw [if_neg hi, decide_eq_false hi, cond_false]
 cases h with
 | z => exact absurd hi (by simp [Jl, r0]; try omega)
 | li k s a n hk hn hin => exact absurd hi (by simp only [Jl]; rw [if_neg (by omega), if_neg (by omega)]; omega)
 | co s a d p n hd hp hn hwx hin => exact absurd hi (by simp [Jl]; try omega)
 | at_ s a c i' n hc h0 h1 hn hin =>
  simp only [beq_self_eq_true, cond_true, if_true]
  rw [Zq6 hw hc h0 h1 hn hin]
  rfl
 | st s a d p hd hp hin =>
  have := Zgb hw hin
  have hi' := inB_iff.1 hin
  simp only [Jl, if_true] at hi
  simp only [show ((1 : Int) == 10) = false from rfl, cond_false, show ¬ (1 : Int) = 10 from by decide, if_false]
  rw [Y8 (by omega) (by omega), Zfn hw, if_pos (inB_iff.2 ⟨hi'.1, hi'.2.1, by omega, by omega, by omega⟩)]
  rfl
theorem Zsb (r : Zh) : (⟨r.a, r.kind, r.segment, r.at_, r.words, r.ptrs, r.count, r.code, r.index⟩ : Zh) = r := rfl
theorem Zs9 (hw : WS A.segments) : Kw (some A) = some (atR A 0 0) := by
 unfold Kw
 rw [Zp8 hw]
 rfl
end
theorem Zqt : atR ⟨[[4294967296, 7]], 0, 0⟩ 0 0 = (⟨some ⟨[[4294967296, 7]], 0, 0⟩, 1, 0, 1, 1, 0, 0, 0, 0⟩, 0) := by
 unfold atR
 simp only
 rw [Zqv]
 rfl
theorem Zst : WS [[4294967296, 7]] := Ztv _ (by simp) (by simp)
theorem Zrp : Qn = some true := by
 have hw := Zst
 unfold Qn
 rw [Zrj hw, Option.bind_some, Zs9 (A := ⟨[[4294967296, 7]], 0, 0⟩) hw, Option.bind_some]
 have hk := Zmg (A := ⟨[[4294967296, 7]], 0, 0⟩) 0 0
 rw [Zqt] at hk ⊢
 simp only at hk ⊢
 rw [Zjg (A := ⟨[[4294967296, 7]], 0, 0⟩) hw hk]
 rfl
end Go.Proofs.Ytmlhokaflhlhbaa
