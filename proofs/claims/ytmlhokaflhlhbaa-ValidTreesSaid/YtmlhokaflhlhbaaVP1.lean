/- Plain facts on this seat's mirrors (part VP1); each theorem bears its own conditions. -/
import Derived.Test.YtmlhokaflhlhbaaVM5
import Derived.IntWalk
namespace Go.Proofs.Ytmlhokaflhlhbaa
open Go.RowKit
set_option linter.unusedVariables false
set_option linter.unusedSimpArgs false
theorem Jn {a b : Int} (h : ¬ a = b) : (a == b) = false := by simp [h]
def Zou (w : Nat) : Int := if w / 4 % 1073741824 < 536870912 then ((w / 4 % 1073741824 : Nat) : Int) else ((w / 4 % 1073741824 : Nat) : Int) - 1073741824
def Zs9 (w : Nat) : Z7 :=
 if w = 0 then ⟨0, 0, 0, 0, 0, 0, 0, false⟩
 else if w % 4 = 0 then ⟨1, Zou w, (w / 4294967296 % 65536 : Nat), (w / 281474976710656 % 65536 : Nat), 0, 0, 0, false⟩
 else if w % 4 = 1 then ⟨2, Zou w, 0, 0, (w / 4294967296 % 8 : Nat), (w / 34359738368 % 536870912 : Nat), 0, false⟩
 else if w % 4 = 2 then ⟨3, (w / 8 % 536870912 : Nat), 0, 0, 0, 0, (w / 4294967296 % 4294967296 : Nat), decide (w / 4 % 2 = 1)⟩
 else ⟨4, 0, 0, 0, 0, 0, 0, false⟩
theorem Zwn (b : Nat) : ((2 : Int) ^ b) = ((2 ^ b : Nat) : Int) := by simp
theorem Zhl (w f b : Nat) (hw : w < 18446744073709551616) (hf : f < 64) (hb : b ≤ 40) : Y3 w f b = some ((w / 2 ^ f % 2 ^ b : Nat) : Int) := by
 unfold Y3 Ga
 rw [if_pos (Int.natCast_nonneg _), if_pos (Int.natCast_nonneg _)]
 simp only [Option.bind_some, Option.some.injEq]
 have hp : (2 : Nat) ^ b ≤ 1099511627776 := by have := Nat.pow_le_pow_right (n := 2) (by decide) hb; simpa using this
 have h1 : 0 < (2 : Nat) ^ b := Nat.pow_pos (by decide)
 have e1 : (min ((f : Int).toNat) 64) = f := by omega
 have e2 : (min ((b : Int).toNat) 64) = b := by omega
 have hd : w / 2 ^ f < 18446744073709551616 := Nat.lt_of_le_of_lt (Nat.div_le_self _ _) hw
 have e3 : ((w : Int).fdiv ((2 ^ f : Nat) : Int)) = ((w / 2 ^ f : Nat) : Int) := by
  rw [Int.fdiv_eq_ediv_of_nonneg _ (Int.natCast_nonneg _), Int.natCast_ediv]
 rw [e1, e2, Zwn, Zwn, e3]
 clear e3
 generalize hq : 2 ^ b = q at *
 generalize w / 2 ^ f = x at *
 rw [Int.one_mul, IntWalk.u64_in (q : Int) (by omega), IntWalk.u64_in ((q : Int) - 1) (by omega)]
 have e4 : ((q : Int) - 1) = ((q - 1 : Nat) : Int) := by omega
 rw [e4, Zti _ _ hd (by omega), ← hq, Nat.and_two_pow_sub_one_eq_mod, hq]
 have : x % q < q := Nat.mod_lt _ h1
 rw [IntWalk.u64_in _ (by omega), IntWalk.i64_in _ (by omega)]
theorem Zys (w : Nat) (hw : w < 18446744073709551616) : IntKind.i64.wrap ((IntKind.i32.wrap (IntKind.u32.wrap (w : Int))).fdiv (2 ^ min (Int.toNat 2) 32)) = Zou w := by
 have e : (2 : Int) ^ min (Int.toNat 2) 32 = 4 := by decide
 rw [e, Int.fdiv_eq_ediv_of_nonneg _ (by decide), IntKind.wrap_u32, IntKind.wrap_i32]
 unfold Zou
 rw [IntWalk.i64_in _ (by omega)]
 split <;> omega
theorem Zwp (w : Nat) (hw : w < 18446744073709551616) : Gg w = some (Zou w) := congrArg some (Zys w hw)
theorem Zzu (w : Nat) (hw : w < 18446744073709551616) : IntKind.u64.wrap (Zat .u64 w 3) = ((w % 4 : Nat) : Int) := by
 have := Zti w 3 hw (by decide)
 rw [show ((3 : Nat) : Int) = 3 from rfl] at this
 rw [this, show (3 : Nat) = 2 ^ 2 - 1 from rfl, Nat.and_two_pow_sub_one_eq_mod, IntWalk.u64_in _ (by omega)]
theorem Zzv (w : Nat) (hw : w < 18446744073709551616) : (IntKind.u64.wrap (Zat .u64 ((w : Int).fdiv (2 ^ min (Int.toNat 2) 64)) 1) == 1) = decide (w / 4 % 2 = 1) := by
 have e1 : (2 : Int) ^ min (Int.toNat 2) 64 = 4 := by decide
 have e2 : ((w : Int).fdiv 4) = ((w / 4 : Nat) : Int) := by rw [Int.fdiv_eq_ediv_of_nonneg _ (by decide)]; rfl
 have e3 := Zti (w / 4) 1 (by omega) (by decide)
 rw [show ((1 : Nat) : Int) = 1 from rfl, Nat.and_one_is_mod] at e3
 rw [e1, e2, e3, IntWalk.u64_in _ (by omega)]
 by_cases h : w / 4 % 2 = 1
 ·rw [h]; decide
 have : w / 4 % 2 = 0 := by omega
 rw [this]; decide
theorem Zpt (a : Nat) (b : Nat) : ((a : Int) == (b : Int)) = decide (a = b) := by
 by_cases h : a = b
 ·subst h; simp
 simp [h, Int.natCast_inj]
theorem Zv3 (w : Nat) (hw : w < 18446744073709551616) : Qv w = some (Zs9 w) := by
 unfold Qv
 have f1 : Y3 w 32 16 = _ := Zhl w 32 16 hw (by decide) (by decide)
 have f2 : Y3 w 48 16 = _ := Zhl w 48 16 hw (by decide) (by decide)
 have f3 : Y3 w 32 3 = _ := Zhl w 32 3 hw (by decide) (by decide)
 have f4 : Y3 w 35 29 = _ := Zhl w 35 29 hw (by decide) (by decide)
 have f5 : Y3 w 3 29 = _ := Zhl w 3 29 hw (by decide) (by decide)
 have f6 : Y3 w 32 32 = _ := Zhl w 32 32 hw (by decide) (by decide)
 have c0 : ((w : Int) == 0) = _ := Zpt w 0
 have c1 : (((w % 4 : Nat) : Int) == 0) = _ := Zpt (w % 4) 0
 have c2 : (((w % 4 : Nat) : Int) == 1) = _ := Zpt (w % 4) 1
 have c3 : (((w % 4 : Nat) : Int) == 2) = _ := Zpt (w % 4) 2
 rw [Zzu w hw, Zwp w hw, f1, f2, f3, f4, f5, f6, Zzv w hw, c0, c1, c2, c3]
 simp only [Option.bind_some]
 unfold Zs9
 by_cases h0 : w = 0
 ·simp [h0]
 by_cases h1 : w % 4 = 0
 ·simp [h0, h1]
 by_cases h2 : w % 4 = 1
 ·simp [h0, h2]
 by_cases h3 : w % 4 = 2
 ·simp [h0, h3]
 simp [h0, h1, h2, h3]
theorem Zwl (x i : Nat) : x % 2 ^ (i + 1) = x % 2 ^ i + 2 ^ i * (x / 2 ^ i % 2) := Nat.mod_pow_succ
theorem Gi (w f b : Nat) (hw : w < 18446744073709551616) (hf : f < 64) (hb : b ≤ 40) : Z0 w f b = some ((w / 2 ^ f % 2 ^ b : Nat) : Int) := by
 unfold Z0
 have l0 : Yj (J6 f) ((w : Int), 0) = some ((w / 2 ^ f : Nat) : Int) := by
  refine Znm (fun s => ∃ i : Nat, i ≤ f ∧ s = (((w / 2 ^ i : Nat) : Int), (i : Int))) (fun s => f - s.2.toNat) ?_ _ ⟨0, by omega, by simp⟩
  rintro s ⟨i, hi, rfl⟩
  unfold J6
  have hs : w / 2 ^ (i + 1) = w / 2 ^ i / 2 := by rw [Nat.pow_succ, Nat.div_div_eq_div_mul]
  have hd : w / 2 ^ i < 18446744073709551616 := Nat.lt_of_le_of_lt (Nat.div_le_self _ _) hw
  by_cases h : i < f
  ·left
   refine ⟨(((w / 2 ^ (i + 1) : Nat) : Int), ((i + 1 : Nat) : Int)), ?_, ⟨i + 1, by omega, rfl⟩, by simp only; omega⟩
   have : decide ((i : Int) < f) = true := by simp; omega
   simp only [this, cond_true]
   rw [hs]
   generalize w / 2 ^ i = y at *
   rw [Int.tdiv_eq_ediv_of_nonneg (by omega), Zx2 (by omega), Zrc (by omega)]
   rfl
  right
  have : decide ((i : Int) < f) = false := by simp; omega
  obtain rfl : i = f := by omega
  simp only [this, cond_false]
 rw [l0]
 simp only [Option.bind_some]
 generalize hx : w / 2 ^ f = x at *
 have hd : x < 18446744073709551616 := by rw [← hx]; exact Nat.lt_of_le_of_lt (Nat.div_le_self _ _) hw
 have l1 : Yj (J7 b) ((x : Int), 0, 1, 0) = some ((x % 2 ^ b : Nat) : Int) := by
  refine Znm (fun s => ∃ j : Nat, j ≤ b ∧ s = (((x / 2 ^ j : Nat) : Int), ((x % 2 ^ j : Nat) : Int), ((2 ^ j : Nat) : Int), (j : Int))) (fun s => b - s.2.2.2.toNat) ?_ _ ⟨0, by omega, by simp [Nat.mod_one]⟩
  rintro s ⟨j, hj, rfl⟩
  unfold J7
  have hdj : x / 2 ^ j < 18446744073709551616 := Nat.lt_of_le_of_lt (Nat.div_le_self _ _) hd
  have hpj : (2 : Nat) ^ j ≤ 1099511627776 := by have := Nat.pow_le_pow_right (n := 2) (by decide) (Nat.le_trans hj hb); simpa using this
  have h0 : 0 < (2 : Nat) ^ j := Nat.pow_pos (by decide)
  have hm := Zwl x j
  have hs2 : x / 2 ^ (j + 1) = x / 2 ^ j / 2 := by rw [Nat.pow_succ, Nat.div_div_eq_div_mul]
  have hp2 : (2 : Nat) ^ (j + 1) = 2 ^ j * 2 := Nat.pow_succ ..
  have hlt : x % 2 ^ j < 2 ^ j := Nat.mod_lt _ h0
  by_cases h : j < b
  ·left
   refine ⟨(((x / 2 ^ (j + 1) : Nat) : Int), ((x % 2 ^ (j + 1) : Nat) : Int), ((2 ^ (j + 1) : Nat) : Int), ((j + 1 : Nat) : Int)), ?_, ⟨j + 1, by omega, rfl⟩, by simp only; omega⟩
   have : decide ((j : Int) < b) = true := by simp; omega
   simp only [this, cond_true]
   rw [hs2, hm, hp2]
   clear hs2 hm hp2
   generalize x / 2 ^ j = y at *
   generalize x % 2 ^ j = r at *
   generalize 2 ^ j = p at *
   rw [Int.tmod_eq_emod_of_nonneg (by omega), Int.tdiv_eq_ediv_of_nonneg (by omega)]
   by_cases hb1 : y % 2 = 1
   ·have e : (((y : Int) % 2) == 1) = true := by simp; omega
    rw [e, cond_true, hb1, Zrc (by omega)]
    simp only [Option.bind_some]
    rw [Zx2 (by omega), Zrc (by omega), Zrc (by omega)]
    simp only [Option.some.injEq, Sum.inl.injEq, Prod.mk.injEq]
    omega
   have e : (((y : Int) % 2) == 1) = false := by simp; omega
   have hb0 : y % 2 = 0 := by omega
   rw [e, cond_false, hb0]
   simp only [Option.bind_some]
   rw [Zx2 (by omega), Zrc (by omega), Zrc (by omega)]
   simp only [Option.some.injEq, Sum.inl.injEq, Prod.mk.injEq]
   omega
  right
  have : decide ((j : Int) < b) = false := by simp; omega
  obtain rfl : j = b := by omega
  simp only [this, cond_false]
 rw [l1]
 simp only [Option.bind_some]
theorem Zvg (w : Nat) (hw : w < 18446744073709551616) : Ym w = some (Zs9 w) := by
 unfold Ym
 have f0 : Z0 w 2 30 = _ := Gi w 2 30 hw (by decide) (by decide)
 have f00 : Z0 w 0 2 = _ := Gi w 0 2 hw (by decide) (by decide)
 have f1 : Z0 w 32 16 = _ := Gi w 32 16 hw (by decide) (by decide)
 have f2 : Z0 w 48 16 = _ := Gi w 48 16 hw (by decide) (by decide)
 have f3 : Z0 w 32 3 = _ := Gi w 32 3 hw (by decide) (by decide)
 have f4 : Z0 w 35 29 = _ := Gi w 35 29 hw (by decide) (by decide)
 have f5 : Z0 w 3 29 = _ := Gi w 3 29 hw (by decide) (by decide)
 have f6 : Z0 w 32 32 = _ := Gi w 32 32 hw (by decide) (by decide)
 have f7 : Z0 w 2 1 = _ := Gi w 2 1 hw (by decide) (by decide)
 have c0 : ((w : Int) == 0) = _ := Zpt w 0
 have c1 : (((w % 4 : Nat) : Int) == 0) = _ := Zpt (w % 4) 0
 have c2 : (((w % 4 : Nat) : Int) == 1) = _ := Zpt (w % 4) 1
 have c3 : (((w % 4 : Nat) : Int) == 2) = _ := Zpt (w % 4) 2
 have c4 : (((w / 4 % 2 : Nat) : Int) == 1) = _ := Zpt (w / 4 % 2) 1
 simp only [Nat.reducePow, Nat.div_one] at f0 f00 f1 f2 f3 f4 f5 f6 f7
 have ho : (cond (decide (536870912 ≤ ((w / 4 % 1073741824 : Nat) : Int))) (some (IntKind.i64.wrap (((w / 4 % 1073741824 : Nat) : Int) - 1073741824))) (some ((w / 4 % 1073741824 : Nat) : Int))) = some (Zou w) := by
  unfold Zou
  rw [Zrc (by omega)]
  by_cases h : w / 4 % 1073741824 < 536870912
  ·have : decide (536870912 ≤ ((w / 4 % 1073741824 : Nat) : Int)) = false := by simp; omega
   rw [this, if_pos h, cond_false]
  have : decide (536870912 ≤ ((w / 4 % 1073741824 : Nat) : Int)) = true := by simp; omega
  rw [this, if_neg h, cond_true]
 rw [f0]
 simp only [Option.bind_some, ho]
 rw [f00, f1, f2, f3, f4, f5, f6, f7]
 simp only [Option.bind_some]
 rw [c0, c1, c2, c3, c4]
 unfold Zs9
 by_cases h0 : w = 0
 ·simp [h0]
 by_cases h1 : w % 4 = 0
 ·simp [h0, h1]
 by_cases h2 : w % 4 = 1
 ·simp [h0, h2]
 by_cases h3 : w % 4 = 2
 ·simp [h0, h3]
 simp [h0, h1, h2, h3]
theorem Zyu (x : Nat) (h : x < 18446744073709551616) : IntKind.u64.wrap (x : Int) = (x : Int) := IntWalk.u64_in _ (by omega)
theorem Yq {x : Int} (h1 : -9223372036854775808 ≤ x) (h2 : x ≤ 9223372036854775807) : IntKind.i64.wrap x = x := Zrc ⟨h1, h2⟩
theorem Zyq {i n : Nat} (h : i < n) : decide ((i : Int) < (n : Int)) = true := by rw [decide_eq_true_eq]; omega
theorem Zyp {n : Nat} : decide ((n : Int) < (n : Int)) = false := by rw [decide_eq_false_iff_not]; omega
structure WS (l : List (List Int)) : Prop where
 n : l.length * 24 ≤ 140737488355328
 s : ∀ x ∈ l, x.length * 8 ≤ 140737488355328
 w : ∀ x ∈ l, ∀ w ∈ x, 0 ≤ w ∧ w < 18446744073709551616
theorem Zpn {l : List Int} (h : l.length * 8 ≤ 140737488355328) : Yo l = some l := by
 unfold Yo
 rw [Zl8 (by simp only [List.length_nil]; omega) (by simp only [List.length_nil]; omega), List.nil_append]
theorem Zwz {α : Type} (l : List α) (n : Nat) (v : α) : Zno l (n : Int) v = l.set n v := by unfold Zno; rw [Int.toNat_natCast]
theorem Zlq {l : List (List Int)} (h : WS l) : ∀ (r : List (List Int)) (i : Nat), l.drop i = r → i ≤ l.length →
  Yj (Jp l) ((i : Int), l.take i ++ List.replicate r.length []) = some l
 | [], i, hd, hi => by
  have hl : i = l.length := by
   have := congrArg List.length hd
   rw [List.length_drop, List.length_nil] at this; omega
  subst hl
  refine Y4 ?_
  unfold Jp
  simp only
  rw [Zyp, cond_false]
  simp
 | x :: r, i, hd, hi => by
  have hi' : i < l.length := by
   rcases Nat.lt_or_ge i l.length with q | q
   ·exact q
   rw [List.drop_eq_nil_of_le q] at hd; cases hd
  have hx : l[i]? = some x := by
   have := congrArg (·[0]?) hd
   simpa using this
  have hm := List.mem_of_getElem? hx
  have hd' : l.drop (i + 1) = r := by
   have := congrArg (List.drop 1) hd
   rw [List.drop_drop] at this
   simpa [Nat.add_comm] using this
  have hn := h.n
  have hlen : (l.take i).length = i := by rw [List.length_take]; omega
  have hg : Jm (l.take i ++ List.replicate (r.length + 1) []) (i : Int) = some ([] : List Int) := Zhm (by rw [List.getElem?_append_right (by omega), hlen, Nat.sub_self]; rfl)
  have hstep : Jp l ((i : Int), l.take i ++ List.replicate (r.length + 1) []) = some (.inl (((i + 1 : Nat) : Int), l.take (i + 1) ++ List.replicate r.length [])) := by
   unfold Jp
   simp only
   rw [Zyq hi', cond_true, Zhm hx, Option.bind_some, Zpn (h.s x hm), Option.bind_some, hg, Option.bind_some, Yq (by omega) (by omega), Zwz, List.set_append_right _ _ (by omega), hlen, Nat.sub_self, List.replicate_succ, List.set_cons_zero, List.take_add_one, hx, List.append_assoc]
   rfl
  rw [List.length_cons, Qx hstep]
  exact Zlq h r (i + 1) hd' (by omega)
theorem Zur {l : List (List Int)} (h : WS l) : Uj l = some l := by
 have hn := h.n
 have := Zlq h l 0 rfl (Nat.zero_le _)
 rw [List.take_zero, List.nil_append, show (((0 : Nat) : Int)) = 0 from rfl] at this
 unfold Uj
 rw [Zwk (by omega) (by omega) (by omega), Option.bind_some, Int.toNat_natCast, this]
 rfl
theorem Zvt {l : List (List Int)} (h : WS l) : Gx l = some (some ⟨l, 0, 0⟩) := by
 unfold Gx
 rw [Zur h, Option.bind_some]
def seg (l : List (List Int)) (s : Int) : List Int := (l[s.toNat]?).getD []
def inB (l : List (List Int)) (s a n : Int) : Bool := decide (0 ≤ s) && (decide (s < l.length) && (decide (0 ≤ a) && (decide (0 ≤ n) && decide (a + n ≤ (seg l s).length))))
theorem inB_iff {l : List (List Int)} {s a n : Int} : inB l s a n = true ↔ 0 ≤ s ∧ s < l.length ∧ 0 ≤ a ∧ 0 ≤ n ∧ a + n ≤ (seg l s).length := by
 unfold inB
 simp only [Bool.and_eq_true, decide_eq_true_eq]
theorem Gm {l : List (List Int)} {s : Int} (h0 : 0 ≤ s) (h1 : s < l.length) : Jm l s = some (seg l s) ∧ seg l s ∈ l := by
 have hs : s.toNat < l.length := by omega
 unfold seg Jm
 rw [if_pos h0, List.getElem?_eq_getElem hs]
 exact ⟨rfl, List.getElem_mem hs⟩
def wd (l : List (List Int)) (s a : Int) : Int := ((seg l s)[a.toNat]?).getD 0
theorem Zlo {l : List (List Int)} {s a : Int} (h : inB l s a 1 = true) : Jm (seg l s) a = some (wd l s a) ∧ wd l s a ∈ seg l s := by
 rw [inB_iff] at h
 have ha : a.toNat < (seg l s).length := by omega
 unfold wd Jm
 rw [if_pos h.2.2.1, List.getElem?_eq_getElem ha]
 exact ⟨rfl, List.getElem_mem ha⟩
theorem Zhh {l : List (List Int)} (hw : WS l) (s a : Int) : 0 ≤ wd l s a ∧ wd l s a < 18446744073709551616 := by
 unfold wd
 cases h : (seg l s)[a.toNat]? with
 | none => simp
 | some w =>
  have hm := List.mem_of_getElem? h
  unfold seg at hm
  cases hs : l[s.toNat]? with
  | none => rw [hs] at hm; cases hm
  | some x => rw [hs] at hm; exact hw.w x (List.mem_of_getElem? hs) w hm
theorem Ze3 {l : List (List Int)} (hw : WS l) (s : Int) : (seg l s).length * 8 ≤ 140737488355328 := by
 unfold seg
 cases hs : l[s.toNat]? with
 | none => simp
 | some x => exact hw.s x (List.mem_of_getElem? hs)
section
variable {A : Zj}
theorem Zxh : Vt (some A) = some (A.segments.length : Int) := rfl
theorem Zo3 (s : Int) : Qb (some A) s = some (decide (0 ≤ s) && decide (s < A.segments.length)) := by
 unfold Qb
 rw [Zxh, Option.bind_some]
 cases decide (0 ≤ s) <;> rfl
theorem Zvv (s : Int) : Qo (some A) s = some (if 0 ≤ s ∧ s < A.segments.length then ((seg A.segments s).length : Int) else 0) := by
 unfold Qo
 rw [Zo3, Option.bind_some]
 by_cases h : 0 ≤ s ∧ s < A.segments.length
 ·rw [decide_eq_true h.1, decide_eq_true h.2, if_pos h, Option.bind_some, (Gm h.1 h.2).1]
  rfl
 rw [if_neg h, show (decide (0 ≤ s) && decide (s < A.segments.length)) = false from by rw [Bool.and_eq_false_iff, decide_eq_false_iff_not, decide_eq_false_iff_not]; omega]
 rfl
theorem Zpr (hw : WS A.segments) (s a n : Int) : X5 (some A) s a n = some (inB A.segments s a n) := by
 have hl := Ze3 hw s
 unfold X5 inB
 rw [Zo3, Zvv, Option.bind_some]
 by_cases h : 0 ≤ s ∧ s < A.segments.length
 ·rw [if_pos h, decide_eq_true h.1, decide_eq_true h.2]
  by_cases h2 : 0 ≤ a
  ·by_cases h3 : 0 ≤ n
   ·by_cases h4 : n ≤ ((seg A.segments s).length : Int)
    ·simp only [decide_eq_true h2, decide_eq_true h3, Bool.and_true, Bool.true_and, cond_true, Option.bind_some, decide_eq_true h4]
     rw [Yq (by omega) (by omega)]
     congr 1
     rw [Bool.eq_iff_iff, decide_eq_true_eq, decide_eq_true_eq]
     omega
    simp only [decide_eq_true h2, decide_eq_true h3, Bool.and_true, Bool.true_and, cond_true, cond_false, Option.bind_some, decide_eq_false h4]
    rw [show decide (a + n ≤ ((seg A.segments s).length : Int)) = false from by rw [decide_eq_false_iff_not]; omega]
   rw [decide_eq_true h2, decide_eq_false h3]; rfl
  rw [decide_eq_false h2]; rfl
 rw [show (decide (0 ≤ s) && decide (s < A.segments.length)) = false from by rw [Bool.and_eq_false_iff, decide_eq_false_iff_not, decide_eq_false_iff_not]; omega]
 rw [← Bool.and_assoc, show (decide (0 ≤ s) && decide (s < A.segments.length)) = false from by rw [Bool.and_eq_false_iff, decide_eq_false_iff_not, decide_eq_false_iff_not]; omega]
 rfl
theorem Zpq (hw : WS A.segments) (s a : Int) : X4 (some A) s a = some (if inB A.segments s a 1 = true then (wd A.segments s a, true) else (0, false)) := by
 unfold X4
 rw [Zpr hw, Option.bind_some]
 cases h : inB A.segments s a 1 with
 | false => rfl
 | true =>
  have h' := inB_iff.1 h
  rw [Bool.not_true, cond_false, Option.bind_some, (Gm h'.1 h'.2.1).1, Option.bind_some, (Zlo h).1]
  rfl
theorem Zvu (hw : WS A.segments) (s a n : Int) : Jy (some A) s a n = some (if inB A.segments s a n = true then (((seg A.segments s).drop a.toNat).take n.toNat, true) else ([], false)) := by
 have hl := Ze3 hw s
 unfold Jy
 rw [Zpr hw, Option.bind_some]
 cases h : inB A.segments s a n with
 | false => rfl
 | true =>
  have h' := inB_iff.1 h
  rw [Bool.not_true, cond_false, Option.bind_some, (Gm h'.1 h'.2.1).1, Option.bind_some, Yq (by omega) (by omega), Zql (by omega) (by omega) (by omega), Option.bind_some, show a + n - a = n by omega, Zpn (by rw [List.length_take, List.length_drop]; omega)]
  rfl
end
def dc (w : Int) : Z7 := Zs9 w.toNat
theorem Zqx {w : Int} (h : 0 ≤ w ∧ w < 18446744073709551616) : Qv w = some (dc w) := by
 have := Zv3 w.toNat (by omega)
 rwa [show ((w.toNat : Nat) : Int) = w by omega] at this
theorem Zni {w : Int} (h : 0 ≤ w ∧ w < 18446744073709551616) : Ym w = some (dc w) := by
 have := Zvg w.toNat (by omega)
 rwa [show ((w.toNat : Nat) : Int) = w by omega] at this
structure PB (p : Z7) : Prop where
 k : p.Kind = 0 ∨ p.Kind = 1 ∨ p.Kind = 2 ∨ p.Kind = 3 ∨ p.Kind = 4
 o : -536870912 ≤ p.Off ∧ p.Off < 536870912
 d : 0 ≤ p.Data ∧ p.Data < 65536
 q : 0 ≤ p.Ptrs ∧ p.Ptrs < 65536
 c : 0 ≤ p.Code ∧ p.Code < 8
 n : 0 ≤ p.Count ∧ p.Count < 536870912
 s : 0 ≤ p.Segment ∧ p.Segment < 4294967296
 f : p.Kind = 3 → 0 ≤ p.Off
 z : p.Kind = 0 ∨ p.Kind = 4 → p.Off = 0
theorem Zxw (w : Nat) : -536870912 ≤ Zou w ∧ Zou w < 536870912 := by
 unfold Zou
 split <;> omega
theorem Zfv (w : Int) : PB (dc w) := by
 have ho := Zxw w.toNat
 unfold dc Zs9
 split
 ·exact ⟨.inl rfl, by simp, by simp, by simp, by simp, by simp, by simp, by simp, by simp⟩
 split
 ·exact ⟨.inr (.inl rfl), ho, by simp only; omega, by simp only; omega, by simp, by simp, by simp, by simp, by simp⟩
 split
 ·exact ⟨.inr (.inr (.inl rfl)), ho, by simp, by simp, by simp only; omega, by simp only; omega, by simp, by simp, by simp⟩
 split
 ·exact ⟨.inr (.inr (.inr (.inl rfl))), by simp only; omega, by simp, by simp, by simp, by simp, by simp only; omega, fun _ => by simp only; omega, by simp⟩
 exact ⟨.inr (.inr (.inr (.inr rfl))), by simp, by simp, by simp, by simp, by simp, by simp, by simp, by simp⟩
def wdt (c : Int) : Int := if c = 0 then 0 else if c = 1 then 1 else if c = 2 then 8 else if c = 3 then 16 else if c = 4 then 32 else 64
def pw (p : Z7) : Int := if p.Kind = 1 then p.Data + p.Ptrs else if p.Code = 7 then p.Count + 1 else (p.Count * wdt p.Code + 63) / 64
theorem c7 {c : Int} (h : 0 ≤ c ∧ c < 8) (h7 : ¬ c = 7) : c = 0 ∨ c = 1 ∨ c = 2 ∨ c = 3 ∨ c = 4 ∨ c = 5 ∨ c = 6 := by omega
theorem Zxb {c : Int} (h : 0 ≤ c ∧ c < 8) (h7 : ¬ c = 7) : Zaw c = some (wdt c) := by
 unfold Zaw
 rcases c7 h h7 with rfl | rfl | rfl | rfl | rfl | rfl | rfl <;> rfl
theorem Zy8 {p : Z7} (h : PB p) : 0 ≤ pw p ∧ pw p ≤ 1073741824 := by
 have := h.d; have := h.q; have hn := h.n
 unfold pw
 split
 ·omega
 split
 ·omega
 rename_i h7
 rcases c7 h.c h7 with q | q | q | q | q | q | q <;> rw [q] <;> unfold wdt <;> simp <;> omega
theorem Zxd {p : Z7} (h : PB p) : Vp p = some (if p.Kind = 1 ∨ p.Kind = 2 then (pw p, true) else (0, false)) := by
 have hd := h.d; have hp := h.q; have hn := h.n
 unfold Vp pw
 by_cases k1 : p.Kind = 1
 ·rw [show (p.Kind == 1) = true from by rw [k1]; rfl, cond_true, if_pos (.inl k1), if_pos k1, Yq (by omega) (by omega)]
 rw [show (p.Kind == 1) = false from Jn k1, cond_false]
 by_cases k2 : p.Kind = 2
 ·rw [show (p.Kind == 2) = true from by rw [k2]; rfl, cond_true, if_pos (.inr k2), if_neg k1]
  by_cases c7' : p.Code = 7
  ·rw [show (p.Code == 7) = true from by rw [c7']; rfl, cond_true, if_pos c7', Yq (by omega) (by omega)]
  rw [show (p.Code == 7) = false from Jn c7', cond_false, if_neg c7', decide_eq_true h.c.1, show decide (p.Code < 7) = true from by rw [decide_eq_true_eq]; have := h.c; omega, decide_eq_true hn.1, show decide (p.Count ≤ 536870911) = true from by rw [decide_eq_true_eq]; omega]
  simp only [cond_true]
  rw [Zxb h.c c7', Option.bind_some]
  have hw : 0 ≤ wdt p.Code ∧ wdt p.Code ≤ 64 := by unfold wdt; repeat' split; all_goals omega
  have h1 : 0 ≤ p.Count * wdt p.Code := Int.mul_nonneg hn.1 hw.1
  have h2 : p.Count * wdt p.Code ≤ 536870912 * 64 := Int.mul_le_mul (by omega) hw.2 hw.1 (by omega)
  rw [Yq (x := p.Count * wdt p.Code) (by omega) (by omega), Yq (x := p.Count * wdt p.Code + 63) (by omega) (by omega), Int.tdiv_eq_ediv_of_nonneg (by omega), Yq (by omega) (by omega)]
 rw [show (p.Kind == 2) = false from Jn k2, if_neg (by omega)]
 rfl
theorem Zvl {p : Z7} (h : PB p) (hk : p.Kind = 1 ∨ p.Kind = 2) : J0 p = some (pw p) := by
 have hd := h.d; have hp := h.q; have hn := h.n; have hc := h.c
 unfold J0 pw
 by_cases k1 : p.Kind = 1
 ·rw [show (p.Kind == 1) = true from by rw [k1]; rfl, cond_true, if_pos k1, Yq (by omega) (by omega)]
 have k2 : p.Kind = 2 := by omega
 rw [show (p.Kind == 1) = false from Jn k1, cond_false, show (p.Kind != 2) = false from by rw [k2]; rfl, cond_false, if_neg k1]
 by_cases c7' : p.Code = 7
 ·rw [show (p.Code == 7) = true from by rw [c7']; rfl, cond_true, if_pos c7', Yq (by omega) (by omega)]
 rw [show (p.Code == 7) = false from Jn c7', cond_false, if_neg c7', show decide (p.Code < 0) = false from by rw [decide_eq_false_iff_not]; omega, show decide (6 < p.Code) = false from by rw [decide_eq_false_iff_not]; omega, show decide (p.Count < 0) = false from by rw [decide_eq_false_iff_not]; omega, show decide (536870912 ≤ p.Count) = false from by rw [decide_eq_false_iff_not]; omega]
 simp only [cond_false]
 have hgen : ∀ (k : Int), 0 < k → (Ga (k ≠ 0)).bind (fun _ => cond (decide (0 < Int.tmod p.Count k)) ((Ga (k ≠ 0)).bind fun _ => some (IntKind.i64.wrap (IntKind.i64.wrap (Int.tdiv p.Count k) + 1))) ((Ga (k ≠ 0)).bind fun _ => some (IntKind.i64.wrap (Int.tdiv p.Count k)))) = some (if 0 < p.Count % k then p.Count / k + 1 else p.Count / k) := fun k hk => by
  have hne : k ≠ 0 := by omega
  have h0 : 0 ≤ p.Count / k := Int.ediv_nonneg hn.1 (by omega)
  have h1 : p.Count / k ≤ p.Count := Int.ediv_le_self _ hn.1
  rw [Zu8 hne, Option.bind_some, Option.bind_some, Option.bind_some, Int.tmod_eq_emod_of_nonneg hn.1, Int.tdiv_eq_ediv_of_nonneg hn.1, Yq (x := p.Count / k) (by omega) (by omega), Yq (x := p.Count / k + 1) (by omega) (by omega)]
  by_cases q : 0 < p.Count % k
  ·rw [if_pos q, decide_eq_true q, cond_true]
  rw [if_neg q, decide_eq_false q, cond_false]
 have hgo : ∀ (k : Int), 0 < k → (if 0 < p.Count % k then p.Count / k + 1 else p.Count / k) = (p.Count + (k - 1)) / k := fun k hk => by
  have e := Int.emod_add_mul_ediv p.Count k
  have e1 := Int.emod_nonneg p.Count (show k ≠ 0 by omega)
  have e2 := Int.emod_lt_of_pos p.Count hk
  split
  ·symm
   have : p.Count + (k - 1) = (p.Count % k - 1) + k * (p.Count / k + 1) := by rw [Int.mul_add]; omega
   rw [this, Int.add_mul_ediv_left _ _ (by omega), Int.ediv_eq_zero_of_lt (by omega) (by omega)]
   omega
  symm
  have : p.Count + (k - 1) = (k - 1) + k * (p.Count / k) := by omega
  rw [this, Int.add_mul_ediv_left _ _ (by omega), Int.ediv_eq_zero_of_lt (by omega) (by omega)]
  omega
 rcases c7 h.c c7' with q | q | q | q | q | q | q
 ·rw [show (p.Code == 0) = true from by rw [q]; rfl, cond_true, Option.bind_some, q]
  simp only [wdt, if_true, Int.mul_zero]
  rfl
 ·rw [show (p.Code == 0) = false from by rw [q]; rfl, show (p.Code == 1) = true from by rw [q]; rfl, cond_false, cond_true, Option.bind_some]
  simp only
  rw [hgen 64 (by omega), hgo 64 (by omega), q]
  simp [wdt]
 ·rw [show (p.Code == 0) = false from by rw [q]; rfl, show (p.Code == 1) = false from by rw [q]; rfl, show (p.Code == 2) = true from by rw [q]; rfl, cond_false, cond_false, cond_true, Option.bind_some]
  simp only
  rw [hgen 8 (by omega), hgo 8 (by omega), q]
  simp [wdt]
  omega
 ·rw [show (p.Code == 0) = false from by rw [q]; rfl, show (p.Code == 1) = false from by rw [q]; rfl, show (p.Code == 2) = false from by rw [q]; rfl, show (p.Code == 3) = true from by rw [q]; rfl, cond_false, cond_false, cond_false, cond_true, Option.bind_some]
  simp only
  rw [hgen 4 (by omega), hgo 4 (by omega), q]
  simp [wdt]
  omega
 ·rw [show (p.Code == 0) = false from by rw [q]; rfl, show (p.Code == 1) = false from by rw [q]; rfl, show (p.Code == 2) = false from by rw [q]; rfl, show (p.Code == 3) = false from by rw [q]; rfl, show (p.Code == 4) = true from by rw [q]; rfl, cond_false, cond_false, cond_false, cond_false, cond_true, Option.bind_some]
  simp only
  rw [hgen 2 (by omega), hgo 2 (by omega), q]
  simp [wdt]
  omega
 ·rw [show (p.Code == 0) = false from by rw [q]; rfl, show (p.Code == 1) = false from by rw [q]; rfl, show (p.Code == 2) = false from by rw [q]; rfl, show (p.Code == 3) = false from by rw [q]; rfl, show (p.Code == 4) = false from by rw [q]; rfl, cond_false, cond_false, cond_false, cond_false, cond_false, Option.bind_some]
  simp only
  rw [hgen 1 (by omega), hgo 1 (by omega), q]
  simp [wdt]
  omega
 rw [show (p.Code == 0) = false from by rw [q]; rfl, show (p.Code == 1) = false from by rw [q]; rfl, show (p.Code == 2) = false from by rw [q]; rfl, show (p.Code == 3) = false from by rw [q]; rfl, show (p.Code == 4) = false from by rw [q]; rfl, cond_false, cond_false, cond_false, cond_false, cond_false, Option.bind_some]
 simp only
 rw [hgen 1 (by omega), hgo 1 (by omega), q]
 simp [wdt]
 omega
def l0 : Ys := ⟨⟨0, 0, 0, 0, 0, 0, 0, false⟩, 0, 0⟩
def Zri (p : Z7) : Z7 := ⟨p.Kind, 0, p.Data, p.Ptrs, p.Code, p.Count, p.Segment, p.Double⟩
def tgt (l : List (List Int)) (p : Z7) (s a : Int) : Ys × Int :=
 if p.Kind = 4 then (l0, 9) else if p.Kind = 1 ∨ p.Kind = 2 then (if inB l s a (pw p) = true then (⟨Zri p, s, a⟩, 0) else (l0, 7)) else (l0, 8)
def fol (l : List (List Int)) (s a : Int) : Ys × Int :=
 if inB l s a 1 = true then
  let p := dc (wd l s a)
  if p.Kind = 0 then (l0, 0)
  else if p.Kind = 3 ∧ p.Double = true then
   if inB l p.Segment p.Off 2 = true then
    let b := dc (wd l p.Segment p.Off)
    let q := dc (wd l p.Segment (p.Off + 1))
    if b.Kind = 3 ∧ b.Double = false then (if q.Kind ≠ 4 ∧ q.Off ≠ 0 then (l0, 8) else tgt l q b.Segment b.Off) else (l0, 8)
   else (l0, 7)
  else if p.Kind = 3 then
   if inB l p.Segment p.Off 1 = true then
    let q := dc (wd l p.Segment p.Off)
    tgt l q p.Segment (p.Off + 1 + q.Off)
   else (l0, 7)
  else tgt l p s (a + 1 + p.Off)
 else (l0, 7)
section
variable {A : Zj}
theorem Zht (hw : WS A.segments) {p : Z7} (h : PB p) (s a : Int) : Vk (some A) p s a = some (tgt A.segments p s a) := by
 unfold Vk tgt
 by_cases k4 : p.Kind = 4
 ·rw [show (p.Kind == 4) = true from by rw [k4]; rfl, if_pos k4]; rfl
 rw [show (p.Kind == 4) = false from Jn k4, cond_false, if_neg k4, Zxd h, Option.bind_some]
 by_cases k : p.Kind = 1 ∨ p.Kind = 2
 ·rw [if_pos k, if_pos k]
  simp only [Bool.not_true, cond_false]
  rw [Zpr hw, Option.bind_some]
  cases inB A.segments s a (pw p) <;> rfl
 rw [if_neg k, if_neg k]
 rfl
theorem Zy9 {l : List (List Int)} {s a : Int} (h : inB l s a 2 = true) : ((seg l s).drop a.toNat).take (2 : Int).toNat = [wd l s a, wd l s (a + 1)] := by
 have h' := inB_iff.1 h
 have h1 : a.toNat < (seg l s).length := by omega
 have h2 : a.toNat + 1 < (seg l s).length := by omega
 unfold wd
 rw [show (a + 1).toNat = a.toNat + 1 by omega, List.getElem?_eq_getElem h1, List.getElem?_eq_getElem h2, show ((2 : Int).toNat) = 2 from rfl, List.drop_eq_getElem_cons h1, List.drop_eq_getElem_cons h2]
 rfl
theorem Zux (hw : WS A.segments) (s a : Int) : Ge (some A) s a = some (if inB A.segments s a 2 = true then (if (dc (wd A.segments s a)).Kind = 3 ∧ (dc (wd A.segments s a)).Double = false then (if (dc (wd A.segments s (a + 1))).Kind ≠ 4 ∧ (dc (wd A.segments s (a + 1))).Off ≠ 0 then (l0, 8) else tgt A.segments (dc (wd A.segments s (a + 1))) (dc (wd A.segments s a)).Segment (dc (wd A.segments s a)).Off) else (l0, 8)) else (l0, 7)) := by
 unfold Ge
 rw [Zvu hw, Option.bind_some]
 cases h : inB A.segments s a 2 with
 | false => rfl
 | true =>
  simp only [if_true, Bool.not_true, cond_false]
  rw [Zy9 h]
  have g0 : Jm [wd A.segments s a, wd A.segments s (a + 1)] 0 = some (wd A.segments s a) := rfl
  have g1 : Jm [wd A.segments s a, wd A.segments s (a + 1)] 1 = some (wd A.segments s (a + 1)) := rfl
  rw [g0, Option.bind_some, Zqx (Zhh hw _ _), Option.bind_some, g1, Option.bind_some, Zqx (Zhh hw _ _), Option.bind_some]
  generalize dc (wd A.segments s a) = b
  have hq := Zfv (wd A.segments s (a + 1))
  revert hq
  generalize dc (wd A.segments s (a + 1)) = q
  intro hq
  by_cases b3 : b.Kind = 3
  ·rw [show (b.Kind != 3) = false from by rw [b3]; rfl, cond_false]
   cases bd : b.Double with
   | true => rw [cond_true, if_neg (by simp)]; rfl
   | false =>
    rw [cond_false, if_pos ⟨b3, rfl⟩]
    by_cases hq4 : q.Kind = 4
    ·rw [show (q.Kind != 4) = false from by rw [hq4]; rfl, cond_false, cond_false, if_neg (by simp [hq4]), Zht hw hq]
     rfl
    rw [show (q.Kind != 4) = true from bne_iff_ne.2 hq4, cond_true]
    by_cases ho : q.Off = 0
    ·rw [show (q.Off != 0) = false from by rw [ho]; rfl, cond_false, if_neg (by simp [ho]), Zht hw hq]
     rfl
    rw [show (q.Off != 0) = true from bne_iff_ne.2 ho, cond_true, if_pos ⟨hq4, ho⟩]
    rfl
  rw [show (b.Kind != 3) = true from bne_iff_ne.2 b3, cond_true, cond_true, if_neg (by simp [b3])]
  rfl
theorem Zt4 {l : List (List Int)} (hw : WS l) {s a n : Int} (h : inB l s a n = true) : 0 ≤ a ∧ a ≤ 17592186044416 := by
 have h' := inB_iff.1 h
 have := Ze3 hw s
 omega
theorem Zvm (hw : WS A.segments) (s a : Int) : Gf (some A) s a = some (if inB A.segments s a 1 = true then tgt A.segments (dc (wd A.segments s a)) s (a + 1 + (dc (wd A.segments s a)).Off) else (l0, 7)) := by
 unfold Gf
 rw [Zpq hw, Option.bind_some]
 cases h : inB A.segments s a 1 with
 | false => rfl
 | true =>
  have ha := Zt4 hw h
  have hq := Zfv (wd A.segments s a)
  have ho := hq.o
  simp only [if_true, Bool.not_true, cond_false]
  rw [Zqx (Zhh hw _ _), Option.bind_some, Yq (x := a + 1) (by omega) (by omega), Yq (by omega) (by omega), Zht hw hq]
  rfl
theorem Zuz (hw : WS A.segments) (s a : Int) : Gd (some A) s a = some (fol A.segments s a) := by
 unfold Gd fol
 rw [Zpq hw, Option.bind_some]
 cases h : inB A.segments s a 1 with
 | false => rfl
 | true =>
  have ha := Zt4 hw h
  have hq := Zfv (wd A.segments s a)
  have ho := hq.o
  simp only [if_true, Bool.not_true, cond_false]
  rw [Zqx (Zhh hw _ _), Option.bind_some]
  revert hq ho
  generalize dc (wd A.segments s a) = p
  intro hq ho
  by_cases k0 : p.Kind = 0
  ·rw [show (p.Kind == 0) = true from by rw [k0]; rfl, cond_true, if_pos k0]; rfl
  rw [show (p.Kind == 0) = false from Jn k0, cond_false, if_neg k0]
  by_cases k3 : p.Kind = 3
  ·rw [show (p.Kind == 3) = true from by rw [k3]; rfl, cond_true, cond_true]
   cases hd : p.Double with
   | true => rw [cond_true, if_pos ⟨k3, rfl⟩, Zux hw]; rfl
   | false => rw [cond_false, if_neg (by simp), if_pos k3, Zvm hw]; rfl
  rw [show (p.Kind == 3) = false from Jn k3, cond_false, cond_false, cond_false, if_neg (by simp [k3]), if_neg k3, Yq (x := a + 1) (by omega) (by omega), Yq (by omega) (by omega), Zht hw hq]
  rfl
end
def toR (x : Ys) : Z5 := ⟨x.P, x.Segment, x.At⟩
def Zx1 (x : Ys × Int) : Z5 × Int := (toR x.1, x.2)
theorem Zme {l : List (List Int)} (hw : WS l) (s a : Int) : Xx l s a = some (inB l s a 1) := by
 have hl := Ze3 hw s
 unfold Xx inB
 by_cases h1 : 0 ≤ s
 ·by_cases h2 : s < (l.length : Int)
  ·by_cases h3 : 0 ≤ a
   ·rw [(Gm h1 h2).1]
    simp only [decide_eq_true h1, decide_eq_true h2, decide_eq_true h3, cond_true, Option.bind_some, Bool.true_and, show decide ((0 : Int) ≤ 1) = true from rfl]
    refine congrArg some ?_
    rw [Bool.eq_iff_iff, decide_eq_true_eq, decide_eq_true_eq]
    omega
   rw [decide_eq_true h1, decide_eq_true h2, decide_eq_false h3]; rfl
  rw [decide_eq_true h1, decide_eq_false h2]; rfl
 rw [decide_eq_false h1]; rfl
theorem Zvj {l : List (List Int)} (hw : WS l) {p : Z7} (h : PB p) (hk : p.Kind = 1 ∨ p.Kind = 2) (s a : Int) : Xp l ⟨p, s, a⟩ = some (Zx1 (if inB l s a (pw p) = true then (⟨Zri p, s, a⟩, 0) else (l0, 7))) := by
 have hl := Ze3 hw s
 have hp := Zy8 h
 unfold Xp
 simp only
 rw [Zvl h hk, Option.bind_some]
 have key : ∀ b : Bool, inB l s a (pw p) = !b → (cond b (some ((⟨⟨0, 0, 0, 0, 0, 0, 0, false⟩, 0, 0⟩ : Z5), (7 : Int))) (some ((⟨⟨p.Kind, 0, p.Data, p.Ptrs, p.Code, p.Count, p.Segment, p.Double⟩, s, a⟩ : Z5), 0))) = some (Zx1 (if inB l s a (pw p) = true then (⟨Zri p, s, a⟩, 0) else (l0, 7))) := fun b hb => by
  rw [hb]
  cases b <;> rfl
 have hin : ∀ b : Bool, (b = true ↔ ¬ (0 ≤ s ∧ s < l.length ∧ 0 ≤ a ∧ 0 ≤ pw p ∧ a + pw p ≤ (seg l s).length)) → inB l s a (pw p) = !b := fun b hb => by
  cases hq : inB l s a (pw p) with
  | true =>
   have := inB_iff.1 hq
   cases b with
   | false => rfl
   | true => exact absurd this (hb.1 rfl)
  | false =>
   cases b with
   | true => rfl
   | false =>
    have h2 : ¬ ¬ (0 ≤ s ∧ s < l.length ∧ 0 ≤ a ∧ 0 ≤ pw p ∧ a + pw p ≤ (seg l s).length) := fun q => by have := hb.2 q; cases this
    have h3 := inB_iff.2 (Classical.not_not.1 h2)
    rw [hq] at h3
    cases h3
 by_cases h1 : s < 0
 ·rw [decide_eq_true h1, cond_true, Option.bind_some]
  exact key true (hin true ⟨fun _ => by omega, fun _ => rfl⟩)
 rw [decide_eq_false h1, cond_false]
 by_cases h2 : (l.length : Int) ≤ s
 ·rw [decide_eq_true h2, cond_true, Option.bind_some]
  exact key true (hin true ⟨fun _ => by omega, fun _ => rfl⟩)
 rw [decide_eq_false h2, cond_false]
 by_cases h3 : a < 0
 ·rw [decide_eq_true h3, cond_true, Option.bind_some]
  exact key true (hin true ⟨fun _ => by omega, fun _ => rfl⟩)
 rw [decide_eq_false h3, cond_false, (Gm (by omega) (by omega)).1, Option.bind_some]
 by_cases h4 : ((seg l s).length : Int) < a
 ·rw [decide_eq_true h4, cond_true, Option.bind_some]
  exact key true (hin true ⟨fun _ => by omega, fun _ => rfl⟩)
 rw [decide_eq_false h4, cond_false, cond_false, cond_false, cond_false, cond_false, Option.bind_some, Yq (by omega) (by omega)]
 exact key _ (hin _ (by rw [decide_eq_true_eq]; omega))
theorem Zpk {p : Z7} : Xo p = some (if p.Kind = 4 then 9 else if p.Kind = 1 ∨ p.Kind = 2 then 0 else 8) := by
 unfold Xo
 by_cases k4 : p.Kind = 4
 ·rw [show (p.Kind == 4) = true from by rw [k4]; rfl, if_pos k4]; rfl
 rw [show (p.Kind == 4) = false from Jn k4, cond_false, if_neg k4]
 by_cases k1 : p.Kind = 1
 ·rw [show (p.Kind != 1) = false from by rw [k1]; rfl, if_pos (.inl k1)]; rfl
 rw [show (p.Kind != 1) = true from bne_iff_ne.2 k1, cond_true]
 by_cases k2 : p.Kind = 2
 ·rw [show (p.Kind != 2) = false from by rw [k2]; rfl, if_pos (.inr k2)]; rfl
 rw [show (p.Kind != 2) = true from bne_iff_ne.2 k2, if_neg (by omega)]; rfl
theorem Zqh {l : List (List Int)} (hw : WS l) {p : Z7} (h : PB p) (s a : Int) {k : Int → Option (Z5 × Int)} (hk : k = fun y => cond (y != 0) (some ((⟨⟨0, 0, 0, 0, 0, 0, 0, false⟩, 0, 0⟩ : Z5), y)) ((Xp l ⟨p, s, a⟩).bind fun y => some (y.1, y.2))) : (Xo p).bind k = some (Zx1 (tgt l p s a)) := by
 subst hk
 rw [Zpk, Option.bind_some]
 unfold tgt
 by_cases k4 : p.Kind = 4
 ·rw [if_pos k4, if_pos k4]; rfl
 rw [if_neg k4, if_neg k4]
 by_cases k : p.Kind = 1 ∨ p.Kind = 2
 ·rw [if_pos k, if_pos k, show ((0 : Int) != 0) = false from rfl, cond_false, Zvj hw h k, Option.bind_some]
 rw [if_neg k, if_neg k]; rfl
theorem Zwr (p : Z7) : (⟨p.Kind, p.Off, p.Data, p.Ptrs, p.Code, p.Count, p.Segment, p.Double⟩ : Z7) = p := by cases p; rfl
theorem Zzw {l : List (List Int)} {s a : Int} (h0 : 0 ≤ a) : inB l s a 2 = (inB l s a 1 && inB l s (a + 1) 1) := by
 rw [Bool.eq_iff_iff, Bool.and_eq_true, inB_iff, inB_iff, inB_iff]
 omega
theorem Ztt {l : List (List Int)} (hw : WS l) (s a : Int) : Qe l s a = some (Zx1 (fol l s a)) := by
 unfold Qe fol
 rw [Zme hw, Option.bind_some]
 cases h : inB l s a 1 with
 | false => rfl
 | true =>
  have h' := inB_iff.1 h
  have ha := Zt4 hw h
  have hq := Zfv (wd l s a)
  simp only [if_true, Bool.not_true, cond_false]
  rw [(Gm h'.1 h'.2.1).1, Option.bind_some, (Zlo h).1, Option.bind_some, Zni (Zhh hw _ _), Option.bind_some]
  revert hq
  generalize dc (wd l s a) = p
  intro hq
  have ho := hq.o
  by_cases k0 : p.Kind = 0
  ·rw [show (p.Kind == 0) = true from by rw [k0]; rfl, cond_true, if_pos k0]; rfl
  rw [show (p.Kind == 0) = false from Jn k0, cond_false, if_neg k0]
  by_cases k3 : p.Kind = 3
  ·have hf := hq.f k3
   rw [show (p.Kind == 3) = true from by rw [k3]; rfl, cond_true, cond_true, if_pos k3]
   cases hd : p.Double with
   | true =>
    rw [cond_true, if_pos ⟨k3, rfl⟩, Zme hw, Option.bind_some, Yq (by omega) (by omega), Zme hw]
    have h2 := Zzw (l := l) (s := p.Segment) hf
    cases b1 : inB l p.Segment p.Off 1 with
    | false =>
     rw [h2, b1]
     rfl
    | true =>
     rw [cond_true, Option.bind_some, Option.bind_some, Bool.not_true, cond_false, h2, b1, Bool.true_and]
     cases b2 : inB l p.Segment (p.Off + 1) 1 with
     | false => rfl
     | true =>
      have b1' := inB_iff.1 b1
      rw [Bool.not_true, cond_false, (Gm b1'.1 b1'.2.1).1, Option.bind_some, (Zlo b1).1, Option.bind_some, Zni (Zhh hw _ _), Option.bind_some, (Zlo b2).1, Option.bind_some, Zni (Zhh hw _ _), Option.bind_some]
      simp only [if_true]
      generalize dc (wd l p.Segment p.Off) = b
      have hq2 := Zfv (wd l p.Segment (p.Off + 1))
      revert hq2
      generalize dc (wd l p.Segment (p.Off + 1)) = q
      intro hq2
      by_cases b3 : b.Kind = 3
      ·rw [show (b.Kind != 3) = false from by rw [b3]; rfl, cond_false]
       cases bd : b.Double with
       | true => rw [cond_true, if_neg (by simp)]; rfl
       | false =>
        rw [cond_false, if_pos ⟨b3, rfl⟩]
        by_cases ho' : q.Off = 0
        ·rw [if_neg (by simp [ho'])]
         refine Zqh hw hq2 b.Segment b.Off ?_
         funext y
         rw [show (q.Off != 0) = false from by rw [ho']; rfl]
         cases (y == 0) <;> rfl
        rw [Zpk, Option.bind_some, show (q.Off != 0) = true from bne_iff_ne.2 ho']
        by_cases hq4 : q.Kind = 4
        ·exact absurd (hq2.z (.inr hq4)) ho'
        by_cases hk : q.Kind = 1 ∨ q.Kind = 2
        ·rw [if_neg hq4, if_pos hk, if_pos ⟨hq4, ho'⟩]; rfl
        rw [if_neg hq4, if_neg hk, if_pos ⟨hq4, ho'⟩]; rfl
      rw [show (b.Kind != 3) = true from bne_iff_ne.2 b3, cond_true, cond_true, if_neg (by simp [b3])]
      rfl
   | false =>
    rw [cond_false, if_neg (by simp), Zme hw, Option.bind_some]
    cases b1 : inB l p.Segment p.Off 1 with
    | false => rfl
    | true =>
     have b1' := inB_iff.1 b1
     rw [Bool.not_true, cond_false, (Gm b1'.1 b1'.2.1).1, Option.bind_some, (Zlo b1).1, Option.bind_some, Zni (Zhh hw _ _), Option.bind_some, Option.bind_some]
     have hq2 := Zfv (wd l p.Segment p.Off)
     have ho2 := hq2.o
     have ha2 := Zt4 hw b1
     simp only [Zwr]
     rw [Yq (x := p.Off + 1) (by omega) (by omega), Yq (by omega) (by omega)]
     exact Zqh hw hq2 _ _ rfl
  rw [show (p.Kind == 3) = false from Jn k3, cond_false, cond_false, cond_false, if_neg (by simp [k3]), if_neg k3, Option.bind_some]
  simp only [Zwr]
  rw [Yq (x := a + 1) (by omega) (by omega), Yq (by omega) (by omega)]
  exact Zqh hw hq _ _ rfl
theorem Zyv (l : List Int) (h : ∀ w ∈ l, 0 ≤ w ∧ w < 18446744073709551616) (hl : l.length * 8 ≤ 140737488355328) : WS [l] :=
 ⟨by simp, fun x hx => by rw [List.mem_singleton] at hx; subst hx; exact hl, fun x hx => by rw [List.mem_singleton] at hx; subst hx; exact h⟩
theorem Zuy : fol [[4294967296, 7]] 0 0 = (⟨⟨1, 0, 1, 0, 0, 0, 0, false⟩, 0, 1⟩, 0) := rfl
theorem Zyt {l : List (List Int)} {p : Z7} (h : PB p) {s a : Int} : ((tgt l p s a).2 ≠ 0 ∧ (tgt l p s a).1 = l0) ∨ ((tgt l p s a).2 = 0 ∧ (p.Kind = 1 ∨ p.Kind = 2) ∧ (tgt l p s a).1 = ⟨Zri p, s, a⟩ ∧ inB l s a (pw p) = true) := by
 unfold tgt
 by_cases k4 : p.Kind = 4
 ·rw [if_pos k4]; exact .inl ⟨by simp, rfl⟩
 rw [if_neg k4]
 by_cases k : p.Kind = 1 ∨ p.Kind = 2
 ·rw [if_pos k]
  by_cases hi : inB l s a (pw p) = true
  ·rw [if_pos hi]; exact .inr ⟨rfl, k, rfl, hi⟩
  rw [if_neg hi]; exact .inl ⟨by simp, rfl⟩
 rw [if_neg k]; exact .inl ⟨by simp, rfl⟩
theorem Zxv {p : Z7} (h : PB p) : PB (Zri p) := ⟨h.k, by simp [Zri], h.d, h.q, h.c, h.n, h.s, fun _ => by simp [Zri], fun _ => rfl⟩
theorem Zyi (l : List (List Int)) (s a : Int) : ((fol l s a).1 = l0) ∨ ((fol l s a).2 = 0 ∧ ∃ p s' a', PB p ∧ p.Off = 0 ∧ (p.Kind = 1 ∨ p.Kind = 2) ∧ (fol l s a).1 = ⟨p, s', a'⟩ ∧ inB l s' a' (pw p) = true) := by
 have key : ∀ (w s a : Int), ((tgt l (dc w) s a).1 = l0) ∨ ((tgt l (dc w) s a).2 = 0 ∧ ∃ p s' a', PB p ∧ p.Off = 0 ∧ (p.Kind = 1 ∨ p.Kind = 2) ∧ (tgt l (dc w) s a).1 = ⟨p, s', a'⟩ ∧ inB l s' a' (pw p) = true) := fun w s a => by
  rcases Zyt (l := l) (Zfv w) (s := s) (a := a) with h | ⟨h1, h2, h3, h4⟩
  ·exact .inl h.2
  exact .inr ⟨h1, Zri (dc w), s, a, Zxv (Zfv w), rfl, h2, h3, h4⟩
 unfold fol
 by_cases h : inB l s a 1 = true
 ·rw [if_pos h]
  simp only
  split
  ·exact .inl rfl
  split
  ·split
   ·split
    ·split
     ·exact .inl rfl
     exact key _ _ _
    exact .inl rfl
   exact .inl rfl
  split
  ·split
   ·exact key _ _ _
   exact .inl rfl
  exact key _ _ _
 rw [if_neg h]; exact .inl rfl
def r0 : Zd := ⟨none, 0, 0, 0, 0, 0, 0, 0, 0⟩
def Z6 (r : Zd) : Int := if r.kind = 1 then r.ptrs else r.count
def atR (A : Zj) (s a : Int) : Zd × Int :=
 let x := fol A.segments s a
 if x.2 ≠ 0 ∨ x.1.P.Kind = 0 then (r0, x.2)
 else if x.1.P.Kind = 1 then (⟨some A, 1, x.1.Segment, x.1.At, x.1.P.Data, x.1.P.Ptrs, 0, 0, 0⟩, 0)
 else if x.1.P.Code = 7 then
  let t := dc (wd A.segments x.1.Segment x.1.At)
  if (t.Kind ≠ 0 ∧ t.Kind ≠ 1) ∨ t.Off < 0 ∨ x.1.P.Count < t.Off * (t.Data + t.Ptrs) then (r0, 8)
  else (⟨some A, 9, x.1.Segment, x.1.At, t.Data, t.Ptrs, t.Off, 0, 0⟩, 0)
 else (⟨some A, x.1.P.Code + 2, x.1.Segment, x.1.At, 0, 0, x.1.P.Count, 0, 0⟩, 0)
inductive OKr (A : Zj) : Zd → Prop
 | z : OKr A r0
 | st (s a d p : Int) (hd : 0 ≤ d ∧ d < 65536) (hp : 0 ≤ p ∧ p < 65536) (hi : inB A.segments s a (d + p) = true) : OKr A ⟨some A, 1, s, a, d, p, 0, 0, 0⟩
 | li (k s a n : Int) (hk : 2 ≤ k ∧ k ≤ 8) (hn : 0 ≤ n ∧ n < 536870912) (hi : inB A.segments s a ((n * wdt (k - 2) + 63) / 64) = true) : OKr A ⟨some A, k, s, a, 0, 0, n, 0, 0⟩
 | co (s a d p n : Int) (hd : 0 ≤ d ∧ d < 65536) (hp : 0 ≤ p ∧ p < 65536) (hn : 0 ≤ n ∧ n < 536870912) (hw : 0 ≤ n * (d + p) ∧ n * (d + p) < 536870912) (hi : inB A.segments s a (n * (d + p) + 1) = true) : OKr A ⟨some A, 9, s, a, d, p, n, 0, 0⟩
 | at_ (s a c i n : Int) (hc : 0 ≤ c ∧ c ≤ 5) (h0 : 0 ≤ i) (h1 : i < n) (hn : n < 536870912) (hi : inB A.segments s a ((n * wdt c + 63) / 64) = true) : OKr A ⟨some A, 10, s, a, 0, 0, 0, c, i⟩
theorem Zya {A : Zj} {r : Zd} (h : OKr A r) : 0 ≤ r.kind ∧ r.kind ≤ 10 := by cases h <;> simp [r0] <;> omega
theorem Zin (l : List (List Int)) (s a : Int) : ((fol l s a).2 ≠ 0 ∨ (fol l s a).1.P.Kind = 0) ∨ ((fol l s a).2 = 0 ∧ PB (fol l s a).1.P ∧ ((fol l s a).1.P.Kind = 1 ∨ (fol l s a).1.P.Kind = 2) ∧ inB l (fol l s a).1.Segment (fol l s a).1.At (pw (fol l s a).1.P) = true) := by
 rcases Zyi l s a with h | ⟨h1, p, s', a', hp, ho, hk, h, hi⟩
 ·rw [h]; exact .inl (.inr rfl)
 rw [h]; exact .inr ⟨h1, hp, hk, hi⟩
section
variable {A : Zj}
theorem Ztx (w : Int) : 0 ≤ (dc w).Data ∧ (dc w).Data < 65536 ∧ 0 ≤ (dc w).Ptrs ∧ (dc w).Ptrs < 65536 ∧ (dc w).Off < 536870912 := by
 have h := Zfv w
 exact ⟨h.d.1, h.d.2, h.q.1, h.q.2, h.o.2⟩
theorem Zwm {n x : Int} (h0 : -536870912 ≤ n ∧ n < 536870912) (h1 : 0 ≤ x ∧ x ≤ 131070) : -70368744177664 ≤ n * x ∧ n * x ≤ 70368744177664 := by
 constructor
 ·have : -536870912 * 131070 ≤ n * x := by
   rcases Int.le_total 0 n with h | h
   ·have := Int.mul_nonneg h h1.1; omega
   have h2 : n * 131070 ≤ n * x := Int.mul_le_mul_of_nonpos_left h h1.2
   have h3 : -536870912 * 131070 ≤ n * 131070 := Int.mul_le_mul_of_nonneg_right h0.1 (by omega)
   omega
  omega
 rcases Int.le_total 0 n with h | h
 ·have h2 : n * x ≤ n * 131070 := Int.mul_le_mul_of_nonneg_left h1.2 h
  have h3 : n * 131070 ≤ 536870912 * 131070 := Int.mul_le_mul_of_nonneg_right (by omega) (by omega)
  omega
 have := Int.mul_nonpos_of_nonpos_of_nonneg h h1.1
 omega
theorem Zft (s a : Int) : OKr A (atR A s a).1 := by
 unfold atR
 rcases Zin A.segments s a with h | ⟨h1, hp, hk, hi⟩
 ·rw [if_pos h]; exact .z
 rw [if_neg (by omega)]
 generalize (fol A.segments s a).1 = x at *
 by_cases k1 : x.P.Kind = 1
 ·rw [if_pos k1]
  have : pw x.P = x.P.Data + x.P.Ptrs := by unfold pw; rw [if_pos k1]
  rw [this] at hi
  exact .st _ _ _ _ hp.d hp.q hi
 rw [if_neg k1]
 have k2 : x.P.Kind = 2 := by omega
 by_cases c7' : x.P.Code = 7
 ·rw [if_pos c7']
  have hpw : pw x.P = x.P.Count + 1 := by unfold pw; rw [if_neg k1, if_pos c7']
  rw [hpw] at hi
  have ht := Ztx (wd A.segments x.Segment x.At)
  simp only
  generalize dc (wd A.segments x.Segment x.At) = t at *
  split
  ·exact .z
  rename_i hc
  have hn := hp.n
  have h0 : 0 ≤ t.Off * (t.Data + t.Ptrs) := Int.mul_nonneg (by omega) (by omega)
  have hi' := inB_iff.1 hi
  exact .co _ _ _ _ _ (by omega) (by omega) (by omega) (by omega) (inB_iff.2 ⟨hi'.1, hi'.2.1, hi'.2.2.1, by omega, by omega⟩)
 rw [if_neg c7']
 have hpw : pw x.P = (x.P.Count * wdt x.P.Code + 63) / 64 := by unfold pw; rw [if_neg k1, if_neg c7']
 rw [hpw] at hi
 have hc := hp.c
 exact .li _ _ _ _ (by omega) hp.n (by rw [show x.P.Code + 2 - 2 = x.P.Code by omega]; exact hi)
theorem Zvx (hw : WS A.segments) (s a : Int) : Vx (some A) s a = some (atR A s a) := by
 unfold Vx atR
 rw [Zuz hw, Option.bind_some]
 simp only
 rcases Zin A.segments s a with h | ⟨h1, hp, hk, hi⟩
 ·rw [if_pos h]
  have : cond ((fol A.segments s a).2 != 0) true ((fol A.segments s a).1.P.Kind == 0) = true := by
   rcases h with h | h
   ·rw [bne_iff_ne.2 h]; rfl
   rw [show ((fol A.segments s a).1.P.Kind == 0) = true from by rw [h]; rfl]
   cases ((fol A.segments s a).2 != 0) <;> rfl
  rw [this, cond_true]; rfl
 rw [if_neg (by omega), h1, show ((0 : Int) != 0) = false from rfl, cond_false]
 generalize (fol A.segments s a).1 = x at *
 rw [show (x.P.Kind == 0) = false from Jn (by omega), cond_false]
 by_cases k1 : x.P.Kind = 1
 ·rw [if_pos k1, show (x.P.Kind == 1) = true from by rw [k1]; rfl, cond_true]
 rw [if_neg k1, show (x.P.Kind == 1) = false from Jn k1, cond_false]
 have hc := hp.c
 by_cases c7' : x.P.Code = 7
 ·rw [if_pos c7', show (x.P.Code == 7) = true from by rw [c7']; rfl, cond_true]
  have hpw : pw x.P = x.P.Count + 1 := by unfold pw; rw [if_neg k1, if_pos c7']
  rw [hpw] at hi
  have hn := hp.n
  have hi' := inB_iff.1 hi
  have hi1 : inB A.segments x.Segment x.At 1 = true := inB_iff.2 ⟨hi'.1, hi'.2.1, hi'.2.2.1, by omega, by omega⟩
  unfold Vm
  simp only
  rw [Zpq hw, if_pos hi1, Option.bind_some, Zqx (Zhh hw _ _), Option.bind_some]
  have ht := Ztx (wd A.segments x.Segment x.At)
  have ho := (Zfv (wd A.segments x.Segment x.At)).o
  generalize dc (wd A.segments x.Segment x.At) = t at *
  have hm := Zwm (n := t.Off) (x := t.Data + t.Ptrs) ho (by omega)
  rw [Yq (x := t.Data + t.Ptrs) (by omega) (by omega), Yq (x := t.Off * (t.Data + t.Ptrs)) (by omega) (by omega), Yq (x := x.P.Code + 2) (by omega) (by omega), c7']
  by_cases hq : (t.Kind ≠ 0 ∧ t.Kind ≠ 1) ∨ t.Off < 0 ∨ x.P.Count < t.Off * (t.Data + t.Ptrs)
  ·rw [if_pos hq]
   have : cond (cond (cond (t.Kind != 0) (t.Kind != 1) false) true (decide (t.Off < 0))) true (decide (x.P.Count < t.Off * (t.Data + t.Ptrs))) = true := by
    rcases hq with ⟨q1, q2⟩ | q | q
    ·rw [bne_iff_ne.2 q1, bne_iff_ne.2 q2]; rfl
    ·rw [decide_eq_true q]; cases (cond (t.Kind != 0) (t.Kind != 1) false) <;> rfl
    rw [decide_eq_true q]; cases (cond (cond (t.Kind != 0) (t.Kind != 1) false) true (decide (t.Off < 0))) <;> rfl
   rw [this, cond_true]; rfl
  rw [if_neg hq]
  have e1 : cond (t.Kind != 0) (t.Kind != 1) false = false := by
   by_cases q0 : t.Kind = 0
   ·rw [show (t.Kind != 0) = false from by rw [q0]; rfl]; rfl
   have q1 : t.Kind = 1 := by omega
   rw [show (t.Kind != 1) = false from by rw [q1]; rfl]
   cases (t.Kind != 0) <;> rfl
  rw [e1, cond_false, show decide (t.Off < 0) = false from by rw [decide_eq_false_iff_not]; omega, cond_false, show decide (x.P.Count < t.Off * (t.Data + t.Ptrs)) = false from by rw [decide_eq_false_iff_not]; omega]
  rfl
 rw [if_neg c7', show (x.P.Code == 7) = false from Jn c7', cond_false, Yq (x := x.P.Code + 2) (by omega) (by omega)]
theorem Zgn (r : Zd) : Yp r = some (Z6 r) := by
 unfold Yp Z6
 by_cases h : r.kind = 1
 ·rw [if_pos h, show (r.kind == 1) = true from by rw [h]; rfl]; rfl
 rw [if_neg h, show (r.kind == 1) = false from Jn h]; rfl
def Ye (A : Zj) (r : Zd) (i : Int) : Zd × Int :=
 if i < 0 ∨ Z6 r ≤ i then (r0, 0)
 else if r.kind = 1 then atR A r.segment (r.at_ + r.words + i)
 else if r.kind = 8 then atR A r.segment (r.at_ + i)
 else if r.kind = 9 then (⟨some A, 1, r.segment, r.at_ + 1 + i * (r.words + r.ptrs), r.words, r.ptrs, 0, 0, 0⟩, 0)
 else (⟨some A, 10, r.segment, r.at_, 0, 0, 0, r.kind - 2, i⟩, 0)
theorem Kk {r : Zd} (h : OKr A r) (i : Int) : OKr A (Ye A r i).1 := by
 unfold Ye
 by_cases hi : i < 0 ∨ Z6 r ≤ i
 ·rw [if_pos hi]; exact .z
 rw [if_neg hi]
 by_cases k1 : r.kind = 1
 ·rw [if_pos k1]; exact Zft _ _
 rw [if_neg k1]
 by_cases k8 : r.kind = 8
 ·rw [if_pos k8]; exact Zft _ _
 rw [if_neg k8]
 by_cases k9 : r.kind = 9
 ·rw [if_pos k9]
  cases h with
  | z => simp [r0] at k9
  | st _ _ _ _ => simp at k1
  | li k s a n hk => simp only at k9; omega
  | at_ => simp at k9
  | co s a d p n hd hp hn hw hin =>
   simp only
   have hi' := inB_iff.1 hin
   simp only [Z6] at hi
   rw [if_neg (by omega)] at hi
   have h1 : 0 ≤ i * (d + p) := Int.mul_nonneg (by omega) (by omega)
   have h2 : (i + 1) * (d + p) ≤ n * (d + p) := Int.mul_le_mul_of_nonneg_right (by omega) (by omega)
   rw [Int.add_mul, Int.one_mul] at h2
   exact .st _ _ _ _ hd hp (inB_iff.2 ⟨hi'.1, hi'.2.1, by omega, by omega, by omega⟩)
 rw [if_neg k9]
 cases h with
 | z => simp [r0, Z6] at hi; omega
 | st _ _ _ _ => simp at k1
 | co => simp at k9
 | at_ => simp [Z6] at hi; omega
 | li k s a n hk hn hin =>
  simp only at k8 k9 ⊢
  simp only [Z6] at hi
  rw [if_neg (by omega)] at hi
  exact .at_ _ _ _ _ n (by omega) (by omega) (by omega) (by omega) hin
theorem Zm3 (hw : WS A.segments) {s a n : Int} (h : inB A.segments s a n = true) : 0 ≤ a ∧ 0 ≤ n ∧ a + n ≤ 17592186044416 := by
 have h' := inB_iff.1 h
 have := Ze3 hw s
 omega
theorem Zyl (hw : WS A.segments) {r : Zd} (h : OKr A r) (i : Int) : Qr r i = some (Ye A r i) := by
 unfold Qr Ye
 rw [Zgn]
 have hz : (cond (decide (i < 0)) (some true) ((some (Z6 r)).bind fun y4 => some (cond (decide (i < 0)) true (decide (y4 ≤ i))))) = some (decide (i < 0 ∨ Z6 r ≤ i)) := by
  by_cases h0 : i < 0
  ·rw [decide_eq_true h0, cond_true, show decide (i < 0 ∨ Z6 r ≤ i) = true from decide_eq_true (.inl h0)]
  rw [decide_eq_false h0, cond_false, Option.bind_some, cond_false]
  congr 1
  rw [decide_eq_decide]
  omega
 rw [hz, Option.bind_some]
 by_cases hi : i < 0 ∨ Z6 r ≤ i
 ·rw [if_pos hi, decide_eq_true hi]; rfl
 rw [if_neg hi, decide_eq_false hi, cond_false]
 cases h with
 | z => exact absurd hi (by first | (simp [Z6, r0]; done) | (simp [Z6, r0]; omega))
 | at_ => exact absurd hi (by first | (simp [Z6]; done) | (simp [Z6]; omega))
 | st s a d p hd hp hin =>
  have := Zm3 hw hin
  simp only [Z6, if_true] at hi
  simp only [beq_self_eq_true, cond_true, if_true]
  rw [Yq (x := a + d) (by omega) (by omega), Yq (by omega) (by omega), Zvx hw]
  rfl
 | co s a d p n hd hp hn hwx hin =>
  have := Zm3 hw hin
  simp only [Z6] at hi
  rw [if_neg (by omega)] at hi
  simp only [show ((9 : Int) == 1) = false from rfl, show ((9 : Int) == 8) = false from rfl, show ((9 : Int) == 9) = true from rfl, cond_true, cond_false, show ¬ (9 : Int) = 1 from by decide, show ¬ (9 : Int) = 8 from by decide, if_false, if_true]
  have h1 : 0 ≤ i * (d + p) := Int.mul_nonneg (by omega) (by omega)
  have h2 : (i + 1) * (d + p) ≤ n * (d + p) := Int.mul_le_mul_of_nonneg_right (by omega) (by omega)
  rw [Int.add_mul, Int.one_mul] at h2
  rw [Yq (x := a + 1) (by omega) (by omega), Yq (x := d + p) (by omega) (by omega), Yq (x := i * (d + p)) (by omega) (by omega), Yq (by omega) (by omega)]
 | li k s a n hk hn hin =>
  have := Zm3 hw hin
  simp only [Z6] at hi
  rw [if_neg (by omega)] at hi
  simp only
  rw [show (k == 1) = false from Jn (by omega), cond_false, if_neg (by omega), show (k == 9) = false from Jn (by omega)]
  by_cases k8 : k = 8
  ·have hp : (n * wdt (k - 2) + 63) / 64 = n := by rw [k8]; simp [wdt]; omega
   rw [show (k == 8) = true from by rw [k8]; rfl, cond_true, if_pos k8, Yq (by omega) (by omega), Zvx hw]
   rfl
  rw [show (k == 8) = false from Jn k8, cond_false, cond_false, if_neg k8, if_neg (by omega), Yq (by omega) (by omega)]
def Zt1 (r : Zd) : Int := if r.kind = 1 then r.words else if r.kind = 10 then 1 else 0
theorem Zvf (r : Zd) : J3 r = some (Zt1 r) := by
 unfold J3 Zt1
 by_cases h : r.kind = 1
 ·rw [if_pos h, show (r.kind == 1) = true from by rw [h]; rfl]; rfl
 rw [if_neg h, show (r.kind == 1) = false from Jn h]
 by_cases h' : r.kind = 10
 ·rw [if_pos h', show (r.kind == 10) = true from by rw [h']; rfl]; rfl
 rw [if_neg h', show (r.kind == 10) = false from Jn h']; rfl
def Ztl (w : Int) (c j : Int) : Int := ((w.toNat / 2 ^ (j * wdt c).toNat % 2 ^ (wdt c).toNat : Nat) : Int)
def each (c : Int) : Int := 64 / wdt c
def Ztk (A : Zj) (r : Zd) : Int := if r.code = 0 then 0 else Ztl (wd A.segments r.segment (r.at_ + r.index / each r.code)) r.code (r.index % each r.code)
theorem c5 {c : Int} (h : 0 ≤ c ∧ c ≤ 5) : c = 0 ∨ c = 1 ∨ c = 2 ∨ c = 3 ∨ c = 4 ∨ c = 5 := by omega
end
section
variable {A : Zj}
theorem Zxm {c i n : Int} (hc : 1 ≤ c ∧ c ≤ 5) (h0 : 0 ≤ i) (h1 : i < n) (hn : n < 536870912) : 1 ≤ each c ∧ each c ≤ 64 ∧ 0 ≤ i / each c ∧ i / each c + 1 ≤ (n * wdt c + 63) / 64 ∧ 0 ≤ i % each c ∧ i % each c < each c ∧ Int.tdiv 64 (wdt c) = each c ∧ wdt c ≠ 0 := by
 rcases c5 (c := c) (by omega) with rfl | rfl | rfl | rfl | rfl | rfl
 ·omega
 ·have e1 : each 1 = 64 := by decide
  have e2 : wdt 1 = 1 := by decide
  rw [e1, e2]; exact ⟨by omega, by omega, by omega, by omega, by omega, by omega, by decide, by decide⟩
 ·have e1 : each 2 = 8 := by decide
  have e2 : wdt 2 = 8 := by decide
  rw [e1, e2]; exact ⟨by omega, by omega, by omega, by omega, by omega, by omega, by decide, by decide⟩
 ·have e1 : each 3 = 4 := by decide
  have e2 : wdt 3 = 16 := by decide
  rw [e1, e2]; exact ⟨by omega, by omega, by omega, by omega, by omega, by omega, by decide, by decide⟩
 ·have e1 : each 4 = 2 := by decide
  have e2 : wdt 4 = 32 := by decide
  rw [e1, e2]; exact ⟨by omega, by omega, by omega, by omega, by omega, by omega, by decide, by decide⟩
 have e1 : each 5 = 1 := by decide
 have e2 : wdt 5 = 64 := by decide
 rw [e1, e2]; exact ⟨by omega, by omega, by omega, by omega, by omega, by omega, by decide, by decide⟩
theorem Zx0 (hw : WS A.segments) : Uk (some A) = some (atR A 0 0) := by
 unfold Uk
 rw [Zvx hw]
 rfl
end
theorem Zo7 : atR ⟨[[4294967296, 7]], 0, 0⟩ 0 0 = (⟨some ⟨[[4294967296, 7]], 0, 0⟩, 1, 0, 1, 1, 0, 0, 0, 0⟩, 0) := by
 unfold atR
 simp only
 rw [Zuy]
 rfl
theorem Zxe : WS [[4294967296, 7]] := Zyv _ (by simp) (by simp)
end Go.Proofs.Ytmlhokaflhlhbaa
