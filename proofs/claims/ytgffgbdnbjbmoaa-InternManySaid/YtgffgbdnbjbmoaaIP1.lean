/- Plain facts on this seat's mirrors (part IP1); each theorem bears its own conditions. -/
import Derived.Test.YtgffgbdnbjbmoaaID
import Derived.Test.YtgffgbdnbjbmoaaIE
import Derived.IntWalk
namespace Go.Proofs.Ytgffgbdnbjbmoaa
open Go.RowKit
set_option linter.unusedVariables false
set_option linter.unusedSimpArgs false
theorem Zc6 {a b : Int} (h : ¬ a = b) : (a == b) = false := by simp [h]
def Znq (w : Nat) : Int := if w / 4 % 1073741824 < 536870912 then ((w / 4 % 1073741824 : Nat) : Int) else ((w / 4 % 1073741824 : Nat) : Int) - 1073741824
def Zv4 (w : Nat) : Ym :=
 if w = 0 then ⟨0, 0, 0, 0, 0, 0, 0, false⟩
 else if w % 4 = 0 then ⟨1, Znq w, (w / 4294967296 % 65536 : Nat), (w / 281474976710656 % 65536 : Nat), 0, 0, 0, false⟩
 else if w % 4 = 1 then ⟨2, Znq w, 0, 0, (w / 4294967296 % 8 : Nat), (w / 34359738368 % 536870912 : Nat), 0, false⟩
 else if w % 4 = 2 then ⟨3, (w / 8 % 536870912 : Nat), 0, 0, 0, 0, (w / 4294967296 % 4294967296 : Nat), decide (w / 4 % 2 = 1)⟩
 else ⟨4, 0, 0, 0, 0, 0, 0, false⟩
theorem Zno (b : Nat) : ((2 : Int) ^ b) = ((2 ^ b : Nat) : Int) := by simp
theorem Zeo (w f b : Nat) (hw : w < 18446744073709551616) (hf : f < 64) (hb : b ≤ 40) : Y9 w f b = some ((w / 2 ^ f % 2 ^ b : Nat) : Int) := by
 unfold Y9 Qs
 rw [if_pos (Int.natCast_nonneg _), if_pos (Int.natCast_nonneg _)]
 simp only [Option.bind_some, Option.some.injEq]
 have hp : (2 : Nat) ^ b ≤ 1099511627776 := by have := Nat.pow_le_pow_right (n := 2) (by decide) hb; simpa using this
 have h1 : 0 < (2 : Nat) ^ b := Nat.pow_pos (by decide)
 have e1 : (min ((f : Int).toNat) 64) = f := by omega
 have e2 : (min ((b : Int).toNat) 64) = b := by omega
 have hd : w / 2 ^ f < 18446744073709551616 := Nat.lt_of_le_of_lt (Nat.div_le_self _ _) hw
 have e3 : ((w : Int).fdiv ((2 ^ f : Nat) : Int)) = ((w / 2 ^ f : Nat) : Int) := by
  rw [Int.fdiv_eq_ediv_of_nonneg _ (Int.natCast_nonneg _), Int.natCast_ediv]
 rw [e1, e2, Zno, Zno, e3]
 clear e3
 generalize hq : 2 ^ b = q at *
 generalize w / 2 ^ f = x at *
 rw [Int.one_mul, IntWalk.u64_in (q : Int) (by omega), IntWalk.u64_in ((q : Int) - 1) (by omega)]
 have e4 : ((q : Int) - 1) = ((q - 1 : Nat) : Int) := by omega
 rw [e4, Zre _ _ hd (by omega), ← hq, Nat.and_two_pow_sub_one_eq_mod, hq]
 have : x % q < q := Nat.mod_lt _ h1
 rw [IntWalk.u64_in _ (by omega), IntWalk.i64_in _ (by omega)]
theorem Z2t (w : Nat) (hw : w < 18446744073709551616) : IntKind.i64.wrap ((IntKind.i32.wrap (IntKind.u32.wrap (w : Int))).fdiv (2 ^ min (Int.toNat 2) 32)) = Znq w := by
 have e : (2 : Int) ^ min (Int.toNat 2) 32 = 4 := by decide
 rw [e, Int.fdiv_eq_ediv_of_nonneg _ (by decide), IntKind.wrap_u32, IntKind.wrap_i32]
 unfold Znq
 rw [IntWalk.i64_in _ (by omega)]
 split <;> omega
theorem Zw8 (w : Nat) (hw : w < 18446744073709551616) : Uj w = some (Znq w) := congrArg some (Z2t w hw)
theorem Z4v (w : Nat) (hw : w < 18446744073709551616) : IntKind.u64.wrap (Xr .u64 w 3) = ((w % 4 : Nat) : Int) := by
 have := Zre w 3 hw (by decide)
 rw [show ((3 : Nat) : Int) = 3 from rfl] at this
 rw [this, show (3 : Nat) = 2 ^ 2 - 1 from rfl, Nat.and_two_pow_sub_one_eq_mod, IntWalk.u64_in _ (by omega)]
theorem Z4x (w : Nat) (hw : w < 18446744073709551616) : (IntKind.u64.wrap (Xr .u64 ((w : Int).fdiv (2 ^ min (Int.toNat 2) 64)) 1) == 1) = decide (w / 4 % 2 = 1) := by
 have e1 : (2 : Int) ^ min (Int.toNat 2) 64 = 4 := by decide
 have e2 : ((w : Int).fdiv 4) = ((w / 4 : Nat) : Int) := by rw [Int.fdiv_eq_ediv_of_nonneg _ (by decide)]; rfl
 have e3 := Zre (w / 4) 1 (by omega) (by decide)
 rw [show ((1 : Nat) : Int) = 1 from rfl, Nat.and_one_is_mod] at e3
 rw [e1, e2, e3, IntWalk.u64_in _ (by omega)]
 by_cases h : w / 4 % 2 = 1
 ·rw [h]; decide
 have : w / 4 % 2 = 0 := by omega
 rw [this]; decide
theorem Zy4 (a : Nat) (b : Nat) : ((a : Int) == (b : Int)) = decide (a = b) := by
 by_cases h : a = b
 ·subst h; simp
 simp [h, Int.natCast_inj]
theorem Zv5 (w : Nat) (hw : w < 18446744073709551616) : Qy w = some (Zv4 w) := by
 unfold Qy
 have f1 : Y9 w 32 16 = _ := Zeo w 32 16 hw (by decide) (by decide)
 have f2 : Y9 w 48 16 = _ := Zeo w 48 16 hw (by decide) (by decide)
 have f3 : Y9 w 32 3 = _ := Zeo w 32 3 hw (by decide) (by decide)
 have f4 : Y9 w 35 29 = _ := Zeo w 35 29 hw (by decide) (by decide)
 have f5 : Y9 w 3 29 = _ := Zeo w 3 29 hw (by decide) (by decide)
 have f6 : Y9 w 32 32 = _ := Zeo w 32 32 hw (by decide) (by decide)
 have c0 : ((w : Int) == 0) = _ := Zy4 w 0
 have c1 : (((w % 4 : Nat) : Int) == 0) = _ := Zy4 (w % 4) 0
 have c2 : (((w % 4 : Nat) : Int) == 1) = _ := Zy4 (w % 4) 1
 have c3 : (((w % 4 : Nat) : Int) == 2) = _ := Zy4 (w % 4) 2
 rw [Z4v w hw, Zw8 w hw, f1, f2, f3, f4, f5, f6, Z4x w hw, c0, c1, c2, c3]
 simp only [Option.bind_some]
 unfold Zv4
 by_cases h0 : w = 0
 ·simp [h0]
 by_cases h1 : w % 4 = 0
 ·simp [h0, h1]
 by_cases h2 : w % 4 = 1
 ·simp [h0, h2]
 by_cases h3 : w % 4 = 2
 ·simp [h0, h3]
 simp [h0, h1, h2, h3]
theorem Z2v (k a b : Nat) (h : a < 2 ^ k) : a ||| (b * 2 ^ k) = a + b * 2 ^ k := by
 rw [Nat.or_comm, Nat.mul_comm, ← Nat.two_pow_add_eq_or_of_lt h, Nat.add_comm]
theorem Zyi (x : Nat) (h : x < 18446744073709551616) : IntKind.u64.wrap (x : Int) = (x : Int) := IntWalk.u64_in _ (by omega)
theorem Z2o (x y : Nat) (hx : x < 18446744073709551616) (hy : y < 18446744073709551616) : IntKind.u64.wrap (Zgo .u64 x y) = ((x ||| y : Nat) : Int) := by
 rw [Z3d x y hx hy, Zyi _ (by have := Nat.or_lt_two_pow (n := 64) (show x < 2 ^ 64 by omega) (show y < 2 ^ 64 by omega); omega)]
theorem Z3f (x k : Nat) (hx : x < 18446744073709551616) (hk : k ≤ 64) (h : x * 2 ^ k < 18446744073709551616) : IntKind.u64.wrap (IntKind.u64.wrap (x : Int) * 2 ^ min (Int.toNat (k : Int)) 64) = ((x * 2 ^ k : Nat) : Int) := by
 have e : min (Int.toNat (k : Int)) 64 = k := by omega
 have e2 : ((x : Int) * (2 : Int) ^ k) = ((x * 2 ^ k : Nat) : Int) := by simp
 rw [Zyi x hx, e, e2, Zyi _ h]
theorem Z4z {a b s : Nat} (ha : a < 2 ^ s) (hb : a + b * 2 ^ s < 18446744073709551616) (hs : s ≤ 63) : IntKind.u64.wrap (Zgo .u64 (IntKind.u64.wrap (a : Int)) (IntKind.u64.wrap ((IntKind.u64.wrap (b : Int)) * 2 ^ min (Int.toNat (s : Int)) 64))) = ((a + b * 2 ^ s : Nat) : Int) := by
 have hp : 1 ≤ 2 ^ s := Nat.pow_pos (by decide)
 have hm : b ≤ b * 2 ^ s := Nat.le_mul_of_pos_right _ hp
 rw [Z3f b s (by omega) (by omega) (by omega), IntWalk.u64_in (a : Int) (by omega), Z2o a (b * 2 ^ s) (by omega) (by omega), Z2v s a b ha]
theorem Q2 {x : Int} (h1 : -9223372036854775808 ≤ x) (h2 : x ≤ 9223372036854775807) : IntKind.i64.wrap x = x := Z3c ⟨h1, h2⟩
theorem Ze0 {i n : Nat} (h : i < n) : decide ((i : Int) < (n : Int)) = true := by rw [decide_eq_true_eq]; omega
theorem Zez {n : Nat} : decide ((n : Int) < (n : Int)) = false := by rw [decide_eq_false_iff_not]; omega
structure WS (l : List (List Int)) : Prop where
 n : l.length * 24 ≤ 140737488355328
 s : ∀ x ∈ l, x.length * 8 ≤ 140737488355328
 w : ∀ x ∈ l, ∀ w ∈ x, 0 ≤ w ∧ w < 18446744073709551616
theorem Zmh {l : List Int} (h : l.length * 8 ≤ 140737488355328) : Yp l = some l := by
 unfold Yp
 rw [V6 (by simp only [List.length_nil]; omega) (by simp only [List.length_nil]; omega), List.nil_append]
theorem Zxq {α : Type} (l : List α) (n : Nat) (v : α) : Zbo l (n : Int) v = l.set n v := by unfold Zbo; rw [Int.toNat_natCast]
theorem Zhn {l : List (List Int)} (h : WS l) : ∀ (r : List (List Int)) (i : Nat), l.drop i = r → i ≤ l.length →
  Zw (Jg l) ((i : Int), l.take i ++ List.replicate r.length []) = some l
 | [], i, hd, hi => by
  have hl : i = l.length := by
   have := congrArg List.length hd
   rw [List.length_drop, List.length_nil] at this; omega
  subst hl
  refine Xa ?_
  unfold Jg
  simp only
  rw [Zez, cond_false]
  simp
 | x :: r, i, hd, hi => by
  have hi' : i < l.length := by
   rcases Nat.lt_or_ge i l.length with q | q
   ·exact q
   rw [List.drop_eq_nil_of_le q] at hd; cases hd
  have hx : l[i]? = some x := by
   have := congrArg (·[0]?) hd
   simpa using this
  have hm := List.mem_of_getElem? hx
  have hd' : l.drop (i + 1) = r := by
   have := congrArg (List.drop 1) hd
   rw [List.drop_drop] at this
   simpa [Nat.add_comm] using this
  have hn := h.n
  have hlen : (l.take i).length = i := by rw [List.length_take]; omega
  have hg : Jc (l.take i ++ List.replicate (r.length + 1) []) (i : Int) = some ([] : List Int) := X8 (by rw [List.getElem?_append_right (by omega), hlen, Nat.sub_self]; rfl)
  have hstep : Jg l ((i : Int), l.take i ++ List.replicate (r.length + 1) []) = some (.inl (((i + 1 : Nat) : Int), l.take (i + 1) ++ List.replicate r.length [])) := by
   unfold Jg
   simp only
   rw [Ze0 hi', cond_true, X8 hx, Option.bind_some, Zmh (h.s x hm), Option.bind_some, hg, Option.bind_some, Q2 (by omega) (by omega), Zxq, List.set_append_right _ _ (by omega), hlen, Nat.sub_self, List.replicate_succ, List.set_cons_zero, List.take_add_one, hx, List.append_assoc]
   rfl
  rw [List.length_cons, X1 hstep]
  exact Zhn h r (i + 1) hd' (by omega)
theorem Zu1 {l : List (List Int)} (h : WS l) : Vl l = some l := by
 have hn := h.n
 have := Zhn h l 0 rfl (Nat.zero_le _)
 rw [List.take_zero, List.nil_append, show (((0 : Nat) : Int)) = 0 from rfl] at this
 unfold Vl
 rw [Zpq (by omega) (by omega) (by omega), Option.bind_some, Int.toNat_natCast, this]
 rfl
theorem Z18 {l : List (List Int)} (h : WS l) : Zbh l = some (some ⟨l, 0, 0⟩) := by
 unfold Zbh
 rw [Zu1 h, Option.bind_some]
def seg (l : List (List Int)) (s : Int) : List Int := (l[s.toNat]?).getD []
def inB (l : List (List Int)) (s a n : Int) : Bool := decide (0 ≤ s) && (decide (s < l.length) && (decide (0 ≤ a) && (decide (0 ≤ n) && decide (a + n ≤ (seg l s).length))))
theorem inB_iff {l : List (List Int)} {s a n : Int} : inB l s a n = true ↔ 0 ≤ s ∧ s < l.length ∧ 0 ≤ a ∧ 0 ≤ n ∧ a + n ≤ (seg l s).length := by
 unfold inB
 simp only [Bool.and_eq_true, decide_eq_true_eq]
theorem Zn0 {l : List (List Int)} {s : Int} (h0 : 0 ≤ s) (h1 : s < l.length) : Jc l s = some (seg l s) ∧ seg l s ∈ l := by
 have hs : s.toNat < l.length := by omega
 unfold seg Jc
 rw [if_pos h0, List.getElem?_eq_getElem hs]
 exact ⟨rfl, List.getElem_mem hs⟩
def wd (l : List (List Int)) (s a : Int) : Int := ((seg l s)[a.toNat]?).getD 0
theorem Z20 {l : List (List Int)} {s a : Int} (h : inB l s a 1 = true) : Jc (seg l s) a = some (wd l s a) ∧ wd l s a ∈ seg l s := by
 rw [inB_iff] at h
 have ha : a.toNat < (seg l s).length := by omega
 unfold wd Jc
 rw [if_pos h.2.2.1, List.getElem?_eq_getElem ha]
 exact ⟨rfl, List.getElem_mem ha⟩
theorem Zms {l : List (List Int)} (hw : WS l) (s a : Int) : 0 ≤ wd l s a ∧ wd l s a < 18446744073709551616 := by
 unfold wd
 cases h : (seg l s)[a.toNat]? with
 | none => simp
 | some w =>
  have hm := List.mem_of_getElem? h
  unfold seg at hm
  cases hs : l[s.toNat]? with
  | none => rw [hs] at hm; cases hm
  | some x => rw [hs] at hm; exact hw.w x (List.mem_of_getElem? hs) w hm
theorem Zi0 {l : List (List Int)} (hw : WS l) (s : Int) : (seg l s).length * 8 ≤ 140737488355328 := by
 unfold seg
 cases hs : l[s.toNat]? with
 | none => simp
 | some x => exact hw.s x (List.mem_of_getElem? hs)
section
variable {A : Ze}
theorem Zy2 : Kw (some A) = some (A.segments.length : Int) := rfl
theorem Zlo (s : Int) : Qh (some A) s = some (decide (0 ≤ s) && decide (s < A.segments.length)) := by
 unfold Qh
 rw [Zy2, Option.bind_some]
 cases decide (0 ≤ s) <;> rfl
theorem Zvy (s : Int) : Qt (some A) s = some (if 0 ≤ s ∧ s < A.segments.length then ((seg A.segments s).length : Int) else 0) := by
 unfold Qt
 rw [Zlo, Option.bind_some]
 by_cases h : 0 ≤ s ∧ s < A.segments.length
 ·rw [decide_eq_true h.1, decide_eq_true h.2, if_pos h, Option.bind_some, (Zn0 h.1 h.2).1]
  rfl
 rw [if_neg h, show (decide (0 ≤ s) && decide (s < A.segments.length)) = false from by rw [Bool.and_eq_false_iff, decide_eq_false_iff_not, decide_eq_false_iff_not]; omega]
 rfl
theorem Zmv (hw : WS A.segments) (s a n : Int) : Qc (some A) s a n = some (inB A.segments s a n) := by
 have hl := Zi0 hw s
 unfold Qc inB
 rw [Zlo, Zvy, Option.bind_some]
 by_cases h : 0 ≤ s ∧ s < A.segments.length
 ·rw [if_pos h, decide_eq_true h.1, decide_eq_true h.2]
  by_cases h2 : 0 ≤ a
  ·by_cases h3 : 0 ≤ n
   ·by_cases h4 : n ≤ ((seg A.segments s).length : Int)
    ·simp only [decide_eq_true h2, decide_eq_true h3, Bool.and_true, Bool.true_and, cond_true, Option.bind_some, decide_eq_true h4]
     rw [Q2 (by omega) (by omega)]
     congr 1
     rw [Bool.eq_iff_iff, decide_eq_true_eq, decide_eq_true_eq]
     omega
    simp only [decide_eq_true h2, decide_eq_true h3, Bool.and_true, Bool.true_and, cond_true, cond_false, Option.bind_some, decide_eq_false h4]
    rw [show decide (a + n ≤ ((seg A.segments s).length : Int)) = false from by rw [decide_eq_false_iff_not]; omega]
   rw [decide_eq_true h2, decide_eq_false h3]; rfl
  rw [decide_eq_false h2]; rfl
 rw [show (decide (0 ≤ s) && decide (s < A.segments.length)) = false from by rw [Bool.and_eq_false_iff, decide_eq_false_iff_not, decide_eq_false_iff_not]; omega]
 rw [← Bool.and_assoc, show (decide (0 ≤ s) && decide (s < A.segments.length)) = false from by rw [Bool.and_eq_false_iff, decide_eq_false_iff_not, decide_eq_false_iff_not]; omega]
 rfl
theorem Zf8 (hw : WS A.segments) (s a : Int) : Xd (some A) s a = some (if inB A.segments s a 1 = true then (wd A.segments s a, true) else (0, false)) := by
 unfold Xd
 rw [Zmv hw, Option.bind_some]
 cases h : inB A.segments s a 1 with
 | false => rfl
 | true =>
  have h' := inB_iff.1 h
  rw [Bool.not_true, cond_false, Option.bind_some, (Zn0 h'.1 h'.2.1).1, Option.bind_some, (Z20 h).1]
  rfl
theorem Zvx (hw : WS A.segments) (s a n : Int) : Jl (some A) s a n = some (if inB A.segments s a n = true then (((seg A.segments s).drop a.toNat).take n.toNat, true) else ([], false)) := by
 have hl := Zi0 hw s
 unfold Jl
 rw [Zmv hw, Option.bind_some]
 cases h : inB A.segments s a n with
 | false => rfl
 | true =>
  have h' := inB_iff.1 h
  rw [Bool.not_true, cond_false, Option.bind_some, (Zn0 h'.1 h'.2.1).1, Option.bind_some, Q2 (by omega) (by omega), Ztn (by omega) (by omega) (by omega), Option.bind_some, show a + n - a = n by omega, Zmh (by rw [List.length_take, List.length_drop]; omega)]
  rfl
end
def dc (w : Int) : Ym := Zv4 w.toNat
theorem Zos {w : Int} (h : 0 ≤ w ∧ w < 18446744073709551616) : Qy w = some (dc w) := by
 have := Zv5 w.toNat (by omega)
 rwa [show ((w.toNat : Nat) : Int) = w by omega] at this
structure PB (p : Ym) : Prop where
 k : p.Kind = 0 ∨ p.Kind = 1 ∨ p.Kind = 2 ∨ p.Kind = 3 ∨ p.Kind = 4
 o : -536870912 ≤ p.Off ∧ p.Off < 536870912
 d : 0 ≤ p.Data ∧ p.Data < 65536
 q : 0 ≤ p.Ptrs ∧ p.Ptrs < 65536
 c : 0 ≤ p.Code ∧ p.Code < 8
 n : 0 ≤ p.Count ∧ p.Count < 536870912
 s : 0 ≤ p.Segment ∧ p.Segment < 4294967296
 f : p.Kind = 3 → 0 ≤ p.Off
 z : p.Kind = 0 ∨ p.Kind = 4 → p.Off = 0
theorem Zzn (w : Nat) : -536870912 ≤ Znq w ∧ Znq w < 536870912 := by
 unfold Znq
 split <;> omega
theorem Zjj (w : Int) : PB (dc w) := by
 have ho := Zzn w.toNat
 unfold dc Zv4
 split
 ·exact ⟨.inl rfl, by simp, by simp, by simp, by simp, by simp, by simp, by simp, by simp⟩
 split
 ·exact ⟨.inr (.inl rfl), ho, by simp only; omega, by simp only; omega, by simp, by simp, by simp, by simp, by simp⟩
 split
 ·exact ⟨.inr (.inr (.inl rfl)), ho, by simp, by simp, by simp only; omega, by simp only; omega, by simp, by simp, by simp⟩
 split
 ·exact ⟨.inr (.inr (.inr (.inl rfl))), by simp only; omega, by simp, by simp, by simp, by simp, by simp only; omega, fun _ => by simp only; omega, by simp⟩
 exact ⟨.inr (.inr (.inr (.inr rfl))), by simp, by simp, by simp, by simp, by simp, by simp, by simp, by simp⟩
def wdt (c : Int) : Int := if c = 0 then 0 else if c = 1 then 1 else if c = 2 then 8 else if c = 3 then 16 else if c = 4 then 32 else 64
def pw (p : Ym) : Int := if p.Kind = 1 then p.Data + p.Ptrs else if p.Code = 7 then p.Count + 1 else (p.Count * wdt p.Code + 63) / 64
theorem c7 {c : Int} (h : 0 ≤ c ∧ c < 8) (h7 : ¬ c = 7) : c = 0 ∨ c = 1 ∨ c = 2 ∨ c = 3 ∨ c = 4 ∨ c = 5 ∨ c = 6 := by omega
theorem Zyk {c : Int} (h : 0 ≤ c ∧ c < 8) (h7 : ¬ c = 7) : Gw c = some (wdt c) := by
 unfold Gw
 rcases c7 h h7 with rfl | rfl | rfl | rfl | rfl | rfl | rfl <;> rfl
theorem Zyt {p : Ym} (h : PB p) : Ko p = some (if p.Kind = 1 ∨ p.Kind = 2 then (pw p, true) else (0, false)) := by
 have hd := h.d; have hp := h.q; have hn := h.n
 unfold Ko pw
 by_cases k1 : p.Kind = 1
 ·rw [show (p.Kind == 1) = true from by rw [k1]; rfl, cond_true, if_pos (.inl k1), if_pos k1, Q2 (by omega) (by omega)]
 rw [show (p.Kind == 1) = false from Zc6 k1, cond_false]
 by_cases k2 : p.Kind = 2
 ·rw [show (p.Kind == 2) = true from by rw [k2]; rfl, cond_true, if_pos (.inr k2), if_neg k1]
  by_cases c7' : p.Code = 7
  ·rw [show (p.Code == 7) = true from by rw [c7']; rfl, cond_true, if_pos c7', Q2 (by omega) (by omega)]
  rw [show (p.Code == 7) = false from Zc6 c7', cond_false, if_neg c7', decide_eq_true h.c.1, show decide (p.Code < 7) = true from by rw [decide_eq_true_eq]; have := h.c; omega, decide_eq_true hn.1, show decide (p.Count ≤ 536870911) = true from by rw [decide_eq_true_eq]; omega]
  simp only [cond_true]
  rw [Zyk h.c c7', Option.bind_some]
  have hw : 0 ≤ wdt p.Code ∧ wdt p.Code ≤ 64 := by unfold wdt; repeat' split; all_goals omega
  have h1 : 0 ≤ p.Count * wdt p.Code := Int.mul_nonneg hn.1 hw.1
  have h2 : p.Count * wdt p.Code ≤ 536870912 * 64 := Int.mul_le_mul (by omega) hw.2 hw.1 (by omega)
  rw [Q2 (x := p.Count * wdt p.Code) (by omega) (by omega), Q2 (x := p.Count * wdt p.Code + 63) (by omega) (by omega), Int.tdiv_eq_ediv_of_nonneg (by omega), Q2 (by omega) (by omega)]
 rw [show (p.Kind == 2) = false from Zc6 k2, if_neg (by omega)]
 rfl
def l0 : Y3 := ⟨⟨0, 0, 0, 0, 0, 0, 0, false⟩, 0, 0⟩
def Zvm (p : Ym) : Ym := ⟨p.Kind, 0, p.Data, p.Ptrs, p.Code, p.Count, p.Segment, p.Double⟩
def tgt (l : List (List Int)) (p : Ym) (s a : Int) : Y3 × Int :=
 if p.Kind = 4 then (l0, 9) else if p.Kind = 1 ∨ p.Kind = 2 then (if inB l s a (pw p) = true then (⟨Zvm p, s, a⟩, 0) else (l0, 7)) else (l0, 8)
def fol (l : List (List Int)) (s a : Int) : Y3 × Int :=
 if inB l s a 1 = true then
  let p := dc (wd l s a)
  if p.Kind = 0 then (l0, 0)
  else if p.Kind = 3 ∧ p.Double = true then
   if inB l p.Segment p.Off 2 = true then
    let b := dc (wd l p.Segment p.Off)
    let q := dc (wd l p.Segment (p.Off + 1))
    if b.Kind = 3 ∧ b.Double = false then (if q.Kind ≠ 4 ∧ q.Off ≠ 0 then (l0, 8) else tgt l q b.Segment b.Off) else (l0, 8)
   else (l0, 7)
  else if p.Kind = 3 then
   if inB l p.Segment p.Off 1 = true then
    let q := dc (wd l p.Segment p.Off)
    tgt l q p.Segment (p.Off + 1 + q.Off)
   else (l0, 7)
  else tgt l p s (a + 1 + p.Off)
 else (l0, 7)
section
variable {A : Ze}
theorem Zew (hw : WS A.segments) {p : Ym} (h : PB p) (s a : Int) : Kj (some A) p s a = some (tgt A.segments p s a) := by
 unfold Kj tgt
 by_cases k4 : p.Kind = 4
 ·rw [show (p.Kind == 4) = true from by rw [k4]; rfl, if_pos k4]; rfl
 rw [show (p.Kind == 4) = false from Zc6 k4, cond_false, if_neg k4, Zyt h, Option.bind_some]
 by_cases k : p.Kind = 1 ∨ p.Kind = 2
 ·rw [if_pos k, if_pos k]
  simp only [Bool.not_true, cond_false]
  rw [Zmv hw, Option.bind_some]
  cases inB A.segments s a (pw p) <;> rfl
 rw [if_neg k, if_neg k]
 rfl
theorem Z4a {l : List (List Int)} {s a : Int} (h : inB l s a 2 = true) : ((seg l s).drop a.toNat).take (2 : Int).toNat = [wd l s a, wd l s (a + 1)] := by
 have h' := inB_iff.1 h
 have h1 : a.toNat < (seg l s).length := by omega
 have h2 : a.toNat + 1 < (seg l s).length := by omega
 unfold wd
 rw [show (a + 1).toNat = a.toNat + 1 by omega, List.getElem?_eq_getElem h1, List.getElem?_eq_getElem h2, show ((2 : Int).toNat) = 2 from rfl, List.drop_eq_getElem_cons h1, List.drop_eq_getElem_cons h2]
 rfl
theorem Zu5 (hw : WS A.segments) (s a : Int) : Uh (some A) s a = some (if inB A.segments s a 2 = true then (if (dc (wd A.segments s a)).Kind = 3 ∧ (dc (wd A.segments s a)).Double = false then (if (dc (wd A.segments s (a + 1))).Kind ≠ 4 ∧ (dc (wd A.segments s (a + 1))).Off ≠ 0 then (l0, 8) else tgt A.segments (dc (wd A.segments s (a + 1))) (dc (wd A.segments s a)).Segment (dc (wd A.segments s a)).Off) else (l0, 8)) else (l0, 7)) := by
 unfold Uh
 rw [Zvx hw, Option.bind_some]
 cases h : inB A.segments s a 2 with
 | false => rfl
 | true =>
  simp only [if_true, Bool.not_true, cond_false]
  rw [Z4a h]
  have g0 : Jc [wd A.segments s a, wd A.segments s (a + 1)] 0 = some (wd A.segments s a) := rfl
  have g1 : Jc [wd A.segments s a, wd A.segments s (a + 1)] 1 = some (wd A.segments s (a + 1)) := rfl
  rw [g0, Option.bind_some, Zos (Zms hw _ _), Option.bind_some, g1, Option.bind_some, Zos (Zms hw _ _), Option.bind_some]
  generalize dc (wd A.segments s a) = b
  have hq := Zjj (wd A.segments s (a + 1))
  revert hq
  generalize dc (wd A.segments s (a + 1)) = q
  intro hq
  by_cases b3 : b.Kind = 3
  ·rw [show (b.Kind != 3) = false from by rw [b3]; rfl, cond_false]
   cases bd : b.Double with
   | true => rw [cond_true, if_neg (by simp)]; rfl
   | false =>
    rw [cond_false, if_pos ⟨b3, rfl⟩]
    by_cases hq4 : q.Kind = 4
    ·rw [show (q.Kind != 4) = false from by rw [hq4]; rfl, cond_false, cond_false, if_neg (by simp [hq4]), Zew hw hq]
     rfl
    rw [show (q.Kind != 4) = true from bne_iff_ne.2 hq4, cond_true]
    by_cases ho : q.Off = 0
    ·rw [show (q.Off != 0) = false from by rw [ho]; rfl, cond_false, if_neg (by simp [ho]), Zew hw hq]
     rfl
    rw [show (q.Off != 0) = true from bne_iff_ne.2 ho, cond_true, if_pos ⟨hq4, ho⟩]
    rfl
  rw [show (b.Kind != 3) = true from bne_iff_ne.2 b3, cond_true, cond_true, if_neg (by simp [b3])]
  rfl
theorem Zz7 {l : List (List Int)} (hw : WS l) {s a n : Int} (h : inB l s a n = true) : 0 ≤ a ∧ a ≤ 17592186044416 := by
 have h' := inB_iff.1 h
 have := Zi0 hw s
 omega
theorem Zvq (hw : WS A.segments) (s a : Int) : Ui (some A) s a = some (if inB A.segments s a 1 = true then tgt A.segments (dc (wd A.segments s a)) s (a + 1 + (dc (wd A.segments s a)).Off) else (l0, 7)) := by
 unfold Ui
 rw [Zf8 hw, Option.bind_some]
 cases h : inB A.segments s a 1 with
 | false => rfl
 | true =>
  have ha := Zz7 hw h
  have hq := Zjj (wd A.segments s a)
  have ho := hq.o
  simp only [if_true, Bool.not_true, cond_false]
  rw [Zos (Zms hw _ _), Option.bind_some, Q2 (x := a + 1) (by omega) (by omega), Q2 (by omega) (by omega), Zew hw hq]
  rfl
theorem Zu6 (hw : WS A.segments) (s a : Int) : Ug (some A) s a = some (fol A.segments s a) := by
 unfold Ug fol
 rw [Zf8 hw, Option.bind_some]
 cases h : inB A.segments s a 1 with
 | false => rfl
 | true =>
  have ha := Zz7 hw h
  have hq := Zjj (wd A.segments s a)
  have ho := hq.o
  simp only [if_true, Bool.not_true, cond_false]
  rw [Zos (Zms hw _ _), Option.bind_some]
  revert hq ho
  generalize dc (wd A.segments s a) = p
  intro hq ho
  by_cases k0 : p.Kind = 0
  ·rw [show (p.Kind == 0) = true from by rw [k0]; rfl, cond_true, if_pos k0]; rfl
  rw [show (p.Kind == 0) = false from Zc6 k0, cond_false, if_neg k0]
  by_cases k3 : p.Kind = 3
  ·rw [show (p.Kind == 3) = true from by rw [k3]; rfl, cond_true, cond_true]
   cases hd : p.Double with
   | true => rw [cond_true, if_pos ⟨k3, rfl⟩, Zu5 hw]; rfl
   | false => rw [cond_false, if_neg (by simp), if_pos k3, Zvq hw]; rfl
  rw [show (p.Kind == 3) = false from Zc6 k3, cond_false, cond_false, cond_false, if_neg (by simp [k3]), if_neg k3, Q2 (x := a + 1) (by omega) (by omega), Q2 (by omega) (by omega), Zew hw hq]
  rfl
end
theorem Zyu (l : List Int) (h : ∀ w ∈ l, 0 ≤ w ∧ w < 18446744073709551616) (hl : l.length * 8 ≤ 140737488355328) : WS [l] :=
 ⟨by simp, fun x hx => by rw [List.mem_singleton] at hx; subst hx; exact hl, fun x hx => by rw [List.mem_singleton] at hx; subst hx; exact h⟩
theorem Z2w {l : List (List Int)} {p : Ym} (h : PB p) {s a : Int} : ((tgt l p s a).2 ≠ 0 ∧ (tgt l p s a).1 = l0) ∨ ((tgt l p s a).2 = 0 ∧ (p.Kind = 1 ∨ p.Kind = 2) ∧ (tgt l p s a).1 = ⟨Zvm p, s, a⟩ ∧ inB l s a (pw p) = true) := by
 unfold tgt
 by_cases k4 : p.Kind = 4
 ·rw [if_pos k4]; exact .inl ⟨by simp, rfl⟩
 rw [if_neg k4]
 by_cases k : p.Kind = 1 ∨ p.Kind = 2
 ·rw [if_pos k]
  by_cases hi : inB l s a (pw p) = true
  ·rw [if_pos hi]; exact .inr ⟨rfl, k, rfl, hi⟩
  rw [if_neg hi]; exact .inl ⟨by simp, rfl⟩
 rw [if_neg k]; exact .inl ⟨by simp, rfl⟩
theorem Zzm {p : Ym} (h : PB p) : PB (Zvm p) := ⟨h.k, by simp [Zvm], h.d, h.q, h.c, h.n, h.s, fun _ => by simp [Zvm], fun _ => rfl⟩
theorem Z2h (l : List (List Int)) (s a : Int) : ((fol l s a).1 = l0) ∨ ((fol l s a).2 = 0 ∧ ∃ p s' a', PB p ∧ p.Off = 0 ∧ (p.Kind = 1 ∨ p.Kind = 2) ∧ (fol l s a).1 = ⟨p, s', a'⟩ ∧ inB l s' a' (pw p) = true) := by
 have key : ∀ (w s a : Int), ((tgt l (dc w) s a).1 = l0) ∨ ((tgt l (dc w) s a).2 = 0 ∧ ∃ p s' a', PB p ∧ p.Off = 0 ∧ (p.Kind = 1 ∨ p.Kind = 2) ∧ (tgt l (dc w) s a).1 = ⟨p, s', a'⟩ ∧ inB l s' a' (pw p) = true) := fun w s a => by
  rcases Z2w (l := l) (Zjj w) (s := s) (a := a) with h | ⟨h1, h2, h3, h4⟩
  ·exact .inl h.2
  exact .inr ⟨h1, Zvm (dc w), s, a, Zzm (Zjj w), rfl, h2, h3, h4⟩
 unfold fol
 by_cases h : inB l s a 1 = true
 ·rw [if_pos h]
  simp only
  split
  ·exact .inl rfl
  split
  ·split
   ·split
    ·split
     ·exact .inl rfl
     exact key _ _ _
    exact .inl rfl
   exact .inl rfl
  split
  ·split
   ·exact key _ _ _
   exact .inl rfl
  exact key _ _ _
 rw [if_neg h]; exact .inl rfl
def r0 : Za := ⟨none, 0, 0, 0, 0, 0, 0, 0, 0⟩
def Yq (r : Za) : Int := if r.kind = 1 then r.ptrs else r.count
def atR (A : Ze) (s a : Int) : Za × Int :=
 let x := fol A.segments s a
 if x.2 ≠ 0 ∨ x.1.P.Kind = 0 then (r0, x.2)
 else if x.1.P.Kind = 1 then (⟨some A, 1, x.1.Segment, x.1.At, x.1.P.Data, x.1.P.Ptrs, 0, 0, 0⟩, 0)
 else if x.1.P.Code = 7 then
  let t := dc (wd A.segments x.1.Segment x.1.At)
  if (t.Kind ≠ 0 ∧ t.Kind ≠ 1) ∨ t.Off < 0 ∨ x.1.P.Count < t.Off * (t.Data + t.Ptrs) then (r0, 8)
  else (⟨some A, 9, x.1.Segment, x.1.At, t.Data, t.Ptrs, t.Off, 0, 0⟩, 0)
 else (⟨some A, x.1.P.Code + 2, x.1.Segment, x.1.At, 0, 0, x.1.P.Count, 0, 0⟩, 0)
inductive OKr (A : Ze) : Za → Prop
 | z : OKr A r0
 | st (s a d p : Int) (hd : 0 ≤ d ∧ d < 65536) (hp : 0 ≤ p ∧ p < 65536) (hi : inB A.segments s a (d + p) = true) : OKr A ⟨some A, 1, s, a, d, p, 0, 0, 0⟩
 | li (k s a n : Int) (hk : 2 ≤ k ∧ k ≤ 8) (hn : 0 ≤ n ∧ n < 536870912) (hi : inB A.segments s a ((n * wdt (k - 2) + 63) / 64) = true) : OKr A ⟨some A, k, s, a, 0, 0, n, 0, 0⟩
 | co (s a d p n : Int) (hd : 0 ≤ d ∧ d < 65536) (hp : 0 ≤ p ∧ p < 65536) (hn : 0 ≤ n ∧ n < 536870912) (hw : 0 ≤ n * (d + p) ∧ n * (d + p) < 536870912) (hi : inB A.segments s a (n * (d + p) + 1) = true) : OKr A ⟨some A, 9, s, a, d, p, n, 0, 0⟩
 | at_ (s a c i n : Int) (hc : 0 ≤ c ∧ c ≤ 5) (h0 : 0 ≤ i) (h1 : i < n) (hn : n < 536870912) (hi : inB A.segments s a ((n * wdt c + 63) / 64) = true) : OKr A ⟨some A, 10, s, a, 0, 0, 0, c, i⟩
theorem Zoz (l : List (List Int)) (s a : Int) : ((fol l s a).2 ≠ 0 ∨ (fol l s a).1.P.Kind = 0) ∨ ((fol l s a).2 = 0 ∧ PB (fol l s a).1.P ∧ ((fol l s a).1.P.Kind = 1 ∨ (fol l s a).1.P.Kind = 2) ∧ inB l (fol l s a).1.Segment (fol l s a).1.At (pw (fol l s a).1.P) = true) := by
 rcases Z2h l s a with h | ⟨h1, p, s', a', hp, ho, hk, h, hi⟩
 ·rw [h]; exact .inl (.inr rfl)
 rw [h]; exact .inr ⟨h1, hp, hk, hi⟩
section
variable {A : Ze}
theorem Zx7 (w : Int) : 0 ≤ (dc w).Data ∧ (dc w).Data < 65536 ∧ 0 ≤ (dc w).Ptrs ∧ (dc w).Ptrs < 65536 ∧ (dc w).Off < 536870912 := by
 have h := Zjj w
 exact ⟨h.d.1, h.d.2, h.q.1, h.q.2, h.o.2⟩
theorem Z2p {n x : Int} (h0 : -536870912 ≤ n ∧ n < 536870912) (h1 : 0 ≤ x ∧ x ≤ 131070) : -70368744177664 ≤ n * x ∧ n * x ≤ 70368744177664 := by
 constructor
 ·have : -536870912 * 131070 ≤ n * x := by
   rcases Int.le_total 0 n with h | h
   ·have := Int.mul_nonneg h h1.1; omega
   have h2 : n * 131070 ≤ n * x := Int.mul_le_mul_of_nonpos_left h h1.2
   have h3 : -536870912 * 131070 ≤ n * 131070 := Int.mul_le_mul_of_nonneg_right h0.1 (by omega)
   omega
  omega
 rcases Int.le_total 0 n with h | h
 ·have h2 : n * x ≤ n * 131070 := Int.mul_le_mul_of_nonneg_left h1.2 h
  have h3 : n * 131070 ≤ 536870912 * 131070 := Int.mul_le_mul_of_nonneg_right (by omega) (by omega)
  omega
 have := Int.mul_nonpos_of_nonpos_of_nonneg h h1.1
 omega
theorem Zi8 (s a : Int) : OKr A (atR A s a).1 := by
 unfold atR
 rcases Zoz A.segments s a with h | ⟨h1, hp, hk, hi⟩
 ·rw [if_pos h]; exact .z
 rw [if_neg (by omega)]
 generalize (fol A.segments s a).1 = x at *
 by_cases k1 : x.P.Kind = 1
 ·rw [if_pos k1]
  have : pw x.P = x.P.Data + x.P.Ptrs := by unfold pw; rw [if_pos k1]
  rw [this] at hi
  exact .st _ _ _ _ hp.d hp.q hi
 rw [if_neg k1]
 have k2 : x.P.Kind = 2 := by omega
 by_cases c7' : x.P.Code = 7
 ·rw [if_pos c7']
  have hpw : pw x.P = x.P.Count + 1 := by unfold pw; rw [if_neg k1, if_pos c7']
  rw [hpw] at hi
  have ht := Zx7 (wd A.segments x.Segment x.At)
  simp only
  generalize dc (wd A.segments x.Segment x.At) = t at *
  split
  ·exact .z
  rename_i hc
  have hn := hp.n
  have h0 : 0 ≤ t.Off * (t.Data + t.Ptrs) := Int.mul_nonneg (by omega) (by omega)
  have hi' := inB_iff.1 hi
  exact .co _ _ _ _ _ (by omega) (by omega) (by omega) (by omega) (inB_iff.2 ⟨hi'.1, hi'.2.1, hi'.2.2.1, by omega, by omega⟩)
 rw [if_neg c7']
 have hpw : pw x.P = (x.P.Count * wdt x.P.Code + 63) / 64 := by unfold pw; rw [if_neg k1, if_neg c7']
 rw [hpw] at hi
 have hc := hp.c
 exact .li _ _ _ _ (by omega) hp.n (by rw [show x.P.Code + 2 - 2 = x.P.Code by omega]; exact hi)
theorem Zv1 (hw : WS A.segments) (s a : Int) : K3 (some A) s a = some (atR A s a) := by
 unfold K3 atR
 rw [Zu6 hw, Option.bind_some]
 simp only
 rcases Zoz A.segments s a with h | ⟨h1, hp, hk, hi⟩
 ·rw [if_pos h]
  have : cond ((fol A.segments s a).2 != 0) true ((fol A.segments s a).1.P.Kind == 0) = true := by
   rcases h with h | h
   ·rw [bne_iff_ne.2 h]; rfl
   rw [show ((fol A.segments s a).1.P.Kind == 0) = true from by rw [h]; rfl]
   cases ((fol A.segments s a).2 != 0) <;> rfl
  rw [this, cond_true]; rfl
 rw [if_neg (by omega), h1, show ((0 : Int) != 0) = false from rfl, cond_false]
 generalize (fol A.segments s a).1 = x at *
 rw [show (x.P.Kind == 0) = false from Zc6 (by omega), cond_false]
 by_cases k1 : x.P.Kind = 1
 ·rw [if_pos k1, show (x.P.Kind == 1) = true from by rw [k1]; rfl, cond_true]
 rw [if_neg k1, show (x.P.Kind == 1) = false from Zc6 k1, cond_false]
 have hc := hp.c
 by_cases c7' : x.P.Code = 7
 ·rw [if_pos c7', show (x.P.Code == 7) = true from by rw [c7']; rfl, cond_true]
  have hpw : pw x.P = x.P.Count + 1 := by unfold pw; rw [if_neg k1, if_pos c7']
  rw [hpw] at hi
  have hn := hp.n
  have hi' := inB_iff.1 hi
  have hi1 : inB A.segments x.Segment x.At 1 = true := inB_iff.2 ⟨hi'.1, hi'.2.1, hi'.2.2.1, by omega, by omega⟩
  unfold Kk
  simp only
  rw [Zf8 hw, if_pos hi1, Option.bind_some, Zos (Zms hw _ _), Option.bind_some]
  have ht := Zx7 (wd A.segments x.Segment x.At)
  have ho := (Zjj (wd A.segments x.Segment x.At)).o
  generalize dc (wd A.segments x.Segment x.At) = t at *
  have hm := Z2p (n := t.Off) (x := t.Data + t.Ptrs) ho (by omega)
  rw [Q2 (x := t.Data + t.Ptrs) (by omega) (by omega), Q2 (x := t.Off * (t.Data + t.Ptrs)) (by omega) (by omega), Q2 (x := x.P.Code + 2) (by omega) (by omega), c7']
  by_cases hq : (t.Kind ≠ 0 ∧ t.Kind ≠ 1) ∨ t.Off < 0 ∨ x.P.Count < t.Off * (t.Data + t.Ptrs)
  ·rw [if_pos hq]
   have : cond (cond (cond (t.Kind != 0) (t.Kind != 1) false) true (decide (t.Off < 0))) true (decide (x.P.Count < t.Off * (t.Data + t.Ptrs))) = true := by
    rcases hq with ⟨q1, q2⟩ | q | q
    ·rw [bne_iff_ne.2 q1, bne_iff_ne.2 q2]; rfl
    ·rw [decide_eq_true q]; cases (cond (t.Kind != 0) (t.Kind != 1) false) <;> rfl
    rw [decide_eq_true q]; cases (cond (cond (t.Kind != 0) (t.Kind != 1) false) true (decide (t.Off < 0))) <;> rfl
   rw [this, cond_true]; rfl
  rw [if_neg hq]
  have e1 : cond (t.Kind != 0) (t.Kind != 1) false = false := by
   by_cases q0 : t.Kind = 0
   ·rw [show (t.Kind != 0) = false from by rw [q0]; rfl]; rfl
   have q1 : t.Kind = 1 := by omega
   rw [show (t.Kind != 1) = false from by rw [q1]; rfl]
   cases (t.Kind != 0) <;> rfl
  rw [e1, cond_false, show decide (t.Off < 0) = false from by rw [decide_eq_false_iff_not]; omega, cond_false, show decide (x.P.Count < t.Off * (t.Data + t.Ptrs)) = false from by rw [decide_eq_false_iff_not]; omega]
  rfl
 rw [if_neg c7', show (x.P.Code == 7) = false from Zc6 c7', cond_false, Q2 (x := x.P.Code + 2) (by omega) (by omega)]
theorem Zgs (r : Za) : Xt r = some (Yq r) := by
 unfold Xt Yq
 by_cases h : r.kind = 1
 ·rw [if_pos h, show (r.kind == 1) = true from by rw [h]; rfl]; rfl
 rw [if_neg h, show (r.kind == 1) = false from Zc6 h]; rfl
def Kb (A : Ze) (r : Za) (i : Int) : Za × Int :=
 if i < 0 ∨ Yq r ≤ i then (r0, 0)
 else if r.kind = 1 then atR A r.segment (r.at_ + r.words + i)
 else if r.kind = 8 then atR A r.segment (r.at_ + i)
 else if r.kind = 9 then (⟨some A, 1, r.segment, r.at_ + 1 + i * (r.words + r.ptrs), r.words, r.ptrs, 0, 0, 0⟩, 0)
 else (⟨some A, 10, r.segment, r.at_, 0, 0, 0, r.kind - 2, i⟩, 0)
theorem Zbw {r : Za} (h : OKr A r) (i : Int) : OKr A (Kb A r i).1 := by
 unfold Kb
 by_cases hi : i < 0 ∨ Yq r ≤ i
 ·rw [if_pos hi]; exact .z
 rw [if_neg hi]
 by_cases k1 : r.kind = 1
 ·rw [if_pos k1]; exact Zi8 _ _
 rw [if_neg k1]
 by_cases k8 : r.kind = 8
 ·rw [if_pos k8]; exact Zi8 _ _
 rw [if_neg k8]
 by_cases k9 : r.kind = 9
 ·rw [if_pos k9]
  cases h with
  | z => simp [r0] at k9
  | st _ _ _ _ => simp at k1
  | li k s a n hk => simp only at k9; omega
  | at_ => simp at k9
  | co s a d p n hd hp hn hw hin =>
   simp only
   have hi' := inB_iff.1 hin
   simp only [Yq] at hi
   rw [if_neg (by omega)] at hi
   have h1 : 0 ≤ i * (d + p) := Int.mul_nonneg (by omega) (by omega)
   have h2 : (i + 1) * (d + p) ≤ n * (d + p) := Int.mul_le_mul_of_nonneg_right (by omega) (by omega)
   rw [Int.add_mul, Int.one_mul] at h2
   exact .st _ _ _ _ hd hp (inB_iff.2 ⟨hi'.1, hi'.2.1, by omega, by omega, by omega⟩)
 rw [if_neg k9]
 cases h with
 | z => simp [r0, Yq] at hi; omega
 | st _ _ _ _ => simp at k1
 | co => simp at k9
 | at_ => simp [Yq] at hi; omega
 | li k s a n hk hn hin =>
  simp only at k8 k9 ⊢
  simp only [Yq] at hi
  rw [if_neg (by omega)] at hi
  exact .at_ _ _ _ _ n (by omega) (by omega) (by omega) (by omega) hin
theorem Zpd (hw : WS A.segments) {s a n : Int} (h : inB A.segments s a n = true) : 0 ≤ a ∧ 0 ≤ n ∧ a + n ≤ 17592186044416 := by
 have h' := inB_iff.1 h
 have := Zi0 hw s
 omega
theorem Zj3 (hw : WS A.segments) {r : Za} (h : OKr A r) (i : Int) : Xq r i = some (Kb A r i) := by
 unfold Xq Kb
 rw [Zgs]
 have hz : (cond (decide (i < 0)) (some true) ((some (Yq r)).bind fun y4 => some (cond (decide (i < 0)) true (decide (y4 ≤ i))))) = some (decide (i < 0 ∨ Yq r ≤ i)) := by
  by_cases h0 : i < 0
  ·rw [decide_eq_true h0, cond_true, show decide (i < 0 ∨ Yq r ≤ i) = true from decide_eq_true (.inl h0)]
  rw [decide_eq_false h0, cond_false, Option.bind_some, cond_false]
  congr 1
  rw [decide_eq_decide]
  omega
 rw [hz, Option.bind_some]
 by_cases hi : i < 0 ∨ Yq r ≤ i
 ·rw [if_pos hi, decide_eq_true hi]; rfl
 rw [if_neg hi, decide_eq_false hi, cond_false]
 cases h with
 | z => exact absurd hi (by first | (simp [Yq, r0]; done) | (simp [Yq, r0]; omega))
 | at_ => exact absurd hi (by first | (simp [Yq]; done) | (simp [Yq]; omega))
 | st s a d p hd hp hin =>
  have := Zpd hw hin
  simp only [Yq, if_true] at hi
  simp only [beq_self_eq_true, cond_true, if_true]
  rw [Q2 (x := a + d) (by omega) (by omega), Q2 (by omega) (by omega), Zv1 hw]
  rfl
 | co s a d p n hd hp hn hwx hin =>
  have := Zpd hw hin
  simp only [Yq] at hi
  rw [if_neg (by omega)] at hi
  simp only [show ((9 : Int) == 1) = false from rfl, show ((9 : Int) == 8) = false from rfl, show ((9 : Int) == 9) = true from rfl, cond_true, cond_false, show ¬ (9 : Int) = 1 from by decide, show ¬ (9 : Int) = 8 from by decide, if_false, if_true]
  have h1 : 0 ≤ i * (d + p) := Int.mul_nonneg (by omega) (by omega)
  have h2 : (i + 1) * (d + p) ≤ n * (d + p) := Int.mul_le_mul_of_nonneg_right (by omega) (by omega)
  rw [Int.add_mul, Int.one_mul] at h2
  rw [Q2 (x := a + 1) (by omega) (by omega), Q2 (x := d + p) (by omega) (by omega), Q2 (x := i * (d + p)) (by omega) (by omega), Q2 (by omega) (by omega)]
 | li k s a n hk hn hin =>
  have := Zpd hw hin
  simp only [Yq] at hi
  rw [if_neg (by omega)] at hi
  simp only
  rw [show (k == 1) = false from Zc6 (by omega), cond_false, if_neg (by omega), show (k == 9) = false from Zc6 (by omega)]
  by_cases k8 : k = 8
  ·have hp : (n * wdt (k - 2) + 63) / 64 = n := by rw [k8]; simp [wdt]; omega
   rw [show (k == 8) = true from by rw [k8]; rfl, cond_true, if_pos k8, Q2 (by omega) (by omega), Zv1 hw]
   rfl
  rw [show (k == 8) = false from Zc6 k8, cond_false, cond_false, if_neg k8, if_neg (by omega), Q2 (by omega) (by omega)]
def Uv (r : Za) : Int := if r.kind = 1 then r.words else if r.kind = 10 then 1 else 0
theorem Zma (r : Za) : Qv r = some (Uv r) := by
 unfold Qv Uv
 by_cases h : r.kind = 1
 ·rw [if_pos h, show (r.kind == 1) = true from by rw [h]; rfl]; rfl
 rw [if_neg h, show (r.kind == 1) = false from Zc6 h]
 by_cases h' : r.kind = 10
 ·rw [if_pos h', show (r.kind == 10) = true from by rw [h']; rfl]; rfl
 rw [if_neg h', show (r.kind == 10) = false from Zc6 h']; rfl
def Zw6 (w : Int) (c j : Int) : Int := ((w.toNat / 2 ^ (j * wdt c).toNat % 2 ^ (wdt c).toNat : Nat) : Int)
def each (c : Int) : Int := 64 / wdt c
def Zw5 (A : Ze) (r : Za) : Int := if r.code = 0 then 0 else Zw6 (wd A.segments r.segment (r.at_ + r.index / each r.code)) r.code (r.index % each r.code)
theorem c5 {c : Int} (h : 0 ≤ c ∧ c ≤ 5) : c = 0 ∨ c = 1 ∨ c = 2 ∨ c = 3 ∨ c = 4 ∨ c = 5 := by omega
theorem Zmr {c : Int} (h : 0 ≤ c ∧ c ≤ 5) : Vd c = some (wdt c, true) := by
 unfold Vd
 rcases c5 h with rfl | rfl | rfl | rfl | rfl | rfl <;> rfl
theorem Zvh (w : Nat) (k : Nat) (hw : w < 18446744073709551616) (hk : k ≤ 64) : IntKind.u64.wrap (Xr .u64 (w : Int) (IntKind.u64.wrap (IntKind.u64.wrap (1 * 2 ^ min (Int.toNat (k : Int)) 64) - 1))) = ((w % 2 ^ k : Nat) : Int) := by
 have hm : IntKind.u64.wrap (IntKind.u64.wrap (1 * 2 ^ min (Int.toNat (k : Int)) 64) - 1) = ((2 ^ k - 1 : Nat) : Int) := by
  rw [Int.toNat_natCast, Nat.min_eq_left hk, Zno]
  rcases Nat.lt_or_ge k 64 with h | h
  ·have h1 : 2 ^ k ≤ 2 ^ 63 := Nat.pow_le_pow_right (by decide) (by omega)
   have h2 : 0 < 2 ^ k := Nat.pow_pos (by decide)
   rw [Int.one_mul, Zyi (2 ^ k) (by omega), show (((2 ^ k : Nat) : Int) - 1) = ((2 ^ k - 1 : Nat) : Int) by omega, Zyi _ (by omega)]
  have : k = 64 := by omega
  subst this
  decide
 rw [hm]
 have e : Xr .u64 (w : Int) ((2 ^ k - 1 : Nat) : Int) = ((w &&& (2 ^ k - 1) : Nat) : Int) := by
  unfold Xr
  congr 1
  have h1 : 2 ^ k ≤ 2 ^ 64 := Nat.pow_le_pow_right (by decide) hk
  have h2 : 0 < 2 ^ k := Nat.pow_pos (by decide)
  rw [BitVec.toNat_and]
  have e1 : (BitVec.ofInt (IntKind.u64).bits (w : Int)).toNat = w := by
   show (BitVec.ofInt 64 (w : Int)).toNat = w
   rw [BitVec.ofInt_natCast, BitVec.toNat_ofNat]
   exact Nat.mod_eq_of_lt (by omega)
  have e2 : (BitVec.ofInt (IntKind.u64).bits ((2 ^ k - 1 : Nat) : Int)).toNat = 2 ^ k - 1 := by
   show (BitVec.ofInt 64 ((2 ^ k - 1 : Nat) : Int)).toNat = 2 ^ k - 1
   rw [BitVec.ofInt_natCast, BitVec.toNat_ofNat]
   exact Nat.mod_eq_of_lt (by omega)
  rw [e1, e2]
 rw [e, Nat.and_two_pow_sub_one_eq_mod]
 have : w % 2 ^ k ≤ w := Nat.mod_le _ _
 exact IntWalk.u64_in _ (by omega)
theorem Zz3 {w c j : Int} (hw : 0 ≤ w ∧ w < 18446744073709551616) (hc : 1 ≤ c ∧ c ≤ 5) (hj : 0 ≤ j ∧ j < each c) : Zbi [w] c j = some (Zw6 w c j) := by
 unfold Zbi Zw6
 rw [Zmr (by omega), Option.bind_some]
 simp only
 obtain ⟨d, e, hd⟩ : ∃ d : Nat, wdt c = (d : Int) ∧ (d = 1 ∨ d = 8 ∨ d = 16 ∨ d = 32 ∨ d = 64) := by
  rcases c5 (c := c) (by omega) with rfl | rfl | rfl | rfl | rfl | rfl
  ·omega
  ·exact ⟨1, rfl, by omega⟩
  ·exact ⟨8, rfl, by omega⟩
  ·exact ⟨16, rfl, by omega⟩
  ·exact ⟨32, rfl, by omega⟩
  exact ⟨64, rfl, by omega⟩
 have he : each c = ((64 / d : Nat) : Int) := by unfold each; rw [e]; rfl
 have hdd : 64 / d * d = 64 := by rcases hd with rfl | rfl | rfl | rfl | rfl <;> rfl
 have hdp : 1 ≤ d ∧ d ≤ 64 := by omega
 have hep : 1 ≤ 64 / d ∧ 64 / d ≤ 64 := by rcases hd with rfl | rfl | rfl | rfl | rfl <;> decide
 rw [he] at hj
 obtain ⟨q, rfl⟩ : ∃ q : Nat, j = q := ⟨j.toNat, by omega⟩
 have hq : q < 64 / d := by omega
 have hqd : q * d + d ≤ 64 := by
  have : (q + 1) * d ≤ 64 / d * d := Nat.mul_le_mul_right d hq
  rw [Nat.add_mul] at this
  omega
 rw [e]
 have t1 : Int.tdiv 64 (d : Int) = ((64 / d : Nat) : Int) := by rw [Int.tdiv_eq_ediv_of_nonneg (by decide)]; rfl
 have t2 : Int.tdiv (q : Int) ((64 / d : Nat) : Int) = 0 := by
  rw [Int.tdiv_eq_ediv_of_nonneg (by omega), show ((q : Int) / ((64 / d : Nat) : Int)) = ((q / (64 / d) : Nat) : Int) from rfl, Nat.div_eq_of_lt hq]
  rfl
 have t3 : Int.tmod (q : Int) ((64 / d : Nat) : Int) = (q : Int) := by
  rw [Int.tmod_eq_emod_of_nonneg (by omega), show ((q : Int) % ((64 / d : Nat) : Int)) = ((q % (64 / d) : Nat) : Int) from rfl, Nat.mod_eq_of_lt hq]
 rw [t1, Q2 (x := ((64 / d : Nat) : Int)) (by omega) (by omega), t2, t3, show IntKind.i64.wrap 0 = 0 from by decide]
 have t4 : ((q : Int) * (d : Int)) = ((q * d : Nat) : Int) := by simp
 rw [t4, Q2 (x := ((q * d : Nat) : Int)) (by omega) (by omega), show (((d : Nat) : Int) == 0) = false from Zc6 (by omega), show decide ((q : Int) < 0) = false from by rw [decide_eq_false_iff_not]; omega]
 simp only [cond_false]
 have g0 : Jc [w] 0 = some w := rfl
 have e1 : Qs ((d : Int) ≠ 0) = some () := Zaz (by omega)
 have e2 : Qs (((64 / d : Nat) : Int) ≠ 0) = some () := Zaz (by omega)
 have e3 : Qs (0 ≤ ((q * d : Nat) : Int)) = some () := Zaz (by omega)
 have e4 : Qs (0 ≤ (d : Int)) = some () := Zaz (by omega)
 simp only [e1, e2, e3, e4, g0, Option.bind_some, cond_false, show decide ((([w] : List Int).length : Int) ≤ 0) = false from rfl]
 congr 1
 have hwn : w = ((w.toNat : Nat) : Int) := by omega
 have hf : Int.fdiv w (2 ^ min (Int.toNat ((q * d : Nat) : Int)) 64) = ((w.toNat / 2 ^ (q * d) : Nat) : Int) := by
  rw [Int.toNat_natCast, Nat.min_eq_left (by omega), Zno, Int.fdiv_eq_ediv_of_nonneg _ (Int.natCast_nonneg _)]
  conv => lhs; rw [hwn]
  rfl
 rw [hf, Zvh _ d (Nat.lt_of_le_of_lt (Nat.div_le_self _ _) (by omega)) (by omega)]
 rw [Int.toNat_natCast, Int.toNat_natCast]
end
section
variable {A : Ze}
def Zmt (A : Ze) (r : Za) (i : Int) : Int :=
 if i < 0 ∨ Uv r ≤ i then 0 else if r.kind = 10 then Zw5 A r else wd A.segments r.segment (r.at_ + i)
theorem Zy6 {c i n : Int} (hc : 1 ≤ c ∧ c ≤ 5) (h0 : 0 ≤ i) (h1 : i < n) (hn : n < 536870912) : 1 ≤ each c ∧ each c ≤ 64 ∧ 0 ≤ i / each c ∧ i / each c + 1 ≤ (n * wdt c + 63) / 64 ∧ 0 ≤ i % each c ∧ i % each c < each c ∧ Int.tdiv 64 (wdt c) = each c ∧ wdt c ≠ 0 := by
 rcases c5 (c := c) (by omega) with rfl | rfl | rfl | rfl | rfl | rfl
 ·omega
 ·have e1 : each 1 = 64 := by decide
  have e2 : wdt 1 = 1 := by decide
  rw [e1, e2]; exact ⟨by omega, by omega, by omega, by omega, by omega, by omega, by decide, by decide⟩
 ·have e1 : each 2 = 8 := by decide
  have e2 : wdt 2 = 8 := by decide
  rw [e1, e2]; exact ⟨by omega, by omega, by omega, by omega, by omega, by omega, by decide, by decide⟩
 ·have e1 : each 3 = 4 := by decide
  have e2 : wdt 3 = 16 := by decide
  rw [e1, e2]; exact ⟨by omega, by omega, by omega, by omega, by omega, by omega, by decide, by decide⟩
 ·have e1 : each 4 = 2 := by decide
  have e2 : wdt 4 = 32 := by decide
  rw [e1, e2]; exact ⟨by omega, by omega, by omega, by omega, by omega, by omega, by decide, by decide⟩
 have e1 : each 5 = 1 := by decide
 have e2 : wdt 5 = 64 := by decide
 rw [e1, e2]; exact ⟨by omega, by omega, by omega, by omega, by omega, by omega, by decide, by decide⟩
theorem Zvl (hw : WS A.segments) {s a c i n : Int} (hc : 0 ≤ c ∧ c ≤ 5) (h0 : 0 ≤ i) (h1 : i < n) (hn : n < 536870912) (hi : inB A.segments s a ((n * wdt c + 63) / 64) = true) : Jf ⟨some A, 10, s, a, 0, 0, 0, c, i⟩ = some (Zw5 A ⟨some A, 10, s, a, 0, 0, 0, c, i⟩) := by
 unfold Jf Zw5
 simp only
 rw [Zmr hc, Option.bind_some]
 simp only
 by_cases hz : c = 0
 ·subst hz
  rw [show (wdt 0 == 0) = true from by decide, cond_true, if_pos rfl]
 obtain ⟨a1, a2, a3, a4, a5, a6, a7, a8⟩ := Zy6 (c := c) (by omega) h0 h1 hn
 have hr := Zpd hw hi
 have hi' := inB_iff.1 hi
 have hin : inB A.segments s (a + i / each c) 1 = true := inB_iff.2 ⟨hi'.1, hi'.2.1, by omega, by omega, by omega⟩
 rw [show (wdt c == 0) = false from Zc6 a8, cond_false, if_neg hz, a7, Q2 (x := each c) (by omega) (by omega), Int.tdiv_eq_ediv_of_nonneg h0, Int.tmod_eq_emod_of_nonneg h0, Q2 (x := i / each c) (by omega) (by omega), Q2 (x := a + i / each c) (by omega) (by omega)]
 have e1 : Qs (wdt c ≠ 0) = some () := Zaz a8
 have e2 : Qs (each c ≠ 0) = some () := Zaz (by omega)
 simp only [e1, e2, Option.bind_some]
 rw [Zf8 hw, if_pos hin, Option.bind_some]
 simp only
 rw [Zz3 (Zms hw _ _) (by omega) ⟨a5, a6⟩, Option.bind_some]
theorem Zi2 (hw : WS A.segments) {r : Za} (h : OKr A r) (i : Int) : Xu r i = some (Zmt A r i) := by
 unfold Xu Zmt
 rw [Zma]
 have hz : (cond (decide (i < 0)) (some true) ((some (Uv r)).bind fun y4 => some (cond (decide (i < 0)) true (decide (y4 ≤ i))))) = some (decide (i < 0 ∨ Uv r ≤ i)) := by
  by_cases h0 : i < 0
  ·rw [decide_eq_true h0, cond_true, show decide (i < 0 ∨ Uv r ≤ i) = true from decide_eq_true (.inl h0)]
  rw [decide_eq_false h0, cond_false, Option.bind_some, cond_false]
  congr 1
  rw [decide_eq_decide]
  omega
 rw [hz, Option.bind_some]
 by_cases hi : i < 0 ∨ Uv r ≤ i
 ·rw [if_pos hi, decide_eq_true hi]; rfl
 rw [if_neg hi, decide_eq_false hi, cond_false]
 cases h with
 | z => exact absurd hi (by simp [Uv, r0]; try omega)
 | li k s a n hk hn hin => exact absurd hi (by simp only [Uv]; rw [if_neg (by omega), if_neg (by omega)]; omega)
 | co s a d p n hd hp hn hwx hin => exact absurd hi (by simp [Uv]; try omega)
 | at_ s a c i' n hc h0 h1 hn hin =>
  simp only [beq_self_eq_true, cond_true, if_true]
  rw [Zvl hw hc h0 h1 hn hin]
  rfl
 | st s a d p hd hp hin =>
  have := Zpd hw hin
  have hi' := inB_iff.1 hin
  simp only [Uv, if_true] at hi
  simp only [show ((1 : Int) == 10) = false from rfl, cond_false, show ¬ (1 : Int) = 10 from by decide, if_false]
  rw [Q2 (by omega) (by omega), Zf8 hw, if_pos (inB_iff.2 ⟨hi'.1, hi'.2.1, by omega, by omega, by omega⟩)]
  rfl
theorem Zzs (hw : WS A.segments) : Vm (some A) = some (atR A 0 0) := by
 unfold Vm
 rw [Zv1 hw]
 rfl
end
abbrev Tr := Zg
def lvR (r : Za) : Int := if r.kind = 0 then 0 else if r.kind = 9 ∧ 0 < r.count then 2 else 1
def wtR (r : Za) : Int := if r.kind = 0 then 0 else if r.kind = 1 then 1 + r.words + r.ptrs else if r.kind = 9 then 1 + r.count * (1 + r.words + r.ptrs) else 1 + r.count
section
variable {A : Ze}
theorem Z1y (hw : WS A.segments) {r : Za} (h : OKr A r) : 0 ≤ wtR r ∧ wtR r ≤ 4503599627370496 ∧ (r.kind ≠ 0 → 1 ≤ wtR r) := by
 cases h with
 | z => simp [wtR, r0]
 | st s a d p hd hp hin => simp [wtR]; omega
 | li k s a n hk hn hin => simp only [wtR]; rw [if_neg (by omega), if_neg (by omega), if_neg (by omega)]; omega
 | co s a d p n hd hp hn hwx hin =>
  simp only [wtR, show ¬ (9 : Int) = 0 from by decide, show ¬ (9 : Int) = 1 from by decide, if_false, if_true]
  have : n * (1 + d + p) = n + n * (d + p) := by rw [Int.add_assoc, Int.mul_add, Int.mul_one]
  omega
 | at_ s a c i n hc h0 h1 hn hin => simp [wtR]
def Ys (A : Ze) (r : Za) : List Int := if r.kind = 10 then [Zw5 A r] else if r.kind = 1 then ((seg A.segments r.segment).drop r.at_.toNat).take r.words.toNat else []
def J3 (f : Za → Int → Tr × Int × Int) (g : Int → Za × Int) : Nat → Nat → Int → List Tr → List Tr × Int × Int
 | 0, _, left, acc => (acc, left, 0)
 | m + 1, i, left, acc => if (g i).2 ≠ 0 then (acc, left, (g i).2) else if (f (g i).1 left).2.2 ≠ 0 then (acc, (f (g i).1 left).2.1, (f (g i).1 left).2.2) else J3 f g m (i + 1) (f (g i).1 left).2.1 (acc ++ [(f (g i).1 left).1])
def stK (A : Ze) (f : Za → Int → Tr × Int × Int) (k : Za) (left : Int) : Tr × Int × Int :=
 let q := J3 f (Kb A k) k.ptrs.toNat 0 left []
 (⟨1, Ys A k, q.1⟩, q.2)
def Zho (A : Ze) (k : Za) (left : Int) : Tr × Int × Int := (⟨k.kind, Ys A k, []⟩, left, 0)
def Zni (A : Ze) (f1 f2 : Za → Int → Tr × Int × Int) (r : Za) : Za → Int → Tr × Int × Int :=
 if r.kind = 9 then stK A f2 else if r.kind = 1 ∨ r.kind = 8 then f1 else Zho A
def Zkb (A : Ze) (f1 f2 : Za → Int → Tr × Int × Int) (d : Int) (r : Za) (left : Int) : Tr × Int × Int :=
 if r.kind = 0 then (⟨r.kind, Ys A r, []⟩, left, 0)
 else if d < lvR r ∨ left < wtR r then (⟨r.kind, Ys A r, []⟩, left, 3)
 else
  let q := J3 (Zni A f1 f2 r) (Kb A r) (Yq r).toNat 0 (left - wtR r) []
  (⟨r.kind, Ys A r, q.1⟩, q.2)
def bad (_ : Za) (left : Int) : Tr × Int × Int := (⟨0, [], []⟩, left, 3)
def Zip (A : Ze) : Nat → Za → Int → Tr × Int × Int
 | 0 => Zkb A bad bad 0
 | 1 => Zkb A (Zip A 0) bad 1
 | d + 2 => Zkb A (Zip A (d + 1)) (Zip A d) ((d + 2 : Nat) : Int)
def Uy (A : Ze) (k : Nat) (d : Nat) : Za → Int → Tr × Int × Int := if k ≤ d then Zip A (d - k) else bad
theorem Zsx (d : Nat) : Zip A d = Zkb A (Uy A 1 d) (Uy A 2 d) (d : Int) := by
 match d with
 | 0 => rfl
 | 1 => rfl
 | d + 2 =>
  unfold Uy
  rw [if_pos (by omega), if_pos (by omega)]
  rfl
def Lf (A : Ze) (f : Za → Int → Tr × Int × Int) : Prop := ∀ k left, OKr A k → 0 ≤ left → (f k left).2.2 = 0 → 0 ≤ (f k left).2.1 ∧ (f k left).2.1 ≤ left
theorem Ziu {f : Za → Int → Tr × Int × Int} {g : Int → Za × Int} (hf : Lf A f) (hg : ∀ i, OKr A (g i).1) : ∀ (m i : Nat) (left : Int) (acc : List Tr), 0 ≤ left → (J3 f g m i left acc).2.2 = 0 → 0 ≤ (J3 f g m i left acc).2.1 ∧ (J3 f g m i left acc).2.1 ≤ left
 | 0, i, left, acc, h0, _ => ⟨h0, Int.le_refl _⟩
 | m + 1, i, left, acc, h0, h => by
  rw [J3] at h ⊢
  by_cases h1 : (g i).2 ≠ 0
  ·rw [if_pos h1] at h; exact absurd h h1
  rw [if_neg h1] at h ⊢
  by_cases h2 : (f (g i).1 left).2.2 ≠ 0
  ·rw [if_pos h2] at h; exact absurd h h2
  rw [if_neg h2] at h ⊢
  have h2' : (f (g i).1 left).2.2 = 0 := by omega
  obtain ⟨a1, a2⟩ := hf _ _ (hg i) h0 h2'
  obtain ⟨b1, b2⟩ := Ziu hf hg m (i + 1) _ _ a1 h
  exact ⟨b1, by omega⟩
theorem Zrf : Lf A bad := fun k left _ _ h => by simp [bad] at h
theorem Z2n {f : Za → Int → Tr × Int × Int} (hf : Lf A f) : Lf A (stK A f) := fun k left hk h0 h => Ziu hf (fun i => Zbw hk i) _ _ _ _ h0 h
theorem Zwt : Lf A (Zho A) := fun k left _ h0 _ => ⟨h0, Int.le_refl _⟩
theorem Zze {f1 f2 : Za → Int → Tr × Int × Int} (h1 : Lf A f1) (h2 : Lf A f2) (r : Za) : Lf A (Zni A f1 f2 r) := by
 unfold Zni
 split
 ·exact Z2n h2
 split
 ·exact h1
 exact Zwt
theorem Zwu (hw : WS A.segments) {f1 f2 : Za → Int → Tr × Int × Int} (h1 : Lf A f1) (h2 : Lf A f2) (d : Int) : Lf A (Zkb A f1 f2 d) := fun r left hr h0 h => by
 have hwt := Z1y hw hr
 unfold Zkb at h ⊢
 by_cases k0 : r.kind = 0
 ·rw [if_pos k0]; exact ⟨h0, Int.le_refl _⟩
 rw [if_neg k0] at h ⊢
 by_cases hb : d < lvR r ∨ left < wtR r
 ·rw [if_pos hb] at h; simp at h
 rw [if_neg hb] at h ⊢
 have := Ziu (Zze h1 h2 r) (fun i => Zbw hr i) (Yq r).toNat 0 (left - wtR r) [] (by omega) h
 simp only
 omega
theorem Zso (hw : WS A.segments) : ∀ d, Lf A (Zip A d) := fun d => by
 induction d using Nat.strongRecOn with
 | ind d ih =>
  rw [Zsx]
  refine Zwu hw ?_ ?_ _
  ·unfold Uy
   split
   ·exact ih _ (by omega)
   exact Zrf
  unfold Uy
  split
  ·exact ih _ (by omega)
  exact Zrf
end
theorem Zpm {S R : Type} {s1 s2 : S → Option (S ⊕ R)} (h : ∀ s x, s1 s = some x → s2 s = some x) : ∀ (k : Nat) (s : S) (r : R), Kz s1 k s = some r → Kz s2 k s = some r
 | 0, s, r, q => by simp [Kz] at q
 | k + 1, s, r, q => by
  simp only [Kz] at q ⊢
  cases hs : s1 s with
  | none => rw [hs] at q; cases q
  | some x =>
   rw [hs] at q
   rw [h s x hs]
   cases x with
   | inl s' => exact Zpm h k s' r q
   | inr r' => exact q
theorem Zkr {S R : Type} {s1 s2 : S → Option (S ⊕ R)} (h : ∀ s x, s1 s = some x → s2 s = some x) {s : S} {r : R} (q : Zw s1 s = some r) : Zw s2 s = some r := by
 obtain ⟨k, hk⟩ := Zct q
 exact Zdi (Zpm h k s r hk)
theorem J6 {α β : Type} {o o' : Option α} {f f' : α → Option β} (h : ∀ x, o = some x → o' = some x) (hf : ∀ x y, f x = some y → f' x = some y) {r : β} (q : o.bind f = some r) : o'.bind f' = some r := by
 obtain ⟨x, h1, h2⟩ := Option.bind_eq_some_iff.1 q
 rw [h x h1]
 exact hf x r h2
theorem V7 {α : Type} (c : Bool) {a a' b b' : Option α} (h1 : ∀ r, a = some r → a' = some r) (h2 : ∀ r, b = some r → b' = some r) (r : α) (q : cond c a b = some r) : cond c a' b' = some r := by
 cases c with
 | true => exact h1 r q
 | false => exact h2 r q
theorem Zpf {R : Type} {F : Nat → Option R} {r : R} (hm : ∀ k r, F k = some r → F (k + 1) = some r) {K : Nat} (h : F K = some r) : lim F = some r := by
 refine Zrg K fun k hk => ?_
 obtain ⟨d, rfl⟩ : ∃ d, k = K + d := ⟨k - K, by omega⟩
 clear hk
 induction d with
 | zero => exact h
 | succ d ih => exact hm _ _ ih
section
variable {A : Ze}
theorem Zea {r : Za} (h : OKr A r) : 0 ≤ Yq r ∧ Yq r ≤ 1073741824 := by
 cases h with
 | z => simp [Yq, r0]
 | st s a d p hd hp hin => simp only [Yq, if_true]; omega
 | li k s a n hk hn hin => simp only [Yq]; rw [if_neg (by omega)]; omega
 | co s a d p n hd hp hn hwx hin => simp only [Yq]; rw [if_neg (by omega)]; omega
 | at_ s a c i n hc h0 h1 hn hin => simp [Yq]
def LE3 {α β γ δ : Type} (f g : α → β → γ → Option δ) : Prop := ∀ x y z r, f x y z = some r → g x y z = some r
def Zji (x m : Int) : Int := if m < (if x < 0 then 0 else x) then m else (if x < 0 then 0 else x)
def Znl (x : K9) : K9 := ⟨Zji x.Depth 64, Zji x.Weight 65536, Zji x.MaxD 4096, Zji x.MaxOut 131072⟩
theorem Zv2 (x m : Int) (hm : 0 ≤ m) : 0 ≤ Zji x m ∧ Zji x m ≤ m := by unfold Zji; repeat' split; all_goals omega
end
section
variable {A : Ze}
theorem Zwv (hw : WS A.segments) (k d : Nat) : Lf A (Uy A k d) := by
 unfold Uy
 split
 ·exact Zso hw _
 exact Zrf
def Zvt (A : Ze) (x : K9) : Tr × Int × Int :=
 if (atR A 0 0).2 ≠ 0 then (⟨0, [], []⟩, 0, (atR A 0 0).2)
 else
  let q := Zip A (Znl x).Depth.toNat (atR A 0 0).1 (Znl x).Weight
  if q.2.2 ≠ 0 then (⟨0, [], []⟩, 0, q.2.2) else (q.1, (Znl x).Weight - q.2.1, 0)
end
section
variable {A : Ze}
theorem Zk7 (hw : WS A.segments) {r : Za} (h : OKr A r) : ((Ys A r).length : Int) = Uv r := by
 unfold Ys Uv
 cases h with
 | z => rfl
 | li k s a n hk hn hin => simp only; rw [if_neg (by omega), if_neg (by omega), if_neg (by omega), if_neg (by omega)]; rfl
 | co => rfl
 | at_ => rfl
 | st s a d p hd hp hin =>
  have hi' := inB_iff.1 hin
  simp only [show ¬ (1 : Int) = 10 from by decide, if_false, if_true, List.length_take, List.length_drop]
  omega
theorem Zex (hw : WS A.segments) {r : Za} (h : OKr A r) {i : Nat} (hi : i < (Ys A r).length) : (Ys A r)[i] = Zmt A r (i : Int) := by
 have hl := Zk7 hw h
 unfold Zmt
 rw [if_neg (by omega)]
 cases h with
 | z => simp [Ys, r0] at hi
 | li k s a n hk hn hin =>
  have : Ys A ⟨some A, k, s, a, 0, 0, n, 0, 0⟩ = [] := by unfold Ys; rw [if_neg (by simp only; omega), if_neg (by simp only; omega)]
  simp [this] at hi
 | co => simp [Ys] at hi
 | at_ s a c j n hc h0 h1 hn hin =>
  have : i = 0 := by
   simp [Ys] at hi; exact hi
  subst this
  rfl
 | st s a d p hd hp hin =>
  have hi' := inB_iff.1 hin
  have hid : (i : Int) < d := by simp [Uv] at hl; omega
  simp only [Ys, show ¬ (1 : Int) = 10 from by decide, if_false, if_true, List.getElem_take, List.getElem_drop]
  unfold wd
  rw [show (a + (i : Int)).toNat = a.toNat + i by omega, List.getElem?_eq_getElem (by omega)]
  rfl
end
theorem Zbg {t x : Tr} (h : x ∈ t.Kids) : SizeOf.sizeOf x < SizeOf.sizeOf t := by
 obtain ⟨k, w, ks⟩ := t
 have := List.sizeOf_lt_of_mem h
 simp only [Zg.mk.sizeOf_spec]
 simp only at this
 omega
theorem Zpn {α R : Type} (xs : List α) (step : Int → Option (Int ⊕ R)) (p : α → Bool) (e o : R) (hl : (xs.length : Int) ≤ 140737488355328)
  (h1 : ∀ (i : Nat) (x : α), i < xs.length → xs[i]? = some x → x ∈ xs → step i = some (if p x = true then .inr e else .inl (IntKind.i64.wrap ((i : Int) + 1)))) (h2 : step xs.length = some (.inr o)) : Zw step 0 = some (if xs.any p = true then e else o) := by
 have hloop := Zvi xs (fun i (_ : Unit) => i) step (fun _ x => some (if p x = true then .inr e else .inl ())) (fun _ => o) (fun i s x hi hx => by
  rw [h1 i x hi hx (List.mem_of_getElem? hx), Q2 (by omega) (by omega)]
  cases p x <;> rfl) (fun _ => h2) ()
 refine hloop.trans ?_
 rw [Zjo p (fun s _ => s) e (fun _ _ => True) xs.length xs () 0 (by omega) trivial (fun s k x _ _ _ => ⟨by cases p x <;> rfl, fun _ => trivial⟩)]
def tr {α : Type} (p : α → Bool) : List α → List α
 | [] => []
 | x :: xs => match tr p xs with
  | [] => if p x = true then [] else [x]
  | y :: ys => x :: y :: ys
def trN {α : Type} (p : α → Bool) (l : List α) : Nat → Nat
 | 0 => 0
 | n + 1 => match l[n]? with
  | some x => if p x = true then trN p l n else n + 1
  | none => 0
theorem Zik {α : Type} {p : α → Bool} {x : α} (h : p x = true) : ∀ l : List α, tr p (l ++ [x]) = tr p l
 | [] => by simp [tr, h]
 | y :: l => by simp only [List.cons_append, tr, Zik h l]
theorem Zij {α : Type} {p : α → Bool} {x : α} (h : p x = false) : ∀ l : List α, tr p (l ++ [x]) = l ++ [x]
 | [] => by simp [tr, h]
 | y :: l => by
  simp only [List.cons_append, tr, Zij h l]
  cases hl : l ++ [x] with
  | nil => simp at hl
  | cons a b => rfl
theorem Zn5 {α : Type} {p : α → Bool} {l : List α} : ∀ n, n ≤ l.length → l.take (trN p l n) = tr p (l.take n) ∧ trN p l n ≤ n
 | 0, _ => by simp [trN, tr]
 | n + 1, h => by
  have hn : l[n]? = some l[n] := List.getElem?_eq_getElem (by omega)
  have e : l.take (n + 1) = l.take n ++ [l[n]] := by rw [List.take_add_one, hn]; rfl
  obtain ⟨h1, h2⟩ := Zn5 (p := p) (l := l) n (by omega)
  unfold trN
  rw [hn]
  simp only
  split
  ·rename_i hp
   rw [e, Zik hp]
   exact ⟨h1, by omega⟩
  rename_i hp
  rw [e, Zij (by simpa using hp), ← e]
  exact ⟨rfl, Nat.le_refl _⟩
theorem Zcc {α : Type} (p : α → Bool) : ∀ l : List α, (tr p l).length ≤ l.length
 | [] => by simp [tr]
 | x :: l => by
  have := Zcc p l
  simp only [tr]
  split
  ·split <;> simp
  rename_i y ys he
  rw [he] at this
  simp at this ⊢
  omega
theorem Zn7 {α : Type} {p : α → Bool} {x : α} : ∀ {l : List α}, x ∈ tr p l → x ∈ l
 | [], h => by simp [tr] at h
 | y :: l, h => by
  simp only [tr] at h
  split at h
  ·split at h
   ·simp at h
   simp at h; simp [h]
  rename_i z zs he
  rw [← he] at h
  rcases List.mem_cons.1 h with h | h
  ·simp [h]
  exact List.mem_cons_of_mem _ (Zn7 h)
theorem Zyh {α : Type} {p : α → Bool} : ∀ l : List α, tr p (tr p l) = tr p l
 | [] => rfl
 | x :: l => by
  have ih := Zyh (p := p) l
  simp only [tr]
  cases h : tr p l with
  | nil =>
   simp only
   cases hx : p x <;> simp [tr, hx]
  | cons y ys =>
   rw [h] at ih
   simp only [tr] at ih ⊢
   rw [ih]
theorem Zrs {α β : Type} {p : α → Bool} {q : β → Bool} {f : α → β} (h : ∀ x, q (f x) = p x) : ∀ l : List α, tr q (l.map f) = (tr p l).map f
 | [] => rfl
 | x :: l => by
  simp only [List.map_cons, tr, Zrs h l]
  cases tr p l with
  | nil => simp only [List.map_nil, h]; split <;> rfl
  | cons y ys => rfl
theorem Zzf {α : Type} (l : List α) (p : α → Bool) (step : Int → Option (Int ⊕ Int)) (hl : (l.length : Int) ≤ 140737488355328)
  (h0 : step 0 = some (.inr 0)) (h1 : ∀ (n : Nat) (x : α), l[n]? = some x → n < l.length → step ((n + 1 : Nat) : Int) = some (if p x = true then .inl (n : Int) else .inr ((n + 1 : Nat) : Int))) : Zw step (l.length : Int) = some (trN p l l.length : Int) := by
 have key : ∀ n : Nat, n ≤ l.length → Zw step (n : Int) = some (trN p l n : Int) := fun n => by
  induction n with
  | zero => intro _; exact Xa h0
  | succ n ih =>
   intro hn
   have hx : l[n]? = some l[n] := List.getElem?_eq_getElem (by omega)
   have h := h1 n _ hx (by omega)
   unfold trN
   rw [hx]
   simp only
   split
   ·rename_i hp
    rw [if_pos hp] at h
    rw [X1 h]
    exact ih (by omega)
   rename_i hp
   rw [if_neg hp] at h
   exact Xa h
 exact key l.length (Nat.le_refl _)
theorem Zqi {α : Type} {l : List α} {n : Nat} (h : n ≤ l.length) : Zdv l 0 (n : Int) = some (l.take n) := by
 rw [Ztn (by omega) (by omega) (by omega)]
 simp
theorem Z2i {n : Nat} : decide (0 < ((n + 1 : Nat) : Int)) = true := by rw [decide_eq_true_eq]; omega
theorem Zxi {l : List Int} (hl : l.length * 8 ≤ 140737488355328) : Jv l = some (tr (fun x => x == 0) l) := by
 have hloop := Zzf l (fun x => x == 0) (Q4 l) (by omega) (by unfold Q4; rfl) (fun n x hx hn => by
  unfold Q4
  rw [Z2i, cond_true, Q2 (by omega) (by omega)]
  have e : ((n + 1 : Nat) : Int) - 1 = (n : Int) := by omega
  rw [e, X8 hx]
  simp only [Option.bind_some, cond_true]
  cases x == 0 <;> rfl)
 obtain ⟨h1, h2⟩ := Zn5 (p := fun x => x == 0) (l := l) l.length (Nat.le_refl _)
 have h3 := Zcc (fun x => x == 0) l
 unfold Jv
 rw [hloop, Option.bind_some, Zqi h2, Option.bind_some, h1, List.take_length, V6 (by rw [List.length_nil]; omega) (by rw [List.length_nil]; omega)]
 rfl
inductive Bd : Tr → Prop
 | mk (t : Tr) (h1 : t.Words.length * 8 ≤ 140737488355328) (h2 : t.Kids.length * 56 ≤ 140737488355328) (h3 : ∀ w ∈ t.Words, 0 ≤ w ∧ w < 18446744073709551616) (h4 : ∀ k ∈ t.Kids, Bd k) : Bd t
theorem Bd.w {t : Tr} (h : Bd t) : t.Words.length * 8 ≤ 140737488355328 := by cases h; assumption
theorem Bd.k {t : Tr} (h : Bd t) : t.Kids.length * 56 ≤ 140737488355328 := by cases h; assumption
theorem Bd.u {t : Tr} (h : Bd t) : ∀ w ∈ t.Words, 0 ≤ w ∧ w < 18446744073709551616 := by cases h; assumption
theorem Bd.all {t : Tr} (h : Bd t) : ∀ k ∈ t.Kids, Bd k := by cases h; assumption
def nrm (t : Tr) : Tr :=
 if t.Kind = 0 then ⟨0, [], []⟩
 else if t.Kind = 1 then ⟨1, tr (fun x => x == 0) t.Words, tr (fun x => x.Kind == 0) (t.Kids.attach.map fun k => nrm k.1)⟩
 else ⟨t.Kind, t.Words, t.Kids.attach.map fun k => nrm k.1⟩
termination_by SizeOf.sizeOf t
decreasing_by all_goals exact Zbg k.2
theorem Zhc (t : Tr) : nrm t = if t.Kind = 0 then ⟨0, [], []⟩ else if t.Kind = 1 then ⟨1, tr (fun x => x == 0) t.Words, tr (fun x => x.Kind == 0) (t.Kids.map nrm)⟩ else ⟨t.Kind, t.Words, t.Kids.map nrm⟩ := by
 rw [nrm]
 simp only [List.attach_map_val]
theorem Vn (t : Tr) : (nrm t).Kind = t.Kind := by
 rw [Zhc]
 split
 ·rename_i h; exact h.symm
 split
 ·rename_i h; exact h.symm
 rfl
theorem Zil {α : Type} {p : α → Bool} {x : α} {l : List α} (h : tr p l = []) : tr p (x :: l) = if p x = true then [] else [x] := by simp only [tr, h]
theorem Zrr {α : Type} {p : α → Bool} {x : α} {l : List α} (h : tr p l ≠ []) : tr p (x :: l) = x :: tr p l := by
 simp only [tr]
 split
 ·rename_i h'; exact absurd h' h
 rename_i h'; rw [h']
theorem Zsi : ∀ (l : List Tr) (n : Nat) (acc : Int), (l.zipIdx n).foldl (fun a p => if p.1.Kind = 0 then a else ((p.2 + 1 : Nat) : Int)) acc = if (tr (fun x => x.Kind == 0) l).length = 0 then acc else ((n + (tr (fun x => x.Kind == 0) l).length : Nat) : Int)
 | [], n, acc => by simp [tr]
 | x :: l, n, acc => by
  rw [List.zipIdx_cons, List.foldl_cons, Zsi l (n + 1)]
  by_cases h : tr (fun x => x.Kind == 0) l = []
  ·rw [Zil h, h]
   by_cases hx : x.Kind = 0
   ·simp [hx]
   simp [hx]
  have h' : (tr (fun x => x.Kind == 0) l).length ≠ 0 := by simpa using h
  rw [Zrr h, if_neg h', List.length_cons, if_neg (by omega)]
  congr 1
  omega
theorem Zn8 {α : Type} (p : α → Bool) (l : List α) : l.take (tr p l).length = tr p l := by
 obtain ⟨h1, h2⟩ := Zn5 (p := p) (l := l) l.length (Nat.le_refl _)
 rw [List.take_length] at h1
 rw [← h1, List.length_take]
 congr 1
 omega
theorem Zxl {k : Nat} {t : Tr} (hl : t.Kids.length * 56 ≤ 140737488355328) (ih : ∀ x ∈ t.Kids, Yt k x = some (nrm x)) :
  Zw (Xi (Yt k) t) (0, 0, []) = some (if (tr (fun x => x.Kind == 0) (t.Kids.map nrm)).length = 0 then 0 else ((tr (fun x => x.Kind == 0) (t.Kids.map nrm)).length : Int), t.Kids.map nrm) := by
 have key : ∀ (l pre : List Tr) (a : Int), t.Kids = pre ++ l → Zw (Xi (Yt k) t) (a, ((pre.length : Nat) : Int), pre.map nrm) = some (((l.map nrm).zipIdx pre.length).foldl (fun a p => if p.1.Kind = 0 then a else ((p.2 + 1 : Nat) : Int)) a, t.Kids.map nrm) := fun l => by
  induction l with
  | nil =>
   intro pre a hp
   rw [List.append_nil] at hp
   refine Xa ?_
   unfold Xi
   simp only
   rw [hp, Zez, cond_false]
   rfl
  | cons x l ihl =>
   intro pre a hp
   have hx : t.Kids[pre.length]? = some x := by rw [hp, List.getElem?_append_right (Nat.le_refl _), Nat.sub_self]; rfl
   have hi : pre.length < t.Kids.length := by rw [hp]; simp
   have hm : x ∈ t.Kids := List.mem_of_getElem? hx
   have hs : Xi (Yt k) t (a, ((pre.length : Nat) : Int), pre.map nrm) = some (.inl (if x.Kind = 0 then a else ((pre.length + 1 : Nat) : Int), (((pre ++ [x]).length : Nat) : Int), (pre ++ [x]).map nrm)) := by
    unfold Xi
    simp only
    rw [Ze0 hi, cond_true, X8 hx, Option.bind_some, ih x hm, Option.bind_some, V6 (by simp; omega) (by simp; omega), Option.bind_some, Q2 (by omega) (by omega), Vn]
    have e : ((pre.length : Nat) : Int) + 1 = ((pre.length + 1 : Nat) : Int) := by omega
    rw [e]
    by_cases h0 : x.Kind = 0
    ·simp [h0]
    have : (x.Kind != 0) = true := by simp [h0]
    rw [this, cond_true]
    simp [h0]
   rw [X1 hs, ihl (pre ++ [x]) _ (by rw [hp]; simp)]
   simp only [List.map_cons, List.zipIdx_cons, List.foldl_cons, List.length_append, List.length_singleton, Vn]
 have := key t.Kids [] 0 rfl
 rw [Zsi] at this
 simpa using this
theorem Zp9 : ∀ (k : Nat) (t : Tr), Bd t → SizeOf.sizeOf t < k → Yt k t = some (nrm t)
 | 0, t, _, h => by omega
 | k + 1, t, hb, hk => by
  have ih : ∀ x ∈ t.Kids, Yt k x = some (nrm x) := fun x hx => Zp9 k x (hb.all x hx) (by have := Zbg hx; omega)
  have hw := hb.w
  have hkd := hb.k
  show Js (Yt k) t = _
  unfold Js
  rw [Zhc]
  by_cases h0 : t.Kind = 0
  ·rw [if_pos h0, h0]; rfl
  have e0 : (t.Kind == 0) = false := by rw [beq_eq_false_iff_ne]; exact h0
  rw [if_neg h0, e0, cond_false, Zxl hkd ih, Option.bind_some]
  by_cases h1 : t.Kind = 1
  ·have e1 : (t.Kind == 1) = true := by rw [beq_iff_eq]; exact h1
   rw [if_pos h1, e1, cond_true, Zxi hw, Option.bind_some]
   have l1 := Zcc (fun x : Tr => x.Kind == 0) (t.Kids.map nrm)
   have l2 : (if (tr (fun x => x.Kind == 0) (t.Kids.map nrm)).length = 0 then (0 : Int) else ((tr (fun x => x.Kind == 0) (t.Kids.map nrm)).length : Int)) = ((tr (fun x => x.Kind == 0) (t.Kids.map nrm)).length : Int) := by
    split
    ·rename_i h; rw [h]; rfl
    rfl
   simp only [l2]
   rw [Zqi l1, Option.bind_some, Zn8]
  have e1 : (t.Kind == 1) = false := by rw [beq_eq_false_iff_ne]; exact h1
  rw [if_neg h1, e1, cond_false, V6 (by rw [List.length_nil]; omega) (by rw [List.length_nil]; omega)]
  rfl
theorem Zxm {t : Tr} (h : Bd t) : Ub t = some (nrm t) := Zrg (SizeOf.sizeOf t + 1) fun k hk => Zp9 k t h (by omega)
theorem Zw4 : ∀ (n : Nat) (t : Tr), SizeOf.sizeOf t < n → Bd t → Bd (nrm t)
 | 0, t, h, _ => by omega
 | n + 1, t, hn, hb => by
  have ih : ∀ x ∈ t.Kids, Bd (nrm x) := fun x hx => Zw4 n x (by have := Zbg hx; omega) (hb.all x hx)
  have hw := hb.w
  have hk := hb.k
  rw [Zhc]
  split
  ·exact .mk _ (by simp) (by simp) (fun w h => by simp at h) (fun w h => by simp at h)
  split
  ·have l1 := Zcc (fun x : Int => x == 0) t.Words
   have l2 := Zcc (fun x : Tr => x.Kind == 0) (t.Kids.map nrm)
   rw [List.length_map] at l2
   refine .mk _ (by simp only; omega) (Nat.le_trans (Nat.mul_le_mul_right 56 l2) hk) (fun w h => hb.u w (Zn7 h)) (fun x h => ?_)
   obtain ⟨y, hy, rfl⟩ := List.mem_map.1 (Zn7 h)
   exact ih y hy
  refine .mk _ hw (by simp only [List.length_map]; exact hk) hb.u (fun x h => ?_)
  obtain ⟨y, hy, rfl⟩ := List.mem_map.1 h
  exact ih y hy
theorem Bd.nrm {t : Tr} (h : Bd t) : Bd (nrm t) := Zw4 _ t (Nat.lt_succ_self _) h
def eqT (a b : Tr) : Bool := a.Kind == b.Kind && (a.Words == b.Words && (a.Kids.length == b.Kids.length && (a.Kids.attach.zip b.Kids).all fun p => eqT p.1.1 p.2))
termination_by SizeOf.sizeOf a
decreasing_by exact Zbg p.1.2
def eqL : List Tr → List Tr → Bool
 | [], [] => true
 | x :: xs, y :: ys => eqT x y && eqL xs ys
 | _, _ => false
theorem Zuz : ∀ (l m : List Tr) (P : Tr → Prop) (l' : List {x // P x}), l'.map (·.1) = l → (l.length == m.length && (l'.zip m).all fun p => eqT p.1.1 p.2) = eqL l m
 | [], [], P, l', h => by cases l' <;> simp_all [eqL]
 | [], y :: m, P, l', h => by cases l' <;> simp_all [eqL]
 | x :: l, [], P, l', h => by cases l' <;> simp_all [eqL]
 | x :: l, y :: m, P, l', h => by
  cases l' with
  | nil => simp at h
  | cons z l' =>
   simp only [List.map_cons, List.cons.injEq] at h
   have ih := Zuz l m P l' h.2
   simp only [List.length_cons, List.zip_cons_cons, List.all_cons, eqL, h.1]
   rw [← ih]
   have : (l.length + 1 == m.length + 1) = (l.length == m.length) := by simp
   rw [this]
   cases l.length == m.length <;> cases eqT x y <;> rfl
theorem Zjm (a b : Tr) : eqT a b = (a.Kind == b.Kind && (a.Words == b.Words && eqL a.Kids b.Kids)) := by
 rw [eqT, Zuz a.Kids b.Kids (· ∈ a.Kids) a.Kids.attach (by simp)]
theorem Zjl (x y : Tr) (xs ys : List Tr) : eqL (x :: xs) (y :: ys) = (eqT x y && eqL xs ys) := rfl
theorem Zlu : ∀ (n : Nat) (a b : Tr), SizeOf.sizeOf a < n → (eqT a b = true ↔ a = b)
 | 0, a, b, h => by omega
 | n + 1, a, b, hn => by
  have ih : ∀ x ∈ a.Kids, ∀ y, eqT x y = true ↔ x = y := fun x hx y => Zlu n x y (by have := Zbg hx; omega)
  have hl : ∀ (l m : List Tr), (∀ x ∈ l, x ∈ a.Kids) → (eqL l m = true ↔ l = m) := fun l => by
   induction l with
   | nil => intro m _; cases m <;> simp [eqL]
   | cons x l ihl =>
    intro m hm
    cases m with
    | nil => simp [eqL]
    | cons y m => rw [Zjl, Bool.and_eq_true, ih x (hm x (.head _)) y, ihl m (fun z hz => hm z (.tail _ hz)), List.cons.injEq]
  rw [Zjm, Bool.and_eq_true, Bool.and_eq_true, hl a.Kids b.Kids (fun x hx => hx), beq_iff_eq, beq_iff_eq]
  obtain ⟨k, w, ks⟩ := a
  obtain ⟨k', w', ks'⟩ := b
  simp
theorem eqT_iff {a b : Tr} : eqT a b = true ↔ a = b := Zlu _ a b (Nat.lt_succ_self _)
theorem Zv7 (a : Tr) : eqT a a = true := eqT_iff.2 rfl
theorem Zv6 (a b : Tr) : eqT a b = eqT b a := by
 rw [Bool.eq_iff_iff, eqT_iff, eqT_iff]; exact ⟨Eq.symm, Eq.symm⟩
theorem Zv0 : ∀ (a b : List Int), a.length = b.length → (a.zip b).any (fun p => p.1 != p.2) = !(a == b)
 | [], [], _ => rfl
 | [], _ :: _, h => by simp at h
 | _ :: _, [], h => by simp at h
 | x :: a, y :: b, h => by
  have ih := Zv0 a b (by simpa using h)
  rw [List.zip_cons_cons, List.any_cons, ih]
  by_cases hxy : x = y
  ·subst hxy; simp
  simp [bne, hxy]
theorem Zka {R : Type} (a b : List Int) (step : Int → Option (Int ⊕ R)) (e o : R) (hab : a.length = b.length) (hl : (a.length : Int) ≤ 140737488355328)
  (h1 : ∀ (i : Nat) (x y : Int), i < a.length → a[i]? = some x → b[i]? = some y → step i = some (if (x != y) = true then .inr e else .inl (IntKind.i64.wrap ((i : Int) + 1)))) (h2 : step a.length = some (.inr o)) :
  Zw step 0 = some (if (a == b) = true then o else e) := by
 have hz : (a.zip b).length = a.length := by rw [List.length_zip]; omega
 have := Zpn (a.zip b) step (fun p => p.1 != p.2) e o (by rw [hz]; exact hl) (fun i p hi hp hm => by
  rw [hz] at hi
  have ha : a[i]? = some a[i] := List.getElem?_eq_getElem hi
  have hb : b[i]? = some b[i] := List.getElem?_eq_getElem (by omega)
  have : p = (a[i], b[i]) := by
   rw [List.getElem?_eq_getElem (by rw [hz]; exact hi)] at hp
   injection hp with hp
   rw [← hp, List.getElem_zip]
  subst this
  exact h1 i _ _ hi ha hb) (by rw [hz]; exact h2)
 rw [this, Zv0 a b hab]
 cases a == b <;> rfl
theorem Zj7 {a b : Nat} : ((a : Int) != (b : Int)) = !(a == b) := by
 rw [Bool.eq_iff_iff]; simp; omega
theorem Zmx {a b : List Int} (h : ¬ a.length = b.length) : (a == b) = false := by
 rw [beq_eq_false_iff_ne]; intro e; exact h (by rw [e])
theorem Zxo {a b : List Int} (h : (a.length : Int) ≤ 140737488355328) : Ju a b = some (a == b) := by
 unfold Ju
 rw [Zj7]
 by_cases hab : a.length = b.length
 ·have : (!(a.length == b.length)) = false := by simp [hab]
  rw [this, cond_false, Zka a b (Q3 a b) (.inl ()) (.inr ()) hab h (fun i x y hi hx hy => by
   unfold Q3
   rw [Ze0 hi, cond_true, X8 hx, Option.bind_some, X8 hy, Option.bind_some]
   cases x != y <;> rfl) (by unfold Q3; rw [Zez]; rfl)]
  cases a == b <;> rfl
 have : (!(a.length == b.length)) = true := by simp [hab]
 rw [this, cond_true, Zmx hab]
theorem Zz6 (q : Tr → Tr → Bool) : ∀ (a b : List Tr), (a.zip b).any (fun p => !q p.1 p.2) = !((a.zip b).all fun p => q p.1 p.2)
 | [], b => by simp
 | x :: a, [] => by simp
 | x :: a, y :: b => by rw [List.zip_cons_cons, List.any_cons, Zz6 q a b, List.all_cons]; cases q x y <;> rfl
theorem Zvj {R : Type} (a b : List Tr) (q : Tr → Tr → Bool) (step : Int → Option (Int ⊕ R)) (e o : R) (hab : a.length = b.length) (hl : (a.length : Int) ≤ 140737488355328)
  (h1 : ∀ (i : Nat) (x y : Tr), i < a.length → a[i]? = some x → b[i]? = some y → x ∈ a → y ∈ b → step i = some (if (!q x y) = true then .inr e else .inl (IntKind.i64.wrap ((i : Int) + 1)))) (h2 : step a.length = some (.inr o)) :
  Zw step 0 = some (if ((a.zip b).all fun p => q p.1 p.2) = true then o else e) := by
 have hz : (a.zip b).length = a.length := by rw [List.length_zip]; omega
 have := Zpn (a.zip b) step (fun p => !q p.1 p.2) e o (by rw [hz]; exact hl) (fun i p hi hp hm => by
  rw [hz] at hi
  have ha : a[i]? = some a[i] := List.getElem?_eq_getElem hi
  have hb : b[i]? = some b[i] := List.getElem?_eq_getElem (by omega)
  have : p = (a[i], b[i]) := by
   rw [List.getElem?_eq_getElem (by rw [hz]; exact hi)] at hp
   injection hp with hp
   rw [← hp, List.getElem_zip]
  subst this
  exact h1 i _ _ hi ha hb (List.getElem_mem _) (List.getElem_mem _)) (by rw [hz]; exact h2)
 rw [this, Zz6 q a b]
 cases (a.zip b).all fun p => q p.1 p.2 <;> rfl
theorem Zon : ∀ (a b : List Tr), a.length = b.length → ((a.zip b).all fun p => eqT p.1 p.2) = eqL a b
 | [], [], _ => rfl
 | [], _ :: _, h => by simp at h
 | _ :: _, [], h => by simp at h
 | x :: a, y :: b, h => by
  have ih := Zon a b (by simpa using h)
  rw [List.zip_cons_cons, List.all_cons, ih]; rfl
theorem Zmz : ∀ (a b : List Tr), a.length ≠ b.length → eqL a b = false
 | [], [], h => by simp at h
 | [], _ :: _, _ => rfl
 | _ :: _, [], _ => rfl
 | x :: a, y :: b, h => by rw [Zjl, Zmz a b (by simpa using h), Bool.and_false]
theorem Zti : ∀ (k : Nat) (a b : Tr), Bd a → Bd b → SizeOf.sizeOf a < k → X3 k a b = some (eqT a b)
 | 0, a, b, _, _, h => by omega
 | k + 1, a, b, ha, hb, hk => by
  have ih : ∀ x ∈ a.Kids, ∀ y ∈ b.Kids, X3 k x y = some (eqT x y) := fun x hx y hy => Zti k x y (ha.all x hx) (hb.all y hy) (by have := Zbg hx; omega)
  have hw := ha.w
  have hkd := ha.k
  show Jt (X3 k) a b = _
  unfold Jt
  rw [Zjm, Zxo (by omega), Option.bind_some, Zj7]
  by_cases h0 : a.Kind = b.Kind
  ·have e0 : (a.Kind != b.Kind) = false := by simp [h0]
   have e1 : (a.Kind == b.Kind) = true := by simp [h0]
   rw [e0, e1, cond_false, cond_false, Option.bind_some, Bool.true_and]
   cases hw' : a.Words == b.Words with
   | false => rfl
   | true =>
    rw [Bool.not_true, cond_false, Bool.true_and]
    by_cases hab : a.Kids.length = b.Kids.length
    ·have : (!(a.Kids.length == b.Kids.length)) = false := by simp [hab]
     rw [this, cond_false, Zvj a.Kids b.Kids eqT (Q0 (X3 k) a b) (.inl ()) (.inr ()) hab (by omega) (fun i x y hi hx hy hmx hmy => by
      unfold Q0
      rw [Ze0 hi, cond_true, X8 hx, Option.bind_some, X8 hy, Option.bind_some, ih x hmx y hmy, Option.bind_some]
      cases eqT x y <;> rfl) (by unfold Q0; rw [Zez]; rfl)]
     rw [Zon a.Kids b.Kids hab]
     cases eqL a.Kids b.Kids <;> rfl
    have : (!(a.Kids.length == b.Kids.length)) = true := by simp [hab]
    rw [this, cond_true, Zmz _ _ hab]
  have e0 : (a.Kind != b.Kind) = true := by simp [h0]
  have e1 : (a.Kind == b.Kind) = false := by simp [h0]
  rw [e0, e1]; rfl
theorem Zzt {a b : Tr} (ha : Bd a) (hb : Bd b) : Uc a b = some (eqT a b) := Zrg (SizeOf.sizeOf a + 1) fun k hk => Zti k a b ha hb (by omega)
theorem Zps {t : Tr} (h : t.Kind = 0) : nrm t = ⟨0, [], []⟩ := by rw [Zhc, if_pos h]
theorem Zc8 {t : Tr} (h : t.Kind = 1) : nrm t = ⟨1, tr (fun x => x == 0) t.Words, tr (fun x => x.Kind == 0) (t.Kids.map nrm)⟩ := by rw [Zhc, if_neg (by rw [h]; decide), if_pos h]
theorem Zck {t : Tr} (h0 : ¬ t.Kind = 0) (h1 : ¬ t.Kind = 1) : nrm t = ⟨t.Kind, t.Words, t.Kids.map nrm⟩ := by rw [Zhc, if_neg h0, if_neg h1]
theorem Zsg {α : Type} {f : α → Nat} {x : α} : ∀ {l : List α}, x ∈ l → f x ≤ (l.map f).sum
 | y :: l, h => by
  simp only [List.map_cons, List.sum_cons]
  rcases List.mem_cons.1 h with rfl | h
  ·omega
  have := Zsg (f := f) h
  omega
theorem Zyg {α : Type} (p : α → Bool) (f : α → Nat) : ∀ l : List α, ((tr p l).map f).sum ≤ (l.map f).sum
 | [] => by simp [tr]
 | x :: l => by
  have ih := Zyg p f l
  simp only [tr]
  split
  ·split <;> simp
  rename_i y ys he
  rw [he] at ih
  simp only [List.map_cons, List.sum_cons] at ih ⊢
  omega
section
variable {A : Ze}
theorem Zhm {r : Za} (h : OKr A r) : (Ys A r).length ≤ 65536 := by
 unfold Ys
 cases h with
 | z => simp [r0]
 | st s a d p hd hp hin => simp only [show ¬ (1 : Int) = 10 from by decide, if_false, if_true, List.length_take]; omega
 | li k s a n hk hn hin => simp only; rw [if_neg (by omega), if_neg (by omega)]; simp
 | co => simp
 | at_ => simp
end
section
variable {A : Ze}
theorem Z2l {r : Za} (h : r.kind = 9) {i : Int} (hi : 0 ≤ i ∧ i < Yq r) : Kb A r i = (⟨some A, 1, r.segment, r.at_ + 1 + i * (r.words + r.ptrs), r.words, r.ptrs, 0, 0, 0⟩, 0) := by
 unfold Kb
 rw [if_neg (by omega), if_neg (by omega), if_neg (by omega), if_pos h]
theorem Z2k {r : Za} (h : 2 ≤ r.kind ∧ r.kind ≤ 7) {i : Int} (hi : 0 ≤ i ∧ i < Yq r) : Kb A r i = (⟨some A, 10, r.segment, r.at_, 0, 0, 0, r.kind - 2, i⟩, 0) := by
 unfold Kb
 rw [if_neg (by omega), if_neg (by omega), if_neg (by omega), if_neg (by omega)]
end
def Zlx {α σ : Type} (f : σ → Nat → α → σ) : σ → Nat → List α → σ
 | s, _, [] => s
 | s, i, x :: xs => Zlx f (f s i x) (i + 1) xs
theorem Znn {α σ S R : Type} (xs : List α) (pack : Int → σ → S) (out : σ → R) (step : S → Option (S ⊕ R)) (f : σ → Nat → α → σ) (I : Nat → σ → Prop) (hl : (xs.length : Int) ≤ 140737488355328)
  (h1 : ∀ (i : Nat) (s : σ) (x : α), i < xs.length → xs[i]? = some x → x ∈ xs → I i s → step (pack i s) = some (.inl (pack (IntKind.i64.wrap ((i : Int) + 1)) (f s i x))) ∧ I (i + 1) (f s i x))
  (h2 : ∀ s, I xs.length s → step (pack xs.length s) = some (.inr (out s))) (s : σ) (h0 : I 0 s) : Zw step (pack 0 s) = some (out (Zlx f s 0 xs)) ∧ I xs.length (Zlx f s 0 xs) := by
 have key : ∀ (l pre : List α) (s : σ), xs = pre ++ l → I pre.length s → Zw step (pack (pre.length : Nat) s) = some (out (Zlx f s pre.length l)) ∧ I xs.length (Zlx f s pre.length l) := fun l => by
  induction l with
  | nil =>
   intro pre s hp hi
   rw [List.append_nil] at hp
   subst hp
   exact ⟨Xa (h2 s hi), hi⟩
  | cons x l ih =>
   intro pre s hp hI
   have hx : xs[pre.length]? = some x := by rw [hp, List.getElem?_append_right (Nat.le_refl _), Nat.sub_self]; rfl
   have hi : pre.length < xs.length := by rw [hp]; simp
   obtain ⟨a, b⟩ := h1 pre.length s x hi hx (List.mem_of_getElem? hx) hI
   rw [Q2 (by omega) (by omega)] at a
   have := ih (pre ++ [x]) (f s pre.length x) (by rw [hp]; simp) (by rw [List.length_append, List.length_singleton]; exact b)
   rw [List.length_append, List.length_singleton] at this
   exact ⟨(X1 a).trans this.1, this.2⟩
 exact key xs [] s rfl h0
def nd (t : Tr) : Nat := 1 + (t.Kids.attach.map fun k => nd k.1).sum
termination_by SizeOf.sizeOf t
decreasing_by exact Zbg k.2
theorem Zh6 (t : Tr) : nd t = 1 + (t.Kids.map nd).sum := by
 rw [nd]
 simp
def ndl (l : List Tr) : Nat := (l.map nd).sum
end Go.Proofs.Ytgffgbdnbjbmoaa
