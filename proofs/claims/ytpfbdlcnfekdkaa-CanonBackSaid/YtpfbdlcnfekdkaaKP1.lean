/- Plain facts on this seat's mirrors (part KP1); each theorem bears its own conditions. -/
import Derived.Test.YtpfbdlcnfekdkaaKD
import Derived.Test.YtpfbdlcnfekdkaaKE
import Derived.IntWalk
namespace Go.Proofs.Ytpfbdlcnfekdkaa
open Go.RowKit
set_option linter.unusedVariables false
set_option linter.unusedSimpArgs false
theorem Qq {a b : Int} (h : ¬ a = b) : (a == b) = false := by simp [h]
def Zox (w : Nat) : Int := if w / 4 % 1073741824 < 536870912 then ((w / 4 % 1073741824 : Nat) : Int) else ((w / 4 % 1073741824 : Nat) : Int) - 1073741824
def Zg5 (w : Nat) : Zy :=
  if w = 0 then ⟨0, 0, 0, 0, 0, 0, 0, false⟩
  else if w % 4 = 0 then ⟨1, Zox w, (w / 4294967296 % 65536 : Nat), (w / 281474976710656 % 65536 : Nat), 0, 0, 0, false⟩
  else if w % 4 = 1 then ⟨2, Zox w, 0, 0, (w / 4294967296 % 8 : Nat), (w / 34359738368 % 536870912 : Nat), 0, false⟩
  else if w % 4 = 2 then ⟨3, (w / 8 % 536870912 : Nat), 0, 0, 0, 0, (w / 4294967296 % 4294967296 : Nat), decide (w / 4 % 2 = 1)⟩
  else ⟨4, 0, 0, 0, 0, 0, 0, false⟩
theorem Zzq (b : Nat) : ((2 : Int) ^ b) = ((2 ^ b : Nat) : Int) := by simp
theorem Zoh (w f b : Nat) (hw : w < 18446744073709551616) (hf : f < 64) (hb : b ≤ 40) : Qd w f b = some ((w / 2 ^ f % 2 ^ b : Nat) : Int) := by
  unfold Qd Xi
  rw [if_pos (Int.natCast_nonneg _), if_pos (Int.natCast_nonneg _)]
  simp only [Option.bind_some, Option.some.injEq]
  have hp : (2 : Nat) ^ b ≤ 1099511627776 := by have := Nat.pow_le_pow_right (n := 2) (by decide) hb; simpa using this
  have h1 : 0 < (2 : Nat) ^ b := Nat.pow_pos (by decide)
  have e1 : (min ((f : Int).toNat) 64) = f := by omega
  have e2 : (min ((b : Int).toNat) 64) = b := by omega
  have hd : w / 2 ^ f < 18446744073709551616 := Nat.lt_of_le_of_lt (Nat.div_le_self _ _) hw
  have e3 : ((w : Int).fdiv ((2 ^ f : Nat) : Int)) = ((w / 2 ^ f : Nat) : Int) := by
    rw [Int.fdiv_eq_ediv_of_nonneg _ (Int.natCast_nonneg _), Int.natCast_ediv]
  rw [e1, e2, Zzq, Zzq, e3]
  clear e3
  generalize hq : 2 ^ b = q at *
  generalize w / 2 ^ f = x at *
  rw [Int.one_mul, IntWalk.u64_in (q : Int) (by omega), IntWalk.u64_in ((q : Int) - 1) (by omega)]
  have e4 : ((q : Int) - 1) = ((q - 1 : Nat) : Int) := by omega
  rw [e4, Z4a _ _ hd (by omega), ← hq, Nat.and_two_pow_sub_one_eq_mod, hq]
  have : x % q < q := Nat.mod_lt _ h1
  rw [IntWalk.u64_in _ (by omega), IntWalk.i64_in _ (by omega)]
theorem Yb7 (w : Nat) (hw : w < 18446744073709551616) : IntKind.i64.wrap ((IntKind.i32.wrap (IntKind.u32.wrap (w : Int))).fdiv (2 ^ min (Int.toNat 2) 32)) = Zox w := by
  have e : (2 : Int) ^ min (Int.toNat 2) 32 = 4 := by decide
  rw [e, Int.fdiv_eq_ediv_of_nonneg _ (by decide), IntKind.wrap_u32, IntKind.wrap_i32]
  unfold Zox
  rw [IntWalk.i64_in _ (by omega)]
  split <;> omega
theorem Z8u (w : Nat) (hw : w < 18446744073709551616) : Zef w = some (Zox w) := congrArg some (Yb7 w hw)
theorem Yd6 (w : Nat) (hw : w < 18446744073709551616) : IntKind.u64.wrap (Zb2 .u64 w 3) = ((w % 4 : Nat) : Int) := by
  have := Z4a w 3 hw (by decide)
  rw [show ((3 : Nat) : Int) = 3 from rfl] at this
  rw [this, show (3 : Nat) = 2 ^ 2 - 1 from rfl, Nat.and_two_pow_sub_one_eq_mod, IntWalk.u64_in _ (by omega)]
theorem Yd7 (w : Nat) (hw : w < 18446744073709551616) : (IntKind.u64.wrap (Zb2 .u64 ((w : Int).fdiv (2 ^ min (Int.toNat 2) 64)) 1) == 1) = decide (w / 4 % 2 = 1) := by
  have e1 : (2 : Int) ^ min (Int.toNat 2) 64 = 4 := by decide
  have e2 : ((w : Int).fdiv 4) = ((w / 4 : Nat) : Int) := by rw [Int.fdiv_eq_ediv_of_nonneg _ (by decide)]; rfl
  have e3 := Z4a (w / 4) 1 (by omega) (by decide)
  rw [show ((1 : Nat) : Int) = 1 from rfl, Nat.and_one_is_mod] at e3
  rw [e1, e2, e3, IntWalk.u64_in _ (by omega)]
  by_cases h : w / 4 % 2 = 1
  · rw [h]; decide
  have : w / 4 % 2 = 0 := by omega
  rw [this]; decide
theorem Yaa (a : Nat) (b : Nat) : ((a : Int) == (b : Int)) = decide (a = b) := by
  by_cases h : a = b
  · subst h; simp
  simp [h, Int.natCast_inj]
theorem Z0w (w : Nat) (hw : w < 18446744073709551616) : Kc w = some (Zg5 w) := by
  unfold Kc
  have f1 : Qd w 32 16 = _ := Zoh w 32 16 hw (by decide) (by decide)
  have f2 : Qd w 48 16 = _ := Zoh w 48 16 hw (by decide) (by decide)
  have f3 : Qd w 32 3 = _ := Zoh w 32 3 hw (by decide) (by decide)
  have f4 : Qd w 35 29 = _ := Zoh w 35 29 hw (by decide) (by decide)
  have f5 : Qd w 3 29 = _ := Zoh w 3 29 hw (by decide) (by decide)
  have f6 : Qd w 32 32 = _ := Zoh w 32 32 hw (by decide) (by decide)
  have c0 : ((w : Int) == 0) = _ := Yaa w 0
  have c1 : (((w % 4 : Nat) : Int) == 0) = _ := Yaa (w % 4) 0
  have c2 : (((w % 4 : Nat) : Int) == 1) = _ := Yaa (w % 4) 1
  have c3 : (((w % 4 : Nat) : Int) == 2) = _ := Yaa (w % 4) 2
  rw [Yd6 w hw, Z8u w hw, f1, f2, f3, f4, f5, f6, Yd7 w hw, c0, c1, c2, c3]
  simp only [Option.bind_some]
  unfold Zg5
  by_cases h0 : w = 0
  · simp [h0]
  by_cases h1 : w % 4 = 0
  · simp [h0, h1]
  by_cases h2 : w % 4 = 1
  · simp [h0, h2]
  by_cases h3 : w % 4 = 2
  · simp [h0, h3]
  simp [h0, h1, h2, h3]
theorem Zm6 (k a b : Nat) (h : a < 2 ^ k) : a ||| (b * 2 ^ k) = a + b * 2 ^ k := by
  rw [Nat.or_comm, Nat.mul_comm, ← Nat.two_pow_add_eq_or_of_lt h, Nat.add_comm]
def Zzn (p : Zy) : Int :=
  if p.Kind = 1 then IntKind.u64.wrap (Zbw .u64 (IntKind.u64.wrap (Zbw .u64 (IntKind.u64.wrap (IntKind.u32.wrap (IntKind.u32.wrap p.Off * 2 ^ min (Int.toNat 2) 32))) (IntKind.u64.wrap (IntKind.u64.wrap p.Data * 2 ^ min (Int.toNat 32) 64)))) (IntKind.u64.wrap (IntKind.u64.wrap p.Ptrs * 2 ^ min (Int.toNat 48) 64)))
  else if p.Kind = 2 then IntKind.u64.wrap (Zbw .u64 (IntKind.u64.wrap (Zbw .u64 (IntKind.u64.wrap (Zbw .u64 1 (IntKind.u64.wrap (IntKind.u32.wrap (IntKind.u32.wrap p.Off * 2 ^ min (Int.toNat 2) 32))))) (IntKind.u64.wrap (IntKind.u64.wrap p.Code * 2 ^ min (Int.toNat 32) 64)))) (IntKind.u64.wrap (IntKind.u64.wrap p.Count * 2 ^ min (Int.toNat 35) 64)))
  else if p.Kind = 3 then
    if p.Double = true then IntKind.u64.wrap (Zbw .u64 (IntKind.u64.wrap (Zbw .u64 (IntKind.u64.wrap (Zbw .u64 2 (IntKind.u64.wrap (IntKind.u64.wrap p.Off * 2 ^ min (Int.toNat 3) 64)))) (IntKind.u64.wrap (IntKind.u64.wrap p.Segment * 2 ^ min (Int.toNat 32) 64)))) 4)
    else IntKind.u64.wrap (Zbw .u64 (IntKind.u64.wrap (Zbw .u64 2 (IntKind.u64.wrap (IntKind.u64.wrap p.Off * 2 ^ min (Int.toNat 3) 64)))) (IntKind.u64.wrap (IntKind.u64.wrap p.Segment * 2 ^ min (Int.toNat 32) 64)))
  else 0
theorem Ycx (p : Zy) : Zjv p = some (Zzn p) := by
  unfold Zjv Zzn
  by_cases h1 : p.Kind = 1
  · simp [h1]
  by_cases h2 : p.Kind = 2
  · simp [h2]
  by_cases h3 : p.Kind = 3
  · by_cases hd : p.Double = true <;> simp [h3, hd]
  simp [h1, h2, h3, Qq h1, Qq h2, Qq h3]
theorem Z0h (x : Int) : ∃ w : Nat, IntKind.u64.wrap x = (w : Int) ∧ w < 18446744073709551616 := by
  refine ⟨(x % 18446744073709551616).toNat, ?_, by omega⟩
  simp [IntKind.wrap, IntKind.bits, IntKind.signed]
  omega
theorem Z8g (p : Zy) : ∃ w : Nat, Zzn p = (w : Int) ∧ w < 18446744073709551616 := by
  unfold Zzn
  split
  · exact Z0h _
  split
  · exact Z0h _
  split
  · split <;> exact Z0h _
  exact ⟨0, rfl, by decide⟩
theorem Z9t (x : Nat) (h : x < 18446744073709551616) : IntKind.u64.wrap (x : Int) = (x : Int) := IntWalk.u64_in _ (by omega)
theorem Z9s (w : Nat) : IntKind.u64.wrap (IntKind.u32.wrap (IntKind.u32.wrap (Zox w) * 2 ^ min (Int.toNat 2) 32)) = ((w / 4 % 1073741824 * 2 ^ 2 : Nat) : Int) := by
  have e : (2 : Int) ^ min (Int.toNat 2) 32 = 4 := by decide
  rw [e, IntKind.wrap_u32, IntKind.wrap_u32]
  unfold Zox
  rw [IntWalk.u64_in _ (by omega)]
  split <;> omega
theorem Zkx (x y : Nat) (hx : x < 18446744073709551616) (hy : y < 18446744073709551616) : IntKind.u64.wrap (Zbw .u64 x y) = ((x ||| y : Nat) : Int) := by
  rw [Ycz x y hx hy, Z9t _ (by have := Nat.or_lt_two_pow (n := 64) (show x < 2 ^ 64 by omega) (show y < 2 ^ 64 by omega); omega)]
theorem Zy0 (x k : Nat) (hx : x < 18446744073709551616) (hk : k ≤ 64) (h : x * 2 ^ k < 18446744073709551616) : IntKind.u64.wrap (IntKind.u64.wrap (x : Int) * 2 ^ min (Int.toNat (k : Int)) 64) = ((x * 2 ^ k : Nat) : Int) := by
  have e : min (Int.toNat (k : Int)) 64 = k := by omega
  have e2 : ((x : Int) * (2 : Int) ^ k) = ((x * 2 ^ k : Nat) : Int) := by simp
  rw [Z9t x hx, e, e2, Z9t _ h]
theorem Yah (w : Nat) (hw : w < 18446744073709551616) (h3 : ¬ (Zg5 w).Kind = 4) : Zzn (Zg5 w) = (w : Int) := by
  by_cases h0 : w = 0
  · subst h0; rfl
  by_cases h1 : w % 4 = 0
  · have e : Zg5 w = ⟨1, Zox w, (w / 4294967296 % 65536 : Nat), (w / 281474976710656 % 65536 : Nat), 0, 0, 0, false⟩ := by simp [Zg5, h0, h1]
    rw [e]
    unfold Zzn
    rw [if_pos rfl]
    simp only
    have s1 := Zy0 (w / 4294967296 % 65536) 32 (by omega) (by decide) (by omega)
    have s2 := Zy0 (w / 281474976710656 % 65536) 48 (by omega) (by decide) (by omega)
    rw [show ((32 : Nat) : Int) = 32 from rfl] at s1
    rw [show ((48 : Nat) : Int) = 48 from rfl] at s2
    rw [Z9s, s1, s2, Zkx _ _ (by omega) (by omega), Zm6 32 _ _ (by omega), Zkx _ _ (by omega) (by omega), Zm6 48 _ _ (by omega)]
    omega
  by_cases h2 : w % 4 = 1
  · have e : Zg5 w = ⟨2, Zox w, 0, 0, (w / 4294967296 % 8 : Nat), (w / 34359738368 % 536870912 : Nat), 0, false⟩ := by simp [Zg5, h0, h1, h2]
    rw [e]
    unfold Zzn
    rw [if_neg (by simp), if_pos rfl]
    simp only
    have s1 := Zy0 (w / 4294967296 % 8) 32 (by omega) (by decide) (by omega)
    have s2 := Zy0 (w / 34359738368 % 536870912) 35 (by omega) (by decide) (by omega)
    rw [show ((32 : Nat) : Int) = 32 from rfl] at s1
    rw [show ((35 : Nat) : Int) = 35 from rfl] at s2
    have l1 := Zkx 1 (w / 4 % 1073741824 * 2 ^ 2) (by decide) (by omega)
    rw [show ((1 : Nat) : Int) = 1 from rfl, Zm6 2 1 _ (by decide)] at l1
    rw [Z9s, s1, s2, l1, Zkx _ _ (by omega) (by omega), Zm6 32 _ _ (by omega), Zkx _ _ (by omega) (by omega), Zm6 35 _ _ (by omega)]
    omega
  by_cases h4 : w % 4 = 2
  · have e : Zg5 w = ⟨3, (w / 8 % 536870912 : Nat), 0, 0, 0, 0, (w / 4294967296 % 4294967296 : Nat), decide (w / 4 % 2 = 1)⟩ := by simp [Zg5, h0, h1, h2, h4]
    rw [e]
    unfold Zzn
    rw [if_neg (by simp), if_neg (by simp), if_pos rfl]
    simp only
    have s1 := Zy0 (w / 8 % 536870912) 3 (by omega) (by decide) (by omega)
    have s2 := Zy0 (w / 4294967296 % 4294967296) 32 (by omega) (by decide) (by omega)
    rw [show ((3 : Nat) : Int) = 3 from rfl] at s1
    rw [show ((32 : Nat) : Int) = 32 from rfl] at s2
    have l1 := Zkx 2 (w / 8 % 536870912 * 2 ^ 3) (by decide) (by omega)
    rw [show ((2 : Nat) : Int) = 2 from rfl, Zm6 3 2 _ (by decide)] at l1
    rw [s1, s2, l1, Zkx _ _ (by omega) (by omega), Zm6 32 _ _ (by omega)]
    by_cases hb : w / 4 % 2 = 1
    · rw [if_pos (by simpa using hb)]
      have l2 := Zkx (2 + w / 8 % 536870912 * 2 ^ 3 + w / 4294967296 % 4294967296 * 2 ^ 32) 4 (by omega) (by decide)
      rw [show ((4 : Nat) : Int) = 4 from rfl] at l2
      rw [l2]
      have : (2 + w / 8 % 536870912 * 2 ^ 3 + w / 4294967296 % 4294967296 * 2 ^ 32) ||| 4 = 2 + w / 8 % 536870912 * 2 ^ 3 + w / 4294967296 % 4294967296 * 2 ^ 32 + 4 := by
        have e1 : 2 + w / 8 % 536870912 * 2 ^ 3 + w / 4294967296 % 4294967296 * 2 ^ 32 = 2 ^ 3 * (w / 8 % 536870912 + w / 4294967296 % 4294967296 * 2 ^ 29) + 2 := by omega
        rw [e1]
        generalize w / 8 % 536870912 + w / 4294967296 % 4294967296 * 2 ^ 29 = q
        conv => lhs; rw [Nat.two_pow_add_eq_or_of_lt (by decide), Nat.or_assoc, show (2 ||| 4 : Nat) = 6 from rfl, ← Nat.two_pow_add_eq_or_of_lt (by decide)]
      rw [this]
      omega
    rw [if_neg (by simpa using hb)]
    omega
  exact absurd (by simp [Zg5, h0, h1, h2, h4]) h3
theorem Yaw (p q : Zy) : ((p.Kind == q.Kind) && ((p.Off == q.Off) && ((p.Data == q.Data) && ((p.Ptrs == q.Ptrs) && ((p.Code == q.Code) && ((p.Count == q.Count) && ((p.Segment == q.Segment) && (p.Double == q.Double)))))))) = true ↔ p = q := by
  cases p; cases q
  simp [and_assoc]
open Classical in
/-- what 'Encode' tells -/
theorem Z70 (p : Zy) : ∃ w : Nat, w < 18446744073709551616 ∧ Zzn p = (w : Int) ∧ Vb p = some ((w : Int), decide (p.Kind ≠ 4 ∧ Zg5 w = p)) := by
  obtain ⟨w, hw, hlt⟩ := Z8g p
  refine ⟨w, hlt, hw, ?_⟩
  unfold Vb
  rw [Ycx, hw]
  simp only [Option.bind_some, Z0w w hlt]
  by_cases h4 : p.Kind = 4
  · simp [h4]
  have hk : (p.Kind != 4) = true := by simp [h4]
  rw [hk]
  simp only [cond_true, Option.bind_some, Option.some.injEq, Prod.mk.injEq, true_and]
  rw [Bool.eq_iff_iff, Yaw]
  simp [h4]
theorem Zu4 (w : Nat) (hw : w < 18446744073709551616) (h : ¬ (Zg5 w).Kind = 4) : Vb (Zg5 w) = some ((w : Int), true) := by
  obtain ⟨v, hv, h1, h2⟩ := Z70 (Zg5 w)
  have : v = w := by have := Yah w hw h; omega
  subst this
  rw [h2]
  simp [h]
theorem Yf {x : Int} (h1 : -9223372036854775808 ≤ x) (h2 : x ≤ 9223372036854775807) : IntKind.i64.wrap x = x := Yd8 ⟨h1, h2⟩
theorem Zb4 {i n : Nat} (h : i < n) : decide ((i : Int) < (n : Int)) = true := by rw [decide_eq_true_eq]; omega
theorem Zbx {n : Nat} : decide ((n : Int) < (n : Int)) = false := by rw [decide_eq_false_iff_not]; omega
structure WS (l : List (List Int)) : Prop where
  n : l.length * 24 ≤ 140737488355328
  s : ∀ x ∈ l, x.length * 8 ≤ 140737488355328
  w : ∀ x ∈ l, ∀ w ∈ x, 0 ≤ w ∧ w < 18446744073709551616
theorem Zyy {l : List Int} (h : l.length * 8 ≤ 140737488355328) : Xg l = some l := by
  unfold Xg
  rw [V9 (by simp only [List.length_nil]; omega) (by simp only [List.length_nil]; omega), List.nil_append]
theorem Z9e {α : Type} (l : List α) (n : Nat) (v : α) : Qy l (n : Int) v = l.set n v := by unfold Qy; rw [Int.toNat_natCast]
theorem Zty {l : List (List Int)} (h : WS l) : ∀ (r : List (List Int)) (i : Nat), l.drop i = r → i ≤ l.length →
    Zs (Ue l) ((i : Int), l.take i ++ List.replicate r.length []) = some l
  | [], i, hd, hi => by
    have hl : i = l.length := by
      have := congrArg List.length hd
      rw [List.length_drop, List.length_nil] at this; omega
    subst hl
    refine Y7 ?_
    unfold Ue
    simp only
    rw [Zbx, cond_false]
    simp
  | x :: r, i, hd, hi => by
    have hi' : i < l.length := by
      rcases Nat.lt_or_ge i l.length with q | q
      · exact q
      rw [List.drop_eq_nil_of_le q] at hd; cases hd
    have hx : l[i]? = some x := by
      have := congrArg (·[0]?) hd
      simpa using this
    have hm := List.mem_of_getElem? hx
    have hd' : l.drop (i + 1) = r := by
      have := congrArg (List.drop 1) hd
      rw [List.drop_drop] at this
      simpa [Nat.add_comm] using this
    have hn := h.n
    have hlen : (l.take i).length = i := by rw [List.length_take]; omega
    have hg : Y5 (l.take i ++ List.replicate (r.length + 1) []) (i : Int) = some ([] : List Int) := Yo (by rw [List.getElem?_append_right (by omega), hlen, Nat.sub_self]; rfl)
    have hstep : Ue l ((i : Int), l.take i ++ List.replicate (r.length + 1) []) = some (.inl (((i + 1 : Nat) : Int), l.take (i + 1) ++ List.replicate r.length [])) := by
      unfold Ue
      simp only
      rw [Zb4 hi', cond_true, Yo hx, Option.bind_some, Zyy (h.s x hm), Option.bind_some, hg, Option.bind_some, Yf (by omega) (by omega), Z9e, List.set_append_right _ _ (by omega), hlen, Nat.sub_self, List.replicate_succ, List.set_cons_zero, List.take_add_one, hx, List.append_assoc]
      rfl
    rw [List.length_cons, Ql hstep]
    exact Zty h r (i + 1) hd' (by omega)
theorem Z6c {l : List (List Int)} (h : WS l) : Zda l = some l := by
  have hn := h.n
  have := Zty h l 0 rfl (Nat.zero_le _)
  rw [List.take_zero, List.nil_append, show (((0 : Nat) : Int)) = 0 from rfl] at this
  unfold Zda
  rw [Zms (by omega) (by omega) (by omega), Option.bind_some, Int.toNat_natCast, this]
  rfl
theorem Z7j {l : List (List Int)} (h : WS l) : Zez l = some (some ⟨l, 0, 0⟩) := by
  unfold Zez
  rw [Z6c h, Option.bind_some]
def seg (l : List (List Int)) (s : Int) : List Int := (l[s.toNat]?).getD []
def inB (l : List (List Int)) (s a n : Int) : Bool := decide (0 ≤ s) && (decide (s < l.length) && (decide (0 ≤ a) && (decide (0 ≤ n) && decide (a + n ≤ (seg l s).length))))
theorem inB_iff {l : List (List Int)} {s a n : Int} : inB l s a n = true ↔ 0 ≤ s ∧ s < l.length ∧ 0 ≤ a ∧ 0 ≤ n ∧ a + n ≤ (seg l s).length := by
  unfold inB
  simp only [Bool.and_eq_true, decide_eq_true_eq]
theorem Zz7 {l : List (List Int)} {s : Int} (h0 : 0 ≤ s) (h1 : s < l.length) : Y5 l s = some (seg l s) ∧ seg l s ∈ l := by
  have hs : s.toNat < l.length := by omega
  unfold seg Y5
  rw [if_pos h0, List.getElem?_eq_getElem hs]
  exact ⟨rfl, List.getElem_mem hs⟩
def wd (l : List (List Int)) (s a : Int) : Int := ((seg l s)[a.toNat]?).getD 0
theorem Ycd {l : List (List Int)} {s a : Int} (h : inB l s a 1 = true) : Y5 (seg l s) a = some (wd l s a) ∧ wd l s a ∈ seg l s := by
  rw [inB_iff] at h
  have ha : a.toNat < (seg l s).length := by omega
  unfold wd Y5
  rw [if_pos h.2.2.1, List.getElem?_eq_getElem ha]
  exact ⟨rfl, List.getElem_mem ha⟩
theorem Zxl {l : List (List Int)} (hw : WS l) (s a : Int) : 0 ≤ wd l s a ∧ wd l s a < 18446744073709551616 := by
  unfold wd
  cases h : (seg l s)[a.toNat]? with
  | none => simp
  | some w =>
    have hm := List.mem_of_getElem? h
    unfold seg at hm
    cases hs : l[s.toNat]? with
    | none => rw [hs] at hm; cases hm
    | some x => rw [hs] at hm; exact hw.w x (List.mem_of_getElem? hs) w hm
theorem Zus {l : List (List Int)} (hw : WS l) (s : Int) : (seg l s).length * 8 ≤ 140737488355328 := by
  unfold seg
  cases hs : l[s.toNat]? with
  | none => simp
  | some x => exact hw.s x (List.mem_of_getElem? hs)
section
variable {A : Zj}
theorem Z96 : Zbu (some A) = some (A.segments.length : Int) := rfl
theorem Zyh (s : Int) : Kk (some A) s = some (decide (0 ≤ s) && decide (s < A.segments.length)) := by
  unfold Kk
  rw [Z96, Option.bind_some]
  cases decide (0 ≤ s) <;> rfl
theorem Z7l (s : Int) : K4 (some A) s = some (if 0 ≤ s ∧ s < A.segments.length then ((seg A.segments s).length : Int) else 0) := by
  unfold K4
  rw [Zyh, Option.bind_some]
  by_cases h : 0 ≤ s ∧ s < A.segments.length
  · rw [decide_eq_true h.1, decide_eq_true h.2, if_pos h, Option.bind_some, (Zz7 h.1 h.2).1]
    rfl
  rw [if_neg h, show (decide (0 ≤ s) && decide (s < A.segments.length)) = false from by rw [Bool.and_eq_false_iff, decide_eq_false_iff_not, decide_eq_false_iff_not]; omega]
  rfl
theorem Zy4 (hw : WS A.segments) (s a n : Int) : Ka (some A) s a n = some (inB A.segments s a n) := by
  have hl := Zus hw s
  unfold Ka inB
  rw [Zyh, Z7l, Option.bind_some]
  by_cases h : 0 ≤ s ∧ s < A.segments.length
  · rw [if_pos h, decide_eq_true h.1, decide_eq_true h.2]
    by_cases h2 : 0 ≤ a
    · by_cases h3 : 0 ≤ n
      · by_cases h4 : n ≤ ((seg A.segments s).length : Int)
        · simp only [decide_eq_true h2, decide_eq_true h3, Bool.and_true, Bool.true_and, cond_true, Option.bind_some, decide_eq_true h4]
          rw [Yf (by omega) (by omega)]
          congr 1
          rw [Bool.eq_iff_iff, decide_eq_true_eq, decide_eq_true_eq]
          omega
        simp only [decide_eq_true h2, decide_eq_true h3, Bool.and_true, Bool.true_and, cond_true, cond_false, Option.bind_some, decide_eq_false h4]
        rw [show decide (a + n ≤ ((seg A.segments s).length : Int)) = false from by rw [decide_eq_false_iff_not]; omega]
      rw [decide_eq_true h2, decide_eq_false h3]; rfl
    rw [decide_eq_false h2]; rfl
  rw [show (decide (0 ≤ s) && decide (s < A.segments.length)) = false from by rw [Bool.and_eq_false_iff, decide_eq_false_iff_not, decide_eq_false_iff_not]; omega]
  rw [← Bool.and_assoc, show (decide (0 ≤ s) && decide (s < A.segments.length)) = false from by rw [Bool.and_eq_false_iff, decide_eq_false_iff_not, decide_eq_false_iff_not]; omega]
  rfl
theorem Zps (hw : WS A.segments) (s a : Int) : Qi (some A) s a = some (if inB A.segments s a 1 = true then (wd A.segments s a, true) else (0, false)) := by
  unfold Qi
  rw [Zy4 hw, Option.bind_some]
  cases h : inB A.segments s a 1 with
  | false => rfl
  | true =>
    have h' := inB_iff.1 h
    rw [Bool.not_true, cond_false, Option.bind_some, (Zz7 h'.1 h'.2.1).1, Option.bind_some, (Ycd h).1]
    rfl
theorem Z7k (hw : WS A.segments) (s a n : Int) : Uo (some A) s a n = some (if inB A.segments s a n = true then (((seg A.segments s).drop a.toNat).take n.toNat, true) else ([], false)) := by
  have hl := Zus hw s
  unfold Uo
  rw [Zy4 hw, Option.bind_some]
  cases h : inB A.segments s a n with
  | false => rfl
  | true =>
    have h' := inB_iff.1 h
    rw [Bool.not_true, cond_false, Option.bind_some, (Zz7 h'.1 h'.2.1).1, Option.bind_some, Yf (by omega) (by omega), Z53 (by omega) (by omega) (by omega), Option.bind_some, show a + n - a = n by omega, Zyy (by rw [List.length_take, List.length_drop]; omega)]
    rfl
end
def dc (w : Int) : Zy := Zg5 w.toNat
theorem Z0v {w : Int} (h : 0 ≤ w ∧ w < 18446744073709551616) : Kc w = some (dc w) := by
  have := Z0w w.toNat (by omega)
  rwa [show ((w.toNat : Nat) : Int) = w by omega] at this
structure PB (p : Zy) : Prop where
  k : p.Kind = 0 ∨ p.Kind = 1 ∨ p.Kind = 2 ∨ p.Kind = 3 ∨ p.Kind = 4
  o : -536870912 ≤ p.Off ∧ p.Off < 536870912
  d : 0 ≤ p.Data ∧ p.Data < 65536
  q : 0 ≤ p.Ptrs ∧ p.Ptrs < 65536
  c : 0 ≤ p.Code ∧ p.Code < 8
  n : 0 ≤ p.Count ∧ p.Count < 536870912
  s : 0 ≤ p.Segment ∧ p.Segment < 4294967296
  f : p.Kind = 3 → 0 ≤ p.Off
  z : p.Kind = 0 ∨ p.Kind = 4 → p.Off = 0
theorem Yau (w : Nat) : -536870912 ≤ Zox w ∧ Zox w < 536870912 := by
  unfold Zox
  split <;> omega
theorem Zu3 (w : Int) : PB (dc w) := by
  have ho := Yau w.toNat
  unfold dc Zg5
  split
  · exact ⟨.inl rfl, by simp, by simp, by simp, by simp, by simp, by simp, by simp, by simp⟩
  split
  · exact ⟨.inr (.inl rfl), ho, by simp only; omega, by simp only; omega, by simp, by simp, by simp, by simp, by simp⟩
  split
  · exact ⟨.inr (.inr (.inl rfl)), ho, by simp, by simp, by simp only; omega, by simp only; omega, by simp, by simp, by simp⟩
  split
  · exact ⟨.inr (.inr (.inr (.inl rfl))), by simp only; omega, by simp, by simp, by simp, by simp, by simp only; omega, fun _ => by simp only; omega, by simp⟩
  exact ⟨.inr (.inr (.inr (.inr rfl))), by simp, by simp, by simp, by simp, by simp, by simp, by simp, by simp⟩
def wdt (c : Int) : Int := if c = 0 then 0 else if c = 1 then 1 else if c = 2 then 8 else if c = 3 then 16 else if c = 4 then 32 else 64
def pw (p : Zy) : Int := if p.Kind = 1 then p.Data + p.Ptrs else if p.Code = 7 then p.Count + 1 else (p.Count * wdt p.Code + 63) / 64
theorem c7 {c : Int} (h : 0 ≤ c ∧ c < 8) (h7 : ¬ c = 7) : c = 0 ∨ c = 1 ∨ c = 2 ∨ c = 3 ∨ c = 4 ∨ c = 5 ∨ c = 6 := by omega
theorem Z9x {c : Int} (h : 0 ≤ c ∧ c < 8) (h7 : ¬ c = 7) : Zdu c = some (wdt c) := by
  unfold Zdu
  rcases c7 h h7 with rfl | rfl | rfl | rfl | rfl | rfl | rfl <;> rfl
theorem Z9z {p : Zy} (h : PB p) : Xq p = some (if p.Kind = 1 ∨ p.Kind = 2 then (pw p, true) else (0, false)) := by
  have hd := h.d; have hp := h.q; have hn := h.n
  unfold Xq pw
  by_cases k1 : p.Kind = 1
  · rw [show (p.Kind == 1) = true from by rw [k1]; rfl, cond_true, if_pos (.inl k1), if_pos k1, Yf (by omega) (by omega)]
  rw [show (p.Kind == 1) = false from Qq k1, cond_false]
  by_cases k2 : p.Kind = 2
  · rw [show (p.Kind == 2) = true from by rw [k2]; rfl, cond_true, if_pos (.inr k2), if_neg k1]
    by_cases c7' : p.Code = 7
    · rw [show (p.Code == 7) = true from by rw [c7']; rfl, cond_true, if_pos c7', Yf (by omega) (by omega)]
    rw [show (p.Code == 7) = false from Qq c7', cond_false, if_neg c7', decide_eq_true h.c.1, show decide (p.Code < 7) = true from by rw [decide_eq_true_eq]; have := h.c; omega, decide_eq_true hn.1, show decide (p.Count ≤ 536870911) = true from by rw [decide_eq_true_eq]; omega]
    simp only [cond_true]
    rw [Z9x h.c c7', Option.bind_some]
    have hw : 0 ≤ wdt p.Code ∧ wdt p.Code ≤ 64 := by unfold wdt; repeat' split; all_goals omega
    have h1 : 0 ≤ p.Count * wdt p.Code := Int.mul_nonneg hn.1 hw.1
    have h2 : p.Count * wdt p.Code ≤ 536870912 * 64 := Int.mul_le_mul (by omega) hw.2 hw.1 (by omega)
    rw [Yf (x := p.Count * wdt p.Code) (by omega) (by omega), Yf (x := p.Count * wdt p.Code + 63) (by omega) (by omega), Int.tdiv_eq_ediv_of_nonneg (by omega), Yf (by omega) (by omega)]
  rw [show (p.Kind == 2) = false from Qq k2, if_neg (by omega)]
  rfl
def l0 : Xf := ⟨⟨0, 0, 0, 0, 0, 0, 0, false⟩, 0, 0⟩
def Z4g (p : Zy) : Zy := ⟨p.Kind, 0, p.Data, p.Ptrs, p.Code, p.Count, p.Segment, p.Double⟩
def tgt (l : List (List Int)) (p : Zy) (s a : Int) : Xf × Int :=
  if p.Kind = 4 then (l0, 9) else if p.Kind = 1 ∨ p.Kind = 2 then (if inB l s a (pw p) = true then (⟨Z4g p, s, a⟩, 0) else (l0, 7)) else (l0, 8)
def fol (l : List (List Int)) (s a : Int) : Xf × Int :=
  if inB l s a 1 = true then
    let p := dc (wd l s a)
    if p.Kind = 0 then (l0, 0)
    else if p.Kind = 3 ∧ p.Double = true then
      if inB l p.Segment p.Off 2 = true then
        let b := dc (wd l p.Segment p.Off)
        let q := dc (wd l p.Segment (p.Off + 1))
        if b.Kind = 3 ∧ b.Double = false then (if q.Kind ≠ 4 ∧ q.Off ≠ 0 then (l0, 8) else tgt l q b.Segment b.Off) else (l0, 8)
      else (l0, 7)
    else if p.Kind = 3 then
      if inB l p.Segment p.Off 1 = true then
        let q := dc (wd l p.Segment p.Off)
        tgt l q p.Segment (p.Off + 1 + q.Off)
      else (l0, 7)
    else tgt l p s (a + 1 + p.Off)
  else (l0, 7)
section
variable {A : Zj}
theorem Zou (hw : WS A.segments) {p : Zy} (h : PB p) (s a : Int) : Za0 (some A) p s a = some (tgt A.segments p s a) := by
  unfold Za0 tgt
  by_cases k4 : p.Kind = 4
  · rw [show (p.Kind == 4) = true from by rw [k4]; rfl, if_pos k4]; rfl
  rw [show (p.Kind == 4) = false from Qq k4, cond_false, if_neg k4, Z9z h, Option.bind_some]
  by_cases k : p.Kind = 1 ∨ p.Kind = 2
  · rw [if_pos k, if_pos k]
    simp only [Bool.not_true, cond_false]
    rw [Zy4 hw, Option.bind_some]
    cases inB A.segments s a (pw p) <;> rfl
  rw [if_neg k, if_neg k]
  rfl
theorem Yc3 {l : List (List Int)} {s a : Int} (h : inB l s a 2 = true) : ((seg l s).drop a.toNat).take (2 : Int).toNat = [wd l s a, wd l s (a + 1)] := by
  have h' := inB_iff.1 h
  have h1 : a.toNat < (seg l s).length := by omega
  have h2 : a.toNat + 1 < (seg l s).length := by omega
  unfold wd
  rw [show (a + 1).toNat = a.toNat + 1 by omega, List.getElem?_eq_getElem h1, List.getElem?_eq_getElem h2, show ((2 : Int).toNat) = 2 from rfl, List.drop_eq_getElem_cons h1, List.drop_eq_getElem_cons h2]
  rfl
theorem Z6n (hw : WS A.segments) (s a : Int) : Zed (some A) s a = some (if inB A.segments s a 2 = true then (if (dc (wd A.segments s a)).Kind = 3 ∧ (dc (wd A.segments s a)).Double = false then (if (dc (wd A.segments s (a + 1))).Kind ≠ 4 ∧ (dc (wd A.segments s (a + 1))).Off ≠ 0 then (l0, 8) else tgt A.segments (dc (wd A.segments s (a + 1))) (dc (wd A.segments s a)).Segment (dc (wd A.segments s a)).Off) else (l0, 8)) else (l0, 7)) := by
  unfold Zed
  rw [Z7k hw, Option.bind_some]
  cases h : inB A.segments s a 2 with
  | false => rfl
  | true =>
    simp only [if_true, Bool.not_true, cond_false]
    rw [Yc3 h]
    have g0 : Y5 [wd A.segments s a, wd A.segments s (a + 1)] 0 = some (wd A.segments s a) := rfl
    have g1 : Y5 [wd A.segments s a, wd A.segments s (a + 1)] 1 = some (wd A.segments s (a + 1)) := rfl
    rw [g0, Option.bind_some, Z0v (Zxl hw _ _), Option.bind_some, g1, Option.bind_some, Z0v (Zxl hw _ _), Option.bind_some]
    generalize dc (wd A.segments s a) = b
    have hq := Zu3 (wd A.segments s (a + 1))
    revert hq
    generalize dc (wd A.segments s (a + 1)) = q
    intro hq
    by_cases b3 : b.Kind = 3
    · rw [show (b.Kind != 3) = false from by rw [b3]; rfl, cond_false]
      cases bd : b.Double with
      | true => rw [cond_true, if_neg (by simp)]; rfl
      | false =>
        rw [cond_false, if_pos ⟨b3, rfl⟩]
        by_cases hq4 : q.Kind = 4
        · rw [show (q.Kind != 4) = false from by rw [hq4]; rfl, cond_false, cond_false, if_neg (by simp [hq4]), Zou hw hq]
          rfl
        rw [show (q.Kind != 4) = true from bne_iff_ne.2 hq4, cond_true]
        by_cases ho : q.Off = 0
        · rw [show (q.Off != 0) = false from by rw [ho]; rfl, cond_false, if_neg (by simp [ho]), Zou hw hq]
          rfl
        rw [show (q.Off != 0) = true from bne_iff_ne.2 ho, cond_true, if_pos ⟨hq4, ho⟩]
        rfl
    rw [show (b.Kind != 3) = true from bne_iff_ne.2 b3, cond_true, cond_true, if_neg (by simp [b3])]
    rfl
theorem Ybh {l : List (List Int)} (hw : WS l) {s a n : Int} (h : inB l s a n = true) : 0 ≤ a ∧ a ≤ 17592186044416 := by
  have h' := inB_iff.1 h
  have := Zus hw s
  omega
theorem Z7a (hw : WS A.segments) (s a : Int) : Zee (some A) s a = some (if inB A.segments s a 1 = true then tgt A.segments (dc (wd A.segments s a)) s (a + 1 + (dc (wd A.segments s a)).Off) else (l0, 7)) := by
  unfold Zee
  rw [Zps hw, Option.bind_some]
  cases h : inB A.segments s a 1 with
  | false => rfl
  | true =>
    have ha := Ybh hw h
    have hq := Zu3 (wd A.segments s a)
    have ho := hq.o
    simp only [if_true, Bool.not_true, cond_false]
    rw [Z0v (Zxl hw _ _), Option.bind_some, Yf (x := a + 1) (by omega) (by omega), Yf (by omega) (by omega), Zou hw hq]
    rfl
theorem Z6q (hw : WS A.segments) (s a : Int) : Zec (some A) s a = some (fol A.segments s a) := by
  unfold Zec fol
  rw [Zps hw, Option.bind_some]
  cases h : inB A.segments s a 1 with
  | false => rfl
  | true =>
    have ha := Ybh hw h
    have hq := Zu3 (wd A.segments s a)
    have ho := hq.o
    simp only [if_true, Bool.not_true, cond_false]
    rw [Z0v (Zxl hw _ _), Option.bind_some]
    revert hq ho
    generalize dc (wd A.segments s a) = p
    intro hq ho
    by_cases k0 : p.Kind = 0
    · rw [show (p.Kind == 0) = true from by rw [k0]; rfl, cond_true, if_pos k0]; rfl
    rw [show (p.Kind == 0) = false from Qq k0, cond_false, if_neg k0]
    by_cases k3 : p.Kind = 3
    · rw [show (p.Kind == 3) = true from by rw [k3]; rfl, cond_true, cond_true]
      cases hd : p.Double with
      | true => rw [cond_true, if_pos ⟨k3, rfl⟩, Z6n hw]; rfl
      | false => rw [cond_false, if_neg (by simp), if_pos k3, Z7a hw]; rfl
    rw [show (p.Kind == 3) = false from Qq k3, cond_false, cond_false, cond_false, if_neg (by simp [k3]), if_neg k3, Yf (x := a + 1) (by omega) (by omega), Yf (by omega) (by omega), Zou hw hq]
    rfl
end
theorem Yce (l : List Int) (h : ∀ w ∈ l, 0 ≤ w ∧ w < 18446744073709551616) (hl : l.length * 8 ≤ 140737488355328) : WS [l] :=
  ⟨by simp, fun x hx => by rw [List.mem_singleton] at hx; subst hx; exact hl, fun x hx => by rw [List.mem_singleton] at hx; subst hx; exact h⟩
theorem Ycc {l : List (List Int)} {p : Zy} (h : PB p) {s a : Int} : ((tgt l p s a).2 ≠ 0 ∧ (tgt l p s a).1 = l0) ∨ ((tgt l p s a).2 = 0 ∧ (p.Kind = 1 ∨ p.Kind = 2) ∧ (tgt l p s a).1 = ⟨Z4g p, s, a⟩ ∧ inB l s a (pw p) = true) := by
  unfold tgt
  by_cases k4 : p.Kind = 4
  · rw [if_pos k4]; exact .inl ⟨by simp, rfl⟩
  rw [if_neg k4]
  by_cases k : p.Kind = 1 ∨ p.Kind = 2
  · rw [if_pos k]
    by_cases hi : inB l s a (pw p) = true
    · rw [if_pos hi]; exact .inr ⟨rfl, k, rfl, hi⟩
    rw [if_neg hi]; exact .inl ⟨by simp, rfl⟩
  rw [if_neg k]; exact .inl ⟨by simp, rfl⟩
theorem Yat {p : Zy} (h : PB p) : PB (Z4g p) := ⟨h.k, by simp [Z4g], h.d, h.q, h.c, h.n, h.s, fun _ => by simp [Z4g], fun _ => rfl⟩
theorem Yb0 (l : List (List Int)) (s a : Int) : ((fol l s a).1 = l0) ∨ ((fol l s a).2 = 0 ∧ ∃ p s' a', PB p ∧ p.Off = 0 ∧ (p.Kind = 1 ∨ p.Kind = 2) ∧ (fol l s a).1 = ⟨p, s', a'⟩ ∧ inB l s' a' (pw p) = true) := by
  have key : ∀ (w s a : Int), ((tgt l (dc w) s a).1 = l0) ∨ ((tgt l (dc w) s a).2 = 0 ∧ ∃ p s' a', PB p ∧ p.Off = 0 ∧ (p.Kind = 1 ∨ p.Kind = 2) ∧ (tgt l (dc w) s a).1 = ⟨p, s', a'⟩ ∧ inB l s' a' (pw p) = true) := fun w s a => by
    rcases Ycc (l := l) (Zu3 w) (s := s) (a := a) with h | ⟨h1, h2, h3, h4⟩
    · exact .inl h.2
    exact .inr ⟨h1, Z4g (dc w), s, a, Yat (Zu3 w), rfl, h2, h3, h4⟩
  unfold fol
  by_cases h : inB l s a 1 = true
  · rw [if_pos h]
    simp only
    split
    · exact .inl rfl
    split
    · split
      · split
        · split
          · exact .inl rfl
          exact key _ _ _
        exact .inl rfl
      exact .inl rfl
    split
    · split
      · exact key _ _ _
      exact .inl rfl
    exact key _ _ _
  rw [if_neg h]; exact .inl rfl
def r0 : Zb := ⟨none, 0, 0, 0, 0, 0, 0, 0, 0⟩
def Zx (r : Zb) : Int := if r.kind = 1 then r.ptrs else r.count
def atR (A : Zj) (s a : Int) : Zb × Int :=
  let x := fol A.segments s a
  if x.2 ≠ 0 ∨ x.1.P.Kind = 0 then (r0, x.2)
  else if x.1.P.Kind = 1 then (⟨some A, 1, x.1.Segment, x.1.At, x.1.P.Data, x.1.P.Ptrs, 0, 0, 0⟩, 0)
  else if x.1.P.Code = 7 then
    let t := dc (wd A.segments x.1.Segment x.1.At)
    if (t.Kind ≠ 0 ∧ t.Kind ≠ 1) ∨ t.Off < 0 ∨ x.1.P.Count < t.Off * (t.Data + t.Ptrs) then (r0, 8)
    else (⟨some A, 9, x.1.Segment, x.1.At, t.Data, t.Ptrs, t.Off, 0, 0⟩, 0)
  else (⟨some A, x.1.P.Code + 2, x.1.Segment, x.1.At, 0, 0, x.1.P.Count, 0, 0⟩, 0)
inductive OKr (A : Zj) : Zb → Prop
  | z : OKr A r0
  | st (s a d p : Int) (hd : 0 ≤ d ∧ d < 65536) (hp : 0 ≤ p ∧ p < 65536) (hi : inB A.segments s a (d + p) = true) : OKr A ⟨some A, 1, s, a, d, p, 0, 0, 0⟩
  | li (k s a n : Int) (hk : 2 ≤ k ∧ k ≤ 8) (hn : 0 ≤ n ∧ n < 536870912) (hi : inB A.segments s a ((n * wdt (k - 2) + 63) / 64) = true) : OKr A ⟨some A, k, s, a, 0, 0, n, 0, 0⟩
  | co (s a d p n : Int) (hd : 0 ≤ d ∧ d < 65536) (hp : 0 ≤ p ∧ p < 65536) (hn : 0 ≤ n ∧ n < 536870912) (hw : 0 ≤ n * (d + p) ∧ n * (d + p) < 536870912) (hi : inB A.segments s a (n * (d + p) + 1) = true) : OKr A ⟨some A, 9, s, a, d, p, n, 0, 0⟩
  | at_ (s a c i n : Int) (hc : 0 ≤ c ∧ c ≤ 5) (h0 : 0 ≤ i) (h1 : i < n) (hn : n < 536870912) (hi : inB A.segments s a ((n * wdt c + 63) / 64) = true) : OKr A ⟨some A, 10, s, a, 0, 0, 0, c, i⟩
theorem Z8e {A : Zj} {r : Zb} (h : OKr A r) : 0 ≤ r.kind ∧ r.kind ≤ 10 := by cases h <;> simp [r0] <;> omega
theorem Zmc (l : List (List Int)) (s a : Int) : ((fol l s a).2 ≠ 0 ∨ (fol l s a).1.P.Kind = 0) ∨ ((fol l s a).2 = 0 ∧ PB (fol l s a).1.P ∧ ((fol l s a).1.P.Kind = 1 ∨ (fol l s a).1.P.Kind = 2) ∧ inB l (fol l s a).1.Segment (fol l s a).1.At (pw (fol l s a).1.P) = true) := by
  rcases Yb0 l s a with h | ⟨h1, p, s', a', hp, ho, hk, h, hi⟩
  · rw [h]; exact .inl (.inr rfl)
  rw [h]; exact .inr ⟨h1, hp, hk, hi⟩
section
variable {A : Zj}
theorem Z9r (w : Int) : 0 ≤ (dc w).Data ∧ (dc w).Data < 65536 ∧ 0 ≤ (dc w).Ptrs ∧ (dc w).Ptrs < 65536 ∧ (dc w).Off < 536870912 := by
  have h := Zu3 w
  exact ⟨h.d.1, h.d.2, h.q.1, h.q.2, h.o.2⟩
theorem Yb6 {n x : Int} (h0 : -536870912 ≤ n ∧ n < 536870912) (h1 : 0 ≤ x ∧ x ≤ 131070) : -70368744177664 ≤ n * x ∧ n * x ≤ 70368744177664 := by
  constructor
  · have : -536870912 * 131070 ≤ n * x := by
      rcases Int.le_total 0 n with h | h
      · have := Int.mul_nonneg h h1.1; omega
      have h2 : n * 131070 ≤ n * x := Int.mul_le_mul_of_nonpos_left h h1.2
      have h3 : -536870912 * 131070 ≤ n * 131070 := Int.mul_le_mul_of_nonneg_right h0.1 (by omega)
      omega
    omega
  rcases Int.le_total 0 n with h | h
  · have h2 : n * x ≤ n * 131070 := Int.mul_le_mul_of_nonneg_left h1.2 h
    have h3 : n * 131070 ≤ 536870912 * 131070 := Int.mul_le_mul_of_nonneg_right (by omega) (by omega)
    omega
  have := Int.mul_nonpos_of_nonpos_of_nonneg h h1.1
  omega
theorem Zo9 (s a : Int) : OKr A (atR A s a).1 := by
  unfold atR
  rcases Zmc A.segments s a with h | ⟨h1, hp, hk, hi⟩
  · rw [if_pos h]; exact .z
  rw [if_neg (by omega)]
  generalize (fol A.segments s a).1 = x at *
  by_cases k1 : x.P.Kind = 1
  · rw [if_pos k1]
    have : pw x.P = x.P.Data + x.P.Ptrs := by unfold pw; rw [if_pos k1]
    rw [this] at hi
    exact .st _ _ _ _ hp.d hp.q hi
  rw [if_neg k1]
  have k2 : x.P.Kind = 2 := by omega
  by_cases c7' : x.P.Code = 7
  · rw [if_pos c7']
    have hpw : pw x.P = x.P.Count + 1 := by unfold pw; rw [if_neg k1, if_pos c7']
    rw [hpw] at hi
    have ht := Z9r (wd A.segments x.Segment x.At)
    simp only
    generalize dc (wd A.segments x.Segment x.At) = t at *
    split
    · exact .z
    rename_i hc
    have hn := hp.n
    have h0 : 0 ≤ t.Off * (t.Data + t.Ptrs) := Int.mul_nonneg (by omega) (by omega)
    have hi' := inB_iff.1 hi
    exact .co _ _ _ _ _ (by omega) (by omega) (by omega) (by omega) (inB_iff.2 ⟨hi'.1, hi'.2.1, hi'.2.2.1, by omega, by omega⟩)
  rw [if_neg c7']
  have hpw : pw x.P = (x.P.Count * wdt x.P.Code + 63) / 64 := by unfold pw; rw [if_neg k1, if_neg c7']
  rw [hpw] at hi
  have hc := hp.c
  exact .li _ _ _ _ (by omega) hp.n (by rw [show x.P.Code + 2 - 2 = x.P.Code by omega]; exact hi)
theorem Z7r (hw : WS A.segments) (s a : Int) : Zb7 (some A) s a = some (atR A s a) := by
  unfold Zb7 atR
  rw [Z6q hw, Option.bind_some]
  simp only
  rcases Zmc A.segments s a with h | ⟨h1, hp, hk, hi⟩
  · rw [if_pos h]
    have : cond ((fol A.segments s a).2 != 0) true ((fol A.segments s a).1.P.Kind == 0) = true := by
      rcases h with h | h
      · rw [bne_iff_ne.2 h]; rfl
      rw [show ((fol A.segments s a).1.P.Kind == 0) = true from by rw [h]; rfl]
      cases ((fol A.segments s a).2 != 0) <;> rfl
    rw [this, cond_true]; rfl
  rw [if_neg (by omega), h1, show ((0 : Int) != 0) = false from rfl, cond_false]
  generalize (fol A.segments s a).1 = x at *
  rw [show (x.P.Kind == 0) = false from Qq (by omega), cond_false]
  by_cases k1 : x.P.Kind = 1
  · rw [if_pos k1, show (x.P.Kind == 1) = true from by rw [k1]; rfl, cond_true]
  rw [if_neg k1, show (x.P.Kind == 1) = false from Qq k1, cond_false]
  have hc := hp.c
  by_cases c7' : x.P.Code = 7
  · rw [if_pos c7', show (x.P.Code == 7) = true from by rw [c7']; rfl, cond_true]
    have hpw : pw x.P = x.P.Count + 1 := by unfold pw; rw [if_neg k1, if_pos c7']
    rw [hpw] at hi
    have hn := hp.n
    have hi' := inB_iff.1 hi
    have hi1 : inB A.segments x.Segment x.At 1 = true := inB_iff.2 ⟨hi'.1, hi'.2.1, hi'.2.2.1, by omega, by omega⟩
    unfold Za2
    simp only
    rw [Zps hw, if_pos hi1, Option.bind_some, Z0v (Zxl hw _ _), Option.bind_some]
    have ht := Z9r (wd A.segments x.Segment x.At)
    have ho := (Zu3 (wd A.segments x.Segment x.At)).o
    generalize dc (wd A.segments x.Segment x.At) = t at *
    have hm := Yb6 (n := t.Off) (x := t.Data + t.Ptrs) ho (by omega)
    rw [Yf (x := t.Data + t.Ptrs) (by omega) (by omega), Yf (x := t.Off * (t.Data + t.Ptrs)) (by omega) (by omega), Yf (x := x.P.Code + 2) (by omega) (by omega), c7']
    by_cases hq : (t.Kind ≠ 0 ∧ t.Kind ≠ 1) ∨ t.Off < 0 ∨ x.P.Count < t.Off * (t.Data + t.Ptrs)
    · rw [if_pos hq]
      have : cond (cond (cond (t.Kind != 0) (t.Kind != 1) false) true (decide (t.Off < 0))) true (decide (x.P.Count < t.Off * (t.Data + t.Ptrs))) = true := by
        rcases hq with ⟨q1, q2⟩ | q | q
        · rw [bne_iff_ne.2 q1, bne_iff_ne.2 q2]; rfl
        · rw [decide_eq_true q]; cases (cond (t.Kind != 0) (t.Kind != 1) false) <;> rfl
        rw [decide_eq_true q]; cases (cond (cond (t.Kind != 0) (t.Kind != 1) false) true (decide (t.Off < 0))) <;> rfl
      rw [this, cond_true]; rfl
    rw [if_neg hq]
    have e1 : cond (t.Kind != 0) (t.Kind != 1) false = false := by
      by_cases q0 : t.Kind = 0
      · rw [show (t.Kind != 0) = false from by rw [q0]; rfl]; rfl
      have q1 : t.Kind = 1 := by omega
      rw [show (t.Kind != 1) = false from by rw [q1]; rfl]
      cases (t.Kind != 0) <;> rfl
    rw [e1, cond_false, show decide (t.Off < 0) = false from by rw [decide_eq_false_iff_not]; omega, cond_false, show decide (x.P.Count < t.Off * (t.Data + t.Ptrs)) = false from by rw [decide_eq_false_iff_not]; omega]
    rfl
  rw [if_neg c7', show (x.P.Code == 7) = false from Qq c7', cond_false, Yf (x := x.P.Code + 2) (by omega) (by omega)]
theorem Zhv (r : Zb) : Yt r = some (Zx r) := by
  unfold Yt Zx
  by_cases h : r.kind = 1
  · rw [if_pos h, show (r.kind == 1) = true from by rw [h]; rfl]; rfl
  rw [if_neg h, show (r.kind == 1) = false from Qq h]; rfl
def Ys (A : Zj) (r : Zb) (i : Int) : Zb × Int :=
  if i < 0 ∨ Zx r ≤ i then (r0, 0)
  else if r.kind = 1 then atR A r.segment (r.at_ + r.words + i)
  else if r.kind = 8 then atR A r.segment (r.at_ + i)
  else if r.kind = 9 then (⟨some A, 1, r.segment, r.at_ + 1 + i * (r.words + r.ptrs), r.words, r.ptrs, 0, 0, 0⟩, 0)
  else (⟨some A, 10, r.segment, r.at_, 0, 0, 0, r.kind - 2, i⟩, 0)
theorem Uz {r : Zb} (h : OKr A r) (i : Int) : OKr A (Ys A r i).1 := by
  unfold Ys
  by_cases hi : i < 0 ∨ Zx r ≤ i
  · rw [if_pos hi]; exact .z
  rw [if_neg hi]
  by_cases k1 : r.kind = 1
  · rw [if_pos k1]; exact Zo9 _ _
  rw [if_neg k1]
  by_cases k8 : r.kind = 8
  · rw [if_pos k8]; exact Zo9 _ _
  rw [if_neg k8]
  by_cases k9 : r.kind = 9
  · rw [if_pos k9]
    cases h with
    | z => simp [r0] at k9
    | st _ _ _ _ => simp at k1
    | li k s a n hk => simp only at k9; omega
    | at_ => simp at k9
    | co s a d p n hd hp hn hw hin =>
      simp only
      have hi' := inB_iff.1 hin
      simp only [Zx] at hi
      rw [if_neg (by omega)] at hi
      have h1 : 0 ≤ i * (d + p) := Int.mul_nonneg (by omega) (by omega)
      have h2 : (i + 1) * (d + p) ≤ n * (d + p) := Int.mul_le_mul_of_nonneg_right (by omega) (by omega)
      rw [Int.add_mul, Int.one_mul] at h2
      exact .st _ _ _ _ hd hp (inB_iff.2 ⟨hi'.1, hi'.2.1, by omega, by omega, by omega⟩)
  rw [if_neg k9]
  cases h with
  | z => simp [r0, Zx] at hi; omega
  | st _ _ _ _ => simp at k1
  | co => simp at k9
  | at_ => simp [Zx] at hi; omega
  | li k s a n hk hn hin =>
    simp only at k8 k9 ⊢
    simp only [Zx] at hi
    rw [if_neg (by omega)] at hi
    exact .at_ _ _ _ _ n (by omega) (by omega) (by omega) (by omega) hin
theorem Z1b (hw : WS A.segments) {s a n : Int} (h : inB A.segments s a n = true) : 0 ≤ a ∧ 0 ≤ n ∧ a + n ≤ 17592186044416 := by
  have h' := inB_iff.1 h
  have := Zus hw s
  omega
theorem Z8b (hw : WS A.segments) {r : Zb} (h : OKr A r) (i : Int) : Jx r i = some (Ys A r i) := by
  unfold Jx Ys
  rw [Zhv]
  have hz : (cond (decide (i < 0)) (some true) ((some (Zx r)).bind fun y4 => some (cond (decide (i < 0)) true (decide (y4 ≤ i))))) = some (decide (i < 0 ∨ Zx r ≤ i)) := by
    by_cases h0 : i < 0
    · rw [decide_eq_true h0, cond_true, show decide (i < 0 ∨ Zx r ≤ i) = true from decide_eq_true (.inl h0)]
    rw [decide_eq_false h0, cond_false, Option.bind_some, cond_false]
    congr 1
    rw [decide_eq_decide]
    omega
  rw [hz, Option.bind_some]
  by_cases hi : i < 0 ∨ Zx r ≤ i
  · rw [if_pos hi, decide_eq_true hi]; rfl
  rw [if_neg hi, decide_eq_false hi, cond_false]
  cases h with
  | z => exact absurd hi (by first | (simp [Zx, r0]; done) | (simp [Zx, r0]; omega))
  | at_ => exact absurd hi (by first | (simp [Zx]; done) | (simp [Zx]; omega))
  | st s a d p hd hp hin =>
    have := Z1b hw hin
    simp only [Zx, if_true] at hi
    simp only [beq_self_eq_true, cond_true, if_true]
    rw [Yf (x := a + d) (by omega) (by omega), Yf (by omega) (by omega), Z7r hw]
    rfl
  | co s a d p n hd hp hn hwx hin =>
    have := Z1b hw hin
    simp only [Zx] at hi
    rw [if_neg (by omega)] at hi
    simp only [show ((9 : Int) == 1) = false from rfl, show ((9 : Int) == 8) = false from rfl, show ((9 : Int) == 9) = true from rfl, cond_true, cond_false, show ¬ (9 : Int) = 1 from by decide, show ¬ (9 : Int) = 8 from by decide, if_false, if_true]
    have h1 : 0 ≤ i * (d + p) := Int.mul_nonneg (by omega) (by omega)
    have h2 : (i + 1) * (d + p) ≤ n * (d + p) := Int.mul_le_mul_of_nonneg_right (by omega) (by omega)
    rw [Int.add_mul, Int.one_mul] at h2
    rw [Yf (x := a + 1) (by omega) (by omega), Yf (x := d + p) (by omega) (by omega), Yf (x := i * (d + p)) (by omega) (by omega), Yf (by omega) (by omega)]
  | li k s a n hk hn hin =>
    have := Z1b hw hin
    simp only [Zx] at hi
    rw [if_neg (by omega)] at hi
    simp only
    rw [show (k == 1) = false from Qq (by omega), cond_false, if_neg (by omega), show (k == 9) = false from Qq (by omega)]
    by_cases k8 : k = 8
    · have hp : (n * wdt (k - 2) + 63) / 64 = n := by rw [k8]; simp [wdt]; omega
      rw [show (k == 8) = true from by rw [k8]; rfl, cond_true, if_pos k8, Yf (by omega) (by omega), Z7r hw]
      rfl
    rw [show (k == 8) = false from Qq k8, cond_false, cond_false, if_neg k8, if_neg (by omega), Yf (by omega) (by omega)]
def Gv (r : Zb) : Int := if r.kind = 1 then r.words else if r.kind = 10 then 1 else 0
theorem Zop (r : Zb) : Qu r = some (Gv r) := by
  unfold Qu Gv
  by_cases h : r.kind = 1
  · rw [if_pos h, show (r.kind == 1) = true from by rw [h]; rfl]; rfl
  rw [if_neg h, show (r.kind == 1) = false from Qq h]
  by_cases h' : r.kind = 10
  · rw [if_pos h', show (r.kind == 10) = true from by rw [h']; rfl]; rfl
  rw [if_neg h', show (r.kind == 10) = false from Qq h']; rfl
def Z1o (w : Int) (c j : Int) : Int := ((w.toNat / 2 ^ (j * wdt c).toNat % 2 ^ (wdt c).toNat : Nat) : Int)
def each (c : Int) : Int := 64 / wdt c
def Z4e (A : Zj) (r : Zb) : Int := if r.code = 0 then 0 else Z1o (wd A.segments r.segment (r.at_ + r.index / each r.code)) r.code (r.index % each r.code)
theorem c5 {c : Int} (h : 0 ≤ c ∧ c ≤ 5) : c = 0 ∨ c = 1 ∨ c = 2 ∨ c = 3 ∨ c = 4 ∨ c = 5 := by omega
theorem Zy2 {c : Int} (h : 0 ≤ c ∧ c ≤ 5) : Q1 c = some (wdt c, true) := by
  unfold Q1
  rcases c5 h with rfl | rfl | rfl | rfl | rfl | rfl <;> rfl
theorem Z6y (w : Nat) (k : Nat) (hw : w < 18446744073709551616) (hk : k ≤ 64) : IntKind.u64.wrap (Zb2 .u64 (w : Int) (IntKind.u64.wrap (IntKind.u64.wrap (1 * 2 ^ min (Int.toNat (k : Int)) 64) - 1))) = ((w % 2 ^ k : Nat) : Int) := by
  have hm : IntKind.u64.wrap (IntKind.u64.wrap (1 * 2 ^ min (Int.toNat (k : Int)) 64) - 1) = ((2 ^ k - 1 : Nat) : Int) := by
    rw [Int.toNat_natCast, Nat.min_eq_left hk, Zzq]
    rcases Nat.lt_or_ge k 64 with h | h
    · have h1 : 2 ^ k ≤ 2 ^ 63 := Nat.pow_le_pow_right (by decide) (by omega)
      have h2 : 0 < 2 ^ k := Nat.pow_pos (by decide)
      rw [Int.one_mul, Z9t (2 ^ k) (by omega), show (((2 ^ k : Nat) : Int) - 1) = ((2 ^ k - 1 : Nat) : Int) by omega, Z9t _ (by omega)]
    have : k = 64 := by omega
    subst this
    decide
  rw [hm]
  have e : Zb2 .u64 (w : Int) ((2 ^ k - 1 : Nat) : Int) = ((w &&& (2 ^ k - 1) : Nat) : Int) := by
    unfold Zb2
    congr 1
    have h1 : 2 ^ k ≤ 2 ^ 64 := Nat.pow_le_pow_right (by decide) hk
    have h2 : 0 < 2 ^ k := Nat.pow_pos (by decide)
    rw [BitVec.toNat_and]
    have e1 : (BitVec.ofInt (IntKind.u64).bits (w : Int)).toNat = w := by
      show (BitVec.ofInt 64 (w : Int)).toNat = w
      rw [BitVec.ofInt_natCast, BitVec.toNat_ofNat]
      exact Nat.mod_eq_of_lt (by omega)
    have e2 : (BitVec.ofInt (IntKind.u64).bits ((2 ^ k - 1 : Nat) : Int)).toNat = 2 ^ k - 1 := by
      show (BitVec.ofInt 64 ((2 ^ k - 1 : Nat) : Int)).toNat = 2 ^ k - 1
      rw [BitVec.ofInt_natCast, BitVec.toNat_ofNat]
      exact Nat.mod_eq_of_lt (by omega)
    rw [e1, e2]
  rw [e, Nat.and_two_pow_sub_one_eq_mod]
  have : w % 2 ^ k ≤ w := Nat.mod_le _ _
  exact IntWalk.u64_in _ (by omega)
theorem Yba {w c j : Int} (hw : 0 ≤ w ∧ w < 18446744073709551616) (hc : 1 ≤ c ∧ c ≤ 5) (hj : 0 ≤ j ∧ j < each c) : Zhf [w] c j = some (Z1o w c j) := by
  unfold Zhf Z1o
  rw [Zy2 (by omega), Option.bind_some]
  simp only
  obtain ⟨d, e, hd⟩ : ∃ d : Nat, wdt c = (d : Int) ∧ (d = 1 ∨ d = 8 ∨ d = 16 ∨ d = 32 ∨ d = 64) := by
    rcases c5 (c := c) (by omega) with rfl | rfl | rfl | rfl | rfl | rfl
    · omega
    · exact ⟨1, rfl, by omega⟩
    · exact ⟨8, rfl, by omega⟩
    · exact ⟨16, rfl, by omega⟩
    · exact ⟨32, rfl, by omega⟩
    exact ⟨64, rfl, by omega⟩
  have he : each c = ((64 / d : Nat) : Int) := by unfold each; rw [e]; rfl
  have hdd : 64 / d * d = 64 := by rcases hd with rfl | rfl | rfl | rfl | rfl <;> rfl
  have hdp : 1 ≤ d ∧ d ≤ 64 := by omega
  have hep : 1 ≤ 64 / d ∧ 64 / d ≤ 64 := by rcases hd with rfl | rfl | rfl | rfl | rfl <;> decide
  rw [he] at hj
  obtain ⟨q, rfl⟩ : ∃ q : Nat, j = q := ⟨j.toNat, by omega⟩
  have hq : q < 64 / d := by omega
  have hqd : q * d + d ≤ 64 := by
    have : (q + 1) * d ≤ 64 / d * d := Nat.mul_le_mul_right d hq
    rw [Nat.add_mul] at this
    omega
  rw [e]
  have t1 : Int.tdiv 64 (d : Int) = ((64 / d : Nat) : Int) := by rw [Int.tdiv_eq_ediv_of_nonneg (by decide)]; rfl
  have t2 : Int.tdiv (q : Int) ((64 / d : Nat) : Int) = 0 := by
    rw [Int.tdiv_eq_ediv_of_nonneg (by omega), show ((q : Int) / ((64 / d : Nat) : Int)) = ((q / (64 / d) : Nat) : Int) from rfl, Nat.div_eq_of_lt hq]
    rfl
  have t3 : Int.tmod (q : Int) ((64 / d : Nat) : Int) = (q : Int) := by
    rw [Int.tmod_eq_emod_of_nonneg (by omega), show ((q : Int) % ((64 / d : Nat) : Int)) = ((q % (64 / d) : Nat) : Int) from rfl, Nat.mod_eq_of_lt hq]
  rw [t1, Yf (x := ((64 / d : Nat) : Int)) (by omega) (by omega), t2, t3, show IntKind.i64.wrap 0 = 0 from by decide]
  have t4 : ((q : Int) * (d : Int)) = ((q * d : Nat) : Int) := by simp
  rw [t4, Yf (x := ((q * d : Nat) : Int)) (by omega) (by omega), show (((d : Nat) : Int) == 0) = false from Qq (by omega), show decide ((q : Int) < 0) = false from by rw [decide_eq_false_iff_not]; omega]
  simp only [cond_false]
  have g0 : Y5 [w] 0 = some w := rfl
  have e1 : Xi ((d : Int) ≠ 0) = some () := Ju (by omega)
  have e2 : Xi (((64 / d : Nat) : Int) ≠ 0) = some () := Ju (by omega)
  have e3 : Xi (0 ≤ ((q * d : Nat) : Int)) = some () := Ju (by omega)
  have e4 : Xi (0 ≤ (d : Int)) = some () := Ju (by omega)
  simp only [e1, e2, e3, e4, g0, Option.bind_some, cond_false, show decide ((([w] : List Int).length : Int) ≤ 0) = false from rfl]
  congr 1
  have hwn : w = ((w.toNat : Nat) : Int) := by omega
  have hf : Int.fdiv w (2 ^ min (Int.toNat ((q * d : Nat) : Int)) 64) = ((w.toNat / 2 ^ (q * d) : Nat) : Int) := by
    rw [Int.toNat_natCast, Nat.min_eq_left (by omega), Zzq, Int.fdiv_eq_ediv_of_nonneg _ (Int.natCast_nonneg _)]
    conv => lhs; rw [hwn]
    rfl
  rw [hf, Z6y _ d (Nat.lt_of_le_of_lt (Nat.div_le_self _ _) (by omega)) (by omega)]
  rw [Int.toNat_natCast, Int.toNat_natCast]
end
section
variable {A : Zj}
def Z57 (A : Zj) (r : Zb) (i : Int) : Int :=
  if i < 0 ∨ Gv r ≤ i then 0 else if r.kind = 10 then Z4e A r else wd A.segments r.segment (r.at_ + i)
theorem Yad {c i n : Int} (hc : 1 ≤ c ∧ c ≤ 5) (h0 : 0 ≤ i) (h1 : i < n) (hn : n < 536870912) : 1 ≤ each c ∧ each c ≤ 64 ∧ 0 ≤ i / each c ∧ i / each c + 1 ≤ (n * wdt c + 63) / 64 ∧ 0 ≤ i % each c ∧ i % each c < each c ∧ Int.tdiv 64 (wdt c) = each c ∧ wdt c ≠ 0 := by
  rcases c5 (c := c) (by omega) with rfl | rfl | rfl | rfl | rfl | rfl
  · omega
  · have e1 : each 1 = 64 := by decide
    have e2 : wdt 1 = 1 := by decide
    rw [e1, e2]; exact ⟨by omega, by omega, by omega, by omega, by omega, by omega, by decide, by decide⟩
  · have e1 : each 2 = 8 := by decide
    have e2 : wdt 2 = 8 := by decide
    rw [e1, e2]; exact ⟨by omega, by omega, by omega, by omega, by omega, by omega, by decide, by decide⟩
  · have e1 : each 3 = 4 := by decide
    have e2 : wdt 3 = 16 := by decide
    rw [e1, e2]; exact ⟨by omega, by omega, by omega, by omega, by omega, by omega, by decide, by decide⟩
  · have e1 : each 4 = 2 := by decide
    have e2 : wdt 4 = 32 := by decide
    rw [e1, e2]; exact ⟨by omega, by omega, by omega, by omega, by omega, by omega, by decide, by decide⟩
  have e1 : each 5 = 1 := by decide
  have e2 : wdt 5 = 64 := by decide
  rw [e1, e2]; exact ⟨by omega, by omega, by omega, by omega, by omega, by omega, by decide, by decide⟩
theorem Z64 (hw : WS A.segments) {s a c i n : Int} (hc : 0 ≤ c ∧ c ≤ 5) (h0 : 0 ≤ i) (h1 : i < n) (hn : n < 536870912) (hi : inB A.segments s a ((n * wdt c + 63) / 64) = true) : V2 ⟨some A, 10, s, a, 0, 0, 0, c, i⟩ = some (Z4e A ⟨some A, 10, s, a, 0, 0, 0, c, i⟩) := by
  unfold V2 Z4e
  simp only
  rw [Zy2 hc, Option.bind_some]
  simp only
  by_cases hz : c = 0
  · subst hz
    rw [show (wdt 0 == 0) = true from by decide, cond_true, if_pos rfl]
  obtain ⟨a1, a2, a3, a4, a5, a6, a7, a8⟩ := Yad (c := c) (by omega) h0 h1 hn
  have hr := Z1b hw hi
  have hi' := inB_iff.1 hi
  have hin : inB A.segments s (a + i / each c) 1 = true := inB_iff.2 ⟨hi'.1, hi'.2.1, by omega, by omega, by omega⟩
  rw [show (wdt c == 0) = false from Qq a8, cond_false, if_neg hz, a7, Yf (x := each c) (by omega) (by omega), Int.tdiv_eq_ediv_of_nonneg h0, Int.tmod_eq_emod_of_nonneg h0, Yf (x := i / each c) (by omega) (by omega), Yf (x := a + i / each c) (by omega) (by omega)]
  have e1 : Xi (wdt c ≠ 0) = some () := Ju a8
  have e2 : Xi (each c ≠ 0) = some () := Ju (by omega)
  simp only [e1, e2, Option.bind_some]
  rw [Zps hw, if_pos hin, Option.bind_some]
  simp only
  rw [Yba (Zxl hw _ _) (by omega) ⟨a5, a6⟩, Option.bind_some]
theorem Ybc (hw : WS A.segments) {r : Zb} (h : OKr A r) (i : Int) : Gi r i = some (Z57 A r i) := by
  unfold Gi Z57
  rw [Zop]
  have hz : (cond (decide (i < 0)) (some true) ((some (Gv r)).bind fun y4 => some (cond (decide (i < 0)) true (decide (y4 ≤ i))))) = some (decide (i < 0 ∨ Gv r ≤ i)) := by
    by_cases h0 : i < 0
    · rw [decide_eq_true h0, cond_true, show decide (i < 0 ∨ Gv r ≤ i) = true from decide_eq_true (.inl h0)]
    rw [decide_eq_false h0, cond_false, Option.bind_some, cond_false]
    congr 1
    rw [decide_eq_decide]
    omega
  rw [hz, Option.bind_some]
  by_cases hi : i < 0 ∨ Gv r ≤ i
  · rw [if_pos hi, decide_eq_true hi]; rfl
  rw [if_neg hi, decide_eq_false hi, cond_false]
  cases h with
  | z => exact absurd hi (by simp [Gv, r0]; try omega)
  | li k s a n hk hn hin => exact absurd hi (by simp only [Gv]; rw [if_neg (by omega), if_neg (by omega)]; omega)
  | co s a d p n hd hp hn hwx hin => exact absurd hi (by simp [Gv]; try omega)
  | at_ s a c i' n hc h0 h1 hn hin =>
    simp only [beq_self_eq_true, cond_true, if_true]
    rw [Z64 hw hc h0 h1 hn hin]
    rfl
  | st s a d p hd hp hin =>
    have := Z1b hw hin
    have hi' := inB_iff.1 hin
    simp only [Gv, if_true] at hi
    simp only [show ((1 : Int) == 10) = false from rfl, cond_false, show ¬ (1 : Int) = 10 from by decide, if_false]
    rw [Yf (by omega) (by omega), Zps hw, if_pos (inB_iff.2 ⟨hi'.1, hi'.2.1, by omega, by omega, by omega⟩)]
    rfl
theorem Z5w (hw : WS A.segments) : Zbo (some A) = some (atR A 0 0) := by
  unfold Zbo
  rw [Z7r hw]
  rfl
end
abbrev Tr := Za
def lvR (r : Zb) : Int := if r.kind = 0 then 0 else if r.kind = 9 ∧ 0 < r.count then 2 else 1
def wtR (r : Zb) : Int := if r.kind = 0 then 0 else if r.kind = 1 then 1 + r.words + r.ptrs else if r.kind = 9 then 1 + r.count * (1 + r.words + r.ptrs) else 1 + r.count
theorem Z60 (r : Zb) : Zcb r = some (lvR r) := by
  have hk : Yl r = some r.kind := rfl
  unfold Zcb lvR
  rw [hk, Zhv, Option.bind_some]
  by_cases h0 : r.kind = 0
  · rw [show (r.kind == 0) = true from by rw [h0]; rfl, if_pos h0]; rfl
  rw [show (r.kind == 0) = false from Qq h0, if_neg h0, cond_false, Option.bind_some]
  by_cases h9 : r.kind = 9
  · have hkn : Zx r = r.count := by unfold Zx; rw [if_neg (by omega)]
    rw [show (r.kind == 9) = true from by rw [h9]; rfl, cond_true, Option.bind_some, Option.bind_some, cond_true, hkn]
    by_cases hc : 0 < r.count
    · rw [if_pos ⟨h9, hc⟩, decide_eq_true hc]; rfl
    rw [if_neg (fun q => hc q.2), decide_eq_false hc]; rfl
  rw [show (r.kind == 9) = false from Qq h9, if_neg (fun q => h9 q.1)]; rfl
section
variable {A : Zj}
theorem Z91 (hw : WS A.segments) {r : Zb} (h : OKr A r) : 0 ≤ wtR r ∧ wtR r ≤ 4503599627370496 ∧ (r.kind ≠ 0 → 1 ≤ wtR r) := by
  cases h with
  | z => simp [wtR, r0]
  | st s a d p hd hp hin => simp [wtR]; omega
  | li k s a n hk hn hin => simp only [wtR]; rw [if_neg (by omega), if_neg (by omega), if_neg (by omega)]; omega
  | co s a d p n hd hp hn hwx hin =>
    simp only [wtR, show ¬ (9 : Int) = 0 from by decide, show ¬ (9 : Int) = 1 from by decide, if_false, if_true]
    have : n * (1 + d + p) = n + n * (d + p) := by rw [Int.add_assoc, Int.mul_add, Int.mul_one]
    omega
  | at_ s a c i n hc h0 h1 hn hin => simp [wtR]
theorem Z7e (hw : WS A.segments) {r : Zb} (h : OKr A r) : Zan r = some (wtR r) := by
  have hk : Yl r = some r.kind := rfl
  unfold Zan wtR
  rw [hk, Zop, Zhv, Option.bind_some]
  cases h with
  | z => rfl
  | st s a d p hd hp hin =>
    simp only [Gv, Zx, if_true, show ((1 : Int) == 0) = false from rfl, show ((1 : Int) == 1) = true from rfl, cond_false, cond_true, Option.bind_some, show ¬ (1 : Int) = 0 from by decide, if_false]
    rw [Yf (x := 1 + d) (by omega) (by omega), Yf (by omega) (by omega)]
  | li k s a n hk' hn hin =>
    simp only [Zx]
    rw [show (k == 0) = false from Qq (by omega), show (k == 1) = false from Qq (by omega), show (k == 9) = false from Qq (by omega), if_neg (by omega), if_neg (by omega), if_neg (by omega), if_neg (by omega), cond_false, cond_false, cond_false, Option.bind_some, Yf (by omega) (by omega)]
  | co s a d p n hd hp hn hwx hin =>
    have : n * (1 + d + p) = n + n * (d + p) := by rw [Int.add_assoc, Int.mul_add, Int.mul_one]
    unfold Za1
    simp only [Zx, show ((9 : Int) == 0) = false from rfl, show ((9 : Int) == 1) = false from rfl, show ((9 : Int) == 9) = true from rfl, show ((9 : Int) != 9) = false from rfl, cond_false, cond_true, Option.bind_some, show ¬ (9 : Int) = 0 from by decide, show ¬ (9 : Int) = 1 from by decide, if_false, if_true]
    rw [Yf (x := 1 + d) (by omega) (by omega), Yf (x := 1 + d + p) (by omega) (by omega), Yf (x := n * (1 + d + p)) (by omega) (by omega), Yf (by omega) (by omega)]
  | at_ s a c i n hc h0 h1 hn hin => rfl
def X7 (A : Zj) (r : Zb) : List Int := if r.kind = 10 then [Z4e A r] else if r.kind = 1 then ((seg A.segments r.segment).drop r.at_.toNat).take r.words.toNat else []
def Y4 (f : Zb → Int → Tr × Int × Int) (g : Int → Zb × Int) : Nat → Nat → Int → List Tr → List Tr × Int × Int
  | 0, _, left, acc => (acc, left, 0)
  | m + 1, i, left, acc => if (g i).2 ≠ 0 then (acc, left, (g i).2) else if (f (g i).1 left).2.2 ≠ 0 then (acc, (f (g i).1 left).2.1, (f (g i).1 left).2.2) else Y4 f g m (i + 1) (f (g i).1 left).2.1 (acc ++ [(f (g i).1 left).1])
def stK (A : Zj) (f : Zb → Int → Tr × Int × Int) (k : Zb) (left : Int) : Tr × Int × Int :=
  let q := Y4 f (Ys A k) k.ptrs.toNat 0 left []
  (⟨1, X7 A k, q.1⟩, q.2)
def Zgw (A : Zj) (k : Zb) (left : Int) : Tr × Int × Int := (⟨k.kind, X7 A k, []⟩, left, 0)
def Zew (A : Zj) (f1 f2 : Zb → Int → Tr × Int × Int) (r : Zb) : Zb → Int → Tr × Int × Int :=
  if r.kind = 9 then stK A f2 else if r.kind = 1 ∨ r.kind = 8 then f1 else Zgw A
def Zlk (A : Zj) (f1 f2 : Zb → Int → Tr × Int × Int) (d : Int) (r : Zb) (left : Int) : Tr × Int × Int :=
  if r.kind = 0 then (⟨r.kind, X7 A r, []⟩, left, 0)
  else if d < lvR r ∨ left < wtR r then (⟨r.kind, X7 A r, []⟩, left, 3)
  else
    let q := Y4 (Zew A f1 f2 r) (Ys A r) (Zx r).toNat 0 (left - wtR r) []
    (⟨r.kind, X7 A r, q.1⟩, q.2)
def bad (_ : Zb) (left : Int) : Tr × Int × Int := (⟨0, [], []⟩, left, 3)
def Zbh (A : Zj) : Nat → Zb → Int → Tr × Int × Int
  | 0 => Zlk A bad bad 0
  | 1 => Zlk A (Zbh A 0) bad 1
  | d + 2 => Zlk A (Zbh A (d + 1)) (Zbh A d) ((d + 2 : Nat) : Int)
def Xv (A : Zj) (k : Nat) (d : Nat) : Zb → Int → Tr × Int × Int := if k ≤ d then Zbh A (d - k) else bad
theorem Zqw (d : Nat) : Zbh A d = Zlk A (Xv A 1 d) (Xv A 2 d) (d : Int) := by
  match d with
  | 0 => rfl
  | 1 => rfl
  | d + 2 =>
    unfold Xv
    rw [if_pos (by omega), if_pos (by omega)]
    rfl
def Lf (A : Zj) (f : Zb → Int → Tr × Int × Int) : Prop := ∀ k left, OKr A k → 0 ≤ left → (f k left).2.2 = 0 → 0 ≤ (f k left).2.1 ∧ (f k left).2.1 ≤ left
theorem Zqf {f : Zb → Int → Tr × Int × Int} {g : Int → Zb × Int} (hf : Lf A f) (hg : ∀ i, OKr A (g i).1) : ∀ (m i : Nat) (left : Int) (acc : List Tr), 0 ≤ left → (Y4 f g m i left acc).2.2 = 0 → 0 ≤ (Y4 f g m i left acc).2.1 ∧ (Y4 f g m i left acc).2.1 ≤ left
  | 0, i, left, acc, h0, _ => ⟨h0, Int.le_refl _⟩
  | m + 1, i, left, acc, h0, h => by
    rw [Y4] at h ⊢
    by_cases h1 : (g i).2 ≠ 0
    · rw [if_pos h1] at h; exact absurd h h1
    rw [if_neg h1] at h ⊢
    by_cases h2 : (f (g i).1 left).2.2 ≠ 0
    · rw [if_pos h2] at h; exact absurd h h2
    rw [if_neg h2] at h ⊢
    have h2' : (f (g i).1 left).2.2 = 0 := by omega
    obtain ⟨a1, a2⟩ := hf _ _ (hg i) h0 h2'
    obtain ⟨b1, b2⟩ := Zqf hf hg m (i + 1) _ _ a1 h
    exact ⟨b1, by omega⟩
theorem Ztm : Lf A bad := fun k left _ _ h => by simp [bad] at h
theorem Z8j {f : Zb → Int → Tr × Int × Int} (hf : Lf A f) : Lf A (stK A f) := fun k left hk h0 h => Zqf hf (fun i => Uz hk i) _ _ _ _ h0 h
theorem Z8h : Lf A (Zgw A) := fun k left _ h0 _ => ⟨h0, Int.le_refl _⟩
theorem Z5k {f1 f2 : Zb → Int → Tr × Int × Int} (h1 : Lf A f1) (h2 : Lf A f2) (r : Zb) : Lf A (Zew A f1 f2 r) := by
  unfold Zew
  split
  · exact Z8j h2
  split
  · exact h1
  exact Z8h
theorem Z8i (hw : WS A.segments) {f1 f2 : Zb → Int → Tr × Int × Int} (h1 : Lf A f1) (h2 : Lf A f2) (d : Int) : Lf A (Zlk A f1 f2 d) := fun r left hr h0 h => by
  have hwt := Z91 hw hr
  unfold Zlk at h ⊢
  by_cases k0 : r.kind = 0
  · rw [if_pos k0]; exact ⟨h0, Int.le_refl _⟩
  rw [if_neg k0] at h ⊢
  by_cases hb : d < lvR r ∨ left < wtR r
  · rw [if_pos hb] at h; simp at h
  rw [if_neg hb] at h ⊢
  have := Zqf (Z5k h1 h2 r) (fun i => Uz hr i) (Zx r).toNat 0 (left - wtR r) [] (by omega) h
  simp only
  omega
theorem Zoj (hw : WS A.segments) : ∀ d, Lf A (Zbh A d) := fun d => by
  induction d using Nat.strongRecOn with
  | ind d ih =>
    rw [Zqw]
    refine Z8i hw ?_ ?_ _
    · unfold Xv
      split
      · exact ih _ (by omega)
      exact Ztm
    unfold Xv
    split
    · exact ih _ (by omega)
    exact Ztm
end
theorem Z1i {S R : Type} {s1 s2 : S → Option (S ⊕ R)} (h : ∀ s x, s1 s = some x → s2 s = some x) : ∀ (k : Nat) (s : S) (r : R), Zb3 s1 k s = some r → Zb3 s2 k s = some r
  | 0, s, r, q => by simp [Zb3] at q
  | k + 1, s, r, q => by
    simp only [Zb3] at q ⊢
    cases hs : s1 s with
    | none => rw [hs] at q; cases q
    | some x =>
      rw [hs] at q
      rw [h s x hs]
      cases x with
      | inl s' => exact Z1i h k s' r q
      | inr r' => exact q
theorem Zwd {S R : Type} {s1 s2 : S → Option (S ⊕ R)} (h : ∀ s x, s1 s = some x → s2 s = some x) {s : S} {r : R} (q : Zs s1 s = some r) : Zs s2 s = some r := by
  obtain ⟨k, hk⟩ := Zkd q
  exact Zlb (Z1i h k s r hk)
theorem Zbt {α β : Type} {o o' : Option α} {f f' : α → Option β} (h : ∀ x, o = some x → o' = some x) (hf : ∀ x y, f x = some y → f' x = some y) {r : β} (q : o.bind f = some r) : o'.bind f' = some r := by
  obtain ⟨x, h1, h2⟩ := Option.bind_eq_some_iff.1 q
  rw [h x h1]
  exact hf x r h2
theorem Zkp {α : Type} (c : Bool) {a a' b b' : Option α} (h1 : ∀ r, a = some r → a' = some r) (h2 : ∀ r, b = some r → b' = some r) (r : α) (q : cond c a b = some r) : cond c a' b' = some r := by
  cases c with
  | true => exact h1 r q
  | false => exact h2 r q
theorem Z8k {R : Type} {F : Nat → Option R} {r : R} (hm : ∀ k r, F k = some r → F (k + 1) = some r) {K : Nat} (h : F K = some r) : lim F = some r := by
  refine Zeb K fun k hk => ?_
  obtain ⟨d, rfl⟩ : ∃ d, k = K + d := ⟨k - K, by omega⟩
  clear hk
  induction d with
  | zero => exact h
  | succ d ih => exact hm _ _ ih
section
variable {A : Zj}
theorem Zuz {step : Int × Int → Option ((Int × Int) ⊕ ((Int × Int) ⊕ Int))} {F : Zf → Zb → Option (Int × Zf)} {f : Zb → Int → Tr × Int × Int} {r : Zb} (hw : WS A.segments) (hr : OKr A r) (n : Nat) (hn : n ≤ 1073741824)
    (hs : ∀ (i : Nat) (left : Int), i < n → step ((i : Int), left) = (Jx r i).bind fun y4 => cond (y4.2 != 0) (some (.inr (.inl (y4.2, left)))) ((F ⟨left⟩ y4.1).bind fun y6 => cond (y6.1 != 0) (some (.inr (.inl (y6.1, y6.2.left)))) (some (.inl (IntKind.i64.wrap ((i : Int) + 1), y6.2.left)))))
    (he : ∀ left, step ((n : Int), left) = some (.inr (.inr left)))
    (hf : Lf A f)
    (hF : ∀ (i : Nat) (left : Int), i < n → (Ys A r i).2 = 0 → 0 ≤ left ∧ left ≤ 65536 → ∃ e l', F ⟨left⟩ (Ys A r i).1 = some (e, ⟨l'⟩) ∧ e = (f (Ys A r i).1 left).2.2 ∧ (e = 0 → l' = (f (Ys A r i).1 left).2.1)) : ∀ (m i : Nat) (left : Int) (acc : List Tr), i + m = n → 0 ≤ left ∧ left ≤ 65536 →
    ∃ z, Zs step ((i : Int), left) = some z ∧ ((Y4 f (Ys A r) m i left acc).2.2 = 0 → z = .inr (Y4 f (Ys A r) m i left acc).2.1) ∧ ((Y4 f (Ys A r) m i left acc).2.2 ≠ 0 → ∃ x, z = .inl ((Y4 f (Ys A r) m i left acc).2.2, x))
  | 0, i, left, acc, hi, hl => by
    have : i = n := by omega
    subst this
    exact ⟨_, Y7 (he left), fun _ => rfl, fun h => absurd rfl h⟩
  | m + 1, i, left, acc, hi, hl => by
    have hst := hs i left (by omega)
    rw [Z8b hw hr, Option.bind_some] at hst
    rw [Y4]
    by_cases h1 : (Ys A r i).2 ≠ 0
    · rw [if_pos h1]
      rw [show ((Ys A r i).2 != 0) = true from bne_iff_ne.2 h1, cond_true] at hst
      exact ⟨_, Y7 hst, fun h => absurd h h1, fun _ => ⟨_, rfl⟩⟩
    rw [if_neg h1]
    have h1' : (Ys A r i).2 = 0 := by omega
    rw [show ((Ys A r i).2 != 0) = false from by rw [h1']; rfl, cond_false] at hst
    obtain ⟨e, l', q1, q2, q3⟩ := hF i left (by omega) h1' hl
    rw [q1, Option.bind_some] at hst
    simp only at hst
    by_cases h2 : (f (Ys A r i).1 left).2.2 ≠ 0
    · rw [if_pos h2]
      rw [q2, show ((f (Ys A r i).1 left).2.2 != 0) = true from bne_iff_ne.2 h2, cond_true] at hst
      exact ⟨_, Y7 hst, fun h => absurd h h2, fun _ => ⟨_, rfl⟩⟩
    rw [if_neg h2]
    have h2' : (f (Ys A r i).1 left).2.2 = 0 := by omega
    have e0 : e = 0 := q2.trans h2'
    have hl' := q3 e0
    have hb := hf _ left (Uz hr i) hl.1 h2'
    rw [e0, show ((0 : Int) != 0) = false from rfl, cond_false, Yf (by omega) (by omega), hl'] at hst
    rw [Ql (s' := (((i + 1 : Nat) : Int), (f (Ys A r i).1 left).2.1)) hst]
    exact Zuz hw hr n hn hs he hf hF m (i + 1) _ _ (by omega) ⟨hb.1, by omega⟩
def CK (A : Zj) (F : Zf → Zb → Int → Option (Int × Zf)) (f : Zb → Int → Tr × Int × Int) (d : Int) (r : Zb) (left : Int) : Prop := ∃ e l', F ⟨left⟩ r d = some (e, ⟨l'⟩) ∧ e = (f r left).2.2 ∧ (e = 0 → l' = (f r left).2.1)
theorem Zmj {r : Zb} (h : OKr A r) : 0 ≤ Zx r ∧ Zx r ≤ 1073741824 := by
  cases h with
  | z => simp [Zx, r0]
  | st s a d p hd hp hin => simp only [Zx, if_true]; omega
  | li k s a n hk hn hin => simp only [Zx]; rw [if_neg (by omega)]; omega
  | co s a d p n hd hp hn hwx hin => simp only [Zx]; rw [if_neg (by omega)]; omega
  | at_ s a c i n hc h0 h1 hn hin => simp [Zx]
theorem Z7v (hw : WS A.segments) {f1 f2 f3 : Zf → Zb → Int → Option (Int × Zf)} {f : Zb → Int → Tr × Int × Int} (hf : Lf A f) {r : Zb} (hr : OKr A r) {d left : Int} (hl : 0 ≤ left ∧ left ≤ 65536)
    (hF : ∀ (i : Nat) (l : Int), i < (Zx r).toNat → (Ys A r i).2 = 0 → 0 ≤ l ∧ l ≤ 65536 → CK A f1 f d (Ys A r i).1 l) :
    ∃ e l', Js f1 f2 f3 ⟨left⟩ r d = some (e, ⟨l'⟩) ∧ e = (Y4 f (Ys A r) (Zx r).toNat 0 left []).2.2 ∧ (e = 0 → l' = (Y4 f (Ys A r) (Zx r).toNat 0 left []).2.1) := by
  have hk := Zmj hr
  unfold Js
  rw [Zhv, Option.bind_some]
  have hN : Zx r = (((Zx r).toNat : Nat) : Int) := by omega
  obtain ⟨z, z1, z2, z3⟩ := Zuz (step := Jt f1 r d (Zx r)) (F := fun c k => f1 c k d) (f := f) hw hr (Zx r).toNat (by omega) (fun i l hi => by
    unfold Jt
    simp only
    rw [show decide ((i : Int) < Zx r) = true from by rw [decide_eq_true_eq]; omega, cond_true]) (fun l => by
    unfold Jt
    simp only
    rw [show decide ((((Zx r).toNat : Nat) : Int) < Zx r) = false from by rw [decide_eq_false_iff_not]; omega, cond_false]) hf hF (Zx r).toNat 0 left [] (by omega) hl
  rw [show (((0 : Nat) : Int)) = 0 from rfl] at z1
  rw [z1, Option.bind_some]
  by_cases hq : (Y4 f (Ys A r) (Zx r).toNat 0 left []).2.2 = 0
  · rw [z2 hq]
    exact ⟨_, _, rfl, hq.symm, fun _ => rfl⟩
  obtain ⟨x, hx⟩ := z3 hq
  rw [hx]
  exact ⟨_, _, rfl, rfl, fun h => absurd h hq⟩
theorem Z0q (hw : WS A.segments) {f1 f2 f3 : Zf → Zb → Int → Option (Int × Zf)} {f : Zb → Int → Tr × Int × Int} (hf : Lf A f) {r : Zb} (hr : OKr A r) {d left : Int} (hd : 0 ≤ d ∧ d ≤ 1000) (hl : 0 ≤ left ∧ left ≤ 65536)
    (hF : ∀ (i : Nat) (l : Int), i < (Zx r).toNat → (Ys A r i).2 = 0 → 0 ≤ l ∧ l ≤ 65536 → CK A f2 f (d - 1) (Ys A r i).1 l) :
    ∃ e l', Qm f1 f2 f3 ⟨left⟩ r d = some (e, ⟨l'⟩) ∧ e = (Y4 f (Ys A r) (Zx r).toNat 0 left []).2.2 ∧ (e = 0 → l' = (Y4 f (Ys A r) (Zx r).toNat 0 left []).2.1) := by
  have hk := Zmj hr
  unfold Qm
  rw [Zhv, Option.bind_some]
  obtain ⟨z, z1, z2, z3⟩ := Zuz (step := Qo f2 r d (Zx r)) (F := fun c k => f2 c k (d - 1)) (f := f) hw hr (Zx r).toNat (by omega) (fun i l hi => by
    unfold Qo
    simp only
    rw [show decide ((i : Int) < Zx r) = true from by rw [decide_eq_true_eq]; omega, cond_true, Yf (x := d - 1) (by omega) (by omega)]) (fun l => by
    unfold Qo
    simp only
    rw [show decide ((((Zx r).toNat : Nat) : Int) < Zx r) = false from by rw [decide_eq_false_iff_not]; omega, cond_false]) hf hF (Zx r).toNat 0 left [] (by omega) hl
  rw [show (((0 : Nat) : Int)) = 0 from rfl] at z1
  rw [z1, Option.bind_some]
  by_cases hq : (Y4 f (Ys A r) (Zx r).toNat 0 left []).2.2 = 0
  · rw [z2 hq]
    exact ⟨_, _, rfl, hq.symm, fun _ => rfl⟩
  obtain ⟨x, hx⟩ := z3 hq
  rw [hx]
  exact ⟨_, _, rfl, rfl, fun h => absurd h hq⟩
theorem Z06 {g : Int → Zb × Int} (n : Nat) (hg : ∀ i : Nat, i < n → (g i).2 = 0) : ∀ (m i : Nat) (left : Int) (acc : List Tr), i + m = n → (Y4 (Zgw A) g m i left acc).2 = (left, 0)
  | 0, i, left, acc, _ => rfl
  | m + 1, i, left, acc, h => by
    rw [Y4, if_neg (by rw [hg i (by omega)]; simp), if_neg (by simp [Zgw])]
    exact Z06 n hg m (i + 1) left _ (by omega)
theorem Z8a {r : Zb} (hk : 2 ≤ r.kind ∧ r.kind ≤ 7) (i : Int) : (Ys A r i).2 = 0 := by
  unfold Ys
  split
  · rfl
  rw [if_neg (by omega), if_neg (by omega), if_neg (by omega)]
theorem Zt6 {r : Zb} (hk : r.kind = 9) {i : Int} (h : 0 ≤ i ∧ i < Zx r) : (Ys A r i).1.kind = 1 := by
  unfold Ys
  rw [if_neg (by omega), if_neg (by omega), if_neg (by omega), if_pos hk]
theorem Z6k (hw : WS A.segments) {f1 f2 f3 : Zf → Zb → Int → Option (Int × Zf)} {g1 g2 : Zb → Int → Tr × Int × Int} {r : Zb} (hr : OKr A r) {d left : Int} (hd : 0 ≤ d ∧ d ≤ 1000) (hl : 0 ≤ left ∧ left ≤ 65536)
    (hK : (r.kind = 1 ∨ r.kind = 8) → 1 ≤ d → ∀ l, 0 ≤ l ∧ l ≤ 65536 → ∃ e l', f2 ⟨l⟩ r (d - 1) = some (e, ⟨l'⟩) ∧ e = (Y4 g1 (Ys A r) (Zx r).toNat 0 l []).2.2 ∧ (e = 0 → l' = (Y4 g1 (Ys A r) (Zx r).toNat 0 l []).2.1))
    (hS : r.kind = 9 → 1 ≤ d → (0 < r.count → 2 ≤ d) → ∀ l, 0 ≤ l ∧ l ≤ 65536 → ∃ e l', f3 ⟨l⟩ r (d - 1) = some (e, ⟨l'⟩) ∧ e = (Y4 (stK A g2) (Ys A r) (Zx r).toNat 0 l []).2.2 ∧ (e = 0 → l' = (Y4 (stK A g2) (Ys A r) (Zx r).toNat 0 l []).2.1)) :
    ∃ e l', Jc f1 f2 f3 ⟨left⟩ r d = some (e, ⟨l'⟩) ∧ e = (Zlk A g1 g2 d r left).2.2 ∧ (e = 0 → l' = (Zlk A g1 g2 d r left).2.1) := by
  have hwt := Z91 hw hr
  have hkd := Z8e hr
  have hkk : Yl r = some r.kind := rfl
  unfold Jc Zlk
  rw [Z60, Z7e hw hr, hkk]
  have hz : (cond (decide (d < lvR r)) (some true) ((some (wtR r)).bind fun y7 => some (cond (decide (d < lvR r)) true (decide (left < y7))))) = some (decide (d < lvR r ∨ left < wtR r)) := by
    by_cases h0 : d < lvR r
    · rw [decide_eq_true h0, cond_true, show decide (d < lvR r ∨ left < wtR r) = true from decide_eq_true (.inl h0)]
    rw [decide_eq_false h0, cond_false, Option.bind_some, cond_false]
    congr 1
    rw [decide_eq_decide]
    omega
  rw [Option.bind_some, hz, Option.bind_some]
  by_cases k0 : r.kind = 0
  · rw [if_pos k0]
    have e1 : lvR r = 0 := by unfold lvR; rw [if_pos k0]
    have e2 : wtR r = 0 := by unfold wtR; rw [if_pos k0]
    rw [e1, e2, show decide (d < 0 ∨ left < 0) = false from by rw [decide_eq_false_iff_not]; omega, cond_false, Option.bind_some, Option.bind_some, k0]
    refine ⟨0, left, ?_, rfl, fun _ => rfl⟩
    show some ((0 : Int), (⟨IntKind.i64.wrap (left - 0)⟩ : Zf)) = _
    rw [Yf (by omega) (by omega), Int.sub_zero]
  rw [if_neg k0]
  by_cases hb : d < lvR r ∨ left < wtR r
  · rw [if_pos hb, decide_eq_true hb, cond_true]
    exact ⟨_, _, rfl, rfl, fun h => by simp at h⟩
  rw [if_neg hb, decide_eq_false hb, cond_false, Option.bind_some, Option.bind_some, Yf (x := left - wtR r) (by omega) (by omega), Yf (x := d - 1) (by omega) (by omega)]
  have hlv : 1 ≤ d := by
    have : 1 ≤ lvR r := by unfold lvR; rw [if_neg k0]; split <;> omega
    omega
  have hl' : 0 ≤ left - wtR r ∧ left - wtR r ≤ 65536 := by omega
  by_cases k18 : r.kind = 1 ∨ r.kind = 8
  · have e1 : (cond (r.kind == 1) (some (r.kind == 1)) (some (r.kind == 8))) = some true := by
      rcases k18 with k | k <;> rw [k] <;> rfl
    have hkf : Zew A g1 g2 r = g1 := by unfold Zew; rw [if_neg (by omega), if_pos k18]
    rw [e1, Option.bind_some, cond_true, hkf]
    obtain ⟨e, l', q1, q2, q3⟩ := hK k18 hlv _ hl'
    rw [q1]
    exact ⟨e, l', rfl, q2, q3⟩
  have e1 : (cond (r.kind == 1) (some (r.kind == 1)) (some (r.kind == 8))) = some false := by
    rw [show (r.kind == 1) = false from Qq (by omega), show (r.kind == 8) = false from Qq (by omega)]; rfl
  rw [e1, Option.bind_some, cond_false]
  by_cases k9 : r.kind = 9
  · have hkf : Zew A g1 g2 r = stK A g2 := by unfold Zew; rw [if_pos k9]
    have hc : 0 < r.count → 2 ≤ d := fun hc => by
      have : lvR r = 2 := by unfold lvR; rw [if_neg k0, if_pos ⟨k9, hc⟩]
      omega
    rw [show (r.kind == 9) = true from by rw [k9]; rfl, cond_true, hkf]
    obtain ⟨e, l', q1, q2, q3⟩ := hS k9 hlv hc _ hl'
    rw [q1]
    exact ⟨e, l', rfl, q2, q3⟩
  have hkf : Zew A g1 g2 r = Zgw A := by unfold Zew; rw [if_neg k9, if_neg k18]
  rw [show (r.kind == 9) = false from Qq k9, cond_false, hkf]
  have hgo : (Y4 (Zgw A) (Ys A r) (Zx r).toNat 0 (left - wtR r) []).2 = (left - wtR r, 0) := by
    by_cases k10 : r.kind = 10
    · have : Zx r = 0 := by
        cases hr with
        | at_ s a c i n hc h0 h1 hn hin => simp [Zx]
        | z => simp [r0] at k10
        | st => simp at k10
        | li k s a n hk => simp only at k10; omega
        | co => simp at k10
      rw [this]; rfl
    exact Z06 (Zx r).toNat (fun i _ => Z8a (by omega) i) _ 0 _ _ (by omega)
  refine ⟨0, left - wtR r, rfl, ?_, fun _ => ?_⟩
  · simp only; rw [hgo]
  simp only; rw [hgo]
theorem Z7x (hw : WS A.segments) : ∀ (K : Nat), (∀ (d : Nat) r left, d ≤ 1000 → OKr A r → 0 ≤ left ∧ left ≤ 65536 → 2 * d + 1 ≤ K → CK A (Zp K).1 (Zbh A d) d r left) ∧
    (∀ (d : Nat) r left, d ≤ 1000 → OKr A r → 0 ≤ left ∧ left ≤ 65536 → 2 * d + 2 ≤ K → ∃ e l', (Zp K).2.1 ⟨left⟩ r d = some (e, ⟨l'⟩) ∧ e = (Y4 (Zbh A d) (Ys A r) (Zx r).toNat 0 left []).2.2 ∧ (e = 0 → l' = (Y4 (Zbh A d) (Ys A r) (Zx r).toNat 0 left []).2.1)) ∧
    (∀ (d : Nat) r left, d ≤ 1000 → OKr A r → r.kind = 9 → 0 ≤ left ∧ left ≤ 65536 → (0 < r.count → 1 ≤ d) → 2 * d + 2 ≤ K → ∃ e l', (Zp K).2.2 ⟨left⟩ r d = some (e, ⟨l'⟩) ∧ e = (Y4 (stK A (Xv A 1 d)) (Ys A r) (Zx r).toNat 0 left []).2.2 ∧ (e = 0 → l' = (Y4 (stK A (Xv A 1 d)) (Ys A r) (Zx r).toNat 0 left []).2.1))
  | 0 => ⟨fun d r left _ _ _ h => by omega, fun d r left _ _ _ h => by omega, fun d r left _ _ _ _ _ h => by omega⟩
  | K + 1 => by
    obtain ⟨i1, i2, i3⟩ := Z7x hw K
    refine ⟨fun d r left hd hr hl hK => ?_, fun d r left hd hr hl hK => ?_, fun d r left hd hr k9 hl hc hK => ?_⟩
    · show ∃ e l', Jc (Zp K).1 (Zp K).2.1 (Zp K).2.2 ⟨left⟩ r d = some (e, ⟨l'⟩) ∧ _
      rw [Zqw]
      refine Z6k hw hr (by omega) hl (fun k18 h1 l hl => ?_) (fun k9 h1 hc l hl => ?_)
      · have := i2 (d - 1) r l (by omega) hr hl (by omega)
        rw [show (((d - 1 : Nat) : Int)) = (d : Int) - 1 by omega] at this
        unfold Xv
        rw [if_pos (by omega)]
        exact this
      have := i3 (d - 1) r l (by omega) hr k9 hl (fun h => by have := hc h; omega) (by omega)
      rw [show (((d - 1 : Nat) : Int)) = (d : Int) - 1 by omega] at this
      have e : Xv A 1 (d - 1) = Xv A 2 d := by
        unfold Xv
        by_cases h2 : 2 ≤ d
        · rw [if_pos (by omega), if_pos h2, show d - 1 - 1 = d - 2 by omega]
        rw [if_neg (by omega), if_neg h2]
      rw [e] at this
      exact this
    · show ∃ e l', Js (Zp K).1 (Zp K).2.1 (Zp K).2.2 ⟨left⟩ r d = some (e, ⟨l'⟩) ∧ _
      exact Z7v hw (Zoj hw d) hr hl fun i l hi _ hl => i1 d _ l hd (Uz hr i) hl (by omega)
    show ∃ e l', Qm (Zp K).1 (Zp K).2.1 (Zp K).2.2 ⟨left⟩ r d = some (e, ⟨l'⟩) ∧ _
    have hlf : Lf A (Xv A 1 d) := by
      unfold Xv
      split
      · exact Zoj hw _
      exact Ztm
    refine Z0q hw (Z8j hlf) hr (by omega) hl fun i l hi _ hl => ?_
    have hkn : Zx r = r.count := by unfold Zx; rw [if_neg (by omega)]
    have hd1 : 1 ≤ d := hc (by omega)
    have h := i2 (d - 1) (Ys A r i).1 l (by omega) (Uz hr i) hl (by omega)
    rw [show (((d - 1 : Nat) : Int)) = (d : Int) - 1 by omega] at h
    have hk1 := Zt6 (A := A) k9 (i := (i : Int)) (by omega)
    have hkk : Zx (Ys A r i).1 = (Ys A r i).1.ptrs := by unfold Zx; rw [if_pos hk1]
    rw [hkk] at h
    have e : Xv A 1 d = Zbh A (d - 1) := by unfold Xv; rw [if_pos hd1]
    rw [e]
    exact h
def LE3 {α β γ δ : Type} (f g : α → β → γ → Option δ) : Prop := ∀ x y z r, f x y z = some r → g x y z = some r
theorem Z0s : ∀ (k : Nat), LE3 (Zp k).1 (Zp (k + 1)).1 ∧ LE3 (Zp k).2.1 (Zp (k + 1)).2.1 ∧ LE3 (Zp k).2.2 (Zp (k + 1)).2.2
  | 0 => ⟨fun x y z r h => (by cases h), fun x y z r h => (by cases h), fun x y z r h => (by cases h)⟩
  | k + 1 => by
    obtain ⟨i1, i2, i3⟩ := Z0s k
    refine ⟨fun c r d v h => ?_, fun c r d v h => ?_, fun c r d v h => ?_⟩
    · refine Zbt (fun _ q => q) (fun z => Zkp _ (fun _ q => q) fun _ => Zbt (fun _ q => q) fun w _ => Zbt (fun _ q => q) fun u _ => Zbt (fun _ q => q) fun b => Zkp _ (fun _ => Zbt (fun x q => i2 _ _ _ x q) fun _ _ q => q) (Zkp _ (fun _ => Zbt (fun x q => i3 _ _ _ x q) fun _ _ q => q) fun _ q => q)) h
    · refine Zbt (fun _ q => q) (fun n _ => Zbt (fun x => Zwd fun s y q => ?_) fun _ _ q => q) h
      exact Zkp _ (fun _ => Zbt (fun _ q => q) fun u => Zkp _ (fun _ q => q) fun _ => Zbt (fun x q => i1 _ _ _ x q) fun _ _ q => q) (fun _ q => q) y q
    refine Zbt (fun _ q => q) (fun n _ => Zbt (fun x => Zwd fun s y q => ?_) fun _ _ q => q) h
    exact Zkp _ (fun _ => Zbt (fun _ q => q) fun u => Zkp _ (fun _ q => q) fun _ => Zbt (fun x q => i2 _ _ _ x q) fun _ _ q => q) (fun _ q => q) y q
theorem Z6m (hw : WS A.segments) {d : Nat} (hd : d ≤ 1000) {r : Zb} (hr : OKr A r) {left : Int} (hl : 0 ≤ left ∧ left ≤ 65536) : CK A Zbr (Zbh A d) d r left := by
  obtain ⟨e, l', h1, h2, h3⟩ := (Z7x hw (2 * d + 1)).1 d r left hd hr hl (Nat.le_refl _)
  exact ⟨e, l', Z8k (F := fun k => (Zp k).1 ⟨left⟩ r d) (fun k x => (Z0s k).1 _ _ _ x) h1, h2, h3⟩
def Zu0 (x m : Int) : Int := if m < (if x < 0 then 0 else x) then m else (if x < 0 then 0 else x)
def Gs (x : Ye) : Ye := ⟨Zu0 x.Depth 64, Zu0 x.Weight 65536, Zu0 x.MaxD 4096, Zu0 x.MaxOut 131072⟩
theorem Z61 (x : Ye) : Zeg x = some (Gs x) := rfl
theorem Zpu (x m : Int) (hm : 0 ≤ m) : 0 ≤ Zu0 x m ∧ Zu0 x m ≤ m := by unfold Zu0; repeat' split; all_goals omega
def Z3z (A : Zj) (x : Ye) : Int × Int :=
  if (atR A 0 0).2 ≠ 0 then (0, (atR A 0 0).2)
  else
    let q := Zbh A (Gs x).Depth.toNat (atR A 0 0).1 (Gs x).Weight
    if q.2.2 ≠ 0 then (0, q.2.2) else ((Gs x).Weight - q.2.1, 0)
theorem Z7w (hw : WS A.segments) (x : Ye) : Zdb (some A) x = some (Z3z A x) := by
  unfold Zdb Z3z
  rw [Z61, Option.bind_some, Z5w hw, Option.bind_some]
  have hd : 0 ≤ (Gs x).Depth ∧ (Gs x).Depth ≤ 64 := Zpu _ _ (by decide)
  have hW : 0 ≤ (Gs x).Weight ∧ (Gs x).Weight ≤ 65536 := Zpu _ _ (by decide)
  by_cases h : (atR A 0 0).2 ≠ 0
  · rw [if_pos h, show ((atR A 0 0).2 != 0) = true from bne_iff_ne.2 h, cond_true]
  rw [if_neg h, show ((atR A 0 0).2 != 0) = false from bne_eq_false_iff_eq.2 (by omega), cond_false]
  obtain ⟨e, l', h1, h2, h3⟩ := Z6m hw (d := (Gs x).Depth.toNat) (by omega) (Zo9 (A := A) 0 0) hW
  rw [show (((Gs x).Depth.toNat : Nat) : Int) = (Gs x).Depth by omega] at h1
  rw [h1, Option.bind_some]
  simp only
  rw [h2]
  by_cases hq : (Zbh A (Gs x).Depth.toNat (atR A 0 0).1 (Gs x).Weight).2.2 ≠ 0
  · rw [if_pos hq, show ((Zbh A (Gs x).Depth.toNat (atR A 0 0).1 (Gs x).Weight).2.2 != 0) = true from bne_iff_ne.2 hq, cond_true]
  have h0 : (Zbh A (Gs x).Depth.toNat (atR A 0 0).1 (Gs x).Weight).2.2 = 0 := by omega
  have hb := Zoj hw _ _ _ (Zo9 (A := A) 0 0) hW.1 h0
  rw [if_neg hq, show ((Zbh A (Gs x).Depth.toNat (atR A 0 0).1 (Gs x).Weight).2.2 != 0) = false from bne_eq_false_iff_eq.2 h0, cond_false, h3 (by rw [h2, h0]), Yf (by omega) (by omega)]
end
theorem Yc4 (t : Tr) : (⟨t.Kind, t.Words, t.Kids⟩ : Tr) = t := by cases t; rfl
section
variable {A : Zj}
theorem Z1g (hw : WS A.segments) (k d : Nat) : Lf A (Xv A k d) := by
  unfold Xv
  split
  · exact Zoj hw _
  exact Ztm
def Zs2 (A : Zj) (x : Ye) : Tr × Int × Int :=
  if (atR A 0 0).2 ≠ 0 then (⟨0, [], []⟩, 0, (atR A 0 0).2)
  else
    let q := Zbh A (Gs x).Depth.toNat (atR A 0 0).1 (Gs x).Weight
    if q.2.2 ≠ 0 then (⟨0, [], []⟩, 0, q.2.2) else (q.1, (Gs x).Weight - q.2.1, 0)
theorem Ya9 (x : Ye) : (Zs2 A x).2 = Z3z A x := by
  unfold Zs2 Z3z
  by_cases h : (atR A 0 0).2 ≠ 0
  · rw [if_pos h, if_pos h]
  rw [if_neg h, if_neg h]
  simp only
  by_cases hq : (Zbh A (Gs x).Depth.toNat (atR A 0 0).1 (Gs x).Weight).2.2 ≠ 0
  · rw [if_pos hq, if_pos hq]
  rw [if_neg hq, if_neg hq]
end
section
variable {A : Zj}
theorem Zxv (hw : WS A.segments) {r : Zb} (h : OKr A r) : ((X7 A r).length : Int) = Gv r := by
  unfold X7 Gv
  cases h with
  | z => rfl
  | li k s a n hk hn hin => simp only; rw [if_neg (by omega), if_neg (by omega), if_neg (by omega), if_neg (by omega)]; rfl
  | co => rfl
  | at_ => rfl
  | st s a d p hd hp hin =>
    have hi' := inB_iff.1 hin
    simp only [show ¬ (1 : Int) = 10 from by decide, if_false, if_true, List.length_take, List.length_drop]
    omega
theorem Z7f (hw : WS A.segments) {r : Zb} (h : OKr A r) {i : Nat} (hi : i < (X7 A r).length) : (X7 A r)[i] = Z57 A r (i : Int) := by
  have hl := Zxv hw h
  unfold Z57
  rw [if_neg (by omega)]
  cases h with
  | z => simp [X7, r0] at hi
  | li k s a n hk hn hin =>
    have : X7 A ⟨some A, k, s, a, 0, 0, n, 0, 0⟩ = [] := by unfold X7; rw [if_neg (by simp only; omega), if_neg (by simp only; omega)]
    simp [this] at hi
  | co => simp [X7] at hi
  | at_ s a c j n hc h0 h1 hn hin =>
    have : i = 0 := by
      simp [X7] at hi; exact hi
    subst this
    rfl
  | st s a d p hd hp hin =>
    have hi' := inB_iff.1 hin
    have hid : (i : Int) < d := by simp [Gv] at hl; omega
    simp only [X7, show ¬ (1 : Int) = 10 from by decide, if_false, if_true, List.getElem_take, List.getElem_drop]
    unfold wd
    rw [show (a + (i : Int)).toNat = a.toNat + i by omega, List.getElem?_eq_getElem (by omega)]
    rfl
end
section
variable {A : Zj}
theorem Ycb (hw : WS A.segments) (s : Int) : ∀ w ∈ seg A.segments s, 0 ≤ w ∧ w < 18446744073709551616 := by
  unfold seg
  cases h : A.segments[s.toNat]? with
  | none => simp
  | some x => exact hw.w x (List.mem_of_getElem? h)
end
theorem Yk {t x : Tr} (h : x ∈ t.Kids) : SizeOf.sizeOf x < SizeOf.sizeOf t := by
  obtain ⟨k, w, ks⟩ := t
  have := List.sizeOf_lt_of_mem h
  simp only [Za.mk.sizeOf_spec]
  simp only at this
  omega
theorem Zvo {α R : Type} (xs : List α) (step : Int → Option (Int ⊕ R)) (p : α → Bool) (e o : R) (hl : (xs.length : Int) ≤ 140737488355328)
    (h1 : ∀ (i : Nat) (x : α), i < xs.length → xs[i]? = some x → x ∈ xs → step i = some (if p x = true then .inr e else .inl (IntKind.i64.wrap ((i : Int) + 1)))) (h2 : step xs.length = some (.inr o)) : Zs step 0 = some (if xs.any p = true then e else o) := by
  have hloop := Z62 xs (fun i (_ : Unit) => i) step (fun _ x => some (if p x = true then .inr e else .inl ())) (fun _ => o) (fun i s x hi hx => by
    rw [h1 i x hi hx (List.mem_of_getElem? hx), Yf (by omega) (by omega)]
    cases p x <;> rfl) (fun _ => h2) ()
  refine hloop.trans ?_
  rw [Zu7 p (fun s _ => s) e (fun _ _ => True) xs.length xs () 0 (by omega) trivial (fun s k x _ _ _ => ⟨by cases p x <;> rfl, fun _ => trivial⟩)]
def tr {α : Type} (p : α → Bool) : List α → List α
  | [] => []
  | x :: xs => match tr p xs with
    | [] => if p x = true then [] else [x]
    | y :: ys => x :: y :: ys
def trN {α : Type} (p : α → Bool) (l : List α) : Nat → Nat
  | 0 => 0
  | n + 1 => match l[n]? with
    | some x => if p x = true then trN p l n else n + 1
    | none => 0
theorem Zob {α : Type} {p : α → Bool} {x : α} (h : p x = true) : ∀ l : List α, tr p (l ++ [x]) = tr p l
  | [] => by simp [tr, h]
  | y :: l => by simp only [List.cons_append, tr, Zob h l]
theorem Zt9 {α : Type} {p : α → Bool} {x : α} (h : p x = false) : ∀ l : List α, tr p (l ++ [x]) = l ++ [x]
  | [] => by simp [tr, h]
  | y :: l => by
    simp only [List.cons_append, tr, Zt9 h l]
    cases hl : l ++ [x] with
    | nil => simp at hl
    | cons a b => rfl
theorem Zxh {α : Type} {p : α → Bool} {l : List α} : ∀ n, n ≤ l.length → l.take (trN p l n) = tr p (l.take n) ∧ trN p l n ≤ n
  | 0, _ => by simp [trN, tr]
  | n + 1, h => by
    have hn : l[n]? = some l[n] := List.getElem?_eq_getElem (by omega)
    have e : l.take (n + 1) = l.take n ++ [l[n]] := by rw [List.take_add_one, hn]; rfl
    obtain ⟨h1, h2⟩ := Zxh (p := p) (l := l) n (by omega)
    unfold trN
    rw [hn]
    simp only
    split
    · rename_i hp
      rw [e, Zob hp]
      exact ⟨h1, by omega⟩
    rename_i hp
    rw [e, Zt9 (by simpa using hp), ← e]
    exact ⟨rfl, Nat.le_refl _⟩
theorem Zlg {α : Type} (p : α → Bool) : ∀ l : List α, (tr p l).length ≤ l.length
  | [] => by simp [tr]
  | x :: l => by
    have := Zlg p l
    simp only [tr]
    split
    · split <;> simp
    rename_i y ys he
    rw [he] at this
    simp at this ⊢
    omega
theorem Zi9 {α : Type} {p : α → Bool} {x : α} : ∀ {l : List α}, x ∈ tr p l → x ∈ l
  | [], h => by simp [tr] at h
  | y :: l, h => by
    simp only [tr] at h
    split at h
    · split at h
      · simp at h
      simp at h; simp [h]
    rename_i z zs he
    rw [← he] at h
    rcases List.mem_cons.1 h with h | h
    · simp [h]
    exact List.mem_cons_of_mem _ (Zi9 h)
theorem Zy1 {α : Type} {p : α → Bool} : ∀ l : List α, tr p (tr p l) = tr p l
  | [] => rfl
  | x :: l => by
    have ih := Zy1 (p := p) l
    simp only [tr]
    cases h : tr p l with
    | nil =>
      simp only
      cases hx : p x <;> simp [tr, hx]
    | cons y ys =>
      rw [h] at ih
      simp only [tr] at ih ⊢
      rw [ih]
theorem Z4x {α β : Type} {p : α → Bool} {q : β → Bool} {f : α → β} (h : ∀ x, q (f x) = p x) : ∀ l : List α, tr q (l.map f) = (tr p l).map f
  | [] => rfl
  | x :: l => by
    simp only [List.map_cons, tr, Z4x h l]
    cases tr p l with
    | nil => simp only [List.map_nil, h]; split <;> rfl
    | cons y ys => rfl
theorem Zzp {α : Type} (l : List α) (p : α → Bool) (step : Int → Option (Int ⊕ Int)) (hl : (l.length : Int) ≤ 140737488355328)
    (h0 : step 0 = some (.inr 0)) (h1 : ∀ (n : Nat) (x : α), l[n]? = some x → n < l.length → step ((n + 1 : Nat) : Int) = some (if p x = true then .inl (n : Int) else .inr ((n + 1 : Nat) : Int))) : Zs step (l.length : Int) = some (trN p l l.length : Int) := by
  have key : ∀ n : Nat, n ≤ l.length → Zs step (n : Int) = some (trN p l n : Int) := fun n => by
    induction n with
    | zero => intro _; exact Y7 h0
    | succ n ih =>
      intro hn
      have hx : l[n]? = some l[n] := List.getElem?_eq_getElem (by omega)
      have h := h1 n _ hx (by omega)
      unfold trN
      rw [hx]
      simp only
      split
      · rename_i hp
        rw [if_pos hp] at h
        rw [Ql h]
        exact ih (by omega)
      rename_i hp
      rw [if_neg hp] at h
      exact Y7 h
  exact key l.length (Nat.le_refl _)
theorem Zr0 {α : Type} {l : List α} {n : Nat} (h : n ≤ l.length) : Zif l 0 (n : Int) = some (l.take n) := by
  rw [Z53 (by omega) (by omega) (by omega)]
  simp
theorem Yb2 {n : Nat} : decide (0 < ((n + 1 : Nat) : Int)) = true := by rw [decide_eq_true_eq]; omega
theorem Z0c {l : List Int} (hl : (l.length : Int) ≤ 140737488355328) : Zal l = some (tr (fun x => x == 0) l) := by
  have hloop := Zzp l (fun x => x == 0) (V3 l) hl (by unfold V3; rfl) (fun n x hx hn => by
    unfold V3
    rw [Yb2, cond_true, Yf (by omega) (by omega)]
    have e : ((n + 1 : Nat) : Int) - 1 = (n : Int) := by omega
    rw [e, Yo hx]
    simp only [Option.bind_some, cond_true]
    cases x == 0 <;> rfl)
  obtain ⟨h1, h2⟩ := Zxh (p := fun x => x == 0) (l := l) l.length (Nat.le_refl _)
  unfold Zal
  rw [hloop, Option.bind_some, Zr0 h2, Option.bind_some, h1, List.take_length]
theorem Z3b {l : List Tr} (hl : (l.length : Int) ≤ 140737488355328) : Zbf l = some (tr (fun x => x.Kind == 0) l) := by
  have hloop := Zzp l (fun x => x.Kind == 0) (Us l) hl (by unfold Us; rfl) (fun n x hx hn => by
    unfold Us
    rw [Yb2, cond_true, Yf (by omega) (by omega)]
    have e : ((n + 1 : Nat) : Int) - 1 = (n : Int) := by omega
    rw [e, Yo hx]
    simp only [Option.bind_some, cond_true]
    cases x.Kind == 0 <;> rfl)
  obtain ⟨h1, h2⟩ := Zxh (p := fun x => x.Kind == 0) (l := l) l.length (Nat.le_refl _)
  unfold Zbf
  rw [hloop, Option.bind_some, Zr0 h2, Option.bind_some, h1, List.take_length]
theorem Z84 {l : List Int} (hl : l.length * 8 ≤ 140737488355328) : Gh l = some (tr (fun x => x == 0) l) := by
  have hloop := Zzp l (fun x => x == 0) (Vk l) (by omega) (by unfold Vk; rfl) (fun n x hx hn => by
    unfold Vk
    rw [Yb2, cond_true, Yf (by omega) (by omega)]
    have e : ((n + 1 : Nat) : Int) - 1 = (n : Int) := by omega
    rw [e, Yo hx]
    simp only [Option.bind_some, cond_true]
    cases x == 0 <;> rfl)
  obtain ⟨h1, h2⟩ := Zxh (p := fun x => x == 0) (l := l) l.length (Nat.le_refl _)
  have h3 := Zlg (fun x => x == 0) l
  unfold Gh
  rw [hloop, Option.bind_some, Zr0 h2, Option.bind_some, h1, List.take_length, V9 (by rw [List.length_nil]; omega) (by rw [List.length_nil]; omega)]
  rfl
inductive Bd : Tr → Prop
  | mk (t : Tr) (h1 : t.Words.length * 8 ≤ 140737488355328) (h2 : t.Kids.length * 56 ≤ 140737488355328) (h3 : ∀ w ∈ t.Words, 0 ≤ w ∧ w < 18446744073709551616) (h4 : ∀ k ∈ t.Kids, Bd k) : Bd t
theorem Bd.w {t : Tr} (h : Bd t) : t.Words.length * 8 ≤ 140737488355328 := by cases h; assumption
theorem Bd.k {t : Tr} (h : Bd t) : t.Kids.length * 56 ≤ 140737488355328 := by cases h; assumption
theorem Bd.u {t : Tr} (h : Bd t) : ∀ w ∈ t.Words, 0 ≤ w ∧ w < 18446744073709551616 := by cases h; assumption
theorem Bd.all {t : Tr} (h : Bd t) : ∀ k ∈ t.Kids, Bd k := by cases h; assumption
def nrm (t : Tr) : Tr :=
  if t.Kind = 0 then ⟨0, [], []⟩
  else if t.Kind = 1 then ⟨1, tr (fun x => x == 0) t.Words, tr (fun x => x.Kind == 0) (t.Kids.attach.map fun k => nrm k.1)⟩
  else ⟨t.Kind, t.Words, t.Kids.attach.map fun k => nrm k.1⟩
termination_by SizeOf.sizeOf t
decreasing_by all_goals exact Yk k.2
theorem Zgd (t : Tr) : nrm t = if t.Kind = 0 then ⟨0, [], []⟩ else if t.Kind = 1 then ⟨1, tr (fun x => x == 0) t.Words, tr (fun x => x.Kind == 0) (t.Kids.map nrm)⟩ else ⟨t.Kind, t.Words, t.Kids.map nrm⟩ := by
  rw [nrm]
  simp only [List.attach_map_val]
theorem Zeh (t : Tr) : (nrm t).Kind = t.Kind := by
  rw [Zgd]
  split
  · rename_i h; exact h.symm
  split
  · rename_i h; exact h.symm
  rfl
theorem Z9f {α β : Type} {xs : List α} {f : α → β} {z : β} {i m : Nat} {x : α} (hi : i + (m + 1) = xs.length) (hx : xs[i]? = some x) :
    ((xs.take i).map f ++ List.replicate (m + 1) z).set i (f x) = (xs.take (i + 1)).map f ++ List.replicate m z := by
  have hl : ((xs.take i).map f).length = i := by rw [List.length_map, List.length_take]; omega
  rw [List.set_append, if_neg (by omega), hl, Nat.sub_self, List.replicate_succ, List.set_cons_zero, List.take_add_one, hx]
  simp
theorem Z8l {α β : Type} (xs : List α) (f : α → β) (z : β) (step : Int × List β → Option ((Int × List β) ⊕ List β)) (hl : (xs.length : Int) ≤ 140737488355328)
    (h1 : ∀ (i : Nat) (x : α) (out : List β) (y : β), i < xs.length → xs[i]? = some x → x ∈ xs → out[i]? = some y → step ((i : Int), out) = some (.inl (IntKind.i64.wrap ((i : Int) + 1), Qy out (i : Int) (f x))))
    (h2 : ∀ out, step ((xs.length : Int), out) = some (.inr out)) : Zs step (0, List.replicate xs.length z) = some (xs.map f) := by
  have key : ∀ m i, i + m = xs.length → Zs step ((i : Int), (xs.take i).map f ++ List.replicate m z) = some (xs.map f) := fun m => by
    induction m with
    | zero =>
      intro i hi
      have hi' : i = xs.length := by omega
      subst hi'
      rw [List.take_length, List.replicate_zero, List.append_nil]
      exact Y7 (h2 _)
    | succ m ih =>
      intro i hi
      have hx : xs[i]? = some xs[i] := List.getElem?_eq_getElem (by omega)
      have hl' : ((xs.take i).map f).length = i := by rw [List.length_map, List.length_take]; omega
      have hy : ((xs.take i).map f ++ List.replicate (m + 1) z)[i]? = some z := by
        rw [List.getElem?_append_right (by omega), hl', Nat.sub_self, List.replicate_succ]; rfl
      have h := h1 i _ _ z (by omega) hx (List.mem_of_getElem? hx) hy
      rw [Yf (by omega) (by omega)] at h
      rw [Ql h]
      unfold Qy
      rw [Int.toNat_natCast, Z9f (by omega) hx]
      exact ih (i + 1) (by omega)
  have := key xs.length 0 (by omega)
  simpa using this
theorem Z5r : ∀ (k : Nat) (t : Tr), Bd t → SizeOf.sizeOf t < k → Ua k t = some (nrm t)
  | 0, t, _, h => by omega
  | k + 1, t, hb, hk => by
    have ih : ∀ x ∈ t.Kids, Ua k x = some (nrm x) := fun x hx => Z5r k x (hb.all x hx) (by have := Yk hx; omega)
    have hw := hb.w
    have hkd := hb.k
    show Ze7 (Ua k) t = _
    unfold Ze7
    rw [Zgd]
    by_cases h0 : t.Kind = 0
    · rw [if_pos h0, h0]; rfl
    have e0 : (t.Kind == 0) = false := by rw [beq_eq_false_iff_ne]; exact h0
    rw [if_neg h0, e0, cond_false]
    have main : ∀ (w : List Int) (ks : List Tr), (ks.length : Int) ≤ 140737488355328 → (56 : Int) * ks.length ≤ 140737488355328 → (∀ x ∈ ks, Ua k x = some (nrm x)) →
        ((cond (decide (0 < ((w, ks).2.length : Int))) ((Zgl 56 ((w, ks).2.length : Int) (⟨(0 : Int), ([] : (List Int)), ([] : (List Za))⟩ : Za)).bind fun l6 => some l6) (some ([] : List Za))).bind fun (z5 : (List Za)) => (Zs (Zae (Ua k) (w, ks)) (0, z5)).bind fun (z14 : (List Za)) => some (⟨t.Kind, (w, ks).1, z14⟩ : Za)) = some ⟨t.Kind, w, ks.map nrm⟩ := fun w ks h1 h2 hks => by
      have hz : (cond (decide (0 < ((w, ks).2.length : Int))) ((Zgl 56 ((w, ks).2.length : Int) (⟨(0 : Int), ([] : (List Int)), ([] : (List Za))⟩ : Za)).bind fun l6 => some l6) (some ([] : List Za))) = some (List.replicate ks.length (⟨0, [], []⟩ : Tr)) := by
        cases ks with
        | nil => rfl
        | cons y ys =>
          have : decide (0 < (((w, y :: ys).2.length : Nat) : Int)) = true := by rw [decide_eq_true_eq]; simp
          rw [this, cond_true, Zms (Int.natCast_nonneg _) h2 h1, Option.bind_some, Int.toNat_natCast]
      rw [hz, Option.bind_some]
      rw [Z8l ks nrm _ (Zae (Ua k) (w, ks)) h1 (fun i x out z hi hx hm hz => by
          unfold Zae
          simp only
          rw [Zb4 hi, cond_true, Yo hx, Option.bind_some, hks x hm, Option.bind_some, Yo hz, Option.bind_some]) (fun out => by
          unfold Zae
          simp only
          rw [Zbx, cond_false]), Option.bind_some]
    by_cases h1 : t.Kind = 1
    · have e1 : (t.Kind == 1) = true := by rw [beq_iff_eq]; exact h1
      have l1 := Zlg (fun x : Tr => x.Kind == 0) t.Kids
      rw [if_pos h1, e1, cond_true, Z0c (by omega), Option.bind_some, Z3b (by omega), Option.bind_some, Option.bind_some]
      rw [main _ _ (by omega) (by omega) (fun x hx => ih x (Zi9 hx)), Z4x (fun x => by rw [Zeh]), h1]
    have e1 : (t.Kind == 1) = false := by rw [beq_eq_false_iff_ne]; exact h1
    rw [if_neg h1, e1, cond_false, Option.bind_some]
    exact main _ _ (by omega) (by omega) ih
theorem Zzr {t : Tr} (h : Bd t) : Zfo t = some (nrm t) := Zeb (SizeOf.sizeOf t + 1) fun k hk => Z5r k t h (by omega)
theorem Zua {α : Type} {p : α → Bool} {x : α} {l : List α} (h : tr p l = []) : tr p (x :: l) = if p x = true then [] else [x] := by simp only [tr, h]
theorem Zxi {α : Type} {p : α → Bool} {x : α} {l : List α} (h : tr p l ≠ []) : tr p (x :: l) = x :: tr p l := by
  simp only [tr]
  split
  · rename_i h'; exact absurd h' h
  rename_i h'; rw [h']
theorem Z5j : ∀ (l : List Tr) (n : Nat) (acc : Int), (l.zipIdx n).foldl (fun a p => if p.1.Kind = 0 then a else ((p.2 + 1 : Nat) : Int)) acc = if (tr (fun x => x.Kind == 0) l).length = 0 then acc else ((n + (tr (fun x => x.Kind == 0) l).length : Nat) : Int)
  | [], n, acc => by simp [tr]
  | x :: l, n, acc => by
    rw [List.zipIdx_cons, List.foldl_cons, Z5j l (n + 1)]
    by_cases h : tr (fun x => x.Kind == 0) l = []
    · rw [Zua h, h]
      by_cases hx : x.Kind = 0
      · simp [hx]
      simp [hx]
    have h' : (tr (fun x => x.Kind == 0) l).length ≠ 0 := by simpa using h
    rw [Zxi h, if_neg h', List.length_cons, if_neg (by omega)]
    congr 1
    omega
theorem Ya7 {α : Type} (p : α → Bool) (l : List α) : l.take (tr p l).length = tr p l := by
  obtain ⟨h1, h2⟩ := Zxh (p := p) (l := l) l.length (Nat.le_refl _)
  rw [List.take_length] at h1
  rw [← h1, List.length_take]
  congr 1
  omega
theorem Z88 {k : Nat} {t : Tr} (hl : t.Kids.length * 56 ≤ 140737488355328) (ih : ∀ x ∈ t.Kids, Xj k x = some (nrm x)) :
    Zs (Qn (Xj k) t) (0, 0, []) = some (if (tr (fun x => x.Kind == 0) (t.Kids.map nrm)).length = 0 then 0 else ((tr (fun x => x.Kind == 0) (t.Kids.map nrm)).length : Int), t.Kids.map nrm) := by
  have key : ∀ (l pre : List Tr) (a : Int), t.Kids = pre ++ l → Zs (Qn (Xj k) t) (a, ((pre.length : Nat) : Int), pre.map nrm) = some (((l.map nrm).zipIdx pre.length).foldl (fun a p => if p.1.Kind = 0 then a else ((p.2 + 1 : Nat) : Int)) a, t.Kids.map nrm) := fun l => by
    induction l with
    | nil =>
      intro pre a hp
      rw [List.append_nil] at hp
      refine Y7 ?_
      unfold Qn
      simp only
      rw [hp, Zbx, cond_false]
      rfl
    | cons x l ihl =>
      intro pre a hp
      have hx : t.Kids[pre.length]? = some x := by rw [hp, List.getElem?_append_right (Nat.le_refl _), Nat.sub_self]; rfl
      have hi : pre.length < t.Kids.length := by rw [hp]; simp
      have hm : x ∈ t.Kids := List.mem_of_getElem? hx
      have hs : Qn (Xj k) t (a, ((pre.length : Nat) : Int), pre.map nrm) = some (.inl (if x.Kind = 0 then a else ((pre.length + 1 : Nat) : Int), (((pre ++ [x]).length : Nat) : Int), (pre ++ [x]).map nrm)) := by
        unfold Qn
        simp only
        rw [Zb4 hi, cond_true, Yo hx, Option.bind_some, ih x hm, Option.bind_some, V9 (by simp; omega) (by simp; omega), Option.bind_some, Yf (by omega) (by omega), Zeh]
        have e : ((pre.length : Nat) : Int) + 1 = ((pre.length + 1 : Nat) : Int) := by omega
        rw [e]
        by_cases h0 : x.Kind = 0
        · simp [h0]
        have : (x.Kind != 0) = true := by simp [h0]
        rw [this, cond_true]
        simp [h0]
      rw [Ql hs, ihl (pre ++ [x]) _ (by rw [hp]; simp)]
      simp only [List.map_cons, List.zipIdx_cons, List.foldl_cons, List.length_append, List.length_singleton, Zeh]
  have := key t.Kids [] 0 rfl
  rw [Z5j] at this
  simpa using this
theorem Z13 : ∀ (k : Nat) (t : Tr), Bd t → SizeOf.sizeOf t < k → Xj k t = some (nrm t)
  | 0, t, _, h => by omega
  | k + 1, t, hb, hk => by
    have ih : ∀ x ∈ t.Kids, Xj k x = some (nrm x) := fun x hx => Z13 k x (hb.all x hx) (by have := Yk hx; omega)
    have hw := hb.w
    have hkd := hb.k
    show U9 (Xj k) t = _
    unfold U9
    rw [Zgd]
    by_cases h0 : t.Kind = 0
    · rw [if_pos h0, h0]; rfl
    have e0 : (t.Kind == 0) = false := by rw [beq_eq_false_iff_ne]; exact h0
    rw [if_neg h0, e0, cond_false, Z88 hkd ih, Option.bind_some]
    by_cases h1 : t.Kind = 1
    · have e1 : (t.Kind == 1) = true := by rw [beq_iff_eq]; exact h1
      rw [if_pos h1, e1, cond_true, Z84 hw, Option.bind_some]
      have l1 := Zlg (fun x : Tr => x.Kind == 0) (t.Kids.map nrm)
      have l2 : (if (tr (fun x => x.Kind == 0) (t.Kids.map nrm)).length = 0 then (0 : Int) else ((tr (fun x => x.Kind == 0) (t.Kids.map nrm)).length : Int)) = ((tr (fun x => x.Kind == 0) (t.Kids.map nrm)).length : Int) := by
        split
        · rename_i h; rw [h]; rfl
        rfl
      simp only [l2]
      rw [Zr0 l1, Option.bind_some, Ya7]
    have e1 : (t.Kind == 1) = false := by rw [beq_eq_false_iff_ne]; exact h1
    rw [if_neg h1, e1, cond_false, V9 (by rw [List.length_nil]; omega) (by rw [List.length_nil]; omega)]
    rfl
theorem Z14 {t : Tr} (h : Bd t) : Zbv t = some (nrm t) := Zeb (SizeOf.sizeOf t + 1) fun k hk => Z13 k t h (by omega)
theorem Z8q : ∀ (n : Nat) (t : Tr), SizeOf.sizeOf t < n → Bd t → Bd (nrm t)
  | 0, t, h, _ => by omega
  | n + 1, t, hn, hb => by
    have ih : ∀ x ∈ t.Kids, Bd (nrm x) := fun x hx => Z8q n x (by have := Yk hx; omega) (hb.all x hx)
    have hw := hb.w
    have hk := hb.k
    rw [Zgd]
    split
    · exact .mk _ (by simp) (by simp) (fun w h => by simp at h) (fun w h => by simp at h)
    split
    · have l1 := Zlg (fun x : Int => x == 0) t.Words
      have l2 := Zlg (fun x : Tr => x.Kind == 0) (t.Kids.map nrm)
      rw [List.length_map] at l2
      refine .mk _ (by simp only; omega) (Nat.le_trans (Nat.mul_le_mul_right 56 l2) hk) (fun w h => hb.u w (Zi9 h)) (fun x h => ?_)
      obtain ⟨y, hy, rfl⟩ := List.mem_map.1 (Zi9 h)
      exact ih y hy
    refine .mk _ hw (by simp only [List.length_map]; exact hk) hb.u (fun x h => ?_)
    obtain ⟨y, hy, rfl⟩ := List.mem_map.1 h
    exact ih y hy
theorem Bd.nrm {t : Tr} (h : Bd t) : Bd (nrm t) := Z8q _ t (Nat.lt_succ_self _) h
theorem Zyr : ∀ (n : Nat) (t : Tr), SizeOf.sizeOf t < n → nrm (nrm t) = nrm t
  | 0, t, h => by omega
  | n + 1, t, hn => by
    have ih : ∀ x ∈ t.Kids, nrm (nrm x) = nrm x := fun x hx => Zyr n x (by have := Yk hx; omega)
    have em : ∀ l : List Tr, (∀ x ∈ l, x ∈ t.Kids) → (l.map nrm).map nrm = l.map nrm := fun l hl => by
      rw [List.map_map]
      exact List.map_congr_left fun x hx => ih x (hl x hx)
    rw [Zgd t]
    by_cases h0 : t.Kind = 0
    · rw [if_pos h0, Zgd]; simp
    rw [if_neg h0]
    by_cases h1 : t.Kind = 1
    · rw [if_pos h1, Zgd]
      simp only [if_neg (show ¬ (1 : Int) = 0 by decide), if_true]
      have q1 : ∀ l : List Tr, tr (fun x : Tr => x.Kind == 0) (l.map nrm) = (tr (fun x : Tr => x.Kind == 0) l).map nrm := Z4x (fun x => by rw [Zeh])
      rw [Zy1, q1, Zy1, q1, em _ (fun x hx => Zi9 hx)]
    rw [if_neg h1, Zgd]
    simp only
    rw [if_neg h0, if_neg h1, em _ (fun x hx => hx)]
theorem Zol (t : Tr) : nrm (nrm t) = nrm t := Zyr _ t (Nat.lt_succ_self _)
def eqT (a b : Tr) : Bool := a.Kind == b.Kind && (a.Words == b.Words && (a.Kids.length == b.Kids.length && (a.Kids.attach.zip b.Kids).all fun p => eqT p.1.1 p.2))
termination_by SizeOf.sizeOf a
decreasing_by exact Yk p.1.2
def eqL : List Tr → List Tr → Bool
  | [], [] => true
  | x :: xs, y :: ys => eqT x y && eqL xs ys
  | _, _ => false
theorem Z6a : ∀ (l m : List Tr) (P : Tr → Prop) (l' : List {x // P x}), l'.map (·.1) = l → (l.length == m.length && (l'.zip m).all fun p => eqT p.1.1 p.2) = eqL l m
  | [], [], P, l', h => by cases l' <;> simp_all [eqL]
  | [], y :: m, P, l', h => by cases l' <;> simp_all [eqL]
  | x :: l, [], P, l', h => by cases l' <;> simp_all [eqL]
  | x :: l, y :: m, P, l', h => by
    cases l' with
    | nil => simp at h
    | cons z l' =>
      simp only [List.map_cons, List.cons.injEq] at h
      have ih := Z6a l m P l' h.2
      simp only [List.length_cons, List.zip_cons_cons, List.all_cons, eqL, h.1]
      rw [← ih]
      have : (l.length + 1 == m.length + 1) = (l.length == m.length) := by simp
      rw [this]
      cases l.length == m.length <;> cases eqT x y <;> rfl
theorem Z71 (a b : Tr) : eqT a b = (a.Kind == b.Kind && (a.Words == b.Words && eqL a.Kids b.Kids)) := by
  rw [eqT, Z6a a.Kids b.Kids (· ∈ a.Kids) a.Kids.attach (by simp)]
theorem Z0y (x y : Tr) (xs ys : List Tr) : eqL (x :: xs) (y :: ys) = (eqT x y && eqL xs ys) := rfl
theorem Zyl : ∀ (n : Nat) (a b : Tr), SizeOf.sizeOf a < n → (eqT a b = true ↔ a = b)
  | 0, a, b, h => by omega
  | n + 1, a, b, hn => by
    have ih : ∀ x ∈ a.Kids, ∀ y, eqT x y = true ↔ x = y := fun x hx y => Zyl n x y (by have := Yk hx; omega)
    have hl : ∀ (l m : List Tr), (∀ x ∈ l, x ∈ a.Kids) → (eqL l m = true ↔ l = m) := fun l => by
      induction l with
      | nil => intro m _; cases m <;> simp [eqL]
      | cons x l ihl =>
        intro m hm
        cases m with
        | nil => simp [eqL]
        | cons y m => rw [Z0y, Bool.and_eq_true, ih x (hm x (.head _)) y, ihl m (fun z hz => hm z (.tail _ hz)), List.cons.injEq]
    rw [Z71, Bool.and_eq_true, Bool.and_eq_true, hl a.Kids b.Kids (fun x hx => hx), beq_iff_eq, beq_iff_eq]
    obtain ⟨k, w, ks⟩ := a
    obtain ⟨k', w', ks'⟩ := b
    simp
theorem eqT_iff {a b : Tr} : eqT a b = true ↔ a = b := Zyl _ a b (Nat.lt_succ_self _)
theorem Z7n : ∀ (a b : List Int), a.length = b.length → (a.zip b).any (fun p => p.1 != p.2) = !(a == b)
  | [], [], _ => rfl
  | [], _ :: _, h => by simp at h
  | _ :: _, [], h => by simp at h
  | x :: a, y :: b, h => by
    have ih := Z7n a b (by simpa using h)
    rw [List.zip_cons_cons, List.any_cons, ih]
    by_cases hxy : x = y
    · subst hxy; simp
    simp [bne, hxy]
theorem Z1k {R : Type} (a b : List Int) (step : Int → Option (Int ⊕ R)) (e o : R) (hab : a.length = b.length) (hl : (a.length : Int) ≤ 140737488355328)
    (h1 : ∀ (i : Nat) (x y : Int), i < a.length → a[i]? = some x → b[i]? = some y → step i = some (if (x != y) = true then .inr e else .inl (IntKind.i64.wrap ((i : Int) + 1)))) (h2 : step a.length = some (.inr o)) :
    Zs step 0 = some (if (a == b) = true then o else e) := by
  have hz : (a.zip b).length = a.length := by rw [List.length_zip]; omega
  have := Zvo (a.zip b) step (fun p => p.1 != p.2) e o (by rw [hz]; exact hl) (fun i p hi hp hm => by
    rw [hz] at hi
    have ha : a[i]? = some a[i] := List.getElem?_eq_getElem hi
    have hb : b[i]? = some b[i] := List.getElem?_eq_getElem (by omega)
    have : p = (a[i], b[i]) := by
      rw [List.getElem?_eq_getElem (by rw [hz]; exact hi)] at hp
      injection hp with hp
      rw [← hp, List.getElem_zip]
    subst this
    exact h1 i _ _ hi ha hb) (by rw [hz]; exact h2)
  rw [this, Z7n a b hab]
  cases a == b <;> rfl
theorem Z4b {a b : Nat} : ((a : Int) != (b : Int)) = !(a == b) := by
  rw [Bool.eq_iff_iff]; simp; omega
theorem Z5b {a b : List Int} (h : ¬ a.length = b.length) : (a == b) = false := by
  rw [beq_eq_false_iff_ne]; intro e; exact h (by rw [e])
theorem Z18 {a b : List Int} (h : (a.length : Int) ≤ 140737488355328) : Vr a b = some (a == b) := by
  unfold Vr
  rw [Z4b]
  by_cases hab : a.length = b.length
  · have : (!(a.length == b.length)) = false := by simp [hab]
    rw [this, cond_false, Z1k a b (Vj a b) (.inl ()) (.inr ()) hab h (fun i x y hi hx hy => by
      unfold Vj
      rw [Zb4 hi, cond_true, Yo hx, Option.bind_some, Yo hy, Option.bind_some]
      cases x != y <;> rfl) (by unfold Vj; rw [Zbx]; rfl)]
    cases a == b <;> rfl
  have : (!(a.length == b.length)) = true := by simp [hab]
  rw [this, cond_true, Z5b hab]
theorem Z6o {a b : List Int} (h : (a.length : Int) ≤ 140737488355328) : X8 a b = some (a == b) := by
  unfold X8
  rw [Z4b]
  by_cases hab : a.length = b.length
  · have : (!(a.length == b.length)) = false := by simp [hab]
    rw [this, cond_false, Z1k a b (Xn a b) (.inl ()) (.inr ()) hab h (fun i x y hi hx hy => by
      unfold Xn
      rw [Zb4 hi, cond_true, Yo hx, Option.bind_some, Yo hy, Option.bind_some]
      cases x != y <;> rfl) (by unfold Xn; rw [Zbx]; rfl)]
    cases a == b <;> rfl
  have : (!(a.length == b.length)) = true := by simp [hab]
  rw [this, cond_true, Z5b hab]
theorem Ybg (q : Tr → Tr → Bool) : ∀ (a b : List Tr), (a.zip b).any (fun p => !q p.1 p.2) = !((a.zip b).all fun p => q p.1 p.2)
  | [], b => by simp
  | x :: a, [] => by simp
  | x :: a, y :: b => by rw [List.zip_cons_cons, List.any_cons, Ybg q a b, List.all_cons]; cases q x y <;> rfl
theorem Z63 {R : Type} (a b : List Tr) (q : Tr → Tr → Bool) (step : Int → Option (Int ⊕ R)) (e o : R) (hab : a.length = b.length) (hl : (a.length : Int) ≤ 140737488355328)
    (h1 : ∀ (i : Nat) (x y : Tr), i < a.length → a[i]? = some x → b[i]? = some y → x ∈ a → y ∈ b → step i = some (if (!q x y) = true then .inr e else .inl (IntKind.i64.wrap ((i : Int) + 1)))) (h2 : step a.length = some (.inr o)) :
    Zs step 0 = some (if ((a.zip b).all fun p => q p.1 p.2) = true then o else e) := by
  have hz : (a.zip b).length = a.length := by rw [List.length_zip]; omega
  have := Zvo (a.zip b) step (fun p => !q p.1 p.2) e o (by rw [hz]; exact hl) (fun i p hi hp hm => by
    rw [hz] at hi
    have ha : a[i]? = some a[i] := List.getElem?_eq_getElem hi
    have hb : b[i]? = some b[i] := List.getElem?_eq_getElem (by omega)
    have : p = (a[i], b[i]) := by
      rw [List.getElem?_eq_getElem (by rw [hz]; exact hi)] at hp
      injection hp with hp
      rw [← hp, List.getElem_zip]
    subst this
    exact h1 i _ _ hi ha hb (List.getElem_mem _) (List.getElem_mem _)) (by rw [hz]; exact h2)
  rw [this, Ybg q a b]
  cases (a.zip b).all fun p => q p.1 p.2 <;> rfl
theorem Z0m : ∀ (a b : List Tr), a.length = b.length → ((a.zip b).all fun p => eqT p.1 p.2) = eqL a b
  | [], [], _ => rfl
  | [], _ :: _, h => by simp at h
  | _ :: _, [], h => by simp at h
  | x :: a, y :: b, h => by
    have ih := Z0m a b (by simpa using h)
    rw [List.zip_cons_cons, List.all_cons, ih]; rfl
theorem Z5e : ∀ (a b : List Tr), a.length ≠ b.length → eqL a b = false
  | [], [], h => by simp at h
  | [], _ :: _, _ => rfl
  | _ :: _, [], _ => rfl
  | x :: a, y :: b, h => by rw [Z0y, Z5e a b (by simpa using h), Bool.and_false]
theorem Z50 : ∀ (k : Nat) (a b : Tr), Bd a → Bd b → SizeOf.sizeOf a < k → Jo k a b = some (eqT a b)
  | 0, a, b, _, _, h => by omega
  | k + 1, a, b, ha, hb, hk => by
    have ih : ∀ x ∈ a.Kids, ∀ y ∈ b.Kids, Jo k x y = some (eqT x y) := fun x hx y hy => Z50 k x y (ha.all x hx) (hb.all y hy) (by have := Yk hx; omega)
    have hw := ha.w
    have hkd := ha.k
    show Ga (Jo k) a b = _
    unfold Ga
    rw [Z71, Z18 (by omega), Option.bind_some, Z4b]
    by_cases h0 : a.Kind = b.Kind
    · have e0 : (a.Kind != b.Kind) = false := by simp [h0]
      have e1 : (a.Kind == b.Kind) = true := by simp [h0]
      rw [e0, e1, cond_false, cond_false, Option.bind_some, Bool.true_and]
      cases hw' : a.Words == b.Words with
      | false => rfl
      | true =>
        rw [Bool.not_true, cond_false, Bool.true_and]
        by_cases hab : a.Kids.length = b.Kids.length
        · have : (!(a.Kids.length == b.Kids.length)) = false := by simp [hab]
          rw [this, cond_false, Z63 a.Kids b.Kids eqT (Vg (Jo k) a b) (.inl ()) (.inr ()) hab (by omega) (fun i x y hi hx hy hmx hmy => by
            unfold Vg
            rw [Zb4 hi, cond_true, Yo hx, Option.bind_some, Yo hy, Option.bind_some, ih x hmx y hmy, Option.bind_some]
            cases eqT x y <;> rfl) (by unfold Vg; rw [Zbx]; rfl)]
          rw [Z0m a.Kids b.Kids hab]
          cases eqL a.Kids b.Kids <;> rfl
        have : (!(a.Kids.length == b.Kids.length)) = true := by simp [hab]
        rw [this, cond_true, Z5e _ _ hab]
    have e0 : (a.Kind != b.Kind) = true := by simp [h0]
    have e1 : (a.Kind == b.Kind) = false := by simp [h0]
    rw [e0, e1]; rfl
theorem Ya2 {a b : Tr} (ha : Bd a) (hb : Bd b) : Gg a b = some (eqT a b) := Zeb (SizeOf.sizeOf a + 1) fun k hk => Z50 k a b ha hb (by omega)
theorem Zcc {t : Tr} (h : t.Kind = 0) : nrm t = ⟨0, [], []⟩ := by rw [Zgd, if_pos h]
theorem K6 {t : Tr} (h : t.Kind = 1) : nrm t = ⟨1, tr (fun x => x == 0) t.Words, tr (fun x => x.Kind == 0) (t.Kids.map nrm)⟩ := by rw [Zgd, if_neg (by rw [h]; decide), if_pos h]
theorem Zbi {t : Tr} (h0 : ¬ t.Kind = 0) (h1 : ¬ t.Kind = 1) : nrm t = ⟨t.Kind, t.Words, t.Kids.map nrm⟩ := by rw [Zgd, if_neg h0, if_neg h1]
theorem Zwj (t : Tr) : 0 < SizeOf.sizeOf t := by
  obtain ⟨k, w, ks⟩ := t
  simp only [Za.mk.sizeOf_spec]
  omega
def pt (t : Tr) : Nat := 1 + t.Words.length + (t.Kids.attach.map fun k => pt k.1).sum
termination_by SizeOf.sizeOf t
decreasing_by exact Yk k.2
theorem Zis (t : Tr) : pt t = 1 + t.Words.length + (t.Kids.map pt).sum := by
  rw [pt]
  simp only [List.attach_map_val]
theorem Zwh : ∀ (k : Nat) (t : Tr) (d left : Int), Bd t → SizeOf.sizeOf t < k → 0 ≤ d → d ≤ 100 → 0 ≤ left → left ≤ 1000000 → ∃ r, Yi k t d left = some r ∧ -1 ≤ r ∧ r ≤ 1000000 ∧ (0 ≤ r → r + pt t ≤ left)
  | 0, t, _, _, _, h, _, _, _, _ => by omega
  | k + 1, t, d, left, hb, hk, hd0, hd1, hl0, hl1 => by
    have ih : ∀ x ∈ t.Kids, ∀ d left : Int, 0 ≤ d → d ≤ 100 → 0 ≤ left → left ≤ 1000000 → ∃ r, Yi k x d left = some r ∧ -1 ≤ r ∧ r ≤ 1000000 ∧ (0 ≤ r → r + pt x ≤ left) := fun x hx d left => Zwh k x d left (hb.all x hx) (by have := Yk hx; omega)
    have hw := hb.w
    have hkd := hb.k
    show ∃ r, Xy (Yi k) t d left = some r ∧ _
    unfold Xy
    rw [Yf (x := left - 1) (by omega) (by omega), Yf (by omega) (by omega), Zis]
    cases hc : cond (d == 0) true (decide (left - 1 - (t.Words.length : Int) < 0)) with
    | true => exact ⟨-1, rfl, by omega, by omega, fun h => by omega⟩
    | false =>
      rw [cond_false]
      have hd : ¬ d = 0 ∧ 0 ≤ left - 1 - (t.Words.length : Int) := by
        by_cases h : d = 0
        · simp [h] at hc
        have e : (d == 0) = false := by simp [h]
        rw [e, cond_false, decide_eq_false_iff_not] at hc
        exact ⟨h, by omega⟩
      obtain ⟨r, h1, h2⟩ := Zrv (step := Xs (Yi k) t d)
        (fun s => ∃ j : Nat, s.2 = j ∧ j ≤ t.Kids.length ∧ -1 ≤ s.1 ∧ s.1 ≤ 1000000 ∧ (0 ≤ s.1 → s.1 + (((t.Kids.take j).map pt).sum : Nat) ≤ left - 1 - (t.Words.length : Int)))
        (fun s => t.Kids.length - s.2.toNat) (fun r => -1 ≤ r ∧ r ≤ 1000000 ∧ (0 ≤ r → r + ((t.Kids.map pt).sum : Nat) ≤ left - 1 - (t.Words.length : Int))) (fun s hI => by
          obtain ⟨l, i⟩ := s
          obtain ⟨j, rfl, hj, g1, g2, g3⟩ := hI
          simp only at g1 g2 g3 ⊢
          unfold Xs
          simp only
          by_cases hji : j < t.Kids.length
          · rw [Zb4 hji, cond_true]
            by_cases hl : 0 ≤ l
            · have e : decide (0 ≤ l) = true := by simp [hl]
              have hx : t.Kids[j]? = some t.Kids[j] := List.getElem?_eq_getElem hji
              obtain ⟨r, q1, q2, q3, q4⟩ := ih t.Kids[j] (List.getElem_mem hji) (d - 1) l (by omega) (by omega) hl g2
              rw [e, cond_true, Yo hx, Option.bind_some, Yf (by omega) (by omega), q1, Option.bind_some, Yf (by omega) (by omega)]
              refine .inl ⟨_, rfl, ⟨j + 1, by simp only; omega, by omega, q2, q3, fun hr => ?_⟩, by simp only; omega⟩
              have := q4 hr
              have := g3 hl
              rw [List.take_add_one, hx]
              simp only [Option.toList_some, List.map_append, List.map_cons, List.map_nil, List.sum_append, List.sum_cons, List.sum_nil]
              simp only at hr
              omega
            have e : decide (0 ≤ l) = false := by simp [hl]
            rw [e, cond_false]
            exact .inr ⟨l, rfl, g1, g2, fun h => absurd h hl⟩
          have hj' : j = t.Kids.length := by omega
          subst hj'
          rw [Zbx, cond_false]
          rw [List.take_length] at g3
          exact .inr ⟨l, rfl, g1, g2, g3⟩) (left - 1 - (t.Words.length : Int), 0) ⟨0, rfl, Nat.zero_le _, by simp only; omega, by simp only; omega, fun _ => by simp⟩
      rw [h1]
      refine ⟨r, rfl, h2.1, h2.2.1, fun hr => ?_⟩
      have := h2.2.2 hr
      omega
theorem Z03 {α : Type} {xs : List α} {i : Int} {x : α} (h : Y5 xs i = some x) : x ∈ xs := List.mem_of_getElem? (Zqc h)
theorem Zrx : ∀ (k k' : Nat) (t : Tr) (d left : Int), SizeOf.sizeOf t < k → SizeOf.sizeOf t < k' → Yi k t d left = Yi k' t d left
  | 0, _, t, _, _, h, _ => by omega
  | k + 1, 0, t, _, _, _, h => by omega
  | k + 1, k' + 1, t, d, left, h, h' => by
    show Xy (Yi k) t d left = Xy (Yi k') t d left
    have e : Xs (Yi k) t d = Xs (Yi k') t d := funext fun s => by
      unfold Xs
      cases hx : Y5 t.Kids s.2 with
      | none => rfl
      | some x => simp only [Option.bind_some, Zrx k k' x (IntKind.i64.wrap (d - 1)) s.1 (by have := Yk (Z03 hx); omega) (by have := Yk (Z03 hx); omega)]
    unfold Xy
    rw [e]
def wt (t : Tr) : Nat :=
  if t.Kind = 0 then 0 else if t.Kind = 10 then 1
  else (if t.Kind = 1 then 1 + (t.Words.length + t.Kids.length) else if t.Kind = 8 then 1 + t.Kids.length else 1) + (t.Kids.attach.map fun k => wt k.1).sum
termination_by SizeOf.sizeOf t
decreasing_by all_goals exact Yk k.2
theorem Zxx (t : Tr) : wt t = if t.Kind = 0 then 0 else if t.Kind = 10 then 1 else (if t.Kind = 1 then 1 + (t.Words.length + t.Kids.length) else if t.Kind = 8 then 1 + t.Kids.length else 1) + (t.Kids.map wt).sum := by
  rw [wt]
  simp only [List.attach_map_val]
theorem Z5i {α : Type} {f : α → Nat} {x : α} : ∀ {l : List α}, x ∈ l → f x ≤ (l.map f).sum
  | y :: l, h => by
    simp only [List.map_cons, List.sum_cons]
    rcases List.mem_cons.1 h with rfl | h
    · omega
    have := Z5i (f := f) h
    omega
theorem Z8m {α : Type} (xs : List α) (f : α → Nat) (s0 B : Nat) (step : Int × Int → Option ((Int × Int) ⊕ Int)) (hl : (xs.length : Int) ≤ 140737488355328) (hs : s0 + (xs.map f).sum ≤ B) (hB : B ≤ 140737488355328)
    (h1 : ∀ (i : Nat) (x : α) (s : Int), i < xs.length → xs[i]? = some x → x ∈ xs → step (s, (i : Int)) = some (.inl (IntKind.i64.wrap (s + f x), IntKind.i64.wrap ((i : Int) + 1))))
    (h2 : ∀ s, step (s, (xs.length : Int)) = some (.inr s)) : Zs step ((s0 : Int), 0) = some ((s0 + (xs.map f).sum : Nat) : Int) := by
  have key : ∀ (l pre : List α) (s : Nat), xs = pre ++ l → s + (l.map f).sum ≤ B → Zs step ((s : Int), ((pre.length : Nat) : Int)) = some ((s + (l.map f).sum : Nat) : Int) := fun l => by
    induction l with
    | nil =>
      intro pre s hp _
      rw [List.append_nil] at hp
      subst hp
      exact Y7 (by rw [h2]; simp)
    | cons x l ih =>
      intro pre s hp hb
      have hx : xs[pre.length]? = some x := by rw [hp, List.getElem?_append_right (Nat.le_refl _), Nat.sub_self]; rfl
      have hi : pre.length < xs.length := by rw [hp]; simp
      simp only [List.map_cons, List.sum_cons] at hb ⊢
      have h := h1 pre.length x s hi hx (List.mem_of_getElem? hx)
      rw [Yf (by omega) (by omega), Yf (by omega) (by omega)] at h
      have e : (s : Int) + (f x : Int) = ((s + f x : Nat) : Int) := by omega
      have e2 : ((pre.length : Nat) : Int) + 1 = (((pre ++ [x]).length : Nat) : Int) := by simp
      rw [e, e2] at h
      rw [Ql h, ih (pre ++ [x]) (s + f x) (by rw [hp]; simp) (by omega)]
      congr 2
      omega
  exact key xs [] s0 rfl hs
section
variable {A : Zj}
theorem Z36 {f : Zb → Int → Tr × Int × Int} {g : Int → Zb × Int} {Q : Tr → Prop} (hQ : ∀ i left, Q (f (g i).1 left).1) : ∀ (m i : Nat) (left : Int) (acc : List Tr), (∀ t ∈ acc, Q t) → (∀ t ∈ (Y4 f g m i left acc).1, Q t) ∧ (Y4 f g m i left acc).1.length ≤ acc.length + m
  | 0, i, left, acc, h => ⟨h, Nat.le_refl _⟩
  | m + 1, i, left, acc, h => by
    rw [Y4]
    split
    · exact ⟨h, by simp only; omega⟩
    split
    · exact ⟨h, by simp only; omega⟩
    obtain ⟨h1, h2⟩ := Z36 hQ m (i + 1) (f (g i).1 left).2.1 (acc ++ [(f (g i).1 left).1]) fun t ht => by
      rcases List.mem_append.1 ht with ht | ht
      · exact h t ht
      rw [List.mem_singleton] at ht; subst ht; exact hQ i left
    exact ⟨h1, by rw [List.length_append, List.length_singleton] at h2; omega⟩
theorem Yas {w c j : Int} (hw : 0 ≤ w ∧ w < 18446744073709551616) : 0 ≤ Z1o w c j ∧ Z1o w c j < 18446744073709551616 := by
  unfold Z1o
  have h1 : w.toNat / 2 ^ (j * wdt c).toNat % 2 ^ (wdt c).toNat ≤ w.toNat / 2 ^ (j * wdt c).toNat := Nat.mod_le _ _
  have h2 : w.toNat / 2 ^ (j * wdt c).toNat ≤ w.toNat := Nat.div_le_self _ _
  omega
theorem Zkm (hw : WS A.segments) (r : Zb) : ∀ w ∈ X7 A r, 0 ≤ w ∧ w < 18446744073709551616 := by
  unfold X7
  split
  · intro w hm
    rw [List.mem_singleton] at hm
    subst hm
    unfold Z4e
    split
    · omega
    exact Yas (Zxl hw _ _)
  split
  · exact fun w hm => Ycb hw _ w (List.mem_of_mem_drop (List.mem_of_mem_take hm))
  exact fun w hm => by cases hm
theorem Zow {r : Zb} (h : OKr A r) : (X7 A r).length ≤ 65536 := by
  unfold X7
  cases h with
  | z => simp [r0]
  | st s a d p hd hp hin => simp only [show ¬ (1 : Int) = 10 from by decide, if_false, if_true, List.length_take]; omega
  | li k s a n hk hn hin => simp only; rw [if_neg (by omega), if_neg (by omega)]; simp
  | co => simp
  | at_ => simp
theorem Yar (hw : WS A.segments) : ∀ (d : Nat) r left, OKr A r → 0 ≤ left → left ≤ 65536 → Bd (Zbh A d r left).1 := fun d => by
  have key : ∀ (f : Zb → Int → Tr × Int × Int), True := fun _ => trivial
  clear key
  have hst : ∀ (f : Zb → Int → Tr × Int × Int), (∀ r left, OKr A r → Bd (f r left).1) → ∀ r left, OKr A r → r.ptrs ≤ 65536 → Bd (stK A f r left).1 := fun f hf r left hr hp => by
    unfold stK
    have := Z36 (f := f) (g := Ys A r) (Q := Bd) (fun i left => hf _ left (Uz hr i)) r.ptrs.toNat 0 left [] (by simp)
    refine .mk _ (by simp only; have := Zow hr; omega) (by simp only; have := this.2; simp only [List.length_nil] at this; omega) (Zkm hw r) this.1
  have main : ∀ r left, OKr A r → Bd (Zbh A d r left).1 := by
    induction d using Nat.strongRecOn with
    | ind d ih =>
      intro r left hr
      have hbad : ∀ r left, Bd (bad r left).1 := fun r left => .mk _ (by simp [bad]) (by simp [bad]) (by simp [bad]) (by simp [bad])
      have hP : ∀ k, 1 ≤ k → ∀ r left, OKr A r → Bd (Xv A k d r left).1 := fun k hk r left hr => by
        unfold Xv
        split
        · exact ih _ (by omega) r left hr
        exact hbad _ _
      rw [Zqw]
      unfold Zlk
      have hwl := Zow hr
      split
      · exact .mk _ (by simp only; omega) (by simp) (Zkm hw r) (by simp)
      split
      · exact .mk _ (by simp only; omega) (by simp) (Zkm hw r) (by simp)
      have hkn := Zmj hr
      have hQ : ∀ (i : Int) left, Bd (Zew A (Xv A 1 d) (Xv A 2 d) r (Ys A r i).1 left).1 := fun i left => by
        unfold Zew
        split
        · rename_i k9
          have hkr := Uz hr i
          refine hst _ (fun r left hr => hP 2 (by omega) r left hr) _ _ hkr ?_
          cases hkr' : (Ys A r i).1 with
          | mk a b c d e f g h j =>
            rw [hkr'] at hkr
            cases hkr with
            | z => simp
            | st s a d p hd hp hin => simp only; omega
            | li k s a n hk => simp
            | co s a d p n hd hp hn => simp only; omega
            | at_ => simp
        split
        · exact hP 1 (by omega) _ _ (Uz hr i)
        unfold Zgw
        have := Zow (Uz hr i)
        exact .mk _ (by simp only; omega) (by simp) (Zkm hw _) (by simp)
      have := Z36 (f := Zew A (Xv A 1 d) (Xv A 2 d) r) (g := Ys A r) (Q := Bd) hQ (Zx r).toNat 0 (left - wtR r) [] (by simp)
      refine .mk _ (by simp only; omega) ?_ (Zkm hw r) this.1
      have h2 := this.2
      simp only [List.length_nil] at h2 ⊢
      omega
  exact fun r left hr _ _ => main r left hr
end
def uwR (r : Zb) : Int := if r.kind = 0 then 0 else if r.kind = 1 then 1 + r.words + r.ptrs else if r.kind = 8 then 1 + r.count else 1
section
variable {A : Zj}
theorem Z40 {r : Zb} (h : OKr A r) : Zbg r = some (uwR r) := by
  have hk : Yl r = some r.kind := rfl
  unfold Zbg uwR
  rw [hk, Zop, Zhv, Option.bind_some]
  cases h with
  | z => rfl
  | st s a d p hd hp hin =>
    simp only [Gv, Zx, if_true, show ((1 : Int) == 0) = false from rfl, show ((1 : Int) == 1) = true from rfl, cond_false, cond_true, Option.bind_some, show ¬ (1 : Int) = 0 from by decide, if_false]
    rw [Yf (x := 1 + d) (by omega) (by omega), Yf (by omega) (by omega)]
  | li k s a n hk' hn hin =>
    simp only [Zx]
    rw [show (k == 0) = false from Qq (by omega), show (k == 1) = false from Qq (by omega), if_neg (show ¬ k = 1 by omega), if_neg (show ¬ k = 0 by omega), if_neg (show ¬ k = 1 by omega), cond_false, cond_false]
    by_cases k8 : k = 8
    · rw [if_pos k8, show (k == 8) = true from by rw [k8]; rfl, cond_true, Option.bind_some, Yf (by omega) (by omega)]
    rw [if_neg k8, show (k == 8) = false from Qq k8, cond_false]
  | co s a d p n hd hp hn hwx hin => rfl
  | at_ s a c i n hc h0 h1 hn hin => rfl
theorem Z8p (r : Zb) : Zca r = some (decide (1 ≤ r.kind ∧ r.kind ≤ 9)) := by
  have hk : Yl r = some r.kind := rfl
  unfold Zca Zb8
  rw [hk, Option.bind_some]
  by_cases k1 : r.kind = 1
  · rw [show (r.kind == 1) = true from by rw [k1]; rfl, cond_true, Option.bind_some, decide_eq_true (show 1 ≤ r.kind ∧ r.kind ≤ 9 by omega)]
  rw [show (r.kind == 1) = false from Qq k1, cond_false]
  simp only [Option.bind_some, cond_false]
  congr 1
  by_cases h2 : 2 ≤ r.kind
  · rw [decide_eq_true h2, cond_true, decide_eq_decide]; omega
  rw [decide_eq_false h2, cond_false, decide_eq_false (show ¬ (1 ≤ r.kind ∧ r.kind ≤ 9) by omega)]
theorem Z7d (hw : WS A.segments) {r : Zb} (h : OKr A r) : Zs (Y9 r (Gv r)) (0, ([] : List Int)) = some (X7 A r) := by
  have hl := Zxv hw h
  have hle := Zow h
  have key : ∀ (k i : Nat), i + k = (X7 A r).length → Zs (Y9 r (Gv r)) ((i : Int), (X7 A r).take i) = some (X7 A r) := fun k => by
    induction k with
    | zero =>
      intro i hi
      refine Y7 ?_
      unfold Y9
      simp only
      rw [show decide ((i : Int) < Gv r) = false from by rw [decide_eq_false_iff_not]; omega, cond_false, List.take_of_length_le (by omega)]
    | succ k ih =>
      intro i hi
      have h1 : i < (X7 A r).length := by omega
      have hs : Y9 r (Gv r) ((i : Int), (X7 A r).take i) = some (.inl (((i + 1 : Nat) : Int), (X7 A r).take (i + 1))) := by
        unfold Y9
        simp only
        rw [show decide ((i : Int) < Gv r) = true from by rw [decide_eq_true_eq]; omega, cond_true, Ybc hw h, Option.bind_some, V9 (by simp only [List.length_singleton, List.length_take]; omega) (by simp only [List.length_singleton, List.length_take]; omega), Option.bind_some, Yf (by omega) (by omega), ← Z7f hw h h1, List.take_add_one, List.getElem?_eq_getElem h1]
        rfl
      rw [Ql hs]
      exact ih (i + 1) (by omega)
  have := key (X7 A r).length 0 (by omega)
  rw [List.take_zero, show (((0 : Nat) : Int)) = 0 from rfl] at this
  exact this
theorem Z3c (hw : WS A.segments) {f1 : Zq → Zb → Int → Option (Tr × Int × Zq)} {f : Zb → Int → Tr × Int × Int} (hf : Lf A f) {r : Zb} (hr : OKr A r) (n : Nat) (hn : Zx r = (n : Int)) (hn2 : n ≤ 1073741824) {X D : Int} (hX : 0 ≤ X) (hD : 1 ≤ D ∧ D ≤ 1000)
    (hF : ∀ (i : Nat) (l L : Int), i < n → (Ys A r i).2 = 0 → 0 ≤ l ∧ l ≤ 65536 → (f (Ys A r i).1 l).2.2 = 0 → l - (f (Ys A r i).1 l).2.1 + X ≤ L → L ≤ 65536 → f1 ⟨L⟩ (Ys A r i).1 (D - 1) = some ((f (Ys A r i).1 l).1, 0, ⟨L - (l - (f (Ys A r i).1 l).2.1 + X)⟩)) : ∀ (m i : Nat) (left L : Int) (acc : List Tr), i + m = n → acc.length = i → 0 ≤ left ∧ left ≤ 65536 → (Y4 f (Ys A r) m i left acc).2.2 = 0 → left - (Y4 f (Ys A r) m i left acc).2.1 + (m : Int) * X ≤ L → L ≤ 65536 →
    Zs (Yx f1 r D (Zx r)) ((i : Int), acc, L) = some (.inr ((Y4 f (Ys A r) m i left acc).1, L - (left - (Y4 f (Ys A r) m i left acc).2.1 + (m : Int) * X)))
  | 0, i, left, L, acc, hi, ha, hl, hq, hL, hL2 => by
    refine Y7 ?_
    unfold Yx
    simp only
    rw [show decide ((i : Int) < Zx r) = false from by rw [decide_eq_false_iff_not]; omega, cond_false]
    simp only [Y4]
    congr 4
    simp
  | m + 1, i, left, L, acc, hi, ha, hl, hq, hL, hL2 => by
    rw [Y4] at hq hL ⊢
    by_cases h1 : (Ys A r i).2 ≠ 0
    · rw [if_pos h1] at hq; exact absurd hq h1
    rw [if_neg h1] at hq hL ⊢
    by_cases h2 : (f (Ys A r i).1 left).2.2 ≠ 0
    · rw [if_pos h2] at hq; exact absurd hq h2
    rw [if_neg h2] at hq hL ⊢
    have h1' : (Ys A r i).2 = 0 := by omega
    have h2' : (f (Ys A r i).1 left).2.2 = 0 := by omega
    obtain ⟨b1, b2⟩ := hf _ _ (Uz hr i) hl.1 h2'
    obtain ⟨c1, c2⟩ := Zqf hf (fun i => Uz hr i) m (i + 1) (f (Ys A r i).1 left).2.1 (acc ++ [(f (Ys A r i).1 left).1]) b1 hq
    have hmX : (((m + 1 : Nat) : Int)) * X = (m : Int) * X + X := by rw [show (((m + 1 : Nat) : Int)) = (m : Int) + 1 by omega, Int.add_mul, Int.one_mul]
    have hmn : 0 ≤ (m : Int) * X := Int.mul_nonneg (by omega) hX
    rw [hmX] at hL ⊢
    have hk := hF i left L (by omega) h1' hl h2' (by omega) hL2
    have hs : Yx f1 r D (Zx r) ((i : Int), acc, L) = some (.inl (((i + 1 : Nat) : Int), acc ++ [(f (Ys A r i).1 left).1], L - (left - (f (Ys A r i).1 left).2.1 + X))) := by
      unfold Yx
      simp only
      rw [show decide ((i : Int) < Zx r) = true from by rw [decide_eq_true_eq]; omega, cond_true, Z8b hw hr, Option.bind_some, bne_eq_false_iff_eq.2 h1', cond_false, Yf (x := D - 1) (by omega) (by omega), hk, Option.bind_some]
      simp only
      rw [show ((0 : Int) != 0) = false from rfl, cond_false, V9 (by simp only [List.length_singleton]; omega) (by simp only [List.length_singleton]; omega), Option.bind_some, Yf (by omega) (by omega)]
      rfl
    rw [Ql hs, Z3c hw hf hr n hn hn2 hX hD hF m (i + 1) _ _ _ (by omega) (by rw [List.length_append, ha]; rfl) ⟨b1, by omega⟩ hq (by omega) (by omega)]
    refine congrArg some (congrArg Sum.inr (Prod.ext rfl ?_))
    simp only
    omega
theorem Zut (hw : WS A.segments) {f1 : Zq → Zb → Int → Option (Tr × Int × Zq)} {f : Zb → Int → Tr × Int × Int} (hf : Lf A f) {r : Zb} (hr : OKr A r) {X D left L : Int} (hX : 0 ≤ X) (hD : 0 ≤ D ∧ D ≤ 1000) (hD1 : 1 ≤ r.kind ∧ r.kind ≤ 9 → 1 ≤ D) (hl : 0 ≤ left ∧ left ≤ 65536)
    (hq : (Y4 f (Ys A r) (Zx r).toNat 0 left []).2.2 = 0) (hL : uwR r + (left - (Y4 f (Ys A r) (Zx r).toNat 0 left []).2.1 + Zx r * X) ≤ L) (hL2 : L ≤ 65536)
    (hF : 1 ≤ D → ∀ (i : Nat) (l L : Int), i < (Zx r).toNat → (Ys A r i).2 = 0 → 0 ≤ l ∧ l ≤ 65536 → (f (Ys A r i).1 l).2.2 = 0 → l - (f (Ys A r i).1 l).2.1 + X ≤ L → L ≤ 65536 → f1 ⟨L⟩ (Ys A r i).1 (D - 1) = some ((f (Ys A r i).1 l).1, 0, ⟨L - (l - (f (Ys A r i).1 l).2.1 + X)⟩)) :
    Xb f1 ⟨L⟩ r D = some (⟨r.kind, X7 A r, (Y4 f (Ys A r) (Zx r).toNat 0 left []).1⟩, 0, ⟨L - (uwR r + (left - (Y4 f (Ys A r) (Zx r).toNat 0 left []).2.1 + Zx r * X))⟩) := by
  have hkk : Yl r = some r.kind := rfl
  have hkn := Zmj hr
  have hg := Zqf hf (fun i => Uz hr i) (Zx r).toNat 0 left [] hl.1 hq
  have hmn : 0 ≤ Zx r * X := Int.mul_nonneg hkn.1 hX
  have hu : 0 ≤ uwR r := by
    cases hr with
    | z => simp [uwR, r0]
    | st s a d p hd hp hin => simp [uwR]; omega
    | li k s a n hk hn hin => simp only [uwR]; rw [if_neg (by omega), if_neg (by omega)]; split <;> omega
    | co => simp [uwR]
    | at_ => simp [uwR]
  unfold Xb
  rw [Z40 hr, Option.bind_some, Z8p, Yf (x := L - uwR r) (by omega) (by omega)]
  have e1 : (cond (decide (L - uwR r < 0)) (some true) (cond (D == 0) ((some (decide (1 ≤ r.kind ∧ r.kind ≤ 9))).bind fun y6 => some (cond (decide (L - uwR r < 0)) true (cond (D == 0) y6 false))) (some (cond (decide (L - uwR r < 0)) true false)))) = some false := by
    rw [decide_eq_false (show ¬ L - uwR r < 0 by omega), cond_false]
    by_cases d0 : D = 0
    · rw [show (D == 0) = true from by rw [d0]; rfl, cond_true, Option.bind_some, cond_true, decide_eq_false (show ¬ (1 ≤ r.kind ∧ r.kind ≤ 9) from fun q => by have := hD1 q; omega)]
      rfl
    rw [show (D == 0) = false from Qq d0]; rfl
  rw [e1, Option.bind_some, cond_false, hkk, Option.bind_some, Zop, Option.bind_some, Z7d hw hr, Option.bind_some, Zhv, Option.bind_some]
  by_cases hk0 : Zx r = 0
  · -- no kids
    have e2 : Zs (Yx f1 r D (Zx r)) (0, ([] : List Tr), L - uwR r) = some (.inr ([], L - uwR r)) := by
      refine Y7 ?_
      unfold Yx
      simp only
      rw [hk0]
      rfl
    rw [e2, Option.bind_some, hk0]
    simp only [show ((0 : Int).toNat) = 0 from rfl, Y4]
    congr 4
    omega
  have hD' : 1 ≤ D := hD1 (by
    cases hr with
    | z => simp [Zx, r0] at hk0
    | st => simp
    | li k s a n hk => simp only; omega
    | co => simp
    | at_ => simp [Zx] at hk0)
  have hL1 := Z3c hw hf hr (Zx r).toNat (by omega) (by omega) hX ⟨hD', hD.2⟩ (hF hD') (Zx r).toNat 0 left (L - uwR r) [] (by omega) rfl hl hq (by rw [show (((Zx r).toNat : Nat) : Int) = Zx r by omega]; omega) (by omega)
  rw [show (((0 : Nat) : Int)) = 0 from rfl, show (((Zx r).toNat : Nat) : Int) = Zx r by omega] at hL1
  rw [hL1, Option.bind_some]
  simp only
  congr 4
  omega
theorem Ydv {r : Zb} (h : OKr A r) : wtR r = uwR r + Zx r * (if r.kind = 9 then 1 + r.words + r.ptrs else if r.kind = 1 ∨ r.kind = 8 then 0 else if r.kind = 0 then 0 else 1) := by
  cases h with
  | z => simp [wtR, uwR, Zx, r0]
  | st s a d p hd hp hin => simp [wtR, uwR]
  | co s a d p n hd hp hn hwx hin => simp [wtR, uwR, Zx]
  | at_ => simp [wtR, uwR, Zx]
  | li k s a n hk hn hin =>
    have : k = 2 ∨ k = 3 ∨ k = 4 ∨ k = 5 ∨ k = 6 ∨ k = 7 ∨ k = 8 := by omega
    rcases this with rfl | rfl | rfl | rfl | rfl | rfl | rfl <;> simp [wtR, uwR, Zx]
theorem Z1c {r : Zb} (hk : r.kind = 9) {i : Int} (h : 0 ≤ i ∧ i < Zx r) : (Ys A r i).1.words = r.words ∧ (Ys A r i).1.ptrs = r.ptrs := by
  unfold Ys
  rw [if_neg (by omega), if_neg (by omega), if_neg (by omega), if_pos hk]
  exact ⟨rfl, rfl⟩
theorem Zyq {r : Zb} (hk : 2 ≤ r.kind ∧ r.kind ≤ 7) {i : Int} (h : 0 ≤ i ∧ i < Zx r) : (Ys A r i).1.kind = 10 ∧ Zx (Ys A r i).1 = 0 := by
  unfold Ys
  rw [if_neg (by omega), if_neg (by omega), if_neg (by omega), if_neg (by omega)]
  exact ⟨rfl, rfl⟩
theorem Z9u (hw : WS A.segments) : ∀ (K : Nat), (∀ (d : Nat) r (left L D : Int), OKr A r → 0 ≤ left ∧ left ≤ 65536 → (Zbh A d r left).2.2 = 0 → left - (Zbh A d r left).2.1 ≤ L → L ≤ 65536 → (d : Int) ≤ D → D ≤ 1000 → d + 2 ≤ K → r.kind ≠ 10 → Yc K ⟨L⟩ r D = some ((Zbh A d r left).1, 0, ⟨L - (left - (Zbh A d r left).2.1)⟩)) ∧
    (∀ (d : Nat) r (left L D : Int), OKr A r → r.kind = 1 → 0 ≤ left ∧ left ≤ 65536 → (stK A (Zbh A d) r left).2.2 = 0 → left - (stK A (Zbh A d) r left).2.1 + (1 + r.words + r.ptrs) ≤ L → L ≤ 65536 → (d : Int) + 1 ≤ D → D ≤ 1000 → d + 3 ≤ K → Yc K ⟨L⟩ r D = some ((stK A (Zbh A d) r left).1, 0, ⟨L - (left - (stK A (Zbh A d) r left).2.1 + (1 + r.words + r.ptrs))⟩)) ∧
    (∀ r (left L D : Int), OKr A r → r.kind = 10 → Zx r = 0 → 1 ≤ L → L ≤ 65536 → 0 ≤ D → D ≤ 1000 → 1 ≤ K → Yc K ⟨L⟩ r D = some ((Zgw A r left).1, 0, ⟨L - 1⟩))
  | 0 => ⟨fun d r left L D _ _ _ _ _ _ _ h => by omega, fun d r left L D _ _ _ _ _ _ _ _ h => by omega, fun r left L D _ _ _ _ _ _ _ h => by omega⟩
  | K + 1 => by
    obtain ⟨i1, i2, i3⟩ := Z9u hw K
    refine ⟨fun d r left L D hr hl hq hL hL2 hdD hD hK h10 => ?_, fun d r left L D hr k1 hl hq hL hL2 hdD hD hK => ?_, fun r left L D hr k10 hk0 hL hL2 hD0 hD hK => ?_⟩
    · show Xb (Yc K) ⟨L⟩ r D = _
      have hwt := Z91 hw hr
      have hkd := Z8e hr
      have hkn := Zmj hr
      have hwu := Ydv hr
      rw [Zqw] at hq hL ⊢
      unfold Zlk at hq hL ⊢
      by_cases k0 : r.kind = 0
      · rw [if_pos k0] at hq hL ⊢
        have hz : Zx r = 0 := by
          cases hr with
          | z => rfl
          | st => simp at k0
          | li k s a n hk => simp only at k0; omega
          | co => simp at k0
          | at_ => simp at k0
        have huz : uwR r = 0 := by unfold uwR; rw [if_pos k0]
        have := Zut hw (f1 := Yc K) (f := bad) Ztm hr (X := 0) (D := D) (left := left) (L := L) (by omega) ⟨by omega, hD⟩ (fun q => by omega) hl (by rw [hz]; rfl) (by rw [hz, huz]; simp only [show ((0 : Int).toNat) = 0 from rfl, Y4]; simp only at hL; omega) hL2 (fun _ i l L hi => by rw [hz] at hi; simp at hi)
        rw [this, hz, huz]
        simp only [show ((0 : Int).toNat) = 0 from rfl, Y4]
        congr 4
        omega
      rw [if_neg k0] at hq hL ⊢
      by_cases hb : (d : Int) < lvR r ∨ left < wtR r
      · rw [if_pos hb] at hq; simp at hq
      rw [if_neg hb] at hq hL ⊢
      simp only at hq hL ⊢
      have hlv : 1 ≤ (d : Int) := by
        have : 1 ≤ lvR r := by unfold lvR; rw [if_neg k0]; split <;> omega
        omega
      have hlf : Lf A (Zew A (Xv A 1 d) (Xv A 2 d) r) := Z5k (Z1g hw 1 d) (Z1g hw 2 d) r
      obtain ⟨X, hXe⟩ : ∃ X, (if r.kind = 9 then 1 + r.words + r.ptrs else if r.kind = 1 ∨ r.kind = 8 then 0 else if r.kind = 0 then 0 else 1) = X := ⟨_, rfl⟩
      rw [hXe] at hwu
      have hX0 : 0 ≤ X := by
        rw [← hXe]
        cases hr with
        | z => simp [r0]
        | st => simp
        | li k s a n hk => simp only; repeat' split
                           all_goals omega
        | co s a d p n hd hp => simp; omega
        | at_ => simp
      have hkey := Zut hw (f1 := Yc K) hlf hr hX0 (D := D) (left := left - wtR r) (L := L) ⟨by omega, hD⟩ (fun _ => by omega) ⟨by omega, by omega⟩ hq (by omega) hL2 (fun hD1 i l L hi he hl hq2 hL hL2 => by
        by_cases k9 : r.kind = 9
        · have hkf : Zew A (Xv A 1 d) (Xv A 2 d) r = stK A (Xv A 2 d) := by unfold Zew; rw [if_pos k9]
          have hkc : Zx r = r.count := by unfold Zx; rw [if_neg (by omega)]
          have hd2 : 2 ≤ d := by
            have : lvR r = 2 := by unfold lvR; rw [if_neg k0, if_pos ⟨k9, by omega⟩]
            omega
          have hm2 : Xv A 2 d = Zbh A (d - 2) := by unfold Xv; rw [if_pos hd2]
          rw [hkf, hm2] at hq2 hL ⊢
          obtain ⟨w1, w2⟩ := Z1c (A := A) k9 (i := (i : Int)) ⟨by omega, by omega⟩
          have hX : X = 1 + (Ys A r i).1.words + (Ys A r i).1.ptrs := by rw [← hXe, if_pos k9, w1, w2]
          rw [hX] at hL ⊢
          exact i2 (d - 2) _ l L (D - 1) (Uz hr i) (Zt6 k9 ⟨by omega, by omega⟩) hl hq2 hL hL2 (by omega) (by omega) (by omega)
        by_cases k18 : r.kind = 1 ∨ r.kind = 8
        · have hkf : Zew A (Xv A 1 d) (Xv A 2 d) r = Xv A 1 d := by unfold Zew; rw [if_neg k9, if_pos k18]
          have hm1 : Xv A 1 d = Zbh A (d - 1) := by unfold Xv; rw [if_pos (by omega)]
          have hX : X = 0 := by rw [← hXe, if_neg k9, if_pos k18]
          rw [hkf, hm1, hX, Int.add_zero] at hL ⊢
          rw [hkf, hm1] at hq2
          have hk10 : (Ys A r i).1.kind ≠ 10 := by
            unfold Ys
            rw [if_neg (by omega)]
            have hat : ∀ s a, (atR A s a).1.kind ≠ 10 := fun s a => by
              unfold atR
              rcases Zmc A.segments s a with h | ⟨h1, hp, hk, hi⟩
              · rw [if_pos h]; simp [r0]
              rw [if_neg (by omega)]
              have hc := hp.c
              split
              · simp
              split
              · simp only; split <;> simp [r0]
              simp only; omega
            rcases k18 with k | k
            · rw [if_pos k]; exact hat _ _
            rw [if_neg (by omega), if_pos k]; exact hat _ _
          exact i1 (d - 1) _ l L (D - 1) (Uz hr i) hl hq2 hL hL2 (by omega) (by omega) (by omega) hk10
        have hkf : Zew A (Xv A 1 d) (Xv A 2 d) r = Zgw A := by unfold Zew; rw [if_neg k9, if_neg k18]
        have hX : X = 1 := by rw [← hXe, if_neg k9, if_neg k18, if_neg k0]
        rw [hkf, hX] at hL ⊢
        obtain ⟨a1, a2⟩ := Zyq (A := A) (r := r) (i := (i : Int)) (by omega) ⟨by omega, by omega⟩
        have hz : l - (Zgw A (Ys A r i).1 l).2.1 + 1 = 1 := by simp only [Zgw]; omega
        rw [hz] at hL ⊢
        exact i3 _ l L (D - 1) (Uz hr i) a1 a2 hL hL2 (by omega) (by omega) (by omega))
      rw [hkey]
      congr 4
      omega
    · show Xb (Yc K) ⟨L⟩ r D = _
      have hkn : Zx r = r.ptrs := by unfold Zx; rw [if_pos k1]
      have hu : uwR r = 1 + r.words + r.ptrs := by unfold uwR; rw [if_neg (by omega), if_pos k1]
      unfold stK at hq hL ⊢
      simp only at hq hL ⊢
      rw [← hkn] at hq hL ⊢
      have hkey := Zut hw (f1 := Yc K) (Zoj hw d) hr (X := 0) (D := D) (left := left) (L := L) (by omega) ⟨by omega, hD⟩ (fun _ => by omega) hl hq (by rw [hu]; omega) hL2 (fun hD1 i l L hi he hl hq2 hL hL2 => by
        rw [Int.add_zero] at hL ⊢
        have hk10 : (Ys A r i).1.kind ≠ 10 := by
          unfold Ys
          rw [if_neg (by omega), if_pos k1]
          unfold atR
          rcases Zmc A.segments r.segment (r.at_ + r.words + i) with h | ⟨h1, hp, hk, hi⟩
          · rw [if_pos h]; simp [r0]
          rw [if_neg (by omega)]
          have hc := hp.c
          split
          · simp
          split
          · simp only; split <;> simp [r0]
          simp only; omega
        exact i1 d _ l L (D - 1) (Uz hr i) hl hq2 hL hL2 (by omega) (by omega) (by omega) hk10)
      rw [hkey, hu, k1]
      congr 4
      omega
    show Xb (Yc K) ⟨L⟩ r D = _
    have hu : uwR r = 1 := by unfold uwR; rw [if_neg (by omega), if_neg (by omega), if_neg (by omega)]
    have hkey := Zut hw (f1 := Yc K) (f := bad) Ztm hr (X := 0) (D := D) (left := 0) (L := L) (by omega) ⟨hD0, hD⟩ (fun q => by omega) (by omega) (by rw [hk0]; rfl) (by rw [hk0, hu]; simp only [show ((0 : Int).toNat) = 0 from rfl, Y4]; omega) hL2 (fun _ i l L hi => by rw [hk0] at hi; simp at hi)
    rw [hkey, hk0, hu]
    simp only [show ((0 : Int).toNat) = 0 from rfl, Y4, Zgw]
    congr 4
end
section
variable {A : Zj}
theorem Ybx (s a : Int) : (atR A s a).1.kind ≠ 10 := by
  unfold atR
  rcases Zmc A.segments s a with h | ⟨h1, hp, hk, hi⟩
  · rw [if_pos h]; simp [r0]
  rw [if_neg (by omega)]
  have hc := hp.c
  split
  · simp
  split
  · simp only; split <;> simp [r0]
  simp only; omega
theorem Z9v (hw : WS A.segments) {d : Nat} (hd : d ≤ 64) {r : Zb} (hr : OKr A r) (h10 : r.kind ≠ 10) {left : Int} (hl : 0 ≤ left ∧ left ≤ 65536) (hq : (Zbh A d r left).2.2 = 0) : Zb9 r = some ((Zbh A d r left).1, 0) := by
  have hb := Zoj hw d r left hr hl.1 hq
  have h : Zam ⟨65536⟩ r 64 = some ((Zbh A d r left).1, 0, ⟨65536 - (left - (Zbh A d r left).2.1)⟩) :=
    Zeb (d + 2) fun k hk => (Z9u hw k).1 d r left 65536 64 hr hl hq (by omega) (by omega) (by omega) (by omega) hk h10
  unfold Zb9
  rw [h, Option.bind_some]
theorem Ya8 (x : Ye) : ((Zs2 A x).2.2 ≠ 0 ∧ (Zs2 A x).1 = ⟨0, [], []⟩ ∧ (Z3z A x).2 = (Zs2 A x).2.2) ∨ ((Zs2 A x).2.2 = 0 ∧ (Z3z A x).2 = 0 ∧ (atR A 0 0).2 = 0 ∧ (Zbh A (Gs x).Depth.toNat (atR A 0 0).1 (Gs x).Weight).2.2 = 0 ∧ (Zs2 A x).1 = (Zbh A (Gs x).Depth.toNat (atR A 0 0).1 (Gs x).Weight).1) := by
  have hc : (Z3z A x).2 = (Zs2 A x).2.2 := by rw [← Ya9]
  unfold Zs2 at hc ⊢
  by_cases h : (atR A 0 0).2 ≠ 0
  · rw [if_pos h] at hc ⊢
    exact .inl ⟨h, rfl, hc⟩
  rw [if_neg h] at hc ⊢
  simp only at hc ⊢
  by_cases hq : (Zbh A (Gs x).Depth.toNat (atR A 0 0).1 (Gs x).Weight).2.2 ≠ 0
  · rw [if_pos hq] at hc ⊢
    exact .inl ⟨hq, rfl, hc⟩
  rw [if_neg hq] at hc ⊢
  exact .inr ⟨rfl, hc, by omega, by omega, rfl⟩
theorem Yb5 (x : Ye) : (Gs x).Depth.toNat ≤ 64 ∧ 0 ≤ (Gs x).Weight ∧ (Gs x).Weight ≤ 65536 := by
  have hd : 0 ≤ (Gs x).Depth ∧ (Gs x).Depth ≤ 64 := Zpu _ _ (by decide)
  have hW : 0 ≤ (Gs x).Weight ∧ (Gs x).Weight ≤ 65536 := Zpu _ _ (by decide)
  omega
theorem Z4d (hw : WS A.segments) (x : Ye) : K5 (some A) x = some (nrm (Zs2 A x).1, (Zs2 A x).2.2) := by
  have hl := Yb5 x
  unfold K5
  rw [Z7w hw, Option.bind_some]
  rcases Ya8 (A := A) x with ⟨h1, h2, h3⟩ | ⟨h1, h2, h3, h4, h5⟩
  · rw [h3, bne_iff_ne.2 h1, cond_true, h2, Zcc rfl]
  rw [h2, h1, h5, show ((0 : Int) != 0) = false from rfl, cond_false, Z5w hw, Option.bind_some, h3, show ((0 : Int) != 0) = false from rfl, cond_false, Z9v hw hl.1 (Zo9 0 0) (Ybx 0 0) ⟨hl.2.1, hl.2.2⟩ h4, Option.bind_some, Zzr (Yar hw _ _ _ (Zo9 0 0) hl.2.1 hl.2.2), Option.bind_some]
end
theorem Ya3 {t : Tr} (h : Bd t) {left : Int} (h0 : 0 ≤ left) (h1 : left ≤ 1000000) : ∃ r, Zb6 t 80 left = some r ∧ -1 ≤ r ∧ r ≤ 1000000 ∧ (0 ≤ r → r + pt t ≤ left) := by
  obtain ⟨r, h2, h3⟩ := Zwh (SizeOf.sizeOf t + 1) t 80 left h (by omega) (by omega) (by omega) h0 h1
  exact ⟨r, Zeb (SizeOf.sizeOf t + 1) fun k hk => by rw [Zrx k (SizeOf.sizeOf t + 1) t 80 left (by omega) (by omega)]; exact h2, h3⟩
def wid (c : Int) : Nat := if c = 0 then 0 else if c = 1 then 1 else if c = 2 then 8 else if c = 3 then 16 else if c = 4 then 32 else 64
def Zbb (c w : Int) : Bool := decide (w < 2 ^ wid c)
theorem Zu1 {c : Int} (h0 : 0 ≤ c) (h1 : c ≤ 5) : c = 0 ∨ c = 1 ∨ c = 2 ∨ c = 3 ∨ c = 4 ∨ c = 5 := by omega
theorem Z3d {c w : Int} (h0 : 0 ≤ c) (h1 : c ≤ 5) (hw : 0 ≤ w) : Zdv c w = some (Zbb c w) := by
  have key : ∀ n : Nat, n ≤ 64 → (Int.fdiv w (2 ^ min (Int.toNat (n : Int)) 64) == 0) = decide (w < 2 ^ n) := fun n hn => by
    rw [Int.toNat_natCast, Nat.min_eq_left hn, Int.fdiv_eq_ediv_of_nonneg _ (Int.le_of_lt (Int.pow_pos (by decide)))]
    have hp : (0 : Int) < 2 ^ n := Int.pow_pos (by decide)
    rw [Bool.eq_iff_iff, beq_iff_eq, decide_eq_true_eq]
    constructor
    · intro h
      rcases Int.lt_or_le w (2 ^ n) with h2 | h2
      · exact h2
      have := Int.ediv_le_ediv hp h2
      rw [Int.ediv_self (Int.ne_of_gt hp)] at this
      omega
    intro h; exact Int.ediv_eq_zero_of_lt hw h
  have e : ∀ n : Nat, n ≤ 64 → (some (((n : Int), true) : Int × Bool)).bind (fun y2 => (cond y2.2 ((Xi (0 ≤ y2.1)).bind fun u5 => some (cond y2.2 ((Int.fdiv w (2 ^ min (Int.toNat y2.1) 64)) == 0) false)) (some false)).bind fun (z4 : Bool) => some z4) = some (decide (w < 2 ^ n)) := fun n hn => by
    rw [Option.bind_some]
    simp only [cond_true]
    rw [Ju (by omega), Option.bind_some, Option.bind_some, key n hn]
  unfold Zdv Zbb
  rcases Zu1 h0 h1 with rfl | rfl | rfl | rfl | rfl | rfl
  · exact e 0 (by decide)
  · exact e 1 (by decide)
  · exact e 8 (by decide)
  · exact e 16 (by decide)
  · exact e 32 (by decide)
  exact e 64 (by decide)
theorem Z4p (n : Nat) (hn : n ≤ 64) (w : Int) (h0 : 0 ≤ w) (h1 : w < 18446744073709551616) : Zs (X0 (n : Int)) (w, 0) = some (w / 2 ^ n) := by
  have key : ∀ m i : Nat, i + m = n → Zs (X0 (n : Int)) (w / 2 ^ i, (i : Int)) = some (w / 2 ^ n) := fun m => by
    induction m with
    | zero =>
      intro i hi
      have : i = n := by omega
      subst this
      refine Y7 ?_
      unfold X0
      simp only
      rw [Zbx, cond_false]
    | succ m ih =>
      intro i hi
      have hp : (0 : Int) < 2 ^ i := Int.pow_pos (by decide)
      have q0 : 0 ≤ w / 2 ^ i := Int.ediv_nonneg h0 (Int.le_of_lt hp)
      have q1 : w / 2 ^ i ≤ w := Int.ediv_le_self _ h0
      have hs : X0 (n : Int) (w / 2 ^ i, (i : Int)) = some (.inl (w / 2 ^ (i + 1), ((i + 1 : Nat) : Int))) := by
        unfold X0
        simp only
        rw [Zb4 (by omega), cond_true, Yf (by omega) (by omega), Int.tdiv_eq_ediv_of_nonneg q0]
        have e : w / 2 ^ i / 2 = w / 2 ^ (i + 1) := by rw [Int.ediv_ediv_of_nonneg (Int.le_of_lt hp), Int.pow_succ]
        have q2 : 0 ≤ w / 2 ^ i / 2 := Int.ediv_nonneg q0 (by decide)
        have q3 : w / 2 ^ i / 2 ≤ w / 2 ^ i := Int.ediv_le_self _ q0
        have e3 : IntKind.u64.wrap (w / 2 ^ i / 2) = w / 2 ^ i / 2 := by
          exact Yfd ⟨q2, by omega⟩
        rw [e3, e]
        rfl
      rw [Ql hs]
      exact ih (i + 1) (by omega)
  have := key n 0 (by omega)
  simpa using this
theorem Zv9 {c w : Int} (h0 : 0 ≤ c) (h1 : c ≤ 5) (hw : 0 ≤ w) (hw' : w < 18446744073709551616) : Kb c w = some (Zbb c w) := by
  have e : ∀ n : Nat, n ≤ 64 → (cond (decide ((n : Int) < 0)) (some false) ((Zs (X0 (n : Int)) (w, 0)).bind fun (z4 : Int) => some (z4 == 0))) = some (decide (w < 2 ^ n)) := fun n hn => by
    have : decide ((n : Int) < 0) = false := by rw [decide_eq_false_iff_not]; omega
    have hp : (0 : Int) < 2 ^ n := Int.pow_pos (by decide)
    rw [this, cond_false, Z4p n hn w hw hw', Option.bind_some]
    congr 1
    rw [Bool.eq_iff_iff, beq_iff_eq, decide_eq_true_eq]
    constructor
    · intro h
      rcases Int.lt_or_le w (2 ^ n) with h2 | h2
      · exact h2
      have := Int.ediv_le_ediv hp h2
      rw [Int.ediv_self (Int.ne_of_gt hp)] at this
      omega
    intro h; exact Int.ediv_eq_zero_of_lt hw h
  unfold Kb Zbb
  rcases Zu1 h0 h1 with rfl | rfl | rfl | rfl | rfl | rfl
  · exact e 0 (by decide)
  · exact e 1 (by decide)
  · exact e 8 (by decide)
  · exact e 16 (by decide)
  · exact e 32 (by decide)
  exact e 64 (by decide)
def okk (kind : Int) (k : Tr) : Bool := if 2 ≤ kind ∧ kind ≤ 7 then k.Kind == 10 && Zbb (kind - 2) (k.Words.headD 0) else k.Kind != 10 && (kind != 9 || k.Kind == 1)
def rt (t : Tr) (d : Nat) : Bool :=
  if t.Kind = 0 then t.Words.length == 0 && t.Kids.length == 0
  else if t.Kind = 10 then t.Words.length == 1 && t.Kids.length == 0
  else if t.Kind < 0 ∨ 10 < t.Kind ∨ d = 0 ∨ 65536 ≤ t.Words.length ∨ (t.Kind = 1 ∧ 65536 ≤ t.Kids.length) ∨ 1048576 ≤ t.Kids.length ∨ (1 < t.Kind ∧ 0 < t.Words.length) then false
  else (t.Kids.attach.map fun k => rt k.1 (d - 1) && okk t.Kind k.1).all id
termination_by SizeOf.sizeOf t
decreasing_by exact Yk k.2
theorem Zdz (t : Tr) (d : Nat) : rt t d = if t.Kind = 0 then t.Words.length == 0 && t.Kids.length == 0
  else if t.Kind = 10 then t.Words.length == 1 && t.Kids.length == 0
  else if t.Kind < 0 ∨ 10 < t.Kind ∨ d = 0 ∨ 65536 ≤ t.Words.length ∨ (t.Kind = 1 ∧ 65536 ≤ t.Kids.length) ∨ 1048576 ≤ t.Kids.length ∨ (1 < t.Kind ∧ 0 < t.Words.length) then false
  else t.Kids.all fun k => rt k (d - 1) && okk t.Kind k := by
  rw [rt]
  have : (t.Kids.attach.map fun k => rt k.1 (d - 1) && okk t.Kind k.1) = t.Kids.map fun k => rt k (d - 1) && okk t.Kind k := List.attach_map_val (f := fun k => rt k (d - 1) && okk t.Kind k)
  rw [this, List.all_map]
  rfl
theorem Ya1 {t : Tr} (h : t.Kind = 10) (d d' : Nat) : rt t d = rt t d' := by
  have h0 : ¬ t.Kind = 0 := by rw [h]; decide
  rw [Zdz t d, Zdz t d']
  simp only [if_neg h0, if_pos h]
theorem Zot {t : Tr} (h : t.Kind = 10) {d : Nat} (hr : rt t d = true) : ∃ w, t.Words = [w] := by
  rw [Zdz, if_neg (by omega), if_pos h, Bool.and_eq_true, beq_iff_eq] at hr
  obtain ⟨k, w, ks⟩ := t
  obtain ⟨h1, _⟩ := hr
  simp only at h1 ⊢
  exact List.length_eq_one_iff.1 h1
theorem Z6z {n : Nat} : ((n : Int) == 0) = (n == 0) := by rw [Bool.eq_iff_iff, beq_iff_eq, beq_iff_eq]; omega
theorem Ycy {n : Nat} : ((n : Int) == 1) = (n == 1) := by rw [Bool.eq_iff_iff, beq_iff_eq, beq_iff_eq]; omega
theorem Zc4 (a b : Bool) : cond a b false = (a && b) := by cases a <;> rfl
theorem Z47 {α : Type} (p : α → Bool) : ∀ l : List α, l.any (fun x => !p x) = !(l.all p)
  | [] => rfl
  | x :: l => by rw [List.any_cons, List.all_cons, Z47 p l]; cases p x <;> rfl
theorem Zqt {α R : Type} (xs : List α) (step : Int → Option (Int ⊕ R)) (p : α → Bool) (e o : R) (hl : (xs.length : Int) ≤ 140737488355328)
    (h1 : ∀ (i : Nat) (x : α), i < xs.length → xs[i]? = some x → x ∈ xs → step i = some (if p x = true then .inl (IntKind.i64.wrap ((i : Int) + 1)) else .inr e)) (h2 : step xs.length = some (.inr o)) : Zs step 0 = some (if xs.all p = true then o else e) := by
  rw [Zvo xs step (fun x => !p x) e o hl (fun i x hi hx hm => by rw [h1 i x hi hx hm]; cases p x <;> rfl) h2, Z47]
  cases xs.all p <;> rfl
theorem Zyv : ∀ (k : Nat) (t : Tr) (d : Nat), Bd t → SizeOf.sizeOf t < k → d ≤ 64 → Q6 k t (d : Int) = some (rt t d)
  | 0, t, d, _, h, _ => by omega
  | k + 1, t, d, hb, hk, hd => by
    have hkd := hb.k
    show Uj (Q6 k) t (d : Int) = _
    unfold Uj
    rw [Zdz, Z6z, Ycy]
    by_cases h0 : t.Kind = 0
    · rw [if_pos h0, h0]
      simp only [Z6z, Zc4]
      rfl
    have e0 : (t.Kind == 0) = false := by simp [h0]
    rw [if_neg h0, e0, cond_false]
    by_cases h10 : t.Kind = 10
    · rw [if_pos h10, h10]
      simp only [Z6z, Zc4]
      rfl
    have e10 : (t.Kind == 10) = false := by simp [h10]
    rw [if_neg h10, e10, cond_false]
    by_cases hbad : t.Kind < 0 ∨ 10 < t.Kind ∨ d = 0 ∨ 65536 ≤ t.Words.length ∨ (t.Kind = 1 ∧ 65536 ≤ t.Kids.length) ∨ 1048576 ≤ t.Kids.length ∨ (1 < t.Kind ∧ 0 < t.Words.length)
    · rw [if_pos hbad]
      have hc : ∀ c1 c2 c3 c4 c5 c6 c7 c8 : Bool, (c1 = true ∨ c2 = true ∨ c3 = true ∨ c4 = true ∨ (c5 = true ∧ c6 = true) ∨ c7 = true ∨ c8 = true) → ∀ X : Option Bool,
          cond (cond (cond (cond (cond (cond c1 true c2) true c3) true c4) true (cond c5 c6 false)) true c7) (some false) (cond c8 (some false) X) = some false := by
        intro c1 c2 c3 c4 c5 c6 c7 c8 h X
        cases c1 <;> cases c2 <;> cases c3 <;> cases c4 <;> cases c5 <;> cases c6 <;> cases c7 <;> cases c8 <;> first | rfl | (simp at h; done)
      refine hc _ _ _ _ _ _ _ _ ?_ _
      simp only [decide_eq_true_eq, beq_iff_eq, Zc4, Bool.and_eq_true]
      omega
    rw [if_neg hbad]
    have hg : ¬ t.Kind < 0 ∧ ¬ 10 < t.Kind ∧ ¬ d = 0 ∧ ¬ 65536 ≤ t.Words.length ∧ ¬ (t.Kind = 1 ∧ 65536 ≤ t.Kids.length) ∧ ¬ 1048576 ≤ t.Kids.length ∧ ¬ (1 < t.Kind ∧ 0 < t.Words.length) := by omega
    have hc : ∀ c1 c2 c3 c4 c5 c7 c8 : Bool, c1 = false → c2 = false → c3 = false → c4 = false → c5 = false → c7 = false → c8 = false → ∀ X : Option Bool,
        cond (cond (cond (cond (cond (cond c1 true c2) true c3) true c4) true c5) true c7) (some false) (cond c8 (some false) X) = X := by
      intro c1 c2 c3 c4 c5 c7 c8 h1 h2 h3 h4 h5 h7 h8 X
      subst h1 h2 h3 h4 h5 h7 h8
      rfl
    rw [hc _ _ _ _ _ _ _ (decide_eq_false hg.1) (decide_eq_false hg.2.1) (by rw [beq_eq_false_iff_ne]; omega) (by rw [decide_eq_false_iff_not]; omega) (by rw [Zc4, Bool.and_eq_false_iff, beq_eq_false_iff_ne, decide_eq_false_iff_not]; omega) (by rw [decide_eq_false_iff_not]; omega) (by rw [Zc4, Bool.and_eq_false_iff, decide_eq_false_iff_not, decide_eq_false_iff_not]; omega)]
    obtain ⟨d', rfl⟩ : ∃ d', d = d' + 1 := ⟨d - 1, by omega⟩
    have ih : ∀ x ∈ t.Kids, Q6 k x (d' : Int) = some (rt x d') := fun x hx => Zyv k x d' (hb.all x hx) (by have := Yk hx; omega) (by omega)
    rw [Zqt t.Kids (Kt (Q6 k) t ((d' + 1 : Nat) : Int)) (fun x => rt x d' && okk t.Kind x) (.inl ()) (.inr ()) (by omega) (fun i x hi hx hm => by
      unfold Kt
      have ed : ((d' + 1 : Nat) : Int) - 1 = (d' : Int) := by omega
      rw [Zb4 hi, cond_true, Yo hx, Option.bind_some, Yf (x := ((d' + 1 : Nat) : Int) - 1) (by omega) (by omega), ed, ih x hm, Option.bind_some]
      cases hr : rt x d' with
      | false => rfl
      | true =>
        rw [Bool.not_true, cond_false, Bool.true_and]
        unfold okk
        by_cases hdt : 2 ≤ t.Kind ∧ t.Kind ≤ 7
        · have e2 : decide (2 ≤ t.Kind) = true := decide_eq_true hdt.1
          have e7 : decide (t.Kind ≤ 7) = true := decide_eq_true hdt.2
          have e9 : (t.Kind == 9) = false := by rw [beq_eq_false_iff_ne]; omega
          rw [e2, e7, e9, if_pos hdt]
          simp only [cond_true, cond_false]
          by_cases hx10 : x.Kind = 10
          · obtain ⟨w, hw⟩ := Zot hx10 hr
            have hu := (hb.all x hm).u w (by rw [hw]; exact .head _)
            have ex : (x.Kind == 10) = true := by simp [hx10]
            have ex2 : ((true : Bool) != true) = false := rfl
            have hg0 : Y5 [w] (0 : Int) = some w := rfl
            rw [ex, ex2, cond_false, hw, hg0, Option.bind_some, Yf (by omega) (by omega), Zv9 (by omega) (by omega) hu.1 hu.2, Option.bind_some]
            simp only [cond_false, List.headD_cons, Bool.true_and]
            cases Zbb (t.Kind - 2) w <;> rfl
          have ex : (x.Kind == 10) = false := by simp [hx10]
          rw [ex]
          rfl
        have ed2 : cond (decide (2 ≤ t.Kind)) (decide (t.Kind ≤ 7)) false = false := by
          rw [Zc4, Bool.and_eq_false_iff, decide_eq_false_iff_not, decide_eq_false_iff_not]; omega
        rw [ed2, if_neg hdt]
        have hin : ∀ (X : Option Bool) (b : Bool), (cond (decide (2 ≤ t.Kind)) (cond (decide (t.Kind ≤ 7)) X (some b)) (some b)) = some b := fun X b => by
          by_cases h2 : 2 ≤ t.Kind
          · have h7 : decide (t.Kind ≤ 7) = false := by rw [decide_eq_false_iff_not]; omega
            rw [decide_eq_true h2, h7]; rfl
          rw [decide_eq_false h2]; rfl
        by_cases hx10 : x.Kind = 10
        · have ex : (x.Kind == 10) = true := by simp [hx10]
          have ex2 : (x.Kind != 10) = false := by simp [hx10]
          rw [ex, ex2]
          rfl
        have ex : (x.Kind == 10) = false := by simp [hx10]
        have ex2 : (x.Kind != 10) = true := by simp [hx10]
        have ex3 : ((false : Bool) != false) = false := rfl
        rw [ex, ex2, ex3, cond_false]
        simp only [cond_false]
        rw [hin]
        by_cases h9 : t.Kind = 9
        · have e9 : (t.Kind == 9) = true := by simp [h9]
          have e9' : (t.Kind != 9) = false := by simp [h9]
          rw [e9, e9', cond_true]
          by_cases hx1 : x.Kind = 1
          · have q1 : (x.Kind != 1) = false := by simp [hx1]
            have q2 : (x.Kind == 1) = true := by simp [hx1]
            rw [q1, q2, cond_false]
            rfl
          have q1 : (x.Kind != 1) = true := by simp [hx1]
          have q2 : (x.Kind == 1) = false := by simp [hx1]
          rw [q1, q2, cond_true]
          rfl
        have e9 : (t.Kind == 9) = false := by simp [h9]
        have e9' : (t.Kind != 9) = true := by simp [h9]
        rw [e9, e9']
        rfl) (by unfold Kt; rw [Zbx]; rfl), Option.bind_some, Nat.add_sub_cancel]
    cases t.Kids.all fun x => rt x d' && okk t.Kind x <;> rfl
theorem Zyw {t : Tr} (h : Bd t) {d : Nat} (hd : d ≤ 64) : Ur t (d : Int) = some (rt t d) := Zeb (SizeOf.sizeOf t + 1) fun k hk => Zyv k t d h (by omega) hd
theorem Yai (n : Int) : Zb8 n = some (decide (2 ≤ n) && decide (n ≤ 9)) := by unfold Zb8; rw [Zc4]
theorem Z4w {l : List Tr} (hl : (l.length : Int) ≤ 140737488355328) : Gj l = some (l.all fun x => x.Kind == 1) := by
  unfold Gj
  rw [Zqt l (Vl l) (fun x => x.Kind == 1) (.inl ()) (.inr ()) hl (fun i x hi hx hm => by
    unfold Vl
    rw [Zb4 hi, cond_true, Yo hx, Option.bind_some]
    simp only [bne]
    cases x.Kind == 1 <;> rfl) (by unfold Vl; rw [Zbx]; rfl), Option.bind_some]
  cases l.all fun x => x.Kind == 1 <;> rfl
theorem Z46 {α : Type} (p q : α → Bool) : ∀ l : List α, (l.all fun x => p x && q x) = (l.all p && l.all q)
  | [] => rfl
  | x :: l => by rw [List.all_cons, List.all_cons, List.all_cons, Z46 p q l]; cases p x <;> cases q x <;> cases l.all p <;> cases l.all q <;> rfl
theorem Zyk {α : Type} {p q : α → Bool} : ∀ {l : List α}, (∀ x ∈ l, p x = q x) → l.all p = l.all q
  | [], _ => rfl
  | x :: l, h => by rw [List.all_cons, List.all_cons, h x (.head _), Zyk fun y hy => h y (.tail _ hy)]
def rq (t : Tr) (d : Nat) : Bool := rt t d && t.Kind != 10
def ra (c : Int) (x : Tr) : Bool := x.Kind == 10 && (rt x 64 && Zbb c (x.Words.headD 0))
theorem Z12 : ∀ (k : Nat), (∀ t : Tr, Bd t → (2 * SizeOf.sizeOf t + 1 < k ∨ (t.Kind = 10 ∧ 0 < k)) → (Zt k).1 t = some (rt t 64)) ∧
    (∀ (t : Tr) (d : Nat), Bd t → 2 * SizeOf.sizeOf t < k → d ≤ 64 → (Zt k).2.1 t (d : Int) = some (rq t d)) ∧
    (∀ (l : List Tr) (d : Nat), (∀ x ∈ l, Bd x ∧ 2 * SizeOf.sizeOf x + 1 < k) → (l.length : Int) ≤ 140737488355328 → d ≤ 64 → 1 ≤ k → (Zt k).2.2.1 l (d : Int) = some (l.all fun x => rq x d)) ∧
    (∀ (l : List Tr) (c : Int), (∀ x ∈ l, Bd x) → (l.length : Int) ≤ 140737488355328 → 0 ≤ c → c ≤ 5 → 2 ≤ k → (Zt k).2.2.2 l c = some (l.all (ra c)))
  | 0 => ⟨fun t _ h => by omega, fun t d _ h => by omega, fun l d _ _ _ h => by omega, fun l c _ _ _ _ h => by omega⟩
  | k + 1 => by
    obtain ⟨i1, i2, i3, i4⟩ := Z12 k
    refine ⟨fun t hb hk => ?_, fun t d hb hk hd => ?_, fun l d hl hn hd hk => ?_, fun l c hl hn h0 h5 hk => ?_⟩
    · show Zd4 (Zt k).1 (Zt k).2.1 (Zt k).2.2.1 (Zt k).2.2.2 t = _
      unfold Zd4
      rw [Z6z, Ycy]
      by_cases h10 : t.Kind = 10
      · have e : (t.Kind == 10) = true := by simp [h10]
        rw [e, cond_true, Zc4, Zdz, if_neg (by rw [h10]; decide), if_pos h10]
      have e : (t.Kind == 10) = false := by simp [h10]
      have e2 : (t.Kind != 10) = true := by simp [h10]
      have := i2 t 64 hb (by rcases hk with hk | hk; omega; exact absurd hk.1 h10) (by decide)
      rw [e, cond_false, show (64 : Int) = ((64 : Nat) : Int) from rfl, this, Option.bind_some]
      unfold rq
      rw [e2, Bool.and_true]
    · have hkd := hb.k
      have hw := hb.w
      show Zd5 (Zt k).1 (Zt k).2.1 (Zt k).2.2.1 (Zt k).2.2.2 t (d : Int) = _
      unfold Zd5 rq
      rw [Z6z, Z6z, Zdz]
      by_cases h0 : t.Kind = 0
      · have e : (t.Kind == 0) = true := by simp [h0]
        have e2 : (t.Kind != 10) = true := by rw [h0]; rfl
        rw [e, e2, cond_true, Zc4, if_pos h0, Bool.and_true]
      have e0 : (t.Kind == 0) = false := by simp [h0]
      rw [e0, cond_false, if_neg h0]
      by_cases hd0 : d = 0
      · subst hd0
        have e : (((0 : Nat) : Int) == 0) = true := rfl
        rw [e, cond_true]
        by_cases h10 : t.Kind = 10
        · simp [h10]
        rw [if_neg h10, if_pos (by omega), Bool.false_and]
      have ed : ((d : Int) == 0) = false := by rw [beq_eq_false_iff_ne]; omega
      rw [ed, cond_false]
      obtain ⟨d', rfl⟩ : ∃ d', d = d' + 1 := ⟨d - 1, by omega⟩
      have e3 : ((d' + 1 : Nat) : Int) - 1 = (d' : Int) := by omega
      have ih3 := i3 t.Kids d' (fun x hx => ⟨hb.all x hx, by have := Yk hx; omega⟩) (by omega) (by omega) (by have := Zwj t; omega)
      rw [Yf (x := ((d' + 1 : Nat) : Int) - 1) (by omega) (by omega), e3, ih3, Nat.add_sub_cancel]
      by_cases h1 : t.Kind = 1
      · have e : (t.Kind == 1) = true := by simp [h1]
        have e2 : (t.Kind != 10) = true := by rw [h1]; rfl
        have e10 : ¬ t.Kind = 10 := by omega
        have ho : ∀ x : Tr, okk t.Kind x = (x.Kind != 10) := fun x => by unfold okk; rw [h1, if_neg (by decide)]; simp
        rw [e, e2, cond_true, if_neg e10, Bool.and_true]
        simp only [ho]
        by_cases hw' : t.Words.length < 65536
        · have q1 : decide ((t.Words.length : Int) < 65536) = true := by rw [decide_eq_true_eq]; omega
          by_cases hk' : t.Kids.length < 65536
          · have q2 : decide ((t.Kids.length : Int) < 65536) = true := by rw [decide_eq_true_eq]; omega
            rw [q1, q2, if_neg (by omega)]
            rfl
          have q2 : decide ((t.Kids.length : Int) < 65536) = false := by rw [decide_eq_false_iff_not]; omega
          rw [q1, q2, if_pos (by omega)]
          rfl
        have q1 : decide ((t.Words.length : Int) < 65536) = false := by rw [decide_eq_false_iff_not]; omega
        rw [q1, if_pos (by omega)]
        rfl
      have e1 : (t.Kind == 1) = false := by simp [h1]
      rw [e1, cond_false, Yai, Option.bind_some]
      by_cases hbad : ¬ (2 ≤ t.Kind ∧ t.Kind ≤ 9) ∨ 0 < t.Words.length ∨ 1048576 ≤ t.Kids.length
      · have q : cond (cond (!(decide (2 ≤ t.Kind) && decide (t.Kind ≤ 9))) true (decide (0 < (t.Words.length : Int)))) true (decide (1048576 ≤ (t.Kids.length : Int))) = true := by
          cases hq : cond (cond (!(decide (2 ≤ t.Kind) && decide (t.Kind ≤ 9))) true (decide (0 < (t.Words.length : Int)))) true (decide (1048576 ≤ (t.Kids.length : Int))) with
          | true => rfl
          | false =>
            have hc : ∀ a b c : Bool, cond (cond (!a) true b) true c = false → a = true ∧ b = false ∧ c = false := by decide
            obtain ⟨z1, z2, z3⟩ := hc _ _ _ hq
            rw [Bool.and_eq_true, decide_eq_true_eq, decide_eq_true_eq] at z1
            rw [decide_eq_false_iff_not] at z2 z3
            omega
        rw [q, cond_true]
        by_cases h10 : t.Kind = 10
        · have e2 : (t.Kind != 10) = false := by simp [h10]
          rw [e2, Bool.and_false]
        rw [if_neg h10, if_pos (by omega), Bool.false_and]
      have hg : 2 ≤ t.Kind ∧ t.Kind ≤ 9 ∧ ¬ 0 < t.Words.length ∧ ¬ 1048576 ≤ t.Kids.length := by omega
      have q2 : decide (0 < (t.Words.length : Int)) = false := by rw [decide_eq_false_iff_not]; omega
      have q3 : decide (1048576 ≤ (t.Kids.length : Int)) = false := by rw [decide_eq_false_iff_not]; omega
      have e10 : ¬ t.Kind = 10 := by omega
      have e2 : (t.Kind != 10) = true := by simp [e10]
      rw [decide_eq_true hg.1, decide_eq_true hg.2.1, q2, q3, e2, if_neg e10, if_neg (by omega), Bool.and_true]
      simp only [Bool.and_true, Bool.not_true, cond_false]
      by_cases h8 : t.Kind = 8
      · have e : (t.Kind == 8) = true := by simp [h8]
        have ho : ∀ x : Tr, okk t.Kind x = (x.Kind != 10) := fun x => by unfold okk; rw [h8, if_neg (by decide)]; simp
        rw [e, cond_true, Option.bind_some]
        simp only [ho]
        rfl
      have e8 : (t.Kind == 8) = false := by simp [h8]
      rw [e8, cond_false]
      by_cases h9 : t.Kind = 9
      · have e : (t.Kind == 9) = true := by simp [h9]
        have ho : ∀ x : Tr, (rt x d' && okk t.Kind x) = (rq x d' && x.Kind == 1) := fun x => by
          unfold okk rq
          rw [h9, if_neg (by decide)]
          have : ((9 : Int) != 9) = false := rfl
          rw [this, Bool.false_or, Bool.and_assoc]
        rw [e, cond_true, Z4w (by omega), Option.bind_some]
        simp only [ho]
        rw [Z46]
        cases t.Kids.all fun x => x.Kind == 1 with
        | false => rw [Bool.and_false]; rfl
        | true => rw [Bool.and_true]; rfl
      have e : (t.Kind == 9) = false := by simp [h9]
      have hd7 : 2 ≤ t.Kind ∧ t.Kind ≤ 7 := by omega
      rw [e, cond_false, Yf (by omega) (by omega), i4 t.Kids (t.Kind - 2) hb.all (by omega) (by omega) (by omega) (by have := Zwj t; omega), Option.bind_some]
      congr 1
      refine Zyk fun x hx => ?_
      unfold okk ra
      rw [if_pos hd7]
      by_cases hx10 : x.Kind = 10
      · rw [Ya1 hx10 d' 64]
        have : (x.Kind == 10) = true := by simp [hx10]
        rw [this, Bool.true_and, Bool.true_and]
      have : (x.Kind == 10) = false := by simp [hx10]
      rw [this, Bool.false_and, Bool.false_and, Bool.and_false]
    · show Za9 (Zt k).1 (Zt k).2.1 (Zt k).2.2.1 (Zt k).2.2.2 l (d : Int) = _
      unfold Za9
      rw [Zqt l (Ul (Zt k).2.1 l (d : Int)) (fun x => rq x d) (.inl ()) (.inr ()) hn (fun i x hi hx hm => by
        unfold Ul
        rw [Zb4 hi, cond_true, Yo hx, Option.bind_some, i2 x d (hl x hm).1 (by have := (hl x hm).2; omega) hd, Option.bind_some]
        cases rq x d <;> rfl) (by unfold Ul; rw [Zbx]; rfl), Option.bind_some]
      cases l.all fun x => rq x d <;> rfl
    show Za8 (Zt k).1 (Zt k).2.1 (Zt k).2.2.1 (Zt k).2.2.2 l c = _
    unfold Za8
    rw [Zqt l (Uk (Zt k).1 l c) (ra c) (.inl ()) (.inr ()) hn (fun i x hi hx hm => by
      unfold Uk ra
      rw [Zb4 hi, cond_true, Yo hx, Option.bind_some]
      by_cases hx10 : x.Kind = 10
      · have e : (x.Kind == 10) = true := by simp [hx10]
        have e2 : (x.Kind != 10) = false := by simp [hx10]
        rw [e, e2, cond_false, i1 x (hl x hm) (.inr ⟨hx10, by omega⟩), Option.bind_some, Bool.true_and]
        cases hr : rt x 64 with
        | false => rfl
        | true =>
          obtain ⟨w, hw⟩ := Zot hx10 hr
          have hu := (hl x hm).u w (by rw [hw]; exact .head _)
          have hg0 : Y5 [w] (0 : Int) = some w := rfl
          rw [cond_true, hw, hg0, Option.bind_some, Z3d h0 h5 hu.1, Option.bind_some]
          simp only [cond_false, List.headD_cons, Bool.true_and, Bool.not_true]
          cases Zbb c w <;> rfl
      have e : (x.Kind == 10) = false := by simp [hx10]
      have e2 : (x.Kind != 10) = true := by simp [hx10]
      rw [e, e2]
      rfl) (by unfold Uk; rw [Zbx]; rfl), Option.bind_some]
    cases l.all (ra c) <;> rfl
theorem Z87 {t : Tr} (h : Bd t) : Zkz t = some (rt t 64) := Zeb (2 * SizeOf.sizeOf t + 2) fun k hk => (Z12 k).1 t h (.inl (by omega))
section
variable {A : Zj}
theorem Z39 {r : Zb} (h : r.kind = 9) {i : Int} (hi : 0 ≤ i ∧ i < Zx r) : Ys A r i = (⟨some A, 1, r.segment, r.at_ + 1 + i * (r.words + r.ptrs), r.words, r.ptrs, 0, 0, 0⟩, 0) := by
  unfold Ys
  rw [if_neg (by omega), if_neg (by omega), if_neg (by omega), if_pos h]
theorem Yb3 {r : Zb} (h : 2 ≤ r.kind ∧ r.kind ≤ 7) {i : Int} (hi : 0 ≤ i ∧ i < Zx r) : Ys A r i = (⟨some A, 10, r.segment, r.at_, 0, 0, 0, r.kind - 2, i⟩, 0) := by
  unfold Ys
  rw [if_neg (by omega), if_neg (by omega), if_neg (by omega), if_neg (by omega)]
theorem Ybb (c : Int) : ((wid c : Nat) : Int) = wdt c := by
  unfold wid wdt
  repeat' split
  all_goals rfl
theorem Zy3 {r : Zb} (hr : OKr A r) (h : r.kind = 1) : ((X7 A r).length : Int) = r.words := by
  unfold X7
  rw [if_neg (by omega), if_pos h]
  cases hr with
  | z => simp [r0] at h
  | st s a d p hd hp hin =>
    have := inB_iff.1 hin
    simp only [List.length_take, List.length_drop]
    simp only [seg] at this ⊢
    omega
  | li k s a n hk => simp only at h; omega
  | co => simp at h
  | at_ => simp at h
end
theorem Zey {α S R σ : Type} (xs : List α) (mk : S → Int → σ) (f : S → α → S) (out : S → R) (I : S → Prop) (step : σ → Option (σ ⊕ R)) (hl : (xs.length : Int) ≤ 140737488355328)
    (h1 : ∀ (s : S) (i : Nat) (x : α), I s → i < xs.length → xs[i]? = some x → x ∈ xs → I (f s x) ∧ step (mk s (i : Int)) = some (.inl (mk (f s x) (IntKind.i64.wrap ((i : Int) + 1))))) (h2 : ∀ s, I s → step (mk s (xs.length : Int)) = some (.inr (out s))) (s : S) (hs : I s) : Zs step (mk s 0) = some (out (xs.foldl f s)) ∧ I (xs.foldl f s) := by
  have key : ∀ (ys : List α) (i : Nat) (s : S), I s → xs.drop i = ys → i ≤ xs.length → Zs step (mk s (i : Int)) = some (out (ys.foldl f s)) ∧ I (ys.foldl f s) := fun ys => by
    induction ys with
    | nil =>
      intro i s hI h hi
      have : i = xs.length := by
        have := congrArg List.length h
        rw [List.length_drop, List.length_nil] at this
        omega
      subst this
      exact ⟨Y7 (h2 s hI), hI⟩
    | cons x ys ih =>
      intro i s hI h hi
      have hx : xs[i]? = some x := by
        have := congrArg (fun l => l[0]?) h
        simpa using this
      have hi' : i < xs.length := by
        rcases Nat.lt_or_ge i xs.length with h' | h'
        · exact h'
        rw [List.getElem?_eq_none h'] at hx; cases hx
      obtain ⟨hI', hs⟩ := h1 s i x hI hi' hx (List.mem_of_getElem? hx)
      have hd : xs.drop (i + 1) = ys := by
        have := congrArg List.tail h
        rwa [List.tail_drop, List.tail_cons] at this
      have e1 : (i : Int) + 1 = ((i + 1 : Nat) : Int) := by omega
      rw [Yf (by omega) (by omega), e1] at hs
      rw [Ql hs]
      exact ih (i + 1) (f s x) hI' hd (by omega)
  exact key xs 0 s hs rfl (Nat.zero_le _)
def n0T : Tr := ⟨0, [], []⟩
theorem Z1j {α β : Type} (xs : List α) (f : α → β) (step : Int × List β → Option ((Int × List β) ⊕ List β)) (acc : List β) (hl : (xs.length : Int) ≤ 140737488355328)
    (h1 : ∀ (i : Nat) (x : α) (out : List β), i < xs.length → xs[i]? = some x → x ∈ xs → out.length = acc.length + i → step ((i : Int), out) = some (.inl (IntKind.i64.wrap ((i : Int) + 1), out ++ [f x])))
    (h2 : ∀ out, step ((xs.length : Int), out) = some (.inr out)) : Zs step (0, acc) = some (acc ++ xs.map f) := by
  have key : ∀ m i, i + m = xs.length → Zs step ((i : Int), acc ++ (xs.take i).map f) = some (acc ++ xs.map f) := fun m => by
    induction m with
    | zero =>
      intro i hi
      have hi' : i = xs.length := by omega
      subst hi'
      rw [List.take_length]
      exact Y7 (h2 _)
    | succ m ih =>
      intro i hi
      have hx : xs[i]? = some xs[i] := List.getElem?_eq_getElem (by omega)
      have h := h1 i _ (acc ++ (xs.take i).map f) (by omega) hx (List.mem_of_getElem? hx) (by rw [List.length_append, List.length_map, List.length_take]; omega)
      rw [Yf (by omega) (by omega)] at h
      rw [Ql h]
      have e : acc ++ (xs.take i).map f ++ [f xs[i]] = acc ++ (xs.take (i + 1)).map f := by
        rw [List.take_add_one, hx, List.map_append, List.append_assoc]
        rfl
      rw [e]
      exact ih (i + 1) (by omega)
  have := key xs.length 0 (by omega)
  simpa using this
theorem Yav {k : Int} {t : Tr} (h : okk k t = true) : okk k (nrm t) = true := by
  unfold okk at h ⊢
  rw [Zeh]
  split
  · rename_i hk
    rw [if_pos hk, Bool.and_eq_true, beq_iff_eq] at h
    rw [Zbi (by omega) (by omega), h.1]
    simp only [BEq.rfl, Bool.true_and]
    exact h.2
  rename_i hk
  rw [if_neg hk] at h
  exact h
theorem Z9c : ∀ (n : Nat) (t : Tr) (d : Nat), SizeOf.sizeOf t < n → rt t d = true → rt (nrm t) d = true
  | 0, _, _, h, _ => by omega
  | n + 1, t, d, hn, h => by
    have hk := Zeh t
    by_cases h0 : t.Kind = 0
    · rw [Zcc h0, Zdz, if_pos rfl]; rfl
    rw [Zdz, if_neg h0] at h
    by_cases h10 : t.Kind = 10
    · rw [if_pos h10] at h
      rw [Zbi h0 (by omega), Zdz, if_neg h0, if_pos h10]
      simp only [List.length_map]
      exact h
    rw [if_neg h10] at h
    by_cases hc : t.Kind < 0 ∨ 10 < t.Kind ∨ d = 0 ∨ 65536 ≤ t.Words.length ∨ (t.Kind = 1 ∧ 65536 ≤ t.Kids.length) ∨ 1048576 ≤ t.Kids.length ∨ (1 < t.Kind ∧ 0 < t.Words.length)
    · rw [if_pos hc] at h; cases h
    rw [if_neg hc, List.all_eq_true] at h
    have hkid : ∀ x ∈ t.Kids, (rt (nrm x) (d - 1) && okk t.Kind (nrm x)) = true := fun x hx => by
      have := h x hx
      rw [Bool.and_eq_true] at this ⊢
      exact ⟨Z9c n x (d - 1) (by have := Yk hx; omega) this.1, Yav this.2⟩
    by_cases h1 : t.Kind = 1
    · obtain ⟨W, K, e1, lW, lK, mK⟩ : ∃ W K, nrm t = ⟨1, W, K⟩ ∧ W.length ≤ t.Words.length ∧ K.length ≤ t.Kids.length ∧ ∀ x ∈ K, x ∈ t.Kids.map nrm :=
        ⟨_, _, K6 h1, Zlg _ _, by have h := Zlg (fun x : Tr => x.Kind == 0) (t.Kids.map nrm); rw [List.length_map] at h; exact h, fun x hx => Zi9 hx⟩
      rw [e1, Zdz]
      simp only
      rw [if_neg (by decide), if_neg (by decide), if_neg (by omega), List.all_eq_true]
      intro x hx
      obtain ⟨y, hy, rfl⟩ := List.mem_map.1 (mK x hx)
      rw [← h1]
      exact hkid y hy
    rw [Zbi h0 h1, Zdz]
    simp only [List.length_map]
    rw [if_neg h0, if_neg h10, if_neg hc, List.all_eq_true]
    intro x hx
    obtain ⟨y, hy, rfl⟩ := List.mem_map.1 hx
    exact hkid y hy
theorem rtN {t : Tr} {d : Nat} (h : rt t d = true) : rt (nrm t) d = true := Z9c _ t d (Nat.lt_succ_self _) h
def atD {α : Type} (z : α) (l : List α) (i : Nat) : α := (l[i]?).getD z
def p0 (x : Int) : Bool := x == 0
def pT (x : Tr) : Bool := x.Kind == 0
instance decTr : DecidableEq Tr := fun a b => decidable_of_iff (eqT a b = true) eqT_iff
def NT (t : Tr) : Prop := nrm t = t
theorem NT.null {t : Tr} (h : NT t) (hk : pT t = true) : t = n0T := by
  unfold pT at hk
  rw [beq_iff_eq] at hk
  rw [← h, Zcc hk]
  rfl
theorem NT.of (t : Tr) : NT (nrm t) := Zol t
theorem NT.z : NT n0T := Zcc rfl
theorem NT.kids {t : Tr} (h : NT t) : ∀ k ∈ t.Kids, NT k := fun k hk => by
  unfold NT at h
  rw [← h] at hk
  by_cases h0 : t.Kind = 0
  · rw [Zcc h0] at hk; cases hk
  by_cases h1 : t.Kind = 1
  · rw [K6 h1] at hk
    obtain ⟨y, _, rfl⟩ := List.mem_map.1 (Zi9 hk)
    exact NT.of y
  rw [Zbi h0 h1] at hk
  obtain ⟨y, _, rfl⟩ := List.mem_map.1 hk
  exact NT.of y
theorem NT.map {l : List Tr} (h : ∀ k ∈ l, NT k) : l.map nrm = l := by
  conv => rhs; rw [← List.map_id l]
  exact List.map_congr_left fun x hx => h x hx
theorem NT.words {t : Tr} (h : NT t) (h1 : t.Kind = 1) : tr p0 t.Words = t.Words ∧ tr pT t.Kids = t.Kids := by
  have hk := NT.map h.kids
  unfold NT at h
  rw [K6 h1] at h
  have hw := congrArg Za.Words h
  have hk2 := congrArg Za.Kids h
  simp only at hw hk2
  rw [hk] at hk2
  exact ⟨hw, hk2⟩
theorem NT.st {ws : List Int} {ks : List Tr} (h : ∀ k ∈ ks, NT k) : NT ⟨1, tr p0 ws, tr pT ks⟩ := by
  unfold NT
  rw [K6 rfl]
  simp only
  rw [NT.map (l := tr pT ks) fun k hk => h k (Zi9 hk)]
  congr 1
  · exact Zy1 ws
  exact Zy1 ks
theorem NT.li {k : Int} {ks : List Tr} (h0 : ¬ k = 0) (h1 : ¬ k = 1) (h : ∀ k ∈ ks, NT k) : NT ⟨k, [], ks⟩ := by
  unfold NT
  rw [Zbi h0 h1]
  simp only
  rw [NT.map h]
inductive Rg : Tr → Prop
  | mk (t : Tr) (h3 : ∀ w ∈ t.Words, 0 ≤ w ∧ w < 18446744073709551616) (h4 : ∀ k ∈ t.Kids, Rg k) : Rg t
theorem Rg.u {t : Tr} (h : Rg t) : ∀ w ∈ t.Words, 0 ≤ w ∧ w < 18446744073709551616 := by cases h; assumption
theorem Rg.all {t : Tr} (h : Rg t) : ∀ k ∈ t.Kids, Rg k := by cases h; assumption
theorem Rg.z : Rg n0T := .mk _ (by simp [n0T]) (by simp [n0T])
theorem Rg.of : ∀ (n : Nat) (t : Tr), SizeOf.sizeOf t < n → Bd t → Rg t
  | 0, _, h, _ => by omega
  | n + 1, t, hn, h => .mk _ h.u fun k hk => Rg.of n k (by have := Yk hk; omega) (h.all k hk)
theorem Bd.rg {t : Tr} (h : Bd t) : Rg t := Rg.of _ t (Nat.lt_succ_self _) h
inductive TX : Tr → Prop
  | mk (t : Tr) (h1 : 2 ≤ t.Kind ∧ t.Kind ≤ 9 → t.Words = []) (h9 : t.Kind = 9 → ∀ k ∈ t.Kids, k.Kind = 1) (ih : ∀ k ∈ t.Kids, TX k) : TX t
theorem TX.w {t : Tr} (h : TX t) : 2 ≤ t.Kind ∧ t.Kind ≤ 9 → t.Words = [] := by cases h; assumption
theorem TX.s {t : Tr} (h : TX t) : t.Kind = 9 → ∀ k ∈ t.Kids, k.Kind = 1 := by cases h; assumption
theorem TX.all {t : Tr} (h : TX t) : ∀ k ∈ t.Kids, TX k := by cases h; assumption
theorem TX.z : TX n0T := .mk _ (fun _ => rfl) (fun h => by simp [n0T] at h) (by simp [n0T])
theorem TX.nn : ∀ (n : Nat) (t : Tr), SizeOf.sizeOf t < n → TX t → TX (nrm t)
  | 0, _, h, _ => by omega
  | n + 1, t, hn, h => by
    by_cases h0 : t.Kind = 0
    · rw [Zcc h0]; exact TX.z
    by_cases h1 : t.Kind = 1
    · rw [K6 h1]
      refine .mk _ (fun h => by simp only at h; omega) (fun h => by simp only at h; omega) fun k hk => ?_
      obtain ⟨y, hy, rfl⟩ := List.mem_map.1 (Zi9 hk)
      exact TX.nn n y (by have := Yk hy; omega) (h.all y hy)
    rw [Zbi h0 h1]
    refine .mk _ h.w (fun h9 k hk => ?_) fun k hk => ?_
    · obtain ⟨y, hy, rfl⟩ := List.mem_map.1 hk
      rw [Zeh]; exact h.s h9 y hy
    obtain ⟨y, hy, rfl⟩ := List.mem_map.1 hk
    exact TX.nn n y (by have := Yk hy; omega) (h.all y hy)
theorem TX.n {t : Tr} (h : TX t) : TX (nrm t) := TX.nn _ t (Nat.lt_succ_self _) h
theorem Z48 {α : Type} {z : α} {l : List α} {i : Nat} : atD z l i ∈ l ∨ atD z l i = z := by
  unfold atD
  cases h : l[i]? with
  | none => exact .inr rfl
  | some x => exact .inl (List.mem_of_getElem? h)
theorem Zy6 {l : List Tr} {Q : Tr → Prop} (h : ∀ x ∈ l, Q x) (hz : Q n0T) (i : Nat) : Q (atD n0T l i) := by
  rcases Z48 (z := n0T) (l := l) (i := i) with q | q
  · exact h _ q
  rw [q]; exact hz
theorem Ybw {l : List Int} (h : ∀ x ∈ l, 0 ≤ x ∧ x < 18446744073709551616) (i : Nat) : 0 ≤ atD 0 l i ∧ atD 0 l i < 18446744073709551616 := by
  rcases Z48 (z := (0 : Int)) (l := l) (i := i) with q | q
  · exact h _ q
  rw [q]; omega
structure GT (t : Tr) : Prop where
  n : NT t
  g : Rg t
  x : TX t
theorem GT.z : GT n0T := ⟨NT.z, Rg.z, TX.z⟩
theorem GT.all {t : Tr} (h : GT t) : ∀ k ∈ t.Kids, GT k := fun k hk => ⟨h.n.kids k hk, h.g.all k hk, h.x.all k hk⟩
theorem GT.at_ {t : Tr} (h : GT t) (i : Nat) : GT (atD n0T t.Kids i) := ⟨Zy6 h.n.kids NT.z i, Zy6 h.g.all Rg.z i, Zy6 h.x.all TX.z i⟩
theorem GT.of {t : Tr} (hb : Bd t) (hx : TX t) : GT (nrm t) := ⟨NT.of t, hb.nrm.rg, hx.n⟩
def Yfg {α : Type} (f : α → α → Option α) : Option α → Option α → Option α
  | some x, some y => f x y
  | some x, none => some x
  | none, y => y
def Rise {α : Type} (pl : α → Int) (l : List α) : Prop := l.Pairwise (fun a b => pl a < pl b) ∧ ∀ x ∈ l, 0 ≤ pl x
theorem Rise.tail {α : Type} {pl : α → Int} {x : α} {l : List α} (h : Rise pl (x :: l)) : Rise pl l := ⟨(List.pairwise_cons.1 h.1).2, fun y hy => h.2 y (.tail _ hy)⟩
theorem GT.w {t : Tr} (h : GT t) (j : Nat) : 0 ≤ atD 0 t.Words j ∧ atD 0 t.Words j < 18446744073709551616 := Ybw h.g.u j
theorem w_l (a b : Int) : IntKind.i64.wrap (IntKind.i64.wrap a + b) = IntKind.i64.wrap (a + b) := by rw [IntKind.wrap_i64 a, IntKind.wrap_i64, IntKind.wrap_i64]; omega
theorem w_r (a b : Int) : IntKind.i64.wrap (a + IntKind.i64.wrap b) = IntKind.i64.wrap (a + b) := by rw [IntKind.wrap_i64 b, IntKind.wrap_i64, IntKind.wrap_i64]; omega
theorem w_w (a : Int) : IntKind.i64.wrap (IntKind.i64.wrap a) = IntKind.i64.wrap a := by rw [IntKind.wrap_i64 a, IntKind.wrap_i64]; omega
theorem Z9w (a b : Int) : IntKind.i64.wrap (IntKind.i64.wrap a + IntKind.i64.wrap b) = IntKind.i64.wrap (a + b) := by rw [w_l, w_r]
theorem Zgv {α : Type} (g : α → Int) : ∀ (l : List α) (s : Int), l.foldl (fun s x => s + g x) s = s + (l.map g).sum
  | [], s => by simp
  | x :: l, s => by rw [List.foldl_cons, Zgv g l, List.map_cons, List.sum_cons]; omega
def frS (s : Int × Int) (x : Tr) : Int × Int := (if s.1 < (x.Words.length : Int) then (x.Words.length : Int) else s.1, if s.2 < (x.Kids.length : Int) then (x.Kids.length : Int) else s.2)
def fr (l : List Tr) : Int × Int := l.foldl frS (0, 0)
theorem Zu8 {t : Tr} (hl : (t.Kids.length : Int) ≤ 140737488355328) : Za3 t = some (fr t.Kids) := by
  unfold Za3
  rw [(Zey t.Kids (fun (s : Int × Int) (i : Int) => (s.1, s.2, i)) frS id (fun _ => True) (Zbe t) hl (fun s i x _ hi hx hm => ⟨trivial, by
    unfold Zbe
    simp only
    rw [Zb4 hi, cond_true, Yo hx, Option.bind_some]
    rfl⟩) (fun s _ => by
    unfold Zbe
    simp only
    rw [Zbx, cond_false]
    rfl) (0, 0) trivial).1, Option.bind_some]
  rfl
theorem Ztv {t : Tr} (hl : (t.Kids.length : Int) ≤ 140737488355328) : Jp t = some (fr t.Kids) := by
  unfold Jp
  rw [(Zey t.Kids (fun (s : Int × Int) (i : Int) => (s.1, s.2, i)) frS id (fun _ => True) (Kv t) hl (fun s i x _ hi hx hm => ⟨trivial, by
    unfold Kv frS
    simp only
    rw [Zb4 hi, cond_true, Yo hx, Option.bind_some]
    by_cases h1 : s.1 < (x.Words.length : Int) <;> by_cases h2 : s.2 < (x.Kids.length : Int) <;> simp [h1, h2]⟩) (fun s _ => by
    unfold Kv
    simp only
    rw [Zbx, cond_false]
    rfl) (0, 0) trivial).1, Option.bind_some]
  rfl
def h9 (l : List Tr) : Int := IntKind.i64.wrap (1 + IntKind.i64.wrap ((l.length : Int) * IntKind.i64.wrap ((fr l).1 + (fr l).2)))
def Znd (c : Int) (n : Nat) : Int := ((n * wid c + 63) / 64 : Nat)
def sz (t : Tr) : Int :=
  if t.Kind = 1 then ((t.Words.length : Int) + (t.Kids.length : Int)) + (t.Kids.attach.map fun k => sz k.1).sum
  else if 2 ≤ t.Kind ∧ t.Kind ≤ 7 then Znd (t.Kind - 2) t.Kids.length
  else if t.Kind = 8 then (t.Kids.length : Int) + (t.Kids.attach.map fun k => sz k.1).sum
  else if t.Kind = 9 then h9 t.Kids + (t.Kids.attach.map fun k => (k.1.Kids.attach.map fun j => sz j.1).sum).sum
  else 0
termination_by SizeOf.sizeOf t
decreasing_by
  · exact Yk k.2
  · exact Yk k.2
  exact Nat.lt_trans (Yk j.2) (Yk k.2)
theorem Zes (t : Tr) : sz t = if t.Kind = 1 then ((t.Words.length : Int) + (t.Kids.length : Int)) + (t.Kids.map sz).sum
  else if 2 ≤ t.Kind ∧ t.Kind ≤ 7 then Znd (t.Kind - 2) t.Kids.length
  else if t.Kind = 8 then (t.Kids.length : Int) + (t.Kids.map sz).sum
  else if t.Kind = 9 then h9 t.Kids + (t.Kids.map fun k => (k.Kids.map sz).sum).sum
  else 0 := by
  rw [sz]
  have h1 : (t.Kids.attach.map fun k => (k.1.Kids.attach.map fun j => sz j.1).sum) = t.Kids.map fun k => (k.Kids.map sz).sum := by
    have : (fun (k : { x // x ∈ t.Kids }) => (k.1.Kids.attach.map fun j => sz j.1).sum) = fun (k : { x // x ∈ t.Kids }) => (fun k : Tr => (k.Kids.map sz).sum) k.1 := funext fun k => congrArg List.sum (List.attach_map_val (f := sz))
    rw [this]
    exact List.attach_map_val (f := fun k : Tr => (k.Kids.map sz).sum)
  rw [h1]
  simp only [List.attach_map_val]
theorem c5' {c : Int} (h : 0 ≤ c ∧ c ≤ 5) : c = 0 ∨ c = 1 ∨ c = 2 ∨ c = 3 ∨ c = 4 ∨ c = 5 := by omega
theorem Z5z {c : Int} (h : 0 ≤ c ∧ c ≤ 5) : Qt c = some ((wid c : Nat) : Int) := by
  unfold Qt
  rcases c5' h with rfl | rfl | rfl | rfl | rfl | rfl <;> rfl
end Go.Proofs.Ytpfbdlcnfekdkaa
