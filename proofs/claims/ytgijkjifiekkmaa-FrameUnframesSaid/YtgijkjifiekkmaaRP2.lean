/- Plain facts on this seat's mirrors (part RP2); each theorem bears its own conditions. -/
import Derived.Test.YtgijkjifiekkmaaRP1
import Derived.IntWalk
namespace Go.Proofs.Ytgijkjifiekkmaa
open Go.RowKit
set_option linter.unusedVariables false
set_option linter.unusedSimpArgs false
theorem Qt {x : Int} (h1 : -9223372036854775808 ≤ x) (h2 : x ≤ 9223372036854775807) : IntKind.i64.wrap x = x := Xc ⟨h1, h2⟩
theorem Vl {b : List Int} (hb : ∀ x ∈ b, Jz x) {a j n : Nat} (hj : j < 4) (ha : a + 3 < b.length) (hl : b.length ≤ 140737488355328) (hn : n < 16777216) : Zu b (a : Int) ((n : Int), (j : Int)) = some (.inl (((256 * n + Zl b (a + j) : Nat) : Int), (j : Int) - 1)) := by
 have hbj := Zn hb (a + j)
 unfold Zu
 simp only
 rw [show decide ((0 : Int) ≤ (j : Int)) = true from by rw [decide_eq_true_eq]; omega, cond_true, Qt (x := (a : Int) + (j : Int)) (by omega) (by omega), ← Int.natCast_add, Jq hb (by omega), Option.bind_some, Qt (x := 256 * (n : Int)) (by omega) (by omega), Qt (x := ((Zl b (a + j) : Nat) : Int)) (by omega) (by omega), Qt (by omega) (by omega), Qt (by omega) (by omega)]
 congr 3
theorem Zaw {b : List Int} (hb : ∀ x ∈ b, Jz x) {a : Nat} (ha : a + 3 < b.length) (hl : b.length ≤ 140737488355328) : Ya b (a : Int) = some (Z0 b a : Int) := by
 have h0 := Zn hb a
 have h1 := Zn hb (a + 1)
 have h2 := Zn hb (a + 2)
 have h3 := Zn hb (a + 3)
 have s3 := Vl hb (a := a) (j := 3) (n := 0) (by omega) ha hl (by omega)
 have s2 := Vl hb (a := a) (j := 2) (n := 256 * 0 + Zl b (a + 3)) (by omega) ha hl (by omega)
 have s1 := Vl hb (a := a) (j := 1) (n := 256 * (256 * 0 + Zl b (a + 3)) + Zl b (a + 2)) (by omega) ha hl (by omega)
 have s0 := Vl hb (a := a) (j := 0) (n := 256 * (256 * (256 * 0 + Zl b (a + 3)) + Zl b (a + 2)) + Zl b (a + 1)) (by omega) ha hl (by omega)
 obtain ⟨n3, e3⟩ : ∃ n, n = 256 * 0 + Zl b (a + 3) := ⟨_, rfl⟩
 obtain ⟨n2, e2⟩ : ∃ n, n = 256 * n3 + Zl b (a + 2) := ⟨_, rfl⟩
 obtain ⟨n1, e1⟩ : ∃ n, n = 256 * n2 + Zl b (a + 1) := ⟨_, rfl⟩
 obtain ⟨n0, e0⟩ : ∃ n, n = 256 * n1 + Zl b (a + 0) := ⟨_, rfl⟩
 rw [← e3] at s3 s2 s1 s0
 rw [← e2] at s2 s1 s0
 rw [← e1] at s1 s0
 rw [← e0] at s0
 have t3 : Zu b (a : Int) (0, 3) = some (.inl ((n3 : Int), 2)) := s3
 have t2 : Zu b (a : Int) ((n3 : Int), 2) = some (.inl ((n2 : Int), 1)) := s2
 have t1 : Zu b (a : Int) ((n2 : Int), 1) = some (.inl ((n1 : Int), 0)) := s1
 have t0 : Zu b (a : Int) ((n1 : Int), 0) = some (.inl ((n0 : Int), -1)) := s0
 have hL : Zj (Zu b (a : Int)) (0, 3) = some (Z0 b a : Int) := by
  rw [Zi t3, Zi t2, Zi t1, Zi t0]
  refine Z8 ?_
  unfold Zu
  simp only
  rw [show decide ((0 : Int) ≤ -1) = false from rfl, cond_false]
  have : n0 = Z0 b a := by
   unfold Z0
   rw [Nat.add_zero] at e0
   omega
  rw [this]
 unfold Ya
 rw [hL, Option.bind_some]
theorem Jb {b : List Int} (hb : ∀ x ∈ b, Jz x) {a j n : Nat} (hj : j < 8) (ha : a + 7 < b.length) (hl : b.length ≤ 140737488355328) (hn : n < 72057594037927936) : Zp b (a : Int) ((n : Int), (j : Int)) = some (.inl (((256 * n + Zl b (a + j) : Nat) : Int), (j : Int) - 1)) := by
 have hbj := Zn hb (a + j)
 unfold Zp
 simp only
 rw [show decide ((0 : Int) ≤ (j : Int)) = true from by rw [decide_eq_true_eq]; omega, cond_true, Qt (x := (a : Int) + (j : Int)) (by omega) (by omega), ← Int.natCast_add, Jq hb (by omega), Option.bind_some, Zk4 (x := (n : Int) * 256) (by omega), Zk4 (x := ((Zl b (a + j) : Nat) : Int)) (by omega), Zk4 (by omega), Qt (by omega) (by omega)]
 congr 3
 rw [Int.natCast_add, Int.natCast_mul, Int.mul_comm]
 rfl
theorem Zot {b : List Int} (hb : ∀ x ∈ b, Jz x) {a : Nat} (ha : a + 7 < b.length) (hl : b.length ≤ 140737488355328) : X0 b (a : Int) = some (Q1 b a : Int) := by
 have h0 := Zn hb a
 have h1 := Zn hb (a + 1)
 have h2 := Zn hb (a + 2)
 have h3 := Zn hb (a + 3)
 have h4 := Zn hb (a + 4)
 have h5 := Zn hb (a + 5)
 have h6 := Zn hb (a + 6)
 have h7 := Zn hb (a + 7)
 -- the number so far
 obtain ⟨n7, e7⟩ : ∃ n, n = 256 * 0 + Zl b (a + 7) := ⟨_, rfl⟩
 obtain ⟨n6, e6⟩ : ∃ n, n = 256 * n7 + Zl b (a + 6) := ⟨_, rfl⟩
 obtain ⟨n5, e5⟩ : ∃ n, n = 256 * n6 + Zl b (a + 5) := ⟨_, rfl⟩
 obtain ⟨n4, e4⟩ : ∃ n, n = 256 * n5 + Zl b (a + 4) := ⟨_, rfl⟩
 obtain ⟨n3, e3⟩ : ∃ n, n = 256 * n4 + Zl b (a + 3) := ⟨_, rfl⟩
 obtain ⟨n2, e2⟩ : ∃ n, n = 256 * n3 + Zl b (a + 2) := ⟨_, rfl⟩
 obtain ⟨n1, e1⟩ : ∃ n, n = 256 * n2 + Zl b (a + 1) := ⟨_, rfl⟩
 obtain ⟨n0, e0⟩ : ∃ n, n = 256 * n1 + Zl b (a + 0) := ⟨_, rfl⟩
 have s7 := Jb hb (a := a) (j := 7) (n := 0) (by omega) ha hl (by omega)
 have s6 := Jb hb (a := a) (j := 6) (n := n7) (by omega) ha hl (by omega)
 have s5 := Jb hb (a := a) (j := 5) (n := n6) (by omega) ha hl (by omega)
 have s4 := Jb hb (a := a) (j := 4) (n := n5) (by omega) ha hl (by omega)
 have s3 := Jb hb (a := a) (j := 3) (n := n4) (by omega) ha hl (by omega)
 have s2 := Jb hb (a := a) (j := 2) (n := n3) (by omega) ha hl (by omega)
 have s1 := Jb hb (a := a) (j := 1) (n := n2) (by omega) ha hl (by omega)
 have s0 := Jb hb (a := a) (j := 0) (n := n1) (by omega) ha hl (by omega)
 rw [← e7] at s7
 rw [← e6] at s6
 rw [← e5] at s5
 rw [← e4] at s4
 rw [← e3] at s3
 rw [← e2] at s2
 rw [← e1] at s1
 rw [← e0] at s0
 unfold X0
 have t7 : Zp b (a : Int) (0, 7) = some (.inl ((n7 : Int), 6)) := s7
 have t6 : Zp b (a : Int) ((n7 : Int), 6) = some (.inl ((n6 : Int), 5)) := s6
 have t5 : Zp b (a : Int) ((n6 : Int), 5) = some (.inl ((n5 : Int), 4)) := s5
 have t4 : Zp b (a : Int) ((n5 : Int), 4) = some (.inl ((n4 : Int), 3)) := s4
 have t3 : Zp b (a : Int) ((n4 : Int), 3) = some (.inl ((n3 : Int), 2)) := s3
 have t2 : Zp b (a : Int) ((n3 : Int), 2) = some (.inl ((n2 : Int), 1)) := s2
 have t1 : Zp b (a : Int) ((n2 : Int), 1) = some (.inl ((n1 : Int), 0)) := s1
 have t0 : Zp b (a : Int) ((n1 : Int), 0) = some (.inl ((n0 : Int), -1)) := s0
 have hL : Zj (Zp b (a : Int)) (0, 7) = some (Q1 b a : Int) := by
  rw [Zi t7, Zi t6, Zi t5, Zi t4, Zi t3, Zi t2, Zi t1, Zi t0]
  refine Z8 ?_
  unfold Zp
  simp only
  rw [show decide ((0 : Int) ≤ -1) = false from rfl, cond_false]
  have : n0 = Q1 b a := by
   unfold Q1
   rw [Nat.add_zero] at e0
   omega
  rw [this]
 rw [hL, Option.bind_some]
theorem Zlw (b : List Int) (hb : ∀ x ∈ b, Jz x) (hbl : b.length ≤ 100000000000) (h8 : b.length % 8 = 0) : Xa b = some (Qy b, true) := by
 unfold Xa
 have t1 : Int.tmod (b.length : Int) 8 = 0 := by rw [Int.tmod_eq_emod_of_nonneg (by omega)]; omega
 rw [t1, show decide ((0 : Int) < 0) = false from rfl, cond_false]
 have key : ∀ (k i : Nat), i + k = b.length / 8 → Zj (Yb b) (((8 * i : Nat) : Int), (List.range i).map fun i => (Q1 b (8 * i) : Int)) = some (Qy b) := fun k => by
  induction k with
  | zero =>
   intro i hi
   refine Z8 ?_
   unfold Yb
   simp only
   rw [show decide (((8 * i : Nat) : Int) < (b.length : Int)) = false from by rw [decide_eq_false_iff_not]; omega, cond_false]
   unfold Qy
   rw [show i = b.length / 8 by omega]
  | succ k ih =>
   intro i hi
   have hs : Yb b (((8 * i : Nat) : Int), (List.range i).map fun i => (Q1 b (8 * i) : Int)) = some (.inl (((8 * (i + 1) : Nat) : Int), (List.range (i + 1)).map fun i => (Q1 b (8 * i) : Int))) := by
    unfold Yb
    simp only
    rw [show decide (((8 * i : Nat) : Int) < (b.length : Int)) = true from by rw [decide_eq_true_eq]; omega, cond_true, Zot hb (by omega) (by omega), Option.bind_some, J4 (by simp only [List.length_map, List.length_range, List.length_singleton]; omega) (by simp only [List.length_map, List.length_range, List.length_singleton]; omega), Option.bind_some, Qt (by omega) (by omega), List.range_succ, List.map_append]
    congr 3
   rw [Zi hs]
   exact ih (i + 1) (by omega)
 have := key (b.length / 8) 0 (by omega)
 rw [show (((8 * 0 : Nat) : Int)) = 0 from rfl, List.range_zero, List.map_nil] at this
 rw [this, Option.bind_some]
theorem Zk3 (b : List Int) (c i : Nat) (h : i < c) : (Yn b c).drop i = (Z0 b (4 * (i + 1)) : Int) :: (Yn b c).drop (i + 1) := by
 unfold Yn
 rw [← List.map_drop, ← List.map_drop, List.drop_eq_getElem_cons (l := List.range c) (by rw [List.length_range]; exact h), List.map_cons, List.getElem_range]
theorem K1 (b : List Int) (c : Nat) : (Yn b c).length = c := by unfold Yn; rw [List.length_map, List.length_range]
theorem rl0 {b : List Int} (hb : ∀ x ∈ b, Jz x) (hl : b.length ≤ 140737488355328) (m : Nat) (hm : m < 1000) (hlen : 4 * (m + 2) ≤ b.length) : Zj (Zy b (m : Int)) 0 = some (if (List.range (m + 1)).any (fun i => decide (65536 < Z0 b (4 * (i + 1)))) = true then .inl () else .inr ()) := by
 have key : ∀ (k i : Nat), i + k = m + 1 → Zj (Zy b (m : Int)) (i : Int) = some (if ((List.range (m + 1)).drop i).any (fun i => decide (65536 < Z0 b (4 * (i + 1)))) = true then .inl () else .inr ()) := fun k => by
  induction k with
  | zero =>
   intro i hi
   rw [List.drop_eq_nil_of_le (by rw [List.length_range]; omega)]
   refine Z8 ?_
   unfold Zy
   rw [Qt (by omega) (by omega), show decide ((i : Int) < (m : Int) + 1) = false from by rw [decide_eq_false_iff_not]; omega, cond_false]
   rfl
  | succ k ih =>
   intro i hi
   have hi' : i < (List.range (m + 1)).length := by rw [List.length_range]; omega
   rw [List.drop_eq_getElem_cons hi', List.getElem_range, List.any_cons]
   have e1 : IntKind.i64.wrap (4 + IntKind.i64.wrap (4 * (i : Int))) = ((4 * (i + 1) : Nat) : Int) := by rw [Qt (x := 4 * (i : Int)) (by omega) (by omega), Qt (by omega) (by omega)]; omega
   have hst : Zy b (m : Int) (i : Int) = if 65536 < Z0 b (4 * (i + 1)) then some (.inr (.inl ())) else some (.inl ((i + 1 : Nat) : Int)) := by
    unfold Zy
    rw [Qt (x := (m : Int) + 1) (by omega) (by omega), show decide ((i : Int) < (m : Int) + 1) = true from by rw [decide_eq_true_eq]; omega, cond_true, e1, Zaw hb (by omega) hl, Option.bind_some, Qt (by omega) (by omega)]
    by_cases hq : 65536 < Z0 b (4 * (i + 1))
    ·rw [if_pos hq, show decide ((65536 : Int) < (Z0 b (4 * (i + 1)) : Int)) = true from by rw [decide_eq_true_eq]; omega, cond_true]
    rw [if_neg hq, show decide ((65536 : Int) < (Z0 b (4 * (i + 1)) : Int)) = false from by rw [decide_eq_false_iff_not]; omega, cond_false]
    rfl
   by_cases hq : 65536 < Z0 b (4 * (i + 1))
   ·rw [if_pos hq] at hst
    rw [decide_eq_true hq, Bool.true_or, if_pos rfl]
    exact Z8 hst
   rw [if_neg hq] at hst
   rw [decide_eq_false hq, Bool.false_or, Zi hst]
   exact ih (i + 1) (by omega)
 have := key (m + 1) 0 (by omega)
 rw [List.drop_zero] at this
 exact this
theorem rl1 {b : List Int} (hl : b.length ≤ 140737488355328) (z : Nat) (hz : z ≤ b.length) : ∀ (k i : Nat), i + k = z → Zj (Zz b (z : Int)) (i : Int) = some (if ((b.drop i).take k).any (fun x => x != 0) = true then .inl () else .inr ())
 | 0, i, hi => by
  refine Z8 ?_
  unfold Zz
  rw [show decide ((i : Int) < (z : Int)) = false from by rw [decide_eq_false_iff_not]; omega, cond_false, List.take_zero]
  rfl
 | k + 1, i, hi => by
  have hi' : i < b.length := by omega
  rw [List.drop_eq_getElem_cons hi', List.take_succ_cons, List.any_cons]
  have hst : Zz b (z : Int) (i : Int) = if (b[i] != 0) = true then some (.inr (.inl ())) else some (.inl ((i + 1 : Nat) : Int)) := by
   unfold Zz
   rw [show decide ((i : Int) < (z : Int)) = true from by rw [decide_eq_true_eq]; omega, cond_true, Xv (List.getElem?_eq_getElem hi'), Option.bind_some, Qt (by omega) (by omega)]
   cases (b[i] != 0) <;> rfl
  cases hq : (b[i] != 0) with
  | true =>
   rw [hq, if_pos rfl] at hst
   rw [Bool.true_or, if_pos rfl]
   exact Z8 hst
  | false =>
   rw [hq, if_neg (by simp)] at hst
   rw [Bool.false_or, Zi hst]
   exact rl1 hl z hz k (i + 1) (by omega)
theorem Zd6 (n : Int) (l : List Int) : X2 (n :: l) = n.toNat + X2 l := rfl
theorem Zda (n : Int) (l r : List Int) : V3 (n :: l) r = Qy (r.take (8 * n.toNat)) :: V3 l (r.drop (8 * n.toNat)) := rfl
theorem rl2 {b : List Int} (hb : ∀ x ∈ b, Jz x) (hl : b.length ≤ 140737488355328) (m : Nat) (hm : m < 16) (hlen : 4 * (m + 2) ≤ b.length) (hN : ∀ x ∈ Yn b (m + 1), isN x) : ∀ (k i a : Nat) (out : List (List Int)), i + k = m + 1 → out.length = i → a ≤ b.length →
  Zj (Zv b (m : Int)) ((a : Int), (i : Int), out) = some (if b.length - a < 8 * X2 ((Yn b (m + 1)).drop i) then .inl () else .inr (((a + 8 * X2 ((Yn b (m + 1)).drop i) : Nat) : Int), out ++ V3 ((Yn b (m + 1)).drop i) (b.drop a)))
 | 0, i, a, out, hi, ho, ha => by
  rw [List.drop_eq_nil_of_le (by rw [K1]; omega)]
  refine Z8 ?_
  unfold Zv
  simp only
  rw [Qt (by omega) (by omega), show decide ((i : Int) < (m : Int) + 1) = false from by rw [decide_eq_false_iff_not]; omega, cond_false]
  simp [X2, V3]
 | k + 1, i, a, out, hi, ho, ha => by
  have hs := Zk3 b (m + 1) i (by omega)
  have hn : Z0 b (4 * (i + 1)) ≤ 65536 := by
   have := hN _ (List.mem_of_mem_drop (i := i) (by rw [hs]; exact .head _))
   unfold isN at this
   omega
  rw [hs, Zd6, Zda, Int.toNat_natCast]
  have e1 : IntKind.i64.wrap (4 + IntKind.i64.wrap (4 * (i : Int))) = ((4 * (i + 1) : Nat) : Int) := by rw [Qt (x := 4 * (i : Int)) (by omega) (by omega), Qt (by omega) (by omega)]; omega
  by_cases hq : b.length - a < 8 * Z0 b (4 * (i + 1))
  ·rw [if_pos (show b.length - a < 8 * (Z0 b (4 * (i + 1)) + X2 ((Yn b (m + 1)).drop (i + 1))) by omega)]
   refine Z8 ?_
   unfold Zv
   simp only
   rw [Qt (x := (m : Int) + 1) (by omega) (by omega), show decide ((i : Int) < (m : Int) + 1) = true from by rw [decide_eq_true_eq]; omega, cond_true, e1, Zaw hb (by omega) hl, Option.bind_some, Qt (x := (b.length : Int) - (a : Int)) (by omega) (by omega), Qt (x := 8 * (Z0 b (4 * (i + 1)) : Int)) (by omega) (by omega), show decide ((b.length : Int) - (a : Int) < 8 * (Z0 b (4 * (i + 1)) : Int)) = true from by rw [decide_eq_true_eq]; omega, cond_true]
  have e3 : ((b.drop a).take (8 * Z0 b (4 * (i + 1)))).length = 8 * Z0 b (4 * (i + 1)) := by rw [List.length_take, List.length_drop]; omega
  have hst : Zv b (m : Int) ((a : Int), (i : Int), out) = some (.inl (((a + 8 * Z0 b (4 * (i + 1)) : Nat) : Int), ((i + 1 : Nat) : Int), out ++ [Qy ((b.drop a).take (8 * Z0 b (4 * (i + 1))))])) := by
   unfold Zv
   simp only
   rw [Qt (x := (m : Int) + 1) (by omega) (by omega), show decide ((i : Int) < (m : Int) + 1) = true from by rw [decide_eq_true_eq]; omega, cond_true, e1, Zaw hb (by omega) hl, Option.bind_some, Qt (x := (b.length : Int) - (a : Int)) (by omega) (by omega), Qt (x := 8 * (Z0 b (4 * (i + 1)) : Int)) (by omega) (by omega), show decide ((b.length : Int) - (a : Int) < 8 * (Z0 b (4 * (i + 1)) : Int)) = false from by rw [decide_eq_false_iff_not]; omega, cond_false, Qt (x := (a : Int) + 8 * (Z0 b (4 * (i + 1)) : Int)) (by omega) (by omega), Vo (by omega) (by omega) (by omega), Option.bind_some]
   have e2 : ((b.drop (a : Int).toNat).take ((a : Int) + 8 * (Z0 b (4 * (i + 1)) : Int) - (a : Int)).toNat) = (b.drop a).take (8 * Z0 b (4 * (i + 1))) := by
    rw [Int.toNat_natCast, show ((a : Int) + 8 * (Z0 b (4 * (i + 1)) : Int) - (a : Int)).toNat = 8 * Z0 b (4 * (i + 1)) by omega]
   rw [e2, Zlw _ (fun z hz => hb z (List.mem_of_mem_drop (List.mem_of_mem_take hz))) (by omega) (by omega), Option.bind_some, J4 (by simp only [List.length_singleton]; omega) (by simp only [List.length_singleton]; omega), Option.bind_some, Qt (x := (i : Int) + 1) (by omega) (by omega)]
   congr 3
  rw [Zi hst, rl2 hb hl m hm hlen hN k (i + 1) _ _ (by omega) (by rw [List.length_append, ho]; rfl) (by omega)]
  by_cases hq2 : b.length - a < 8 * (Z0 b (4 * (i + 1)) + X2 ((Yn b (m + 1)).drop (i + 1)))
  ·rw [if_pos hq2, if_pos (by omega)]
  rw [if_neg hq2, if_neg (by omega), List.append_assoc, List.drop_drop, show a + 8 * Z0 b (4 * (i + 1)) + 8 * X2 ((Yn b (m + 1)).drop (i + 1)) = a + 8 * (Z0 b (4 * (i + 1)) + X2 ((Yn b (m + 1)).drop (i + 1))) by omega]
  rfl
end Go.Proofs.Ytgijkjifiekkmaa
