/- Plain facts on this seat's mirrors (part VQ7); each theorem bears its own conditions. -/
import Derived.Test.YtmlhokaflhlhbaaVQ1
import Derived.IntWalk
namespace Go.Proofs.Ytmlhokaflhlhbaa
open Go.RowKit
set_option linter.unusedVariables false
set_option linter.unusedSimpArgs false
theorem Zp6 (y2 : Int) (st : Int × List Int) (s : Nat) (hs : Int.tmod (IntKind.i64.wrap (st.1 * y2)) 64 = (s : Int)) (hs64 : s ≤ 64) (x : Nat) (hx : x * 2 ^ s < 18446744073709551616) : Y0 (Yk y2 st) ((x : Int), 0) = some ((x * 2 ^ s : Nat) : Int) := by
 have key : ∀ (m k : Nat), k + m = s → Y0 (Yk y2 st) (((x * 2 ^ k : Nat) : Int), (k : Int)) = some ((x * 2 ^ s : Nat) : Int) := fun m => by
  induction m with
  | zero =>
   intro k hk
   have : k = s := by omega
   subst this
   refine Jf ?_
   unfold Yk
   simp only
   rw [hs, show decide ((k : Int) < (k : Int)) = false from by simp, cond_false]
  | succ m ih =>
   intro k hk
   have hle : x * 2 ^ (k + 1) ≤ x * 2 ^ s := Nat.mul_le_mul_left _ (Nat.pow_le_pow_right (by decide) (by omega))
   have e : x * 2 ^ (k + 1) = x * 2 ^ k * 2 := by rw [Nat.pow_succ, Nat.mul_assoc]
   have hst : Yk y2 st (((x * 2 ^ k : Nat) : Int), (k : Int)) = some (.inl (((x * 2 ^ (k + 1) : Nat) : Int), ((k + 1 : Nat) : Int))) := by
    unfold Yk
    simp only
    rw [hs, show decide ((k : Int) < (s : Int)) = true from by rw [decide_eq_true_eq]; omega, cond_true, Qt (by omega) (by omega), e]
    rw [e] at hle
    generalize x * 2 ^ k = z at *
    rw [Zlp (by omega)]
    congr 3
   rw [Ku hst]
   exact ih (k + 1) (by omega)
 have := key s 0 (by omega)
 rw [Nat.pow_zero, Nat.mul_one] at this
 exact this
def dig (w : Nat) (ws : List Int) (j : Nat) : Nat := (ws.getD (j * w / 64) 0).toNat / 2 ^ (j * w % 64) % 2 ^ w
structure PI (w : Nat) (xs ws : List Int) (room i : Nat) : Prop where
 l : ws.length = room
 r : ∀ v ∈ ws, 0 ≤ v ∧ v < 18446744073709551616
 b : ∀ k, k < room → (ws.getD k 0).toNat < 2 ^ (i * w - 64 * k)
 d : ∀ j, j < i → dig w ws j = (xs.getD j 0).toNat
theorem Zl0 {ws : List Int} {k q : Nat} {v : Int} (hk : k < ws.length) : (ws.set k v).getD q 0 = if q = k then v else ws.getD q 0 := by
 rw [List.getD_eq_getElem?_getD, List.getD_eq_getElem?_getD, List.getElem?_set]
 by_cases h : k = q
 ·subst h
  rw [if_pos rfl, if_pos hk, if_pos rfl]
  rfl
 rw [if_neg h, if_neg (fun q => h q.symm)]
theorem Zo0 {a s x : Nat} (ha : a < 2 ^ s) {w : Nat} (hx : x < 2 ^ w) : a + x * 2 ^ s < 2 ^ (s + w) := by
 have : (x + 1) * 2 ^ s ≤ 2 ^ w * 2 ^ s := Nat.mul_le_mul_right _ hx
 rw [Nat.add_mul, Nat.one_mul] at this
 rw [Nat.pow_add, Nat.mul_comm (2 ^ s)]
 omega
theorem Zrb {a x s t w : Nat} (h : t + w ≤ s) : (a + x * 2 ^ s) / 2 ^ t % 2 ^ w = a / 2 ^ t % 2 ^ w := by
 have e : x * 2 ^ s = (x * 2 ^ (s - t - w) * 2 ^ w) * 2 ^ t := by
  rw [Nat.mul_assoc, Nat.mul_assoc, ← Nat.pow_add, ← Nat.pow_add]
  congr 2
  omega
 rw [e, Nat.add_mul_div_right _ _ (Nat.pow_pos (by decide)), Nat.add_mul_mod_self_right]
theorem Zr4 {a x s w : Nat} (ha : a < 2 ^ s) (hx : x < 2 ^ w) : (a + x * 2 ^ s) / 2 ^ s % 2 ^ w = x := by
 rw [Nat.add_mul_div_right _ _ (Nat.pow_pos (by decide)), Nat.div_eq_of_lt ha, Nat.zero_add, Nat.mod_eq_of_lt hx]
theorem PI.step {w : Nat} {xs ws : List Int} {room i : Nat} (h : PI w xs ws room i) (hw : w = 1 ∨ w = 8 ∨ w = 16 ∨ w = 32 ∨ w = 64) (hk : i * w / 64 < room) {x : Nat} (hx : x < 2 ^ w) (hxi : xs.getD i 0 = (x : Int)) :
  (ws.getD (i * w / 64) 0).toNat + x * 2 ^ (i * w % 64) < 18446744073709551616 ∧ PI w xs (ws.set (i * w / 64) (((ws.getD (i * w / 64) 0).toNat + x * 2 ^ (i * w % 64) : Nat) : Int)) room (i + 1) := by
 have hb := h.b _ hk
 have hs : i * w - 64 * (i * w / 64) = i * w % 64 := by omega
 rw [hs] at hb
 have hsw : i * w % 64 + w ≤ 64 := by rcases hw with rfl | rfl | rfl | rfl | rfl <;> omega
 have hsum := Zo0 hb hx
 have h64 : 2 ^ (i * w % 64 + w) ≤ 2 ^ 64 := Nat.pow_le_pow_right (by decide) hsw
 have e64 : (2 : Nat) ^ 64 = 18446744073709551616 := by decide
 have hlt : (ws.getD (i * w / 64) 0).toNat + x * 2 ^ (i * w % 64) < 18446744073709551616 := by omega
 refine ⟨hlt, ?_, ?_, ?_, ?_⟩
 ·rw [List.length_set, h.l]
 ·intro v hv
  rcases List.mem_or_eq_of_mem_set hv with hv | rfl
  ·exact h.r v hv
  omega
 ·intro k hkr
  rw [Zl0 (by rw [h.l]; exact hk)]
  by_cases q : k = i * w / 64
  ·rw [if_pos q, Int.toNat_natCast]
   have : (i + 1) * w - 64 * k = i * w % 64 + w := by rw [Nat.add_mul, Nat.one_mul]; omega
   rw [this]
   exact hsum
  rw [if_neg q]
  exact Nat.lt_of_lt_of_le (h.b k hkr) (Nat.pow_le_pow_right (by decide) (by rw [Nat.add_mul, Nat.one_mul]; omega))
 intro j hj
 unfold dig
 rw [Zl0 (by rw [h.l]; exact hk)]
 rcases Nat.lt_or_ge j i with hji | hji
 ·have hd := h.d j hji
  unfold dig at hd
  by_cases q : j * w / 64 = i * w / 64
  ·rw [if_pos q, Int.toNat_natCast, Zrb ?_, ← q]
   ·exact hd
   have : (j + 1) * w ≤ i * w := Nat.mul_le_mul_right _ hji
   rw [Nat.add_mul, Nat.one_mul] at this
   omega
  rw [if_neg q]
  exact hd
 have : j = i := by omega
 subst this
 rw [if_pos rfl, Int.toNat_natCast, Zr4 hb hx, hxi, Int.toNat_natCast]
theorem Zop {c : Int} (h : 0 ≤ c ∧ c ≤ 5) : Z5 c = some ((Ge c : Nat) : Int) := by
 unfold Z5
 rcases c5 h with rfl | rfl | rfl | rfl | rfl | rfl <;> rfl
theorem Zrp {c : Int} (h : ¬ (0 ≤ c ∧ c ≤ 5)) : Z5 c = some (-1) := by
 unfold Z5
 rw [Uj (show ¬ c = 0 by omega), Uj (show ¬ c = 1 by omega), Uj (show ¬ c = 2 by omega), Uj (show ¬ c = 3 by omega), Uj (show ¬ c = 4 by omega), Uj (show ¬ c = 5 by omega)]
 rfl
theorem Zqn {c : Int} (h : 0 ≤ c ∧ c ≤ 5) {n : Nat} (hn : n ≤ 1099511627776) : Qa c (n : Int) = some (((n * Ge c + 63) / 64 : Nat) : Int) := by
 unfold Qa
 rw [Zop h, Option.bind_some]
 have key : ∀ (w p : Nat), (1 ≤ w ∧ w ≤ 64) → w * p = 64 → Int.tdiv 64 (w : Int) = (p : Int) → (cond (cond (cond (decide ((w : Int) < 1)) true (decide ((n : Int) < 0))) true (decide ((1099511627776 : Int) < (n : Int)))) (some 0) ((some ((w : Nat) : Int)).bind fun y5 => (Yn (y5 ≠ 0)).bind fun u6 => (Yn ((IntKind.i64.wrap (Int.tdiv 64 y5)) ≠ 0)).bind fun u8 => cond (decide (0 < (Int.tmod (n : Int) (IntKind.i64.wrap (Int.tdiv 64 y5))))) ((Yn ((IntKind.i64.wrap (Int.tdiv 64 y5)) ≠ 0)).bind fun u10 => some (IntKind.i64.wrap ((IntKind.i64.wrap (Int.tdiv (n : Int) (IntKind.i64.wrap (Int.tdiv 64 y5)))) + 1))) ((Yn ((IntKind.i64.wrap (Int.tdiv 64 y5)) ≠ 0)).bind fun u12 => some (IntKind.i64.wrap (Int.tdiv (n : Int) (IntKind.i64.wrap (Int.tdiv 64 y5))))))) = some (((n * w + 63) / 64 : Nat) : Int) := fun w p hw hp ht => by
  have hp1 : 1 ≤ p ∧ p ≤ 64 := by
   rcases Nat.eq_zero_or_pos p with q | q
   ·rw [q] at hp; omega
   exact ⟨q, by have := Nat.mul_le_mul_right p hw.1; omega⟩
  have hd : n / p ≤ n := Nat.div_le_self _ _
  have hm : p * (n / p) + n % p = n := Nat.div_add_mod n p
  have hml : n % p < p := Nat.mod_lt _ hp1.1
  have ed : (n : Int) / (p : Int) = ((n / p : Nat) : Int) := rfl
  have em : (n : Int) % (p : Int) = ((n % p : Nat) : Int) := rfl
  have enw : n * w = 64 * (n / p) + n % p * w := by
   have : n * w = (p * (n / p) + n % p) * w := by rw [hm]
   rw [this, Nat.add_mul, Nat.mul_comm p, Nat.mul_assoc, Nat.mul_comm p, hp, Nat.mul_comm (n / p)]
  rw [show decide ((w : Int) < 1) = false from by rw [decide_eq_false_iff_not]; omega, cond_false, show decide ((n : Int) < 0) = false from by rw [decide_eq_false_iff_not]; omega, cond_false, show decide ((1099511627776 : Int) < (n : Int)) = false from by rw [decide_eq_false_iff_not]; omega, cond_false, Option.bind_some, ht, Qt (x := (p : Int)) (by omega) (by omega), Kf (by omega), Option.bind_some, Kf (by omega), Option.bind_some, Int.tmod_eq_emod_of_nonneg (by omega), Int.tdiv_eq_ediv_of_nonneg (by omega), ed, em, Qt (x := ((n / p : Nat) : Int)) (by omega) (by omega), Qt (x := ((n / p : Nat) : Int) + 1) (by omega) (by omega)]
  by_cases q : 0 < n % p
  ·have h1 : 1 * w ≤ n % p * w := Nat.mul_le_mul_right _ q
   have h2 : (n % p + 1) * w ≤ p * w := Nat.mul_le_mul_right _ hml
   rw [Nat.mul_comm p, hp, Nat.add_mul, Nat.one_mul] at h2
   rw [show decide ((0 : Int) < ((n % p : Nat) : Int)) = true from by rw [decide_eq_true_eq]; omega, cond_true, Option.bind_some]
   congr 1
   generalize n % p * w = z at *
   omega
  have h0 : n % p = 0 := by omega
  rw [h0, Nat.zero_mul] at enw
  rw [show decide ((0 : Int) < ((n % p : Nat) : Int)) = false from by rw [decide_eq_false_iff_not]; omega, cond_false, Option.bind_some]
  congr 1
  omega
 rcases c5 h with rfl | rfl | rfl | rfl | rfl | rfl
 ·rw [show decide (((Ge 0 : Nat) : Int) < 1) = true from rfl, cond_true, cond_true, cond_true, show Ge 0 = 0 from rfl, Nat.mul_zero]
  rfl
 ·exact key 1 64 (by decide) rfl rfl
 ·exact key 8 8 (by decide) rfl rfl
 ·exact key 16 4 (by decide) rfl rfl
 ·exact key 32 2 (by decide) rfl rfl
 exact key 64 1 (by decide) rfl rfl
theorem Zse {ws : List Int} {k : Nat} {v : Int} (hk : k < ws.length) : Zd7 ws (k : Int) v = ws.set k v := by
 unfold Zd7
 rfl
theorem Zmk {c : Int} (hc : 1 ≤ c ∧ c ≤ 5) {xs : List Int} (hx : ∀ x ∈ xs, 0 ≤ x ∧ x < 18446744073709551616) (hl : xs.length ≤ 1099511627776) : ∀ (m i : Nat) (ws : List Int), i + m = xs.length → PI (Ge c) xs ws ((xs.length * Ge c + 63) / 64) i → ∃ r, Y0 (Zv c xs ((Ge c : Nat) : Int)) ((i : Int), ws) = some r ∧ ∀ ws', r = .inr ws' → PI (Ge c) xs ws' ((xs.length * Ge c + 63) / 64) xs.length ∧ ∀ j, i ≤ j → j < xs.length → (xs.getD j 0).toNat < 2 ^ Ge c
 | 0, i, ws, hi, hp => by
  have : i = xs.length := by omega
  subst this
  refine ⟨.inr ws, Jf ?_, fun ws' h => ?_⟩
  ·unfold Zv
   simp only
   rw [show decide ((xs.length : Int) < (xs.length : Int)) = false from by simp, cond_false]
  injection h with h
  subst h
  exact ⟨hp, fun j h1 h2 => by omega⟩
 | m + 1, i, ws, hi, hp => by
  have hil : i < xs.length := by omega
  have hget : xs[i]? = some xs[i] := List.getElem?_eq_getElem hil
  obtain ⟨x, hxe⟩ : ∃ x : Nat, xs[i] = (x : Int) := ⟨xs[i].toNat, by have := hx xs[i] (List.getElem_mem hil); omega⟩
  have hx0 := hx xs[i] (List.getElem_mem hil)
  rw [hxe] at hget hx0
  have hxd : xs.getD i 0 = (x : Int) := by rw [List.getD_eq_getElem?_getD, hget]; rfl
  have hw : Ge c = 1 ∨ Ge c = 8 ∨ Ge c = 16 ∨ Ge c = 32 ∨ Ge c = 64 := by
   rcases c5 (c := c) (by omega) with rfl | rfl | rfl | rfl | rfl | rfl
   ·omega
   ·exact .inl rfl
   ·exact .inr (.inl rfl)
   ·exact .inr (.inr (.inl rfl))
   ·exact .inr (.inr (.inr (.inl rfl)))
   exact .inr (.inr (.inr (.inr rfl)))
  have hfit := Zmo (c := c) (w := (x : Int)) (by omega) (by omega) hx0.1 hx0.2
  by_cases hf : Zkh c (x : Int) = true
  ·have hx2 : x < 2 ^ Ge c := by
    unfold Zkh at hf
    rw [decide_eq_true_eq, show (2 : Int) ^ Ge c = ((2 ^ Ge c : Nat) : Int) by simp] at hf
    omega
   obtain ⟨w, hwe⟩ : ∃ w, Ge c = w := ⟨_, rfl⟩
   rw [hwe] at hw hp hx2 ⊢
   have hk : i * w / 64 < (xs.length * w + 63) / 64 := by
    have : (i + 1) * w ≤ xs.length * w := Nat.mul_le_mul_right _ hil
    rw [Nat.add_mul, Nat.one_mul] at this
    rcases hw with rfl | rfl | rfl | rfl | rfl <;> omega
   obtain ⟨hlt, hp'⟩ := hp.step hw hk hx2 hxd
   have hiw : i * w ≤ 1099511627776 * 64 := Nat.mul_le_mul (by omega) (by omega)
   have eiw : IntKind.i64.wrap ((i : Int) * (w : Int)) = ((i * w : Nat) : Int) := by rw [← Int.natCast_mul, Qt (by omega) (by omega)]
   have emod : Int.tmod (IntKind.i64.wrap ((i : Int) * (w : Int))) 64 = ((i * w % 64 : Nat) : Int) := by rw [eiw, Int.tmod_eq_emod_of_nonneg (by omega)]; rfl
   have ediv : IntKind.i64.wrap (Int.tdiv (IntKind.i64.wrap ((i : Int) * (w : Int))) 64) = ((i * w / 64 : Nat) : Int) := by
    rw [eiw, Int.tdiv_eq_ediv_of_nonneg (by omega), show ((i * w : Nat) : Int) / 64 = ((i * w / 64 : Nat) : Int) from rfl, Qt (by omega) (by omega)]
   have hkl : i * w / 64 < ws.length := by rw [hp.l]; exact hk
   have hgw : ws[i * w / 64]? = some ws[i * w / 64] := List.getElem?_eq_getElem hkl
   have hgd : ws.getD (i * w / 64) 0 = ws[i * w / 64] := by rw [List.getD_eq_getElem?_getD, hgw]; rfl
   have hr := hp.r _ (List.getElem_mem hkl)
   have hdbl := Zp6 (w : Int) ((i : Int), ws) (i * w % 64) emod (by omega) x (by omega)
   have hst : Zv c xs (w : Int) ((i : Int), ws) = some (.inl (((i + 1 : Nat) : Int), ws.set (i * w / 64) (((ws.getD (i * w / 64) 0).toNat + x * 2 ^ (i * w % 64) : Nat) : Int))) := by
    unfold Zv
    simp only
    rw [show decide ((i : Int) < (xs.length : Int)) = true from by rw [decide_eq_true_eq]; omega, cond_true, Gh hget, Option.bind_some, hfit, Option.bind_some, hf, Bool.not_true, cond_false, hdbl, Option.bind_some, show decide ((0 : Int) < (w : Int)) = true from by rw [decide_eq_true_eq]; omega, cond_true, ediv, Gh hgw, Option.bind_some]
    simp only [Option.bind_some]
    rw [Qt (by omega) (by omega), hgd]
    rw [hgd] at hlt
    generalize x * 2 ^ (i * w % 64) = z at *
    rw [Zlp (by omega), Zse hkl, show ws[i * w / 64] + (z : Int) = ((ws[i * w / 64].toNat + z : Nat) : Int) by omega]
    rfl
   obtain ⟨r, h1, h2⟩ := Zmk hc hx hl m (i + 1) _ (by omega) (by rw [hwe]; exact hp')
   rw [hwe] at h1 h2
   refine ⟨r, by rw [Ku hst]; exact h1, fun ws' h => ⟨(h2 ws' h).1, fun j h3 h4 => ?_⟩⟩
   rcases Nat.lt_or_ge i j with q | q
   ·exact (h2 ws' h).2 j q h4
   have : j = i := by omega
   subst this
   rw [hxd, Int.toNat_natCast]
   exact hx2
  refine ⟨.inl (), Jf ?_, fun ws' h => by cases h⟩
  unfold Zv
  simp only
  rw [show decide ((i : Int) < (xs.length : Int)) = true from by rw [decide_eq_true_eq]; omega, cond_true, Gh hget, Option.bind_some, hfit, Option.bind_some, Bool.eq_false_iff.2 hf, Bool.not_false, cond_true]
  rfl
theorem Zkk {xs : List Int} (hx : ∀ x ∈ xs, 0 ≤ x ∧ x < 18446744073709551616) (hl : xs.length ≤ 1099511627776) (ws : List Int) : ∀ (m i : Nat), i + m = xs.length → ∃ r, Y0 (Zv 0 xs 0) ((i : Int), ws) = some r ∧ ∀ ws', r = .inr ws' → ws' = ws ∧ ∀ j, i ≤ j → j < xs.length → xs.getD j 0 = 0
 | 0, i, hi => by
  have : i = xs.length := by omega
  subst this
  refine ⟨.inr ws, Jf ?_, fun ws' h => ?_⟩
  ·unfold Zv
   simp only
   rw [show decide ((xs.length : Int) < (xs.length : Int)) = false from by simp, cond_false]
  injection h with h
  exact ⟨h.symm, fun j h1 h2 => by omega⟩
 | m + 1, i, hi => by
  have hil : i < xs.length := by omega
  have hget : xs[i]? = some xs[i] := List.getElem?_eq_getElem hil
  obtain ⟨x, hxe⟩ : ∃ x : Nat, xs[i] = (x : Int) := ⟨xs[i].toNat, by have := hx xs[i] (List.getElem_mem hil); omega⟩
  have hx0 := hx xs[i] (List.getElem_mem hil)
  rw [hxe] at hget hx0
  have hxd : xs.getD i 0 = (x : Int) := by rw [List.getD_eq_getElem?_getD, hget]; rfl
  have hfit := Zmo (c := 0) (w := (x : Int)) (by omega) (by omega) hx0.1 hx0.2
  by_cases hf : Zkh 0 (x : Int) = true
  ·have hx2 : (x : Int) = 0 := by
    unfold Zkh at hf
    rw [decide_eq_true_eq, show (2 : Int) ^ Ge 0 = 1 from rfl] at hf
    omega
   have hdbl := Zp6 0 ((i : Int), ws) 0 (by rw [Int.mul_zero]; rfl) (by omega) x (by omega)
   have hst : Zv 0 xs 0 ((i : Int), ws) = some (.inl (((i + 1 : Nat) : Int), ws)) := by
    unfold Zv
    simp only
    rw [show decide ((i : Int) < (xs.length : Int)) = true from by rw [decide_eq_true_eq]; omega, cond_true, Gh hget, Option.bind_some, hfit, Option.bind_some, hf, Bool.not_true, cond_false, hdbl, Option.bind_some, show decide ((0 : Int) < 0) = false from rfl, cond_false]
    simp only [Option.bind_some]
    rw [Qt (by omega) (by omega)]
    rfl
   obtain ⟨r, h1, h2⟩ := Zkk hx hl ws m (i + 1) (by omega)
   refine ⟨r, by rw [Ku hst]; exact h1, fun ws' h => ⟨(h2 ws' h).1, fun j h3 h4 => ?_⟩⟩
   rcases Nat.lt_or_ge i j with q | q
   ·exact (h2 ws' h).2 j q h4
   have : j = i := by omega
   subst this
   rw [hxd, hx2]
  refine ⟨.inl (), Jf ?_, fun ws' h => by cases h⟩
  unfold Zv
  simp only
  rw [show decide ((i : Int) < (xs.length : Int)) = true from by rw [decide_eq_true_eq]; omega, cond_true, Gh hget, Option.bind_some, hfit, Option.bind_some, Bool.eq_false_iff.2 hf, Bool.not_false, cond_true]
  rfl
theorem Zro (c : Int) {xs : List Int} (hx : ∀ x ∈ xs, 0 ≤ x ∧ x < 18446744073709551616) (hl : xs.length ≤ 1099511627776) : ∃ ws ok, Qk c xs = some (ws, ok) ∧ (ok = true → (0 ≤ c ∧ c ≤ 5) ∧ ws.length = (xs.length * Ge c + 63) / 64 ∧ (∀ v ∈ ws, 0 ≤ v ∧ v < 18446744073709551616) ∧ (c = 0 → ∀ j, j < xs.length → xs.getD j 0 = 0) ∧ (c ≠ 0 → ∀ j, j < xs.length → dig (Ge c) ws j = (xs.getD j 0).toNat)) := by
 unfold Qk
 by_cases hc : 0 ≤ c ∧ c ≤ 5
 ·have hroom : (xs.length * Ge c + 63) / 64 ≤ 1099511627777 := by
   have : Ge c ≤ 64 := by rcases c5 hc with rfl | rfl | rfl | rfl | rfl | rfl <;> decide
   have := Nat.mul_le_mul hl this
   omega
  rw [Zop hc, Option.bind_some, show decide (((Ge c : Nat) : Int) < 0) = false from by rw [decide_eq_false_iff_not]; omega, cond_false, Zqn hc hl, Option.bind_some, Zmc (by omega) (by omega) (by omega), Option.bind_some, Int.toNat_natCast]
  by_cases c0 : c = 0
  ·subst c0
   obtain ⟨r, h1, h2⟩ := Zkk hx hl (List.replicate ((xs.length * Ge 0 + 63) / 64) 0) xs.length 0 (by omega)
   rw [show (((0 : Nat)) : Int) = 0 from rfl] at h1
   rw [show ((Ge 0 : Nat) : Int) = 0 from rfl, h1, Option.bind_some]
   cases r with
   | inl _ => exact ⟨[], false, rfl, fun h => by cases h⟩
   | inr ws =>
    obtain ⟨e, h3⟩ := h2 ws rfl
    refine ⟨ws, true, rfl, fun _ => ⟨hc, by rw [e, List.length_replicate], fun v hv => ?_, fun _ j hj => h3 j (by omega) hj, fun q => absurd rfl q⟩⟩
    rw [e] at hv
    rw [List.eq_of_mem_replicate hv]
    omega
  have hp0 : PI (Ge c) xs (List.replicate ((xs.length * Ge c + 63) / 64) 0) ((xs.length * Ge c + 63) / 64) 0 := by
   refine ⟨List.length_replicate, fun v hv => by rw [List.eq_of_mem_replicate hv]; omega, fun k hk => ?_, fun j hj => by omega⟩
   rw [List.getD_eq_getElem?_getD, List.getElem?_replicate, if_pos hk]
   exact Nat.pow_pos (by decide)
  obtain ⟨r, h1, h2⟩ := Zmk (c := c) (by omega) hx hl xs.length 0 _ (by omega) hp0
  rw [show (((0 : Nat)) : Int) = 0 from rfl] at h1
  rw [h1, Option.bind_some]
  cases r with
  | inl _ => exact ⟨[], false, rfl, fun h => by cases h⟩
  | inr ws =>
   obtain ⟨hp, h3⟩ := h2 ws rfl
   exact ⟨ws, true, rfl, fun _ => ⟨hc, hp.l, hp.r, fun q => absurd q c0, fun _ j hj => hp.d j hj⟩⟩
 rw [Zrp hc, Option.bind_some]
 exact ⟨[], false, rfl, fun h => by cases h⟩
theorem Zpm {c : Int} (hc : 0 ≤ c ∧ c ≤ 5) {n : Nat} (hn : n ≤ 300) {ws : List Int} (hl : ws.length = (n * Ge c + 63) / 64) : atR ⟨[(((1 + c.toNat * 4294967296 + n * 34359738368 : Nat)) : Int) :: ws], 0, 0⟩ 0 0 = (⟨some ⟨[(((1 + c.toNat * 4294967296 + n * 34359738368 : Nat)) : Int) :: ws], 0, 0⟩, c + 2, 0, 1, 0, 0, (n : Int), 0, 0⟩, 0) := by
 obtain ⟨k, hk⟩ : ∃ k : Nat, c = (k : Int) := ⟨c.toNat, by omega⟩
 have hk5 : k ≤ 5 := by omega
 obtain ⟨h, hh⟩ : ∃ h, h = 1 + c.toNat * 4294967296 + n * 34359738368 := ⟨_, rfl⟩
 rw [← hh]
 rw [hk, Int.toNat_natCast] at hh
 have hdc : dc (h : Int) = ⟨2, 0, 0, 0, c, (n : Int), 0, false⟩ := by
  unfold dc Zp7
  rw [Int.toNat_natCast, if_neg (by omega), if_neg (by omega), if_pos (by omega)]
  have e1 : h / 4294967296 % 8 = k := by omega
  have e2 : h / 34359738368 % 536870912 = n := by omega
  have e3 : Zj3 h = 0 := by
   unfold Zj3
   have : h / 4 % 1073741824 = 0 := by omega
   simp [this]
  rw [e1, e2, e3, hk]
 have hpw : pw (⟨2, 0, 0, 0, c, (n : Int), 0, false⟩ : Zz) = ((n * Ge c + 63) / 64 : Nat) := by
  unfold pw
  simp only
  rw [if_neg (by decide), if_neg (by omega), ← Zou]
  rfl
 have hin1 : inB [((h : Nat) : Int) :: ws] 0 0 1 = true := inB_iff.2 ⟨by omega, by simp, by omega, by omega, by simp [seg]; omega⟩
 have hin2 : inB [((h : Nat) : Int) :: ws] 0 1 ((n * Ge c + 63) / 64 : Nat) = true := inB_iff.2 ⟨by omega, by simp, by omega, by omega, by simp [seg]; omega⟩
 have hwd : wd [((h : Nat) : Int) :: ws] 0 0 = (h : Int) := rfl
 have hf : fol [((h : Nat) : Int) :: ws] 0 0 = (⟨⟨2, 0, 0, 0, c, (n : Int), 0, false⟩, 0, 1⟩, 0) := by
  unfold fol
  rw [if_pos hin1, hwd, hdc]
  simp only
  rw [if_neg (by decide), if_neg (by simp), if_neg (by decide)]
  unfold tgt
  rw [hpw]
  simp only
  rw [if_neg (by decide), if_pos (.inr trivial), show (0 : Int) + 1 + 0 = 1 from rfl, if_pos hin2]
  rfl
 unfold atR
 rw [hf]
 simp only
 rw [if_neg (by simp), if_neg (by decide), if_neg (by omega)]
theorem Zp9 {c : Int} (hc : 1 ≤ c ∧ c ≤ 5) (j : Nat) : (j : Int) / each c = ((j * Ge c / 64 : Nat) : Int) ∧ ((j : Int) % each c * wdt c).toNat = j * Ge c % 64 := by
 rcases c5 (c := c) (by omega) with rfl | rfl | rfl | rfl | rfl | rfl
 ·omega
 ·rw [show each 1 = 64 from by decide, show wdt 1 = 1 from by decide, show Ge 1 = 1 from rfl]; omega
 ·rw [show each 2 = 8 from by decide, show wdt 2 = 8 from by decide, show Ge 2 = 8 from rfl]; omega
 ·rw [show each 3 = 4 from by decide, show wdt 3 = 16 from by decide, show Ge 3 = 16 from rfl]; omega
 ·rw [show each 4 = 2 from by decide, show wdt 4 = 32 from by decide, show Ge 4 = 32 from rfl]; omega
 rw [show each 5 = 1 from by decide, show wdt 5 = 64 from by decide, show Ge 5 = 64 from rfl]; omega
theorem Zrr (h : Int) (ws : List Int) (k : Nat) : wd [h :: ws] 0 (1 + (k : Int)) = ws.getD k 0 := by
 have e : (1 + (k : Int)).toNat = k + 1 := by omega
 have s : seg [h :: ws] 0 = h :: ws := rfl
 unfold wd
 rw [e, s, List.getElem?_cons_succ, List.getD_eq_getElem?_getD]
theorem Zj9 (c : Int) {xs : List Int} (hx : ∀ x ∈ xs, 0 ≤ x ∧ x < 18446744073709551616) (hl : xs.length ≤ 1099511627776) (i : Int) : Xc c xs i = some true := by
 unfold Xc
 obtain ⟨ws, ok, hp, hok⟩ := Zro c hx hl
 rw [hp, Option.bind_some]
 simp only
 cases ok with
 | false => simp only [Bool.not_false, cond_true, Zed, Option.bind_some]
 | true =>
  rw [Bool.not_true, cond_false]
  by_cases hn : 300 < xs.length
  ·rw [show decide ((300 : Int) < (xs.length : Int)) = true from by rw [decide_eq_true_eq]; omega, cond_true, Zed]
   rfl
  rw [show decide ((300 : Int) < (xs.length : Int)) = false from by rw [decide_eq_false_iff_not]; omega, cond_false]
  obtain ⟨hc, hwl, hwr, h0, hd⟩ := hok rfl
  have hw64 : Ge c ≤ 64 := by rcases c5 hc with rfl | rfl | rfl | rfl | rfl | rfl <;> decide
  have hwl2 : ws.length ≤ 301 := by
   have := Nat.mul_le_mul (show xs.length ≤ 300 by omega) hw64
   omega
  obtain ⟨H, hH⟩ : ∃ H : Nat, H = 1 + c.toNat * 4294967296 + xs.length * 34359738368 := ⟨_, rfl⟩
  have hHr : H < 18446744073709551616 := by omega
  have eH : IntKind.u64.wrap (IntKind.u64.wrap (1 + IntKind.u64.wrap (IntKind.u64.wrap c * 4294967296)) + IntKind.u64.wrap (IntKind.u64.wrap (xs.length : Int) * 34359738368)) = (H : Int) := by
   rw [Zlp (x := c) (by omega), Zlp (x := c * 4294967296) (by omega), Zlp (x := (xs.length : Int)) (by omega), Zlp (x := (xs.length : Int) * 34359738368) (by omega), Zlp (x := 1 + c * 4294967296) (by omega), Zlp (by omega)]
   omega
  rw [eH, Zog (by simp only [List.length_singleton]; omega) (by simp only [List.length_singleton]; omega), Option.bind_some, List.singleton_append]
  have hws : WS [(H : Int) :: ws] := Zq5 _ (fun w hw => by
   rcases List.mem_cons.1 hw with rfl | hw
   ·omega
   exact hwr w hw) (by rw [List.length_cons]; omega)
  have hrt := Zpm hc (n := xs.length) (by omega) (ws := ws) hwl
  rw [← hH] at hrt
  obtain ⟨A, hA⟩ : ∃ A : Zf, A = ⟨[(H : Int) :: ws], 0, 0⟩ := ⟨_, rfl⟩
  have hAs : A.segments = [(H : Int) :: ws] := by rw [hA]
  rw [← hA] at hrt
  have hwsA : WS A.segments := by rw [hAs]; exact hws
  rw [Zps hws, Option.bind_some, ← hA, Zoo hwsA, Option.bind_some, hrt]
  have hok1 := Zky (A := A) 0 0
  rw [hrt] at hok1
  obtain ⟨r, hr⟩ : ∃ r : Zg, r = ⟨some A, c + 2, 0, 1, 0, 0, (xs.length : Int), 0, 0⟩ := ⟨_, rfl⟩
  simp only at hok1 ⊢
  rw [← hr] at hok1 ⊢
  have hrk : r.kind = c + 2 := by rw [hr]
  have hkn : Jn r = (xs.length : Int) := by unfold Jn; rw [hrk, if_neg (by omega), hr]
  have hkind : ∀ q : Zg, Yv q = some q.kind := fun _ => rfl
  rw [show ((0 : Int) != 0) = false from rfl, cond_false, hkind, Option.bind_some, hrk, Qt (x := 2 + c) (by omega) (by omega), show (c + 2 != 2 + c) = false from bne_eq_false_iff_eq.2 (Int.add_comm _ _), cond_false, Zml, Option.bind_some, hkn, cond_false, cond_false, show (((xs.length : Nat) : Int) != (xs.length : Int)) = false from bne_eq_false_iff_eq.2 rfl, Option.bind_some, cond_false, Zr9 hwsA hok1, Option.bind_some]
  by_cases hi : i < 0 ∨ (xs.length : Int) ≤ i
  ·have hk0 : Zhq A r i = (r0, 0) := by unfold Zhq; rw [if_pos (by rw [hkn]; exact hi)]
   have ec : (cond (decide (i < 0)) true (decide ((xs.length : Int) ≤ i))) = true := by
    rcases hi with h | h
    ·rw [decide_eq_true h]; rfl
    rw [decide_eq_true h]; cases decide (i < 0) <;> rfl
   rw [hk0, ec, cond_true]
   simp only
   rw [show ((0 : Int) == 0) = true from rfl, cond_true, hkind, Option.bind_some, show (r0.kind == 0) = true from rfl, cond_true, Zed]
   rfl
  obtain ⟨j, hj⟩ : ∃ j : Nat, i = (j : Int) := ⟨i.toNat, by omega⟩
  have hjl : j < xs.length := by omega
  have ec : (cond (decide (i < 0)) true (decide ((xs.length : Int) ≤ i))) = false := by
   rw [decide_eq_false (show ¬ i < 0 by omega), decide_eq_false (show ¬ (xs.length : Int) ≤ i by omega)]
   rfl
  have hk1 := Zr8 (A := A) (r := r) (by omega) (i := i) (by rw [hkn]; omega)
  have hko := Zrf hok1 i
  have hget : Q8 xs i = some (xs.getD j 0) := by
   rw [hj, Gh (List.getElem?_eq_getElem hjl), List.getD_eq_getElem?_getD, List.getElem?_eq_getElem hjl]
   rfl
  have hxr : 0 ≤ xs.getD j 0 := by
   rw [List.getD_eq_getElem?_getD, List.getElem?_eq_getElem hjl]
   exact (hx _ (List.getElem_mem hjl)).1
  have hnum : Zqk A (Zhq A r i).1 = xs.getD j 0 := by
   rw [hk1]
   unfold Zqk
   simp only
   rw [hrk, show c + 2 - 2 = c by omega]
   by_cases c0 : c = 0
   ·rw [if_pos c0, h0 c0 j hjl]
   rw [if_neg c0]
   obtain ⟨e1, e2⟩ := Zp9 (c := c) (by omega) j
   have hdj := hd c0 j hjl
   unfold dig at hdj
   unfold Zri
   rw [hj, e1, e2, hr]
   simp only
   rw [hAs, Zrr, show (wdt c).toNat = Ge c by rw [← Zou, Int.toNat_natCast], hdj]
   omega
  have hk10 : (Zhq A r i).1.kind = 10 := by rw [hk1]
  have hword : Zow A (Zhq A r i).1 0 = xs.getD j 0 := by
   unfold Zow V3
   rw [hk10, if_neg (by simp), if_pos rfl, hnum]
  have hk2 : (Zhq A r i).2 = 0 := by rw [hk1]
  rw [ec, cond_false, hk2, show ((0 : Int) == 0) = true from rfl, cond_true, hkind, Option.bind_some, hk10, show ((10 : Int) == 10) = true from rfl, cond_true, Zox hwsA hko, Option.bind_some, hword, hget, Option.bind_some, show (xs.getD j 0 == xs.getD j 0) = true from beq_self_eq_true _, cond_true, Zed]
  rfl
end Go.Proofs.Ytmlhokaflhlhbaa
