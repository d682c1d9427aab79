/- Plain facts on this seat's mirrors (part RP3); each theorem bears its own conditions. -/
import Derived.Test.YtgijkjifiekkmaaRP2
import Derived.IntWalk
namespace Go.Proofs.Ytgijkjifiekkmaa
open Go.RowKit
set_option linter.unusedVariables false
set_option linter.unusedSimpArgs false
theorem Zk7 {b : List Int} (hb : ∀ x ∈ b, Jz x) {i : Nat} (hi : i < b.length) : ((Zl b i : Nat) : Int) = b[i] := by
 have h : b[i]? = some b[i] := List.getElem?_eq_getElem hi
 unfold Zl
 rw [List.getD_eq_getElem?_getD, h]
 have := hb b[i] (List.getElem_mem hi)
 unfold Jz at this
 simp only [Option.getD_some]
 omega
theorem Xf {b : List Int} (hb : ∀ x ∈ b, Jz x) {i : Nat} (hi : i < b.length) : b.drop i = ((Zl b i : Nat) : Int) :: b.drop (i + 1) := by
 rw [Zk7 hb hi, List.drop_eq_getElem_cons hi]
theorem Zlh {b : List Int} (hb : ∀ x ∈ b, Jz x) {i : Nat} (hi : i + 3 < b.length) : le4 (Z0 b i) = (b.drop i).take 4 := by
 rw [Xf hb (i := i) (by omega), Xf hb (i := i + 1) (by omega), Xf hb (i := i + 1 + 1) (by omega), Xf hb (i := i + 1 + 1 + 1) (by omega)]
 have h0 := Zn hb i
 have h1 := Zn hb (i + 1)
 have h2 := Zn hb (i + 2)
 have h3 := Zn hb (i + 3)
 show le4 (Z0 b i) = [_, _, _, _]
 unfold le4 Z0
 rw [show i + 1 + 1 = i + 2 from rfl, show i + 2 + 1 = i + 3 from rfl]
 generalize Zl b i = x0 at *
 generalize Zl b (i + 1) = x1 at *
 generalize Zl b (i + 2) = x2 at *
 generalize Zl b (i + 3) = x3 at *
 rw [show (x0 + x1 * 256 + x2 * 65536 + x3 * 16777216) % 256 = x0 by omega, show (x0 + x1 * 256 + x2 * 65536 + x3 * 16777216) / 256 % 256 = x1 by omega, show (x0 + x1 * 256 + x2 * 65536 + x3 * 16777216) / 65536 % 256 = x2 by omega, show (x0 + x1 * 256 + x2 * 65536 + x3 * 16777216) / 16777216 % 256 = x3 by omega]
theorem Zoq {b : List Int} (hb : ∀ x ∈ b, Jz x) {i : Nat} (hi : i + 7 < b.length) : le8 (Q1 b i) = (b.drop i).take 8 := by
 rw [Xf hb (i := i) (by omega), Xf hb (i := i + 1) (by omega), Xf hb (i := i + 1 + 1) (by omega), Xf hb (i := i + 1 + 1 + 1) (by omega), Xf hb (i := i + 1 + 1 + 1 + 1) (by omega), Xf hb (i := i + 1 + 1 + 1 + 1 + 1) (by omega), Xf hb (i := i + 1 + 1 + 1 + 1 + 1 + 1) (by omega), Xf hb (i := i + 1 + 1 + 1 + 1 + 1 + 1 + 1) (by omega)]
 have h0 := Zn hb i
 have h1 := Zn hb (i + 1)
 have h2 := Zn hb (i + 2)
 have h3 := Zn hb (i + 3)
 have h4 := Zn hb (i + 4)
 have h5 := Zn hb (i + 5)
 have h6 := Zn hb (i + 6)
 have h7 := Zn hb (i + 7)
 show le8 (Q1 b i) = [_, _, _, _, _, _, _, _]
 unfold le8 Q1
 rw [show i + 1 + 1 = i + 2 from rfl, show i + 2 + 1 = i + 3 from rfl, show i + 3 + 1 = i + 4 from rfl, show i + 4 + 1 = i + 5 from rfl, show i + 5 + 1 = i + 6 from rfl, show i + 6 + 1 = i + 7 from rfl]
 generalize Zl b i = x0 at *
 generalize Zl b (i + 1) = x1 at *
 generalize Zl b (i + 2) = x2 at *
 generalize Zl b (i + 3) = x3 at *
 generalize Zl b (i + 4) = x4 at *
 generalize Zl b (i + 5) = x5 at *
 generalize Zl b (i + 6) = x6 at *
 generalize Zl b (i + 7) = x7 at *
 congr 1
 ·congr 1; omega
 congr 1
 ·congr 1; omega
 congr 1
 ·congr 1; omega
 congr 1
 ·congr 1; omega
 congr 1
 ·congr 1; omega
 congr 1
 ·congr 1; omega
 congr 1
 ·congr 1; omega
 congr 1
 congr 1; omega
theorem Zm1 {b : List Int} (hb : ∀ x ∈ b, Jz x) (i : Nat) : Q1 b i < 18446744073709551616 := by
 have h0 := Zn hb i
 have h1 := Zn hb (i + 1)
 have h2 := Zn hb (i + 2)
 have h3 := Zn hb (i + 3)
 have h4 := Zn hb (i + 4)
 have h5 := Zn hb (i + 5)
 have h6 := Zn hb (i + 6)
 have h7 := Zn hb (i + 7)
 unfold Q1
 omega
theorem Vp (b : List Int) (n k : Nat) : b.take n ++ (b.drop n).take k = b.take (n + k) := by rw [List.take_add]
theorem Zil {b : List Int} (hb : ∀ x ∈ b, Jz x) : ∀ c, 4 + 4 * c ≤ b.length → ((List.range c).map fun i => le4 (Z0 b (4 * (i + 1)))).flatten = (b.drop 4).take (4 * c)
 | 0, _ => by simp
 | c + 1, h => by
  rw [List.range_succ, List.map_append, List.flatten_append, Zil hb c (by omega), List.map_singleton, List.flatten_singleton, Zlh hb (by omega), show b.drop (4 * (c + 1)) = (b.drop 4).drop (4 * c) by rw [List.drop_drop]; congr 1; omega, Vp]
  rfl
theorem Zim {b : List Int} (hb : ∀ x ∈ b, Jz x) : ∀ c, 8 * c ≤ b.length → ((List.range c).map fun i => le8 (Q1 b (8 * i))).flatten = b.take (8 * c)
 | 0, _ => by simp
 | c + 1, h => by
  rw [List.range_succ, List.map_append, List.flatten_append, Zim hb c (by omega), List.map_singleton, List.flatten_singleton, Zoq hb (by omega), Vp]
  rfl
theorem Zhi {b : List Int} (hb : ∀ x ∈ b, Jz x) (h : b.length % 8 = 0) : J6 (Qy b) = b := by
 unfold J6 Qy
 rw [List.map_map]
 have : (List.range (b.length / 8)).map ((fun x : Int => le8 x.toNat) ∘ fun i => ((Q1 b (8 * i) : Nat) : Int)) = (List.range (b.length / 8)).map fun i => le8 (Q1 b (8 * i)) := List.map_congr_left fun i _ => by
  show le8 (((Q1 b (8 * i) : Nat) : Int).toNat) = _
  rw [Int.toNat_natCast]
 rw [this, Zim hb _ (by omega), List.take_of_length_le (by omega)]
theorem Zm9 {b : List Int} (hb : ∀ x ∈ b, Jz x) : ∀ x ∈ Qy b, isW x := fun x hx => by
 unfold Qy at hx
 obtain ⟨i, _, rfl⟩ := List.mem_map.1 hx
 have := Zm1 hb (8 * i)
 unfold isW
 omega
theorem Zk5 (b : List Int) : (Qy b).length = b.length / 8 := by unfold Qy; rw [List.length_map, List.length_range]
theorem Zl0 : X2 [] = 0 := rfl
theorem Zdb : ∀ (l r : List Int), (∀ x ∈ l, isN x) → (∀ x ∈ r, Jz x) → r.length = 8 * X2 l → (V3 l r).map (fun s => (s.length : Int)) = l ∧ (∀ s ∈ V3 l r, ∀ x ∈ s, isW x) ∧ ((V3 l r).map J6).flatten = r
 | [], r, _, _, h => by
  rw [Zl0] at h
  have : r = [] := List.eq_nil_of_length_eq_zero (by omega)
  subst this
  simp [V3]
 | n :: l, r, hn, hr, h => by
  rw [Zd6] at h
  have hn0 := hn n (.head _)
  unfold isN at hn0
  have ht : ∀ x ∈ r.take (8 * n.toNat), Jz x := fun x hx => hr x (List.mem_of_mem_take hx)
  have hl : (r.take (8 * n.toNat)).length = 8 * n.toNat := by rw [List.length_take]; omega
  obtain ⟨h1, h2, h3⟩ := Zdb l (r.drop (8 * n.toNat)) (fun x hx => hn x (.tail _ hx)) (fun x hx => hr x (List.mem_of_mem_drop hx)) (by rw [List.length_drop]; omega)
  rw [Zda]
  refine ⟨?_, ?_, ?_⟩
  ·rw [List.map_cons, h1, Zk5, hl]
   congr 1
   omega
  ·intro s hs
   rcases List.mem_cons.1 hs with rfl | hs
   ·exact Zm9 ht
   exact h2 s hs
  rw [List.map_cons, List.flatten_cons, h3, Zhi ht (by omega), List.take_append_drop]
theorem Zmk {l : List Int} (h : l.any (fun x => x != 0) = false) : l = List.replicate l.length 0 := by
 refine List.eq_replicate_iff.2 ⟨rfl, fun x hx => ?_⟩
 rw [List.any_eq_false] at h
 have := h x hx
 simpa using this
theorem Zlb {b : List Int} (hb : ∀ x ∈ b, Jz x) (m H : Nat) (hH : Z3 (m + 1) = H) (hm4 : Z0 b 0 = m) (h4 : 4 * (m + 2) ≤ H) (hlen : H ≤ b.length) (hpad : ((b.drop (4 * (m + 2))).take (H - 4 * (m + 2))).any (fun x => x != 0) = false)
  (L : List (List Int)) (c1 : L.map (fun s => (s.length : Int)) = Yn b (m + 1)) (c3 : (L.map J6).flatten = b.drop H) : Zbb L = b := by
 have hk : L.length = m + 1 := by
  have := congrArg List.length c1
  rw [List.length_map, K1] at this
  exact this
 have hz := Zmk hpad
 have hn : Js L = b.take (4 * (m + 2)) := by
  unfold Js
  have e0 : le4 m = (b.drop 0).take 4 := by rw [← hm4]; exact Zlh hb (by omega)
  have : (L.map fun s => le4 s.length) = (List.range (m + 1)).map fun i => le4 (Z0 b (4 * (i + 1))) := by
   have e : (L.map fun s => le4 s.length) = (L.map fun s => (s.length : Int)).map fun x => le4 x.toNat := by
    rw [List.map_map]
    exact List.map_congr_left fun s _ => by
     show le4 s.length = le4 ((s.length : Int).toNat)
     rw [Int.toNat_natCast]
   rw [e, c1]
   unfold Yn
   rw [List.map_map]
   exact List.map_congr_left fun i _ => by
    show le4 (((Z0 b (4 * (i + 1)) : Nat) : Int).toNat) = _
    rw [Int.toNat_natCast]
  rw [hk, Nat.add_sub_cancel, e0, List.drop_zero, this, Zil hb _ (by omega), Vp, show 4 + 4 * (m + 1) = 4 * (m + 2) by omega]
 have hp : List.replicate (H - (4 + 4 * (m + 1))) (0 : Int) = (b.drop (4 * (m + 2))).take (H - 4 * (m + 2)) := by
  have hl : ((b.drop (4 * (m + 2))).take (H - 4 * (m + 2))).length = H - (4 + 4 * (m + 1)) := by
   rw [List.length_take, List.length_drop]
   omega
  rw [hl] at hz
  exact hz.symm
 unfold Zbb Zae
 rw [c3, Gh, hk, hn, hH, hp, Vp, show 4 * (m + 2) + (H - 4 * (m + 2)) = H by omega, List.take_append_drop]
theorem Zkx {b : List Int} (q : (Yd b).2 = 0) : ((b.drop (4 * (Z0 b 0 + 2))).take (Z3 (Z0 b 0 + 1) - 4 * (Z0 b 0 + 2))).any (fun x => x != 0) = false := by
 unfold Yd at q
 cases hz : ((b.drop (4 * (Z0 b 0 + 2))).take (Z3 (Z0 b 0 + 1) - 4 * (Z0 b 0 + 2))).any (fun x => x != 0) with
 | false => rfl
 | true =>
  rw [hz] at q
  split at q
  ·cases q
  split at q
  ·cases q
  split at q
  ·cases q
  split at q
  ·cases q
  rw [if_pos rfl] at q
  cases q
theorem Zlg (m : Nat) : 4 * (m + 2) ≤ Z3 (m + 1) := by unfold Z3; omega
theorem Zbc {b : List Int} (hb : ∀ x ∈ b, Jz x) (h : (Z9 b).2 = 0) : Zbb (Z9 b).1 = b ∧ Zlm (Z9 b).1 ∧ ∀ s ∈ (Z9 b).1, ∀ x ∈ s, isW x := by
 unfold Z9 at h ⊢
 by_cases q : (Yd b).2 = 0
 ·rw [if_neg (by simp [q])] at h ⊢
  have hpad := Zkx q
  obtain ⟨hN, hl, hh, he⟩ := Zbo q
  by_cases h1 : (b.drop (Z3 (Yd b).1.length)).length < 8 * X2 (Yd b).1
  ·rw [if_pos h1] at h; cases h
  rw [if_neg h1] at h ⊢
  by_cases h2 : 8 * X2 (Yd b).1 < (b.drop (Z3 (Yd b).1.length)).length
  ·rw [if_pos h2] at h; cases h
  rw [if_neg h2]
  dsimp only
  have hm : (Yd b).1.length = Z0 b 0 + 1 := by rw [he, K1]
  have h4 := Zlg (Z0 b 0)
  obtain ⟨H, hH⟩ : ∃ H, Z3 (Z0 b 0 + 1) = H := ⟨_, rfl⟩
  rw [hm, hH] at hh h1 h2 ⊢
  rw [hH] at h4 hpad
  rw [hm] at hl
  obtain ⟨c1, c2, c3⟩ := Zdb (Yd b).1 (b.drop H) hN (fun x hx => hb x (List.mem_of_mem_drop hx)) (Nat.le_antisymm (Nat.not_lt.1 h2) (Nat.not_lt.1 h1))
  obtain ⟨L, hL⟩ : ∃ L, V3 (Yd b).1 (b.drop H) = L := ⟨_, rfl⟩
  rw [hL] at c1 c2 c3 ⊢
  have hk : L.length = Z0 b 0 + 1 := by
   have := congrArg List.length c1
   rw [List.length_map, hm] at this
   exact this
  refine ⟨Zlb hb (Z0 b 0) H hH rfl h4 hh hpad L (c1.trans he) c3, ⟨by omega, by omega, fun s hs => ?_⟩, c2⟩
  have hin : (s.length : Int) ∈ (Yd b).1 := by
   rw [← c1]
   exact List.mem_map.2 ⟨s, hs, rfl⟩
  have := hN _ hin
  unfold isN at this
  omega
 rw [if_pos q] at h
 exact absurd h q
end Go.Proofs.Ytgijkjifiekkmaa
