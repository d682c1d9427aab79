/- Plain facts on this seat's mirrors (part RP6); each theorem bears its own conditions. -/
import Derived.Test.YtgijkjifiekkmaaRP5
import Derived.IntWalk
namespace Go.Proofs.Ytgijkjifiekkmaa
open Go.RowKit
set_option linter.unusedVariables false
set_option linter.unusedSimpArgs false
theorem Zgo (l : List (List Int)) (hl : l.length ≤ 10000000000000) (h : ¬ Uj l) : Yb l = some ([], false) := by
 unfold Yb
 by_cases a : l.length = 0
 ·rw [a]
  rfl
 have c0 : ((l.length : Int) == 0) = false := by simp; intro q; rw [q] at a; simp at a
 rw [c0, cond_false]
 by_cases c : 16 < l.length
 ·rw [show decide ((16 : Int) < l.length) = true from by rw [decide_eq_true_eq]; omega, cond_true]
 rw [show decide ((16 : Int) < l.length) = false from by rw [decide_eq_false_iff_not]; omega, cond_false, Zlh (by omega) (by omega), show ((l.length : Int) - 1) = ((l.length - 1 : Nat) : Int) by omega, Ze3 (l.length - 1) (by omega), Option.bind_some]
 have e0 := Yk l (fun i (s : List Int) => (i, s)) (Zo l) (fun s x => cond (decide (65536 < (x.length : Int))) (some (.inr (.inl ()))) ((Zq (x.length : Int)).bind fun y => (X4 1 s y).bind fun z => some (.inl z))) (fun s => (.inr s : Unit ⊕ List Int)) (fun i s x hi hx => by
  unfold Zo
  simp only
  rw [show decide ((i : Int) < l.length) = true from by rw [decide_eq_true_eq]; omega, cond_true, Yx hx, Option.bind_some]
  cases decide (65536 < (x.length : Int)) with
  | true => simp only [cond_true]
  | false =>
   simp only [cond_false]
   rw [Option.bind_some]
   cases Zq (x.length : Int) with
   | none => rfl
   | some y =>
    simp only [Option.bind_some]
    cases X4 1 s y with
    | none => rfl
    | some z => simp only [Option.bind_some]; rw [Y2 (by omega)]; rfl) (fun s => by
  unfold Zo
  simp only
  rw [show decide ((l.length : Int) < l.length) = false from by simp, cond_false]) (Gg (l.length - 1))
 have hany : l.any (fun x : List Int => decide (65536 < x.length)) = true := by
  cases q : l.any (fun x : List Int => decide (65536 < x.length)) with
  | true => rfl
  | false =>
   rw [List.any_eq_false] at q
   exact absurd ⟨by omega, by omega, fun s hs => by have := q s hs; simp at this; exact this⟩ h
 have e1 : Zj (Zo l) (0, Gg (l.length - 1)) = some (.inl ()) := by
  refine e0.trans ?_
  rw [Jo (fun x : List Int => decide (65536 < x.length)) (fun s x => s ++ Gg x.length) (.inl ()) (fun s k => s.length = 4 + 4 * k) l.length l _ 0 (by omega) rfl (fun s k x hx hk hI => ?_), hany]
  ·rfl
  by_cases q : 65536 < x.length
  ·have q2 : decide ((65536 : Int) < (x.length : Int)) = true := by rw [decide_eq_true_eq]; omega
   rw [decide_eq_true q, q2, cond_true, if_pos rfl]
   exact ⟨rfl, fun h => Bool.noConfusion h⟩
  have q2 : decide ((65536 : Int) < (x.length : Int)) = false := by rw [decide_eq_false_iff_not]; omega
  rw [decide_eq_false q, q2, cond_false, if_neg Bool.false_ne_true, Ze3 x.length (by omega), Option.bind_some, Qn (by rw [Q6]; omega) (by rw [Q6]; omega)]
  exact ⟨rfl, fun _ => by rw [List.length_append, hI, Q6]; omega⟩
 rw [e1, Option.bind_some]
theorem Xy (p q : List Int) (i : Nat) : Zr (p ++ q) (p.length + i) = Zr q i := by
 unfold Zr
 rw [List.getD_eq_getElem?_getD, List.getD_eq_getElem?_getD, List.getElem?_append_right (by omega), Nat.add_sub_cancel_left]
theorem Zlm (p q : List Int) (i : Nat) : Xt (p ++ q) (p.length + i) = Xt q i := by
 unfold Xt
 rw [Nat.add_assoc p.length i 1, Nat.add_assoc p.length i 2, Nat.add_assoc p.length i 3, Xy, Xy, Xy, Xy]
theorem Zln (p q : List Int) (i : Nat) : Va (p ++ q) (p.length + i) = Va q i := by
 unfold Va
 rw [Nat.add_assoc p.length i 1, Nat.add_assoc p.length i 2, Nat.add_assoc p.length i 3, Nat.add_assoc p.length i 4, Nat.add_assoc p.length i 5, Nat.add_assoc p.length i 6, Nat.add_assoc p.length i 7, Xy, Xy, Xy, Xy, Xy, Xy, Xy, Xy]
theorem Zge (n : Nat) (hn : n < 4294967296) (r : List Int) : Xt (Gg n ++ r) 0 = n := by
 show (((n % 256 : Nat) : Int)).toNat + (((n / 256 % 256 : Nat) : Int)).toNat * 256 + (((n / 65536 % 256 : Nat) : Int)).toNat * 65536 + (((n / 16777216 % 256 : Nat) : Int)).toNat * 16777216 = n
 simp only [Int.toNat_natCast]
 omega
theorem Zlo (n : Nat) (hn : n < 18446744073709551616) (r : List Int) : Va (le8 n ++ r) 0 = n := by
 show (((n % 256 : Nat) : Int)).toNat + (((n / 256 % 256 : Nat) : Int)).toNat * 256 + (((n / 65536 % 256 : Nat) : Int)).toNat * 65536 + (((n / 16777216 % 256 : Nat) : Int)).toNat * 16777216 + (((n / 4294967296 % 256 : Nat) : Int)).toNat * 4294967296 + (((n / 1099511627776 % 256 : Nat) : Int)).toNat * 1099511627776 + (((n / 281474976710656 % 256 : Nat) : Int)).toNat * 281474976710656 + (((n / 72057594037927936 % 256 : Nat) : Int)).toNat * 72057594037927936 = n
 simp only [Int.toNat_natCast]
 omega
theorem Zgw : ∀ (l : List (List Int)) (r : List Int), (∀ s ∈ l, s.length ≤ 65536) → (List.range l.length).map (fun i => Xt ((l.map fun s => Gg s.length).flatten ++ r) (4 * i)) = l.map fun s => s.length
 | [], _, _ => rfl
 | s :: l, r, h => by
  have h0 := h s (.head _)
  rw [List.length_cons, List.range_succ_eq_map, List.map_cons, List.map_map, List.map_cons, List.flatten_cons, List.append_assoc, Nat.mul_zero, Zge _ (by omega), List.map_cons, ← Zgw l r (fun s hs => h s (.tail _ hs))]
  congr 1
theorem Zhb : ∀ (s r : List Int), (∀ x ∈ s, isW x) → (List.range s.length).map (fun i => ((Va (X7 s ++ r) (8 * i) : Nat) : Int)) = s
 | [], _, _ => rfl
 | x :: s, r, h => by
  have h0 := h x (.head _)
  unfold isW at h0
  have e : X7 (x :: s) = le8 x.toNat ++ X7 s := by unfold X7; rw [List.map_cons, List.flatten_cons]
  rw [List.length_cons, List.range_succ_eq_map, List.map_cons, List.map_map, e, List.append_assoc, Nat.mul_zero, Zlo _ (by omega), show ((x.toNat : Nat) : Int) = x by omega]
  congr 1
  refine Eq.trans (List.map_congr_left fun i _ => ?_) (Zhb s r (fun y hy => h y (.tail _ hy)))
  show ((Va _ (8 * (i + 1)) : Nat) : Int) = _
  rw [show 8 * (i + 1) = (le8 x.toNat).length + 8 * i by rw [J7]; omega, Zln]
theorem Zh2 (s : List Int) (h : ∀ x ∈ s, isW x) : Zac (X7 s) = s := by
 have := Zhb s [] h
 rw [List.append_nil] at this
 unfold Zac
 rw [X2, show 8 * s.length / 8 = s.length by omega]
 exact this
theorem Zk7 : ∀ (l : List (List Int)), (∀ s ∈ l, ∀ x ∈ s, isW x) → Zef (l.map fun s => (s.length : Int)) ((l.map X7).flatten) = l
 | [], _ => rfl
 | s :: l, h => by
  rw [List.map_cons, Zkq, List.map_cons, List.flatten_cons, Int.toNat_natCast, List.take_left' (X2 s), List.drop_left' (X2 s), Zh2 s (h s (.head _)), Zk7 l (fun s hs => h s (.tail _ hs))]
theorem Zh1 : ∀ (l : List (List Int)), ((l.map X7).flatten).length = 8 * Jg (l.map fun s => (s.length : Int))
 | [] => rfl
 | s :: l => by
  rw [List.map_cons, List.flatten_cons, List.length_append, X2, Zh1 l, List.map_cons, Zk4, Int.toNat_natCast]
  omega
theorem Zip (n : Nat) : ∀ x ∈ Gg n, Gt x := fun x hx => by
 unfold Gg at hx
 simp only [List.mem_cons, List.not_mem_nil, or_false] at hx
 unfold Gt
 omega
theorem Zmw (n : Nat) : ∀ x ∈ le8 n, Gt x := fun x hx => by
 unfold le8 at hx
 simp only [List.mem_cons, List.not_mem_nil, or_false] at hx
 unfold Gt
 omega
theorem Zkz (l : List (List Int)) : ∀ x ∈ Xe l, Gt x := fun x hx => by
 unfold Xe J6 X0 at hx
 rcases List.mem_append.1 hx with hx | hx
 ·rcases List.mem_append.1 hx with hx | hx
  ·rcases List.mem_append.1 hx with hx | hx
   ·exact Zip _ x hx
   obtain ⟨y, hy, hx⟩ := List.mem_flatten.1 hx
   obtain ⟨s, _, rfl⟩ := List.mem_map.1 hy
   exact Zip _ x hx
  rw [List.eq_of_mem_replicate hx]
  unfold Gt
  omega
 obtain ⟨y, hy, hx⟩ := List.mem_flatten.1 hx
 obtain ⟨s, _, rfl⟩ := List.mem_map.1 hy
 unfold X7 at hx
 obtain ⟨y, hy, hx⟩ := List.mem_flatten.1 hx
 obtain ⟨w, _, rfl⟩ := List.mem_map.1 hy
 exact Zmw _ x hx
theorem Zaj (l : List (List Int)) : Xe l = Gg (l.length - 1) ++ ((l.map fun s => Gg s.length).flatten ++ (List.replicate (Zu l.length - (X0 l).length) 0 ++ (l.map X7).flatten)) := by
 unfold Xe J6
 have : ∀ r : List Int, X0 l ++ r = Gg (l.length - 1) ++ ((l.map fun s => Gg s.length).flatten ++ r) := fun r => by unfold X0; rw [List.append_assoc]
 rw [List.append_assoc, this]
theorem Zgv (l : List (List Int)) (h : ∀ s ∈ l, s.length ≤ 65536) : Jx (Xe l) l.length = l.map fun s => (s.length : Int) := by
 have := congrArg (List.map (fun n : Nat => (n : Int))) (Zgw l (List.replicate (Zu l.length - (X0 l).length) 0 ++ (l.map X7).flatten) h)
 rw [List.map_map, List.map_map] at this
 refine Eq.trans ?_ this
 unfold Jx
 refine List.map_congr_left fun i _ => ?_
 show ((Xt (Xe l) (4 * (i + 1)) : Nat) : Int) = ((Xt _ (4 * i) : Nat) : Int)
 rw [Zaj, show 4 * (i + 1) = (Gg (l.length - 1)).length + 4 * i by rw [Q6]; omega, Zlm]
theorem Zdh (l : List (List Int)) : (Xe l).length = Zu l.length + 8 * Jg (l.map fun s => (s.length : Int)) := by
 unfold Xe
 rw [List.length_append, Vn, Zh1]
theorem Zc1 (l : List (List Int)) (h : Uj l) (hw : ∀ s ∈ l, ∀ x ∈ s, isW x) : Gd (Xe l) = (l, 0) := by
 obtain ⟨h1, h2, h3⟩ := h
 have hs := Zgv l h3
 have hlen := Zdh l
 have hm : Xt (Xe l) 0 = l.length - 1 := by
  rw [Zaj]
  exact Zge _ (by omega) _
 obtain ⟨m, hme⟩ : ∃ m, l.length = m + 1 := ⟨l.length - 1, by omega⟩
 have hm' : Xt (Xe l) 0 = m := by rw [hm, hme]; rfl
 have hN : Zu l.length = (4 * (l.length + 1) + 7) / 8 * 8 := rfl
 have hd : (Xe l).drop (Zu l.length) = (l.map X7).flatten := by
  unfold Xe
  exact List.drop_left' (Vn l)
 have hp : ((Xe l).drop (4 * (m + 2))).take (Zu (m + 1) - 4 * (m + 2)) = List.replicate (Zu l.length - (X0 l).length) 0 := by
  unfold Xe J6
  rw [List.append_assoc, List.drop_left' (by rw [Kl]; omega), List.take_left' (by rw [List.length_replicate, Kl, hme]; omega)]
 have he : Qk (Xe l) = (l.map (fun s => (s.length : Int)), 0) := by
  unfold Qk
  rw [hm', if_neg (by omega), if_neg (by omega), ← hme, if_neg (by omega)]
  rw [if_neg, if_neg, hs]
  ·rw [hme, hp, Bool.not_eq_true, List.any_eq_false]
   intro x hx
   rw [List.eq_of_mem_replicate hx]
   decide
  rw [Bool.not_eq_true, List.any_eq_false]
  intro i hi
  have : ((Xt (Xe l) (4 * (i + 1)) : Nat) : Int) ∈ Jx (Xe l) l.length := List.mem_map.2 ⟨i, hi, rfl⟩
  rw [hs] at this
  obtain ⟨s, hs', e⟩ := List.mem_map.1 this
  have := h3 s hs'
  rw [decide_eq_true_eq]
  omega
 unfold Gd
 rw [he]
 dsimp only
 rw [List.length_map, hd, Zh1, if_neg (show ¬ ((0 : Int) ≠ 0) from fun h => h rfl), if_neg (Nat.lt_irrefl _), if_neg (Nat.lt_irrefl _), Zk7 l hw]
theorem Zfq (l : List (List Int)) (hl : l.length ≤ 10000000000000) : Yh l = some (decide (1 ≤ l.length ∧ l.length ≤ 16 ∧ ∀ s ∈ l, s.length ≤ 65536)) := by
 unfold Yh
 by_cases h0 : l.length < 1
 ·have : decide ((l.length : Int) < 1) = true := by simp; omega
  rw [this, cond_true, cond_true]
  congr 1
  symm
  simp only [decide_eq_false_iff_not]
  omega
 have c0 : decide ((l.length : Int) < 1) = false := by simp; omega
 by_cases h1 : 16 < l.length
 ·have : decide (16 < (l.length : Int)) = true := by simp; omega
  rw [c0, this, cond_false, cond_true]
  congr 1
  symm
  simp only [decide_eq_false_iff_not]
  omega
 have c1 : decide (16 < (l.length : Int)) = false := by simp; omega
 rw [c0, c1, cond_false, cond_false]
 have hloop := Yk l (fun i (_ : Unit) => i) (Zv l) (fun _ x => if 65536 < x.length then some (.inr (.inl ())) else some (.inl ())) (fun _ => .inr ()) (fun i s x hi hx => by
  unfold Zv
  have : decide ((i : Int) < l.length) = true := by simp; omega
  rw [this, cond_true, Yx hx, Option.bind_some]
  by_cases h : 65536 < x.length
  ·have e : decide (65536 < (x.length : Int)) = true := by simp; omega
   rw [e, cond_true, if_pos h]
  ·have e : decide (65536 < (x.length : Int)) = false := by simp; omega
   rw [e, cond_false, if_neg h, Y2 (by omega)]
   rfl) (fun s => by
  unfold Zv
  have : decide ((l.length : Int) < l.length) = false := by simp
  rw [this, cond_false]) ()
 rw [hloop]
 have key : ∀ xs : List (List Int), Qh (fun (_ : Unit) (x : List Int) => if 65536 < x.length then some (.inr (.inl ())) else some (.inl ())) (fun _ => (.inr () : Unit ⊕ Unit)) xs () = some (if ∀ s ∈ xs, s.length ≤ 65536 then .inr () else .inl ()) := fun xs => by
  induction xs with
  | nil => simp [Qh]
  | cons x xs ih =>
   unfold Qh
   by_cases h : 65536 < x.length
   ·rw [if_pos h]
    have : ¬ ∀ s ∈ x :: xs, s.length ≤ 65536 := fun q => by have := q x (.head _); omega
    rw [if_neg this]
   rw [if_neg h]
   simp only
   rw [ih]
   have : (∀ s ∈ x :: xs, s.length ≤ 65536) ↔ ∀ s ∈ xs, s.length ≤ 65536 := by simp; omega
   by_cases q : ∀ s ∈ xs, s.length ≤ 65536
   ·rw [if_pos q, if_pos (this.2 q)]
   rw [if_neg q, if_neg (fun z => q (this.1 z))]
 rw [key]
 by_cases q : ∀ s ∈ l, s.length ≤ 65536
 ·rw [if_pos q]
  simp only [Option.bind_some]
  congr 1
  symm
  simp only [decide_eq_true_eq]
  exact ⟨by omega, by omega, q⟩
 rw [if_neg q]
 simp only [Option.bind_some]
 congr 1
 symm
 simp only [decide_eq_false_iff_not]
 exact fun z => q z.2.2
theorem Zkr (l : List (List Int)) (hl : l.length ≤ 10000000000000) (h : ¬ Uj l) : Yr l = some ([], false) := by
 unfold Yr
 rw [Zfq l hl]
 have : decide (1 ≤ l.length ∧ l.length ≤ 16 ∧ ∀ s ∈ l, s.length ≤ 65536) = false := by simpa [Uj] using h
 rw [this]
 rfl
theorem Zcs {l : List (List Int)} (hl : l.length ≤ 10000000000000) (hq : ∀ s ∈ l, s.length ≤ 1000000000000000) (hw : ∀ s ∈ l, ∀ x ∈ s, isW x) : Yq l = some true := by
 unfold Yq
 by_cases h : Uj l
 ·have hlen := Zdh l
  have hsum := Za7 (l.map fun s => (s.length : Int)) (fun x hx => by
   obtain ⟨s, hs, rfl⟩ := List.mem_map.1 hx
   have := h.2.2 s hs
   unfold isN
   omega)
  rw [List.length_map] at hsum
  have h2 := h.2.1
  have hN : Zu l.length = (4 * (l.length + 1) + 7) / 8 * 8 := rfl
  rw [Zh8 l h hw, Option.bind_some, Zhx l h hw, Option.bind_some]
  dsimp only
  rw [K1, Ze6 _ _ (by omega) (by omega), Option.bind_some, decide_eq_true rfl]
  rw [show cond (cond (!true) true (true != true)) (some false) = fun (y : Option Bool) => y from rfl]
  dsimp only
  rw [show (!true) = false from rfl, cond_false, Zea (Zkz l) (by omega), Option.bind_some, Zc1 l h hw]
  dsimp only
  rw [show ((0 : Int) == 0) = true from rfl, cond_true, Zjh _ _ (by omega) (by omega) hq hq, Option.bind_some, decide_eq_true rfl, cond_true, Zh6]
  rfl
 rw [Zkr l hl h, Option.bind_some, Zgo l hl h, Option.bind_some]
 dsimp only
 rw [K1, Ze6 _ _ (by decide) (by decide), Option.bind_some, decide_eq_true rfl, Zh6]
 rfl
end Go.Proofs.Ytgijkjifiekkmaa
