/- Plain facts on this seat's mirrors (part KP2); each theorem bears its own conditions. -/
import Derived.Test.YtpfbdlcnfekdkaaKP1
import Derived.IntWalk
namespace Go.Proofs.Ytpfbdlcnfekdkaa
open Go.RowKit
set_option linter.unusedVariables false
set_option linter.unusedSimpArgs false
theorem Z15 {c : Int} (h : 0 ≤ c ∧ c ≤ 5) {n : Nat} (hn : n ≤ 1099511627776) : Vq c (n : Int) = some (((n * wid c + 63) / 64 : Nat) : Int) := by
 unfold Vq
 rw [Z5z h, Option.bind_some]
 have key : ∀ (w p : Nat), (1 ≤ w ∧ w ≤ 64) → w * p = 64 → Int.tdiv 64 (w : Int) = (p : Int) → (cond (cond (cond (decide ((w : Int) < 1)) true (decide ((n : Int) < 0))) true (decide ((1099511627776 : Int) < (n : Int)))) (some 0) ((some ((w : Nat) : Int)).bind fun y5 => (Xi (y5 ≠ 0)).bind fun u6 => (Xi ((IntKind.i64.wrap (Int.tdiv 64 y5)) ≠ 0)).bind fun u8 => cond (decide (0 < (Int.tmod (n : Int) (IntKind.i64.wrap (Int.tdiv 64 y5))))) ((Xi ((IntKind.i64.wrap (Int.tdiv 64 y5)) ≠ 0)).bind fun u10 => some (IntKind.i64.wrap ((IntKind.i64.wrap (Int.tdiv (n : Int) (IntKind.i64.wrap (Int.tdiv 64 y5)))) + 1))) ((Xi ((IntKind.i64.wrap (Int.tdiv 64 y5)) ≠ 0)).bind fun u12 => some (IntKind.i64.wrap (Int.tdiv (n : Int) (IntKind.i64.wrap (Int.tdiv 64 y5))))))) = some (((n * w + 63) / 64 : Nat) : Int) := fun w p hw hp ht => by
  have hp1 : 1 ≤ p ∧ p ≤ 64 := by
   rcases Nat.eq_zero_or_pos p with q | q
   ·rw [q] at hp; omega
   exact ⟨q, by have := Nat.mul_le_mul_right p hw.1; omega⟩
  have hd : n / p ≤ n := Nat.div_le_self _ _
  have hm : p * (n / p) + n % p = n := Nat.div_add_mod n p
  have hml : n % p < p := Nat.mod_lt _ hp1.1
  have ed : (n : Int) / (p : Int) = ((n / p : Nat) : Int) := rfl
  have em : (n : Int) % (p : Int) = ((n % p : Nat) : Int) := rfl
  have enw : n * w = 64 * (n / p) + n % p * w := by
   have : n * w = (p * (n / p) + n % p) * w := by rw [hm]
   rw [this, Nat.add_mul, Nat.mul_comm p, Nat.mul_assoc, Nat.mul_comm p, hp, Nat.mul_comm (n / p)]
  rw [show decide ((w : Int) < 1) = false from by rw [decide_eq_false_iff_not]; omega, cond_false, show decide ((n : Int) < 0) = false from by rw [decide_eq_false_iff_not]; omega, cond_false, show decide ((1099511627776 : Int) < (n : Int)) = false from by rw [decide_eq_false_iff_not]; omega, cond_false, Option.bind_some, ht, Yf (x := (p : Int)) (by omega) (by omega), Ju (by omega), Option.bind_some, Ju (by omega), Option.bind_some, Int.tmod_eq_emod_of_nonneg (by omega), Int.tdiv_eq_ediv_of_nonneg (by omega), ed, em, Yf (x := ((n / p : Nat) : Int)) (by omega) (by omega), Yf (x := ((n / p : Nat) : Int) + 1) (by omega) (by omega)]
  by_cases q : 0 < n % p
  ·have h1 : 1 * w ≤ n % p * w := Nat.mul_le_mul_right _ q
   have h2 : (n % p + 1) * w ≤ p * w := Nat.mul_le_mul_right _ hml
   rw [Nat.mul_comm p, hp, Nat.add_mul, Nat.one_mul] at h2
   rw [show decide ((0 : Int) < ((n % p : Nat) : Int)) = true from by rw [decide_eq_true_eq]; omega, cond_true, Option.bind_some]
   congr 1
   generalize n % p * w = z at *
   omega
  have h0 : n % p = 0 := by omega
  rw [h0, Nat.zero_mul] at enw
  rw [show decide ((0 : Int) < ((n % p : Nat) : Int)) = false from by rw [decide_eq_false_iff_not]; omega, cond_false, Option.bind_some]
  congr 1
  omega
 rcases c5' h with rfl | rfl | rfl | rfl | rfl | rfl
 ·rw [show decide (((wid 0 : Nat) : Int) < 1) = true from rfl, cond_true, cond_true, cond_true, show wid 0 = 0 from rfl, Nat.mul_zero]
  rfl
 ·exact key 1 64 (by decide) rfl rfl
 ·exact key 8 8 (by decide) rfl rfl
 ·exact key 16 4 (by decide) rfl rfl
 ·exact key 32 2 (by decide) rfl rfl
 exact key 64 1 (by decide) rfl rfl
theorem Z3l {c : Int} (h : 0 ≤ c ∧ c ≤ 5) {n : Nat} (hn : n ≤ 1048576) : Zdw c (n : Int) = some (Znd c n) := by
 have hw : Q1 c = some (((wid c : Nat) : Int), true) := by
  unfold Q1
  rcases c5' h with rfl | rfl | rfl | rfl | rfl | rfl <;> rfl
 have hb : wid c ≤ 64 := by rcases c5' h with rfl | rfl | rfl | rfl | rfl | rfl <;> decide
 have hm : n * wid c ≤ 1048576 * 64 := Nat.mul_le_mul hn hb
 unfold Zdw Znd
 rw [hw, Option.bind_some]
 simp only
 rw [Bool.not_true, cond_false, decide_eq_false (by omega), cond_false, decide_eq_false (by omega), cond_false, ← Int.natCast_mul]
 generalize n * wid c = m at hm ⊢
 rw [Yf (x := (m : Int)) (by omega) (by omega), Yf (x := (m : Int) + 63) (by omega) (by omega), Int.tdiv_eq_ediv_of_nonneg (by omega), Yf (by omega) (by omega)]
 congr 1
theorem Za7 {t : Tr} {d : Nat} (h : rt t d = true) : 0 ≤ t.Kind ∧ t.Kind ≤ 10 ∧ t.Kids.length < 1048576 ∧ (t.Kind = 0 ∨ t.Kind = 10 → t.Kids = []) ∧ ∀ k ∈ t.Kids, rt k (d - 1) = true := by
 rw [Zdz] at h
 by_cases h0 : t.Kind = 0
 ·rw [if_pos h0, Bool.and_eq_true, beq_iff_eq, beq_iff_eq] at h
  have := List.length_eq_zero_iff.1 h.2
  rw [this]
  exact ⟨by omega, by omega, by simp, fun _ => rfl, fun k hk => by cases hk⟩
 by_cases h1 : t.Kind = 10
 ·rw [if_neg h0, if_pos h1, Bool.and_eq_true, beq_iff_eq, beq_iff_eq] at h
  have := List.length_eq_zero_iff.1 h.2
  rw [this]
  exact ⟨by omega, by omega, by simp, fun _ => rfl, fun k hk => by cases hk⟩
 rw [if_neg h0, if_neg h1] at h
 by_cases hb : t.Kind < 0 ∨ 10 < t.Kind ∨ d = 0 ∨ 65536 ≤ t.Words.length ∨ (t.Kind = 1 ∧ 65536 ≤ t.Kids.length) ∨ 1048576 ≤ t.Kids.length ∨ (1 < t.Kind ∧ 0 < t.Words.length)
 ·rw [if_pos hb] at h; cases h
 rw [if_neg hb, List.all_eq_true] at h
 refine ⟨by omega, by omega, by omega, fun q => by omega, fun k hk => ?_⟩
 have := h k hk
 rw [Bool.and_eq_true] at this
 exact this.1
theorem Z4t {k : Nat} (l : List Tr) (hl : (l.length : Int) ≤ 140737488355328) (h : ∀ x ∈ l, (Y6 k).1 x = some (IntKind.i64.wrap (sz x))) : Zs (U4 (Y6 k).1 l) (0, 0) = some (IntKind.i64.wrap (l.map sz).sum) := by
 have := (Zey l (fun (s : Int) (i : Int) => (IntKind.i64.wrap s, i)) (fun s x => s + sz x) (fun s => IntKind.i64.wrap s) (fun _ => True) (U4 (Y6 k).1 l) hl (fun s i x _ hi hx hm => ⟨trivial, by
  unfold U4
  simp only
  rw [Zb4 hi, cond_true, Yo hx, Option.bind_some, h x hm, Option.bind_some, Z9w]⟩) (fun s _ => by
  unfold U4
  simp only
  rw [Zbx, cond_false]) 0 trivial).1
 rw [Zgv, Int.zero_add] at this
 exact this
theorem Z51 : ∀ (k : Nat), (∀ (t : Tr) (d : Nat), rt t d = true → 2 * SizeOf.sizeOf t < k → (Y6 k).1 t = some (IntKind.i64.wrap (sz t))) ∧
  (∀ l : List Tr, 0 < k → (l.length : Int) ≤ 140737488355328 → (∀ x ∈ l, (∃ d, rt x d = true) ∧ 2 * SizeOf.sizeOf x + 1 < k) → (Y6 k).2 l = some (IntKind.i64.wrap (l.map sz).sum))
 | 0 => ⟨fun _ _ _ h => by omega, fun _ h => by omega⟩
 | k + 1 => by
  obtain ⟨i1, i2⟩ := Z51 k
  refine ⟨fun t d hr hk => ?_, fun l _ hl h => ?_⟩
  ·obtain ⟨r1, r2, r3, r4, r5⟩ := Za7 hr
   have s0 : 0 < SizeOf.sizeOf t := by
    obtain ⟨a, b, c⟩ := t
    simp only [Za.mk.sizeOf_spec]
    omega
   have k0 : 0 < k := by omega
   have hs : ∀ x ∈ t.Kids, (∃ d, rt x d = true) ∧ 2 * SizeOf.sizeOf x + 1 < k := fun x hx => ⟨⟨_, r5 x hx⟩, by have := Yk hx; omega⟩
   have hk9 : ∀ y ∈ t.Kids, (Y6 k).2 y.Kids = some (IntKind.i64.wrap (y.Kids.map sz).sum) := fun y hy =>
    i2 _ k0 (by have := (Za7 (r5 y hy)).2.2.1; omega) fun x hx => ⟨⟨_, (Za7 (r5 y hy)).2.2.2.2 x hx⟩, by have := Yk hx; have := Yk hy; omega⟩
   show Ze8 (Y6 k).1 (Y6 k).2 t = _
   unfold Ze8 Ziq
   rw [Zes]
   by_cases h1 : t.Kind = 1
   ·rw [if_pos h1, show (t.Kind == 1) = true from by rw [h1]; rfl, cond_true, i2 _ k0 (by omega) hs, Option.bind_some, Z9w]
   rw [if_neg h1, beq_eq_false_iff_ne.2 h1, cond_false, Option.bind_some]
   by_cases h2 : 2 ≤ t.Kind ∧ t.Kind ≤ 7
   ·rw [if_pos h2, decide_eq_true h2.1, cond_true, decide_eq_true h2.2, cond_true, Yf (by omega) (by omega), Z3l (by omega) (by omega), Option.bind_some]
    have : IntKind.i64.wrap (Znd (t.Kind - 2) t.Kids.length) = Znd (t.Kind - 2) t.Kids.length := by
     have hb : wid (t.Kind - 2) ≤ 64 := by rcases c5' (c := t.Kind - 2) (by omega) with q | q | q | q | q | q <;> rw [q] <;> decide
     have hm : t.Kids.length * wid (t.Kind - 2) ≤ 1048576 * 64 := Nat.mul_le_mul (by omega) hb
     unfold Znd
     rw [Yf (by omega) (by omega)]
    rw [this]
   rw [if_neg h2]
   have hc : cond (decide (2 ≤ t.Kind)) (decide (t.Kind ≤ 7)) false = false := by
    rw [Zc4, Bool.and_eq_false_iff, decide_eq_false_iff_not, decide_eq_false_iff_not]; omega
   rw [hc, cond_false]
   by_cases h8 : t.Kind = 8
   ·rw [if_pos h8, show (t.Kind == 8) = true from by rw [h8]; rfl, cond_true, i2 _ k0 (by omega) hs, Option.bind_some, w_r]
   rw [if_neg h8, beq_eq_false_iff_ne.2 h8, cond_false]
   by_cases h9' : t.Kind = 9
   ·rw [if_pos h9', show (t.Kind == 9) = true from by rw [h9']; rfl, cond_true, Zu8 (by omega), Option.bind_some]
    have := (Zey t.Kids (fun (s : Int) (i : Int) => (IntKind.i64.wrap s, i)) (fun s x => s + (x.Kids.map sz).sum) (fun s => IntKind.i64.wrap s) (fun _ => True) (Zaf (Y6 k).2 t) (by omega) (fun s i x _ hi hx hm => ⟨trivial, by
     unfold Zaf
     simp only
     rw [Zb4 hi, cond_true, Yo hx, Option.bind_some, hk9 x hm, Option.bind_some, Z9w]⟩) (fun s _ => by
     unfold Zaf
     simp only
     rw [Zbx, cond_false]) (h9 t.Kids) trivial).1
    rw [Zgv, show IntKind.i64.wrap (h9 t.Kids) = h9 t.Kids from w_w _] at this
    show (Zs (Zaf (Y6 k).2 t) (h9 t.Kids, 0)).bind _ = _
    rw [this, Option.bind_some]
   rw [if_neg h9', beq_eq_false_iff_ne.2 h9', cond_false]
   rfl
  show Zd6 (Y6 k).1 (Y6 k).2 l = _
  unfold Zd6
  rw [Z4t l hl (fun x hx => by obtain ⟨⟨d, hd⟩, hh⟩ := h x hx; exact i1 x d hd (by omega)), Option.bind_some]
theorem Ya4 {t : Tr} {d : Nat} (h : rt t d = true) : Zmr t = some (IntKind.i64.wrap (sz t)) := Zeb (2 * SizeOf.sizeOf t + 1) fun k hk => (Z51 k).1 t d h (by omega)
theorem Z94 {t : Tr} {d : Nat} (hb : Bd t) (h : rt t d = true) : Zfp t = some (IntKind.i64.wrap (sz (nrm t))) := by
 unfold Zfp
 rw [Zzr hb, Option.bind_some, Ya4 (rtN h), Option.bind_some]
theorem Zwa : ∀ (k : Nat) (t : Tr) (d : Nat), rt t d = true → SizeOf.sizeOf t < k → Xa k t = some (IntKind.i64.wrap (sz t))
 | 0, _, _, _, h => by omega
 | k + 1, t, d, hr, hk => by
  obtain ⟨r1, r2, r3, r4, r5⟩ := Za7 hr
  have ih : ∀ x ∈ t.Kids, Xa k x = some (IntKind.i64.wrap (sz x)) := fun x hx => Zwa k x _ (r5 x hx) (by have := Yk hx; omega)
  have ih2 : ∀ y ∈ t.Kids, ∀ x ∈ y.Kids, Xa k x = some (IntKind.i64.wrap (sz x)) := fun y hy x hx => Zwa k x _ ((Za7 (r5 y hy)).2.2.2.2 x hx) (by have := Yk hx; have := Yk hy; omega)
  have lp : ∀ s : Int, Zs (Jr (Xa k) t) (IntKind.i64.wrap s, 0) = some (IntKind.i64.wrap (s + (t.Kids.map sz).sum)) := fun s => by
   have := (Zey t.Kids (fun (s : Int) (i : Int) => (IntKind.i64.wrap s, i)) (fun s x => s + sz x) (fun s => IntKind.i64.wrap s) (fun _ => True) (Jr (Xa k) t) (by omega) (fun s i x _ hi hx hm => ⟨trivial, by
    unfold Jr
    simp only
    rw [Zb4 hi, cond_true, Yo hx, Option.bind_some, ih x hm, Option.bind_some, Z9w]⟩) (fun s _ => by
    unfold Jr
    simp only
    rw [Zbx, cond_false]) s trivial).1
   rw [Zgv] at this
   exact this
  show Gb (Xa k) t = _
  unfold Gb
  rw [Zes]
  by_cases h1 : t.Kind = 1
  ·rw [if_pos h1, show (t.Kind == 1) = true from by rw [h1]; rfl, cond_true, Option.bind_some]
   simp only
   rw [lp, Option.bind_some]
  rw [if_neg h1, beq_eq_false_iff_ne.2 h1, cond_false]
  by_cases h8 : t.Kind = 8
  ·rw [if_neg (by omega), if_pos h8, show (t.Kind == 8) = true from by rw [h8]; rfl, cond_true, Option.bind_some]
   simp only
   have := lp (t.Kids.length : Int)
   rw [Yf (x := (t.Kids.length : Int)) (by omega) (by omega)] at this
   rw [this, Option.bind_some]
  rw [beq_eq_false_iff_ne.2 h8, cond_false]
  have hc : (cond (t.Kind == 2) (some (t.Kind == 2)) (cond (t.Kind == 3) (some (t.Kind == 3)) (cond (t.Kind == 4) (some (t.Kind == 4)) (cond (t.Kind == 5) (some (t.Kind == 5)) (cond (t.Kind == 6) (some (t.Kind == 6)) (some (t.Kind == 7))))))) = some (decide (2 ≤ t.Kind ∧ t.Kind ≤ 7)) := by
   by_cases h2 : 2 ≤ t.Kind ∧ t.Kind ≤ 7
   ·rcases (show t.Kind = 2 ∨ t.Kind = 3 ∨ t.Kind = 4 ∨ t.Kind = 5 ∨ t.Kind = 6 ∨ t.Kind = 7 by omega) with q | q | q | q | q | q <;> rw [q] <;> rfl
   rw [decide_eq_false h2, beq_eq_false_iff_ne.2 (by omega : ¬ t.Kind = 2), beq_eq_false_iff_ne.2 (by omega : ¬ t.Kind = 3), beq_eq_false_iff_ne.2 (by omega : ¬ t.Kind = 4), beq_eq_false_iff_ne.2 (by omega : ¬ t.Kind = 5), beq_eq_false_iff_ne.2 (by omega : ¬ t.Kind = 6), beq_eq_false_iff_ne.2 (by omega : ¬ t.Kind = 7)]
   rfl
  rw [hc, Option.bind_some]
  by_cases h2 : 2 ≤ t.Kind ∧ t.Kind ≤ 7
  ·have hb : wid (t.Kind - 2) ≤ 64 := by rcases c5' (c := t.Kind - 2) (by omega) with q | q | q | q | q | q <;> rw [q] <;> decide
   have hm : t.Kids.length * wid (t.Kind - 2) ≤ 1048576 * 64 := Nat.mul_le_mul (by omega) hb
   rw [decide_eq_true h2, cond_true, if_pos h2, Yf (x := t.Kind - 2) (by omega) (by omega), Z15 (by omega) (by omega), Option.bind_some, Option.bind_some]
   unfold Znd
   rw [Yf (by omega) (by omega)]
  rw [decide_eq_false h2, cond_false, if_neg h2, if_neg h8]
  by_cases h9' : t.Kind = 9
  ·rw [if_pos h9', show (t.Kind == 9) = true from by rw [h9']; rfl, cond_true, Ztv (by omega), Option.bind_some]
   have := (Zey t.Kids (fun (s : Int) (i : Int) => (IntKind.i64.wrap s, i)) (fun s x => s + (x.Kids.map sz).sum) (fun s => IntKind.i64.wrap s) (fun _ => True) (Vh (Xa k) t) (by omega) (fun s i x _ hi hx hm => ⟨trivial, by
    have hxl := (Za7 (r5 x hm)).2.2.1
    have inner := (Zey x.Kids (fun (s : Int) (i : Int) => (IntKind.i64.wrap s, i)) (fun s x => s + sz x) (fun s => IntKind.i64.wrap s) (fun _ => True) (Vi (Xa k) t (IntKind.i64.wrap s, (i : Int))) (by omega) (fun s j y _ hj hy hmy => ⟨trivial, by
     unfold Vi
     simp only
     rw [Yo hx, Option.bind_some, Zb4 hj, cond_true, Option.bind_some, Yo hy, Option.bind_some, ih2 x hm y hmy, Option.bind_some, Z9w]⟩) (fun s _ => by
     unfold Vi
     simp only
     rw [Yo hx, Option.bind_some, Zbx, cond_false]) s trivial).1
    rw [Zgv] at inner
    unfold Vh
    simp only
    rw [Zb4 hi, cond_true, inner, Option.bind_some]⟩) (fun s _ => by
    unfold Vh
    simp only
    rw [Zbx, cond_false]) (h9 t.Kids) trivial).1
   rw [Zgv, show IntKind.i64.wrap (h9 t.Kids) = h9 t.Kids from w_w _] at this
   have h9e : IntKind.i64.wrap (1 + IntKind.i64.wrap ((t.Kids.length : Int) * IntKind.i64.wrap ((fr t.Kids).1 + (fr t.Kids).2))) = h9 t.Kids := rfl
   rw [h9e, this, Option.bind_some, Option.bind_some]
  rw [if_neg h9', beq_eq_false_iff_ne.2 h9', cond_false, Option.bind_some]
  simp only
  have := lp 0
  rw [show IntKind.i64.wrap 0 = 0 from rfl, r4 (by omega)] at this
  rw [this, Option.bind_some]
  rfl
theorem Z16 {t : Tr} {d : Nat} (h : rt t d = true) : Vs t = some (IntKind.i64.wrap (sz t)) := Zeb (SizeOf.sizeOf t + 1) fun k hk => Zwa k t d h (by omega)
def Ge {α σ : Type} (f : σ → Nat → α → σ) : σ → Nat → List α → σ
 | s, _, [] => s
 | s, i, x :: xs => Ge f (f s i x) (i + 1) xs
theorem Zgc {α σ S R : Type} (xs : List α) (pack : Int → σ → S) (out : σ → R) (step : S → Option (S ⊕ R)) (f : σ → Nat → α → σ) (I : Nat → σ → Prop) (hl : (xs.length : Int) ≤ 140737488355328)
  (h1 : ∀ (i : Nat) (s : σ) (x : α), i < xs.length → xs[i]? = some x → x ∈ xs → I i s → step (pack i s) = some (.inl (pack (IntKind.i64.wrap ((i : Int) + 1)) (f s i x))) ∧ I (i + 1) (f s i x))
  (h2 : ∀ s, I xs.length s → step (pack xs.length s) = some (.inr (out s))) (s : σ) (h0 : I 0 s) : Zs step (pack 0 s) = some (out (Ge f s 0 xs)) ∧ I xs.length (Ge f s 0 xs) := by
 have key : ∀ (l pre : List α) (s : σ), xs = pre ++ l → I pre.length s → Zs step (pack (pre.length : Nat) s) = some (out (Ge f s pre.length l)) ∧ I xs.length (Ge f s pre.length l) := fun l => by
  induction l with
  | nil =>
   intro pre s hp hi
   rw [List.append_nil] at hp
   subst hp
   exact ⟨Y7 (h2 s hi), hi⟩
  | cons x l ih =>
   intro pre s hp hI
   have hx : xs[pre.length]? = some x := by rw [hp, List.getElem?_append_right (Nat.le_refl _), Nat.sub_self]; rfl
   have hi : pre.length < xs.length := by rw [hp]; simp
   obtain ⟨a, b⟩ := h1 pre.length s x hi hx (List.mem_of_getElem? hx) hI
   rw [Yf (by omega) (by omega)] at a
   have := ih (pre ++ [x]) (f s pre.length x) (by rw [hp]; simp) (by rw [List.length_append, List.length_singleton]; exact b)
   rw [List.length_append, List.length_singleton] at this
   exact ⟨(Ql a).trans this.1, this.2⟩
 exact key xs [] s rfl h0
theorem Zmh : ∀ l m : List Int, (l ++ m).sum = l.sum + m.sum
 | [], m => by simp
 | x :: l, m => by simp only [List.cons_append, List.sum_cons, Zmh l m]; omega
theorem Zmi : ∀ l : List Int, (∀ x ∈ l, 0 ≤ x) → 0 ≤ l.sum
 | [], _ => by simp
 | x :: l, h => by
  have := Zmi l fun y hy => h y (.tail _ hy)
  have := h x (.head _)
  simp only [List.sum_cons]
  omega
theorem Z2b {α : Type} {f : α → Int} {xs : List α} {i : Nat} {x : α} (hx : xs[i]? = some x) (h : ∀ x ∈ xs, 0 ≤ f x) : ((xs.take (i + 1)).map f).sum = ((xs.take i).map f).sum + f x ∧ ((xs.take i).map f).sum + f x ≤ (xs.map f).sum := by
 have e : ((xs.take (i + 1)).map f).sum = ((xs.take i).map f).sum + f x := by
  rw [List.take_add_one, hx, List.map_append, Zmh]
  simp
 refine ⟨e, ?_⟩
 have e2 : (xs.map f).sum = ((xs.take (i + 1)).map f).sum + ((xs.drop (i + 1)).map f).sum := by
  rw [← Zmh, ← List.map_append, List.take_append_drop]
 have := Zmi ((xs.drop (i + 1)).map f) fun y hy => by
  obtain ⟨z, hz, rfl⟩ := List.mem_map.1 hy
  exact h z (List.mem_of_mem_drop hz)
 omega
theorem Q2 {α : Type} {f : α → Int} {xs : List α} (h : ∀ x ∈ xs, 0 ≤ f x) : 0 ≤ (xs.map f).sum := Zmi _ fun y hy => by
 obtain ⟨z, hz, rfl⟩ := List.mem_map.1 hy
 exact h z hz
theorem Yct {off data ptrs : Int} (a : -536870912 ≤ off) (b : off < 536870912) (c : 0 ≤ data) (d : data < 65536) (e : 0 ≤ ptrs) (f : ptrs < 65536) (g : ¬ (off = 0 ∧ data = 0 ∧ ptrs = 0)) :
  Vb (⟨1, off, data, ptrs, 0, 0, 0, false⟩ : Zy) = some (off % 1073741824 * 4 + data * 4294967296 + ptrs * 281474976710656, true) := by
 have hd : Zg5 ((off % 1073741824).toNat * 4 + data.toNat * 4294967296 + ptrs.toNat * 281474976710656) = ⟨1, off, data, ptrs, 0, 0, 0, false⟩ := by
  generalize hw : (off % 1073741824).toNat * 4 + data.toNat * 4294967296 + ptrs.toNat * 281474976710656 = w
  have h1 : ¬ w = 0 := by omega
  have h2 : w % 4 = 0 := by omega
  unfold Zg5
  rw [if_neg h1, if_pos h2]
  unfold Zox
  simp only [Zy.mk.injEq, true_and, and_true]
  refine ⟨?_, by omega, by omega⟩
  split <;> omega
 have := Zu4 ((off % 1073741824).toNat * 4 + data.toNat * 4294967296 + ptrs.toNat * 281474976710656) (by omega) (by rw [hd]; show ¬ (1 : Int) = 4; decide)
 rw [hd] at this
 rw [this]
 congr 2
 omega
theorem Ycs {off code count : Int} (a : -536870912 ≤ off) (b : off < 536870912) (c : 0 ≤ code) (d : code < 8) (e : 0 ≤ count) (f : count < 536870912) :
  Vb (⟨2, off, 0, 0, code, count, 0, false⟩ : Zy) = some (off % 1073741824 * 4 + 1 + code * 4294967296 + count * 34359738368, true) := by
 have hd : Zg5 ((off % 1073741824).toNat * 4 + 1 + code.toNat * 4294967296 + count.toNat * 34359738368) = ⟨2, off, 0, 0, code, count, 0, false⟩ := by
  generalize hw : (off % 1073741824).toNat * 4 + 1 + code.toNat * 4294967296 + count.toNat * 34359738368 = w
  have h1 : ¬ w = 0 := by omega
  have h2 : ¬ w % 4 = 0 := by omega
  have h3 : w % 4 = 1 := by omega
  unfold Zg5
  rw [if_neg h1, if_neg h2, if_pos h3]
  unfold Zox
  simp only [Zy.mk.injEq, true_and, and_true]
  refine ⟨?_, by omega, by omega⟩
  split <;> omega
 have := Zu4 ((off % 1073741824).toNat * 4 + 1 + code.toNat * 4294967296 + count.toNat * 34359738368) (by omega) (by rw [hd]; show ¬ (2 : Int) = 4; decide)
 rw [hd] at this
 rw [this]
 congr 2
 omega
theorem Zd1 {x : Int} (h0 : 0 ≤ x) (h1 : x < 18446744073709551616) : IntKind.u64.wrap x = x := IntWalk.u64_in _ (by omega)
theorem Zru {a t k u : Int} (a0 : 0 ≤ a) (a1 : a ≤ 1048576) (t0 : 0 ≤ t) (t1 : t ≤ 1048576) (k0 : 0 ≤ k) (k1 : k ≤ 1) (u0 : 0 ≤ u) (u1 : u < 4294967296) :
  Jw a t k u = some ((t - a - 1) % 1073741824 * 4 + k + u * 4294967296) := by
 unfold Jw
 rw [Yf (x := t - a) (by omega) (by omega), Yf (x := t - a - 1) (by omega) (by omega)]
 by_cases h : t - a - 1 < 0
 ·rw [decide_eq_true h, cond_true, Yf (by omega) (by omega), Option.bind_some, Yf (x := 4 * _) (by omega) (by omega), Yf (by omega) (by omega), Zd1 (x := u * _) (by omega) (by omega), Zd1 (x := _ + k) (by omega) (by omega), Zd1 (by omega) (by omega)]
  congr 1
  omega
 rw [decide_eq_false h, cond_false, Option.bind_some, Yf (x := 4 * _) (by omega) (by omega), Yf (by omega) (by omega), Zd1 (x := u * _) (by omega) (by omega), Zd1 (x := _ + k) (by omega) (by omega), Zd1 (by omega) (by omega)]
 congr 1
 omega
def Zi7 (w : Nat) (out : List Int) (i : Nat) (n : Int) : List Int := Qy out ((i * w / 64 : Nat) : Int) (out[i * w / 64]?.getD 0 + n * 2 ^ (i * w % 64))
def Z4m (w N : Nat) (i : Nat) (out : List Int) : Prop := out.length = (N * w + 63) / 64 ∧ ∀ (q : Nat) (v : Int), out[q]? = some v → 0 ≤ v ∧ v < 2 ^ min 64 (i * w - q * 64)
theorem Z82 {s w : Nat} {v n : Int} (h0 : 0 ≤ v) (h1 : v < 2 ^ s) (n0 : 0 ≤ n) (n1 : n < 2 ^ w) : 0 ≤ v + n * 2 ^ s ∧ v + n * 2 ^ s < 2 ^ (s + w) ∧ 0 ≤ n * 2 ^ s := by
 have p : (0 : Int) < 2 ^ s := Int.pow_pos (by decide)
 have a := Int.mul_nonneg n0 (Int.le_of_lt p)
 have b : (n + 1) * 2 ^ s ≤ 2 ^ w * 2 ^ s := Int.mul_le_mul_of_nonneg_right (by omega) (Int.le_of_lt p)
 rw [Int.add_mul, Int.one_mul, Int.mul_comm (2 ^ w), ← Int.pow_add] at b
 exact ⟨by omega, by omega, a⟩
theorem Zrg {a b : Nat} (h : a ≤ b) : (2 : Int) ^ a ≤ 2 ^ b := by
 have := Nat.pow_le_pow_right (n := 2) (by decide) h
 exact_mod_cast this
theorem Z4l {w N i : Nat} {out : List Int} {n : Int} (hw : 0 < w) (hs : i * w % 64 + w ≤ 64) (hi : i < N) (hI : Z4m w N i out) (n0 : 0 ≤ n) (n1 : n < 2 ^ w) :
  ∃ v : Int, out[i * w / 64]? = some v ∧ 0 ≤ v ∧ v < 2 ^ (i * w % 64) ∧ v + n * 2 ^ (i * w % 64) < 18446744073709551616 ∧ 0 ≤ n * 2 ^ (i * w % 64) ∧ Z4m w N (i + 1) (Zi7 w out i n) := by
 obtain ⟨hl, hv⟩ := hI
 have hm : i * w + w ≤ N * w := by
  have := Nat.mul_le_mul_right w (show i + 1 ≤ N by omega)
  rwa [Nat.add_mul, Nat.one_mul] at this
 have hq : i * w / 64 < out.length := by rw [hl]; omega
 have hx : out[i * w / 64]? = some out[i * w / 64] := List.getElem?_eq_getElem hq
 obtain ⟨v0, v1⟩ := hv _ _ hx
 have e : min 64 (i * w - i * w / 64 * 64) = i * w % 64 := by omega
 rw [e] at v1
 obtain ⟨a, b, c⟩ := Z82 v0 v1 n0 n1
 have d := Zrg hs
 refine ⟨_, hx, v0, v1, by omega, c, by unfold Zi7; rw [Yv, hl], fun q u hu => ?_⟩
 unfold Zi7 Qy at hu
 rw [Int.toNat_natCast, hx, Option.getD_some, List.getElem?_set] at hu
 have e1 : (i + 1) * w = i * w + w := by rw [Nat.add_mul, Nat.one_mul]
 by_cases h : i * w / 64 = q
 ·rw [if_pos h, if_pos hq] at hu
  cases hu
  subst h
  refine ⟨a, ?_⟩
  have : min 64 ((i + 1) * w - i * w / 64 * 64) = i * w % 64 + w := by rw [e1]; omega
  rw [this]
  exact b
 rw [if_neg h] at hu
 obtain ⟨u0, u1⟩ := hv _ _ hu
 refine ⟨u0, Int.lt_of_lt_of_le u1 (Zrg ?_)⟩
 rw [e1]
 omega
theorem Z4k (w N : Nat) : Z4m w N 0 (List.replicate ((N * w + 63) / 64) 0) := by
 refine ⟨List.length_replicate, fun q v h => ?_⟩
 have := List.mem_of_getElem? h
 rw [List.mem_replicate] at this
 rw [this.2]
 exact ⟨by decide, Int.pow_pos (by decide)⟩
def Zgh (c : Int) (ns : List Int) : List Int := if c = 0 then [] else Ge (Zi7 (wid c)) (List.replicate ((ns.length * wid c + 63) / 64) 0) 0 ns
theorem Z7g {w each : Nat} (hw : 0 < w) (hw2 : w ≤ 64) (he : 0 < each) (he2 : each ≤ 64) (hE : IntKind.i64.wrap (Int.tdiv 64 (w : Int)) = (each : Int)) (hq : ∀ i : Nat, i / each = i * w / 64) (hr : ∀ i : Nat, i % each * w = i * w % 64) (hs : ∀ i : Nat, i * w % 64 + w ≤ 64)
  {ns : List Int} (hn : ns.length ≤ 1048576) (hf : ∀ n ∈ ns, 0 ≤ n ∧ n < 2 ^ w) :
  Zs (Gt ns ((w : Int), true)) (0, List.replicate ((ns.length * w + 63) / 64) 0) = some (Ge (Zi7 w) (List.replicate ((ns.length * w + 63) / 64) 0) 0 ns) ∧ Z4m w ns.length ns.length (Ge (Zi7 w) (List.replicate ((ns.length * w + 63) / 64) 0) 0 ns) :=
 Zgc ns (fun i s => (i, s)) (fun s => s) (Gt ns ((w : Int), true)) (Zi7 w) (Z4m w ns.length) (by omega) (fun i s n hi hx hm hI => by
  obtain ⟨n0, n1⟩ := hf n hm
  obtain ⟨v, hv, v0, v1, v2, v3, v4⟩ := Z4l hw (hs i) hi hI n0 n1
  refine ⟨?_, v4⟩
  unfold Gt
  simp only
  have e1 : IntKind.i64.wrap (Int.tdiv (i : Int) (each : Int)) = ((i * w / 64 : Nat) : Int) := by
   have hb := Nat.mul_le_mul_left i hw2
   rw [Int.tdiv_eq_ediv_of_nonneg (by omega), ← Int.natCast_ediv, hq i, Yf (by omega) (by omega)]
  have e2 : IntKind.i64.wrap (Int.tmod (i : Int) (each : Int) * (w : Int)) = ((i * w % 64 : Nat) : Int) := by
   rw [Int.tmod_eq_emod_of_nonneg (by omega), ← Int.natCast_emod, ← Int.natCast_mul, hr i, Yf (by omega) (by omega)]
  have e3 : min (Int.toNat ((i * w % 64 : Nat) : Int)) 64 = i * w % 64 := by omega
  have e4 : IntKind.u64.wrap (n * 2 ^ (i * w % 64)) = n * 2 ^ (i * w % 64) := Zd1 v3 (by omega)
  have e5 : IntKind.u64.wrap (Zbw .u64 v (n * 2 ^ (i * w % 64))) = v + n * 2 ^ (i * w % 64) := by
   obtain ⟨a, rfl⟩ := Int.eq_ofNat_of_zero_le v0
   obtain ⟨b, rfl⟩ := Int.eq_ofNat_of_zero_le n0
   have f : ((b : Nat) : Int) * 2 ^ (i * w % 64) = ((b * 2 ^ (i * w % 64) : Nat) : Int) := by simp
   have f1 : a < 2 ^ (i * w % 64) := by exact_mod_cast v1
   rw [f] at v2 v3 ⊢
   rw [Zkx _ _ (by omega) (by omega), Zm6 _ _ _ f1, Int.natCast_add]
  rw [Zb4 hi, cond_true, Yo hx, Option.bind_some, hE, Ju (by omega), Option.bind_some, e1, Yo hv, Option.bind_some, Option.bind_some, e2, Ju (by omega), Option.bind_some, e3, e4, e5]
  unfold Zi7
  rw [hv]
  rfl) (fun s _ => by
  unfold Gt
  simp only
  rw [Zbx, cond_false]) _ (Z4k w ns.length)
theorem Z41 {c : Int} {ns : List Int} (h : 0 ≤ c ∧ c ≤ 5) (hn : ns.length ≤ 1048576) (hf : ∀ n ∈ ns, 0 ≤ n ∧ Zbb c n = true) : Zs (Zbp c ns) (true, 0) = some true :=
 (Zgc ns (fun i s => (s, i)) (fun s => s) (Zbp c ns) (fun s _ _ => s) (fun _ s => s = true) (by omega) (fun i s n hi hx hm hI => by
  subst hI
  refine ⟨?_, rfl⟩
  unfold Zbp
  simp only
  rw [Zb4 hi, cond_true, Yo hx, Option.bind_some, cond_true, Z3d h.1 h.2 (hf n hm).1, Option.bind_some, (hf n hm).2]
  rfl) (fun s _ => by
  unfold Zbp
  simp only
  rw [Zbx, cond_false]) true rfl).1.trans (by
  have : ∀ (l : List Int) (k : Nat), Ge (fun (s : Bool) (_ : Nat) (_ : Int) => s) true k l = true := fun l => by
   induction l with
   | nil => intro k; rfl
   | cons x l ih => intro k; exact ih (k + 1)
  rw [this])
theorem Z0g {c : Int} (h : 0 ≤ c ∧ c ≤ 5) {ns : List Int} (hn : ns.length ≤ 1048576) (hf : ∀ n ∈ ns, 0 ≤ n ∧ Zbb c n = true) : Ze1 c ns = some (Zgh c ns, true) ∧ (Zgh c ns).length = (ns.length * wid c + 63) / 64 := by
 have hw : Q1 c = some (((wid c : Nat) : Int), true) := by
  unfold Q1
  rcases c5' h with rfl | rfl | rfl | rfl | rfl | rfl <;> rfl
 have hb : wid c ≤ 64 := by rcases c5' h with rfl | rfl | rfl | rfl | rfl | rfl <;> decide
 have hm : ns.length * wid c ≤ 1048576 * 64 := Nat.mul_le_mul hn hb
 have hf' : ∀ n ∈ ns, 0 ≤ n ∧ n < 2 ^ wid c := fun n hn => ⟨(hf n hn).1, by have := (hf n hn).2; unfold Zbb at this; exact of_decide_eq_true this⟩
 unfold Ze1 Zgh
 rw [hw, Option.bind_some]
 simp only
 rw [Z41 h hn hf, Option.bind_some, Bool.not_true, cond_false, Z3l h hn, Option.bind_some]
 unfold Znd
 rw [Zms (by omega) (by omega) (by omega), Option.bind_some, Int.toNat_natCast]
 have key : ∀ w each : Nat, wid c = w → 0 < w → 0 < each → each ≤ 64 → IntKind.i64.wrap (Int.tdiv 64 (w : Int)) = (each : Int) → (∀ i : Nat, i / each = i * w / 64) → (∀ i : Nat, i % each * w = i * w % 64) → (∀ i : Nat, i * w % 64 + w ≤ 64) → ¬ c = 0 →
   (cond (((wid c : Nat) : Int) == 0) (some (List.replicate ((ns.length * wid c + 63) / 64) (0 : Int), true)) ((Xi (((wid c : Nat) : Int) ≠ 0)).bind fun u14 => (Zs (Gt ns (((wid c : Nat) : Int), true)) (0, List.replicate ((ns.length * wid c + 63) / 64) 0)).bind fun (z24 : (List Int)) => some (z24, true))) = some ((if c = 0 then [] else Ge (Zi7 (wid c)) (List.replicate ((ns.length * wid c + 63) / 64) 0) 0 ns), true) ∧ (if c = 0 then [] else Ge (Zi7 (wid c)) (List.replicate ((ns.length * wid c + 63) / 64) 0) 0 ns).length = (ns.length * wid c + 63) / 64 := by
  intro w each ew a1 a2 a3 a4 a5 a6 a7 a8
  have := Z7g a1 (by omega) a2 a3 a4 a5 a6 a7 hn (by rw [← ew]; exact hf')
  rw [ew, if_neg a8, Qq (by omega), cond_false, Ju (by omega), Option.bind_some, this.1, Option.bind_some]
  exact ⟨rfl, this.2.1⟩
 rcases c5' h with rfl | rfl | rfl | rfl | rfl | rfl
 ·exact ⟨by simp [wid], by simp [wid]⟩
 ·exact key 1 64 rfl (by decide) (by decide) (by decide) rfl (fun i => by omega) (fun i => by omega) (fun i => by omega) (by decide)
 ·exact key 8 8 rfl (by decide) (by decide) (by decide) rfl (fun i => by omega) (fun i => by omega) (fun i => by omega) (by decide)
 ·exact key 16 4 rfl (by decide) (by decide) (by decide) rfl (fun i => by omega) (fun i => by omega) (fun i => by omega) (by decide)
 ·exact key 32 2 rfl (by decide) (by decide) (by decide) rfl (fun i => by omega) (fun i => by omega) (fun i => by omega) (by decide)
 exact key 64 1 rfl (by decide) (by decide) (by decide) rfl (fun i => by omega) (fun i => by omega) (fun i => by omega) (by decide)
theorem Z0u {y2 : Int} {s0 : Int × List Int} {s : Nat} {n : Int} (hs : s < 64) (he : Int.tmod (IntKind.i64.wrap (s0.1 * y2)) 64 = (s : Int)) (n0 : 0 ≤ n) (hb : n * 2 ^ s < 18446744073709551616) : Zs (Zcw y2 s0) (n, 0) = some (n * 2 ^ s) := by
 refine Z4r (fun st => ∃ j : Nat, j ≤ s ∧ st = (n * 2 ^ j, (j : Int))) (fun st => s - st.2.toNat) ?_ _ ⟨0, by omega, by simp⟩
 rintro st ⟨j, hj, rfl⟩
 unfold Zcw
 simp only
 rw [he]
 by_cases h : j < s
 ·left
  have p : n * 2 ^ (j + 1) ≤ n * 2 ^ s := Int.mul_le_mul_of_nonneg_left (Zrg (by omega)) n0
  have q : n * 2 ^ j * 2 = n * 2 ^ (j + 1) := by rw [Int.pow_succ, Int.mul_assoc]
  have r : 0 ≤ n * 2 ^ (j + 1) := Int.mul_nonneg n0 (Int.le_of_lt (Int.pow_pos (by decide)))
  refine ⟨(n * 2 ^ (j + 1), ((j + 1 : Nat) : Int)), ?_, ⟨j + 1, by omega, rfl⟩, by simp only; omega⟩
  rw [decide_eq_true (by omega), cond_true, q, Zd1 r (by omega), Yf (by omega) (by omega)]
  rfl
 right
 obtain rfl : j = s := by omega
 rw [decide_eq_false (by omega), cond_false]
theorem Z69 {c : Int} {w : Nat} (h : 0 ≤ c ∧ c ≤ 5) (ew : wid c = w) (hw : 0 < w) (hw2 : w ≤ 64) (hs : ∀ i : Nat, i * w % 64 + w ≤ 64)
  {ns : List Int} (hn : ns.length ≤ 1048576) (hu : ∀ n ∈ ns, 0 ≤ n ∧ n < 18446744073709551616 ∧ Zbb c n = true) :
  Zs (Xe c ns (w : Int)) (0, List.replicate ((ns.length * w + 63) / 64) 0) = some (.inr (Ge (Zi7 w) (List.replicate ((ns.length * w + 63) / 64) 0) 0 ns)) :=
 (Zgc ns (fun i s => (i, s)) (fun s => .inr s) (Xe c ns (w : Int)) (Zi7 w) (Z4m w ns.length) (by omega) (fun i s n hi hx hm hI => by
  obtain ⟨n0, n1, n2⟩ := hu n hm
  have n3 : n < 2 ^ w := by unfold Zbb at n2; rw [← ew]; exact of_decide_eq_true n2
  obtain ⟨v, hv, v0, v1, v2, v3, v4⟩ := Z4l hw (hs i) hi hI n0 n3
  refine ⟨?_, v4⟩
  unfold Xe
  simp only
  have hb := Nat.mul_le_mul_left i hw2
  have e1 : IntKind.i64.wrap ((i : Int) * (w : Int)) = ((i * w : Nat) : Int) := by
   rw [← Int.natCast_mul, Yf (by omega) (by omega)]
  have e2 : IntKind.i64.wrap (Int.tdiv ((i * w : Nat) : Int) 64) = ((i * w / 64 : Nat) : Int) := by
   rw [Int.tdiv_eq_ediv_of_nonneg (by omega), Yf (by omega) (by omega)]
   omega
  have e3 : Int.tmod (IntKind.i64.wrap ((i : Int) * (w : Int))) 64 = ((i * w % 64 : Nat) : Int) := by
   rw [e1, Int.tmod_eq_emod_of_nonneg (by omega)]
   omega
  have e4 := Z0u (y2 := (w : Int)) (s0 := ((i : Int), s)) (by omega) e3 n0 (by omega)
  rw [Zb4 hi, cond_true, Yo hx, Option.bind_some, Zv9 h.1 h.2 n0 n1, Option.bind_some, n2, Bool.not_true, cond_false, e4, Option.bind_some, decide_eq_true (by omega), cond_true, e1, e2, Yo hv, Option.bind_some, Option.bind_some, Zd1 (by omega) v2]
  unfold Zi7
  rw [hv]
  rfl) (fun s _ => by
  unfold Xe
  simp only
  rw [Zbx, cond_false]) _ (Z4k w ns.length)).1
theorem Z4q {ns : List Int} (hn : ns.length ≤ 1048576) (hu : ∀ n ∈ ns, 0 ≤ n ∧ n < 18446744073709551616 ∧ Zbb 0 n = true) (l0 : List Int) : Zs (Xe 0 ns ((0 : Nat) : Int)) (0, l0) = some (.inr l0) := by
 have := (Zgc ns (fun i s => (i, s)) (fun s => .inr s) (Xe 0 ns ((0 : Nat) : Int)) (fun s _ _ => s) (fun _ s => s = l0) (by omega) (fun i s n hi hx hm hI => by
  obtain ⟨n0, n1, n2⟩ := hu n hm
  refine ⟨?_, hI⟩
  unfold Xe
  simp only
  have e3 : Int.tmod (IntKind.i64.wrap ((i : Int) * ((0 : Nat) : Int))) 64 = ((0 : Nat) : Int) := by
   rw [Int.natCast_zero, Int.mul_zero]
   rfl
  have e4 := Z0u (y2 := ((0 : Nat) : Int)) (s0 := ((i : Int), s)) (by omega) e3 n0 (by omega)
  rw [Zb4 hi, cond_true, Yo hx, Option.bind_some, Zv9 (by decide) (by decide) n0 n1, Option.bind_some, n2, Bool.not_true, cond_false, e4, Option.bind_some, decide_eq_false (by decide), cond_false, Option.bind_some]) (fun s _ => by
  unfold Xe
  simp only
  rw [Zbx, cond_false]) l0 rfl)
 rw [this.1, this.2]
theorem Z89 {c : Int} (h : 0 ≤ c ∧ c ≤ 5) {ns : List Int} (hn : ns.length ≤ 1048576) (hu : ∀ n ∈ ns, 0 ≤ n ∧ n < 18446744073709551616 ∧ Zbb c n = true) : Ze0 c ns = some (Zgh c ns, true) := by
 have hb : wid c ≤ 64 := by rcases c5' h with rfl | rfl | rfl | rfl | rfl | rfl <;> decide
 have hm : ns.length * wid c ≤ 1048576 * 64 := Nat.mul_le_mul hn hb
 unfold Ze0 Zgh
 rw [Z5z h, Option.bind_some, decide_eq_false (by omega), cond_false, Z15 h (by omega), Option.bind_some, Zms (by omega) (by omega) (by omega), Option.bind_some, Int.toNat_natCast]
 have key : ∀ w : Nat, wid c = w → 0 < w → (∀ i : Nat, i * w % 64 + w ≤ 64) → ¬ c = 0 → ((Zs (Xe c ns ((wid c : Nat) : Int)) (0, List.replicate ((ns.length * wid c + 63) / 64) 0)).bind fun (z20 : (Unit ⊕ (List Int))) => match z20 with | .inl z20 => some (([] : (List Int)), false) | .inr z20 => some (z20, true)) = some ((if c = 0 then [] else Ge (Zi7 (wid c)) (List.replicate ((ns.length * wid c + 63) / 64) 0) 0 ns), true) := by
  intro w ew a1 a2 a3
  rw [if_neg a3, ew, Z69 h ew a1 (by omega) a2 hn hu]
  rfl
 rcases c5' h with rfl | rfl | rfl | rfl | rfl | rfl
 ·rw [show wid 0 = 0 from rfl, Z4q hn hu, Nat.mul_zero, if_pos rfl]
  rfl
 ·exact key 1 rfl (by decide) (fun i => by omega) (by decide)
 ·exact key 8 rfl (by decide) (fun i => by omega) (by decide)
 ·exact key 16 rfl (by decide) (fun i => by omega) (by decide)
 ·exact key 32 rfl (by decide) (fun i => by omega) (by decide)
 exact key 64 rfl (by decide) (fun i => by omega) (by decide)
def ato (t : Tr) : List Int := t.Kids.map fun k => k.Words.headD 0
theorem Zog (t : Tr) : (ato t).length = t.Kids.length := by unfold ato; rw [List.length_map]
theorem Z4f {t : Tr} (hk : 2 ≤ t.Kind ∧ t.Kind ≤ 7) (hn : t.Kids.length ≤ 1048576) (ha : ∀ k ∈ t.Kids, ∃ w, k.Words = [w] ∧ 0 ≤ w ∧ Zbb (t.Kind - 2) w = true) : Zbd t = some (Zgh (t.Kind - 2) (ato t)) := by
 have l0 := Z1j t.Kids (fun k => k.Words.headD 0) (Uq t) [] (by omega) (fun i x out hi hx hm ho => by
  obtain ⟨w, hw, _⟩ := ha x hm
  have e : Zfq x 0 = some w := by
   unfold Zfq
   rw [hw]
   rfl
  unfold Uq
  simp only [List.length_nil] at ho ⊢
  rw [Zb4 hi, cond_true, Yo hx, Option.bind_some, e, Option.bind_some, V9 (by simp only [List.length_singleton]; omega) (by simp only [List.length_singleton]; omega), Option.bind_some, hw]
  rfl) (fun out => by
  unfold Uq
  simp only
  rw [Zbx, cond_false])
 unfold Zbd
 rw [l0, Option.bind_some, Yf (by omega) (by omega)]
 have : Ze1 (t.Kind - 2) (ato t) = some (Zgh (t.Kind - 2) (ato t), true) := (Z0g (by omega) (by rw [Zog]; omega) (fun n hn => by
  obtain ⟨k, hk, rfl⟩ := List.mem_map.1 hn
  obtain ⟨w, hw, h0, h1⟩ := ha k hk
  rw [hw]
  exact ⟨h0, h1⟩)).1
 unfold ato at this
 rw [List.nil_append, this]
 rfl
theorem Z7s {t : Tr} (hn : t.Kids.length ≤ 1048576) (ha : ∀ k ∈ t.Kids, ∃ w, k.Words = [w] ∧ 0 ≤ w ∧ Zbb (t.Kind - 2) w = true) : Zdo t = some (ato t) := by
 have l0 := Z1j t.Kids (fun k => k.Words.headD 0) (U0 t) [] (by omega) (fun i x out hi hx hm ho => by
  obtain ⟨w, hw, _⟩ := ha x hm
  have e : Y5 x.Words 0 = some w := by rw [hw]; rfl
  unfold U0
  simp only [List.length_nil] at ho ⊢
  rw [Zb4 hi, cond_true, Yo hx, Option.bind_some, e, Option.bind_some, V9 (by simp only [List.length_singleton]; omega) (by simp only [List.length_singleton]; omega), Option.bind_some, hw]
  rfl) (fun out => by
  unfold U0
  simp only
  rw [Zbx, cond_false])
 unfold Zdo
 rw [l0, Option.bind_some, List.nil_append]
 rfl
theorem Z1n {α : Type} {f : α → Nat} {x : α} : ∀ {l : List α}, x ∈ l → f x ≤ (l.map f).sum
 | [], h => by cases h
 | y :: l, h => by
  simp only [List.map_cons, List.sum_cons]
  rcases List.mem_cons.1 h with rfl | h
  ·omega
  have := Z1n (f := f) h; omega
theorem Z1m {α : Type} {f : α → Nat} : ∀ {l : List α}, (∀ x ∈ l, 1 ≤ f x) → l.length ≤ (l.map f).sum
 | [], _ => by simp
 | y :: l, h => by
  have := Z1m fun x hx => h x (.tail _ hx)
  have := h y (.head _)
  simp only [List.map_cons, List.sum_cons, List.length_cons]
  omega
theorem Z5s {α β : Type} {f : α → Nat} {g : β → Nat} (p : α → β) : ∀ {l : List α}, (∀ x ∈ l, g (p x) ≤ f x) → ((l.map p).map g).sum ≤ (l.map f).sum
 | [], _ => by simp
 | y :: l, h => by
  have := Z5s p fun x hx => h x (.tail _ hx)
  have := h y (.head _)
  simp only [List.map_cons, List.sum_cons]
  omega
theorem Z54 {α : Type} {p : α → Bool} {f : α → Nat} : ∀ l : List α, ((tr p l).map f).sum ≤ (l.map f).sum
 | [] => by simp [tr]
 | x :: l => by
  have := Z54 (p := p) (f := f) l
  by_cases h : tr p l = []
  ·rw [Zua h]
   split <;> simp
  rw [Zxi h]
  simp only [List.map_cons, List.sum_cons]
  omega
theorem Z83 (t : Tr) : 1 ≤ pt t := by rw [Zis]; omega
theorem Zz1 {t x : Tr} (h : x ∈ t.Kids) : pt x + 1 ≤ pt t := by
 have := Z1n (f := pt) h
 rw [Zis t]
 omega
theorem Zro (t : Tr) : 1 + t.Words.length + t.Kids.length ≤ pt t := by
 have := Z1m (f := pt) (l := t.Kids) fun x _ => Z83 x
 rw [Zis t]
 omega
theorem Zz3 : ∀ (n : Nat) (t : Tr), SizeOf.sizeOf t < n → pt (nrm t) ≤ pt t
 | 0, _, h => by omega
 | n + 1, t, h => by
  have ih : ∀ x ∈ t.Kids, pt (nrm x) ≤ pt x := fun x hx => Zz3 n x (by have := Yk hx; omega)
  have e := Z5s (f := pt) (g := pt) nrm ih
  by_cases h0 : t.Kind = 0
  ·rw [Zcc h0, Zis]
   exact Z83 t
  by_cases h1 : t.Kind = 1
  ·rw [K6 h1, Zis, Zis t]
   simp only
   have a := Zlg (fun x : Int => x == 0) t.Words
   have b := Z54 (p := fun x : Tr => x.Kind == 0) (f := pt) (t.Kids.map nrm)
   exact Nat.add_le_add (Nat.add_le_add_left a 1) (Nat.le_trans b e)
  rw [Zbi h0 h1, Zis, Zis t]
  simp only
  omega
theorem Z77 {M N : Int} : ∀ (l : List Tr) (s : Int × Int), (∀ x ∈ l, (x.Words.length : Int) ≤ M ∧ (x.Kids.length : Int) ≤ N) → 0 ≤ s.1 → s.1 ≤ M → 0 ≤ s.2 → s.2 ≤ N →
  s.1 ≤ (l.foldl frS s).1 ∧ (l.foldl frS s).1 ≤ M ∧ s.2 ≤ (l.foldl frS s).2 ∧ (l.foldl frS s).2 ≤ N ∧ ∀ x ∈ l, (x.Words.length : Int) ≤ (l.foldl frS s).1 ∧ (x.Kids.length : Int) ≤ (l.foldl frS s).2
 | [], s, _, a, b, c, d => ⟨Int.le_refl _, b, Int.le_refl _, d, fun x hx => by cases hx⟩
 | y :: l, s, h, a, b, c, d => by
  obtain ⟨h1, h2⟩ := h y (.head _)
  have e1 : s.1 ≤ (frS s y).1 ∧ (frS s y).1 ≤ M ∧ (y.Words.length : Int) ≤ (frS s y).1 := by unfold frS; simp only; split <;> omega
  have e2 : s.2 ≤ (frS s y).2 ∧ (frS s y).2 ≤ N ∧ (y.Kids.length : Int) ≤ (frS s y).2 := by unfold frS; simp only; split <;> omega
  obtain ⟨k1, k2, k3, k4, k5⟩ := Z77 l (frS s y) (fun x hx => h x (.tail _ hx)) (by omega) e1.2.1 (by omega) e2.2.1
  rw [List.foldl_cons]
  refine ⟨by omega, k2, by omega, k4, fun x hx => ?_⟩
  rcases List.mem_cons.1 hx with rfl | hx
  ·omega
  exact k5 x hx
theorem Ycv {M N : Int} {l : List Tr} (h : ∀ x ∈ l, (x.Words.length : Int) ≤ M ∧ (x.Kids.length : Int) ≤ N) (hM : 0 ≤ M) (hN : 0 ≤ N) :
  0 ≤ (fr l).1 ∧ (fr l).1 ≤ M ∧ 0 ≤ (fr l).2 ∧ (fr l).2 ≤ N ∧ ∀ x ∈ l, (x.Words.length : Int) ≤ (fr l).1 ∧ (x.Kids.length : Int) ≤ (fr l).2 :=
 Z77 l (0, 0) h (Int.le_refl _) hM (Int.le_refl _) hN
theorem Zun {α : Type} {f : α → Int} {g : α → Nat} {c : Int} : ∀ {l : List α}, (∀ x ∈ l, 0 ≤ f x ∧ f x ≤ c * (g x : Int)) → 0 ≤ (l.map f).sum ∧ (l.map f).sum ≤ c * (((l.map g).sum : Nat) : Int)
 | [], _ => by simp
 | y :: l, h => by
  obtain ⟨a, b⟩ := Zun fun x hx => h x (.tail _ hx)
  obtain ⟨c1, d⟩ := h y (.head _)
  simp only [List.map_cons, List.sum_cons, Int.natCast_add, Int.mul_add]
  omega
theorem Uy {t : Tr} {d : Nat} (h : rt t d = true) (h0 : ¬ t.Kind = 0) (h1 : ¬ t.Kind = 10) : t.Words.length < 65536 ∧ (t.Kind = 1 → t.Kids.length < 65536) ∧ (1 < t.Kind → t.Words = []) ∧ ∀ k ∈ t.Kids, rt k (d - 1) = true ∧ okk t.Kind k = true := by
 rw [Zdz, if_neg h0, if_neg h1] at h
 by_cases hb : t.Kind < 0 ∨ 10 < t.Kind ∨ d = 0 ∨ 65536 ≤ t.Words.length ∨ (t.Kind = 1 ∧ 65536 ≤ t.Kids.length) ∨ 1048576 ≤ t.Kids.length ∨ (1 < t.Kind ∧ 0 < t.Words.length)
 ·rw [if_pos hb] at h; cases h
 rw [if_neg hb, List.all_eq_true] at h
 refine ⟨by omega, fun h => by omega, fun h => List.length_eq_zero_iff.1 (by omega), fun k hk => ?_⟩
 have := h k hk
 rwa [Bool.and_eq_true] at this
theorem Ybk {l : List Tr} (hl : l.length ≤ 200000) (h : ∀ x ∈ l, x.Words.length ≤ 65535 ∧ x.Kids.length ≤ 65535) : h9 l = 1 + (l.length : Int) * ((fr l).1 + (fr l).2) ∧ 0 ≤ (l.length : Int) * ((fr l).1 + (fr l).2) ∧ (l.length : Int) * ((fr l).1 + (fr l).2) ≤ 26214000000 ∧ (0 ≤ (fr l).1 ∧ (fr l).1 ≤ 65535 ∧ 0 ≤ (fr l).2 ∧ (fr l).2 ≤ 65535 ∧ ∀ x ∈ l, (x.Words.length : Int) ≤ (fr l).1 ∧ (x.Kids.length : Int) ≤ (fr l).2) := by
 have f := Ycv (M := 65535) (N := 65535) (l := l) (fun x hx => by have := h x hx; omega) (by decide) (by decide)
 have a : 0 ≤ (l.length : Int) * ((fr l).1 + (fr l).2) := Int.mul_nonneg (by omega) (by omega)
 have b : (l.length : Int) * ((fr l).1 + (fr l).2) ≤ 200000 * 131070 := Int.mul_le_mul (by omega) (by omega) (by omega) (by decide)
 refine ⟨?_, a, by omega, f⟩
 unfold h9
 rw [Yf (x := (fr l).1 + (fr l).2) (by omega) (by omega), Yf (x := (l.length : Int) * _) (by omega) (by omega), Yf (by omega) (by omega)]
theorem Zz5 {c : Int} (h : 0 ≤ c ∧ c ≤ 5) (n : Nat) : (n * wid c + 63) / 64 ≤ n := by
 have hb : wid c ≤ 64 := by rcases c5' h with rfl | rfl | rfl | rfl | rfl | rfl <;> decide
 have := Nat.mul_le_mul_left n hb
 omega
theorem Z9j : ∀ (n : Nat) (t : Tr) (d : Nat), SizeOf.sizeOf t < n → rt t d = true → pt t ≤ 200000 → 0 ≤ sz t ∧ sz t ≤ 27000000000 * (pt t : Int)
 | 0, _, _, h, _, _ => by omega
 | n + 1, t, d, h, hr, hp => by
  obtain ⟨_, _, _, _, hk⟩ := Za7 hr
  have ih : ∀ x ∈ t.Kids, 0 ≤ sz x ∧ sz x ≤ 27000000000 * (pt x : Int) := fun x hx => Z9j n x (d - 1) (by have := Yk hx; omega) (hk x hx) (by have := Zz1 hx; omega)
  have ih2 : ∀ x ∈ t.Kids, 0 ≤ (x.Kids.map sz).sum ∧ (x.Kids.map sz).sum ≤ 27000000000 * (pt x : Int) := fun x hx => by
   have := Zun (f := sz) (g := pt) (c := 27000000000) (l := x.Kids) fun y hy => Z9j n y (d - 1 - 1) (by have := Yk hx; have := Yk hy; omega) ((Za7 (hk x hx)).2.2.2.2 y hy) (by have := Zz1 hx; have := Zz1 hy; omega)
   rw [Zis x]
   omega
  have s1 := Zun ih
  have s2 := Zun ih2
  have pk := Zro t
  have pe := Zis t
  rw [Zes]
  by_cases h1 : t.Kind = 1
  ·rw [if_pos h1]; omega
  by_cases h2 : 2 ≤ t.Kind ∧ t.Kind ≤ 7
  ·rw [if_neg h1, if_pos h2]
   have := Zz5 (c := t.Kind - 2) (by omega) t.Kids.length
   unfold Znd
   omega
  by_cases h8 : t.Kind = 8
  ·rw [if_neg h1, if_neg h2, if_pos h8]; omega
  by_cases h9' : t.Kind = 9
  ·rw [if_neg h1, if_neg h2, if_neg h8, if_pos h9']
   obtain ⟨e, a, b, _⟩ := Ybk (l := t.Kids) (by omega) (fun x hx => by
    obtain ⟨r1, r2⟩ := (Uy hr (by omega) (by omega)).2.2.2 x hx
    unfold okk at r2
    rw [if_neg h2, Bool.and_eq_true, bne_iff_ne, Bool.or_eq_true, bne_iff_ne, beq_iff_eq] at r2
    have k1 : x.Kind = 1 := by rcases r2.2 with h | h; exact absurd h9' h; exact h
    have := Uy r1 (by omega) (by omega)
    have := this.2.1 k1
    omega)
   omega
  rw [if_neg h1, if_neg h2, if_neg h8, if_neg h9']; omega
theorem Zwk {t : Tr} {d : Nat} (hr : rt t d = true) (hp : pt t ≤ 200000) : 0 ≤ sz t ∧ sz t ≤ 5400000000000000 := by
 have := Z9j _ t d (Nat.lt_succ_self _) hr hp
 omega
def zs (l : List Int) (N : Nat) : List Int := l ++ List.replicate (N - l.length) 0
theorem Zxy {l : List Int} {N : Nat} (h : l.length ≤ N) : (zs l N).length = N := by
 unfold zs
 rw [List.length_append, List.length_replicate]
 omega
theorem Ycf {l : List Int} {N a : Nat} {v : Int} (h : l[a]? = some v) : (zs l N)[a]? = some v := by
 unfold zs
 rw [List.getElem?_append_left (List.getElem?_eq_some_iff.1 h).1, h]
theorem Z44 {l : List Int} {N a : Nat} {v : Int} (h : a < l.length) : Qy (zs l N) (a : Int) v = zs (Qy l (a : Int) v) N := by
 unfold zs
 rw [Yv]
 unfold Qy
 rw [Int.toNat_natCast, List.set_append_left _ _ h]
theorem Z43 {l ys : List Int} {N : Nat} (h : l.length + ys.length ≤ N) : Zji (zs l N) (l.length : Int) ys = zs (l ++ ys) N := by
 unfold Zji
 rw [Zxy (by omega)]
 unfold zs
 rw [Int.toNat_natCast, List.take_left, List.take_of_length_le (by omega), List.drop_append, List.drop_replicate, List.drop_eq_nil_of_le (by omega), List.nil_append, List.length_append]
 congr 2
 omega
theorem Z0i {l : List Int} {N n : Nat} (h : l.length + n ≤ N) : zs (l ++ List.replicate n 0) N = zs l N := by
 unfold zs
 rw [List.length_append, List.length_replicate, List.append_assoc, List.replicate_append_replicate]
 congr 2
 omega
theorem Z3u {l : List Int} {n : Nat} (h : l.length + n ≤ 1048576) : Zak l (n : Int) = some (l ++ List.replicate n 0) := by
 have := (Zgc (List.replicate n ()) (fun i s => (i, s)) (fun s => s) (Zab (n : Int)) (fun s _ _ => s ++ [0]) (fun i s => s = l ++ List.replicate i 0) (by rw [List.length_replicate]; omega) (fun i s x hi hx hm hI => by
  subst hI
  rw [List.length_replicate] at hi
  refine ⟨?_, ?_⟩
  ·unfold Zab
   simp only
   rw [decide_eq_true (by omega), cond_true, V9 (by rw [List.length_append, List.length_replicate, List.length_singleton]; omega) (by rw [List.length_append, List.length_replicate, List.length_singleton]; omega)]
   rfl
  ·rw [List.append_assoc, List.replicate_succ']) (fun s _ => by
  unfold Zab
  simp only
  rw [List.length_replicate, Zbx, cond_false]) l (by simp))
 unfold Zak
 rw [this.1, Option.bind_some, this.2, List.length_replicate]
noncomputable def ly (t : Tr) (l : List Int) (a : Nat) : List Int := (Yh (SizeOf.sizeOf t + 1) l (a : Int) t).getD []
def Sim (t : Tr) : Prop := ∀ (l : List Int) (a : Nat), a < l.length → (l.length : Int) + sz t ≤ 131072 →
 ((ly t l a).length : Int) = l.length + sz t ∧ (∀ j, SizeOf.sizeOf t < j → Yh j l (a : Int) t = some (ly t l a)) ∧
 (∀ N k : Nat, (l.length : Int) + sz t ≤ N → N ≤ 131072 → 4 * SizeOf.sizeOf t < k → (Zi k).1 ⟨zs l N, (l.length : Int)⟩ (a : Int) t = some ⟨zs (ly t l a) N, ((ly t l a).length : Int)⟩)
theorem Zwi {t : Tr} {l R : List Int} {a : Nat} (hr : (R.length : Int) = l.length + sz t) (ref : ∀ j, SizeOf.sizeOf t ≤ j → Qa (Yh j) l (a : Int) t = some R)
  (prog : ∀ N k : Nat, (l.length : Int) + sz t ≤ N → N ≤ 131072 → 4 * SizeOf.sizeOf t < k + 4 → (Zi (k + 4)).1 ⟨zs l N, (l.length : Int)⟩ (a : Int) t = some ⟨zs R N, (R.length : Int)⟩) :
  ly t l a = R ∧ ((ly t l a).length : Int) = l.length + sz t ∧ (∀ j, SizeOf.sizeOf t < j → Yh j l (a : Int) t = some (ly t l a)) ∧
  (∀ N k : Nat, (l.length : Int) + sz t ≤ N → N ≤ 131072 → 4 * SizeOf.sizeOf t < k → (Zi k).1 ⟨zs l N, (l.length : Int)⟩ (a : Int) t = some ⟨zs (ly t l a) N, ((ly t l a).length : Int)⟩) := by
 have e : ly t l a = R := by
  unfold ly
  have := ref (SizeOf.sizeOf t) (Nat.le_refl _)
  show Option.getD (Qa (Yh (SizeOf.sizeOf t)) l (a : Int) t) [] = R
  rw [this]
  rfl
 refine ⟨e, by rw [e]; exact hr, fun j hj => ?_, fun N k h1 h2 h3 => ?_⟩
 ·obtain ⟨i, rfl⟩ : ∃ i, j = i + 1 := ⟨j - 1, by omega⟩
  rw [e]
  exact ref i (by omega)
 have := Zwj t
 obtain ⟨i, rfl⟩ : ∃ i, k = i + 4 := ⟨k - 4, by omega⟩
 rw [e]
 exact prog N i h1 h2 h3
theorem Yal (k : Nat) : (Zi (k + 1)).1 = Qb ((Zi k).1) ((Zi k).2.1) ((Zi k).2.2.1) ((Zi k).2.2.2) := rfl
theorem Yam (k : Nat) : (Zi (k + 1)).2.1 = Xp ((Zi k).1) ((Zi k).2.1) ((Zi k).2.2.1) ((Zi k).2.2.2) := rfl
theorem Yd9 (k : Nat) : (Zi (k + 1)).2.2.1 = J7 ((Zi k).1) ((Zi k).2.1) ((Zi k).2.2.1) ((Zi k).2.2.2) := rfl
theorem Yea (k : Nat) : (Zi (k + 1)).2.2.2 = Ks ((Zi k).1) ((Zi k).2.1) ((Zi k).2.2.1) ((Zi k).2.2.2) := rfl
noncomputable def lyK (b : Nat) (ks : List Tr) (l : List Int) : List Int := Ge (fun l i x => ly x l (b + i)) l 0 ks
theorem Zul {α σ : Type} {f : σ → Nat → α → σ} (I : Nat → σ → Prop) (xs : List α) (h : ∀ (i : Nat) (s : σ) (x : α), i < xs.length → xs[i]? = some x → x ∈ xs → I i s → I (i + 1) (f s i x)) {s : σ} (h0 : I 0 s) : I xs.length (Ge f s 0 xs) := by
 have key : ∀ (l pre : List α) (s : σ), xs = pre ++ l → I pre.length s → I xs.length (Ge f s pre.length l) := fun l => by
  induction l with
  | nil =>
   intro pre s hp hi
   rw [List.append_nil] at hp
   subst hp
   exact hi
  | cons x l ih =>
   intro pre s hp hI
   have hx : xs[pre.length]? = some x := by rw [hp, List.getElem?_append_right (Nat.le_refl _), Nat.sub_self]; rfl
   have hi : pre.length < xs.length := by rw [hp]; simp
   have b := h pre.length s x hi hx (List.mem_of_getElem? hx) hI
   have := ih (pre ++ [x]) (f s pre.length x) (by rw [hp]; simp) (by rw [List.length_append, List.length_singleton]; exact b)
   rw [List.length_append, List.length_singleton] at this
   exact this
 exact key xs [] s rfl h0
theorem Zvi {ks : List Tr} (hk : ∀ x ∈ ks, Sim x ∧ 0 ≤ sz x) {l : List Int} {b : Nat} (hb : b + ks.length ≤ l.length) (hs : (l.length : Int) + (ks.map sz).sum ≤ 131072)
  (i : Nat) (s : List Int) (x : Tr) (hi : i < ks.length) (hx : ks[i]? = some x) (hm : x ∈ ks) (hI : (s.length : Int) = l.length + ((ks.take i).map sz).sum) :
  b + i < s.length ∧ (s.length : Int) + sz x ≤ l.length + (ks.map sz).sum ∧ ((ly x s (b + i)).length : Int) = l.length + ((ks.take (i + 1)).map sz).sum := by
 obtain ⟨h1, h2⟩ := Z2b (f := sz) hx fun y hy => (hk y hy).2
 have h3 := Q2 (f := sz) (xs := ks.take i) fun y hy => (hk y (List.mem_of_mem_take hy)).2
 have h4 := ((hk x hm).1 s (b + i) (by omega) (by omega)).1
 exact ⟨by omega, by omega, by omega⟩
theorem Zkw {ks : List Tr} (hk : ∀ x ∈ ks, Sim x ∧ 0 ≤ sz x) {l : List Int} {b : Nat} (hb : b + ks.length ≤ l.length) (hs : (l.length : Int) + (ks.map sz).sum ≤ 131072) : ((lyK b ks l).length : Int) = l.length + (ks.map sz).sum := by
 have := Zul (f := fun l i x => ly x l (b + i)) (fun i (s : List Int) => (s.length : Int) = l.length + ((ks.take i).map sz).sum) ks (fun i s x hi hx hm hI => (Zvi hk hb hs i s x hi hx hm hI).2.2) (s := l) (by simp)
 rw [List.take_length] at this
 exact this
theorem Z8d {ks : List Tr} (hk : ∀ x ∈ ks, Sim x ∧ 0 ≤ sz x) {l : List Int} {b : Nat} (hb : b + ks.length ≤ l.length) (hs : (l.length : Int) + (ks.map sz).sum ≤ 131072)
  (j : Nat) (step : Int × List Int → Option ((Int × List Int) ⊕ List Int)) (hj : ∀ x ∈ ks, SizeOf.sizeOf x < j)
  (h1 : ∀ (i : Nat) (s : List Int) (x : Tr) (s' : List Int), i < ks.length → ks[i]? = some x → x ∈ ks → Yh j s ((b + i : Nat) : Int) x = some s' → step ((i : Int), s) = some (.inl (IntKind.i64.wrap ((i : Int) + 1), s')))
  (h2 : ∀ s, step ((ks.length : Int), s) = some (.inr s)) : Zs step (0, l) = some (lyK b ks l) := by
 have h3 := Q2 (f := sz) (xs := ks) fun y hy => (hk y hy).2
 exact (Zgc ks (fun i s => (i, s)) (fun s => s) step (fun l i x => ly x l (b + i)) (fun i (s : List Int) => (s.length : Int) = l.length + ((ks.take i).map sz).sum) (by omega) (fun i s x hi hx hm hI => by
  obtain ⟨a1, a2, a3⟩ := Zvi hk hb hs i s x hi hx hm hI
  exact ⟨h1 i s x _ hi hx hm (((hk x hm).1 s (b + i) a1 (by omega)).2.1 j (hj x hm)), a3⟩) (fun s _ => h2 s) l (by simp)).1
theorem Z8c {ks : List Tr} (hk : ∀ x ∈ ks, Sim x ∧ 0 ≤ sz x) {l : List Int} {b : Nat} (hb : b + ks.length ≤ l.length) (hs : (l.length : Int) + (ks.map sz).sum ≤ 131072)
  (N m : Nat) (hN : (l.length : Int) + (ks.map sz).sum ≤ N) (hN2 : N ≤ 131072) (hm : ∀ x ∈ ks, 4 * SizeOf.sizeOf x < m) :
  (Zi (m + 1)).2.2.1 ⟨zs l N, (l.length : Int)⟩ (b : Int) ks = some ⟨zs (lyK b ks l) N, ((lyK b ks l).length : Int)⟩ := by
 have h3 := Q2 (f := sz) (xs := ks) fun y hy => (hk y hy).2
 rw [Yd9]
 unfold J7
 have := (Zgc ks (fun i (s : List Int) => (i, zs s N, (s.length : Int))) (fun s => (zs s N, (s.length : Int))) (Q3 (Zi m).1 (b : Int) ks) (fun l i x => ly x l (b + i)) (fun i (s : List Int) => (s.length : Int) = l.length + ((ks.take i).map sz).sum) (by omega) (fun i s x hi hx hm' hI => by
  obtain ⟨a1, a2, a3⟩ := Zvi hk hb hs i s x hi hx hm' hI
  refine ⟨?_, a3⟩
  unfold Q3
  simp only
  have e : IntKind.i64.wrap ((b : Int) + (i : Int)) = ((b + i : Nat) : Int) := by rw [Yf (by omega) (by omega)]; omega
  rw [Zb4 hi, cond_true, Yo hx, Option.bind_some, e, ((hk x hm').1 s (b + i) a1 (by omega)).2.2 N m (by omega) hN2 (hm x hm'), Option.bind_some]) (fun s _ => by
  unfold Q3
  simp only
  rw [Zbx, cond_false]) l (by simp)).1
 rw [this]
 rfl
theorem Zdr {a b : Int} (h : a = b) : (a == b) = true := by rw [h]; exact beq_self_eq_true b
theorem Zvc {l : List Int} {a : Nat} (h : a < l.length) : Y5 l (a : Int) = some l[a] := Yo (List.getElem?_eq_getElem h)
theorem Yb1 {l : List Int} {a N : Nat} (h : a < l.length) : Y5 (zs l N) (a : Int) = some l[a] := Yo (Ycf (List.getElem?_eq_getElem h))
theorem Yao {ks : List Tr} (h : ks = []) (b b' : Nat) (l : List Int) : lyK b ks l = lyK b' ks l := by subst h; rfl
theorem Z19 {t : Tr} (h0 : t.Kind = 0) : Sim t := fun l a ha hs => by
 have e : sz t = 0 := by
  rw [Zes, if_neg (by omega), if_neg (by omega), if_neg (by omega), if_neg (by omega)]
 exact (Zwi (R := l) (by omega) (fun j _ => by
  unfold Qa
  rw [Zdr h0, cond_true]) (fun N k _ _ _ => by
  rw [Yal]
  unfold Qb
  rw [Zdr h0, cond_true])).2
def Zi2 (t : Tr) (l : List Int) (a : Nat) : Int := if t.Words.length + t.Kids.length = 0 then -1 else (l.length : Int) - a - 1
def RS1 (t : Tr) (l : List Int) (a : Nat) : List Int := Qy l (a : Int) (Zi2 t l a % 1073741824 * 4 + (t.Words.length : Int) * 4294967296 + (t.Kids.length : Int) * 281474976710656) ++ t.Words ++ List.replicate t.Kids.length 0
theorem Zph {t : Tr} (h1 : t.Kind = 1) (hw : t.Words.length < 65536) (hkl : t.Kids.length < 65536) (hk : ∀ x ∈ t.Kids, Sim x ∧ 0 ≤ sz x) (l : List Int) (a : Nat) (ha : a < l.length) (hs : (l.length : Int) + sz t ≤ 131072) :
  ly t l a = lyK (l.length + t.Words.length) t.Kids (RS1 t l a) ∧ ((ly t l a).length : Int) = l.length + sz t ∧ (∀ j, SizeOf.sizeOf t < j → Yh j l (a : Int) t = some (ly t l a)) ∧
  (∀ N k : Nat, (l.length : Int) + sz t ≤ N → N ≤ 131072 → 4 * SizeOf.sizeOf t < k → (Zi k).1 ⟨zs l N, (l.length : Int)⟩ (a : Int) t = some ⟨zs (ly t l a) N, ((ly t l a).length : Int)⟩) := by
 have es : sz t = ((t.Words.length : Int) + (t.Kids.length : Int)) + (t.Kids.map sz).sum := by rw [Zes, if_pos h1]
 have s0 := Q2 (f := sz) (xs := t.Kids) fun y hy => (hk y hy).2
 have k0 : (t.Kind == 0) = false := Qq (by omega)
 have k1 : (t.Kind == 1) = true := Zdr h1
 have l2 : (RS1 t l a).length = l.length + t.Words.length + t.Kids.length := by unfold RS1; rw [List.length_append, List.length_append, Yv, List.length_replicate]
 have hb : l.length + t.Words.length + t.Kids.length ≤ (RS1 t l a).length := by omega
 have hs2 : ((RS1 t l a).length : Int) + (t.Kids.map sz).sum ≤ 131072 := by omega
 have len := Zkw hk hb hs2
 have ho : -536870912 ≤ Zi2 t l a ∧ Zi2 t l a < 536870912 ∧ ¬ (Zi2 t l a = 0 ∧ (t.Words.length : Int) = 0 ∧ (t.Kids.length : Int) = 0) := by unfold Zi2; split <;> omega
 refine Zwi (by rw [len]; omega) (fun j hj => ?_) (fun N k hN hN2 hkk => ?_)
 ·unfold Qa
  rw [k0, cond_false, k1, cond_true]
  have ez : (cond ((IntKind.i64.wrap ((t.Words.length : Int) + (t.Kids.length : Int))) == 0) (some (a : Int)) (some (l.length : Int))) = some (((if t.Words.length + t.Kids.length = 0 then a else l.length : Nat) : Nat) : Int) := by
   rw [Yf (by omega) (by omega)]
   by_cases q : t.Words.length + t.Kids.length = 0
   ·rw [Zdr (by omega), cond_true, if_pos q]
   rw [Qq (by omega), cond_false, if_neg q]
  rw [ez, Option.bind_some]
  generalize ht : (if t.Words.length + t.Kids.length = 0 then a else l.length) = tt
  have hto : tt ≤ l.length ∧ (tt : Int) - a - 1 = Zi2 t l a ∧ (tt = l.length ∨ t.Kids = []) := by
   unfold Zi2
   by_cases q : t.Words.length + t.Kids.length = 0
   ·rw [if_pos q] at ht ⊢
    exact ⟨by omega, by omega, .inr (List.length_eq_zero_iff.1 (by omega))⟩
   rw [if_neg q] at ht ⊢
   exact ⟨by omega, by omega, .inl ht.symm⟩
  have hto3 : t.Kids.length = 0 ∨ tt = l.length := by
   rcases hto.2.2 with h | h
   ·exact .inr h
   exact .inl (by rw [h]; rfl)
  rw [Zd1 (x := (t.Words.length : Int)) (by omega) (by omega), Zd1 (x := (t.Kids.length : Int)) (by omega) (by omega), Zd1 (x := 65536 * _) (by omega) (by omega), Zd1 (by omega) (by omega), Zru (by omega) (by omega) (by omega) (by omega) (by decide) (by decide) (by omega) (by omega), Option.bind_some, Zvc ha, Option.bind_some, hto.2.1]
  have ev : Zi2 t l a % 1073741824 * 4 + 0 + ((t.Words.length : Int) + 65536 * (t.Kids.length : Int)) * 4294967296 = Zi2 t l a % 1073741824 * 4 + (t.Words.length : Int) * 4294967296 + (t.Kids.length : Int) * 281474976710656 := by omega
  rw [ev, V9 (by rw [Yv]; omega) (by rw [Yv]; omega), Option.bind_some, Z3u (by rw [List.length_append, Yv]; omega), Option.bind_some]
  have := Z8d (b := tt + t.Words.length) hk (by omega) hs2 j (Gw (Yh j) t (tt : Int)) (fun x hx => by have := Yk hx; omega) (fun i s x s' hi hx hm hq => by
   unfold Gw
   simp only
   have e : IntKind.i64.wrap (IntKind.i64.wrap ((tt : Int) + (t.Words.length : Int)) + (i : Int)) = ((tt + t.Words.length + i : Nat) : Int) := by rw [Yf (x := (tt : Int) + _) (by omega) (by omega), Yf (by omega) (by omega)]; omega
   rw [Zb4 hi, cond_true, Yo hx, Option.bind_some, e, hq, Option.bind_some]) (fun s => by
   unfold Gw
   simp only
   rw [Zbx, cond_false])
  unfold RS1 at this ⊢
  rw [this, Option.bind_some]
  rcases hto.2.2 with h | h
  ·rw [h]
  rw [Yao h]
 rw [Yal]
 unfold Qb
 rw [k0, cond_false]
 have e1 : Va t = some (⟨1, 0, (t.Words.length : Int), (t.Kids.length : Int), 0, 0, 0, false⟩ : Zy) := by unfold Va; rw [k1, cond_true]
 have e2 : Xq (⟨1, 0, (t.Words.length : Int), (t.Kids.length : Int), 0, 0, 0, false⟩ : Zy) = some ((t.Words.length : Int) + (t.Kids.length : Int), true) := by
  unfold Xq
  simp only
  rw [Zdr rfl, cond_true, Yf (by omega) (by omega)]
 have e3 : (cond (cond ((1 : Int) == 1) (((t.Words.length : Int) + (t.Kids.length : Int)) == 0) false) (some (-1)) (some (IntKind.i64.wrap ((IntKind.i64.wrap ((l.length : Int) - (a : Int))) - 1)))) = some (Zi2 t l a) := by
  unfold Zi2
  rw [Yf (x := (l.length : Int) - (a : Int)) (by omega) (by omega), Yf (by omega) (by omega), Zdr rfl, cond_true]
  by_cases q : t.Words.length + t.Kids.length = 0
  ·rw [Zdr (by omega), cond_true, if_pos q]
  rw [Qq (by omega), cond_false, if_neg q]
 rw [e1, Option.bind_some, e2, Option.bind_some]
 simp only
 rw [e3, Option.bind_some, Yct ho.1 ho.2.1 (by omega) (by omega) (by omega) (by omega) ho.2.2, Option.bind_some, Yb1 ha, Option.bind_some, Z44 ha, Yam]
 unfold Xp
 simp only
 rw [k1, cond_true]
 have l1 := Yv l (a : Int) (Zi2 t l a % 1073741824 * 4 + (t.Words.length : Int) * 4294967296 + (t.Kids.length : Int) * 281474976710656)
 unfold RS1 at l2 len hb hs2 ⊢
 generalize Qy l (a : Int) (Zi2 t l a % 1073741824 * 4 + (t.Words.length : Int) * 4294967296 + (t.Kids.length : Int) * 281474976710656) = m at *
 rw [Zxy (by omega), Ju (by omega), Option.bind_some, Yf (x := (l.length : Int) + _) (by omega) (by omega), Yf (by omega) (by omega), ← l1, Z43 (by omega), ← Z0i (n := t.Kids.length) (by rw [List.length_append]; omega)]
 have := Z8c hk hb hs2 N (k + 1) (by omega) hN2 (fun x hx => by have := Yk hx; omega)
 have e4 : (m.length : Int) + ((min t.Words.length (((N : Nat) : Int) - (m.length : Int)).toNat : Nat) : Int) = ((m.length + t.Words.length : Nat) : Int) := by omega
 have e5 : (m.length : Int) + ((t.Words.length : Int) + (t.Kids.length : Int)) = ((m ++ t.Words ++ List.replicate t.Kids.length 0).length : Int) := by omega
 rw [e4, e5, ← l1] at *
 rw [this]
 rfl
theorem Yb9 {c : Int} (h : 0 ≤ c ∧ c ≤ 6) : Zdu c = some (if c = 6 then 64 else ((wid c : Nat) : Int)) := by
 have : c = 0 ∨ c = 1 ∨ c = 2 ∨ c = 3 ∨ c = 4 ∨ c = 5 ∨ c = 6 := by omega
 rcases this with rfl | rfl | rfl | rfl | rfl | rfl | rfl <;> rfl
def rmL (c : Int) (n : Nat) : Nat := if c = 6 then n else (n * wid c + 63) / 64
theorem Yca {c off : Int} {n : Nat} (h : 0 ≤ c ∧ c ≤ 6) (hn : n ≤ 200000) : Xq (⟨2, off, 0, 0, c, (n : Int), 0, false⟩ : Zy) = some (((rmL c n : Nat) : Int), true) := by
 unfold Xq
 simp only
 rw [Qq (a := 2) (b := 1) (by decide), cond_false, Zdr (a := 2) (b := 2) rfl, cond_true, Qq (a := c) (b := 7) (by omega), cond_false, cond_true, decide_eq_true (by omega), cond_true, decide_eq_true (by omega), cond_true, decide_eq_true (by omega), cond_true, decide_eq_true (by omega), cond_true, Yb9 h, Option.bind_some]
 unfold rmL
 by_cases q : c = 6
 ·rw [if_pos q, if_pos q, Yf (x := (n : Int) * 64) (by omega) (by omega), Yf (x := (n : Int) * 64 + 63) (by omega) (by omega), Int.tdiv_eq_ediv_of_nonneg (by omega), Yf (by omega) (by omega)]
  congr 2
  omega
 rw [if_neg q, if_neg q]
 have hb : wid c ≤ 64 := by rcases c5' (show 0 ≤ c ∧ c ≤ 5 by omega) with rfl | rfl | rfl | rfl | rfl | rfl <;> decide
 have hm : n * wid c ≤ 200000 * 64 := Nat.mul_le_mul hn hb
 rw [← Int.natCast_mul]
 generalize n * wid c = m at hm ⊢
 rw [Yf (x := (m : Int)) (by omega) (by omega), Yf (x := (m : Int) + 63) (by omega) (by omega), Int.tdiv_eq_ediv_of_nonneg (by omega), Yf (by omega) (by omega)]
 congr 1
def hdL (t : Tr) (l : List Int) (a : Nat) : Int := ((l.length : Int) - a - 1) % 1073741824 * 4 + 1 + (t.Kind - 2) * 4294967296 + (t.Kids.length : Int) * 34359738368
theorem Yb8 {t : Tr} (h2 : 2 ≤ t.Kind ∧ t.Kind ≤ 8) : Va t = some (⟨2, 0, 0, 0, t.Kind - 2, (t.Kids.length : Int), 0, false⟩ : Zy) := by
 unfold Va
 rw [Qq (by omega), cond_false, Qq (by omega), cond_false, Yf (by omega) (by omega)]
theorem Zv4 {t : Tr} (h2 : 2 ≤ t.Kind ∧ t.Kind ≤ 8) (hn : t.Kids.length ≤ 200000) {l : List Int} {a N : Nat} (ha : a < l.length) (hl : l.length ≤ 131072) (k : Nat) :
  (Zi (k + 1)).1 ⟨zs l N, (l.length : Int)⟩ (a : Int) t = ((Zi k).2.1 ⟨zs (Qy l (a : Int) (hdL t l a)) N, ((l.length + rmL (t.Kind - 2) t.Kids.length : Nat) : Int)⟩ (l.length : Int) t).bind fun y => some ⟨y.words, y.next⟩ := by
 rw [Yal]
 unfold Qb
 have hr : rmL (t.Kind - 2) t.Kids.length ≤ t.Kids.length := by
  unfold rmL
  split
  ·exact Nat.le_refl _
  exact Zz5 (by omega) _
 rw [Qq (by omega), cond_false, Yb8 h2, Option.bind_some, Yca (by omega) hn, Option.bind_some]
 simp only
 rw [Qq (a := 2) (b := 1) (by decide), cond_false, cond_false, Option.bind_some, Yf (x := (l.length : Int) - (a : Int)) (by omega) (by omega), Yf (by omega) (by omega), Ycs (by omega) (by omega) (by omega) (by omega) (by omega) (by omega), Option.bind_some, Yb1 ha, Option.bind_some, Z44 ha, Yf (by omega) (by omega)]
 rfl
theorem Zvj {t : Tr} (h8 : t.Kind = 8) (hn : t.Kids.length ≤ 200000) (hk : ∀ x ∈ t.Kids, Sim x ∧ 0 ≤ sz x) (l : List Int) (a : Nat) (ha : a < l.length) (hs : (l.length : Int) + sz t ≤ 131072) :
  ly t l a = lyK l.length t.Kids (Qy l (a : Int) (hdL t l a) ++ List.replicate t.Kids.length 0) ∧ ((ly t l a).length : Int) = l.length + sz t ∧ (∀ j, SizeOf.sizeOf t < j → Yh j l (a : Int) t = some (ly t l a)) ∧
  (∀ N k : Nat, (l.length : Int) + sz t ≤ N → N ≤ 131072 → 4 * SizeOf.sizeOf t < k → (Zi k).1 ⟨zs l N, (l.length : Int)⟩ (a : Int) t = some ⟨zs (ly t l a) N, ((ly t l a).length : Int)⟩) := by
 have es : sz t = (t.Kids.length : Int) + (t.Kids.map sz).sum := by rw [Zes, if_neg (by omega), if_neg (by omega), if_pos h8]
 have s0 := Q2 (f := sz) (xs := t.Kids) fun y hy => (hk y hy).2
 have l1 := Yv l (a : Int) (hdL t l a)
 have l2 : (Qy l (a : Int) (hdL t l a) ++ List.replicate t.Kids.length 0).length = l.length + t.Kids.length := by rw [List.length_append, Yv, List.length_replicate]
 have hb : l.length + t.Kids.length ≤ (Qy l (a : Int) (hdL t l a) ++ List.replicate t.Kids.length 0).length := by omega
 have hs2 : ((Qy l (a : Int) (hdL t l a) ++ List.replicate t.Kids.length 0).length : Int) + (t.Kids.map sz).sum ≤ 131072 := by omega
 have len := Zkw hk hb hs2
 refine Zwi (by rw [len]; omega) (fun j hj => ?_) (fun N k hN hN2 hkk => ?_)
 ·unfold Qa
  rw [Qq (by omega), cond_false, Qq (by omega), cond_false, Zdr h8, cond_true, Zd1 (x := (t.Kids.length : Int)) (by omega) (by omega), Zd1 (x := 8 * _) (by omega) (by omega), Zd1 (by omega) (by omega), Zru (by omega) (by omega) (by omega) (by omega) (by decide) (by decide) (by omega) (by omega), Option.bind_some, Zvc ha, Option.bind_some]
  have ev : ((l.length : Int) - (a : Int) - 1) % 1073741824 * 4 + 1 + (6 + 8 * (t.Kids.length : Int)) * 4294967296 = hdL t l a := by unfold hdL; rw [h8]; omega
  rw [ev, Z3u (by omega), Option.bind_some]
  have := Z8d hk hb hs2 j (Gx (Yh j) l t) (fun x hx => by have := Yk hx; omega) (fun i s x s' hi hx hm hq => by
   unfold Gx
   simp only
   have e : IntKind.i64.wrap ((l.length : Int) + (i : Int)) = ((l.length + i : Nat) : Int) := by rw [Yf (by omega) (by omega)]; omega
   rw [Zb4 hi, cond_true, Yo hx, Option.bind_some, e, hq, Option.bind_some]) (fun s => by
   unfold Gx
   simp only
   rw [Zbx, cond_false])
  rw [this, Option.bind_some]
 rw [Zv4 (by omega) hn ha (by omega), Yam]
 unfold Xp
 simp only
 rw [Qq (by omega), cond_false, Zdr h8, cond_true]
 have e0 : rmL (t.Kind - 2) t.Kids.length = t.Kids.length := by unfold rmL; rw [if_pos (by omega)]
 have := Z8c hk hb hs2 N (k + 1) (by omega) hN2 (fun x hx => by have := Yk hx; omega)
 rw [Z0i (by omega), l2] at this
 rw [e0, this]
 rfl
theorem Z1e {t : Tr} (h2 : 2 ≤ t.Kind ∧ t.Kind ≤ 7) (hn : t.Kids.length ≤ 200000) (hat : ∀ k ∈ t.Kids, ∃ w, k.Words = [w] ∧ 0 ≤ w ∧ w < 18446744073709551616 ∧ Zbb (t.Kind - 2) w = true) (l : List Int) (a : Nat) (ha : a < l.length) (hs : (l.length : Int) + sz t ≤ 131072) :
  ly t l a = Qy l (a : Int) (hdL t l a) ++ Zgh (t.Kind - 2) (ato t) ∧ ((ly t l a).length : Int) = l.length + sz t ∧ (∀ j, SizeOf.sizeOf t < j → Yh j l (a : Int) t = some (ly t l a)) ∧
  (∀ N k : Nat, (l.length : Int) + sz t ≤ N → N ≤ 131072 → 4 * SizeOf.sizeOf t < k → (Zi k).1 ⟨zs l N, (l.length : Int)⟩ (a : Int) t = some ⟨zs (ly t l a) N, ((ly t l a).length : Int)⟩) := by
 have es : sz t = ((rmL (t.Kind - 2) t.Kids.length : Nat) : Int) := by
  rw [Zes, if_neg (by omega), if_pos h2]
  unfold Znd rmL
  rw [if_neg (by omega)]
 have hr : rmL (t.Kind - 2) t.Kids.length ≤ t.Kids.length := by
  unfold rmL
  rw [if_neg (by omega)]
  exact Zz5 (by omega) _
 have l1 := Yv l (a : Int) (hdL t l a)
 have hp : (Zgh (t.Kind - 2) (ato t)).length = rmL (t.Kind - 2) t.Kids.length := by
  have := (Z0g (c := t.Kind - 2) (by omega) (ns := ato t) (by rw [Zog]; omega) (fun n hn => by
   obtain ⟨k, hk, rfl⟩ := List.mem_map.1 hn
   obtain ⟨w, hw, h0, _, h1⟩ := hat k hk
   rw [hw]
   exact ⟨h0, h1⟩)).2
  rw [this, Zog]
  unfold rmL
  rw [if_neg (by omega)]
 have l2 : (Qy l (a : Int) (hdL t l a) ++ Zgh (t.Kind - 2) (ato t)).length = l.length + rmL (t.Kind - 2) t.Kids.length := by rw [List.length_append, Yv, hp]
 refine Zwi (by rw [l2]; omega) (fun j hj => ?_) (fun N k hN hN2 hkk => ?_)
 ·unfold Qa
  rw [Qq (by omega), cond_false, Qq (by omega), cond_false, Qq (by omega), cond_false, Qq (by omega), cond_false, Z7s (by omega) (fun k hk => by obtain ⟨w, a, b, _, c⟩ := hat k hk; exact ⟨w, a, b, c⟩), Option.bind_some, Yf (x := t.Kind - 2) (by omega) (by omega), Z89 (by omega) (by rw [Zog]; omega) (fun n hn => by
   obtain ⟨k, hk, rfl⟩ := List.mem_map.1 hn
   obtain ⟨w, hw, h0, h1, h2⟩ := hat k hk
   rw [hw]
   exact ⟨h0, h1, h2⟩), Option.bind_some, Zd1 (x := t.Kind - 2) (by omega) (by omega), Zd1 (x := (t.Kids.length : Int)) (by omega) (by omega), Zd1 (x := 8 * _) (by omega) (by omega), Zd1 (by omega) (by omega), Zru (by omega) (by omega) (by omega) (by omega) (by decide) (by decide) (by omega) (by omega), Option.bind_some, Zvc ha, Option.bind_some]
  have ev : ((l.length : Int) - (a : Int) - 1) % 1073741824 * 4 + 1 + (t.Kind - 2 + 8 * (t.Kids.length : Int)) * 4294967296 = hdL t l a := by unfold hdL; omega
  simp only
  rw [ev, V9 (by omega) (by omega)]
  rfl
 rw [Zv4 (by omega) hn ha (by omega), Yam]
 unfold Xp
 simp only
 rw [Qq (by omega), cond_false, Qq (by omega), cond_false, Qq (by omega), cond_false, Zxy (by omega), Ju (by omega), Option.bind_some, Z4f h2 (by omega) (fun k hk => by obtain ⟨w, a, b, _, c⟩ := hat k hk; exact ⟨w, a, b, c⟩), Option.bind_some, Option.bind_some]
 have := Z43 (l := Qy l (a : Int) (hdL t l a)) (ys := Zgh (t.Kind - 2) (ato t)) (N := N) (by omega)
 rw [l1] at this
 simp only
 rw [this, l2]
theorem Ycg {l : List Int} {N : Nat} (v : Int) (h : l.length < N) : Qy (zs l N) (l.length : Int) v = zs (l ++ [v]) N := by
 unfold zs Qy
 rw [Int.toNat_natCast, List.set_append_right _ _ (Nat.le_refl _), Nat.sub_self, List.length_append, List.length_singleton, List.append_assoc]
 congr 1
 obtain ⟨m, hm⟩ : ∃ m, N - l.length = m + 1 := ⟨N - l.length - 1, by omega⟩
 have : N - (l.length + 1) = m := by omega
 rw [hm, this, List.replicate_succ, List.set_cons_zero]
 rfl
def cpW (W K : Nat) (ks : List Tr) (l : List Int) : List Int := Ge (fun s _ x => s ++ x.Words ++ List.replicate (W + K - x.Words.length) 0) l 0 ks
noncomputable def cpK (W K b : Nat) (ks : List Tr) (l : List Int) : List Int := Ge (fun s i x => lyK (b + i * (W + K) + W) x.Kids s) l 0 ks
def hd9 (t : Tr) (W K : Nat) (l : List Int) (a : Nat) : Int := ((l.length : Int) - a - 1) % 1073741824 * 4 + 1 + 7 * 4294967296 + ((t.Kids.length * (W + K) : Nat) : Int) * 34359738368
def Zig (t : Tr) (W K : Nat) : Int := (t.Kids.length : Int) * 4 + (W : Int) * 4294967296 + (K : Int) * 281474976710656
theorem Km {i n m : Nat} (h : i < n) : i * m + m ≤ n * m := by
 have := Nat.mul_le_mul_right m (show i + 1 ≤ n by omega)
 rwa [Nat.add_mul, Nat.one_mul] at this
theorem Z5d {W K : Nat} {ks : List Tr} (hw : ∀ x ∈ ks, x.Words.length ≤ W) (l : List Int) : (cpW W K ks l).length = l.length + ks.length * (W + K) :=
 Zul (f := fun (s : List Int) _ (x : Tr) => s ++ x.Words ++ List.replicate (W + K - x.Words.length) 0) (fun i s => s.length = l.length + i * (W + K)) ks (fun i s x hi hx hm hI => by
  have := hw x hm
  rw [List.length_append, List.length_append, List.length_replicate, hI, Nat.add_mul, Nat.one_mul]
  omega) (s := l) (by omega)
def szK (k : Tr) : Int := (k.Kids.map sz).sum
theorem Z1d {t : Tr} (h9 : t.Kind = 9) (hn : t.Kids.length ≤ 200000) {W K : Nat} (hf : fr t.Kids = ((W : Int), (K : Int))) (hW : W ≤ 65535) (hK : K ≤ 65535) (hwk : ∀ x ∈ t.Kids, x.Words.length ≤ W ∧ x.Kids.length ≤ K)
  (hk : ∀ x ∈ t.Kids, ∀ y ∈ x.Kids, Sim y ∧ 0 ≤ sz y) (es : sz t = 1 + ((t.Kids.length * (W + K) : Nat) : Int) + (t.Kids.map szK).sum) (l : List Int) (a : Nat) (ha : a < l.length) (hs : (l.length : Int) + sz t ≤ 131072) :
  ly t l a = cpK W K (l.length + 1) t.Kids (cpW W K t.Kids (Qy l (a : Int) (hd9 t W K l a) ++ [Zig t W K])) ∧ ((ly t l a).length : Int) = l.length + sz t ∧ (∀ j, SizeOf.sizeOf t < j → Yh j l (a : Int) t = some (ly t l a)) ∧
  (∀ N k : Nat, (l.length : Int) + sz t ≤ N → N ≤ 131072 → 4 * SizeOf.sizeOf t < k → (Zi k).1 ⟨zs l N, (l.length : Int)⟩ (a : Int) t = some ⟨zs (ly t l a) N, ((ly t l a).length : Int)⟩) := by
 have hq : ∀ x ∈ t.Kids, 0 ≤ szK x := fun x hx => Q2 fun y hy => (hk x hx y hy).2
 have s0 := Q2 (f := szK) (xs := t.Kids) hq
 have hc : t.Kids.length * (W + K) ≤ 131072 := by omega
 have ec : IntKind.i64.wrap ((t.Kids.length : Int) * (IntKind.i64.wrap ((W : Int) + (K : Int)))) = ((t.Kids.length * (W + K) : Nat) : Int) := by
  rw [Yf (x := (W : Int) + _) (by omega) (by omega), ← Int.natCast_add, ← Int.natCast_mul, Yf (by omega) (by omega)]
 have ei : ∀ i : Nat, i < t.Kids.length → IntKind.i64.wrap ((IntKind.i64.wrap ((l.length : Int) + 1)) + (IntKind.i64.wrap ((i : Int) * (IntKind.i64.wrap ((W : Int) + (K : Int)))))) = ((l.length + 1 + i * (W + K) : Nat) : Int) := fun i hi => by
  have := Km (m := W + K) hi
  rw [Yf (x := (W : Int) + _) (by omega) (by omega), ← Int.natCast_add, ← Int.natCast_mul, Yf (x := (l.length : Int) + 1) (by omega) (by omega), Yf (x := ((i * (W + K) : Nat) : Int)) (by omega) (by omega), Yf (by omega) (by omega)]
  omega
 have l1 := Yv l (a : Int) (hd9 t W K l a)
 have l3 : (Qy l (a : Int) (hd9 t W K l a) ++ [Zig t W K]).length = l.length + 1 := by rw [List.length_append, l1]; rfl
 have l4 : (cpW W K t.Kids (Qy l (a : Int) (hd9 t W K l a) ++ [Zig t W K])).length = l.length + 1 + t.Kids.length * (W + K) := by rw [Z5d (fun x hx => (hwk x hx).1), l3]
 generalize hL4 : cpW W K t.Kids (Qy l (a : Int) (hd9 t W K l a) ++ [Zig t W K]) = L4 at *
 have kst : ∀ (i : Nat) (s : List Int) (x : Tr), i < t.Kids.length → t.Kids[i]? = some x → x ∈ t.Kids → (s.length : Int) = L4.length + ((t.Kids.take i).map szK).sum →
   l.length + 1 + i * (W + K) + W + x.Kids.length ≤ s.length ∧ (s.length : Int) + (x.Kids.map sz).sum ≤ l.length + sz t ∧ ((lyK (l.length + 1 + i * (W + K) + W) x.Kids s).length : Int) = L4.length + ((t.Kids.take (i + 1)).map szK).sum := fun i s x hi hx hm hI => by
  obtain ⟨h1, h2⟩ := Z2b (f := szK) hx hq
  have h3 := Q2 (f := szK) (xs := t.Kids.take i) fun y hy => hq y (List.mem_of_mem_take hy)
  have h4 := Km (m := W + K) hi
  have h5 := (hwk x hm).2
  have h8 : szK x = (x.Kids.map sz).sum := rfl
  have h6 : l.length + 1 + i * (W + K) + W + x.Kids.length ≤ s.length := by omega
  have h7 := Zkw (ks := x.Kids) (hk x hm) h6 (by omega)
  exact ⟨h6, by omega, by omega⟩
 have len : ((cpK W K (l.length + 1) t.Kids L4).length : Int) = l.length + sz t := by
  have := Zul (f := fun (s : List Int) i (x : Tr) => lyK (l.length + 1 + i * (W + K) + W) x.Kids s) (fun i s => (s.length : Int) = L4.length + ((t.Kids.take i).map szK).sum) t.Kids (fun i s x hi hx hm hI => (kst i s x hi hx hm hI).2.2) (s := L4) (by simp)
  rw [List.take_length] at this
  unfold cpK
  omega
 refine Zwi len (fun j hj => ?_) (fun N k hN hN2 hkk => ?_)
 ·unfold Qa
  rw [Qq (by omega), cond_false, Qq (by omega), cond_false, Qq (by omega), cond_false, Zdr h9, cond_true, Ztv (by omega), Option.bind_some, hf]
  simp only
  rw [ec, Zd1 (x := ((t.Kids.length * (W + K) : Nat) : Int)) (by omega) (by omega), Zd1 (x := 8 * _) (by omega) (by omega), Zd1 (x := 7 + _) (by omega) (by omega), Zru (by omega) (by omega) (by omega) (by omega) (by decide) (by decide) (by omega) (by omega), Option.bind_some, Zvc ha, Option.bind_some]
  have ev : ((l.length : Int) - (a : Int) - 1) % 1073741824 * 4 + 1 + (7 + 8 * ((t.Kids.length * (W + K) : Nat) : Int)) * 4294967296 = hd9 t W K l a := by unfold hd9; omega
  rw [ev, Yf (x := 4 * (t.Kids.length : Int)) (by omega) (by omega), Zd1 (x := 4 * (t.Kids.length : Int)) (by omega) (by omega), Zd1 (x := (W : Int)) (by omega) (by omega), Zd1 (x := (K : Int)) (by omega) (by omega), Zd1 (x := 65536 * _) (by omega) (by omega), Zd1 (x := (W : Int) + _) (by omega) (by omega), Zd1 (x := 4294967296 * _) (by omega) (by omega), Zd1 (x := 4 * (t.Kids.length : Int) + _) (by omega) (by omega)]
  have et : 4 * (t.Kids.length : Int) + 4294967296 * ((W : Int) + 65536 * (K : Int)) = Zig t W K := by unfold Zig; omega
  rw [et, V9 (by rw [l1]; simp only [List.length_singleton]; omega) (by rw [l1]; simp only [List.length_singleton]; omega), Option.bind_some]
  have a1 := (Zgc t.Kids (fun i s => (i, s)) (fun s => s) (Gy t ((W : Int), (K : Int))) (fun (s : List Int) _ (x : Tr) => s ++ x.Words ++ List.replicate (W + K - x.Words.length) 0) (fun i s => s.length = l.length + 1 + i * (W + K)) (by omega) (fun i s x hi hx hm hI => by
   have h5 := (hwk x hm).1
   have h4 := Km (m := W + K) hi
   refine ⟨?_, by rw [List.length_append, List.length_append, List.length_replicate, hI, Nat.add_mul, Nat.one_mul]; omega⟩
   unfold Gy
   simp only
   have e : IntKind.i64.wrap (IntKind.i64.wrap ((W : Int) + (K : Int)) - (x.Words.length : Int)) = ((W + K - x.Words.length : Nat) : Int) := by rw [Yf (x := (W : Int) + _) (by omega) (by omega), Yf (by omega) (by omega)]; omega
   rw [Zb4 hi, cond_true, Yo hx, Option.bind_some, V9 (by omega) (by omega), Option.bind_some, Option.bind_some, e, Z3u (by rw [List.length_append]; omega), Option.bind_some]) (fun s _ => by
   unfold Gy
   simp only
   rw [Zbx, cond_false]) (Qy l (a : Int) (hd9 t W K l a) ++ [Zig t W K]) (by rw [l3]; omega)).1
  unfold cpW at hL4
  rw [a1, Option.bind_some, hL4]
  have a2 := (Zgc t.Kids (fun i s => (i, s)) (fun s => s) (Gz (Yh j) l t ((W : Int), (K : Int))) (fun (s : List Int) i (x : Tr) => lyK (l.length + 1 + i * (W + K) + W) x.Kids s) (fun i s => (s.length : Int) = L4.length + ((t.Kids.take i).map szK).sum) (by omega) (fun i s x hi hx hm hI => by
   obtain ⟨b1, b2, b3⟩ := kst i s x hi hx hm hI
   refine ⟨?_, b3⟩
   have b5 : 0 ≤ (x.Kids.map sz).sum := hq x hm
   have b4 := Z8d (ks := x.Kids) (hk x hm) b1 (by omega) j (G0 (Yh j) l t ((W : Int), (K : Int)) ((i : Int), s)) (fun y hy => by have := Yk hm; have := Yk hy; omega) (fun i' s' y s'' hi' hy hm' hq => by
    unfold G0
    simp only
    have e : IntKind.i64.wrap (IntKind.i64.wrap (((l.length + 1 + i * (W + K) : Nat) : Int) + (W : Int)) + (i' : Int)) = ((l.length + 1 + i * (W + K) + W + i' : Nat) : Int) := by rw [Yf (x := _ + (W : Int)) (by omega) (by omega), Yf (by omega) (by omega)]; omega
    rw [Yo hx, Option.bind_some, Zb4 hi', cond_true, Option.bind_some, Yo hy, Option.bind_some, ei i hi, e, hq, Option.bind_some]) (fun s' => by
    unfold G0
    simp only
    rw [Yo hx, Option.bind_some, Zbx, cond_false])
   unfold Gz
   simp only
   rw [Zb4 hi, cond_true, b4, Option.bind_some]) (fun s _ => by
   unfold Gz
   simp only
   rw [Zbx, cond_false]) L4 (by simp)).1
  rw [a2]
  rfl
 rw [Yal]
 unfold Qb
 have e1 : Va t = some (⟨2, 0, 0, 0, 7, ((t.Kids.length * (W + K) : Nat) : Int), 0, false⟩ : Zy) := by
  unfold Va
  rw [Qq (by omega), cond_false, Zdr h9, cond_true, Zu8 (by omega), Option.bind_some, hf]
  simp only
  rw [ec]
 have e2 : Xq (⟨2, 0, 0, 0, 7, ((t.Kids.length * (W + K) : Nat) : Int), 0, false⟩ : Zy) = some (((t.Kids.length * (W + K) : Nat) : Int) + 1, true) := by
  unfold Xq
  simp only
  rw [Qq (a := 2) (b := 1) (by decide), cond_false, Zdr (a := 2) (b := 2) rfl, cond_true, Zdr (a := 7) (b := 7) rfl, cond_true, Yf (by omega) (by omega)]
 rw [Qq (by omega), cond_false, e1, Option.bind_some, e2, Option.bind_some]
 simp only
 rw [Qq (a := 2) (b := 1) (by decide), cond_false, cond_false, Option.bind_some, Yf (x := (l.length : Int) - (a : Int)) (by omega) (by omega), Yf (by omega) (by omega), Ycs (by omega) (by omega) (by omega) (by omega) (by omega) (by omega), Option.bind_some, Yb1 ha, Option.bind_some, Z44 ha, Yf (by omega) (by omega)]
 have ev : ((l.length : Int) - (a : Int) - 1) % 1073741824 * 4 + 1 + 7 * 4294967296 + ((t.Kids.length * (W + K) : Nat) : Int) * 34359738368 = hd9 t W K l a := by unfold hd9; rfl
 simp only
 rw [ev, Yam]
 unfold Xp
 simp only
 rw [Qq (by omega), cond_false, Qq (by omega), cond_false, Zdr h9, cond_true, Yea]
 unfold Ks
 rw [Zu8 (by omega), Option.bind_some, hf]
 simp only
 have ez : (cond (decide (0 < (t.Kids.length : Int))) ((Vb (⟨1, (t.Kids.length : Int), (W : Int), (K : Int), 0, 0, 0, false⟩ : Zy)).bind fun y4 => (Y5 (zs (Qy l (a : Int) (hd9 t W K l a)) N) (l.length : Int)).bind fun x5 => some (Qy (zs (Qy l (a : Int) (hd9 t W K l a)) N) (l.length : Int) y4.1)) (some (zs (Qy l (a : Int) (hd9 t W K l a)) N))) = some (zs (Qy l (a : Int) (hd9 t W K l a) ++ [Zig t W K]) N) := by
  by_cases q : 0 < t.Kids.length
  ·have g : Y5 (zs (Qy l (a : Int) (hd9 t W K l a)) N) (l.length : Int) = some (zs (Qy l (a : Int) (hd9 t W K l a)) N)[l.length]! := by
    have : l.length < (zs (Qy l (a : Int) (hd9 t W K l a)) N).length := by rw [Zxy (by omega)]; omega
    rw [Zvc this, List.getElem!_eq_getElem?_getD, List.getElem?_eq_getElem this]
    rfl
   rw [decide_eq_true (by omega), cond_true, Yct (by omega) (by omega) (by omega) (by omega) (by omega) (by omega) (by omega), Option.bind_some, g, Option.bind_some]
   have := Ycg (N := N) (l := Qy l (a : Int) (hd9 t W K l a)) (Zig t W K) (by omega)
   rw [l1] at this
   rw [← this]
   congr 2
   unfold Zig
   omega
  have q0 : t.Kids = [] := List.length_eq_zero_iff.1 (by omega)
  rw [q0] at hf
  have hW0 : W = 0 ∧ K = 0 := by
   have : ((0 : Int), (0 : Int)) = ((W : Int), (K : Int)) := hf
   rw [Prod.mk.injEq] at this
   omega
  have t0 : Zig t W K = 0 := by unfold Zig; rw [hW0.1, hW0.2, q0]; rfl
  rw [decide_eq_false (by omega), cond_false, t0]
  have := Z0i (N := N) (n := 1) (l := Qy l (a : Int) (hd9 t W K l a)) (by omega)
  rw [List.replicate_one] at this
  rw [this]
 rw [ez, Option.bind_some]
 have a1 := (Zgc t.Kids (fun i s => (i, zs s N)) (fun s => zs s N) (Jd (l.length : Int) t ((W : Int), (K : Int))) (fun (s : List Int) _ (x : Tr) => s ++ x.Words ++ List.replicate (W + K - x.Words.length) 0) (fun i s => s.length = l.length + 1 + i * (W + K)) (by omega) (fun i s x hi hx hm hI => by
  have h5 := (hwk x hm).1
  have h4 := Km (m := W + K) hi
  refine ⟨?_, by rw [List.length_append, List.length_append, List.length_replicate, hI, Nat.add_mul, Nat.one_mul]; omega⟩
  unfold Jd
  simp only
  rw [Zb4 hi, cond_true, Yo hx, Option.bind_some, ei i hi, Zxy (by omega), Ju (by omega), Option.bind_some, ← hI, Z43 (by omega), Z0i (by rw [List.length_append]; omega)]) (fun s _ => by
  unfold Jd
  simp only
  rw [Zbx, cond_false]) (Qy l (a : Int) (hd9 t W K l a) ++ [Zig t W K]) (by rw [l3]; omega)).1
 unfold cpW at hL4
 rw [a1, Option.bind_some, hL4]
 have a2 := (Zgc t.Kids (fun i s => (i, zs s N, (s.length : Int))) (fun s => (zs s N, (s.length : Int))) (Je (Zi (k + 1)).2.2.1 (l.length : Int) t ((W : Int), (K : Int))) (fun (s : List Int) i (x : Tr) => lyK (l.length + 1 + i * (W + K) + W) x.Kids s) (fun i s => (s.length : Int) = L4.length + ((t.Kids.take i).map szK).sum) (by omega) (fun i s x hi hx hm hI => by
  obtain ⟨b1, b2, b3⟩ := kst i s x hi hx hm hI
  refine ⟨?_, b3⟩
  have b5 : 0 ≤ (x.Kids.map sz).sum := hq x hm
  have h4 := Km (m := W + K) hi
  have b4 := Z8c (ks := x.Kids) (hk x hm) b1 (by omega) N k (by omega) hN2 (fun y hy => by have := Yk hm; have := Yk hy; omega)
  unfold Je
  simp only
  have e : IntKind.i64.wrap (((l.length + 1 + i * (W + K) : Nat) : Int) + (W : Int)) = ((l.length + 1 + i * (W + K) + W : Nat) : Int) := by rw [Yf (by omega) (by omega)]; omega
  rw [Zb4 hi, cond_true, Yo hx, Option.bind_some, ei i hi, e, b4, Option.bind_some]) (fun s _ => by
  unfold Je
  simp only
  rw [Zbx, cond_false]) L4 (by simp)).1
 have e6 : (l.length : Int) + (((t.Kids.length * (W + K) : Nat) : Int) + 1) = (L4.length : Int) := by omega
 rw [e6, a2]
 rfl
theorem Zmk {t : Tr} (h0 : t.Kind = 0) (l : List Int) (a : Nat) : ly t l a = l := by
 unfold ly
 show Option.getD (Qa (Yh (SizeOf.sizeOf t)) l (a : Int) t) [] = l
 unfold Qa
 rw [Zdr h0, cond_true]
 rfl
theorem Zcq {kind : Int} {k : Tr} (h : ¬ (2 ≤ kind ∧ kind ≤ 7)) (hk : okk kind k = true) : ¬ k.Kind = 10 ∧ (kind = 9 → k.Kind = 1) := by
 unfold okk at hk
 rw [if_neg h, Bool.and_eq_true, bne_iff_ne, Bool.or_eq_true, bne_iff_ne, beq_iff_eq] at hk
 exact ⟨hk.1, fun h9 => by rcases hk.2 with h | h; exact absurd h9 h; exact h⟩
theorem Z1r {kind : Int} {k : Tr} {d : Nat} (h : 2 ≤ kind ∧ kind ≤ 7) (hb : Bd k) (hr : rt k d = true) (hk : okk kind k = true) : ∃ w, k.Words = [w] ∧ 0 ≤ w ∧ w < 18446744073709551616 ∧ Zbb (kind - 2) w = true := by
 unfold okk at hk
 rw [if_pos h, Bool.and_eq_true, beq_iff_eq] at hk
 obtain ⟨w, hw⟩ := Zot hk.1 hr
 have hu := hb.u w (by rw [hw]; exact .head _)
 refine ⟨w, hw, hu.1, hu.2, ?_⟩
 have := hk.2
 rwa [hw] at this
structure Fine (t : Tr) (d : Nat) : Prop where
 bd : Bd t
 rt : rt t d = true
 pt : pt t ≤ 200000
theorem Fine.kid {t x : Tr} {d : Nat} (h : Fine t d) (hx : x ∈ t.Kids) : Fine x (d - 1) := ⟨h.bd.all x hx, (Za7 h.rt).2.2.2.2 x hx, by have := h.pt; have := Zz1 hx; omega⟩
theorem Zg6 {t : Tr} {d : Nat} (h : Fine t d) (h9 : t.Kind = 9) : ∃ W K : Nat, fr t.Kids = ((W : Int), (K : Int)) ∧ W ≤ 65535 ∧ K ≤ 65535 ∧ (∀ x ∈ t.Kids, x.Words.length ≤ W ∧ x.Kids.length ≤ K) ∧ sz t = 1 + ((t.Kids.length * (W + K) : Nat) : Int) + (t.Kids.map szK).sum := by
 have p := h.pt
 have pk := Zro t
 obtain ⟨e, _, _, f0, f1, f2, f3, f4⟩ := Ybk (l := t.Kids) (by omega) (fun x hx => by
  obtain ⟨r1, r2⟩ := (Uy h.rt (by omega) (by omega)).2.2.2 x hx
  have k1 := (Zcq (by omega) r2).2 h9
  obtain ⟨a1, a2, _⟩ := Uy r1 (by omega) (by omega)
  have := a2 k1
  omega)
 obtain ⟨W, hW⟩ := Int.eq_ofNat_of_zero_le f0
 obtain ⟨K, hK⟩ := Int.eq_ofNat_of_zero_le f2
 rw [hW] at f1
 rw [hK] at f3
 refine ⟨W, K, Prod.ext hW hK, by omega, by omega, fun x hx => ?_, ?_⟩
 ·have := f4 x hx
  rw [hW, hK] at this
  omega
 rw [Zes, if_neg (by omega), if_neg (by omega), if_neg (by omega), if_pos h9, e, hW, hK, ← Int.natCast_add, ← Int.natCast_mul]
 rfl
theorem Zrz : ∀ (n : Nat) (t : Tr) (d : Nat), SizeOf.sizeOf t < n → Fine t d → ¬ t.Kind = 10 → Sim t
 | 0, _, _, h, _, _ => by omega
 | n + 1, t, d, h, hf, h10 => by
  have p := hf.pt
  have pk := Zro t
  obtain ⟨g1, g2, _⟩ := Za7 hf.rt
  by_cases h0 : t.Kind = 0
  ·exact Z19 h0
  obtain ⟨i1, i2, i3, i4⟩ := Uy hf.rt h0 h10
  have hk : ¬ (2 ≤ t.Kind ∧ t.Kind ≤ 7) → ∀ x ∈ t.Kids, Sim x ∧ 0 ≤ sz x := fun hn x hx =>
   ⟨Zrz n x (d - 1) (by have := Yk hx; omega) (hf.kid hx) (Zcq hn (i4 x hx).2).1, (Zwk (hf.kid hx).rt (hf.kid hx).pt).1⟩
  by_cases h1 : t.Kind = 1
  ·exact fun l a ha hs => (Zph h1 i1 (i2 h1) (hk (by omega)) l a ha hs).2
  by_cases h2 : 2 ≤ t.Kind ∧ t.Kind ≤ 7
  ·exact fun l a ha hs => (Z1e h2 (by omega) (fun k hk => Z1r h2 (hf.bd.all k hk) (hf.kid hk).rt (i4 k hk).2) l a ha hs).2
  by_cases h8 : t.Kind = 8
  ·exact fun l a ha hs => (Zvj h8 (by omega) (hk (by omega)) l a ha hs).2
  have h9 : t.Kind = 9 := by omega
  obtain ⟨W, K, e1, e2, e3, e4, e5⟩ := Zg6 hf h9
  exact fun l a ha hs => (Z1d h9 (by omega) e1 e2 e3 e4 (fun x hx y hy => by
   have k1 := (Zcq (by omega) (i4 x hx).2).2 h9
   have j4 := (Uy (hf.kid hx).rt (by omega) (by omega)).2.2.2 y hy
   have fy := (hf.kid hx).kid hy
   exact ⟨Zrz n y (d - 1 - 1) (by have := Yk hx; have := Yk hy; omega) fy (Zcq (by omega) j4.2).1, (Zwk fy.rt fy.pt).1⟩) e5 l a ha hs).2
theorem Fine.nrm {t : Tr} {d : Nat} (h : Fine t d) : Fine (nrm t) d := ⟨h.bd.nrm, rtN h.rt, Nat.le_trans (Zz3 _ t (Nat.lt_succ_self _)) h.pt⟩
noncomputable def enc (t : Tr) (most : Int) : List Int × Bool := if t.Kind = 10 ∨ rt t 64 = false then ([], false) else if most ≤ sz (nrm t) ∨ 131072 ≤ sz (nrm t) then ([], false) else (ly (nrm t) [0] 0, true)
theorem Ybm {t : Tr} (hf : Fine t 64) (h10 : ¬ t.Kind = 10) (hs : sz t < 131072) : ((ly t [0] 0).length : Int) = 1 + sz t ∧ Zju [0] 0 t = some (ly t [0] 0) ∧ (Zgl 8 (IntKind.i64.wrap (1 + sz t)) (0 : Int)).bind (fun l11 => (Zaa (⟨l11, 1⟩ : Ze) 0 t).bind fun y13 => some (y13.words, true)) = some (ly t [0] 0, true) := by
 have s0 := (Zwk hf.rt hf.pt).1
 obtain ⟨a, b, c⟩ := Zrz _ t 64 (Nat.lt_succ_self _) hf h10 [0] 0 (by decide) (by simp only [List.length_singleton]; omega)
 simp only [List.length_singleton] at a c
 refine ⟨by omega, Zeb (SizeOf.sizeOf t + 1) fun k hk => b k (by omega), ?_⟩
 have e : Zaa (⟨zs [0] (1 + sz t).toNat, 1⟩ : Ze) 0 t = some ⟨zs (ly t [0] 0) (1 + sz t).toNat, ((ly t [0] 0).length : Int)⟩ := Zeb (4 * SizeOf.sizeOf t + 1) fun k hk => c (1 + sz t).toNat k (by omega) (by omega) (by omega)
 have e2 : List.replicate (1 + sz t).toNat (0 : Int) = zs [0] (1 + sz t).toNat := by
  unfold zs
  obtain ⟨m, hm⟩ : ∃ m, (1 + sz t).toNat = m + 1 := ⟨(sz t).toNat, by omega⟩
  rw [hm, List.replicate_succ]
  rfl
 have e3 : zs (ly t [0] 0) (1 + sz t).toNat = ly t [0] 0 := by
  unfold zs
  rw [show (1 + sz t).toNat - (ly t [0] 0).length = 0 by omega, List.replicate_zero, List.append_nil]
 rw [Yf (by omega) (by omega), Zms (by omega) (by omega) (by omega), Option.bind_some, e2, e, Option.bind_some, e3]
theorem Zte {t : Tr} (hb : Bd t) (hp : pt t ≤ 200000) (most : Int) : Up t most = some (enc t most) ∧ Zgk t most = some (enc t most) ∧ (((enc t most).1.length : Nat) : Int) ≤ 131072 := by
 unfold Up Zgk enc
 rw [Z87 hb, Option.bind_some, show ((64 : Int)) = ((64 : Nat) : Int) from rfl, Zyw hb (Nat.le_refl _), Option.bind_some]
 by_cases h10 : t.Kind = 10
 ·rw [if_pos (.inl h10), Zdr h10]
  simp
 cases hr : rt t 64 with
 | false =>
  rw [if_pos (.inr rfl), Qq h10]
  simp
 | true =>
  have hf : Fine (nrm t) 64 := Fine.nrm ⟨hb, hr, hp⟩
  have hn := Zwk hf.rt hf.pt
  rw [if_neg (by simp [h10]), Qq h10]
  simp only [cond_false, cond_true, Bool.not_true, Option.bind_some]
  rw [Zzr hb, Z14 hb, Option.bind_some, Option.bind_some, Z94 (d := 64) hb.nrm hf.rt, Option.bind_some, Zol, Z16 hf.rt, Option.bind_some, Option.bind_some, Yf (x := sz (nrm t)) (by omega) (by omega), Yf (x := 1 + sz (nrm t)) (by omega) (by omega)]
  by_cases q : most ≤ sz (nrm t) ∨ 131072 ≤ sz (nrm t)
  ·rw [if_pos q]
   have q1 : (cond (decide (most < 1 + sz (nrm t))) true (decide (131072 < 1 + sz (nrm t)))) = true := by
    by_cases q2 : most ≤ sz (nrm t)
    ·rw [decide_eq_true (by omega), cond_true]
    rw [decide_eq_false (by omega), cond_false, decide_eq_true (by omega)]
   have q2 : (cond (decide (most ≤ sz (nrm t))) (some true) (some (cond (decide (most ≤ sz (nrm t))) true (decide (131072 ≤ sz (nrm t)))))) = some true := by
    by_cases q2 : most ≤ sz (nrm t)
    ·rw [decide_eq_true q2, cond_true]
    rw [decide_eq_false q2, cond_false, cond_false, decide_eq_true (by omega)]
   rw [q1, q2, cond_true, Option.bind_some, cond_true]
   exact ⟨rfl, rfl, by decide⟩
  rw [if_neg q]
  obtain ⟨a, b, c⟩ := Ybm hf (by rw [Zeh]; exact h10) (by omega)
  rw [Yf (x := 1 + sz (nrm t)) (by omega) (by omega)] at c
  have q1 : (cond (decide (most < 1 + sz (nrm t))) true (decide (131072 < 1 + sz (nrm t)))) = false := by
   rw [decide_eq_false (by omega), cond_false, decide_eq_false (by omega)]
  have q2 : (cond (decide (most ≤ sz (nrm t))) (some true) (some (cond (decide (most ≤ sz (nrm t))) true (decide (131072 ≤ sz (nrm t)))))) = some false := by
   rw [decide_eq_false (by omega), cond_false, cond_false, decide_eq_false (by omega)]
  rw [q1, q2, cond_false, Option.bind_some, cond_false, c, b]
  exact ⟨rfl, rfl, by simp only; omega⟩
def T12 : Tr := ⟨1, [5], [⟨8, [], [⟨0, [], []⟩]⟩]⟩
theorem Yco : Bd T12 := by
 have n : Bd ⟨0, [], []⟩ := .mk _ (by decide) (by decide) (fun w hw => by cases hw) (fun k hk => by cases hk)
 have l : Bd ⟨8, [], [⟨0, [], []⟩]⟩ := .mk _ (by decide) (by simp) (fun w hw => by cases hw) (fun k hk => by rw [List.mem_singleton.1 hk]; exact n)
 exact .mk _ (by simp [T12]) (by simp [T12]) (fun w hw => by rw [List.mem_singleton.1 hw]; decide) (fun k hk => by rw [List.mem_singleton.1 hk]; exact l)
theorem Z98 : Qs = some true := by
 have p : pt T12 ≤ 200000 := by simp [T12, Zis]
 have r0 : ∀ d, rt ⟨0, [], []⟩ d = true := fun d => by rw [Zdz]; rfl
 have r8 : rt ⟨8, [], [⟨0, [], []⟩]⟩ 63 = true := by
  rw [Zdz, if_neg (by decide), if_neg (by decide), if_neg (by simp)]
  simp only [List.all_cons, List.all_nil, r0]
  rfl
 have r : rt T12 64 = true := by
  rw [Zdz, if_neg (by decide), if_neg (by decide), if_neg (by simp [T12])]
  simp only [T12, List.all_cons, List.all_nil, r8, Nat.reduceSub]
  rfl
 have nn : nrm T12 = T12 := by simp [T12, Zgd, tr]
 have s : sz T12 = 3 := by simp [T12, Zes]
 have sn : sz ⟨0, [], []⟩ = 0 := by simp [Zes]
 have sl : sz ⟨8, [], [⟨0, [], []⟩]⟩ = 1 := by simp [Zes]
 have f : Fine T12 64 := ⟨Yco, r, p⟩
 have e : enc T12 9 = (ly T12 [0] 0, true) := by
  unfold enc
  rw [if_neg (by rw [r]; simp [T12]), nn, s, if_neg (by decide)]
 have fl : Fine (⟨8, [], [⟨0, [], []⟩]⟩ : Tr) 63 := f.kid (.head _)
 have simn : Sim ⟨0, [], []⟩ := Z19 rfl
 have siml : Sim ⟨8, [], [⟨0, [], []⟩]⟩ := Zrz _ _ 63 (Nat.lt_succ_self _) fl (by decide)
 have e1 := (Zph (t := T12) rfl (by decide) (by decide) (fun x hx => by rw [List.mem_singleton.1 hx]; exact ⟨siml, by rw [sl]; decide⟩) [0] 0 (by decide) (by rw [s]; decide)).1
 have e2 : lyK (([0] : List Int).length + T12.Words.length) T12.Kids (RS1 T12 [0] 0) = ly ⟨8, [], [⟨0, [], []⟩]⟩ [281479271677952, 5, 0] 2 := rfl
 have e3 := (Zvj (t := ⟨8, [], [⟨0, [], []⟩]⟩) rfl (by decide) (fun x hx => by rw [List.mem_singleton.1 hx]; exact ⟨simn, by rw [sn]; decide⟩) [281479271677952, 5, 0] 2 (by decide) (by rw [sl]; decide)).1
 have e4 : lyK ([281479271677952, 5, 0] : List Int).length (⟨8, [], [⟨0, [], []⟩]⟩ : Tr).Kids (Qy [281479271677952, 5, 0] ((2 : Nat) : Int) (hdL ⟨8, [], [⟨0, [], []⟩]⟩ [281479271677952, 5, 0] 2) ++ List.replicate (⟨8, [], [⟨0, [], []⟩]⟩ : Tr).Kids.length 0) = ly ⟨0, [], []⟩ [281479271677952, 5, 60129542145, 0] 3 := rfl
 have ey : ly T12 [0] 0 = [281479271677952, 5, 60129542145, 0] := by rw [e1, e2, e3, e4, Zmk rfl]
 unfold Qs
 have := (Zte Yco p 9).1
 rw [e, ey] at this
 unfold T12 at this
 rw [this, Option.bind_some]
 simp only
 rw [cond_true, Z18 (by decide)]
 rfl
def Yay (w N : Nat) (ns : List Int) (i : Nat) (s : List Int) : Prop := Z4m w N i s ∧ ∀ (j : Nat) (n : Int), j < i → ns[j]? = some n → (s[j * w / 64]?.getD 0) / 2 ^ (j * w % 64) % 2 ^ w = n
theorem Z68 {w N i : Nat} {ns s : List Int} {n : Int} (hw : 0 < w) (hs : ∀ i : Nat, i * w % 64 + w ≤ 64) (hi : i < N) (hx : ns[i]? = some n) (hI : Yay w N ns i s) (n0 : 0 ≤ n) (n1 : n < 2 ^ w) : Yay w N ns (i + 1) (Zi7 w s i n) := by
 obtain ⟨v, hv, v0, v1, v2, v3, v4⟩ := Z4l hw (hs i) hi hI.1 n0 n1
 refine ⟨v4, fun j m hj hm => ?_⟩
 have hq : i * w / 64 < s.length := (List.getElem?_eq_some_iff.1 hv).1
 have e0 : Zi7 w s i n = s.set (i * w / 64) (v + n * 2 ^ (i * w % 64)) := by
  unfold Zi7 Qy
  rw [hv, Int.toNat_natCast]
  rfl
 rw [e0, List.getElem?_set]
 have pz : ∀ k : Nat, (2 : Int) ^ k ≠ 0 := fun k => Int.ne_of_gt (Int.pow_pos (by decide))
 by_cases h : i * w / 64 = j * w / 64
 ·rw [if_pos h, if_pos hq, Option.getD_some]
  by_cases hji : j = i
  ·subst hji
   rw [hx] at hm
   cases hm
   rw [Int.add_mul_ediv_right _ _ (pz _), Int.ediv_eq_zero_of_lt v0 v1, Int.zero_add, Int.emod_eq_of_lt n0 n1]
  have hlt : j < i := by omega
  have h2 := Km (m := w) hlt
  have h3 : j * w % 64 + w ≤ i * w % 64 := by omega
  have e : n * 2 ^ (i * w % 64) = n * 2 ^ (i * w % 64 - (j * w % 64 + w)) * 2 ^ w * 2 ^ (j * w % 64) := by
   rw [Int.mul_assoc, Int.mul_assoc, ← Int.pow_add, ← Int.pow_add]
   congr 2
   omega
  rw [e, Int.add_mul_ediv_right _ _ (pz _), Int.add_mul_emod_self_right]
  have := hI.2 j m hlt hm
  rw [← h, hv, Option.getD_some] at this
  exact this
 rw [if_neg h]
 have hlt : j < i := by
  rcases Nat.lt_or_ge j i with q | q
  ·exact q
  exact absurd (by rw [show j = i by omega]) h
 exact hI.2 j m hlt hm
theorem Z1y {w : Nat} (hw : 0 < w) (hs : ∀ i : Nat, i * w % 64 + w ≤ 64) {ns : List Int} (hf : ∀ n ∈ ns, 0 ≤ n ∧ n < 2 ^ w) : Yay w ns.length ns ns.length (Ge (Zi7 w) (List.replicate ((ns.length * w + 63) / 64) 0) 0 ns) :=
 Zul (f := Zi7 w) (Yay w ns.length ns) ns (fun i s x hi hx hm hI => Z68 hw hs hi hx hI (hf x hm).1 (hf x hm).2) ⟨Z4k w ns.length, fun j n hj => by omega⟩
structure Nm (t : Tr) (d : Nat) : Prop where
 f : Fine t d
 n : nrm t = t
 k : ¬ t.Kind = 10
theorem Nm.kid {t x : Tr} {d : Nat} (h : Nm t d) (h0 : ¬ t.Kind = 0) (hx : x ∈ t.Kids) (h10 : ¬ x.Kind = 10) : Nm x (d - 1) := by
 refine ⟨h.f.kid hx, ?_, h10⟩
 have hn := h.n
 by_cases h1 : t.Kind = 1
 ·rw [K6 h1] at hn
  rw [← hn] at hx
  simp only at hx
  obtain ⟨y, _, rfl⟩ := List.mem_map.1 (Zi9 hx)
  exact Zol y
 rw [Zbi h0 h1] at hn
 rw [← hn] at hx
 simp only at hx
 obtain ⟨y, _, rfl⟩ := List.mem_map.1 hx
 exact Zol y
theorem Nm.words {t : Tr} {d : Nat} (h : Nm t d) (h1 : t.Kind = 1) : tr (fun x => x == 0) t.Words = t.Words := by
 have hn := h.n
 rw [K6 h1] at hn
 exact congrArg Za.Words hn
theorem Nm.kids {t : Tr} {d : Nat} (h : Nm t d) (h1 : t.Kind = 1) : tr (fun x => x.Kind == 0) t.Kids = t.Kids := by
 have hn := h.n
 rw [K6 h1] at hn
 have := congrArg Za.Kids hn
 simp only at this
 rw [← this, Zy1]
theorem Nm.sim {t : Tr} {d : Nat} (h : Nm t d) : Sim t ∧ 0 ≤ sz t := ⟨Zrz _ t d (Nat.lt_succ_self _) h.f h.k, (Zwk h.f.rt h.f.pt).1⟩
theorem Nm.okids {t : Tr} {d : Nat} (h : Nm t d) (h18 : t.Kind = 1 ∨ t.Kind = 8) : ∀ x ∈ t.Kids, Nm x (d - 1) := fun x hx =>
 h.kid (by omega) hx (Zcq (by omega) ((Uy h.f.rt (by omega) h.k).2.2.2 x hx).2).1
theorem Nm.structs {t : Tr} {d : Nat} (h : Nm t d) (h9 : t.Kind = 9) : ∀ x ∈ t.Kids, Nm x (d - 1) ∧ x.Kind = 1 := fun x hx => by
 have k1 := (Zcq (by omega) ((Uy h.f.rt (by omega) h.k).2.2.2 x hx).2).2 h9
 exact ⟨h.kid (by omega) hx (by omega), k1⟩
theorem Nm.null {t : Tr} {d : Nat} (h : Nm t d) (h0 : t.Kind = 0) : t = ⟨0, [], []⟩ := by
 have := h.n
 rwa [Zcc h0, eq_comm] at this
def Zlq (t : Tr) : Prop := ∀ (l : List Int) (a : Nat), a < l.length → (l.length : Int) + sz t ≤ 131072 → ∀ p, p < l.length → ¬ p = a → (ly t l a)[p]? = l[p]?
theorem Zfi {α σ : Type} : ∀ (xs : List α) (f : σ → Nat → α → σ) (s : σ) (k : Nat), Ge f s k xs = Ge (fun s i x => f s (k + i) x) s 0 xs
 | [], f, s, k => rfl
 | x :: xs, f, s, k => by
  show Ge f (f s k x) (k + 1) xs = Ge (fun s i x => f s (k + i) x) (f s (k + 0) x) (0 + 1) xs
  rw [Zfi xs f _ (k + 1), Zfi xs (fun s i x => f s (k + i) x) _ (0 + 1)]
  have : (fun (s : σ) (i : Nat) (x : α) => f s (k + (0 + 1 + i)) x) = fun s i x => f s (k + 1 + i) x := by
   funext s i x
   rw [show k + (0 + 1 + i) = k + 1 + i by omega]
  rw [this]
  rfl
theorem Zvp (b : Nat) (x : Tr) (xs : List Tr) (l : List Int) : lyK b (x :: xs) l = lyK (b + 1) xs (ly x l b) := by
 unfold lyK
 show Ge (fun l i x => ly x l (b + i)) (ly x l (b + 0)) (0 + 1) xs = _
 rw [Zfi]
 have : (fun (l : List Int) (i : Nat) (x : Tr) => ly x l (b + (0 + 1 + i))) = fun l i x => ly x l (b + 1 + i) := by
  funext s i x
  rw [show b + (0 + 1 + i) = b + 1 + i by omega]
 rw [this]
 rfl
theorem Zys : ∀ {ks : List Tr}, (∀ x ∈ ks, (Sim x ∧ 0 ≤ sz x) ∧ Zlq x) → ∀ {l : List Int} {b : Nat}, b + ks.length ≤ l.length → (l.length : Int) + (ks.map sz).sum ≤ 131072 → ∀ p, p < l.length → (p < b ∨ b + ks.length ≤ p) → (lyK b ks l)[p]? = l[p]?
 | [], _, l, b, _, _, p, _, _ => rfl
 | x :: xs, hk, l, b, hb, hs, p, hp, hq => by
  obtain ⟨⟨h1, h2⟩, h3⟩ := hk x (.head _)
  have hp2 := Q2 (f := sz) (xs := xs) fun y hy => (hk y (.tail _ hy)).1.2
  simp only [List.map_cons, List.sum_cons, List.length_cons] at hb hs hq
  have e := (h1 l b (by omega) (by omega)).1
  rw [Zvp, Zys (fun y hy => hk y (.tail _ hy)) (by omega) (by omega) p (by omega) (by omega), h3 l b (by omega) (by omega) p hp (by omega)]
theorem Zrw {l : List Int} {a p : Nat} {v : Int} (ha : a < l.length) : (Qy l (a : Int) v)[p]? = if a = p then some v else l[p]? := by
 unfold Qy
 rw [Int.toNat_natCast, List.getElem?_set]
 by_cases h : a = p
 ·rw [if_pos h, if_pos h, if_pos ha]
 rw [if_neg h, if_neg h]
theorem Zof {l m : List Int} {p : Nat} (h : p < l.length) : (l ++ m)[p]? = l[p]? := List.getElem?_append_left h
def hdS (t : Tr) (l : List Int) (a : Nat) : Int := Zi2 t l a % 1073741824 * 4 + (t.Words.length : Int) * 4294967296 + (t.Kids.length : Int) * 281474976710656
theorem Z5y {t : Tr} {l : List Int} {a p : Nat} (ha : a < l.length) (hp : p < l.length) : (RS1 t l a)[p]? = if a = p then some (hdS t l a) else l[p]? := by
 unfold RS1
 rw [List.append_assoc, Zof (by rw [Yv]; exact hp), Zrw ha]
 rfl
theorem Zur (t : Tr) (l : List Int) (a : Nat) : (RS1 t l a).length = l.length + t.Words.length + t.Kids.length := by unfold RS1; rw [List.length_append, List.length_append, Yv, List.length_replicate]
theorem Zz8 {t : Tr} {d : Nat} (h : Nm t d) (h1 : t.Kind = 1) (hP : ∀ x ∈ t.Kids, Zlq x) {l : List Int} {a : Nat} (ha : a < l.length) (hs : (l.length : Int) + sz t ≤ 131072) :
  ly t l a = lyK (l.length + t.Words.length) t.Kids (RS1 t l a) ∧ t.Words.length < 65536 ∧ t.Kids.length < 65536 ∧ (∀ x ∈ t.Kids, (Sim x ∧ 0 ≤ sz x) ∧ Zlq x) ∧ ((RS1 t l a).length : Int) + (t.Kids.map sz).sum ≤ 131072 ∧
  ∀ p, p < (RS1 t l a).length → (p < l.length + t.Words.length ∨ l.length + t.Words.length + t.Kids.length ≤ p) → (ly t l a)[p]? = (RS1 t l a)[p]? := by
 obtain ⟨i1, i2, _, i4⟩ := Uy h.f.rt (by omega) h.k
 have hk : ∀ x ∈ t.Kids, (Sim x ∧ 0 ≤ sz x) ∧ Zlq x := fun x hx => ⟨(h.okids (.inl h1) x hx).sim, hP x hx⟩
 have e := (Zph h1 i1 (i2 h1) (fun x hx => (hk x hx).1) l a ha hs).1
 have es : sz t = ((t.Words.length : Int) + (t.Kids.length : Int)) + (t.Kids.map sz).sum := by rw [Zes, if_pos h1]
 have l2 := Zur t l a
 have hs2 : ((RS1 t l a).length : Int) + (t.Kids.map sz).sum ≤ 131072 := by omega
 refine ⟨e, i1, i2 h1, hk, hs2, fun p hp hq => ?_⟩
 rw [e]
 exact Zys hk (by omega) hs2 p hp hq
def RP8 (t : Tr) (l : List Int) (a : Nat) : List Int := Qy l (a : Int) (hdL t l a) ++ List.replicate t.Kids.length 0
theorem Z5x {t : Tr} {l : List Int} {a p : Nat} (ha : a < l.length) (hp : p < l.length) : (RP8 t l a)[p]? = if a = p then some (hdL t l a) else l[p]? := by
 unfold RP8
 rw [Zof (by rw [Yv]; exact hp), Zrw ha]
theorem Zuq (t : Tr) (l : List Int) (a : Nat) : (RP8 t l a).length = l.length + t.Kids.length := by unfold RP8; rw [List.length_append, Yv, List.length_replicate]
theorem Ztl {t : Tr} {d : Nat} (h : Nm t d) : t.Kids.length ≤ 200000 := by
 have := Zro t
 have := h.f.pt
 omega
theorem Zz2 {t : Tr} {d : Nat} (h : Nm t d) (h8 : t.Kind = 8) (hP : ∀ x ∈ t.Kids, Zlq x) {l : List Int} {a : Nat} (ha : a < l.length) (hs : (l.length : Int) + sz t ≤ 131072) :
  ly t l a = lyK l.length t.Kids (RP8 t l a) ∧ (∀ x ∈ t.Kids, (Sim x ∧ 0 ≤ sz x) ∧ Zlq x) ∧ ((RP8 t l a).length : Int) + (t.Kids.map sz).sum ≤ 131072 ∧
  ∀ p, p < (RP8 t l a).length → (p < l.length ∨ l.length + t.Kids.length ≤ p) → (ly t l a)[p]? = (RP8 t l a)[p]? := by
 have hk : ∀ x ∈ t.Kids, (Sim x ∧ 0 ≤ sz x) ∧ Zlq x := fun x hx => ⟨(h.okids (.inr h8) x hx).sim, hP x hx⟩
 have e := (Zvj h8 (Ztl h) (fun x hx => (hk x hx).1) l a ha hs).1
 have es : sz t = (t.Kids.length : Int) + (t.Kids.map sz).sum := by rw [Zes, if_neg (by omega), if_neg (by omega), if_pos h8]
 have l2 := Zuq t l a
 have hs2 : ((RP8 t l a).length : Int) + (t.Kids.map sz).sum ≤ 131072 := by omega
 refine ⟨e, hk, hs2, fun p hp hq => ?_⟩
 rw [e]
 exact Zys hk (by omega) hs2 p hp hq
theorem Nm.atoms {t : Tr} {d : Nat} (h : Nm t d) (h2 : 2 ≤ t.Kind ∧ t.Kind ≤ 7) : ∀ k ∈ t.Kids, ∃ w, k = ⟨10, [w], []⟩ ∧ 0 ≤ w ∧ w < 18446744073709551616 ∧ Zbb (t.Kind - 2) w = true := fun k hk => by
 have i4 := (Uy h.f.rt (by omega) h.k).2.2.2 k hk
 obtain ⟨w, hw, a, b, c⟩ := Z1r h2 (h.f.bd.all k hk) i4.1 i4.2
 have k10 : k.Kind = 10 := by
  have := i4.2
  unfold okk at this
  rw [if_pos h2, Bool.and_eq_true, beq_iff_eq] at this
  exact this.1
 have k0 : k.Kids = [] := (Za7 i4.1).2.2.2.1 (.inr k10)
 refine ⟨w, ?_, a, b, c⟩
 obtain ⟨x, y, z⟩ := k
 simp only at hw k10 k0
 rw [hw, k10, k0]
theorem Zy9 {t : Tr} {d : Nat} (h : Nm t d) (h2 : 2 ≤ t.Kind ∧ t.Kind ≤ 7) {l : List Int} {a : Nat} (ha : a < l.length) (hs : (l.length : Int) + sz t ≤ 131072) :
  ly t l a = Qy l (a : Int) (hdL t l a) ++ Zgh (t.Kind - 2) (ato t) :=
 (Z1e h2 (Ztl h) (fun k hk => by obtain ⟨w, e, a, b, c⟩ := h.atoms h2 k hk; exact ⟨w, by rw [e], a, b, c⟩) l a ha hs).1
theorem Zu2 (W K b : Nat) (x : Tr) (xs : List Tr) (l : List Int) : cpK W K b (x :: xs) l = cpK W K (b + (W + K)) xs (lyK (b + W) x.Kids l) := by
 unfold cpK
 show Ge (fun s i x => lyK (b + i * (W + K) + W) x.Kids s) (lyK (b + 0 * (W + K) + W) x.Kids l) (0 + 1) xs = _
 rw [Zfi]
 have : (fun (s : List Int) (i : Nat) (x : Tr) => lyK (b + (0 + 1 + i) * (W + K) + W) x.Kids s) = fun s i x => lyK (b + (W + K) + i * (W + K) + W) x.Kids s := by
  funext s i x
  rw [show (0 + 1 + i) * (W + K) = (W + K) + i * (W + K) by rw [Nat.add_mul, Nat.zero_add, Nat.one_mul], Nat.add_assoc b (W + K)]
 rw [this, Nat.zero_mul, Nat.add_zero]
theorem Z5u {W K : Nat} : ∀ {ks : List Tr}, (∀ x ∈ ks, x.Kids.length ≤ K ∧ ∀ y ∈ x.Kids, (Sim y ∧ 0 ≤ sz y) ∧ Zlq y) → ∀ {l : List Int} {b : Nat}, b + ks.length * (W + K) ≤ l.length → (l.length : Int) + (ks.map szK).sum ≤ 131072 →
  ((cpK W K b ks l).length : Int) = l.length + (ks.map szK).sum ∧ ∀ p, p < l.length → (∀ (i : Nat) (x : Tr), ks[i]? = some x → p < b + i * (W + K) + W ∨ b + i * (W + K) + W + x.Kids.length ≤ p) → (cpK W K b ks l)[p]? = l[p]?
 | [], _, l, b, _, _ => ⟨by simp [cpK, Ge], fun p _ _ => rfl⟩
 | x :: xs, hk, l, b, hb, hs => by
  obtain ⟨hx1, hx2⟩ := hk x (.head _)
  have hm : (x :: xs).length * (W + K) = W + K + xs.length * (W + K) := by rw [List.length_cons, Nat.add_mul, Nat.one_mul, Nat.add_comm]
  have hz := Q2 (f := szK) (xs := xs) fun y hy => Q2 fun z hz => ((hk y (.tail _ hy)).2 z hz).1.2
  have hs' : (l.length : Int) + ((x.Kids.map sz).sum + (xs.map szK).sum) ≤ 131072 := hs
  have ln := Zkw (ks := x.Kids) (b := b + W) (l := l) (fun y hy => (hx2 y hy).1) (by omega) (by omega)
  obtain ⟨q1, q2⟩ := Z5u (W := W) (K := K) (ks := xs) (fun y hy => hk y (.tail _ hy)) (l := lyK (b + W) x.Kids l) (b := b + (W + K)) (by have := Q2 (f := sz) (xs := x.Kids) fun z hz => (hx2 z hz).1.2; omega) (by omega)
  rw [Zu2]
  refine ⟨by rw [q1, ln]; simp only [List.map_cons, List.sum_cons]; unfold szK; omega, fun p hp hq => ?_⟩
  have h0 := hq 0 x rfl
  rw [Nat.zero_mul, Nat.add_zero] at h0
  rw [q2 p (by have := Q2 (f := sz) (xs := x.Kids) fun z hz => (hx2 z hz).1.2; omega) (fun i y hy => by
   have := hq (i + 1) y (by rw [List.getElem?_cons_succ]; exact hy)
   rw [Nat.add_mul, Nat.one_mul] at this
   omega), Zys hx2 (by omega) (by omega) p hp h0]
theorem Z0t (W K : Nat) (x : Tr) (xs : List Tr) (l : List Int) : cpW W K (x :: xs) l = cpW W K xs (l ++ x.Words ++ List.replicate (W + K - x.Words.length) 0) := by
 unfold cpW
 show Ge _ _ (0 + 1) xs = _
 rw [Zfi]
theorem Z5c {W K : Nat} : ∀ (ks : List Tr), (∀ x ∈ ks, x.Words.length ≤ W) → ∀ (l : List Int), (∀ p, p < l.length → (cpW W K ks l)[p]? = l[p]?) ∧ ∀ (i : Nat) (x : Tr), ks[i]? = some x → ∀ j, j < W + K → (cpW W K ks l)[l.length + i * (W + K) + j]? = some (x.Words[j]?.getD 0)
 | [], _, l => ⟨fun p _ => rfl, fun i x h => by simp at h⟩
 | x :: xs, hk, l => by
  have hx := hk x (.head _)
  have le : (l ++ x.Words ++ List.replicate (W + K - x.Words.length) 0).length = l.length + (W + K) := by rw [List.length_append, List.length_append, List.length_replicate]; omega
  obtain ⟨q1, q2⟩ := Z5c xs (fun y hy => hk y (.tail _ hy)) (l ++ x.Words ++ List.replicate (W + K - x.Words.length) 0)
  rw [Z0t]
  refine ⟨fun p hp => ?_, fun i y hy j hj => ?_⟩
  ·rw [q1 p (by omega), List.append_assoc, Zof hp]
  cases i with
  | zero =>
   simp only [List.getElem?_cons_zero, Option.some.injEq] at hy
   subst hy
   rw [Nat.zero_mul, Nat.add_zero, q1 _ (by omega), List.append_assoc, List.getElem?_append_right (by omega), show l.length + j - l.length = j by omega]
   by_cases h : j < x.Words.length
   ·rw [List.getElem?_append_left h, List.getElem?_eq_getElem h]
    rfl
   rw [List.getElem?_append_right (by omega), List.getElem?_replicate, if_pos (by omega), List.getElem?_eq_none (by omega)]
   rfl
  | succ i =>
   rw [List.getElem?_cons_succ] at hy
   have := q2 i y hy j hj
   rw [le] at this
   rw [← this, show l.length + (i + 1) * (W + K) + j = l.length + (W + K) + i * (W + K) + j by rw [Nat.add_mul, Nat.one_mul]; omega]
def RC9 (t : Tr) (W K : Nat) (l : List Int) (a : Nat) : List Int := cpW W K t.Kids (Qy l (a : Int) (hd9 t W K l a) ++ [Zig t W K])
theorem Zy8 {t : Tr} {d : Nat} (h : Nm t d) (h9 : t.Kind = 9) (hP : ∀ x ∈ t.Kids, ∀ y ∈ x.Kids, Zlq y) {l : List Int} {a : Nat} (ha : a < l.length) (hs : (l.length : Int) + sz t ≤ 131072) :
  ∃ W K : Nat, W ≤ 65535 ∧ K ≤ 65535 ∧ (∀ x ∈ t.Kids, x.Words.length ≤ W ∧ x.Kids.length ≤ K ∧ ∀ y ∈ x.Kids, (Sim y ∧ 0 ≤ sz y) ∧ Zlq y) ∧ t.Kids.length * (W + K) ≤ 131072 ∧ fr t.Kids = ((W : Int), (K : Int)) ∧
  (RC9 t W K l a).length = l.length + 1 + t.Kids.length * (W + K) ∧ ((RC9 t W K l a).length : Int) + (t.Kids.map szK).sum ≤ 131072 ∧ ly t l a = cpK W K (l.length + 1) t.Kids (RC9 t W K l a) ∧
  (∀ p, p < l.length → (RC9 t W K l a)[p]? = if a = p then some (hd9 t W K l a) else l[p]?) ∧ (RC9 t W K l a)[l.length]? = some (Zig t W K) ∧
  (∀ (i : Nat) (x : Tr), t.Kids[i]? = some x → ∀ j, j < W + K → (RC9 t W K l a)[l.length + 1 + i * (W + K) + j]? = some (x.Words[j]?.getD 0)) := by
 obtain ⟨W, K, e1, e2, e3, e4, e5⟩ := Zg6 h.f h9
 have hk : ∀ x ∈ t.Kids, ∀ y ∈ x.Kids, (Sim y ∧ 0 ≤ sz y) ∧ Zlq y := fun x hx y hy => by
  obtain ⟨nx, k1⟩ := h.structs h9 x hx
  exact ⟨(nx.okids (.inl k1) y hy).sim, hP x hx y hy⟩
 have hz := Q2 (f := szK) (xs := t.Kids) fun y hy => Q2 fun z hz => (hk y hy z hz).1.2
 have e := (Z1d h9 (Ztl h) e1 e2 e3 e4 (fun x hx y hy => (hk x hx y hy).1) e5 l a ha hs).1
 have l3 : (Qy l (a : Int) (hd9 t W K l a) ++ [Zig t W K]).length = l.length + 1 := by rw [List.length_append, Yv]; rfl
 have l4 : (RC9 t W K l a).length = l.length + 1 + t.Kids.length * (W + K) := by unfold RC9; rw [Z5d (fun x hx => (e4 x hx).1), l3]
 obtain ⟨g1, g2⟩ := Z5c (K := K) t.Kids (fun x hx => (e4 x hx).1) (Qy l (a : Int) (hd9 t W K l a) ++ [Zig t W K])
 rw [l3] at g2
 refine ⟨W, K, e2, e3, fun x hx => ⟨(e4 x hx).1, (e4 x hx).2, hk x hx⟩, by omega, e1, l4, by omega, e, fun p hp => ?_, ?_, g2⟩
 ·unfold RC9
  rw [g1 p (by omega), Zof (by rw [Yv]; exact hp), Zrw ha]
 unfold RC9
 rw [g1 _ (by omega), List.getElem?_append_right (by rw [Yv]; exact Nat.le_refl _), Yv, Nat.sub_self]
 rfl
theorem Zrh : ∀ (n : Nat) (t : Tr) (d : Nat), SizeOf.sizeOf t < n → Nm t d → Zlq t
 | 0, _, _, h, _ => by omega
 | n + 1, t, d, h, hm => fun l a ha hs p hp hpa => by
  have g := Za7 hm.f.rt
  have h10 := hm.k
  by_cases h0 : t.Kind = 0
  ·rw [Zmk h0]
  by_cases h1 : t.Kind = 1
  ·have k := Zz8 hm h1 (fun x hx => Zrh n x (d - 1) (by have := Yk hx; omega) (hm.okids (.inl h1) x hx)) ha hs
   rw [k.2.2.2.2.2 p (by rw [Zur]; omega) (by omega), Z5y ha hp, if_neg (fun h => hpa h.symm)]
  by_cases h2 : 2 ≤ t.Kind ∧ t.Kind ≤ 7
  ·rw [Zy9 hm h2 ha hs, Zof (by rw [Yv]; exact hp), Zrw ha, if_neg (fun h => hpa h.symm)]
  by_cases h8 : t.Kind = 8
  ·have k := Zz2 hm h8 (fun x hx => Zrh n x (d - 1) (by have := Yk hx; omega) (hm.okids (.inr h8) x hx)) ha hs
   rw [k.2.2.2 p (by rw [Zuq]; omega) (by omega), Z5x ha hp, if_neg (fun h => hpa h.symm)]
  have h9 : t.Kind = 9 := by omega
  obtain ⟨W, K, _, _, k3, _, _, k6, k7, k8, k9, _⟩ := Zy8 hm h9 (fun x hx y hy => Zrh n y (d - 1 - 1) (by have := Yk hx; have := Yk hy; omega) ((hm.structs h9 x hx).1.okids (.inl (hm.structs h9 x hx).2) y hy)) ha hs
  rw [k8, (Z5u (fun x hx => (k3 x hx).2) (by omega) k7).2 p (by omega) (fun i x hx => by omega), k9 p hp, if_neg (fun h => hpa h.symm)]
theorem Nm.pres {t : Tr} {d : Nat} (h : Nm t d) : Zlq t := Zrh _ t d (Nat.lt_succ_self _) h
def hv (t : Tr) (l : List Int) (a : Nat) (c : Int) : Int := if t.Kind = 0 then 0 else if t.Kind = 1 then hdS t l a else ((l.length : Int) - a - 1) % 1073741824 * 4 + 1 + (t.Kind - 2) * 4294967296 + c * 34359738368
def StN (W K : Nat) (x : Tr) : Prop := x.Kind = 1 ∧ (∃ d, Nm x d) ∧ x.Words.length ≤ W ∧ x.Kids.length ≤ K
theorem StN.kids {W K : Nat} {x : Tr} (h : StN W K x) : ∀ y ∈ x.Kids, ∃ d, Nm y d := fun y hy => by
 obtain ⟨k, ⟨d, n⟩, _⟩ := h
 exact ⟨_, n.okids (.inl k) y hy⟩
section
variable {A : Zj}
inductive MR (A : Zj) : Zb → Tr → Prop
 | mk (r : Zb) (t : Tr) (ho : OKr A r) (hk : t.Kind = r.kind) (hw : t.Words = X7 A r) (hl : (t.Kids.length : Int) = Zx r)
   (he : ∀ (i : Nat) (x : Tr), t.Kids[i]? = some x → (Ys A r i).2 = 0) (hs : ∀ (i : Nat) (x : Tr), t.Kids[i]? = some x → MR A (Ys A r i).1 x) : MR A r t
theorem MR.o {r : Zb} {t : Tr} (h : MR A r t) : OKr A r := by cases h; assumption
theorem MR.kd {r : Zb} {t : Tr} (h : MR A r t) : t.Kind = r.kind := by cases h; assumption
theorem MR.ws {r : Zb} {t : Tr} (h : MR A r t) : t.Words = X7 A r := by cases h; assumption
theorem MR.len {r : Zb} {t : Tr} (h : MR A r t) : (t.Kids.length : Int) = Zx r := by cases h; assumption
theorem MR.kid {r : Zb} {t : Tr} (h : MR A r t) {i : Nat} {x : Tr} (hx : t.Kids[i]? = some x) : (Ys A r i).2 = 0 ∧ MR A (Ys A r i).1 x := by
 cases h with
 | mk _ _ _ _ _ _ he hs => exact ⟨he i x hx, hs i x hx⟩
theorem Ycw {r : Zb} (h : OKr A r) (hk : r.kind = 0 ∨ r.kind = 10) : Zx r = 0 := by
 cases h <;> simp_all [Zx, r0]
 omega
theorem Z5o {r : Zb} (h : OKr A r) (h0 : Zx r = 0) : MR A r ⟨r.kind, X7 A r, []⟩ := .mk _ _ h rfl rfl (by simp [h0]) (fun i x hx => by simp at hx) (fun i x hx => by simp at hx)
end
theorem dcS {off data ptrs : Int} (a : -536870912 ≤ off) (b : off < 536870912) (c : 0 ≤ data) (d : data < 65536) (e : 0 ≤ ptrs) (f : ptrs < 65536) (g : ¬ (off = 0 ∧ data = 0 ∧ ptrs = 0)) :
  dc (off % 1073741824 * 4 + data * 4294967296 + ptrs * 281474976710656) = ⟨1, off, data, ptrs, 0, 0, 0, false⟩ := by
 have e1 : (off % 1073741824 * 4 + data * 4294967296 + ptrs * 281474976710656).toNat = (off % 1073741824).toNat * 4 + data.toNat * 4294967296 + ptrs.toNat * 281474976710656 := by omega
 unfold dc
 rw [e1]
 generalize hw : (off % 1073741824).toNat * 4 + data.toNat * 4294967296 + ptrs.toNat * 281474976710656 = w
 have h1 : ¬ w = 0 := by omega
 have h2 : w % 4 = 0 := by omega
 unfold Zg5
 rw [if_neg h1, if_pos h2]
 unfold Zox
 simp only [Zy.mk.injEq, true_and, and_true]
 refine ⟨?_, by omega, by omega⟩
 split <;> omega
theorem dcL {off code count : Int} (a : -536870912 ≤ off) (b : off < 536870912) (c : 0 ≤ code) (d : code < 8) (e : 0 ≤ count) (f : count < 536870912) :
  dc (off % 1073741824 * 4 + 1 + code * 4294967296 + count * 34359738368) = ⟨2, off, 0, 0, code, count, 0, false⟩ := by
 have e1 : (off % 1073741824 * 4 + 1 + code * 4294967296 + count * 34359738368).toNat = (off % 1073741824).toNat * 4 + 1 + code.toNat * 4294967296 + count.toNat * 34359738368 := by omega
 unfold dc
 rw [e1]
 generalize hw : (off % 1073741824).toNat * 4 + 1 + code.toNat * 4294967296 + count.toNat * 34359738368 = w
 have h1 : ¬ w = 0 := by omega
 have h2 : ¬ w % 4 = 0 := by omega
 have h3 : w % 4 = 1 := by omega
 unfold Zg5
 rw [if_neg h1, if_neg h2, if_pos h3]
 unfold Zox
 simp only [Zy.mk.injEq, true_and, and_true]
 refine ⟨?_, by omega, by omega⟩
 split <;> omega
def Zyd (W : Nat) (l : List Int) : List Int := l ++ List.replicate (W - l.length) 0
def Ztr (K : Nat) (l : List Tr) : List Tr := l ++ List.replicate (K - l.length) ⟨0, [], []⟩
def Zj3 (q : Int × Int) (u : Tr) : Tr := ⟨u.Kind, Zyd q.1.toNat u.Words, Ztr q.2.toNat u.Kids⟩
def fm (t : Tr) : Tr := ⟨t.Kind, t.Words, t.Kids.attach.map fun k => if t.Kind = 9 then Zj3 (fr t.Kids) (fm k.1) else fm k.1⟩
termination_by SizeOf.sizeOf t
decreasing_by all_goals exact Yk k.2
theorem Zt0 (t : Tr) : fm t = ⟨t.Kind, t.Words, t.Kids.map fun k => if t.Kind = 9 then Zj3 (fr t.Kids) (fm k) else fm k⟩ := by
 rw [fm]
 congr 1
 exact List.attach_map_val (l := t.Kids) (f := fun k => if t.Kind = 9 then Zj3 (fr t.Kids) (fm k) else fm k)
theorem Zdk (t : Tr) : (fm t).Kind = t.Kind := by rw [Zt0]
theorem Zlr (t : Tr) : (fm t).Words = t.Words := by rw [Zt0]
theorem Gd {t : Tr} (h : ¬ t.Kind = 9) : (fm t).Kids = t.Kids.map fm := by
 rw [Zt0]
 simp only [if_neg h]
theorem Zjm {t : Tr} (h : t.Kind = 9) : (fm t).Kids = t.Kids.map fun k => Zj3 (fr t.Kids) (fm k) := by
 rw [Zt0]
 simp only [if_pos h]
structure AgL (L : List Int) (t : Tr) (l : List Int) (a : Nat) : Prop where
 ha : a < l.length
 hs : (l.length : Int) + sz t ≤ 131072
 z : l[a]? = some 0
 hl : (ly t l a).length ≤ L.length
 eq : ∀ p, p < (ly t l a).length → (p = a ∨ l.length ≤ p) → L[p]? = (ly t l a)[p]?
theorem Z5a {L : List Int} : ∀ {ks : List Tr}, (∀ x ∈ ks, (Sim x ∧ 0 ≤ sz x) ∧ Zlq x) → ∀ {l : List Int} {b : Nat}, b + ks.length ≤ l.length → (l.length : Int) + (ks.map sz).sum ≤ 131072 → (∀ j, j < ks.length → l[b + j]? = some 0) → (lyK b ks l).length ≤ L.length →
  (∀ p, p < (lyK b ks l).length → (b ≤ p ∧ p < b + ks.length ∨ l.length ≤ p) → L[p]? = (lyK b ks l)[p]?) → ∀ (i : Nat) (x : Tr), ks[i]? = some x → ∃ s, AgL L x s (b + i)
 | [], _, l, b, _, _, _, _, _, i, x, hx => by simp at hx
 | y :: ys, hk, l, b, hb, hs, hz, hL, hE, i, x, hx => by
  obtain ⟨⟨h1, h2⟩, h3⟩ := hk y (.head _)
  have hk' : ∀ x ∈ ys, (Sim x ∧ 0 ≤ sz x) ∧ Zlq x := fun x hx => hk x (.tail _ hx)
  have hp2 := Q2 (f := sz) (xs := ys) fun y hy => (hk' y hy).1.2
  have hs' : (l.length : Int) + (sz y + (ys.map sz).sum) ≤ 131072 := hs
  rw [List.length_cons] at hb hz hE
  rw [Zvp] at hL hE
  have ln := (h1 l b (by omega) (by omega)).1
  have lk := Zkw (b := b + 1) (l := ly y l b) (fun x hx => (hk' x hx).1) (by omega) (by omega)
  cases i with
  | zero =>
   simp only [List.getElem?_cons_zero, Option.some.injEq] at hx
   subst hx
   refine ⟨l, by omega, by omega, hz 0 (by omega), by simp only [Nat.add_zero]; omega, fun p hp hq => ?_⟩
   simp only [Nat.add_zero] at hp hq ⊢
   rw [hE p (by omega) (by omega)]
   exact Zys hk' (by omega) (by omega) p hp (by omega)
  | succ i =>
   rw [List.getElem?_cons_succ] at hx
   obtain ⟨s, q⟩ := Z5a (L := L) hk' (l := ly y l b) (b := b + 1) (by omega) (by omega) (fun j hj => by
    rw [h3 l b (by omega) (by omega) (b + 1 + j) (by omega) (by omega), show b + 1 + j = b + (j + 1) by omega]
    exact hz (j + 1) (by omega)) hL (fun p hp hq => hE p hp (by omega)) i x hx
   exact ⟨s, by rwa [show b + 1 + i = b + (i + 1) by omega] at q⟩
theorem Ybi {L : List Int} {W K : Nat} : ∀ {ks : List Tr}, (∀ x ∈ ks, x.Kids.length ≤ K ∧ ∀ y ∈ x.Kids, (Sim y ∧ 0 ≤ sz y) ∧ Zlq y) → ∀ {l : List Int} {b : Nat}, b + ks.length * (W + K) ≤ l.length → (l.length : Int) + (ks.map szK).sum ≤ 131072 →
  (∀ (i : Nat) (x : Tr), ks[i]? = some x → ∀ j, j < x.Kids.length → l[b + i * (W + K) + W + j]? = some 0) → (cpK W K b ks l).length ≤ L.length → (∀ p, p < (cpK W K b ks l).length → b ≤ p → L[p]? = (cpK W K b ks l)[p]?) →
  ∀ (i : Nat) (x : Tr), ks[i]? = some x → ∀ (j : Nat) (y : Tr), x.Kids[j]? = some y → ∃ s, AgL L y s (b + i * (W + K) + W + j)
 | [], _, l, b, _, _, _, _, _, i, x, hx, _, _, _ => by simp at hx
 | u :: us, hk, l, b, hb, hs, hz, hL, hE, i, x, hx, j, y, hy => by
  obtain ⟨hx1, hx2⟩ := hk u (.head _)
  have hk' : ∀ x ∈ us, x.Kids.length ≤ K ∧ ∀ y ∈ x.Kids, (Sim y ∧ 0 ≤ sz y) ∧ Zlq y := fun x hx => hk x (.tail _ hx)
  have hm : (u :: us).length * (W + K) = W + K + us.length * (W + K) := by rw [List.length_cons, Nat.add_mul, Nat.one_mul, Nat.add_comm]
  have hzn := Q2 (f := szK) (xs := us) fun y hy => Q2 fun z hz => ((hk' y hy).2 z hz).1.2
  have hun := Q2 (f := sz) (xs := u.Kids) fun z hz => (hx2 z hz).1.2
  have hs' : (l.length : Int) + ((u.Kids.map sz).sum + (us.map szK).sum) ≤ 131072 := hs
  have ln := Zkw (ks := u.Kids) (b := b + W) (l := l) (fun y hy => (hx2 y hy).1) (by omega) (by omega)
  obtain ⟨q1, q2⟩ := Z5u (W := W) (K := K) (ks := us) hk' (l := lyK (b + W) u.Kids l) (b := b + (W + K)) (by omega) (by omega)
  rw [Zu2] at hL hE
  cases i with
  | zero =>
   simp only [List.getElem?_cons_zero, Option.some.injEq] at hx
   subst hx
   have z0 := hz 0 u rfl
   simp only [Nat.zero_mul, Nat.add_zero] at z0 ⊢
   refine Z5a (L := L) hx2 (l := l) (b := b + W) (by omega) (by omega) z0 (by omega) (fun p hp hq => ?_) j y hy
   rw [hE p (by omega) (by omega)]
   refine q2 p hp fun i x hx => ?_
   rcases hq with hq | hq
   ·exact .inl (by omega)
   have hi : i < us.length := (List.getElem?_eq_some_iff.1 hx).1
   have := Km (m := W + K) hi
   have := (hk' x (List.mem_of_getElem? hx)).1
   exact .inr (by omega)
  | succ i =>
   rw [List.getElem?_cons_succ] at hx
   have em : ∀ i : Nat, (i + 1) * (W + K) = W + K + i * (W + K) := fun i => by rw [Nat.add_mul, Nat.one_mul, Nat.add_comm]
   obtain ⟨s, q⟩ := Ybi (L := L) (W := W) (K := K) hk' (l := lyK (b + W) u.Kids l) (b := b + (W + K)) (by omega) (by omega) (fun i x hx j hj => by
    have hi : i < us.length := (List.getElem?_eq_some_iff.1 hx).1
    have := Km (m := W + K) hi
    have := (hk' x (List.mem_of_getElem? hx)).1
    have z1 := hz (i + 1) x (by rw [List.getElem?_cons_succ]; exact hx) j hj
    rw [em] at z1
    rw [Zys hx2 (by omega) (by omega) _ (by omega) (by omega), ← z1]
    congr 1
    omega) hL (fun p hp hq => hE p hp (by omega)) i x hx j y hy
   rw [em]
   exact ⟨s, by rwa [show b + (W + K) + i * (W + K) + W + j = b + (W + K + i * (W + K)) + W + j by omega] at q⟩
theorem Zpx {L : List Int} {a tp n : Nat} {w : Int} {p : Zy} (h : L[a]? = some w) (hd : dc w = p) (hk : p.Kind = 1 ∨ p.Kind = 2) (ht : (a : Int) + 1 + p.Off = tp) (hn : pw p = n) (hi : tp + n ≤ L.length) : fol [L] 0 (a : Int) = (⟨Z4g p, 0, (tp : Int)⟩, 0) := by
 have ha : a < L.length := (List.getElem?_eq_some_iff.1 h).1
 have e1 : inB [L] 0 (a : Int) 1 = true := inB_iff.2 ⟨by decide, by simp, by omega, by decide, by show (a : Int) + 1 ≤ (L.length : Int); omega⟩
 have e2 : inB [L] 0 (tp : Int) (n : Int) = true := inB_iff.2 ⟨by decide, by simp, by omega, by omega, by show (tp : Int) + n ≤ (L.length : Int); omega⟩
 have e3 : wd [L] 0 (a : Int) = w := by
  unfold wd
  show (L[(a : Int).toNat]?).getD 0 = w
  rw [Int.toNat_natCast, h]
  rfl
 unfold fol
 rw [if_pos e1, e3, hd]
 simp only
 rw [if_neg (by omega), if_neg (by omega), if_neg (by omega)]
 unfold tgt
 rw [if_neg (by omega), if_pos hk, ht, hn, if_pos e2]
theorem Z49 {L : List Int} {a : Nat} (h : L[a]? = some 0) : atR ⟨[L], 0, 0⟩ 0 (a : Int) = (r0, 0) := by
 have ha : a < L.length := (List.getElem?_eq_some_iff.1 h).1
 have e1 : inB [L] 0 (a : Int) 1 = true := inB_iff.2 ⟨by decide, by simp, by omega, by decide, by show (a : Int) + 1 ≤ (L.length : Int); omega⟩
 have e3 : wd [L] 0 (a : Int) = 0 := by
  unfold wd
  show (L[(a : Int).toNat]?).getD 0 = 0
  rw [Int.toNat_natCast, h]
  rfl
 have ef : fol [L] 0 (a : Int) = (l0, 0) := by
  unfold fol
  rw [if_pos e1, e3]
  rfl
 unfold atR
 simp only
 rw [ef]
 rfl
theorem Ya6 {L m : List Int} {tp : Nat} (h : ∀ (j : Nat), j < m.length → L[tp + j]? = m[j]?) : (L.drop tp).take m.length = m := by
 refine List.ext_getElem? fun j => ?_
 rw [List.getElem?_take]
 by_cases q : j < m.length
 ·rw [if_pos q, List.getElem?_drop, h j q]
 rw [if_neg q, List.getElem?_eq_none (by omega)]
theorem Zxw {L m : List Int} {tp : Nat} {W K : Nat} (hm : m.length = W) (h : ∀ (j : Nat), j < m.length → L[tp + j]? = m[j]?) : X7 ⟨[L], 0, 0⟩ ⟨some ⟨[L], 0, 0⟩, 1, 0, (tp : Int), (W : Int), (K : Int), 0, 0, 0⟩ = m := by
 unfold X7
 rw [if_neg (by simp), if_pos rfl]
 show (L.drop ((tp : Int)).toNat).take ((W : Int)).toNat = m
 rw [Int.toNat_natCast, Int.toNat_natCast, ← hm]
 exact Ya6 h
theorem Z5h {L : List Int} {tp W K i : Nat} (hi : i < K) : Ys ⟨[L], 0, 0⟩ ⟨some ⟨[L], 0, 0⟩, 1, 0, (tp : Int), (W : Int), (K : Int), 0, 0, 0⟩ (i : Int) = atR ⟨[L], 0, 0⟩ 0 ((tp + W + i : Nat) : Int) := by
 have hk : Zx ⟨some ⟨[L], 0, 0⟩, 1, 0, (tp : Int), (W : Int), (K : Int), 0, 0, 0⟩ = (K : Int) := rfl
 unfold Ys
 rw [hk, if_neg (by omega), if_pos rfl]
 simp only
 congr 1
theorem Zzx {L : List Int} {a : Nat} {r : Zb} (h : atR ⟨[L], 0, 0⟩ 0 (a : Int) = (r, 0)) : OKr ⟨[L], 0, 0⟩ r := by
 have := Zo9 (A := ⟨[L], 0, 0⟩) 0 (a : Int)
 rwa [h] at this
theorem Z5p {A : Zj} : MR A r0 ⟨0, [], []⟩ := Z5o (A := A) .z rfl
theorem Zqv {α β : Type} {f : α → β} {l : List α} {i : Nat} {x : β} (h : (l.map f)[i]? = some x) : ∃ y, l[i]? = some y ∧ y ∈ l ∧ f y = x := by
 rw [List.getElem?_map] at h
 cases hy : l[i]? with
 | none => rw [hy] at h; cases h
 | some y =>
  rw [hy] at h
  exact ⟨y, rfl, List.mem_of_getElem? hy, Option.some.inj h⟩
theorem Z0o {L : List Int} {t : Tr} {d : Nat} (hm : Nm t d) (h1 : t.Kind = 1) {l : List Int} {a : Nat} (g : AgL L t l a)
  (ih : ∀ x ∈ t.Kids, ∀ (s : List Int) (b : Nat), AgL L x s b → ∃ r, atR ⟨[L], 0, 0⟩ 0 (b : Int) = (r, 0) ∧ MR ⟨[L], 0, 0⟩ r (fm x)) : ∃ r, atR ⟨[L], 0, 0⟩ 0 (a : Int) = (r, 0) ∧ MR ⟨[L], 0, 0⟩ r (fm t) := by
 obtain ⟨e, i1, i2, hk, hs2, hkeep⟩ := Zz8 hm h1 (fun x hx => (hm.okids (.inl h1) x hx).pres) g.ha g.hs
 have l2 := Zur t l a
 have es : sz t = ((t.Words.length : Int) + (t.Kids.length : Int)) + (t.Kids.map sz).sum := by rw [Zes, if_pos h1]
 have s0 := Q2 (f := sz) (xs := t.Kids) fun y hy => (hk y hy).1.2
 have ln := (hm.sim.1 l a g.ha g.hs).1
 have gl := g.hl
 have ga := g.ha
 have gs := g.hs
 have hw : L[a]? = some (hdS t l a) := by rw [g.eq a (by omega) (.inl rfl), hkeep a (by omega) (by omega), Z5y g.ha g.ha, if_pos rfl]
 have ho : -536870912 ≤ Zi2 t l a ∧ Zi2 t l a < 536870912 ∧ ¬ (Zi2 t l a = 0 ∧ (t.Words.length : Int) = 0 ∧ (t.Kids.length : Int) = 0) := by unfold Zi2; split <;> omega
 have hd : dc (hdS t l a) = ⟨1, Zi2 t l a, (t.Words.length : Int), (t.Kids.length : Int), 0, 0, 0, false⟩ := dcS ho.1 ho.2.1 (by omega) (by omega) (by omega) (by omega) ho.2.2
 obtain ⟨tp, ht1, ht2⟩ : ∃ tp : Nat, (a : Int) + 1 + Zi2 t l a = tp ∧ (tp = l.length ∨ t.Words.length + t.Kids.length = 0 ∧ tp = a) := by
  unfold Zi2
  by_cases q : t.Words.length + t.Kids.length = 0
  ·rw [if_pos q]; exact ⟨a, by omega, .inr ⟨q, rfl⟩⟩
  rw [if_neg q]; exact ⟨l.length, by omega, .inl rfl⟩
 have hf := Zpx (n := t.Words.length + t.Kids.length) hw hd (.inl rfl) ht1 (by unfold pw; rw [if_pos rfl]; simp) (by omega)
 have hat : atR ⟨[L], 0, 0⟩ 0 (a : Int) = (⟨some ⟨[L], 0, 0⟩, 1, 0, (tp : Int), (t.Words.length : Int), (t.Kids.length : Int), 0, 0, 0⟩, 0) := by
  unfold atR
  simp only
  rw [hf]
  rfl
 refine ⟨_, hat, .mk _ _ (Zzx hat) (by rw [Zdk, h1]) ?_ (by rw [Gd (by omega), List.length_map]; rfl) ?_ ?_⟩
 ·rw [Zlr]
  refine (Zxw rfl fun j hj => ?_).symm
  have htp : tp = l.length := by omega
  subst htp
  rw [g.eq _ (by omega) (.inr (by omega)), hkeep _ (by omega) (by omega)]
  unfold RS1
  rw [List.append_assoc, List.getElem?_append_right (by rw [Yv]; omega), Yv, List.getElem?_append_left (by omega)]
  congr 1
  omega
 all_goals
  intro i x hx
  rw [Gd (by omega)] at hx
  obtain ⟨y, hy, hym, rfl⟩ := Zqv hx
  have hi : i < t.Kids.length := (List.getElem?_eq_some_iff.1 hy).1
  have htp : tp = l.length := by omega
  obtain ⟨s, q⟩ := Z5a (L := L) hk (l := RS1 t l a) (b := l.length + t.Words.length) (by omega) hs2 (fun j hj => by
   unfold RS1
   rw [List.getElem?_append_right (by rw [List.length_append, Yv]; omega), List.getElem?_replicate, if_pos (by rw [List.length_append, Yv]; omega)]) (by rw [← e]; exact g.hl) (fun p hp hq => by rw [← e] at hp ⊢; exact g.eq p hp (.inr (by omega))) i y hy
  obtain ⟨r, r1, r2⟩ := ih y hym s _ q
  rw [Z5h hi, htp, r1] <;> first | exact r2 | rfl
theorem Yaf {L : List Int} {tp n i : Nat} (hi : i < n) : Ys ⟨[L], 0, 0⟩ ⟨some ⟨[L], 0, 0⟩, 8, 0, (tp : Int), 0, 0, (n : Int), 0, 0⟩ (i : Int) = atR ⟨[L], 0, 0⟩ 0 ((tp + i : Nat) : Int) := by
 have hk : Zx ⟨some ⟨[L], 0, 0⟩, 8, 0, (tp : Int), 0, 0, (n : Int), 0, 0⟩ = (n : Int) := rfl
 unfold Ys
 rw [hk, if_neg (by omega), if_neg (by simp), if_pos rfl]
 simp only
 congr 1
theorem Z6j {L : List Int} {t : Tr} {d : Nat} (hm : Nm t d) (h8 : t.Kind = 8) {l : List Int} {a : Nat} (g : AgL L t l a)
  (ih : ∀ x ∈ t.Kids, ∀ (s : List Int) (b : Nat), AgL L x s b → ∃ r, atR ⟨[L], 0, 0⟩ 0 (b : Int) = (r, 0) ∧ MR ⟨[L], 0, 0⟩ r (fm x)) : ∃ r, atR ⟨[L], 0, 0⟩ 0 (a : Int) = (r, 0) ∧ MR ⟨[L], 0, 0⟩ r (fm t) := by
 obtain ⟨e, hk, hs2, hkeep⟩ := Zz2 hm h8 (fun x hx => (hm.okids (.inr h8) x hx).pres) g.ha g.hs
 have l2 := Zuq t l a
 have es : sz t = (t.Kids.length : Int) + (t.Kids.map sz).sum := by rw [Zes, if_neg (by omega), if_neg (by omega), if_pos h8]
 have s0 := Q2 (f := sz) (xs := t.Kids) fun y hy => (hk y hy).1.2
 have ln := (hm.sim.1 l a g.ha g.hs).1
 have gl := g.hl
 have ga := g.ha
 have gs := g.hs
 have hw : L[a]? = some (hdL t l a) := by rw [g.eq a (by omega) (.inl rfl), hkeep a (by omega) (by omega), Z5x g.ha g.ha, if_pos rfl]
 have hd : dc (hdL t l a) = ⟨2, (l.length : Int) - a - 1, 0, 0, t.Kind - 2, (t.Kids.length : Int), 0, false⟩ := dcL (by omega) (by omega) (by omega) (by omega) (by omega) (by omega)
 rw [h8] at hd
 have hf := Zpx (tp := l.length) (n := t.Kids.length) hw hd (.inr rfl) (by simp only; omega) (by unfold pw wdt; simp; omega) (by omega)
 have hat : atR ⟨[L], 0, 0⟩ 0 (a : Int) = (⟨some ⟨[L], 0, 0⟩, 8, 0, (l.length : Int), 0, 0, (t.Kids.length : Int), 0, 0⟩, 0) := by
  unfold atR
  simp only
  rw [hf]
  rfl
 refine ⟨_, hat, .mk _ _ (Zzx hat) (by rw [Zdk, h8]) ?_ (by rw [Gd (by omega), List.length_map]; rfl) ?_ ?_⟩
 ·rw [Zlr]
  have := (Uy hm.f.rt (by omega) hm.k).2.2.1 (by omega)
  rw [this]
  rfl
 all_goals
  intro i x hx
  rw [Gd (by omega)] at hx
  obtain ⟨y, hy, hym, rfl⟩ := Zqv hx
  have hi : i < t.Kids.length := (List.getElem?_eq_some_iff.1 hy).1
  obtain ⟨s, q⟩ := Z5a (L := L) hk (l := RP8 t l a) (b := l.length) (by omega) hs2 (fun j hj => by
   unfold RP8
   rw [List.getElem?_append_right (by rw [Yv]; omega), List.getElem?_replicate, if_pos (by rw [Yv]; omega)]) (by rw [← e]; exact g.hl) (fun p hp hq => by rw [← e] at hp ⊢; exact g.eq p hp (.inr (by omega))) i y hy
  obtain ⟨r, r1, r2⟩ := ih y hym s _ q
  rw [Yaf hi, r1] <;> first | exact r2 | rfl
theorem Z8t {L ps : List Int} {tp i : Nat} {c w : Int} (hc : 1 ≤ c ∧ c ≤ 5) (hw : ∀ q, q < ps.length → L[tp + q]? = ps[q]?) (h0 : ∀ (q : Nat) (v : Int), ps[q]? = some v → 0 ≤ v) (hq : i * wid c / 64 < ps.length) (hp : (ps[i * wid c / 64]?.getD 0) / 2 ^ (i * wid c % 64) % 2 ^ wid c = w) :
  Z1o (wd [L] 0 ((tp : Int) + (i : Int) / each c)) c ((i : Int) % each c) = w := by
 obtain ⟨E, w0, e1, e2, e3, e4, e5⟩ : ∃ E w0 : Nat, each c = (E : Int) ∧ wid c = w0 ∧ wdt c = (w0 : Int) ∧ i / E = i * w0 / 64 ∧ i % E * w0 = i * w0 % 64 := by
  rcases c5' (c := c) (by omega) with rfl | rfl | rfl | rfl | rfl | rfl
  ·omega
  ·exact ⟨64, 1, rfl, rfl, rfl, by omega, by omega⟩
  ·exact ⟨8, 8, rfl, rfl, rfl, by omega, by omega⟩
  ·exact ⟨4, 16, rfl, rfl, rfl, by omega, by omega⟩
  ·exact ⟨2, 32, rfl, rfl, rfl, by omega, by omega⟩
  exact ⟨1, 64, rfl, rfl, rfl, by omega, by omega⟩
 rw [e2] at hq hp
 obtain ⟨v, hv⟩ : ∃ v, ps[i * w0 / 64]? = some v := ⟨_, List.getElem?_eq_getElem hq⟩
 have v0 := h0 _ v hv
 have hwd : wd [L] 0 ((tp : Int) + (i : Int) / each c) = v := by
  unfold wd
  show (L[((tp : Int) + (i : Int) / each c).toNat]?).getD 0 = v
  have : ((tp : Int) + (i : Int) / each c).toNat = tp + i * w0 / 64 := by rw [e1, ← Int.natCast_ediv, e4]; omega
  rw [this, hw _ hq, hv]
  rfl
 rw [hwd]
 unfold Z1o
 rw [hv, Option.getD_some] at hp
 have f1 : ((i : Int) % each c * wdt c).toNat = i * w0 % 64 := by rw [e1, e3, ← Int.natCast_emod, ← Int.natCast_mul, e5, Int.toNat_natCast]
 have f2 : (wdt c).toNat = w0 := by rw [e3, Int.toNat_natCast]
 rw [f1, f2, ← hp, Int.natCast_emod, Int.natCast_ediv, Int.toNat_of_nonneg v0, Int.natCast_pow, Int.natCast_pow]
 rfl
theorem Z67 {c : Int} (h : 1 ≤ c ∧ c ≤ 5) {ns : List Int} (hn : ∀ n ∈ ns, 0 ≤ n ∧ Zbb c n = true) : (∀ (q : Nat) (v : Int), (Zgh c ns)[q]? = some v → 0 ≤ v) ∧ (Zgh c ns).length = (ns.length * wid c + 63) / 64 ∧
  ∀ (i : Nat) (n : Int), ns[i]? = some n → i * wid c / 64 < (Zgh c ns).length ∧ ((Zgh c ns)[i * wid c / 64]?.getD 0) / 2 ^ (i * wid c % 64) % 2 ^ wid c = n := by
 have ff : ∀ n ∈ ns, 0 ≤ n ∧ n < 2 ^ wid c := fun n hm => ⟨(hn n hm).1, by have := (hn n hm).2; unfold Zbb at this; exact of_decide_eq_true this⟩
 have key : 0 < wid c ∧ ∀ i : Nat, i * wid c % 64 + wid c ≤ 64 := by
  rcases c5' (c := c) (by omega) with rfl | rfl | rfl | rfl | rfl | rfl
  ·omega
  ·exact ⟨by decide, fun i => by show i * 1 % 64 + 1 ≤ 64; omega⟩
  ·exact ⟨by decide, fun i => by show i * 8 % 64 + 8 ≤ 64; omega⟩
  ·exact ⟨by decide, fun i => by show i * 16 % 64 + 16 ≤ 64; omega⟩
  ·exact ⟨by decide, fun i => by show i * 32 % 64 + 32 ≤ 64; omega⟩
  exact ⟨by decide, fun i => by show i * 64 % 64 + 64 ≤ 64; omega⟩
 have b := Z1y key.1 key.2 ff
 have e : Zgh c ns = Ge (Zi7 (wid c)) (List.replicate ((ns.length * wid c + 63) / 64) 0) 0 ns := by unfold Zgh; rw [if_neg (by omega)]
 rw [e]
 refine ⟨fun q v hv => (b.1.2 q v hv).1, b.1.1, fun i n hi => ⟨?_, b.2 i n (List.getElem?_eq_some_iff.1 hi).1 hi⟩⟩
 have hl := (List.getElem?_eq_some_iff.1 hi).1
 have := Km (m := wid c) hl
 have := key.1
 rw [b.1.1]
 omega
theorem Z7q {A : Zj} {s a : Int} {x : Xf} (h : fol A.segments s a = (x, 0)) (hk : x.P.Kind = 2) (hc : ¬ x.P.Code = 7) : atR A s a = (⟨some A, x.P.Code + 2, x.Segment, x.At, 0, 0, x.P.Count, 0, 0⟩, 0) := by
 unfold atR
 rw [h]
 simp only
 rw [if_neg (by omega), if_neg (by omega), if_neg hc]
theorem Z7p {A : Zj} {s a kd n W K : Int} {x : Xf} (h : fol A.segments s a = (x, 0)) (hk : x.P.Kind = 2) (hc : x.P.Code = 7) (ht : dc (wd A.segments x.Segment x.At) = ⟨kd, n, W, K, 0, 0, 0, false⟩) (h1 : kd = 0 ∨ kd = 1) (h2 : 0 ≤ n) (h3 : n * (W + K) ≤ x.P.Count) : atR A s a = (⟨some A, 9, x.Segment, x.At, W, K, n, 0, 0⟩, 0) := by
 unfold atR
 rw [h]
 simp only
 rw [if_neg (by omega), if_neg (by omega), if_pos hc, ht]
 simp only
 rw [if_neg (by omega)]
theorem Z6i {L : List Int} {t : Tr} {d : Nat} (hm : Nm t d) (h2 : 2 ≤ t.Kind ∧ t.Kind ≤ 7) {l : List Int} {a : Nat} (g : AgL L t l a) : ∃ r, atR ⟨[L], 0, 0⟩ 0 (a : Int) = (r, 0) ∧ MR ⟨[L], 0, 0⟩ r (fm t) := by
 have e := Zy9 hm h2 g.ha g.hs
 have hat0 := hm.atoms h2
 have gl := g.hl
 have ga := g.ha
 have gs := g.hs
 have hlb := Ztl hm
 have s0 := hm.sim.2
 have hlen : (Zgh (t.Kind - 2) (ato t)).length = (t.Kids.length * wid (t.Kind - 2) + 63) / 64 := by
  rw [(Z0g (c := t.Kind - 2) (by omega) (ns := ato t) (by rw [Zog]; omega) (fun n hn => by
   obtain ⟨k, hk, rfl⟩ := List.mem_map.1 hn
   obtain ⟨w, hw, h0, _, h1⟩ := hat0 k hk
   rw [hw]
   exact ⟨h0, h1⟩)).2, Zog]
 have l2 : (ly t l a).length = l.length + (Zgh (t.Kind - 2) (ato t)).length := by rw [e, List.length_append, Yv]
 have hw : L[a]? = some (hdL t l a) := by rw [g.eq a (by omega) (.inl rfl), e, Zof (by rw [Yv]; exact ga), Zrw ga, if_pos rfl]
 have hd : dc (hdL t l a) = ⟨2, (l.length : Int) - a - 1, 0, 0, t.Kind - 2, (t.Kids.length : Int), 0, false⟩ := dcL (by omega) (by omega) (by omega) (by omega) (by omega) (by omega)
 have hf := Zpx (tp := l.length) (n := (Zgh (t.Kind - 2) (ato t)).length) hw hd (.inr rfl) (by simp only; omega) (by
  unfold pw
  simp only
  rw [if_neg (by decide), if_neg (by omega), hlen, ← Ybb]
  simp) (by omega)
 have hat : atR ⟨[L], 0, 0⟩ 0 (a : Int) = (⟨some ⟨[L], 0, 0⟩, t.Kind, 0, (l.length : Int), 0, 0, (t.Kids.length : Int), 0, 0⟩, 0) := by
  rw [Z7q (A := ⟨[L], 0, 0⟩) hf rfl (by show ¬ t.Kind - 2 = 7; omega)]
  show ((⟨_, t.Kind - 2 + 2, _, _, _, _, _, _, _⟩ : Zb), _) = _
  rw [show t.Kind - 2 + 2 = t.Kind by omega]
  rfl
 have ho := Zzx hat
 have kn : Zx (⟨some ⟨[L], 0, 0⟩, t.Kind, 0, (l.length : Int), 0, 0, (t.Kids.length : Int), 0, 0⟩ : Zb) = (t.Kids.length : Int) := by unfold Zx; rw [if_neg (by simp only; omega)]
 refine ⟨_, hat, .mk _ _ ho (Zdk t) ?_ (by rw [Gd (by omega), List.length_map, kn]) ?_ ?_⟩
 ·rw [Zlr, (Uy hm.f.rt (by omega) hm.k).2.2.1 (by omega)]
  unfold X7
  rw [if_neg (by simp only; omega), if_neg (by simp only; omega)]
 all_goals
  intro i x hx
  rw [Gd (by omega)] at hx
  obtain ⟨y, hy, hym, rfl⟩ := Zqv hx
  have hi : i < t.Kids.length := (List.getElem?_eq_some_iff.1 hy).1
  have hks := Yb3 (A := ⟨[L], 0, 0⟩) (r := ⟨some ⟨[L], 0, 0⟩, t.Kind, 0, (l.length : Int), 0, 0, (t.Kids.length : Int), 0, 0⟩) (by simp only; omega) (i := (i : Int)) (by rw [kn]; omega)
 ·rw [hks]
 obtain ⟨w, hyw, w0, w1, w2⟩ := hat0 y hym
 have hok := Uz ho (i : Int)
 rw [hks] at hok ⊢
 have hnum : Z4e ⟨[L], 0, 0⟩ (⟨some ⟨[L], 0, 0⟩, 10, 0, (l.length : Int), 0, 0, 0, t.Kind - 2, (i : Int)⟩ : Zb) = w := by
  unfold Z4e
  simp only
  by_cases hc : t.Kind - 2 = 0
  ·rw [if_pos hc]
   rw [hc] at w2
   unfold Zbb at w2
   have := of_decide_eq_true w2
   rw [show (2 : Int) ^ wid 0 = 1 from rfl] at this
   omega
  rw [if_neg hc]
  obtain ⟨p1, p2, p3⟩ := Z67 (c := t.Kind - 2) (by omega) (ns := ato t) (fun n hn => by
   obtain ⟨k, hk, rfl⟩ := List.mem_map.1 hn
   obtain ⟨w, hw, h0, _, h1⟩ := hat0 k hk
   rw [hw]
   exact ⟨h0, h1⟩)
  obtain ⟨p4, p5⟩ := p3 i w (by unfold ato; rw [List.getElem?_map, hy, hyw]; rfl)
  exact Z8t (by omega) (fun q hq => by
   rw [g.eq _ (by omega) (.inr (by omega)), e, List.getElem?_append_right (by rw [Yv]; omega), Yv]
   congr 1
   omega) p1 p4 p5
 have : MR ⟨[L], 0, 0⟩ (⟨some ⟨[L], 0, 0⟩, 10, 0, (l.length : Int), 0, 0, 0, t.Kind - 2, (i : Int)⟩ : Zb) _ := Z5o hok rfl
 have ew : X7 ⟨[L], 0, 0⟩ (⟨some ⟨[L], 0, 0⟩, 10, 0, (l.length : Int), 0, 0, 0, t.Kind - 2, (i : Int)⟩ : Zb) = [w] := by unfold X7; rw [if_pos rfl, hnum]
 rw [ew] at this
 have ey : fm y = ⟨10, [w], []⟩ := by rw [hyw, Zt0]; rfl
 rw [ey]
 exact this
theorem Yby {t : Tr} {W K : Nat} (hfr : fr t.Kids = ((W : Int), (K : Int))) (hn : t.Kids.length ≤ 200000) (hW : W ≤ 65535) (hK : K ≤ 65535) : ∃ kd, (kd = 0 ∨ kd = 1) ∧ dc (Zig t W K) = ⟨kd, (t.Kids.length : Int), (W : Int), (K : Int), 0, 0, 0, false⟩ := by
 unfold Zig
 by_cases h0 : t.Kids.length = 0
 ·have hk : t.Kids = [] := List.length_eq_zero_iff.1 h0
  rw [hk] at hfr
  have e1 : (0 : Int) = (W : Int) := congrArg Prod.fst hfr
  have e2 : (0 : Int) = (K : Int) := congrArg Prod.snd hfr
  rw [← e1, ← e2, h0]
  exact ⟨0, .inl rfl, rfl⟩
 have := dcS (off := (t.Kids.length : Int)) (data := (W : Int)) (ptrs := (K : Int)) (by omega) (by omega) (by omega) (by omega) (by omega) (by omega) (by omega)
 rw [Int.emod_eq_of_lt (by omega) (by omega)] at this
 exact ⟨1, .inr rfl, this⟩
theorem Zrc {W : Nat} {l : List Int} (h : l.length ≤ W) : (Zyd W l).length = W := by
 unfold Zyd
 rw [List.length_append, List.length_replicate]
 omega
theorem Z80 {W j : Nat} {l : List Int} (h : l.length ≤ W) (hj : j < W) : (Zyd W l)[j]? = some (l[j]?.getD 0) := by
 unfold Zyd
 by_cases q : j < l.length
 ·rw [List.getElem?_append_left q, List.getElem?_eq_getElem q]
  rfl
 rw [List.getElem?_append_right (by omega), List.getElem?_replicate, if_pos (by omega), List.getElem?_eq_none (by omega)]
 rfl
theorem Zv3 {K : Nat} {l : List Tr} (h : l.length ≤ K) : (Ztr K l).length = K := by
 unfold Ztr
 rw [List.length_append, List.length_replicate]
 omega
theorem Z8z {K j : Nat} {l : List Tr} {x : Tr} (h : (Ztr K l)[j]? = some x) : l[j]? = some x ∨ l.length ≤ j ∧ j < K ∧ x = ⟨0, [], []⟩ := by
 unfold Ztr at h
 by_cases q : j < l.length
 ·rw [List.getElem?_append_left q] at h
  exact .inl h
 rw [List.getElem?_append_right (by omega), List.getElem?_replicate] at h
 split at h
 ·exact .inr ⟨by omega, by omega, (Option.some.inj h).symm⟩
 cases h
theorem Z6h {L : List Int} {t : Tr} {d : Nat} (hm : Nm t d) (h9 : t.Kind = 9) {l : List Int} {a : Nat} (g : AgL L t l a)
  (ih : ∀ u ∈ t.Kids, ∀ x ∈ u.Kids, ∀ (s : List Int) (b : Nat), AgL L x s b → ∃ r, atR ⟨[L], 0, 0⟩ 0 (b : Int) = (r, 0) ∧ MR ⟨[L], 0, 0⟩ r (fm x)) : ∃ r, atR ⟨[L], 0, 0⟩ 0 (a : Int) = (r, 0) ∧ MR ⟨[L], 0, 0⟩ r (fm t) := by
 obtain ⟨W, K, W1, K1, k3, k4, hfr, k6, k7, k8, k9, k10, k11⟩ := Zy8 hm h9 (fun x hx y hy => ((hm.structs h9 x hx).1.okids (.inl (hm.structs h9 x hx).2) y hy).pres) g.ha g.hs
 have hk : ∀ x ∈ t.Kids, x.Kids.length ≤ K ∧ ∀ y ∈ x.Kids, (Sim y ∧ 0 ≤ sz y) ∧ Zlq y := fun x hx => (k3 x hx).2
 obtain ⟨p1, p2⟩ := Z5u (W := W) (K := K) hk (l := RC9 t W K l a) (b := l.length + 1) (by omega) k7
 rw [← k8] at p1 p2
 have hzn := Q2 (f := szK) (xs := t.Kids) fun y hy => Q2 fun z hz => ((hk y hy).2 z hz).1.2
 have gl := g.hl
 have ga := g.ha
 have gs := g.hs
 have hlb := Ztl hm
 have hw : L[a]? = some (hd9 t W K l a) := by rw [g.eq a (by omega) (.inl rfl), p2 a (by omega) (fun i x hx => .inl (by omega)), k9 a ga, if_pos rfl]
 have hwt : L[l.length]? = some (Zig t W K) := by rw [g.eq _ (by omega) (.inr (by omega)), p2 _ (by omega) (fun i x hx => .inl (by omega)), k10]
 have hd : dc (hd9 t W K l a) = ⟨2, (l.length : Int) - a - 1, 0, 0, 7, ((t.Kids.length * (W + K) : Nat) : Int), 0, false⟩ := dcL (by omega) (by omega) (by omega) (by omega) (by omega) (by omega)
 have hf := Zpx (tp := l.length) (n := t.Kids.length * (W + K) + 1) hw hd (.inr rfl) (by simp only; omega) (by unfold pw; simp) (by omega)
 obtain ⟨kd, kd1, kd2⟩ := Yby hfr hlb W1 K1
 have hwd : wd [L] 0 (l.length : Int) = Zig t W K := by
  unfold wd
  show (L[(l.length : Int).toNat]?).getD 0 = _
  rw [Int.toNat_natCast, hwt]
  rfl
 have hat : atR ⟨[L], 0, 0⟩ 0 (a : Int) = (⟨some ⟨[L], 0, 0⟩, 9, 0, (l.length : Int), (W : Int), (K : Int), (t.Kids.length : Int), 0, 0⟩, 0) :=
  Z7p (A := ⟨[L], 0, 0⟩) hf rfl rfl (by show dc (wd [L] 0 (l.length : Int)) = _; rw [hwd, kd2]) kd1 (by omega) (by show (t.Kids.length : Int) * ((W : Int) + (K : Int)) ≤ ((t.Kids.length * (W + K) : Nat) : Int); rw [Int.natCast_mul, Int.natCast_add]; exact Int.le_refl _)
 have ho := Zzx hat
 have kn : Zx (⟨some ⟨[L], 0, 0⟩, 9, 0, (l.length : Int), (W : Int), (K : Int), (t.Kids.length : Int), 0, 0⟩ : Zb) = (t.Kids.length : Int) := rfl
 have main : ∀ (i : Nat) (y : Tr), t.Kids[i]? = some y → (Ys ⟨[L], 0, 0⟩ (⟨some ⟨[L], 0, 0⟩, 9, 0, (l.length : Int), (W : Int), (K : Int), (t.Kids.length : Int), 0, 0⟩ : Zb) (i : Int)).2 = 0 ∧ MR ⟨[L], 0, 0⟩ (Ys ⟨[L], 0, 0⟩ (⟨some ⟨[L], 0, 0⟩, 9, 0, (l.length : Int), (W : Int), (K : Int), (t.Kids.length : Int), 0, 0⟩ : Zb) (i : Int)).1 (Zj3 (fr t.Kids) (fm y)) := fun i y hy => by
  have hym := List.mem_of_getElem? hy
  have hi : i < t.Kids.length := (List.getElem?_eq_some_iff.1 hy).1
  have hmul := Km (m := W + K) hi
  have hks := Z39 (A := ⟨[L], 0, 0⟩) (r := ⟨some ⟨[L], 0, 0⟩, 9, 0, (l.length : Int), (W : Int), (K : Int), (t.Kids.length : Int), 0, 0⟩) rfl (i := (i : Int)) (by rw [kn]; omega)
  have hok := Uz ho (i : Int)
  rw [hks] at hok ⊢
  have ec : (l.length : Int) + 1 + (i : Int) * ((W : Int) + (K : Int)) = ((l.length + 1 + i * (W + K) : Nat) : Int) := by simp [Int.natCast_add, Int.natCast_mul]
  simp only [ec] at hok ⊢
  have yw := (k3 y hym).1
  have yk := (k3 y hym).2.1
  have keep : ∀ j, j < W + K → (j < W ∨ W + y.Kids.length ≤ j) → L[l.length + 1 + i * (W + K) + j]? = some (y.Words[j]?.getD 0) := fun j hj hq => by
   rw [g.eq _ (by omega) (.inr (by omega)), p2 _ (by omega) (fun i' x' hx' => ?_), k11 i y hy j hj]
   have hi' : i' < t.Kids.length := (List.getElem?_eq_some_iff.1 hx').1
   have xk := (k3 x' (List.mem_of_getElem? hx')).2.1
   rcases Nat.lt_trichotomy i' i with q | q | q
   ·have := Km (m := W + K) q
    exact .inr (by omega)
   ·subst q
    rw [hy] at hx'
    cases hx'
    omega
   have := Km (m := W + K) q
   exact .inl (by omega)
  have e1 : (fr t.Kids).1.toNat = W := by rw [hfr]; exact Int.toNat_natCast W
  have e2 : (fr t.Kids).2.toNat = K := by rw [hfr]; exact Int.toNat_natCast K
  have k1 := (hm.structs h9 y hym).2
  have fk : (fm y).Kids = y.Kids.map fm := Gd (by omega)
  refine ⟨trivial, .mk _ _ hok (by show (fm y).Kind = 1; rw [Zdk, k1]) ?_ ?_ ?_ ?_⟩
  ·show Zyd (fr t.Kids).1.toNat (fm y).Words = _
   rw [e1, Zlr]
   refine (Zxw (Zrc yw) fun j hj => ?_).symm
   rw [Zrc yw] at hj
   rw [Z80 yw hj, keep j (by omega) (.inl hj)]
  ·show ((Ztr (fr t.Kids).2.toNat (fm y).Kids).length : Int) = (K : Int)
   rw [e2, Zv3 (by rw [fk, List.length_map]; exact yk)]
  all_goals
   intro j x hx
   have hx' : (Ztr (fr t.Kids).2.toNat (fm y).Kids)[j]? = some x := hx
   rw [e2, fk] at hx'
   have fin : ∃ r, atR ⟨[L], 0, 0⟩ 0 ((l.length + 1 + i * (W + K) + W + j : Nat) : Int) = (r, 0) ∧ MR ⟨[L], 0, 0⟩ r x ∧ j < K := by
    rcases Z8z hx' with q | ⟨q1, q2, q3⟩
    ·obtain ⟨z, hz, hzm, rfl⟩ := Zqv q
     obtain ⟨s, qs⟩ := Ybi (L := L) (W := W) (K := K) hk (l := RC9 t W K l a) (b := l.length + 1) (by omega) k7 (fun i' x' hx' j' hj' => by
      have := k11 i' x' hx' (W + j') (by have := (k3 x' (List.mem_of_getElem? hx')).2.1; omega)
      have z : x'.Words[W + j']? = none := List.getElem?_eq_none (by have := (k3 x' (List.mem_of_getElem? hx')).1; omega)
      rw [show l.length + 1 + i' * (W + K) + W + j' = l.length + 1 + i' * (W + K) + (W + j') by omega, this, z]
      rfl) (by rw [← k8]; exact gl) (fun p hp hq => by rw [← k8] at hp ⊢; exact g.eq p hp (.inr (by omega))) i y hy j z hz
     obtain ⟨r, r1, r2⟩ := ih y hym z hzm s _ qs
     exact ⟨r, r1, r2, by have := (List.getElem?_eq_some_iff.1 hz).1; omega⟩
    rw [List.length_map] at q1
    subst q3
    refine ⟨r0, Z49 ?_, Z5p, q2⟩
    rw [show l.length + 1 + i * (W + K) + W + j = l.length + 1 + i * (W + K) + (W + j) by omega, keep (W + j) (by omega) (.inr (by omega)), List.getElem?_eq_none (by omega)]
    rfl
   obtain ⟨r, r1, r2, r3⟩ := fin
   rw [Z5h r3, r1] <;> first | exact r2 | rfl
 refine ⟨_, hat, .mk _ _ ho (by rw [Zdk, h9]) ?_ (by rw [Zjm h9, List.length_map, kn]) ?_ ?_⟩
 ·rw [Zlr, (Uy hm.f.rt (by omega) hm.k).2.2.1 (by omega)]
  rfl
 all_goals
  intro i x hx
  rw [Zjm h9] at hx
  obtain ⟨y, hy, hym, rfl⟩ := Zqv hx
  first | exact (main i y hy).1 | exact (main i y hy).2
theorem Z99 {L : List Int} : ∀ (n : Nat) (t : Tr) (d : Nat), SizeOf.sizeOf t < n → Nm t d → ∀ (l : List Int) (a : Nat), AgL L t l a → ∃ r, atR ⟨[L], 0, 0⟩ 0 (a : Int) = (r, 0) ∧ MR ⟨[L], 0, 0⟩ r (fm t)
 | 0, _, _, h, _, _, _, _ => by omega
 | n + 1, t, d, h, hm, l, a, g => by
  have g2 := Za7 hm.f.rt
  have h10 := hm.k
  by_cases h0 : t.Kind = 0
  ·have := g.eq a (by rw [Zmk h0]; exact g.ha) (.inl rfl)
   rw [Zmk h0, g.z] at this
   rw [hm.null h0]
   exact ⟨r0, Z49 this, by rw [Zt0]; exact Z5p⟩
  by_cases h1 : t.Kind = 1
  ·exact Z0o hm h1 g fun x hx s b q => Z99 n x (d - 1) (by have := Yk hx; omega) (hm.okids (.inl h1) x hx) s b q
  by_cases h2 : 2 ≤ t.Kind ∧ t.Kind ≤ 7
  ·exact Z6i hm h2 g
  by_cases h8 : t.Kind = 8
  ·exact Z6j hm h8 g fun x hx s b q => Z99 n x (d - 1) (by have := Yk hx; omega) (hm.okids (.inr h8) x hx) s b q
  have h9 : t.Kind = 9 := by omega
  exact Z6h hm h9 g fun u hu x hx s b q => Z99 n x (d - 1 - 1) (by have := Yk hu; have := Yk hx; omega) ((hm.structs h9 u hu).1.okids (.inl (hm.structs h9 u hu).2) x hx) s b q
theorem Zyp {f : Zb → Int → Tr × Int × Int} {g : Int → Zb × Int} {w' : Tr → Nat} : ∀ (ts : List Tr) (i : Nat) (left : Int) (acc : List Tr),
  (∀ (j : Nat) (x : Tr), ts[j]? = some x → (g ((i + j : Nat) : Int)).2 = 0 ∧ ∀ l' : Int, ((w' x : Nat) : Int) ≤ l' → f (g ((i + j : Nat) : Int)).1 l' = (x, l' - ((w' x : Nat) : Int), 0)) → (((ts.map w').sum : Nat) : Int) ≤ left →
  Y4 f g ts.length i left acc = (acc ++ ts, left - (((ts.map w').sum : Nat) : Int), 0)
 | [], i, left, acc, _, _ => by simp [Y4]
 | x :: ts, i, left, acc, h, hl => by
  obtain ⟨e1, e2⟩ := h 0 x rfl
  rw [Nat.add_zero] at e1 e2
  have hs : (((x :: ts).map w').sum : Nat) = w' x + (ts.map w').sum := rfl
  rw [hs] at hl ⊢
  have e3 := e2 left (by omega)
  rw [List.length_cons, Y4, e1, if_neg (by simp), e3]
  simp only
  rw [if_neg (by simp), Zyp ts (i + 1) _ _ (fun j y hy => by
   have := h (j + 1) y (by rw [List.getElem?_cons_succ]; exact hy)
   rwa [show i + (j + 1) = i + 1 + j by omega] at this) (by omega), List.append_assoc]
  refine Prod.ext rfl (Prod.ext ?_ rfl)
  simp only
  omega
theorem Ztx {α : Type} {f : α → Nat} {c : Nat} : ∀ {l : List α}, (∀ x ∈ l, f x = c) → (l.map f).sum = l.length * c
 | [], _ => by simp
 | x :: l, h => by
  have := Ztx (f := f) (l := l) fun y hy => h y (.tail _ hy)
  simp only [List.map_cons, List.sum_cons, List.length_cons, this, h x (.head _), Nat.add_mul, Nat.one_mul]
  omega
theorem Zr1 {α : Type} {f g : α → Nat} {c : Nat} : ∀ {l : List α}, (∀ x ∈ l, f x = c + g x) → (l.map f).sum = l.length * c + (l.map g).sum
 | [], _ => by simp
 | x :: l, h => by
  have := Zr1 (f := f) (g := g) (l := l) fun y hy => h y (.tail _ hy)
  simp only [List.map_cons, List.sum_cons, List.length_cons, this, h x (.head _), Nat.add_mul, Nat.one_mul]
  omega
theorem Zmt {A : Zj} {r : Zb} {t : Tr} (h : MR A r t) : (⟨r.kind, X7 A r, t.Kids⟩ : Tr) = t := by
 obtain ⟨a, b, c⟩ := t
 have h1 := h.kd
 have h2 := h.ws
 simp only at h1 h2
 rw [h1, h2]
def wtK (t : Tr) : Nat := (t.Kids.map wt).sum
theorem Zwb {t : Tr} {d : Nat} (h : rt t d = true) (h0 : ¬ t.Kind = 0) (h1 : ¬ t.Kind = 10) : 1 ≤ d := by
 rw [Zdz, if_neg h0, if_neg h1] at h
 by_cases hb : t.Kind < 0 ∨ 10 < t.Kind ∨ d = 0 ∨ 65536 ≤ t.Words.length ∨ (t.Kind = 1 ∧ 65536 ≤ t.Kids.length) ∨ 1048576 ≤ t.Kids.length ∨ (1 < t.Kind ∧ 0 < t.Words.length)
 ·rw [if_pos hb] at h; cases h
 omega
theorem Yc0 {A : Zj} : ∀ (d : Nat) (r : Zb) (u : Tr) (left : Int), MR A r u → rt u d = true → ¬ u.Kind = 10 → ((wt u : Nat) : Int) ≤ left → Zbh A d r left = (u, left - ((wt u : Nat) : Int), 0) := fun d => by
 induction d using Nat.strongRecOn with
 | _ d ih =>
  intro r u left hm hr h10 hl
  have iP : ∀ (k : Nat) (r : Zb) (u : Tr) (left : Int), 0 < k → k ≤ d → MR A r u → rt u (d - k) = true → ¬ u.Kind = 10 → ((wt u : Nat) : Int) ≤ left → Xv A k d r left = (u, left - ((wt u : Nat) : Int), 0) := fun k r u left hk hkd hm hr h10 hl => by
   unfold Xv
   rw [if_pos hkd]
   exact ih (d - k) (by omega) r u left hm hr h10 hl
  have hkd := hm.kd
  have hlen := hm.len
  have hln : (Zx r).toNat = u.Kids.length := by omega
  have hwe := Zxx u
  rw [Zqw]
  unfold Zlk
  by_cases h0 : r.kind = 0
  ·rw [if_pos h0]
   have := Ycw hm.o (.inl h0)
   have hk : u.Kids = [] := List.length_eq_zero_iff.1 (by omega)
   have e := Zmt hm
   rw [hk] at e
   rw [if_pos (by omega)] at hwe
   rw [e, hwe]
   simp
  rw [if_neg h0]
  rw [if_neg (by omega), if_neg h10] at hwe
  have hd1 := Zwb hr (by omega) h10
  have hri := Uy hr (by omega) h10
  -- a struct
  by_cases h1 : r.kind = 1
  ·have hw := Zy3 hm.o h1
   rw [← hm.ws] at hw
   have hk : Zx r = r.ptrs := by unfold Zx; rw [if_pos h1]
   have ewt : wtR r = 1 + ((u.Words.length : Int) + (u.Kids.length : Int)) := by unfold wtR; rw [if_neg h0, if_pos h1]; omega
   have elv : lvR r = 1 := by unfold lvR; rw [if_neg h0, if_neg (by omega)]
   rw [if_pos (by omega)] at hwe
   have ef : Zew A (Xv A 1 d) (Xv A 2 d) r = Xv A 1 d := by unfold Zew; rw [if_neg (by omega), if_pos (.inl h1)]
   have main := Zyp (f := Xv A 1 d) (g := Ys A r) (w' := wt) u.Kids 0 (left - wtR r) [] (fun j x hx => by
    obtain ⟨e1, e2⟩ := hm.kid hx
    have hxm := List.mem_of_getElem? hx
    rw [Nat.zero_add]
    exact ⟨e1, fun l' hl' => iP 1 _ _ _ (by decide) hd1 e2 (hri.2.2.2 x hxm).1 (Zcq (by omega) (hri.2.2.2 x hxm).2).1 hl'⟩) (by omega)
   rw [if_neg (by omega), hln, ef]
   simp only
   rw [main]
   simp only [List.nil_append]
   rw [Zmt hm]
   refine Prod.ext rfl (Prod.ext ?_ rfl)
   simp only
   omega
  have hk : Zx r = r.count := by unfold Zx; rw [if_neg h1]
  rw [if_neg (by omega)] at hwe
  by_cases h9 : r.kind = 9
  ·rw [if_neg (by omega)] at hwe
   have st : ∀ (j : Nat) (x : Tr), u.Kids[j]? = some x → MR A ⟨some A, 1, r.segment, r.at_ + 1 + (j : Int) * (r.words + r.ptrs), r.words, r.ptrs, 0, 0, 0⟩ x ∧ (x.Words.length : Int) = r.words ∧ (x.Kids.length : Int) = r.ptrs ∧ x.Kind = 1 := fun j x hx => by
    obtain ⟨e1, e2⟩ := hm.kid hx
    have hj : j < u.Kids.length := (List.getElem?_eq_some_iff.1 hx).1
    have hks := Z39 (A := A) h9 (i := (j : Int)) (by omega)
    rw [hks] at e2
    have q1 := e2.kd
    have q2 := Zy3 e2.o rfl
    rw [← e2.ws] at q2
    have q3 := e2.len
    exact ⟨e2, q2, q3, q1⟩
   by_cases hn : u.Kids.length = 0
   ·have hz : u.Kids = [] := List.length_eq_zero_iff.1 hn
    have ewt : wtR r = 1 := by unfold wtR; rw [if_neg h0, if_neg h1, if_pos h9, ← hk, ← hlen, hn]; simp
    have elv : lvR r = 1 := by unfold lvR; rw [if_neg h0, if_neg (by omega)]
    rw [if_neg (by rw [hz] at hwe; simp at hwe; omega), hln, hn]
    simp only [Y4]
    have e := Zmt hm
    rw [hz] at e
    rw [e, hwe, hz, ewt]
    rfl
   obtain ⟨x0, hx0⟩ : ∃ x, u.Kids[0]? = some x := ⟨_, List.getElem?_eq_getElem (by omega)⟩
   obtain ⟨_, w0, p0, k0⟩ := st 0 x0 hx0
   have hd2 : 2 ≤ d := by
    have := Zwb (hri.2.2.2 x0 (List.mem_of_getElem? hx0)).1 (by omega) (by omega)
    omega
   have hsum : (u.Kids.map wt).sum = u.Kids.length * (1 + (x0.Words.length + x0.Kids.length)) + (u.Kids.map wtK).sum := Zr1 fun x hx => by
    obtain ⟨j, hj⟩ := List.mem_iff_getElem?.1 hx
    obtain ⟨_, q1, q2, q3⟩ := st j x hj
    rw [Zxx, if_neg (by omega), if_neg (by omega), if_pos q3]
    unfold wtK
    omega
   have ewt : wtR r = 1 + ((u.Kids.length * (1 + (x0.Words.length + x0.Kids.length)) : Nat) : Int) := by
    unfold wtR
    rw [if_neg h0, if_neg h1, if_pos h9, ← w0, ← p0, ← hk, ← hlen, Int.natCast_mul, Int.natCast_add, Int.natCast_add, ← Int.add_assoc]
    rfl
   have elv : lvR r = 2 := by unfold lvR; rw [if_neg h0, if_pos ⟨h9, by omega⟩]
   have ef : Zew A (Xv A 1 d) (Xv A 2 d) r = stK A (Xv A 2 d) := by unfold Zew; rw [if_pos h9]
   have main := Zyp (f := stK A (Xv A 2 d)) (g := Ys A r) (w' := wtK) u.Kids 0 (left - wtR r) [] (fun j x hx => by
    obtain ⟨e2, q1, q2, q3⟩ := st j x hx
    have hj : j < u.Kids.length := (List.getElem?_eq_some_iff.1 hx).1
    have hxr := hri.2.2.2 x (List.mem_of_getElem? hx)
    have hxi := Uy hxr.1 (by omega) (by omega)
    have hks := Z39 (A := A) h9 (i := (j : Int)) (by omega)
    rw [Nat.zero_add, hks]
    refine ⟨rfl, fun l' hl' => ?_⟩
    unfold stK
    have hp : (r.ptrs).toNat = x.Kids.length := by omega
    have inner := Zyp (f := Xv A 2 d) (g := Ys A ⟨some A, 1, r.segment, r.at_ + 1 + (j : Int) * (r.words + r.ptrs), r.words, r.ptrs, 0, 0, 0⟩) (w' := wt) x.Kids 0 l' [] (fun j' y hy => by
     obtain ⟨f1, f2⟩ := e2.kid hy
     have hym := List.mem_of_getElem? hy
     rw [Nat.zero_add]
     refine ⟨f1, fun l'' hl'' => iP 2 _ _ _ (by decide) hd2 f2 ?_ (Zcq (by omega) (hxi.2.2.2 y hym).2).1 hl''⟩
     rw [show d - 2 = d - 1 - 1 by omega]
     exact (hxi.2.2.2 y hym).1) hl'
    simp only
    rw [hp, inner]
    simp only [List.nil_append]
    have e := Zmt e2
    simp only at e
    rw [e]
    rfl) (by omega)
   rw [if_neg (by omega), hln, ef]
   simp only
   rw [main]
   simp only [List.nil_append]
   rw [Zmt hm]
   refine Prod.ext rfl (Prod.ext ?_ rfl)
   simp only
   omega
  have ewt : wtR r = 1 + (u.Kids.length : Int) := by unfold wtR; rw [if_neg h0, if_neg h1, if_neg h9]; omega
  have elv : lvR r = 1 := by unfold lvR; rw [if_neg h0, if_neg (by omega)]
  by_cases h8 : r.kind = 8
  ·rw [if_pos (by omega)] at hwe
   have ef : Zew A (Xv A 1 d) (Xv A 2 d) r = Xv A 1 d := by unfold Zew; rw [if_neg (by omega), if_pos (.inr h8)]
   have main := Zyp (f := Xv A 1 d) (g := Ys A r) (w' := wt) u.Kids 0 (left - wtR r) [] (fun j x hx => by
    obtain ⟨e1, e2⟩ := hm.kid hx
    have hxm := List.mem_of_getElem? hx
    rw [Nat.zero_add]
    exact ⟨e1, fun l' hl' => iP 1 _ _ _ (by decide) hd1 e2 (hri.2.2.2 x hxm).1 (Zcq (by omega) (hri.2.2.2 x hxm).2).1 hl'⟩) (by omega)
   rw [if_neg (by omega), hln, ef]
   simp only
   rw [main]
   simp only [List.nil_append]
   rw [Zmt hm]
   refine Prod.ext rfl (Prod.ext ?_ rfl)
   simp only
   omega
  rw [if_neg (by omega)] at hwe
  have kk := Z8e hm.o
  have h27 : 2 ≤ u.Kind ∧ u.Kind ≤ 7 := by omega
  have hone : (u.Kids.map wt).sum = u.Kids.length * 1 := Ztx fun x hx => by
   have := (hri.2.2.2 x hx).2
   unfold okk at this
   rw [if_pos h27, Bool.and_eq_true, beq_iff_eq] at this
   rw [Zxx, if_neg (by omega), if_pos this.1]
  have hz : (u.Kids.map fun _ => 0).sum = u.Kids.length * 0 := Ztx fun x hx => rfl
  have ef : Zew A (Xv A 1 d) (Xv A 2 d) r = Zgw A := by unfold Zew; rw [if_neg (by omega), if_neg (by omega)]
  have main := Zyp (f := Zgw A) (g := Ys A r) (w' := fun _ => 0) u.Kids 0 (left - wtR r) [] (fun j x hx => by
   obtain ⟨e1, e2⟩ := hm.kid hx
   have hj : j < u.Kids.length := (List.getElem?_eq_some_iff.1 hx).1
   have q := Zyq (A := A) (r := r) (by omega) (i := (j : Int)) (by omega)
   rw [Nat.zero_add]
   refine ⟨e1, fun l' hl' => ?_⟩
   have e := Zmt e2
   have hl2 := e2.len
   have hk0 : x.Kids = [] := List.length_eq_zero_iff.1 (by omega)
   rw [hk0] at e
   unfold Zgw
   rw [e]
   simp) (by rw [hz]; omega)
  rw [if_neg (by omega), hln, ef]
  simp only
  rw [main, hz]
  simp only [List.nil_append]
  rw [Zmt hm]
  refine Prod.ext rfl (Prod.ext ?_ rfl)
  simp only
  omega
theorem Z4y {α : Type} {p : α → Bool} {x : α} (h : p x = true) (l : List α) : ∀ n : Nat, tr p (l ++ List.replicate n x) = tr p l
 | 0 => by simp
 | n + 1 => by rw [List.replicate_succ', ← List.append_assoc, Zob h, Z4y h l n]
theorem Z8s {u : Tr} (q : Int × Int) (h : u.Kind = 1) : nrm (Zj3 q u) = nrm u := by
 rw [K6 (t := Zj3 q u) h, K6 h]
 show (⟨1, tr _ (Zyd q.1.toNat u.Words), tr _ ((Ztr q.2.toNat u.Kids).map nrm)⟩ : Tr) = _
 unfold Zyd Ztr
 rw [Z4y rfl, List.map_append, List.map_replicate, Zcc rfl, Z4y rfl]
theorem Z8r : ∀ (n : Nat) (t : Tr) (d : Nat), SizeOf.sizeOf t < n → rt t d = true → nrm (fm t) = nrm t
 | 0, _, _, h, _ => by omega
 | n + 1, t, d, h, hr => by
  have ih : ∀ x ∈ t.Kids, nrm (fm x) = nrm x := fun x hx => Z8r n x (d - 1) (by have := Yk hx; omega) ((Za7 hr).2.2.2.2 x hx)
  by_cases h0 : t.Kind = 0
  ·rw [Zcc (by rw [Zdk]; exact h0), Zcc h0]
  by_cases h9 : t.Kind = 9
  ·rw [Zbi (t := fm t) (by rw [Zdk]; exact h0) (by rw [Zdk]; omega), Zbi h0 (by omega), Zdk, Zlr, Zjm h9, List.map_map]
   congr 1
   refine List.map_congr_left fun x hx => ?_
   have k1 := (Zcq (by omega) ((Uy hr h0 (by omega)).2.2.2 x hx).2).2 h9
   show nrm (Zj3 _ (fm x)) = nrm x
   rw [Z8s _ (by rw [Zdk]; exact k1), ih x hx]
  have hk : (fm t).Kids.map nrm = t.Kids.map nrm := by
   rw [Gd h9, List.map_map]
   exact List.map_congr_left fun x hx => ih x hx
  by_cases h1 : t.Kind = 1
  ·rw [K6 (t := fm t) (by rw [Zdk]; exact h1), K6 h1, Zlr, hk]
  rw [Zbi (t := fm t) (by rw [Zdk]; exact h0) (by rw [Zdk]; exact h1), Zbi h0 h1, Zdk, Zlr, hk]
theorem Z9b {t : Tr} {d : Nat} (h1 : 1 ≤ t.Kind ∧ t.Kind ≤ 9) (hd : 1 ≤ d) (hw : t.Words.length < 65536) (hk : t.Kind = 1 → t.Kids.length < 65536) (hk2 : t.Kids.length < 1048576) (hw2 : 1 < t.Kind → t.Words = []) (ha : ∀ x ∈ t.Kids, rt x (d - 1) = true ∧ okk t.Kind x = true) : rt t d = true := by
 rw [Zdz, if_neg (by omega), if_neg (by omega), if_neg, List.all_eq_true]
 ·intro x hx
  rw [Bool.and_eq_true]
  exact ha x hx
 rintro (q | q | q | q | ⟨q1, q2⟩ | q | ⟨q1, q2⟩)
 ·omega
 ·omega
 ·omega
 ·omega
 ·have := hk q1; omega
 ·omega
 have := hw2 q1; rw [this] at q2; simp at q2
theorem Z8w {κ : Int} {x y : Tr} (h1 : x.Kind = y.Kind) (h2 : x.Words = y.Words) : okk κ x = okk κ y := by unfold okk; rw [h1, h2]
theorem Z9a : ∀ (n : Nat) (t : Tr) (d : Nat), SizeOf.sizeOf t < n → Fine t d → rt (fm t) d = true
 | 0, _, _, h, _ => by omega
 | n + 1, t, d, h, hf => by
  have ih : ∀ x ∈ t.Kids, rt (fm x) (d - 1) = true := fun x hx => Z9a n x (d - 1) (by have := Yk hx; omega) (hf.kid hx)
  have g := Za7 hf.rt
  by_cases h0 : t.Kind = 0 ∨ t.Kind = 10
  ·have e : fm t = t := by
    have := g.2.2.2.1 h0
    rw [Zt0, this]
    obtain ⟨a, b, c⟩ := t
    simp only at this
    subst this
    rfl
   rw [e]
   exact hf.rt
  have i := Uy hf.rt (by omega) (by omega)
  by_cases h9 : t.Kind = 9
  ·obtain ⟨W, K, e1, e2, e3, e4, e5⟩ := Zg6 hf h9
   refine Z9b (by rw [Zdk]; omega) (Zwb hf.rt (by omega) (by omega)) (by rw [Zlr]; exact i.1) (fun q => by rw [Zdk] at q; omega) (by rw [Zjm h9, List.length_map]; exact g.2.2.1) (fun _ => by rw [Zlr]; exact i.2.2.1 (by omega)) fun x hx => ?_
   rw [Zjm h9] at hx
   obtain ⟨y, hy, rfl⟩ := List.mem_map.1 hx
   have k1 := (Zcq (by omega) (i.2.2.2 y hy).2).2 h9
   have ly := e4 y hy
   have iy := Uy (ih y hy) (by rw [Zdk]; omega) (by rw [Zdk]; omega)
   have fk : (fm y).Kids = y.Kids.map fm := Gd (by omega)
   have f1 : (fr t.Kids).1.toNat = W := by rw [e1]; exact Int.toNat_natCast W
   have f2 : (fr t.Kids).2.toNat = K := by rw [e1]; exact Int.toNat_natCast K
   have l1 : (Zj3 (fr t.Kids) (fm y)).Words.length = W := by show (Zyd (fr t.Kids).1.toNat (fm y).Words).length = W; rw [f1, Zlr, Zrc ly.1]
   have l2 : (Zj3 (fr t.Kids) (fm y)).Kids.length = K := by show (Ztr (fr t.Kids).2.toNat (fm y).Kids).length = K; rw [f2, Zv3 (by rw [fk, List.length_map]; exact ly.2)]
   have kk : (Zj3 (fr t.Kids) (fm y)).Kind = 1 := by show (fm y).Kind = 1; rw [Zdk, k1]
   refine ⟨Z9b (by omega) (Zwb (ih y hy) (by rw [Zdk]; omega) (by rw [Zdk]; omega)) (by omega) (fun _ => by omega) (by omega) (fun q => by omega) fun z hz => ?_, ?_⟩
   ·have hz' : z ∈ Ztr (fr t.Kids).2.toNat (fm y).Kids := hz
    unfold Ztr at hz'
    rw [kk]
    rcases List.mem_append.1 hz' with q | q
    ·have := iy.2.2.2 z q
     rwa [Zdk, k1] at this
    rw [(List.mem_replicate.1 q).2]
    exact ⟨by rw [Zdz]; rfl, rfl⟩
   rw [Zdk, h9]
   unfold okk
   rw [if_neg (by decide), kk]
   rfl
  refine Z9b (by rw [Zdk]; omega) (Zwb hf.rt (by omega) (by omega)) (by rw [Zlr]; exact i.1) (fun q => by rw [Zdk] at q; rw [Gd h9, List.length_map]; exact i.2.1 q) (by rw [Gd h9, List.length_map]; exact g.2.2.1) (fun q => by rw [Zdk] at q; rw [Zlr]; exact i.2.2.1 q) fun x hx => ?_
  rw [Gd h9] at hx
  obtain ⟨y, hy, rfl⟩ := List.mem_map.1 hx
  rw [Zdk, Z8w (Zdk y) (Zlr y)]
  exact ⟨ih y hy, (i.2.2.2 y hy).2⟩
theorem Zwf : ∀ (k : Nat) (t : Tr) (d : Nat), rt t d = true → wt t ≤ 1000000000000 → t.Words.length ≤ 65536 → SizeOf.sizeOf t < k → Xz k t = some ((wt t : Nat) : Int)
 | 0, t, _, _, _, _, h => by omega
 | k + 1, t, d, hr, hb, hwl, hk => by
  have g := Za7 hr
  have hwe := Zxx t
  show V0 (Xz k) t = _
  unfold V0
  by_cases h0 : t.Kind = 0
  ·rw [if_pos h0] at hwe
   rw [Zdr h0, cond_true, hwe]
   rfl
  rw [Qq h0, cond_false]
  rw [if_neg h0] at hwe
  by_cases h10 : t.Kind = 10
  ·rw [if_pos h10] at hwe
   rw [Qq (show ¬ t.Kind = 1 by omega), cond_false, Option.bind_some, hwe]
   have hk0 := g.2.2.2.1 (.inr h10)
   have : Zs (X4 (Xz k) t) (1, 0) = some 1 := by
    refine Y7 ?_
    unfold X4
    simp only
    rw [hk0]
    rfl
   rw [this]
   rfl
  rw [if_neg h10] at hwe
  have hri := Uy hr h0 h10
  have ih : ∀ x ∈ t.Kids, Xz k x = some ((wt x : Nat) : Int) := fun x hx => by
   have hs := Z5i (f := wt) hx
   have hxr := hri.2.2.2 x hx
   refine Zwf k x (d - 1) hxr.1 (by omega) ?_ (by have := Yk hx; omega)
   by_cases q0 : x.Kind = 0
   ·have := hxr.1
    rw [Zdz, if_pos q0, Bool.and_eq_true, beq_iff_eq] at this
    omega
   by_cases q1 : x.Kind = 10
   ·obtain ⟨w, hw⟩ := Zot q1 hxr.1
    rw [hw]
    simp
   have := (Uy hxr.1 q0 q1).1
   omega
  have main : ∀ (c s0 : Nat), c = (if t.Kind = 1 ∨ t.Kind = 8 then 1 else 0) → s0 + ((t.Kids.map fun x => wt x + c).sum) ≤ 10000000000000 → Zs (X4 (Xz k) t) ((s0 : Int), 0) = some ((s0 + (t.Kids.map fun x => wt x + c).sum : Nat) : Int) := fun c s0 hc hs =>
   Z8m t.Kids (fun x => wt x + c) s0 _ _ (by omega) (Nat.le_refl _) (by exact Nat.le_trans hs (by decide)) (fun i x s hi hx hm => by
    unfold X4
    simp only
    rw [Zb4 hi, cond_true, Yo hx, Option.bind_some, ih x hm, Option.bind_some]
    by_cases q : t.Kind = 1 ∨ t.Kind = 8
    ·have e : cond (t.Kind == 1) true (t.Kind == 8) = true := by rcases q with q | q <;> rw [q] <;> rfl
     rw [e, cond_true, Option.bind_some, w_l, hc, if_pos q, Int.natCast_add, ← Int.add_assoc]
     rfl
    ·have e : cond (t.Kind == 1) true (t.Kind == 8) = false := by rw [Qq (by omega), Qq (by omega)]; rfl
     rw [e, cond_false, Option.bind_some, hc, if_neg q, Nat.add_zero]) (fun s => by
    unfold X4
    simp only
    rw [Zbx, cond_false])
  have sadd : ∀ c : Nat, (t.Kids.map fun x => wt x + c).sum = t.Kids.length * c + (t.Kids.map wt).sum := fun c => Zr1 fun x _ => Nat.add_comm _ _
  by_cases h1 : t.Kind = 1
  ·rw [if_pos h1] at hwe
   rw [Zdr h1, cond_true, Yf (by omega) (by omega), Option.bind_some]
   have := main 1 (1 + t.Words.length) (by rw [if_pos (.inl h1)]) (by rw [sadd]; omega)
   rw [sadd] at this
   have e : (1 : Int) + (t.Words.length : Int) = ((1 + t.Words.length : Nat) : Int) := by omega
   simp only [e]
   rw [this, Option.bind_some]
   congr 2
   omega
  rw [if_neg h1] at hwe
  rw [Qq h1, cond_false, Option.bind_some]
  by_cases h8 : t.Kind = 8
  ·rw [if_pos h8] at hwe
   have := main 1 1 (by rw [if_pos (.inr h8)]) (by rw [sadd]; omega)
   rw [sadd] at this
   rw [show (1 : Int) = ((1 : Nat) : Int) from rfl, this, Option.bind_some]
   congr 2
   omega
  rw [if_neg h8] at hwe
  have := main 0 1 (by rw [if_neg (by omega)]) (by rw [sadd]; omega)
  rw [sadd] at this
  rw [show (1 : Int) = ((1 : Nat) : Int) from rfl, this, Option.bind_some]
  congr 2
  omega
theorem Z4s {t : Tr} {d : Nat} (hr : rt t d = true) (hb : wt t ≤ 1000000000000) (hwl : t.Words.length ≤ 65536) : Zcx t = some ((wt t : Nat) : Int) := Zeb (SizeOf.sizeOf t + 1) fun k hk => Zwf k t d hr hb hwl (by omega)
theorem Zql {α : Type} {f : α → Nat} {g : α → Int} : ∀ {l : List α}, (∀ x ∈ l, ((f x : Nat) : Int) ≤ g x) → (((l.map f).sum : Nat) : Int) ≤ (l.map g).sum
 | [], _ => by simp
 | x :: l, h => by
  have := Zql (f := f) (g := g) (l := l) fun y hy => h y (.tail _ hy)
  have := h x (.head _)
  simp only [List.map_cons, List.sum_cons, Int.natCast_add]
  omega
theorem Zum {α : Type} {f : α → Int} {g : α → Nat} : ∀ {l : List α}, (l.map fun x => 2 * f x + ((g x : Nat) : Int)).sum = 2 * (l.map f).sum + (((l.map g).sum : Nat) : Int)
 | [] => by simp
 | x :: l => by
  have := Zum (f := f) (g := g) (l := l)
  simp only [List.map_cons, List.sum_cons, Int.natCast_add, this]
  omega
theorem Ya5 {l : List Tr} : ((l.map fun x => (x.Kids.map pt).sum).sum) + l.length ≤ (l.map pt).sum := by
 induction l with
 | nil => simp
 | cons x l ih =>
  have := Zis x
  simp only [List.map_cons, List.sum_cons, List.length_cons]
  omega
theorem Z9i {f : Tr → Nat} {l : List Tr} {n : Nat} (h : f ⟨0, [], []⟩ = 0) : ((l ++ List.replicate n (⟨0, [], []⟩ : Tr)).map f).sum = (l.map f).sum := by
 rw [List.map_append, List.map_replicate, h, List.sum_append]
 simp
theorem Ybd {W K : Nat} {u : Tr} (h1 : u.Kind = 1) (hw : u.Words.length ≤ W) (hk : u.Kids.length ≤ K) : wt (Zj3 ((W : Int), (K : Int)) u) = 1 + (W + K) + (u.Kids.map wt).sum := by
 have hkk : (Zj3 ((W : Int), (K : Int)) u).Kind = 1 := h1
 have e1 : (Zj3 ((W : Int), (K : Int)) u).Words.length = W := Zrc hw
 have e2 : (Zj3 ((W : Int), (K : Int)) u).Kids.length = K := Zv3 hk
 have e3 : ((Zj3 ((W : Int), (K : Int)) u).Kids.map wt).sum = (u.Kids.map wt).sum := Z9i (f := wt) (by rw [Zxx]; rfl)
 rw [Zxx, if_neg (by omega), if_neg (by omega), if_pos hkk, e1, e2, e3]
theorem Z90 : ∀ (n : Nat) (t : Tr) (d : Nat), SizeOf.sizeOf t < n → Fine t d → ((wt (fm t) : Nat) : Int) ≤ 2 * sz t + (pt t : Int)
 | 0, _, _, h, _ => by omega
 | n + 1, t, d, h, hf => by
  have ih : ∀ x ∈ t.Kids, ((wt (fm x) : Nat) : Int) ≤ 2 * sz x + (pt x : Int) := fun x hx => Z90 n x (d - 1) (by have := Yk hx; omega) (hf.kid hx)
  have g := Za7 hf.rt
  have s0 := (Zwk hf.rt hf.pt).1
  have p0 := Zis t
  rw [Zxx, Zdk]
  by_cases h0 : t.Kind = 0
  ·rw [if_pos h0]; omega
  rw [if_neg h0]
  by_cases h10 : t.Kind = 10
  ·rw [if_pos h10]; omega
  rw [if_neg h10]
  have hri := Uy hf.rt h0 h10
  by_cases h9 : t.Kind = 9
  ·obtain ⟨W, K, e1, e2, e3, e4, e5⟩ := Zg6 hf h9
   have k1 : ∀ x ∈ t.Kids, x.Kind = 1 := fun x hx => (Zcq (by omega) (hri.2.2.2 x hx).2).2 h9
   have hs : ((fm t).Kids.map wt).sum = t.Kids.length * (1 + (W + K)) + (t.Kids.map fun x => ((fm x).Kids.map wt).sum).sum := by
    rw [Zjm h9, List.map_map, e1]
    exact Zr1 fun x hx => by
     have := e4 x hx
     have fk : (fm x).Kids.length = x.Kids.length := by rw [Gd (by have := k1 x hx; omega), List.length_map]
     show wt (Zj3 ((W : Int), (K : Int)) (fm x)) = _
     rw [Ybd (by rw [Zdk]; exact k1 x hx) (by rw [Zlr]; exact this.1) (by rw [fk]; exact this.2)]
   have hb : (((t.Kids.map fun x => ((fm x).Kids.map wt).sum).sum : Nat) : Int) ≤ (t.Kids.map fun x => 2 * szK x + (((x.Kids.map pt).sum : Nat) : Int)).sum := Zql fun x hx => by
    rw [Gd (by have := k1 x hx; omega), List.map_map]
    have := Zql (f := wt ∘ fm) (g := fun y => 2 * sz y + (pt y : Int)) (l := x.Kids) fun y hy => Z90 n y (d - 1 - 1) (by have := Yk hx; have := Yk hy; omega) ((hf.kid hx).kid hy)
    rw [Zum] at this
    exact this
   have e2p := Zum (f := szK) (g := fun x : Tr => (x.Kids.map pt).sum) (l := t.Kids)
   have sp := Ya5 (l := t.Kids)
   have em : t.Kids.length * (1 + (W + K)) = t.Kids.length + t.Kids.length * (W + K) := by rw [Nat.mul_add, Nat.mul_one]
   rw [if_neg (by omega), if_neg (by omega), hs, em, e5]
   generalize (t.Kids.map szK).sum = S1 at *
   generalize ((t.Kids.map fun x => ((fm x).Kids.map wt).sum).sum) = S2 at *
   generalize ((t.Kids.map fun x : Tr => (x.Kids.map pt).sum).sum) = S3 at *
   have hw0 := hri.2.2.1 (by omega)
   rw [hw0] at p0
   simp only [List.length_nil] at p0
   omega
  have hb : ((((fm t).Kids.map wt).sum : Nat) : Int) ≤ 2 * (t.Kids.map sz).sum + (((t.Kids.map pt).sum : Nat) : Int) := by
   rw [Gd h9, List.map_map]
   have := Zql (f := wt ∘ fm) (g := fun y => 2 * sz y + (pt y : Int)) (l := t.Kids) ih
   rwa [Zum] at this
  have fl : (fm t).Kids.length = t.Kids.length := by rw [Gd h9, List.length_map]
  by_cases h1 : t.Kind = 1
  ·have es : sz t = ((t.Words.length : Int) + (t.Kids.length : Int)) + (t.Kids.map sz).sum := by rw [Zes, if_pos h1]
   rw [if_pos h1, Zlr, fl]
   omega
  by_cases h8 : t.Kind = 8
  ·have es : sz t = (t.Kids.length : Int) + (t.Kids.map sz).sum := by rw [Zes, if_neg (by omega), if_neg (by omega), if_pos h8]
   rw [if_neg h1, if_pos h8, fl]
   omega
  have hz : (t.Kids.map sz).sum = 0 := by
   have : ∀ l : List Tr, (∀ x ∈ l, sz x = 0) → (l.map sz).sum = 0 := fun l => by
    induction l with
    | nil => intro _; rfl
    | cons x l ih => intro h; simp only [List.map_cons, List.sum_cons, h x (.head _), ih fun y hy => h y (.tail _ hy)]; rfl
   refine this _ fun x hx => ?_
   have := (hri.2.2.2 x hx).2
   unfold okk at this
   rw [if_pos (by omega), Bool.and_eq_true, beq_iff_eq] at this
   rw [Zes, if_neg (by omega), if_neg (by omega), if_neg (by omega), if_neg (by omega)]
  rw [if_neg h1, if_neg h8]
  omega
theorem Zyo : ∀ (k : Nat) (t : Tr) (d : Nat), Fine t d → SizeOf.sizeOf t < k → Qr k t = some (fm t)
 | 0, _, _, _, h => by omega
 | k + 1, t, d, hf, hk => by
  have g := Za7 hf.rt
  have ih : ∀ x ∈ t.Kids, Qr k x = some (fm x) := fun x hx => Zyo k x (d - 1) (hf.kid hx) (by have := Yk hx; omega)
  show Vz (Qr k) t = _
  unfold Vz
  rw [Ztv (by omega), Option.bind_some]
  have main := Zgc t.Kids (fun i (s : List Tr) => (i, s)) (fun s => s) (J8 (Qr k) t (fr t.Kids)) (fun s _ x => s ++ [if t.Kind = 9 then Zj3 (fr t.Kids) (fm x) else fm x]) (fun i (s : List Tr) => s = (t.Kids.take i).map fun k => if t.Kind = 9 then Zj3 (fr t.Kids) (fm k) else fm k) (by omega) (fun i s x hi hx hm hI => by
   have hl : s.length ≤ 1048576 := by rw [hI, List.length_map, List.length_take]; omega
   refine ⟨?_, ?_⟩
   ·unfold J8
    simp only
    rw [Zb4 hi, cond_true, Yo hx, Option.bind_some, ih x hm, Option.bind_some]
    by_cases h9 : t.Kind = 9
    ·obtain ⟨W, K, e1, e2, e3, e4, e5⟩ := Zg6 hf h9
     have hx4 := e4 x hm
     have k1 := (Zcq (by omega) ((Uy hf.rt (by omega) (by omega)).2.2.2 x hm).2).2 h9
     have fk : (fm x).Kids.length = x.Kids.length := by rw [Gd (by omega), List.length_map]
     have fw : (fm x).Words.length = x.Words.length := by rw [Zlr]
     rw [Zdr h9, cond_true, if_pos h9, e1]
     simp only
     rw [Yf (x := (W : Int) - _) (by omega) (by omega), Yf (x := (K : Int) - _) (by omega) (by omega), V9 (by simp; omega) (by simp; omega), Option.bind_some, Ju (by omega), Option.bind_some, V9 (by simp; omega) (by simp; omega), Option.bind_some, V9 (by simp; omega) (by simp; omega), Option.bind_some, Ju (by omega), Option.bind_some, V9 (by simp; omega) (by simp; omega), Option.bind_some, Option.bind_some, V9 (by simp; omega) (by simp; omega), Option.bind_some]
     simp only [List.nil_append]
     have n1 : ((W : Int) - ((fm x).Words.length : Int)).toNat = W - (fm x).Words.length := by omega
     have n2 : ((K : Int) - ((fm x).Kids.length : Int)).toNat = K - (fm x).Kids.length := by omega
     rw [n1, n2]
     unfold Zj3 Zyd Ztr
     simp only [Int.toNat_natCast]
    rw [Qq h9, cond_false, if_neg h9, Option.bind_some, V9 (by simp; omega) (by simp; omega), Option.bind_some]
    show some (Sum.inl (_, s ++ [(⟨(fm x).Kind, (fm x).Words, (fm x).Kids⟩ : Tr)])) = _
    rw [Yc4]
   ·rw [hI, List.take_add_one, hx, List.map_append]
    rfl) (fun s _ => by
   unfold J8
   simp only
   rw [Zbx, cond_false]) [] rfl
  rw [main.1, Option.bind_some, main.2, List.take_length, Zt0]
theorem Z6r {t : Tr} {d : Nat} (hf : Fine t d) : Zcv t = some (fm t) := Zeb (SizeOf.sizeOf t + 1) fun k hk => Zyo k t d hf (by omega)
theorem Yap {t : Tr} (hm : Nm t 64) (hs : sz t < 131072) : ∃ r, atR ⟨[ly t [0] 0], 0, 0⟩ 0 0 = (r, 0) ∧ MR ⟨[ly t [0] 0], 0, 0⟩ r (fm t) :=
 Z99 (L := ly t [0] 0) _ t 64 (Nat.lt_succ_self _) hm [0] 0 ⟨by decide, by simp only [List.length_singleton]; omega, rfl, Nat.le_refl _, fun p _ _ => rfl⟩
theorem Z7b {t : Tr} (hm : Nm t 64) (hs : sz t < 131072) {x : Ye} (hd : (Gs x).Depth = 64) (hw : ((wt (fm t) : Nat) : Int) ≤ (Gs x).Weight) : (Zs2 ⟨[ly t [0] 0], 0, 0⟩ x).1 = fm t ∧ (Zs2 ⟨[ly t [0] 0], 0, 0⟩ x).2.2 = 0 := by
 obtain ⟨r, r1, r2⟩ := Yap hm hs
 have hk : ¬ (fm t).Kind = 10 := by rw [Zdk]; exact hm.k
 have e := Yc0 64 r (fm t) (Gs x).Weight r2 (Z9a _ t 64 (Nat.lt_succ_self _) hm.f) hk hw
 have hd' : (Gs x).Depth.toNat = 64 := by omega
 unfold Zs2
 simp only [r1]
 rw [hd', if_neg (by decide)]
 simp only [e]
 exact ⟨rfl, rfl⟩
def U6 (l : List Int) : Prop := ∀ w ∈ l, 0 ≤ w ∧ w < 18446744073709551616
theorem Zpr {l m : List Int} (h1 : U6 l) (h2 : U6 m) : U6 (l ++ m) := fun w hw => by
 rcases List.mem_append.1 hw with q | q
 ·exact h1 w q
 exact h2 w q
theorem Z4z (n : Nat) : U6 (List.replicate n 0) := fun w hw => by rw [(List.mem_replicate.1 hw).2]; decide
theorem Z0d {l : List Int} {a : Nat} {v : Int} (h : U6 l) (hv : 0 ≤ v ∧ v < 18446744073709551616) : U6 (Qy l (a : Int) v) := fun w hw => by
 unfold Qy at hw
 rcases List.mem_or_eq_of_mem_set hw with q | q
 ·exact h w q
 rw [q]; exact hv
def UP (t : Tr) : Prop := ∀ (l : List Int) (a : Nat), a < l.length → (l.length : Int) + sz t ≤ 131072 → U6 l → U6 (ly t l a)
theorem Yan : ∀ {ks : List Tr}, (∀ x ∈ ks, (Sim x ∧ 0 ≤ sz x) ∧ UP x) → ∀ {l : List Int} {b : Nat}, b + ks.length ≤ l.length → (l.length : Int) + (ks.map sz).sum ≤ 131072 → U6 l → U6 (lyK b ks l)
 | [], _, l, b, _, _, h => h
 | x :: xs, hk, l, b, hb, hs, h => by
  obtain ⟨⟨h1, h2⟩, h3⟩ := hk x (.head _)
  have hp2 := Q2 (f := sz) (xs := xs) fun y hy => (hk y (.tail _ hy)).1.2
  have hs' : (l.length : Int) + (sz x + (xs.map sz).sum) ≤ 131072 := hs
  rw [List.length_cons] at hb
  have ln := (h1 l b (by omega) (by omega)).1
  rw [Zvp]
  exact Yan (fun y hy => hk y (.tail _ hy)) (by omega) (by omega) (h3 l b (by omega) (by omega) h)
theorem Ycq {W K : Nat} : ∀ {ks : List Tr}, (∀ x ∈ ks, x.Kids.length ≤ K ∧ ∀ y ∈ x.Kids, (Sim y ∧ 0 ≤ sz y) ∧ UP y) → ∀ {l : List Int} {b : Nat}, b + ks.length * (W + K) ≤ l.length → (l.length : Int) + (ks.map szK).sum ≤ 131072 → U6 l → U6 (cpK W K b ks l)
 | [], _, l, b, _, _, h => h
 | x :: xs, hk, l, b, hb, hs, h => by
  obtain ⟨hx1, hx2⟩ := hk x (.head _)
  have hm : (x :: xs).length * (W + K) = W + K + xs.length * (W + K) := by rw [List.length_cons, Nat.add_mul, Nat.one_mul, Nat.add_comm]
  have hz := Q2 (f := szK) (xs := xs) fun y hy => Q2 fun z hz => ((hk y (.tail _ hy)).2 z hz).1.2
  have hun := Q2 (f := sz) (xs := x.Kids) fun z hz => (hx2 z hz).1.2
  have hs' : (l.length : Int) + ((x.Kids.map sz).sum + (xs.map szK).sum) ≤ 131072 := hs
  have ln := Zkw (ks := x.Kids) (b := b + W) (l := l) (fun y hy => (hx2 y hy).1) (by omega) (by omega)
  rw [Zu2]
  exact Ycq (fun y hy => hk y (.tail _ hy)) (by omega) (by omega) (Yan hx2 (by omega) (by omega) h)
theorem Ycr {W K : Nat} : ∀ {ks : List Tr}, (∀ x ∈ ks, U6 x.Words) → ∀ {l : List Int}, U6 l → U6 (cpW W K ks l)
 | [], _, l, h => h
 | x :: xs, hk, l, h => by
  rw [Z0t]
  exact Ycr (fun y hy => hk y (.tail _ hy)) (Zpr (Zpr h (hk x (.head _))) (Z4z _))
theorem Yax {c : Int} (h : 0 ≤ c ∧ c ≤ 5) {ns : List Int} (hn : ∀ n ∈ ns, 0 ≤ n ∧ Zbb c n = true) : U6 (Zgh c ns) := by
 by_cases h0 : c = 0
 ·unfold Zgh
  rw [if_pos h0]
  intro w hw
  cases hw
 have ff : ∀ n ∈ ns, 0 ≤ n ∧ n < 2 ^ wid c := fun n hm => ⟨(hn n hm).1, by have := (hn n hm).2; unfold Zbb at this; exact of_decide_eq_true this⟩
 have key : 0 < wid c ∧ ∀ i : Nat, i * wid c % 64 + wid c ≤ 64 := by
  rcases c5' h with rfl | rfl | rfl | rfl | rfl | rfl
  ·exact absurd rfl h0
  ·exact ⟨by decide, fun i => by show i * 1 % 64 + 1 ≤ 64; omega⟩
  ·exact ⟨by decide, fun i => by show i * 8 % 64 + 8 ≤ 64; omega⟩
  ·exact ⟨by decide, fun i => by show i * 16 % 64 + 16 ≤ 64; omega⟩
  ·exact ⟨by decide, fun i => by show i * 32 % 64 + 32 ≤ 64; omega⟩
  exact ⟨by decide, fun i => by show i * 64 % 64 + 64 ≤ 64; omega⟩
 have b := Z1y key.1 key.2 ff
 have e : Zgh c ns = Ge (Zi7 (wid c)) (List.replicate ((ns.length * wid c + 63) / 64) 0) 0 ns := by unfold Zgh; rw [if_neg h0]
 intro w hw
 rw [e] at hw
 obtain ⟨q, hq⟩ := List.mem_iff_getElem?.1 hw
 obtain ⟨v0, v1⟩ := b.1.2 q w hq
 refine ⟨v0, Int.lt_of_lt_of_le v1 (Int.le_trans (Zrg (b := 64) (by omega)) (by decide))⟩
theorem Z5n : ∀ (n : Nat) (t : Tr) (d : Nat), SizeOf.sizeOf t < n → Nm t d → UP t
 | 0, _, _, h, _ => by omega
 | n + 1, t, d, h, hm => fun l a ha hs hu => by
  have g := Za7 hm.f.rt
  have h10 := hm.k
  have lb := Ztl hm
  by_cases h0 : t.Kind = 0
  ·rw [Zmk h0]; exact hu
  have hri := Uy hm.f.rt h0 h10
  by_cases h1 : t.Kind = 1
  ·obtain ⟨e, i1, i2, hk, hs2, _⟩ := Zz8 hm h1 (fun x hx => (hm.okids (.inl h1) x hx).pres) ha hs
   have l2 := Zur t l a
   rw [e]
   refine Yan (fun x hx => ⟨(hk x hx).1, Z5n n x (d - 1) (by have := Yk hx; omega) (hm.okids (.inl h1) x hx)⟩) (by omega) hs2 ?_
   unfold RS1
   exact Zpr (Zpr (Z0d hu (by omega)) hm.f.bd.u) (Z4z _)
  by_cases h2 : 2 ≤ t.Kind ∧ t.Kind ≤ 7
  ·rw [Zy9 hm h2 ha hs]
   refine Zpr (Z0d hu (by unfold hdL; omega)) (Yax (by omega) fun v hv => ?_)
   obtain ⟨k, hk, rfl⟩ := List.mem_map.1 hv
   obtain ⟨w, hw, w0, _, w1⟩ := hm.atoms h2 k hk
   rw [hw]
   exact ⟨w0, w1⟩
  by_cases h8 : t.Kind = 8
  ·obtain ⟨e, hk, hs2, _⟩ := Zz2 hm h8 (fun x hx => (hm.okids (.inr h8) x hx).pres) ha hs
   have l2 := Zuq t l a
   rw [e]
   refine Yan (fun x hx => ⟨(hk x hx).1, Z5n n x (d - 1) (by have := Yk hx; omega) (hm.okids (.inr h8) x hx)⟩) (by omega) hs2 ?_
   unfold RP8
   exact Zpr (Z0d hu (by unfold hdL; omega)) (Z4z _)
  have h9 : t.Kind = 9 := by omega
  have hkk : ∀ x ∈ t.Kids, ∀ y ∈ x.Kids, Nm y (d - 1 - 1) := fun x hx y hy => (hm.structs h9 x hx).1.okids (.inl (hm.structs h9 x hx).2) y hy
  obtain ⟨W, K, W1, K1, k3, k4, _, k6, k7, k8, _, _, _⟩ := Zy8 hm h9 (fun x hx y hy => (hkk x hx y hy).pres) ha hs
  rw [k8]
  refine Ycq (fun x hx => ⟨(k3 x hx).2.1, fun y hy => ⟨((k3 x hx).2.2 y hy).1, Z5n n y (d - 1 - 1) (by have := Yk hx; have := Yk hy; omega) (hkk x hx y hy)⟩⟩) (by omega) k7 ?_
  unfold RC9
  refine Ycr (fun x hx => (hm.f.bd.all x hx).u) (Zpr (Z0d hu (by unfold hd9; omega)) fun w hw => ?_)
  rw [List.mem_singleton.1 hw]
  unfold Zig
  omega
theorem Ydu {t : Tr} (hm : Nm t 64) (hs : sz t < 131072) : WS [ly t [0] 0] := by
 have ln := (hm.sim.1 [0] 0 (by decide) (by simp only [List.length_singleton]; omega)).1
 refine Yce _ (Z5n _ t 64 (Nat.lt_succ_self _) hm [0] 0 (by decide) (by simp only [List.length_singleton]; omega) fun w hw => ?_) (by simp only [List.length_singleton] at ln; omega)
 rw [List.mem_singleton.1 hw]
 decide
theorem Z7z {t : Tr} (hm : Nm t 64) {most : Int} (hs : sz t < 131072) (h : sz t < most) : enc t most = (ly t [0] 0, true) := by
 unfold enc
 rw [if_neg (by rintro (q | q); exact hm.k q; rw [hm.f.rt] at q; cases q), hm.n, if_neg (by omega)]
theorem Z0r {t : Tr} (hb : Bd t) : Ub t = some true := by
 unfold Ub Zcn
 obtain ⟨r, h1, h2, h3, h4⟩ := Ya3 hb (left := 3000) (by decide) (by decide)
 rw [h1, Option.bind_some, Option.bind_some, Z98]
 by_cases hrn : ¬ 0 ≤ r
 ·simp [hrn]
 have hr : 0 ≤ r := Decidable.not_not.1 hrn
 have hp := h4 hr
 have hrg : Ur t 64 = some (rt t 64) := Zyw hb (Nat.le_refl _)
 rw [decide_eq_true hr, cond_true, hrg, Option.bind_some, Option.bind_some]
 cases hrt : rt t 64 with
 | false => simp
 | true =>
 by_cases h10 : t.Kind = 10
 ·simp [h10]
 have e0 : (cond (cond (!true) true (!true)) true (t.Kind == 10)) = false := by rw [Qq h10]; rfl
 rw [e0, cond_false, Z14 hb, Option.bind_some, (Zte hb (by omega) 131072).1, Option.bind_some]
 have hf : Fine t 64 := ⟨hb, hrt, by omega⟩
 have hm : Nm (nrm t) 64 := ⟨hf.nrm, Zol t, by rw [Zeh]; exact h10⟩
 have hz := Zwk hm.f.rt hm.f.pt
 rw [Z16 hm.f.rt, Option.bind_some, Yf (x := sz (nrm t)) (by omega) (by omega)]
 by_cases hs : 131072 ≤ sz (nrm t)
 ·have : enc t 131072 = ([], false) := by unfold enc; rw [if_neg (by simp [h10, hrt]), if_pos (.inl hs)]
  rw [decide_eq_true hs, cond_true, this]
  rfl
 have hen : enc t 131072 = (ly (nrm t) [0] 0, true) := by unfold enc; rw [if_neg (by simp [h10, hrt]), if_neg (by omega)]
 have hpt := Zz3 _ t (Nat.lt_succ_self _)
 have hwb := Z90 _ (nrm t) 64 (Nat.lt_succ_self _) hm.f
 have hrf := Z9a _ (nrm t) 64 (Nat.lt_succ_self _) hm.f
 rw [decide_eq_false hs, cond_false, hen, Z6r hm.f, Option.bind_some, Z4s hrf (by omega) (by
  rw [Zlr]
  have := Zro (nrm t)
  omega), Option.bind_some]
 by_cases hw : 65536 < ((wt (fm (nrm t)) : Nat) : Int)
 ·rw [decide_eq_true hw]
  rfl
 have hws := Ydu hm (by omega)
 have hl : (Gs ⟨64, 65536, 0, 0⟩).Depth = 64 ∧ (Gs ⟨64, 65536, 0, 0⟩).Weight = 65536 := ⟨rfl, rfl⟩
 obtain ⟨u1, u2⟩ := Z7b hm (by omega) (x := ⟨64, 65536, 0, 0⟩) hl.1 (by rw [hl.2]; omega)
 have hmsg : K5 (some ⟨[ly (nrm t) [0] 0], 0, 0⟩) (⟨64, 65536, 0, 0⟩ : Ye) = some (nrm t, 0) := by
  rw [Z4d (A := ⟨[ly (nrm t) [0] 0], 0, 0⟩) hws, u1, u2, Z8r _ (nrm t) 64 (Nat.lt_succ_self _) hm.f.rt, Zol]
 have hln := (Ybm hm.f hm.k (by omega)).1
 have hdec : Zb5 (ly (nrm t) [0] 0) (⟨64, 65536, 0, 0⟩ : Ye) = some (nrm t, 0) := by
  unfold Zb5
  rw [Z7j hws, Option.bind_some, hmsg, Option.bind_some]
  simp only
  rw [show ((0 : Int) != 0) = false from rfl, cond_false, (Zte hm.f.bd hm.f.pt _).1, Option.bind_some, Z7z hm (by omega) (by omega)]
  simp only
  rw [cond_true, Z6o (by omega), Option.bind_some]
  simp
 rw [decide_eq_false hw, cond_false, Z7j hws, Option.bind_some, hmsg, Option.bind_some, hdec, Option.bind_some]
 have hsame : Gg (nrm t) (nrm t) = some true := by rw [Ya2 hm.f.bd hm.f.bd, eqT_iff.2 rfl]
 have hle : (((ly (nrm t) [0] 0).length : Int) == sz (nrm t) + 1) = true := by rw [beq_iff_eq]; omega
 simp only [cond_true, Option.bind_some]
 rw [Yf (x := sz (nrm t) + 1) (by omega) (by omega), hle]
 simp [hsame]
end Go.Proofs.Ytpfbdlcnfekdkaa
