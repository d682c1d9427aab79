/- Plain facts on this seat's mirrors (part VP4); each theorem bears its own conditions. -/
import Derived.Test.YtmlhokaflhlhbaaVP1
import Derived.IntWalk
namespace Go.Proofs.Ytmlhokaflhlhbaa
open Go.RowKit
set_option linter.unusedVariables false
set_option linter.unusedSimpArgs false
abbrev Tr := S_api_Tree
def lvR (r : Zd) : Int := if r.kind = 0 then 0 else if r.kind = 9 ∧ 0 < r.count then 2 else 1
def Gq (r : Zd) : Int := if r.kind = 0 then 0 else if r.kind = 1 then 1 + r.words + r.ptrs else if r.kind = 9 then 1 + r.count * (1 + r.words + r.ptrs) else 1 + r.count
theorem Zu9 (r : Zd) : Vy r = some (lvR r) := by
 have hk : Y6 r = some r.kind := rfl
 unfold Vy lvR
 rw [hk, Zgn, Option.bind_some]
 by_cases h0 : r.kind = 0
 ·rw [show (r.kind == 0) = true from by rw [h0]; rfl, if_pos h0]; rfl
 rw [show (r.kind == 0) = false from Jn h0, if_neg h0, cond_false, Option.bind_some]
 by_cases h9 : r.kind = 9
 ·have hkn : Z6 r = r.count := by unfold Z6; rw [if_neg (by omega)]
  rw [show (r.kind == 9) = true from by rw [h9]; rfl, cond_true, Option.bind_some, Option.bind_some, cond_true, hkn]
  by_cases hc : 0 < r.count
  ·rw [if_pos ⟨h9, hc⟩, decide_eq_true hc]; rfl
  rw [if_neg (fun q => hc q.2), decide_eq_false hc]; rfl
 rw [show (r.kind == 9) = false from Jn h9, if_neg (fun q => h9 q.1)]; rfl
section
variable {A : Zj}
theorem Zup (hw : WS A.segments) {r : Zd} (h : OKr A r) : 0 ≤ Gq r ∧ Gq r ≤ 4503599627370496 ∧ (r.kind ≠ 0 → 1 ≤ Gq r) := by
 cases h with
 | z => simp [Gq, r0]
 | st s a d p hd hp hin => simp [Gq]; omega
 | li k s a n hk hn hin => simp only [Gq]; rw [if_neg (by omega), if_neg (by omega), if_neg (by omega)]; omega
 | co s a d p n hd hp hn hwx hin =>
  simp only [Gq, show ¬ (9 : Int) = 0 from by decide, show ¬ (9 : Int) = 1 from by decide, if_false, if_true]
  have : n * (1 + d + p) = n + n * (d + p) := by rw [Int.add_assoc, Int.mul_add, Int.mul_one]
  omega
 | at_ s a c i n hc h0 h1 hn hin => simp [Gq]
theorem Zvq (hw : WS A.segments) {r : Zd} (h : OKr A r) : K4 r = some (Gq r) := by
 have hk : Y6 r = some r.kind := rfl
 unfold K4 Gq
 rw [hk, Zvf, Zgn, Option.bind_some]
 cases h with
 | z => rfl
 | st s a d p hd hp hin =>
  simp only [Zt1, Z6, if_true, show ((1 : Int) == 0) = false from rfl, show ((1 : Int) == 1) = true from rfl, cond_false, cond_true, Option.bind_some, show ¬ (1 : Int) = 0 from by decide, if_false]
  rw [Yq (x := 1 + d) (by omega) (by omega), Yq (by omega) (by omega)]
 | li k s a n hk' hn hin =>
  simp only [Z6]
  rw [show (k == 0) = false from Jn (by omega), show (k == 1) = false from Jn (by omega), show (k == 9) = false from Jn (by omega), if_neg (by omega), if_neg (by omega), if_neg (by omega), if_neg (by omega), cond_false, cond_false, cond_false, Option.bind_some, Yq (by omega) (by omega)]
 | co s a d p n hd hp hn hwx hin =>
  have : n * (1 + d + p) = n + n * (d + p) := by rw [Int.add_assoc, Int.mul_add, Int.mul_one]
  unfold Vl
  simp only [Z6, show ((9 : Int) == 0) = false from rfl, show ((9 : Int) == 1) = false from rfl, show ((9 : Int) == 9) = true from rfl, show ((9 : Int) != 9) = false from rfl, cond_false, cond_true, Option.bind_some, show ¬ (9 : Int) = 0 from by decide, show ¬ (9 : Int) = 1 from by decide, if_false, if_true]
  rw [Yq (x := 1 + d) (by omega) (by omega), Yq (x := 1 + d + p) (by omega) (by omega), Yq (x := n * (1 + d + p)) (by omega) (by omega), Yq (by omega) (by omega)]
 | at_ s a c i n hc h0 h1 hn hin => rfl
def Qu (A : Zj) (r : Zd) : List Int := if r.kind = 10 then [Ztk A r] else if r.kind = 1 then ((seg A.segments r.segment).drop r.at_.toNat).take r.words.toNat else []
def Yd (f : Zd → Int → Tr × Int × Int) (g : Int → Zd × Int) : Nat → Nat → Int → List Tr → List Tr × Int × Int
 | 0, _, left, acc => (acc, left, 0)
 | m + 1, i, left, acc => if (g i).2 ≠ 0 then (acc, left, (g i).2) else if (f (g i).1 left).2.2 ≠ 0 then (acc, (f (g i).1 left).2.1, (f (g i).1 left).2.2) else Yd f g m (i + 1) (f (g i).1 left).2.1 (acc ++ [(f (g i).1 left).1])
def stK (A : Zj) (f : Zd → Int → Tr × Int × Int) (k : Zd) (left : Int) : Tr × Int × Int :=
 let q := Yd f (Ye A k) k.ptrs.toNat 0 left []
 (⟨1, Qu A k, q.1⟩, q.2)
def Zij (A : Zj) (k : Zd) (left : Int) : Tr × Int × Int := (⟨k.kind, Qu A k, []⟩, left, 0)
def Kj (A : Zj) (f1 f2 : Zd → Int → Tr × Int × Int) (r : Zd) : Zd → Int → Tr × Int × Int :=
 if r.kind = 9 then stK A f2 else if r.kind = 1 ∨ r.kind = 8 then f1 else Zij A
def Zdy (A : Zj) (f1 f2 : Zd → Int → Tr × Int × Int) (d : Int) (r : Zd) (left : Int) : Tr × Int × Int :=
 if r.kind = 0 then (⟨r.kind, Qu A r, []⟩, left, 0)
 else if d < lvR r ∨ left < Gq r then (⟨r.kind, Qu A r, []⟩, left, 3)
 else
  let q := Yd (Kj A f1 f2 r) (Ye A r) (Z6 r).toNat 0 (left - Gq r) []
  (⟨r.kind, Qu A r, q.1⟩, q.2)
def bad (_ : Zd) (left : Int) : Tr × Int × Int := (⟨0, [], []⟩, left, 3)
def Gh (A : Zj) : Nat → Zd → Int → Tr × Int × Int
 | 0 => Zdy A bad bad 0
 | 1 => Zdy A (Gh A 0) bad 1
 | d + 2 => Zdy A (Gh A (d + 1)) (Gh A d) ((d + 2 : Nat) : Int)
def Yl (A : Zj) (k : Nat) (d : Nat) : Zd → Int → Tr × Int × Int := if k ≤ d then Gh A (d - k) else bad
theorem Zjh (d : Nat) : Gh A d = Zdy A (Yl A 1 d) (Yl A 2 d) (d : Int) := by
 match d with
 | 0 => rfl
 | 1 => rfl
 | d + 2 =>
  unfold Yl
  rw [if_pos (by omega), if_pos (by omega)]
  rfl
def Lf (A : Zj) (f : Zd → Int → Tr × Int × Int) : Prop := ∀ k left, OKr A k → 0 ≤ left → (f k left).2.2 = 0 → 0 ≤ (f k left).2.1 ∧ (f k left).2.1 ≤ left
theorem Zp3 {f : Zd → Int → Tr × Int × Int} {g : Int → Zd × Int} (hf : Lf A f) (hg : ∀ i, OKr A (g i).1) : ∀ (m i : Nat) (left : Int) (acc : List Tr), 0 ≤ left → (Yd f g m i left acc).2.2 = 0 → 0 ≤ (Yd f g m i left acc).2.1 ∧ (Yd f g m i left acc).2.1 ≤ left
 | 0, i, left, acc, h0, _ => ⟨h0, Int.le_refl _⟩
 | m + 1, i, left, acc, h0, h => by
  rw [Yd] at h ⊢
  by_cases h1 : (g i).2 ≠ 0
  ·rw [if_pos h1] at h; exact absurd h h1
  rw [if_neg h1] at h ⊢
  by_cases h2 : (f (g i).1 left).2.2 ≠ 0
  ·rw [if_pos h2] at h; exact absurd h h2
  rw [if_neg h2] at h ⊢
  have h2' : (f (g i).1 left).2.2 = 0 := by omega
  obtain ⟨a1, a2⟩ := hf _ _ (hg i) h0 h2'
  obtain ⟨b1, b2⟩ := Zp3 hf hg m (i + 1) _ _ a1 h
  exact ⟨b1, by omega⟩
theorem Zqa : Lf A bad := fun k left _ _ h => by simp [bad] at h
theorem Zwe {f : Zd → Int → Tr × Int × Int} (hf : Lf A f) : Lf A (stK A f) := fun k left hk h0 h => Zp3 hf (fun i => Kk hk i) _ _ _ _ h0 h
theorem Zwc : Lf A (Zij A) := fun k left _ h0 _ => ⟨h0, Int.le_refl _⟩
theorem Zub {f1 f2 : Zd → Int → Tr × Int × Int} (h1 : Lf A f1) (h2 : Lf A f2) (r : Zd) : Lf A (Kj A f1 f2 r) := by
 unfold Kj
 split
 ·exact Zwe h2
 split
 ·exact h1
 exact Zwc
theorem Zwd (hw : WS A.segments) {f1 f2 : Zd → Int → Tr × Int × Int} (h1 : Lf A f1) (h2 : Lf A f2) (d : Int) : Lf A (Zdy A f1 f2 d) := fun r left hr h0 h => by
 have hwt := Zup hw hr
 unfold Zdy at h ⊢
 by_cases k0 : r.kind = 0
 ·rw [if_pos k0]; exact ⟨h0, Int.le_refl _⟩
 rw [if_neg k0] at h ⊢
 by_cases hb : d < lvR r ∨ left < Gq r
 ·rw [if_pos hb] at h; simp at h
 rw [if_neg hb] at h ⊢
 have := Zp3 (Zub h1 h2 r) (fun i => Kk hr i) (Z6 r).toNat 0 (left - Gq r) [] (by omega) h
 simp only
 omega
theorem Zho (hw : WS A.segments) : ∀ d, Lf A (Gh A d) := fun d => by
 induction d using Nat.strongRecOn with
 | ind d ih =>
  rw [Zjh]
  refine Zwd hw ?_ ?_ _
  ·unfold Yl
   split
   ·exact ih _ (by omega)
   exact Zqa
  unfold Yl
  split
  ·exact ih _ (by omega)
  exact Zqa
end
theorem Zrg {S R : Type} {s1 s2 : S → Option (S ⊕ R)} (h : ∀ s x, s1 s = some x → s2 s = some x) : ∀ (k : Nat) (s : S) (r : R), Vv s1 k s = some r → Vv s2 k s = some r
 | 0, s, r, q => by simp [Vv] at q
 | k + 1, s, r, q => by
  simp only [Vv] at q ⊢
  cases hs : s1 s with
  | none => rw [hs] at q; cases q
  | some x =>
   rw [hs] at q
   rw [h s x hs]
   cases x with
   | inl s' => exact Zrg h k s' r q
   | inr r' => exact q
theorem Znn {S R : Type} {s1 s2 : S → Option (S ⊕ R)} (h : ∀ s x, s1 s = some x → s2 s = some x) {s : S} {r : R} (q : Yj s1 s = some r) : Yj s2 s = some r := by
 obtain ⟨k, hk⟩ := Zea q
 exact Ze2 (Zrg h k s r hk)
theorem Vs {α β : Type} {o o' : Option α} {f f' : α → Option β} (h : ∀ x, o = some x → o' = some x) (hf : ∀ x y, f x = some y → f' x = some y) {r : β} (q : o.bind f = some r) : o'.bind f' = some r := by
 obtain ⟨x, h1, h2⟩ := Option.bind_eq_some_iff.1 q
 rw [h x h1]
 exact hf x r h2
theorem Zen {α : Type} (c : Bool) {a a' b b' : Option α} (h1 : ∀ r, a = some r → a' = some r) (h2 : ∀ r, b = some r → b' = some r) (r : α) (q : cond c a b = some r) : cond c a' b' = some r := by
 cases c with
 | true => exact h1 r q
 | false => exact h2 r q
theorem Zwg {R : Type} {F : Nat → Option R} {r : R} (hm : ∀ k r, F k = some r → F (k + 1) = some r) {K : Nat} (h : F K = some r) : lim F = some r := by
 refine Zm5 K fun k hk => ?_
 obtain ⟨d, rfl⟩ : ∃ d, k = K + d := ⟨k - K, by omega⟩
 clear hk
 induction d with
 | zero => exact h
 | succ d ih => exact hm _ _ ih
section
variable {A : Zj}
theorem Zmp {step : Int × Int → Option ((Int × Int) ⊕ ((Int × Int) ⊕ Int))} {F : Ze → Zd → Option (Int × Ze)} {f : Zd → Int → Tr × Int × Int} {r : Zd} (hw : WS A.segments) (hr : OKr A r) (n : Nat) (hn : n ≤ 1073741824)
  (hs : ∀ (i : Nat) (left : Int), i < n → step ((i : Int), left) = (Qr r i).bind fun y4 => cond (y4.2 != 0) (some (.inr (.inl (y4.2, left)))) ((F ⟨left⟩ y4.1).bind fun y6 => cond (y6.1 != 0) (some (.inr (.inl (y6.1, y6.2.left)))) (some (.inl (IntKind.i64.wrap ((i : Int) + 1), y6.2.left)))))
  (he : ∀ left, step ((n : Int), left) = some (.inr (.inr left)))
  (hf : Lf A f)
  (hF : ∀ (i : Nat) (left : Int), i < n → (Ye A r i).2 = 0 → 0 ≤ left ∧ left ≤ 65536 → ∃ e l', F ⟨left⟩ (Ye A r i).1 = some (e, ⟨l'⟩) ∧ e = (f (Ye A r i).1 left).2.2 ∧ (e = 0 → l' = (f (Ye A r i).1 left).2.1)) : ∀ (m i : Nat) (left : Int) (acc : List Tr), i + m = n → 0 ≤ left ∧ left ≤ 65536 →
  ∃ z, Yj step ((i : Int), left) = some z ∧ ((Yd f (Ye A r) m i left acc).2.2 = 0 → z = .inr (Yd f (Ye A r) m i left acc).2.1) ∧ ((Yd f (Ye A r) m i left acc).2.2 ≠ 0 → ∃ x, z = .inl ((Yd f (Ye A r) m i left acc).2.2, x))
 | 0, i, left, acc, hi, hl => by
  have : i = n := by omega
  subst this
  exact ⟨_, Y4 (he left), fun _ => rfl, fun h => absurd rfl h⟩
 | m + 1, i, left, acc, hi, hl => by
  have hst := hs i left (by omega)
  rw [Zyl hw hr, Option.bind_some] at hst
  rw [Yd]
  by_cases h1 : (Ye A r i).2 ≠ 0
  ·rw [if_pos h1]
   rw [show ((Ye A r i).2 != 0) = true from bne_iff_ne.2 h1, cond_true] at hst
   exact ⟨_, Y4 hst, fun h => absurd h h1, fun _ => ⟨_, rfl⟩⟩
  rw [if_neg h1]
  have h1' : (Ye A r i).2 = 0 := by omega
  rw [show ((Ye A r i).2 != 0) = false from by rw [h1']; rfl, cond_false] at hst
  obtain ⟨e, l', q1, q2, q3⟩ := hF i left (by omega) h1' hl
  rw [q1, Option.bind_some] at hst
  simp only at hst
  by_cases h2 : (f (Ye A r i).1 left).2.2 ≠ 0
  ·rw [if_pos h2]
   rw [q2, show ((f (Ye A r i).1 left).2.2 != 0) = true from bne_iff_ne.2 h2, cond_true] at hst
   exact ⟨_, Y4 hst, fun h => absurd h h2, fun _ => ⟨_, rfl⟩⟩
  rw [if_neg h2]
  have h2' : (f (Ye A r i).1 left).2.2 = 0 := by omega
  have e0 : e = 0 := q2.trans h2'
  have hl' := q3 e0
  have hb := hf _ left (Kk hr i) hl.1 h2'
  rw [e0, show ((0 : Int) != 0) = false from rfl, cond_false, Yq (by omega) (by omega), hl'] at hst
  rw [Qx (s' := (((i + 1 : Nat) : Int), (f (Ye A r i).1 left).2.1)) hst]
  exact Zmp hw hr n hn hs he hf hF m (i + 1) _ _ (by omega) ⟨hb.1, by omega⟩
def CK (A : Zj) (F : Ze → Zd → Int → Option (Int × Ze)) (f : Zd → Int → Tr × Int × Int) (d : Int) (r : Zd) (left : Int) : Prop := ∃ e l', F ⟨left⟩ r d = some (e, ⟨l'⟩) ∧ e = (f r left).2.2 ∧ (e = 0 → l' = (f r left).2.1)
theorem Zf1 {r : Zd} (h : OKr A r) : 0 ≤ Z6 r ∧ Z6 r ≤ 1073741824 := by
 cases h with
 | z => simp [Z6, r0]
 | st s a d p hd hp hin => simp only [Z6, if_true]; omega
 | li k s a n hk hn hin => simp only [Z6]; rw [if_neg (by omega)]; omega
 | co s a d p n hd hp hn hwx hin => simp only [Z6]; rw [if_neg (by omega)]; omega
 | at_ s a c i n hc h0 h1 hn hin => simp [Z6]
theorem Zv1 (hw : WS A.segments) {f1 f2 f3 : Ze → Zd → Int → Option (Int × Ze)} {f : Zd → Int → Tr × Int × Int} (hf : Lf A f) {r : Zd} (hr : OKr A r) {d left : Int} (hl : 0 ≤ left ∧ left ≤ 65536)
  (hF : ∀ (i : Nat) (l : Int), i < (Z6 r).toNat → (Ye A r i).2 = 0 → 0 ≤ l ∧ l ≤ 65536 → CK A f1 f d (Ye A r i).1 l) :
  ∃ e l', Xt f1 f2 f3 ⟨left⟩ r d = some (e, ⟨l'⟩) ∧ e = (Yd f (Ye A r) (Z6 r).toNat 0 left []).2.2 ∧ (e = 0 → l' = (Yd f (Ye A r) (Z6 r).toNat 0 left []).2.1) := by
 have hk := Zf1 hr
 unfold Xt
 rw [Zgn, Option.bind_some]
 have hN : Z6 r = (((Z6 r).toNat : Nat) : Int) := by omega
 obtain ⟨z, z1, z2, z3⟩ := Zmp (step := Xu f1 r d (Z6 r)) (F := fun c k => f1 c k d) (f := f) hw hr (Z6 r).toNat (by omega) (fun i l hi => by
  unfold Xu
  simp only
  rw [show decide ((i : Int) < Z6 r) = true from by rw [decide_eq_true_eq]; omega, cond_true]) (fun l => by
  unfold Xu
  simp only
  rw [show decide ((((Z6 r).toNat : Nat) : Int) < Z6 r) = false from by rw [decide_eq_false_iff_not]; omega, cond_false]) hf hF (Z6 r).toNat 0 left [] (by omega) hl
 rw [show (((0 : Nat) : Int)) = 0 from rfl] at z1
 rw [z1, Option.bind_some]
 by_cases hq : (Yd f (Ye A r) (Z6 r).toNat 0 left []).2.2 = 0
 ·rw [z2 hq]
  exact ⟨_, _, rfl, hq.symm, fun _ => rfl⟩
 obtain ⟨x, hx⟩ := z3 hq
 rw [hx]
 exact ⟨_, _, rfl, rfl, fun h => absurd h hq⟩
theorem Zqt (hw : WS A.segments) {f1 f2 f3 : Ze → Zd → Int → Option (Int × Ze)} {f : Zd → Int → Tr × Int × Int} (hf : Lf A f) {r : Zd} (hr : OKr A r) {d left : Int} (hd : 0 ≤ d ∧ d ≤ 1000) (hl : 0 ≤ left ∧ left ≤ 65536)
  (hF : ∀ (i : Nat) (l : Int), i < (Z6 r).toNat → (Ye A r i).2 = 0 → 0 ≤ l ∧ l ≤ 65536 → CK A f2 f (d - 1) (Ye A r i).1 l) :
  ∃ e l', Y7 f1 f2 f3 ⟨left⟩ r d = some (e, ⟨l'⟩) ∧ e = (Yd f (Ye A r) (Z6 r).toNat 0 left []).2.2 ∧ (e = 0 → l' = (Yd f (Ye A r) (Z6 r).toNat 0 left []).2.1) := by
 have hk := Zf1 hr
 unfold Y7
 rw [Zgn, Option.bind_some]
 obtain ⟨z, z1, z2, z3⟩ := Zmp (step := Y8 f2 r d (Z6 r)) (F := fun c k => f2 c k (d - 1)) (f := f) hw hr (Z6 r).toNat (by omega) (fun i l hi => by
  unfold Y8
  simp only
  rw [show decide ((i : Int) < Z6 r) = true from by rw [decide_eq_true_eq]; omega, cond_true, Yq (x := d - 1) (by omega) (by omega)]) (fun l => by
  unfold Y8
  simp only
  rw [show decide ((((Z6 r).toNat : Nat) : Int) < Z6 r) = false from by rw [decide_eq_false_iff_not]; omega, cond_false]) hf hF (Z6 r).toNat 0 left [] (by omega) hl
 rw [show (((0 : Nat) : Int)) = 0 from rfl] at z1
 rw [z1, Option.bind_some]
 by_cases hq : (Yd f (Ye A r) (Z6 r).toNat 0 left []).2.2 = 0
 ·rw [z2 hq]
  exact ⟨_, _, rfl, hq.symm, fun _ => rfl⟩
 obtain ⟨x, hx⟩ := z3 hq
 rw [hx]
 exact ⟨_, _, rfl, rfl, fun h => absurd h hq⟩
theorem Zq7 {g : Int → Zd × Int} (n : Nat) (hg : ∀ i : Nat, i < n → (g i).2 = 0) : ∀ (m i : Nat) (left : Int) (acc : List Tr), i + m = n → (Yd (Zij A) g m i left acc).2 = (left, 0)
 | 0, i, left, acc, _ => rfl
 | m + 1, i, left, acc, h => by
  rw [Yd, if_neg (by rw [hg i (by omega)]; simp), if_neg (by simp [Zij])]
  exact Zq7 n hg m (i + 1) left _ (by omega)
theorem Zwa {r : Zd} (hk : 2 ≤ r.kind ∧ r.kind ≤ 7) (i : Int) : (Ye A r i).2 = 0 := by
 unfold Ye
 split
 ·rfl
 rw [if_neg (by omega), if_neg (by omega), if_neg (by omega)]
theorem Zlx {r : Zd} (hk : r.kind = 9) {i : Int} (h : 0 ≤ i ∧ i < Z6 r) : (Ye A r i).1.kind = 1 := by
 unfold Ye
 rw [if_neg (by omega), if_neg (by omega), if_neg (by omega), if_pos hk]
theorem Zuv (hw : WS A.segments) {f1 f2 f3 : Ze → Zd → Int → Option (Int × Ze)} {g1 g2 : Zd → Int → Tr × Int × Int} {r : Zd} (hr : OKr A r) {d left : Int} (hd : 0 ≤ d ∧ d ≤ 1000) (hl : 0 ≤ left ∧ left ≤ 65536)
  (hK : (r.kind = 1 ∨ r.kind = 8) → 1 ≤ d → ∀ l, 0 ≤ l ∧ l ≤ 65536 → ∃ e l', f2 ⟨l⟩ r (d - 1) = some (e, ⟨l'⟩) ∧ e = (Yd g1 (Ye A r) (Z6 r).toNat 0 l []).2.2 ∧ (e = 0 → l' = (Yd g1 (Ye A r) (Z6 r).toNat 0 l []).2.1))
  (hS : r.kind = 9 → 1 ≤ d → (0 < r.count → 2 ≤ d) → ∀ l, 0 ≤ l ∧ l ≤ 65536 → ∃ e l', f3 ⟨l⟩ r (d - 1) = some (e, ⟨l'⟩) ∧ e = (Yd (stK A g2) (Ye A r) (Z6 r).toNat 0 l []).2.2 ∧ (e = 0 → l' = (Yd (stK A g2) (Ye A r) (Z6 r).toNat 0 l []).2.1)) :
  ∃ e l', Xm f1 f2 f3 ⟨left⟩ r d = some (e, ⟨l'⟩) ∧ e = (Zdy A g1 g2 d r left).2.2 ∧ (e = 0 → l' = (Zdy A g1 g2 d r left).2.1) := by
 have hwt := Zup hw hr
 have hkd := Zya hr
 have hkk : Y6 r = some r.kind := rfl
 unfold Xm Zdy
 rw [Zu9, Zvq hw hr, hkk]
 have hz : (cond (decide (d < lvR r)) (some true) ((some (Gq r)).bind fun y7 => some (cond (decide (d < lvR r)) true (decide (left < y7))))) = some (decide (d < lvR r ∨ left < Gq r)) := by
  by_cases h0 : d < lvR r
  ·rw [decide_eq_true h0, cond_true, show decide (d < lvR r ∨ left < Gq r) = true from decide_eq_true (.inl h0)]
  rw [decide_eq_false h0, cond_false, Option.bind_some, cond_false]
  congr 1
  rw [decide_eq_decide]
  omega
 rw [Option.bind_some, hz, Option.bind_some]
 by_cases k0 : r.kind = 0
 ·rw [if_pos k0]
  have e1 : lvR r = 0 := by unfold lvR; rw [if_pos k0]
  have e2 : Gq r = 0 := by unfold Gq; rw [if_pos k0]
  rw [e1, e2, show decide (d < 0 ∨ left < 0) = false from by rw [decide_eq_false_iff_not]; omega, cond_false, Option.bind_some, Option.bind_some, k0]
  refine ⟨0, left, ?_, rfl, fun _ => rfl⟩
  show some ((0 : Int), (⟨IntKind.i64.wrap (left - 0)⟩ : Ze)) = _
  rw [Yq (by omega) (by omega), Int.sub_zero]
 rw [if_neg k0]
 by_cases hb : d < lvR r ∨ left < Gq r
 ·rw [if_pos hb, decide_eq_true hb, cond_true]
  exact ⟨_, _, rfl, rfl, fun h => by simp at h⟩
 rw [if_neg hb, decide_eq_false hb, cond_false, Option.bind_some, Option.bind_some, Yq (x := left - Gq r) (by omega) (by omega), Yq (x := d - 1) (by omega) (by omega)]
 have hlv : 1 ≤ d := by
  have : 1 ≤ lvR r := by unfold lvR; rw [if_neg k0]; split <;> omega
  omega
 have hl' : 0 ≤ left - Gq r ∧ left - Gq r ≤ 65536 := by omega
 by_cases k18 : r.kind = 1 ∨ r.kind = 8
 ·have e1 : (cond (r.kind == 1) (some (r.kind == 1)) (some (r.kind == 8))) = some true := by
   rcases k18 with k | k <;> rw [k] <;> rfl
  have hkf : Kj A g1 g2 r = g1 := by unfold Kj; rw [if_neg (by omega), if_pos k18]
  rw [e1, Option.bind_some, cond_true, hkf]
  obtain ⟨e, l', q1, q2, q3⟩ := hK k18 hlv _ hl'
  rw [q1]
  exact ⟨e, l', rfl, q2, q3⟩
 have e1 : (cond (r.kind == 1) (some (r.kind == 1)) (some (r.kind == 8))) = some false := by
  rw [show (r.kind == 1) = false from Jn (by omega), show (r.kind == 8) = false from Jn (by omega)]; rfl
 rw [e1, Option.bind_some, cond_false]
 by_cases k9 : r.kind = 9
 ·have hkf : Kj A g1 g2 r = stK A g2 := by unfold Kj; rw [if_pos k9]
  have hc : 0 < r.count → 2 ≤ d := fun hc => by
   have : lvR r = 2 := by unfold lvR; rw [if_neg k0, if_pos ⟨k9, hc⟩]
   omega
  rw [show (r.kind == 9) = true from by rw [k9]; rfl, cond_true, hkf]
  obtain ⟨e, l', q1, q2, q3⟩ := hS k9 hlv hc _ hl'
  rw [q1]
  exact ⟨e, l', rfl, q2, q3⟩
 have hkf : Kj A g1 g2 r = Zij A := by unfold Kj; rw [if_neg k9, if_neg k18]
 rw [show (r.kind == 9) = false from Jn k9, cond_false, hkf]
 have hgo : (Yd (Zij A) (Ye A r) (Z6 r).toNat 0 (left - Gq r) []).2 = (left - Gq r, 0) := by
  by_cases k10 : r.kind = 10
  ·have : Z6 r = 0 := by
    cases hr with
    | at_ s a c i n hc h0 h1 hn hin => simp [Z6]
    | z => simp [r0] at k10
    | st => simp at k10
    | li k s a n hk => simp only at k10; omega
    | co => simp at k10
   rw [this]; rfl
  exact Zq7 (Z6 r).toNat (fun i _ => Zwa (by omega) i) _ 0 _ _ (by omega)
 refine ⟨0, left - Gq r, rfl, ?_, fun _ => ?_⟩
 ·simp only; rw [hgo]
 simp only; rw [hgo]
theorem Zv2 (hw : WS A.segments) : ∀ (K : Nat), (∀ (d : Nat) r left, d ≤ 1000 → OKr A r → 0 ≤ left ∧ left ≤ 65536 → 2 * d + 1 ≤ K → CK A (Zo K).1 (Gh A d) d r left) ∧
  (∀ (d : Nat) r left, d ≤ 1000 → OKr A r → 0 ≤ left ∧ left ≤ 65536 → 2 * d + 2 ≤ K → ∃ e l', (Zo K).2.1 ⟨left⟩ r d = some (e, ⟨l'⟩) ∧ e = (Yd (Gh A d) (Ye A r) (Z6 r).toNat 0 left []).2.2 ∧ (e = 0 → l' = (Yd (Gh A d) (Ye A r) (Z6 r).toNat 0 left []).2.1)) ∧
  (∀ (d : Nat) r left, d ≤ 1000 → OKr A r → r.kind = 9 → 0 ≤ left ∧ left ≤ 65536 → (0 < r.count → 1 ≤ d) → 2 * d + 2 ≤ K → ∃ e l', (Zo K).2.2 ⟨left⟩ r d = some (e, ⟨l'⟩) ∧ e = (Yd (stK A (Yl A 1 d)) (Ye A r) (Z6 r).toNat 0 left []).2.2 ∧ (e = 0 → l' = (Yd (stK A (Yl A 1 d)) (Ye A r) (Z6 r).toNat 0 left []).2.1))
 | 0 => ⟨fun d r left _ _ _ h => by omega, fun d r left _ _ _ h => by omega, fun d r left _ _ _ _ _ h => by omega⟩
 | K + 1 => by
  obtain ⟨i1, i2, i3⟩ := Zv2 hw K
  refine ⟨fun d r left hd hr hl hK => ?_, fun d r left hd hr hl hK => ?_, fun d r left hd hr k9 hl hc hK => ?_⟩
  ·show ∃ e l', Xm (Zo K).1 (Zo K).2.1 (Zo K).2.2 ⟨left⟩ r d = some (e, ⟨l'⟩) ∧ _
   rw [Zjh]
   refine Zuv hw hr (by omega) hl (fun k18 h1 l hl => ?_) (fun k9 h1 hc l hl => ?_)
   ·have := i2 (d - 1) r l (by omega) hr hl (by omega)
    rw [show (((d - 1 : Nat) : Int)) = (d : Int) - 1 by omega] at this
    unfold Yl
    rw [if_pos (by omega)]
    exact this
   have := i3 (d - 1) r l (by omega) hr k9 hl (fun h => by have := hc h; omega) (by omega)
   rw [show (((d - 1 : Nat) : Int)) = (d : Int) - 1 by omega] at this
   have e : Yl A 1 (d - 1) = Yl A 2 d := by
    unfold Yl
    by_cases h2 : 2 ≤ d
    ·rw [if_pos (by omega), if_pos h2, show d - 1 - 1 = d - 2 by omega]
    rw [if_neg (by omega), if_neg h2]
   rw [e] at this
   exact this
  ·show ∃ e l', Xt (Zo K).1 (Zo K).2.1 (Zo K).2.2 ⟨left⟩ r d = some (e, ⟨l'⟩) ∧ _
   exact Zv1 hw (Zho hw d) hr hl fun i l hi _ hl => i1 d _ l hd (Kk hr i) hl (by omega)
  show ∃ e l', Y7 (Zo K).1 (Zo K).2.1 (Zo K).2.2 ⟨left⟩ r d = some (e, ⟨l'⟩) ∧ _
  have hlf : Lf A (Yl A 1 d) := by
   unfold Yl
   split
   ·exact Zho hw _
   exact Zqa
  refine Zqt hw (Zwe hlf) hr (by omega) hl fun i l hi _ hl => ?_
  have hkn : Z6 r = r.count := by unfold Z6; rw [if_neg (by omega)]
  have hd1 : 1 ≤ d := hc (by omega)
  have h := i2 (d - 1) (Ye A r i).1 l (by omega) (Kk hr i) hl (by omega)
  rw [show (((d - 1 : Nat) : Int)) = (d : Int) - 1 by omega] at h
  have hk1 := Zlx (A := A) k9 (i := (i : Int)) (by omega)
  have hkk : Z6 (Ye A r i).1 = (Ye A r i).1.ptrs := by unfold Z6; rw [if_pos hk1]
  rw [hkk] at h
  have e : Yl A 1 d = Gh A (d - 1) := by unfold Yl; rw [if_pos hd1]
  rw [e]
  exact h
def LE3 {α β γ δ : Type} (f g : α → β → γ → Option δ) : Prop := ∀ x y z r, f x y z = some r → g x y z = some r
theorem Zqw : ∀ (k : Nat), LE3 (Zo k).1 (Zo (k + 1)).1 ∧ LE3 (Zo k).2.1 (Zo (k + 1)).2.1 ∧ LE3 (Zo k).2.2 (Zo (k + 1)).2.2
 | 0 => ⟨fun x y z r h => (by cases h), fun x y z r h => (by cases h), fun x y z r h => (by cases h)⟩
 | k + 1 => by
  obtain ⟨i1, i2, i3⟩ := Zqw k
  refine ⟨fun c r d v h => ?_, fun c r d v h => ?_, fun c r d v h => ?_⟩
  ·refine Vs (fun _ q => q) (fun z => Zen _ (fun _ q => q) fun _ => Vs (fun _ q => q) fun w _ => Vs (fun _ q => q) fun u _ => Vs (fun _ q => q) fun b => Zen _ (fun _ => Vs (fun x q => i2 _ _ _ x q) fun _ _ q => q) (Zen _ (fun _ => Vs (fun x q => i3 _ _ _ x q) fun _ _ q => q) fun _ q => q)) h
  ·refine Vs (fun _ q => q) (fun n _ => Vs (fun x => Znn fun s y q => ?_) fun _ _ q => q) h
   exact Zen _ (fun _ => Vs (fun _ q => q) fun u => Zen _ (fun _ q => q) fun _ => Vs (fun x q => i1 _ _ _ x q) fun _ _ q => q) (fun _ q => q) y q
  refine Vs (fun _ q => q) (fun n _ => Vs (fun x => Znn fun s y q => ?_) fun _ _ q => q) h
  exact Zen _ (fun _ => Vs (fun _ q => q) fun u => Zen _ (fun _ q => q) fun _ => Vs (fun x q => i2 _ _ _ x q) fun _ _ q => q) (fun _ q => q) y q
theorem Zuw (hw : WS A.segments) {d : Nat} (hd : d ≤ 1000) {r : Zd} (hr : OKr A r) {left : Int} (hl : 0 ≤ left ∧ left ≤ 65536) : CK A Vr (Gh A d) d r left := by
 obtain ⟨e, l', h1, h2, h3⟩ := (Zv2 hw (2 * d + 1)).1 d r left hd hr hl (Nat.le_refl _)
 exact ⟨e, l', Zwg (F := fun k => (Zo k).1 ⟨left⟩ r d) (fun k x => (Zqw k).1 _ _ _ x) h1, h2, h3⟩
def Zil (x m : Int) : Int := if m < (if x < 0 then 0 else x) then m else (if x < 0 then 0 else x)
def Q3 (x : Zy) : Zy := ⟨Zil x.Depth 64, Zil x.Weight 65536, Zil x.MaxD 4096, Zil x.MaxOut 131072⟩
theorem Zpf (x : Zy) : K3 x = some (Q3 x) := rfl
theorem Zdp (x m : Int) (hm : 0 ≤ m) : 0 ≤ Zil x m ∧ Zil x m ≤ m := by unfold Zil; repeat' split; all_goals omega
def Zfu (A : Zj) (x : Zy) : Int × Int :=
 if (atR A 0 0).2 ≠ 0 then (0, (atR A 0 0).2)
 else
  let q := Gh A (Q3 x).Depth.toNat (atR A 0 0).1 (Q3 x).Weight
  if q.2.2 ≠ 0 then (0, q.2.2) else ((Q3 x).Weight - q.2.1, 0)
theorem Zmo (hw : WS A.segments) (x : Zy) : Kv (some A) x = some (Zfu A x) := by
 unfold Kv Zfu
 rw [Zpf, Option.bind_some, Zx0 hw, Option.bind_some]
 have hd : 0 ≤ (Q3 x).Depth ∧ (Q3 x).Depth ≤ 64 := Zdp _ _ (by decide)
 have hW : 0 ≤ (Q3 x).Weight ∧ (Q3 x).Weight ≤ 65536 := Zdp _ _ (by decide)
 by_cases h : (atR A 0 0).2 ≠ 0
 ·rw [if_pos h, show ((atR A 0 0).2 != 0) = true from bne_iff_ne.2 h, cond_true]
 rw [if_neg h, show ((atR A 0 0).2 != 0) = false from bne_eq_false_iff_eq.2 (by omega), cond_false]
 obtain ⟨e, l', h1, h2, h3⟩ := Zuw hw (d := (Q3 x).Depth.toNat) (by omega) (Zft (A := A) 0 0) hW
 rw [show (((Q3 x).Depth.toNat : Nat) : Int) = (Q3 x).Depth by omega] at h1
 rw [h1, Option.bind_some]
 simp only
 rw [h2]
 by_cases hq : (Gh A (Q3 x).Depth.toNat (atR A 0 0).1 (Q3 x).Weight).2.2 ≠ 0
 ·rw [if_pos hq, show ((Gh A (Q3 x).Depth.toNat (atR A 0 0).1 (Q3 x).Weight).2.2 != 0) = true from bne_iff_ne.2 hq, cond_true]
 have h0 : (Gh A (Q3 x).Depth.toNat (atR A 0 0).1 (Q3 x).Weight).2.2 = 0 := by omega
 have hb := Zho hw _ _ _ (Zft (A := A) 0 0) hW.1 h0
 rw [if_neg hq, show ((Gh A (Q3 x).Depth.toNat (atR A 0 0).1 (Q3 x).Weight).2.2 != 0) = false from bne_eq_false_iff_eq.2 h0, cond_false, h3 (by rw [h2, h0]), Yq (by omega) (by omega)]
end
theorem Zqv : Zfu ⟨[[4294967296, 7]], 0, 0⟩ ⟨1, 2, 0, 0⟩ = (2, 0) := by
 unfold Zfu
 rw [Zo7]
 rfl
theorem Zqu : Zfu ⟨[[4294967296, 7]], 0, 0⟩ ⟨1, 1, 0, 0⟩ = (0, 3) := by
 unfold Zfu
 rw [Zo7]
 rfl
theorem Zo8 : Qp = some true := by
 have hw := Zxe
 unfold Qp
 rw [Zvt hw, Option.bind_some, Zmo (A := ⟨[[4294967296, 7]], 0, 0⟩) hw, Option.bind_some, Zmo (A := ⟨[[4294967296, 7]], 0, 0⟩) hw, Option.bind_some, Zqv, Zqu]
 rfl
theorem Zbi (x m : Int) (hm : 0 ≤ m) : Y2 x m = some (Zil x m) := by
 unfold Y2 Zil
 by_cases h : x < 0
 ·rw [decide_eq_true h, if_pos h, if_neg (by omega)]; rfl
 rw [decide_eq_false h, if_neg h]
 by_cases h2 : m < x
 ·rw [decide_eq_true h2, if_pos h2]; rfl
 rw [decide_eq_false h2, if_neg h2]; rfl
theorem Ztu (x : Zy) : Je x = some (Q3 x) := by
 unfold Je
 rw [Zbi _ _ (by decide), Zbi _ _ (by decide), Zbi _ _ (by decide), Zbi _ _ (by decide)]
 rfl
theorem Zwf (x : Zy) : ∃ w, Jz x = some ⟨x.Depth, w, x.MaxD, x.MaxOut⟩ := by
 unfold Jz
 cases decide (3000 < x.Weight) with
 | true => exact ⟨3000, rfl⟩
 | false => exact ⟨x.Weight, rfl⟩
theorem Zvk {c : Int} (h : 0 ≤ c ∧ c ≤ 5) : Qq c = some (wdt c) := by
 unfold Qq
 rcases c5 h with rfl | rfl | rfl | rfl | rfl | rfl <;> rfl
theorem Zqs (q : Int) (n : Nat) (hn : Int.tmod q 64 = (n : Int)) (hn2 : n < 64) : ∀ (m t w : Nat), t + m = n → w < 18446744073709551616 → Yj (Qc q) ((w : Int), (t : Int)) = some ((w / 2 ^ m : Nat) : Int)
 | 0, t, w, h, hw => by
  refine Y4 ?_
  unfold Qc
  simp only
  rw [hn, show decide ((t : Int) < (n : Int)) = false from by rw [decide_eq_false_iff_not]; omega, cond_false, Nat.pow_zero, Nat.div_one]
 | m + 1, t, w, h, hw => by
  have hs : Qc q ((w : Int), (t : Int)) = some (.inl (((w / 2 : Nat) : Int), ((t + 1 : Nat) : Int))) := by
   unfold Qc
   simp only
   rw [hn, show decide ((t : Int) < (n : Int)) = true from by rw [decide_eq_true_eq]; omega, cond_true, Int.tdiv_eq_ediv_of_nonneg (by omega), show ((w : Int) / 2) = ((w / 2 : Nat) : Int) from rfl, Zyu _ (by omega), Yq (by omega) (by omega)]
   rfl
  rw [Qx hs, Zqs q n hn hn2 m (t + 1) (w / 2) (by omega) (by omega), Nat.div_div_eq_div_mul, Nat.pow_succ, Nat.mul_comm]
theorem Zyf {l : List Int} (hl : ∀ w ∈ l, 0 ≤ w ∧ w < 18446744073709551616) {k : Nat} {w : Int} (hk : k < 1125899906842624) (hg : l[k / 64]? = some w) : K1 l (k : Int) = some ((w.toNat / 2 ^ (k % 64) % 2 : Nat) : Int) := by
 have hi : k / 64 < l.length := by
  rcases Nat.lt_or_ge (k / 64) l.length with h | h
  ·exact h
  rw [List.getElem?_eq_none h] at hg; cases hg
 have hwr := hl w (List.mem_of_getElem? hg)
 unfold K1
 have t1 : Int.tdiv (k : Int) 64 = ((k / 64 : Nat) : Int) := by rw [Int.tdiv_eq_ediv_of_nonneg (by omega)]; rfl
 have t2 : Int.tmod (k : Int) 64 = ((k % 64 : Nat) : Int) := by rw [Int.tmod_eq_emod_of_nonneg (by omega)]; rfl
 rw [t1, Yq (x := ((k / 64 : Nat) : Int)) (by omega) (by omega), show decide ((k : Int) < 0) = false from by rw [decide_eq_false_iff_not]; omega, cond_false, show decide ((l.length : Int) ≤ ((k / 64 : Nat) : Int)) = false from by rw [decide_eq_false_iff_not]; omega, cond_false, Zhm hg, Option.bind_some]
 have hL := Zqs (k : Int) (k % 64) t2 (Nat.mod_lt _ (by decide)) (k % 64) 0 w.toNat (by omega) (by omega)
 rw [show ((w.toNat : Nat) : Int) = w by omega, show (((0 : Nat) : Int)) = 0 from rfl] at hL
 rw [hL, Option.bind_some, Int.tmod_eq_emod_of_nonneg (Int.natCast_nonneg _)]
 rfl
theorem Zq4 {l : List Int} (hl : ∀ w ∈ l, 0 ≤ w ∧ w < 18446744073709551616) {d q i : Nat} {w : Int} (hd : 1 ≤ d ∧ d ≤ 64) (hi : i * d + d < 1125899906842624) (hq : ∀ j, j < d → (i * d + j) / 64 = q ∧ (i * d + j) % 64 = (i * d) % 64 + j) (hg : l[q]? = some w) : ∀ (m : Nat) (acc : Int), m ≤ d → acc = ((w.toNat / 2 ^ ((i * d) % 64 + m) % 2 ^ (d - m) : Nat) : Int) →
  Yj (Qd l (i : Int) (d : Int)) (acc, (m : Int) - 1) = some ((w.toNat / 2 ^ ((i * d) % 64) % 2 ^ d : Nat) : Int)
 | 0, acc, hm, ha => by
  refine Y4 ?_
  unfold Qd
  simp only
  rw [show decide ((0 : Int) ≤ ((0 : Nat) : Int) - 1) = false from rfl, cond_false, ha]
  rfl
 | m + 1, acc, hm, ha => by
  obtain ⟨q1, q2⟩ := hq m (by omega)
  have hb := Zyf hl (k := i * d + m) (w := w) (by omega) (by rw [q1]; exact hg)
  rw [q2] at hb
  have hlt : w.toNat / 2 ^ ((i * d) % 64 + (m + 1)) % 2 ^ (d - (m + 1)) < 2 ^ 63 := Nat.lt_of_lt_of_le (Nat.mod_lt _ (Nat.pow_pos (by decide))) (Nat.pow_le_pow_right (by decide) (by omega))
  have hbit : w.toNat / 2 ^ ((i * d) % 64 + m) % 2 < 2 := Nat.mod_lt _ (by decide)
  have hstep : Qd l (i : Int) (d : Int) (acc, ((m + 1 : Nat) : Int) - 1) = some (.inl (((w.toNat / 2 ^ ((i * d) % 64 + m) % 2 ^ (d - m) : Nat) : Int), (m : Int) - 1)) := by
   unfold Qd
   simp only
   have e1 : IntKind.i64.wrap (IntKind.i64.wrap ((i : Int) * (d : Int)) + (((m + 1 : Nat) : Int) - 1)) = ((i * d + m : Nat) : Int) := by
    have e0 : ((i : Int) * (d : Int)) = ((i * d : Nat) : Int) := by simp
    rw [e0, Yq (x := ((i * d : Nat) : Int)) (by omega) (by omega), Yq (by omega) (by omega)]
    omega
   rw [show decide ((0 : Int) ≤ ((m + 1 : Nat) : Int) - 1) = true from by rw [decide_eq_true_eq]; omega, cond_true, e1, hb, Option.bind_some, ha]
   have e2 : ((w.toNat / 2 ^ ((i * d) % 64 + (m + 1)) % 2 ^ (d - (m + 1)) : Nat) : Int) * 2 = ((w.toNat / 2 ^ ((i * d) % 64 + (m + 1)) % 2 ^ (d - (m + 1)) * 2 : Nat) : Int) := by simp
   rw [e2, Zyu _ (by omega), ← Int.natCast_add, Zyu _ (by omega), Yq (by omega) (by omega)]
   have e3 : w.toNat / 2 ^ ((i * d) % 64 + (m + 1)) % 2 ^ (d - (m + 1)) * 2 + w.toNat / 2 ^ ((i * d) % 64 + m) % 2 = w.toNat / 2 ^ ((i * d) % 64 + m) % 2 ^ (d - m) := by
    have h1 : w.toNat / 2 ^ ((i * d) % 64 + (m + 1)) = w.toNat / 2 ^ ((i * d) % 64 + m) / 2 := by
     rw [Nat.div_div_eq_div_mul, ← Nat.pow_succ]; rfl
    have h2 : d - m = (d - (m + 1)) + 1 := by omega
    rw [h1, h2]
    generalize w.toNat / 2 ^ ((i * d) % 64 + m) = x
    generalize d - (m + 1) = y
    rw [Nat.pow_succ, Nat.mul_comm (2 ^ y) 2, Nat.mod_mul]
    omega
   rw [e3]
   congr 3
   omega
  rw [Qx hstep]
  exact Zq4 hl hd hi hq hg m _ (by omega) rfl
theorem Zxz {l : List Int} (hl : ∀ w ∈ l, 0 ≤ w ∧ w < 18446744073709551616) {c i n : Int} (hc : 0 ≤ c ∧ c ≤ 5) (h0 : 0 ≤ i) (h1 : i < n) (hn : n < 536870912) (hi : (n * wdt c + 63) / 64 ≤ l.length) : K2 l c i = some (if c = 0 then 0 else Ztl ((l[(i / each c).toNat]?).getD 0) c (i % each c)) := by
 unfold K2
 rw [Zvk hc, Option.bind_some]
 by_cases hz : c = 0
 ·subst hz
  rw [if_pos rfl]
  rfl
 rw [if_neg hz]
 obtain ⟨d, e, hd⟩ : ∃ d : Nat, wdt c = (d : Int) ∧ (d = 1 ∨ d = 8 ∨ d = 16 ∨ d = 32 ∨ d = 64) := by
  rcases c5 hc with rfl | rfl | rfl | rfl | rfl | rfl
  ·omega
  ·exact ⟨1, rfl, by omega⟩
  ·exact ⟨8, rfl, by omega⟩
  ·exact ⟨16, rfl, by omega⟩
  ·exact ⟨32, rfl, by omega⟩
  exact ⟨64, rfl, by omega⟩
 obtain ⟨j, rfl⟩ : ∃ j : Nat, i = j := ⟨i.toNat, by omega⟩
 have he : each c = ((64 / d : Nat) : Int) := by unfold each; rw [e]; rfl
 rw [e] at hi ⊢
 rw [show decide ((d : Int) < 1) = false from by rw [decide_eq_false_iff_not]; omega, show decide ((j : Int) < 0) = false from by rw [decide_eq_false_iff_not]; omega, show decide (1099511627776 < (j : Int)) = false from by rw [decide_eq_false_iff_not]; omega]
 simp only [cond_false]
 rw [Yq (x := (d : Int) - 1) (by omega) (by omega)]
 have hqn : ((j : Int) / each c).toNat = j / (64 / d) := by rw [he]; rfl
 have hrn : ((j : Int) % each c) = ((j % (64 / d) : Nat) : Int) := by rw [he]; rfl
 rw [hqn, hrn]
 have hin : j / (64 / d) < l.length ∧ ∀ t, t < d → (j * d + t) / 64 = j / (64 / d) ∧ (j * d + t) % 64 = (j * d) % 64 + t := by
  rcases hd with rfl | rfl | rfl | rfl | rfl
  ·exact ⟨by omega, fun t ht => by omega⟩
  ·exact ⟨by omega, fun t ht => by omega⟩
  ·exact ⟨by omega, fun t ht => by omega⟩
  ·exact ⟨by omega, fun t ht => by omega⟩
  exact ⟨by omega, fun t ht => by omega⟩
 have hoff : (j * d) % 64 = (j % (64 / d)) * d := by
  rcases hd with rfl | rfl | rfl | rfl | rfl
  ·omega
  ·omega
  ·omega
  ·omega
  omega
 have hg : l[j / (64 / d)]? = some l[j / (64 / d)] := List.getElem?_eq_getElem hin.1
 have hjd : j * d ≤ 536870912 * 64 := Nat.mul_le_mul (by omega) (by omega)
 rw [Zq4 hl (d := d) (i := j) (by omega) (by omega) hin.2 hg d 0 (Nat.le_refl _) (by rw [Nat.sub_self, Nat.pow_zero, Nat.mod_one]; rfl), Option.bind_some, hg, Option.getD_some]
 unfold Ztl
 rw [e, hoff]
 congr 4
section
variable {A : Zj}
def Jr (A : Zj) (r : Zd) : Zm :=
 if r.kind = 0 then ⟨0, 0, 0, 0, 0, 0, 0⟩
 else if r.kind = 1 then ⟨1, r.segment, r.at_, r.words, r.ptrs, 0, 0⟩
 else if r.kind = 9 then ⟨9, r.segment, r.at_ + 1, r.words, r.ptrs, r.count, 0⟩
 else if r.kind = 10 then ⟨10, 0, 0, 0, 0, 0, Ztk A r⟩
 else ⟨r.kind, r.segment, r.at_, 0, 0, r.count, 0⟩
def Zoe (A : Zj) (x : Zd × Int) : Zm × Int := (Jr A x.1, x.2)
theorem Zbo {r : Zd} : (Jr A r).Kind = r.kind := by
 unfold Jr
 split
 ·symm; assumption
 split
 ·symm; assumption
 split
 ·symm; assumption
 split
 ·symm; assumption
 rfl
theorem Zxk {w : Int} (h : 0 ≤ w) : (dc w).Kind = 0 ↔ w = 0 := by
 unfold dc Zs9
 constructor
 ·intro q
  split at q
  ·omega
  split at q
  ·simp at q
  split at q
  ·simp at q
  split at q
  ·simp at q
  simp at q
 intro q
 rw [if_pos (by omega)]
theorem Ztq (hw : WS A.segments) (s a : Int) : Q9 A.segments s a = some (Zoe A (atR A s a)) := by
 have hk0 := Zin A.segments s a
 have hR : Qe A.segments s a = some (⟨(fol A.segments s a).1.P, (fol A.segments s a).1.Segment, (fol A.segments s a).1.At⟩, (fol A.segments s a).2) := Ztt hw s a
 unfold Q9 atR
 rw [hR, Option.bind_some]
 clear hR
 revert hk0
 generalize fol A.segments s a = y
 intro hk0
 obtain ⟨x, e⟩ := y
 dsimp only at hk0 ⊢
 rcases hk0 with h | ⟨h1, hp, hk, hi⟩
 ·rw [if_pos h]
  have : cond (e != 0) true (x.P.Kind == 0) = true := by
   rcases h with h | h
   ·rw [bne_iff_ne.2 h]; rfl
   rw [show (x.P.Kind == 0) = true from by rw [h]; rfl]
   cases (e != 0) <;> rfl
  rw [this, cond_true]; rfl
 rw [if_neg (by omega), h1, show ((0 : Int) != 0) = false from rfl, cond_false]
 rw [show (x.P.Kind == 0) = false from Jn (by omega), cond_false]
 by_cases k1 : x.P.Kind = 1
 ·rw [if_pos k1, show (x.P.Kind == 1) = true from by rw [k1]; rfl, cond_true]
  rfl
 rw [if_neg k1, show (x.P.Kind == 1) = false from Jn k1, cond_false]
 have hc := hp.c
 by_cases c7' : x.P.Code = 7
 ·rw [if_pos c7', show decide (x.P.Code < 7) = false from by rw [decide_eq_false_iff_not]; omega, cond_false]
  have hpw : pw x.P = x.P.Count + 1 := by unfold pw; rw [if_neg k1, if_pos c7']
  rw [hpw] at hi
  have hn := hp.n
  have hi' := inB_iff.1 hi
  have hi1 : inB A.segments x.Segment x.At 1 = true := inB_iff.2 ⟨hi'.1, hi'.2.1, hi'.2.2.1, by omega, by omega⟩
  have hwr := Zhh hw x.Segment x.At
  have hrr := Zm3 hw hi
  rw [(Gm hi'.1 hi'.2.1).1, Option.bind_some, (Zlo hi1).1, Option.bind_some, Zni hwr, Option.bind_some]
  have ht := Ztx (wd A.segments x.Segment x.At)
  have ho := (Zfv (wd A.segments x.Segment x.At)).o
  have hdz := Zxk hwr.1
  generalize dc (wd A.segments x.Segment x.At) = t at *
  have hm := Zwm (n := t.Off) (x := t.Data + t.Ptrs) ho (by omega)
  rw [Yq (x := t.Data + t.Ptrs) (by omega) (by omega), Yq (x := t.Off * (t.Data + t.Ptrs)) (by omega) (by omega), Yq (x := x.At + 1) (by omega) (by omega)]
  by_cases hq : (t.Kind ≠ 0 ∧ t.Kind ≠ 1) ∨ t.Off < 0 ∨ x.P.Count < t.Off * (t.Data + t.Ptrs)
  ·rw [if_pos hq]
   have : cond (cond (cond (wd A.segments x.Segment x.At != 0) (t.Kind != 1) false) true (decide (t.Off < 0))) true (decide (x.P.Count < t.Off * (t.Data + t.Ptrs))) = true := by
    rcases hq with ⟨q1, q2⟩ | q | q
    ·rw [bne_iff_ne.2 (fun z => q1 (hdz.2 z)), bne_iff_ne.2 q2]; rfl
    ·rw [decide_eq_true q]; cases (cond (wd A.segments x.Segment x.At != 0) (t.Kind != 1) false) <;> rfl
    rw [decide_eq_true q]; cases (cond (cond (wd A.segments x.Segment x.At != 0) (t.Kind != 1) false) true (decide (t.Off < 0))) <;> rfl
   rw [this, cond_true]; rfl
  rw [if_neg hq]
  have e1 : cond (wd A.segments x.Segment x.At != 0) (t.Kind != 1) false = false := by
   by_cases q0 : wd A.segments x.Segment x.At = 0
   ·rw [show (wd A.segments x.Segment x.At != 0) = false from bne_eq_false_iff_eq.2 q0]; rfl
   have q1 : t.Kind = 1 := by
    have : t.Kind ≠ 0 := fun z => q0 (hdz.1 z)
    omega
   rw [show (t.Kind != 1) = false from by rw [q1]; rfl]
   cases (wd A.segments x.Segment x.At != 0) <;> rfl
  rw [e1, cond_false, show decide (t.Off < 0) = false from by rw [decide_eq_false_iff_not]; omega, cond_false, show decide (x.P.Count < t.Off * (t.Data + t.Ptrs)) = false from by rw [decide_eq_false_iff_not]; omega]
  rfl
 rw [if_neg c7', show decide (x.P.Code < 7) = true from by rw [decide_eq_true_eq]; omega, cond_true, Yq (x := 2 + x.P.Code) (by omega) (by omega)]
 unfold Zoe Jr
 simp only
 rw [if_neg (by omega), if_neg (by omega), if_neg (by omega), if_neg (by omega), show 2 + x.P.Code = x.P.Code + 2 by omega]
theorem Zhs {r : Zd} (h : OKr A r) : Y5 (Jr A r) = some (Z6 r) := by
 unfold Y5
 rw [Zbo]
 unfold Z6 Jr
 by_cases h1 : r.kind = 1
 ·rw [if_pos h1, show (r.kind == 1) = true from by rw [h1]; rfl, cond_true, if_neg (by omega), if_pos h1]
 rw [if_neg h1, show (r.kind == 1) = false from Jn h1, cond_false]
 by_cases h0 : r.kind = 0
 ·rw [if_pos h0]
  cases h with
  | z => rfl
  | st => simp at h0
  | li k s a n hk => simp only at h0; omega
  | co => simp at h0
  | at_ => simp at h0
 rw [if_neg h0, if_neg h1]
 by_cases h9 : r.kind = 9
 ·rw [if_pos h9]
 rw [if_neg h9]
 by_cases h10 : r.kind = 10
 ·rw [if_pos h10]
  cases h with
  | z => rfl
  | st => rfl
  | li k s a n hk => simp only at h10; omega
  | co => simp at h10
  | at_ => rfl
 rw [if_neg h10]
theorem Zid (hw : WS A.segments) {r : Zd} (h : OKr A r) : Y0 (Jr A r) A.segments = some (Qu A r) := by
 unfold Y0
 rw [Zbo]
 unfold Qu Jr
 cases h with
 | z => rfl
 | li k s a n hk hn hin =>
  simp only
  rw [show (k == 10) = false from Jn (by omega), cond_false, show (k != 1) = true from bne_iff_ne.2 (by omega), cond_true, if_neg (by omega), if_neg (by omega)]
 | co s a d p n hd hp hn hwx hin => rfl
 | at_ s a c i n hc h0 h1 hn hin => rfl
 | st s a d p hd hp hin =>
  have hi' := inB_iff.1 hin
  have hl := Ze3 hw s
  simp only [show ((1 : Int) == 10) = false from rfl, show ((1 : Int) != 1) = false from rfl, cond_false, show ¬ (1 : Int) = 0 from by decide, show ¬ (1 : Int) = 10 from by decide, if_false, if_true]
  rw [(Gm hi'.1 hi'.2.1).1, Option.bind_some, Yq (x := a + d) (by omega) (by omega), Zql (by omega) (by omega) (by omega), Option.bind_some, show a + d - a = d by omega, Zl8 (by simp only [List.length_nil, List.length_take, List.length_drop]; omega) (by simp only [List.length_nil, List.length_take, List.length_drop]; omega), List.nil_append]
  rfl
theorem Zwy (hw : WS A.segments) (s : Int) : ∀ w ∈ seg A.segments s, 0 ≤ w ∧ w < 18446744073709551616 := by
 unfold seg
 cases h : A.segments[s.toNat]? with
 | none => simp
 | some x => exact hw.w x (List.mem_of_getElem? h)
theorem Zrr (hw : WS A.segments) {r : Zd} (h : OKr A r) (i : Int) : Xy (Jr A r) A.segments i = some (Zoe A (Ye A r i)) := by
 unfold Xy Ye
 rw [Zhs h, Zbo]
 have hz : (cond (decide (i < 0)) (some true) ((some (Z6 r)).bind fun y4 => some (cond (decide (i < 0)) true (decide (y4 ≤ i))))) = some (decide (i < 0 ∨ Z6 r ≤ i)) := by
  by_cases h0 : i < 0
  ·rw [decide_eq_true h0, cond_true, show decide (i < 0 ∨ Z6 r ≤ i) = true from decide_eq_true (.inl h0)]
  rw [decide_eq_false h0, cond_false, Option.bind_some, cond_false]
  congr 1
  rw [decide_eq_decide]
  omega
 rw [hz, Option.bind_some]
 by_cases hi : i < 0 ∨ Z6 r ≤ i
 ·rw [if_pos hi, decide_eq_true hi]; rfl
 rw [if_neg hi, decide_eq_false hi, cond_false]
 cases h with
 | z => exact absurd hi (by first | (simp [Z6, r0]; done) | (simp [Z6, r0]; omega))
 | at_ => exact absurd hi (by first | (simp [Z6]; done) | (simp [Z6]; omega))
 | st s a d p hd hp hin =>
  have := Zm3 hw hin
  simp only [Z6, if_true] at hi
  have e : Jr A (⟨some A, 1, s, a, d, p, 0, 0, 0⟩ : Zd) = ⟨1, s, a, d, p, 0, 0⟩ := rfl
  simp only [e, beq_self_eq_true, cond_true, if_true]
  rw [Yq (x := a + d) (by omega) (by omega), Yq (by omega) (by omega), Ztq hw]
  rfl
 | co s a d p n hd hp hn hwx hin =>
  have := Zm3 hw hin
  simp only [Z6] at hi
  rw [if_neg (by omega)] at hi
  have e : Jr A (⟨some A, 9, s, a, d, p, n, 0, 0⟩ : Zd) = ⟨9, s, a + 1, d, p, n, 0⟩ := rfl
  simp only [e, show ((9 : Int) == 1) = false from rfl, show ((9 : Int) == 8) = false from rfl, show ((9 : Int) == 9) = true from rfl, cond_true, cond_false, show ¬ (9 : Int) = 1 from by decide, show ¬ (9 : Int) = 8 from by decide, if_false, if_true]
  have h1 : 0 ≤ i * (d + p) := Int.mul_nonneg (by omega) (by omega)
  have h2 : (i + 1) * (d + p) ≤ n * (d + p) := Int.mul_le_mul_of_nonneg_right (by omega) (by omega)
  rw [Int.add_mul, Int.one_mul] at h2
  rw [Yq (x := d + p) (by omega) (by omega), Yq (x := i * (d + p)) (by omega) (by omega), Yq (by omega) (by omega)]
  rfl
 | li k s a n hk hn hin =>
  have hr := Zm3 hw hin
  have hi' := inB_iff.1 hin
  simp only [Z6] at hi
  rw [if_neg (by omega)] at hi
  have e : Jr A (⟨some A, k, s, a, 0, 0, n, 0, 0⟩ : Zd) = ⟨k, s, a, 0, 0, n, 0⟩ := by
   unfold Jr
   simp only
   rw [if_neg (by omega), if_neg (by omega), if_neg (by omega), if_neg (by omega)]
  simp only [e]
  rw [show (k == 1) = false from Jn (by omega), cond_false, if_neg (by omega), show (k == 9) = false from Jn (by omega)]
  by_cases k8 : k = 8
  ·have hp : (n * wdt (k - 2) + 63) / 64 = n := by rw [k8]; simp [wdt]; omega
   rw [show (k == 8) = true from by rw [k8]; rfl, cond_true, if_pos k8, Yq (by omega) (by omega), Ztq hw]
   rfl
  rw [show (k == 8) = false from Jn k8, cond_false, cond_false, if_neg k8, if_neg (by omega), Yq (by omega) (by omega), (Gm hi'.1 hi'.2.1).1, Option.bind_some, Zql (by omega) (by omega) (by omega), Option.bind_some]
  have hlen : ((seg A.segments s).drop a.toNat).length = (seg A.segments s).length - a.toNat := List.length_drop
  have htk : ((seg A.segments s).drop a.toNat).take (((seg A.segments s).length : Int) - a).toNat = (seg A.segments s).drop a.toNat := List.take_of_length_le (by rw [hlen]; omega)
  rw [htk, Zxz (fun w hm => Zwy hw s w (List.mem_of_mem_drop hm)) (c := k - 2) (n := n) (by omega) (by omega) (by omega) (by omega) (by rw [hlen]; omega), Option.bind_some]
  unfold Zoe Jr Ztk
  simp only [show ¬ (10 : Int) = 0 from by decide, show ¬ (10 : Int) = 1 from by decide, show ¬ (10 : Int) = 9 from by decide, if_false, if_true]
  congr 3
  by_cases hz : k - 2 = 0
  ·rw [if_pos hz, if_pos hz]
  rw [if_neg hz, if_neg hz]
  obtain ⟨a1, a2, a3, a4, a5, a6, a7, a8⟩ := Zxm (c := k - 2) (i := i) (n := n) (by omega) (by omega) (by omega) (by omega)
  unfold wd
  rw [List.getElem?_drop, show (a + i / each (k - 2)).toNat = a.toNat + (i / each (k - 2)).toNat by omega]
end
theorem Zza (t : Tr) : (⟨t.Kind, t.Words, t.Kids⟩ : Tr) = t := by cases t; rfl
section
variable {A : Zj}
theorem Zli {step : Int × Int × List Tr → Option ((Int × Int × List Tr) ⊕ ((Int × Int × List Tr) ⊕ (Int × List Tr)))} {f : Zd → Int → Tr × Int × Int} {r : Zd} (hr : OKr A r) (n : Nat) (hn : n ≤ 1073741824)
  (hs : ∀ (i : Nat) (left : Int) (acc : List Tr), i < n → acc.length = i → 0 ≤ left ∧ left ≤ 65536 → step (left, (i : Int), acc) = some (if (Ye A r i).2 ≠ 0 then .inr (.inl (left, (Ye A r i).2, acc)) else if (f (Ye A r i).1 left).2.2 ≠ 0 then .inr (.inl ((f (Ye A r i).1 left).2.1, (f (Ye A r i).1 left).2.2, acc)) else .inl ((f (Ye A r i).1 left).2.1, ((i + 1 : Nat) : Int), acc ++ [(f (Ye A r i).1 left).1])))
  (he : ∀ left acc, step (left, (n : Int), acc) = some (.inr (.inr (left, acc))))
  (hf : Lf A f) : ∀ (m i : Nat) (left : Int) (acc : List Tr), i + m = n → acc.length = i → 0 ≤ left ∧ left ≤ 65536 →
  Yj step (left, (i : Int), acc) = some (if (Yd f (Ye A r) m i left acc).2.2 = 0 then .inr ((Yd f (Ye A r) m i left acc).2.1, (Yd f (Ye A r) m i left acc).1) else .inl ((Yd f (Ye A r) m i left acc).2.1, (Yd f (Ye A r) m i left acc).2.2, (Yd f (Ye A r) m i left acc).1))
 | 0, i, left, acc, hi, ha, hl => by
  have : i = n := by omega
  subst this
  exact Y4 (he left acc)
 | m + 1, i, left, acc, hi, ha, hl => by
  have hst := hs i left acc (by omega) ha hl
  rw [Yd]
  by_cases h1 : (Ye A r i).2 ≠ 0
  ·rw [if_pos h1] at hst ⊢
   rw [if_neg h1]
   exact Y4 hst
  rw [if_neg h1] at hst ⊢
  by_cases h2 : (f (Ye A r i).1 left).2.2 ≠ 0
  ·rw [if_pos h2] at hst ⊢
   rw [if_neg h2]
   exact Y4 hst
  rw [if_neg h2] at hst ⊢
  have hb := hf _ left (Kk hr i) hl.1 (by omega)
  rw [Qx hst]
  exact Zli hr n hn hs he hf m (i + 1) _ _ (by omega) (by rw [List.length_append, ha]; rfl) ⟨hb.1, by omega⟩
abbrev MF := List (List Int) → Zm → Int → Int → Option (Tr × Int × Int)
theorem Ztp (hw : WS A.segments) {f1 f2 : MF} {f : Zd → Int → Tr × Int × Int} (hf : Lf A f) {r : Zd} (hr : OKr A r) (h1 : r.kind = 1) {d left : Int} (hl : 0 ≤ left ∧ left ≤ 65536)
  (hF : ∀ (k : Zd) (l : Int), OKr A k → 0 ≤ l ∧ l ≤ 65536 → f1 A.segments (Jr A k) d l = some (f k l)) : Q4 f1 f2 A.segments (Jr A r) d left = some (stK A f r left) := by
 have hp : (Jr A r).Ptrs = r.ptrs := by unfold Jr; rw [if_neg (by omega), if_pos h1]
 have hpr : 0 ≤ r.ptrs ∧ r.ptrs < 65536 := by
  cases hr with
  | z => simp [r0] at h1
  | st s a d p hd hp2 hin => exact hp2
  | li k s a n hk => simp only at h1; omega
  | co => simp at h1
  | at_ => simp at h1
 unfold Q4 stK
 rw [Zid hw hr, Option.bind_some]
 have hL := Zli (step := Qz f1 A.segments (Jr A r) d) (f := f) hr r.ptrs.toNat (by omega) (fun i l acc hi ha hl => by
  unfold Qz
  simp only
  rw [hp, show decide ((i : Int) < r.ptrs) = true from by rw [decide_eq_true_eq]; omega, cond_true, Zrr hw hr, Option.bind_some]
  simp only [Zoe]
  by_cases h1 : (Ye A r i).2 ≠ 0
  ·rw [if_pos h1, bne_iff_ne.2 h1, cond_true]
  rw [if_neg h1, bne_eq_false_iff_eq.2 (show (Ye A r i).2 = 0 by omega), cond_false, hF _ l (Kk hr i) hl, Option.bind_some]
  by_cases h2 : (f (Ye A r i).1 l).2.2 ≠ 0
  ·rw [if_pos h2, bne_iff_ne.2 h2, cond_true]
  rw [if_neg h2, bne_eq_false_iff_eq.2 (show (f (Ye A r i).1 l).2.2 = 0 by omega), cond_false, Zl8 (by simp only [List.length_singleton]; omega) (by simp only [List.length_singleton]; omega), Option.bind_some, Yq (by omega) (by omega)]
  rfl) (fun l acc => by
  unfold Qz
  simp only
  rw [hp, show decide (((r.ptrs.toNat : Nat) : Int) < r.ptrs) = false from by rw [decide_eq_false_iff_not]; omega, cond_false]) hf r.ptrs.toNat 0 left [] (by omega) rfl hl
 rw [show (((0 : Nat) : Int)) = 0 from rfl] at hL
 rw [hL, Option.bind_some]
 by_cases hq : (Yd f (Ye A r) r.ptrs.toNat 0 left []).2.2 = 0
 ·rw [if_pos hq]
  simp only
  rw [show (Yd f (Ye A r) r.ptrs.toNat 0 left []).2 = ((Yd f (Ye A r) r.ptrs.toNat 0 left []).2.1, 0) from by rw [← hq]]
 rw [if_neg hq]
theorem Zty {r : Zd} (hr : OKr A r) : (r.kind = 1 → (Jr A r).Data = r.words ∧ (Jr A r).Ptrs = r.ptrs) ∧ (r.kind = 9 → (Jr A r).Data = r.words ∧ (Jr A r).Ptrs = r.ptrs ∧ (Jr A r).Count = r.count) := by
 refine ⟨fun h => ?_, fun h => ?_⟩
 ·unfold Jr
  rw [if_neg (by omega), if_pos h]
  exact ⟨rfl, rfl⟩
 unfold Jr
 rw [if_neg (by omega), if_neg (by omega), if_pos h]
 exact ⟨rfl, rfl, rfl⟩
theorem Zws (hw : WS A.segments) {f1 f2 : MF} {g1 g2 : Zd → Int → Tr × Int × Int} (l1 : Lf A g1) (l2 : Lf A g2) {r : Zd} (hr : OKr A r) {d left : Int} (hd : 0 ≤ d ∧ d ≤ 1000) (hl : 0 ≤ left ∧ left ≤ 65536)
  (h1 : 1 ≤ d → ∀ (k : Zd) (l : Int), OKr A k → 0 ≤ l ∧ l ≤ 65536 → f1 A.segments (Jr A k) (d - 1) l = some (g1 k l))
  (h2 : 2 ≤ d → ∀ (k : Zd) (l : Int), OKr A k → k.kind = 1 → 0 ≤ l ∧ l ≤ 65536 → f2 A.segments (Jr A k) (d - 2) l = some (stK A g2 k l)) : Xr f1 f2 A.segments (Jr A r) d left = some (Zdy A g1 g2 d r left) := by
 have hwt := Zup hw hr
 have hkn := Zf1 hr
 obtain ⟨fr1, fr9⟩ := Zty hr
 unfold Xr Zdy
 rw [Zid hw hr, Option.bind_some, Zbo, Zhs hr]
 by_cases k0 : r.kind = 0
 ·rw [if_pos k0, show (r.kind == 0) = true from by rw [k0]; rfl, cond_true]
 rw [if_neg k0, show (r.kind == 0) = false from Jn k0, cond_false]
 have hlv : (cond (decide (d < 1)) true (cond (cond (r.kind == 9) (decide (0 < (Jr A r).Count)) false) (decide (d < 2)) false)) = decide (d < lvR r) := by
  unfold lvR
  rw [if_neg k0]
  by_cases k9 : r.kind = 9
  ·rw [show (r.kind == 9) = true from by rw [k9]; rfl, (fr9 k9).2.2, cond_true]
   by_cases hc : 0 < r.count
   ·rw [if_pos ⟨k9, hc⟩, decide_eq_true hc, cond_true]
    by_cases hd1 : d < 1
    ·rw [decide_eq_true hd1, cond_true, decide_eq_true (show d < 2 by omega)]
    rw [decide_eq_false hd1, cond_false]
   rw [if_neg (fun q => hc q.2), decide_eq_false hc, cond_false]
   cases decide (d < 1) <;> rfl
  rw [show (r.kind == 9) = false from Jn k9, cond_false, cond_false, if_neg (fun q => k9 q.1)]
  cases decide (d < 1) <;> rfl
 rw [hlv]
 have hwx : ((cond (r.kind == 1) (some (IntKind.i64.wrap ((IntKind.i64.wrap (1 + (Jr A r).Data)) + (Jr A r).Ptrs))) (some (IntKind.i64.wrap (1 + Z6 r)))).bind fun (z5 : Int) => (cond (r.kind == 9) (some (IntKind.i64.wrap (1 + (IntKind.i64.wrap ((Jr A r).Count * (IntKind.i64.wrap ((IntKind.i64.wrap (1 + (Jr A r).Data)) + (Jr A r).Ptrs))))))) (some z5))) = some (Gq r) := by
  unfold Gq
  rw [if_neg k0]
  by_cases k1 : r.kind = 1
  ·rw [if_pos k1, show (r.kind == 1) = true from by rw [k1]; rfl, cond_true, Option.bind_some, show (r.kind == 9) = false from Jn (by omega), cond_false, (fr1 k1).1, (fr1 k1).2]
   cases hr with
   | z => simp [r0] at k1
   | st s a d p hd hp hin => simp only; rw [Yq (x := 1 + d) (by omega) (by omega), Yq (by omega) (by omega)]
   | li k s a n hk => simp only at k1; omega
   | co => simp at k1
   | at_ => simp at k1
  rw [if_neg k1, show (r.kind == 1) = false from Jn k1, cond_false, Option.bind_some]
  by_cases k9 : r.kind = 9
  ·rw [if_pos k9, show (r.kind == 9) = true from by rw [k9]; rfl, cond_true, (fr9 k9).1, (fr9 k9).2.1, (fr9 k9).2.2]
   cases hr with
   | z => simp [r0] at k9
   | st => simp at k9
   | li k s a n hk => simp only at k9; omega
   | at_ => simp at k9
   | co s a d p n hd hp hn hwx hin =>
    have : n * (1 + d + p) = n + n * (d + p) := by rw [Int.add_assoc, Int.mul_add, Int.mul_one]
    simp only
    rw [Yq (x := 1 + d) (by omega) (by omega), Yq (x := 1 + d + p) (by omega) (by omega), Yq (x := n * (1 + d + p)) (by omega) (by omega), Yq (by omega) (by omega)]
  have hkc : Z6 r = r.count := by unfold Z6; rw [if_neg k1]
  rw [if_neg k9, show (r.kind == 9) = false from Jn k9, cond_false, Yq (by omega) (by omega), hkc]
 by_cases hb1 : d < lvR r
 ·rw [decide_eq_true hb1, cond_true, if_pos (.inl hb1)]
 rw [decide_eq_false hb1, cond_false, Option.bind_some]
 have hstep2 : ∀ {K : Int → Option (Tr × Int × Int)}, ((cond (r.kind == 1) (some (IntKind.i64.wrap ((IntKind.i64.wrap (1 + (Jr A r).Data)) + (Jr A r).Ptrs))) (some (IntKind.i64.wrap (1 + Z6 r)))).bind fun (z5 : Int) => (cond (r.kind == 9) (some (IntKind.i64.wrap (1 + (IntKind.i64.wrap ((Jr A r).Count * (IntKind.i64.wrap ((IntKind.i64.wrap (1 + (Jr A r).Data)) + (Jr A r).Ptrs))))))) (some z5)).bind K) = K (Gq r) := fun {K} => by
  rw [← Option.bind_assoc, hwx, Option.bind_some]
 rw [hstep2]
 by_cases hb2 : left < Gq r
 ·rw [decide_eq_true hb2, cond_true, if_pos (.inr hb2)]
 rw [decide_eq_false hb2, cond_false, if_neg (by omega), Yq (x := left - Gq r) (by omega) (by omega)]
 have hlvd : 1 ≤ d := by
  have : 1 ≤ lvR r := by unfold lvR; rw [if_neg k0]; split <;> omega
  omega
 have hN : Z6 r = (((Z6 r).toNat : Nat) : Int) := by omega
 -- one kid
 have hkf : ∀ (i : Nat) (l : Int), i < (Z6 r).toNat → (Ye A r i).2 = 0 → 0 ≤ l ∧ l ≤ 65536 → (cond (r.kind == 9) ((f2 A.segments (Jr A (Ye A r i).1) (IntKind.i64.wrap (d - 2)) l).bind fun y16 => some (y16.2.1, y16.2.2, y16.1.Kind, y16.1.Words, y16.1.Kids)) (cond (cond (r.kind == 1) true (r.kind == 8)) ((f1 A.segments (Jr A (Ye A r i).1) (IntKind.i64.wrap (d - 1)) l).bind fun y17 => some (y17.2.1, y17.2.2, y17.1.Kind, y17.1.Words, y17.1.Kids)) (some (l, (Ye A r i).2, (Ye A r i).1.kind, Qu A (Ye A r i).1, ([] : List Tr))))) = some ((Kj A g1 g2 r (Ye A r i).1 l).2.1, (Kj A g1 g2 r (Ye A r i).1 l).2.2, (Kj A g1 g2 r (Ye A r i).1 l).1.Kind, (Kj A g1 g2 r (Ye A r i).1 l).1.Words, (Kj A g1 g2 r (Ye A r i).1 l).1.Kids) := fun i l hi he hl => by
  rw [Yq (x := d - 2) (by omega) (by omega), Yq (x := d - 1) (by omega) (by omega)]
  unfold Kj
  by_cases k9 : r.kind = 9
  ·have hkc : Z6 r = r.count := by unfold Z6; rw [if_neg (by omega)]
   have hd2 : 2 ≤ d := by
    have : lvR r = 2 := by unfold lvR; rw [if_neg k0, if_pos ⟨k9, by omega⟩]
    omega
   rw [if_pos k9, show (r.kind == 9) = true from by rw [k9]; rfl, cond_true, h2 hd2 _ l (Kk hr i) (Zlx k9 ⟨by omega, by omega⟩) hl, Option.bind_some]
  rw [if_neg k9, show (r.kind == 9) = false from Jn k9, cond_false]
  by_cases k18 : r.kind = 1 ∨ r.kind = 8
  ·have e1 : cond (r.kind == 1) true (r.kind == 8) = true := by rcases k18 with k | k <;> rw [k] <;> rfl
   rw [if_pos k18, e1, cond_true, h1 hlvd _ l (Kk hr i) hl, Option.bind_some]
  rw [if_neg k18, show (r.kind == 1) = false from Jn (by omega), show (r.kind == 8) = false from Jn (by omega), cond_false, cond_false, he]
  rfl
 have hL := Zli (step := Xs f1 f2 A.segments (Jr A r) d) (f := Kj A g1 g2 r) hr (Z6 r).toNat (by omega) (fun i l acc hi ha hl => by
  unfold Xs
  simp only
  rw [Zhs hr, Option.bind_some, show decide ((i : Int) < Z6 r) = true from by rw [decide_eq_true_eq]; omega, cond_true, Zrr hw hr, Option.bind_some]
  simp only [Zoe]
  by_cases q1 : (Ye A r i).2 ≠ 0
  ·rw [if_pos q1, bne_iff_ne.2 q1, cond_true]
  rw [if_neg q1, bne_eq_false_iff_eq.2 (show (Ye A r i).2 = 0 by omega), cond_false, Zid hw (Kk hr i), Option.bind_some, Zbo, Zbo, hkf i l hi (by omega) hl, Option.bind_some]
  simp only [Zza]
  by_cases q2 : (Kj A g1 g2 r (Ye A r i).1 l).2.2 ≠ 0
  ·rw [if_pos q2, bne_iff_ne.2 q2, cond_true]
  rw [if_neg q2, bne_eq_false_iff_eq.2 (show (Kj A g1 g2 r (Ye A r i).1 l).2.2 = 0 by omega), cond_false, Zl8 (by simp only [List.length_singleton]; omega) (by simp only [List.length_singleton]; omega), Option.bind_some, Yq (by omega) (by omega)]
  rfl) (fun l acc => by
  unfold Xs
  simp only
  rw [Zhs hr, Option.bind_some, show decide ((((Z6 r).toNat : Nat) : Int) < Z6 r) = false from by rw [decide_eq_false_iff_not]; omega, cond_false]) (Zub l1 l2 r) (Z6 r).toNat 0 (left - Gq r) [] (by omega) rfl (by omega)
 rw [show (((0 : Nat) : Int)) = 0 from rfl] at hL
 rw [hL, Option.bind_some]
 simp only
 by_cases hq : (Yd (Kj A g1 g2 r) (Ye A r) (Z6 r).toNat 0 (left - Gq r) []).2.2 = 0
 ·rw [if_pos hq]
  simp only
  rw [show (Yd (Kj A g1 g2 r) (Ye A r) (Z6 r).toNat 0 (left - Gq r) []).2 = ((Yd (Kj A g1 g2 r) (Ye A r) (Z6 r).toNat 0 (left - Gq r) []).2.1, 0) from by rw [← hq]]
 rw [if_neg hq]
theorem Zre (hw : WS A.segments) (k d : Nat) : Lf A (Yl A k d) := by
 unfold Yl
 split
 ·exact Zho hw _
 exact Zqa
theorem Zrs (hw : WS A.segments) : ∀ (K : Nat), (∀ (d : Nat) r left, d ≤ 1000 → OKr A r → 0 ≤ left ∧ left ≤ 65536 → 2 * d + 1 ≤ K → (Yf K).1 A.segments (Jr A r) d left = some (Gh A d r left)) ∧
  (∀ (d : Nat) r left, d ≤ 1000 → OKr A r → r.kind = 1 → 0 ≤ left ∧ left ≤ 65536 → 2 * d + 2 ≤ K → (Yf K).2 A.segments (Jr A r) d left = some (stK A (Gh A d) r left))
 | 0 => ⟨fun d r left _ _ _ h => by omega, fun d r left _ _ _ _ h => by omega⟩
 | K + 1 => by
  obtain ⟨i1, i2⟩ := Zrs hw K
  refine ⟨fun d r left hd hr hl hK => ?_, fun d r left hd hr h1 hl hK => ?_⟩
  ·show Xr (Yf K).1 (Yf K).2 A.segments (Jr A r) d left = _
   rw [Zjh]
   refine Zws hw (Zre hw 1 d) (Zre hw 2 d) hr (by omega) hl (fun hd1 k l hk hl => ?_) (fun hd2 k l hk k1 hl => ?_)
   ·have := i1 (d - 1) k l (by omega) hk hl (by omega)
    rw [show (((d - 1 : Nat) : Int)) = (d : Int) - 1 by omega] at this
    unfold Yl
    rw [if_pos (by omega)]
    exact this
   have := i2 (d - 2) k l (by omega) hk k1 hl (by omega)
   rw [show (((d - 2 : Nat) : Int)) = (d : Int) - 2 by omega] at this
   unfold Yl
   rw [if_pos (by omega)]
   exact this
  show Q4 (Yf K).1 (Yf K).2 A.segments (Jr A r) d left = _
  exact Ztp hw (Zho hw d) hr h1 hl fun k l hk hl => i1 d k l hd hk hl (by omega)
theorem Zww (hw : WS A.segments) {d : Nat} (hd : d ≤ 1000) {r : Zd} (hr : OKr A r) {left : Int} (hl : 0 ≤ left ∧ left ≤ 65536) : Vw A.segments (Jr A r) d left = some (Gh A d r left) :=
 Zm5 (2 * d + 1) fun k hk => (Zrs hw k).1 d r left hd hr hl hk
def Zk7 (A : Zj) (x : Zy) : Tr × Int × Int :=
 if (atR A 0 0).2 ≠ 0 then (⟨0, [], []⟩, 0, (atR A 0 0).2)
 else
  let q := Gh A (Q3 x).Depth.toNat (atR A 0 0).1 (Q3 x).Weight
  if q.2.2 ≠ 0 then (⟨0, [], []⟩, 0, q.2.2) else (q.1, (Q3 x).Weight - q.2.1, 0)
theorem Zvo (hw : WS A.segments) (x : Zy) : Jf A.segments x = some (Zk7 A x) := by
 unfold Jf Zk7
 rw [Ztu, Option.bind_some, Ztq hw, Option.bind_some]
 simp only [Zoe]
 have hd : 0 ≤ (Q3 x).Depth ∧ (Q3 x).Depth ≤ 64 := Zdp _ _ (by decide)
 have hW : 0 ≤ (Q3 x).Weight ∧ (Q3 x).Weight ≤ 65536 := Zdp _ _ (by decide)
 by_cases h : (atR A 0 0).2 ≠ 0
 ·rw [if_pos h, show ((atR A 0 0).2 != 0) = true from bne_iff_ne.2 h, cond_true]
 rw [if_neg h, show ((atR A 0 0).2 != 0) = false from bne_eq_false_iff_eq.2 (by omega), cond_false]
 have hm := Zww hw (d := (Q3 x).Depth.toNat) (by omega) (Zft (A := A) 0 0) hW
 rw [show (((Q3 x).Depth.toNat : Nat) : Int) = (Q3 x).Depth by omega] at hm
 rw [hm, Option.bind_some]
 by_cases hq : (Gh A (Q3 x).Depth.toNat (atR A 0 0).1 (Q3 x).Weight).2.2 ≠ 0
 ·rw [if_pos hq, show ((Gh A (Q3 x).Depth.toNat (atR A 0 0).1 (Q3 x).Weight).2.2 != 0) = true from bne_iff_ne.2 hq, cond_true]
 have h0 : (Gh A (Q3 x).Depth.toNat (atR A 0 0).1 (Q3 x).Weight).2.2 = 0 := by omega
 have hb := Zho hw _ _ _ (Zft (A := A) 0 0) hW.1 h0
 rw [if_neg hq, show ((Gh A (Q3 x).Depth.toNat (atR A 0 0).1 (Q3 x).Weight).2.2 != 0) = false from bne_eq_false_iff_eq.2 h0, cond_false, Yq (by omega) (by omega)]
theorem Zx3 (x : Zy) : (Zk7 A x).2 = Zfu A x := by
 unfold Zk7 Zfu
 by_cases h : (atR A 0 0).2 ≠ 0
 ·rw [if_pos h, if_pos h]
 rw [if_neg h, if_neg h]
 simp only
 by_cases hq : (Gh A (Q3 x).Depth.toNat (atR A 0 0).1 (Q3 x).Weight).2.2 ≠ 0
 ·rw [if_pos hq, if_pos hq]
 rw [if_neg hq, if_neg hq]
end
end Go.Proofs.Ytmlhokaflhlhbaa
