/- Plain facts on this seat's mirrors (part VP4); each theorem bears its own conditions. -/
import Derived.Test.YtmlhokaflhlhbaaVP1
import Derived.IntWalk
namespace Go.Proofs.Ytmlhokaflhlhbaa
open Go.RowKit
set_option linter.unusedVariables false
set_option linter.unusedSimpArgs false
abbrev Tr := Yt
def lvR (r : Zd) : Int := if r.kind = 0 then 0 else if r.kind = 9 ∧ 0 < r.count then 2 else 1
def wtR (r : Zd) : Int := if r.kind = 0 then 0 else if r.kind = 1 then 1 + r.words + r.ptrs else if r.kind = 9 then 1 + r.count * (1 + r.words + r.ptrs) else 1 + r.count
theorem Zqk (r : Zd) : J0 r = some (lvR r) := by
 have hk : Yj r = some r.kind := rfl
 unfold J0 lvR
 rw [hk, Zdm, Option.bind_some]
 by_cases h0 : r.kind = 0
 ·rw [show (r.kind == 0) = true from by rw [h0]; rfl, if_pos h0]; rfl
 rw [show (r.kind == 0) = false from Gf h0, if_neg h0, cond_false, Option.bind_some]
 by_cases h9 : r.kind = 9
 ·have hkn : Zz r = r.count := by unfold Zz; rw [if_neg (by omega)]
  rw [show (r.kind == 9) = true from by rw [h9]; rfl, cond_true, Option.bind_some, Option.bind_some, cond_true, hkn]
  by_cases hc : 0 < r.count
  ·rw [if_pos ⟨h9, hc⟩, decide_eq_true hc]; rfl
  rw [if_neg (fun q => hc q.2), decide_eq_false hc]; rfl
 rw [show (r.kind == 9) = false from Gf h9, if_neg (fun q => h9 q.1)]; rfl
section
variable {A : Zg}
theorem Zsz (hw : WS A.segments) {r : Zd} (h : OKr A r) : 0 ≤ wtR r ∧ wtR r ≤ 4503599627370496 ∧ (r.kind ≠ 0 → 1 ≤ wtR r) := by
 cases h with
 | z => simp [wtR, r0]
 | st s a d p hd hp hin => simp [wtR]; omega
 | li k s a n hk hn hin => simp only [wtR]; rw [if_neg (by omega), if_neg (by omega), if_neg (by omega)]; omega
 | co s a d p n hd hp hn hwx hin =>
  simp only [wtR, show ¬ (9 : Int) = 0 from by decide, show ¬ (9 : Int) = 1 from by decide, if_false, if_true]
  have : n * (1 + d + p) = n + n * (d + p) := by rw [Int.add_assoc, Int.mul_add, Int.mul_one]
  omega
 | at_ s a c i n hc h0 h1 hn hin => simp [wtR]
theorem Zqs (hw : WS A.segments) {r : Zd} (h : OKr A r) : Q7 r = some (wtR r) := by
 have hk : Yj r = some r.kind := rfl
 unfold Q7 wtR
 rw [hk, Zqo, Zdm, Option.bind_some]
 cases h with
 | z => rfl
 | st s a d p hd hp hin =>
  simp only [Zpl, Zz, if_true, show ((1 : Int) == 0) = false from rfl, show ((1 : Int) == 1) = true from rfl, cond_false, cond_true, Option.bind_some, show ¬ (1 : Int) = 0 from by decide, if_false]
  rw [Q3 (x := 1 + d) (by omega) (by omega), Q3 (by omega) (by omega)]
 | li k s a n hk' hn hin =>
  simp only [Zz]
  rw [show (k == 0) = false from Gf (by omega), show (k == 1) = false from Gf (by omega), show (k == 9) = false from Gf (by omega), if_neg (by omega), if_neg (by omega), if_neg (by omega), if_neg (by omega), cond_false, cond_false, cond_false, Option.bind_some, Q3 (by omega) (by omega)]
 | co s a d p n hd hp hn hwx hin =>
  have : n * (1 + d + p) = n + n * (d + p) := by rw [Int.add_assoc, Int.mul_add, Int.mul_one]
  unfold Jm
  simp only [Zz, show ((9 : Int) == 0) = false from rfl, show ((9 : Int) == 1) = false from rfl, show ((9 : Int) == 9) = true from rfl, show ((9 : Int) != 9) = false from rfl, cond_false, cond_true, Option.bind_some, show ¬ (9 : Int) = 0 from by decide, show ¬ (9 : Int) = 1 from by decide, if_false, if_true]
  rw [Q3 (x := 1 + d) (by omega) (by omega), Q3 (x := 1 + d + p) (by omega) (by omega), Q3 (x := n * (1 + d + p)) (by omega) (by omega), Q3 (by omega) (by omega)]
 | at_ s a c i n hc h0 h1 hn hin => rfl
def Zk3 (A : Zg) (r : Zd) : List Int := if r.kind = 10 then [Zur A r] else if r.kind = 1 then ((seg A.segments r.segment).drop r.at_.toNat).take r.words.toNat else []
def Y3 (f : Zd → Int → Tr × Int × Int) (g : Int → Zd × Int) : Nat → Nat → Int → List Tr → List Tr × Int × Int
 | 0, _, left, acc => (acc, left, 0)
 | m + 1, i, left, acc => if (g i).2 ≠ 0 then (acc, left, (g i).2) else if (f (g i).1 left).2.2 ≠ 0 then (acc, (f (g i).1 left).2.1, (f (g i).1 left).2.2) else Y3 f g m (i + 1) (f (g i).1 left).2.1 (acc ++ [(f (g i).1 left).1])
def stK (A : Zg) (f : Zd → Int → Tr × Int × Int) (k : Zd) (left : Int) : Tr × Int × Int :=
 let q := Y3 f (Xx A k) k.ptrs.toNat 0 left []
 (⟨1, Zk3 A k, q.1⟩, q.2)
def Zi3 (A : Zg) (k : Zd) (left : Int) : Tr × Int × Int := (⟨k.kind, Zk3 A k, []⟩, left, 0)
def Zh7 (A : Zg) (f1 f2 : Zd → Int → Tr × Int × Int) (r : Zd) : Zd → Int → Tr × Int × Int :=
 if r.kind = 9 then stK A f2 else if r.kind = 1 ∨ r.kind = 8 then f1 else Zi3 A
def Zbf (A : Zg) (f1 f2 : Zd → Int → Tr × Int × Int) (d : Int) (r : Zd) (left : Int) : Tr × Int × Int :=
 if r.kind = 0 then (⟨r.kind, Zk3 A r, []⟩, left, 0)
 else if d < lvR r ∨ left < wtR r then (⟨r.kind, Zk3 A r, []⟩, left, 3)
 else
  let q := Y3 (Zh7 A f1 f2 r) (Xx A r) (Zz r).toNat 0 (left - wtR r) []
  (⟨r.kind, Zk3 A r, q.1⟩, q.2)
def bad (_ : Zd) (left : Int) : Tr × Int × Int := (⟨0, [], []⟩, left, 3)
def Zaj (A : Zg) : Nat → Zd → Int → Tr × Int × Int
 | 0 => Zbf A bad bad 0
 | 1 => Zbf A (Zaj A 0) bad 1
 | d + 2 => Zbf A (Zaj A (d + 1)) (Zaj A d) ((d + 2 : Nat) : Int)
def Jx (A : Zg) (k : Nat) (d : Nat) : Zd → Int → Tr × Int × Int := if k ≤ d then Zaj A (d - k) else bad
theorem Zir (d : Nat) : Zaj A d = Zbf A (Jx A 1 d) (Jx A 2 d) (d : Int) := by
 match d with
 | 0 => rfl
 | 1 => rfl
 | d + 2 =>
  unfold Jx
  rw [if_pos (by omega), if_pos (by omega)]
  rfl
def Lf (A : Zg) (f : Zd → Int → Tr × Int × Int) : Prop := ∀ k left, OKr A k → 0 ≤ left → (f k left).2.2 = 0 → 0 ≤ (f k left).2.1 ∧ (f k left).2.1 ≤ left
theorem Zma {f : Zd → Int → Tr × Int × Int} {g : Int → Zd × Int} (hf : Lf A f) (hg : ∀ i, OKr A (g i).1) : ∀ (m i : Nat) (left : Int) (acc : List Tr), 0 ≤ left → (Y3 f g m i left acc).2.2 = 0 → 0 ≤ (Y3 f g m i left acc).2.1 ∧ (Y3 f g m i left acc).2.1 ≤ left
 | 0, i, left, acc, h0, _ => ⟨h0, Int.le_refl _⟩
 | m + 1, i, left, acc, h0, h => by
  rw [Y3] at h ⊢
  by_cases h1 : (g i).2 ≠ 0
  ·rw [if_pos h1] at h; exact absurd h h1
  rw [if_neg h1] at h ⊢
  by_cases h2 : (f (g i).1 left).2.2 ≠ 0
  ·rw [if_pos h2] at h; exact absurd h h2
  rw [if_neg h2] at h ⊢
  have h2' : (f (g i).1 left).2.2 = 0 := by omega
  obtain ⟨a1, a2⟩ := hf _ _ (hg i) h0 h2'
  obtain ⟨b1, b2⟩ := Zma hf hg m (i + 1) _ _ a1 h
  exact ⟨b1, by omega⟩
theorem Zpf : Lf A bad := fun k left _ _ h => by simp [bad] at h
theorem Zrf {f : Zd → Int → Tr × Int × Int} (hf : Lf A f) : Lf A (stK A f) := fun k left hk h0 h => Zma hf (fun i => Zf0 hk i) _ _ _ _ h0 h
theorem Zrd : Lf A (Zi3 A) := fun k left _ h0 _ => ⟨h0, Int.le_refl _⟩
theorem Zsi {f1 f2 : Zd → Int → Tr × Int × Int} (h1 : Lf A f1) (h2 : Lf A f2) (r : Zd) : Lf A (Zh7 A f1 f2 r) := by
 unfold Zh7
 split
 ·exact Zrf h2
 split
 ·exact h1
 exact Zrd
theorem Zre (hw : WS A.segments) {f1 f2 : Zd → Int → Tr × Int × Int} (h1 : Lf A f1) (h2 : Lf A f2) (d : Int) : Lf A (Zbf A f1 f2 d) := fun r left hr h0 h => by
 have hwt := Zsz hw hr
 unfold Zbf at h ⊢
 by_cases k0 : r.kind = 0
 ·rw [if_pos k0]; exact ⟨h0, Int.le_refl _⟩
 rw [if_neg k0] at h ⊢
 by_cases hb : d < lvR r ∨ left < wtR r
 ·rw [if_pos hb] at h; simp at h
 rw [if_neg hb] at h ⊢
 have := Zma (Zsi h1 h2 r) (fun i => Zf0 hr i) (Zz r).toNat 0 (left - wtR r) [] (by omega) h
 simp only
 omega
theorem Zmg (hw : WS A.segments) : ∀ d, Lf A (Zaj A d) := fun d => by
 induction d using Nat.strongRecOn with
 | ind d ih =>
  rw [Zir]
  refine Zre hw ?_ ?_ _
  ·unfold Jx
   split
   ·exact ih _ (by omega)
   exact Zpf
  unfold Jx
  split
  ·exact ih _ (by omega)
  exact Zpf
end
theorem Znk {S R : Type} {s1 s2 : S → Option (S ⊕ R)} (h : ∀ s x, s1 s = some x → s2 s = some x) : ∀ (k : Nat) (s : S) (r : R), Kk s1 k s = some r → Kk s2 k s = some r
 | 0, s, r, q => by simp [Kk] at q
 | k + 1, s, r, q => by
  simp only [Kk] at q ⊢
  cases hs : s1 s with
  | none => rw [hs] at q; cases q
  | some x =>
   rw [hs] at q
   rw [h s x hs]
   cases x with
   | inl s' => exact Znk h k s' r q
   | inr r' => exact q
theorem Zj2 {S R : Type} {s1 s2 : S → Option (S ⊕ R)} (h : ∀ s x, s1 s = some x → s2 s = some x) {s : S} {r : R} (q : Qm s1 s = some r) : Qm s2 s = some r := by
 obtain ⟨k, hk⟩ := Zep q
 exact Zce (Znk h k s r hk)
theorem Jv {α β : Type} {o o' : Option α} {f f' : α → Option β} (h : ∀ x, o = some x → o' = some x) (hf : ∀ x y, f x = some y → f' x = some y) {r : β} (q : o.bind f = some r) : o'.bind f' = some r := by
 obtain ⟨x, h1, h2⟩ := Option.bind_eq_some_iff.1 q
 rw [h x h1]
 exact hf x r h2
theorem Zb3 {α : Type} (c : Bool) {a a' b b' : Option α} (h1 : ∀ r, a = some r → a' = some r) (h2 : ∀ r, b = some r → b' = some r) (r : α) (q : cond c a b = some r) : cond c a' b' = some r := by
 cases c with
 | true => exact h1 r q
 | false => exact h2 r q
theorem Zrh {R : Type} {F : Nat → Option R} {r : R} (hm : ∀ k r, F k = some r → F (k + 1) = some r) {K : Nat} (h : F K = some r) : lim F = some r := by
 refine Ztg K fun k hk => ?_
 obtain ⟨d, rfl⟩ : ∃ d, k = K + d := ⟨k - K, by omega⟩
 clear hk
 induction d with
 | zero => exact h
 | succ d ih => exact hm _ _ ih
section
variable {A : Zg}
theorem Zi6 {step : Int × Int → Option ((Int × Int) ⊕ ((Int × Int) ⊕ Int))} {F : Zc → Zd → Option (Int × Zc)} {f : Zd → Int → Tr × Int × Int} {r : Zd} (hw : WS A.segments) (hr : OKr A r) (n : Nat) (hn : n ≤ 1073741824)
  (hs : ∀ (i : Nat) (left : Int), i < n → step ((i : Int), left) = (Xm r i).bind fun y4 => cond (y4.2 != 0) (some (.inr (.inl (y4.2, left)))) ((F ⟨left⟩ y4.1).bind fun y6 => cond (y6.1 != 0) (some (.inr (.inl (y6.1, y6.2.left)))) (some (.inl (IntKind.i64.wrap ((i : Int) + 1), y6.2.left)))))
  (he : ∀ left, step ((n : Int), left) = some (.inr (.inr left)))
  (hf : Lf A f)
  (hF : ∀ (i : Nat) (left : Int), i < n → (Xx A r i).2 = 0 → 0 ≤ left ∧ left ≤ 65536 → ∃ e l', F ⟨left⟩ (Xx A r i).1 = some (e, ⟨l'⟩) ∧ e = (f (Xx A r i).1 left).2.2 ∧ (e = 0 → l' = (f (Xx A r i).1 left).2.1)) : ∀ (m i : Nat) (left : Int) (acc : List Tr), i + m = n → 0 ≤ left ∧ left ≤ 65536 →
  ∃ z, Qm step ((i : Int), left) = some z ∧ ((Y3 f (Xx A r) m i left acc).2.2 = 0 → z = .inr (Y3 f (Xx A r) m i left acc).2.1) ∧ ((Y3 f (Xx A r) m i left acc).2.2 ≠ 0 → ∃ x, z = .inl ((Y3 f (Xx A r) m i left acc).2.2, x))
 | 0, i, left, acc, hi, hl => by
  have : i = n := by omega
  subst this
  exact ⟨_, Zas (he left), fun _ => rfl, fun h => absurd rfl h⟩
 | m + 1, i, left, acc, hi, hl => by
  have hst := hs i left (by omega)
  rw [Zte hw hr, Option.bind_some] at hst
  rw [Y3]
  by_cases h1 : (Xx A r i).2 ≠ 0
  ·rw [if_pos h1]
   rw [show ((Xx A r i).2 != 0) = true from bne_iff_ne.2 h1, cond_true] at hst
   exact ⟨_, Zas hst, fun h => absurd h h1, fun _ => ⟨_, rfl⟩⟩
  rw [if_neg h1]
  have h1' : (Xx A r i).2 = 0 := by omega
  rw [show ((Xx A r i).2 != 0) = false from by rw [h1']; rfl, cond_false] at hst
  obtain ⟨e, l', q1, q2, q3⟩ := hF i left (by omega) h1' hl
  rw [q1, Option.bind_some] at hst
  simp only at hst
  by_cases h2 : (f (Xx A r i).1 left).2.2 ≠ 0
  ·rw [if_pos h2]
   rw [q2, show ((f (Xx A r i).1 left).2.2 != 0) = true from bne_iff_ne.2 h2, cond_true] at hst
   exact ⟨_, Zas hst, fun h => absurd h h2, fun _ => ⟨_, rfl⟩⟩
  rw [if_neg h2]
  have h2' : (f (Xx A r i).1 left).2.2 = 0 := by omega
  have e0 : e = 0 := q2.trans h2'
  have hl' := q3 e0
  have hb := hf _ left (Zf0 hr i) hl.1 h2'
  rw [e0, show ((0 : Int) != 0) = false from rfl, cond_false, Q3 (by omega) (by omega), hl'] at hst
  rw [Zgu (s' := (((i + 1 : Nat) : Int), (f (Xx A r i).1 left).2.1)) hst]
  exact Zi6 hw hr n hn hs he hf hF m (i + 1) _ _ (by omega) ⟨hb.1, by omega⟩
def CK (A : Zg) (F : Zc → Zd → Int → Option (Int × Zc)) (f : Zd → Int → Tr × Int × Int) (d : Int) (r : Zd) (left : Int) : Prop := ∃ e l', F ⟨left⟩ r d = some (e, ⟨l'⟩) ∧ e = (f r left).2.2 ∧ (e = 0 → l' = (f r left).2.1)
theorem Znh {r : Zd} (h : OKr A r) : 0 ≤ Zz r ∧ Zz r ≤ 1073741824 := by
 cases h with
 | z => simp [Zz, r0]
 | st s a d p hd hp hin => simp only [Zz, if_true]; omega
 | li k s a n hk hn hin => simp only [Zz]; rw [if_neg (by omega)]; omega
 | co s a d p n hd hp hn hwx hin => simp only [Zz]; rw [if_neg (by omega)]; omega
 | at_ s a c i n hc h0 h1 hn hin => simp [Zz]
theorem Zq1 (hw : WS A.segments) {f1 f2 f3 : Zc → Zd → Int → Option (Int × Zc)} {f : Zd → Int → Tr × Int × Int} (hf : Lf A f) {r : Zd} (hr : OKr A r) {d left : Int} (hl : 0 ≤ left ∧ left ≤ 65536)
  (hF : ∀ (i : Nat) (l : Int), i < (Zz r).toNat → (Xx A r i).2 = 0 → 0 ≤ l ∧ l ≤ 65536 → CK A f1 f d (Xx A r i).1 l) :
  ∃ e l', Yw f1 f2 f3 ⟨left⟩ r d = some (e, ⟨l'⟩) ∧ e = (Y3 f (Xx A r) (Zz r).toNat 0 left []).2.2 ∧ (e = 0 → l' = (Y3 f (Xx A r) (Zz r).toNat 0 left []).2.1) := by
 have hk := Znh hr
 unfold Yw
 rw [Zdm, Option.bind_some]
 have hN : Zz r = (((Zz r).toNat : Nat) : Int) := by omega
 obtain ⟨z, z1, z2, z3⟩ := Zi6 (step := Yx f1 r d (Zz r)) (F := fun c k => f1 c k d) (f := f) hw hr (Zz r).toNat (by omega) (fun i l hi => by
  unfold Yx
  simp only
  rw [show decide ((i : Int) < Zz r) = true from by rw [decide_eq_true_eq]; omega, cond_true]) (fun l => by
  unfold Yx
  simp only
  rw [show decide ((((Zz r).toNat : Nat) : Int) < Zz r) = false from by rw [decide_eq_false_iff_not]; omega, cond_false]) hf hF (Zz r).toNat 0 left [] (by omega) hl
 rw [show (((0 : Nat) : Int)) = 0 from rfl] at z1
 rw [z1, Option.bind_some]
 by_cases hq : (Y3 f (Xx A r) (Zz r).toNat 0 left []).2.2 = 0
 ·rw [z2 hq]
  exact ⟨_, _, rfl, hq.symm, fun _ => rfl⟩
 obtain ⟨x, hx⟩ := z3 hq
 rw [hx]
 exact ⟨_, _, rfl, rfl, fun h => absurd h hq⟩
theorem Zmx (hw : WS A.segments) {f1 f2 f3 : Zc → Zd → Int → Option (Int × Zc)} {f : Zd → Int → Tr × Int × Int} (hf : Lf A f) {r : Zd} (hr : OKr A r) {d left : Int} (hd : 0 ≤ d ∧ d ≤ 1000) (hl : 0 ≤ left ∧ left ≤ 65536)
  (hF : ∀ (i : Nat) (l : Int), i < (Zz r).toNat → (Xx A r i).2 = 0 → 0 ≤ l ∧ l ≤ 65536 → CK A f2 f (d - 1) (Xx A r i).1 l) :
  ∃ e l', Yk f1 f2 f3 ⟨left⟩ r d = some (e, ⟨l'⟩) ∧ e = (Y3 f (Xx A r) (Zz r).toNat 0 left []).2.2 ∧ (e = 0 → l' = (Y3 f (Xx A r) (Zz r).toNat 0 left []).2.1) := by
 have hk := Znh hr
 unfold Yk
 rw [Zdm, Option.bind_some]
 obtain ⟨z, z1, z2, z3⟩ := Zi6 (step := Yl f2 r d (Zz r)) (F := fun c k => f2 c k (d - 1)) (f := f) hw hr (Zz r).toNat (by omega) (fun i l hi => by
  unfold Yl
  simp only
  rw [show decide ((i : Int) < Zz r) = true from by rw [decide_eq_true_eq]; omega, cond_true, Q3 (x := d - 1) (by omega) (by omega)]) (fun l => by
  unfold Yl
  simp only
  rw [show decide ((((Zz r).toNat : Nat) : Int) < Zz r) = false from by rw [decide_eq_false_iff_not]; omega, cond_false]) hf hF (Zz r).toNat 0 left [] (by omega) hl
 rw [show (((0 : Nat) : Int)) = 0 from rfl] at z1
 rw [z1, Option.bind_some]
 by_cases hq : (Y3 f (Xx A r) (Zz r).toNat 0 left []).2.2 = 0
 ·rw [z2 hq]
  exact ⟨_, _, rfl, hq.symm, fun _ => rfl⟩
 obtain ⟨x, hx⟩ := z3 hq
 rw [hx]
 exact ⟨_, _, rfl, rfl, fun h => absurd h hq⟩
theorem Zjg {g : Int → Zd × Int} (n : Nat) (hg : ∀ i : Nat, i < n → (g i).2 = 0) : ∀ (m i : Nat) (left : Int) (acc : List Tr), i + m = n → (Y3 (Zi3 A) g m i left acc).2 = (left, 0)
 | 0, i, left, acc, _ => rfl
 | m + 1, i, left, acc, h => by
  rw [Y3, if_neg (by rw [hg i (by omega)]; simp), if_neg (by simp [Zi3])]
  exact Zjg n hg m (i + 1) left _ (by omega)
theorem Znf {r : Zd} (hk : 2 ≤ r.kind ∧ r.kind ≤ 7) (i : Int) : (Xx A r i).2 = 0 := by
 unfold Xx
 split
 ·rfl
 rw [if_neg (by omega), if_neg (by omega), if_neg (by omega)]
theorem Zng {r : Zd} (hk : r.kind = 9) {i : Int} (h : 0 ≤ i ∧ i < Zz r) : (Xx A r i).1.kind = 1 := by
 unfold Xx
 rw [if_neg (by omega), if_neg (by omega), if_neg (by omega), if_pos hk]
theorem Zp8 (hw : WS A.segments) {f1 f2 f3 : Zc → Zd → Int → Option (Int × Zc)} {g1 g2 : Zd → Int → Tr × Int × Int} {r : Zd} (hr : OKr A r) {d left : Int} (hd : 0 ≤ d ∧ d ≤ 1000) (hl : 0 ≤ left ∧ left ≤ 65536)
  (hK : (r.kind = 1 ∨ r.kind = 8) → 1 ≤ d → ∀ l, 0 ≤ l ∧ l ≤ 65536 → ∃ e l', f2 ⟨l⟩ r (d - 1) = some (e, ⟨l'⟩) ∧ e = (Y3 g1 (Xx A r) (Zz r).toNat 0 l []).2.2 ∧ (e = 0 → l' = (Y3 g1 (Xx A r) (Zz r).toNat 0 l []).2.1))
  (hS : r.kind = 9 → 1 ≤ d → (0 < r.count → 2 ≤ d) → ∀ l, 0 ≤ l ∧ l ≤ 65536 → ∃ e l', f3 ⟨l⟩ r (d - 1) = some (e, ⟨l'⟩) ∧ e = (Y3 (stK A g2) (Xx A r) (Zz r).toNat 0 l []).2.2 ∧ (e = 0 → l' = (Y3 (stK A g2) (Xx A r) (Zz r).toNat 0 l []).2.1)) :
  ∃ e l', Ys f1 f2 f3 ⟨left⟩ r d = some (e, ⟨l'⟩) ∧ e = (Zbf A g1 g2 d r left).2.2 ∧ (e = 0 → l' = (Zbf A g1 g2 d r left).2.1) := by
 have hwt := Zsz hw hr
 have hkd := Zt0 hr
 have hkk : Yj r = some r.kind := rfl
 unfold Ys Zbf
 rw [Zqk, Zqs hw hr, hkk]
 have hz : (cond (decide (d < lvR r)) (some true) ((some (wtR r)).bind fun y7 => some (cond (decide (d < lvR r)) true (decide (left < y7))))) = some (decide (d < lvR r ∨ left < wtR r)) := by
  by_cases h0 : d < lvR r
  ·rw [decide_eq_true h0, cond_true, show decide (d < lvR r ∨ left < wtR r) = true from decide_eq_true (.inl h0)]
  rw [decide_eq_false h0, cond_false, Option.bind_some, cond_false]
  congr 1
  rw [decide_eq_decide]
  omega
 rw [Option.bind_some, hz, Option.bind_some]
 by_cases k0 : r.kind = 0
 ·rw [if_pos k0]
  have e1 : lvR r = 0 := by unfold lvR; rw [if_pos k0]
  have e2 : wtR r = 0 := by unfold wtR; rw [if_pos k0]
  rw [e1, e2, show decide (d < 0 ∨ left < 0) = false from by rw [decide_eq_false_iff_not]; omega, cond_false, Option.bind_some, Option.bind_some, k0]
  refine ⟨0, left, ?_, rfl, fun _ => rfl⟩
  show some ((0 : Int), (⟨IntKind.i64.wrap (left - 0)⟩ : Zc)) = _
  rw [Q3 (by omega) (by omega), Int.sub_zero]
 rw [if_neg k0]
 by_cases hb : d < lvR r ∨ left < wtR r
 ·rw [if_pos hb, decide_eq_true hb, cond_true]
  exact ⟨_, _, rfl, rfl, fun h => by simp at h⟩
 rw [if_neg hb, decide_eq_false hb, cond_false, Option.bind_some, Option.bind_some, Q3 (x := left - wtR r) (by omega) (by omega), Q3 (x := d - 1) (by omega) (by omega)]
 have hlv : 1 ≤ d := by
  have : 1 ≤ lvR r := by unfold lvR; rw [if_neg k0]; split <;> omega
  omega
 have hl' : 0 ≤ left - wtR r ∧ left - wtR r ≤ 65536 := by omega
 by_cases k18 : r.kind = 1 ∨ r.kind = 8
 ·have e1 : (cond (r.kind == 1) (some (r.kind == 1)) (some (r.kind == 8))) = some true := by
   rcases k18 with k | k <;> rw [k] <;> rfl
  have hkf : Zh7 A g1 g2 r = g1 := by unfold Zh7; rw [if_neg (by omega), if_pos k18]
  rw [e1, Option.bind_some, cond_true, hkf]
  obtain ⟨e, l', q1, q2, q3⟩ := hK k18 hlv _ hl'
  rw [q1]
  exact ⟨e, l', rfl, q2, q3⟩
 have e1 : (cond (r.kind == 1) (some (r.kind == 1)) (some (r.kind == 8))) = some false := by
  rw [show (r.kind == 1) = false from Gf (by omega), show (r.kind == 8) = false from Gf (by omega)]; rfl
 rw [e1, Option.bind_some, cond_false]
 by_cases k9 : r.kind = 9
 ·have hkf : Zh7 A g1 g2 r = stK A g2 := by unfold Zh7; rw [if_pos k9]
  have hc : 0 < r.count → 2 ≤ d := fun hc => by
   have : lvR r = 2 := by unfold lvR; rw [if_neg k0, if_pos ⟨k9, hc⟩]
   omega
  rw [show (r.kind == 9) = true from by rw [k9]; rfl, cond_true, hkf]
  obtain ⟨e, l', q1, q2, q3⟩ := hS k9 hlv hc _ hl'
  rw [q1]
  exact ⟨e, l', rfl, q2, q3⟩
 have hkf : Zh7 A g1 g2 r = Zi3 A := by unfold Zh7; rw [if_neg k9, if_neg k18]
 rw [show (r.kind == 9) = false from Gf k9, cond_false, hkf]
 have hgo : (Y3 (Zi3 A) (Xx A r) (Zz r).toNat 0 (left - wtR r) []).2 = (left - wtR r, 0) := by
  by_cases k10 : r.kind = 10
  ·have : Zz r = 0 := by
    cases hr with
    | at_ s a c i n hc h0 h1 hn hin => simp [Zz]
    | z => simp [r0] at k10
    | st => simp at k10
    | li k s a n hk => simp only at k10; omega
    | co => simp at k10
   rw [this]; rfl
  exact Zjg (Zz r).toNat (fun i _ => Znf (by omega) i) _ 0 _ _ (by omega)
 refine ⟨0, left - wtR r, rfl, ?_, fun _ => ?_⟩
 ·simp only; rw [hgo]
 simp only; rw [hgo]
theorem Zq2 (hw : WS A.segments) : ∀ (K : Nat), (∀ (d : Nat) r left, d ≤ 1000 → OKr A r → 0 ≤ left ∧ left ≤ 65536 → 2 * d + 1 ≤ K → CK A (Zh K).1 (Zaj A d) d r left) ∧
  (∀ (d : Nat) r left, d ≤ 1000 → OKr A r → 0 ≤ left ∧ left ≤ 65536 → 2 * d + 2 ≤ K → ∃ e l', (Zh K).2.1 ⟨left⟩ r d = some (e, ⟨l'⟩) ∧ e = (Y3 (Zaj A d) (Xx A r) (Zz r).toNat 0 left []).2.2 ∧ (e = 0 → l' = (Y3 (Zaj A d) (Xx A r) (Zz r).toNat 0 left []).2.1)) ∧
  (∀ (d : Nat) r left, d ≤ 1000 → OKr A r → r.kind = 9 → 0 ≤ left ∧ left ≤ 65536 → (0 < r.count → 1 ≤ d) → 2 * d + 2 ≤ K → ∃ e l', (Zh K).2.2 ⟨left⟩ r d = some (e, ⟨l'⟩) ∧ e = (Y3 (stK A (Jx A 1 d)) (Xx A r) (Zz r).toNat 0 left []).2.2 ∧ (e = 0 → l' = (Y3 (stK A (Jx A 1 d)) (Xx A r) (Zz r).toNat 0 left []).2.1))
 | 0 => ⟨fun d r left _ _ _ h => by omega, fun d r left _ _ _ h => by omega, fun d r left _ _ _ _ _ h => by omega⟩
 | K + 1 => by
  obtain ⟨i1, i2, i3⟩ := Zq2 hw K
  refine ⟨fun d r left hd hr hl hK => ?_, fun d r left hd hr hl hK => ?_, fun d r left hd hr k9 hl hc hK => ?_⟩
  ·show ∃ e l', Ys (Zh K).1 (Zh K).2.1 (Zh K).2.2 ⟨left⟩ r d = some (e, ⟨l'⟩) ∧ _
   rw [Zir]
   refine Zp8 hw hr (by omega) hl (fun k18 h1 l hl => ?_) (fun k9 h1 hc l hl => ?_)
   ·have := i2 (d - 1) r l (by omega) hr hl (by omega)
    rw [show (((d - 1 : Nat) : Int)) = (d : Int) - 1 by omega] at this
    unfold Jx
    rw [if_pos (by omega)]
    exact this
   have := i3 (d - 1) r l (by omega) hr k9 hl (fun h => by have := hc h; omega) (by omega)
   rw [show (((d - 1 : Nat) : Int)) = (d : Int) - 1 by omega] at this
   have e : Jx A 1 (d - 1) = Jx A 2 d := by
    unfold Jx
    by_cases h2 : 2 ≤ d
    ·rw [if_pos (by omega), if_pos h2, show d - 1 - 1 = d - 2 by omega]
    rw [if_neg (by omega), if_neg h2]
   rw [e] at this
   exact this
  ·show ∃ e l', Yw (Zh K).1 (Zh K).2.1 (Zh K).2.2 ⟨left⟩ r d = some (e, ⟨l'⟩) ∧ _
   exact Zq1 hw (Zmg hw d) hr hl fun i l hi _ hl => i1 d _ l hd (Zf0 hr i) hl (by omega)
  show ∃ e l', Yk (Zh K).1 (Zh K).2.1 (Zh K).2.2 ⟨left⟩ r d = some (e, ⟨l'⟩) ∧ _
  have hlf : Lf A (Jx A 1 d) := by
   unfold Jx
   split
   ·exact Zmg hw _
   exact Zpf
  refine Zmx hw (Zrf hlf) hr (by omega) hl fun i l hi _ hl => ?_
  have hkn : Zz r = r.count := by unfold Zz; rw [if_neg (by omega)]
  have hd1 : 1 ≤ d := hc (by omega)
  have h := i2 (d - 1) (Xx A r i).1 l (by omega) (Zf0 hr i) hl (by omega)
  rw [show (((d - 1 : Nat) : Int)) = (d : Int) - 1 by omega] at h
  have hk1 := Zng (A := A) k9 (i := (i : Int)) (by omega)
  have hkk : Zz (Xx A r i).1 = (Xx A r i).1.ptrs := by unfold Zz; rw [if_pos hk1]
  rw [hkk] at h
  have e : Jx A 1 d = Zaj A (d - 1) := by unfold Jx; rw [if_pos hd1]
  rw [e]
  exact h
def LE3 {α β γ δ : Type} (f g : α → β → γ → Option δ) : Prop := ∀ x y z r, f x y z = some r → g x y z = some r
theorem Zm0 : ∀ (k : Nat), LE3 (Zh k).1 (Zh (k + 1)).1 ∧ LE3 (Zh k).2.1 (Zh (k + 1)).2.1 ∧ LE3 (Zh k).2.2 (Zh (k + 1)).2.2
 | 0 => ⟨fun x y z r h => (by cases h), fun x y z r h => (by cases h), fun x y z r h => (by cases h)⟩
 | k + 1 => by
  obtain ⟨i1, i2, i3⟩ := Zm0 k
  refine ⟨fun c r d v h => ?_, fun c r d v h => ?_, fun c r d v h => ?_⟩
  ·refine Jv (fun _ q => q) (fun z => Zb3 _ (fun _ q => q) fun _ => Jv (fun _ q => q) fun w _ => Jv (fun _ q => q) fun u _ => Jv (fun _ q => q) fun b => Zb3 _ (fun _ => Jv (fun x q => i2 _ _ _ x q) fun _ _ q => q) (Zb3 _ (fun _ => Jv (fun x q => i3 _ _ _ x q) fun _ _ q => q) fun _ q => q)) h
  ·refine Jv (fun _ q => q) (fun n _ => Jv (fun x => Zj2 fun s y q => ?_) fun _ _ q => q) h
   exact Zb3 _ (fun _ => Jv (fun _ q => q) fun u => Zb3 _ (fun _ q => q) fun _ => Jv (fun x q => i1 _ _ _ x q) fun _ _ q => q) (fun _ q => q) y q
  refine Jv (fun _ q => q) (fun n _ => Jv (fun x => Zj2 fun s y q => ?_) fun _ _ q => q) h
  exact Zb3 _ (fun _ => Jv (fun _ q => q) fun u => Zb3 _ (fun _ q => q) fun _ => Jv (fun x q => i2 _ _ _ x q) fun _ _ q => q) (fun _ q => q) y q
theorem Zp9 (hw : WS A.segments) {d : Nat} (hd : d ≤ 1000) {r : Zd} (hr : OKr A r) {left : Int} (hl : 0 ≤ left ∧ left ≤ 65536) : CK A Jt (Zaj A d) d r left := by
 obtain ⟨e, l', h1, h2, h3⟩ := (Zq2 hw (2 * d + 1)).1 d r left hd hr hl (Nat.le_refl _)
 exact ⟨e, l', Zrh (F := fun k => (Zh k).1 ⟨left⟩ r d) (fun k x => (Zm0 k).1 _ _ _ x) h1, h2, h3⟩
def Zi7 (x m : Int) : Int := if m < (if x < 0 then 0 else x) then m else (if x < 0 then 0 else x)
def Xy (x : Zv) : Zv := ⟨Zi7 x.Depth 64, Zi7 x.Weight 65536, Zi7 x.MaxD 4096, Zi7 x.MaxOut 131072⟩
theorem Zlm (x : Zv) : Q6 x = some (Xy x) := rfl
theorem Zc1 (x m : Int) (hm : 0 ≤ m) : 0 ≤ Zi7 x m ∧ Zi7 x m ≤ m := by unfold Zi7; repeat' split; all_goals omega
def Zim (A : Zg) (x : Zv) : Int × Int :=
 if (atR A 0 0).2 ≠ 0 then (0, (atR A 0 0).2)
 else
  let q := Zaj A (Xy x).Depth.toNat (atR A 0 0).1 (Xy x).Weight
  if q.2.2 ≠ 0 then (0, q.2.2) else ((Xy x).Weight - q.2.1, 0)
theorem Zc0 (hw : WS A.segments) (x : Zv) : Xp (some A) x = some (Zim A x) := by
 unfold Xp Zim
 rw [Zlm, Option.bind_some, Zsr hw, Option.bind_some]
 have hd : 0 ≤ (Xy x).Depth ∧ (Xy x).Depth ≤ 64 := Zc1 _ _ (by decide)
 have hW : 0 ≤ (Xy x).Weight ∧ (Xy x).Weight ≤ 65536 := Zc1 _ _ (by decide)
 by_cases h : (atR A 0 0).2 ≠ 0
 ·rw [if_pos h, show ((atR A 0 0).2 != 0) = true from bne_iff_ne.2 h, cond_true]
 rw [if_neg h, show ((atR A 0 0).2 != 0) = false from bne_eq_false_iff_eq.2 (by omega), cond_false]
 obtain ⟨e, l', h1, h2, h3⟩ := Zp9 hw (d := (Xy x).Depth.toNat) (by omega) (Zl0 (A := A) 0 0) hW
 rw [show (((Xy x).Depth.toNat : Nat) : Int) = (Xy x).Depth by omega] at h1
 rw [h1, Option.bind_some]
 simp only
 rw [h2]
 by_cases hq : (Zaj A (Xy x).Depth.toNat (atR A 0 0).1 (Xy x).Weight).2.2 ≠ 0
 ·rw [if_pos hq, show ((Zaj A (Xy x).Depth.toNat (atR A 0 0).1 (Xy x).Weight).2.2 != 0) = true from bne_iff_ne.2 hq, cond_true]
 have h0 : (Zaj A (Xy x).Depth.toNat (atR A 0 0).1 (Xy x).Weight).2.2 = 0 := by omega
 have hb := Zmg hw _ _ _ (Zl0 (A := A) 0 0) hW.1 h0
 rw [if_neg hq, show ((Zaj A (Xy x).Depth.toNat (atR A 0 0).1 (Xy x).Weight).2.2 != 0) = false from bne_eq_false_iff_eq.2 h0, cond_false, h3 (by rw [h2, h0]), Q3 (by omega) (by omega)]
end
theorem Zmz : Zim ⟨[[4294967296, 7]], 0, 0⟩ ⟨1, 2, 0, 0⟩ = (2, 0) := by
 unfold Zim
 rw [Zli]
 rfl
theorem Zmy : Zim ⟨[[4294967296, 7]], 0, 0⟩ ⟨1, 1, 0, 0⟩ = (0, 3) := by
 unfold Zim
 rw [Zli]
 rfl
theorem Zp7 : Xl = some true := by
 have hw := Zr6
 unfold Xl
 rw [Zly hw, Option.bind_some, Zc0 (A := ⟨[[4294967296, 7]], 0, 0⟩) hw, Option.bind_some, Zc0 (A := ⟨[[4294967296, 7]], 0, 0⟩) hw, Option.bind_some, Zmz, Zmy]
 rfl
def a1R : Zg := ⟨[[281479271677948, 0]], 0, 0⟩
def a2R : Zg := ⟨[[281474976710656, 281479271677944]], 0, 0⟩
theorem Ztb : fol a1R.segments 0 0 = (⟨⟨1, 0, 0, 1, 0, 0, 0, false⟩, 0, 0⟩, 0) := rfl
theorem Ztc : fol a2R.segments 0 0 = (⟨⟨1, 0, 0, 1, 0, 0, 0, false⟩, 0, 1⟩, 0) := rfl
theorem Ztd : fol a2R.segments 0 1 = (⟨⟨1, 0, 0, 1, 0, 0, 0, false⟩, 0, 0⟩, 0) := rfl
theorem Zsv : atR a1R 0 0 = (⟨some a1R, 1, 0, 0, 0, 1, 0, 0, 0⟩, 0) := by
 unfold atR
 rw [Ztb]
 rfl
theorem Zsw : atR a2R 0 0 = (⟨some a2R, 1, 0, 1, 0, 1, 0, 0, 0⟩, 0) := by
 unfold atR
 rw [Ztc]
 rfl
theorem Ztu : atR a2R 0 1 = (⟨some a2R, 1, 0, 0, 0, 1, 0, 0, 0⟩, 0) := by
 unfold atR
 rw [Ztd]
 rfl
theorem Zic {A : Zg} {R R' : Zd} (h1 : R.kind = 1) (hp : R.ptrs = 1) (hk : Xx A R 0 = (R', 0)) {d : Nat} {left : Int} (ih : ∀ e, e < d → ∀ l, (Zaj A e R' l).2.2 = 3) : (Zaj A d R left).2.2 = 3 := by
 rw [Zir]
 unfold Zbf
 rw [if_neg (by omega)]
 by_cases hb : (d : Int) < lvR R ∨ left < wtR R
 ·rw [if_pos hb]
 rw [if_neg hb]
 have hlv : lvR R = 1 := by unfold lvR; rw [if_neg (by omega), if_neg (by omega)]
 have hkn : Zz R = 1 := by unfold Zz; rw [if_pos h1, hp]
 have hf : Zh7 A (Jx A 1 d) (Jx A 2 d) R = Zaj A (d - 1) := by
  unfold Zh7
  rw [if_neg (by omega), if_pos (.inl h1)]
  unfold Jx
  rw [if_pos (by omega)]
 simp only
 rw [hkn, hf, show ((1 : Int).toNat) = 0 + 1 from rfl, Y3, show (((0 : Nat) : Int)) = 0 from rfl, hk]
 have := ih (d - 1) (by omega) (left - wtR R)
 rw [if_neg (by simp), if_pos (by simp only; rw [this]; decide)]
 exact this
theorem Ztj : ∀ (d : Nat) (left : Int), (Zaj a1R d ⟨some a1R, 1, 0, 0, 0, 1, 0, 0, 0⟩ left).2.2 = 3 := fun d => by
 induction d using Nat.strongRecOn with
 | ind d ih =>
  intro left
  refine Zic rfl rfl (R' := ⟨some a1R, 1, 0, 0, 0, 1, 0, 0, 0⟩) ?_ ih
  have : Xx a1R ⟨some a1R, 1, 0, 0, 0, 1, 0, 0, 0⟩ 0 = atR a1R 0 0 := rfl
  rw [this, Zsv]
theorem Ztk : ∀ (d : Nat), (∀ left : Int, (Zaj a2R d ⟨some a2R, 1, 0, 1, 0, 1, 0, 0, 0⟩ left).2.2 = 3) ∧ ∀ left : Int, (Zaj a2R d ⟨some a2R, 1, 0, 0, 0, 1, 0, 0, 0⟩ left).2.2 = 3 := fun d => by
 induction d using Nat.strongRecOn with
 | ind d ih =>
  refine ⟨fun left => ?_, fun left => ?_⟩
  ·refine Zic rfl rfl (R' := ⟨some a2R, 1, 0, 0, 0, 1, 0, 0, 0⟩) ?_ fun e he => (ih e he).2
   have : Xx a2R ⟨some a2R, 1, 0, 1, 0, 1, 0, 0, 0⟩ 0 = atR a2R 0 1 := rfl
   rw [this, Ztu]
  refine Zic rfl rfl (R' := ⟨some a2R, 1, 0, 1, 0, 1, 0, 0, 0⟩) ?_ fun e he => (ih e he).1
  have : Xx a2R ⟨some a2R, 1, 0, 0, 0, 1, 0, 0, 0⟩ 0 = atR a2R 0 0 := rfl
  rw [this, Zsw]
theorem Zs5 (x : Zv) : (Zim a1R x).2 = 3 := by
 unfold Zim
 rw [Zsv]
 simp only
 rw [if_neg (by simp), Ztj, if_pos (by decide)]
theorem Zs6 (x : Zv) : (Zim a2R x).2 = 3 := by
 unfold Zim
 rw [Zsw]
 simp only
 rw [if_neg (by simp), (Ztk _).1, if_pos (by decide)]
def a3R (n : Nat) : Zg := ⟨[[((1 + n * 34359738368 : Nat) : Int)]], 0, 0⟩
theorem Ztv {n : Nat} (hn : 1 ≤ n ∧ n ≤ 536870911) : atR (a3R n) 0 0 = (⟨some (a3R n), 2, 0, 1, 0, 0, (n : Int), 0, 0⟩, 0) := by
 have hdc : dc ((1 + n * 34359738368 : Nat) : Int) = ⟨2, 0, 0, 0, 0, (n : Int), 0, false⟩ := by
  unfold dc Zq3 Zmh
  rw [Int.toNat_natCast, if_neg (by omega), if_neg (by omega), if_pos (by omega), if_pos (by omega)]
  have e1 : (1 + n * 34359738368) / 4 % 1073741824 = 0 := by omega
  have e2 : (1 + n * 34359738368) / 4294967296 % 8 = 0 := by omega
  have e3 : (1 + n * 34359738368) / 34359738368 % 536870912 = n := by omega
  rw [e1, e2, e3]
  rfl
 have hf : fol (a3R n).segments 0 0 = (⟨⟨2, 0, 0, 0, 0, (n : Int), 0, false⟩, 0, 1⟩, 0) := by
  have hw : wd (a3R n).segments 0 0 = ((1 + n * 34359738368 : Nat) : Int) := rfl
  have hi : inB (a3R n).segments 0 0 1 = true := rfl
  unfold fol
  rw [if_pos hi, hw, hdc]
  simp only
  rw [if_neg (by decide), if_neg (by simp), if_neg (by decide)]
  unfold tgt
  have hp : pw ⟨2, 0, 0, 0, 0, (n : Int), 0, false⟩ = 0 := by simp [pw, wdt]
  rw [hp, if_neg (by simp), if_pos (by simp), if_pos (by rfl)]
  rfl
 unfold atR
 rw [hf]
 simp
theorem Zs7 {n : Nat} (hn : 1 ≤ n ∧ n ≤ 536870911) (x : Zv) : (Zim (a3R n) x).2 = if (Xy x).Depth < 1 ∨ (Xy x).Weight < (n : Int) + 1 then 3 else 0 := by
 have hd : 0 ≤ (Xy x).Depth ∧ (Xy x).Depth ≤ 64 := Zc1 _ _ (by decide)
 unfold Zim
 rw [Ztv hn]
 simp only
 rw [if_neg (by simp), Zir]
 have hm : (Zbf (a3R n) (Jx (a3R n) 1 (Xy x).Depth.toNat) (Jx (a3R n) 2 (Xy x).Depth.toNat) (((Xy x).Depth.toNat : Nat) : Int) ⟨some (a3R n), 2, 0, 1, 0, 0, (n : Int), 0, 0⟩ (Xy x).Weight).2.2 = if (Xy x).Depth < 1 ∨ (Xy x).Weight < (n : Int) + 1 then 3 else 0 := by
  unfold Zbf
  have e1 : lvR ⟨some (a3R n), 2, 0, 1, 0, 0, (n : Int), 0, 0⟩ = 1 := by simp [lvR]
  have e2 : wtR ⟨some (a3R n), 2, 0, 1, 0, 0, (n : Int), 0, 0⟩ = 1 + (n : Int) := by simp [wtR]
  rw [if_neg (by simp), e1, e2]
  by_cases hb : (Xy x).Depth < 1 ∨ (Xy x).Weight < (n : Int) + 1
  ·rw [if_pos (by omega), if_pos hb]
  rw [if_neg (by omega), if_neg hb]
  have hkf : Zh7 (a3R n) (Jx (a3R n) 1 (Xy x).Depth.toNat) (Jx (a3R n) 2 (Xy x).Depth.toNat) ⟨some (a3R n), 2, 0, 1, 0, 0, (n : Int), 0, 0⟩ = Zi3 (a3R n) := by simp [Zh7]
  rw [hkf]
  simp only
  rw [Zjg (Zz ⟨some (a3R n), 2, 0, 1, 0, 0, (n : Int), 0, 0⟩).toNat (fun i _ => Znf (by simp) i) _ 0 _ _ (by omega)]
 generalize (Zbf (a3R n) (Jx (a3R n) 1 (Xy x).Depth.toNat) (Jx (a3R n) 2 (Xy x).Depth.toNat) (((Xy x).Depth.toNat : Nat) : Int) ⟨some (a3R n), 2, 0, 1, 0, 0, (n : Int), 0, 0⟩ (Xy x).Weight) = q at *
 by_cases hb : (Xy x).Depth < 1 ∨ (Xy x).Weight < (n : Int) + 1
 ·rw [if_pos hb] at hm ⊢
  rw [if_pos (by omega), hm]
 rw [if_neg hb] at hm ⊢
 rw [if_neg (by omega)]
theorem Zmp (x : Zv) {n : Int} (hn : 0 ≤ n ∧ n < 4294967296) : X0 x n = some true := by
 obtain ⟨k, hk, hk2⟩ : ∃ k : Nat, (1 ≤ k ∧ k ≤ 536870911) ∧ Int.tmod n 536870911 + 1 = (k : Int) := by
  refine ⟨(Int.tmod n 536870911 + 1).toNat, ?_, ?_⟩ <;> rw [Int.tmod_eq_emod_of_nonneg hn.1] <;> omega
 have w1 : WS a1R.segments := Zmr _ (by simp) (by simp)
 have w2 : WS a2R.segments := Zmr _ (by simp) (by simp)
 have w3 : WS (a3R k).segments := Zmr _ (by simp; omega) (by simp)
 have hd : 0 ≤ (Xy x).Depth ∧ (Xy x).Depth ≤ 64 := Zc1 _ _ (by decide)
 have hW : 0 ≤ (Xy x).Weight ∧ (Xy x).Weight ≤ 65536 := Zc1 _ _ (by decide)
 have hm0 : 0 ≤ Int.tmod n 536870911 ∧ Int.tmod n 536870911 ≤ 536870910 := by rw [Int.tmod_eq_emod_of_nonneg hn.1]; omega
 unfold X0
 have o1 : Qi ([([281479271677948, 0] : List Int)] : List (List Int)) = some (some a1R) := Zly w1
 have o2 : Qi ([([281474976710656, 281479271677944] : List Int)] : List (List Int)) = some (some a2R) := Zly w2
 have hw3 : IntKind.u64.wrap (1 + (IntKind.u64.wrap ((IntKind.u64.wrap (IntKind.i64.wrap ((IntKind.i64.wrap (Int.tmod n 536870911)) + 1))) * 2 ^ min (Int.toNat 35) 64))) = ((1 + k * 34359738368 : Nat) : Int) := by
  rw [Q3 (x := Int.tmod n 536870911) (by omega) (by omega), hk2, Q3 (x := (k : Int)) (by omega) (by omega), Ztm k (by omega), show ((2 : Int) ^ min (Int.toNat 35) 64) = ((34359738368 : Nat) : Int) from by decide, ← Int.natCast_mul, Ztm _ (by omega), show (1 : Int) = ((1 : Nat) : Int) from rfl, ← Int.natCast_add, Ztm _ (by omega)]
 have o3 : Qi ([([((1 + k * 34359738368 : Nat) : Int)] : List Int)] : List (List Int)) = some (some (a3R k)) := Zly w3
 rw [hw3, o1, Option.bind_some, Zc0 w1, Option.bind_some, o2, Option.bind_some, Zc0 w2, Option.bind_some, o3, Option.bind_some, Zc0 w3, Option.bind_some, Zlm]
 have hz : ((some (Xy x)).bind fun y18 => cond (decide (y18.Depth < 1)) (some true) ((some (Xy x)).bind fun y19 => some (cond (decide (y18.Depth < 1)) true (decide (y19.Weight < (IntKind.i64.wrap ((IntKind.i64.wrap ((IntKind.i64.wrap (Int.tmod n 536870911)) + 1)) + 1))))))) = some (decide ((Xy x).Depth < 1 ∨ (Xy x).Weight < (k : Int) + 1)) := by
  rw [Option.bind_some, Q3 (x := Int.tmod n 536870911) (by omega) (by omega), hk2, Q3 (x := (k : Int)) (by omega) (by omega), Q3 (x := (k : Int) + 1) (by omega) (by omega), Option.bind_some]
  by_cases h0 : (Xy x).Depth < 1
  ·rw [decide_eq_true h0, cond_true, decide_eq_true (p := (Xy x).Depth < 1 ∨ (Xy x).Weight < (k : Int) + 1) (.inl h0)]
  rw [decide_eq_false h0, cond_false, cond_false]
  congr 1
  rw [decide_eq_decide]
  omega
 rw [hz, Option.bind_some, Zs5, Zs6, Zs7 hk, Zp7]
 by_cases hb : (Xy x).Depth < 1 ∨ (Xy x).Weight < (k : Int) + 1
 ·rw [if_pos hb, decide_eq_true hb]; rfl
 rw [if_neg hb, decide_eq_false hb]; rfl
end Go.Proofs.Ytmlhokaflhlhbaa
