/- Plain facts on this seat's mirrors (part VP4); each theorem bears its own conditions. -/
import Derived.Test.YtmlhokaflhlhbaaVP1
import Derived.IntWalk
namespace Go.Proofs.Ytmlhokaflhlhbaa
open Go.RowKit
set_option linter.unusedVariables false
set_option linter.unusedSimpArgs false
abbrev Tr := Yu
def lvR (r : Zc) : Int := if r.kind = 0 then 0 else if r.kind = 9 ∧ 0 < r.count then 2 else 1
def wtR (r : Zc) : Int := if r.kind = 0 then 0 else if r.kind = 1 then 1 + r.words + r.ptrs else if r.kind = 9 then 1 + r.count * (1 + r.words + r.ptrs) else 1 + r.count
theorem Zqr (r : Zc) : Ju r = some (lvR r) := by
 have hk : Yk r = some r.kind := rfl
 unfold Ju lvR
 rw [hk, Zdm, Option.bind_some]
 by_cases h0 : r.kind = 0
 ·rw [show (r.kind == 0) = true from by rw [h0]; rfl, if_pos h0]; rfl
 rw [show (r.kind == 0) = false from Gc h0, if_neg h0, cond_false, Option.bind_some]
 by_cases h9 : r.kind = 9
 ·have hkn : Z0 r = r.count := by unfold Z0; rw [if_neg (by omega)]
  rw [show (r.kind == 9) = true from by rw [h9]; rfl, cond_true, Option.bind_some, Option.bind_some, cond_true, hkn]
  by_cases hc : 0 < r.count
  ·rw [if_pos ⟨h9, hc⟩, decide_eq_true hc]; rfl
  rw [if_neg (fun q => hc q.2), decide_eq_false hc]; rfl
 rw [show (r.kind == 9) = false from Gc h9, if_neg (fun q => h9 q.1)]; rfl
section
variable {A : Zg}
theorem Ztd (hw : WS A.segments) {r : Zc} (h : OKr A r) : 0 ≤ wtR r ∧ wtR r ≤ 4503599627370496 ∧ (r.kind ≠ 0 → 1 ≤ wtR r) := by
 cases h with
 | z => simp [wtR, r0]
 | st s a d p hd hp hin => simp [wtR]; omega
 | li k s a n hk hn hin => simp only [wtR]; rw [if_neg (by omega), if_neg (by omega), if_neg (by omega)]; omega
 | co s a d p n hd hp hn hwx hin =>
  simp only [wtR, show ¬ (9 : Int) = 0 from by decide, show ¬ (9 : Int) = 1 from by decide, if_false, if_true]
  have : n * (1 + d + p) = n + n * (d + p) := by rw [Int.add_assoc, Int.mul_add, Int.mul_one]
  omega
 | at_ s a c i n hc h0 h1 hn hin => simp [wtR]
theorem Zq0 (hw : WS A.segments) {r : Zc} (h : OKr A r) : Q4 r = some (wtR r) := by
 have hk : Yk r = some r.kind := rfl
 unfold Q4 wtR
 rw [hk, Zqw, Zdm, Option.bind_some]
 cases h with
 | z => rfl
 | st s a d p hd hp hin =>
  simp only [Zpr, Z0, if_true, show ((1 : Int) == 0) = false from rfl, show ((1 : Int) == 1) = true from rfl, cond_false, cond_true, Option.bind_some, show ¬ (1 : Int) = 0 from by decide, if_false]
  rw [Q2 (x := 1 + d) (by omega) (by omega), Q2 (by omega) (by omega)]
 | li k s a n hk' hn hin =>
  simp only [Z0]
  rw [show (k == 0) = false from Gc (by omega), show (k == 1) = false from Gc (by omega), show (k == 9) = false from Gc (by omega), if_neg (by omega), if_neg (by omega), if_neg (by omega), if_neg (by omega), cond_false, cond_false, cond_false, Option.bind_some, Q2 (by omega) (by omega)]
 | co s a d p n hd hp hn hwx hin =>
  have : n * (1 + d + p) = n + n * (d + p) := by rw [Int.add_assoc, Int.mul_add, Int.mul_one]
  unfold Jh
  simp only [Z0, show ((9 : Int) == 0) = false from rfl, show ((9 : Int) == 1) = false from rfl, show ((9 : Int) == 9) = true from rfl, show ((9 : Int) != 9) = false from rfl, cond_false, cond_true, Option.bind_some, show ¬ (9 : Int) = 0 from by decide, show ¬ (9 : Int) = 1 from by decide, if_false, if_true]
  rw [Q2 (x := 1 + d) (by omega) (by omega), Q2 (x := 1 + d + p) (by omega) (by omega), Q2 (x := n * (1 + d + p)) (by omega) (by omega), Q2 (by omega) (by omega)]
 | at_ s a c i n hc h0 h1 hn hin => rfl
def Zk7 (A : Zg) (r : Zc) : List Int := if r.kind = 10 then [Zuz A r] else if r.kind = 1 then ((seg A.segments r.segment).drop r.at_.toNat).take r.words.toNat else []
def Yh (f : Zc → Int → Tr × Int × Int) (g : Int → Zc × Int) : Nat → Nat → Int → List Tr → List Tr × Int × Int
 | 0, _, left, acc => (acc, left, 0)
 | m + 1, i, left, acc => if (g i).2 ≠ 0 then (acc, left, (g i).2) else if (f (g i).1 left).2.2 ≠ 0 then (acc, (f (g i).1 left).2.1, (f (g i).1 left).2.2) else Yh f g m (i + 1) (f (g i).1 left).2.1 (acc ++ [(f (g i).1 left).1])
def stK (A : Zg) (f : Zc → Int → Tr × Int × Int) (k : Zc) (left : Int) : Tr × Int × Int :=
 let q := Yh f (X3 A k) k.ptrs.toNat 0 left []
 (⟨1, Zk7 A k, q.1⟩, q.2)
def Zln (A : Zg) (k : Zc) (left : Int) : Tr × Int × Int := (⟨k.kind, Zk7 A k, []⟩, left, 0)
def Zf3 (A : Zg) (f1 f2 : Zc → Int → Tr × Int × Int) (r : Zc) : Zc → Int → Tr × Int × Int :=
 if r.kind = 9 then stK A f2 else if r.kind = 1 ∨ r.kind = 8 then f1 else Zln A
def Zan (A : Zg) (f1 f2 : Zc → Int → Tr × Int × Int) (d : Int) (r : Zc) (left : Int) : Tr × Int × Int :=
 if r.kind = 0 then (⟨r.kind, Zk7 A r, []⟩, left, 0)
 else if d < lvR r ∨ left < wtR r then (⟨r.kind, Zk7 A r, []⟩, left, 3)
 else
  let q := Yh (Zf3 A f1 f2 r) (X3 A r) (Z0 r).toNat 0 (left - wtR r) []
  (⟨r.kind, Zk7 A r, q.1⟩, q.2)
def bad (_ : Zc) (left : Int) : Tr × Int × Int := (⟨0, [], []⟩, left, 3)
def Zav (A : Zg) : Nat → Zc → Int → Tr × Int × Int
 | 0 => Zan A bad bad 0
 | 1 => Zan A (Zav A 0) bad 1
 | d + 2 => Zan A (Zav A (d + 1)) (Zav A d) ((d + 2 : Nat) : Int)
def Ki (A : Zg) (k : Nat) (d : Nat) : Zc → Int → Tr × Int × Int := if k ≤ d then Zav A (d - k) else bad
theorem Zgd (d : Nat) : Zav A d = Zan A (Ki A 1 d) (Ki A 2 d) (d : Int) := by
 match d with
 | 0 => rfl
 | 1 => rfl
 | d + 2 =>
  unfold Ki
  rw [if_pos (by omega), if_pos (by omega)]
  rfl
def Lf (A : Zg) (f : Zc → Int → Tr × Int × Int) : Prop := ∀ k left, OKr A k → 0 ≤ left → (f k left).2.2 = 0 → 0 ≤ (f k left).2.1 ∧ (f k left).2.1 ≤ left
theorem Zmg {f : Zc → Int → Tr × Int × Int} {g : Int → Zc × Int} (hf : Lf A f) (hg : ∀ i, OKr A (g i).1) : ∀ (m i : Nat) (left : Int) (acc : List Tr), 0 ≤ left → (Yh f g m i left acc).2.2 = 0 → 0 ≤ (Yh f g m i left acc).2.1 ∧ (Yh f g m i left acc).2.1 ≤ left
 | 0, i, left, acc, h0, _ => ⟨h0, Int.le_refl _⟩
 | m + 1, i, left, acc, h0, h => by
  rw [Yh] at h ⊢
  by_cases h1 : (g i).2 ≠ 0
  ·rw [if_pos h1] at h; exact absurd h h1
  rw [if_neg h1] at h ⊢
  by_cases h2 : (f (g i).1 left).2.2 ≠ 0
  ·rw [if_pos h2] at h; exact absurd h h2
  rw [if_neg h2] at h ⊢
  have h2' : (f (g i).1 left).2.2 = 0 := by omega
  obtain ⟨a1, a2⟩ := hf _ _ (hg i) h0 h2'
  obtain ⟨b1, b2⟩ := Zmg hf hg m (i + 1) _ _ a1 h
  exact ⟨b1, by omega⟩
theorem Zpk : Lf A bad := fun k left _ _ h => by simp [bad] at h
theorem Zrp {f : Zc → Int → Tr × Int × Int} (hf : Lf A f) : Lf A (stK A f) := fun k left hk h0 h => Zmg hf (fun i => Zf4 hk i) _ _ _ _ h0 h
theorem Zrn : Lf A (Zln A) := fun k left _ h0 _ => ⟨h0, Int.le_refl _⟩
theorem Zsv {f1 f2 : Zc → Int → Tr × Int × Int} (h1 : Lf A f1) (h2 : Lf A f2) (r : Zc) : Lf A (Zf3 A f1 f2 r) := by
 unfold Zf3
 split
 ·exact Zrp h2
 split
 ·exact h1
 exact Zrn
theorem Zro (hw : WS A.segments) {f1 f2 : Zc → Int → Tr × Int × Int} (h1 : Lf A f1) (h2 : Lf A f2) (d : Int) : Lf A (Zan A f1 f2 d) := fun r left hr h0 h => by
 have hwt := Ztd hw hr
 unfold Zan at h ⊢
 by_cases k0 : r.kind = 0
 ·rw [if_pos k0]; exact ⟨h0, Int.le_refl _⟩
 rw [if_neg k0] at h ⊢
 by_cases hb : d < lvR r ∨ left < wtR r
 ·rw [if_pos hb] at h; simp at h
 rw [if_neg hb] at h ⊢
 have := Zmg (Zsv h1 h2 r) (fun i => Zf4 hr i) (Z0 r).toNat 0 (left - wtR r) [] (by omega) h
 simp only
 omega
theorem Zmn (hw : WS A.segments) : ∀ d, Lf A (Zav A d) := fun d => by
 induction d using Nat.strongRecOn with
 | ind d ih =>
  rw [Zgd]
  refine Zro hw ?_ ?_ _
  ·unfold Ki
   split
   ·exact ih _ (by omega)
   exact Zpk
  unfold Ki
  split
  ·exact ih _ (by omega)
  exact Zpk
end
theorem Znp {S R : Type} {s1 s2 : S → Option (S ⊕ R)} (h : ∀ s x, s1 s = some x → s2 s = some x) : ∀ (k : Nat) (s : S) (r : R), Kf s1 k s = some r → Kf s2 k s = some r
 | 0, s, r, q => by simp [Kf] at q
 | k + 1, s, r, q => by
  simp only [Kf] at q ⊢
  cases hs : s1 s with
  | none => rw [hs] at q; cases q
  | some x =>
   rw [hs] at q
   rw [h s x hs]
   cases x with
   | inl s' => exact Znp h k s' r q
   | inr r' => exact q
theorem Zj6 {S R : Type} {s1 s2 : S → Option (S ⊕ R)} (h : ∀ s x, s1 s = some x → s2 s = some x) {s : S} {r : R} (q : Qk s1 s = some r) : Qk s2 s = some r := by
 obtain ⟨k, hk⟩ := Zeo q
 exact Zcd (Znp h k s r hk)
theorem Jp {α β : Type} {o o' : Option α} {f f' : α → Option β} (h : ∀ x, o = some x → o' = some x) (hf : ∀ x y, f x = some y → f' x = some y) {r : β} (q : o.bind f = some r) : o'.bind f' = some r := by
 obtain ⟨x, h1, h2⟩ := Option.bind_eq_some_iff.1 q
 rw [h x h1]
 exact hf x r h2
theorem Zb2 {α : Type} (c : Bool) {a a' b b' : Option α} (h1 : ∀ r, a = some r → a' = some r) (h2 : ∀ r, b = some r → b' = some r) (r : α) (q : cond c a b = some r) : cond c a' b' = some r := by
 cases c with
 | true => exact h1 r q
 | false => exact h2 r q
theorem Zrs {R : Type} {F : Nat → Option R} {r : R} (hm : ∀ k r, F k = some r → F (k + 1) = some r) {K : Nat} (h : F K = some r) : lim F = some r := by
 refine Zto K fun k hk => ?_
 obtain ⟨d, rfl⟩ : ∃ d, k = K + d := ⟨k - K, by omega⟩
 clear hk
 induction d with
 | zero => exact h
 | succ d ih => exact hm _ _ ih
section
variable {A : Zg}
theorem Zjd {step : Int × Int → Option ((Int × Int) ⊕ ((Int × Int) ⊕ Int))} {F : Zd → Zc → Option (Int × Zd)} {f : Zc → Int → Tr × Int × Int} {r : Zc} (hw : WS A.segments) (hr : OKr A r) (n : Nat) (hn : n ≤ 1073741824)
  (hs : ∀ (i : Nat) (left : Int), i < n → step ((i : Int), left) = (Xn r i).bind fun y4 => cond (y4.2 != 0) (some (.inr (.inl (y4.2, left)))) ((F ⟨left⟩ y4.1).bind fun y6 => cond (y6.1 != 0) (some (.inr (.inl (y6.1, y6.2.left)))) (some (.inl (IntKind.i64.wrap ((i : Int) + 1), y6.2.left)))))
  (he : ∀ left, step ((n : Int), left) = some (.inr (.inr left)))
  (hf : Lf A f)
  (hF : ∀ (i : Nat) (left : Int), i < n → (X3 A r i).2 = 0 → 0 ≤ left ∧ left ≤ 65536 → ∃ e l', F ⟨left⟩ (X3 A r i).1 = some (e, ⟨l'⟩) ∧ e = (f (X3 A r i).1 left).2.2 ∧ (e = 0 → l' = (f (X3 A r i).1 left).2.1)) : ∀ (m i : Nat) (left : Int) (acc : List Tr), i + m = n → 0 ≤ left ∧ left ≤ 65536 →
  ∃ z, Qk step ((i : Int), left) = some z ∧ ((Yh f (X3 A r) m i left acc).2.2 = 0 → z = .inr (Yh f (X3 A r) m i left acc).2.1) ∧ ((Yh f (X3 A r) m i left acc).2.2 ≠ 0 → ∃ x, z = .inl ((Yh f (X3 A r) m i left acc).2.2, x))
 | 0, i, left, acc, hi, hl => by
  have : i = n := by omega
  subst this
  exact ⟨_, Zaq (he left), fun _ => rfl, fun h => absurd rfl h⟩
 | m + 1, i, left, acc, hi, hl => by
  have hst := hs i left (by omega)
  rw [Ztm hw hr, Option.bind_some] at hst
  rw [Yh]
  by_cases h1 : (X3 A r i).2 ≠ 0
  ·rw [if_pos h1]
   rw [show ((X3 A r i).2 != 0) = true from bne_iff_ne.2 h1, cond_true] at hst
   exact ⟨_, Zaq hst, fun h => absurd h h1, fun _ => ⟨_, rfl⟩⟩
  rw [if_neg h1]
  have h1' : (X3 A r i).2 = 0 := by omega
  rw [show ((X3 A r i).2 != 0) = false from by rw [h1']; rfl, cond_false] at hst
  obtain ⟨e, l', q1, q2, q3⟩ := hF i left (by omega) h1' hl
  rw [q1, Option.bind_some] at hst
  simp only at hst
  by_cases h2 : (f (X3 A r i).1 left).2.2 ≠ 0
  ·rw [if_pos h2]
   rw [q2, show ((f (X3 A r i).1 left).2.2 != 0) = true from bne_iff_ne.2 h2, cond_true] at hst
   exact ⟨_, Zaq hst, fun h => absurd h h2, fun _ => ⟨_, rfl⟩⟩
  rw [if_neg h2]
  have h2' : (f (X3 A r i).1 left).2.2 = 0 := by omega
  have e0 : e = 0 := q2.trans h2'
  have hl' := q3 e0
  have hb := hf _ left (Zf4 hr i) hl.1 h2'
  rw [e0, show ((0 : Int) != 0) = false from rfl, cond_false, Q2 (by omega) (by omega), hl'] at hst
  rw [Zg0 (s' := (((i + 1 : Nat) : Int), (f (X3 A r i).1 left).2.1)) hst]
  exact Zjd hw hr n hn hs he hf hF m (i + 1) _ _ (by omega) ⟨hb.1, by omega⟩
def CK (A : Zg) (F : Zd → Zc → Int → Option (Int × Zd)) (f : Zc → Int → Tr × Int × Int) (d : Int) (r : Zc) (left : Int) : Prop := ∃ e l', F ⟨left⟩ r d = some (e, ⟨l'⟩) ∧ e = (f r left).2.2 ∧ (e = 0 → l' = (f r left).2.1)
theorem Znm {r : Zc} (h : OKr A r) : 0 ≤ Z0 r ∧ Z0 r ≤ 1073741824 := by
 cases h with
 | z => simp [Z0, r0]
 | st s a d p hd hp hin => simp only [Z0, if_true]; omega
 | li k s a n hk hn hin => simp only [Z0]; rw [if_neg (by omega)]; omega
 | co s a d p n hd hp hn hwx hin => simp only [Z0]; rw [if_neg (by omega)]; omega
 | at_ s a c i n hc h0 h1 hn hin => simp [Z0]
theorem Zra (hw : WS A.segments) {f1 f2 f3 : Zd → Zc → Int → Option (Int × Zd)} {f : Zc → Int → Tr × Int × Int} (hf : Lf A f) {r : Zc} (hr : OKr A r) {d left : Int} (hl : 0 ≤ left ∧ left ≤ 65536)
  (hF : ∀ (i : Nat) (l : Int), i < (Z0 r).toNat → (X3 A r i).2 = 0 → 0 ≤ l ∧ l ≤ 65536 → CK A f1 f d (X3 A r i).1 l) :
  ∃ e l', Yx f1 f2 f3 ⟨left⟩ r d = some (e, ⟨l'⟩) ∧ e = (Yh f (X3 A r) (Z0 r).toNat 0 left []).2.2 ∧ (e = 0 → l' = (Yh f (X3 A r) (Z0 r).toNat 0 left []).2.1) := by
 have hk := Znm hr
 unfold Yx
 rw [Zdm, Option.bind_some]
 have hN : Z0 r = (((Z0 r).toNat : Nat) : Int) := by omega
 obtain ⟨z, z1, z2, z3⟩ := Zjd (step := Yy f1 r d (Z0 r)) (F := fun c k => f1 c k d) (f := f) hw hr (Z0 r).toNat (by omega) (fun i l hi => by
  unfold Yy
  simp only
  rw [show decide ((i : Int) < Z0 r) = true from by rw [decide_eq_true_eq]; omega, cond_true]) (fun l => by
  unfold Yy
  simp only
  rw [show decide ((((Z0 r).toNat : Nat) : Int) < Z0 r) = false from by rw [decide_eq_false_iff_not]; omega, cond_false]) hf hF (Z0 r).toNat 0 left [] (by omega) hl
 rw [show (((0 : Nat) : Int)) = 0 from rfl] at z1
 rw [z1, Option.bind_some]
 by_cases hq : (Yh f (X3 A r) (Z0 r).toNat 0 left []).2.2 = 0
 ·rw [z2 hq]
  exact ⟨_, _, rfl, hq.symm, fun _ => rfl⟩
 obtain ⟨x, hx⟩ := z3 hq
 rw [hx]
 exact ⟨_, _, rfl, rfl, fun h => absurd h hq⟩
theorem Zm2 (hw : WS A.segments) {f1 f2 f3 : Zd → Zc → Int → Option (Int × Zd)} {f : Zc → Int → Tr × Int × Int} (hf : Lf A f) {r : Zc} (hr : OKr A r) {d left : Int} (hd : 0 ≤ d ∧ d ≤ 1000) (hl : 0 ≤ left ∧ left ≤ 65536)
  (hF : ∀ (i : Nat) (l : Int), i < (Z0 r).toNat → (X3 A r i).2 = 0 → 0 ≤ l ∧ l ≤ 65536 → CK A f2 f (d - 1) (X3 A r i).1 l) :
  ∃ e l', Yl f1 f2 f3 ⟨left⟩ r d = some (e, ⟨l'⟩) ∧ e = (Yh f (X3 A r) (Z0 r).toNat 0 left []).2.2 ∧ (e = 0 → l' = (Yh f (X3 A r) (Z0 r).toNat 0 left []).2.1) := by
 have hk := Znm hr
 unfold Yl
 rw [Zdm, Option.bind_some]
 obtain ⟨z, z1, z2, z3⟩ := Zjd (step := Ym f2 r d (Z0 r)) (F := fun c k => f2 c k (d - 1)) (f := f) hw hr (Z0 r).toNat (by omega) (fun i l hi => by
  unfold Ym
  simp only
  rw [show decide ((i : Int) < Z0 r) = true from by rw [decide_eq_true_eq]; omega, cond_true, Q2 (x := d - 1) (by omega) (by omega)]) (fun l => by
  unfold Ym
  simp only
  rw [show decide ((((Z0 r).toNat : Nat) : Int) < Z0 r) = false from by rw [decide_eq_false_iff_not]; omega, cond_false]) hf hF (Z0 r).toNat 0 left [] (by omega) hl
 rw [show (((0 : Nat) : Int)) = 0 from rfl] at z1
 rw [z1, Option.bind_some]
 by_cases hq : (Yh f (X3 A r) (Z0 r).toNat 0 left []).2.2 = 0
 ·rw [z2 hq]
  exact ⟨_, _, rfl, hq.symm, fun _ => rfl⟩
 obtain ⟨x, hx⟩ := z3 hq
 rw [hx]
 exact ⟨_, _, rfl, rfl, fun h => absurd h hq⟩
theorem Zng {g : Int → Zc × Int} (n : Nat) (hg : ∀ i : Nat, i < n → (g i).2 = 0) : ∀ (m i : Nat) (left : Int) (acc : List Tr), i + m = n → (Yh (Zln A) g m i left acc).2 = (left, 0)
 | 0, i, left, acc, _ => rfl
 | m + 1, i, left, acc, h => by
  rw [Yh, if_neg (by rw [hg i (by omega)]; simp), if_neg (by simp [Zln])]
  exact Zng n hg m (i + 1) left _ (by omega)
theorem Zrl {r : Zc} (hk : 2 ≤ r.kind ∧ r.kind ≤ 7) (i : Int) : (X3 A r i).2 = 0 := by
 unfold X3
 split
 ·rfl
 rw [if_neg (by omega), if_neg (by omega), if_neg (by omega)]
theorem Znl {r : Zc} (hk : r.kind = 9) {i : Int} (h : 0 ≤ i ∧ i < Z0 r) : (X3 A r i).1.kind = 1 := by
 unfold X3
 rw [if_neg (by omega), if_neg (by omega), if_neg (by omega), if_pos hk]
theorem Zqf (hw : WS A.segments) {f1 f2 f3 : Zd → Zc → Int → Option (Int × Zd)} {g1 g2 : Zc → Int → Tr × Int × Int} {r : Zc} (hr : OKr A r) {d left : Int} (hd : 0 ≤ d ∧ d ≤ 1000) (hl : 0 ≤ left ∧ left ≤ 65536)
  (hK : (r.kind = 1 ∨ r.kind = 8) → 1 ≤ d → ∀ l, 0 ≤ l ∧ l ≤ 65536 → ∃ e l', f2 ⟨l⟩ r (d - 1) = some (e, ⟨l'⟩) ∧ e = (Yh g1 (X3 A r) (Z0 r).toNat 0 l []).2.2 ∧ (e = 0 → l' = (Yh g1 (X3 A r) (Z0 r).toNat 0 l []).2.1))
  (hS : r.kind = 9 → 1 ≤ d → (0 < r.count → 2 ≤ d) → ∀ l, 0 ≤ l ∧ l ≤ 65536 → ∃ e l', f3 ⟨l⟩ r (d - 1) = some (e, ⟨l'⟩) ∧ e = (Yh (stK A g2) (X3 A r) (Z0 r).toNat 0 l []).2.2 ∧ (e = 0 → l' = (Yh (stK A g2) (X3 A r) (Z0 r).toNat 0 l []).2.1)) :
  ∃ e l', Yt f1 f2 f3 ⟨left⟩ r d = some (e, ⟨l'⟩) ∧ e = (Zan A g1 g2 d r left).2.2 ∧ (e = 0 → l' = (Zan A g1 g2 d r left).2.1) := by
 have hwt := Ztd hw hr
 have hkd := Zt5 hr
 have hkk : Yk r = some r.kind := rfl
 unfold Yt Zan
 rw [Zqr, Zq0 hw hr, hkk]
 have hz : (cond (decide (d < lvR r)) (some true) ((some (wtR r)).bind fun y7 => some (cond (decide (d < lvR r)) true (decide (left < y7))))) = some (decide (d < lvR r ∨ left < wtR r)) := by
  by_cases h0 : d < lvR r
  ·rw [decide_eq_true h0, cond_true, show decide (d < lvR r ∨ left < wtR r) = true from decide_eq_true (.inl h0)]
  rw [decide_eq_false h0, cond_false, Option.bind_some, cond_false]
  congr 1
  rw [decide_eq_decide]
  omega
 rw [Option.bind_some, hz, Option.bind_some]
 by_cases k0 : r.kind = 0
 ·rw [if_pos k0]
  have e1 : lvR r = 0 := by unfold lvR; rw [if_pos k0]
  have e2 : wtR r = 0 := by unfold wtR; rw [if_pos k0]
  rw [e1, e2, show decide (d < 0 ∨ left < 0) = false from by rw [decide_eq_false_iff_not]; omega, cond_false, Option.bind_some, Option.bind_some, k0]
  refine ⟨0, left, ?_, rfl, fun _ => rfl⟩
  show some ((0 : Int), (⟨IntKind.i64.wrap (left - 0)⟩ : Zd)) = _
  rw [Q2 (by omega) (by omega), Int.sub_zero]
 rw [if_neg k0]
 by_cases hb : d < lvR r ∨ left < wtR r
 ·rw [if_pos hb, decide_eq_true hb, cond_true]
  exact ⟨_, _, rfl, rfl, fun h => by simp at h⟩
 rw [if_neg hb, decide_eq_false hb, cond_false, Option.bind_some, Option.bind_some, Q2 (x := left - wtR r) (by omega) (by omega), Q2 (x := d - 1) (by omega) (by omega)]
 have hlv : 1 ≤ d := by
  have : 1 ≤ lvR r := by unfold lvR; rw [if_neg k0]; split <;> omega
  omega
 have hl' : 0 ≤ left - wtR r ∧ left - wtR r ≤ 65536 := by omega
 by_cases k18 : r.kind = 1 ∨ r.kind = 8
 ·have e1 : (cond (r.kind == 1) (some (r.kind == 1)) (some (r.kind == 8))) = some true := by
   rcases k18 with k | k <;> rw [k] <;> rfl
  have hkf : Zf3 A g1 g2 r = g1 := by unfold Zf3; rw [if_neg (by omega), if_pos k18]
  rw [e1, Option.bind_some, cond_true, hkf]
  obtain ⟨e, l', q1, q2, q3⟩ := hK k18 hlv _ hl'
  rw [q1]
  exact ⟨e, l', rfl, q2, q3⟩
 have e1 : (cond (r.kind == 1) (some (r.kind == 1)) (some (r.kind == 8))) = some false := by
  rw [show (r.kind == 1) = false from Gc (by omega), show (r.kind == 8) = false from Gc (by omega)]; rfl
 rw [e1, Option.bind_some, cond_false]
 by_cases k9 : r.kind = 9
 ·have hkf : Zf3 A g1 g2 r = stK A g2 := by unfold Zf3; rw [if_pos k9]
  have hc : 0 < r.count → 2 ≤ d := fun hc => by
   have : lvR r = 2 := by unfold lvR; rw [if_neg k0, if_pos ⟨k9, hc⟩]
   omega
  rw [show (r.kind == 9) = true from by rw [k9]; rfl, cond_true, hkf]
  obtain ⟨e, l', q1, q2, q3⟩ := hS k9 hlv hc _ hl'
  rw [q1]
  exact ⟨e, l', rfl, q2, q3⟩
 have hkf : Zf3 A g1 g2 r = Zln A := by unfold Zf3; rw [if_neg k9, if_neg k18]
 rw [show (r.kind == 9) = false from Gc k9, cond_false, hkf]
 have hgo : (Yh (Zln A) (X3 A r) (Z0 r).toNat 0 (left - wtR r) []).2 = (left - wtR r, 0) := by
  by_cases k10 : r.kind = 10
  ·have : Z0 r = 0 := by
    cases hr with
    | at_ s a c i n hc h0 h1 hn hin => simp [Z0]
    | z => simp [r0] at k10
    | st => simp at k10
    | li k s a n hk => simp only at k10; omega
    | co => simp at k10
   rw [this]; rfl
  exact Zng (Z0 r).toNat (fun i _ => Zrl (by omega) i) _ 0 _ _ (by omega)
 refine ⟨0, left - wtR r, rfl, ?_, fun _ => ?_⟩
 ·simp only; rw [hgo]
 simp only; rw [hgo]
theorem Zrb (hw : WS A.segments) : ∀ (K : Nat), (∀ (d : Nat) r left, d ≤ 1000 → OKr A r → 0 ≤ left ∧ left ≤ 65536 → 2 * d + 1 ≤ K → CK A (Zh K).1 (Zav A d) d r left) ∧
  (∀ (d : Nat) r left, d ≤ 1000 → OKr A r → 0 ≤ left ∧ left ≤ 65536 → 2 * d + 2 ≤ K → ∃ e l', (Zh K).2.1 ⟨left⟩ r d = some (e, ⟨l'⟩) ∧ e = (Yh (Zav A d) (X3 A r) (Z0 r).toNat 0 left []).2.2 ∧ (e = 0 → l' = (Yh (Zav A d) (X3 A r) (Z0 r).toNat 0 left []).2.1)) ∧
  (∀ (d : Nat) r left, d ≤ 1000 → OKr A r → r.kind = 9 → 0 ≤ left ∧ left ≤ 65536 → (0 < r.count → 1 ≤ d) → 2 * d + 2 ≤ K → ∃ e l', (Zh K).2.2 ⟨left⟩ r d = some (e, ⟨l'⟩) ∧ e = (Yh (stK A (Ki A 1 d)) (X3 A r) (Z0 r).toNat 0 left []).2.2 ∧ (e = 0 → l' = (Yh (stK A (Ki A 1 d)) (X3 A r) (Z0 r).toNat 0 left []).2.1))
 | 0 => ⟨fun d r left _ _ _ h => by omega, fun d r left _ _ _ h => by omega, fun d r left _ _ _ _ _ h => by omega⟩
 | K + 1 => by
  obtain ⟨i1, i2, i3⟩ := Zrb hw K
  refine ⟨fun d r left hd hr hl hK => ?_, fun d r left hd hr hl hK => ?_, fun d r left hd hr k9 hl hc hK => ?_⟩
  ·show ∃ e l', Yt (Zh K).1 (Zh K).2.1 (Zh K).2.2 ⟨left⟩ r d = some (e, ⟨l'⟩) ∧ _
   rw [Zgd]
   refine Zqf hw hr (by omega) hl (fun k18 h1 l hl => ?_) (fun k9 h1 hc l hl => ?_)
   ·have := i2 (d - 1) r l (by omega) hr hl (by omega)
    rw [show (((d - 1 : Nat) : Int)) = (d : Int) - 1 by omega] at this
    unfold Ki
    rw [if_pos (by omega)]
    exact this
   have := i3 (d - 1) r l (by omega) hr k9 hl (fun h => by have := hc h; omega) (by omega)
   rw [show (((d - 1 : Nat) : Int)) = (d : Int) - 1 by omega] at this
   have e : Ki A 1 (d - 1) = Ki A 2 d := by
    unfold Ki
    by_cases h2 : 2 ≤ d
    ·rw [if_pos (by omega), if_pos h2, show d - 1 - 1 = d - 2 by omega]
    rw [if_neg (by omega), if_neg h2]
   rw [e] at this
   exact this
  ·show ∃ e l', Yx (Zh K).1 (Zh K).2.1 (Zh K).2.2 ⟨left⟩ r d = some (e, ⟨l'⟩) ∧ _
   exact Zra hw (Zmn hw d) hr hl fun i l hi _ hl => i1 d _ l hd (Zf4 hr i) hl (by omega)
  show ∃ e l', Yl (Zh K).1 (Zh K).2.1 (Zh K).2.2 ⟨left⟩ r d = some (e, ⟨l'⟩) ∧ _
  have hlf : Lf A (Ki A 1 d) := by
   unfold Ki
   split
   ·exact Zmn hw _
   exact Zpk
  refine Zm2 hw (Zrp hlf) hr (by omega) hl fun i l hi _ hl => ?_
  have hkn : Z0 r = r.count := by unfold Z0; rw [if_neg (by omega)]
  have hd1 : 1 ≤ d := hc (by omega)
  have h := i2 (d - 1) (X3 A r i).1 l (by omega) (Zf4 hr i) hl (by omega)
  rw [show (((d - 1 : Nat) : Int)) = (d : Int) - 1 by omega] at h
  have hk1 := Znl (A := A) k9 (i := (i : Int)) (by omega)
  have hkk : Z0 (X3 A r i).1 = (X3 A r i).1.ptrs := by unfold Z0; rw [if_pos hk1]
  rw [hkk] at h
  have e : Ki A 1 d = Zav A (d - 1) := by unfold Ki; rw [if_pos hd1]
  rw [e]
  exact h
def LE3 {α β γ δ : Type} (f g : α → β → γ → Option δ) : Prop := ∀ x y z r, f x y z = some r → g x y z = some r
theorem Zm5 : ∀ (k : Nat), LE3 (Zh k).1 (Zh (k + 1)).1 ∧ LE3 (Zh k).2.1 (Zh (k + 1)).2.1 ∧ LE3 (Zh k).2.2 (Zh (k + 1)).2.2
 | 0 => ⟨fun x y z r h => (by cases h), fun x y z r h => (by cases h), fun x y z r h => (by cases h)⟩
 | k + 1 => by
  obtain ⟨i1, i2, i3⟩ := Zm5 k
  refine ⟨fun c r d v h => ?_, fun c r d v h => ?_, fun c r d v h => ?_⟩
  ·refine Jp (fun _ q => q) (fun z => Zb2 _ (fun _ q => q) fun _ => Jp (fun _ q => q) fun w _ => Jp (fun _ q => q) fun u _ => Jp (fun _ q => q) fun b => Zb2 _ (fun _ => Jp (fun x q => i2 _ _ _ x q) fun _ _ q => q) (Zb2 _ (fun _ => Jp (fun x q => i3 _ _ _ x q) fun _ _ q => q) fun _ q => q)) h
  ·refine Jp (fun _ q => q) (fun n _ => Jp (fun x => Zj6 fun s y q => ?_) fun _ _ q => q) h
   exact Zb2 _ (fun _ => Jp (fun _ q => q) fun u => Zb2 _ (fun _ q => q) fun _ => Jp (fun x q => i1 _ _ _ x q) fun _ _ q => q) (fun _ q => q) y q
  refine Jp (fun _ q => q) (fun n _ => Jp (fun x => Zj6 fun s y q => ?_) fun _ _ q => q) h
  exact Zb2 _ (fun _ => Jp (fun _ q => q) fun u => Zb2 _ (fun _ q => q) fun _ => Jp (fun x q => i2 _ _ _ x q) fun _ _ q => q) (fun _ q => q) y q
theorem Zqg (hw : WS A.segments) {d : Nat} (hd : d ≤ 1000) {r : Zc} (hr : OKr A r) {left : Int} (hl : 0 ≤ left ∧ left ≤ 65536) : CK A Jn (Zav A d) d r left := by
 obtain ⟨e, l', h1, h2, h3⟩ := (Zrb hw (2 * d + 1)).1 d r left hd hr hl (Nat.le_refl _)
 exact ⟨e, l', Zrs (F := fun k => (Zh k).1 ⟨left⟩ r d) (fun k x => (Zm5 k).1 _ _ _ x) h1, h2, h3⟩
def Zc0 (x m : Int) : Int := if m < (if x < 0 then 0 else x) then m else (if x < 0 then 0 else x)
def X4 (x : Zp) : Zp := ⟨Zc0 x.Depth 64, Zc0 x.Weight 65536, Zc0 x.MaxD 4096, Zc0 x.MaxOut 131072⟩
theorem Zls (x : Zp) : Jt x = some (X4 x) := rfl
theorem Zfg (x m : Int) (hm : 0 ≤ m) : 0 ≤ Zc0 x m ∧ Zc0 x m ≤ m := by unfold Zc0; repeat' split; all_goals omega
def Zh9 (A : Zg) (x : Zp) : Int × Int :=
 if (atR A 0 0).2 ≠ 0 then (0, (atR A 0 0).2)
 else
  let q := Zav A (X4 x).Depth.toNat (atR A 0 0).1 (X4 x).Weight
  if q.2.2 ≠ 0 then (0, q.2.2) else ((X4 x).Weight - q.2.1, 0)
theorem Zff (hw : WS A.segments) (x : Zp) : X6 (some A) x = some (Zh9 A x) := by
 unfold X6 Zh9
 rw [Zls, Option.bind_some, Zs6 hw, Option.bind_some]
 have hd : 0 ≤ (X4 x).Depth ∧ (X4 x).Depth ≤ 64 := Zfg _ _ (by decide)
 have hW : 0 ≤ (X4 x).Weight ∧ (X4 x).Weight ≤ 65536 := Zfg _ _ (by decide)
 by_cases h : (atR A 0 0).2 ≠ 0
 ·rw [if_pos h, show ((atR A 0 0).2 != 0) = true from bne_iff_ne.2 h, cond_true]
 rw [if_neg h, show ((atR A 0 0).2 != 0) = false from bne_eq_false_iff_eq.2 (by omega), cond_false]
 obtain ⟨e, l', h1, h2, h3⟩ := Zqg hw (d := (X4 x).Depth.toNat) (by omega) (Zl6 (A := A) 0 0) hW
 rw [show (((X4 x).Depth.toNat : Nat) : Int) = (X4 x).Depth by omega] at h1
 rw [h1, Option.bind_some]
 simp only
 rw [h2]
 by_cases hq : (Zav A (X4 x).Depth.toNat (atR A 0 0).1 (X4 x).Weight).2.2 ≠ 0
 ·rw [if_pos hq, show ((Zav A (X4 x).Depth.toNat (atR A 0 0).1 (X4 x).Weight).2.2 != 0) = true from bne_iff_ne.2 hq, cond_true]
 have h0 : (Zav A (X4 x).Depth.toNat (atR A 0 0).1 (X4 x).Weight).2.2 = 0 := by omega
 have hb := Zmn hw _ _ _ (Zl6 (A := A) 0 0) hW.1 h0
 rw [if_neg hq, show ((Zav A (X4 x).Depth.toNat (atR A 0 0).1 (X4 x).Weight).2.2 != 0) = false from bne_eq_false_iff_eq.2 h0, cond_false, h3 (by rw [h2, h0]), Q2 (by omega) (by omega)]
end
theorem Zm4 : Zh9 ⟨[[4294967296, 7]], 0, 0⟩ ⟨1, 2, 0, 0⟩ = (2, 0) := by
 unfold Zh9
 rw [Zlm]
 rfl
theorem Zm3 : Zh9 ⟨[[4294967296, 7]], 0, 0⟩ ⟨1, 1, 0, 0⟩ = (0, 3) := by
 unfold Zh9
 rw [Zlm]
 rfl
theorem Zlo : Xm = some true := by
 have hw := Zsj
 unfold Xm
 rw [Zq2 hw, Option.bind_some, Zff (A := ⟨[[4294967296, 7]], 0, 0⟩) hw, Option.bind_some, Zff (A := ⟨[[4294967296, 7]], 0, 0⟩) hw, Option.bind_some, Zm4, Zm3]
 rfl
section
variable {A : Zg}
def Mo (f g : Zc → Int → Tr × Int × Int) : Prop := ∀ k left e, 0 ≤ left → 0 ≤ e → (f k left).2.2 = 0 → (g k (left + e)).2.2 = 0 ∧ (g k (left + e)).2.1 = (f k left).2.1 + e
def NN (f : Zc → Int → Tr × Int × Int) : Prop := ∀ k left, 0 ≤ left → (f k left).2.2 = 0 → 0 ≤ (f k left).2.1
theorem Zmh {f f' : Zc → Int → Tr × Int × Int} {g : Int → Zc × Int} (h : Mo f f') (hn : NN f) : ∀ (m i : Nat) (left e : Int) (acc acc' : List Tr), 0 ≤ left → 0 ≤ e → (Yh f g m i left acc).2.2 = 0 → (Yh f' g m i (left + e) acc').2.2 = 0 ∧ (Yh f' g m i (left + e) acc').2.1 = (Yh f g m i left acc).2.1 + e
 | 0, i, left, e, acc, acc', _, _, _ => ⟨rfl, rfl⟩
 | m + 1, i, left, e, acc, acc', h0, he, hq => by
  rw [Yh] at hq
  rw [Yh, Yh]
  by_cases h1 : (g i).2 ≠ 0
  ·rw [if_pos h1] at hq; exact absurd hq h1
  rw [if_neg h1] at hq
  rw [if_neg h1, if_neg h1]
  by_cases h2 : (f (g i).1 left).2.2 ≠ 0
  ·rw [if_pos h2] at hq; exact absurd hq h2
  rw [if_neg h2] at hq
  have h2' : (f (g i).1 left).2.2 = 0 := by omega
  obtain ⟨a1, a2⟩ := h _ _ e h0 he h2'
  rw [if_neg h2, if_neg (by omega), a2]
  exact Zmh h hn m (i + 1) _ e _ _ (hn _ _ h0 h2') he hq
theorem Ztq {f f' : Zc → Int → Tr × Int × Int} (h : Mo f f') (hn : NN f) : Mo (stK A f) (stK A f') := fun k left e h0 he hq => Zmh h hn _ _ _ _ _ _ h0 he hq
theorem Zrh {f : Zc → Int → Tr × Int × Int} {g : Int → Zc × Int} (hf : NN f) : ∀ (m i : Nat) (left : Int) (acc : List Tr), 0 ≤ left → (Yh f g m i left acc).2.2 = 0 → 0 ≤ (Yh f g m i left acc).2.1
 | 0, i, left, acc, h0, _ => h0
 | m + 1, i, left, acc, h0, h => by
  rw [Yh] at h ⊢
  by_cases h1 : (g i).2 ≠ 0
  ·rw [if_pos h1] at h; exact absurd h h1
  rw [if_neg h1] at h ⊢
  by_cases h2 : (f (g i).1 left).2.2 ≠ 0
  ·rw [if_pos h2] at h; exact absurd h h2
  rw [if_neg h2] at h ⊢
  exact Zrh hf m (i + 1) _ _ (hf _ _ h0 (by omega)) h
theorem Zpz {f1 f2 : Zc → Int → Tr × Int × Int} (h1 : NN f1) (h2 : NN f2) (r : Zc) : NN (Zf3 A f1 f2 r) := by
 unfold Zf3
 split
 ·exact fun k left h0 h => Zrh h2 _ _ _ _ h0 h
 split
 ·exact h1
 exact fun k left h0 h => h0
theorem Zry {f1 f2 : Zc → Int → Tr × Int × Int} (h1 : NN f1) (h2 : NN f2) (d : Int) : NN (Zan A f1 f2 d) := fun r left h0 h => by
 unfold Zan at h ⊢
 by_cases k0 : r.kind = 0
 ·rw [if_pos k0]; exact h0
 rw [if_neg k0] at h ⊢
 by_cases hb : d < lvR r ∨ left < wtR r
 ·rw [if_pos hb] at h; simp at h
 rw [if_neg hb] at h ⊢
 exact Zrh (Zpz h1 h2 r) _ _ _ _ (by omega) h
theorem Zpl : NN bad := fun k left _ h => by simp [bad] at h
theorem Zs0 : ∀ d, NN (Zav A d) := fun d => by
 induction d using Nat.strongRecOn with
 | ind d ih =>
  rw [Zgd]
  refine Zry ?_ ?_ _
  ·unfold Ki
   split
   ·exact ih _ (by omega)
   exact Zpl
  unfold Ki
  split
  ·exact ih _ (by omega)
  exact Zpl
theorem Zsy {f1 f2 f1' f2' : Zc → Int → Tr × Int × Int} (h1 : Mo f1 f1') (n1 : NN f1) (h2 : Mo f2 f2') (n2 : NN f2) (r : Zc) : Mo (Zf3 A f1 f2 r) (Zf3 A f1' f2' r) := by
 unfold Zf3
 by_cases k9 : r.kind = 9
 ·rw [if_pos k9, if_pos k9]; exact Ztq h2 n2
 rw [if_neg k9, if_neg k9]
 by_cases k18 : r.kind = 1 ∨ r.kind = 8
 ·rw [if_pos k18, if_pos k18]; exact h1
 rw [if_neg k18, if_neg k18]; exact fun k left e _ _ _ => ⟨rfl, rfl⟩
theorem Zrw {f1 f2 f1' f2' : Zc → Int → Tr × Int × Int} (h1 : Mo f1 f1') (n1 : NN f1) (h2 : Mo f2 f2') (n2 : NN f2) {d d' : Int} (hd : d ≤ d') : Mo (Zan A f1 f2 d) (Zan A f1' f2' d') := fun r left e h0 he hq => by
 unfold Zan at hq ⊢
 by_cases k0 : r.kind = 0
 ·rw [if_pos k0, if_pos k0]; exact ⟨rfl, rfl⟩
 rw [if_neg k0] at hq
 rw [if_neg k0, if_neg k0]
 by_cases hb : d < lvR r ∨ left < wtR r
 ·rw [if_pos hb] at hq; simp at hq
 rw [if_neg hb] at hq
 rw [if_neg hb, if_neg (by omega)]
 simp only at hq ⊢
 have := Zmh (Zsy (A := A) h1 n1 h2 n2 r) (Zpz n1 n2 r) (g := X3 A r) (Z0 r).toNat 0 (left - wtR r) e [] [] (by omega) he hq
 rw [show left - wtR r + e = left + e - wtR r by omega] at this
 exact this
theorem Ztp (g : Zc → Int → Tr × Int × Int) : Mo bad g := fun k left e _ _ h => by simp [bad] at h
theorem Zsz : ∀ (d d' : Nat), d ≤ d' → Mo (Zav A d) (Zav A d') := fun d => by
 induction d using Nat.strongRecOn with
 | ind d ih =>
  intro d' hd
  rw [Zgd d, Zgd d']
  have key : ∀ k, 1 ≤ k → Mo (Ki A k d) (Ki A k d') ∧ NN (Ki A k d) := fun k hk => by
   unfold Ki
   by_cases h : k ≤ d
   ·rw [if_pos h, if_pos (by omega)]
    exact ⟨ih (d - k) (by omega) (d' - k) (by omega), Zs0 _⟩
   rw [if_neg h]
   exact ⟨Ztp _, Zpl⟩
  exact Zrw (key 1 (by omega)).1 (key 1 (by omega)).2 (key 2 (by omega)).1 (key 2 (by omega)).2 (by omega)
end
theorem Zrr (x : Zp) : ∃ w, Qg x = some ⟨x.Depth, w, x.MaxD, x.MaxOut⟩ := by
 unfold Qg
 cases decide (3000 < x.Weight) with
 | true => exact ⟨3000, rfl⟩
 | false => exact ⟨x.Weight, rfl⟩
theorem Zoy {l : List (List Int)} (hw : WS l) (x : Zp) {a b : Int} (ha : 0 ≤ a ∧ a < 256) (hb : 0 ≤ b ∧ b < 256) : X5 l x a b = some true := by
 obtain ⟨w, hx⟩ := Zrr x
 unfold X5
 rw [hx, Option.bind_some]
 generalize (⟨x.Depth, w, x.MaxD, x.MaxOut⟩ : Zp) = y
 have hd : 0 ≤ (X4 y).Depth ∧ (X4 y).Depth ≤ 64 := Zfg _ _ (by decide)
 have hW : 0 ≤ (X4 y).Weight ∧ (X4 y).Weight ≤ 65536 := Zfg _ _ (by decide)
 rw [Zq2 hw, Option.bind_some, Zff (A := ⟨l, 0, 0⟩) hw, Option.bind_some, Zls, Option.bind_some, Option.bind_some]
 rw [Q2 (x := a) (by omega) (by omega), Q2 (x := b) (by omega) (by omega), Q2 (x := (X4 y).Depth + a) (by omega) (by omega), Q2 (x := (X4 y).Weight + b) (by omega) (by omega), Zff (A := ⟨l, 0, 0⟩) hw, Option.bind_some]
 generalize hy' : (⟨(X4 y).Depth + a, (X4 y).Weight + b, (X4 y).MaxD, (X4 y).MaxOut⟩ : Zp) = y'
 have hd' : (X4 y).Depth ≤ (X4 y').Depth := by
  rw [← hy']
  show (X4 y).Depth ≤ Zc0 ((X4 y).Depth + a) 64
  unfold Zc0; repeat' split
  all_goals omega
 have hw' : (X4 y).Weight ≤ (X4 y').Weight := by
  rw [← hy']
  show (X4 y).Weight ≤ Zc0 ((X4 y).Weight + b) 65536
  unfold Zc0; repeat' split
  all_goals omega
 have hmain : (Zh9 ⟨l, 0, 0⟩ y).2 ≠ 0 ∨ ((Zh9 ⟨l, 0, 0⟩ y').2 = 0 ∧ (Zh9 ⟨l, 0, 0⟩ y).1 = (Zh9 ⟨l, 0, 0⟩ y').1) := by
  unfold Zh9
  by_cases h : (atR ⟨l, 0, 0⟩ 0 0).2 ≠ 0
  ·rw [if_pos h]; exact .inl h
  rw [if_neg h, if_neg h]
  simp only
  by_cases hq : (Zav ⟨l, 0, 0⟩ (X4 y).Depth.toNat (atR ⟨l, 0, 0⟩ 0 0).1 (X4 y).Weight).2.2 ≠ 0
  ·rw [if_pos hq]; exact .inl hq
  rw [if_neg hq]
  have hq' : (Zav ⟨l, 0, 0⟩ (X4 y).Depth.toNat (atR ⟨l, 0, 0⟩ 0 0).1 (X4 y).Weight).2.2 = 0 := by omega
  obtain ⟨m1, m2⟩ := Zsz (A := ⟨l, 0, 0⟩) (X4 y).Depth.toNat (X4 y').Depth.toNat (by omega) _ _ ((X4 y').Weight - (X4 y).Weight) hW.1 (by omega) hq'
  rw [show (X4 y).Weight + ((X4 y').Weight - (X4 y).Weight) = (X4 y').Weight by omega] at m1 m2
  rw [if_neg (by omega), m2]
  exact .inr ⟨rfl, by simp only; omega⟩
 rcases hmain with h | ⟨h1, h2⟩
 ·rw [show ((Zh9 ⟨l, 0, 0⟩ y).2 != 0) = true from bne_iff_ne.2 h, cond_true, Zlo]
  rfl
 rw [Zlo, h1, h2]
 cases ((Zh9 ⟨l, 0, 0⟩ y).2 != 0) <;> simp
end Go.Proofs.Ytmlhokaflhlhbaa
