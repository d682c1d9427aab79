/- Plain facts on this seat's mirrors (part VP4); each theorem bears its own conditions. -/
import Derived.Test.YtmlhokaflhlhbaaVP1
import Derived.IntWalk
namespace Go.Proofs.Ytmlhokaflhlhbaa
open Go.RowKit
set_option linter.unusedVariables false
set_option linter.unusedSimpArgs false
abbrev Tr := Yv
def lvR (r : Zd) : Int := if r.kind = 0 then 0 else if r.kind = 9 ∧ 0 < r.count then 2 else 1
def wtR (r : Zd) : Int := if r.kind = 0 then 0 else if r.kind = 1 then 1 + r.words + r.ptrs else if r.kind = 9 then 1 + r.count * (1 + r.words + r.ptrs) else 1 + r.count
theorem Zqk (r : Zd) : Jv r = some (lvR r) := by
 have hk : Yk r = some r.kind := rfl
 unfold Jv lvR
 rw [hk, Zdm, Option.bind_some]
 by_cases h0 : r.kind = 0
 ·rw [show (r.kind == 0) = true from by rw [h0]; rfl, if_pos h0]; rfl
 rw [show (r.kind == 0) = false from Ge h0, if_neg h0, cond_false, Option.bind_some]
 by_cases h9 : r.kind = 9
 ·have hkn : Z0 r = r.count := by unfold Z0; rw [if_neg (by omega)]
  rw [show (r.kind == 9) = true from by rw [h9]; rfl, cond_true, Option.bind_some, Option.bind_some, cond_true, hkn]
  by_cases hc : 0 < r.count
  ·rw [if_pos ⟨h9, hc⟩, decide_eq_true hc]; rfl
  rw [if_neg (fun q => hc q.2), decide_eq_false hc]; rfl
 rw [show (r.kind == 9) = false from Ge h9, if_neg (fun q => h9 q.1)]; rfl
section
variable {A : Zg}
theorem Zsz (hw : WS A.segments) {r : Zd} (h : OKr A r) : 0 ≤ wtR r ∧ wtR r ≤ 4503599627370496 ∧ (r.kind ≠ 0 → 1 ≤ wtR r) := by
 cases h with
 | z => simp [wtR, r0]
 | st s a d p hd hp hin => simp [wtR]; omega
 | li k s a n hk hn hin => simp only [wtR]; rw [if_neg (by omega), if_neg (by omega), if_neg (by omega)]; omega
 | co s a d p n hd hp hn hwx hin =>
  simp only [wtR, show ¬ (9 : Int) = 0 from by decide, show ¬ (9 : Int) = 1 from by decide, if_false, if_true]
  have : n * (1 + d + p) = n + n * (d + p) := by rw [Int.add_assoc, Int.mul_add, Int.mul_one]
  omega
 | at_ s a c i n hc h0 h1 hn hin => simp [wtR]
theorem Zqt (hw : WS A.segments) {r : Zd} (h : OKr A r) : Q2 r = some (wtR r) := by
 have hk : Yk r = some r.kind := rfl
 unfold Q2 wtR
 rw [hk, Zqp, Zdm, Option.bind_some]
 cases h with
 | z => rfl
 | st s a d p hd hp hin =>
  simp only [Zpj, Z0, if_true, show ((1 : Int) == 0) = false from rfl, show ((1 : Int) == 1) = true from rfl, cond_false, cond_true, Option.bind_some, show ¬ (1 : Int) = 0 from by decide, if_false]
  rw [Jo (x := 1 + d) (by omega) (by omega), Jo (by omega) (by omega)]
 | li k s a n hk' hn hin =>
  simp only [Z0]
  rw [show (k == 0) = false from Ge (by omega), show (k == 1) = false from Ge (by omega), show (k == 9) = false from Ge (by omega), if_neg (by omega), if_neg (by omega), if_neg (by omega), if_neg (by omega), cond_false, cond_false, cond_false, Option.bind_some, Jo (by omega) (by omega)]
 | co s a d p n hd hp hn hwx hin =>
  have : n * (1 + d + p) = n + n * (d + p) := by rw [Int.add_assoc, Int.mul_add, Int.mul_one]
  unfold Jg
  simp only [Z0, show ((9 : Int) == 0) = false from rfl, show ((9 : Int) == 1) = false from rfl, show ((9 : Int) == 9) = true from rfl, show ((9 : Int) != 9) = false from rfl, cond_false, cond_true, Option.bind_some, show ¬ (9 : Int) = 0 from by decide, show ¬ (9 : Int) = 1 from by decide, if_false, if_true]
  rw [Jo (x := 1 + d) (by omega) (by omega), Jo (x := 1 + d + p) (by omega) (by omega), Jo (x := n * (1 + d + p)) (by omega) (by omega), Jo (by omega) (by omega)]
 | at_ s a c i n hc h0 h1 hn hin => rfl
def Zk0 (A : Zg) (r : Zd) : List Int := if r.kind = 10 then [Zuh A r] else if r.kind = 1 then ((seg A.segments r.segment).drop r.at_.toNat).take r.words.toNat else []
def Y5 (f : Zd → Int → Tr × Int × Int) (g : Int → Zd × Int) : Nat → Nat → Int → List Tr → List Tr × Int × Int
 | 0, _, left, acc => (acc, left, 0)
 | m + 1, i, left, acc => if (g i).2 ≠ 0 then (acc, left, (g i).2) else if (f (g i).1 left).2.2 ≠ 0 then (acc, (f (g i).1 left).2.1, (f (g i).1 left).2.2) else Y5 f g m (i + 1) (f (g i).1 left).2.1 (acc ++ [(f (g i).1 left).1])
def stK (A : Zg) (f : Zd → Int → Tr × Int × Int) (k : Zd) (left : Int) : Tr × Int × Int :=
 let q := Y5 f (X7 A k) k.ptrs.toNat 0 left []
 (⟨1, Zk0 A k, q.1⟩, q.2)
def Zlh (A : Zg) (k : Zd) (left : Int) : Tr × Int × Int := (⟨k.kind, Zk0 A k, []⟩, left, 0)
def Zme (A : Zg) (f1 f2 : Zd → Int → Tr × Int × Int) (r : Zd) : Zd → Int → Tr × Int × Int :=
 if r.kind = 9 then stK A f2 else if r.kind = 1 ∨ r.kind = 8 then f1 else Zlh A
def Zga (A : Zg) (f1 f2 : Zd → Int → Tr × Int × Int) (d : Int) (r : Zd) (left : Int) : Tr × Int × Int :=
 if r.kind = 0 then (⟨r.kind, Zk0 A r, []⟩, left, 0)
 else if d < lvR r ∨ left < wtR r then (⟨r.kind, Zk0 A r, []⟩, left, 3)
 else
  let q := Y5 (Zme A f1 f2 r) (X7 A r) (Z0 r).toNat 0 (left - wtR r) []
  (⟨r.kind, Zk0 A r, q.1⟩, q.2)
def bad (_ : Zd) (left : Int) : Tr × Int × Int := (⟨0, [], []⟩, left, 3)
def Zer (A : Zg) : Nat → Zd → Int → Tr × Int × Int
 | 0 => Zga A bad bad 0
 | 1 => Zga A (Zer A 0) bad 1
 | d + 2 => Zga A (Zer A (d + 1)) (Zer A d) ((d + 2 : Nat) : Int)
def Gj (A : Zg) (k : Nat) (d : Nat) : Zd → Int → Tr × Int × Int := if k ≤ d then Zer A (d - k) else bad
theorem Zpp (d : Nat) : Zer A d = Zga A (Gj A 1 d) (Gj A 2 d) (d : Int) := by
 match d with
 | 0 => rfl
 | 1 => rfl
 | d + 2 =>
  unfold Gj
  rw [if_pos (by omega), if_pos (by omega)]
  rfl
def Lf (A : Zg) (f : Zd → Int → Tr × Int × Int) : Prop := ∀ k left, OKr A k → 0 ≤ left → (f k left).2.2 = 0 → 0 ≤ (f k left).2.1 ∧ (f k left).2.1 ≤ left
theorem Zl8 {f : Zd → Int → Tr × Int × Int} {g : Int → Zd × Int} (hf : Lf A f) (hg : ∀ i, OKr A (g i).1) : ∀ (m i : Nat) (left : Int) (acc : List Tr), 0 ≤ left → (Y5 f g m i left acc).2.2 = 0 → 0 ≤ (Y5 f g m i left acc).2.1 ∧ (Y5 f g m i left acc).2.1 ≤ left
 | 0, i, left, acc, h0, _ => ⟨h0, Int.le_refl _⟩
 | m + 1, i, left, acc, h0, h => by
  rw [Y5] at h ⊢
  by_cases h1 : (g i).2 ≠ 0
  ·rw [if_pos h1] at h; exact absurd h h1
  rw [if_neg h1] at h ⊢
  by_cases h2 : (f (g i).1 left).2.2 ≠ 0
  ·rw [if_pos h2] at h; exact absurd h h2
  rw [if_neg h2] at h ⊢
  have h2' : (f (g i).1 left).2.2 = 0 := by omega
  obtain ⟨a1, a2⟩ := hf _ _ (hg i) h0 h2'
  obtain ⟨b1, b2⟩ := Zl8 hf hg m (i + 1) _ _ a1 h
  exact ⟨b1, by omega⟩
theorem Zpc : Lf A bad := fun k left _ _ h => by simp [bad] at h
theorem Zrg {f : Zd → Int → Tr × Int × Int} (hf : Lf A f) : Lf A (stK A f) := fun k left hk h0 h => Zl8 hf (fun i => Zf1 hk i) _ _ _ _ h0 h
theorem Zre : Lf A (Zlh A) := fun k left _ h0 _ => ⟨h0, Int.le_refl _⟩
theorem Zsl {f1 f2 : Zd → Int → Tr × Int × Int} (h1 : Lf A f1) (h2 : Lf A f2) (r : Zd) : Lf A (Zme A f1 f2 r) := by
 unfold Zme
 split
 ·exact Zrg h2
 split
 ·exact h1
 exact Zre
theorem Zrf (hw : WS A.segments) {f1 f2 : Zd → Int → Tr × Int × Int} (h1 : Lf A f1) (h2 : Lf A f2) (d : Int) : Lf A (Zga A f1 f2 d) := fun r left hr h0 h => by
 have hwt := Zsz hw hr
 unfold Zga at h ⊢
 by_cases k0 : r.kind = 0
 ·rw [if_pos k0]; exact ⟨h0, Int.le_refl _⟩
 rw [if_neg k0] at h ⊢
 by_cases hb : d < lvR r ∨ left < wtR r
 ·rw [if_pos hb] at h; simp at h
 rw [if_neg hb] at h ⊢
 have := Zl8 (Zsl h1 h2 r) (fun i => Zf1 hr i) (Z0 r).toNat 0 (left - wtR r) [] (by omega) h
 simp only
 omega
theorem Zmf (hw : WS A.segments) : ∀ d, Lf A (Zer A d) := fun d => by
 induction d using Nat.strongRecOn with
 | ind d ih =>
  rw [Zpp]
  refine Zrf hw ?_ ?_ _
  ·unfold Gj
   split
   ·exact ih _ (by omega)
   exact Zpc
  unfold Gj
  split
  ·exact ih _ (by omega)
  exact Zpc
end
theorem Znh {S R : Type} {s1 s2 : S → Option (S ⊕ R)} (h : ∀ s x, s1 s = some x → s2 s = some x) : ∀ (k : Nat) (s : S) (r : R), Kh s1 k s = some r → Kh s2 k s = some r
 | 0, s, r, q => by simp [Kh] at q
 | k + 1, s, r, q => by
  simp only [Kh] at q ⊢
  cases hs : s1 s with
  | none => rw [hs] at q; cases q
  | some x =>
   rw [hs] at q
   rw [h s x hs]
   cases x with
   | inl s' => exact Znh h k s' r q
   | inr r' => exact q
theorem Zjz {S R : Type} {s1 s2 : S → Option (S ⊕ R)} (h : ∀ s x, s1 s = some x → s2 s = some x) {s : S} {r : R} (q : Qk s1 s = some r) : Qk s2 s = some r := by
 obtain ⟨k, hk⟩ := Zen q
 exact Zce (Znh h k s r hk)
theorem Jr {α β : Type} {o o' : Option α} {f f' : α → Option β} (h : ∀ x, o = some x → o' = some x) (hf : ∀ x y, f x = some y → f' x = some y) {r : β} (q : o.bind f = some r) : o'.bind f' = some r := by
 obtain ⟨x, h1, h2⟩ := Option.bind_eq_some_iff.1 q
 rw [h x h1]
 exact hf x r h2
theorem Zb3 {α : Type} (c : Bool) {a a' b b' : Option α} (h1 : ∀ r, a = some r → a' = some r) (h2 : ∀ r, b = some r → b' = some r) (r : α) (q : cond c a b = some r) : cond c a' b' = some r := by
 cases c with
 | true => exact h1 r q
 | false => exact h2 r q
theorem Zri {R : Type} {F : Nat → Option R} {r : R} (hm : ∀ k r, F k = some r → F (k + 1) = some r) {K : Nat} (h : F K = some r) : lim F = some r := by
 refine Ztb K fun k hk => ?_
 obtain ⟨d, rfl⟩ : ∃ d, k = K + d := ⟨k - K, by omega⟩
 clear hk
 induction d with
 | zero => exact h
 | succ d ih => exact hm _ _ ih
section
variable {A : Zg}
theorem Zi4 {step : Int × Int → Option ((Int × Int) ⊕ ((Int × Int) ⊕ Int))} {F : Zc → Zd → Option (Int × Zc)} {f : Zd → Int → Tr × Int × Int} {r : Zd} (hw : WS A.segments) (hr : OKr A r) (n : Nat) (hn : n ≤ 1073741824)
  (hs : ∀ (i : Nat) (left : Int), i < n → step ((i : Int), left) = (Xm r i).bind fun y4 => cond (y4.2 != 0) (some (.inr (.inl (y4.2, left)))) ((F ⟨left⟩ y4.1).bind fun y6 => cond (y6.1 != 0) (some (.inr (.inl (y6.1, y6.2.left)))) (some (.inl (IntKind.i64.wrap ((i : Int) + 1), y6.2.left)))))
  (he : ∀ left, step ((n : Int), left) = some (.inr (.inr left)))
  (hf : Lf A f)
  (hF : ∀ (i : Nat) (left : Int), i < n → (X7 A r i).2 = 0 → 0 ≤ left ∧ left ≤ 65536 → ∃ e l', F ⟨left⟩ (X7 A r i).1 = some (e, ⟨l'⟩) ∧ e = (f (X7 A r i).1 left).2.2 ∧ (e = 0 → l' = (f (X7 A r i).1 left).2.1)) : ∀ (m i : Nat) (left : Int) (acc : List Tr), i + m = n → 0 ≤ left ∧ left ≤ 65536 →
  ∃ z, Qk step ((i : Int), left) = some z ∧ ((Y5 f (X7 A r) m i left acc).2.2 = 0 → z = .inr (Y5 f (X7 A r) m i left acc).2.1) ∧ ((Y5 f (X7 A r) m i left acc).2.2 ≠ 0 → ∃ x, z = .inl ((Y5 f (X7 A r) m i left acc).2.2, x))
 | 0, i, left, acc, hi, hl => by
  have : i = n := by omega
  subst this
  exact ⟨_, Zau (he left), fun _ => rfl, fun h => absurd rfl h⟩
 | m + 1, i, left, acc, hi, hl => by
  have hst := hs i left (by omega)
  rw [Zs9 hw hr, Option.bind_some] at hst
  rw [Y5]
  by_cases h1 : (X7 A r i).2 ≠ 0
  ·rw [if_pos h1]
   rw [show ((X7 A r i).2 != 0) = true from bne_iff_ne.2 h1, cond_true] at hst
   exact ⟨_, Zau hst, fun h => absurd h h1, fun _ => ⟨_, rfl⟩⟩
  rw [if_neg h1]
  have h1' : (X7 A r i).2 = 0 := by omega
  rw [show ((X7 A r i).2 != 0) = false from by rw [h1']; rfl, cond_false] at hst
  obtain ⟨e, l', q1, q2, q3⟩ := hF i left (by omega) h1' hl
  rw [q1, Option.bind_some] at hst
  simp only at hst
  by_cases h2 : (f (X7 A r i).1 left).2.2 ≠ 0
  ·rw [if_pos h2]
   rw [q2, show ((f (X7 A r i).1 left).2.2 != 0) = true from bne_iff_ne.2 h2, cond_true] at hst
   exact ⟨_, Zau hst, fun h => absurd h h2, fun _ => ⟨_, rfl⟩⟩
  rw [if_neg h2]
  have h2' : (f (X7 A r i).1 left).2.2 = 0 := by omega
  have e0 : e = 0 := q2.trans h2'
  have hl' := q3 e0
  have hb := hf _ left (Zf1 hr i) hl.1 h2'
  rw [e0, show ((0 : Int) != 0) = false from rfl, cond_false, Jo (by omega) (by omega), hl'] at hst
  rw [Zgw (s' := (((i + 1 : Nat) : Int), (f (X7 A r i).1 left).2.1)) hst]
  exact Zi4 hw hr n hn hs he hf hF m (i + 1) _ _ (by omega) ⟨hb.1, by omega⟩
def CK (A : Zg) (F : Zc → Zd → Int → Option (Int × Zc)) (f : Zd → Int → Tr × Int × Int) (d : Int) (r : Zd) (left : Int) : Prop := ∃ e l', F ⟨left⟩ r d = some (e, ⟨l'⟩) ∧ e = (f r left).2.2 ∧ (e = 0 → l' = (f r left).2.1)
theorem Zne {r : Zd} (h : OKr A r) : 0 ≤ Z0 r ∧ Z0 r ≤ 1073741824 := by
 cases h with
 | z => simp [Z0, r0]
 | st s a d p hd hp hin => simp only [Z0, if_true]; omega
 | li k s a n hk hn hin => simp only [Z0]; rw [if_neg (by omega)]; omega
 | co s a d p n hd hp hn hwx hin => simp only [Z0]; rw [if_neg (by omega)]; omega
 | at_ s a c i n hc h0 h1 hn hin => simp [Z0]
theorem Zq2 (hw : WS A.segments) {f1 f2 f3 : Zc → Zd → Int → Option (Int × Zc)} {f : Zd → Int → Tr × Int × Int} (hf : Lf A f) {r : Zd} (hr : OKr A r) {d left : Int} (hl : 0 ≤ left ∧ left ≤ 65536)
  (hF : ∀ (i : Nat) (l : Int), i < (Z0 r).toNat → (X7 A r i).2 = 0 → 0 ≤ l ∧ l ≤ 65536 → CK A f1 f d (X7 A r i).1 l) :
  ∃ e l', Yy f1 f2 f3 ⟨left⟩ r d = some (e, ⟨l'⟩) ∧ e = (Y5 f (X7 A r) (Z0 r).toNat 0 left []).2.2 ∧ (e = 0 → l' = (Y5 f (X7 A r) (Z0 r).toNat 0 left []).2.1) := by
 have hk := Zne hr
 unfold Yy
 rw [Zdm, Option.bind_some]
 have hN : Z0 r = (((Z0 r).toNat : Nat) : Int) := by omega
 obtain ⟨z, z1, z2, z3⟩ := Zi4 (step := Yz f1 r d (Z0 r)) (F := fun c k => f1 c k d) (f := f) hw hr (Z0 r).toNat (by omega) (fun i l hi => by
  unfold Yz
  simp only
  rw [show decide ((i : Int) < Z0 r) = true from by rw [decide_eq_true_eq]; omega, cond_true]) (fun l => by
  unfold Yz
  simp only
  rw [show decide ((((Z0 r).toNat : Nat) : Int) < Z0 r) = false from by rw [decide_eq_false_iff_not]; omega, cond_false]) hf hF (Z0 r).toNat 0 left [] (by omega) hl
 rw [show (((0 : Nat) : Int)) = 0 from rfl] at z1
 rw [z1, Option.bind_some]
 by_cases hq : (Y5 f (X7 A r) (Z0 r).toNat 0 left []).2.2 = 0
 ·rw [z2 hq]
  exact ⟨_, _, rfl, hq.symm, fun _ => rfl⟩
 obtain ⟨x, hx⟩ := z3 hq
 rw [hx]
 exact ⟨_, _, rfl, rfl, fun h => absurd h hq⟩
theorem Zmt (hw : WS A.segments) {f1 f2 f3 : Zc → Zd → Int → Option (Int × Zc)} {f : Zd → Int → Tr × Int × Int} (hf : Lf A f) {r : Zd} (hr : OKr A r) {d left : Int} (hd : 0 ≤ d ∧ d ≤ 1000) (hl : 0 ≤ left ∧ left ≤ 65536)
  (hF : ∀ (i : Nat) (l : Int), i < (Z0 r).toNat → (X7 A r i).2 = 0 → 0 ≤ l ∧ l ≤ 65536 → CK A f2 f (d - 1) (X7 A r i).1 l) :
  ∃ e l', Yl f1 f2 f3 ⟨left⟩ r d = some (e, ⟨l'⟩) ∧ e = (Y5 f (X7 A r) (Z0 r).toNat 0 left []).2.2 ∧ (e = 0 → l' = (Y5 f (X7 A r) (Z0 r).toNat 0 left []).2.1) := by
 have hk := Zne hr
 unfold Yl
 rw [Zdm, Option.bind_some]
 obtain ⟨z, z1, z2, z3⟩ := Zi4 (step := Ym f2 r d (Z0 r)) (F := fun c k => f2 c k (d - 1)) (f := f) hw hr (Z0 r).toNat (by omega) (fun i l hi => by
  unfold Ym
  simp only
  rw [show decide ((i : Int) < Z0 r) = true from by rw [decide_eq_true_eq]; omega, cond_true, Jo (x := d - 1) (by omega) (by omega)]) (fun l => by
  unfold Ym
  simp only
  rw [show decide ((((Z0 r).toNat : Nat) : Int) < Z0 r) = false from by rw [decide_eq_false_iff_not]; omega, cond_false]) hf hF (Z0 r).toNat 0 left [] (by omega) hl
 rw [show (((0 : Nat) : Int)) = 0 from rfl] at z1
 rw [z1, Option.bind_some]
 by_cases hq : (Y5 f (X7 A r) (Z0 r).toNat 0 left []).2.2 = 0
 ·rw [z2 hq]
  exact ⟨_, _, rfl, hq.symm, fun _ => rfl⟩
 obtain ⟨x, hx⟩ := z3 hq
 rw [hx]
 exact ⟨_, _, rfl, rfl, fun h => absurd h hq⟩
theorem Zm8 {g : Int → Zd × Int} (n : Nat) (hg : ∀ i : Nat, i < n → (g i).2 = 0) : ∀ (m i : Nat) (left : Int) (acc : List Tr), i + m = n → (Y5 (Zlh A) g m i left acc).2 = (left, 0)
 | 0, i, left, acc, _ => rfl
 | m + 1, i, left, acc, h => by
  rw [Y5, if_neg (by rw [hg i (by omega)]; simp), if_neg (by simp [Zlh])]
  exact Zm8 n hg m (i + 1) left _ (by omega)
theorem Zrc {r : Zd} (hk : 2 ≤ r.kind ∧ r.kind ≤ 7) (i : Int) : (X7 A r i).2 = 0 := by
 unfold X7
 split
 ·rfl
 rw [if_neg (by omega), if_neg (by omega), if_neg (by omega)]
theorem Znd {r : Zd} (hk : r.kind = 9) {i : Int} (h : 0 ≤ i ∧ i < Z0 r) : (X7 A r i).1.kind = 1 := by
 unfold X7
 rw [if_neg (by omega), if_neg (by omega), if_neg (by omega), if_pos hk]
theorem Zp6 (hw : WS A.segments) {f1 f2 f3 : Zc → Zd → Int → Option (Int × Zc)} {g1 g2 : Zd → Int → Tr × Int × Int} {r : Zd} (hr : OKr A r) {d left : Int} (hd : 0 ≤ d ∧ d ≤ 1000) (hl : 0 ≤ left ∧ left ≤ 65536)
  (hK : (r.kind = 1 ∨ r.kind = 8) → 1 ≤ d → ∀ l, 0 ≤ l ∧ l ≤ 65536 → ∃ e l', f2 ⟨l⟩ r (d - 1) = some (e, ⟨l'⟩) ∧ e = (Y5 g1 (X7 A r) (Z0 r).toNat 0 l []).2.2 ∧ (e = 0 → l' = (Y5 g1 (X7 A r) (Z0 r).toNat 0 l []).2.1))
  (hS : r.kind = 9 → 1 ≤ d → (0 < r.count → 2 ≤ d) → ∀ l, 0 ≤ l ∧ l ≤ 65536 → ∃ e l', f3 ⟨l⟩ r (d - 1) = some (e, ⟨l'⟩) ∧ e = (Y5 (stK A g2) (X7 A r) (Z0 r).toNat 0 l []).2.2 ∧ (e = 0 → l' = (Y5 (stK A g2) (X7 A r) (Z0 r).toNat 0 l []).2.1)) :
  ∃ e l', Yu f1 f2 f3 ⟨left⟩ r d = some (e, ⟨l'⟩) ∧ e = (Zga A g1 g2 d r left).2.2 ∧ (e = 0 → l' = (Zga A g1 g2 d r left).2.1) := by
 have hwt := Zsz hw hr
 have hkd := Ztq hr
 have hkk : Yk r = some r.kind := rfl
 unfold Yu Zga
 rw [Zqk, Zqt hw hr, hkk]
 have hz : (cond (decide (d < lvR r)) (some true) ((some (wtR r)).bind fun y7 => some (cond (decide (d < lvR r)) true (decide (left < y7))))) = some (decide (d < lvR r ∨ left < wtR r)) := by
  by_cases h0 : d < lvR r
  ·rw [decide_eq_true h0, cond_true, show decide (d < lvR r ∨ left < wtR r) = true from decide_eq_true (.inl h0)]
  rw [decide_eq_false h0, cond_false, Option.bind_some, cond_false]
  congr 1
  rw [decide_eq_decide]
  omega
 rw [Option.bind_some, hz, Option.bind_some]
 by_cases k0 : r.kind = 0
 ·rw [if_pos k0]
  have e1 : lvR r = 0 := by unfold lvR; rw [if_pos k0]
  have e2 : wtR r = 0 := by unfold wtR; rw [if_pos k0]
  rw [e1, e2, show decide (d < 0 ∨ left < 0) = false from by rw [decide_eq_false_iff_not]; omega, cond_false, Option.bind_some, Option.bind_some, k0]
  refine ⟨0, left, ?_, rfl, fun _ => rfl⟩
  show some ((0 : Int), (⟨IntKind.i64.wrap (left - 0)⟩ : Zc)) = _
  rw [Jo (by omega) (by omega), Int.sub_zero]
 rw [if_neg k0]
 by_cases hb : d < lvR r ∨ left < wtR r
 ·rw [if_pos hb, decide_eq_true hb, cond_true]
  exact ⟨_, _, rfl, rfl, fun h => by simp at h⟩
 rw [if_neg hb, decide_eq_false hb, cond_false, Option.bind_some, Option.bind_some, Jo (x := left - wtR r) (by omega) (by omega), Jo (x := d - 1) (by omega) (by omega)]
 have hlv : 1 ≤ d := by
  have : 1 ≤ lvR r := by unfold lvR; rw [if_neg k0]; split <;> omega
  omega
 have hl' : 0 ≤ left - wtR r ∧ left - wtR r ≤ 65536 := by omega
 by_cases k18 : r.kind = 1 ∨ r.kind = 8
 ·have e1 : (cond (r.kind == 1) (some (r.kind == 1)) (some (r.kind == 8))) = some true := by
   rcases k18 with k | k <;> rw [k] <;> rfl
  have hkf : Zme A g1 g2 r = g1 := by unfold Zme; rw [if_neg (by omega), if_pos k18]
  rw [e1, Option.bind_some, cond_true, hkf]
  obtain ⟨e, l', q1, q2, q3⟩ := hK k18 hlv _ hl'
  rw [q1]
  exact ⟨e, l', rfl, q2, q3⟩
 have e1 : (cond (r.kind == 1) (some (r.kind == 1)) (some (r.kind == 8))) = some false := by
  rw [show (r.kind == 1) = false from Ge (by omega), show (r.kind == 8) = false from Ge (by omega)]; rfl
 rw [e1, Option.bind_some, cond_false]
 by_cases k9 : r.kind = 9
 ·have hkf : Zme A g1 g2 r = stK A g2 := by unfold Zme; rw [if_pos k9]
  have hc : 0 < r.count → 2 ≤ d := fun hc => by
   have : lvR r = 2 := by unfold lvR; rw [if_neg k0, if_pos ⟨k9, hc⟩]
   omega
  rw [show (r.kind == 9) = true from by rw [k9]; rfl, cond_true, hkf]
  obtain ⟨e, l', q1, q2, q3⟩ := hS k9 hlv hc _ hl'
  rw [q1]
  exact ⟨e, l', rfl, q2, q3⟩
 have hkf : Zme A g1 g2 r = Zlh A := by unfold Zme; rw [if_neg k9, if_neg k18]
 rw [show (r.kind == 9) = false from Ge k9, cond_false, hkf]
 have hgo : (Y5 (Zlh A) (X7 A r) (Z0 r).toNat 0 (left - wtR r) []).2 = (left - wtR r, 0) := by
  by_cases k10 : r.kind = 10
  ·have : Z0 r = 0 := by
    cases hr with
    | at_ s a c i n hc h0 h1 hn hin => simp [Z0]
    | z => simp [r0] at k10
    | st => simp at k10
    | li k s a n hk => simp only at k10; omega
    | co => simp at k10
   rw [this]; rfl
  exact Zm8 (Z0 r).toNat (fun i _ => Zrc (by omega) i) _ 0 _ _ (by omega)
 refine ⟨0, left - wtR r, rfl, ?_, fun _ => ?_⟩
 ·simp only; rw [hgo]
 simp only; rw [hgo]
theorem Zq3 (hw : WS A.segments) : ∀ (K : Nat), (∀ (d : Nat) r left, d ≤ 1000 → OKr A r → 0 ≤ left ∧ left ≤ 65536 → 2 * d + 1 ≤ K → CK A (Zh K).1 (Zer A d) d r left) ∧
  (∀ (d : Nat) r left, d ≤ 1000 → OKr A r → 0 ≤ left ∧ left ≤ 65536 → 2 * d + 2 ≤ K → ∃ e l', (Zh K).2.1 ⟨left⟩ r d = some (e, ⟨l'⟩) ∧ e = (Y5 (Zer A d) (X7 A r) (Z0 r).toNat 0 left []).2.2 ∧ (e = 0 → l' = (Y5 (Zer A d) (X7 A r) (Z0 r).toNat 0 left []).2.1)) ∧
  (∀ (d : Nat) r left, d ≤ 1000 → OKr A r → r.kind = 9 → 0 ≤ left ∧ left ≤ 65536 → (0 < r.count → 1 ≤ d) → 2 * d + 2 ≤ K → ∃ e l', (Zh K).2.2 ⟨left⟩ r d = some (e, ⟨l'⟩) ∧ e = (Y5 (stK A (Gj A 1 d)) (X7 A r) (Z0 r).toNat 0 left []).2.2 ∧ (e = 0 → l' = (Y5 (stK A (Gj A 1 d)) (X7 A r) (Z0 r).toNat 0 left []).2.1))
 | 0 => ⟨fun d r left _ _ _ h => by omega, fun d r left _ _ _ h => by omega, fun d r left _ _ _ _ _ h => by omega⟩
 | K + 1 => by
  obtain ⟨i1, i2, i3⟩ := Zq3 hw K
  refine ⟨fun d r left hd hr hl hK => ?_, fun d r left hd hr hl hK => ?_, fun d r left hd hr k9 hl hc hK => ?_⟩
  ·show ∃ e l', Yu (Zh K).1 (Zh K).2.1 (Zh K).2.2 ⟨left⟩ r d = some (e, ⟨l'⟩) ∧ _
   rw [Zpp]
   refine Zp6 hw hr (by omega) hl (fun k18 h1 l hl => ?_) (fun k9 h1 hc l hl => ?_)
   ·have := i2 (d - 1) r l (by omega) hr hl (by omega)
    rw [show (((d - 1 : Nat) : Int)) = (d : Int) - 1 by omega] at this
    unfold Gj
    rw [if_pos (by omega)]
    exact this
   have := i3 (d - 1) r l (by omega) hr k9 hl (fun h => by have := hc h; omega) (by omega)
   rw [show (((d - 1 : Nat) : Int)) = (d : Int) - 1 by omega] at this
   have e : Gj A 1 (d - 1) = Gj A 2 d := by
    unfold Gj
    by_cases h2 : 2 ≤ d
    ·rw [if_pos (by omega), if_pos h2, show d - 1 - 1 = d - 2 by omega]
    rw [if_neg (by omega), if_neg h2]
   rw [e] at this
   exact this
  ·show ∃ e l', Yy (Zh K).1 (Zh K).2.1 (Zh K).2.2 ⟨left⟩ r d = some (e, ⟨l'⟩) ∧ _
   exact Zq2 hw (Zmf hw d) hr hl fun i l hi _ hl => i1 d _ l hd (Zf1 hr i) hl (by omega)
  show ∃ e l', Yl (Zh K).1 (Zh K).2.1 (Zh K).2.2 ⟨left⟩ r d = some (e, ⟨l'⟩) ∧ _
  have hlf : Lf A (Gj A 1 d) := by
   unfold Gj
   split
   ·exact Zmf hw _
   exact Zpc
  refine Zmt hw (Zrg hlf) hr (by omega) hl fun i l hi _ hl => ?_
  have hkn : Z0 r = r.count := by unfold Z0; rw [if_neg (by omega)]
  have hd1 : 1 ≤ d := hc (by omega)
  have h := i2 (d - 1) (X7 A r i).1 l (by omega) (Zf1 hr i) hl (by omega)
  rw [show (((d - 1 : Nat) : Int)) = (d : Int) - 1 by omega] at h
  have hk1 := Znd (A := A) k9 (i := (i : Int)) (by omega)
  have hkk : Z0 (X7 A r i).1 = (X7 A r i).1.ptrs := by unfold Z0; rw [if_pos hk1]
  rw [hkk] at h
  have e : Gj A 1 d = Zer A (d - 1) := by unfold Gj; rw [if_pos hd1]
  rw [e]
  exact h
def LE3 {α β γ δ : Type} (f g : α → β → γ → Option δ) : Prop := ∀ x y z r, f x y z = some r → g x y z = some r
theorem Zmx : ∀ (k : Nat), LE3 (Zh k).1 (Zh (k + 1)).1 ∧ LE3 (Zh k).2.1 (Zh (k + 1)).2.1 ∧ LE3 (Zh k).2.2 (Zh (k + 1)).2.2
 | 0 => ⟨fun x y z r h => (by cases h), fun x y z r h => (by cases h), fun x y z r h => (by cases h)⟩
 | k + 1 => by
  obtain ⟨i1, i2, i3⟩ := Zmx k
  refine ⟨fun c r d v h => ?_, fun c r d v h => ?_, fun c r d v h => ?_⟩
  ·refine Jr (fun _ q => q) (fun z => Zb3 _ (fun _ q => q) fun _ => Jr (fun _ q => q) fun w _ => Jr (fun _ q => q) fun u _ => Jr (fun _ q => q) fun b => Zb3 _ (fun _ => Jr (fun x q => i2 _ _ _ x q) fun _ _ q => q) (Zb3 _ (fun _ => Jr (fun x q => i3 _ _ _ x q) fun _ _ q => q) fun _ q => q)) h
  ·refine Jr (fun _ q => q) (fun n _ => Jr (fun x => Zjz fun s y q => ?_) fun _ _ q => q) h
   exact Zb3 _ (fun _ => Jr (fun _ q => q) fun u => Zb3 _ (fun _ q => q) fun _ => Jr (fun x q => i1 _ _ _ x q) fun _ _ q => q) (fun _ q => q) y q
  refine Jr (fun _ q => q) (fun n _ => Jr (fun x => Zjz fun s y q => ?_) fun _ _ q => q) h
  exact Zb3 _ (fun _ => Jr (fun _ q => q) fun u => Zb3 _ (fun _ q => q) fun _ => Jr (fun x q => i2 _ _ _ x q) fun _ _ q => q) (fun _ q => q) y q
theorem Zp8 (hw : WS A.segments) {d : Nat} (hd : d ≤ 1000) {r : Zd} (hr : OKr A r) {left : Int} (hl : 0 ≤ left ∧ left ≤ 65536) : CK A Jp (Zer A d) d r left := by
 obtain ⟨e, l', h1, h2, h3⟩ := (Zq3 hw (2 * d + 1)).1 d r left hd hr hl (Nat.le_refl _)
 exact ⟨e, l', Zri (F := fun k => (Zh k).1 ⟨left⟩ r d) (fun k x => (Zmx k).1 _ _ _ x) h1, h2, h3⟩
def Zam (x m : Int) : Int := if m < (if x < 0 then 0 else x) then m else (if x < 0 then 0 else x)
def Uq (x : Zp) : Zp := ⟨Zam x.Depth 64, Zam x.Weight 65536, Zam x.MaxD 4096, Zam x.MaxOut 131072⟩
theorem Zia (x : Zp) : Xr x = some (Uq x) := rfl
theorem Zi5 (x m : Int) (hm : 0 ≤ m) : 0 ≤ Zam x m ∧ Zam x m ≤ m := by unfold Zam; repeat' split; all_goals omega
def Zp9 (A : Zg) (x : Zp) : Int × Int :=
 if (atR A 0 0).2 ≠ 0 then (0, (atR A 0 0).2)
 else
  let q := Zer A (Uq x).Depth.toNat (atR A 0 0).1 (Uq x).Weight
  if q.2.2 ≠ 0 then (0, q.2.2) else ((Uq x).Weight - q.2.1, 0)
theorem Zmu (hw : WS A.segments) (x : Zp) : Jm (some A) x = some (Zp9 A x) := by
 unfold Jm Zp9
 rw [Zia, Option.bind_some, Zst hw, Option.bind_some]
 have hd : 0 ≤ (Uq x).Depth ∧ (Uq x).Depth ≤ 64 := Zi5 _ _ (by decide)
 have hW : 0 ≤ (Uq x).Weight ∧ (Uq x).Weight ≤ 65536 := Zi5 _ _ (by decide)
 by_cases h : (atR A 0 0).2 ≠ 0
 ·rw [if_pos h, show ((atR A 0 0).2 != 0) = true from bne_iff_ne.2 h, cond_true]
 rw [if_neg h, show ((atR A 0 0).2 != 0) = false from bne_eq_false_iff_eq.2 (by omega), cond_false]
 obtain ⟨e, l', h1, h2, h3⟩ := Zp8 hw (d := (Uq x).Depth.toNat) (by omega) (Zly (A := A) 0 0) hW
 rw [show (((Uq x).Depth.toNat : Nat) : Int) = (Uq x).Depth by omega] at h1
 rw [h1, Option.bind_some]
 simp only
 rw [h2]
 by_cases hq : (Zer A (Uq x).Depth.toNat (atR A 0 0).1 (Uq x).Weight).2.2 ≠ 0
 ·rw [if_pos hq, show ((Zer A (Uq x).Depth.toNat (atR A 0 0).1 (Uq x).Weight).2.2 != 0) = true from bne_iff_ne.2 hq, cond_true]
 have h0 : (Zer A (Uq x).Depth.toNat (atR A 0 0).1 (Uq x).Weight).2.2 = 0 := by omega
 have hb := Zmf hw _ _ _ (Zly (A := A) 0 0) hW.1 h0
 rw [if_neg hq, show ((Zer A (Uq x).Depth.toNat (atR A 0 0).1 (Uq x).Weight).2.2 != 0) = false from bne_eq_false_iff_eq.2 h0, cond_false, h3 (by rw [h2, h0]), Jo (by omega) (by omega)]
end
theorem Zmw : Zp9 ⟨[[4294967296, 7]], 0, 0⟩ ⟨1, 2, 0, 0⟩ = (2, 0) := by
 unfold Zp9
 rw [Zlg]
 rfl
theorem Zmv : Zp9 ⟨[[4294967296, 7]], 0, 0⟩ ⟨1, 1, 0, 0⟩ = (0, 3) := by
 unfold Zp9
 rw [Zlg]
 rfl
theorem Zp5 : Qg = some true := by
 have hw := Zr8
 unfold Qg
 rw [Zs3 hw, Option.bind_some, Zmu (A := ⟨[[4294967296, 7]], 0, 0⟩) hw, Option.bind_some, Zmu (A := ⟨[[4294967296, 7]], 0, 0⟩) hw, Option.bind_some, Zmw, Zmv]
 rfl
theorem Ur (x m : Int) (hm : 0 ≤ m) : Yi x m = some (Zam x m) := by
 unfold Yi Zam
 by_cases h : x < 0
 ·rw [decide_eq_true h, if_pos h, if_neg (by omega)]; rfl
 rw [decide_eq_false h, if_neg h]
 by_cases h2 : m < x
 ·rw [decide_eq_true h2, if_pos h2]; rfl
 rw [decide_eq_false h2, if_neg h2]; rfl
theorem Zpg (x : Zp) : Xz x = some (Uq x) := by
 unfold Xz
 rw [Ur _ _ (by decide), Ur _ _ (by decide), Ur _ _ (by decide), Ur _ _ (by decide)]
 rfl
theorem Zan (x m : Int) (hm : 0 ≤ m) : Zam (Zam x m) m = Zam x m := by
 have := Zi5 x m hm
 generalize Zam x m = y at *
 unfold Zam
 rw [if_neg (show ¬ y < 0 by omega), if_neg (by omega)]
theorem Zql (x : Zp) : Uq (Uq x) = Uq x := by
 unfold Uq
 simp only
 rw [Zan _ _ (by decide), Zan _ _ (by decide), Zan _ _ (by decide), Zan _ _ (by decide)]
theorem Zld (x : Zp) : Xn x = some true := by
 unfold Xn
 rw [Zia, Zpg]
 simp only [Option.bind_some, Zia, Zql, beq_self_eq_true, Bool.and_self, cond_true, Zp5]
end Go.Proofs.Ytmlhokaflhlhbaa
