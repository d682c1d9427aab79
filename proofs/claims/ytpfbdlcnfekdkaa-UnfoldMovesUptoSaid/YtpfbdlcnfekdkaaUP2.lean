/- Plain facts on this seat's mirrors (part UP2); each theorem bears its own conditions. -/
import Derived.Test.YtpfbdlcnfekdkaaUP1
import Derived.IntWalk
namespace Go.Proofs.Ytpfbdlcnfekdkaa
open Go.RowKit
set_option linter.unusedVariables false
set_option linter.unusedSimpArgs false
abbrev Tr := S_api_Tree
/-- structs and lists within one another -/
def lvR (r : S_reader_Ref) : Int := if r.kind = 0 then 0 else if r.kind = 9 ∧ 0 < r.count then 2 else 1
/-- what a value weighs, its pointers not followed -/
def wtR (r : S_reader_Ref) : Int := if r.kind = 0 then 0 else if r.kind = 1 then 1 + r.words + r.ptrs else if r.kind = 9 then 1 + r.count * (1 + r.words + r.ptrs) else 1 + r.count
theorem levels_ok (r : S_reader_Ref) : m_valid_levels r = some (lvR r) := by
  have hk : m_reader_Ref_Kind r = some r.kind := rfl
  unfold m_valid_levels lvR
  rw [hk, rKids_ok, Option.bind_some]
  by_cases h0 : r.kind = 0
  · rw [show (r.kind == 0) = true from by rw [h0]; rfl, if_pos h0]; rfl
  rw [show (r.kind == 0) = false from ieqF h0, if_neg h0, cond_false, Option.bind_some]
  by_cases h9 : r.kind = 9
  · have hkn : kidsN r = r.count := by unfold kidsN; rw [if_neg (by omega)]
    rw [show (r.kind == 9) = true from by rw [h9]; rfl, cond_true, Option.bind_some, Option.bind_some, cond_true, hkn]
    by_cases hc : 0 < r.count
    · rw [if_pos ⟨h9, hc⟩, decide_eq_true hc]; rfl
    · rw [if_neg (fun q => hc q.2), decide_eq_false hc]; rfl
  · rw [show (r.kind == 9) = false from ieqF h9, if_neg (fun q => h9 q.1)]; rfl
section
variable {A : S_arena_Arena}
theorem wt_rg (hw : WS A.segments) {r : S_reader_Ref} (h : OKr A r) : 0 ≤ wtR r ∧ wtR r ≤ 4503599627370496 ∧ (r.kind ≠ 0 → 1 ≤ wtR r) := by
  cases h with
  | z => simp [wtR, r0]
  | st s a d p hd hp hin => simp [wtR]; omega
  | li k s a n hk hn hin => simp only [wtR]; rw [if_neg (by omega), if_neg (by omega), if_neg (by omega)]; omega
  | co s a d p n hd hp hn hwx hin =>
    simp only [wtR, show ¬ (9 : Int) = 0 from by decide, show ¬ (9 : Int) = 1 from by decide, if_false, if_true]
    have : n * (1 + d + p) = n + n * (d + p) := by rw [Int.add_assoc, Int.mul_add, Int.mul_one]
    omega
  | at_ s a c i n hc h0 h1 hn hin => simp [wtR]
theorem weight_ok (hw : WS A.segments) {r : S_reader_Ref} (h : OKr A r) : m_valid_weight r = some (wtR r) := by
  have hk : m_reader_Ref_Kind r = some r.kind := rfl
  unfold m_valid_weight wtR
  rw [hk, rWords_ok, rKids_ok, Option.bind_some]
  cases h with
  | z => rfl
  | st s a d p hd hp hin =>
    simp only [wordsN, kidsN, if_true, show ((1 : Int) == 0) = false from rfl, show ((1 : Int) == 1) = true from rfl, cond_false, cond_true, Option.bind_some, show ¬ (1 : Int) = 0 from by decide, if_false]
    rw [i64s (x := 1 + d) (by omega) (by omega), i64s (by omega) (by omega)]
  | li k s a n hk' hn hin =>
    simp only [kidsN]
    rw [show (k == 0) = false from ieqF (by omega), show (k == 1) = false from ieqF (by omega), show (k == 9) = false from ieqF (by omega), if_neg (by omega), if_neg (by omega), if_neg (by omega), if_neg (by omega), cond_false, cond_false, cond_false, Option.bind_some, i64s (by omega) (by omega)]
  | co s a d p n hd hp hn hwx hin =>
    have : n * (1 + d + p) = n + n * (d + p) := by rw [Int.add_assoc, Int.mul_add, Int.mul_one]
    unfold m_reader_Ref_Frame
    simp only [kidsN, show ((9 : Int) == 0) = false from rfl, show ((9 : Int) == 1) = false from rfl, show ((9 : Int) == 9) = true from rfl, show ((9 : Int) != 9) = false from rfl, cond_false, cond_true, Option.bind_some, show ¬ (9 : Int) = 0 from by decide, show ¬ (9 : Int) = 1 from by decide, if_false, if_true]
    rw [i64s (x := 1 + d) (by omega) (by omega), i64s (x := 1 + d + p) (by omega) (by omega), i64s (x := n * (1 + d + p)) (by omega) (by omega), i64s (by omega) (by omega)]
  | at_ s a c i n hc h0 h1 hn hin => rfl
/-- a value's words -/
def wordsL (A : S_arena_Arena) (r : S_reader_Ref) : List Int := if r.kind = 10 then [numR A r] else if r.kind = 1 then ((seg A.segments r.segment).drop r.at_.toNat).take r.words.toNat else []
/-- kid by kid: the trees, what may be weighed still, an error -/
def kidsGo (f : S_reader_Ref → Int → Tr × Int × Int) (g : Int → S_reader_Ref × Int) : Nat → Nat → Int → List Tr → List Tr × Int × Int
  | 0, _, left, acc => (acc, left, 0)
  | m + 1, i, left, acc => if (g i).2 ≠ 0 then (acc, left, (g i).2) else if (f (g i).1 left).2.2 ≠ 0 then (acc, (f (g i).1 left).2.1, (f (g i).1 left).2.2) else kidsGo f g m (i + 1) (f (g i).1 left).2.1 (acc ++ [(f (g i).1 left).1])
/-- a struct of a list, weighed already -/
def stK (A : S_arena_Arena) (f : S_reader_Ref → Int → Tr × Int × Int) (k : S_reader_Ref) (left : Int) : Tr × Int × Int :=
  let q := kidsGo f (kidR A k) k.ptrs.toNat 0 left []
  (⟨1, wordsL A k, q.1⟩, q.2)
def atomK (A : S_arena_Arena) (k : S_reader_Ref) (left : Int) : Tr × Int × Int := (⟨k.kind, wordsL A k, []⟩, left, 0)
def kidF (A : S_arena_Arena) (f1 f2 : S_reader_Ref → Int → Tr × Int × Int) (r : S_reader_Ref) : S_reader_Ref → Int → Tr × Int × Int :=
  if r.kind = 9 then stK A f2 else if r.kind = 1 ∨ r.kind = 8 then f1 else atomK A
def meanB (A : S_arena_Arena) (f1 f2 : S_reader_Ref → Int → Tr × Int × Int) (d : Int) (r : S_reader_Ref) (left : Int) : Tr × Int × Int :=
  if r.kind = 0 then (⟨r.kind, wordsL A r, []⟩, left, 0)
  else if d < lvR r ∨ left < wtR r then (⟨r.kind, wordsL A r, []⟩, left, 3)
  else
    let q := kidsGo (kidF A f1 f2 r) (kidR A r) (kidsN r).toNat 0 (left - wtR r) []
    (⟨r.kind, wordsL A r, q.1⟩, q.2)
def bad (_ : S_reader_Ref) (left : Int) : Tr × Int × Int := (⟨0, [], []⟩, left, 3)
/-- what a value means, so deep at the most, and what may be weighed still -/
def mean (A : S_arena_Arena) : Nat → S_reader_Ref → Int → Tr × Int × Int
  | 0 => meanB A bad bad 0
  | 1 => meanB A (mean A 0) bad 1
  | d + 2 => meanB A (mean A (d + 1)) (mean A d) ((d + 2 : Nat) : Int)
def meanP (A : S_arena_Arena) (k : Nat) (d : Nat) : S_reader_Ref → Int → Tr × Int × Int := if k ≤ d then mean A (d - k) else bad
theorem mean_eq (d : Nat) : mean A d = meanB A (meanP A 1 d) (meanP A 2 d) (d : Int) := by
  match d with
  | 0 => rfl
  | 1 => rfl
  | d + 2 =>
    unfold meanP
    rw [if_pos (by omega), if_pos (by omega)]
    rfl
/-- as much is left as there was, or less -/
def Lf (A : S_arena_Arena) (f : S_reader_Ref → Int → Tr × Int × Int) : Prop := ∀ k left, OKr A k → 0 ≤ left → (f k left).2.2 = 0 → 0 ≤ (f k left).2.1 ∧ (f k left).2.1 ≤ left
theorem go_left {f : S_reader_Ref → Int → Tr × Int × Int} {g : Int → S_reader_Ref × Int} (hf : Lf A f) (hg : ∀ i, OKr A (g i).1) : ∀ (m i : Nat) (left : Int) (acc : List Tr), 0 ≤ left → (kidsGo f g m i left acc).2.2 = 0 → 0 ≤ (kidsGo f g m i left acc).2.1 ∧ (kidsGo f g m i left acc).2.1 ≤ left
  | 0, i, left, acc, h0, _ => ⟨h0, Int.le_refl _⟩
  | m + 1, i, left, acc, h0, h => by
    rw [kidsGo] at h ⊢
    by_cases h1 : (g i).2 ≠ 0
    · rw [if_pos h1] at h; exact absurd h h1
    rw [if_neg h1] at h ⊢
    by_cases h2 : (f (g i).1 left).2.2 ≠ 0
    · rw [if_pos h2] at h; exact absurd h h2
    rw [if_neg h2] at h ⊢
    have h2' : (f (g i).1 left).2.2 = 0 := by omega
    obtain ⟨a1, a2⟩ := hf _ _ (hg i) h0 h2'
    obtain ⟨b1, b2⟩ := go_left hf hg m (i + 1) _ _ a1 h
    exact ⟨b1, by omega⟩
theorem lf_bad : Lf A bad := fun k left _ _ h => by simp [bad] at h
theorem lf_stK {f : S_reader_Ref → Int → Tr × Int × Int} (hf : Lf A f) : Lf A (stK A f) := fun k left hk h0 h => go_left hf (fun i => kid_okr hk i) _ _ _ _ h0 h
theorem lf_atomK : Lf A (atomK A) := fun k left _ h0 _ => ⟨h0, Int.le_refl _⟩
theorem lf_kidF {f1 f2 : S_reader_Ref → Int → Tr × Int × Int} (h1 : Lf A f1) (h2 : Lf A f2) (r : S_reader_Ref) : Lf A (kidF A f1 f2 r) := by
  unfold kidF
  split
  · exact lf_stK h2
  split
  · exact h1
  · exact lf_atomK
theorem lf_meanB (hw : WS A.segments) {f1 f2 : S_reader_Ref → Int → Tr × Int × Int} (h1 : Lf A f1) (h2 : Lf A f2) (d : Int) : Lf A (meanB A f1 f2 d) := fun r left hr h0 h => by
  have hwt := wt_rg hw hr
  unfold meanB at h ⊢
  by_cases k0 : r.kind = 0
  · rw [if_pos k0]; exact ⟨h0, Int.le_refl _⟩
  rw [if_neg k0] at h ⊢
  by_cases hb : d < lvR r ∨ left < wtR r
  · rw [if_pos hb] at h; simp at h
  rw [if_neg hb] at h ⊢
  have := go_left (lf_kidF h1 h2 r) (fun i => kid_okr hr i) (kidsN r).toNat 0 (left - wtR r) [] (by omega) h
  simp only
  omega
theorem lf_mean (hw : WS A.segments) : ∀ d, Lf A (mean A d) := fun d => by
  induction d using Nat.strongRecOn with
  | ind d ih =>
    rw [mean_eq]
    refine lf_meanB hw ?_ ?_ _
    · unfold meanP
      split
      · exact ih _ (by omega)
      · exact lf_bad
    · unfold meanP
      split
      · exact ih _ (by omega)
      · exact lf_bad
end

theorem loopN_le {S R : Type} {s1 s2 : S → Option (S ⊕ R)} (h : ∀ s x, s1 s = some x → s2 s = some x) : ∀ (k : Nat) (s : S) (r : R), loopN s1 k s = some r → loopN s2 k s = some r
  | 0, s, r, q => by simp [loopN] at q
  | k + 1, s, r, q => by
    simp only [loopN] at q ⊢
    cases hs : s1 s with
    | none => rw [hs] at q; cases q
    | some x =>
      rw [hs] at q
      rw [h s x hs]
      cases x with
      | inl s' => exact loopN_le h k s' r q
      | inr r' => exact q
theorem runLoop_le {S R : Type} {s1 s2 : S → Option (S ⊕ R)} (h : ∀ s x, s1 s = some x → s2 s = some x) {s : S} {r : R} (q : runLoop s1 s = some r) : runLoop s2 s = some r := by
  obtain ⟨k, hk⟩ := runLoop_k q
  exact runLoop_of (loopN_le h k s r hk)
theorem bind_le {α β : Type} {o o' : Option α} {f f' : α → Option β} (h : ∀ x, o = some x → o' = some x) (hf : ∀ x y, f x = some y → f' x = some y) {r : β} (q : o.bind f = some r) : o'.bind f' = some r := by
  obtain ⟨x, h1, h2⟩ := Option.bind_eq_some_iff.1 q
  rw [h x h1]
  exact hf x r h2
theorem cond_le {α : Type} (c : Bool) {a a' b b' : Option α} (h1 : ∀ r, a = some r → a' = some r) (h2 : ∀ r, b = some r → b' = some r) (r : α) (q : cond c a b = some r) : cond c a' b' = some r := by
  cases c with
  | true => exact h1 r q
  | false => exact h2 r q
theorem lim_mono {R : Type} {F : Nat → Option R} {r : R} (hm : ∀ k r, F k = some r → F (k + 1) = some r) {K : Nat} (h : F K = some r) : lim F = some r := by
  refine lim_eq K fun k hk => ?_
  obtain ⟨d, rfl⟩ : ∃ d, k = K + d := ⟨k - K, by omega⟩
  clear hk
  induction d with
  | zero => exact h
  | succ d ih => exact hm _ _ ih

section
variable {A : S_arena_Arena}
/-- rounds over kids, weighed -/
theorem chk_loop {step : Int × Int → Option ((Int × Int) ⊕ ((Int × Int) ⊕ Int))} {F : S_valid_checker → S_reader_Ref → Option (Int × S_valid_checker)} {f : S_reader_Ref → Int → Tr × Int × Int} {r : S_reader_Ref} (hw : WS A.segments) (hr : OKr A r) (n : Nat) (hn : n ≤ 1073741824)
    (hs : ∀ (i : Nat) (left : Int), i < n → step ((i : Int), left) = (m_reader_Ref_Kid r i).bind fun y4 => cond (y4.2 != 0) (some (.inr (.inl (y4.2, left)))) ((F ⟨left⟩ y4.1).bind fun y6 => cond (y6.1 != 0) (some (.inr (.inl (y6.1, y6.2.left)))) (some (.inl (IntKind.i64.wrap ((i : Int) + 1), y6.2.left)))))
    (he : ∀ left, step ((n : Int), left) = some (.inr (.inr left)))
    (hf : Lf A f)
    (hF : ∀ (i : Nat) (left : Int), i < n → (kidR A r i).2 = 0 → 0 ≤ left ∧ left ≤ 65536 → ∃ e l', F ⟨left⟩ (kidR A r i).1 = some (e, ⟨l'⟩) ∧ e = (f (kidR A r i).1 left).2.2 ∧ (e = 0 → l' = (f (kidR A r i).1 left).2.1)) : ∀ (m i : Nat) (left : Int) (acc : List Tr), i + m = n → 0 ≤ left ∧ left ≤ 65536 →
    ∃ z, runLoop step ((i : Int), left) = some z ∧ ((kidsGo f (kidR A r) m i left acc).2.2 = 0 → z = .inr (kidsGo f (kidR A r) m i left acc).2.1) ∧ ((kidsGo f (kidR A r) m i left acc).2.2 ≠ 0 → ∃ x, z = .inl ((kidsGo f (kidR A r) m i left acc).2.2, x))
  | 0, i, left, acc, hi, hl => by
    have : i = n := by omega
    subst this
    exact ⟨_, runLoop_end (he left), fun _ => rfl, fun h => absurd rfl h⟩
  | m + 1, i, left, acc, hi, hl => by
    have hst := hs i left (by omega)
    rw [kid_ok hw hr, Option.bind_some] at hst
    rw [kidsGo]
    by_cases h1 : (kidR A r i).2 ≠ 0
    · rw [if_pos h1]
      rw [show ((kidR A r i).2 != 0) = true from bne_iff_ne.2 h1, cond_true] at hst
      exact ⟨_, runLoop_end hst, fun h => absurd h h1, fun _ => ⟨_, rfl⟩⟩
    rw [if_neg h1]
    have h1' : (kidR A r i).2 = 0 := by omega
    rw [show ((kidR A r i).2 != 0) = false from by rw [h1']; rfl, cond_false] at hst
    obtain ⟨e, l', q1, q2, q3⟩ := hF i left (by omega) h1' hl
    rw [q1, Option.bind_some] at hst
    simp only at hst
    by_cases h2 : (f (kidR A r i).1 left).2.2 ≠ 0
    · rw [if_pos h2]
      rw [q2, show ((f (kidR A r i).1 left).2.2 != 0) = true from bne_iff_ne.2 h2, cond_true] at hst
      exact ⟨_, runLoop_end hst, fun h => absurd h h2, fun _ => ⟨_, rfl⟩⟩
    rw [if_neg h2]
    have h2' : (f (kidR A r i).1 left).2.2 = 0 := by omega
    have e0 : e = 0 := q2.trans h2'
    have hl' := q3 e0
    have hb := hf _ left (kid_okr hr i) hl.1 h2'
    rw [e0, show ((0 : Int) != 0) = false from rfl, cond_false, i64s (by omega) (by omega), hl'] at hst
    rw [runLoop_step (s' := (((i + 1 : Nat) : Int), (f (kidR A r i).1 left).2.1)) hst]
    exact chk_loop hw hr n hn hs he hf hF m (i + 1) _ _ (by omega) ⟨hb.1, by omega⟩
/-- what a value is weighed to -/
def CK (A : S_arena_Arena) (F : S_valid_checker → S_reader_Ref → Int → Option (Int × S_valid_checker)) (f : S_reader_Ref → Int → Tr × Int × Int) (d : Int) (r : S_reader_Ref) (left : Int) : Prop := ∃ e l', F ⟨left⟩ r d = some (e, ⟨l'⟩) ∧ e = (f r left).2.2 ∧ (e = 0 → l' = (f r left).2.1)
theorem kidsN_rg {r : S_reader_Ref} (h : OKr A r) : 0 ≤ kidsN r ∧ kidsN r ≤ 1073741824 := by
  cases h with
  | z => simp [kidsN, r0]
  | st s a d p hd hp hin => simp only [kidsN, if_true]; omega
  | li k s a n hk hn hin => simp only [kidsN]; rw [if_neg (by omega)]; omega
  | co s a d p n hd hp hn hwx hin => simp only [kidsN]; rw [if_neg (by omega)]; omega
  | at_ s a c i n hc h0 h1 hn hin => simp [kidsN]
/-- the kids of a value -/
theorem cKids_ok (hw : WS A.segments) {f1 f2 f3 : S_valid_checker → S_reader_Ref → Int → Option (Int × S_valid_checker)} {f : S_reader_Ref → Int → Tr × Int × Int} (hf : Lf A f) {r : S_reader_Ref} (hr : OKr A r) {d left : Int} (hl : 0 ≤ left ∧ left ≤ 65536)
    (hF : ∀ (i : Nat) (l : Int), i < (kidsN r).toNat → (kidR A r i).2 = 0 → 0 ≤ l ∧ l ≤ 65536 → CK A f1 f d (kidR A r i).1 l) :
    ∃ e l', b_valid_checker_kids f1 f2 f3 ⟨left⟩ r d = some (e, ⟨l'⟩) ∧ e = (kidsGo f (kidR A r) (kidsN r).toNat 0 left []).2.2 ∧ (e = 0 → l' = (kidsGo f (kidR A r) (kidsN r).toNat 0 left []).2.1) := by
  have hk := kidsN_rg hr
  unfold b_valid_checker_kids
  rw [rKids_ok, Option.bind_some]
  have hN : kidsN r = (((kidsN r).toNat : Nat) : Int) := by omega
  obtain ⟨z, z1, z2, z3⟩ := chk_loop (step := b_valid_checker_kids_L0 f1 r d (kidsN r)) (F := fun c k => f1 c k d) (f := f) hw hr (kidsN r).toNat (by omega) (fun i l hi => by
    unfold b_valid_checker_kids_L0
    simp only
    rw [show decide ((i : Int) < kidsN r) = true from by rw [decide_eq_true_eq]; omega, cond_true]) (fun l => by
    unfold b_valid_checker_kids_L0
    simp only
    rw [show decide ((((kidsN r).toNat : Nat) : Int) < kidsN r) = false from by rw [decide_eq_false_iff_not]; omega, cond_false]) hf hF (kidsN r).toNat 0 left [] (by omega) hl
  rw [show (((0 : Nat) : Int)) = 0 from rfl] at z1
  rw [z1, Option.bind_some]
  by_cases hq : (kidsGo f (kidR A r) (kidsN r).toNat 0 left []).2.2 = 0
  · rw [z2 hq]
    exact ⟨_, _, rfl, hq.symm, fun _ => rfl⟩
  · obtain ⟨x, hx⟩ := z3 hq
    rw [hx]
    exact ⟨_, _, rfl, rfl, fun h => absurd h hq⟩
/-- the structs of a list -/
theorem cStructs_ok (hw : WS A.segments) {f1 f2 f3 : S_valid_checker → S_reader_Ref → Int → Option (Int × S_valid_checker)} {f : S_reader_Ref → Int → Tr × Int × Int} (hf : Lf A f) {r : S_reader_Ref} (hr : OKr A r) {d left : Int} (hd : 0 ≤ d ∧ d ≤ 1000) (hl : 0 ≤ left ∧ left ≤ 65536)
    (hF : ∀ (i : Nat) (l : Int), i < (kidsN r).toNat → (kidR A r i).2 = 0 → 0 ≤ l ∧ l ≤ 65536 → CK A f2 f (d - 1) (kidR A r i).1 l) :
    ∃ e l', b_valid_checker_structs f1 f2 f3 ⟨left⟩ r d = some (e, ⟨l'⟩) ∧ e = (kidsGo f (kidR A r) (kidsN r).toNat 0 left []).2.2 ∧ (e = 0 → l' = (kidsGo f (kidR A r) (kidsN r).toNat 0 left []).2.1) := by
  have hk := kidsN_rg hr
  unfold b_valid_checker_structs
  rw [rKids_ok, Option.bind_some]
  obtain ⟨z, z1, z2, z3⟩ := chk_loop (step := b_valid_checker_structs_L0 f2 r d (kidsN r)) (F := fun c k => f2 c k (d - 1)) (f := f) hw hr (kidsN r).toNat (by omega) (fun i l hi => by
    unfold b_valid_checker_structs_L0
    simp only
    rw [show decide ((i : Int) < kidsN r) = true from by rw [decide_eq_true_eq]; omega, cond_true, i64s (x := d - 1) (by omega) (by omega)]) (fun l => by
    unfold b_valid_checker_structs_L0
    simp only
    rw [show decide ((((kidsN r).toNat : Nat) : Int) < kidsN r) = false from by rw [decide_eq_false_iff_not]; omega, cond_false]) hf hF (kidsN r).toNat 0 left [] (by omega) hl
  rw [show (((0 : Nat) : Int)) = 0 from rfl] at z1
  rw [z1, Option.bind_some]
  by_cases hq : (kidsGo f (kidR A r) (kidsN r).toNat 0 left []).2.2 = 0
  · rw [z2 hq]
    exact ⟨_, _, rfl, hq.symm, fun _ => rfl⟩
  · obtain ⟨x, hx⟩ := z3 hq
    rw [hx]
    exact ⟨_, _, rfl, rfl, fun h => absurd h hq⟩
/-- kids that are atoms cost nothing -/
theorem go_atoms {g : Int → S_reader_Ref × Int} (n : Nat) (hg : ∀ i : Nat, i < n → (g i).2 = 0) : ∀ (m i : Nat) (left : Int) (acc : List Tr), i + m = n → (kidsGo (atomK A) g m i left acc).2 = (left, 0)
  | 0, i, left, acc, _ => rfl
  | m + 1, i, left, acc, h => by
    rw [kidsGo, if_neg (by rw [hg i (by omega)]; simp), if_neg (by simp [atomK])]
    exact go_atoms n hg m (i + 1) left _ (by omega)
theorem kid_atom {r : S_reader_Ref} (hk : 2 ≤ r.kind ∧ r.kind ≤ 7) (i : Int) : (kidR A r i).2 = 0 := by
  unfold kidR
  split
  · rfl
  rw [if_neg (by omega), if_neg (by omega), if_neg (by omega)]
theorem kid_struct1 {r : S_reader_Ref} (hk : r.kind = 9) {i : Int} (h : 0 ≤ i ∧ i < kidsN r) : (kidR A r i).1.kind = 1 := by
  unfold kidR
  rw [if_neg (by omega), if_neg (by omega), if_neg (by omega), if_pos hk]
/-- a value, its kids weighed likewise -/
theorem cValue_ok (hw : WS A.segments) {f1 f2 f3 : S_valid_checker → S_reader_Ref → Int → Option (Int × S_valid_checker)} {g1 g2 : S_reader_Ref → Int → Tr × Int × Int} {r : S_reader_Ref} (hr : OKr A r) {d left : Int} (hd : 0 ≤ d ∧ d ≤ 1000) (hl : 0 ≤ left ∧ left ≤ 65536)
    (hK : (r.kind = 1 ∨ r.kind = 8) → 1 ≤ d → ∀ l, 0 ≤ l ∧ l ≤ 65536 → ∃ e l', f2 ⟨l⟩ r (d - 1) = some (e, ⟨l'⟩) ∧ e = (kidsGo g1 (kidR A r) (kidsN r).toNat 0 l []).2.2 ∧ (e = 0 → l' = (kidsGo g1 (kidR A r) (kidsN r).toNat 0 l []).2.1))
    (hS : r.kind = 9 → 1 ≤ d → (0 < r.count → 2 ≤ d) → ∀ l, 0 ≤ l ∧ l ≤ 65536 → ∃ e l', f3 ⟨l⟩ r (d - 1) = some (e, ⟨l'⟩) ∧ e = (kidsGo (stK A g2) (kidR A r) (kidsN r).toNat 0 l []).2.2 ∧ (e = 0 → l' = (kidsGo (stK A g2) (kidR A r) (kidsN r).toNat 0 l []).2.1)) :
    ∃ e l', b_valid_checker_value f1 f2 f3 ⟨left⟩ r d = some (e, ⟨l'⟩) ∧ e = (meanB A g1 g2 d r left).2.2 ∧ (e = 0 → l' = (meanB A g1 g2 d r left).2.1) := by
  have hwt := wt_rg hw hr
  have hkd := kind1 hr
  have hkk : m_reader_Ref_Kind r = some r.kind := rfl
  unfold b_valid_checker_value meanB
  rw [levels_ok, weight_ok hw hr, hkk]
  have hz : (cond (decide (d < lvR r)) (some true) ((some (wtR r)).bind fun y7 => some (cond (decide (d < lvR r)) true (decide (left < y7))))) = some (decide (d < lvR r ∨ left < wtR r)) := by
    by_cases h0 : d < lvR r
    · rw [decide_eq_true h0, cond_true, show decide (d < lvR r ∨ left < wtR r) = true from decide_eq_true (.inl h0)]
    · rw [decide_eq_false h0, cond_false, Option.bind_some, cond_false]
      congr 1
      rw [decide_eq_decide]
      omega
  rw [Option.bind_some, hz, Option.bind_some]
  by_cases k0 : r.kind = 0
  · rw [if_pos k0]
    have e1 : lvR r = 0 := by unfold lvR; rw [if_pos k0]
    have e2 : wtR r = 0 := by unfold wtR; rw [if_pos k0]
    rw [e1, e2, show decide (d < 0 ∨ left < 0) = false from by rw [decide_eq_false_iff_not]; omega, cond_false, Option.bind_some, Option.bind_some, k0]
    refine ⟨0, left, ?_, rfl, fun _ => rfl⟩
    show some ((0 : Int), (⟨IntKind.i64.wrap (left - 0)⟩ : S_valid_checker)) = _
    rw [i64s (by omega) (by omega), Int.sub_zero]
  rw [if_neg k0]
  by_cases hb : d < lvR r ∨ left < wtR r
  · rw [if_pos hb, decide_eq_true hb, cond_true]
    exact ⟨_, _, rfl, rfl, fun h => by simp at h⟩
  rw [if_neg hb, decide_eq_false hb, cond_false, Option.bind_some, Option.bind_some, i64s (x := left - wtR r) (by omega) (by omega), i64s (x := d - 1) (by omega) (by omega)]
  have hlv : 1 ≤ d := by
    have : 1 ≤ lvR r := by unfold lvR; rw [if_neg k0]; split <;> omega
    omega
  have hl' : 0 ≤ left - wtR r ∧ left - wtR r ≤ 65536 := by omega
  by_cases k18 : r.kind = 1 ∨ r.kind = 8
  · have e1 : (cond (r.kind == 1) (some (r.kind == 1)) (some (r.kind == 8))) = some true := by
      rcases k18 with k | k <;> rw [k] <;> rfl
    have hkf : kidF A g1 g2 r = g1 := by unfold kidF; rw [if_neg (by omega), if_pos k18]
    rw [e1, Option.bind_some, cond_true, hkf]
    obtain ⟨e, l', q1, q2, q3⟩ := hK k18 hlv _ hl'
    rw [q1]
    exact ⟨e, l', rfl, q2, q3⟩
  · have e1 : (cond (r.kind == 1) (some (r.kind == 1)) (some (r.kind == 8))) = some false := by
      rw [show (r.kind == 1) = false from ieqF (by omega), show (r.kind == 8) = false from ieqF (by omega)]; rfl
    rw [e1, Option.bind_some, cond_false]
    by_cases k9 : r.kind = 9
    · have hkf : kidF A g1 g2 r = stK A g2 := by unfold kidF; rw [if_pos k9]
      have hc : 0 < r.count → 2 ≤ d := fun hc => by
        have : lvR r = 2 := by unfold lvR; rw [if_neg k0, if_pos ⟨k9, hc⟩]
        omega
      rw [show (r.kind == 9) = true from by rw [k9]; rfl, cond_true, hkf]
      obtain ⟨e, l', q1, q2, q3⟩ := hS k9 hlv hc _ hl'
      rw [q1]
      exact ⟨e, l', rfl, q2, q3⟩
    · have hkf : kidF A g1 g2 r = atomK A := by unfold kidF; rw [if_neg k9, if_neg k18]
      rw [show (r.kind == 9) = false from ieqF k9, cond_false, hkf]
      have hgo : (kidsGo (atomK A) (kidR A r) (kidsN r).toNat 0 (left - wtR r) []).2 = (left - wtR r, 0) := by
        by_cases k10 : r.kind = 10
        · have : kidsN r = 0 := by
            cases hr with
            | at_ s a c i n hc h0 h1 hn hin => simp [kidsN]
            | z => simp [r0] at k10
            | st => simp at k10
            | li k s a n hk => simp only at k10; omega
            | co => simp at k10
          rw [this]; rfl
        · exact go_atoms (kidsN r).toNat (fun i _ => kid_atom (by omega) i) _ 0 _ _ (by omega)
      refine ⟨0, left - wtR r, rfl, ?_, fun _ => ?_⟩
      · simp only; rw [hgo]
      · simp only; rw [hgo]
theorem chk_lv (hw : WS A.segments) : ∀ (K : Nat), (∀ (d : Nat) r left, d ≤ 1000 → OKr A r → 0 ≤ left ∧ left ≤ 65536 → 2 * d + 1 ≤ K → CK A (lv_valid_checker_value K).1 (mean A d) d r left) ∧
    (∀ (d : Nat) r left, d ≤ 1000 → OKr A r → 0 ≤ left ∧ left ≤ 65536 → 2 * d + 2 ≤ K → ∃ e l', (lv_valid_checker_value K).2.1 ⟨left⟩ r d = some (e, ⟨l'⟩) ∧ e = (kidsGo (mean A d) (kidR A r) (kidsN r).toNat 0 left []).2.2 ∧ (e = 0 → l' = (kidsGo (mean A d) (kidR A r) (kidsN r).toNat 0 left []).2.1)) ∧
    (∀ (d : Nat) r left, d ≤ 1000 → OKr A r → r.kind = 9 → 0 ≤ left ∧ left ≤ 65536 → (0 < r.count → 1 ≤ d) → 2 * d + 2 ≤ K → ∃ e l', (lv_valid_checker_value K).2.2 ⟨left⟩ r d = some (e, ⟨l'⟩) ∧ e = (kidsGo (stK A (meanP A 1 d)) (kidR A r) (kidsN r).toNat 0 left []).2.2 ∧ (e = 0 → l' = (kidsGo (stK A (meanP A 1 d)) (kidR A r) (kidsN r).toNat 0 left []).2.1))
  | 0 => ⟨fun d r left _ _ _ h => by omega, fun d r left _ _ _ h => by omega, fun d r left _ _ _ _ _ h => by omega⟩
  | K + 1 => by
    obtain ⟨i1, i2, i3⟩ := chk_lv hw K
    refine ⟨fun d r left hd hr hl hK => ?_, fun d r left hd hr hl hK => ?_, fun d r left hd hr k9 hl hc hK => ?_⟩
    · show ∃ e l', b_valid_checker_value (lv_valid_checker_value K).1 (lv_valid_checker_value K).2.1 (lv_valid_checker_value K).2.2 ⟨left⟩ r d = some (e, ⟨l'⟩) ∧ _
      rw [mean_eq]
      refine cValue_ok hw hr (by omega) hl (fun k18 h1 l hl => ?_) (fun k9 h1 hc l hl => ?_)
      · have := i2 (d - 1) r l (by omega) hr hl (by omega)
        rw [show (((d - 1 : Nat) : Int)) = (d : Int) - 1 by omega] at this
        unfold meanP
        rw [if_pos (by omega)]
        exact this
      · have := i3 (d - 1) r l (by omega) hr k9 hl (fun h => by have := hc h; omega) (by omega)
        rw [show (((d - 1 : Nat) : Int)) = (d : Int) - 1 by omega] at this
        have e : meanP A 1 (d - 1) = meanP A 2 d := by
          unfold meanP
          by_cases h2 : 2 ≤ d
          · rw [if_pos (by omega), if_pos h2, show d - 1 - 1 = d - 2 by omega]
          · rw [if_neg (by omega), if_neg h2]
        rw [e] at this
        exact this
    · show ∃ e l', b_valid_checker_kids (lv_valid_checker_value K).1 (lv_valid_checker_value K).2.1 (lv_valid_checker_value K).2.2 ⟨left⟩ r d = some (e, ⟨l'⟩) ∧ _
      exact cKids_ok hw (lf_mean hw d) hr hl fun i l hi _ hl => i1 d _ l hd (kid_okr hr i) hl (by omega)
    · show ∃ e l', b_valid_checker_structs (lv_valid_checker_value K).1 (lv_valid_checker_value K).2.1 (lv_valid_checker_value K).2.2 ⟨left⟩ r d = some (e, ⟨l'⟩) ∧ _
      have hlf : Lf A (meanP A 1 d) := by
        unfold meanP
        split
        · exact lf_mean hw _
        · exact lf_bad
      refine cStructs_ok hw (lf_stK hlf) hr (by omega) hl fun i l hi _ hl => ?_
      have hkn : kidsN r = r.count := by unfold kidsN; rw [if_neg (by omega)]
      have hd1 : 1 ≤ d := hc (by omega)
      have h := i2 (d - 1) (kidR A r i).1 l (by omega) (kid_okr hr i) hl (by omega)
      rw [show (((d - 1 : Nat) : Int)) = (d : Int) - 1 by omega] at h
      have hk1 := kid_struct1 (A := A) k9 (i := (i : Int)) (by omega)
      have hkk : kidsN (kidR A r i).1 = (kidR A r i).1.ptrs := by unfold kidsN; rw [if_pos hk1]
      rw [hkk] at h
      have e : meanP A 1 d = mean A (d - 1) := by unfold meanP; rw [if_pos hd1]
      rw [e]
      exact h
def LE3 {α β γ δ : Type} (f g : α → β → γ → Option δ) : Prop := ∀ x y z r, f x y z = some r → g x y z = some r
theorem chk_mono : ∀ (k : Nat), LE3 (lv_valid_checker_value k).1 (lv_valid_checker_value (k + 1)).1 ∧ LE3 (lv_valid_checker_value k).2.1 (lv_valid_checker_value (k + 1)).2.1 ∧ LE3 (lv_valid_checker_value k).2.2 (lv_valid_checker_value (k + 1)).2.2
  | 0 => ⟨fun x y z r h => (by cases h), fun x y z r h => (by cases h), fun x y z r h => (by cases h)⟩
  | k + 1 => by
    obtain ⟨i1, i2, i3⟩ := chk_mono k
    refine ⟨fun c r d v h => ?_, fun c r d v h => ?_, fun c r d v h => ?_⟩
    · refine bind_le (fun _ q => q) (fun z => cond_le _ (fun _ q => q) fun _ => bind_le (fun _ q => q) fun w _ => bind_le (fun _ q => q) fun u _ => bind_le (fun _ q => q) fun b => cond_le _ (fun _ => bind_le (fun x q => i2 _ _ _ x q) fun _ _ q => q) (cond_le _ (fun _ => bind_le (fun x q => i3 _ _ _ x q) fun _ _ q => q) fun _ q => q)) h
    · refine bind_le (fun _ q => q) (fun n _ => bind_le (fun x => runLoop_le fun s y q => ?_) fun _ _ q => q) h
      exact cond_le _ (fun _ => bind_le (fun _ q => q) fun u => cond_le _ (fun _ q => q) fun _ => bind_le (fun x q => i1 _ _ _ x q) fun _ _ q => q) (fun _ q => q) y q
    · refine bind_le (fun _ q => q) (fun n _ => bind_le (fun x => runLoop_le fun s y q => ?_) fun _ _ q => q) h
      exact cond_le _ (fun _ => bind_le (fun _ q => q) fun u => cond_le _ (fun _ q => q) fun _ => bind_le (fun x q => i2 _ _ _ x q) fun _ _ q => q) (fun _ q => q) y q
theorem checkV_ok (hw : WS A.segments) {d : Nat} (hd : d ≤ 1000) {r : S_reader_Ref} (hr : OKr A r) {left : Int} (hl : 0 ≤ left ∧ left ≤ 65536) : CK A m_valid_checker_value (mean A d) d r left := by
  obtain ⟨e, l', h1, h2, h3⟩ := (chk_lv hw (2 * d + 1)).1 d r left hd hr hl (Nat.le_refl _)
  exact ⟨e, l', lim_mono (F := fun k => (lv_valid_checker_value k).1 ⟨left⟩ r d) (fun k x => (chk_mono k).1 _ _ _ x) h1, h2, h3⟩
def clamp (x m : Int) : Int := if m < (if x < 0 then 0 else x) then m else (if x < 0 then 0 else x)
def lims (x : S_api_Limits) : S_api_Limits := ⟨clamp x.Depth 64, clamp x.Weight 65536, clamp x.MaxD 4096, clamp x.MaxOut 131072⟩
theorem limits_ok (x : S_api_Limits) : m_valid_Limits x = some (lims x) := rfl
theorem clamp_rg (x m : Int) (hm : 0 ≤ m) : 0 ≤ clamp x m ∧ clamp x m ≤ m := by unfold clamp; repeat' split; all_goals omega
/-- what a message weighs, or an error -/
def chkW (A : S_arena_Arena) (x : S_api_Limits) : Int × Int :=
  if (atR A 0 0).2 ≠ 0 then (0, (atR A 0 0).2)
  else
    let q := mean A (lims x).Depth.toNat (atR A 0 0).1 (lims x).Weight
    if q.2.2 ≠ 0 then (0, q.2.2) else ((lims x).Weight - q.2.1, 0)
theorem check_ok (hw : WS A.segments) (x : S_api_Limits) : m_valid_Check (some A) x = some (chkW A x) := by
  unfold m_valid_Check chkW
  rw [limits_ok, Option.bind_some, root_ok hw, Option.bind_some]
  have hd : 0 ≤ (lims x).Depth ∧ (lims x).Depth ≤ 64 := clamp_rg _ _ (by decide)
  have hW : 0 ≤ (lims x).Weight ∧ (lims x).Weight ≤ 65536 := clamp_rg _ _ (by decide)
  by_cases h : (atR A 0 0).2 ≠ 0
  · rw [if_pos h, show ((atR A 0 0).2 != 0) = true from bne_iff_ne.2 h, cond_true]
  · rw [if_neg h, show ((atR A 0 0).2 != 0) = false from bne_eq_false_iff_eq.2 (by omega), cond_false]
    obtain ⟨e, l', h1, h2, h3⟩ := checkV_ok hw (d := (lims x).Depth.toNat) (by omega) (at_okr (A := A) 0 0) hW
    rw [show (((lims x).Depth.toNat : Nat) : Int) = (lims x).Depth by omega] at h1
    rw [h1, Option.bind_some]
    simp only
    rw [h2]
    by_cases hq : (mean A (lims x).Depth.toNat (atR A 0 0).1 (lims x).Weight).2.2 ≠ 0
    · rw [if_pos hq, show ((mean A (lims x).Depth.toNat (atR A 0 0).1 (lims x).Weight).2.2 != 0) = true from bne_iff_ne.2 hq, cond_true]
    · have h0 : (mean A (lims x).Depth.toNat (atR A 0 0).1 (lims x).Weight).2.2 = 0 := by omega
      have hb := lf_mean hw _ _ _ (at_okr (A := A) 0 0) hW.1 h0
      rw [if_neg hq, show ((mean A (lims x).Depth.toNat (atR A 0 0).1 (lims x).Weight).2.2 != 0) = false from bne_eq_false_iff_eq.2 h0, cond_false, h3 (by rw [h2, h0]), i64s (by omega) (by omega)]
end
section
variable {A : S_arena_Arena}
end
theorem light_ok (x : S_api_Limits) : ∃ w, m_centolaw10_Light x = some ⟨x.Depth, w, x.MaxD, x.MaxOut⟩ := by
  unfold m_centolaw10_Light
  cases decide (3000 < x.Weight) with
  | true => exact ⟨3000, rfl⟩
  | false => exact ⟨x.Weight, rfl⟩
section
variable {A : S_arena_Arena}
theorem seg_rg (hw : WS A.segments) (s : Int) : ∀ w ∈ seg A.segments s, 0 ≤ w ∧ w < 18446744073709551616 := by
  unfold seg
  cases h : A.segments[s.toNat]? with
  | none => simp
  | some x => exact hw.w x (List.mem_of_getElem? h)
end

section
variable {A : S_arena_Arena}
theorem lf_meanP (hw : WS A.segments) (k d : Nat) : Lf A (meanP A k d) := by
  unfold meanP
  split
  · exact lf_mean hw _
  · exact lf_bad
/-- what a message means, and weighs -/
def unfW (A : S_arena_Arena) (x : S_api_Limits) : Tr × Int × Int :=
  if (atR A 0 0).2 ≠ 0 then (⟨0, [], []⟩, 0, (atR A 0 0).2)
  else
    let q := mean A (lims x).Depth.toNat (atR A 0 0).1 (lims x).Weight
    if q.2.2 ≠ 0 then (⟨0, [], []⟩, 0, q.2.2) else (q.1, (lims x).Weight - q.2.1, 0)
theorem unf_chk (x : S_api_Limits) : (unfW A x).2 = chkW A x := by
  unfold unfW chkW
  by_cases h : (atR A 0 0).2 ≠ 0
  · rw [if_pos h, if_pos h]
  rw [if_neg h, if_neg h]
  simp only
  by_cases hq : (mean A (lims x).Depth.toNat (atR A 0 0).1 (lims x).Weight).2.2 ≠ 0
  · rw [if_pos hq, if_pos hq]
  · rw [if_neg hq, if_neg hq]
end
section
variable {A : S_arena_Arena}
theorem wordsL_len (hw : WS A.segments) {r : S_reader_Ref} (h : OKr A r) : ((wordsL A r).length : Int) = wordsN r := by
  unfold wordsL wordsN
  cases h with
  | z => rfl
  | li k s a n hk hn hin => simp only; rw [if_neg (by omega), if_neg (by omega), if_neg (by omega), if_neg (by omega)]; rfl
  | co => rfl
  | at_ => rfl
  | st s a d p hd hp hin =>
    have hi' := inB_iff.1 hin
    simp only [show ¬ (1 : Int) = 10 from by decide, if_false, if_true, List.length_take, List.length_drop]
    omega
theorem wordsL_at (hw : WS A.segments) {r : S_reader_Ref} (h : OKr A r) {i : Nat} (hi : i < (wordsL A r).length) : (wordsL A r)[i] = wordR A r (i : Int) := by
  have hl := wordsL_len hw h
  unfold wordR
  rw [if_neg (by omega)]
  cases h with
  | z => simp [wordsL, r0] at hi
  | li k s a n hk hn hin =>
    have : wordsL A ⟨some A, k, s, a, 0, 0, n, 0, 0⟩ = [] := by unfold wordsL; rw [if_neg (by simp only; omega), if_neg (by simp only; omega)]
    simp [this] at hi
  | co => simp [wordsL] at hi
  | at_ s a c j n hc h0 h1 hn hin =>
    have : i = 0 := by
      simp [wordsL] at hi; exact hi
    subst this
    rfl
  | st s a d p hd hp hin =>
    have hi' := inB_iff.1 hin
    have hid : (i : Int) < d := by simp [wordsN] at hl; omega
    simp only [wordsL, show ¬ (1 : Int) = 10 from by decide, if_false, if_true, List.getElem_take, List.getElem_drop]
    unfold wd
    rw [show (a + (i : Int)).toNat = a.toNat + i by omega, List.getElem?_eq_getElem (by omega)]
    rfl
end
/-- what an index counts up to -/
theorem kid_lt {t x : Tr} (h : x ∈ t.Kids) : SizeOf.sizeOf x < SizeOf.sizeOf t := by
  obtain ⟨k, w, ks⟩ := t
  have := List.sizeOf_lt_of_mem h
  simp only [S_api_Tree.mk.sizeOf_spec]
  simp only at this
  omega
/-- rounds over a list's kids with an index alone -/
theorem loop_any {α R : Type} (xs : List α) (step : Int → Option (Int ⊕ R)) (p : α → Bool) (e o : R) (hl : (xs.length : Int) ≤ 140737488355328)
    (h1 : ∀ (i : Nat) (x : α), i < xs.length → xs[i]? = some x → x ∈ xs → step i = some (if p x = true then .inr e else .inl (IntKind.i64.wrap ((i : Int) + 1)))) (h2 : step xs.length = some (.inr o)) : runLoop step 0 = some (if xs.any p = true then e else o) := by
  have hloop := loop_each xs (fun i (_ : Unit) => i) step (fun _ x => some (if p x = true then .inr e else .inl ())) (fun _ => o) (fun i s x hi hx => by
    rw [h1 i x hi hx (List.mem_of_getElem? hx), i64s (by omega) (by omega)]
    cases p x <;> rfl) (fun _ => h2) ()
  refine hloop.trans ?_
  rw [foldE_find p (fun s _ => s) e (fun _ _ => True) xs.length xs () 0 (by omega) trivial (fun s k x _ _ _ => ⟨by cases p x <;> rfl, fun _ => trivial⟩)]
/-- without such as are of a kind, at the end -/
def tr {α : Type} (p : α → Bool) : List α → List α
  | [] => []
  | x :: xs => match tr p xs with
    | [] => if p x = true then [] else [x]
    | y :: ys => x :: y :: ys
def trN {α : Type} (p : α → Bool) (l : List α) : Nat → Nat
  | 0 => 0
  | n + 1 => match l[n]? with
    | some x => if p x = true then trN p l n else n + 1
    | none => 0
theorem tr_append_t {α : Type} {p : α → Bool} {x : α} (h : p x = true) : ∀ l : List α, tr p (l ++ [x]) = tr p l
  | [] => by simp [tr, h]
  | y :: l => by simp only [List.cons_append, tr, tr_append_t h l]
theorem tr_append_f {α : Type} {p : α → Bool} {x : α} (h : p x = false) : ∀ l : List α, tr p (l ++ [x]) = l ++ [x]
  | [] => by simp [tr, h]
  | y :: l => by
    simp only [List.cons_append, tr, tr_append_f h l]
    cases hl : l ++ [x] with
    | nil => simp at hl
    | cons a b => rfl
theorem trN_tr {α : Type} {p : α → Bool} {l : List α} : ∀ n, n ≤ l.length → l.take (trN p l n) = tr p (l.take n) ∧ trN p l n ≤ n
  | 0, _ => by simp [trN, tr]
  | n + 1, h => by
    have hn : l[n]? = some l[n] := List.getElem?_eq_getElem (by omega)
    have e : l.take (n + 1) = l.take n ++ [l[n]] := by rw [List.take_add_one, hn]; rfl
    obtain ⟨h1, h2⟩ := trN_tr (p := p) (l := l) n (by omega)
    unfold trN
    rw [hn]
    simp only
    split
    · rename_i hp
      rw [e, tr_append_t hp]
      exact ⟨h1, by omega⟩
    · rename_i hp
      rw [e, tr_append_f (by simpa using hp), ← e]
      exact ⟨rfl, Nat.le_refl _⟩
theorem tr_len {α : Type} (p : α → Bool) : ∀ l : List α, (tr p l).length ≤ l.length
  | [] => by simp [tr]
  | x :: l => by
    have := tr_len p l
    simp only [tr]
    split
    · split <;> simp
    · rename_i y ys he
      rw [he] at this
      simp at this ⊢
      omega
theorem tr_mem {α : Type} {p : α → Bool} {x : α} : ∀ {l : List α}, x ∈ tr p l → x ∈ l
  | [], h => by simp [tr] at h
  | y :: l, h => by
    simp only [tr] at h
    split at h
    · split at h
      · simp at h
      · simp at h; simp [h]
    · rename_i z zs he
      rw [← he] at h
      rcases List.mem_cons.1 h with h | h
      · simp [h]
      · exact List.mem_cons_of_mem _ (tr_mem h)
theorem tr_map {α β : Type} {p : α → Bool} {q : β → Bool} {f : α → β} (h : ∀ x, q (f x) = p x) : ∀ l : List α, tr q (l.map f) = (tr p l).map f
  | [] => rfl
  | x :: l => by
    simp only [List.map_cons, tr, tr_map h l]
    cases tr p l with
    | nil => simp only [List.map_nil, h]; split <;> rfl
    | cons y ys => rfl
/-- the rounds that look for the end -/
theorem loop_tr {α : Type} (l : List α) (p : α → Bool) (step : Int → Option (Int ⊕ Int)) (hl : (l.length : Int) ≤ 140737488355328)
    (h0 : step 0 = some (.inr 0)) (h1 : ∀ (n : Nat) (x : α), l[n]? = some x → n < l.length → step ((n + 1 : Nat) : Int) = some (if p x = true then .inl (n : Int) else .inr ((n + 1 : Nat) : Int))) : runLoop step (l.length : Int) = some (trN p l l.length : Int) := by
  have key : ∀ n : Nat, n ≤ l.length → runLoop step (n : Int) = some (trN p l n : Int) := fun n => by
    induction n with
    | zero => intro _; exact runLoop_end h0
    | succ n ih =>
      intro hn
      have hx : l[n]? = some l[n] := List.getElem?_eq_getElem (by omega)
      have h := h1 n _ hx (by omega)
      unfold trN
      rw [hx]
      simp only
      split
      · rename_i hp
        rw [if_pos hp] at h
        rw [runLoop_step h]
        exact ih (by omega)
      · rename_i hp
        rw [if_neg hp] at h
        exact runLoop_end h
  exact key l.length (Nat.le_refl _)
theorem sub_take {α : Type} {l : List α} {n : Nat} (h : n ≤ l.length) : subI l 0 (n : Int) = some (l.take n) := by
  rw [subI_ok (by omega) (by omega) (by omega)]
  simp
theorem gt_t {n : Nat} : decide (0 < ((n + 1 : Nat) : Int)) = true := by rw [decide_eq_true_eq]; omega
theorem trimWords_ok {l : List Int} (hl : (l.length : Int) ≤ 140737488355328) : m_tree_trimWords l = some (tr (fun x => x == 0) l) := by
  have hloop := loop_tr l (fun x => x == 0) (m_tree_trimWords_L0 l) hl (by unfold m_tree_trimWords_L0; rfl) (fun n x hx hn => by
    unfold m_tree_trimWords_L0
    rw [gt_t, cond_true, i64s (by omega) (by omega)]
    have e : ((n + 1 : Nat) : Int) - 1 = (n : Int) := by omega
    rw [e, getI_of hx]
    simp only [Option.bind_some, cond_true]
    cases x == 0 <;> rfl)
  obtain ⟨h1, h2⟩ := trN_tr (p := fun x => x == 0) (l := l) l.length (Nat.le_refl _)
  unfold m_tree_trimWords
  rw [hloop, Option.bind_some, sub_take h2, Option.bind_some, h1, List.take_length]
theorem trimKids_ok {l : List Tr} (hl : (l.length : Int) ≤ 140737488355328) : m_tree_trimKids l = some (tr (fun x => x.Kind == 0) l) := by
  have hloop := loop_tr l (fun x => x.Kind == 0) (m_tree_trimKids_L0 l) hl (by unfold m_tree_trimKids_L0; rfl) (fun n x hx hn => by
    unfold m_tree_trimKids_L0
    rw [gt_t, cond_true, i64s (by omega) (by omega)]
    have e : ((n + 1 : Nat) : Int) - 1 = (n : Int) := by omega
    rw [e, getI_of hx]
    simp only [Option.bind_some, cond_true]
    cases x.Kind == 0 <;> rfl)
  obtain ⟨h1, h2⟩ := trN_tr (p := fun x => x.Kind == 0) (l := l) l.length (Nat.le_refl _)
  unfold m_tree_trimKids
  rw [hloop, Option.bind_some, sub_take h2, Option.bind_some, h1, List.take_length]
/-- lengths and words as memory has them, all the way down -/
inductive Bd : Tr → Prop
  | mk (t : Tr) (h1 : t.Words.length * 8 ≤ 140737488355328) (h2 : t.Kids.length * 56 ≤ 140737488355328) (h3 : ∀ w ∈ t.Words, 0 ≤ w ∧ w < 18446744073709551616) (h4 : ∀ k ∈ t.Kids, Bd k) : Bd t
theorem Bd.w {t : Tr} (h : Bd t) : t.Words.length * 8 ≤ 140737488355328 := by cases h; assumption
theorem Bd.k {t : Tr} (h : Bd t) : t.Kids.length * 56 ≤ 140737488355328 := by cases h; assumption
theorem Bd.u {t : Tr} (h : Bd t) : ∀ w ∈ t.Words, 0 ≤ w ∧ w < 18446744073709551616 := by cases h; assumption
theorem Bd.all {t : Tr} (h : Bd t) : ∀ k ∈ t.Kids, Bd k := by cases h; assumption
/-- what means the same, without what is in vain -/
def nrm (t : Tr) : Tr :=
  if t.Kind = 0 then ⟨0, [], []⟩
  else if t.Kind = 1 then ⟨1, tr (fun x => x == 0) t.Words, tr (fun x => x.Kind == 0) (t.Kids.attach.map fun k => nrm k.1)⟩
  else ⟨t.Kind, t.Words, t.Kids.attach.map fun k => nrm k.1⟩
termination_by SizeOf.sizeOf t
decreasing_by all_goals exact kid_lt k.2
theorem nrm_eq (t : Tr) : nrm t = if t.Kind = 0 then ⟨0, [], []⟩ else if t.Kind = 1 then ⟨1, tr (fun x => x == 0) t.Words, tr (fun x => x.Kind == 0) (t.Kids.map nrm)⟩ else ⟨t.Kind, t.Words, t.Kids.map nrm⟩ := by
  rw [nrm]
  simp only [List.attach_map_val]
theorem nrm_kind (t : Tr) : (nrm t).Kind = t.Kind := by
  rw [nrm_eq]
  split
  · rename_i h; exact h.symm
  · split
    · rename_i h; exact h.symm
    · rfl

theorem set_next {α β : Type} {xs : List α} {f : α → β} {z : β} {i m : Nat} {x : α} (hi : i + (m + 1) = xs.length) (hx : xs[i]? = some x) :
    ((xs.take i).map f ++ List.replicate (m + 1) z).set i (f x) = (xs.take (i + 1)).map f ++ List.replicate m z := by
  have hl : ((xs.take i).map f).length = i := by rw [List.length_map, List.length_take]; omega
  rw [List.set_append, if_neg (by omega), hl, Nat.sub_self, List.replicate_succ, List.set_cons_zero, List.take_add_one, hx]
  simp
/-- rounds that fill a row -/
theorem loop_set {α β : Type} (xs : List α) (f : α → β) (z : β) (step : Int × List β → Option ((Int × List β) ⊕ List β)) (hl : (xs.length : Int) ≤ 140737488355328)
    (h1 : ∀ (i : Nat) (x : α) (out : List β) (y : β), i < xs.length → xs[i]? = some x → x ∈ xs → out[i]? = some y → step ((i : Int), out) = some (.inl (IntKind.i64.wrap ((i : Int) + 1), setI out (i : Int) (f x))))
    (h2 : ∀ out, step ((xs.length : Int), out) = some (.inr out)) : runLoop step (0, List.replicate xs.length z) = some (xs.map f) := by
  have key : ∀ m i, i + m = xs.length → runLoop step ((i : Int), (xs.take i).map f ++ List.replicate m z) = some (xs.map f) := fun m => by
    induction m with
    | zero =>
      intro i hi
      have hi' : i = xs.length := by omega
      subst hi'
      rw [List.take_length, List.replicate_zero, List.append_nil]
      exact runLoop_end (h2 _)
    | succ m ih =>
      intro i hi
      have hx : xs[i]? = some xs[i] := List.getElem?_eq_getElem (by omega)
      have hl' : ((xs.take i).map f).length = i := by rw [List.length_map, List.length_take]; omega
      have hy : ((xs.take i).map f ++ List.replicate (m + 1) z)[i]? = some z := by
        rw [List.getElem?_append_right (by omega), hl', Nat.sub_self, List.replicate_succ]; rfl
      have h := h1 i _ _ z (by omega) hx (List.mem_of_getElem? hx) hy
      rw [i64s (by omega) (by omega)] at h
      rw [runLoop_step h]
      unfold setI
      rw [Int.toNat_natCast, set_next (by omega) hx]
      exact ih (i + 1) (by omega)
  have := key xs.length 0 (by omega)
  simpa using this
theorem norm_lv : ∀ (k : Nat) (t : Tr), Bd t → SizeOf.sizeOf t < k → lv_tree_Norm k t = some (nrm t)
  | 0, t, _, h => by omega
  | k + 1, t, hb, hk => by
    have ih : ∀ x ∈ t.Kids, lv_tree_Norm k x = some (nrm x) := fun x hx => norm_lv k x (hb.all x hx) (by have := kid_lt hx; omega)
    have hw := hb.w
    have hkd := hb.k
    show b_tree_Norm (lv_tree_Norm k) t = _
    unfold b_tree_Norm
    rw [nrm_eq]
    by_cases h0 : t.Kind = 0
    · rw [if_pos h0, h0]; rfl
    have e0 : (t.Kind == 0) = false := by rw [beq_eq_false_iff_ne]; exact h0
    rw [if_neg h0, e0, cond_false]
    have main : ∀ (w : List Int) (ks : List Tr), (ks.length : Int) ≤ 140737488355328 → (56 : Int) * ks.length ≤ 140737488355328 → (∀ x ∈ ks, lv_tree_Norm k x = some (nrm x)) →
        ((cond (decide (0 < ((w, ks).2.length : Int))) ((makeI 56 ((w, ks).2.length : Int) (⟨(0 : Int), ([] : (List Int)), ([] : (List S_api_Tree))⟩ : S_api_Tree)).bind fun l6 => some l6) (some ([] : List S_api_Tree))).bind fun (z5 : (List S_api_Tree)) => (runLoop (b_tree_Norm_L0 (lv_tree_Norm k) (w, ks)) (0, z5)).bind fun (z14 : (List S_api_Tree)) => some (⟨t.Kind, (w, ks).1, z14⟩ : S_api_Tree)) = some ⟨t.Kind, w, ks.map nrm⟩ := fun w ks h1 h2 hks => by
      have hz : (cond (decide (0 < ((w, ks).2.length : Int))) ((makeI 56 ((w, ks).2.length : Int) (⟨(0 : Int), ([] : (List Int)), ([] : (List S_api_Tree))⟩ : S_api_Tree)).bind fun l6 => some l6) (some ([] : List S_api_Tree))) = some (List.replicate ks.length (⟨0, [], []⟩ : Tr)) := by
        cases ks with
        | nil => rfl
        | cons y ys =>
          have : decide (0 < (((w, y :: ys).2.length : Nat) : Int)) = true := by rw [decide_eq_true_eq]; simp
          rw [this, cond_true, makeI_ok (Int.natCast_nonneg _) h2 h1, Option.bind_some, Int.toNat_natCast]
      rw [hz, Option.bind_some]
      rw [loop_set ks nrm _ (b_tree_Norm_L0 (lv_tree_Norm k) (w, ks)) h1 (fun i x out z hi hx hm hz => by
          unfold b_tree_Norm_L0
          simp only
          rw [lt_t hi, cond_true, getI_of hx, Option.bind_some, hks x hm, Option.bind_some, getI_of hz, Option.bind_some]) (fun out => by
          unfold b_tree_Norm_L0
          simp only
          rw [lt_f, cond_false]), Option.bind_some]
    by_cases h1 : t.Kind = 1
    · have e1 : (t.Kind == 1) = true := by rw [beq_iff_eq]; exact h1
      have l1 := tr_len (fun x : Tr => x.Kind == 0) t.Kids
      rw [if_pos h1, e1, cond_true, trimWords_ok (by omega), Option.bind_some, trimKids_ok (by omega), Option.bind_some, Option.bind_some]
      rw [main _ _ (by omega) (by omega) (fun x hx => ih x (tr_mem hx)), tr_map (fun x => by rw [nrm_kind]), h1]
    · have e1 : (t.Kind == 1) = false := by rw [beq_eq_false_iff_ne]; exact h1
      rw [if_neg h1, e1, cond_false, Option.bind_some]
      exact main _ _ (by omega) (by omega) ih
theorem norm_ok {t : Tr} (h : Bd t) : m_tree_Norm t = some (nrm t) := lim_eq (SizeOf.sizeOf t + 1) fun k hk => norm_lv k t h (by omega)
theorem nrm_bd : ∀ (n : Nat) (t : Tr), SizeOf.sizeOf t < n → Bd t → Bd (nrm t)
  | 0, t, h, _ => by omega
  | n + 1, t, hn, hb => by
    have ih : ∀ x ∈ t.Kids, Bd (nrm x) := fun x hx => nrm_bd n x (by have := kid_lt hx; omega) (hb.all x hx)
    have hw := hb.w
    have hk := hb.k
    rw [nrm_eq]
    split
    · exact .mk _ (by simp) (by simp) (fun w h => by simp at h) (fun w h => by simp at h)
    · split
      · have l1 := tr_len (fun x : Int => x == 0) t.Words
        have l2 := tr_len (fun x : Tr => x.Kind == 0) (t.Kids.map nrm)
        rw [List.length_map] at l2
        refine .mk _ (by simp only; omega) (Nat.le_trans (Nat.mul_le_mul_right 56 l2) hk) (fun w h => hb.u w (tr_mem h)) (fun x h => ?_)
        obtain ⟨y, hy, rfl⟩ := List.mem_map.1 (tr_mem h)
        exact ih y hy
      · refine .mk _ hw (by simp only [List.length_map]; exact hk) hb.u (fun x h => ?_)
        obtain ⟨y, hy, rfl⟩ := List.mem_map.1 h
        exact ih y hy
theorem Bd.nrm {t : Tr} (h : Bd t) : Bd (nrm t) := nrm_bd _ t (Nat.lt_succ_self _) h
/-- the same, part by part -/
def eqT (a b : Tr) : Bool := a.Kind == b.Kind && (a.Words == b.Words && (a.Kids.length == b.Kids.length && (a.Kids.attach.zip b.Kids).all fun p => eqT p.1.1 p.2))
termination_by SizeOf.sizeOf a
decreasing_by exact kid_lt p.1.2
def eqL : List Tr → List Tr → Bool
  | [], [] => true
  | x :: xs, y :: ys => eqT x y && eqL xs ys
  | _, _ => false

end Go.Proofs.Ytpfbdlcnfekdkaa
