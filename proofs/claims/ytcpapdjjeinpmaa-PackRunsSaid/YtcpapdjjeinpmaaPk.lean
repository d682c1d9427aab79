/- Lemmas used by the proofs of this seat's laws (part Pk); each theorem bears its own conditions. -/
import Derived.Test.YtcpapdjjeinpmaaNum
import Derived.Test.YtcpapdjjeinpmaaMem
import Derived.WalkKit
import Derived.WalkSpells
import Derived.WalkLawsBesides
import Derived.Lib.Hide
import Derived.BigQuiet
import Derived.Deep.QuietTactic
import Derived.ProofKit
import Derived.OpenShut
import Derived.SizedLaws
namespace Go.Proofs.Ytcpapdjjeinpmaa
open Go.RowKit
set_option linter.unusedVariables false
/-- which bytes a tag names -/
def named (t : Nat) : List Nat := (List.range 8).filter (bitB t)
def selN (t x : Nat) : List Nat := (named t).map (byteN x)
def popN (t : Nat) : Nat := (named t).length
/-- how many bytes of a word are not 0 -/
def p0 (x : Nat) : Bool := decide (x = 0)
def p7 (x : Nat) : Bool := decide (7 ≤ popN (unl x 0 8))
/-- how many words of a run lead a list -/
def runN (p : Nat → Bool) (l : List Nat) : Nat := ((l.take 255).takeWhile p).length
theorem runN_le (p : Nat → Bool) (l : List Nat) : runN p l ≤ l.length ∧ runN p l ≤ 255 := by
  have h : runN p l ≤ (l.take 255).length := (List.takeWhile_prefix p).length_le
  rw [List.length_take] at h
  omega
theorem runN_at (p : Nat → Bool) : ∀ (l : List Nat) (n : Nat), (∀ i < n, p (l.getD i 0) = true) → n ≤ l.length → n ≤ 255 → (n = l.length ∨ n = 255 ∨ p (l.getD n 0) = false) → runN p l = n := by
  intro l n
  unfold runN
  have key : ∀ (m : Nat) (l : List Nat) (n : Nat), (∀ i < n, p (l.getD i 0) = true) → n ≤ l.length → n ≤ m → (n = l.length ∨ n = m ∨ p (l.getD n 0) = false) → ((l.take m).takeWhile p).length = n := by
    intro m
    induction m with
    | zero => intro l n _ _ hm _; simp; omega
    | succ m ih =>
      intro l n hp hl hm he
      cases l with
      | nil => simp at hl ⊢; omega
      | cons a l =>
        rw [List.take_succ_cons]
        cases n with
        | zero =>
          rcases he with h | h | h
          · simp at h
          · omega
          · have h' : p a = false := by simpa [List.getD] using h
            simp [h']
        | succ n =>
          have ha : p a = true := by have := hp 0 (by omega); simpa [List.getD] using this
          rw [List.takeWhile_cons, if_pos ha, List.length_cons, ih l n (fun i hi => by have := hp (i + 1) (by omega); simpa [List.getD] using this) (by simpa using hl) (by omega) (by
            rcases he with h | h | h
            · left; simpa using h
            · right; left; omega
            · right; right; simpa [List.getD] using h)]
  exact fun h1 h2 h3 h4 => key 255 l n h1 h2 h3 h4
def packF : Nat → List Nat → List Nat
  | 0, _ => []
  | _ + 1, [] => []
  | f + 1, x :: r =>
    (unl x 0 8 :: selN (unl x 0 8) x) ++
      (if unl x 0 8 = 0 then runN p0 r :: packF f (r.drop (runN p0 r))
       else if unl x 0 8 = 255 then runN p7 r :: (flatN (r.take (runN p7 r)) ++ packF f (r.drop (runN p7 r)))
       else packF f r)
theorem packF_fuel : ∀ (f g : Nat) (l : List Nat), l.length ≤ f → l.length ≤ g → packF f l = packF g l := by
  intro f
  induction f with
  | zero => intro g l hf hg; have : l = [] := List.eq_nil_of_length_eq_zero (by omega); subst this; cases g <;> rfl
  | succ f ih =>
    intro g l hf hg
    cases l with
    | nil => cases g <;> rfl
    | cons x r =>
      cases g with
      | zero => simp at hg
      | succ g =>
        simp only [List.length_cons] at hf hg
        simp only [packF]
        have h1 : ∀ n, packF f (r.drop n) = packF g (r.drop n) := fun n => ih g _ (by rw [List.length_drop]; omega) (by rw [List.length_drop]; omega)
        rw [h1, h1, ih g r (by omega) (by omega)]
def packN (l : List Nat) : List Nat := packF l.length l
theorem packN_nil : packN [] = [] := rfl
theorem packN_cons (x : Nat) (r : List Nat) : packN (x :: r) = (unl x 0 8 :: selN (unl x 0 8) x) ++
      (if unl x 0 8 = 0 then runN p0 r :: packN (r.drop (runN p0 r))
       else if unl x 0 8 = 255 then runN p7 r :: (flatN (r.take (runN p7 r)) ++ packN (r.drop (runN p7 r)))
       else packN r) := by
  unfold packN
  simp only [List.length_cons, packF]
  have h1 : ∀ n, packF r.length (r.drop n) = packF (r.drop n).length (r.drop n) := fun n => packF_fuel _ _ _ (by rw [List.length_drop]; omega) (Nat.le_refl _)
  rw [h1, h1]
theorem popN_le (t : Nat) : popN t ≤ 8 := by
  unfold popN named
  exact Nat.le_trans (List.length_filter_le _ _) (by simp)
theorem popN_zero : popN 0 = 0 := by decide
theorem packN_len (l : List Nat) : (packN l).length ≤ 10 * l.length := by
  have key : ∀ (n : Nat) (l : List Nat), l.length ≤ n → (packN l).length ≤ 10 * l.length := by
    intro n
    induction n with
    | zero => intro l hl; have : l = [] := List.eq_nil_of_length_eq_zero (by omega); subst this; simp [packN_nil]
    | succ n ih =>
      intro l hl
      cases l with
      | nil => simp [packN_nil]
      | cons x r =>
        simp only [List.length_cons] at hl ⊢
        rw [packN_cons, List.length_append, List.length_cons]
        have hs : (selN (unl x 0 8) x).length ≤ 8 := by unfold selN; rw [List.length_map]; exact popN_le _
        have h0 := (runN_le p0 r).1
        have h7 := (runN_le p7 r).1
        split
        · have := ih (r.drop (runN p0 r)) (by rw [List.length_drop]; omega)
          rw [List.length_drop] at this
          rw [List.length_cons]; omega
        · split
          · have := ih (r.drop (runN p7 r)) (by rw [List.length_drop]; omega)
            rw [List.length_drop] at this
            rw [List.length_cons, List.length_append, flatN_len, List.length_take]; omega
          · have := ih r (by omega)
            omega
  exact key _ l (Nat.le_refl _)
def selK (t x k : Nat) : List Nat := ((List.range k).filter (bitB t)).map (byteN x)
theorem selK_full (t x : Nat) : selK t x 8 = selN t x := rfl
theorem selK_yes {t x k : Nat} (h : bitB t k = true) : selK t x (k + 1) = selK t x k ++ [byteN x k] := by
  unfold selK; rw [List.range_succ, List.filter_append, List.map_append]; simp [h]
theorem selK_no {t x k : Nat} (h : bitB t k = false) : selK t x (k + 1) = selK t x k := by
  unfold selK; rw [List.range_succ, List.filter_append, List.map_append]; simp [h]
theorem selK_le (t x k : Nat) : (selK t x k).length ≤ k := by
  unfold selK; rw [List.length_map]; exact Nat.le_trans (List.length_filter_le _ _) (by simp)
theorem byteN_zero (k : Nat) : byteN 0 k = 0 := by simp [byteN]
theorem bit_unl0 (x k : Nat) (hk : k < 8) : bitB (unl x 0 8) k = !decide (byteN x k = 0) := by rw [unl_bit x 0 k 8 (by decide) hk, byteN_zero]
/-- how many bytes are 0, of the first k -/
def zcK (x k : Nat) : Nat := ((List.range k).filter fun i => decide (byteN x i = 0)).length
theorem zcK_zero (x : Nat) : zcK x 0 = 0 := rfl
theorem zcK_succ (x k : Nat) : zcK x (k + 1) = zcK x k + (if byteN x k = 0 then 1 else 0) := by
  unfold zcK
  rw [List.range_succ, List.filter_append, List.length_append]
  by_cases h : byteN x k = 0 <;> simp [h]
theorem zcK_le (x k : Nat) : zcK x k ≤ k := by unfold zcK; exact Nat.le_trans (List.length_filter_le _ _) (by simp)
theorem filter_both (p q : Nat → Bool) : ∀ (l : List Nat), (∀ i ∈ l, q i = !p i) → (l.filter p).length + (l.filter q).length = l.length
  | [], _ => rfl
  | a :: l, h => by
    have ih := filter_both p q l fun i hi => h i (.tail _ hi)
    have ha := h a (.head _)
    cases hp : p a <;> simp [hp, ha] <;> omega
theorem pop_zc (x : Nat) : popN (unl x 0 8) + zcK x 8 = 8 := by
  unfold popN named zcK
  have := filter_both (bitB (unl x 0 8)) (fun i => decide (byteN x i = 0)) (List.range 8) fun i hi => by
    rw [bit_unl0 x i (List.mem_range.1 hi)]; simp
  simpa using this
theorem p7_zc (x : Nat) : p7 x = decide (zcK x 8 < 2) := by
  have := pop_zc x
  unfold p7
  rw [Bool.eq_iff_iff]; simp only [decide_eq_true_eq]; omega
/-- how many bits are set below bit i -/
def rankN (t i : Nat) : Nat := ((List.range i).filter (bitB t)).length
theorem rankN_yes {t k : Nat} (h : bitB t k = true) : rankN t (k + 1) = rankN t k + 1 := by
  unfold rankN; rw [List.range_succ, List.filter_append, List.length_append]; simp [h]
theorem rankN_no {t k : Nat} (h : bitB t k = false) : rankN t (k + 1) = rankN t k := by
  unfold rankN; rw [List.range_succ, List.filter_append, List.length_append]; simp [h]
theorem rankN_full (t : Nat) : rankN t 8 = popN t := rfl
theorem rankN_mono (t : Nat) {i j : Nat} (h : i ≤ j) : rankN t i ≤ rankN t j := by
  induction h with
  | refl => exact Nat.le_refl _
  | step _ ih => exact Nat.le_trans ih (by
      rename_i m _
      cases hb : bitB t m
      · rw [rankN_no hb]; omega
      · rw [rankN_yes hb]; omega)
theorem rankN_lt {t k : Nat} (h : bitB t k = true) (hk : k < 8) : rankN t k < popN t := by
  have := rankN_mono t (show k + 1 ≤ 8 by omega)
  rw [rankN_yes h, rankN_full] at this
  omega
/-- byte i of what is spread -/
def sprF (t : Nat) (ps : List Nat) (i : Nat) : Nat := if bitB t i then ps.getD (rankN t i) 0 else 0
def sprN (t : Nat) (ps : List Nat) : Nat := bySum (sprF t ps) 8
theorem sprF_lt {t : Nat} {ps : List Nat} (h : ∀ n ∈ ps, n < 256) (i : Nat) : sprF t ps i < 256 := by
  unfold sprF
  split
  · by_cases hr : rankN t i < ps.length
    · rw [getD_lt hr]; exact h _ (List.getElem_mem hr)
    · rw [getD_ge (by omega)]; decide
  · decide
/-- the words of a run -/
def runW (t n : Nat) (r : List Nat) : List Nat := if t = 255 then wordsN (r.take (8 * n)) else List.replicate n 0
def runM (t : Nat) (rest words : List Nat) (most : Nat) : Nat × List Nat × List Nat :=
  match rest with
  | [] => (4, [], [])
  | n :: r => if t = 255 ∧ r.length < 8 * n then (4, [], []) else if most < words.length + (runW t n r).length then (3, [], []) else (0, (if t = 255 then r.drop (8 * n) else r), words ++ runW t n r)
def nextM (t : Nat) (r words : List Nat) (most : Nat) : Nat × List Nat × List Nat :=
  if r.length < popN t then (4, [], []) else if most < words.length + 1 then (3, [], [])
  else if t = 0 ∨ t = 255 then runM t (r.drop (popN t)) (words ++ [sprN t (r.take (popN t))]) most else (0, r.drop (popN t), words ++ [sprN t (r.take (popN t))])
def unpF : Nat → List Nat → List Nat → Nat → List Nat × Nat
  | 0, _, _, _ => ([], 0)
  | _ + 1, [], words, _ => (words, 0)
  | f + 1, t :: r, words, most => if (nextM t r words most).1 = 0 then unpF f (nextM t r words most).2.1 (nextM t r words most).2.2 most else ([], (nextM t r words most).1)
def unpN (b : List Nat) (most : Nat) : List Nat × Nat := unpF (b.length + 1) b [] most
theorem runW_len (t n : Nat) (r : List Nat) (h : t = 255 → 8 * n ≤ r.length) : (runW t n r).length = n := by
  unfold runW
  split
  · rename_i h1; rw [wordsN_len, List.length_take]; have := h h1; omega
  · simp
theorem runM_len (t : Nat) (rest words : List Nat) (most : Nat) : (runM t rest words most).2.1.length ≤ rest.length - 1 := by
  unfold runM
  split
  · simp
  · split
    · simp
    · split
      · simp
      · dsimp only
        split
        · rw [List.length_drop]; simp only [List.length_cons]; omega
        · simp
theorem nextM_len (t : Nat) (r words : List Nat) (most : Nat) : (nextM t r words most).2.1.length ≤ r.length := by
  unfold nextM
  split
  · simp
  · split
    · simp
    · split
      · refine Nat.le_trans (runM_len _ _ _ _) ?_; rw [List.length_drop]; omega
      · dsimp only; rw [List.length_drop]; omega
theorem runM_room (t : Nat) (rest words : List Nat) (most M : Nat) (ht : t = 0 ∨ t = 255) (h8 : ∀ n ∈ rest, n < 256) (hM : words.length + 128 * rest.length + 127 ≤ M) (h0 : (runM t rest words most).1 = 0) : (runM t rest words most).2.2.length + 128 * (runM t rest words most).2.1.length ≤ M := by
  unfold runM at *
  split
  · simp at h0
  · rename_i n r
    have hn : n < 256 := h8 n (.head _)
    simp only [List.length_cons] at hM
    split
    · rename_i h; simp [h] at h0
    · rename_i h
      split
      · rename_i h2; simp [h, h2] at h0
      · dsimp only
        have hl := runW_len t n r (fun e => by
          rcases Nat.lt_or_ge r.length (8 * n) with h3 | h3
          · exact absurd ⟨e, h3⟩ h
          · exact h3)
        rw [List.length_append, hl]
        split
        · rename_i h3
          have : ¬ r.length < 8 * n := fun h4 => h ⟨h3, h4⟩
          rw [List.length_drop]; omega
        · omega
theorem nextM_room (t : Nat) (r words : List Nat) (most M : Nat) (ht8 : t < 256) (h8 : ∀ n ∈ r, n < 256) (hpop : t ≠ 0 → 1 ≤ popN t) (hM : words.length + 128 * (r.length + 1) ≤ M) (h0 : (nextM t r words most).1 = 0) : (nextM t r words most).2.2.length + 128 * (nextM t r words most).2.1.length ≤ M := by
  unfold nextM at *
  split
  · rename_i h; simp [h] at h0
  · rename_i h
    split
    · rename_i h2; simp [h, h2] at h0
    · rename_i h2
      split
      · rename_i h3
        rw [if_neg h, if_neg h2, if_pos h3] at h0
        exact runM_room t _ _ most M h3 (fun n hn => h8 n (List.mem_of_mem_drop hn)) (by rw [List.length_append, List.length_drop]; simp only [List.length_cons, List.length_nil]; omega) h0
      · rename_i h3
        dsimp only
        have := hpop (fun e => h3 (.inl e))
        rw [List.length_append, List.length_drop]; simp only [List.length_cons, List.length_nil]; omega
theorem unpF_fuel : ∀ (f g : Nat) (b words : List Nat) (most : Nat), b.length < f → b.length < g → unpF f b words most = unpF g b words most := by
  intro f
  induction f with
  | zero => intro g b words most h; omega
  | succ f ih =>
    intro g b words most h1 h2
    cases g with
    | zero => omega
    | succ g =>
      cases b with
      | nil => rfl
      | cons t r =>
        simp only [unpF]
        have := nextM_len t r words most
        simp only [List.length_cons] at h1 h2
        rw [ih g _ _ _ (by omega) (by omega)]
/-- from here on, with so many words laid -/
def unpG (b words : List Nat) (most : Nat) : List Nat × Nat := unpF (b.length + 1) b words most
theorem unpG_nil (words : List Nat) (most : Nat) : unpG [] words most = (words, 0) := rfl
theorem unpG_cons (t : Nat) (r words : List Nat) (most : Nat) : unpG (t :: r) words most = if (nextM t r words most).1 = 0 then unpG (nextM t r words most).2.1 (nextM t r words most).2.2 most else ([], (nextM t r words most).1) := by
  unfold unpG
  simp only [List.length_cons]
  conv => lhs; unfold unpF
  have := nextM_len t r words most
  rw [unpF_fuel _ ((nextM t r words most).2.1.length + 1) _ _ _ (by omega) (by omega)]
theorem popN_pos {t : Nat} (ht : t < 256) (h : t ≠ 0) : 1 ≤ popN t := by
  have key : (List.range 256).all (fun i => decide (i = 0 ∨ 1 ≤ popN i)) = true := by decide +kernel
  have := of_decide_eq_true (List.all_eq_true.1 key t (List.mem_range.2 ht))
  omega
theorem mem_nextM {t : Nat} {r words : List Nat} {most : Nat} {n : Nat} (h : n ∈ (nextM t r words most).2.1) : n ∈ r := by
  have hr : ∀ rest ws, n ∈ (runM t rest ws most).2.1 → n ∈ rest := by
    intro rest ws h
    unfold runM at h
    split at h
    · cases h
    · split at h
      · cases h
      · split at h
        · cases h
        · dsimp only at h
          split at h
          · exact .tail _ (List.mem_of_mem_drop h)
          · exact .tail _ h
  unfold nextM at h
  split at h
  · cases h
  · split at h
    · cases h
    · split at h
      · exact List.mem_of_mem_drop (hr _ _ h)
      · exact List.mem_of_mem_drop h
theorem sprF_take (t : Nat) (r : List Nat) (k : Nat) (hk : k < 8) : sprF t (r.take (popN t)) k = sprF t r k := by
  unfold sprF
  split
  · rename_i h
    have hr := rankN_lt h hk
    simp only [List.getD, List.getElem?_take, if_pos hr]
  · rfl
theorem sprN_take (t : Nat) (r : List Nat) : sprN t (r.take (popN t)) = sprN t r := by
  unfold sprN
  exact mixN_congr _ _ 8 fun k hk => sprF_take t r k hk
theorem rep_snoc (i : Nat) : List.replicate (i + 1) 0 = List.replicate i 0 ++ [0] := List.replicate_succ'
theorem runM_le {t : Nat} {rest words : List Nat} {most : Nat} (h0 : (runM t rest words most).1 = 0) : (runM t rest words most).2.2.length ≤ most := by
  unfold runM at *
  split
  · simp at h0
  · split
    · rename_i h; simp [h] at h0
    · rename_i h
      split
      · rename_i h2; simp [h, h2] at h0
      · dsimp only; rw [List.length_append]; omega
theorem nextM_le {t : Nat} {r words : List Nat} {most : Nat} (h0 : (nextM t r words most).1 = 0) : (nextM t r words most).2.2.length ≤ most := by
  unfold nextM at *
  split
  · rename_i h; simp [h] at h0
  · rename_i h
    split
    · rename_i h2; simp [h, h2] at h0
    · rename_i h2
      rw [if_neg h, if_neg h2] at h0
      split
      · rename_i h3; rw [if_pos h3] at h0; exact runM_le h0
      · dsimp only; rw [List.length_append]; simp only [List.length_cons, List.length_nil]; omega
theorem unpG_le : ∀ (n : Nat) (b words : List Nat) (most : Nat), b.length ≤ n → words.length ≤ most → (unpG b words most).1.length ≤ most := by
  intro n
  induction n with
  | zero => intro b words most hb hw; have : b = [] := List.eq_nil_of_length_eq_zero (by omega); subst this; rw [unpG_nil]; exact hw
  | succ n ih =>
    intro b words most hb hw
    cases b with
    | nil => rw [unpG_nil]; exact hw
    | cons t r =>
      rw [unpG_cons]
      split
      · rename_i h
        exact ih _ _ _ (by have := nextM_len t r words most; simp only [List.length_cons] at hb; omega) (nextM_le h)
      · simp

end Go.Proofs.Ytcpapdjjeinpmaa
