/- Plain facts on this seat's mirrors (part AP3); each theorem bears its own conditions. -/
import Derived.Test.YtgijkjifiekkmaaAD
import Derived.IntWalk
namespace Go.Proofs.Ytgijkjifiekkmaa
open Go.RowKit
set_option linter.unusedVariables false
set_option linter.unusedSimpArgs false
/-- a number's four bytes -/
def le4 (n : Nat) : List Int := [((n % 256 : Nat) : Int), ((n / 256 % 256 : Nat) : Int), ((n / 65536 % 256 : Nat) : Int), ((n / 16777216 % 256 : Nat) : Int)]
/-- a word's eight bytes -/
def le8 (w : Nat) : List Int := [((w % 256 : Nat) : Int), ((w / 256 % 256 : Nat) : Int), ((w / 65536 % 256 : Nat) : Int), ((w / 16777216 % 256 : Nat) : Int), ((w / 4294967296 % 256 : Nat) : Int), ((w / 1099511627776 % 256 : Nat) : Int), ((w / 281474976710656 % 256 : Nat) : Int), ((w / 72057594037927936 % 256 : Nat) : Int)]
theorem number_p (xs : List Int) (n : Nat) (hn : n < 4294967296) (hx : xs.length ≤ 100000000) : m_frame_number xs n = some (xs ++ le4 n) := by
  unfold m_frame_number
  have e1 : (2 : Int) ^ min (Int.toNat 8) 64 = 256 := by decide
  have e2 : (2 : Int) ^ min (Int.toNat 16) 64 = 65536 := by decide
  have e3 : (2 : Int) ^ min (Int.toNat 24) 64 = 16777216 := by decide
  rw [e1, e2, e3, appI_ok (by simp only [List.length_cons, List.length_nil]; omega) (by simp only [List.length_cons, List.length_nil]; omega)]
  simp only [Option.bind_some, le4, IntKind.wrap_u8, Int.fdiv_eq_ediv_of_nonneg _ (show (0 : Int) ≤ 256 by decide), Int.fdiv_eq_ediv_of_nonneg _ (show (0 : Int) ≤ 65536 by decide), Int.fdiv_eq_ediv_of_nonneg _ (show (0 : Int) ≤ 16777216 by decide)]
  simp only [Option.some.injEq, List.append_cancel_left_eq, List.cons.injEq, and_true]
  omega
def headN (k : Nat) : Nat := (4 * (k + 1) + 7) / 8 * 8
theorem headLen_p (k : Nat) (hk : k ≤ 1000000) : m_frame_headLen k = some (headN k : Int) := by
  unfold m_frame_headLen headN
  rw [i64w (x := (k : Int) + 1) (by omega), i64w (x := 4 * ((k : Int) + 1)) (by omega), i64w (x := 4 * ((k : Int) + 1) + 7) (by omega), Int.tdiv_eq_ediv_of_nonneg (by omega), i64w (x := (4 * ((k : Int) + 1) + 7) / 8) (by omega), i64w (by omega)]
  congr 1
theorem frameable_p (l : List (List Int)) (hl : l.length ≤ 1000000000000) : m_frame_frameable l = some (decide (1 ≤ l.length ∧ l.length ≤ 16 ∧ ∀ s ∈ l, s.length ≤ 65536)) := by
  unfold m_frame_frameable
  by_cases h0 : l.length < 1
  · have : decide ((l.length : Int) < 1) = true := by simp; omega
    rw [this, cond_true, cond_true]
    congr 1
    symm
    simp only [decide_eq_false_iff_not]
    omega
  have c0 : decide ((l.length : Int) < 1) = false := by simp; omega
  by_cases h1 : 16 < l.length
  · have : decide (16 < (l.length : Int)) = true := by simp; omega
    rw [c0, this, cond_false, cond_true]
    congr 1
    symm
    simp only [decide_eq_false_iff_not]
    omega
  have c1 : decide (16 < (l.length : Int)) = false := by simp; omega
  rw [c0, c1, cond_false, cond_false]
  have hloop := loop_each l (fun i (_ : Unit) => i) (m_frame_frameable_L0 l) (fun _ x => if 65536 < x.length then some (.inr (.inl ())) else some (.inl ())) (fun _ => .inr ()) (fun i s x hi hx => by
    unfold m_frame_frameable_L0
    have : decide ((i : Int) < l.length) = true := by simp; omega
    rw [this, cond_true, getI_of hx, Option.bind_some]
    by_cases h : 65536 < x.length
    · have e : decide (65536 < (x.length : Int)) = true := by simp; omega
      rw [e, cond_true, if_pos h]
    · have e : decide (65536 < (x.length : Int)) = false := by simp; omega
      rw [e, cond_false, if_neg h, i64w (by omega)]
      rfl) (fun s => by
    unfold m_frame_frameable_L0
    have : decide ((l.length : Int) < l.length) = false := by simp
    rw [this, cond_false]) ()
  rw [hloop]
  have key : ∀ xs : List (List Int), foldE (fun (_ : Unit) (x : List Int) => if 65536 < x.length then some (.inr (.inl ())) else some (.inl ())) (fun _ => (.inr () : Unit ⊕ Unit)) xs () = some (if ∀ s ∈ xs, s.length ≤ 65536 then .inr () else .inl ()) := fun xs => by
    induction xs with
    | nil => simp [foldE]
    | cons x xs ih =>
      unfold foldE
      by_cases h : 65536 < x.length
      · rw [if_pos h]
        have : ¬ ∀ s ∈ x :: xs, s.length ≤ 65536 := fun q => by have := q x (.head _); omega
        rw [if_neg this]
      · rw [if_neg h]
        simp only
        rw [ih]
        have : (∀ s ∈ x :: xs, s.length ≤ 65536) ↔ ∀ s ∈ xs, s.length ≤ 65536 := by simp; omega
        by_cases q : ∀ s ∈ xs, s.length ≤ 65536
        · rw [if_pos q, if_pos (this.2 q)]
        · rw [if_neg q, if_neg (fun z => q (this.1 z))]
  rw [key]
  by_cases q : ∀ s ∈ l, s.length ≤ 65536
  · rw [if_pos q]
    simp only [Option.bind_some]
    congr 1
    symm
    simp only [decide_eq_true_eq]
    exact ⟨by omega, by omega, q⟩
  · rw [if_neg q]
    simp only [Option.bind_some]
    congr 1
    symm
    simp only [decide_eq_false_iff_not]
    exact fun z => q z.2.2

theorem byte_of (w i : Nat) (hi : i < 8) : IntKind.u8.wrap (Int.fdiv (w : Int) (2 ^ min (Int.toNat (IntKind.i64.wrap (8 * (i : Int)))) 64)) = ((w / 256 ^ i % 256 : Nat) : Int) := by
  rw [i64w (by omega), show min (Int.toNat (8 * (i : Int))) 64 = 8 * i by omega, show ((2 : Int) ^ (8 * i)) = ((256 ^ i : Nat) : Int) by rw [Int.pow_mul]; simp, Int.fdiv_eq_ediv_of_nonneg _ (Int.natCast_nonneg _), ← Int.natCast_ediv, IntKind.wrap_u8]
  rfl
theorem bytes_step (w i : Nat) (hi : i < 8) (a : Arr Int 8) : m_word_Bytes_L0 w ((i : Int), a) = some (.inl (((i + 1 : Nat) : Int), a.put i ((w / 256 ^ i % 256 : Nat) : Int))) := by
  unfold m_word_Bytes_L0
  simp only
  have e : decide ((i : Int) < 8) = true := by simp; omega
  have hx : ∃ x, getI a.1 (i : Int) = some x := ⟨a.1[i]'(by rw [a.2]; exact hi), getI_of (List.getElem?_eq_getElem _)⟩
  obtain ⟨x, hx⟩ := hx
  rw [e, cond_true, guardI_ok (by rw [i64w (by omega)]; omega), Option.bind_some, hx, Option.bind_some, byte_of w i hi, i64w (by omega)]
  rfl
theorem bytes_p (w : Nat) : m_word_Bytes w = some ⟨le8 w, rfl⟩ := by
  unfold m_word_Bytes
  simp only [Option.bind_some]
  have s0 := fun a => runLoop_step (bytes_step w 0 (by decide) a)
  have s1 := fun a => runLoop_step (bytes_step w 1 (by decide) a)
  have s2 := fun a => runLoop_step (bytes_step w 2 (by decide) a)
  have s3 := fun a => runLoop_step (bytes_step w 3 (by decide) a)
  have s4 := fun a => runLoop_step (bytes_step w 4 (by decide) a)
  have s5 := fun a => runLoop_step (bytes_step w 5 (by decide) a)
  have s6 := fun a => runLoop_step (bytes_step w 6 (by decide) a)
  have s7 := fun a => runLoop_step (bytes_step w 7 (by decide) a)
  have s8 : ∀ a, runLoop (m_word_Bytes_L0 w) (((8 : Nat) : Int), a) = some a := fun a => runLoop_end (by unfold m_word_Bytes_L0; rfl)
  have := (s0 ⟨[0, 0, 0, 0, 0, 0, 0, 0], rfl⟩).trans ((s1 _).trans ((s2 _).trans ((s3 _).trans ((s4 _).trans ((s5 _).trans ((s6 _).trans ((s7 _).trans (s8 _))))))))
  refine (congrArg (fun o => o.bind fun z => some z) this).trans ?_
  simp only [Option.bind_some, Option.some.injEq]
  refine Subtype.ext ?_
  show [((w / 256 ^ 0 % 256 : Nat) : Int), ((w / 256 ^ 1 % 256 : Nat) : Int), ((w / 256 ^ 2 % 256 : Nat) : Int), ((w / 256 ^ 3 % 256 : Nat) : Int), ((w / 256 ^ 4 % 256 : Nat) : Int), ((w / 256 ^ 5 % 256 : Nat) : Int), ((w / 256 ^ 6 % 256 : Nat) : Int), ((w / 256 ^ 7 % 256 : Nat) : Int)] = le8 w
  simp [le8]
/-- words -/
def isW (x : Int) : Prop := 0 ≤ x ∧ x < 18446744073709551616
def flatP (l : List Int) : List Int := (l.map fun x => le8 x.toNat).flatten
theorem le8_len (w : Nat) : (le8 w).length = 8 := rfl
theorem flatP_len (l : List Int) : (flatP l).length = 8 * l.length := by
  induction l with
  | nil => rfl
  | cons x l ih => unfold flatP at *; simp only [List.map_cons, List.flatten_cons, List.length_append, le8_len, List.length_cons, ih]; omega
theorem flat_fold (l : List Int) : ∀ s : List Int, l.foldl (fun s x => s ++ le8 x.toNat) s = s ++ flatP l := by
  induction l with
  | nil => intro s; simp [flatP]
  | cons x l ih => intro s; rw [List.foldl_cons, ih]; simp [flatP]
theorem flat_p (l : List Int) (hw : ∀ x ∈ l, isW x) (hl : l.length ≤ 10000000) : m_word_Flat l = some (flatP l) := by
  unfold m_word_Flat
  rw [i64w (x := 8 * (l.length : Int)) (by omega), makeI_ok (by omega) (by omega) (by omega), Option.bind_some]
  have hloop := loop_each l (fun i (s : List Int) => (i, s)) (m_word_Flat_L0 l) (fun s x => (m_word_Bytes x).bind fun y => (appI 1 s y.1).bind fun z => some (.inl z)) (fun s => s) (fun i s x hi hx => by
    unfold m_word_Flat_L0
    simp only
    have : decide ((i : Int) < l.length) = true := by simp; omega
    rw [this, cond_true, getI_of hx, Option.bind_some]
    cases m_word_Bytes x with
    | none => rfl
    | some y =>
      simp only [Option.bind_some]
      cases appI 1 s y.1 with
      | none => rfl
      | some z => simp only [Option.bind_some]; rw [i64w (by omega)]; rfl) (fun s => by
    unfold m_word_Flat_L0
    simp only
    have : decide ((l.length : Int) < l.length) = false := by simp
    rw [this, cond_false]) []
  rw [hloop]
  rw [foldE_map (fun s x => s ++ le8 x.toNat) (fun s k => s.length = 8 * k) l.length l [] 0 (by omega) rfl (fun s k x hx hk hI => ?_), flat_fold]
  · rfl
  · have hxw := hw x hx
    obtain ⟨w, rfl⟩ : ∃ w : Nat, x = w := ⟨x.toNat, by unfold isW at hxw; omega⟩
    rw [bytes_p w]
    simp only [Option.bind_some, Int.toNat_natCast]
    rw [appI_ok (by rw [hI, le8_len]; omega) (by rw [hI, le8_len]; omega)]
    exact ⟨rfl, by rw [List.length_append, hI, le8_len]; omega⟩
/-- segments' bytes -/
def okSegs (l : List (List Int)) : Prop := 1 ≤ l.length ∧ l.length ≤ 16 ∧ ∀ s ∈ l, s.length ≤ 65536
def numsP (l : List (List Int)) : List Int := le4 (l.length - 1) ++ (l.map fun s => le4 s.length).flatten
def headP (l : List (List Int)) : List Int := numsP l ++ List.replicate (headN l.length - (numsP l).length) 0
def frameP (l : List (List Int)) : List Int := headP l ++ (l.map flatP).flatten
theorem le4_len (n : Nat) : (le4 n).length = 4 := rfl
theorem le4s_len (l : List (List Int)) : ((l.map fun s => le4 s.length).flatten).length = 4 * l.length := by
  induction l with
  | nil => rfl
  | cons x l ih => simp only [List.map_cons, List.flatten_cons, List.length_append, le4_len, List.length_cons, ih]; omega
theorem numsP_len (l : List (List Int)) : (numsP l).length = 4 + 4 * l.length := by unfold numsP; rw [List.length_append, le4_len, le4s_len]
theorem headP_len (l : List (List Int)) : (headP l).length = headN l.length := by
  unfold headP; rw [List.length_append, List.length_replicate, numsP_len]; unfold headN; omega
theorem fold_nums (l : List (List Int)) : ∀ s : List Int, l.foldl (fun s x => s ++ le4 x.length) s = s ++ (l.map fun s => le4 s.length).flatten := by
  induction l with
  | nil => intro s; simp
  | cons x l ih => intro s; rw [List.foldl_cons, ih]; simp
theorem fold_flats (l : List (List Int)) : ∀ s : List Int, l.foldl (fun s x => s ++ flatP x) s = s ++ (l.map flatP).flatten := by
  induction l with
  | nil => intro s; simp
  | cons x l ih => intro s; rw [List.foldl_cons, ih]; simp
theorem frame_no (l : List (List Int)) (hl : l.length ≤ 1000000000000) (h : ¬ okSegs l) : m_frame_Frame l = some ([], false) := by
  unfold m_frame_Frame
  rw [frameable_p l hl]
  have : decide (1 ≤ l.length ∧ l.length ≤ 16 ∧ ∀ s ∈ l, s.length ≤ 65536) = false := by simpa [okSegs] using h
  rw [this]
  rfl
theorem frame_p (l : List (List Int)) (h : okSegs l) (hw : ∀ s ∈ l, ∀ x ∈ s, isW x) : m_frame_Frame l = some (frameP l, true) := by
  obtain ⟨h1, h2, h3⟩ := h
  unfold m_frame_Frame
  rw [frameable_p l (by omega)]
  have : decide (1 ≤ l.length ∧ l.length ≤ 16 ∧ ∀ s ∈ l, s.length ≤ 65536) = true := by simp; exact ⟨h1, h2, h3⟩
  rw [this, Option.bind_some, Bool.not_true, cond_false, i64w (by omega), show ((l.length : Int) - 1) = ((l.length - 1 : Nat) : Int) by omega, number_p [] (l.length - 1) (by omega) (by simp), Option.bind_some, List.nil_append]
  have e0 := loop_each l (fun i (s : List Int) => (i, s)) (m_frame_Frame_L0 l) (fun s x => (m_frame_number s (x.length : Int)).bind fun y => some (.inl y)) (fun s => s) (fun i s x hi hx => by
    unfold m_frame_Frame_L0
    simp only
    have : decide ((i : Int) < l.length) = true := by simp; omega
    rw [this, cond_true, getI_of hx, Option.bind_some]
    cases m_frame_number s (x.length : Int) with
    | none => rfl
    | some y => simp only [Option.bind_some]; rw [i64w (by omega)]; rfl) (fun s => by
    unfold m_frame_Frame_L0
    simp only
    have : decide ((l.length : Int) < l.length) = false := by simp
    rw [this, cond_false]) (le4 (l.length - 1))
  have e1 : runLoop (m_frame_Frame_L0 l) (0, le4 (l.length - 1)) = some (numsP l) := by
    refine e0.trans ?_
    rw [foldE_map (fun s x => s ++ le4 x.length) (fun s k => s.length = 4 + 4 * k) l.length l _ 0 (by omega) rfl (fun s k x hx hk hI => ?_), fold_nums]
    · rfl
    · have := h3 x hx
      rw [number_p s x.length (by omega) (by omega)]
      exact ⟨rfl, by rw [List.length_append, hI, le4_len]; omega⟩
  rw [e1, Option.bind_some]
  have e2 : runLoop (m_frame_Frame_L1 l) (numsP l) = some (headP l) := by
    refine runLoop_eq (fun s => ∃ k, (numsP l).length + k ≤ headN l.length ∧ s = numsP l ++ List.replicate k 0) (fun s => headN l.length - s.length) ?_ _ ⟨0, by rw [numsP_len]; unfold headN; omega, by simp⟩
    rintro s ⟨k, hk, rfl⟩
    unfold m_frame_Frame_L1
    rw [headLen_p l.length (by omega), Option.bind_some]
    have hN : headN l.length ≤ 1000 := by unfold headN; omega
    by_cases hlt : (numsP l).length + k < headN l.length
    · left
      refine ⟨numsP l ++ List.replicate (k + 1) 0, ?_, ⟨k + 1, by omega, rfl⟩, by simp only [List.length_append, List.length_replicate]; omega⟩
      have : decide (((numsP l ++ List.replicate k (0 : Int)).length : Int) < (headN l.length : Int)) = true := by simp only [List.length_append, List.length_replicate]; simp; omega
      rw [this, cond_true, appI_ok (by simp only [List.length_append, List.length_replicate, List.length_cons, List.length_nil]; omega) (by simp only [List.length_append, List.length_replicate, List.length_cons, List.length_nil]; omega), Option.bind_some, List.append_assoc, ← List.replicate_succ']
    · right
      have : decide (((numsP l ++ List.replicate k (0 : Int)).length : Int) < (headN l.length : Int)) = false := by simp only [List.length_append, List.length_replicate]; simp; omega
      rw [this, cond_false]
      unfold headP
      rw [show headN l.length - (numsP l).length = k by omega]
  rw [e2, Option.bind_some]
  have e3 := loop_each l (fun i (s : List Int) => (i, s)) (m_frame_Frame_L2 l) (fun s x => (m_word_Flat x).bind fun y => (appI 1 s y).bind fun z => some (.inl z)) (fun s => s) (fun i s x hi hx => by
    unfold m_frame_Frame_L2
    simp only
    have : decide ((i : Int) < l.length) = true := by simp; omega
    rw [this, cond_true, getI_of hx, Option.bind_some]
    cases m_word_Flat x with
    | none => rfl
    | some y =>
      simp only [Option.bind_some]
      cases appI 1 s y with
      | none => rfl
      | some z => simp only [Option.bind_some]; rw [i64w (by omega)]; rfl) (fun s => by
    unfold m_frame_Frame_L2
    simp only
    have : decide ((l.length : Int) < l.length) = false := by simp
    rw [this, cond_false]) (headP l)
  have e4 : runLoop (m_frame_Frame_L2 l) (0, headP l) = some (frameP l) := by
    refine e3.trans ?_
    have hN : headN l.length ≤ 1000 := by unfold headN; omega
    rw [foldE_map (fun s x => s ++ flatP x) (fun s k => s.length ≤ 1000 + 524288 * k) l.length l _ 0 (by omega) (by rw [headP_len]; omega) (fun s k x hx hk hI => ?_), fold_flats]
    · rfl
    · have := h3 x hx
      rw [flat_p x (hw x hx) (by omega), Option.bind_some, appI_ok (by rw [flatP_len]; omega) (by rw [flatP_len]; omega)]
      exact ⟨rfl, by rw [List.length_append, flatP_len]; omega⟩
  rw [e4]
  rfl
theorem zip_eq {α : Type} : ∀ (a b : List α), a.length = b.length → ((∀ p ∈ a.zip b, p.1 = p.2) ↔ a = b)
  | [], [], _ => by simp
  | x :: a, y :: b, h => by
    have ih := zip_eq a b (by simpa using h)
    simp only [List.zip_cons_cons, List.mem_cons, forall_eq_or_imp, ih, List.cons.injEq]
  | [], _ :: _, h => by simp at h
  | _ :: _, [], h => by simp at h
theorem foldE_all {α : Type} (p : α → Bool) : ∀ xs : List α, foldE (fun (_ : Unit) x => if p x = true then some (.inl ()) else some (.inr (.inl ()))) (fun _ => (.inr () : Unit ⊕ Unit)) xs () = some (if ∀ x ∈ xs, p x = true then .inr () else .inl ())
  | [] => by simp [foldE]
  | x :: xs => by
    unfold foldE
    by_cases h : p x = true
    · rw [if_pos h]
      simp only
      rw [foldE_all p xs]
      have : (∀ y ∈ x :: xs, p y = true) ↔ ∀ y ∈ xs, p y = true := by simp [h]
      by_cases q : ∀ y ∈ xs, p y = true
      · rw [if_pos q, if_pos (this.2 q)]
      · rw [if_neg q, if_neg (fun z => q (this.1 z))]
    · rw [if_neg h]
      rw [if_neg (fun q => h (q x (.head _)))]
theorem same_p (a b : List Int) (ha : a.length ≤ 1000000000000000) (hb : b.length ≤ 1000000000000000) : m_centoref01_Same a b = some (decide (a = b)) := by
  unfold m_centoref01_Same
  by_cases hl : a.length = b.length
  · have : ((a.length : Int) != (b.length : Int)) = false := by simp [hl]
    rw [this, cond_false]
    have hloop := loop_each (a.zip b) (fun i (_ : Unit) => i) (m_centoref01_Same_L0 a b) (fun _ x => if (x.1 == x.2) = true then some (.inl ()) else some (.inr (.inl ()))) (fun _ => .inr ()) (fun i s x hi hx => by
      have hz := List.getElem?_zip_eq_some.1 hx
      have hi' : i < a.length := by rw [List.length_zip] at hi; omega
      unfold m_centoref01_Same_L0
      have : decide ((i : Int) < a.length) = true := by simp; omega
      rw [this, cond_true, getI_of hz.1, Option.bind_some, getI_of hz.2, Option.bind_some]
      by_cases h : x.1 = x.2
      · have e : (x.1 != x.2) = false := by simp [h]
        rw [e, cond_false, if_pos (by simp [h]), i64w (by omega)]
        rfl
      · have e : (x.1 != x.2) = true := by simp [h]
        rw [e, cond_true, if_neg (by simp [h])]) (fun s => by
      unfold m_centoref01_Same_L0
      have : decide ((((a.zip b).length : Nat) : Int) < a.length) = false := by rw [List.length_zip]; simp; omega
      rw [this, cond_false]) ()
    rw [hloop, foldE_all]
    have hq := zip_eq a b hl
    by_cases q : a = b
    · rw [if_pos (by simpa using hq.2 q)]
      simp [q]
    · rw [if_neg (fun z => q (hq.1 (by simpa using z)))]
      simp [q]
  · have : ((a.length : Int) != (b.length : Int)) = true := by simp; omega
    rw [this, cond_true]
    congr 1
    symm
    simp only [decide_eq_false_iff_not]
    exact fun q => hl (by rw [q])
theorem sameBytes_eq : @m_centoref01_SameBytes = @m_centoref01_Same := rfl
theorem sames_p (a b : List (List Int)) (ha : a.length ≤ 1000000000000000) (hb : b.length ≤ 1000000000000000) (ha' : ∀ x ∈ a, x.length ≤ 1000000000000000) (hb' : ∀ x ∈ b, x.length ≤ 1000000000000000) : m_centoref03_Same a b = some (decide (a = b)) := by
  unfold m_centoref03_Same
  by_cases hl : a.length = b.length
  · have : ((a.length : Int) != (b.length : Int)) = false := by simp [hl]
    rw [this, cond_false]
    have hloop := loop_each (a.zip b) (fun i (_ : Unit) => i) (m_centoref03_Same_L0 a b) (fun _ x => if (x.1 == x.2) = true then some (.inl ()) else some (.inr (.inl ()))) (fun _ => .inr ()) (fun i s x hi hx => by
      have hz := List.getElem?_zip_eq_some.1 hx
      have hi' : i < a.length := by rw [List.length_zip] at hi; omega
      unfold m_centoref03_Same_L0
      have : decide ((i : Int) < a.length) = true := by simp; omega
      rw [this, cond_true, getI_of hz.1, Option.bind_some, getI_of hz.2, Option.bind_some, same_p _ _ (ha' _ (List.mem_of_getElem? hz.1)) (hb' _ (List.mem_of_getElem? hz.2)), Option.bind_some]
      by_cases h : x.1 = x.2
      · have e : decide (x.1 = x.2) = true := by simp [h]
        rw [e, Bool.not_true, cond_false, if_pos (by simp [h]), i64w (by omega)]
        rfl
      · have e : decide (x.1 = x.2) = false := by simp [h]
        rw [e, Bool.not_false, cond_true, if_neg (by simp [h])]) (fun s => by
      unfold m_centoref03_Same_L0
      have : decide ((((a.zip b).length : Nat) : Int) < a.length) = false := by rw [List.length_zip]; simp; omega
      rw [this, cond_false]) ()
    rw [hloop, foldE_all]
    have hq := zip_eq a b hl
    by_cases q : a = b
    · rw [if_pos (by simpa using hq.2 q)]
      simp [q]
    · rw [if_neg (fun z => q (hq.1 (by simpa using z)))]
      simp [q]
  · have : ((a.length : Int) != (b.length : Int)) = true := by simp; omega
    rw [this, cond_true]
    congr 1
    symm
    simp only [decide_eq_false_iff_not]
    exact fun q => hl (by rw [q])
/-- bytes -/
def isB (x : Int) : Prop := 0 ≤ x ∧ x < 256
def byteN (b : List Int) (i : Nat) : Nat := (b.getD i 0).toNat
def num4 (b : List Int) (i : Nat) : Nat := byteN b i + byteN b (i + 1) * 256 + byteN b (i + 2) * 65536 + byteN b (i + 3) * 16777216
theorem byteN_p {b : List Int} (hb : ∀ x ∈ b, isB x) (i : Nat) : byteN b i < 256 := by
  unfold byteN
  rw [List.getD_eq_getElem?_getD]
  cases h : b[i]? with
  | none => simp
  | some x => have := hb x (List.mem_of_getElem? h); unfold isB at this; simp only [Option.getD_some]; omega
theorem get_byte {b : List Int} (hb : ∀ x ∈ b, isB x) {i : Nat} (hi : i < b.length) : getI b (i : Int) = some (byteN b i : Int) := by
  have h : b[i]? = some b[i] := List.getElem?_eq_getElem hi
  rw [getI_of h]
  unfold byteN
  rw [List.getD_eq_getElem?_getD, h]
  have := hb b[i] (List.getElem_mem hi)
  unfold isB at this
  simp only [Option.getD_some, Option.some.injEq]
  omega
theorem lor_add (x y k : Nat) (hx : x < 2 ^ k) (hk : k ≤ 40) (hy : y ≤ 65536) : IntKind.i64.wrap (lorI .i64 (x : Int) ((y : Int) * 2 ^ k)) = ((x + y * 2 ^ k : Nat) : Int) := by
  have hp : (2 : Nat) ^ k ≤ 1099511627776 := by have := Nat.pow_le_pow_right (n := 2) (by decide) hk; simpa using this
  have hm : y * 2 ^ k ≤ 65536 * 1099511627776 := Nat.mul_le_mul hy hp
  have e : ((y : Int) * 2 ^ k) = ((y * 2 ^ k : Nat) : Int) := by simp
  have hl := lor_nat .i64 x (y * 2 ^ k) (by simp only [IntKind.bits]; omega) (by simp only [IntKind.bits]; omega)
  have ho : x ||| (y * 2 ^ k) = x + y * 2 ^ k := by
    rw [Nat.or_comm, Nat.mul_comm, ← Nat.two_pow_add_eq_or_of_lt hx, Nat.add_comm]
  rw [e, hl, ho, i64w (by omega)]
theorem numberAt_p {b : List Int} (hb : ∀ x ∈ b, isB x) (i : Nat) (hi : i + 3 < b.length) (hbl : b.length ≤ 1000000000000000) : m_frame_numberAt b i = some (num4 b i : Int) := by
  unfold m_frame_numberAt
  have g0 := get_byte hb (i := i) (by omega)
  have g1 := get_byte hb (i := i + 1) (by omega)
  have g2 := get_byte hb (i := i + 2) (by omega)
  have g3 := get_byte hb (i := i + 3) (by omega)
  have b0 := byteN_p hb i
  have b1 := byteN_p hb (i + 1)
  have b2 := byteN_p hb (i + 2)
  have b3 := byteN_p hb (i + 3)
  rw [i64w (x := (i : Int) + 1) (by omega), i64w (x := (i : Int) + 2) (by omega), i64w (x := (i : Int) + 3) (by omega)]
  rw [show (i : Int) + 1 = ((i + 1 : Nat) : Int) from rfl, show (i : Int) + 2 = ((i + 2 : Nat) : Int) from rfl, show (i : Int) + 3 = ((i + 3 : Nat) : Int) from rfl]
  rw [g0, Option.bind_some, g1, Option.bind_some, g2, Option.bind_some, g3, Option.bind_some]
  unfold num4
  generalize byteN b i = x0 at *
  generalize byteN b (i + 1) = x1 at *
  generalize byteN b (i + 2) = x2 at *
  generalize byteN b (i + 3) = x3 at *
  clear g0 g1 g2 g3
  rw [show min (Int.toNat 8) 64 = 8 from rfl, show min (Int.toNat 16) 64 = 16 from rfl, show min (Int.toNat 24) 64 = 24 from rfl]
  have w0 : IntKind.i64.wrap (x0 : Int) = x0 := i64w (by omega)
  have w1 : IntKind.i64.wrap (x1 : Int) = x1 := i64w (by omega)
  have w2 : IntKind.i64.wrap (x2 : Int) = x2 := i64w (by omega)
  have w3 : IntKind.i64.wrap (x3 : Int) = x3 := i64w (by omega)
  have v1 : IntKind.i64.wrap ((x1 : Int) * 2 ^ 8) = (x1 : Int) * 2 ^ 8 := i64w (by omega)
  have v2 : IntKind.i64.wrap ((x2 : Int) * 2 ^ 16) = (x2 : Int) * 2 ^ 16 := i64w (by omega)
  have v3 : IntKind.i64.wrap ((x3 : Int) * 2 ^ 24) = (x3 : Int) * 2 ^ 24 := i64w (by omega)
  rw [w0, w1, w2, w3, v1, v2, v3, lor_add x0 x1 8 (by omega) (by decide) (by omega), lor_add _ x2 16 (by omega) (by decide) (by omega), lor_add _ x3 24 (by omega) (by decide) (by omega)]
/-- what stands ahead of the words -/
def sizesP (b : List Int) (c : Nat) : List Int := (List.range c).map fun i => (num4 b (4 * (i + 1)) : Int)
def headR (b : List Int) : List Int × Int :=
  if b.length < 4 then ([], 4)
  else if 16 < num4 b 0 + 1 then ([], 3)
  else if b.length < headN (num4 b 0 + 1) then ([], 4)
  else if (List.range (num4 b 0 + 1)).any (fun i => decide (65536 < num4 b (4 * (i + 1)))) = true then ([], 3)
  else if ((b.drop (4 * (num4 b 0 + 2))).take (headN (num4 b 0 + 1) - 4 * (num4 b 0 + 2))).any (fun x => x != 0) = true then ([], 5)
  else (sizesP b (num4 b 0 + 1), 0)
theorem range_get {c i x : Nat} (h : (List.range c)[i]? = some x) : x = i ∧ i < c := by
  rcases Nat.lt_or_ge i c with hi | hi
  · rw [List.getElem?_range hi] at h; injection h with h; exact ⟨h.symm, hi⟩
  · rw [List.getElem?_eq_none (by simpa using hi)] at h; cases h
theorem fold_push {α β : Type} (f : α → β) : ∀ (l : List α) (s : List β), l.foldl (fun s x => s ++ [f x]) s = s ++ l.map f
  | [], s => by simp
  | x :: l, s => by rw [List.foldl_cons, fold_push f l]; simp

end Go.Proofs.Ytgijkjifiekkmaa
