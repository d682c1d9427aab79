/- Plain facts on this seat's mirrors (part IP2); each theorem bears its own conditions. -/
import Derived.Test.YtbcgiaijjaocdaaIP1
import Derived.IntWalk
namespace Go.Proofs.Ytbcgiaijjaocdaa
open Go.RowKit
set_option linter.unusedVariables false
set_option linter.unusedSimpArgs false
def bitB (m i : Nat) : Bool := decide (m / 2 ^ i % 2 = 1)
theorem beq_mod2 (q : Nat) : ((q : Int) % 2 == 1) = decide (q % 2 = 1) := by rw [Bool.eq_iff_iff]; simp; omega
def bySum (f : Nat → Nat) : Nat → Nat
  | 0 => 0
  | k + 1 => 2 ^ (8 * k) * f k + bySum f k
def byteN (n k : Nat) : Nat := n / 256 ^ k % 256
theorem byteN_lt (n k : Nat) : byteN n k < 256 := Nat.mod_lt _ (by decide)
def mixF (a b m k : Nat) : Nat := if bitB m k then byteN b k else byteN a k
theorem mixF_lt (a b m k : Nat) : mixF a b m k < 256 := by unfold mixF; split <;> exact byteN_lt _ _
def mixN (a b m : Nat) : Nat := bySum (mixF a b m) 8
theorem tdiv256 (q : Nat) : Int.tdiv (q : Int) 256 = ((q / 256 : Nat) : Int) := by rw [Int.tdiv_eq_ediv_of_nonneg (Int.natCast_nonneg _)]; omega
theorem tdiv2 (q : Nat) : Int.tdiv (q : Int) 2 = ((q / 2 : Nat) : Int) := by rw [Int.tdiv_eq_ediv_of_nonneg (Int.natCast_nonneg _)]; omega
theorem tmod256 (q : Nat) : IntKind.u8.wrap (Int.tmod (q : Int) 256) = ((q % 256 : Nat) : Int) := by rw [Int.tmod_eq_emod_of_nonneg (Int.natCast_nonneg _), IntKind.wrap_u8']; omega
theorem u64n (q : Nat) (h : q < 18446744073709551616) : IntKind.u64.wrap (q : Int) = (q : Int) := u64w (by omega)
theorem u8n (q : Nat) (h : q < 256) : IntKind.u8.wrap (q : Int) = (q : Int) := by rw [IntKind.wrap_u8']; omega
theorem lt8 {k : Nat} (h : k < 8) : k = 0 ∨ k = 1 ∨ k = 2 ∨ k = 3 ∨ k = 4 ∨ k = 5 ∨ k = 6 ∨ k = 7 := by omega
def ofF (f : Nat → Nat) : Arr Int 8 := ⟨[(f 0 : Nat), (f 1 : Nat), (f 2 : Nat), (f 3 : Nat), (f 4 : Nat), (f 5 : Nat), (f 6 : Nat), (f 7 : Nat)], rfl⟩
theorem ofF_get (f : Nat → Nat) (k : Nat) (hk : k < 8) : getI (ofF f).1 (k : Int) = some ((f k : Nat) : Int) := by
  rcases lt8 hk with rfl | rfl | rfl | rfl | rfl | rfl | rfl | rfl <;> rfl
theorem ofF_put (f : Nat → Nat) (k v : Nat) (hk : k < 8) : Arr.put (ofF f) (k : Int) (v : Int) = ofF (fun i => if i = k then v else f i) := by
  rcases lt8 hk with rfl | rfl | rfl | rfl | rfl | rfl | rfl | rfl <;> rfl
theorem ofF_congr {f g : Nat → Nat} (h : ∀ k, k < 8 → f k = g k) : ofF f = ofF g := by
  unfold ofF
  simp only [h 0 (by decide), h 1 (by decide), h 2 (by decide), h 3 (by decide), h 4 (by decide), h 5 (by decide), h 6 (by decide), h 7 (by decide)]
theorem bytes_loop (n : Nat) (hn : n < 18446744073709551616) : ∀ j i : Nat, i + j = 8 → runLoop m_centoref01_Bytes_L0 (((n / 256 ^ i : Nat) : Int), (i : Int), ofF (fun q => if q < i then byteN n q else 0)) = some (ofF (byteN n))
  | 0, i, h => by
    obtain rfl : i = 8 := by omega
    refine (runLoop_end (r := ofF (fun q => if q < 8 then byteN n q else 0)) rfl).trans ?_
    rw [ofF_congr (g := byteN n) fun k hk => if_pos hk]
  | j + 1, i, h => by
    have hs : m_centoref01_Bytes_L0 (((n / 256 ^ i : Nat) : Int), (i : Int), ofF (fun q => if q < i then byteN n q else 0)) = some (.inl (((n / 256 ^ (i + 1) : Nat) : Int), ((i + 1 : Nat) : Int), ofF (fun q => if q < i + 1 then byteN n q else 0))) := by
      unfold m_centoref01_Bytes_L0
      have e : decide ((i : Int) < 8) = true := by rw [decide_eq_true_eq]; omega
      simp only
      have q1 : n / 256 ^ i ≤ n := Nat.div_le_self _ _
      have q2 : n / 256 ^ i / 256 = n / 256 ^ (i + 1) := by rw [Nat.div_div_eq_div_mul, Nat.pow_succ]
      have q3 : Int.tdiv ((n / 256 ^ i : Nat) : Int) 256 = ((n / 256 ^ (i + 1) : Nat) : Int) := by rw [← q2, tdiv256]
      have q4 : IntKind.u8.wrap (Int.tmod ((n / 256 ^ i : Nat) : Int) 256) = ((byteN n i : Nat) : Int) := by
        rw [tmod256]
        rfl
      have q5 : n / 256 ^ (i + 1) ≤ n := Nat.div_le_self _ _
      rw [e, cond_true, ofF_get _ _ (by omega), Option.bind_some, q3, q4, u64n _ (Nat.lt_of_le_of_lt q5 hn), i64w (x := (i : Int) + 1) (by omega), ofF_put _ _ _ (by omega)]
      have e5 : (fun q => if q = i then byteN n i else if q < i then byteN n q else 0) = fun q => if q < i + 1 then byteN n q else 0 := by
        funext q
        by_cases h1 : q = i
        · rw [if_pos h1, if_pos (by omega), h1]
        · rw [if_neg h1]
          by_cases h2 : q < i
          · rw [if_pos h2, if_pos (by omega)]
          · rw [if_neg h2, if_neg (by omega)]
      rw [e5]
      rfl
    rw [runLoop_step hs]
    exact bytes_loop n hn j (i + 1) (by omega)
theorem bytes_ok (n : Nat) (hn : n < 18446744073709551616) : m_centoref01_Bytes (n : Int) = some (ofF (byteN n)) := by
  unfold m_centoref01_Bytes
  have h := bytes_loop n hn 8 0 rfl
  have e : ofF (fun q => if q < 0 then byteN n q else 0) = ⟨[0, 0, 0, 0, 0, 0, 0, 0], rfl⟩ := rfl
  rw [e, Nat.pow_zero, Nat.div_one, show ((0 : Nat) : Int) = 0 from rfl] at h
  rw [Option.bind_some, Option.bind_some, h]
  rfl
theorem named_loop (m n : Nat) (hm : m < 256) (hn : n ≤ 8) : ∀ j i : Nat, i + j = n → runLoop (m_centoref01_Named_L0 (n : Int)) (((m / 2 ^ i : Nat) : Int), (i : Int)) = some ((m / 2 ^ n : Nat) : Int)
  | 0, i, h => by
    obtain rfl : i = n := by omega
    refine runLoop_end ?_
    unfold m_centoref01_Named_L0
    have e : decide ((i : Int) < (i : Int)) = false := by rw [decide_eq_false_iff_not]; omega
    simp only
    rw [e, cond_false]
  | j + 1, i, h => by
    have hs : m_centoref01_Named_L0 (n : Int) (((m / 2 ^ i : Nat) : Int), (i : Int)) = some (.inl (((m / 2 ^ (i + 1) : Nat) : Int), ((i + 1 : Nat) : Int))) := by
      unfold m_centoref01_Named_L0
      have e : decide ((i : Int) < (n : Int)) = true := by rw [decide_eq_true_eq]; omega
      have q1 : m / 2 ^ i ≤ m := Nat.div_le_self _ _
      have q2 : m / 2 ^ i / 2 = m / 2 ^ (i + 1) := by rw [Nat.div_div_eq_div_mul, Nat.pow_succ]
      have q5 : m / 2 ^ (i + 1) ≤ m := Nat.div_le_self _ _
      have q3 : Int.tdiv ((m / 2 ^ i : Nat) : Int) 2 = ((m / 2 ^ (i + 1) : Nat) : Int) := by rw [← q2, tdiv2]
      have q4 : IntKind.u8.wrap ((m / 2 ^ (i + 1) : Nat) : Int) = ((m / 2 ^ (i + 1) : Nat) : Int) := u8n _ (Nat.lt_of_le_of_lt q5 hm)
      simp only
      rw [e, cond_true, q3, q4, i64w (x := (i : Int) + 1) (by omega)]
      rfl
    rw [runLoop_step hs]
    exact named_loop m n hm hn j (i + 1) (by omega)
theorem named_ok (m n : Nat) (hm : m < 256) (hn : n ≤ 8) : m_centoref01_Named (m : Int) (n : Int) = some (bitB m n) := by
  unfold m_centoref01_Named
  have h := named_loop m n hm hn n 0 (by omega)
  rw [Nat.pow_zero, Nat.div_one, show ((0 : Nat) : Int) = 0 from rfl] at h
  rw [h, Option.bind_some, Int.tmod_eq_emod_of_nonneg (Int.natCast_nonneg _), beq_mod2]
  rfl
theorem mix_loop (a b m : Nat) (hm : m < 256) : ∀ j i : Nat, i + j = 8 → runLoop (m_centoref01_Mix_L0 (m : Int) (ofF (byteN b))) ((i : Int), ofF (fun q => if q < i then mixF a b m q else byteN a q)) = some (ofF (mixF a b m))
  | 0, i, h => by
    obtain rfl : i = 8 := by omega
    refine (runLoop_end (r := ofF (fun q => if q < 8 then mixF a b m q else byteN a q)) rfl).trans ?_
    rw [ofF_congr (g := mixF a b m) fun k hk => if_pos hk]
  | j + 1, i, h => by
    have hs : m_centoref01_Mix_L0 (m : Int) (ofF (byteN b)) ((i : Int), ofF (fun q => if q < i then mixF a b m q else byteN a q)) = some (.inl (((i + 1 : Nat) : Int), ofF (fun q => if q < i + 1 then mixF a b m q else byteN a q))) := by
      unfold m_centoref01_Mix_L0
      have e : decide ((i : Int) < 8) = true := by rw [decide_eq_true_eq]; omega
      simp only
      rw [e, cond_true, named_ok m i hm (by omega), Option.bind_some, i64w (x := (i : Int) + 1) (by omega)]
      have hne : ∀ v, v = mixF a b m i → (fun q => if q = i then v else if q < i then mixF a b m q else byteN a q) = fun q => if q < i + 1 then mixF a b m q else byteN a q := fun v hv => by
        funext q
        by_cases h1 : q = i
        · rw [if_pos h1, if_pos (by omega), h1, hv]
        · rw [if_neg h1]
          by_cases h2 : q < i
          · rw [if_pos h2, if_pos (by omega)]
          · rw [if_neg h2, if_neg (by omega)]
      cases hb : bitB m i with
      | true =>
        rw [cond_true, ofF_get _ _ (by omega), Option.bind_some, ofF_get _ _ (by omega), Option.bind_some, Option.bind_some, ofF_put _ _ _ (by omega), hne _ (by unfold mixF; rw [hb, if_pos rfl])]
        rfl
      | false =>
        have e6 : (fun q => if q < i then mixF a b m q else byteN a q) = fun q => if q < i + 1 then mixF a b m q else byteN a q := by
          funext q
          by_cases h1 : q = i
          · rw [if_neg (by omega), if_pos (by omega), h1]
            unfold mixF
            rw [hb]
            rfl
          · by_cases h2 : q < i
            · rw [if_pos h2, if_pos (by omega)]
            · rw [if_neg h2, if_neg (by omega)]
        rw [cond_false, Option.bind_some, e6]
        rfl
    rw [runLoop_step hs]
    exact mix_loop a b m hm j (i + 1) (by omega)
def hiN (f : Nat → Nat) : Nat → Nat → Nat
  | _, 0 => 0
  | i, n + 1 => hiN f (i + 1) n * 256 + f i
theorem hiN_lt (f : Nat → Nat) (hf : ∀ k, f k < 256) : ∀ n i, hiN f i n < 256 ^ n
  | 0, _ => by simp [hiN]
  | n + 1, i => by
    have h1 := hiN_lt f hf n (i + 1)
    have h2 := hf i
    have h3 : 256 ^ (n + 1) = 256 * 256 ^ n := by rw [Nat.pow_succ, Nat.mul_comm]
    simp only [hiN]
    omega
theorem hiN_sum (f : Nat → Nat) : hiN f 0 8 = bySum f 8 := by simp only [hiN, bySum, Nat.reduceMul, Nat.reducePow, Nat.reduceAdd]; omega
theorem of_loop (f : Nat → Nat) (hf : ∀ k, f k < 256) : ∀ i n : Nat, i + n = 8 → runLoop (m_centoref01_Of_L0 (ofF f).1 0) (((hiN f i n : Nat) : Int), (i : Int) - 1) = some ((hiN f 0 8 : Nat) : Int)
  | 0, n, h => by
    obtain rfl : n = 8 := by omega
    exact runLoop_end rfl
  | i + 1, n, h => by
    have hs : m_centoref01_Of_L0 (ofF f).1 0 (((hiN f (i + 1) n : Nat) : Int), ((i + 1 : Nat) : Int) - 1) = some (.inl (((hiN f i (n + 1) : Nat) : Int), (i : Int) - 1)) := by
      unfold m_centoref01_Of_L0
      have e0 : ((i + 1 : Nat) : Int) - 1 = (i : Int) := by omega
      have e : decide (0 ≤ (i : Int)) = true := by rw [decide_eq_true_eq]; omega
      have h1 := hiN_lt f hf n (i + 1)
      have h2 := hf i
      have h3 : 256 ^ n ≤ 256 ^ 7 := Nat.pow_le_pow_right (by decide) (by omega)
      have h4 : (256 : Nat) ^ 7 = 72057594037927936 := by decide
      simp only
      rw [e0, e, cond_true, Int.zero_add, i64w (x := (i : Int)) (by omega), ofF_get _ _ (by omega), Option.bind_some, u64w (x := ((hiN f (i + 1) n : Nat) : Int) * 256) (by omega), u64w (x := ((f i : Nat) : Int)) (by omega), u64w (by omega), i64w (by omega)]
      have e7 : ((hiN f (i + 1) n : Nat) : Int) * 256 + ((f i : Nat) : Int) = ((hiN f i (n + 1) : Nat) : Int) := by simp only [hiN]; omega
      rw [e7]
    rw [runLoop_step hs]
    exact of_loop f hf i (n + 1) (by omega)
theorem mix_ok (a b m : Nat) (ha : a < 18446744073709551616) (hb : b < 18446744073709551616) (hm : m < 256) : m_centoref01_Mix (a : Int) (b : Int) (m : Int) = some ((mixN a b m : Nat) : Int) := by
  unfold m_centoref01_Mix
  have h := mix_loop a b m hm 8 0 rfl
  have e : ofF (fun q => if q < 0 then mixF a b m q else byteN a q) = ofF (byteN a) := rfl
  rw [e, show ((0 : Nat) : Int) = 0 from rfl] at h
  have h2 := of_loop (mixF a b m) (mixF_lt a b m) 8 0 rfl
  rw [hiN_sum, show ((8 : Nat) : Int) - 1 = 7 from rfl, show ((hiN (mixF a b m) 8 0 : Nat) : Int) = 0 from rfl] at h2
  rw [bytes_ok a ha, Option.bind_some, bytes_ok b hb, Option.bind_some, Option.bind_some, h, Option.bind_some]
  unfold m_centoref01_Of
  rw [h2]
  rfl
def wi (x m : Int) : Bool := mixN x.toNat 0 m.toNat == 0
theorem within_ok {x m : Int} (h0 : 0 ≤ x) (h1 : x < 18446744073709551616) (m0 : 0 ≤ m) (m1 : m < 256) : m_centoref20_within x m = some (wi x m) := by
  obtain ⟨a, rfl⟩ := Int.eq_ofNat_of_zero_le h0
  obtain ⟨k, rfl⟩ := Int.eq_ofNat_of_zero_le m0
  unfold m_centoref20_within wi
  rw [show (0 : Int) = ((0 : Nat) : Int) from rfl, mix_ok a 0 k (by omega) (by decide) (by omega), Option.bind_some]
  congr 1
  rw [Bool.eq_iff_iff, beq_iff_eq, beq_iff_eq]
  simp only [Int.toNat_natCast]
  omega
abbrev Ed := S_api_Edit
theorem kidE_lt {e : Ed} {k : S_api_KidEdit} (h : k ∈ e.Kids) : SizeOf.sizeOf k.E < SizeOf.sizeOf e := by
  obtain ⟨a, b, c, d, ks, f, g⟩ := e
  obtain ⟨i, x⟩ := k
  have h1 := List.sizeOf_lt_of_mem h
  simp only [S_api_Edit.mk.sizeOf_spec, S_api_KidEdit.mk.sizeOf_spec] at h1 ⊢
  omega
theorem opE_lt {e : Ed} {o : S_api_Op} (h : o ∈ e.Ops) : SizeOf.sizeOf o.E < SizeOf.sizeOf e := by
  obtain ⟨a, b, c, d, ks, f, os⟩ := e
  obtain ⟨i, n, l, x⟩ := o
  have h1 := List.sizeOf_lt_of_mem h
  simp only [S_api_Edit.mk.sizeOf_spec, S_api_Op.mk.sizeOf_spec] at h1 ⊢
  omega
inductive BE : Ed → Prop
  | mk (e : Ed) (h1 : Bd e.Old) (h2 : Bd e.New) (h3 : (e.Words.length : Int) ≤ 140737488355328) (h4 : ∀ w ∈ e.Words, (0 ≤ w.Mask ∧ w.Mask < 256) ∧ (0 ≤ w.Old ∧ w.Old < 18446744073709551616) ∧ (0 ≤ w.New ∧ w.New < 18446744073709551616))
      (h5 : (e.Kids.length : Int) ≤ 140737488355328) (h6 : ∀ k ∈ e.Kids, BE k.E) (h7 : (e.Ops.length : Int) ≤ 140737488355328) (h8 : ∀ o ∈ e.Ops, o.L.length * 56 ≤ 140737488355328 ∧ ∀ t ∈ o.L, Bd t) (h9 : ∀ o ∈ e.Ops, BE o.E) : BE e
theorem BE.old {e : Ed} (h : BE e) : Bd e.Old := by cases h; assumption
theorem BE.new {e : Ed} (h : BE e) : Bd e.New := by cases h; assumption
theorem BE.w {e : Ed} (h : BE e) : (e.Words.length : Int) ≤ 140737488355328 := by cases h; assumption
theorem BE.ws {e : Ed} (h : BE e) : ∀ w ∈ e.Words, (0 ≤ w.Mask ∧ w.Mask < 256) ∧ (0 ≤ w.Old ∧ w.Old < 18446744073709551616) ∧ (0 ≤ w.New ∧ w.New < 18446744073709551616) := by cases h; assumption
theorem BE.k {e : Ed} (h : BE e) : (e.Kids.length : Int) ≤ 140737488355328 := by cases h; assumption
theorem BE.ks {e : Ed} (h : BE e) : ∀ k ∈ e.Kids, BE k.E := by cases h; assumption
theorem BE.o {e : Ed} (h : BE e) : (e.Ops.length : Int) ≤ 140737488355328 := by cases h; assumption
theorem BE.l {e : Ed} (h : BE e) : ∀ o ∈ e.Ops, o.L.length * 56 ≤ 140737488355328 ∧ ∀ t ∈ o.L, Bd t := by cases h; assumption
theorem BE.os {e : Ed} (h : BE e) : ∀ o ∈ e.Ops, BE o.E := by cases h; assumption
theorem cond_beq {α : Type} (a b : Int) (x y : α) : cond (a == b) x y = if a = b then x else y := by
  by_cases h : a = b
  · rw [beq_iff_eq.2 h, if_pos h]; rfl
  · rw [beq_eq_false_iff_ne.2 h, if_neg h]; rfl
theorem cond_bne {α : Type} (a b : Int) (x y : α) : cond (a != b) x y = if a = b then y else x := by
  by_cases h : a = b
  · have : (a != b) = false := by simp [h]
    rw [this, if_pos h]; rfl
  · have : (a != b) = true := by simp [h]
    rw [this, if_neg h]; rfl
def chk {α : Type} (pl : α → Int) (ok : Int → α → Bool) : Int → List α → Bool
  | _, [] => true
  | p, x :: xs => ok p x && chk pl ok (pl x) xs
theorem loop_chk {α R : Type} (xs : List α) (pl : α → Int) (ok : Int → α → Bool) (step : Int × Int → Option ((Int × Int) ⊕ R)) (e o : R) (hl : (xs.length : Int) ≤ 140737488355328)
    (h1 : ∀ (p : Int) (i : Nat) (x : α), i < xs.length → xs[i]? = some x → x ∈ xs → step (p, (i : Int)) = some (if ok p x = true then .inl (pl x, IntKind.i64.wrap ((i : Int) + 1)) else .inr e)) (h2 : ∀ p, step (p, (xs.length : Int)) = some (.inr o)) (p : Int) : runLoop step (p, 0) = some (if chk pl ok p xs = true then o else e) := by
  have key : ∀ (ys : List α) (i : Nat) (p : Int), xs.drop i = ys → i ≤ xs.length → runLoop step (p, (i : Int)) = some (if chk pl ok p ys = true then o else e) := fun ys => by
    induction ys with
    | nil =>
      intro i p h hi
      have : i = xs.length := by
        have := congrArg List.length h
        rw [List.length_drop, List.length_nil] at this
        omega
      subst this
      exact runLoop_end (h2 p)
    | cons x ys ih =>
      intro i p h hi
      have hx : xs[i]? = some x := by
        have := congrArg (fun l => l[0]?) h
        simpa using this
      have hi' : i < xs.length := by
        rcases Nat.lt_or_ge i xs.length with h' | h'
        · exact h'
        · rw [List.getElem?_eq_none h'] at hx; cases hx
      have hs := h1 p i x hi' hx (List.mem_of_getElem? hx)
      have hd : xs.drop (i + 1) = ys := by
        have := congrArg List.tail h
        rwa [List.tail_drop, List.tail_cons] at this
      cases hk : ok p x with
      | false =>
        rw [hk] at hs
        rw [runLoop_end (by simpa using hs)]
        simp [chk, hk]
      | true =>
        rw [hk, if_pos rfl, i64s (by omega) (by omega)] at hs
        have e1 : (i : Int) + 1 = ((i + 1 : Nat) : Int) := by omega
        rw [e1] at hs
        rw [runLoop_step hs, ih (i + 1) (pl x) hd (by omega)]
        simp [chk, hk]
  exact key xs 0 p rfl (Nat.zero_le _)
def noneT (t : Tr) : Bool := t.Kind == 0 && (t.Words.length == 0 && t.Kids.length == 0)
theorem none_ok {t : Tr} (h : Bd t) : m_centoref20_none t = some (noneT t) := by
  have := h.w
  have := h.k
  unfold m_centoref20_none noneT
  rw [i64s (by omega) (by omega), cond_and]
  congr 2
  rw [Bool.eq_iff_iff, Bool.and_eq_true, beq_iff_eq, beq_iff_eq, beq_iff_eq]
  omega
def noWK (e : Ed) : Bool := e.Words.length == 0 && e.Kids.length == 0
def noLO (e : Ed) : Bool := e.List_ == 0 && e.Ops.length == 0
theorem wk_pos {e : Ed} (h : BE e) : decide (0 < IntKind.i64.wrap ((e.Words.length : Int) + (e.Kids.length : Int))) = !noWK e := by
  have := h.w
  have := h.k
  unfold noWK
  rw [i64s (by omega) (by omega), Bool.eq_iff_iff, Bool.not_eq_true', decide_eq_true_eq, Bool.and_eq_false_iff, beq_eq_false_iff_ne, beq_eq_false_iff_ne]
  omega
theorem lo_pos (e : Ed) : cond (e.List_ != 0) true (decide (0 < (e.Ops.length : Int))) = !noLO e := by
  unfold noLO
  cases h0 : e.List_ == 0 with
  | false => simp only [bne, h0]; rfl
  | true =>
    simp only [bne, h0, Bool.not_true, cond_false, Bool.true_and]
    rw [Bool.eq_iff_iff, Bool.not_eq_true', decide_eq_true_eq, beq_eq_false_iff_ne]
    omega
def none2 (e : Ed) : Bool := noneT e.Old && noneT e.New
def sameE (e : Ed) : Bool := e.Kind == 0 && (none2 e && (noWK e && noLO e))
theorem same_okE {e : Ed} (h : BE e) : m_centoref20_same e = some (sameE e) := by
  have := h.w
  have := h.k
  have := h.o
  unfold m_centoref20_same sameE
  rw [none_ok h.old, none_ok h.new]
  simp only [Option.bind_some]
  have e1 : (IntKind.i64.wrap (IntKind.i64.wrap ((e.Words.length : Int) + (e.Kids.length : Int)) + (e.Ops.length : Int)) == 0) = (noWK e && e.Ops.length == 0) := by
    unfold noWK
    rw [i64s (x := (e.Words.length : Int) + (e.Kids.length : Int)) (by omega) (by omega), i64s (by omega) (by omega), Bool.eq_iff_iff, Bool.and_eq_true, Bool.and_eq_true, beq_iff_eq, beq_iff_eq, beq_iff_eq, beq_iff_eq]
    omega
  rw [e1]
  unfold none2 noLO
  generalize noneT e.Old = p
  generalize noneT e.New = q
  generalize noWK e = r
  generalize (e.List_ == 0) = s
  generalize (e.Ops.length == 0) = u
  generalize (e.Kind == 0) = v
  revert p q r s u v
  decide
def okW (p : Int) (w : S_api_WordEdit) : Bool := !(((((decide (w.At ≤ p) || decide (65534 < w.At)) || w.Mask == 0) || !(wi w.Old w.Mask)) || !(wi w.New w.Mask)))
theorem rWords_ok {e : Ed} (h : BE e) : runLoop (b_centoref20_Right_L0 e) (-1, 0) = some (if chk (·.At) okW (-1) e.Words = true then Sum.inr () else Sum.inl ()) :=
  loop_chk e.Words (·.At) okW (b_centoref20_Right_L0 e) (.inl ()) (.inr ()) h.w (fun p i x hi hx hm => by
    obtain ⟨h1, h2, h3⟩ := h.ws x hm
    unfold b_centoref20_Right_L0
    simp only
    rw [lt_t hi, cond_true, getI_of hx, Option.bind_some, within_ok h2.1 h2.2 h1.1 h1.2, within_ok h3.1 h3.2 h1.1 h1.2]
    simp only [Option.bind_some]
    unfold okW
    generalize decide (x.At ≤ p) = q1
    generalize decide (65534 < x.At) = q2
    generalize (x.Mask == 0) = q3
    generalize wi x.Old x.Mask = q4
    generalize wi x.New x.Mask = q5
    cases q1 <;> cases q2 <;> cases q3 <;> cases q4 <;> cases q5 <;> rfl) (fun p => by unfold b_centoref20_Right_L0; simp only; rw [lt_f]; rfl) (-1)
theorem loop_fold {α S R σ : Type} (xs : List α) (mk : S → Int → σ) (f : S → α → S) (out : S → R) (I : S → Prop) (step : σ → Option (σ ⊕ R)) (hl : (xs.length : Int) ≤ 140737488355328)
    (h1 : ∀ (s : S) (i : Nat) (x : α), I s → i < xs.length → xs[i]? = some x → x ∈ xs → I (f s x) ∧ step (mk s (i : Int)) = some (.inl (mk (f s x) (IntKind.i64.wrap ((i : Int) + 1))))) (h2 : ∀ s, I s → step (mk s (xs.length : Int)) = some (.inr (out s))) (s : S) (hs : I s) : runLoop step (mk s 0) = some (out (xs.foldl f s)) ∧ I (xs.foldl f s) := by
  have key : ∀ (ys : List α) (i : Nat) (s : S), I s → xs.drop i = ys → i ≤ xs.length → runLoop step (mk s (i : Int)) = some (out (ys.foldl f s)) ∧ I (ys.foldl f s) := fun ys => by
    induction ys with
    | nil =>
      intro i s hI h hi
      have : i = xs.length := by
        have := congrArg List.length h
        rw [List.length_drop, List.length_nil] at this
        omega
      subst this
      exact ⟨runLoop_end (h2 s hI), hI⟩
    | cons x ys ih =>
      intro i s hI h hi
      have hx : xs[i]? = some x := by
        have := congrArg (fun l => l[0]?) h
        simpa using this
      have hi' : i < xs.length := by
        rcases Nat.lt_or_ge i xs.length with h' | h'
        · exact h'
        · rw [List.getElem?_eq_none h'] at hx; cases hx
      obtain ⟨hI', hs⟩ := h1 s i x hI hi' hx (List.mem_of_getElem? hx)
      have hd : xs.drop (i + 1) = ys := by
        have := congrArg List.tail h
        rwa [List.tail_drop, List.tail_cons] at this
      have e1 : (i : Int) + 1 = ((i + 1 : Nat) : Int) := by omega
      rw [i64s (by omega) (by omega), e1] at hs
      rw [runLoop_step hs]
      exact ih (i + 1) (f s x) hI' hd (by omega)
  exact key xs 0 s hs rfl (Nat.zero_le _)
def thr (o : S_api_Op) : Int := if o.Kind = 0 then (if 1048576 < (if o.N < 0 then 0 else o.N) then 1048576 else (if o.N < 0 then 0 else o.N)) else if o.Kind = 1 ∨ o.Kind = 2 then (o.L.length : Int) else if o.Kind = 3 then 1 else 0
theorem thr_bd {o : S_api_Op} (h : o.L.length * 56 ≤ 140737488355328) : 0 ≤ thr o ∧ thr o ≤ 140737488355328 := by
  unfold thr
  repeat' split
  all_goals omega
def capI (x : Int) : Int := if 1048576 < x then 1048576 else x
def stI (s : Int × Int) (o : S_api_Op) : Int × Int := (if o.Kind = 2 then s.1 else capI (s.1 + thr o), if o.Kind = 1 then s.2 else capI (s.2 + thr o))
def Sm (s : Int × Int) : Prop := (0 ≤ s.1 ∧ s.1 ≤ 1048576) ∧ (0 ≤ s.2 ∧ s.2 ≤ 1048576)
theorem stI_sm {s : Int × Int} {o : S_api_Op} (hs : Sm s) (h : o.L.length * 56 ≤ 140737488355328) : Sm (stI s o) := by
  have := thr_bd h
  unfold Sm at hs ⊢
  unfold stI capI
  refine ⟨?_, ?_⟩
  · simp only
    split
    · omega
    · split <;> omega
  · simp only
    split
    · omega
    · split <;> omega
def incR (o : S_api_Op) : Int := if o.Kind = 3 then 1 else IntKind.i64.wrap (o.N + (o.L.length : Int))
def stR (s : Int × Int) (o : S_api_Op) : Int × Int := (capI (if o.Kind = 2 then s.1 else IntKind.i64.wrap (s.1 + incR o)), capI (if o.Kind = 1 then s.2 else IntKind.i64.wrap (s.2 + incR o)))
theorem lenR_ok {e : Ed} (h : BE e) : m_centoref20_Lengths e = some (e.Ops.foldl stR (0, 0)) := by
  obtain ⟨h1, _⟩ := loop_fold e.Ops (fun (s : Int × Int) i => (s.1, s.2, i)) stR (fun s => (s.1, s.2)) (fun _ => True) (m_centoref20_Lengths_L0 e) h.o (fun s i x hs hi hx hm => by
    refine ⟨trivial, ?_⟩
    have hc : ∀ a b : Int, ((cond (decide (1048576 < a)) (some 1048576) (some a)).bind fun (z10 : Int) => cond (decide (1048576 < b)) (some (z10, 1048576)) (some (z10, b))) = some (capI a, capI b) := fun a b => by
      unfold capI
      by_cases q1 : 1048576 < a <;> by_cases q2 : 1048576 < b <;> simp [q1, q2]
    unfold m_centoref20_Lengths_L0
    simp only
    rw [lt_t hi, cond_true, getI_of hx, Option.bind_some]
    have e1 : cond (x.Kind == 3) (some 1) (some (IntKind.i64.wrap (x.N + (x.L.length : Int)))) = some (incR x) := by
      unfold incR
      rw [cond_beq]
      split <;> rfl
    rw [e1, Option.bind_some]
    have e2 : cond (x.Kind != 2) (some (IntKind.i64.wrap (s.1 + incR x))) (some s.1) = some (if x.Kind = 2 then s.1 else IntKind.i64.wrap (s.1 + incR x)) := by
      rw [cond_bne]; split <;> rfl
    have e3 : cond (x.Kind != 1) (some (IntKind.i64.wrap (s.2 + incR x))) (some s.2) = some (if x.Kind = 1 then s.2 else IntKind.i64.wrap (s.2 + incR x)) := by
      rw [cond_bne]; split <;> rfl
    rw [e2, Option.bind_some, e3, Option.bind_some, hc]
    rfl) (fun s _ => by unfold m_centoref20_Lengths_L0; simp only; rw [lt_f]; rfl) (0, 0) trivial
  unfold m_centoref20_Lengths
  rw [h1]
  rfl
def descP (l : Int) (e : Ed) : Bool := if l = 8 then e.Kind != 0 else if l = 9 then e.Kind == 2 || (e.Kind == 1 && (e.Old.Kind == 1 && e.New.Kind == 1)) else false
def okO (l : Int) (o : S_api_Op) (r : Bool) : Bool :=
  if o.Kind = 0 then (decide (1 ≤ o.N) && decide (o.N ≤ 1048576)) && (o.L.length == 0 && sameE o.E)
  else if o.Kind = 1 ∨ o.Kind = 2 then o.N == 0 && (decide (0 < o.L.length) && ((o.L.all fun t => rt t 63 && okk l t) && sameE o.E))
  else if o.Kind = 3 then o.N == 0 && (o.L.length == 0 && (o.E.Kind != 0 && (descP l o.E && r)))
  else false
def lensB (s : Int × Int) : Bool := decide (s.1 < 1048576) && decide (s.2 < 1048576)
theorem ok_thr {l : Int} {o : S_api_Op} {r : Bool} (h : okO l o r = true) : o.N + (o.L.length : Int) = (if o.Kind = 3 then 0 else thr o) ∧ 0 ≤ thr o := by
  unfold okO at h
  unfold thr
  by_cases h0 : o.Kind = 0
  · rw [if_pos h0] at h
    simp only [Bool.and_eq_true, decide_eq_true_eq, beq_iff_eq] at h
    simp only [h0, if_pos]
    refine ⟨?_, ?_⟩
    · rw [if_neg (by decide)]
      repeat' split
      all_goals omega
    · repeat' split
      all_goals omega
  rw [if_neg h0] at h
  by_cases h12 : o.Kind = 1 ∨ o.Kind = 2
  · rw [if_pos h12] at h
    simp only [Bool.and_eq_true, beq_iff_eq] at h
    rw [if_neg h0, if_pos h12, if_neg (by omega)]
    omega
  rw [if_neg h12] at h
  by_cases h3 : o.Kind = 3
  · rw [if_pos h3] at h
    simp only [Bool.and_eq_true, beq_iff_eq] at h
    rw [if_neg h0, if_neg h12, if_pos h3, if_pos h3]
    omega
  · rw [if_neg h3] at h
    cases h
theorem stR_stI {l : Int} {o : S_api_Op} {r : Bool} {s : Int × Int} (h : okO l o r = true) (hs : Sm s) (hl : o.L.length * 56 ≤ 140737488355328) : stR s o = stI s o := by
  have ht := thr_bd hl
  have hk := ok_thr h
  have hi : incR o = thr o := by
    unfold incR
    by_cases h3 : o.Kind = 3
    · rw [if_pos h3]
      unfold thr
      rw [if_neg (by omega), if_neg (by omega), if_pos h3]
    · rw [if_neg h3] at hk ⊢
      rw [i64s (by omega) (by omega)]
      exact hk.1
  unfold Sm at hs
  unfold stR stI
  rw [hi, i64s (by omega) (by omega), i64s (by omega) (by omega)]
  have hc : ∀ x : Int, x ≤ 1048576 → capI x = x := fun x hx => by unfold capI; rw [if_neg (by omega)]
  refine Prod.ext ?_ ?_
  · simp only
    split
    · exact hc _ hs.1.2
    · rfl
  · simp only
    split
    · exact hc _ hs.2.2
    · rfl
theorem fold_same {l : Int} (r : S_api_Op → Bool) : ∀ (os : List S_api_Op) (s : Int × Int), Sm s → (∀ o ∈ os, okO l o (r o) = true) → (∀ o ∈ os, o.L.length * 56 ≤ 140737488355328) → os.foldl stR s = os.foldl stI s ∧ Sm (os.foldl stI s)
  | [], s, hs, _, _ => ⟨rfl, hs⟩
  | o :: os, s, hs, h, hl => by
    have h1 := stR_stI (h o (.head _)) hs (hl o (.head _))
    have := fold_same r os (stI s o) (stI_sm hs (hl o (.head _))) (fun x hx => h x (.tail _ hx)) (fun x hx => hl x (.tail _ hx))
    rw [List.foldl_cons, List.foldl_cons, h1]
    exact this
theorem fold_up : ∀ (os : List S_api_Op) (s : Int × Int), Sm s → (∀ o ∈ os, o.L.length * 56 ≤ 140737488355328) → (s.1 = 1048576 → (os.foldl stI s).1 = 1048576) ∧ (s.2 = 1048576 → (os.foldl stI s).2 = 1048576)
  | [], s, _, _ => ⟨id, id⟩
  | o :: os, s, hs, hl => by
    have ht := thr_bd (hl o (.head _))
    have := fold_up os (stI s o) (stI_sm hs (hl o (.head _))) (fun x hx => hl x (.tail _ hx))
    rw [List.foldl_cons]
    refine ⟨fun h => this.1 ?_, fun h => this.2 ?_⟩
    · unfold stI capI
      simp only
      repeat' split
      all_goals omega
    · unfold stI capI
      simp only
      repeat' split
      all_goals omega
def okP (p : Int) (x : Int × Bool) : Bool := !(decide (x.1 ≤ p) || decide (65534 < x.1)) && x.2
theorem chk_map {α : Type} (g : α → Int × Bool) : ∀ (xs : List α) (p : Int), chk (·.1) okP p (xs.map g) = chk (fun x => (g x).1) (fun p x => okP p (g x)) p xs
  | [], _ => rfl
  | x :: xs, p => by rw [List.map_cons, chk, chk, chk_map g xs]
def rE (e : Ed) (d : Nat) : Bool :=
  if d = 0 then false
  else if e.Kind = 0 then sameE e
  else if e.Kind = 1 then (noWK e && noLO e) && ((rt e.Old 64 && e.Old.Kind != 10) && (rt e.New 64 && e.New.Kind != 10))
  else if e.Kind = 2 then (none2 e && noLO e) && (chk (·.At) okW (-1) e.Words && chk (·.1) okP (-1) (e.Kids.attach.map fun k => (k.1.At, k.1.E.Kind != 0 && rE k.1.E (d - 1))))
  else if e.Kind = 3 then (none2 e && noWK e) && ((decide (2 ≤ e.List_) && decide (e.List_ ≤ 9)) && ((e.Ops.attach.map fun o => okO e.List_ o.1 (rE o.1.E (d - 1))).all id && lensB (e.Ops.foldl stR (0, 0))))
  else false
termination_by SizeOf.sizeOf e
decreasing_by
  · exact kidE_lt k.2
  · exact opE_lt o.2
def okK (d : Nat) (p : Int) (k : S_api_KidEdit) : Bool := okP p (k.At, k.E.Kind != 0 && rE k.E d)
theorem rE_eq (e : Ed) (d : Nat) : rE e d = if d = 0 then false
  else if e.Kind = 0 then sameE e
  else if e.Kind = 1 then (noWK e && noLO e) && ((rt e.Old 64 && e.Old.Kind != 10) && (rt e.New 64 && e.New.Kind != 10))
  else if e.Kind = 2 then (none2 e && noLO e) && (chk (·.At) okW (-1) e.Words && chk (·.At) (okK (d - 1)) (-1) e.Kids)
  else if e.Kind = 3 then (none2 e && noWK e) && ((decide (2 ≤ e.List_) && decide (e.List_ ≤ 9)) && ((e.Ops.all fun o => okO e.List_ o (rE o.E (d - 1))) && lensB (e.Ops.foldl stR (0, 0))))
  else false := by
  rw [rE]
  have h1 : (e.Kids.attach.map fun k => (k.1.At, k.1.E.Kind != 0 && rE k.1.E (d - 1))) = e.Kids.map fun k => (k.At, k.E.Kind != 0 && rE k.E (d - 1)) := List.attach_map_val (f := fun k : S_api_KidEdit => (k.At, k.E.Kind != 0 && rE k.E (d - 1)))
  have h2 : (e.Ops.attach.map fun o => okO e.List_ o.1 (rE o.1.E (d - 1))) = e.Ops.map fun o => okO e.List_ o (rE o.E (d - 1)) := List.attach_map_val (f := fun o : S_api_Op => okO e.List_ o (rE o.E (d - 1)))
  rw [h1, h2, chk_map, List.all_map]
  rfl
theorem len_pos {n : Nat} : decide (0 < (n : Int)) = !(n == 0) := by rw [Bool.eq_iff_iff, Bool.not_eq_true', decide_eq_true_eq, beq_eq_false_iff_ne]; omega
theorem len_pos' {n : Nat} : decide (0 < n) = !(n == 0) := by rw [Bool.eq_iff_iff, Bool.not_eq_true', decide_eq_true_eq, beq_eq_false_iff_ne]; omega
theorem rt_of {l : Int} {L : List Tr} (h2 : 2 ≤ l) (h9 : l ≤ 9) : rt ⟨l, [], L⟩ 64 = (decide (L.length < 1048576) && L.all fun t => rt t 63 && okk l t) := by
  rw [rt_eq]
  simp only
  rw [if_neg (by omega), if_neg (by omega)]
  by_cases h : L.length < 1048576
  · rw [if_neg (by simp only [List.length_nil]; omega), decide_eq_true h, Bool.true_and]
  · rw [if_pos (by omega), decide_eq_false h, Bool.false_and]
def BO (o : S_api_Op) : Prop := (o.L.length * 56 ≤ 140737488355328 ∧ ∀ t ∈ o.L, Bd t) ∧ BE o.E
theorem bd_of {l : Int} {L : List Tr} (h : L.length * 56 ≤ 140737488355328 ∧ ∀ t ∈ L, Bd t) : Bd ⟨l, [], L⟩ := .mk _ (by simp) (by simp only; omega) (fun w hw => by simp at hw) h.2
theorem sub_one {α : Type} {l : List α} {i : Nat} {x : α} (hx : l[i]? = some x) (hl : (l.length : Int) ≤ 140737488355328) : subI l (i : Int) (IntKind.i64.wrap ((i : Int) + 1)) = some [x] := by
  have hi : i < l.length := by
    rcases Nat.lt_or_ge i l.length with h' | h'
    · exact h'
    · rw [List.getElem?_eq_none h'] at hx; cases hx
  rw [i64s (by omega) (by omega)]
  unfold subI
  rw [if_pos (by omega)]
  have e1 : ((i : Int) + 1 - (i : Int)).toNat = 1 := by omega
  rw [e1, Int.toNat_natCast, List.drop_eq_getElem_cons hi, List.take_succ_cons, List.take_zero]
  rw [List.getElem?_eq_getElem hi] at hx
  rw [Option.some.inj hx]
theorem eref_lv : ∀ (k : Nat), (∀ (e : Ed) (d : Nat), BE e → 2 * SizeOf.sizeOf e < k → d ≤ 64 → (lv_centoref20_Right k).1 e (d : Int) = some (rE e d)) ∧
    (∀ (l : Int) (o : S_api_Op) (d : Nat), 2 ≤ l → l ≤ 9 → BO o → 2 * SizeOf.sizeOf o.E + 1 < k → d ≤ 64 → (lv_centoref20_Right k).2 l o (d : Int) = some (okO l o (rE o.E d)))
  | 0 => ⟨fun e d _ h => by omega, fun l o d _ _ _ h => by omega⟩
  | k + 1 => by
    obtain ⟨i1, i2⟩ := eref_lv k
    refine ⟨fun e d hb hk hd => ?_, fun l o d h2 h9 hb hk hd => ?_⟩
    · show b_centoref20_Right (lv_centoref20_Right k).1 (lv_centoref20_Right k).2 e (d : Int) = _
      unfold b_centoref20_Right
      rw [rE_eq, none_ok hb.old, none_ok hb.new, wk_pos hb, lo_pos, rWords_ok hb, lenR_ok hb]
      by_cases hd0 : d = 0
      · subst hd0
        rw [if_pos rfl]
        rfl
      have ed : ((d : Int) == 0) = false := by rw [beq_eq_false_iff_ne]; omega
      rw [if_neg hd0, ed, cond_false]
      obtain ⟨d', rfl⟩ : ∃ d', d = d' + 1 := ⟨d - 1, by omega⟩
      have ed' : IntKind.i64.wrap (((d' + 1 : Nat) : Int) - 1) = (d' : Int) := by rw [i64s (by omega) (by omega)]; omega
      by_cases hbad : e.Kind < 0 ∨ 3 < e.Kind
      · have q : cond (decide (e.Kind < 0)) true (decide (3 < e.Kind)) = true := by
          rcases hbad with h | h
          · rw [decide_eq_true h]; rfl
          · rw [decide_eq_true h]; cases decide (e.Kind < 0) <;> rfl
        rw [q, cond_true, if_neg (by omega), if_neg (by omega), if_neg (by omega), if_neg (by omega)]
      have q : cond (decide (e.Kind < 0)) true (decide (3 < e.Kind)) = false := by
        rw [decide_eq_false (by omega), decide_eq_false (by omega)]
        rfl
      rw [q, cond_false]
      simp only [Option.bind_some]
      have hkids : runLoop (b_centoref20_Right_L1 (lv_centoref20_Right k).1 e ((d' + 1 : Nat) : Int)) (-1, 0) = some (if chk (·.At) (okK d') (-1) e.Kids = true then Sum.inr () else Sum.inl ()) :=
        loop_chk e.Kids (·.At) (okK d') (b_centoref20_Right_L1 (lv_centoref20_Right k).1 e ((d' + 1 : Nat) : Int)) (.inl ()) (.inr ()) hb.k (fun p i x hi hx hm => by
          unfold b_centoref20_Right_L1
          simp only
          rw [lt_t hi, cond_true, getI_of hx, Option.bind_some, ed', i1 x.E d' (hb.ks x hm) (by have := kidE_lt hm; omega) (by omega)]
          simp only [Option.bind_some]
          unfold okK okP bne
          simp only
          generalize decide (x.At ≤ p) = q1
          generalize decide (65534 < x.At) = q2
          generalize (x.E.Kind == 0) = q3
          generalize rE x.E d' = q4
          cases q1 <;> cases q2 <;> cases q3 <;> cases q4 <;> rfl) (fun p => by unfold b_centoref20_Right_L1; simp only; rw [lt_f]; rfl) (-1)
      have hnil : e.Ops = [] → runLoop (b_centoref20_Right_L2 (lv_centoref20_Right k).2 e ((d' + 1 : Nat) : Int)) 0 = some (Sum.inr ()) := fun h => runLoop_end (by
        unfold b_centoref20_Right_L2
        rw [h]
        rfl)
      have wk_nil : noWK e = true → e.Words = [] ∧ e.Kids = [] := fun h => by
        unfold noWK at h
        rw [Bool.and_eq_true, beq_iff_eq, beq_iff_eq] at h
        exact ⟨List.eq_nil_of_length_eq_zero h.1, List.eq_nil_of_length_eq_zero h.2⟩
      have lo_nil : noLO e = true → e.List_ = 0 ∧ e.Ops = [] := fun h => by
        unfold noLO at h
        rw [Bool.and_eq_true, beq_iff_eq, beq_iff_eq] at h
        exact ⟨h.1, List.eq_nil_of_length_eq_zero h.2⟩
      rw [Nat.add_sub_cancel]
      by_cases h0 : e.Kind = 0
      · rw [if_pos h0]
        unfold sameE none2
        rw [h0]
        cases hwk : noWK e with
        | false => cases noneT e.Old <;> cases noneT e.New <;> cases noLO e <;> rfl
        | true =>
          cases hlo : noLO e with
          | false => cases noneT e.Old <;> cases noneT e.New <;> rfl
          | true =>
            obtain ⟨w0, k0⟩ := wk_nil hwk
            obtain ⟨l0, o0⟩ := lo_nil hlo
            rw [hkids, hnil o0, w0, k0, o0]
            cases noneT e.Old <;> cases noneT e.New <;> rfl
      rw [if_neg h0]
      by_cases h1 : e.Kind = 1
      · have r1 := rright_ok hb.old (d := 64) (by decide)
        have r2 := rright_ok hb.new (d := 64) (by decide)
        rw [show ((64 : Nat) : Int) = 64 from rfl] at r1 r2
        rw [if_pos h1, h1, r1, r2]
        simp only [Option.bind_some]
        generalize noWK e = q1
        generalize noLO e = q2
        generalize rt e.Old 64 = q3
        generalize rt e.New 64 = q4
        generalize (e.Old.Kind != 10) = q5
        generalize (e.New.Kind != 10) = q6
        cases q1 <;> cases q2 <;> cases q3 <;> cases q4 <;> cases q5 <;> cases q6 <;> rfl
      rw [if_neg h1]
      by_cases h2 : e.Kind = 2
      · rw [if_pos h2, h2]
        unfold none2
        cases hlo : noLO e with
        | false => cases noneT e.Old <;> cases noneT e.New <;> rfl
        | true =>
          obtain ⟨l0, o0⟩ := lo_nil hlo
          rw [hkids, hnil o0, o0]
          generalize chk (·.At) okW (-1) e.Words = q1
          generalize chk (·.At) (okK d') (-1) e.Kids = q2
          cases noneT e.Old <;> cases noneT e.New <;> cases q1 <;> cases q2 <;> rfl
      have h3 : e.Kind = 3 := by omega
      rw [if_neg h2, if_pos h3, h3]
      unfold none2
      cases hwk : noWK e with
      | false => cases noneT e.Old <;> cases noneT e.New <;> rfl
      | true =>
        obtain ⟨w0, k0⟩ := wk_nil hwk
        rw [hkids, w0, k0]
        by_cases hl : 2 ≤ e.List_ ∧ e.List_ ≤ 9
        · have hops : runLoop (b_centoref20_Right_L2 (lv_centoref20_Right k).2 e ((d' + 1 : Nat) : Int)) 0 = some (if (e.Ops.all fun o => okO e.List_ o (rE o.E d')) = true then Sum.inr () else Sum.inl ()) :=
            loop_all e.Ops _ (fun o => okO e.List_ o (rE o.E d')) (Sum.inl () : Unit ⊕ Unit) (Sum.inr ()) hb.o (fun i x hi hx hm => by
              unfold b_centoref20_Right_L2
              rw [lt_t hi, cond_true, getI_of hx, Option.bind_some, ed', i2 e.List_ x d' hl.1 hl.2 ⟨hb.l x hm, hb.os x hm⟩ (by have := opE_lt hm; omega) (by omega), Option.bind_some]
              cases okO e.List_ x (rE x.E d') <;> rfl) (by unfold b_centoref20_Right_L2; rw [lt_f]; rfl)
          rw [hops, decide_eq_true hl.1, decide_eq_true hl.2, decide_eq_false (p := e.List_ < 2) (by omega), decide_eq_false (p := 9 < e.List_) (by omega)]
          unfold lensB
          generalize (e.Ops.all fun o => okO e.List_ o (rE o.E d')) = q1
          generalize decide ((e.Ops.foldl stR (0, 0)).1 < 1048576) = q2
          generalize decide ((e.Ops.foldl stR (0, 0)).2 < 1048576) = q3
          cases noneT e.Old <;> cases noneT e.New <;> cases q1 <;> cases q2 <;> cases q3 <;> rfl
        · have q : cond (decide (e.List_ < 2)) true (decide (9 < e.List_)) = true := by
            by_cases h : e.List_ < 2
            · rw [decide_eq_true h]; rfl
            · rw [decide_eq_true (p := 9 < e.List_) (by omega)]; cases decide (e.List_ < 2) <;> rfl
          have q' : (decide (2 ≤ e.List_) && decide (e.List_ ≤ 9)) = false := by rw [Bool.and_eq_false_iff, decide_eq_false_iff_not, decide_eq_false_iff_not]; omega
          rw [q, q']
          cases noneT e.Old <;> cases noneT e.New <;> rfl
    · show b_centoref20_op (lv_centoref20_Right k).1 (lv_centoref20_Right k).2 l o (d : Int) = _
      have hlen : (o.L.length : Int) ≤ 140737488355328 := by have := hb.1.1; omega
      have hloop : runLoop (b_centoref20_op_L0 l o) 0 = some (if (o.L.all fun t => rt t 63 && okk l t) = true then Sum.inr () else Sum.inl ()) :=
        loop_all o.L _ (fun t => rt t 63 && okk l t) (Sum.inl () : Unit ⊕ Unit) (Sum.inr ()) hlen (fun i x hi hx hm => by
          unfold b_centoref20_op_L0
          have hbx : Bd ⟨l, [], [x]⟩ := bd_of ⟨by simp, fun t ht => by rw [List.mem_singleton.1 ht]; exact hb.1.2 x hm⟩
          have r1 := rright_ok hbx (d := 64) (by decide)
          rw [show ((64 : Nat) : Int) = 64 from rfl, rt_of h2 h9] at r1
          rw [lt_t hi, cond_true, sub_one hx hlen, Option.bind_some, r1, Option.bind_some]
          simp only [List.all_cons, List.all_nil, Bool.and_true, List.length_singleton]
          cases rt x 63 && okk l x <;> rfl) (by unfold b_centoref20_op_L0; rw [lt_f]; rfl)
      unfold b_centoref20_op okO
      rw [same_okE hb.2, i1 o.E d hb.2 (by omega) hd, hloop, len0, len_pos, len_pos']
      simp only [Option.bind_some]
      by_cases h0 : o.Kind = 0
      · rw [if_pos h0, h0]
        generalize decide (1 ≤ o.N) = q1
        generalize decide (o.N ≤ 1048576) = q2
        generalize (o.L.length == 0) = q3
        generalize sameE o.E = q4
        cases q1 <;> cases q2 <;> cases q3 <;> cases q4 <;> rfl
      rw [if_neg h0, beq_eq_false_iff_ne.2 h0, cond_false]
      by_cases h12 : o.Kind = 1 ∨ o.Kind = 2
      · rw [if_pos h12, decide_eq_false (p := o.Kind < 0) (by omega), decide_eq_false (p := 3 < o.Kind) (by omega), decide_eq_true (p := o.Kind < 3) (by omega)]
        unfold bne
        generalize (o.N == 0) = q1
        generalize (o.L.length == 0) = q2
        generalize (o.L.all fun t => rt t 63 && okk l t) = q3
        generalize sameE o.E = q4
        cases q1 <;> cases q2 <;> cases q3 <;> cases q4 <;> rfl
      rw [if_neg h12]
      by_cases h3 : o.Kind = 3
      · rw [if_pos h3, h3]
        unfold bne descP
        by_cases k0 : o.E.Kind = 0
        · rw [k0]
          generalize (o.N == 0) = q1
          generalize (o.L.length == 0) = q2
          cases q1 <;> cases q2 <;> rfl
        rw [beq_eq_false_iff_ne.2 k0]
        by_cases l8 : l = 8
        · rw [if_pos l8, l8]
          unfold bne
          rw [beq_eq_false_iff_ne.2 k0]
          generalize (o.N == 0) = q1
          generalize (o.L.length == 0) = q2
          generalize rE o.E d = q3
          cases q1 <;> cases q2 <;> cases q3 <;> rfl
        rw [if_neg l8]
        by_cases l9 : l = 9
        · rw [if_pos l9, l9]
          generalize (o.N == 0) = q1
          generalize (o.L.length == 0) = q2
          generalize rE o.E d = q3
          generalize (o.E.Kind == 2) = q4
          generalize (o.E.Kind == 1) = q5
          generalize (o.E.Old.Kind == 1) = q6
          generalize (o.E.New.Kind == 1) = q7
          cases q1 <;> cases q2 <;> cases q3 <;> cases q4 <;> cases q5 <;> cases q6 <;> cases q7 <;> rfl
        rw [if_neg l9, decide_eq_true (p := l ≤ 7) (by omega)]
        generalize (o.N == 0) = q1
        generalize (o.L.length == 0) = q2
        cases q1 <;> cases q2 <;> rfl
      rw [if_neg h3]
      have q : cond (cond (o.N != 0) true (decide (o.Kind < 0))) true (decide (3 < o.Kind)) = true := by
        by_cases h : o.Kind < 0
        · rw [decide_eq_true h]; cases o.N != 0 <;> rfl
        · rw [decide_eq_true (p := 3 < o.Kind) (by omega)]; cases cond (o.N != 0) true (decide (o.Kind < 0)) <;> rfl
      rw [q]
      rfl
theorem eref_ok {e : Ed} (h : BE e) {d : Nat} (hd : d ≤ 64) : m_centoref20_Right e (d : Int) = some (rE e d) := lim_eq (2 * SizeOf.sizeOf e + 1) fun k hk => (eref_lv k).1 e d h (by omega) hd
def ce (e : Ed) : Nat := 1 + e.Words.length + e.Ops.length + (e.Kids.attach.map fun k => ce k.1.E).sum + (e.Ops.attach.map fun o => ce o.1.E).sum
termination_by SizeOf.sizeOf e
decreasing_by
  · exact kidE_lt k.2
  · exact opE_lt o.2
theorem ce_eq (e : Ed) : ce e = 1 + e.Words.length + e.Ops.length + (e.Kids.map fun k => ce k.E).sum + (e.Ops.map fun o => ce o.E).sum := by
  rw [ce]
  have h1 : (e.Kids.attach.map fun k => ce k.1.E) = e.Kids.map fun k => ce k.E := List.attach_map_val (f := fun k : S_api_KidEdit => ce k.E)
  have h2 : (e.Ops.attach.map fun o => ce o.1.E) = e.Ops.map fun o => ce o.E := List.attach_map_val (f := fun o : S_api_Op => ce o.E)
  rw [h1, h2]
theorem left_lv : ∀ (k : Nat) (e : Ed) (d left : Int), BE e → SizeOf.sizeOf e < k → 0 ≤ d → d ≤ 100 → 0 ≤ left → left ≤ 1000000 → ∃ r, lv_centoref20_left k e d left = some r ∧ -1 ≤ r ∧ r ≤ 1000000 ∧ (0 ≤ r → r + (ce e : Nat) ≤ left)
  | 0, e, _, _, _, h, _, _, _, _ => by omega
  | k + 1, e, d, left, hb, hk, hd0, hd1, hl0, hl1 => by
    have hw := hb.w
    have ho := hb.o
    show ∃ r, b_centoref20_left (lv_centoref20_left k) e d left = some r ∧ _
    unfold b_centoref20_left
    rw [i64s (x := left - 1) (by omega) (by omega), i64s (x := left - 1 - (e.Words.length : Int)) (by omega) (by omega), i64s (by omega) (by omega), ce_eq]
    cases hc : cond (d == 0) true (decide (left - 1 - (e.Words.length : Int) - (e.Ops.length : Int) < 0)) with
    | true => exact ⟨-1, rfl, by omega, by omega, fun h => by omega⟩
    | false =>
      rw [cond_false]
      have hd : ¬ d = 0 ∧ 0 ≤ left - 1 - (e.Words.length : Int) - (e.Ops.length : Int) := by
        by_cases h : d = 0
        · simp [h] at hc
        · have e : (d == 0) = false := by simp [h]
          rw [e, cond_false, decide_eq_false_iff_not] at hc
          exact ⟨h, by omega⟩
      obtain ⟨r1, g1, g2, g3, g4⟩ := shal_ok hb.old hd.2 (by omega)
      have hz : ∃ z, cond (decide (0 ≤ r1)) ((m_centoref07_Shallow e.New 80 r1).bind fun y4 => some y4) (some r1) = some z ∧ -1 ≤ z ∧ z ≤ 1000000 ∧ (0 ≤ z → z ≤ left - 1 - (e.Words.length : Int) - (e.Ops.length : Int)) := by
        by_cases h : 0 ≤ r1
        · obtain ⟨r2, f1, f2, f3, f4⟩ := shal_ok hb.new h g3
          refine ⟨r2, by rw [decide_eq_true h, f1]; rfl, f2, f3, fun h2 => ?_⟩
          have := f4 h2
          have := g4 h
          omega
        · exact ⟨r1, by rw [decide_eq_false h]; rfl, g2, g3, fun h2 => absurd h2 h⟩
      obtain ⟨z, z1, z2, z3, z4⟩ := hz
      rw [g1, Option.bind_some, z1, Option.bind_some]
      obtain ⟨r, h1, h2⟩ := runLoop_rule (step := b_centoref20_left_L0 (lv_centoref20_left k) e d)
        (fun s => ∃ j : Nat, s.2 = j ∧ j ≤ e.Kids.length ∧ -1 ≤ s.1 ∧ s.1 ≤ 1000000 ∧ (0 ≤ s.1 → s.1 + ((((e.Kids.take j).map fun k => ce k.E)).sum : Nat) ≤ left - 1 - (e.Words.length : Int) - (e.Ops.length : Int)))
        (fun s => e.Kids.length - s.2.toNat) (fun r => -1 ≤ r ∧ r ≤ 1000000 ∧ (0 ≤ r → r + ((e.Kids.map fun k => ce k.E).sum : Nat) ≤ left - 1 - (e.Words.length : Int) - (e.Ops.length : Int))) (fun s hI => by
          obtain ⟨l, i⟩ := s
          obtain ⟨j, rfl, hj, g1, g2, g3⟩ := hI
          have hkl := hb.k
          simp only at g1 g2 g3 ⊢
          unfold b_centoref20_left_L0
          simp only
          by_cases hji : j < e.Kids.length
          · rw [lt_t hji, cond_true]
            by_cases hl : 0 ≤ l
            · have e1 : decide (0 ≤ l) = true := by simp [hl]
              have hx : e.Kids[j]? = some e.Kids[j] := List.getElem?_eq_getElem hji
              have hm : e.Kids[j] ∈ e.Kids := List.getElem_mem hji
              obtain ⟨r, q1, q2, q3, q4⟩ := left_lv k e.Kids[j].E (d - 1) l (hb.ks _ hm) (by have := kidE_lt hm; omega) (by omega) (by omega) hl g2
              rw [e1, cond_true, getI_of hx, Option.bind_some, i64s (x := d - 1) (by omega) (by omega), q1, Option.bind_some, i64s (by omega) (by omega)]
              refine .inl ⟨_, rfl, ⟨j + 1, by simp only; omega, by omega, q2, q3, fun hr => ?_⟩, by simp only; omega⟩
              have := q4 hr
              have := g3 hl
              rw [List.take_add_one, hx]
              simp only [Option.toList_some, List.map_append, List.map_cons, List.map_nil, List.sum_append, List.sum_cons, List.sum_nil]
              simp only at hr
              omega
            · have e1 : decide (0 ≤ l) = false := by simp [hl]
              rw [e1, cond_false]
              exact .inr ⟨l, rfl, g1, g2, fun h => absurd h hl⟩
          · have hj' : j = e.Kids.length := by omega
            subst hj'
            rw [lt_f, cond_false]
            rw [List.take_length] at g3
            exact .inr ⟨l, rfl, g1, g2, g3⟩) (z, 0) ⟨0, rfl, Nat.zero_le _, z2, z3, fun h => by simpa using z4 h⟩
      rw [h1, Option.bind_some]
      have inner : ∀ (j : Nat) (hj : j < e.Ops.length) (l : Int), 0 ≤ l → l ≤ 1000000 → ∃ r, runLoop (b_centoref20_left_L2 e (l, (j : Int))) (l, 0) = some r ∧ -1 ≤ r ∧ r ≤ 1000000 ∧ r ≤ l := fun j hj l hl hl' => by
        have hx : e.Ops[j]? = some e.Ops[j] := List.getElem?_eq_getElem hj
        have hm : e.Ops[j] ∈ e.Ops := List.getElem_mem hj
        have hL := (hb.l _ hm).1
        obtain ⟨r, h1, h2⟩ := runLoop_rule (step := b_centoref20_left_L2 e (l, (j : Int)))
          (fun s => ∃ i : Nat, s.2 = i ∧ i ≤ e.Ops[j].L.length ∧ -1 ≤ s.1 ∧ s.1 ≤ 1000000 ∧ s.1 ≤ l)
          (fun s => e.Ops[j].L.length - s.2.toNat) (fun r => -1 ≤ r ∧ r ≤ 1000000 ∧ r ≤ l) (fun s hI => by
            obtain ⟨l', i'⟩ := s
            obtain ⟨i, rfl, hi, g1, g2, g3⟩ := hI
            simp only at g1 g2 g3 ⊢
            unfold b_centoref20_left_L2
            simp only
            rw [getI_of hx, Option.bind_some, Option.bind_some]
            by_cases hii : i < e.Ops[j].L.length
            · rw [lt_t hii, cond_true]
              by_cases hl2 : 0 ≤ l'
              · have e1 : decide (0 ≤ l') = true := by simp [hl2]
                have hx2 : e.Ops[j].L[i]? = some e.Ops[j].L[i] := List.getElem?_eq_getElem hii
                have hm2 : e.Ops[j].L[i] ∈ e.Ops[j].L := List.getElem_mem hii
                obtain ⟨r, q1, q2, q3, q4⟩ := shal_ok ((hb.l _ hm).2 _ hm2) hl2 g2
                rw [e1, cond_true, getI_of hx2, Option.bind_some, q1, Option.bind_some, i64s (by omega) (by omega)]
                refine .inl ⟨_, rfl, ⟨i + 1, by simp only; omega, by omega, q2, q3, ?_⟩, by simp only; omega⟩
                simp only
                by_cases hr : 0 ≤ r
                · have := q4 hr; omega
                · omega
              · have e1 : decide (0 ≤ l') = false := by simp [hl2]
                rw [e1, cond_false]
                exact .inr ⟨l', rfl, g1, g2, g3⟩
            · have hi' : i = e.Ops[j].L.length := by omega
              subst hi'
              rw [lt_f, cond_false]
              exact .inr ⟨l', rfl, g1, g2, g3⟩) (l, 0) ⟨0, rfl, Nat.zero_le _, by simp only; omega, by simp only; omega, by simp only; omega⟩
        exact ⟨r, h1, h2⟩
      obtain ⟨r', h1', h2'⟩ := runLoop_rule (step := b_centoref20_left_L1 (lv_centoref20_left k) e d)
        (fun s => ∃ j : Nat, s.2 = j ∧ j ≤ e.Ops.length ∧ -1 ≤ s.1 ∧ s.1 ≤ 1000000 ∧ (0 ≤ s.1 → 0 ≤ r ∧ s.1 + ((((e.Ops.take j).map fun o => ce o.E)).sum : Nat) ≤ r))
        (fun s => e.Ops.length - s.2.toNat) (fun q => -1 ≤ q ∧ q ≤ 1000000 ∧ (0 ≤ q → 0 ≤ r ∧ q + ((e.Ops.map fun o => ce o.E).sum : Nat) ≤ r)) (fun s hI => by
          obtain ⟨l, i⟩ := s
          obtain ⟨j, rfl, hj, g1, g2, g3⟩ := hI
          simp only at g1 g2 g3 ⊢
          unfold b_centoref20_left_L1
          simp only
          by_cases hji : j < e.Ops.length
          · rw [lt_t hji, cond_true]
            by_cases hl : 0 ≤ l
            · have e1 : decide (0 ≤ l) = true := by simp [hl]
              have hx : e.Ops[j]? = some e.Ops[j] := List.getElem?_eq_getElem hji
              have hm : e.Ops[j] ∈ e.Ops := List.getElem_mem hji
              obtain ⟨t, t1, t2, t3, t4⟩ := inner j hji l hl g2
              rw [e1, cond_true, t1, Option.bind_some, i64s (x := (j : Int) + 1) (by omega) (by omega)]
              by_cases ht : 0 ≤ t
              · obtain ⟨r, q1, q2, q3, q4⟩ := left_lv k e.Ops[j].E (d - 1) t (hb.os _ hm) (by have := opE_lt hm; omega) (by omega) (by omega) ht t3
                rw [decide_eq_true ht, cond_true, getI_of hx, Option.bind_some, i64s (x := d - 1) (by omega) (by omega), q1]
                refine .inl ⟨_, rfl, ⟨j + 1, by simp only; omega, by omega, q2, q3, fun hr => ?_⟩, by simp only; omega⟩
                have := q4 hr
                have := g3 hl
                rw [List.take_add_one, hx]
                simp only [Option.toList_some, List.map_append, List.map_cons, List.map_nil, List.sum_append, List.sum_cons, List.sum_nil]
                simp only at hr
                omega
              · rw [decide_eq_false ht]
                exact .inl ⟨_, rfl, ⟨j + 1, by simp only; omega, by omega, t2, t3, fun hr => absurd hr ht⟩, by simp only; omega⟩
            · have e1 : decide (0 ≤ l) = false := by simp [hl]
              rw [e1, cond_false]
              exact .inr ⟨l, rfl, g1, g2, fun h => absurd h hl⟩
          · have hj' : j = e.Ops.length := by omega
            subst hj'
            rw [lt_f, cond_false]
            rw [List.take_length] at g3
            exact .inr ⟨l, rfl, g1, g2, g3⟩) (r, 0) ⟨0, rfl, Nat.zero_le _, h2.1, h2.2.1, fun h => ⟨h, by simp⟩⟩
      rw [h1']
      refine ⟨r', rfl, h2'.1, h2'.2.1, fun hr => ?_⟩
      have p1 := h2'.2.2 hr
      have p2 := h2.2.2 p1.1
      omega
theorem left_same : ∀ (k k' : Nat) (e : Ed) (d left : Int), SizeOf.sizeOf e < k → SizeOf.sizeOf e < k' → lv_centoref20_left k e d left = lv_centoref20_left k' e d left
  | 0, _, e, _, _, h, _ => by omega
  | k + 1, 0, e, _, _, _, h => by omega
  | k + 1, k' + 1, e, d, left, h, h' => by
    show b_centoref20_left (lv_centoref20_left k) e d left = b_centoref20_left (lv_centoref20_left k') e d left
    have e1 : b_centoref20_left_L0 (lv_centoref20_left k) e d = b_centoref20_left_L0 (lv_centoref20_left k') e d := funext fun s => by
      unfold b_centoref20_left_L0
      cases hx : getI e.Kids s.2 with
      | none => rfl
      | some x => simp only [Option.bind_some, left_same k k' x.E (IntKind.i64.wrap (d - 1)) s.1 (by have := kidE_lt (getI_mem hx); omega) (by have := kidE_lt (getI_mem hx); omega)]
    have e2 : b_centoref20_left_L1 (lv_centoref20_left k) e d = b_centoref20_left_L1 (lv_centoref20_left k') e d := funext fun s => by
      unfold b_centoref20_left_L1
      cases hx : getI e.Ops s.2 with
      | none => rfl
      | some x => 
        have : ∀ z, lv_centoref20_left k x.E (IntKind.i64.wrap (d - 1)) z = lv_centoref20_left k' x.E (IntKind.i64.wrap (d - 1)) z := fun z => left_same k k' x.E _ z (by have := opE_lt (getI_mem hx); omega) (by have := opE_lt (getI_mem hx); omega)
        simp only [Option.bind_some, this]
    unfold b_centoref20_left
    rw [e1, e2]
theorem few20 {e : Ed} (h : BE e) : ∃ b, m_centoref20_Few e = some b ∧ (b = true → ce e ≤ 3000) := by
  obtain ⟨r, h1, h2, h3, h4⟩ := left_lv (SizeOf.sizeOf e + 1) e 80 3000 h (by omega) (by omega) (by omega) (by omega) (by omega)
  have hr : m_centoref20_left e 80 3000 = some r := lim_eq (SizeOf.sizeOf e + 1) fun k hk => by rw [left_same k (SizeOf.sizeOf e + 1) e 80 3000 (by omega) (by omega)]; exact h1
  unfold m_centoref20_Few
  rw [hr, Option.bind_some]
  refine ⟨_, rfl, fun hb => ?_⟩
  have := h4 (by simpa using hb)
  have : 0 ≤ r := by simpa using hb
  omega
theorem rE_lens {e : Ed} (hb : BE e) {d : Nat} (h : rE e d = true) : e.Ops.foldl stR (0, 0) = e.Ops.foldl stI (0, 0) := by
  have h0 : Sm (0, 0) := by unfold Sm; simp
  have hnil : noLO e = true → e.Ops.foldl stR (0, 0) = e.Ops.foldl stI (0, 0) := fun h => by
    unfold noLO at h
    rw [Bool.and_eq_true, beq_iff_eq, beq_iff_eq] at h
    rw [List.eq_nil_of_length_eq_zero h.2]
    rfl
  rw [rE_eq] at h
  split at h
  · cases h
  split at h
  · unfold sameE at h
    simp only [Bool.and_eq_true] at h
    exact hnil h.2.2.2
  split at h
  · simp only [Bool.and_eq_true] at h
    exact hnil h.1.2
  split at h
  · simp only [Bool.and_eq_true] at h
    exact hnil h.1.2
  split at h
  · simp only [Bool.and_eq_true] at h
    exact (fold_same (fun o => rE o.E (d - 1)) e.Ops (0, 0) h0 (List.all_eq_true.1 h.2.2.1) (fun o ho => (hb.l o ho).1)).1
  · cases h
theorem chk_mem {α : Type} {pl : α → Int} {ok : Int → α → Bool} {Q : α → Prop} (h : ∀ p x, ok p x = true → Q x) : ∀ (xs : List α) (p : Int), chk pl ok p xs = true → ∀ x ∈ xs, Q x
  | [], _, _ => fun x hx => by cases hx
  | y :: xs, p, hc => fun x hx => by
    rw [chk, Bool.and_eq_true] at hc
    rcases List.mem_cons.1 hx with rfl | hx
    · exact h p _ hc.1
    · exact chk_mem h xs (pl y) hc.2 x hx
end Go.Proofs.Ytbcgiaijjaocdaa
