/- Plain facts on this seat's mirrors (part VQ1); each theorem bears its own conditions. -/
import Derived.Test.YtmlhokaflhlhbaaVP4
import Derived.IntWalk
namespace Go.Proofs.Ytmlhokaflhlhbaa
open Go.RowKit
set_option linter.unusedVariables false
set_option linter.unusedSimpArgs false
theorem Zqg {t x : Tr} (h : x ∈ t.Kids) : SizeOf.sizeOf x < SizeOf.sizeOf t := by
 obtain ⟨k, w, ks⟩ := t
 have := List.sizeOf_lt_of_mem h
 simp only [S_api_Tree.mk.sizeOf_spec]
 simp only at this
 omega
def tr {α : Type} (p : α → Bool) : List α → List α
 | [] => []
 | x :: xs => match tr p xs with
  | [] => if p x = true then [] else [x]
  | y :: ys => x :: y :: ys
theorem Zod {α : Type} (p : α → Bool) : ∀ l : List α, (tr p l).length ≤ l.length
 | [] => by simp [tr]
 | x :: l => by
  have := Zod p l
  simp only [tr]
  split
  ·split <;> simp
  rename_i y ys he
  rw [he] at this
  simp at this ⊢
  omega
theorem Zoe {α : Type} {p : α → Bool} {x : α} : ∀ {l : List α}, x ∈ tr p l → x ∈ l
 | [], h => by simp [tr] at h
 | y :: l, h => by
  simp only [tr] at h
  split at h
  ·split at h
   ·simp at h
   simp at h; simp [h]
  rename_i z zs he
  rw [← he] at h
  rcases List.mem_cons.1 h with h | h
  ·simp [h]
  exact List.mem_cons_of_mem _ (Zoe h)
inductive Bd : Tr → Prop
 | mk (t : Tr) (h1 : t.Words.length * 8 ≤ 140737488355328) (h2 : t.Kids.length * 56 ≤ 140737488355328) (h3 : ∀ w ∈ t.Words, 0 ≤ w ∧ w < 18446744073709551616) (h4 : ∀ k ∈ t.Kids, Bd k) : Bd t
theorem Bd.w {t : Tr} (h : Bd t) : t.Words.length * 8 ≤ 140737488355328 := by cases h; assumption
theorem Bd.k {t : Tr} (h : Bd t) : t.Kids.length * 56 ≤ 140737488355328 := by cases h; assumption
theorem Bd.u {t : Tr} (h : Bd t) : ∀ w ∈ t.Words, 0 ≤ w ∧ w < 18446744073709551616 := by cases h; assumption
theorem Bd.all {t : Tr} (h : Bd t) : ∀ k ∈ t.Kids, Bd k := by cases h; assumption
def nrm (t : Tr) : Tr :=
 if t.Kind = 0 then ⟨0, [], []⟩
 else if t.Kind = 1 then ⟨1, tr (fun x => x == 0) t.Words, tr (fun x => x.Kind == 0) (t.Kids.attach.map fun k => nrm k.1)⟩
 else ⟨t.Kind, t.Words, t.Kids.attach.map fun k => nrm k.1⟩
termination_by SizeOf.sizeOf t
decreasing_by all_goals exact Zqg k.2
theorem Zsc (t : Tr) : nrm t = if t.Kind = 0 then ⟨0, [], []⟩ else if t.Kind = 1 then ⟨1, tr (fun x => x == 0) t.Words, tr (fun x => x.Kind == 0) (t.Kids.map nrm)⟩ else ⟨t.Kind, t.Words, t.Kids.map nrm⟩ := by
 rw [nrm]
 simp only [List.attach_map_val]
theorem Zqj : ∀ (n : Nat) (t : Tr), SizeOf.sizeOf t < n → Bd t → Bd (nrm t)
 | 0, t, h, _ => by omega
 | n + 1, t, hn, hb => by
  have ih : ∀ x ∈ t.Kids, Bd (nrm x) := fun x hx => Zqj n x (by have := Zqg hx; omega) (hb.all x hx)
  have hw := hb.w
  have hk := hb.k
  rw [Zsc]
  split
  ·exact .mk _ (by simp) (by simp) (fun w h => by simp at h) (fun w h => by simp at h)
  split
  ·have l1 := Zod (fun x : Int => x == 0) t.Words
   have l2 := Zod (fun x : Tr => x.Kind == 0) (t.Kids.map nrm)
   rw [List.length_map] at l2
   refine .mk _ (by simp only; omega) (Nat.le_trans (Nat.mul_le_mul_right 56 l2) hk) (fun w h => hb.u w (Zoe h)) (fun x h => ?_)
   obtain ⟨y, hy, rfl⟩ := List.mem_map.1 (Zoe h)
   exact ih y hy
  refine .mk _ hw (by simp only [List.length_map]; exact hk) hb.u (fun x h => ?_)
  obtain ⟨y, hy, rfl⟩ := List.mem_map.1 h
  exact ih y hy
theorem Bd.nrm {t : Tr} (h : Bd t) : Bd (nrm t) := Zqj _ t (Nat.lt_succ_self _) h
def Ge (c : Int) : Nat := if c = 0 then 0 else if c = 1 then 1 else if c = 2 then 8 else if c = 3 then 16 else if c = 4 then 32 else 64
def Zkh (c w : Int) : Bool := decide (w < 2 ^ Ge c)
theorem Zny {c : Int} (h0 : 0 ≤ c) (h1 : c ≤ 5) : c = 0 ∨ c = 1 ∨ c = 2 ∨ c = 3 ∨ c = 4 ∨ c = 5 := by omega
theorem Zoa (n : Nat) (hn : n ≤ 64) (w : Int) (h0 : 0 ≤ w) (h1 : w < 18446744073709551616) : Y0 (Ya (n : Int)) (w, 0) = some (w / 2 ^ n) := by
 have key : ∀ m i : Nat, i + m = n → Y0 (Ya (n : Int)) (w / 2 ^ i, (i : Int)) = some (w / 2 ^ n) := fun m => by
  induction m with
  | zero =>
   intro i hi
   have : i = n := by omega
   subst this
   refine Jf ?_
   unfold Ya
   simp only
   rw [Zsr, cond_false]
  | succ m ih =>
   intro i hi
   have hp : (0 : Int) < 2 ^ i := Int.pow_pos (by decide)
   have q0 : 0 ≤ w / 2 ^ i := Int.ediv_nonneg h0 (Int.le_of_lt hp)
   have q1 : w / 2 ^ i ≤ w := Int.ediv_le_self _ h0
   have hs : Ya (n : Int) (w / 2 ^ i, (i : Int)) = some (.inl (w / 2 ^ (i + 1), ((i + 1 : Nat) : Int))) := by
    unfold Ya
    simp only
    rw [Zss (by omega), cond_true, Qt (by omega) (by omega), Int.tdiv_eq_ediv_of_nonneg q0]
    have e : w / 2 ^ i / 2 = w / 2 ^ (i + 1) := by rw [Int.ediv_ediv_of_nonneg (Int.le_of_lt hp), Int.pow_succ]
    have q2 : 0 ≤ w / 2 ^ i / 2 := Int.ediv_nonneg q0 (by decide)
    have q3 : w / 2 ^ i / 2 ≤ w / 2 ^ i := Int.ediv_le_self _ q0
    have e3 : IntKind.u64.wrap (w / 2 ^ i / 2) = w / 2 ^ i / 2 := by
     exact Zlp ⟨q2, by omega⟩
    rw [e3, e]
    rfl
   rw [Ku hs]
   exact ih (i + 1) (by omega)
 have := key n 0 (by omega)
 simpa using this
theorem Zmo {c w : Int} (h0 : 0 ≤ c) (h1 : c ≤ 5) (hw : 0 ≤ w) (hw' : w < 18446744073709551616) : X9 c w = some (Zkh c w) := by
 have e : ∀ n : Nat, n ≤ 64 → (cond (decide ((n : Int) < 0)) (some false) ((Y0 (Ya (n : Int)) (w, 0)).bind fun (z4 : Int) => some (z4 == 0))) = some (decide (w < 2 ^ n)) := fun n hn => by
  have : decide ((n : Int) < 0) = false := by rw [decide_eq_false_iff_not]; omega
  have hp : (0 : Int) < 2 ^ n := Int.pow_pos (by decide)
  rw [this, cond_false, Zoa n hn w hw hw', Option.bind_some]
  congr 1
  rw [Bool.eq_iff_iff, beq_iff_eq, decide_eq_true_eq]
  constructor
  ·intro h
   rcases Int.lt_or_le w (2 ^ n) with h2 | h2
   ·exact h2
   have := Int.ediv_le_ediv hp h2
   rw [Int.ediv_self (Int.ne_of_gt hp)] at this
   omega
  intro h; exact Int.ediv_eq_zero_of_lt hw h
 unfold X9 Zkh
 rcases Zny h0 h1 with rfl | rfl | rfl | rfl | rfl | rfl
 ·exact e 0 (by decide)
 ·exact e 1 (by decide)
 ·exact e 8 (by decide)
 ·exact e 16 (by decide)
 ·exact e 32 (by decide)
 exact e 64 (by decide)
section
variable {A : Zf}
theorem Zr8 {r : Zg} (h : 2 ≤ r.kind ∧ r.kind ≤ 7) {i : Int} (hi : 0 ≤ i ∧ i < Jn r) : Zhq A r i = (⟨some A, 10, r.segment, r.at_, 0, 0, 0, r.kind - 2, i⟩, 0) := by
 unfold Zhq
 rw [if_neg (by omega), if_neg (by omega), if_neg (by omega), if_neg (by omega)]
theorem Zou (c : Int) : ((Ge c : Nat) : Int) = wdt c := by
 unfold Ge wdt
 repeat' split
 all_goals rfl
end
end Go.Proofs.Ytmlhokaflhlhbaa
