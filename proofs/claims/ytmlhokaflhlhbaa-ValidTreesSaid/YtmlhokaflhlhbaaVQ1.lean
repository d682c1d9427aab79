/- Plain facts on this seat's mirrors (part VQ1); each theorem bears its own conditions. -/
import Derived.Test.YtmlhokaflhlhbaaVP4
import Derived.IntWalk
namespace Go.Proofs.Ytmlhokaflhlhbaa
open Go.RowKit
set_option linter.unusedVariables false
set_option linter.unusedSimpArgs false
theorem Zia {t x : Tr} (h : x ∈ t.Kids) : SizeOf.sizeOf x < SizeOf.sizeOf t := by
 obtain ⟨k, w, ks⟩ := t
 have := List.sizeOf_lt_of_mem h
 simp only [S_api_Tree.mk.sizeOf_spec]
 simp only at this
 omega
theorem Zwi {α R : Type} (xs : List α) (step : Int → Option (Int ⊕ R)) (p : α → Bool) (e o : R) (hl : (xs.length : Int) ≤ 140737488355328)
  (h1 : ∀ (i : Nat) (x : α), i < xs.length → xs[i]? = some x → x ∈ xs → step i = some (if p x = true then .inr e else .inl (IntKind.i64.wrap ((i : Int) + 1)))) (h2 : step xs.length = some (.inr o)) : Yj step 0 = some (if xs.any p = true then e else o) := by
 have hloop := Zva xs (fun i (_ : Unit) => i) step (fun _ x => some (if p x = true then .inr e else .inl ())) (fun _ => o) (fun i s x hi hx => by
  rw [h1 i x hi hx (List.mem_of_getElem? hx), Yq (by omega) (by omega)]
  cases p x <;> rfl) (fun _ => h2) ()
 refine hloop.trans ?_
 rw [Zms p (fun s _ => s) e (fun _ _ => True) xs.length xs () 0 (by omega) trivial (fun s k x _ _ _ => ⟨by cases p x <;> rfl, fun _ => trivial⟩)]
def tr {α : Type} (p : α → Bool) : List α → List α
 | [] => []
 | x :: xs => match tr p xs with
  | [] => if p x = true then [] else [x]
  | y :: ys => x :: y :: ys
theorem Ztz {α : Type} (p : α → Bool) : ∀ l : List α, (tr p l).length ≤ l.length
 | [] => by simp [tr]
 | x :: l => by
  have := Ztz p l
  simp only [tr]
  split
  ·split <;> simp
  rename_i y ys he
  rw [he] at this
  simp at this ⊢
  omega
theorem Zt0 {α : Type} {p : α → Bool} {x : α} : ∀ {l : List α}, x ∈ tr p l → x ∈ l
 | [], h => by simp [tr] at h
 | y :: l, h => by
  simp only [tr] at h
  split at h
  ·split at h
   ·simp at h
   simp at h; simp [h]
  rename_i z zs he
  rw [← he] at h
  rcases List.mem_cons.1 h with h | h
  ·simp [h]
  exact List.mem_cons_of_mem _ (Zt0 h)
inductive Bd : Tr → Prop
 | mk (t : Tr) (h1 : t.Words.length * 8 ≤ 140737488355328) (h2 : t.Kids.length * 56 ≤ 140737488355328) (h3 : ∀ w ∈ t.Words, 0 ≤ w ∧ w < 18446744073709551616) (h4 : ∀ k ∈ t.Kids, Bd k) : Bd t
theorem Bd.w {t : Tr} (h : Bd t) : t.Words.length * 8 ≤ 140737488355328 := by cases h; assumption
theorem Bd.k {t : Tr} (h : Bd t) : t.Kids.length * 56 ≤ 140737488355328 := by cases h; assumption
theorem Bd.u {t : Tr} (h : Bd t) : ∀ w ∈ t.Words, 0 ≤ w ∧ w < 18446744073709551616 := by cases h; assumption
theorem Bd.all {t : Tr} (h : Bd t) : ∀ k ∈ t.Kids, Bd k := by cases h; assumption
def nrm (t : Tr) : Tr :=
 if t.Kind = 0 then ⟨0, [], []⟩
 else if t.Kind = 1 then ⟨1, tr (fun x => x == 0) t.Words, tr (fun x => x.Kind == 0) (t.Kids.attach.map fun k => nrm k.1)⟩
 else ⟨t.Kind, t.Words, t.Kids.attach.map fun k => nrm k.1⟩
termination_by SizeOf.sizeOf t
decreasing_by all_goals exact Zia k.2
theorem Zyr (t : Tr) : nrm t = if t.Kind = 0 then ⟨0, [], []⟩ else if t.Kind = 1 then ⟨1, tr (fun x => x == 0) t.Words, tr (fun x => x.Kind == 0) (t.Kids.map nrm)⟩ else ⟨t.Kind, t.Words, t.Kids.map nrm⟩ := by
 rw [nrm]
 simp only [List.attach_map_val]
theorem Zwo : ∀ (n : Nat) (t : Tr), SizeOf.sizeOf t < n → Bd t → Bd (nrm t)
 | 0, t, h, _ => by omega
 | n + 1, t, hn, hb => by
  have ih : ∀ x ∈ t.Kids, Bd (nrm x) := fun x hx => Zwo n x (by have := Zia hx; omega) (hb.all x hx)
  have hw := hb.w
  have hk := hb.k
  rw [Zyr]
  split
  ·exact .mk _ (by simp) (by simp) (fun w h => by simp at h) (fun w h => by simp at h)
  split
  ·have l1 := Ztz (fun x : Int => x == 0) t.Words
   have l2 := Ztz (fun x : Tr => x.Kind == 0) (t.Kids.map nrm)
   rw [List.length_map] at l2
   refine .mk _ (by simp only; omega) (Nat.le_trans (Nat.mul_le_mul_right 56 l2) hk) (fun w h => hb.u w (Zt0 h)) (fun x h => ?_)
   obtain ⟨y, hy, rfl⟩ := List.mem_map.1 (Zt0 h)
   exact ih y hy
  refine .mk _ hw (by simp only [List.length_map]; exact hk) hb.u (fun x h => ?_)
  obtain ⟨y, hy, rfl⟩ := List.mem_map.1 h
  exact ih y hy
theorem Bd.nrm {t : Tr} (h : Bd t) : Bd (nrm t) := Zwo _ t (Nat.lt_succ_self _) h
def wid (c : Int) : Nat := if c = 0 then 0 else if c = 1 then 1 else if c = 2 then 8 else if c = 3 then 16 else if c = 4 then 32 else 64
def Zpd (c w : Int) : Bool := decide (w < 2 ^ wid c)
theorem Zs8 {c : Int} (h0 : 0 ≤ c) (h1 : c ≤ 5) : c = 0 ∨ c = 1 ∨ c = 2 ∨ c = 3 ∨ c = 4 ∨ c = 5 := by omega
theorem Zts (n : Nat) (hn : n ≤ 64) (w : Int) (h0 : 0 ≤ w) (h1 : w < 18446744073709551616) : Yj (Yy (n : Int)) (w, 0) = some (w / 2 ^ n) := by
 have key : ∀ m i : Nat, i + m = n → Yj (Yy (n : Int)) (w / 2 ^ i, (i : Int)) = some (w / 2 ^ n) := fun m => by
  induction m with
  | zero =>
   intro i hi
   have : i = n := by omega
   subst this
   refine Y4 ?_
   unfold Yy
   simp only
   rw [Zyp, cond_false]
  | succ m ih =>
   intro i hi
   have hp : (0 : Int) < 2 ^ i := Int.pow_pos (by decide)
   have q0 : 0 ≤ w / 2 ^ i := Int.ediv_nonneg h0 (Int.le_of_lt hp)
   have q1 : w / 2 ^ i ≤ w := Int.ediv_le_self _ h0
   have hs : Yy (n : Int) (w / 2 ^ i, (i : Int)) = some (.inl (w / 2 ^ (i + 1), ((i + 1 : Nat) : Int))) := by
    unfold Yy
    simp only
    rw [Zyq (by omega), cond_true, Yq (by omega) (by omega), Int.tdiv_eq_ediv_of_nonneg q0]
    have e : w / 2 ^ i / 2 = w / 2 ^ (i + 1) := by rw [Int.ediv_ediv_of_nonneg (Int.le_of_lt hp), Int.pow_succ]
    have q2 : 0 ≤ w / 2 ^ i / 2 := Int.ediv_nonneg q0 (by decide)
    have q3 : w / 2 ^ i / 2 ≤ w / 2 ^ i := Int.ediv_le_self _ q0
    have e3 : IntKind.u64.wrap (w / 2 ^ i / 2) = w / 2 ^ i / 2 := by
     exact Zx2 ⟨q2, by omega⟩
    rw [e3, e]
    rfl
   rw [Qx hs]
   exact ih (i + 1) (by omega)
 have := key n 0 (by omega)
 simpa using this
theorem Zwv {c w : Int} (h0 : 0 ≤ c) (h1 : c ≤ 5) (hw : 0 ≤ w) (hw' : w < 18446744073709551616) : Q6 c w = some (Zpd c w) := by
 have e : ∀ n : Nat, n ≤ 64 → (cond (decide ((n : Int) < 0)) (some false) ((Yj (Yy (n : Int)) (w, 0)).bind fun (z4 : Int) => some (z4 == 0))) = some (decide (w < 2 ^ n)) := fun n hn => by
  have : decide ((n : Int) < 0) = false := by rw [decide_eq_false_iff_not]; omega
  have hp : (0 : Int) < 2 ^ n := Int.pow_pos (by decide)
  rw [this, cond_false, Zts n hn w hw hw', Option.bind_some]
  congr 1
  rw [Bool.eq_iff_iff, beq_iff_eq, decide_eq_true_eq]
  constructor
  ·intro h
   rcases Int.lt_or_le w (2 ^ n) with h2 | h2
   ·exact h2
   have := Int.ediv_le_ediv hp h2
   rw [Int.ediv_self (Int.ne_of_gt hp)] at this
   omega
  intro h; exact Int.ediv_eq_zero_of_lt hw h
 unfold Q6 Zpd
 rcases Zs8 h0 h1 with rfl | rfl | rfl | rfl | rfl | rfl
 ·exact e 0 (by decide)
 ·exact e 1 (by decide)
 ·exact e 8 (by decide)
 ·exact e 16 (by decide)
 ·exact e 32 (by decide)
 exact e 64 (by decide)
def okk (kind : Int) (k : Tr) : Bool := if 2 ≤ kind ∧ kind ≤ 7 then k.Kind == 10 && Zpd (kind - 2) (k.Words.headD 0) else k.Kind != 10 && (kind != 9 || k.Kind == 1)
def rt (t : Tr) (d : Nat) : Bool :=
 if t.Kind = 0 then t.Words.length == 0 && t.Kids.length == 0
 else if t.Kind = 10 then t.Words.length == 1 && t.Kids.length == 0
 else if t.Kind < 0 ∨ 10 < t.Kind ∨ d = 0 ∨ 65536 ≤ t.Words.length ∨ (t.Kind = 1 ∧ 65536 ≤ t.Kids.length) ∨ 1048576 ≤ t.Kids.length ∨ (1 < t.Kind ∧ 0 < t.Words.length) then false
 else (t.Kids.attach.map fun k => rt k.1 (d - 1) && okk t.Kind k.1).all id
termination_by SizeOf.sizeOf t
decreasing_by exact Zia k.2
theorem Zpl (t : Tr) (d : Nat) : rt t d = if t.Kind = 0 then t.Words.length == 0 && t.Kids.length == 0
 else if t.Kind = 10 then t.Words.length == 1 && t.Kids.length == 0
 else if t.Kind < 0 ∨ 10 < t.Kind ∨ d = 0 ∨ 65536 ≤ t.Words.length ∨ (t.Kind = 1 ∧ 65536 ≤ t.Kids.length) ∨ 1048576 ≤ t.Kids.length ∨ (1 < t.Kind ∧ 0 < t.Words.length) then false
 else t.Kids.all fun k => rt k (d - 1) && okk t.Kind k := by
 rw [rt]
 have : (t.Kids.attach.map fun k => rt k.1 (d - 1) && okk t.Kind k.1) = t.Kids.map fun k => rt k (d - 1) && okk t.Kind k := List.attach_map_val (f := fun k => rt k (d - 1) && okk t.Kind k)
 rw [this, List.all_map]
 rfl
theorem Zvi {t : Tr} (h : t.Kind = 10) {d : Nat} (hr : rt t d = true) : ∃ w, t.Words = [w] := by
 rw [Zpl, if_neg (by omega), if_pos h, Bool.and_eq_true, beq_iff_eq] at hr
 obtain ⟨k, w, ks⟩ := t
 obtain ⟨h1, _⟩ := hr
 simp only at h1 ⊢
 exact List.length_eq_one_iff.1 h1
theorem Zyo {n : Nat} : ((n : Int) == 0) = (n == 0) := by rw [Bool.eq_iff_iff, beq_iff_eq, beq_iff_eq]; omega
theorem Zzx {n : Nat} : ((n : Int) == 1) = (n == 1) := by rw [Bool.eq_iff_iff, beq_iff_eq, beq_iff_eq]; omega
theorem Zdq (a b : Bool) : cond a b false = (a && b) := by cases a <;> rfl
theorem Zt3 {α : Type} (p : α → Bool) : ∀ l : List α, l.any (fun x => !p x) = !(l.all p)
 | [] => rfl
 | x :: l => by rw [List.any_cons, List.all_cons, Zt3 p l]; cases p x <;> rfl
theorem Zwh {α R : Type} (xs : List α) (step : Int → Option (Int ⊕ R)) (p : α → Bool) (e o : R) (hl : (xs.length : Int) ≤ 140737488355328)
  (h1 : ∀ (i : Nat) (x : α), i < xs.length → xs[i]? = some x → x ∈ xs → step i = some (if p x = true then .inl (IntKind.i64.wrap ((i : Int) + 1)) else .inr e)) (h2 : step xs.length = some (.inr o)) : Yj step 0 = some (if xs.all p = true then o else e) := by
 rw [Zwi xs step (fun x => !p x) e o hl (fun i x hi hx hm => by rw [h1 i x hi hx hm]; cases p x <;> rfl) h2, Zt3]
 cases xs.all p <;> rfl
theorem Zpj : ∀ (k : Nat) (t : Tr) (d : Nat), Bd t → SizeOf.sizeOf t < k → d ≤ 64 → Xk k t (d : Int) = some (rt t d)
 | 0, t, d, _, h, _ => by omega
 | k + 1, t, d, hb, hk, hd => by
  have hkd := hb.k
  show Ju (Xk k) t (d : Int) = _
  unfold Ju
  rw [Zpl, Zyo, Zzx]
  by_cases h0 : t.Kind = 0
  ·rw [if_pos h0, h0]
   simp only [Zyo, Zdq]
   rfl
  have e0 : (t.Kind == 0) = false := by simp [h0]
  rw [if_neg h0, e0, cond_false]
  by_cases h10 : t.Kind = 10
  ·rw [if_pos h10, h10]
   simp only [Zyo, Zdq]
   rfl
  have e10 : (t.Kind == 10) = false := by simp [h10]
  rw [if_neg h10, e10, cond_false]
  by_cases hbad : t.Kind < 0 ∨ 10 < t.Kind ∨ d = 0 ∨ 65536 ≤ t.Words.length ∨ (t.Kind = 1 ∧ 65536 ≤ t.Kids.length) ∨ 1048576 ≤ t.Kids.length ∨ (1 < t.Kind ∧ 0 < t.Words.length)
  ·rw [if_pos hbad]
   have hc : ∀ c1 c2 c3 c4 c5 c6 c7 c8 : Bool, (c1 = true ∨ c2 = true ∨ c3 = true ∨ c4 = true ∨ (c5 = true ∧ c6 = true) ∨ c7 = true ∨ c8 = true) → ∀ X : Option Bool,
     cond (cond (cond (cond (cond (cond c1 true c2) true c3) true c4) true (cond c5 c6 false)) true c7) (some false) (cond c8 (some false) X) = some false := by
    intro c1 c2 c3 c4 c5 c6 c7 c8 h X
    cases c1 <;> cases c2 <;> cases c3 <;> cases c4 <;> cases c5 <;> cases c6 <;> cases c7 <;> cases c8 <;> first | rfl | (simp at h; done)
   refine hc _ _ _ _ _ _ _ _ ?_ _
   simp only [decide_eq_true_eq, beq_iff_eq, Zdq, Bool.and_eq_true]
   omega
  rw [if_neg hbad]
  have hg : ¬ t.Kind < 0 ∧ ¬ 10 < t.Kind ∧ ¬ d = 0 ∧ ¬ 65536 ≤ t.Words.length ∧ ¬ (t.Kind = 1 ∧ 65536 ≤ t.Kids.length) ∧ ¬ 1048576 ≤ t.Kids.length ∧ ¬ (1 < t.Kind ∧ 0 < t.Words.length) := by omega
  have hc : ∀ c1 c2 c3 c4 c5 c7 c8 : Bool, c1 = false → c2 = false → c3 = false → c4 = false → c5 = false → c7 = false → c8 = false → ∀ X : Option Bool,
    cond (cond (cond (cond (cond (cond c1 true c2) true c3) true c4) true c5) true c7) (some false) (cond c8 (some false) X) = X := by
   intro c1 c2 c3 c4 c5 c7 c8 h1 h2 h3 h4 h5 h7 h8 X
   subst h1 h2 h3 h4 h5 h7 h8
   rfl
  rw [hc _ _ _ _ _ _ _ (decide_eq_false hg.1) (decide_eq_false hg.2.1) (by rw [beq_eq_false_iff_ne]; omega) (by rw [decide_eq_false_iff_not]; omega) (by rw [Zdq, Bool.and_eq_false_iff, beq_eq_false_iff_ne, decide_eq_false_iff_not]; omega) (by rw [decide_eq_false_iff_not]; omega) (by rw [Zdq, Bool.and_eq_false_iff, decide_eq_false_iff_not, decide_eq_false_iff_not]; omega)]
  obtain ⟨d', rfl⟩ : ∃ d', d = d' + 1 := ⟨d - 1, by omega⟩
  have ih : ∀ x ∈ t.Kids, Xk k x (d' : Int) = some (rt x d') := fun x hx => Zpj k x d' (hb.all x hx) (by have := Zia hx; omega) (by omega)
  rw [Zwh t.Kids (Qg (Xk k) t ((d' + 1 : Nat) : Int)) (fun x => rt x d' && okk t.Kind x) (.inl ()) (.inr ()) (by omega) (fun i x hi hx hm => by
   unfold Qg
   have ed : ((d' + 1 : Nat) : Int) - 1 = (d' : Int) := by omega
   rw [Zyq hi, cond_true, Zhm hx, Option.bind_some, Yq (x := ((d' + 1 : Nat) : Int) - 1) (by omega) (by omega), ed, ih x hm, Option.bind_some]
   cases hr : rt x d' with
   | false => rfl
   | true =>
    rw [Bool.not_true, cond_false, Bool.true_and]
    unfold okk
    by_cases hdt : 2 ≤ t.Kind ∧ t.Kind ≤ 7
    ·have e2 : decide (2 ≤ t.Kind) = true := decide_eq_true hdt.1
     have e7 : decide (t.Kind ≤ 7) = true := decide_eq_true hdt.2
     have e9 : (t.Kind == 9) = false := by rw [beq_eq_false_iff_ne]; omega
     rw [e2, e7, e9, if_pos hdt]
     simp only [cond_true, cond_false]
     by_cases hx10 : x.Kind = 10
     ·obtain ⟨w, hw⟩ := Zvi hx10 hr
      have hu := (hb.all x hm).u w (by rw [hw]; exact .head _)
      have ex : (x.Kind == 10) = true := by simp [hx10]
      have ex2 : ((true : Bool) != true) = false := rfl
      have hg0 : Jm [w] (0 : Int) = some w := rfl
      rw [ex, ex2, cond_false, hw, hg0, Option.bind_some, Yq (by omega) (by omega), Zwv (by omega) (by omega) hu.1 hu.2, Option.bind_some]
      simp only [cond_false, List.headD_cons, Bool.true_and]
      cases Zpd (t.Kind - 2) w <;> rfl
     have ex : (x.Kind == 10) = false := by simp [hx10]
     rw [ex]
     rfl
    have ed2 : cond (decide (2 ≤ t.Kind)) (decide (t.Kind ≤ 7)) false = false := by
     rw [Zdq, Bool.and_eq_false_iff, decide_eq_false_iff_not, decide_eq_false_iff_not]; omega
    rw [ed2, if_neg hdt]
    have hin : ∀ (X : Option Bool) (b : Bool), (cond (decide (2 ≤ t.Kind)) (cond (decide (t.Kind ≤ 7)) X (some b)) (some b)) = some b := fun X b => by
     by_cases h2 : 2 ≤ t.Kind
     ·have h7 : decide (t.Kind ≤ 7) = false := by rw [decide_eq_false_iff_not]; omega
      rw [decide_eq_true h2, h7]; rfl
     rw [decide_eq_false h2]; rfl
    by_cases hx10 : x.Kind = 10
    ·have ex : (x.Kind == 10) = true := by simp [hx10]
     have ex2 : (x.Kind != 10) = false := by simp [hx10]
     rw [ex, ex2]
     rfl
    have ex : (x.Kind == 10) = false := by simp [hx10]
    have ex2 : (x.Kind != 10) = true := by simp [hx10]
    have ex3 : ((false : Bool) != false) = false := rfl
    rw [ex, ex2, ex3, cond_false]
    simp only [cond_false]
    rw [hin]
    by_cases h9 : t.Kind = 9
    ·have e9 : (t.Kind == 9) = true := by simp [h9]
     have e9' : (t.Kind != 9) = false := by simp [h9]
     rw [e9, e9', cond_true]
     by_cases hx1 : x.Kind = 1
     ·have q1 : (x.Kind != 1) = false := by simp [hx1]
      have q2 : (x.Kind == 1) = true := by simp [hx1]
      rw [q1, q2, cond_false]
      rfl
     have q1 : (x.Kind != 1) = true := by simp [hx1]
     have q2 : (x.Kind == 1) = false := by simp [hx1]
     rw [q1, q2, cond_true]
     rfl
    have e9 : (t.Kind == 9) = false := by simp [h9]
    have e9' : (t.Kind != 9) = true := by simp [h9]
    rw [e9, e9']
    rfl) (by unfold Qg; rw [Zyp]; rfl), Option.bind_some, Nat.add_sub_cancel]
  cases t.Kids.all fun x => rt x d' && okk t.Kind x <;> rfl
theorem Zvh {t : Tr} (h : Bd t) {d : Nat} (hd : d ≤ 64) : Vj t (d : Int) = some (rt t d) := Zm5 (SizeOf.sizeOf t + 1) fun k hk => Zpj k t d h (by omega) hd
section
variable {A : Zj}
theorem Ztg {f : Zd → Int → Tr × Int × Int} {g : Int → Zd × Int} {Q : Tr → Prop} (hQ : ∀ i left, Q (f (g i).1 left).1) : ∀ (m i : Nat) (left : Int) (acc : List Tr), (∀ t ∈ acc, Q t) → (∀ t ∈ (Yd f g m i left acc).1, Q t) ∧ (Yd f g m i left acc).1.length ≤ acc.length + m
 | 0, i, left, acc, h => ⟨h, Nat.le_refl _⟩
 | m + 1, i, left, acc, h => by
  rw [Yd]
  split
  ·exact ⟨h, by simp only; omega⟩
  split
  ·exact ⟨h, by simp only; omega⟩
  obtain ⟨h1, h2⟩ := Ztg hQ m (i + 1) (f (g i).1 left).2.1 (acc ++ [(f (g i).1 left).1]) fun t ht => by
   rcases List.mem_append.1 ht with ht | ht
   ·exact h t ht
   rw [List.mem_singleton] at ht; subst ht; exact hQ i left
  exact ⟨h1, by rw [List.length_append, List.length_singleton] at h2; omega⟩
theorem Zxu {w c j : Int} (hw : 0 ≤ w ∧ w < 18446744073709551616) : 0 ≤ Ztl w c j ∧ Ztl w c j < 18446744073709551616 := by
 unfold Ztl
 have h1 : w.toNat / 2 ^ (j * wdt c).toNat % 2 ^ (wdt c).toNat ≤ w.toNat / 2 ^ (j * wdt c).toNat := Nat.mod_le _ _
 have h2 : w.toNat / 2 ^ (j * wdt c).toNat ≤ w.toNat := Nat.div_le_self _ _
 omega
theorem Zel (hw : WS A.segments) (r : Zd) : ∀ w ∈ Qu A r, 0 ≤ w ∧ w < 18446744073709551616 := by
 unfold Qu
 split
 ·intro w hm
  rw [List.mem_singleton] at hm
  subst hm
  unfold Ztk
  split
  ·omega
  exact Zxu (Zhh hw _ _)
 split
 ·exact fun w hm => Zwy hw _ w (List.mem_of_mem_drop (List.mem_of_mem_take hm))
 exact fun w hm => by cases hm
theorem Zlp {r : Zd} (h : OKr A r) : (Qu A r).length ≤ 65536 := by
 unfold Qu
 cases h with
 | z => simp [r0]
 | st s a d p hd hp hin => simp only [show ¬ (1 : Int) = 10 from by decide, if_false, if_true, List.length_take]; omega
 | li k s a n hk hn hin => simp only; rw [if_neg (by omega), if_neg (by omega)]; simp
 | co => simp
 | at_ => simp
theorem Zxt (hw : WS A.segments) : ∀ (d : Nat) r left, OKr A r → 0 ≤ left → left ≤ 65536 → Bd (Gh A d r left).1 := fun d => by
 have key : ∀ (f : Zd → Int → Tr × Int × Int), True := fun _ => trivial
 clear key
 have hst : ∀ (f : Zd → Int → Tr × Int × Int), (∀ r left, OKr A r → Bd (f r left).1) → ∀ r left, OKr A r → r.ptrs ≤ 65536 → Bd (stK A f r left).1 := fun f hf r left hr hp => by
  unfold stK
  have := Ztg (f := f) (g := Ye A r) (Q := Bd) (fun i left => hf _ left (Kk hr i)) r.ptrs.toNat 0 left [] (by simp)
  refine .mk _ (by simp only; have := Zlp hr; omega) (by simp only; have := this.2; simp only [List.length_nil] at this; omega) (Zel hw r) this.1
 have main : ∀ r left, OKr A r → Bd (Gh A d r left).1 := by
  induction d using Nat.strongRecOn with
  | ind d ih =>
   intro r left hr
   have hbad : ∀ r left, Bd (bad r left).1 := fun r left => .mk _ (by simp [bad]) (by simp [bad]) (by simp [bad]) (by simp [bad])
   have hP : ∀ k, 1 ≤ k → ∀ r left, OKr A r → Bd (Yl A k d r left).1 := fun k hk r left hr => by
    unfold Yl
    split
    ·exact ih _ (by omega) r left hr
    exact hbad _ _
   rw [Zjh]
   unfold Zdy
   have hwl := Zlp hr
   split
   ·exact .mk _ (by simp only; omega) (by simp) (Zel hw r) (by simp)
   split
   ·exact .mk _ (by simp only; omega) (by simp) (Zel hw r) (by simp)
   have hkn := Zf1 hr
   have hQ : ∀ (i : Int) left, Bd (Kj A (Yl A 1 d) (Yl A 2 d) r (Ye A r i).1 left).1 := fun i left => by
    unfold Kj
    split
    ·rename_i k9
     have hkr := Kk hr i
     refine hst _ (fun r left hr => hP 2 (by omega) r left hr) _ _ hkr ?_
     cases hkr' : (Ye A r i).1 with
     | mk a b c d e f g h j =>
      rw [hkr'] at hkr
      cases hkr with
      | z => simp
      | st s a d p hd hp hin => simp only; omega
      | li k s a n hk => simp
      | co s a d p n hd hp hn => simp only; omega
      | at_ => simp
    split
    ·exact hP 1 (by omega) _ _ (Kk hr i)
    unfold Zij
    have := Zlp (Kk hr i)
    exact .mk _ (by simp only; omega) (by simp) (Zel hw _) (by simp)
   have := Ztg (f := Kj A (Yl A 1 d) (Yl A 2 d) r) (g := Ye A r) (Q := Bd) hQ (Z6 r).toNat 0 (left - Gq r) [] (by simp)
   refine .mk _ (by simp only; omega) ?_ (Zel hw r) this.1
   have h2 := this.2
   simp only [List.length_nil] at h2 ⊢
   omega
 exact fun r left hr _ _ => main r left hr
end
def Zl5 : List (Tr × Int) → Int
 | [] => 0
 | p :: ps => p.2 + Zl5 ps
theorem Zp7 : ∀ ps : List (Tr × Int), (∀ p ∈ ps, 0 ≤ p.2) → 0 ≤ Zl5 ps
 | [], _ => Int.le_refl _
 | p :: ps, h => by
  have h1 := h p (.head _)
  have h2 := Zp7 ps fun q hq => h q (.tail _ hq)
  simp only [Zl5]
  omega
def Zu2 : Int → List (Tr × Int) → Int
 | s, [] => s
 | s, p :: ps => Zu2 (if s < p.2 + 1 then p.2 + 1 else s) ps
theorem Zt7 (d : Int) : ∀ (ps : List (Tr × Int)) (s : Int), 1 ≤ s ∧ s ≤ d → (∀ p ∈ ps, 0 ≤ p.2 ∧ p.2 ≤ d - 1) → 1 ≤ Zu2 s ps ∧ Zu2 s ps ≤ d
 | [], s, hs, _ => hs
 | p :: ps, s, hs, h => by
  have h1 := h p (.head _)
  rw [Zu2]
  refine Zt7 d ps _ ?_ fun q hq => h q (.tail _ hq)
  split <;> omega
theorem Zrn {P : Tr → Int → Prop} : ∀ (xs : List Tr), (∀ x ∈ xs, ∃ D, P x D) → ∃ ps : List (Tr × Int), ps.map (·.1) = xs ∧ ∀ p ∈ ps, P p.1 p.2
 | [], _ => ⟨[], rfl, fun p hp => by cases hp⟩
 | x :: xs, h => by
  obtain ⟨D, hD⟩ := h x (.head _)
  obtain ⟨ps, h1, h2⟩ := Zrn xs fun y hy => h y (.tail _ hy)
  refine ⟨(x, D) :: ps, by rw [List.map_cons, h1], fun p hp => ?_⟩
  rcases List.mem_cons.1 hp with rfl | hp
  ·exact hD
  exact h2 p hp
theorem Zpb {xs : List Tr} {i : Nat} {p : Tr × Int} {ps : List (Tr × Int)} (h : xs.drop i = (p :: ps).map (·.1)) : i < xs.length ∧ xs[i]? = some p.1 ∧ xs.drop (i + 1) = ps.map (·.1) := by
 have hi : i < xs.length := by
  rcases Nat.lt_or_ge i xs.length with h1 | h1
  ·exact h1
  rw [List.drop_eq_nil_of_le h1, List.map_cons] at h
  cases h
 rw [List.drop_eq_getElem_cons hi, List.map_cons] at h
 injection h with h1 h2
 exact ⟨hi, by rw [List.getElem?_eq_getElem hi, h1], h2⟩
theorem Zlr {xs : List Tr} {i : Nat} (h : xs.drop i = ([] : List (Tr × Int)).map (·.1)) : xs.length ≤ i := List.drop_eq_nil_iff.1 h
theorem Zyc {F : Tr → Option Int} {t : Tr} (hl : t.Kids.length ≤ 1048576) (c : Int) (hc : c = if t.Kind = 1 ∨ t.Kind = 8 then 1 else 0) : ∀ (ps : List (Tr × Int)) (i : Nat) (s : Int), t.Kids.drop i = ps.map (·.1) → (∀ p ∈ ps, F p.1 = some p.2 ∧ 0 ≤ p.2) → 0 ≤ s → s + Zl5 ps + c * (ps.length : Int) ≤ 65536 → Yj (Xe F t) (s, (i : Int)) = some (s + Zl5 ps + c * (ps.length : Int))
 | [], i, s, hd, _, _, _ => by
  have := Zlr hd
  refine Y4 ?_
  unfold Xe
  simp only
  rw [show decide ((i : Int) < (t.Kids.length : Int)) = false from by rw [decide_eq_false_iff_not]; omega, cond_false]
  simp [Zl5]
 | p :: ps, i, s, hd, h, hs, hb => by
  obtain ⟨hi, hx, hd'⟩ := Zpb hd
  obtain ⟨h1, h2⟩ := h p (.head _)
  have h3 := Zp7 ps fun q hq => (h q (.tail _ hq)).2
  have hc01 : 0 ≤ c ∧ c ≤ 1 := by rw [hc]; split <;> omega
  have e : c * (((p :: ps).length : Nat) : Int) = c * (ps.length : Int) + c := by rw [List.length_cons, show (((ps.length + 1 : Nat)) : Int) = (ps.length : Int) + 1 from rfl, Int.mul_add, Int.mul_one]
  have hcl : 0 ≤ c * (ps.length : Int) := Int.mul_nonneg hc01.1 (by omega)
  rw [e] at hb ⊢
  simp only [Zl5] at hb ⊢
  have hst : Xe F t (s, (i : Int)) = some (.inl (s + p.2 + c, ((i + 1 : Nat) : Int))) := by
   unfold Xe
   simp only
   rw [show decide ((i : Int) < (t.Kids.length : Int)) = true from by rw [decide_eq_true_eq]; omega, cond_true, Zhm hx, Option.bind_some, h1, Option.bind_some, Yq (x := s + p.2) (by omega) (by omega), Yq (x := s + p.2 + 1) (by omega) (by omega), Yq (x := (i : Int) + 1) (by omega) (by omega)]
   by_cases k1 : t.Kind = 1 ∨ t.Kind = 8
   ·have : cond (t.Kind == 1) true (t.Kind == 8) = true := by rcases k1 with k | k <;> rw [k] <;> rfl
    rw [this, cond_true, Option.bind_some, hc, if_pos k1]
    rfl
   have : cond (t.Kind == 1) true (t.Kind == 8) = false := by rw [Jn (show ¬ t.Kind = 1 by omega), Jn (show ¬ t.Kind = 8 by omega)]; rfl
   rw [this, cond_false, Option.bind_some, hc, if_neg k1, Int.add_zero]
   rfl
  rw [Qx hst, Zyc hl c hc ps (i + 1) _ hd' (fun q hq => h q (.tail _ hq)) (by omega) (by omega)]
  congr 1
  omega
theorem Zx7 {F : Tr → Option Int} {t : Tr} (hl : t.Kids.length ≤ 1048576) : ∀ (ps : List (Tr × Int)) (i : Nat) (s : Int), t.Kids.drop i = ps.map (·.1) → (∀ p ∈ ps, F p.1 = some p.2 ∧ 0 ≤ p.2 ∧ p.2 ≤ 64) → Yj (Xl F t) (s, (i : Int)) = some (Zu2 s ps)
 | [], i, s, hd, _ => by
  have := Zlr hd
  refine Y4 ?_
  unfold Xl
  simp only
  rw [show decide ((i : Int) < (t.Kids.length : Int)) = false from by rw [decide_eq_false_iff_not]; omega, cond_false]
  rfl
 | p :: ps, i, s, hd, h => by
  obtain ⟨hi, hx, hd'⟩ := Zpb hd
  obtain ⟨h1, h2⟩ := h p (.head _)
  have hst : Xl F t (s, (i : Int)) = some (.inl ((if s < p.2 + 1 then p.2 + 1 else s), ((i + 1 : Nat) : Int))) := by
   unfold Xl
   simp only
   rw [show decide ((i : Int) < (t.Kids.length : Int)) = true from by rw [decide_eq_true_eq]; omega, cond_true, Zhm hx, Option.bind_some, h1, Option.bind_some, Yq (x := p.2 + 1) (by omega) (by omega), Yq (x := (i : Int) + 1) (by omega) (by omega)]
   by_cases q : s < p.2 + 1
   ·rw [decide_eq_true q, cond_true, if_pos q]
    rfl
   rw [decide_eq_false q, cond_false, if_neg q]
   rfl
  rw [Qx hst, Zx7 hl ps (i + 1) _ hd' (fun q hq => h q (.tail _ hq))]
  rfl
def GD (t : Tr) (d : Int) : Prop := ∃ D, 0 ≤ D ∧ D ≤ d ∧ ∀ K, SizeOf.sizeOf t < K → Xj K t = some D
def GW (t : Tr) (w : Int) : Prop := 0 ≤ w ∧ ∀ K, SizeOf.sizeOf t < K → Xw K t = some w
theorem Zxn {t : Tr} (h0 : t.Kind ≠ 0) (h10 : t.Kind ≠ 10) (hl : t.Kids.length ≤ 1048576) {d : Int} (hd : 1 ≤ d ∧ d ≤ 64) (hk : ∀ x ∈ t.Kids, GD x (d - 1)) : GD t d := by
 obtain ⟨ps, e, hp⟩ := Zrn (P := fun x D => 0 ≤ D ∧ D ≤ d - 1 ∧ ∀ K, SizeOf.sizeOf x < K → Xj K x = some D) t.Kids hk
 have hg := Zt7 d ps 1 ⟨Int.le_refl _, hd.1⟩ fun p q => ⟨(hp p q).1, (hp p q).2.1⟩
 refine ⟨Zu2 1 ps, by omega, hg.2, fun K hK => ?_⟩
 obtain ⟨K, rfl⟩ : ∃ k, K = k + 1 := ⟨K - 1, by omega⟩
 show Jt (Xj K) t = _
 unfold Jt
 rw [Jn h0, Jn h10, cond_false, cond_false]
 have := Zx7 (F := Xj K) (t := t) hl ps 0 1 (by rw [List.drop_zero, e]) fun p q => by
  obtain ⟨a, b, c⟩ := hp p q
  have hm : p.1 ∈ t.Kids := by rw [← e]; exact List.mem_map.2 ⟨p, q, rfl⟩
  exact ⟨c K (by have := Zia hm; omega), a, by omega⟩
 rw [show (((0 : Nat) : Int)) = 0 from rfl] at this
 rw [this]
 rfl
theorem Zt8 {t : Tr} (h0 : t.Kind ≠ 0) (hl : t.Kids.length ≤ 1048576) (hw : t.Words.length ≤ 65536) {ps : List (Tr × Int)} (e : t.Kids = ps.map (·.1)) (hp : ∀ p ∈ ps, GW p.1 p.2) {b c w : Int} (hb : b = if t.Kind = 1 then 1 + (t.Words.length : Int) else 1) (hc : c = if t.Kind = 1 ∨ t.Kind = 8 then 1 else 0) (hwe : w = b + Zl5 ps + c * (ps.length : Int)) (hw2 : w ≤ 65536) : GW t w := by
 have hg := Zp7 ps fun p q => (hp p q).1
 have hc01 : 0 ≤ c := by rw [hc]; split <;> omega
 have hb0 : 0 ≤ b := by rw [hb]; split <;> omega
 have hcl : 0 ≤ c * (ps.length : Int) := Int.mul_nonneg hc01 (by omega)
 refine ⟨by omega, fun K hK => ?_⟩
 obtain ⟨K, rfl⟩ : ∃ k, K = k + 1 := ⟨K - 1, by omega⟩
 show Jc (Xw K) t = _
 unfold Jc
 have hbb : (cond (t.Kind == 1) (some (IntKind.i64.wrap (1 + (t.Words.length : Int)))) (some 1)) = some b := by
  by_cases k1 : t.Kind = 1
  ·rw [show (t.Kind == 1) = true from by rw [k1]; rfl, cond_true, Yq (by omega) (by omega), hb, if_pos k1]
  rw [Jn k1, cond_false, hb, if_neg k1]
 have := Zyc (F := Xw K) (t := t) hl c hc ps 0 b (by rw [List.drop_zero, e]) (fun p q => by
  obtain ⟨a, h⟩ := hp p q
  have hm : p.1 ∈ t.Kids := by rw [e]; exact List.mem_map.2 ⟨p, q, rfl⟩
  exact ⟨h K (by have := Zia hm; omega), a⟩) hb0 (by omega)
 rw [show (((0 : Nat) : Int)) = 0 from rfl] at this
 rw [Jn h0, cond_false, hbb, Option.bind_some, this, hwe]
 rfl
def GG (t : Tr) (d : Nat) (w : Int) : Prop := GD t d ∧ GW t w ∧ rt t d = true
theorem Zxq (d : Nat) : GG ⟨0, [], []⟩ d 0 := by
 refine ⟨⟨0, by omega, by omega, fun K hK => ?_⟩, ⟨by omega, fun K hK => ?_⟩, ?_⟩
 ·obtain ⟨K, rfl⟩ : ∃ k, K = k + 1 := ⟨K - 1, by omega⟩
  rfl
 ·obtain ⟨K, rfl⟩ : ∃ k, K = k + 1 := ⟨K - 1, by omega⟩
  rfl
 rw [Zpl]
 rfl
theorem Zyj (w : Int) (d : Nat) : GG ⟨10, [w], []⟩ d 1 := by
 refine ⟨⟨0, by omega, by omega, fun K hK => ?_⟩, Zt8 (t := ⟨10, [w], []⟩) (show (10 : Int) ≠ 0 by decide) (Nat.zero_le _) (show 1 ≤ 65536 by decide) (ps := []) rfl (by simp) (b := 1) (c := 0) rfl rfl rfl (by omega), ?_⟩
 ·obtain ⟨K, rfl⟩ : ∃ k, K = k + 1 := ⟨K - 1, by omega⟩
  rfl
 rw [Zpl]
 rfl
theorem Zt6 {t : Tr} (h1 : 1 ≤ t.Kind ∧ t.Kind ≤ 9) {d : Nat} (hd : 1 ≤ d ∧ d ≤ 64) (hl : t.Kids.length < 65536 ∨ t.Kind ≠ 1 ∧ t.Kids.length ≤ 65536) (hw : t.Words.length < 65536) (hws : 1 < t.Kind → t.Words.length = 0) {ps : List (Tr × Int)} (e : t.Kids = ps.map (·.1)) (hp : ∀ p ∈ ps, GG p.1 (d - 1) p.2 ∧ okk t.Kind p.1 = true) {b c w : Int} (hb : b = if t.Kind = 1 then 1 + (t.Words.length : Int) else 1) (hc : c = if t.Kind = 1 ∨ t.Kind = 8 then 1 else 0) (hwe : w = b + Zl5 ps + c * (ps.length : Int)) (hw2 : w ≤ 65536) : GG t d w := by
 have hm : ∀ x ∈ t.Kids, ∃ p ∈ ps, p.1 = x := fun x hx => by
  rw [e] at hx
  exact List.mem_map.1 hx
 refine ⟨Zxn (by omega) (by omega) (by omega) (by omega) fun x hx => ?_, Zt8 (by omega) (by omega) (by omega) e (fun p q => (hp p q).1.2.1) hb hc hwe hw2, ?_⟩
 ·obtain ⟨p, hp', rfl⟩ := hm x hx
  have := (hp p hp').1.1
  rw [show ((d : Nat) : Int) - 1 = ((d - 1 : Nat) : Int) by omega]
  exact this
 rw [Zpl, if_neg (by omega), if_neg (by omega), if_neg (by omega), List.all_eq_true]
 intro x hx
 obtain ⟨p, hp', rfl⟩ := hm x hx
 have := hp p hp'
 rw [this.1.2.2, this.2]
 rfl
section
variable {A : Zj}
theorem Zmx {f : Zd → Int → Tr × Int × Int} {g : Int → Zd × Int} {Q : Tr → Int → Prop} {e M : Int} {n : Nat} (hQ : ∀ (i : Nat) (left : Int), i < n → 0 ≤ left → left ≤ M → (g i).2 = 0 → (f (g i).1 left).2.2 = 0 → 0 ≤ (f (g i).1 left).2.1 ∧ (f (g i).1 left).2.1 ≤ left ∧ Q (f (g i).1 left).1 (left - (f (g i).1 left).2.1 + e)) :
  ∀ (m i : Nat) (left : Int) (acc : List Tr), i + m = n → 0 ≤ left → left ≤ M → (Yd f g m i left acc).2.2 = 0 → 0 ≤ (Yd f g m i left acc).2.1 ∧ (Yd f g m i left acc).2.1 ≤ left ∧ ∃ ps : List (Tr × Int), (Yd f g m i left acc).1 = acc ++ ps.map (·.1) ∧ ps.length = m ∧ (∀ p ∈ ps, Q p.1 p.2) ∧ Zl5 ps = left - (Yd f g m i left acc).2.1 + e * (m : Int)
 | 0, i, left, acc, _, h0, _, _ => ⟨h0, Int.le_refl _, [], by simp [Yd], rfl, by simp, by simp [Yd, Zl5]⟩
 | m + 1, i, left, acc, hi, h0, hM, h => by
  rw [Yd] at h ⊢
  by_cases h1 : (g i).2 ≠ 0
  ·rw [if_pos h1] at h; exact absurd h h1
  rw [if_neg h1] at h ⊢
  by_cases h2 : (f (g i).1 left).2.2 ≠ 0
  ·rw [if_pos h2] at h; exact absurd h h2
  rw [if_neg h2] at h ⊢
  obtain ⟨a1, a2, a3⟩ := hQ i left (by omega) h0 hM (by omega) (by omega)
  obtain ⟨b1, b2, ps, c1, c2, c3, c4⟩ := Zmx hQ m (i + 1) _ _ (by omega) a1 (by omega) h
  refine ⟨b1, by omega, ((f (g i).1 left).1, left - (f (g i).1 left).2.1 + e) :: ps, by rw [c1, List.append_assoc, List.map_cons]; rfl, by rw [List.length_cons, c2], ?_, ?_⟩
  ·intro p hp
   rcases List.mem_cons.1 hp with rfl | hp
   ·exact a3
   exact c3 p hp
  have : e * ((m + 1 : Nat) : Int) = e * (m : Int) + e := by rw [show ((m + 1 : Nat) : Int) = (m : Int) + 1 from rfl, Int.mul_add, Int.mul_one]
  rw [this]
  simp only [Zl5]
  rw [c4]
  omega
theorem Zml (s a : Int) : (atR A s a).1.kind ≠ 10 := by
 unfold atR
 rcases Zin A.segments s a with h | ⟨h1, hp, hk, hi⟩
 ·rw [if_pos h]; simp [r0]
 rw [if_neg (by omega)]
 have hc := hp.c
 generalize (fol A.segments s a).1 = x at *
 simp only
 split
 ·simp
 split
 ·split
  ·simp [r0]
  simp
 simp only
 omega
theorem Zt9 {r : Zd} (h : r.kind = 1 ∨ r.kind = 8) (i : Int) : (Ye A r i).1.kind ≠ 10 := by
 unfold Ye
 split
 ·simp [r0]
 split
 ·exact Zml _ _
 split
 ·exact Zml _ _
 omega
theorem Zym {r : Zd} (h : r.kind = 9) {i : Int} (hi : 0 ≤ i ∧ i < Z6 r) : Ye A r i = (⟨some A, 1, r.segment, r.at_ + 1 + i * (r.words + r.ptrs), r.words, r.ptrs, 0, 0, 0⟩, 0) := by
 unfold Ye
 rw [if_neg (by omega), if_neg (by omega), if_neg (by omega), if_pos h]
theorem Zyk {r : Zd} (h : 2 ≤ r.kind ∧ r.kind ≤ 7) {i : Int} (hi : 0 ≤ i ∧ i < Z6 r) : Ye A r i = (⟨some A, 10, r.segment, r.at_, 0, 0, 0, r.kind - 2, i⟩, 0) := by
 unfold Ye
 rw [if_neg (by omega), if_neg (by omega), if_neg (by omega), if_neg (by omega)]
theorem Zx4 (c : Int) : ((wid c : Nat) : Int) = wdt c := by
 unfold wid wdt
 repeat' split
 all_goals rfl
theorem Zvb (r : Zd) : Zpd r.code (Ztk A r) = true := by
 unfold Zpd Ztk
 rw [decide_eq_true_eq]
 split
 ·exact Int.pow_pos (by decide)
 unfold Ztl
 have : (wdt r.code).toNat = wid r.code := by rw [← Zx4, Int.toNat_natCast]
 rw [this]
 have h := Nat.mod_lt ((wd A.segments r.segment (r.at_ + r.index / each r.code)).toNat / 2 ^ (r.index % each r.code * wdt r.code).toNat) (Nat.pow_pos (n := wid r.code) (show 0 < 2 by decide))
 have e : (2 : Int) ^ wid r.code = ((2 ^ wid r.code : Nat) : Int) := by simp
 rw [e]
 omega
theorem Zvr {r : Zd} (hr : OKr A r) (h : r.kind = 1) : ((Qu A r).length : Int) = r.words := by
 unfold Qu
 rw [if_neg (by omega), if_pos h]
 cases hr with
 | z => simp [r0] at h
 | st s a d p hd hp hin =>
  have := inB_iff.1 hin
  simp only [List.length_take, List.length_drop]
  simp only [seg] at this ⊢
  omega
 | li k s a n hk => simp only at h; omega
 | co => simp at h
 | at_ => simp at h
def HF (A : Zj) (f : Zd → Int → Tr × Int × Int) (d : Nat) : Prop := ∀ k left, OKr A k → k.kind ≠ 10 → 0 ≤ left → left ≤ 65536 → (f k left).2.2 = 0 → 0 ≤ (f k left).2.1 ∧ (f k left).2.1 ≤ left ∧ (f k left).1.Kind = k.kind ∧ GG (f k left).1 d (left - (f k left).2.1)
theorem Zug {κ : Int} (h : κ = 1 ∨ κ = 8) {k : Tr} (hk : k.Kind ≠ 10) : okk κ k = true := by
 unfold okk
 rw [if_neg (by omega)]
 have e1 : (k.Kind != 10) = true := bne_iff_ne.2 hk
 have e2 : (κ != 9) = true := bne_iff_ne.2 (by omega)
 rw [e1, e2]
 rfl
theorem Zx9 {f : Zd → Int → Tr × Int × Int} {d : Nat} (hd : 1 ≤ d ∧ d ≤ 64) (hf : HF A f (d - 1)) {r : Zd} (hr : OKr A r) (h1 : r.kind = 1) {left : Int} (h0 : 0 ≤ left) (hb : 1 + r.words + r.ptrs + left ≤ 65536) (h : (Yd f (Ye A r) r.ptrs.toNat 0 left []).2.2 = 0) :
  0 ≤ (Yd f (Ye A r) r.ptrs.toNat 0 left []).2.1 ∧ (Yd f (Ye A r) r.ptrs.toNat 0 left []).2.1 ≤ left ∧ GG ⟨1, Qu A r, (Yd f (Ye A r) r.ptrs.toNat 0 left []).1⟩ d (1 + r.words + r.ptrs + (left - (Yd f (Ye A r) r.ptrs.toNat 0 left []).2.1)) := by
 have hrg : 0 ≤ r.words ∧ r.words < 65536 ∧ 0 ≤ r.ptrs ∧ r.ptrs < 65536 := by
  cases hr with
  | z => simp [r0] at h1
  | st s a d p hd hp hin => simp only; omega
  | li k s a n hk => simp only at h1; omega
  | co => simp at h1
  | at_ => simp at h1
 have hwl := Zvr hr h1
 obtain ⟨a1, a2, ps, b1, b2, b3, b4⟩ := Zmx (f := f) (g := Ye A r) (Q := fun t w => GG t (d - 1) w ∧ okk 1 t = true) (e := 0) (M := left) (n := r.ptrs.toNat) (fun i l hi hl hM g0 e0 => by
  have hk := Zt9 (A := A) (r := r) (.inl h1) i
  obtain ⟨c1, c2, c3, c4⟩ := hf _ l (Kk hr i) hk hl (by omega) e0
  exact ⟨c1, c2, by rw [Int.add_zero]; exact c4, Zug (.inl rfl) (by rw [c3]; exact hk)⟩) r.ptrs.toNat 0 left [] (by omega) h0 (Int.le_refl _) h
 refine ⟨a1, a2, ?_⟩
 rw [List.nil_append] at b1
 rw [Int.zero_mul, Int.add_zero] at b4
 refine Zt6 (t := ⟨1, Qu A r, _⟩) ⟨show (1 : Int) ≤ 1 by decide, show (1 : Int) ≤ 9 by decide⟩ hd (.inl ?_) ?_ (fun q => absurd q (show ¬ (1 : Int) < 1 by decide)) b1 b3 (b := 1 + ((Qu A r).length : Int)) (c := 1) rfl rfl ?_ (by omega)
 ·show (Yd f (Ye A r) r.ptrs.toNat 0 left []).1.length < 65536
  rw [b1, List.length_map, b2]
  omega
 ·show (Qu A r).length < 65536
  omega
 rw [b4, b2]
 omega
end
section
variable {A : Zj}
theorem Zw0 (f : Zd → Int → Tr × Int × Int) (k : Zd) (left : Int) : (stK A f k left).1.Kind = 1 := rfl
theorem Zxp (hw : WS A.segments) : ∀ d : Nat, d ≤ 64 → HF A (Gh A d) d := fun d => by
 induction d using Nat.strongRecOn with
 | ind d ih =>
  intro hd r left hr h10 h0 hl h
  have hP : ∀ k, 1 ≤ k → k ≤ d → HF A (Yl A k d) (d - k) := fun k hk hkd => by
   unfold Yl
   rw [if_pos hkd]
   exact ih _ (by omega) (by omega)
  have hwt := Zup hw hr
  have hkn := Zf1 hr
  have hkd := Zya hr
  rw [Zjh] at h ⊢
  unfold Zdy at h ⊢
  by_cases k0 : r.kind = 0
  ·rw [if_pos k0]
   refine ⟨h0, Int.le_refl _, rfl, ?_⟩
   have e : Qu A r = [] := by unfold Qu; rw [if_neg (by omega), if_neg (by omega)]
   simp only
   rw [e, k0, Int.sub_self]
   exact Zxq d
  rw [if_neg k0] at h ⊢
  by_cases hb : d < lvR r ∨ left < Gq r
  ·rw [if_pos hb] at h; simp at h
  rw [if_neg hb] at h ⊢
  have hlv : 1 ≤ lvR r := by
   unfold lvR
   rw [if_neg k0]
   split <;> omega
  have hd1 : 1 ≤ d ∧ d ≤ 64 := by omega
  by_cases k1 : r.kind = 1
  ·-- a struct
   have ek : Z6 r = r.ptrs := by unfold Z6; rw [if_pos k1]
   have ew : Gq r = 1 + r.words + r.ptrs := by unfold Gq; rw [if_neg k0, if_pos k1]
   have ef : Kj A (Yl A 1 d) (Yl A 2 d) r = Yl A 1 d := by unfold Kj; rw [if_neg (by omega), if_pos (.inl k1)]
   simp only at h ⊢
   rw [ek, ew, ef] at h ⊢
   obtain ⟨a1, a2, a3⟩ := Zx9 hd1 (hP 1 (by omega) (by omega)) hr k1 (left := left - (1 + r.words + r.ptrs)) (by omega) (by omega) h
   refine ⟨a1, by omega, trivial, ?_⟩
   rw [k1]
   have : left - (Yd (Yl A 1 d) (Ye A r) r.ptrs.toNat 0 (left - (1 + r.words + r.ptrs)) []).2.1 = 1 + r.words + r.ptrs + (left - (1 + r.words + r.ptrs) - (Yd (Yl A 1 d) (Ye A r) r.ptrs.toNat 0 (left - (1 + r.words + r.ptrs)) []).2.1) := by omega
   rw [this]
   exact a3
  -- a list
  have ewl : Qu A r = [] := by unfold Qu; rw [if_neg h10, if_neg k1]
  have ek : Z6 r = r.count := by unfold Z6; rw [if_neg k1]
  rw [ek] at hkn
  simp only at h ⊢
  rw [ek] at h ⊢
  have hcw : r.count + 1 ≤ Gq r := by
   cases hr with
   | z => simp [r0] at k0
   | st => simp at k1
   | li k s a n hk hn hin =>
    simp only [Gq] at *
    rw [if_neg (by omega), if_neg (by omega), if_neg (by omega)]
    omega
   | co s a d' p n hd' hp hn hwx hin =>
    have : n * (1 + d' + p) = n + n * (d' + p) := by rw [Int.add_assoc, Int.mul_add, Int.mul_one]
    simp [Gq]
    omega
   | at_ => simp at h10
  -- what each kid adds
  have main : ∀ e : Int, Gq r = 1 + e * r.count + (if r.kind = 8 then r.count else 0) → (∀ (i : Nat) (l : Int), i < r.count.toNat → 0 ≤ l → l ≤ left - Gq r → (Ye A r i).2 = 0 → (Kj A (Yl A 1 d) (Yl A 2 d) r (Ye A r i).1 l).2.2 = 0 → 0 ≤ (Kj A (Yl A 1 d) (Yl A 2 d) r (Ye A r i).1 l).2.1 ∧ (Kj A (Yl A 1 d) (Yl A 2 d) r (Ye A r i).1 l).2.1 ≤ l ∧ (GG (Kj A (Yl A 1 d) (Yl A 2 d) r (Ye A r i).1 l).1 (d - 1) (l - (Kj A (Yl A 1 d) (Yl A 2 d) r (Ye A r i).1 l).2.1 + e) ∧ okk r.kind (Kj A (Yl A 1 d) (Yl A 2 d) r (Ye A r i).1 l).1 = true)) →
    0 ≤ (Yd (Kj A (Yl A 1 d) (Yl A 2 d) r) (Ye A r) r.count.toNat 0 (left - Gq r) []).2.1 ∧ (Yd (Kj A (Yl A 1 d) (Yl A 2 d) r) (Ye A r) r.count.toNat 0 (left - Gq r) []).2.1 ≤ left ∧ True ∧ GG ⟨r.kind, Qu A r, (Yd (Kj A (Yl A 1 d) (Yl A 2 d) r) (Ye A r) r.count.toNat 0 (left - Gq r) []).1⟩ d (left - (Yd (Kj A (Yl A 1 d) (Yl A 2 d) r) (Ye A r) r.count.toNat 0 (left - Gq r) []).2.1) := fun e he hQ => by
   obtain ⟨a1, a2, ps, b1, b2, b3, b4⟩ := Zmx (f := Kj A (Yl A 1 d) (Yl A 2 d) r) (g := Ye A r) (Q := fun t w => GG t (d - 1) w ∧ okk r.kind t = true) (e := e) (M := left - Gq r) (n := r.count.toNat) hQ r.count.toNat 0 (left - Gq r) [] (by omega) (by omega) (Int.le_refl _) h
   refine ⟨a1, by omega, trivial, ?_⟩
   rw [List.nil_append] at b1
   rw [show ((r.count.toNat : Nat) : Int) = r.count by omega] at b4
   have hc8 : (if r.kind = 8 then (1 : Int) else 0) = if r.kind = 1 ∨ r.kind = 8 then 1 else 0 := by
    by_cases k8 : r.kind = 8
    ·rw [if_pos k8, if_pos (.inr k8)]
    rw [if_neg k8, if_neg (by omega)]
   refine Zt6 (t := ⟨r.kind, Qu A r, _⟩) (show 1 ≤ r.kind ∧ r.kind ≤ 9 by omega) hd1 (.inr ⟨k1, ?_⟩) ?_ (fun _ => by simp only; rw [ewl]; rfl) b1 b3 (b := 1) (c := if r.kind = 8 then 1 else 0) (by simp only; rw [if_neg k1]) hc8 ?_ (by omega)
   ·show (Yd (Kj A (Yl A 1 d) (Yl A 2 d) r) (Ye A r) r.count.toNat 0 (left - Gq r) []).1.length ≤ 65536
    rw [b1, List.length_map, b2]
    omega
   ·show (Qu A r).length < 65536
    rw [ewl]
    decide
   rw [b4, b2, show ((r.count.toNat : Nat) : Int) = r.count by omega]
   by_cases k8 : r.kind = 8
   ·rw [if_pos k8] at he ⊢
    rw [Int.one_mul]
    omega
   rw [if_neg k8] at he ⊢
   rw [Int.zero_mul]
   omega
  by_cases k9 : r.kind = 9
  ·have ef : Kj A (Yl A 1 d) (Yl A 2 d) r = stK A (Yl A 2 d) := by unfold Kj; rw [if_pos k9]
   have ew : Gq r = 1 + r.count * (1 + r.words + r.ptrs) := by unfold Gq; rw [if_neg k0, if_neg k1, if_pos k9]
   refine main (1 + r.words + r.ptrs) (by rw [if_neg (by omega), ew, Int.mul_comm]; omega) fun i l hi h0' hM g0 e0 => ?_
   rw [ef] at e0 ⊢
   have hks := Zym (A := A) k9 (i := (i : Int)) (by rw [ek]; omega)
   have hko := Kk hr (i : Int)
   have hl2 : 2 ≤ d := by
    have : lvR r = 2 := by unfold lvR; rw [if_neg k0, if_pos ⟨k9, by omega⟩]
    omega
   have hfit : 1 + r.words + r.ptrs ≤ Gq r - 1 := by
    have hnn : 0 ≤ 1 + r.words + r.ptrs := by
     cases hr with
     | z => simp [r0] at k0
     | st => simp at k1
     | li k s a n hk hn hin => simp only at k9; omega
     | co s a d' p n hd' hp hn hwx hin => simp only; omega
     | at_ => simp at h10
    have : 1 * (1 + r.words + r.ptrs) ≤ r.count * (1 + r.words + r.ptrs) := Int.mul_le_mul_of_nonneg_right (by omega) hnn
    rw [ew]
    omega
   have e1 : (Ye A r (i : Int)).1.kind = 1 := by rw [hks]
   have e2 : (Ye A r (i : Int)).1.words = r.words := by rw [hks]
   have e3 : (Ye A r (i : Int)).1.ptrs = r.ptrs := by rw [hks]
   obtain ⟨a1, a2, a3⟩ := Zx9 (d := d - 1) (by omega) (hP 2 (by omega) hl2) hko e1 (left := l) h0' (by rw [e2, e3]; omega) e0
   refine ⟨a1, a2, ?_, ?_⟩
   ·have ea : 1 + (Ye A r (i : Int)).1.words + (Ye A r (i : Int)).1.ptrs = 1 + r.words + r.ptrs := by rw [e2, e3]
    rw [ea, Int.add_comm (1 + r.words + r.ptrs)] at a3
    exact a3
   unfold okk
   rw [if_neg (by omega), Zw0, k9]
   rfl
  by_cases k8 : r.kind = 8
  ·have ef : Kj A (Yl A 1 d) (Yl A 2 d) r = Yl A 1 d := by unfold Kj; rw [if_neg k9, if_pos (.inr k8)]
   have ew : Gq r = 1 + r.count := by unfold Gq; rw [if_neg k0, if_neg k1, if_neg k9]
   refine main 0 (by rw [if_pos k8, ew, Int.zero_mul]; omega) fun i l hi h0' hM g0 e0 => ?_
   rw [ef] at e0 ⊢
   have hk := Zt9 (A := A) (r := r) (.inr k8) i
   obtain ⟨c1, c2, c3, c4⟩ := hP 1 (by omega) (by omega) _ l (Kk hr i) hk h0' (by omega) e0
   exact ⟨c1, c2, by rw [Int.add_zero]; exact c4, Zug (.inr k8) (by rw [c3]; exact hk)⟩
  have ef : Kj A (Yl A 1 d) (Yl A 2 d) r = Zij A := by unfold Kj; rw [if_neg k9, if_neg (by omega)]
  have ew : Gq r = 1 + r.count := by unfold Gq; rw [if_neg k0, if_neg k1, if_neg k9]
  refine main 1 (by rw [if_neg k8, ew, Int.one_mul]; omega) fun i l hi h0' hM g0 e0 => ?_
  rw [ef] at e0 ⊢
  have hks := Zyk (A := A) (r := r) (by omega) (i := (i : Int)) (by rw [ek]; omega)
  unfold Zij
  simp only
  refine ⟨h0', Int.le_refl _, ?_⟩
  have e1 : (Ye A r (i : Int)).1.kind = 10 := by rw [hks]
  have e2 : (Ye A r (i : Int)).1.code = r.kind - 2 := by rw [hks]
  have ewk : Qu A (Ye A r (i : Int)).1 = [Ztk A (Ye A r (i : Int)).1] := by unfold Qu; rw [if_pos e1]
  rw [e1, ewk, Int.sub_self, Int.zero_add]
  refine ⟨Zyj _ _, ?_⟩
  unfold okk
  rw [if_pos (by omega)]
  have := Zvb (A := A) (Ye A r (i : Int)).1
  rw [e2] at this
  simp only [List.headD_cons]
  rw [this]
  rfl
end
theorem Zuj : ∀ (n : Nat) (t : Tr), SizeOf.sizeOf t < n → ∀ d d', d ≤ d' → rt t d = true → rt t d' = true
 | 0, t, h, _, _, _, _ => by omega
 | n + 1, t, hn, d, d', hd, h => by
  rw [Zpl] at h ⊢
  by_cases h0 : t.Kind = 0
  ·rw [if_pos h0] at h ⊢
   exact h
  rw [if_neg h0] at h ⊢
  by_cases h10 : t.Kind = 10
  ·rw [if_pos h10] at h ⊢
   exact h
  rw [if_neg h10] at h ⊢
  by_cases hb : t.Kind < 0 ∨ 10 < t.Kind ∨ d = 0 ∨ 65536 ≤ t.Words.length ∨ (t.Kind = 1 ∧ 65536 ≤ t.Kids.length) ∨ 1048576 ≤ t.Kids.length ∨ (1 < t.Kind ∧ 0 < t.Words.length)
  ·rw [if_pos hb] at h
   cases h
  rw [if_neg hb] at h
  rw [if_neg (by omega)]
  rw [List.all_eq_true] at h ⊢
  intro x hx
  have := h x hx
  rw [Bool.and_eq_true] at this ⊢
  exact ⟨Zuj n x (by have := Zia hx; omega) (d - 1) (d' - 1) (by omega) this.1, this.2⟩
theorem Zqm {l : List (List Int)} (hw : WS l) (x : Zy) : Q5 l x = some true := by
 obtain ⟨w, hx⟩ := Zwf x
 unfold Q5
 rw [hx, Option.bind_some, Zvt hw, Option.bind_some, Zmo (A := ⟨l, 0, 0⟩) hw, Option.bind_some, Zvo (A := ⟨l, 0, 0⟩) hw, Option.bind_some]
 generalize (⟨x.Depth, w, x.MaxD, x.MaxOut⟩ : Zy) = y
 have hu := Zx3 (A := ⟨l, 0, 0⟩) y
 by_cases e : (Zfu ⟨l, 0, 0⟩ y).2 = 0
 ·have e1 : ((Zfu ⟨l, 0, 0⟩ y).2 != 0) = false := bne_eq_false_iff_eq.2 e
  have e2 : ((Zk7 ⟨l, 0, 0⟩ y).2.2 == 0) = true := by rw [hu, beq_iff_eq]; exact e
  have hd : 0 ≤ (Q3 y).Depth ∧ (Q3 y).Depth ≤ 64 := Zdp _ _ (by decide)
  have hW : 0 ≤ (Q3 y).Weight ∧ (Q3 y).Weight ≤ 65536 := Zdp _ _ (by decide)
  have hg : Bd (Zk7 ⟨l, 0, 0⟩ y).1 ∧ 0 ≤ (Zfu ⟨l, 0, 0⟩ y).1 ∧ (Zfu ⟨l, 0, 0⟩ y).1 ≤ (Q3 y).Weight ∧ GG (Zk7 ⟨l, 0, 0⟩ y).1 (Q3 y).Depth.toNat (Zfu ⟨l, 0, 0⟩ y).1 := by
   rw [← hu] at e ⊢
   clear hu e1 e2
   unfold Zk7 at e ⊢
   by_cases h : (atR ⟨l, 0, 0⟩ 0 0).2 ≠ 0
   ·rw [if_pos h] at e
    exact absurd e h
   rw [if_neg h] at e ⊢
   simp only at e ⊢
   by_cases hq : (Gh ⟨l, 0, 0⟩ (Q3 y).Depth.toNat (atR ⟨l, 0, 0⟩ 0 0).1 (Q3 y).Weight).2.2 ≠ 0
   ·rw [if_pos hq] at e
    exact absurd e hq
   rw [if_neg hq]
   obtain ⟨a1, a2, a3, a4⟩ := Zxp (A := ⟨l, 0, 0⟩) hw (Q3 y).Depth.toNat (by omega) _ (Q3 y).Weight (Zft (A := ⟨l, 0, 0⟩) 0 0) (Zml (A := ⟨l, 0, 0⟩) 0 0) hW.1 hW.2 (by omega)
   exact ⟨Zxt (A := ⟨l, 0, 0⟩) hw _ _ _ (Zft (A := ⟨l, 0, 0⟩) 0 0) hW.1 hW.2, by simp only; omega, by simp only; omega, a4⟩
  obtain ⟨g1, g2, g3, ⟨D, d1, d2, d3⟩, ⟨w1, w2⟩, g4⟩ := hg
  have r1 : Vj (Zk7 ⟨l, 0, 0⟩ y).1 64 = some true := by
   have := Zvh g1 (d := 64) (Nat.le_refl _)
   rw [Zuj _ _ (Nat.lt_succ_self _) (Q3 y).Depth.toNat 64 (by omega) g4] at this
   exact this
  have r2 : Uv (Zk7 ⟨l, 0, 0⟩ y).1 = some D := Zm5 (SizeOf.sizeOf (Zk7 ⟨l, 0, 0⟩ y).1 + 1) fun k hk => d3 k (by omega)
  have r3 : Ub (Zk7 ⟨l, 0, 0⟩ y).1 = some (Zfu ⟨l, 0, 0⟩ y).1 := Zm5 (SizeOf.sizeOf (Zk7 ⟨l, 0, 0⟩ y).1 + 1) fun k hk => w2 k (by omega)
  rw [e1, cond_false, e2, cond_true, r1, Option.bind_some, cond_true, r2, Option.bind_some, Zpf, Option.bind_some, decide_eq_true (show D ≤ (Q3 y).Depth by omega), cond_true, r3, Option.bind_some, show ((Zfu ⟨l, 0, 0⟩ y).1 == (Zfu ⟨l, 0, 0⟩ y).1) = true from beq_self_eq_true _, cond_true, Option.bind_some, decide_eq_true g3, cond_true, Zo8]
  rfl
 have e1 : ((Zfu ⟨l, 0, 0⟩ y).2 != 0) = true := bne_iff_ne.2 e
 have e2 : ((Zk7 ⟨l, 0, 0⟩ y).2.2 != 0) = true := by rw [hu]; exact e1
 rw [e1, cond_true, e2, cond_true, Zo8]
 rfl
end Go.Proofs.Ytmlhokaflhlhbaa
