/- Plain facts on this seat's mirrors (part IP2); each theorem bears its own conditions. -/
import Derived.Test.YtgffgbdnbjbmoaaIP1
import Derived.IntWalk
namespace Go.Proofs.Ytgffgbdnbjbmoaa
open Go.RowKit
set_option linter.unusedVariables false
set_option linter.unusedSimpArgs false
theorem Zzj (l : List Tr) (x : Tr) : ndl (l ++ [x]) = ndl l + nd x := by simp [ndl]
inductive Mn (A : Ze) : Za → Tr → Prop
  | mk {r : Za} {t : Tr} (hr : OKr A r) (hk : t.Kind = r.kind) (hw : t.Words = Ys A r) (hl : (t.Kids.length : Int) = Yq r) (he : ∀ (i : Nat) (x : Tr), t.Kids[i]? = some x → (Kb A r i).2 = 0) (h : ∀ (i : Nat) (x : Tr), t.Kids[i]? = some x → Mn A (Kb A r i).1 x) : Mn A r t
section
variable {A : Ze}
theorem Z0b {f : Za → Int → Tr × Int × Int} {g : Int → Za × Int} {e : Int} {n : Nat}
    (hQ : ∀ (i : Nat) (l : Int), i < n → 0 ≤ l → (g i).2 = 0 → (f (g i).1 l).2.2 = 0 → Mn A (g i).1 (f (g i).1 l).1 ∧ (nd (f (g i).1 l).1 : Int) ≤ e + (l - (f (g i).1 l).2.1) ∧ 0 ≤ (f (g i).1 l).2.1) :
    ∀ (m i : Nat) (left : Int) (acc : List Tr), i + m = n → 0 ≤ left → acc.length = i → (∀ (j : Nat) x, acc[j]? = some x → (g j).2 = 0 ∧ Mn A (g j).1 x) → (J3 f g m i left acc).2.2 = 0 →
      (J3 f g m i left acc).1.length = n ∧ (∀ (j : Nat) x, (J3 f g m i left acc).1[j]? = some x → (g j).2 = 0 ∧ Mn A (g j).1 x) ∧ (ndl (J3 f g m i left acc).1 : Int) ≤ ndl acc + (m : Int) * e + (left - (J3 f g m i left acc).2.1)
  | 0, i, left, acc, hi, h0, ha, hA, h => by
    refine ⟨by simp only [J3]; omega, by simp only [J3]; exact hA, ?_⟩
    simp only [J3]
    omega
  | m + 1, i, left, acc, hi, h0, ha, hA, h => by
    rw [J3] at h ⊢
    by_cases h1 : (g i).2 ≠ 0
    · rw [if_pos h1] at h; exact absurd h h1
    rw [if_neg h1] at h ⊢
    by_cases h2 : (f (g i).1 left).2.2 ≠ 0
    · rw [if_pos h2] at h; exact absurd h h2
    rw [if_neg h2] at h ⊢
    obtain ⟨a1, a2, a3⟩ := hQ i left (by omega) h0 (by omega) (by omega)
    obtain ⟨b1, b2, b3⟩ := Z0b hQ m (i + 1) _ _ (by omega) a3 (by rw [List.length_append, ha]; rfl) (fun j x hx => by
      rcases Nat.lt_or_ge j acc.length with hj | hj
      · rw [List.getElem?_append_left hj] at hx; exact hA j x hx
      rw [List.getElem?_append_right hj] at hx
      have hj0 : j - acc.length = 0 := by
        rcases Nat.eq_zero_or_pos (j - acc.length) with q | q
        · exact q
        rw [List.getElem?_eq_none (by simp; omega)] at hx; cases hx
      rw [hj0] at hx
      simp only [List.getElem?_cons_zero, Option.some.injEq] at hx
      subst hx
      have : j = i := by omega
      subst this
      exact ⟨by omega, a1⟩) h
    refine ⟨b1, b2, ?_⟩
    rw [Zzj] at b3
    have : (((m + 1 : Nat)) : Int) * e = (m : Int) * e + e := by rw [show ((m + 1 : Nat) : Int) = (m : Int) + 1 from rfl, Int.add_mul, Int.one_mul]
    rw [this]
    omega
def HM (A : Ze) (f : Za → Int → Tr × Int × Int) : Prop := ∀ k left, OKr A k → 0 ≤ left → (f k left).2.2 = 0 → Mn A k (f k left).1 ∧ (nd (f k left).1 : Int) ≤ 1 + (left - (f k left).2.1) ∧ 0 ≤ (f k left).2.1
theorem Z2j : HM A bad := fun k left _ _ h => by simp [bad] at h
theorem Ziw {f : Za → Int → Tr × Int × Int} {e : Int} {r : Za} (hr : OKr A r) {left : Int} (h0 : 0 ≤ left)
    (hQ : ∀ (i : Nat) (l : Int), i < (Yq r).toNat → 0 ≤ l → (Kb A r i).2 = 0 → (f (Kb A r i).1 l).2.2 = 0 → Mn A (Kb A r i).1 (f (Kb A r i).1 l).1 ∧ (nd (f (Kb A r i).1 l).1 : Int) ≤ e + (l - (f (Kb A r i).1 l).2.1) ∧ 0 ≤ (f (Kb A r i).1 l).2.1)
    (h : (J3 f (Kb A r) (Yq r).toNat 0 left []).2.2 = 0) :
    Mn A r ⟨r.kind, Ys A r, (J3 f (Kb A r) (Yq r).toNat 0 left []).1⟩ ∧ (nd ⟨r.kind, Ys A r, (J3 f (Kb A r) (Yq r).toNat 0 left []).1⟩ : Int) ≤ 1 + Yq r * e + (left - (J3 f (Kb A r) (Yq r).toNat 0 left []).2.1) := by
  have hkn := Zea hr
  obtain ⟨a1, a2, a3⟩ := Z0b hQ (Yq r).toNat 0 left [] (by omega) h0 rfl (fun j x hx => by simp at hx) h
  refine ⟨.mk hr rfl rfl ?_ (fun i x hx => (a2 i x hx).1) (fun i x hx => (a2 i x hx).2), ?_⟩
  · show ((J3 f (Kb A r) (Yq r).toNat 0 left []).1.length : Int) = Yq r
    rw [a1]
    omega
  rw [Zh6]
  simp only
  rw [show (((Yq r).toNat : Nat) : Int) = Yq r by omega] at a3
  unfold ndl at a3
  simp only [List.map_nil, List.sum_nil] at a3
  omega
theorem Zzb (hw : WS A.segments) : ∀ d, HM A (Zip A d) := fun d => by
  induction d using Nat.strongRecOn with
  | ind d ih =>
    intro r left hr h0 h
    have hP : ∀ k, 1 ≤ k → HM A (Uy A k d) := fun k hk => by
      unfold Uy
      split
      · exact ih _ (by omega)
      exact Z2j
    have hlf := Zso hw d r left hr h0 h
    refine (fun (q : Mn A r (Zip A d r left).1 ∧ (nd (Zip A d r left).1 : Int) ≤ 1 + (left - (Zip A d r left).2.1)) => ⟨q.1, q.2, hlf.1⟩) ?_
    have hwt := Z1y hw hr
    have hkn := Zea hr
    rw [Zsx] at h hlf ⊢
    unfold Zkb at h hlf ⊢
    by_cases k0 : r.kind = 0
    · rw [if_pos k0]
      have hz : Yq r = 0 := by
        cases hr with
        | z => rfl
        | st => simp at k0
        | li k s a n hk => simp only at k0; omega
        | co => simp at k0
        | at_ => simp at k0
      refine ⟨.mk hr rfl rfl (by simp [hz]) (fun i x hx => by simp at hx) (fun i x hx => by simp at hx), ?_⟩
      rw [Zh6]
      simp
    rw [if_neg k0] at h hlf ⊢
    by_cases hb : d < lvR r ∨ left < wtR r
    · rw [if_pos hb] at h; simp at h
    rw [if_neg hb] at h hlf ⊢
    simp only at h hlf ⊢
    by_cases k9 : r.kind = 9
    · have ef : Zni A (Uy A 1 d) (Uy A 2 d) r = stK A (Uy A 2 d) := by unfold Zni; rw [if_pos k9]
      rw [ef] at h hlf ⊢
      have ew : wtR r = 1 + r.count * (1 + r.words + r.ptrs) := by unfold wtR; rw [if_neg k0, if_neg (by omega), if_pos k9]
      have ekn : Yq r = r.count := by unfold Yq; rw [if_neg (by omega)]
      have hrg : 0 ≤ r.words ∧ 0 ≤ r.ptrs := by
        cases hr with
        | z => simp [r0] at k0
        | st => simp at k9
        | li k s a n hk => simp only at k9; omega
        | co s a d' p n hd hp => simp only; omega
        | at_ => simp at k9
      obtain ⟨m1, m2⟩ := Ziw (e := 1 + r.ptrs) hr (left := left - wtR r) (by omega) (fun i l hi hl g0 e0 => by
        have hks := Z2l (A := A) k9 (i := (i : Int)) (by omega)
        have hko := Zbw hr (i : Int)
        have e1 : (Kb A r (i : Int)).1.kind = 1 := by rw [hks]
        have e3 : (Kb A r (i : Int)).1.ptrs = r.ptrs := by rw [hks]
        have ek : Yq (Kb A r (i : Int)).1 = r.ptrs := by unfold Yq; rw [if_pos e1, e3]
        unfold stK at e0 ⊢
        simp only at e0 ⊢
        rw [e3, ← ek] at e0 ⊢
        have hgl := Ziu (Zwv hw 2 d) (fun i' => Zbw hko i') _ _ _ [] hl e0
        obtain ⟨n1, n2⟩ := Ziw (f := Uy A 2 d) (e := 1) hko hl (fun i' l' hi' hl' g0' e0' => hP 2 (by omega) _ _ (Zbw hko i') hl' e0') e0
        rw [e1] at n1 n2
        rw [ek] at n1 n2 hgl ⊢
        exact ⟨n1, by omega, hgl.1⟩) h
      refine ⟨m1, ?_⟩
      have : Yq r * (1 + r.ptrs) ≤ r.count * (1 + r.words + r.ptrs) := by
        rw [ekn]
        exact Int.mul_le_mul_of_nonneg_left (by omega) (by omega)
      omega
    by_cases k18 : r.kind = 1 ∨ r.kind = 8
    · have ef : Zni A (Uy A 1 d) (Uy A 2 d) r = Uy A 1 d := by unfold Zni; rw [if_neg k9, if_pos k18]
      rw [ef] at h hlf ⊢
      obtain ⟨m1, m2⟩ := Ziw (e := 1) hr (left := left - wtR r) (by omega) (fun i l hi hl g0 e0 => hP 1 (by omega) _ _ (Zbw hr i) hl e0) h
      refine ⟨m1, ?_⟩
      have : 1 + Yq r ≤ wtR r := by
        unfold wtR Yq
        rw [if_neg k0]
        by_cases k1 : r.kind = 1
        · rw [if_pos k1, if_pos k1]
          cases hr with
          | z => simp [r0] at k0
          | st s a d' p hd hp => simp only; omega
          | li k s a n hk => simp only at k1; omega
          | co s a d' p n hd hp => simp at k1
          | at_ => simp at k1
        rw [if_neg k1, if_neg k9, if_neg k1]
        omega
      omega
    have ef : Zni A (Uy A 1 d) (Uy A 2 d) r = Zho A := by unfold Zni; rw [if_neg k9, if_neg k18]
    rw [ef] at h hlf ⊢
    have hnn : Yq r = 0 ∨ 2 ≤ r.kind ∧ r.kind ≤ 7 := by
      cases hr with
      | z => exact .inl rfl
      | st => simp at k18
      | li k s a n hk => simp only at k18 ⊢; exact .inr (by omega)
      | co => simp at k9
      | at_ => exact .inl rfl
    obtain ⟨m1, m2⟩ := Ziw (f := Zho A) (e := 1) hr (left := left - wtR r) (by omega) (fun i l hi hl g0 e0 => by
      have hks := Z2k (A := A) (r := r) (by omega) (i := (i : Int)) (by omega)
      have e2 : Yq (Kb A r (i : Int)).1 = 0 := by rw [hks]; rfl
      refine ⟨.mk (Zbw hr i) rfl rfl (by simp [Zho, e2]) (fun i x hx => by simp [Zho] at hx) (fun i x hx => by simp [Zho] at hx), ?_, hl⟩
      rw [Zh6]
      simp [Zho]) h
    refine ⟨m1, ?_⟩
    have : 1 + Yq r ≤ wtR r := by
      unfold wtR Yq
      rw [if_neg k0, if_neg (by omega), if_neg (by omega), if_neg k9]
      omega
    omega
end
theorem Zz2 {α : Type} (p : α → Bool) (l : List α) : trN p l l.length = (tr p l).length := by
  obtain ⟨h1, h2⟩ := Zn5 (p := p) (l := l) l.length (Nat.le_refl _)
  rw [List.take_length] at h1
  rw [← h1, List.length_take]
  omega
theorem Zpo {α R : Type} (l : List α) (p : α → Bool) (step : Int → Option (Int ⊕ R)) (g : Nat → R)
    (h0 : step 0 = some (.inr (g 0))) (h1 : ∀ (n : Nat) (x : α), l[n]? = some x → n < l.length → step ((n + 1 : Nat) : Int) = some (if p x = true then .inl (n : Int) else .inr (g (n + 1)))) : Zw step (l.length : Int) = some (g (tr p l).length) := by
  have key : ∀ n : Nat, n ≤ l.length → Zw step (n : Int) = some (g (trN p l n)) := fun n => by
    induction n with
    | zero => intro _; exact Xa h0
    | succ n ih =>
      intro hn
      have hx : l[n]? = some l[n] := List.getElem?_eq_getElem (by omega)
      have h := h1 n _ hx (by omega)
      unfold trN
      rw [hx]
      simp only
      split
      · rename_i hp
        rw [if_pos hp] at h
        rw [X1 h]
        exact ih (by omega)
      rename_i hp
      rw [if_neg hp] at h
      exact Xa h
  rw [← Zz2]
  exact key l.length (Nat.le_refl _)
section
variable {A B : Ze}
theorem Mn.ok {r : Za} {t : Tr} (h : Mn A r t) : OKr A r := by cases h; assumption
theorem Mn.kd {r : Za} {t : Tr} (h : Mn A r t) : t.Kind = r.kind := by cases h; assumption
theorem Mn.wd {r : Za} {t : Tr} (h : Mn A r t) : t.Words = Ys A r := by cases h; assumption
theorem Mn.ln {r : Za} {t : Tr} (h : Mn A r t) : (t.Kids.length : Int) = Yq r := by cases h; assumption
theorem Mn.er {r : Za} {t : Tr} (h : Mn A r t) : ∀ (i : Nat) (x : Tr), t.Kids[i]? = some x → (Kb A r i).2 = 0 := by cases h; assumption
theorem Mn.kid {r : Za} {t : Tr} (h : Mn A r t) : ∀ (i : Nat) (x : Tr), t.Kids[i]? = some x → Mn A (Kb A r i).1 x := by cases h; assumption
theorem Znm (hw : WS A.segments) {r : Za} (h : OKr A r) : K0 r = some ((tr (fun x => x == 0) (Ys A r)).length : Int) := by
  have hl := Zk7 hw h
  have hle := Zhm h
  have hloop := Zpo (Ys A r) (fun x => x == 0) (Ud r) (fun n => (n : Int)) rfl (fun n x hx hn => by
    unfold Ud
    rw [Z2i, cond_true, Q2 (by omega) (by omega), show ((n + 1 : Nat) : Int) - 1 = (n : Int) by omega, Zi2 hw h, Option.bind_some]
    have : Zmt A r n = x := by
      rw [← Zex hw h hn]
      rw [List.getElem?_eq_getElem hn] at hx
      injection hx
    rw [this]
    simp only [Option.bind_some, cond_true]
    cases x == 0 <;> rfl)
  unfold K0
  rw [Zma, ← hl, Option.bind_some, hloop]
  rfl
theorem Zn6 {p : Int → Bool} {l : List Int} {i : Nat} (hi : i < (tr p l).length) : ∃ h : i < l.length, (tr p l)[i]? = some (l[i]'h) := by
  have h := Zn8 p l
  have hl := Zcc p l
  refine ⟨by omega, ?_⟩
  rw [← h, List.getElem?_take, if_pos hi, List.getElem?_eq_getElem (by omega)]
theorem Znz (hA : WS A.segments) (hB : WS B.segments) {a b : Za} (ha : OKr A a) (hb : OKr B b) : Jw a b = some (tr (fun x => x == 0) (Ys A a) == tr (fun x => x == 0) (Ys B b)) := by
  have hle := Zhm ha
  have htl := Zcc (fun x : Int => x == 0) (Ys A a)
  unfold Jw
  rw [Znm hA ha, Option.bind_some, Znm hB hb, Option.bind_some, Zj7]
  by_cases hl : (tr (fun x => x == 0) (Ys B b)).length = (tr (fun x => x == 0) (Ys A a)).length
  · rw [show (!((tr (fun x => x == 0) (Ys B b)).length == (tr (fun x => x == 0) (Ys A a)).length)) = false by simp [hl], cond_false]
    rw [Zka (tr (fun x => x == 0) (Ys A a)) (tr (fun x => x == 0) (Ys B b)) (Q6 a b ((tr (fun x => x == 0) (Ys A a)).length : Int)) (.inl ()) (.inr ()) hl.symm (by omega) (fun i x y hi hx hy => by
      unfold Q6
      obtain ⟨i1, e1⟩ := Zn6 hi
      obtain ⟨i2, e2⟩ := Zn6 (l := Ys B b) (p := fun x => x == 0) (i := i) (by omega)
      rw [e1] at hx
      rw [e2] at hy
      injection hx with hx
      injection hy with hy
      rw [Ze0 hi, cond_true, Zi2 hA ha, Option.bind_some, Zi2 hB hb, Option.bind_some, ← Zex hA ha i1, ← Zex hB hb i2, hx, hy]
      cases x != y <;> rfl) (by unfold Q6; rw [Zez]; rfl)]
    cases tr (fun x => x == 0) (Ys A a) == tr (fun x => x == 0) (Ys B b) <;> rfl
  rw [show (!((tr (fun x => x == 0) (Ys B b)).length == (tr (fun x => x == 0) (Ys A a)).length)) = true by simp [hl], cond_true, Zmx (fun q => hl q.symm)]
theorem Zyj (hw : WS A.segments) {r : Za} {t : Tr} (h : Mn A r t) : Gv r = some (((tr (fun x => x.Kind == 0) t.Kids).length : Int), 0) := by
  have hl := h.ln
  have hkn := Zea h.ok
  have hloop := Zpo (R := (Int × Int) ⊕ Unit) t.Kids (fun x => x.Kind == 0) (Ue r) (fun n => match n with | 0 => .inr () | n + 1 => .inl (((n + 1 : Nat) : Int), 0)) rfl (fun n x hx hn => by
    have e1 := h.er n x hx
    have e2 := (h.kid n x hx).kd
    unfold Ue
    rw [Z2i, cond_true, Q2 (by omega) (by omega), show ((n + 1 : Nat) : Int) - 1 = (n : Int) by omega, Zj3 hw h.ok, Option.bind_some, e1, show ((0 : Int) != 0) = false from rfl, cond_false, show Yj (Kb A r n).1 = some (Kb A r n).1.kind from rfl, Option.bind_some, cond_false, Option.bind_some, ← e2]
    rcases Bool.eq_false_or_eq_true (x.Kind == 0) with q | q
    · rw [show (x.Kind != 0) = false by unfold bne; rw [q]; rfl, cond_false, if_pos q]
    rw [show (x.Kind != 0) = true by unfold bne; rw [q]; rfl, cond_true, if_neg (by rw [q]; decide)])
  unfold Gv
  rw [Zgs, ← hl, Option.bind_some, hloop]
  cases (tr (fun x => x.Kind == 0) t.Kids).length <;> rfl
def tk (t : Tr) : List Tr := if t.Kind = 1 then tr (fun x => x.Kind == 0) t.Kids else t.Kids
theorem Zrq (t : Tr) {i : Nat} {x : Tr} (h : (tk t)[i]? = some x) : t.Kids[i]? = some x := by
  unfold tk at h
  split at h
  · rw [← Zn8, List.getElem?_take] at h
    split at h
    · exact h
    cases h
  exact h
theorem Zn1 {t x : Tr} (h : x ∈ tk t) : x ∈ t.Kids := by
  unfold tk at h
  split at h
  · exact Zn7 h
  exact h
theorem Zw3 (t : Tr) : ndl (tk t) + 1 ≤ nd t := by
  rw [Zh6]
  unfold ndl tk
  split
  · have := Zyg (fun x : Tr => x.Kind == 0) nd t.Kids
    omega
  omega
theorem Zjk (hw : WS A.segments) {r : Za} {t : Tr} (h : Mn A r t) : Ki r = some (((tk t).length : Int), 0) := by
  have hk := h.kd
  unfold Ki tk
  rw [show Yj r = some r.kind from rfl, Option.bind_some, ← hk]
  by_cases h1 : t.Kind = 1
  · rw [show (t.Kind != 1) = false from by rw [h1]; rfl, cond_false, Zyj hw h, if_pos h1]
    rfl
  rw [show (t.Kind != 1) = true from bne_iff_ne.2 h1, cond_true, Zgs, if_neg h1, h.ln]
  rfl
def eqv (t u : Tr) : Bool := eqT (nrm t) (nrm u)
theorem Zv9 {t u : Tr} (h : t.Kind ≠ u.Kind) : eqv t u = false := by
  unfold eqv
  rw [Zjm, Vn, Vn, beq_eq_false_iff_ne.2 h]
  rfl
theorem Mn.w0 {r : Za} {t : Tr} (h : Mn A r t) (h1 : t.Kind ≠ 1) (h10 : t.Kind ≠ 10) : t.Words = [] := by
  rw [h.wd]
  unfold Ys
  rw [← h.kd, if_neg h10, if_neg h1]
theorem Mn.w1 {r : Za} {t : Tr} (h : Mn A r t) (h10 : t.Kind = 10) : ∃ x, t.Words = [x] := by
  rw [h.wd]
  unfold Ys
  rw [← h.kd, if_pos h10]
  exact ⟨_, rfl⟩
theorem Mn.k0 {r : Za} {t : Tr} (h : Mn A r t) (h0 : t.Kind = 0) : t.Kids = [] := by
  have hl := h.ln
  have hz : Yq r = 0 := by
    have hk := h.kd
    have hr := h.ok
    cases hr with
    | z => rfl
    | st => simp at hk; omega
    | li k s a n hk' => simp only at hk; omega
    | co => simp at hk; omega
    | at_ => simp at hk; omega
  exact List.eq_nil_of_length_eq_zero (by omega)
theorem Z2y (x y : Int) : (tr (fun x => x == 0) [x] == tr (fun x => x == 0) [y]) = ([x] == [y]) := by
  have e : ∀ x : Int, tr (fun x => x == 0) [x] = if x = 0 then [] else [x] := fun x => by
    rw [Zil (l := []) rfl]
    simp only [beq_iff_eq]
  rw [e, e]
  by_cases hx : x = 0
  · by_cases hy : y = 0
    · rw [if_pos hx, if_pos hy, hx, hy]; rfl
    rw [if_pos hx, if_neg hy, hx]
    rw [Bool.eq_iff_iff, beq_iff_eq, beq_iff_eq]
    exact ⟨fun q => by (cases q), fun q => by injection q with q; exact absurd q.symm hy⟩
  by_cases hy : y = 0
  · rw [if_neg hx, if_pos hy, hy]
    rw [Bool.eq_iff_iff, beq_iff_eq, beq_iff_eq]
    exact ⟨fun q => by (cases q), fun q => by injection q with q; exact absurd q hx⟩
  rw [if_neg hx, if_neg hy]
theorem Z2c {a b : Za} {t u : Tr} (ha : Mn A a t) (hb : Mn B b u) (hk : t.Kind = u.Kind) : eqv t u = ((tr (fun x => x == 0) t.Words == tr (fun x => x == 0) u.Words) && eqL ((tk t).map nrm) ((tk u).map nrm)) := by
  unfold eqv
  rw [Zjm, Vn, Vn, beq_iff_eq.2 hk, Bool.true_and]
  by_cases h0 : t.Kind = 0
  · have h0' : u.Kind = 0 := hk ▸ h0
    rw [Zps h0, Zps h0', ha.w0 (by omega) (by omega), hb.w0 (by omega) (by omega)]
    unfold tk
    rw [if_neg (by omega), if_neg (by omega), ha.k0 h0, hb.k0 h0']
    rfl
  by_cases h1 : t.Kind = 1
  · have h1' : u.Kind = 1 := hk ▸ h1
    have q1 : ∀ l : List Tr, tr (fun x : Tr => x.Kind == 0) (l.map nrm) = (tr (fun x : Tr => x.Kind == 0) l).map nrm := Zrs (fun x => by rw [Vn])
    rw [Zc8 h1, Zc8 h1']
    unfold tk
    rw [if_pos h1, if_pos h1', q1, q1]
  have h0' : ¬ u.Kind = 0 := fun q => h0 (hk.trans q)
  have h1' : ¬ u.Kind = 1 := fun q => h1 (hk.trans q)
  rw [Zck h0 h1, Zck h0' h1']
  unfold tk
  rw [if_neg h1, if_neg h1']
  by_cases h10 : t.Kind = 10
  · obtain ⟨x, ex⟩ := ha.w1 h10
    obtain ⟨y, ey⟩ := hb.w1 (hk ▸ h10)
    rw [ex, ey, Z2y]
  rw [ha.w0 h1 h10, hb.w0 h1' (fun q => h10 (hk.trans q))]
  rfl
end
section
variable {A B : Ze}
theorem Zou (hA : WS A.segments) (hB : WS B.segments) {F : Zd → Za → Za → Option (Bool × Int × Zd)} {a b : Za} (ha : OKr A a) (hb : OKr B b) {n : Nat} (hn : n ≤ 1073741824) :
    ∀ (ks ls : List Tr) (i : Nat) (c : Int), n = i + ks.length → ks.length = ls.length → (∀ (j : Nat) x, ks[j]? = some x → (Kb A a ((i + j : Nat) : Int)).2 = 0 ∧ Mn A (Kb A a ((i + j : Nat) : Int)).1 x) → (∀ (j : Nat) x, ls[j]? = some x → (Kb B b ((i + j : Nat) : Int)).2 = 0 ∧ Mn B (Kb B b ((i + j : Nat) : Int)).1 x) →
      (∀ x ∈ ks, ∀ p q y (c : Int), Mn A p x → Mn B q y → (nd x : Int) ≤ c → c ≤ 70000 → ∃ c', F ⟨c⟩ p q = some (eqv x y, 0, ⟨c'⟩) ∧ c - nd x ≤ c' ∧ c' ≤ c) → (ndl ks : Int) ≤ c → c ≤ 70000 →
      ∃ c', Zw (Yf F a b (n : Int)) ((i : Int), c) = some (if eqL (ks.map nrm) (ls.map nrm) = true then .inr c' else .inl (0, c')) ∧ c - ndl ks ≤ c' ∧ c' ≤ c
  | [], [], i, c, hi, _, _, _, _, hc, hc2 => by
    refine ⟨c, ?_, by omega, Int.le_refl _⟩
    refine Xa ?_
    unfold Yf
    simp only [List.length_nil, Nat.add_zero] at hi
    subst hi
    simp only
    rw [Zez, cond_false]
    rfl
  | [], y :: ls, i, c, hi, hl, _, _, _, hc, hc2 => by simp at hl
  | x :: ks, [], i, c, hi, hl, _, _, _, hc, hc2 => by simp at hl
  | x :: ks, y :: ls, i, c, hi, hl, hk, hk', ih, hc, hc2 => by
    obtain ⟨a1, a2⟩ := hk 0 x rfl
    obtain ⟨b1, b2⟩ := hk' 0 y rfl
    rw [Nat.add_zero] at a1 a2 b1 b2
    have hnd : (ndl (x :: ks) : Int) = nd x + ndl ks := by unfold ndl; rw [List.map_cons, List.sum_cons]; omega
    rw [hnd] at hc ⊢
    obtain ⟨c1, e1, l1, l2⟩ := ih x (.head _) _ _ y c a2 b2 (by omega) hc2
    simp only [List.length_cons] at hi hl
    have hs : Yf F a b (n : Int) ((i : Int), c) = some (if eqv x y = true then .inl (((i + 1 : Nat) : Int), c1) else .inr (.inl (0, c1))) := by
      unfold Yf
      simp only
      rw [Ze0 (by omega), cond_true, Zj3 hA ha, Option.bind_some, a1, show ((0 : Int) != 0) = false from rfl, cond_false, Zj3 hB hb, Option.bind_some, b1, show ((0 : Int) != 0) = false from rfl, cond_false, e1, Option.bind_some]
      simp only
      rw [show ((0 : Int) != 0) = false from rfl, Q2 (by omega) (by omega)]
      cases eqv x y <;> rfl
    rw [List.map_cons, List.map_cons, Zjl]
    by_cases q : eqv x y = true
    · rw [if_pos q] at hs
      rw [X1 hs]
      obtain ⟨c', f1, f2, f3⟩ := Zou hA hB ha hb hn ks ls (i + 1) c1 (by omega) (by omega) (fun j x hx => by
        have := hk (j + 1) x hx
        rw [show i + 1 + j = i + (j + 1) by omega]
        exact this) (fun j x hx => by
        have := hk' (j + 1) x hx
        rw [show i + 1 + j = i + (j + 1) by omega]
        exact this) (fun z hz => ih z (.tail _ hz)) (by omega) (by omega)
      refine ⟨c', ?_, by omega, by omega⟩
      rw [f1, show eqT (nrm x) (nrm y) = true from q, Bool.true_and]
    rw [if_neg q] at hs
    refine ⟨c1, ?_, by have : 0 ≤ (ndl ks : Int) := by omega
                       omega, l2⟩
    rw [Xa hs, show eqT (nrm x) (nrm y) = false from by unfold eqv at q; simpa using q, Bool.false_and, if_neg (by decide)]
theorem Zw2 (t : Tr) : 1 ≤ nd t := by rw [Zh6]; omega
theorem Zz9 (hA : WS A.segments) (hB : WS B.segments) : ∀ (K : Nat), (∀ a b t u (c : Int), Mn A a t → Mn B b u → 2 * SizeOf.sizeOf t + 1 < K → (nd t : Int) ≤ c → c ≤ 70000 → ∃ c', (Zn K).1 ⟨c⟩ a b = some (eqv t u, 0, ⟨c'⟩) ∧ c - nd t ≤ c' ∧ c' ≤ c) ∧
    (∀ a b t u (c : Int), Mn A a t → Mn B b u → 2 * SizeOf.sizeOf t < K → (tk t).length = (tk u).length → (ndl (tk t) : Int) ≤ c → c ≤ 70000 → ∃ c', (Zn K).2 ⟨c⟩ a b ((tk t).length : Int) = some (eqL ((tk t).map nrm) ((tk u).map nrm), 0, ⟨c'⟩) ∧ c - ndl (tk t) ≤ c' ∧ c' ≤ c)
  | 0 => ⟨fun a b t u c _ _ h => by omega, fun a b t u c _ _ h => by omega⟩
  | K + 1 => by
    obtain ⟨i1, i2⟩ := Zz9 hA hB K
    refine ⟨fun a b t u c ha hb hK hc hc2 => ?_, fun a b t u c ha hb hK hl hc hc2 => ?_⟩
    · show ∃ c', Yu (Zn K).1 (Zn K).2 ⟨c⟩ a b = _ ∧ _
      have hp := Zw2 t
      have hp2 := Zw3 t
      unfold Yu
      simp only
      rw [Zc6 (show ¬ c = 0 by omega), cond_false, show Yj a = some a.kind from rfl, show Yj b = some b.kind from rfl, Option.bind_some, Option.bind_some, ← ha.kd, ← hb.kd, Q2 (x := c - 1) (by omega) (by omega), Znz hA hB ha.ok hb.ok]
      by_cases hk : t.Kind = u.Kind
      · rw [show (t.Kind != u.Kind) = false from bne_eq_false_iff_eq.2 hk, cond_false, Option.bind_some, cond_false, Option.bind_some, Z2c ha hb hk, ← ha.wd, ← hb.wd]
        cases hw : tr (fun x => x == 0) t.Words == tr (fun x => x == 0) u.Words with
        | false => exact ⟨c - 1, rfl, by omega, by omega⟩
        | true =>
          simp only [Bool.not_true, cond_false, Bool.true_and]
          rw [Zjk hA ha, Option.bind_some]
          simp only
          rw [show ((0 : Int) != 0) = false from rfl, cond_false, Zjk hB hb, Option.bind_some]
          simp only
          rw [show ((0 : Int) != 0) = false from rfl, cond_false, Zj7]
          by_cases hl : (tk t).length = (tk u).length
          · rw [show (!((tk t).length == (tk u).length)) = false by simp [hl], cond_false]
            obtain ⟨c', e1, e2, e3⟩ := i2 a b t u (c - 1) ha hb (by omega) hl (by omega) (by omega)
            refine ⟨c', ?_, by omega, by omega⟩
            rw [e1]
            rfl
          rw [show (!((tk t).length == (tk u).length)) = true by simp [hl], cond_true, Zmz _ _ (by simpa using hl)]
          exact ⟨c - 1, rfl, by omega, by omega⟩
      rw [bne_iff_ne.2 hk, cond_true, Option.bind_some, cond_true, Zv9 hk]
      exact ⟨c - 1, rfl, by omega, by omega⟩
    show ∃ c', Yg (Zn K).1 (Zn K).2 ⟨c⟩ a b _ = _ ∧ _
    have hkn := Zea ha.ok
    have hln := ha.ln
    have htk : (tk t).length ≤ t.Kids.length := by
      unfold tk
      split
      · exact Zcc _ _
      exact Nat.le_refl _
    obtain ⟨c', e1, e2, e3⟩ := Zou hA hB (F := (Zn K).1) ha.ok hb.ok (n := (tk t).length) (by omega) (tk t) (tk u) 0 c (by omega) hl (fun j x hx => by
      have := Zrq t hx
      rw [Nat.zero_add]
      exact ⟨ha.er j x this, ha.kid j x this⟩) (fun j x hx => by
      have := Zrq u hx
      rw [Nat.zero_add]
      exact ⟨hb.er j x this, hb.kid j x this⟩) (fun x hx p q y c hp hq h1 h2 => i1 p q x y c hp hq (by have := Zbg (Zn1 hx); omega) h1 h2) hc hc2
    unfold Yg
    rw [show (((0 : Nat)) : Int) = 0 from rfl] at e1
    refine ⟨c', ?_, e2, e3⟩
    simp only
    rw [e1]
    cases eqL ((tk t).map nrm) ((tk u).map nrm) <;> rfl
theorem Zrw : ∀ (k : Nat), LE3 (Zn k).1 (Zn (k + 1)).1 ∧ ∀ x y z w r, (Zn k).2 x y z w = some r → (Zn (k + 1)).2 x y z w = some r
  | 0 => ⟨fun x y z r h => (by cases h), fun x y z w r h => (by cases h)⟩
  | k + 1 => by
    obtain ⟨i1, i2⟩ := Zrw k
    refine ⟨fun x y z r h => ?_, fun x y z w r h => ?_⟩
    · have h' : Yu (Zn k).1 (Zn k).2 x y z = some r := h
      show Yu (Zn (k + 1)).1 (Zn (k + 1)).2 x y z = some r
      unfold Yu at h' ⊢
      refine V7 _ (fun _ h => h) (fun r h => J6 (fun _ h => h) (fun z r h => V7 _ (fun _ h => h) (fun r h => J6 (fun _ h => h) (fun z r h => V7 _ (fun _ h => h) (fun r h => J6 (fun _ h => h) (fun z r h => V7 _ (fun _ h => h) (fun r h => J6 (fun z h => i2 _ _ _ _ _ h) (fun _ _ h => h) h) r h) h) r h) h) r h) h) r h'
    have h' : Yg (Zn k).1 (Zn k).2 x y z w = some r := h
    show Yg (Zn (k + 1)).1 (Zn (k + 1)).2 x y z w = some r
    unfold Yg at h' ⊢
    refine J6 (fun q h => Zkr (fun s q h => ?_) h) (fun _ _ h => h) h'
    unfold Yf at h ⊢
    refine V7 _ (fun r h => J6 (fun _ h => h) (fun z r h => V7 _ (fun _ h => h) (fun r h => J6 (fun _ h => h) (fun z r h => V7 _ (fun _ h => h) (fun r h => J6 (fun q h => i1 _ _ _ _ h) (fun _ _ h => h) h) r h) h) r h) h) (fun _ h => h) q h
theorem Zxp (hA : WS A.segments) (hB : WS B.segments) {a b : Za} {t u : Tr} (ha : Mn A a t) (hb : Mn B b u) (hn : (nd t : Int) ≤ 65537) : K1 a b = some (eqv t u, 0) := by
  obtain ⟨c', e1, _⟩ := (Zz9 hA hB (2 * SizeOf.sizeOf t + 2)).1 a b t u 65537 ha hb (by omega) hn (by omega)
  have : Kt ⟨65537⟩ a b = some (eqv t u, 0, ⟨c'⟩) := Zpf (fun k r h => (Zrw k).1 _ _ _ r h) e1
  unfold K1
  rw [this]
  rfl
end
theorem Z2z {A : Ze} (hw : WS A.segments) (x : K9) (h : (Zvt A x).2.2 = 0) : Mn A (atR A 0 0).1 (Zvt A x).1 ∧ (nd (Zvt A x).1 : Int) ≤ 65537 := by
  have hW : 0 ≤ (Znl x).Weight ∧ (Znl x).Weight ≤ 65536 := Zv2 _ _ (by decide)
  unfold Zvt at h ⊢
  by_cases h1 : (atR A 0 0).2 ≠ 0
  · rw [if_pos h1] at h; exact absurd h h1
  rw [if_neg h1] at h ⊢
  simp only at h ⊢
  by_cases hq : (Zip A (Znl x).Depth.toNat (atR A 0 0).1 (Znl x).Weight).2.2 ≠ 0
  · rw [if_pos hq] at h; exact absurd h hq
  rw [if_neg hq] at h ⊢
  obtain ⟨a1, a2, a3⟩ := Zzb hw (Znl x).Depth.toNat (atR A 0 0).1 (Znl x).Weight (Zi8 0 0) hW.1 (by omega)
  exact ⟨a1, by simp only; omega⟩
theorem Zjn (t : Tr) : eqv t t = true := Zv7 _
theorem Zov (t u : Tr) : eqv t u = eqv u t := Zv6 _ _
theorem Zwa {t u v : Tr} (h : eqv t u = true) : eqv t v = eqv u v := by
  unfold eqv at *
  rw [eqT_iff.1 h]
def mx (s n : Int) : Int := IntKind.u64.wrap (Gu .u64 (IntKind.u64.wrap ((IntKind.u64.wrap (Gu .u64 s n)) * 11400714819323198485)) (Int.fdiv (IntKind.u64.wrap ((IntKind.u64.wrap (Gu .u64 s n)) * 11400714819323198485)) (2 ^ min (Int.toNat 32) 64)))
theorem Zrj (s c n : Int) : Xk ⟨s, c⟩ n = some ⟨mx s n, c⟩ := rfl
noncomputable def hxN : Nat → Tr → Int → Int
  | 0, _, s => s
  | k + 1, t, s => if t.Kind = 0 then mx (mx (mx s (IntKind.u64.wrap 0)) (IntKind.u64.wrap ((0 : Nat) : Int))) (IntKind.u64.wrap ((0 : Nat) : Int))
    else (tk t).foldl (fun s x => hxN k x s) ((tr (fun x => x == 0) t.Words).foldl mx (mx (mx (mx s (IntKind.u64.wrap t.Kind)) (IntKind.u64.wrap ((tk t).length : Int))) (IntKind.u64.wrap ((tr (fun x => x == 0) t.Words).length : Int))))
theorem Zpc (k : Nat) (t : Tr) (s : Int) : hxN (k + 1) t s = if t.Kind = 0 then mx (mx (mx s (IntKind.u64.wrap 0)) (IntKind.u64.wrap ((0 : Nat) : Int))) (IntKind.u64.wrap ((0 : Nat) : Int))
    else (tk t).foldl (fun s x => hxN k x s) ((tr (fun x => x == 0) t.Words).foldl mx (mx (mx (mx s (IntKind.u64.wrap t.Kind)) (IntKind.u64.wrap ((tk t).length : Int))) (IntKind.u64.wrap ((tr (fun x => x == 0) t.Words).length : Int)))) := by
  rw [hxN]
theorem Zfn {α σ : Type} {f g : σ → α → σ} : ∀ (l : List α) (s : σ), (∀ x ∈ l, ∀ s, f s x = g s x) → l.foldl f s = l.foldl g s
  | [], _, _ => rfl
  | x :: l, s, h => by
    rw [List.foldl_cons, List.foldl_cons, h x (.head _)]
    exact Zfn l _ fun y hy => h y (.tail _ hy)
theorem Zj2 : ∀ (k k' : Nat) (t : Tr) (s : Int), SizeOf.sizeOf t < k → SizeOf.sizeOf t < k' → hxN k t s = hxN k' t s
  | 0, _, _, _, h, _ => by omega
  | _ + 1, 0, _, _, _, h => by omega
  | k + 1, k' + 1, t, s, h, h' => by
    unfold hxN
    split
    · rfl
    exact Zfn _ _ fun x hx s => Zj2 k k' x s (by have := Zbg (Zn1 hx); omega) (by have := Zbg (Zn1 hx); omega)
theorem Z2x {t : Tr} (h0 : ¬ t.Kind = 0) : tk (nrm t) = (tk t).map nrm := by
  unfold tk
  rw [Vn]
  by_cases h1 : t.Kind = 1
  · rw [if_pos h1, if_pos h1, Zc8 h1]
    simp only
    rw [Zyh]
    exact Zrs (p := fun x : Tr => x.Kind == 0) (q := fun x : Tr => x.Kind == 0) (f := nrm) (fun x => by simp only [Vn]) t.Kids
  rw [if_neg h1, if_neg h1, Zck h0 h1]
theorem Znf : ∀ (k : Nat) (t : Tr) (s : Int), hxN k (nrm t) s = hxN k t s
  | 0, _, _ => rfl
  | k + 1, t, s => by
    unfold hxN
    rw [Vn]
    by_cases h0 : t.Kind = 0
    · rw [if_pos h0, if_pos h0]
    rw [if_neg h0, if_neg h0, Z2x h0, List.length_map, List.foldl_map]
    have ew : tr (fun x => x == 0) (nrm t).Words = tr (fun x => x == 0) t.Words := by
      by_cases h1 : t.Kind = 1
      · rw [Zc8 h1]
        exact Zyh _
      rw [Zck h0 h1]
    rw [ew]
    exact Zfn _ _ fun x _ s => Znf k x s
noncomputable def hx (t : Tr) : Int := hxN (SizeOf.sizeOf t + 1) t 0
theorem Zwk {t u : Tr} (h : eqv t u = true) : hx t = hx u := by
  unfold eqv at h
  have e := eqT_iff.1 h
  have a := Znf (SizeOf.sizeOf t + SizeOf.sizeOf u + 1) t 0
  have b := Znf (SizeOf.sizeOf t + SizeOf.sizeOf u + 1) u 0
  rw [e] at a
  unfold hx
  rw [Zj2 (SizeOf.sizeOf t + 1) (SizeOf.sizeOf t + SizeOf.sizeOf u + 1) t 0 (by omega) (by omega), Zj2 (SizeOf.sizeOf u + 1) (SizeOf.sizeOf t + SizeOf.sizeOf u + 1) u 0 (by omega) (by omega), ← a, ← b]
section
variable {A : Ze}
theorem Zhy {α σ : Type} (g : σ → α → σ) : ∀ (l : List α) (s : σ) (i : Nat), Zlx (fun s _ x => g s x) s i l = l.foldl g s
  | [], _, _ => rfl
  | x :: l, s, i => Zhy g l (g s x) (i + 1)
theorem Zvg (hw : WS A.segments) {r : Za} {t : Tr} (h : Mn A r t) (s c : Int) : X0 r ⟨s, c⟩ = some ⟨(tr (fun x => x == 0) t.Words).foldl mx (mx s (IntKind.u64.wrap ((tr (fun x => x == 0) t.Words).length : Int))), c⟩ := by
  unfold X0
  rw [Znm hw h.ok, Option.bind_some, Zrj, Option.bind_some, ← h.wd]
  have hle := Zcc (fun x : Int => x == 0) t.Words
  have hl2 : t.Words.length ≤ 65536 := by rw [h.wd]; exact Zhm h.ok
  have main := (Znn (tr (fun x => x == 0) t.Words) (fun i (s : Int) => (i, s, c)) (fun s => (s, c)) (Xe r ((tr (fun x => x == 0) t.Words).length : Int)) (fun s _ x => mx s x) (fun _ _ => True) (by omega) (fun i s x hi hx _ _ => by
    refine ⟨?_, trivial⟩
    obtain ⟨hj, he⟩ := Zn6 (p := fun x : Int => x == 0) (l := t.Words) hi
    have hj' : i < (Ys A r).length := by rw [← h.wd]; exact hj
    have hwr : Zmt A r (i : Int) = x := by
      rw [← Zex hw h.ok hj']
      rw [hx] at he
      have h2 : (Ys A r)[i]? = some x := by rw [← h.wd, List.getElem?_eq_getElem hj]; exact he.symm
      rw [List.getElem?_eq_getElem hj'] at h2
      exact Option.some.inj h2
    unfold Xe
    simp only
    rw [Ze0 hi, cond_true, Zi2 hw h.ok, Option.bind_some, hwr, Zrj]
    rfl) (fun s _ => by
    unfold Xe
    simp only
    rw [Zez, cond_false]) (mx s (IntKind.u64.wrap ((tr (fun x => x == 0) t.Words).length : Int))) trivial).1
  simp only
  rw [main, Zhy mx]
  rfl
theorem Zjz (hw : WS A.segments) {F : Zm → Za → Option (Int × Zm)} {H : Tr → Int → Int} {r : Za} {t : Tr} (h : Mn A r t)
    (hF : ∀ x ∈ tk t, ∀ (q : Za) (s c : Int), Mn A q x → (nd x : Int) ≤ c → c ≤ 70000 → ∃ c', F ⟨s, c⟩ q = some (0, ⟨H x s, c'⟩) ∧ c - nd x ≤ c' ∧ c' ≤ c) (hn : (tk t).length ≤ 1073741824) :
    ∀ (l pre : List Tr) (s c : Int), tk t = pre ++ l → (ndl l : Int) ≤ c → c ≤ 70000 → ∃ c', Zw (X5 F r (((tk t).length : Int), 0)) (((pre.length : Nat) : Int), s, c) = some (.inr (l.foldl (fun s x => H x s) s, c')) ∧ c - ndl l ≤ c' ∧ c' ≤ c
  | [], pre, s, c, hp, _, _ => by
    rw [List.append_nil] at hp
    refine ⟨c, Xa ?_, by simp [ndl], Int.le_refl _⟩
    unfold X5
    simp only
    rw [hp, Zez, cond_false]
    rfl
  | x :: l, pre, s, c, hp, hc, hc2 => by
    have hx : (tk t)[pre.length]? = some x := by rw [hp, List.getElem?_append_right (Nat.le_refl _), Nat.sub_self]; rfl
    have hi : pre.length < (tk t).length := by rw [hp]; simp
    have hsum : ndl (x :: l) = nd x + ndl l := by simp [ndl]
    have hxk := Zrq t hx
    obtain ⟨c1, e1, e2, e3⟩ := hF x (List.mem_of_getElem? hx) _ s c (h.kid _ _ hxk) (by omega) hc2
    obtain ⟨c2, f1, f2, f3⟩ := Zjz hw h hF hn l (pre ++ [x]) (H x s) c1 (by rw [hp]; simp) (by omega) (by omega)
    rw [List.length_append, List.length_singleton] at f1
    refine ⟨c2, (X1 ?_).trans f1, by omega, by omega⟩
    unfold X5
    simp only
    rw [Ze0 hi, cond_true, Zj3 hw h.ok, Option.bind_some, h.er _ _ hxk, show ((0 : Int) != 0) = false from rfl, cond_false, e1, Option.bind_some]
    simp only
    rw [show ((0 : Int) != 0) = false from rfl, cond_false, Q2 (by omega) (by omega)]
    rfl
theorem Zy9 (hw : WS A.segments) : ∀ (K : Nat) (t : Tr) (r : Za) (s c : Int), Mn A r t → SizeOf.sizeOf t < K → (nd t : Int) ≤ c → c ≤ 70000 → ∃ c', Z8 K ⟨s, c⟩ r = some (0, ⟨hxN K t s, c'⟩) ∧ c - nd t ≤ c' ∧ c' ≤ c := fun K => by
  induction K with
  | zero =>
    intro t r s c _ h _ _
    omega
  | succ K ih =>
    intro t r s c h hK hc hc2
    have hp := Zw2 t
    have htk := Zw3 t
    have hkn := Zea h.ok
    have hln := h.ln
    have htl : (tk t).length ≤ t.Kids.length := by
      unfold tk
      split
      · exact Zcc _ _
      exact Nat.le_refl _
    show ∃ c', Y0 (Z8 K) ⟨s, c⟩ r = _ ∧ _
    unfold Y0
    simp only
    obtain ⟨c', e1, e2, e3⟩ := Zjz hw (F := Z8 K) (H := fun x s => hxN K x s) h (fun x hx q s c hq hc hc2 => ih x q s c hq (by have := Zbg (Zn1 hx); omega) hc hc2) (by omega) (tk t) []
      ((tr (fun x => x == 0) t.Words).foldl mx (mx (mx (mx s (IntKind.u64.wrap t.Kind)) (IntKind.u64.wrap ((tk t).length : Int))) (IntKind.u64.wrap ((tr (fun x => x == 0) t.Words).length : Int)))) (c - 1) rfl (by omega) (by omega)
    rw [show (((([] : List Tr).length : Nat)) : Int) = 0 from rfl] at e1
    have eh : hxN (K + 1) t s = (tk t).foldl (fun s x => hxN K x s) ((tr (fun x => x == 0) t.Words).foldl mx (mx (mx (mx s (IntKind.u64.wrap t.Kind)) (IntKind.u64.wrap ((tk t).length : Int))) (IntKind.u64.wrap ((tr (fun x => x == 0) t.Words).length : Int)))) := by
      rw [Zpc]
      by_cases h0 : t.Kind = 0
      · have k0 := h.k0 h0
        have w0 := h.w0 (by omega) (by omega)
        have tk0 : tk t = [] := by unfold tk; rw [if_neg (by omega), k0]
        rw [if_pos h0, tk0, w0, h0]
        simp only [tr, List.foldl_nil, List.length_nil]
      rw [if_neg h0]
    have hwo := Zvg hw h
    have hM0 := Zrj
    rw [eh]
    clear eh ih
    obtain ⟨Y, hY⟩ : ∃ Y : Tr → Int → Int, (fun x s => hxN K x s) = Y := ⟨_, rfl⟩
    rw [show (fun (s : Int) (x : Tr) => hxN K x s) = fun s x => Y x s from by rw [← hY]] at e1 ⊢
    obtain ⟨M, hM⟩ : ∃ M, Xk = M := ⟨_, rfl⟩
    obtain ⟨X, hX⟩ : ∃ X, mx = X := ⟨_, rfl⟩
    rw [hX] at e1 ⊢
    rw [hM] at hM0 ⊢
    rw [hX] at hM0 hwo
    clear hM hX hY
    rw [Zc6 (show ¬ c = 0 by omega), cond_false, Zjk hw h, Option.bind_some, show Yj r = some r.kind from rfl]
    simp only [Option.bind_some]
    rw [show ((0 : Int) != 0) = false from rfl, cond_false, Q2 (x := c - 1) (by omega) (by omega), hM0]
    simp only [Option.bind_some]
    rw [hM0]
    simp only [Option.bind_some]
    rw [hwo, ← h.kd]
    simp only [Option.bind_some]
    rw [e1]
    exact ⟨c', rfl, by omega, by omega⟩
theorem Zl0 : ∀ (k : Nat) c r v, Z8 k c r = some v → Z8 (k + 1) c r = some v
  | 0, c, r, v, h => by cases h
  | k + 1, c, r, v, h => by
    have h' : Y0 (Z8 k) c r = some v := h
    show Y0 (Z8 (k + 1)) c r = some v
    unfold Y0 at h' ⊢
    refine V7 _ (fun _ q => q) (fun _ => J6 (fun _ q => q) fun y => V7 _ (fun _ q => q) fun _ => J6 (fun _ q => q) fun u _ => J6 (fun _ q => q) fun w _ => J6 (fun _ q => q) fun z _ => J6 (fun _ q => q) fun a _ => J6 (fun x => Zkr fun s y q => ?_) fun _ _ q => q) v h'
    exact V7 _ (fun _ => J6 (fun _ q => q) fun u => V7 _ (fun _ q => q) fun _ => J6 (fun x q => Zl0 k _ _ x q) fun _ _ q => q) (fun _ q => q) y q
theorem Zza (hw : WS A.segments) {t : Tr} {r : Za} (h : Mn A r t) (hn : (nd t : Int) ≤ 65537) : Uf r = some (hx t, 0) := by
  obtain ⟨c', e1, e2, e3⟩ := Zy9 hw (SizeOf.sizeOf t + 1) t r 0 65537 h (by omega) hn (by decide)
  have e : K2 ⟨0, 65537⟩ r = some (0, ⟨hx t, c'⟩) := Zpf (F := fun k => Z8 k ⟨0, 65537⟩ r) (fun k x => Zl0 k _ _ x) e1
  unfold Uf
  rw [e, Option.bind_some]
  rfl
end
theorem Zwy {α β : Type} (xs : List α) (f : α → β) (step : Int × List β → Option ((Int × List β) ⊕ List β)) (acc : List β) (hl : (xs.length : Int) ≤ 140737488355328)
    (h1 : ∀ (i : Nat) (x : α) (out : List β), i < xs.length → xs[i]? = some x → x ∈ xs → out.length = acc.length + i → step ((i : Int), out) = some (.inl (IntKind.i64.wrap ((i : Int) + 1), out ++ [f x])))
    (h2 : ∀ out, step ((xs.length : Int), out) = some (.inr out)) : Zw step (0, acc) = some (acc ++ xs.map f) := by
  have key : ∀ m i, i + m = xs.length → Zw step ((i : Int), acc ++ (xs.take i).map f) = some (acc ++ xs.map f) := fun m => by
    induction m with
    | zero =>
      intro i hi
      have hi' : i = xs.length := by omega
      subst hi'
      rw [List.take_length]
      exact Xa (h2 _)
    | succ m ih =>
      intro i hi
      have hx : xs[i]? = some xs[i] := List.getElem?_eq_getElem (by omega)
      have h := h1 i _ (acc ++ (xs.take i).map f) (by omega) hx (List.mem_of_getElem? hx) (by rw [List.length_append, List.length_map, List.length_take]; omega)
      rw [Q2 (by omega) (by omega)] at h
      rw [X1 h]
      have e : acc ++ (xs.take i).map f ++ [f xs[i]] = acc ++ (xs.take (i + 1)).map f := by
        rw [List.take_add_one, hx, List.map_append, List.append_assoc]
        rfl
      rw [e]
      exact ih (i + 1) (by omega)
  have := key xs.length 0 (by omega)
  simpa using this
theorem Zek {R : Type} {step : Int → Option (Int ⊕ R)} {r : R} (p : Nat → Int) (m : Nat) (h1 : ∀ k, k < m → step (p k) = some (.inl (p (k + 1)))) (h2 : step (p m) = some (.inr r)) : Zw step (p 0) = some r := by
  have key : ∀ d k, k + d = m → Zw step (p k) = some r := fun d => by
    induction d with
    | zero =>
      intro k hk
      have : k = m := by omega
      subst this
      exact Xa h2
    | succ d ih =>
      intro k hk
      rw [X1 (h1 k (by omega))]
      exact ih (k + 1) (by omega)
  exact key m 0 (by omega)
theorem Z0e {p : Nat → Prop} (dp : ∀ k, p k ∨ ¬ p k) : ∀ n, p n → ∃ m, m ≤ n ∧ p m ∧ ∀ j, j < m → ¬ p j := fun n => by
  induction n using Nat.strongRecOn with
  | ind n ih =>
    intro h
    by_cases q : ∃ j, j < n ∧ p j
    · obtain ⟨j, hj, pj⟩ := q
      obtain ⟨m, h1, h2, h3⟩ := ih j hj pj
      exact ⟨m, by omega, h2, h3⟩
    exact ⟨n, Nat.le_refl _, h, fun j hj pj => q ⟨j, hj, pj⟩⟩
def pat (pl : List Int) (h : Int) (k : Nat) : Int := (pl[(h.toNat + k) % pl.length]?).getD 0
def nz (pl : List Int) : Nat := pl.countP fun x => !(x == 0)
structure PRt (hs : List Int) (pl : List Int) : Prop where
  rng : ∀ x ∈ pl, 0 ≤ x ∧ x ≤ hs.length
  fnd : ∀ (i : Nat) (h : Int), hs[i]? = some h → ∃ k, pat pl h k = (i : Int) + 1 ∧ ∀ j, j < k → pat pl h j ≠ 0
  cnt : nz pl ≤ hs.length
theorem Zzl {pl : List Int} (h : nz pl < pl.length) : ∃ q, q < pl.length ∧ pl[q]? = some 0 := by
  induction pl with
  | nil => simp at h
  | cons x pl ih =>
    by_cases hx : x = 0
    · subst hx
      exact ⟨0, by simp, rfl⟩
    have e : nz (x :: pl) = nz pl + 1 := by
      unfold nz
      rw [List.countP_cons_of_pos (by simp [hx])]
    rw [e, List.length_cons] at h
    obtain ⟨q, h1, h2⟩ := ih (by omega)
    exact ⟨q + 1, by rw [List.length_cons]; omega, by simpa using h2⟩
theorem Zw7 : ∀ (pl : List Int) (q : Nat) (v : Int), nz (pl.set q v) ≤ nz pl + 1
  | [], q, v => by simp [nz]
  | x :: pl, 0, v => by
    unfold nz
    rw [List.set_cons_zero, List.countP_cons, List.countP_cons]
    split <;> split <;> omega
  | x :: pl, q + 1, v => by
    have := Zw7 pl q v
    unfold nz at this ⊢
    rw [List.set_cons_succ, List.countP_cons, List.countP_cons]
    omega
theorem Zpy {hs pl : List Int} (hP : PRt hs pl) (hn : hs.length < pl.length) (h : Int) : ∃ Z, pat pl h Z = 0 ∧ ∀ j, j < Z → pat pl h j ≠ 0 := by
  obtain ⟨q, h1, h2⟩ := Zzl (pl := pl) (by have := hP.cnt; omega)
  obtain ⟨Z, _, h3, h4⟩ := Z0e (p := fun k => pat pl h k = 0) (fun k => Decidable.em _) (q + (pl.length - h.toNat % pl.length)) (by
    have hm := Nat.mod_lt h.toNat (show 0 < pl.length by omega)
    have e : (h.toNat + (q + (pl.length - h.toNat % pl.length))) % pl.length = q := by
      have d := Nat.div_add_mod h.toNat pl.length
      have : h.toNat + (q + (pl.length - h.toNat % pl.length)) = q + pl.length * (h.toNat / pl.length + 1) := by
        rw [Nat.mul_add, Nat.mul_one]
        omega
      rw [this, Nat.add_mul_mod_self_left, Nat.mod_eq_of_lt h1]
    unfold pat
    rw [e, h2]
    rfl)
  exact ⟨Z, h3, h4⟩
theorem Zeq {pl : List Int} (hp : 0 < pl.length) (h : Int) (k : Nat) : pl[(h.toNat + k) % pl.length]? = some (pat pl h k) := by
  have := List.getElem?_eq_getElem (Nat.mod_lt (h.toNat + k) hp) (l := pl)
  unfold pat
  rw [this]
  rfl
theorem Ziy {pl : List Int} (hp : 0 < pl.length) (h g : Int) (k Z : Nat) (v : Int) : pat (pl.set ((g.toNat + Z) % pl.length) v) h k = if (h.toNat + k) % pl.length = (g.toNat + Z) % pl.length then v else pat pl h k := by
  unfold pat
  rw [List.length_set, List.getElem?_set]
  by_cases e : (g.toNat + Z) % pl.length = (h.toNat + k) % pl.length
  · rw [if_pos e, if_pos e.symm, if_pos (Nat.mod_lt _ hp)]
    rfl
  rw [if_neg e, if_neg (fun q => e q.symm)]
theorem PRt.push {hs pl : List Int} (hP : PRt hs pl) (hp : 0 < pl.length) {g : Int} {Z : Nat} (hz : pat pl g Z = 0) (hl : ∀ j, j < Z → pat pl g j ≠ 0) : PRt (hs ++ [g]) (pl.set ((g.toNat + Z) % pl.length) ((hs.length : Int) + 1)) := by
  refine ⟨fun x hx => ?_, fun i h hi => ?_, ?_⟩
  · rw [List.length_append, List.length_singleton]
    rcases List.mem_or_eq_of_mem_set hx with q | q
    · have := hP.rng x q
      omega
    omega
  · by_cases hlt : i < hs.length
    · rw [List.getElem?_append_left hlt] at hi
      obtain ⟨k, h1, h2⟩ := hP.fnd i h hi
      have far : ∀ j, pat pl h j ≠ 0 → ¬ (h.toNat + j) % pl.length = (g.toNat + Z) % pl.length := fun j hj e => by
        unfold pat at hz hj
        rw [e] at hj
        exact hj hz
      refine ⟨k, ?_, fun j hj => ?_⟩
      · rw [Ziy hp, if_neg (far k (by omega))]
        exact h1
      rw [Ziy hp, if_neg (far j (h2 j hj))]
      exact h2 j hj
    rw [List.getElem?_append_right (by omega)] at hi
    have hi0 : i - hs.length = 0 := by
      rcases Nat.eq_zero_or_pos (i - hs.length) with q | q
      · exact q
      rw [List.getElem?_eq_none (by simp; omega)] at hi
      cases hi
    rw [hi0] at hi
    have hg : g = h := by simpa using hi
    subst hg
    refine ⟨Z, ?_, fun j hj => ?_⟩
    · rw [Ziy hp, if_pos rfl]
      omega
    rw [Ziy hp]
    split
    · omega
    exact hl j hj
  have := Zw7 pl ((g.toNat + Z) % pl.length) ((hs.length : Int) + 1)
  have := hP.cnt
  rw [List.length_append, List.length_singleton]
  omega
theorem PRt.empty (P : Nat) : PRt [] (List.replicate P 0) := by
  refine ⟨fun x hx => ?_, fun i h hi => by simp at hi, ?_⟩
  · rw [(List.mem_replicate.1 hx).2]
    simp
  unfold nz
  rw [List.countP_replicate]
  simp
theorem Z2q (s n : Int) : 0 ≤ mx s n ∧ mx s n < 18446744073709551616 := by
  unfold mx
  generalize Gu _ _ _ = z
  exact ⟨Int.emod_nonneg _ (by decide), Int.emod_lt_of_pos _ (by decide)⟩
theorem Zm5 {α : Type} {f : Int → α → Int} (hf : ∀ s x, (0 ≤ s ∧ s < 18446744073709551616) → 0 ≤ f s x ∧ f s x < 18446744073709551616) : ∀ (l : List α) (s : Int), (0 ≤ s ∧ s < 18446744073709551616) → 0 ≤ l.foldl f s ∧ l.foldl f s < 18446744073709551616
  | [], _, h => h
  | x :: l, s, h => Zm5 hf l _ (hf s x h)
theorem Z0c : ∀ (k : Nat) (t : Tr) (s : Int), (0 ≤ s ∧ s < 18446744073709551616) → 0 ≤ hxN k t s ∧ hxN k t s < 18446744073709551616
  | 0, _, _, h => h
  | k + 1, t, s, h => by
    rw [Zpc]
    split
    · exact Z2q _ _
    exact Zm5 (fun s x hs => Z0c k x s hs) _ _ (Zm5 (fun s x _ => Z2q s x) _ _ (Z2q _ _))
theorem Z3b (t : Tr) : 0 ≤ hx t ∧ hx t < 18446744073709551616 := Z0c _ t 0 (by decide)
theorem Zow {cl : List Zi} {pl : List Int} {h : Int} (hp : 0 < pl.length) (hl : pl.length ≤ 1000000000) (hh : 0 ≤ h) : Xl (some ⟨cl, pl⟩) h = some (((h.toNat + 0) % pl.length : Nat) : Int) := by
  have e : IntKind.u64.wrap (pl.length : Int) = (pl.length : Int) := IntWalk.u64_in _ (by omega)
  have hm := Nat.mod_lt h.toNat hp
  unfold Xl
  rw [Option.bind_some]
  simp only
  rw [e]
  unfold Qs
  rw [if_pos (by omega), Option.bind_some, Int.tmod_eq_emod_of_nonneg hh, Nat.add_zero]
  have : h % (pl.length : Int) = ((h.toNat % pl.length : Nat) : Int) := by
    rw [Int.natCast_emod, Int.toNat_of_nonneg hh]
  rw [this, Q2 (by omega) (by omega)]
theorem Zsz {cl : List Zi} {pl : List Int} {h : Int} (hp : 0 < pl.length) (hl : pl.length ≤ 1000000000) (k : Nat) : Qj (some ⟨cl, pl⟩) (((h.toNat + k) % pl.length : Nat) : Int) = some (((h.toNat + (k + 1)) % pl.length : Nat) : Int) := by
  have hm := Nat.mod_lt (h.toNat + k) hp
  unfold Qj
  rw [Option.bind_some]
  simp only
  unfold Qs
  rw [if_pos (by omega), Option.bind_some, Q2 (by omega) (by omega)]
  have : ((((h.toNat + k) % pl.length : Nat) : Int) + 1) = ((((h.toNat + k) % pl.length + 1 : Nat)) : Int) := by omega
  rw [this, Int.tmod_eq_emod_of_nonneg (by omega), ← Int.natCast_emod]
  congr 2
  rw [Nat.add_mod, Nat.mod_mod, ← Nat.add_mod, Nat.add_assoc]
theorem Zy8 {cl : List Zi} {pl : List Int} (hh : ∀ m ∈ cl, 0 ≤ m.hash) (hc : cl.length ≤ 1000000) (hp : pl.length ≤ 4000016) (hb : 2 * cl.length ≤ pl.length + 1) : ∃ pl', Qi ⟨cl, pl⟩ = some ⟨cl, pl'⟩ ∧ PRt (cl.map (·.hash)) pl' ∧ pl'.length = (if 16 < 2 * pl.length then 2 * pl.length else 16) := by
  obtain ⟨P, hP⟩ : ∃ P, P = if 16 < 2 * pl.length then 2 * pl.length else 16 := ⟨_, rfl⟩
  have hP1 : 2 * cl.length < P := by rw [hP]; split <;> omega
  have hP2 : P ≤ 8000032 := by rw [hP]; split <;> omega
  have e : (if 16 < (IntKind.i64.wrap (2 * (pl.length : Int))) then (IntKind.i64.wrap (2 * (pl.length : Int))) else 16) = (P : Int) := by
    rw [Q2 (by omega) (by omega), hP]
    split <;> split <;> omega
  have loop := Znn cl (fun i (s : List Int) => (i, s)) (fun s => s) (Qe ⟨cl, pl⟩) (fun s i m => s.set ((m.hash.toNat + (Classical.choose (p := fun Z => ∀ hs, PRt hs s → hs.length < s.length → pat s m.hash Z = 0 ∧ ∀ j, j < Z → pat s m.hash j ≠ 0) (by
      by_cases q : ∃ hs, PRt hs s ∧ hs.length < s.length
      · obtain ⟨hs, h1, h2⟩ := q
        obtain ⟨Z, h3, h4⟩ := Zpy h1 h2 m.hash
        exact ⟨Z, fun _ _ _ => ⟨h3, h4⟩⟩
      exact ⟨0, fun hs h1 h2 => absurd ⟨hs, h1, h2⟩ q⟩))) % s.length) ((i : Int) + 1)) (fun i s => PRt ((cl.take i).map (·.hash)) s ∧ s.length = P) (by omega) (fun i s m hi hx hm hI => by
    obtain ⟨i1, i2⟩ := hI
    have hlen : ((cl.take i).map (·.hash)).length = i := by rw [List.length_map, List.length_take]; omega
    generalize hch : Classical.choose _ = Z
    have hz : pat s m.hash Z = 0 ∧ ∀ j, j < Z → pat s m.hash j ≠ 0 := by
      rw [← hch]
      exact Classical.choose_spec (p := fun Z => ∀ hs, PRt hs s → hs.length < s.length → pat s m.hash Z = 0 ∧ ∀ j, j < Z → pat s m.hash j ≠ 0) _ _ i1 (by omega)
    clear hch
    have sp : 0 < s.length := by omega
    have sl : s.length ≤ 1000000000 := by omega
    refine ⟨?_, ?_, by rw [List.length_set]; exact i2⟩
    · unfold Qe
      simp only
      rw [Ze0 hi, cond_true, X8 hx, Option.bind_some, Zow sp sl (hh m hm), Option.bind_some]
      have inner := Zek (step := Qf ⟨cl, pl⟩ ((i : Int), s)) (fun k => (((m.hash.toNat + k) % s.length : Nat) : Int)) Z (r := (((m.hash.toNat + Z) % s.length : Nat) : Int)) (fun k hk => by
        unfold Qf
        simp only
        rw [X8 (Zeq sp m.hash k), Option.bind_some, bne_iff_ne.2 (hz.2 k hk), cond_true, Zsz sp sl k]
        rfl) (by
        unfold Qf
        simp only
        rw [X8 (Zeq sp m.hash Z), Option.bind_some, hz.1]
        rfl)
      rw [inner, Option.bind_some, X8 (Zeq sp m.hash Z), Option.bind_some, Q2 (by omega) (by omega)]
      unfold Zbo
      rw [Int.toNat_natCast]
    · have := i1.push sp hz.1 hz.2
      rw [hlen] at this
      rw [List.take_add_one, hx, List.map_append]
      exact this) (fun s _ => by
    unfold Qe
    simp only
    rw [Zez, cond_false]) (List.replicate P 0) ⟨by simpa using PRt.empty P, by simp⟩
  obtain ⟨l1, l2, l3⟩ := loop
  refine ⟨_, ?_, ?_, l3.trans hP⟩
  · unfold Qi
    simp only
    rw [e, Zpq (by omega) (by omega) (by omega), Option.bind_some, Int.toNat_natCast]
    rw [show ((0 : Int), List.replicate P (0 : Int)) = (fun i (s : List Int) => (i, s)) 0 (List.replicate P 0) from rfl, l1]
    rfl
  rw [List.take_length] at l2
  exact l2
def VT (r : Za) (t : Tr) : Prop := ∃ A : Ze, WS A.segments ∧ Mn A r t ∧ (nd t : Int) ≤ 65537
def fi : List Tr → Tr → Nat
  | [], _ => 0
  | u :: l, t => if eqv u t = true then 0 else fi l t + 1
theorem Zrx : ∀ (l : List Tr) (t : Tr), fi l t ≤ l.length
  | [], _ => Nat.le_refl _
  | u :: l, t => by
    have := Zrx l t
    unfold fi
    rw [List.length_cons]
    split <;> omega
theorem Zwb : ∀ {l : List Tr} {t : Tr}, fi l t < l.length → ∃ u, l[fi l t]? = some u ∧ eqv u t = true
  | [], _, h => by simp at h
  | u :: l, t, h => by
    unfold fi at h ⊢
    by_cases q : eqv u t = true
    · rw [if_pos q]
      exact ⟨u, rfl, q⟩
    rw [if_neg q, List.length_cons] at h
    rw [if_neg q]
    obtain ⟨v, h1, h2⟩ := Zwb (l := l) (t := t) (by omega)
    exact ⟨v, by simpa using h1, h2⟩
theorem Zm0 : ∀ {l : List Tr} {t : Tr} {j : Nat} {u : Tr}, j < fi l t → l[j]? = some u → eqv u t = false
  | [], _, _, _, _, hu => by simp at hu
  | v :: l, t, j, u, h, hu => by
    unfold fi at h
    by_cases q : eqv v t = true
    · rw [if_pos q] at h; omega
    rw [if_neg q] at h
    cases j with
    | zero =>
      have : v = u := by simpa using hu
      subst this
      simpa using q
    | succ j => exact Zm0 (l := l) (t := t) (j := j) (by omega) (by simpa using hu)
def nxt (ts : List Tr) (t : Tr) : List Tr := if fi ts t < ts.length then ts else ts ++ [t]
structure TI (cl : List Zi) (pl : List Int) (ts : List Tr) : Prop where
  len : cl.length = ts.length
  mem : ∀ (i : Nat) (m : Zi) (t : Tr), cl[i]? = some m → ts[i]? = some t → VT m.r t ∧ m.hash = hx t
  dif : ∀ (i j : Nat) (t u : Tr), i < j → ts[i]? = some t → ts[j]? = some u → eqv t u = false
  plc : PRt (cl.map (·.hash)) pl
  few : 2 * cl.length ≤ pl.length + 1
  siz : pl.length ≤ 4 * cl.length + 16
theorem TI.empty : TI [] [] [] := ⟨rfl, fun i m t h => by simp at h, fun i j t u _ h => by simp at h, PRt.empty 0, by simp, by simp⟩
theorem TI.one {cl : List Zi} {pl : List Int} {ts : List Tr} (h : TI cl pl ts) {i j : Nat} {a b t : Tr} (ha : ts[i]? = some a) (hb : ts[j]? = some b) (e1 : eqv a t = true) (e2 : eqv b t = true) : i = j := by
  have e : eqv a b = true := by rw [Zwa e1, Zov]; exact e2
  rcases Nat.lt_trichotomy i j with q | q | q
  · rw [h.dif i j a b q ha hb] at e; cases e
  · exact q
  have := h.dif j i b a q hb ha
  rw [Zov, e] at this
  cases this
theorem Zw0 {m : Zi} {u : Tr} (hv : VT m.r u) (hh : m.hash = hx u) {r : Za} {t : Tr} (hr : VT r t) : Q8 m ⟨hx t, r⟩ = some (eqv u t, 0) := by
  obtain ⟨A, a1, a2, a3⟩ := hv
  obtain ⟨B, b1, b2, b3⟩ := hr
  unfold Q8
  simp only
  rw [hh]
  by_cases e : hx u = hx t
  · rw [show (hx u != hx t) = false from by rw [e]; simp, cond_false, Zxp a1 b1 a2 b2 a3]
    rfl
  rw [bne_iff_ne.2 e, cond_true]
  cases q : eqv u t with
  | false => rfl
  | true => exact absurd (Zwk q) e
theorem Zv3 {cl : List Zi} {pl : List Int} {ts : List Tr} (hI : TI cl pl ts) {r : Za} {t : Tr} (hv : VT r t) (hn : cl.length ≤ 100000) : ∃ cl' pl', Q7 ⟨cl, pl⟩ ⟨hx t, r⟩ = some (((fi ts t : Nat) : Int), 0, (⟨cl', pl'⟩ : Zl)) ∧ TI cl' pl' (nxt ts t) := by
  have hsz := hI.siz
  have hfw := hI.few
  have hln := hI.len
  have hhs : ∀ m ∈ cl, 0 ≤ m.hash := fun m hm => by
    obtain ⟨i, hi⟩ := List.mem_iff_getElem?.1 hm
    have hlt : i < ts.length := by
      rw [← hln]
      rcases Nat.lt_or_ge i cl.length with q | q
      · exact q
      rw [List.getElem?_eq_none q] at hi; cases hi
    rw [(hI.mem i m ts[i] hi (List.getElem?_eq_getElem hlt)).2]
    exact (Z3b _).1
  obtain ⟨pl1, g1, g2, g3, g4⟩ : ∃ pl1, ((cond (decide ((pl.length : Int) ≤ (IntKind.i64.wrap (2 * (cl.length : Int))))) ((Qi (⟨cl, pl⟩ : Zl)).bind fun y2 => some (y2.classes, y2.places)) (some (cl, pl))) : Option (List Zi × List Int)) = some (cl, pl1) ∧ PRt (cl.map (·.hash)) pl1 ∧ 2 * cl.length < pl1.length ∧ pl1.length ≤ 4 * cl.length + 16 := by
    rw [Q2 (by omega) (by omega)]
    by_cases q : pl.length ≤ 2 * cl.length
    · obtain ⟨pl', h1, h2, h3⟩ := Zy8 (pl := pl) hhs (by omega) (by omega) hfw
      rw [decide_eq_true (by omega : (pl.length : Int) ≤ 2 * (cl.length : Int)), cond_true, h1]
      refine ⟨pl', rfl, h2, ?_, ?_⟩ <;> rw [h3] <;> split <;> omega
    rw [decide_eq_false (by omega : ¬ (pl.length : Int) ≤ 2 * (cl.length : Int)), cond_false]
    exact ⟨pl, rfl, hI.plc, by omega, hsz⟩
  have pp : 0 < pl1.length := by omega
  have ps : pl1.length ≤ 1000000000 := by omega
  obtain ⟨Z, z1, z2⟩ := Zpy g2 (by rw [List.length_map]; omega) (hx t)
  -- what is seen at a place that is not free
  have see : ∀ k, pat pl1 (hx t) k ≠ 0 → ∃ i u, pat pl1 (hx t) k = (i : Nat) + 1 ∧ ts[i]? = some u ∧ ((eqv u t = true → Yd ⟨hx t, r⟩ (cl, pl1) ((((hx t).toNat + k) % pl1.length : Nat) : Int) = some (.inr (.inl ((i : Nat), 0)))) ∧ (eqv u t = false → Yd ⟨hx t, r⟩ (cl, pl1) ((((hx t).toNat + k) % pl1.length : Nat) : Int) = some (.inl ((((hx t).toNat + (k + 1)) % pl1.length : Nat) : Int)))) := fun k hk => by
    have hm := Zeq pp (hx t) k
    have hr := g2.rng _ (List.mem_of_getElem? hm)
    rw [List.length_map] at hr
    obtain ⟨i, hi, hlt⟩ : ∃ i : Nat, pat pl1 (hx t) k - 1 = (i : Int) ∧ i < cl.length := ⟨(pat pl1 (hx t) k - 1).toNat, by omega, by omega⟩
    have hc : cl[i]? = some cl[i] := List.getElem?_eq_getElem hlt
    have hu : ts[i]? = some (ts[i]'(by omega)) := List.getElem?_eq_getElem (by omega)
    obtain ⟨v1, v2⟩ := hI.mem _ _ _ hc hu
    have hs := Zw0 v1 v2 hv
    refine ⟨i, _, by omega, hu, fun e => ?_, fun e => ?_⟩
    · unfold Yd
      simp only
      rw [X8 hm, Option.bind_some, bne_iff_ne.2 hk, cond_true, Option.bind_some, Q2 (by omega) (by omega), hi, X8 hc, Option.bind_some, hs, Option.bind_some, e]
      rfl
    unfold Yd
    simp only
    rw [X8 hm, Option.bind_some, bne_iff_ne.2 hk, cond_true, Option.bind_some, Q2 (by omega) (by omega), hi, X8 hc, Option.bind_some, hs, Option.bind_some, e]
    simp only
    rw [show ((0 : Int) != 0) = false from rfl, cond_false, cond_false, Zsz pp ps k]
    rfl
  have start : Xl (some ⟨cl, pl1⟩) (hx t) = some ((fun k => ((((hx t).toNat + k) % pl1.length : Nat) : Int)) 0) := Zow pp ps (Z3b t).1
  unfold Q7
  simp only
  rw [g1, Option.bind_some]
  simp only
  rw [start, Option.bind_some]
  by_cases found : fi ts t < ts.length
  · obtain ⟨w, w1, w2⟩ := Zwb found
    have hlc : fi ts t < cl.length := by omega
    have hc : cl[fi ts t]? = some cl[fi ts t] := List.getElem?_eq_getElem hlc
    have hhash : (cl.map (·.hash))[fi ts t]? = some (hx t) := by
      rw [List.getElem?_map, hc]
      exact congrArg some ((hI.mem _ _ _ hc w1).2.trans (Zwk w2))
    obtain ⟨k0, k1, k2⟩ := g2.fnd _ _ hhash
    obtain ⟨m, m1, m2, m3⟩ := Z0e (p := fun k => pat pl1 (hx t) k = ((fi ts t : Nat) : Int) + 1) (fun k => Decidable.em _) k0 k1
    have run := Zek (step := Yd ⟨hx t, r⟩ (cl, pl1)) (fun k => ((((hx t).toNat + k) % pl1.length : Nat) : Int)) m (r := .inl (((fi ts t : Nat) : Int), 0)) (fun k hk => by
      obtain ⟨i, u, s1, s2, _, s4⟩ := see k (k2 k (by omega))
      refine s4 ?_
      cases q : eqv u t with
      | false => rfl
      | true =>
        have := hI.one s2 w1 q w2
        rw [this] at s1
        exact absurd s1 (m3 k hk)) (by
      obtain ⟨i, u, s1, s2, s3, _⟩ := see m (by rw [m2]; omega)
      have hi : i = fi ts t := by omega
      subst hi
      rw [w1] at s2
      obtain rfl := Option.some.inj s2
      exact s3 w2)
    rw [run, Option.bind_some]
    refine ⟨cl, pl1, rfl, ?_⟩
    unfold nxt
    rw [if_pos found]
    exact ⟨hln, hI.mem, hI.dif, g2, by omega, g4⟩
  have hfi : fi ts t = ts.length := by have := Zrx ts t; omega
  have run := Zek (step := Yd ⟨hx t, r⟩ (cl, pl1)) (fun k => ((((hx t).toNat + k) % pl1.length : Nat) : Int)) Z (r := .inr ((((hx t).toNat + Z) % pl1.length : Nat) : Int)) (fun k hk => by
    obtain ⟨i, u, s1, s2, _, s4⟩ := see k (z2 k hk)
    refine s4 (Zm0 (l := ts) (j := i) ?_ s2)
    rw [hfi]
    rcases Nat.lt_or_ge i ts.length with q | q
    · exact q
    · rw [List.getElem?_eq_none q] at s2; cases s2) (by
    unfold Yd
    simp only
    rw [X8 (Zeq pp (hx t) Z), Option.bind_some, z1]
    rfl)
  rw [run, Option.bind_some]
  simp only
  rw [V6 (by rw [List.length_singleton]; omega) (by rw [List.length_singleton]; omega), Option.bind_some, X8 (Zeq pp (hx t) Z), Option.bind_some, List.length_append, List.length_singleton]
  have e1 : IntKind.i64.wrap (((cl.length + 1 : Nat) : Int) - 1) = ((fi ts t : Nat) : Int) := by rw [Q2 (by omega) (by omega)]; omega
  rw [e1]
  refine ⟨_, _, rfl, ?_⟩
  unfold nxt
  rw [if_neg found]
  have hp := g2.push pp z1 z2
  refine ⟨by rw [List.length_append, List.length_append, hln]; rfl, fun i m u hm hu => ?_, fun i j a b hij ha hb => ?_, ?_, ?_, ?_⟩
  · by_cases q : i < cl.length
    · rw [List.getElem?_append_left q] at hm
      rw [List.getElem?_append_left (by omega)] at hu
      exact hI.mem i m u hm hu
    rw [List.getElem?_append_right (by omega)] at hm hu
    rw [← hln] at hu
    have q0 : i - cl.length = 0 := by
      rcases Nat.eq_zero_or_pos (i - cl.length) with z | z
      · exact z
      rw [List.getElem?_eq_none (by simp; omega)] at hm
      cases hm
    rw [q0] at hm hu
    have em : (⟨hx t, r⟩ : Zi) = m := by simpa using hm
    have eu : t = u := by simpa using hu
    subst em eu
    exact ⟨hv, rfl⟩
  · by_cases q : j < ts.length
    · rw [List.getElem?_append_left q] at hb
      rw [List.getElem?_append_left (by omega)] at ha
      exact hI.dif i j a b hij ha hb
    rw [List.getElem?_append_right (by omega)] at hb
    have q0 : j - ts.length = 0 := by
      rcases Nat.eq_zero_or_pos (j - ts.length) with z | z
      · exact z
      rw [List.getElem?_eq_none (by simp; omega)] at hb
      cases hb
    rw [q0] at hb
    have eb : t = b := by simpa using hb
    subst eb
    rw [List.getElem?_append_left (by omega)] at ha
    exact Zm0 (l := ts) (j := i) (by omega) ha
  · unfold Zbo
    rw [List.map_append, Int.toNat_natCast]
    rw [List.length_map] at hp
    exact hp
  · unfold Zbo
    rw [List.length_append, List.length_singleton, List.length_set]
    omega
  unfold Zbo
  rw [List.length_append, List.length_singleton, List.length_set]
  omega
def Uw : List Tr → List Tr → List Tr
  | ts, [] => ts
  | ts, t :: l => Uw (nxt ts t) l
def Zdx : List Tr → List Tr → List Int
  | _, [] => []
  | ts, t :: l => ((fi ts t : Nat) : Int) :: Zdx (nxt ts t) l
theorem Znp (ts : List Tr) (t : Tr) : (nxt ts t).length ≤ ts.length + 1 := by
  unfold nxt
  split
  · omega
  rw [List.length_append]; exact Nat.le_refl _
theorem Zwl {ps : List (Za × Tr)} (hv : ∀ p ∈ ps, VT p.1 p.2) (hl : ps.length ≤ 10000) : ∀ (l pre : List (Za × Tr)) (out : List Int) (cl : List Zi) (pl : List Int) (ts : List Tr), ps = pre ++ l → TI cl pl ts → cl.length + l.length ≤ 100000 → out.length + l.length ≤ 100000 →
    ∃ cl' pl', Zw (Xp (ps.map fun p => ⟨hx p.2, p.1⟩)) ((pre.length : Nat), out, cl, pl) = some (.inr (out ++ Zdx ts (l.map (·.2)), cl', pl')) ∧ TI cl' pl' (Uw ts (l.map (·.2)))
  | [], pre, out, cl, pl, ts, hp, hI, _, _ => by
    rw [List.append_nil] at hp
    refine ⟨cl, pl, Xa ?_, hI⟩
    unfold Xp
    simp only
    rw [List.length_map, hp, Zez, cond_false]
    simp [Zdx]
  | p :: l, pre, out, cl, pl, ts, hp, hI, hc, ho => by
    rw [List.length_cons] at hc ho
    have hx0 : ps[pre.length]? = some p := by rw [hp, List.getElem?_append_right (Nat.le_refl _), Nat.sub_self]; rfl
    have hi : pre.length < ps.length := by rw [hp]; simp
    obtain ⟨cl1, pl1, c1, c2⟩ := Zv3 hI (hv p (List.mem_of_getElem? hx0)) (by omega)
    have n1 : cl1.length ≤ cl.length + 1 := by
      rw [c2.len, hI.len]
      exact Znp _ _
    obtain ⟨cl2, pl2, r1, r2⟩ := Zwl hv hl l (pre ++ [p]) (out ++ [((fi ts p.2 : Nat) : Int)]) cl1 pl1 (nxt ts p.2) (by rw [hp]; simp) c2 (by omega) (by rw [List.length_append, List.length_singleton]; omega)
    rw [List.length_append, List.length_singleton] at r1
    refine ⟨cl2, pl2, (X1 ?_).trans (r1.trans ?_), r2⟩
    · unfold Xp
      simp only
      rw [List.length_map, Ze0 hi, cond_true, X8 (x := (⟨hx p.2, p.1⟩ : Zi)) (by rw [List.getElem?_map, hx0]; rfl), Option.bind_some, c1, Option.bind_some]
      simp only
      rw [show ((0 : Int) != 0) = false from rfl, cond_false, V6 (by rw [List.length_singleton]; omega) (by rw [List.length_singleton]; omega), Option.bind_some, Q2 (by omega) (by omega)]
      rfl
    rw [List.append_assoc]
    rfl
def kps (A : Ze) (r : Za) (u : Tr) : List (Za × Tr) := u.Kids.zipIdx.map fun p => ((Kb A r (p.2 : Int)).1, p.1)
theorem Znj {A : Ze} {r : Za} {u : Tr} {i : Nat} {x : Tr} (h : u.Kids[i]? = some x) : (kps A r u)[i]? = some ((Kb A r (i : Int)).1, x) := by
  unfold kps
  rw [List.getElem?_map, List.getElem?_zipIdx, h, Nat.zero_add]
  rfl
theorem Zc7 (A : Ze) (r : Za) (u : Tr) : (kps A r u).length = u.Kids.length := by
  unfold kps
  rw [List.length_map, List.length_zipIdx]
theorem Zzc (A : Ze) (r : Za) (u : Tr) : (kps A r u).map (·.2) = u.Kids := by
  refine List.ext_getElem? fun i => ?_
  rw [List.getElem?_map]
  rcases Nat.lt_or_ge i u.Kids.length with q | q
  · have hx : u.Kids[i]? = some u.Kids[i] := List.getElem?_eq_getElem q
    rw [Znj hx, hx]
    rfl
  rw [List.getElem?_eq_none q, List.getElem?_eq_none (by rw [Zc7]; exact q)]
  rfl
theorem Zw1 {t x : Tr} (h : x ∈ t.Kids) : nd x ≤ nd t := by
  have := Zsg (f := nd) h
  rw [Zh6 t]
  omega
theorem Zwm {A : Ze} (hw : WS A.segments) {r : Za} {u : Tr} (hm : Mn A r u) (hn : (nd u : Int) ≤ 65537) : ∀ p ∈ kps A r u, VT p.1 p.2 := fun p hp => by
  obtain ⟨i, hi⟩ := List.mem_iff_getElem?.1 hp
  have hlt : i < u.Kids.length := by
    rw [← Zc7 A r u]
    rcases Nat.lt_or_ge i (kps A r u).length with q | q
    · exact q
    rw [List.getElem?_eq_none q] at hi; cases hi
  have hx : u.Kids[i]? = some u.Kids[i] := List.getElem?_eq_getElem hlt
  rw [Znj hx] at hi
  obtain rfl := Option.some.inj hi
  exact ⟨A, hw, hm.kid _ _ hx, by have := Zw1 (List.mem_of_getElem? hx); simp only; omega⟩
theorem Zhb {A : Ze} (hw : WS A.segments) {r : Za} {u : Tr} (hm : Mn A r u) (hn : (nd u : Int) ≤ 65537) (hk : u.Kids.length ≤ 10000) {cl : List Zi} {pl : List Int} {ts : List Tr} (hI : TI cl pl ts) (hc : cl.length ≤ 10000) : ∃ cl' pl', Xs ⟨cl, pl⟩ r = some (Zdx ts u.Kids, 0, ⟨cl', pl'⟩) ∧ TI cl' pl' (Uw ts u.Kids) := by
  have hl0 := Znn u.Kids (fun i (s : List Zi) => (i, s)) (fun s => (.inr s : Int ⊕ List Zi)) (Xo r (Yq r)) (fun s i x => s ++ [(⟨hx x, (Kb A r (i : Int)).1⟩ : Zi)]) (fun i s => s = ((kps A r u).take i).map fun p => (⟨hx p.2, p.1⟩ : Zi)) (by omega) (fun i s x hi hx0 hmem hs => by
    have hkv := Zwm hw hm hn _ (List.mem_of_getElem? (Znj (A := A) (r := r) hx0))
    have hh := Zza hw (hm.kid _ _ hx0) (by have := Zw1 hmem; omega)
    have hlen : s.length ≤ 10000 := by rw [hs, List.length_map, List.length_take, Zc7]; omega
    refine ⟨?_, ?_⟩
    · unfold Xo
      simp only
      rw [← hm.ln, Ze0 hi, cond_true, Zj3 hw hm.ok, Option.bind_some, hm.er _ _ hx0, show ((0 : Int) != 0) = false from rfl, cond_false, hh, Option.bind_some]
      simp only
      rw [show ((0 : Int) != 0) = false from rfl, cond_false, V6 (by rw [List.length_singleton]; omega) (by rw [List.length_singleton]; omega), Option.bind_some]
    · rw [hs, List.take_add_one, Znj hx0, List.map_append]
      rfl) (fun s _ => by
    unfold Xo
    simp only
    rw [← hm.ln, Zez, cond_false]) [] (by simp)
  obtain ⟨a1, a2⟩ := hl0
  rw [a2, ← Zc7 A r u, List.take_length] at a1
  obtain ⟨cl', pl', b1, b2⟩ := Zwl (Zwm hw hm hn) (by rw [Zc7]; exact hk) (kps A r u) [] [] cl pl ts rfl hI (by rw [Zc7]; omega) (by rw [Zc7, List.length_nil]; omega)
  rw [Zzc] at b1 b2
  refine ⟨cl', pl', ?_, b2⟩
  unfold Xs
  simp only
  rw [Zgs, Option.bind_some]
  rw [show Zw (Xo r (Yq r)) (0, ([] : List Zi)) = _ from a1, Option.bind_some]
  simp only
  rw [show Zw (Xp ((kps A r u).map fun p => ⟨hx p.2, p.1⟩)) (0, ([] : List Int), cl, pl) = _ from b1, Option.bind_some]
  rfl
theorem Zif {a b : List Int} (h : (a.length : Int) ≤ 140737488355328) : Yv a b = some (a == b) := by
  unfold Yv
  rw [Zj7]
  by_cases hl : a.length = b.length
  · have : (a.length == b.length) = true := by rw [beq_iff_eq]; exact hl
    rw [this, Bool.not_true, cond_false, Zka a b _ (.inl ()) (.inr ()) hl h (fun i x y hi hx hy => by
      unfold Qx
      rw [Ze0 hi, cond_true, X8 hx, Option.bind_some, X8 hy, Option.bind_some]
      cases x != y <;> rfl) (by unfold Qx; rw [Zez, cond_false])]
    cases a == b <;> rfl
  have : (a.length == b.length) = false := by rw [beq_eq_false_iff_ne]; exact hl
  rw [this, Bool.not_false, cond_true, Zmx hl]
theorem Zmf {l : List (List Int)} (hw : WS l) : Qd l = some (atR ⟨l, 0, 0⟩ 0 0).1 := by
  unfold Qd
  rw [Z18 hw, Option.bind_some, Zzs (A := ⟨l, 0, 0⟩) hw, Option.bind_some]
def u16 : Tr := ⟨4, [], [⟨10, [5], []⟩, ⟨10, [7], []⟩, ⟨10, [5], []⟩]⟩
theorem unf16 : (Zvt ⟨[[111669149697, 329477]], 0, 0⟩ ⟨64, 65536, 0, 0⟩).1 = u16 ∧ (Zvt ⟨[[111669149697, 329477]], 0, 0⟩ ⟨64, 65536, 0, 0⟩).2.2 = 0 := ⟨rfl, rfl⟩
theorem Zv8 : eqv ⟨10, [5], []⟩ ⟨10, [7], []⟩ = false := by
  unfold eqv
  rw [Zck (show ¬ (10 : Int) = 0 by decide) (show ¬ (10 : Int) = 1 by decide), Zck (show ¬ (10 : Int) = 0 by decide) (show ¬ (10 : Int) = 1 by decide), Zjm]
  rfl
theorem Z19 : Zdx [] u16.Kids = [0, 1, 0] := by simp [u16, Zdx, nxt, fi, Zv8, Zjn]
theorem Z2a : (Uw [] u16.Kids).length = 2 := by simp [u16, Uw, nxt, fi, Zv8, Zjn]
theorem Zu4 : Jm = some true := by
  have hw : WS [[111669149697, 329477]] := Zyu _ (by simp) (by simp)
  obtain ⟨hm, hn⟩ := Z2z (A := ⟨[[111669149697, 329477]], 0, 0⟩) hw ⟨64, 65536, 0, 0⟩ unf16.2
  rw [unf16.1] at hm hn
  obtain ⟨cl', pl', k1, k2⟩ := Zhb (A := ⟨[[111669149697, 329477]], 0, 0⟩) hw hm hn (by decide) TI.empty (by simp)
  rw [Z19] at k1
  have hl : cl'.length = 2 := by rw [k2.len, Z2a]
  unfold Jm
  rw [show Vc = some (⟨[], []⟩ : Zl) from rfl, Option.bind_some, Zmf hw, Option.bind_some]
  simp only
  rw [k1, Option.bind_some]
  simp only
  rw [Zif (by decide)]
  unfold Qu
  simp only [Option.isNone_some, cond_false, Option.bind_some]
  rw [hl]
  rfl
theorem Z29 {hd : Int} {ws : List Int} (h5 : dc hd = ⟨2, 0, 0, 0, 5, (ws.length : Int), 0, false⟩) : fol [hd :: ws] 0 0 = (⟨⟨2, 0, 0, 0, 5, (ws.length : Int), 0, false⟩, 0, 1⟩, 0) := by
  have hw : wd [hd :: ws] 0 0 = hd := rfl
  have hs : seg [hd :: ws] 0 = hd :: ws := rfl
  have hi : inB [hd :: ws] 0 0 1 = true := by
    rw [inB_iff, hs, List.length_cons]
    simp
    omega
  have hp : pw ⟨2, 0, 0, 0, 5, (ws.length : Int), 0, false⟩ = (ws.length : Int) := by
    unfold pw
    rw [if_neg (show ¬ (2 : Int) = 1 by decide), if_neg (show ¬ (5 : Int) = 7 by decide)]
    show ((ws.length : Int) * 64 + 63) / 64 = _
    omega
  have hj : inB [hd :: ws] 0 1 (ws.length : Int) = true := by
    rw [inB_iff, hs, List.length_cons]
    simp
    omega
  unfold fol
  rw [if_pos hi]
  simp only
  rw [hw, h5]
  simp only
  rw [if_neg (show ¬ (2 : Int) = 0 by decide), if_neg (show ¬ ((2 : Int) = 3 ∧ false = true) by decide), if_neg (show ¬ (2 : Int) = 3 by decide)]
  unfold tgt
  rw [if_neg (show ¬ (2 : Int) = 4 by decide), if_pos (show (2 : Int) = 1 ∨ (2 : Int) = 2 from .inr rfl), hp]
  rw [show ((0 : Int) + 1 + 0) = 1 from rfl, hj]
  rfl
theorem Zy3 {hd : Int} {ws : List Int} (h5 : dc hd = ⟨2, 0, 0, 0, 5, (ws.length : Int), 0, false⟩) : atR ⟨[hd :: ws], 0, 0⟩ 0 0 = (⟨some ⟨[hd :: ws], 0, 0⟩, 7, 0, 1, 0, 0, (ws.length : Int), 0, 0⟩, 0) := by
  unfold atR
  simp only
  rw [Z29 h5]
  simp only
  rw [if_neg (by decide), if_neg (by decide), if_neg (by decide)]
  rfl
theorem Zvp {ts : List Tr} (hb : ∀ t ∈ ts, Bd t) {t : Tr} (ht : Bd t) (hl : ts.length ≤ 100000) : Jn (ts.map nrm) t = some ((nxt ts t).map nrm, ((fi ts t : Nat) : Int)) := by
  have hle := Zrx ts t
  have step : ∀ (k : Nat) (u : Tr), ts[k]? = some u → Ye (ts.map nrm) (nrm t) (k : Int) = if eqv u t = true then some (.inr (.inl (k : Int))) else some (.inl ((k + 1 : Nat) : Int)) := fun k u hu => by
    have hk : k < ts.length := by
      rcases Nat.lt_or_ge k ts.length with q | q
      · exact q
      rw [List.getElem?_eq_none q] at hu; cases hu
    unfold Ye
    rw [List.length_map, Ze0 hk, cond_true, X8 (x := nrm u) (by rw [List.getElem?_map, hu]; rfl), Option.bind_some, Zzt (hb u (List.mem_of_getElem? hu)).nrm ht.nrm, Option.bind_some, Q2 (by omega) (by omega)]
    show cond (eqv u t) _ _ = _
    cases eqv u t <;> rfl
  unfold Jn
  rw [Zxm ht, Option.bind_some]
  have before : ∀ k, k < fi ts t → Ye (ts.map nrm) (nrm t) (k : Int) = some (.inl ((k + 1 : Nat) : Int)) := fun k hk => by
    have hx : ts[k]? = some ts[k] := List.getElem?_eq_getElem (by omega)
    rw [step k _ hx, Zm0 hk hx]
    rfl
  unfold nxt
  by_cases found : fi ts t < ts.length
  · obtain ⟨u, u1, u2⟩ := Zwb found
    have run := Zek (step := Ye (ts.map nrm) (nrm t)) (fun k => (k : Int)) (fi ts t) (r := .inl ((fi ts t : Nat) : Int)) before (by
      rw [step _ _ u1, if_pos u2])
    rw [show Zw (Ye (ts.map nrm) (nrm t)) 0 = _ from run, Option.bind_some, if_pos found]
  have e : fi ts t = ts.length := by omega
  have run := Zek (step := Ye (ts.map nrm) (nrm t)) (fun k => (k : Int)) (fi ts t) (r := .inr ()) before (by
    unfold Ye
    rw [e, List.length_map, Zez, cond_false])
  rw [show Zw (Ye (ts.map nrm) (nrm t)) 0 = _ from run, Option.bind_some, if_neg found]
  simp only
  rw [V6 (by rw [List.length_map, List.length_singleton]; omega) (by rw [List.length_map, List.length_singleton]; omega), Option.bind_some, List.length_map, e, List.map_append]
  rfl
theorem Zzk {ts : List Tr} {t : Tr} {P : Tr → Prop} (h : ∀ u ∈ ts, P u) (ht : P t) : ∀ u ∈ nxt ts t, P u := fun u hu => by
  unfold nxt at hu
  split at hu
  · exact h u hu
  rcases List.mem_append.1 hu with q | q
  · exact h u q
  rw [List.mem_singleton.1 q]; exact ht
theorem Zzd (x : Int) : ∃ k : Nat, k ≤ 127 ∧ IntKind.i64.wrap (Xr .i64 x 127) = (k : Int) := by
  have h : (BitVec.ofInt 64 x &&& BitVec.ofInt 64 127).toNat ≤ 127 := by
    rw [BitVec.toNat_and]
    exact Nat.le_trans Nat.and_le_right (by decide)
  refine ⟨(BitVec.ofInt 64 x &&& BitVec.ofInt 64 127).toNat, h, ?_⟩
  have e : Xr .i64 x 127 = ((BitVec.ofInt 64 x &&& BitVec.ofInt 64 127).toNat : Int) := rfl
  rw [e]
  exact Z3c (by omega)
theorem Z4y {N : Nat} (h : N ≤ 127) : dc ((21474836481 + N * 34359738368 : Nat) : Int) = ⟨2, 0, 0, 0, 5, (N : Int), 0, false⟩ := by
  unfold dc
  rw [Int.toNat_natCast]
  generalize hw : 21474836481 + N * 34359738368 = w
  unfold Zv4 Znq
  rw [if_neg (by omega), if_neg (by omega), if_pos (by omega), if_pos (by omega)]
  have a1 : w / 4 % 1073741824 = 0 := by omega
  have a2 : w / 4294967296 % 8 = 5 := by omega
  have a3 : w / 34359738368 % 536870912 = N := by omega
  rw [a1, a2, a3]
  rfl
theorem Z3e {x : Int} (h : 0 ≤ x ∧ x < 18446744073709551616) : Zw6 x 5 0 = x := by
  unfold Zw6 wdt
  rw [if_neg (by decide), if_neg (by decide), if_neg (by decide), if_neg (by decide), if_neg (by decide)]
  rw [show ((0 : Int) * 64).toNat = 0 from rfl, show ((64 : Int)).toNat = 64 from rfl, Nat.pow_zero, Nat.div_one, Nat.mod_eq_of_lt (by omega)]
  omega
theorem Z2r {hd : Int} {ws : List Int} {i : Nat} {x : Int} (hx : ws[i]? = some x) (hr : 0 ≤ x ∧ x < 18446744073709551616) : Ys ⟨[hd :: ws], 0, 0⟩ ⟨some ⟨[hd :: ws], 0, 0⟩, 10, 0, 1, 0, 0, 0, 5, (i : Int)⟩ = [x] := by
  unfold Ys
  rw [if_pos rfl]
  unfold Zw5
  rw [if_neg (show ¬ (5 : Int) = 0 by decide)]
  have e5 : each 5 = 1 := rfl
  simp only
  rw [e5, Int.ediv_one, Int.emod_one]
  have e : wd [hd :: ws] 0 (1 + (i : Int)) = x := by
    unfold wd seg
    have : (1 + (i : Int)).toNat = i + 1 := by omega
    rw [this]
    show (((hd :: ws)[i + 1]?).getD 0 : Int) = x
    rw [List.getElem?_cons_succ, hx]
    rfl
  rw [e, Z3e hr]
def Gd (x : Int) : Tr := ⟨10, [x], []⟩
theorem Z40 {hd : Int} {ws : List Int} (h5 : dc hd = ⟨2, 0, 0, 0, 5, (ws.length : Int), 0, false⟩) (hr : ∀ x ∈ ws, 0 ≤ x ∧ x < 18446744073709551616) : Mn ⟨[hd :: ws], 0, 0⟩ (atR ⟨[hd :: ws], 0, 0⟩ 0 0).1 ⟨7, [], ws.map Gd⟩ := by
  have hk : ∀ (i : Nat) (x : Tr), (ws.map Gd)[i]? = some x → ∃ v, ws[i]? = some v ∧ x = Gd v ∧ i < ws.length := fun i x hx => by
    rw [List.getElem?_map] at hx
    cases e : ws[i]? with
    | none => rw [e] at hx; cases hx
    | some v =>
      rw [e] at hx
      refine ⟨v, rfl, (Option.some.inj hx).symm, ?_⟩
      rcases Nat.lt_or_ge i ws.length with q | q
      · exact q
      rw [List.getElem?_eq_none q] at e; cases e
  have kid : ∀ i : Nat, i < ws.length → Kb ⟨[hd :: ws], 0, 0⟩ (atR ⟨[hd :: ws], 0, 0⟩ 0 0).1 (i : Int) = (⟨some ⟨[hd :: ws], 0, 0⟩, 10, 0, 1, 0, 0, 0, 5, (i : Int)⟩, 0) := fun i hi => by
    rw [Zy3 h5]
    unfold Kb Yq
    simp only
    rw [if_neg (show ¬ (7 : Int) = 1 by decide), if_neg (by omega), if_neg (show ¬ (7 : Int) = 1 by decide), if_neg (show ¬ (7 : Int) = 8 by decide), if_neg (show ¬ (7 : Int) = 9 by decide)]
    rfl
  refine .mk (Zi8 0 0) ?_ ?_ ?_ (fun i x hx => ?_) (fun i x hx => ?_)
  · rw [Zy3 h5]
  · rw [Zy3 h5]; rfl
  · rw [Zy3 h5, List.length_map]; rfl
  · obtain ⟨v, _, _, hi⟩ := hk i x hx
    rw [kid i hi]
  obtain ⟨v, hv, rfl, hi⟩ := hk i x hx
  have hok := Zbw (A := ⟨[hd :: ws], 0, 0⟩) (Zi8 0 0) (r := (atR ⟨[hd :: ws], 0, 0⟩ 0 0).1) (i : Int)
  rw [kid i hi] at hok ⊢
  exact .mk hok rfl (Z2r hv (hr v (List.mem_of_getElem? hv))).symm rfl (fun i x hx => by simp [Gd] at hx) (fun i x hx => by simp [Gd] at hx)
theorem Z41 (ws : List Int) : nd ⟨7, [], ws.map Gd⟩ = 1 + ws.length := by
  rw [Zh6]
  have : ∀ l : List Int, ((l.map Gd).map nd).sum = l.length := fun l => by
    induction l with
    | nil => rfl
    | cons x l ih =>
      rw [List.map_cons, List.map_cons, List.sum_cons, ih, List.length_cons]
      have : nd (Gd x) = 1 := by unfold Gd; rw [Zh6]; rfl
      omega
  rw [this]
theorem Z2d {l : List Tr} {t : Tr} (h : fi l t < l.length) (m : List Tr) : fi (l ++ m) t = fi l t := by
  induction l with
  | nil => simp at h
  | cons u l ih =>
    unfold fi at h ⊢
    rw [List.cons_append]
    simp only
    by_cases q : eqv u t = true
    · rw [if_pos q, if_pos q]
    rw [if_neg q] at h ⊢
    rw [if_neg q, ih (by rw [List.length_cons] at h; omega)]
theorem Z2e {l : List Tr} {t : Tr} (h : ¬ fi l t < l.length) : fi (l ++ [t]) t = l.length := by
  induction l with
  | nil => simp [fi, Zjn]
  | cons u l ih =>
    unfold fi at h ⊢
    rw [List.cons_append]
    simp only
    by_cases q : eqv u t = true
    · rw [if_pos q, List.length_cons] at h
      omega
    rw [if_neg q, List.length_cons] at h
    rw [if_neg q, ih (by omega), List.length_cons]
theorem Z2s (ts : List Tr) (t : Tr) : fi (nxt ts t) t = fi ts t ∧ fi (nxt ts t) t < (nxt ts t).length := by
  unfold nxt
  by_cases h : fi ts t < ts.length
  · rw [if_pos h]
    exact ⟨rfl, h⟩
  rw [if_neg h, Z2e h, List.length_append, List.length_singleton]
  have := Zrx ts t
  omega
theorem Zor : ∀ (l ts : List Tr), ∃ m, Uw ts l = ts ++ m
  | [], ts => ⟨[], (List.append_nil _).symm⟩
  | t :: l, ts => by
    obtain ⟨m, hm⟩ := Zor l (nxt ts t)
    unfold Uw
    unfold nxt at hm ⊢
    split at hm
    · rename_i h
      rw [if_pos h]
      exact ⟨m, hm⟩
    rename_i h
    rw [if_neg h]
    exact ⟨[t] ++ m, by rw [hm, List.append_assoc]⟩
theorem Zls : ∀ (l ts m : List Tr), Zdx (Uw ts l ++ m) l = Zdx ts l ∧ Uw (Uw ts l ++ m) l = Uw ts l ++ m
  | [], _, _ => ⟨rfl, rfl⟩
  | t :: l, ts, m => by
    obtain ⟨k, hk⟩ := Zor l (nxt ts t)
    obtain ⟨n1, n2⟩ := Z2s ts t
    have e : Uw ts (t :: l) = Uw (nxt ts t) l := rfl
    have f : fi (Uw (nxt ts t) l ++ m) t = fi ts t := by
      rw [hk, List.append_assoc, Z2d n2, n1]
    have f2 : nxt (Uw (nxt ts t) l ++ m) t = Uw (nxt ts t) l ++ m := by
      rw [show nxt (Uw (nxt ts t) l ++ m) t = if fi (Uw (nxt ts t) l ++ m) t < (Uw (nxt ts t) l ++ m).length then Uw (nxt ts t) l ++ m else Uw (nxt ts t) l ++ m ++ [t] from rfl, f, if_pos (by rw [hk, List.append_assoc, List.length_append]; omega)]
    obtain ⟨i1, i2⟩ := Zls l (nxt ts t) m
    rw [e]
    refine ⟨?_, ?_⟩
    · rw [Zdx, Zdx, f, f2, i1]
    rw [Uw, f2, i2]
theorem Zfe {kids : List Tr} (hk : ∀ t ∈ kids, Bd t) (hl : kids.length ≤ 10000) : ∀ (l pre ts : List Tr) (out : List Int), kids = pre ++ l → (∀ t ∈ ts, Bd t) → ts.length + l.length ≤ 20000 → out.length + l.length ≤ 20000 → Zw (Xf kids) ((pre.length : Nat), ts.map nrm, out) = some ((Uw ts l).map nrm, out ++ Zdx ts l)
  | [], pre, ts, out, hp, _, _, _ => by
    rw [List.append_nil] at hp
    refine Xa ?_
    unfold Xf
    simp only
    rw [hp, Zez, cond_false]
    simp [Zdx, Uw]
  | t :: l, pre, ts, out, hp, hb, h1, h2 => by
    rw [List.length_cons] at h1 h2
    have hx : kids[pre.length]? = some t := by rw [hp, List.getElem?_append_right (Nat.le_refl _), Nat.sub_self]; rfl
    have hi : pre.length < kids.length := by rw [hp]; simp
    have bt := hk t (List.mem_of_getElem? hx)
    have nl := Znp ts t
    have r1 := Zfe hk hl l (pre ++ [t]) (nxt ts t) (out ++ [((fi ts t : Nat) : Int)]) (by rw [hp]; simp) (Zzk hb bt) (by omega) (by rw [List.length_append, List.length_singleton]; omega)
    rw [List.length_append, List.length_singleton] at r1
    refine (X1 ?_).trans (r1.trans ?_)
    · unfold Xf
      simp only
      rw [Ze0 hi, cond_true, X8 hx, Option.bind_some, Zvp hb bt (by omega), Option.bind_some]
      simp only
      rw [V6 (by rw [List.length_singleton]; omega) (by rw [List.length_singleton]; omega), Option.bind_some, Q2 (by omega) (by omega)]
      rfl
    rw [List.append_assoc]
    rfl
theorem Zri (a salt : Int) {N : Nat} (hN : N ≤ 127) (hn : IntKind.i64.wrap (Xr .i64 a 127) = (N : Int)) (hd : Int) : ∃ ws : List Int, Zw (Yw a salt) (0, [hd]) = some (hd :: ws) ∧ ws.length = N ∧ ∀ x ∈ ws, 0 ≤ x ∧ x < 18446744073709551616 := by
  have loop := Znn (List.replicate N ()) (fun i (s : List Int) => (i, s)) (fun s => s) (Yw a salt) (fun s i _ => s ++ [(IntKind.u64.wrap (Zgo .u64 (IntKind.u64.wrap (salt + (IntKind.u64.wrap ((IntKind.u64.wrap (i : Int)) * salt)))) 1))]) (fun i s => ∃ ws : List Int, s = hd :: ws ∧ ws.length = i ∧ ∀ x ∈ ws, 0 ≤ x ∧ x < 18446744073709551616) (by rw [List.length_replicate]; omega) (fun i s x hi _ _ hs => by
    obtain ⟨ws, w1, w2, w3⟩ := hs
    rw [List.length_replicate] at hi
    refine ⟨?_, ws ++ [_], by rw [w1, List.cons_append], by rw [List.length_append, w2]; rfl, fun x hx => ?_⟩
    · unfold Yw
      simp only
      rw [hn, Ze0 hi, cond_true, V6 (by rw [w1, List.length_cons, List.length_singleton]; omega) (by rw [w1, List.length_cons, List.length_singleton]; omega), Option.bind_some]
    · rcases List.mem_append.1 hx with q | q
      · exact w3 x q
      rw [List.mem_singleton.1 q]
      generalize Zgo _ _ _ = z
      exact ⟨Int.emod_nonneg _ (by decide), Int.emod_lt_of_pos _ (by decide)⟩) (fun s _ => by
    unfold Yw
    simp only
    rw [hn, List.length_replicate, Zez, cond_false]) [hd] ⟨[], rfl, rfl, by simp⟩
  obtain ⟨l1, ws, l2, l3, l4⟩ := loop
  rw [List.length_replicate] at l3
  refine ⟨ws, ?_, l3, l4⟩
  rw [← l2]
  exact l1
theorem Zvk (a : Int) {N : Nat} (hN : N ≤ 127) (hn : IntKind.i64.wrap (Xr .i64 a 127) = (N : Int)) (hd : Int) {ws : List Int} (hl : ws.length = N) : Zw (Yx a (hd :: ws)) (0, ([] : List Tr)) = some (ws.map Gd) := by
  have h := Zwy ws Gd (Yx a (hd :: ws)) [] (by omega) (fun i x out hi hx hm ho => by
    rw [List.length_nil] at ho
    unfold Yx
    simp only
    rw [hn, ← hl, Ze0 hi, cond_true, Q2 (by omega) (by omega), show ((i : Int) + 1) = ((i + 1 : Nat) : Int) from rfl, X8 (x := x) (by rw [List.getElem?_cons_succ]; exact hx), Option.bind_some, V6 (by rw [List.length_singleton]; omega) (by rw [List.length_singleton]; omega), Option.bind_some]
    rfl) (fun out => by
    unfold Yx
    simp only
    rw [hn, ← hl, Zez, cond_false])
  rw [h, List.nil_append]
theorem Zng (a salt : Int) : Ja a salt = some true := by
  obtain ⟨N, hN, hn⟩ := Zzd a
  have hhd : (IntKind.u64.wrap (Zgo .u64 21474836481 (IntKind.u64.wrap ((IntKind.u64.wrap (IntKind.i64.wrap (Xr .i64 a 127))) * 2 ^ min (Int.toNat 35) 64)))) = ((21474836481 + N * 34359738368 : Nat) : Int) := by
    rw [hn]
    have := Z4z (a := 21474836481) (b := N) (s := 35) (by decide) (by omega) (by decide)
    exact this
  obtain ⟨ws, w1, w2, w3⟩ := Zri a salt hN hn ((21474836481 + N * 34359738368 : Nat) : Int)
  have h5 := Z4y hN
  rw [← w2] at h5
  generalize hgd : ((21474836481 + N * 34359738368 : Nat) : Int) = hd at hhd w1
  have hdr : 0 ≤ hd ∧ hd < 18446744073709551616 := by omega
  have h6 : dc hd = ⟨2, 0, 0, 0, 5, (ws.length : Int), 0, false⟩ := by
    rw [← hgd, ← w2]
    exact h5
  have hw : WS [hd :: ws] := Zyu _ (fun x hx => by
    rcases List.mem_cons.1 hx with q | q
    · rw [q]; exact hdr
    exact w3 x q) (by rw [List.length_cons]; omega)
  have mn := Z40 h6 w3
  have nn := Z41 ws
  have kl : (⟨7, [], ws.map Gd⟩ : Tr).Kids.length ≤ 10000 := by simp only; rw [List.length_map]; omega
  obtain ⟨cl1, pl1, a1, a2⟩ := Zhb (A := ⟨[hd :: ws], 0, 0⟩) hw mn (by omega) kl TI.empty (by simp)
  have tl : (Uw [] (ws.map Gd)).length ≤ ws.length := by
    have : ∀ (l ts : List Tr), (Uw ts l).length ≤ ts.length + l.length := fun l => by
      induction l with
      | nil => intro ts; exact Nat.le_refl _
      | cons t l ih =>
        intro ts
        have := ih (nxt ts t)
        have := Znp ts t
        rw [Uw, List.length_cons]
        omega
    have := this (ws.map Gd) []
    rw [List.length_map, List.length_nil] at this
    omega
  obtain ⟨cl2, pl2, b1, b2⟩ := Zhb (A := ⟨[hd :: ws], 0, 0⟩) hw mn (by omega) kl a2 (by rw [a2.len]; simp only; omega)
  have ag := Zls (ws.map Gd) [] []
  rw [List.append_nil] at ag
  simp only at a1 b1 b2
  rw [ag.1] at b1
  rw [ag.2] at b2
  have hbd : ∀ t ∈ ws.map Gd, Bd t := fun t ht => by
    obtain ⟨x, hx, rfl⟩ := List.mem_map.1 ht
    exact .mk _ (by simp [Gd]) (by simp [Gd]) (fun w hw => by
      have : w = x := by simpa [Gd] using hw
      rw [this]
      exact w3 x hx) (by simp [Gd])
  have rc : Q5 ([] : List Tr) (ws.map Gd) = some ((Uw [] (ws.map Gd)).map nrm, Zdx [] (ws.map Gd)) := by
    unfold Q5
    have := Zfe hbd (by rw [List.length_map]; omega) (ws.map Gd) [] [] [] rfl (by simp) (by rw [List.length_map, List.length_nil]; omega) (by rw [List.length_map, List.length_nil]; omega)
    rw [show Zw (Xf (ws.map Gd)) (0, ([] : List Tr), ([] : List Int)) = _ from this]
    rfl
  have il : ∀ (l ts : List Tr), (Zdx ts l).length = l.length := fun l => by
    induction l with
    | nil => intro ts; rfl
    | cons t l ih => intro ts; rw [Zdx, List.length_cons, ih, List.length_cons]
  have si : Yv (Zdx [] (ws.map Gd)) (Zdx [] (ws.map Gd)) = some true := by
    rw [Zif (by rw [il, List.length_map]; omega), beq_self_eq_true]
  unfold Ja
  rw [hhd, w1, Option.bind_some, Zvk a hN hn hd w2, Option.bind_some, rc, Option.bind_some, show Vc = some (⟨[], []⟩ : Zl) from rfl, Option.bind_some, Zmf hw, Option.bind_some]
  simp only
  rw [a1, Option.bind_some, Option.bind_some]
  simp only
  rw [b1, Option.bind_some]
  simp only
  rw [si, Zu4]
  unfold Qu
  simp only [Option.isNone_some, cond_false, Option.bind_some]
  rw [b2.len, List.length_map, show ((0 : Int) == 0) = true from rfl, beq_self_eq_true]
  rfl
end Go.Proofs.Ytgffgbdnbjbmoaa
