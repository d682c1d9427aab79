/- Plain facts on this seat's mirrors (part QP2); each theorem bears its own conditions. -/
import Derived.Test.YtmlhokaflhlhbaaQP1
import Derived.IntWalk
namespace Go.Proofs.Ytmlhokaflhlhbaa
open Go.RowKit
set_option linter.unusedVariables false
set_option linter.unusedSimpArgs false
def nd (t : Tr) : Nat := 1 + (t.Kids.attach.map fun k => nd k.1).sum
termination_by SizeOf.sizeOf t
decreasing_by exact Zi2 k.2
theorem Zla (t : Tr) : nd t = 1 + (t.Kids.map nd).sum := by
  rw [nd]
  simp
def ndl (l : List Tr) : Nat := (l.map nd).sum
theorem Zws (l : List Tr) (x : Tr) : ndl (l ++ [x]) = ndl l + nd x := by simp [ndl]
inductive Mn (A : Zk) : Zd → Tr → Prop
  | mk {r : Zd} {t : Tr} (hr : OKr A r) (hk : t.Kind = r.kind) (hw : t.Words = Yn A r) (hl : (t.Kids.length : Int) = Z8 r) (he : ∀ (i : Nat) (x : Tr), t.Kids[i]? = some x → (Yw A r i).2 = 0) (h : ∀ (i : Nat) (x : Tr), t.Kids[i]? = some x → Mn A (Yw A r i).1 x) : Mn A r t
section
variable {A : Zk}
theorem Zw7 {f : Zd → Int → Tr × Int × Int} {g : Int → Zd × Int} {e : Int} {n : Nat}
    (hQ : ∀ (i : Nat) (l : Int), i < n → 0 ≤ l → (g i).2 = 0 → (f (g i).1 l).2.2 = 0 → Mn A (g i).1 (f (g i).1 l).1 ∧ (nd (f (g i).1 l).1 : Int) ≤ e + (l - (f (g i).1 l).2.1) ∧ 0 ≤ (f (g i).1 l).2.1) :
    ∀ (m i : Nat) (left : Int) (acc : List Tr), i + m = n → 0 ≤ left → acc.length = i → (∀ (j : Nat) x, acc[j]? = some x → (g j).2 = 0 ∧ Mn A (g j).1 x) → (Xe f g m i left acc).2.2 = 0 →
      (Xe f g m i left acc).1.length = n ∧ (∀ (j : Nat) x, (Xe f g m i left acc).1[j]? = some x → (g j).2 = 0 ∧ Mn A (g j).1 x) ∧ (ndl (Xe f g m i left acc).1 : Int) ≤ ndl acc + (m : Int) * e + (left - (Xe f g m i left acc).2.1)
  | 0, i, left, acc, hi, h0, ha, hA, h => by
    refine ⟨by simp only [Xe]; omega, by simp only [Xe]; exact hA, ?_⟩
    simp only [Xe]
    omega
  | m + 1, i, left, acc, hi, h0, ha, hA, h => by
    rw [Xe] at h ⊢
    by_cases h1 : (g i).2 ≠ 0
    · rw [if_pos h1] at h; exact absurd h h1
    rw [if_neg h1] at h ⊢
    by_cases h2 : (f (g i).1 left).2.2 ≠ 0
    · rw [if_pos h2] at h; exact absurd h h2
    rw [if_neg h2] at h ⊢
    obtain ⟨a1, a2, a3⟩ := hQ i left (by omega) h0 (by omega) (by omega)
    obtain ⟨b1, b2, b3⟩ := Zw7 hQ m (i + 1) _ _ (by omega) a3 (by rw [List.length_append, ha]; rfl) (fun j x hx => by
      rcases Nat.lt_or_ge j acc.length with hj | hj
      · rw [List.getElem?_append_left hj] at hx; exact hA j x hx
      rw [List.getElem?_append_right hj] at hx
      have hj0 : j - acc.length = 0 := by
        rcases Nat.eq_zero_or_pos (j - acc.length) with q | q
        · exact q
        rw [List.getElem?_eq_none (by simp; omega)] at hx; cases hx
      rw [hj0] at hx
      simp only [List.getElem?_cons_zero, Option.some.injEq] at hx
      subst hx
      have : j = i := by omega
      subst this
      exact ⟨by omega, a1⟩) h
    refine ⟨b1, b2, ?_⟩
    rw [Zws] at b3
    have : (((m + 1 : Nat)) : Int) * e = (m : Int) * e + e := by rw [show ((m + 1 : Nat) : Int) = (m : Int) + 1 from rfl, Int.add_mul, Int.one_mul]
    rw [this]
    omega
def HM (A : Zk) (f : Zd → Int → Tr × Int × Int) : Prop := ∀ k left, OKr A k → 0 ≤ left → (f k left).2.2 = 0 → Mn A k (f k left).1 ∧ (nd (f k left).1 : Int) ≤ 1 + (left - (f k left).2.1) ∧ 0 ≤ (f k left).2.1
theorem Zxp : HM A bad := fun k left _ _ h => by simp [bad] at h
theorem Zhw {f : Zd → Int → Tr × Int × Int} {e : Int} {r : Zd} (hr : OKr A r) {left : Int} (h0 : 0 ≤ left)
    (hQ : ∀ (i : Nat) (l : Int), i < (Z8 r).toNat → 0 ≤ l → (Yw A r i).2 = 0 → (f (Yw A r i).1 l).2.2 = 0 → Mn A (Yw A r i).1 (f (Yw A r i).1 l).1 ∧ (nd (f (Yw A r i).1 l).1 : Int) ≤ e + (l - (f (Yw A r i).1 l).2.1) ∧ 0 ≤ (f (Yw A r i).1 l).2.1)
    (h : (Xe f (Yw A r) (Z8 r).toNat 0 left []).2.2 = 0) :
    Mn A r ⟨r.kind, Yn A r, (Xe f (Yw A r) (Z8 r).toNat 0 left []).1⟩ ∧ (nd ⟨r.kind, Yn A r, (Xe f (Yw A r) (Z8 r).toNat 0 left []).1⟩ : Int) ≤ 1 + Z8 r * e + (left - (Xe f (Yw A r) (Z8 r).toNat 0 left []).2.1) := by
  have hkn := Zcu hr
  obtain ⟨a1, a2, a3⟩ := Zw7 hQ (Z8 r).toNat 0 left [] (by omega) h0 rfl (fun j x hx => by simp at hx) h
  refine ⟨.mk hr rfl rfl ?_ (fun i x hx => (a2 i x hx).1) (fun i x hx => (a2 i x hx).2), ?_⟩
  · show ((Xe f (Yw A r) (Z8 r).toNat 0 left []).1.length : Int) = Z8 r
    rw [a1]
    omega
  rw [Zla]
  simp only
  rw [show (((Z8 r).toNat : Nat) : Int) = Z8 r by omega] at a3
  unfold ndl at a3
  simp only [List.map_nil, List.sum_nil] at a3
  omega
theorem Zwp (hw : WS A.segments) : ∀ d, HM A (Zbt A d) := fun d => by
  induction d using Nat.strongRecOn with
  | ind d ih =>
    intro r left hr h0 h
    have hP : ∀ k, 1 ≤ k → HM A (Vu A k d) := fun k hk => by
      unfold Vu
      split
      · exact ih _ (by omega)
      exact Zxp
    have hlf := Zhu hw d r left hr h0 h
    refine (fun (q : Mn A r (Zbt A d r left).1 ∧ (nd (Zbt A d r left).1 : Int) ≤ 1 + (left - (Zbt A d r left).2.1)) => ⟨q.1, q.2, hlf.1⟩) ?_
    have hwt := Zwg hw hr
    have hkn := Zcu hr
    rw [Zms] at h hlf ⊢
    unfold Zfv at h hlf ⊢
    by_cases k0 : r.kind = 0
    · rw [if_pos k0]
      have hz : Z8 r = 0 := by
        cases hr with
        | z => rfl
        | st => simp at k0
        | li k s a n hk => simp only at k0; omega
        | co => simp at k0
        | at_ => simp at k0
      refine ⟨.mk hr rfl rfl (by simp [hz]) (fun i x hx => by simp at hx) (fun i x hx => by simp at hx), ?_⟩
      rw [Zla]
      simp
    rw [if_neg k0] at h hlf ⊢
    by_cases hb : d < lvR r ∨ left < wtR r
    · rw [if_pos hb] at h; simp at h
    rw [if_neg hb] at h hlf ⊢
    simp only at h hlf ⊢
    by_cases k9 : r.kind = 9
    · have ef : Zaz A (Vu A 1 d) (Vu A 2 d) r = stK A (Vu A 2 d) := by unfold Zaz; rw [if_pos k9]
      rw [ef] at h hlf ⊢
      have ew : wtR r = 1 + r.count * (1 + r.words + r.ptrs) := by unfold wtR; rw [if_neg k0, if_neg (by omega), if_pos k9]
      have ekn : Z8 r = r.count := by unfold Z8; rw [if_neg (by omega)]
      have hrg : 0 ≤ r.words ∧ 0 ≤ r.ptrs := by
        cases hr with
        | z => simp [r0] at k0
        | st => simp at k9
        | li k s a n hk => simp only at k9; omega
        | co s a d' p n hd hp => simp only; omega
        | at_ => simp at k9
      obtain ⟨m1, m2⟩ := Zhw (e := 1 + r.ptrs) hr (left := left - wtR r) (by omega) (fun i l hi hl g0 e0 => by
        have hks := Zxr (A := A) k9 (i := (i : Int)) (by omega)
        have hko := Vd hr (i : Int)
        have e1 : (Yw A r (i : Int)).1.kind = 1 := by rw [hks]
        have e3 : (Yw A r (i : Int)).1.ptrs = r.ptrs := by rw [hks]
        have ek : Z8 (Yw A r (i : Int)).1 = r.ptrs := by unfold Z8; rw [if_pos e1, e3]
        unfold stK at e0 ⊢
        simp only at e0 ⊢
        rw [e3, ← ek] at e0 ⊢
        have hgl := Zhs (Zi4 hw 2 d) (fun i' => Vd hko i') _ _ _ [] hl e0
        obtain ⟨n1, n2⟩ := Zhw (f := Vu A 2 d) (e := 1) hko hl (fun i' l' hi' hl' g0' e0' => hP 2 (by omega) _ _ (Vd hko i') hl' e0') e0
        rw [e1] at n1 n2
        rw [ek] at n1 n2 hgl ⊢
        exact ⟨n1, by omega, hgl.1⟩) h
      refine ⟨m1, ?_⟩
      have : Z8 r * (1 + r.ptrs) ≤ r.count * (1 + r.words + r.ptrs) := by
        rw [ekn]
        exact Int.mul_le_mul_of_nonneg_left (by omega) (by omega)
      omega
    by_cases k18 : r.kind = 1 ∨ r.kind = 8
    · have ef : Zaz A (Vu A 1 d) (Vu A 2 d) r = Vu A 1 d := by unfold Zaz; rw [if_neg k9, if_pos k18]
      rw [ef] at h hlf ⊢
      obtain ⟨m1, m2⟩ := Zhw (e := 1) hr (left := left - wtR r) (by omega) (fun i l hi hl g0 e0 => hP 1 (by omega) _ _ (Vd hr i) hl e0) h
      refine ⟨m1, ?_⟩
      have : 1 + Z8 r ≤ wtR r := by
        unfold wtR Z8
        rw [if_neg k0]
        by_cases k1 : r.kind = 1
        · rw [if_pos k1, if_pos k1]
          cases hr with
          | z => simp [r0] at k0
          | st s a d' p hd hp => simp only; omega
          | li k s a n hk => simp only at k1; omega
          | co s a d' p n hd hp => simp at k1
          | at_ => simp at k1
        rw [if_neg k1, if_neg k9, if_neg k1]
        omega
      omega
    have ef : Zaz A (Vu A 1 d) (Vu A 2 d) r = Zhc A := by unfold Zaz; rw [if_neg k9, if_neg k18]
    rw [ef] at h hlf ⊢
    have hnn : Z8 r = 0 ∨ 2 ≤ r.kind ∧ r.kind ≤ 7 := by
      cases hr with
      | z => exact .inl rfl
      | st => simp at k18
      | li k s a n hk => simp only at k18 ⊢; exact .inr (by omega)
      | co => simp at k9
      | at_ => exact .inl rfl
    obtain ⟨m1, m2⟩ := Zhw (f := Zhc A) (e := 1) hr (left := left - wtR r) (by omega) (fun i l hi hl g0 e0 => by
      have hks := Zxq (A := A) (r := r) (by omega) (i := (i : Int)) (by omega)
      have e2 : Z8 (Yw A r (i : Int)).1 = 0 := by rw [hks]; rfl
      refine ⟨.mk (Vd hr i) rfl rfl (by simp [Zhc, e2]) (fun i x hx => by simp [Zhc] at hx) (fun i x hx => by simp [Zhc] at hx), ?_, hl⟩
      rw [Zla]
      simp [Zhc]) h
    refine ⟨m1, ?_⟩
    have : 1 + Z8 r ≤ wtR r := by
      unfold wtR Z8
      rw [if_neg k0, if_neg (by omega), if_neg (by omega), if_neg k9]
      omega
    omega
end
theorem Zw1 {α : Type} (p : α → Bool) (l : List α) : trN p l l.length = (tr p l).length := by
  obtain ⟨h1, h2⟩ := Zr0 (p := p) (l := l) l.length (Nat.le_refl _)
  rw [List.take_length] at h1
  rw [← h1, List.length_take]
  omega
theorem Zpk {α R : Type} (l : List α) (p : α → Bool) (step : Int → Option (Int ⊕ R)) (g : Nat → R)
    (h0 : step 0 = some (.inr (g 0))) (h1 : ∀ (n : Nat) (x : α), l[n]? = some x → n < l.length → step ((n + 1 : Nat) : Int) = some (if p x = true then .inl (n : Int) else .inr (g (n + 1)))) : Yc step (l.length : Int) = some (g (tr p l).length) := by
  have key : ∀ n : Nat, n ≤ l.length → Yc step (n : Int) = some (g (trN p l n)) := fun n => by
    induction n with
    | zero => intro _; exact Xh h0
    | succ n ih =>
      intro hn
      have hx : l[n]? = some l[n] := List.getElem?_eq_getElem (by omega)
      have h := h1 n _ hx (by omega)
      unfold trN
      rw [hx]
      simp only
      split
      · rename_i hp
        rw [if_pos hp] at h
        rw [Jf h]
        exact ih (by omega)
      rename_i hp
      rw [if_neg hp] at h
      exact Xh h
  rw [← Zw1]
  exact key l.length (Nat.le_refl _)
section
variable {A B : Zk}
theorem Mn.ok {r : Zd} {t : Tr} (h : Mn A r t) : OKr A r := by cases h; assumption
theorem Mn.kd {r : Zd} {t : Tr} (h : Mn A r t) : t.Kind = r.kind := by cases h; assumption
theorem Mn.wd {r : Zd} {t : Tr} (h : Mn A r t) : t.Words = Yn A r := by cases h; assumption
theorem Mn.ln {r : Zd} {t : Tr} (h : Mn A r t) : (t.Kids.length : Int) = Z8 r := by cases h; assumption
theorem Mn.er {r : Zd} {t : Tr} (h : Mn A r t) : ∀ (i : Nat) (x : Tr), t.Kids[i]? = some x → (Yw A r i).2 = 0 := by cases h; assumption
theorem Mn.kid {r : Zd} {t : Tr} (h : Mn A r t) : ∀ (i : Nat) (x : Tr), t.Kids[i]? = some x → Mn A (Yw A r i).1 x := by cases h; assumption
theorem Zsh (hw : WS A.segments) {r : Zd} (h : OKr A r) : Vt r = some ((tr (fun x => x == 0) (Yn A r)).length : Int) := by
  have hl := Zkn hw h
  have hle := Zll h
  have hloop := Zpk (Yn A r) (fun x => x == 0) (V2 r) (fun n => (n : Int)) rfl (fun n x hx hn => by
    unfold V2
    rw [Zyn, cond_true, Y0 (by omega) (by omega), show ((n + 1 : Nat) : Int) - 1 = (n : Int) by omega, Zor hw h, Option.bind_some]
    have : Zp7 A r n = x := by
      rw [← Zha hw h hn]
      rw [List.getElem?_eq_getElem hn] at hx
      injection hx
    rw [this]
    simp only [Option.bind_some, cond_true]
    cases x == 0 <;> rfl)
  unfold Vt
  rw [Zlc, ← hl, Option.bind_some, hloop]
  rfl
theorem Zss {p : Int → Bool} {l : List Int} {i : Nat} (hi : i < (tr p l).length) : ∃ h : i < l.length, (tr p l)[i]? = some (l[i]'h) := by
  have h := Zst p l
  have hl := Zon p l
  refine ⟨by omega, ?_⟩
  rw [← h, List.getElem?_take, if_pos hi, List.getElem?_eq_getElem (by omega)]
theorem Znm (hA : WS A.segments) (hB : WS B.segments) {a b : Zd} (ha : OKr A a) (hb : OKr B b) : Ja a b = some (tr (fun x => x == 0) (Yn A a) == tr (fun x => x == 0) (Yn B b)) := by
  have hle := Zll ha
  have htl := Zon (fun x : Int => x == 0) (Yn A a)
  unfold Ja
  rw [Zsh hA ha, Option.bind_some, Zsh hB hb, Option.bind_some, Zt9]
  by_cases hl : (tr (fun x => x == 0) (Yn B b)).length = (tr (fun x => x == 0) (Yn A a)).length
  · rw [show (!((tr (fun x => x == 0) (Yn B b)).length == (tr (fun x => x == 0) (Yn A a)).length)) = false by simp [hl], cond_false]
    rw [Zuh (tr (fun x => x == 0) (Yn A a)) (tr (fun x => x == 0) (Yn B b)) (Qg a b ((tr (fun x => x == 0) (Yn A a)).length : Int)) (.inl ()) (.inr ()) hl.symm (by omega) (fun i x y hi hx hy => by
      unfold Qg
      obtain ⟨i1, e1⟩ := Zss hi
      obtain ⟨i2, e2⟩ := Zss (l := Yn B b) (p := fun x => x == 0) (i := i) (by omega)
      rw [e1] at hx
      rw [e2] at hy
      injection hx with hx
      injection hy with hy
      rw [Zxv hi, cond_true, Zor hA ha, Option.bind_some, Zor hB hb, Option.bind_some, ← Zha hA ha i1, ← Zha hB hb i2, hx, hy]
      cases x != y <;> rfl) (by unfold Qg; rw [Zxu]; rfl)]
    cases tr (fun x => x == 0) (Yn A a) == tr (fun x => x == 0) (Yn B b) <;> rfl
  rw [show (!((tr (fun x => x == 0) (Yn B b)).length == (tr (fun x => x == 0) (Yn A a)).length)) = true by simp [hl], cond_true, Zwl (fun q => hl q.symm)]
theorem Zv7 (hw : WS A.segments) {r : Zd} {t : Tr} (h : Mn A r t) : Ga r = some (((tr (fun x => x.Kind == 0) t.Kids).length : Int), 0) := by
  have hl := h.ln
  have hkn := Zcu h.ok
  have hloop := Zpk (R := (Int × Int) ⊕ Unit) t.Kids (fun x => x.Kind == 0) (V3 r) (fun n => match n with | 0 => .inr () | n + 1 => .inl (((n + 1 : Nat) : Int), 0)) rfl (fun n x hx hn => by
    have e1 := h.er n x hx
    have e2 := (h.kid n x hx).kd
    unfold V3
    rw [Zyn, cond_true, Y0 (by omega) (by omega), show ((n + 1 : Nat) : Int) - 1 = (n : Int) by omega, Zqr hw h.ok, Option.bind_some, e1, show ((0 : Int) != 0) = false from rfl, cond_false, show Ys (Yw A r n).1 = some (Yw A r n).1.kind from rfl, Option.bind_some, cond_false, Option.bind_some, ← e2]
    rcases Bool.eq_false_or_eq_true (x.Kind == 0) with q | q
    · rw [show (x.Kind != 0) = false by unfold bne; rw [q]; rfl, cond_false, if_pos q]
    rw [show (x.Kind != 0) = true by unfold bne; rw [q]; rfl, cond_true, if_neg (by rw [q]; decide)])
  unfold Ga
  rw [Zjm, ← hl, Option.bind_some, hloop]
  cases (tr (fun x => x.Kind == 0) t.Kids).length <;> rfl
def tk (t : Tr) : List Tr := if t.Kind = 1 then tr (fun x => x.Kind == 0) t.Kids else t.Kids
theorem Zv1 (t : Tr) {i : Nat} {x : Tr} (h : (tk t)[i]? = some x) : t.Kids[i]? = some x := by
  unfold tk at h
  split at h
  · rw [← Zst, List.getElem?_take] at h
    split at h
    · exact h
    cases h
  exact h
theorem Zx9 {t x : Tr} (h : x ∈ tk t) : x ∈ t.Kids := by
  unfold tk at h
  split at h
  · exact Zv3 h
  exact h
theorem Zxx (t : Tr) : ndl (tk t) + 1 ≤ nd t := by
  rw [Zla]
  unfold ndl tk
  split
  · have := Zv4 (fun x : Tr => x.Kind == 0) nd t.Kids
    omega
  omega
theorem Zoy (hw : WS A.segments) {r : Zd} {t : Tr} (h : Mn A r t) : Kw r = some (((tk t).length : Int), 0) := by
  have hk := h.kd
  unfold Kw tk
  rw [show Ys r = some r.kind from rfl, Option.bind_some, ← hk]
  by_cases h1 : t.Kind = 1
  · rw [show (t.Kind != 1) = false from by rw [h1]; rfl, cond_false, Zv7 hw h, if_pos h1]
    rfl
  rw [show (t.Kind != 1) = true from bne_iff_ne.2 h1, cond_true, Zjm, if_neg h1, h.ln]
  rfl
def eqv (t u : Tr) : Bool := eqT (nrm t) (nrm u)
theorem Ztz {t u : Tr} (h : t.Kind ≠ u.Kind) : eqv t u = false := by
  unfold eqv
  rw [Zin, Zcv, Zcv, beq_eq_false_iff_ne.2 h]
  rfl
theorem Mn.w0 {r : Zd} {t : Tr} (h : Mn A r t) (h1 : t.Kind ≠ 1) (h10 : t.Kind ≠ 10) : t.Words = [] := by
  rw [h.wd]
  unfold Yn
  rw [← h.kd, if_neg h10, if_neg h1]
theorem Mn.w1 {r : Zd} {t : Tr} (h : Mn A r t) (h10 : t.Kind = 10) : ∃ x, t.Words = [x] := by
  rw [h.wd]
  unfold Yn
  rw [← h.kd, if_pos h10]
  exact ⟨_, rfl⟩
theorem Mn.k0 {r : Zd} {t : Tr} (h : Mn A r t) (h0 : t.Kind = 0) : t.Kids = [] := by
  have hl := h.ln
  have hz : Z8 r = 0 := by
    have hk := h.kd
    have hr := h.ok
    cases hr with
    | z => rfl
    | st => simp at hk; omega
    | li k s a n hk' => simp only at hk; omega
    | co => simp at hk; omega
    | at_ => simp at hk; omega
  exact List.eq_nil_of_length_eq_zero (by omega)
theorem Zya (x y : Int) : (tr (fun x => x == 0) [x] == tr (fun x => x == 0) [y]) = ([x] == [y]) := by
  have e : ∀ x : Int, tr (fun x => x == 0) [x] = if x = 0 then [] else [x] := fun x => by
    rw [Zp4 (l := []) rfl]
    simp only [beq_iff_eq]
  rw [e, e]
  by_cases hx : x = 0
  · by_cases hy : y = 0
    · rw [if_pos hx, if_pos hy, hx, hy]; rfl
    rw [if_pos hx, if_neg hy, hx]
    rw [Bool.eq_iff_iff, beq_iff_eq, beq_iff_eq]
    exact ⟨fun q => by (cases q), fun q => by injection q with q; exact absurd q.symm hy⟩
  by_cases hy : y = 0
  · rw [if_neg hx, if_pos hy, hy]
    rw [Bool.eq_iff_iff, beq_iff_eq, beq_iff_eq]
    exact ⟨fun q => by (cases q), fun q => by injection q with q; exact absurd q hx⟩
  rw [if_neg hx, if_neg hy]
theorem Zxi {a b : Zd} {t u : Tr} (ha : Mn A a t) (hb : Mn B b u) (hk : t.Kind = u.Kind) : eqv t u = ((tr (fun x => x == 0) t.Words == tr (fun x => x == 0) u.Words) && eqL ((tk t).map nrm) ((tk u).map nrm)) := by
  unfold eqv
  rw [Zin, Zcv, Zcv, beq_iff_eq.2 hk, Bool.true_and]
  by_cases h0 : t.Kind = 0
  · have h0' : u.Kind = 0 := hk ▸ h0
    rw [Zpo h0, Zpo h0', ha.w0 (by omega) (by omega), hb.w0 (by omega) (by omega)]
    unfold tk
    rw [if_neg (by omega), if_neg (by omega), ha.k0 h0, hb.k0 h0']
    rfl
  by_cases h1 : t.Kind = 1
  · have h1' : u.Kind = 1 := hk ▸ h1
    have q1 : ∀ l : List Tr, tr (fun x : Tr => x.Kind == 0) (l.map nrm) = (tr (fun x : Tr => x.Kind == 0) l).map nrm := Zv2 (fun x => by rw [Zcv])
    rw [Uq h1, Uq h1']
    unfold tk
    rw [if_pos h1, if_pos h1', q1, q1]
  have h0' : ¬ u.Kind = 0 := fun q => h0 (hk.trans q)
  have h1' : ¬ u.Kind = 1 := fun q => h1 (hk.trans q)
  rw [Zpn h0 h1, Zpn h0' h1']
  unfold tk
  rw [if_neg h1, if_neg h1']
  by_cases h10 : t.Kind = 10
  · obtain ⟨x, ex⟩ := ha.w1 h10
    obtain ⟨y, ey⟩ := hb.w1 (hk ▸ h10)
    rw [ex, ey, Zya]
  rw [ha.w0 h1 h10, hb.w0 h1' (fun q => h10 (hk.trans q))]
  rfl
end
section
variable {A B : Zk}
theorem Zoz (hA : WS A.segments) (hB : WS B.segments) {F : Zh → Zd → Zd → Option (Bool × Int × Zh)} {a b : Zd} (ha : OKr A a) (hb : OKr B b) {n : Nat} (hn : n ≤ 1073741824) :
    ∀ (ks ls : List Tr) (i : Nat) (c : Int), n = i + ks.length → ks.length = ls.length → (∀ (j : Nat) x, ks[j]? = some x → (Yw A a ((i + j : Nat) : Int)).2 = 0 ∧ Mn A (Yw A a ((i + j : Nat) : Int)).1 x) → (∀ (j : Nat) x, ls[j]? = some x → (Yw B b ((i + j : Nat) : Int)).2 = 0 ∧ Mn B (Yw B b ((i + j : Nat) : Int)).1 x) →
      (∀ x ∈ ks, ∀ p q y (c : Int), Mn A p x → Mn B q y → (nd x : Int) ≤ c → c ≤ 70000 → ∃ c', F ⟨c⟩ p q = some (eqv x y, 0, ⟨c'⟩) ∧ c - nd x ≤ c' ∧ c' ≤ c) → (ndl ks : Int) ≤ c → c ≤ 70000 →
      ∃ c', Yc (Ye F a b (n : Int)) ((i : Int), c) = some (if eqL (ks.map nrm) (ls.map nrm) = true then .inr c' else .inl (0, c')) ∧ c - ndl ks ≤ c' ∧ c' ≤ c
  | [], [], i, c, hi, _, _, _, _, hc, hc2 => by
    refine ⟨c, ?_, by omega, Int.le_refl _⟩
    refine Xh ?_
    unfold Ye
    simp only [List.length_nil, Nat.add_zero] at hi
    subst hi
    simp only
    rw [Zxu, cond_false]
    rfl
  | [], y :: ls, i, c, hi, hl, _, _, _, hc, hc2 => by simp at hl
  | x :: ks, [], i, c, hi, hl, _, _, _, hc, hc2 => by simp at hl
  | x :: ks, y :: ls, i, c, hi, hl, hk, hk', ih, hc, hc2 => by
    obtain ⟨a1, a2⟩ := hk 0 x rfl
    obtain ⟨b1, b2⟩ := hk' 0 y rfl
    rw [Nat.add_zero] at a1 a2 b1 b2
    have hnd : (ndl (x :: ks) : Int) = nd x + ndl ks := by unfold ndl; rw [List.map_cons, List.sum_cons]; omega
    rw [hnd] at hc ⊢
    obtain ⟨c1, e1, l1, l2⟩ := ih x (.head _) _ _ y c a2 b2 (by omega) hc2
    simp only [List.length_cons] at hi hl
    have hs : Ye F a b (n : Int) ((i : Int), c) = some (if eqv x y = true then .inl (((i + 1 : Nat) : Int), c1) else .inr (.inl (0, c1))) := by
      unfold Ye
      simp only
      rw [Zxv (by omega), cond_true, Zqr hA ha, Option.bind_some, a1, show ((0 : Int) != 0) = false from rfl, cond_false, Zqr hB hb, Option.bind_some, b1, show ((0 : Int) != 0) = false from rfl, cond_false, e1, Option.bind_some]
      simp only
      rw [show ((0 : Int) != 0) = false from rfl, Y0 (by omega) (by omega)]
      cases eqv x y <;> rfl
    rw [List.map_cons, List.map_cons, Zim]
    by_cases q : eqv x y = true
    · rw [if_pos q] at hs
      rw [Jf hs]
      obtain ⟨c', f1, f2, f3⟩ := Zoz hA hB ha hb hn ks ls (i + 1) c1 (by omega) (by omega) (fun j x hx => by
        have := hk (j + 1) x hx
        rw [show i + 1 + j = i + (j + 1) by omega]
        exact this) (fun j x hx => by
        have := hk' (j + 1) x hx
        rw [show i + 1 + j = i + (j + 1) by omega]
        exact this) (fun z hz => ih z (.tail _ hz)) (by omega) (by omega)
      refine ⟨c', ?_, by omega, by omega⟩
      rw [f1, show eqT (nrm x) (nrm y) = true from q, Bool.true_and]
    rw [if_neg q] at hs
    refine ⟨c1, ?_, by have : 0 ≤ (ndl ks : Int) := by omega
                       omega, l2⟩
    rw [Xh hs, show eqT (nrm x) (nrm y) = false from by unfold eqv at q; simpa using q, Bool.false_and, if_neg (by decide)]
theorem Zxw (t : Tr) : 1 ≤ nd t := by rw [Zla]; omega
theorem Zw5 (hA : WS A.segments) (hB : WS B.segments) : ∀ (K : Nat), (∀ a b t u (c : Int), Mn A a t → Mn B b u → 2 * SizeOf.sizeOf t + 1 < K → (nd t : Int) ≤ c → c ≤ 70000 → ∃ c', (Zq K).1 ⟨c⟩ a b = some (eqv t u, 0, ⟨c'⟩) ∧ c - nd t ≤ c' ∧ c' ≤ c) ∧
    (∀ a b t u (c : Int), Mn A a t → Mn B b u → 2 * SizeOf.sizeOf t < K → (tk t).length = (tk u).length → (ndl (tk t) : Int) ≤ c → c ≤ 70000 → ∃ c', (Zq K).2 ⟨c⟩ a b ((tk t).length : Int) = some (eqL ((tk t).map nrm) ((tk u).map nrm), 0, ⟨c'⟩) ∧ c - ndl (tk t) ≤ c' ∧ c' ≤ c)
  | 0 => ⟨fun a b t u c _ _ h => by omega, fun a b t u c _ _ h => by omega⟩
  | K + 1 => by
    obtain ⟨i1, i2⟩ := Zw5 hA hB K
    refine ⟨fun a b t u c ha hb hK hc hc2 => ?_, fun a b t u c ha hb hK hl hc hc2 => ?_⟩
    · show ∃ c', Yp (Zq K).1 (Zq K).2 ⟨c⟩ a b = _ ∧ _
      have hp := Zxw t
      have hp2 := Zxx t
      unfold Yp
      simp only
      rw [Ka (show ¬ c = 0 by omega), cond_false, show Ys a = some a.kind from rfl, show Ys b = some b.kind from rfl, Option.bind_some, Option.bind_some, ← ha.kd, ← hb.kd, Y0 (x := c - 1) (by omega) (by omega), Znm hA hB ha.ok hb.ok]
      by_cases hk : t.Kind = u.Kind
      · rw [show (t.Kind != u.Kind) = false from bne_eq_false_iff_eq.2 hk, cond_false, Option.bind_some, cond_false, Option.bind_some, Zxi ha hb hk, ← ha.wd, ← hb.wd]
        cases hw : tr (fun x => x == 0) t.Words == tr (fun x => x == 0) u.Words with
        | false => exact ⟨c - 1, rfl, by omega, by omega⟩
        | true =>
          simp only [Bool.not_true, cond_false, Bool.true_and]
          rw [Zoy hA ha, Option.bind_some]
          simp only
          rw [show ((0 : Int) != 0) = false from rfl, cond_false, Zoy hB hb, Option.bind_some]
          simp only
          rw [show ((0 : Int) != 0) = false from rfl, cond_false, Zt9]
          by_cases hl : (tk t).length = (tk u).length
          · rw [show (!((tk t).length == (tk u).length)) = false by simp [hl], cond_false]
            obtain ⟨c', e1, e2, e3⟩ := i2 a b t u (c - 1) ha hb (by omega) hl (by omega) (by omega)
            refine ⟨c', ?_, by omega, by omega⟩
            rw [e1]
            rfl
          rw [show (!((tk t).length == (tk u).length)) = true by simp [hl], cond_true, Zsd _ _ (by simpa using hl)]
          exact ⟨c - 1, rfl, by omega, by omega⟩
      rw [bne_iff_ne.2 hk, cond_true, Option.bind_some, cond_true, Ztz hk]
      exact ⟨c - 1, rfl, by omega, by omega⟩
    show ∃ c', Yf (Zq K).1 (Zq K).2 ⟨c⟩ a b _ = _ ∧ _
    have hkn := Zcu ha.ok
    have hln := ha.ln
    have htk : (tk t).length ≤ t.Kids.length := by
      unfold tk
      split
      · exact Zon _ _
      exact Nat.le_refl _
    obtain ⟨c', e1, e2, e3⟩ := Zoz hA hB (F := (Zq K).1) ha.ok hb.ok (n := (tk t).length) (by omega) (tk t) (tk u) 0 c (by omega) hl (fun j x hx => by
      have := Zv1 t hx
      rw [Nat.zero_add]
      exact ⟨ha.er j x this, ha.kid j x this⟩) (fun j x hx => by
      have := Zv1 u hx
      rw [Nat.zero_add]
      exact ⟨hb.er j x this, hb.kid j x this⟩) (fun x hx p q y c hp hq h1 h2 => i1 p q x y c hp hq (by have := Zi2 (Zx9 hx); omega) h1 h2) hc hc2
    unfold Yf
    rw [show (((0 : Nat)) : Int) = 0 from rfl] at e1
    refine ⟨c', ?_, e2, e3⟩
    simp only
    rw [e1]
    cases eqL ((tk t).map nrm) ((tk u).map nrm) <;> rfl
theorem Zse : ∀ (k : Nat), LE3 (Zq k).1 (Zq (k + 1)).1 ∧ ∀ x y z w r, (Zq k).2 x y z w = some r → (Zq (k + 1)).2 x y z w = some r
  | 0 => ⟨fun x y z r h => (by cases h), fun x y z w r h => (by cases h)⟩
  | k + 1 => by
    obtain ⟨i1, i2⟩ := Zse k
    refine ⟨fun x y z r h => ?_, fun x y z w r h => ?_⟩
    · have h' : Yp (Zq k).1 (Zq k).2 x y z = some r := h
      show Yp (Zq (k + 1)).1 (Zq (k + 1)).2 x y z = some r
      unfold Yp at h' ⊢
      refine Zbs _ (fun _ h => h) (fun r h => Zau (fun _ h => h) (fun z r h => Zbs _ (fun _ h => h) (fun r h => Zau (fun _ h => h) (fun z r h => Zbs _ (fun _ h => h) (fun r h => Zau (fun _ h => h) (fun z r h => Zbs _ (fun _ h => h) (fun r h => Zau (fun z h => i2 _ _ _ _ _ h) (fun _ _ h => h) h) r h) h) r h) h) r h) h) r h'
    have h' : Yf (Zq k).1 (Zq k).2 x y z w = some r := h
    show Yf (Zq (k + 1)).1 (Zq (k + 1)).2 x y z w = some r
    unfold Yf at h' ⊢
    refine Zau (fun q h => Zq8 (fun s q h => ?_) h) (fun _ _ h => h) h'
    unfold Ye at h ⊢
    refine Zbs _ (fun r h => Zau (fun _ h => h) (fun z r h => Zbs _ (fun _ h => h) (fun r h => Zau (fun _ h => h) (fun z r h => Zbs _ (fun _ h => h) (fun r h => Zau (fun q h => i1 _ _ _ _ h) (fun _ _ h => h) h) r h) h) r h) h) (fun _ h => h) q h
theorem Zan (hA : WS A.segments) (hB : WS B.segments) {a b : Zd} {t u : Tr} (ha : Mn A a t) (hb : Mn B b u) (hn : (nd t : Int) ≤ 65537) : Xb a b = some (eqv t u, 0) := by
  obtain ⟨c', e1, _⟩ := (Zw5 hA hB (2 * SizeOf.sizeOf t + 2)).1 a b t u 65537 ha hb (by omega) hn (by omega)
  have : Kg ⟨65537⟩ a b = some (eqv t u, 0, ⟨c'⟩) := Zue (fun k r h => (Zse k).1 _ _ _ r h) e1
  unfold Xb
  rw [this]
  rfl
end
theorem Zr1 {A : Zk} (hw : WS A.segments) (x : Z5) (h : (Zfb A x).2.2 = 0) : Mn A (atR A 0 0).1 (Zfb A x).1 ∧ (nd (Zfb A x).1 : Int) ≤ 65537 := by
  have hW : 0 ≤ (Gf x).Weight ∧ (Gf x).Weight ≤ 65536 := Zil _ _ (by decide)
  unfold Zfb at h ⊢
  by_cases h1 : (atR A 0 0).2 ≠ 0
  · rw [if_pos h1] at h; exact absurd h h1
  rw [if_neg h1] at h ⊢
  simp only at h ⊢
  by_cases hq : (Zbt A (Gf x).Depth.toNat (atR A 0 0).1 (Gf x).Weight).2.2 ≠ 0
  · rw [if_pos hq] at h; exact absurd h hq
  rw [if_neg hq] at h ⊢
  obtain ⟨a1, a2, a3⟩ := Zwp hw (Gf x).Depth.toNat (atR A 0 0).1 (Gf x).Weight (Zcc 0 0) hW.1 (by omega)
  exact ⟨a1, by simp only; omega⟩
theorem Gw {l : List (List Int)} (hw : WS l) : Ym l = some (atR ⟨l, 0, 0⟩ 0 0).1 := by
  unfold Ym
  rw [Zxc hw, Option.bind_some, Zwz (A := ⟨l, 0, 0⟩) hw, Option.bind_some]
theorem Zxl : fol [[4294967296, 7]] 0 0 = (⟨⟨1, 0, 1, 0, 0, 0, 0, false⟩, 0, 1⟩, 0) := rfl
theorem Zxm : fol [[8589934592, 7, 0]] 0 0 = (⟨⟨1, 0, 2, 0, 0, 0, 0, false⟩, 0, 1⟩, 0) := rfl
theorem Zxn : fol [[4294967296, 8]] 0 0 = (⟨⟨1, 0, 1, 0, 0, 0, 0, false⟩, 0, 1⟩, 0) := rfl
theorem Zmt {A : Zk} {r : Zd} {ws : List Int} (hr : OKr A r) (h1 : r.kind = 1) (h2 : Yn A r = ws) (h3 : r.ptrs = 0) : Mn A r ⟨1, ws, []⟩ :=
  .mk hr h1.symm h2.symm (by unfold Z8; rw [if_pos h1, h3]; rfl) (fun i x hx => by simp at hx) (fun i x hx => by simp at hx)
theorem Zyg : (atR ⟨[[4294967296, 7]], 0, 0⟩ 0 0).1 = ⟨some ⟨[[4294967296, 7]], 0, 0⟩, 1, 0, 1, 1, 0, 0, 0, 0⟩ := by
  unfold atR
  simp only
  rw [Zxl]
  rfl
theorem Zyh : (atR ⟨[[8589934592, 7, 0]], 0, 0⟩ 0 0).1 = ⟨some ⟨[[8589934592, 7, 0]], 0, 0⟩, 1, 0, 1, 2, 0, 0, 0, 0⟩ := by
  unfold atR
  simp only
  rw [Zxm]
  rfl
theorem Zyi : (atR ⟨[[4294967296, 8]], 0, 0⟩ 0 0).1 = ⟨some ⟨[[4294967296, 8]], 0, 0⟩, 1, 0, 1, 1, 0, 0, 0, 0⟩ := by
  unfold atR
  simp only
  rw [Zxn]
  rfl
theorem Zw9 : Mn ⟨[[4294967296, 7]], 0, 0⟩ (atR ⟨[[4294967296, 7]], 0, 0⟩ 0 0).1 ⟨1, [7], []⟩ := by
  refine Zmt (Zcc 0 0) ?_ ?_ ?_ <;> rw [Zyg] <;> rfl
theorem Zyp : Mn ⟨[[8589934592, 7, 0]], 0, 0⟩ (atR ⟨[[8589934592, 7, 0]], 0, 0⟩ 0 0).1 ⟨1, [7, 0], []⟩ := by
  refine Zmt (Zcc 0 0) ?_ ?_ ?_ <;> rw [Zyh] <;> rfl
theorem Zyq : Mn ⟨[[4294967296, 8]], 0, 0⟩ (atR ⟨[[4294967296, 8]], 0, 0⟩ 0 0).1 ⟨1, [8], []⟩ := by
  refine Zmt (Zcc 0 0) ?_ ?_ ?_ <;> rw [Zyi] <;> rfl
theorem Zsl (ws : List Int) : nd ⟨1, ws, []⟩ = 1 := by rw [Zla]; rfl
theorem Zxg : eqv ⟨1, [7], []⟩ ⟨1, [7, 0], []⟩ = true := by
  unfold eqv
  rw [Uq rfl, Uq rfl, Zin]
  rfl
theorem Zxh : eqv ⟨1, [7], []⟩ ⟨1, [8], []⟩ = false := by
  unfold eqv
  rw [Uq rfl, Uq rfl, Zin]
  rfl
theorem Zdi : Xa = some true := by
  have ha : WS [[4294967296, 7]] := Zr9 _ (by simp) (by simp)
  have hb : WS [[8589934592, 7, 0]] := Zr9 _ (by simp) (by simp)
  have hc : WS [[4294967296, 8]] := Zr9 _ (by simp) (by simp)
  unfold Xa
  rw [Gw ha, Option.bind_some, Gw hb, Option.bind_some, Zan (A := ⟨[[4294967296, 7]], 0, 0⟩) (B := ⟨[[8589934592, 7, 0]], 0, 0⟩) ha hb Zw9 Zyp (by rw [Zsl]; decide), Option.bind_some, Option.bind_some, Gw hc, Option.bind_some, Zan (A := ⟨[[4294967296, 7]], 0, 0⟩) (B := ⟨[[4294967296, 8]], 0, 0⟩) ha hc Zw9 Zyq (by rw [Zsl]; decide), Option.bind_some, Zxg, Zxh]
  rfl
theorem Zt1 (t : Tr) : eqv t t = true := Ztx _
theorem Zty (t u : Tr) : eqv t u = eqv u t := Ztw _ _
theorem Zt0 {t u v : Tr} (h : eqv t u = true) : eqv t v = eqv u v := by
  unfold eqv at *
  rw [eqT_iff.1 h]
theorem Zo0 {l m n : List (List Int)} (hl : WS l) (hm : WS m) (hn : WS n) (x : Z5) : Qo l m n x = some true := by
  obtain ⟨w, hx⟩ := Zuc x
  unfold Qo
  rw [hx, Option.bind_some]
  generalize (⟨x.Depth, w, x.MaxD, x.MaxOut⟩ : Z5) = y
  rw [show Yj l y = _ from Zg8 (A := ⟨l, 0, 0⟩) hl y, Option.bind_some, show Yj m y = _ from Zg8 (A := ⟨m, 0, 0⟩) hm y, Option.bind_some, show Yj n y = _ from Zg8 (A := ⟨n, 0, 0⟩) hn y, Option.bind_some]
  have f1 := Zr1 (A := ⟨l, 0, 0⟩) hl y
  have f2 := Zr1 (A := ⟨m, 0, 0⟩) hm y
  have f3 := Zr1 (A := ⟨n, 0, 0⟩) hn y
  by_cases e1 : (Zfb ⟨l, 0, 0⟩ y).2.2 = 0
  · by_cases e2 : (Zfb ⟨m, 0, 0⟩ y).2.2 = 0
    · by_cases e3 : (Zfb ⟨n, 0, 0⟩ y).2.2 = 0
      · obtain ⟨a1, a2⟩ := f1 e1
        obtain ⟨b1, b2⟩ := f2 e2
        obtain ⟨c1, c2⟩ := f3 e3
        rw [e1, e2, e3, show ((0 : Int) != 0) = false from rfl, cond_false, cond_false, cond_false, Gw hl, Option.bind_some, Gw hm, Option.bind_some, Gw hn, Option.bind_some,
          Zan (A := ⟨l, 0, 0⟩) (B := ⟨l, 0, 0⟩) hl hl a1 a1 a2, Option.bind_some, Zan (A := ⟨l, 0, 0⟩) (B := ⟨m, 0, 0⟩) hl hm a1 b1 a2, Option.bind_some, Zan (A := ⟨m, 0, 0⟩) (B := ⟨l, 0, 0⟩) hm hl b1 a1 b2, Option.bind_some,
          Zan (A := ⟨m, 0, 0⟩) (B := ⟨n, 0, 0⟩) hm hn b1 c1 b2, Option.bind_some, Zan (A := ⟨l, 0, 0⟩) (B := ⟨n, 0, 0⟩) hl hn a1 c1 a2, Option.bind_some, Zdi]
        simp only [Zt1]
        rw [Zty (Zfb ⟨m, 0, 0⟩ y).1 (Zfb ⟨l, 0, 0⟩ y).1]
        cases q : eqv (Zfb ⟨l, 0, 0⟩ y).1 (Zfb ⟨m, 0, 0⟩ y).1 with
        | false => rfl
        | true =>
          rw [Zt0 q]
          cases eqv (Zfb ⟨m, 0, 0⟩ y).1 (Zfb ⟨n, 0, 0⟩ y).1 <;> rfl
      rw [e1, e2, bne_iff_ne.2 e3, show ((0 : Int) != 0) = false from rfl, cond_false, cond_false, cond_true, Zdi]
      rfl
    rw [e1, bne_iff_ne.2 e2, show ((0 : Int) != 0) = false from rfl, cond_false, cond_true, cond_true, Zdi]
    rfl
  rw [bne_iff_ne.2 e1, cond_true, cond_true, cond_true, Zdi]
  rfl
end Go.Proofs.Ytmlhokaflhlhbaa
