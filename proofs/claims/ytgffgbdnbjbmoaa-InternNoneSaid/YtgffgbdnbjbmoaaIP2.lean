/- Plain facts on this seat's mirrors (part IP2); each theorem bears its own conditions. -/
import Derived.Test.YtgffgbdnbjbmoaaIP1
import Derived.IntWalk
namespace Go.Proofs.Ytgffgbdnbjbmoaa
open Go.RowKit
set_option linter.unusedVariables false
set_option linter.unusedSimpArgs false
theorem Zyo (l : List Tr) (x : Tr) : ndl (l ++ [x]) = ndl l + nd x := by simp [ndl]
inductive Mn (A : Zf) : Za → Tr → Prop
  | mk {r : Za} {t : Tr} (hr : OKr A r) (hk : t.Kind = r.kind) (hw : t.Words = Ym A r) (hl : (t.Kids.length : Int) = Yj r) (he : ∀ (i : Nat) (x : Tr), t.Kids[i]? = some x → (J0 A r i).2 = 0) (h : ∀ (i : Nat) (x : Tr), t.Kids[i]? = some x → Mn A (J0 A r i).1 x) : Mn A r t
section
variable {A : Zf}
theorem Zzj {f : Za → Int → Tr × Int × Int} {g : Int → Za × Int} {e : Int} {n : Nat}
    (hQ : ∀ (i : Nat) (l : Int), i < n → 0 ≤ l → (g i).2 = 0 → (f (g i).1 l).2.2 = 0 → Mn A (g i).1 (f (g i).1 l).1 ∧ (nd (f (g i).1 l).1 : Int) ≤ e + (l - (f (g i).1 l).2.1) ∧ 0 ≤ (f (g i).1 l).2.1) :
    ∀ (m i : Nat) (left : Int) (acc : List Tr), i + m = n → 0 ≤ left → acc.length = i → (∀ (j : Nat) x, acc[j]? = some x → (g j).2 = 0 ∧ Mn A (g j).1 x) → (Jg f g m i left acc).2.2 = 0 →
      (Jg f g m i left acc).1.length = n ∧ (∀ (j : Nat) x, (Jg f g m i left acc).1[j]? = some x → (g j).2 = 0 ∧ Mn A (g j).1 x) ∧ (ndl (Jg f g m i left acc).1 : Int) ≤ ndl acc + (m : Int) * e + (left - (Jg f g m i left acc).2.1)
  | 0, i, left, acc, hi, h0, ha, hA, h => by
    refine ⟨by simp only [Jg]; omega, by simp only [Jg]; exact hA, ?_⟩
    simp only [Jg]
    omega
  | m + 1, i, left, acc, hi, h0, ha, hA, h => by
    rw [Jg] at h ⊢
    by_cases h1 : (g i).2 ≠ 0
    · rw [if_pos h1] at h; exact absurd h h1
    rw [if_neg h1] at h ⊢
    by_cases h2 : (f (g i).1 left).2.2 ≠ 0
    · rw [if_pos h2] at h; exact absurd h h2
    rw [if_neg h2] at h ⊢
    obtain ⟨a1, a2, a3⟩ := hQ i left (by omega) h0 (by omega) (by omega)
    obtain ⟨b1, b2, b3⟩ := Zzj hQ m (i + 1) _ _ (by omega) a3 (by rw [List.length_append, ha]; rfl) (fun j x hx => by
      rcases Nat.lt_or_ge j acc.length with hj | hj
      · rw [List.getElem?_append_left hj] at hx; exact hA j x hx
      rw [List.getElem?_append_right hj] at hx
      have hj0 : j - acc.length = 0 := by
        rcases Nat.eq_zero_or_pos (j - acc.length) with q | q
        · exact q
        rw [List.getElem?_eq_none (by simp; omega)] at hx; cases hx
      rw [hj0] at hx
      simp only [List.getElem?_cons_zero, Option.some.injEq] at hx
      subst hx
      have : j = i := by omega
      subst this
      exact ⟨by omega, a1⟩) h
    refine ⟨b1, b2, ?_⟩
    rw [Zyo] at b3
    have : (((m + 1 : Nat)) : Int) * e = (m : Int) * e + e := by rw [show ((m + 1 : Nat) : Int) = (m : Int) + 1 from rfl, Int.add_mul, Int.one_mul]
    rw [this]
    omega
def HM (A : Zf) (f : Za → Int → Tr × Int × Int) : Prop := ∀ k left, OKr A k → 0 ≤ left → (f k left).2.2 = 0 → Mn A k (f k left).1 ∧ (nd (f k left).1 : Int) ≤ 1 + (left - (f k left).2.1) ∧ 0 ≤ (f k left).2.1
theorem Z0b : HM A bad := fun k left _ _ h => by simp [bad] at h
theorem Zi2 {f : Za → Int → Tr × Int × Int} {e : Int} {r : Za} (hr : OKr A r) {left : Int} (h0 : 0 ≤ left)
    (hQ : ∀ (i : Nat) (l : Int), i < (Yj r).toNat → 0 ≤ l → (J0 A r i).2 = 0 → (f (J0 A r i).1 l).2.2 = 0 → Mn A (J0 A r i).1 (f (J0 A r i).1 l).1 ∧ (nd (f (J0 A r i).1 l).1 : Int) ≤ e + (l - (f (J0 A r i).1 l).2.1) ∧ 0 ≤ (f (J0 A r i).1 l).2.1)
    (h : (Jg f (J0 A r) (Yj r).toNat 0 left []).2.2 = 0) :
    Mn A r ⟨r.kind, Ym A r, (Jg f (J0 A r) (Yj r).toNat 0 left []).1⟩ ∧ (nd ⟨r.kind, Ym A r, (Jg f (J0 A r) (Yj r).toNat 0 left []).1⟩ : Int) ≤ 1 + Yj r * e + (left - (Jg f (J0 A r) (Yj r).toNat 0 left []).2.1) := by
  have hkn := Zd2 hr
  obtain ⟨a1, a2, a3⟩ := Zzj hQ (Yj r).toNat 0 left [] (by omega) h0 rfl (fun j x hx => by simp at hx) h
  refine ⟨.mk hr rfl rfl ?_ (fun i x hx => (a2 i x hx).1) (fun i x hx => (a2 i x hx).2), ?_⟩
  · show ((Jg f (J0 A r) (Yj r).toNat 0 left []).1.length : Int) = Yj r
    rw [a1]
    omega
  rw [Zmg]
  simp only
  rw [show (((Yj r).toNat : Nat) : Int) = Yj r by omega] at a3
  unfold ndl at a3
  simp only [List.map_nil, List.sum_nil] at a3
  omega
theorem Zyi (hw : WS A.segments) : ∀ d, HM A (Zit A d) := fun d => by
  induction d using Nat.strongRecOn with
  | ind d ih =>
    intro r left hr h0 h
    have hP : ∀ k, 1 ≤ k → HM A (Gj A k d) := fun k hk => by
      unfold Gj
      split
      · exact ih _ (by omega)
      exact Z0b
    have hlf := Ztq hw d r left hr h0 h
    refine (fun (q : Mn A r (Zit A d r left).1 ∧ (nd (Zit A d r left).1 : Int) ≤ 1 + (left - (Zit A d r left).2.1)) => ⟨q.1, q.2, hlf.1⟩) ?_
    have hwt := Zzu hw hr
    have hkn := Zd2 hr
    rw [Zts] at h hlf ⊢
    unfold Zkl at h hlf ⊢
    by_cases k0 : r.kind = 0
    · rw [if_pos k0]
      have hz : Yj r = 0 := by
        cases hr with
        | z => rfl
        | st => simp at k0
        | li k s a n hk => simp only at k0; omega
        | co => simp at k0
        | at_ => simp at k0
      refine ⟨.mk hr rfl rfl (by simp [hz]) (fun i x hx => by simp at hx) (fun i x hx => by simp at hx), ?_⟩
      rw [Zmg]
      simp
    rw [if_neg k0] at h hlf ⊢
    by_cases hb : d < lvR r ∨ left < wtR r
    · rw [if_pos hb] at h; simp at h
    rw [if_neg hb] at h hlf ⊢
    simp only at h hlf ⊢
    by_cases k9 : r.kind = 9
    · have ef : Znq A (Gj A 1 d) (Gj A 2 d) r = stK A (Gj A 2 d) := by unfold Znq; rw [if_pos k9]
      rw [ef] at h hlf ⊢
      have ew : wtR r = 1 + r.count * (1 + r.words + r.ptrs) := by unfold wtR; rw [if_neg k0, if_neg (by omega), if_pos k9]
      have ekn : Yj r = r.count := by unfold Yj; rw [if_neg (by omega)]
      have hrg : 0 ≤ r.words ∧ 0 ≤ r.ptrs := by
        cases hr with
        | z => simp [r0] at k0
        | st => simp at k9
        | li k s a n hk => simp only at k9; omega
        | co s a d' p n hd hp => simp only; omega
        | at_ => simp at k9
      obtain ⟨m1, m2⟩ := Zi2 (e := 1 + r.ptrs) hr (left := left - wtR r) (by omega) (fun i l hi hl g0 e0 => by
        have hks := Z0d (A := A) k9 (i := (i : Int)) (by omega)
        have hko := Zcw hr (i : Int)
        have e1 : (J0 A r (i : Int)).1.kind = 1 := by rw [hks]
        have e3 : (J0 A r (i : Int)).1.ptrs = r.ptrs := by rw [hks]
        have ek : Yj (J0 A r (i : Int)).1 = r.ptrs := by unfold Yj; rw [if_pos e1, e3]
        unfold stK at e0 ⊢
        simp only at e0 ⊢
        rw [e3, ← ek] at e0 ⊢
        have hgl := Zi0 (Zvx hw 2 d) (fun i' => Zcw hko i') _ _ _ [] hl e0
        obtain ⟨n1, n2⟩ := Zi2 (f := Gj A 2 d) (e := 1) hko hl (fun i' l' hi' hl' g0' e0' => hP 2 (by omega) _ _ (Zcw hko i') hl' e0') e0
        rw [e1] at n1 n2
        rw [ek] at n1 n2 hgl ⊢
        exact ⟨n1, by omega, hgl.1⟩) h
      refine ⟨m1, ?_⟩
      have : Yj r * (1 + r.ptrs) ≤ r.count * (1 + r.words + r.ptrs) := by
        rw [ekn]
        exact Int.mul_le_mul_of_nonneg_left (by omega) (by omega)
      omega
    by_cases k18 : r.kind = 1 ∨ r.kind = 8
    · have ef : Znq A (Gj A 1 d) (Gj A 2 d) r = Gj A 1 d := by unfold Znq; rw [if_neg k9, if_pos k18]
      rw [ef] at h hlf ⊢
      obtain ⟨m1, m2⟩ := Zi2 (e := 1) hr (left := left - wtR r) (by omega) (fun i l hi hl g0 e0 => hP 1 (by omega) _ _ (Zcw hr i) hl e0) h
      refine ⟨m1, ?_⟩
      have : 1 + Yj r ≤ wtR r := by
        unfold wtR Yj
        rw [if_neg k0]
        by_cases k1 : r.kind = 1
        · rw [if_pos k1, if_pos k1]
          cases hr with
          | z => simp [r0] at k0
          | st s a d' p hd hp => simp only; omega
          | li k s a n hk => simp only at k1; omega
          | co s a d' p n hd hp => simp at k1
          | at_ => simp at k1
        rw [if_neg k1, if_neg k9, if_neg k1]
        omega
      omega
    have ef : Znq A (Gj A 1 d) (Gj A 2 d) r = Zic A := by unfold Znq; rw [if_neg k9, if_neg k18]
    rw [ef] at h hlf ⊢
    have hnn : Yj r = 0 ∨ 2 ≤ r.kind ∧ r.kind ≤ 7 := by
      cases hr with
      | z => exact .inl rfl
      | st => simp at k18
      | li k s a n hk => simp only at k18 ⊢; exact .inr (by omega)
      | co => simp at k9
      | at_ => exact .inl rfl
    obtain ⟨m1, m2⟩ := Zi2 (f := Zic A) (e := 1) hr (left := left - wtR r) (by omega) (fun i l hi hl g0 e0 => by
      have hks := Z0c (A := A) (r := r) (by omega) (i := (i : Int)) (by omega)
      have e2 : Yj (J0 A r (i : Int)).1 = 0 := by rw [hks]; rfl
      refine ⟨.mk (Zcw hr i) rfl rfl (by simp [Zic, e2]) (fun i x hx => by simp [Zic] at hx) (fun i x hx => by simp [Zic] at hx), ?_, hl⟩
      rw [Zmg]
      simp [Zic]) h
    refine ⟨m1, ?_⟩
    have : 1 + Yj r ≤ wtR r := by
      unfold wtR Yj
      rw [if_neg k0, if_neg (by omega), if_neg (by omega), if_neg k9]
      omega
    omega
end
theorem Zy8 {α : Type} (p : α → Bool) (l : List α) : trN p l l.length = (tr p l).length := by
  obtain ⟨h1, h2⟩ := Zs9 (p := p) (l := l) l.length (Nat.le_refl _)
  rw [List.take_length] at h1
  rw [← h1, List.length_take]
  omega
theorem Zq3 {α R : Type} (l : List α) (p : α → Bool) (step : Int → Option (Int ⊕ R)) (g : Nat → R)
    (h0 : step 0 = some (.inr (g 0))) (h1 : ∀ (n : Nat) (x : α), l[n]? = some x → n < l.length → step ((n + 1 : Nat) : Int) = some (if p x = true then .inl (n : Int) else .inr (g (n + 1)))) : Z6 step (l.length : Int) = some (g (tr p l).length) := by
  have key : ∀ n : Nat, n ≤ l.length → Z6 step (n : Int) = some (g (trN p l n)) := fun n => by
    induction n with
    | zero => intro _; exact Xp h0
    | succ n ih =>
      intro hn
      have hx : l[n]? = some l[n] := List.getElem?_eq_getElem (by omega)
      have h := h1 n _ hx (by omega)
      unfold trN
      rw [hx]
      simp only
      split
      · rename_i hp
        rw [if_pos hp] at h
        rw [Jc h]
        exact ih (by omega)
      rename_i hp
      rw [if_neg hp] at h
      exact Xp h
  rw [← Zy8]
  exact key l.length (Nat.le_refl _)
section
variable {A B : Zf}
theorem Mn.ok {r : Za} {t : Tr} (h : Mn A r t) : OKr A r := by cases h; assumption
theorem Mn.kd {r : Za} {t : Tr} (h : Mn A r t) : t.Kind = r.kind := by cases h; assumption
theorem Mn.wd {r : Za} {t : Tr} (h : Mn A r t) : t.Words = Ym A r := by cases h; assumption
theorem Mn.ln {r : Za} {t : Tr} (h : Mn A r t) : (t.Kids.length : Int) = Yj r := by cases h; assumption
theorem Mn.er {r : Za} {t : Tr} (h : Mn A r t) : ∀ (i : Nat) (x : Tr), t.Kids[i]? = some x → (J0 A r i).2 = 0 := by cases h; assumption
theorem Mn.kid {r : Za} {t : Tr} (h : Mn A r t) : ∀ (i : Nat) (x : Tr), t.Kids[i]? = some x → Mn A (J0 A r i).1 x := by cases h; assumption
theorem Zn1 (hw : WS A.segments) {r : Za} (h : OKr A r) : Va r = some ((tr (fun x => x == 0) (Ym A r)).length : Int) := by
  have hl := Zlt hw h
  have hle := Zia h
  have hloop := Zq3 (Ym A r) (fun x => x == 0) (Uy r) (fun n => (n : Int)) rfl (fun n x hx hn => by
    unfold Uy
    rw [Z1b, cond_true, Q3 (by omega) (by omega), show ((n + 1 : Nat) : Int) - 1 = (n : Int) by omega, Zja hw h, Option.bind_some]
    have : Zmr A r n = x := by
      rw [← Ze1 hw h hn]
      rw [List.getElem?_eq_getElem hn] at hx
      injection hx
    rw [this]
    simp only [Option.bind_some, cond_true]
    cases x == 0 <;> rfl)
  unfold Va
  rw [Zmj, ← hl, Option.bind_some, hloop]
  rfl
theorem Zp3 {p : Int → Bool} {l : List Int} {i : Nat} (hi : i < (tr p l).length) : ∃ h : i < l.length, (tr p l)[i]? = some (l[i]'h) := by
  have h := Zt2 p l
  have hl := Zh8 p l
  refine ⟨by omega, ?_⟩
  rw [← h, List.getElem?_take, if_pos hi, List.getElem?_eq_getElem (by omega)]
theorem Zou (hA : WS A.segments) (hB : WS B.segments) {a b : Za} (ha : OKr A a) (hb : OKr B b) : Jb a b = some (tr (fun x => x == 0) (Ym A a) == tr (fun x => x == 0) (Ym B b)) := by
  have hle := Zia ha
  have htl := Zh8 (fun x : Int => x == 0) (Ym A a)
  unfold Jb
  rw [Zn1 hA ha, Option.bind_some, Zn1 hB hb, Option.bind_some, Zr7]
  by_cases hl : (tr (fun x => x == 0) (Ym B b)).length = (tr (fun x => x == 0) (Ym A a)).length
  · rw [show (!((tr (fun x => x == 0) (Ym B b)).length == (tr (fun x => x == 0) (Ym A a)).length)) = false by simp [hl], cond_false]
    rw [Zq4 (tr (fun x => x == 0) (Ym A a)) (tr (fun x => x == 0) (Ym B b)) (Qj a b ((tr (fun x => x == 0) (Ym A a)).length : Int)) (.inl ()) (.inr ()) hl.symm (by omega) (fun i x y hi hx hy => by
      unfold Qj
      obtain ⟨i1, e1⟩ := Zp3 hi
      obtain ⟨i2, e2⟩ := Zp3 (l := Ym B b) (p := fun x => x == 0) (i := i) (by omega)
      rw [e1] at hx
      rw [e2] at hy
      injection hx with hx
      injection hy with hy
      rw [Zn3 hi, cond_true, Zja hA ha, Option.bind_some, Zja hB hb, Option.bind_some, ← Ze1 hA ha i1, ← Ze1 hB hb i2, hx, hy]
      cases x != y <;> rfl) (by unfold Qj; rw [Zn2]; rfl)]
    cases tr (fun x => x == 0) (Ym A a) == tr (fun x => x == 0) (Ym B b) <;> rfl
  rw [show (!((tr (fun x => x == 0) (Ym B b)).length == (tr (fun x => x == 0) (Ym A a)).length)) = true by simp [hl], cond_true, Ztk (fun q => hl q.symm)]
theorem Zxv (hw : WS A.segments) {r : Za} {t : Tr} (h : Mn A r t) : Zai r = some (((tr (fun x => x.Kind == 0) t.Kids).length : Int), 0) := by
  have hl := h.ln
  have hkn := Zd2 h.ok
  have hloop := Zq3 (R := (Int × Int) ⊕ Unit) t.Kids (fun x => x.Kind == 0) (Uz r) (fun n => match n with | 0 => .inr () | n + 1 => .inl (((n + 1 : Nat) : Int), 0)) rfl (fun n x hx hn => by
    have e1 := h.er n x hx
    have e2 := (h.kid n x hx).kd
    unfold Uz
    rw [Z1b, cond_true, Q3 (by omega) (by omega), show ((n + 1 : Nat) : Int) - 1 = (n : Int) by omega, Zkb hw h.ok, Option.bind_some, e1, show ((0 : Int) != 0) = false from rfl, cond_false, show Ye (J0 A r n).1 = some (J0 A r n).1.kind from rfl, Option.bind_some, cond_false, Option.bind_some, ← e2]
    rcases Bool.eq_false_or_eq_true (x.Kind == 0) with q | q
    · rw [show (x.Kind != 0) = false by unfold bne; rw [q]; rfl, cond_false, if_pos q]
    rw [show (x.Kind != 0) = true by unfold bne; rw [q]; rfl, cond_true, if_neg (by rw [q]; decide)])
  unfold Zai
  rw [Zck, ← hl, Option.bind_some, hloop]
  cases (tr (fun x => x.Kind == 0) t.Kids).length <;> rfl
def tk (t : Tr) : List Tr := if t.Kind = 1 then tr (fun x => x.Kind == 0) t.Kids else t.Kids
theorem Zs0 (t : Tr) {i : Nat} {x : Tr} (h : (tk t)[i]? = some x) : t.Kids[i]? = some x := by
  unfold tk at h
  split at h
  · rw [← Zt2, List.getElem?_take] at h
    split at h
    · exact h
    cases h
  exact h
theorem Zow {t x : Tr} (h : x ∈ tk t) : x ∈ t.Kids := by
  unfold tk at h
  split at h
  · exact Zxs h
  exact h
theorem Zv6 (t : Tr) : ndl (tk t) + 1 ≤ nd t := by
  rw [Zmg]
  unfold ndl tk
  split
  · have := Zxt (fun x : Tr => x.Kind == 0) nd t.Kids
    omega
  omega
theorem Zju (hw : WS A.segments) {r : Za} {t : Tr} (h : Mn A r t) : J4 r = some (((tk t).length : Int), 0) := by
  have hk := h.kd
  unfold J4 tk
  rw [show Ye r = some r.kind from rfl, Option.bind_some, ← hk]
  by_cases h1 : t.Kind = 1
  · rw [show (t.Kind != 1) = false from by rw [h1]; rfl, cond_false, Zxv hw h, if_pos h1]
    rfl
  rw [show (t.Kind != 1) = true from bne_iff_ne.2 h1, cond_true, Zck, if_neg h1, h.ln]
  rfl
def eqv (t u : Tr) : Bool := eqT (nrm t) (nrm u)
theorem Zvk {t u : Tr} (h : t.Kind ≠ u.Kind) : eqv t u = false := by
  unfold eqv
  rw [Zmt, Zak, Zak, beq_eq_false_iff_ne.2 h]
  rfl
theorem Mn.w0 {r : Za} {t : Tr} (h : Mn A r t) (h1 : t.Kind ≠ 1) (h10 : t.Kind ≠ 10) : t.Words = [] := by
  rw [h.wd]
  unfold Ym
  rw [← h.kd, if_neg h10, if_neg h1]
theorem Mn.w1 {r : Za} {t : Tr} (h : Mn A r t) (h10 : t.Kind = 10) : ∃ x, t.Words = [x] := by
  rw [h.wd]
  unfold Ym
  rw [← h.kd, if_pos h10]
  exact ⟨_, rfl⟩
theorem Mn.k0 {r : Za} {t : Tr} (h : Mn A r t) (h0 : t.Kind = 0) : t.Kids = [] := by
  have hl := h.ln
  have hz : Yj r = 0 := by
    have hk := h.kd
    have hr := h.ok
    cases hr with
    | z => rfl
    | st => simp at hk; omega
    | li k s a n hk' => simp only at hk; omega
    | co => simp at hk; omega
    | at_ => simp at hk; omega
  exact List.eq_nil_of_length_eq_zero (by omega)
theorem Z0u (x y : Int) : (tr (fun x => x == 0) [x] == tr (fun x => x == 0) [y]) = ([x] == [y]) := by
  have e : ∀ x : Int, tr (fun x => x == 0) [x] = if x = 0 then [] else [x] := fun x => by
    rw [Zrm (l := []) rfl]
    simp only [beq_iff_eq]
  rw [e, e]
  by_cases hx : x = 0
  · by_cases hy : y = 0
    · rw [if_pos hx, if_pos hy, hx, hy]; rfl
    rw [if_pos hx, if_neg hy, hx]
    rw [Bool.eq_iff_iff, beq_iff_eq, beq_iff_eq]
    exact ⟨fun q => by (cases q), fun q => by injection q with q; exact absurd q.symm hy⟩
  by_cases hy : y = 0
  · rw [if_neg hx, if_pos hy, hy]
    rw [Bool.eq_iff_iff, beq_iff_eq, beq_iff_eq]
    exact ⟨fun q => by (cases q), fun q => by injection q with q; exact absurd q hx⟩
  rw [if_neg hx, if_neg hy]
theorem Zz7 {a b : Za} {t u : Tr} (ha : Mn A a t) (hb : Mn B b u) (hk : t.Kind = u.Kind) : eqv t u = ((tr (fun x => x == 0) t.Words == tr (fun x => x == 0) u.Words) && eqL ((tk t).map nrm) ((tk u).map nrm)) := by
  unfold eqv
  rw [Zmt, Zak, Zak, beq_iff_eq.2 hk, Bool.true_and]
  by_cases h0 : t.Kind = 0
  · have h0' : u.Kind = 0 := hk ▸ h0
    rw [Zq8 h0, Zq8 h0', ha.w0 (by omega) (by omega), hb.w0 (by omega) (by omega)]
    unfold tk
    rw [if_neg (by omega), if_neg (by omega), ha.k0 h0, hb.k0 h0']
    rfl
  by_cases h1 : t.Kind = 1
  · have h1' : u.Kind = 1 := hk ▸ h1
    have q1 : ∀ l : List Tr, tr (fun x : Tr => x.Kind == 0) (l.map nrm) = (tr (fun x : Tr => x.Kind == 0) l).map nrm := Zta (fun x => by rw [Zak])
    rw [Zcy h1, Zcy h1']
    unfold tk
    rw [if_pos h1, if_pos h1', q1, q1]
  have h0' : ¬ u.Kind = 0 := fun q => h0 (hk.trans q)
  have h1' : ¬ u.Kind = 1 := fun q => h1 (hk.trans q)
  rw [Zce h0 h1, Zce h0' h1']
  unfold tk
  rw [if_neg h1, if_neg h1']
  by_cases h10 : t.Kind = 10
  · obtain ⟨x, ex⟩ := ha.w1 h10
    obtain ⟨y, ey⟩ := hb.w1 (hk ▸ h10)
    rw [ex, ey, Z0u]
  rw [ha.w0 h1 h10, hb.w0 h1' (fun q => h10 (hk.trans q))]
  rfl
end
section
variable {A B : Zf}
theorem Zqg (hA : WS A.segments) (hB : WS B.segments) {F : Ze → Za → Za → Option (Bool × Int × Ze)} {a b : Za} (ha : OKr A a) (hb : OKr B b) {n : Nat} (hn : n ≤ 1073741824) :
    ∀ (ks ls : List Tr) (i : Nat) (c : Int), n = i + ks.length → ks.length = ls.length → (∀ (j : Nat) x, ks[j]? = some x → (J0 A a ((i + j : Nat) : Int)).2 = 0 ∧ Mn A (J0 A a ((i + j : Nat) : Int)).1 x) → (∀ (j : Nat) x, ls[j]? = some x → (J0 B b ((i + j : Nat) : Int)).2 = 0 ∧ Mn B (J0 B b ((i + j : Nat) : Int)).1 x) →
      (∀ x ∈ ks, ∀ p q y (c : Int), Mn A p x → Mn B q y → (nd x : Int) ≤ c → c ≤ 70000 → ∃ c', F ⟨c⟩ p q = some (eqv x y, 0, ⟨c'⟩) ∧ c - nd x ≤ c' ∧ c' ≤ c) → (ndl ks : Int) ≤ c → c ≤ 70000 →
      ∃ c', Z6 (Yb F a b (n : Int)) ((i : Int), c) = some (if eqL (ks.map nrm) (ls.map nrm) = true then .inr c' else .inl (0, c')) ∧ c - ndl ks ≤ c' ∧ c' ≤ c
  | [], [], i, c, hi, _, _, _, _, hc, hc2 => by
    refine ⟨c, ?_, by omega, Int.le_refl _⟩
    refine Xp ?_
    unfold Yb
    simp only [List.length_nil, Nat.add_zero] at hi
    subst hi
    simp only
    rw [Zn2, cond_false]
    rfl
  | [], y :: ls, i, c, hi, hl, _, _, _, hc, hc2 => by simp at hl
  | x :: ks, [], i, c, hi, hl, _, _, _, hc, hc2 => by simp at hl
  | x :: ks, y :: ls, i, c, hi, hl, hk, hk', ih, hc, hc2 => by
    obtain ⟨a1, a2⟩ := hk 0 x rfl
    obtain ⟨b1, b2⟩ := hk' 0 y rfl
    rw [Nat.add_zero] at a1 a2 b1 b2
    have hnd : (ndl (x :: ks) : Int) = nd x + ndl ks := by unfold ndl; rw [List.map_cons, List.sum_cons]; omega
    rw [hnd] at hc ⊢
    obtain ⟨c1, e1, l1, l2⟩ := ih x (.head _) _ _ y c a2 b2 (by omega) hc2
    simp only [List.length_cons] at hi hl
    have hs : Yb F a b (n : Int) ((i : Int), c) = some (if eqv x y = true then .inl (((i + 1 : Nat) : Int), c1) else .inr (.inl (0, c1))) := by
      unfold Yb
      simp only
      rw [Zn3 (by omega), cond_true, Zkb hA ha, Option.bind_some, a1, show ((0 : Int) != 0) = false from rfl, cond_false, Zkb hB hb, Option.bind_some, b1, show ((0 : Int) != 0) = false from rfl, cond_false, e1, Option.bind_some]
      simp only
      rw [show ((0 : Int) != 0) = false from rfl, Q3 (by omega) (by omega)]
      cases eqv x y <;> rfl
    rw [List.map_cons, List.map_cons, Zjv]
    by_cases q : eqv x y = true
    · rw [if_pos q] at hs
      rw [Jc hs]
      obtain ⟨c', f1, f2, f3⟩ := Zqg hA hB ha hb hn ks ls (i + 1) c1 (by omega) (by omega) (fun j x hx => by
        have := hk (j + 1) x hx
        rw [show i + 1 + j = i + (j + 1) by omega]
        exact this) (fun j x hx => by
        have := hk' (j + 1) x hx
        rw [show i + 1 + j = i + (j + 1) by omega]
        exact this) (fun z hz => ih z (.tail _ hz)) (by omega) (by omega)
      refine ⟨c', ?_, by omega, by omega⟩
      rw [f1, show eqT (nrm x) (nrm y) = true from q, Bool.true_and]
    rw [if_neg q] at hs
    refine ⟨c1, ?_, by have : 0 ≤ (ndl ks : Int) := by omega
                       omega, l2⟩
    rw [Xp hs, show eqT (nrm x) (nrm y) = false from by unfold eqv at q; simpa using q, Bool.false_and, if_neg (by decide)]
theorem Zv5 (t : Tr) : 1 ≤ nd t := by rw [Zmg]; omega
theorem Zzf (hA : WS A.segments) (hB : WS B.segments) : ∀ (K : Nat), (∀ a b t u (c : Int), Mn A a t → Mn B b u → 2 * SizeOf.sizeOf t + 1 < K → (nd t : Int) ≤ c → c ≤ 70000 → ∃ c', (Zl K).1 ⟨c⟩ a b = some (eqv t u, 0, ⟨c'⟩) ∧ c - nd t ≤ c' ∧ c' ≤ c) ∧
    (∀ a b t u (c : Int), Mn A a t → Mn B b u → 2 * SizeOf.sizeOf t < K → (tk t).length = (tk u).length → (ndl (tk t) : Int) ≤ c → c ≤ 70000 → ∃ c', (Zl K).2 ⟨c⟩ a b ((tk t).length : Int) = some (eqL ((tk t).map nrm) ((tk u).map nrm), 0, ⟨c'⟩) ∧ c - ndl (tk t) ≤ c' ∧ c' ≤ c)
  | 0 => ⟨fun a b t u c _ _ h => by omega, fun a b t u c _ _ h => by omega⟩
  | K + 1 => by
    obtain ⟨i1, i2⟩ := Zzf hA hB K
    refine ⟨fun a b t u c ha hb hK hc hc2 => ?_, fun a b t u c ha hb hK hl hc hc2 => ?_⟩
    · show ∃ c', Yn (Zl K).1 (Zl K).2 ⟨c⟩ a b = _ ∧ _
      have hp := Zv5 t
      have hp2 := Zv6 t
      unfold Yn
      simp only
      rw [Zcv (show ¬ c = 0 by omega), cond_false, show Ye a = some a.kind from rfl, show Ye b = some b.kind from rfl, Option.bind_some, Option.bind_some, ← ha.kd, ← hb.kd, Q3 (x := c - 1) (by omega) (by omega), Zou hA hB ha.ok hb.ok]
      by_cases hk : t.Kind = u.Kind
      · rw [show (t.Kind != u.Kind) = false from bne_eq_false_iff_eq.2 hk, cond_false, Option.bind_some, cond_false, Option.bind_some, Zz7 ha hb hk, ← ha.wd, ← hb.wd]
        cases hw : tr (fun x => x == 0) t.Words == tr (fun x => x == 0) u.Words with
        | false => exact ⟨c - 1, rfl, by omega, by omega⟩
        | true =>
          simp only [Bool.not_true, cond_false, Bool.true_and]
          rw [Zju hA ha, Option.bind_some]
          simp only
          rw [show ((0 : Int) != 0) = false from rfl, cond_false, Zju hB hb, Option.bind_some]
          simp only
          rw [show ((0 : Int) != 0) = false from rfl, cond_false, Zr7]
          by_cases hl : (tk t).length = (tk u).length
          · rw [show (!((tk t).length == (tk u).length)) = false by simp [hl], cond_false]
            obtain ⟨c', e1, e2, e3⟩ := i2 a b t u (c - 1) ha hb (by omega) hl (by omega) (by omega)
            refine ⟨c', ?_, by omega, by omega⟩
            rw [e1]
            rfl
          rw [show (!((tk t).length == (tk u).length)) = true by simp [hl], cond_true, Ztl _ _ (by simpa using hl)]
          exact ⟨c - 1, rfl, by omega, by omega⟩
      rw [bne_iff_ne.2 hk, cond_true, Option.bind_some, cond_true, Zvk hk]
      exact ⟨c - 1, rfl, by omega, by omega⟩
    show ∃ c', Yc (Zl K).1 (Zl K).2 ⟨c⟩ a b _ = _ ∧ _
    have hkn := Zd2 ha.ok
    have hln := ha.ln
    have htk : (tk t).length ≤ t.Kids.length := by
      unfold tk
      split
      · exact Zh8 _ _
      exact Nat.le_refl _
    obtain ⟨c', e1, e2, e3⟩ := Zqg hA hB (F := (Zl K).1) ha.ok hb.ok (n := (tk t).length) (by omega) (tk t) (tk u) 0 c (by omega) hl (fun j x hx => by
      have := Zs0 t hx
      rw [Nat.zero_add]
      exact ⟨ha.er j x this, ha.kid j x this⟩) (fun j x hx => by
      have := Zs0 u hx
      rw [Nat.zero_add]
      exact ⟨hb.er j x this, hb.kid j x this⟩) (fun x hx p q y c hp hq h1 h2 => i1 p q x y c hp hq (by have := Zd1 (Zow hx); omega) h1 h2) hc hc2
    unfold Yc
    rw [show (((0 : Nat)) : Int) = 0 from rfl] at e1
    refine ⟨c', ?_, e2, e3⟩
    simp only
    rw [e1]
    cases eqL ((tk t).map nrm) ((tk u).map nrm) <;> rfl
theorem Ztm : ∀ (k : Nat), LE3 (Zl k).1 (Zl (k + 1)).1 ∧ ∀ x y z w r, (Zl k).2 x y z w = some r → (Zl (k + 1)).2 x y z w = some r
  | 0 => ⟨fun x y z r h => (by cases h), fun x y z w r h => (by cases h)⟩
  | k + 1 => by
    obtain ⟨i1, i2⟩ := Ztm k
    refine ⟨fun x y z r h => ?_, fun x y z w r h => ?_⟩
    · have h' : Yn (Zl k).1 (Zl k).2 x y z = some r := h
      show Yn (Zl (k + 1)).1 (Zl (k + 1)).2 x y z = some r
      unfold Yn at h' ⊢
      refine Uv _ (fun _ h => h) (fun r h => Jm (fun _ h => h) (fun z r h => Uv _ (fun _ h => h) (fun r h => Jm (fun _ h => h) (fun z r h => Uv _ (fun _ h => h) (fun r h => Jm (fun _ h => h) (fun z r h => Uv _ (fun _ h => h) (fun r h => Jm (fun z h => i2 _ _ _ _ _ h) (fun _ _ h => h) h) r h) h) r h) h) r h) h) r h'
    have h' : Yc (Zl k).1 (Zl k).2 x y z w = some r := h
    show Yc (Zl (k + 1)).1 (Zl (k + 1)).2 x y z w = some r
    unfold Yc at h' ⊢
    refine Jm (fun q h => Zkz (fun s q h => ?_) h) (fun _ _ h => h) h'
    unfold Yb at h ⊢
    refine Uv _ (fun r h => Jm (fun _ h => h) (fun z r h => Uv _ (fun _ h => h) (fun r h => Jm (fun _ h => h) (fun z r h => Uv _ (fun _ h => h) (fun r h => Jm (fun q h => i1 _ _ _ _ h) (fun _ _ h => h) h) r h) h) r h) h) (fun _ h => h) q h
theorem Zwg (hA : WS A.segments) (hB : WS B.segments) {a b : Za} {t u : Tr} (ha : Mn A a t) (hb : Mn B b u) (hn : (nd t : Int) ≤ 65537) : Vb a b = some (eqv t u, 0) := by
  obtain ⟨c', e1, _⟩ := (Zzf hA hB (2 * SizeOf.sizeOf t + 2)).1 a b t u 65537 ha hb (by omega) hn (by omega)
  have : Kq ⟨65537⟩ a b = some (eqv t u, 0, ⟨c'⟩) := Zq0 (fun k r h => (Ztm k).1 _ _ _ r h) e1
  unfold Vb
  rw [this]
  rfl
end
theorem Z0v {A : Zf} (hw : WS A.segments) (x : Vv) (h : (Zu0 A x).2.2 = 0) : Mn A (atR A 0 0).1 (Zu0 A x).1 ∧ (nd (Zu0 A x).1 : Int) ≤ 65537 := by
  have hW : 0 ≤ (Znt x).Weight ∧ (Znt x).Weight ≤ 65536 := Zvd _ _ (by decide)
  unfold Zu0 at h ⊢
  by_cases h1 : (atR A 0 0).2 ≠ 0
  · rw [if_pos h1] at h; exact absurd h h1
  rw [if_neg h1] at h ⊢
  simp only at h ⊢
  by_cases hq : (Zit A (Znt x).Depth.toNat (atR A 0 0).1 (Znt x).Weight).2.2 ≠ 0
  · rw [if_pos hq] at h; exact absurd h hq
  rw [if_neg hq] at h ⊢
  obtain ⟨a1, a2, a3⟩ := Zyi hw (Znt x).Depth.toNat (atR A 0 0).1 (Znt x).Weight (Zrs 0 0) hW.1 (by omega)
  exact ⟨a1, by simp only; omega⟩
theorem Zqi (t : Tr) : eqv t t = true := Zvi _
theorem Zqh (t u : Tr) : eqv t u = eqv u t := Zvh _ _
theorem Zvl {t u v : Tr} (h : eqv t u = true) : eqv t v = eqv u v := by
  unfold eqv at *
  rw [eqT_iff.1 h]
def mx (s n : Int) : Int := IntKind.u64.wrap (Zah .u64 (IntKind.u64.wrap ((IntKind.u64.wrap (Zah .u64 s n)) * 11400714819323198485)) (Int.fdiv (IntKind.u64.wrap ((IntKind.u64.wrap (Zah .u64 s n)) * 11400714819323198485)) (2 ^ min (Int.toNat 32) 64)))
theorem Zsb (s c n : Int) : Xa ⟨s, c⟩ n = some ⟨mx s n, c⟩ := rfl
noncomputable def hxN : Nat → Tr → Int → Int
  | 0, _, s => s
  | k + 1, t, s => if t.Kind = 0 then mx (mx (mx s (IntKind.u64.wrap 0)) (IntKind.u64.wrap ((0 : Nat) : Int))) (IntKind.u64.wrap ((0 : Nat) : Int))
    else (tk t).foldl (fun s x => hxN k x s) ((tr (fun x => x == 0) t.Words).foldl mx (mx (mx (mx s (IntKind.u64.wrap t.Kind)) (IntKind.u64.wrap ((tk t).length : Int))) (IntKind.u64.wrap ((tr (fun x => x == 0) t.Words).length : Int))))
theorem Zqx (k : Nat) (t : Tr) (s : Int) : hxN (k + 1) t s = if t.Kind = 0 then mx (mx (mx s (IntKind.u64.wrap 0)) (IntKind.u64.wrap ((0 : Nat) : Int))) (IntKind.u64.wrap ((0 : Nat) : Int))
    else (tk t).foldl (fun s x => hxN k x s) ((tr (fun x => x == 0) t.Words).foldl mx (mx (mx (mx s (IntKind.u64.wrap t.Kind)) (IntKind.u64.wrap ((tk t).length : Int))) (IntKind.u64.wrap ((tr (fun x => x == 0) t.Words).length : Int)))) := by
  rw [hxN]
theorem Zfp {α σ : Type} {f g : σ → α → σ} : ∀ (l : List α) (s : σ), (∀ x ∈ l, ∀ s, f s x = g s x) → l.foldl f s = l.foldl g s
  | [], _, _ => rfl
  | x :: l, s, h => by
    rw [List.foldl_cons, List.foldl_cons, h x (.head _)]
    exact Zfp l _ fun y hy => h y (.tail _ hy)
theorem Zka : ∀ (k k' : Nat) (t : Tr) (s : Int), SizeOf.sizeOf t < k → SizeOf.sizeOf t < k' → hxN k t s = hxN k' t s
  | 0, _, _, _, h, _ => by omega
  | _ + 1, 0, _, _, _, h => by omega
  | k + 1, k' + 1, t, s, h, h' => by
    unfold hxN
    split
    · rfl
    exact Zfp _ _ fun x hx s => Zka k k' x s (by have := Zd1 (Zow hx); omega) (by have := Zd1 (Zow hx); omega)
theorem Z0t {t : Tr} (h0 : ¬ t.Kind = 0) : tk (nrm t) = (tk t).map nrm := by
  unfold tk
  rw [Zak]
  by_cases h1 : t.Kind = 1
  · rw [if_pos h1, if_pos h1, Zcy h1]
    simp only
    rw [Zxu]
    exact Zta (p := fun x : Tr => x.Kind == 0) (q := fun x : Tr => x.Kind == 0) (f := nrm) (fun x => by simp only [Zak]) t.Kids
  rw [if_neg h1, if_neg h1, Zce h0 h1]
theorem Znn : ∀ (k : Nat) (t : Tr) (s : Int), hxN k (nrm t) s = hxN k t s
  | 0, _, _ => rfl
  | k + 1, t, s => by
    unfold hxN
    rw [Zak]
    by_cases h0 : t.Kind = 0
    · rw [if_pos h0, if_pos h0]
    rw [if_neg h0, if_neg h0, Z0t h0, List.length_map, List.foldl_map]
    have ew : tr (fun x => x == 0) (nrm t).Words = tr (fun x => x == 0) t.Words := by
      by_cases h1 : t.Kind = 1
      · rw [Zcy h1]
        exact Zxu _
      rw [Zce h0 h1]
    rw [ew]
    exact Zfp _ _ fun x _ s => Znn k x s
noncomputable def hx (t : Tr) : Int := hxN (SizeOf.sizeOf t + 1) t 0
theorem Zvr {t u : Tr} (h : eqv t u = true) : hx t = hx u := by
  unfold eqv at h
  have e := eqT_iff.1 h
  have a := Znn (SizeOf.sizeOf t + SizeOf.sizeOf u + 1) t 0
  have b := Znn (SizeOf.sizeOf t + SizeOf.sizeOf u + 1) u 0
  rw [e] at a
  unfold hx
  rw [Zka (SizeOf.sizeOf t + 1) (SizeOf.sizeOf t + SizeOf.sizeOf u + 1) t 0 (by omega) (by omega), Zka (SizeOf.sizeOf u + 1) (SizeOf.sizeOf t + SizeOf.sizeOf u + 1) u 0 (by omega) (by omega), ← a, ← b]
section
variable {A : Zf}
theorem Zie {α σ : Type} (g : σ → α → σ) : ∀ (l : List α) (s : σ) (i : Nat), Zmc (fun s _ x => g s x) s i l = l.foldl g s
  | [], _, _ => rfl
  | x :: l, s, i => Zie g l (g s x) (i + 1)
theorem Zuo (hw : WS A.segments) {r : Za} {t : Tr} (h : Mn A r t) (s c : Int) : Xj r ⟨s, c⟩ = some ⟨(tr (fun x => x == 0) t.Words).foldl mx (mx s (IntKind.u64.wrap ((tr (fun x => x == 0) t.Words).length : Int))), c⟩ := by
  unfold Xj
  rw [Zn1 hw h.ok, Option.bind_some, Zsb, Option.bind_some, ← h.wd]
  have hle := Zh8 (fun x : Int => x == 0) t.Words
  have hl2 : t.Words.length ≤ 65536 := by rw [h.wd]; exact Zia h.ok
  have main := (Zsa (tr (fun x => x == 0) t.Words) (fun i (s : Int) => (i, s, c)) (fun s => (s, c)) (Y7 r ((tr (fun x => x == 0) t.Words).length : Int)) (fun s _ x => mx s x) (fun _ _ => True) (by omega) (fun i s x hi hx _ _ => by
    refine ⟨?_, trivial⟩
    obtain ⟨hj, he⟩ := Zp3 (p := fun x : Int => x == 0) (l := t.Words) hi
    have hj' : i < (Ym A r).length := by rw [← h.wd]; exact hj
    have hwr : Zmr A r (i : Int) = x := by
      rw [← Ze1 hw h.ok hj']
      rw [hx] at he
      have h2 : (Ym A r)[i]? = some x := by rw [← h.wd, List.getElem?_eq_getElem hj]; exact he.symm
      rw [List.getElem?_eq_getElem hj'] at h2
      exact Option.some.inj h2
    unfold Y7
    simp only
    rw [Zn3 hi, cond_true, Zja hw h.ok, Option.bind_some, hwr, Zsb]
    rfl) (fun s _ => by
    unfold Y7
    simp only
    rw [Zn2, cond_false]) (mx s (IntKind.u64.wrap ((tr (fun x => x == 0) t.Words).length : Int))) trivial).1
  simp only
  rw [main, Zie mx]
  rfl
theorem Zj7 (hw : WS A.segments) {F : Zk → Za → Option (Int × Zk)} {H : Tr → Int → Int} {r : Za} {t : Tr} (h : Mn A r t)
    (hF : ∀ x ∈ tk t, ∀ (q : Za) (s c : Int), Mn A q x → (nd x : Int) ≤ c → c ≤ 70000 → ∃ c', F ⟨s, c⟩ q = some (0, ⟨H x s, c'⟩) ∧ c - nd x ≤ c' ∧ c' ≤ c) (hn : (tk t).length ≤ 1073741824) :
    ∀ (l pre : List Tr) (s c : Int), tk t = pre ++ l → (ndl l : Int) ≤ c → c ≤ 70000 → ∃ c', Z6 (Xm F r (((tk t).length : Int), 0)) (((pre.length : Nat) : Int), s, c) = some (.inr (l.foldl (fun s x => H x s) s, c')) ∧ c - ndl l ≤ c' ∧ c' ≤ c
  | [], pre, s, c, hp, _, _ => by
    rw [List.append_nil] at hp
    refine ⟨c, Xp ?_, by simp [ndl], Int.le_refl _⟩
    unfold Xm
    simp only
    rw [hp, Zn2, cond_false]
    rfl
  | x :: l, pre, s, c, hp, hc, hc2 => by
    have hx : (tk t)[pre.length]? = some x := by rw [hp, List.getElem?_append_right (Nat.le_refl _), Nat.sub_self]; rfl
    have hi : pre.length < (tk t).length := by rw [hp]; simp
    have hsum : ndl (x :: l) = nd x + ndl l := by simp [ndl]
    have hxk := Zs0 t hx
    obtain ⟨c1, e1, e2, e3⟩ := hF x (List.mem_of_getElem? hx) _ s c (h.kid _ _ hxk) (by omega) hc2
    obtain ⟨c2, f1, f2, f3⟩ := Zj7 hw h hF hn l (pre ++ [x]) (H x s) c1 (by rw [hp]; simp) (by omega) (by omega)
    rw [List.length_append, List.length_singleton] at f1
    refine ⟨c2, (Jc ?_).trans f1, by omega, by omega⟩
    unfold Xm
    simp only
    rw [Zn3 hi, cond_true, Zkb hw h.ok, Option.bind_some, h.er _ _ hxk, show ((0 : Int) != 0) = false from rfl, cond_false, e1, Option.bind_some]
    simp only
    rw [show ((0 : Int) != 0) = false from rfl, cond_false, Q3 (by omega) (by omega)]
    rfl
theorem Zyg (hw : WS A.segments) : ∀ (K : Nat) (t : Tr) (r : Za) (s c : Int), Mn A r t → SizeOf.sizeOf t < K → (nd t : Int) ≤ c → c ≤ 70000 → ∃ c', Z7 K ⟨s, c⟩ r = some (0, ⟨hxN K t s, c'⟩) ∧ c - nd t ≤ c' ∧ c' ≤ c := fun K => by
  induction K with
  | zero =>
    intro t r s c _ h _ _
    omega
  | succ K ih =>
    intro t r s c h hK hc hc2
    have hp := Zv5 t
    have htk := Zv6 t
    have hkn := Zd2 h.ok
    have hln := h.ln
    have htl : (tk t).length ≤ t.Kids.length := by
      unfold tk
      split
      · exact Zh8 _ _
      exact Nat.le_refl _
    show ∃ c', Ys (Z7 K) ⟨s, c⟩ r = _ ∧ _
    unfold Ys
    simp only
    obtain ⟨c', e1, e2, e3⟩ := Zj7 hw (F := Z7 K) (H := fun x s => hxN K x s) h (fun x hx q s c hq hc hc2 => ih x q s c hq (by have := Zd1 (Zow hx); omega) hc hc2) (by omega) (tk t) []
      ((tr (fun x => x == 0) t.Words).foldl mx (mx (mx (mx s (IntKind.u64.wrap t.Kind)) (IntKind.u64.wrap ((tk t).length : Int))) (IntKind.u64.wrap ((tr (fun x => x == 0) t.Words).length : Int)))) (c - 1) rfl (by omega) (by omega)
    rw [show (((([] : List Tr).length : Nat)) : Int) = 0 from rfl] at e1
    have eh : hxN (K + 1) t s = (tk t).foldl (fun s x => hxN K x s) ((tr (fun x => x == 0) t.Words).foldl mx (mx (mx (mx s (IntKind.u64.wrap t.Kind)) (IntKind.u64.wrap ((tk t).length : Int))) (IntKind.u64.wrap ((tr (fun x => x == 0) t.Words).length : Int)))) := by
      rw [Zqx]
      by_cases h0 : t.Kind = 0
      · have k0 := h.k0 h0
        have w0 := h.w0 (by omega) (by omega)
        have tk0 : tk t = [] := by unfold tk; rw [if_neg (by omega), k0]
        rw [if_pos h0, tk0, w0, h0]
        simp only [tr, List.foldl_nil, List.length_nil]
      rw [if_neg h0]
    have hwo := Zuo hw h
    have hM0 := Zsb
    rw [eh]
    clear eh ih
    obtain ⟨Y, hY⟩ : ∃ Y : Tr → Int → Int, (fun x s => hxN K x s) = Y := ⟨_, rfl⟩
    rw [show (fun (s : Int) (x : Tr) => hxN K x s) = fun s x => Y x s from by rw [← hY]] at e1 ⊢
    obtain ⟨M, hM⟩ : ∃ M, Xa = M := ⟨_, rfl⟩
    obtain ⟨X, hX⟩ : ∃ X, mx = X := ⟨_, rfl⟩
    rw [hX] at e1 ⊢
    rw [hM] at hM0 ⊢
    rw [hX] at hM0 hwo
    clear hM hX hY
    rw [Zcv (show ¬ c = 0 by omega), cond_false, Zju hw h, Option.bind_some, show Ye r = some r.kind from rfl]
    simp only [Option.bind_some]
    rw [show ((0 : Int) != 0) = false from rfl, cond_false, Q3 (x := c - 1) (by omega) (by omega), hM0]
    simp only [Option.bind_some]
    rw [hM0]
    simp only [Option.bind_some]
    rw [hwo, ← h.kd]
    simp only [Option.bind_some]
    rw [e1]
    exact ⟨c', rfl, by omega, by omega⟩
theorem Zmf : ∀ (k : Nat) c r v, Z7 k c r = some v → Z7 (k + 1) c r = some v
  | 0, c, r, v, h => by cases h
  | k + 1, c, r, v, h => by
    have h' : Ys (Z7 k) c r = some v := h
    show Ys (Z7 (k + 1)) c r = some v
    unfold Ys at h' ⊢
    refine Uv _ (fun _ q => q) (fun _ => Jm (fun _ q => q) fun y => Uv _ (fun _ q => q) fun _ => Jm (fun _ q => q) fun u _ => Jm (fun _ q => q) fun w _ => Jm (fun _ q => q) fun z _ => Jm (fun _ q => q) fun a _ => Jm (fun x => Zkz fun s y q => ?_) fun _ _ q => q) v h'
    exact Uv _ (fun _ => Jm (fun _ q => q) fun u => Uv _ (fun _ q => q) fun _ => Jm (fun x q => Zmf k _ _ x q) fun _ _ q => q) (fun _ q => q) y q
theorem Zyh (hw : WS A.segments) {t : Tr} {r : Za} (h : Mn A r t) (hn : (nd t : Int) ≤ 65537) : Vx r = some (hx t, 0) := by
  obtain ⟨c', e1, e2, e3⟩ := Zyg hw (SizeOf.sizeOf t + 1) t r 0 65537 h (by omega) hn (by decide)
  have e : Vc ⟨0, 65537⟩ r = some (0, ⟨hx t, c'⟩) := Zq0 (F := fun k => Z7 k ⟨0, 65537⟩ r) (fun k x => Zmf k _ _ x) e1
  unfold Vx
  rw [e, Option.bind_some]
  rfl
end
theorem Zk0 {R : Type} {step : Int → Option (Int ⊕ R)} {r : R} (p : Nat → Int) (m : Nat) (h1 : ∀ k, k < m → step (p k) = some (.inl (p (k + 1)))) (h2 : step (p m) = some (.inr r)) : Z6 step (p 0) = some r := by
  have key : ∀ d k, k + d = m → Z6 step (p k) = some r := fun d => by
    induction d with
    | zero =>
      intro k hk
      have : k = m := by omega
      subst this
      exact Xp h2
    | succ d ih =>
      intro k hk
      rw [Jc (h1 k (by omega))]
      exact ih (k + 1) (by omega)
  exact key m 0 (by omega)
theorem Zzm {p : Nat → Prop} (dp : ∀ k, p k ∨ ¬ p k) : ∀ n, p n → ∃ m, m ≤ n ∧ p m ∧ ∀ j, j < m → ¬ p j := fun n => by
  induction n using Nat.strongRecOn with
  | ind n ih =>
    intro h
    by_cases q : ∃ j, j < n ∧ p j
    · obtain ⟨j, hj, pj⟩ := q
      obtain ⟨m, h1, h2, h3⟩ := ih j hj pj
      exact ⟨m, by omega, h2, h3⟩
    exact ⟨n, Nat.le_refl _, h, fun j hj pj => q ⟨j, hj, pj⟩⟩
def pat (pl : List Int) (h : Int) (k : Nat) : Int := (pl[(h.toNat + k) % pl.length]?).getD 0
def nz (pl : List Int) : Nat := pl.countP fun x => !(x == 0)
structure PRt (hs : List Int) (pl : List Int) : Prop where
  rng : ∀ x ∈ pl, 0 ≤ x ∧ x ≤ hs.length
  fnd : ∀ (i : Nat) (h : Int), hs[i]? = some h → ∃ k, pat pl h k = (i : Int) + 1 ∧ ∀ j, j < k → pat pl h j ≠ 0
  cnt : nz pl ≤ hs.length
theorem Zyr {pl : List Int} (h : nz pl < pl.length) : ∃ q, q < pl.length ∧ pl[q]? = some 0 := by
  induction pl with
  | nil => simp at h
  | cons x pl ih =>
    by_cases hx : x = 0
    · subst hx
      exact ⟨0, by simp, rfl⟩
    have e : nz (x :: pl) = nz pl + 1 := by
      unfold nz
      rw [List.countP_cons_of_pos (by simp [hx])]
    rw [e, List.length_cons] at h
    obtain ⟨q, h1, h2⟩ := ih (by omega)
    exact ⟨q + 1, by rw [List.length_cons]; omega, by simpa using h2⟩
theorem Zv7 : ∀ (pl : List Int) (q : Nat) (v : Int), nz (pl.set q v) ≤ nz pl + 1
  | [], q, v => by simp [nz]
  | x :: pl, 0, v => by
    unfold nz
    rw [List.set_cons_zero, List.countP_cons, List.countP_cons]
    split <;> split <;> omega
  | x :: pl, q + 1, v => by
    have := Zv7 pl q v
    unfold nz at this ⊢
    rw [List.set_cons_succ, List.countP_cons, List.countP_cons]
    omega
theorem Zrf {hs pl : List Int} (hP : PRt hs pl) (hn : hs.length < pl.length) (h : Int) : ∃ Z, pat pl h Z = 0 ∧ ∀ j, j < Z → pat pl h j ≠ 0 := by
  obtain ⟨q, h1, h2⟩ := Zyr (pl := pl) (by have := hP.cnt; omega)
  obtain ⟨Z, _, h3, h4⟩ := Zzm (p := fun k => pat pl h k = 0) (fun k => Decidable.em _) (q + (pl.length - h.toNat % pl.length)) (by
    have hm := Nat.mod_lt h.toNat (show 0 < pl.length by omega)
    have e : (h.toNat + (q + (pl.length - h.toNat % pl.length))) % pl.length = q := by
      have d := Nat.div_add_mod h.toNat pl.length
      have : h.toNat + (q + (pl.length - h.toNat % pl.length)) = q + pl.length * (h.toNat / pl.length + 1) := by
        rw [Nat.mul_add, Nat.mul_one]
        omega
      rw [this, Nat.add_mul_mod_self_left, Nat.mod_eq_of_lt h1]
    unfold pat
    rw [e, h2]
    rfl)
  exact ⟨Z, h3, h4⟩
theorem Zer {pl : List Int} (hp : 0 < pl.length) (h : Int) (k : Nat) : pl[(h.toNat + k) % pl.length]? = some (pat pl h k) := by
  have := List.getElem?_eq_getElem (Nat.mod_lt (h.toNat + k) hp) (l := pl)
  unfold pat
  rw [this]
  rfl
theorem Zi4 {pl : List Int} (hp : 0 < pl.length) (h g : Int) (k Z : Nat) (v : Int) : pat (pl.set ((g.toNat + Z) % pl.length) v) h k = if (h.toNat + k) % pl.length = (g.toNat + Z) % pl.length then v else pat pl h k := by
  unfold pat
  rw [List.length_set, List.getElem?_set]
  by_cases e : (g.toNat + Z) % pl.length = (h.toNat + k) % pl.length
  · rw [if_pos e, if_pos e.symm, if_pos (Nat.mod_lt _ hp)]
    rfl
  rw [if_neg e, if_neg (fun q => e q.symm)]
theorem PRt.push {hs pl : List Int} (hP : PRt hs pl) (hp : 0 < pl.length) {g : Int} {Z : Nat} (hz : pat pl g Z = 0) (hl : ∀ j, j < Z → pat pl g j ≠ 0) : PRt (hs ++ [g]) (pl.set ((g.toNat + Z) % pl.length) ((hs.length : Int) + 1)) := by
  refine ⟨fun x hx => ?_, fun i h hi => ?_, ?_⟩
  · rw [List.length_append, List.length_singleton]
    rcases List.mem_or_eq_of_mem_set hx with q | q
    · have := hP.rng x q
      omega
    omega
  · by_cases hlt : i < hs.length
    · rw [List.getElem?_append_left hlt] at hi
      obtain ⟨k, h1, h2⟩ := hP.fnd i h hi
      have far : ∀ j, pat pl h j ≠ 0 → ¬ (h.toNat + j) % pl.length = (g.toNat + Z) % pl.length := fun j hj e => by
        unfold pat at hz hj
        rw [e] at hj
        exact hj hz
      refine ⟨k, ?_, fun j hj => ?_⟩
      · rw [Zi4 hp, if_neg (far k (by omega))]
        exact h1
      rw [Zi4 hp, if_neg (far j (h2 j hj))]
      exact h2 j hj
    rw [List.getElem?_append_right (by omega)] at hi
    have hi0 : i - hs.length = 0 := by
      rcases Nat.eq_zero_or_pos (i - hs.length) with q | q
      · exact q
      rw [List.getElem?_eq_none (by simp; omega)] at hi
      cases hi
    rw [hi0] at hi
    have hg : g = h := by simpa using hi
    subst hg
    refine ⟨Z, ?_, fun j hj => ?_⟩
    · rw [Zi4 hp, if_pos rfl]
      omega
    rw [Zi4 hp]
    split
    · omega
    exact hl j hj
  have := Zv7 pl ((g.toNat + Z) % pl.length) ((hs.length : Int) + 1)
  have := hP.cnt
  rw [List.length_append, List.length_singleton]
  omega
theorem PRt.empty (P : Nat) : PRt [] (List.replicate P 0) := by
  refine ⟨fun x hx => ?_, fun i h hi => by simp at hi, ?_⟩
  · rw [(List.mem_replicate.1 hx).2]
    simp
  unfold nz
  rw [List.countP_replicate]
  simp
theorem Z0i (s n : Int) : 0 ≤ mx s n ∧ mx s n < 18446744073709551616 := by
  unfold mx
  generalize Zah _ _ _ = z
  exact ⟨Int.emod_nonneg _ (by decide), Int.emod_lt_of_pos _ (by decide)⟩
theorem Zmz {α : Type} {f : Int → α → Int} (hf : ∀ s x, (0 ≤ s ∧ s < 18446744073709551616) → 0 ≤ f s x ∧ f s x < 18446744073709551616) : ∀ (l : List α) (s : Int), (0 ≤ s ∧ s < 18446744073709551616) → 0 ≤ l.foldl f s ∧ l.foldl f s < 18446744073709551616
  | [], _, h => h
  | x :: l, s, h => Zmz hf l _ (hf s x h)
theorem Zzk : ∀ (k : Nat) (t : Tr) (s : Int), (0 ≤ s ∧ s < 18446744073709551616) → 0 ≤ hxN k t s ∧ hxN k t s < 18446744073709551616
  | 0, _, _, h => h
  | k + 1, t, s, h => by
    rw [Zqx]
    split
    · exact Z0i _ _
    exact Zmz (fun s x hs => Zzk k x s hs) _ _ (Zmz (fun s x _ => Z0i s x) _ _ (Z0i _ _))
theorem Z1c (t : Tr) : 0 ≤ hx t ∧ hx t < 18446744073709551616 := Zzk _ t 0 (by decide)
theorem Zqk {cl : List Zd} {pl : List Int} {h : Int} (hp : 0 < pl.length) (hl : pl.length ≤ 1000000000) (hh : 0 ≤ h) : Xb (some ⟨cl, pl⟩) h = some (((h.toNat + 0) % pl.length : Nat) : Int) := by
  have e : IntKind.u64.wrap (pl.length : Int) = (pl.length : Int) := IntWalk.u64_in _ (by omega)
  have hm := Nat.mod_lt h.toNat hp
  unfold Xb
  rw [Option.bind_some]
  simp only
  rw [e]
  unfold Qb
  rw [if_pos (by omega), Option.bind_some, Int.tmod_eq_emod_of_nonneg hh, Nat.add_zero]
  have : h % (pl.length : Int) = ((h.toNat % pl.length : Nat) : Int) := by
    rw [Int.natCast_emod, Int.toNat_of_nonneg hh]
  rw [this, Q3 (by omega) (by omega)]
theorem Ztu {cl : List Zd} {pl : List Int} {h : Int} (hp : 0 < pl.length) (hl : pl.length ≤ 1000000000) (k : Nat) : Xz (some ⟨cl, pl⟩) (((h.toNat + k) % pl.length : Nat) : Int) = some (((h.toNat + (k + 1)) % pl.length : Nat) : Int) := by
  have hm := Nat.mod_lt (h.toNat + k) hp
  unfold Xz
  rw [Option.bind_some]
  simp only
  unfold Qb
  rw [if_pos (by omega), Option.bind_some, Q3 (by omega) (by omega)]
  have : ((((h.toNat + k) % pl.length : Nat) : Int) + 1) = ((((h.toNat + k) % pl.length + 1 : Nat)) : Int) := by omega
  rw [this, Int.tmod_eq_emod_of_nonneg (by omega), ← Int.natCast_emod]
  congr 2
  rw [Nat.add_mod, Nat.mod_mod, ← Nat.add_mod, Nat.add_assoc]
theorem Zyf {cl : List Zd} {pl : List Int} (hh : ∀ m ∈ cl, 0 ≤ m.hash) (hc : cl.length ≤ 1000000) (hp : pl.length ≤ 4000016) (hb : 2 * cl.length ≤ pl.length + 1) : ∃ pl', Xy ⟨cl, pl⟩ = some ⟨cl, pl'⟩ ∧ PRt (cl.map (·.hash)) pl' ∧ pl'.length = (if 16 < 2 * pl.length then 2 * pl.length else 16) := by
  obtain ⟨P, hP⟩ : ∃ P, P = if 16 < 2 * pl.length then 2 * pl.length else 16 := ⟨_, rfl⟩
  have hP1 : 2 * cl.length < P := by rw [hP]; split <;> omega
  have hP2 : P ≤ 8000032 := by rw [hP]; split <;> omega
  have e : (if 16 < (IntKind.i64.wrap (2 * (pl.length : Int))) then (IntKind.i64.wrap (2 * (pl.length : Int))) else 16) = (P : Int) := by
    rw [Q3 (by omega) (by omega), hP]
    split <;> split <;> omega
  have loop := Zsa cl (fun i (s : List Int) => (i, s)) (fun s => s) (Xu ⟨cl, pl⟩) (fun s i m => s.set ((m.hash.toNat + (Classical.choose (p := fun Z => ∀ hs, PRt hs s → hs.length < s.length → pat s m.hash Z = 0 ∧ ∀ j, j < Z → pat s m.hash j ≠ 0) (by
      by_cases q : ∃ hs, PRt hs s ∧ hs.length < s.length
      · obtain ⟨hs, h1, h2⟩ := q
        obtain ⟨Z, h3, h4⟩ := Zrf h1 h2 m.hash
        exact ⟨Z, fun _ _ _ => ⟨h3, h4⟩⟩
      exact ⟨0, fun hs h1 h2 => absurd ⟨hs, h1, h2⟩ q⟩))) % s.length) ((i : Int) + 1)) (fun i s => PRt ((cl.take i).map (·.hash)) s ∧ s.length = P) (by omega) (fun i s m hi hx hm hI => by
    obtain ⟨i1, i2⟩ := hI
    have hlen : ((cl.take i).map (·.hash)).length = i := by rw [List.length_map, List.length_take]; omega
    generalize hch : Classical.choose _ = Z
    have hz : pat s m.hash Z = 0 ∧ ∀ j, j < Z → pat s m.hash j ≠ 0 := by
      rw [← hch]
      exact Classical.choose_spec (p := fun Z => ∀ hs, PRt hs s → hs.length < s.length → pat s m.hash Z = 0 ∧ ∀ j, j < Z → pat s m.hash j ≠ 0) _ _ i1 (by omega)
    clear hch
    have sp : 0 < s.length := by omega
    have sl : s.length ≤ 1000000000 := by omega
    refine ⟨?_, ?_, by rw [List.length_set]; exact i2⟩
    · unfold Xu
      simp only
      rw [Zn3 hi, cond_true, Jz hx, Option.bind_some, Zqk sp sl (hh m hm), Option.bind_some]
      have inner := Zk0 (step := Xv ⟨cl, pl⟩ ((i : Int), s)) (fun k => (((m.hash.toNat + k) % s.length : Nat) : Int)) Z (r := (((m.hash.toNat + Z) % s.length : Nat) : Int)) (fun k hk => by
        unfold Xv
        simp only
        rw [Jz (Zer sp m.hash k), Option.bind_some, bne_iff_ne.2 (hz.2 k hk), cond_true, Ztu sp sl k]
        rfl) (by
        unfold Xv
        simp only
        rw [Jz (Zer sp m.hash Z), Option.bind_some, hz.1]
        rfl)
      rw [inner, Option.bind_some, Jz (Zer sp m.hash Z), Option.bind_some, Q3 (by omega) (by omega)]
      unfold Zbj
      rw [Int.toNat_natCast]
    · have := i1.push sp hz.1 hz.2
      rw [hlen] at this
      rw [List.take_add_one, hx, List.map_append]
      exact this) (fun s _ => by
    unfold Xu
    simp only
    rw [Zn2, cond_false]) (List.replicate P 0) ⟨by simpa using PRt.empty P, by simp⟩
  obtain ⟨l1, l2, l3⟩ := loop
  refine ⟨_, ?_, ?_, l3.trans hP⟩
  · unfold Xy
    simp only
    rw [e, Zq7 (by omega) (by omega) (by omega), Option.bind_some, Int.toNat_natCast]
    rw [show ((0 : Int), List.replicate P (0 : Int)) = (fun i (s : List Int) => (i, s)) 0 (List.replicate P 0) from rfl, l1]
    rfl
  rw [List.take_length] at l2
  exact l2
def VT (r : Za) (t : Tr) : Prop := ∃ A : Zf, WS A.segments ∧ Mn A r t ∧ (nd t : Int) ≤ 65537
def fi : List Tr → Tr → Nat
  | [], _ => 0
  | u :: l, t => if eqv u t = true then 0 else fi l t + 1
theorem Zzh : ∀ (l : List Tr) (t : Tr), fi l t ≤ l.length
  | [], _ => Nat.le_refl _
  | u :: l, t => by
    have := Zzh l t
    unfold fi
    rw [List.length_cons]
    split <;> omega
theorem Zzg : ∀ {l : List Tr} {t : Tr}, fi l t < l.length → ∃ u, l[fi l t]? = some u ∧ eqv u t = true
  | [], _, h => by simp at h
  | u :: l, t, h => by
    unfold fi at h ⊢
    by_cases q : eqv u t = true
    · rw [if_pos q]
      exact ⟨u, rfl, q⟩
    rw [if_neg q, List.length_cons] at h
    rw [if_neg q]
    obtain ⟨v, h1, h2⟩ := Zzg (l := l) (t := t) (by omega)
    exact ⟨v, by simpa using h1, h2⟩
theorem Zrw : ∀ {l : List Tr} {t : Tr} {j : Nat} {u : Tr}, j < fi l t → l[j]? = some u → eqv u t = false
  | [], _, _, _, _, hu => by simp at hu
  | v :: l, t, j, u, h, hu => by
    unfold fi at h
    by_cases q : eqv v t = true
    · rw [if_pos q] at h; omega
    rw [if_neg q] at h
    cases j with
    | zero =>
      have : v = u := by simpa using hu
      subst this
      simpa using q
    | succ j => exact Zrw (l := l) (t := t) (j := j) (by omega) (by simpa using hu)
def nxt (ts : List Tr) (t : Tr) : List Tr := if fi ts t < ts.length then ts else ts ++ [t]
structure TI (cl : List Zd) (pl : List Int) (ts : List Tr) : Prop where
  len : cl.length = ts.length
  mem : ∀ (i : Nat) (m : Zd) (t : Tr), cl[i]? = some m → ts[i]? = some t → VT m.r t ∧ m.hash = hx t
  dif : ∀ (i j : Nat) (t u : Tr), i < j → ts[i]? = some t → ts[j]? = some u → eqv t u = false
  plc : PRt (cl.map (·.hash)) pl
  few : 2 * cl.length ≤ pl.length + 1
  siz : pl.length ≤ 4 * cl.length + 16
theorem TI.empty : TI [] [] [] := ⟨rfl, fun i m t h => by simp at h, fun i j t u _ h => by simp at h, PRt.empty 0, by simp, by simp⟩
theorem TI.one {cl : List Zd} {pl : List Int} {ts : List Tr} (h : TI cl pl ts) {i j : Nat} {a b t : Tr} (ha : ts[i]? = some a) (hb : ts[j]? = some b) (e1 : eqv a t = true) (e2 : eqv b t = true) : i = j := by
  have e : eqv a b = true := by rw [Zvl e1, Zqh]; exact e2
  rcases Nat.lt_trichotomy i j with q | q | q
  · rw [h.dif i j a b q ha hb] at e; cases e
  · exact q
  have := h.dif j i b a q hb ha
  rw [Zqh, e] at this
  cases this
theorem Zv3 {m : Zd} {u : Tr} (hv : VT m.r u) (hh : m.hash = hx u) {r : Za} {t : Tr} (hr : VT r t) : Ql m ⟨hx t, r⟩ = some (eqv u t, 0) := by
  obtain ⟨A, a1, a2, a3⟩ := hv
  obtain ⟨B, b1, b2, b3⟩ := hr
  unfold Ql
  simp only
  rw [hh]
  by_cases e : hx u = hx t
  · rw [show (hx u != hx t) = false from by rw [e]; simp, cond_false, Zwg a1 b1 a2 b2 a3]
    rfl
  rw [bne_iff_ne.2 e, cond_true]
  cases q : eqv u t with
  | false => rfl
  | true => exact absurd (Zvr q) e
theorem Zve {cl : List Zd} {pl : List Int} {ts : List Tr} (hI : TI cl pl ts) {r : Za} {t : Tr} (hv : VT r t) (hn : cl.length ≤ 100000) : ∃ cl' pl', Qk ⟨cl, pl⟩ ⟨hx t, r⟩ = some (((fi ts t : Nat) : Int), 0, (⟨cl', pl'⟩ : Zj)) ∧ TI cl' pl' (nxt ts t) := by
  have hsz := hI.siz
  have hfw := hI.few
  have hln := hI.len
  have hhs : ∀ m ∈ cl, 0 ≤ m.hash := fun m hm => by
    obtain ⟨i, hi⟩ := List.mem_iff_getElem?.1 hm
    have hlt : i < ts.length := by
      rw [← hln]
      rcases Nat.lt_or_ge i cl.length with q | q
      · exact q
      rw [List.getElem?_eq_none q] at hi; cases hi
    rw [(hI.mem i m ts[i] hi (List.getElem?_eq_getElem hlt)).2]
    exact (Z1c _).1
  obtain ⟨pl1, g1, g2, g3, g4⟩ : ∃ pl1, ((cond (decide ((pl.length : Int) ≤ (IntKind.i64.wrap (2 * (cl.length : Int))))) ((Xy (⟨cl, pl⟩ : Zj)).bind fun y2 => some (y2.classes, y2.places)) (some (cl, pl))) : Option (List Zd × List Int)) = some (cl, pl1) ∧ PRt (cl.map (·.hash)) pl1 ∧ 2 * cl.length < pl1.length ∧ pl1.length ≤ 4 * cl.length + 16 := by
    rw [Q3 (by omega) (by omega)]
    by_cases q : pl.length ≤ 2 * cl.length
    · obtain ⟨pl', h1, h2, h3⟩ := Zyf (pl := pl) hhs (by omega) (by omega) hfw
      rw [decide_eq_true (by omega : (pl.length : Int) ≤ 2 * (cl.length : Int)), cond_true, h1]
      refine ⟨pl', rfl, h2, ?_, ?_⟩ <;> rw [h3] <;> split <;> omega
    rw [decide_eq_false (by omega : ¬ (pl.length : Int) ≤ 2 * (cl.length : Int)), cond_false]
    exact ⟨pl, rfl, hI.plc, by omega, hsz⟩
  have pp : 0 < pl1.length := by omega
  have ps : pl1.length ≤ 1000000000 := by omega
  obtain ⟨Z, z1, z2⟩ := Zrf g2 (by rw [List.length_map]; omega) (hx t)
  -- what is seen at a place that is not free
  have see : ∀ k, pat pl1 (hx t) k ≠ 0 → ∃ i u, pat pl1 (hx t) k = (i : Nat) + 1 ∧ ts[i]? = some u ∧ ((eqv u t = true → Ya ⟨hx t, r⟩ (cl, pl1) ((((hx t).toNat + k) % pl1.length : Nat) : Int) = some (.inr (.inl ((i : Nat), 0)))) ∧ (eqv u t = false → Ya ⟨hx t, r⟩ (cl, pl1) ((((hx t).toNat + k) % pl1.length : Nat) : Int) = some (.inl ((((hx t).toNat + (k + 1)) % pl1.length : Nat) : Int)))) := fun k hk => by
    have hm := Zer pp (hx t) k
    have hr := g2.rng _ (List.mem_of_getElem? hm)
    rw [List.length_map] at hr
    obtain ⟨i, hi, hlt⟩ : ∃ i : Nat, pat pl1 (hx t) k - 1 = (i : Int) ∧ i < cl.length := ⟨(pat pl1 (hx t) k - 1).toNat, by omega, by omega⟩
    have hc : cl[i]? = some cl[i] := List.getElem?_eq_getElem hlt
    have hu : ts[i]? = some (ts[i]'(by omega)) := List.getElem?_eq_getElem (by omega)
    obtain ⟨v1, v2⟩ := hI.mem _ _ _ hc hu
    have hs := Zv3 v1 v2 hv
    refine ⟨i, _, by omega, hu, fun e => ?_, fun e => ?_⟩
    · unfold Ya
      simp only
      rw [Jz hm, Option.bind_some, bne_iff_ne.2 hk, cond_true, Option.bind_some, Q3 (by omega) (by omega), hi, Jz hc, Option.bind_some, hs, Option.bind_some, e]
      rfl
    unfold Ya
    simp only
    rw [Jz hm, Option.bind_some, bne_iff_ne.2 hk, cond_true, Option.bind_some, Q3 (by omega) (by omega), hi, Jz hc, Option.bind_some, hs, Option.bind_some, e]
    simp only
    rw [show ((0 : Int) != 0) = false from rfl, cond_false, cond_false, Ztu pp ps k]
    rfl
  have start : Xb (some ⟨cl, pl1⟩) (hx t) = some ((fun k => ((((hx t).toNat + k) % pl1.length : Nat) : Int)) 0) := Zqk pp ps (Z1c t).1
  unfold Qk
  simp only
  rw [g1, Option.bind_some]
  simp only
  rw [start, Option.bind_some]
  by_cases found : fi ts t < ts.length
  · obtain ⟨w, w1, w2⟩ := Zzg found
    have hlc : fi ts t < cl.length := by omega
    have hc : cl[fi ts t]? = some cl[fi ts t] := List.getElem?_eq_getElem hlc
    have hhash : (cl.map (·.hash))[fi ts t]? = some (hx t) := by
      rw [List.getElem?_map, hc]
      exact congrArg some ((hI.mem _ _ _ hc w1).2.trans (Zvr w2))
    obtain ⟨k0, k1, k2⟩ := g2.fnd _ _ hhash
    obtain ⟨m, m1, m2, m3⟩ := Zzm (p := fun k => pat pl1 (hx t) k = ((fi ts t : Nat) : Int) + 1) (fun k => Decidable.em _) k0 k1
    have run := Zk0 (step := Ya ⟨hx t, r⟩ (cl, pl1)) (fun k => ((((hx t).toNat + k) % pl1.length : Nat) : Int)) m (r := .inl (((fi ts t : Nat) : Int), 0)) (fun k hk => by
      obtain ⟨i, u, s1, s2, _, s4⟩ := see k (k2 k (by omega))
      refine s4 ?_
      cases q : eqv u t with
      | false => rfl
      | true =>
        have := hI.one s2 w1 q w2
        rw [this] at s1
        exact absurd s1 (m3 k hk)) (by
      obtain ⟨i, u, s1, s2, s3, _⟩ := see m (by rw [m2]; omega)
      have hi : i = fi ts t := by omega
      subst hi
      rw [w1] at s2
      obtain rfl := Option.some.inj s2
      exact s3 w2)
    rw [run, Option.bind_some]
    refine ⟨cl, pl1, rfl, ?_⟩
    unfold nxt
    rw [if_pos found]
    exact ⟨hln, hI.mem, hI.dif, g2, by omega, g4⟩
  have hfi : fi ts t = ts.length := by have := Zzh ts t; omega
  have run := Zk0 (step := Ya ⟨hx t, r⟩ (cl, pl1)) (fun k => ((((hx t).toNat + k) % pl1.length : Nat) : Int)) Z (r := .inr ((((hx t).toNat + Z) % pl1.length : Nat) : Int)) (fun k hk => by
    obtain ⟨i, u, s1, s2, _, s4⟩ := see k (z2 k hk)
    refine s4 (Zrw (l := ts) (j := i) ?_ s2)
    rw [hfi]
    rcases Nat.lt_or_ge i ts.length with q | q
    · exact q
    · rw [List.getElem?_eq_none q] at s2; cases s2) (by
    unfold Ya
    simp only
    rw [Jz (Zer pp (hx t) Z), Option.bind_some, z1]
    rfl)
  rw [run, Option.bind_some]
  simp only
  rw [Ziy (by rw [List.length_singleton]; omega) (by rw [List.length_singleton]; omega), Option.bind_some, Jz (Zer pp (hx t) Z), Option.bind_some, List.length_append, List.length_singleton]
  have e1 : IntKind.i64.wrap (((cl.length + 1 : Nat) : Int) - 1) = ((fi ts t : Nat) : Int) := by rw [Q3 (by omega) (by omega)]; omega
  rw [e1]
  refine ⟨_, _, rfl, ?_⟩
  unfold nxt
  rw [if_neg found]
  have hp := g2.push pp z1 z2
  refine ⟨by rw [List.length_append, List.length_append, hln]; rfl, fun i m u hm hu => ?_, fun i j a b hij ha hb => ?_, ?_, ?_, ?_⟩
  · by_cases q : i < cl.length
    · rw [List.getElem?_append_left q] at hm
      rw [List.getElem?_append_left (by omega)] at hu
      exact hI.mem i m u hm hu
    rw [List.getElem?_append_right (by omega)] at hm hu
    rw [← hln] at hu
    have q0 : i - cl.length = 0 := by
      rcases Nat.eq_zero_or_pos (i - cl.length) with z | z
      · exact z
      rw [List.getElem?_eq_none (by simp; omega)] at hm
      cases hm
    rw [q0] at hm hu
    have em : (⟨hx t, r⟩ : Zd) = m := by simpa using hm
    have eu : t = u := by simpa using hu
    subst em eu
    exact ⟨hv, rfl⟩
  · by_cases q : j < ts.length
    · rw [List.getElem?_append_left q] at hb
      rw [List.getElem?_append_left (by omega)] at ha
      exact hI.dif i j a b hij ha hb
    rw [List.getElem?_append_right (by omega)] at hb
    have q0 : j - ts.length = 0 := by
      rcases Nat.eq_zero_or_pos (j - ts.length) with z | z
      · exact z
      rw [List.getElem?_eq_none (by simp; omega)] at hb
      cases hb
    rw [q0] at hb
    have eb : t = b := by simpa using hb
    subst eb
    rw [List.getElem?_append_left (by omega)] at ha
    exact Zrw (l := ts) (j := i) (by omega) ha
  · unfold Zbj
    rw [List.map_append, Int.toNat_natCast]
    rw [List.length_map] at hp
    exact hp
  · unfold Zbj
    rw [List.length_append, List.length_singleton, List.length_set]
    omega
  unfold Zbj
  rw [List.length_append, List.length_singleton, List.length_set]
  omega
def Zvf : List Tr → List Tr → List Tr
  | ts, [] => ts
  | ts, t :: l => Zvf (nxt ts t) l
def Zue : List Tr → List Tr → List Int
  | _, [] => []
  | ts, t :: l => ((fi ts t : Nat) : Int) :: Zue (nxt ts t) l
theorem Zyq (ts : List Tr) (t : Tr) : (nxt ts t).length ≤ ts.length + 1 := by
  unfold nxt
  split
  · omega
  rw [List.length_append]; exact Nat.le_refl _
theorem Zvs {ps : List (Za × Tr)} (hv : ∀ p ∈ ps, VT p.1 p.2) (hl : ps.length ≤ 10000) : ∀ (l pre : List (Za × Tr)) (out : List Int) (cl : List Zd) (pl : List Int) (ts : List Tr), ps = pre ++ l → TI cl pl ts → cl.length + l.length ≤ 100000 → out.length + l.length ≤ 100000 →
    ∃ cl' pl', Z6 (Xe (ps.map fun p => ⟨hx p.2, p.1⟩)) ((pre.length : Nat), out, cl, pl) = some (.inr (out ++ Zue ts (l.map (·.2)), cl', pl')) ∧ TI cl' pl' (Zvf ts (l.map (·.2)))
  | [], pre, out, cl, pl, ts, hp, hI, _, _ => by
    rw [List.append_nil] at hp
    refine ⟨cl, pl, Xp ?_, hI⟩
    unfold Xe
    simp only
    rw [List.length_map, hp, Zn2, cond_false]
    simp [Zue]
  | p :: l, pre, out, cl, pl, ts, hp, hI, hc, ho => by
    rw [List.length_cons] at hc ho
    have hx0 : ps[pre.length]? = some p := by rw [hp, List.getElem?_append_right (Nat.le_refl _), Nat.sub_self]; rfl
    have hi : pre.length < ps.length := by rw [hp]; simp
    obtain ⟨cl1, pl1, c1, c2⟩ := Zve hI (hv p (List.mem_of_getElem? hx0)) (by omega)
    have n1 : cl1.length ≤ cl.length + 1 := by
      rw [c2.len, hI.len]
      exact Zyq _ _
    obtain ⟨cl2, pl2, r1, r2⟩ := Zvs hv hl l (pre ++ [p]) (out ++ [((fi ts p.2 : Nat) : Int)]) cl1 pl1 (nxt ts p.2) (by rw [hp]; simp) c2 (by omega) (by rw [List.length_append, List.length_singleton]; omega)
    rw [List.length_append, List.length_singleton] at r1
    refine ⟨cl2, pl2, (Jc ?_).trans (r1.trans ?_), r2⟩
    · unfold Xe
      simp only
      rw [List.length_map, Zn3 hi, cond_true, Jz (x := (⟨hx p.2, p.1⟩ : Zd)) (by rw [List.getElem?_map, hx0]; rfl), Option.bind_some, c1, Option.bind_some]
      simp only
      rw [show ((0 : Int) != 0) = false from rfl, cond_false, Ziy (by rw [List.length_singleton]; omega) (by rw [List.length_singleton]; omega), Option.bind_some, Q3 (by omega) (by omega)]
      rfl
    rw [List.append_assoc]
    rfl
def kps (A : Zf) (r : Za) (u : Tr) : List (Za × Tr) := u.Kids.zipIdx.map fun p => ((J0 A r (p.2 : Int)).1, p.1)
theorem Znr {A : Zf} {r : Za} {u : Tr} {i : Nat} {x : Tr} (h : u.Kids[i]? = some x) : (kps A r u)[i]? = some ((J0 A r (i : Int)).1, x) := by
  unfold kps
  rw [List.getElem?_map, List.getElem?_zipIdx, h, Nat.zero_add]
  rfl
theorem Zcx (A : Zf) (r : Za) (u : Tr) : (kps A r u).length = u.Kids.length := by
  unfold kps
  rw [List.length_map, List.length_zipIdx]
theorem Zyj (A : Zf) (r : Za) (u : Tr) : (kps A r u).map (·.2) = u.Kids := by
  refine List.ext_getElem? fun i => ?_
  rw [List.getElem?_map]
  rcases Nat.lt_or_ge i u.Kids.length with q | q
  · have hx : u.Kids[i]? = some u.Kids[i] := List.getElem?_eq_getElem q
    rw [Znr hx, hx]
    rfl
  rw [List.getElem?_eq_none q, List.getElem?_eq_none (by rw [Zcx]; exact q)]
  rfl
theorem Zv4 {t x : Tr} (h : x ∈ t.Kids) : nd x ≤ nd t := by
  have := Ztp (f := nd) h
  rw [Zmg t]
  omega
theorem Zvt {A : Zf} (hw : WS A.segments) {r : Za} {u : Tr} (hm : Mn A r u) (hn : (nd u : Int) ≤ 65537) : ∀ p ∈ kps A r u, VT p.1 p.2 := fun p hp => by
  obtain ⟨i, hi⟩ := List.mem_iff_getElem?.1 hp
  have hlt : i < u.Kids.length := by
    rw [← Zcx A r u]
    rcases Nat.lt_or_ge i (kps A r u).length with q | q
    · exact q
    rw [List.getElem?_eq_none q] at hi; cases hi
  have hx : u.Kids[i]? = some u.Kids[i] := List.getElem?_eq_getElem hlt
  rw [Znr hx] at hi
  obtain rfl := Option.some.inj hi
  exact ⟨A, hw, hm.kid _ _ hx, by have := Zv4 (List.mem_of_getElem? hx); simp only; omega⟩
theorem Zup {A : Zf} (hw : WS A.segments) {r : Za} {u : Tr} (hm : Mn A r u) (hn : (nd u : Int) ≤ 65537) (hk : u.Kids.length ≤ 10000) {cl : List Zd} {pl : List Int} {ts : List Tr} (hI : TI cl pl ts) (hc : cl.length ≤ 10000) : ∃ cl' pl', Qs ⟨cl, pl⟩ r = some (Zue ts u.Kids, 0, ⟨cl', pl'⟩) ∧ TI cl' pl' (Zvf ts u.Kids) := by
  have hl0 := Zsa u.Kids (fun i (s : List Zd) => (i, s)) (fun s => (.inr s : Int ⊕ List Zd)) (Xd r (Yj r)) (fun s i x => s ++ [(⟨hx x, (J0 A r (i : Int)).1⟩ : Zd)]) (fun i s => s = ((kps A r u).take i).map fun p => (⟨hx p.2, p.1⟩ : Zd)) (by omega) (fun i s x hi hx0 hmem hs => by
    have hkv := Zvt hw hm hn _ (List.mem_of_getElem? (Znr (A := A) (r := r) hx0))
    have hh := Zyh hw (hm.kid _ _ hx0) (by have := Zv4 hmem; omega)
    have hlen : s.length ≤ 10000 := by rw [hs, List.length_map, List.length_take, Zcx]; omega
    refine ⟨?_, ?_⟩
    · unfold Xd
      simp only
      rw [← hm.ln, Zn3 hi, cond_true, Zkb hw hm.ok, Option.bind_some, hm.er _ _ hx0, show ((0 : Int) != 0) = false from rfl, cond_false, hh, Option.bind_some]
      simp only
      rw [show ((0 : Int) != 0) = false from rfl, cond_false, Ziy (by rw [List.length_singleton]; omega) (by rw [List.length_singleton]; omega), Option.bind_some]
    · rw [hs, List.take_add_one, Znr hx0, List.map_append]
      rfl) (fun s _ => by
    unfold Xd
    simp only
    rw [← hm.ln, Zn2, cond_false]) [] (by simp)
  obtain ⟨a1, a2⟩ := hl0
  rw [a2, ← Zcx A r u, List.take_length] at a1
  obtain ⟨cl', pl', b1, b2⟩ := Zvs (Zvt hw hm hn) (by rw [Zcx]; exact hk) (kps A r u) [] [] cl pl ts rfl hI (by rw [Zcx]; omega) (by rw [Zcx, List.length_nil]; omega)
  rw [Zyj] at b1 b2
  refine ⟨cl', pl', ?_, b2⟩
  unfold Qs
  simp only
  rw [Zck, Option.bind_some]
  rw [show Z6 (Xd r (Yj r)) (0, ([] : List Zd)) = _ from a1, Option.bind_some]
  simp only
  rw [show Z6 (Xe ((kps A r u).map fun p => ⟨hx p.2, p.1⟩)) (0, ([] : List Int), cl, pl) = _ from b1, Option.bind_some]
  rfl
theorem Zrk {a b : List Int} (h : (a.length : Int) ≤ 140737488355328) : X8 a b = some (a == b) := by
  unfold X8
  rw [Zr7]
  by_cases hl : a.length = b.length
  · have : (a.length == b.length) = true := by rw [beq_iff_eq]; exact hl
    rw [this, Bool.not_true, cond_false, Zq4 a b _ (.inl ()) (.inr ()) hl h (fun i x y hi hx hy => by
      unfold Qf
      rw [Zn3 hi, cond_true, Jz hx, Option.bind_some, Jz hy, Option.bind_some]
      cases x != y <;> rfl) (by unfold Qf; rw [Zn2, cond_false])]
    cases a == b <;> rfl
  have : (a.length == b.length) = false := by rw [beq_eq_false_iff_ne]; exact hl
  rw [this, Bool.not_false, cond_true, Ztk hl]
theorem Zez {l : List (List Int)} (hw : WS l) : Xg l = some (atR ⟨l, 0, 0⟩ 0 0).1 := by
  unfold Xg
  rw [Zz1 hw, Option.bind_some, Zyy (A := ⟨l, 0, 0⟩) hw, Option.bind_some]
def u16 : Tr := ⟨4, [], [⟨10, [5], []⟩, ⟨10, [7], []⟩, ⟨10, [5], []⟩]⟩
theorem unf16 : (Zu0 ⟨[[111669149697, 329477]], 0, 0⟩ ⟨64, 65536, 0, 0⟩).1 = u16 ∧ (Zu0 ⟨[[111669149697, 329477]], 0, 0⟩ ⟨64, 65536, 0, 0⟩).2.2 = 0 := ⟨rfl, rfl⟩
theorem Zvj : eqv ⟨10, [5], []⟩ ⟨10, [7], []⟩ = false := by
  unfold eqv
  rw [Zce (show ¬ (10 : Int) = 0 by decide) (show ¬ (10 : Int) = 1 by decide), Zce (show ¬ (10 : Int) = 0 by decide) (show ¬ (10 : Int) = 1 by decide), Zmt]
  rfl
theorem Zz4 : Zue [] u16.Kids = [0, 1, 0] := by simp [u16, Zue, nxt, fi, Zvj, Zqi]
theorem Zz5 : (Zvf [] u16.Kids).length = 2 := by simp [u16, Zvf, nxt, fi, Zvj, Zqi]
theorem Zud : Q5 = some true := by
  have hw : WS [[111669149697, 329477]] := Zp7 _ (by simp) (by simp)
  obtain ⟨hm, hn⟩ := Z0v (A := ⟨[[111669149697, 329477]], 0, 0⟩) hw ⟨64, 65536, 0, 0⟩ unf16.2
  rw [unf16.1] at hm hn
  obtain ⟨cl', pl', k1, k2⟩ := Zup (A := ⟨[[111669149697, 329477]], 0, 0⟩) hw hm hn (by decide) TI.empty (by simp)
  rw [Zz4] at k1
  have hl : cl'.length = 2 := by rw [k2.len, Zz5]
  unfold Q5
  rw [show Zar = some (⟨[], []⟩ : Zj) from rfl, Option.bind_some, Zez hw, Option.bind_some]
  simp only
  rw [k1, Option.bind_some]
  simp only
  rw [Zrk (by decide)]
  unfold Q6
  simp only [Option.isNone_some, cond_false, Option.bind_some]
  rw [hl]
  rfl
theorem Z09 {hd : Int} {ws : List Int} (h5 : dc hd = ⟨2, 0, 0, 0, 5, (ws.length : Int), 0, false⟩) : fol [hd :: ws] 0 0 = (⟨⟨2, 0, 0, 0, 5, (ws.length : Int), 0, false⟩, 0, 1⟩, 0) := by
  have hw : wd [hd :: ws] 0 0 = hd := rfl
  have hs : seg [hd :: ws] 0 = hd :: ws := rfl
  have hi : inB [hd :: ws] 0 0 1 = true := by
    rw [inB_iff, hs, List.length_cons]
    simp
    omega
  have hp : pw ⟨2, 0, 0, 0, 5, (ws.length : Int), 0, false⟩ = (ws.length : Int) := by
    unfold pw
    rw [if_neg (show ¬ (2 : Int) = 1 by decide), if_neg (show ¬ (5 : Int) = 7 by decide)]
    show ((ws.length : Int) * 64 + 63) / 64 = _
    omega
  have hj : inB [hd :: ws] 0 1 (ws.length : Int) = true := by
    rw [inB_iff, hs, List.length_cons]
    simp
    omega
  unfold fol
  rw [if_pos hi]
  simp only
  rw [hw, h5]
  simp only
  rw [if_neg (show ¬ (2 : Int) = 0 by decide), if_neg (show ¬ ((2 : Int) = 3 ∧ false = true) by decide), if_neg (show ¬ (2 : Int) = 3 by decide)]
  unfold tgt
  rw [if_neg (show ¬ (2 : Int) = 4 by decide), if_pos (show (2 : Int) = 1 ∨ (2 : Int) = 2 from .inr rfl), hp]
  rw [show ((0 : Int) + 1 + 0) = 1 from rfl, hj]
  rfl
theorem Z07 : dc 55834574849 = ⟨2, 0, 0, 0, 5, 1, 0, false⟩ := rfl
theorem Z08 : dc 21474836481 = ⟨2, 0, 0, 0, 5, 0, 0, false⟩ := rfl
theorem Z04 {hd : Int} {ws : List Int} (h5 : dc hd = ⟨2, 0, 0, 0, 5, (ws.length : Int), 0, false⟩) : atR ⟨[hd :: ws], 0, 0⟩ 0 0 = (⟨some ⟨[hd :: ws], 0, 0⟩, 7, 0, 1, 0, 0, (ws.length : Int), 0, 0⟩, 0) := by
  unfold atR
  simp only
  rw [Z09 h5]
  simp only
  rw [if_neg (by decide), if_neg (by decide), if_neg (by decide)]
  rfl
theorem Z1d (x : Int) : Yj (atR ⟨[[55834574849, x]], 0, 0⟩ 0 0).1 = 1 := by
  rw [Z04 (hd := 55834574849) (ws := [x]) Z07]
  rfl
theorem Z1e : Yj (atR ⟨[[21474836481]], 0, 0⟩ 0 0).1 = 0 := by
  rw [Z04 (hd := 21474836481) (ws := []) Z08]
  rfl
theorem Zno {x : Int} (h : 0 ≤ x ∧ x < 18446744073709551616) : Qn x = some true := by
  have ha : WS [[4294967296, x]] := Zp7 _ (by simp; omega) (by simp)
  have hb : WS [[55834574849, x]] := Zp7 _ (by simp; omega) (by simp)
  have hc : WS [[21474836481]] := Zp7 _ (by simp) (by simp)
  have k1 : Yo (atR ⟨[[55834574849, x]], 0, 0⟩ 0 0).1 = some ([], 1) := by
    unfold Yo
    rw [Zck, Option.bind_some, Z1d]
    rfl
  have k2 : Yo (atR ⟨[[21474836481]], 0, 0⟩ 0 0).1 = some ([], 0) := by
    unfold Yo
    rw [Zck, Option.bind_some, Z1e]
    rw [show decide ((0 : Int) < 0) = false from rfl, cond_false, Option.bind_some]
    rw [Xp (r := (.inr [] : Int ⊕ List Zd)) (by unfold Jh; rfl), Option.bind_some]
    simp only
    rw [Xp (r := ()) (by unfold Ji; rfl)]
    rfl
  unfold Qn
  rw [Zez ha, Option.bind_some, show ∀ r, Qu r = some (0, 1) from fun r => rfl, Option.bind_some, Zez hb, Option.bind_some, k1, Option.bind_some, Zez hc, Option.bind_some, k2, Option.bind_some, Zud]
  rfl
end Go.Proofs.Ytgffgbdnbjbmoaa
