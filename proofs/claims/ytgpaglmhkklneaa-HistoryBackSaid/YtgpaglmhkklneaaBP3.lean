/- Plain facts on this seat's mirrors (part BP3); each theorem bears its own conditions. -/
import Derived.Test.YtgpaglmhkklneaaBP1
import Derived.IntWalk
namespace Go.Proofs.Ytgpaglmhkklneaa
open Go.RowKit
set_option linter.unusedVariables false
set_option linter.unusedSimpArgs false
theorem Zol (o : List Int) : ∀ (ws : List Zu) (c : List Int), ws.Pairwise (fun a b => a.At.toNat ≠ b.At.toNat) →
  (Z52 o ws → ∃ c', rnW o ws c = some c' ∧ (∀ j, Gd 0 c' j = upW o ws (Gd 0 c) j)) ∧ (¬ Z52 o ws → rnW o ws c = none)
 | [], c, _ => ⟨fun _ => ⟨c, rfl, fun j => rfl⟩, fun h => absurd (fun w hw => by cases hw) h⟩
 | w :: ws, c, hp => by
  obtain ⟨hp1, hp2⟩ := List.pairwise_cons.1 hp
  obtain ⟨i1, i2⟩ := Zol o ws (Zjr 0 p0 c w.At.toNat (Zky (Gd 0 o w.At.toNat) w)) hp2
  refine ⟨fun h => ?_, fun h => ?_⟩
  ·obtain ⟨c', h1, h2⟩ := i1 fun x hx => h x (.tail _ hx)
   refine ⟨c', ?_, fun j => ?_⟩
   ·rw [rnW, if_pos (h w (.head _)), h1]
   rw [h2 j, Yb5]
   by_cases hj : j = w.At.toNat
   ·rw [if_pos hj]
    unfold upW
    have : ws.find? (fun x => x.At.toNat == j) = none := by
     rw [List.find?_eq_none]
     intro x hx
     rw [beq_iff_eq]
     exact fun q => hp1 x hx (by omega)
    rw [this]
    simp only
    rw [Zrk (fun q => Z4x q), if_pos hj, hj]
   rw [if_neg hj]
   unfold upW
   cases ws.find? (fun x => x.At.toNat == j) with
   | some x => rfl
   | none => simp only; rw [Zrk (fun q => Z4x q), if_neg hj]
  rw [rnW]
  by_cases hc : cW (Gd 0 o w.At.toNat) w = true
  ·rw [if_pos hc]
   refine i2 fun q => h fun x hx => ?_
   rcases List.mem_cons.1 hx with rfl | hx
   ·exact hc
   exact q x hx
  rw [if_neg hc]
def Yfk (o : List Tr) (ks : List (Nat × (Tr → Option Tr))) : Prop := ∀ k ∈ ks, (k.2 (Gd Uv o k.1)).isSome = true
def upK (o : List Tr) (ks : List (Nat × (Tr → Option Tr))) (f : Nat → Tr) (j : Nat) : Tr := match ks.find? fun k => k.1 == j with
 | some k => (k.2 (Gd Uv o j)).getD Uv
 | none => f j
theorem Yb4 (o : List Tr) (w : Nat × (Tr → Option Tr)) (ws : List (Nat × (Tr → Option Tr))) (f : Nat → Tr) (j : Nat) : upK o (w :: ws) f j = if j = w.1 then (w.2 (Gd Uv o j)).getD Uv else upK o ws f j := by
 unfold upK
 rw [List.find?_cons]
 by_cases h : j = w.1
 ·rw [if_pos h, show (w.1 == j) = true from by rw [h]; exact beq_self_eq_true _]
 rw [if_neg h, show (w.1 == j) = false from by rw [beq_eq_false_iff_ne]; exact fun q => h q.symm]
theorem Zzj (o : List Tr) : ∀ (ws : List (Nat × (Tr → Option Tr))) (c : List Tr), ws.Pairwise (fun a b => a.1 ≠ b.1) → (∀ w ∈ ws, ∀ u, w.2 (Gd Uv o w.1) = some u → NT u) →
  (Yfk o ws → ∃ c', rnK o ws c = some c' ∧ (∀ j, Gd Uv c' j = upK o ws (Gd Uv c) j)) ∧ (¬ Yfk o ws → rnK o ws c = none)
 | [], c, _, _ => ⟨fun _ => ⟨c, rfl, fun j => rfl⟩, fun h => absurd (fun w hw => by cases hw) h⟩
 | w :: ws, c, hp, hn => by
  obtain ⟨hp1, hp2⟩ := List.pairwise_cons.1 hp
  obtain ⟨wi, wf⟩ := w
  cases hu : wf (Gd Uv o wi) with
  | none =>
   refine ⟨fun h => ?_, fun _ => by rw [rnK, hu]⟩
   have := h _ (.head _)
   simp only at this
   rw [hu] at this
   cases this
  | some u =>
   have hnu := hn _ (.head _) u hu
   obtain ⟨i1, i2⟩ := Zzj o ws (Zjr Uv pT c wi u) hp2 fun x hx => hn x (.tail _ hx)
   refine ⟨fun h => ?_, fun h => ?_⟩
   ·obtain ⟨c', h1, h2⟩ := i1 fun x hx => h x (.tail _ hx)
    refine ⟨c', by rw [rnK, hu]; exact h1, fun j => ?_⟩
    rw [h2 j, Yb4]
    simp only
    by_cases hj : j = wi
    ·rw [if_pos hj]
     unfold upK
     have : ws.find? (fun x => x.1 == j) = none := by
      rw [List.find?_eq_none]
      intro x hx
      rw [beq_iff_eq]
      exact fun q => hp1 x hx (by rw [q]; exact hj.symm)
     rw [this]
     simp only
     rw [Zrk (fun q => hnu.null q), if_pos hj, hj, hu]
     rfl
    rw [if_neg hj]
    unfold upK
    cases ws.find? (fun x => x.1 == j) with
    | some x => rfl
    | none => simp only; rw [Zrk (fun q => hnu.null q), if_neg hj]
   rw [rnK, hu]
   refine i2 fun q => h fun x hx => ?_
   rcases List.mem_cons.1 hx with rfl | hx
   ·simp only; rw [hu]; rfl
   exact q x hx
inductive RX : Ed → Prop
 | same (e : Ed) (h : e.Kind = 0) : RX e
 | repl (e : Ed) (h : e.Kind = 1) : RX e
 | st (e : Ed) (h : e.Kind = 2) (hw : e.Words.Pairwise (fun a b => a.At.toNat ≠ b.At.toNat)) (hw2 : ∀ w ∈ e.Words, 0 ≤ w.At ∧ w.At ≤ 65534) (hk : e.Kids.Pairwise (fun a b => a.At.toNat ≠ b.At.toNat)) (hk2 : ∀ k ∈ e.Kids, 0 ≤ k.At ∧ k.At ≤ 65534) (ih : ∀ k ∈ e.Kids, RX k.E) : RX e
 | li (e : Ed) (h : e.Kind = 3) (hl : 2 ≤ e.List_ ∧ e.List_ ≤ 9) (ho : ∀ o ∈ e.Ops, opk o) (hN : ∀ o ∈ e.Ops, o.Kind = 0 ∨ o.Kind = 3 → o.L = []) (ih : ∀ o ∈ e.Ops, o.Kind = 3 → RX o.E) : RX e
theorem RX.kind {e : Ed} (h : RX e) : e.Kind = 0 ∨ e.Kind = 1 ∨ e.Kind = 2 ∨ e.Kind = 3 := by
 cases h with
 | same _ h => exact .inl h
 | repl _ h => exact .inr (.inl h)
 | st _ h => exact .inr (.inr (.inl h))
 | li _ h => exact .inr (.inr (.inr h))
theorem Z35 {α : Type} {pl : α → Int} {ok : Int → α → Bool} (h : ∀ p x, ok p x = true → p < pl x ∧ pl x ≤ 65534) : ∀ (xs : List α) (p : Int), chk pl ok p xs = true → (∀ x ∈ xs, p < pl x ∧ pl x ≤ 65534) ∧ xs.Pairwise (fun a b => pl a < pl b)
 | [], _, _ => ⟨fun x hx => (by cases hx), .nil⟩
 | x :: xs, p, hc => by
  rw [chk, Bool.and_eq_true] at hc
  have h1 := h p x hc.1
  obtain ⟨h2, h3⟩ := Z35 h xs (pl x) hc.2
  refine ⟨fun y hy => ?_, .cons (fun y hy => (h2 y hy).1) h3⟩
  rcases List.mem_cons.1 hy with rfl | hy
  ·exact h1
  have := h2 y hy; omega
theorem Z98 {α : Type} {pl : α → Int} {ok : Int → α → Bool} (h : ∀ p x, ok p x = true → p < pl x ∧ pl x ≤ 65534) {xs : List α} (hc : chk pl ok (-1) xs = true) : (∀ x ∈ xs, 0 ≤ pl x ∧ pl x ≤ 65534) ∧ xs.Pairwise (fun a b => (pl a).toNat ≠ (pl b).toNat) := by
 obtain ⟨h1, h2⟩ := Z35 h xs (-1) hc
 refine ⟨fun x hx => by have := h1 x hx; omega, ?_⟩
 exact h2.imp_of_mem fun {a b} ha hb hab => by
  have := h1 a ha
  have := h1 b hb
  omega
theorem Ya7 (p : Int) (w : Zu) (h : okW p w = true) : p < w.At ∧ w.At ≤ 65534 := by
 unfold okW at h
 simp only [Bool.not_eq_true', Bool.or_eq_false_iff, decide_eq_false_iff_not] at h
 omega
theorem Ya5 (d : Nat) (p : Int) (k : Zp) (h : okK d p k = true) : p < k.At ∧ k.At ≤ 65534 := by
 unfold okK okP at h
 simp only [Bool.and_eq_true, Bool.not_eq_true', Bool.or_eq_false_iff, decide_eq_false_iff_not] at h
 omega
theorem Ybj : ∀ (n : Nat) (e : Ed) (d : Nat), SizeOf.sizeOf e < n → rE e d = true → RX e
 | 0, _, _, h, _ => by omega
 | n + 1, e, d, hn, h => by
  rw [Zuw] at h
  by_cases hd : d = 0
  ·rw [if_pos hd] at h; cases h
  rw [if_neg hd] at h
  by_cases h0 : e.Kind = 0
  ·exact .same e h0
  rw [if_neg h0] at h
  by_cases h1 : e.Kind = 1
  ·exact .repl e h1
  rw [if_neg h1] at h
  by_cases h2 : e.Kind = 2
  ·rw [if_pos h2] at h
   simp only [Bool.and_eq_true] at h
   obtain ⟨w1, w2⟩ := Z98 Ya7 h.2.1
   obtain ⟨k1, k2⟩ := Z98 (Ya5 (d - 1)) h.2.2
   refine .st e h2 w2 w1 k2 k1 fun k hk => Ybj n k.E (d - 1) (by have := Vs hk; omega) ?_
   exact Z1h (Q := fun k : Zp => rE k.E (d - 1) = true) (fun p x hx => by
    unfold okK okP at hx
    simp only [Bool.and_eq_true] at hx
    exact hx.2.2) e.Kids (-1) h.2.2 k hk
  rw [if_neg h2] at h
  by_cases h3 : e.Kind = 3
  ·rw [if_pos h3] at h
   simp only [Bool.and_eq_true, decide_eq_true_eq, List.all_eq_true] at h
   have ho := h.2.2.1
   refine .li e h3 h.2.1 (fun o hx => Z7b (ho o hx)) (fun o hx k03 => ?_) fun o hx k3 => Ybj n o.E (d - 1) (by have := Zao hx; omega) ?_
   ·have := ho o hx
    unfold okO at this
    rcases k03 with k0 | k3
    ·rw [if_pos k0] at this
     simp only [Bool.and_eq_true, beq_iff_eq] at this
     exact List.eq_nil_of_length_eq_zero this.2.1
    rw [if_neg (by omega), if_neg (by omega), if_pos k3] at this
    simp only [Bool.and_eq_true, beq_iff_eq] at this
    exact List.eq_nil_of_length_eq_zero this.2.1
   have := ho o hx
   unfold okO at this
   rw [if_neg (by omega), if_neg (by omega), if_pos k3] at this
   simp only [Bool.and_eq_true] at this
   exact this.2.2.2.2
  rw [if_neg h3] at h; cases h
inductive TX : Tr → Prop
 | mk (t : Tr) (h1 : 2 ≤ t.Kind ∧ t.Kind ≤ 9 → t.Words = []) (h9 : t.Kind = 9 → ∀ k ∈ t.Kids, k.Kind = 1) (ih : ∀ k ∈ t.Kids, TX k) : TX t
theorem TX.w {t : Tr} (h : TX t) : 2 ≤ t.Kind ∧ t.Kind ≤ 9 → t.Words = [] := by cases h; assumption
theorem TX.s {t : Tr} (h : TX t) : t.Kind = 9 → ∀ k ∈ t.Kids, k.Kind = 1 := by cases h; assumption
theorem TX.all {t : Tr} (h : TX t) : ∀ k ∈ t.Kids, TX k := by cases h; assumption
theorem TX.z : TX Uv := .mk _ (fun _ => rfl) (fun h => by simp [Uv] at h) (by simp [Uv])
theorem Yei : ∀ (n : Nat) (t : Tr) (d : Nat), SizeOf.sizeOf t < n → rt t d = true → TX t
 | 0, _, _, h, _ => by omega
 | n + 1, t, d, hn, h => by
  rw [Zjw] at h
  by_cases h0 : t.Kind = 0
  ·rw [if_pos h0] at h
   simp only [Bool.and_eq_true, beq_iff_eq] at h
   have hk := List.eq_nil_of_length_eq_zero h.2
   exact .mk _ (fun h => by omega) (fun h => by omega) (by rw [hk]; simp)
  rw [if_neg h0] at h
  by_cases h10 : t.Kind = 10
  ·rw [if_pos h10] at h
   simp only [Bool.and_eq_true, beq_iff_eq] at h
   have hk := List.eq_nil_of_length_eq_zero h.2
   exact .mk _ (fun h => by omega) (fun h => by omega) (by rw [hk]; simp)
  rw [if_neg h10] at h
  by_cases hc : t.Kind < 0 ∨ 10 < t.Kind ∨ d = 0 ∨ 65536 ≤ t.Words.length ∨ (t.Kind = 1 ∧ 65536 ≤ t.Kids.length) ∨ 1048576 ≤ t.Kids.length ∨ (1 < t.Kind ∧ 0 < t.Words.length)
  ·rw [if_pos hc] at h; cases h
  rw [if_neg hc, List.all_eq_true] at h
  refine .mk _ (fun hk => List.eq_nil_of_length_eq_zero (by omega)) (fun h9 k hk => ?_) fun k hk => ?_
  ·have := h k hk
   rw [Bool.and_eq_true] at this
   have h2 := this.2
   unfold okk at h2
   rw [if_neg (by omega), h9] at h2
   simp only [Bool.and_eq_true, Bool.or_eq_true, bne_self_eq_false, Bool.false_eq_true, false_or, beq_iff_eq] at h2
   exact h2.2
  have := h k hk
  rw [Bool.and_eq_true] at this
  exact Yei n k (d - 1) (by have := Za5 hk; omega) this.1
theorem TX.nn : ∀ (n : Nat) (t : Tr), SizeOf.sizeOf t < n → TX t → TX (nrm t)
 | 0, _, h, _ => by omega
 | n + 1, t, hn, h => by
  by_cases h0 : t.Kind = 0
  ·rw [Zli h0]; exact TX.z
  by_cases h1 : t.Kind = 1
  ·rw [Zal h1]
   refine .mk _ (fun h => by simp only at h; omega) (fun h => by simp only at h; omega) fun k hk => ?_
   obtain ⟨y, hy, rfl⟩ := List.mem_map.1 (Zhh hk)
   exact TX.nn n y (by have := Za5 hy; omega) (h.all y hy)
  rw [Zfw h0 h1]
  refine .mk _ h.w (fun h9 k hk => ?_) fun k hk => ?_
  ·obtain ⟨y, hy, rfl⟩ := List.mem_map.1 hk
   rw [Zbu]; exact h.s h9 y hy
  obtain ⟨y, hy, rfl⟩ := List.mem_map.1 hk
  exact TX.nn n y (by have := Za5 hy; omega) (h.all y hy)
theorem Zvg {α : Type} {z : α} {l : List α} {i : Nat} : Gd z l i ∈ l ∨ Gd z l i = z := by
 unfold Gd
 cases h : l[i]? with
 | none => exact .inr rfl
 | some x => exact .inl (List.mem_of_getElem? h)
theorem Zww (o : List Tr) (Q : Tr → Prop) (hz : Q Uv) : ∀ (ws : List (Nat × (Tr → Option Tr))) (c c' : List Tr), (∀ w ∈ ws, ∀ u, w.2 (Gd Uv o w.1) = some u → Q u) → (∀ x ∈ c, Q x) → rnK o ws c = some c' → ∀ x ∈ c', Q x
 | [], c, c', _, hc, h => by rw [rnK] at h; injection h with h; subst h; exact hc
 | (i, f) :: ws, c, c', hw, hc, h => by
  rw [rnK] at h
  cases hu : f (Gd Uv o i) with
  | none => rw [hu] at h; cases h
  | some u =>
   rw [hu] at h
   refine Zww o Q hz ws _ c' (fun w hx => hw w (.tail _ hx)) (fun x hx => ?_) h
   rcases Z2s hx with hx | rfl | rfl
   ·exact hc x hx
   ·exact hw _ (.head _) x hu
   exact hz
theorem Z2u (o : List Int) : ∀ (ws : List Zu) (c c' : List Int), (∀ x ∈ c, 0 ≤ x ∧ x < 18446744073709551616) → rnW o ws c = some c' → ∀ x ∈ c', 0 ≤ x ∧ x < 18446744073709551616
 | [], c, c', hc, h => by rw [rnW] at h; injection h with h; subst h; exact hc
 | w :: ws, c, c', hc, h => by
  rw [rnW] at h
  split at h
  ·refine Z2u o ws _ c' (fun x hx => ?_) h
   rcases Z2s hx with hx | rfl | rfl
   ·exact hc x hx
   ·exact Yc4 _ _
   omega
  cases h
theorem Zok {I : Tr → Prop} : ∀ (os os' : List (EO × (Tr → Option Tr))) (l out l' out' : List Tr), (∀ x ∈ l, I x) → rnO os (l, out) = some (l', out') →
  os'.length = os.length → (∀ (j : Nat) o o', os[j]? = some o → os'[j]? = some o' → (o.1.Kind = 0 ∧ o'.1.Kind = 0 ∧ o'.1.N = o.1.N) ∨ (o.1.Kind = 1 ∧ o'.1.Kind = 2 ∧ o'.1.L = o.1.L) ∨ (o.1.Kind = 2 ∧ o'.1.Kind = 1 ∧ o'.1.L = o.1.L) ∨ (o.1.Kind = 3 ∧ o'.1.Kind = 3 ∧ ∀ x u, I x → o.2 x = some u → o'.2 u = some x)) →
  ∃ c n, l = c ++ l' ∧ out' = out ++ n ∧ ∀ x y, rnO os' (n ++ x, y) = some (x, y ++ c)
 | [], os', l, out, l', out', _, h, hl, _ => by
  obtain rfl : os' = [] := List.eq_nil_of_length_eq_zero hl
  rw [rnO] at h
  injection h with h
  injection h with h1 h2
  exact ⟨[], [], h1, by rw [List.append_nil]; exact h2.symm, fun x y => by rw [rnO, List.append_nil, List.nil_append]⟩
 | (o, f) :: os, os', l, out, l', out', hI, h, hl, hp => by
  cases os' with
  | nil => simp at hl
  | cons q os' =>
   obtain ⟨o', f'⟩ := q
   have h0 := hp 0 _ _ rfl rfl
   have hr : ∀ (j : Nat) p p', os[j]? = some p → os'[j]? = some p' → _ := fun j p p' e1 e2 => hp (j + 1) p p' (by simpa using e1) (by simpa using e2)
   rw [rnO] at h
   obtain ⟨⟨l1, out1⟩, hs, hrest⟩ := Option.bind_eq_some_iff.1 h
   have hl' : os'.length = os.length := by simpa using hl
   simp only at h0
   unfold stO at hs
   simp only at hs
   rcases h0 with ⟨k0, k0', hN⟩ | ⟨k1, k1', hL⟩ | ⟨k2, k2', hL⟩ | ⟨k3, k3', hf⟩
   ·rw [if_pos k0] at hs
    split at hs
    ·rename_i hc
     injection hs with hs
     injection hs with e1 e2
     subst e1 e2
     obtain ⟨c, n, a1, a2, a3⟩ := Zok os os' _ _ l' out' (fun x hx => hI x (List.mem_of_mem_drop hx)) hrest hl' hr
     refine ⟨l.take o.N.toNat ++ c, l.take o.N.toNat ++ n, by rw [List.append_assoc, ← a1, List.take_append_drop], by rw [a2, List.append_assoc], fun x y => ?_⟩
     have ht : (l.take o.N.toNat).length = o.N.toNat := by rw [List.length_take]; omega
     rw [rnO]
     have : stO o' f' (l.take o.N.toNat ++ n ++ x, y) = some (n ++ x, y ++ l.take o.N.toNat) := by
      unfold stO
      simp only
      rw [if_pos k0', hN, if_pos ⟨hc.1, by simp only [List.length_append, ht]; omega⟩, List.append_assoc, List.drop_left' ht, List.take_left' ht]
     rw [this, Option.bind_some, a3, List.append_assoc]
    cases hs
   ·rw [if_neg (by omega), if_pos k1] at hs
    split at hs
    ·rename_i hc
     injection hs with hs
     injection hs with e1 e2
     subst e1 e2
     obtain ⟨c, n, a1, a2, a3⟩ := Zok os os' _ _ l' out' (fun x hx => hI x (List.mem_of_mem_drop hx)) hrest hl' hr
     refine ⟨o.L.map nrm ++ c, n, by rw [List.append_assoc, ← a1, ← hc, List.take_append_drop], a2, fun x y => ?_⟩
     rw [rnO]
     have : stO o' f' (n ++ x, y) = some (n ++ x, y ++ o.L.map nrm) := by
      unfold stO
      simp only
      rw [if_neg (by omega), if_neg (by omega), if_pos k1', hL]
     rw [this, Option.bind_some, a3, List.append_assoc]
    cases hs
   ·rw [if_neg (by omega), if_neg (by omega), if_pos k2] at hs
    injection hs with hs
    injection hs with e1 e2
    subst e1 e2
    obtain ⟨c, n, a1, a2, a3⟩ := Zok os os' _ _ l' out' hI hrest hl' hr
    refine ⟨c, o.L.map nrm ++ n, a1, by rw [a2, List.append_assoc], fun x y => ?_⟩
    rw [rnO]
    have ht : (o.L.map nrm).length = o.L.length := List.length_map _
    have : stO o' f' (o.L.map nrm ++ n ++ x, y) = some (n ++ x, y) := by
     unfold stO
     simp only
     rw [if_neg (by omega), if_pos k2', hL, List.append_assoc, if_pos (List.take_left' ht), List.drop_left' ht]
    rw [this, Option.bind_some, a3]
   rw [if_neg (by omega), if_neg (by omega), if_neg (by omega), if_pos k3] at hs
   cases l with
   | nil => cases hs
   | cons x0 l =>
    simp only at hs
    obtain ⟨u, hu, e⟩ := Option.map_eq_some_iff.1 hs
    injection e with e1 e2
    subst e1 e2
    obtain ⟨c, n, a1, a2, a3⟩ := Zok os os' _ _ l' out' (fun x hx => hI x (.tail _ hx)) hrest hl' hr
    refine ⟨x0 :: c, u :: n, by rw [List.cons_append, ← a1], by rw [a2, List.append_assoc]; rfl, fun x y => ?_⟩
    rw [rnO]
    have : stO o' f' (u :: n ++ x, y) = some (n ++ x, y ++ [x0]) := by
     unfold stO
     simp only [List.cons_append]
     rw [if_neg (by omega), if_neg (by omega), if_neg (by omega), if_pos k3', hf x0 u (hI x0 (.head _)) hu]
     rfl
    rw [this, Option.bind_some, a3, List.append_assoc]
    rfl
theorem Zu4 (t : Tr) : (⟨t.Kind, t.Words, t.Kids⟩ : Tr) = t := by cases t; rfl
theorem Z57 {α : Type} {f : α → Nat} : ∀ {l : List α}, l.Pairwise (fun a b => f a ≠ f b) → ∀ a ∈ l, ∀ b ∈ l, f a = f b → a = b
 | [], _, a, ha, _, _, _ => by cases ha
 | x :: l, h, a, ha, b, hb, hab => by
  obtain ⟨h1, h2⟩ := List.pairwise_cons.1 h
  rcases List.mem_cons.1 ha with ha | ha
  ·rcases List.mem_cons.1 hb with hb | hb
   ·rw [ha, hb]
   exact absurd (by rw [← ha]; exact hab) (h1 b hb)
  rcases List.mem_cons.1 hb with hb | hb
  ·exact absurd (by rw [← hb]; exact hab.symm) (h1 a ha)
  exact Z57 h2 a ha b hb hab
theorem Zuk (o : List Int) (ws : List Zu) (f : Nat → Int) (j : Nat) : (∃ w ∈ ws, w.At.toNat = j ∧ upW o ws f j = Zky (Gd 0 o j) w) ∨ ((∀ w ∈ ws, w.At.toNat ≠ j) ∧ upW o ws f j = f j) := by
 unfold upW
 cases h : ws.find? (fun w => w.At.toNat == j) with
 | some w => exact .inl ⟨w, List.mem_of_find?_eq_some h, by have := List.find?_some h; rwa [beq_iff_eq] at this, rfl⟩
 | none => exact .inr ⟨fun w hw q => by have := List.find?_eq_none.1 h w hw; rw [beq_iff_eq] at this; exact this q, rfl⟩
theorem Zuj (o : List Tr) (ws : List (Nat × (Tr → Option Tr))) (f : Nat → Tr) (j : Nat) : (∃ w ∈ ws, w.1 = j ∧ upK o ws f j = (w.2 (Gd Uv o j)).getD Uv) ∨ ((∀ w ∈ ws, w.1 ≠ j) ∧ upK o ws f j = f j) := by
 unfold upK
 cases h : ws.find? (fun w => w.1 == j) with
 | some w => exact .inl ⟨w, List.mem_of_find?_eq_some h, by have := List.find?_some h; rwa [beq_iff_eq] at this, rfl⟩
 | none => exact .inr ⟨fun w hw q => by have := List.find?_eq_none.1 h w hw; rw [beq_iff_eq] at this; exact this q, rfl⟩
theorem Z7h (P Q : Tr → Prop) (hPQ : ∀ x, P x → Q x) : ∀ (os : List (EO × (Tr → Option Tr))) (l out l' out' : List Tr), (∀ x ∈ l, P x) → (∀ x ∈ out, Q x) → (∀ o ∈ os, o.1.Kind = 2 → ∀ x ∈ o.1.L, Q (nrm x)) → (∀ o ∈ os, o.1.Kind = 3 → ∀ x u, P x → o.2 x = some u → Q u) → rnO os (l, out) = some (l', out') → (∀ x ∈ l', P x) ∧ ∀ x ∈ out', Q x
 | [], l, out, l', out', h1, h2, _, _, h => by
  rw [rnO] at h
  injection h with h
  injection h with e1 e2
  subst e1 e2
  exact ⟨h1, h2⟩
 | (o, f) :: os, l, out, l', out', h1, h2, h3, h4, h => by
  rw [rnO] at h
  obtain ⟨⟨l1, out1⟩, hs, hrest⟩ := Option.bind_eq_some_iff.1 h
  have key : (∀ x ∈ l1, P x) ∧ ∀ x ∈ out1, Q x := by
   unfold stO at hs
   simp only at hs
   split at hs
   ·split at hs
    ·injection hs with hs
     injection hs with e1 e2
     subst e1 e2
     refine ⟨fun x hx => h1 x (List.mem_of_mem_drop hx), fun x hx => ?_⟩
     rcases List.mem_append.1 hx with hx | hx
     ·exact h2 x hx
     exact hPQ x (h1 x (List.mem_of_mem_take hx))
    cases hs
   split at hs
   ·split at hs
    ·injection hs with hs
     injection hs with e1 e2
     subst e1 e2
     exact ⟨fun x hx => h1 x (List.mem_of_mem_drop hx), h2⟩
    cases hs
   split at hs
   ·rename_i k2
    injection hs with hs
    injection hs with e1 e2
    subst e1 e2
    refine ⟨h1, fun x hx => ?_⟩
    rcases List.mem_append.1 hx with hx | hx
    ·exact h2 x hx
    obtain ⟨y, hy, rfl⟩ := List.mem_map.1 hx
    exact h3 _ (.head _) k2 y hy
   split at hs
   ·rename_i k3
    cases l with
    | nil => cases hs
    | cons x0 l =>
     simp only at hs
     obtain ⟨u, hu, e⟩ := Option.map_eq_some_iff.1 hs
     injection e with e1 e2
     subst e1 e2
     refine ⟨fun x hx => h1 x (.tail _ hx), fun x hx => ?_⟩
     rcases List.mem_append.1 hx with hx | hx
     ·exact h2 x hx
     rw [List.mem_singleton.1 hx]
     exact h4 _ (.head _) k3 x0 u (h1 x0 (.head _)) hu
   cases hs
  exact Z7h P Q hPQ os l1 out1 l' out' key.1 key.2 (fun o ho => h3 o (.tail _ ho)) (fun o ho => h4 o (.tail _ ho)) hrest
theorem Yad {k : Int} {r : Option (List Tr × List Tr)} {u : Tr} (h : Ycs k r = some u) : ∃ out, r = some ([], out) ∧ u = ⟨k, [], out⟩ := by
 unfold Ycs at h
 split at h
 ·injection h with h
  exact ⟨_, rfl, h.symm⟩
 cases h
theorem Zj6 {l : List Tr} {Q : Tr → Prop} (h : ∀ x ∈ l, Q x) (hz : Q Uv) (i : Nat) : Q (Gd Uv l i) := by
 rcases Zvg (z := Uv) (l := l) (i := i) with q | q
 ·exact h _ q
 rw [q]; exact hz
theorem Z93 {l : List Int} (h : ∀ x ∈ l, 0 ≤ x ∧ x < 18446744073709551616) (i : Nat) : 0 ≤ Gd 0 l i ∧ Gd 0 l i < 18446744073709551616 := by
 rcases Zvg (z := (0 : Int)) (l := l) (i := i) with q | q
 ·exact h _ q
 rw [q]; omega
theorem Yfh (x : Int) (w : Zu) : cW (Zky x w) (swW w) = true := by
 unfold cW Zky swW
 rw [decide_eq_true_eq]
 simp only [Int.toNat_natCast]
 exact Z64 _ _ _ _
theorem Yfg {x : Int} (hx : 0 ≤ x) {w : Zu} (h : cW x w = true) : Zky (Zky x w) (swW w) = x := by
 unfold cW at h
 rw [decide_eq_true_eq] at h
 unfold Zky swW
 simp only [Int.toNat_natCast]
 rw [Z64, h]
 omega
theorem Yb1 {t : Tr} (h : NT t) (h1 : t.Kind = 1) {ws : List Int} (hw : ∀ i, Gd 0 ws i = Gd 0 t.Words i) : tr p0 ws = t.Words := by
 rw [← (h.words h1).1]
 exact Zzt rfl ws t.Words (fun x _ hx => Z4x hx) (fun x _ hx => Z4x hx) hw
theorem Yd0 {t : Tr} (h : NT t) (h1 : t.Kind = 1) {ks : List Tr} (hn : ∀ x ∈ ks, NT x) (hw : ∀ i, Gd Uv ks i = Gd Uv t.Kids i) : tr pT ks = t.Kids := by
 rw [← (h.words h1).2]
 exact Zzt rfl ks t.Kids (fun x hx hp => (hn x hx).null hp) (fun x hx hp => (h.kids x hx).null hp) hw
theorem Z1f : ∀ (n : Nat) (e : Ed) (t u : Tr), SizeOf.sizeOf e < n → RX e → BE e → NT t → Rg t → TX t → ap e t = some u → NT u ∧ Rg u ∧ ap (tE e) u = some t
 | 0, _, _, _, h, _, _, _, _, _, _ => by omega
 | n + 1, e, t, u, hn, hx, hb, nt, rg, tx, h => by
  rw [Zgk] at h
  rw [Zgk (tE e), Zs8]
  simp only
  cases hx with
  | same _ k0 =>
   rw [if_pos k0] at h ⊢
   injection h with h
   subst h
   exact ⟨nt, rg, rfl⟩
  | repl _ k1 =>
   rw [if_neg (by omega), if_pos k1] at h ⊢
   split at h
   ·rename_i ht
    injection h with h
    subst h
    exact ⟨NT.of _, hb.new.nrm.rg, by rw [if_pos rfl, ht]⟩
   cases h
  | st _ k2 hw hw2 hk hk2 ih =>
   rw [if_neg (by omega), if_neg (by omega), if_pos k2] at h ⊢
   split at h
   ·rename_i ht
    obtain ⟨ws, e1, h⟩ := Option.bind_eq_some_iff.1 h
    obtain ⟨ks, e2, h⟩ := Option.bind_eq_some_iff.1 h
    injection h with h
    subst h
    simp only
    rw [if_pos trivial]
    have ihk : ∀ k ∈ e.Kids, ∀ i v, ap k.E (Gd Uv t.Kids i) = some v → NT v ∧ Rg v ∧ ap (tE k.E) v = some (Gd Uv t.Kids i) := fun k hk i v hv =>
     Z1f n k.E _ v (by have := Vs hk; omega) (ih k hk) (hb.ks k hk) (Zj6 nt.kids NT.z i) (Zj6 rg.all Rg.z i) (Zj6 tx.all TX.z i) hv
    have hpk : (apK e.Kids).Pairwise (fun a b => a.1 ≠ b.1) := List.pairwise_map.2 hk
    have hnk : ∀ w ∈ apK e.Kids, ∀ v, w.2 (Gd Uv t.Kids w.1) = some v → NT v ∧ Rg v := fun w hw v hv => by
     obtain ⟨k, hkm, rfl⟩ := List.mem_map.1 hw
     have := ihk k hkm _ v hv
     exact ⟨this.1, this.2.1⟩
    have hksm := Zww t.Kids (fun x => NT x ∧ Rg x) ⟨NT.z, Rg.z⟩ (apK e.Kids) t.Kids ks hnk (fun x hx => ⟨nt.kids x hx, rg.all x hx⟩) e2
    have hwsm := Z2u t.Words e.Words t.Words ws rg.u e1
    obtain ⟨s1, s2⟩ := Zol t.Words e.Words t.Words hw
    obtain ⟨q1, q2⟩ := Zzj t.Kids (apK e.Kids) t.Kids hpk fun w hw v hv => (hnk w hw v hv).1
    have okw : Z52 t.Words e.Words := Classical.byContradiction fun q => by rw [s2 q] at e1; cases e1
    have okk : Yfk t.Kids (apK e.Kids) := Classical.byContradiction fun q => by rw [q2 q] at e2; cases e2
    obtain ⟨ws', f1, f2⟩ := s1 okw
    rw [e1] at f1
    injection f1 with f1
    subst f1
    obtain ⟨ks', g1, g2⟩ := q1 okk
    rw [e2] at g1
    injection g1 with g1
    subst g1
    have aw : ∀ j, Gd 0 (tr p0 ws) j = upW t.Words e.Words (Gd 0 t.Words) j := fun j => by rw [Z5c ws fun x _ hx => Z4x hx, f2 j]
    have ak : ∀ j, Gd Uv (tr pT ks) j = upK t.Kids (apK e.Kids) (Gd Uv t.Kids) j := fun j => by rw [Z5c ks fun x hx hp => (hksm x hx).1.null hp, g2 j]
    refine ⟨NT.st fun k hk => (hksm k hk).1, .mk _ (fun x hx => hwsm x (Zhh hx)) (fun x hx => (hksm x (Zhh hx)).2), ?_⟩
    -- back: words
    have hw' : (e.Words.map swW).Pairwise (fun a b => a.At.toNat ≠ b.At.toNat) := List.pairwise_map.2 hw
    obtain ⟨b1, _⟩ := Zol (tr p0 ws) (e.Words.map swW) (tr p0 ws) hw'
    have fw : ∀ w ∈ e.Words, Gd 0 (tr p0 ws) w.At.toNat = Zky (Gd 0 t.Words w.At.toNat) w := fun w hwm => by
     rw [aw]
     rcases Zuk t.Words e.Words (Gd 0 t.Words) w.At.toNat with ⟨w', m1, m2, m3⟩ | ⟨m1, _⟩
     ·rw [m3, Z57 (f := fun w : Zu => w.At.toNat) hw w' m1 w hwm m2]
     exact absurd rfl (m1 w hwm)
    obtain ⟨ws2, c1, c2⟩ := b1 fun w hwm => by
     obtain ⟨w0, hm, rfl⟩ := List.mem_map.1 hwm
     show cW (Gd 0 (tr p0 ws) w0.At.toNat) (swW w0) = true
     rw [fw w0 hm]
     exact Yfh _ _
    rw [c1, Option.bind_some]
    have d1 : tr p0 ws2 = t.Words := Yb1 nt ht fun j => by
     rw [c2 j]
     rcases Zuk (tr p0 ws) (e.Words.map swW) (Gd 0 (tr p0 ws)) j with ⟨w', m1, m2, m3⟩ | ⟨m1, m3⟩
     ·obtain ⟨w0, hm, rfl⟩ := List.mem_map.1 m1
      have m2' : w0.At.toNat = j := m2
      rw [m3, ← m2', fw w0 hm, Yfg (Z93 rg.u _).1 (okw w0 hm)]
     rw [m3, aw]
     rcases Zuk t.Words e.Words (Gd 0 t.Words) j with ⟨w', r1, r2, r3⟩ | ⟨r1, r3⟩
     ·exact absurd r2 (m1 (swW w') (List.mem_map.2 ⟨w', r1, rfl⟩))
     exact r3
    -- back: kids
    have fk : ∀ k ∈ e.Kids, ∃ v, ap k.E (Gd Uv t.Kids k.At.toNat) = some v ∧ Gd Uv (tr pT ks) k.At.toNat = v ∧ ap (tE k.E) v = some (Gd Uv t.Kids k.At.toNat) := fun k hkm => by
     have := okk (k.At.toNat, ap k.E) (List.mem_map.2 ⟨k, hkm, rfl⟩)
     simp only at this
     obtain ⟨v, hv⟩ := Option.isSome_iff_exists.1 this
     refine ⟨v, hv, ?_, (ihk k hkm _ v hv).2.2⟩
     rw [ak]
     rcases Zuj t.Kids (apK e.Kids) (Gd Uv t.Kids) k.At.toNat with ⟨w', m1, m2, m3⟩ | ⟨m1, _⟩
     ·obtain ⟨k', hkm', rfl⟩ := List.mem_map.1 m1
      have hkk := Z57 (f := fun w : Zp => w.At.toNat) hk k' hkm' k hkm m2
      subst hkk
      rw [m3]
      simp only
      rw [hv]
      rfl
     exact absurd rfl (m1 (k.At.toNat, ap k.E) (List.mem_map.2 ⟨k, hkm, rfl⟩))
    have hap : apK (e.Kids.map fun k => (⟨k.At, tE k.E⟩ : Zp)) = e.Kids.map fun k => (k.At.toNat, ap (tE k.E)) := by unfold apK; rw [List.map_map]; rfl
    rw [hap]
    have hpk' : (e.Kids.map fun k => (k.At.toNat, ap (tE k.E))).Pairwise (fun a b => a.1 ≠ b.1) := List.pairwise_map.2 hk
    have hnk' : ∀ w ∈ (e.Kids.map fun k => (k.At.toNat, ap (tE k.E))), ∀ v, w.2 (Gd Uv (tr pT ks) w.1) = some v → NT v := fun w hwm v hv => by
     obtain ⟨k, hkm, rfl⟩ := List.mem_map.1 hwm
     obtain ⟨v0, r1, r2, r3⟩ := fk k hkm
     simp only at hv
     rw [r2, r3] at hv
     injection hv with hv
     rw [← hv]
     exact Zj6 nt.kids NT.z _
    obtain ⟨b2, _⟩ := Zzj (tr pT ks) (e.Kids.map fun k => (k.At.toNat, ap (tE k.E))) (tr pT ks) hpk' hnk'
    obtain ⟨ks2, k1, k2'⟩ := b2 fun w hwm => by
     obtain ⟨k, hkm, rfl⟩ := List.mem_map.1 hwm
     obtain ⟨v0, r1, r2, r3⟩ := fk k hkm
     simp only
     rw [r2, r3]
     rfl
    rw [k1, Option.bind_some]
    have hm2 := Zww (tr pT ks) NT NT.z _ (tr pT ks) ks2 hnk' (fun x hx => (hksm x (Zhh hx)).1) k1
    have d2 : tr pT ks2 = t.Kids := Yd0 nt ht hm2 fun j => by
     rw [k2' j]
     rcases Zuj (tr pT ks) (e.Kids.map fun k => (k.At.toNat, ap (tE k.E))) (Gd Uv (tr pT ks)) j with ⟨w', m1, m2, m3⟩ | ⟨m1, m3⟩
     ·obtain ⟨k, hkm, rfl⟩ := List.mem_map.1 m1
      simp only at m2 m3
      obtain ⟨v0, r1, r2, r3⟩ := fk k hkm
      rw [m3, ← m2, r2, r3]
      rfl
     rw [m3, ak]
     rcases Zuj t.Kids (apK e.Kids) (Gd Uv t.Kids) j with ⟨w', r1, r2, r3⟩ | ⟨r1, r3⟩
     ·obtain ⟨k, hkm, rfl⟩ := List.mem_map.1 r1
      exact absurd r2 (m1 (k.At.toNat, ap (tE k.E)) (List.mem_map.2 ⟨k, hkm, rfl⟩))
     exact r3
    rw [d1, d2, ← ht, Zu4]
   cases h
  | li _ k3 hl ho hN ih =>
   rw [if_neg (by omega), if_neg (by omega), if_neg (by omega), if_pos k3] at h ⊢
   split at h
   ·rename_i ht
    obtain ⟨out, e1, rfl⟩ := Yad h
    simp only
    rw [if_pos ht]
    have I : ∀ x ∈ t.Kids, NT x ∧ Rg x ∧ TX x := fun x hx => ⟨nt.kids x hx, rg.all x hx, tx.all x hx⟩
    have hap : apO (e.Ops.map tO) = e.Ops.map fun o => (tO o, ap (tO o).E) := by unfold apO; rw [List.map_map]; rfl
    have hback := Zok (I := fun x => NT x ∧ Rg x ∧ TX x) (apO e.Ops) (apO (e.Ops.map tO)) t.Kids [] [] out I e1 (by simp [apO]) (fun j o o' h1 h2 => by
     rw [hap, List.getElem?_map] at h2
     unfold apO at h1
     rw [List.getElem?_map] at h1
     cases hj : e.Ops[j]? with
     | none => rw [hj] at h1; cases h1
     | some q =>
      rw [hj] at h1 h2
      simp only [Option.map_some, Option.some.injEq] at h1 h2
      subst h1 h2
      have hq := List.mem_of_getElem? hj
      rcases ho q hq with ⟨k, _⟩ | ⟨k, _⟩ | ⟨k, _⟩ | k
      ·refine .inl ⟨k, ?_⟩
       rw [Z6e (by omega) (by omega) (by omega)]
       exact ⟨k, rfl⟩
      ·refine .inr (.inl ⟨k, ?_⟩)
       rw [Z9n k]
       exact ⟨rfl, rfl⟩
      ·refine .inr (.inr (.inl ⟨k, ?_⟩))
       rw [Z9o k]
       exact ⟨rfl, rfl⟩
      refine .inr (.inr (.inr ⟨k, ?_⟩))
      rw [Z6f k]
      exact ⟨rfl, fun x v hx hv => (Z1f n q.E x v (by have := Zao hq; omega) (ih q hq k) (hb.os q hq) hx.1 hx.2.1 hx.2.2 hv).2.2⟩)
    obtain ⟨c, m, a1, a2, a3⟩ := hback
    rw [List.append_nil] at a1
    rw [List.nil_append] at a2
    subst a1 a2
    have := a3 [] []
    rw [List.append_nil, List.nil_append] at this
    rw [this]
    have hm := Z7h (fun x => NT x ∧ Rg x ∧ TX x) (fun x => NT x ∧ Rg x) (fun x h => ⟨h.1, h.2.1⟩) (apO e.Ops) t.Kids [] [] out I (fun x hx => by cases hx) (fun o hom _ x hx => by
     obtain ⟨q, hq, rfl⟩ := List.mem_map.1 hom
     exact ⟨NT.of x, ((hb.l q hq).2 x hx).nrm.rg⟩) (fun o hom hk x v hx hv => by
     obtain ⟨q, hq, rfl⟩ := List.mem_map.1 hom
     have := Z1f n q.E x v (by have := Zao hq; omega) (ih q hq hk) (hb.os q hq) hx.1 hx.2.1 hx.2.2 hv
     exact ⟨this.1, this.2.1⟩) e1
    refine ⟨NT.li (by omega) (by omega) fun x hx => (hm.2 x hx).1, .mk _ (fun x hx => by cases hx) (fun x hx => (hm.2 x hx).2), ?_⟩
    show some (⟨t.Kind, [], t.Kids⟩ : Tr) = some t
    rw [← tx.w (by omega), Zu4]
   cases h
theorem Z7g : ∀ (a b : List (EO × (Tr → Option Tr))) (s : List Tr × List Tr), rnO (a ++ b) s = (rnO a s).bind (rnO b)
 | [], b, s => rfl
 | (o, f) :: a, b, s => by
  rw [List.cons_append, rnO, rnO, Option.bind_assoc]
  congr 1
  funext x
  exact Z7g a b x
theorem Yci (a b : List EO) : apO (a ++ b) = apO a ++ apO b := by unfold apO; rw [List.map_append]
def RO (os : List EO) (s : List Tr × List Tr) : Option (List Tr × List Tr) := rnO (apO os) s
theorem Ztq (a b : List EO) (s : List Tr × List Tr) : RO (a ++ b) s = (RO a s).bind (RO b) := by unfold RO; rw [Yci, Z7g]
theorem Z1e (o : EO) (s : List Tr × List Tr) : RO [o] s = stO o (ap o.E) s := by
 unfold RO apO
 rw [List.map_cons, List.map_nil, rnO]
 cases stO o (ap o.E) s <;> rfl
theorem Z9s (s : List Tr × List Tr) : RO [] s = some s := rfl
def Zp4 (g : List Tr) (s : List Tr × List Tr) : Option (List Tr × List Tr) := if s.1.take g.length = g.map nrm then some (s.1.drop g.length, s.2) else none
def Zp6 (g : List Tr) (s : List Tr × List Tr) : Option (List Tr × List Tr) := some (s.1, s.2 ++ g.map nrm)
def Zqh (n : Int) (s : List Tr × List Tr) : Option (List Tr × List Tr) := if 0 ≤ n ∧ n.toNat ≤ s.1.length then some (s.1.drop n.toNat, s.2 ++ s.1.take n.toNat) else none
theorem Yev (g : List Tr) (s : List Tr × List Tr) : RO (Zeb g) s = Zp4 g s := by
 by_cases h : g = []
 ·subst h; rw [Z36, Z9s]; unfold Zp4; simp
 rw [Zgs h, Z1e]; unfold stO Zp4; simp
theorem Yew (g : List Tr) (s : List Tr × List Tr) : RO (Zfl g) s = Zp6 g s := by
 by_cases h : g = []
 ·subst h; rw [Zyu, Z9s]; unfold Zp6; simp
 rw [Zg2 h, Z1e]; unfold stO Zp6; simp
theorem Z1d (n : Int) (L : List Tr) (E : Ed) (s : List Tr × List Tr) : RO [⟨0, n, L, E⟩] s = Zqh n s := by rw [Z1e]; unfold stO Zqh; simp
theorem Z9a {a b : Int} (ha : 0 ≤ a) (hb : 0 ≤ b) (s : List Tr × List Tr) : Zqh (a + b) s = (Zqh a s).bind (Zqh b) := by
 have e : (a + b).toNat = a.toNat + b.toNat := by omega
 unfold Zqh
 rw [e]
 by_cases h : a.toNat ≤ s.1.length
 ·rw [if_pos (c := 0 ≤ a ∧ a.toNat ≤ s.1.length) ⟨ha, h⟩, Option.bind_some]
  simp only [List.length_drop]
  by_cases h2 : a.toNat + b.toNat ≤ s.1.length
  ·rw [if_pos ⟨by omega, h2⟩, if_pos ⟨hb, by omega⟩, List.drop_drop, List.append_assoc, List.take_add]
  rw [if_neg (by omega), if_neg (by omega)]
 rw [if_neg (c := 0 ≤ a ∧ a.toNat ≤ s.1.length) (by omega), if_neg (by omega)]
 rfl
theorem Yac (g h : List Tr) (s : List Tr × List Tr) : Zp4 (g ++ h) s = (Zp4 g s).bind (Zp4 h) := by
 unfold Zp4
 rw [List.length_append, List.map_append, List.take_add]
 by_cases h1 : s.1.take g.length = g.map nrm
 ·rw [if_pos h1, Option.bind_some, h1]
  simp only [List.append_cancel_left_eq, List.drop_drop]
 rw [if_neg h1]
 have : ¬ (s.1.take g.length ++ (s.1.drop g.length).take h.length = g.map nrm ++ h.map nrm) := fun q => by
  have hl := congrArg List.length q
  simp only [List.length_append, List.length_take, List.length_drop, List.length_map] at hl
  exact h1 (List.append_inj_left q (by rw [List.length_take, List.length_map]; omega))
 rw [if_neg this]
 rfl
theorem Yar (c h : List Tr) (s : List Tr × List Tr) : (Zp6 c s).bind (Zp4 h) = (Zp4 h s).bind (Zp6 c) := by
 unfold Zp6 Zp4
 rw [Option.bind_some]
 simp only
 split <;> rfl
theorem Yaq (c h : List Tr) (s : List Tr × List Tr) : Zp6 (c ++ h) s = (Zp6 c s).bind (Zp6 h) := by
 unfold Zp6
 rw [Option.bind_some, List.map_append, List.append_assoc]
theorem Ya0 (L : List Tr) : (L.map nrm).map nrm = L.map nrm := NT.map fun k hk => by obtain ⟨y, _, rfl⟩ := List.mem_map.1 hk; exact NT.of y
theorem Ye5 (L : List Tr) (s : List Tr × List Tr) : Zp4 (L.map nrm) s = Zp4 L s := by unfold Zp4; rw [Ya0, List.length_map]
theorem Yfa (L : List Tr) (s : List Tr × List Tr) : Zp6 (L.map nrm) s = Zp6 L s := by unfold Zp6; rw [Ya0]
theorem Zri (s : NW) (x : List Tr × List Tr) : RO s.flush x = ((RO s.out x).bind (Zp4 s.gone)).bind (Zp6 s.come) := by
 unfold NW.flush
 rw [Ztq, Option.bind_assoc]
 congr 1
 funext y
 rw [Ztq, Yev]
 congr 1
 funext z
 exact Yew _ _
def KP (os : List EO) : Prop := ∀ o ∈ os, o.Kind = 0 → 0 ≤ o.N
theorem KP.push {F : List EO} {n : Int} (h : KP F) (hn : 0 ≤ n) : KP (Vn F n) ∧ ∀ s, RO (Vn F n) s = (RO F s).bind (Zqh n) := by
 by_cases hk : ∃ o, F.getLast? = some o ∧ o.Kind = 0
 ·obtain ⟨o, ho, hk0⟩ := hk
  obtain ⟨o', ho'⟩ := List.getLast?_eq_some_iff.1 ho
  subst ho'
  have hN := h o (by simp) hk0
  obtain ⟨k, N, L, E⟩ := o
  simp only at hk0 hN
  subst hk0
  rw [Zap]
  refine ⟨fun x hx => ?_, fun s => ?_⟩
  ·rcases List.mem_append.1 hx with hx | hx
   ·exact h x (by simp [hx])
   rw [List.mem_singleton.1 hx]; intro _; simp only; omega
  rw [Ztq, Ztq, Option.bind_assoc]
  congr 1
  funext y
  rw [Z1d, Z1d, Z9a hN hn]
 rw [Zet fun o ho h0 => hk ⟨o, ho, h0⟩]
 refine ⟨fun x hx => ?_, fun s => ?_⟩
 ·rcases List.mem_append.1 hx with hx | hx
  ·exact h x hx
  rw [List.mem_singleton.1 hx]; intro _; exact hn
 rw [Ztq]
 congr 1
 funext y
 exact Z1d _ _ _ _
theorem KP.fl {s : NW} (h : KP s.out) : KP s.flush := fun o ho hk => by
 unfold NW.flush at ho
 rcases List.mem_append.1 ho with ho | ho
 ·exact h o ho hk
 unfold Zeb Zfl at ho
 rcases List.mem_append.1 ho with ho | ho
 ·split at ho
  ·cases ho
  rw [List.mem_singleton.1 ho] at hk; simp at hk
 split at ho
 ·cases ho
 rw [List.mem_singleton.1 ho] at hk; simp at hk
theorem Zzk : ∀ (os : List (EO × (Tr → Option Tr))) (s s' : List Tr × List Tr), rnO os s = some s' → ∀ x ∈ s'.1, x ∈ s.1
 | [], s, s', h => by rw [rnO] at h; injection h with h; subst h; exact fun x hx => hx
 | (o, f) :: os, s, s', h => by
  rw [rnO] at h
  obtain ⟨s1, hs, hr⟩ := Option.bind_eq_some_iff.1 h
  have ih := Zzk os s1 s' hr
  have key : ∀ x ∈ s1.1, x ∈ s.1 := by
   unfold stO at hs
   split at hs
   ·split at hs
    ·injection hs with hs; subst hs; exact fun x hx => List.mem_of_mem_drop hx
    cases hs
   split at hs
   ·split at hs
    ·injection hs with hs; subst hs; exact fun x hx => List.mem_of_mem_drop hx
    cases hs
   split at hs
   ·injection hs with hs; subst hs; exact fun x hx => hx
   split at hs
   ·obtain ⟨l, out⟩ := s
    cases l with
    | nil => cases hs
    | cons x0 l =>
     simp only at hs
     obtain ⟨u, _, e⟩ := Option.map_eq_some_iff.1 hs
     subst e
     exact fun x hx => List.mem_cons_of_mem _ hx
   cases hs
  exact fun x hx => key x (ih x hx)
def GL (l : Int) (s : List Tr × List Tr) : Prop := ∀ x ∈ s.1, NT x ∧ TX x ∧ (l = 9 → x.Kind = 1)
theorem Ycy {l : Int} {e : Ed} {x : Tr} (hi : Zir l e = true) (hx : NT x) (h9 : l = 9 → x.Kind = 1) : ap e x = some x := by
 unfold Zir at hi
 rw [Bool.or_eq_true, beq_iff_eq] at hi
 rw [Zgk]
 rcases hi with h0 | hi
 ·rw [if_pos h0]
 simp only [Bool.and_eq_true, beq_iff_eq] at hi
 obtain ⟨hl, h2, hw, hk⟩ := hi
 have h1 := h9 hl
 rw [if_neg (by omega), if_neg (by omega), if_pos h2, if_pos h1, List.eq_nil_of_length_eq_zero hw, List.eq_nil_of_length_eq_zero hk]
 show some (⟨1, tr p0 x.Words, tr pT x.Kids⟩ : Tr) = some x
 rw [(hx.words h1).1, (hx.words h1).2, ← h1, Zu4]
theorem Yek {o : EO} (k : o.Kind = 3) (f : Tr → Option Tr) (s : List Tr × List Tr) : stO o f s = match s.1 with
  | [] => none
  | x :: l => (f x).map fun u => (l, s.2 ++ [u]) := by
 unfold stO
 rw [if_neg (by omega), if_neg (by omega), if_neg (by omega), if_pos k]
 try (obtain ⟨l, out⟩ := s; cases l <;> rfl)
theorem Ydf {l : Int} {s : NW} {o : EO} (hs : KP s.out) (ho : opk o) (x : List Tr × List Tr) (hx : GL l x) (hE : o.Kind = 3 → ∀ y, NT y → TX y → ap (nE o.E) y = ap o.E y) :
  KP (stN l s (o, nE o.E)).out ∧ RO (stN l s (o, nE o.E)).flush x = (RO s.flush x).bind (stO o (ap o.E)) := by
 have hp : ∀ n : Int, 0 ≤ n → KP (⟨Vn s.flush n, [], []⟩ : NW).out ∧ RO (⟨Vn s.flush n, [], []⟩ : NW).flush x = (RO s.flush x).bind (Zqh n) := fun n hn => by
  obtain ⟨p1, p2⟩ := KP.push hs.fl hn
  rw [Zbi, p2]
  exact ⟨p1, rfl⟩
 rcases ho with ⟨k, h1⟩ | ⟨k, h1⟩ | ⟨k, h1⟩ | k
 ·have e : stN l s (o, nE o.E) = ⟨Vn s.flush o.N, [], []⟩ := by
   unfold stN
   simp only
   rw [if_neg (by omega), if_neg (by omega), if_pos k]
  obtain ⟨q1, q2⟩ := hp o.N (by omega)
  rw [e, q2]
  refine ⟨q1, ?_⟩
  congr 1
  funext y
  unfold stO Zqh
  rw [if_pos k]
 ·have e : stN l s (o, nE o.E) = ⟨s.out, s.gone ++ o.L.map nrm, s.come⟩ := by
   unfold stN
   simp only
   rw [if_pos k]
  have es : stO o (ap o.E) = Zp4 o.L := by
   funext y
   unfold stO Zp4
   rw [if_neg (by omega), if_pos k]
  rw [e, Zri, Zri, es]
  refine ⟨hs, ?_⟩
  simp only
  rw [Option.bind_assoc, Option.bind_assoc, Option.bind_assoc]
  congr 1
  funext y
  rw [Yac, Option.bind_assoc]
  congr 1
  funext z
  rw [Ye5, Yar]
 ·have e : stN l s (o, nE o.E) = ⟨s.out, s.gone, s.come ++ o.L.map nrm⟩ := by
   unfold stN
   simp only
   rw [if_neg (by omega), if_pos k]
  have es : stO o (ap o.E) = Zp6 o.L := by
   funext y
   unfold stO Zp6
   rw [if_neg (by omega), if_neg (by omega), if_pos k]
  rw [e, Zri, Zri, es]
  refine ⟨hs, ?_⟩
  simp only
  rw [Option.bind_assoc, Option.bind_assoc, Option.bind_assoc]
  congr 1
  funext y
  congr 1
  funext z
  rw [Yaq]
  congr 1
  funext v
  exact Yfa _ _
 have hgl : ∀ s', RO s.flush x = some s' → GL l s' := fun s' hs' y hy => hx y (Zzk _ _ _ hs' y hy)
 by_cases hi : Zir l (nE o.E) = true
 ·have e : stN l s (o, nE o.E) = ⟨Vn s.flush 1, [], []⟩ := by
   unfold stN
   simp only
   rw [if_neg (by omega), if_neg (by omega), if_neg (by omega), if_pos hi]
  obtain ⟨q1, q2⟩ := hp 1 (by decide)
  rw [e, q2]
  refine ⟨q1, ?_⟩
  cases hf : RO s.flush x with
  | none => rfl
  | some s' =>
   rw [Option.bind_some, Option.bind_some]
   obtain ⟨l', out'⟩ := s'
   rw [Yek k]
   unfold Zqh
   cases l' with
   | nil => rfl
   | cons y l' =>
    have hy := hgl _ hf y (.head _)
    simp only
    rw [if_pos ⟨by decide, by simp⟩, ← hE k y hy.1 hy.2.1, Ycy hi hy.1 hy.2.2]
    rfl
 have e : stN l s (o, nE o.E) = ⟨s.flush ++ [⟨3, 0, [], nE o.E⟩], [], []⟩ := by
  unfold stN
  simp only
  rw [if_neg (by omega), if_neg (by omega), if_neg (by omega), if_neg hi]
 rw [e, Zbi]
 refine ⟨fun y hy hk => ?_, ?_⟩
 ·rcases List.mem_append.1 hy with hy | hy
  ·exact hs.fl y hy hk
  rw [List.mem_singleton.1 hy] at hk; simp at hk
 rw [Ztq]
 cases hf : RO s.flush x with
 | none => rfl
 | some s' =>
  rw [Option.bind_some, Option.bind_some, Z1e]
  obtain ⟨l', out'⟩ := s'
  unfold stO
  rw [if_neg (by simp), if_neg (by simp), if_neg (by simp), if_pos rfl, if_neg (by omega), if_neg (by omega), if_neg (by omega), if_pos k]
  cases l' with
  | nil => rfl
  | cons y l' =>
   have hy := hgl _ hf y (.head _)
   simp only
   rw [hE k y hy.1 hy.2.1]
theorem Z6t {l : Int} (x : List Tr × List Tr) (hx : GL l x) : ∀ (os : List EO) (s : NW), KP s.out → (∀ o ∈ os, opk o ∧ (o.Kind = 3 → ∀ y, NT y → TX y → ap (nE o.E) y = ap o.E y)) → RO ((V8 os).foldl (stN l) s).flush x = (RO s.flush x).bind (RO os)
 | [], s, _, _ => by
  show RO s.flush x = _
  cases RO s.flush x <;> rfl
 | o :: os, s, hs, h => by
  obtain ⟨h1, h2⟩ := h o (.head _)
  obtain ⟨q1, q2⟩ := Ydf hs h1 x hx h2
  show RO ((V8 os).foldl (stN l) (stN l s (o, nE o.E))).flush x = _
  rw [Z6t x hx os _ q1 fun y hy => h y (.tail _ hy), q2, Option.bind_assoc]
  try rfl
theorem Z03 (o : List Tr) : ∀ (ks : List Zp) (c : List Tr), (∀ k ∈ ks, ap (nE k.E) (Gd Uv o k.At.toNat) = ap k.E (Gd Uv o k.At.toNat)) → rnK o (apK (ks.map fun k => (⟨k.At, nE k.E⟩ : Zp))) c = rnK o (apK ks) c
 | [], c, _ => rfl
 | k :: ks, c, h => by
  have h0 := h k (.head _)
  show rnK o ((k.At.toNat, ap (nE k.E)) :: apK (ks.map _)) c = rnK o ((k.At.toNat, ap k.E) :: apK ks) c
  rw [rnK, rnK, h0]
  cases ap k.E (Gd Uv o k.At.toNat) with
  | none => rfl
  | some u => exact Z03 o ks _ fun x hx => h x (.tail _ hx)
theorem Z6l : ∀ (n : Nat) (e : Ed) (t : Tr), SizeOf.sizeOf e < n → RX e → NT t → TX t → ap (nE e) t = ap e t
 | 0, _, _, h, _, _, _ => by omega
 | n + 1, e, t, hn, hx, nt, tx => by
  cases hx with
  | same _ k0 =>
   have e1 : nE e = eS0 := by rw [Zfv, if_neg (by omega), if_neg (by omega), if_neg (by omega)]
   rw [e1, Zgk e, if_pos k0, Zgk]
   rfl
  | repl _ k1 =>
   have e1 : nE e = ⟨1, nrm e.Old, nrm e.New, [], [], 0, []⟩ := by rw [Zfv, if_pos k1]
   rw [e1, Zgk e, if_neg (by omega), if_pos k1, Zgk]
   simp only
   rw [if_neg (by decide), if_pos trivial, Zpg, Zpg]
  | st _ k2 hw hw2 hk hk2 ih =>
   have e1 : nE e = ⟨2, Uv, Uv, e.Words, e.Kids.map fun k => ⟨k.At, nE k.E⟩, 0, []⟩ := by rw [Zfv, if_neg (by omega), if_pos k2]
   rw [e1, Zgk e, if_neg (by omega), if_neg (by omega), if_pos k2, Zgk]
   simp only
   rw [if_neg (by decide), if_neg (by decide), if_pos trivial]
   by_cases ht : t.Kind = 1
   ·rw [if_pos ht, if_pos ht, Z03 t.Kids e.Kids t.Kids fun k hkm => Z6l n k.E _ (by have := Vs hkm; omega) (ih k hkm) (Zj6 nt.kids NT.z _) (Zj6 tx.all TX.z _)]
   rw [if_neg ht, if_neg ht]
  | li _ k3 hl ho hN ih =>
   have e1 : nE e = ⟨3, Uv, Uv, [], [], e.List_, Zqv e.List_ (V8 e.Ops)⟩ := by rw [Zfv, if_neg (by omega), if_neg (by omega), if_pos k3]
   rw [e1, Zgk e, if_neg (by omega), if_neg (by omega), if_neg (by omega), if_pos k3, Zgk]
   simp only
   rw [if_neg (by decide), if_neg (by decide), if_neg (by decide), if_pos trivial]
   by_cases ht : t.Kind = e.List_
   ·rw [if_pos ht, if_pos ht]
    congr 1
    have hg : GL e.List_ (t.Kids, []) := fun x hx => ⟨nt.kids x hx, tx.all x hx, fun h9 => tx.s (by omega) x hx⟩
    have := Z6t (t.Kids, []) hg e.Ops s0N (fun o ho => by cases ho) fun o hom => ⟨ho o hom, fun k y hy ty => Z6l n o.E y (by have := Zao hom; omega) (ih o hom k) hy ty⟩
    exact this
   rw [if_neg ht, if_neg ht]
theorem Z9l (o : EO) (r : List EO) : Vp (o :: r) = thN o + Vp r := by unfold Vp; rw [List.map_cons, List.sum_cons]
theorem Zyf {α : Type} {a : List α} {i : Nat} {o : α} {ys : List α} (h : a.drop i = o :: ys) : i < a.length ∧ a[i]? = some o ∧ a.drop (i + 1) = ys := by
 have h1 : i < a.length := by
  rcases Nat.lt_or_ge i a.length with h1 | h1
  ·exact h1
  rw [List.drop_eq_nil_of_le h1] at h; cases h
 rw [List.drop_eq_getElem_cons h1] at h
 injection h with h2 h3
 exact ⟨h1, by rw [List.getElem?_eq_getElem h1, h2], h3⟩
theorem drop_nil {α : Type} {a : List α} {i : Nat} (h : a.drop i = []) (hi : i ≤ a.length) : i = a.length := by
 have := congrArg List.length h
 rw [List.length_drop, List.length_nil] at this
 omega
theorem Ye6 {l m : List Tr} (hl : ∀ x ∈ l, Bd x) (hm : ∀ x ∈ m, Bd x) (hn : (l.length : Int) ≤ 140737488355328) : Xk l m = some (eqL (l.map nrm) (m.map nrm)) :=
 Zfm (2 * SizeOf.sizeOf l + 3) fun k hk => (Zyh k).2 l m (fun x hx => ⟨hl x hx, by have := List.sizeOf_lt_of_mem hx; omega⟩) hm hn (by omega)
theorem Z6p : ∀ (a b : List Tr), eqL a b = true ↔ a = b
 | [], [] => by simp [eqL]
 | [], y :: b => by simp [eqL]
 | x :: a, [] => by simp [eqL]
 | x :: a, y :: b => by rw [Zyg, Bool.and_eq_true, eqT_iff, Z6p a b, List.cons.injEq]
theorem Z92 {α β : Type} {z : α} {p : α → Bool} {l : List α} {i j : Nat} {v : α} (f : α → β) (hv : p v = true → f v = f z) : f (Gd z (Zjr z p l i v) j) = if j = i then f v else f (Gd z l j) := by
 unfold Gd Zjr
 by_cases hi : i < l.length
 ·rw [if_pos hi, List.getElem?_set]
  by_cases e : i = j
  ·subst e; rw [if_pos rfl, if_pos hi, if_pos rfl]; rfl
  rw [if_neg e, if_neg (fun q => e q.symm)]
 rw [if_neg hi]
 cases hp : p v with
 | true =>
  rw [if_pos rfl]
  split
  ·rename_i e; subst e; rw [List.getElem?_eq_none (by omega), hv hp]; rfl
  rfl
 | false =>
  rw [if_neg (by simp)]
  by_cases h1 : j < l.length
  ·rw [List.append_assoc, List.getElem?_append_left h1, if_neg (by omega)]
  by_cases h2 : j < i
  ·rw [List.getElem?_append_left (by simp only [List.length_append, List.length_replicate]; omega), List.getElem?_append_right (by omega), List.getElem?_replicate, if_pos (by omega), if_neg (by omega), List.getElem?_eq_none (by omega)]
   rfl
  by_cases h3 : j = i
  ·subst h3
   rw [if_pos rfl, List.getElem?_append_right (by simp only [List.length_append, List.length_replicate]; omega)]
   simp only [List.length_append, List.length_replicate]
   rw [show j - (l.length + (j - l.length)) = 0 by omega]
   rfl
  rw [if_neg h3, List.getElem?_eq_none (by simp only [List.length_append, List.length_replicate, List.length_singleton]; omega), List.getElem?_eq_none (by omega)]
theorem Z5a {t : Tr} {i : Int} (h0 : 0 ≤ i) : Zid t i = some (Gd 0 t.Words i.toNat) := by
 unfold Zid Gd
 rw [show decide (i < 0) = false from by rw [decide_eq_false_iff_not]; omega, cond_false]
 obtain ⟨n, rfl⟩ : ∃ n : Nat, i = n := ⟨i.toNat, by omega⟩
 rw [Int.toNat_natCast]
 by_cases h : n < t.Words.length
 ·rw [show decide (((t.Words.length : Nat) : Int) ≤ (n : Int)) = false from by rw [decide_eq_false_iff_not]; omega, cond_false, Yz (List.getElem?_eq_getElem h), List.getElem?_eq_getElem h]
  rfl
 rw [show decide (((t.Words.length : Nat) : Int) ≤ (n : Int)) = true from by rw [decide_eq_true_eq]; omega, cond_true, List.getElem?_eq_none (by omega)]
 rfl
theorem Z7n {t : Tr} {i : Int} (h0 : 0 ≤ i) : Zje t i = some (Gd Uv t.Kids i.toNat) := by
 unfold Zje Gd
 rw [show decide (i < 0) = false from by rw [decide_eq_false_iff_not]; omega, cond_false]
 obtain ⟨n, rfl⟩ : ∃ n : Nat, i = n := ⟨i.toNat, by omega⟩
 rw [Int.toNat_natCast]
 by_cases h : n < t.Kids.length
 ·rw [show decide (((t.Kids.length : Nat) : Int) ≤ (n : Int)) = false from by rw [decide_eq_false_iff_not]; omega, cond_false, Yz (List.getElem?_eq_getElem h), List.getElem?_eq_getElem h]
  rfl
 rw [show decide (((t.Kids.length : Nat) : Int) ≤ (n : Int)) = true from by rw [decide_eq_true_eq]; omega, cond_true, List.getElem?_eq_none (by omega)]
 rfl
theorem Z2o {i : Int} (h : 0 ≤ i ∧ i ≤ 65534) : Za9 i = some false := by
 unfold Za9
 rw [show decide (i < 0) = false from by rw [decide_eq_false_iff_not]; omega, show decide (65534 < i) = false from by rw [decide_eq_false_iff_not]; omega]
 rfl
theorem Z47 {α : Type} (l : List α) (z v : α) (n : Nat) (h : l.length ≤ n) : (l ++ List.replicate (n + 1 - l.length) z).set n v = l ++ List.replicate (n - l.length) z ++ [v] := by
 rw [show n + 1 - l.length = (n - l.length) + 1 by omega, List.replicate_succ', ← List.append_assoc, List.set_append, if_neg (by simp only [List.length_append, List.length_replicate]; omega)]
 simp only [List.length_append, List.length_replicate]
 rw [show n - (l.length + (n - l.length)) = 0 by omega]
 rfl
theorem Zwx {α : Type} (l : List α) (n : Nat) (v : α) : Zh2 l (n : Int) v = l.set n v := by unfold Zh2; rw [Int.toNat_natCast]
theorem Z55 {k : Int} {ws : List Int} {ks : List Tr} {i : Int} {v : Int} (hi : 0 ≤ i ∧ i ≤ 65534) (hl : ws.length ≤ 10000000) : Zdl ⟨k, ws, ks⟩ i v = some ⟨k, Zjr 0 p0 ws i.toNat v, ks⟩ := by
 obtain ⟨n, rfl⟩ : ∃ n : Nat, i = n := ⟨i.toNat, by omega⟩
 rw [Int.toNat_natCast]
 have hloop : Zy (Zag (n : Int) v) ws = some (if ws.length ≤ n ∧ v ≠ 0 then ws ++ List.replicate (n + 1 - ws.length) 0 else ws) := by
  by_cases hg : ws.length ≤ n ∧ v ≠ 0
  ·rw [if_pos hg]
   refine Zm0 (fun s => ∃ j, j ≤ n + 1 - ws.length ∧ s = ws ++ List.replicate j 0) (fun s => n + 1 - s.length) ?_ _ ⟨0, Nat.zero_le _, by simp⟩
   rintro s ⟨j, hj, rfl⟩
   unfold Zag
   rw [show (v != 0) = true from bne_iff_ne.2 hg.2]
   by_cases hl2 : j < n + 1 - ws.length
   ·left
    refine ⟨ws ++ List.replicate (j + 1) 0, ?_, ⟨j + 1, by omega, rfl⟩, by simp only [List.length_append, List.length_replicate]; omega⟩
    rw [show decide (((ws ++ List.replicate j (0 : Int)).length : Int) ≤ (n : Int)) = true from by rw [decide_eq_true_eq]; simp only [List.length_append, List.length_replicate]; omega, cond_true, cond_true, Vb (by simp only [List.length_append, List.length_replicate, List.length_singleton]; omega) (by simp only [List.length_append, List.length_replicate, List.length_singleton]; omega), Option.bind_some, List.append_assoc, ← List.replicate_succ']
   right
   rw [show decide (((ws ++ List.replicate j (0 : Int)).length : Int) ≤ (n : Int)) = false from by rw [decide_eq_false_iff_not]; simp only [List.length_append, List.length_replicate]; omega, cond_false, cond_false, show j = n + 1 - ws.length by omega]
  rw [if_neg hg]
  refine Y7 ?_
  unfold Zag
  by_cases h1 : ws.length ≤ n
  ·have hv : v = 0 := Classical.byContradiction fun q => hg ⟨h1, q⟩
   rw [hv]
   cases decide (((ws.length : Nat) : Int) ≤ (n : Int)) <;> rfl
  rw [show decide (((ws.length : Nat) : Int) ≤ (n : Int)) = false from by rw [decide_eq_false_iff_not]; omega]
  rfl
 unfold Zdl
 simp only
 rw [hloop, Option.bind_some]
 unfold Zjr
 by_cases hn : n < ws.length
 ·rw [if_neg (by omega), if_pos hn, Zce hn, cond_true, Yz (List.getElem?_eq_getElem hn), Option.bind_some, Zwx]
 rw [if_neg hn]
 by_cases hv : v = 0
 ·rw [if_neg (fun q => q.2 hv), show decide ((n : Int) < ((ws.length : Nat) : Int)) = false from by rw [decide_eq_false_iff_not]; omega, cond_false, if_pos (by unfold p0; rw [hv]; rfl)]
 have hlen : n < (ws ++ List.replicate (n + 1 - ws.length) (0 : Int)).length := by simp only [List.length_append, List.length_replicate]; omega
 rw [if_pos ⟨by omega, hv⟩, Zce hlen, cond_true, Yz (List.getElem?_eq_getElem hlen), Option.bind_some, Zwx, if_neg (by unfold p0; rw [beq_iff_eq]; exact hv), Z47 _ _ _ _ (by omega)]
theorem Z9i {k : Int} {ws : List Int} {ks : List Tr} {i : Int} {v : Tr} (hi : 0 ≤ i ∧ i ≤ 65534) (hl : ks.length ≤ 10000000) : Zel ⟨k, ws, ks⟩ i v = some ⟨k, ws, Zjr Uv pT ks i.toNat v⟩ := by
 obtain ⟨n, rfl⟩ : ∃ n : Nat, i = n := ⟨i.toNat, by omega⟩
 rw [Int.toNat_natCast]
 have hloop : Zy (Zbm (n : Int) v) ks = some (if ks.length ≤ n ∧ v.Kind ≠ 0 then ks ++ List.replicate (n + 1 - ks.length) Uv else ks) := by
  by_cases hg : ks.length ≤ n ∧ v.Kind ≠ 0
  ·rw [if_pos hg]
   refine Zm0 (fun s => ∃ j, j ≤ n + 1 - ks.length ∧ s = ks ++ List.replicate j Uv) (fun s => n + 1 - s.length) ?_ _ ⟨0, Nat.zero_le _, by simp⟩
   rintro s ⟨j, hj, rfl⟩
   unfold Zbm
   rw [show (v.Kind != 0) = true from bne_iff_ne.2 hg.2]
   by_cases hl2 : j < n + 1 - ks.length
   ·left
    refine ⟨ks ++ List.replicate (j + 1) Uv, ?_, ⟨j + 1, by omega, rfl⟩, by simp only [List.length_append, List.length_replicate]; omega⟩
    have hap : Zcg 56 (ks ++ List.replicate j Uv) ([(⟨0, ([] : (List Int)), ([] : (List Zb))⟩ : Zb)] : List Zb) = some ((ks ++ List.replicate j Uv) ++ [Uv]) := Vb (by simp only [List.length_append, List.length_replicate, List.length_singleton]; omega) (by simp only [List.length_append, List.length_replicate, List.length_singleton]; omega)
    have hgt : Xp ((ks ++ List.replicate j Uv) ++ [Uv]) ((ks ++ List.replicate j Uv).length : Int) = some Uv := Yz (by rw [List.getElem?_append_right (Nat.le_refl _), Nat.sub_self]; rfl)
    rw [show decide (((ks ++ List.replicate j Uv).length : Int) ≤ (n : Int)) = true from by rw [decide_eq_true_eq]; simp only [List.length_append, List.length_replicate]; omega, cond_true, cond_true, hap, Option.bind_some, hgt, Option.bind_some, List.replicate_succ', ← List.append_assoc]
    rfl
   right
   rw [show decide (((ks ++ List.replicate j Uv).length : Int) ≤ (n : Int)) = false from by rw [decide_eq_false_iff_not]; simp only [List.length_append, List.length_replicate]; omega, cond_false, cond_false, show j = n + 1 - ks.length by omega]
  rw [if_neg hg]
  refine Y7 ?_
  unfold Zbm
  by_cases h1 : ks.length ≤ n
  ·have hv : v.Kind = 0 := Classical.byContradiction fun q => hg ⟨h1, q⟩
   rw [hv]
   cases decide (((ks.length : Nat) : Int) ≤ (n : Int)) <;> rfl
  rw [show decide (((ks.length : Nat) : Int) ≤ (n : Int)) = false from by rw [decide_eq_false_iff_not]; omega]
  rfl
 unfold Zel
 simp only
 rw [hloop, Option.bind_some]
 unfold Zjr
 by_cases hn : n < ks.length
 ·rw [if_neg (by omega), if_pos hn, Zce hn, cond_true, Yz (List.getElem?_eq_getElem hn), Option.bind_some, Zwx]
 rw [if_neg hn]
 by_cases hv : v.Kind = 0
 ·rw [if_neg (fun q => q.2 hv), show decide ((n : Int) < ((ks.length : Nat) : Int)) = false from by rw [decide_eq_false_iff_not]; omega, cond_false, if_pos (by unfold pT; rw [hv]; rfl)]
 have hlen : n < (ks ++ List.replicate (n + 1 - ks.length) Uv).length := by simp only [List.length_append, List.length_replicate]; omega
 rw [if_pos ⟨by omega, hv⟩, Zce hlen, cond_true, Yz (List.getElem?_eq_getElem hlen), Option.bind_some, Zwx, if_neg (by unfold pT; rw [beq_iff_eq]; exact hv), Z47 _ _ _ _ (by omega)]
theorem Z6i {e : Ed} {t : Tr} {ks : List Tr} (hb : BE e) (hw2 : ∀ w ∈ e.Words, 0 ≤ w.At ∧ w.At ≤ 65534) (ht : Bd t) : ∀ (ws : List Zu) (i : Nat) (cur : List Int), e.Words.drop i = ws → i ≤ e.Words.length → cur.length ≤ 5000000 →
  Zy (Jd e t) ((i : Int), 1, cur, ks) = some (match rnW t.Words ws cur with | none => .inl () | some c => .inr (1, c, ks))
 | [], i, cur, hd, hi, hc => by
  obtain rfl := drop_nil hd hi
  refine Y7 ?_
  unfold Jd
  simp only
  rw [Zec, cond_false]
  rfl
 | w :: ws, i, cur, hd, hi, hc => by
  obtain ⟨hi', hx, hd'⟩ := Zyf hd
  have hm := List.mem_of_getElem? hx
  have hA := hw2 w hm
  obtain ⟨⟨m0, m1⟩, ⟨o0, o1⟩, n0, n1⟩ := hb.ws w hm
  have hlen := hb.w
  have hr := Z93 ht.u w.At.toNat
  have hxn : ((Gd 0 t.Words w.At.toNat).toNat : Int) = Gd 0 t.Words w.At.toNat := by omega
  have hchk : (IntKind.u64.wrap (Zgd .u64 (IntKind.u64.wrap (Zic .u64 (Gd 0 t.Words w.At.toNat) w.Old)) ((K5 w.Mask.toNat 8 : Nat) : Int)) != 0) = !(cW (Gd 0 t.Words w.At.toNat) w) := by
   have := Yd2 (a := (Gd 0 t.Words w.At.toNat).toNat) (b := w.Old.toNat) (m := w.Mask.toNat) (by omega) (by omega)
   rw [hxn, show ((w.Old.toNat : Nat) : Int) = w.Old by omega] at this
   exact this
  have hwide : Zbt w.Mask = some ((K5 w.Mask.toNat 8 : Nat) : Int) := by
   have := Z3n w.Mask.toNat (by omega)
   rwa [show ((w.Mask.toNat : Nat) : Int) = w.Mask by omega] at this
  have hmix : Zhw (Gd 0 t.Words w.At.toNat) w.New w.Mask = some (Zky (Gd 0 t.Words w.At.toNat) w) := by
   have := Yd3 (a := (Gd 0 t.Words w.At.toNat).toNat) (b := w.New.toNat) (m := w.Mask.toNat) (by omega) (by omega) (by omega)
   rw [hxn, show ((w.New.toNat : Nat) : Int) = w.New by omega, show ((w.Mask.toNat : Nat) : Int) = w.Mask by omega] at this
   exact this
  have hput := Z55 (k := 1) (ws := cur) (ks := ks) (i := w.At) (v := Zky (Gd 0 t.Words w.At.toNat) w) hA (by omega)
  have hpl := (Z2r (z := (0 : Int)) (p := p0) (l := cur) (i := w.At.toNat) (v := Zky (Gd 0 t.Words w.At.toNat) w)).2
  rw [rnW]
  cases hcw : cW (Gd 0 t.Words w.At.toNat) w with
  | false =>
   rw [if_neg (by simp)]
   refine Y7 ?_
   unfold Jd
   simp only
   rw [Zce hi', cond_true, Yz hx, Option.bind_some, Z5a hA.1, Option.bind_some, Z2o hA, Option.bind_some, cond_false, hwide, Option.bind_some, Option.bind_some, cond_false, hchk, hcw]
   rfl
  | true =>
   rw [if_pos rfl]
   have hstep : Jd e t ((i : Int), 1, cur, ks) = some (.inl (((i + 1 : Nat) : Int), 1, Zjr 0 p0 cur w.At.toNat (Zky (Gd 0 t.Words w.At.toNat) w), ks)) := by
    unfold Jd
    simp only
    rw [Zce hi', cond_true, Yz hx, Option.bind_some, Z5a hA.1, Option.bind_some, Z2o hA, Option.bind_some, cond_false, hwide, Option.bind_some, Option.bind_some, cond_false, hchk, hcw, Bool.not_true, cond_false, hmix, Option.bind_some, hput, Option.bind_some, U8 (by omega) (by omega)]
    rfl
   rw [X2 hstep]
   exact Z6i hb hw2 ht ws (i + 1) _ hd' (by omega) (by omega)
def RN (c cN : List Tr) : Prop := ∀ j, nrm (Gd Uv c j) = Gd Uv cN j
theorem RN.put {c cN : List Tr} (h : RN c cN) {i : Nat} {v u : Tr} (hv : nrm v = u) : RN (Zjr Uv pT c i v) (Zjr Uv pT cN i u) := fun j => by
 have hnu : NT u := by rw [← hv]; exact NT.of v
 rw [Zrk (fun q => hnu.null q), Z92 nrm (fun q => by unfold pT at q; rw [beq_iff_eq] at q; rw [Zli q]; exact NT.z.symm), hv, h j]
def AOk (f : Ed → Tr → Option (Tr × Bool)) (e : Ed) (t : Tr) : Prop := ∃ v b, f e t = some (v, b) ∧ b = (ap e (nrm t)).isSome ∧ ∀ u, ap e (nrm t) = some u → nrm v = u ∧ Bd v
inductive MB : Tr → Prop
 | mk (t : Tr) (hw : t.Words.length ≤ 1114111) (hk : t.Kids.length ≤ 1114111) (h : ∀ k ∈ t.Kids, MB k) : MB t
theorem MB.w {t : Tr} (h : MB t) : t.Words.length ≤ 1114111 := by cases h; assumption
theorem MB.k {t : Tr} (h : MB t) : t.Kids.length ≤ 1114111 := by cases h; assumption
theorem MB.all {t : Tr} (h : MB t) : ∀ k ∈ t.Kids, MB k := by cases h; assumption
theorem MB.z : MB Uv := .mk _ (by simp [Uv]) (by simp [Uv]) (by simp [Uv])
theorem Z6g {f : Ed → Tr → Option (Tr × Bool)} {e : Ed} {t : Tr} {ws : List Int} (hb : BE e) (hk2 : ∀ k ∈ e.Kids, 0 ≤ k.At ∧ k.At ≤ 65534) (ho : ∀ i, Gd Uv (nrm t).Kids i = nrm (Gd Uv t.Kids i)) (ht : Bd t) (hp : MB t) (ih : ∀ k ∈ e.Kids, ∀ x, Bd x → MB x → AOk f k.E x) : ∀ (ks : List Zp) (i : Nat) (cur curN : List Tr), e.Kids.drop i = ks → i ≤ e.Kids.length → RN cur curN → (∀ x ∈ cur, Bd x) → cur.length ≤ 5000000 →
  ∃ r, Zy (Qu f e t) ((i : Int), 1, ws, cur) = some r ∧ (rnK (nrm t).Kids (apK ks) curN = none → r = .inl ()) ∧ ∀ cN, rnK (nrm t).Kids (apK ks) curN = some cN → ∃ c, r = .inr (1, ws, c) ∧ RN c cN ∧ (∀ x ∈ c, Bd x) ∧ c.length ≤ 5000000
 | [], i, cur, curN, hd, hi, hR, hB, hc => by
  obtain rfl := drop_nil hd hi
  refine ⟨.inr (1, ws, cur), Y7 ?_, fun h => (by cases h), fun cN h => ?_⟩
  ·unfold Qu
   simp only
   rw [Zec, cond_false]
  injection h with h
  subst h
  exact ⟨cur, rfl, hR, hB, hc⟩
 | k :: ks, i, cur, curN, hd, hi, hR, hB, hc => by
  obtain ⟨hi', hx, hd'⟩ := Zyf hd
  have hm := List.mem_of_getElem? hx
  have hA := hk2 k hm
  have hlen := hb.k
  have hkb : Bd (Gd Uv t.Kids k.At.toNat) := Zj6 ht.all Znv _
  have hkp : MB (Gd Uv t.Kids k.At.toNat) := by
   rcases Zvg (z := Uv) (l := t.Kids) (i := k.At.toNat) with q | q
   ·exact hp.all _ q
   rw [q]; exact MB.z
  obtain ⟨v, b, h1, h2, h3⟩ := ih k hm _ hkb hkp
  show ∃ r, Zy (Qu f e t) ((i : Int), 1, ws, cur) = some r ∧ (rnK (nrm t).Kids ((k.At.toNat, ap k.E) :: apK ks) curN = none → r = .inl ()) ∧ ∀ cN, rnK (nrm t).Kids ((k.At.toNat, ap k.E) :: apK ks) curN = some cN → _
  rw [rnK, ho]
  cases hu : ap k.E (nrm (Gd Uv t.Kids k.At.toNat)) with
  | none =>
   rw [hu] at h2
   refine ⟨.inl (), Y7 ?_, fun _ => rfl, fun cN h => by cases h⟩
   unfold Qu
   simp only
   rw [Zce hi', cond_true, Yz hx, Option.bind_some, Z7n hA.1, Option.bind_some, h1, Option.bind_some, Z2o hA, Option.bind_some, cond_false, h2]
   rfl
  | some u =>
   rw [hu] at h2
   obtain ⟨h4, h5⟩ := h3 u hu
   have hput := Z9i (k := 1) (ws := ws) (ks := cur) (i := k.At) (v := v) hA (by omega)
   have hpl := (Z2r (z := Uv) (p := pT) (l := cur) (i := k.At.toNat) (v := v)).2
   have hstep : Qu f e t ((i : Int), 1, ws, cur) = some (.inl (((i + 1 : Nat) : Int), 1, ws, Zjr Uv pT cur k.At.toNat v)) := by
    unfold Qu
    simp only
    rw [Zce hi', cond_true, Yz hx, Option.bind_some, Z7n hA.1, Option.bind_some, h1, Option.bind_some, Z2o hA, Option.bind_some, cond_false, h2]
    simp only [Option.isSome_some, Bool.not_true, cond_false]
    rw [hput, Option.bind_some, U8 (by omega) (by omega)]
    rfl
   rw [X2 hstep]
   exact Z6g hb hk2 ho ht hp ih ks (i + 1) _ _ hd' (by omega) (hR.put h4) (fun x hx => by
    rcases Z2s hx with hx | rfl | rfl
    ·exact hB x hx
    ·exact h5
    exact Znv) (by omega)
theorem Z5k {f1 : Ed → Tr → Option (Tr × Bool)} {f2 f3 : Ed → Tr → Option (Tr × Bool)} {f4 : Zj → EO → Option (Bool × Zj)} {f5 : Zj → Ed → Option (Bool × Zj)} {e : Ed} {t : Tr} (k2 : e.Kind = 2) (hb : BE e)
  (hw : e.Words.Pairwise (fun a b => a.At.toNat ≠ b.At.toNat)) (hw2 : ∀ w ∈ e.Words, 0 ≤ w.At ∧ w.At ≤ 65534) (hk : e.Kids.Pairwise (fun a b => a.At.toNat ≠ b.At.toNat)) (hk2 : ∀ k ∈ e.Kids, 0 ≤ k.At ∧ k.At ≤ 65534) (ht : Bd t) (hp : MB t)
  (ih : ∀ k ∈ e.Kids, ∀ x, Bd x → MB x → AOk f1 k.E x) : AOk (Ur f1 f2 f3 f4 f5) e t := by
 have hpt := hp.w
 have hkl := hp.k
 unfold AOk Ur
 rw [Zgk, if_neg (by omega), if_neg (by omega), if_pos k2, Zbu]
 by_cases h1 : t.Kind = 1
 ·rw [if_pos h1, show (t.Kind != 1) = false from by rw [h1]; rfl, cond_false]
  unfold U9 Vd
  rw [Vb (by simp only [List.length_nil]; omega) (by simp only [List.length_nil]; omega), Option.bind_some, Vb (by simp only [List.length_nil]; omega) (by simp only [List.length_nil]; omega), Option.bind_some, List.nil_append, List.nil_append]
  have hwl := Z6i (ks := t.Kids) hb hw2 ht e.Words 0 t.Words rfl (Nat.zero_le _) (by omega)
  rw [show (((0 : Nat) : Int)) = 0 from rfl] at hwl
  rw [hwl, Option.bind_some]
  have nw : (nrm t).Words = tr p0 t.Words := by rw [Zal h1]; rfl
  have nk : (nrm t).Kids = tr pT (t.Kids.map nrm) := by rw [Zal h1]; rfl
  have hatw : ∀ i, Gd 0 (nrm t).Words i = Gd 0 t.Words i := fun i => by rw [nw, Z5c t.Words fun x _ hx => Z4x hx]
  have hatm : ∀ (l : List Tr) i, Gd Uv (l.map nrm) i = nrm (Gd Uv l i) := fun l i => by
   unfold Gd
   rw [List.getElem?_map]
   cases l[i]? with
   | none => exact NT.z.symm
   | some x => rfl
  have hatk : ∀ i, Gd Uv (nrm t).Kids i = nrm (Gd Uv t.Kids i) := fun i => by
   rw [nk, Z5c (t.Kids.map nrm) (fun x hx hp => by obtain ⟨y, _, rfl⟩ := List.mem_map.1 hx; exact (NT.of y).null hp), hatm]
  obtain ⟨s1, s2⟩ := Zol t.Words e.Words t.Words hw
  obtain ⟨n1, n2⟩ := Zol (nrm t).Words e.Words (nrm t).Words hw
  have hok : Z52 t.Words e.Words ↔ Z52 (nrm t).Words e.Words := by
   unfold Z52
   constructor
   ·intro h w hw; rw [hatw]; exact h w hw
   intro h w hw; rw [← hatw]; exact h w hw
  by_cases hO : Z52 t.Words e.Words
  ·obtain ⟨c, q1, q2⟩ := s1 hO
   obtain ⟨cN, q3, q4⟩ := n1 (hok.1 hO)
   rw [q1, q3]
   simp only [Option.bind_some]
   have hcN : tr p0 c = tr p0 cN := Zzt rfl c cN (fun x _ hx => Z4x hx) (fun x _ hx => Z4x hx) fun j => by
    rw [q2, q4]
    unfold upW
    rw [hatw]
   have hcm := Z2u t.Words e.Words t.Words c ht.u q1
   have hcl : c.length ≤ 5000000 := by
    have : ∀ (ws : List Zu) (cur c : List Int), (∀ w ∈ ws, 0 ≤ w.At ∧ w.At ≤ 65534) → cur.length ≤ 5000000 → rnW t.Words ws cur = some c → c.length ≤ 5000000 := fun ws => by
     induction ws with
     | nil => intro cur c _ hl h; rw [rnW] at h; injection h with h; subst h; exact hl
     | cons w ws ih2 =>
      intro cur c hA hl h
      rw [rnW] at h
      split at h
      ·have h1 := hA w (.head _)
       have := (Z2r (z := (0 : Int)) (p := p0) (l := cur) (i := w.At.toNat) (v := Zky (Gd 0 t.Words w.At.toNat) w)).2
       exact ih2 _ c (fun x hx => hA x (.tail _ hx)) (by omega) h
      cases h
    exact this e.Words t.Words c hw2 (by omega) q1
   obtain ⟨r, r1, r2, r3⟩ := Z6g (ws := c) hb hk2 hatk ht hp ih e.Kids 0 t.Kids (nrm t).Kids rfl (Nat.zero_le _) (fun j => (hatk j).symm) ht.all (by omega)
   rw [show (((0 : Nat) : Int)) = 0 from rfl] at r1
   rw [r1, Option.bind_some]
   cases hK : rnK (nrm t).Kids (apK e.Kids) (nrm t).Kids with
   | none =>
    rw [r2 hK]
    exact ⟨_, _, rfl, rfl, fun u h => by cases h⟩
   | some kN =>
    obtain ⟨kc, g1, g2, g3, g4⟩ := r3 kN hK
    rw [g1]
    have hkN : ∀ x ∈ kN, NT x := Zww (nrm t).Kids NT NT.z (apK e.Kids) (nrm t).Kids kN (fun w hwm u hu => by
     obtain ⟨k, hkm, rfl⟩ := List.mem_map.1 hwm
     simp only at hu
     rw [hatk] at hu
     have hkb : Bd (Gd Uv t.Kids k.At.toNat) := Zj6 ht.all Znv _
     have hkp : MB (Gd Uv t.Kids k.At.toNat) := by
      rcases Zvg (z := Uv) (l := t.Kids) (i := k.At.toNat) with q | q
      ·exact hp.all _ q
      rw [q]; exact MB.z
     obtain ⟨v, b, _, _, z3⟩ := ih k hkm _ hkb hkp
     rw [← (z3 u hu).1]
     exact NT.of v) (NT.of t).kids hK
    refine ⟨_, _, rfl, rfl, fun u h => ?_⟩
    injection h with h
    subst h
    refine ⟨?_, .mk _ (by simp only; omega) (by simp only; omega) hcm g3⟩
    rw [Zal rfl]
    simp only
    congr 1
    exact Zzt rfl (kc.map nrm) kN (fun x hx hp => by obtain ⟨y, _, rfl⟩ := List.mem_map.1 hx; exact (NT.of y).null hp) (fun x hx hp => (hkN x hx).null hp) fun j => by rw [hatm, g2 j]
  rw [s2 hO, n2 fun q => hO (hok.2 q)]
  exact ⟨_, _, rfl, rfl, fun u h => by cases h⟩
 rw [if_neg h1, show (t.Kind != 1) = true from bne_iff_ne.2 h1]
 exact ⟨_, _, rfl, rfl, fun u h => by cases h⟩
def SOk (f : Zj → EO → Option (Bool × Zj)) (o : EO) (left out : List Tr) : Prop := ∃ b st, f ⟨left, out⟩ o = some (b, st) ∧ (stO o (ap o.E) (left.map nrm, out.map nrm) = none → b = false) ∧
 ∀ s', stO o (ap o.E) (left.map nrm, out.map nrm) = some s' → b = true ∧ st.left.map nrm = s'.1 ∧ st.out.map nrm = s'.2 ∧ (∀ x ∈ st.left, x ∈ left) ∧ (∀ x ∈ st.out, Bd x) ∧ st.out.length ≤ out.length + thN o ∧ st.left.length ≤ left.length
def Yce (f : Zj → Ed → Option (Bool × Zj)) (E : Ed) (left out : List Tr) : Prop := ∃ b st, f ⟨left, out⟩ E = some (b, st) ∧ (left = [] → b = false) ∧
 ∀ x l, left = x :: l → b = (ap E (nrm x)).isSome ∧ ∀ u, ap E (nrm x) = some u → ∃ v, st = ⟨l, out ++ [v]⟩ ∧ nrm v = u ∧ Bd v
theorem Z9x {f1 f2 f3 : Ed → Tr → Option (Tr × Bool)} {f4 : Zj → EO → Option (Bool × Zj)} {f5 : Zj → Ed → Option (Bool × Zj)} {E : Ed} {left out : List Tr} (hl : left.length ≤ 5000000) (ho : out.length ≤ 2000000000)
  (ih : ∀ x ∈ left, AOk f1 E x) : Yce (Vc f1 f2 f3 f4 f5) E left out := by
 unfold Yce Vc
 cases left with
 | nil => exact ⟨false, _, rfl, fun _ => rfl, fun x l h => by cases h⟩
 | cons x l =>
  obtain ⟨v, b, h1, h2, h3⟩ := ih x (.head _)
  have e0 : Xp (x :: l) 0 = some x := Yz (i := 0) rfl
  have hap : Zcg 56 out ([(⟨0, ([] : (List Int)), ([] : (List Zb))⟩ : Zb)] : List Zb) = some (out ++ [Uv]) := Vb (by simp only [List.length_singleton]; omega) (by simp only [List.length_singleton]; omega)
  have hgt : Xp (out ++ [Uv]) (out.length : Int) = some Uv := Yz (by rw [List.getElem?_append_right (Nat.le_refl _), Nat.sub_self]; rfl)
  have hsub : Zgi (x :: l) 1 ((x :: l).length : Int) = some l := by
   rw [Zpx (by omega) (by rw [List.length_cons]; omega) (Int.le_refl _)]
   simp
  simp only
  rw [show (((x :: l).length : Int) == 0) = false from by rw [beq_eq_false_iff_ne, List.length_cons]; omega, cond_false, e0, Option.bind_some, h1, Option.bind_some, hap, Option.bind_some, hgt, Option.bind_some, hsub, Option.bind_some]
  refine ⟨b, _, rfl, fun h => (by cases h), fun x' l' h => ?_⟩
  injection h with e1 e2
  subst e1 e2
  exact ⟨h2, fun u hu => ⟨v, rfl, h3 u hu⟩⟩
theorem Z9z {f1 f2 f3 : Ed → Tr → Option (Tr × Bool)} {f4 : Zj → EO → Option (Bool × Zj)} {f5 : Zj → Ed → Option (Bool × Zj)} {o : EO} {left out : List Tr} (hop : opk o) (hL : ∀ t ∈ o.L, Bd t) (hLl : o.L.length ≤ 1073741824) (hl : left.length ≤ 5000000) (ho : out.length ≤ 2000000000) (hlb : ∀ x ∈ left, Bd x) (hob : ∀ x ∈ out, Bd x)
  (ih : o.Kind = 3 → Yce f5 o.E left out) : SOk (Ge f1 f2 f3 f4 f5) o left out := by
 unfold SOk Ge
 simp only
 rcases hop with ⟨k, h1⟩ | ⟨k, h1⟩ | ⟨k, h1⟩ | k
 ·have ht : thN o = o.N.toNat := if_pos k
  unfold stO
  rw [if_pos k, show (o.Kind == 0) = true from by rw [k]; rfl, cond_true, show decide (o.N < 0) = false from by rw [decide_eq_false_iff_not]; omega, cond_false, cond_false, Option.bind_some]
  simp only [List.length_map]
  by_cases hle : o.N.toNat ≤ left.length
  ·rw [if_pos ⟨by omega, hle⟩, show decide (((left.length : Nat) : Int) < o.N) = false from by rw [decide_eq_false_iff_not]; omega, cond_false, Zpx (by omega) (by omega) (by omega), Option.bind_some]
   have e1 : (left.drop (Int.toNat 0)).take (o.N - 0).toNat = left.take o.N.toNat := by rw [show (o.N - 0).toNat = o.N.toNat by omega]; rfl
   have hap : Zcg 56 out (left.take o.N.toNat) = some (out ++ left.take o.N.toNat) := Vb (by rw [List.length_take]; omega) (by rw [List.length_take]; omega)
   rw [e1, hap, Option.bind_some, Zpx (by omega) (by omega) (by omega), Option.bind_some]
   have e2 : (left.drop o.N.toNat).take (((left.length : Nat) : Int) - o.N).toNat = left.drop o.N.toNat := List.take_of_length_le (by rw [List.length_drop]; omega)
   rw [e2]
   refine ⟨true, _, rfl, fun h => (by cases h), fun s' h => ?_⟩
   injection h with h
   subst h
   exact ⟨rfl, by simp only [List.map_drop], by simp only [List.map_append, List.map_take], fun x hx => List.mem_of_mem_drop hx, fun x hx => (List.mem_append.1 hx).elim (hob x) fun hx => hlb x (List.mem_of_mem_take hx), by simp only [List.length_append, List.length_take]; omega, by simp only [List.length_drop]; omega⟩
  rw [if_neg (fun q => hle q.2), show decide (((left.length : Nat) : Int) < o.N) = true from by rw [decide_eq_true_eq]; omega, cond_true]
  exact ⟨false, _, rfl, fun _ => rfl, fun s' h => by cases h⟩
 ·have ht : thN o = o.L.length := by unfold thN; rw [if_neg (by omega), if_neg (by omega)]
  unfold stO
  rw [if_neg (by omega), if_pos k, show (o.Kind == 0) = false from by rw [k]; rfl, show (o.Kind == 1) = true from by rw [k]; rfl, cond_false, cond_true]
  simp only
  by_cases hle : o.L.length ≤ left.length
  ·have e1 : (left.drop (Int.toNat 0)).take (((o.L.length : Nat) : Int) - 0).toNat = left.take o.L.length := by rw [show (((o.L.length : Nat) : Int) - 0).toNat = o.L.length by omega]; rfl
   rw [show decide (((left.length : Nat) : Int) < ((o.L.length : Nat) : Int)) = false from by rw [decide_eq_false_iff_not]; omega, cond_false, Zpx (by omega) (by omega) (by omega), Option.bind_some, e1, Ye6 (fun x hx => hlb x (List.mem_of_mem_take hx)) hL (by rw [List.length_take]; omega), Option.bind_some, Option.bind_some, cond_false]
   have hq := (Z6p ((left.take o.L.length).map nrm) (o.L.map nrm))
   rw [List.map_take] at hq ⊢
   by_cases he : (left.map nrm).take o.L.length = o.L.map nrm
   ·rw [hq.2 he, Bool.not_true, cond_false, Zpx (by omega) (by omega) (by omega), Option.bind_some, if_pos he]
    have e2 : (left.drop (((o.L.length : Nat) : Int)).toNat).take (((left.length : Nat) : Int) - ((o.L.length : Nat) : Int)).toNat = left.drop o.L.length := by
     rw [Int.toNat_natCast]; exact List.take_of_length_le (by rw [List.length_drop]; omega)
    rw [e2]
    refine ⟨true, _, rfl, fun h => (by cases h), fun s' h => ?_⟩
    injection h with h
    subst h
    exact ⟨rfl, by simp only [List.map_drop], rfl, fun x hx => List.mem_of_mem_drop hx, hob, by simp only; omega, by simp only [List.length_drop]; omega⟩
   have : eqL ((left.map nrm).take o.L.length) (o.L.map nrm) = false := by
    cases h : eqL ((left.map nrm).take o.L.length) (o.L.map nrm) with
    | false => rfl
    | true => exact absurd (hq.1 h) he
   rw [this, if_neg he]
   exact ⟨false, _, rfl, fun _ => rfl, fun s' h => by cases h⟩
  have hne : ¬ (left.map nrm).take o.L.length = o.L.map nrm := fun q => by
   have := congrArg List.length q
   simp only [List.length_take, List.length_map] at this
   omega
  rw [if_neg hne, show decide (((left.length : Nat) : Int) < ((o.L.length : Nat) : Int)) = true from by rw [decide_eq_true_eq]; omega, cond_true, Option.bind_some, cond_true]
  exact ⟨false, _, rfl, fun _ => rfl, fun s' h => by cases h⟩
 ·have ht : thN o = o.L.length := by unfold thN; rw [if_neg (by omega), if_neg (by omega)]
  have hap : Zcg 56 out o.L = some (out ++ o.L) := Vb (by omega) (by omega)
  unfold stO
  rw [if_neg (by omega), if_neg (by omega), if_pos k, show (o.Kind == 0) = false from by rw [k]; rfl, show (o.Kind == 1) = false from by rw [k]; rfl, show (o.Kind == 2) = true from by rw [k]; rfl, cond_false, cond_false, cond_true, hap, Option.bind_some]
  refine ⟨true, _, rfl, fun h => (by cases h), fun s' h => ?_⟩
  injection h with h
  subst h
  exact ⟨rfl, rfl, by simp only [List.map_append], fun x hx => hx, fun x hx => (List.mem_append.1 hx).elim (hob x) (hL x), by simp only [List.length_append]; omega, Nat.le_refl _⟩
 have ht : thN o = 1 := by unfold thN; rw [if_neg (by omega), if_pos k]
 obtain ⟨b, st, d1, d2, d3⟩ := ih k
 rw [Yek k, show (o.Kind == 0) = false from by rw [k]; rfl, show (o.Kind == 1) = false from by rw [k]; rfl, show (o.Kind == 2) = false from by rw [k]; rfl, show (o.Kind == 3) = true from by rw [k]; rfl, cond_false, cond_false, cond_false, cond_true, d1, Option.bind_some]
 cases left with
 | nil => exact ⟨b, _, rfl, fun _ => d2 rfl, fun s' h => by cases h⟩
 | cons x l =>
  obtain ⟨g1, g2⟩ := d3 x l rfl
  refine ⟨b, _, rfl, fun h => ?_, fun s' h => ?_⟩
  ·simp only [List.map_cons, Option.map_eq_none_iff] at h
   rw [g1, h]
   rfl
  simp only [List.map_cons] at h
  obtain ⟨u, hu, e⟩ := Option.map_eq_some_iff.1 h
  obtain ⟨v, r1, r2, r3⟩ := g2 u hu
  subst e r1
  refine ⟨by rw [g1, hu]; rfl, rfl, by simp only [List.map_append, List.map_cons, List.map_nil, r2], fun y hy => .tail _ hy, fun y hy => ?_, by simp only [List.length_append, List.length_singleton]; omega, by simp only [List.length_cons]; omega⟩
  rcases List.mem_append.1 hy with hy | hy
  ·exact hob y hy
  rw [List.mem_singleton.1 hy]; exact r3
theorem Z6h {f4 : Zj → EO → Option (Bool × Zj)} {e : Ed} {K : List Tr} (hlen : e.Ops.length ≤ 1048576) (ih : ∀ o ∈ e.Ops, ∀ left out, (∀ x ∈ left, x ∈ K) → left.length ≤ 5000000 → (∀ x ∈ out, Bd x) → out.length ≤ 2000000000 → SOk f4 o left out) : ∀ (os : List EO) (i : Nat) (left out : List Tr), e.Ops.drop i = os → i ≤ e.Ops.length → (∀ x ∈ left, x ∈ K) → left.length ≤ 5000000 → (∀ x ∈ out, Bd x) → out.length + Vp os ≤ 2000000000 →
  ∃ r, Zy (Vk f4 e) ((i : Int), left, out) = some r ∧ (rnO (apO os) (left.map nrm, out.map nrm) = none → r = .inl ()) ∧ ∀ l' o', rnO (apO os) (left.map nrm, out.map nrm) = some (l', o') → ∃ left' out', r = .inr (left', out') ∧ left'.map nrm = l' ∧ out'.map nrm = o' ∧ (∀ x ∈ out', Bd x) ∧ out'.length ≤ 2000000000
 | [], i, left, out, hd, hi, hk, hl, hb, ho => by
  obtain rfl := drop_nil hd hi
  refine ⟨.inr (left, out), Y7 ?_, fun h => (by cases h), fun l' o' h => ?_⟩
  ·unfold Vk
   simp only
   rw [Zec, cond_false]
  injection h with h
  injection h with e1 e2
  have : Vp [] = 0 := rfl
  exact ⟨left, out, rfl, e1, e2, hb, by omega⟩
 | o :: os, i, left, out, hd, hi, hk, hl, hb, ho => by
  obtain ⟨hi', hx, hd'⟩ := Zyf hd
  have hm := List.mem_of_getElem? hx
  rw [Z9l] at ho
  obtain ⟨b, st, h1, h2, h3⟩ := ih o hm left out hk hl hb (by omega)
  show ∃ r, Zy (Vk f4 e) ((i : Int), left, out) = some r ∧ (rnO ((o, ap o.E) :: apO os) (left.map nrm, out.map nrm) = none → r = .inl ()) ∧ ∀ l' o', rnO ((o, ap o.E) :: apO os) (left.map nrm, out.map nrm) = some (l', o') → _
  rw [rnO]
  cases hs : stO o (ap o.E) (left.map nrm, out.map nrm) with
  | none =>
   refine ⟨.inl (), Y7 ?_, fun _ => rfl, fun l' o' h => by cases h⟩
   unfold Vk
   simp only
   rw [Zce hi', cond_true, Yz hx, Option.bind_some, h1, Option.bind_some, h2 hs]
   rfl
  | some s' =>
   obtain ⟨g1, g2, g3, g4, g5, g6, g7⟩ := h3 s' hs
   have hstep : Vk f4 e ((i : Int), left, out) = some (.inl (((i + 1 : Nat) : Int), st.left, st.out)) := by
    unfold Vk
    simp only
    rw [Zce hi', cond_true, Yz hx, Option.bind_some, h1, Option.bind_some, g1, Bool.not_true, cond_false, U8 (by omega) (by omega)]
    rfl
   rw [X2 hstep, Option.bind_some]
   have := Z6h hlen ih os (i + 1) st.left st.out hd' (by omega) (fun x hx => hk x (g4 x hx)) (by omega) g5 (by omega)
   rw [g2, g3] at this
   exact this
theorem Z9y {f1 f2 f3 : Ed → Tr → Option (Tr × Bool)} {f4 : Zj → EO → Option (Bool × Zj)} {f5 : Zj → Ed → Option (Bool × Zj)} {e : Ed} {t : Tr} (k3 : e.Kind = 3) (hg : GN e) (hl : 2 ≤ e.List_ ∧ e.List_ ≤ 9) (ht : Bd t) (hp : MB t)
  (ih : ∀ o ∈ e.Ops, ∀ left out, (∀ x ∈ left, x ∈ t.Kids) → left.length ≤ 5000000 → (∀ x ∈ out, Bd x) → out.length ≤ 2000000000 → SOk f4 o left out) : AOk (Zez f1 f2 f3 f4 f5) e t := by
 have hpt := hp.w
 have hkl := hp.k
 unfold AOk Zez
 rw [Zgk, if_neg (by omega), if_neg (by omega), if_neg (by omega), if_pos k3, Zbu]
 by_cases h1 : t.Kind = e.List_
 ·have e1 : (t.Kind != e.List_) = false := by rw [h1]; exact bne_self_eq_false _
  rw [if_pos h1, e1, cond_false, Z17, Option.bind_some, Option.bind_some, cond_false, show decide (2 ≤ t.Kind) = true from by rw [decide_eq_true_eq]; omega, show decide (t.Kind ≤ 9) = true from by rw [decide_eq_true_eq]; omega]
  simp only [Bool.and_self, Bool.not_true, cond_false]
  have hs := hg.s
  obtain ⟨r, r1, r2, r3⟩ := Z6h (K := t.Kids) hg.o ih e.Ops 0 t.Kids [] rfl (Nat.zero_le _) (fun x hx => hx) (by omega) (fun x hx => by cases hx) (by simp only [List.length_nil]; omega)
  rw [show (((0 : Nat) : Int)) = 0 from rfl] at r1
  rw [r1, Option.bind_some]
  have nk : (nrm t).Kids = t.Kids.map nrm := by rw [Zfw (by omega) (by omega)]
  rw [nk]
  rw [List.map_nil] at r2 r3
  cases hr : rnO (apO e.Ops) (t.Kids.map nrm, []) with
  | none =>
   rw [r2 hr]
   exact ⟨_, _, rfl, rfl, fun u h => by cases h⟩
  | some s' =>
   obtain ⟨l', o'⟩ := s'
   obtain ⟨left', out', q1, q2, q3, q4, q5⟩ := r3 l' o' hr
   rw [q1]
   cases left' with
   | nil =>
    rw [List.map_nil] at q2
    subst q2
    refine ⟨_, _, rfl, rfl, fun u h => ?_⟩
    have h2 : (⟨t.Kind, [], o'⟩ : Tr) = u := by injection h
    subst h2
    refine ⟨?_, .mk _ (by simp) (by simp only; omega) (by simp) q4⟩
    rw [Zfw (by simp only; omega) (by simp only; omega)]
    simp only
    rw [q3]
   | cons x left' =>
    rw [List.map_cons] at q2
    subst q2
    refine ⟨_, _, rfl, ?_, fun u h => by cases h⟩
    show ((((x :: left').length : Nat) : Int) == 0) = false
    rw [beq_eq_false_iff_ne, List.length_cons]
    omega
 have e1 : (t.Kind != e.List_) = true := bne_iff_ne.2 h1
 rw [if_neg h1, e1, cond_true, Option.bind_some, cond_true]
 exact ⟨_, _, rfl, rfl, fun u h => by cases h⟩
structure CA (e : Ed) (t : Tr) : Prop where
 x : RX e
 b : BE e
 g : GN e
 p : MB t
 t : Bd t
theorem Zx9 : ∀ (k : Nat), (∀ e t, CA e t → 4 * SizeOf.sizeOf e < k → AOk (Zt k).1 e t) ∧ (∀ e t, CA e t → e.Kind = 2 → 4 * SizeOf.sizeOf e ≤ k → AOk (Zt k).2.1 e t) ∧ (∀ e t, CA e t → e.Kind = 3 → 4 * SizeOf.sizeOf e ≤ k → AOk (Zt k).2.2.1 e t) ∧
  (∀ o left out, opk o → (∀ t ∈ o.L, Bd t) → o.L.length ≤ 1073741824 → (o.Kind = 3 → (∀ x ∈ left, CA o.E x) ∧ 4 * SizeOf.sizeOf o.E + 3 ≤ k) → (∀ x ∈ left, Bd x) → left.length ≤ 5000000 → (∀ x ∈ out, Bd x) → out.length ≤ 2000000000 → 1 ≤ k → SOk (Zt k).2.2.2.1 o left out) ∧
  (∀ E left out, (∀ x ∈ left, CA E x) → 4 * SizeOf.sizeOf E + 2 ≤ k → left.length ≤ 5000000 → out.length ≤ 2000000000 → Yce (Zt k).2.2.2.2 E left out)
 | 0 => ⟨fun e t _ h => by omega, fun e t _ _ h => by have := Zk7 e; omega, fun e t _ _ h => by have := Zk7 e; omega, fun o left out _ _ _ _ _ _ _ _ h => by omega, fun E left out _ h => by omega⟩
 | k + 1 => by
  obtain ⟨i1, i2, i3, i4, i5⟩ := Zx9 k
  refine ⟨fun e t h hk => ?_, fun e t h k2 hk => ?_, fun e t h k3 hk => ?_, fun o left out h1 h3 h4 h5 h6 h7 h8 h9 hk => ?_, fun E left out h hk hl ho => ?_⟩
  ·show AOk (Zbd (Zt k).1 (Zt k).2.1 (Zt k).2.2.1 (Zt k).2.2.2.1 (Zt k).2.2.2.2) e t
   rcases h.x.kind with k0 | k1 | k2 | k3
   ·refine ⟨t, true, ?_, ?_, fun u hu => ?_⟩
    ·unfold Zbd; rw [show (e.Kind == 0) = true from by rw [k0]; rfl]; rfl
    ·rw [Zgk, if_pos k0]; rfl
    rw [Zgk, if_pos k0] at hu
    injection hu with hu
    exact ⟨hu, h.t⟩
   ·refine ⟨e.New, eqT (nrm t) (nrm e.Old), ?_, ?_, fun u hu => ?_⟩
    ·unfold Zbd
     rw [show (e.Kind == 0) = false from by rw [k1]; rfl, show (e.Kind == 1) = true from by rw [k1]; rfl, cond_false, cond_true, Yae h.t h.b.old, Option.bind_some]
    ·rw [Zgk, if_neg (by omega), if_pos k1]
     by_cases he : nrm t = nrm e.Old
     ·rw [if_pos he, eqT_iff.2 he]; rfl
     rw [if_neg he]
     cases hq : eqT (nrm t) (nrm e.Old) with
     | false => rfl
     | true => exact absurd (eqT_iff.1 hq) he
    rw [Zgk, if_neg (by omega), if_pos k1] at hu
    split at hu
    ·injection hu with hu
     exact ⟨hu, h.b.new⟩
    cases hu
   ·obtain ⟨v, b, q1, q2, q3⟩ := i2 e t h k2 (by omega)
    refine ⟨v, b, ?_, q2, q3⟩
    unfold Zbd
    rw [show (e.Kind == 0) = false from by rw [k2]; rfl, show (e.Kind == 1) = false from by rw [k2]; rfl, show (e.Kind == 2) = true from by rw [k2]; rfl, cond_false, cond_false, cond_true, q1, Option.bind_some]
   obtain ⟨v, b, q1, q2, q3⟩ := i3 e t h k3 (by omega)
   refine ⟨v, b, ?_, q2, q3⟩
   unfold Zbd
   rw [show (e.Kind == 0) = false from by rw [k3]; rfl, show (e.Kind == 1) = false from by rw [k3]; rfl, show (e.Kind == 2) = false from by rw [k3]; rfl, show (e.Kind == 3) = true from by rw [k3]; rfl, cond_false, cond_false, cond_false, cond_true, q1, Option.bind_some]
  ·show AOk (Ur (Zt k).1 (Zt k).2.1 (Zt k).2.2.1 (Zt k).2.2.2.1 (Zt k).2.2.2.2) e t
   cases h.x with
   | same _ q => omega
   | repl _ q => omega
   | li _ q => omega
   | st _ q hw hw2 hkk hk2 ih =>
    exact Z5k k2 h.b hw hw2 hkk hk2 h.t h.p fun c hc x hx hpx => i1 c.E x ⟨ih c hc, h.b.ks c hc, h.g.ks c hc, hpx, hx⟩ (by have := Vs hc; omega)
  ·show AOk (Zez (Zt k).1 (Zt k).2.1 (Zt k).2.2.1 (Zt k).2.2.2.1 (Zt k).2.2.2.2) e t
   cases h.x with
   | same _ q => omega
   | repl _ q => omega
   | st _ q => omega
   | li _ q hl ho hN ih =>
    refine Z9y k3 h.g hl h.t h.p fun o hom left out hk2 hl2 hob hol => ?_
    have hsz := Zao hom
    have hpos := Zk7 o.E
    have hlen : o.L.length ≤ 1073741824 := by
     have h1 : thN o ≤ Vp e.Ops := Zrz (f := thN) hom
     have h2 := h.g.s
     by_cases kk : o.Kind = 1 ∨ o.Kind = 2
     ·unfold thN at h1; rw [if_neg (by omega), if_neg (by omega)] at h1; omega
     rw [hN o hom (by rcases ho o hom with ⟨q, _⟩ | ⟨q, _⟩ | ⟨q, _⟩ | q <;> omega)]; simp
    exact i4 o left out (ho o hom) (h.b.l o hom).2 hlen (fun kk => ⟨fun x hx => ⟨ih o hom kk, h.b.os o hom, h.g.os o hom, h.p.all _ (hk2 x hx), h.t.all x (hk2 x hx)⟩, by omega⟩) (fun x hx => h.t.all x (hk2 x hx)) hl2 hob hol (by omega)
  ·exact Z9z (f1 := (Zt k).1) (f2 := (Zt k).2.1) (f3 := (Zt k).2.2.1) (f4 := (Zt k).2.2.2.1) h1 h3 h4 h7 h9 h6 h8 fun kk => i5 o.E left out (h5 kk).1 (by have := (h5 kk).2; omega) h7 h9
  exact Z9x (f2 := (Zt k).2.1) (f3 := (Zt k).2.2.1) (f4 := (Zt k).2.2.2.1) (f5 := (Zt k).2.2.2.2) hl ho fun x hx => i1 E x (h x hx) (by omega)
theorem Z4p {S R : Type} {s1 s2 : S → Option (S ⊕ R)} (h : ∀ s x, s1 s = some x → s2 s = some x) : ∀ (k : Nat) (s : S) (r : R), Zek s1 k s = some r → Zek s2 k s = some r
 | 0, s, r, q => by simp [Zek] at q
 | k + 1, s, r, q => by
  simp only [Zek] at q ⊢
  cases hs : s1 s with
  | none => rw [hs] at q; cases q
  | some x =>
   rw [hs] at q
   rw [h s x hs]
   cases x with
   | inl s' => exact Z4p h k s' r q
   | inr r' => exact q
theorem Zzm {S R : Type} {s1 s2 : S → Option (S ⊕ R)} (h : ∀ s x, s1 s = some x → s2 s = some x) {s : S} {r : R} (q : Zy s1 s = some r) : Zy s2 s = some r := by
 obtain ⟨k, hk⟩ := Zlr q
 exact Zm1 (Z4p h k s r hk)
theorem Zch {α β : Type} {o o' : Option α} {f f' : α → Option β} (h : ∀ x, o = some x → o' = some x) (hf : ∀ x y, f x = some y → f' x = some y) {r : β} (q : o.bind f = some r) : o'.bind f' = some r := by
 obtain ⟨x, h1, h2⟩ := Option.bind_eq_some_iff.1 q
 rw [h x h1]
 exact hf x r h2
theorem Ze1 {α : Type} (c : Bool) {a a' b b' : Option α} (h1 : ∀ r, a = some r → a' = some r) (h2 : ∀ r, b = some r → b' = some r) (r : α) (q : cond c a b = some r) : cond c a' b' = some r := by
 cases c with
 | true => exact h1 r q
 | false => exact h2 r q
theorem Yau {R : Type} {F : Nat → Option R} {r : R} (hm : ∀ k r, F k = some r → F (k + 1) = some r) {K : Nat} (h : F K = some r) : lim F = some r := by
 refine Zfm K fun k hk => ?_
 obtain ⟨d, rfl⟩ : ∃ d, k = K + d := ⟨k - K, by omega⟩
 clear hk
 induction d with
 | zero => exact h
 | succ d ih => exact hm _ _ ih
def LE2 {α β γ : Type} (f g : α → β → Option γ) : Prop := ∀ x y r, f x y = some r → g x y = some r
theorem Zya : ∀ (k : Nat), LE2 (Zt k).1 (Zt (k + 1)).1 ∧ LE2 (Zt k).2.1 (Zt (k + 1)).2.1 ∧ LE2 (Zt k).2.2.1 (Zt (k + 1)).2.2.1 ∧ LE2 (Zt k).2.2.2.1 (Zt (k + 1)).2.2.2.1 ∧ LE2 (Zt k).2.2.2.2 (Zt (k + 1)).2.2.2.2
 | 0 => ⟨fun x y r h => (by cases h), fun x y r h => (by cases h), fun x y r h => (by cases h), fun x y r h => (by cases h), fun x y r h => by cases h⟩
 | k + 1 => by
  obtain ⟨i1, i2, i3, i4, i5⟩ := Zya k
  refine ⟨fun e t r h => ?_, fun e t r h => ?_, fun e t r h => ?_, fun s o r h => ?_, fun s e r h => ?_⟩
  ·refine Ze1 _ (fun _ q => q) (Ze1 _ (fun _ q => q) (Ze1 _ (fun _ => ?_) (Ze1 _ (fun _ => ?_) (fun _ q => q)))) r h
   ·exact Zch (fun x q => i2 _ _ x q) (fun _ _ q => q)
   exact Zch (fun x q => i3 _ _ x q) (fun _ _ q => q)
  ·refine Ze1 _ (fun _ q => q) (fun _ => Zch (fun _ q => q) fun w _ => Zch (fun _ q => q) fun ks _ => Zch (fun _ q => q) fun z r q => ?_) r h
   cases z with
   | inl z => exact q
   | inr z =>
    refine Zch (fun x => Zzm fun s y q => ?_) (fun _ _ q => q) q
    exact Ze1 _ (fun _ => Zch (fun _ q => q) fun _ _ => Zch (fun _ q => q) fun _ _ => Zch (fun x q => i1 _ _ x q) fun _ _ q => q) (fun _ q => q) y q
  ·refine Zch (fun _ q => q) (fun z => Ze1 _ (fun _ q => q) (fun _ => Zch (fun x => Zzm fun s y q => ?_) fun _ _ q => q)) h
   exact Ze1 _ (fun _ => Zch (fun _ q => q) fun _ _ => Zch (fun x q => i4 _ _ x q) fun _ _ q => q) (fun _ q => q) y q
  ·exact Ze1 _ (fun _ q => q) (Ze1 _ (fun _ q => q) (Ze1 _ (fun _ q => q) (Ze1 _ (fun _ => Zch (fun x q => i5 _ _ x q) fun _ _ q => q) (fun _ q => q)))) r h
  exact Ze1 _ (fun _ q => q) (fun _ => Zch (fun _ q => q) fun _ _ => Zch (fun x q => i1 _ _ x q) fun _ _ q => q) r h
theorem Z32 {e : Ed} {t : Tr} (h : CA e t) : Zg6 e t = some (match ap e (nrm t) with | some u => (u, true) | none => (Uv, false)) := by
 obtain ⟨v, b, h1, h2, h3⟩ := (Zx9 (4 * SizeOf.sizeOf e + 1)).1 e t h (by omega)
 have hd : Zmg e t = some (v, b) := Yau (fun k r => (Zya k).1 e t r) h1
 unfold Zg6
 rw [hd, Option.bind_some, h2]
 cases hu : ap e (nrm t) with
 | none => rfl
 | some u =>
  obtain ⟨g1, g2⟩ := h3 u hu
  simp only [Option.isSome_some, Bool.not_true, cond_false]
  rw [Zsb g2, Option.bind_some, g1]
def OX (o : EO) : Prop := (o.Kind = 0 ∨ o.Kind = 3 → o.L = []) ∧ (o.Kind = 3 → RX o.E)
theorem Z40 {F : List EO} {n : Int} (hF : ∀ o ∈ F, OX o) : ∀ o ∈ Vn F n, OX o := by
 have hq : OX (⟨0, n, [], eS0⟩ : EO) := ⟨fun _ => rfl, fun h => by cases h⟩
 by_cases hk : ∃ o, F.getLast? = some o ∧ o.Kind = 0
 ·obtain ⟨o, ho, hk0⟩ := hk
  obtain ⟨o', ho'⟩ := List.getLast?_eq_some_iff.1 ho
  subst ho'
  have hoq := hF o (by simp)
  obtain ⟨k, N, L, E⟩ := o
  simp only at hk0
  subst hk0
  rw [Zap]
  intro x hx
  rcases List.mem_append.1 hx with hx | hx
  ·exact hF x (by simp [hx])
  rw [List.mem_singleton.1 hx]
  exact ⟨fun _ => hoq.1 (.inl rfl), fun h => by cases h⟩
 rw [Zet fun o ho h0 => hk ⟨o, ho, h0⟩]
 intro x hx
 rcases List.mem_append.1 hx with hx | hx
 ·exact hF x hx
 rw [List.mem_singleton.1 hx]; exact hq
theorem Zrr {s : NW} (h : ∀ o ∈ s.out, OX o) : ∀ o ∈ s.flush, OX o := by
 intro o ho
 unfold NW.flush at ho
 rw [List.mem_append] at ho
 rcases ho with ho | ho
 ·exact h o ho
 have hk : o.Kind = 1 ∨ o.Kind = 2 := by
  rw [List.mem_append] at ho
  rcases ho with ho | ho
  ·by_cases hg : s.gone = []
   ·rw [hg] at ho; simp [Zeb] at ho
   rw [Zgs hg, List.mem_singleton] at ho
   subst ho; exact .inl rfl
  by_cases hg : s.come = []
  ·rw [hg] at ho; simp [Zfl] at ho
  rw [Zg2 hg, List.mem_singleton] at ho
  subst ho; exact .inr rfl
 exact ⟨fun h => by omega, fun h => by omega⟩
theorem Yfm {l : Int} {s : NW} {p : EO × Ed} (h : ∀ o ∈ s.out, OX o) (hp : opk p.1) (hE : p.1.Kind = 3 → RX p.2) : ∀ o ∈ (stN l s p).out, OX o := by
 unfold stN
 split
 ·exact h
 split
 ·exact h
 split
 ·exact Z40 (Zrr h)
 split
 ·exact Z40 (Zrr h)
 intro x hx
 rcases List.mem_append.1 hx with hx | hx
 ·exact Zrr h x hx
 rw [List.mem_singleton.1 hx]
 exact ⟨fun _ => rfl, fun _ => hE (by rcases hp with ⟨q, _⟩ | ⟨q, _⟩ | ⟨q, _⟩ | q <;> first | exact q | contradiction)⟩
theorem Z6s {l : Int} : ∀ (os : List EO) (s : NW), (∀ o ∈ s.out, OX o) → (∀ o ∈ os, opk o ∧ (o.Kind = 3 → RX (nE o.E))) → ∀ o ∈ ((V8 os).foldl (stN l) s).out, OX o
 | [], _, h, _ => h
 | o :: os, s, h, hq => Z6s os _ (Yfm (l := l) (p := (o, nE o.E)) h (hq o (by simp)).1 (hq o (by simp)).2) fun x hx => hq x (by simp [hx])
theorem RX.nE {e : Ed} (hx : RX e) (hb : BE e) (hg : GN e) : RX (nE e) := by
 induction hx with
 | same e h => rw [Zfv, if_neg (by omega), if_neg (by omega), if_neg (by omega)]; exact .same _ rfl
 | repl e h => rw [Zfv, if_pos h]; exact .repl _ rfl
 | st e h hw hw2 hk hk2 ih ih2 =>
  rw [Zfv, if_neg (by omega), if_pos h]
  refine .st _ rfl hw hw2 ?_ (fun k hk' => ?_) (fun k hk' => ?_)
  ·rw [List.pairwise_map]; exact hk
  ·obtain ⟨x, hx, rfl⟩ := List.mem_map.1 hk'
   exact hk2 x hx
  obtain ⟨x, hx, rfl⟩ := List.mem_map.1 hk'
  exact ih2 x hx (hb.ks x hx) (hg.ks x hx)
 | li e h hl ho hN ih ih2 =>
  have hp := (GN.nE hb hg).p
  rw [Zfv, if_neg (by omega), if_neg (by omega), if_pos h] at hp
  rw [Zfv, if_neg (by omega), if_neg (by omega), if_pos h]
  have hf := Zrr (Z6s (l := e.List_) e.Ops s0N (by simp [s0N]) fun o hom => ⟨ho o hom, fun k => ih2 o hom k (hb.os o hom) (hg.os o hom)⟩)
  exact .li _ rfl hl hp (fun o hom => (hf o hom).1) (fun o hom => (hf o hom).2)
theorem Z7p {o : EO} (h : opk o) : ((tO o).Kind = 0 ∨ (tO o).Kind = 3 → o.Kind = 0 ∨ o.Kind = 3) ∧ ((tO o).Kind = 3 → o.Kind = 3) := by
 rcases h with ⟨k, _⟩ | ⟨k, _⟩ | ⟨k, _⟩ | k
 ·rw [Z6e (by omega) (by omega) (by omega)]; exact ⟨fun q => q, fun q => q⟩
 ·rw [Z9n k]; exact ⟨fun q => by simp at q, fun q => by simp at q⟩
 ·rw [Z9o k]; exact ⟨fun q => by simp at q, fun q => by simp at q⟩
 exact ⟨fun _ => .inr k, fun _ => k⟩
theorem RX.tE {e : Ed} (hx : RX e) : RX (tE e) := by
 induction hx with
 | same e h => rw [Zs8]; exact .same _ h
 | repl e h => rw [Zs8]; exact .repl _ h
 | st e h hw hw2 hk hk2 ih ih2 =>
  rw [Zs8]
  refine .st _ h ?_ (fun w hw' => ?_) ?_ (fun k hk' => ?_) (fun k hk' => ?_)
  ·rw [List.pairwise_map]; exact hw
  ·obtain ⟨x, hx, rfl⟩ := List.mem_map.1 hw'
   exact hw2 x hx
  ·rw [List.pairwise_map]; exact hk
  ·obtain ⟨x, hx, rfl⟩ := List.mem_map.1 hk'
   exact hk2 x hx
  obtain ⟨x, hx, rfl⟩ := List.mem_map.1 hk'
  exact ih2 x hx
 | li e h hl ho hN ih ih2 =>
  rw [Zs8]
  refine .li _ h hl (fun o hom => ?_) (fun o hom => ?_) (fun o hom => ?_) <;> obtain ⟨x, hx, rfl⟩ := List.mem_map.1 hom
  ·exact Ybb (ho x hx)
  ·intro q; rw [Yg0]; exact hN x hx ((Z7p (ho x hx)).1 q)
  intro q
  have k3 := (Z7p (ho x hx)).2 q
  rw [Z6f k3]
  exact ih2 x hx k3
theorem Zx8 {e : Ed} {t u : Tr} (h : CA e t) (hu : ap e (nrm t) = some u) : Bd u := by
 obtain ⟨v, b, h1, h2, h3⟩ := (Zx9 (4 * SizeOf.sizeOf e + 1)).1 e t h (by omega)
 obtain ⟨g1, g2⟩ := h3 u hu
 rw [← g1]; exact g2.nrm
theorem Zyt {h : Zo} {e : Ed} {u : Tr} (hc : CA e h.now) (ha : ap e (nrm h.now) = some u) (hr : rt u 64 = true) : Xt h e = some (0, ⟨u, h.done, h.back⟩) := by
 unfold Xt
 rw [Z32 hc, ha, Option.bind_some]
 simp only [Bool.not_true, cond_false]
 rw [Zoj (Zx8 hc ha), hr, Option.bind_some]
 rfl
theorem Yan {h : Zo} {e : Ed} {u : Tr} (hb : BE e) (hg : GN e) (he : rE e 64 = true) (hc : CA e h.now) (ha : ap e (nrm h.now) = some u) (hr : rt u 64 = true) (hn : h.done.length ≤ 1000) :
  Xv h e = some (0, ⟨u, h.done ++ [nE e], []⟩) := by
 unfold Xv
 rw [Zpa hb, he, Option.bind_some, Bool.not_true, cond_false, Zyt (h := ⟨h.now, h.done, h.back⟩) hc ha hr, Option.bind_some]
 simp only [bne_self_eq_false, cond_false]
 rw [Yef hb hg, Option.bind_some, Vb (by simp; omega) (by simp; omega), Option.bind_some]
theorem Z4l {now u : Tr} {done back : List Ed} {e : Ed} (hb : BE e) (hg : GN e) (hc : CA (nE (tE e)) now) (ha : ap (nE (tE e)) (nrm now) = some u) (hr : rt u 64 = true) (hd : done.length ≤ 1000) (hk : back.length ≤ 1000) :
  Qf ⟨now, done ++ [e], back⟩ = some (true, ⟨u, done, back ++ [e]⟩) := by
 have e1 : (((done ++ [e]).length : Int) == 0) = false := by rw [beq_eq_false_iff_ne]; simp; omega
 have e2 : IntKind.i64.wrap (((done ++ [e]).length : Int) - 1) = (done.length : Int) := by rw [U8 (by simp <;> omega) (by simp <;> omega)]; simp
 have e3 : List.take (Int.toNat (done.length : Int)) (done ++ [e]) = done := by simp
 have hs := Zyt (h := ⟨now, done ++ [e], back⟩) hc ha hr
 unfold Qf Xu
 simp only [Option.bind_some, e1, cond_false, e2, Zht, Z89 hb hg, hs, bne_self_eq_false]
 rw [Vb (by simp <;> omega) (by simp <;> omega), Option.bind_some, Zld ⟨by simp, by omega, by simp <;> omega⟩, Option.bind_some, e3]
 cases u; rfl
theorem Z4k {now u : Tr} {done back : List Ed} {e : Ed} (hc : CA e now) (ha : ap e (nrm now) = some u) (hr : rt u 64 = true) (hd : done.length ≤ 1000) (hk : back.length ≤ 1000) :
  Qe ⟨now, done, back ++ [e]⟩ = some (true, ⟨u, done ++ [e], back⟩) := by
 have e1 : (((back ++ [e]).length : Int) == 0) = false := by rw [beq_eq_false_iff_ne]; simp; omega
 have e2 : IntKind.i64.wrap (((back ++ [e]).length : Int) - 1) = (back.length : Int) := by rw [U8 (by simp <;> omega) (by simp <;> omega)]; simp
 have e3 : List.take (Int.toNat (back.length : Int)) (back ++ [e]) = back := by simp
 have hs := Zyt (h := ⟨now, done, back ++ [e]⟩) hc ha hr
 unfold Qe Xu
 simp only [Option.bind_some, e1, cond_false, e2, Zht, hs, bne_self_eq_false]
 rw [Vb (by simp <;> omega) (by simp <;> omega), Option.bind_some, Zld ⟨by simp, by omega, by simp <;> omega⟩, Option.bind_some, e3]
 cases u; rfl
theorem Z6w {t : Tr} (hb : Bd t) (hr : rt t 64 = true) (hk : t.Kind ≠ 10) : Zdx t = some ⟨nrm t, [], []⟩ := by
 have e1 : (t.Kind == 10) = false := by rw [beq_eq_false_iff_ne]; exact hk
 unfold Zdx
 rw [e1, cond_false, Zoj hb, hr, Option.bind_some, cond_false, Option.bind_some, Bool.not_true, cond_false, Zsb hb, Option.bind_some]
def Zf3 (a b : Int) : Ed := ⟨2, ⟨0, [], []⟩, ⟨0, [], []⟩, [⟨0, 1, a, b⟩], [], 0, []⟩
theorem Yfy {w : Int} (h : 0 ≤ w ∧ w < 18446744073709551616) : Bd ⟨1, [w], []⟩ := .mk _ (by simp) (by simp) (by simpa using h) (fun k h => by simp at h)
theorem Yez {a b : Int} (ha : 0 ≤ a ∧ a < 18446744073709551616) (hb : 0 ≤ b ∧ b < 18446744073709551616) : BE (Zf3 a b) :=
 .mk _ Znv Znv (by simp [Zf3]) (fun w hw => by
  simp only [Zf3, List.mem_cons, List.not_mem_nil, or_false] at hw
  subst hw
  exact ⟨by simp, ha, hb⟩) (by simp [Zf3]) (by simp [Zf3]) (by simp [Zf3]) (by simp [Zf3]) (by simp [Zf3])
theorem Ye8 (a b : Int) : GN (Zf3 a b) := .mk _ (by simp [Zf3]) (by simp [Zf3]) (by simp [Zf3]) (by simp [Zf3, Vp]) (by simp [Zf3]) (by simp [Zf3]) (by simp [Zf3])
theorem Yfj (a b : Int) : nE (Zf3 a b) = Zf3 a b := by rw [Zfv]; rfl
theorem Ygt (a b : Int) : tE (Zf3 a b) = Zf3 b a := by rw [Zs8]; rfl
theorem Ye3 {a b w : Int} (ha : 0 ≤ a ∧ a < 18446744073709551616) (hb : 0 ≤ b ∧ b < 18446744073709551616) (hw : 0 ≤ w ∧ w < 18446744073709551616) : CA (Zf3 a b) ⟨1, [w], []⟩ :=
 ⟨.st _ rfl (by simp [Zf3]) (by simp [Zf3]) (by simp [Zf3]) (by simp [Zf3]) (by simp [Zf3]), Yez ha hb, Ye8 a b, by first | exact MB.mk _ (by simp) (by simp) (by simp) | (rw [Yeg]; simp; done), Yfy hw⟩
theorem Ya3 {w : Int} (hw : w ≠ 0) : nrm ⟨1, [w], []⟩ = ⟨1, [w], []⟩ := by
 rw [Zal rfl]
 simp [tr, hw]
theorem Yd9 : ap (Zf3 1 2) (nrm ⟨1, [1], []⟩) = some ⟨1, [2], []⟩ := by
 rw [Ya3 (by decide), Zgk]
 simp [Zf3, rnW, apK, rnK, tr, Gd, cW, Zky, Zjr, p0, show Zlh 1 1 1 = 1 from by decide, show Zlh 1 2 1 = 2 from by decide]
theorem Yfv : ap (Zf3 2 1) (nrm ⟨1, [2], []⟩) = some ⟨1, [1], []⟩ := by
 rw [Ya3 (by decide), Zgk]
 simp [Zf3, rnW, apK, rnK, tr, Gd, cW, Zky, Zjr, p0, show Zlh 2 2 1 = 2 from by decide, show Zlh 2 1 1 = 1 from by decide]
theorem Ydb (w : Int) : rt ⟨1, [w], []⟩ 64 = true := by rw [Zjw]; rfl
theorem Yhr : rE (Zf3 1 2) 64 = true := by rw [Zuw]; decide
theorem Zrl : Ko = some true := by
 have h0 := Z6w (Yfy (w := 1) (by decide)) (Ydb 1) (by decide)
 rw [Ya3 (by decide)] at h0
 have h1 := Yan (h := ⟨⟨1, [1], []⟩, [], []⟩) (Yez (a := 1) (b := 2) (by decide) (by decide)) (Ye8 1 2) Yhr (Ye3 (by decide) (by decide) (by decide)) Yd9 (Ydb 2) (by simp)
 rw [Yfj] at h1
 have h2 := Z4l (done := []) (back := []) (now := ⟨1, [2], []⟩) (u := ⟨1, [1], []⟩) (Yez (a := 1) (b := 2) (by decide) (by decide)) (Ye8 1 2) (by rw [Ygt, Yfj]; exact Ye3 (by decide) (by decide) (by decide)) (by rw [Ygt, Yfj]; exact Yfv) (Ydb 1) (by simp) (by simp)
 have h3 := Z4k (done := []) (back := []) (now := ⟨1, [1], []⟩) (Ye3 (a := 1) (b := 2) (by decide) (by decide) (by decide)) Yd9 (Ydb 2) (by simp) (by simp)
 unfold Ko
 refine Option.bind_eq_some_iff.2 ⟨_, h0, ?_⟩
 refine Option.bind_eq_some_iff.2 ⟨_, h1, ?_⟩
 refine Option.bind_eq_some_iff.2 ⟨_, h2, ?_⟩
 first
 | (refine Option.bind_eq_some_iff.2 ⟨_, h3, ?_⟩; rfl)
 | (refine Option.bind_eq_some_iff.2 ⟨_, rfl, ?_⟩; refine Option.bind_eq_some_iff.2 ⟨_, h3, ?_⟩; rfl)
theorem Yeh : ∀ (n : Nat) (t : Tr) (d : Nat), SizeOf.sizeOf t < n → rt t d = true → MB t
 | 0, _, _, h, _ => by omega
 | n + 1, t, d, hn, h => by
  rw [Zjw] at h
  by_cases h0 : t.Kind = 0
  ·rw [if_pos h0, Bool.and_eq_true, beq_iff_eq, beq_iff_eq] at h
   refine .mk _ (by omega) (by omega) fun k hk => ?_
   rw [List.eq_nil_of_length_eq_zero h.2] at hk; cases hk
  rw [if_neg h0] at h
  by_cases h1 : t.Kind = 10
  ·rw [if_pos h1, Bool.and_eq_true, beq_iff_eq, beq_iff_eq] at h
   refine .mk _ (by omega) (by omega) fun k hk => ?_
   rw [List.eq_nil_of_length_eq_zero h.2] at hk; cases hk
  rw [if_neg h1] at h
  by_cases hc : t.Kind < 0 ∨ 10 < t.Kind ∨ d = 0 ∨ 65536 ≤ t.Words.length ∨ (t.Kind = 1 ∧ 65536 ≤ t.Kids.length) ∨ 1048576 ≤ t.Kids.length ∨ (1 < t.Kind ∧ 0 < t.Words.length)
  ·rw [if_pos hc] at h; cases h
  rw [if_neg hc, List.all_eq_true] at h
  refine .mk _ (by omega) (by omega) fun k hk => ?_
  have := h k hk
  rw [Bool.and_eq_true] at this
  exact Yeh n k (d - 1) (by have := Za5 hk; omega) this.1
structure St42 (s : Tr) : Prop where
 nt : NT s
 bd : Bd s
 r : rt s 64 = true
theorem St42.tx {s : Tr} (h : St42 s) : TX s := Yei _ s 64 (Nat.lt_succ_self _) h.r
theorem St42.ca {s : Tr} {e : Ed} (h : St42 s) (hx : RX e) (hb : BE e) (hg : GN e) : CA e s := ⟨hx, hb, hg, Yeh _ s 64 (Nat.lt_succ_self _) h.r, h.bd⟩
structure Go42 (e : Ed) (s u : Tr) : Prop where
 ss : St42 s
 su : St42 u
 b : BE e
 g : GN e
 fc : CA e s
 f : ap e (nrm s) = some u
 kc : CA (nE (tE e)) u
 k : ap (nE (tE e)) (nrm u) = some s
theorem Go42.of {e : Ed} {s u : Tr} (hs : St42 s) (hx : RX e) (hb : BE e) (hg : GN e) (hu : ap e (nrm s) = some u) (hr : rt u 64 = true) : Go42 (nE e) s u := by
 have bu := Zx8 (hs.ca hx hb hg) hu
 have hn : nrm s = s := hs.nt
 rw [hn] at hu
 have hx' := hx.nE hb hg
 have hb' := hb.nE hg
 have hg' := GN.nE hb hg
 have hf : ap (nE e) s = some u := by rw [Z6l _ e s (Nat.lt_succ_self _) hx hs.nt hs.tx]; exact hu
 obtain ⟨q1, q2, q3⟩ := Z1f _ (nE e) s u (Nat.lt_succ_self _) hx' hb' hs.nt hs.bd.rg hs.tx hf
 have su : St42 u := ⟨q1, bu, hr⟩
 have bT := hb'.tE hg'
 have gT := GN.tE hb' hg'
 refine ⟨hs, su, hb', hg', hs.ca hx' hb' hg', by rw [hn]; exact hf, su.ca (hx'.tE.nE bT gT) (bT.nE gT) (GN.nE bT gT), ?_⟩
 rw [show nrm u = u from q1, Z6l _ (tE (nE e)) u (Nat.lt_succ_self _) hx'.tE q1 su.tx, q3]
def Pa42 : Tr → List Ed → Tr → Prop
 | s, [], u => s = u
 | s, e :: r, u => ∃ m, Go42 e s m ∧ Pa42 m r u
theorem Pa42.app : ∀ (a : List Ed) {b : List Ed} {s u : Tr}, Pa42 s (a ++ b) u ↔ ∃ m, Pa42 s a m ∧ Pa42 m b u
 | [], b, s, u => ⟨fun h => ⟨s, rfl, h⟩, fun ⟨m, h1, h2⟩ => by cases h1; exact h2⟩
 | e :: a, b, s, u => by
  constructor
  ·rintro ⟨m, h1, h2⟩
   obtain ⟨q, h3, h4⟩ := (Pa42.app a).1 h2
   exact ⟨q, ⟨m, h1, h3⟩, h4⟩
  rintro ⟨q, ⟨m, h1, h3⟩, h4⟩
  exact ⟨m, h1, (Pa42.app a).2 ⟨q, h3, h4⟩⟩
theorem Pa42.snoc {a : List Ed} {e : Ed} {s m u : Tr} (h : Pa42 s a m) (g : Go42 e m u) : Pa42 s (a ++ [e]) u := (Pa42.app a).2 ⟨m, h, u, g, rfl⟩
theorem Ydd {e : Ed} {t : Tr} (hb : BE e) (ht : Bd t) : ∃ b, Zah ⟨0, 0, e⟩ t = some b ∧ (b = true → ce e ≤ 3000) := by
 obtain ⟨b1, g1, g2⟩ := Yf0 hb
 obtain ⟨b2, g3, _⟩ := Yaf ht
 have h3 := Yct hb (d := 64) (by decide)
 rw [show ((64 : Nat) : Int) = 64 from rfl] at h3
 unfold Zah
 simp only
 rw [g1, g3, h3, Yat hb]
 simp only [show decide ((0 : Int) < 0) = false from rfl, show decide ((3 : Int) < 0) = false from rfl, cond_false, Option.bind_some]
 cases b1 with
 | false => exact ⟨false, rfl, fun h => by cases h⟩
 | true =>
  refine ⟨(!rE e 64 || lgt e) && b2, ?_, fun _ => g2 rfl⟩
  cases rE e 64 <;> cases lgt e <;> cases b2 <;> rfl
theorem Yhl {s : Tr} {done : List Ed} {e : Ed} (hs : St42 s) (hb : BE e) (hc : ce e ≤ 3000) (hn : done.length ≤ 1000) :
  ∃ c u d, Xv ⟨s, done, []⟩ e = some (c, ⟨u, d, []⟩) ∧ ((u = s ∧ d = done) ∨ ∃ f, d = done ++ [f] ∧ Go42 f s u) := by
 cases hr : rE e 64 with
 | false =>
  refine ⟨2, s, done, ?_, .inl ⟨rfl, rfl⟩⟩
  unfold Xv
  rw [Zpa hb, hr]
  rfl
 | true =>
  have hg : GN e := Yak _ e 64 (Nat.lt_succ_self _) hb (by omega) hr
  have hx : RX e := Ybj _ e 64 (Nat.lt_succ_self _) hr
  have hca := hs.ca hx hb hg
  have hap := Z32 hca
  cases hu : ap e (nrm s) with
  | none =>
   refine ⟨13, s, done, ?_, .inl ⟨rfl, rfl⟩⟩
   rw [hu] at hap
   unfold Xv
   rw [Zpa hb, hr, Option.bind_some, Bool.not_true, cond_false]
   unfold Xt
   rw [hap]
   rfl
  | some u =>
   cases hq : rt u 64 with
   | false =>
    refine ⟨3, s, done, ?_, .inl ⟨rfl, rfl⟩⟩
    rw [hu] at hap
    unfold Xv
    rw [Zpa hb, hr, Option.bind_some, Bool.not_true, cond_false]
    unfold Xt
    rw [hap, Option.bind_some]
    simp only [Bool.not_true, cond_false]
    rw [Zoj (Zx8 hca hu), hq]
    rfl
   | true => exact ⟨0, u, done ++ [nE e], Yan (h := ⟨s, done, []⟩) hb hg hr hca hu hq hn, .inr ⟨nE e, rfl, Go42.of hs hx hb hg hu hq⟩⟩
theorem Yb3 (now : Tr) (back : List Ed) : Qf ⟨now, [], back⟩ = some (false, ⟨now, [], back⟩) := by cases now; rfl
theorem Ybl (now : Tr) (done : List Ed) : Qe ⟨now, done, []⟩ = some (false, ⟨now, done, []⟩) := by cases now; rfl
theorem Yf1 {t0 : Tr} {l : List Ed} (hl : ∀ e ∈ l, BE e) (h0 : St42 t0) : ∃ r, Zy (K0 l) (0, t0.Kind, t0.Words, t0.Kids, [], []) = some r ∧
  (r = .inl true ∨ ∃ (now : Tr) (D : List Ed), r = .inr (now.Kind, now.Words, now.Kids, D, []) ∧ St42 now ∧ Pa42 t0 D now ∧ D.length ≤ 12) := by
 refine Zfa (fun s => ∃ (i : Nat) (now : Tr) (D : List Ed), s = ((i : Int), now.Kind, now.Words, now.Kids, D, []) ∧ i ≤ 12 ∧ St42 now ∧ Pa42 t0 D now ∧ D.length ≤ i) (fun s => 12 - s.1.toNat) _ (fun s hs => ?_) _ ⟨0, t0, [], rfl, by omega, h0, rfl, by simp⟩
 obtain ⟨i, now, D, rfl, hi, hs, hp, hD⟩ := hs
 unfold K0
 simp only
 by_cases hc : i < l.length ∧ i < 12
 ·have e1 : decide ((i : Int) < (l.length : Int)) = true := by rw [decide_eq_true_eq]; omega
  have e2 : decide ((i : Int) < 12) = true := by rw [decide_eq_true_eq]; omega
  obtain ⟨x, hx⟩ : ∃ x, l[i]? = some x := ⟨l[i], List.getElem?_eq_getElem hc.1⟩
  have hb := hl x (List.mem_of_getElem? hx)
  obtain ⟨b, s1, s2⟩ := Ydd hb hs.bd
  rw [e1, e2, cond_true, cond_true, Yz hx, Option.bind_some, Zu4, s1, Option.bind_some]
  cases b with
  | false => exact .inr ⟨.inl true, by rw [Zrl]; rfl, .inl rfl⟩
  | true =>
   obtain ⟨c, u, d, d1, d2⟩ := Yhl (done := D) hs hb (s2 rfl) (by omega)
   rw [Bool.not_true, cond_false, Option.bind_some, d1, Option.bind_some, U8 (by omega) (by omega)]
   refine .inl ⟨_, rfl, ⟨i + 1, u, d, by simp, by omega, ?_⟩, by simp only; omega⟩
   rcases d2 with ⟨rfl, rfl⟩ | ⟨f, rfl, g⟩
   ·exact ⟨hs, hp, by omega⟩
   exact ⟨g.su, hp.snoc g, by simp; omega⟩
 have e1 : cond (decide ((i : Int) < (l.length : Int))) (decide ((i : Int) < 12)) false = false := by
  rw [← Bool.not_eq_true]
  intro h
  apply hc
  cases h1 : decide ((i : Int) < (l.length : Int)) with
  | false => rw [h1] at h; cases h
  | true =>
   rw [h1, cond_true, decide_eq_true_eq] at h
   rw [decide_eq_true_eq] at h1
   omega
 rw [e1, cond_false]
 exact .inr ⟨_, rfl, .inr ⟨now, D, rfl, hs, hp, by omega⟩⟩
theorem Yf2 {y : Int × Int × Zo} {t0 uN : Tr} {D : List Ed} (hD : D.length ≤ 12) (hy : y.1 = (D.length : Int)) (hp : Pa42 t0 D uN) :
  Zy (K1 y) (0, uN.Kind, uN.Words, uN.Kids, D, []) = some (.inr (t0.Kind, t0.Words, t0.Kids, [], D.reverse)) := by
 refine Zm0 (fun s => ∃ (d r : List Ed) (m : Tr), s = ((r.length : Int), m.Kind, m.Words, m.Kids, d, r.reverse) ∧ D = d ++ r ∧ Pa42 t0 d m ∧ Pa42 m r uN) (fun s => D.length - s.1.toNat) (fun s hs => ?_) _ ⟨D, [], uN, rfl, by simp, hp, rfl⟩
 obtain ⟨d, r, m, rfl, rfl, h1, h2⟩ := hs
 unfold K1
 simp only
 rw [hy, Zu4]
 rw [List.length_append] at hD
 rcases List.eq_nil_or_concat d with rfl | ⟨d', e, hde⟩
 ·have e1 : decide ((r.length : Int) < ((([] : List Ed) ++ r).length : Int)) = false := by rw [decide_eq_false_iff_not]; simp
  cases h1
  rw [e1, cond_false]
  exact .inr rfl
 rw [List.concat_eq_append] at hde
 subst hde
 have e1 : decide ((r.length : Int) < (((d' ++ [e]) ++ r).length : Int)) = true := by rw [decide_eq_true_eq]; simp; omega
 obtain ⟨m', p1, q, g, rfl⟩ := (Pa42.app d').1 h1
 rw [List.length_append, List.length_singleton] at hD
 rw [e1, cond_true, Z4l (done := d') (back := r.reverse) g.b g.g g.kc g.k g.ss.r (by omega) (by rw [List.length_reverse]; omega), Option.bind_some]
 simp only [Bool.not_true, cond_false]
 rw [U8 (by omega) (by omega)]
 refine .inl ⟨_, rfl, ⟨d', e :: r, m', by simp, by simp, p1, _, g, h2⟩, ?_⟩
 simp only [List.length_append, List.length_singleton]
 omega
theorem Yf3 {y : Int × Int × Zo} {t0 uN : Tr} {D : List Ed} (hD : D.length ≤ 12) (hy : y.1 = (D.length : Int)) (hp : Pa42 t0 D uN) :
  Zy (K2 y) (0, t0.Kind, t0.Words, t0.Kids, [], D.reverse) = some (.inr (uN.Kind, uN.Words, uN.Kids, D, [])) := by
 refine Zm0 (fun s => ∃ (d r : List Ed) (m : Tr), s = ((d.length : Int), m.Kind, m.Words, m.Kids, d, r.reverse) ∧ D = d ++ r ∧ Pa42 t0 d m ∧ Pa42 m r uN) (fun s => D.length - s.1.toNat) (fun s hs => ?_) _ ⟨[], D, t0, rfl, by simp, rfl, hp⟩
 obtain ⟨d, r, m, rfl, rfl, h1, h2⟩ := hs
 unfold K2
 simp only
 rw [hy, Zu4]
 rw [List.length_append] at hD
 cases r with
 | nil =>
  have e1 : decide ((d.length : Int) < ((d ++ ([] : List Ed)).length : Int)) = false := by rw [decide_eq_false_iff_not]; simp
  cases h2
  rw [e1, cond_false, List.append_nil]
  exact .inr rfl
 | cons e r =>
  have e1 : decide ((d.length : Int) < ((d ++ e :: r).length : Int)) = true := by rw [decide_eq_true_eq]; simp; omega
  obtain ⟨m', g, p2⟩ := h2
  rw [List.length_cons] at hD
  rw [e1, cond_true, List.reverse_cons, Z4k (now := m) (done := d) (back := r.reverse) g.fc g.f g.su.r (by omega) (by rw [List.length_reverse]; omega), Option.bind_some]
  simp only [Bool.not_true, cond_false]
  rw [U8 (by omega) (by omega)]
  refine .inl ⟨_, rfl, ⟨d ++ [e], r, m', by simp, by simp, h1.snoc g, p2⟩, ?_⟩
  simp only [List.length_append, List.length_cons]
  omega
theorem Zz3 {t : Tr} {l : List Ed} (ht : Bd t) (hl : ∀ e ∈ l, BE e) : V9 t l = some true := by
 obtain ⟨b1, g1, _⟩ := Yaf ht
 have h2 := Zpq ht (d := 64) (by decide)
 rw [show ((64 : Nat) : Int) = 64 from rfl] at h2
 unfold V9
 rw [g1, h2, Option.bind_some]
 cases b1 with
 | false => simp only [cond_false, cond_true, Option.bind_some, Zrl]
 | true =>
  cases hr : rt t 64 with
  | false => simp only [cond_false, cond_true, Option.bind_some, Zrl, Bool.not_true, Bool.not_false]
  | true =>
   by_cases hk : t.Kind = 10
   ·have e1 : (t.Kind == 10) = true := by rw [hk]; rfl
    simp only [cond_false, cond_true, Option.bind_some, Zrl, Bool.not_true, e1]
   have e1 : (t.Kind == 10) = false := by rw [beq_eq_false_iff_ne]; exact hk
   have h0 : St42 (nrm t) := ⟨NT.of t, ht.nrm, rtN hr⟩
   simp only [cond_false, cond_true, Option.bind_some, Bool.not_true, e1]
   rw [Z6w ht hr hk, Option.bind_some]
   obtain ⟨z, q1, q2⟩ := Yf1 hl h0
   simp only
   rw [q1, Option.bind_some]
   rcases q2 with rfl | ⟨now, D, rfl, hs, hp, hD⟩
   ·rfl
   simp only
   unfold Xu
   rw [Option.bind_some]
   simp only
   rw [Yf2 hD rfl hp, Option.bind_some]
   simp only
   rw [Zu4, Yb3, Option.bind_some]
   simp only [cond_false]
   rw [Ybq ht, Option.bind_some, Z7j ht.nrm ht.nrm, eqT_iff.2 rfl, Option.bind_some, Option.bind_some]
   simp only [Bool.not_true, cond_false]
   rw [Yf3 hD rfl hp, Option.bind_some]
   simp only
   rw [Zu4, Ybl, Option.bind_some]
   simp only [cond_false]
   rw [Z7j hs.bd hs.bd, eqT_iff.2 rfl, Option.bind_some, Zrl]
   rfl
end Go.Proofs.Ytgpaglmhkklneaa
