/- Plain facts on this seat's mirrors (part VP4); each theorem bears its own conditions. -/
import Derived.Test.YtmlhokaflhlhbaaVP1
import Derived.IntWalk
namespace Go.Proofs.Ytmlhokaflhlhbaa
open Go.RowKit
set_option linter.unusedVariables false
set_option linter.unusedSimpArgs false
section
variable {A : Zj}
def Xo (A : Zj) (r : Zh) : List Int := if r.kind = 10 then [Zq5 A r] else if r.kind = 1 then ((seg A.segments r.segment).drop r.at_.toNat).take r.words.toNat else []
end
section
variable {A : Zj}
theorem Zr1 {r : Zh} (h : OKr A r) : 0 ≤ Yt r ∧ Yt r ≤ 1073741824 := by
 cases h with
 | z => simp [Yt, r0]
 | st s a d p hd hp hin => simp only [Yt, if_true]; omega
 | li k s a n hk hn hin => simp only [Yt]; rw [if_neg (by omega)]; omega
 | co s a d p n hd hp hn hwx hin => simp only [Yt]; rw [if_neg (by omega)]; omega
 | at_ s a c i n hc h0 h1 hn hin => simp [Yt]
end
theorem Zrc {c : Int} (h : 0 ≤ c ∧ c ≤ 5) : Qo c = some (wdt c) := by
 unfold Qo
 rcases c5 h with rfl | rfl | rfl | rfl | rfl | rfl <;> rfl
theorem Znf (q : Int) (n : Nat) (hn : Int.tmod q 64 = (n : Int)) (hn2 : n < 64) : ∀ (m t w : Nat), t + m = n → w < 18446744073709551616 → Yh (Xj q) ((w : Int), (t : Int)) = some ((w / 2 ^ m : Nat) : Int)
 | 0, t, w, h, hw => by
  refine Jo ?_
  unfold Xj
  simp only
  rw [hn, show decide ((t : Int) < (n : Int)) = false from by rw [decide_eq_false_iff_not]; omega, cond_false, Nat.pow_zero, Nat.div_one]
 | m + 1, t, w, h, hw => by
  have hs : Xj q ((w : Int), (t : Int)) = some (.inl (((w / 2 : Nat) : Int), ((t + 1 : Nat) : Int))) := by
   unfold Xj
   simp only
   rw [hn, show decide ((t : Int) < (n : Int)) = true from by rw [decide_eq_true_eq]; omega, cond_true, Int.tdiv_eq_ediv_of_nonneg (by omega), show ((w : Int) / 2) = ((w / 2 : Nat) : Int) from rfl, Zsp _ (by omega), Y8 (by omega) (by omega)]
   rfl
  rw [Kk hs, Znf q n hn hn2 m (t + 1) (w / 2) (by omega) (by omega), Nat.div_div_eq_div_mul, Nat.pow_succ, Nat.mul_comm]
theorem Ztl {l : List Int} (hl : ∀ w ∈ l, 0 ≤ w ∧ w < 18446744073709551616) {k : Nat} {w : Int} (hk : k < 1125899906842624) (hg : l[k / 64]? = some w) : Jb l (k : Int) = some ((w.toNat / 2 ^ (k % 64) % 2 : Nat) : Int) := by
 have hi : k / 64 < l.length := by
  rcases Nat.lt_or_ge (k / 64) l.length with h | h
  ·exact h
  rw [List.getElem?_eq_none h] at hg; cases hg
 have hwr := hl w (List.mem_of_getElem? hg)
 unfold Jb
 have t1 : Int.tdiv (k : Int) 64 = ((k / 64 : Nat) : Int) := by rw [Int.tdiv_eq_ediv_of_nonneg (by omega)]; rfl
 have t2 : Int.tmod (k : Int) 64 = ((k % 64 : Nat) : Int) := by rw [Int.tmod_eq_emod_of_nonneg (by omega)]; rfl
 rw [t1, Y8 (x := ((k / 64 : Nat) : Int)) (by omega) (by omega), show decide ((k : Int) < 0) = false from by rw [decide_eq_false_iff_not]; omega, cond_false, show decide ((l.length : Int) ≤ ((k / 64 : Nat) : Int)) = false from by rw [decide_eq_false_iff_not]; omega, cond_false, Zf4 hg, Option.bind_some]
 have hL := Znf (k : Int) (k % 64) t2 (Nat.mod_lt _ (by decide)) (k % 64) 0 w.toNat (by omega) (by omega)
 rw [show ((w.toNat : Nat) : Int) = w by omega, show (((0 : Nat) : Int)) = 0 from rfl] at hL
 rw [hL, Option.bind_some, Int.tmod_eq_emod_of_nonneg (Int.natCast_nonneg _)]
 rfl
theorem Znn {l : List Int} (hl : ∀ w ∈ l, 0 ≤ w ∧ w < 18446744073709551616) {d q i : Nat} {w : Int} (hd : 1 ≤ d ∧ d ≤ 64) (hi : i * d + d < 1125899906842624) (hq : ∀ j, j < d → (i * d + j) / 64 = q ∧ (i * d + j) % 64 = (i * d) % 64 + j) (hg : l[q]? = some w) : ∀ (m : Nat) (acc : Int), m ≤ d → acc = ((w.toNat / 2 ^ ((i * d) % 64 + m) % 2 ^ (d - m) : Nat) : Int) →
  Yh (Xk l (i : Int) (d : Int)) (acc, (m : Int) - 1) = some ((w.toNat / 2 ^ ((i * d) % 64) % 2 ^ d : Nat) : Int)
 | 0, acc, hm, ha => by
  refine Jo ?_
  unfold Xk
  simp only
  rw [show decide ((0 : Int) ≤ ((0 : Nat) : Int) - 1) = false from rfl, cond_false, ha]
  rfl
 | m + 1, acc, hm, ha => by
  obtain ⟨q1, q2⟩ := hq m (by omega)
  have hb := Ztl hl (k := i * d + m) (w := w) (by omega) (by rw [q1]; exact hg)
  rw [q2] at hb
  have hlt : w.toNat / 2 ^ ((i * d) % 64 + (m + 1)) % 2 ^ (d - (m + 1)) < 2 ^ 63 := Nat.lt_of_lt_of_le (Nat.mod_lt _ (Nat.pow_pos (by decide))) (Nat.pow_le_pow_right (by decide) (by omega))
  have hbit : w.toNat / 2 ^ ((i * d) % 64 + m) % 2 < 2 := Nat.mod_lt _ (by decide)
  have hstep : Xk l (i : Int) (d : Int) (acc, ((m + 1 : Nat) : Int) - 1) = some (.inl (((w.toNat / 2 ^ ((i * d) % 64 + m) % 2 ^ (d - m) : Nat) : Int), (m : Int) - 1)) := by
   unfold Xk
   simp only
   have e1 : IntKind.i64.wrap (IntKind.i64.wrap ((i : Int) * (d : Int)) + (((m + 1 : Nat) : Int) - 1)) = ((i * d + m : Nat) : Int) := by
    have e0 : ((i : Int) * (d : Int)) = ((i * d : Nat) : Int) := by simp
    rw [e0, Y8 (x := ((i * d : Nat) : Int)) (by omega) (by omega), Y8 (by omega) (by omega)]
    omega
   rw [show decide ((0 : Int) ≤ ((m + 1 : Nat) : Int) - 1) = true from by rw [decide_eq_true_eq]; omega, cond_true, e1, hb, Option.bind_some, ha]
   have e2 : ((w.toNat / 2 ^ ((i * d) % 64 + (m + 1)) % 2 ^ (d - (m + 1)) : Nat) : Int) * 2 = ((w.toNat / 2 ^ ((i * d) % 64 + (m + 1)) % 2 ^ (d - (m + 1)) * 2 : Nat) : Int) := by simp
   rw [e2, Zsp _ (by omega), ← Int.natCast_add, Zsp _ (by omega), Y8 (by omega) (by omega)]
   have e3 : w.toNat / 2 ^ ((i * d) % 64 + (m + 1)) % 2 ^ (d - (m + 1)) * 2 + w.toNat / 2 ^ ((i * d) % 64 + m) % 2 = w.toNat / 2 ^ ((i * d) % 64 + m) % 2 ^ (d - m) := by
    have h1 : w.toNat / 2 ^ ((i * d) % 64 + (m + 1)) = w.toNat / 2 ^ ((i * d) % 64 + m) / 2 := by
     rw [Nat.div_div_eq_div_mul, ← Nat.pow_succ]; rfl
    have h2 : d - m = (d - (m + 1)) + 1 := by omega
    rw [h1, h2]
    generalize w.toNat / 2 ^ ((i * d) % 64 + m) = x
    generalize d - (m + 1) = y
    rw [Nat.pow_succ, Nat.mul_comm (2 ^ y) 2, Nat.mod_mul]
    omega
   rw [e3]
   congr 3
   omega
  rw [Kk hstep]
  exact Znn hl hd hi hq hg m _ (by omega) rfl
theorem Zs8 {l : List Int} (hl : ∀ w ∈ l, 0 ≤ w ∧ w < 18446744073709551616) {c i n : Int} (hc : 0 ≤ c ∧ c ≤ 5) (h0 : 0 ≤ i) (h1 : i < n) (hn : n < 536870912) (hi : (n * wdt c + 63) / 64 ≤ l.length) : Jc l c i = some (if c = 0 then 0 else Zr7 ((l[(i / each c).toNat]?).getD 0) c (i % each c)) := by
 unfold Jc
 rw [Zrc hc, Option.bind_some]
 by_cases hz : c = 0
 ·subst hz
  rw [if_pos rfl]
  rfl
 rw [if_neg hz]
 obtain ⟨d, e, hd⟩ : ∃ d : Nat, wdt c = (d : Int) ∧ (d = 1 ∨ d = 8 ∨ d = 16 ∨ d = 32 ∨ d = 64) := by
  rcases c5 hc with rfl | rfl | rfl | rfl | rfl | rfl
  ·omega
  ·exact ⟨1, rfl, by omega⟩
  ·exact ⟨8, rfl, by omega⟩
  ·exact ⟨16, rfl, by omega⟩
  ·exact ⟨32, rfl, by omega⟩
  exact ⟨64, rfl, by omega⟩
 obtain ⟨j, rfl⟩ : ∃ j : Nat, i = j := ⟨i.toNat, by omega⟩
 have he : each c = ((64 / d : Nat) : Int) := by unfold each; rw [e]; rfl
 rw [e] at hi ⊢
 rw [show decide ((d : Int) < 1) = false from by rw [decide_eq_false_iff_not]; omega, show decide ((j : Int) < 0) = false from by rw [decide_eq_false_iff_not]; omega, show decide (1099511627776 < (j : Int)) = false from by rw [decide_eq_false_iff_not]; omega]
 simp only [cond_false]
 rw [Y8 (x := (d : Int) - 1) (by omega) (by omega)]
 have hqn : ((j : Int) / each c).toNat = j / (64 / d) := by rw [he]; rfl
 have hrn : ((j : Int) % each c) = ((j % (64 / d) : Nat) : Int) := by rw [he]; rfl
 rw [hqn, hrn]
 have hin : j / (64 / d) < l.length ∧ ∀ t, t < d → (j * d + t) / 64 = j / (64 / d) ∧ (j * d + t) % 64 = (j * d) % 64 + t := by
  rcases hd with rfl | rfl | rfl | rfl | rfl
  ·exact ⟨by omega, fun t ht => by omega⟩
  ·exact ⟨by omega, fun t ht => by omega⟩
  ·exact ⟨by omega, fun t ht => by omega⟩
  ·exact ⟨by omega, fun t ht => by omega⟩
  exact ⟨by omega, fun t ht => by omega⟩
 have hoff : (j * d) % 64 = (j % (64 / d)) * d := by
  rcases hd with rfl | rfl | rfl | rfl | rfl
  ·omega
  ·omega
  ·omega
  ·omega
  omega
 have hg : l[j / (64 / d)]? = some l[j / (64 / d)] := List.getElem?_eq_getElem hin.1
 have hjd : j * d ≤ 536870912 * 64 := Nat.mul_le_mul (by omega) (by omega)
 rw [Znn hl (d := d) (i := j) (by omega) (by omega) hin.2 hg d 0 (Nat.le_refl _) (by rw [Nat.sub_self, Nat.pow_zero, Nat.mod_one]; rfl), Option.bind_some, hg, Option.getD_some]
 unfold Zr7
 rw [e, hoff]
 congr 4
section
variable {A : Zj}
def K8 (A : Zj) (r : Zh) : Zm :=
 if r.kind = 0 then ⟨0, 0, 0, 0, 0, 0, 0⟩
 else if r.kind = 1 then ⟨1, r.segment, r.at_, r.words, r.ptrs, 0, 0⟩
 else if r.kind = 9 then ⟨9, r.segment, r.at_ + 1, r.words, r.ptrs, r.count, 0⟩
 else if r.kind = 10 then ⟨10, 0, 0, 0, 0, 0, Zq5 A r⟩
 else ⟨r.kind, r.segment, r.at_, 0, 0, r.count, 0⟩
def Zcq (A : Zj) (x : Zh × Int) : Zm × Int := (K8 A x.1, x.2)
theorem Zex {r : Zh} : (K8 A r).Kind = r.kind := by
 unfold K8
 split
 ·symm; assumption
 split
 ·symm; assumption
 split
 ·symm; assumption
 split
 ·symm; assumption
 rfl
theorem Zsx {w : Int} (h : 0 ≤ w) : (dc w).Kind = 0 ↔ w = 0 := by
 unfold dc Zpk
 constructor
 ·intro q
  split at q
  ·omega
  split at q
  ·simp at q
  split at q
  ·simp at q
  split at q
  ·simp at q
  simp at q
 intro q
 rw [if_pos (by omega)]
theorem Zpw (hw : WS A.segments) (s a : Int) : Xn A.segments s a = some (Zcq A (atR A s a)) := by
 have hk0 := Zjp A.segments s a
 have hR : Xl A.segments s a = some (⟨(fol A.segments s a).1.P, (fol A.segments s a).1.Segment, (fol A.segments s a).1.At⟩, (fol A.segments s a).2) := Zpx hw s a
 unfold Xn atR
 rw [hR, Option.bind_some]
 clear hR
 revert hk0
 generalize fol A.segments s a = y
 intro hk0
 obtain ⟨x, e⟩ := y
 dsimp only at hk0 ⊢
 rcases hk0 with h | ⟨h1, hp, hk, hi⟩
 ·rw [if_pos h]
  have : cond (e != 0) true (x.P.Kind == 0) = true := by
   rcases h with h | h
   ·rw [bne_iff_ne.2 h]; rfl
   rw [show (x.P.Kind == 0) = true from by rw [h]; rfl]
   cases (e != 0) <;> rfl
  rw [this, cond_true]; rfl
 rw [if_neg (by omega), h1, show ((0 : Int) != 0) = false from rfl, cond_false]
 rw [show (x.P.Kind == 0) = false from Ve (by omega), cond_false]
 by_cases k1 : x.P.Kind = 1
 ·rw [if_pos k1, show (x.P.Kind == 1) = true from by rw [k1]; rfl, cond_true]
  rfl
 rw [if_neg k1, show (x.P.Kind == 1) = false from Ve k1, cond_false]
 have hc := hp.c
 by_cases c7' : x.P.Code = 7
 ·rw [if_pos c7', show decide (x.P.Code < 7) = false from by rw [decide_eq_false_iff_not]; omega, cond_false]
  have hpw : pw x.P = x.P.Count + 1 := by unfold pw; rw [if_neg k1, if_pos c7']
  rw [hpw] at hi
  have hn := hp.n
  have hi' := inB_iff.1 hi
  have hi1 : U4 A.segments x.Segment x.At 1 = true := inB_iff.2 ⟨hi'.1, hi'.2.1, hi'.2.2.1, by omega, by omega⟩
  have hwr := Zel hw x.Segment x.At
  have hrr := Zgb hw hi
  rw [(Vu hi'.1 hi'.2.1).1, Option.bind_some, (Zit hi1).1, Option.bind_some, Zkd hwr, Option.bind_some]
  have ht := Zp1 (wd A.segments x.Segment x.At)
  have ho := (Zc6 (wd A.segments x.Segment x.At)).o
  have hdz := Zsx hwr.1
  generalize dc (wd A.segments x.Segment x.At) = t at *
  have hm := Zr6 (n := t.Off) (x := t.Data + t.Ptrs) ho (by omega)
  rw [Y8 (x := t.Data + t.Ptrs) (by omega) (by omega), Y8 (x := t.Off * (t.Data + t.Ptrs)) (by omega) (by omega), Y8 (x := x.At + 1) (by omega) (by omega)]
  by_cases hq : (t.Kind ≠ 0 ∧ t.Kind ≠ 1) ∨ t.Off < 0 ∨ x.P.Count < t.Off * (t.Data + t.Ptrs)
  ·rw [if_pos hq]
   have : cond (cond (cond (wd A.segments x.Segment x.At != 0) (t.Kind != 1) false) true (decide (t.Off < 0))) true (decide (x.P.Count < t.Off * (t.Data + t.Ptrs))) = true := by
    rcases hq with ⟨q1, q2⟩ | q | q
    ·rw [bne_iff_ne.2 (fun z => q1 (hdz.2 z)), bne_iff_ne.2 q2]; rfl
    ·rw [decide_eq_true q]; cases (cond (wd A.segments x.Segment x.At != 0) (t.Kind != 1) false) <;> rfl
    rw [decide_eq_true q]; cases (cond (cond (wd A.segments x.Segment x.At != 0) (t.Kind != 1) false) true (decide (t.Off < 0))) <;> rfl
   rw [this, cond_true]; rfl
  rw [if_neg hq]
  have e1 : cond (wd A.segments x.Segment x.At != 0) (t.Kind != 1) false = false := by
   by_cases q0 : wd A.segments x.Segment x.At = 0
   ·rw [show (wd A.segments x.Segment x.At != 0) = false from bne_eq_false_iff_eq.2 q0]; rfl
   have q1 : t.Kind = 1 := by
    have : t.Kind ≠ 0 := fun z => q0 (hdz.1 z)
    omega
   rw [show (t.Kind != 1) = false from by rw [q1]; rfl]
   cases (wd A.segments x.Segment x.At != 0) <;> rfl
  rw [e1, cond_false, show decide (t.Off < 0) = false from by rw [decide_eq_false_iff_not]; omega, cond_false, show decide (x.P.Count < t.Off * (t.Data + t.Ptrs)) = false from by rw [decide_eq_false_iff_not]; omega]
  rfl
 rw [if_neg c7', show decide (x.P.Code < 7) = true from by rw [decide_eq_true_eq]; omega, cond_true, Y8 (x := 2 + x.P.Code) (by omega) (by omega)]
 unfold Zcq K8
 simp only
 rw [if_neg (by omega), if_neg (by omega), if_neg (by omega), if_neg (by omega), show 2 + x.P.Code = x.P.Code + 2 by omega]
theorem Ziq {r : Zh} (h : OKr A r) : Yk (K8 A r) = some (Yt r) := by
 unfold Yk
 rw [Zex]
 unfold Yt K8
 by_cases h1 : r.kind = 1
 ·rw [if_pos h1, show (r.kind == 1) = true from by rw [h1]; rfl, cond_true, if_neg (by omega), if_pos h1]
 rw [if_neg h1, show (r.kind == 1) = false from Ve h1, cond_false]
 by_cases h0 : r.kind = 0
 ·rw [if_pos h0]
  cases h with
  | z => rfl
  | st => simp at h0
  | li k s a n hk => simp only at h0; omega
  | co => simp at h0
  | at_ => simp at h0
 rw [if_neg h0, if_neg h1]
 by_cases h9 : r.kind = 9
 ·rw [if_pos h9]
 rw [if_neg h9]
 by_cases h10 : r.kind = 10
 ·rw [if_pos h10]
  cases h with
  | z => rfl
  | st => rfl
  | li k s a n hk => simp only at h10; omega
  | co => simp at h10
  | at_ => rfl
 rw [if_neg h10]
theorem Zpy (hw : WS A.segments) {r : Zh} (h : OKr A r) : Xb (K8 A r) A.segments = some (Xo A r) := by
 unfold Xb
 rw [Zex]
 unfold Xo K8
 cases h with
 | z => rfl
 | li k s a n hk hn hin =>
  simp only
  rw [show (k == 10) = false from Ve (by omega), cond_false, show (k != 1) = true from bne_iff_ne.2 (by omega), cond_true, if_neg (by omega), if_neg (by omega)]
 | co s a d p n hd hp hn hwx hin => rfl
 | at_ s a c i n hc h0 h1 hn hin => rfl
 | st s a d p hd hp hin =>
  have hi' := inB_iff.1 hin
  have hl := Zci hw s
  simp only [show ((1 : Int) == 10) = false from rfl, show ((1 : Int) != 1) = false from rfl, cond_false, show ¬ (1 : Int) = 0 from by decide, show ¬ (1 : Int) = 10 from by decide, if_false, if_true]
  rw [(Vu hi'.1 hi'.2.1).1, Option.bind_some, Y8 (x := a + d) (by omega) (by omega), Zm8 (by omega) (by omega) (by omega), Option.bind_some, show a + d - a = d by omega, Zp6 (by simp only [List.length_nil, List.length_take, List.length_drop]; omega) (by simp only [List.length_nil, List.length_take, List.length_drop]; omega), List.nil_append]
  rfl
theorem Zts (hw : WS A.segments) (s : Int) : ∀ w ∈ seg A.segments s, 0 ≤ w ∧ w < 18446744073709551616 := by
 unfold seg
 cases h : A.segments[s.toNat]? with
 | none => simp
 | some x => exact hw.w x (List.mem_of_getElem? h)
theorem Zsc (hw : WS A.segments) {r : Zh} (h : OKr A r) (i : Int) : X2 (K8 A r) A.segments i = some (Zcq A (Zmw A r i)) := by
 unfold X2 Zmw
 rw [Ziq h, Zex]
 have hz : (cond (decide (i < 0)) (some true) ((some (Yt r)).bind fun y4 => some (cond (decide (i < 0)) true (decide (y4 ≤ i))))) = some (decide (i < 0 ∨ Yt r ≤ i)) := by
  by_cases h0 : i < 0
  ·rw [decide_eq_true h0, cond_true, show decide (i < 0 ∨ Yt r ≤ i) = true from decide_eq_true (.inl h0)]
  rw [decide_eq_false h0, cond_false, Option.bind_some, cond_false]
  congr 1
  rw [decide_eq_decide]
  omega
 rw [hz, Option.bind_some]
 by_cases hi : i < 0 ∨ Yt r ≤ i
 ·rw [if_pos hi, decide_eq_true hi]; rfl
 rw [if_neg hi, decide_eq_false hi, cond_false]
 cases h with
 | z => exact absurd hi (by first | (simp [Yt, r0]; done) | (simp [Yt, r0]; omega))
 | at_ => exact absurd hi (by first | (simp [Yt]; done) | (simp [Yt]; omega))
 | st s a d p hd hp hin =>
  have := Zgb hw hin
  simp only [Yt, if_true] at hi
  have e : K8 A (⟨some A, 1, s, a, d, p, 0, 0, 0⟩ : Zh) = ⟨1, s, a, d, p, 0, 0⟩ := rfl
  simp only [e, beq_self_eq_true, cond_true, if_true]
  rw [Y8 (x := a + d) (by omega) (by omega), Y8 (by omega) (by omega), Zpw hw]
  rfl
 | co s a d p n hd hp hn hwx hin =>
  have := Zgb hw hin
  simp only [Yt] at hi
  rw [if_neg (by omega)] at hi
  have e : K8 A (⟨some A, 9, s, a, d, p, n, 0, 0⟩ : Zh) = ⟨9, s, a + 1, d, p, n, 0⟩ := rfl
  simp only [e, show ((9 : Int) == 1) = false from rfl, show ((9 : Int) == 8) = false from rfl, show ((9 : Int) == 9) = true from rfl, cond_true, cond_false, show ¬ (9 : Int) = 1 from by decide, show ¬ (9 : Int) = 8 from by decide, if_false, if_true]
  have h1 : 0 ≤ i * (d + p) := Int.mul_nonneg (by omega) (by omega)
  have h2 : (i + 1) * (d + p) ≤ n * (d + p) := Int.mul_le_mul_of_nonneg_right (by omega) (by omega)
  rw [Int.add_mul, Int.one_mul] at h2
  rw [Y8 (x := d + p) (by omega) (by omega), Y8 (x := i * (d + p)) (by omega) (by omega), Y8 (by omega) (by omega)]
  rfl
 | li k s a n hk hn hin =>
  have hr := Zgb hw hin
  have hi' := inB_iff.1 hin
  simp only [Yt] at hi
  rw [if_neg (by omega)] at hi
  have e : K8 A (⟨some A, k, s, a, 0, 0, n, 0, 0⟩ : Zh) = ⟨k, s, a, 0, 0, n, 0⟩ := by
   unfold K8
   simp only
   rw [if_neg (by omega), if_neg (by omega), if_neg (by omega), if_neg (by omega)]
  simp only [e]
  rw [show (k == 1) = false from Ve (by omega), cond_false, if_neg (by omega), show (k == 9) = false from Ve (by omega)]
  by_cases k8 : k = 8
  ·have hp : (n * wdt (k - 2) + 63) / 64 = n := by rw [k8]; simp [wdt]; omega
   rw [show (k == 8) = true from by rw [k8]; rfl, cond_true, if_pos k8, Y8 (by omega) (by omega), Zpw hw]
   rfl
  rw [show (k == 8) = false from Ve k8, cond_false, cond_false, if_neg k8, if_neg (by omega), Y8 (by omega) (by omega), (Vu hi'.1 hi'.2.1).1, Option.bind_some, Zm8 (by omega) (by omega) (by omega), Option.bind_some]
  have hlen : ((seg A.segments s).drop a.toNat).length = (seg A.segments s).length - a.toNat := List.length_drop
  have htk : ((seg A.segments s).drop a.toNat).take (((seg A.segments s).length : Int) - a).toNat = (seg A.segments s).drop a.toNat := List.take_of_length_le (by rw [hlen]; omega)
  rw [htk, Zs8 (fun w hm => Zts hw s w (List.mem_of_mem_drop hm)) (c := k - 2) (n := n) (by omega) (by omega) (by omega) (by omega) (by rw [hlen]; omega), Option.bind_some]
  unfold Zcq K8 Zq5
  simp only [show ¬ (10 : Int) = 0 from by decide, show ¬ (10 : Int) = 1 from by decide, show ¬ (10 : Int) = 9 from by decide, if_false, if_true]
  congr 3
  by_cases hz : k - 2 = 0
  ·rw [if_pos hz, if_pos hz]
  rw [if_neg hz, if_neg hz]
  obtain ⟨a1, a2, a3, a4, a5, a6, a7, a8⟩ := Zp9 (c := k - 2) (i := i) (n := n) (by omega) (by omega) (by omega) (by omega)
  unfold wd
  rw [List.getElem?_drop, show (a + i / each (k - 2)).toNat = a.toNat + (i / each (k - 2)).toNat by omega]
end
section
variable {A : Zj}
theorem Zli (hw : WS A.segments) {r : Zh} (h : OKr A r) : ((Xo A r).length : Int) = Jl r := by
 unfold Xo Jl
 cases h with
 | z => rfl
 | li k s a n hk hn hin => simp only; rw [if_neg (by omega), if_neg (by omega), if_neg (by omega), if_neg (by omega)]; rfl
 | co => rfl
 | at_ => rfl
 | st s a d p hd hp hin =>
  have hi' := inB_iff.1 hin
  simp only [show ¬ (1 : Int) = 10 from by decide, if_false, if_true, List.length_take, List.length_drop]
  omega
theorem Zrg (hw : WS A.segments) {r : Zh} (h : OKr A r) {i : Nat} (hi : i < (Xo A r).length) : (Xo A r)[i] = Zi3 A r (i : Int) := by
 have hl := Zli hw h
 unfold Zi3
 rw [if_neg (by omega)]
 cases h with
 | z => simp [Xo, r0] at hi
 | li k s a n hk hn hin =>
  have : Xo A ⟨some A, k, s, a, 0, 0, n, 0, 0⟩ = [] := by unfold Xo; rw [if_neg (by simp only; omega), if_neg (by simp only; omega)]
  simp [this] at hi
 | co => simp [Xo] at hi
 | at_ s a c j n hc h0 h1 hn hin =>
  have : i = 0 := by
   simp [Xo] at hi; exact hi
  subst this
  rfl
 | st s a d p hd hp hin =>
  have hi' := inB_iff.1 hin
  have hid : (i : Int) < d := by simp [Jl] at hl; omega
  simp only [Xo, show ¬ (1 : Int) = 10 from by decide, if_false, if_true, List.getElem_take, List.getElem_drop]
  unfold wd
  rw [show (a + (i : Int)).toNat = a.toNat + i by omega, List.getElem?_eq_getElem (by omega)]
  rfl
theorem Zq9 (r : Zh) : Qq r = some (if r.kind = 9 then (r.words, r.ptrs) else (0, 0)) := by
 unfold Qq
 by_cases h : r.kind = 9
 ·rw [if_pos h, show (r.kind != 9) = false from by rw [h]; rfl]; rfl
 rw [if_neg h, show (r.kind != 9) = true from bne_iff_ne.2 h]; rfl
theorem Znc (hw : WS A.segments) {r : Zh} (h : OKr A r) : Yz r (K8 A r) A.segments = some true := by
 have hl := Zli hw h
 have hkk : Q1 r = some r.kind := rfl
 have hle : (Xo A r).length ≤ 65536 := by
  have : Jl r ≤ 65536 := by
   cases h with
   | z => simp [Jl, r0]
   | st s a d p hd hp hin => simp only [Jl, if_true]; omega
   | li k s a n hk => simp only [Jl]; rw [if_neg (by omega), if_neg (by omega)]; omega
   | co => simp [Jl]
   | at_ => simp [Jl]
  omega
 unfold Yz
 rw [Zpy hw h, Option.bind_some, hkk, Zex, Zl5, Zn5, Ziq h]
 simp only [Option.bind_some, bne_self_eq_false, cond_false, ← hl]
 rw [Zq9, Option.bind_some]
 have hfr : cond (cond (r.kind == 9) (cond ((if r.kind = 9 then (r.words, r.ptrs) else (0, 0)).1 != (K8 A r).Data) true ((if r.kind = 9 then (r.words, r.ptrs) else (0, 0)).2 != (K8 A r).Ptrs)) false) true (cond (r.kind != 9) ((IntKind.i64.wrap ((if r.kind = 9 then (r.words, r.ptrs) else (0, 0)).1 + (if r.kind = 9 then (r.words, r.ptrs) else (0, 0)).2)) != 0) false) = false := by
  by_cases k9 : r.kind = 9
  ·have e : (K8 A r).Data = r.words ∧ (K8 A r).Ptrs = r.ptrs := by
    unfold K8
    rw [if_neg (by omega), if_neg (by omega), if_pos k9]
    exact ⟨rfl, rfl⟩
   rw [if_pos k9, e.1, e.2, show (r.kind == 9) = true from by rw [k9]; rfl, show (r.kind != 9) = false from by rw [k9]; rfl]
   simp
  rw [if_neg k9, show (r.kind == 9) = false from Ve k9]
  simp only [cond_false]
  cases (r.kind != 9) <;> decide
 rw [hfr, cond_false]
 -- the words, up to 200
 have hL : Yh (Yw r (Xo A r)) 0 = some (.inr ()) := by
  have step : ∀ i : Nat, i < min (Xo A r).length 200 → Yw r (Xo A r) (i : Int) = some (.inl ((i + 1 : Nat) : Int)) := fun i hi => by
   have h1 : i < (Xo A r).length := by omega
   unfold Yw
   rw [Zs2 h1, cond_true, show decide ((i : Int) < 200) = true from by rw [decide_eq_true_eq]; omega, cond_true, Zjg hw h, Option.bind_some, Zf4 (List.getElem?_eq_getElem h1), Option.bind_some, Zrg hw h h1, bne_self_eq_false, cond_false, Y8 (by omega) (by omega)]
   rfl
  refine Zr0 (min (Xo A r).length 200) step ?_
  unfold Yw
  have : cond (decide (((min (Xo A r).length 200 : Nat) : Int) < ((Xo A r).length : Int))) (decide (((min (Xo A r).length 200 : Nat) : Int) < 200)) false = false := by
   by_cases q : (Xo A r).length ≤ 200
   ·rw [show decide (((min (Xo A r).length 200 : Nat) : Int) < ((Xo A r).length : Int)) = false from by rw [decide_eq_false_iff_not]; omega]; rfl
   rw [show decide (((min (Xo A r).length 200 : Nat) : Int) < 200) = false from by rw [decide_eq_false_iff_not]; omega]
   cases decide (((min (Xo A r).length 200 : Nat) : Int) < ((Xo A r).length : Int)) <;> rfl
  rw [this, cond_false]
 rw [hL, Option.bind_some]
 simp only
 rw [Zjg hw h, Option.bind_some, Zjg hw h]
 have w1 : Zi3 A r (-1) = 0 := by unfold Zi3; rw [if_pos (.inl (by decide))]
 have w2 : Zi3 A r ((Xo A r).length : Int) = 0 := by unfold Zi3; rw [if_pos (.inr (by omega))]
 rw [w1, w2]
 rfl
theorem Zth (x : Zm) : (⟨x.Kind, x.S, x.At, x.Data, x.Ptrs, x.Count, x.N⟩ : Zm) = x := rfl
abbrev WSt := Int × Int × Int × (Option Zj) × Int × Int × Int × Int × Int × Int × Int × Int × Int × Int × Int × Int × Int × Int × Int
def wst (e : Int) (i : Int) (r : Zh) (x : Zm) : WSt := (e, e, i, r.a, r.kind, r.segment, r.at_, r.words, r.ptrs, r.count, r.code, r.index, x.Kind, x.S, x.At, x.Data, x.Ptrs, x.Count, x.N)
theorem Zla (hw : WS A.segments) {p : List Int} (hp : p.length * 8 ≤ 140737488355328) : ∀ (k i : Nat) (e : Int) (r : Zh), p.length ≤ i + k → OKr A r → ∃ e' r', OKr A r' ∧ Yh (Z6 A.segments p) (wst e (i : Int) r (K8 A r)) = some (.inr (e', e', r'.a, r'.kind, r'.segment, r'.at_, r'.words, r'.ptrs, r'.count, r'.code, r'.index, (K8 A r').Kind, (K8 A r').S, (K8 A r').At, (K8 A r').Data, (K8 A r').Ptrs, (K8 A r').Count, (K8 A r').N))
 | 0, i, e, r, hk, hr => by
  refine ⟨e, r, hr, Jo ?_⟩
  dsimp only [wst]
  unfold Z6
  simp only
  rw [show decide ((i : Int) < (p.length : Int)) = false from by rw [decide_eq_false_iff_not]; omega]
  rfl
 | k + 1, i, e, r, hk, hr => by
  by_cases hi : i < p.length ∧ i < 30
  ·have hg : Qf p (i : Int) = some p[i] := Zf4 (List.getElem?_eq_getElem hi.1)
   have hkn := Zr1 hr
   obtain ⟨q, hq⟩ : ∃ q, (cond (cond (cond (decide (0 < Yt r)) (decide (0 ≤ p[i])) false) (decide (p[i] < 1000)) false) ((Yx (Yt r ≠ 0)).bind fun u17 => some (Int.tmod p[i] (Yt r))) (some p[i])) = some q := by
    by_cases h0 : 0 < Yt r
    ·rw [Vb (show Yt r ≠ 0 by omega), Option.bind_some]
     cases cond (cond (decide (0 < Yt r)) (decide (0 ≤ p[i])) false) (decide (p[i] < 1000)) false with
     | true => exact ⟨_, rfl⟩
     | false => exact ⟨_, rfl⟩
    rw [decide_eq_false h0]; exact ⟨_, rfl⟩
   have hstep : Z6 A.segments p (wst e (i : Int) r (K8 A r)) = some (.inl (wst (Zmw A r q).2 ((i + 1 : Nat) : Int) (Zmw A r q).1 (K8 A (Zmw A r q).1))) := by
    dsimp only [wst]
    unfold Z6
    simp only [Zsb, Zth]
    rw [Zs2 hi.1, show decide ((i : Int) < 30) = true from by rw [decide_eq_true_eq]; omega, Znc hw hr]
    simp only [cond_true, cond_false, bne_self_eq_false, Option.bind_some, Bool.not_true]
    rw [hg, Option.bind_some, Ziq hr, Option.bind_some, hq, Option.bind_some, Ztp hw hr, Option.bind_some, Zsc hw hr, Option.bind_some, Y8 (by omega) (by omega)]
    rfl
   rw [Kk hstep]
   exact Zla hw hp k (i + 1) _ _ (by omega) (Zs0 hr _)
  refine ⟨e, r, hr, Jo ?_⟩
  dsimp only [wst]
  unfold Z6
  simp only
  have : cond (decide ((i : Int) < (p.length : Int))) (decide ((i : Int) < 30)) false = false := by
   by_cases h1 : i < p.length
   ·rw [Zs2 h1, cond_true, decide_eq_false_iff_not]; omega
   rw [show decide ((i : Int) < (p.length : Int)) = false from by rw [decide_eq_false_iff_not]; omega]; rfl
  rw [this]
  rfl
end
theorem Zlv {l : List (List Int)} (hw : WS l) (s a : Int) {p : List Int} (hp : p.length * 8 ≤ 140737488355328) : Xy l s a p = some true := by
 unfold Xy
 rw [Zrj hw, Option.bind_some, Zp8 (A := ⟨l, 0, 0⟩) hw, Option.bind_some, show Xn l s a = _ from Zpw (A := ⟨l, 0, 0⟩) hw s a, Option.bind_some]
 have ho := Zmg (A := ⟨l, 0, 0⟩) s a
 obtain ⟨e', r', hr', hL⟩ := Zla (A := ⟨l, 0, 0⟩) hw hp p.length 0 (atR ⟨l, 0, 0⟩ s a).2 (atR ⟨l, 0, 0⟩ s a).1 (by omega) ho
 rw [show (((0 : Nat) : Int)) = 0 from rfl] at hL
 have hL' : Yh (Z6 l p) ((atR ⟨l, 0, 0⟩ s a).2, (Zcq ⟨l, 0, 0⟩ (atR ⟨l, 0, 0⟩ s a)).2, 0, (atR ⟨l, 0, 0⟩ s a).1.a, (atR ⟨l, 0, 0⟩ s a).1.kind, (atR ⟨l, 0, 0⟩ s a).1.segment, (atR ⟨l, 0, 0⟩ s a).1.at_, (atR ⟨l, 0, 0⟩ s a).1.words, (atR ⟨l, 0, 0⟩ s a).1.ptrs, (atR ⟨l, 0, 0⟩ s a).1.count, (atR ⟨l, 0, 0⟩ s a).1.code, (atR ⟨l, 0, 0⟩ s a).1.index, (Zcq ⟨l, 0, 0⟩ (atR ⟨l, 0, 0⟩ s a)).1.Kind, (Zcq ⟨l, 0, 0⟩ (atR ⟨l, 0, 0⟩ s a)).1.S, (Zcq ⟨l, 0, 0⟩ (atR ⟨l, 0, 0⟩ s a)).1.At, (Zcq ⟨l, 0, 0⟩ (atR ⟨l, 0, 0⟩ s a)).1.Data, (Zcq ⟨l, 0, 0⟩ (atR ⟨l, 0, 0⟩ s a)).1.Ptrs, (Zcq ⟨l, 0, 0⟩ (atR ⟨l, 0, 0⟩ s a)).1.Count, (Zcq ⟨l, 0, 0⟩ (atR ⟨l, 0, 0⟩ s a)).1.N) = _ := hL
 rw [hL', Option.bind_some]
 simp only [Zsb, Zth, beq_self_eq_true, cond_true]
 rw [show Yz r' (K8 ⟨l, 0, 0⟩ r') l = some true from Znc (A := ⟨l, 0, 0⟩) hw hr', Option.bind_some, cond_true, Zrp]
 rfl
end Go.Proofs.Ytmlhokaflhlhbaa
