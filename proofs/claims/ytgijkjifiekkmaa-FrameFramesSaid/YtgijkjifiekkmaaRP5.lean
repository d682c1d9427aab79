/- Plain facts on this seat's mirrors (part RP5); each theorem bears its own conditions. -/
import Derived.Test.YtgijkjifiekkmaaRP4
import Derived.IntWalk
namespace Go.Proofs.Ytgijkjifiekkmaa
open Go.RowKit
set_option linter.unusedVariables false
set_option linter.unusedSimpArgs false
theorem Vr (n j : Nat) (hj : j < 4) (hn : n < 4294967296) (out : List Int) (ho : out.length ≤ 100) : Z4 ((n : Int), (j : Int), out) = some (.inl (((n / 256 : Nat) : Int), ((j + 1 : Nat) : Int), out ++ [((n % 256 : Nat) : Int)])) := by
 unfold Z4
 simp only
 have e1 : IntKind.u8.wrap (Int.tmod (n : Int) 256) = ((n % 256 : Nat) : Int) := by
  rw [Int.tmod_eq_emod_of_nonneg (by omega), IntKind.wrap_u8]
  omega
 have e2 : IntKind.i64.wrap (Int.tdiv (n : Int) 256) = ((n / 256 : Nat) : Int) := by
  rw [Int.tdiv_eq_ediv_of_nonneg (by omega), Zlh (by omega) (by omega)]
  omega
 rw [show decide ((j : Int) < 4) = true from by rw [decide_eq_true_eq]; omega, cond_true, e1, e2, Qn (by simp only [List.length_singleton]; omega) (by simp only [List.length_singleton]; omega), Option.bind_some, Zlh (by omega) (by omega)]
 rfl
theorem Ze3 (n : Nat) (hn : n < 4294967296) : Zq (n : Int) = some (Gg n) := by
 unfold Zq
 have s0 := Zi (Vr n 0 (by decide) (by omega) [] (by decide))
 have s1 := Zi (Vr (n / 256) 1 (by decide) (by omega) ([] ++ [((n % 256 : Nat) : Int)]) (by simp))
 have s2 := Zi (Vr (n / 256 / 256) 2 (by decide) (by omega) ([] ++ [((n % 256 : Nat) : Int)] ++ [((n / 256 % 256 : Nat) : Int)]) (by simp))
 have s3 := Zi (Vr (n / 256 / 256 / 256) 3 (by decide) (by omega) ([] ++ [((n % 256 : Nat) : Int)] ++ [((n / 256 % 256 : Nat) : Int)] ++ [((n / 256 / 256 % 256 : Nat) : Int)]) (by simp))
 have s4 : ∀ (x : Int) out, Zj Z4 (x, ((4 : Nat) : Int), out) = some out := fun x out => Y8 (by unfold Z4; rfl)
 have := s0.trans (s1.trans (s2.trans (s3.trans (s4 _ _))))
 refine (congrArg (fun o => o.bind fun z => some z) this).trans ?_
 simp only [Option.bind_some, Option.some.injEq, Gg, Nat.div_div_eq_div_mul, Nat.reduceMul, List.nil_append, List.cons_append]
theorem Xu (w j : Nat) (hj : j < 8) (hw : w < 18446744073709551616) (a : Arr Int 8) : Z5 ((w : Int), (j : Int), a) = some (.inl (((w / 256 : Nat) : Int), ((j + 1 : Nat) : Int), a.put j ((w % 256 : Nat) : Int))) := by
 unfold Z5
 simp only
 have hx : ∃ x, Xq a.1 (j : Int) = some x := ⟨a.1[j]'(by rw [a.2]; exact hj), Yx (List.getElem?_eq_getElem _)⟩
 obtain ⟨x, hx⟩ := hx
 have e1 : IntKind.u8.wrap (Int.tmod (w : Int) 256) = ((w % 256 : Nat) : Int) := by
  rw [Int.tmod_eq_emod_of_nonneg (by omega), IntKind.wrap_u8]
  omega
 have e2 : IntKind.u64.wrap (Int.tdiv (w : Int) 256) = ((w / 256 : Nat) : Int) := by
  rw [Int.tdiv_eq_ediv_of_nonneg (by omega), Zm9 (by omega)]
  omega
 rw [show decide ((j : Int) < 8) = true from by rw [decide_eq_true_eq]; omega, cond_true, hx, Option.bind_some, e1, e2, Zlh (by omega) (by omega)]
 rfl
theorem Zlx (w : Nat) (hw : w < 18446744073709551616) : Ya (w : Int) = some ⟨le8 w, rfl⟩ := by
 unfold Ya
 simp only [Option.bind_some]
 have s0 := fun a => Zi (Xu w 0 (by decide) (by omega) a)
 have s1 := fun a => Zi (Xu (w / 256) 1 (by decide) (by omega) a)
 have s2 := fun a => Zi (Xu (w / 256 / 256) 2 (by decide) (by omega) a)
 have s3 := fun a => Zi (Xu (w / 256 / 256 / 256) 3 (by decide) (by omega) a)
 have s4 := fun a => Zi (Xu (w / 256 / 256 / 256 / 256) 4 (by decide) (by omega) a)
 have s5 := fun a => Zi (Xu (w / 256 / 256 / 256 / 256 / 256) 5 (by decide) (by omega) a)
 have s6 := fun a => Zi (Xu (w / 256 / 256 / 256 / 256 / 256 / 256) 6 (by decide) (by omega) a)
 have s7 := fun a => Zi (Xu (w / 256 / 256 / 256 / 256 / 256 / 256 / 256) 7 (by decide) (by omega) a)
 have s8 : ∀ (x : Int) a, Zj Z5 (x, ((8 : Nat) : Int), a) = some a := fun x a => Y8 (by unfold Z5; rfl)
 have := (s0 ⟨[0, 0, 0, 0, 0, 0, 0, 0], rfl⟩).trans ((s1 _).trans ((s2 _).trans ((s3 _).trans ((s4 _).trans ((s5 _).trans ((s6 _).trans ((s7 _).trans (s8 _ _))))))))
 refine (congrArg (fun o => o.bind fun z => some z) this).trans ?_
 simp only [Option.bind_some, Option.some.injEq]
 refine Subtype.ext ?_
 show [((w % 256 : Nat) : Int), ((w / 256 % 256 : Nat) : Int), ((w / 256 / 256 % 256 : Nat) : Int), ((w / 256 / 256 / 256 % 256 : Nat) : Int), ((w / 256 / 256 / 256 / 256 % 256 : Nat) : Int), ((w / 256 / 256 / 256 / 256 / 256 % 256 : Nat) : Int), ((w / 256 / 256 / 256 / 256 / 256 / 256 % 256 : Nat) : Int), ((w / 256 / 256 / 256 / 256 / 256 / 256 / 256 % 256 : Nat) : Int)] = le8 w
 simp only [le8, Nat.div_div_eq_div_mul, Nat.reduceMul]
theorem Zm7 (l : List Int) (hw : ∀ x ∈ l, isW x) (hl : l.length ≤ 10000000) : Yf l = some (X7 l) := by
 unfold Yf
 have hloop := Yk l (fun i (s : List Int) => (i, s)) (Yt l) (fun s x => (Ya x).bind fun y => (X4 1 s y.1).bind fun z => some (.inl z)) (fun s => s) (fun i s x hi hx => by
  unfold Yt
  simp only
  rw [show decide ((i : Int) < l.length) = true from by rw [decide_eq_true_eq]; omega, cond_true, Yx hx, Option.bind_some]
  cases Ya x with
  | none => rfl
  | some y =>
   simp only [Option.bind_some]
   cases X4 1 s y.1 with
   | none => rfl
   | some z => simp only [Option.bind_some]; rw [Y2 (by omega)]; rfl) (fun s => by
  unfold Yt
  simp only
  rw [show decide ((l.length : Int) < l.length) = false from by simp, cond_false]) []
 rw [hloop]
 rw [Q0 (fun s x => s ++ le8 x.toNat) (fun s k => s.length = 8 * k) l.length l [] 0 (by omega) rfl (fun s k x hx hk hI => ?_), Zde]
 ·rfl
 have hxw := hw x hx
 obtain ⟨w, rfl⟩ : ∃ w : Nat, x = w := ⟨x.toNat, by unfold isW at hxw; omega⟩
 rw [Zlx w (by unfold isW at hxw; omega)]
 simp only [Option.bind_some, Int.toNat_natCast]
 rw [Qn (by rw [hI, J7]; omega) (by rw [hI, J7]; omega)]
 exact ⟨rfl, by rw [List.length_append, hI, J7]; omega⟩
theorem Zhx (l : List (List Int)) (h : Uj l) (hw : ∀ s ∈ l, ∀ x ∈ s, isW x) : Yb l = some (Xe l, true) := by
 obtain ⟨h1, h2, h3⟩ := h
 unfold Yb
 have c0 : ((l.length : Int) == 0) = false := by simp; intro q; rw [q] at h1; simp at h1
 rw [c0, cond_false, show decide ((16 : Int) < l.length) = false from by rw [decide_eq_false_iff_not]; omega, cond_false, Zlh (by omega) (by omega), show ((l.length : Int) - 1) = ((l.length - 1 : Nat) : Int) by omega, Ze3 (l.length - 1) (by omega), Option.bind_some]
 have e0 := Yk l (fun i (s : List Int) => (i, s)) (Zo l) (fun s x => cond (decide (65536 < (x.length : Int))) (some (.inr (.inl ()))) ((Zq (x.length : Int)).bind fun y => (X4 1 s y).bind fun z => some (.inl z))) (fun s => (.inr s : Unit ⊕ List Int)) (fun i s x hi hx => by
  unfold Zo
  simp only
  rw [show decide ((i : Int) < l.length) = true from by rw [decide_eq_true_eq]; omega, cond_true, Yx hx, Option.bind_some]
  cases decide (65536 < (x.length : Int)) with
  | true => simp only [cond_true]
  | false =>
   simp only [cond_false]
   rw [Option.bind_some]
   cases Zq (x.length : Int) with
   | none => rfl
   | some y =>
    simp only [Option.bind_some]
    cases X4 1 s y with
    | none => rfl
    | some z => simp only [Option.bind_some]; rw [Y2 (by omega)]; rfl) (fun s => by
  unfold Zo
  simp only
  rw [show decide ((l.length : Int) < l.length) = false from by simp, cond_false]) (Gg (l.length - 1))
 have e1 : Zj (Zo l) (0, Gg (l.length - 1)) = some (.inr (X0 l)) := by
  refine e0.trans ?_
  rw [Jo (fun x : List Int => decide (65536 < x.length)) (fun s x => s ++ Gg x.length) (.inl ()) (fun s k => s.length = 4 + 4 * k) l.length l _ 0 (by omega) rfl (fun s k x hx hk hI => ?_), Zdf]
  ·have : l.any (fun x : List Int => decide (65536 < x.length)) = false := by
    rw [List.any_eq_false]
    intro x hx
    have := h3 x hx
    simp
    omega
   rw [this]
   rfl
  have := h3 x hx
  have q : decide (65536 < x.length) = false := by rw [decide_eq_false_iff_not]; omega
  have q2 : decide ((65536 : Int) < (x.length : Int)) = false := by rw [decide_eq_false_iff_not]; omega
  rw [q, q2, cond_false, Ze3 x.length (by omega), Option.bind_some, Qn (by rw [Q6]; omega) (by rw [Q6]; omega)]
  exact ⟨rfl, by rw [List.length_append, hI, Q6]; omega⟩
 rw [e1, Option.bind_some]
 dsimp only
 have e2 : Zj (Zy) (X0 l) = some (J6 l) := by
  have hnl := Kl l
  have hN : Zu l.length = (4 * (l.length + 1) + 7) / 8 * 8 := rfl
  unfold J6
  rw [hnl]
  by_cases q : (4 + 4 * l.length) % 8 = 0
  ·rw [show Zu l.length - (4 + 4 * l.length) = 0 by omega, List.replicate_zero, List.append_nil]
   refine Y8 ?_
   unfold Zy
   rw [Int.tmod_eq_emod_of_nonneg (by omega), show decide ((0 : Int) < ((X0 l).length : Int) % 8) = false from by rw [decide_eq_false_iff_not]; omega, cond_false]
  have st : ∀ s : List Int, s.length ≤ 1000 → s.length % 8 ≠ 0 → Zy s = some (.inl (s ++ [0])) := fun s hs hq => by
   unfold Zy
   rw [Int.tmod_eq_emod_of_nonneg (by omega), show decide ((0 : Int) < (s.length : Int) % 8) = true from by rw [decide_eq_true_eq]; omega, cond_true, Qn (by simp only [List.length_singleton]; omega) (by simp only [List.length_singleton]; omega), Option.bind_some]
  rw [show Zu l.length - (4 + 4 * l.length) = 4 by omega]
  rw [Zi (st _ (by omega) (by omega)), Zi (st _ (by simp only [List.length_append, List.length_singleton]; omega) (by simp only [List.length_append, List.length_singleton]; omega)), Zi (st _ (by simp only [List.length_append, List.length_singleton]; omega) (by simp only [List.length_append, List.length_singleton]; omega)), Zi (st _ (by simp only [List.length_append, List.length_singleton]; omega) (by simp only [List.length_append, List.length_singleton]; omega))]
  have e : X0 l ++ [0] ++ [0] ++ [0] ++ [0] = X0 l ++ List.replicate 4 0 := by simp only [List.append_assoc]; rfl
  rw [e]
  refine Y8 ?_
  unfold Zy
  rw [Int.tmod_eq_emod_of_nonneg (by omega), show decide ((0 : Int) < ((X0 l ++ List.replicate 4 (0 : Int)).length : Int) % 8) = false from by rw [decide_eq_false_iff_not]; simp only [List.length_append, List.length_replicate]; omega, cond_false]
 rw [e2, Option.bind_some]
 have e3 := Yk l (fun i (s : List Int) => (i, s)) (Z6 l) (fun s x => (Yf x).bind fun y => (X4 1 s y).bind fun z => some (.inl z)) (fun s => s) (fun i s x hi hx => by
  unfold Z6
  simp only
  rw [show decide ((i : Int) < l.length) = true from by rw [decide_eq_true_eq]; omega, cond_true, Yx hx, Option.bind_some]
  cases Yf x with
  | none => rfl
  | some y =>
   simp only [Option.bind_some]
   cases X4 1 s y with
   | none => rfl
   | some z => simp only [Option.bind_some]; rw [Y2 (by omega)]; rfl) (fun s => by
  unfold Z6
  simp only
  rw [show decide ((l.length : Int) < l.length) = false from by simp, cond_false]) (J6 l)
 have e4 : Zj (Z6 l) (0, J6 l) = some (Xe l) := by
  refine e3.trans ?_
  have hN : Zu l.length ≤ 1000 := by unfold Zu; omega
  rw [Q0 (fun s x => s ++ X7 x) (fun s k => s.length ≤ 1000 + 524288 * k) l.length l _ 0 (by omega) (by rw [Vn]; omega) (fun s k x hx hk hI => ?_), Zbh]
  ·rfl
  have := h3 x hx
  rw [Zm7 x (hw x hx) (by omega), Option.bind_some, Qn (by rw [X2]; omega) (by rw [X2]; omega)]
  exact ⟨rfl, by rw [List.length_append, X2]; omega⟩
 rw [e4]
 rfl
end Go.Proofs.Ytgijkjifiekkmaa
