/- Plain facts on this seat's mirrors (part RP1); each theorem bears its own conditions. -/
import Derived.Test.YtgijkjifiekkmaaRM2
import Derived.IntWalk
namespace Go.Proofs.Ytgijkjifiekkmaa
open Go.RowKit
set_option linter.unusedVariables false
set_option linter.unusedSimpArgs false
def Gg (n : Nat) : List Int := [((n % 256 : Nat) : Int), ((n / 256 % 256 : Nat) : Int), ((n / 65536 % 256 : Nat) : Int), ((n / 16777216 % 256 : Nat) : Int)]
def le8 (w : Nat) : List Int := [((w % 256 : Nat) : Int), ((w / 256 % 256 : Nat) : Int), ((w / 65536 % 256 : Nat) : Int), ((w / 16777216 % 256 : Nat) : Int), ((w / 4294967296 % 256 : Nat) : Int), ((w / 1099511627776 % 256 : Nat) : Int), ((w / 281474976710656 % 256 : Nat) : Int), ((w / 72057594037927936 % 256 : Nat) : Int)]
theorem Zgf (xs : List Int) (n : Nat) (hn : n < 4294967296) (hx : xs.length ≤ 100000000) : Yw xs n = some (xs ++ Gg n) := by
 unfold Yw
 have e1 : (2 : Int) ^ min (Int.toNat 8) 64 = 256 := by decide
 have e2 : (2 : Int) ^ min (Int.toNat 16) 64 = 65536 := by decide
 have e3 : (2 : Int) ^ min (Int.toNat 24) 64 = 16777216 := by decide
 rw [e1, e2, e3, Qn (by simp only [List.length_cons, List.length_nil]; omega) (by simp only [List.length_cons, List.length_nil]; omega)]
 simp only [Option.bind_some, Gg, IntKind.wrap_u8, Int.fdiv_eq_ediv_of_nonneg _ (show (0 : Int) ≤ 256 by decide), Int.fdiv_eq_ediv_of_nonneg _ (show (0 : Int) ≤ 65536 by decide), Int.fdiv_eq_ediv_of_nonneg _ (show (0 : Int) ≤ 16777216 by decide)]
 simp only [Option.some.injEq, List.append_cancel_left_eq, List.cons.injEq, and_true]
 omega
def Zu (k : Nat) : Nat := (4 * (k + 1) + 7) / 8 * 8
theorem Gs (k : Nat) (hk : k ≤ 1000000) : Yl k = some (Zu k : Int) := by
 unfold Yl Zu
 rw [Y2 (x := (k : Int) + 1) (by omega), Y2 (x := 4 * ((k : Int) + 1)) (by omega), Y2 (x := 4 * ((k : Int) + 1) + 7) (by omega), Int.tdiv_eq_ediv_of_nonneg (by omega), Y2 (x := (4 * ((k : Int) + 1) + 7) / 8) (by omega), Y2 (by omega)]
 congr 1
theorem Zfp (l : List (List Int)) (hl : l.length ≤ 1000000000000) : Yh l = some (decide (1 ≤ l.length ∧ l.length ≤ 16 ∧ ∀ s ∈ l, s.length ≤ 65536)) := by
 unfold Yh
 by_cases h0 : l.length < 1
 ·have : decide ((l.length : Int) < 1) = true := by simp; omega
  rw [this, cond_true, cond_true]
  congr 1
  symm
  simp only [decide_eq_false_iff_not]
  omega
 have c0 : decide ((l.length : Int) < 1) = false := by simp; omega
 by_cases h1 : 16 < l.length
 ·have : decide (16 < (l.length : Int)) = true := by simp; omega
  rw [c0, this, cond_false, cond_true]
  congr 1
  symm
  simp only [decide_eq_false_iff_not]
  omega
 have c1 : decide (16 < (l.length : Int)) = false := by simp; omega
 rw [c0, c1, cond_false, cond_false]
 have hloop := Yk l (fun i (_ : Unit) => i) (Zv l) (fun _ x => if 65536 < x.length then some (.inr (.inl ())) else some (.inl ())) (fun _ => .inr ()) (fun i s x hi hx => by
  unfold Zv
  have : decide ((i : Int) < l.length) = true := by simp; omega
  rw [this, cond_true, Yx hx, Option.bind_some]
  by_cases h : 65536 < x.length
  ·have e : decide (65536 < (x.length : Int)) = true := by simp; omega
   rw [e, cond_true, if_pos h]
  ·have e : decide (65536 < (x.length : Int)) = false := by simp; omega
   rw [e, cond_false, if_neg h, Y2 (by omega)]
   rfl) (fun s => by
  unfold Zv
  have : decide ((l.length : Int) < l.length) = false := by simp
  rw [this, cond_false]) ()
 rw [hloop]
 have key : ∀ xs : List (List Int), Qh (fun (_ : Unit) (x : List Int) => if 65536 < x.length then some (.inr (.inl ())) else some (.inl ())) (fun _ => (.inr () : Unit ⊕ Unit)) xs () = some (if ∀ s ∈ xs, s.length ≤ 65536 then .inr () else .inl ()) := fun xs => by
  induction xs with
  | nil => simp [Qh]
  | cons x xs ih =>
   unfold Qh
   by_cases h : 65536 < x.length
   ·rw [if_pos h]
    have : ¬ ∀ s ∈ x :: xs, s.length ≤ 65536 := fun q => by have := q x (.head _); omega
    rw [if_neg this]
   rw [if_neg h]
   simp only
   rw [ih]
   have : (∀ s ∈ x :: xs, s.length ≤ 65536) ↔ ∀ s ∈ xs, s.length ≤ 65536 := by simp; omega
   by_cases q : ∀ s ∈ xs, s.length ≤ 65536
   ·rw [if_pos q, if_pos (this.2 q)]
   rw [if_neg q, if_neg (fun z => q (this.1 z))]
 rw [key]
 by_cases q : ∀ s ∈ l, s.length ≤ 65536
 ·rw [if_pos q]
  simp only [Option.bind_some]
  congr 1
  symm
  simp only [decide_eq_true_eq]
  exact ⟨by omega, by omega, q⟩
 rw [if_neg q]
 simp only [Option.bind_some]
 congr 1
 symm
 simp only [decide_eq_false_iff_not]
 exact fun z => q z.2.2
theorem Zmq (w i : Nat) (hi : i < 8) : IntKind.u8.wrap (Int.fdiv (w : Int) (2 ^ min (Int.toNat (IntKind.i64.wrap (8 * (i : Int)))) 64)) = ((w / 256 ^ i % 256 : Nat) : Int) := by
 rw [Y2 (by omega), show min (Int.toNat (8 * (i : Int))) 64 = 8 * i by omega, show ((2 : Int) ^ (8 * i)) = ((256 ^ i : Nat) : Int) by rw [Int.pow_mul]; simp, Int.fdiv_eq_ediv_of_nonneg _ (Int.natCast_nonneg _), ← Int.natCast_ediv, IntKind.wrap_u8]
 rfl
theorem X6 (w i : Nat) (hi : i < 8) (a : Arr Int 8) : Xh w ((i : Int), a) = some (.inl (((i + 1 : Nat) : Int), a.put i ((w / 256 ^ i % 256 : Nat) : Int))) := by
 unfold Xh
 simp only
 have e : decide ((i : Int) < 8) = true := by simp; omega
 have hx : ∃ x, Xq a.1 (i : Int) = some x := ⟨a.1[i]'(by rw [a.2]; exact hi), Yx (List.getElem?_eq_getElem _)⟩
 obtain ⟨x, hx⟩ := hx
 rw [e, cond_true, Zdl (by rw [Y2 (by omega)]; omega), Option.bind_some, hx, Option.bind_some, Zmq w i hi, Y2 (by omega)]
 rfl
theorem Zmr (w : Nat) : Xw w = some ⟨le8 w, rfl⟩ := by
 unfold Xw
 simp only [Option.bind_some]
 have s0 := fun a => Zi (X6 w 0 (by decide) a)
 have s1 := fun a => Zi (X6 w 1 (by decide) a)
 have s2 := fun a => Zi (X6 w 2 (by decide) a)
 have s3 := fun a => Zi (X6 w 3 (by decide) a)
 have s4 := fun a => Zi (X6 w 4 (by decide) a)
 have s5 := fun a => Zi (X6 w 5 (by decide) a)
 have s6 := fun a => Zi (X6 w 6 (by decide) a)
 have s7 := fun a => Zi (X6 w 7 (by decide) a)
 have s8 : ∀ a, Zj (Xh w) (((8 : Nat) : Int), a) = some a := fun a => Y8 (by unfold Xh; rfl)
 have := (s0 ⟨[0, 0, 0, 0, 0, 0, 0, 0], rfl⟩).trans ((s1 _).trans ((s2 _).trans ((s3 _).trans ((s4 _).trans ((s5 _).trans ((s6 _).trans ((s7 _).trans (s8 _))))))))
 refine (congrArg (fun o => o.bind fun z => some z) this).trans ?_
 simp only [Option.bind_some, Option.some.injEq]
 refine Subtype.ext ?_
 show [((w / 256 ^ 0 % 256 : Nat) : Int), ((w / 256 ^ 1 % 256 : Nat) : Int), ((w / 256 ^ 2 % 256 : Nat) : Int), ((w / 256 ^ 3 % 256 : Nat) : Int), ((w / 256 ^ 4 % 256 : Nat) : Int), ((w / 256 ^ 5 % 256 : Nat) : Int), ((w / 256 ^ 6 % 256 : Nat) : Int), ((w / 256 ^ 7 % 256 : Nat) : Int)] = le8 w
 simp [le8]
def isW (x : Int) : Prop := 0 ≤ x ∧ x < 18446744073709551616
def X7 (l : List Int) : List Int := (l.map fun x => le8 x.toNat).flatten
theorem J7 (w : Nat) : (le8 w).length = 8 := rfl
theorem X2 (l : List Int) : (X7 l).length = 8 * l.length := by
 induction l with
 | nil => rfl
 | cons x l ih => unfold X7 at *; simp only [List.map_cons, List.flatten_cons, List.length_append, J7, List.length_cons, ih]; omega
theorem Zde (l : List Int) : ∀ s : List Int, l.foldl (fun s x => s ++ le8 x.toNat) s = s ++ X7 l := by
 induction l with
 | nil => intro s; simp [X7]
 | cons x l ih => intro s; rw [List.foldl_cons, ih]; simp [X7]
theorem Zoo (l : List Int) (hw : ∀ x ∈ l, isW x) (hl : l.length ≤ 10000000) : X9 l = some (X7 l) := by
 unfold X9
 rw [Y2 (x := 8 * (l.length : Int)) (by omega), Zgd (by omega) (by omega) (by omega), Option.bind_some]
 have hloop := Yk l (fun i (s : List Int) => (i, s)) (Qa l) (fun s x => (Xw x).bind fun y => (X4 1 s y.1).bind fun z => some (.inl z)) (fun s => s) (fun i s x hi hx => by
  unfold Qa
  simp only
  have : decide ((i : Int) < l.length) = true := by simp; omega
  rw [this, cond_true, Yx hx, Option.bind_some]
  cases Xw x with
  | none => rfl
  | some y =>
   simp only [Option.bind_some]
   cases X4 1 s y.1 with
   | none => rfl
   | some z => simp only [Option.bind_some]; rw [Y2 (by omega)]; rfl) (fun s => by
  unfold Qa
  simp only
  have : decide ((l.length : Int) < l.length) = false := by simp
  rw [this, cond_false]) []
 rw [hloop]
 rw [Q0 (fun s x => s ++ le8 x.toNat) (fun s k => s.length = 8 * k) l.length l [] 0 (by omega) rfl (fun s k x hx hk hI => ?_), Zde]
 ·rfl
 have hxw := hw x hx
 obtain ⟨w, rfl⟩ : ∃ w : Nat, x = w := ⟨x.toNat, by unfold isW at hxw; omega⟩
 rw [Zmr w]
 simp only [Option.bind_some, Int.toNat_natCast]
 rw [Qn (by rw [hI, J7]; omega) (by rw [hI, J7]; omega)]
 exact ⟨rfl, by rw [List.length_append, hI, J7]; omega⟩
def Uj (l : List (List Int)) : Prop := 1 ≤ l.length ∧ l.length ≤ 16 ∧ ∀ s ∈ l, s.length ≤ 65536
def X0 (l : List (List Int)) : List Int := Gg (l.length - 1) ++ (l.map fun s => Gg s.length).flatten
def J6 (l : List (List Int)) : List Int := X0 l ++ List.replicate (Zu l.length - (X0 l).length) 0
def Xe (l : List (List Int)) : List Int := J6 l ++ (l.map X7).flatten
theorem Q6 (n : Nat) : (Gg n).length = 4 := rfl
theorem Zli (l : List (List Int)) : ((l.map fun s => Gg s.length).flatten).length = 4 * l.length := by
 induction l with
 | nil => rfl
 | cons x l ih => simp only [List.map_cons, List.flatten_cons, List.length_append, Q6, List.length_cons, ih]; omega
theorem Kl (l : List (List Int)) : (X0 l).length = 4 + 4 * l.length := by unfold X0; rw [List.length_append, Q6, Zli]
theorem Vn (l : List (List Int)) : (J6 l).length = Zu l.length := by
 unfold J6; rw [List.length_append, List.length_replicate, Kl]; unfold Zu; omega
theorem Zdf (l : List (List Int)) : ∀ s : List Int, l.foldl (fun s x => s ++ Gg x.length) s = s ++ (l.map fun s => Gg s.length).flatten := by
 induction l with
 | nil => intro s; simp
 | cons x l ih => intro s; rw [List.foldl_cons, ih]; simp
theorem Zbh (l : List (List Int)) : ∀ s : List Int, l.foldl (fun s x => s ++ X7 x) s = s ++ (l.map X7).flatten := by
 induction l with
 | nil => intro s; simp
 | cons x l ih => intro s; rw [List.foldl_cons, ih]; simp
theorem Zh8 (l : List (List Int)) (h : Uj l) (hw : ∀ s ∈ l, ∀ x ∈ s, isW x) : Yr l = some (Xe l, true) := by
 obtain ⟨h1, h2, h3⟩ := h
 unfold Yr
 rw [Zfp l (by omega)]
 have : decide (1 ≤ l.length ∧ l.length ≤ 16 ∧ ∀ s ∈ l, s.length ≤ 65536) = true := by simp; exact ⟨h1, h2, h3⟩
 rw [this, Option.bind_some, Bool.not_true, cond_false, Y2 (by omega), show ((l.length : Int) - 1) = ((l.length - 1 : Nat) : Int) by omega, Zgf [] (l.length - 1) (by omega) (by simp), Option.bind_some, List.nil_append]
 have e0 := Yk l (fun i (s : List Int) => (i, s)) (Xa l) (fun s x => (Yw s (x.length : Int)).bind fun y => some (.inl y)) (fun s => s) (fun i s x hi hx => by
  unfold Xa
  simp only
  have : decide ((i : Int) < l.length) = true := by simp; omega
  rw [this, cond_true, Yx hx, Option.bind_some]
  cases Yw s (x.length : Int) with
  | none => rfl
  | some y => simp only [Option.bind_some]; rw [Y2 (by omega)]; rfl) (fun s => by
  unfold Xa
  simp only
  have : decide ((l.length : Int) < l.length) = false := by simp
  rw [this, cond_false]) (Gg (l.length - 1))
 have e1 : Zj (Xa l) (0, Gg (l.length - 1)) = some (X0 l) := by
  refine e0.trans ?_
  rw [Q0 (fun s x => s ++ Gg x.length) (fun s k => s.length = 4 + 4 * k) l.length l _ 0 (by omega) rfl (fun s k x hx hk hI => ?_), Zdf]
  ·rfl
  have := h3 x hx
  rw [Zgf s x.length (by omega) (by omega)]
  exact ⟨rfl, by rw [List.length_append, hI, Q6]; omega⟩
 rw [e1, Option.bind_some]
 have e2 : Zj (Qc l) (X0 l) = some (J6 l) := by
  refine Zhz (fun s => ∃ k, (X0 l).length + k ≤ Zu l.length ∧ s = X0 l ++ List.replicate k 0) (fun s => Zu l.length - s.length) ?_ _ ⟨0, by rw [Kl]; unfold Zu; omega, by simp⟩
  rintro s ⟨k, hk, rfl⟩
  unfold Qc
  rw [Gs l.length (by omega), Option.bind_some]
  have hN : Zu l.length ≤ 1000 := by unfold Zu; omega
  by_cases hlt : (X0 l).length + k < Zu l.length
  ·left
   refine ⟨X0 l ++ List.replicate (k + 1) 0, ?_, ⟨k + 1, by omega, rfl⟩, by simp only [List.length_append, List.length_replicate]; omega⟩
   have : decide (((X0 l ++ List.replicate k (0 : Int)).length : Int) < (Zu l.length : Int)) = true := by simp only [List.length_append, List.length_replicate]; simp; omega
   rw [this, cond_true, Qn (by simp only [List.length_append, List.length_replicate, List.length_cons, List.length_nil]; omega) (by simp only [List.length_append, List.length_replicate, List.length_cons, List.length_nil]; omega), Option.bind_some, List.append_assoc, ← List.replicate_succ']
  right
  have : decide (((X0 l ++ List.replicate k (0 : Int)).length : Int) < (Zu l.length : Int)) = false := by simp only [List.length_append, List.length_replicate]; simp; omega
  rw [this, cond_false]
  unfold J6
  rw [show Zu l.length - (X0 l).length = k by omega]
 rw [e2, Option.bind_some]
 have e3 := Yk l (fun i (s : List Int) => (i, s)) (Xb l) (fun s x => (X9 x).bind fun y => (X4 1 s y).bind fun z => some (.inl z)) (fun s => s) (fun i s x hi hx => by
  unfold Xb
  simp only
  have : decide ((i : Int) < l.length) = true := by simp; omega
  rw [this, cond_true, Yx hx, Option.bind_some]
  cases X9 x with
  | none => rfl
  | some y =>
   simp only [Option.bind_some]
   cases X4 1 s y with
   | none => rfl
   | some z => simp only [Option.bind_some]; rw [Y2 (by omega)]; rfl) (fun s => by
  unfold Xb
  simp only
  have : decide ((l.length : Int) < l.length) = false := by simp
  rw [this, cond_false]) (J6 l)
 have e4 : Zj (Xb l) (0, J6 l) = some (Xe l) := by
  refine e3.trans ?_
  have hN : Zu l.length ≤ 1000 := by unfold Zu; omega
  rw [Q0 (fun s x => s ++ X7 x) (fun s k => s.length ≤ 1000 + 524288 * k) l.length l _ 0 (by omega) (by rw [Vn]; omega) (fun s k x hx hk hI => ?_), Zbh]
  ·rfl
  have := h3 x hx
  rw [Zoo x (hw x hx) (by omega), Option.bind_some, Qn (by rw [X2]; omega) (by rw [X2]; omega)]
  exact ⟨rfl, by rw [List.length_append, X2]; omega⟩
 rw [e4]
 rfl
theorem Zh3 {α : Type} : ∀ (a b : List α), a.length = b.length → ((∀ p ∈ a.zip b, p.1 = p.2) ↔ a = b)
 | [], [], _ => by simp
 | x :: a, y :: b, h => by
  have ih := Zh3 a b (by simpa using h)
  simp only [List.zip_cons_cons, List.mem_cons, forall_eq_or_imp, ih, List.cons.injEq]
 | [], _ :: _, h => by simp at h
 | _ :: _, [], h => by simp at h
theorem Gk {α : Type} (p : α → Bool) : ∀ xs : List α, Qh (fun (_ : Unit) x => if p x = true then some (.inl ()) else some (.inr (.inl ()))) (fun _ => (.inr () : Unit ⊕ Unit)) xs () = some (if ∀ x ∈ xs, p x = true then .inr () else .inl ())
 | [] => by simp [Qh]
 | x :: xs => by
  unfold Qh
  by_cases h : p x = true
  ·rw [if_pos h]
   simp only
   rw [Gk p xs]
   have : (∀ y ∈ x :: xs, p y = true) ↔ ∀ y ∈ xs, p y = true := by simp [h]
   by_cases q : ∀ y ∈ xs, p y = true
   ·rw [if_pos q, if_pos (this.2 q)]
   rw [if_neg q, if_neg (fun z => q (this.1 z))]
  rw [if_neg h]
  rw [if_neg (fun q => h (q x (.head _)))]
theorem Ze6 (a b : List Int) (ha : a.length ≤ 1000000000000000) (hb : b.length ≤ 1000000000000000) : Yy a b = some (decide (a = b)) := by
 unfold Yy
 by_cases hl : a.length = b.length
 ·have : ((a.length : Int) != (b.length : Int)) = false := by simp [hl]
  rw [this, cond_false]
  have hloop := Yk (a.zip b) (fun i (_ : Unit) => i) (Yu a b) (fun _ x => if (x.1 == x.2) = true then some (.inl ()) else some (.inr (.inl ()))) (fun _ => .inr ()) (fun i s x hi hx => by
   have hz := List.getElem?_zip_eq_some.1 hx
   have hi' : i < a.length := by rw [List.length_zip] at hi; omega
   unfold Yu
   have : decide ((i : Int) < a.length) = true := by simp; omega
   rw [this, cond_true, Yx hz.1, Option.bind_some, Yx hz.2, Option.bind_some]
   by_cases h : x.1 = x.2
   ·have e : (x.1 != x.2) = false := by simp [h]
    rw [e, cond_false, if_pos (by simp [h]), Y2 (by omega)]
    rfl
   ·have e : (x.1 != x.2) = true := by simp [h]
    rw [e, cond_true, if_neg (by simp [h])]) (fun s => by
   unfold Yu
   have : decide ((((a.zip b).length : Nat) : Int) < a.length) = false := by rw [List.length_zip]; simp; omega
   rw [this, cond_false]) ()
  rw [hloop, Gk]
  have hq := Zh3 a b hl
  by_cases q : a = b
  ·rw [if_pos (by simpa using hq.2 q)]
   simp [q]
  rw [if_neg (fun z => q (hq.1 (by simpa using z)))]
  simp [q]
 have : ((a.length : Int) != (b.length : Int)) = true := by simp; omega
 rw [this, cond_true]
 congr 1
 symm
 simp only [decide_eq_false_iff_not]
 exact fun q => hl (by rw [q])
theorem K1 : @Yg = @Yy := rfl
theorem Zjh (a b : List (List Int)) (ha : a.length ≤ 1000000000000000) (hb : b.length ≤ 1000000000000000) (ha' : ∀ x ∈ a, x.length ≤ 1000000000000000) (hb' : ∀ x ∈ b, x.length ≤ 1000000000000000) : Yz a b = some (decide (a = b)) := by
 unfold Yz
 by_cases hl : a.length = b.length
 ·have : ((a.length : Int) != (b.length : Int)) = false := by simp [hl]
  rw [this, cond_false]
  have hloop := Yk (a.zip b) (fun i (_ : Unit) => i) (Yv a b) (fun _ x => if (x.1 == x.2) = true then some (.inl ()) else some (.inr (.inl ()))) (fun _ => .inr ()) (fun i s x hi hx => by
   have hz := List.getElem?_zip_eq_some.1 hx
   have hi' : i < a.length := by rw [List.length_zip] at hi; omega
   unfold Yv
   have : decide ((i : Int) < a.length) = true := by simp; omega
   rw [this, cond_true, Yx hz.1, Option.bind_some, Yx hz.2, Option.bind_some, Ze6 _ _ (ha' _ (List.mem_of_getElem? hz.1)) (hb' _ (List.mem_of_getElem? hz.2)), Option.bind_some]
   by_cases h : x.1 = x.2
   ·have e : decide (x.1 = x.2) = true := by simp [h]
    rw [e, Bool.not_true, cond_false, if_pos (by simp [h]), Y2 (by omega)]
    rfl
   ·have e : decide (x.1 = x.2) = false := by simp [h]
    rw [e, Bool.not_false, cond_true, if_neg (by simp [h])]) (fun s => by
   unfold Yv
   have : decide ((((a.zip b).length : Nat) : Int) < a.length) = false := by rw [List.length_zip]; simp; omega
   rw [this, cond_false]) ()
  rw [hloop, Gk]
  have hq := Zh3 a b hl
  by_cases q : a = b
  ·rw [if_pos (by simpa using hq.2 q)]
   simp [q]
  rw [if_neg (fun z => q (hq.1 (by simpa using z)))]
  simp [q]
 have : ((a.length : Int) != (b.length : Int)) = true := by simp; omega
 rw [this, cond_true]
 congr 1
 symm
 simp only [decide_eq_false_iff_not]
 exact fun q => hl (by rw [q])
def Gt (x : Int) : Prop := 0 ≤ x ∧ x < 256
def Zr (b : List Int) (i : Nat) : Nat := (b.getD i 0).toNat
def Xt (b : List Int) (i : Nat) : Nat := Zr b i + Zr b (i + 1) * 256 + Zr b (i + 2) * 65536 + Zr b (i + 3) * 16777216
theorem Xl {b : List Int} (hb : ∀ x ∈ b, Gt x) (i : Nat) : Zr b i < 256 := by
 unfold Zr
 rw [List.getD_eq_getElem?_getD]
 cases h : b[i]? with
 | none => simp
 | some x => have := hb x (List.mem_of_getElem? h); unfold Gt at this; simp only [Option.getD_some]; omega
theorem K8 {b : List Int} (hb : ∀ x ∈ b, Gt x) {i : Nat} (hi : i < b.length) : Xq b (i : Int) = some (Zr b i : Int) := by
 have h : b[i]? = some b[i] := List.getElem?_eq_getElem hi
 rw [Yx h]
 unfold Zr
 rw [List.getD_eq_getElem?_getD, h]
 have := hb b[i] (List.getElem_mem hi)
 unfold Gt at this
 simp only [Option.getD_some, Option.some.injEq]
 omega
theorem Zev (x y k : Nat) (hx : x < 2 ^ k) (hk : k ≤ 40) (hy : y ≤ 65536) : IntKind.i64.wrap (U6 .i64 (x : Int) ((y : Int) * 2 ^ k)) = ((x + y * 2 ^ k : Nat) : Int) := by
 have hp : (2 : Nat) ^ k ≤ 1099511627776 := by have := Nat.pow_le_pow_right (n := 2) (by decide) hk; simpa using this
 have hm : y * 2 ^ k ≤ 65536 * 1099511627776 := Nat.mul_le_mul hy hp
 have e : ((y : Int) * 2 ^ k) = ((y * 2 ^ k : Nat) : Int) := by simp
 have hl := Ziw .i64 x (y * 2 ^ k) (by simp only [IntKind.bits]; omega) (by simp only [IntKind.bits]; omega)
 have ho : x ||| (y * 2 ^ k) = x + y * 2 ^ k := by
  rw [Nat.or_comm, Nat.mul_comm, ← Nat.two_pow_add_eq_or_of_lt hx, Nat.add_comm]
 rw [e, hl, ho, Y2 (by omega)]
theorem Zbx {b : List Int} (hb : ∀ x ∈ b, Gt x) (i : Nat) (hi : i + 3 < b.length) (hbl : b.length ≤ 1000000000000000) : Zw b i = some (Xt b i : Int) := by
 unfold Zw
 have g0 := K8 hb (i := i) (by omega)
 have g1 := K8 hb (i := i + 1) (by omega)
 have g2 := K8 hb (i := i + 2) (by omega)
 have g3 := K8 hb (i := i + 3) (by omega)
 have b0 := Xl hb i
 have b1 := Xl hb (i + 1)
 have b2 := Xl hb (i + 2)
 have b3 := Xl hb (i + 3)
 rw [Y2 (x := (i : Int) + 1) (by omega), Y2 (x := (i : Int) + 2) (by omega), Y2 (x := (i : Int) + 3) (by omega)]
 rw [show (i : Int) + 1 = ((i + 1 : Nat) : Int) from rfl, show (i : Int) + 2 = ((i + 2 : Nat) : Int) from rfl, show (i : Int) + 3 = ((i + 3 : Nat) : Int) from rfl]
 rw [g0, Option.bind_some, g1, Option.bind_some, g2, Option.bind_some, g3, Option.bind_some]
 unfold Xt
 generalize Zr b i = x0 at *
 generalize Zr b (i + 1) = x1 at *
 generalize Zr b (i + 2) = x2 at *
 generalize Zr b (i + 3) = x3 at *
 clear g0 g1 g2 g3
 rw [show min (Int.toNat 8) 64 = 8 from rfl, show min (Int.toNat 16) 64 = 16 from rfl, show min (Int.toNat 24) 64 = 24 from rfl]
 have w0 : IntKind.i64.wrap (x0 : Int) = x0 := Y2 (by omega)
 have w1 : IntKind.i64.wrap (x1 : Int) = x1 := Y2 (by omega)
 have w2 : IntKind.i64.wrap (x2 : Int) = x2 := Y2 (by omega)
 have w3 : IntKind.i64.wrap (x3 : Int) = x3 := Y2 (by omega)
 have v1 : IntKind.i64.wrap ((x1 : Int) * 2 ^ 8) = (x1 : Int) * 2 ^ 8 := Y2 (by omega)
 have v2 : IntKind.i64.wrap ((x2 : Int) * 2 ^ 16) = (x2 : Int) * 2 ^ 16 := Y2 (by omega)
 have v3 : IntKind.i64.wrap ((x3 : Int) * 2 ^ 24) = (x3 : Int) * 2 ^ 24 := Y2 (by omega)
 rw [w0, w1, w2, w3, v1, v2, v3, Zev x0 x1 8 (by omega) (by decide) (by omega), Zev _ x2 16 (by omega) (by decide) (by omega), Zev _ x3 24 (by omega) (by decide) (by omega)]
def Jx (b : List Int) (c : Nat) : List Int := (List.range c).map fun i => (Xt b (4 * (i + 1)) : Int)
def Qk (b : List Int) : List Int × Int :=
 if b.length < 4 then ([], 4)
 else if 16 < Xt b 0 + 1 then ([], 3)
 else if b.length < Zu (Xt b 0 + 1) then ([], 4)
 else if (List.range (Xt b 0 + 1)).any (fun i => decide (65536 < Xt b (4 * (i + 1)))) = true then ([], 3)
 else if ((b.drop (4 * (Xt b 0 + 2))).take (Zu (Xt b 0 + 1) - 4 * (Xt b 0 + 2))).any (fun x => x != 0) = true then ([], 5)
 else (Jx b (Xt b 0 + 1), 0)
theorem Zdy {c i x : Nat} (h : (List.range c)[i]? = some x) : x = i ∧ i < c := by
 rcases Nat.lt_or_ge i c with hi | hi
 ·rw [List.getElem?_range hi] at h; injection h with h; exact ⟨h.symm, hi⟩
 rw [List.getElem?_eq_none (by simpa using hi)] at h; cases h
theorem Zdg {α β : Type} (f : α → β) : ∀ (l : List α) (s : List β), l.foldl (fun s x => s ++ [f x]) s = s ++ l.map f
 | [], s => by simp
 | x :: l, s => by rw [List.foldl_cons, Zdg f l]; simp
theorem Zmu {b : List Int} (hb : ∀ x ∈ b, Gt x) (hbl : b.length ≤ 140737488355328) (m : Nat) (hm : m < 1000) (hlen : 4 * (m + 2) ≤ b.length) :
  Zj (Y4 b m) (0, []) = some (if (List.range (m + 1)).any (fun i => decide (65536 < Xt b (4 * (i + 1)))) = true then .inl () else .inr (Jx b (m + 1))) := by
 have hloop := Yk (List.range (m + 1)) (fun i (s : List Int) => (i, s)) (Y4 b m)
  (fun s i => (Zw b ((4 * (i + 1) : Nat) : Int)).bind fun y => cond (decide (65536 < y)) (some (.inr (.inl ()))) ((X4 8 s [y]).bind fun z => some (.inl z))) (fun s => (.inr s : Unit ⊕ List Int)) (fun i s x hi hx => by
   obtain ⟨rfl, hi⟩ := Zdy hx
   unfold Y4
   simp only
   rw [Y2 (x := (m : Int) + 1) (by omega), Y2 (x := (x : Int) + 1) (by omega), Y2 (x := 4 * ((x : Int) + 1)) (by omega)]
   have : decide ((x : Int) < (m : Int) + 1) = true := by simp; omega
   rw [this, cond_true, show 4 * ((x : Int) + 1) = ((4 * (x + 1) : Nat) : Int) from by omega]
   cases Zw b ((4 * (x + 1) : Nat) : Int) with
   | none => rfl
   | some y =>
    simp only [Option.bind_some]
    cases decide (65536 < y) with
    | true => simp only [cond_true]
    | false =>
     simp only [cond_false]
     cases X4 8 s [y] with
     | none => rfl
     | some z => simp only [Option.bind_some]; rfl) (fun s => by
   unfold Y4
   simp only
   rw [Y2 (x := (m : Int) + 1) (by omega), List.length_range]
   have : decide (((m + 1 : Nat) : Int) < (m : Int) + 1) = false := by simp
   rw [this, cond_false]) []
 rw [hloop, Jo (fun i => decide (65536 < Xt b (4 * (i + 1)))) (fun s i => s ++ [(Xt b (4 * (i + 1)) : Int)]) (.inl ()) (fun s k => s.length = k) (m + 1) (List.range (m + 1)) [] 0 (by rw [List.length_range]; omega) rfl (fun s k x hx hk hI => ?_)]
 ·rw [Zdg, List.nil_append]
  unfold Jx
  congr 1
 have hx' := List.mem_range.1 hx
 rw [Zbx hb (4 * (x + 1)) (by omega) (by omega), Option.bind_some]
 by_cases hq : 65536 < Xt b (4 * (x + 1))
 ·have e : decide (65536 < (Xt b (4 * (x + 1)) : Int)) = true := by rw [decide_eq_true_eq]; omega
  have e2 : decide (65536 < Xt b (4 * (x + 1))) = true := by rw [decide_eq_true_eq]; omega
  rw [e, e2, cond_true, if_pos rfl]
  exact ⟨rfl, fun h => Bool.noConfusion h⟩
 have e : decide (65536 < (Xt b (4 * (x + 1)) : Int)) = false := by rw [decide_eq_false_iff_not]; omega
 have e2 : decide (65536 < Xt b (4 * (x + 1))) = false := by rw [decide_eq_false_iff_not]; omega
 rw [e, e2, cond_false, if_neg Bool.false_ne_true, Qn (by simp only [List.length_cons, List.length_nil]; omega) (by simp only [List.length_cons, List.length_nil]; omega)]
 exact ⟨rfl, fun _ => by rw [List.length_append, hI]; rfl⟩
theorem Zmv (pad : List Int) (hpl : pad.length ≤ 1000) : Zj (Y5 pad) 0 = some (if pad.any (fun x => x != 0) = true then .inl () else .inr ()) := by
 have hl2 := Yk pad (fun i (_ : Unit) => i) (Y5 pad) (fun _ x => if (x != 0) = true then some (.inr (.inl ())) else some (.inl ())) (fun _ => (.inr () : Unit ⊕ Unit)) (fun i s x hi hx => by
  unfold Y5
  have : decide ((i : Int) < pad.length) = true := by simp; omega
  rw [this, cond_true, Yx hx, Option.bind_some]
  cases x != 0 with
  | true => rfl
  | false => rw [cond_false, Y2 (by omega)]; rfl) (fun s => by
  unfold Y5
  have : decide ((pad.length : Int) < pad.length) = false := by simp
  rw [this, cond_false]) ()
 exact hl2.trans (Jo (R := Unit ⊕ Unit) (fun x => x != 0) (fun s _ => s) (Sum.inl ()) (fun _ _ => True) pad.length pad () 0 (by omega) trivial (fun s k x _ _ _ => ⟨rfl, fun _ => trivial⟩))
theorem Zm1 {b : List Int} (hb : ∀ x ∈ b, Gt x) (i : Nat) : Xt b i < 4294967296 := by
 have b0 := Xl hb i; have b1 := Xl hb (i + 1); have b2 := Xl hb (i + 2); have b3 := Xl hb (i + 3)
 unfold Xt; omega
theorem Zky {b : List Int} (hb : ∀ x ∈ b, Gt x) (hbl : b.length ≤ 140737488355328) (m : Nat) (h1 : ¬ 16 < m + 1) (h2 : ¬ b.length < Zu (m + 1)) :
  ((Zj (Y4 b m) (0, [])).bind fun (z10 : (Unit ⊕ (List Int))) => match z10 with | .inl z10 => some (([] : (List Int)), (3 : Int)) | .inr z10 => (Jd b (IntKind.i64.wrap (4 * (IntKind.i64.wrap (((m + 1 : Nat) : Int) + 1)))) (Zu (m + 1) : Int)).bind fun l14 => (Zj (Y5 l14) 0).bind fun (z19 : (Unit ⊕ Unit)) => match z19 with | .inl z19 => some (([] : (List Int)), 5) | .inr z19 => some (z10, 0)) =
  some (if (List.range (m + 1)).any (fun i => decide (65536 < Xt b (4 * (i + 1)))) = true then ([], 3) else if ((b.drop (4 * (m + 2))).take (Zu (m + 1) - 4 * (m + 2))).any (fun x => x != 0) = true then ([], 5) else (Jx b (m + 1), 0)) := by
 have hh : 4 * (m + 2) ≤ Zu (m + 1) := by unfold Zu; omega
 have hh2 : Zu (m + 1) ≤ 1000 := by unfold Zu; omega
 rw [Zmu hb hbl m (by omega) (by omega), Option.bind_some]
 cases hany : (List.range (m + 1)).any (fun i => decide (65536 < Xt b (4 * (i + 1)))) with
 | true => simp only [if_true]
 | false =>
  simp only [Bool.false_eq_true, if_false, Option.bind_some]
  rw [Y2 (x := ((m + 1 : Nat) : Int) + 1) (by omega), Y2 (x := 4 * (((m + 1 : Nat) : Int) + 1)) (by omega), Gc (by omega) (by omega) (by omega), Option.bind_some]
  rw [show (4 * (((m + 1 : Nat) : Int) + 1)).toNat = 4 * (m + 2) by omega, show ((Zu (m + 1) : Int) - 4 * (((m + 1 : Nat) : Int) + 1)).toNat = Zu (m + 1) - 4 * (m + 2) by omega]
  have hpl : ((b.drop (4 * (m + 2))).take (Zu (m + 1) - 4 * (m + 2))).length ≤ 1000 := by
   rw [List.length_take]; omega
  generalize (b.drop (4 * (m + 2))).take (Zu (m + 1) - 4 * (m + 2)) = pad at *
  rw [Zmv pad hpl, Option.bind_some]
  cases pad.any (fun x => x != 0) with
  | true => simp only [if_true]
  | false => simp only [Bool.false_eq_true, if_false]
theorem Zhs {b : List Int} (hb : ∀ x ∈ b, Gt x) (h0 : ¬ b.length < 4) (hbl : b.length ≤ 140737488355328) : Zw b 0 = some (Xt b 0 : Int) := Zbx hb 0 (by omega) (by omega)
theorem Zoq {b : List Int} (hb : ∀ x ∈ b, Gt x) (hbl : b.length ≤ 140737488355328) : Qx b = some (Qk b) := by
 unfold Qx Qk
 by_cases h0 : b.length < 4
 ·have : decide ((b.length : Int) < 4) = true := by rw [decide_eq_true_eq]; omega
  rw [this, cond_true, if_pos h0]
 have c0 : decide ((b.length : Int) < 4) = false := by rw [decide_eq_false_iff_not]; omega
 rw [c0, cond_false, if_neg h0]
 have n0 : Zw b 0 = some (Xt b 0 : Int) := Zhs hb h0 hbl
 have hn0 := Zm1 hb 0
 rw [n0, Option.bind_some]
 clear n0
 obtain ⟨m, hm⟩ : ∃ m, Xt b 0 = m := ⟨_, rfl⟩
 rw [hm] at hn0 ⊢
 rw [Y2 (x := (m : Int) + 1) (by omega), show (m : Int) + 1 = ((m + 1 : Nat) : Int) from rfl]
 by_cases h1 : 16 < m + 1
 ·have : decide (16 < ((m + 1 : Nat) : Int)) = true := by rw [decide_eq_true_eq]; omega
  rw [this, cond_true, if_pos h1]
 have c1 : decide (16 < ((m + 1 : Nat) : Int)) = false := by rw [decide_eq_false_iff_not]; omega
 rw [c1, cond_false, if_neg h1, Gs (m + 1) (by omega), Option.bind_some]
 by_cases h2 : b.length < Zu (m + 1)
 ·have : decide ((b.length : Int) < (Zu (m + 1) : Int)) = true := by rw [decide_eq_true_eq]; omega
  rw [this, cond_true, if_pos h2]
 have c2 : decide ((b.length : Int) < (Zu (m + 1) : Int)) = false := by rw [decide_eq_false_iff_not]; omega
 rw [c2, cond_false, if_neg h2]
 exact Zky hb hbl m h1 h2
def Va (b : List Int) (k : Nat) : Nat := Zr b k + Zr b (k + 1) * 256 + Zr b (k + 2) * 65536 + Zr b (k + 3) * 16777216 + Zr b (k + 4) * 4294967296 + Zr b (k + 5) * 1099511627776 + Zr b (k + 6) * 281474976710656 + Zr b (k + 7) * 72057594037927936
theorem Zk0 (x y k : Nat) (hx : x < 2 ^ k) (hy : y < 256) (hk : k ≤ 56) : IntKind.u64.wrap (U6 .u64 (x : Int) (IntKind.u64.wrap (IntKind.u64.wrap (y : Int) * 2 ^ k))) = ((x + y * 2 ^ k : Nat) : Int) := by
 have hp : (2 : Nat) ^ k ≤ 72057594037927936 := by have := Nat.pow_le_pow_right (n := 2) (by decide) hk; simpa using this
 have hm : y * 2 ^ k ≤ 255 * 72057594037927936 := Nat.mul_le_mul (by omega) hp
 have e : ((y : Int) * 2 ^ k) = ((y * 2 ^ k : Nat) : Int) := by simp
 rw [Zm9 (x := (y : Int)) (by omega), e, Zm9 (x := ((y * 2 ^ k : Nat) : Int)) (by omega)]
 have ho : x ||| (y * 2 ^ k) = x + y * 2 ^ k := by
  rw [Nat.or_comm, Nat.mul_comm, ← Nat.two_pow_add_eq_or_of_lt hx, Nat.add_comm]
 rw [Zo6 x (y * 2 ^ k) (by omega) (by omega), ho, Zm9 (by omega)]
theorem J8 (a : Arr Int 8) (ha : ∀ x ∈ a.1, Gt x) (w i : Nat) (hi : i < 8) (hw : w < 2 ^ (8 * i)) : Qd a ((w : Int), (i : Int)) = some (.inl (((w + Zr a.1 i * 2 ^ (8 * i) : Nat) : Int), ((i + 1 : Nat) : Int))) := by
 unfold Qd
 simp only
 have e : decide ((i : Int) < 8) = true := by rw [decide_eq_true_eq]; omega
 have hb := Xl ha i
 rw [e, cond_true, K8 ha (by rw [a.2]; exact hi), Option.bind_some, Y2 (x := 8 * (i : Int)) (by omega), Zdl (by omega), Option.bind_some, show min (Int.toNat (8 * (i : Int))) 64 = 8 * i by omega, Zk0 w _ (8 * i) hw hb (by omega), Y2 (by omega)]
 rfl
theorem Zps (a : Arr Int 8) (ha : ∀ x ∈ a.1, Gt x) : Kk a = some (Va a.1 0 : Int) := by
 unfold Kk
 have b0 := Xl ha 0
 have b1 := Xl ha 1
 have b2 := Xl ha 2
 have b3 := Xl ha 3
 have b4 := Xl ha 4
 have b5 := Xl ha 5
 have b6 := Xl ha 6
 have b7 := Xl ha 7
 have s0 := Zi (J8 a ha 0 0 (by decide) (by decide))
 have s1 := Zi (J8 a ha (0 + Zr a.1 0 * 2 ^ (8 * 0)) 1 (by decide) (by omega))
 have s2 := Zi (J8 a ha (0 + Zr a.1 0 * 2 ^ (8 * 0) + Zr a.1 1 * 2 ^ (8 * 1)) 2 (by decide) (by omega))
 have s3 := Zi (J8 a ha (0 + Zr a.1 0 * 2 ^ (8 * 0) + Zr a.1 1 * 2 ^ (8 * 1) + Zr a.1 2 * 2 ^ (8 * 2)) 3 (by decide) (by omega))
 have s4 := Zi (J8 a ha (0 + Zr a.1 0 * 2 ^ (8 * 0) + Zr a.1 1 * 2 ^ (8 * 1) + Zr a.1 2 * 2 ^ (8 * 2) + Zr a.1 3 * 2 ^ (8 * 3)) 4 (by decide) (by omega))
 have s5 := Zi (J8 a ha (0 + Zr a.1 0 * 2 ^ (8 * 0) + Zr a.1 1 * 2 ^ (8 * 1) + Zr a.1 2 * 2 ^ (8 * 2) + Zr a.1 3 * 2 ^ (8 * 3) + Zr a.1 4 * 2 ^ (8 * 4)) 5 (by decide) (by omega))
 have s6 := Zi (J8 a ha (0 + Zr a.1 0 * 2 ^ (8 * 0) + Zr a.1 1 * 2 ^ (8 * 1) + Zr a.1 2 * 2 ^ (8 * 2) + Zr a.1 3 * 2 ^ (8 * 3) + Zr a.1 4 * 2 ^ (8 * 4) + Zr a.1 5 * 2 ^ (8 * 5)) 6 (by decide) (by omega))
 have s7 := Zi (J8 a ha (0 + Zr a.1 0 * 2 ^ (8 * 0) + Zr a.1 1 * 2 ^ (8 * 1) + Zr a.1 2 * 2 ^ (8 * 2) + Zr a.1 3 * 2 ^ (8 * 3) + Zr a.1 4 * 2 ^ (8 * 4) + Zr a.1 5 * 2 ^ (8 * 5) + Zr a.1 6 * 2 ^ (8 * 6)) 7 (by decide) (by omega))
 have s8 : ∀ x, Zj (Qd a) (x, ((8 : Nat) : Int)) = some x := fun x => Y8 (by unfold Qd; rfl)
 have := s0.trans (s1.trans (s2.trans (s3.trans (s4.trans (s5.trans (s6.trans (s7.trans (s8 _))))))))
 rw [show ((0 : Nat) : Int) = 0 from rfl] at this
 rw [this, Option.bind_some]
 unfold Va
 simp only [Nat.zero_add]
 congr 2
 omega
theorem Zgu {α : Type} (f : Nat → α) (k : Nat) : ∀ (j : Nat) (s : List α), j ≤ k → s.length = k → (List.range j).foldl (fun s i => s.set i (f i)) s = (List.range j).map f ++ s.drop j
 | 0, s, _, _ => by simp
 | j + 1, s, hj, hs => by
  have ih := Zgu f k j s (by omega) hs
  rw [List.range_succ, List.foldl_append, ih, List.map_append, List.foldl_cons, List.foldl_nil]
  have hl : ((List.range j).map f).length = j := by simp
  rw [List.set_append_right _ _ (by omega), hl, Nat.sub_self]
  have hd : s.drop j = s[j]'(by omega) :: s.drop (j + 1) := List.drop_eq_getElem_cons (by omega)
  rw [hd, List.set_cons_zero, List.append_assoc]
  rfl
def Zac (b : List Int) : List Int := (List.range (b.length / 8)).map fun i => (Va b (8 * i) : Int)
theorem Zhg (b : List Int) (k j : Nat) : Zr (b.drop k) j = Zr b (k + j) := by
 unfold Zr
 rw [List.getD_eq_getElem?_getD, List.getD_eq_getElem?_getD, List.getElem?_drop]
theorem Zhh (b : List Int) (k j : Nat) (h : j < k) : Zr (b.take k) j = Zr b j := by
 unfold Zr
 rw [List.getD_eq_getElem?_getD, List.getD_eq_getElem?_getD, List.getElem?_take, if_pos h]
theorem Zhc (b l2 : List Int) (hb : ∀ x ∈ b, Gt x) (hbl : b.length ≤ 1000000000000) (hk : l2.length = b.length / 8) (s : List Int) (hs : s.length = l2.length) (i : Nat) (hi : i < l2.length) :
  Xi b l2 ((i : Int), s) = some (.inl (((i + 1 : Nat) : Int), s.set i (Va b (8 * i) : Int))) := by
 unfold Xi
 simp only
 have e : decide ((i : Int) < l2.length) = true := by rw [decide_eq_true_eq]; omega
 rw [e, cond_true, Option.bind_some, Y2 (x := 8 * (i : Int)) (by omega), Gc (by omega) (by omega) (by omega), Option.bind_some]
 have hd : ((b.drop (8 * (i : Int)).toNat).take ((b.length : Int) - 8 * (i : Int)).toNat) = b.drop (8 * i) := by
  rw [show (8 * (i : Int)).toNat = 8 * i by omega, List.take_of_length_le (by rw [List.length_drop]; omega)]
 rw [hd]
 have h8 : 8 * i + 8 ≤ b.length := by omega
 have hc : (Arr.cpy (⟨[0, 0, 0, 0, 0, 0, 0, 0], rfl⟩ : Arr Int 8) (b.drop (8 * i))).1 = (b.drop (8 * i)).take 8 := by
  unfold Arr.cpy
  have : ((b.drop (8 * i)).take 8).length = 8 := by rw [List.length_take, List.length_drop]; omega
  simp only [this]
  simp
 have hq : ∀ j, j < 8 → Zr ((b.drop (8 * i)).take 8) j = Zr b (8 * i + j) := fun j hj => by rw [Zhh _ _ _ hj, Zhg]
 rw [Zps _ (by rw [hc]; exact fun x hx => hb x (List.mem_of_mem_drop (List.mem_of_mem_take hx))), Option.bind_some, hc]
 have hn : Va ((b.drop (8 * i)).take 8) 0 = Va b (8 * i) := by
  unfold Va
  simp only [Nat.zero_add]
  rw [hq 0 (by decide), hq 1 (by decide), hq 2 (by decide), hq 3 (by decide), hq 4 (by decide), hq 5 (by decide), hq 6 (by decide), hq 7 (by decide)]
  rfl
 rw [hn, Yx (List.getElem?_eq_getElem (by omega)), Option.bind_some, Y2 (by omega)]
 rfl
theorem Znb (b : List Int) (hb : ∀ x ∈ b, Gt x) (hbl : b.length ≤ 100000000000) : Xm b = some (if b.length % 8 = 0 then (Zac b, true) else ([], false)) := by
 unfold Xm
 rw [Int.tmod_eq_emod_of_nonneg (by omega)]
 by_cases h : b.length % 8 = 0
 ·have e : ((b.length : Int) % 8 != 0) = false := by simp; omega
  rw [e, cond_false, if_pos h, Int.tdiv_eq_ediv_of_nonneg (by omega), Y2 (x := (b.length : Int) / 8) (by omega), Zgd (by omega) (by omega) (by omega), Option.bind_some]
  have hk : ((b.length : Int) / 8).toNat = b.length / 8 := by omega
  rw [hk]
  obtain ⟨l2, hl⟩ : ∃ l2, List.replicate (b.length / 8) (0 : Int) = l2 := ⟨_, rfl⟩
  have hl2 : l2.length = b.length / 8 := by rw [← hl, List.length_replicate]
  rw [hl]
  have hloop := Yk (List.range (b.length / 8)) (fun i (s : {s : List Int // s.length = l2.length}) => (i, s.1)) (Xi b l2) (fun s i => some (.inl ⟨s.1.set i (Va b (8 * i) : Int), by rw [List.length_set]; exact s.2⟩)) (fun s => s.1) (fun i s x hi hx => by
   obtain ⟨rfl, hi⟩ := Zdy hx
   exact Zhc b l2 hb (by omega) hl2 s.1 s.2 x (by omega)) (fun s => by
   unfold Xi
   simp only
   have : decide (((List.range (b.length / 8)).length : Int) < l2.length) = false := by rw [decide_eq_false_iff_not, List.length_range]; omega
   rw [this, cond_false]) ⟨l2, rfl⟩
  have hf : ∀ (xs : List Nat) (s : {s : List Int // s.length = l2.length}), Qh (fun s i => some (.inl ⟨s.1.set i (Va b (8 * i) : Int), by rw [List.length_set]; exact s.2⟩)) (fun s => s.1) xs s = some (xs.foldl (fun s i => s.set i (Va b (8 * i) : Int)) s.1) := fun xs => by
   induction xs with
   | nil => intro s; rfl
   | cons x xs ih => intro s; unfold Qh; exact ih _
  have := hloop.trans (hf _ _)
  simp only at this
  rw [this, Option.bind_some, Zgu (fun i => (Va b (8 * i) : Int)) (b.length / 8) (b.length / 8) l2 (Nat.le_refl _) hl2, List.drop_of_length_le (by omega), List.append_nil]
  rfl
 have e : ((b.length : Int) % 8 != 0) = true := by simp; omega
 rw [e, cond_true, if_neg h]
def isN (x : Int) : Prop := 0 ≤ x ∧ x ≤ 65536
def Jg : List Int → Nat
 | [] => 0
 | x :: l => x.toNat + Jg l
def Zef : List Int → List Int → List (List Int)
 | [], _ => []
 | n :: l, r => Zac (r.take (8 * n.toNat)) :: Zef l (r.drop (8 * n.toNat))
theorem Zg3 : ∀ (l : List Int), (∀ x ∈ l, isN x) → ∀ s : Int, l.foldl (fun s x => s + x) s = s + Jg l
 | [], _, s => by simp [Jg]
 | x :: l, h, s => by
  have hx := h x (.head _)
  unfold isN at hx
  rw [List.foldl_cons, Zg3 l (fun y hy => h y (.tail _ hy))]
  simp only [Jg]
  omega
theorem Za7 : ∀ (l : List Int), (∀ x ∈ l, isN x) → Jg l ≤ 65536 * l.length
 | [], _ => by simp [Jg]
 | x :: l, h => by
  have hx := h x (.head _)
  unfold isN at hx
  have := Za7 l (fun y hy => h y (.tail _ hy))
  simp only [Jg, List.length_cons]
  omega
theorem Zov (y : List Int × Int) (hy : ∀ x ∈ y.1, isN x) (hl : y.1.length ≤ 1000) : Zj (Yn y) (0, 0) = some (Jg y.1 : Int) := by
 have hloop := Yk y.1 (fun i (s : Int) => (s, i)) (Yn y) (fun s x => some (.inl (IntKind.i64.wrap (s + x)))) (fun s => s) (fun i s x hi hx => by
  unfold Yn
  simp only
  have : decide ((i : Int) < y.1.length) = true := by rw [decide_eq_true_eq]; omega
  rw [this, cond_true, Yx hx, Option.bind_some, Y2 (x := (i : Int) + 1) (by omega)]
  rfl) (fun s => by
  unfold Yn
  simp only
  have : decide ((y.1.length : Int) < y.1.length) = false := by rw [decide_eq_false_iff_not]; omega
  rw [this, cond_false]) 0
 refine hloop.trans ?_
 rw [Q0 (fun (s : Int) (x : Int) => s + x) (fun (s : Int) k => 0 ≤ s ∧ s ≤ 65536 * (k : Int)) y.1.length y.1 0 0 (by omega) (by omega) (fun s k x hx hk hI => ?_), Zg3 y.1 hy, Int.zero_add]
 have := hy x hx
 unfold isN at this
 rw [Y2 (by omega)]
 exact ⟨rfl, by omega⟩
theorem Zow (y : List Int × Int) (hy : ∀ x ∈ y.1, isN x) (hl : y.1.length ≤ 1000) (r : List Int) (hr : ∀ x ∈ r, Gt x) (hrl : r.length = 8 * Jg y.1) :
  Zj (Yo y) (r, 0, []) = some (Zef y.1 r) := by
 have hloop := Yk y.1 (fun i (s : List Int × List (List Int)) => (s.1, i, s.2)) (Yo y) (fun s x => (Jd s.1 0 (IntKind.i64.wrap (8 * x))).bind fun l15 => (Xm l15).bind fun y16 => (X4 24 s.2 ([y16.1] : List (List Int))).bind fun l18 => (Jd s.1 (IntKind.i64.wrap (8 * x)) (s.1.length : Int)).bind fun l19 => some (.inl (l19, l18))) (fun s => s.2) (fun i s x hi hx => by
  unfold Yo
  simp only
  have : decide ((i : Int) < y.1.length) = true := by rw [decide_eq_true_eq]; omega
  rw [this, cond_true, Yx hx, Option.bind_some, Y2 (x := (i : Int) + 1) (by omega)]
  cases Jd s.1 0 (IntKind.i64.wrap (8 * x)) with
  | none => rfl
  | some l15 =>
   simp only [Option.bind_some]
   cases Xm l15 with
   | none => rfl
   | some y16 =>
    simp only [Option.bind_some]
    cases X4 24 s.2 ([y16.1] : List (List Int)) with
    | none => rfl
    | some l18 =>
     simp only [Option.bind_some]
     cases Jd s.1 (IntKind.i64.wrap (8 * x)) (s.1.length : Int) with
     | none => rfl
     | some l19 => rfl) (fun s => by
  unfold Yo
  simp only
  have : decide ((y.1.length : Int) < y.1.length) = false := by rw [decide_eq_false_iff_not]; omega
  rw [this, cond_false]) (r, [])
 refine hloop.trans ?_
 have key : ∀ (l : List Int) (r : List Int) (out : List (List Int)), (∀ x ∈ l, isN x) → (∀ x ∈ r, Gt x) → r.length = 8 * Jg l → out.length + l.length ≤ 1000 → Jg l ≤ 100000000 →
   Qh (fun (s : List Int × List (List Int)) x => (Jd s.1 0 (IntKind.i64.wrap (8 * x))).bind fun l15 => (Xm l15).bind fun y16 => (X4 24 s.2 ([y16.1] : List (List Int))).bind fun l18 => (Jd s.1 (IntKind.i64.wrap (8 * x)) (s.1.length : Int)).bind fun l19 => some (.inl (l19, l18))) (fun s => s.2) l (r, out) = some (out ++ Zef l r) := fun l => by
  induction l with
  | nil => intro r out _ _ _ _ _; simp [Qh, Zef]
  | cons x l ih =>
   intro r out hx hr hrl ho hs
   have h0 := hx x (.head _)
   unfold isN at h0
   simp only [Jg] at hrl hs
   rw [List.length_cons] at ho
   unfold Qh
   simp only
   rw [Y2 (x := 8 * x) (by omega), Gc (by omega) (by omega) (by omega), Option.bind_some]
   have e1 : ((r.drop (Int.toNat 0)).take ((8 * x) - 0).toNat) = r.take (8 * x.toNat) := by
    rw [show ((8 * x) - 0).toNat = 8 * x.toNat by omega]; rfl
   have e2 : ((r.drop (8 * x).toNat).take ((r.length : Int) - 8 * x).toNat) = r.drop (8 * x.toNat) := by
    rw [show (8 * x).toNat = 8 * x.toNat by omega, List.take_of_length_le (by rw [List.length_drop]; omega)]
   have e3 : (r.take (8 * x.toNat)).length = 8 * x.toNat := by rw [List.length_take]; omega
   rw [e1, Znb _ (fun z hz => hr z (List.mem_of_mem_take hz)) (by omega), if_pos (by omega), Option.bind_some, Qn (by simp only [List.length_cons, List.length_nil]; omega) (by simp only [List.length_cons, List.length_nil]; omega), Option.bind_some, Gc (by omega) (by omega) (by omega), Option.bind_some, e2]
   have := ih (r.drop (8 * x.toNat)) (out ++ [Zac (r.take (8 * x.toNat))]) (fun z hz => hx z (.tail _ hz)) (fun z hz => hr z (List.mem_of_mem_drop hz)) (by rw [List.length_drop]; omega) (by rw [List.length_append]; simp only [List.length_cons, List.length_nil]; omega) (by omega)
   simp only
   rw [this]
   simp [Zef]
 have hsum := Za7 y.1 hy
 have := key y.1 r [] hy hr hrl (by simp only [List.length_nil]; omega) (by omega)
 rw [List.nil_append] at this
 exact this
def Gd (b : List Int) : List (List Int) × Int :=
 if (Qk b).2 ≠ 0 then ([], (Qk b).2)
 else if (b.drop (Zu (Qk b).1.length)).length < 8 * Jg (Qk b).1 then ([], 4)
 else if 8 * Jg (Qk b).1 < (b.drop (Zu (Qk b).1.length)).length then ([], 6)
 else (Zef (Qk b).1 (b.drop (Zu (Qk b).1.length)), 0)
theorem Zlg {b : List Int} (h : (Qk b).2 = 0) : (∀ x ∈ (Qk b).1, isN x) ∧ (Qk b).1.length ≤ 16 ∧ Zu (Qk b).1.length ≤ b.length ∧ (Qk b).1 = Jx b (Xt b 0 + 1) := by
 unfold Qk at h ⊢
 split
 ·rename_i h1; rw [if_pos h1] at h; cases h
 rename_i h1
 rw [if_neg h1] at h
 split
 ·rename_i h2; rw [if_pos h2] at h; cases h
 rename_i h2
 rw [if_neg h2] at h
 split
 ·rename_i h3; rw [if_pos h3] at h; cases h
 rename_i h3
 rw [if_neg h3] at h
 split
 ·rename_i h4; rw [if_pos h4] at h; cases h
 rename_i h4
 rw [if_neg h4] at h
 split
 ·rename_i h5; rw [if_pos h5] at h; cases h
 have hl : (Jx b (Xt b 0 + 1)).length = Xt b 0 + 1 := by unfold Jx; rw [List.length_map, List.length_range]
 refine ⟨fun x hx => ?_, by simp only [hl]; omega, by simp only [hl]; omega, rfl⟩
 simp only at hx
 unfold Jx at hx
 obtain ⟨i, hi, rfl⟩ := List.mem_map.1 hx
 have : ¬ 65536 < Xt b (4 * (i + 1)) := fun q => h4 (List.any_eq_true.2 ⟨i, hi, by rw [decide_eq_true_eq]; exact q⟩)
 unfold isN
 omega
theorem Zea {b : List Int} (hb : ∀ x ∈ b, Gt x) (hbl : b.length ≤ 140737488355328) : Y3 b = some (Gd b) := by
 unfold Y3 Gd
 rw [Zoq hb (by omega), Option.bind_some]
 by_cases h : (Qk b).2 = 0
 ·obtain ⟨hN, hl, hh, _⟩ := Zlg h
  obtain ⟨y, hy⟩ : ∃ y, Qk b = y := ⟨_, rfl⟩
  rw [hy] at h hN hl hh ⊢
  have e : (y.2 != 0) = false := by simp [h]
  have hsum := Za7 y.1 hN
  rw [e, cond_false, if_neg (by simp [h]), Gs y.1.length (by omega), Option.bind_some, Gc (by omega) (by omega) (by omega), Option.bind_some]
  have e2 : ((b.drop (Int.toNat (Zu y.1.length : Int))).take ((b.length : Int) - (Zu y.1.length : Int)).toNat) = b.drop (Zu y.1.length) := by
   rw [Int.toNat_natCast, List.take_of_length_le (by rw [List.length_drop]; omega)]
  rw [e2, Zov y hN (by omega), Option.bind_some, Y2 (x := 8 * (Jg y.1 : Int)) (by omega)]
  have hr : ∀ x ∈ b.drop (Zu y.1.length), Gt x := fun x hx => hb x (List.mem_of_mem_drop hx)
  obtain ⟨r, hre⟩ : ∃ r, b.drop (Zu y.1.length) = r := ⟨_, rfl⟩
  rw [hre] at hr ⊢
  by_cases h1 : r.length < 8 * Jg y.1
  ·have c : decide ((r.length : Int) < 8 * (Jg y.1 : Int)) = true := by rw [decide_eq_true_eq]; omega
   rw [c, cond_true, if_pos h1]
  have c1 : decide ((r.length : Int) < 8 * (Jg y.1 : Int)) = false := by rw [decide_eq_false_iff_not]; omega
  rw [c1, cond_false, if_neg h1]
  by_cases h2 : 8 * Jg y.1 < r.length
  ·have c : decide (8 * (Jg y.1 : Int) < (r.length : Int)) = true := by rw [decide_eq_true_eq]; omega
   rw [c, cond_true, if_pos h2]
  have c2 : decide (8 * (Jg y.1 : Int) < (r.length : Int)) = false := by rw [decide_eq_false_iff_not]; omega
  rw [c2, cond_false, if_neg h2, Zow y hN (by omega) r hr (by omega), Option.bind_some]
 have e : ((Qk b).2 != 0) = true := by simp [h]
 rw [e, cond_true, if_pos h]
theorem Zh6 : Ym = some true := by
 unfold Ym
 have hf : Yr ([([7] : List Int)] : List (List Int)) = some ([0, 0, 0, 0, 1, 0, 0, 0, 7, 0, 0, 0, 0, 0, 0, 0], true) :=
  (Zh8 [[7]] ⟨by decide, by decide, by simp⟩ (by simp [isW])).trans (by decide)
 have hu : Y3 [0, 0, 0, 0, 1, 0, 0, 0, 7, 0, 0, 0, 0, 0, 0, 0] = some ([[7]], 0) :=
  (Zea (b := [0, 0, 0, 0, 1, 0, 0, 0, 7, 0, 0, 0, 0, 0, 0, 0]) (by simp [Gt]) (by decide)).trans (by decide)
 rw [hf, Option.bind_some]
 simp only
 rw [hu, Option.bind_some]
 simp only
 rw [cond_true, K1, Ze6 _ _ (by decide) (by decide), Option.bind_some, decide_eq_true rfl, cond_true]
 rw [show ((0 : Int) == 0) = true from rfl, cond_true, Zjh _ _ (by decide) (by decide) (by simp) (by simp), Option.bind_some, decide_eq_true rfl]
 rfl
end Go.Proofs.Ytgijkjifiekkmaa
