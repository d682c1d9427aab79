/- Plain facts on this seat's mirrors (part RP1); each theorem bears its own conditions. -/
import Derived.Test.YtgijkjifiekkmaaRM2
import Derived.IntWalk
namespace Go.Proofs.Ytgijkjifiekkmaa
open Go.RowKit
set_option linter.unusedVariables false
set_option linter.unusedSimpArgs false
def le4 (n : Nat) : List Int := [((n % 256 : Nat) : Int), ((n / 256 % 256 : Nat) : Int), ((n / 65536 % 256 : Nat) : Int), ((n / 16777216 % 256 : Nat) : Int)]
def le8 (w : Nat) : List Int := [((w % 256 : Nat) : Int), ((w / 256 % 256 : Nat) : Int), ((w / 65536 % 256 : Nat) : Int), ((w / 16777216 % 256 : Nat) : Int), ((w / 4294967296 % 256 : Nat) : Int), ((w / 1099511627776 % 256 : Nat) : Int), ((w / 281474976710656 % 256 : Nat) : Int), ((w / 72057594037927936 % 256 : Nat) : Int)]
theorem Zgc (xs : List Int) (n : Nat) (hn : n < 4294967296) (hx : xs.length ≤ 100000000) : Yy xs n = some (xs ++ le4 n) := by
 unfold Yy
 have e1 : (2 : Int) ^ min (Int.toNat 8) 64 = 256 := by decide
 have e2 : (2 : Int) ^ min (Int.toNat 16) 64 = 65536 := by decide
 have e3 : (2 : Int) ^ min (Int.toNat 24) 64 = 16777216 := by decide
 rw [e1, e2, e3, J4 (by simp only [List.length_cons, List.length_nil]; omega) (by simp only [List.length_cons, List.length_nil]; omega)]
 simp only [Option.bind_some, le4, IntKind.wrap_u8, Int.fdiv_eq_ediv_of_nonneg _ (show (0 : Int) ≤ 256 by decide), Int.fdiv_eq_ediv_of_nonneg _ (show (0 : Int) ≤ 65536 by decide), Int.fdiv_eq_ediv_of_nonneg _ (show (0 : Int) ≤ 16777216 by decide)]
 simp only [Option.some.injEq, List.append_cancel_left_eq, List.cons.injEq, and_true]
 omega
def Z3 (k : Nat) : Nat := (4 * (k + 1) + 7) / 8 * 8
theorem Gg (k : Nat) (hk : k ≤ 1000000) : Yo k = some (Z3 k : Int) := by
 unfold Yo Z3
 rw [Xc (x := (k : Int) + 1) (by omega), Xc (x := 4 * ((k : Int) + 1)) (by omega), Xc (x := 4 * ((k : Int) + 1) + 7) (by omega), Int.tdiv_eq_ediv_of_nonneg (by omega), Xc (x := (4 * ((k : Int) + 1) + 7) / 8) (by omega), Xc (by omega)]
 congr 1
theorem Zfo (l : List (List Int)) (hl : l.length ≤ 1000000000000) : Xl l = some (decide (1 ≤ l.length ∧ l.length ≤ 16 ∧ ∀ s ∈ l, s.length ≤ 65536)) := by
 unfold Xl
 by_cases h0 : l.length < 1
 ·have : decide ((l.length : Int) < 1) = true := by simp; omega
  rw [this, cond_true, cond_true]
  congr 1
  symm
  simp only [decide_eq_false_iff_not]
  omega
 have c0 : decide ((l.length : Int) < 1) = false := by simp; omega
 by_cases h1 : 16 < l.length
 ·have : decide (16 < (l.length : Int)) = true := by simp; omega
  rw [c0, this, cond_false, cond_true]
  congr 1
  symm
  simp only [decide_eq_false_iff_not]
  omega
 have c1 : decide (16 < (l.length : Int)) = false := by simp; omega
 rw [c0, c1, cond_false, cond_false]
 have hloop := Xr l (fun i (_ : Unit) => i) (Yx l) (fun _ x => if 65536 < x.length then some (.inr (.inl ())) else some (.inl ())) (fun _ => .inr ()) (fun i s x hi hx => by
  unfold Yx
  have : decide ((i : Int) < l.length) = true := by simp; omega
  rw [this, cond_true, Xv hx, Option.bind_some]
  by_cases h : 65536 < x.length
  ·have e : decide (65536 < (x.length : Int)) = true := by simp; omega
   rw [e, cond_true, if_pos h]
  ·have e : decide (65536 < (x.length : Int)) = false := by simp; omega
   rw [e, cond_false, if_neg h, Xc (by omega)]
   rfl) (fun s => by
  unfold Yx
  have : decide ((l.length : Int) < l.length) = false := by simp
  rw [this, cond_false]) ()
 rw [hloop]
 have key : ∀ xs : List (List Int), Qs (fun (_ : Unit) (x : List Int) => if 65536 < x.length then some (.inr (.inl ())) else some (.inl ())) (fun _ => (.inr () : Unit ⊕ Unit)) xs () = some (if ∀ s ∈ xs, s.length ≤ 65536 then .inr () else .inl ()) := fun xs => by
  induction xs with
  | nil => simp [Qs]
  | cons x xs ih =>
   unfold Qs
   by_cases h : 65536 < x.length
   ·rw [if_pos h]
    have : ¬ ∀ s ∈ x :: xs, s.length ≤ 65536 := fun q => by have := q x (.head _); omega
    rw [if_neg this]
   rw [if_neg h]
   simp only
   rw [ih]
   have : (∀ s ∈ x :: xs, s.length ≤ 65536) ↔ ∀ s ∈ xs, s.length ≤ 65536 := by simp; omega
   by_cases q : ∀ s ∈ xs, s.length ≤ 65536
   ·rw [if_pos q, if_pos (this.2 q)]
   rw [if_neg q, if_neg (fun z => q (this.1 z))]
 rw [key]
 by_cases q : ∀ s ∈ l, s.length ≤ 65536
 ·rw [if_pos q]
  simp only [Option.bind_some]
  congr 1
  symm
  simp only [decide_eq_true_eq]
  exact ⟨by omega, by omega, q⟩
 rw [if_neg q]
 simp only [Option.bind_some]
 congr 1
 symm
 simp only [decide_eq_false_iff_not]
 exact fun z => q z.2.2
theorem Zmq (w i : Nat) (hi : i < 8) : IntKind.u8.wrap (Int.fdiv (w : Int) (2 ^ min (Int.toNat (IntKind.i64.wrap (8 * (i : Int)))) 64)) = ((w / 256 ^ i % 256 : Nat) : Int) := by
 rw [Xc (by omega), show min (Int.toNat (8 * (i : Int))) 64 = 8 * i by omega, show ((2 : Int) ^ (8 * i)) = ((256 ^ i : Nat) : Int) by rw [Int.pow_mul]; simp, Int.fdiv_eq_ediv_of_nonneg _ (Int.natCast_nonneg _), ← Int.natCast_ediv, IntKind.wrap_u8]
 rfl
theorem X6 (w i : Nat) (hi : i < 8) (a : Arr Int 8) : Xh w ((i : Int), a) = some (.inl (((i + 1 : Nat) : Int), a.put i ((w / 256 ^ i % 256 : Nat) : Int))) := by
 unfold Xh
 simp only
 have e : decide ((i : Int) < 8) = true := by simp; omega
 have hx : ∃ x, Xy a.1 (i : Int) = some x := ⟨a.1[i]'(by rw [a.2]; exact hi), Xv (List.getElem?_eq_getElem _)⟩
 obtain ⟨x, hx⟩ := hx
 rw [e, cond_true, Zdi (by rw [Xc (by omega)]; omega), Option.bind_some, hx, Option.bind_some, Zmq w i hi, Xc (by omega)]
 rfl
theorem Zmr (w : Nat) : Xw w = some ⟨le8 w, rfl⟩ := by
 unfold Xw
 simp only [Option.bind_some]
 have s0 := fun a => Zi (X6 w 0 (by decide) a)
 have s1 := fun a => Zi (X6 w 1 (by decide) a)
 have s2 := fun a => Zi (X6 w 2 (by decide) a)
 have s3 := fun a => Zi (X6 w 3 (by decide) a)
 have s4 := fun a => Zi (X6 w 4 (by decide) a)
 have s5 := fun a => Zi (X6 w 5 (by decide) a)
 have s6 := fun a => Zi (X6 w 6 (by decide) a)
 have s7 := fun a => Zi (X6 w 7 (by decide) a)
 have s8 : ∀ a, Zj (Xh w) (((8 : Nat) : Int), a) = some a := fun a => Z8 (by unfold Xh; rfl)
 have := (s0 ⟨[0, 0, 0, 0, 0, 0, 0, 0], rfl⟩).trans ((s1 _).trans ((s2 _).trans ((s3 _).trans ((s4 _).trans ((s5 _).trans ((s6 _).trans ((s7 _).trans (s8 _))))))))
 refine (congrArg (fun o => o.bind fun z => some z) this).trans ?_
 simp only [Option.bind_some, Option.some.injEq]
 refine Subtype.ext ?_
 show [((w / 256 ^ 0 % 256 : Nat) : Int), ((w / 256 ^ 1 % 256 : Nat) : Int), ((w / 256 ^ 2 % 256 : Nat) : Int), ((w / 256 ^ 3 % 256 : Nat) : Int), ((w / 256 ^ 4 % 256 : Nat) : Int), ((w / 256 ^ 5 % 256 : Nat) : Int), ((w / 256 ^ 6 % 256 : Nat) : Int), ((w / 256 ^ 7 % 256 : Nat) : Int)] = le8 w
 simp [le8]
def isW (x : Int) : Prop := 0 ≤ x ∧ x < 18446744073709551616
def J6 (l : List Int) : List Int := (l.map fun x => le8 x.toNat).flatten
theorem Zau (w : Nat) : (le8 w).length = 8 := rfl
theorem U8 (l : List Int) : (J6 l).length = 8 * l.length := by
 induction l with
 | nil => rfl
 | cons x l ih => unfold J6 at *; simp only [List.map_cons, List.flatten_cons, List.length_append, Zau, List.length_cons, ih]; omega
theorem Zko (l : List Int) : ∀ s : List Int, l.foldl (fun s x => s ++ le8 x.toNat) s = s ++ J6 l := by
 induction l with
 | nil => intro s; simp [J6]
 | cons x l ih => intro s; rw [List.foldl_cons, ih]; simp [J6]
theorem Zom (l : List Int) (hw : ∀ x ∈ l, isW x) (hl : l.length ≤ 10000000) : X7 l = some (J6 l) := by
 unfold X7
 rw [Xc (x := 8 * (l.length : Int)) (by omega), Zgb (by omega) (by omega) (by omega), Option.bind_some]
 have hloop := Xr l (fun i (s : List Int) => (i, s)) (X8 l) (fun s x => (Xw x).bind fun y => (Q8 1 s y.1).bind fun z => some (.inl z)) (fun s => s) (fun i s x hi hx => by
  unfold X8
  simp only
  have : decide ((i : Int) < l.length) = true := by simp; omega
  rw [this, cond_true, Xv hx, Option.bind_some]
  cases Xw x with
  | none => rfl
  | some y =>
   simp only [Option.bind_some]
   cases Q8 1 s y.1 with
   | none => rfl
   | some z => simp only [Option.bind_some]; rw [Xc (by omega)]; rfl) (fun s => by
  unfold X8
  simp only
  have : decide ((l.length : Int) < l.length) = false := by simp
  rw [this, cond_false]) []
 rw [hloop]
 rw [Kg (fun s x => s ++ le8 x.toNat) (fun s k => s.length = 8 * k) l.length l [] 0 (by omega) rfl (fun s k x hx hk hI => ?_), Zko]
 ·rfl
 have hxw := hw x hx
 obtain ⟨w, rfl⟩ : ∃ w : Nat, x = w := ⟨x.toNat, by unfold isW at hxw; omega⟩
 rw [Zmr w]
 simp only [Option.bind_some, Int.toNat_natCast]
 rw [J4 (by rw [hI, Zau]; omega) (by rw [hI, Zau]; omega)]
 exact ⟨rfl, by rw [List.length_append, hI, Zau]; omega⟩
def Zlm (l : List (List Int)) : Prop := 1 ≤ l.length ∧ l.length ≤ 16 ∧ ∀ s ∈ l, s.length ≤ 65536
def Js (l : List (List Int)) : List Int := le4 (l.length - 1) ++ (l.map fun s => le4 s.length).flatten
def Zae (l : List (List Int)) : List Int := Js l ++ List.replicate (Z3 l.length - (Js l).length) 0
def Zbb (l : List (List Int)) : List Int := Zae l ++ (l.map J6).flatten
theorem Zet (n : Nat) : (le4 n).length = 4 := rfl
theorem Zli (l : List (List Int)) : ((l.map fun s => le4 s.length).flatten).length = 4 * l.length := by
 induction l with
 | nil => rfl
 | cons x l ih => simp only [List.map_cons, List.flatten_cons, List.length_append, Zet, List.length_cons, ih]; omega
theorem Gh (l : List (List Int)) : (Js l).length = 4 + 4 * l.length := by unfold Js; rw [List.length_append, Zet, Zli]
theorem Zkw (l : List (List Int)) : (Zae l).length = Z3 l.length := by
 unfold Zae; rw [List.length_append, List.length_replicate, Gh]; unfold Z3; omega
theorem Zkp (l : List (List Int)) : ∀ s : List Int, l.foldl (fun s x => s ++ le4 x.length) s = s ++ (l.map fun s => le4 s.length).flatten := by
 induction l with
 | nil => intro s; simp
 | cons x l ih => intro s; rw [List.foldl_cons, ih]; simp
theorem Zhj (l : List (List Int)) : ∀ s : List Int, l.foldl (fun s x => s ++ J6 x) s = s ++ (l.map J6).flatten := by
 induction l with
 | nil => intro s; simp
 | cons x l ih => intro s; rw [List.foldl_cons, ih]; simp
theorem Zh4 (l : List (List Int)) (h : Zlm l) (hw : ∀ s ∈ l, ∀ x ∈ s, isW x) : Xq l = some (Zbb l, true) := by
 obtain ⟨h1, h2, h3⟩ := h
 unfold Xq
 rw [Zfo l (by omega)]
 have : decide (1 ≤ l.length ∧ l.length ≤ 16 ∧ ∀ s ∈ l, s.length ≤ 65536) = true := by simp; exact ⟨h1, h2, h3⟩
 rw [this, Option.bind_some, Bool.not_true, cond_false, Xc (by omega), show ((l.length : Int) - 1) = ((l.length - 1 : Nat) : Int) by omega, Zgc [] (l.length - 1) (by omega) (by simp), Option.bind_some, List.nil_append]
 have e0 := Xr l (fun i (s : List Int) => (i, s)) (Y8 l) (fun s x => (Yy s (x.length : Int)).bind fun y => some (.inl y)) (fun s => s) (fun i s x hi hx => by
  unfold Y8
  simp only
  have : decide ((i : Int) < l.length) = true := by simp; omega
  rw [this, cond_true, Xv hx, Option.bind_some]
  cases Yy s (x.length : Int) with
  | none => rfl
  | some y => simp only [Option.bind_some]; rw [Xc (by omega)]; rfl) (fun s => by
  unfold Y8
  simp only
  have : decide ((l.length : Int) < l.length) = false := by simp
  rw [this, cond_false]) (le4 (l.length - 1))
 have e1 : Zj (Y8 l) (0, le4 (l.length - 1)) = some (Js l) := by
  refine e0.trans ?_
  rw [Kg (fun s x => s ++ le4 x.length) (fun s k => s.length = 4 + 4 * k) l.length l _ 0 (by omega) rfl (fun s k x hx hk hI => ?_), Zkp]
  ·rfl
  have := h3 x hx
  rw [Zgc s x.length (by omega) (by omega)]
  exact ⟨rfl, by rw [List.length_append, hI, Zet]; omega⟩
 rw [e1, Option.bind_some]
 have e2 : Zj (Qa l) (Js l) = some (Zae l) := by
  refine Zhw (fun s => ∃ k, (Js l).length + k ≤ Z3 l.length ∧ s = Js l ++ List.replicate k 0) (fun s => Z3 l.length - s.length) ?_ _ ⟨0, by rw [Gh]; unfold Z3; omega, by simp⟩
  rintro s ⟨k, hk, rfl⟩
  unfold Qa
  rw [Gg l.length (by omega), Option.bind_some]
  have hN : Z3 l.length ≤ 1000 := by unfold Z3; omega
  by_cases hlt : (Js l).length + k < Z3 l.length
  ·left
   refine ⟨Js l ++ List.replicate (k + 1) 0, ?_, ⟨k + 1, by omega, rfl⟩, by simp only [List.length_append, List.length_replicate]; omega⟩
   have : decide (((Js l ++ List.replicate k (0 : Int)).length : Int) < (Z3 l.length : Int)) = true := by simp only [List.length_append, List.length_replicate]; simp; omega
   rw [this, cond_true, J4 (by simp only [List.length_append, List.length_replicate, List.length_cons, List.length_nil]; omega) (by simp only [List.length_append, List.length_replicate, List.length_cons, List.length_nil]; omega), Option.bind_some, List.append_assoc, ← List.replicate_succ']
  right
  have : decide (((Js l ++ List.replicate k (0 : Int)).length : Int) < (Z3 l.length : Int)) = false := by simp only [List.length_append, List.length_replicate]; simp; omega
  rw [this, cond_false]
  unfold Zae
  rw [show Z3 l.length - (Js l).length = k by omega]
 rw [e2, Option.bind_some]
 have e3 := Xr l (fun i (s : List Int) => (i, s)) (Y9 l) (fun s x => (X7 x).bind fun y => (Q8 1 s y).bind fun z => some (.inl z)) (fun s => s) (fun i s x hi hx => by
  unfold Y9
  simp only
  have : decide ((i : Int) < l.length) = true := by simp; omega
  rw [this, cond_true, Xv hx, Option.bind_some]
  cases X7 x with
  | none => rfl
  | some y =>
   simp only [Option.bind_some]
   cases Q8 1 s y with
   | none => rfl
   | some z => simp only [Option.bind_some]; rw [Xc (by omega)]; rfl) (fun s => by
  unfold Y9
  simp only
  have : decide ((l.length : Int) < l.length) = false := by simp
  rw [this, cond_false]) (Zae l)
 have e4 : Zj (Y9 l) (0, Zae l) = some (Zbb l) := by
  refine e3.trans ?_
  have hN : Z3 l.length ≤ 1000 := by unfold Z3; omega
  rw [Kg (fun s x => s ++ J6 x) (fun s k => s.length ≤ 1000 + 524288 * k) l.length l _ 0 (by omega) (by rw [Zkw]; omega) (fun s k x hx hk hI => ?_), Zhj]
  ·rfl
  have := h3 x hx
  rw [Zom x (hw x hx) (by omega), Option.bind_some, J4 (by rw [U8]; omega) (by rw [U8]; omega)]
  exact ⟨rfl, by rw [List.length_append, U8]; omega⟩
 rw [e4]
 rfl
theorem Zhz {α : Type} : ∀ (a b : List α), a.length = b.length → ((∀ p ∈ a.zip b, p.1 = p.2) ↔ a = b)
 | [], [], _ => by simp
 | x :: a, y :: b, h => by
  have ih := Zhz a b (by simpa using h)
  simp only [List.zip_cons_cons, List.mem_cons, forall_eq_or_imp, ih, List.cons.injEq]
 | [], _ :: _, h => by simp at h
 | _ :: _, [], h => by simp at h
theorem U9 {α : Type} (p : α → Bool) : ∀ xs : List α, Qs (fun (_ : Unit) x => if p x = true then some (.inl ()) else some (.inr (.inl ()))) (fun _ => (.inr () : Unit ⊕ Unit)) xs () = some (if ∀ x ∈ xs, p x = true then .inr () else .inl ())
 | [] => by simp [Qs]
 | x :: xs => by
  unfold Qs
  by_cases h : p x = true
  ·rw [if_pos h]
   simp only
   rw [U9 p xs]
   have : (∀ y ∈ x :: xs, p y = true) ↔ ∀ y ∈ xs, p y = true := by simp [h]
   by_cases q : ∀ y ∈ xs, p y = true
   ·rw [if_pos q, if_pos (this.2 q)]
   rw [if_neg q, if_neg (fun z => q (this.1 z))]
  rw [if_neg h]
  rw [if_neg (fun q => h (q x (.head _)))]
theorem Zhx (a b : List Int) (ha : a.length ≤ 1000000000000000) (hb : b.length ≤ 1000000000000000) : Yz a b = some (decide (a = b)) := by
 unfold Yz
 by_cases hl : a.length = b.length
 ·have : ((a.length : Int) != (b.length : Int)) = false := by simp [hl]
  rw [this, cond_false]
  have hloop := Xr (a.zip b) (fun i (_ : Unit) => i) (Yu a b) (fun _ x => if (x.1 == x.2) = true then some (.inl ()) else some (.inr (.inl ()))) (fun _ => .inr ()) (fun i s x hi hx => by
   have hz := List.getElem?_zip_eq_some.1 hx
   have hi' : i < a.length := by rw [List.length_zip] at hi; omega
   unfold Yu
   have : decide ((i : Int) < a.length) = true := by simp; omega
   rw [this, cond_true, Xv hz.1, Option.bind_some, Xv hz.2, Option.bind_some]
   by_cases h : x.1 = x.2
   ·have e : (x.1 != x.2) = false := by simp [h]
    rw [e, cond_false, if_pos (by simp [h]), Xc (by omega)]
    rfl
   ·have e : (x.1 != x.2) = true := by simp [h]
    rw [e, cond_true, if_neg (by simp [h])]) (fun s => by
   unfold Yu
   have : decide ((((a.zip b).length : Nat) : Int) < a.length) = false := by rw [List.length_zip]; simp; omega
   rw [this, cond_false]) ()
  rw [hloop, U9]
  have hq := Zhz a b hl
  by_cases q : a = b
  ·rw [if_pos (by simpa using hq.2 q)]
   simp [q]
  rw [if_neg (fun z => q (hq.1 (by simpa using z)))]
  simp [q]
 have : ((a.length : Int) != (b.length : Int)) = true := by simp; omega
 rw [this, cond_true]
 congr 1
 symm
 simp only [decide_eq_false_iff_not]
 exact fun q => hl (by rw [q])
theorem U0 : @Yk = @Yz := rfl
theorem Zjf (a b : List (List Int)) (ha : a.length ≤ 1000000000000000) (hb : b.length ≤ 1000000000000000) (ha' : ∀ x ∈ a, x.length ≤ 1000000000000000) (hb' : ∀ x ∈ b, x.length ≤ 1000000000000000) : Y0 a b = some (decide (a = b)) := by
 unfold Y0
 by_cases hl : a.length = b.length
 ·have : ((a.length : Int) != (b.length : Int)) = false := by simp [hl]
  rw [this, cond_false]
  have hloop := Xr (a.zip b) (fun i (_ : Unit) => i) (Yv a b) (fun _ x => if (x.1 == x.2) = true then some (.inl ()) else some (.inr (.inl ()))) (fun _ => .inr ()) (fun i s x hi hx => by
   have hz := List.getElem?_zip_eq_some.1 hx
   have hi' : i < a.length := by rw [List.length_zip] at hi; omega
   unfold Yv
   have : decide ((i : Int) < a.length) = true := by simp; omega
   rw [this, cond_true, Xv hz.1, Option.bind_some, Xv hz.2, Option.bind_some, Zhx _ _ (ha' _ (List.mem_of_getElem? hz.1)) (hb' _ (List.mem_of_getElem? hz.2)), Option.bind_some]
   by_cases h : x.1 = x.2
   ·have e : decide (x.1 = x.2) = true := by simp [h]
    rw [e, Bool.not_true, cond_false, if_pos (by simp [h]), Xc (by omega)]
    rfl
   ·have e : decide (x.1 = x.2) = false := by simp [h]
    rw [e, Bool.not_false, cond_true, if_neg (by simp [h])]) (fun s => by
   unfold Yv
   have : decide ((((a.zip b).length : Nat) : Int) < a.length) = false := by rw [List.length_zip]; simp; omega
   rw [this, cond_false]) ()
  rw [hloop, U9]
  have hq := Zhz a b hl
  by_cases q : a = b
  ·rw [if_pos (by simpa using hq.2 q)]
   simp [q]
  rw [if_neg (fun z => q (hq.1 (by simpa using z)))]
  simp [q]
 have : ((a.length : Int) != (b.length : Int)) = true := by simp; omega
 rw [this, cond_true]
 congr 1
 symm
 simp only [decide_eq_false_iff_not]
 exact fun q => hl (by rw [q])
def Jz (x : Int) : Prop := 0 ≤ x ∧ x < 256
def Zl (b : List Int) (i : Nat) : Nat := (b.getD i 0).toNat
def Z0 (b : List Int) (i : Nat) : Nat := Zl b i + Zl b (i + 1) * 256 + Zl b (i + 2) * 65536 + Zl b (i + 3) * 16777216
theorem Zn {b : List Int} (hb : ∀ x ∈ b, Jz x) (i : Nat) : Zl b i < 256 := by
 unfold Zl
 rw [List.getD_eq_getElem?_getD]
 cases h : b[i]? with
 | none => simp
 | some x => have := hb x (List.mem_of_getElem? h); unfold Jz at this; simp only [Option.getD_some]; omega
theorem Jq {b : List Int} (hb : ∀ x ∈ b, Jz x) {i : Nat} (hi : i < b.length) : Xy b (i : Int) = some (Zl b i : Int) := by
 have h : b[i]? = some b[i] := List.getElem?_eq_getElem hi
 rw [Xv h]
 unfold Zl
 rw [List.getD_eq_getElem?_getD, h]
 have := hb b[i] (List.getElem_mem hi)
 unfold Jz at this
 simp only [Option.getD_some, Option.some.injEq]
 omega
theorem Zev (x y k : Nat) (hx : x < 2 ^ k) (hk : k ≤ 40) (hy : y ≤ 65536) : IntKind.i64.wrap (Uw .i64 (x : Int) ((y : Int) * 2 ^ k)) = ((x + y * 2 ^ k : Nat) : Int) := by
 have hp : (2 : Nat) ^ k ≤ 1099511627776 := by have := Nat.pow_le_pow_right (n := 2) (by decide) hk; simpa using this
 have hm : y * 2 ^ k ≤ 65536 * 1099511627776 := Nat.mul_le_mul hy hp
 have e : ((y : Int) * 2 ^ k) = ((y * 2 ^ k : Nat) : Int) := by simp
 have hl := Zit .i64 x (y * 2 ^ k) (by simp only [IntKind.bits]; omega) (by simp only [IntKind.bits]; omega)
 have ho : x ||| (y * 2 ^ k) = x + y * 2 ^ k := by
  rw [Nat.or_comm, Nat.mul_comm, ← Nat.two_pow_add_eq_or_of_lt hx, Nat.add_comm]
 rw [e, hl, ho, Xc (by omega)]
theorem Zbw {b : List Int} (hb : ∀ x ∈ b, Jz x) (i : Nat) (hi : i + 3 < b.length) (hbl : b.length ≤ 1000000000000000) : Z4 b i = some (Z0 b i : Int) := by
 unfold Z4
 have g0 := Jq hb (i := i) (by omega)
 have g1 := Jq hb (i := i + 1) (by omega)
 have g2 := Jq hb (i := i + 2) (by omega)
 have g3 := Jq hb (i := i + 3) (by omega)
 have b0 := Zn hb i
 have b1 := Zn hb (i + 1)
 have b2 := Zn hb (i + 2)
 have b3 := Zn hb (i + 3)
 rw [Xc (x := (i : Int) + 1) (by omega), Xc (x := (i : Int) + 2) (by omega), Xc (x := (i : Int) + 3) (by omega)]
 rw [show (i : Int) + 1 = ((i + 1 : Nat) : Int) from rfl, show (i : Int) + 2 = ((i + 2 : Nat) : Int) from rfl, show (i : Int) + 3 = ((i + 3 : Nat) : Int) from rfl]
 rw [g0, Option.bind_some, g1, Option.bind_some, g2, Option.bind_some, g3, Option.bind_some]
 unfold Z0
 generalize Zl b i = x0 at *
 generalize Zl b (i + 1) = x1 at *
 generalize Zl b (i + 2) = x2 at *
 generalize Zl b (i + 3) = x3 at *
 clear g0 g1 g2 g3
 rw [show min (Int.toNat 8) 64 = 8 from rfl, show min (Int.toNat 16) 64 = 16 from rfl, show min (Int.toNat 24) 64 = 24 from rfl]
 have w0 : IntKind.i64.wrap (x0 : Int) = x0 := Xc (by omega)
 have w1 : IntKind.i64.wrap (x1 : Int) = x1 := Xc (by omega)
 have w2 : IntKind.i64.wrap (x2 : Int) = x2 := Xc (by omega)
 have w3 : IntKind.i64.wrap (x3 : Int) = x3 := Xc (by omega)
 have v1 : IntKind.i64.wrap ((x1 : Int) * 2 ^ 8) = (x1 : Int) * 2 ^ 8 := Xc (by omega)
 have v2 : IntKind.i64.wrap ((x2 : Int) * 2 ^ 16) = (x2 : Int) * 2 ^ 16 := Xc (by omega)
 have v3 : IntKind.i64.wrap ((x3 : Int) * 2 ^ 24) = (x3 : Int) * 2 ^ 24 := Xc (by omega)
 rw [w0, w1, w2, w3, v1, v2, v3, Zev x0 x1 8 (by omega) (by decide) (by omega), Zev _ x2 16 (by omega) (by decide) (by omega), Zev _ x3 24 (by omega) (by decide) (by omega)]
def Yn (b : List Int) (c : Nat) : List Int := (List.range c).map fun i => (Z0 b (4 * (i + 1)) : Int)
def Yd (b : List Int) : List Int × Int :=
 if b.length < 4 then ([], 4)
 else if 16 < Z0 b 0 + 1 then ([], 3)
 else if b.length < Z3 (Z0 b 0 + 1) then ([], 4)
 else if (List.range (Z0 b 0 + 1)).any (fun i => decide (65536 < Z0 b (4 * (i + 1)))) = true then ([], 3)
 else if ((b.drop (4 * (Z0 b 0 + 2))).take (Z3 (Z0 b 0 + 1) - 4 * (Z0 b 0 + 2))).any (fun x => x != 0) = true then ([], 5)
 else (Yn b (Z0 b 0 + 1), 0)
theorem Zdv {c i x : Nat} (h : (List.range c)[i]? = some x) : x = i ∧ i < c := by
 rcases Nat.lt_or_ge i c with hi | hi
 ·rw [List.getElem?_range hi] at h; injection h with h; exact ⟨h.symm, hi⟩
 rw [List.getElem?_eq_none (by simpa using hi)] at h; cases h
theorem Zdd {α β : Type} (f : α → β) : ∀ (l : List α) (s : List β), l.foldl (fun s x => s ++ [f x]) s = s ++ l.map f
 | [], s => by simp
 | x :: l, s => by rw [List.foldl_cons, Zdd f l]; simp
theorem Zmv {b : List Int} (hb : ∀ x ∈ b, Jz x) (hbl : b.length ≤ 140737488355328) (m : Nat) (hm : m < 1000) (hlen : 4 * (m + 2) ≤ b.length) :
  Zj (Y3 b m) (0, []) = some (if (List.range (m + 1)).any (fun i => decide (65536 < Z0 b (4 * (i + 1)))) = true then .inl () else .inr (Yn b (m + 1))) := by
 have hloop := Xr (List.range (m + 1)) (fun i (s : List Int) => (i, s)) (Y3 b m)
  (fun s i => (Z4 b ((4 * (i + 1) : Nat) : Int)).bind fun y => cond (decide (65536 < y)) (some (.inr (.inl ()))) ((Q8 8 s [y]).bind fun z => some (.inl z))) (fun s => (.inr s : Unit ⊕ List Int)) (fun i s x hi hx => by
   obtain ⟨rfl, hi⟩ := Zdv hx
   unfold Y3
   simp only
   rw [Xc (x := (m : Int) + 1) (by omega), Xc (x := (x : Int) + 1) (by omega), Xc (x := 4 * ((x : Int) + 1)) (by omega)]
   have : decide ((x : Int) < (m : Int) + 1) = true := by simp; omega
   rw [this, cond_true, show 4 * ((x : Int) + 1) = ((4 * (x + 1) : Nat) : Int) from by omega]
   cases Z4 b ((4 * (x + 1) : Nat) : Int) with
   | none => rfl
   | some y =>
    simp only [Option.bind_some]
    cases decide (65536 < y) with
    | true => simp only [cond_true]
    | false =>
     simp only [cond_false]
     cases Q8 8 s [y] with
     | none => rfl
     | some z => simp only [Option.bind_some]; rfl) (fun s => by
   unfold Y3
   simp only
   rw [Xc (x := (m : Int) + 1) (by omega), List.length_range]
   have : decide (((m + 1 : Nat) : Int) < (m : Int) + 1) = false := by simp
   rw [this, cond_false]) []
 rw [hloop, V4 (fun i => decide (65536 < Z0 b (4 * (i + 1)))) (fun s i => s ++ [(Z0 b (4 * (i + 1)) : Int)]) (.inl ()) (fun s k => s.length = k) (m + 1) (List.range (m + 1)) [] 0 (by rw [List.length_range]; omega) rfl (fun s k x hx hk hI => ?_)]
 ·rw [Zdd, List.nil_append]
  unfold Yn
  congr 1
 have hx' := List.mem_range.1 hx
 rw [Zbw hb (4 * (x + 1)) (by omega) (by omega), Option.bind_some]
 by_cases hq : 65536 < Z0 b (4 * (x + 1))
 ·have e : decide (65536 < (Z0 b (4 * (x + 1)) : Int)) = true := by rw [decide_eq_true_eq]; omega
  have e2 : decide (65536 < Z0 b (4 * (x + 1))) = true := by rw [decide_eq_true_eq]; omega
  rw [e, e2, cond_true, if_pos rfl]
  exact ⟨rfl, fun h => Bool.noConfusion h⟩
 have e : decide (65536 < (Z0 b (4 * (x + 1)) : Int)) = false := by rw [decide_eq_false_iff_not]; omega
 have e2 : decide (65536 < Z0 b (4 * (x + 1))) = false := by rw [decide_eq_false_iff_not]; omega
 rw [e, e2, cond_false, if_neg Bool.false_ne_true, J4 (by simp only [List.length_cons, List.length_nil]; omega) (by simp only [List.length_cons, List.length_nil]; omega)]
 exact ⟨rfl, fun _ => by rw [List.length_append, hI]; rfl⟩
theorem Zmw (pad : List Int) (hpl : pad.length ≤ 1000) : Zj (Y4 pad) 0 = some (if pad.any (fun x => x != 0) = true then .inl () else .inr ()) := by
 have hl2 := Xr pad (fun i (_ : Unit) => i) (Y4 pad) (fun _ x => if (x != 0) = true then some (.inr (.inl ())) else some (.inl ())) (fun _ => (.inr () : Unit ⊕ Unit)) (fun i s x hi hx => by
  unfold Y4
  have : decide ((i : Int) < pad.length) = true := by simp; omega
  rw [this, cond_true, Xv hx, Option.bind_some]
  cases x != 0 with
  | true => rfl
  | false => rw [cond_false, Xc (by omega)]; rfl) (fun s => by
  unfold Y4
  have : decide ((pad.length : Int) < pad.length) = false := by simp
  rw [this, cond_false]) ()
 exact hl2.trans (V4 (R := Unit ⊕ Unit) (fun x => x != 0) (fun s _ => s) (Sum.inl ()) (fun _ _ => True) pad.length pad () 0 (by omega) trivial (fun s k x _ _ _ => ⟨rfl, fun _ => trivial⟩))
theorem Ziw {b : List Int} (hb : ∀ x ∈ b, Jz x) (i : Nat) : Z0 b i < 4294967296 := by
 have b0 := Zn hb i; have b1 := Zn hb (i + 1); have b2 := Zn hb (i + 2); have b3 := Zn hb (i + 3)
 unfold Z0; omega
theorem Zky {b : List Int} (hb : ∀ x ∈ b, Jz x) (hbl : b.length ≤ 140737488355328) (m : Nat) (h1 : ¬ 16 < m + 1) (h2 : ¬ b.length < Z3 (m + 1)) :
  ((Zj (Y3 b m) (0, [])).bind fun (z10 : (Unit ⊕ (List Int))) => match z10 with | .inl z10 => some (([] : (List Int)), (3 : Int)) | .inr z10 => (Q3 b (IntKind.i64.wrap (4 * (IntKind.i64.wrap (((m + 1 : Nat) : Int) + 1)))) (Z3 (m + 1) : Int)).bind fun l14 => (Zj (Y4 l14) 0).bind fun (z19 : (Unit ⊕ Unit)) => match z19 with | .inl z19 => some (([] : (List Int)), 5) | .inr z19 => some (z10, 0)) =
  some (if (List.range (m + 1)).any (fun i => decide (65536 < Z0 b (4 * (i + 1)))) = true then ([], 3) else if ((b.drop (4 * (m + 2))).take (Z3 (m + 1) - 4 * (m + 2))).any (fun x => x != 0) = true then ([], 5) else (Yn b (m + 1), 0)) := by
 have hh : 4 * (m + 2) ≤ Z3 (m + 1) := by unfold Z3; omega
 have hh2 : Z3 (m + 1) ≤ 1000 := by unfold Z3; omega
 rw [Zmv hb hbl m (by omega) (by omega), Option.bind_some]
 cases hany : (List.range (m + 1)).any (fun i => decide (65536 < Z0 b (4 * (i + 1)))) with
 | true => simp only [if_true]
 | false =>
  simp only [Bool.false_eq_true, if_false, Option.bind_some]
  rw [Xc (x := ((m + 1 : Nat) : Int) + 1) (by omega), Xc (x := 4 * (((m + 1 : Nat) : Int) + 1)) (by omega), Vo (by omega) (by omega) (by omega), Option.bind_some]
  rw [show (4 * (((m + 1 : Nat) : Int) + 1)).toNat = 4 * (m + 2) by omega, show ((Z3 (m + 1) : Int) - 4 * (((m + 1 : Nat) : Int) + 1)).toNat = Z3 (m + 1) - 4 * (m + 2) by omega]
  have hpl : ((b.drop (4 * (m + 2))).take (Z3 (m + 1) - 4 * (m + 2))).length ≤ 1000 := by
   rw [List.length_take]; omega
  generalize (b.drop (4 * (m + 2))).take (Z3 (m + 1) - 4 * (m + 2)) = pad at *
  rw [Zmw pad hpl, Option.bind_some]
  cases pad.any (fun x => x != 0) with
  | true => simp only [if_true]
  | false => simp only [Bool.false_eq_true, if_false]
theorem Zhq {b : List Int} (hb : ∀ x ∈ b, Jz x) (h0 : ¬ b.length < 4) (hbl : b.length ≤ 140737488355328) : Z4 b 0 = some (Z0 b 0 : Int) := Zbw hb 0 (by omega) (by omega)
theorem Zoo {b : List Int} (hb : ∀ x ∈ b, Jz x) (hbl : b.length ≤ 140737488355328) : Qw b = some (Yd b) := by
 unfold Qw Yd
 by_cases h0 : b.length < 4
 ·have : decide ((b.length : Int) < 4) = true := by rw [decide_eq_true_eq]; omega
  rw [this, cond_true, if_pos h0]
 have c0 : decide ((b.length : Int) < 4) = false := by rw [decide_eq_false_iff_not]; omega
 rw [c0, cond_false, if_neg h0]
 have n0 : Z4 b 0 = some (Z0 b 0 : Int) := Zhq hb h0 hbl
 have hn0 := Ziw hb 0
 rw [n0, Option.bind_some]
 clear n0
 obtain ⟨m, hm⟩ : ∃ m, Z0 b 0 = m := ⟨_, rfl⟩
 rw [hm] at hn0 ⊢
 rw [Xc (x := (m : Int) + 1) (by omega), show (m : Int) + 1 = ((m + 1 : Nat) : Int) from rfl]
 by_cases h1 : 16 < m + 1
 ·have : decide (16 < ((m + 1 : Nat) : Int)) = true := by rw [decide_eq_true_eq]; omega
  rw [this, cond_true, if_pos h1]
 have c1 : decide (16 < ((m + 1 : Nat) : Int)) = false := by rw [decide_eq_false_iff_not]; omega
 rw [c1, cond_false, if_neg h1, Gg (m + 1) (by omega), Option.bind_some]
 by_cases h2 : b.length < Z3 (m + 1)
 ·have : decide ((b.length : Int) < (Z3 (m + 1) : Int)) = true := by rw [decide_eq_true_eq]; omega
  rw [this, cond_true, if_pos h2]
 have c2 : decide ((b.length : Int) < (Z3 (m + 1) : Int)) = false := by rw [decide_eq_false_iff_not]; omega
 rw [c2, cond_false, if_neg h2]
 exact Zky hb hbl m h1 h2
def Q1 (b : List Int) (k : Nat) : Nat := Zl b k + Zl b (k + 1) * 256 + Zl b (k + 2) * 65536 + Zl b (k + 3) * 16777216 + Zl b (k + 4) * 4294967296 + Zl b (k + 5) * 1099511627776 + Zl b (k + 6) * 281474976710656 + Zl b (k + 7) * 72057594037927936
theorem Zkz (x y k : Nat) (hx : x < 2 ^ k) (hy : y < 256) (hk : k ≤ 56) : IntKind.u64.wrap (Uw .u64 (x : Int) (IntKind.u64.wrap (IntKind.u64.wrap (y : Int) * 2 ^ k))) = ((x + y * 2 ^ k : Nat) : Int) := by
 have hp : (2 : Nat) ^ k ≤ 72057594037927936 := by have := Nat.pow_le_pow_right (n := 2) (by decide) hk; simpa using this
 have hm : y * 2 ^ k ≤ 255 * 72057594037927936 := Nat.mul_le_mul (by omega) hp
 have e : ((y : Int) * 2 ^ k) = ((y * 2 ^ k : Nat) : Int) := by simp
 rw [Zk4 (x := (y : Int)) (by omega), e, Zk4 (x := ((y * 2 ^ k : Nat) : Int)) (by omega)]
 have ho : x ||| (y * 2 ^ k) = x + y * 2 ^ k := by
  rw [Nat.or_comm, Nat.mul_comm, ← Nat.two_pow_add_eq_or_of_lt hx, Nat.add_comm]
 rw [Zo6 x (y * 2 ^ k) (by omega) (by omega), ho, Zk4 (by omega)]
theorem J8 (a : Arr Int 8) (ha : ∀ x ∈ a.1, Jz x) (w i : Nat) (hi : i < 8) (hw : w < 2 ^ (8 * i)) : Qb a ((w : Int), (i : Int)) = some (.inl (((w + Zl a.1 i * 2 ^ (8 * i) : Nat) : Int), ((i + 1 : Nat) : Int))) := by
 unfold Qb
 simp only
 have e : decide ((i : Int) < 8) = true := by rw [decide_eq_true_eq]; omega
 have hb := Zn ha i
 rw [e, cond_true, Jq ha (by rw [a.2]; exact hi), Option.bind_some, Xc (x := 8 * (i : Int)) (by omega), Zdi (by omega), Option.bind_some, show min (Int.toNat (8 * (i : Int))) 64 = 8 * i by omega, Zkz w _ (8 * i) hw hb (by omega), Xc (by omega)]
 rfl
theorem Zpr (a : Arr Int 8) (ha : ∀ x ∈ a.1, Jz x) : Kl a = some (Q1 a.1 0 : Int) := by
 unfold Kl
 have b0 := Zn ha 0
 have b1 := Zn ha 1
 have b2 := Zn ha 2
 have b3 := Zn ha 3
 have b4 := Zn ha 4
 have b5 := Zn ha 5
 have b6 := Zn ha 6
 have b7 := Zn ha 7
 have s0 := Zi (J8 a ha 0 0 (by decide) (by decide))
 have s1 := Zi (J8 a ha (0 + Zl a.1 0 * 2 ^ (8 * 0)) 1 (by decide) (by omega))
 have s2 := Zi (J8 a ha (0 + Zl a.1 0 * 2 ^ (8 * 0) + Zl a.1 1 * 2 ^ (8 * 1)) 2 (by decide) (by omega))
 have s3 := Zi (J8 a ha (0 + Zl a.1 0 * 2 ^ (8 * 0) + Zl a.1 1 * 2 ^ (8 * 1) + Zl a.1 2 * 2 ^ (8 * 2)) 3 (by decide) (by omega))
 have s4 := Zi (J8 a ha (0 + Zl a.1 0 * 2 ^ (8 * 0) + Zl a.1 1 * 2 ^ (8 * 1) + Zl a.1 2 * 2 ^ (8 * 2) + Zl a.1 3 * 2 ^ (8 * 3)) 4 (by decide) (by omega))
 have s5 := Zi (J8 a ha (0 + Zl a.1 0 * 2 ^ (8 * 0) + Zl a.1 1 * 2 ^ (8 * 1) + Zl a.1 2 * 2 ^ (8 * 2) + Zl a.1 3 * 2 ^ (8 * 3) + Zl a.1 4 * 2 ^ (8 * 4)) 5 (by decide) (by omega))
 have s6 := Zi (J8 a ha (0 + Zl a.1 0 * 2 ^ (8 * 0) + Zl a.1 1 * 2 ^ (8 * 1) + Zl a.1 2 * 2 ^ (8 * 2) + Zl a.1 3 * 2 ^ (8 * 3) + Zl a.1 4 * 2 ^ (8 * 4) + Zl a.1 5 * 2 ^ (8 * 5)) 6 (by decide) (by omega))
 have s7 := Zi (J8 a ha (0 + Zl a.1 0 * 2 ^ (8 * 0) + Zl a.1 1 * 2 ^ (8 * 1) + Zl a.1 2 * 2 ^ (8 * 2) + Zl a.1 3 * 2 ^ (8 * 3) + Zl a.1 4 * 2 ^ (8 * 4) + Zl a.1 5 * 2 ^ (8 * 5) + Zl a.1 6 * 2 ^ (8 * 6)) 7 (by decide) (by omega))
 have s8 : ∀ x, Zj (Qb a) (x, ((8 : Nat) : Int)) = some x := fun x => Z8 (by unfold Qb; rfl)
 have := s0.trans (s1.trans (s2.trans (s3.trans (s4.trans (s5.trans (s6.trans (s7.trans (s8 _))))))))
 rw [show ((0 : Nat) : Int) = 0 from rfl] at this
 rw [this, Option.bind_some]
 unfold Q1
 simp only [Nat.zero_add]
 congr 2
 omega
theorem Zgr {α : Type} (f : Nat → α) (k : Nat) : ∀ (j : Nat) (s : List α), j ≤ k → s.length = k → (List.range j).foldl (fun s i => s.set i (f i)) s = (List.range j).map f ++ s.drop j
 | 0, s, _, _ => by simp
 | j + 1, s, hj, hs => by
  have ih := Zgr f k j s (by omega) hs
  rw [List.range_succ, List.foldl_append, ih, List.map_append, List.foldl_cons, List.foldl_nil]
  have hl : ((List.range j).map f).length = j := by simp
  rw [List.set_append_right _ _ (by omega), hl, Nat.sub_self]
  have hd : s.drop j = s[j]'(by omega) :: s.drop (j + 1) := List.drop_eq_getElem_cons (by omega)
  rw [hd, List.set_cons_zero, List.append_assoc]
  rfl
def Qy (b : List Int) : List Int := (List.range (b.length / 8)).map fun i => (Q1 b (8 * i) : Int)
theorem Zhc (b : List Int) (k j : Nat) : Zl (b.drop k) j = Zl b (k + j) := by
 unfold Zl
 rw [List.getD_eq_getElem?_getD, List.getD_eq_getElem?_getD, List.getElem?_drop]
theorem Zhd (b : List Int) (k j : Nat) (h : j < k) : Zl (b.take k) j = Zl b j := by
 unfold Zl
 rw [List.getD_eq_getElem?_getD, List.getD_eq_getElem?_getD, List.getElem?_take, if_pos h]
theorem Zg7 (b l2 : List Int) (hb : ∀ x ∈ b, Jz x) (hbl : b.length ≤ 1000000000000) (hk : l2.length = b.length / 8) (s : List Int) (hs : s.length = l2.length) (i : Nat) (hi : i < l2.length) :
  Xi b l2 ((i : Int), s) = some (.inl (((i + 1 : Nat) : Int), s.set i (Q1 b (8 * i) : Int))) := by
 unfold Xi
 simp only
 have e : decide ((i : Int) < l2.length) = true := by rw [decide_eq_true_eq]; omega
 rw [e, cond_true, Option.bind_some, Xc (x := 8 * (i : Int)) (by omega), Vo (by omega) (by omega) (by omega), Option.bind_some]
 have hd : ((b.drop (8 * (i : Int)).toNat).take ((b.length : Int) - 8 * (i : Int)).toNat) = b.drop (8 * i) := by
  rw [show (8 * (i : Int)).toNat = 8 * i by omega, List.take_of_length_le (by rw [List.length_drop]; omega)]
 rw [hd]
 have h8 : 8 * i + 8 ≤ b.length := by omega
 have hc : (Arr.cpy (⟨[0, 0, 0, 0, 0, 0, 0, 0], rfl⟩ : Arr Int 8) (b.drop (8 * i))).1 = (b.drop (8 * i)).take 8 := by
  unfold Arr.cpy
  have : ((b.drop (8 * i)).take 8).length = 8 := by rw [List.length_take, List.length_drop]; omega
  simp only [this]
  simp
 have hq : ∀ j, j < 8 → Zl ((b.drop (8 * i)).take 8) j = Zl b (8 * i + j) := fun j hj => by rw [Zhd _ _ _ hj, Zhc]
 rw [Zpr _ (by rw [hc]; exact fun x hx => hb x (List.mem_of_mem_drop (List.mem_of_mem_take hx))), Option.bind_some, hc]
 have hn : Q1 ((b.drop (8 * i)).take 8) 0 = Q1 b (8 * i) := by
  unfold Q1
  simp only [Nat.zero_add]
  rw [hq 0 (by decide), hq 1 (by decide), hq 2 (by decide), hq 3 (by decide), hq 4 (by decide), hq 5 (by decide), hq 6 (by decide), hq 7 (by decide)]
  rfl
 rw [hn, Xv (List.getElem?_eq_getElem (by omega)), Option.bind_some, Xc (by omega)]
 rfl
theorem Zm8 (b : List Int) (hb : ∀ x ∈ b, Jz x) (hbl : b.length ≤ 100000000000) : Xm b = some (if b.length % 8 = 0 then (Qy b, true) else ([], false)) := by
 unfold Xm
 rw [Int.tmod_eq_emod_of_nonneg (by omega)]
 by_cases h : b.length % 8 = 0
 ·have e : ((b.length : Int) % 8 != 0) = false := by simp; omega
  rw [e, cond_false, if_pos h, Int.tdiv_eq_ediv_of_nonneg (by omega), Xc (x := (b.length : Int) / 8) (by omega), Zgb (by omega) (by omega) (by omega), Option.bind_some]
  have hk : ((b.length : Int) / 8).toNat = b.length / 8 := by omega
  rw [hk]
  obtain ⟨l2, hl⟩ : ∃ l2, List.replicate (b.length / 8) (0 : Int) = l2 := ⟨_, rfl⟩
  have hl2 : l2.length = b.length / 8 := by rw [← hl, List.length_replicate]
  rw [hl]
  have hloop := Xr (List.range (b.length / 8)) (fun i (s : {s : List Int // s.length = l2.length}) => (i, s.1)) (Xi b l2) (fun s i => some (.inl ⟨s.1.set i (Q1 b (8 * i) : Int), by rw [List.length_set]; exact s.2⟩)) (fun s => s.1) (fun i s x hi hx => by
   obtain ⟨rfl, hi⟩ := Zdv hx
   exact Zg7 b l2 hb (by omega) hl2 s.1 s.2 x (by omega)) (fun s => by
   unfold Xi
   simp only
   have : decide (((List.range (b.length / 8)).length : Int) < l2.length) = false := by rw [decide_eq_false_iff_not, List.length_range]; omega
   rw [this, cond_false]) ⟨l2, rfl⟩
  have hf : ∀ (xs : List Nat) (s : {s : List Int // s.length = l2.length}), Qs (fun s i => some (.inl ⟨s.1.set i (Q1 b (8 * i) : Int), by rw [List.length_set]; exact s.2⟩)) (fun s => s.1) xs s = some (xs.foldl (fun s i => s.set i (Q1 b (8 * i) : Int)) s.1) := fun xs => by
   induction xs with
   | nil => intro s; rfl
   | cons x xs ih => intro s; unfold Qs; exact ih _
  have := hloop.trans (hf _ _)
  simp only at this
  rw [this, Option.bind_some, Zgr (fun i => (Q1 b (8 * i) : Int)) (b.length / 8) (b.length / 8) l2 (Nat.le_refl _) hl2, List.drop_of_length_le (by omega), List.append_nil]
  rfl
 have e : ((b.length : Int) % 8 != 0) = true := by simp; omega
 rw [e, cond_true, if_neg h]
def isN (x : Int) : Prop := 0 ≤ x ∧ x ≤ 65536
def X2 : List Int → Nat
 | [] => 0
 | x :: l => x.toNat + X2 l
def V3 : List Int → List Int → List (List Int)
 | [], _ => []
 | n :: l, r => Qy (r.take (8 * n.toNat)) :: V3 l (r.drop (8 * n.toNat))
theorem Zgy : ∀ (l : List Int), (∀ x ∈ l, isN x) → ∀ s : Int, l.foldl (fun s x => s + x) s = s + X2 l
 | [], _, s => by simp [X2]
 | x :: l, h, s => by
  have hx := h x (.head _)
  unfold isN at hx
  rw [List.foldl_cons, Zgy l (fun y hy => h y (.tail _ hy))]
  simp only [X2]
  omega
theorem Zaz : ∀ (l : List Int), (∀ x ∈ l, isN x) → X2 l ≤ 65536 * l.length
 | [], _ => by simp [X2]
 | x :: l, h => by
  have hx := h x (.head _)
  unfold isN at hx
  have := Zaz l (fun y hy => h y (.tail _ hy))
  simp only [X2, List.length_cons]
  omega
theorem Zov (y : List Int × Int) (hy : ∀ x ∈ y.1, isN x) (hl : y.1.length ≤ 1000) : Zj (Yq y) (0, 0) = some (X2 y.1 : Int) := by
 have hloop := Xr y.1 (fun i (s : Int) => (s, i)) (Yq y) (fun s x => some (.inl (IntKind.i64.wrap (s + x)))) (fun s => s) (fun i s x hi hx => by
  unfold Yq
  simp only
  have : decide ((i : Int) < y.1.length) = true := by rw [decide_eq_true_eq]; omega
  rw [this, cond_true, Xv hx, Option.bind_some, Xc (x := (i : Int) + 1) (by omega)]
  rfl) (fun s => by
  unfold Yq
  simp only
  have : decide ((y.1.length : Int) < y.1.length) = false := by rw [decide_eq_false_iff_not]; omega
  rw [this, cond_false]) 0
 refine hloop.trans ?_
 rw [Kg (fun (s : Int) (x : Int) => s + x) (fun (s : Int) k => 0 ≤ s ∧ s ≤ 65536 * (k : Int)) y.1.length y.1 0 0 (by omega) (by omega) (fun s k x hx hk hI => ?_), Zgy y.1 hy, Int.zero_add]
 have := hy x hx
 unfold isN at this
 rw [Xc (by omega)]
 exact ⟨rfl, by omega⟩
theorem Zow (y : List Int × Int) (hy : ∀ x ∈ y.1, isN x) (hl : y.1.length ≤ 1000) (r : List Int) (hr : ∀ x ∈ r, Jz x) (hrl : r.length = 8 * X2 y.1) :
  Zj (Yr y) (r, 0, []) = some (V3 y.1 r) := by
 have hloop := Xr y.1 (fun i (s : List Int × List (List Int)) => (s.1, i, s.2)) (Yr y) (fun s x => (Q3 s.1 0 (IntKind.i64.wrap (8 * x))).bind fun l15 => (Xm l15).bind fun y16 => (Q8 24 s.2 ([y16.1] : List (List Int))).bind fun l18 => (Q3 s.1 (IntKind.i64.wrap (8 * x)) (s.1.length : Int)).bind fun l19 => some (.inl (l19, l18))) (fun s => s.2) (fun i s x hi hx => by
  unfold Yr
  simp only
  have : decide ((i : Int) < y.1.length) = true := by rw [decide_eq_true_eq]; omega
  rw [this, cond_true, Xv hx, Option.bind_some, Xc (x := (i : Int) + 1) (by omega)]
  cases Q3 s.1 0 (IntKind.i64.wrap (8 * x)) with
  | none => rfl
  | some l15 =>
   simp only [Option.bind_some]
   cases Xm l15 with
   | none => rfl
   | some y16 =>
    simp only [Option.bind_some]
    cases Q8 24 s.2 ([y16.1] : List (List Int)) with
    | none => rfl
    | some l18 =>
     simp only [Option.bind_some]
     cases Q3 s.1 (IntKind.i64.wrap (8 * x)) (s.1.length : Int) with
     | none => rfl
     | some l19 => rfl) (fun s => by
  unfold Yr
  simp only
  have : decide ((y.1.length : Int) < y.1.length) = false := by rw [decide_eq_false_iff_not]; omega
  rw [this, cond_false]) (r, [])
 refine hloop.trans ?_
 have key : ∀ (l : List Int) (r : List Int) (out : List (List Int)), (∀ x ∈ l, isN x) → (∀ x ∈ r, Jz x) → r.length = 8 * X2 l → out.length + l.length ≤ 1000 → X2 l ≤ 100000000 →
   Qs (fun (s : List Int × List (List Int)) x => (Q3 s.1 0 (IntKind.i64.wrap (8 * x))).bind fun l15 => (Xm l15).bind fun y16 => (Q8 24 s.2 ([y16.1] : List (List Int))).bind fun l18 => (Q3 s.1 (IntKind.i64.wrap (8 * x)) (s.1.length : Int)).bind fun l19 => some (.inl (l19, l18))) (fun s => s.2) l (r, out) = some (out ++ V3 l r) := fun l => by
  induction l with
  | nil => intro r out _ _ _ _ _; simp [Qs, V3]
  | cons x l ih =>
   intro r out hx hr hrl ho hs
   have h0 := hx x (.head _)
   unfold isN at h0
   simp only [X2] at hrl hs
   rw [List.length_cons] at ho
   unfold Qs
   simp only
   rw [Xc (x := 8 * x) (by omega), Vo (by omega) (by omega) (by omega), Option.bind_some]
   have e1 : ((r.drop (Int.toNat 0)).take ((8 * x) - 0).toNat) = r.take (8 * x.toNat) := by
    rw [show ((8 * x) - 0).toNat = 8 * x.toNat by omega]; rfl
   have e2 : ((r.drop (8 * x).toNat).take ((r.length : Int) - 8 * x).toNat) = r.drop (8 * x.toNat) := by
    rw [show (8 * x).toNat = 8 * x.toNat by omega, List.take_of_length_le (by rw [List.length_drop]; omega)]
   have e3 : (r.take (8 * x.toNat)).length = 8 * x.toNat := by rw [List.length_take]; omega
   rw [e1, Zm8 _ (fun z hz => hr z (List.mem_of_mem_take hz)) (by omega), if_pos (by omega), Option.bind_some, J4 (by simp only [List.length_cons, List.length_nil]; omega) (by simp only [List.length_cons, List.length_nil]; omega), Option.bind_some, Vo (by omega) (by omega) (by omega), Option.bind_some, e2]
   have := ih (r.drop (8 * x.toNat)) (out ++ [Qy (r.take (8 * x.toNat))]) (fun z hz => hx z (.tail _ hz)) (fun z hz => hr z (List.mem_of_mem_drop hz)) (by rw [List.length_drop]; omega) (by rw [List.length_append]; simp only [List.length_cons, List.length_nil]; omega) (by omega)
   simp only
   rw [this]
   simp [V3]
 have hsum := Zaz y.1 hy
 have := key y.1 r [] hy hr hrl (by simp only [List.length_nil]; omega) (by omega)
 rw [List.nil_append] at this
 exact this
def Z9 (b : List Int) : List (List Int) × Int :=
 if (Yd b).2 ≠ 0 then ([], (Yd b).2)
 else if (b.drop (Z3 (Yd b).1.length)).length < 8 * X2 (Yd b).1 then ([], 4)
 else if 8 * X2 (Yd b).1 < (b.drop (Z3 (Yd b).1.length)).length then ([], 6)
 else (V3 (Yd b).1 (b.drop (Z3 (Yd b).1.length)), 0)
theorem Zbo {b : List Int} (h : (Yd b).2 = 0) : (∀ x ∈ (Yd b).1, isN x) ∧ (Yd b).1.length ≤ 16 ∧ Z3 (Yd b).1.length ≤ b.length ∧ (Yd b).1 = Yn b (Z0 b 0 + 1) := by
 unfold Yd at h ⊢
 split
 ·rename_i h1; rw [if_pos h1] at h; cases h
 rename_i h1
 rw [if_neg h1] at h
 split
 ·rename_i h2; rw [if_pos h2] at h; cases h
 rename_i h2
 rw [if_neg h2] at h
 split
 ·rename_i h3; rw [if_pos h3] at h; cases h
 rename_i h3
 rw [if_neg h3] at h
 split
 ·rename_i h4; rw [if_pos h4] at h; cases h
 rename_i h4
 rw [if_neg h4] at h
 split
 ·rename_i h5; rw [if_pos h5] at h; cases h
 have hl : (Yn b (Z0 b 0 + 1)).length = Z0 b 0 + 1 := by unfold Yn; rw [List.length_map, List.length_range]
 refine ⟨fun x hx => ?_, by simp only [hl]; omega, by simp only [hl]; omega, rfl⟩
 simp only at hx
 unfold Yn at hx
 obtain ⟨i, hi, rfl⟩ := List.mem_map.1 hx
 have : ¬ 65536 < Z0 b (4 * (i + 1)) := fun q => h4 (List.any_eq_true.2 ⟨i, hi, by rw [decide_eq_true_eq]; exact q⟩)
 unfold isN
 omega
theorem Zd9 {b : List Int} (hb : ∀ x ∈ b, Jz x) (hbl : b.length ≤ 140737488355328) : Y2 b = some (Z9 b) := by
 unfold Y2 Z9
 rw [Zoo hb (by omega), Option.bind_some]
 by_cases h : (Yd b).2 = 0
 ·obtain ⟨hN, hl, hh, _⟩ := Zbo h
  obtain ⟨y, hy⟩ : ∃ y, Yd b = y := ⟨_, rfl⟩
  rw [hy] at h hN hl hh ⊢
  have e : (y.2 != 0) = false := by simp [h]
  have hsum := Zaz y.1 hN
  rw [e, cond_false, if_neg (by simp [h]), Gg y.1.length (by omega), Option.bind_some, Vo (by omega) (by omega) (by omega), Option.bind_some]
  have e2 : ((b.drop (Int.toNat (Z3 y.1.length : Int))).take ((b.length : Int) - (Z3 y.1.length : Int)).toNat) = b.drop (Z3 y.1.length) := by
   rw [Int.toNat_natCast, List.take_of_length_le (by rw [List.length_drop]; omega)]
  rw [e2, Zov y hN (by omega), Option.bind_some, Xc (x := 8 * (X2 y.1 : Int)) (by omega)]
  have hr : ∀ x ∈ b.drop (Z3 y.1.length), Jz x := fun x hx => hb x (List.mem_of_mem_drop hx)
  obtain ⟨r, hre⟩ : ∃ r, b.drop (Z3 y.1.length) = r := ⟨_, rfl⟩
  rw [hre] at hr ⊢
  by_cases h1 : r.length < 8 * X2 y.1
  ·have c : decide ((r.length : Int) < 8 * (X2 y.1 : Int)) = true := by rw [decide_eq_true_eq]; omega
   rw [c, cond_true, if_pos h1]
  have c1 : decide ((r.length : Int) < 8 * (X2 y.1 : Int)) = false := by rw [decide_eq_false_iff_not]; omega
  rw [c1, cond_false, if_neg h1]
  by_cases h2 : 8 * X2 y.1 < r.length
  ·have c : decide (8 * (X2 y.1 : Int) < (r.length : Int)) = true := by rw [decide_eq_true_eq]; omega
   rw [c, cond_true, if_pos h2]
  have c2 : decide (8 * (X2 y.1 : Int) < (r.length : Int)) = false := by rw [decide_eq_false_iff_not]; omega
  rw [c2, cond_false, if_neg h2, Zow y hN (by omega) r hr (by omega), Option.bind_some]
 have e : ((Yd b).2 != 0) = true := by simp [h]
 rw [e, cond_true, if_pos h]
theorem Zh2 : Yp = some true := by
 unfold Yp
 have hf : Xq ([([7] : List Int)] : List (List Int)) = some ([0, 0, 0, 0, 1, 0, 0, 0, 7, 0, 0, 0, 0, 0, 0, 0], true) :=
  (Zh4 [[7]] ⟨by decide, by decide, by simp⟩ (by simp [isW])).trans (by decide)
 have hu : Y2 [0, 0, 0, 0, 1, 0, 0, 0, 7, 0, 0, 0, 0, 0, 0, 0] = some ([[7]], 0) :=
  (Zd9 (b := [0, 0, 0, 0, 1, 0, 0, 0, 7, 0, 0, 0, 0, 0, 0, 0]) (by simp [Jz]) (by decide)).trans (by decide)
 rw [hf, Option.bind_some]
 simp only
 rw [hu, Option.bind_some]
 simp only
 rw [cond_true, U0, Zhx _ _ (by decide) (by decide), Option.bind_some, decide_eq_true rfl, cond_true]
 rw [show ((0 : Int) == 0) = true from rfl, cond_true, Zjf _ _ (by decide) (by decide) (by simp) (by simp), Option.bind_some, decide_eq_true rfl]
 rfl
end Go.Proofs.Ytgijkjifiekkmaa
