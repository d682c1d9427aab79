/- Plain facts on this seat's mirrors (part SP1); each theorem bears its own conditions. -/
import Derived.Test.YtmpkfolcikhofaaSM5
import Derived.IntWalk
namespace Go.Proofs.Ytmpkfolcikhofaa
open Go.RowKit
set_option linter.unusedVariables false
set_option linter.unusedSimpArgs false
abbrev Tr := S_api_Tree
theorem Zef {x : Int} (h1 : -9223372036854775808 ≤ x) (h2 : x ≤ 9223372036854775807) : IntKind.i64.wrap x = x := Zx8 ⟨h1, h2⟩
theorem K4 {t x : Tr} (h : x ∈ t.Kids) : SizeOf.sizeOf x < SizeOf.sizeOf t := by
 obtain ⟨k, w, ks⟩ := t
 have := List.sizeOf_lt_of_mem h
 simp only [S_api_Tree.mk.sizeOf_spec]
 simp only at this
 omega
theorem Zms {α R : Type} (xs : List α) (step : Int → Option (Int ⊕ R)) (p : α → Bool) (e o : R) (hl : (xs.length : Int) ≤ 140737488355328)
  (h1 : ∀ (i : Nat) (x : α), i < xs.length → xs[i]? = some x → x ∈ xs → step i = some (if p x = true then .inr e else .inl (IntKind.i64.wrap ((i : Int) + 1)))) (h2 : step xs.length = some (.inr o)) : Z5 step 0 = some (if xs.any p = true then e else o) := by
 have hloop := Zvm xs (fun i (_ : Unit) => i) step (fun _ x => some (if p x = true then .inr e else .inl ())) (fun _ => o) (fun i s x hi hx => by
  rw [h1 i x hi hx (List.mem_of_getElem? hx), Zef (by omega) (by omega)]
  cases p x <;> rfl) (fun _ => h2) ()
 refine hloop.trans ?_
 rw [Zme p (fun s _ => s) e (fun _ _ => True) xs.length xs () 0 (by omega) trivial (fun s k x _ _ _ => ⟨by cases p x <;> rfl, fun _ => trivial⟩)]
theorem Zeg {i n : Nat} (h : i < n) : decide ((i : Int) < (n : Int)) = true := by rw [decide_eq_true_eq]; omega
theorem Zlh {n : Nat} : decide ((n : Int) < (n : Int)) = false := by rw [decide_eq_false_iff_not]; omega
def tr {α : Type} (p : α → Bool) : List α → List α
 | [] => []
 | x :: xs => match tr p xs with
  | [] => if p x = true then [] else [x]
  | y :: ys => x :: y :: ys
def trN {α : Type} (p : α → Bool) (l : List α) : Nat → Nat
 | 0 => 0
 | n + 1 => match l[n]? with
  | some x => if p x = true then trN p l n else n + 1
  | none => 0
theorem Zle {α : Type} {p : α → Bool} {x : α} (h : p x = true) : ∀ l : List α, tr p (l ++ [x]) = tr p l
 | [] => by simp [tr, h]
 | y :: l => by simp only [List.cons_append, tr, Zle h l]
theorem Zld {α : Type} {p : α → Bool} {x : α} (h : p x = false) : ∀ l : List α, tr p (l ++ [x]) = l ++ [x]
 | [] => by simp [tr, h]
 | y :: l => by
  simp only [List.cons_append, tr, Zld h l]
  cases hl : l ++ [x] with
  | nil => simp at hl
  | cons a b => rfl
theorem Zob {α : Type} {p : α → Bool} {l : List α} : ∀ n, n ≤ l.length → l.take (trN p l n) = tr p (l.take n) ∧ trN p l n ≤ n
 | 0, _ => by simp [trN, tr]
 | n + 1, h => by
  have hn : l[n]? = some l[n] := List.getElem?_eq_getElem (by omega)
  have e : l.take (n + 1) = l.take n ++ [l[n]] := by rw [List.take_add_one, hn]; rfl
  obtain ⟨h1, h2⟩ := Zob (p := p) (l := l) n (by omega)
  unfold trN
  rw [hn]
  simp only
  split
  ·rename_i hp
   rw [e, Zle hp]
   exact ⟨h1, by omega⟩
  rename_i hp
  rw [e, Zld (by simpa using hp), ← e]
  exact ⟨rfl, Nat.le_refl _⟩
theorem Zgx {α : Type} (p : α → Bool) : ∀ l : List α, (tr p l).length ≤ l.length
 | [] => by simp [tr]
 | x :: l => by
  have := Zgx p l
  simp only [tr]
  split
  ·split <;> simp
  rename_i y ys he
  rw [he] at this
  simp at this ⊢
  omega
theorem Zc9 {α : Type} {p : α → Bool} {x : α} : ∀ {l : List α}, x ∈ tr p l → x ∈ l
 | [], h => by simp [tr] at h
 | y :: l, h => by
  simp only [tr] at h
  split at h
  ·split at h
   ·simp at h
   simp at h; simp [h]
  rename_i z zs he
  rw [← he] at h
  rcases List.mem_cons.1 h with h | h
  ·simp [h]
  exact List.mem_cons_of_mem _ (Zc9 h)
theorem Zs5 {α : Type} {p : α → Bool} : ∀ l : List α, tr p (tr p l) = tr p l
 | [] => rfl
 | x :: l => by
  have ih := Zs5 (p := p) l
  simp only [tr]
  cases h : tr p l with
  | nil =>
   simp only
   cases hx : p x <;> simp [tr, hx]
  | cons y ys =>
   rw [h] at ih
   simp only [tr] at ih ⊢
   rw [ih]
theorem Zqx {α β : Type} {p : α → Bool} {q : β → Bool} {f : α → β} (h : ∀ x, q (f x) = p x) : ∀ l : List α, tr q (l.map f) = (tr p l).map f
 | [] => rfl
 | x :: l => by
  simp only [List.map_cons, tr, Zqx h l]
  cases tr p l with
  | nil => simp only [List.map_nil, h]; split <;> rfl
  | cons y ys => rfl
theorem Zqd {α : Type} (l : List α) (p : α → Bool) (step : Int → Option (Int ⊕ Int)) (hl : (l.length : Int) ≤ 140737488355328)
  (h0 : step 0 = some (.inr 0)) (h1 : ∀ (n : Nat) (x : α), l[n]? = some x → n < l.length → step ((n + 1 : Nat) : Int) = some (if p x = true then .inl (n : Int) else .inr ((n + 1 : Nat) : Int))) : Z5 step (l.length : Int) = some (trN p l l.length : Int) := by
 have key : ∀ n : Nat, n ≤ l.length → Z5 step (n : Int) = some (trN p l n : Int) := fun n => by
  induction n with
  | zero => intro _; exact Yo h0
  | succ n ih =>
   intro hn
   have hx : l[n]? = some l[n] := List.getElem?_eq_getElem (by omega)
   have h := h1 n _ hx (by omega)
   unfold trN
   rw [hx]
   simp only
   split
   ·rename_i hp
    rw [if_pos hp] at h
    rw [Qm h]
    exact ih (by omega)
   rename_i hp
   rw [if_neg hp] at h
   exact Yo h
 exact key l.length (Nat.le_refl _)
theorem Zjf {α : Type} {l : List α} {n : Nat} (h : n ≤ l.length) : Gz l 0 (n : Int) = some (l.take n) := by
 rw [Zg9 (by omega) (by omega) (by omega)]
 simp
theorem Zza {n : Nat} : decide (0 < ((n + 1 : Nat) : Int)) = true := by rw [decide_eq_true_eq]; omega
theorem Zet {l : List Int} (hl : (l.length : Int) ≤ 140737488355328) : Qf l = some (tr (fun x => x == 0) l) := by
 have hloop := Zqd l (fun x => x == 0) (Jj l) hl (by unfold Jj; rfl) (fun n x hx hn => by
  unfold Jj
  rw [Zza, cond_true, Zef (by omega) (by omega)]
  have e : ((n + 1 : Nat) : Int) - 1 = (n : Int) := by omega
  rw [e, Yy hx]
  simp only [Option.bind_some, cond_true]
  cases x == 0 <;> rfl)
 obtain ⟨h1, h2⟩ := Zob (p := fun x => x == 0) (l := l) l.length (Nat.le_refl _)
 unfold Qf
 rw [hloop, Option.bind_some, Zjf h2, Option.bind_some, h1, List.take_length]
theorem Zgy {l : List Tr} (hl : (l.length : Int) ≤ 140737488355328) : Jg l = some (tr (fun x => x.Kind == 0) l) := by
 have hloop := Zqd l (fun x => x.Kind == 0) (J6 l) hl (by unfold J6; rfl) (fun n x hx hn => by
  unfold J6
  rw [Zza, cond_true, Zef (by omega) (by omega)]
  have e : ((n + 1 : Nat) : Int) - 1 = (n : Int) := by omega
  rw [e, Yy hx]
  simp only [Option.bind_some, cond_true]
  cases x.Kind == 0 <;> rfl)
 obtain ⟨h1, h2⟩ := Zob (p := fun x => x.Kind == 0) (l := l) l.length (Nat.le_refl _)
 unfold Jg
 rw [hloop, Option.bind_some, Zjf h2, Option.bind_some, h1, List.take_length]
theorem Zw6 {l : List Int} (hl : l.length * 8 ≤ 140737488355328) : Km l = some (tr (fun x => x == 0) l) := by
 have hloop := Zqd l (fun x => x == 0) (Qt l) (by omega) (by unfold Qt; rfl) (fun n x hx hn => by
  unfold Qt
  rw [Zza, cond_true, Zef (by omega) (by omega)]
  have e : ((n + 1 : Nat) : Int) - 1 = (n : Int) := by omega
  rw [e, Yy hx]
  simp only [Option.bind_some, cond_true]
  cases x == 0 <;> rfl)
 obtain ⟨h1, h2⟩ := Zob (p := fun x => x == 0) (l := l) l.length (Nat.le_refl _)
 have h3 := Zgx (fun x => x == 0) l
 unfold Km
 rw [hloop, Option.bind_some, Zjf h2, Option.bind_some, h1, List.take_length, Zab (by rw [List.length_nil]; omega) (by rw [List.length_nil]; omega)]
 rfl
inductive Bd : Tr → Prop
 | mk (t : Tr) (h1 : t.Words.length * 8 ≤ 140737488355328) (h2 : t.Kids.length * 56 ≤ 140737488355328) (h3 : ∀ w ∈ t.Words, 0 ≤ w ∧ w < 18446744073709551616) (h4 : ∀ k ∈ t.Kids, Bd k) : Bd t
theorem Bd.w {t : Tr} (h : Bd t) : t.Words.length * 8 ≤ 140737488355328 := by cases h; assumption
theorem Bd.k {t : Tr} (h : Bd t) : t.Kids.length * 56 ≤ 140737488355328 := by cases h; assumption
theorem Bd.u {t : Tr} (h : Bd t) : ∀ w ∈ t.Words, 0 ≤ w ∧ w < 18446744073709551616 := by cases h; assumption
theorem Bd.all {t : Tr} (h : Bd t) : ∀ k ∈ t.Kids, Bd k := by cases h; assumption
def nrm (t : Tr) : Tr :=
 if t.Kind = 0 then ⟨0, [], []⟩
 else if t.Kind = 1 then ⟨1, tr (fun x => x == 0) t.Words, tr (fun x => x.Kind == 0) (t.Kids.attach.map fun k => nrm k.1)⟩
 else ⟨t.Kind, t.Words, t.Kids.attach.map fun k => nrm k.1⟩
termination_by SizeOf.sizeOf t
decreasing_by all_goals exact K4 k.2
theorem Gu (t : Tr) : nrm t = if t.Kind = 0 then ⟨0, [], []⟩ else if t.Kind = 1 then ⟨1, tr (fun x => x == 0) t.Words, tr (fun x => x.Kind == 0) (t.Kids.map nrm)⟩ else ⟨t.Kind, t.Words, t.Kids.map nrm⟩ := by
 rw [nrm]
 simp only [List.attach_map_val]
theorem Ut (t : Tr) : (nrm t).Kind = t.Kind := by
 rw [Gu]
 split
 ·rename_i h; exact h.symm
 split
 ·rename_i h; exact h.symm
 rfl
theorem Zxf {α β : Type} {xs : List α} {f : α → β} {z : β} {i m : Nat} {x : α} (hi : i + (m + 1) = xs.length) (hx : xs[i]? = some x) :
  ((xs.take i).map f ++ List.replicate (m + 1) z).set i (f x) = (xs.take (i + 1)).map f ++ List.replicate m z := by
 have hl : ((xs.take i).map f).length = i := by rw [List.length_map, List.length_take]; omega
 rw [List.set_append, if_neg (by omega), hl, Nat.sub_self, List.replicate_succ, List.set_cons_zero, List.take_add_one, hx]
 simp
theorem Zwr {α β : Type} (xs : List α) (f : α → β) (z : β) (step : Int × List β → Option ((Int × List β) ⊕ List β)) (hl : (xs.length : Int) ≤ 140737488355328)
  (h1 : ∀ (i : Nat) (x : α) (out : List β) (y : β), i < xs.length → xs[i]? = some x → x ∈ xs → out[i]? = some y → step ((i : Int), out) = some (.inl (IntKind.i64.wrap ((i : Int) + 1), Gl out (i : Int) (f x))))
  (h2 : ∀ out, step ((xs.length : Int), out) = some (.inr out)) : Z5 step (0, List.replicate xs.length z) = some (xs.map f) := by
 have key : ∀ m i, i + m = xs.length → Z5 step ((i : Int), (xs.take i).map f ++ List.replicate m z) = some (xs.map f) := fun m => by
  induction m with
  | zero =>
   intro i hi
   have hi' : i = xs.length := by omega
   subst hi'
   rw [List.take_length, List.replicate_zero, List.append_nil]
   exact Yo (h2 _)
  | succ m ih =>
   intro i hi
   have hx : xs[i]? = some xs[i] := List.getElem?_eq_getElem (by omega)
   have hl' : ((xs.take i).map f).length = i := by rw [List.length_map, List.length_take]; omega
   have hy : ((xs.take i).map f ++ List.replicate (m + 1) z)[i]? = some z := by
    rw [List.getElem?_append_right (by omega), hl', Nat.sub_self, List.replicate_succ]; rfl
   have h := h1 i _ _ z (by omega) hx (List.mem_of_getElem? hx) hy
   rw [Zef (by omega) (by omega)] at h
   rw [Qm h]
   unfold Gl
   rw [Int.toNat_natCast, Zxf (by omega) hx]
   exact ih (i + 1) (by omega)
 have := key xs.length 0 (by omega)
 simpa using this
theorem Zuu : ∀ (k : Nat) (t : Tr), Bd t → SizeOf.sizeOf t < k → Jr k t = some (nrm t)
 | 0, t, _, h => by omega
 | k + 1, t, hb, hk => by
  have ih : ∀ x ∈ t.Kids, Jr k x = some (nrm x) := fun x hx => Zuu k x (hb.all x hx) (by have := K4 hx; omega)
  have hw := hb.w
  have hkd := hb.k
  show Zai (Jr k) t = _
  unfold Zai
  rw [Gu]
  by_cases h0 : t.Kind = 0
  ·rw [if_pos h0, h0]; rfl
  have e0 : (t.Kind == 0) = false := by rw [beq_eq_false_iff_ne]; exact h0
  rw [if_neg h0, e0, cond_false]
  have main : ∀ (w : List Int) (ks : List Tr), (ks.length : Int) ≤ 140737488355328 → (56 : Int) * ks.length ≤ 140737488355328 → (∀ x ∈ ks, Jr k x = some (nrm x)) →
    ((cond (decide (0 < ((w, ks).2.length : Int))) ((Zfp 56 ((w, ks).2.length : Int) (⟨(0 : Int), ([] : (List Int)), ([] : (List S_api_Tree))⟩ : S_api_Tree)).bind fun l6 => some l6) (some ([] : List S_api_Tree))).bind fun (z5 : (List S_api_Tree)) => (Z5 (K2 (Jr k) (w, ks)) (0, z5)).bind fun (z14 : (List S_api_Tree)) => some (⟨t.Kind, (w, ks).1, z14⟩ : S_api_Tree)) = some ⟨t.Kind, w, ks.map nrm⟩ := fun w ks h1 h2 hks => by
   have hz : (cond (decide (0 < ((w, ks).2.length : Int))) ((Zfp 56 ((w, ks).2.length : Int) (⟨(0 : Int), ([] : (List Int)), ([] : (List S_api_Tree))⟩ : S_api_Tree)).bind fun l6 => some l6) (some ([] : List S_api_Tree))) = some (List.replicate ks.length (⟨0, [], []⟩ : Tr)) := by
    cases ks with
    | nil => rfl
    | cons y ys =>
     have : decide (0 < (((w, y :: ys).2.length : Nat) : Int)) = true := by rw [decide_eq_true_eq]; simp
     rw [this, cond_true, Zwt (Int.natCast_nonneg _) h2 h1, Option.bind_some, Int.toNat_natCast]
   rw [hz, Option.bind_some]
   rw [Zwr ks nrm _ (K2 (Jr k) (w, ks)) h1 (fun i x out z hi hx hm hz => by
     unfold K2
     simp only
     rw [Zeg hi, cond_true, Yy hx, Option.bind_some, hks x hm, Option.bind_some, Yy hz, Option.bind_some]) (fun out => by
     unfold K2
     simp only
     rw [Zlh, cond_false]), Option.bind_some]
  by_cases h1 : t.Kind = 1
  ·have e1 : (t.Kind == 1) = true := by rw [beq_iff_eq]; exact h1
   have l1 := Zgx (fun x : Tr => x.Kind == 0) t.Kids
   rw [if_pos h1, e1, cond_true, Zet (by omega), Option.bind_some, Zgy (by omega), Option.bind_some, Option.bind_some]
   rw [main _ _ (by omega) (by omega) (fun x hx => ih x (Zc9 hx)), Zqx (fun x => by rw [Ut]), h1]
  have e1 : (t.Kind == 1) = false := by rw [beq_eq_false_iff_ne]; exact h1
  rw [if_neg h1, e1, cond_false, Option.bind_some]
  exact main _ _ (by omega) (by omega) ih
theorem Zyf {t : Tr} (h : Bd t) : Zfo t = some (nrm t) := Zfn (SizeOf.sizeOf t + 1) fun k hk => Zuu k t h (by omega)
theorem Zaz {α : Type} {p : α → Bool} {x : α} {l : List α} (h : tr p l = []) : tr p (x :: l) = if p x = true then [] else [x] := by simp only [tr, h]
theorem Zes {α : Type} {p : α → Bool} {x : α} {l : List α} (h : tr p l ≠ []) : tr p (x :: l) = x :: tr p l := by
 simp only [tr]
 split
 ·rename_i h'; exact absurd h' h
 rename_i h'; rw [h']
theorem Zuq : ∀ (l : List Tr) (n : Nat) (acc : Int), (l.zipIdx n).foldl (fun a p => if p.1.Kind = 0 then a else ((p.2 + 1 : Nat) : Int)) acc = if (tr (fun x => x.Kind == 0) l).length = 0 then acc else ((n + (tr (fun x => x.Kind == 0) l).length : Nat) : Int)
 | [], n, acc => by simp [tr]
 | x :: l, n, acc => by
  rw [List.zipIdx_cons, List.foldl_cons, Zuq l (n + 1)]
  by_cases h : tr (fun x => x.Kind == 0) l = []
  ·rw [Zaz h, h]
   by_cases hx : x.Kind = 0
   ·simp [hx]
   simp [hx]
  have h' : (tr (fun x => x.Kind == 0) l).length ≠ 0 := by simpa using h
  rw [Zes h, if_neg h', List.length_cons, if_neg (by omega)]
  congr 1
  omega
theorem Zyn {α : Type} (p : α → Bool) (l : List α) : l.take (tr p l).length = tr p l := by
 obtain ⟨h1, h2⟩ := Zob (p := p) (l := l) l.length (Nat.le_refl _)
 rw [List.take_length] at h1
 rw [← h1, List.length_take]
 congr 1
 omega
theorem Zxa {k : Nat} {t : Tr} (hl : t.Kids.length * 56 ≤ 140737488355328) (ih : ∀ x ∈ t.Kids, Ym k x = some (nrm x)) :
  Z5 (Y7 (Ym k) t) (0, 0, []) = some (if (tr (fun x => x.Kind == 0) (t.Kids.map nrm)).length = 0 then 0 else ((tr (fun x => x.Kind == 0) (t.Kids.map nrm)).length : Int), t.Kids.map nrm) := by
 have key : ∀ (l pre : List Tr) (a : Int), t.Kids = pre ++ l → Z5 (Y7 (Ym k) t) (a, ((pre.length : Nat) : Int), pre.map nrm) = some (((l.map nrm).zipIdx pre.length).foldl (fun a p => if p.1.Kind = 0 then a else ((p.2 + 1 : Nat) : Int)) a, t.Kids.map nrm) := fun l => by
  induction l with
  | nil =>
   intro pre a hp
   rw [List.append_nil] at hp
   refine Yo ?_
   unfold Y7
   simp only
   rw [hp, Zlh, cond_false]
   rfl
  | cons x l ihl =>
   intro pre a hp
   have hx : t.Kids[pre.length]? = some x := by rw [hp, List.getElem?_append_right (Nat.le_refl _), Nat.sub_self]; rfl
   have hi : pre.length < t.Kids.length := by rw [hp]; simp
   have hm : x ∈ t.Kids := List.mem_of_getElem? hx
   have hs : Y7 (Ym k) t (a, ((pre.length : Nat) : Int), pre.map nrm) = some (.inl (if x.Kind = 0 then a else ((pre.length + 1 : Nat) : Int), (((pre ++ [x]).length : Nat) : Int), (pre ++ [x]).map nrm)) := by
    unfold Y7
    simp only
    rw [Zeg hi, cond_true, Yy hx, Option.bind_some, ih x hm, Option.bind_some, Zab (by simp; omega) (by simp; omega), Option.bind_some, Zef (by omega) (by omega), Ut]
    have e : ((pre.length : Nat) : Int) + 1 = ((pre.length + 1 : Nat) : Int) := by omega
    rw [e]
    by_cases h0 : x.Kind = 0
    ·simp [h0]
    have : (x.Kind != 0) = true := by simp [h0]
    rw [this, cond_true]
    simp [h0]
   rw [Qm hs, ihl (pre ++ [x]) _ (by rw [hp]; simp)]
   simp only [List.map_cons, List.zipIdx_cons, List.foldl_cons, List.length_append, List.length_singleton, Ut]
 have := key t.Kids [] 0 rfl
 rw [Zuq] at this
 simpa using this
theorem Zr1 : ∀ (k : Nat) (t : Tr), Bd t → SizeOf.sizeOf t < k → Ym k t = some (nrm t)
 | 0, t, _, h => by omega
 | k + 1, t, hb, hk => by
  have ih : ∀ x ∈ t.Kids, Ym k x = some (nrm x) := fun x hx => Zr1 k x (hb.all x hx) (by have := K4 hx; omega)
  have hw := hb.w
  have hkd := hb.k
  show Kg (Ym k) t = _
  unfold Kg
  rw [Gu]
  by_cases h0 : t.Kind = 0
  ·rw [if_pos h0, h0]; rfl
  have e0 : (t.Kind == 0) = false := by rw [beq_eq_false_iff_ne]; exact h0
  rw [if_neg h0, e0, cond_false, Zxa hkd ih, Option.bind_some]
  by_cases h1 : t.Kind = 1
  ·have e1 : (t.Kind == 1) = true := by rw [beq_iff_eq]; exact h1
   rw [if_pos h1, e1, cond_true, Zw6 hw, Option.bind_some]
   have l1 := Zgx (fun x : Tr => x.Kind == 0) (t.Kids.map nrm)
   have l2 : (if (tr (fun x => x.Kind == 0) (t.Kids.map nrm)).length = 0 then (0 : Int) else ((tr (fun x => x.Kind == 0) (t.Kids.map nrm)).length : Int)) = ((tr (fun x => x.Kind == 0) (t.Kids.map nrm)).length : Int) := by
    split
    ·rename_i h; rw [h]; rfl
    rfl
   simp only [l2]
   rw [Zjf l1, Option.bind_some, Zyn]
  have e1 : (t.Kind == 1) = false := by rw [beq_eq_false_iff_ne]; exact h1
  rw [if_neg h1, e1, cond_false, Zab (by rw [List.length_nil]; omega) (by rw [List.length_nil]; omega)]
  rfl
theorem Zi8 {t : Tr} (h : Bd t) : Jb t = some (nrm t) := Zfn (SizeOf.sizeOf t + 1) fun k hk => Zr1 k t h (by omega)
theorem Zwx : ∀ (n : Nat) (t : Tr), SizeOf.sizeOf t < n → Bd t → Bd (nrm t)
 | 0, t, h, _ => by omega
 | n + 1, t, hn, hb => by
  have ih : ∀ x ∈ t.Kids, Bd (nrm x) := fun x hx => Zwx n x (by have := K4 hx; omega) (hb.all x hx)
  have hw := hb.w
  have hk := hb.k
  rw [Gu]
  split
  ·exact .mk _ (by simp) (by simp) (fun w h => by simp at h) (fun w h => by simp at h)
  split
  ·have l1 := Zgx (fun x : Int => x == 0) t.Words
   have l2 := Zgx (fun x : Tr => x.Kind == 0) (t.Kids.map nrm)
   rw [List.length_map] at l2
   refine .mk _ (by simp only; omega) (Nat.le_trans (Nat.mul_le_mul_right 56 l2) hk) (fun w h => hb.u w (Zc9 h)) (fun x h => ?_)
   obtain ⟨y, hy, rfl⟩ := List.mem_map.1 (Zc9 h)
   exact ih y hy
  refine .mk _ hw (by simp only [List.length_map]; exact hk) hb.u (fun x h => ?_)
  obtain ⟨y, hy, rfl⟩ := List.mem_map.1 h
  exact ih y hy
theorem Bd.nrm {t : Tr} (h : Bd t) : Bd (nrm t) := Zwx _ t (Nat.lt_succ_self _) h
theorem Zpd : ∀ (n : Nat) (t : Tr), SizeOf.sizeOf t < n → nrm (nrm t) = nrm t
 | 0, t, h => by omega
 | n + 1, t, hn => by
  have ih : ∀ x ∈ t.Kids, nrm (nrm x) = nrm x := fun x hx => Zpd n x (by have := K4 hx; omega)
  have em : ∀ l : List Tr, (∀ x ∈ l, x ∈ t.Kids) → (l.map nrm).map nrm = l.map nrm := fun l hl => by
   rw [List.map_map]
   exact List.map_congr_left fun x hx => ih x (hl x hx)
  rw [Gu t]
  by_cases h0 : t.Kind = 0
  ·rw [if_pos h0, Gu]; simp
  rw [if_neg h0]
  by_cases h1 : t.Kind = 1
  ·rw [if_pos h1, Gu]
   simp only [if_neg (show ¬ (1 : Int) = 0 by decide), if_true]
   have q1 : ∀ l : List Tr, tr (fun x : Tr => x.Kind == 0) (l.map nrm) = (tr (fun x : Tr => x.Kind == 0) l).map nrm := Zqx (fun x => by rw [Ut])
   rw [Zs5, q1, Zs5, q1, em _ (fun x hx => Zc9 hx)]
  rw [if_neg h1, Gu]
  simp only
  rw [if_neg h0, if_neg h1, em _ (fun x hx => hx)]
theorem Zls (t : Tr) : nrm (nrm t) = nrm t := Zpd _ t (Nat.lt_succ_self _)
def eqT (a b : Tr) : Bool := a.Kind == b.Kind && (a.Words == b.Words && (a.Kids.length == b.Kids.length && (a.Kids.attach.zip b.Kids).all fun p => eqT p.1.1 p.2))
termination_by SizeOf.sizeOf a
decreasing_by exact K4 p.1.2
def eqL : List Tr → List Tr → Bool
 | [], [] => true
 | x :: xs, y :: ys => eqT x y && eqL xs ys
 | _, _ => false
theorem Zu9 : ∀ (l m : List Tr) (P : Tr → Prop) (l' : List {x // P x}), l'.map (·.1) = l → (l.length == m.length && (l'.zip m).all fun p => eqT p.1.1 p.2) = eqL l m
 | [], [], P, l', h => by cases l' <;> simp_all [eqL]
 | [], y :: m, P, l', h => by cases l' <;> simp_all [eqL]
 | x :: l, [], P, l', h => by cases l' <;> simp_all [eqL]
 | x :: l, y :: m, P, l', h => by
  cases l' with
  | nil => simp at h
  | cons z l' =>
   simp only [List.map_cons, List.cons.injEq] at h
   have ih := Zu9 l m P l' h.2
   simp only [List.length_cons, List.zip_cons_cons, List.all_cons, eqL, h.1]
   rw [← ih]
   have : (l.length + 1 == m.length + 1) = (l.length == m.length) := by simp
   rw [this]
   cases l.length == m.length <;> cases eqT x y <;> rfl
theorem Ztk (a b : Tr) : eqT a b = (a.Kind == b.Kind && (a.Words == b.Words && eqL a.Kids b.Kids)) := by
 rw [eqT, Zu9 a.Kids b.Kids (· ∈ a.Kids) a.Kids.attach (by simp)]
theorem Zl9 (x y : Tr) (xs ys : List Tr) : eqL (x :: xs) (y :: ys) = (eqT x y && eqL xs ys) := rfl
theorem Zo4 : ∀ (n : Nat) (a b : Tr), SizeOf.sizeOf a < n → (eqT a b = true ↔ a = b)
 | 0, a, b, h => by omega
 | n + 1, a, b, hn => by
  have ih : ∀ x ∈ a.Kids, ∀ y, eqT x y = true ↔ x = y := fun x hx y => Zo4 n x y (by have := K4 hx; omega)
  have hl : ∀ (l m : List Tr), (∀ x ∈ l, x ∈ a.Kids) → (eqL l m = true ↔ l = m) := fun l => by
   induction l with
   | nil => intro m _; cases m <;> simp [eqL]
   | cons x l ihl =>
    intro m hm
    cases m with
    | nil => simp [eqL]
    | cons y m => rw [Zl9, Bool.and_eq_true, ih x (hm x (.head _)) y, ihl m (fun z hz => hm z (.tail _ hz)), List.cons.injEq]
  rw [Ztk, Bool.and_eq_true, Bool.and_eq_true, hl a.Kids b.Kids (fun x hx => hx), beq_iff_eq, beq_iff_eq]
  obtain ⟨k, w, ks⟩ := a
  obtain ⟨k', w', ks'⟩ := b
  simp
theorem eqT_iff {a b : Tr} : eqT a b = true ↔ a = b := Zo4 _ a b (Nat.lt_succ_self _)
theorem Zv3 : ∀ (a b : List Int), a.length = b.length → (a.zip b).any (fun p => p.1 != p.2) = !(a == b)
 | [], [], _ => rfl
 | [], _ :: _, h => by simp at h
 | _ :: _, [], h => by simp at h
 | x :: a, y :: b, h => by
  have ih := Zv3 a b (by simpa using h)
  rw [List.zip_cons_cons, List.any_cons, ih]
  by_cases hxy : x = y
  ·subst hxy; simp
  simp [bne, hxy]
theorem Zrn {R : Type} (a b : List Int) (step : Int → Option (Int ⊕ R)) (e o : R) (hab : a.length = b.length) (hl : (a.length : Int) ≤ 140737488355328)
  (h1 : ∀ (i : Nat) (x y : Int), i < a.length → a[i]? = some x → b[i]? = some y → step i = some (if (x != y) = true then .inr e else .inl (IntKind.i64.wrap ((i : Int) + 1)))) (h2 : step a.length = some (.inr o)) :
  Z5 step 0 = some (if (a == b) = true then o else e) := by
 have hz : (a.zip b).length = a.length := by rw [List.length_zip]; omega
 have := Zms (a.zip b) step (fun p => p.1 != p.2) e o (by rw [hz]; exact hl) (fun i p hi hp hm => by
  rw [hz] at hi
  have ha : a[i]? = some a[i] := List.getElem?_eq_getElem hi
  have hb : b[i]? = some b[i] := List.getElem?_eq_getElem (by omega)
  have : p = (a[i], b[i]) := by
   rw [List.getElem?_eq_getElem (by rw [hz]; exact hi)] at hp
   injection hp with hp
   rw [← hp, List.getElem_zip]
  subst this
  exact h1 i _ _ hi ha hb) (by rw [hz]; exact h2)
 rw [this, Zv3 a b hab]
 cases a == b <;> rfl
theorem Zqc {a b : Nat} : ((a : Int) != (b : Int)) = !(a == b) := by
 rw [Bool.eq_iff_iff]; simp; omega
theorem Zuh {a b : List Int} (h : ¬ a.length = b.length) : (a == b) = false := by
 rw [beq_eq_false_iff_ne]; intro e; exact h (by rw [e])
theorem Zxe {a b : List Int} (h : (a.length : Int) ≤ 140737488355328) : Kl a b = some (a == b) := by
 unfold Kl
 rw [Zqc]
 by_cases hab : a.length = b.length
 ·have : (!(a.length == b.length)) = false := by simp [hab]
  rw [this, cond_false, Zrn a b (Qs a b) (.inl ()) (.inr ()) hab h (fun i x y hi hx hy => by
   unfold Qs
   rw [Zeg hi, cond_true, Yy hx, Option.bind_some, Yy hy, Option.bind_some]
   cases x != y <;> rfl) (by unfold Qs; rw [Zlh]; rfl)]
  cases a == b <;> rfl
 have : (!(a.length == b.length)) = true := by simp [hab]
 rw [this, cond_true, Zuh hab]
theorem Zo5 {a b : List Int} (h : (a.length : Int) ≤ 140737488355328) : Yl a b = some (a == b) := by
 unfold Yl
 rw [Zqc]
 by_cases hab : a.length = b.length
 ·have : (!(a.length == b.length)) = false := by simp [hab]
  rw [this, cond_false, Zrn a b (Yn a b) (.inl ()) (.inr ()) hab h (fun i x y hi hx hy => by
   unfold Yn
   rw [Zeg hi, cond_true, Yy hx, Option.bind_some, Yy hy, Option.bind_some]
   cases x != y <;> rfl) (by unfold Yn; rw [Zlh]; rfl)]
  cases a == b <;> rfl
 have : (!(a.length == b.length)) = true := by simp [hab]
 rw [this, cond_true, Zuh hab]
theorem Zyr (q : Tr → Tr → Bool) : ∀ (a b : List Tr), (a.zip b).any (fun p => !q p.1 p.2) = !((a.zip b).all fun p => q p.1 p.2)
 | [], b => by simp
 | x :: a, [] => by simp
 | x :: a, y :: b => by rw [List.zip_cons_cons, List.any_cons, Zyr q a b, List.all_cons]; cases q x y <;> rfl
theorem Zpb {R : Type} (a b : List Tr) (q : Tr → Tr → Bool) (step : Int → Option (Int ⊕ R)) (e o : R) (hab : a.length = b.length) (hl : (a.length : Int) ≤ 140737488355328)
  (h1 : ∀ (i : Nat) (x y : Tr), i < a.length → a[i]? = some x → b[i]? = some y → x ∈ a → y ∈ b → step i = some (if (!q x y) = true then .inr e else .inl (IntKind.i64.wrap ((i : Int) + 1)))) (h2 : step a.length = some (.inr o)) :
  Z5 step 0 = some (if ((a.zip b).all fun p => q p.1 p.2) = true then o else e) := by
 have hz : (a.zip b).length = a.length := by rw [List.length_zip]; omega
 have := Zms (a.zip b) step (fun p => !q p.1 p.2) e o (by rw [hz]; exact hl) (fun i p hi hp hm => by
  rw [hz] at hi
  have ha : a[i]? = some a[i] := List.getElem?_eq_getElem hi
  have hb : b[i]? = some b[i] := List.getElem?_eq_getElem (by omega)
  have : p = (a[i], b[i]) := by
   rw [List.getElem?_eq_getElem (by rw [hz]; exact hi)] at hp
   injection hp with hp
   rw [← hp, List.getElem_zip]
  subst this
  exact h1 i _ _ hi ha hb (List.getElem_mem _) (List.getElem_mem _)) (by rw [hz]; exact h2)
 rw [this, Zyr q a b]
 cases (a.zip b).all fun p => q p.1 p.2 <;> rfl
theorem Zue (f : Tr → Tr) : ∀ (a b : List Tr), a.length = b.length → ((a.zip b).all fun p => eqT (f p.1) (f p.2)) = eqL (a.map f) (b.map f)
 | [], [], _ => rfl
 | [], _ :: _, h => by simp at h
 | _ :: _, [], h => by simp at h
 | x :: a, y :: b, h => by
  have ih := Zue f a b (by simpa using h)
  rw [List.zip_cons_cons, List.all_cons, ih]; rfl
theorem Zq0 : ∀ (a b : List Tr), a.length = b.length → ((a.zip b).all fun p => eqT p.1 p.2) = eqL a b
 | [], [], _ => rfl
 | [], _ :: _, h => by simp at h
 | _ :: _, [], h => by simp at h
 | x :: a, y :: b, h => by
  have ih := Zq0 a b (by simpa using h)
  rw [List.zip_cons_cons, List.all_cons, ih]; rfl
theorem Zpv : ∀ (a b : List Tr), a.length ≠ b.length → eqL a b = false
 | [], [], h => by simp at h
 | [], _ :: _, _ => rfl
 | _ :: _, [], _ => rfl
 | x :: a, y :: b, h => by rw [Zl9, Zpv a b (by simpa using h), Bool.and_false]
theorem Zu2 : ∀ (k : Nat) (a b : Tr), Bd a → Bd b → SizeOf.sizeOf a < k → Xl k a b = some (eqT a b)
 | 0, a, b, _, _, h => by omega
 | k + 1, a, b, ha, hb, hk => by
  have ih : ∀ x ∈ a.Kids, ∀ y ∈ b.Kids, Xl k x y = some (eqT x y) := fun x hx y hy => Zu2 k x y (ha.all x hx) (hb.all y hy) (by have := K4 hx; omega)
  have hw := ha.w
  have hkd := ha.k
  show Kh (Xl k) a b = _
  unfold Kh
  rw [Ztk, Zxe (by omega), Option.bind_some, Zqc]
  by_cases h0 : a.Kind = b.Kind
  ·have e0 : (a.Kind != b.Kind) = false := by simp [h0]
   have e1 : (a.Kind == b.Kind) = true := by simp [h0]
   rw [e0, e1, cond_false, cond_false, Option.bind_some, Bool.true_and]
   cases hw' : a.Words == b.Words with
   | false => rfl
   | true =>
    rw [Bool.not_true, cond_false, Bool.true_and]
    by_cases hab : a.Kids.length = b.Kids.length
    ·have : (!(a.Kids.length == b.Kids.length)) = false := by simp [hab]
     rw [this, cond_false, Zpb a.Kids b.Kids eqT (Qn (Xl k) a b) (.inl ()) (.inr ()) hab (by omega) (fun i x y hi hx hy hmx hmy => by
      unfold Qn
      rw [Zeg hi, cond_true, Yy hx, Option.bind_some, Yy hy, Option.bind_some, ih x hmx y hmy, Option.bind_some]
      cases eqT x y <;> rfl) (by unfold Qn; rw [Zlh]; rfl)]
     rw [Zq0 a.Kids b.Kids hab]
     cases eqL a.Kids b.Kids <;> rfl
    have : (!(a.Kids.length == b.Kids.length)) = true := by simp [hab]
    rw [this, cond_true, Zpv _ _ hab]
  have e0 : (a.Kind != b.Kind) = true := by simp [h0]
  have e1 : (a.Kind == b.Kind) = false := by simp [h0]
  rw [e0, e1]; rfl
theorem Zlw {a b : Tr} (ha : Bd a) (hb : Bd b) : Xx a b = some (eqT a b) := Zfn (SizeOf.sizeOf a + 1) fun k hk => Zu2 k a b ha hb (by omega)
theorem Zvt {a b : Tr} (ha : Bd a) (hb : Bd b) : J5 a b = some (eqT (nrm a) (nrm b)) := by
 unfold J5
 rw [Zi8 ha, Option.bind_some, Zi8 hb, Option.bind_some, Zlw ha.nrm hb.nrm, Option.bind_some]
theorem Zfr {t : Tr} (h : t.Kind = 0) : nrm t = ⟨0, [], []⟩ := by rw [Gu, if_pos h]
theorem Kx {t : Tr} (h : t.Kind = 1) : nrm t = ⟨1, tr (fun x => x == 0) t.Words, tr (fun x => x.Kind == 0) (t.Kids.map nrm)⟩ := by rw [Gu, if_neg (by rw [h]; decide), if_pos h]
theorem Zbs {t : Tr} (h0 : ¬ t.Kind = 0) (h1 : ¬ t.Kind = 1) : nrm t = ⟨t.Kind, t.Words, t.Kids.map nrm⟩ := by rw [Gu, if_neg h0, if_neg h1]
theorem Zxg (t : Tr) : 0 < SizeOf.sizeOf t := by
 obtain ⟨k, w, ks⟩ := t
 simp only [S_api_Tree.mk.sizeOf_spec]
 omega
theorem Zma : ∀ (k : Nat), (∀ a b : Tr, Bd a → Bd b → 2 * SizeOf.sizeOf a < k → (Yk k).1 a b = some (eqT (nrm a) (nrm b))) ∧
  (∀ (l m : List Tr), (∀ x ∈ l, Bd x ∧ 2 * SizeOf.sizeOf x + 1 < k) → (∀ x ∈ m, Bd x) → (l.length : Int) ≤ 140737488355328 → 1 ≤ k → (Yk k).2 l m = some (eqL (l.map nrm) (m.map nrm)))
 | 0 => ⟨fun a b _ _ h => by omega, fun l m hl hm hn h => by omega⟩
 | k + 1 => by
  obtain ⟨i1, i2⟩ := Zma k
  refine ⟨fun a b ha hb hk => ?_, fun l m hl hm hn h => ?_⟩
  ·have hp := Zxg a
   have hw := ha.w
   have hkd := ha.k
   have hw' := hb.w
   have hkd' := hb.k
   show U7 (Yk k).1 (Yk k).2 a b = _
   unfold U7
   rw [Ztk, Ut, Ut]
   by_cases h0 : a.Kind = b.Kind
   ·have e0 : (a.Kind != b.Kind) = false := by simp [h0]
    have e1 : (a.Kind == b.Kind) = true := by simp [h0]
    rw [e0, e1, cond_false, Bool.true_and]
    by_cases hz : a.Kind = 0
    ·have e2 : (a.Kind == 0) = true := by simp [hz]
     rw [e2, cond_true, Gu a, Gu b, if_pos hz, if_pos (h0 ▸ hz)]
     rfl
    have e2 : (a.Kind == 0) = false := by simp [hz]
    rw [e2, cond_false]
    have rec_ : ∀ l m : List Tr, (∀ x ∈ l, x ∈ a.Kids) → (∀ x ∈ m, x ∈ b.Kids) → l.length ≤ a.Kids.length → (Yk k).2 l m = some (eqL (l.map nrm) (m.map nrm)) := fun l m h1 h2 h3 =>
     i2 l m (fun x hx => ⟨ha.all x (h1 x hx), by have := K4 (h1 x hx); omega⟩) (fun x hx => hb.all x (h2 x hx)) (by omega) (by omega)
    by_cases h1 : a.Kind = 1
    ·have e3 : (a.Kind == 1) = true := by simp [h1]
     have l1 := Zgx (fun x : Int => x == 0) a.Words
     have l2 := Zgx (fun x : Tr => x.Kind == 0) a.Kids
     have q1 : ∀ l : List Tr, tr (fun x : Tr => x.Kind == 0) (l.map nrm) = (tr (fun x : Tr => x.Kind == 0) l).map nrm := Zqx (fun x => by rw [Ut])
     rw [e3, cond_true, Zet (by omega), Option.bind_some, Zet (by omega), Option.bind_some, Zo5 (by omega), Option.bind_some, Zgy (by omega), Option.bind_some, Zgy (by omega), Option.bind_some,
      rec_ _ _ (fun x hx => Zc9 hx) (fun x hx => Zc9 hx) l2, Option.bind_some, Kx h1, Kx (h0 ▸ h1)]
     simp only [q1]
     cases tr (fun x => x == 0) a.Words == tr (fun x => x == 0) b.Words <;> rfl
    have e3 : (a.Kind == 1) = false := by simp [h1]
    rw [e3, cond_false, Zo5 (by omega), Option.bind_some, rec_ _ _ (fun x hx => hx) (fun x hx => hx) (Nat.le_refl _), Option.bind_some, Zbs hz h1, Zbs (fun q => hz (h0.trans q)) (fun q => h1 (h0.trans q))]
    simp only
    cases a.Words == b.Words <;> rfl
   have e0 : (a.Kind != b.Kind) = true := by simp [h0]
   have e1 : (a.Kind == b.Kind) = false := by simp [h0]
   rw [e0, e1]; rfl
  show Zx (Yk k).1 (Yk k).2 l m = _
  unfold Zx
  rw [Zqc]
  by_cases hlm : l.length = m.length
  ·have : (!(l.length == m.length)) = false := by simp [hlm]
   rw [this, cond_false, Zpb l m (fun x y => eqT (nrm x) (nrm y)) (Zv (Yk k).1 l m) (.inl ()) (.inr ()) hlm hn (fun i x y hi hx hy hmx hmy => by
    unfold Zv
    rw [Zeg hi, cond_true, Yy hx, Option.bind_some, Yy hy, Option.bind_some, i1 x y (hl x hmx).1 (hm y hmy) (by have := (hl x hmx).2; omega), Option.bind_some]
    cases eqT (nrm x) (nrm y) <;> rfl) (by unfold Zv; rw [Zlh]; rfl)]
   rw [Zue nrm l m hlm]
   cases eqL (l.map nrm) (m.map nrm) <;> rfl
  have : (!(l.length == m.length)) = true := by simp [hlm]
  rw [this, cond_true, Zpv _ _ (by simpa using hlm)]
theorem Zwc {a b : Tr} (ha : Bd a) (hb : Bd b) : Zej a b = some (eqT (nrm a) (nrm b)) := Zfn (2 * SizeOf.sizeOf a + 1) fun k hk => (Zma k).1 a b ha hb (by omega)
def pt (t : Tr) : Nat := 1 + t.Words.length + (t.Kids.attach.map fun k => pt k.1).sum
termination_by SizeOf.sizeOf t
decreasing_by exact K4 k.2
theorem Zlc (t : Tr) : pt t = 1 + t.Words.length + (t.Kids.map pt).sum := by
 rw [pt]
 simp only [List.attach_map_val]
theorem Znc : ∀ (k : Nat) (t : Tr) (d left : Int), Bd t → SizeOf.sizeOf t < k → 0 ≤ d → d ≤ 100 → 0 ≤ left → left ≤ 1000000 → ∃ r, Z9 k t d left = some r ∧ -1 ≤ r ∧ r ≤ 1000000 ∧ (0 ≤ r → r + pt t ≤ left)
 | 0, t, _, _, _, h, _, _, _, _ => by omega
 | k + 1, t, d, left, hb, hk, hd0, hd1, hl0, hl1 => by
  have ih : ∀ x ∈ t.Kids, ∀ d left : Int, 0 ≤ d → d ≤ 100 → 0 ≤ left → left ≤ 1000000 → ∃ r, Z9 k x d left = some r ∧ -1 ≤ r ∧ r ≤ 1000000 ∧ (0 ≤ r → r + pt x ≤ left) := fun x hx d left => Znc k x d left (hb.all x hx) (by have := K4 hx; omega)
  have hw := hb.w
  have hkd := hb.k
  show ∃ r, Yw (Z9 k) t d left = some r ∧ _
  unfold Yw
  rw [Zef (x := left - 1) (by omega) (by omega), Zef (by omega) (by omega), Zlc]
  cases hc : cond (d == 0) true (decide (left - 1 - (t.Words.length : Int) < 0)) with
  | true => exact ⟨-1, rfl, by omega, by omega, fun h => by omega⟩
  | false =>
   rw [cond_false]
   have hd : ¬ d = 0 ∧ 0 ≤ left - 1 - (t.Words.length : Int) := by
    by_cases h : d = 0
    ·simp [h] at hc
    have e : (d == 0) = false := by simp [h]
    rw [e, cond_false, decide_eq_false_iff_not] at hc
    exact ⟨h, by omega⟩
   obtain ⟨r, h1, h2⟩ := Zi9 (step := Ys (Z9 k) t d)
    (fun s => ∃ j : Nat, s.2 = j ∧ j ≤ t.Kids.length ∧ -1 ≤ s.1 ∧ s.1 ≤ 1000000 ∧ (0 ≤ s.1 → s.1 + (((t.Kids.take j).map pt).sum : Nat) ≤ left - 1 - (t.Words.length : Int)))
    (fun s => t.Kids.length - s.2.toNat) (fun r => -1 ≤ r ∧ r ≤ 1000000 ∧ (0 ≤ r → r + ((t.Kids.map pt).sum : Nat) ≤ left - 1 - (t.Words.length : Int))) (fun s hI => by
     obtain ⟨l, i⟩ := s
     obtain ⟨j, rfl, hj, g1, g2, g3⟩ := hI
     simp only at g1 g2 g3 ⊢
     unfold Ys
     simp only
     by_cases hji : j < t.Kids.length
     ·rw [Zeg hji, cond_true]
      by_cases hl : 0 ≤ l
      ·have e : decide (0 ≤ l) = true := by simp [hl]
       have hx : t.Kids[j]? = some t.Kids[j] := List.getElem?_eq_getElem hji
       obtain ⟨r, q1, q2, q3, q4⟩ := ih t.Kids[j] (List.getElem_mem hji) (d - 1) l (by omega) (by omega) hl g2
       rw [e, cond_true, Yy hx, Option.bind_some, Zef (by omega) (by omega), q1, Option.bind_some, Zef (by omega) (by omega)]
       refine .inl ⟨_, rfl, ⟨j + 1, by simp only; omega, by omega, q2, q3, fun hr => ?_⟩, by simp only; omega⟩
       have := q4 hr
       have := g3 hl
       rw [List.take_add_one, hx]
       simp only [Option.toList_some, List.map_append, List.map_cons, List.map_nil, List.sum_append, List.sum_cons, List.sum_nil]
       simp only at hr
       omega
      have e : decide (0 ≤ l) = false := by simp [hl]
      rw [e, cond_false]
      exact .inr ⟨l, rfl, g1, g2, fun h => absurd h hl⟩
     have hj' : j = t.Kids.length := by omega
     subst hj'
     rw [Zlh, cond_false]
     rw [List.take_length] at g3
     exact .inr ⟨l, rfl, g1, g2, g3⟩) (left - 1 - (t.Words.length : Int), 0) ⟨0, rfl, Nat.zero_le _, by simp only; omega, by simp only; omega, fun _ => by simp⟩
   rw [h1]
   refine ⟨r, rfl, h2.1, h2.2.1, fun hr => ?_⟩
   have := h2.2.2 hr
   omega
theorem Zrd {α : Type} {xs : List α} {i : Int} {x : α} (h : Jq xs i = some x) : x ∈ xs := List.mem_of_getElem? (Zid h)
theorem Zjc : ∀ (k k' : Nat) (t : Tr) (d left : Int), SizeOf.sizeOf t < k → SizeOf.sizeOf t < k' → Z9 k t d left = Z9 k' t d left
 | 0, _, t, _, _, h, _ => by omega
 | k + 1, 0, t, _, _, _, h => by omega
 | k + 1, k' + 1, t, d, left, h, h' => by
  show Yw (Z9 k) t d left = Yw (Z9 k') t d left
  have e : Ys (Z9 k) t d = Ys (Z9 k') t d := funext fun s => by
   unfold Ys
   cases hx : Jq t.Kids s.2 with
   | none => rfl
   | some x => simp only [Option.bind_some, Zjc k k' x (IntKind.i64.wrap (d - 1)) s.1 (by have := K4 (Zrd hx); omega) (by have := K4 (Zrd hx); omega)]
  unfold Yw
  rw [e]
theorem Zy8 {t : Tr} (h : Bd t) : ∃ b, K6 t = some b ∧ (b = true → pt t ≤ 3000) := by
 obtain ⟨r, h1, h2, h3, h4⟩ := Znc (SizeOf.sizeOf t + 1) t 80 3000 h (by omega) (by omega) (by omega) (by omega) (by omega)
 have hr : V6 t 80 3000 = some r := Zfn (SizeOf.sizeOf t + 1) fun k hk => by rw [Zjc k (SizeOf.sizeOf t + 1) t 80 3000 (by omega) (by omega)]; exact h1
 unfold K6
 rw [hr, Option.bind_some]
 refine ⟨_, rfl, fun hb => ?_⟩
 have := h4 (by simpa using hb)
 have : 0 ≤ r := by simpa using hb
 omega
def wt (t : Tr) : Nat :=
 if t.Kind = 0 then 0 else if t.Kind = 10 then 1
 else (if t.Kind = 1 then 1 + (t.Words.length + t.Kids.length) else if t.Kind = 8 then 1 + t.Kids.length else 1) + (t.Kids.attach.map fun k => wt k.1).sum
termination_by SizeOf.sizeOf t
decreasing_by all_goals exact K4 k.2
theorem Zup {α : Type} {f : α → Nat} {x : α} : ∀ {l : List α}, x ∈ l → f x ≤ (l.map f).sum
 | y :: l, h => by
  simp only [List.map_cons, List.sum_cons]
  rcases List.mem_cons.1 h with rfl | h
  ·omega
  have := Zup (f := f) h
  omega
theorem Ztv {t x : Tr} (h : x ∈ t.Kids) : pt x ≤ pt t := by
 rw [Zlc t]
 have := Zup (f := pt) h
 omega
def wid (c : Int) : Nat := if c = 0 then 0 else if c = 1 then 1 else if c = 2 then 8 else if c = 3 then 16 else if c = 4 then 32 else 64
def Zuk (c w : Int) : Bool := decide (w < 2 ^ wid c)
theorem Ztj {c : Int} (h0 : 0 ≤ c) (h1 : c ≤ 5) : c = 0 ∨ c = 1 ∨ c = 2 ∨ c = 3 ∨ c = 4 ∨ c = 5 := by omega
theorem Zt3 (n : Nat) (hn : n ≤ 64) (w : Int) (h0 : 0 ≤ w) (h1 : w < 18446744073709551616) : Z5 (Yx (n : Int)) (w, 0) = some (w / 2 ^ n) := by
 have key : ∀ m i : Nat, i + m = n → Z5 (Yx (n : Int)) (w / 2 ^ i, (i : Int)) = some (w / 2 ^ n) := fun m => by
  induction m with
  | zero =>
   intro i hi
   have : i = n := by omega
   subst this
   refine Yo ?_
   unfold Yx
   simp only
   rw [Zlh, cond_false]
  | succ m ih =>
   intro i hi
   have hp : (0 : Int) < 2 ^ i := Int.pow_pos (by decide)
   have q0 : 0 ≤ w / 2 ^ i := Int.ediv_nonneg h0 (Int.le_of_lt hp)
   have q1 : w / 2 ^ i ≤ w := Int.ediv_le_self _ h0
   have hs : Yx (n : Int) (w / 2 ^ i, (i : Int)) = some (.inl (w / 2 ^ (i + 1), ((i + 1 : Nat) : Int))) := by
    unfold Yx
    simp only
    rw [Zeg (by omega), cond_true, Zef (by omega) (by omega), Int.tdiv_eq_ediv_of_nonneg q0]
    have e : w / 2 ^ i / 2 = w / 2 ^ (i + 1) := by rw [Int.ediv_ediv_of_nonneg (Int.le_of_lt hp), Int.pow_succ]
    have q2 : 0 ≤ w / 2 ^ i / 2 := Int.ediv_nonneg q0 (by decide)
    have q3 : w / 2 ^ i / 2 ≤ w / 2 ^ i := Int.ediv_le_self _ q0
    have e3 : IntKind.u64.wrap (w / 2 ^ i / 2) = w / 2 ^ i / 2 := by
     exact Z0n ⟨q2, by omega⟩
    rw [e3, e]
    rfl
   rw [Qm hs]
   exact ih (i + 1) (by omega)
 have := key n 0 (by omega)
 simpa using this
theorem Zw9 {c w : Int} (h0 : 0 ≤ c) (h1 : c ≤ 5) (hw : 0 ≤ w) (hw' : w < 18446744073709551616) : Ja c w = some (Zuk c w) := by
 have e : ∀ n : Nat, n ≤ 64 → (cond (decide ((n : Int) < 0)) (some false) ((Z5 (Yx (n : Int)) (w, 0)).bind fun (z4 : Int) => some (z4 == 0))) = some (decide (w < 2 ^ n)) := fun n hn => by
  have : decide ((n : Int) < 0) = false := by rw [decide_eq_false_iff_not]; omega
  have hp : (0 : Int) < 2 ^ n := Int.pow_pos (by decide)
  rw [this, cond_false, Zt3 n hn w hw hw', Option.bind_some]
  congr 1
  rw [Bool.eq_iff_iff, beq_iff_eq, decide_eq_true_eq]
  constructor
  ·intro h
   rcases Int.lt_or_le w (2 ^ n) with h2 | h2
   ·exact h2
   have := Int.ediv_le_ediv hp h2
   rw [Int.ediv_self (Int.ne_of_gt hp)] at this
   omega
  intro h; exact Int.ediv_eq_zero_of_lt hw h
 unfold Ja Zuk
 rcases Ztj h0 h1 with rfl | rfl | rfl | rfl | rfl | rfl
 ·exact e 0 (by decide)
 ·exact e 1 (by decide)
 ·exact e 8 (by decide)
 ·exact e 16 (by decide)
 ·exact e 32 (by decide)
 exact e 64 (by decide)
def okk (kind : Int) (k : Tr) : Bool := if 2 ≤ kind ∧ kind ≤ 7 then k.Kind == 10 && Zuk (kind - 2) (k.Words.headD 0) else k.Kind != 10 && (kind != 9 || k.Kind == 1)
def rt (t : Tr) (d : Nat) : Bool :=
 if t.Kind = 0 then t.Words.length == 0 && t.Kids.length == 0
 else if t.Kind = 10 then t.Words.length == 1 && t.Kids.length == 0
 else if t.Kind < 0 ∨ 10 < t.Kind ∨ d = 0 ∨ 65536 ≤ t.Words.length ∨ (t.Kind = 1 ∧ 65536 ≤ t.Kids.length) ∨ 1048576 ≤ t.Kids.length ∨ (1 < t.Kind ∧ 0 < t.Words.length) then false
 else (t.Kids.attach.map fun k => rt k.1 (d - 1) && okk t.Kind k.1).all id
termination_by SizeOf.sizeOf t
decreasing_by exact K4 k.2
theorem Zxb (t : Tr) (d : Nat) : rt t d = if t.Kind = 0 then t.Words.length == 0 && t.Kids.length == 0
 else if t.Kind = 10 then t.Words.length == 1 && t.Kids.length == 0
 else if t.Kind < 0 ∨ 10 < t.Kind ∨ d = 0 ∨ 65536 ≤ t.Words.length ∨ (t.Kind = 1 ∧ 65536 ≤ t.Kids.length) ∨ 1048576 ≤ t.Kids.length ∨ (1 < t.Kind ∧ 0 < t.Words.length) then false
 else t.Kids.all fun k => rt k (d - 1) && okk t.Kind k := by
 rw [rt]
 have : (t.Kids.attach.map fun k => rt k.1 (d - 1) && okk t.Kind k.1) = t.Kids.map fun k => rt k (d - 1) && okk t.Kind k := List.attach_map_val (f := fun k => rt k (d - 1) && okk t.Kind k)
 rw [this, List.all_map]
 rfl
theorem Zvv {t : Tr} (h : t.Kind = 10) {d : Nat} (hr : rt t d = true) : ∃ w, t.Words = [w] := by
 rw [Zxb, if_neg (by omega), if_pos h, Bool.and_eq_true, beq_iff_eq] at hr
 obtain ⟨k, w, ks⟩ := t
 obtain ⟨h1, _⟩ := hr
 simp only at h1 ⊢
 exact List.length_eq_one_iff.1 h1
theorem Zzd {n : Nat} : ((n : Int) == 0) = (n == 0) := by rw [Bool.eq_iff_iff, beq_iff_eq, beq_iff_eq]; omega
theorem Z0o {n : Nat} : ((n : Int) == 1) = (n == 1) := by rw [Bool.eq_iff_iff, beq_iff_eq, beq_iff_eq]; omega
theorem Zbi (a b : Bool) : cond a b false = (a && b) := by cases a <;> rfl
theorem Zud {α : Type} (p : α → Bool) : ∀ l : List α, l.any (fun x => !p x) = !(l.all p)
 | [] => rfl
 | x :: l => by rw [List.any_cons, List.all_cons, Zud p l]; cases p x <;> rfl
theorem Zwq {α R : Type} (xs : List α) (step : Int → Option (Int ⊕ R)) (p : α → Bool) (e o : R) (hl : (xs.length : Int) ≤ 140737488355328)
  (h1 : ∀ (i : Nat) (x : α), i < xs.length → xs[i]? = some x → x ∈ xs → step i = some (if p x = true then .inl (IntKind.i64.wrap ((i : Int) + 1)) else .inr e)) (h2 : step xs.length = some (.inr o)) : Z5 step 0 = some (if xs.all p = true then o else e) := by
 rw [Zms xs step (fun x => !p x) e o hl (fun i x hi hx hm => by rw [h1 i x hi hx hm]; cases p x <;> rfl) h2, Zud]
 cases xs.all p <;> rfl
theorem Zph : ∀ (k : Nat) (t : Tr) (d : Nat), Bd t → SizeOf.sizeOf t < k → d ≤ 64 → Xe k t (d : Int) = some (rt t d)
 | 0, t, d, _, h, _ => by omega
 | k + 1, t, d, hb, hk, hd => by
  have hkd := hb.k
  show Jz (Xe k) t (d : Int) = _
  unfold Jz
  rw [Zxb, Zzd, Z0o]
  by_cases h0 : t.Kind = 0
  ·rw [if_pos h0, h0]
   simp only [Zzd, Zbi]
   rfl
  have e0 : (t.Kind == 0) = false := by simp [h0]
  rw [if_neg h0, e0, cond_false]
  by_cases h10 : t.Kind = 10
  ·rw [if_pos h10, h10]
   simp only [Zzd, Zbi]
   rfl
  have e10 : (t.Kind == 10) = false := by simp [h10]
  rw [if_neg h10, e10, cond_false]
  by_cases hbad : t.Kind < 0 ∨ 10 < t.Kind ∨ d = 0 ∨ 65536 ≤ t.Words.length ∨ (t.Kind = 1 ∧ 65536 ≤ t.Kids.length) ∨ 1048576 ≤ t.Kids.length ∨ (1 < t.Kind ∧ 0 < t.Words.length)
  ·rw [if_pos hbad]
   have hc : ∀ c1 c2 c3 c4 c5 c6 c7 c8 : Bool, (c1 = true ∨ c2 = true ∨ c3 = true ∨ c4 = true ∨ (c5 = true ∧ c6 = true) ∨ c7 = true ∨ c8 = true) → ∀ X : Option Bool,
     cond (cond (cond (cond (cond (cond c1 true c2) true c3) true c4) true (cond c5 c6 false)) true c7) (some false) (cond c8 (some false) X) = some false := by
    intro c1 c2 c3 c4 c5 c6 c7 c8 h X
    cases c1 <;> cases c2 <;> cases c3 <;> cases c4 <;> cases c5 <;> cases c6 <;> cases c7 <;> cases c8 <;> first | rfl | (simp at h; done)
   refine hc _ _ _ _ _ _ _ _ ?_ _
   simp only [decide_eq_true_eq, beq_iff_eq, Zbi, Bool.and_eq_true]
   omega
  rw [if_neg hbad]
  have hg : ¬ t.Kind < 0 ∧ ¬ 10 < t.Kind ∧ ¬ d = 0 ∧ ¬ 65536 ≤ t.Words.length ∧ ¬ (t.Kind = 1 ∧ 65536 ≤ t.Kids.length) ∧ ¬ 1048576 ≤ t.Kids.length ∧ ¬ (1 < t.Kind ∧ 0 < t.Words.length) := by omega
  have hc : ∀ c1 c2 c3 c4 c5 c7 c8 : Bool, c1 = false → c2 = false → c3 = false → c4 = false → c5 = false → c7 = false → c8 = false → ∀ X : Option Bool,
    cond (cond (cond (cond (cond (cond c1 true c2) true c3) true c4) true c5) true c7) (some false) (cond c8 (some false) X) = X := by
   intro c1 c2 c3 c4 c5 c7 c8 h1 h2 h3 h4 h5 h7 h8 X
   subst h1 h2 h3 h4 h5 h7 h8
   rfl
  rw [hc _ _ _ _ _ _ _ (decide_eq_false hg.1) (decide_eq_false hg.2.1) (by rw [beq_eq_false_iff_ne]; omega) (by rw [decide_eq_false_iff_not]; omega) (by rw [Zbi, Bool.and_eq_false_iff, beq_eq_false_iff_ne, decide_eq_false_iff_not]; omega) (by rw [decide_eq_false_iff_not]; omega) (by rw [Zbi, Bool.and_eq_false_iff, decide_eq_false_iff_not, decide_eq_false_iff_not]; omega)]
  obtain ⟨d', rfl⟩ : ∃ d', d = d' + 1 := ⟨d - 1, by omega⟩
  have ih : ∀ x ∈ t.Kids, Xe k x (d' : Int) = some (rt x d') := fun x hx => Zph k x d' (hb.all x hx) (by have := K4 hx; omega) (by omega)
  rw [Zwq t.Kids (X5 (Xe k) t ((d' + 1 : Nat) : Int)) (fun x => rt x d' && okk t.Kind x) (.inl ()) (.inr ()) (by omega) (fun i x hi hx hm => by
   unfold X5
   have ed : ((d' + 1 : Nat) : Int) - 1 = (d' : Int) := by omega
   rw [Zeg hi, cond_true, Yy hx, Option.bind_some, Zef (x := ((d' + 1 : Nat) : Int) - 1) (by omega) (by omega), ed, ih x hm, Option.bind_some]
   cases hr : rt x d' with
   | false => rfl
   | true =>
    rw [Bool.not_true, cond_false, Bool.true_and]
    unfold okk
    by_cases hdt : 2 ≤ t.Kind ∧ t.Kind ≤ 7
    ·have e2 : decide (2 ≤ t.Kind) = true := decide_eq_true hdt.1
     have e7 : decide (t.Kind ≤ 7) = true := decide_eq_true hdt.2
     have e9 : (t.Kind == 9) = false := by rw [beq_eq_false_iff_ne]; omega
     rw [e2, e7, e9, if_pos hdt]
     simp only [cond_true, cond_false]
     by_cases hx10 : x.Kind = 10
     ·obtain ⟨w, hw⟩ := Zvv hx10 hr
      have hu := (hb.all x hm).u w (by rw [hw]; exact .head _)
      have ex : (x.Kind == 10) = true := by simp [hx10]
      have ex2 : ((true : Bool) != true) = false := rfl
      have hg0 : Jq [w] (0 : Int) = some w := rfl
      rw [ex, ex2, cond_false, hw, hg0, Option.bind_some, Zef (by omega) (by omega), Zw9 (by omega) (by omega) hu.1 hu.2, Option.bind_some]
      simp only [cond_false, List.headD_cons, Bool.true_and]
      cases Zuk (t.Kind - 2) w <;> rfl
     have ex : (x.Kind == 10) = false := by simp [hx10]
     rw [ex]
     rfl
    have ed2 : cond (decide (2 ≤ t.Kind)) (decide (t.Kind ≤ 7)) false = false := by
     rw [Zbi, Bool.and_eq_false_iff, decide_eq_false_iff_not, decide_eq_false_iff_not]; omega
    rw [ed2, if_neg hdt]
    have hin : ∀ (X : Option Bool) (b : Bool), (cond (decide (2 ≤ t.Kind)) (cond (decide (t.Kind ≤ 7)) X (some b)) (some b)) = some b := fun X b => by
     by_cases h2 : 2 ≤ t.Kind
     ·have h7 : decide (t.Kind ≤ 7) = false := by rw [decide_eq_false_iff_not]; omega
      rw [decide_eq_true h2, h7]; rfl
     rw [decide_eq_false h2]; rfl
    by_cases hx10 : x.Kind = 10
    ·have ex : (x.Kind == 10) = true := by simp [hx10]
     have ex2 : (x.Kind != 10) = false := by simp [hx10]
     rw [ex, ex2]
     rfl
    have ex : (x.Kind == 10) = false := by simp [hx10]
    have ex2 : (x.Kind != 10) = true := by simp [hx10]
    have ex3 : ((false : Bool) != false) = false := rfl
    rw [ex, ex2, ex3, cond_false]
    simp only [cond_false]
    rw [hin]
    by_cases h9 : t.Kind = 9
    ·have e9 : (t.Kind == 9) = true := by simp [h9]
     have e9' : (t.Kind != 9) = false := by simp [h9]
     rw [e9, e9', cond_true]
     by_cases hx1 : x.Kind = 1
     ·have q1 : (x.Kind != 1) = false := by simp [hx1]
      have q2 : (x.Kind == 1) = true := by simp [hx1]
      rw [q1, q2, cond_false]
      rfl
     have q1 : (x.Kind != 1) = true := by simp [hx1]
     have q2 : (x.Kind == 1) = false := by simp [hx1]
     rw [q1, q2, cond_true]
     rfl
    have e9 : (t.Kind == 9) = false := by simp [h9]
    have e9' : (t.Kind != 9) = true := by simp [h9]
    rw [e9, e9']
    rfl) (by unfold X5; rw [Zlh]; rfl), Option.bind_some, Nat.add_sub_cancel]
  cases t.Kids.all fun x => rt x d' && okk t.Kind x <;> rfl
theorem Zvu {t : Tr} (h : Bd t) {d : Nat} (hd : d ≤ 64) : Uz t (d : Int) = some (rt t d) := Zfn (SizeOf.sizeOf t + 1) fun k hk => Zph k t d h (by omega) hd
theorem Zya (n : Int) : Zar n = some (decide (2 ≤ n) && decide (n ≤ 9)) := by unfold Zar; rw [Zbi]
theorem Zkw (k : Nat) : 256 ^ k = 2 ^ (8 * k) := by rw [Nat.pow_mul]
def Ju (m : Nat) : Nat → Nat
 | 0 => 0
 | k + 1 => Ju m k + (if m / 2 ^ k % 2 = 1 then 255 * 256 ^ k else 0)
theorem Zs8 (m : Nat) : ∀ k, Ju m k < 256 ^ k
 | 0 => by simp [Ju]
 | k + 1 => by
  have := Zs8 m k
  have h : 256 ^ (k + 1) = 256 * 256 ^ k := by rw [Nat.pow_succ, Nat.mul_comm]
  simp only [Ju]
  split <;> omega
theorem Zvq {k : Nat} (hk : k < 8) : 256 ^ (k + 1) ≤ 2 ^ 64 := by
 rw [Zkw]; exact Nat.pow_le_pow_right (by decide) (by omega)
def Zkk (m i : Nat) : Bool := decide (m / 2 ^ i % 2 = 1)
theorem Zy5 {m i : Nat} (h : Zkk m i = true) : m / 2 ^ i % 2 = 1 := of_decide_eq_true h
theorem Zy4 {m i : Nat} (h : Zkk m i = false) : ¬ m / 2 ^ i % 2 = 1 := of_decide_eq_false h
def Zhj (f : Nat → Nat) : Nat → Nat
 | 0 => 0
 | k + 1 => 2 ^ (8 * k) * f k + Zhj f k
theorem Zh6 (f : Nat → Nat) (hf : ∀ k, f k < 256) : ∀ k, Zhj f k < 2 ^ (8 * k)
 | 0 => by simp [Zhj]
 | k + 1 => by
  have h1 := Zh6 f hf k
  have h2 := hf k
  have h3 : 2 ^ (8 * (k + 1)) = 2 ^ (8 * k) * 256 := by rw [Nat.mul_add, Nat.pow_add]
  have h4 : 2 ^ (8 * k) * f k ≤ 2 ^ (8 * k) * 255 := Nat.mul_le_mul_left _ (by omega)
  simp only [Zhj]
  omega
theorem Zg2 (f : Nat → Nat) (hf : ∀ k, f k < 256) (i : Nat) : ∀ k, Nat.testBit (Zhj f k) i = (decide (i < 8 * k) && Nat.testBit (f (i / 8)) (i % 8))
 | 0 => by simp [Zhj]
 | k + 1 => by
  have h := Zg2 f hf i k
  simp only [Zhj]
  rw [Nat.testBit_two_pow_mul_add _ (Zh6 f hf k)]
  by_cases h1 : i < 8 * k
  ·rw [if_pos h1, h]
   simp [h1, show i < 8 * (k + 1) by omega]
  rw [if_neg h1]
  by_cases h2 : i < 8 * (k + 1)
  ·have h3 : i / 8 = k := by omega
   have h4 : i - 8 * k = i % 8 := by omega
   rw [h3, h4]
   simp [h2]
  have h5 : f k < 2 ^ (i - 8 * k) := Nat.lt_of_lt_of_le (hf k) (Nat.pow_le_pow_right (n := 2) (by decide) (show 8 ≤ i - 8 * k by omega))
  rw [Nat.testBit_lt_two_pow h5]
  simp [h2]
def Zq5 (n k : Nat) : Nat := n / 256 ^ k % 256
theorem Zv9 (n k : Nat) : Zq5 n k < 256 := Nat.mod_lt _ (by decide)
theorem Zkl (n k j : Nat) (hj : j < 8) : Nat.testBit (Zq5 n k) j = Nat.testBit n (8 * k + j) := by
 unfold Zq5
 rw [Zkw, show (256 : Nat) = 2 ^ 8 from rfl, Nat.testBit_mod_two_pow, Nat.testBit_div_two_pow]
 simp [hj, Nat.add_comm]
def Zwu (a b m k : Nat) : Nat := if Zkk m k then Zq5 b k else Zq5 a k
theorem Zqf (a b m k : Nat) : Zwu a b m k < 256 := by unfold Zwu; split <;> exact Zv9 _ _
def Zio (a b m : Nat) : Nat := Zhj (Zwu a b m) 8
def Zs6 (m k : Nat) : Nat := if Zkk m k then 255 else 0
theorem Zs7 (m k : Nat) : Zs6 m k < 256 := by unfold Zs6; split <;> decide
theorem Zk2 (m : Nat) : ∀ k, Ju m k = Zhj (Zs6 m) k
 | 0 => rfl
 | k + 1 => by
  simp only [Ju, Zhj, Zk2 m k, Zs6, Zkk, decide_eq_true_eq]
  rw [Zkw]
  split <;> omega
theorem Zy3 (j : Nat) (hj : j < 8) : Nat.testBit 255 j = true := by
 rw [show (255 : Nat) = 2 ^ 8 - 1 from rfl, Nat.testBit_two_pow_sub_one]; simp [hj]
theorem Zk1 (m i : Nat) (hi : i < 64) : Nat.testBit (Ju m 8) i = Zkk m (i / 8) := by
 rw [Zk2, Zg2 _ (Zs7 m)]
 unfold Zs6
 have := Zy3 (i % 8) (Nat.mod_lt _ (by decide))
 cases Zkk m (i / 8) <;> simp [hi, this]
theorem Zcj (m : Nat) : Ju m 8 < 2 ^ 64 := by rw [Zk2]; exact Zh6 _ (Zs7 m) 8
theorem Zwv (a b m : Nat) (ha : a < 2 ^ 64) (hb : b < 2 ^ 64) : (a &&& (18446744073709551615 - Ju m 8)) ||| (b &&& Ju m 8) = Zio a b m := by
 refine Nat.eq_of_testBit_eq fun i => ?_
 unfold Zio
 rw [Zg2 _ (Zqf a b m), Nat.testBit_or, Nat.testBit_and, Nat.testBit_and, show (18446744073709551615 - Ju m 8) = 2 ^ 64 - (Ju m 8 + 1) by have := Zcj m; omega, Nat.testBit_two_pow_sub_succ (Zcj m)]
 by_cases hi : i < 64
 ·have h := Zk1 m i hi
  have hs : 8 * (i / 8) + i % 8 = i := by omega
  have hj : i % 8 < 8 := Nat.mod_lt _ (by decide)
  rw [h]
  unfold Zwu
  cases Zkk m (i / 8) <;> simp [hi, Zkl _ _ _ hj, hs]
 have h1 : ∀ n, n < 2 ^ 64 → Nat.testBit n i = false := fun n hn => Nat.testBit_lt_two_pow (Nat.lt_of_lt_of_le hn (Nat.pow_le_pow_right (by decide) (by omega)))
 simp [h1 a ha, h1 b hb, hi]
theorem Zt9 (q : Nat) (h : q < 18446744073709551616) : IntKind.u64.wrap (q : Int) = (q : Int) := Z0n (by omega)
theorem Zv8 (m k : Nat) (hm : m < 256) (hk : k < 8) : (IntKind.u8.wrap (Zcu .u8 (Int.fdiv (m : Int) (2 ^ min (Int.toNat (k : Int)) 8)) 1) == 1) = Zkk m k := by
 have e1 : Int.fdiv (m : Int) (2 ^ min (Int.toNat (k : Int)) 8) = ((m / 2 ^ k : Nat) : Int) := by
  rw [Int.toNat_natCast, Nat.min_eq_left (by omega), Int.fdiv_eq_ediv_of_nonneg _ (Int.le_of_lt (Int.pow_pos (by decide)))]
  simp only [Int.natCast_ediv, Int.natCast_pow]
  rfl
 have hq : m / 2 ^ k < 256 := Nat.lt_of_le_of_lt (Nat.div_le_self _ _) hm
 have e2 := Zwm .u8 (m / 2 ^ k) 1 (by simpa [IntKind.bits] using hq) (by simp [IntKind.bits])
 have e3 : (m / 2 ^ k) &&& 1 = m / 2 ^ k % 2 := Nat.and_one_is_mod _
 have e4 : ((1 : Nat) : Int) = 1 := rfl
 rw [e4] at e2
 rw [e1, e2, e3, IntKind.wrap_u8']
 unfold Zkk
 rw [Bool.eq_iff_iff, beq_iff_eq, decide_eq_true_eq]
 omega
theorem Zzg {a b i : Nat} (ha : a < 2 ^ i) (hb : b % 2 ^ i = 0) : a ||| b = a + b := by
 obtain ⟨q, rfl⟩ : ∃ q, b = 2 ^ i * q := ⟨b / 2 ^ i, by have := Nat.div_add_mod b (2 ^ i); omega⟩
 rw [Nat.or_comm, Nat.add_comm, Nat.two_pow_add_eq_or_of_lt ha]
theorem Zyq (m k : Nat) (hk : k < 8) : IntKind.u64.wrap (Zmt .u64 (Ju m k : Nat) (IntKind.u64.wrap (255 * 2 ^ min (Int.toNat (IntKind.i64.wrap (8 * (k : Int)))) 64))) = ((Ju m k + 255 * 256 ^ k : Nat) : Int) := by
 have h1 := Zs8 m k
 have h2 := Zvq hk
 have h3 : 256 ^ (k + 1) = 256 * 256 ^ k := by rw [Nat.pow_succ, Nat.mul_comm]
 have e0 : (IntKind.i64.wrap (8 * (k : Int))).toNat = 8 * k := by rw [Zx8 (by omega)]; omega
 have e : (255 * 2 ^ (8 * k) : Int) = ((255 * 256 ^ k : Nat) : Int) := by rw [Zkw]; simp only [Int.natCast_mul, Int.natCast_pow]; rfl
 have e2 : Ju m k ||| 255 * 256 ^ k = Ju m k + 255 * 256 ^ k := Zzg (i := 8 * k) (by rw [← Zkw]; exact h1) (by rw [← Zkw]; exact Nat.mul_mod_left _ _)
 rw [e0, Nat.min_eq_left (by omega), e, Zt9 (255 * 256 ^ k) (by omega), Zzs _ _ (by omega) (by omega), e2, Zt9 _ (by omega)]
theorem Zpn (m : Nat) (hm : m < 256) : ∀ j i : Nat, i + j = 8 → Z5 (V8 (m : Int)) (((Ju m i : Nat) : Int), (i : Int)) = some ((Ju m 8 : Nat) : Int)
 | 0, i, h => by
  obtain rfl : i = 8 := by omega
  exact Yo rfl
 | j + 1, i, h => by
  have hs : V8 (m : Int) (((Ju m i : Nat) : Int), (i : Int)) = some (.inl (((Ju m (i + 1) : Nat) : Int), ((i + 1 : Nat) : Int))) := by
   unfold V8
   have e : decide ((i : Int) < 8) = true := by rw [decide_eq_true_eq]; omega
   simp only
   rw [e, cond_true, Zo9 (by omega), Option.bind_some, Zv8 m i hm (by omega), Zx8 (x := (i : Int) + 1) (by omega)]
   have hw : Ju m (i + 1) = Ju m i + (if m / 2 ^ i % 2 = 1 then 255 * 256 ^ i else 0) := rfl
   cases hb : Zkk m i with
   | true =>
    rw [cond_true, Zo9 (by rw [Zx8 (by omega)]; omega), Option.bind_some, Zyq m i (by omega), hw, if_pos (Zy5 hb)]
    rfl
   | false =>
    rw [cond_false, hw, if_neg (Zy4 hb)]
    rfl
  rw [Qm hs]
  exact Zpn m hm j (i + 1) (by omega)
theorem Zu6 (m : Nat) (hm : m < 256) : V7 (m : Int) = some ((Ju m 8 : Nat) : Int) := by
 unfold V7
 have := Zpn m hm 8 0 rfl
 rw [show ((Ju m 0 : Nat) : Int) = 0 from rfl, show ((0 : Nat) : Int) = 0 from rfl] at this
 rw [this]
 rfl
def wi (x m : Int) : Bool := Zio x.toNat 0 m.toNat == 0
abbrev Ed := S_api_Edit
theorem Gd {e : Ed} {k : S_api_KidEdit} (h : k ∈ e.Kids) : SizeOf.sizeOf k.E < SizeOf.sizeOf e := by
 obtain ⟨a, b, c, d, ks, f, g⟩ := e
 obtain ⟨i, x⟩ := k
 have h1 := List.sizeOf_lt_of_mem h
 simp only [S_api_Edit.mk.sizeOf_spec, S_api_KidEdit.mk.sizeOf_spec] at h1 ⊢
 omega
theorem Zbv {e : Ed} {o : S_api_Op} (h : o ∈ e.Ops) : SizeOf.sizeOf o.E < SizeOf.sizeOf e := by
 obtain ⟨a, b, c, d, ks, f, os⟩ := e
 obtain ⟨i, n, l, x⟩ := o
 have h1 := List.sizeOf_lt_of_mem h
 simp only [S_api_Edit.mk.sizeOf_spec, S_api_Op.mk.sizeOf_spec] at h1 ⊢
 omega
theorem Zl8 (e : Ed) : 0 < SizeOf.sizeOf e := by
 obtain ⟨a, b, c, d, ks, f, g⟩ := e
 simp only [S_api_Edit.mk.sizeOf_spec]
 omega
inductive BE : Ed → Prop
 | mk (e : Ed) (h1 : Bd e.Old) (h2 : Bd e.New) (h3 : (e.Words.length : Int) ≤ 140737488355328) (h4 : ∀ w ∈ e.Words, (0 ≤ w.Mask ∧ w.Mask < 256) ∧ (0 ≤ w.Old ∧ w.Old < 18446744073709551616) ∧ (0 ≤ w.New ∧ w.New < 18446744073709551616))
   (h5 : (e.Kids.length : Int) ≤ 140737488355328) (h6 : ∀ k ∈ e.Kids, BE k.E) (h7 : (e.Ops.length : Int) ≤ 140737488355328) (h8 : ∀ o ∈ e.Ops, o.L.length * 56 ≤ 140737488355328 ∧ ∀ t ∈ o.L, Bd t) (h9 : ∀ o ∈ e.Ops, BE o.E) : BE e
theorem BE.old {e : Ed} (h : BE e) : Bd e.Old := by cases h; assumption
theorem BE.new {e : Ed} (h : BE e) : Bd e.New := by cases h; assumption
theorem BE.w {e : Ed} (h : BE e) : (e.Words.length : Int) ≤ 140737488355328 := by cases h; assumption
theorem BE.ws {e : Ed} (h : BE e) : ∀ w ∈ e.Words, (0 ≤ w.Mask ∧ w.Mask < 256) ∧ (0 ≤ w.Old ∧ w.Old < 18446744073709551616) ∧ (0 ≤ w.New ∧ w.New < 18446744073709551616) := by cases h; assumption
theorem BE.k {e : Ed} (h : BE e) : (e.Kids.length : Int) ≤ 140737488355328 := by cases h; assumption
theorem BE.ks {e : Ed} (h : BE e) : ∀ k ∈ e.Kids, BE k.E := by cases h; assumption
theorem BE.o {e : Ed} (h : BE e) : (e.Ops.length : Int) ≤ 140737488355328 := by cases h; assumption
theorem BE.l {e : Ed} (h : BE e) : ∀ o ∈ e.Ops, o.L.length * 56 ≤ 140737488355328 ∧ ∀ t ∈ o.L, Bd t := by cases h; assumption
theorem BE.os {e : Ed} (h : BE e) : ∀ o ∈ e.Ops, BE o.E := by cases h; assumption
def chk {α : Type} (pl : α → Int) (ok : Int → α → Bool) : Int → List α → Bool
 | _, [] => true
 | p, x :: xs => ok p x && chk pl ok (pl x) xs
def Zyw (t : Tr) : Bool := t.Kind == 0 && (t.Words.length == 0 && t.Kids.length == 0)
def Zqi (e : Ed) : Bool := e.Words.length == 0 && e.Kids.length == 0
def Zmu (e : Ed) : Bool := e.List_ == 0 && e.Ops.length == 0
def Zrq (e : Ed) : Bool := Zyw e.Old && Zyw e.New
def Zja (e : Ed) : Bool := e.Kind == 0 && (Zrq e && (Zqi e && Zmu e))
def okW (p : Int) (w : Zj) : Bool := !(((((decide (w.At ≤ p) || decide (65534 < w.At)) || w.Mask == 0) || !(wi w.Old w.Mask)) || !(wi w.New w.Mask)))
def thr (o : S_api_Op) : Int := if o.Kind = 0 then (if 1048576 < (if o.N < 0 then 0 else o.N) then 1048576 else (if o.N < 0 then 0 else o.N)) else if o.Kind = 1 ∨ o.Kind = 2 then (o.L.length : Int) else if o.Kind = 3 then 1 else 0
theorem Zt7 {o : S_api_Op} (h : o.L.length * 56 ≤ 140737488355328) : 0 ≤ thr o ∧ thr o ≤ 140737488355328 := by
 unfold thr
 repeat' split
 all_goals omega
def Zoo (x : Int) : Int := if 1048576 < x then 1048576 else x
def stI (s : Int × Int) (o : S_api_Op) : Int × Int := (if o.Kind = 2 then s.1 else Zoo (s.1 + thr o), if o.Kind = 1 then s.2 else Zoo (s.2 + thr o))
def Sm (s : Int × Int) : Prop := (0 ≤ s.1 ∧ s.1 ≤ 1048576) ∧ (0 ≤ s.2 ∧ s.2 ≤ 1048576)
theorem Zt4 {s : Int × Int} {o : S_api_Op} (hs : Sm s) (h : o.L.length * 56 ≤ 140737488355328) : Sm (stI s o) := by
 have := Zt7 h
 unfold Sm at hs ⊢
 unfold stI Zoo
 refine ⟨?_, ?_⟩
 ·simp only
  split
  ·omega
  split <;> omega
 simp only
 split
 ·omega
 split <;> omega
def Zx9 (o : S_api_Op) : Int := if o.Kind = 3 then 1 else IntKind.i64.wrap (o.N + (o.L.length : Int))
def stR (s : Int × Int) (o : S_api_Op) : Int × Int := (Zoo (if o.Kind = 2 then s.1 else IntKind.i64.wrap (s.1 + Zx9 o)), Zoo (if o.Kind = 1 then s.2 else IntKind.i64.wrap (s.2 + Zx9 o)))
def Zzp (l : Int) (e : Ed) : Bool := if l = 8 then e.Kind != 0 else if l = 9 then e.Kind == 2 || (e.Kind == 1 && (e.Old.Kind == 1 && e.New.Kind == 1)) else false
def okO (l : Int) (o : S_api_Op) (r : Bool) : Bool :=
 if o.Kind = 0 then (decide (1 ≤ o.N) && decide (o.N ≤ 1048576)) && (o.L.length == 0 && Zja o.E)
 else if o.Kind = 1 ∨ o.Kind = 2 then o.N == 0 && (decide (0 < o.L.length) && ((o.L.all fun t => rt t 63 && okk l t) && Zja o.E))
 else if o.Kind = 3 then o.N == 0 && (o.L.length == 0 && (o.E.Kind != 0 && (Zzp l o.E && r)))
 else false
def Zrk (s : Int × Int) : Bool := decide (s.1 < 1048576) && decide (s.2 < 1048576)
theorem Zze {l : Int} {o : S_api_Op} {r : Bool} (h : okO l o r = true) : o.N + (o.L.length : Int) = (if o.Kind = 3 then 0 else thr o) ∧ 0 ≤ thr o := by
 unfold okO at h
 unfold thr
 by_cases h0 : o.Kind = 0
 ·rw [if_pos h0] at h
  simp only [Bool.and_eq_true, decide_eq_true_eq, beq_iff_eq] at h
  simp only [h0, if_pos]
  refine ⟨?_, ?_⟩
  ·rw [if_neg (by decide)]
   repeat' split
   all_goals omega
  repeat' split
  all_goals omega
 rw [if_neg h0] at h
 by_cases h12 : o.Kind = 1 ∨ o.Kind = 2
 ·rw [if_pos h12] at h
  simp only [Bool.and_eq_true, beq_iff_eq] at h
  rw [if_neg h0, if_pos h12, if_neg (by omega)]
  omega
 rw [if_neg h12] at h
 by_cases h3 : o.Kind = 3
 ·rw [if_pos h3] at h
  simp only [Bool.and_eq_true, beq_iff_eq] at h
  rw [if_neg h0, if_neg h12, if_pos h3, if_pos h3]
  omega
 rw [if_neg h3] at h
 cases h
theorem Zyj {l : Int} {o : S_api_Op} {r : Bool} {s : Int × Int} (h : okO l o r = true) (hs : Sm s) (hl : o.L.length * 56 ≤ 140737488355328) : stR s o = stI s o := by
 have ht := Zt7 hl
 have hk := Zze h
 have hi : Zx9 o = thr o := by
  unfold Zx9
  by_cases h3 : o.Kind = 3
  ·rw [if_pos h3]
   unfold thr
   rw [if_neg (by omega), if_neg (by omega), if_pos h3]
  rw [if_neg h3] at hk ⊢
  rw [Zef (by omega) (by omega)]
  exact hk.1
 unfold Sm at hs
 unfold stR stI
 rw [hi, Zef (by omega) (by omega), Zef (by omega) (by omega)]
 have hc : ∀ x : Int, x ≤ 1048576 → Zoo x = x := fun x hx => by unfold Zoo; rw [if_neg (by omega)]
 refine Prod.ext ?_ ?_
 ·simp only
  split
  ·exact hc _ hs.1.2
  rfl
 simp only
 split
 ·exact hc _ hs.2.2
 rfl
theorem Zo8 {l : Int} (r : S_api_Op → Bool) : ∀ (os : List S_api_Op) (s : Int × Int), Sm s → (∀ o ∈ os, okO l o (r o) = true) → (∀ o ∈ os, o.L.length * 56 ≤ 140737488355328) → os.foldl stR s = os.foldl stI s ∧ Sm (os.foldl stI s)
 | [], s, hs, _, _ => ⟨rfl, hs⟩
 | o :: os, s, hs, h, hl => by
  have h1 := Zyj (h o (.head _)) hs (hl o (.head _))
  have := Zo8 r os (stI s o) (Zt4 hs (hl o (.head _))) (fun x hx => h x (.tail _ hx)) (fun x hx => hl x (.tail _ hx))
  rw [List.foldl_cons, List.foldl_cons, h1]
  exact this
theorem Zul : ∀ (os : List S_api_Op) (s : Int × Int), Sm s → (∀ o ∈ os, o.L.length * 56 ≤ 140737488355328) → (s.1 = 1048576 → (os.foldl stI s).1 = 1048576) ∧ (s.2 = 1048576 → (os.foldl stI s).2 = 1048576)
 | [], s, _, _ => ⟨id, id⟩
 | o :: os, s, hs, hl => by
  have ht := Zt7 (hl o (.head _))
  have := Zul os (stI s o) (Zt4 hs (hl o (.head _))) (fun x hx => hl x (.tail _ hx))
  rw [List.foldl_cons]
  refine ⟨fun h => this.1 ?_, fun h => this.2 ?_⟩
  ·unfold stI Zoo
   simp only
   repeat' split
   all_goals omega
  unfold stI Zoo
  simp only
  repeat' split
  all_goals omega
def okP (p : Int) (x : Int × Bool) : Bool := !(decide (x.1 ≤ p) || decide (65534 < x.1)) && x.2
theorem Zui {α : Type} (g : α → Int × Bool) : ∀ (xs : List α) (p : Int), chk (·.1) okP p (xs.map g) = chk (fun x => (g x).1) (fun p x => okP p (g x)) p xs
 | [], _ => rfl
 | x :: xs, p => by rw [List.map_cons, chk, chk, Zui g xs]
def rE (e : Ed) (d : Nat) : Bool :=
 if d = 0 then false
 else if e.Kind = 0 then Zja e
 else if e.Kind = 1 then (Zqi e && Zmu e) && ((rt e.Old 64 && e.Old.Kind != 10) && (rt e.New 64 && e.New.Kind != 10))
 else if e.Kind = 2 then (Zrq e && Zmu e) && (chk (·.At) okW (-1) e.Words && chk (·.1) okP (-1) (e.Kids.attach.map fun k => (k.1.At, k.1.E.Kind != 0 && rE k.1.E (d - 1))))
 else if e.Kind = 3 then (Zrq e && Zqi e) && ((decide (2 ≤ e.List_) && decide (e.List_ ≤ 9)) && ((e.Ops.attach.map fun o => okO e.List_ o.1 (rE o.1.E (d - 1))).all id && Zrk (e.Ops.foldl stR (0, 0))))
 else false
termination_by SizeOf.sizeOf e
decreasing_by
 ·exact Gd k.2
 exact Zbv o.2
def okK (d : Nat) (p : Int) (k : S_api_KidEdit) : Bool := okP p (k.At, k.E.Kind != 0 && rE k.E d)
theorem Zw5 (e : Ed) (d : Nat) : rE e d = if d = 0 then false
 else if e.Kind = 0 then Zja e
 else if e.Kind = 1 then (Zqi e && Zmu e) && ((rt e.Old 64 && e.Old.Kind != 10) && (rt e.New 64 && e.New.Kind != 10))
 else if e.Kind = 2 then (Zrq e && Zmu e) && (chk (·.At) okW (-1) e.Words && chk (·.At) (okK (d - 1)) (-1) e.Kids)
 else if e.Kind = 3 then (Zrq e && Zqi e) && ((decide (2 ≤ e.List_) && decide (e.List_ ≤ 9)) && ((e.Ops.all fun o => okO e.List_ o (rE o.E (d - 1))) && Zrk (e.Ops.foldl stR (0, 0))))
 else false := by
 rw [rE]
 have h1 : (e.Kids.attach.map fun k => (k.1.At, k.1.E.Kind != 0 && rE k.1.E (d - 1))) = e.Kids.map fun k => (k.At, k.E.Kind != 0 && rE k.E (d - 1)) := List.attach_map_val (f := fun k : S_api_KidEdit => (k.At, k.E.Kind != 0 && rE k.E (d - 1)))
 have h2 : (e.Ops.attach.map fun o => okO e.List_ o.1 (rE o.1.E (d - 1))) = e.Ops.map fun o => okO e.List_ o (rE o.E (d - 1)) := List.attach_map_val (f := fun o : S_api_Op => okO e.List_ o (rE o.E (d - 1)))
 rw [h1, h2, Zui, List.all_map]
 rfl
def ce (e : Ed) : Nat := 1 + e.Words.length + e.Ops.length + (e.Kids.attach.map fun k => ce k.1.E).sum + (e.Ops.attach.map fun o => ce o.1.E).sum
termination_by SizeOf.sizeOf e
decreasing_by
 ·exact Gd k.2
 exact Zbv o.2
theorem Zys (e : Ed) : ce e = 1 + e.Words.length + e.Ops.length + (e.Kids.map fun k => ce k.E).sum + (e.Ops.map fun o => ce o.E).sum := by
 rw [ce]
 have h1 : (e.Kids.attach.map fun k => ce k.1.E) = e.Kids.map fun k => ce k.E := List.attach_map_val (f := fun k : S_api_KidEdit => ce k.E)
 have h2 : (e.Ops.attach.map fun o => ce o.1.E) = e.Ops.map fun o => ce o.E := List.attach_map_val (f := fun o : S_api_Op => ce o.E)
 rw [h1, h2]
theorem Zyg {e : Ed} (hb : BE e) {d : Nat} (h : rE e d = true) : e.Ops.foldl stR (0, 0) = e.Ops.foldl stI (0, 0) := by
 have h0 : Sm (0, 0) := by unfold Sm; simp
 have hnil : Zmu e = true → e.Ops.foldl stR (0, 0) = e.Ops.foldl stI (0, 0) := fun h => by
  unfold Zmu at h
  rw [Bool.and_eq_true, beq_iff_eq, beq_iff_eq] at h
  rw [List.eq_nil_of_length_eq_zero h.2]
  rfl
 rw [Zw5] at h
 split at h
 ·cases h
 split at h
 ·unfold Zja at h
  simp only [Bool.and_eq_true] at h
  exact hnil h.2.2.2
 split at h
 ·simp only [Bool.and_eq_true] at h
  exact hnil h.1.2
 split at h
 ·simp only [Bool.and_eq_true] at h
  exact hnil h.1.2
 split at h
 ·simp only [Bool.and_eq_true] at h
  exact (Zo8 (fun o => rE o.E (d - 1)) e.Ops (0, 0) h0 (List.all_eq_true.1 h.2.2.1) (fun o ho => (hb.l o ho).1)).1
 cases h
theorem Zpu {α : Type} {pl : α → Int} {ok : Int → α → Bool} {Q : α → Prop} (h : ∀ p x, ok p x = true → Q x) : ∀ (xs : List α) (p : Int), chk pl ok p xs = true → ∀ x ∈ xs, Q x
 | [], _, _ => fun x hx => by cases hx
 | y :: xs, p, hc => fun x hx => by
  rw [chk, Bool.and_eq_true] at hc
  rcases List.mem_cons.1 hx with rfl | hx
  ·exact h p _ hc.1
  exact Zpu h xs (pl y) hc.2 x hx
abbrev EO := S_api_Op
def Uj : Tr := ⟨0, [], []⟩
structure NW where
 out : List EO
 gone : List Tr
 come : List Tr
def eS0 : Ed := ⟨0, ⟨0, [], []⟩, ⟨0, [], []⟩, [], [], 0, []⟩
def Zmn (l : Int) (e : Ed) : Bool := e.Kind == 0 || (l == 9 && (e.Kind == 2 && (e.Words.length == 0 && e.Kids.length == 0)))
def Zha (g : List Tr) : List EO := if g = [] then [] else [⟨1, 0, g, eS0⟩]
def Zfm (g : List Tr) : List EO := if g = [] then [] else [⟨2, 0, g, eS0⟩]
def NW.flush (s : NW) : List EO := s.out ++ (Zha s.gone ++ Zfm s.come)
def Gf (out : List EO) (n : Int) : List EO := match out.getLast? with
 | some o => if o.Kind = 0 then out.dropLast ++ [⟨0, o.N + n, o.L, o.E⟩] else out ++ [⟨0, n, [], eS0⟩]
 | none => [⟨0, n, [], eS0⟩]
def stN (l : Int) (s : NW) (p : EO × Ed) : NW :=
 if p.1.Kind = 1 then ⟨s.out, s.gone ++ p.1.L.map nrm, s.come⟩
 else if p.1.Kind = 2 then ⟨s.out, s.gone, s.come ++ p.1.L.map nrm⟩
 else if p.1.Kind = 0 then ⟨Gf s.flush p.1.N, [], []⟩
 else if Zmn l p.2 = true then ⟨Gf s.flush 1, [], []⟩ else ⟨s.flush ++ [⟨3, 0, [], p.2⟩], [], []⟩
def s0N : NW := ⟨[], [], []⟩
def Zlj (l : Int) (ps : List (EO × Ed)) : List EO := (ps.foldl (stN l) s0N).flush
def nE (e : Ed) : Ed :=
 if e.Kind = 1 then ⟨1, nrm e.Old, nrm e.New, [], [], 0, []⟩
 else if e.Kind = 2 then ⟨2, Uj, Uj, e.Words, e.Kids.attach.map fun k => ⟨k.1.At, nE k.1.E⟩, 0, []⟩
 else if e.Kind = 3 then ⟨3, Uj, Uj, [], [], e.List_, Zlj e.List_ (e.Ops.attach.map fun o => (o.1, nE o.1.E))⟩
 else eS0
termination_by SizeOf.sizeOf e
decreasing_by
 ·exact Gd k.2
 exact Zbv o.2
def Ky (l : List EO) : List (EO × Ed) := l.map fun o => (o, nE o.E)
theorem Zk9 (e : Ed) : nE e = if e.Kind = 1 then ⟨1, nrm e.Old, nrm e.New, [], [], 0, []⟩
 else if e.Kind = 2 then ⟨2, Uj, Uj, e.Words, e.Kids.map fun k => ⟨k.At, nE k.E⟩, 0, []⟩
 else if e.Kind = 3 then ⟨3, Uj, Uj, [], [], e.List_, Zlj e.List_ (Ky e.Ops)⟩
 else eS0 := by
 have h1 : (e.Kids.attach.map fun k => (⟨k.1.At, nE k.1.E⟩ : S_api_KidEdit)) = e.Kids.map fun k => ⟨k.At, nE k.E⟩ := List.attach_map_val (f := fun k : S_api_KidEdit => (⟨k.At, nE k.E⟩ : S_api_KidEdit))
 have h2 : (e.Ops.attach.map fun o => ((o.1, nE o.1.E) : EO × Ed)) = Ky e.Ops := List.attach_map_val (f := fun o : EO => ((o, nE o.E) : EO × Ed))
 rw [nE, h1, h2]
theorem U1 (o' : List EO) (k n : Int) (L : List Tr) (E : Ed) : Gf (o' ++ [⟨0, k, L, E⟩]) n = o' ++ [⟨0, k + n, L, E⟩] := by
 unfold Gf
 simp
theorem Zb8 {out : List EO} {n : Int} (h : ∀ o, out.getLast? = some o → o.Kind ≠ 0) : Gf out n = out ++ [⟨0, n, [], eS0⟩] := by
 unfold Gf
 cases hl : out.getLast? with
 | none => rw [List.getLast?_eq_none_iff.1 hl]; rfl
 | some o => simp only [if_neg (h o hl)]
theorem Zwl : Zfm [] = [] := rfl
theorem Zg3 {g : List Tr} (h : g ≠ []) : Zha g = [⟨1, 0, g, eS0⟩] := if_neg h
theorem Zg5 {g : List Tr} (h : g ≠ []) : Zfm g = [⟨2, 0, g, eS0⟩] := if_neg h
theorem Zwg {a b : List Tr} {o : EO} (h : (Zha a ++ Zfm b).getLast? = some o) : o.Kind = 1 ∨ o.Kind = 2 := by
 by_cases hb : b = []
 ·subst hb
  by_cases ha : a = []
  ·subst ha; simp [Zha, Zfm] at h
  rw [Zg3 ha, Zwl] at h; simp at h; subst h; exact .inl rfl
 rw [Zg5 hb] at h
 simp at h
 subst h
 exact .inr rfl
theorem Zx5 {a b : List Tr} (h : Zha a ++ Zfm b = []) : a = [] ∧ b = [] := by
 rw [List.append_eq_nil_iff] at h
 refine ⟨?_, ?_⟩
 ·by_cases ha : a = []
  ·exact ha
  rw [Zg3 ha] at h; simp at h
 by_cases hb : b = []
 ·exact hb
 rw [Zg5 hb] at h; simp at h
theorem Zmd {s : NW} {o : EO} (h : s.flush.getLast? = some o) : (o.Kind = 1 ∨ o.Kind = 2) ∨ (s.gone = [] ∧ s.come = [] ∧ s.out.getLast? = some o) := by
 unfold NW.flush at h
 by_cases hD : Zha s.gone ++ Zfm s.come = []
 ·obtain ⟨h1, h2⟩ := Zx5 hD
  rw [hD, List.append_nil] at h
  exact .inr ⟨h1, h2, h⟩
 rw [List.getLast?_append] at h
 cases hq : (Zha s.gone ++ Zfm s.come).getLast? with
 | none => exact absurd (List.getLast?_eq_none_iff.1 hq) hD
 | some x =>
  rw [hq] at h
  injection h with h
  subst h
  exact .inl (Zwg hq)
structure NInv (l : Int) (s : NW) : Prop where
 again : (Ky s.out).foldl (stN l) s0N = ⟨s.out, [], []⟩
 last : ∀ o' o, s.out = o' ++ [o] → o.Kind = 0 → o.L = [] ∧ o.E = eS0 ∧ (∀ x, o'.getLast? = some x → x.Kind ≠ 0) ∧ ((Ky o').foldl (stN l) s0N).flush = o'
 gone : s.gone.map nrm = s.gone
 come : s.come.map nrm = s.come
theorem Vx (a b : List EO) : Ky (a ++ b) = Ky a ++ Ky b := by simp [Ky]
theorem Zje {l : Int} {s : NW} {n : Int} {L : List Tr} {E r : Ed} : stN l s (⟨0, n, L, E⟩, r) = ⟨Gf s.flush n, [], []⟩ := by
 unfold stN
 simp
theorem Zg4 {l : Int} {s : NW} (h : NInv l s) : (Ky s.flush).foldl (stN l) s0N = s := by
 unfold NW.flush
 rw [Vx, List.foldl_append, h.again, Vx, List.foldl_append]
 have e1 : (Ky (Zha s.gone)).foldl (stN l) ⟨s.out, [], []⟩ = ⟨s.out, s.gone, []⟩ := by
  by_cases hg : s.gone = []
  ·rw [hg]; rfl
  rw [Zg3 hg]; simp [Ky, stN, h.gone]
 have e2 : (Ky (Zfm s.come)).foldl (stN l) ⟨s.out, s.gone, []⟩ = ⟨s.out, s.gone, s.come⟩ := by
  by_cases hg : s.come = []
  ·rw [hg]; rfl
  rw [Zg5 hg]; simp [Ky, stN, h.come]
 rw [e1, e2]
theorem Znd {α : Type} {a b : List α} {x y : α} (h : a ++ [x] = b ++ [y]) : a = b ∧ x = y := by
 have := List.append_inj' h rfl
 exact ⟨this.1, by simpa using this.2⟩
theorem NInv.keep {l : Int} {s : NW} (h : NInv l s) (n : Int) : NInv l ⟨Gf s.flush n, [], []⟩ := by
 by_cases hk : ∃ o, s.flush.getLast? = some o ∧ o.Kind = 0
 ·obtain ⟨o, ho, hk0⟩ := hk
  rcases Zmd ho with h12 | ⟨g1, g2, g3⟩
  ·omega
  have hfl : s.flush = s.out := by unfold NW.flush; rw [g1, g2]; simp [Zha, Zfm]
  obtain ⟨o', ho'⟩ := List.getLast?_eq_some_iff.1 g3
  obtain ⟨a1, a2, a3, a4⟩ := h.last o' o ho' hk0
  obtain ⟨k, N, L, E⟩ := o
  simp only at hk0 a1 a2
  subst hk0 a1 a2
  rw [hfl, ho', U1]
  have key : ∀ N' : Int, (Ky (o' ++ [⟨0, N', [], eS0⟩])).foldl (stN l) s0N = ⟨o' ++ [⟨0, N', [], eS0⟩], [], []⟩ := fun N' => by
   rw [Vx, List.foldl_append]
   show stN l _ (⟨0, N', [], eS0⟩, nE eS0) = _
   rw [Zje, a4, Zb8 a3]
  refine ⟨key _, fun o1 o2 he hk2 => ?_, rfl, rfl⟩
  obtain ⟨e1, e2⟩ := Znd he
  subst e1 e2
  exact ⟨rfl, rfl, a3, a4⟩
 have hk' : ∀ o, s.flush.getLast? = some o → o.Kind ≠ 0 := fun o ho h0 => hk ⟨o, ho, h0⟩
 rw [Zb8 hk']
 refine ⟨?_, fun o1 o2 he hk2 => ?_, rfl, rfl⟩
 ·rw [Vx, List.foldl_append, Zg4 h]
  show stN l _ (⟨0, n, [], eS0⟩, nE eS0) = _
  rw [Zje, Zb8 hk']
 simp only at he
 obtain ⟨e1, e2⟩ := Znd he
 subst e1 e2
 exact ⟨rfl, rfl, hk', by rw [Zg4 h]⟩
theorem NInv.step {l : Int} {s : NW} (h : NInv l s) {p : EO × Ed} (hp : nE p.2 = p.2) : NInv l (stN l s p) := by
 unfold stN
 split
 ·exact ⟨h.again, h.last, by simp only [List.map_append, h.gone, List.map_map]; congr 1; exact List.map_congr_left fun x _ => Zls x, h.come⟩
 split
 ·exact ⟨h.again, h.last, h.gone, by simp only [List.map_append, h.come, List.map_map]; congr 1; exact List.map_congr_left fun x _ => Zls x⟩
 split
 ·exact h.keep _
 split
 ·exact h.keep _
 rename_i h1 h2 h0 hi
 refine ⟨?_, fun o1 o2 he hk2 => ?_, rfl, rfl⟩
 ·simp only
  rw [Vx, List.foldl_append, Zg4 h]
  show stN l s (⟨3, 0, [], p.2⟩, nE p.2) = _
  rw [hp]
  unfold stN
  simp only [show ¬ (3 : Int) = 1 from by decide, show ¬ (3 : Int) = 2 from by decide, show ¬ (3 : Int) = 0 from by decide, if_false]
  rw [if_neg hi]
 simp only at he
 obtain ⟨_, e2⟩ := Znd he
 subst e2
 simp at hk2
theorem Zpc {l : Int} : ∀ (ps : List (EO × Ed)) (s : NW), NInv l s → (∀ p ∈ ps, nE p.2 = p.2) → NInv l (ps.foldl (stN l) s)
 | [], _, h, _ => h
 | p :: ps, s, h, hp => Zpc ps _ (h.step (hp p (by simp))) fun q hq => hp q (by simp [hq])
theorem Ztw {l : Int} {ps : List (EO × Ed)} (hp : ∀ p ∈ ps, nE p.2 = p.2) : Zlj l (Ky (Zlj l ps)) = Zlj l ps := by
 have h := Zpc ps s0N (l := l) ⟨rfl, fun o' o he => by simp [s0N] at he, rfl, rfl⟩ hp
 unfold Zlj
 rw [Zg4 h]
theorem Zqh : ∀ (n : Nat) (e : Ed), SizeOf.sizeOf e < n → nE (nE e) = nE e
 | 0, _, h => by omega
 | n + 1, e, h => by
  rw [Zk9 e]
  by_cases h1 : e.Kind = 1
  ·rw [if_pos h1, Zk9]
   simp [Zls]
  rw [if_neg h1]
  by_cases h2 : e.Kind = 2
  ·rw [if_pos h2, Zk9]
   simp only [show ¬ (2 : Int) = 1 from by decide, if_false, if_true, List.map_map]
   congr 1
   refine List.map_congr_left fun k hk => ?_
   simp only [Function.comp]
   rw [Zqh n k.E (by have := Gd hk; omega)]
  rw [if_neg h2]
  by_cases h3 : e.Kind = 3
  ·rw [if_pos h3, Zk9]
   simp only [show ¬ (3 : Int) = 1 from by decide, show ¬ (3 : Int) = 2 from by decide, if_false, if_true]
   rw [Ztw fun p hp => ?_]
   obtain ⟨o, ho, rfl⟩ := List.mem_map.1 hp
   exact Zqh n o.E (by have := Zbv ho; omega)
  rw [if_neg h3, Zk9]
  simp [eS0]
theorem Zzu (e : Ed) : nE (nE e) = nE e := Zqh _ e (Nat.lt_succ_self _)
def thN (o : EO) : Nat := if o.Kind = 0 then o.N.toNat else if o.Kind = 3 then 1 else o.L.length
def opk (o : EO) : Prop := (o.Kind = 0 ∧ 1 ≤ o.N) ∨ (o.Kind = 1 ∧ o.L ≠ []) ∨ (o.Kind = 2 ∧ o.L ≠ []) ∨ o.Kind = 3
def Jt (l : List EO) : Nat := (l.map thN).sum
theorem Zvr (out : List EO) (n : Int) : (Gf out n).length ≤ out.length + 1 := by
 unfold Gf
 split
 ·split <;> simp
 simp
inductive GN : Ed → Prop
 | mk (e : Ed) (hw : e.Words.length ≤ 1048576) (hk : e.Kids.length ≤ 1048576) (ho : e.Ops.length ≤ 1048576) (hs : Jt e.Ops ≤ 1073741824) (hp : ∀ o ∈ e.Ops, opk o) (ik : ∀ k ∈ e.Kids, GN k.E) (io : ∀ o ∈ e.Ops, GN o.E) : GN e
theorem GN.w {e : Ed} (h : GN e) : e.Words.length ≤ 1048576 := by cases h; assumption
theorem GN.k {e : Ed} (h : GN e) : e.Kids.length ≤ 1048576 := by cases h; assumption
theorem GN.o {e : Ed} (h : GN e) : e.Ops.length ≤ 1048576 := by cases h; assumption
theorem GN.s {e : Ed} (h : GN e) : Jt e.Ops ≤ 1073741824 := by cases h; assumption
theorem GN.p {e : Ed} (h : GN e) : ∀ o ∈ e.Ops, opk o := by cases h; assumption
theorem GN.ks {e : Ed} (h : GN e) : ∀ k ∈ e.Kids, GN k.E := by cases h; assumption
theorem GN.os {e : Ed} (h : GN e) : ∀ o ∈ e.Ops, GN o.E := by cases h; assumption
theorem Zx7 {e : Ed} (h : Zja e = true) : GN e := by
 unfold Zja Zqi Zmu at h
 simp only [Bool.and_eq_true, beq_iff_eq] at h
 obtain ⟨_, _, ⟨h1, h2⟩, _, h3⟩ := h
 have w := List.eq_nil_of_length_eq_zero h1
 have k := List.eq_nil_of_length_eq_zero h2
 have o := List.eq_nil_of_length_eq_zero h3
 exact .mk _ (by rw [w]; simp) (by rw [k]; simp) (by rw [o]; simp) (by rw [o]; simp [Jt]) (by rw [o]; simp) (by rw [k]; simp) (by rw [o]; simp)
theorem Zun : GN eS0 := .mk _ (by simp [eS0]) (by simp [eS0]) (by simp [eS0]) (by simp [eS0, Jt]) (by simp [eS0]) (by simp [eS0]) (by simp [eS0])
theorem Zbg : Bd Uj := .mk _ (by simp [Uj]) (by simp [Uj]) (by simp [Uj]) (by simp [Uj])
theorem Zug : BE eS0 := .mk _ Zbg Zbg (by simp [eS0]) (by simp [eS0]) (by simp [eS0]) (by simp [eS0]) (by simp [eS0]) (by simp [eS0]) (by simp [eS0])
theorem Zym {l : Int} {o : EO} {r : Bool} (h : okO l o r = true) : ((thN o : Nat) : Int) = thr o := by
 unfold okO at h
 unfold thN thr
 by_cases h0 : o.Kind = 0
 ·rw [if_pos h0] at h
  simp only [Bool.and_eq_true, decide_eq_true_eq] at h
  rw [if_pos h0, if_pos h0]
  split <;> split at * <;> omega
 rw [if_neg h0] at h ⊢
 rw [if_neg h0]
 by_cases h12 : o.Kind = 1 ∨ o.Kind = 2
 ·rw [if_pos h12, if_neg (by omega)]
 rw [if_neg h12] at h ⊢
 by_cases h3 : o.Kind = 3
 ·rw [if_pos h3, if_pos h3]; rfl
 rw [if_neg h3] at h; cases h
theorem Zuw {l : Int} {o : EO} {r : Bool} (h : okO l o r = true) : opk o := by
 unfold okO at h
 unfold opk
 by_cases h0 : o.Kind = 0
 ·rw [if_pos h0] at h
  simp only [Bool.and_eq_true, decide_eq_true_eq] at h
  exact .inl ⟨h0, h.1.1⟩
 rw [if_neg h0] at h
 by_cases h12 : o.Kind = 1 ∨ o.Kind = 2
 ·rw [if_pos h12] at h
  simp only [Bool.and_eq_true, decide_eq_true_eq] at h
  have hne : o.L ≠ [] := by
   intro he
   rw [he] at h
   simp at h
  rcases h12 with h1 | h2
  ·exact .inr (.inl ⟨h1, hne⟩)
  exact .inr (.inr (.inl ⟨h2, hne⟩))
 rw [if_neg h12] at h
 by_cases h3 : o.Kind = 3
 ·exact .inr (.inr (.inr h3))
 rw [if_neg h3] at h; cases h
theorem Zr5 {l : Int} (r : EO → Bool) : ∀ (os : List EO) (s : Int × Int), Sm s → (∀ o ∈ os, okO l o (r o) = true) → (∀ o ∈ os, o.L.length * 56 ≤ 140737488355328) → Zrk (os.foldl stI s) = true → s.1 + s.2 + ((Jt os : Nat) : Int) ≤ (os.foldl stI s).1 + (os.foldl stI s).2
 | [], s, _, _, _, _ => by simp [Jt]
 | o :: os, s, hs, h, hl, hb => by
  have hsm := Zt4 hs (hl o (.head _))
  have hup := Zul os (stI s o) hsm (fun x hx => hl x (.tail _ hx))
  have ih := Zr5 r os (stI s o) hsm (fun x hx => h x (.tail _ hx)) (fun x hx => hl x (.tail _ hx)) hb
  have hso : Jt (o :: os) = thN o + Jt os := by unfold Jt; simp
  have ht := Zym (h o (.head _))
  rw [List.foldl_cons] at hb ⊢
  unfold Zrk at hb
  rw [Bool.and_eq_true, decide_eq_true_eq, decide_eq_true_eq] at hb
  have n1 : (stI s o).1 ≠ 1048576 := fun he => by have := hup.1 he; omega
  have n2 : (stI s o).2 ≠ 1048576 := fun he => by have := hup.2 he; omega
  have key : s.1 + s.2 + thr o ≤ (stI s o).1 + (stI s o).2 := by
   have hth : 0 ≤ thr o := by omega
   unfold stI Zoo at n1 n2 ⊢
   simp only at n1 n2 ⊢
   by_cases k2 : o.Kind = 2
   ·rw [if_neg (by omega : ¬ o.Kind = 1)] at n2 ⊢
    rw [if_pos k2]
    split at n2
    ·omega
    rename_i h5; rw [if_neg h5]; omega
   rw [if_neg k2] at n1 ⊢
   split at n1
   ·omega
   rename_i h5
   rw [if_neg h5]
   by_cases k1 : o.Kind = 1
   ·rw [if_pos k1]; omega
   rw [if_neg k1] at n2 ⊢
   split at n2
   ·omega
   rename_i h6; rw [if_neg h6]; omega
  rw [hso]
  omega
theorem Zik {α : Type} {f : α → Nat} {x : α} : ∀ {l : List α}, x ∈ l → f x ≤ (l.map f).sum
 | y :: l, h => by
  rw [List.map_cons, List.sum_cons]
  rcases List.mem_cons.1 h with rfl | h
  ·omega
  have := Zik (f := f) h; omega
theorem Zil {α : Type} {f : α → Nat} : ∀ {l : List α}, (∀ x ∈ l, 1 ≤ f x) → l.length ≤ (l.map f).sum
 | [], _ => Nat.le_refl _
 | y :: l, h => by
  rw [List.map_cons, List.sum_cons, List.length_cons]
  have := Zil (f := f) (l := l) fun x hx => h x (by simp [hx])
  have := h y (by simp)
  omega
theorem Zy6 (e : Ed) : 1 ≤ ce e := by rw [Zys]; omega
theorem Zwh : ∀ (n : Nat) (e : Ed) (d : Nat), SizeOf.sizeOf e < n → BE e → ce e ≤ 1000000 → rE e d = true → GN e
 | 0, _, _, h, _, _, _ => by omega
 | n + 1, e, d, hn, hb, hc, h => by
  have hc' := hc
  rw [Zys] at hc'
  have hk1 : e.Kids.length ≤ (e.Kids.map fun k => ce k.E).sum := Zil fun x _ => Zy6 _
  have hlens := Zyg hb h
  have hparts : (∀ k ∈ e.Kids, ∃ d', rE k.E d' = true) ∧ (∀ o ∈ e.Ops, opk o ∧ (Zja o.E = true ∨ ∃ d', rE o.E d' = true)) ∧ Jt e.Ops ≤ 2097152 := by
   rw [Zw5] at h
   by_cases hd : d = 0
   ·rw [if_pos hd] at h; cases h
   rw [if_neg hd] at h
   by_cases h0 : e.Kind = 0
   ·rw [if_pos h0] at h
    unfold Zja Zqi Zmu at h
    simp only [Bool.and_eq_true, beq_iff_eq] at h
    obtain ⟨_, _, ⟨h1, h2⟩, _, h3⟩ := h
    rw [List.eq_nil_of_length_eq_zero h2, List.eq_nil_of_length_eq_zero h3]
    simp [Jt]
   rw [if_neg h0] at h
   by_cases h1 : e.Kind = 1
   ·rw [if_pos h1] at h
    unfold Zqi Zmu at h
    simp only [Bool.and_eq_true, beq_iff_eq] at h
    rw [List.eq_nil_of_length_eq_zero h.1.1.2, List.eq_nil_of_length_eq_zero h.1.2.2]
    simp [Jt]
   rw [if_neg h1] at h
   by_cases h2 : e.Kind = 2
   ·rw [if_pos h2] at h
    unfold Zmu at h
    simp only [Bool.and_eq_true, beq_iff_eq] at h
    rw [List.eq_nil_of_length_eq_zero h.1.2.2]
    refine ⟨fun k hk => ⟨d - 1, ?_⟩, by simp, by simp [Jt]⟩
    exact Zpu (Q := fun k : S_api_KidEdit => rE k.E (d - 1) = true) (fun p x hx => by
     unfold okK okP at hx
     simp only [Bool.and_eq_true] at hx
     exact hx.2.2) e.Kids (-1) h.2.2 k hk
   rw [if_neg h2] at h
   by_cases h3 : e.Kind = 3
   ·rw [if_pos h3] at h
    unfold Zqi at h
    rw [Bool.and_eq_true, Bool.and_eq_true, Bool.and_eq_true, Bool.and_eq_true, Bool.and_eq_true, Bool.and_eq_true, beq_iff_eq, beq_iff_eq, List.all_eq_true] at h
    obtain ⟨⟨_, _, hk⟩, _, hall, hB⟩ := h
    rw [List.eq_nil_of_length_eq_zero hk]
    refine ⟨by simp, fun o ho => ⟨Zuw (hall o ho), ?_⟩, ?_⟩
    ·have := hall o ho
     unfold okO at this
     by_cases k0 : o.Kind = 0
     ·rw [if_pos k0] at this
      simp only [Bool.and_eq_true] at this
      exact .inl this.2.2
     rw [if_neg k0] at this
     by_cases k12 : o.Kind = 1 ∨ o.Kind = 2
     ·rw [if_pos k12] at this
      simp only [Bool.and_eq_true] at this
      exact .inl this.2.2.2
     rw [if_neg k12] at this
     by_cases k3 : o.Kind = 3
     ·rw [if_pos k3] at this
      simp only [Bool.and_eq_true] at this
      exact .inr ⟨d - 1, this.2.2.2.2⟩
     rw [if_neg k3] at this; cases this
    rw [hlens] at hB
    have := Zr5 (l := e.List_) (fun o => rE o.E (d - 1)) e.Ops (0, 0) ⟨⟨by decide, by decide⟩, by decide, by decide⟩ hall (fun o ho => (hb.l o ho).1) hB
    unfold Zrk at hB
    rw [Bool.and_eq_true, decide_eq_true_eq, decide_eq_true_eq] at hB
    simp only at this
    omega
   rw [if_neg h3] at h; cases h
  refine .mk _ (by omega) (by omega) (by omega) (by omega) (fun o ho => (hparts.2.1 o ho).1) (fun k hk => ?_) (fun o ho => ?_)
  ·obtain ⟨d', hd'⟩ := hparts.1 k hk
   have := Zik (f := fun k : S_api_KidEdit => ce k.E) hk
   exact Zwh n k.E d' (by have := Gd hk; omega) (hb.ks k hk) (by omega) hd'
  rcases (hparts.2.1 o ho).2 with hs | ⟨d', hd'⟩
  ·exact Zx7 hs
  have := Zik (f := fun o : S_api_Op => ce o.E) ho
  exact Zwh n o.E d' (by have := Zbv ho; omega) (hb.os o ho) (by omega) hd'
def OQ (S : Nat) (o : EO) : Prop := opk o ∧ o.L.length ≤ S ∧ (∀ t ∈ o.L, Bd t) ∧ BE o.E ∧ GN o.E
structure OB (s : NW) (i S : Nat) : Prop where
 out : ∀ o ∈ s.out, OQ S o
 gone : ∀ t ∈ s.gone, Bd t
 come : ∀ t ∈ s.come, Bd t
 cnt : s.flush.length ≤ i
 sum : Jt s.flush ≤ S
theorem OQ.mono {S S' : Nat} {o : EO} (h : OQ S o) (hS : S ≤ S') : OQ S' o := ⟨h.1, Nat.le_trans h.2.1 hS, h.2.2⟩
theorem Zd5 (a b : List EO) : Jt (a ++ b) = Jt a + Jt b := by unfold Jt; rw [List.map_append, List.sum_append]
theorem Zxj (g : List Tr) : Jt (Zha g) = g.length := by
 by_cases h : g = []
 ·subst h; rfl
 rw [Zg3 h]; simp [Jt, thN]
theorem Zxk (g : List Tr) : Jt (Zfm g) = g.length := by
 by_cases h : g = []
 ·subst h; rfl
 rw [Zg5 h]; simp [Jt, thN]
theorem Zh0 (s : NW) : Jt s.flush = Jt s.out + (s.gone.length + s.come.length) := by
 unfold NW.flush
 rw [Zd5, Zd5, Zxj, Zxk]
theorem OB.fl {s : NW} {i S : Nat} (h : OB s i S) : ∀ o ∈ s.flush, OQ S o := fun o ho => by
 have hs := h.sum
 rw [Zh0] at hs
 unfold NW.flush at ho
 rw [List.mem_append, List.mem_append] at ho
 rcases ho with ho | ho | ho
 ·exact h.out o ho
 ·by_cases hg : s.gone = []
  ·rw [hg] at ho; simp [Zha] at ho
  rw [Zg3 hg, List.mem_singleton] at ho
  subst ho
  exact ⟨.inr (.inl ⟨rfl, hg⟩), by simp only; omega, h.gone, Zug, Zun⟩
 by_cases hg : s.come = []
 ·rw [hg] at ho; simp [Zfm] at ho
 rw [Zg5 hg, List.mem_singleton] at ho
 subst ho
 exact ⟨.inr (.inr (.inl ⟨rfl, hg⟩)), by simp only; omega, h.come, Zug, Zun⟩
theorem Zw3 {F : List EO} {S : Nat} {n : Int} (hn : 1 ≤ n) (hF : ∀ o ∈ F, OQ S o) : (∀ o ∈ Gf F n, OQ S o) ∧ Jt (Gf F n) = Jt F + n.toNat := by
 have hq : OQ S (⟨0, n, [], eS0⟩ : EO) := ⟨.inl ⟨rfl, hn⟩, Nat.zero_le _, by simp, Zug, Zun⟩
 by_cases hk : ∃ o, F.getLast? = some o ∧ o.Kind = 0
 ·obtain ⟨o, ho, hk0⟩ := hk
  obtain ⟨o', ho'⟩ := List.getLast?_eq_some_iff.1 ho
  subst ho'
  have hoq := hF o (by simp)
  obtain ⟨k, N, L, E⟩ := o
  simp only at hk0
  subst hk0
  have hN : 1 ≤ N := by
   rcases hoq.1 with ⟨_, h⟩ | ⟨h, _⟩ | ⟨h, _⟩ | h
   ·exact h
   ·simp at h
   ·simp at h
   simp at h
  rw [U1]
  refine ⟨fun x hx => ?_, ?_⟩
  ·rcases List.mem_append.1 hx with hx | hx
   ·exact hF x (by simp [hx])
   rw [List.mem_singleton.1 hx]
   exact ⟨.inl ⟨rfl, by simp only; omega⟩, hoq.2⟩
  rw [Zd5, Zd5]
  simp only [Jt, List.map_cons, List.map_nil, List.sum_cons, List.sum_nil, thN, if_true]
  omega
 rw [Zb8 fun o ho h0 => hk ⟨o, ho, h0⟩]
 refine ⟨fun x hx => ?_, ?_⟩
 ·rcases List.mem_append.1 hx with hx | hx
  ·exact hF x hx
  rw [List.mem_singleton.1 hx]; exact hq
 rw [Zd5]
 simp [Jt, thN]
theorem Zak (out : List EO) : (⟨out, [], []⟩ : NW).flush = out := by unfold NW.flush; simp [Zha, Zfm]
theorem Zwb (g : List Tr) : (Zha g).length ≤ 1 := by unfold Zha; split <;> simp
theorem Zwk (g : List Tr) : (Zfm g).length ≤ 1 := by unfold Zfm; split <;> simp
theorem OB.step {s : NW} {i S : Nat} (h : OB s i S) {l : Int} {p : EO × Ed} (hp : opk p.1) (hL : ∀ t ∈ p.1.L, Bd t) (hb : BE p.2) (hg : GN p.2) : OB (stN l s p) (i + 1) (S + thN p.1) := by
 have hfs := h.sum
 have hfc := h.cnt
 have hpush : ∀ n : Int, 1 ≤ n → n.toNat ≤ thN p.1 → OB ⟨Gf s.flush n, [], []⟩ (i + 1) (S + thN p.1) := fun n hn hnt => by
  obtain ⟨q1, q2⟩ := Zw3 hn h.fl
  have ql := Zvr s.flush n
  refine ⟨fun o ho => (q1 o ho).mono (by omega), by simp, by simp, ?_, ?_⟩
  ·rw [Zak]; omega
  rw [Zak, q2]; omega
 unfold stN
 by_cases k1 : p.1.Kind = 1
 ·have ht : thN p.1 = p.1.L.length := by unfold thN; rw [if_neg (by omega), if_neg (by omega)]
  rw [if_pos k1, ht]
  refine ⟨fun o ho => (h.out o ho).mono (by omega), fun t ht => ?_, h.come, ?_, ?_⟩
  ·rcases List.mem_append.1 ht with ht | ht
   ·exact h.gone t ht
   obtain ⟨x, hx, rfl⟩ := List.mem_map.1 ht
   exact (hL x hx).nrm
  ·unfold NW.flush at hfc ⊢
   have := Zwb (s.gone ++ p.1.L.map nrm)
   simp only [List.length_append] at hfc ⊢
   omega
  rw [Zh0] at hfs ⊢
  simp only [List.length_append, List.length_map]
  omega
 rw [if_neg k1]
 by_cases k2 : p.1.Kind = 2
 ·have ht : thN p.1 = p.1.L.length := by unfold thN; rw [if_neg (by omega), if_neg (by omega)]
  rw [if_pos k2, ht]
  refine ⟨fun o ho => (h.out o ho).mono (by omega), h.gone, fun t ht => ?_, ?_, ?_⟩
  ·rcases List.mem_append.1 ht with ht | ht
   ·exact h.come t ht
   obtain ⟨x, hx, rfl⟩ := List.mem_map.1 ht
   exact (hL x hx).nrm
  ·unfold NW.flush at hfc ⊢
   have := Zwk (s.come ++ p.1.L.map nrm)
   simp only [List.length_append] at hfc ⊢
   omega
  rw [Zh0] at hfs ⊢
  simp only [List.length_append, List.length_map]
  omega
 rw [if_neg k2]
 by_cases k0 : p.1.Kind = 0
 ·rw [if_pos k0]
  have hN : 1 ≤ p.1.N := by
   rcases hp with ⟨_, h⟩ | ⟨h, _⟩ | ⟨h, _⟩ | h
   ·exact h
   ·omega
   ·omega
   omega
  exact hpush _ hN (by unfold thN; rw [if_pos k0]; exact Nat.le_refl _)
 rw [if_neg k0]
 have k3 : p.1.Kind = 3 := by
  rcases hp with ⟨h, _⟩ | ⟨h, _⟩ | ⟨h, _⟩ | h
  ·omega
  ·omega
  ·omega
  exact h
 have ht : thN p.1 = 1 := by unfold thN; rw [if_neg k0, if_pos k3]
 split
 ·exact hpush 1 (by omega) (by omega)
 refine ⟨fun o ho => ?_, by simp, by simp, ?_, ?_⟩
 ·rcases List.mem_append.1 ho with ho | ho
  ·exact (h.fl o ho).mono (by omega)
  rw [List.mem_singleton.1 ho]
  exact ⟨.inr (.inr (.inr rfl)), Nat.zero_le _, by simp, hb, hg⟩
 ·rw [Zak, List.length_append]; simp; omega
 rw [Zak, Zd5, ht]
 have : Jt [(⟨3, 0, [], p.2⟩ : EO)] = 1 := by simp [Jt, thN]
 omega
theorem Zuv {l : Int} : ∀ (os : List EO) (s : NW) (i S : Nat), OB s i S → (∀ o ∈ os, opk o ∧ (∀ t ∈ o.L, Bd t) ∧ BE (nE o.E) ∧ GN (nE o.E)) → OB ((Ky os).foldl (stN l) s) (i + os.length) (S + Jt os)
 | [], s, i, S, h, _ => by simpa [Ky, Jt] using h
 | o :: os, s, i, S, h, hq => by
  obtain ⟨q1, q2, q3, q4⟩ := hq o (by simp)
  have := Zuv (l := l) os _ _ _ (h.step (l := l) (p := (o, nE o.E)) q1 q2 q3 q4) fun x hx => hq x (by simp [hx])
  have e1 : i + 1 + os.length = i + (o :: os).length := by simp; omega
  have e2 : S + thN o + Jt os = S + Jt (o :: os) := by unfold Jt; simp; omega
  rw [e1, e2] at this
  exact this
theorem Zlr : ∀ (n : Nat) (e : Ed), SizeOf.sizeOf e < n → BE e → GN e → BE (nE e) ∧ GN (nE e)
 | 0, _, h, _, _ => by omega
 | n + 1, e, hn, hb, hg => by
  have ik : ∀ k ∈ e.Kids, BE (nE k.E) ∧ GN (nE k.E) := fun k hk => Zlr n k.E (by have := Gd hk; omega) (hb.ks k hk) (hg.ks k hk)
  have io : ∀ o ∈ e.Ops, BE (nE o.E) ∧ GN (nE o.E) := fun o ho => Zlr n o.E (by have := Zbv ho; omega) (hb.os o ho) (hg.os o ho)
  have hw := hg.w
  have hk := hg.k
  rw [Zk9]
  by_cases h1 : e.Kind = 1
  ·rw [if_pos h1]
   exact ⟨.mk _ hb.old.nrm hb.new.nrm (by simp) (by simp) (by simp) (by simp) (by simp) (by simp) (by simp), .mk _ (by simp) (by simp) (by simp) (by simp [Jt]) (by simp) (by simp) (by simp)⟩
  rw [if_neg h1]
  by_cases h2 : e.Kind = 2
  ·rw [if_pos h2]
   refine ⟨.mk _ Zbg Zbg hb.w hb.ws (by simp only [List.length_map]; omega) (fun k hk => ?_) (by simp) (by simp) (by simp), .mk _ hg.w (by simp only [List.length_map]; omega) (by simp) (by simp [Jt]) (by simp) (fun k hk => ?_) (by simp)⟩
   ·obtain ⟨x, hx, rfl⟩ := List.mem_map.1 hk
    exact (ik x hx).1
   obtain ⟨x, hx, rfl⟩ := List.mem_map.1 hk
   exact (ik x hx).2
  rw [if_neg h2]
  by_cases h3 : e.Kind = 3
  ·rw [if_pos h3]
   have hob := Zuv (l := e.List_) e.Ops s0N 0 0 ⟨by simp [s0N], by simp [s0N], by simp [s0N], Nat.le_refl _, Nat.le_refl _⟩ fun o ho => ⟨hg.p o ho, (hb.l o ho).2, (io o ho).1, (io o ho).2⟩
   have h5 := hob.cnt
   have h6 := hob.sum
   have h7 := hg.o
   have h8 := hg.s
   have hall := hob.fl
   refine ⟨.mk _ Zbg Zbg (by simp) (by simp) (by simp) (by simp) ?_ (fun o ho => ?_) (fun o ho => (hall o ho).2.2.2.1), .mk _ (by simp) (by simp) ?_ ?_ (fun o ho => (hall o ho).1) (by simp) (fun o ho => (hall o ho).2.2.2.2)⟩
   ·show ((Zlj e.List_ (Ky e.Ops)).length : Int) ≤ _
    unfold Zlj
    omega
   ·have := (hall o ho).2.1
    exact ⟨by omega, (hall o ho).2.2.1⟩
   ·show (Zlj e.List_ (Ky e.Ops)).length ≤ _
    unfold Zlj
    omega
   show Jt (Zlj e.List_ (Ky e.Ops)) ≤ _
   unfold Zlj
   omega
  rw [if_neg h3]
  exact ⟨Zug, Zun⟩
theorem BE.nE {e : Ed} (hb : BE e) (hg : GN e) : BE (nE e) := (Zlr _ e (Nat.lt_succ_self _) hb hg).1
theorem GN.nE {e : Ed} (hb : BE e) (hg : GN e) : GN (nE e) := (Zlr _ e (Nat.lt_succ_self _) hb hg).2
def swW (w : Zj) : Zj := ⟨w.At, w.Mask, w.New, w.Old⟩
def tE (e : Ed) : Ed :=
 ⟨e.Kind, e.New, e.Old, e.Words.map swW, e.Kids.attach.map (fun k => ⟨k.1.At, tE k.1.E⟩), e.List_, e.Ops.attach.map (fun o => if o.1.Kind = 1 then ⟨2, o.1.N, o.1.L, o.1.E⟩ else if o.1.Kind = 2 then ⟨1, o.1.N, o.1.L, o.1.E⟩ else if o.1.Kind = 3 then ⟨o.1.Kind, o.1.N, o.1.L, tE o.1.E⟩ else o.1)⟩
termination_by SizeOf.sizeOf e
decreasing_by
 ·exact Gd k.2
 exact Zbv o.2
def tO (o : EO) : EO := if o.Kind = 1 then ⟨2, o.N, o.L, o.E⟩ else if o.Kind = 2 then ⟨1, o.N, o.L, o.E⟩ else if o.Kind = 3 then ⟨o.Kind, o.N, o.L, tE o.E⟩ else o
theorem Zyz (e : Ed) : tE e = ⟨e.Kind, e.New, e.Old, e.Words.map swW, e.Kids.map (fun k => ⟨k.At, tE k.E⟩), e.List_, e.Ops.map tO⟩ := by
 have h1 : (e.Kids.attach.map fun k => (⟨k.1.At, tE k.1.E⟩ : S_api_KidEdit)) = e.Kids.map fun k => ⟨k.At, tE k.E⟩ := List.attach_map_val (f := fun k : S_api_KidEdit => (⟨k.At, tE k.E⟩ : S_api_KidEdit))
 have h2 : (e.Ops.attach.map fun o => if o.1.Kind = 1 then (⟨2, o.1.N, o.1.L, o.1.E⟩ : EO) else if o.1.Kind = 2 then ⟨1, o.1.N, o.1.L, o.1.E⟩ else if o.1.Kind = 3 then ⟨o.1.Kind, o.1.N, o.1.L, tE o.1.E⟩ else o.1) = e.Ops.map tO := List.attach_map_val (f := tO)
 rw [tE, h1, h2]
theorem Zyk {o : EO} (h : o.Kind = 1) : tO o = ⟨2, o.N, o.L, o.E⟩ := by unfold tO; rw [if_pos h]
theorem Zyl {o : EO} (h : o.Kind = 2) : tO o = ⟨1, o.N, o.L, o.E⟩ := by unfold tO; rw [if_neg (by omega), if_pos h]
theorem Zxm {o : EO} (h : o.Kind = 3) : tO o = ⟨3, o.N, o.L, tE o.E⟩ := by unfold tO; rw [if_neg (by omega), if_neg (by omega), if_pos h, h]
theorem Zxl {o : EO} (h : ¬ o.Kind = 1) (h2 : ¬ o.Kind = 2) (h3 : ¬ o.Kind = 3) : tO o = o := by unfold tO; rw [if_neg h, if_neg h2, if_neg h3]
theorem Zzh (o : EO) : thN (tO o) = thN o := by
 by_cases h1 : o.Kind = 1
 ·rw [Zyk h1]; simp [thN, h1]
 by_cases h2 : o.Kind = 2
 ·rw [Zyl h2]; simp [thN, h2]
 by_cases h3 : o.Kind = 3
 ·rw [Zxm h3]; simp [thN, h3]
 rw [Zxl h1 h2 h3]
theorem Zzf {o : EO} (h : opk o) : opk (tO o) := by
 rcases h with ⟨k, h⟩ | ⟨k, h⟩ | ⟨k, h⟩ | k
 ·rw [Zxl (by omega) (by omega) (by omega)]; exact .inl ⟨k, h⟩
 ·rw [Zyk k]; exact .inr (.inr (.inl ⟨rfl, h⟩))
 ·rw [Zyl k]; exact .inr (.inl ⟨rfl, h⟩)
 rw [Zxm k]; exact .inr (.inr (.inr rfl))
theorem Z0r (o : EO) : (tO o).L = o.L := by
 by_cases h1 : o.Kind = 1
 ·exact (congrArg S_api_Op.L (Zyk h1) :)
 by_cases h2 : o.Kind = 2
 ·exact (congrArg S_api_Op.L (Zyl h2) :)
 by_cases h3 : o.Kind = 3
 ·exact (congrArg S_api_Op.L (Zxm h3) :)
 exact (congrArg S_api_Op.L (Zxl h1 h2 h3) :)
theorem Zly : ∀ (n : Nat) (e : Ed), SizeOf.sizeOf e < n → BE e → GN e → BE (tE e) ∧ GN (tE e)
 | 0, _, h, _, _ => by omega
 | n + 1, e, hn, hb, hg => by
  have ik : ∀ k ∈ e.Kids, BE (tE k.E) ∧ GN (tE k.E) := fun k hk => Zly n k.E (by have := Gd hk; omega) (hb.ks k hk) (hg.ks k hk)
  have io : ∀ o ∈ e.Ops, BE (tO o).E ∧ GN (tO o).E := fun o ho => by
   have hn' : SizeOf.sizeOf o.E < n := by have := Zbv ho; omega
   unfold tO
   split
   ·exact ⟨hb.os o ho, hg.os o ho⟩
   split
   ·exact ⟨hb.os o ho, hg.os o ho⟩
   split
   ·exact Zly n o.E hn' (hb.os o ho) (hg.os o ho)
   exact ⟨hb.os o ho, hg.os o ho⟩
  rw [Zyz]
  refine ⟨.mk _ hb.new hb.old (by simp only [List.length_map]; exact hb.w) (fun w hw => ?_) (by simp only [List.length_map]; exact hb.k) (fun k hk => ?_) (by simp only [List.length_map]; exact hb.o) (fun o ho => ?_) (fun o ho => ?_),
   .mk _ (by simp only [List.length_map]; exact hg.w) (by simp only [List.length_map]; exact hg.k) (by simp only [List.length_map]; exact hg.o) ?_ (fun o ho => ?_) (fun k hk => ?_) (fun o ho => ?_)⟩
  ·obtain ⟨x, hx, rfl⟩ := List.mem_map.1 hw
   have := hb.ws x hx
   exact ⟨this.1, this.2.2, this.2.1⟩
  ·obtain ⟨x, hx, rfl⟩ := List.mem_map.1 hk
   exact (ik x hx).1
  ·obtain ⟨x, hx, rfl⟩ := List.mem_map.1 ho
   rw [Z0r]; exact hb.l x hx
  ·obtain ⟨x, hx, rfl⟩ := List.mem_map.1 ho
   exact (io x hx).1
  ·have : Jt (e.Ops.map tO) = Jt e.Ops := by
    unfold Jt
    rw [List.map_map]
    congr 1
    exact List.map_congr_left fun x _ => Zzh x
   rw [this]; exact hg.s
  ·obtain ⟨x, hx, rfl⟩ := List.mem_map.1 ho
   exact Zzf (hg.p x hx)
  ·obtain ⟨x, hx, rfl⟩ := List.mem_map.1 hk
   exact (ik x hx).2
  obtain ⟨x, hx, rfl⟩ := List.mem_map.1 ho
  exact (io x hx).2
theorem BE.tE {e : Ed} (hb : BE e) (hg : GN e) : BE (tE e) := (Zly _ e (Nat.lt_succ_self _) hb hg).1
theorem GN.tE {e : Ed} (hb : BE e) (hg : GN e) : GN (tE e) := (Zly _ e (Nat.lt_succ_self _) hb hg).2
theorem Zry (F : List EO) (a b : Int) : Gf (Gf F a) b = Gf F (a + b) := by
 by_cases hk : ∃ o, F.getLast? = some o ∧ o.Kind = 0
 ·obtain ⟨o, ho, hk0⟩ := hk
  obtain ⟨o', ho'⟩ := List.getLast?_eq_some_iff.1 ho
  obtain ⟨k, N, L, E⟩ := o
  simp only at hk0
  subst hk0 ho'
  rw [U1, U1, U1, Int.add_assoc]
 have hn : ∀ o, F.getLast? = some o → o.Kind ≠ 0 := fun o ho h0 => hk ⟨o, ho, h0⟩
 rw [Zb8 hn, U1, Zb8 hn]
theorem Zuo (l : Int) (e : Ed) : Zmn l (nE (tE e)) = Zmn l (nE e) := by
 rw [Zk9, Zk9, Zyz]
 simp only
 by_cases h1 : e.Kind = 1
 ·rw [if_pos h1, if_pos h1]; simp [Zmn]
 rw [if_neg h1, if_neg h1]
 by_cases h2 : e.Kind = 2
 ·rw [if_pos h2, if_pos h2]; simp [Zmn]
 rw [if_neg h2, if_neg h2]
 by_cases h3 : e.Kind = 3
 ·rw [if_pos h3, if_pos h3]; simp [Zmn]
 rw [if_neg h3, if_neg h3]
def Zhu (l : List EO) : List EO := l.map tO
theorem Zfq (a b : List EO) : Zhu (a ++ b) = Zhu a ++ Zhu b := by simp [Zhu]
structure TR (l : Int) (s s' : NW) : Prop where
 out : (Ky (Zhu s.out)).foldl (stN l) s0N = ⟨s'.out, [], []⟩
 gone : s'.gone = s.come
 come : s'.come = s.gone
theorem TR.flush {l : Int} {s s' : NW} (h : TR l s s') (hn : NInv l s) : (Ky (Zhu s.flush)).foldl (stN l) s0N = s' := by
 unfold NW.flush
 rw [Zfq, Vx, List.foldl_append, h.out, Zfq, Vx, List.foldl_append]
 have e1 : (Ky (Zhu (Zha s.gone))).foldl (stN l) ⟨s'.out, [], []⟩ = ⟨s'.out, [], s.gone⟩ := by
  by_cases hg : s.gone = []
  ·rw [hg]; rfl
  rw [Zg3 hg]; simp [Zhu, tO, Ky, stN, hn.gone]
 have e2 : (Ky (Zhu (Zfm s.come))).foldl (stN l) ⟨s'.out, [], s.gone⟩ = ⟨s'.out, s.come, s.gone⟩ := by
  by_cases hg : s.come = []
  ·rw [hg]; rfl
  rw [Zg5 hg]; simp [Zhu, tO, Ky, stN, hn.come]
 rw [e1, e2, ← h.gone, ← h.come]
theorem Zu5 (N : Int) (L : List Tr) (E : Ed) : tO ⟨0, N, L, E⟩ = ⟨0, N, L, E⟩ := Zxl (by simp) (by simp) (by simp)
theorem TR.keep {l : Int} {s s' : NW} (h : TR l s s') (hn : NInv l s) (n : Int) : TR l ⟨Gf s.flush n, [], []⟩ ⟨Gf s'.flush n, [], []⟩ := by
 refine ⟨?_, rfl, rfl⟩
 have hfl := h.flush hn
 by_cases hk : ∃ o, s.flush.getLast? = some o ∧ o.Kind = 0
 ·obtain ⟨o, ho, hk0⟩ := hk
  rcases Zmd ho with h12 | ⟨g1, g2, g3⟩
  ·omega
  have hf : s.flush = s.out := by unfold NW.flush; rw [g1, g2]; simp [Zha, Zfm]
  obtain ⟨o', ho'⟩ := List.getLast?_eq_some_iff.1 g3
  obtain ⟨a1, a2, a3, _⟩ := hn.last o' o ho' hk0
  obtain ⟨k, N, L, E⟩ := o
  simp only at hk0 a1 a2
  subst hk0 a1 a2
  rw [hf, ho'] at hfl ⊢
  rw [U1]
  simp only
  rw [Zfq, Vx, List.foldl_append] at hfl ⊢
  generalize (Ky (Zhu o')).foldl (stN l) s0N = r at *
  have e : ∀ M : Int, (Ky (Zhu [(⟨0, M, [], eS0⟩ : EO)])).foldl (stN l) r = ⟨Gf r.flush M, [], []⟩ := fun M => by
   unfold Zhu
   rw [List.map_cons, List.map_nil, Zu5]
   exact Zje (l := l)
  rw [e] at hfl ⊢
  rw [← hfl, Zak, Zry]
 have hk' : ∀ o, s.flush.getLast? = some o → o.Kind ≠ 0 := fun o ho h0 => hk ⟨o, ho, h0⟩
 rw [Zb8 hk']
 simp only
 rw [Zfq, Vx, List.foldl_append, hfl]
 unfold Zhu
 rw [List.map_cons, List.map_nil, Zu5]
 exact Zje (l := l)
theorem TR.step {l : Int} {s s' : NW} (h : TR l s s') (hn : NInv l s) {o : EO} (ho : opk o) (hE : o.Kind = 3 → nE (tE (nE o.E)) = nE (tE o.E)) : TR l (stN l s (o, nE o.E)) (stN l s' (tO o, nE (tO o).E)) := by
 rcases ho with ⟨k, _⟩ | ⟨k, _⟩ | ⟨k, _⟩ | k
 ·rw [Zxl (by omega) (by omega) (by omega)]
  have := h.keep hn o.N
  unfold stN
  simp only [k, show ¬ (0 : Int) = 1 from by decide, show ¬ (0 : Int) = 2 from by decide, if_false, if_true]
  exact this
 ·rw [Zyk k]
  unfold stN
  simp only [k, show ¬ (2 : Int) = 1 from by decide, if_false, if_true]
  exact ⟨h.out, h.gone, by rw [h.come]⟩
 ·rw [Zyl k]
  unfold stN
  simp only [k, show ¬ (2 : Int) = 1 from by decide, if_false, if_true]
  exact ⟨h.out, by rw [h.gone], h.come⟩
 rw [Zxm k]
 have hi := Zuo l o.E
 have hfl := h.flush hn
 have hk := h.keep hn 1
 unfold stN
 simp only [k, show ¬ (3 : Int) = 1 from by decide, show ¬ (3 : Int) = 2 from by decide, show ¬ (3 : Int) = 0 from by decide, if_false, hi]
 cases hid : Zmn l (nE o.E) with
 | true => simp only [if_true]; exact hk
 | false =>
  simp only [Bool.false_eq_true, if_false]
  refine ⟨?_, rfl, rfl⟩
  simp only
  rw [Zfq, Vx, List.foldl_append, hfl]
  unfold Zhu
  rw [List.map_cons, List.map_nil, Zxm rfl]
  show stN l s' (⟨3, 0, [], tE (nE o.E)⟩, nE (tE (nE o.E))) = _
  have hi2 := Zuo l (nE o.E)
  rw [Zzu, hid] at hi2
  unfold stN
  simp only [show ¬ (3 : Int) = 1 from by decide, show ¬ (3 : Int) = 2 from by decide, show ¬ (3 : Int) = 0 from by decide, if_false, hi2, Bool.false_eq_true]
  rw [hE k]
end Go.Proofs.Ytmpkfolcikhofaa
