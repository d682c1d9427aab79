/- Plain facts on this seat's mirrors (part VP1); each theorem bears its own conditions. -/
import Derived.Test.YtpfbdlcnfekdkaaVD
import Derived.Test.YtpfbdlcnfekdkaaVE
import Derived.IntWalk
namespace Go.Proofs.Ytpfbdlcnfekdkaa
open Go.RowKit
set_option linter.unusedVariables false
set_option linter.unusedSimpArgs false
theorem ieqF {a b : Int} (h : ¬ a = b) : (a == b) = false := by simp [h]
/-- a pointer, as a word has it -/
def offN (w : Nat) : Int := if w / 4 % 1073741824 < 536870912 then ((w / 4 % 1073741824 : Nat) : Int) else ((w / 4 % 1073741824 : Nat) : Int) - 1073741824
def decP (w : Nat) : S_ptr_Ptr :=
  if w = 0 then ⟨0, 0, 0, 0, 0, 0, 0, false⟩
  else if w % 4 = 0 then ⟨1, offN w, (w / 4294967296 % 65536 : Nat), (w / 281474976710656 % 65536 : Nat), 0, 0, 0, false⟩
  else if w % 4 = 1 then ⟨2, offN w, 0, 0, (w / 4294967296 % 8 : Nat), (w / 34359738368 % 536870912 : Nat), 0, false⟩
  else if w % 4 = 2 then ⟨3, (w / 8 % 536870912 : Nat), 0, 0, 0, 0, (w / 4294967296 % 4294967296 : Nat), decide (w / 4 % 2 = 1)⟩
  else ⟨4, 0, 0, 0, 0, 0, 0, false⟩
theorem natpow (b : Nat) : ((2 : Int) ^ b) = ((2 ^ b : Nat) : Int) := by simp
theorem field_p (w f b : Nat) (hw : w < 18446744073709551616) (hf : f < 64) (hb : b ≤ 40) : m_ptr_field w f b = some ((w / 2 ^ f % 2 ^ b : Nat) : Int) := by
  unfold m_ptr_field guardI
  rw [if_pos (Int.natCast_nonneg _), if_pos (Int.natCast_nonneg _)]
  simp only [Option.bind_some, Option.some.injEq]
  have hp : (2 : Nat) ^ b ≤ 1099511627776 := by have := Nat.pow_le_pow_right (n := 2) (by decide) hb; simpa using this
  have h1 : 0 < (2 : Nat) ^ b := Nat.pow_pos (by decide)
  have e1 : (min ((f : Int).toNat) 64) = f := by omega
  have e2 : (min ((b : Int).toNat) 64) = b := by omega
  have hd : w / 2 ^ f < 18446744073709551616 := Nat.lt_of_le_of_lt (Nat.div_le_self _ _) hw
  have e3 : ((w : Int).fdiv ((2 ^ f : Nat) : Int)) = ((w / 2 ^ f : Nat) : Int) := by
    rw [Int.fdiv_eq_ediv_of_nonneg _ (Int.natCast_nonneg _), Int.natCast_ediv]
  rw [e1, e2, natpow, natpow, e3]
  clear e3
  generalize hq : 2 ^ b = q at *
  generalize w / 2 ^ f = x at *
  rw [Int.one_mul, IntWalk.u64_in (q : Int) (by omega), IntWalk.u64_in ((q : Int) - 1) (by omega)]
  have e4 : ((q : Int) - 1) = ((q - 1 : Nat) : Int) := by omega
  rw [e4, land64 _ _ hd (by omega), ← hq, Nat.and_two_pow_sub_one_eq_mod, hq]
  have : x % q < q := Nat.mod_lt _ h1
  rw [IntWalk.u64_in _ (by omega), IntWalk.i64_in _ (by omega)]
theorem off_eq (w : Nat) (hw : w < 18446744073709551616) : IntKind.i64.wrap ((IntKind.i32.wrap (IntKind.u32.wrap (w : Int))).fdiv (2 ^ min (Int.toNat 2) 32)) = offN w := by
  have e : (2 : Int) ^ min (Int.toNat 2) 32 = 4 := by decide
  rw [e, Int.fdiv_eq_ediv_of_nonneg _ (by decide), IntKind.wrap_u32, IntKind.wrap_i32]
  unfold offN
  rw [IntWalk.i64_in _ (by omega)]
  split <;> omega
theorem offset_p (w : Nat) (hw : w < 18446744073709551616) : m_ptr_offset w = some (offN w) := congrArg some (off_eq w hw)
theorem and3 (w : Nat) (hw : w < 18446744073709551616) : IntKind.u64.wrap (landI .u64 w 3) = ((w % 4 : Nat) : Int) := by
  have := land64 w 3 hw (by decide)
  rw [show ((3 : Nat) : Int) = 3 from rfl] at this
  rw [this, show (3 : Nat) = 2 ^ 2 - 1 from rfl, Nat.and_two_pow_sub_one_eq_mod, IntWalk.u64_in _ (by omega)]
theorem bit2 (w : Nat) (hw : w < 18446744073709551616) : (IntKind.u64.wrap (landI .u64 ((w : Int).fdiv (2 ^ min (Int.toNat 2) 64)) 1) == 1) = decide (w / 4 % 2 = 1) := by
  have e1 : (2 : Int) ^ min (Int.toNat 2) 64 = 4 := by decide
  have e2 : ((w : Int).fdiv 4) = ((w / 4 : Nat) : Int) := by rw [Int.fdiv_eq_ediv_of_nonneg _ (by decide)]; rfl
  have e3 := land64 (w / 4) 1 (by omega) (by decide)
  rw [show ((1 : Nat) : Int) = 1 from rfl, Nat.and_one_is_mod] at e3
  rw [e1, e2, e3, IntWalk.u64_in _ (by omega)]
  by_cases h : w / 4 % 2 = 1
  · rw [h]; decide
  · have : w / 4 % 2 = 0 := by omega
    rw [this]; decide
theorem beqN (a : Nat) (b : Nat) : ((a : Int) == (b : Int)) = decide (a = b) := by
  by_cases h : a = b
  · subst h; simp
  · simp [h, Int.natCast_inj]
theorem decode_p (w : Nat) (hw : w < 18446744073709551616) : m_ptr_Decode w = some (decP w) := by
  unfold m_ptr_Decode
  have f1 : m_ptr_field w 32 16 = _ := field_p w 32 16 hw (by decide) (by decide)
  have f2 : m_ptr_field w 48 16 = _ := field_p w 48 16 hw (by decide) (by decide)
  have f3 : m_ptr_field w 32 3 = _ := field_p w 32 3 hw (by decide) (by decide)
  have f4 : m_ptr_field w 35 29 = _ := field_p w 35 29 hw (by decide) (by decide)
  have f5 : m_ptr_field w 3 29 = _ := field_p w 3 29 hw (by decide) (by decide)
  have f6 : m_ptr_field w 32 32 = _ := field_p w 32 32 hw (by decide) (by decide)
  have c0 : ((w : Int) == 0) = _ := beqN w 0
  have c1 : (((w % 4 : Nat) : Int) == 0) = _ := beqN (w % 4) 0
  have c2 : (((w % 4 : Nat) : Int) == 1) = _ := beqN (w % 4) 1
  have c3 : (((w % 4 : Nat) : Int) == 2) = _ := beqN (w % 4) 2
  rw [and3 w hw, offset_p w hw, f1, f2, f3, f4, f5, f6, bit2 w hw, c0, c1, c2, c3]
  simp only [Option.bind_some]
  unfold decP
  by_cases h0 : w = 0
  · simp [h0]
  by_cases h1 : w % 4 = 0
  · simp [h0, h1]
  by_cases h2 : w % 4 = 1
  · simp [h0, h2]
  by_cases h3 : w % 4 = 2
  · simp [h0, h3]
  · simp [h0, h1, h2, h3]
theorem or_add (k a b : Nat) (h : a < 2 ^ k) : a ||| (b * 2 ^ k) = a + b * 2 ^ k := by
  rw [Nat.or_comm, Nat.mul_comm, ← Nat.two_pow_add_eq_or_of_lt h, Nat.add_comm]
/-- the word that 'lay' lays -/
def layI (p : S_ptr_Ptr) : Int :=
  if p.Kind = 1 then IntKind.u64.wrap (lorI .u64 (IntKind.u64.wrap (lorI .u64 (IntKind.u64.wrap (IntKind.u32.wrap (IntKind.u32.wrap p.Off * 2 ^ min (Int.toNat 2) 32))) (IntKind.u64.wrap (IntKind.u64.wrap p.Data * 2 ^ min (Int.toNat 32) 64)))) (IntKind.u64.wrap (IntKind.u64.wrap p.Ptrs * 2 ^ min (Int.toNat 48) 64)))
  else if p.Kind = 2 then IntKind.u64.wrap (lorI .u64 (IntKind.u64.wrap (lorI .u64 (IntKind.u64.wrap (lorI .u64 1 (IntKind.u64.wrap (IntKind.u32.wrap (IntKind.u32.wrap p.Off * 2 ^ min (Int.toNat 2) 32))))) (IntKind.u64.wrap (IntKind.u64.wrap p.Code * 2 ^ min (Int.toNat 32) 64)))) (IntKind.u64.wrap (IntKind.u64.wrap p.Count * 2 ^ min (Int.toNat 35) 64)))
  else if p.Kind = 3 then
    if p.Double = true then IntKind.u64.wrap (lorI .u64 (IntKind.u64.wrap (lorI .u64 (IntKind.u64.wrap (lorI .u64 2 (IntKind.u64.wrap (IntKind.u64.wrap p.Off * 2 ^ min (Int.toNat 3) 64)))) (IntKind.u64.wrap (IntKind.u64.wrap p.Segment * 2 ^ min (Int.toNat 32) 64)))) 4)
    else IntKind.u64.wrap (lorI .u64 (IntKind.u64.wrap (lorI .u64 2 (IntKind.u64.wrap (IntKind.u64.wrap p.Off * 2 ^ min (Int.toNat 3) 64)))) (IntKind.u64.wrap (IntKind.u64.wrap p.Segment * 2 ^ min (Int.toNat 32) 64)))
  else 0
theorem lay_p (p : S_ptr_Ptr) : m_ptr_lay p = some (layI p) := by
  unfold m_ptr_lay layI
  by_cases h1 : p.Kind = 1
  · simp [h1]
  by_cases h2 : p.Kind = 2
  · simp [h2]
  by_cases h3 : p.Kind = 3
  · by_cases hd : p.Double = true <;> simp [h3, hd]
  · simp [h1, h2, h3, ieqF h1, ieqF h2, ieqF h3]
theorem wrap_lt (x : Int) : ∃ w : Nat, IntKind.u64.wrap x = (w : Int) ∧ w < 18446744073709551616 := by
  refine ⟨(x % 18446744073709551616).toNat, ?_, by omega⟩
  simp [IntKind.wrap, IntKind.bits, IntKind.signed]
  omega
theorem layI_nat (p : S_ptr_Ptr) : ∃ w : Nat, layI p = (w : Int) ∧ w < 18446744073709551616 := by
  unfold layI
  split
  · exact wrap_lt _
  split
  · exact wrap_lt _
  split
  · split <;> exact wrap_lt _
  · exact ⟨0, rfl, by decide⟩
theorem u64c (x : Nat) (h : x < 18446744073709551616) : IntKind.u64.wrap (x : Int) = (x : Int) := IntWalk.u64_in _ (by omega)
theorem u32off (w : Nat) : IntKind.u64.wrap (IntKind.u32.wrap (IntKind.u32.wrap (offN w) * 2 ^ min (Int.toNat 2) 32)) = ((w / 4 % 1073741824 * 2 ^ 2 : Nat) : Int) := by
  have e : (2 : Int) ^ min (Int.toNat 2) 32 = 4 := by decide
  rw [e, IntKind.wrap_u32, IntKind.wrap_u32]
  unfold offN
  rw [IntWalk.u64_in _ (by omega)]
  split <;> omega
theorem lor64w (x y : Nat) (hx : x < 18446744073709551616) (hy : y < 18446744073709551616) : IntKind.u64.wrap (lorI .u64 x y) = ((x ||| y : Nat) : Int) := by
  rw [lor64 x y hx hy, u64c _ (by have := Nat.or_lt_two_pow (n := 64) (show x < 2 ^ 64 by omega) (show y < 2 ^ 64 by omega); omega)]
theorem shl64 (x k : Nat) (hx : x < 18446744073709551616) (hk : k ≤ 64) (h : x * 2 ^ k < 18446744073709551616) : IntKind.u64.wrap (IntKind.u64.wrap (x : Int) * 2 ^ min (Int.toNat (k : Int)) 64) = ((x * 2 ^ k : Nat) : Int) := by
  have e : min (Int.toNat (k : Int)) 64 = k := by omega
  have e2 : ((x : Int) * (2 : Int) ^ k) = ((x * 2 ^ k : Nat) : Int) := by simp
  rw [u64c x hx, e, e2, u64c _ h]
theorem lay_dec (w : Nat) (hw : w < 18446744073709551616) (h3 : ¬ (decP w).Kind = 4) : layI (decP w) = (w : Int) := by
  by_cases h0 : w = 0
  · subst h0; rfl
  by_cases h1 : w % 4 = 0
  · have e : decP w = ⟨1, offN w, (w / 4294967296 % 65536 : Nat), (w / 281474976710656 % 65536 : Nat), 0, 0, 0, false⟩ := by simp [decP, h0, h1]
    rw [e]
    unfold layI
    rw [if_pos rfl]
    simp only
    have s1 := shl64 (w / 4294967296 % 65536) 32 (by omega) (by decide) (by omega)
    have s2 := shl64 (w / 281474976710656 % 65536) 48 (by omega) (by decide) (by omega)
    rw [show ((32 : Nat) : Int) = 32 from rfl] at s1
    rw [show ((48 : Nat) : Int) = 48 from rfl] at s2
    rw [u32off, s1, s2, lor64w _ _ (by omega) (by omega), or_add 32 _ _ (by omega), lor64w _ _ (by omega) (by omega), or_add 48 _ _ (by omega)]
    omega
  by_cases h2 : w % 4 = 1
  · have e : decP w = ⟨2, offN w, 0, 0, (w / 4294967296 % 8 : Nat), (w / 34359738368 % 536870912 : Nat), 0, false⟩ := by simp [decP, h0, h1, h2]
    rw [e]
    unfold layI
    rw [if_neg (by simp), if_pos rfl]
    simp only
    have s1 := shl64 (w / 4294967296 % 8) 32 (by omega) (by decide) (by omega)
    have s2 := shl64 (w / 34359738368 % 536870912) 35 (by omega) (by decide) (by omega)
    rw [show ((32 : Nat) : Int) = 32 from rfl] at s1
    rw [show ((35 : Nat) : Int) = 35 from rfl] at s2
    have l1 := lor64w 1 (w / 4 % 1073741824 * 2 ^ 2) (by decide) (by omega)
    rw [show ((1 : Nat) : Int) = 1 from rfl, or_add 2 1 _ (by decide)] at l1
    rw [u32off, s1, s2, l1, lor64w _ _ (by omega) (by omega), or_add 32 _ _ (by omega), lor64w _ _ (by omega) (by omega), or_add 35 _ _ (by omega)]
    omega
  by_cases h4 : w % 4 = 2
  · have e : decP w = ⟨3, (w / 8 % 536870912 : Nat), 0, 0, 0, 0, (w / 4294967296 % 4294967296 : Nat), decide (w / 4 % 2 = 1)⟩ := by simp [decP, h0, h1, h2, h4]
    rw [e]
    unfold layI
    rw [if_neg (by simp), if_neg (by simp), if_pos rfl]
    simp only
    have s1 := shl64 (w / 8 % 536870912) 3 (by omega) (by decide) (by omega)
    have s2 := shl64 (w / 4294967296 % 4294967296) 32 (by omega) (by decide) (by omega)
    rw [show ((3 : Nat) : Int) = 3 from rfl] at s1
    rw [show ((32 : Nat) : Int) = 32 from rfl] at s2
    have l1 := lor64w 2 (w / 8 % 536870912 * 2 ^ 3) (by decide) (by omega)
    rw [show ((2 : Nat) : Int) = 2 from rfl, or_add 3 2 _ (by decide)] at l1
    rw [s1, s2, l1, lor64w _ _ (by omega) (by omega), or_add 32 _ _ (by omega)]
    by_cases hb : w / 4 % 2 = 1
    · rw [if_pos (by simpa using hb)]
      have l2 := lor64w (2 + w / 8 % 536870912 * 2 ^ 3 + w / 4294967296 % 4294967296 * 2 ^ 32) 4 (by omega) (by decide)
      rw [show ((4 : Nat) : Int) = 4 from rfl] at l2
      rw [l2]
      have : (2 + w / 8 % 536870912 * 2 ^ 3 + w / 4294967296 % 4294967296 * 2 ^ 32) ||| 4 = 2 + w / 8 % 536870912 * 2 ^ 3 + w / 4294967296 % 4294967296 * 2 ^ 32 + 4 := by
        have e1 : 2 + w / 8 % 536870912 * 2 ^ 3 + w / 4294967296 % 4294967296 * 2 ^ 32 = 2 ^ 3 * (w / 8 % 536870912 + w / 4294967296 % 4294967296 * 2 ^ 29) + 2 := by omega
        rw [e1]
        generalize w / 8 % 536870912 + w / 4294967296 % 4294967296 * 2 ^ 29 = q
        conv => lhs; rw [Nat.two_pow_add_eq_or_of_lt (by decide), Nat.or_assoc, show (2 ||| 4 : Nat) = 6 from rfl, ← Nat.two_pow_add_eq_or_of_lt (by decide)]
      rw [this]
      omega
    · rw [if_neg (by simpa using hb)]
      omega
  · exact absurd (by simp [decP, h0, h1, h2, h4]) h3


theorem ptr_beq (p q : S_ptr_Ptr) : ((p.Kind == q.Kind) && ((p.Off == q.Off) && ((p.Data == q.Data) && ((p.Ptrs == q.Ptrs) && ((p.Code == q.Code) && ((p.Count == q.Count) && ((p.Segment == q.Segment) && (p.Double == q.Double)))))))) = true ↔ p = q := by
  cases p; cases q
  simp [and_assoc]
open Classical in
/-- what 'Encode' tells -/
theorem encode_p (p : S_ptr_Ptr) : ∃ w : Nat, w < 18446744073709551616 ∧ layI p = (w : Int) ∧ m_ptr_Encode p = some ((w : Int), decide (p.Kind ≠ 4 ∧ decP w = p)) := by
  obtain ⟨w, hw, hlt⟩ := layI_nat p
  refine ⟨w, hlt, hw, ?_⟩
  unfold m_ptr_Encode
  rw [lay_p, hw]
  simp only [Option.bind_some, decode_p w hlt]
  by_cases h4 : p.Kind = 4
  · simp [h4]
  · have hk : (p.Kind != 4) = true := by simp [h4]
    rw [hk]
    simp only [cond_true, Option.bind_some, Option.some.injEq, Prod.mk.injEq, true_and]
    rw [Bool.eq_iff_iff, ptr_beq]
    simp [h4]
theorem encode_dec (w : Nat) (hw : w < 18446744073709551616) (h : ¬ (decP w).Kind = 4) : m_ptr_Encode (decP w) = some ((w : Int), true) := by
  obtain ⟨v, hv, h1, h2⟩ := encode_p (decP w)
  have : v = w := by have := lay_dec w hw h; omega
  subst this
  rw [h2]
  simp [h]
abbrev Tr := S_api_Tree
theorem i64s {x : Int} (h1 : -9223372036854775808 ≤ x) (h2 : x ≤ 9223372036854775807) : IntKind.i64.wrap x = x := i64w ⟨h1, h2⟩
/-- what an index counts up to -/
theorem kid_lt {t x : Tr} (h : x ∈ t.Kids) : SizeOf.sizeOf x < SizeOf.sizeOf t := by
  obtain ⟨k, w, ks⟩ := t
  have := List.sizeOf_lt_of_mem h
  simp only [S_api_Tree.mk.sizeOf_spec]
  simp only at this
  omega
/-- rounds over a list's kids with an index alone -/
theorem loop_any {α R : Type} (xs : List α) (step : Int → Option (Int ⊕ R)) (p : α → Bool) (e o : R) (hl : (xs.length : Int) ≤ 140737488355328)
    (h1 : ∀ (i : Nat) (x : α), i < xs.length → xs[i]? = some x → x ∈ xs → step i = some (if p x = true then .inr e else .inl (IntKind.i64.wrap ((i : Int) + 1)))) (h2 : step xs.length = some (.inr o)) : runLoop step 0 = some (if xs.any p = true then e else o) := by
  have hloop := loop_each xs (fun i (_ : Unit) => i) step (fun _ x => some (if p x = true then .inr e else .inl ())) (fun _ => o) (fun i s x hi hx => by
    rw [h1 i x hi hx (List.mem_of_getElem? hx), i64s (by omega) (by omega)]
    cases p x <;> rfl) (fun _ => h2) ()
  refine hloop.trans ?_
  rw [foldE_find p (fun s _ => s) e (fun _ _ => True) xs.length xs () 0 (by omega) trivial (fun s k x _ _ _ => ⟨by cases p x <;> rfl, fun _ => trivial⟩)]
theorem lt_t {i n : Nat} (h : i < n) : decide ((i : Int) < (n : Int)) = true := by rw [decide_eq_true_eq]; omega
theorem lt_f {n : Nat} : decide ((n : Int) < (n : Int)) = false := by rw [decide_eq_false_iff_not]; omega
/-- without such as are of a kind, at the end -/
def tr {α : Type} (p : α → Bool) : List α → List α
  | [] => []
  | x :: xs => match tr p xs with
    | [] => if p x = true then [] else [x]
    | y :: ys => x :: y :: ys
def trN {α : Type} (p : α → Bool) (l : List α) : Nat → Nat
  | 0 => 0
  | n + 1 => match l[n]? with
    | some x => if p x = true then trN p l n else n + 1
    | none => 0
theorem tr_append_t {α : Type} {p : α → Bool} {x : α} (h : p x = true) : ∀ l : List α, tr p (l ++ [x]) = tr p l
  | [] => by simp [tr, h]
  | y :: l => by simp only [List.cons_append, tr, tr_append_t h l]
theorem tr_append_f {α : Type} {p : α → Bool} {x : α} (h : p x = false) : ∀ l : List α, tr p (l ++ [x]) = l ++ [x]
  | [] => by simp [tr, h]
  | y :: l => by
    simp only [List.cons_append, tr, tr_append_f h l]
    cases hl : l ++ [x] with
    | nil => simp at hl
    | cons a b => rfl
theorem trN_tr {α : Type} {p : α → Bool} {l : List α} : ∀ n, n ≤ l.length → l.take (trN p l n) = tr p (l.take n) ∧ trN p l n ≤ n
  | 0, _ => by simp [trN, tr]
  | n + 1, h => by
    have hn : l[n]? = some l[n] := List.getElem?_eq_getElem (by omega)
    have e : l.take (n + 1) = l.take n ++ [l[n]] := by rw [List.take_add_one, hn]; rfl
    obtain ⟨h1, h2⟩ := trN_tr (p := p) (l := l) n (by omega)
    unfold trN
    rw [hn]
    simp only
    split
    · rename_i hp
      rw [e, tr_append_t hp]
      exact ⟨h1, by omega⟩
    · rename_i hp
      rw [e, tr_append_f (by simpa using hp), ← e]
      exact ⟨rfl, Nat.le_refl _⟩
theorem tr_len {α : Type} (p : α → Bool) : ∀ l : List α, (tr p l).length ≤ l.length
  | [] => by simp [tr]
  | x :: l => by
    have := tr_len p l
    simp only [tr]
    split
    · split <;> simp
    · rename_i y ys he
      rw [he] at this
      simp at this ⊢
      omega
theorem tr_mem {α : Type} {p : α → Bool} {x : α} : ∀ {l : List α}, x ∈ tr p l → x ∈ l
  | [], h => by simp [tr] at h
  | y :: l, h => by
    simp only [tr] at h
    split at h
    · split at h
      · simp at h
      · simp at h; simp [h]
    · rename_i z zs he
      rw [← he] at h
      rcases List.mem_cons.1 h with h | h
      · simp [h]
      · exact List.mem_cons_of_mem _ (tr_mem h)
theorem tr_tr {α : Type} {p : α → Bool} : ∀ l : List α, tr p (tr p l) = tr p l
  | [] => rfl
  | x :: l => by
    have ih := tr_tr (p := p) l
    simp only [tr]
    cases h : tr p l with
    | nil =>
      simp only
      cases hx : p x <;> simp [tr, hx]
    | cons y ys =>
      rw [h] at ih
      simp only [tr] at ih ⊢
      rw [ih]
theorem tr_map {α β : Type} {p : α → Bool} {q : β → Bool} {f : α → β} (h : ∀ x, q (f x) = p x) : ∀ l : List α, tr q (l.map f) = (tr p l).map f
  | [] => rfl
  | x :: l => by
    simp only [List.map_cons, tr, tr_map h l]
    cases tr p l with
    | nil => simp only [List.map_nil, h]; split <;> rfl
    | cons y ys => rfl
/-- the rounds that look for the end -/
theorem loop_tr {α : Type} (l : List α) (p : α → Bool) (step : Int → Option (Int ⊕ Int)) (hl : (l.length : Int) ≤ 140737488355328)
    (h0 : step 0 = some (.inr 0)) (h1 : ∀ (n : Nat) (x : α), l[n]? = some x → n < l.length → step ((n + 1 : Nat) : Int) = some (if p x = true then .inl (n : Int) else .inr ((n + 1 : Nat) : Int))) : runLoop step (l.length : Int) = some (trN p l l.length : Int) := by
  have key : ∀ n : Nat, n ≤ l.length → runLoop step (n : Int) = some (trN p l n : Int) := fun n => by
    induction n with
    | zero => intro _; exact runLoop_end h0
    | succ n ih =>
      intro hn
      have hx : l[n]? = some l[n] := List.getElem?_eq_getElem (by omega)
      have h := h1 n _ hx (by omega)
      unfold trN
      rw [hx]
      simp only
      split
      · rename_i hp
        rw [if_pos hp] at h
        rw [runLoop_step h]
        exact ih (by omega)
      · rename_i hp
        rw [if_neg hp] at h
        exact runLoop_end h
  exact key l.length (Nat.le_refl _)
theorem sub_take {α : Type} {l : List α} {n : Nat} (h : n ≤ l.length) : subI l 0 (n : Int) = some (l.take n) := by
  rw [subI_ok (by omega) (by omega) (by omega)]
  simp
theorem gt_t {n : Nat} : decide (0 < ((n + 1 : Nat) : Int)) = true := by rw [decide_eq_true_eq]; omega
theorem trimWords_ok {l : List Int} (hl : (l.length : Int) ≤ 140737488355328) : m_tree_trimWords l = some (tr (fun x => x == 0) l) := by
  have hloop := loop_tr l (fun x => x == 0) (m_tree_trimWords_L0 l) hl (by unfold m_tree_trimWords_L0; rfl) (fun n x hx hn => by
    unfold m_tree_trimWords_L0
    rw [gt_t, cond_true, i64s (by omega) (by omega)]
    have e : ((n + 1 : Nat) : Int) - 1 = (n : Int) := by omega
    rw [e, getI_of hx]
    simp only [Option.bind_some, cond_true]
    cases x == 0 <;> rfl)
  obtain ⟨h1, h2⟩ := trN_tr (p := fun x => x == 0) (l := l) l.length (Nat.le_refl _)
  unfold m_tree_trimWords
  rw [hloop, Option.bind_some, sub_take h2, Option.bind_some, h1, List.take_length]
theorem trimKids_ok {l : List Tr} (hl : (l.length : Int) ≤ 140737488355328) : m_tree_trimKids l = some (tr (fun x => x.Kind == 0) l) := by
  have hloop := loop_tr l (fun x => x.Kind == 0) (m_tree_trimKids_L0 l) hl (by unfold m_tree_trimKids_L0; rfl) (fun n x hx hn => by
    unfold m_tree_trimKids_L0
    rw [gt_t, cond_true, i64s (by omega) (by omega)]
    have e : ((n + 1 : Nat) : Int) - 1 = (n : Int) := by omega
    rw [e, getI_of hx]
    simp only [Option.bind_some, cond_true]
    cases x.Kind == 0 <;> rfl)
  obtain ⟨h1, h2⟩ := trN_tr (p := fun x => x.Kind == 0) (l := l) l.length (Nat.le_refl _)
  unfold m_tree_trimKids
  rw [hloop, Option.bind_some, sub_take h2, Option.bind_some, h1, List.take_length]
theorem rTrim_ok {l : List Int} (hl : l.length * 8 ≤ 140737488355328) : m_centoref07_Trim l = some (tr (fun x => x == 0) l) := by
  have hloop := loop_tr l (fun x => x == 0) (m_centoref07_Trim_L0 l) (by omega) (by unfold m_centoref07_Trim_L0; rfl) (fun n x hx hn => by
    unfold m_centoref07_Trim_L0
    rw [gt_t, cond_true, i64s (by omega) (by omega)]
    have e : ((n + 1 : Nat) : Int) - 1 = (n : Int) := by omega
    rw [e, getI_of hx]
    simp only [Option.bind_some, cond_true]
    cases x == 0 <;> rfl)
  obtain ⟨h1, h2⟩ := trN_tr (p := fun x => x == 0) (l := l) l.length (Nat.le_refl _)
  have h3 := tr_len (fun x => x == 0) l
  unfold m_centoref07_Trim
  rw [hloop, Option.bind_some, sub_take h2, Option.bind_some, h1, List.take_length, appI_ok (by rw [List.length_nil]; omega) (by rw [List.length_nil]; omega)]
  rfl
/-- lengths and words as memory has them, all the way down -/
inductive Bd : Tr → Prop
  | mk (t : Tr) (h1 : t.Words.length * 8 ≤ 140737488355328) (h2 : t.Kids.length * 56 ≤ 140737488355328) (h3 : ∀ w ∈ t.Words, 0 ≤ w ∧ w < 18446744073709551616) (h4 : ∀ k ∈ t.Kids, Bd k) : Bd t
theorem Bd.w {t : Tr} (h : Bd t) : t.Words.length * 8 ≤ 140737488355328 := by cases h; assumption
theorem Bd.k {t : Tr} (h : Bd t) : t.Kids.length * 56 ≤ 140737488355328 := by cases h; assumption
theorem Bd.u {t : Tr} (h : Bd t) : ∀ w ∈ t.Words, 0 ≤ w ∧ w < 18446744073709551616 := by cases h; assumption
theorem Bd.all {t : Tr} (h : Bd t) : ∀ k ∈ t.Kids, Bd k := by cases h; assumption
/-- what means the same, without what is in vain -/
def nrm (t : Tr) : Tr :=
  if t.Kind = 0 then ⟨0, [], []⟩
  else if t.Kind = 1 then ⟨1, tr (fun x => x == 0) t.Words, tr (fun x => x.Kind == 0) (t.Kids.attach.map fun k => nrm k.1)⟩
  else ⟨t.Kind, t.Words, t.Kids.attach.map fun k => nrm k.1⟩
termination_by SizeOf.sizeOf t
decreasing_by all_goals exact kid_lt k.2
theorem nrm_eq (t : Tr) : nrm t = if t.Kind = 0 then ⟨0, [], []⟩ else if t.Kind = 1 then ⟨1, tr (fun x => x == 0) t.Words, tr (fun x => x.Kind == 0) (t.Kids.map nrm)⟩ else ⟨t.Kind, t.Words, t.Kids.map nrm⟩ := by
  rw [nrm]
  simp only [List.attach_map_val]
theorem nrm_kind (t : Tr) : (nrm t).Kind = t.Kind := by
  rw [nrm_eq]
  split
  · rename_i h; exact h.symm
  · split
    · rename_i h; exact h.symm
    · rfl

theorem set_next {α β : Type} {xs : List α} {f : α → β} {z : β} {i m : Nat} {x : α} (hi : i + (m + 1) = xs.length) (hx : xs[i]? = some x) :
    ((xs.take i).map f ++ List.replicate (m + 1) z).set i (f x) = (xs.take (i + 1)).map f ++ List.replicate m z := by
  have hl : ((xs.take i).map f).length = i := by rw [List.length_map, List.length_take]; omega
  rw [List.set_append, if_neg (by omega), hl, Nat.sub_self, List.replicate_succ, List.set_cons_zero, List.take_add_one, hx]
  simp
/-- rounds that fill a row -/
theorem loop_set {α β : Type} (xs : List α) (f : α → β) (z : β) (step : Int × List β → Option ((Int × List β) ⊕ List β)) (hl : (xs.length : Int) ≤ 140737488355328)
    (h1 : ∀ (i : Nat) (x : α) (out : List β) (y : β), i < xs.length → xs[i]? = some x → x ∈ xs → out[i]? = some y → step ((i : Int), out) = some (.inl (IntKind.i64.wrap ((i : Int) + 1), setI out (i : Int) (f x))))
    (h2 : ∀ out, step ((xs.length : Int), out) = some (.inr out)) : runLoop step (0, List.replicate xs.length z) = some (xs.map f) := by
  have key : ∀ m i, i + m = xs.length → runLoop step ((i : Int), (xs.take i).map f ++ List.replicate m z) = some (xs.map f) := fun m => by
    induction m with
    | zero =>
      intro i hi
      have hi' : i = xs.length := by omega
      subst hi'
      rw [List.take_length, List.replicate_zero, List.append_nil]
      exact runLoop_end (h2 _)
    | succ m ih =>
      intro i hi
      have hx : xs[i]? = some xs[i] := List.getElem?_eq_getElem (by omega)
      have hl' : ((xs.take i).map f).length = i := by rw [List.length_map, List.length_take]; omega
      have hy : ((xs.take i).map f ++ List.replicate (m + 1) z)[i]? = some z := by
        rw [List.getElem?_append_right (by omega), hl', Nat.sub_self, List.replicate_succ]; rfl
      have h := h1 i _ _ z (by omega) hx (List.mem_of_getElem? hx) hy
      rw [i64s (by omega) (by omega)] at h
      rw [runLoop_step h]
      unfold setI
      rw [Int.toNat_natCast, set_next (by omega) hx]
      exact ih (i + 1) (by omega)
  have := key xs.length 0 (by omega)
  simpa using this
theorem norm_lv : ∀ (k : Nat) (t : Tr), Bd t → SizeOf.sizeOf t < k → lv_tree_Norm k t = some (nrm t)
  | 0, t, _, h => by omega
  | k + 1, t, hb, hk => by
    have ih : ∀ x ∈ t.Kids, lv_tree_Norm k x = some (nrm x) := fun x hx => norm_lv k x (hb.all x hx) (by have := kid_lt hx; omega)
    have hw := hb.w
    have hkd := hb.k
    show b_tree_Norm (lv_tree_Norm k) t = _
    unfold b_tree_Norm
    rw [nrm_eq]
    by_cases h0 : t.Kind = 0
    · rw [if_pos h0, h0]; rfl
    have e0 : (t.Kind == 0) = false := by rw [beq_eq_false_iff_ne]; exact h0
    rw [if_neg h0, e0, cond_false]
    have main : ∀ (w : List Int) (ks : List Tr), (ks.length : Int) ≤ 140737488355328 → (56 : Int) * ks.length ≤ 140737488355328 → (∀ x ∈ ks, lv_tree_Norm k x = some (nrm x)) →
        ((cond (decide (0 < ((w, ks).2.length : Int))) ((makeI 56 ((w, ks).2.length : Int) (⟨(0 : Int), ([] : (List Int)), ([] : (List S_api_Tree))⟩ : S_api_Tree)).bind fun l6 => some l6) (some ([] : List S_api_Tree))).bind fun (z5 : (List S_api_Tree)) => (runLoop (b_tree_Norm_L0 (lv_tree_Norm k) (w, ks)) (0, z5)).bind fun (z14 : (List S_api_Tree)) => some (⟨t.Kind, (w, ks).1, z14⟩ : S_api_Tree)) = some ⟨t.Kind, w, ks.map nrm⟩ := fun w ks h1 h2 hks => by
      have hz : (cond (decide (0 < ((w, ks).2.length : Int))) ((makeI 56 ((w, ks).2.length : Int) (⟨(0 : Int), ([] : (List Int)), ([] : (List S_api_Tree))⟩ : S_api_Tree)).bind fun l6 => some l6) (some ([] : List S_api_Tree))) = some (List.replicate ks.length (⟨0, [], []⟩ : Tr)) := by
        cases ks with
        | nil => rfl
        | cons y ys =>
          have : decide (0 < (((w, y :: ys).2.length : Nat) : Int)) = true := by rw [decide_eq_true_eq]; simp
          rw [this, cond_true, makeI_ok (Int.natCast_nonneg _) h2 h1, Option.bind_some, Int.toNat_natCast]
      rw [hz, Option.bind_some]
      rw [loop_set ks nrm _ (b_tree_Norm_L0 (lv_tree_Norm k) (w, ks)) h1 (fun i x out z hi hx hm hz => by
          unfold b_tree_Norm_L0
          simp only
          rw [lt_t hi, cond_true, getI_of hx, Option.bind_some, hks x hm, Option.bind_some, getI_of hz, Option.bind_some]) (fun out => by
          unfold b_tree_Norm_L0
          simp only
          rw [lt_f, cond_false]), Option.bind_some]
    by_cases h1 : t.Kind = 1
    · have e1 : (t.Kind == 1) = true := by rw [beq_iff_eq]; exact h1
      have l1 := tr_len (fun x : Tr => x.Kind == 0) t.Kids
      rw [if_pos h1, e1, cond_true, trimWords_ok (by omega), Option.bind_some, trimKids_ok (by omega), Option.bind_some, Option.bind_some]
      rw [main _ _ (by omega) (by omega) (fun x hx => ih x (tr_mem hx)), tr_map (fun x => by rw [nrm_kind]), h1]
    · have e1 : (t.Kind == 1) = false := by rw [beq_eq_false_iff_ne]; exact h1
      rw [if_neg h1, e1, cond_false, Option.bind_some]
      exact main _ _ (by omega) (by omega) ih
theorem norm_ok {t : Tr} (h : Bd t) : m_tree_Norm t = some (nrm t) := lim_eq (SizeOf.sizeOf t + 1) fun k hk => norm_lv k t h (by omega)
/-- the kids' norms, and where the last one stands that is something -/
theorem tr_cons_nil {α : Type} {p : α → Bool} {x : α} {l : List α} (h : tr p l = []) : tr p (x :: l) = if p x = true then [] else [x] := by simp only [tr, h]
theorem tr_cons_ne {α : Type} {p : α → Bool} {x : α} {l : List α} (h : tr p l ≠ []) : tr p (x :: l) = x :: tr p l := by
  simp only [tr]
  split
  · rename_i h'; exact absurd h' h
  · rename_i h'; rw [h']
theorem last_tr : ∀ (l : List Tr) (n : Nat) (acc : Int), (l.zipIdx n).foldl (fun a p => if p.1.Kind = 0 then a else ((p.2 + 1 : Nat) : Int)) acc = if (tr (fun x => x.Kind == 0) l).length = 0 then acc else ((n + (tr (fun x => x.Kind == 0) l).length : Nat) : Int)
  | [], n, acc => by simp [tr]
  | x :: l, n, acc => by
    rw [List.zipIdx_cons, List.foldl_cons, last_tr l (n + 1)]
    by_cases h : tr (fun x => x.Kind == 0) l = []
    · rw [tr_cons_nil h, h]
      by_cases hx : x.Kind = 0
      · simp [hx]
      · simp [hx]
    · have h' : (tr (fun x => x.Kind == 0) l).length ≠ 0 := by simpa using h
      rw [tr_cons_ne h, if_neg h', List.length_cons, if_neg (by omega)]
      congr 1
      omega
theorem tr_take {α : Type} (p : α → Bool) (l : List α) : l.take (tr p l).length = tr p l := by
  obtain ⟨h1, h2⟩ := trN_tr (p := p) (l := l) l.length (Nat.le_refl _)
  rw [List.take_length] at h1
  rw [← h1, List.length_take]
  congr 1
  omega
theorem rnorm_l0 {k : Nat} {t : Tr} (hl : t.Kids.length * 56 ≤ 140737488355328) (ih : ∀ x ∈ t.Kids, lv_centoref07_Norm k x = some (nrm x)) :
    runLoop (b_centoref07_Norm_L0 (lv_centoref07_Norm k) t) (0, 0, []) = some (if (tr (fun x => x.Kind == 0) (t.Kids.map nrm)).length = 0 then 0 else ((tr (fun x => x.Kind == 0) (t.Kids.map nrm)).length : Int), t.Kids.map nrm) := by
  have key : ∀ (l pre : List Tr) (a : Int), t.Kids = pre ++ l → runLoop (b_centoref07_Norm_L0 (lv_centoref07_Norm k) t) (a, ((pre.length : Nat) : Int), pre.map nrm) = some (((l.map nrm).zipIdx pre.length).foldl (fun a p => if p.1.Kind = 0 then a else ((p.2 + 1 : Nat) : Int)) a, t.Kids.map nrm) := fun l => by
    induction l with
    | nil =>
      intro pre a hp
      rw [List.append_nil] at hp
      refine runLoop_end ?_
      unfold b_centoref07_Norm_L0
      simp only
      rw [hp, lt_f, cond_false]
      rfl
    | cons x l ihl =>
      intro pre a hp
      have hx : t.Kids[pre.length]? = some x := by rw [hp, List.getElem?_append_right (Nat.le_refl _), Nat.sub_self]; rfl
      have hi : pre.length < t.Kids.length := by rw [hp]; simp
      have hm : x ∈ t.Kids := List.mem_of_getElem? hx
      have hs : b_centoref07_Norm_L0 (lv_centoref07_Norm k) t (a, ((pre.length : Nat) : Int), pre.map nrm) = some (.inl (if x.Kind = 0 then a else ((pre.length + 1 : Nat) : Int), (((pre ++ [x]).length : Nat) : Int), (pre ++ [x]).map nrm)) := by
        unfold b_centoref07_Norm_L0
        simp only
        rw [lt_t hi, cond_true, getI_of hx, Option.bind_some, ih x hm, Option.bind_some, appI_ok (by simp; omega) (by simp; omega), Option.bind_some, i64s (by omega) (by omega), nrm_kind]
        have e : ((pre.length : Nat) : Int) + 1 = ((pre.length + 1 : Nat) : Int) := by omega
        rw [e]
        by_cases h0 : x.Kind = 0
        · simp [h0]
        · have : (x.Kind != 0) = true := by simp [h0]
          rw [this, cond_true]
          simp [h0]
      rw [runLoop_step hs, ihl (pre ++ [x]) _ (by rw [hp]; simp)]
      simp only [List.map_cons, List.zipIdx_cons, List.foldl_cons, List.length_append, List.length_singleton, nrm_kind]
  have := key t.Kids [] 0 rfl
  rw [last_tr] at this
  simpa using this
theorem rnorm_lv : ∀ (k : Nat) (t : Tr), Bd t → SizeOf.sizeOf t < k → lv_centoref07_Norm k t = some (nrm t)
  | 0, t, _, h => by omega
  | k + 1, t, hb, hk => by
    have ih : ∀ x ∈ t.Kids, lv_centoref07_Norm k x = some (nrm x) := fun x hx => rnorm_lv k x (hb.all x hx) (by have := kid_lt hx; omega)
    have hw := hb.w
    have hkd := hb.k
    show b_centoref07_Norm (lv_centoref07_Norm k) t = _
    unfold b_centoref07_Norm
    rw [nrm_eq]
    by_cases h0 : t.Kind = 0
    · rw [if_pos h0, h0]; rfl
    have e0 : (t.Kind == 0) = false := by rw [beq_eq_false_iff_ne]; exact h0
    rw [if_neg h0, e0, cond_false, rnorm_l0 hkd ih, Option.bind_some]
    by_cases h1 : t.Kind = 1
    · have e1 : (t.Kind == 1) = true := by rw [beq_iff_eq]; exact h1
      rw [if_pos h1, e1, cond_true, rTrim_ok hw, Option.bind_some]
      have l1 := tr_len (fun x : Tr => x.Kind == 0) (t.Kids.map nrm)
      have l2 : (if (tr (fun x => x.Kind == 0) (t.Kids.map nrm)).length = 0 then (0 : Int) else ((tr (fun x => x.Kind == 0) (t.Kids.map nrm)).length : Int)) = ((tr (fun x => x.Kind == 0) (t.Kids.map nrm)).length : Int) := by
        split
        · rename_i h; rw [h]; rfl
        · rfl
      simp only [l2]
      rw [sub_take l1, Option.bind_some, tr_take]
    · have e1 : (t.Kind == 1) = false := by rw [beq_eq_false_iff_ne]; exact h1
      rw [if_neg h1, e1, cond_false, appI_ok (by rw [List.length_nil]; omega) (by rw [List.length_nil]; omega)]
      rfl
theorem rnorm_ok {t : Tr} (h : Bd t) : m_centoref07_Norm t = some (nrm t) := lim_eq (SizeOf.sizeOf t + 1) fun k hk => rnorm_lv k t h (by omega)
theorem nrm_bd : ∀ (n : Nat) (t : Tr), SizeOf.sizeOf t < n → Bd t → Bd (nrm t)
  | 0, t, h, _ => by omega
  | n + 1, t, hn, hb => by
    have ih : ∀ x ∈ t.Kids, Bd (nrm x) := fun x hx => nrm_bd n x (by have := kid_lt hx; omega) (hb.all x hx)
    have hw := hb.w
    have hk := hb.k
    rw [nrm_eq]
    split
    · exact .mk _ (by simp) (by simp) (fun w h => by simp at h) (fun w h => by simp at h)
    · split
      · have l1 := tr_len (fun x : Int => x == 0) t.Words
        have l2 := tr_len (fun x : Tr => x.Kind == 0) (t.Kids.map nrm)
        rw [List.length_map] at l2
        refine .mk _ (by simp only; omega) (Nat.le_trans (Nat.mul_le_mul_right 56 l2) hk) (fun w h => hb.u w (tr_mem h)) (fun x h => ?_)
        obtain ⟨y, hy, rfl⟩ := List.mem_map.1 (tr_mem h)
        exact ih y hy
      · refine .mk _ hw (by simp only [List.length_map]; exact hk) hb.u (fun x h => ?_)
        obtain ⟨y, hy, rfl⟩ := List.mem_map.1 h
        exact ih y hy
theorem Bd.nrm {t : Tr} (h : Bd t) : Bd (nrm t) := nrm_bd _ t (Nat.lt_succ_self _) h
theorem nrm_nrm_n : ∀ (n : Nat) (t : Tr), SizeOf.sizeOf t < n → nrm (nrm t) = nrm t
  | 0, t, h => by omega
  | n + 1, t, hn => by
    have ih : ∀ x ∈ t.Kids, nrm (nrm x) = nrm x := fun x hx => nrm_nrm_n n x (by have := kid_lt hx; omega)
    have em : ∀ l : List Tr, (∀ x ∈ l, x ∈ t.Kids) → (l.map nrm).map nrm = l.map nrm := fun l hl => by
      rw [List.map_map]
      exact List.map_congr_left fun x hx => ih x (hl x hx)
    rw [nrm_eq t]
    by_cases h0 : t.Kind = 0
    · rw [if_pos h0, nrm_eq]; simp
    rw [if_neg h0]
    by_cases h1 : t.Kind = 1
    · rw [if_pos h1, nrm_eq]
      simp only [if_neg (show ¬ (1 : Int) = 0 by decide), if_true]
      have q1 : ∀ l : List Tr, tr (fun x : Tr => x.Kind == 0) (l.map nrm) = (tr (fun x : Tr => x.Kind == 0) l).map nrm := tr_map (fun x => by rw [nrm_kind])
      rw [tr_tr, q1, tr_tr, q1, em _ (fun x hx => tr_mem hx)]
    · rw [if_neg h1, nrm_eq]
      simp only
      rw [if_neg h0, if_neg h1, em _ (fun x hx => hx)]
theorem nrm_nrm (t : Tr) : nrm (nrm t) = nrm t := nrm_nrm_n _ t (Nat.lt_succ_self _)

/-- the same, part by part -/
def eqT (a b : Tr) : Bool := a.Kind == b.Kind && (a.Words == b.Words && (a.Kids.length == b.Kids.length && (a.Kids.attach.zip b.Kids).all fun p => eqT p.1.1 p.2))
termination_by SizeOf.sizeOf a
decreasing_by exact kid_lt p.1.2
def eqL : List Tr → List Tr → Bool
  | [], [] => true
  | x :: xs, y :: ys => eqT x y && eqL xs ys
  | _, _ => false
theorem zip_eqL : ∀ (l m : List Tr) (P : Tr → Prop) (l' : List {x // P x}), l'.map (·.1) = l → (l.length == m.length && (l'.zip m).all fun p => eqT p.1.1 p.2) = eqL l m
  | [], [], P, l', h => by cases l' <;> simp_all [eqL]
  | [], y :: m, P, l', h => by cases l' <;> simp_all [eqL]
  | x :: l, [], P, l', h => by cases l' <;> simp_all [eqL]
  | x :: l, y :: m, P, l', h => by
    cases l' with
    | nil => simp at h
    | cons z l' =>
      simp only [List.map_cons, List.cons.injEq] at h
      have ih := zip_eqL l m P l' h.2
      simp only [List.length_cons, List.zip_cons_cons, List.all_cons, eqL, h.1]
      rw [← ih]
      have : (l.length + 1 == m.length + 1) = (l.length == m.length) := by simp
      rw [this]
      cases l.length == m.length <;> cases eqT x y <;> rfl
theorem eqT_eq (a b : Tr) : eqT a b = (a.Kind == b.Kind && (a.Words == b.Words && eqL a.Kids b.Kids)) := by
  rw [eqT, zip_eqL a.Kids b.Kids (· ∈ a.Kids) a.Kids.attach (by simp)]
theorem eqL_cons (x y : Tr) (xs ys : List Tr) : eqL (x :: xs) (y :: ys) = (eqT x y && eqL xs ys) := rfl
theorem eqT_iff_n : ∀ (n : Nat) (a b : Tr), SizeOf.sizeOf a < n → (eqT a b = true ↔ a = b)
  | 0, a, b, h => by omega
  | n + 1, a, b, hn => by
    have ih : ∀ x ∈ a.Kids, ∀ y, eqT x y = true ↔ x = y := fun x hx y => eqT_iff_n n x y (by have := kid_lt hx; omega)
    have hl : ∀ (l m : List Tr), (∀ x ∈ l, x ∈ a.Kids) → (eqL l m = true ↔ l = m) := fun l => by
      induction l with
      | nil => intro m _; cases m <;> simp [eqL]
      | cons x l ihl =>
        intro m hm
        cases m with
        | nil => simp [eqL]
        | cons y m => rw [eqL_cons, Bool.and_eq_true, ih x (hm x (.head _)) y, ihl m (fun z hz => hm z (.tail _ hz)), List.cons.injEq]
    rw [eqT_eq, Bool.and_eq_true, Bool.and_eq_true, hl a.Kids b.Kids (fun x hx => hx), beq_iff_eq, beq_iff_eq]
    obtain ⟨k, w, ks⟩ := a
    obtain ⟨k', w', ks'⟩ := b
    simp
theorem eqT_iff {a b : Tr} : eqT a b = true ↔ a = b := eqT_iff_n _ a b (Nat.lt_succ_self _)
/-- two rows of numbers, held side by side -/
theorem any_ne : ∀ (a b : List Int), a.length = b.length → (a.zip b).any (fun p => p.1 != p.2) = !(a == b)
  | [], [], _ => rfl
  | [], _ :: _, h => by simp at h
  | _ :: _, [], h => by simp at h
  | x :: a, y :: b, h => by
    have ih := any_ne a b (by simpa using h)
    rw [List.zip_cons_cons, List.any_cons, ih]
    by_cases hxy : x = y
    · subst hxy; simp
    · simp [bne, hxy]
theorem loop_two {R : Type} (a b : List Int) (step : Int → Option (Int ⊕ R)) (e o : R) (hab : a.length = b.length) (hl : (a.length : Int) ≤ 140737488355328)
    (h1 : ∀ (i : Nat) (x y : Int), i < a.length → a[i]? = some x → b[i]? = some y → step i = some (if (x != y) = true then .inr e else .inl (IntKind.i64.wrap ((i : Int) + 1)))) (h2 : step a.length = some (.inr o)) :
    runLoop step 0 = some (if (a == b) = true then o else e) := by
  have hz : (a.zip b).length = a.length := by rw [List.length_zip]; omega
  have := loop_any (a.zip b) step (fun p => p.1 != p.2) e o (by rw [hz]; exact hl) (fun i p hi hp hm => by
    rw [hz] at hi
    have ha : a[i]? = some a[i] := List.getElem?_eq_getElem hi
    have hb : b[i]? = some b[i] := List.getElem?_eq_getElem (by omega)
    have : p = (a[i], b[i]) := by
      rw [List.getElem?_eq_getElem (by rw [hz]; exact hi)] at hp
      injection hp with hp
      rw [← hp, List.getElem_zip]
    subst this
    exact h1 i _ _ hi ha hb) (by rw [hz]; exact h2)
  rw [this, any_ne a b hab]
  cases a == b <;> rfl
theorem len_ne {a b : Nat} : ((a : Int) != (b : Int)) = !(a == b) := by
  rw [Bool.eq_iff_iff]; simp; omega
theorem beq_len {a b : List Int} (h : ¬ a.length = b.length) : (a == b) = false := by
  rw [beq_eq_false_iff_ne]; intro e; exact h (by rw [e])
theorem sameW_ok {a b : List Int} (h : (a.length : Int) ≤ 140737488355328) : m_centoref01_Same a b = some (a == b) := by
  unfold m_centoref01_Same
  rw [len_ne]
  by_cases hab : a.length = b.length
  · have : (!(a.length == b.length)) = false := by simp [hab]
    rw [this, cond_false, loop_two a b (m_centoref01_Same_L0 a b) (.inl ()) (.inr ()) hab h (fun i x y hi hx hy => by
      unfold m_centoref01_Same_L0
      rw [lt_t hi, cond_true, getI_of hx, Option.bind_some, getI_of hy, Option.bind_some]
      cases x != y <;> rfl) (by unfold m_centoref01_Same_L0; rw [lt_f]; rfl)]
    cases a == b <;> rfl
  · have : (!(a.length == b.length)) = true := by simp [hab]
    rw [this, cond_true, beq_len hab]
/-- two rows of trees, held side by side -/
theorem any_q (q : Tr → Tr → Bool) : ∀ (a b : List Tr), (a.zip b).any (fun p => !q p.1 p.2) = !((a.zip b).all fun p => q p.1 p.2)
  | [], b => by simp
  | x :: a, [] => by simp
  | x :: a, y :: b => by rw [List.zip_cons_cons, List.any_cons, any_q q a b, List.all_cons]; cases q x y <;> rfl
theorem loop_twoT {R : Type} (a b : List Tr) (q : Tr → Tr → Bool) (step : Int → Option (Int ⊕ R)) (e o : R) (hab : a.length = b.length) (hl : (a.length : Int) ≤ 140737488355328)
    (h1 : ∀ (i : Nat) (x y : Tr), i < a.length → a[i]? = some x → b[i]? = some y → x ∈ a → y ∈ b → step i = some (if (!q x y) = true then .inr e else .inl (IntKind.i64.wrap ((i : Int) + 1)))) (h2 : step a.length = some (.inr o)) :
    runLoop step 0 = some (if ((a.zip b).all fun p => q p.1 p.2) = true then o else e) := by
  have hz : (a.zip b).length = a.length := by rw [List.length_zip]; omega
  have := loop_any (a.zip b) step (fun p => !q p.1 p.2) e o (by rw [hz]; exact hl) (fun i p hi hp hm => by
    rw [hz] at hi
    have ha : a[i]? = some a[i] := List.getElem?_eq_getElem hi
    have hb : b[i]? = some b[i] := List.getElem?_eq_getElem (by omega)
    have : p = (a[i], b[i]) := by
      rw [List.getElem?_eq_getElem (by rw [hz]; exact hi)] at hp
      injection hp with hp
      rw [← hp, List.getElem_zip]
    subst this
    exact h1 i _ _ hi ha hb (List.getElem_mem _) (List.getElem_mem _)) (by rw [hz]; exact h2)
  rw [this, any_q q a b]
  cases (a.zip b).all fun p => q p.1 p.2 <;> rfl
theorem all_eqL0 : ∀ (a b : List Tr), a.length = b.length → ((a.zip b).all fun p => eqT p.1 p.2) = eqL a b
  | [], [], _ => rfl
  | [], _ :: _, h => by simp at h
  | _ :: _, [], h => by simp at h
  | x :: a, y :: b, h => by
    have ih := all_eqL0 a b (by simpa using h)
    rw [List.zip_cons_cons, List.all_cons, ih]; rfl
theorem eqL_len : ∀ (a b : List Tr), a.length ≠ b.length → eqL a b = false
  | [], [], h => by simp at h
  | [], _ :: _, _ => rfl
  | _ :: _, [], _ => rfl
  | x :: a, y :: b, h => by rw [eqL_cons, eqL_len a b (by simpa using h), Bool.and_false]
theorem same_lv : ∀ (k : Nat) (a b : Tr), Bd a → Bd b → SizeOf.sizeOf a < k → lv_centoref07_Same k a b = some (eqT a b)
  | 0, a, b, _, _, h => by omega
  | k + 1, a, b, ha, hb, hk => by
    have ih : ∀ x ∈ a.Kids, ∀ y ∈ b.Kids, lv_centoref07_Same k x y = some (eqT x y) := fun x hx y hy => same_lv k x y (ha.all x hx) (hb.all y hy) (by have := kid_lt hx; omega)
    have hw := ha.w
    have hkd := ha.k
    show b_centoref07_Same (lv_centoref07_Same k) a b = _
    unfold b_centoref07_Same
    rw [eqT_eq, sameW_ok (by omega), Option.bind_some, len_ne]
    by_cases h0 : a.Kind = b.Kind
    · have e0 : (a.Kind != b.Kind) = false := by simp [h0]
      have e1 : (a.Kind == b.Kind) = true := by simp [h0]
      rw [e0, e1, cond_false, cond_false, Option.bind_some, Bool.true_and]
      cases hw' : a.Words == b.Words with
      | false => rfl
      | true =>
        rw [Bool.not_true, cond_false, Bool.true_and]
        by_cases hab : a.Kids.length = b.Kids.length
        · have : (!(a.Kids.length == b.Kids.length)) = false := by simp [hab]
          rw [this, cond_false, loop_twoT a.Kids b.Kids eqT (b_centoref07_Same_L0 (lv_centoref07_Same k) a b) (.inl ()) (.inr ()) hab (by omega) (fun i x y hi hx hy hmx hmy => by
            unfold b_centoref07_Same_L0
            rw [lt_t hi, cond_true, getI_of hx, Option.bind_some, getI_of hy, Option.bind_some, ih x hmx y hmy, Option.bind_some]
            cases eqT x y <;> rfl) (by unfold b_centoref07_Same_L0; rw [lt_f]; rfl)]
          rw [all_eqL0 a.Kids b.Kids hab]
          cases eqL a.Kids b.Kids <;> rfl
        · have : (!(a.Kids.length == b.Kids.length)) = true := by simp [hab]
          rw [this, cond_true, eqL_len _ _ hab]
    · have e0 : (a.Kind != b.Kind) = true := by simp [h0]
      have e1 : (a.Kind == b.Kind) = false := by simp [h0]
      rw [e0, e1]; rfl
theorem same_ok {a b : Tr} (ha : Bd a) (hb : Bd b) : m_centoref07_Same a b = some (eqT a b) := lim_eq (SizeOf.sizeOf a + 1) fun k hk => same_lv k a b ha hb (by omega)
theorem requal_ok {a b : Tr} (ha : Bd a) (hb : Bd b) : m_centoref07_Equal a b = some (eqT (nrm a) (nrm b)) := by
  unfold m_centoref07_Equal
  rw [rnorm_ok ha, Option.bind_some, rnorm_ok hb, Option.bind_some, same_ok ha.nrm hb.nrm, Option.bind_some]
theorem nrm_null {t : Tr} (h : t.Kind = 0) : nrm t = ⟨0, [], []⟩ := by rw [nrm_eq, if_pos h]
theorem nrm_struct {t : Tr} (h : t.Kind = 1) : nrm t = ⟨1, tr (fun x => x == 0) t.Words, tr (fun x => x.Kind == 0) (t.Kids.map nrm)⟩ := by rw [nrm_eq, if_neg (by rw [h]; decide), if_pos h]
theorem nrm_list {t : Tr} (h0 : ¬ t.Kind = 0) (h1 : ¬ t.Kind = 1) : nrm t = ⟨t.Kind, t.Words, t.Kids.map nrm⟩ := by rw [nrm_eq, if_neg h0, if_neg h1]
theorem size_pos (t : Tr) : 0 < SizeOf.sizeOf t := by
  obtain ⟨k, w, ks⟩ := t
  simp only [S_api_Tree.mk.sizeOf_spec]
  omega
/-- how many parts a tree has -/
def pt (t : Tr) : Nat := 1 + t.Words.length + (t.Kids.attach.map fun k => pt k.1).sum
termination_by SizeOf.sizeOf t
decreasing_by exact kid_lt k.2
theorem pt_eq (t : Tr) : pt t = 1 + t.Words.length + (t.Kids.map pt).sum := by
  rw [pt]
  simp only [List.attach_map_val]
theorem shallow_lv : ∀ (k : Nat) (t : Tr) (d left : Int), Bd t → SizeOf.sizeOf t < k → 0 ≤ d → d ≤ 100 → 0 ≤ left → left ≤ 1000000 → ∃ r, lv_centoref07_Shallow k t d left = some r ∧ -1 ≤ r ∧ r ≤ 1000000 ∧ (0 ≤ r → r + pt t ≤ left)
  | 0, t, _, _, _, h, _, _, _, _ => by omega
  | k + 1, t, d, left, hb, hk, hd0, hd1, hl0, hl1 => by
    have ih : ∀ x ∈ t.Kids, ∀ d left : Int, 0 ≤ d → d ≤ 100 → 0 ≤ left → left ≤ 1000000 → ∃ r, lv_centoref07_Shallow k x d left = some r ∧ -1 ≤ r ∧ r ≤ 1000000 ∧ (0 ≤ r → r + pt x ≤ left) := fun x hx d left => shallow_lv k x d left (hb.all x hx) (by have := kid_lt hx; omega)
    have hw := hb.w
    have hkd := hb.k
    show ∃ r, b_centoref07_Shallow (lv_centoref07_Shallow k) t d left = some r ∧ _
    unfold b_centoref07_Shallow
    rw [i64s (x := left - 1) (by omega) (by omega), i64s (by omega) (by omega), pt_eq]
    cases hc : cond (d == 0) true (decide (left - 1 - (t.Words.length : Int) < 0)) with
    | true => exact ⟨-1, rfl, by omega, by omega, fun h => by omega⟩
    | false =>
      rw [cond_false]
      have hd : ¬ d = 0 ∧ 0 ≤ left - 1 - (t.Words.length : Int) := by
        by_cases h : d = 0
        · simp [h] at hc
        · have e : (d == 0) = false := by simp [h]
          rw [e, cond_false, decide_eq_false_iff_not] at hc
          exact ⟨h, by omega⟩
      obtain ⟨r, h1, h2⟩ := runLoop_rule (step := b_centoref07_Shallow_L0 (lv_centoref07_Shallow k) t d)
        (fun s => ∃ j : Nat, s.2 = j ∧ j ≤ t.Kids.length ∧ -1 ≤ s.1 ∧ s.1 ≤ 1000000 ∧ (0 ≤ s.1 → s.1 + (((t.Kids.take j).map pt).sum : Nat) ≤ left - 1 - (t.Words.length : Int)))
        (fun s => t.Kids.length - s.2.toNat) (fun r => -1 ≤ r ∧ r ≤ 1000000 ∧ (0 ≤ r → r + ((t.Kids.map pt).sum : Nat) ≤ left - 1 - (t.Words.length : Int))) (fun s hI => by
          obtain ⟨l, i⟩ := s
          obtain ⟨j, rfl, hj, g1, g2, g3⟩ := hI
          simp only at g1 g2 g3 ⊢
          unfold b_centoref07_Shallow_L0
          simp only
          by_cases hji : j < t.Kids.length
          · rw [lt_t hji, cond_true]
            by_cases hl : 0 ≤ l
            · have e : decide (0 ≤ l) = true := by simp [hl]
              have hx : t.Kids[j]? = some t.Kids[j] := List.getElem?_eq_getElem hji
              obtain ⟨r, q1, q2, q3, q4⟩ := ih t.Kids[j] (List.getElem_mem hji) (d - 1) l (by omega) (by omega) hl g2
              rw [e, cond_true, getI_of hx, Option.bind_some, i64s (by omega) (by omega), q1, Option.bind_some, i64s (by omega) (by omega)]
              refine .inl ⟨_, rfl, ⟨j + 1, by simp only; omega, by omega, q2, q3, fun hr => ?_⟩, by simp only; omega⟩
              have := q4 hr
              have := g3 hl
              rw [List.take_add_one, hx]
              simp only [Option.toList_some, List.map_append, List.map_cons, List.map_nil, List.sum_append, List.sum_cons, List.sum_nil]
              simp only at hr
              omega
            · have e : decide (0 ≤ l) = false := by simp [hl]
              rw [e, cond_false]
              exact .inr ⟨l, rfl, g1, g2, fun h => absurd h hl⟩
          · have hj' : j = t.Kids.length := by omega
            subst hj'
            rw [lt_f, cond_false]
            rw [List.take_length] at g3
            exact .inr ⟨l, rfl, g1, g2, g3⟩) (left - 1 - (t.Words.length : Int), 0) ⟨0, rfl, Nat.zero_le _, by simp only; omega, by simp only; omega, fun _ => by simp⟩
      rw [h1]
      refine ⟨r, rfl, h2.1, h2.2.1, fun hr => ?_⟩
      have := h2.2.2 hr
      omega
theorem getI_mem {α : Type} {xs : List α} {i : Int} {x : α} (h : getI xs i = some x) : x ∈ xs := List.mem_of_getElem? (getI_get h)
theorem shallow_same : ∀ (k k' : Nat) (t : Tr) (d left : Int), SizeOf.sizeOf t < k → SizeOf.sizeOf t < k' → lv_centoref07_Shallow k t d left = lv_centoref07_Shallow k' t d left
  | 0, _, t, _, _, h, _ => by omega
  | k + 1, 0, t, _, _, _, h => by omega
  | k + 1, k' + 1, t, d, left, h, h' => by
    show b_centoref07_Shallow (lv_centoref07_Shallow k) t d left = b_centoref07_Shallow (lv_centoref07_Shallow k') t d left
    have e : b_centoref07_Shallow_L0 (lv_centoref07_Shallow k) t d = b_centoref07_Shallow_L0 (lv_centoref07_Shallow k') t d := funext fun s => by
      unfold b_centoref07_Shallow_L0
      cases hx : getI t.Kids s.2 with
      | none => rfl
      | some x => simp only [Option.bind_some, shallow_same k k' x (IntKind.i64.wrap (d - 1)) s.1 (by have := kid_lt (getI_mem hx); omega) (by have := kid_lt (getI_mem hx); omega)]
    unfold b_centoref07_Shallow
    rw [e]
theorem shal_ok {t : Tr} (h : Bd t) {left : Int} (h0 : 0 ≤ left) (h1 : left ≤ 1000000) : ∃ r, m_centoref07_Shallow t 80 left = some r ∧ -1 ≤ r ∧ r ≤ 1000000 ∧ (0 ≤ r → r + pt t ≤ left) := by
  obtain ⟨r, h2, h3⟩ := shallow_lv (SizeOf.sizeOf t + 1) t 80 left h (by omega) (by omega) (by omega) h0 h1
  exact ⟨r, lim_eq (SizeOf.sizeOf t + 1) fun k hk => by rw [shallow_same k (SizeOf.sizeOf t + 1) t 80 left (by omega) (by omega)]; exact h2, h3⟩
def wid (c : Int) : Nat := if c = 0 then 0 else if c = 1 then 1 else if c = 2 then 8 else if c = 3 then 16 else if c = 4 then 32 else 64
def fitsP (c w : Int) : Bool := decide (w < 2 ^ wid c)
theorem code_cases {c : Int} (h0 : 0 ≤ c) (h1 : c ≤ 5) : c = 0 ∨ c = 1 ∨ c = 2 ∨ c = 3 ∨ c = 4 ∨ c = 5 := by omega
theorem wfits_ok {c w : Int} (h0 : 0 ≤ c) (h1 : c ≤ 5) (hw : 0 ≤ w) : m_word_Fits c w = some (fitsP c w) := by
  have key : ∀ n : Nat, n ≤ 64 → (Int.fdiv w (2 ^ min (Int.toNat (n : Int)) 64) == 0) = decide (w < 2 ^ n) := fun n hn => by
    rw [Int.toNat_natCast, Nat.min_eq_left hn, Int.fdiv_eq_ediv_of_nonneg _ (Int.le_of_lt (Int.pow_pos (by decide)))]
    have hp : (0 : Int) < 2 ^ n := Int.pow_pos (by decide)
    rw [Bool.eq_iff_iff, beq_iff_eq, decide_eq_true_eq]
    constructor
    · intro h
      rcases Int.lt_or_le w (2 ^ n) with h2 | h2
      · exact h2
      · have := Int.ediv_le_ediv hp h2
        rw [Int.ediv_self (Int.ne_of_gt hp)] at this
        omega
    · intro h; exact Int.ediv_eq_zero_of_lt hw h
  have e : ∀ n : Nat, n ≤ 64 → (some (((n : Int), true) : Int × Bool)).bind (fun y2 => (cond y2.2 ((guardI (0 ≤ y2.1)).bind fun u5 => some (cond y2.2 ((Int.fdiv w (2 ^ min (Int.toNat y2.1) 64)) == 0) false)) (some false)).bind fun (z4 : Bool) => some z4) = some (decide (w < 2 ^ n)) := fun n hn => by
    rw [Option.bind_some]
    simp only [cond_true]
    rw [guardI_ok (by omega), Option.bind_some, Option.bind_some, key n hn]
  unfold m_word_Fits fitsP
  rcases code_cases h0 h1 with rfl | rfl | rfl | rfl | rfl | rfl
  · exact e 0 (by decide)
  · exact e 1 (by decide)
  · exact e 8 (by decide)
  · exact e 16 (by decide)
  · exact e 32 (by decide)
  · exact e 64 (by decide)
theorem rfits_loop (n : Nat) (hn : n ≤ 64) (w : Int) (h0 : 0 ≤ w) (h1 : w < 18446744073709551616) : runLoop (m_centoref01_Fits_L0 (n : Int)) (w, 0) = some (w / 2 ^ n) := by
  have key : ∀ m i : Nat, i + m = n → runLoop (m_centoref01_Fits_L0 (n : Int)) (w / 2 ^ i, (i : Int)) = some (w / 2 ^ n) := fun m => by
    induction m with
    | zero =>
      intro i hi
      have : i = n := by omega
      subst this
      refine runLoop_end ?_
      unfold m_centoref01_Fits_L0
      simp only
      rw [lt_f, cond_false]
    | succ m ih =>
      intro i hi
      have hp : (0 : Int) < 2 ^ i := Int.pow_pos (by decide)
      have q0 : 0 ≤ w / 2 ^ i := Int.ediv_nonneg h0 (Int.le_of_lt hp)
      have q1 : w / 2 ^ i ≤ w := Int.ediv_le_self _ h0
      have hs : m_centoref01_Fits_L0 (n : Int) (w / 2 ^ i, (i : Int)) = some (.inl (w / 2 ^ (i + 1), ((i + 1 : Nat) : Int))) := by
        unfold m_centoref01_Fits_L0
        simp only
        rw [lt_t (by omega), cond_true, i64s (by omega) (by omega), Int.tdiv_eq_ediv_of_nonneg q0]
        have e : w / 2 ^ i / 2 = w / 2 ^ (i + 1) := by rw [Int.ediv_ediv_of_nonneg (Int.le_of_lt hp), Int.pow_succ]
        have q2 : 0 ≤ w / 2 ^ i / 2 := Int.ediv_nonneg q0 (by decide)
        have q3 : w / 2 ^ i / 2 ≤ w / 2 ^ i := Int.ediv_le_self _ q0
        have e3 : IntKind.u64.wrap (w / 2 ^ i / 2) = w / 2 ^ i / 2 := by
          exact u64w ⟨q2, by omega⟩
        rw [e3, e]
        rfl
      rw [runLoop_step hs]
      exact ih (i + 1) (by omega)
  have := key n 0 (by omega)
  simpa using this
theorem rfits_ok {c w : Int} (h0 : 0 ≤ c) (h1 : c ≤ 5) (hw : 0 ≤ w) (hw' : w < 18446744073709551616) : m_centoref01_Fits c w = some (fitsP c w) := by
  have e : ∀ n : Nat, n ≤ 64 → (cond (decide ((n : Int) < 0)) (some false) ((runLoop (m_centoref01_Fits_L0 (n : Int)) (w, 0)).bind fun (z4 : Int) => some (z4 == 0))) = some (decide (w < 2 ^ n)) := fun n hn => by
    have : decide ((n : Int) < 0) = false := by rw [decide_eq_false_iff_not]; omega
    have hp : (0 : Int) < 2 ^ n := Int.pow_pos (by decide)
    rw [this, cond_false, rfits_loop n hn w hw hw', Option.bind_some]
    congr 1
    rw [Bool.eq_iff_iff, beq_iff_eq, decide_eq_true_eq]
    constructor
    · intro h
      rcases Int.lt_or_le w (2 ^ n) with h2 | h2
      · exact h2
      · have := Int.ediv_le_ediv hp h2
        rw [Int.ediv_self (Int.ne_of_gt hp)] at this
        omega
    · intro h; exact Int.ediv_eq_zero_of_lt hw h
  unfold m_centoref01_Fits fitsP
  rcases code_cases h0 h1 with rfl | rfl | rfl | rfl | rfl | rfl
  · exact e 0 (by decide)
  · exact e 1 (by decide)
  · exact e 8 (by decide)
  · exact e 16 (by decide)
  · exact e 32 (by decide)
  · exact e 64 (by decide)
/-- may a kid stand in a tree of a kind? -/
def okk (kind : Int) (k : Tr) : Bool := if 2 ≤ kind ∧ kind ≤ 7 then k.Kind == 10 && fitsP (kind - 2) (k.Words.headD 0) else k.Kind != 10 && (kind != 9 || k.Kind == 1)
/-- may a tree be? -/
def rt (t : Tr) (d : Nat) : Bool :=
  if t.Kind = 0 then t.Words.length == 0 && t.Kids.length == 0
  else if t.Kind = 10 then t.Words.length == 1 && t.Kids.length == 0
  else if t.Kind < 0 ∨ 10 < t.Kind ∨ d = 0 ∨ 65536 ≤ t.Words.length ∨ (t.Kind = 1 ∧ 65536 ≤ t.Kids.length) ∨ 1048576 ≤ t.Kids.length ∨ (1 < t.Kind ∧ 0 < t.Words.length) then false
  else (t.Kids.attach.map fun k => rt k.1 (d - 1) && okk t.Kind k.1).all id
termination_by SizeOf.sizeOf t
decreasing_by exact kid_lt k.2
theorem rt_eq (t : Tr) (d : Nat) : rt t d = if t.Kind = 0 then t.Words.length == 0 && t.Kids.length == 0
  else if t.Kind = 10 then t.Words.length == 1 && t.Kids.length == 0
  else if t.Kind < 0 ∨ 10 < t.Kind ∨ d = 0 ∨ 65536 ≤ t.Words.length ∨ (t.Kind = 1 ∧ 65536 ≤ t.Kids.length) ∨ 1048576 ≤ t.Kids.length ∨ (1 < t.Kind ∧ 0 < t.Words.length) then false
  else t.Kids.all fun k => rt k (d - 1) && okk t.Kind k := by
  rw [rt]
  have : (t.Kids.attach.map fun k => rt k.1 (d - 1) && okk t.Kind k.1) = t.Kids.map fun k => rt k (d - 1) && okk t.Kind k := List.attach_map_val (f := fun k => rt k (d - 1) && okk t.Kind k)
  rw [this, List.all_map]
  rfl
theorem rt_atom {t : Tr} (h : t.Kind = 10) (d d' : Nat) : rt t d = rt t d' := by
  have h0 : ¬ t.Kind = 0 := by rw [h]; decide
  rw [rt_eq t d, rt_eq t d']
  simp only [if_neg h0, if_pos h]
theorem rt_atom_w {t : Tr} (h : t.Kind = 10) {d : Nat} (hr : rt t d = true) : ∃ w, t.Words = [w] := by
  rw [rt_eq, if_neg (by omega), if_pos h, Bool.and_eq_true, beq_iff_eq] at hr
  obtain ⟨k, w, ks⟩ := t
  obtain ⟨h1, _⟩ := hr
  simp only at h1 ⊢
  exact List.length_eq_one_iff.1 h1
theorem len0 {n : Nat} : ((n : Int) == 0) = (n == 0) := by rw [Bool.eq_iff_iff, beq_iff_eq, beq_iff_eq]; omega
theorem len1 {n : Nat} : ((n : Int) == 1) = (n == 1) := by rw [Bool.eq_iff_iff, beq_iff_eq, beq_iff_eq]; omega
theorem cond_and (a b : Bool) : cond a b false = (a && b) := by cases a <;> rfl
theorem all_any {α : Type} (p : α → Bool) : ∀ l : List α, l.any (fun x => !p x) = !(l.all p)
  | [] => rfl
  | x :: l => by rw [List.any_cons, List.all_cons, all_any p l]; cases p x <;> rfl
theorem loop_all {α R : Type} (xs : List α) (step : Int → Option (Int ⊕ R)) (p : α → Bool) (e o : R) (hl : (xs.length : Int) ≤ 140737488355328)
    (h1 : ∀ (i : Nat) (x : α), i < xs.length → xs[i]? = some x → x ∈ xs → step i = some (if p x = true then .inl (IntKind.i64.wrap ((i : Int) + 1)) else .inr e)) (h2 : step xs.length = some (.inr o)) : runLoop step 0 = some (if xs.all p = true then o else e) := by
  rw [loop_any xs step (fun x => !p x) e o hl (fun i x hi hx hm => by rw [h1 i x hi hx hm]; cases p x <;> rfl) h2, all_any]
  cases xs.all p <;> rfl
theorem rright_lv : ∀ (k : Nat) (t : Tr) (d : Nat), Bd t → SizeOf.sizeOf t < k → d ≤ 64 → lv_centoref07_Right k t (d : Int) = some (rt t d)
  | 0, t, d, _, h, _ => by omega
  | k + 1, t, d, hb, hk, hd => by
    have hkd := hb.k
    show b_centoref07_Right (lv_centoref07_Right k) t (d : Int) = _
    unfold b_centoref07_Right
    rw [rt_eq, len0, len1]
    by_cases h0 : t.Kind = 0
    · rw [if_pos h0, h0]
      simp only [len0, cond_and]
      rfl
    have e0 : (t.Kind == 0) = false := by simp [h0]
    rw [if_neg h0, e0, cond_false]
    by_cases h10 : t.Kind = 10
    · rw [if_pos h10, h10]
      simp only [len0, cond_and]
      rfl
    have e10 : (t.Kind == 10) = false := by simp [h10]
    rw [if_neg h10, e10, cond_false]
    by_cases hbad : t.Kind < 0 ∨ 10 < t.Kind ∨ d = 0 ∨ 65536 ≤ t.Words.length ∨ (t.Kind = 1 ∧ 65536 ≤ t.Kids.length) ∨ 1048576 ≤ t.Kids.length ∨ (1 < t.Kind ∧ 0 < t.Words.length)
    · rw [if_pos hbad]
      have hc : ∀ c1 c2 c3 c4 c5 c6 c7 c8 : Bool, (c1 = true ∨ c2 = true ∨ c3 = true ∨ c4 = true ∨ (c5 = true ∧ c6 = true) ∨ c7 = true ∨ c8 = true) → ∀ X : Option Bool,
          cond (cond (cond (cond (cond (cond c1 true c2) true c3) true c4) true (cond c5 c6 false)) true c7) (some false) (cond c8 (some false) X) = some false := by
        intro c1 c2 c3 c4 c5 c6 c7 c8 h X
        cases c1 <;> cases c2 <;> cases c3 <;> cases c4 <;> cases c5 <;> cases c6 <;> cases c7 <;> cases c8 <;> first | rfl | (simp at h; done)
      refine hc _ _ _ _ _ _ _ _ ?_ _
      simp only [decide_eq_true_eq, beq_iff_eq, cond_and, Bool.and_eq_true]
      omega
    · rw [if_neg hbad]
      have hg : ¬ t.Kind < 0 ∧ ¬ 10 < t.Kind ∧ ¬ d = 0 ∧ ¬ 65536 ≤ t.Words.length ∧ ¬ (t.Kind = 1 ∧ 65536 ≤ t.Kids.length) ∧ ¬ 1048576 ≤ t.Kids.length ∧ ¬ (1 < t.Kind ∧ 0 < t.Words.length) := by omega
      have hc : ∀ c1 c2 c3 c4 c5 c7 c8 : Bool, c1 = false → c2 = false → c3 = false → c4 = false → c5 = false → c7 = false → c8 = false → ∀ X : Option Bool,
          cond (cond (cond (cond (cond (cond c1 true c2) true c3) true c4) true c5) true c7) (some false) (cond c8 (some false) X) = X := by
        intro c1 c2 c3 c4 c5 c7 c8 h1 h2 h3 h4 h5 h7 h8 X
        subst h1 h2 h3 h4 h5 h7 h8
        rfl
      rw [hc _ _ _ _ _ _ _ (decide_eq_false hg.1) (decide_eq_false hg.2.1) (by rw [beq_eq_false_iff_ne]; omega) (by rw [decide_eq_false_iff_not]; omega) (by rw [cond_and, Bool.and_eq_false_iff, beq_eq_false_iff_ne, decide_eq_false_iff_not]; omega) (by rw [decide_eq_false_iff_not]; omega) (by rw [cond_and, Bool.and_eq_false_iff, decide_eq_false_iff_not, decide_eq_false_iff_not]; omega)]
      obtain ⟨d', rfl⟩ : ∃ d', d = d' + 1 := ⟨d - 1, by omega⟩
      have ih : ∀ x ∈ t.Kids, lv_centoref07_Right k x (d' : Int) = some (rt x d') := fun x hx => rright_lv k x d' (hb.all x hx) (by have := kid_lt hx; omega) (by omega)
      rw [loop_all t.Kids (b_centoref07_Right_L0 (lv_centoref07_Right k) t ((d' + 1 : Nat) : Int)) (fun x => rt x d' && okk t.Kind x) (.inl ()) (.inr ()) (by omega) (fun i x hi hx hm => by
        unfold b_centoref07_Right_L0
        have ed : ((d' + 1 : Nat) : Int) - 1 = (d' : Int) := by omega
        rw [lt_t hi, cond_true, getI_of hx, Option.bind_some, i64s (x := ((d' + 1 : Nat) : Int) - 1) (by omega) (by omega), ed, ih x hm, Option.bind_some]
        cases hr : rt x d' with
        | false => rfl
        | true =>
          rw [Bool.not_true, cond_false, Bool.true_and]
          unfold okk
          by_cases hdt : 2 ≤ t.Kind ∧ t.Kind ≤ 7
          · have e2 : decide (2 ≤ t.Kind) = true := decide_eq_true hdt.1
            have e7 : decide (t.Kind ≤ 7) = true := decide_eq_true hdt.2
            have e9 : (t.Kind == 9) = false := by rw [beq_eq_false_iff_ne]; omega
            rw [e2, e7, e9, if_pos hdt]
            simp only [cond_true, cond_false]
            by_cases hx10 : x.Kind = 10
            · obtain ⟨w, hw⟩ := rt_atom_w hx10 hr
              have hu := (hb.all x hm).u w (by rw [hw]; exact .head _)
              have ex : (x.Kind == 10) = true := by simp [hx10]
              have ex2 : ((true : Bool) != true) = false := rfl
              have hg0 : getI [w] (0 : Int) = some w := rfl
              rw [ex, ex2, cond_false, hw, hg0, Option.bind_some, i64s (by omega) (by omega), rfits_ok (by omega) (by omega) hu.1 hu.2, Option.bind_some]
              simp only [cond_false, List.headD_cons, Bool.true_and]
              cases fitsP (t.Kind - 2) w <;> rfl
            · have ex : (x.Kind == 10) = false := by simp [hx10]
              rw [ex]
              rfl
          · have ed2 : cond (decide (2 ≤ t.Kind)) (decide (t.Kind ≤ 7)) false = false := by
              rw [cond_and, Bool.and_eq_false_iff, decide_eq_false_iff_not, decide_eq_false_iff_not]; omega
            rw [ed2, if_neg hdt]
            have hin : ∀ (X : Option Bool) (b : Bool), (cond (decide (2 ≤ t.Kind)) (cond (decide (t.Kind ≤ 7)) X (some b)) (some b)) = some b := fun X b => by
              by_cases h2 : 2 ≤ t.Kind
              · have h7 : decide (t.Kind ≤ 7) = false := by rw [decide_eq_false_iff_not]; omega
                rw [decide_eq_true h2, h7]; rfl
              · rw [decide_eq_false h2]; rfl
            by_cases hx10 : x.Kind = 10
            · have ex : (x.Kind == 10) = true := by simp [hx10]
              have ex2 : (x.Kind != 10) = false := by simp [hx10]
              rw [ex, ex2]
              rfl
            · have ex : (x.Kind == 10) = false := by simp [hx10]
              have ex2 : (x.Kind != 10) = true := by simp [hx10]
              have ex3 : ((false : Bool) != false) = false := rfl
              rw [ex, ex2, ex3, cond_false]
              simp only [cond_false]
              rw [hin]
              by_cases h9 : t.Kind = 9
              · have e9 : (t.Kind == 9) = true := by simp [h9]
                have e9' : (t.Kind != 9) = false := by simp [h9]
                rw [e9, e9', cond_true]
                by_cases hx1 : x.Kind = 1
                · have q1 : (x.Kind != 1) = false := by simp [hx1]
                  have q2 : (x.Kind == 1) = true := by simp [hx1]
                  rw [q1, q2, cond_false]
                  rfl
                · have q1 : (x.Kind != 1) = true := by simp [hx1]
                  have q2 : (x.Kind == 1) = false := by simp [hx1]
                  rw [q1, q2, cond_true]
                  rfl
              · have e9 : (t.Kind == 9) = false := by simp [h9]
                have e9' : (t.Kind != 9) = true := by simp [h9]
                rw [e9, e9']
                rfl) (by unfold b_centoref07_Right_L0; rw [lt_f]; rfl), Option.bind_some, Nat.add_sub_cancel]
      cases t.Kids.all fun x => rt x d' && okk t.Kind x <;> rfl
theorem rright_ok {t : Tr} (h : Bd t) {d : Nat} (hd : d ≤ 64) : m_centoref07_Right t (d : Int) = some (rt t d) := lim_eq (SizeOf.sizeOf t + 1) fun k hk => rright_lv k t d h (by omega) hd
theorem list_ok (n : Int) : m_tree_List n = some (decide (2 ≤ n) && decide (n ≤ 9)) := by unfold m_tree_List; rw [cond_and]
theorem structs_ok {l : List Tr} (hl : (l.length : Int) ≤ 140737488355328) : m_tree_allStructs l = some (l.all fun x => x.Kind == 1) := by
  unfold m_tree_allStructs
  rw [loop_all l (m_tree_allStructs_L0 l) (fun x => x.Kind == 1) (.inl ()) (.inr ()) hl (fun i x hi hx hm => by
    unfold m_tree_allStructs_L0
    rw [lt_t hi, cond_true, getI_of hx, Option.bind_some]
    simp only [bne]
    cases x.Kind == 1 <;> rfl) (by unfold m_tree_allStructs_L0; rw [lt_f]; rfl), Option.bind_some]
  cases l.all fun x => x.Kind == 1 <;> rfl
theorem all_and {α : Type} (p q : α → Bool) : ∀ l : List α, (l.all fun x => p x && q x) = (l.all p && l.all q)
  | [] => rfl
  | x :: l => by rw [List.all_cons, List.all_cons, List.all_cons, all_and p q l]; cases p x <;> cases q x <;> cases l.all p <;> cases l.all q <;> rfl
theorem all_congr {α : Type} {p q : α → Bool} : ∀ {l : List α}, (∀ x ∈ l, p x = q x) → l.all p = l.all q
  | [], _ => rfl
  | x :: l, h => by rw [List.all_cons, List.all_cons, h x (.head _), all_congr fun y hy => h y (.tail _ hy)]
/-- the program's: no atom may stand where a tree may -/
def rq (t : Tr) (d : Nat) : Bool := rt t d && t.Kind != 10
def ra (c : Int) (x : Tr) : Bool := x.Kind == 10 && (rt x 64 && fitsP c (x.Words.headD 0))
theorem right_lv : ∀ (k : Nat), (∀ t : Tr, Bd t → (2 * SizeOf.sizeOf t + 1 < k ∨ (t.Kind = 10 ∧ 0 < k)) → (lv_tree_Right k).1 t = some (rt t 64)) ∧
    (∀ (t : Tr) (d : Nat), Bd t → 2 * SizeOf.sizeOf t < k → d ≤ 64 → (lv_tree_Right k).2.1 t (d : Int) = some (rq t d)) ∧
    (∀ (l : List Tr) (d : Nat), (∀ x ∈ l, Bd x ∧ 2 * SizeOf.sizeOf x + 1 < k) → (l.length : Int) ≤ 140737488355328 → d ≤ 64 → 1 ≤ k → (lv_tree_Right k).2.2.1 l (d : Int) = some (l.all fun x => rq x d)) ∧
    (∀ (l : List Tr) (c : Int), (∀ x ∈ l, Bd x) → (l.length : Int) ≤ 140737488355328 → 0 ≤ c → c ≤ 5 → 2 ≤ k → (lv_tree_Right k).2.2.2 l c = some (l.all (ra c)))
  | 0 => ⟨fun t _ h => by omega, fun t d _ h => by omega, fun l d _ _ _ h => by omega, fun l c _ _ _ _ h => by omega⟩
  | k + 1 => by
    obtain ⟨i1, i2, i3, i4⟩ := right_lv k
    refine ⟨fun t hb hk => ?_, fun t d hb hk hd => ?_, fun l d hl hn hd hk => ?_, fun l c hl hn h0 h5 hk => ?_⟩
    · show b_tree_Right (lv_tree_Right k).1 (lv_tree_Right k).2.1 (lv_tree_Right k).2.2.1 (lv_tree_Right k).2.2.2 t = _
      unfold b_tree_Right
      rw [len0, len1]
      by_cases h10 : t.Kind = 10
      · have e : (t.Kind == 10) = true := by simp [h10]
        rw [e, cond_true, cond_and, rt_eq, if_neg (by rw [h10]; decide), if_pos h10]
      · have e : (t.Kind == 10) = false := by simp [h10]
        have e2 : (t.Kind != 10) = true := by simp [h10]
        have := i2 t 64 hb (by rcases hk with hk | hk; omega; exact absurd hk.1 h10) (by decide)
        rw [e, cond_false, show (64 : Int) = ((64 : Nat) : Int) from rfl, this, Option.bind_some]
        unfold rq
        rw [e2, Bool.and_true]
    · have hkd := hb.k
      have hw := hb.w
      show b_tree_right (lv_tree_Right k).1 (lv_tree_Right k).2.1 (lv_tree_Right k).2.2.1 (lv_tree_Right k).2.2.2 t (d : Int) = _
      unfold b_tree_right rq
      rw [len0, len0, rt_eq]
      by_cases h0 : t.Kind = 0
      · have e : (t.Kind == 0) = true := by simp [h0]
        have e2 : (t.Kind != 10) = true := by rw [h0]; rfl
        rw [e, e2, cond_true, cond_and, if_pos h0, Bool.and_true]
      have e0 : (t.Kind == 0) = false := by simp [h0]
      rw [e0, cond_false, if_neg h0]
      by_cases hd0 : d = 0
      · subst hd0
        have e : (((0 : Nat) : Int) == 0) = true := rfl
        rw [e, cond_true]
        by_cases h10 : t.Kind = 10
        · simp [h10]
        · rw [if_neg h10, if_pos (by omega), Bool.false_and]
      have ed : ((d : Int) == 0) = false := by rw [beq_eq_false_iff_ne]; omega
      rw [ed, cond_false]
      obtain ⟨d', rfl⟩ : ∃ d', d = d' + 1 := ⟨d - 1, by omega⟩
      have e3 : ((d' + 1 : Nat) : Int) - 1 = (d' : Int) := by omega
      have ih3 := i3 t.Kids d' (fun x hx => ⟨hb.all x hx, by have := kid_lt hx; omega⟩) (by omega) (by omega) (by have := size_pos t; omega)
      rw [i64s (x := ((d' + 1 : Nat) : Int) - 1) (by omega) (by omega), e3, ih3, Nat.add_sub_cancel]
      by_cases h1 : t.Kind = 1
      · have e : (t.Kind == 1) = true := by simp [h1]
        have e2 : (t.Kind != 10) = true := by rw [h1]; rfl
        have e10 : ¬ t.Kind = 10 := by omega
        have ho : ∀ x : Tr, okk t.Kind x = (x.Kind != 10) := fun x => by unfold okk; rw [h1, if_neg (by decide)]; simp
        rw [e, e2, cond_true, if_neg e10, Bool.and_true]
        simp only [ho]
        by_cases hw' : t.Words.length < 65536
        · have q1 : decide ((t.Words.length : Int) < 65536) = true := by rw [decide_eq_true_eq]; omega
          by_cases hk' : t.Kids.length < 65536
          · have q2 : decide ((t.Kids.length : Int) < 65536) = true := by rw [decide_eq_true_eq]; omega
            rw [q1, q2, if_neg (by omega)]
            rfl
          · have q2 : decide ((t.Kids.length : Int) < 65536) = false := by rw [decide_eq_false_iff_not]; omega
            rw [q1, q2, if_pos (by omega)]
            rfl
        · have q1 : decide ((t.Words.length : Int) < 65536) = false := by rw [decide_eq_false_iff_not]; omega
          rw [q1, if_pos (by omega)]
          rfl
      have e1 : (t.Kind == 1) = false := by simp [h1]
      rw [e1, cond_false, list_ok, Option.bind_some]
      by_cases hbad : ¬ (2 ≤ t.Kind ∧ t.Kind ≤ 9) ∨ 0 < t.Words.length ∨ 1048576 ≤ t.Kids.length
      · have q : cond (cond (!(decide (2 ≤ t.Kind) && decide (t.Kind ≤ 9))) true (decide (0 < (t.Words.length : Int)))) true (decide (1048576 ≤ (t.Kids.length : Int))) = true := by
          cases hq : cond (cond (!(decide (2 ≤ t.Kind) && decide (t.Kind ≤ 9))) true (decide (0 < (t.Words.length : Int)))) true (decide (1048576 ≤ (t.Kids.length : Int))) with
          | true => rfl
          | false =>
            have hc : ∀ a b c : Bool, cond (cond (!a) true b) true c = false → a = true ∧ b = false ∧ c = false := by decide
            obtain ⟨z1, z2, z3⟩ := hc _ _ _ hq
            rw [Bool.and_eq_true, decide_eq_true_eq, decide_eq_true_eq] at z1
            rw [decide_eq_false_iff_not] at z2 z3
            omega
        rw [q, cond_true]
        by_cases h10 : t.Kind = 10
        · have e2 : (t.Kind != 10) = false := by simp [h10]
          rw [e2, Bool.and_false]
        · rw [if_neg h10, if_pos (by omega), Bool.false_and]
      · have hg : 2 ≤ t.Kind ∧ t.Kind ≤ 9 ∧ ¬ 0 < t.Words.length ∧ ¬ 1048576 ≤ t.Kids.length := by omega
        have q2 : decide (0 < (t.Words.length : Int)) = false := by rw [decide_eq_false_iff_not]; omega
        have q3 : decide (1048576 ≤ (t.Kids.length : Int)) = false := by rw [decide_eq_false_iff_not]; omega
        have e10 : ¬ t.Kind = 10 := by omega
        have e2 : (t.Kind != 10) = true := by simp [e10]
        rw [decide_eq_true hg.1, decide_eq_true hg.2.1, q2, q3, e2, if_neg e10, if_neg (by omega), Bool.and_true]
        simp only [Bool.and_true, Bool.not_true, cond_false]
        by_cases h8 : t.Kind = 8
        · have e : (t.Kind == 8) = true := by simp [h8]
          have ho : ∀ x : Tr, okk t.Kind x = (x.Kind != 10) := fun x => by unfold okk; rw [h8, if_neg (by decide)]; simp
          rw [e, cond_true, Option.bind_some]
          simp only [ho]
          rfl
        have e8 : (t.Kind == 8) = false := by simp [h8]
        rw [e8, cond_false]
        by_cases h9 : t.Kind = 9
        · have e : (t.Kind == 9) = true := by simp [h9]
          have ho : ∀ x : Tr, (rt x d' && okk t.Kind x) = (rq x d' && x.Kind == 1) := fun x => by
            unfold okk rq
            rw [h9, if_neg (by decide)]
            have : ((9 : Int) != 9) = false := rfl
            rw [this, Bool.false_or, Bool.and_assoc]
          rw [e, cond_true, structs_ok (by omega), Option.bind_some]
          simp only [ho]
          rw [all_and]
          cases t.Kids.all fun x => x.Kind == 1 with
          | false => rw [Bool.and_false]; rfl
          | true => rw [Bool.and_true]; rfl
        · have e : (t.Kind == 9) = false := by simp [h9]
          have hd7 : 2 ≤ t.Kind ∧ t.Kind ≤ 7 := by omega
          rw [e, cond_false, i64s (by omega) (by omega), i4 t.Kids (t.Kind - 2) hb.all (by omega) (by omega) (by omega) (by have := size_pos t; omega), Option.bind_some]
          congr 1
          refine all_congr fun x hx => ?_
          unfold okk ra
          rw [if_pos hd7]
          by_cases hx10 : x.Kind = 10
          · rw [rt_atom hx10 d' 64]
            have : (x.Kind == 10) = true := by simp [hx10]
            rw [this, Bool.true_and, Bool.true_and]
          · have : (x.Kind == 10) = false := by simp [hx10]
            rw [this, Bool.false_and, Bool.false_and, Bool.and_false]
    · show b_tree_allRight (lv_tree_Right k).1 (lv_tree_Right k).2.1 (lv_tree_Right k).2.2.1 (lv_tree_Right k).2.2.2 l (d : Int) = _
      unfold b_tree_allRight
      rw [loop_all l (b_tree_allRight_L0 (lv_tree_Right k).2.1 l (d : Int)) (fun x => rq x d) (.inl ()) (.inr ()) hn (fun i x hi hx hm => by
        unfold b_tree_allRight_L0
        rw [lt_t hi, cond_true, getI_of hx, Option.bind_some, i2 x d (hl x hm).1 (by have := (hl x hm).2; omega) hd, Option.bind_some]
        cases rq x d <;> rfl) (by unfold b_tree_allRight_L0; rw [lt_f]; rfl), Option.bind_some]
      cases l.all fun x => rq x d <;> rfl
    · show b_tree_allAtoms (lv_tree_Right k).1 (lv_tree_Right k).2.1 (lv_tree_Right k).2.2.1 (lv_tree_Right k).2.2.2 l c = _
      unfold b_tree_allAtoms
      rw [loop_all l (b_tree_allAtoms_L0 (lv_tree_Right k).1 l c) (ra c) (.inl ()) (.inr ()) hn (fun i x hi hx hm => by
        unfold b_tree_allAtoms_L0 ra
        rw [lt_t hi, cond_true, getI_of hx, Option.bind_some]
        by_cases hx10 : x.Kind = 10
        · have e : (x.Kind == 10) = true := by simp [hx10]
          have e2 : (x.Kind != 10) = false := by simp [hx10]
          rw [e, e2, cond_false, i1 x (hl x hm) (.inr ⟨hx10, by omega⟩), Option.bind_some, Bool.true_and]
          cases hr : rt x 64 with
          | false => rfl
          | true =>
            obtain ⟨w, hw⟩ := rt_atom_w hx10 hr
            have hu := (hl x hm).u w (by rw [hw]; exact .head _)
            have hg0 : getI [w] (0 : Int) = some w := rfl
            rw [cond_true, hw, hg0, Option.bind_some, wfits_ok h0 h5 hu.1, Option.bind_some]
            simp only [cond_false, List.headD_cons, Bool.true_and, Bool.not_true]
            cases fitsP c w <;> rfl
        · have e : (x.Kind == 10) = false := by simp [hx10]
          have e2 : (x.Kind != 10) = true := by simp [hx10]
          rw [e, e2]
          rfl) (by unfold b_tree_allAtoms_L0; rw [lt_f]; rfl), Option.bind_some]
      cases l.all (ra c) <;> rfl
theorem right_ok {t : Tr} (h : Bd t) : m_tree_Right t = some (rt t 64) := lim_eq (2 * SizeOf.sizeOf t + 2) fun k hk => (right_lv k).1 t h (.inl (by omega))

/-- rounds over a list with something carried along -/
theorem loop_fold {α S R σ : Type} (xs : List α) (mk : S → Int → σ) (f : S → α → S) (out : S → R) (I : S → Prop) (step : σ → Option (σ ⊕ R)) (hl : (xs.length : Int) ≤ 140737488355328)
    (h1 : ∀ (s : S) (i : Nat) (x : α), I s → i < xs.length → xs[i]? = some x → x ∈ xs → I (f s x) ∧ step (mk s (i : Int)) = some (.inl (mk (f s x) (IntKind.i64.wrap ((i : Int) + 1))))) (h2 : ∀ s, I s → step (mk s (xs.length : Int)) = some (.inr (out s))) (s : S) (hs : I s) : runLoop step (mk s 0) = some (out (xs.foldl f s)) ∧ I (xs.foldl f s) := by
  have key : ∀ (ys : List α) (i : Nat) (s : S), I s → xs.drop i = ys → i ≤ xs.length → runLoop step (mk s (i : Int)) = some (out (ys.foldl f s)) ∧ I (ys.foldl f s) := fun ys => by
    induction ys with
    | nil =>
      intro i s hI h hi
      have : i = xs.length := by
        have := congrArg List.length h
        rw [List.length_drop, List.length_nil] at this
        omega
      subst this
      exact ⟨runLoop_end (h2 s hI), hI⟩
    | cons x ys ih =>
      intro i s hI h hi
      have hx : xs[i]? = some x := by
        have := congrArg (fun l => l[0]?) h
        simpa using this
      have hi' : i < xs.length := by
        rcases Nat.lt_or_ge i xs.length with h' | h'
        · exact h'
        · rw [List.getElem?_eq_none h'] at hx; cases hx
      obtain ⟨hI', hs⟩ := h1 s i x hI hi' hx (List.mem_of_getElem? hx)
      have hd : xs.drop (i + 1) = ys := by
        have := congrArg List.tail h
        rwa [List.tail_drop, List.tail_cons] at this
      have e1 : (i : Int) + 1 = ((i + 1 : Nat) : Int) := by omega
      rw [i64s (by omega) (by omega), e1] at hs
      rw [runLoop_step hs]
      exact ih (i + 1) (f s x) hI' hd (by omega)
  exact key xs 0 s hs rfl (Nat.zero_le _)
def n0T : Tr := ⟨0, [], []⟩
/-- rounds that tell each kid anew -/
theorem loop_map {α β : Type} (xs : List α) (f : α → β) (step : Int × List β → Option ((Int × List β) ⊕ List β)) (acc : List β) (hl : (xs.length : Int) ≤ 140737488355328)
    (h1 : ∀ (i : Nat) (x : α) (out : List β), i < xs.length → xs[i]? = some x → x ∈ xs → out.length = acc.length + i → step ((i : Int), out) = some (.inl (IntKind.i64.wrap ((i : Int) + 1), out ++ [f x])))
    (h2 : ∀ out, step ((xs.length : Int), out) = some (.inr out)) : runLoop step (0, acc) = some (acc ++ xs.map f) := by
  have key : ∀ m i, i + m = xs.length → runLoop step ((i : Int), acc ++ (xs.take i).map f) = some (acc ++ xs.map f) := fun m => by
    induction m with
    | zero =>
      intro i hi
      have hi' : i = xs.length := by omega
      subst hi'
      rw [List.take_length]
      exact runLoop_end (h2 _)
    | succ m ih =>
      intro i hi
      have hx : xs[i]? = some xs[i] := List.getElem?_eq_getElem (by omega)
      have h := h1 i _ (acc ++ (xs.take i).map f) (by omega) hx (List.mem_of_getElem? hx) (by rw [List.length_append, List.length_map, List.length_take]; omega)
      rw [i64s (by omega) (by omega)] at h
      rw [runLoop_step h]
      have e : acc ++ (xs.take i).map f ++ [f xs[i]] = acc ++ (xs.take (i + 1)).map f := by
        rw [List.take_add_one, hx, List.map_append, List.append_assoc]
        rfl
      rw [e]
      exact ih (i + 1) (by omega)
  have := key xs.length 0 (by omega)
  simpa using this
theorem okk_nrm {k : Int} {t : Tr} (h : okk k t = true) : okk k (nrm t) = true := by
  unfold okk at h ⊢
  rw [nrm_kind]
  split
  · rename_i hk
    rw [if_pos hk, Bool.and_eq_true, beq_iff_eq] at h
    rw [nrm_list (by omega) (by omega), h.1]
    simp only [BEq.rfl, Bool.true_and]
    exact h.2
  · rename_i hk
    rw [if_neg hk] at h
    exact h
theorem rt_nrm : ∀ (n : Nat) (t : Tr) (d : Nat), SizeOf.sizeOf t < n → rt t d = true → rt (nrm t) d = true
  | 0, _, _, h, _ => by omega
  | n + 1, t, d, hn, h => by
    have hk := nrm_kind t
    by_cases h0 : t.Kind = 0
    · rw [nrm_null h0, rt_eq, if_pos rfl]; rfl
    rw [rt_eq, if_neg h0] at h
    by_cases h10 : t.Kind = 10
    · rw [if_pos h10] at h
      rw [nrm_list h0 (by omega), rt_eq, if_neg h0, if_pos h10]
      simp only [List.length_map]
      exact h
    rw [if_neg h10] at h
    by_cases hc : t.Kind < 0 ∨ 10 < t.Kind ∨ d = 0 ∨ 65536 ≤ t.Words.length ∨ (t.Kind = 1 ∧ 65536 ≤ t.Kids.length) ∨ 1048576 ≤ t.Kids.length ∨ (1 < t.Kind ∧ 0 < t.Words.length)
    · rw [if_pos hc] at h; cases h
    rw [if_neg hc, List.all_eq_true] at h
    have hkid : ∀ x ∈ t.Kids, (rt (nrm x) (d - 1) && okk t.Kind (nrm x)) = true := fun x hx => by
      have := h x hx
      rw [Bool.and_eq_true] at this ⊢
      exact ⟨rt_nrm n x (d - 1) (by have := kid_lt hx; omega) this.1, okk_nrm this.2⟩
    by_cases h1 : t.Kind = 1
    · obtain ⟨W, K, e1, lW, lK, mK⟩ : ∃ W K, nrm t = ⟨1, W, K⟩ ∧ W.length ≤ t.Words.length ∧ K.length ≤ t.Kids.length ∧ ∀ x ∈ K, x ∈ t.Kids.map nrm :=
        ⟨_, _, nrm_struct h1, tr_len _ _, by have h := tr_len (fun x : Tr => x.Kind == 0) (t.Kids.map nrm); rw [List.length_map] at h; exact h, fun x hx => tr_mem hx⟩
      rw [e1, rt_eq]
      simp only
      rw [if_neg (by decide), if_neg (by decide), if_neg (by omega), List.all_eq_true]
      intro x hx
      obtain ⟨y, hy, rfl⟩ := List.mem_map.1 (mK x hx)
      rw [← h1]
      exact hkid y hy
    · rw [nrm_list h0 h1, rt_eq]
      simp only [List.length_map]
      rw [if_neg h0, if_neg h10, if_neg hc, List.all_eq_true]
      intro x hx
      obtain ⟨y, hy, rfl⟩ := List.mem_map.1 hx
      exact hkid y hy
theorem rtN {t : Tr} {d : Nat} (h : rt t d = true) : rt (nrm t) d = true := rt_nrm _ t d (Nat.lt_succ_self _) h
/-- a list's kid at a place; behind its end: nothing -/
def atD {α : Type} (z : α) (l : List α) (i : Nat) : α := (l[i]?).getD z
def p0 (x : Int) : Bool := x == 0
def pT (x : Tr) : Bool := x.Kind == 0
instance decTr : DecidableEq Tr := fun a b => decidable_of_iff (eqT a b = true) eqT_iff
/-- a tree without what is in vain -/
def NT (t : Tr) : Prop := nrm t = t
theorem NT.null {t : Tr} (h : NT t) (hk : pT t = true) : t = n0T := by
  unfold pT at hk
  rw [beq_iff_eq] at hk
  rw [← h, nrm_null hk]
  rfl
theorem NT.of (t : Tr) : NT (nrm t) := nrm_nrm t
theorem NT.z : NT n0T := nrm_null rfl
theorem NT.kids {t : Tr} (h : NT t) : ∀ k ∈ t.Kids, NT k := fun k hk => by
  unfold NT at h
  rw [← h] at hk
  by_cases h0 : t.Kind = 0
  · rw [nrm_null h0] at hk; cases hk
  by_cases h1 : t.Kind = 1
  · rw [nrm_struct h1] at hk
    obtain ⟨y, _, rfl⟩ := List.mem_map.1 (tr_mem hk)
    exact NT.of y
  · rw [nrm_list h0 h1] at hk
    obtain ⟨y, _, rfl⟩ := List.mem_map.1 hk
    exact NT.of y
theorem NT.map {l : List Tr} (h : ∀ k ∈ l, NT k) : l.map nrm = l := by
  conv => rhs; rw [← List.map_id l]
  exact List.map_congr_left fun x hx => h x hx
theorem NT.words {t : Tr} (h : NT t) (h1 : t.Kind = 1) : tr p0 t.Words = t.Words ∧ tr pT t.Kids = t.Kids := by
  have hk := NT.map h.kids
  unfold NT at h
  rw [nrm_struct h1] at h
  have hw := congrArg S_api_Tree.Words h
  have hk2 := congrArg S_api_Tree.Kids h
  simp only at hw hk2
  rw [hk] at hk2
  exact ⟨hw, hk2⟩
/-- words in range -/
inductive Rg : Tr → Prop
  | mk (t : Tr) (h3 : ∀ w ∈ t.Words, 0 ≤ w ∧ w < 18446744073709551616) (h4 : ∀ k ∈ t.Kids, Rg k) : Rg t
theorem Rg.u {t : Tr} (h : Rg t) : ∀ w ∈ t.Words, 0 ≤ w ∧ w < 18446744073709551616 := by cases h; assumption
theorem Rg.all {t : Tr} (h : Rg t) : ∀ k ∈ t.Kids, Rg k := by cases h; assumption
theorem Rg.z : Rg n0T := .mk _ (by simp [n0T]) (by simp [n0T])
theorem Rg.of : ∀ (n : Nat) (t : Tr), SizeOf.sizeOf t < n → Bd t → Rg t
  | 0, _, h, _ => by omega
  | n + 1, t, hn, h => .mk _ h.u fun k hk => Rg.of n k (by have := kid_lt hk; omega) (h.all k hk)
theorem Bd.rg {t : Tr} (h : Bd t) : Rg t := Rg.of _ t (Nat.lt_succ_self _) h
/-- right lists, and kids, as far as it matters -/
inductive TX : Tr → Prop
  | mk (t : Tr) (h1 : 2 ≤ t.Kind ∧ t.Kind ≤ 9 → t.Words = []) (h9 : t.Kind = 9 → ∀ k ∈ t.Kids, k.Kind = 1) (ih : ∀ k ∈ t.Kids, TX k) : TX t
theorem TX.w {t : Tr} (h : TX t) : 2 ≤ t.Kind ∧ t.Kind ≤ 9 → t.Words = [] := by cases h; assumption

end Go.Proofs.Ytpfbdlcnfekdkaa
