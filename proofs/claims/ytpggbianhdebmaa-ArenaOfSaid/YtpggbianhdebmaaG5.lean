/- Part G5 of the ghost memory: lemmas and contracts used by the proofs of this seat's laws; each theorem bears its own conditions. -/
import Derived.Test.YtpggbianhdebmaaG1
import Derived.Test.YtpggbianhdebmaaG2
import Derived.Test.YtpggbianhdebmaaG3
import Derived.Test.YtpggbianhdebmaaG4
import Derived.WalkKit
import Derived.WalkSpells
import Derived.WalkLawsBesides
import Derived.Lib.Hide
import Derived.BigQuiet
import Derived.StillTailTactics
import Derived.Deep.RegionHeld3
import Derived.Deep.AppendLies
import Derived.Laws.CopyOwn
import Derived.Deep.DeepCutAuto
import Derived.Deep.QuietTactic
import Derived.Maps.AppendAt
import Derived.Great.BuildSlice
import Derived.Laws.StructEq
import Derived.ChangeKeysEq
import Derived.IntWalk
import Derived.Lib.AppendZeros
import Derived.Lib.AppendZerosOnto
import Derived.ProofKit
import Derived.OpenShut
import Derived.SizedLaws
import Derived.Deep.Slices
namespace Go.Proofs.Ytpggbianhdebmaa
open Go.RowKit
set_option linter.unusedVariables false
set_option linter.unusedSimpArgs false
section
variable {P : Program} {T : Tab} {w : World} {O : Objs} {m : Hands} {n : Nat}
def landI (k : IntKind) (x y : Int) : Int := ((BitVec.ofInt k.bits x &&& BitVec.ofInt k.bits y).toNat : Nat)
def lorI (k : IntKind) (x y : Int) : Int := ((BitVec.ofInt k.bits x ||| BitVec.ofInt k.bits y).toNat : Nat)
def lxorI (k : IntKind) (x y : Int) : Int := ((BitVec.ofInt k.bits x ^^^ BitVec.ofInt k.bits y).toNat : Nat)
def lbicI (k : IntKind) (x y : Int) : Int := ((BitVec.ofInt k.bits x &&& ~~~ BitVec.ofInt k.bits y).toNat : Nat)
def tkind (T : Tab) (t : TypeId) : Option TK := (T t).map TyI.k
def gint (op : BinOp) (k : IntKind) (x : Int) (k' : IntKind) (y : Int) : Option (Prop × Value) :=
  match op with
  | .shl => some (0 ≤ y, .int k (k.wrap (x * 2 ^ min y.toNat k.bits)))
  | .shr => some (0 ≤ y, .int k (x.fdiv (2 ^ min y.toNat k.bits)))
  | .add => if k = k' then some (True, .int k (k.wrap (x + y))) else none
  | .sub => if k = k' then some (True, .int k (k.wrap (x - y))) else none
  | .mul => if k = k' then some (True, .int k (k.wrap (x * y))) else none
  | .quo => if k = k' then some (y ≠ 0, .int k (k.wrap (x.tdiv y))) else none
  | .rem => if k = k' then some (y ≠ 0, .int k (x.tmod y)) else none
  | .and => if k = k' then some (True, .int k (k.wrap (landI k x y))) else none
  | .or => if k = k' then some (True, .int k (k.wrap (lorI k x y))) else none
  | .xor => if k = k' then some (True, .int k (k.wrap (lxorI k x y))) else none
  | .andNot => if k = k' then some (True, .int k (k.wrap (lbicI k x y))) else none
  | .eql => if k = k' then some (True, .bool (x == y)) else none
  | .neq => if k = k' then some (True, .bool (x != y)) else none
  | .lss => if k = k' then some (True, .bool (decide (x < y))) else none
  | .leq => if k = k' then some (True, .bool (decide (x ≤ y))) else none
  | .gtr => if k = k' then some (True, .bool (decide (x > y))) else none
  | .geq => if k = k' then some (True, .bool (decide (x ≥ y))) else none
theorem gint_sound {op : BinOp} {k k' : IntKind} {x y : Int} {S : Prop} {v : Value} (h : gint op k x k' y = some (S, v)) (hS : S) (t : TypeId) (a b : Operand) :
    (do eqGuard op t a b (.int k x) (.int k' y); binOp op t (.int k x) (.int k' y) : Sem Value).run P w = .ok v w := by
  have hg : (eqGuard op t a b (.int k x) (.int k' y)).run P w = .ok () w := by cases op <;> simp [eqGuard]
  rw [Sem.run_bind, hg, Result.andThen_ok]
  cases op <;> simp only [gint] at h
  case shl | shr =>
    simp only [Option.some.injEq, Prod.mk.injEq] at h
    obtain ⟨rfl, rfl⟩ := h
    have : ¬ y < 0 := by omega
    simp [Go.binOp, Op.shift, this]
  all_goals
    split at h
    · rename_i hk
      subst hk
      simp only [Option.some.injEq, Prod.mk.injEq] at h
      obtain ⟨rfl, rfl⟩ := h
      simp_all [Go.binOp, Op.intArith, Op.intBits, Op.intDiv, Op.intCmp, landI, lorI, lxorI, lbicI]
    · cases h
/-- cells that are numbers of a kind -/
def intsOf (k : IntKind) : List G → Option (List Int)
  | [] => some []
  | .val (.int k' a) :: r => if k' = k then (intsOf k r).map (a :: ·) else none
  | _ => none
theorem intsOf_reps {k : IntKind} : ∀ (xs : List G) (as : List Int) (vs : List Value), intsOf k xs = some as → G.reps w O m n xs vs → vs = as.map (Value.int k)
  | [], as, vs, h, hr => by
    simp only [intsOf, Option.some.injEq] at h
    subst h
    simpa [G.reps] using hr
  | g :: r, as, vs, h, hr => by
    unfold intsOf at h
    split at h
    · rename_i e; cases e
    · rename_i k' a r' e
      injection e with e1 e2
      subst e1 e2
      split at h
      · rename_i hk
        subst hk
        cases hq : intsOf k' r with
        | none => rw [hq] at h; cases h
        | some bs =>
          rw [hq] at h
          simp only [Option.map_some, Option.some.injEq] at h
          subst h
          simp only [G.reps, G.rep] at hr
          obtain ⟨u, us, rfl, rfl, hr⟩ := hr
          rw [intsOf_reps r bs us hq hr]
          rfl
      · cases h
    · cases h
mutual
def geqS (T : Tab) : Nat → TypeId → List G → List G → Option Bool
  | 0, _, _, _ => none
  | d + 1, t, xs, ys => match T t with
    | none => none
    | some i => match i.k with
      | .int _ => match xs, ys with
        | [.val (.int k a)], [.val (.int k' b)] => if k = k' then some (a == b) else none
        | _, _ => none
      | .bool => match xs, ys with
        | [.val (.bool a)], [.val (.bool b)] => some (a == b)
        | _, _ => none
      | .str => match xs, ys with
        | [.val (.string a)], [.val (.string b)] => some (a.toList == b.toList)
        | _, _ => none
      | .struct fs => if i.eq = true then geqF T d fs xs ys else none
      | .arr len e => match d, T e with
        | _ + 1, some ie => match ie.k with
          | .int k => match intsOf k xs, intsOf k ys with
            | some a, some b => if a.length = len ∧ b.length = len ∧ ie.size = 1 then some (a == b) else none
            | _, _ => none
          | _ => none
        | _, _ => none
      | _ => none
def geqF (T : Tab) : Nat → List (Nat × TypeId) → List G → List G → Option Bool
  | _, [], _, _ => some true
  | 0, _ :: _, _, _ => none
  | d + 1, (o, ft) :: fs, xs, ys => match T ft with
    | none => none
    | some i => match geqS T (d + 1) ft ((xs.drop o).take i.size) ((ys.drop o).take i.size), geqF T (d + 1) fs xs ys with
      | some a, some b => if o + i.size ≤ xs.length ∧ o + i.size ≤ ys.length then some (a && b) else none
      | _, _ => none
end
def valOf (agg : Bool) (vs : List Value) (x : Value) : Prop := if agg then x = .agg vs.toArray else vs = [x]
theorem part_valOf (hT : TabOk P T) {t : TypeId} {i : TyI} (hi : T t = some i) (vs : List Value) (o : Nat) (h : o + i.size ≤ vs.length) (hone : i.k.isAgg = false → ∃ x, (vs.drop o).take i.size = [x]) : ∃ x, (part t vs.toArray o).run P w = .ok x w ∧ valOf i.k.isAgg ((vs.drop o).take i.size) x := by
  have ha := (hT t i hi).isAgg w
  have hs := (hT t i hi).sizeOf w
  unfold valOf
  cases hk : i.k.isAgg with
  | true =>
    rw [hk] at ha
    refine ⟨.agg (vs.toArray.extract o (o + i.size)), by simp [part, ha, hs], ?_⟩
    rw [if_pos rfl]
    congr 1
    apply Array.ext'
    simp [Array.toList_extract, List.extract_eq_take_drop]
  | false =>
    rw [hk] at ha
    obtain ⟨x, hx⟩ := hone hk
    have h0 : ((vs.drop o).take i.size)[0]? = some x := by rw [hx]; rfl
    rw [List.getElem?_take] at h0
    split at h0
    · rw [List.getElem?_drop, Nat.add_zero] at h0
      refine ⟨x, by simp [part, ha, h0], ?_⟩
      rw [if_neg (by simp)]
      exact hx
    · cases h0
theorem eqItems_int (hT : TabOk P T) {e : TypeId} {ie : TyI} {k : IntKind} (he : T e = some ie) (hk : ie.k = .int k) (h1 : ie.size = 1) (d : Nat) (as bs : List Int) : ∀ (c j : Nat), j + c = as.length → j + c = bs.length →
    (Op.eqItems (d + 1) e 1 (as.map (Value.int k)).toArray (bs.map (Value.int k)).toArray (List.range' j c)).run P w = .ok (as.drop j == bs.drop j) w
  | 0, j, ha, hb => by
    simp [Op.eqItems, List.drop_eq_nil_of_le (show as.length ≤ j by omega), List.drop_eq_nil_of_le (show bs.length ≤ j by omega)]
  | c + 1, j, ha, hb => by
    have hu := (hT e ie he).und
    rw [hk] at hu
    simp only [TK.ok] at hu
    have hp : ∀ (cs : List Int), j < cs.length → ∃ y, cs[j]? = some y ∧ (part e (cs.map (Value.int k)).toArray (j * 1)).run P w = .ok (.int k y) w := fun cs hj => by
      have e0 : ((cs.map (Value.int k)).drop j).take 1 = [.int k cs[j]] := by
        rw [List.drop_eq_getElem_cons (by rw [List.length_map]; exact hj), List.getElem_map]; rfl
      obtain ⟨x, q1, q2⟩ := part_valOf (w := w) hT he (cs.map (Value.int k)) j (by rw [h1, List.length_map]; omega) (fun _ => ⟨_, by rw [h1]; exact e0⟩)
      rw [hk, h1] at q2
      simp only [valOf, TK.isAgg, Bool.false_eq_true, if_false] at q2
      rw [e0] at q2
      injection q2 with q2 _
      subst q2
      exact ⟨cs[j], List.getElem?_eq_getElem hj, by rw [Nat.mul_one]; exact q1⟩
    obtain ⟨a, a1, a2⟩ := hp as (by omega)
    obtain ⟨b, b1, b2⟩ := hp bs (by omega)
    have da : as.drop j = a :: as.drop (j + 1) := by
      obtain ⟨hj, h⟩ := List.getElem?_eq_some_iff.1 a1
      rw [List.drop_eq_getElem_cons hj, h]
    have db : bs.drop j = b :: bs.drop (j + 1) := by
      obtain ⟨hj, h⟩ := List.getElem?_eq_some_iff.1 b1
      rw [List.drop_eq_getElem_cons hj, h]
    rw [List.range'_succ, da, db]
    simp only [Op.eqItems, Sem.run_bind, a2, b2, Result.andThen_ok, run_equalIn_int w d e k k a b hu]
    have ih := eqItems_int hT he hk h1 d as bs c (j + 1) (by omega) (by omega)
    cases hab : (a == b) with
    | false => simp [hab]
    | true =>
      simp only [Bool.not_true, Bool.false_eq_true, if_false, ih]
      simp [hab]
theorem geq_sound (hT : TabOk P T) : ∀ (d : Nat), (∀ (D : Nat) (t : TypeId) (xs ys : List G) (b : Bool) (i : TyI) (vs us : List Value) (x y : Value), geqS T d t xs ys = some b → T t = some i → G.reps w O m n xs vs → G.reps w O m n ys us → valOf i.k.isAgg vs x → valOf i.k.isAgg us y →
    (Op.equalIn (D + d) t x y).run P w = .ok b w) ∧
    (∀ (D : Nat) (fs : List Field) (xs ys : List G) (b : Bool) (vs us : List Value), geqF T d (fs.map fun f => (f.offset, f.type)) xs ys = some b → fs.all (fun f => f.name != "_") = true → G.reps w O m n xs vs → G.reps w O m n ys us →
    (Op.eqFields (D + d) vs.toArray us.toArray fs).run P w = .ok b w) := by
  intro d
  induction d with
  | zero =>
    refine ⟨fun D t xs ys b i vs us x y h => by simp [geqS] at h, fun D fs xs ys b vs us h hn hr hs => ?_⟩
    cases fs with
    | nil => simp only [List.map_nil, geqF, Option.some.injEq] at h; subst h; simp [Op.eqFields]
    | cons f fs => simp [geqF] at h
  | succ d ih =>
    have hS : ∀ (D : Nat) (t : TypeId) (xs ys : List G) (b : Bool) (i : TyI) (vs us : List Value) (x y : Value), geqS T (d + 1) t xs ys = some b → T t = some i → G.reps w O m n xs vs → G.reps w O m n ys us → valOf i.k.isAgg vs x → valOf i.k.isAgg us y →
        (Op.equalIn (D + (d + 1)) t x y).run P w = .ok b w := by
      intro D t xs ys b i vs us x y h hi hr hs hx hy
      have hok := hT t i hi
      have hund := hok.und
      unfold geqS at h
      simp only [hi] at h
      split at h
      · rename_i k hk
        rw [hk] at hund hx hy
        simp only [TK.ok] at hund
        split at h
        · split at h
          · rename_i hkk
            subst hkk
            injection h with h
            simp only [G.reps, G.rep] at hr hs
            obtain ⟨_, _, rfl, rfl, rfl⟩ := hr
            obtain ⟨_, _, rfl, rfl, rfl⟩ := hs
            simp only [valOf, TK.isAgg, Bool.false_eq_true, if_false, List.cons.injEq, and_true] at hx hy
            subst hx hy
            rw [← Nat.add_assoc, run_equalIn_int w _ t _ _ _ _ hund, h]
          · cases h
        · cases h
      · rename_i hk
        rw [hk] at hund hx hy
        simp only [TK.ok] at hund
        split at h
        · injection h with h
          simp only [G.reps, G.rep] at hr hs
          obtain ⟨_, _, rfl, rfl, rfl⟩ := hr
          obtain ⟨_, _, rfl, rfl, rfl⟩ := hs
          simp only [valOf, TK.isAgg, Bool.false_eq_true, if_false, List.cons.injEq, and_true] at hx hy
          subst hx hy
          rw [← Nat.add_assoc, run_equalIn_bool' w _ t _ _ hund, h]
        · cases h
      · rename_i hk
        rw [hk] at hund hx hy
        simp only [TK.ok] at hund
        split at h
        · injection h with h
          simp only [G.reps, G.rep] at hr hs
          obtain ⟨_, _, rfl, rfl, rfl⟩ := hr
          obtain ⟨_, _, rfl, rfl, rfl⟩ := hs
          simp only [valOf, TK.isAgg, Bool.false_eq_true, if_false, List.cons.injEq, and_true] at hx hy
          subst hx hy
          rw [← Nat.add_assoc, run_equalIn_string w _ t _ _ hund, h]
        · cases h
      · rename_i fs hk
        rw [hk] at hund hx hy
        split at h
        · rename_i heq
          obtain ⟨fields, hu, hm⟩ := hund
          obtain ⟨c1, c2, c3⟩ := hok.cmp heq
          simp only [valOf, TK.isAgg, if_true] at hx hy
          subst hx hy
          have hf : P.fieldsOf t = fields := by simp [Program.fieldsOf, hu]
          have hu' : P.underlying t = some (.struct (P.fieldsOf t)) := by rw [hf]; exact hu
          rw [← Nat.add_assoc, run_equalIn_struct w _ t _ _ hu' c1]
          rw [hf] at c3 ⊢
          rw [← hm] at h
          exact ih.2 D fields.toList xs ys b vs us h c3 hr hs
        · cases h
      · rename_i len e hk
        rw [hk] at hund hx hy
        simp only [TK.ok] at hund
        split at h
        · rename_i d' ie he
          split at h
          · rename_i k hke
            split at h
            · rename_i a c ha hc
              split at h
              · rename_i hl
                injection h with h
                have e1 := intsOf_reps _ _ _ ha hr
                have e2 := intsOf_reps _ _ _ hc hs
                simp only [valOf, TK.isAgg, if_true] at hx hy
                subst hx hy e1 e2
                obtain ⟨inf, z, g1, g2, _⟩ := (hT e ie he).info
                have hcell : P.cellsOf e = 1 := by
                  have q1 := (hT e ie he).sizeOf w
                  rw [run_sizeOf w g1] at q1
                  injection q1 with q1
                  rw [q1, hl.2.2]
                rw [← Nat.add_assoc, run_equalIn_array w _ _ _ hund g1, hcell, List.range_eq_range']
                have := eqItems_int (w := w) hT he hke hl.2.2 (D + d') a c len 0 (by omega) (by omega)
                rw [List.drop_zero, List.drop_zero, h] at this
                exact this
              · cases h
            · cases h
          · cases h
        · cases h
      · cases h
    refine ⟨hS, fun D fs => ?_⟩
    induction fs with
    | nil => intro xs ys b vs us h _ _ _; simp only [List.map_nil, geqF, Option.some.injEq] at h; subst h; simp [Op.eqFields]
    | cons f fs ihf =>
      intro xs ys b vs us h hn hr hs
      simp only [List.map_cons, geqF] at h
      rw [List.all_cons, Bool.and_eq_true] at hn
      split at h
      · cases h
      · rename_i i hi
        split at h
        · rename_i p q h1 h2
          split at h
          · rename_i hl
            injection h with h
            have hlx := reps_len _ _ hr
            have hly := reps_len _ _ hs
            have hr1 := reps_take i.size _ _ (reps_drop f.offset _ _ hr)
            have hs1 := reps_take i.size _ _ (reps_drop f.offset _ _ hs)
            have hone : ∀ (zs : List G) (ws : List Value), G.reps w O m n zs ws → (∃ g, zs = [g]) → ∃ x, ws = [x] := fun zs ws hz ⟨g, hg⟩ => by
              subst hg
              simp only [G.reps] at hz
              obtain ⟨u, us, rfl, _, rfl⟩ := hz
              exact ⟨u, rfl⟩
            have hsing : i.k.isAgg = false → (∃ g, (xs.drop f.offset).take i.size = [g]) ∧ (∃ g, (ys.drop f.offset).take i.size = [g]) := fun hag => by
              unfold geqS at h1
              simp only [hi] at h1
              split at h1
              · split at h1
                · rename_i e1 e2; exact ⟨⟨_, e1⟩, ⟨_, e2⟩⟩
                · cases h1
              · split at h1
                · rename_i e1 e2; exact ⟨⟨_, e1⟩, ⟨_, e2⟩⟩
                · cases h1
              · split at h1
                · rename_i e1 e2; exact ⟨⟨_, e1⟩, ⟨_, e2⟩⟩
                · cases h1
              · rename_i hk; rw [hk] at hag; simp [TK.isAgg] at hag
              · rename_i hk; rw [hk] at hag; simp [TK.isAgg] at hag
              · cases h1
            obtain ⟨x, hx1, hx2⟩ := part_valOf (w := w) hT hi vs f.offset (by omega) (fun hag => hone _ _ hr1 (hsing hag).1)
            obtain ⟨y, hy1, hy2⟩ := part_valOf (w := w) hT hi us f.offset (by omega) (fun hag => hone _ _ hs1 (hsing hag).2)
            have hname : f.name ≠ "_" := by simpa using hn.1
            simp only [Op.eqFields, hname, ne_eq, not_false_eq_true, if_true, Sem.run_bind, hx1, hy1, Result.andThen_ok, hS D f.type _ _ _ i _ _ x y h1 hi hr1 hs1 hx2 hy2]
            cases p with
            | false => rw [← h]; simp
            | true =>
              rw [← h]
              simp only [Bool.not_true, Bool.false_eq_true, if_false, Bool.true_and]
              exact ihf xs ys q vs us h2 hn.2 hr hs
          · cases h
        · cases h
def gbin (T : Tab) (op : BinOp) (t : TypeId) (x y : G) : Option (Prop × G) :=
  match x, y with
  | .val (.int k a), .val (.int k' b) => (gint op k a k' b).map fun (S, v) => (S, .val v)
  | .val (.bool a), .val (.bool b) => match tkind T t, op with
    | some .bool, .eql => some (True, .val (.bool (a == b)))
    | some .bool, .neq => some (True, .val (.bool (a != b)))
    | _, _ => none
  | .val (.string a), .val (.string b) => match op with
    | .eql => some (True, .val (.bool (a.toList == b.toList)))
    | .neq => some (True, .val (.bool (!(a.toList == b.toList))))
    | _ => none
  | .val (.pointer none), .val (.pointer none) => match tkind T t, op with
    | some (.ptr _), .eql => some (True, .val (.bool true))
    | some (.ptr _), .neq => some (True, .val (.bool false))
    | _, _ => none
  | .ref _ _, .val (.pointer none) => match tkind T t, op with
    | some (.ptr _), .eql => some (True, .val (.bool false))
    | some (.ptr _), .neq => some (True, .val (.bool true))
    | _, _ => none
  | .ip _ _, .val (.pointer none) => match tkind T t, op with
    | some (.ptr _), .eql => some (True, .val (.bool false))
    | some (.ptr _), .neq => some (True, .val (.bool true))
    | _, _ => none
  | .val (.slice a _ _), .val (.slice none _ _) => match tkind T t, op with
    | some (.slice _), .eql => some (True, .val (.bool a.isNone))
    | some (.slice _), .neq => some (True, .val (.bool (!a.isNone)))
    | _, _ => none
  | .agg xs, .agg ys => match T t, geqS T 6 t xs ys with
    | some i, some b => if i.k.isAgg = true ∧ i.eq = true then (match op with
      | .eql => some (True, .val (.bool b))
      | .neq => some (True, .val (.bool (!b)))
      | _ => none) else none
    | _, _ => none
  | _, _ => none
theorem kind_of (hT : TabOk P T) {t : TypeId} {k : TK} (h : tkind T t = some k) : k.ok P t := by
  unfold tkind at h
  cases hi : T t with
  | none => simp [hi] at h
  | some i => simp [hi] at h; subst h; exact (hT t i hi).und
theorem equal_bool {t : TypeId} (hu : P.underlying t = some .bool) (a b : Bool) : (Op.equal t (.bool a) (.bool b)).run P w = .ok (a == b) w := by
  unfold Op.equal
  rw [show Op.maxDepth = 9999 + 1 from rfl, Op.equalIn]
  simp [run_underlying hu]
theorem equal_nil {t e : TypeId} (hu : P.underlying t = some (.pointer e)) (b : Option Addr) : (Op.equal t (.pointer b) (.pointer none)).run P w = .ok b.isNone w := by
  unfold Op.equal
  rw [show Op.maxDepth = 9999 + 1 from rfl, Op.equalIn]
  cases b <;> simp [run_underlying hu]
theorem equal_snil {t e : TypeId} (hu : P.underlying t = some (.slice e)) (a : Option Addr) (n c n' c' : Nat) : (Op.equal t (.slice a n c) (.slice none n' c')).run P w = .ok a.isNone w := by
  unfold Op.equal
  rw [show Op.maxDepth = 9999 + 1 from rfl, Op.equalIn]
  cases a <;> simp [run_underlying hu]
theorem gbin_sound (hT : TabOk P T) {op : BinOp} {t : TypeId} {x y g : G} {S : Prop} {a b : Value} (ha : x.rep w O m n a) (hb : y.rep w O m n b) (hlive : ∀ i off, x = .ref i off → ∃ o, O i = some o ∧ o.row = false) (h : gbin T op t x y = some (S, g)) (hS : S) (p q : Operand) :
    ∃ v, (do eqGuard op t p q a b; binOp op t a b : Sem Value).run P w = .ok v w ∧ g.rep w O m n v := by
  unfold gbin at h
  split at h
  · simp only [G.rep] at ha hb
    subst ha hb
    rename_i k x' k' y'
    cases hq : gint op k x' k' y' with
    | none => simp [hq] at h
    | some r =>
      obtain ⟨S', v⟩ := r
      simp only [hq, Option.map_some, Option.some.injEq, Prod.mk.injEq] at h
      obtain ⟨rfl, rfl⟩ := h
      exact ⟨v, gint_sound hq hS t p q, rfl⟩
  · simp only [G.rep] at ha hb
    subst ha hb
    split at h <;> simp only [Option.some.injEq, Prod.mk.injEq, reduceCtorEq] at h
    all_goals
      rename_i hk
      obtain ⟨rfl, rfl⟩ := h
      have hu : P.underlying t = some .bool := kind_of hT hk
      refine ⟨_, ?_, rfl⟩
      simp [eqGuard, Go.binOp, equal_bool hu, bne]
  · simp only [G.rep] at ha hb
    subst ha hb
    split at h <;> simp only [Option.some.injEq, Prod.mk.injEq, reduceCtorEq] at h
    all_goals
      obtain ⟨rfl, rfl⟩ := h
      refine ⟨_, ?_, rfl⟩
      simp [eqGuard, Go.binOp, Op.stringOp]
  · simp only [G.rep] at ha hb
    subst ha hb
    split at h <;> simp only [Option.some.injEq, Prod.mk.injEq, reduceCtorEq] at h
    all_goals
      rename_i hk
      obtain ⟨rfl, rfl⟩ := h
      have hu := kind_of hT hk
      simp only [TK.ok] at hu
      refine ⟨_, ?_, rfl⟩
      simp [eqGuard, Go.binOp, equal_nil hu]
  · rename_i i off
    obtain ⟨o, ho, hrow⟩ := hlive i off rfl
    simp only [G.rep] at ha hb
    subst hb
    obtain ⟨b, _, rfl⟩ := ha.2.2 o ho hrow
    split at h <;> simp only [Option.some.injEq, Prod.mk.injEq, reduceCtorEq] at h
    all_goals
      rename_i hk
      obtain ⟨rfl, rfl⟩ := h
      have hu := kind_of hT hk
      simp only [TK.ok] at hu
      refine ⟨_, ?_, rfl⟩
      simp [eqGuard, Go.binOp, equal_nil hu]
  · rename_i cs off
    simp only [G.rep] at ha hb
    subst hb
    obtain ⟨b, o', rfl, _⟩ := ha
    split at h <;> simp only [Option.some.injEq, Prod.mk.injEq, reduceCtorEq] at h
    all_goals
      rename_i hk
      obtain ⟨rfl, rfl⟩ := h
      have hu := kind_of hT hk
      simp only [TK.ok] at hu
      refine ⟨_, ?_, rfl⟩
      simp [eqGuard, Go.binOp, equal_nil hu]
  · simp only [G.rep] at ha hb
    subst ha hb
    split at h <;> simp only [Option.some.injEq, Prod.mk.injEq, reduceCtorEq] at h
    all_goals
      rename_i hk
      obtain ⟨rfl, rfl⟩ := h
      have hu := kind_of hT hk
      simp only [TK.ok] at hu
      refine ⟨_, ?_, rfl⟩
      simp [eqGuard, Go.binOp, equal_snil hu]
  · rename_i xs ys
    simp only [G.rep] at ha hb
    obtain ⟨vs, rfl, hr⟩ := ha
    obtain ⟨us, rfl, hs⟩ := hb
    split at h
    · rename_i i b' hi hq
      split at h
      · rename_i hc
        obtain ⟨c1, c2, c3⟩ := (hT t i hi).cmp hc.2
        have key := (geq_sound (w := w) (O := O) (m := m) (n := n) hT 6).1 9994 t xs ys b' i _ _ (.agg vs) (.agg us) hq hi hr hs (by simp [valOf, hc.1]) (by simp [valOf, hc.1])
        have hg := run_eqGuard_agg w op t p q vs us c2
        split at h <;> simp only [Option.some.injEq, Prod.mk.injEq, reduceCtorEq] at h
        · obtain ⟨rfl, rfl⟩ := h
          refine ⟨_, ?_, rfl⟩
          rw [Sem.run_bind, hg, Result.andThen_ok, run_eql_struct, key]
          rfl
        · obtain ⟨rfl, rfl⟩ := h
          refine ⟨_, ?_, rfl⟩
          rw [Sem.run_bind, hg, Result.andThen_ok, run_neq_struct, key]
          rfl
      · cases h
    · cases h
  · cases h
/-- a step within a value or an address -/
def gstepIn (T : Tab) (s : TypeId) (f : Nat) : Option Nat :=
  match tkind T s with
  | some (.struct fs) => match fs[f]? with
    | some (off, ft) => match T ft with
      | some i => if i.size = 0 then none else some off
      | none => none
    | none => none
  | _ => none
def gfieldAddr (T : Tab) (s : TypeId) (x : G) (f : Nat) : Option G :=
  match gstepIn T s f, x with
  | some d, .ref i off => some (.ref i (off + d))
  | some d, .ip cs k => some (.ip cs (k + d))
  | some d, .rp i k off => some (.rp i k (off + d))
  | _, _ => none
theorem addr_add (b o d : Nat) : (⟨b, o, none⟩ : Addr).add d = ⟨b, o + d, none⟩ := by
  unfold Addr.add
  split
  · rename_i h; subst h; rfl
  · rfl
def isLive (O : Objs) : G → Prop
  | .ref i _ => ∃ o, O i = some o ∧ o.row = false
  | .rs i _ _ => ∃ o, O i = some o ∧ o.row = false
  | .rp i k _ => ∃ o, O i = some o ∧ o.row = true ∧ k = o.n
  | .row i k => ∃ o, O i = some o ∧ o.row = true ∧ k = o.n
  | _ => True
/-- a pointer on: so many cells -/
theorem shift_rep {x : G} {v : Value} (hx : x.rep w O m n v) (hl : isLive O x) (d : Nat) :
    (∀ i off, x = .ref i off → ∃ b o, v = .pointer (some ⟨b, o, none⟩) ∧ (G.ref i (off + d)).rep w O m n (.pointer (some ⟨b, o + d, none⟩))) ∧
    (∀ cs k, x = .ip cs k → ∃ b o, v = .pointer (some ⟨b, o, none⟩) ∧ (G.ip cs (k + d)).rep w O m n (.pointer (some ⟨b, o + d, none⟩))) ∧
    (∀ i k off, x = .rp i k off → ∃ b o, v = .pointer (some ⟨b, o, none⟩) ∧ (G.rp i k (off + d)).rep w O m n (.pointer (some ⟨b, o + d, none⟩))) := by
  refine ⟨fun i off e => ?_, fun cs k e => ?_, fun i k off e => ?_⟩
  · subst e
    obtain ⟨o, ho, hr⟩ := hl
    simp only [G.rep] at hx
    obtain ⟨b, e1, rfl⟩ := hx.2.2 o ho hr
    refine ⟨b, off, rfl, ?_⟩
    simp only [G.rep]
    refine ⟨hx.1, rfl, fun o' ho' hr' => ⟨b, e1, rfl⟩⟩
  · subst e
    simp only [G.rep] at hx
    obtain ⟨b, o, rfl, h1, h2, vs, h3, h4⟩ := hx
    refine ⟨b, o + k, rfl, ?_⟩
    simp only [G.rep]
    exact ⟨b, o, by rw [Nat.add_assoc], h1, h2, vs, h3, h4⟩
  · subst e
    obtain ⟨o, ho, hr, hk⟩ := hl
    simp only [G.rep] at hx
    obtain ⟨b, c, e1, rfl⟩ := (hx.2.2 o ho).2 hk hr
    refine ⟨b, off, rfl, ?_⟩
    simp only [G.rep]
    exact ⟨hx.1, rfl, fun o' ho' => ⟨(hx.2.2 o' ho').1, fun _ _ => ⟨b, c, e1, rfl⟩⟩⟩
theorem gfieldAddr_sound (hT : TabOk P T) {s : TypeId} {x g : G} {f : Nat} {v : Value} (hx : x.rep w O m n v) (hl : isLive O x) (h : gfieldAddr T s x f = some g) : ∃ u, (Instr.fieldAt s v f).run P w = .ok u w ∧ g.rep w O m n u := by
  unfold gfieldAddr at h
  cases hd : gstepIn T s f with
  | none => simp [hd] at h
  | some d =>
    have hrun : ∀ b o, (Instr.fieldAt s (.pointer (some ⟨b, o, none⟩)) f).run P w = .ok (.pointer (some ⟨b, o + d, none⟩)) w := fun b o => by
      unfold gstepIn at hd
      split at hd
      · rename_i fs hk
        obtain ⟨fields, hu, hm⟩ := kind_of hT hk
        split at hd
        · rename_i off ft hf
          split at hd
          · rename_i i hi
            split at hd
            · cases hd
            · rename_i hz
              injection hd with hd
              subst hd
              have hf' : ∃ fd, fields[f]? = some fd ∧ fd.offset = off ∧ fd.type = ft := by
                rw [← hm, List.getElem?_map] at hf
                cases hq : fields.toList[f]? with
                | none => simp [hq] at hf
                | some fd => simp [hq] at hf; exact ⟨fd, by simpa using hq, hf.1, hf.2⟩
              obtain ⟨fd, hfd, rfl, rfl⟩ := hf'
              have hs := (hT _ i hi).sizeOf w
              simp [Instr.fieldAt, run_underlying hu, hfd, Instr.sureAddr, fieldPlace, hs, hz, addr_add]
          · cases hd
        · cases hd
      · cases hd
    obtain ⟨s1, s2, s3⟩ := shift_rep hx hl d
    rw [hd] at h
    cases x <;> simp only [reduceCtorEq, Option.some.injEq] at h
    · subst h; obtain ⟨b, o, rfl, hr⟩ := s2 _ _ rfl; exact ⟨_, hrun b o, hr⟩
    · subst h; obtain ⟨b, o, rfl, hr⟩ := s3 _ _ _ rfl; exact ⟨_, hrun b o, hr⟩
    · subst h; obtain ⟨b, o, rfl, hr⟩ := s1 _ _ rfl; exact ⟨_, hrun b o, hr⟩
end

end Go.Proofs.Ytpggbianhdebmaa
