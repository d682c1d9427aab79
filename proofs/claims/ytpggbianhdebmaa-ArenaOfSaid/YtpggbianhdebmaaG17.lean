/- Part G17 of the ghost memory: lemmas and contracts used by the proofs of this seat's laws; each theorem bears its own conditions. -/
import Derived.Test.YtpggbianhdebmaaG16
import Derived.WalkKit
import Derived.WalkSpells
import Derived.WalkLawsBesides
import Derived.Lib.Hide
import Derived.BigQuiet
import Derived.StillTailTactics
import Derived.Deep.RegionHeld3
import Derived.Deep.AppendLies
import Derived.Laws.CopyOwn
import Derived.Deep.DeepCutAuto
import Derived.Deep.QuietTactic
import Derived.Maps.AppendAt
import Derived.Great.BuildSlice
import Derived.Laws.StructEq
import Derived.ChangeKeysEq
import Derived.IntWalk
import Derived.Lib.AppendZeros
import Derived.Lib.AppendZerosOnto
import Derived.ProofKit
import Derived.OpenShut
import Derived.SizedLaws
import Derived.Deep.Slices
namespace Go.Proofs.Ytpggbianhdebmaa
open Go.RowKit
set_option linter.unusedVariables false
set_option linter.unusedSimpArgs false
theorem gend_pure {O : Objs} {n : Nat} {g r : G} (h : g = r) : gend O n g O n (fun g O' n' => g = r ∧ O' = O ∧ n' = n) := .inl ⟨h, rfl, rfl⟩
theorem gend_cut {O O' : Objs} {n n' : Nat} {g r : G} (d : Nat) (hO : ∀ i, n ≤ i → O i = none) (h1 : ∀ i, i < n → O' i = O i) (h : G.frz O' n d g = r) : gend O n g O' n' (fun g O' n' => g = r ∧ O' = O ∧ n' = n) :=
  .inr ⟨d, O, fun i hi => (h1 i hi).symm, hO, fun i o hi ho => .inl (by rw [← h1 i hi]; exact ho), h, rfl, rfl⟩
theorem upd_lt (O : Objs) (n i : Nat) (o : Option GObj) (h : i < n) : O.upd n o i = O i := upd_ne O o (Nat.ne_of_lt h)
theorem upd_lt1 (O : Objs) (n k i : Nat) (o : Option GObj) (h : i < n) : O.upd (n + k) o i = O i := upd_ne O o (by omega)
theorem i64w {x : Int} (h : -9223372036854775808 ≤ x ∧ x ≤ 9223372036854775807) : IntKind.i64.wrap x = x := IntWalk.i64_in _ (by omega)
theorem upd_add (O : Objs) (n k : Nat) (o : Option GObj) (h : 0 < k) : O.upd (n + k) o n = O n := upd_ne O o (by omega)
theorem upd_add2 (O : Objs) (n k j : Nat) (o : Option GObj) (h : j ≠ k) : O.upd (n + k) o (n + j) = O (n + j) := upd_ne O o (by omega)
theorem upd_add3 (O : Objs) (n k : Nat) (o : Option GObj) (h : 0 < k) : O.upd n o (n + k) = O (n + k) := upd_ne O o (by omega)
theorem upd_upd (O : Objs) (i : Nat) (a b : Option GObj) : (O.upd i a).upd i b = O.upd i b := by funext j; unfold Objs.upd; split <;> rfl

theorem GPure.then {P : Program} {f : FuncId} {gs : List G} {O : Objs} {n : Nat} {r : G} {K : G → Objs → Nat → Prop} (h : GPure P f gs O n r) (hk : K r O n) : GCalls P f gs O n K :=
  GCalls.mono h fun g O' n' ⟨a, b, c⟩ => by subst a b c; exact hk
theorem PCall.of {P : Program} {f : FuncId} {gs : List G} {O : Objs} {n : Nat} {r : G} {K : G → Prop} (h : GPure P f gs O n r) (hk : K r) : PCall P f gs O n K := ⟨r, h, hk⟩
theorem val_i64 {a b : Int} (h : a = b) : G.val (.int .i64 a) = G.val (.int .i64 b) := by rw [h]
theorem val_u64 {a b : Int} (h : a = b) : G.val (.int .u64 a) = G.val (.int .u64 b) := by rw [h]

theorem bv_nat (k : IntKind) (x : Nat) (h : x < 2 ^ k.bits) : (BitVec.ofInt k.bits (x : Int)).toNat = x := by
  rw [BitVec.toNat_ofInt]
  have : ((x : Int) % ((2 ^ k.bits : Nat) : Int)) = (x : Int) := Int.emod_eq_of_lt (by omega) (by omega)
  rw [this, Int.toNat_natCast]
theorem land_nat (k : IntKind) (x y : Nat) (hx : x < 2 ^ k.bits) (hy : y < 2 ^ k.bits) : landI k x y = ((x &&& y : Nat) : Int) := by
  unfold landI; rw [BitVec.toNat_and, bv_nat k x hx, bv_nat k y hy]
theorem lor_nat (k : IntKind) (x y : Nat) (hx : x < 2 ^ k.bits) (hy : y < 2 ^ k.bits) : lorI k x y = ((x ||| y : Nat) : Int) := by
  unfold lorI; rw [BitVec.toNat_or, bv_nat k x hx, bv_nat k y hy]
theorem lxor_nat (k : IntKind) (x y : Nat) (hx : x < 2 ^ k.bits) (hy : y < 2 ^ k.bits) : lxorI k x y = ((x ^^^ y : Nat) : Int) := by
  unfold lxorI; rw [BitVec.toNat_xor, bv_nat k x hx, bv_nat k y hy]
theorem land64 (x y : Nat) (hx : x < 18446744073709551616) (hy : y < 18446744073709551616) : landI .u64 x y = ((x &&& y : Nat) : Int) := land_nat .u64 x y (by simpa [IntKind.bits] using hx) (by simpa [IntKind.bits] using hy)
theorem lor64 (x y : Nat) (hx : x < 18446744073709551616) (hy : y < 18446744073709551616) : lorI .u64 x y = ((x ||| y : Nat) : Int) := lor_nat .u64 x y (by simpa [IntKind.bits] using hx) (by simpa [IntKind.bits] using hy)
theorem lxor64 (x y : Nat) (hx : x < 18446744073709551616) (hy : y < 18446744073709551616) : lxorI .u64 x y = ((x ^^^ y : Nat) : Int) := lxor_nat .u64 x y (by simpa [IntKind.bits] using hx) (by simpa [IntKind.bits] using hy)
theorem gloop.by {body : GQ → GK} {Q : GQ} {E : Env} {O : Objs} {n : Nat} (I : Nat → GK) (start : ∃ k E0, I k E0 O n ∧ leG E0 E) (round : ∀ k E O n, I k E O n → body (gthen (again I k) Q) E O n) : gloop body Q E O n := ⟨I, start, round⟩
theorem u64w {x : Int} (h : 0 ≤ x ∧ x ≤ 18446744073709551615) : IntKind.u64.wrap x = x := IntWalk.u64_in _ h
/-- a law: called with what the ghost values tell, it returns true, and what lay there stays -/
theorem law_of {P : Program} {f : FuncId} {gs : List G} (h : GPure P f gs noObjs 0 (.val (.bool true))) {w : World} {vs : List Value} (hr : G.reps w noObjs (fun _ => undef) 0 gs vs) :
    Calls P f vs.toArray w fun e w' => e = .returned (.bool true) ∧ Below w.heap.size w w' := by
  have hM : Mem w noObjs (fun _ => undef) 0 := ⟨fun _ _ => rfl, fun i o hi => by simp [noObjs] at hi, fun i j oi oj b hi => by simp [noObjs] at hi⟩
  refine (h.2 w (fun _ => undef) vs hM hr).mono fun e w' ⟨v, g, O', n', m', h1, h2, h3, h4, h5, h6, h7⟩ => ?_
  subst h5
  simp only [G.rep] at h4
  subst h4
  exact ⟨h1, h3.os, h3.tape, h3.output, h3.size, fun k hk => (h3.keep k hk (fun ⟨i, o, hi, _⟩ => by simp [noObjs] at hi)).1⟩
theorem gfork.by {P : Program} {T : Tab} {ops : List Oper} {b : Bool} {op : Op} {l : List Oper} {E : Env} {d : Option Tmp} {O : Objs} {n : Nat} {K : Env → Objs → Nat → Prop} (h1 : b = true → gop P T E O n op (onK P T ops l E d K)) (h2 : b = false → onK P T ops l E d K (.val undef) O n) : gfork P T ops b op l E d O n K := ⟨h1, h2⟩
theorem pfork.by {P : Program} {T : Tab} {ops : List Oper} {O : Objs} {n : Nat} {b : Bool} {op : Op} {l : List Oper} {E : Env} {d : Option Tmp} {K : Env → Prop} (h1 : b = true → pop P T E O n op (onP P T ops O n l E d K)) (h2 : b = false → onP P T ops O n l E d K (.val undef)) : pfork P T ops O n b op l E d K := ⟨h1, h2⟩
theorem u0_1 (O : Objs) (n : Nat) (o : Option GObj) : O.upd n o (n + 1) = O (n + 1) := upd_ne O o (by omega)
theorem u0_2 (O : Objs) (n : Nat) (o : Option GObj) : O.upd n o (n + 2) = O (n + 2) := upd_ne O o (by omega)
theorem u0_3 (O : Objs) (n : Nat) (o : Option GObj) : O.upd n o (n + 3) = O (n + 3) := upd_ne O o (by omega)
theorem u0_4 (O : Objs) (n : Nat) (o : Option GObj) : O.upd n o (n + 4) = O (n + 4) := upd_ne O o (by omega)
theorem u0_5 (O : Objs) (n : Nat) (o : Option GObj) : O.upd n o (n + 5) = O (n + 5) := upd_ne O o (by omega)
theorem u0_6 (O : Objs) (n : Nat) (o : Option GObj) : O.upd n o (n + 6) = O (n + 6) := upd_ne O o (by omega)
theorem u1_0 (O : Objs) (n : Nat) (o : Option GObj) : O.upd (n + 1) o n = O n := upd_ne O o (by omega)
theorem u1_2 (O : Objs) (n : Nat) (o : Option GObj) : O.upd (n + 1) o (n + 2) = O (n + 2) := upd_ne O o (by omega)
theorem u1_3 (O : Objs) (n : Nat) (o : Option GObj) : O.upd (n + 1) o (n + 3) = O (n + 3) := upd_ne O o (by omega)
theorem u1_4 (O : Objs) (n : Nat) (o : Option GObj) : O.upd (n + 1) o (n + 4) = O (n + 4) := upd_ne O o (by omega)
theorem u1_5 (O : Objs) (n : Nat) (o : Option GObj) : O.upd (n + 1) o (n + 5) = O (n + 5) := upd_ne O o (by omega)
theorem u1_6 (O : Objs) (n : Nat) (o : Option GObj) : O.upd (n + 1) o (n + 6) = O (n + 6) := upd_ne O o (by omega)
theorem u2_0 (O : Objs) (n : Nat) (o : Option GObj) : O.upd (n + 2) o n = O n := upd_ne O o (by omega)
theorem u2_1 (O : Objs) (n : Nat) (o : Option GObj) : O.upd (n + 2) o (n + 1) = O (n + 1) := upd_ne O o (by omega)
theorem u2_3 (O : Objs) (n : Nat) (o : Option GObj) : O.upd (n + 2) o (n + 3) = O (n + 3) := upd_ne O o (by omega)
theorem u2_4 (O : Objs) (n : Nat) (o : Option GObj) : O.upd (n + 2) o (n + 4) = O (n + 4) := upd_ne O o (by omega)
theorem u2_5 (O : Objs) (n : Nat) (o : Option GObj) : O.upd (n + 2) o (n + 5) = O (n + 5) := upd_ne O o (by omega)
theorem u2_6 (O : Objs) (n : Nat) (o : Option GObj) : O.upd (n + 2) o (n + 6) = O (n + 6) := upd_ne O o (by omega)
theorem u3_0 (O : Objs) (n : Nat) (o : Option GObj) : O.upd (n + 3) o n = O n := upd_ne O o (by omega)
theorem u3_1 (O : Objs) (n : Nat) (o : Option GObj) : O.upd (n + 3) o (n + 1) = O (n + 1) := upd_ne O o (by omega)
theorem u3_2 (O : Objs) (n : Nat) (o : Option GObj) : O.upd (n + 3) o (n + 2) = O (n + 2) := upd_ne O o (by omega)
theorem u3_4 (O : Objs) (n : Nat) (o : Option GObj) : O.upd (n + 3) o (n + 4) = O (n + 4) := upd_ne O o (by omega)
theorem u3_5 (O : Objs) (n : Nat) (o : Option GObj) : O.upd (n + 3) o (n + 5) = O (n + 5) := upd_ne O o (by omega)
theorem u3_6 (O : Objs) (n : Nat) (o : Option GObj) : O.upd (n + 3) o (n + 6) = O (n + 6) := upd_ne O o (by omega)
theorem u4_0 (O : Objs) (n : Nat) (o : Option GObj) : O.upd (n + 4) o n = O n := upd_ne O o (by omega)
theorem u4_1 (O : Objs) (n : Nat) (o : Option GObj) : O.upd (n + 4) o (n + 1) = O (n + 1) := upd_ne O o (by omega)
theorem u4_2 (O : Objs) (n : Nat) (o : Option GObj) : O.upd (n + 4) o (n + 2) = O (n + 2) := upd_ne O o (by omega)
theorem u4_3 (O : Objs) (n : Nat) (o : Option GObj) : O.upd (n + 4) o (n + 3) = O (n + 3) := upd_ne O o (by omega)
theorem u4_5 (O : Objs) (n : Nat) (o : Option GObj) : O.upd (n + 4) o (n + 5) = O (n + 5) := upd_ne O o (by omega)
theorem u4_6 (O : Objs) (n : Nat) (o : Option GObj) : O.upd (n + 4) o (n + 6) = O (n + 6) := upd_ne O o (by omega)
theorem u5_0 (O : Objs) (n : Nat) (o : Option GObj) : O.upd (n + 5) o n = O n := upd_ne O o (by omega)
theorem u5_1 (O : Objs) (n : Nat) (o : Option GObj) : O.upd (n + 5) o (n + 1) = O (n + 1) := upd_ne O o (by omega)
theorem u5_2 (O : Objs) (n : Nat) (o : Option GObj) : O.upd (n + 5) o (n + 2) = O (n + 2) := upd_ne O o (by omega)
theorem u5_3 (O : Objs) (n : Nat) (o : Option GObj) : O.upd (n + 5) o (n + 3) = O (n + 3) := upd_ne O o (by omega)
theorem u5_4 (O : Objs) (n : Nat) (o : Option GObj) : O.upd (n + 5) o (n + 4) = O (n + 4) := upd_ne O o (by omega)
theorem u5_6 (O : Objs) (n : Nat) (o : Option GObj) : O.upd (n + 5) o (n + 6) = O (n + 6) := upd_ne O o (by omega)
theorem u6_0 (O : Objs) (n : Nat) (o : Option GObj) : O.upd (n + 6) o n = O n := upd_ne O o (by omega)
theorem u6_1 (O : Objs) (n : Nat) (o : Option GObj) : O.upd (n + 6) o (n + 1) = O (n + 1) := upd_ne O o (by omega)
theorem u6_2 (O : Objs) (n : Nat) (o : Option GObj) : O.upd (n + 6) o (n + 2) = O (n + 2) := upd_ne O o (by omega)
theorem u6_3 (O : Objs) (n : Nat) (o : Option GObj) : O.upd (n + 6) o (n + 3) = O (n + 3) := upd_ne O o (by omega)
theorem u6_4 (O : Objs) (n : Nat) (o : Option GObj) : O.upd (n + 6) o (n + 4) = O (n + 4) := upd_ne O o (by omega)
theorem u6_5 (O : Objs) (n : Nat) (o : Option GObj) : O.upd (n + 6) o (n + 5) = O (n + 5) := upd_ne O o (by omega)
theorem beqT (b : Bool) : (b == true) = b := by cases b <;> rfl
theorem beqF (b : Bool) : (b == false) = !b := by cases b <;> rfl

end Go.Proofs.Ytpggbianhdebmaa
