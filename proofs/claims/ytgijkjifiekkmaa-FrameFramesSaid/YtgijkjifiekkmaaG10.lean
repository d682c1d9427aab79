/- Part G10 of the ghost memory: lemmas and contracts used by the proofs of this seat's laws; each theorem bears its own conditions. -/
import Derived.Test.YtgijkjifiekkmaaG1
import Derived.Test.YtgijkjifiekkmaaG2
import Derived.Test.YtgijkjifiekkmaaG3
import Derived.Test.YtgijkjifiekkmaaG4
import Derived.Test.YtgijkjifiekkmaaG5
import Derived.Test.YtgijkjifiekkmaaG6
import Derived.Test.YtgijkjifiekkmaaG7
import Derived.Test.YtgijkjifiekkmaaG8
import Derived.Test.YtgijkjifiekkmaaG9
import Derived.WalkKit
import Derived.WalkSpells
import Derived.WalkLawsBesides
import Derived.Lib.Hide
import Derived.BigQuiet
import Derived.StillTailTactics
import Derived.Deep.RegionHeld3
import Derived.Deep.AppendLies
import Derived.Laws.CopyOwn
import Derived.Deep.DeepCutAuto
import Derived.Deep.QuietTactic
import Derived.Maps.AppendAt
import Derived.Great.BuildSlice
import Derived.Laws.StructEq
import Derived.IntWalk
import Derived.ProofKit
import Derived.OpenShut
import Derived.SizedLaws
import Derived.Deep.Slices
namespace Go.Proofs.Ytgijkjifiekkmaa
open Go.RowKit
set_option linter.unusedVariables false
set_option linter.unusedSimpArgs false
section
variable {P : Program} {T : Y6} {w : World} {O : Objs} {m : Hands} {n : Nat}
abbrev KI := IntKind × Int
def KI.v (p : KI) : Value := .int p.1 p.2
def Zfz : Option G → Option (Option KI)
 | none => some none
 | some (.val (.int k i)) => some (some (k, i))
 | _ => none
def Jz (lo : Option KI) : Int := match lo with | some p => p.2 | none => 0
def Gf (hi : Option KI) (len : Nat) : Int := match hi with | some p => p.2 | none => len
def Vt (mx : Option KI) (cap : Nat) : Int := match mx with | some p => p.2 | none => cap
theorem Up (isSlice : Bool) (len cap : Nat) (lo hi mx : Option KI) (h0 : 0 ≤ Jz lo) (h1 : Jz lo ≤ Gf hi len) (h2 : Gf hi len ≤ Vt mx cap) (h3 : Vt mx cap ≤ cap) (h4 : mx.isSome = true → hi.isSome = true) :
  (Instr.sliceBounds isSlice len cap (lo.map KI.v) (hi.map KI.v) (mx.map KI.v)).run P w = .ok ((Jz lo).toNat, (Gf hi len).toNat, (Vt mx cap).toNat) w := by
 have sb : ∀ (k : IntKind) (i : Int) (y : Nat) (c : BoundsCode), 0 ≤ i → i ≤ y → (Instr.sliceBound (.int k i) y c).run P w = .ok i.toNat w := fun k i y c ha hb => by
  simp [Instr.sliceBound, asIntOf, ha, hb]
 have c0 : ((Gf hi len).toNat : Int) = Gf hi len := Int.toNat_of_nonneg (by omega)
 have c1 : ((Vt mx cap).toNat : Int) = Vt mx cap := Int.toNat_of_nonneg (by omega)
 cases lo <;> cases hi <;> cases mx <;> simp only [Option.isSome, Bool.false_eq_true, reduceCtorEq, imp_false, not_true_eq_false, forall_const] at h4 <;>
  simp only [Jz, Gf, Vt, Int.toNat_natCast] at h0 h1 h2 h3 c0 c1 ⊢ <;>
  simp only [Instr.sliceBounds, Option.map_none, Option.map_some, KI.v, Option.isSome, Sem.run_bind, Sem.run_pure, Result.andThen_ok] <;>
  (try rw [sb _ _ _ _ (by omega) (by omega)]) <;> (try simp only [Result.andThen_ok]) <;> (try rw [sb _ _ _ _ (by omega) (by omega)]) <;> (try simp only [Result.andThen_ok]) <;> (try rw [sb _ _ _ _ (by omega) (by omega)]) <;> (try simp only [Result.andThen_ok]) <;> first | rfl | simp
theorem Zo1 (l h q : Int) (k : Nat) (h0 : 0 ≤ l) (h1 : l ≤ h) (h2 : h ≤ q) (h3 : q ≤ k) (hne : (h - l).toNat ≠ 0) : k ≠ 0 := by omega
theorem Zo2 (l h q : Int) (h0 : 0 ≤ l) (h1 : l ≤ h) (h2 : h ≤ q) (hne : (h - l).toNat ≠ 0) : ¬ q.toNat = l.toNat := by omega
def Kx (T : Y6) (t : TypeId) (x : G) (lo hi mx : Option KI) : Option (Prop × G) :=
 match Zn T t, x with
 | some (.slice e), .sl k cs => match T e with
  | some ie => if mx.isSome = true ∧ hi.isSome = false then none else
   some (0 ≤ Jz lo ∧ Jz lo ≤ Gf hi k ∧ Gf hi k ≤ Vt mx k ∧ Vt mx k ≤ k, .sl (Gf hi k - Jz lo).toNat ((cs.drop ((Jz lo).toNat * ie.size)).take ((Gf hi k - Jz lo).toNat * ie.size)))
  | none => none
 | some (.arr len e), .ref i off => match T e with
  | some ie => if mx.isSome = true ∧ hi.isSome = false then none else
   some (0 ≤ Jz lo ∧ Jz lo ≤ Gf hi len ∧ Gf hi len ≤ Vt mx len ∧ Vt mx len ≤ len, .rs i (if Vt mx len = Jz lo then off else off + (Jz lo).toNat * ie.size) (Gf hi len - Jz lo).toNat)
  | none => none
 | some .str, .val (.string s) => if mx.isSome then none else
   some (0 ≤ Jz lo ∧ Jz lo ≤ Gf hi s.size ∧ Gf hi s.size ≤ s.size, .val (.string (s.extract (Jz lo).toNat (Gf hi s.size).toNat)))
 | _, _ => none
theorem Zer (hT : Yd P T) {t : TypeId} {x g : G} {lo hi mx : Option KI} {S : Prop} {v : Value} (hx : x.rep w O m n v) (hl : Y7 O x) (h : Kx T t x lo hi mx = some (S, g)) (hS : S) :
  ∃ u, (Instr.sliceAt t v (lo.map KI.v) (hi.map KI.v) (mx.map KI.v)).run P w = .ok u w ∧ g.rep w O m n u := by
 unfold Kx at h
 split at h
 ·rename_i e k cs hk
  have hu := Yc hT hk
  simp only [TK.ok] at hu
  split at h
  ·rename_i ie hie
   split at h
   ·cases h
   rename_i hmx
   simp only [Option.some.injEq, Prod.mk.injEq] at h
   obtain ⟨rfl, rfl⟩ := h
   simp only [G.rep] at hx
   obtain ⟨A, c, rfl, hkc, vs, hr, ha⟩ := hx
   have hs := Kq hT hie w
   have h4 : mx.isSome = true → hi.isSome = true := fun q => by cases hh : hi.isSome <;> simp_all
   have hmm : Gf hi k ≤ Vt mx c ∧ Vt mx c ≤ c := by
    cases mx with
    | none => simp only [Vt] at hS ⊢; exact ⟨by omega, by omega⟩
    | some p => simp only [Vt] at hS ⊢; exact ⟨by omega, by omega⟩
   have hb := Up (P := P) (w := w) true k c lo hi mx hS.1 hS.2.1 hmm.1 hmm.2 h4
   refine ⟨.slice (if (Vt mx c).toNat = (Jz lo).toNat then A else Option.map (fun x => x.add ((Jz lo).toNat * ie.size)) A) ((Gf hi k).toNat - (Jz lo).toNat) ((Vt mx c).toNat - (Jz lo).toNat), by simp only [Instr.sliceAt, Instr.slice, Sem.run_bind, run_underlying hu, Result.andThen_ok, hb, hs, Sem.run_pure], ?_⟩
   simp only [G.rep]
   refine ⟨(if (Vt mx c).toNat = (Jz lo).toNat then A else Option.map (fun x => x.add ((Jz lo).toNat * ie.size)) A), (Vt mx c).toNat - (Jz lo).toNat, ?_, ?_, (vs.drop ((Jz lo).toNat * ie.size)).take ((Gf hi k - Jz lo).toNat * ie.size), Xj _ _ _ (Xs _ _ _ hr), fun hne => ?_⟩
   ·congr 1
    omega
   ·omega
   have hk0 : k ≠ 0 := Zo1 _ _ _ k hS.1 hS.2.1 hS.2.2.1 hS.2.2.2 hne
   obtain ⟨b, off, rfl, h1, h2, h3⟩ := ha hk0
   clear hb
   have hne2 : ¬ (Vt mx c).toNat = (Jz lo).toNat := Zo2 _ _ _ hS.1 hS.2.1 hmm.1 hne
   refine ⟨b, off + (Jz lo).toNat * ie.size, ?_, h1, h2, fun j u hu => ?_⟩
   ·rw [if_neg hne2]
    simp [Q8]
   rw [List.getElem?_take] at hu
   split at hu
   ·rw [List.getElem?_drop] at hu
    rw [Nat.add_assoc]
    exact h3 _ _ hu
   cases hu
  cases h
 ·rename_i len e i off hk
  have hu := Yc hT hk
  simp only [TK.ok] at hu
  split at h
  ·rename_i ie hie
   split at h
   ·cases h
   rename_i hmx
   simp only [Option.some.injEq, Prod.mk.injEq] at h
   obtain ⟨rfl, rfl⟩ := h
   obtain ⟨o, ho, hrow⟩ := hl
   simp only [G.rep] at hx
   obtain ⟨b, e1, rfl⟩ := hx.2.2 o ho hrow
   have hs := Kq hT hie w
   have h4 : mx.isSome = true → hi.isSome = true := fun q => by cases hh : hi.isSome <;> simp_all
   have hb := Up (P := P) (w := w) false len len lo hi mx hS.1 hS.2.1 hS.2.2.1 hS.2.2.2 h4
   refine ⟨.slice (some (if (Vt mx len).toNat = (Jz lo).toNat then ⟨b, off, none⟩ else (⟨b, off, none⟩ : Addr).add ((Jz lo).toNat * ie.size))) ((Gf hi len).toNat - (Jz lo).toNat) ((Vt mx len).toNat - (Jz lo).toNat), by simp only [Instr.sliceAt, Sem.run_bind, run_underlying hu, Instr.sureAddr, Result.andThen_ok, hb, hs, Sem.run_pure], ?_⟩
   simp only [G.rep]
   refine ⟨hx.1, rfl, fun o' ho' _ => ⟨b, (Vt mx len).toNat - (Jz lo).toNat, e1, ?_, by omega⟩⟩
   by_cases hq : Vt mx len = Jz lo
   ·rw [if_pos (by omega), if_pos hq]
    congr 1
    omega
   rw [if_neg (by omega), if_neg hq, Q8]
   congr 1
   omega
  cases h
 ·rename_i s hk
  have hu := Yc hT hk
  simp only [TK.ok] at hu
  split at h
  ·cases h
  rename_i hmx
  simp only [Option.some.injEq, Prod.mk.injEq] at h
  obtain ⟨rfl, rfl⟩ := h
  simp only [G.rep] at hx
  subst hx
  have hmn : mx = none := by cases mx <;> simp_all
  subst hmn
  have hb := Up (P := P) (w := w) false s.size s.size lo hi none hS.1 hS.2.1 hS.2.2 (by simp [Vt]) (fun h => by cases h)
  refine ⟨_, ?_, rfl⟩
  simp only [Option.map_none] at hb
  simp [Instr.sliceAt, Instr.slice, run_underlying hu, hb]
 cases h
def Js (x : G) (k : Nat) : Option G :=
 match x with
 | .tup vs => vs[k]?
 | _ => none
theorem Zbk {x g : G} {k : Nat} {v : Value} (hx : x.rep w O m n v) (h : Js x k = some g) : ∃ u, (Instr.extract v k).run P w = .ok u w ∧ g.rep w O m n u := by
 unfold Js at h
 split at h
 ·simp only [G.rep] at hx
  obtain ⟨vs, rfl, hr⟩ := hx
  obtain ⟨u, h1, h2⟩ := Za6 _ _ hr _ _ h
  have h1' : vs[k]? = some u := by simpa using h1
  exact ⟨u, by simp [Instr.extract, h1'], h2⟩
 cases h
end
end Go.Proofs.Ytgijkjifiekkmaa
