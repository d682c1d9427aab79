/- Part G3 of the ghost memory: lemmas and contracts used by the proofs of this seat's laws; each theorem bears its own conditions. -/
import Derived.Test.YtpggbianhdebmaaG1
import Derived.Test.YtpggbianhdebmaaG2
import Derived.WalkKit
import Derived.WalkSpells
import Derived.WalkLawsBesides
import Derived.Lib.Hide
import Derived.BigQuiet
import Derived.StillTailTactics
import Derived.Deep.RegionHeld3
import Derived.Deep.AppendLies
import Derived.Laws.CopyOwn
import Derived.Deep.DeepCutAuto
import Derived.Deep.QuietTactic
import Derived.Maps.AppendAt
import Derived.Great.BuildSlice
import Derived.Laws.StructEq
import Derived.ChangeKeysEq
import Derived.IntWalk
import Derived.Lib.AppendZeros
import Derived.Lib.AppendZerosOnto
import Derived.ProofKit
import Derived.OpenShut
import Derived.SizedLaws
import Derived.Deep.Slices
namespace Go.Proofs.Ytpggbianhdebmaa
open Go.RowKit
set_option linter.unusedVariables false
set_option linter.unusedSimpArgs false
inductive TK where
  | int (k : IntKind)
  | bool
  | str
  | slice (e : TypeId)
  | ptr (e : TypeId)
  | struct (fs : List (Nat × TypeId))
  | arr (len : Nat) (e : TypeId)
def TK.isAgg : TK → Bool
  | .struct _ | .arr _ _ => true
  | _ => false
structure TyI where
  k : TK
  size : Nat
  bytes : Nat
  zero : List Value
  eq : Bool := false
/-- a struct type that '==' takes field by field -/
def EqTy (P : Program) (t : TypeId) : Prop := P.stoodInHeld t = false ∧ P.eqGuardType P.depth t = false ∧ (P.fieldsOf t).toList.all (fun f => f.name != "_") = true
def TK.ok (P : Program) (t : TypeId) : TK → Prop
  | .int k => P.underlying t = some (.int k)
  | .bool => P.underlying t = some .bool
  | .str => P.underlying t = some .string
  | .slice e => P.underlying t = some (.slice e)
  | .ptr e => P.underlying t = some (.pointer e)
  | .struct fs => ∃ fields : Array Field, P.underlying t = some (.struct fields) ∧ fields.toList.map (fun f => (f.offset, f.type)) = fs
  | .arr n e => P.underlying t = some (.array n e)
structure TyOk (P : Program) (t : TypeId) (i : TyI) : Prop where
  info : ∃ inf z, P.info? t = some inf ∧ inf.size = i.size ∧ inf.bytes = i.bytes ∧ inf.zero = some z ∧ z.cells.toList = i.zero
  und : i.k.ok P t
  len : i.zero.length = i.size
  one : ∀ v ∈ i.zero, v.oneCell' = true
  cmp : i.eq = true → EqTy P t
abbrev Tab := TypeId → Option TyI
def TabOk (P : Program) (T : Tab) : Prop := ∀ t i, T t = some i → TyOk P t i
theorem TyOk.isAgg {P : Program} {t : TypeId} {i : TyI} (h : TyOk P t i) (w : World) : (isAgg t).run P w = .ok i.k.isAgg w := by
  have hu := h.und
  obtain ⟨k, _, _, _, _⟩ := i
  cases k <;> simp only [TK.ok] at hu <;> first
    | (simp [Go.isAgg, run_underlying hu, TK.isAgg]; done)
    | (obtain ⟨f, hu, _⟩ := hu; simp [Go.isAgg, run_underlying hu, TK.isAgg])
theorem TyOk.sizeOf {P : Program} {t : TypeId} {i : TyI} (h : TyOk P t i) (w : World) : (sizeOf t).run P w = .ok i.size w := by
  obtain ⟨inf, z, h1, h2, _⟩ := h.info
  simp [Go.sizeOf, typeInfo, h1, h2]
def gpart (T : Tab) (t : TypeId) (cs : List G) (off : Nat) : Option G :=
  match T t with
  | none => none
  | some i => if i.k.isAgg then (if off + i.size ≤ cs.length then some (.agg ((cs.drop off).take i.size)) else none) else cs[off]?
section
variable {P : Program} {T : Tab} {w : World} {O : Objs} {m : Hands} {n : Nat}
theorem gpart_sound (hT : TabOk P T) {t : TypeId} {cs : List G} {vs : List Value} {off : Nat} {g : G} (hr : G.reps w O m n cs vs) (h : gpart T t cs off = some g) : ∃ v, (part t vs.toArray off).run P w = .ok v w ∧ g.rep w O m n v := by
  unfold gpart at h
  cases hi : T t with
  | none => simp [hi] at h
  | some i =>
    simp only [hi] at h
    have ha := (hT t i hi).isAgg w
    have hs := (hT t i hi).sizeOf w
    by_cases hk : i.k.isAgg = true
    · rw [if_pos hk] at h
      split at h
      · rename_i hl
        injection h with h
        subst h
        rw [hk] at ha
        refine ⟨.agg (vs.toArray.extract off (off + i.size)), by simp [part, ha, hs], ?_⟩
        simp only [G.rep]
        refine ⟨_, rfl, ?_⟩
        have := reps_take i.size _ _ (reps_drop off _ _ hr)
        simpa [Array.toList_extract, List.extract_eq_take_drop] using this
      · cases h
    · rw [if_neg hk] at h
      obtain ⟨v, hv, hg⟩ := reps_at _ _ hr _ _ h
      have hk' : i.k.isAgg = false := by simpa using hk
      rw [hk'] at ha
      exact ⟨v, by simp [part, ha, hv], hg⟩
def gcells (O : Objs) : G → Option (List G × Nat)
  | .ip cs k => some (cs, k)
  | .ref i off => match O i with
    | some o => if o.row then none else some (o.cells, off)
    | none => none
  | .rp i k off => match O i with
    | some o => if o.row = true ∧ k = o.n then some (o.cells, off) else none
    | none => none
  | _ => none
theorem gcells_sound (hM : Mem w O m n) {g : G} {v : Value} (hg : g.rep w O m n v) {cs : List G} {off : Nat} (h : gcells O g = some (cs, off)) :
    ∃ b o vs, v = .pointer (some ⟨b, o + off, none⟩) ∧ G.reps w O m n cs vs ∧ ∀ j u, vs[j]? = some u → w.cell? ⟨b, o + j, none⟩ = some u := by
  cases g with
  | ip cs' k =>
    simp only [gcells, Option.some.injEq, Prod.mk.injEq] at h
    obtain ⟨rfl, rfl⟩ := h
    simp only [G.rep] at hg
    obtain ⟨b, o, rfl, _, _, vs, hr, hc⟩ := hg
    exact ⟨b, o, vs, rfl, hr, hc⟩
  | ref i off' =>
    simp only [gcells] at h
    cases hi : O i with
    | none => simp [hi] at h
    | some o =>
      simp only [hi] at h
      by_cases hrow : o.row = true
      · simp [hrow] at h
      · have hrow' : o.row = false := by simpa using hrow
        simp only [hrow', Bool.false_eq_true, if_false, Option.some.injEq, Prod.mk.injEq] at h
        obtain ⟨rfl, rfl⟩ := h
        simp only [G.rep] at hg
        obtain ⟨b, e1, rfl⟩ := hg.2.2 o hi hrow'
        obtain ⟨vs, hr, hx⟩ := hM.obj i o hi
        simp only [hrow', Bool.false_eq_true, if_false] at hx
        obtain ⟨b', e2, hh⟩ := hx
        rw [e1] at e2
        injection e2 with e2
        injection e2 with e2
        injection e2 with e2
        subst e2
        refine ⟨b, 0, vs, by simp, hr, fun j u hu => ?_⟩
        rw [Nat.zero_add, cell_of_row w b j _ _ (0, 0) hh]
        simpa using hu
  | rp i k off' =>
    simp only [gcells] at h
    cases hi : O i with
    | none => simp [hi] at h
    | some o =>
      simp only [hi] at h
      by_cases hrow : o.row = true ∧ k = o.n
      · rw [if_pos hrow] at h
        simp only [Option.some.injEq, Prod.mk.injEq] at h
        obtain ⟨rfl, rfl⟩ := h
        simp only [G.rep] at hg
        obtain ⟨b, c, e1, rfl⟩ := (hg.2.2 o hi).2 hrow.2 hrow.1
        obtain ⟨vs, hr, hx⟩ := hM.obj i o hi
        rw [if_pos hrow.1] at hx
        rw [e1] at hx
        rcases hx.2 with ⟨e2, _⟩ | ⟨b', cap, cur, e2, _, hh, h1, h2, h3, h4⟩
        · cases e2
        · injection e2 with e2 _ _
          injection e2 with e2
          injection e2 with e2
          subst e2
          refine ⟨b, 0, vs, by simp, hr, fun j u hu => ?_⟩
          rw [Nat.zero_add, cell_of_row w b j _ _ (0, 0) hh]
          have hj : j < vs.length := by
            rcases Nat.lt_or_ge j vs.length with h | h
            · exact h
            · rw [List.getElem?_eq_none h] at hu; cases hu
          rw [← h4, List.getElem?_take, if_pos (by have := hx.1; omega), Array.getElem?_toList] at hu
          exact hu
      · rw [if_neg hrow] at h; cases h
  | _ => simp [gcells] at h
def gload (T : Tab) (O : Objs) (t : TypeId) (g : G) : Option G :=
  match gcells O g with
  | some (cs, off) => gpart T t cs off
  | none => none
theorem gload_sound (hT : TabOk P T) (hM : Mem w O m n) {t : TypeId} {a g : G} {v : Value} (hg : a.rep w O m n v) (h : gload T O t a = some g) : ∃ u, (Instr.loadAt t v).run P w = .ok u w ∧ g.rep w O m n u := by
  unfold gload at h
  cases hc : gcells O a with
  | none => simp [hc] at h
  | some p =>
    obtain ⟨cs, off⟩ := p
    simp only [hc] at h
    obtain ⟨b, o, vs, rfl, hr, hcell⟩ := gcells_sound hM hg hc
    unfold gpart at h
    cases hi : T t with
    | none => simp [hi] at h
    | some i =>
      simp only [hi] at h
      have ha := (hT t i hi).isAgg w
      have hs := (hT t i hi).sizeOf w
      by_cases hk : i.k.isAgg = true
      · rw [if_pos hk] at h
        split at h
        · rename_i hl
          injection h with h
          subst h
          rw [hk] at ha
          have hl2 : ((vs.drop off).take i.size).length = i.size := by rw [reps_len _ _ hr] at hl; simp; omega
          have hlo := run_loadCells_list (P := P) (w := w) ⟨b, o + off, none⟩ ((vs.drop off).take i.size) fun j u hu => by
            rw [show w.cell? ((⟨b, o + off, none⟩ : Addr).add j) = w.cell? ⟨b, o + (off + j), none⟩ from by
              unfold Addr.add; split
              · rename_i h0; rw [h0, Nat.add_zero]
              · rw [Nat.add_assoc]]
            refine hcell _ _ ?_
            rw [List.getElem?_take] at hu
            split at hu
            · rw [List.getElem?_drop] at hu; exact hu
            · cases hu
          rw [hl2] at hlo
          refine ⟨.agg ((vs.drop off).take i.size).toArray, by simp only [Instr.loadAt, Instr.sureAddr, loadVar, Sem.run_bind, Sem.run_pure, Result.andThen_ok, ha, hs, hlo, Sem.run_ite, if_true], ?_⟩
          simp only [G.rep]
          exact ⟨_, rfl, by simpa using reps_take i.size _ _ (reps_drop off _ _ hr)⟩
        · cases h
      · rw [if_neg hk] at h
        obtain ⟨u, hv, hg'⟩ := reps_at _ _ hr _ _ h
        have hk' : i.k.isAgg = false := by simpa using hk
        rw [hk'] at ha
        have := hcell _ _ hv
        exact ⟨u, by simp [Instr.loadAt, Instr.sureAddr, loadVar, ha, this], hg'⟩
end

end Go.Proofs.Ytpggbianhdebmaa
