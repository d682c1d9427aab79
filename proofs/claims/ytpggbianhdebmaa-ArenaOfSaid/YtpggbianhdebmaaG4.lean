/- Part G4 of the ghost memory: lemmas and contracts used by the proofs of this seat's laws; each theorem bears its own conditions. -/
import Derived.Test.YtpggbianhdebmaaG1
import Derived.Test.YtpggbianhdebmaaG2
import Derived.Test.YtpggbianhdebmaaG3
import Derived.WalkKit
import Derived.WalkSpells
import Derived.WalkLawsBesides
import Derived.Lib.Hide
import Derived.BigQuiet
import Derived.StillTailTactics
import Derived.Deep.RegionHeld3
import Derived.Deep.AppendLies
import Derived.Laws.CopyOwn
import Derived.Deep.DeepCutAuto
import Derived.Deep.QuietTactic
import Derived.Maps.AppendAt
import Derived.Great.BuildSlice
import Derived.Laws.StructEq
import Derived.ChangeKeysEq
import Derived.IntWalk
import Derived.Lib.AppendZeros
import Derived.Lib.AppendZerosOnto
import Derived.ProofKit
import Derived.OpenShut
import Derived.SizedLaws
import Derived.Deep.Slices
namespace Go.Proofs.Ytpggbianhdebmaa
open Go.RowKit
set_option linter.unusedVariables false
set_option linter.unusedSimpArgs false
section
variable {P : Program} {T : Tab} {w : World} {O : Objs} {m : Hands} {n : Nat}
/-- what a step of the machine does: a value, and the memory behind it -/
def Does (P : Program) (w : World) (O : Objs) (m : Hands) (n : Nat) (s : Sem Value) (g : G) (O' : Objs) (n' : Nat) : Prop :=
  ∃ v w' m', s.run P w = .ok v w' ∧ Mem w' O' m' n' ∧ Ext w O m n w' O' m' n' ∧ g.rep w' O' m' n' v
theorem Does.same (hM : Mem w O m n) {s : Sem Value} {v : Value} {g : G} (h : s.run P w = .ok v w) (hg : g.rep w O m n v) : Does P w O m n s g O n := ⟨v, w, m, h, hM, Ext.refl _ _ _ _, hg⟩
/-- a value's cells -/
def gcellsOf : G → Option (List G)
  | .agg cs => some cs
  | .val (.agg vs) => some (vs.toList.map .val)
  | g => if g.one then some [g] else none
theorem reps_vals : ∀ vs : List Value, G.reps w O m n (vs.map .val) vs
  | [] => rfl
  | v :: vs => ⟨v, vs, rfl, rfl, reps_vals vs⟩
theorem cells_one {v : Value} (h : v.oneCell' = true) : v.cells = #[v] := by cases v <;> first | rfl | simp [Value.oneCell'] at h
theorem gcellsOf_sound {g : G} {v : Value} {cs : List G} (hg : g.rep w O m n v) (h : gcellsOf g = some cs) : G.reps w O m n cs v.cells.toList := by
  have key : g.one = true → cs = [g] → G.reps w O m n cs v.cells.toList := fun h1 h2 => by
    subst h2
    rw [cells_one (one_rep hg h1)]
    exact ⟨v, [], rfl, hg, rfl⟩
  cases g with
  | agg cs' =>
    simp only [gcellsOf, Option.some.injEq] at h
    subst h
    simp only [G.rep] at hg
    obtain ⟨vs, rfl, hr⟩ := hg
    exact hr
  | val u =>
    simp only [gcellsOf] at h
    split at h
    · rename_i heq; cases heq
    · rename_i vs heq
      injection heq with heq
      subst heq
      injection h with h
      subst h
      simp only [G.rep] at hg
      subst hg
      exact reps_vals _
    · split at h
      · rename_i h1
        injection h with h
        exact key h1 h.symm
      · cases h
  | any => simp [gcellsOf, G.one] at h
  | tup _ => simp [gcellsOf, G.one] at h
  | when _ _ => simp [gcellsOf, G.one] at h
  | _ =>
    simp only [gcellsOf] at h
    split at h
    · rename_i h1
      injection h with h
      exact key h1 h.symm
    · cases h
def gplace (cells cs : List G) (off : Nat) : Option (List G) :=
  if off + cs.length ≤ cells.length then some (cells.take off ++ cs ++ cells.drop (off + cs.length)) else none
def gput (O : Objs) (cs : List G) : G → Option Objs
  | .ref i off => match O i with
    | some o => if o.row then none else (gplace o.cells cs off).map fun c => O.upd i (some { o with cells := c })
    | none => none
  | .rp i k off => match O i with
    | some o => if o.row = true ∧ k = o.n then (gplace o.cells cs off).map fun c => O.upd i (some { o with cells := c }) else none
    | none => none
  | _ => none
def gstore (T : Tab) (O : Objs) (t : TypeId) (a x : G) : Option Objs :=
  match T t, gcellsOf x with
  | some i, some cs => if cs.length = i.size ∧ cs.all G.one = true then gput O cs a else none
  | _, _ => none
theorem setRow_heap (w : World) (g : Nat) (cur c : Array Value) (t : TypeId) (h : w.heap[g]? = some (.cells cur t (0, 0))) : (w.setRow g c).heap[g]? = some (.cells c t (0, 0)) := by
  simp [World.setRow, Array.getElem?_modify, h]
theorem setRow_other (w : World) (g : Nat) (c : Array Value) {b : Nat} (h : b ≠ g) : (w.setRow g c).heap[b]? = w.heap[b]? := by
  simp [World.setRow, Array.getElem?_modify, Ne.symm h]
theorem take_splice {α : Type} (l vs : List α) (k off : Nat) (h : off + vs.length ≤ k) (hk : k ≤ l.length) :
    (l.take off ++ vs ++ l.drop (off + vs.length)).take k = (l.take k).take off ++ vs ++ (l.take k).drop (off + vs.length) := by
  have h1 : (l.take off ++ vs).length = off + vs.length := by simp; omega
  rw [List.take_append, h1, List.take_of_length_le (l := l.take off ++ vs) (by omega), List.take_take, Nat.min_eq_left (by omega), List.drop_take]
theorem gput_sound (hM : Mem w O m n) {cs : List G} {vs : List Value} (hr : G.reps w O m n cs vs) (h1 : ∀ u ∈ vs, u.oneCell' = true) {a : G} {va : Value} (ha : a.rep w O m n va) {O' : Objs} (h : gput O cs a = some O') :
    ∃ ad w', va = .pointer (some ad) ∧ (storeCells ad vs).run P w = .ok () w' ∧ Mem w' O' m n ∧ Ext w O m n w' O' m n := by
  have hl := reps_len _ _ hr
  have fin : ∀ (i : Nat) (o : GObj) (b : Nat) (off : Nat) (cells : List G) (cur : Array Value), O i = some o → hblk (m i) = some b → w.heap[b]? = some (.cells cur o.ty (0, 0)) → off + vs.length ≤ cur.size →
      (∀ w', (∀ b', b' ≠ b → w'.heap[b']? = w.heap[b']?) → w'.heap[b]? = some (.cells (cur.toList.take off ++ vs ++ cur.toList.drop (off + vs.length)).toArray o.ty (0, 0)) →
        Ext w O m n w' (O.upd i (some { o with cells })) m n → GObj.lies w' (O.upd i (some { o with cells })) m n { o with cells } (m i)) →
      O' = O.upd i (some { o with cells }) → ∃ ad w', (.pointer (some ⟨b, off, none⟩) : Value) = .pointer (some ad) ∧ (storeCells ad vs).run P w = .ok () w' ∧ Mem w' O' m n ∧ Ext w O m n w' O' m n := by
    intro i o b off cells cur hi hbm hh hle hlies hO
    subst hO
    have hrun := run_storeCells_at P b off o.ty vs 0 cur w hh (by simpa using hle) h1
    have hin : i < n := by
      rcases Nat.lt_or_ge i n with h | h
      · exact h
      · rw [hM.fresh i h] at hi; cases hi
    have hm : m.upd i (m i) = m := funext fun j => by unfold Hands.upd; split <;> simp_all
    have hb1 : ∀ b', b' < w.heap.size → ¬ (i < n ∧ hblk (m i) = some b') → (w.setRow b (cur.toList.take (off + 0) ++ vs ++ cur.toList.drop (off + 0 + vs.length)).toArray).heap[b']? = w.heap[b']? := fun b' _ hx =>
      setRow_other _ _ _ (fun e => hx ⟨hin, by rw [e]; exact hbm⟩)
    have hh1 : ∀ b', hblk (m i) = some b' → b' < w.heap.size → i < n ∧ hblk (m i) = some b' := fun b' h _ => ⟨hin, h⟩
    have hE := Ext.upd (w' := w.setRow b (cur.toList.take (off + 0) ++ vs ++ cur.toList.drop (off + 0 + vs.length)).toArray) hM i { o with cells } (m i) (Nat.le_of_lt hin) (fun _ => ⟨o, hi, rfl, Nat.le_refl _, fun _ => rfl⟩) rfl rfl rfl (by simp [World.setRow]) hb1 hh1 n (Nat.le_refl _)
    rw [hm] at hE
    have hM' := Mem.upd (w' := w.setRow b (cur.toList.take (off + 0) ++ vs ++ cur.toList.drop (off + 0 + vs.length)).toArray) hM i { o with cells } (m i) (Nat.le_of_lt hin) (fun _ => ⟨o, hi⟩) hb1 hh1 n (Nat.le_refl _) hin (by rw [hm]; exact hE)
      (by rw [hm]; exact hlies _ (fun b' hb' => setRow_other _ _ _ hb') (by simpa using setRow_heap w b cur _ o.ty hh) hE)
    rw [hm] at hM'
    exact ⟨_, _, rfl, hrun, hM', hE⟩
  cases a with
  | ref i off =>
    simp only [gput] at h
    cases hi : O i with
    | none => simp [hi] at h
    | some o =>
      simp only [hi] at h
      by_cases hrow : o.row = true
      · simp [hrow] at h
      · have hrow' : o.row = false := by simpa using hrow
        rw [if_neg hrow] at h
        unfold gplace at h
        split at h
        · rename_i hle
          simp only [Option.map_some, Option.some.injEq] at h
          simp only [G.rep] at ha
          obtain ⟨b, e1, rfl⟩ := ha.2.2 o hi hrow'
          obtain ⟨us, hus, hx⟩ := hM.obj i o hi
          simp only [hrow', Bool.false_eq_true, if_false] at hx
          obtain ⟨b', e2, hh⟩ := hx
          rw [e1] at e2
          injection e2 with e2
          injection e2 with e2
          injection e2 with e2
          subst e2
          have hlu := reps_len _ _ hus
          refine fin i o b off _ us.toArray hi (by rw [e1]; rfl) hh (by rw [List.size_toArray]; omega) (fun w' hb' hh' hE => ?_) h.symm
          refine ⟨us.take off ++ vs ++ us.drop (off + vs.length), ?_, ?_⟩
          · refine G.reps_ext hE _ _ ?_
            rw [hl]
            exact reps_app _ _ _ _ (reps_app _ _ _ _ (reps_take _ _ _ hus) hr) (reps_drop _ _ _ hus)
          · simp only [hrow', Bool.false_eq_true, if_false]
            exact ⟨b, e1, hh'⟩
        · cases h
  | rp i k off =>
    simp only [gput] at h
    cases hi : O i with
    | none => simp [hi] at h
    | some o =>
      simp only [hi] at h
      by_cases hrow : o.row = true ∧ k = o.n
      · rw [if_pos hrow] at h
        simp only [gplace] at h
        split at h
        · rename_i hle
          simp only [Option.map_some, Option.some.injEq] at h
          simp only [G.rep] at ha
          obtain ⟨b, c, e1, rfl⟩ := (ha.2.2 o hi).2 hrow.2 hrow.1
          obtain ⟨us, hus, hx⟩ := hM.obj i o hi
          rw [if_pos hrow.1] at hx
          obtain ⟨hx1, hx⟩ := hx
          rcases hx with ⟨e2, _⟩ | ⟨b', cap, cur, e2, hb0, hh, a1, a2, a3, a4⟩
          · rw [e1] at e2; cases e2
          · have e3 := e2
            rw [e1] at e3
            injection e3 with e3 _ _
            injection e3 with e3
            injection e3 with e3
            subst e3
            have hlu := reps_len _ _ hus
            have hsz : us.length ≤ cur.size := by rw [← a4, List.length_take]; simp; omega
            refine fin i o b off _ cur hi (by rw [e1]; rfl) hh (by omega) (fun w' hb' hh' hE => ?_) h.symm
            refine ⟨us.take off ++ vs ++ us.drop (off + vs.length), ?_, ?_⟩
            · refine G.reps_ext hE _ _ ?_
              rw [hl]
              exact reps_app _ _ _ _ (reps_app _ _ _ _ (reps_take _ _ _ hus) hr) (reps_drop _ _ _ hus)
            · rw [if_pos hrow.1]
              refine ⟨by simp; omega, .inr ⟨b, cap, _, e2, hb0, hh', a1, a2, by simp; omega, ?_⟩⟩
              simp only [List.toList_toArray] 
              have hkl : o.n * o.sz ≤ cur.toList.length := by rw [Array.length_toList]; omega
              exact (take_splice cur.toList vs (o.n * o.sz) off (by omega) hkl).trans (by rw [a4])
        · cases h
      · rw [if_neg hrow] at h; cases h
  | _ => simp [gput] at h
end

end Go.Proofs.Ytpggbianhdebmaa
