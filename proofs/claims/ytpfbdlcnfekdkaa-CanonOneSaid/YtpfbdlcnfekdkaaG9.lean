/- Part G9 of the ghost memory: lemmas and contracts used by the proofs of this seat's laws; each theorem bears its own conditions. -/
import Derived.Test.YtpfbdlcnfekdkaaG1
import Derived.Test.YtpfbdlcnfekdkaaG2
import Derived.Test.YtpfbdlcnfekdkaaG3
import Derived.Test.YtpfbdlcnfekdkaaG4
import Derived.Test.YtpfbdlcnfekdkaaG5
import Derived.Test.YtpfbdlcnfekdkaaG6
import Derived.Test.YtpfbdlcnfekdkaaG7
import Derived.Test.YtpfbdlcnfekdkaaG8
import Derived.WalkKit
import Derived.WalkSpells
import Derived.WalkLawsBesides
import Derived.Lib.Hide
import Derived.BigQuiet
import Derived.StillTailTactics
import Derived.Deep.RegionHeld3
import Derived.Deep.AppendLies
import Derived.Laws.CopyOwn
import Derived.Deep.DeepCutAuto
import Derived.Deep.QuietTactic
import Derived.Maps.AppendAt
import Derived.Great.BuildSlice
import Derived.Laws.StructEq
import Derived.ChangeKeysEq
import Derived.IntWalk
import Derived.ProofKit
import Derived.OpenShut
import Derived.SizedLaws
import Derived.Deep.Slices
namespace Go.Proofs.Ytpfbdlcnfekdkaa
open Go.RowKit
set_option linter.unusedVariables false
set_option linter.unusedSimpArgs false
section
variable {P : Program} {T : Tab} {w : World} {O : Objs} {m : Hands} {n : Nat}
theorem hblk_row {base n size : Nat} {e : TypeId} {v : Value} {xs : List Value} (h : w.ownsRow base e size v n xs) : hblk v = v.ownBlock := by
  rcases h.2 with ⟨rfl, _⟩ | ⟨g, cap, cur, rfl, _⟩ <;> rfl
theorem append_none (base : Nat) (t ty e : TypeId) (i : TypeInfo) (size : Nat) (ht : P.underlying t = some (.slice e)) (hi : P.info? e = some i)
    (v : Value) (n : Nat) (xs : List Value) (hown : w.ownsRow base e size v n xs) (A : Option Addr) (c : Nat) : (Builtin.append_ #[t, t] ty #[v, .slice A 0 c]).run P w = .ok v w := by
  rcases hown.2 with ⟨rfl, rfl⟩ | ⟨g, cap, cur, rfl, _, _, hn, _⟩ <;> cases A <;>
    simp [Builtin.append_, run_underlying ht, sizeOf, typeInfo, hi, Builtin.lenOf, Builtin.firstCells, storeCells, loadCells, loadCellsFrom] <;> omega
def gsrc (O : Objs) (sz : Nat) : G → Option (Nat × List G)
  | .sl k cs => some (k, cs)
  | .row i k => match O i with
    | some o => if o.row = true ∧ k = o.n then some (k, o.cells) else none
    | none => none
  | .rs i off k => match O i with
    | some o => if o.row = true then none else some (k, (o.cells.drop off).take (k * sz))
    | none => none
  | .val (.slice none 0 _) => some (0, [])
  | _ => none
theorem gsrc_sound (hM : Mem w O m n) {x : G} {v : Value} {sz k : Nat} {cs : List G} (hx : x.rep w O m n v) (h : gsrc O sz x = some (k, cs)) :
    ∃ A c vs, v = .slice A k c ∧ G.reps w O m n cs vs ∧ (k ≠ 0 → ∃ ad, A = some ad ∧ ∀ j u, vs[j]? = some u → w.cell? (ad.add j) = some u) := by
  unfold gsrc at h
  split at h
  · simp only [Option.some.injEq, Prod.mk.injEq] at h
    obtain ⟨rfl, rfl⟩ := h
    simp only [G.rep] at hx
    obtain ⟨A, c, rfl, _, vs, hr, ha⟩ := hx
    refine ⟨A, c, vs, rfl, hr, fun hk => ?_⟩
    obtain ⟨g, off, e, _, _, hc⟩ := ha hk
    exact ⟨_, e, fun j u hu => by rw [addr_add]; exact hc j u hu⟩
  · rename_i i k'
    split at h
    · rename_i o ho
      split at h
      · rename_i hc
        simp only [Option.some.injEq, Prod.mk.injEq] at h
        obtain ⟨rfl, rfl⟩ := h
        simp only [G.rep] at hx
        have hv := (hx.2.2 o ho).2 hc.2 hc.1
        obtain ⟨vs, hr, hy⟩ := hM.obj i o ho
        rw [if_pos hc.1] at hy
        rcases hy.2 with ⟨e1, e2⟩ | ⟨b, cap, cur, e1, _, hh, h1, h2, h3, h4⟩
        · rw [e1] at hv
          have hk0 : k' = 0 := by omega
          subst hk0
          exact ⟨none, 0, vs, hv.symm, hr, fun hk => absurd rfl hk⟩
        · rw [e1] at hv
          refine ⟨_, _, vs, by rw [← hv, hc.2], hr, fun _ => ⟨_, rfl, fun j u hu => ?_⟩⟩
          rw [addr_add, Nat.zero_add, cell_of_row w b j _ _ (0, 0) hh]
          rw [← h4, List.getElem?_take] at hu
          split at hu
          · rw [Array.getElem?_toList] at hu; exact hu
          · cases hu
      · cases h
    · cases h
  · rename_i i off k'
    split at h
    · rename_i o ho
      split at h
      · cases h
      · rename_i hrow
        have hrow' : o.row = false := by simpa using hrow
        simp only [Option.some.injEq, Prod.mk.injEq] at h
        obtain ⟨rfl, rfl⟩ := h
        simp only [G.rep] at hx
        obtain ⟨b, c, e1, rfl, hkc⟩ := hx.2.2 o ho hrow'
        obtain ⟨vs, hr, hy⟩ := hM.obj i o ho
        simp only [hrow', Bool.false_eq_true, if_false] at hy
        obtain ⟨b', e2, hh⟩ := hy
        rw [e1] at e2
        injection e2 with e2
        injection e2 with e2
        injection e2 with e2
        subst e2
        refine ⟨_, _, (vs.drop off).take (k' * sz), rfl, reps_take _ _ _ (reps_drop _ _ _ hr), fun _ => ⟨_, rfl, fun j u hu => ?_⟩⟩
        rw [addr_add, cell_of_row w b _ _ _ (0, 0) hh]
        rw [List.getElem?_take] at hu
        split at hu
        · rw [List.getElem?_drop] at hu; simpa using hu
        · cases hu
    · cases h
  · simp only [Option.some.injEq, Prod.mk.injEq] at h
    obtain ⟨rfl, rfl⟩ := h
    simp only [G.rep] at hx
    subst hx
    exact ⟨_, _, [], rfl, rfl, fun h => absurd rfl h⟩
  · cases h
def gappend (T : Tab) (t : TypeId) (s x : G) (O : Objs) (n : Nat) : Option (Prop × G × Objs × Nat) :=
  match tkind T t with
  | some (.slice e) => match T e with
    | some ie => if ie.size = 0 then none else match gsrc O ie.size x with
      | some (mm, cs) => match s with
        | .val (.slice none 0 0) => some (cs.length = mm * ie.size ∧ cs.all G.one = true ∧ mm * ie.bytes ≤ 140737488355328 ∧ mm ≤ 140737488355328, .row n mm, O.upd n (some ⟨true, e, ie.size, mm, cs⟩), n + 1)
        | .row i k => match O i with
          | some o => if o.row = true ∧ k = o.n ∧ o.ty = e ∧ o.sz = ie.size then
              some (cs.length = mm * ie.size ∧ cs.all G.one = true ∧ (k + mm) * ie.bytes ≤ 140737488355328 ∧ k + mm ≤ 140737488355328, .row i (k + mm), O.upd i (some ⟨true, e, ie.size, k + mm, o.cells ++ cs⟩), n) else none
          | none => none
        | _ => none
      | none => none
    | none => none
  | _ => none
theorem append_run {t ty e : TypeId} {i : TypeInfo} {z : Value} (ht : P.underlying t = some (.slice e)) (hi : P.info? e = some i) (hz : i.zero = some z) (hzs : z.cells.size = i.size) (hsz : 0 < i.size)
    {v : Value} {k mm c : Nat} {xs news : List Value} {A : Option Addr} (hown : w.ownsRow 0 e i.size v k xs) (hl : news.length = mm * i.size) (h1 : ∀ u ∈ news, u.oneCell' = true)
    (hA : mm ≠ 0 → ∃ ad, A = some ad ∧ ∀ j u, news[j]? = some u → w.cell? (ad.add j) = some u) (hb : (k + mm) * i.bytes ≤ 140737488355328) (h63 : k + mm ≤ 140737488355328) :
    ∃ v' w', (Builtin.append_ #[t, t] ty #[v, .slice A mm c]).run P w = .ok v' w' ∧ w'.ownsRow 0 e i.size v' (k + mm) (xs ++ news) ∧ w.grownBy w' v.ownBlock ∧ (v'.ownBlock = v.ownBlock ∨ v'.ownBlock = some w.heap.size) ∧ (mm = 0 → v' = v) := by
  by_cases h0 : mm = 0
  · subst h0
    have hn : news = [] := List.eq_nil_of_length_eq_zero (by omega)
    subst hn
    exact ⟨v, w, append_none 0 t ty e i i.size ht hi v k xs hown A c, by simpa using hown, World.grownBy.refl w _, .inl rfl, fun _ => rfl⟩
  · obtain ⟨ad, rfl, hc⟩ := hA h0
    obtain ⟨v', w', g1, g2, g3, g4, g5⟩ := run_append_own_at (P := P) w 0 t ty e i z i.size i.bytes ht hi hz rfl rfl hzs hsz v k xs hown ad mm c news hl hc h1 (by unfold maxLen; omega) hb (Nat.zero_le _)
    exact ⟨v', w', g1, g2, g3, g5, fun h => absurd h h0⟩
theorem gappend_sound (hT : TabOk P T) (hM : Mem w O m n) {t ty : TypeId} {s x g : G} {vs vx : Value} {S : Prop} {O' : Objs} {n' : Nat} (hs : s.rep w O m n vs) (hx : x.rep w O m n vx) (h : gappend T t s x O n = some (S, g, O', n')) (hS : S) :
    Does P w O m n (Builtin.append_ #[t, t] ty #[vs, vx]) g O' n' := by
  unfold gappend at h
  split at h
  · rename_i e hk
    have hu := kind_of hT hk
    simp only [TK.ok] at hu
    split at h
    · rename_i ie hie
      obtain ⟨inf, z, e1, e2, e3, e4, e5⟩ := (hT e ie hie).info
      have hzs : z.cells.size = inf.size := by have := (hT e ie hie).len; rw [← e5] at this; rw [e2]; simpa using this
      split at h
      · cases h
      · rename_i hsz
        split at h
        · rename_i mm cs hsrc
          obtain ⟨A, c, news, rfl, hr, hA⟩ := gsrc_sound hM hx hsrc
          have hl := reps_len _ _ hr
          split at h
          · simp only [Option.some.injEq, Prod.mk.injEq] at h
            obtain ⟨rfl, rfl, rfl, rfl⟩ := h
            simp only [G.rep] at hs
            subst hs
            have hown : w.ownsRow 0 e inf.size (.slice none 0 0) 0 [] := World.ownsRow_nil w 0 e inf.size
            obtain ⟨v', w', g1, g2, g3, g4, _⟩ := append_run (ty := ty) (c := c) hu e1 e4 hzs (by omega) hown (by rw [← hl, e2]; exact hS.1) (one_reps _ _ hr hS.2.1) hA (by rw [e3, Nat.zero_add]; exact hS.2.2.1) (by rw [Nat.zero_add]; exact hS.2.2.2)
            have hb : ∀ b, b < w.heap.size → ¬ (n < n ∧ hblk (m n) = some b) → w'.heap[b]? = w.heap[b]? := fun b hb _ => g3.block b hb (by simp [Value.ownBlock])
            have hh : ∀ b, hblk v' = some b → b < w.heap.size → n < n ∧ hblk (m n) = some b := fun b hb hlt => by
              rw [hblk_row g2] at hb
              rcases g4 with h | h
              · rw [h] at hb; cases hb
              · rw [h] at hb; injection hb with hb; omega
            have hE := Ext.upd (w' := w') hM n ⟨true, e, ie.size, mm, cs⟩ v' (Nat.le_refl _) (fun h => absurd h (Nat.lt_irrefl _)) g3.os g3.tape g3.output g3.size hb hh (n + 1) (Nat.le_succ _)
            have hM' := Mem.upd hM n ⟨true, e, ie.size, mm, cs⟩ v' (Nat.le_refl _) (fun h => absurd h (Nat.lt_irrefl _)) hb hh (n + 1) (Nat.le_succ _) (Nat.lt_succ_self _) hE
              ⟨news, G.reps_ext hE _ _ hr, by rw [if_pos rfl]; simpa [e2] using g2⟩
            refine ⟨_, _, _, g1, hM', hE, row_new_rep _ _ _ _ _ _ _ _ _ ?_⟩
            rcases g2.2 with ⟨rfl, _⟩ | ⟨_, _, _, rfl, _⟩ <;> rfl
          · rename_i i k
            split at h
            · rename_i o ho
              split at h
              · rename_i hc
                obtain ⟨c1, c2, c3, c4⟩ := hc
                simp only [Option.some.injEq, Prod.mk.injEq] at h
                obtain ⟨rfl, rfl, rfl, rfl⟩ := h
                simp only [G.rep] at hs
                have hv := (hs.2.2 o ho).2 c2 c1
                obtain ⟨xs, hxs, hy⟩ := hM.obj i o ho
                rw [if_pos c1, c3, c4, hv, ← c2, ← e2] at hy
                obtain ⟨v', w', g1, g2, g3, g4, g5⟩ := append_run (ty := ty) (c := c) hu e1 e4 hzs (by omega) hy (by rw [← hl, e2]; exact hS.1) (one_reps _ _ hr hS.2.1) hA (by rw [e3]; exact hS.2.2.1) hS.2.2.2
                have hbv := hblk_row hy
                have hb : ∀ b, b < w.heap.size → ¬ (i < n ∧ hblk (m i) = some b) → w'.heap[b]? = w.heap[b]? := fun b hb hne => g3.block b hb (fun he => hne ⟨hs.1, by rw [hv, hbv, he]⟩)
                have hh : ∀ b, hblk v' = some b → b < w.heap.size → i < n ∧ hblk (m i) = some b := fun b hb hlt => by
                  rw [hblk_row g2] at hb
                  rcases g4 with h | h
                  · rw [h] at hb; exact ⟨hs.1, by rw [hv, hbv, hb]⟩
                  · rw [h] at hb; injection hb with hb; omega
                have hE := Ext.upd (w' := w') hM i ⟨true, e, ie.size, k + mm, o.cells ++ cs⟩ v' (Nat.le_of_lt hs.1) (fun _ => ⟨o, ho, c1.symm, by simp only; omega, fun hq => by
                  rcases hq with hq | hq
                  · rw [hv]; exact g5 (by simp only at hq; omega)
                  · cases hq⟩) g3.os g3.tape g3.output g3.size hb hh n (Nat.le_refl _)
                have hM' := Mem.upd hM i ⟨true, e, ie.size, k + mm, o.cells ++ cs⟩ v' (Nat.le_of_lt hs.1) (fun _ => ⟨o, ho⟩) hb hh n (Nat.le_refl _) hs.1 hE
                  ⟨xs ++ news, G.reps_ext hE _ _ (reps_app _ _ _ _ hxs hr), by rw [if_pos rfl]; rw [e2] at g2; exact g2⟩
                refine ⟨_, _, _, g1, hM', hE, ?_⟩
                simp only [G.rep]
                refine ⟨hs.1, ?_, fun o' ho' => ?_⟩
                · rcases g2.2 with ⟨rfl, _⟩ | ⟨_, _, _, rfl, _⟩ <;> rfl
                · rw [upd_same] at ho'
                  injection ho' with ho'
                  subst ho'
                  exact ⟨Nat.le_refl _, fun _ _ => hupd_same _ _ _⟩
              · cases h
            · cases h
          · cases h
        · cases h
    · cases h
  · cases h
end

end Go.Proofs.Ytpfbdlcnfekdkaa
