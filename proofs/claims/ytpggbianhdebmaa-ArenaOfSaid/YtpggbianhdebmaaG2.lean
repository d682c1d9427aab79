/- Part G2 of the ghost memory: lemmas and contracts used by the proofs of this seat's laws; each theorem bears its own conditions. -/
import Derived.Test.YtpggbianhdebmaaG1
import Derived.WalkKit
import Derived.WalkSpells
import Derived.WalkLawsBesides
import Derived.Lib.Hide
import Derived.BigQuiet
import Derived.StillTailTactics
import Derived.Deep.RegionHeld3
import Derived.Deep.AppendLies
import Derived.Laws.CopyOwn
import Derived.Deep.DeepCutAuto
import Derived.Deep.QuietTactic
import Derived.Maps.AppendAt
import Derived.Great.BuildSlice
import Derived.Laws.StructEq
import Derived.ChangeKeysEq
import Derived.IntWalk
import Derived.Lib.AppendZeros
import Derived.Lib.AppendZerosOnto
import Derived.ProofKit
import Derived.OpenShut
import Derived.SizedLaws
import Derived.Deep.Slices
namespace Go.Proofs.Ytpggbianhdebmaa
open Go.RowKit
set_option linter.unusedVariables false
set_option linter.unusedSimpArgs false
section
variable {w w' : World} {O : Objs} {m : Hands} {n : Nat}
theorem upd_same (O : Objs) (i : Nat) (o : Option GObj) : O.upd i o i = o := by simp [Objs.upd]
theorem upd_ne (O : Objs) {i j : Nat} (o : Option GObj) (h : j ≠ i) : O.upd i o j = O j := by simp [Objs.upd, h]
theorem hupd_same (m : Hands) (i : Nat) (v : Value) : m.upd i v i = v := by simp [Hands.upd]
theorem hupd_ne (m : Hands) {i j : Nat} (v : Value) (h : j ≠ i) : m.upd i v j = m j := by simp [Hands.upd, h]
theorem blk_lt' {w : World} {g : Nat} {o : Obj} (h : w.heap[g]? = some o) : g < w.heap.size := by
  rcases Nat.lt_or_ge g w.heap.size with hlt | hge
  · exact hlt
  · rw [Array.getElem?_eq_none hge] at h; cases h
theorem lies_lt {o : GObj} {h : Value} (hl : o.lies w O m n h) : ∀ b, hblk h = some b → b < w.heap.size := by
  intro b hb
  obtain ⟨vs, _, hx⟩ := hl
  split at hx
  · rcases hx.2 with ⟨rfl, _⟩ | ⟨g, cap, cur, rfl, _, hh, _⟩
    · simp [hblk] at hb
    · simp [hblk] at hb; subst hb; exact blk_lt' hh
  · obtain ⟨g, rfl, hh⟩ := hx
    simp [hblk] at hb; subst hb; exact blk_lt' hh
theorem Ext.upd (hM : Mem w O m n) (i : Nat) (o' : GObj) (h' : Value) (hi : i ≤ n) (hold : i < n → ∃ o, O i = some o ∧ o'.row = o.row ∧ o.n ≤ o'.n ∧ ((o'.n = o.n ∨ o'.row = false) → h' = m i))
    (h1 : w'.os = w.os) (h2 : w'.tape = w.tape) (h3 : w'.output = w.output) (h4 : w.heap.size ≤ w'.heap.size) (hb : ∀ b, b < w.heap.size → ¬ (i < n ∧ hblk (m i) = some b) → w'.heap[b]? = w.heap[b]?)
    (hh : ∀ b, hblk h' = some b → b < w.heap.size → i < n ∧ hblk (m i) = some b) (k : Nat) (hk : n ≤ k) : Ext w O m n w' (O.upd i (some o')) (m.upd i h') k := by
  refine ⟨h1, h2, h3, h4, hk, fun b hlt ho => ⟨hb b hlt fun hx => ?_, fun ⟨j, oj, hj, hbj⟩ => ?_⟩, fun j hj oj' hoj => ?_⟩
  · obtain ⟨o, e, _⟩ := hold hx.1
    exact ho ⟨i, o, e, hx.2⟩
  · by_cases e : j = i
    · subst e
      rw [hupd_same] at hbj
      obtain ⟨hx, hy⟩ := hh b hbj hlt
      obtain ⟨o, e, _⟩ := hold hx
      exact ho ⟨j, o, e, hy⟩
    · rw [upd_ne _ _ e] at hj
      rw [hupd_ne _ _ e] at hbj
      exact ho ⟨j, oj, hj, hbj⟩
  · by_cases e : j = i
    · subst e
      rw [upd_same] at hoj
      obtain ⟨o, e1, e2, e3, e4⟩ := hold hj
      injection hoj with hoj
      subst hoj
      exact ⟨o, e1, e2, e3, fun h => by rw [hupd_same]; exact e4 h⟩
    · rw [upd_ne _ _ e] at hoj
      exact ⟨oj', hoj, rfl, Nat.le_refl _, fun _ => hupd_ne _ _ e⟩
theorem lies_keep (hM : Mem w O m n) {j : Nat} {oj : GObj} (hj : O j = some oj) {O' : Objs} {m' : Hands} {n' : Nat} (hE : Ext w O m n w' O' m' n') (hb : ∀ b, hblk (m j) = some b → w'.heap[b]? = w.heap[b]?) : oj.lies w' O' m' n' (m j) := by
  obtain ⟨vs, hr, hx⟩ := hM.obj j oj hj
  refine ⟨vs, G.reps_ext hE _ _ hr, ?_⟩
  split
  · rename_i hrow
    rw [if_pos hrow] at hx
    refine ⟨hx.1, ?_⟩
    rcases hx.2 with h0 | ⟨g, cap, cur, hv, hg, hh, a1, a2, a3, a4⟩
    · exact .inl h0
    · exact .inr ⟨g, cap, cur, hv, hg, by rw [hb g (by rw [hv]; rfl)]; exact hh, a1, a2, a3, a4⟩
  · rename_i hrow
    rw [if_neg hrow] at hx
    obtain ⟨g, hv, hh⟩ := hx
    exact ⟨g, hv, by rw [hb g (by rw [hv]; rfl)]; exact hh⟩
theorem Mem.upd (hM : Mem w O m n) (i : Nat) (o' : GObj) (h' : Value) (hi : i ≤ n) (hold : i < n → ∃ o, O i = some o)
    (hb : ∀ b, b < w.heap.size → ¬ (i < n ∧ hblk (m i) = some b) → w'.heap[b]? = w.heap[b]?)
    (hh : ∀ b, hblk h' = some b → b < w.heap.size → i < n ∧ hblk (m i) = some b) (k : Nat) (hk : n ≤ k) (hik : i < k) (hE : Ext w O m n w' (O.upd i (some o')) (m.upd i h') k)
    (hl : o'.lies w' (O.upd i (some o')) (m.upd i h') k h') : Mem w' (O.upd i (some o')) (m.upd i h') k := by
  refine ⟨fun j hj => ?_, fun j oj hj => ?_, fun a b oa ob c ha hb' hca hcb => ?_⟩
  · rw [upd_ne _ _ (by omega)]
    exact hM.fresh j (by omega)
  · by_cases e : j = i
    · subst e
      rw [upd_same] at hj
      injection hj with hj
      subst hj
      rw [hupd_same]
      exact hl
    · rw [upd_ne _ _ e] at hj
      rw [hupd_ne _ _ e]
      refine lies_keep hM hj hE fun b hbj => hb b (lies_lt (hM.obj j oj hj) b hbj) fun hx => ?_
      obtain ⟨o, ho⟩ := hold hx.1
      exact e (hM.apart j i oj o b hj ho hbj hx.2)
  · have key : ∀ x y (ox : GObj), x ≠ i → y = i → O x = some ox → hblk (m x) = some c → hblk h' = some c → False := fun x y ox hx hy hox hcx hcy => by
      obtain ⟨p, q⟩ := hh c hcy (lies_lt (hM.obj x ox hox) c hcx)
      obtain ⟨o, ho⟩ := hold p
      exact hx (hM.apart x i ox o c hox ho hcx q)
    by_cases ea : a = i
    · by_cases eb : b = i
      · rw [ea, eb]
      · rw [ea, hupd_same] at hca
        rw [upd_ne _ _ eb] at hb'
        rw [hupd_ne _ _ eb] at hcb
        exact (key b a ob eb ea hb' hcb hca).elim
    · rw [upd_ne _ _ ea] at ha
      rw [hupd_ne _ _ ea] at hca
      by_cases eb : b = i
      · rw [eb, hupd_same] at hcb
        exact (key a b oa ea eb ha hca hcb).elim
      · rw [upd_ne _ _ eb] at hb'
        rw [hupd_ne _ _ eb] at hcb
        exact hM.apart a b oa ob c ha hb' hca hcb
/-- a part of the objects is let go -/
theorem Mem.less (hM : Mem w O m n) (O' : Objs) (n' : Nat) (hO : ∀ i, O' i = O i ∨ O' i = none) (hn : ∀ i, n' ≤ i → O' i = none) (h : ∀ (i : Nat) (o : GObj), O' i = some o → ∀ vs, G.reps w O m n o.cells vs → G.reps w O' m n' o.cells vs) : Mem w O' m n' := by
  have hs : ∀ i o, O' i = some o → O i = some o := fun i o h => by rcases hO i with e | e <;> rw [e] at h <;> first | exact h | cases h
  refine ⟨hn, fun i o hi => ?_, fun i j oi oj b hi hj => hM.apart i j oi oj b (hs _ _ hi) (hs _ _ hj)⟩
  obtain ⟨vs, hr, hx⟩ := hM.obj i o (hs _ _ hi)
  exact ⟨vs, h i o hi vs hr, hx⟩
/-- a new object -/
theorem Mem.new (hM : Mem w O m n) (t : TypeId) (sz k : Nat) (row : Bool) (cells : List G) (vs : List Value) (hr : G.reps w O m n cells vs) (hk : row = true → vs.length = k * sz ∧ k ≤ maxLen) :
    Mem (w.alloc (.cells vs.toArray t)) (O.upd n (some ⟨row, t, sz, k, cells⟩)) (m.upd n (if row then .slice (some ⟨w.heap.size, 0, none⟩) k k else .pointer (some ⟨w.heap.size, 0, none⟩))) (n + 1) ∧
    Ext w O m n (w.alloc (.cells vs.toArray t)) (O.upd n (some ⟨row, t, sz, k, cells⟩)) (m.upd n (if row then .slice (some ⟨w.heap.size, 0, none⟩) k k else .pointer (some ⟨w.heap.size, 0, none⟩))) (n + 1) := by
  have hb : ∀ b, b < w.heap.size → ¬ (n < n ∧ hblk (m n) = some b) → (w.alloc (.cells vs.toArray t)).heap[b]? = w.heap[b]? := fun b hb _ => Below.heap_alloc w _ b hb
  have hh : ∀ b, hblk (if row then .slice (some ⟨w.heap.size, 0, none⟩) k k else .pointer (some ⟨w.heap.size, 0, none⟩)) = some b → b < w.heap.size → n < n ∧ hblk (m n) = some b := fun b hb hlt => by
    cases row <;> simp [hblk] at hb <;> omega
  have hE : Ext w O m n (w.alloc (.cells vs.toArray t)) (O.upd n (some ⟨row, t, sz, k, cells⟩)) (m.upd n (if row then .slice (some ⟨w.heap.size, 0, none⟩) k k else .pointer (some ⟨w.heap.size, 0, none⟩))) (n + 1) :=
    Ext.upd (w' := w.alloc (.cells vs.toArray t)) hM n _ _ (Nat.le_refl _) (fun h => absurd h (Nat.lt_irrefl _)) rfl rfl rfl (by simp) hb hh (n + 1) (Nat.le_succ _)
  refine ⟨Mem.upd hM n _ _ (Nat.le_refl _) (fun h => absurd h (Nat.lt_irrefl _)) hb hh _ (by omega) (by omega) hE ?_, hE⟩
  refine ⟨vs, G.reps_ext hE _ _ hr, ?_⟩
  cases row with
  | false => exact ⟨_, rfl, heap_alloc_new w _⟩
  | true =>
    obtain ⟨h1, h2⟩ := hk rfl
    exact ⟨h1, .inr ⟨w.heap.size, k, vs.toArray, rfl, Nat.zero_le _, heap_alloc_new w _, Nat.le_refl _, h2, by simpa using h1, by simp [← h1]⟩⟩
end

end Go.Proofs.Ytpggbianhdebmaa
