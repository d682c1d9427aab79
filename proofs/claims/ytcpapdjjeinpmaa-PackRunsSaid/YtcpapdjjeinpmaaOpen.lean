/- Lemmas and contracts used by the proofs of this seat's laws (part Open); each theorem bears its own conditions. -/
import Derived.Test.YtcpapdjjeinpmaaNum
import Derived.Test.YtcpapdjjeinpmaaMem
import Derived.WalkKit
import Derived.WalkSpells
import Derived.WalkLawsBesides
import Derived.Lib.Hide
import Derived.BigQuiet
import Derived.Deep.QuietTactic
import Derived.ProofKit
import Derived.OpenShut
import Derived.SizedLaws
namespace Go.Proofs.Ytcpapdjjeinpmaa
open Go.RowKit
set_option linter.unusedVariables false
open Go.ChangeShapes Go.WideShapes Go.ChangeAt
theorem lt_of_cell {w : World} {g o : Nat} {v : Value} (h : w.cell? ⟨g, o, none⟩ = some v) : g < w.heap.size := by
  rcases Nat.lt_or_ge g w.heap.size with hlt | hge
  · exact hlt
  · unfold World.cell? at h
    rw [Array.getElem?_eq_none hge] at h
    simp at h
/-- a slice of numbers that came in -/
theorem open_nums {H : Type} {enc : TypeId × Value → H} {P : Program} {W : World} {t e : TypeId} {k : IntKind} (ht : P.underlying t = some (.slice e)) (he : P.underlying e = some (.int k)) (hc : P.cellsOf e = 1)
    {v : Value} {d : DataW H} {ps : List MemPlace} {base : Nat} {held : Bool} {a : Option Addr} {len cap : Nat} (hv : v = .slice a len cap) (h : DataW.Trod enc P W base (fun _ => true) held t v d ps) :
    ∃ l : List Int, len = l.length ∧ len ≤ cap ∧ RdS W W.heap.size a (l.map (.int k)) ∧ (∀ n ∈ l, (Lit.int k n).wf = true) ∧ l.length ≤ maxLen ∧ ((d = .nil ∧ l = []) ∨ ∃ sp, d = .slice (lits k l) sp) := by
  subst hv
  obtain ⟨fuel, hf⟩ := h
  rcases open_ints ht he hc hf with ⟨hcs, hx⟩ | ⟨x, l', c', zs, hcs, _, hl, hm, hz, hx, hcell, hwz⟩
  · simp [Value.cells] at hcs
    obtain ⟨rfl, rfl, rfl⟩ := hcs
    injection hx with hx _
    exact ⟨[], rfl, Nat.le_refl _, RdS.nil _ _ _, fun n hn => (by cases hn), by simp, .inl ⟨hx, rfl⟩⟩
  · simp [Value.cells] at hcs
    obtain ⟨rfl, rfl, rfl⟩ := hcs
    injection hx with hx _
    have hz' : zs.length = cap := by simpa using hz
    refine ⟨zs.take len, by rw [List.length_take]; omega, hl, fun hne => ?_, fun n hn => hwz n (List.mem_of_mem_take hn), by rw [List.length_take]; omega, .inr ⟨_, hx⟩⟩
    have hp : 0 < zs.length := by
      rcases Nat.eq_zero_or_pos zs.length with h0 | h0
      · exact absurd (by rw [List.eq_nil_of_length_eq_zero h0]; simp) hne
      · exact h0
    obtain ⟨g, off, rfl, hc⟩ := ints_at hcell hp
    refine ⟨g, off, rfl, lt_of_cell (hc 0 hp), fun j u hu => ?_⟩
    have hj : j < (zs.take len).length := by
      rcases Nat.lt_or_ge j (zs.take len).length with h | h
      · exact h
      · rw [List.getElem?_eq_none (by simpa using h)] at hu; cases hu
    have hj2 : j < zs.length := by rw [List.length_take] at hj; omega
    rw [hc j hj2, ← hu]
    rw [List.getElem?_map, List.getElem?_eq_getElem hj, List.getElem_take]
    simp [List.getD, hj2]
theorem wf_nat_u64 {n : Int} (h : (Lit.int .u64 n).wf = true) : ∃ m : Nat, n = m ∧ W64 m := by
  simp [Lit.wf, IntKind.min, IntKind.max, IntKind.signed, IntKind.bits] at h
  exact ⟨n.toNat, by omega, by unfold W64; omega⟩
theorem wf_nat_u8 {n : Int} (h : (Lit.int .u8 n).wf = true) : ∃ m : Nat, n = m ∧ m < 256 := by
  simp [Lit.wf, IntKind.min, IntKind.max, IntKind.signed, IntKind.bits] at h
  exact ⟨n.toNat, by omega, by omega⟩
theorem wf_int {n : Int} (h : (Lit.int .i64 n).wf = true) : -9223372036854775808 ≤ n ∧ n ≤ 9223372036854775807 := by
  simp [Lit.wf, IntKind.min, IntKind.max, IntKind.signed, IntKind.bits] at h
  omega
theorem nats_u64 {l : List Int} (h : ∀ n ∈ l, (Lit.int .u64 n).wf = true) : ∃ m : List Nat, l.map (.int .u64) = u64s m ∧ l.length = m.length ∧ ∀ n ∈ m, W64 n := by
  induction l with
  | nil => exact ⟨[], rfl, rfl, fun n hn => by cases hn⟩
  | cons a l ih =>
    obtain ⟨m, h1, h2, h3⟩ := ih fun n hn => h n (.tail _ hn)
    obtain ⟨x, rfl, hx⟩ := wf_nat_u64 (h a (.head _))
    exact ⟨x :: m, by simp [u64s, List.map_cons]; exact h1, by simp [h2], fun n hn => by cases hn with | head => exact hx | tail _ hn => exact h3 n hn⟩
theorem nats_u8 {l : List Int} (h : ∀ n ∈ l, (Lit.int .u8 n).wf = true) : ∃ m : List Nat, l.map (.int .u8) = u8s m ∧ l.length = m.length ∧ ∀ n ∈ m, n < 256 := by
  induction l with
  | nil => exact ⟨[], rfl, rfl, fun n hn => by cases hn⟩
  | cons a l ih =>
    obtain ⟨m, h1, h2, h3⟩ := ih fun n hn => h n (.tail _ hn)
    obtain ⟨x, rfl, hx⟩ := wf_nat_u8 (h a (.head _))
    exact ⟨x :: m, by simp [u8s, List.map_cons]; exact h1, by simp [h2], fun n hn => by cases hn with | head => exact hx | tail _ hn => exact h3 n hn⟩
theorem open_u64s {H : Type} {enc : TypeId × Value → H} {P : Program} {W : World} {t e : TypeId} (ht : P.underlying t = some (.slice e)) (he : P.underlying e = some (.int .u64)) (hc : P.cellsOf e = 1)
    {v : Value} {d : DataW H} {ps : List MemPlace} {base : Nat} {held : Bool} {a : Option Addr} {len cap : Nat} (hv : v = .slice a len cap) (h : DataW.Trod enc P W base (fun _ => true) held t v d ps) :
    ∃ l : List Nat, len = l.length ∧ len ≤ cap ∧ RdS W W.heap.size a (u64s l) ∧ (∀ n ∈ l, W64 n) ∧ l.length ≤ maxLen ∧ (d = .nil ∧ l = [] ∨ ∃ es sp, d = .slice es sp ∧ es.length = l.length) := by
  obtain ⟨l, rfl, hlc, h1, h2, h3, h4⟩ := open_nums ht he hc hv h
  obtain ⟨m, e1, e2, e3⟩ := nats_u64 h2
  refine ⟨m, e2, hlc, by rw [← e1]; exact h1, e3, by rw [← e2]; exact h3, ?_⟩
  rcases h4 with ⟨hd, hl⟩ | ⟨sp, hd⟩
  · refine .inl ⟨hd, ?_⟩; subst hl; exact List.eq_nil_of_length_eq_zero (by simpa using e2.symm)
  · exact .inr ⟨_, sp, hd, by simp [lits, e2]⟩
theorem open_u8s {H : Type} {enc : TypeId × Value → H} {P : Program} {W : World} {t e : TypeId} (ht : P.underlying t = some (.slice e)) (he : P.underlying e = some (.int .u8)) (hc : P.cellsOf e = 1)
    {v : Value} {d : DataW H} {ps : List MemPlace} {base : Nat} {held : Bool} {a : Option Addr} {len cap : Nat} (hv : v = .slice a len cap) (h : DataW.Trod enc P W base (fun _ => true) held t v d ps) :
    ∃ l : List Nat, len = l.length ∧ len ≤ cap ∧ RdS W W.heap.size a (u8s l) ∧ (∀ n ∈ l, n < 256) ∧ l.length ≤ maxLen ∧ (d = .nil ∧ l = [] ∨ ∃ es sp, d = .slice es sp ∧ es.length = l.length) := by
  obtain ⟨l, rfl, hlc, h1, h2, h3, h4⟩ := open_nums ht he hc hv h
  obtain ⟨m, e1, e2, e3⟩ := nats_u8 h2
  refine ⟨m, e2, hlc, by rw [← e1]; exact h1, e3, by rw [← e2]; exact h3, ?_⟩
  rcases h4 with ⟨hd, hl⟩ | ⟨sp, hd⟩
  · refine .inl ⟨hd, ?_⟩; subst hl; exact List.eq_nil_of_length_eq_zero (by simpa using e2.symm)
  · exact .inr ⟨_, sp, hd, by simp [lits, e2]⟩
theorem reach_u64 {P : Program} {e : TypeId} (hb : P.bytesOf e = 8) {a b : Nat} (h : (a + b) * P.bytesOf e ≤ reachBytes) : a * 8 ≤ 140737488351232 := by
  rw [hb] at h; simp only [reachBytes] at h; omega
theorem reach_u8 {P : Program} {e : TypeId} (hb : P.bytesOf e = 1) {a b : Nat} (h : (a + b) * P.bytesOf e ≤ reachBytes) : a * 1 ≤ 140737488351232 := by
  rw [hb] at h; simp only [reachBytes] at h; omega

end Go.Proofs.Ytcpapdjjeinpmaa
