/- Lemmas used by the proofs of this seat's laws (part Mem); each theorem bears its own conditions. -/
import Derived.Test.YtcpapdjjeinpmaaNum
import Derived.WalkKit
import Derived.WalkSpells
import Derived.WalkLawsBesides
import Derived.Lib.Hide
import Derived.BigQuiet
import Derived.Deep.QuietTactic
import Derived.ProofKit
import Derived.OpenShut
import Derived.SizedLaws
namespace Go.Proofs.Ytcpapdjjeinpmaa
open Go.RowKit
set_option linter.unusedVariables false
/-- at A stand the cells xs, below block B (an empty list asks nothing) -/
def RdS (w : World) (B : Nat) (A : Option Addr) (xs : List Value) : Prop :=
  xs ≠ [] → ∃ g off, A = some ⟨g, off, none⟩ ∧ g < B ∧ ∀ j u, xs[j]? = some u → w.cell? ⟨g, off + j, none⟩ = some u
section
variable {w w' : World} {B B' : Nat} {A : Option Addr} {xs : List Value}
theorem RdS.nil (w : World) (B : Nat) (A : Option Addr) : RdS w B A [] := fun h => absurd rfl h
theorem RdS.keep (h : RdS w B A xs) (hk : ∀ g o, g < B → w'.cell? ⟨g, o, none⟩ = w.cell? ⟨g, o, none⟩) : RdS w' B A xs := fun hn =>
  let ⟨g, off, e, hg, hc⟩ := h hn
  ⟨g, off, e, hg, fun j u hu => (hk g _ hg).trans (hc j u hu)⟩
theorem RdS.below (h : RdS w B A xs) (hb : Below B w w') : RdS w' B A xs := h.keep fun _ _ hg => hb.cell (p := ⟨_, _, none⟩) hg
theorem RdS.mono (h : RdS w B A xs) (hB : B ≤ B') : RdS w B' A xs := fun hn =>
  let ⟨g, off, e, hg, hc⟩ := h hn
  ⟨g, off, e, Nat.lt_of_lt_of_le hg hB, hc⟩
theorem RdS.drewN (h : RdS w B A xs) (n : Nat) : RdS (w.drewN n) B A xs := h
theorem RdS.at_ {k : Nat} (h : RdS w B A xs) (hk : k < xs.length) : ∃ g off, A = some ⟨g, off, none⟩ ∧ g < B ∧ w.cell? ⟨g, off + k, none⟩ = some xs[k] :=
  let ⟨g, off, e, hg, hc⟩ := h (by intro e; subst e; simp at hk)
  ⟨g, off, e, hg, hc k _ (List.getElem?_eq_getElem hk)⟩
end
/-- numbers as values -/
def u64s (l : List Nat) : List Value := l.map fun n : Nat => .int .u64 (n : Int)
def u8s (l : List Nat) : List Value := l.map fun n : Nat => .int .u8 (n : Int)
theorem u64s_len (l : List Nat) : (u64s l).length = l.length := List.length_map _
theorem u8s_len (l : List Nat) : (u8s l).length = l.length := List.length_map _
theorem Rd64.at_ {w : World} {B k : Nat} {A : Option Addr} {l : List Nat} (h : RdS w B A (u64s l)) (hk : k < l.length) : ∃ g off, A = some ⟨g, off, none⟩ ∧ g < B ∧ w.cell? ⟨g, off + k, none⟩ = some (.int .u64 (l.getD k 0 : Nat)) := by
  obtain ⟨g, off, e, hg, hc⟩ := h.at_ (k := k) (by rw [u64s_len]; exact hk)
  refine ⟨g, off, e, hg, ?_⟩
  rw [hc]
  simp [u64s, List.getD, hk]
theorem Rd8.at_ {w : World} {B k : Nat} {A : Option Addr} {l : List Nat} (h : RdS w B A (u8s l)) (hk : k < l.length) : ∃ g off, A = some ⟨g, off, none⟩ ∧ g < B ∧ w.cell? ⟨g, off + k, none⟩ = some (.int .u8 (l.getD k 0 : Nat)) := by
  obtain ⟨g, off, e, hg, hc⟩ := h.at_ (k := k) (by rw [u8s_len]; exact hk)
  refine ⟨g, off, e, hg, ?_⟩
  rw [hc]
  simp [u8s, List.getD, hk]
/-- the first k are the same -/
theorem same_end {l m : List Nat} (hl : l.length = m.length) (h : ∀ k < l.length, l.getD k 0 = m.getD k 0) : l = m := by
  refine List.ext_getElem hl fun k h1 h2 => ?_
  have := h k h1
  simpa [List.getD, h1, h2] using this
/-- the world is the same, but for draws -/
def Drawn (w w' : World) : Prop := ∃ n, w' = w.drewN n
theorem Drawn.refl (w : World) : Drawn w w := ⟨0, rfl⟩
theorem Drawn.below {w w' : World} (h : Drawn w w') (B : Nat) : Below B w w' := by obtain ⟨n, rfl⟩ := h; exact below_drewN (Below.refl _ _) n
theorem Drawn.add (w : World) (n m : Nat) : Drawn w ((w.drewN n).drewN m) := ⟨n + m, by rw [World.drewN_drewN]⟩
theorem Drawn.drewN {w w' : World} (h : Drawn w w') (m : Nat) : Drawn w (w'.drewN m) := by obtain ⟨n, rfl⟩ := h; exact Drawn.add _ _ _
/-- block g, the call's own, holds R words f 0, f 1, .. -/
structure OwnW (w : World) (g R : Nat) (f : Nat → Nat) : Prop where
  lt : g < w.heap.size
  cell : ∀ j < R, w.cell? ⟨g, j, none⟩ = some (.int .u64 (f j : Nat))
  free : ∀ j, w.frozen? ⟨g, j, none⟩ = false
theorem OwnW.drewN {w : World} {g R : Nat} {f : Nat → Nat} (h : OwnW w g R f) (n : Nat) : OwnW (w.drewN n) g R f := ⟨h.lt, h.cell, h.free⟩
theorem OwnW.drew {w : World} {g R : Nat} {f : Nat → Nat} (h : OwnW w g R f) : OwnW w.drew g R f := ⟨h.lt, h.cell, h.free⟩
theorem OwnW.made (w : World) (R : Nat) (t : TypeId) : OwnW (w.alloc (.cells (madeCells #[.int .u64 0] R) t)) w.heap.size R fun _ => 0 := by
  refine ⟨by simp, fun j hj => ?_, fun j => by simp⟩
  have hs : (madeCells #[.int .u64 0] R).toList = List.replicate R (.int .u64 0) := toList_madeCells_one _ _
  have : (madeCells #[.int .u64 0] R)[j]? = some (Value.int .u64 0) := by
    rw [← Array.getElem?_toList, hs, List.getElem?_replicate, if_pos hj]
  simpa using this
theorem OwnW.set {w : World} {g R i v : Nat} {f : Nat → Nat} (h : OwnW w g R f) : OwnW (w.setCell ⟨g, i, none⟩ (.int .u64 (v : Nat))) g R fun j => if j = i then v else f j := by
  refine ⟨by simpa [World.setCell] using h.lt, fun j hj => ?_, fun j => by simpa using h.free j⟩
  by_cases e : j = i
  · subst e
    rw [if_pos rfl, World.cell?_setCell_same _ _ _ (h.cell j hj)]
  · rw [if_neg e, World.cell?_setCell_other _ _ _ _ (by intro he; injection he with _ h2 _; exact e h2.symm)]
    exact h.cell j hj
theorem OwnW.rd {w : World} {g R : Nat} {f : Nat → Nat} (h : OwnW w g R f) : RdS w w.heap.size (some ⟨g, 0, none⟩) (u64s ((List.range R).map f)) := fun _ =>
  ⟨g, 0, rfl, h.lt, fun j u hu => by
    rw [Nat.zero_add]
    by_cases hj : j < R
    · rw [h.cell j hj, ← hu]
      simp [u64s, hj]
    · simp [u64s, hj] at hu⟩
theorem OwnW.congr {w : World} {g R : Nat} {f f' : Nat → Nat} (h : OwnW w g R f) (e : ∀ j, f' j = f j) : OwnW w g R f' := ⟨h.lt, fun j hj => by rw [e]; exact h.cell j hj, h.free⟩
/-- a short list of words in a block that was just made -/
theorem RdS.lit {w : World} {g B : Nat} {t : TypeId} {cs : Array Value} (h : w.heap[g]? = some (.cells cs t (0, 0))) (hB : g < B) : RdS w B (some ⟨g, 0, none⟩) cs.toList := fun _ =>
  ⟨g, 0, rfl, hB, fun j u hu => by
    rw [Nat.zero_add, cell_of_row w g j cs t (0, 0) h, ← hu, Array.getElem?_toList]⟩
theorem RdS.new (w : World) (t : TypeId) (cs : Array Value) : RdS (w.alloc (.cells cs t)) (w.heap.size + 1) (some ⟨w.heap.size, 0, none⟩) cs.toList :=
  RdS.lit (heap_alloc_new w _) (by omega)
theorem RdS.up {w w' : World} {B B' : Nat} {A : Option Addr} {xs : List Value} (h : RdS w B A xs) (hb : Below B w w') (hB : B ≤ B') : RdS w' B' A xs := (h.below hb).mono hB
theorem bstep {w a b : World} (h : Below w.heap.size w a) (k : Below a.heap.size a b) : Below w.heap.size w b := h.trans (k.mono h.size)
theorem balloc {w a : World} (h : Below w.heap.size w a) (o : Obj) : Below w.heap.size w (a.alloc o) := h.alloc h.size o
theorem own_below {w w' : World} {base n size : Nat} {e : TypeId} {v : Value} {xs : List Value} (h : w.ownsRow base e size v n xs) (hb : Below w.heap.size w w') : w'.ownsRow base e size v n xs := by
  refine ⟨h.1, ?_⟩
  rcases h.2 with h0 | ⟨g, cap, cur, hv, hg, hh, h1, h2, h3, h4⟩
  · exact .inl h0
  · refine .inr ⟨g, cap, cur, hv, hg, ?_, h1, h2, h3, h4⟩
    rw [hb.block g ?_]; exact hh
    rcases Nat.lt_or_ge g w.heap.size with hlt | hge
    · exact hlt
    · rw [Array.getElem?_eq_none hge] at hh; cases hh
theorem own_rd {w : World} {base n : Nat} {e : TypeId} {v : Value} {xs : List Value} (h : w.ownsRow base e 1 v n xs) : ∃ A c, v = .slice A n c ∧ n ≤ c ∧ RdS w w.heap.size A xs := by
  have hl : xs.length = n := by have := h.1; omega
  rcases h.2 with ⟨hv, h0⟩ | ⟨g, cap, cur, hv, hg, hh, h1, h2, h3, h4⟩
  · have hx : xs = [] := List.eq_nil_of_length_eq_zero (by omega)
    exact ⟨none, 0, by rw [h0]; exact hv, by omega, by rw [hx]; exact RdS.nil _ _ _⟩
  · refine ⟨some ⟨g, 0, none⟩, cap, hv, h1, fun _ => ⟨g, 0, rfl, ?_, fun j u hu => ?_⟩⟩
    · rcases Nat.lt_or_ge g w.heap.size with hlt | hge
      · exact hlt
      · rw [Array.getElem?_eq_none hge] at hh; cases hh
    · rw [Nat.zero_add, cell_of_row w g j cur e (0, 0) hh, ← hu, ← h4, Nat.mul_one, List.getElem?_take, if_pos ?_, Array.getElem?_toList]
      rcases Nat.lt_or_ge j xs.length with hlt | hge
      · omega
      · rw [List.getElem?_eq_none hge] at hu; cases hu
theorem bgrown {w a b : World} {row : Option Nat} (h : Below w.heap.size w a) (hg : a.grownBy b row) (hr : ∀ k, row = some k → w.heap.size ≤ k) : Below w.heap.size w b := h.grown hg h.size hr
theorem own_base {w : World} {base n size : Nat} {e : TypeId} {v : Value} {xs : List Value} (h : w.ownsRow base e size v n xs) : ∀ k, v.ownBlock = some k → base ≤ k := fun k hk => (h.lt k hk).1
/-- the bytes of words -/
def bytes8 (n : Nat) : List Nat := [byteN n 0, byteN n 1, byteN n 2, byteN n 3, byteN n 4, byteN n 5, byteN n 6, byteN n 7]
def flatN (l : List Nat) : List Nat := l.flatMap bytes8
theorem flatN_len (l : List Nat) : (flatN l).length = 8 * l.length := by
  induction l with
  | nil => rfl
  | cons a l ih => simp only [flatN, List.flatMap_cons, List.length_append, List.length_cons] at *; rw [ih]; simp [bytes8]; omega
theorem flatN_take (l : List Nat) (k : Nat) (hk : k < l.length) : flatN (l.take (k + 1)) = flatN (l.take k) ++ bytes8 (l.getD k 0) := by
  unfold flatN
  rw [List.take_succ_eq_append_getElem hk, List.flatMap_append, getD_lt hk]
  simp
theorem u8s_append (a b : List Nat) : u8s (a ++ b) = u8s a ++ u8s b := List.map_append
theorem u64s_append (a b : List Nat) : u64s (a ++ b) = u64s a ++ u64s b := List.map_append
section
variable {P : Program} {w : World}
theorem app_nothing (base : Nat) (t ty e : TypeId) (i : TypeInfo) (size : Nat) (ht : P.underlying t = some (.slice e)) (hi : P.info? e = some i)
    (v : Value) (n : Nat) (xs : List Value) (hown : w.ownsRow base e size v n xs) (c : Nat) : (Builtin.append_ #[t, t] ty #[v, .slice none 0 c]).run P w = .ok v w := by
  rcases hown.2 with ⟨rfl, rfl⟩ | ⟨g, cap, cur, rfl, _, _, hn, _⟩ <;>
    simp [Builtin.append_, run_underlying ht, sizeOf, typeInfo, hi, Builtin.lenOf, Builtin.firstCells, storeCells] <;> omega
/-- append onto a row of the call's own: the source nil, empty or not -/
theorem wpList_app {ops : Array Oper} {rest : List Oper} {o : Oper} {a : Act} {Q : Exit → Act → World → Prop} (hgd : o.guard = none) (s x : Operand) (t : TypeId)
    (ho : o.op = .call { callee := .builtin .append, args := #[s, x], argTypes := #[t, t] })
    (base : Nat) (e : TypeId) (i : TypeInfo) (z : Value) (bytes : Nat) (ht : P.underlying t = some (.slice e)) (hi : P.info? e = some i) (hz : i.zero = some z)
    (hsize : i.size = 1) (hby : i.bytes = bytes) (hzs : z.cells.size = 1)
    (v : Value) (n : Nat) (xs : List Value) (hs : a.eval s = v) (hown : w.ownsRow base e 1 v n xs)
    (B m c : Nat) (A : Option Addr) (news : List Value) (hx : a.eval x = .slice A m c) (hm : news.length = m) (hr : RdS w B A news) (h1 : ∀ u ∈ news, u.oneCell' = true)
    (hbytes : (n + m) * bytes ≤ 140737488355328) (h63 : n + m ≤ maxLen) (hbase : base ≤ w.heap.size)
    (h : ∀ v' w', w'.ownsRow base e 1 v' (n + m) (xs ++ news) → w.grownBy w' v.ownBlock → wpList P ops Q rest (a.put o.dst v') w') : wpList P ops Q (o :: rest) a w := by
  cases A with
  | none =>
    have hn : news = [] := by
      rcases Decidable.em (news = []) with h0 | h0
      · exact h0
      · obtain ⟨g, off, e, _⟩ := hr h0; cases e
    subst hn
    subst hm
    refine wpList_plain hgd fun K hK => ?_
    have hrun := app_nothing (P := P) (w := w) base t o.type e i 1 ht hi v n xs hown c
    unfold Oper.wp
    simp [execOp, ho, resolve, invoke, builtin, hs, hx, hrun, Result.andThen]
    exact hK _ _ (h v w (by simpa using hown) (World.grownBy.refl w _))
  | some ad =>
    refine wpList_append_own w hgd s x t ho base e i z 1 bytes ht hi hz hsize hby hzs (by decide) v n xs hs hown ad m c news hx (by omega) (fun j u hu => ?_) h1 h63 hbytes hbase fun v' w' h2 h3 _ => h v' w' h2 h3
    obtain ⟨g, off, e, _, hc⟩ := hr (by intro e; subst e; simp at hu)
    injection e with e
    subst e
    have := hc j u hu
    unfold Addr.add
    split
    · rename_i h0; rw [h0, Nat.add_zero] at this; exact this
    · exact this
end
theorem one_u8s (l : List Nat) : ∀ u ∈ u8s l, u.oneCell' = true := by intro u hu; obtain ⟨n, _, rfl⟩ := List.mem_map.1 hu; rfl
theorem one_u64s (l : List Nat) : ∀ u ∈ u64s l, u.oneCell' = true := by intro u hu; obtain ⟨n, _, rfl⟩ := List.mem_map.1 hu; rfl
/-- word i of bytes -/
def wordAt (b : List Nat) (i : Nat) : Nat := bySum (fun j => b.getD (8 * i + j) 0) 8
def wordsN (b : List Nat) : List Nat := (List.range (b.length / 8)).map (wordAt b)
theorem wordsN_len (b : List Nat) : (wordsN b).length = b.length / 8 := by simp [wordsN]
theorem add_cell (w : World) (g o j : Nat) : w.cell? ((⟨g, o, none⟩ : Addr).add j) = w.cell? ⟨g, o + j, none⟩ := by
  unfold Addr.add
  split
  · rename_i h; rw [h, Nat.add_zero]
  · rfl
theorem OwnW.below {w w' : World} {g R B : Nat} {f : Nat → Nat} (h : OwnW w g R f) (hb : Below B w w') (hg : g < B) : OwnW w' g R f :=
  ⟨Nat.lt_of_lt_of_le h.lt hb.size, fun j hj => (bcell hb hg).trans (h.cell j hj), fun j => (hb.frozen (p := ⟨g, j, none⟩) hg).trans (h.free j)⟩
theorem flatN_get : ∀ (l : List Nat) (i j : Nat), i < l.length → j < 8 → (flatN l).getD (8 * i + j) 0 = byteN (l.getD i 0) j
  | [], i, j, hi, _ => by simp at hi
  | a :: l, 0, j, _, hj => by
    have h : (flatN (a :: l)) = bytes8 a ++ flatN l := rfl
    rw [h]
    simp only [List.getD]
    rw [List.getElem?_append_left (by simp [bytes8]; omega)]
    rcases lt8 hj with rfl | rfl | rfl | rfl | rfl | rfl | rfl | rfl <;> rfl
  | a :: l, i + 1, j, hi, hj => by
    have h : (flatN (a :: l)) = bytes8 a ++ flatN l := rfl
    have ih := flatN_get l i j (by simpa using hi) hj
    rw [h]
    simp only [List.getD] at ih ⊢
    rw [List.getElem?_append_right (by simp [bytes8]; omega), show (bytes8 a).length = 8 from rfl, show 8 * (i + 1) + j - 8 = 8 * i + j by omega, ih]
    rfl
theorem words_flat (l : List Nat) (h : ∀ n ∈ l, W64 n) : wordsN (flatN l) = l := by
  refine List.ext_getElem (by rw [wordsN_len, flatN_len]; omega) fun i h1 h2 => ?_
  have e : (wordsN (flatN l))[i] = wordAt (flatN l) i := by simp [wordsN]
  rw [e]
  unfold wordAt
  rw [mixN_congr _ (byteN (l.getD i 0)) 8 fun j hj => flatN_get l i j h2 hj, sum_bytes _ (by rw [getD_lt h2]; exact h _ (List.getElem_mem h2)), getD_lt h2]
theorem flatN_byte (l : List Nat) : ∀ n ∈ flatN l, n < 256 := by
  intro n hn
  obtain ⟨a, _, h⟩ := List.mem_flatMap.1 hn
  simp [bytes8] at h
  rcases h with rfl | rfl | rfl | rfl | rfl | rfl | rfl | rfl <;> exact byteN_lt _ _
/-- where 's[k:]' lies: the model keeps the address where the capacity ends there -/
def cutA (A : Option Addr) (k c : Nat) : Option Addr := if c = k then A else A.map fun a => a.add k
theorem RdS.cut {w : World} {B : Nat} {A : Option Addr} {xs : List Value} (h : RdS w B A xs) {k c : Nat} (hc : xs.length ≤ c) : RdS w B (cutA A k c) (xs.drop k) := fun hne => by
  have hk : k < xs.length := by
    rcases Nat.lt_or_ge k xs.length with h1 | h1
    · exact h1
    · exact absurd (List.drop_eq_nil_of_le h1) hne
  obtain ⟨g, off, rfl, hg, hcell⟩ := h (by intro e; subst e; simp at hk)
  unfold cutA
  rw [if_neg (by omega)]
  by_cases h0 : k = 0
  · subst h0
    exact ⟨g, off, by simp [Addr.add], hg, fun j u hu => hcell j u (by simpa using hu)⟩
  · exact ⟨g, off + k, by simp [Addr.add, h0], hg, fun j u hu => by
      rw [Nat.add_assoc]; exact hcell (k + j) u (by rw [← hu, List.getElem?_drop])⟩
theorem RdS.take {w : World} {B : Nat} {A : Option Addr} {xs : List Value} (h : RdS w B A xs) (k : Nat) : RdS w B A (xs.take k) := fun hne => by
  obtain ⟨g, off, e, hg, hcell⟩ := h (by intro e; subst e; simp at hne)
  refine ⟨g, off, e, hg, fun j u hu => hcell j u ?_⟩
  rw [List.getElem?_take] at hu
  split at hu
  · exact hu
  · cases hu
theorem u64s_drop (l : List Nat) (k : Nat) : u64s (l.drop k) = (u64s l).drop k := by unfold u64s; rw [List.map_drop]
theorem u64s_take (l : List Nat) (k : Nat) : u64s (l.take k) = (u64s l).take k := by unfold u64s; rw [List.map_take]
theorem u8s_drop (l : List Nat) (k : Nat) : u8s (l.drop k) = (u8s l).drop k := by unfold u8s; rw [List.map_drop]
theorem u8s_take (l : List Nat) (k : Nat) : u8s (l.take k) = (u8s l).take k := by unfold u8s; rw [List.map_take]
theorem run_cut {P : Program} {t e : TypeId} {i : TypeInfo} (ht : P.underlying t = some (.slice e)) (hi : P.info? e = some i) (hs : i.size = 1) (A : Option Addr) (n c k : Nat) (h1 : k ≤ n) (h2 : n ≤ c) (W : World) :
    (Instr.slice t (.slice A n c) (some (.int .i64 (k : Int))) none none).run P W = .ok (.slice (cutA A k c) (n - k) (c - k)) W := by
  have hk0 : 0 ≤ (k : Int) := by omega
  have hk1 : (k : Int) ≤ (n : Int) := by omega
  have hk2 : (n : Int) ≤ (c : Int) := by omega
  cases A <;> simp [Instr.slice, run_underlying ht, go_sem, hk0, hk1, cutA, typeInfo, hi, hs, sizeOf]
def sliceLen : Value → Nat | .slice _ n _ => n | _ => 0
/-- a block of another element type stays as it is while a row grows -/
theorem blk_app {w w' : World} {g : Nat} {cs : Array Value} {t e : TypeId} (h : w.heap[g]? = some (.cells cs t (0, 0))) (o : Obj) {base size n : Nat} {v : Value} {xs : List Value} (ho : w.ownsRow base e size v n xs) (hne : e ≠ t) (hg : (w.alloc o).grownBy w' v.ownBlock) :
    w'.heap[g]? = some (.cells cs t (0, 0)) := by
  have hlt : g < w.heap.size := by
    rcases Nat.lt_or_ge g w.heap.size with hlt | hge
    · exact hlt
    · rw [Array.getElem?_eq_none hge] at h; cases h
  rw [hg.block g (by simp; omega) ?_, Below.heap_alloc w o g hlt, h]
  intro he
  rcases ho.2 with ⟨rfl, _⟩ | ⟨g', cap, cur, rfl, _, hh, _⟩
  · cases he
  · have : g = g' := by simpa [Value.ownBlock] using he
    subst this
    rw [hh] at h
    injection h with h
    injection h with _ ht
    exact hne ht
theorem blk_below {w w' : World} {g : Nat} {cs : Array Value} {t : TypeId} (h : w.heap[g]? = some (.cells cs t (0, 0))) (hb : Below w.heap.size w w') : w'.heap[g]? = some (.cells cs t (0, 0)) := by
  have hlt : g < w.heap.size := by
    rcases Nat.lt_or_ge g w.heap.size with hlt | hge
    · exact hlt
    · rw [Array.getElem?_eq_none hge] at h; cases h
  rw [hb.block g hlt]; exact h
theorem cells8b {w : World} {g : Nat} {t : TypeId} (f : Nat → Value) (h : w.heap[g]? = some (.cells #[f 0, f 1, f 2, f 3, f 4, f 5, f 6, f 7] t (0, 0))) (k : Nat) (hk : k < 8) : w.cell? ⟨g, k, none⟩ = some (f k) := by
  rw [cell_of_row w g k _ t (0, 0) h]
  rcases lt8 hk with rfl | rfl | rfl | rfl | rfl | rfl | rfl | rfl <;> simp
theorem getD_drop (l : List Nat) (a n : Nat) : (l.drop a).getD n 0 = l.getD (a + n) 0 := by simp [List.getD, List.getElem?_drop]
theorem own_len {w : World} {base n : Nat} {e : TypeId} {v : Value} {xs : List Value} (h : w.ownsRow base e 1 v n xs) : n = xs.length := by have := h.1; omega
theorem run_cut2 {P : Program} {t e : TypeId} {i : TypeInfo} (ht : P.underlying t = some (.slice e)) (hi : P.info? e = some i) (hs : i.size = 1) (A : Option Addr) (n c : Nat) (lo hi' : Int) (a b : Nat) (ea : lo = (a : Int)) (eb : hi' = (b : Int)) (h0 : a ≤ b) (h1 : b ≤ n) (h2 : n ≤ c) (W : World) :
    (Instr.slice t (.slice A n c) (some (.int .i64 lo)) (some (.int .i64 hi')) none).run P W = .ok (.slice (cutA A a c) (b - a) (c - a)) W := by
  subst ea
  subst eb
  have hk0 : 0 ≤ (a : Int) := by omega
  have hk1 : (a : Int) ≤ (b : Int) := by omega
  have hk2 : (b : Int) ≤ (c : Int) := by omega
  have hk3 : 0 ≤ (b : Int) := by omega
  cases A <;> simp [Instr.slice, run_underlying ht, go_sem, hk0, hk2, hk3, cutA, typeInfo, hi, hs, sizeOf] <;> intro hh <;> omega
theorem RdS.at64 {w : World} {B k : Nat} {A : Option Addr} {l : List Nat} (h : RdS w B A (u64s l)) (hk : k < l.length) : ∃ g off, A = some ⟨g, off, none⟩ ∧ g < B ∧ w.cell? ⟨g, off + k, none⟩ = some (.int .u64 (l.getD k 0 : Nat)) := Rd64.at_ h hk
theorem blk_grown {w w' : World} {g : Nat} {cs : Array Value} {t e : TypeId} (h : w.heap[g]? = some (.cells cs t (0, 0))) {base size n : Nat} {v : Value} {xs : List Value} (ho : w.ownsRow base e size v n xs) (hne : e ≠ t) (hg : w.grownBy w' v.ownBlock) :
    w'.heap[g]? = some (.cells cs t (0, 0)) := by
  have hlt : g < w.heap.size := by
    rcases Nat.lt_or_ge g w.heap.size with hlt | hge
    · exact hlt
    · rw [Array.getElem?_eq_none hge] at h; cases h
  rw [hg.block g hlt ?_, h]
  intro he
  rcases ho.2 with ⟨rfl, _⟩ | ⟨g', cap, cur, rfl, _, hh, _⟩
  · cases he
  · have : g = g' := by simpa [Value.ownBlock] using he
    subst this
    rw [hh] at h
    injection h with h
    injection h with _ ht
    exact hne ht
theorem blk_lt {w : World} {g : Nat} {o : Obj} (h : w.heap[g]? = some o) : g < w.heap.size := by
  rcases Nat.lt_or_ge g w.heap.size with hlt | hge
  · exact hlt
  · rw [Array.getElem?_eq_none hge] at h; cases h
theorem blk_set {w : World} {g : Nat} {cs : Array Value} {t : TypeId} (h : w.heap[g]? = some (.cells cs t (0, 0))) (i : Nat) (u : Value) : (w.setCell ⟨g, i, none⟩ u).heap[g]? = some (.cells (cs.setIfInBounds i u) t (0, 0)) := by
  simp [World.setCell, Array.getElem?_modify, h]
/-- a row of another element type stays as it is while a block is written -/
theorem own_set {w : World} {g : Nat} {cs : Array Value} {t e : TypeId} (h : w.heap[g]? = some (.cells cs t (0, 0))) {base size n : Nat} {v : Value} {xs : List Value} (ho : w.ownsRow base e size v n xs) (hne : e ≠ t) (i : Nat) (u : Value) :
    (w.setCell ⟨g, i, none⟩ u).ownsRow base e size v n xs := by
  refine ⟨ho.1, ?_⟩
  rcases ho.2 with h0 | ⟨g', cap, cur, hv, hg', hh, h1, h2, h3, h4⟩
  · exact .inl h0
  · refine .inr ⟨g', cap, cur, hv, hg', ?_, h1, h2, h3, h4⟩
    rw [Below.heap_setCell w ⟨g, i, none⟩ u g' ?_]; exact hh
    rintro rfl
    rw [hh] at h
    injection h with h
    injection h with _ ht
    exact hne ht
theorem blk_cell {w : World} {g : Nat} {cs : Array Value} {t : TypeId} (h : w.heap[g]? = some (.cells cs t (0, 0))) (i : Nat) : w.cell? ⟨g, i, none⟩ = cs[i]? := cell_of_row w g i cs t (0, 0) h
theorem blk_free {w : World} {g : Nat} {cs : Array Value} {t : TypeId} (h : w.heap[g]? = some (.cells cs t (0, 0))) (i : Nat) : w.frozen? ⟨g, i, none⟩ = false := by simp [World.frozen?, h]
theorem run_cut3 {P : Program} {t e : TypeId} {i : TypeInfo} (ht : P.underlying t = some (.slice e)) (hi : P.info? e = some i) (hs : i.size = 1) (A : Option Addr) (n c k : Nat) (h1 : k ≤ n) (h2 : n ≤ c) (W : World) :
    (Instr.slice t (.slice A n c) none (some (.int .i64 (k : Int))) (some (.int .i64 (k : Int)))).run P W = .ok (.slice A k k) W := by
  have hk0 : 0 ≤ (k : Int) := by omega
  have hk1 : (k : Int) ≤ (n : Int) := by omega
  have hk2 : (k : Int) ≤ (c : Int) := by omega
  cases A <;> simp [Instr.slice, run_underlying ht, go_sem, hk0, hk2, typeInfo, hi, sizeOf]
theorem _root_.Go.World.ownsRow.drewN_ {w : World} {base size n : Nat} {e : TypeId} {v : Value} {xs : List Value} (h : w.ownsRow base e size v n xs) (k : Nat) : (w.drewN k).ownsRow base e size v n xs := h

end Go.Proofs.Ytcpapdjjeinpmaa
