/- Plain facts on this seat's mirrors (part VP3); each theorem bears its own conditions. -/
import Derived.Test.YtpfbdlcnfekdkaaVP2
import Derived.IntWalk
namespace Go.Proofs.Ytpfbdlcnfekdkaa
open Go.RowKit
set_option linter.unusedVariables false
set_option linter.unusedSimpArgs false
theorem zs_put {l : List Int} {N : Nat} (v : Int) (h : l.length < N) : setI (zs l N) (l.length : Int) v = zs (l ++ [v]) N := by
  unfold zs setI
  rw [Int.toNat_natCast, List.set_append_right _ _ (Nat.le_refl _), Nat.sub_self, List.length_append, List.length_singleton, List.append_assoc]
  congr 1
  obtain ⟨m, hm⟩ : ∃ m, N - l.length = m + 1 := ⟨N - l.length - 1, by omega⟩
  have : N - (l.length + 1) = m := by omega
  rw [hm, this, List.replicate_succ, List.set_cons_zero]
  rfl
/-- the words of the structs of a list -/
def cpW (W K : Nat) (ks : List Tr) (l : List Int) : List Int := foldI (fun s _ x => s ++ x.Words ++ List.replicate (W + K - x.Words.length) 0) l 0 ks
/-- the kids of the structs of a list -/
noncomputable def cpK (W K b : Nat) (ks : List Tr) (l : List Int) : List Int := foldI (fun s i x => lyK (b + i * (W + K) + W) x.Kids s) l 0 ks
def hd9 (t : Tr) (W K : Nat) (l : List Int) (a : Nat) : Int := ((l.length : Int) - a - 1) % 1073741824 * 4 + 1 + 7 * 4294967296 + ((t.Kids.length * (W + K) : Nat) : Int) * 34359738368
def tag9 (t : Tr) (W K : Nat) : Int := (t.Kids.length : Int) * 4 + (W : Int) * 4294967296 + (K : Int) * 281474976710656
theorem mul_succ_le {i n m : Nat} (h : i < n) : i * m + m ≤ n * m := by
  have := Nat.mul_le_mul_right m (show i + 1 ≤ n by omega)
  rwa [Nat.add_mul, Nat.one_mul] at this
theorem cpW_len {W K : Nat} {ks : List Tr} (hw : ∀ x ∈ ks, x.Words.length ≤ W) (l : List Int) : (cpW W K ks l).length = l.length + ks.length * (W + K) :=
  foldI_I (f := fun (s : List Int) _ (x : Tr) => s ++ x.Words ++ List.replicate (W + K - x.Words.length) 0) (fun i s => s.length = l.length + i * (W + K)) ks (fun i s x hi hx hm hI => by
    have := hw x hm
    rw [List.length_append, List.length_append, List.length_replicate, hI, Nat.add_mul, Nat.one_mul]
    omega) (s := l) (by omega)
/-- how many words the kids of a struct of a list take -/
def szK (k : Tr) : Int := (k.Kids.map sz).sum
theorem lay_comp {t : Tr} (h9 : t.Kind = 9) (hn : t.Kids.length ≤ 200000) {W K : Nat} (hf : fr t.Kids = ((W : Int), (K : Int))) (hW : W ≤ 65535) (hK : K ≤ 65535) (hwk : ∀ x ∈ t.Kids, x.Words.length ≤ W ∧ x.Kids.length ≤ K)
    (hk : ∀ x ∈ t.Kids, ∀ y ∈ x.Kids, Sim y ∧ 0 ≤ sz y) (es : sz t = 1 + ((t.Kids.length * (W + K) : Nat) : Int) + (t.Kids.map szK).sum) (l : List Int) (a : Nat) (ha : a < l.length) (hs : (l.length : Int) + sz t ≤ 131072) :
    ly t l a = cpK W K (l.length + 1) t.Kids (cpW W K t.Kids (setI l (a : Int) (hd9 t W K l a) ++ [tag9 t W K])) ∧ ((ly t l a).length : Int) = l.length + sz t ∧ (∀ j, SizeOf.sizeOf t < j → lv_centoref12_Lay j l (a : Int) t = some (ly t l a)) ∧
    (∀ N k : Nat, (l.length : Int) + sz t ≤ N → N ≤ 131072 → 4 * SizeOf.sizeOf t < k → (lv_canon_layer_point k).1 ⟨zs l N, (l.length : Int)⟩ (a : Int) t = some ⟨zs (ly t l a) N, ((ly t l a).length : Int)⟩) := by
  have hq : ∀ x ∈ t.Kids, 0 ≤ szK x := fun x hx => sum_pos fun y hy => (hk x hx y hy).2
  have s0 := sum_pos (f := szK) (xs := t.Kids) hq
  have hc : t.Kids.length * (W + K) ≤ 131072 := by omega
  have ec : IntKind.i64.wrap ((t.Kids.length : Int) * (IntKind.i64.wrap ((W : Int) + (K : Int)))) = ((t.Kids.length * (W + K) : Nat) : Int) := by
    rw [i64s (x := (W : Int) + _) (by omega) (by omega), ← Int.natCast_add, ← Int.natCast_mul, i64s (by omega) (by omega)]
  have ei : ∀ i : Nat, i < t.Kids.length → IntKind.i64.wrap ((IntKind.i64.wrap ((l.length : Int) + 1)) + (IntKind.i64.wrap ((i : Int) * (IntKind.i64.wrap ((W : Int) + (K : Int)))))) = ((l.length + 1 + i * (W + K) : Nat) : Int) := fun i hi => by
    have := mul_succ_le (m := W + K) hi
    rw [i64s (x := (W : Int) + _) (by omega) (by omega), ← Int.natCast_add, ← Int.natCast_mul, i64s (x := (l.length : Int) + 1) (by omega) (by omega), i64s (x := ((i * (W + K) : Nat) : Int)) (by omega) (by omega), i64s (by omega) (by omega)]
    omega
  have l1 := setI_len l (a : Int) (hd9 t W K l a)
  have l3 : (setI l (a : Int) (hd9 t W K l a) ++ [tag9 t W K]).length = l.length + 1 := by rw [List.length_append, l1]; rfl
  have l4 : (cpW W K t.Kids (setI l (a : Int) (hd9 t W K l a) ++ [tag9 t W K])).length = l.length + 1 + t.Kids.length * (W + K) := by rw [cpW_len (fun x hx => (hwk x hx).1), l3]
  generalize hL4 : cpW W K t.Kids (setI l (a : Int) (hd9 t W K l a) ++ [tag9 t W K]) = L4 at *
  have kst : ∀ (i : Nat) (s : List Int) (x : Tr), i < t.Kids.length → t.Kids[i]? = some x → x ∈ t.Kids → (s.length : Int) = L4.length + ((t.Kids.take i).map szK).sum →
      l.length + 1 + i * (W + K) + W + x.Kids.length ≤ s.length ∧ (s.length : Int) + (x.Kids.map sz).sum ≤ l.length + sz t ∧ ((lyK (l.length + 1 + i * (W + K) + W) x.Kids s).length : Int) = L4.length + ((t.Kids.take (i + 1)).map szK).sum := fun i s x hi hx hm hI => by
    obtain ⟨h1, h2⟩ := sum_step (f := szK) hx hq
    have h3 := sum_pos (f := szK) (xs := t.Kids.take i) fun y hy => hq y (List.mem_of_mem_take hy)
    have h4 := mul_succ_le (m := W + K) hi
    have h5 := (hwk x hm).2
    have h8 : szK x = (x.Kids.map sz).sum := rfl
    have h6 : l.length + 1 + i * (W + K) + W + x.Kids.length ≤ s.length := by omega
    have h7 := kidsLen (ks := x.Kids) (hk x hm) h6 (by omega)
    exact ⟨h6, by omega, by omega⟩
  have len : ((cpK W K (l.length + 1) t.Kids L4).length : Int) = l.length + sz t := by
    have := foldI_I (f := fun (s : List Int) i (x : Tr) => lyK (l.length + 1 + i * (W + K) + W) x.Kids s) (fun i s => (s.length : Int) = L4.length + ((t.Kids.take i).map szK).sum) t.Kids (fun i s x hi hx hm hI => (kst i s x hi hx hm hI).2.2) (s := L4) (by simp)
    rw [List.take_length] at this
    unfold cpK
    omega
  refine sim_of len (fun j hj => ?_) (fun N k hN hN2 hkk => ?_)
  · unfold b_centoref12_Lay
    rw [ieqF (by omega), cond_false, ieqF (by omega), cond_false, ieqF (by omega), cond_false, beq_t h9, cond_true, rframe_ok (by omega), Option.bind_some, hf]
    simp only
    rw [ec, u64i (x := ((t.Kids.length * (W + K) : Nat) : Int)) (by omega) (by omega), u64i (x := 8 * _) (by omega) (by omega), u64i (x := 7 + _) (by omega) (by omega), rpointer (by omega) (by omega) (by omega) (by omega) (by decide) (by decide) (by omega) (by omega), Option.bind_some, get_at ha, Option.bind_some]
    have ev : ((l.length : Int) - (a : Int) - 1) % 1073741824 * 4 + 1 + (7 + 8 * ((t.Kids.length * (W + K) : Nat) : Int)) * 4294967296 = hd9 t W K l a := by unfold hd9; omega
    rw [ev, i64s (x := 4 * (t.Kids.length : Int)) (by omega) (by omega), u64i (x := 4 * (t.Kids.length : Int)) (by omega) (by omega), u64i (x := (W : Int)) (by omega) (by omega), u64i (x := (K : Int)) (by omega) (by omega), u64i (x := 65536 * _) (by omega) (by omega), u64i (x := (W : Int) + _) (by omega) (by omega), u64i (x := 4294967296 * _) (by omega) (by omega), u64i (x := 4 * (t.Kids.length : Int) + _) (by omega) (by omega)]
    have et : 4 * (t.Kids.length : Int) + 4294967296 * ((W : Int) + 65536 * (K : Int)) = tag9 t W K := by unfold tag9; omega
    rw [et, appI_ok (by rw [l1]; simp only [List.length_singleton]; omega) (by rw [l1]; simp only [List.length_singleton]; omega), Option.bind_some]
    have a1 := (loop_I t.Kids (fun i s => (i, s)) (fun s => s) (b_centoref12_Lay_L2 t ((W : Int), (K : Int))) (fun (s : List Int) _ (x : Tr) => s ++ x.Words ++ List.replicate (W + K - x.Words.length) 0) (fun i s => s.length = l.length + 1 + i * (W + K)) (by omega) (fun i s x hi hx hm hI => by
      have h5 := (hwk x hm).1
      have h4 := mul_succ_le (m := W + K) hi
      refine ⟨?_, by rw [List.length_append, List.length_append, List.length_replicate, hI, Nat.add_mul, Nat.one_mul]; omega⟩
      unfold b_centoref12_Lay_L2
      simp only
      have e : IntKind.i64.wrap (IntKind.i64.wrap ((W : Int) + (K : Int)) - (x.Words.length : Int)) = ((W + K - x.Words.length : Nat) : Int) := by rw [i64s (x := (W : Int) + _) (by omega) (by omega), i64s (by omega) (by omega)]; omega
      rw [lt_t hi, cond_true, getI_of hx, Option.bind_some, appI_ok (by omega) (by omega), Option.bind_some, Option.bind_some, e, add_ok (by rw [List.length_append]; omega), Option.bind_some]) (fun s _ => by
      unfold b_centoref12_Lay_L2
      simp only
      rw [lt_f, cond_false]) (setI l (a : Int) (hd9 t W K l a) ++ [tag9 t W K]) (by rw [l3]; omega)).1
    unfold cpW at hL4
    rw [a1, Option.bind_some, hL4]
    have a2 := (loop_I t.Kids (fun i s => (i, s)) (fun s => s) (b_centoref12_Lay_L3 (lv_centoref12_Lay j) l t ((W : Int), (K : Int))) (fun (s : List Int) i (x : Tr) => lyK (l.length + 1 + i * (W + K) + W) x.Kids s) (fun i s => (s.length : Int) = L4.length + ((t.Kids.take i).map szK).sum) (by omega) (fun i s x hi hx hm hI => by
      obtain ⟨b1, b2, b3⟩ := kst i s x hi hx hm hI
      refine ⟨?_, b3⟩
      have b5 : 0 ≤ (x.Kids.map sz).sum := hq x hm
      have b4 := kidsR (ks := x.Kids) (hk x hm) b1 (by omega) j (b_centoref12_Lay_L4 (lv_centoref12_Lay j) l t ((W : Int), (K : Int)) ((i : Int), s)) (fun y hy => by have := kid_lt hm; have := kid_lt hy; omega) (fun i' s' y s'' hi' hy hm' hq => by
        unfold b_centoref12_Lay_L4
        simp only
        have e : IntKind.i64.wrap (IntKind.i64.wrap (((l.length + 1 + i * (W + K) : Nat) : Int) + (W : Int)) + (i' : Int)) = ((l.length + 1 + i * (W + K) + W + i' : Nat) : Int) := by rw [i64s (x := _ + (W : Int)) (by omega) (by omega), i64s (by omega) (by omega)]; omega
        rw [getI_of hx, Option.bind_some, lt_t hi', cond_true, Option.bind_some, getI_of hy, Option.bind_some, ei i hi, e, hq, Option.bind_some]) (fun s' => by
        unfold b_centoref12_Lay_L4
        simp only
        rw [getI_of hx, Option.bind_some, lt_f, cond_false])
      unfold b_centoref12_Lay_L3
      simp only
      rw [lt_t hi, cond_true, b4, Option.bind_some]) (fun s _ => by
      unfold b_centoref12_Lay_L3
      simp only
      rw [lt_f, cond_false]) L4 (by simp)).1
    rw [a2]
    rfl
  · rw [lvc1]
    unfold b_canon_layer_point
    have e1 : m_canon_shape t = some (⟨2, 0, 0, 0, 7, ((t.Kids.length * (W + K) : Nat) : Int), 0, false⟩ : S_ptr_Ptr) := by
      unfold m_canon_shape
      rw [ieqF (by omega), cond_false, beq_t h9, cond_true, frame_ok (by omega), Option.bind_some, hf]
      simp only
      rw [ec]
    have e2 : m_ptr_Ptr_Words (⟨2, 0, 0, 0, 7, ((t.Kids.length * (W + K) : Nat) : Int), 0, false⟩ : S_ptr_Ptr) = some (((t.Kids.length * (W + K) : Nat) : Int) + 1, true) := by
      unfold m_ptr_Ptr_Words
      simp only
      rw [ieqF (a := 2) (b := 1) (by decide), cond_false, beq_t (a := 2) (b := 2) rfl, cond_true, beq_t (a := 7) (b := 7) rfl, cond_true, i64s (by omega) (by omega)]
    rw [ieqF (by omega), cond_false, e1, Option.bind_some, e2, Option.bind_some]
    simp only
    rw [ieqF (a := 2) (b := 1) (by decide), cond_false, cond_false, Option.bind_some, i64s (x := (l.length : Int) - (a : Int)) (by omega) (by omega), i64s (by omega) (by omega), encL (by omega) (by omega) (by omega) (by omega) (by omega) (by omega), Option.bind_some, getz ha, Option.bind_some, zs_set ha, i64s (by omega) (by omega)]
    have ev : ((l.length : Int) - (a : Int) - 1) % 1073741824 * 4 + 1 + 7 * 4294967296 + ((t.Kids.length * (W + K) : Nat) : Int) * 34359738368 = hd9 t W K l a := by unfold hd9; rfl
    simp only
    rw [ev, lvc2]
    unfold b_canon_layer_content
    simp only
    rw [ieqF (by omega), cond_false, ieqF (by omega), cond_false, beq_t h9, cond_true, lvc4]
    unfold b_canon_layer_structs
    rw [frame_ok (by omega), Option.bind_some, hf]
    simp only
    have ez : (cond (decide (0 < (t.Kids.length : Int))) ((m_ptr_Encode (⟨1, (t.Kids.length : Int), (W : Int), (K : Int), 0, 0, 0, false⟩ : S_ptr_Ptr)).bind fun y4 => (getI (zs (setI l (a : Int) (hd9 t W K l a)) N) (l.length : Int)).bind fun x5 => some (setI (zs (setI l (a : Int) (hd9 t W K l a)) N) (l.length : Int) y4.1)) (some (zs (setI l (a : Int) (hd9 t W K l a)) N))) = some (zs (setI l (a : Int) (hd9 t W K l a) ++ [tag9 t W K]) N) := by
      by_cases q : 0 < t.Kids.length
      · have g : getI (zs (setI l (a : Int) (hd9 t W K l a)) N) (l.length : Int) = some (zs (setI l (a : Int) (hd9 t W K l a)) N)[l.length]! := by
          have : l.length < (zs (setI l (a : Int) (hd9 t W K l a)) N).length := by rw [zs_len (by omega)]; omega
          rw [get_at this, List.getElem!_eq_getElem?_getD, List.getElem?_eq_getElem this]
          rfl
        rw [decide_eq_true (by omega), cond_true, encS (by omega) (by omega) (by omega) (by omega) (by omega) (by omega) (by omega), Option.bind_some, g, Option.bind_some]
        have := zs_put (N := N) (l := setI l (a : Int) (hd9 t W K l a)) (tag9 t W K) (by omega)
        rw [l1] at this
        rw [← this]
        congr 2
        unfold tag9
        omega
      · have q0 : t.Kids = [] := List.length_eq_zero_iff.1 (by omega)
        rw [q0] at hf
        have hW0 : W = 0 ∧ K = 0 := by
          have : ((0 : Int), (0 : Int)) = ((W : Int), (K : Int)) := hf
          rw [Prod.mk.injEq] at this
          omega
        have t0 : tag9 t W K = 0 := by unfold tag9; rw [hW0.1, hW0.2, q0]; rfl
        rw [decide_eq_false (by omega), cond_false, t0]
        have := zs_add (N := N) (n := 1) (l := setI l (a : Int) (hd9 t W K l a)) (by omega)
        rw [List.replicate_one] at this
        rw [this]
    rw [ez, Option.bind_some]
    have a1 := (loop_I t.Kids (fun i s => (i, zs s N)) (fun s => zs s N) (b_canon_layer_structs_L0 (l.length : Int) t ((W : Int), (K : Int))) (fun (s : List Int) _ (x : Tr) => s ++ x.Words ++ List.replicate (W + K - x.Words.length) 0) (fun i s => s.length = l.length + 1 + i * (W + K)) (by omega) (fun i s x hi hx hm hI => by
      have h5 := (hwk x hm).1
      have h4 := mul_succ_le (m := W + K) hi
      refine ⟨?_, by rw [List.length_append, List.length_append, List.length_replicate, hI, Nat.add_mul, Nat.one_mul]; omega⟩
      unfold b_canon_layer_structs_L0
      simp only
      rw [lt_t hi, cond_true, getI_of hx, Option.bind_some, ei i hi, zs_len (by omega), guardI_ok (by omega), Option.bind_some, ← hI, zs_cpy (by omega), zs_add (by rw [List.length_append]; omega)]) (fun s _ => by
      unfold b_canon_layer_structs_L0
      simp only
      rw [lt_f, cond_false]) (setI l (a : Int) (hd9 t W K l a) ++ [tag9 t W K]) (by rw [l3]; omega)).1
    unfold cpW at hL4
    rw [a1, Option.bind_some, hL4]
    have a2 := (loop_I t.Kids (fun i s => (i, zs s N, (s.length : Int))) (fun s => (zs s N, (s.length : Int))) (b_canon_layer_structs_L1 (lv_canon_layer_point (k + 1)).2.2.1 (l.length : Int) t ((W : Int), (K : Int))) (fun (s : List Int) i (x : Tr) => lyK (l.length + 1 + i * (W + K) + W) x.Kids s) (fun i s => (s.length : Int) = L4.length + ((t.Kids.take i).map szK).sum) (by omega) (fun i s x hi hx hm hI => by
      obtain ⟨b1, b2, b3⟩ := kst i s x hi hx hm hI
      refine ⟨?_, b3⟩
      have b5 : 0 ≤ (x.Kids.map sz).sum := hq x hm
      have h4 := mul_succ_le (m := W + K) hi
      have b4 := kidsP (ks := x.Kids) (hk x hm) b1 (by omega) N k (by omega) hN2 (fun y hy => by have := kid_lt hm; have := kid_lt hy; omega)
      unfold b_canon_layer_structs_L1
      simp only
      have e : IntKind.i64.wrap (((l.length + 1 + i * (W + K) : Nat) : Int) + (W : Int)) = ((l.length + 1 + i * (W + K) + W : Nat) : Int) := by rw [i64s (by omega) (by omega)]; omega
      rw [lt_t hi, cond_true, getI_of hx, Option.bind_some, ei i hi, e, b4, Option.bind_some]) (fun s _ => by
      unfold b_canon_layer_structs_L1
      simp only
      rw [lt_f, cond_false]) L4 (by simp)).1
    have e6 : (l.length : Int) + (((t.Kids.length * (W + K) : Nat) : Int) + 1) = (L4.length : Int) := by omega
    rw [e6, a2]
    rfl

theorem lay_null {t : Tr} (h0 : t.Kind = 0) (l : List Int) (a : Nat) : ly t l a = l := by
  unfold ly
  show Option.getD (b_centoref12_Lay (lv_centoref12_Lay (SizeOf.sizeOf t)) l (a : Int) t) [] = l
  unfold b_centoref12_Lay
  rw [beq_t h0, cond_true]
  rfl
theorem okk_not {kind : Int} {k : Tr} (h : ¬ (2 ≤ kind ∧ kind ≤ 7)) (hk : okk kind k = true) : ¬ k.Kind = 10 ∧ (kind = 9 → k.Kind = 1) := by
  unfold okk at hk
  rw [if_neg h, Bool.and_eq_true, bne_iff_ne, Bool.or_eq_true, bne_iff_ne, beq_iff_eq] at hk
  exact ⟨hk.1, fun h9 => by rcases hk.2 with h | h; exact absurd h9 h; exact h⟩
theorem okk_atom {kind : Int} {k : Tr} {d : Nat} (h : 2 ≤ kind ∧ kind ≤ 7) (hb : Bd k) (hr : rt k d = true) (hk : okk kind k = true) : ∃ w, k.Words = [w] ∧ 0 ≤ w ∧ w < 18446744073709551616 ∧ fitsP (kind - 2) w = true := by
  unfold okk at hk
  rw [if_pos h, Bool.and_eq_true, beq_iff_eq] at hk
  obtain ⟨w, hw⟩ := rt_atom_w hk.1 hr
  have hu := hb.u w (by rw [hw]; exact .head _)
  refine ⟨w, hw, hu.1, hu.2, ?_⟩
  have := hk.2
  rwa [hw] at this
/-- what both laying words want of a tree -/
structure Fine (t : Tr) (d : Nat) : Prop where
  bd : Bd t
  rt : rt t d = true
  pt : pt t ≤ 200000
theorem Fine.kid {t x : Tr} {d : Nat} (h : Fine t d) (hx : x ∈ t.Kids) : Fine x (d - 1) := ⟨h.bd.all x hx, (rt_len h.rt).2.2.2.2 x hx, by have := h.pt; have := pt_kid hx; omega⟩
theorem fine_frame {t : Tr} {d : Nat} (h : Fine t d) (h9 : t.Kind = 9) : ∃ W K : Nat, fr t.Kids = ((W : Int), (K : Int)) ∧ W ≤ 65535 ∧ K ≤ 65535 ∧ (∀ x ∈ t.Kids, x.Words.length ≤ W ∧ x.Kids.length ≤ K) ∧ sz t = 1 + ((t.Kids.length * (W + K) : Nat) : Int) + (t.Kids.map szK).sum := by
  have p := h.pt
  have pk := pt_kids t
  obtain ⟨e, _, _, f0, f1, f2, f3, f4⟩ := h9_eq (l := t.Kids) (by omega) (fun x hx => by
    obtain ⟨r1, r2⟩ := (rt_inv h.rt (by omega) (by omega)).2.2.2 x hx
    have k1 := (okk_not (by omega) r2).2 h9
    obtain ⟨a1, a2, _⟩ := rt_inv r1 (by omega) (by omega)
    have := a2 k1
    omega)
  obtain ⟨W, hW⟩ := Int.eq_ofNat_of_zero_le f0
  obtain ⟨K, hK⟩ := Int.eq_ofNat_of_zero_le f2
  rw [hW] at f1
  rw [hK] at f3
  refine ⟨W, K, Prod.ext hW hK, by omega, by omega, fun x hx => ?_, ?_⟩
  · have := f4 x hx
    rw [hW, hK] at this
    omega
  · rw [sz_eq, if_neg (by omega), if_neg (by omega), if_neg (by omega), if_pos h9, e, hW, hK, ← Int.natCast_add, ← Int.natCast_mul]
    rfl
theorem sim_all : ∀ (n : Nat) (t : Tr) (d : Nat), SizeOf.sizeOf t < n → Fine t d → ¬ t.Kind = 10 → Sim t
  | 0, _, _, h, _, _ => by omega
  | n + 1, t, d, h, hf, h10 => by
    have p := hf.pt
    have pk := pt_kids t
    obtain ⟨g1, g2, _⟩ := rt_len hf.rt
    by_cases h0 : t.Kind = 0
    · exact sim_null h0
    obtain ⟨i1, i2, i3, i4⟩ := rt_inv hf.rt h0 h10
    have hk : ¬ (2 ≤ t.Kind ∧ t.Kind ≤ 7) → ∀ x ∈ t.Kids, Sim x ∧ 0 ≤ sz x := fun hn x hx =>
      ⟨sim_all n x (d - 1) (by have := kid_lt hx; omega) (hf.kid hx) (okk_not hn (i4 x hx).2).1, (sz_nn (hf.kid hx).rt (hf.kid hx).pt).1⟩
    by_cases h1 : t.Kind = 1
    · exact fun l a ha hs => (lay_struct h1 i1 (i2 h1) (hk (by omega)) l a ha hs).2
    by_cases h2 : 2 ≤ t.Kind ∧ t.Kind ≤ 7
    · exact fun l a ha hs => (lay_data h2 (by omega) (fun k hk => okk_atom h2 (hf.bd.all k hk) (hf.kid hk).rt (i4 k hk).2) l a ha hs).2
    by_cases h8 : t.Kind = 8
    · exact fun l a ha hs => (lay_ptrs h8 (by omega) (hk (by omega)) l a ha hs).2
    have h9 : t.Kind = 9 := by omega
    obtain ⟨W, K, e1, e2, e3, e4, e5⟩ := fine_frame hf h9
    exact fun l a ha hs => (lay_comp h9 (by omega) e1 e2 e3 e4 (fun x hx y hy => by
      have k1 := (okk_not (by omega) (i4 x hx).2).2 h9
      have j4 := (rt_inv (hf.kid hx).rt (by omega) (by omega)).2.2.2 y hy
      have fy := (hf.kid hx).kid hy
      exact ⟨sim_all n y (d - 1 - 1) (by have := kid_lt hx; have := kid_lt hy; omega) fy (okk_not (by omega) j4.2).1, (sz_nn fy.rt fy.pt).1⟩) e5 l a ha hs).2
theorem Fine.nrm {t : Tr} {d : Nat} (h : Fine t d) : Fine (nrm t) d := ⟨h.bd.nrm, rtN h.rt, Nat.le_trans (pt_nrmC _ t (Nat.lt_succ_self _)) h.pt⟩
/-- the words of a tree, if there are so few -/
noncomputable def enc (t : Tr) (most : Int) : List Int × Bool := if t.Kind = 10 ∨ rt t 64 = false then ([], false) else if most ≤ sz (nrm t) ∨ 131072 ≤ sz (nrm t) then ([], false) else (ly (nrm t) [0] 0, true)
theorem ly_of {t : Tr} (hf : Fine t 64) (h10 : ¬ t.Kind = 10) (hs : sz t < 131072) : ((ly t [0] 0).length : Int) = 1 + sz t ∧ m_centoref12_Lay [0] 0 t = some (ly t [0] 0) ∧ (makeI 8 (IntKind.i64.wrap (1 + sz t)) (0 : Int)).bind (fun l11 => (m_canon_layer_point (⟨l11, 1⟩ : S_canon_layer) 0 t).bind fun y13 => some (y13.words, true)) = some (ly t [0] 0, true) := by
  have s0 := (sz_nn hf.rt hf.pt).1
  obtain ⟨a, b, c⟩ := sim_all _ t 64 (Nat.lt_succ_self _) hf h10 [0] 0 (by decide) (by simp only [List.length_singleton]; omega)
  simp only [List.length_singleton] at a c
  refine ⟨by omega, lim_eq (SizeOf.sizeOf t + 1) fun k hk => b k (by omega), ?_⟩
  have e : m_canon_layer_point (⟨zs [0] (1 + sz t).toNat, 1⟩ : S_canon_layer) 0 t = some ⟨zs (ly t [0] 0) (1 + sz t).toNat, ((ly t [0] 0).length : Int)⟩ := lim_eq (4 * SizeOf.sizeOf t + 1) fun k hk => c (1 + sz t).toNat k (by omega) (by omega) (by omega)
  have e2 : List.replicate (1 + sz t).toNat (0 : Int) = zs [0] (1 + sz t).toNat := by
    unfold zs
    obtain ⟨m, hm⟩ : ∃ m, (1 + sz t).toNat = m + 1 := ⟨(sz t).toNat, by omega⟩
    rw [hm, List.replicate_succ]
    rfl
  have e3 : zs (ly t [0] 0) (1 + sz t).toNat = ly t [0] 0 := by
    unfold zs
    rw [show (1 + sz t).toNat - (ly t [0] 0).length = 0 by omega, List.replicate_zero, List.append_nil]
  rw [i64s (by omega) (by omega), makeI_ok (by omega) (by omega) (by omega), Option.bind_some, e2, e, Option.bind_some, e3]
theorem encode_ok {t : Tr} (hb : Bd t) (hp : pt t ≤ 200000) (most : Int) : m_canon_Encode t most = some (enc t most) ∧ m_centoref12_Encode t most = some (enc t most) ∧ (((enc t most).1.length : Nat) : Int) ≤ 131072 := by
  unfold m_canon_Encode m_centoref12_Encode enc
  rw [right_ok hb, Option.bind_some, show ((64 : Int)) = ((64 : Nat) : Int) from rfl, rright_ok hb (Nat.le_refl _), Option.bind_some]
  by_cases h10 : t.Kind = 10
  · rw [if_pos (.inl h10), beq_t h10]
    simp
  cases hr : rt t 64 with
  | false =>
    rw [if_pos (.inr rfl), ieqF h10]
    simp
  | true =>
    have hf : Fine (nrm t) 64 := Fine.nrm ⟨hb, hr, hp⟩
    have hn := sz_nn hf.rt hf.pt
    rw [if_neg (by simp [h10]), ieqF h10]
    simp only [cond_false, cond_true, Bool.not_true, Option.bind_some]
    rw [norm_ok hb, rnorm_ok hb, Option.bind_some, Option.bind_some, Size_ok (d := 64) hb.nrm hf.rt, Option.bind_some, nrm_nrm, rsize_ok hf.rt, Option.bind_some, Option.bind_some, i64s (x := sz (nrm t)) (by omega) (by omega), i64s (x := 1 + sz (nrm t)) (by omega) (by omega)]
    by_cases q : most ≤ sz (nrm t) ∨ 131072 ≤ sz (nrm t)
    · rw [if_pos q]
      have q1 : (cond (decide (most < 1 + sz (nrm t))) true (decide (131072 < 1 + sz (nrm t)))) = true := by
        by_cases q2 : most ≤ sz (nrm t)
        · rw [decide_eq_true (by omega), cond_true]
        · rw [decide_eq_false (by omega), cond_false, decide_eq_true (by omega)]
      have q2 : (cond (decide (most ≤ sz (nrm t))) (some true) (some (cond (decide (most ≤ sz (nrm t))) true (decide (131072 ≤ sz (nrm t)))))) = some true := by
        by_cases q2 : most ≤ sz (nrm t)
        · rw [decide_eq_true q2, cond_true]
        · rw [decide_eq_false q2, cond_false, cond_false, decide_eq_true (by omega)]
      rw [q1, q2, cond_true, Option.bind_some, cond_true]
      exact ⟨rfl, rfl, by decide⟩
    · rw [if_neg q]
      obtain ⟨a, b, c⟩ := ly_of hf (by rw [nrm_kind]; exact h10) (by omega)
      rw [i64s (x := 1 + sz (nrm t)) (by omega) (by omega)] at c
      have q1 : (cond (decide (most < 1 + sz (nrm t))) true (decide (131072 < 1 + sz (nrm t)))) = false := by
        rw [decide_eq_false (by omega), cond_false, decide_eq_false (by omega)]
      have q2 : (cond (decide (most ≤ sz (nrm t))) (some true) (some (cond (decide (most ≤ sz (nrm t))) true (decide (131072 ≤ sz (nrm t)))))) = some false := by
        rw [decide_eq_false (by omega), cond_false, cond_false, decide_eq_false (by omega)]
      rw [q1, q2, cond_false, Option.bind_some, cond_false, c, b]
      exact ⟨rfl, rfl, by simp only; omega⟩
def T12 : Tr := ⟨1, [5], [⟨8, [], [⟨0, [], []⟩]⟩]⟩
theorem bd12 : Bd T12 := by
  have n : Bd ⟨0, [], []⟩ := .mk _ (by decide) (by decide) (fun w hw => by cases hw) (fun k hk => by cases hk)
  have l : Bd ⟨8, [], [⟨0, [], []⟩]⟩ := .mk _ (by decide) (by simp) (fun w hw => by cases hw) (fun k hk => by rw [List.mem_singleton.1 hk]; exact n)
  exact .mk _ (by simp [T12]) (by simp [T12]) (fun w hw => by rw [List.mem_singleton.1 hw]; decide) (fun k hk => by rw [List.mem_singleton.1 hk]; exact l)
theorem awake12 : m_centolaw12_awake = some true := by
  have p : pt T12 ≤ 200000 := by simp [T12, pt_eq]
  have r0 : ∀ d, rt ⟨0, [], []⟩ d = true := fun d => by rw [rt_eq]; rfl
  have r8 : rt ⟨8, [], [⟨0, [], []⟩]⟩ 63 = true := by
    rw [rt_eq, if_neg (by decide), if_neg (by decide), if_neg (by simp)]
    simp only [List.all_cons, List.all_nil, r0]
    rfl
  have r : rt T12 64 = true := by
    rw [rt_eq, if_neg (by decide), if_neg (by decide), if_neg (by simp [T12])]
    simp only [T12, List.all_cons, List.all_nil, r8, Nat.reduceSub]
    rfl
  have nn : nrm T12 = T12 := by simp [T12, nrm_eq, tr]
  have s : sz T12 = 3 := by simp [T12, sz_eq]
  have sn : sz ⟨0, [], []⟩ = 0 := by simp [sz_eq]
  have sl : sz ⟨8, [], [⟨0, [], []⟩]⟩ = 1 := by simp [sz_eq]
  have f : Fine T12 64 := ⟨bd12, r, p⟩
  have e : enc T12 9 = (ly T12 [0] 0, true) := by
    unfold enc
    rw [if_neg (by rw [r]; simp [T12]), nn, s, if_neg (by decide)]
  have fl : Fine (⟨8, [], [⟨0, [], []⟩]⟩ : Tr) 63 := f.kid (.head _)
  have simn : Sim ⟨0, [], []⟩ := sim_null rfl
  have siml : Sim ⟨8, [], [⟨0, [], []⟩]⟩ := sim_all _ _ 63 (Nat.lt_succ_self _) fl (by decide)
  have e1 := (lay_struct (t := T12) rfl (by decide) (by decide) (fun x hx => by rw [List.mem_singleton.1 hx]; exact ⟨siml, by rw [sl]; decide⟩) [0] 0 (by decide) (by rw [s]; decide)).1
  have e2 : lyK (([0] : List Int).length + T12.Words.length) T12.Kids (RS1 T12 [0] 0) = ly ⟨8, [], [⟨0, [], []⟩]⟩ [281479271677952, 5, 0] 2 := rfl
  have e3 := (lay_ptrs (t := ⟨8, [], [⟨0, [], []⟩]⟩) rfl (by decide) (fun x hx => by rw [List.mem_singleton.1 hx]; exact ⟨simn, by rw [sn]; decide⟩) [281479271677952, 5, 0] 2 (by decide) (by rw [sl]; decide)).1
  have e4 : lyK ([281479271677952, 5, 0] : List Int).length (⟨8, [], [⟨0, [], []⟩]⟩ : Tr).Kids (setI [281479271677952, 5, 0] ((2 : Nat) : Int) (hdL ⟨8, [], [⟨0, [], []⟩]⟩ [281479271677952, 5, 0] 2) ++ List.replicate (⟨8, [], [⟨0, [], []⟩]⟩ : Tr).Kids.length 0) = ly ⟨0, [], []⟩ [281479271677952, 5, 60129542145, 0] 3 := rfl
  have ey : ly T12 [0] 0 = [281479271677952, 5, 60129542145, 0] := by rw [e1, e2, e3, e4, lay_null rfl]
  unfold m_centolaw12_awake
  have := (encode_ok bd12 p 9).1
  rw [e, ey] at this
  unfold T12 at this
  rw [this, Option.bind_some]
  simp only
  rw [cond_true, sameW_ok (by decide)]
  rfl
/-- the numbers put, read again -/
def putJ (w N : Nat) (ns : List Int) (i : Nat) (s : List Int) : Prop := putI w N i s ∧ ∀ (j : Nat) (n : Int), j < i → ns[j]? = some n → (s[j * w / 64]?.getD 0) / 2 ^ (j * w % 64) % 2 ^ w = n
theorem putJ_step {w N i : Nat} {ns s : List Int} {n : Int} (hw : 0 < w) (hs : ∀ i : Nat, i * w % 64 + w ≤ 64) (hi : i < N) (hx : ns[i]? = some n) (hI : putJ w N ns i s) (n0 : 0 ≤ n) (n1 : n < 2 ^ w) : putJ w N ns (i + 1) (putF w s i n) := by
  obtain ⟨v, hv, v0, v1, v2, v3, v4⟩ := putF_I hw (hs i) hi hI.1 n0 n1
  refine ⟨v4, fun j m hj hm => ?_⟩
  have hq : i * w / 64 < s.length := (List.getElem?_eq_some_iff.1 hv).1
  have e0 : putF w s i n = s.set (i * w / 64) (v + n * 2 ^ (i * w % 64)) := by
    unfold putF setI
    rw [hv, Int.toNat_natCast]
    rfl
  rw [e0, List.getElem?_set]
  have pz : ∀ k : Nat, (2 : Int) ^ k ≠ 0 := fun k => Int.ne_of_gt (Int.pow_pos (by decide))
  by_cases h : i * w / 64 = j * w / 64
  · rw [if_pos h, if_pos hq, Option.getD_some]
    by_cases hji : j = i
    · subst hji
      rw [hx] at hm
      cases hm
      rw [Int.add_mul_ediv_right _ _ (pz _), Int.ediv_eq_zero_of_lt v0 v1, Int.zero_add, Int.emod_eq_of_lt n0 n1]
    · have hlt : j < i := by omega
      have h2 := mul_succ_le (m := w) hlt
      have h3 : j * w % 64 + w ≤ i * w % 64 := by omega
      have e : n * 2 ^ (i * w % 64) = n * 2 ^ (i * w % 64 - (j * w % 64 + w)) * 2 ^ w * 2 ^ (j * w % 64) := by
        rw [Int.mul_assoc, Int.mul_assoc, ← Int.pow_add, ← Int.pow_add]
        congr 2
        omega
      rw [e, Int.add_mul_ediv_right _ _ (pz _), Int.add_mul_emod_self_right]
      have := hI.2 j m hlt hm
      rw [← h, hv, Option.getD_some] at this
      exact this
  · rw [if_neg h]
    have hlt : j < i := by
      rcases Nat.lt_or_ge j i with q | q
      · exact q
      · exact absurd (by rw [show j = i by omega]) h
    exact hI.2 j m hlt hm
theorem putJ_all {w : Nat} (hw : 0 < w) (hs : ∀ i : Nat, i * w % 64 + w ≤ 64) {ns : List Int} (hf : ∀ n ∈ ns, 0 ≤ n ∧ n < 2 ^ w) : putJ w ns.length ns ns.length (foldI (putF w) (List.replicate ((ns.length * w + 63) / 64) 0) 0 ns) :=
  foldI_I (f := putF w) (putJ w ns.length ns) ns (fun i s x hi hx hm hI => putJ_step hw hs hi hx hI (hf x hm).1 (hf x hm).2) ⟨put0_I w ns.length, fun j n hj => by omega⟩
theorem putC_inj {c : Int} (h : 0 ≤ c ∧ c ≤ 5) {ns ms : List Int} (hl : ns.length = ms.length) (hn : ∀ n ∈ ns, 0 ≤ n ∧ fitsP c n = true) (hm : ∀ n ∈ ms, 0 ≤ n ∧ fitsP c n = true) (e : putC c ns = putC c ms) : ns = ms := by
  have ff : ∀ l : List Int, (∀ n ∈ l, 0 ≤ n ∧ fitsP c n = true) → ∀ n ∈ l, 0 ≤ n ∧ n < 2 ^ wid c := fun l hl n hn => ⟨(hl n hn).1, by have := (hl n hn).2; unfold fitsP at this; exact of_decide_eq_true this⟩
  refine List.ext_getElem hl fun i h1 h2 => ?_
  have a1 := ff ns hn _ (List.getElem_mem h1)
  have a2 := ff ms hm _ (List.getElem_mem h2)
  by_cases h0 : c = 0
  · subst h0
    have : (2 : Int) ^ wid 0 = 1 := rfl
    rw [this] at a1 a2
    omega
  · unfold putC at e
    rw [if_neg h0, if_neg h0] at e
    have key : 0 < wid c ∧ ∀ i : Nat, i * wid c % 64 + wid c ≤ 64 := by
      rcases c5' h with rfl | rfl | rfl | rfl | rfl | rfl
      · exact absurd rfl h0
      · exact ⟨by decide, fun i => by show i * 1 % 64 + 1 ≤ 64; omega⟩
      · exact ⟨by decide, fun i => by show i * 8 % 64 + 8 ≤ 64; omega⟩
      · exact ⟨by decide, fun i => by show i * 16 % 64 + 16 ≤ 64; omega⟩
      · exact ⟨by decide, fun i => by show i * 32 % 64 + 32 ≤ 64; omega⟩
      · exact ⟨by decide, fun i => by show i * 64 % 64 + 64 ≤ 64; omega⟩
    have b1 := (putJ_all key.1 key.2 (ff ns hn)).2 i _ h1 (List.getElem?_eq_getElem h1)
    have b2 := (putJ_all key.1 key.2 (ff ms hm)).2 i _ h2 (List.getElem?_eq_getElem h2)
    rw [e] at b1
    rw [← b1, ← b2]

/-- a norm that may be laid -/
structure Nm (t : Tr) (d : Nat) : Prop where
  f : Fine t d
  n : nrm t = t
  k : ¬ t.Kind = 10
theorem Nm.kid {t x : Tr} {d : Nat} (h : Nm t d) (h0 : ¬ t.Kind = 0) (hx : x ∈ t.Kids) (h10 : ¬ x.Kind = 10) : Nm x (d - 1) := by
  refine ⟨h.f.kid hx, ?_, h10⟩
  have hn := h.n
  by_cases h1 : t.Kind = 1
  · rw [nrm_struct h1] at hn
    rw [← hn] at hx
    simp only at hx
    obtain ⟨y, _, rfl⟩ := List.mem_map.1 (tr_mem hx)
    exact nrm_nrm y
  · rw [nrm_list h0 h1] at hn
    rw [← hn] at hx
    simp only at hx
    obtain ⟨y, _, rfl⟩ := List.mem_map.1 hx
    exact nrm_nrm y
theorem Nm.words {t : Tr} {d : Nat} (h : Nm t d) (h1 : t.Kind = 1) : tr (fun x => x == 0) t.Words = t.Words := by
  have hn := h.n
  rw [nrm_struct h1] at hn
  exact congrArg S_api_Tree.Words hn
theorem Nm.kids {t : Tr} {d : Nat} (h : Nm t d) (h1 : t.Kind = 1) : tr (fun x => x.Kind == 0) t.Kids = t.Kids := by
  have hn := h.n
  rw [nrm_struct h1] at hn
  have := congrArg S_api_Tree.Kids hn
  simp only at this
  rw [← this, tr_tr]
theorem Nm.sim {t : Tr} {d : Nat} (h : Nm t d) : Sim t ∧ 0 ≤ sz t := ⟨sim_all _ t d (Nat.lt_succ_self _) h.f h.k, (sz_nn h.f.rt h.f.pt).1⟩
theorem Nm.okids {t : Tr} {d : Nat} (h : Nm t d) (h18 : t.Kind = 1 ∨ t.Kind = 8) : ∀ x ∈ t.Kids, Nm x (d - 1) := fun x hx =>
  h.kid (by omega) hx (okk_not (by omega) ((rt_inv h.f.rt (by omega) h.k).2.2.2 x hx).2).1
theorem Nm.structs {t : Tr} {d : Nat} (h : Nm t d) (h9 : t.Kind = 9) : ∀ x ∈ t.Kids, Nm x (d - 1) ∧ x.Kind = 1 := fun x hx => by
  have k1 := (okk_not (by omega) ((rt_inv h.f.rt (by omega) h.k).2.2.2 x hx).2).2 h9
  exact ⟨h.kid (by omega) hx (by omega), k1⟩
theorem Nm.null {t : Tr} {d : Nat} (h : Nm t d) (h0 : t.Kind = 0) : t = ⟨0, [], []⟩ := by
  have := h.n
  rwa [nrm_null h0, eq_comm] at this
/-- nothing ahead of what is laid is changed, the pointer aside -/
def Pres (t : Tr) : Prop := ∀ (l : List Int) (a : Nat), a < l.length → (l.length : Int) + sz t ≤ 131072 → ∀ p, p < l.length → ¬ p = a → (ly t l a)[p]? = l[p]?
theorem foldI_shift {α σ : Type} : ∀ (xs : List α) (f : σ → Nat → α → σ) (s : σ) (k : Nat), foldI f s k xs = foldI (fun s i x => f s (k + i) x) s 0 xs
  | [], f, s, k => rfl
  | x :: xs, f, s, k => by
    show foldI f (f s k x) (k + 1) xs = foldI (fun s i x => f s (k + i) x) (f s (k + 0) x) (0 + 1) xs
    rw [foldI_shift xs f _ (k + 1), foldI_shift xs (fun s i x => f s (k + i) x) _ (0 + 1)]
    have : (fun (s : σ) (i : Nat) (x : α) => f s (k + (0 + 1 + i)) x) = fun s i x => f s (k + 1 + i) x := by
      funext s i x
      rw [show k + (0 + 1 + i) = k + 1 + i by omega]
    rw [this]
    rfl
theorem lyK_cons (b : Nat) (x : Tr) (xs : List Tr) (l : List Int) : lyK b (x :: xs) l = lyK (b + 1) xs (ly x l b) := by
  unfold lyK
  show foldI (fun l i x => ly x l (b + i)) (ly x l (b + 0)) (0 + 1) xs = _
  rw [foldI_shift]
  have : (fun (l : List Int) (i : Nat) (x : Tr) => ly x l (b + (0 + 1 + i))) = fun l i x => ly x l (b + 1 + i) := by
    funext s i x
    rw [show b + (0 + 1 + i) = b + 1 + i by omega]
  rw [this]
  rfl
theorem presK : ∀ {ks : List Tr}, (∀ x ∈ ks, (Sim x ∧ 0 ≤ sz x) ∧ Pres x) → ∀ {l : List Int} {b : Nat}, b + ks.length ≤ l.length → (l.length : Int) + (ks.map sz).sum ≤ 131072 → ∀ p, p < l.length → (p < b ∨ b + ks.length ≤ p) → (lyK b ks l)[p]? = l[p]?
  | [], _, l, b, _, _, p, _, _ => rfl
  | x :: xs, hk, l, b, hb, hs, p, hp, hq => by
    obtain ⟨⟨h1, h2⟩, h3⟩ := hk x (.head _)
    have hp2 := sum_pos (f := sz) (xs := xs) fun y hy => (hk y (.tail _ hy)).1.2
    simp only [List.map_cons, List.sum_cons, List.length_cons] at hb hs hq
    have e := (h1 l b (by omega) (by omega)).1
    rw [lyK_cons, presK (fun y hy => hk y (.tail _ hy)) (by omega) (by omega) p (by omega) (by omega), h3 l b (by omega) (by omega) p hp (by omega)]
theorem set_get {l : List Int} {a p : Nat} {v : Int} (ha : a < l.length) : (setI l (a : Int) v)[p]? = if a = p then some v else l[p]? := by
  unfold setI
  rw [Int.toNat_natCast, List.getElem?_set]
  by_cases h : a = p
  · rw [if_pos h, if_pos h, if_pos ha]
  · rw [if_neg h, if_neg h]
theorem app_get {l m : List Int} {p : Nat} (h : p < l.length) : (l ++ m)[p]? = l[p]? := List.getElem?_append_left h
/-- the pointer's word -/
def hdS (t : Tr) (l : List Int) (a : Nat) : Int := offS t l a % 1073741824 * 4 + (t.Words.length : Int) * 4294967296 + (t.Kids.length : Int) * 281474976710656
theorem rs1_get {t : Tr} {l : List Int} {a p : Nat} (ha : a < l.length) (hp : p < l.length) : (RS1 t l a)[p]? = if a = p then some (hdS t l a) else l[p]? := by
  unfold RS1
  rw [List.append_assoc, app_get (by rw [setI_len]; exact hp), set_get ha]
  rfl
theorem rs1_len (t : Tr) (l : List Int) (a : Nat) : (RS1 t l a).length = l.length + t.Words.length + t.Kids.length := by unfold RS1; rw [List.length_append, List.length_append, setI_len, List.length_replicate]
/-- what there is to know of a struct that is laid -/
theorem st_know {t : Tr} {d : Nat} (h : Nm t d) (h1 : t.Kind = 1) (hP : ∀ x ∈ t.Kids, Pres x) {l : List Int} {a : Nat} (ha : a < l.length) (hs : (l.length : Int) + sz t ≤ 131072) :
    ly t l a = lyK (l.length + t.Words.length) t.Kids (RS1 t l a) ∧ t.Words.length < 65536 ∧ t.Kids.length < 65536 ∧ (∀ x ∈ t.Kids, (Sim x ∧ 0 ≤ sz x) ∧ Pres x) ∧ ((RS1 t l a).length : Int) + (t.Kids.map sz).sum ≤ 131072 ∧
    ∀ p, p < (RS1 t l a).length → (p < l.length + t.Words.length ∨ l.length + t.Words.length + t.Kids.length ≤ p) → (ly t l a)[p]? = (RS1 t l a)[p]? := by
  obtain ⟨i1, i2, _, i4⟩ := rt_inv h.f.rt (by omega) h.k
  have hk : ∀ x ∈ t.Kids, (Sim x ∧ 0 ≤ sz x) ∧ Pres x := fun x hx => ⟨(h.okids (.inl h1) x hx).sim, hP x hx⟩
  have e := (lay_struct h1 i1 (i2 h1) (fun x hx => (hk x hx).1) l a ha hs).1
  have es : sz t = ((t.Words.length : Int) + (t.Kids.length : Int)) + (t.Kids.map sz).sum := by rw [sz_eq, if_pos h1]
  have l2 := rs1_len t l a
  have hs2 : ((RS1 t l a).length : Int) + (t.Kids.map sz).sum ≤ 131072 := by omega
  refine ⟨e, i1, i2 h1, hk, hs2, fun p hp hq => ?_⟩
  rw [e]
  exact presK hk (by omega) hs2 p hp hq

def RP8 (t : Tr) (l : List Int) (a : Nat) : List Int := setI l (a : Int) (hdL t l a) ++ List.replicate t.Kids.length 0
theorem rp8_get {t : Tr} {l : List Int} {a p : Nat} (ha : a < l.length) (hp : p < l.length) : (RP8 t l a)[p]? = if a = p then some (hdL t l a) else l[p]? := by
  unfold RP8
  rw [app_get (by rw [setI_len]; exact hp), set_get ha]
theorem rp8_len (t : Tr) (l : List Int) (a : Nat) : (RP8 t l a).length = l.length + t.Kids.length := by unfold RP8; rw [List.length_append, setI_len, List.length_replicate]
theorem len_bd {t : Tr} {d : Nat} (h : Nm t d) : t.Kids.length ≤ 200000 := by
  have := pt_kids t
  have := h.f.pt
  omega
theorem pt_know {t : Tr} {d : Nat} (h : Nm t d) (h8 : t.Kind = 8) (hP : ∀ x ∈ t.Kids, Pres x) {l : List Int} {a : Nat} (ha : a < l.length) (hs : (l.length : Int) + sz t ≤ 131072) :
    ly t l a = lyK l.length t.Kids (RP8 t l a) ∧ (∀ x ∈ t.Kids, (Sim x ∧ 0 ≤ sz x) ∧ Pres x) ∧ ((RP8 t l a).length : Int) + (t.Kids.map sz).sum ≤ 131072 ∧
    ∀ p, p < (RP8 t l a).length → (p < l.length ∨ l.length + t.Kids.length ≤ p) → (ly t l a)[p]? = (RP8 t l a)[p]? := by
  have hk : ∀ x ∈ t.Kids, (Sim x ∧ 0 ≤ sz x) ∧ Pres x := fun x hx => ⟨(h.okids (.inr h8) x hx).sim, hP x hx⟩
  have e := (lay_ptrs h8 (len_bd h) (fun x hx => (hk x hx).1) l a ha hs).1
  have es : sz t = (t.Kids.length : Int) + (t.Kids.map sz).sum := by rw [sz_eq, if_neg (by omega), if_neg (by omega), if_pos h8]
  have l2 := rp8_len t l a
  have hs2 : ((RP8 t l a).length : Int) + (t.Kids.map sz).sum ≤ 131072 := by omega
  refine ⟨e, hk, hs2, fun p hp hq => ?_⟩
  rw [e]
  exact presK hk (by omega) hs2 p hp hq
theorem Nm.atoms {t : Tr} {d : Nat} (h : Nm t d) (h2 : 2 ≤ t.Kind ∧ t.Kind ≤ 7) : ∀ k ∈ t.Kids, ∃ w, k = ⟨10, [w], []⟩ ∧ 0 ≤ w ∧ w < 18446744073709551616 ∧ fitsP (t.Kind - 2) w = true := fun k hk => by
  have i4 := (rt_inv h.f.rt (by omega) h.k).2.2.2 k hk
  obtain ⟨w, hw, a, b, c⟩ := okk_atom h2 (h.f.bd.all k hk) i4.1 i4.2
  have k10 : k.Kind = 10 := by
    have := i4.2
    unfold okk at this
    rw [if_pos h2, Bool.and_eq_true, beq_iff_eq] at this
    exact this.1
  have k0 : k.Kids = [] := (rt_len i4.1).2.2.2.1 (.inr k10)
  refine ⟨w, ?_, a, b, c⟩
  obtain ⟨x, y, z⟩ := k
  simp only at hw k10 k0
  rw [hw, k10, k0]
theorem da_know {t : Tr} {d : Nat} (h : Nm t d) (h2 : 2 ≤ t.Kind ∧ t.Kind ≤ 7) {l : List Int} {a : Nat} (ha : a < l.length) (hs : (l.length : Int) + sz t ≤ 131072) :
    ly t l a = setI l (a : Int) (hdL t l a) ++ putC (t.Kind - 2) (ato t) :=
  (lay_data h2 (len_bd h) (fun k hk => by obtain ⟨w, e, a, b, c⟩ := h.atoms h2 k hk; exact ⟨w, by rw [e], a, b, c⟩) l a ha hs).1
theorem cpK_cons (W K b : Nat) (x : Tr) (xs : List Tr) (l : List Int) : cpK W K b (x :: xs) l = cpK W K (b + (W + K)) xs (lyK (b + W) x.Kids l) := by
  unfold cpK
  show foldI (fun s i x => lyK (b + i * (W + K) + W) x.Kids s) (lyK (b + 0 * (W + K) + W) x.Kids l) (0 + 1) xs = _
  rw [foldI_shift]
  have : (fun (s : List Int) (i : Nat) (x : Tr) => lyK (b + (0 + 1 + i) * (W + K) + W) x.Kids s) = fun s i x => lyK (b + (W + K) + i * (W + K) + W) x.Kids s := by
    funext s i x
    rw [show (0 + 1 + i) * (W + K) = (W + K) + i * (W + K) by rw [Nat.add_mul, Nat.zero_add, Nat.one_mul], Nat.add_assoc b (W + K)]
  rw [this, Nat.zero_mul, Nat.add_zero]
/-- what is not a pointer of the structs' kids stays as it was -/
theorem presC {W K : Nat} : ∀ {ks : List Tr}, (∀ x ∈ ks, x.Kids.length ≤ K ∧ ∀ y ∈ x.Kids, (Sim y ∧ 0 ≤ sz y) ∧ Pres y) → ∀ {l : List Int} {b : Nat}, b + ks.length * (W + K) ≤ l.length → (l.length : Int) + (ks.map szK).sum ≤ 131072 →
    ((cpK W K b ks l).length : Int) = l.length + (ks.map szK).sum ∧ ∀ p, p < l.length → (∀ (i : Nat) (x : Tr), ks[i]? = some x → p < b + i * (W + K) + W ∨ b + i * (W + K) + W + x.Kids.length ≤ p) → (cpK W K b ks l)[p]? = l[p]?
  | [], _, l, b, _, _ => ⟨by simp [cpK, foldI], fun p _ _ => rfl⟩
  | x :: xs, hk, l, b, hb, hs => by
    obtain ⟨hx1, hx2⟩ := hk x (.head _)
    have hm : (x :: xs).length * (W + K) = W + K + xs.length * (W + K) := by rw [List.length_cons, Nat.add_mul, Nat.one_mul, Nat.add_comm]
    have hz := sum_pos (f := szK) (xs := xs) fun y hy => sum_pos fun z hz => ((hk y (.tail _ hy)).2 z hz).1.2
    have hs' : (l.length : Int) + ((x.Kids.map sz).sum + (xs.map szK).sum) ≤ 131072 := hs
    have ln := kidsLen (ks := x.Kids) (b := b + W) (l := l) (fun y hy => (hx2 y hy).1) (by omega) (by omega)
    obtain ⟨q1, q2⟩ := presC (W := W) (K := K) (ks := xs) (fun y hy => hk y (.tail _ hy)) (l := lyK (b + W) x.Kids l) (b := b + (W + K)) (by have := sum_pos (f := sz) (xs := x.Kids) fun z hz => (hx2 z hz).1.2; omega) (by omega)
    rw [cpK_cons]
    refine ⟨by rw [q1, ln]; simp only [List.map_cons, List.sum_cons]; unfold szK; omega, fun p hp hq => ?_⟩
    have h0 := hq 0 x rfl
    rw [Nat.zero_mul, Nat.add_zero] at h0
    rw [q2 p (by have := sum_pos (f := sz) (xs := x.Kids) fun z hz => (hx2 z hz).1.2; omega) (fun i y hy => by
      have := hq (i + 1) y (by rw [List.getElem?_cons_succ]; exact hy)
      rw [Nat.add_mul, Nat.one_mul] at this
      omega), presK hx2 (by omega) (by omega) p hp h0]
theorem cpW_cons (W K : Nat) (x : Tr) (xs : List Tr) (l : List Int) : cpW W K (x :: xs) l = cpW W K xs (l ++ x.Words ++ List.replicate (W + K - x.Words.length) 0) := by
  unfold cpW
  show foldI _ _ (0 + 1) xs = _
  rw [foldI_shift]
theorem cpW_get {W K : Nat} : ∀ (ks : List Tr), (∀ x ∈ ks, x.Words.length ≤ W) → ∀ (l : List Int), (∀ p, p < l.length → (cpW W K ks l)[p]? = l[p]?) ∧ ∀ (i : Nat) (x : Tr), ks[i]? = some x → ∀ j, j < W + K → (cpW W K ks l)[l.length + i * (W + K) + j]? = some (x.Words[j]?.getD 0)
  | [], _, l => ⟨fun p _ => rfl, fun i x h => by simp at h⟩
  | x :: xs, hk, l => by
    have hx := hk x (.head _)
    have le : (l ++ x.Words ++ List.replicate (W + K - x.Words.length) 0).length = l.length + (W + K) := by rw [List.length_append, List.length_append, List.length_replicate]; omega
    obtain ⟨q1, q2⟩ := cpW_get xs (fun y hy => hk y (.tail _ hy)) (l ++ x.Words ++ List.replicate (W + K - x.Words.length) 0)
    rw [cpW_cons]
    refine ⟨fun p hp => ?_, fun i y hy j hj => ?_⟩
    · rw [q1 p (by omega), List.append_assoc, app_get hp]
    · cases i with
      | zero =>
        simp only [List.getElem?_cons_zero, Option.some.injEq] at hy
        subst hy
        rw [Nat.zero_mul, Nat.add_zero, q1 _ (by omega), List.append_assoc, List.getElem?_append_right (by omega), show l.length + j - l.length = j by omega]
        by_cases h : j < x.Words.length
        · rw [List.getElem?_append_left h, List.getElem?_eq_getElem h]
          rfl
        · rw [List.getElem?_append_right (by omega), List.getElem?_replicate, if_pos (by omega), List.getElem?_eq_none (by omega)]
          rfl
      | succ i =>
        rw [List.getElem?_cons_succ] at hy
        have := q2 i y hy j hj
        rw [le] at this
        rw [← this, show l.length + (i + 1) * (W + K) + j = l.length + (W + K) + i * (W + K) + j by rw [Nat.add_mul, Nat.one_mul]; omega]
def RC9 (t : Tr) (W K : Nat) (l : List Int) (a : Nat) : List Int := cpW W K t.Kids (setI l (a : Int) (hd9 t W K l a) ++ [tag9 t W K])
theorem co_know {t : Tr} {d : Nat} (h : Nm t d) (h9 : t.Kind = 9) (hP : ∀ x ∈ t.Kids, ∀ y ∈ x.Kids, Pres y) {l : List Int} {a : Nat} (ha : a < l.length) (hs : (l.length : Int) + sz t ≤ 131072) :
    ∃ W K : Nat, W ≤ 65535 ∧ K ≤ 65535 ∧ (∀ x ∈ t.Kids, x.Words.length ≤ W ∧ x.Kids.length ≤ K ∧ ∀ y ∈ x.Kids, (Sim y ∧ 0 ≤ sz y) ∧ Pres y) ∧ t.Kids.length * (W + K) ≤ 131072 ∧ fr t.Kids = ((W : Int), (K : Int)) ∧
    (RC9 t W K l a).length = l.length + 1 + t.Kids.length * (W + K) ∧ ((RC9 t W K l a).length : Int) + (t.Kids.map szK).sum ≤ 131072 ∧ ly t l a = cpK W K (l.length + 1) t.Kids (RC9 t W K l a) ∧
    (∀ p, p < l.length → (RC9 t W K l a)[p]? = if a = p then some (hd9 t W K l a) else l[p]?) ∧ (RC9 t W K l a)[l.length]? = some (tag9 t W K) ∧
    (∀ (i : Nat) (x : Tr), t.Kids[i]? = some x → ∀ j, j < W + K → (RC9 t W K l a)[l.length + 1 + i * (W + K) + j]? = some (x.Words[j]?.getD 0)) := by
  obtain ⟨W, K, e1, e2, e3, e4, e5⟩ := fine_frame h.f h9
  have hk : ∀ x ∈ t.Kids, ∀ y ∈ x.Kids, (Sim y ∧ 0 ≤ sz y) ∧ Pres y := fun x hx y hy => by
    obtain ⟨nx, k1⟩ := h.structs h9 x hx
    exact ⟨(nx.okids (.inl k1) y hy).sim, hP x hx y hy⟩
  have hz := sum_pos (f := szK) (xs := t.Kids) fun y hy => sum_pos fun z hz => (hk y hy z hz).1.2
  have e := (lay_comp h9 (len_bd h) e1 e2 e3 e4 (fun x hx y hy => (hk x hx y hy).1) e5 l a ha hs).1
  have l3 : (setI l (a : Int) (hd9 t W K l a) ++ [tag9 t W K]).length = l.length + 1 := by rw [List.length_append, setI_len]; rfl
  have l4 : (RC9 t W K l a).length = l.length + 1 + t.Kids.length * (W + K) := by unfold RC9; rw [cpW_len (fun x hx => (e4 x hx).1), l3]
  obtain ⟨g1, g2⟩ := cpW_get (K := K) t.Kids (fun x hx => (e4 x hx).1) (setI l (a : Int) (hd9 t W K l a) ++ [tag9 t W K])
  rw [l3] at g2
  refine ⟨W, K, e2, e3, fun x hx => ⟨(e4 x hx).1, (e4 x hx).2, hk x hx⟩, by omega, e1, l4, by omega, e, fun p hp => ?_, ?_, g2⟩
  · unfold RC9
    rw [g1 p (by omega), app_get (by rw [setI_len]; exact hp), set_get ha]
  · unfold RC9
    rw [g1 _ (by omega), List.getElem?_append_right (by rw [setI_len]; exact Nat.le_refl _), setI_len, Nat.sub_self]
    rfl
theorem pres_all : ∀ (n : Nat) (t : Tr) (d : Nat), SizeOf.sizeOf t < n → Nm t d → Pres t
  | 0, _, _, h, _ => by omega
  | n + 1, t, d, h, hm => fun l a ha hs p hp hpa => by
    have g := rt_len hm.f.rt
    have h10 := hm.k
    by_cases h0 : t.Kind = 0
    · rw [lay_null h0]
    by_cases h1 : t.Kind = 1
    · have k := st_know hm h1 (fun x hx => pres_all n x (d - 1) (by have := kid_lt hx; omega) (hm.okids (.inl h1) x hx)) ha hs
      rw [k.2.2.2.2.2 p (by rw [rs1_len]; omega) (by omega), rs1_get ha hp, if_neg (fun h => hpa h.symm)]
    by_cases h2 : 2 ≤ t.Kind ∧ t.Kind ≤ 7
    · rw [da_know hm h2 ha hs, app_get (by rw [setI_len]; exact hp), set_get ha, if_neg (fun h => hpa h.symm)]
    by_cases h8 : t.Kind = 8
    · have k := pt_know hm h8 (fun x hx => pres_all n x (d - 1) (by have := kid_lt hx; omega) (hm.okids (.inr h8) x hx)) ha hs
      rw [k.2.2.2 p (by rw [rp8_len]; omega) (by omega), rp8_get ha hp, if_neg (fun h => hpa h.symm)]
    have h9 : t.Kind = 9 := by omega
    obtain ⟨W, K, _, _, k3, _, _, k6, k7, k8, k9, _⟩ := co_know hm h9 (fun x hx y hy => pres_all n y (d - 1 - 1) (by have := kid_lt hx; have := kid_lt hy; omega) ((hm.structs h9 x hx).1.okids (.inl (hm.structs h9 x hx).2) y hy)) ha hs
    rw [k8, (presC (fun x hx => (k3 x hx).2) (by omega) k7).2 p (by omega) (fun i x hx => by omega), k9 p hp, if_neg (fun h => hpa h.symm)]
theorem Nm.pres {t : Tr} {d : Nat} (h : Nm t d) : Pres t := pres_all _ t d (Nat.lt_succ_self _) h

def hv (t : Tr) (l : List Int) (a : Nat) (c : Int) : Int := if t.Kind = 0 then 0 else if t.Kind = 1 then hdS t l a else ((l.length : Int) - a - 1) % 1073741824 * 4 + 1 + (t.Kind - 2) * 4294967296 + c * 34359738368
theorem hv_know {t : Tr} {d : Nat} (hm : Nm t d) {l : List Int} {a : Nat} (ha : a < l.length) (hs : (l.length : Int) + sz t ≤ 131072) (hz : l[a]? = some 0) :
    ∃ c : Int, 0 ≤ c ∧ c ≤ 200000 ∧ (ly t l a)[a]? = some (hv t l a c) ∧ (2 ≤ t.Kind ∧ t.Kind ≤ 8 → c = (t.Kids.length : Int)) := by
  have g := rt_len hm.f.rt
  have h10 := hm.k
  have hn := len_bd hm
  unfold hv
  by_cases h0 : t.Kind = 0
  · exact ⟨0, by decide, by decide, by rw [lay_null h0, hz, if_pos h0], fun h => by omega⟩
  by_cases h1 : t.Kind = 1
  · have k := st_know hm h1 (fun x hx => (hm.okids (.inl h1) x hx).pres) ha hs
    refine ⟨0, by decide, by decide, ?_, fun h => by omega⟩
    rw [k.2.2.2.2.2 a (by rw [rs1_len]; omega) (by omega), rs1_get ha ha, if_pos rfl, if_neg h0, if_pos h1]
  by_cases h2 : 2 ≤ t.Kind ∧ t.Kind ≤ 7
  · refine ⟨(t.Kids.length : Int), by omega, by omega, ?_, fun _ => rfl⟩
    rw [da_know hm h2 ha hs, app_get (by rw [setI_len]; exact ha), set_get ha, if_pos rfl, if_neg h0, if_neg h1]
    rfl
  by_cases h8 : t.Kind = 8
  · have k := pt_know hm h8 (fun x hx => (hm.okids (.inr h8) x hx).pres) ha hs
    refine ⟨(t.Kids.length : Int), by omega, by omega, ?_, fun _ => rfl⟩
    rw [k.2.2.2 a (by rw [rp8_len]; omega) (by omega), rp8_get ha ha, if_pos rfl, if_neg h0, if_neg h1]
    rfl
  have h9 : t.Kind = 9 := by omega
  obtain ⟨W, K, _, _, k3, k4, _, k6, k7, k8, k9, _⟩ := co_know hm h9 (fun x hx y hy => ((hm.structs h9 x hx).1.okids (.inl (hm.structs h9 x hx).2) y hy).pres) ha hs
  refine ⟨((t.Kids.length * (W + K) : Nat) : Int), by omega, by omega, ?_, fun h => by omega⟩
  rw [k8, (presC (fun x hx => (k3 x hx).2) (by omega) k7).2 a (by omega) (fun i x hx => by omega), k9 a ha, if_pos rfl, if_neg h0, if_neg h1]
  unfold hd9
  rw [h9]
  rfl
theorem hv_kind {t t' : Tr} {d d' : Nat} (hm : Nm t d) (hm' : Nm t' d') {l l' : List Int} {a : Nat} {c c' : Int} (hl : l.length = l'.length) (ha : a < l.length) (hL : l.length ≤ 131072) (c0 : 0 ≤ c) (c1 : c ≤ 200000) (c0' : 0 ≤ c') (c1' : c' ≤ 200000) (e : hv t l a c = hv t' l' a c') : t.Kind = t'.Kind := by
  have g := rt_len hm.f.rt
  have g' := rt_len hm'.f.rt
  have h10 := hm.k
  have h10' := hm'.k
  have q : t.Kind = 1 → 0 < hdS t l a ∧ hdS t l a % 4 = 0 := fun h1 => by
    have i := rt_inv hm.f.rt (by omega) h10
    have := i.2.1 h1
    unfold hdS offS
    split <;> omega
  have q' : t'.Kind = 1 → 0 < hdS t' l' a ∧ hdS t' l' a % 4 = 0 := fun h1 => by
    have i := rt_inv hm'.f.rt (by omega) h10'
    have := i.2.1 h1
    unfold hdS offS
    split <;> omega
  unfold hv at e
  split at e <;> rename_i k0
  · split at e <;> rename_i k0'
    · omega
    · split at e <;> rename_i k1'
      · have := q' k1'; omega
      · omega
  · split at e <;> rename_i k1
    · have := q k1
      split at e <;> rename_i k0'
      · omega
      · split at e <;> rename_i k1'
        · omega
        · omega
    · split at e <;> rename_i k0'
      · omega
      · split at e <;> rename_i k1'
        · have := q' k1'; omega
        · omega
theorem hv_ne {t : Tr} {d : Nat} (hm : Nm t d) {l : List Int} {a : Nat} {c : Int} (ha : a < l.length) (c0 : 0 ≤ c) (h0 : ¬ t.Kind = 0) : ¬ hv t l a c = 0 := by
  have g := rt_len hm.f.rt
  have h10 := hm.k
  unfold hv
  rw [if_neg h0]
  split <;> rename_i k1
  · have i := rt_inv hm.f.rt (by omega) h10
    have := i.2.1 k1
    unfold hdS offS
    split <;> omega
  · omega
/-- the same words where a tree is laid -/
def Ag (F r : List Int) (a s : Nat) : Prop := F[a]? = r[a]? ∧ ∀ p, s ≤ p → p < r.length → F[p]? = r[p]?
/-- its words tell a tree -/
def InjT (t : Tr) : Prop := ∀ (t' : Tr) (d' : Nat), Nm t' d' → ∀ (l l' F : List Int) (a : Nat), l.length = l'.length → a < l.length → (l.length : Int) + sz t ≤ 131072 → (l.length : Int) + sz t' ≤ 131072 → l[a]? = some 0 → l'[a]? = some 0 → Ag F (ly t l a) a l.length → Ag F (ly t' l' a) a l.length → t = t'
theorem injK : ∀ {ks : List Tr}, (∀ x ∈ ks, InjT x ∧ ∃ d, Nm x d) → ∀ {ks' : List Tr}, (∀ x ∈ ks', ∃ d, Nm x d) → ks.length = ks'.length → ∀ {l l' F : List Int} {b : Nat}, l.length = l'.length → b + ks.length ≤ l.length → (l.length : Int) + (ks.map sz).sum ≤ 131072 → (l.length : Int) + (ks'.map sz).sum ≤ 131072 →
    (∀ p, b ≤ p → p < b + ks.length → l[p]? = some 0 ∧ l'[p]? = some 0) →
    (∀ p, (b ≤ p ∧ p < b + ks.length) ∨ l.length ≤ p → p < (lyK b ks l).length → F[p]? = (lyK b ks l)[p]?) → (∀ p, (b ≤ p ∧ p < b + ks.length) ∨ l.length ≤ p → p < (lyK b ks' l').length → F[p]? = (lyK b ks' l')[p]?) → ks = ks'
  | [], _, ks', _, hl, _, _, _, _, _, _, _, _, _, _, _ => (List.length_eq_zero_iff.1 hl.symm).symm
  | x :: xs, hk, [], _, hl, _, _, _, _, _, _, _, _, _, _, _ => by simp at hl
  | x :: xs, hk, x' :: xs', hk', hl, l, l', F, b, hll, hb, hs, hs', hz, hF, hF' => by
    obtain ⟨ix, dx, nx⟩ := hk x (.head _)
    obtain ⟨dx', nx'⟩ := hk' x' (.head _)
    have hl' : xs.length = xs'.length := by simpa using hl
    have sp := sum_pos (f := sz) (xs := xs) fun y hy => by obtain ⟨_, d, n⟩ := hk y (.tail _ hy); exact n.sim.2
    have sp' := sum_pos (f := sz) (xs := xs') fun y hy => by obtain ⟨d, n⟩ := hk' y (.tail _ hy); exact n.sim.2
    have z0 := nx.sim.2
    have z0' := nx'.sim.2
    simp only [List.map_cons, List.sum_cons] at hs hs'
    rw [List.length_cons] at hb hz hF hF'
    rw [lyK_cons] at hF hF'
    have e1 := (nx.sim.1 l b (by omega) (by omega)).1
    have e1' := (nx'.sim.1 l' b (by omega) (by omega)).1
    have k1 : ∀ y ∈ xs, (Sim y ∧ 0 ≤ sz y) ∧ Pres y := fun y hy => by obtain ⟨_, d, n⟩ := hk y (.tail _ hy); exact ⟨n.sim, n.pres⟩
    have k1' : ∀ y ∈ xs', (Sim y ∧ 0 ≤ sz y) ∧ Pres y := fun y hy => by obtain ⟨d, n⟩ := hk' y (.tail _ hy); exact ⟨n.sim, n.pres⟩
    have ln := kidsLen (ks := xs) (b := b + 1) (l := ly x l b) (fun y hy => (k1 y hy).1) (by omega) (by omega)
    have ln' := kidsLen (ks := xs') (b := b + 1) (l := ly x' l' b) (fun y hy => (k1' y hy).1) (by omega) (by omega)
    have ag : Ag F (ly x l b) b l.length := ⟨by
      rw [hF b (by omega) (by omega), presK k1 (by omega) (by omega) b (by omega) (by omega)], fun p h1 h2 => by
      rw [hF p (by omega) (by omega), presK k1 (by omega) (by omega) p (by omega) (by omega)]⟩
    have ag' : Ag F (ly x' l' b) b l.length := ⟨by
      rw [hF' b (by omega) (by omega), presK k1' (by omega) (by omega) b (by omega) (by omega)], fun p h1 h2 => by
      rw [hF' p (by omega) (by omega), presK k1' (by omega) (by omega) p (by omega) (by omega)]⟩
    obtain rfl := ix x' dx' nx' l l' F b hll (by omega) (by omega) (by omega) (hz b (by omega) (by omega)).1 (hz b (by omega) (by omega)).2 ag ag'
    have := injK (ks := xs) (fun y hy => hk y (.tail _ hy)) (ks' := xs') (fun y hy => hk' y (.tail _ hy)) hl' (l := ly x l b) (l' := ly x l' b) (F := F) (b := b + 1) (by omega) (by omega) (by omega) (by omega) (fun p h1 h2 => by
      rw [nx.pres l b (by omega) (by omega) p (by omega) (by omega), nx.pres l' b (by omega) (by omega) p (by omega) (by omega)]
      exact hz p (by omega) (by omega)) (fun p h1 h2 => hF p (by omega) h2) (fun p h1 h2 => hF' p (by omega) h2)
    rw [this]
/-- a kid that is something has a pointer -/
theorem lyK_ne : ∀ {ks : List Tr}, (∀ x ∈ ks, ∃ d, Nm x d) → ∀ {l : List Int} {b : Nat}, b + ks.length ≤ l.length → (l.length : Int) + (ks.map sz).sum ≤ 131072 → (∀ p, b ≤ p → p < b + ks.length → l[p]? = some 0) →
    ∀ (m : Nat) (y : Tr), ks[m]? = some y → ¬ y.Kind = 0 → ∃ v : Int, ¬ v = 0 ∧ (lyK b ks l)[b + m]? = some v
  | [], _, _, _, _, _, _, m, y, h, _ => by simp at h
  | x :: xs, hk, l, b, hb, hs, hz, m, y, hy, h0 => by
    obtain ⟨dx, nx⟩ := hk x (.head _)
    have k1 : ∀ y ∈ xs, (Sim y ∧ 0 ≤ sz y) ∧ Pres y := fun y hy => by obtain ⟨d, n⟩ := hk y (.tail _ hy); exact ⟨n.sim, n.pres⟩
    have sp := sum_pos (f := sz) (xs := xs) fun y hy => (k1 y hy).1.2
    have z0 := nx.sim.2
    simp only [List.map_cons, List.sum_cons] at hs
    rw [List.length_cons] at hb hz
    have e1 := (nx.sim.1 l b (by omega) (by omega)).1
    rw [lyK_cons]
    cases m with
    | zero =>
      simp only [List.getElem?_cons_zero, Option.some.injEq] at hy
      subst hy
      obtain ⟨c, c0, c1, c2, _⟩ := hv_know nx (l := l) (a := b) (by omega) (by omega) (hz b (by omega) (by omega))
      refine ⟨_, hv_ne nx (l := l) (a := b) (by omega) c0 h0, ?_⟩
      show (lyK (b + 1) xs (ly x l b))[b]? = _
      rw [presK k1 (by omega) (by omega) b (by omega) (by omega), c2]
    | succ m =>
      rw [List.getElem?_cons_succ] at hy
      obtain ⟨v, v0, v1⟩ := lyK_ne (ks := xs) (fun y hy => hk y (.tail _ hy)) (l := ly x l b) (b := b + 1) (by omega) (by omega) (fun p h1 h2 => by
        rw [nx.pres l b (by omega) (by omega) p (by omega) (by omega)]
        exact hz p (by omega) (by omega)) m y hy h0
      exact ⟨v, v0, by rw [← v1, show b + (m + 1) = b + 1 + m by omega]⟩

theorem tr_end {α : Type} {p : α → Bool} {l : List α} (h : tr p l = l) {m : Nat} {x : α} (hm : m + 1 = l.length) (hx : l[m]? = some x) : p x = false := by
  cases hp : p x with
  | false => rfl
  | true =>
    have e : l = l.take m ++ [x] := by
      have : l.take (m + 1) = l.take m ++ [x] := by rw [List.take_add_one, hx]; rfl
      rw [← this, hm, List.take_length]
    rw [e, tr_append_t hp] at h
    have := congrArg List.length h
    have := tr_len p (l.take m)
    rw [List.length_append, List.length_take, List.length_singleton] at *
    omega
theorem words_eq {W : Nat} {xs ys : List Int} (hx : xs.length ≤ W) (hy : ys.length ≤ W) (tx : tr (fun x => x == 0) xs = xs) (ty : tr (fun x => x == 0) ys = ys) (h : ∀ j, j < W → xs[j]?.getD 0 = ys[j]?.getD 0) : xs = ys := by
  have key : ∀ {xs ys : List Int}, ys.length ≤ W → tr (fun x => x == 0) ys = ys → (∀ j, j < W → xs[j]?.getD 0 = ys[j]?.getD 0) → ys.length ≤ xs.length := fun {xs ys} hy ty h => by
    rcases Nat.lt_or_ge xs.length ys.length with q | q
    · have hq : ys.length - 1 < ys.length := by omega
      have e := List.getElem?_eq_getElem hq
      have hp := tr_end ty (by omega) e
      have := h (ys.length - 1) (by omega)
      rw [e, List.getElem?_eq_none (by omega)] at this
      simp only [Option.getD_some, Option.getD_none] at this
      rw [← this] at hp
      simp at hp
    · exact q
  have l1 := key hy ty h
  have l2 := key hx tx fun j hj => (h j hj).symm
  refine List.ext_getElem (by omega) fun i h1 h2 => ?_
  have := h i (by omega)
  rw [List.getElem?_eq_getElem h1, List.getElem?_eq_getElem h2] at this
  simpa using this
theorem tree_ext {a b : Tr} (h1 : a.Kind = b.Kind) (h2 : a.Words = b.Words) (h3 : a.Kids = b.Kids) : a = b := by
  obtain ⟨x, y, z⟩ := a
  obtain ⟨x', y', z'⟩ := b
  simp only at h1 h2 h3
  rw [h1, h2, h3]
/-- a struct of a list, as it lies -/
def StN (W K : Nat) (x : Tr) : Prop := x.Kind = 1 ∧ (∃ d, Nm x d) ∧ x.Words.length ≤ W ∧ x.Kids.length ≤ K
theorem StN.kids {W K : Nat} {x : Tr} (h : StN W K x) : ∀ y ∈ x.Kids, ∃ d, Nm y d := fun y hy => by
  obtain ⟨k, ⟨d, n⟩, _⟩ := h
  exact ⟨_, n.okids (.inl k) y hy⟩
theorem StN.pc {W K : Nat} {x : Tr} (h : StN W K x) : x.Kids.length ≤ K ∧ ∀ y ∈ x.Kids, (Sim y ∧ 0 ≤ sz y) ∧ Pres y := ⟨h.2.2.2, fun y hy => by
  obtain ⟨d, n⟩ := h.kids y hy
  exact ⟨n.sim, n.pres⟩⟩
theorem kids_le {W K : Nat} {x x' : Tr} {xs xs' : List Tr} (hx : StN W K x) (hx' : StN W K x') (hxs : ∀ y ∈ xs, StN W K y) (hxs' : ∀ y ∈ xs', StN W K y) (hl : xs.length = xs'.length) {l l' F : List Int} {b : Nat} (hll : l.length = l'.length) (hb : b + (xs.length + 1) * (W + K) ≤ l.length)
    (hs : (l.length : Int) + (((x :: xs).map szK).sum) ≤ 131072) (hs' : (l.length : Int) + (((x' :: xs').map szK).sum) ≤ 131072)
    (hz : ∀ j, j < K → l[b + W + j]? = some 0 ∧ l'[b + W + j]? = some 0)
    (hF : ∀ p, b ≤ p → p < b + (xs.length + 1) * (W + K) → F[p]? = (cpK W K b (x :: xs) l)[p]?) (hF' : ∀ p, b ≤ p → p < b + (xs.length + 1) * (W + K) → F[p]? = (cpK W K b (x' :: xs') l')[p]?) : x'.Kids.length ≤ x.Kids.length := by
  rcases Nat.lt_or_ge x.Kids.length x'.Kids.length with q | q
  · have hq : x'.Kids.length - 1 < x'.Kids.length := by omega
    have ey := List.getElem?_eq_getElem hq
    have hw : (xs.length + 1) * (W + K) = W + K + xs.length * (W + K) := by rw [Nat.add_mul, Nat.one_mul, Nat.add_comm]
    obtain ⟨k', ⟨d', n'⟩, w', kk'⟩ := hx'
    have h0 : ¬ x'.Kids[x'.Kids.length - 1].Kind = 0 := by
      have := tr_end (n'.kids k') (by omega) ey
      simpa using this
    have hx'' : StN W K x' := ⟨k', ⟨d', n'⟩, w', kk'⟩
    have sp' := sum_pos (f := szK) (xs := xs') fun y hy => sum_pos fun z hz => ((hxs' y hy).pc.2 z hz).1.2
    have sq' := sum_pos (f := sz) (xs := x'.Kids) fun z hz => (hx''.pc.2 z hz).1.2
    have hs2 : (l.length : Int) + ((x'.Kids.map sz).sum + (xs'.map szK).sum) ≤ 131072 := hs'
    have ln' := kidsLen (ks := x'.Kids) (b := b + W) (l := l') (fun y hy => (hx''.pc.2 y hy).1) (by omega) (by omega)
    obtain ⟨v, v0, v1⟩ := lyK_ne (ks := x'.Kids) hx''.kids (l := l') (b := b + W) (by omega) (by omega) (fun p h1 h2 => by
      have := (hz (p - (b + W)) (by omega)).2
      rwa [show b + W + (p - (b + W)) = p by omega] at this) _ _ ey h0
    have f' := hF' (b + W + (x'.Kids.length - 1)) (by omega) (by omega)
    rw [cpK_cons, (presC (W := W) (K := K) (ks := xs') (fun y hy => (hxs' y hy).pc) (l := lyK (b + W) x'.Kids l') (b := b + (W + K)) (by rw [← hl]; omega) (by omega)).2 _ (by omega) (fun i y hy => by omega), v1] at f'
    have f := hF (b + W + (x'.Kids.length - 1)) (by omega) (by omega)
    have c0 := (presC (W := W) (K := K) (ks := x :: xs) (fun y hy => by
      rcases List.mem_cons.1 hy with rfl | hy
      · exact hx.pc
      · exact (hxs y hy).pc) (l := l) (b := b) (by rw [List.length_cons]; exact hb) hs).2 (b + W + (x'.Kids.length - 1)) (by omega) (fun i y hy => by
      cases i with
      | zero =>
        simp only [List.getElem?_cons_zero, Option.some.injEq] at hy
        subst hy
        omega
      | succ i =>
        rw [Nat.add_mul, Nat.one_mul]
        omega)
    rw [c0, (hz (x'.Kids.length - 1) (by omega)).1, f'] at f
    exact absurd (Option.some.inj f) v0
  · exact q
theorem injC {W K : Nat} : ∀ {ks : List Tr}, (∀ x ∈ ks, StN W K x ∧ ∀ y ∈ x.Kids, InjT y) → ∀ {ks' : List Tr}, (∀ x ∈ ks', StN W K x) → ks.length = ks'.length → ∀ {l l' F : List Int} {b : Nat}, l.length = l'.length → b + ks.length * (W + K) ≤ l.length → (l.length : Int) + (ks.map szK).sum ≤ 131072 → (l.length : Int) + (ks'.map szK).sum ≤ 131072 →
    (∀ (i : Nat) (x : Tr), ks[i]? = some x → ∀ j, j < W + K → l[b + i * (W + K) + j]? = some (x.Words[j]?.getD 0)) → (∀ (i : Nat) (x : Tr), ks'[i]? = some x → ∀ j, j < W + K → l'[b + i * (W + K) + j]? = some (x.Words[j]?.getD 0)) →
    (∀ p, (b ≤ p ∧ p < b + ks.length * (W + K)) ∨ l.length ≤ p → p < (cpK W K b ks l).length → F[p]? = (cpK W K b ks l)[p]?) → (∀ p, (b ≤ p ∧ p < b + ks.length * (W + K)) ∨ l.length ≤ p → p < (cpK W K b ks' l').length → F[p]? = (cpK W K b ks' l')[p]?) → ks = ks'
  | [], _, ks', _, hl, _, _, _, _, _, _, _, _, _, _, _, _ => (List.length_eq_zero_iff.1 hl.symm).symm
  | x :: xs, hk, [], _, hl, _, _, _, _, _, _, _, _, _, _, _, _ => by simp at hl
  | x :: xs, hk, x' :: xs', hk', hl, l, l', F, b, hll, hb, hs, hs', hB, hB', hF, hF' => by
    obtain ⟨sx, ix⟩ := hk x (.head _)
    have sx' := hk' x' (.head _)
    have hl' : xs.length = xs'.length := by simpa using hl
    have hxs : ∀ y ∈ xs, StN W K y := fun y hy => (hk y (.tail _ hy)).1
    have hxs' : ∀ y ∈ xs', StN W K y := fun y hy => hk' y (.tail _ hy)
    have pcx : ∀ y ∈ x :: xs, y.Kids.length ≤ K ∧ ∀ z ∈ y.Kids, (Sim z ∧ 0 ≤ sz z) ∧ Pres z := fun y hy => (hk y hy).1.pc
    have pcx' : ∀ y ∈ x' :: xs', y.Kids.length ≤ K ∧ ∀ z ∈ y.Kids, (Sim z ∧ 0 ≤ sz z) ∧ Pres z := fun y hy => (hk' y hy).pc
    have sp := sum_pos (f := szK) (xs := xs) fun y hy => sum_pos fun z hz => ((hxs y hy).pc.2 z hz).1.2
    have sp' := sum_pos (f := szK) (xs := xs') fun y hy => sum_pos fun z hz => ((hxs' y hy).pc.2 z hz).1.2
    have sq := sum_pos (f := sz) (xs := x.Kids) fun z hz => (sx.pc.2 z hz).1.2
    have sq' := sum_pos (f := sz) (xs := x'.Kids) fun z hz => (sx'.pc.2 z hz).1.2
    have hs1 : (l.length : Int) + ((x.Kids.map sz).sum + (xs.map szK).sum) ≤ 131072 := hs
    have hs1' : (l.length : Int) + ((x'.Kids.map sz).sum + (xs'.map szK).sum) ≤ 131072 := hs'
    rw [List.length_cons] at hb hF hF'
    have hw : (xs.length + 1) * (W + K) = W + K + xs.length * (W + K) := by rw [Nat.add_mul, Nat.one_mul, Nat.add_comm]
    have hlm : xs'.length * (W + K) = xs.length * (W + K) := by rw [hl']
    have pl := presC pcx (l := l) (b := b) (by rw [List.length_cons]; exact hb) hs
    have pl' := presC pcx' (l := l') (b := b) (by rw [← hl, ← hll, List.length_cons]; exact hb) (by rw [← hll]; exact hs')
    have lz : l.length ≤ (cpK W K b (x :: xs) l).length := by
      have := pl.1
      have q : ((x :: xs).map szK).sum = (x.Kids.map sz).sum + (xs.map szK).sum := rfl
      omega
    have lz' : l.length ≤ (cpK W K b (x' :: xs') l').length := by
      have := pl'.1
      have q : ((x' :: xs').map szK).sum = (x'.Kids.map sz).sum + (xs'.map szK).sum := rfl
      omega
    have hole : ∀ {z : Tr} {zs : List Tr} (p : Nat), p < b + W → ∀ (i : Nat) (y : Tr), (z :: zs)[i]? = some y → p < b + i * (W + K) + W ∨ b + i * (W + K) + W + y.Kids.length ≤ p := fun p hp i y _ => .inl (by omega)
    have z0 : ∀ j, j < K → l[b + W + j]? = some 0 ∧ l'[b + W + j]? = some 0 := fun j hj => by
      have a1 := hB 0 x rfl (W + j) (by omega)
      have a2 := hB' 0 x' rfl (W + j) (by omega)
      have u := sx.2.2.1
      have u' := sx'.2.2.1
      have w1 : x.Words[W + j]? = none := List.getElem?_eq_none (by omega)
      have w2 : x'.Words[W + j]? = none := List.getElem?_eq_none (by omega)
      rw [w1, Nat.zero_mul, Nat.add_zero, ← Nat.add_assoc] at a1
      rw [w2, Nat.zero_mul, Nat.add_zero, ← Nat.add_assoc] at a2
      exact ⟨a1, a2⟩
    have ew : x.Words = x'.Words := by
      obtain ⟨d, n⟩ := sx.2.1
      obtain ⟨d', n'⟩ := sx'.2.1
      refine words_eq sx.2.2.1 sx'.2.2.1 (n.words sx.1) (n'.words sx'.1) fun j hj => ?_
      have a1 := hB 0 x rfl j (by omega)
      have a2 := hB' 0 x' rfl j (by omega)
      rw [Nat.zero_mul, Nat.add_zero] at a1 a2
      have f1 := hF (b + j) (by omega) (by omega)
      have f2 := hF' (b + j) (by omega) (by omega)
      rw [pl.2 _ (by omega) (hole _ (by omega)), a1] at f1
      rw [pl'.2 _ (by omega) (hole _ (by omega)), a2, f1] at f2
      exact Option.some.inj f2
    have q1 := kids_le sx sx' hxs hxs' hl' hll hb hs hs' z0 (fun p h1 h2 => hF p (by omega) (by omega)) (fun p h1 h2 => hF' p (by omega) (by omega))
    have q2 := kids_le sx' sx hxs' hxs hl'.symm hll.symm (by rw [← hl', ← hll]; exact hb) (by rw [← hll]; exact hs') (by rw [← hll]; exact hs) (fun j hj => (z0 j hj).symm) (fun p h1 h2 => hF' p (by rw [hl']; omega) (by rw [← hl'] at h2; omega)) (fun p h1 h2 => hF p (by rw [hl']; omega) (by rw [← hl'] at h2; omega))
    have q3 : x.Kids.length = x'.Kids.length := by omega
    have kx := sx.2.2.2
    have ln := kidsLen (ks := x.Kids) (b := b + W) (l := l) (fun y hy => (sx.pc.2 y hy).1) (by omega) (by omega)
    have ln' := kidsLen (ks := x'.Kids) (b := b + W) (l := l') (fun y hy => (sx'.pc.2 y hy).1) (by omega) (by omega)
    rw [cpK_cons] at hF hF' lz lz'
    have pr := presC (W := W) (K := K) (ks := xs) (fun y hy => (hxs y hy).pc) (l := lyK (b + W) x.Kids l) (b := b + (W + K)) (by omega) (by omega)
    have pr' := presC (W := W) (K := K) (ks := xs') (fun y hy => (hxs' y hy).pc) (l := lyK (b + W) x'.Kids l') (b := b + (W + K)) (by rw [← hl']; omega) (by omega)
    have fin : ∀ {zs : List Tr} (p : Nat), zs.length = xs.length → (b + W ≤ p ∧ p < b + W + x.Kids.length) ∨ l.length ≤ p → (∀ y ∈ zs, StN W K y) → ∀ (i : Nat) (y : Tr), zs[i]? = some y → p < b + (W + K) + i * (W + K) + W ∨ b + (W + K) + i * (W + K) + W + y.Kids.length ≤ p := fun {zs} p hz hp hst i y hy => by
      have hi := (List.getElem?_eq_some_iff.1 hy).1
      have := (hst y (List.mem_of_getElem? hy)).2.2.2
      have := mul_succ_le (m := W + K) hi
      rw [hz] at this
      omega
    have ek : x.Kids = x'.Kids := injK (ks := x.Kids) (fun y hy => ⟨ix y hy, sx.kids y hy⟩) (ks' := x'.Kids) sx'.kids q3 (l := l) (l' := l') (F := F) (b := b + W) hll (by omega) (by omega) (by omega) (fun p h1 h2 => by
      have := z0 (p - (b + W)) (by omega)
      rwa [show b + W + (p - (b + W)) = p by omega] at this) (fun p h1 h2 => by
      rw [hF p (by omega) (by omega), pr.2 p h2 (fin p rfl h1 hxs)]) (fun p h1 h2 => by
      rw [hF' p (by omega) (by omega), pr'.2 p h2 (fin p hl'.symm h1 hxs')])
    obtain rfl : x = x' := tree_ext (sx.1.trans sx'.1.symm) ew ek
    have rest := injC (W := W) (K := K) (ks := xs) (fun y hy => hk y (.tail _ hy)) (ks' := xs') hxs' hl' (l := lyK (b + W) x.Kids l) (l' := lyK (b + W) x.Kids l') (F := F) (b := b + (W + K)) (by omega) (by omega) (by omega) (by omega) (fun i y hy j hj => by
      have hi := (List.getElem?_eq_some_iff.1 hy).1
      have := mul_succ_le (m := W + K) hi
      have := hB (i + 1) y (by rw [List.getElem?_cons_succ]; exact hy) j hj
      rw [Nat.add_mul, Nat.one_mul] at this
      rw [presK (fun y hy => sx.pc.2 y hy) (by omega) (by omega) _ (by omega) (by omega), ← this]
      congr 1
      omega) (fun i y hy j hj => by
      have hi := (List.getElem?_eq_some_iff.1 hy).1
      have := mul_succ_le (m := W + K) hi
      have := hB' (i + 1) y (by rw [List.getElem?_cons_succ]; exact hy) j hj
      rw [Nat.add_mul, Nat.one_mul] at this
      rw [presK (fun y hy => sx.pc.2 y hy) (by omega) (by omega) _ (by omega) (by omega), ← this]
      congr 1
      omega) (fun p h1 h2 => hF p (by omega) h2) (fun p h1 h2 => hF' p (by omega) h2)
    rw [rest]

theorem rs1_words {t : Tr} {l : List Int} {a j : Nat} (hj : j < t.Words.length) : (RS1 t l a)[l.length + j]? = t.Words[j]? := by
  unfold RS1
  rw [List.append_assoc, List.getElem?_append_right (by rw [setI_len]; omega), setI_len, show l.length + j - l.length = j by omega, app_get hj]
theorem rs1_hole {t : Tr} {l : List Int} {a j : Nat} (hj : j < t.Kids.length) : (RS1 t l a)[l.length + t.Words.length + j]? = some 0 := by
  unfold RS1
  rw [List.getElem?_append_right (by rw [List.length_append, setI_len]; omega), List.length_append, setI_len, show l.length + t.Words.length + j - (l.length + t.Words.length) = j by omega, List.getElem?_replicate, if_pos hj]
theorem rp8_hole {t : Tr} {l : List Int} {a j : Nat} (hj : j < t.Kids.length) : (RP8 t l a)[l.length + j]? = some 0 := by
  unfold RP8
  rw [List.getElem?_append_right (by rw [setI_len]; omega), setI_len, show l.length + j - l.length = j by omega, List.getElem?_replicate, if_pos hj]
theorem injT_all : ∀ (n : Nat) (t : Tr) (d : Nat), SizeOf.sizeOf t < n → Nm t d → InjT t
  | 0, _, _, h, _ => by omega
  | n + 1, t, d, h, hm => fun t' d' hm' l l' F a hll ha hs hs' z z' ag ag' => by
    have g := rt_len hm.f.rt
    have h10 := hm.k
    have eL := (hm.sim.1 l a ha hs).1
    have eL' := (hm'.sim.1 l' a (by omega) (by omega)).1
    obtain ⟨c, c0, c1, c2, c3⟩ := hv_know hm ha hs z
    obtain ⟨c', c0', c1', c2', c3'⟩ := hv_know hm' (l := l') (a := a) (by omega) (by omega) z'
    have ehv : hv t l a c = hv t' l' a c' := by
      have a1 := ag.1
      have a2 := ag'.1
      rw [c2] at a1
      rw [c2', a1] at a2
      exact Option.some.inj a2
    have hk := hv_kind hm hm' hll ha (by have := hm.sim.2; omega) c0 c1 c0' c1' ehv
    have hn := len_bd hm
    have hn' := len_bd hm'
    unfold hv at ehv
    by_cases h0 : t.Kind = 0
    · rw [hm.null h0, hm'.null (by omega)]
    have h0' : ¬ t'.Kind = 0 := by omega
    rw [if_neg h0, if_neg h0'] at ehv
    by_cases h1 : t.Kind = 1
    · have h1' : t'.Kind = 1 := by omega
      rw [if_pos h1, if_pos h1'] at ehv
      obtain ⟨k1, k2, k3, k4, k5, k6⟩ := st_know hm h1 (fun x hx => (hm.okids (.inl h1) x hx).pres) ha hs
      obtain ⟨k1', k2', k3', k4', k5', k6'⟩ := st_know hm' h1' (fun x hx => (hm'.okids (.inl h1') x hx).pres) (l := l') (a := a) (by omega) (by omega)
      have es : sz t = ((t.Words.length : Int) + (t.Kids.length : Int)) + (t.Kids.map sz).sum := by rw [sz_eq, if_pos h1]
      have es' : sz t' = ((t'.Words.length : Int) + (t'.Kids.length : Int)) + (t'.Kids.map sz).sum := by rw [sz_eq, if_pos h1']
      have sp := sum_pos (f := sz) (xs := t.Kids) fun y hy => (k4 y hy).1.2
      have sp' := sum_pos (f := sz) (xs := t'.Kids) fun y hy => (k4' y hy).1.2
      have q : t.Words.length = t'.Words.length ∧ t.Kids.length = t'.Kids.length := by
        unfold hdS offS at ehv
        rw [hll] at ehv
        split at ehv <;> split at ehv <;> omega
      have r1 := rs1_len t l a
      have r1' := rs1_len t' l' a
      have ew : t.Words = t'.Words := List.ext_getElem? fun j => by
        by_cases hj : j < t.Words.length
        · have a1 := ag.2 (l.length + j) (by omega) (by omega)
          have a2 := ag'.2 (l.length + j) (by omega) (by omega)
          rw [k6 _ (by omega) (by omega), rs1_words hj] at a1
          rw [hll, k6' _ (by omega) (by omega), rs1_words (by omega), ← hll, a1] at a2
          exact a2
        · rw [List.getElem?_eq_none (by omega), List.getElem?_eq_none (by omega)]
      have ek : t.Kids = t'.Kids := injK (ks := t.Kids) (fun x hx => ⟨injT_all n x (d - 1) (by have := kid_lt hx; omega) (hm.okids (.inl h1) x hx), _, hm.okids (.inl h1) x hx⟩) (ks' := t'.Kids) (fun x hx => ⟨_, hm'.okids (.inl h1') x hx⟩) q.2 (l := RS1 t l a) (l' := RS1 t' l' a) (F := F) (b := l.length + t.Words.length) (by omega) (by omega) k5 (by omega) (fun p p1 p2 => by
        have b1 := rs1_hole (t := t) (l := l) (a := a) (j := p - (l.length + t.Words.length)) (by omega)
        have b2 := rs1_hole (t := t') (l := l') (a := a) (j := p - (l.length + t.Words.length)) (by omega)
        rw [show l.length + t.Words.length + (p - (l.length + t.Words.length)) = p by omega] at b1
        rw [← hll, ← q.1, show l.length + t.Words.length + (p - (l.length + t.Words.length)) = p by omega] at b2
        exact ⟨b1, b2⟩) (fun p p1 p2 => by
        rw [← k1] at p2 ⊢
        exact ag.2 p (by omega) p2) (fun p p1 p2 => by
        rw [hll, q.1, ← k1'] at p2 ⊢
        exact ag'.2 p (by omega) p2)
      exact tree_ext hk ew ek
    have h1' : ¬ t'.Kind = 1 := by omega
    rw [if_neg h1, if_neg h1'] at ehv
    have w0 : t.Words = [] := (rt_inv hm.f.rt h0 h10).2.2.1 (by omega)
    have w0' : t'.Words = [] := (rt_inv hm'.f.rt (by omega) hm'.k).2.2.1 (by omega)
    by_cases h2 : 2 ≤ t.Kind ∧ t.Kind ≤ 7
    · have e1 := c3 (by omega)
      have e2 := c3' (by omega)
      have q : t.Kids.length = t'.Kids.length := by rw [hll] at ehv; omega
      have k := da_know hm h2 ha hs
      have k' := da_know hm' (by omega) (l := l') (a := a) (by omega) (by omega)
      have s1 := setI_len l (a : Int) (hdL t l a)
      have s1' := setI_len l' (a : Int) (hdL t' l' a)
      have at1 : ∀ {t : Tr} {d : Nat}, Nm t d → 2 ≤ t.Kind ∧ t.Kind ≤ 7 → (∀ x ∈ ato t, 0 ≤ x ∧ fitsP (t.Kind - 2) x = true) ∧ t.Kids = (ato t).map fun w => (⟨10, [w], []⟩ : Tr) := fun {t d} hm h2 => by
        refine ⟨fun x hx => ?_, ?_⟩
        · obtain ⟨y, hy, rfl⟩ := List.mem_map.1 hx
          obtain ⟨w, rfl, b1, b2, b3⟩ := hm.atoms h2 y hy
          exact ⟨b1, b3⟩
        · unfold ato
          rw [List.map_map]
          refine (List.map_id _).symm.trans (List.map_congr_left fun y hy => ?_)
          obtain ⟨w, rfl, b1, b2, b3⟩ := hm.atoms h2 y hy
          rfl
      have b1 := at1 hm h2
      have b2 := at1 hm' (by omega)
      have pl := (wput_ok (c := t.Kind - 2) (by omega) (ns := ato t) (by rw [ato_len]; omega) b1.1).2
      have pl' := (wput_ok (c := t'.Kind - 2) (by omega) (ns := ato t') (by rw [ato_len]; omega) b2.1).2
      rw [ato_len] at pl pl'
      rw [← hk] at pl' b2
      rw [← q] at pl'
      have ep : putC (t.Kind - 2) (ato t) = putC (t.Kind - 2) (ato t') := List.ext_getElem? fun j => by
        by_cases hj : j < (putC (t.Kind - 2) (ato t)).length
        · have a1 := ag.2 (l.length + j) (by omega) (by rw [k, List.length_append, s1]; omega)
          have a2 := ag'.2 (l.length + j) (by omega) (by rw [k', List.length_append, s1', ← hk]; omega)
          rw [k, List.getElem?_append_right (by omega), s1, show l.length + j - l.length = j by omega] at a1
          rw [k', List.getElem?_append_right (by omega), s1', show l.length + j - l'.length = j by omega, a1, ← hk] at a2
          exact a2
        · rw [List.getElem?_eq_none (by omega), List.getElem?_eq_none (by omega)]
      have ea := putC_inj (c := t.Kind - 2) (by omega) (by rw [ato_len, ato_len]; exact q) b1.1 b2.1 ep
      exact tree_ext hk (w0.trans w0'.symm) (by rw [b1.2, b2.2, ea])
    by_cases h8 : t.Kind = 8
    · have e1 := c3 (by omega)
      have e2 := c3' (by omega)
      have h8' : t'.Kind = 8 := by omega
      have q : t.Kids.length = t'.Kids.length := by rw [hll] at ehv; omega
      obtain ⟨k1, k4, k5, k6⟩ := pt_know hm h8 (fun x hx => (hm.okids (.inr h8) x hx).pres) ha hs
      obtain ⟨k1', k4', k5', k6'⟩ := pt_know hm' h8' (fun x hx => (hm'.okids (.inr h8') x hx).pres) (l := l') (a := a) (by omega) (by omega)
      have r1 := rp8_len t l a
      have r1' := rp8_len t' l' a
      have ek : t.Kids = t'.Kids := injK (ks := t.Kids) (fun x hx => ⟨injT_all n x (d - 1) (by have := kid_lt hx; omega) (hm.okids (.inr h8) x hx), _, hm.okids (.inr h8) x hx⟩) (ks' := t'.Kids) (fun x hx => ⟨_, hm'.okids (.inr h8') x hx⟩) q (l := RP8 t l a) (l' := RP8 t' l' a) (F := F) (b := l.length) (by omega) (by omega) k5 (by omega) (fun p p1 p2 => by
        have b1 := rp8_hole (t := t) (l := l) (a := a) (j := p - l.length) (by omega)
        have b2 := rp8_hole (t := t') (l := l') (a := a) (j := p - l.length) (by omega)
        rw [show l.length + (p - l.length) = p by omega] at b1
        rw [← hll, show l.length + (p - l.length) = p by omega] at b2
        exact ⟨b1, b2⟩) (fun p p1 p2 => by
        rw [← k1] at p2 ⊢
        exact ag.2 p (by omega) p2) (fun p p1 p2 => by
        rw [hll, ← k1'] at p2 ⊢
        exact ag'.2 p (by omega) p2)
      exact tree_ext hk (w0.trans w0'.symm) ek
    have h9 : t.Kind = 9 := by omega
    have h9' : t'.Kind = 9 := by omega
    obtain ⟨W, K, W1, K1, k3, k4, kf, k6, k7, k8, k9, kt, kb⟩ := co_know hm h9 (fun x hx y hy => ((hm.structs h9 x hx).1.okids (.inl (hm.structs h9 x hx).2) y hy).pres) ha hs
    obtain ⟨W', K', W1', K1', k3', k4', kf', k6', k7', k8', k9', kt', kb'⟩ := co_know hm' h9' (fun x hx y hy => ((hm'.structs h9' x hx).1.okids (.inl (hm'.structs h9' x hx).2) y hy).pres) (l := l') (a := a) (by omega) (by omega)
    have pr := presC (W := W) (K := K) (fun x hx => (k3 x hx).2) (l := RC9 t W K l a) (b := l.length + 1) (by omega) k7
    have pr' := presC (W := W') (K := K') (fun x hx => (k3' x hx).2) (l := RC9 t' W' K' l' a) (b := l'.length + 1) (by omega) k7'
    have tg : tag9 t W K = tag9 t' W' K' := by
      have q1 := sum_pos (f := szK) (xs := t.Kids) fun y hy => sum_pos fun z hz => ((k3 y hy).2.2 z hz).1.2
      have q2 := sum_pos (f := szK) (xs := t'.Kids) fun y hy => sum_pos fun z hz => ((k3' y hy).2.2 z hz).1.2
      have a1 := ag.2 l.length (by omega) (by rw [k8]; have := pr.1; omega)
      have a2 := ag'.2 l.length (by omega) (by rw [k8']; have := pr'.1; omega)
      rw [k8, pr.2 _ (by omega) (fun i x hx => by omega), kt] at a1
      rw [hll, k8', pr'.2 _ (by omega) (fun i x hx => by omega), kt', ← hll, a1] at a2
      exact Option.some.inj a2
    have q : t.Kids.length = t'.Kids.length ∧ W = W' ∧ K = K' := by
      unfold tag9 at tg
      omega
    obtain ⟨q, rfl, rfl⟩ := q
    have hb : l.length + 1 + t.Kids.length * (W + K) = l'.length + 1 + t'.Kids.length * (W + K) := by rw [hll, q]
    have ek : t.Kids = t'.Kids := injC (W := W) (K := K) (ks := t.Kids) (fun x hx => ⟨⟨(hm.structs h9 x hx).2, ⟨_, (hm.structs h9 x hx).1⟩, (k3 x hx).1, (k3 x hx).2.1⟩, fun y hy => injT_all n y (d - 1 - 1) (by have := kid_lt hx; have := kid_lt hy; omega) ((hm.structs h9 x hx).1.okids (.inl (hm.structs h9 x hx).2) y hy)⟩)
      (ks' := t'.Kids) (fun x hx => ⟨(hm'.structs h9' x hx).2, ⟨_, (hm'.structs h9' x hx).1⟩, (k3' x hx).1, (k3' x hx).2.1⟩) q (l := RC9 t W K l a) (l' := RC9 t' W K l' a) (F := F) (b := l.length + 1) (by omega) (by omega) k7 (by omega) kb (by rw [hll]; exact kb') (fun p p1 p2 => by
        rw [← k8] at p2 ⊢
        exact ag.2 p (by omega) p2) (fun p p1 p2 => by
        rw [hll, ← k8'] at p2 ⊢
        exact ag'.2 p (by omega) p2)
    exact tree_ext hk (w0.trans w0'.symm) ek
/-- two norms that lie alike are one -/
theorem ly_inj {t t' : Tr} {d : Nat} (h : Nm t d) (h' : Nm t' d) (hs : sz t < 131072) (hs' : sz t' < 131072) (e : ly t [0] 0 = ly t' [0] 0) : t = t' :=
  injT_all _ t d (Nat.lt_succ_self _) h t' d h' [0] [0] (ly t [0] 0) 0 rfl (by decide) (by simp only [List.length_singleton]; omega) (by simp only [List.length_singleton]; omega) rfl rfl ⟨rfl, fun p _ _ => rfl⟩ (by rw [e]; exact ⟨rfl, fun p _ _ => rfl⟩)

theorem enc_true {t : Tr} {most : Int} (h : (enc t most).2 = true) : ¬ t.Kind = 10 ∧ rt t 64 = true ∧ sz (nrm t) < 131072 ∧ (enc t most).1 = ly (nrm t) [0] 0 := by
  unfold enc at h ⊢
  by_cases q : t.Kind = 10 ∨ rt t 64 = false
  · rw [if_pos q] at h; cases h
  rw [if_neg q] at h ⊢
  by_cases q2 : most ≤ sz (nrm t) ∨ 131072 ≤ sz (nrm t)
  · rw [if_pos q2] at h; cases h
  rw [if_neg q2]
  refine ⟨fun k => q (.inl k), ?_, by omega, rfl⟩
  cases e : rt t 64 with
  | true => rfl
  | false => exact absurd (.inr e) q
theorem canonOne_p {a b : Tr} (ha : Bd a) (hb : Bd b) : m_centolaw12_CanonOne a b = some true := by
  unfold m_centolaw12_CanonOne m_centoref07_Few
  obtain ⟨r, h1, h2, h3, h4⟩ := shal_ok ha (left := 3000) (by decide) (by decide)
  obtain ⟨r', h1', h2', h3', h4'⟩ := shal_ok hb (left := 3000) (by decide) (by decide)
  rw [h1, h1']
  simp only [Option.bind_some]
  rw [awake12]
  by_cases hr : 0 ≤ r
  · by_cases hr' : 0 ≤ r'
    · have pa := h4 hr
      have pb := h4' hr'
      obtain ⟨e1, _, e3⟩ := encode_ok ha (by omega) 131072
      obtain ⟨f1, _, f3⟩ := encode_ok hb (by omega) 131072
      rw [decide_eq_true hr, decide_eq_true hr']
      simp only [cond_true, Option.bind_some, Bool.not_true, cond_false]
      rw [e1, f1]
      simp only [Option.bind_some]
      cases qa : (enc a 131072).2 with
      | false => simp
      | true =>
        cases qb : (enc b 131072).2 with
        | false => simp
        | true =>
          obtain ⟨a1, a2, a3, a4⟩ := enc_true qa
          obtain ⟨b1, b2, b3, b4⟩ := enc_true qb
          have na : Nm (nrm a) 64 := ⟨Fine.nrm ⟨ha, a2, by omega⟩, nrm_nrm a, by rw [nrm_kind]; exact a1⟩
          have nb : Nm (nrm b) 64 := ⟨Fine.nrm ⟨hb, b2, by omega⟩, nrm_nrm b, by rw [nrm_kind]; exact b1⟩
          have key : ((enc a 131072).1 == (enc b 131072).1) = eqT (nrm a) (nrm b) := by
            rw [a4, b4, Bool.eq_iff_iff, eqT_iff, beq_iff_eq]
            exact ⟨fun e => ly_inj na nb a3 b3 e, fun e => by rw [e]⟩
          rw [sameW_ok (by omega), requal_ok ha hb, key]
          simp
    · simp [hr, hr']
  · simp [hr]



end Go.Proofs.Ytpfbdlcnfekdkaa
