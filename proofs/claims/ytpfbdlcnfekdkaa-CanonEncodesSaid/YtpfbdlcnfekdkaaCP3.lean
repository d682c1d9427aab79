/- Plain facts on this seat's mirrors (part CP3); each theorem bears its own conditions. -/
import Derived.Test.YtpfbdlcnfekdkaaCP2
import Derived.IntWalk
namespace Go.Proofs.Ytpfbdlcnfekdkaa
open Go.RowKit
set_option linter.unusedVariables false
set_option linter.unusedSimpArgs false
theorem atoms_ok {t : Tr} (hn : t.Kids.length ≤ 1048576) (ha : ∀ k ∈ t.Kids, ∃ w, k.Words = [w] ∧ 0 ≤ w ∧ fitsP (t.Kind - 2) w = true) : m_centoref12_atoms t = some (ato t) := by
  have l0 := loop_map t.Kids (fun k => k.Words.headD 0) (m_centoref12_atoms_L0 t) [] (by omega) (fun i x out hi hx hm ho => by
    obtain ⟨w, hw, _⟩ := ha x hm
    have e : getI x.Words 0 = some w := by rw [hw]; rfl
    unfold m_centoref12_atoms_L0
    simp only [List.length_nil] at ho ⊢
    rw [lt_t hi, cond_true, getI_of hx, Option.bind_some, e, Option.bind_some, appI_ok (by simp only [List.length_singleton]; omega) (by simp only [List.length_singleton]; omega), Option.bind_some, hw]
    rfl) (fun out => by
    unfold m_centoref12_atoms_L0
    simp only
    rw [lt_f, cond_false])
  unfold m_centoref12_atoms
  rw [l0, Option.bind_some, List.nil_append]
  rfl

theorem nsum_mem {α : Type} {f : α → Nat} {x : α} : ∀ {l : List α}, x ∈ l → f x ≤ (l.map f).sum
  | [], h => by cases h
  | y :: l, h => by
    simp only [List.map_cons, List.sum_cons]
    rcases List.mem_cons.1 h with rfl | h
    · omega
    · have := nsum_mem (f := f) h; omega
theorem nsum_len {α : Type} {f : α → Nat} : ∀ {l : List α}, (∀ x ∈ l, 1 ≤ f x) → l.length ≤ (l.map f).sum
  | [], _ => by simp
  | y :: l, h => by
    have := nsum_len fun x hx => h x (.tail _ hx)
    have := h y (.head _)
    simp only [List.map_cons, List.sum_cons, List.length_cons]
    omega
theorem pt_pos (t : Tr) : 1 ≤ pt t := by rw [pt_eq]; omega
theorem pt_kid {t x : Tr} (h : x ∈ t.Kids) : pt x + 1 ≤ pt t := by
  have := nsum_mem (f := pt) h
  rw [pt_eq t]
  omega
theorem pt_kids (t : Tr) : 1 + t.Words.length + t.Kids.length ≤ pt t := by
  have := nsum_len (f := pt) (l := t.Kids) fun x _ => pt_pos x
  rw [pt_eq t]
  omega
theorem fr_key {M N : Int} : ∀ (l : List Tr) (s : Int × Int), (∀ x ∈ l, (x.Words.length : Int) ≤ M ∧ (x.Kids.length : Int) ≤ N) → 0 ≤ s.1 → s.1 ≤ M → 0 ≤ s.2 → s.2 ≤ N →
    s.1 ≤ (l.foldl frS s).1 ∧ (l.foldl frS s).1 ≤ M ∧ s.2 ≤ (l.foldl frS s).2 ∧ (l.foldl frS s).2 ≤ N ∧ ∀ x ∈ l, (x.Words.length : Int) ≤ (l.foldl frS s).1 ∧ (x.Kids.length : Int) ≤ (l.foldl frS s).2
  | [], s, _, a, b, c, d => ⟨Int.le_refl _, b, Int.le_refl _, d, fun x hx => by cases hx⟩
  | y :: l, s, h, a, b, c, d => by
    obtain ⟨h1, h2⟩ := h y (.head _)
    have e1 : s.1 ≤ (frS s y).1 ∧ (frS s y).1 ≤ M ∧ (y.Words.length : Int) ≤ (frS s y).1 := by unfold frS; simp only; split <;> omega
    have e2 : s.2 ≤ (frS s y).2 ∧ (frS s y).2 ≤ N ∧ (y.Kids.length : Int) ≤ (frS s y).2 := by unfold frS; simp only; split <;> omega
    obtain ⟨k1, k2, k3, k4, k5⟩ := fr_key l (frS s y) (fun x hx => h x (.tail _ hx)) (by omega) e1.2.1 (by omega) e2.2.1
    rw [List.foldl_cons]
    refine ⟨by omega, k2, by omega, k4, fun x hx => ?_⟩
    rcases List.mem_cons.1 hx with rfl | hx
    · omega
    · exact k5 x hx
theorem fr_bd {M N : Int} {l : List Tr} (h : ∀ x ∈ l, (x.Words.length : Int) ≤ M ∧ (x.Kids.length : Int) ≤ N) (hM : 0 ≤ M) (hN : 0 ≤ N) :
    0 ≤ (fr l).1 ∧ (fr l).1 ≤ M ∧ 0 ≤ (fr l).2 ∧ (fr l).2 ≤ N ∧ ∀ x ∈ l, (x.Words.length : Int) ≤ (fr l).1 ∧ (x.Kids.length : Int) ≤ (fr l).2 :=
  fr_key l (0, 0) h (Int.le_refl _) hM (Int.le_refl _) hN
theorem isum_le {α : Type} {f : α → Int} {g : α → Nat} {c : Int} : ∀ {l : List α}, (∀ x ∈ l, 0 ≤ f x ∧ f x ≤ c * (g x : Int)) → 0 ≤ (l.map f).sum ∧ (l.map f).sum ≤ c * (((l.map g).sum : Nat) : Int)
  | [], _ => by simp
  | y :: l, h => by
    obtain ⟨a, b⟩ := isum_le fun x hx => h x (.tail _ hx)
    obtain ⟨c1, d⟩ := h y (.head _)
    simp only [List.map_cons, List.sum_cons, Int.natCast_add, Int.mul_add]
    omega
/-- the words and pointers that the structs of a list have -/
theorem h9_eq {l : List Tr} (hl : l.length ≤ 3000) (h : ∀ x ∈ l, pt x ≤ 3000) : h9 l = 1 + (l.length : Int) * ((fr l).1 + (fr l).2) ∧ 0 ≤ (l.length : Int) * ((fr l).1 + (fr l).2) ∧ (l.length : Int) * ((fr l).1 + (fr l).2) ≤ 18000000 ∧ (0 ≤ (fr l).1 ∧ (fr l).1 ≤ 3000 ∧ 0 ≤ (fr l).2 ∧ (fr l).2 ≤ 3000 ∧ ∀ x ∈ l, (x.Words.length : Int) ≤ (fr l).1 ∧ (x.Kids.length : Int) ≤ (fr l).2) := by
  have f := fr_bd (M := 3000) (N := 3000) (l := l) (fun x hx => by have := pt_kids x; have := h x hx; omega) (by decide) (by decide)
  have a : 0 ≤ (l.length : Int) * ((fr l).1 + (fr l).2) := Int.mul_nonneg (by omega) (by omega)
  have b : (l.length : Int) * ((fr l).1 + (fr l).2) ≤ 3000 * 6000 := Int.mul_le_mul (by omega) (by omega) (by omega) (by decide)
  refine ⟨?_, a, by omega, f⟩
  unfold h9
  rw [i64s (x := (fr l).1 + (fr l).2) (by omega) (by omega), i64s (x := (l.length : Int) * _) (by omega) (by omega), i64s (by omega) (by omega)]
theorem room_le {c : Int} (h : 0 ≤ c ∧ c ≤ 5) (n : Nat) : (n * wid c + 63) / 64 ≤ n := by
  have hb : wid c ≤ 64 := by rcases c5' h with rfl | rfl | rfl | rfl | rfl | rfl <;> decide
  have := Nat.mul_le_mul_left n hb
  omega
theorem sz_bd : ∀ (n : Nat) (t : Tr) (d : Nat), SizeOf.sizeOf t < n → rt t d = true → pt t ≤ 3000 → 0 ≤ sz t ∧ sz t ≤ 20000000 * (pt t : Int)
  | 0, _, _, h, _, _ => by omega
  | n + 1, t, d, h, hr, hp => by
    obtain ⟨_, _, _, _, hk⟩ := rt_len hr
    have ih : ∀ x ∈ t.Kids, 0 ≤ sz x ∧ sz x ≤ 20000000 * (pt x : Int) := fun x hx => sz_bd n x (d - 1) (by have := kid_lt hx; omega) (hk x hx) (by have := pt_kid hx; omega)
    have ih2 : ∀ x ∈ t.Kids, 0 ≤ (x.Kids.map sz).sum ∧ (x.Kids.map sz).sum ≤ 20000000 * (pt x : Int) := fun x hx => by
      have := isum_le (f := sz) (g := pt) (c := 20000000) (l := x.Kids) fun y hy => sz_bd n y (d - 1 - 1) (by have := kid_lt hx; have := kid_lt hy; omega) ((rt_len (hk x hx)).2.2.2.2 y hy) (by have := pt_kid hx; have := pt_kid hy; omega)
      rw [pt_eq x]
      omega
    have s1 := isum_le ih
    have s2 := isum_le ih2
    have pk := pt_kids t
    have pe := pt_eq t
    rw [sz_eq]
    by_cases h1 : t.Kind = 1
    · rw [if_pos h1]; omega
    by_cases h2 : 2 ≤ t.Kind ∧ t.Kind ≤ 7
    · rw [if_neg h1, if_pos h2]
      have := room_le (c := t.Kind - 2) (by omega) t.Kids.length
      unfold roomZ
      omega
    by_cases h8 : t.Kind = 8
    · rw [if_neg h1, if_neg h2, if_pos h8]; omega
    by_cases h9' : t.Kind = 9
    · rw [if_neg h1, if_neg h2, if_neg h8, if_pos h9']
      obtain ⟨e, a, b, _⟩ := h9_eq (l := t.Kids) (by omega) (fun x hx => by have := pt_kid hx; omega)
      omega
    · rw [if_neg h1, if_neg h2, if_neg h8, if_neg h9']; omega
theorem sz_nn {t : Tr} {d : Nat} (hr : rt t d = true) (hp : pt t ≤ 3000) : 0 ≤ sz t ∧ sz t ≤ 60000000000 := by
  have := sz_bd _ t d (Nat.lt_succ_self _) hr hp
  omega
theorem rt_inv {t : Tr} {d : Nat} (h : rt t d = true) (h0 : ¬ t.Kind = 0) (h1 : ¬ t.Kind = 10) : t.Words.length < 65536 ∧ (t.Kind = 1 → t.Kids.length < 65536) ∧ (1 < t.Kind → t.Words = []) ∧ ∀ k ∈ t.Kids, rt k (d - 1) = true ∧ okk t.Kind k = true := by
  rw [rt_eq, if_neg h0, if_neg h1] at h
  by_cases hb : t.Kind < 0 ∨ 10 < t.Kind ∨ d = 0 ∨ 65536 ≤ t.Words.length ∨ (t.Kind = 1 ∧ 65536 ≤ t.Kids.length) ∨ 1048576 ≤ t.Kids.length ∨ (1 < t.Kind ∧ 0 < t.Words.length)
  · rw [if_pos hb] at h; cases h
  rw [if_neg hb, List.all_eq_true] at h
  refine ⟨by omega, fun h => by omega, fun h => List.length_eq_zero_iff.1 (by omega), fun k hk => ?_⟩
  have := h k hk
  rwa [Bool.and_eq_true] at this

/-- words, filled up with noughts -/
def zs (l : List Int) (N : Nat) : List Int := l ++ List.replicate (N - l.length) 0
theorem zs_len {l : List Int} {N : Nat} (h : l.length ≤ N) : (zs l N).length = N := by
  unfold zs
  rw [List.length_append, List.length_replicate]
  omega
theorem zs_get {l : List Int} {N a : Nat} {v : Int} (h : l[a]? = some v) : (zs l N)[a]? = some v := by
  unfold zs
  rw [List.getElem?_append_left (List.getElem?_eq_some_iff.1 h).1, h]
theorem zs_set {l : List Int} {N a : Nat} {v : Int} (h : a < l.length) : setI (zs l N) (a : Int) v = zs (setI l (a : Int) v) N := by
  unfold zs
  rw [setI_len]
  unfold setI
  rw [Int.toNat_natCast, List.set_append_left _ _ h]
theorem zs_cpy {l ys : List Int} {N : Nat} (h : l.length + ys.length ≤ N) : cpyAt (zs l N) (l.length : Int) ys = zs (l ++ ys) N := by
  unfold cpyAt
  rw [zs_len (by omega)]
  unfold zs
  rw [Int.toNat_natCast, List.take_left, List.take_of_length_le (by omega), List.drop_append, List.drop_replicate, List.drop_eq_nil_of_le (by omega), List.nil_append, List.length_append]
  congr 2
  omega
theorem zs_add {l : List Int} {N n : Nat} (h : l.length + n ≤ N) : zs (l ++ List.replicate n 0) N = zs l N := by
  unfold zs
  rw [List.length_append, List.length_replicate, List.append_assoc, List.replicate_append_replicate]
  congr 2
  omega
theorem add_ok {l : List Int} {n : Nat} (h : l.length + n ≤ 1048576) : m_centoref12_add l (n : Int) = some (l ++ List.replicate n 0) := by
  have := (loop_I (List.replicate n ()) (fun i s => (i, s)) (fun s => s) (m_centoref12_add_L0 (n : Int)) (fun s _ _ => s ++ [0]) (fun i s => s = l ++ List.replicate i 0) (by rw [List.length_replicate]; omega) (fun i s x hi hx hm hI => by
    subst hI
    rw [List.length_replicate] at hi
    refine ⟨?_, ?_⟩
    · unfold m_centoref12_add_L0
      simp only
      rw [decide_eq_true (by omega), cond_true, appI_ok (by rw [List.length_append, List.length_replicate, List.length_singleton]; omega) (by rw [List.length_append, List.length_replicate, List.length_singleton]; omega)]
      rfl
    · rw [List.append_assoc, List.replicate_succ']) (fun s _ => by
    unfold m_centoref12_add_L0
    simp only
    rw [List.length_replicate, lt_f, cond_false]) l (by simp))
  unfold m_centoref12_add
  rw [this.1, Option.bind_some, this.2, List.length_replicate]
/-- the words that a tree is laid into, as the document lays them -/
noncomputable def ly (t : Tr) (l : List Int) (a : Nat) : List Int := (lv_centoref12_Lay (SizeOf.sizeOf t + 1) l (a : Int) t).getD []
/-- both lay a tree alike -/
def Sim (t : Tr) : Prop := ∀ (l : List Int) (a : Nat), a < l.length → (l.length : Int) + sz t ≤ 131072 →
  ((ly t l a).length : Int) = l.length + sz t ∧ (∀ j, SizeOf.sizeOf t < j → lv_centoref12_Lay j l (a : Int) t = some (ly t l a)) ∧
  (∀ N k : Nat, (l.length : Int) + sz t ≤ N → N ≤ 131072 → 4 * SizeOf.sizeOf t < k → (lv_canon_layer_point k).1 ⟨zs l N, (l.length : Int)⟩ (a : Int) t = some ⟨zs (ly t l a) N, ((ly t l a).length : Int)⟩)
theorem sim_of {t : Tr} {l R : List Int} {a : Nat} (hr : (R.length : Int) = l.length + sz t) (ref : ∀ j, SizeOf.sizeOf t ≤ j → b_centoref12_Lay (lv_centoref12_Lay j) l (a : Int) t = some R)
    (prog : ∀ N k : Nat, (l.length : Int) + sz t ≤ N → N ≤ 131072 → 4 * SizeOf.sizeOf t < k + 4 → (lv_canon_layer_point (k + 4)).1 ⟨zs l N, (l.length : Int)⟩ (a : Int) t = some ⟨zs R N, (R.length : Int)⟩) :
    ly t l a = R ∧ ((ly t l a).length : Int) = l.length + sz t ∧ (∀ j, SizeOf.sizeOf t < j → lv_centoref12_Lay j l (a : Int) t = some (ly t l a)) ∧
    (∀ N k : Nat, (l.length : Int) + sz t ≤ N → N ≤ 131072 → 4 * SizeOf.sizeOf t < k → (lv_canon_layer_point k).1 ⟨zs l N, (l.length : Int)⟩ (a : Int) t = some ⟨zs (ly t l a) N, ((ly t l a).length : Int)⟩) := by
  have e : ly t l a = R := by
    unfold ly
    have := ref (SizeOf.sizeOf t) (Nat.le_refl _)
    show Option.getD (b_centoref12_Lay (lv_centoref12_Lay (SizeOf.sizeOf t)) l (a : Int) t) [] = R
    rw [this]
    rfl
  refine ⟨e, by rw [e]; exact hr, fun j hj => ?_, fun N k h1 h2 h3 => ?_⟩
  · obtain ⟨i, rfl⟩ : ∃ i, j = i + 1 := ⟨j - 1, by omega⟩
    rw [e]
    exact ref i (by omega)
  · have := size_pos t
    obtain ⟨i, rfl⟩ : ∃ i, k = i + 4 := ⟨k - 4, by omega⟩
    rw [e]
    exact prog N i h1 h2 h3
theorem lvc1 (k : Nat) : (lv_canon_layer_point (k + 1)).1 = b_canon_layer_point ((lv_canon_layer_point k).1) ((lv_canon_layer_point k).2.1) ((lv_canon_layer_point k).2.2.1) ((lv_canon_layer_point k).2.2.2) := rfl
theorem lvc2 (k : Nat) : (lv_canon_layer_point (k + 1)).2.1 = b_canon_layer_content ((lv_canon_layer_point k).1) ((lv_canon_layer_point k).2.1) ((lv_canon_layer_point k).2.2.1) ((lv_canon_layer_point k).2.2.2) := rfl
theorem lvc3 (k : Nat) : (lv_canon_layer_point (k + 1)).2.2.1 = b_canon_layer_pointAll ((lv_canon_layer_point k).1) ((lv_canon_layer_point k).2.1) ((lv_canon_layer_point k).2.2.1) ((lv_canon_layer_point k).2.2.2) := rfl
theorem lvc4 (k : Nat) : (lv_canon_layer_point (k + 1)).2.2.2 = b_canon_layer_structs ((lv_canon_layer_point k).1) ((lv_canon_layer_point k).2.1) ((lv_canon_layer_point k).2.2.1) ((lv_canon_layer_point k).2.2.2) := rfl
/-- kids laid one behind the other -/
noncomputable def lyK (b : Nat) (ks : List Tr) (l : List Int) : List Int := foldI (fun l i x => ly x l (b + i)) l 0 ks
theorem foldI_I {α σ : Type} {f : σ → Nat → α → σ} (I : Nat → σ → Prop) (xs : List α) (h : ∀ (i : Nat) (s : σ) (x : α), i < xs.length → xs[i]? = some x → x ∈ xs → I i s → I (i + 1) (f s i x)) {s : σ} (h0 : I 0 s) : I xs.length (foldI f s 0 xs) := by
  have key : ∀ (l pre : List α) (s : σ), xs = pre ++ l → I pre.length s → I xs.length (foldI f s pre.length l) := fun l => by
    induction l with
    | nil =>
      intro pre s hp hi
      rw [List.append_nil] at hp
      subst hp
      exact hi
    | cons x l ih =>
      intro pre s hp hI
      have hx : xs[pre.length]? = some x := by rw [hp, List.getElem?_append_right (Nat.le_refl _), Nat.sub_self]; rfl
      have hi : pre.length < xs.length := by rw [hp]; simp
      have b := h pre.length s x hi hx (List.mem_of_getElem? hx) hI
      have := ih (pre ++ [x]) (f s pre.length x) (by rw [hp]; simp) (by rw [List.length_append, List.length_singleton]; exact b)
      rw [List.length_append, List.length_singleton] at this
      exact this
  exact key xs [] s rfl h0
theorem kid_step {ks : List Tr} (hk : ∀ x ∈ ks, Sim x ∧ 0 ≤ sz x) {l : List Int} {b : Nat} (hb : b + ks.length ≤ l.length) (hs : (l.length : Int) + (ks.map sz).sum ≤ 131072)
    (i : Nat) (s : List Int) (x : Tr) (hi : i < ks.length) (hx : ks[i]? = some x) (hm : x ∈ ks) (hI : (s.length : Int) = l.length + ((ks.take i).map sz).sum) :
    b + i < s.length ∧ (s.length : Int) + sz x ≤ l.length + (ks.map sz).sum ∧ ((ly x s (b + i)).length : Int) = l.length + ((ks.take (i + 1)).map sz).sum := by
  obtain ⟨h1, h2⟩ := sum_step (f := sz) hx fun y hy => (hk y hy).2
  have h3 := sum_pos (f := sz) (xs := ks.take i) fun y hy => (hk y (List.mem_of_mem_take hy)).2
  have h4 := ((hk x hm).1 s (b + i) (by omega) (by omega)).1
  exact ⟨by omega, by omega, by omega⟩
theorem kidsLen {ks : List Tr} (hk : ∀ x ∈ ks, Sim x ∧ 0 ≤ sz x) {l : List Int} {b : Nat} (hb : b + ks.length ≤ l.length) (hs : (l.length : Int) + (ks.map sz).sum ≤ 131072) : ((lyK b ks l).length : Int) = l.length + (ks.map sz).sum := by
  have := foldI_I (f := fun l i x => ly x l (b + i)) (fun i (s : List Int) => (s.length : Int) = l.length + ((ks.take i).map sz).sum) ks (fun i s x hi hx hm hI => (kid_step hk hb hs i s x hi hx hm hI).2.2) (s := l) (by simp)
  rw [List.take_length] at this
  exact this
theorem kidsR {ks : List Tr} (hk : ∀ x ∈ ks, Sim x ∧ 0 ≤ sz x) {l : List Int} {b : Nat} (hb : b + ks.length ≤ l.length) (hs : (l.length : Int) + (ks.map sz).sum ≤ 131072)
    (j : Nat) (step : Int × List Int → Option ((Int × List Int) ⊕ List Int)) (hj : ∀ x ∈ ks, SizeOf.sizeOf x < j)
    (h1 : ∀ (i : Nat) (s : List Int) (x : Tr) (s' : List Int), i < ks.length → ks[i]? = some x → x ∈ ks → lv_centoref12_Lay j s ((b + i : Nat) : Int) x = some s' → step ((i : Int), s) = some (.inl (IntKind.i64.wrap ((i : Int) + 1), s')))
    (h2 : ∀ s, step ((ks.length : Int), s) = some (.inr s)) : runLoop step (0, l) = some (lyK b ks l) := by
  have h3 := sum_pos (f := sz) (xs := ks) fun y hy => (hk y hy).2
  exact (loop_I ks (fun i s => (i, s)) (fun s => s) step (fun l i x => ly x l (b + i)) (fun i (s : List Int) => (s.length : Int) = l.length + ((ks.take i).map sz).sum) (by omega) (fun i s x hi hx hm hI => by
    obtain ⟨a1, a2, a3⟩ := kid_step hk hb hs i s x hi hx hm hI
    exact ⟨h1 i s x _ hi hx hm (((hk x hm).1 s (b + i) a1 (by omega)).2.1 j (hj x hm)), a3⟩) (fun s _ => h2 s) l (by simp)).1
theorem kidsP {ks : List Tr} (hk : ∀ x ∈ ks, Sim x ∧ 0 ≤ sz x) {l : List Int} {b : Nat} (hb : b + ks.length ≤ l.length) (hs : (l.length : Int) + (ks.map sz).sum ≤ 131072)
    (N m : Nat) (hN : (l.length : Int) + (ks.map sz).sum ≤ N) (hN2 : N ≤ 131072) (hm : ∀ x ∈ ks, 4 * SizeOf.sizeOf x < m) :
    (lv_canon_layer_point (m + 1)).2.2.1 ⟨zs l N, (l.length : Int)⟩ (b : Int) ks = some ⟨zs (lyK b ks l) N, ((lyK b ks l).length : Int)⟩ := by
  have h3 := sum_pos (f := sz) (xs := ks) fun y hy => (hk y hy).2
  rw [lvc3]
  unfold b_canon_layer_pointAll
  have := (loop_I ks (fun i (s : List Int) => (i, zs s N, (s.length : Int))) (fun s => (zs s N, (s.length : Int))) (b_canon_layer_pointAll_L0 (lv_canon_layer_point m).1 (b : Int) ks) (fun l i x => ly x l (b + i)) (fun i (s : List Int) => (s.length : Int) = l.length + ((ks.take i).map sz).sum) (by omega) (fun i s x hi hx hm' hI => by
    obtain ⟨a1, a2, a3⟩ := kid_step hk hb hs i s x hi hx hm' hI
    refine ⟨?_, a3⟩
    unfold b_canon_layer_pointAll_L0
    simp only
    have e : IntKind.i64.wrap ((b : Int) + (i : Int)) = ((b + i : Nat) : Int) := by rw [i64s (by omega) (by omega)]; omega
    rw [lt_t hi, cond_true, getI_of hx, Option.bind_some, e, ((hk x hm').1 s (b + i) a1 (by omega)).2.2 N m (by omega) hN2 (hm x hm'), Option.bind_some]) (fun s _ => by
    unfold b_canon_layer_pointAll_L0
    simp only
    rw [lt_f, cond_false]) l (by simp)).1
  rw [this]
  rfl

theorem beq_t {a b : Int} (h : a = b) : (a == b) = true := by rw [h]; exact beq_self_eq_true b
theorem get_at {l : List Int} {a : Nat} (h : a < l.length) : getI l (a : Int) = some l[a] := getI_of (List.getElem?_eq_getElem h)
theorem getz {l : List Int} {a N : Nat} (h : a < l.length) : getI (zs l N) (a : Int) = some l[a] := getI_of (zs_get (List.getElem?_eq_getElem h))
theorem lyK_nil {ks : List Tr} (h : ks = []) (b b' : Nat) (l : List Int) : lyK b ks l = lyK b' ks l := by subst h; rfl
theorem sim_null {t : Tr} (h0 : t.Kind = 0) : Sim t := fun l a ha hs => by
  have e : sz t = 0 := by
    rw [sz_eq, if_neg (by omega), if_neg (by omega), if_neg (by omega), if_neg (by omega)]
  exact (sim_of (R := l) (by omega) (fun j _ => by
    unfold b_centoref12_Lay
    rw [beq_t h0, cond_true]) (fun N k _ _ _ => by
    rw [lvc1]
    unfold b_canon_layer_point
    rw [beq_t h0, cond_true])).2
/-- the offset of a struct -/
def offS (t : Tr) (l : List Int) (a : Nat) : Int := if t.Words.length + t.Kids.length = 0 then -1 else (l.length : Int) - a - 1
def RS1 (t : Tr) (l : List Int) (a : Nat) : List Int := setI l (a : Int) (offS t l a % 1073741824 * 4 + (t.Words.length : Int) * 4294967296 + (t.Kids.length : Int) * 281474976710656) ++ t.Words ++ List.replicate t.Kids.length 0
theorem lay_struct {t : Tr} (h1 : t.Kind = 1) (hw : t.Words.length < 65536) (hkl : t.Kids.length < 65536) (hk : ∀ x ∈ t.Kids, Sim x ∧ 0 ≤ sz x) (l : List Int) (a : Nat) (ha : a < l.length) (hs : (l.length : Int) + sz t ≤ 131072) :
    ly t l a = lyK (l.length + t.Words.length) t.Kids (RS1 t l a) ∧ ((ly t l a).length : Int) = l.length + sz t ∧ (∀ j, SizeOf.sizeOf t < j → lv_centoref12_Lay j l (a : Int) t = some (ly t l a)) ∧
    (∀ N k : Nat, (l.length : Int) + sz t ≤ N → N ≤ 131072 → 4 * SizeOf.sizeOf t < k → (lv_canon_layer_point k).1 ⟨zs l N, (l.length : Int)⟩ (a : Int) t = some ⟨zs (ly t l a) N, ((ly t l a).length : Int)⟩) := by
  have es : sz t = ((t.Words.length : Int) + (t.Kids.length : Int)) + (t.Kids.map sz).sum := by rw [sz_eq, if_pos h1]
  have s0 := sum_pos (f := sz) (xs := t.Kids) fun y hy => (hk y hy).2
  have k0 : (t.Kind == 0) = false := ieqF (by omega)
  have k1 : (t.Kind == 1) = true := beq_t h1
  have l2 : (RS1 t l a).length = l.length + t.Words.length + t.Kids.length := by unfold RS1; rw [List.length_append, List.length_append, setI_len, List.length_replicate]
  have hb : l.length + t.Words.length + t.Kids.length ≤ (RS1 t l a).length := by omega
  have hs2 : ((RS1 t l a).length : Int) + (t.Kids.map sz).sum ≤ 131072 := by omega
  have len := kidsLen hk hb hs2
  have ho : -536870912 ≤ offS t l a ∧ offS t l a < 536870912 ∧ ¬ (offS t l a = 0 ∧ (t.Words.length : Int) = 0 ∧ (t.Kids.length : Int) = 0) := by unfold offS; split <;> omega
  refine sim_of (by rw [len]; omega) (fun j hj => ?_) (fun N k hN hN2 hkk => ?_)
  · unfold b_centoref12_Lay
    rw [k0, cond_false, k1, cond_true]
    have ez : (cond ((IntKind.i64.wrap ((t.Words.length : Int) + (t.Kids.length : Int))) == 0) (some (a : Int)) (some (l.length : Int))) = some (((if t.Words.length + t.Kids.length = 0 then a else l.length : Nat) : Nat) : Int) := by
      rw [i64s (by omega) (by omega)]
      by_cases q : t.Words.length + t.Kids.length = 0
      · rw [beq_t (by omega), cond_true, if_pos q]
      · rw [ieqF (by omega), cond_false, if_neg q]
    rw [ez, Option.bind_some]
    generalize ht : (if t.Words.length + t.Kids.length = 0 then a else l.length) = tt
    have hto : tt ≤ l.length ∧ (tt : Int) - a - 1 = offS t l a ∧ (tt = l.length ∨ t.Kids = []) := by
      unfold offS
      by_cases q : t.Words.length + t.Kids.length = 0
      · rw [if_pos q] at ht ⊢
        exact ⟨by omega, by omega, .inr (List.length_eq_zero_iff.1 (by omega))⟩
      · rw [if_neg q] at ht ⊢
        exact ⟨by omega, by omega, .inl ht.symm⟩
    have hto3 : t.Kids.length = 0 ∨ tt = l.length := by
      rcases hto.2.2 with h | h
      · exact .inr h
      · exact .inl (by rw [h]; rfl)
    rw [u64i (x := (t.Words.length : Int)) (by omega) (by omega), u64i (x := (t.Kids.length : Int)) (by omega) (by omega), u64i (x := 65536 * _) (by omega) (by omega), u64i (by omega) (by omega), rpointer (by omega) (by omega) (by omega) (by omega) (by decide) (by decide) (by omega) (by omega), Option.bind_some, get_at ha, Option.bind_some, hto.2.1]
    have ev : offS t l a % 1073741824 * 4 + 0 + ((t.Words.length : Int) + 65536 * (t.Kids.length : Int)) * 4294967296 = offS t l a % 1073741824 * 4 + (t.Words.length : Int) * 4294967296 + (t.Kids.length : Int) * 281474976710656 := by omega
    rw [ev, appI_ok (by rw [setI_len]; omega) (by rw [setI_len]; omega), Option.bind_some, add_ok (by rw [List.length_append, setI_len]; omega), Option.bind_some]
    have := kidsR (b := tt + t.Words.length) hk (by omega) hs2 j (b_centoref12_Lay_L0 (lv_centoref12_Lay j) t (tt : Int)) (fun x hx => by have := kid_lt hx; omega) (fun i s x s' hi hx hm hq => by
      unfold b_centoref12_Lay_L0
      simp only
      have e : IntKind.i64.wrap (IntKind.i64.wrap ((tt : Int) + (t.Words.length : Int)) + (i : Int)) = ((tt + t.Words.length + i : Nat) : Int) := by rw [i64s (x := (tt : Int) + _) (by omega) (by omega), i64s (by omega) (by omega)]; omega
      rw [lt_t hi, cond_true, getI_of hx, Option.bind_some, e, hq, Option.bind_some]) (fun s => by
      unfold b_centoref12_Lay_L0
      simp only
      rw [lt_f, cond_false])
    unfold RS1 at this ⊢
    rw [this, Option.bind_some]
    rcases hto.2.2 with h | h
    · rw [h]
    · rw [lyK_nil h]
  · rw [lvc1]
    unfold b_canon_layer_point
    rw [k0, cond_false]
    have e1 : m_canon_shape t = some (⟨1, 0, (t.Words.length : Int), (t.Kids.length : Int), 0, 0, 0, false⟩ : S_ptr_Ptr) := by unfold m_canon_shape; rw [k1, cond_true]
    have e2 : m_ptr_Ptr_Words (⟨1, 0, (t.Words.length : Int), (t.Kids.length : Int), 0, 0, 0, false⟩ : S_ptr_Ptr) = some ((t.Words.length : Int) + (t.Kids.length : Int), true) := by
      unfold m_ptr_Ptr_Words
      simp only
      rw [beq_t rfl, cond_true, i64s (by omega) (by omega)]
    have e3 : (cond (cond ((1 : Int) == 1) (((t.Words.length : Int) + (t.Kids.length : Int)) == 0) false) (some (-1)) (some (IntKind.i64.wrap ((IntKind.i64.wrap ((l.length : Int) - (a : Int))) - 1)))) = some (offS t l a) := by
      unfold offS
      rw [i64s (x := (l.length : Int) - (a : Int)) (by omega) (by omega), i64s (by omega) (by omega), beq_t rfl, cond_true]
      by_cases q : t.Words.length + t.Kids.length = 0
      · rw [beq_t (by omega), cond_true, if_pos q]
      · rw [ieqF (by omega), cond_false, if_neg q]
    rw [e1, Option.bind_some, e2, Option.bind_some]
    simp only
    rw [e3, Option.bind_some, encS ho.1 ho.2.1 (by omega) (by omega) (by omega) (by omega) ho.2.2, Option.bind_some, getz ha, Option.bind_some, zs_set ha, lvc2]
    unfold b_canon_layer_content
    simp only
    rw [k1, cond_true]
    have l1 := setI_len l (a : Int) (offS t l a % 1073741824 * 4 + (t.Words.length : Int) * 4294967296 + (t.Kids.length : Int) * 281474976710656)
    unfold RS1 at l2 len hb hs2 ⊢
    generalize setI l (a : Int) (offS t l a % 1073741824 * 4 + (t.Words.length : Int) * 4294967296 + (t.Kids.length : Int) * 281474976710656) = m at *
    rw [zs_len (by omega), guardI_ok (by omega), Option.bind_some, i64s (x := (l.length : Int) + _) (by omega) (by omega), i64s (by omega) (by omega), ← l1, zs_cpy (by omega), ← zs_add (n := t.Kids.length) (by rw [List.length_append]; omega)]
    have := kidsP hk hb hs2 N (k + 1) (by omega) hN2 (fun x hx => by have := kid_lt hx; omega)
    have e4 : (m.length : Int) + ((min t.Words.length (((N : Nat) : Int) - (m.length : Int)).toNat : Nat) : Int) = ((m.length + t.Words.length : Nat) : Int) := by omega
    have e5 : (m.length : Int) + ((t.Words.length : Int) + (t.Kids.length : Int)) = ((m ++ t.Words ++ List.replicate t.Kids.length 0).length : Int) := by omega
    rw [e4, e5, ← l1] at *
    rw [this]
    rfl

theorem pwidth {c : Int} (h : 0 ≤ c ∧ c ≤ 6) : m_ptr_width c = some (if c = 6 then 64 else ((wid c : Nat) : Int)) := by
  have : c = 0 ∨ c = 1 ∨ c = 2 ∨ c = 3 ∨ c = 4 ∨ c = 5 ∨ c = 6 := by omega
  rcases this with rfl | rfl | rfl | rfl | rfl | rfl | rfl <;> rfl
/-- how many words a list's content takes -/
def rmL (c : Int) (n : Nat) : Nat := if c = 6 then n else (n * wid c + 63) / 64
theorem pwords {c off : Int} {n : Nat} (h : 0 ≤ c ∧ c ≤ 6) (hn : n ≤ 3000) : m_ptr_Ptr_Words (⟨2, off, 0, 0, c, (n : Int), 0, false⟩ : S_ptr_Ptr) = some (((rmL c n : Nat) : Int), true) := by
  unfold m_ptr_Ptr_Words
  simp only
  rw [ieqF (a := 2) (b := 1) (by decide), cond_false, beq_t (a := 2) (b := 2) rfl, cond_true, ieqF (a := c) (b := 7) (by omega), cond_false, cond_true, decide_eq_true (by omega), cond_true, decide_eq_true (by omega), cond_true, decide_eq_true (by omega), cond_true, decide_eq_true (by omega), cond_true, pwidth h, Option.bind_some]
  unfold rmL
  by_cases q : c = 6
  · rw [if_pos q, if_pos q, i64s (x := (n : Int) * 64) (by omega) (by omega), i64s (x := (n : Int) * 64 + 63) (by omega) (by omega), Int.tdiv_eq_ediv_of_nonneg (by omega), i64s (by omega) (by omega)]
    congr 2
    omega
  · rw [if_neg q, if_neg q]
    have hb : wid c ≤ 64 := by rcases c5' (show 0 ≤ c ∧ c ≤ 5 by omega) with rfl | rfl | rfl | rfl | rfl | rfl <;> decide
    have hm : n * wid c ≤ 3000 * 64 := Nat.mul_le_mul hn hb
    rw [← Int.natCast_mul]
    generalize n * wid c = m at hm ⊢
    rw [i64s (x := (m : Int)) (by omega) (by omega), i64s (x := (m : Int) + 63) (by omega) (by omega), Int.tdiv_eq_ediv_of_nonneg (by omega), i64s (by omega) (by omega)]
    congr 1
def hdL (t : Tr) (l : List Int) (a : Nat) : Int := ((l.length : Int) - a - 1) % 1073741824 * 4 + 1 + (t.Kind - 2) * 4294967296 + (t.Kids.length : Int) * 34359738368
theorem pshape {t : Tr} (h2 : 2 ≤ t.Kind ∧ t.Kind ≤ 8) : m_canon_shape t = some (⟨2, 0, 0, 0, t.Kind - 2, (t.Kids.length : Int), 0, false⟩ : S_ptr_Ptr) := by
  unfold m_canon_shape
  rw [ieqF (by omega), cond_false, ieqF (by omega), cond_false, i64s (by omega) (by omega)]
/-- a list of data, or of pointers: what its pointer is -/
theorem point_list {t : Tr} (h2 : 2 ≤ t.Kind ∧ t.Kind ≤ 8) (hn : t.Kids.length ≤ 3000) {l : List Int} {a N : Nat} (ha : a < l.length) (hl : l.length ≤ 131072) (k : Nat) :
    (lv_canon_layer_point (k + 1)).1 ⟨zs l N, (l.length : Int)⟩ (a : Int) t = ((lv_canon_layer_point k).2.1 ⟨zs (setI l (a : Int) (hdL t l a)) N, ((l.length + rmL (t.Kind - 2) t.Kids.length : Nat) : Int)⟩ (l.length : Int) t).bind fun y => some ⟨y.words, y.next⟩ := by
  rw [lvc1]
  unfold b_canon_layer_point
  have hr : rmL (t.Kind - 2) t.Kids.length ≤ t.Kids.length := by
    unfold rmL
    split
    · exact Nat.le_refl _
    · exact room_le (by omega) _
  rw [ieqF (by omega), cond_false, pshape h2, Option.bind_some, pwords (by omega) hn, Option.bind_some]
  simp only
  rw [ieqF (a := 2) (b := 1) (by decide), cond_false, cond_false, Option.bind_some, i64s (x := (l.length : Int) - (a : Int)) (by omega) (by omega), i64s (by omega) (by omega), encL (by omega) (by omega) (by omega) (by omega) (by omega) (by omega), Option.bind_some, getz ha, Option.bind_some, zs_set ha, i64s (by omega) (by omega)]
  rfl
theorem lay_ptrs {t : Tr} (h8 : t.Kind = 8) (hn : t.Kids.length ≤ 3000) (hk : ∀ x ∈ t.Kids, Sim x ∧ 0 ≤ sz x) (l : List Int) (a : Nat) (ha : a < l.length) (hs : (l.length : Int) + sz t ≤ 131072) :
    ly t l a = lyK l.length t.Kids (setI l (a : Int) (hdL t l a) ++ List.replicate t.Kids.length 0) ∧ ((ly t l a).length : Int) = l.length + sz t ∧ (∀ j, SizeOf.sizeOf t < j → lv_centoref12_Lay j l (a : Int) t = some (ly t l a)) ∧
    (∀ N k : Nat, (l.length : Int) + sz t ≤ N → N ≤ 131072 → 4 * SizeOf.sizeOf t < k → (lv_canon_layer_point k).1 ⟨zs l N, (l.length : Int)⟩ (a : Int) t = some ⟨zs (ly t l a) N, ((ly t l a).length : Int)⟩) := by
  have es : sz t = (t.Kids.length : Int) + (t.Kids.map sz).sum := by rw [sz_eq, if_neg (by omega), if_neg (by omega), if_pos h8]
  have s0 := sum_pos (f := sz) (xs := t.Kids) fun y hy => (hk y hy).2
  have l1 := setI_len l (a : Int) (hdL t l a)
  have l2 : (setI l (a : Int) (hdL t l a) ++ List.replicate t.Kids.length 0).length = l.length + t.Kids.length := by rw [List.length_append, setI_len, List.length_replicate]
  have hb : l.length + t.Kids.length ≤ (setI l (a : Int) (hdL t l a) ++ List.replicate t.Kids.length 0).length := by omega
  have hs2 : ((setI l (a : Int) (hdL t l a) ++ List.replicate t.Kids.length 0).length : Int) + (t.Kids.map sz).sum ≤ 131072 := by omega
  have len := kidsLen hk hb hs2
  refine sim_of (by rw [len]; omega) (fun j hj => ?_) (fun N k hN hN2 hkk => ?_)
  · unfold b_centoref12_Lay
    rw [ieqF (by omega), cond_false, ieqF (by omega), cond_false, beq_t h8, cond_true, u64i (x := (t.Kids.length : Int)) (by omega) (by omega), u64i (x := 8 * _) (by omega) (by omega), u64i (by omega) (by omega), rpointer (by omega) (by omega) (by omega) (by omega) (by decide) (by decide) (by omega) (by omega), Option.bind_some, get_at ha, Option.bind_some]
    have ev : ((l.length : Int) - (a : Int) - 1) % 1073741824 * 4 + 1 + (6 + 8 * (t.Kids.length : Int)) * 4294967296 = hdL t l a := by unfold hdL; rw [h8]; omega
    rw [ev, add_ok (by omega), Option.bind_some]
    have := kidsR hk hb hs2 j (b_centoref12_Lay_L1 (lv_centoref12_Lay j) l t) (fun x hx => by have := kid_lt hx; omega) (fun i s x s' hi hx hm hq => by
      unfold b_centoref12_Lay_L1
      simp only
      have e : IntKind.i64.wrap ((l.length : Int) + (i : Int)) = ((l.length + i : Nat) : Int) := by rw [i64s (by omega) (by omega)]; omega
      rw [lt_t hi, cond_true, getI_of hx, Option.bind_some, e, hq, Option.bind_some]) (fun s => by
      unfold b_centoref12_Lay_L1
      simp only
      rw [lt_f, cond_false])
    rw [this, Option.bind_some]
  · rw [point_list (by omega) hn ha (by omega), lvc2]
    unfold b_canon_layer_content
    simp only
    rw [ieqF (by omega), cond_false, beq_t h8, cond_true]
    have e0 : rmL (t.Kind - 2) t.Kids.length = t.Kids.length := by unfold rmL; rw [if_pos (by omega)]
    have := kidsP hk hb hs2 N (k + 1) (by omega) hN2 (fun x hx => by have := kid_lt hx; omega)
    rw [zs_add (by omega), l2] at this
    rw [e0, this]
    rfl
theorem lay_data {t : Tr} (h2 : 2 ≤ t.Kind ∧ t.Kind ≤ 7) (hn : t.Kids.length ≤ 3000) (hat : ∀ k ∈ t.Kids, ∃ w, k.Words = [w] ∧ 0 ≤ w ∧ w < 18446744073709551616 ∧ fitsP (t.Kind - 2) w = true) (l : List Int) (a : Nat) (ha : a < l.length) (hs : (l.length : Int) + sz t ≤ 131072) :
    ly t l a = setI l (a : Int) (hdL t l a) ++ putC (t.Kind - 2) (ato t) ∧ ((ly t l a).length : Int) = l.length + sz t ∧ (∀ j, SizeOf.sizeOf t < j → lv_centoref12_Lay j l (a : Int) t = some (ly t l a)) ∧
    (∀ N k : Nat, (l.length : Int) + sz t ≤ N → N ≤ 131072 → 4 * SizeOf.sizeOf t < k → (lv_canon_layer_point k).1 ⟨zs l N, (l.length : Int)⟩ (a : Int) t = some ⟨zs (ly t l a) N, ((ly t l a).length : Int)⟩) := by
  have es : sz t = ((rmL (t.Kind - 2) t.Kids.length : Nat) : Int) := by
    rw [sz_eq, if_neg (by omega), if_pos h2]
    unfold roomZ rmL
    rw [if_neg (by omega)]
  have hr : rmL (t.Kind - 2) t.Kids.length ≤ t.Kids.length := by
    unfold rmL
    rw [if_neg (by omega)]
    exact room_le (by omega) _
  have l1 := setI_len l (a : Int) (hdL t l a)
  have hp : (putC (t.Kind - 2) (ato t)).length = rmL (t.Kind - 2) t.Kids.length := by
    have := (wput_ok (c := t.Kind - 2) (by omega) (ns := ato t) (by rw [ato_len]; omega) (fun n hn => by
      obtain ⟨k, hk, rfl⟩ := List.mem_map.1 hn
      obtain ⟨w, hw, h0, _, h1⟩ := hat k hk
      rw [hw]
      exact ⟨h0, h1⟩)).2
    rw [this, ato_len]
    unfold rmL
    rw [if_neg (by omega)]
  have l2 : (setI l (a : Int) (hdL t l a) ++ putC (t.Kind - 2) (ato t)).length = l.length + rmL (t.Kind - 2) t.Kids.length := by rw [List.length_append, setI_len, hp]
  refine sim_of (by rw [l2]; omega) (fun j hj => ?_) (fun N k hN hN2 hkk => ?_)
  · unfold b_centoref12_Lay
    rw [ieqF (by omega), cond_false, ieqF (by omega), cond_false, ieqF (by omega), cond_false, ieqF (by omega), cond_false, atoms_ok (by omega) (fun k hk => by obtain ⟨w, a, b, _, c⟩ := hat k hk; exact ⟨w, a, b, c⟩), Option.bind_some, i64s (x := t.Kind - 2) (by omega) (by omega), rput_ok (by omega) (by rw [ato_len]; omega) (fun n hn => by
      obtain ⟨k, hk, rfl⟩ := List.mem_map.1 hn
      obtain ⟨w, hw, h0, h1, h2⟩ := hat k hk
      rw [hw]
      exact ⟨h0, h1, h2⟩), Option.bind_some, u64i (x := t.Kind - 2) (by omega) (by omega), u64i (x := (t.Kids.length : Int)) (by omega) (by omega), u64i (x := 8 * _) (by omega) (by omega), u64i (by omega) (by omega), rpointer (by omega) (by omega) (by omega) (by omega) (by decide) (by decide) (by omega) (by omega), Option.bind_some, get_at ha, Option.bind_some]
    have ev : ((l.length : Int) - (a : Int) - 1) % 1073741824 * 4 + 1 + (t.Kind - 2 + 8 * (t.Kids.length : Int)) * 4294967296 = hdL t l a := by unfold hdL; omega
    simp only
    rw [ev, appI_ok (by omega) (by omega)]
    rfl
  · rw [point_list (by omega) hn ha (by omega), lvc2]
    unfold b_canon_layer_content
    simp only
    rw [ieqF (by omega), cond_false, ieqF (by omega), cond_false, ieqF (by omega), cond_false, zs_len (by omega), guardI_ok (by omega), Option.bind_some, numbers_ok h2 (by omega) (fun k hk => by obtain ⟨w, a, b, _, c⟩ := hat k hk; exact ⟨w, a, b, c⟩), Option.bind_some, Option.bind_some]
    have := zs_cpy (l := setI l (a : Int) (hdL t l a)) (ys := putC (t.Kind - 2) (ato t)) (N := N) (by omega)
    rw [l1] at this
    simp only
    rw [this, l2]

theorem zs_put {l : List Int} {N : Nat} (v : Int) (h : l.length < N) : setI (zs l N) (l.length : Int) v = zs (l ++ [v]) N := by
  unfold zs setI
  rw [Int.toNat_natCast, List.set_append_right _ _ (Nat.le_refl _), Nat.sub_self, List.length_append, List.length_singleton, List.append_assoc]
  congr 1
  obtain ⟨m, hm⟩ : ∃ m, N - l.length = m + 1 := ⟨N - l.length - 1, by omega⟩
  have : N - (l.length + 1) = m := by omega
  rw [hm, this, List.replicate_succ, List.set_cons_zero]
  rfl
/-- the words of the structs of a list -/
def cpW (W K : Nat) (ks : List Tr) (l : List Int) : List Int := foldI (fun s _ x => s ++ x.Words ++ List.replicate (W + K - x.Words.length) 0) l 0 ks
/-- the kids of the structs of a list -/
noncomputable def cpK (W K b : Nat) (ks : List Tr) (l : List Int) : List Int := foldI (fun s i x => lyK (b + i * (W + K) + W) x.Kids s) l 0 ks
def hd9 (t : Tr) (W K : Nat) (l : List Int) (a : Nat) : Int := ((l.length : Int) - a - 1) % 1073741824 * 4 + 1 + 7 * 4294967296 + ((t.Kids.length * (W + K) : Nat) : Int) * 34359738368
def tag9 (t : Tr) (W K : Nat) : Int := (t.Kids.length : Int) * 4 + (W : Int) * 4294967296 + (K : Int) * 281474976710656
theorem mul_succ_le {i n m : Nat} (h : i < n) : i * m + m ≤ n * m := by
  have := Nat.mul_le_mul_right m (show i + 1 ≤ n by omega)
  rwa [Nat.add_mul, Nat.one_mul] at this
theorem cpW_len {W K : Nat} {ks : List Tr} (hw : ∀ x ∈ ks, x.Words.length ≤ W) (l : List Int) : (cpW W K ks l).length = l.length + ks.length * (W + K) :=
  foldI_I (f := fun (s : List Int) _ (x : Tr) => s ++ x.Words ++ List.replicate (W + K - x.Words.length) 0) (fun i s => s.length = l.length + i * (W + K)) ks (fun i s x hi hx hm hI => by
    have := hw x hm
    rw [List.length_append, List.length_append, List.length_replicate, hI, Nat.add_mul, Nat.one_mul]
    omega) (s := l) (by omega)
/-- how many words the kids of a struct of a list take -/
def szK (k : Tr) : Int := (k.Kids.map sz).sum
theorem lay_comp {t : Tr} (h9 : t.Kind = 9) (hn : t.Kids.length ≤ 3000) {W K : Nat} (hf : fr t.Kids = ((W : Int), (K : Int))) (hW : W ≤ 3000) (hK : K ≤ 3000) (hwk : ∀ x ∈ t.Kids, x.Words.length ≤ W ∧ x.Kids.length ≤ K)
    (hk : ∀ x ∈ t.Kids, ∀ y ∈ x.Kids, Sim y ∧ 0 ≤ sz y) (es : sz t = 1 + ((t.Kids.length * (W + K) : Nat) : Int) + (t.Kids.map szK).sum) (l : List Int) (a : Nat) (ha : a < l.length) (hs : (l.length : Int) + sz t ≤ 131072) :
    ly t l a = cpK W K (l.length + 1) t.Kids (cpW W K t.Kids (setI l (a : Int) (hd9 t W K l a) ++ [tag9 t W K])) ∧ ((ly t l a).length : Int) = l.length + sz t ∧ (∀ j, SizeOf.sizeOf t < j → lv_centoref12_Lay j l (a : Int) t = some (ly t l a)) ∧
    (∀ N k : Nat, (l.length : Int) + sz t ≤ N → N ≤ 131072 → 4 * SizeOf.sizeOf t < k → (lv_canon_layer_point k).1 ⟨zs l N, (l.length : Int)⟩ (a : Int) t = some ⟨zs (ly t l a) N, ((ly t l a).length : Int)⟩) := by
  have hq : ∀ x ∈ t.Kids, 0 ≤ szK x := fun x hx => sum_pos fun y hy => (hk x hx y hy).2
  have s0 := sum_pos (f := szK) (xs := t.Kids) hq
  have hc : t.Kids.length * (W + K) ≤ 3000 * 6000 := Nat.mul_le_mul hn (by omega)
  have ec : IntKind.i64.wrap ((t.Kids.length : Int) * (IntKind.i64.wrap ((W : Int) + (K : Int)))) = ((t.Kids.length * (W + K) : Nat) : Int) := by
    rw [i64s (x := (W : Int) + _) (by omega) (by omega), ← Int.natCast_add, ← Int.natCast_mul, i64s (by omega) (by omega)]
  have ei : ∀ i : Nat, i < t.Kids.length → IntKind.i64.wrap ((IntKind.i64.wrap ((l.length : Int) + 1)) + (IntKind.i64.wrap ((i : Int) * (IntKind.i64.wrap ((W : Int) + (K : Int)))))) = ((l.length + 1 + i * (W + K) : Nat) : Int) := fun i hi => by
    have := mul_succ_le (m := W + K) hi
    rw [i64s (x := (W : Int) + _) (by omega) (by omega), ← Int.natCast_add, ← Int.natCast_mul, i64s (x := (l.length : Int) + 1) (by omega) (by omega), i64s (x := ((i * (W + K) : Nat) : Int)) (by omega) (by omega), i64s (by omega) (by omega)]
    omega
  have l1 := setI_len l (a : Int) (hd9 t W K l a)
  have l3 : (setI l (a : Int) (hd9 t W K l a) ++ [tag9 t W K]).length = l.length + 1 := by rw [List.length_append, l1]; rfl
  have l4 : (cpW W K t.Kids (setI l (a : Int) (hd9 t W K l a) ++ [tag9 t W K])).length = l.length + 1 + t.Kids.length * (W + K) := by rw [cpW_len (fun x hx => (hwk x hx).1), l3]
  generalize hL4 : cpW W K t.Kids (setI l (a : Int) (hd9 t W K l a) ++ [tag9 t W K]) = L4 at *
  have kst : ∀ (i : Nat) (s : List Int) (x : Tr), i < t.Kids.length → t.Kids[i]? = some x → x ∈ t.Kids → (s.length : Int) = L4.length + ((t.Kids.take i).map szK).sum →
      l.length + 1 + i * (W + K) + W + x.Kids.length ≤ s.length ∧ (s.length : Int) + (x.Kids.map sz).sum ≤ l.length + sz t ∧ ((lyK (l.length + 1 + i * (W + K) + W) x.Kids s).length : Int) = L4.length + ((t.Kids.take (i + 1)).map szK).sum := fun i s x hi hx hm hI => by
    obtain ⟨h1, h2⟩ := sum_step (f := szK) hx hq
    have h3 := sum_pos (f := szK) (xs := t.Kids.take i) fun y hy => hq y (List.mem_of_mem_take hy)
    have h4 := mul_succ_le (m := W + K) hi
    have h5 := (hwk x hm).2
    have h8 : szK x = (x.Kids.map sz).sum := rfl
    have h6 : l.length + 1 + i * (W + K) + W + x.Kids.length ≤ s.length := by omega
    have h7 := kidsLen (ks := x.Kids) (hk x hm) h6 (by omega)
    exact ⟨h6, by omega, by omega⟩
  have len : ((cpK W K (l.length + 1) t.Kids L4).length : Int) = l.length + sz t := by
    have := foldI_I (f := fun (s : List Int) i (x : Tr) => lyK (l.length + 1 + i * (W + K) + W) x.Kids s) (fun i s => (s.length : Int) = L4.length + ((t.Kids.take i).map szK).sum) t.Kids (fun i s x hi hx hm hI => (kst i s x hi hx hm hI).2.2) (s := L4) (by simp)
    rw [List.take_length] at this
    unfold cpK
    omega
  refine sim_of len (fun j hj => ?_) (fun N k hN hN2 hkk => ?_)
  · unfold b_centoref12_Lay
    rw [ieqF (by omega), cond_false, ieqF (by omega), cond_false, ieqF (by omega), cond_false, beq_t h9, cond_true, rframe_ok (by omega), Option.bind_some, hf]
    simp only
    rw [ec, u64i (x := ((t.Kids.length * (W + K) : Nat) : Int)) (by omega) (by omega), u64i (x := 8 * _) (by omega) (by omega), u64i (x := 7 + _) (by omega) (by omega), rpointer (by omega) (by omega) (by omega) (by omega) (by decide) (by decide) (by omega) (by omega), Option.bind_some, get_at ha, Option.bind_some]
    have ev : ((l.length : Int) - (a : Int) - 1) % 1073741824 * 4 + 1 + (7 + 8 * ((t.Kids.length * (W + K) : Nat) : Int)) * 4294967296 = hd9 t W K l a := by unfold hd9; omega
    rw [ev, i64s (x := 4 * (t.Kids.length : Int)) (by omega) (by omega), u64i (x := 4 * (t.Kids.length : Int)) (by omega) (by omega), u64i (x := (W : Int)) (by omega) (by omega), u64i (x := (K : Int)) (by omega) (by omega), u64i (x := 65536 * _) (by omega) (by omega), u64i (x := (W : Int) + _) (by omega) (by omega), u64i (x := 4294967296 * _) (by omega) (by omega), u64i (x := 4 * (t.Kids.length : Int) + _) (by omega) (by omega)]
    have et : 4 * (t.Kids.length : Int) + 4294967296 * ((W : Int) + 65536 * (K : Int)) = tag9 t W K := by unfold tag9; omega
    rw [et, appI_ok (by rw [l1]; simp only [List.length_singleton]; omega) (by rw [l1]; simp only [List.length_singleton]; omega), Option.bind_some]
    have a1 := (loop_I t.Kids (fun i s => (i, s)) (fun s => s) (b_centoref12_Lay_L2 t ((W : Int), (K : Int))) (fun (s : List Int) _ (x : Tr) => s ++ x.Words ++ List.replicate (W + K - x.Words.length) 0) (fun i s => s.length = l.length + 1 + i * (W + K)) (by omega) (fun i s x hi hx hm hI => by
      have h5 := (hwk x hm).1
      have h4 := mul_succ_le (m := W + K) hi
      refine ⟨?_, by rw [List.length_append, List.length_append, List.length_replicate, hI, Nat.add_mul, Nat.one_mul]; omega⟩
      unfold b_centoref12_Lay_L2
      simp only
      have e : IntKind.i64.wrap (IntKind.i64.wrap ((W : Int) + (K : Int)) - (x.Words.length : Int)) = ((W + K - x.Words.length : Nat) : Int) := by rw [i64s (x := (W : Int) + _) (by omega) (by omega), i64s (by omega) (by omega)]; omega
      rw [lt_t hi, cond_true, getI_of hx, Option.bind_some, appI_ok (by omega) (by omega), Option.bind_some, Option.bind_some, e, add_ok (by rw [List.length_append]; omega), Option.bind_some]) (fun s _ => by
      unfold b_centoref12_Lay_L2
      simp only
      rw [lt_f, cond_false]) (setI l (a : Int) (hd9 t W K l a) ++ [tag9 t W K]) (by rw [l3]; omega)).1
    unfold cpW at hL4
    rw [a1, Option.bind_some, hL4]
    have a2 := (loop_I t.Kids (fun i s => (i, s)) (fun s => s) (b_centoref12_Lay_L3 (lv_centoref12_Lay j) l t ((W : Int), (K : Int))) (fun (s : List Int) i (x : Tr) => lyK (l.length + 1 + i * (W + K) + W) x.Kids s) (fun i s => (s.length : Int) = L4.length + ((t.Kids.take i).map szK).sum) (by omega) (fun i s x hi hx hm hI => by
      obtain ⟨b1, b2, b3⟩ := kst i s x hi hx hm hI
      refine ⟨?_, b3⟩
      have b5 : 0 ≤ (x.Kids.map sz).sum := hq x hm
      have b4 := kidsR (ks := x.Kids) (hk x hm) b1 (by omega) j (b_centoref12_Lay_L4 (lv_centoref12_Lay j) l t ((W : Int), (K : Int)) ((i : Int), s)) (fun y hy => by have := kid_lt hm; have := kid_lt hy; omega) (fun i' s' y s'' hi' hy hm' hq => by
        unfold b_centoref12_Lay_L4
        simp only
        have e : IntKind.i64.wrap (IntKind.i64.wrap (((l.length + 1 + i * (W + K) : Nat) : Int) + (W : Int)) + (i' : Int)) = ((l.length + 1 + i * (W + K) + W + i' : Nat) : Int) := by rw [i64s (x := _ + (W : Int)) (by omega) (by omega), i64s (by omega) (by omega)]; omega
        rw [getI_of hx, Option.bind_some, lt_t hi', cond_true, Option.bind_some, getI_of hy, Option.bind_some, ei i hi, e, hq, Option.bind_some]) (fun s' => by
        unfold b_centoref12_Lay_L4
        simp only
        rw [getI_of hx, Option.bind_some, lt_f, cond_false])
      unfold b_centoref12_Lay_L3
      simp only
      rw [lt_t hi, cond_true, b4, Option.bind_some]) (fun s _ => by
      unfold b_centoref12_Lay_L3
      simp only
      rw [lt_f, cond_false]) L4 (by simp)).1
    rw [a2]
    rfl
  · rw [lvc1]
    unfold b_canon_layer_point
    have e1 : m_canon_shape t = some (⟨2, 0, 0, 0, 7, ((t.Kids.length * (W + K) : Nat) : Int), 0, false⟩ : S_ptr_Ptr) := by
      unfold m_canon_shape
      rw [ieqF (by omega), cond_false, beq_t h9, cond_true, frame_ok (by omega), Option.bind_some, hf]
      simp only
      rw [ec]
    have e2 : m_ptr_Ptr_Words (⟨2, 0, 0, 0, 7, ((t.Kids.length * (W + K) : Nat) : Int), 0, false⟩ : S_ptr_Ptr) = some (((t.Kids.length * (W + K) : Nat) : Int) + 1, true) := by
      unfold m_ptr_Ptr_Words
      simp only
      rw [ieqF (a := 2) (b := 1) (by decide), cond_false, beq_t (a := 2) (b := 2) rfl, cond_true, beq_t (a := 7) (b := 7) rfl, cond_true, i64s (by omega) (by omega)]
    rw [ieqF (by omega), cond_false, e1, Option.bind_some, e2, Option.bind_some]
    simp only
    rw [ieqF (a := 2) (b := 1) (by decide), cond_false, cond_false, Option.bind_some, i64s (x := (l.length : Int) - (a : Int)) (by omega) (by omega), i64s (by omega) (by omega), encL (by omega) (by omega) (by omega) (by omega) (by omega) (by omega), Option.bind_some, getz ha, Option.bind_some, zs_set ha, i64s (by omega) (by omega)]
    have ev : ((l.length : Int) - (a : Int) - 1) % 1073741824 * 4 + 1 + 7 * 4294967296 + ((t.Kids.length * (W + K) : Nat) : Int) * 34359738368 = hd9 t W K l a := by unfold hd9; rfl
    simp only
    rw [ev, lvc2]
    unfold b_canon_layer_content
    simp only
    rw [ieqF (by omega), cond_false, ieqF (by omega), cond_false, beq_t h9, cond_true, lvc4]
    unfold b_canon_layer_structs
    rw [frame_ok (by omega), Option.bind_some, hf]
    simp only
    have ez : (cond (decide (0 < (t.Kids.length : Int))) ((m_ptr_Encode (⟨1, (t.Kids.length : Int), (W : Int), (K : Int), 0, 0, 0, false⟩ : S_ptr_Ptr)).bind fun y4 => (getI (zs (setI l (a : Int) (hd9 t W K l a)) N) (l.length : Int)).bind fun x5 => some (setI (zs (setI l (a : Int) (hd9 t W K l a)) N) (l.length : Int) y4.1)) (some (zs (setI l (a : Int) (hd9 t W K l a)) N))) = some (zs (setI l (a : Int) (hd9 t W K l a) ++ [tag9 t W K]) N) := by
      by_cases q : 0 < t.Kids.length
      · have g : getI (zs (setI l (a : Int) (hd9 t W K l a)) N) (l.length : Int) = some (zs (setI l (a : Int) (hd9 t W K l a)) N)[l.length]! := by
          have : l.length < (zs (setI l (a : Int) (hd9 t W K l a)) N).length := by rw [zs_len (by omega)]; omega
          rw [get_at this, List.getElem!_eq_getElem?_getD, List.getElem?_eq_getElem this]
          rfl
        rw [decide_eq_true (by omega), cond_true, encS (by omega) (by omega) (by omega) (by omega) (by omega) (by omega) (by omega), Option.bind_some, g, Option.bind_some]
        have := zs_put (N := N) (l := setI l (a : Int) (hd9 t W K l a)) (tag9 t W K) (by omega)
        rw [l1] at this
        rw [← this]
        congr 2
        unfold tag9
        omega
      · have q0 : t.Kids = [] := List.length_eq_zero_iff.1 (by omega)
        rw [q0] at hf
        have hW0 : W = 0 ∧ K = 0 := by
          have : ((0 : Int), (0 : Int)) = ((W : Int), (K : Int)) := hf
          rw [Prod.mk.injEq] at this
          omega
        have t0 : tag9 t W K = 0 := by unfold tag9; rw [hW0.1, hW0.2, q0]; rfl
        rw [decide_eq_false (by omega), cond_false, t0]
        have := zs_add (N := N) (n := 1) (l := setI l (a : Int) (hd9 t W K l a)) (by omega)
        rw [List.replicate_one] at this
        rw [this]
    rw [ez, Option.bind_some]
    have a1 := (loop_I t.Kids (fun i s => (i, zs s N)) (fun s => zs s N) (b_canon_layer_structs_L0 (l.length : Int) t ((W : Int), (K : Int))) (fun (s : List Int) _ (x : Tr) => s ++ x.Words ++ List.replicate (W + K - x.Words.length) 0) (fun i s => s.length = l.length + 1 + i * (W + K)) (by omega) (fun i s x hi hx hm hI => by
      have h5 := (hwk x hm).1
      have h4 := mul_succ_le (m := W + K) hi
      refine ⟨?_, by rw [List.length_append, List.length_append, List.length_replicate, hI, Nat.add_mul, Nat.one_mul]; omega⟩
      unfold b_canon_layer_structs_L0
      simp only
      rw [lt_t hi, cond_true, getI_of hx, Option.bind_some, ei i hi, zs_len (by omega), guardI_ok (by omega), Option.bind_some, ← hI, zs_cpy (by omega), zs_add (by rw [List.length_append]; omega)]) (fun s _ => by
      unfold b_canon_layer_structs_L0
      simp only
      rw [lt_f, cond_false]) (setI l (a : Int) (hd9 t W K l a) ++ [tag9 t W K]) (by rw [l3]; omega)).1
    unfold cpW at hL4
    rw [a1, Option.bind_some, hL4]
    have a2 := (loop_I t.Kids (fun i s => (i, zs s N, (s.length : Int))) (fun s => (zs s N, (s.length : Int))) (b_canon_layer_structs_L1 (lv_canon_layer_point (k + 1)).2.2.1 (l.length : Int) t ((W : Int), (K : Int))) (fun (s : List Int) i (x : Tr) => lyK (l.length + 1 + i * (W + K) + W) x.Kids s) (fun i s => (s.length : Int) = L4.length + ((t.Kids.take i).map szK).sum) (by omega) (fun i s x hi hx hm hI => by
      obtain ⟨b1, b2, b3⟩ := kst i s x hi hx hm hI
      refine ⟨?_, b3⟩
      have b5 : 0 ≤ (x.Kids.map sz).sum := hq x hm
      have h4 := mul_succ_le (m := W + K) hi
      have b4 := kidsP (ks := x.Kids) (hk x hm) b1 (by omega) N k (by omega) hN2 (fun y hy => by have := kid_lt hm; have := kid_lt hy; omega)
      unfold b_canon_layer_structs_L1
      simp only
      have e : IntKind.i64.wrap (((l.length + 1 + i * (W + K) : Nat) : Int) + (W : Int)) = ((l.length + 1 + i * (W + K) + W : Nat) : Int) := by rw [i64s (by omega) (by omega)]; omega
      rw [lt_t hi, cond_true, getI_of hx, Option.bind_some, ei i hi, e, b4, Option.bind_some]) (fun s _ => by
      unfold b_canon_layer_structs_L1
      simp only
      rw [lt_f, cond_false]) L4 (by simp)).1
    have e6 : (l.length : Int) + (((t.Kids.length * (W + K) : Nat) : Int) + 1) = (L4.length : Int) := by omega
    rw [e6, a2]
    rfl

theorem lay_null {t : Tr} (h0 : t.Kind = 0) (l : List Int) (a : Nat) : ly t l a = l := by
  unfold ly
  show Option.getD (b_centoref12_Lay (lv_centoref12_Lay (SizeOf.sizeOf t)) l (a : Int) t) [] = l
  unfold b_centoref12_Lay
  rw [beq_t h0, cond_true]
  rfl
theorem okk_not {kind : Int} {k : Tr} (h : ¬ (2 ≤ kind ∧ kind ≤ 7)) (hk : okk kind k = true) : ¬ k.Kind = 10 ∧ (kind = 9 → k.Kind = 1) := by
  unfold okk at hk
  rw [if_neg h, Bool.and_eq_true, bne_iff_ne, Bool.or_eq_true, bne_iff_ne, beq_iff_eq] at hk
  exact ⟨hk.1, fun h9 => by rcases hk.2 with h | h; exact absurd h9 h; exact h⟩
theorem okk_atom {kind : Int} {k : Tr} {d : Nat} (h : 2 ≤ kind ∧ kind ≤ 7) (hb : Bd k) (hr : rt k d = true) (hk : okk kind k = true) : ∃ w, k.Words = [w] ∧ 0 ≤ w ∧ w < 18446744073709551616 ∧ fitsP (kind - 2) w = true := by
  unfold okk at hk
  rw [if_pos h, Bool.and_eq_true, beq_iff_eq] at hk
  obtain ⟨w, hw⟩ := rt_atom_w hk.1 hr
  have hu := hb.u w (by rw [hw]; exact .head _)
  refine ⟨w, hw, hu.1, hu.2, ?_⟩
  have := hk.2
  rwa [hw] at this
/-- what both laying words want of a tree -/
structure Fine (t : Tr) (d : Nat) : Prop where
  bd : Bd t
  rt : rt t d = true
  pt : pt t ≤ 3000
theorem Fine.kid {t x : Tr} {d : Nat} (h : Fine t d) (hx : x ∈ t.Kids) : Fine x (d - 1) := ⟨h.bd.all x hx, (rt_len h.rt).2.2.2.2 x hx, by have := h.pt; have := pt_kid hx; omega⟩
theorem fine_frame {t : Tr} {d : Nat} (h : Fine t d) (h9 : t.Kind = 9) : ∃ W K : Nat, fr t.Kids = ((W : Int), (K : Int)) ∧ W ≤ 3000 ∧ K ≤ 3000 ∧ (∀ x ∈ t.Kids, x.Words.length ≤ W ∧ x.Kids.length ≤ K) ∧ sz t = 1 + ((t.Kids.length * (W + K) : Nat) : Int) + (t.Kids.map szK).sum := by
  have p := h.pt
  have pk := pt_kids t
  obtain ⟨e, _, _, f0, f1, f2, f3, f4⟩ := h9_eq (l := t.Kids) (by omega) (fun x hx => (h.kid hx).pt)
  obtain ⟨W, hW⟩ := Int.eq_ofNat_of_zero_le f0
  obtain ⟨K, hK⟩ := Int.eq_ofNat_of_zero_le f2
  rw [hW] at f1
  rw [hK] at f3
  refine ⟨W, K, Prod.ext hW hK, by omega, by omega, fun x hx => ?_, ?_⟩
  · have := f4 x hx
    rw [hW, hK] at this
    omega
  · rw [sz_eq, if_neg (by omega), if_neg (by omega), if_neg (by omega), if_pos h9, e, hW, hK, ← Int.natCast_add, ← Int.natCast_mul]
    rfl
theorem sim_all : ∀ (n : Nat) (t : Tr) (d : Nat), SizeOf.sizeOf t < n → Fine t d → ¬ t.Kind = 10 → Sim t
  | 0, _, _, h, _, _ => by omega
  | n + 1, t, d, h, hf, h10 => by
    have p := hf.pt
    have pk := pt_kids t
    obtain ⟨g1, g2, _⟩ := rt_len hf.rt
    by_cases h0 : t.Kind = 0
    · exact sim_null h0
    obtain ⟨i1, i2, i3, i4⟩ := rt_inv hf.rt h0 h10
    have hk : ¬ (2 ≤ t.Kind ∧ t.Kind ≤ 7) → ∀ x ∈ t.Kids, Sim x ∧ 0 ≤ sz x := fun hn x hx =>
      ⟨sim_all n x (d - 1) (by have := kid_lt hx; omega) (hf.kid hx) (okk_not hn (i4 x hx).2).1, (sz_nn (hf.kid hx).rt (hf.kid hx).pt).1⟩
    by_cases h1 : t.Kind = 1
    · exact fun l a ha hs => (lay_struct h1 i1 (i2 h1) (hk (by omega)) l a ha hs).2
    by_cases h2 : 2 ≤ t.Kind ∧ t.Kind ≤ 7
    · exact fun l a ha hs => (lay_data h2 (by omega) (fun k hk => okk_atom h2 (hf.bd.all k hk) (hf.kid hk).rt (i4 k hk).2) l a ha hs).2
    by_cases h8 : t.Kind = 8
    · exact fun l a ha hs => (lay_ptrs h8 (by omega) (hk (by omega)) l a ha hs).2
    have h9 : t.Kind = 9 := by omega
    obtain ⟨W, K, e1, e2, e3, e4, e5⟩ := fine_frame hf h9
    exact fun l a ha hs => (lay_comp h9 (by omega) e1 e2 e3 e4 (fun x hx y hy => by
      have k1 := (okk_not (by omega) (i4 x hx).2).2 h9
      have j4 := (rt_inv (hf.kid hx).rt (by omega) (by omega)).2.2.2 y hy
      have fy := (hf.kid hx).kid hy
      exact ⟨sim_all n y (d - 1 - 1) (by have := kid_lt hx; have := kid_lt hy; omega) fy (okk_not (by omega) j4.2).1, (sz_nn fy.rt fy.pt).1⟩) e5 l a ha hs).2
theorem Fine.nrm {t : Tr} {d : Nat} (h : Fine t d) : Fine (nrm t) d := ⟨h.bd.nrm, rtN h.rt, Nat.le_trans (pt_nrm _ t (Nat.lt_succ_self _)) h.pt⟩
/-- the words of a tree, if there are so few -/
noncomputable def enc (t : Tr) (most : Int) : List Int × Bool := if t.Kind = 10 ∨ rt t 64 = false then ([], false) else if most ≤ sz (nrm t) ∨ 131072 ≤ sz (nrm t) then ([], false) else (ly (nrm t) [0] 0, true)
theorem ly_of {t : Tr} (hf : Fine t 64) (h10 : ¬ t.Kind = 10) (hs : sz t < 131072) : ((ly t [0] 0).length : Int) = 1 + sz t ∧ m_centoref12_Lay [0] 0 t = some (ly t [0] 0) ∧ (makeI 8 (IntKind.i64.wrap (1 + sz t)) (0 : Int)).bind (fun l11 => (m_canon_layer_point (⟨l11, 1⟩ : S_canon_layer) 0 t).bind fun y13 => some (y13.words, true)) = some (ly t [0] 0, true) := by
  have s0 := (sz_nn hf.rt hf.pt).1
  obtain ⟨a, b, c⟩ := sim_all _ t 64 (Nat.lt_succ_self _) hf h10 [0] 0 (by decide) (by simp only [List.length_singleton]; omega)
  simp only [List.length_singleton] at a c
  refine ⟨by omega, lim_eq (SizeOf.sizeOf t + 1) fun k hk => b k (by omega), ?_⟩
  have e : m_canon_layer_point (⟨zs [0] (1 + sz t).toNat, 1⟩ : S_canon_layer) 0 t = some ⟨zs (ly t [0] 0) (1 + sz t).toNat, ((ly t [0] 0).length : Int)⟩ := lim_eq (4 * SizeOf.sizeOf t + 1) fun k hk => c (1 + sz t).toNat k (by omega) (by omega) (by omega)
  have e2 : List.replicate (1 + sz t).toNat (0 : Int) = zs [0] (1 + sz t).toNat := by
    unfold zs
    obtain ⟨m, hm⟩ : ∃ m, (1 + sz t).toNat = m + 1 := ⟨(sz t).toNat, by omega⟩
    rw [hm, List.replicate_succ]
    rfl
  have e3 : zs (ly t [0] 0) (1 + sz t).toNat = ly t [0] 0 := by
    unfold zs
    rw [show (1 + sz t).toNat - (ly t [0] 0).length = 0 by omega, List.replicate_zero, List.append_nil]
  rw [i64s (by omega) (by omega), makeI_ok (by omega) (by omega) (by omega), Option.bind_some, e2, e, Option.bind_some, e3]
theorem encode_ok {t : Tr} (hb : Bd t) (hp : pt t ≤ 3000) (most : Int) : m_canon_Encode t most = some (enc t most) ∧ m_centoref12_Encode t most = some (enc t most) ∧ (((enc t most).1.length : Nat) : Int) ≤ 131072 := by
  unfold m_canon_Encode m_centoref12_Encode enc
  rw [right_ok hb, Option.bind_some, show ((64 : Int)) = ((64 : Nat) : Int) from rfl, rright_ok hb (Nat.le_refl _), Option.bind_some]
  by_cases h10 : t.Kind = 10
  · rw [if_pos (.inl h10), beq_t h10]
    simp
  cases hr : rt t 64 with
  | false =>
    rw [if_pos (.inr rfl), ieqF h10]
    simp
  | true =>
    have hf : Fine (nrm t) 64 := Fine.nrm ⟨hb, hr, hp⟩
    have hn := sz_nn hf.rt hf.pt
    rw [if_neg (by simp [h10]), ieqF h10]
    simp only [cond_false, cond_true, Bool.not_true, Option.bind_some]
    rw [norm_ok hb, rnorm_ok hb, Option.bind_some, Option.bind_some, Size_ok (d := 64) hb.nrm hf.rt, Option.bind_some, nrm_nrm, rsize_ok hf.rt, Option.bind_some, Option.bind_some, i64s (x := sz (nrm t)) (by omega) (by omega), i64s (x := 1 + sz (nrm t)) (by omega) (by omega)]
    by_cases q : most ≤ sz (nrm t) ∨ 131072 ≤ sz (nrm t)
    · rw [if_pos q]
      have q1 : (cond (decide (most < 1 + sz (nrm t))) true (decide (131072 < 1 + sz (nrm t)))) = true := by
        by_cases q2 : most ≤ sz (nrm t)
        · rw [decide_eq_true (by omega), cond_true]
        · rw [decide_eq_false (by omega), cond_false, decide_eq_true (by omega)]
      have q2 : (cond (decide (most ≤ sz (nrm t))) (some true) (some (cond (decide (most ≤ sz (nrm t))) true (decide (131072 ≤ sz (nrm t)))))) = some true := by
        by_cases q2 : most ≤ sz (nrm t)
        · rw [decide_eq_true q2, cond_true]
        · rw [decide_eq_false q2, cond_false, cond_false, decide_eq_true (by omega)]
      rw [q1, q2, cond_true, Option.bind_some, cond_true]
      exact ⟨rfl, rfl, by decide⟩
    · rw [if_neg q]
      obtain ⟨a, b, c⟩ := ly_of hf (by rw [nrm_kind]; exact h10) (by omega)
      rw [i64s (x := 1 + sz (nrm t)) (by omega) (by omega)] at c
      have q1 : (cond (decide (most < 1 + sz (nrm t))) true (decide (131072 < 1 + sz (nrm t)))) = false := by
        rw [decide_eq_false (by omega), cond_false, decide_eq_false (by omega)]
      have q2 : (cond (decide (most ≤ sz (nrm t))) (some true) (some (cond (decide (most ≤ sz (nrm t))) true (decide (131072 ≤ sz (nrm t)))))) = some false := by
        rw [decide_eq_false (by omega), cond_false, cond_false, decide_eq_false (by omega)]
      rw [q1, q2, cond_false, Option.bind_some, cond_false, c, b]
      exact ⟨rfl, rfl, by simp only; omega⟩
def T12 : Tr := ⟨1, [5], [⟨8, [], [⟨0, [], []⟩]⟩]⟩
theorem bd12 : Bd T12 := by
  have n : Bd ⟨0, [], []⟩ := .mk _ (by decide) (by decide) (fun w hw => by cases hw) (fun k hk => by cases hk)
  have l : Bd ⟨8, [], [⟨0, [], []⟩]⟩ := .mk _ (by decide) (by simp) (fun w hw => by cases hw) (fun k hk => by rw [List.mem_singleton.1 hk]; exact n)
  exact .mk _ (by simp [T12]) (by simp [T12]) (fun w hw => by rw [List.mem_singleton.1 hw]; decide) (fun k hk => by rw [List.mem_singleton.1 hk]; exact l)
theorem awake12 : m_centolaw12_awake = some true := by
  have p : pt T12 ≤ 3000 := by simp [T12, pt_eq]
  have r0 : ∀ d, rt ⟨0, [], []⟩ d = true := fun d => by rw [rt_eq]; rfl
  have r8 : rt ⟨8, [], [⟨0, [], []⟩]⟩ 63 = true := by
    rw [rt_eq, if_neg (by decide), if_neg (by decide), if_neg (by simp)]
    simp only [List.all_cons, List.all_nil, r0]
    rfl
  have r : rt T12 64 = true := by
    rw [rt_eq, if_neg (by decide), if_neg (by decide), if_neg (by simp [T12])]
    simp only [T12, List.all_cons, List.all_nil, r8, Nat.reduceSub]
    rfl
  have nn : nrm T12 = T12 := by simp [T12, nrm_eq, tr]
  have s : sz T12 = 3 := by simp [T12, sz_eq]
  have sn : sz ⟨0, [], []⟩ = 0 := by simp [sz_eq]
  have sl : sz ⟨8, [], [⟨0, [], []⟩]⟩ = 1 := by simp [sz_eq]
  have f : Fine T12 64 := ⟨bd12, r, p⟩
  have e : enc T12 9 = (ly T12 [0] 0, true) := by
    unfold enc
    rw [if_neg (by rw [r]; simp [T12]), nn, s, if_neg (by decide)]
  have fl : Fine (⟨8, [], [⟨0, [], []⟩]⟩ : Tr) 63 := f.kid (.head _)
  have simn : Sim ⟨0, [], []⟩ := sim_null rfl
  have siml : Sim ⟨8, [], [⟨0, [], []⟩]⟩ := sim_all _ _ 63 (Nat.lt_succ_self _) fl (by decide)
  have e1 := (lay_struct (t := T12) rfl (by decide) (by decide) (fun x hx => by rw [List.mem_singleton.1 hx]; exact ⟨siml, by rw [sl]; decide⟩) [0] 0 (by decide) (by rw [s]; decide)).1
  have e2 : lyK (([0] : List Int).length + T12.Words.length) T12.Kids (RS1 T12 [0] 0) = ly ⟨8, [], [⟨0, [], []⟩]⟩ [281479271677952, 5, 0] 2 := rfl
  have e3 := (lay_ptrs (t := ⟨8, [], [⟨0, [], []⟩]⟩) rfl (by decide) (fun x hx => by rw [List.mem_singleton.1 hx]; exact ⟨simn, by rw [sn]; decide⟩) [281479271677952, 5, 0] 2 (by decide) (by rw [sl]; decide)).1
  have e4 : lyK ([281479271677952, 5, 0] : List Int).length (⟨8, [], [⟨0, [], []⟩]⟩ : Tr).Kids (setI [281479271677952, 5, 0] ((2 : Nat) : Int) (hdL ⟨8, [], [⟨0, [], []⟩]⟩ [281479271677952, 5, 0] 2) ++ List.replicate (⟨8, [], [⟨0, [], []⟩]⟩ : Tr).Kids.length 0) = ly ⟨0, [], []⟩ [281479271677952, 5, 60129542145, 0] 3 := rfl
  have ey : ly T12 [0] 0 = [281479271677952, 5, 60129542145, 0] := by rw [e1, e2, e3, e4, lay_null rfl]
  unfold m_centolaw12_awake
  have := (encode_ok bd12 p 9).1
  rw [e, ey] at this
  unfold T12 at this
  rw [this, Option.bind_some]
  simp only
  rw [cond_true, sameW_ok (by decide)]
  rfl
theorem canonEncodes_p {t : Tr} (hb : Bd t) (most : Int) : m_centolaw12_CanonEncodes t most = some true := by
  unfold m_centolaw12_CanonEncodes m_centoref07_Few
  obtain ⟨r, h1, h2, h3, h4⟩ := shal_ok hb (left := 3000) (by decide) (by decide)
  rw [h1, Option.bind_some, Option.bind_some, awake12]
  by_cases hr : 0 ≤ r
  · obtain ⟨a, b, c⟩ := encode_ok hb (by have := h4 hr; omega) most
    rw [a, b]
    simp only [Option.bind_some]
    rw [sameW_ok (by omega)]
    simp [hr]
  · simp [hr]



end Go.Proofs.Ytpfbdlcnfekdkaa
