/- Plain facts on this seat's mirrors (part WP2); each theorem bears its own conditions. -/
import Derived.Test.YtbcgiaijjaocdaaWP1
import Derived.IntWalk
namespace Go.Proofs.Ytbcgiaijjaocdaa
open Go.RowKit
set_option linter.unusedVariables false
set_option linter.unusedSimpArgs false
abbrev Un := S_centoref24_Unit
abbrev Pr := S_centoref24_Pair
abbrev Pc := S_align_Piece
def opx (o : EO) : Prop := (o.Kind = 0 ∧ 1 ≤ o.N ∧ o.L = []) ∨ ((o.Kind = 1 ∨ o.Kind = 2) ∧ o.N = 0 ∧ o.L ≠ []) ∨ (o.Kind = 3 ∧ o.N = 0 ∧ o.L = [])
theorem opx.k {o : EO} (h : opx o) : opk o := by
  rcases h with ⟨h, h1, _⟩ | ⟨h | h, _, h1⟩ | ⟨h, _⟩
  · exact .inl ⟨h, h1⟩
  · exact .inr (.inl ⟨h, h1⟩)
  · exact .inr (.inr (.inl ⟨h, h1⟩))
  · exact .inr (.inr (.inr h))
def unO (k i : Int) (o : EO) : List Un :=
  if o.Kind = 0 then List.replicate o.N.toNat ⟨i, 0, n0T, eS0, false⟩
  else if o.Kind = 3 then [⟨i, 3, n0T, o.E, false⟩]
  else o.L.map fun t => ⟨i, o.Kind, t, eS0, o.Kind == k⟩
theorem unO_len {k i : Int} {o : EO} : (unO k i o).length = thN o := by
  unfold unO thN
  split
  · exact List.length_replicate
  · split
    · rfl
    · exact List.length_map _
def unL (k : Int) : Int → List EO → List Un
  | _, [] => []
  | i, o :: r => unO k i o ++ unL k (i + 1) r
theorem unL_len {k : Int} : ∀ (a : List EO) (i : Int), (unL k i a).length = sumT a
  | [], _ => rfl
  | o :: r, i => by rw [unL, List.length_append, unO_len, unL_len r, sumT_cons]
theorem un_l1 {i : Int} {acc out0 : List Un} {x : EO} (hx : x.Kind = 0 → x.N ≤ 1073741824) (ha : acc.length ≤ 1073741824) :
    runLoop (m_centoref24_Units_L1 (i, out0) x) (0, acc) = some (acc ++ (if x.Kind = 0 then List.replicate x.N.toNat (⟨i, 0, n0T, eS0, false⟩ : Un) else [])) := by
  by_cases h : x.Kind = 0
  · rw [if_pos h]
    have hN := hx h
    refine runLoop_eq (fun s => ∃ j : Nat, j ≤ x.N.toNat ∧ s = ((j : Int), acc ++ List.replicate j (⟨i, 0, n0T, eS0, false⟩ : Un))) (fun s => x.N.toNat - s.1.toNat) ?_ _ ⟨0, Nat.zero_le _, by simp⟩
    rintro s ⟨j, hj, rfl⟩
    unfold m_centoref24_Units_L1
    simp only
    rw [show (x.Kind == 0) = true from by rw [h]; rfl]
    by_cases hl : j < x.N.toNat
    · left
      refine ⟨(((j + 1 : Nat) : Int), acc ++ List.replicate (j + 1) (⟨i, 0, n0T, eS0, false⟩ : Un)), ?_, ⟨j + 1, by omega, rfl⟩, by (try simp only); omega⟩
      rw [show decide ((j : Int) < x.N) = true from by rw [decide_eq_true_eq]; omega, cond_true, cond_true, appI_ok (by simp only [List.length_append, List.length_replicate, List.length_singleton]; omega) (by simp only [List.length_append, List.length_replicate, List.length_singleton]; omega), Option.bind_some, i64s (by omega) (by omega), List.append_assoc, List.replicate_succ']
      rfl
    · right
      have : j = x.N.toNat := by omega
      rw [show decide ((j : Int) < x.N) = false from by rw [decide_eq_false_iff_not]; omega, cond_false, cond_false, this]
  · rw [if_neg h, List.append_nil]
    refine runLoop_end ?_
    unfold m_centoref24_Units_L1
    simp only
    rw [show (x.Kind == 0) = false from by rw [beq_eq_false_iff_ne]; exact h]
    cases decide ((0 : Int) < x.N) <;> rfl
theorem un_l2 {k i : Int} {acc out0 : List Un} {x : EO} (hl : x.L.length ≤ 1073741824) (ha : acc.length ≤ 1073741824) :
    runLoop (m_centoref24_Units_L2 k (i, out0) x) (0, acc) = some (acc ++ x.L.map fun t => (⟨i, x.Kind, t, eS0, x.Kind == k⟩ : Un)) :=
  loop_map x.L (fun t => (⟨i, x.Kind, t, eS0, x.Kind == k⟩ : Un)) _ acc (by omega) (fun j t out hj ht hm ho => by
    unfold m_centoref24_Units_L2
    simp only
    rw [lt_t hj, cond_true, getI_of ht, Option.bind_some, appI_ok (by simp only [List.length_singleton]; omega) (by simp only [List.length_singleton]; omega), Option.bind_some]
    rfl) (fun out => by
    unfold m_centoref24_Units_L2
    simp only
    rw [lt_f, cond_false])
theorem drop_get {α : Type} {a : List α} {i : Nat} {o : α} {ys : List α} (h : a.drop i = o :: ys) : i < a.length ∧ a[i]? = some o ∧ a.drop (i + 1) = ys := by
  have h1 : i < a.length := by
    rcases Nat.lt_or_ge i a.length with h1 | h1
    · exact h1
    · rw [List.drop_eq_nil_of_le h1] at h; cases h
  rw [List.drop_eq_getElem_cons h1] at h
  injection h with h2 h3
  exact ⟨h1, by rw [List.getElem?_eq_getElem h1, h2], h3⟩
theorem drop_nil {α : Type} {a : List α} {i : Nat} (h : a.drop i = []) (hi : i ≤ a.length) : i = a.length := by
  have := congrArg List.length h
  rw [List.length_drop, List.length_nil] at this
  omega
theorem units_ok {k : Int} {a : List EO} (hp : ∀ o ∈ a, opx o) (hs : sumT a ≤ 1073741824) (hl : a.length ≤ 1048576) : m_centoref24_Units a k = some (unL k 0 a) := by
  have key : ∀ (ys : List EO) (i : Nat) (out : List Un), a.drop i = ys → i ≤ a.length → out.length + sumT ys ≤ 1073741824 → runLoop (m_centoref24_Units_L0 a k) ((i : Int), out) = some (out ++ unL k i ys) := fun ys => by
    induction ys with
    | nil =>
      intro i out hd hi ho
      obtain rfl := drop_nil hd hi
      refine (runLoop_end (r := out) ?_).trans (by rw [unL, List.append_nil])
      unfold m_centoref24_Units_L0
      simp only
      rw [lt_f, cond_false]
    | cons o ys ih =>
      intro i out hd hi ho
      obtain ⟨hi', hx, hd'⟩ := drop_get hd
      rw [sumT_cons] at ho
      have hox := hp o (List.mem_of_getElem? hx)
      have hstep : m_centoref24_Units_L0 a k ((i : Int), out) = some (.inl (((i + 1 : Nat) : Int), out ++ unO k i o)) := by
        unfold m_centoref24_Units_L0
        simp only
        rw [lt_t hi', cond_true, getI_of hx, Option.bind_some]
        have e1 : IntKind.i64.wrap ((i : Int) + 1) = ((i + 1 : Nat) : Int) := by rw [i64s (by omega) (by omega)]; rfl
        rcases hox with ⟨k0, h1, hL⟩ | ⟨k12, h1, hL⟩ | ⟨k3, h1, hL⟩
        · have ht : thN o = o.N.toNat := if_pos k0
          have e : unO k i o = List.replicate o.N.toNat (⟨i, 0, n0T, eS0, false⟩ : Un) := if_pos k0
          rw [un_l1 (fun _ => by omega) (by omega), Option.bind_some, un_l2 (by rw [hL]; simp) (by rw [if_pos k0, List.length_append, List.length_replicate]; omega), Option.bind_some, if_pos k0, hL, List.map_nil, List.append_nil, show (o.Kind == 3) = false from by rw [k0]; rfl, cond_false, Option.bind_some, e1, e]
        · have ht : thN o = o.L.length := by unfold thN; rw [if_neg (by omega), if_neg (by omega)]
          have e : unO k i o = o.L.map fun t => (⟨i, o.Kind, t, eS0, o.Kind == k⟩ : Un) := by unfold unO; rw [if_neg (by omega), if_neg (by omega)]
          rw [un_l1 (fun h => by omega) (by omega), Option.bind_some, if_neg (by omega), List.append_nil, un_l2 (by omega) (by omega), Option.bind_some, show (o.Kind == 3) = false from by rw [beq_eq_false_iff_ne]; omega, cond_false, Option.bind_some, e1, e]
        · have ht : thN o = 1 := by unfold thN; rw [if_neg (by omega), if_pos k3]
          have e : unO k i o = [(⟨i, 3, n0T, o.E, false⟩ : Un)] := by unfold unO; rw [if_neg (by omega), if_pos k3]
          rw [un_l1 (fun h => by omega) (by omega), Option.bind_some, if_neg (by omega), List.append_nil, un_l2 (by rw [hL]; simp) (by omega), Option.bind_some, hL, List.map_nil, List.append_nil, show (o.Kind == 3) = true from by rw [k3]; rfl, cond_true, appI_ok (by simp only [List.length_singleton]; omega) (by simp only [List.length_singleton]; omega), Option.bind_some, Option.bind_some, e1, e]
          rfl
      rw [runLoop_step hstep, ih (i + 1) _ hd' (by omega) (by rw [List.length_append, unO_len]; omega), List.append_assoc]
      rfl
  have := key a 0 [] rfl (Nat.zero_le _) (by simpa using hs)
  unfold m_centoref24_Units
  rw [show (((0 : Nat) : Int)) = 0 from rfl] at this
  rw [this]
  rfl
def zU : Un := ⟨0, 0, n0T, eS0, false⟩
def prs (p q : List Un) : Option (List Pr) := match p, q with
  | u :: p', q => if u.Alone = true then (prs p' q).map ((⟨1, u, zU⟩ : Pr) :: ·) else (match q with
    | [] => none
    | v :: q' => if v.Alone = true then (prs (u :: p') q').map ((⟨2, zU, v⟩ : Pr) :: ·) else (prs p' q').map ((⟨0, u, v⟩ : Pr) :: ·))
  | [], [] => some []
  | [], v :: q' => if v.Alone = true then (prs [] q').map ((⟨2, zU, v⟩ : Pr) :: ·) else none
termination_by p.length + q.length
decreasing_by all_goals (simp only [List.length_cons]; omega)
theorem prs_1 {u : Un} {p q : List Un} (h : u.Alone = true) : prs (u :: p) q = (prs p q).map ((⟨1, u, zU⟩ : Pr) :: ·) := by rw [prs.eq_def]; simp only [h, if_true]
theorem prs_2 {v : Un} {p q : List Un} (hp : ∀ u p', p = u :: p' → u.Alone = false) (h : v.Alone = true) : prs p (v :: q) = (prs p q).map ((⟨2, zU, v⟩ : Pr) :: ·) := by
  cases p with
  | nil => rw [prs, if_pos h]
  | cons u p' => rw [prs, if_neg (by rw [hp u p' rfl]; decide), if_pos h]
theorem prs_0 {u v : Un} {p q : List Un} (hu : u.Alone = false) (hv : v.Alone = false) : prs (u :: p) (v :: q) = (prs p q).map ((⟨0, u, v⟩ : Pr) :: ·) := by rw [prs, if_neg (by rw [hu]; decide), if_neg (by rw [hv]; decide)]
theorem prs_e : prs [] [] = some [] := by rw [prs]
theorem prs_n1 {u : Un} {p : List Un} (hu : u.Alone = false) : prs (u :: p) [] = none := by rw [prs, if_neg (by rw [hu]; decide)]
theorem prs_n2 {v : Un} {q : List Un} (hv : v.Alone = false) : prs [] (v :: q) = none := by rw [prs, if_neg (by rw [hv]; decide)]
theorem le_f {i n : Nat} (h : i < n) : decide ((n : Int) ≤ (i : Int)) = false := by rw [decide_eq_false_iff_not]; omega
theorem le_t {n : Nat} : decide ((n : Int) ≤ (n : Int)) = true := by rw [decide_eq_true_eq]; omega
def prR (out : List Pr) : Option (List Pr) → Unit ⊕ List Pr
  | none => .inl ()
  | some l => .inr (out ++ l)
theorem prR_map (out b : List Pr) (r : Option (List Pr)) : prR (out ++ b) r = prR out (r.map (b ++ ·)) := by
  cases r with
  | none => rfl
  | some l => simp [prR]
theorem pairs_ok {p q : List Un} (hl : p.length + q.length ≤ 4294967296) : m_centoref24_Pairs p q = some (match prs p q with | none => ([], false) | some l => (l, true)) := by
  have key : ∀ (m i j : Nat) (out : List Pr), p.length - i + (q.length - j) ≤ m → i ≤ p.length → j ≤ q.length → out.length + m ≤ 4294967296 →
      runLoop (m_centoref24_Pairs_L0 p q) ((i : Int), (j : Int), out) = some (prR out (prs (p.drop i) (q.drop j))) := fun m => by
    induction m with
    | zero =>
      intro i j out hm hi hj ho
      obtain rfl : i = p.length := by omega
      obtain rfl : j = q.length := by omega
      rw [List.drop_length, List.drop_length, prs_e]
      refine runLoop_end ?_
      unfold m_centoref24_Pairs_L0
      simp only [lt_f, cond_false]
      rw [prR, List.append_nil]
    | succ m ih =>
      intro i j out hm hi hj ho
      have ap : ∀ x : Pr, appI 568 out [x] = some (out ++ [x]) := fun x => appI_ok (by simp only [List.length_singleton]; omega) (by simp only [List.length_singleton]; omega)
      have e1 : IntKind.i64.wrap ((i : Int) + 1) = ((i + 1 : Nat) : Int) := by rw [i64s (by omega) (by omega)]; rfl
      have e2 : IntKind.i64.wrap ((j : Int) + 1) = ((j + 1 : Nat) : Int) := by rw [i64s (by omega) (by omega)]; rfl
      have lo : ∀ x : Pr, (out ++ [x]).length = out.length + 1 := fun x => by simp
      cases hp : p.drop i with
      | nil =>
        obtain rfl := drop_nil hp hi
        cases hq : q.drop j with
        | nil =>
          obtain rfl := drop_nil hq hj
          rw [prs_e]
          refine runLoop_end ?_
          unfold m_centoref24_Pairs_L0
          simp only [lt_f, cond_false]
          rw [prR, List.append_nil]
        | cons v q' =>
          obtain ⟨hj', hv, hq'⟩ := drop_get hq
          cases hva : v.Alone with
          | true =>
            rw [prs_2 (fun u p' h => by cases h) hva]
            have hs : m_centoref24_Pairs_L0 p q ((p.length : Int), (j : Int), out) = some (.inl ((p.length : Int), ((j + 1 : Nat) : Int), out ++ [⟨2, zU, v⟩])) := by
              unfold m_centoref24_Pairs_L0
              simp only [lt_f, lt_t hj', cond_false, cond_true, Option.bind_some, getI_of hv, hva, ap, e2]
              rfl
            rw [runLoop_step hs, ih _ _ _ (by omega) hi (by omega) (by rw [lo]; omega), hp, hq', prR_map]
            rfl
          | false =>
            rw [prs_n2 hva]
            refine runLoop_end ?_
            unfold m_centoref24_Pairs_L0
            simp only [lt_f, lt_t hj', cond_false, cond_true, Option.bind_some, getI_of hv, hva, le_t]
            rfl
      | cons u p' =>
        obtain ⟨hi', hu, hp'⟩ := drop_get hp
        cases hua : u.Alone with
        | true =>
          rw [prs_1 hua]
          have hs : m_centoref24_Pairs_L0 p q ((i : Int), (j : Int), out) = some (.inl (((i + 1 : Nat) : Int), (j : Int), out ++ [⟨1, u, zU⟩])) := by
            unfold m_centoref24_Pairs_L0
            simp only [lt_t hi', cond_true, Option.bind_some, getI_of hu, hua, ap, e1]
            rfl
          rw [runLoop_step hs, ih _ _ _ (by omega) (by omega) hj (by rw [lo]; omega), hp', prR_map]
          rfl
        | false =>
          cases hq : q.drop j with
          | nil =>
            obtain rfl := drop_nil hq hj
            rw [prs_n1 hua]
            refine runLoop_end ?_
            unfold m_centoref24_Pairs_L0
            simp only [lt_f, lt_t hi', cond_false, cond_true, Option.bind_some, getI_of hu, hua, le_t, le_f hi']
            rfl
          | cons v q' =>
            obtain ⟨hj', hv, hq'⟩ := drop_get hq
            cases hva : v.Alone with
            | true =>
              rw [prs_2 (fun u' p'' h => by injection h with h _; rw [← h]; exact hua) hva]
              have hs : m_centoref24_Pairs_L0 p q ((i : Int), (j : Int), out) = some (.inl ((i : Int), ((j + 1 : Nat) : Int), out ++ [⟨2, zU, v⟩])) := by
                unfold m_centoref24_Pairs_L0
                simp only [lt_t hi', lt_t hj', cond_false, cond_true, Option.bind_some, getI_of hu, getI_of hv, hua, hva, ap, e2]
                rfl
              rw [runLoop_step hs, ih _ _ _ (by omega) hi (by omega) (by rw [lo]; omega), hp, hq', prR_map]
              rfl
            | false =>
              rw [prs_0 hua hva]
              have hs : m_centoref24_Pairs_L0 p q ((i : Int), (j : Int), out) = some (.inl (((i + 1 : Nat) : Int), ((j + 1 : Nat) : Int), out ++ [⟨0, u, v⟩])) := by
                unfold m_centoref24_Pairs_L0
                simp only [lt_t hi', lt_t hj', cond_false, cond_true, Option.bind_some, getI_of hu, getI_of hv, hua, hva, ap, e1, e2, le_f hi', le_f hj']
              rw [runLoop_step hs, ih _ _ _ (by omega) (by omega) (by omega) (by rw [lo]; omega), hp', hq', prR_map]
              rfl
  have := key (p.length + q.length) 0 0 [] (by omega) (Nat.zero_le _) (Nat.zero_le _) (by simpa using hl)
  unfold m_centoref24_Pairs
  rw [show (((0 : Nat) : Int)) = 0 from rfl] at this
  rw [this, List.drop_zero, List.drop_zero, Option.bind_some]
  cases prs p q <;> rfl
def opU (u : Un) : EO := if u.Kind = 0 then ⟨0, 1, [], eS0⟩ else if u.Kind = 3 then ⟨3, 0, [], u.E⟩ else ⟨u.Kind, 0, [u.T], eS0⟩
theorem opU_ok (u : Un) : m_centoref24_Op u = some (opU u) := by
  unfold m_centoref24_Op opU
  by_cases h0 : u.Kind = 0
  · rw [if_pos h0, show (u.Kind == 0) = true from by rw [h0]; rfl, cond_true]; rfl
  rw [if_neg h0, show (u.Kind == 0) = false from by rw [beq_eq_false_iff_ne]; exact h0, cond_false]
  by_cases h3 : u.Kind = 3
  · rw [if_pos h3, show (u.Kind == 3) = true from by rw [h3]; rfl, cond_true]
  · rw [if_neg h3, show (u.Kind == 3) = false from by rw [beq_eq_false_iff_ne]; exact h3, cond_false]; rfl
def gU (u : Un) : Prop := Bd u.T ∧ BE u.E
theorem gU_z : gU zU := ⟨bd_n0, be_s0⟩
theorem gU_be {u : Un} (h : gU u) : BE ⟨3, n0T, n0T, [], [], 8, [opU u]⟩ := by
  have hL : (opU u).L.length ≤ 1 ∧ ∀ t ∈ (opU u).L, Bd t := by
    unfold opU
    split
    · simp
    · split
      · simp
      · simp only [List.length_singleton, Nat.le_refl, List.mem_singleton, forall_eq, true_and]; exact h.1
  have hE : BE (opU u).E := by
    unfold opU
    split
    · exact be_s0
    · split
      · exact h.2
      · exact be_s0
  exact .mk _ bd_n0 bd_n0 (by simp) (by simp) (by simp) (by simp) (by simp) (fun o ho => by
    rw [List.mem_singleton.1 ho]; exact ⟨by omega, hL.2⟩) fun o ho => by rw [List.mem_singleton.1 ho]; exact hE
theorem gU_unO {k i : Int} {o : EO} (h : BO o) : ∀ u ∈ unO k i o, gU u := fun u hu => by
  unfold unO at hu
  split at hu
  · rw [List.eq_of_mem_replicate hu]; exact ⟨bd_n0, be_s0⟩
  · split at hu
    · rw [List.mem_singleton.1 hu]; exact ⟨bd_n0, h.2⟩
    · obtain ⟨t, ht, rfl⟩ := List.mem_map.1 hu
      exact ⟨h.1.2 t ht, be_s0⟩
theorem al_unO {k i : Int} (hk : k = 1 ∨ k = 2) {o : EO} : ∀ u ∈ unO k i o, u.Alone = (o.Kind == k) := fun u hu => by
  unfold unO at hu
  split at hu
  · rename_i h0
    rw [List.eq_of_mem_replicate hu, h0]
    symm
    rw [beq_eq_false_iff_ne]
    omega
  · split at hu
    · rename_i h3
      rw [List.mem_singleton.1 hu, h3]
      symm
      rw [beq_eq_false_iff_ne]
      omega
    · obtain ⟨t, ht, rfl⟩ := List.mem_map.1 hu
      rfl
theorem prs_b1 {q : List Un} {p : List Un} : ∀ (b : List Un), (∀ u ∈ b, u.Alone = true) → prs (b ++ p) q = (prs p q).map (b.map (fun u => (⟨1, u, zU⟩ : Pr)) ++ ·)
  | [], _ => by simp
  | u :: b, h => by
    rw [List.cons_append, prs_1 (h u (.head _)), prs_b1 b fun x hx => h x (.tail _ hx), Option.map_map]
    rfl
theorem prs_b2 {q : List Un} {p : List Un} (hp : ∀ u p', p = u :: p' → u.Alone = false) : ∀ (b : List Un), (∀ u ∈ b, u.Alone = true) → prs p (b ++ q) = (prs p q).map (b.map (fun u => (⟨2, zU, u⟩ : Pr)) ++ ·)
  | [], _ => by simp
  | u :: b, h => by
    rw [List.cons_append, prs_2 hp (h u (.head _)), prs_b2 hp b fun x hx => h x (.tail _ hx), Option.map_map]
    rfl
theorem prs_b0 {q : List Un} {p : List Un} : ∀ (b c : List Un), b.length = c.length → (∀ u ∈ b, u.Alone = false) → (∀ u ∈ c, u.Alone = false) → prs (b ++ p) (c ++ q) = (prs p q).map (List.zipWith (fun u v => (⟨0, u, v⟩ : Pr)) b c ++ ·)
  | [], [], _, _, _ => by simp
  | [], _ :: _, h, _, _ => by simp at h
  | _ :: _, [], h, _, _ => by simp at h
  | u :: b, v :: c, h, h1, h2 => by
    rw [List.cons_append, List.cons_append, prs_0 (h1 u (.head _)) (h2 v (.head _)), prs_b0 b c (by simpa using h) (fun x hx => h1 x (.tail _ hx)) fun x hx => h2 x (.tail _ hx), Option.map_map]
    rfl
def tk (k i : Int) (o : EO) (g n : Nat) : List Un := ((unO k i o).drop g).take n
theorem tk_len {k i : Int} {o : EO} {g n : Nat} (h : g + n ≤ thN o) : (tk k i o g n).length = n := by unfold tk; rw [List.length_take, List.length_drop, unO_len]; omega
theorem tk_mem {k i : Int} {o : EO} {g n : Nat} {u : Un} (h : u ∈ tk k i o g n) : u ∈ unO k i o := List.mem_of_mem_drop (List.mem_of_mem_take h)
theorem rem_split {k i : Int} {o : EO} {r : List EO} {g n : Nat} (h : g + n ≤ thN o) : (unL k i (o :: r)).drop g = tk k i o g n ++ (unL k i (o :: r)).drop (g + n) := by
  have hl := unO_len (k := k) (i := i) (o := o)
  rw [← List.take_append_drop n ((unL k i (o :: r)).drop g), List.drop_drop]
  congr 1
  rw [unL, List.drop_append_of_le_length (by omega), List.take_append_of_le_length (by rw [List.length_drop]; omega)]
  rfl
structure CX (a : List EO) (g : Nat) : Prop where
  c : CI a g
  p : ∀ o ∈ a, opx o
  b : ∀ o ∈ a, BO o
theorem rem_nx {k i : Int} {a : List EO} {g : Nat} (h : CX a g) : CX (nxA a g) (nxG a g) ∧ ∃ i', (unL k i a).drop g = (unL k i' (nxA a g)).drop (nxG a g) := by
  have hc := (nx_CI h.c).1
  cases a with
  | nil => exact ⟨⟨hc, h.p, h.b⟩, i, by rw [show g = 0 from h.c.g]; rfl⟩
  | cons o r =>
    by_cases hg : g < thN o
    · have e1 : nxA (o :: r) g = o :: r := if_pos hg
      have e2 : nxG (o :: r) g = g := if_pos hg
      rw [e1, e2]
      exact ⟨h, i, rfl⟩
    · have hgg : g = thN o := by have : g ≤ thN o := h.c.g; omega
      have e1 : nxA (o :: r) g = r := if_neg hg
      have e2 : nxG (o :: r) g = 0 := if_neg hg
      rw [e1, e2] at hc ⊢
      refine ⟨⟨hc, fun x hx => h.p x (.tail _ hx), fun x hx => h.b x (.tail _ hx)⟩, i + 1, ?_⟩
      rw [unL, hgg, List.drop_left' unO_len]
      rfl
theorem take_ok2 {o : EO} {r : List EO} {g n : Nat} (ho : opx o) (hs : thN o ≤ 1073741824) (hn : 1 ≤ n) (h : g + n ≤ thN o) : ∃ x, m_align_cursor_take ⟨o :: r, ((g : Nat) : Int)⟩ ((n : Nat) : Int) = some (x, ⟨o :: r, ((g + n : Nat) : Int)⟩) ∧ opx x ∧ thN x = n ∧ ∀ k i, (unO k 0 x).map opU = (tk k i o g n).map opU := by
  unfold m_align_cursor_take
  have e0 : getI (o :: r) 0 = some o := getI_of (i := 0) rfl
  have e2 : IntKind.i64.wrap (((g : Nat) : Int) + ((n : Nat) : Int)) = ((g + n : Nat) : Int) := by rw [i64s (by omega) (by omega)]; omega
  simp only
  rw [e0, Option.bind_some, e2]
  have hh := h
  unfold thN at h
  rcases ho with ⟨k0, h1, hL⟩ | ⟨k12, h1, hL⟩ | ⟨k3, h1, hL⟩
  · rw [if_pos k0] at h
    rw [show (o.Kind == 0) = true from by rw [k0]; rfl, cond_true, Option.bind_some]
    have hx : thN (⟨o.Kind, ((n : Nat) : Int), o.L, o.E⟩ : EO) = n := by unfold thN; rw [if_pos k0]; simp
    refine ⟨_, rfl, .inl ⟨k0, by simp only; omega, hL⟩, hx, fun k i => ?_⟩
    have u1 : unO k 0 (⟨o.Kind, ((n : Nat) : Int), o.L, o.E⟩ : EO) = List.replicate n (⟨0, 0, n0T, eS0, false⟩ : Un) := by unfold unO; rw [if_pos k0]; simp
    have u2 : unO k i o = List.replicate o.N.toNat (⟨i, 0, n0T, eS0, false⟩ : Un) := if_pos k0
    unfold tk
    rw [u1, u2, List.drop_replicate, List.take_replicate, List.map_replicate, List.map_replicate, show min n (o.N.toNat - g) = n by omega]
    rfl
  · rw [if_neg (by omega), if_neg (by omega)] at h
    have e3 : (cond (o.Kind == 1) (some (o.Kind == 1)) (some (o.Kind == 2))) = some true := by rcases k12 with k | k <;> rw [k] <;> rfl
    have hln : ((o.L.drop g).take n).length = n := by rw [List.length_take, List.length_drop]; omega
    rw [show (o.Kind == 0) = false from by rw [beq_eq_false_iff_ne]; omega, cond_false, e3, Option.bind_some, cond_true, subI_ok (by omega) (by omega) (by omega), Option.bind_some, Option.bind_some]
    have e4 : ((o.L.drop (((g : Nat) : Int)).toNat).take ((((g + n : Nat) : Int) - ((g : Nat) : Int))).toNat) = (o.L.drop g).take n := by
      rw [Int.toNat_natCast, show (((g + n : Nat) : Int) - ((g : Nat) : Int)).toNat = n by omega]
    rw [e4]
    have hx : thN (⟨o.Kind, o.N, (o.L.drop g).take n, o.E⟩ : EO) = n := by unfold thN; rw [if_neg (by simp only; omega), if_neg (by simp only; omega)]; exact hln
    refine ⟨_, rfl, .inr (.inl ⟨k12, h1, fun q => by simp only at q; rw [q] at hln; simp at hln; omega⟩), hx, fun k i => ?_⟩
    have u1 : unO k 0 (⟨o.Kind, o.N, (o.L.drop g).take n, o.E⟩ : EO) = ((o.L.drop g).take n).map fun t => (⟨0, o.Kind, t, eS0, o.Kind == k⟩ : Un) := by unfold unO; rw [if_neg (by simp only; omega), if_neg (by simp only; omega)]
    have u2 : unO k i o = o.L.map fun t => (⟨i, o.Kind, t, eS0, o.Kind == k⟩ : Un) := by unfold unO; rw [if_neg (by omega), if_neg (by omega)]
    unfold tk
    rw [u1, u2, ← List.map_drop, ← List.map_take, List.map_map, List.map_map]
    rfl
  · rw [if_neg (by omega), if_pos k3] at h
    obtain rfl : g = 0 := by omega
    obtain rfl : n = 1 := by omega
    rw [show (o.Kind == 0) = false from by rw [k3]; rfl, show (o.Kind == 1) = false from by rw [k3]; rfl, show (o.Kind == 2) = false from by rw [k3]; rfl, cond_false, cond_false, Option.bind_some, cond_false, Option.bind_some]
    have hx : thN (⟨o.Kind, o.N, o.L, o.E⟩ : EO) = 1 := by unfold thN; rw [if_neg (by simp only; omega), if_pos k3]
    refine ⟨_, rfl, .inr (.inr ⟨k3, h1, hL⟩), hx, fun k i => ?_⟩
    have u1 : unO k 0 (⟨o.Kind, o.N, o.L, o.E⟩ : EO) = [(⟨0, 3, n0T, o.E, false⟩ : Un)] := by unfold unO; rw [if_neg (by simp only; omega), if_pos k3]
    have u2 : unO k i o = [(⟨i, 3, n0T, o.E, false⟩ : Un)] := by unfold unO; rw [if_neg (by omega), if_pos k3]
    unfold tk
    rw [u1, u2]
    rfl
structure Blk (k : Int) (x : Pc) (blk : List Pr) : Prop where
  pos : 1 ≤ blk.length
  of_ : ∀ p ∈ blk, p.Of = x.Of
  k3 : x.Of = 0 ∨ x.Of = 1 ∨ x.Of = 2
  fst : x.Of ≠ 2 → opx x.P ∧ thN x.P = blk.length ∧ (unO k 0 x.P).map opU = blk.map fun p => opU p.P
  snd : x.Of ≠ 1 → opx x.Q ∧ thN x.Q = blk.length ∧ (unO 2 0 x.Q).map opU = blk.map fun p => opU p.Q
  zero : x.Of = 2 → x.P = ⟨0, 0, [], eS0⟩
  gd : ∀ p ∈ blk, gU p.P ∧ gU p.Q
inductive Mat (k : Int) : List Pc → List Pr → Prop
  | nil : Mat k [] []
  | cons {x : Pc} {blk : List Pr} {o : List Pc} {l : List Pr} (h : Blk k x blk) (t : Mat k o l) : Mat k (x :: o) (blk ++ l)
def Less2 (k : Int) (a : List EO) (g : Nat) (b : List EO) (h : Nat) (R S : List Un) (out : List Pc) (r : ((List S_api_Op) × Int × (List S_api_Op) × Int × (List S_align_Piece)) ⊕ ((List S_align_Piece) × Bool)) : Prop :=
  (r = .inr (out, true) ∧ prs R S = some []) ∨ (r = .inr ([], false) ∧ prs R S = none) ∨
    ∃ a' g' i' b' h' j' x blk, r = .inl (a', ((g' : Nat) : Int), b', ((h' : Nat) : Int), out ++ [x]) ∧ CX a' g' ∧ CX b' h' ∧ mu a' g' + mu b' h' + 1 ≤ mu a g + mu b h ∧ prs R S = (prs ((unL k i' a').drop g') ((unL 2 j' b').drop h')).map (blk ++ ·) ∧ Blk k x blk
theorem eatX {o : EO} {r : List EO} {g n : Nat} (h : CX (o :: r) g) (hn : g + n ≤ thN o) : CX (o :: r) (g + n) := ⟨(eat h.c hn).1, h.p, h.b⟩
theorem tk_map {k i : Int} {o x : EO} {g n : Nat} {f : Un → Pr} (e : (unO k 0 x).map opU = (tk k i o g n).map opU) (hf : ∀ u, (f u).P = u) : (unO k 0 x).map opU = ((tk k i o g n).map f).map fun p => opU p.P := by
  rw [e, List.map_map]
  exact List.map_congr_left fun u _ => by simp only [Function.comp]; rw [hf]
theorem tk_map2 {k i : Int} {o x : EO} {g n : Nat} {f : Un → Pr} (e : (unO k 0 x).map opU = (tk k i o g n).map opU) (hf : ∀ u, (f u).Q = u) : (unO k 0 x).map opU = ((tk k i o g n).map f).map fun p => opU p.Q := by
  rw [e, List.map_map]
  exact List.map_congr_left fun u _ => by simp only [Function.comp]; rw [hf]
theorem zip_P : ∀ (b c : List Un), b.length = c.length → (List.zipWith (fun u v => (⟨0, u, v⟩ : Pr)) b c).map (fun p => opU p.P) = b.map opU
  | [], [], _ => rfl
  | [], _ :: _, h => by simp at h
  | _ :: _, [], h => by simp at h
  | u :: b, v :: c, h => by rw [List.zipWith_cons_cons, List.map_cons, List.map_cons, zip_P b c (by simpa using h)]
theorem zip_Q : ∀ (b c : List Un), b.length = c.length → (List.zipWith (fun u v => (⟨0, u, v⟩ : Pr)) b c).map (fun p => opU p.Q) = c.map opU
  | [], [], _ => rfl
  | [], _ :: _, h => by simp at h
  | _ :: _, [], h => by simp at h
  | u :: b, v :: c, h => by rw [List.zipWith_cons_cons, List.map_cons, List.map_cons, zip_Q b c (by simpa using h)]
theorem zip_mem : ∀ (b c : List Un) (p : Pr), p ∈ List.zipWith (fun u v => (⟨0, u, v⟩ : Pr)) b c → p.Of = 0 ∧ p.P ∈ b ∧ p.Q ∈ c
  | [], _, p, h => by simp at h
  | _ :: _, [], p, h => by simp at h
  | u :: b, v :: c, p, h => by
    rw [List.zipWith_cons_cons] at h
    rcases List.mem_cons.1 h with rfl | h
    · exact ⟨rfl, .head _, .head _⟩
    · obtain ⟨a1, a2, a3⟩ := zip_mem b c p h
      exact ⟨a1, .tail _ a2, .tail _ a3⟩
theorem hd_al {k i : Int} (hk : k = 1 ∨ k = 2) {o : EO} {r : List EO} {g : Nat} (hg : g < thN o) {c : Bool} (hc : (o.Kind == k) = c) : ∀ u p', (unL k i (o :: r)).drop g = u :: p' → u.Alone = c := fun u p' h => by
  rw [rem_split (n := 1) (by omega)] at h
  have hl := tk_len (k := k) (i := i) (o := o) (g := g) (n := 1) (by omega)
  obtain ⟨w, hw⟩ : ∃ w, tk k i o g 1 = [w] := List.length_eq_one_iff.1 hl
  rw [hw, List.cons_append] at h
  injection h with h _
  subst h
  rw [← hc]
  exact al_unO hk _ (tk_mem (by rw [hw]; exact .head _))
theorem piece_step2 {k i j : Int} (hk : k = 1 ∨ k = 2) {a : List EO} {g : Nat} {b : List EO} {h : Nat} {out : List Pc} (ha : CX a g) (hb : CX b h) (ho : out.length ≤ 4194304) : ∃ r, m_align_pieces_L0 k 2 (a, ((g : Nat) : Int), b, ((h : Nat) : Int), out) = some r ∧ Less2 k a g b h ((unL k i a).drop g) ((unL 2 j b).drop h) out r := by
  obtain ⟨a1, a2, a3⟩ := nx_CI ha.c
  obtain ⟨b1, b2, b3⟩ := nx_CI hb.c
  have ea := next_ok ha.c
  have eb := next_ok hb.c
  obtain ⟨ax, i1, ei⟩ := rem_nx (k := k) (i := i) ha
  obtain ⟨bx, j1, ej⟩ := rem_nx (k := 2) (i := j) hb
  unfold m_align_pieces_L0
  simp only
  unfold Less2
  rw [← a3, ← b3, ei, ej]
  clear ei ej ha hb
  generalize nxA a g = a' at *
  generalize nxG a g = g' at *
  generalize nxA b h = b' at *
  generalize nxG b h = h' at *
  have ap : ∀ x : Pc, appI 488 out [x] = some (out ++ [x]) := fun x => appI_ok (by simp only [List.length_singleton]; omega) (by simp only [List.length_singleton]; omega)
  have h22 : (2 : Int) = 1 ∨ (2 : Int) = 2 := .inr rfl
  cases a' with
  | nil =>
    have hg' : g' = 0 := a1.g
    subst hg'
    have ea' : m_align_cursor_next ⟨a, ((g : Nat) : Int)⟩ = some (0, 0, ⟨[], ((0 : Nat) : Int)⟩) := ea
    have hR : (unL k i1 []).drop 0 = [] := rfl
    cases b' with
    | nil =>
      have hh' : h' = 0 := b1.g
      subst hh'
      have eb' : m_align_cursor_next ⟨b, ((h : Nat) : Int)⟩ = some (0, 0, ⟨[], ((0 : Nat) : Int)⟩) := eb
      rw [ea', Option.bind_some, eb', Option.bind_some]
      refine ⟨.inr (out, true), ?_, .inl ⟨rfl, prs_e⟩⟩
      rfl
    | cons o' r' =>
      have q := b2 o' r' rfl
      have hs := b1.s
      rw [sumT_cons] at hs
      have e3 : decide (0 < ((thN o' - h' : Nat) : Int)) = true := by rw [decide_eq_true_eq]; omega
      have e4 : (((thN o' - h' : Nat) : Int) == 0) = false := by rw [beq_eq_false_iff_ne]; omega
      obtain ⟨x, hx, x1, x2, x3⟩ := take_ok2 (r := r') (g := h') (n := thN o' - h') (bx.p o' (by simp)) (by omega) (by omega) (by omega)
      obtain ⟨t1, t2, t3⟩ := eat (n := thN o' - h') b1 (by omega)
      have eb' : m_align_cursor_next ⟨b, ((h : Nat) : Int)⟩ = some (o'.Kind, ((thN o' - h' : Nat) : Int), ⟨o' :: r', ((h' : Nat) : Int)⟩) := eb
      rw [ea', Option.bind_some, eb', Option.bind_some]
      simp only
      rw [show decide ((0 : Int) < 0) = false from rfl, cond_false, cond_false, e3, cond_true, show ((0 : Int) == 0) = true from rfl, cond_true, e4, cond_false, cond_true, cond_true]
      cases hkd : o'.Kind == 2 with
      | true =>
        rw [cond_true, hx, Option.bind_some, ap, Option.bind_some]
        refine ⟨_, rfl, .inr (.inr ⟨[], 0, i1, o' :: r', h' + (thN o' - h'), j1, ⟨2, ⟨0, 0, [], eS0⟩, x⟩, (tk 2 j1 o' h' (thN o' - h')).map fun u => ⟨2, zU, u⟩, rfl, ax, eatX bx (by omega), by have := t3 q (by omega); (try simp only); omega, ?_, ?_⟩)⟩
        · rw [rem_split (k := 2) (n := thN o' - h') (by omega)]
          exact prs_b2 (fun u p' e => by cases e) _ fun u hu => by rw [al_unO h22 _ (tk_mem hu)]; exact hkd
        · have hl := tk_len (k := 2) (i := j1) (o := o') (g := h') (n := thN o' - h') (by omega)
          exact ⟨by rw [List.length_map]; omega, fun p hp => by obtain ⟨u, _, rfl⟩ := List.mem_map.1 hp; rfl, .inr (.inr rfl), fun hc => absurd rfl hc, fun _ => ⟨x1, by rw [List.length_map, hl]; exact x2, tk_map2 (x3 2 j1) fun _ => rfl⟩, fun _ => rfl, fun p hp => by obtain ⟨u, hu, rfl⟩ := List.mem_map.1 hp; exact ⟨gU_z, gU_unO (bx.b o' (by simp)) _ (tk_mem hu)⟩⟩
      | false =>
        refine ⟨_, rfl, .inr (.inl ⟨rfl, ?_⟩)⟩
        rw [rem_split (k := 2) (n := 1) (by omega)]
        have hl := tk_len (k := 2) (i := j1) (o := o') (g := h') (n := 1) (by omega)
        obtain ⟨w, hw⟩ : ∃ w, tk 2 j1 o' h' 1 = [w] := List.length_eq_one_iff.1 hl
        rw [hw]
        exact prs_n2 (by rw [al_unO h22 _ (tk_mem (by rw [hw]; exact .head _))]; exact hkd)
  | cons o r =>
    have p := a2 o r rfl
    have hs := a1.s
    rw [sumT_cons] at hs
    have e1 : decide (0 < ((thN o - g' : Nat) : Int)) = true := by rw [decide_eq_true_eq]; omega
    have e2 : (((thN o - g' : Nat) : Int) == 0) = false := by rw [beq_eq_false_iff_ne]; omega
    have ea' : m_align_cursor_next ⟨a, ((g : Nat) : Int)⟩ = some (o.Kind, ((thN o - g' : Nat) : Int), ⟨o :: r, ((g' : Nat) : Int)⟩) := ea
    rw [ea', Option.bind_some]
    simp only
    rw [e1, cond_true]
    cases hkd : o.Kind == k with
    | true =>
      obtain ⟨x, hx, x1, x2, x3⟩ := take_ok2 (r := r) (g := g') (n := thN o - g') (ax.p o (by simp)) (by omega) (by omega) (by omega)
      obtain ⟨t1, t2, t3⟩ := eat (n := thN o - g') a1 (by omega)
      have eb' : m_align_cursor_next ⟨b, ((h : Nat) : Int)⟩ = some (kdA b', lfA b' h', ⟨b', ((h' : Nat) : Int)⟩) := eb
      rw [eb', Option.bind_some, cond_true, hx, Option.bind_some]
      simp only
      rw [ap, Option.bind_some]
      refine ⟨_, rfl, .inr (.inr ⟨o :: r, g' + (thN o - g'), i1, b', h', j1, ⟨1, x, ⟨0, 0, [], eS0⟩⟩, (tk k i1 o g' (thN o - g')).map fun u => ⟨1, u, zU⟩, rfl, eatX ax (by omega), bx, by have := t3 p (by omega); (try simp only); omega, ?_, ?_⟩)⟩
      · rw [rem_split (n := thN o - g') (by omega)]
        exact prs_b1 _ fun u hu => by rw [al_unO hk _ (tk_mem hu)]; exact hkd
      · have hl := tk_len (k := k) (i := i1) (o := o) (g := g') (n := thN o - g') (by omega)
        exact ⟨by rw [List.length_map]; omega, fun p hp => by obtain ⟨u, _, rfl⟩ := List.mem_map.1 hp; rfl, .inr (.inl rfl), fun _ => ⟨x1, by rw [List.length_map, hl]; exact x2, tk_map (x3 k i1) fun _ => rfl⟩, fun hc => absurd rfl hc, fun hc => by simp at hc, fun p hp => by obtain ⟨u, hu, rfl⟩ := List.mem_map.1 hp; exact ⟨gU_unO (ax.b o (by simp)) _ (tk_mem hu), gU_z⟩⟩
    | false =>
      have hd := hd_al (r := r) (i := i1) hk p hkd
      cases b' with
      | nil =>
        have eb' : m_align_cursor_next ⟨b, ((h : Nat) : Int)⟩ = some (0, 0, ⟨[], ((h' : Nat) : Int)⟩) := eb
        rw [eb', Option.bind_some]
        simp only
        rw [cond_false, e2, cond_false, cond_false]
        refine ⟨_, rfl, .inr (.inl ⟨rfl, ?_⟩)⟩
        have hh' : h' = 0 := b1.g
        subst hh'
        rw [rem_split (k := k) (n := 1) (by omega)]
        have hl := tk_len (k := k) (i := i1) (o := o) (g := g') (n := 1) (by omega)
        obtain ⟨w, hw⟩ : ∃ w, tk k i1 o g' 1 = [w] := List.length_eq_one_iff.1 hl
        rw [hw]
        exact prs_n1 (by rw [al_unO hk _ (tk_mem (by rw [hw]; exact .head _))]; exact hkd)
      | cons o' r' =>
        have q := b2 o' r' rfl
        have hs' := b1.s
        rw [sumT_cons] at hs'
        have e3 : decide (0 < ((thN o' - h' : Nat) : Int)) = true := by rw [decide_eq_true_eq]; omega
        have e4 : (((thN o' - h' : Nat) : Int) == 0) = false := by rw [beq_eq_false_iff_ne]; omega
        have eb' : m_align_cursor_next ⟨b, ((h : Nat) : Int)⟩ = some (o'.Kind, ((thN o' - h' : Nat) : Int), ⟨o' :: r', ((h' : Nat) : Int)⟩) := eb
        rw [eb', Option.bind_some]
        simp only
        rw [cond_false, e2, cond_false, cond_false, e3, cond_true]
        cases hkd2 : o'.Kind == 2 with
        | true =>
          obtain ⟨x, hx, x1, x2, x3⟩ := take_ok2 (r := r') (g := h') (n := thN o' - h') (bx.p o' (by simp)) (by omega) (by omega) (by omega)
          obtain ⟨t1, t2, t3⟩ := eat (n := thN o' - h') b1 (by omega)
          rw [cond_true, hx, Option.bind_some, ap, Option.bind_some]
          refine ⟨_, rfl, .inr (.inr ⟨o :: r, g', i1, o' :: r', h' + (thN o' - h'), j1, ⟨2, ⟨0, 0, [], eS0⟩, x⟩, (tk 2 j1 o' h' (thN o' - h')).map fun u => ⟨2, zU, u⟩, rfl, ax, eatX bx (by omega), by have := t3 q (by omega); (try simp only); omega, ?_, ?_⟩)⟩
          · rw [rem_split (k := 2) (n := thN o' - h') (by omega)]
            exact prs_b2 hd _ fun u hu => by rw [al_unO h22 _ (tk_mem hu)]; exact hkd2
          · have hl := tk_len (k := 2) (i := j1) (o := o') (g := h') (n := thN o' - h') (by omega)
            exact ⟨by rw [List.length_map]; omega, fun p hp => by obtain ⟨u, _, rfl⟩ := List.mem_map.1 hp; rfl, .inr (.inr rfl), fun hc => absurd rfl hc, fun _ => ⟨x1, by rw [List.length_map, hl]; exact x2, tk_map2 (x3 2 j1) fun _ => rfl⟩, fun _ => rfl, fun p hp => by obtain ⟨u, hu, rfl⟩ := List.mem_map.1 hp; exact ⟨gU_z, gU_unO (bx.b o' (by simp)) _ (tk_mem hu)⟩⟩
        | false =>
          obtain ⟨n, hn⟩ : ∃ n, n = min (thN o - g') (thN o' - h') := ⟨_, rfl⟩
          have em : (if ((thN o' - h' : Nat) : Int) < ((thN o - g' : Nat) : Int) then ((thN o' - h' : Nat) : Int) else ((thN o - g' : Nat) : Int)) = ((n : Nat) : Int) := by split <;> omega
          obtain ⟨x, hx, x1, x2, x3⟩ := take_ok2 (r := r) (g := g') (n := n) (ax.p o (by simp)) (by omega) (by omega) (by omega)
          obtain ⟨y, hy, y1, y2, y3⟩ := take_ok2 (r := r') (g := h') (n := n) (bx.p o' (by simp)) (by omega) (by omega) (by omega)
          obtain ⟨t1, t2, t3⟩ := eat (n := n) a1 (by omega)
          obtain ⟨u1, u2, u3⟩ := eat (n := n) b1 (by omega)
          rw [cond_false, e4, cond_false, em, hx, Option.bind_some, hy, Option.bind_some, ap, Option.bind_some]
          have hl1 := tk_len (k := k) (i := i1) (o := o) (g := g') (n := n) (by omega)
          have hl2 := tk_len (k := 2) (i := j1) (o := o') (g := h') (n := n) (by omega)
          refine ⟨_, rfl, .inr (.inr ⟨o :: r, g' + n, i1, o' :: r', h' + n, j1, ⟨0, x, y⟩, List.zipWith (fun u v => ⟨0, u, v⟩) (tk k i1 o g' n) (tk 2 j1 o' h' n), rfl, eatX ax (by omega), eatX bx (by omega), ?_, ?_, ?_⟩)⟩
          · try simp only
            by_cases hm : thN o - g' ≤ thN o' - h'
            · have := t3 p (by omega); omega
            · have := u3 q (by omega); omega
          · rw [rem_split (k := k) (n := n) (by omega), rem_split (k := 2) (n := n) (by omega)]
            exact prs_b0 _ _ (by omega) (fun u hu => by rw [al_unO hk _ (tk_mem hu)]; exact hkd) fun u hu => by rw [al_unO h22 _ (tk_mem hu)]; exact hkd2
          · have hz : (List.zipWith (fun u v => (⟨0, u, v⟩ : Pr)) (tk k i1 o g' n) (tk 2 j1 o' h' n)).length = n := by rw [List.length_zipWith, hl1, hl2]; omega
            exact ⟨by omega, fun p hp => (zip_mem _ _ p hp).1, .inl rfl, fun _ => ⟨x1, by rw [hz]; exact x2, (x3 k i1).trans (zip_P _ _ (by omega)).symm⟩, fun _ => ⟨y1, by rw [hz]; exact y2, (y3 2 j1).trans (zip_Q _ _ (by omega)).symm⟩, fun hc => by simp at hc, fun p hp => ⟨gU_unO (ax.b o (by simp)) _ (tk_mem (zip_mem _ _ p hp).2.1), gU_unO (bx.b o' (by simp)) _ (tk_mem (zip_mem _ _ p hp).2.2)⟩⟩
theorem pieces_sim {k : Int} (hk : k = 1 ∨ k = 2) : ∀ (m : Nat) (a : List EO) (g : Nat) (i : Int) (b : List EO) (h : Nat) (j : Int) (out : List Pc), mu a g + mu b h ≤ m → CX a g → CX b h → out.length + m ≤ 4194304 →
    ∃ o ok, runLoop (m_align_pieces_L0 k 2) (a, ((g : Nat) : Int), b, ((h : Nat) : Int), out) = some (o, ok) ∧ ((prs ((unL k i a).drop g) ((unL 2 j b).drop h) = none ∧ ok = false ∧ o = []) ∨ ∃ l o', prs ((unL k i a).drop g) ((unL 2 j b).drop h) = some l ∧ ok = true ∧ o = out ++ o' ∧ Mat k o' l)
  | m, a, g, i, b, h, j, out, hm, ha, hb, ho => by
    obtain ⟨r, h1, h2⟩ := piece_step2 (k := k) (i := i) (j := j) hk ha hb (out := out) (by omega)
    rcases h2 with ⟨rfl, hp⟩ | ⟨rfl, hp⟩ | ⟨a', g', i', b', h', j', x, blk, rfl, c1, c2, c3, hp, hB⟩
    · exact ⟨_, _, runLoop_end h1, .inr ⟨[], [], hp, rfl, (List.append_nil _).symm, .nil⟩⟩
    · exact ⟨_, _, runLoop_end h1, .inl ⟨hp, rfl, rfl⟩⟩
    · cases m with
      | zero => omega
      | succ m =>
        obtain ⟨o, ok, q1, q2⟩ := pieces_sim hk m a' g' i' b' h' j' (out ++ [x]) (by omega) c1 c2 (by rw [List.length_append, List.length_singleton]; omega)
        refine ⟨o, ok, by rw [runLoop_step h1]; exact q1, ?_⟩
        rw [hp]
        rcases q2 with ⟨p1, p2, p3⟩ | ⟨l, o', p1, p2, p3, p4⟩
        · exact .inl ⟨by rw [p1]; rfl, p2, p3⟩
        · exact .inr ⟨blk ++ l, x :: o', by rw [p1]; rfl, p2, by rw [p3, List.append_assoc]; rfl, .cons hB p4⟩
theorem lkids_ok {o : EO} (h : opx o) (hs : thN o ≤ 1073741824) : m_centolaw24_kids o = some ((thN o : Nat) : Int) := by
  unfold m_centolaw24_kids
  unfold thN at hs ⊢
  rcases h with ⟨k0, h1, hL⟩ | ⟨k12, h1, hL⟩ | ⟨k3, h1, hL⟩
  · rw [if_pos k0] at hs ⊢
    rw [show (o.Kind == 3) = false from by rw [k0]; rfl, cond_false, hL, i64s (by simp only [List.length_nil]; omega) (by simp only [List.length_nil]; omega)]
    congr 1
    simp only [List.length_nil]
    omega
  · rw [if_neg (by omega), if_neg (by omega)] at hs ⊢
    rw [show (o.Kind == 3) = false from by rw [beq_eq_false_iff_ne]; omega, cond_false, h1, i64s (by omega) (by omega)]
    congr 1
    omega
  · rw [if_neg (by omega), if_pos k3]
    rw [show (o.Kind == 3) = true from by rw [k3]; rfl, cond_true]
    rfl
theorem un_eta (u : Un) : (⟨u.Step, u.Kind, ⟨u.T.Kind, u.T.Words, u.T.Kids⟩, ⟨u.E.Kind, ⟨u.E.Old.Kind, u.E.Old.Words, u.E.Old.Kids⟩, ⟨u.E.New.Kind, u.E.New.Words, u.E.New.Kids⟩, u.E.Words, u.E.Kids, u.E.List_, u.E.Ops⟩, u.Alone⟩ : Un) = u := by
  obtain ⟨a, b, ⟨t1, t2, t3⟩, ⟨k, ⟨a1, b1, c1⟩, ⟨d, f, g⟩, w, ks, li, os⟩, al⟩ := u
  rfl
def sel (s : Bool) (p : Pr) : Un := if s = true then p.Q else p.P
theorem same24_ok {k : Int} {o : EO} (ho : opx o) (hs : thN o ≤ 1073741824) {l : List Pr} {n : Nat} {s : Bool} (hl : l.length ≤ 4294967296) (hn : n + thN o ≤ l.length) (e : (unO k 0 o).map opU = ((l.drop n).take (thN o)).map fun p => opU (sel s p)) (hg : ∀ p ∈ l, gU p.P ∧ gU p.Q) : m_centolaw24_same o k l ((n : Nat) : Int) s = some true := by
  unfold m_centolaw24_same m_centolaw24_units
  rw [units_ok (a := [o]) (fun x hx => by rw [List.mem_singleton.1 hx]; exact ho) (by rw [sumT_cons]; simpa [sumT] using hs) (by simp), Option.bind_some, Option.bind_some]
  have e0 : unL k 0 [o] = unO k 0 o := by rw [unL, unL, List.append_nil]
  rw [e0]
  have hlen := unO_len (k := k) (i := 0) (o := o)
  have hloop : runLoop (m_centolaw24_same_L0 l ((n : Nat) : Int) s (unO k 0 o)) 0 = some (.inr ()) := by
    refine runLoop_eq (fun x => ∃ j : Nat, j ≤ thN o ∧ x = (j : Int)) (fun x => thN o - x.toNat) ?_ _ ⟨0, Nat.zero_le _, rfl⟩
    rintro x ⟨j, hj, rfl⟩
    unfold m_centolaw24_same_L0
    by_cases hl2 : j < thN o
    · left
      refine ⟨((j + 1 : Nat) : Int), ?_, ⟨j + 1, by omega, rfl⟩, by (try simp only); omega⟩
      have hj1 : j < (unO k 0 o).length := by omega
      have hj2 : n + j < l.length := by omega
      obtain ⟨u, hu⟩ : ∃ u, (unO k 0 o)[j]? = some u := ⟨_, List.getElem?_eq_getElem hj1⟩
      obtain ⟨p, hp⟩ : ∃ p, l[n + j]? = some p := ⟨_, List.getElem?_eq_getElem hj2⟩
      have hpm := hg p (List.mem_of_getElem? hp)
      have hop : opU u = opU (sel s p) := by
        have := congrArg (fun l => l[j]?) e
        simp only [List.getElem?_map, hu, List.getElem?_take, List.getElem?_drop, hp, if_pos hl2, Option.map_some, Option.some.injEq] at this
        exact this
      have e1 : IntKind.i64.wrap (((n : Nat) : Int) + (j : Int)) = ((n + j : Nat) : Int) := by rw [i64s (by omega) (by omega)]; omega
      have e2 : IntKind.i64.wrap ((j : Int) + 1) = ((j + 1 : Nat) : Int) := by rw [i64s (by omega) (by omega)]; rfl
      rw [show decide ((j : Int) < ((unO k 0 o).length : Int)) = true from lt_t hj1, cond_true, e1, getI_of hp, Option.bind_some]
      have hsm : ∀ v, gU v → m_centoref22_Same (⟨3, (⟨0, ([] : (List Int)), ([] : (List S_api_Tree))⟩ : S_api_Tree), (⟨0, ([] : (List Int)), ([] : (List S_api_Tree))⟩ : S_api_Tree), ([] : (List S_api_WordEdit)), ([] : (List S_api_KidEdit)), 8, ([opU v] : List S_api_Op)⟩ : S_api_Edit) (⟨3, (⟨0, ([] : (List Int)), ([] : (List S_api_Tree))⟩ : S_api_Tree), (⟨0, ([] : (List Int)), ([] : (List S_api_Tree))⟩ : S_api_Tree), ([] : (List S_api_WordEdit)), ([] : (List S_api_KidEdit)), 8, ([opU v] : List S_api_Op)⟩ : S_api_Edit) = some true := fun v hv => esame_ok (gU_be hv)
      cases s with
      | true =>
        rw [cond_true, Option.bind_some, Option.bind_some, getI_of hu, Option.bind_some, opU_ok, Option.bind_some, un_eta, opU_ok, Option.bind_some, hop, show sel true p = p.Q from rfl, hsm _ hpm.2, Option.bind_some, e2]
        rfl
      | false =>
        rw [cond_false, Option.bind_some, getI_of hu, Option.bind_some, opU_ok, Option.bind_some, un_eta, opU_ok, Option.bind_some, hop, show sel false p = p.P from rfl, hsm _ hpm.1, Option.bind_some, e2]
        rfl
    · right
      rw [show decide ((j : Int) < ((unO k 0 o).length : Int)) = false from by rw [decide_eq_false_iff_not]; omega, cond_false]
  rw [hloop]
  rfl
theorem blk_same {k : Int} {x : Pc} {pre blk l : List Pr} (hB : Blk k x blk) (hl : (pre ++ (blk ++ l)).length ≤ 4294967296) (hb : blk.length ≤ 1073741824) (hg : ∀ p ∈ pre ++ (blk ++ l), gU p.P ∧ gU p.Q) :
    (x.Of ≠ 2 → m_centolaw24_same x.P k (pre ++ (blk ++ l)) ((pre.length : Nat) : Int) false = some true) ∧ (x.Of ≠ 1 → m_centolaw24_same x.Q 2 (pre ++ (blk ++ l)) ((pre.length : Nat) : Int) true = some true) := by
  have e : ((pre ++ (blk ++ l)).drop pre.length).take blk.length = blk := by rw [List.drop_left, List.take_left]
  refine ⟨fun h => ?_, fun h => ?_⟩
  · obtain ⟨h1, h2, h3⟩ := hB.fst h
    exact same24_ok h1 (by omega) hl (by simp only [List.length_append]; omega) (by rw [h2, e, h3]; rfl) hg
  · obtain ⟨h1, h2, h3⟩ := hB.snd h
    exact same24_ok h1 (by omega) hl (by simp only [List.length_append]; omega) (by rw [h2, e, h3]; rfl) hg
theorem alike_ok {k : Int} : ∀ {o : List Pc} {l : List Pr}, Mat k o l → ∀ (po : List Pc) (pl : List Pr), (pl ++ l).length ≤ 1073741824 → (po ++ o).length ≤ 1073741824 → (∀ p ∈ pl ++ l, gU p.P ∧ gU p.Q) →
    runLoop (m_centolaw24_alike_L0 (po ++ o) k (pl ++ l)) (((pl.length : Nat) : Int), ((po.length : Nat) : Int)) = some (.inr (((pl ++ l).length : Nat) : Int))
  | _, _, .nil => fun po pl hl ho hg => by
    refine runLoop_end ?_
    unfold m_centolaw24_alike_L0
    simp only
    rw [List.append_nil, List.append_nil, lt_f, cond_false]
  | _, _, .cons (x := x) (blk := blk) (o := o) (l := l) hB ht => fun po pl hl ho hg => by
    have hp := hB.pos
    have hll := hl
    have hoo := ho
    simp only [List.length_append, List.length_cons] at hll hoo
    have hx : (po ++ x :: o)[po.length]? = some x := by rw [List.getElem?_append_right (Nat.le_refl _), Nat.sub_self]; rfl
    have hlt : po.length < (po ++ x :: o).length := by simp
    obtain ⟨s1, s2⟩ := blk_same hB (by omega) (by omega) hg
    have n1 : decide ((blk.length : Int) < 1) = false := by rw [decide_eq_false_iff_not]; omega
    have e1 : IntKind.i64.wrap ((((pl ++ (blk ++ l)).length : Nat) : Int) - ((pl.length : Nat) : Int)) = (((blk.length + l.length : Nat)) : Int) := by
      rw [i64s (by simp only [List.length_append]; omega) (by simp only [List.length_append]; omega)]; simp only [List.length_append]; omega
    have n2 : decide (((blk.length + l.length : Nat) : Int) < (blk.length : Int)) = false := by rw [decide_eq_false_iff_not]; omega
    have e2 : IntKind.i64.wrap (((pl.length : Nat) : Int) + ((blk.length : Nat) : Int)) = (((pl ++ blk).length : Nat) : Int) := by rw [i64s (by omega) (by omega)]; simp only [List.length_append]; omega
    have e3 : IntKind.i64.wrap (((po.length : Nat) : Int) + 1) = (((po ++ [x]).length : Nat) : Int) := by rw [i64s (by omega) (by omega)]; simp only [List.length_append, List.length_singleton]; omega
    have hof : runLoop (m_centolaw24_alike_L1 (pl ++ (blk ++ l)) (((pl.length : Nat) : Int), ((po.length : Nat) : Int)) x ((blk.length : Nat) : Int)) 0 = some (.inr ()) := by
      refine runLoop_eq (fun y => ∃ j : Nat, j ≤ blk.length ∧ y = (j : Int)) (fun y => blk.length - y.toNat) ?_ _ ⟨0, Nat.zero_le _, rfl⟩
      rintro y ⟨j, hj, rfl⟩
      unfold m_centolaw24_alike_L1
      simp only
      by_cases hl2 : j < blk.length
      · left
        refine ⟨((j + 1 : Nat) : Int), ?_, ⟨j + 1, by omega, rfl⟩, by (try simp only); omega⟩
        have hq : (pl ++ (blk ++ l))[pl.length + j]? = some blk[j] := by
          rw [List.getElem?_append_right (by omega), Nat.add_sub_cancel_left, List.getElem?_append_left hl2, List.getElem?_eq_getElem hl2]
        have e5 : IntKind.i64.wrap (((pl.length : Nat) : Int) + (j : Int)) = ((pl.length + j : Nat) : Int) := by rw [i64s (by omega) (by omega)]; omega
        rw [lt_t hl2, cond_true, e5, getI_of hq, Option.bind_some, hB.of_ _ (List.getElem_mem hl2), bne_self_eq_false, cond_false, i64s (by omega) (by omega)]
        rfl
      · right
        rw [show decide ((j : Int) < ((blk.length : Nat) : Int)) = false from by rw [decide_eq_false_iff_not]; omega, cond_false]
    have hstep : m_centolaw24_alike_L0 (po ++ x :: o) k (pl ++ (blk ++ l)) (((pl.length : Nat) : Int), ((po.length : Nat) : Int)) = some (.inl ((((pl ++ blk).length : Nat) : Int), (((po ++ [x]).length : Nat) : Int))) := by
      unfold m_centolaw24_alike_L0
      simp only
      rw [lt_t hlt, cond_true, getI_of hx, Option.bind_some]
      rcases hB.k3 with h0 | h0 | h0
      · obtain ⟨f1, f2, _⟩ := hB.fst (by omega)
        obtain ⟨g1, g2, _⟩ := hB.snd (by omega)
        rw [lkids_ok f1 (by omega), Option.bind_some, f2, show (x.Of == 2) = false from by rw [h0]; rfl, cond_false, Option.bind_some, n1, cond_false, e1, n2, cond_false, show (x.Of == 0) = true from by rw [h0]; rfl, cond_true, lkids_ok g1 (by omega), Option.bind_some, g2, bne_self_eq_false]
        simp only [cond_true, cond_false, Option.bind_some]
        rw [hof, Option.bind_some]
        simp only
        rw [show (x.Of != 2) = true from by rw [h0]; rfl, show (x.Of != 1) = true from by rw [h0]; rfl, cond_true, s1 (by omega), Option.bind_some, cond_true, cond_true, s2 (by omega), Option.bind_some, Option.bind_some, e2, e3]
        rfl
      · obtain ⟨f1, f2, _⟩ := hB.fst (by omega)
        rw [lkids_ok f1 (by omega), Option.bind_some, f2, show (x.Of == 2) = false from by rw [h0]; rfl, cond_false, Option.bind_some, n1, cond_false, e1, n2, cond_false, show (x.Of == 0) = false from by rw [h0]; rfl]
        simp only [cond_true, cond_false, Option.bind_some]
        rw [hof, Option.bind_some]
        simp only
        rw [show (x.Of != 2) = true from by rw [h0]; rfl, show (x.Of != 1) = false from by rw [h0]; rfl, cond_true, s1 (by omega), Option.bind_some, cond_true, cond_false, Option.bind_some, e2, e3]
        rfl
      · obtain ⟨g1, g2, _⟩ := hB.snd (by omega)
        rw [hB.zero h0, show m_centolaw24_kids (⟨0, 0, [], eS0⟩ : EO) = some 0 from rfl, Option.bind_some, show (x.Of == 2) = true from by rw [h0]; rfl, cond_true, lkids_ok g1 (by omega), Option.bind_some, Option.bind_some, g2, n1, cond_false, e1, n2, cond_false, show (x.Of == 0) = false from by rw [h0]; rfl]
        simp only [cond_true, cond_false, Option.bind_some]
        rw [hof, Option.bind_some]
        simp only
        rw [show (x.Of != 2) = false from by rw [h0]; rfl, show (x.Of != 1) = true from by rw [h0]; rfl, cond_false, cond_true, s2 (by omega), Option.bind_some, Option.bind_some, e2, e3]
        rfl
    rw [runLoop_step hstep]
    have ea : po ++ x :: o = (po ++ [x]) ++ o := by simp
    have eb : pl ++ (blk ++ l) = (pl ++ blk) ++ l := by simp
    rw [ea, eb]
    exact alike_ok ht (po ++ [x]) (pl ++ blk) (by rw [← eb]; exact hl) (by rw [← ea]; exact ho) (by rw [← eb]; exact hg)
theorem mat_len {k : Int} : ∀ {o : List Pc} {l : List Pr}, Mat k o l → o.length ≤ l.length ∧ ∀ p ∈ l, gU p.P ∧ gU p.Q
  | _, _, .nil => ⟨Nat.le_refl _, fun p hp => by cases hp⟩
  | _, _, .cons (blk := blk) hB ht => by
    obtain ⟨h1, h2⟩ := mat_len ht
    have := hB.pos
    refine ⟨by simp only [List.length_cons, List.length_append]; omega, fun p hp => ?_⟩
    rcases List.mem_append.1 hp with hp | hp
    · exact hB.gd p hp
    · exact h2 p hp
theorem prs_len : ∀ (m : Nat) (p q : List Un) (l : List Pr), p.length + q.length ≤ m → prs p q = some l → l.length ≤ m
  | 0, p, q, l, hm, h => by
    obtain rfl : p = [] := List.eq_nil_of_length_eq_zero (by omega)
    obtain rfl : q = [] := List.eq_nil_of_length_eq_zero (by omega)
    rw [prs_e] at h
    injection h with h
    subst h
    simp
  | m + 1, p, q, l, hm, h => by
    cases p with
    | nil =>
      cases q with
      | nil => rw [prs_e] at h; injection h with h; subst h; simp
      | cons v q =>
        cases hv : v.Alone with
        | false => rw [prs_n2 hv] at h; cases h
        | true =>
          rw [prs_2 (fun u p' e => by cases e) hv] at h
          obtain ⟨l', h1, rfl⟩ := Option.map_eq_some_iff.1 h
          have := prs_len m [] q l' (by simp only [List.length_cons, List.length_nil] at hm ⊢; omega) h1
          simp only [List.length_cons]; omega
    | cons u p =>
      cases hu : u.Alone with
      | true =>
        rw [prs_1 hu] at h
        obtain ⟨l', h1, rfl⟩ := Option.map_eq_some_iff.1 h
        have := prs_len m p q l' (by simp only [List.length_cons] at hm ⊢; omega) h1
        simp only [List.length_cons]; omega
      | false =>
        cases q with
        | nil => rw [prs_n1 hu] at h; cases h
        | cons v q =>
          cases hv : v.Alone with
          | true =>
            rw [prs_2 (fun u' p' e => by injection e with e _; rw [← e]; exact hu) hv] at h
            obtain ⟨l', h1, rfl⟩ := Option.map_eq_some_iff.1 h
            have := prs_len m (u :: p) q l' (by simp only [List.length_cons] at hm ⊢; omega) h1
            simp only [List.length_cons]; omega
          | false =>
            rw [prs_0 hu hv] at h
            obtain ⟨l', h1, rfl⟩ := Option.map_eq_some_iff.1 h
            have := prs_len m p q l' (by simp only [List.length_cons] at hm ⊢; omega) h1
            simp only [List.length_cons]; omega
theorem steps_ok2 {a : List EO} (h : BL a) : ∃ b, m_centolaw24_steps a = some b ∧ (b = true → CX a 0 ∧ a.length ≤ 1048576 ∧ sumT a ≤ 2097152) := by
  obtain ⟨b1, p1, q1⟩ := good20 (h.be 8)
  obtain ⟨b2, p2, q2⟩ := good20 (h.be 4)
  have f : ∀ l : Int, rE ⟨3, n0T, n0T, [], [], l, a⟩ 64 = true ∧ ce ⟨3, n0T, n0T, [], [], l, a⟩ ≤ 3000 → CX a 0 ∧ a.length ≤ 1048576 ∧ sumT a ≤ 2097152 := fun l hr => by
    have hg := gn_rE _ _ 64 (Nat.lt_succ_self _) (h.be l) (by omega) hr.1
    have hc : CI a 0 := ci_of hg
    have hr1 := hr.1
    have hlens := (rE_lens (h.be l) hr.1)
    rw [rE_eq, if_neg (by decide), if_neg (by simp), if_neg (by simp), if_neg (by simp), if_pos rfl] at hr1
    simp only [Bool.and_eq_true, List.all_eq_true] at hr1
    have hx : ∀ o ∈ a, opx o := fun o ho => by
      have h1 := hr1.2.2.1 o ho
      unfold okO at h1
      by_cases h0 : o.Kind = 0
      · rw [if_pos h0] at h1
        simp only [Bool.and_eq_true, decide_eq_true_eq, beq_iff_eq] at h1
        exact .inl ⟨h0, h1.1.1, List.eq_nil_of_length_eq_zero h1.2.1⟩
      rw [if_neg h0] at h1
      by_cases h12 : o.Kind = 1 ∨ o.Kind = 2
      · rw [if_pos h12] at h1
        simp only [Bool.and_eq_true, decide_eq_true_eq, beq_iff_eq] at h1
        exact .inr (.inl ⟨h12, h1.1, fun he => by rw [he] at h1; simp at h1⟩)
      rw [if_neg h12] at h1
      by_cases h3 : o.Kind = 3
      · rw [if_pos h3] at h1
        simp only [Bool.and_eq_true, beq_iff_eq] at h1
        exact .inr (.inr ⟨h3, h1.1, List.eq_nil_of_length_eq_zero h1.2.1⟩)
      · rw [if_neg h3] at h1; cases h1
    refine ⟨⟨hc, hx, h.2⟩, hg.o, ?_⟩
    have h0 : Sm (0, 0) := by unfold Sm; simp
    have hB := hr1.2.2.2
    have hl : ∀ o ∈ a, o.L.length * 56 ≤ 140737488355328 := fun o ho => (h.2 o ho).1.1
    rw [hlens] at hB
    have := sum_lens (fun o => rE o.E (64 - 1)) a (0, 0) h0 hr1.2.2.1 hl hB
    unfold lensB at hB
    rw [Bool.and_eq_true, decide_eq_true_eq, decide_eq_true_eq] at hB
    simp only at this hB
    omega
  unfold m_centolaw24_steps
  unfold n0T at p1 p2
  rw [p1, Option.bind_some]
  cases b1 with
  | true => exact ⟨true, rfl, fun _ => f 8 (q1 rfl)⟩
  | false =>
    rw [cond_false, p2, Option.bind_some]
    exact ⟨b2, by cases b2 <;> rfl, fun hh => f 4 (q2 hh)⟩
theorem align_law {k : Int} (hk : k = 1 ∨ k = 2) {a b : List EO} (ha : CX a 0) (hb : CX b 0) (la : a.length ≤ 1048576) (lb : b.length ≤ 1048576) (sa : sumT a ≤ 2097152) (sb : sumT b ≤ 2097152) :
    ∃ o ok l is, m_align_pieces a b k 2 = some (o, ok) ∧ m_centoref24_Units a k = some (unL k 0 a) ∧ m_centoref24_Units b 2 = some (unL 2 0 b) ∧ m_centoref24_Pairs (unL k 0 a) (unL 2 0 b) = some (l, is) ∧ ok = is ∧ (ok = false → o = []) ∧ m_centolaw24_alike o k l = some true := by
  have m1 := mu_le a 0
  have m2 := mu_le b 0
  obtain ⟨o, ok, q1, q2⟩ := pieces_sim hk (a.length + b.length) a 0 0 b 0 0 [] (by omega) ha hb (by simp only [List.length_nil]; omega)
  have l1 := unL_len (k := k) a 0
  have l2 := unL_len (k := 2) b 0
  have hp := pairs_ok (p := unL k 0 a) (q := unL 2 0 b) (by omega)
  have hq : m_align_pieces a b k 2 = some (o, ok) := by
    unfold m_align_pieces
    rw [show (((0 : Nat) : Int)) = 0 from rfl] at q1
    rw [q1]
    rfl
  rw [List.drop_zero, List.drop_zero] at q2
  rcases q2 with ⟨p1, p2, p3⟩ | ⟨l, o', p1, p2, p3, p4⟩
  · rw [p1] at hp
    refine ⟨o, ok, [], false, hq, units_ok ha.p (by omega) la, units_ok hb.p (by omega) lb, hp, p2, fun _ => p3, ?_⟩
    rw [p3]
    unfold m_centolaw24_alike
    have := alike_ok (k := k) Mat.nil [] [] (by simp) (by simp) (by simp)
    rw [List.nil_append, List.nil_append] at this
    rw [show ((([] : List Pr).length : Nat) : Int) = 0 from rfl, show ((([] : List Pc).length : Nat) : Int) = 0 from rfl] at this
    rw [this]
    rfl
  · rw [p1] at hp
    rw [List.nil_append] at p3
    subst p3
    have hL := prs_len _ _ _ l (Nat.le_refl _) p1
    obtain ⟨d1, d2⟩ := mat_len p4
    refine ⟨o, ok, l, true, hq, units_ok ha.p (by omega) la, units_ok hb.p (by omega) lb, hp, p2, fun h => (by rw [p2] at h; cases h), ?_⟩
    unfold m_centolaw24_alike
    have := alike_ok p4 [] [] (by rw [List.nil_append]; omega) (by rw [List.nil_append]; omega) (by rw [List.nil_append]; exact d2)
    rw [List.nil_append, List.nil_append] at this
    rw [show ((([] : List Pr).length : Nat) : Int) = 0 from rfl, show ((([] : List Pc).length : Nat) : Int) = 0 from rfl] at this
    rw [this, Option.bind_some]
    simp only
    rw [beq_self_eq_true]
theorem alignThrough_p {a b : List EO} (ha : BL a) (hb : BL b) : m_centolaw24_AlignThrough a b = some true := by
  obtain ⟨s, h1, h2⟩ := steps_ok2 ha
  obtain ⟨t, h3, h4⟩ := steps_ok2 hb
  unfold m_centolaw24_AlignThrough
  rw [h1, Option.bind_some]
  cases s with
  | false => rw [cond_false, Option.bind_some, cond_true, awake24]; rfl
  | true =>
    rw [cond_true, h3, Option.bind_some]
    cases t with
    | false => rw [Option.bind_some, awake24]; rfl
    | true =>
      obtain ⟨c1, l1, s1⟩ := h2 rfl
      obtain ⟨c2, l2, s2⟩ := h4 rfl
      obtain ⟨o, ok, l, is, q1, q2, q3, q4, q5, q6, q7⟩ := align_law (k := 2) (.inr rfl) c1 c2 l1 l2 s1 s2
      have hq : m_align_Through a b = some (o, ok) := by unfold m_align_Through; rw [q1]; rfl
      rw [Option.bind_some, hq, awake24]
      simp only [Bool.not_true, cond_true, cond_false, Option.bind_some]
      rw [q2, q3, Option.bind_some, Option.bind_some, q4, Option.bind_some]
      subst q5
      simp only [beq_self_eq_true, cond_true]
      rw [q7]
      cases ok with
      | true => rfl
      | false => rw [q6 rfl]; rfl
end Go.Proofs.Ytbcgiaijjaocdaa
