/- Plain facts on this seat's mirrors (part LPb); each theorem bears its own conditions. -/
import Derived.Test.YtkdanjfmobibbaaLPa
import Derived.IntWalk
namespace Go.Proofs.Ytkdanjfmobibbaa
open Go.RowKit
set_option linter.unusedVariables false
set_option linter.unusedSimpArgs false
/-- what is laid of a kind -/
def layF (s : List Stp × A3) (x : Int) : List Stp × A3 := (if 0 < at3 s.2 x then s.1 ++ [⟨x, at3 s.2 x⟩] else s.1, s.2.put x 0)
theorem layF_len (s : List Stp × A3) (x : Int) : (layF s x).1.length ≤ s.1.length + 1 := by
  unfold layF
  simp only
  split
  · rw [List.length_append, List.length_cons, List.length_nil]; omega
  · omega
theorem lay_ok (ks : List Int) (hk : ∀ k ∈ ks, 0 ≤ k ∧ k ≤ 2) (hl : ks.length ≤ 3) (g : A3) (out : List Stp) (ho : out.length ≤ 990) :
    m_script_Normal_1 ks g out = some ((ks.foldl layF (out, g)).2, (ks.foldl layF (out, g)).1) := by
  unfold m_script_Normal_1
  have := (loop_mk ks (fun i (s : List Stp × A3) => (i, s)) layF id (fun s k => s.1.length ≤ 990 + k) (m_script_Normal_1_L0 ks) (fun i s x hi hx hI => by
    have hxx := hk x (List.mem_of_getElem? hx)
    refine ⟨?_, by have := layF_len s x; omega⟩
    unfold m_script_Normal_1_L0
    rw [show decide ((i : Int) < (ks.length : Int)) = true from decide_eq_true (by omega), getI_of hx, w64 (by omega) (by omega)]
    simp only [cond_true, Option.bind_some, at3_get s.2 hxx]
    unfold layF
    by_cases h : 0 < at3 s.2 x
    · rw [decide_eq_true h, if_pos h, cond_true, app1 (k := 993) (by omega) (by omega)]
      rfl
    · rw [decide_eq_false h, if_neg h]
      rfl) (fun s _ => by
    unfold m_script_Normal_1_L0
    rw [show decide ((ks.length : Int) < (ks.length : Int)) = false from decide_eq_false (by omega)]
    rfl) (out, g) (by simpa using ho)).1
  rw [this]
  rfl
/-- a step is taken -/
def stepP (s : A3 × List Stp) (x : Stp) : A3 × List Stp :=
  if rgt x = true then
    let q := if x.Kind = 0 then [1, 2].foldl layF (s.2, s.1) else [0].foldl layF (s.2, s.1)
    (q.2.put x.Kind (IntKind.i64.wrap (at3 q.2 x.Kind + x.N)), q.1)
  else s
def normP (l : List Stp) : List Stp := ([0, 1, 2].foldl layF ((l.foldl stepP (a3 0 0 0, [])).2, (l.foldl stepP (a3 0 0 0, [])).1)).1
theorem foldl_lay_len : ∀ (ks : List Int) (s : List Stp × A3), (ks.foldl layF s).1.length ≤ s.1.length + ks.length
  | [], s => by simp
  | k :: ks, s => by
    rw [List.foldl_cons, List.length_cons]
    have := foldl_lay_len ks (layF s k)
    have := layF_len s k
    omega
theorem stepP_len (s : A3 × List Stp) (x : Stp) : (stepP s x).2.length ≤ s.2.length + 2 := by
  unfold stepP
  split
  · simp only
    split
    · exact foldl_lay_len [1, 2] _
    · have := foldl_lay_len [0] (s.2, s.1)
      simp only [List.length_cons, List.length_nil] at this
      omega
  · omega
theorem norm_ok17 (l : List Stp) (hl : l.length ≤ 400) : m_script_Normal l = some (normP l) ∧ (normP l).length ≤ 990 := by
  have := loop_mk l (fun i (s : A3 × List Stp) => (i, s)) stepP id (fun s k => s.2.length ≤ 2 * k) (m_script_Normal_L0 l) (fun i s x hi hx hI => by
    refine ⟨?_, by have := stepP_len s x; omega⟩
    unfold m_script_Normal_L0
    rw [show decide ((i : Int) < (l.length : Int)) = true from decide_eq_true (by omega), getI_of hx, w64 (x := (i : Int) + 1) (by omega) (by omega)]
    simp only [cond_true, Option.bind_some, may_ok]
    rw [lay_ok [1, 2] (by decide) (by decide) _ _ (by omega), lay_ok [0] (by decide) (by decide) _ _ (by omega)]
    unfold stepP
    cases hr : rgt x with
    | false => rfl
    | true =>
      obtain ⟨h0, h1, h2, h3⟩ := rgt_iff.1 hr
      simp only [Bool.not_true, cond_false, if_true, Option.bind_some]
      by_cases hk : x.Kind = 0
      · rw [show (x.Kind == 0) = true from by rw [hk]; rfl, if_pos hk]
        simp only [cond_true, Option.bind_some]
        rw [at3_get _ ⟨h0, h1⟩]
        rfl
      · rw [show (x.Kind == 0) = false from by simpa using hk, if_neg hk]
        simp only [cond_false, Option.bind_some]
        rw [at3_get _ ⟨h0, h1⟩]
        rfl) (fun s _ => by
    unfold m_script_Normal_L0
    rw [show decide ((l.length : Int) < (l.length : Int)) = false from decide_eq_false (by omega)]
    rfl) (a3 0 0 0, []) (Nat.zero_le _)
  have hlen : (l.foldl stepP (a3 0 0 0, [])).2.length ≤ 2 * l.length := this.2
  refine ⟨?_, ?_⟩
  · unfold m_script_Normal
    simp only [Option.bind_some]
    refine (congrArg (fun z => Option.bind z _) this.1).trans ?_
    simp only [Option.bind_some, id]
    rw [lay_ok [0, 1, 2] (by decide) (by decide) _ _ (by omega)]
    rfl
  · unfold normP
    have := foldl_lay_len [0, 1, 2] ((l.foldl stepP (a3 0 0 0, [])).2, (l.foldl stepP (a3 0 0 0, [])).1)
    simp only [List.length_cons, List.length_nil] at this
    omega
theorem normP_filter (l : List Stp) : normP (l.filter rgt) = normP l := by
  unfold normP
  have : ∀ (l : List Stp) (s : A3 × List Stp), (l.filter rgt).foldl stepP s = l.foldl stepP s := fun l => by
    induction l with
    | nil => intro s; rfl
    | cons x l ih =>
      intro s
      rw [List.foldl_cons]
      cases hr : rgt x with
      | false =>
        rw [List.filter_cons_of_neg (by rw [hr]; decide), ih]
        congr 1
        unfold stepP
        rw [hr]; rfl
      | true =>
        rw [List.filter_cons_of_pos hr, List.foldl_cons, ih]
  rw [this]
/-- a step is put behind others -/
def putR (l : List Stp) (s : Stp) : List Stp :=
  if s.N = 0 then l else match l.getLast? with
    | some t => if t.Kind = s.Kind then l.dropLast ++ [⟨t.Kind, IntKind.i64.wrap (t.N + s.N)⟩] else l ++ [s]
    | none => [s]
theorem last_at {l : List Stp} (h : l ≠ []) : ∃ t, l.getLast? = some t ∧ l = l.dropLast ++ [t] ∧ l[l.length - 1]? = some t := by
  refine ⟨l.getLast h, List.getLast?_eq_some_getLast h, (List.dropLast_concat_getLast h).symm, ?_⟩
  rw [List.getLast_eq_getElem, List.getElem?_eq_getElem]
theorem put_ok17 (l : List Stp) (s : Stp) (hl : l.length ≤ 990) : m_centoref17_put l s = some (putR l s) := by
  unfold m_centoref17_put putR
  by_cases h0 : s.N = 0
  · rw [show (s.N == 0) = true from by rw [h0]; rfl, if_pos h0]; rfl
  rw [show (s.N == 0) = false from by simpa using h0, if_neg h0]
  by_cases hn : l = []
  · subst hn
    have := app1 (l := []) (x := s) (k := 0) (Nat.le_refl _) (by omega)
    simp only [List.length_nil, cond_false, List.getLast?_nil, show decide ((0 : Int) < ((0 : Nat) : Int)) = false from rfl, Option.bind_some, this]
    rfl
  obtain ⟨t, e1, e2, e3⟩ := last_at hn
  have hpos : 0 < l.length := List.length_pos_iff.2 hn
  rw [show decide ((0 : Int) < (l.length : Int)) = true from decide_eq_true (by omega), e1]
  have hw : IntKind.i64.wrap ((l.length : Int) - 1) = ((l.length - 1 : Nat) : Int) := by rw [w64 (by omega) (by omega)]; omega
  rw [hw, getI_of e3]
  simp only [cond_true, cond_false, Option.bind_some]
  by_cases hk : t.Kind = s.Kind
  · rw [show (t.Kind == s.Kind) = true from by rw [hk]; exact beq_self_eq_true _, if_pos hk]
    rw [appI_ok (b := 16) (xs := []) (ys := l) (by rw [List.length_nil]; omega) (by rw [List.length_nil]; omega), List.nil_append]
    simp only [cond_true, Option.bind_some, getI_of e3]
    unfold setI
    rw [Int.toNat_natCast]
    congr 1
    have hd : l.dropLast.length = l.length - 1 := List.length_dropLast
    conv => lhs; rw [e2]
    rw [List.set_append_right _ _ (by rw [List.length_append, List.length_cons, List.length_nil, hd]; omega)]
    rw [List.length_append, List.length_cons, List.length_nil, hd, show l.length - 1 + (0 + 1) - 1 - (l.length - 1) = 0 by omega]
    rfl
  · rw [show (t.Kind == s.Kind) = false from by simpa using hk, if_neg hk]
    simp only [cond_false]
    rw [app1 hl (by omega)]
    rfl
theorem putR_len (l : List Stp) (s : Stp) : (putR l s).length ≤ l.length + 1 := by
  unfold putR
  split
  · omega
  · split
    · split
      · rw [List.length_append, List.length_dropLast, List.length_cons, List.length_nil]; omega
      · rw [List.length_append]; simp
    · simp
/-- the reference's round -/
def stepR (s : Int × Int × List Stp) (x : Option Stp) : Int × Int × List Stp :=
  match x with
  | some x => if rgt x = true then
      (if x.Kind = 1 then (IntKind.i64.wrap (s.1 + x.N), s.2.1, s.2.2)
       else if x.Kind = 2 then (s.1, IntKind.i64.wrap (s.2.1 + x.N), s.2.2)
       else (0, 0, putR (putR (putR s.2.2 ⟨1, s.1⟩) ⟨2, s.2.1⟩) x))
    else s
  | none => (0, 0, putR (putR s.2.2 ⟨1, s.1⟩) ⟨2, s.2.1⟩)
def normR (l : List Stp) : List Stp := ((l.map some ++ [none]).foldl stepR (0, 0, [])).2.2
theorem stepR_len (s : Int × Int × List Stp) (x : Option Stp) : (stepR s x).2.2.length ≤ s.2.2.length + 3 := by
  unfold stepR
  have h1 := putR_len s.2.2 ⟨1, s.1⟩
  have h2 := putR_len (putR s.2.2 ⟨1, s.1⟩) ⟨2, s.2.1⟩
  cases x with
  | none => simp only; omega
  | some x =>
    have h3 := putR_len (putR (putR s.2.2 ⟨1, s.1⟩) ⟨2, s.2.1⟩) x
    simp only
    repeat' split
    all_goals (first | omega | (simp only; omega))
theorem rnorm_ok17 (l : List Stp) (hl : l.length ≤ 300) : m_centoref17_Normal l = some (normR l) := by
  have hlen : (l.map some ++ [none]).length = l.length + 1 := by rw [List.length_append, List.length_map]; rfl
  have := (loop_mk (l.map some ++ [none]) (fun i (s : Int × Int × List Stp) => (s.1, s.2.1, i, s.2.2)) stepR (fun s => s.2.2) (fun s k => s.2.2.length ≤ 3 * k) (m_centoref17_Normal_L0 l) (fun i s x hi hx hI => by
    rw [hlen] at hi
    refine ⟨?_, by have := stepR_len s x; omega⟩
    have p1 := putR_len s.2.2 ⟨1, s.1⟩
    have p2 := putR_len (putR s.2.2 ⟨1, s.1⟩) ⟨2, s.2.1⟩
    unfold m_centoref17_Normal_L0
    simp only
    rw [show decide ((i : Int) ≤ (l.length : Int)) = true from decide_eq_true (by omega), w64 (x := (i : Int) + 1) (by omega) (by omega)]
    rw [put_ok17 _ _ (by omega), Option.bind_some, put_ok17 _ _ (by omega), Option.bind_some]
    by_cases hi' : i < l.length
    · rw [List.getElem?_append_left (by rw [List.length_map]; exact hi'), List.getElem?_map] at hx
      obtain ⟨y, hy, rfl⟩ := Option.map_eq_some_iff.1 hx
      rw [show decide ((i : Int) < (l.length : Int)) = true from decide_eq_true (by omega), getI_of hy]
      simp only [cond_true, Option.bind_some, rright_ok]
      unfold stepR
      simp only
      cases hr : rgt y with
      | false => rfl
      | true =>
        obtain ⟨h0, h1, h2, h3⟩ := rgt_iff.1 hr
        rcases k3 ⟨h0, h1⟩ with hk | hk | hk
        · simp only [hk, Bool.not_true, cond_false, show ((0 : Int) == 1) = false from rfl, show ((0 : Int) == 2) = false from rfl, if_true, Option.bind_some]
          rw [put_ok17 _ _ (by omega), Option.bind_some]
          rfl
        · simp only [hk, Bool.not_true, cond_false, cond_true, show ((1 : Int) == 1) = true from rfl, if_true, Option.bind_some]
          rfl
        · simp only [hk, Bool.not_true, cond_false, cond_true, show ((2 : Int) == 1) = false from rfl, show ((2 : Int) == 2) = true from rfl, if_true, Option.bind_some]
          rfl
    · have e : i = l.length := by omega
      subst e
      rw [List.getElem?_append_right (by rw [List.length_map]; exact Nat.le_refl _), List.length_map, Nat.sub_self] at hx
      simp only [List.getElem?_cons_zero, Option.some.injEq] at hx
      subst hx
      rw [show decide ((l.length : Int) < (l.length : Int)) = false from decide_eq_false (by omega)]
      rfl) (fun s _ => by
    unfold m_centoref17_Normal_L0
    rw [hlen]
    simp only
    rw [show decide (((l.length + 1 : Nat) : Int) ≤ (l.length : Int)) = false from decide_eq_false (by omega)]
    rfl) (0, 0, []) (Nat.zero_le _)).1
  unfold m_centoref17_Normal
  refine (congrArg (fun z => Option.bind z _) this).trans ?_
  rfl

end Go.Proofs.Ytkdanjfmobibbaa
