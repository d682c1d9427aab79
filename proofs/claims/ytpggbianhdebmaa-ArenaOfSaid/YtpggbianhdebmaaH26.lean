/- Part H26 of the ghost memory: lemmas and contracts used by the proofs of this seat's laws; each theorem bears its own conditions. -/
import Derived.Test.YtpggbianhdebmaaH25
import Derived.WalkKit
import Derived.WalkSpells
import Derived.WalkLawsBesides
import Derived.Lib.Hide
import Derived.BigQuiet
import Derived.StillTailTactics
import Derived.Deep.RegionHeld3
import Derived.Deep.AppendLies
import Derived.Laws.CopyOwn
import Derived.Deep.DeepCutAuto
import Derived.Deep.QuietTactic
import Derived.Maps.AppendAt
import Derived.Great.BuildSlice
import Derived.Laws.StructEq
import Derived.ChangeKeysEq
import Derived.IntWalk
import Derived.Lib.AppendZeros
import Derived.Lib.AppendZerosOnto
import Derived.ProofKit
import Derived.OpenShut
import Derived.SizedLaws
import Derived.Deep.Slices
namespace Go.Proofs.Ytpggbianhdebmaa
open Go.RowKit
set_option linter.unusedVariables false
set_option linter.unusedSimpArgs false
/-- two variables that one was lent -/
theorem upd_at2 {X : Objs} {i j : Nat} {a b c : Option GObj} (h : i ≠ j) : ((X.upd i a).upd j b).upd i c = (X.upd i c).upd j b := by
  funext k
  unfold Objs.upd
  by_cases h1 : k = j
  · subst h1; simp [Ne.symm h]
  · simp [h1]; split <;> rfl
theorem upd_rd {X : Objs} {i j : Nat} (h : i ≠ j) (b : Option GObj) : (X.upd j b) i = X i := upd_ne _ _ h
theorem fit2_ne {i j : Nat} (h : i ≠ j) : (i = j) = False := eq_false h
section
variable {P : Program} {T : Tab} {O O' X X' : Objs} {n n' k ba : Nat} {E E' : Env} {ρ : Nat → Nat}
theorem OutLe.upd2 (hX : OutLe O O' n' X X' n) {i : Nat} {q q' : GObj} (h1 : sameO q q') (h2 : wkl O O' n' q.cells q'.cells) : OutLe O O' n' (X.upd i (some q)) (X'.upd i (some q')) n := fun j p' hj h => by
  by_cases e : j = i
  · subst e
    rw [upd_same] at h
    injection h with h
    subst h
    exact ⟨q, upd_same _ _ _, h1, h2⟩
  · rw [upd_ne _ _ e] at h
    obtain ⟨p, g1, g2⟩ := hX j p' hj h
    exact ⟨p, by rw [upd_ne _ _ e]; exact g1, g2⟩
theorem fit_loco2 {i j : Nat} {q q' p p' : GObj} {l l' : List (Option GObj)} (hU : Und X n) (hk : l'.length = k) (hn : E'.n = E.n)
    (h : sameO q q' ∧ wkl (Loc ((X.upd i (some q)).upd j (some p)) n l) (Loc ((X.upd i (some q')).upd j (some p')) n l') (n + k) q.cells q'.cells ∧ sameO p p' ∧ wkl (Loc ((X.upd i (some q)).upd j (some p)) n l) (Loc ((X.upd i (some q')).upd j (some p')) n l') (n + k) p.cells p'.cells ∧ fitO (Loc ((X.upd i (some q)).upd j (some p)) n l) (Loc ((X.upd i (some q')).upd j (some p')) n l') (n + k) l l' ∧ fitL (Loc ((X.upd i (some q)).upd j (some p)) n l) (Loc ((X.upd i (some q')).upd j (some p')) n l') (n + k) E.l E'.l) :
    Fit E (Loc ((X.upd i (some q)).upd j (some p)) n l) E' (Loc ((X.upd i (some q')).upd j (some p')) n l') (n + k) :=
  ⟨hn, less_loc hk (OutLe.upd2 (OutLe.upd hU (Nat.le_add_right _ _) h.1 h.2.1) h.2.2.1 h.2.2.2.1) h.2.2.2.2.1, h.2.2.2.2.2⟩
theorem ren_fito2 {l l' : List (Option GObj)} {k k' i j : Nat} {q q' p p' : GObj} (hU : Und X ba) (pi ta : List Nat) (hk : l.length = k) (hk' : l'.length = k') (hp : pi.length = k) (hc : renC pi ta (l'.map Option.isSome) = true)
    (hn : E'.n = E.n ∧ E'.keep = E.keep) (h : renO1 (rho ba pi) q q' ∧ renO1 (rho ba pi) p p' ∧ renO (rho ba pi) l l' ta ∧ renL (rho ba pi) E.l = E'.l) : Fit2 ba E (Loc ((X.upd i (some q)).upd j (some p)) ba l) (ba + k) E' (Loc ((X.upd i (some q')).upd j (some p')) ba l') (ba + k') :=
  ren_fitX pi ta (((OutRen.refl hU).upd h.1).upd h.2.1) hk hk' hp hc hn h.2.2
theorem fin_locV2 {r : G} {rs : List ResultVar} {i j n1 n3 : Nat} {q1 q' p1 p' : GObj} {L2 L3 : List (Option GObj)} {e : Exit} {E2 : Env} {O1 : Objs} (he : e = .normal ∨ e = .ret) (hU : Und X n) (hk : L2.length = k) (gs : List G)
    (hF : Fit2 n E O1 n1 E2 (Loc ((X.upd i (some q1)).upd j (some p1)) n L3) n3)
    (h : gres T (Loc ((X.upd i (some q1)).upd j (some p1)) n L3) E2 rs = some gs ∧ sameO q1 q' ∧ wkl (Loc ((X.upd i (some q1)).upd j (some p1)) n L3) (Loc ((X.upd i (some q')).upd j (some p')) n L2) (n + k) q1.cells q'.cells ∧ sameO p1 p' ∧ wkl (Loc ((X.upd i (some q1)).upd j (some p1)) n L3) (Loc ((X.upd i (some q')).upd j (some p')) n L2) (n + k) p1.cells p'.cells ∧ fitO (Loc ((X.upd i (some q1)).upd j (some p1)) n L3) (Loc ((X.upd i (some q')).upd j (some p')) n L2) (n + k) L3 L2 ∧ wk (Loc ((X.upd i (some q1)).upd j (some p1)) n L3) (Loc ((X.upd i (some q')).upd j (some p')) n L2) (n + k) (gone gs) r) :
    Fin T rs r n (Loc ((X.upd i (some q')).upd j (some p')) n L2) (n + k) e E O1 n1 :=
  ⟨he, E2, _, n3, gs, hF, h.1, less_loc hk (OutLe.upd2 (OutLe.upd hU (Nat.le_add_right _ _) h.2.1 h.2.2.1) h.2.2.2.1 h.2.2.2.2.1) h.2.2.2.2.2.1, h.2.2.2.2.2.2⟩
end
section
variable {α ρ : Type} {N s o k : Nat} {T : Tab} {t : TypeId} {ti : TyI} {A B C D cs : List G} {g : G}
/-- a part of a variable whose cells lie in pieces -/
theorem gpart_mid (hA : A.length = o) (h : gpart T t B k = some g) : gpart T t (A ++ (B ++ C)) (o + k) = some g := by
  subst hA
  unfold gpart at h ⊢
  cases hi : T t with
  | none => simp [hi] at h
  | some i =>
    simp only [hi] at h ⊢
    by_cases hk : i.k.isAgg = true
    · rw [if_pos hk] at h ⊢
      by_cases hl : k + i.size ≤ B.length
      · rw [if_pos hl] at h
        rw [if_pos (by rw [List.length_append, List.length_append]; omega), List.drop_append, List.drop_eq_nil_of_le (Nat.le_add_right _ _), List.nil_append, Nat.add_sub_cancel_left, List.drop_append_of_le_length (by omega), List.take_append_of_le_length (by rw [List.length_drop]; omega)]
        exact h
      · rw [if_neg hl] at h; cases h
    · rw [if_neg hk] at h ⊢
      have hl : k < B.length := (List.getElem?_eq_some_iff.1 h).1
      rw [List.getElem?_append_right (Nat.le_add_right _ _), Nat.add_sub_cancel_left, List.getElem?_append_left hl]
      exact h
theorem gplace_mid (hA : A.length = o) (h : gplace B cs k = some D) : gplace (A ++ (B ++ C)) cs (o + k) = some (A ++ (D ++ C)) := by
  subst hA
  unfold gplace at h ⊢
  by_cases hl : k + cs.length ≤ B.length
  · rw [if_pos hl] at h
    injection h with h
    rw [if_pos (by rw [List.length_append, List.length_append]; omega), ← h]
    rw [List.take_append, List.take_of_length_le (Nat.le_add_right _ _), Nat.add_sub_cancel_left, List.take_append_of_le_length (by omega), Nat.add_assoc, List.drop_append, List.drop_eq_nil_of_le (Nat.le_add_right _ _), List.nil_append, Nat.add_sub_cancel_left, List.drop_append_of_le_length hl]
    simp only [List.append_assoc]
  · rw [if_neg hl] at h; cases h
theorem gpart_all (ht : T t = some ti) (hk : ti.k.isAgg = true) (hl : B.length = ti.size) : gpart T t B 0 = some (.agg B) := by
  unfold gpart
  simp only [ht, hk, if_true]
  rw [if_pos (by omega), List.drop_zero, List.take_of_length_le (by omega)]
theorem gplace_all (hl : B.length = D.length) : gplace B D 0 = some D := by
  unfold gplace
  rw [if_pos (by omega), List.take_zero, List.nil_append, List.drop_eq_nil_of_le (by omega), List.append_nil]
end
theorem wkl_midA {O O' : Objs} {n : Nat} {A B B' : List G} (hA : G.pures A = true) (h : wkl O O' n B B') : wkl O O' n (A ++ B) (A ++ B') := wkl_app _ _ _ _ (wkl_pure hA) h
theorem wkl_midC {O O' : Objs} {n : Nat} {B B' C : List G} (hC : G.pures C = true) (h : wkl O O' n B B') : wkl O O' n (B ++ C) (B' ++ C) := wkl_app _ _ _ _ h (wkl_pure hC)
theorem bYw {α ρ : Type} {N : Nat} {f : α → List G} {r : ρ} {a : Arr α N} {cs : List G} {K : Arr α N → Option ρ} (hc : ∀ O O' n, wkl O O' n cs (fl f a.1) = True) (h : (some a).bind K = some r) : ∃ y : Arr α N, some a = some y ∧ (∀ O O' n, wkl O O' n cs (fl f y.1) = True) ∧ K y = some r := ⟨a, rfl, hc, h⟩
theorem agree_o1 {X : Objs} {i n : Nat} {a a' : Option GObj} {L : List (Option GObj)} : agree (fun k => ¬ k = i) (Loc (X.upd i a) n L) (Loc (X.upd i a') n L) := fun k hk => by
  unfold Loc
  rw [upd_ne _ _ hk, upd_ne _ _ hk]
theorem agree_o2 {X : Objs} {i j n : Nat} {a a' b : Option GObj} {L : List (Option GObj)} : agree (fun k => ¬ k = i) (Loc ((X.upd i a).upd j b) n L) (Loc ((X.upd i a').upd j b) n L) := fun k hk => by
  unfold Loc
  by_cases e : k = j
  · subst e; rw [upd_same, upd_same]
  · rw [upd_ne _ _ e, upd_ne _ _ e, upd_ne _ _ hk, upd_ne _ _ hk]
theorem agree_o3 {X : Objs} {i j n : Nat} {a b b' : Option GObj} {L : List (Option GObj)} : agree (fun k => ¬ k = j) (Loc ((X.upd i a).upd j b) n L) (Loc ((X.upd i a).upd j b') n L) := agree_o1
theorem intsOf_fl (k : IntKind) : ∀ xs : List Int, intsOf k (fl (eI k) xs) = some xs
  | [] => by rw [fl_nil]; rfl
  | x :: xs => by
    rw [fl_cons]
    show intsOf k (.val (.int k x) :: fl (eI k) xs) = _
    unfold intsOf
    rw [if_pos rfl, intsOf_fl k xs]
    rfl
theorem geqS_arr {T : Tab} {t e : TypeId} {i ie : TyI} {N : Nat} {k : IntKind} (ht : T t = some i) (hk : i.k = .arr N e) (he : T e = some ie) (hke : ie.k = .int k) (h1 : ie.size = 1) (a b : Arr Int N) : geqS T 6 t (fl (eI k) a.1) (fl (eI k) b.1) = some (a.1 == b.1) := by
  unfold geqS
  simp only [ht, hk, he, hke, intsOf_fl]
  rw [if_pos ⟨a.2, b.2, h1⟩]
/-- as many of a list's as there is room for, from a place on -/
def cpyAt {α : Type} (xs : List α) (lo : Int) (ys : List α) : List α := xs.take lo.toNat ++ ys.take (xs.length - lo.toNat) ++ xs.drop (lo.toNat + ys.length)
theorem cpyAt_len {α : Type} (xs : List α) (lo : Int) (ys : List α) : (cpyAt xs lo ys).length = xs.length := by
  unfold cpyAt
  rw [List.length_append, List.length_append, List.length_take, List.length_take, List.length_drop]
  omega
theorem gplace_cpyAt {α : Type} {f : α → List G} (xs ys : List α) (lo : Int) (hf : ∀ x, (f x).length = 1) (h0 : 0 ≤ lo) (h1 : lo ≤ xs.length) : gplace (fl f xs) (List.take (min ys.length ((xs.length : Int) - lo).toNat) (fl f ys)) (lo.toNat * 1) = some (fl f (cpyAt xs lo ys)) := by
  have e1 : List.take (min ys.length ((xs.length : Int) - lo).toNat) (fl f ys) = fl f (ys.take (xs.length - lo.toNat)) := by
    have := fl_take (f := f) (k := 1) hf (min ys.length ((xs.length : Int) - lo).toNat) ys
    rw [Nat.mul_one] at this
    rw [this]
    congr 1
    rw [show ((xs.length : Int) - lo).toNat = xs.length - lo.toNat by omega, Nat.min_comm, ← List.take_take, List.take_of_length_le (Nat.le_refl ys.length)]
  have l1 := fl_length (f := f) (k := 1) hf
  rw [e1]
  unfold gplace
  have hl : (fl f (ys.take (xs.length - lo.toNat))).length = min (xs.length - lo.toNat) ys.length := by rw [l1, List.length_take, Nat.mul_one]
  rw [if_pos (by rw [hl, l1, Nat.mul_one, Nat.mul_one]; omega), fl_take (f := f) hf]
  congr 1
  unfold cpyAt
  rw [fl_append, fl_append, hl]
  congr 1
  rw [show lo.toNat * 1 + min (xs.length - lo.toNat) ys.length = (lo.toNat + min (xs.length - lo.toNat) ys.length) * 1 by omega, fl_drop (f := f) hf]
  congr 1
  by_cases q : ys.length ≤ xs.length - lo.toNat
  · rw [Nat.min_eq_right q]
  · rw [Nat.min_eq_left (by omega), List.drop_eq_nil_of_le (by omega), List.drop_eq_nil_of_le (by omega)]

theorem gslice_rowlo {T : Tab} {t e : TypeId} {ie : TyI} {j len : Nat} {a : Int} (ht : tkind T t = some (.slice e)) (he : T e = some ie) (h : 0 < len ∧ 0 ≤ a ∧ a ≤ (len : Int)) (hs : 0 < ie.size := by decide) :
    gslice T t (.row j len) (some (.i64, a)) none none = some (True, .rl j len (a.toNat * ie.size) ((len : Int) - a).toNat) := by
  unfold gslice
  simp only [ht, he]
  rw [if_neg (by simp)]
  have e1 : (0 < ie.size ∧ 0 < len ∧ 0 ≤ bLo (some (.i64, a)) ∧ bLo (some (.i64, a)) ≤ bHi none len ∧ bHi none len ≤ (len : Int)) = True := by
    simp only [bLo, bHi, eq_iff_iff, iff_true]
    exact ⟨hs, h.1, h.2.1, h.2.2, Int.le_refl _⟩
  rw [e1]
  rfl
theorem gslice_rowhi {T : Tab} {t e : TypeId} {ie : TyI} {j len : Nat} {a : Int} (ht : tkind T t = some (.slice e)) (he : T e = some ie) (h : 0 < len ∧ 0 ≤ a ∧ a ≤ (len : Int)) (hs : 0 < ie.size := by decide) :
    gslice T t (.row j len) none (some (.i64, a)) none = some (True, .rl j len 0 a.toNat) := by
  unfold gslice
  simp only [ht, he]
  rw [if_neg (by simp)]
  have e1 : (0 < ie.size ∧ 0 < len ∧ 0 ≤ bLo none ∧ bLo none ≤ bHi (some (.i64, a)) len ∧ bHi (some (.i64, a)) len ≤ (len : Int)) = True := by
    simp only [bLo, bHi, eq_iff_iff, iff_true]
    exact ⟨hs, h.1, Int.le_refl _, h.2.1, h.2.2⟩
  rw [e1]
  simp only [bLo, bHi, Int.toNat_zero, Nat.zero_mul, Int.sub_zero]
/-- a row in a cell of one's own, cut at its end, is a row anew -/
theorem W_cutF {α : Type} {f : α → List G} {P : Program} {ba : Nat} {c : Code} {Q : GQ} {E : Env} {O : Objs} {n p j k t sz : Nat} {xs : List α} {a : Int} {q : GObj} (hf : ∀ x, (f x).length = sz) (hp : O p = some q)
    (hk : q.cells[k]? = some (.rl j xs.length 0 a.toNat)) (hj : O j = some ⟨true, t, sz, xs.length, fl f xs⟩) (ha : 0 ≤ a ∧ a ≤ (xs.length : Int)) (hij : 0 = 0 → p ≠ j)
    (h : W P ba c Q E (((O.upd j none).upd n (some ⟨true, t, sz, (xs.take a.toNat).length, fl f (xs.take a.toNat)⟩)).upd p (some ⟨q.row, q.ty, q.sz, q.n, q.cells.set k (.row n (xs.take a.toNat).length)⟩)) (n + 1)) : W P ba c Q E O n := fun hb => by
  have hl : (xs.take a.toNat).length = a.toNat := by rw [List.length_take]; omega
  have := cutF_fit (E := E) (qj := ⟨true, t, sz, xs.length, fl f xs⟩) (len := a.toNat) hp hk hj rfl (show a.toNat ≤ xs.length by omega) (hij rfl) hb
  rw [hl, ← fl_take hf] at h
  exact W_fit2 this h hb

end Go.Proofs.Ytpggbianhdebmaa
