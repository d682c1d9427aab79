/- Part H18 of the ghost memory: lemmas and contracts used by the proofs of this seat's laws; each theorem bears its own conditions. -/
import Derived.Test.YtpggbianhdebmaaH17
import Derived.WalkKit
import Derived.WalkSpells
import Derived.WalkLawsBesides
import Derived.Lib.Hide
import Derived.BigQuiet
import Derived.StillTailTactics
import Derived.Deep.RegionHeld3
import Derived.Deep.AppendLies
import Derived.Laws.CopyOwn
import Derived.Deep.DeepCutAuto
import Derived.Deep.QuietTactic
import Derived.Maps.AppendAt
import Derived.Great.BuildSlice
import Derived.Laws.StructEq
import Derived.ChangeKeysEq
import Derived.IntWalk
import Derived.Lib.AppendZeros
import Derived.Lib.AppendZerosOnto
import Derived.ProofKit
import Derived.OpenShut
import Derived.SizedLaws
import Derived.Deep.Slices
namespace Go.Proofs.Ytpggbianhdebmaa
open Go.RowKit
set_option linter.unusedVariables false
set_option linter.unusedSimpArgs false
theorem strip_any : strip .any = .any := rfl
theorem strip_val (v : Value) : strip (.val v) = .val v := rfl
theorem strip_agg (cs : List G) : strip (.agg cs) = .agg cs := rfl
theorem strip_tup (cs : List G) : strip (.tup cs) = .tup cs := rfl
theorem strip_sl (n : Nat) (cs : List G) : strip (.sl n cs) = .sl n cs := rfl
theorem strip_ip (cs : List G) (k : Nat) : strip (.ip cs k) = .ip cs k := rfl
theorem strip_row (i n : Nat) : strip (.row i n) = .row i n := rfl
theorem strip_rs (i a n : Nat) : strip (.rs i a n) = .rs i a n := rfl
theorem strip_rp (i n a : Nat) : strip (.rp i n a) = .rp i n a := rfl
theorem strip_rl (i n a k : Nat) : strip (.rl i n a k) = .rl i n a k := rfl
theorem strip_ref (i a : Nat) : strip (.ref i a) = .ref i a := rfl
theorem strip_fn (f k : Nat) (cs : List G) : strip (.fn f k cs) = .fn f k cs := rfl
theorem strip_when (b : Bool) (g : G) : strip (.when b g) = g := rfl
section
variable {O : Objs} {T : Tab} {op : BinOp} {t : TypeId}
theorem live_any : isLive O .any = True := rfl
theorem live_val (v : Value) : isLive O (.val v) = True := rfl
theorem live_agg (cs : List G) : isLive O (.agg cs) = True := rfl
theorem live_tup (cs : List G) : isLive O (.tup cs) = True := rfl
theorem live_sl (n : Nat) (cs : List G) : isLive O (.sl n cs) = True := rfl
theorem live_ip (cs : List G) (k : Nat) : isLive O (.ip cs k) = True := rfl
theorem live_fn (f k : Nat) (cs : List G) : isLive O (.fn f k cs) = True := rfl
theorem live_when (b : Bool) (g : G) : isLive O (.when b g) = True := rfl
theorem live_ref (i a : Nat) : isLive O (.ref i a) = ∃ o, O i = some o ∧ o.row = false := rfl
theorem live_rs (i a n : Nat) : isLive O (.rs i a n) = ∃ o, O i = some o ∧ o.row = false := rfl
theorem live_rp (i k a : Nat) : isLive O (.rp i k a) = ∃ o, O i = some o ∧ o.row = true ∧ k = o.n := rfl
theorem live_rl (i k a l : Nat) : isLive O (.rl i k a l) = True := rfl
theorem live_row (i k : Nat) : isLive O (.row i k) = ∃ o, O i = some o ∧ o.row = true ∧ k = o.n := rfl
theorem len_any : lenOk O .any = True := rfl
theorem len_val (v : Value) : lenOk O (.val v) = True := rfl
theorem len_agg (cs : List G) : lenOk O (.agg cs) = True := rfl
theorem len_tup (cs : List G) : lenOk O (.tup cs) = True := rfl
theorem len_sl (n : Nat) (cs : List G) : lenOk O (.sl n cs) = True := rfl
theorem len_ip (cs : List G) (k : Nat) : lenOk O (.ip cs k) = True := rfl
theorem len_fn (f k : Nat) (cs : List G) : lenOk O (.fn f k cs) = True := rfl
theorem len_row (i k : Nat) : lenOk O (.row i k) = True := rfl
theorem len_rl (i k a l : Nat) : lenOk O (.rl i k a l) = True := rfl
theorem len_rs (i a n : Nat) : lenOk O (.rs i a n) = ∃ o, O i = some o ∧ o.row = false := rfl
theorem gbin_ii (k k' : IntKind) (a b : Int) : gbin T op t (.val (.int k a)) (.val (.int k' b)) = (gint op k a k' b).map fun r => (r.1, .val r.2) := rfl
theorem gbin_bb (a b : Bool) : gbin T op t (.val (.bool a)) (.val (.bool b)) = match tkind T t, op with
    | some .bool, .eql => some (True, .val (.bool (a == b)))
    | some .bool, .neq => some (True, .val (.bool (a != b)))
    | _, _ => none := rfl
theorem gbin_ss (a b : ByteArray) : gbin T op t (.val (.string a)) (.val (.string b)) = match op with
    | .eql => some (True, .val (.bool (a.toList == b.toList)))
    | .neq => some (True, .val (.bool (!(a.toList == b.toList))))
    | _ => none := rfl
theorem gbin_pp : gbin T op t (.val (.pointer none)) (.val (.pointer none)) = match tkind T t, op with
    | some (.ptr _), .eql => some (True, .val (.bool true))
    | some (.ptr _), .neq => some (True, .val (.bool false))
    | _, _ => none := rfl
theorem gbin_rp (i a : Nat) : gbin T op t (.ref i a) (.val (.pointer none)) = match tkind T t, op with
    | some (.ptr _), .eql => some (True, .val (.bool false))
    | some (.ptr _), .neq => some (True, .val (.bool true))
    | _, _ => none := rfl
theorem gbin_ip (cs : List G) (k : Nat) : gbin T op t (.ip cs k) (.val (.pointer none)) = match tkind T t, op with
    | some (.ptr _), .eql => some (True, .val (.bool false))
    | some (.ptr _), .neq => some (True, .val (.bool true))
    | _, _ => none := rfl
theorem gbin_ll (a : Option Addr) (l c l' c' : Nat) : gbin T op t (.val (.slice a l c)) (.val (.slice none l' c')) = match tkind T t, op with
    | some (.slice _), .eql => some (True, .val (.bool a.isNone))
    | some (.slice _), .neq => some (True, .val (.bool (!a.isNone)))
    | _, _ => none := rfl
theorem gbin_aa (xs ys : List G) : gbin T op t (.agg xs) (.agg ys) = match T t, geqS T 6 t xs ys with
    | some i, some b => if i.k.isAgg = true ∧ i.eq = true then (match op with
      | .eql => some (True, .val (.bool b))
      | .neq => some (True, .val (.bool (!b)))
      | _ => none) else none
    | _, _ => none := rfl
end
theorem one_any : G.one .any = false := rfl
theorem one_val (v : Value) : G.one (.val v) = v.oneCell' := rfl
theorem one_agg (cs : List G) : G.one (.agg cs) = false := rfl
theorem one_tup (cs : List G) : G.one (.tup cs) = false := rfl
theorem one_when (b : Bool) (g : G) : G.one (.when b g) = false := rfl
theorem one_sl (n : Nat) (cs : List G) : G.one (.sl n cs) = true := rfl
theorem one_ip (cs : List G) (k : Nat) : G.one (.ip cs k) = true := rfl
theorem one_row (i n : Nat) : G.one (.row i n) = true := rfl
theorem one_rs (i a n : Nat) : G.one (.rs i a n) = true := rfl
theorem one_rp (i n a : Nat) : G.one (.rp i n a) = true := rfl
theorem one_rl (i n a k : Nat) : G.one (.rl i n a k) = true := rfl
theorem one_ref (i a : Nat) : G.one (.ref i a) = true := rfl
theorem one_fn (f k : Nat) (cs : List G) : G.one (.fn f k cs) = true := rfl
theorem cellsOf_agg (cs : List G) : gcellsOf (.agg cs) = some cs := rfl
theorem cellsOf_val (v : Value) : gcellsOf (.val v) = match v with
    | .agg vs => some (vs.toList.map .val)
    | v => if G.one (.val v) = true then some [.val v] else none := by cases v <;> rfl
theorem cellsOf_sl (n : Nat) (cs : List G) : gcellsOf (.sl n cs) = some [.sl n cs] := rfl
theorem cellsOf_ip (cs : List G) (k : Nat) : gcellsOf (.ip cs k) = some [.ip cs k] := rfl
theorem cellsOf_row (i n : Nat) : gcellsOf (.row i n) = some [.row i n] := rfl
theorem cellsOf_rs (i a n : Nat) : gcellsOf (.rs i a n) = some [.rs i a n] := rfl
theorem cellsOf_rp (i n a : Nat) : gcellsOf (.rp i n a) = some [.rp i n a] := rfl
theorem cellsOf_rl (i n a k : Nat) : gcellsOf (.rl i n a k) = some [.rl i n a k] := rfl
theorem cellsOf_ref (i a : Nat) : gcellsOf (.ref i a) = some [.ref i a] := rfl
theorem cellsOf_fn (f k : Nat) (cs : List G) : gcellsOf (.fn f k cs) = some [.fn f k cs] := rfl
theorem cellsOf_any : gcellsOf .any = none := rfl
theorem cellsOf_tup (cs : List G) : gcellsOf (.tup cs) = none := rfl
theorem cellsOf_when (b : Bool) (g : G) : gcellsOf (.when b g) = none := rfl
/-- a pointer to what stays, or none -/
def gP {α : Type} (f : α → List G) : Option α → G
  | none => .val (.pointer none)
  | some x => .ip (f x) 0
def eP {α : Type} (f : α → List G) (x : Option α) : List G := [gP f x]
section
variable {α : Type} {f : α → List G} {T : Tab} {t e : TypeId} {O O' : Objs} {n' : Nat}
theorem gP_none : gP f none = .val (.pointer none) := rfl
theorem gP_some (x : α) : gP f (some x) = .ip (f x) 0 := rfl
theorem strip_gP (x : Option α) : strip (gP f x) = gP f x := by cases x <;> rfl
theorem wok_gP (x : Option α) (l : List G) : wok (gP f x :: l) = wok l := by cases x <;> rfl
theorem one_gP (x : Option α) : (gP f x).one = true := by cases x <;> rfl
theorem cellsOf_gP (x : Option α) : gcellsOf (gP f x) = some [gP f x] := by cases x <;> rfl
theorem pure_gP (h : ∀ x, G.pures (f x) = true) (x : Option α) : (gP f x).pure = true := by
  cases x with
  | none => rfl
  | some x => simp only [gP, G.pure, h]
theorem under_gP (h : ∀ x, G.pures (f x) = true) (k : Nat) (x : Option α) : (gP f x).under k = true := pure_under k _ (pure_gP h x)
theorem wk_gP (h : ∀ x, G.pures (f x) = true) (x : Option α) : wk O O' n' (gP f x) (gP f x) = True := eq_true (wk_refl _ (under_gP h _ x))
theorem live_gP (x : Option α) : isLive O (gP f x) = True := by cases x <;> rfl
theorem gbin_gP_eql (hk : tkind T t = some (.ptr e)) (x : Option α) : gbin T .eql t (gP f x) (.val (.pointer none)) = some (True, .val (.bool x.isNone)) := by cases x <;> simp [gP, gbin, hk]
theorem gbin_gP_neq (hk : tkind T t = some (.ptr e)) (x : Option α) : gbin T .neq t (gP f x) (.val (.pointer none)) = some (True, .val (.bool !x.isNone)) := by cases x <;> simp [gP, gbin, hk]
end
theorem set_self {α : Type} : ∀ {l : List α} {k : Nat} {x : α}, l[k]? = some x → l.set k x = l
  | [], k, x, h => by simp at h
  | y :: l, 0, x, h => by simp at h; simp [h]
  | y :: l, k + 1, x, h => by simp only [List.set_cons_succ, set_self (l := l) (k := k) (by simpa using h)]
section
variable {P : Program} {w : World} {O : Objs} {m : Hands} {n : Nat}
/-- one's own object told anew, where its cells are so, too -/
theorem retell_mem (hM : Mem w O m n) {p : Nat} {q q' : GObj} (hp : O p = some q) (h1 : q'.row = q.row) (h2 : q'.ty = q.ty) (h3 : q'.sz = q.sz) (h4 : q'.n = q.n) (hc : ∀ vs, G.reps w O m n q.cells vs → G.reps w O m n q'.cells vs) :
    Mem w (O.upd p (some q')) m n ∧ Ext w O m n w (O.upd p (some q')) m n := by
  have hpn : p < n := by
    rcases Nat.lt_or_ge p n with h | h
    · exact h
    · rw [hM.fresh p h] at hp; cases hp
  have hold : ∀ i o', (O.upd p (some q')) i = some o' → ∃ o, O i = some o ∧ o'.row = o.row ∧ o'.n = o.n := fun i o' hi => by
    by_cases e : i = p
    · subst e; rw [upd_same] at hi; injection hi with hi; subst hi; exact ⟨q, hp, h1, h4⟩
    · rw [upd_ne _ _ e] at hi; exact ⟨o', hi, rfl, rfl⟩
  have hrep : ∀ (gs : List G) (vs : List Value), G.reps w O m n gs vs → G.reps w (O.upd p (some q')) m n gs vs := fun gs vs h => reps_under hold gs vs h (unders_of gs vs h)
  refine ⟨⟨fun i hi => ?_, fun i o' hi => ?_, fun i j oi oj b hi hj => ?_⟩, ⟨rfl, rfl, rfl, Nat.le_refl _, Nat.le_refl _, fun b _ ho => ⟨rfl, fun ⟨i, o', hi, hb⟩ => ?_⟩, fun i _ o' hi => ?_⟩⟩
  · rw [upd_ne _ _ (by omega)]; exact hM.fresh i hi
  · by_cases e : i = p
    · subst e
      rw [upd_same] at hi
      injection hi with hi
      subst hi
      obtain ⟨vs, hr, hx⟩ := hM.obj i q hp
      refine ⟨vs, hrep _ _ (hc vs hr), ?_⟩
      rw [h1, h2, h3, h4]; exact hx
    · rw [upd_ne _ _ e] at hi
      obtain ⟨vs, hr, hx⟩ := hM.obj i o' hi
      exact ⟨vs, hrep _ _ hr, hx⟩
  · obtain ⟨o1, e1, _⟩ := hold i oi hi
    obtain ⟨o2, e2, _⟩ := hold j oj hj
    exact hM.apart i j o1 o2 b e1 e2
  · obtain ⟨o1, e1, _⟩ := hold i o' hi
    exact ho ⟨i, o1, e1, hb⟩
  · obtain ⟨o1, e1, e2, e3⟩ := hold i o' hi
    exact ⟨o1, e1, e2, Nat.le_of_eq e3.symm, fun _ => rfl⟩
/-- nothing in a cell of one's own, as a row of one's own -/
theorem adoptF_fit {ba : Nat} {E : Env} {p k : Nat} {q : GObj} (t : TypeId) (sz : Nat) (hp : O p = some q) (hk : q.cells[k]? = some (.val (.slice none 0 0))) (hb : ba ≤ n) :
    Fit2 ba E O n E ((O.upd n (some ⟨true, t, sz, 0, []⟩)).upd p (some ⟨q.row, q.ty, q.sz, q.n, q.cells.set k (.row n 0)⟩)) (n + 1) := fun w m a hM hE => by
  have hpn : p ≠ n := fun e => by rw [e, hM.fresh n (Nat.le_refl _)] at hp; cases hp
  obtain ⟨h1, h2⟩ := adopt_mem hM t sz
  have hp' : (O.upd n (some ⟨true, t, sz, 0, []⟩)) p = some q := by rw [upd_ne _ _ hpn]; exact hp
  obtain ⟨h3, h4⟩ := retell_mem (q' := ⟨q.row, q.ty, q.sz, q.n, q.cells.set k (.row n 0)⟩) h1 hp' rfl rfl rfl rfl (fun vs hr => by
    obtain ⟨v, hv, hrv⟩ := reps_at _ _ hr k _ hk
    simp only [G.rep] at hrv
    subst hrv
    have := reps_set q.cells vs k (.row n 0) (.slice none 0 0) hr (adopt_rep t sz)
    rw [set_self hv] at this
    exact this)
  have hX := h2.trans h4
  exact ⟨_, h3, hE.ext hX, hX.base hb⟩
theorem W_adoptF {ba : Nat} {c : Code} {Q : GQ} {E : Env} {p k : Nat} {q : GObj} (t : TypeId) (sz : Nat) (hp : O p = some q) (hk : q.cells[k]? = some (.val (.slice none 0 0)))
    (h : W P ba c Q E ((O.upd n (some ⟨true, t, sz, 0, []⟩)).upd p (some ⟨q.row, q.ty, q.sz, q.n, q.cells.set k (.row n 0)⟩)) (n + 1)) : W P ba c Q E O n := fun hb => W_fit2 (adoptF_fit t sz hp hk hb) h hb
end

end Go.Proofs.Ytpggbianhdebmaa
