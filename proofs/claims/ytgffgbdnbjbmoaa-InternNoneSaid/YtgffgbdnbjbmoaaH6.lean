/- Part H6 of the ghost memory: lemmas and contracts used by the proofs of this seat's laws; each theorem bears its own conditions. -/
import Derived.Test.YtgffgbdnbjbmoaaH3
import Derived.WalkKit
import Derived.WalkSpells
import Derived.WalkLawsBesides
import Derived.Lib.Hide
import Derived.BigQuiet
import Derived.StillTailTactics
import Derived.Deep.RegionHeld3
import Derived.Deep.AppendLies
import Derived.Laws.CopyOwn
import Derived.Deep.DeepCutAuto
import Derived.Deep.QuietTactic
import Derived.Maps.AppendAt
import Derived.Great.BuildSlice
import Derived.Laws.StructEq
import Derived.ChangeKeysEq
import Derived.IntWalk
import Derived.Lib.AppendZeros
import Derived.Lib.AppendZerosOnto
import Derived.ProofKit
import Derived.OpenShut
import Derived.SizedLaws
import Derived.Deep.Slices
namespace Go.Proofs.Ytgffgbdnbjbmoaa
open Go.RowKit
set_option linter.unusedVariables false
set_option linter.unusedSimpArgs false
section
variable {P : Program} {T : Qa} {O O' X X' : Objs} {n n' n0 ba : Nat} {E E' : Env} {Q : GQ} {c x y : Code}
def K3 {Z1 Z2 : Type} (J1 : Z1 → GQ) (J2 : Z2 → GQ) : Z1 ⊕ Z2 → GQ
 | .inl z => J1 z
 | .inr z => J2 z
theorem Zcs {Z : Type} {J : Z → GQ} {z : Z} {id : Nat} (h : W P ba c (J z) E O n) (k : W P ba c (J z) E O n → W P ba (.block id c) Q E O n) : W P ba (.block id c) Q E O n := k h
theorem Qz {id : Nat} (h : W P ba c (JX id ba E' O' n0) E O n) (k : Q .normal E' O' n0) : W P ba (.block id c) Q E O n :=
 X6 (Z03 h (by show Yy id Q (.exit id) E' O' n0; simp only [Yy, if_true]; exact k))
theorem Ut {id : Nat} (h : W P ba c (JR ba E' O' n0) E O n) (k : Q .ret E' O' n0) : W P ba (.block id c) Q E O n := X6 (Z02 h k)
theorem GCalls.argsW {f : FuncId} {gs gs' : List G} {K : G → Objs → Nat → Prop} (hw : Km O O n gs gs') (h : GCalls P f gs' O n K) : GCalls P f gs O n K := GCalls.args h hw
theorem Zei {i : Nat} {o : Option GObj} (h : O i = o) : O.upd i o = O := by
 funext j; unfold Objs.upd; split
 ·rename_i e; subst e; exact h.symm
 rfl
theorem X1 {i : Nat} {o : Option GObj} (hU : Und O n) (hi : i < n) : ∀ j, n ≤ j → O.upd i o j = none := fun j hj => by rw [Yx _ _ (by omega)]; exact hU.fresh j hj
theorem Gg (O : Objs) (i : Nat) (a b : Option GObj) : (O.upd i a).upd i b = O.upd i b := by funext j; unfold Objs.upd; split <;> rfl
theorem Q0 {α : Type} {f : α → List G} (h : ∀ x, (f x).all G.one = true) : ∀ xs : List α, (fl f xs).all G.one = true
 | [] => rfl
 | x :: xs => by rw [Vw, List.all_append, h x, Q0 h xs]; rfl
section
variable {α : Type} {xs ys : List α} {f : α → List G} {t e : TypeId} {ie : TyI}
theorem Zz9 {lo hi : Int} {sz : Nat} (hf : ∀ x, (f x).length = sz) (h : Zgh xs lo hi = some ys) : ((fl f xs).drop (lo.toNat * sz)).take ((hi - lo).toNat * sz) = fl f ys := by
 rw [Ziz hf, Zmy hf, Ztx h]
theorem Zul {lo hi : Option KI} (ht : Zv T t = some (.slice e)) (he : T e = some ie) (hf : ∀ x, (f x).length = ie.size) (h : Zgh xs (bLo lo) (bHi hi xs.length) = some ys) :
  Zfz T t (.sl xs.length (fl f xs)) lo hi none = some (0 ≤ bLo lo ∧ bLo lo ≤ bHi hi xs.length ∧ bHi hi xs.length ≤ bMx none xs.length ∧ bMx none xs.length ≤ xs.length, .sl ys.length (fl f ys)) := by
 unfold Zfz
 simp only [ht, he, Option.isSome_none, Bool.false_eq_true, false_and, if_false]
 rw [Zz9 hf h, ← Zwk h]
end
end
theorem Zho (T : Qa) (t : TypeId) (c : G) (cs : List G) (off : Nat) : Zdu T t (c :: cs) off = match T t with
  | none => none
  | some i => if i.k.isAgg then (if off + i.size ≤ (c :: cs).length then some (.agg (((c :: cs).drop off).take i.size)) else none) else (c :: cs)[off]? := rfl
theorem Zfw (c : G) (cells cs : List G) (off : Nat) : Ko (c :: cells) cs off = if off + cs.length ≤ (c :: cells).length then some ((c :: cells).take off ++ cs ++ (c :: cells).drop (off + cs.length)) else none := rfl
section
variable {O O' : Objs} {n' : Nat}
theorem Zp6 : Km O O' n' [] [] = True := by simp [Km]
theorem Zej (g g' : G) (r r' : List G) : Km O O' n' (g :: r) (g' :: r') = (wk O O' n' g g' ∧ Km O O' n' r r') := by
 simp only [Km, List.cons.injEq, eq_iff_iff]
 exact ⟨fun ⟨_, _, ⟨rfl, rfl⟩, h⟩ => h, fun h => ⟨_, _, ⟨rfl, rfl⟩, h⟩⟩
theorem Ztc (g : G) : wk O O' n' g .any = True := by unfold wk; rfl
theorem Ztg (g : G) (u : Value) : wk O O' n' g (.val u) = (g = .val u) := by unfold wk; rfl
theorem Ztb (a b : List G) : wk O O' n' (.agg a) (.agg b) = Km O O' n' a b := by simp [wk]
theorem Ztf (a b : List G) : wk O O' n' (.tup a) (.tup b) = Km O O' n' a b := by simp [wk]
theorem Zxy (f f' k k' : Nat) (a b : List G) : wk O O' n' (.fn f k a) (.fn f' k' b) = (f = f' ∧ k = k' ∧ Km O O' n' a b) := by
 simp only [wk, G.fn.injEq, eq_iff_iff]
 exact ⟨fun ⟨_, ⟨h1, h2, rfl⟩, h⟩ => ⟨h1, h2, h⟩, fun ⟨h1, h2, h⟩ => ⟨_, ⟨h1, h2, rfl⟩, h⟩⟩
theorem Zx3 (k k' : Nat) (a b : List G) : wk O O' n' (.sl k a) (.sl k' b) = (k = k' ∧ Km O O' n' a b) := by simp [wk]
theorem Zg7 (k k' c : Nat) (b : List G) : wk O O' n' (.val (.slice none k c)) (.sl k' b) = (k = 0 ∧ k' = 0 ∧ b = []) := by simp [wk]
theorem Zls (i k k' : Nat) (b : List G) : wk O O' n' (.row i k) (.sl k' b) = (k = k' ∧ O' i = none ∧ ∃ o, O i = some o ∧ o.row = true ∧ k = o.n ∧ Km O O' n' o.cells b) := by simp [wk]
theorem Zp5 (i off k k' : Nat) (b : List G) : wk O O' n' (.rs i off k) (.sl k' b) = (off = 0 ∧ k = k' ∧ O' i = none ∧ ∃ o, O i = some o ∧ o.row = false ∧ Km O O' n' o.cells b) := by simp [wk]
theorem Zxz (k k' : Nat) (a b : List G) : wk O O' n' (.ip a k) (.ip b k') = (k = k' ∧ Km O O' n' a b) := by simp [wk]
theorem Zlr (i k k' : Nat) (b : List G) : wk O O' n' (.ref i k) (.ip b k') = (k = k' ∧ O' i = none ∧ ∃ o, O i = some o ∧ o.row = false ∧ Km O O' n' o.cells b) := by simp [wk]
theorem Zte (g : G) (i k : Nat) : wk O O' n' g (.row i k) = (g = .row i k ∧ i < n') := by unfold wk; rfl
theorem Zx2 (g : G) (i o k : Nat) : wk O O' n' g (.rs i o k) = (g = .rs i o k ∧ i < n') := by unfold wk; rfl
theorem Zx1 (g : G) (i o k : Nat) : wk O O' n' g (.rp i o k) = (g = .rp i o k ∧ i < n') := by unfold wk; rfl
theorem Zx0 (g : G) (i o k l : Nat) : wk O O' n' g (.rl i o k l) = (g = .rl i o k l ∧ i < n') := by unfold wk; rfl
theorem Ztd (g : G) (i k : Nat) : wk O O' n' g (.ref i k) = (g = .ref i k ∧ i < n') := by unfold wk; rfl
theorem Zr9 (n K : Nat) : (n < n + K) = (0 < K) := by simp
theorem Zvz (n j K : Nat) : (n + j < n + K) = (j < K) := by simp
end
theorem Vs {O O' : Objs} {n' : Nat} (b b' : List G) : ∀ a : List G, G.pures a = true → Km O O' n' (a ++ b) (a ++ b') = Km O O' n' b b'
 | [], _ => rfl
 | x :: a, h => by
  simp only [G.pures, Bool.and_eq_true] at h
  rw [List.cons_append, List.cons_append, Zej, Vs b b' a h.2, eq_iff_iff]
  exact ⟨fun q => q.2, fun q => ⟨Zp4 x (Zc4 _ x h.1), q⟩⟩
section
variable {α β ρ : Type} {xs ys : List α} {i lo hi : Int} {f : α → List G} {T : Qa} {t e : TypeId} {ti : TyI} {r : ρ}
theorem bC {o : Option α} {K : α → Option ρ} (h : o.bind K = some r) : ∃ x, o = some x ∧ K x = some r := Option.bind_eq_some_iff.1 h
theorem bE {K : α → Option ρ} (ht : T t = some ti) (hf : ∀ x, (f x).length = ti.size) (h0 : 0 < ti.size) (h : (Jf xs i).bind K = some r) :
  ∃ x, Jf xs i = some x ∧ 0 ≤ i ∧ i < (xs.length : Int) ∧ Zdu T t (fl f xs) (i.toNat * ti.size) = (if ti.k.isAgg then some (.agg (f x)) else (f x)[0]?) ∧ K x = some r := by
 obtain ⟨x, hx, h⟩ := Option.bind_eq_some_iff.1 h
 exact ⟨x, hx, Zto hx, Zye hx, Zvp ht hf h0 hx, h⟩
theorem bS {K : List α → Option ρ} {lo hi : Option KI} {a b : Int} (hlo : bLo lo = a) (hhi : bHi hi xs.length = b) (ht : Zv T t = some (.slice e)) (he : T e = some ti) (hf : ∀ x, (f x).length = ti.size) (h : (Zgh xs a b).bind K = some r) :
  ∃ ys, 0 ≤ a ∧ a ≤ b ∧ b ≤ xs.length ∧ Zfz T t (.sl xs.length (fl f xs)) lo hi none = some (True, .sl ys.length (fl f ys)) ∧ K ys = some r := by
 subst hlo hhi
 obtain ⟨ys, hy, h⟩ := Option.bind_eq_some_iff.1 h
 have h1 := Zt0 hy
 have h2 := Ztz hy
 have h3 := Zty hy
 refine ⟨ys, h1, h2, h3, ?_, h⟩
 rw [Zul ht he hf hy]
 simp only [h1, h2, h3, bMx, Int.le_refl, and_self]
theorem bA {b k : Nat} {K : List α → Option ρ} (hk : ys.length = k) (h : (Zgt b xs ys).bind K = some r) : ∃ zs, (xs.length + k) * b ≤ 140737488355328 ∧ xs.length + k ≤ 140737488355328 ∧ zs = xs ++ ys ∧ K zs = some r := by
 obtain ⟨zs, hz, h⟩ := Option.bind_eq_some_iff.1 h
 subst hk
 exact ⟨zs, Zu9 hz, Zva hz, Ztj hz, h⟩
theorem bG {c : Prop} [Decidable c] {K : Unit → Option ρ} (h : (Qb c).bind K = some r) : c ∧ K () = some r := by
 obtain ⟨u, hu, h⟩ := Option.bind_eq_some_iff.1 h
 exact ⟨Zvq hu, h⟩
theorem bM {b : Nat} {x : α} {K : List α → Option ρ} (h : (Zfa b i x).bind K = some r) : ∃ zs, 0 ≤ i ∧ (b : Int) * i ≤ 140737488355328 ∧ i ≤ 140737488355328 ∧ zs = List.replicate i.toNat x ∧ K zs = some r := by
 obtain ⟨zs, hz, h⟩ := Option.bind_eq_some_iff.1 h
 have := Zyn hz
 exact ⟨zs, this.1, this.2.1, this.2.2, Zv1 hz, h⟩
theorem Zmx (k : Nat) (x : α) : fl f (List.replicate k x) = (List.replicate k (f x)).flatten := by simp [fl]
end
section
variable {P : Program} {T : Qa} {O O' X X' : Objs} {n n' n0 : Nat} {E E' : Env} {Q : GQ} {c x y : Code}
theorem Znp (l : List (Nat × G)) : ∀ k : List Nat, leL l (Ze9 l k)
 | [] => trivial
 | _ :: k => ⟨rfl, Znp l k⟩
theorem G9 {ba : Nat} (keep : List Nat) (h : W P ba x (Xs (fun E O n => W P ba y Q ⟨E.n, [], Ze9 E.l keep⟩ O n) Q) E O n) : W P ba (.seq x y) Q E O n := by
 refine Zh fun hb w m a hM hE => ?_
 refine wp_mono (h hb w m a hM hE) fun e a' w' ⟨E2, O2, n2, m2, h1, h2, h3, h4⟩ => ⟨E2, O2, n2, m2, ?_, h2, h3, h4⟩
 cases e with
 | normal => exact fun hb3 w3 m3 a3 hM3 hE3 => (h1 : W P ba y Q _ O2 n2) hb3 w3 m3 a3 hM3 (hE3.le ⟨rfl, Znp _ _⟩)
 | exit id => exact h1
 | goto l => exact h1
 | ret => exact h1
 | panic ch => exact h1
 | outgrown => exact h1
theorem Zma {ba : Nat} (hb : ba ≤ n) : Fit2 ba E O n E O n := fun w m a hM hE => ⟨m, hM, hE, (Ext.refl w O m n).base hb⟩
theorem X7 {l l' : List (Option GObj)} {k : Nat} (hU : Und X n) (hk : l'.length = k) (hn : E'.n = E.n) (h : Zfo (Zn X n l) (Zn X n l') (n + k) l l' ∧ Zmu (Zn X n l) (Zn X n l') (n + k) E.l E'.l) : Fit E (Zn X n l) E' (Zn X n l') (n + k) :=
 ⟨hn, Zcd hk (OutLe.refl hU (Nat.le_add_right _ _)) h.1, h.2⟩
theorem Zq {i : Nat} {q q' : GObj} {l l' : List (Option GObj)} {k : Nat} (hU : Und X n) (hk : l'.length = k) (hn : E'.n = E.n)
  (h : Zg6 q q' ∧ Km (Zn (X.upd i (some q)) n l) (Zn (X.upd i (some q')) n l') (n + k) q.cells q'.cells ∧ Zfo (Zn (X.upd i (some q)) n l) (Zn (X.upd i (some q')) n l') (n + k) l l' ∧ Zmu (Zn (X.upd i (some q)) n l) (Zn (X.upd i (some q')) n l') (n + k) E.l E'.l) :
  Fit E (Zn (X.upd i (some q)) n l) E' (Zn (X.upd i (some q')) n l') (n + k) :=
 ⟨hn, Zcd hk (OutLe.upd hU (Nat.le_add_right _ _) h.1 h.2.1) h.2.2.1, h.2.2.2⟩
theorem Ztn {ba : Nat} {r : G} {rs : List ResultVar} {l : List (Option GObj)} {e : Exit} (he : e = .normal ∨ e = .ret) (hU : Und X n) (gs : List G) (hb : ba ≤ n') (h : Zdv T (Zn X n l) E rs = some gs ∧ wk (Zn X n l) X n (Zir gs) r) : Fin T rs r ba X n e E (Zn X n l) n' :=
 ⟨he, E, _, n', gs, Zma hb, h.1, Zqz hU.fresh (OutLe.refl hU (Nat.le_refl _)), h.2⟩
end
end Go.Proofs.Ytgffgbdnbjbmoaa
