/- Part H6 of the ghost memory: lemmas and contracts used by the proofs of this seat's laws; each theorem bears its own conditions. -/
import Derived.Test.YtgffgbdnbjbmoaaH3
import Derived.WalkKit
import Derived.WalkSpells
import Derived.WalkLawsBesides
import Derived.Lib.Hide
import Derived.BigQuiet
import Derived.StillTailTactics
import Derived.Deep.RegionHeld3
import Derived.Deep.AppendLies
import Derived.Laws.CopyOwn
import Derived.Deep.DeepCutAuto
import Derived.Deep.QuietTactic
import Derived.Maps.AppendAt
import Derived.Great.BuildSlice
import Derived.Laws.StructEq
import Derived.ChangeKeysEq
import Derived.IntWalk
import Derived.Lib.AppendZeros
import Derived.Lib.AppendZerosOnto
import Derived.ProofKit
import Derived.OpenShut
import Derived.SizedLaws
import Derived.Deep.Slices
namespace Go.Proofs.Ytgffgbdnbjbmoaa
open Go.RowKit
set_option linter.unusedVariables false
set_option linter.unusedSimpArgs false
section
variable {P : Program} {T : Qr} {O O' X X' : Objs} {n n' n0 ba : Nat} {E E' : Env} {Q : GQ} {c x y : Code}
def Jr {Z1 Z2 : Type} (J1 : Z1 → GQ) (J2 : Z2 → GQ) : Z1 ⊕ Z2 → GQ
 | .inl z => J1 z
 | .inr z => J2 z
theorem Za3 {Z : Type} {J : Z → GQ} {z : Z} {id : Nat} (h : W P ba c (J z) E O n) (k : W P ba c (J z) E O n → W P ba (.block id c) Q E O n) : W P ba (.block id c) Q E O n := k h
theorem Xz {id : Nat} (h : W P ba c (JX id ba E' O' n0) E O n) (k : Q .normal E' O' n0) : W P ba (.block id c) Q E O n :=
 Xg (Z24 h (by show Yo id Q (.exit id) E' O' n0; simp only [Yo, if_true]; exact k))
theorem Kx {id : Nat} (h : W P ba c (JR ba E' O' n0) E O n) (k : Q .ret E' O' n0) : W P ba (.block id c) Q E O n := Xg (Z23 h k)
theorem Zem {i : Nat} {o : Option GObj} (h : O i = o) : O.upd i o = O := by
 funext j; unfold Objs.upd; split
 ·rename_i e; subst e; exact h.symm
 rfl
theorem Ql {i : Nat} {o : Option GObj} (hU : Und O n) (hi : i < n) : ∀ j, n ≤ j → O.upd i o j = none := fun j hj => by rw [Y5 _ _ (by omega)]; exact hU.fresh j hj
theorem Zab (O : Objs) (i : Nat) (a b : Option GObj) : (O.upd i a).upd i b = O.upd i b := by funext j; unfold Objs.upd; split <;> rfl
theorem Jj {α : Type} {f : α → List G} (h : ∀ x, (f x).all G.one = true) : ∀ xs : List α, (fl f xs).all G.one = true
 | [] => rfl
 | x :: xs => by rw [Vq, List.all_append, h x, Jj h xs]; rfl
section
variable {α : Type} {xs ys : List α} {f : α → List G} {t e : TypeId} {ie : TyI}
theorem Z2g {lo hi : Int} {sz : Nat} (hf : ∀ x, (f x).length = sz) (h : Zdv xs lo hi = some ys) : ((fl f xs).drop (lo.toNat * sz)).take ((hi - lo).toNat * sz) = fl f ys := by
 rw [Zit hf, Zm4 hf, Ztj h]
theorem Zvc {lo hi : Option KI} (ht : Z0 T t = some (.slice e)) (he : T e = some ie) (hf : ∀ x, (f x).length = ie.size) (h : Zdv xs (bLo lo) (bHi hi xs.length) = some ys) :
  Zfu T t (.sl xs.length (fl f xs)) lo hi none = some (0 ≤ bLo lo ∧ bLo lo ≤ bHi hi xs.length ∧ bHi hi xs.length ≤ bMx none xs.length ∧ bMx none xs.length ≤ xs.length, .sl ys.length (fl f ys)) := by
 unfold Zfu
 simp only [ht, he, Option.isSome_none, Bool.false_eq_true, false_and, if_false]
 rw [Z2g hf h, ← Zxt h]
end
end
theorem Zly (T : Qr) (t : TypeId) (c : G) (cs : List G) (off : Nat) : Zd5 T t (c :: cs) off = match T t with
  | none => none
  | some i => if i.k.isAgg then (if off + i.size ≤ (c :: cs).length then some (.agg (((c :: cs).drop off).take i.size)) else none) else (c :: cs)[off]? := rfl
theorem Zjx (c : G) (cells cs : List G) (off : Nat) : Ks (c :: cells) cs off = if off + cs.length ≤ (c :: cells).length then some ((c :: cells).take off ++ cs ++ (c :: cells).drop (off + cs.length)) else none := rfl
section
variable {O O' : Objs} {n' : Nat}
theorem Zuv : Ku O O' n' [] [] = True := by simp [Ku]
theorem Zgv (g g' : G) (r r' : List G) : Ku O O' n' (g :: r) (g' :: r') = (wk O O' n' g g' ∧ Ku O O' n' r r') := by
 simp only [Ku, List.cons.injEq, eq_iff_iff]
 exact ⟨fun ⟨_, _, ⟨rfl, rfl⟩, h⟩ => h, fun h => ⟨_, _, ⟨rfl, rfl⟩, h⟩⟩
theorem Zym (g : G) : wk O O' n' g .any = True := by unfold wk; rfl
theorem Zyr (g : G) (u : Value) : wk O O' n' g (.val u) = (g = .val u) := by unfold wk; rfl
theorem Zyl (a b : List G) : wk O O' n' (.agg a) (.agg b) = Ku O O' n' a b := by simp [wk]
theorem Zyq (a b : List G) : wk O O' n' (.tup a) (.tup b) = Ku O O' n' a b := by simp [wk]
theorem Z1s (f f' k k' : Nat) (a b : List G) : wk O O' n' (.fn f k a) (.fn f' k' b) = (f = f' ∧ k = k' ∧ Ku O O' n' a b) := by
 simp only [wk, G.fn.injEq, eq_iff_iff]
 exact ⟨fun ⟨_, ⟨h1, h2, rfl⟩, h⟩ => ⟨h1, h2, h⟩, fun ⟨h1, h2, h⟩ => ⟨_, ⟨h1, h2, rfl⟩, h⟩⟩
theorem Z1x (k k' : Nat) (a b : List G) : wk O O' n' (.sl k a) (.sl k' b) = (k = k' ∧ Ku O O' n' a b) := by simp [wk]
theorem Zk0 (k k' c : Nat) (b : List G) : wk O O' n' (.val (.slice none k c)) (.sl k' b) = (k = 0 ∧ k' = 0 ∧ b = []) := by simp [wk]
theorem Zqz (i k k' : Nat) (b : List G) : wk O O' n' (.row i k) (.sl k' b) = (k = k' ∧ O' i = none ∧ ∃ o, O i = some o ∧ o.row = true ∧ k = o.n ∧ Ku O O' n' o.cells b) := by simp [wk]
theorem Zuu (i off k k' : Nat) (b : List G) : wk O O' n' (.rs i off k) (.sl k' b) = (off = 0 ∧ k = k' ∧ O' i = none ∧ ∃ o, O i = some o ∧ o.row = false ∧ Ku O O' n' o.cells b) := by simp [wk]
theorem Z1t (k k' : Nat) (a b : List G) : wk O O' n' (.ip a k) (.ip b k') = (k = k' ∧ Ku O O' n' a b) := by simp [wk]
theorem Zqy (i k k' : Nat) (b : List G) : wk O O' n' (.ref i k) (.ip b k') = (k = k' ∧ O' i = none ∧ ∃ o, O i = some o ∧ o.row = false ∧ Ku O O' n' o.cells b) := by simp [wk]
theorem Zyp (g : G) (i k : Nat) : wk O O' n' g (.row i k) = (g = .row i k ∧ i < n') := by unfold wk; rfl
theorem Z1w (g : G) (i o k : Nat) : wk O O' n' g (.rs i o k) = (g = .rs i o k ∧ i < n') := by unfold wk; rfl
theorem Z1v (g : G) (i o k : Nat) : wk O O' n' g (.rp i o k) = (g = .rp i o k ∧ i < n') := by unfold wk; rfl
theorem Z1u (g : G) (i o k l : Nat) : wk O O' n' g (.rl i o k l) = (g = .rl i o k l ∧ i < n') := by unfold wk; rfl
theorem Zyo (g : G) (i k : Nat) : wk O O' n' g (.ref i k) = (g = .ref i k ∧ i < n') := by unfold wk; rfl
theorem Zwx (n K : Nat) : (n < n + K) = (0 < K) := by simp
theorem Z0f (n j K : Nat) : (n + j < n + K) = (j < K) := by simp
end
theorem K8 {O O' : Objs} {n' : Nat} (b b' : List G) : ∀ a : List G, G.pures a = true → Ku O O' n' (a ++ b) (a ++ b') = Ku O O' n' b b'
 | [], _ => rfl
 | x :: a, h => by
  simp only [G.pures, Bool.and_eq_true] at h
  rw [List.cons_append, List.cons_append, Zgv, K8 b b' a h.2, eq_iff_iff]
  exact ⟨fun q => q.2, fun q => ⟨Zn9 x (Zde _ x h.1), q⟩⟩
section
variable {α β ρ : Type} {xs ys : List α} {i lo hi : Int} {f : α → List G} {T : Qr} {t e : TypeId} {ti : TyI} {r : ρ}
theorem bC {o : Option α} {K : α → Option ρ} (h : o.bind K = some r) : ∃ x, o = some x ∧ K x = some r := Option.bind_eq_some_iff.1 h
theorem bE {K : α → Option ρ} (ht : T t = some ti) (hf : ∀ x, (f x).length = ti.size) (h0 : 0 < ti.size) (h : (Jc xs i).bind K = some r) :
  ∃ x, Jc xs i = some x ∧ 0 ≤ i ∧ i < (xs.length : Int) ∧ Zd5 T t (fl f xs) (i.toNat * ti.size) = (if ti.k.isAgg then some (.agg (f x)) else (f x)[0]?) ∧ K x = some r := by
 obtain ⟨x, hx, h⟩ := Option.bind_eq_some_iff.1 h
 exact ⟨x, hx, Zsa hx, Zy7 hx, Zwh ht hf h0 hx, h⟩
theorem bS {K : List α → Option ρ} {lo hi : Option KI} {a b : Int} (hlo : bLo lo = a) (hhi : bHi hi xs.length = b) (ht : Z0 T t = some (.slice e)) (he : T e = some ti) (hf : ∀ x, (f x).length = ti.size) (h : (Zdv xs a b).bind K = some r) :
  ∃ ys, 0 ≤ a ∧ a ≤ b ∧ b ≤ xs.length ∧ Zfu T t (.sl xs.length (fl f xs)) lo hi none = some (True, .sl ys.length (fl f ys)) ∧ K ys = some r := by
 subst hlo hhi
 obtain ⟨ys, hy, h⟩ := Option.bind_eq_some_iff.1 h
 have h1 := Ztm hy
 have h2 := Ztl hy
 have h3 := Ztk hy
 refine ⟨ys, h1, h2, h3, ?_, h⟩
 rw [Zvc ht he hf hy]
 simp only [h1, h2, h3, bMx, Int.le_refl, and_self]
theorem bA {b k : Nat} {K : List α → Option ρ} (hk : ys.length = k) (h : (Zb7 b xs ys).bind K = some r) : ∃ zs, (xs.length + k) * b ≤ 140737488355328 ∧ xs.length + k ≤ 140737488355328 ∧ zs = xs ++ ys ∧ K zs = some r := by
 obtain ⟨zs, hz, h⟩ := Option.bind_eq_some_iff.1 h
 subst hk
 exact ⟨zs, Zq4 hz, Zq5 hz, Zmw hz, h⟩
theorem bA0 {b k : Nat} {K : List α → Option ρ} (hk : ys.length = k) (h : (Zb7 b ([] : List α) ys).bind K = some r) : ∃ zs, k * b ≤ 140737488355328 ∧ k ≤ 140737488355328 ∧ zs = ys ∧ K zs = some r := by
 obtain ⟨zs, hz, h⟩ := Option.bind_eq_some_iff.1 h
 subst hk
 have h1 := Zq4 hz
 have h2 := Zq5 hz
 simp only [List.length_nil, Nat.zero_add] at h1 h2
 exact ⟨zs, h1, h2, Zmw hz, h⟩
theorem bG {c : Prop} [Decidable c] {K : Unit → Option ρ} (h : (Qs c).bind K = some r) : c ∧ K () = some r := by
 obtain ⟨u, hu, h⟩ := Option.bind_eq_some_iff.1 h
 exact ⟨Zwj hu, h⟩
theorem bM {b : Nat} {x : α} {K : List α → Option ρ} (h : (Ze9 b i x).bind K = some r) : ∃ zs, 0 ≤ i ∧ (b : Int) * i ≤ 140737488355328 ∧ i ≤ 140737488355328 ∧ zs = List.replicate i.toNat x ∧ K zs = some r := by
 obtain ⟨zs, hz, h⟩ := Option.bind_eq_some_iff.1 h
 have := Zzi hz
 exact ⟨zs, this.1, this.2.1, this.2.2, Zwz hz, h⟩
theorem Zm3 (k : Nat) (x : α) : fl f (List.replicate k x) = (List.replicate k (f x)).flatten := by simp [fl]
end
section
variable {P : Program} {T : Qr} {O O' X X' : Objs} {n n' n0 : Nat} {E E' : Env} {Q : GQ} {c x y : Code}
theorem Znh (l : List (Nat × G)) : ∀ k : List Nat, leL l (Zgm l k)
 | [] => trivial
 | _ :: k => ⟨rfl, Znh l k⟩
theorem Gc {ba : Nat} (keep : List Nat) (h : W P ba x (Xm (fun E O n => W P ba y Q ⟨E.n, [], Zgm E.l keep⟩ O n) Q) E O n) : W P ba (.seq x y) Q E O n := by
 refine Zh fun hb w m a hM hE => ?_
 refine wp_mono (h hb w m a hM hE) fun e a' w' ⟨E2, O2, n2, m2, h1, h2, h3, h4⟩ => ⟨E2, O2, n2, m2, ?_, h2, h3, h4⟩
 cases e with
 | normal => exact fun hb3 w3 m3 a3 hM3 hE3 => (h1 : W P ba y Q _ O2 n2) hb3 w3 m3 a3 hM3 (hE3.le ⟨rfl, Znh _ _⟩)
 | exit id => exact h1
 | goto l => exact h1
 | ret => exact h1
 | panic ch => exact h1
 | outgrown => exact h1
theorem Zlv {ba : Nat} (hb : ba ≤ n) : Fit2 ba E O n E O n := fun w m a hM hE => ⟨m, hM, hE, (Ext.refl w O m n).base hb⟩
theorem Yc {l l' : List (Option GObj)} {k : Nat} (hU : Und X n) (hk : l'.length = k) (hn : E'.n = E.n) (h : Zgd (Zo X n l) (Zo X n l') (n + k) l l' ∧ Zox (Zo X n l) (Zo X n l') (n + k) E.l E'.l) : Fit E (Zo X n l) E' (Zo X n l') (n + k) :=
 ⟨hn, Zcj hk (OutLe.refl hU (Nat.le_add_right _ _)) h.1, h.2⟩
theorem Zs {i : Nat} {q q' : GObj} {l l' : List (Option GObj)} {k : Nat} (hU : Und X n) (hk : l'.length = k) (hn : E'.n = E.n)
  (h : Zig q q' ∧ Ku (Zo (X.upd i (some q)) n l) (Zo (X.upd i (some q')) n l') (n + k) q.cells q'.cells ∧ Zgd (Zo (X.upd i (some q)) n l) (Zo (X.upd i (some q')) n l') (n + k) l l' ∧ Zox (Zo (X.upd i (some q)) n l) (Zo (X.upd i (some q')) n l') (n + k) E.l E'.l) :
  Fit E (Zo (X.upd i (some q)) n l) E' (Zo (X.upd i (some q')) n l') (n + k) :=
 ⟨hn, Zcj hk (OutLe.upd hU (Nat.le_add_right _ _) h.1 h.2.1) h.2.2.1, h.2.2.2⟩
theorem Zry {ba : Nat} {r : G} {rs : List ResultVar} {l : List (Option GObj)} {e : Exit} (he : e = .normal ∨ e = .ret) (hU : Und X n) (gs : List G) (hb : ba ≤ n') (h : Zey T (Zo X n l) E rs = some gs ∧ wk (Zo X n l) X n (Zjt gs) r) : Fin T rs r ba X n e E (Zo X n l) n' :=
 ⟨he, E, _, n', gs, Zlv hb, h.1, Zpe hU.fresh (OutLe.refl hU (Nat.le_refl _)), h.2⟩
end
end Go.Proofs.Ytgffgbdnbjbmoaa
