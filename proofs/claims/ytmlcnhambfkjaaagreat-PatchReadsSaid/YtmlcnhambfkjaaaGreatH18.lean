/- Part H18 of the ghost memory: lemmas and contracts used by the proofs of this seat's laws; each theorem bears its own conditions. -/
import Derived.Test.YtmlcnhambfkjaaaGreatH17
import Derived.WalkKit
import Derived.WalkSpells
import Derived.WalkLawsBesides
import Derived.Lib.Hide
import Derived.BigQuiet
import Derived.StillTailTactics
import Derived.Deep.RegionHeld3
import Derived.Deep.AppendLies
import Derived.Laws.CopyOwn
import Derived.Deep.DeepCutAuto
import Derived.Deep.QuietTactic
import Derived.Maps.AppendAt
import Derived.Great.BuildSlice
import Derived.Laws.StructEq
import Derived.ChangeKeysEq
import Derived.IntWalk
import Derived.Lib.AppendZeros
import Derived.Lib.AppendZerosOnto
import Derived.ProofKit
import Derived.OpenShut
import Derived.SizedLaws
import Derived.Deep.Slices
namespace Go.Proofs.YtmlcnhambfkjaaaGreat
open Go.RowKit
set_option linter.unusedVariables false
set_option linter.unusedSimpArgs false
theorem Zvp:Zfs .any = .any:=rfl
theorem Zvt (v:Value):Zfs (.val v) = .val v:=rfl
theorem Zvo (cs:List G):Zfs (.agg cs) = .agg cs:=rfl
theorem Zvs (cs:List G):Zfs (.tup cs) = .tup cs:=rfl
theorem Zy9 (n:Nat) (cs:List G):Zfs (.sl n cs) = .sl n cs:=rfl
theorem Zy5 (cs:List G) (k:Nat):Zfs (.ip cs k) = .ip cs k:=rfl
theorem Zvr (i n:Nat):Zfs (.row i n) = .row i n:=rfl
theorem Zy8 (i a n:Nat):Zfs (.rs i a n) = .rs i a n:=rfl
theorem Zy7 (i n a:Nat):Zfs (.rp i n a) = .rp i n a:=rfl
theorem Zy6 (i n a k:Nat):Zfs (.rl i n a k) = .rl i n a k:=rfl
theorem Zvq (i a:Nat):Zfs (.ref i a) = .ref i a:=rfl
theorem Zy3 (f k:Nat) (cs:List G):Zfs (.fn f k cs) = .fn f k cs:=rfl
theorem Zsn (b:Bool) (g:G):Zfs (.when b g)=g:=rfl
section
variable {O:Objs} {T:Vu} {op:BinOp} {t:TypeId}
theorem Zxy:Q1 O .any=True:=rfl
theorem Zx2 (v:Value):Q1 O (.val v)=True:=rfl
theorem Zxx (cs:List G):Q1 O (.agg cs)=True:=rfl
theorem Zx1 (cs:List G):Q1 O (.tup cs)=True:=rfl
theorem Z3m (n:Nat) (cs:List G):Q1 O (.sl n cs)=True:=rfl
theorem Z3i (cs:List G) (k:Nat):Q1 O (.ip cs k)=True:=rfl
theorem Z3g (f k:Nat) (cs:List G):Q1 O (.fn f k cs)=True:=rfl
theorem Zuz (b:Bool) (g:G):Q1 O (.when b g)=True:=rfl
theorem Zxz (i a:Nat):Q1 O (.ref i a)=∃ o,O i=some o∧o.row=false:=rfl
theorem Z3l (i a n:Nat):Q1 O (.rs i a n)=∃ o,O i=some o∧o.row=false:=rfl
theorem Z3k (i k a:Nat):Q1 O (.rp i k a)=∃ o,O i=some o∧o.row=true∧k=o.n:=rfl
theorem Z3j (i k a l:Nat):Q1 O (.rl i k a l)=True:=rfl
theorem Zx0 (i k:Nat):Q1 O (.row i k)=∃ o,O i=some o∧o.row=true∧k=o.n:=rfl
theorem Z2q (k k':IntKind) (a b:Int):Zs7 T op t (.val (.int k a)) (.val (.int k' b))=(Z6c op k a k' b).map fun r=>(r.1,.val r.2):=rfl
theorem Z2p (a b:Bool):Zs7 T op t (.val (.bool a)) (.val (.bool b))=match Yd T t,op with
  | some .bool,.eql=>some (True,.val (.bool (a == b)))
  | some .bool,.neq=>some (True,.val (.bool (a != b)))
  | _,_=>none:=rfl
theorem Z2v (a b:ByteArray):Zs7 T op t (.val (.string a)) (.val (.string b))=match op with
  | .eql=>some (True,.val (.bool (a.toList == b.toList)))
  | .neq=>some (True,.val (.bool (!(a.toList == b.toList))))
  | _=>none:=rfl
theorem Z2t:Zs7 T op t (.val (.pointer none)) (.val (.pointer none))=match Yd T t,op with
  | some (.ptr _),.eql=>some (True,.val (.bool true))
  | some (.ptr _),.neq=>some (True,.val (.bool false))
  | _,_=>none:=rfl
theorem Z2u (i a:Nat):Zs7 T op t (.ref i a) (.val (.pointer none))=match Yd T t,op with
  | some (.ptr _),.eql=>some (True,.val (.bool false))
  | some (.ptr _),.neq=>some (True,.val (.bool true))
  | _,_=>none:=rfl
theorem Z2r (cs:List G) (k:Nat):Zs7 T op t (.ip cs k) (.val (.pointer none))=match Yd T t,op with
  | some (.ptr _),.eql=>some (True,.val (.bool false))
  | some (.ptr _),.neq=>some (True,.val (.bool true))
  | _,_=>none:=rfl
theorem Z2s (a:Option Addr) (l c l' c':Nat):Zs7 T op t (.val (.slice a l c)) (.val (.slice none l' c'))=match Yd T t,op with
  | some (.slice _),.eql=>some (True,.val (.bool a.isNone))
  | some (.slice _),.neq=>some (True,.val (.bool (!a.isNone)))
  | _,_=>none:=rfl
theorem Z2o (xs ys:List G):Zs7 T op t (.agg xs) (.agg ys)=match T t,Zxo T 6 t xs ys with
  | some i,some b=>if i.k.isAgg=true∧i.eq=true then (match op with
   | .eql=>some (True,.val (.bool b))
   | .neq=>some (True,.val (.bool (!b)))
   | _=>none) else none
  | _,_=>none:=rfl
end
theorem Z3v:G.one .any=false:=rfl
theorem Z3z (v:Value):G.one (.val v)=v.oneCell':=rfl
theorem Z3u (cs:List G):G.one (.agg cs)=false:=rfl
theorem Z3y (cs:List G):G.one (.tup cs)=false:=rfl
theorem Zyi (b:Bool) (g:G):G.one (.when b g)=false:=rfl
theorem Z8k (n:Nat) (cs:List G):G.one (.sl n cs)=true:=rfl
theorem Z8g (cs:List G) (k:Nat):G.one (.ip cs k)=true:=rfl
theorem Z3x (i n:Nat):G.one (.row i n)=true:=rfl
theorem Z8j (i a n:Nat):G.one (.rs i a n)=true:=rfl
theorem Z8i (i n a:Nat):G.one (.rp i n a)=true:=rfl
theorem Z8h (i n a k:Nat):G.one (.rl i n a k)=true:=rfl
theorem Z3w (i a:Nat):G.one (.ref i a)=true:=rfl
theorem Z8f (f k:Nat) (cs:List G):G.one (.fn f k cs)=true:=rfl
theorem Zon (cs:List G):Jn (.agg cs)=some cs:=rfl
theorem Zos (v:Value):Jn (.val v)=match v with
  | .agg vs=>some (vs.toList.map .val)
  | v=>if G.one (.val v)=true then some [.val v] else none:=by cases v <;> rfl
theorem Zrj (n:Nat) (cs:List G):Jn (.sl n cs)=some [.sl n cs]:=rfl
theorem Zrf (cs:List G) (k:Nat):Jn (.ip cs k)=some [.ip cs k]:=rfl
theorem Zoq (i n:Nat):Jn (.row i n)=some [.row i n]:=rfl
theorem Zri (i a n:Nat):Jn (.rs i a n)=some [.rs i a n]:=rfl
theorem Zrh (i n a:Nat):Jn (.rp i n a)=some [.rp i n a]:=rfl
theorem Zrg (i n a k:Nat):Jn (.rl i n a k)=some [.rl i n a k]:=rfl
theorem Zop (i a:Nat):Jn (.ref i a)=some [.ref i a]:=rfl
theorem Zrd (f k:Nat) (cs:List G):Jn (.fn f k cs)=some [.fn f k cs]:=rfl
theorem Zoo:Jn .any=none:=rfl
theorem Zor (cs:List G):Jn (.tup cs)=none:=rfl
theorem Zm9 (b:Bool) (g:G):Jn (.when b g)=none:=rfl
def gP {α:Type} (f:α→List G):Option α→G
 | none => .val (.pointer none)
 | some x => .ip (f x) 0
def eP {α:Type} (f:α→List G) (x:Option α):List G:=[gP f x]
section
variable {α:Type} {f:α→List G} {T:Vu} {t e:TypeId} {O O':Objs} {n':Nat}
theorem Z2l:gP f none = .val (.pointer none):=rfl
theorem Z2m (x:α):gP f (some x) = .ip (f x) 0:=rfl
theorem Zy4 (x:Option α):Zfs (gP f x)=gP f x:=by cases x <;> rfl
theorem Yar (x:Option α) (l:List G):wok (gP f x::l)=wok l:=by cases x <;> rfl
theorem Zh8 (x:Option α):(gP f x).one=true:=by cases x <;> rfl
theorem Zre (x:Option α):Jn (gP f x)=some [gP f x]:=by cases x <;> rfl
theorem K7 (h:∀ x,G.pures (f x)=true) (x:Option α):(gP f x).pure=true:=by
 cases x with
 | none=>rfl
 | some x=>simp only [gP,G.pure,h]
theorem Zdz (h:∀ x,G.pures (f x)=true) (k:Nat) (x:Option α):(gP f x).under k=true:=Zns k _ (K7 h x)
theorem Zpx (h:∀ x,G.pures (f x)=true) (x:Option α):wk O O' n' (gP f x) (gP f x)=True:=eq_true (Z5q _ (Zdz h _ x))
theorem Z3h (x:Option α):Q1 O (gP f x)=True:=by cases x <;> rfl
theorem Z59 (hk:Yd T t=some (.ptr e)) (x:Option α):Zs7 T .eql t (gP f x) (.val (.pointer none))=some (True,.val (.bool x.isNone)):=by cases x <;> simp [gP,Zs7,hk]
end
theorem Zyz {α:Type}:∀ {l:List α} {k:Nat} {x:α},l[k]? = some x→l.set k x=l
 | [],k,x,h=>by simp at h
 | y::l,0,x,h=>by simp at h;simp [h]
 | y::l,k+1,x,h=>by simp only [List.set_cons_succ,Zyz (l:=l) (k:=k) (by simpa using h)]
section
variable {P:Program} {w:World} {O:Objs} {m:Hands} {n:Nat}
theorem Z8o (hM:Mem w O m n) {p:Nat} {q q':GObj} (hp:O p=some q) (h1:q'.row=q.row) (h2:q'.ty=q.ty) (h3:q'.sz=q.sz) (h4:q'.n=q.n) (hc:∀ vs,G.reps w O m n q.cells vs→G.reps w O m n q'.cells vs) :
  Mem w (O.upd p (some q')) m n∧Ext w O m n w (O.upd p (some q')) m n:=by
 have hpn:p < n:=by
  rcases Nat.lt_or_ge p n with h | h
  ·exact h
  rw [hM.fresh p h] at hp;cases hp
 have hold:∀ i o',(O.upd p (some q')) i=some o'→∃ o,O i=some o∧o'.row=o.row∧o'.n=o.n:=fun i o' hi=>by
  by_cases e:i=p
  ·subst e;rw [Xo] at hi;injection hi with hi;subst hi;exact ⟨q,hp,h1,h4⟩
  rw [J0 _ _ e] at hi;exact ⟨o',hi,rfl,rfl⟩
 have hrep:∀ (gs:List G) (vs:List Value),G.reps w O m n gs vs→G.reps w (O.upd p (some q')) m n gs vs:=fun gs vs h=>Ze9 hold gs vs h (Za3 gs vs h)
 refine ⟨⟨fun i hi => ?_,fun i o' hi => ?_,fun i j oi oj b hi hj => ?_⟩,⟨rfl,rfl,rfl,Nat.le_refl _,Nat.le_refl _,fun b _ ho=>⟨rfl,fun ⟨i,o',hi,hb⟩ => ?_⟩,fun i _ o' hi => ?_⟩⟩
 ·rw [J0 _ _ (by omega)];exact hM.fresh i hi
 ·by_cases e:i=p
  ·subst e
   rw [Xo] at hi
   injection hi with hi
   subst hi
   obtain ⟨vs,hr,hx⟩:=hM.obj i q hp
   refine ⟨vs,hrep _ _ (hc vs hr),?_⟩
   rw [h1,h2,h3,h4];exact hx
  rw [J0 _ _ e] at hi
  obtain ⟨vs,hr,hx⟩:=hM.obj i o' hi
  exact ⟨vs,hrep _ _ hr,hx⟩
 ·obtain ⟨o1,e1,_⟩:=hold i oi hi
  obtain ⟨o2,e2,_⟩:=hold j oj hj
  exact hM.apart i j o1 o2 b e1 e2
 ·obtain ⟨o1,e1,_⟩:=hold i o' hi
  exact ho ⟨i,o1,e1,hb⟩
 obtain ⟨o1,e1,e2,e3⟩:=hold i o' hi
 exact ⟨o1,e1,e2,Nat.le_of_eq e3.symm,fun _=>rfl⟩
theorem Zgn {ba:Nat} {E:Env} {p k:Nat} {q:GObj} (t:TypeId) (sz:Nat) (hp:O p=some q) (hk:q.cells[k]? = some (.val (.slice none 0 0))) (hb:ba≤n) :
  Fit2 ba E O n E ((O.upd n (some ⟨true,t,sz,0,[]⟩)).upd p (some ⟨q.row,q.ty,q.sz,q.n,q.cells.set k (.row n 0)⟩)) (n+1):=fun w m a hM hE=>by
 have hpn:p≠n:=fun e=>by rw [e,hM.fresh n (Nat.le_refl _)] at hp;cases hp
 obtain ⟨h1,h2⟩:=Z1j hM t sz
 have hp':(O.upd n (some ⟨true,t,sz,0,[]⟩)) p=some q:=by rw [J0 _ _ hpn];exact hp
 obtain ⟨h3,h4⟩:=Z8o (q':=⟨q.row,q.ty,q.sz,q.n,q.cells.set k (.row n 0)⟩) h1 hp' rfl rfl rfl rfl (fun vs hr=>by
  obtain ⟨v,hv,hrv⟩:=Zqf _ _ hr k _ hk
  simp only [G.rep] at hrv
  subst hrv
  have:=Zyt q.cells vs k (.row n 0) (.slice none 0 0) hr (Z1k t sz)
  rw [Zyz hv] at this
  exact this)
 have hX:=h2.trans h4
 exact ⟨_,h3,hE.ext hX,hX.base hb⟩
end
end Go.Proofs.YtmlcnhambfkjaaaGreat
