/- Part H18 of the ghost memory: lemmas and contracts used by the proofs of this seat's laws; each theorem bears its own conditions. -/
import Derived.Test.YtbjcopkgdjombaaH17
import Derived.WalkKit
import Derived.WalkSpells
import Derived.WalkLawsBesides
import Derived.Lib.Hide
import Derived.BigQuiet
import Derived.StillTailTactics
import Derived.Deep.RegionHeld3
import Derived.Deep.AppendLies
import Derived.Laws.CopyOwn
import Derived.Deep.DeepCutAuto
import Derived.Deep.QuietTactic
import Derived.Maps.AppendAt
import Derived.Great.BuildSlice
import Derived.Laws.StructEq
import Derived.IntWalk
import Derived.ProofKit
import Derived.OpenShut
import Derived.SizedLaws
import Derived.Deep.Slices
namespace Go.Proofs.Ytbjcopkgdjombaa
open Go.RowKit
set_option linter.unusedVariables false
set_option linter.unusedSimpArgs false
theorem Zhx:Zgo .any = .any:=rfl
theorem Zh1 (v:Value):Zgo (.val v) = .val v:=rfl
theorem Zhw (cs:List G):Zgo (.agg cs) = .agg cs:=rfl
theorem Zh0 (cs:List G):Zgo (.tup cs) = .tup cs:=rfl
theorem Zkr (n:Nat) (cs:List G):Zgo (.sl n cs) = .sl n cs:=rfl
theorem Zko (cs:List G) (k:Nat):Zgo (.ip cs k) = .ip cs k:=rfl
theorem Zhz (i n:Nat):Zgo (.row i n) = .row i n:=rfl
theorem Zkq (i a n:Nat):Zgo (.rs i a n) = .rs i a n:=rfl
theorem Zkp (i n a:Nat):Zgo (.rp i n a) = .rp i n a:=rfl
theorem Zhy (i a:Nat):Zgo (.ref i a) = .ref i a:=rfl
theorem Zkm (f k:Nat) (cs:List G):Zgo (.fn f k cs) = .fn f k cs:=rfl
theorem Zft (b:Bool) (g:G):Zgo (.when b g)=g:=rfl
section
variable {O:Objs} {T:Gs} {op:BinOp} {t:TypeId}
theorem Zj0:Jh O .any=True:=rfl
theorem Zj4 (v:Value):Jh O (.val v)=True:=rfl
theorem Zjz (cs:List G):Jh O (.agg cs)=True:=rfl
theorem Zj3 (cs:List G):Jh O (.tup cs)=True:=rfl
theorem Znx (n:Nat) (cs:List G):Jh O (.sl n cs)=True:=rfl
theorem Znu (cs:List G) (k:Nat):Jh O (.ip cs k)=True:=rfl
theorem Zns (f k:Nat) (cs:List G):Jh O (.fn f k cs)=True:=rfl
theorem Zhl (b:Bool) (g:G):Jh O (.when b g)=True:=rfl
theorem Zj1 (i a:Nat):Jh O (.ref i a)=∃ o,O i=some o∧o.row=false:=rfl
theorem Znw (i a n:Nat):Jh O (.rs i a n)=∃ o,O i=some o∧o.row=false:=rfl
theorem Znv (i k a:Nat):Jh O (.rp i k a)=∃ o,O i=some o∧o.row=true∧k=o.n:=rfl
theorem Zj2 (i k:Nat):Jh O (.row i k)=∃ o,O i=some o∧o.row=true∧k=o.n:=rfl
theorem Znd (k k':IntKind) (a b:Int):Zyg T op t (.val (.int k a)) (.val (.int k' b))=(Zwl op k a k' b).map fun r=>(r.1,.val r.2):=rfl
theorem Znc (a b:Bool):Zyg T op t (.val (.bool a)) (.val (.bool b))=match Yu T t,op with
  | some .bool,.eql=>some (True,.val (.bool (a == b)))
  | some .bool,.neq=>some (True,.val (.bool (a != b)))
  | _,_=>none:=rfl
theorem Zni (a b:ByteArray):Zyg T op t (.val (.string a)) (.val (.string b))=match op with
  | .eql=>some (True,.val (.bool (a.toList == b.toList)))
  | .neq=>some (True,.val (.bool (!(a.toList == b.toList))))
  | _=>none:=rfl
theorem Zng:Zyg T op t (.val (.pointer none)) (.val (.pointer none))=match Yu T t,op with
  | some (.ptr _),.eql=>some (True,.val (.bool true))
  | some (.ptr _),.neq=>some (True,.val (.bool false))
  | _,_=>none:=rfl
theorem Znh (i a:Nat):Zyg T op t (.ref i a) (.val (.pointer none))=match Yu T t,op with
  | some (.ptr _),.eql=>some (True,.val (.bool false))
  | some (.ptr _),.neq=>some (True,.val (.bool true))
  | _,_=>none:=rfl
theorem Zne (cs:List G) (k:Nat):Zyg T op t (.ip cs k) (.val (.pointer none))=match Yu T t,op with
  | some (.ptr _),.eql=>some (True,.val (.bool false))
  | some (.ptr _),.neq=>some (True,.val (.bool true))
  | _,_=>none:=rfl
theorem Znf (a:Option Addr) (l c l' c':Nat):Zyg T op t (.val (.slice a l c)) (.val (.slice none l' c'))=match Yu T t,op with
  | some (.slice _),.eql=>some (True,.val (.bool a.isNone))
  | some (.slice _),.neq=>some (True,.val (.bool (!a.isNone)))
  | _,_=>none:=rfl
theorem Znb (xs ys:List G):Zyg T op t (.agg xs) (.agg ys)=match T t,Ztu T 6 t xs ys with
  | some i,some b=>if i.k.isAgg=true∧i.eq=true then (match op with
   | .eql=>some (True,.val (.bool b))
   | .neq=>some (True,.val (.bool (!b)))
   | _=>none) else none
  | _,_=>none:=rfl
end
theorem Zn1:G.one .any=false:=rfl
theorem Zn5 (v:Value):G.one (.val v)=v.oneCell':=rfl
theorem Zn0 (cs:List G):G.one (.agg cs)=false:=rfl
theorem Zn4 (cs:List G):G.one (.tup cs)=false:=rfl
theorem Zkd (b:Bool) (g:G):G.one (.when b g)=false:=rfl
theorem Zr2 (n:Nat) (cs:List G):G.one (.sl n cs)=true:=rfl
theorem Zry (cs:List G) (k:Nat):G.one (.ip cs k)=true:=rfl
theorem Zn3 (i n:Nat):G.one (.row i n)=true:=rfl
theorem Zr1 (i a n:Nat):G.one (.rs i a n)=true:=rfl
theorem Zr0 (i n a:Nat):G.one (.rp i n a)=true:=rfl
theorem Zn2 (i a:Nat):G.one (.ref i a)=true:=rfl
theorem Zrx (f k:Nat) (cs:List G):G.one (.fn f k cs)=true:=rfl
theorem Zc0 (cs:List G):Vb (.agg cs)=some cs:=rfl
theorem Zc5 (v:Value):Vb (.val v)=match v with
  | .agg vs=>some (vs.toList.map .val)
  | v=>if G.one (.val v)=true then some [.val v] else none:=by cases v <;> rfl
theorem Zex (n:Nat) (cs:List G):Vb (.sl n cs)=some [.sl n cs]:=rfl
theorem Zeu (cs:List G) (k:Nat):Vb (.ip cs k)=some [.ip cs k]:=rfl
theorem Zc3 (i n:Nat):Vb (.row i n)=some [.row i n]:=rfl
theorem Zew (i a n:Nat):Vb (.rs i a n)=some [.rs i a n]:=rfl
theorem Zev (i n a:Nat):Vb (.rp i n a)=some [.rp i n a]:=rfl
theorem Zc2 (i a:Nat):Vb (.ref i a)=some [.ref i a]:=rfl
theorem Zes (f k:Nat) (cs:List G):Vb (.fn f k cs)=some [.fn f k cs]:=rfl
theorem Zc1:Vb .any=none:=rfl
theorem Zc4 (cs:List G):Vb (.tup cs)=none:=rfl
theorem Zb7 (b:Bool) (g:G):Vb (.when b g)=none:=rfl
def gP {α:Type} (f:α→List G):Option α→G
 | none => .val (.pointer none)
 | some x => .ip (f x) 0
def eP {α:Type} (f:α→List G) (x:Option α):List G:=[gP f x]
section
variable {α:Type} {f:α→List G} {T:Gs} {t e:TypeId} {O O':Objs} {n':Nat}
theorem Zm9:gP f none = .val (.pointer none):=rfl
theorem Zna (x:α):gP f (some x) = .ip (f x) 0:=rfl
theorem Zkn (x:Option α):Zgo (gP f x)=gP f x:=by cases x <;> rfl
theorem Ztg (x:Option α) (l:List G):wok (gP f x::l)=wok l:=by cases x <;> rfl
theorem Zei (x:Option α):(gP f x).one=true:=by cases x <;> rfl
theorem Zet (x:Option α):Vb (gP f x)=some [gP f x]:=by cases x <;> rfl
theorem Gk (h:∀ x,G.pures (f x)=true) (x:Option α):(gP f x).pure=true:=by
 cases x with
 | none=>rfl
 | some x=>simp only [gP,G.pure,h]
theorem Zfw (h:∀ x,G.pures (f x)=true) (k:Nat) (x:Option α):(gP f x).under k=true:=Zqi k _ (Gk h x)
theorem Zua (h:∀ x,G.pures (f x)=true) (x:Option α):wk O O' n' (gP f x) (gP f x)=True:=eq_true (Z3o _ (Zfw h _ x))
theorem Znt (x:Option α):Jh O (gP f x)=True:=by cases x <;> rfl
end
theorem Z0u {α:Type}:∀ {l:List α} {k:Nat} {x:α},l[k]? = some x→l.set k x=l
 | [],k,x,h=>by simp at h
 | y::l,0,x,h=>by simp at h;simp [h]
 | y::l,k+1,x,h=>by simp only [List.set_cons_succ,Z0u (l:=l) (k:=k) (by simpa using h)]
section
variable {P:Program} {w:World} {O:Objs} {m:Hands} {n:Nat}
theorem Z6a (hM:Mem w O m n) {p:Nat} {q q':GObj} (hp:O p=some q) (h1:q'.row=q.row) (h2:q'.ty=q.ty) (h3:q'.sz=q.sz) (h4:q'.n=q.n) (hc:∀ vs,G.reps w O m n q.cells vs→G.reps w O m n q'.cells vs) :
  Mem w (O.upd p (some q')) m n∧Ext w O m n w (O.upd p (some q')) m n:=by
 have hpn:p < n:=by
  rcases Nat.lt_or_ge p n with h | h
  ·exact h
  rw [hM.fresh p h] at hp;cases hp
 have hold:∀ i o',(O.upd p (some q')) i=some o'→∃ o,O i=some o∧o'.row=o.row∧o'.n=o.n:=fun i o' hi=>by
  by_cases e:i=p
  ·subst e;rw [Yb] at hi;injection hi with hi;subst hi;exact ⟨q,hp,h1,h4⟩
  rw [Xd _ _ e] at hi;exact ⟨o',hi,rfl,rfl⟩
 have hrep:∀ (gs:List G) (vs:List Value),G.reps w O m n gs vs→G.reps w (O.upd p (some q')) m n gs vs:=fun gs vs h=>Zfr hold gs vs h (Zcw gs vs h)
 refine ⟨⟨fun i hi => ?_,fun i o' hi => ?_,fun i j oi oj b hi hj => ?_⟩,⟨rfl,rfl,rfl,Nat.le_refl _,Nat.le_refl _,fun b _ ho=>⟨rfl,fun ⟨i,o',hi,hb⟩ => ?_⟩,fun i _ o' hi => ?_⟩⟩
 ·rw [Xd _ _ (by omega)];exact hM.fresh i hi
 ·by_cases e:i=p
  ·subst e
   rw [Yb] at hi
   injection hi with hi
   subst hi
   obtain ⟨vs,hr,hx⟩:=hM.obj i q hp
   refine ⟨vs,hrep _ _ (hc vs hr),?_⟩
   rw [h1,h2,h3,h4];exact hx
  rw [Xd _ _ e] at hi
  obtain ⟨vs,hr,hx⟩:=hM.obj i o' hi
  exact ⟨vs,hrep _ _ hr,hx⟩
 ·obtain ⟨o1,e1,_⟩:=hold i oi hi
  obtain ⟨o2,e2,_⟩:=hold j oj hj
  exact hM.apart i j o1 o2 b e1 e2
 ·obtain ⟨o1,e1,_⟩:=hold i o' hi
  exact ho ⟨i,o1,e1,hb⟩
 obtain ⟨o1,e1,e2,e3⟩:=hold i o' hi
 exact ⟨o1,e1,e2,Nat.le_of_eq e3.symm,fun _=>rfl⟩
theorem Zav {ba:Nat} {E:Env} {p k:Nat} {q:GObj} (t:TypeId) (sz:Nat) (hp:O p=some q) (hk:q.cells[k]? = some (.val (.slice none 0 0))) (hb:ba≤n) :
  Fit2 ba E O n E ((O.upd n (some ⟨true,t,sz,0,[]⟩)).upd p (some ⟨q.row,q.ty,q.sz,q.n,q.cells.set k (.row n 0)⟩)) (n+1):=fun w m a hM hE=>by
 have hpn:p≠n:=fun e=>by rw [e,hM.fresh n (Nat.le_refl _)] at hp;cases hp
 obtain ⟨h1,h2⟩:=Z1h hM t sz
 have hp':(O.upd n (some ⟨true,t,sz,0,[]⟩)) p=some q:=by rw [Xd _ _ hpn];exact hp
 obtain ⟨h3,h4⟩:=Z6a (q':=⟨q.row,q.ty,q.sz,q.n,q.cells.set k (.row n 0)⟩) h1 hp' rfl rfl rfl rfl (fun vs hr=>by
  obtain ⟨v,hv,hrv⟩:=Ztp _ _ hr k _ hk
  simp only [G.rep] at hrv
  subst hrv
  have:=Z0q q.cells vs k (.row n 0) (.slice none 0 0) hr (Z1i t sz)
  rw [Z0u hv] at this
  exact this)
 have hX:=h2.trans h4
 exact ⟨_,h3,hE.ext hX,hX.base hb⟩
end
end Go.Proofs.Ytbjcopkgdjombaa
