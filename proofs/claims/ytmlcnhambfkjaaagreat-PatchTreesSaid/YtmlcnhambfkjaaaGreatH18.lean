/- Part H18 of the ghost memory: lemmas and contracts used by the proofs of this seat's laws; each theorem bears its own conditions. -/
import Derived.Test.YtmlcnhambfkjaaaGreatH17
import Derived.WalkKit
import Derived.WalkSpells
import Derived.WalkLawsBesides
import Derived.Lib.Hide
import Derived.BigQuiet
import Derived.StillTailTactics
import Derived.Deep.RegionHeld3
import Derived.Deep.AppendLies
import Derived.Laws.CopyOwn
import Derived.Deep.DeepCutAuto
import Derived.Deep.QuietTactic
import Derived.Maps.AppendAt
import Derived.Great.BuildSlice
import Derived.Laws.StructEq
import Derived.ChangeKeysEq
import Derived.IntWalk
import Derived.Lib.AppendZeros
import Derived.Lib.AppendZerosOnto
import Derived.ProofKit
import Derived.OpenShut
import Derived.SizedLaws
import Derived.Deep.Slices
namespace Go.Proofs.YtmlcnhambfkjaaaGreat
open Go.RowKit
set_option linter.unusedVariables false
set_option linter.unusedSimpArgs false
theorem Zpw:Zg3 .any = .any:=rfl
theorem Zp1 (v:Value):Zg3 (.val v) = .val v:=rfl
theorem Zpv (cs:List G):Zg3 (.agg cs) = .agg cs:=rfl
theorem Zp0 (cs:List G):Zg3 (.tup cs) = .tup cs:=rfl
theorem Zta (n:Nat) (cs:List G):Zg3 (.sl n cs) = .sl n cs:=rfl
theorem Zs6 (cs:List G) (k:Nat):Zg3 (.ip cs k) = .ip cs k:=rfl
theorem Zpz (i n:Nat):Zg3 (.row i n) = .row i n:=rfl
theorem Zs9 (i a n:Nat):Zg3 (.rs i a n) = .rs i a n:=rfl
theorem Zs8 (i n a:Nat):Zg3 (.rp i n a) = .rp i n a:=rfl
theorem Zs7 (i n a k:Nat):Zg3 (.rl i n a k) = .rl i n a k:=rfl
theorem Zpx (i a:Nat):Zg3 (.ref i a) = .ref i a:=rfl
theorem Zs4 (f k:Nat) (cs:List G):Zg3 (.fn f k cs) = .fn f k cs:=rfl
theorem Znh (b:Bool) (g:G):Zg3 (.when b g)=g:=rfl
section
variable {O:Objs} {T:Ue} {op:BinOp} {t:TypeId}
theorem Zsb:Q3 O .any=True:=rfl
theorem Zsf (v:Value):Q3 O (.val v)=True:=rfl
theorem Zsa (cs:List G):Q3 O (.agg cs)=True:=rfl
theorem Zse (cs:List G):Q3 O (.tup cs)=True:=rfl
theorem Zxu (n:Nat) (cs:List G):Q3 O (.sl n cs)=True:=rfl
theorem Zxq (cs:List G) (k:Nat):Q3 O (.ip cs k)=True:=rfl
theorem Zxo (f k:Nat) (cs:List G):Q3 O (.fn f k cs)=True:=rfl
theorem Zo8 (b:Bool) (g:G):Q3 O (.when b g)=True:=rfl
theorem Zsc (i a:Nat):Q3 O (.ref i a)=∃ o,O i=some o∧o.row=false:=rfl
theorem Zxt (i a n:Nat):Q3 O (.rs i a n)=∃ o,O i=some o∧o.row=false:=rfl
theorem Zxs (i k a:Nat):Q3 O (.rp i k a)=∃ o,O i=some o∧o.row=true∧k=o.n:=rfl
theorem Zxr (i k a l:Nat):Q3 O (.rl i k a l)=True:=rfl
theorem Zsd (i k:Nat):Q3 O (.row i k)=∃ o,O i=some o∧o.row=true∧k=o.n:=rfl
theorem Zw7 (k k':IntKind) (a b:Int):Zw4 T op t (.val (.int k a)) (.val (.int k' b))=(Z59 op k a k' b).map fun r=>(r.1,.val r.2):=rfl
theorem Zw6 (a b:Bool):Zw4 T op t (.val (.bool a)) (.val (.bool b))=match Yc T t,op with
  | some .bool,.eql=>some (True,.val (.bool (a == b)))
  | some .bool,.neq=>some (True,.val (.bool (a != b)))
  | _,_=>none:=rfl
theorem Zxc (a b:ByteArray):Zw4 T op t (.val (.string a)) (.val (.string b))=match op with
  | .eql=>some (True,.val (.bool (a.toList == b.toList)))
  | .neq=>some (True,.val (.bool (!(a.toList == b.toList))))
  | _=>none:=rfl
theorem Zxa:Zw4 T op t (.val (.pointer none)) (.val (.pointer none))=match Yc T t,op with
  | some (.ptr _),.eql=>some (True,.val (.bool true))
  | some (.ptr _),.neq=>some (True,.val (.bool false))
  | _,_=>none:=rfl
theorem Zxb (i a:Nat):Zw4 T op t (.ref i a) (.val (.pointer none))=match Yc T t,op with
  | some (.ptr _),.eql=>some (True,.val (.bool false))
  | some (.ptr _),.neq=>some (True,.val (.bool true))
  | _,_=>none:=rfl
theorem Zw8 (cs:List G) (k:Nat):Zw4 T op t (.ip cs k) (.val (.pointer none))=match Yc T t,op with
  | some (.ptr _),.eql=>some (True,.val (.bool false))
  | some (.ptr _),.neq=>some (True,.val (.bool true))
  | _,_=>none:=rfl
theorem Zw9 (a:Option Addr) (l c l' c':Nat):Zw4 T op t (.val (.slice a l c)) (.val (.slice none l' c'))=match Yc T t,op with
  | some (.slice _),.eql=>some (True,.val (.bool a.isNone))
  | some (.slice _),.neq=>some (True,.val (.bool (!a.isNone)))
  | _,_=>none:=rfl
theorem Zw5 (xs ys:List G):Zw4 T op t (.agg xs) (.agg ys)=match T t,Z0j T 6 t xs ys with
  | some i,some b=>if i.k.isAgg=true∧i.eq=true then (match op with
   | .eql=>some (True,.val (.bool b))
   | .neq=>some (True,.val (.bool (!b)))
   | _=>none) else none
  | _,_=>none:=rfl
end
theorem Zyc:G.one .any=false:=rfl
theorem Zyg (v:Value):G.one (.val v)=v.oneCell':=rfl
theorem Zyb (cs:List G):G.one (.agg cs)=false:=rfl
theorem Zyf (cs:List G):G.one (.tup cs)=false:=rfl
theorem Zsu (b:Bool) (g:G):G.one (.when b g)=false:=rfl
theorem Z3i (n:Nat) (cs:List G):G.one (.sl n cs)=true:=rfl
theorem Z3e (cs:List G) (k:Nat):G.one (.ip cs k)=true:=rfl
theorem Zye (i n:Nat):G.one (.row i n)=true:=rfl
theorem Z3h (i a n:Nat):G.one (.rs i a n)=true:=rfl
theorem Z3g (i n a:Nat):G.one (.rp i n a)=true:=rfl
theorem Z3f (i n a k:Nat):G.one (.rl i n a k)=true:=rfl
theorem Zyd (i a:Nat):G.one (.ref i a)=true:=rfl
theorem Z3d (f k:Nat) (cs:List G):G.one (.fn f k cs)=true:=rfl
theorem Zke (cs:List G):Ju (.agg cs)=some cs:=rfl
theorem Zkj (v:Value):Ju (.val v)=match v with
  | .agg vs=>some (vs.toList.map .val)
  | v=>if G.one (.val v)=true then some [.val v] else none:=by cases v <;> rfl
theorem Zl9 (n:Nat) (cs:List G):Ju (.sl n cs)=some [.sl n cs]:=rfl
theorem Zl5 (cs:List G) (k:Nat):Ju (.ip cs k)=some [.ip cs k]:=rfl
theorem Zkh (i n:Nat):Ju (.row i n)=some [.row i n]:=rfl
theorem Zl8 (i a n:Nat):Ju (.rs i a n)=some [.rs i a n]:=rfl
theorem Zl7 (i n a:Nat):Ju (.rp i n a)=some [.rp i n a]:=rfl
theorem Zl6 (i n a k:Nat):Ju (.rl i n a k)=some [.rl i n a k]:=rfl
theorem Zkg (i a:Nat):Ju (.ref i a)=some [.ref i a]:=rfl
theorem Zl3 (f k:Nat) (cs:List G):Ju (.fn f k cs)=some [.fn f k cs]:=rfl
theorem Zkf:Ju .any=none:=rfl
theorem Zki (cs:List G):Ju (.tup cs)=none:=rfl
theorem Zi2 (b:Bool) (g:G):Ju (.when b g)=none:=rfl
def gP {α:Type} (f:α→List G):Option α→G
 | none => .val (.pointer none)
 | some x => .ip (f x) 0
def eP {α:Type} (f:α→List G) (x:Option α):List G:=[gP f x]
section
variable {α:Type} {f:α→List G} {T:Ue} {t e:TypeId} {O O':Objs} {n':Nat}
theorem Zw2:gP f none = .val (.pointer none):=rfl
theorem Zw3 (x:α):gP f (some x) = .ip (f x) 0:=rfl
theorem Zs5 (x:Option α):Zg3 (gP f x)=gP f x:=by cases x <;> rfl
theorem Z57 (x:Option α) (l:List G):wok (gP f x::l)=wok l:=by cases x <;> rfl
theorem Zhb (x:Option α):(gP f x).one=true:=by cases x <;> rfl
theorem Zl4 (x:Option α):Ju (gP f x)=some [gP f x]:=by cases x <;> rfl
theorem Vo (h:∀ x,G.pures (f x)=true) (x:Option α):(gP f x).pure=true:=by
 cases x with
 | none=>rfl
 | some x=>simp only [gP,G.pure,h]
theorem Zfe (h:∀ x,G.pures (f x)=true) (k:Nat) (x:Option α):(gP f x).under k=true:=Zqx k _ (Vo h x)
theorem Zu0 (h:∀ x,G.pures (f x)=true) (x:Option α):wk O O' n' (gP f x) (gP f x)=True:=eq_true (Z8q _ (Zfe h _ x))
theorem Zxp (x:Option α):Q3 O (gP f x)=True:=by cases x <;> rfl
theorem Z87 (hk:Yc T t=some (.ptr e)) (x:Option α):Zw4 T .eql t (gP f x) (.val (.pointer none))=some (True,.val (.bool x.isNone)):=by cases x <;> simp [gP,Zw4,hk]
end
theorem Z3u {α:Type}:∀ {l:List α} {k:Nat} {x:α},l[k]? = some x→l.set k x=l
 | [],k,x,h=>by simp at h
 | y::l,0,x,h=>by simp at h;simp [h]
 | y::l,k+1,x,h=>by simp only [List.set_cons_succ,Z3u (l:=l) (k:=k) (by simpa using h)]
section
variable {P:Program} {w:World} {O:Objs} {m:Hands} {n:Nat}
theorem Yby (hM:Mem w O m n) {p:Nat} {q q':GObj} (hp:O p=some q) (h1:q'.row=q.row) (h2:q'.ty=q.ty) (h3:q'.sz=q.sz) (h4:q'.n=q.n) (hc:∀ vs,G.reps w O m n q.cells vs→G.reps w O m n q'.cells vs) :
  Mem w (O.upd p (some q')) m n∧Ext w O m n w (O.upd p (some q')) m n:=by
 have hpn:p < n:=by
  rcases Nat.lt_or_ge p n with h | h
  ·exact h
  rw [hM.fresh p h] at hp;cases hp
 have hold:∀ i o',(O.upd p (some q')) i=some o'→∃ o,O i=some o∧o'.row=o.row∧o'.n=o.n:=fun i o' hi=>by
  by_cases e:i=p
  ·subst e;rw [Xw] at hi;injection hi with hi;subst hi;exact ⟨q,hp,h1,h4⟩
  rw [Ke _ _ e] at hi;exact ⟨o',hi,rfl,rfl⟩
 have hrep:∀ (gs:List G) (vs:List Value),G.reps w O m n gs vs→G.reps w (O.upd p (some q')) m n gs vs:=fun gs vs h=>Zgk hold gs vs h (Zcp gs vs h)
 refine ⟨⟨fun i hi => ?_,fun i o' hi => ?_,fun i j oi oj b hi hj => ?_⟩,⟨rfl,rfl,rfl,Nat.le_refl _,Nat.le_refl _,fun b _ ho=>⟨rfl,fun ⟨i,o',hi,hb⟩ => ?_⟩,fun i _ o' hi => ?_⟩⟩
 ·rw [Ke _ _ (by omega)];exact hM.fresh i hi
 ·by_cases e:i=p
  ·subst e
   rw [Xw] at hi
   injection hi with hi
   subst hi
   obtain ⟨vs,hr,hx⟩:=hM.obj i q hp
   refine ⟨vs,hrep _ _ (hc vs hr),?_⟩
   rw [h1,h2,h3,h4];exact hx
  rw [Ke _ _ e] at hi
  obtain ⟨vs,hr,hx⟩:=hM.obj i o' hi
  exact ⟨vs,hrep _ _ hr,hx⟩
 ·obtain ⟨o1,e1,_⟩:=hold i oi hi
  obtain ⟨o2,e2,_⟩:=hold j oj hj
  exact hM.apart i j o1 o2 b e1 e2
 ·obtain ⟨o1,e1,_⟩:=hold i o' hi
  exact ho ⟨i,o1,e1,hb⟩
 obtain ⟨o1,e1,e2,e3⟩:=hold i o' hi
 exact ⟨o1,e1,e2,Nat.le_of_eq e3.symm,fun _=>rfl⟩
theorem Zqa {ba:Nat} {E:Env} {p k:Nat} {q:GObj} (t:TypeId) (sz:Nat) (hp:O p=some q) (hk:q.cells[k]? = some (.val (.slice none 0 0))) (hb:ba≤n) :
  Fit2 ba E O n E ((O.upd n (some ⟨true,t,sz,0,[]⟩)).upd p (some ⟨q.row,q.ty,q.sz,q.n,q.cells.set k (.row n 0)⟩)) (n+1):=fun w m a hM hE=>by
 have hpn:p≠n:=fun e=>by rw [e,hM.fresh n (Nat.le_refl _)] at hp;cases hp
 obtain ⟨h1,h2⟩:=Z6r hM t sz
 have hp':(O.upd n (some ⟨true,t,sz,0,[]⟩)) p=some q:=by rw [Ke _ _ hpn];exact hp
 obtain ⟨h3,h4⟩:=Yby (q':=⟨q.row,q.ty,q.sz,q.n,q.cells.set k (.row n 0)⟩) h1 hp' rfl rfl rfl rfl (fun vs hr=>by
  obtain ⟨v,hv,hrv⟩:=Zvc _ _ hr k _ hk
  simp only [G.rep] at hrv
  subst hrv
  have:=Z3q q.cells vs k (.row n 0) (.slice none 0 0) hr (Z6s t sz)
  rw [Z3u hv] at this
  exact this)
 have hX:=h2.trans h4
 exact ⟨_,h3,hE.ext hX,hX.base hb⟩
end
end Go.Proofs.YtmlcnhambfkjaaaGreat
