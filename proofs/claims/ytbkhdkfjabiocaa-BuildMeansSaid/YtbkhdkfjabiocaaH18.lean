/- Part H18 of the ghost memory: lemmas and contracts used by the proofs of this seat's laws; each theorem bears its own conditions. -/
import Derived.Test.YtbkhdkfjabiocaaH17
namespace Go.Proofs.Ytbkhdkfjabiocaa
open Go.RowKit
set_option linter.unusedVariables false
set_option linter.unusedSimpArgs false
theorem Zgj:Zbl .any = .any:=rfl
theorem Zgn (v:Value):Zbl (.val v) = .val v:=rfl
theorem Zgi (cs:List G):Zbl (.agg cs) = .agg cs:=rfl
theorem Zgm (cs:List G):Zbl (.tup cs) = .tup cs:=rfl
theorem Zjv (n:Nat) (cs:List G):Zbl (.sl n cs) = .sl n cs:=rfl
theorem Zjq (cs:List G) (k:Nat):Zbl (.ip cs k) = .ip cs k:=rfl
theorem Zgl (i n:Nat):Zbl (.row i n) = .row i n:=rfl
theorem Zju (i a n:Nat):Zbl (.rs i a n) = .rs i a n:=rfl
theorem Zjt (i n a:Nat):Zbl (.rp i n a) = .rp i n a:=rfl
theorem Zjs (i n a k:Nat):Zbl (.rl i n a k) = .rl i n a k:=rfl
theorem Zgk (i a:Nat):Zbl (.ref i a) = .ref i a:=rfl
theorem Zjo (f k:Nat) (cs:List G):Zbl (.fn f k cs) = .fn f k cs:=rfl
theorem Zeu (b:Bool) (g:G):Zbl (.when b g)=g:=rfl
section
variable {O:Objs} {T:J9} {op:BinOp} {t:TypeId}
theorem Ziz:Xn O .any=True:=rfl
theorem Zi3 (v:Value):Xn O (.val v)=True:=rfl
theorem Ziy (cs:List G):Xn O (.agg cs)=True:=rfl
theorem Zi2 (cs:List G):Xn O (.tup cs)=True:=rfl
theorem Zm2 (n:Nat) (cs:List G):Xn O (.sl n cs)=True:=rfl
theorem Zmy (cs:List G) (k:Nat):Xn O (.ip cs k)=True:=rfl
theorem Zmw (f k:Nat) (cs:List G):Xn O (.fn f k cs)=True:=rfl
theorem Zgb (b:Bool) (g:G):Xn O (.when b g)=True:=rfl
theorem Zi0 (i a:Nat):Xn O (.ref i a)=∃ o,O i=some o∧o.row=false:=rfl
theorem Zm1 (i a n:Nat):Xn O (.rs i a n)=∃ o,O i=some o∧o.row=false:=rfl
theorem Zm0 (i k a:Nat):Xn O (.rp i k a)=∃ o,O i=some o∧o.row=true∧k=o.n:=rfl
theorem Zmz (i k a l:Nat):Xn O (.rl i k a l)=True:=rfl
theorem Zi1 (i k:Nat):Xn O (.row i k)=∃ o,O i=some o∧o.row=true∧k=o.n:=rfl
theorem Zmr:Kx O .any=True:=rfl
theorem Zmu (v:Value):Kx O (.val v)=True:=rfl
theorem Zmq (cs:List G):Kx O (.agg cs)=True:=rfl
theorem Zmt (cs:List G):Kx O (.tup cs)=True:=rfl
theorem Zr1 (n:Nat) (cs:List G):Kx O (.sl n cs)=True:=rfl
theorem Zry (cs:List G) (k:Nat):Kx O (.ip cs k)=True:=rfl
theorem Zrx (f k:Nat) (cs:List G):Kx O (.fn f k cs)=True:=rfl
theorem Zms (i k:Nat):Kx O (.row i k)=True:=rfl
theorem Zrz (i k a l:Nat):Kx O (.rl i k a l)=True:=rfl
theorem Zr0 (i a n:Nat):Kx O (.rs i a n)=∃ o,O i=some o∧o.row=false:=rfl
theorem Zma (k k':IntKind) (a b:Int):Zqg T op t (.val (.int k a)) (.val (.int k' b))=(Zut op k a k' b).map fun r=>(r.1,.val r.2):=rfl
theorem Zl9 (a b:Bool):Zqg T op t (.val (.bool a)) (.val (.bool b))=match Yh T t,op with
  | some .bool,.eql=>some (True,.val (.bool (a == b)))
  | some .bool,.neq=>some (True,.val (.bool (a != b)))
  | _,_=>none:=rfl
theorem Zmf (a b:ByteArray):Zqg T op t (.val (.string a)) (.val (.string b))=match op with
  | .eql=>some (True,.val (.bool (a.toList == b.toList)))
  | .neq=>some (True,.val (.bool (!(a.toList == b.toList))))
  | _=>none:=rfl
theorem Zmd:Zqg T op t (.val (.pointer none)) (.val (.pointer none))=match Yh T t,op with
  | some (.ptr _),.eql=>some (True,.val (.bool true))
  | some (.ptr _),.neq=>some (True,.val (.bool false))
  | _,_=>none:=rfl
theorem Zme (i a:Nat):Zqg T op t (.ref i a) (.val (.pointer none))=match Yh T t,op with
  | some (.ptr _),.eql=>some (True,.val (.bool false))
  | some (.ptr _),.neq=>some (True,.val (.bool true))
  | _,_=>none:=rfl
theorem Zmb (cs:List G) (k:Nat):Zqg T op t (.ip cs k) (.val (.pointer none))=match Yh T t,op with
  | some (.ptr _),.eql=>some (True,.val (.bool false))
  | some (.ptr _),.neq=>some (True,.val (.bool true))
  | _,_=>none:=rfl
theorem Zmc (a:Option Addr) (l c l' c':Nat):Zqg T op t (.val (.slice a l c)) (.val (.slice none l' c'))=match Yh T t,op with
  | some (.slice _),.eql=>some (True,.val (.bool a.isNone))
  | some (.slice _),.neq=>some (True,.val (.bool (!a.isNone)))
  | _,_=>none:=rfl
theorem Zl8 (xs ys:List G):Zqg T op t (.agg xs) (.agg ys)=match T t,Zqk T 6 t xs ys with
  | some i,some b=>if i.k.isAgg=true∧i.eq=true then (match op with
   | .eql=>some (True,.val (.bool b))
   | .neq=>some (True,.val (.bool (!b)))
   | _=>none) else none
  | _,_=>none:=rfl
end
theorem Zm5:G.one .any=false:=rfl
theorem Zm9 (v:Value):G.one (.val v)=v.oneCell':=rfl
theorem Zm4 (cs:List G):G.one (.agg cs)=false:=rfl
theorem Zm8 (cs:List G):G.one (.tup cs)=false:=rfl
theorem Zjb (b:Bool) (g:G):G.one (.when b g)=false:=rfl
theorem Zsd (n:Nat) (cs:List G):G.one (.sl n cs)=true:=rfl
theorem Zr9 (cs:List G) (k:Nat):G.one (.ip cs k)=true:=rfl
theorem Zm7 (i n:Nat):G.one (.row i n)=true:=rfl
theorem Zsc (i a n:Nat):G.one (.rs i a n)=true:=rfl
theorem Zsb (i n a:Nat):G.one (.rp i n a)=true:=rfl
theorem Zsa (i n a k:Nat):G.one (.rl i n a k)=true:=rfl
theorem Zm6 (i a:Nat):G.one (.ref i a)=true:=rfl
theorem Zr8 (f k:Nat) (cs:List G):G.one (.fn f k cs)=true:=rfl
theorem Zb3 (cs:List G):X2 (.agg cs)=some cs:=rfl
theorem Zb8 (v:Value):X2 (.val v)=match v with
  | .agg vs=>some (vs.toList.map .val)
  | v=>if G.one (.val v)=true then some [.val v] else none:=by cases v <;> rfl
theorem Zd0 (n:Nat) (cs:List G):X2 (.sl n cs)=some [.sl n cs]:=rfl
theorem Zdw (cs:List G) (k:Nat):X2 (.ip cs k)=some [.ip cs k]:=rfl
theorem Zb6 (i n:Nat):X2 (.row i n)=some [.row i n]:=rfl
theorem Zdz (i a n:Nat):X2 (.rs i a n)=some [.rs i a n]:=rfl
theorem Zdy (i n a:Nat):X2 (.rp i n a)=some [.rp i n a]:=rfl
theorem Zdx (i n a k:Nat):X2 (.rl i n a k)=some [.rl i n a k]:=rfl
theorem Zb5 (i a:Nat):X2 (.ref i a)=some [.ref i a]:=rfl
theorem Zdu (f k:Nat) (cs:List G):X2 (.fn f k cs)=some [.fn f k cs]:=rfl
theorem Zb4:X2 .any=none:=rfl
theorem Zb7 (cs:List G):X2 (.tup cs)=none:=rfl
theorem Zbe (b:Bool) (g:G):X2 (.when b g)=none:=rfl
def gP {α:Type} (f:α→List G):Option α→G
 | none => .val (.pointer none)
 | some x => .ip (f x) 0
def eP {α:Type} (f:α→List G) (x:Option α):List G:=[gP f x]
section
variable {α:Type} {f:α→List G} {T:J9} {t e:TypeId} {O O':Objs} {n':Nat}
theorem Zl6:gP f none = .val (.pointer none):=rfl
theorem Zl7 (x:α):gP f (some x) = .ip (f x) 0:=rfl
theorem Zjp (x:Option α):Zbl (gP f x)=gP f x:=by cases x <;> rfl
theorem Zte (x:Option α) (l:List G):wok (gP f x::l)=wok l:=by cases x <;> rfl
theorem Zef (x:Option α):(gP f x).one=true:=by cases x <;> rfl
theorem Zdv (x:Option α):X2 (gP f x)=some [gP f x]:=by cases x <;> rfl
theorem Gu (h:∀ x,G.pures (f x)=true) (x:Option α):(gP f x).pure=true:=by
 cases x with
 | none=>rfl
 | some x=>simp only [gP,G.pure,h]
theorem Zfe (h:∀ x,G.pures (f x)=true) (k:Nat) (x:Option α):(gP f x).under k=true:=Zks k _ (Gu h x)
theorem Zv2 (h:∀ x,G.pures (f x)=true) (x:Option α):wk O O' n' (gP f x) (gP f x)=True:=eq_true (Zz7 _ (Zfe h _ x))
theorem Zmx (x:Option α):Xn O (gP f x)=True:=by cases x <;> rfl
theorem Ztj (hk:Yh T t=some (.ptr e)) (x:Option α):Zqg T .eql t (gP f x) (.val (.pointer none))=some (True,.val (.bool x.isNone)):=by cases x <;> simp [gP,Zqg,hk]
end
theorem Z15 {α:Type}:∀ {l:List α} {k:Nat} {x:α},l[k]? = some x→l.set k x=l
 | [],k,x,h=>by simp at h
 | y::l,0,x,h=>by simp at h;simp [h]
 | y::l,k+1,x,h=>by simp only [List.set_cons_succ,Z15 (l:=l) (k:=k) (by simpa using h)]
section
variable {P:Program} {w:World} {O:Objs} {m:Hands} {n:Nat}
theorem Z3l (hM:Mem w O m n) {p:Nat} {q q':GObj} (hp:O p=some q) (h1:q'.row=q.row) (h2:q'.ty=q.ty) (h3:q'.sz=q.sz) (h4:q'.n=q.n) (hc:∀ vs,G.reps w O m n q.cells vs→G.reps w O m n q'.cells vs) :
  Mem w (O.upd p (some q')) m n∧Ext w O m n w (O.upd p (some q')) m n:=by
 have hpn:p < n:=by
  rcases Nat.lt_or_ge p n with h | h
  ·exact h
  rw [hM.fresh p h] at hp;cases hp
 have hold:∀ i o',(O.upd p (some q')) i=some o'→∃ o,O i=some o∧o'.row=o.row∧o'.n=o.n:=fun i o' hi=>by
  by_cases e:i=p
  ·subst e;rw [Z9] at hi;injection hi with hi;subst hi;exact ⟨q,hp,h1,h4⟩
  rw [Ya _ _ e] at hi;exact ⟨o',hi,rfl,rfl⟩
 have hrep:∀ (gs:List G) (vs:List Value),G.reps w O m n gs vs→G.reps w (O.upd p (some q')) m n gs vs:=fun gs vs h=>Zb1 hold gs vs h (Kh gs vs h)
 refine ⟨⟨fun i hi => ?_,fun i o' hi => ?_,fun i j oi oj b hi hj => ?_⟩,⟨rfl,rfl,rfl,Nat.le_refl _,Nat.le_refl _,fun b _ ho=>⟨rfl,fun ⟨i,o',hi,hb⟩ => ?_⟩,fun i _ o' hi => ?_⟩⟩
 ·rw [Ya _ _ (by omega)];exact hM.fresh i hi
 ·by_cases e:i=p
  ·subst e
   rw [Z9] at hi
   injection hi with hi
   subst hi
   obtain ⟨vs,hr,hx⟩:=hM.obj i q hp
   refine ⟨vs,hrep _ _ (hc vs hr),?_⟩
   rw [h1,h2,h3,h4];exact hx
  rw [Ya _ _ e] at hi
  obtain ⟨vs,hr,hx⟩:=hM.obj i o' hi
  exact ⟨vs,hrep _ _ hr,hx⟩
 ·obtain ⟨o1,e1,_⟩:=hold i oi hi
  obtain ⟨o2,e2,_⟩:=hold j oj hj
  exact hM.apart i j o1 o2 b e1 e2
 ·obtain ⟨o1,e1,_⟩:=hold i o' hi
  exact ho ⟨i,o1,e1,hb⟩
 obtain ⟨o1,e1,e2,e3⟩:=hold i o' hi
 exact ⟨o1,e1,e2,Nat.le_of_eq e3.symm,fun _=>rfl⟩
theorem Zdt {ba:Nat} {E:Env} {p k:Nat} {q:GObj} (t:TypeId) (sz:Nat) (hp:O p=some q) (hk:q.cells[k]? = some (.val (.slice none 0 0))) (hb:ba≤n) :
  Fit2 ba E O n E ((O.upd n (some ⟨true,t,sz,0,[]⟩)).upd p (some ⟨q.row,q.ty,q.sz,q.n,q.cells.set k (.row n 0)⟩)) (n+1):=fun w m a hM hE=>by
 have hpn:p≠n:=fun e=>by rw [e,hM.fresh n (Nat.le_refl _)] at hp;cases hp
 obtain ⟨h1,h2⟩:=Zwp hM t sz
 have hp':(O.upd n (some ⟨true,t,sz,0,[]⟩)) p=some q:=by rw [Ya _ _ hpn];exact hp
 obtain ⟨h3,h4⟩:=Z3l (q':=⟨q.row,q.ty,q.sz,q.n,q.cells.set k (.row n 0)⟩) h1 hp' rfl rfl rfl rfl (fun vs hr=>by
  obtain ⟨v,hv,hrv⟩:=Zrb _ _ hr k _ hk
  simp only [G.rep] at hrv
  subst hrv
  have:=Z11 q.cells vs k (.row n 0) (.slice none 0 0) hr (Zwq t sz)
  rw [Z15 hv] at this
  exact this)
 have hX:=h2.trans h4
 exact ⟨_,h3,hE.ext hX,hX.base hb⟩
theorem Z6m {ba:Nat} {c:Code} {Q:GQ} {E:Env} {p k:Nat} {q:GObj} (t:TypeId) (sz:Nat) (hp:O p=some q) (hk:q.cells[k]? = some (.val (.slice none 0 0)))
  (h:W P ba c Q E ((O.upd n (some ⟨true,t,sz,0,[]⟩)).upd p (some ⟨q.row,q.ty,q.sz,q.n,q.cells.set k (.row n 0)⟩)) (n+1)):W P ba c Q E O n:=fun hb=>Zds (Zdt t sz hp hk hb) h hb
end
end Go.Proofs.Ytbkhdkfjabiocaa
