/- Part H17 of the ghost memory: lemmas and contracts used by the proofs of this seat's laws; each theorem bears its own conditions. -/
import Derived.Test.YtpggbianhdebmaaH16
namespace Go.Proofs.Ytpggbianhdebmaa
open Go.RowKit
set_option linter.unusedVariables false
set_option linter.unusedSimpArgs false
theorem Uh:Vh .any = .any:=rfl
theorem Ul (v:Value):Vh (.val v) = .val v:=rfl
theorem Ug (cs:List G):Vh (.agg cs) = .agg cs:=rfl
theorem Uk (cs:List G):Vh (.tup cs) = .tup cs:=rfl
theorem Zal (n:Nat) (cs:List G):Vh (.sl n cs) = .sl n cs:=rfl
theorem Zah (cs:List G) (k:Nat):Vh (.ip cs k) = .ip cs k:=rfl
theorem Uj (i n:Nat):Vh (.row i n) = .row i n:=rfl
theorem Zak (i a n:Nat):Vh (.rs i a n) = .rs i a n:=rfl
theorem Zaj (i n a:Nat):Vh (.rp i n a) = .rp i n a:=rfl
theorem Zai (i n a k:Nat):Vh (.rl i n a k) = .rl i n a k:=rfl
theorem Ui (i a:Nat):Vh (.ref i a) = .ref i a:=rfl
theorem Zaf (f k:Nat) (cs:List G):Vh (.fn f k cs) = .fn f k cs:=rfl
theorem Ky (b:Bool) (g:G):Vh (.when b g)=g:=rfl
section
variable {O:Objs} {T:X0} {op:BinOp} {t:TypeId}
theorem Gx:Y1 O .any=True:=rfl
theorem G3 (v:Value):Y1 O (.val v)=True:=rfl
theorem Gw (cs:List G):Y1 O (.agg cs)=True:=rfl
theorem G0 (cs:List G):Y1 O (.tup cs)=True:=rfl
theorem Zch (n:Nat) (cs:List G):Y1 O (.sl n cs)=True:=rfl
theorem Zcd (cs:List G) (k:Nat):Y1 O (.ip cs k)=True:=rfl
theorem Zcb (f k:Nat) (cs:List G):Y1 O (.fn f k cs)=True:=rfl
theorem V7 (b:Bool) (g:G):Y1 O (.when b g)=True:=rfl
theorem Gy (i a:Nat):Y1 O (.ref i a)=∃ o,O i=some o∧o.row=false:=rfl
theorem Zcg (i a n:Nat):Y1 O (.rs i a n)=∃ o,O i=some o∧o.row=false:=rfl
theorem Zcf (i k a:Nat):Y1 O (.rp i k a)=∃ o,O i=some o∧o.row=true∧k=o.n:=rfl
theorem Zce (i k a l:Nat):Y1 O (.rl i k a l)=True:=rfl
theorem Gz (i k:Nat):Y1 O (.row i k)=∃ o,O i=some o∧o.row=true∧k=o.n:=rfl
theorem Zb7:Yv O .any=True:=rfl
theorem Zca (v:Value):Yv O (.val v)=True:=rfl
theorem Zb6 (cs:List G):Yv O (.agg cs)=True:=rfl
theorem Zb9 (cs:List G):Yv O (.tup cs)=True:=rfl
theorem Ze6 (n:Nat) (cs:List G):Yv O (.sl n cs)=True:=rfl
theorem Ze3 (cs:List G) (k:Nat):Yv O (.ip cs k)=True:=rfl
theorem Ze2 (f k:Nat) (cs:List G):Yv O (.fn f k cs)=True:=rfl
theorem Zb8 (i k:Nat):Yv O (.row i k)=True:=rfl
theorem Ze4 (i k a l:Nat):Yv O (.rl i k a l)=True:=rfl
theorem Ze5 (i a n:Nat):Yv O (.rs i a n)=∃ o,O i=some o∧o.row=false:=rfl
theorem Zbu (k k':IntKind) (a b:Int):Zg4 T op t (.val (.int k a)) (.val (.int k' b))=(Zhz op k a k' b).map fun r=>(r.1,.val r.2):=rfl
theorem Zbt (a b:Bool):Zg4 T op t (.val (.bool a)) (.val (.bool b))=match Z4 T t,op with
  | some .bool,.eql=>some (True,.val (.bool (a == b)))
  | some .bool,.neq=>some (True,.val (.bool (a != b)))
  | _,_=>none:=rfl
theorem Zbz (a b:ByteArray):Zg4 T op t (.val (.string a)) (.val (.string b))=match op with
  | .eql=>some (True,.val (.bool (a.toList == b.toList)))
  | .neq=>some (True,.val (.bool (!(a.toList == b.toList))))
  | _=>none:=rfl
theorem Zbx:Zg4 T op t (.val (.pointer none)) (.val (.pointer none))=match Z4 T t,op with
  | some (.ptr _),.eql=>some (True,.val (.bool true))
  | some (.ptr _),.neq=>some (True,.val (.bool false))
  | _,_=>none:=rfl
theorem Zby (i a:Nat):Zg4 T op t (.ref i a) (.val (.pointer none))=match Z4 T t,op with
  | some (.ptr _),.eql=>some (True,.val (.bool false))
  | some (.ptr _),.neq=>some (True,.val (.bool true))
  | _,_=>none:=rfl
theorem Zbv (cs:List G) (k:Nat):Zg4 T op t (.ip cs k) (.val (.pointer none))=match Z4 T t,op with
  | some (.ptr _),.eql=>some (True,.val (.bool false))
  | some (.ptr _),.neq=>some (True,.val (.bool true))
  | _,_=>none:=rfl
theorem Zbw (a:Option Addr) (l c l' c':Nat):Zg4 T op t (.val (.slice a l c)) (.val (.slice none l' c'))=match Z4 T t,op with
  | some (.slice _),.eql=>some (True,.val (.bool a.isNone))
  | some (.slice _),.neq=>some (True,.val (.bool (!a.isNone)))
  | _,_=>none:=rfl
theorem Zbs (xs ys:List G):Zg4 T op t (.agg xs) (.agg ys)=match T t,Zf7 T 6 t xs ys with
  | some i,some b=>if i.k.isAgg=true∧i.eq=true then (match op with
   | .eql=>some (True,.val (.bool b))
   | .neq=>some (True,.val (.bool (!b)))
   | _=>none) else none
  | _,_=>none:=rfl
end
theorem Zcm:G.one .any=false:=rfl
theorem Zcq (v:Value):G.one (.val v)=v.oneCell':=rfl
theorem Zcl (cs:List G):G.one (.agg cs)=false:=rfl
theorem Zcp (cs:List G):G.one (.tup cs)=false:=rfl
theorem G7 (b:Bool) (g:G):G.one (.when b g)=false:=rfl
theorem Zfd (n:Nat) (cs:List G):G.one (.sl n cs)=true:=rfl
theorem Ze9 (cs:List G) (k:Nat):G.one (.ip cs k)=true:=rfl
theorem Zco (i n:Nat):G.one (.row i n)=true:=rfl
theorem Zfc (i a n:Nat):G.one (.rs i a n)=true:=rfl
theorem Zfb (i n a:Nat):G.one (.rp i n a)=true:=rfl
theorem Zfa (i n a k:Nat):G.one (.rl i n a k)=true:=rfl
theorem Zcn (i a:Nat):G.one (.ref i a)=true:=rfl
theorem Ze8 (f k:Nat) (cs:List G):G.one (.fn f k cs)=true:=rfl
theorem Jf (cs:List G):Xf (.agg cs)=some cs:=rfl
theorem Jk (v:Value):Xf (.val v)=match v with
  | .agg vs=>some (vs.toList.map .val)
  | v=>if G.one (.val v)=true then some [.val v] else none:=by cases v <;> rfl
theorem Kj (n:Nat) (cs:List G):Xf (.sl n cs)=some [.sl n cs]:=rfl
theorem Kf (cs:List G) (k:Nat):Xf (.ip cs k)=some [.ip cs k]:=rfl
theorem Ji (i n:Nat):Xf (.row i n)=some [.row i n]:=rfl
theorem Ki (i a n:Nat):Xf (.rs i a n)=some [.rs i a n]:=rfl
theorem Kh (i n a:Nat):Xf (.rp i n a)=some [.rp i n a]:=rfl
theorem Kg (i n a k:Nat):Xf (.rl i n a k)=some [.rl i n a k]:=rfl
theorem Jh (i a:Nat):Xf (.ref i a)=some [.ref i a]:=rfl
theorem Kc (f k:Nat) (cs:List G):Xf (.fn f k cs)=some [.fn f k cs]:=rfl
theorem Jg:Xf .any=none:=rfl
theorem Jj (cs:List G):Xf (.tup cs)=none:=rfl
theorem Qz (b:Bool) (g:G):Xf (.when b g)=none:=rfl
def gP {α:Type} (f:α→List G):Option α→G
 | none => .val (.pointer none)
 | some x => .ip (f x) 0
def eP {α:Type} (f:α→List G) (x:Option α):List G:=[gP f x]
section
variable {α:Type} {f:α→List G} {T:X0} {t e:TypeId} {O O':Objs} {n':Nat}
theorem Zbq:gP f none = .val (.pointer none):=rfl
theorem Zbr (x:α):gP f (some x) = .ip (f x) 0:=rfl
theorem Zag (x:Option α):Vh (gP f x)=gP f x:=by cases x <;> rfl
theorem Zfw (x:Option α) (l:List G):wok (gP f x::l)=wok l:=by cases x <;> rfl
theorem U6 (x:Option α):(gP f x).one=true:=by cases x <;> rfl
theorem Ke (x:Option α):Xf (gP f x)=some [gP f x]:=by cases x <;> rfl
theorem Uq (h:∀ x,G.pures (f x)=true) (x:Option α):(gP f x).pure=true:=by
 cases x with
 | none=>rfl
 | some x=>simp only [gP,G.pure,h]
theorem Zea (h:∀ x,G.pures (f x)=true) (k:Nat) (x:Option α):(gP f x).under k=true:=Zei k _ (Uq h x)
theorem Znn (h:∀ x,G.pures (f x)=true) (x:Option α):wk O O' n' (gP f x) (gP f x)=True:=eq_true (Ge _ (Zea h _ x))
theorem Zcc (x:Option α):Y1 O (gP f x)=True:=by cases x <;> rfl
theorem Zid (hk:Z4 T t=some (.ptr e)) (x:Option α):Zg4 T .eql t (gP f x) (.val (.pointer none))=some (True,.val (.bool x.isNone)):=by cases x <;> simp [gP,Zg4,hk]
end
theorem Znc {α:Type}:∀ {l:List α} {k:Nat} {x:α},l[k]? = some x→l.set k x=l
 | [],k,x,h=>by simp at h
 | y::l,0,x,h=>by simp at h;simp [h]
 | y::l,k+1,x,h=>by simp only [List.set_cons_succ,Znc (l:=l) (k:=k) (by simpa using h)]
section
variable {P:Program} {w:World} {O:Objs} {m:Hands} {n:Nat}
theorem Zn5 (hM:Mem w O m n) {p:Nat} {q q':GObj} (hp:O p=some q) (h1:q'.row=q.row) (h2:q'.ty=q.ty) (h3:q'.sz=q.sz) (h4:q'.n=q.n) (hc:∀ vs,G.reps w O m n q.cells vs→G.reps w O m n q'.cells vs) :
  Mem w (O.upd p (some q')) m n∧Ext w O m n w (O.upd p (some q')) m n:=by
 have hpn:p < n:=by
  rcases Nat.lt_or_ge p n with h | h
  ·exact h
  rw [hM.fresh p h] at hp;cases hp
 have hold:∀ i o',(O.upd p (some q')) i=some o'→∃ o,O i=some o∧o'.row=o.row∧o'.n=o.n:=fun i o' hi=>by
  by_cases e:i=p
  ·subst e;rw [Zk] at hi;injection hi with hi;subst hi;exact ⟨q,hp,h1,h4⟩
  rw [Zj _ _ e] at hi;exact ⟨o',hi,rfl,rfl⟩
 have hrep:∀ (gs:List G) (vs:List Value),G.reps w O m n gs vs→G.reps w (O.upd p (some q')) m n gs vs:=fun gs vs h=>Vp hold gs vs h (Qy gs vs h)
 refine ⟨⟨fun i hi => ?_,fun i o' hi => ?_,fun i j oi oj b hi hj => ?_⟩,⟨rfl,rfl,rfl,Nat.le_refl _,Nat.le_refl _,fun b _ ho=>⟨rfl,fun ⟨i,o',hi,hb⟩ => ?_⟩,fun i _ o' hi => ?_⟩⟩
 ·rw [Zj _ _ (by omega)];exact hM.fresh i hi
 ·by_cases e:i=p
  ·subst e
   rw [Zk] at hi
   injection hi with hi
   subst hi
   obtain ⟨vs,hr,hx⟩:=hM.obj i q hp
   refine ⟨vs,hrep _ _ (hc vs hr),?_⟩
   rw [h1,h2,h3,h4];exact hx
  rw [Zj _ _ e] at hi
  obtain ⟨vs,hr,hx⟩:=hM.obj i o' hi
  exact ⟨vs,hrep _ _ hr,hx⟩
 ·obtain ⟨o1,e1,_⟩:=hold i oi hi
  obtain ⟨o2,e2,_⟩:=hold j oj hj
  exact hM.apart i j o1 o2 b e1 e2
 ·obtain ⟨o1,e1,_⟩:=hold i o' hi
  exact ho ⟨i,o1,e1,hb⟩
 obtain ⟨o1,e1,e2,e3⟩:=hold i o' hi
 exact ⟨o1,e1,e2,Nat.le_of_eq e3.symm,fun _=>rfl⟩
theorem Zgh {ba:Nat} {E:Env} {p k:Nat} {q:GObj} (t:TypeId) (sz:Nat) (hp:O p=some q) (hk:q.cells[k]? = some (.val (.slice none 0 0))) (hb:ba≤n) :
  Fit2 ba E O n E ((O.upd n (some ⟨true,t,sz,0,[]⟩)).upd p (some ⟨q.row,q.ty,q.sz,q.n,q.cells.set k (.row n 0)⟩)) (n+1):=fun w m a hM hE=>by
 have hpn:p≠n:=fun e=>by rw [e,hM.fresh n (Nat.le_refl _)] at hp;cases hp
 obtain ⟨h1,h2⟩:=Zk1 hM t sz
 have hp':(O.upd n (some ⟨true,t,sz,0,[]⟩)) p=some q:=by rw [Zj _ _ hpn];exact hp
 obtain ⟨h3,h4⟩:=Zn5 (q':=⟨q.row,q.ty,q.sz,q.n,q.cells.set k (.row n 0)⟩) h1 hp' rfl rfl rfl rfl (fun vs hr=>by
  obtain ⟨v,hv,hrv⟩:=Zhl _ _ hr k _ hk
  simp only [G.rep] at hrv
  subst hrv
  have:=Znb q.cells vs k (.row n 0) (.slice none 0 0) hr (Zk2 t sz)
  rw [Znc hv] at this
  exact this)
 have hX:=h2.trans h4
 exact ⟨_,h3,hE.ext hX,hX.base hb⟩
theorem Zl9 {ba:Nat} {c:Code} {Q:GQ} {E:Env} {p k:Nat} {q:GObj} (t:TypeId) (sz:Nat) (hp:O p=some q) (hk:q.cells[k]? = some (.val (.slice none 0 0)))
  (h:W P ba c Q E ((O.upd n (some ⟨true,t,sz,0,[]⟩)).upd p (some ⟨q.row,q.ty,q.sz,q.n,q.cells.set k (.row n 0)⟩)) (n+1)):W P ba c Q E O n:=fun hb=>Zgg (Zgh t sz hp hk hb) h hb
end
end Go.Proofs.Ytpggbianhdebmaa
