/- Part H18 of the ghost memory: lemmas and contracts used by the proofs of this seat's laws; each theorem bears its own conditions. -/
import Derived.Test.YtaddaloondpnkaaH17
namespace Go.Proofs.Ytaddaloondpnkaa
open Go.RowKit
set_option linter.unusedVariables false
set_option linter.unusedSimpArgs false
theorem Zb5:Uz .any = .any:=rfl
theorem Zb9 (v:Value):Uz (.val v) = .val v:=rfl
theorem Zb4 (cs:List G):Uz (.agg cs) = .agg cs:=rfl
theorem Zb8 (cs:List G):Uz (.tup cs) = .tup cs:=rfl
theorem Zez (n:Nat) (cs:List G):Uz (.sl n cs) = .sl n cs:=rfl
theorem Zev (cs:List G) (k:Nat):Uz (.ip cs k) = .ip cs k:=rfl
theorem Zb7 (i n:Nat):Uz (.row i n) = .row i n:=rfl
theorem Zey (i a n:Nat):Uz (.rs i a n) = .rs i a n:=rfl
theorem Zex (i n a:Nat):Uz (.rp i n a) = .rp i n a:=rfl
theorem Zew (i n a k:Nat):Uz (.rl i n a k) = .rl i n a k:=rfl
theorem Zb6 (i a:Nat):Uz (.ref i a) = .ref i a:=rfl
theorem Zet (f k:Nat) (cs:List G):Uz (.fn f k cs) = .fn f k cs:=rfl
theorem Gz (b:Bool) (g:G):Uz (.when b g)=g:=rfl
section
variable {O:Objs} {T:Qi} {op:BinOp} {t:TypeId}
theorem Zd2:Yx O .any=True:=rfl
theorem Zd6 (v:Value):Yx O (.val v)=True:=rfl
theorem Zd1 (cs:List G):Yx O (.agg cs)=True:=rfl
theorem Zd5 (cs:List G):Yx O (.tup cs)=True:=rfl
theorem Zhi (n:Nat) (cs:List G):Yx O (.sl n cs)=True:=rfl
theorem Zhe (cs:List G) (k:Nat):Yx O (.ip cs k)=True:=rfl
theorem Zhc (f k:Nat) (cs:List G):Yx O (.fn f k cs)=True:=rfl
theorem Zbr (b:Bool) (g:G):Yx O (.when b g)=True:=rfl
theorem Zd3 (i a:Nat):Yx O (.ref i a)=∃ o,O i=some o∧o.row=false:=rfl
theorem Zhh (i a n:Nat):Yx O (.rs i a n)=∃ o,O i=some o∧o.row=false:=rfl
theorem Zhg (i k a:Nat):Yx O (.rp i k a)=∃ o,O i=some o∧o.row=true∧k=o.n:=rfl
theorem Zhf (i k a l:Nat):Yx O (.rl i k a l)=True:=rfl
theorem Zd4 (i k:Nat):Yx O (.row i k)=∃ o,O i=some o∧o.row=true∧k=o.n:=rfl
theorem Zg8:Yw O .any=True:=rfl
theorem Zhb (v:Value):Yw O (.val v)=True:=rfl
theorem Zg7 (cs:List G):Yw O (.agg cs)=True:=rfl
theorem Zha (cs:List G):Yw O (.tup cs)=True:=rfl
theorem Zls (n:Nat) (cs:List G):Yw O (.sl n cs)=True:=rfl
theorem Zlp (cs:List G) (k:Nat):Yw O (.ip cs k)=True:=rfl
theorem Zlo (f k:Nat) (cs:List G):Yw O (.fn f k cs)=True:=rfl
theorem Zg9 (i k:Nat):Yw O (.row i k)=True:=rfl
theorem Zlq (i k a l:Nat):Yw O (.rl i k a l)=True:=rfl
theorem Zlr (i a n:Nat):Yw O (.rs i a n)=∃ o,O i=some o∧o.row=false:=rfl
theorem Zgs (k k':IntKind) (a b:Int):Znf T op t (.val (.int k a)) (.val (.int k' b))=(Zpd op k a k' b).map fun r=>(r.1,.val r.2):=rfl
theorem Zgr (a b:Bool):Znf T op t (.val (.bool a)) (.val (.bool b))=match Z6 T t,op with
  | some .bool,.eql=>some (True,.val (.bool (a == b)))
  | some .bool,.neq=>some (True,.val (.bool (a != b)))
  | _,_=>none:=rfl
theorem Zgx (a b:ByteArray):Znf T op t (.val (.string a)) (.val (.string b))=match op with
  | .eql=>some (True,.val (.bool (a.toList == b.toList)))
  | .neq=>some (True,.val (.bool (!(a.toList == b.toList))))
  | _=>none:=rfl
theorem Zgv:Znf T op t (.val (.pointer none)) (.val (.pointer none))=match Z6 T t,op with
  | some (.ptr _),.eql=>some (True,.val (.bool true))
  | some (.ptr _),.neq=>some (True,.val (.bool false))
  | _,_=>none:=rfl
theorem Zgw (i a:Nat):Znf T op t (.ref i a) (.val (.pointer none))=match Z6 T t,op with
  | some (.ptr _),.eql=>some (True,.val (.bool false))
  | some (.ptr _),.neq=>some (True,.val (.bool true))
  | _,_=>none:=rfl
theorem Zgt (cs:List G) (k:Nat):Znf T op t (.ip cs k) (.val (.pointer none))=match Z6 T t,op with
  | some (.ptr _),.eql=>some (True,.val (.bool false))
  | some (.ptr _),.neq=>some (True,.val (.bool true))
  | _,_=>none:=rfl
theorem Zgu (a:Option Addr) (l c l' c':Nat):Znf T op t (.val (.slice a l c)) (.val (.slice none l' c'))=match Z6 T t,op with
  | some (.slice _),.eql=>some (True,.val (.bool a.isNone))
  | some (.slice _),.neq=>some (True,.val (.bool (!a.isNone)))
  | _,_=>none:=rfl
theorem Zgq (xs ys:List G):Znf T op t (.agg xs) (.agg ys)=match T t,Zlh T 6 t xs ys with
  | some i,some b=>if i.k.isAgg=true∧i.eq=true then (match op with
   | .eql=>some (True,.val (.bool b))
   | .neq=>some (True,.val (.bool (!b)))
   | _=>none) else none
  | _,_=>none:=rfl
end
theorem Zhn:G.one .any=false:=rfl
theorem Zhs (v:Value):G.one (.val v)=v.oneCell':=rfl
theorem Zhm (cs:List G):G.one (.agg cs)=false:=rfl
theorem Zhr (cs:List G):G.one (.tup cs)=false:=rfl
theorem Zed (b:Bool) (g:G):G.one (.when b g)=false:=rfl
theorem Zl6 (n:Nat) (cs:List G):G.one (.sl n cs)=true:=rfl
theorem Zl2 (cs:List G) (k:Nat):G.one (.ip cs k)=true:=rfl
theorem Zhq (i n:Nat):G.one (.row i n)=true:=rfl
theorem Zl5 (i a n:Nat):G.one (.rs i a n)=true:=rfl
theorem Zl4 (i n a:Nat):G.one (.rp i n a)=true:=rfl
theorem Zl3 (i n a k:Nat):G.one (.rl i n a k)=true:=rfl
theorem Zhp (i a:Nat):G.one (.ref i a)=true:=rfl
theorem Zl1 (f k:Nat) (cs:List G):G.one (.fn f k cs)=true:=rfl
theorem V0 (cs:List G):Y8 (.agg cs)=some cs:=rfl
theorem V5 (v:Value):Y8 (.val v)=match v with
  | .agg vs=>some (vs.toList.map .val)
  | v=>if G.one (.val v)=true then some [.val v] else none:=by cases v <;> rfl
theorem Gi (n:Nat) (cs:List G):Y8 (.sl n cs)=some [.sl n cs]:=rfl
theorem Ge (cs:List G) (k:Nat):Y8 (.ip cs k)=some [.ip cs k]:=rfl
theorem V3 (i n:Nat):Y8 (.row i n)=some [.row i n]:=rfl
theorem Gh (i a n:Nat):Y8 (.rs i a n)=some [.rs i a n]:=rfl
theorem Gg (i n a:Nat):Y8 (.rp i n a)=some [.rp i n a]:=rfl
theorem Gf (i n a k:Nat):Y8 (.rl i n a k)=some [.rl i n a k]:=rfl
theorem V2 (i a:Nat):Y8 (.ref i a)=some [.ref i a]:=rfl
theorem Gc (f k:Nat) (cs:List G):Y8 (.fn f k cs)=some [.fn f k cs]:=rfl
theorem V1:Y8 .any=none:=rfl
theorem V4 (cs:List G):Y8 (.tup cs)=none:=rfl
theorem K8 (b:Bool) (g:G):Y8 (.when b g)=none:=rfl
def gP {α:Type} (f:α→List G):Option α→G
 | none => .val (.pointer none)
 | some x => .ip (f x) 0
def eP {α:Type} (f:α→List G) (x:Option α):List G:=[gP f x]
section
variable {α:Type} {f:α→List G} {T:Qi} {t e:TypeId} {O O':Objs} {n':Nat}
theorem Zgo:gP f none = .val (.pointer none):=rfl
theorem Zgp (x:α):gP f (some x) = .ip (f x) 0:=rfl
theorem Zeu (x:Option α):Uz (gP f x)=gP f x:=by cases x <;> rfl
theorem Zm4 (x:Option α) (l:List G):wok (gP f x::l)=wok l:=by cases x <;> rfl
theorem Zc0 (x:Option α):(gP f x).one=true:=by cases x <;> rfl
theorem Gd (x:Option α):Y8 (gP f x)=some [gP f x]:=by cases x <;> rfl
theorem Zaz (h:∀ x,G.pures (f x)=true) (x:Option α):(gP f x).pure=true:=by
 cases x with
 | none=>rfl
 | some x=>simp only [gP,G.pure,h]
theorem Zgl (h:∀ x,G.pures (f x)=true) (k:Nat) (x:Option α):(gP f x).under k=true:=Zh2 k _ (Zaz h x)
theorem Zwo (h:∀ x,G.pures (f x)=true) (x:Option α):wk O O' n' (gP f x) (gP f x)=True:=eq_true (Zpo _ (Zgl h _ x))
theorem Zhd (x:Option α):Yx O (gP f x)=True:=by cases x <;> rfl
theorem Zvf (hk:Z6 T t=some (.ptr e)) (x:Option α):Znf T .eql t (gP f x) (.val (.pointer none))=some (True,.val (.bool x.isNone)):=by cases x <;> simp [gP,Znf,hk]
end
theorem Zwi {α:Type}:∀ {l:List α} {k:Nat} {x:α},l[k]? = some x→l.set k x=l
 | [],k,x,h=>by simp at h
 | y::l,0,x,h=>by simp at h;simp [h]
 | y::l,k+1,x,h=>by simp only [List.set_cons_succ,Zwi (l:=l) (k:=k) (by simpa using h)]
section
variable {P:Program} {w:World} {O:Objs} {m:Hands} {n:Nat}
theorem Zxp (hM:Mem w O m n) {p:Nat} {q q':GObj} (hp:O p=some q) (h1:q'.row=q.row) (h2:q'.ty=q.ty) (h3:q'.sz=q.sz) (h4:q'.n=q.n) (hc:∀ vs,G.reps w O m n q.cells vs→G.reps w O m n q'.cells vs) :
  Mem w (O.upd p (some q')) m n∧Ext w O m n w (O.upd p (some q')) m n:=by
 have hpn:p < n:=by
  rcases Nat.lt_or_ge p n with h | h
  ·exact h
  rw [hM.fresh p h] at hp;cases hp
 have hold:∀ i o',(O.upd p (some q')) i=some o'→∃ o,O i=some o∧o'.row=o.row∧o'.n=o.n:=fun i o' hi=>by
  by_cases e:i=p
  ·subst e;rw [Zo] at hi;injection hi with hi;subst hi;exact ⟨q,hp,h1,h4⟩
  rw [Zn _ _ e] at hi;exact ⟨o',hi,rfl,rfl⟩
 have hrep:∀ (gs:List G) (vs:List Value),G.reps w O m n gs vs→G.reps w (O.upd p (some q')) m n gs vs:=fun gs vs h=>Gy hold gs vs h (Qu gs vs h)
 refine ⟨⟨fun i hi => ?_,fun i o' hi => ?_,fun i j oi oj b hi hj => ?_⟩,⟨rfl,rfl,rfl,Nat.le_refl _,Nat.le_refl _,fun b _ ho=>⟨rfl,fun ⟨i,o',hi,hb⟩ => ?_⟩,fun i _ o' hi => ?_⟩⟩
 ·rw [Zn _ _ (by omega)];exact hM.fresh i hi
 ·by_cases e:i=p
  ·subst e
   rw [Zo] at hi
   injection hi with hi
   subst hi
   obtain ⟨vs,hr,hx⟩:=hM.obj i q hp
   refine ⟨vs,hrep _ _ (hc vs hr),?_⟩
   rw [h1,h2,h3,h4];exact hx
  rw [Zn _ _ e] at hi
  obtain ⟨vs,hr,hx⟩:=hM.obj i o' hi
  exact ⟨vs,hrep _ _ hr,hx⟩
 ·obtain ⟨o1,e1,_⟩:=hold i oi hi
  obtain ⟨o2,e2,_⟩:=hold j oj hj
  exact hM.apart i j o1 o2 b e1 e2
 ·obtain ⟨o1,e1,_⟩:=hold i o' hi
  exact ho ⟨i,o1,e1,hb⟩
 obtain ⟨o1,e1,e2,e3⟩:=hold i o' hi
 exact ⟨o1,e1,e2,Nat.le_of_eq e3.symm,fun _=>rfl⟩
theorem Zgn {ba:Nat} {E:Env} {p k:Nat} {q:GObj} (t:TypeId) (sz:Nat) (hp:O p=some q) (hk:q.cells[k]? = some (.val (.slice none 0 0))) (hb:ba≤n) :
  Fit2 ba E O n E ((O.upd n (some ⟨true,t,sz,0,[]⟩)).upd p (some ⟨q.row,q.ty,q.sz,q.n,q.cells.set k (.row n 0)⟩)) (n+1):=fun w m a hM hE=>by
 have hpn:p≠n:=fun e=>by rw [e,hM.fresh n (Nat.le_refl _)] at hp;cases hp
 obtain ⟨h1,h2⟩:=Zsq hM t sz
 have hp':(O.upd n (some ⟨true,t,sz,0,[]⟩)) p=some q:=by rw [Zn _ _ hpn];exact hp
 obtain ⟨h3,h4⟩:=Zxp (q':=⟨q.row,q.ty,q.sz,q.n,q.cells.set k (.row n 0)⟩) h1 hp' rfl rfl rfl rfl (fun vs hr=>by
  obtain ⟨v,hv,hrv⟩:=Zn5 _ _ hr k _ hk
  simp only [G.rep] at hrv
  subst hrv
  have:=Zwe q.cells vs k (.row n 0) (.slice none 0 0) hr (Zsr t sz)
  rw [Zwi hv] at this
  exact this)
 have hX:=h2.trans h4
 exact ⟨_,h3,hE.ext hX,hX.base hb⟩
theorem Zuy {ba:Nat} {c:Code} {Q:GQ} {E:Env} {p k:Nat} {q:GObj} (t:TypeId) (sz:Nat) (hp:O p=some q) (hk:q.cells[k]? = some (.val (.slice none 0 0)))
  (h:W P ba c Q E ((O.upd n (some ⟨true,t,sz,0,[]⟩)).upd p (some ⟨q.row,q.ty,q.sz,q.n,q.cells.set k (.row n 0)⟩)) (n+1)):W P ba c Q E O n:=fun hb=>Zbk (Zgn t sz hp hk hb) h hb
end
end Go.Proofs.Ytaddaloondpnkaa
