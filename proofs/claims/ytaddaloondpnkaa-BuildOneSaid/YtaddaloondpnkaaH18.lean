/- Part H18 of the ghost memory: lemmas and contracts used by the proofs of this seat's laws; each theorem bears its own conditions. -/
import Derived.Test.YtaddaloondpnkaaH17
namespace Go.Proofs.Ytaddaloondpnkaa
open Go.RowKit
set_option linter.unusedVariables false
set_option linter.unusedSimpArgs false
theorem Zcx:Gm .any = .any:=rfl
theorem Zc1 (v:Value):Gm (.val v) = .val v:=rfl
theorem Zcw (cs:List G):Gm (.agg cs) = .agg cs:=rfl
theorem Zc0 (cs:List G):Gm (.tup cs) = .tup cs:=rfl
theorem Zfm (n:Nat) (cs:List G):Gm (.sl n cs) = .sl n cs:=rfl
theorem Zfi (cs:List G) (k:Nat):Gm (.ip cs k) = .ip cs k:=rfl
theorem Zcz (i n:Nat):Gm (.row i n) = .row i n:=rfl
theorem Zfl (i a n:Nat):Gm (.rs i a n) = .rs i a n:=rfl
theorem Zfk (i n a:Nat):Gm (.rp i n a) = .rp i n a:=rfl
theorem Zfj (i n a k:Nat):Gm (.rl i n a k) = .rl i n a k:=rfl
theorem Zcy (i a:Nat):Gm (.ref i a) = .ref i a:=rfl
theorem Zfg (f k:Nat) (cs:List G):Gm (.fn f k cs) = .fn f k cs:=rfl
theorem Zaw (b:Bool) (g:G):Gm (.when b g)=g:=rfl
section
variable {O:Objs} {T:Ql} {op:BinOp} {t:TypeId}
theorem Zeq:Y2 O .any=True:=rfl
theorem Zeu (v:Value):Y2 O (.val v)=True:=rfl
theorem Zep (cs:List G):Y2 O (.agg cs)=True:=rfl
theorem Zet (cs:List G):Y2 O (.tup cs)=True:=rfl
theorem Zii (n:Nat) (cs:List G):Y2 O (.sl n cs)=True:=rfl
theorem Zie (cs:List G) (k:Nat):Y2 O (.ip cs k)=True:=rfl
theorem Zic (f k:Nat) (cs:List G):Y2 O (.fn f k cs)=True:=rfl
theorem Zck (b:Bool) (g:G):Y2 O (.when b g)=True:=rfl
theorem Zer (i a:Nat):Y2 O (.ref i a)=∃ o,O i=some o∧o.row=false:=rfl
theorem Zih (i a n:Nat):Y2 O (.rs i a n)=∃ o,O i=some o∧o.row=false:=rfl
theorem Zig (i k a:Nat):Y2 O (.rp i k a)=∃ o,O i=some o∧o.row=true∧k=o.n:=rfl
theorem Zif (i k a l:Nat):Y2 O (.rl i k a l)=True:=rfl
theorem Zes (i k:Nat):Y2 O (.row i k)=∃ o,O i=some o∧o.row=true∧k=o.n:=rfl
theorem Zh8:Jd O .any=True:=rfl
theorem Zib (v:Value):Jd O (.val v)=True:=rfl
theorem Zh7 (cs:List G):Jd O (.agg cs)=True:=rfl
theorem Zia (cs:List G):Jd O (.tup cs)=True:=rfl
theorem Zm2 (n:Nat) (cs:List G):Jd O (.sl n cs)=True:=rfl
theorem Zmz (cs:List G) (k:Nat):Jd O (.ip cs k)=True:=rfl
theorem Zmy (f k:Nat) (cs:List G):Jd O (.fn f k cs)=True:=rfl
theorem Zh9 (i k:Nat):Jd O (.row i k)=True:=rfl
theorem Zm0 (i k a l:Nat):Jd O (.rl i k a l)=True:=rfl
theorem Zm1 (i a n:Nat):Jd O (.rs i a n)=∃ o,O i=some o∧o.row=false:=rfl
theorem Zhr (k k':IntKind) (a b:Int):Zos T op t (.val (.int k a)) (.val (.int k' b))=(Zql op k a k' b).map fun r=>(r.1,.val r.2):=rfl
theorem Zhq (a b:Bool):Zos T op t (.val (.bool a)) (.val (.bool b))=match Z7 T t,op with
  | some .bool,.eql=>some (True,.val (.bool (a == b)))
  | some .bool,.neq=>some (True,.val (.bool (a != b)))
  | _,_=>none:=rfl
theorem Zhw (a b:ByteArray):Zos T op t (.val (.string a)) (.val (.string b))=match op with
  | .eql=>some (True,.val (.bool (a.toList == b.toList)))
  | .neq=>some (True,.val (.bool (!(a.toList == b.toList))))
  | _=>none:=rfl
theorem Zhu:Zos T op t (.val (.pointer none)) (.val (.pointer none))=match Z7 T t,op with
  | some (.ptr _),.eql=>some (True,.val (.bool true))
  | some (.ptr _),.neq=>some (True,.val (.bool false))
  | _,_=>none:=rfl
theorem Zhv (i a:Nat):Zos T op t (.ref i a) (.val (.pointer none))=match Z7 T t,op with
  | some (.ptr _),.eql=>some (True,.val (.bool false))
  | some (.ptr _),.neq=>some (True,.val (.bool true))
  | _,_=>none:=rfl
theorem Zhs (cs:List G) (k:Nat):Zos T op t (.ip cs k) (.val (.pointer none))=match Z7 T t,op with
  | some (.ptr _),.eql=>some (True,.val (.bool false))
  | some (.ptr _),.neq=>some (True,.val (.bool true))
  | _,_=>none:=rfl
theorem Zht (a:Option Addr) (l c l' c':Nat):Zos T op t (.val (.slice a l c)) (.val (.slice none l' c'))=match Z7 T t,op with
  | some (.slice _),.eql=>some (True,.val (.bool a.isNone))
  | some (.slice _),.neq=>some (True,.val (.bool (!a.isNone)))
  | _,_=>none:=rfl
theorem Zhp (xs ys:List G):Zos T op t (.agg xs) (.agg ys)=match T t,Zmq T 6 t xs ys with
  | some i,some b=>if i.k.isAgg=true∧i.eq=true then (match op with
   | .eql=>some (True,.val (.bool b))
   | .neq=>some (True,.val (.bool (!b)))
   | _=>none) else none
  | _,_=>none:=rfl
end
theorem Zip:G.one .any=false:=rfl
theorem Zit (v:Value):G.one (.val v)=v.oneCell':=rfl
theorem Zio (cs:List G):G.one (.agg cs)=false:=rfl
theorem Zis (cs:List G):G.one (.tup cs)=false:=rfl
theorem Ze2 (b:Bool) (g:G):G.one (.when b g)=false:=rfl
theorem Znc (n:Nat) (cs:List G):G.one (.sl n cs)=true:=rfl
theorem Zm8 (cs:List G) (k:Nat):G.one (.ip cs k)=true:=rfl
theorem Zir (i n:Nat):G.one (.row i n)=true:=rfl
theorem Znb (i a n:Nat):G.one (.rs i a n)=true:=rfl
theorem Zna (i n a:Nat):G.one (.rp i n a)=true:=rfl
theorem Zm9 (i n a k:Nat):G.one (.rl i n a k)=true:=rfl
theorem Ziq (i a:Nat):G.one (.ref i a)=true:=rfl
theorem Zm7 (f k:Nat) (cs:List G):G.one (.fn f k cs)=true:=rfl
theorem Ul (cs:List G):Xg (.agg cs)=some cs:=rfl
theorem Uq (v:Value):Xg (.val v)=match v with
  | .agg vs=>some (vs.toList.map .val)
  | v=>if G.one (.val v)=true then some [.val v] else none:=by cases v <;> rfl
theorem Zag (n:Nat) (cs:List G):Xg (.sl n cs)=some [.sl n cs]:=rfl
theorem Zac (cs:List G) (k:Nat):Xg (.ip cs k)=some [.ip cs k]:=rfl
theorem Uo (i n:Nat):Xg (.row i n)=some [.row i n]:=rfl
theorem Zaf (i a n:Nat):Xg (.rs i a n)=some [.rs i a n]:=rfl
theorem Zae (i n a:Nat):Xg (.rp i n a)=some [.rp i n a]:=rfl
theorem Zad (i n a k:Nat):Xg (.rl i n a k)=some [.rl i n a k]:=rfl
theorem Un (i a:Nat):Xg (.ref i a)=some [.ref i a]:=rfl
theorem Zaa (f k:Nat) (cs:List G):Xg (.fn f k cs)=some [.fn f k cs]:=rfl
theorem Um:Xg .any=none:=rfl
theorem Up (cs:List G):Xg (.tup cs)=none:=rfl
theorem Vp (b:Bool) (g:G):Xg (.when b g)=none:=rfl
def gP {α:Type} (f:α→List G):Option α→G
 | none => .val (.pointer none)
 | some x => .ip (f x) 0
def eP {α:Type} (f:α→List G) (x:Option α):List G:=[gP f x]
section
variable {α:Type} {f:α→List G} {T:Ql} {t e:TypeId} {O O':Objs} {n':Nat}
theorem Zhn:gP f none = .val (.pointer none):=rfl
theorem Zho (x:α):gP f (some x) = .ip (f x) 0:=rfl
theorem Zfh (x:Option α):Gm (gP f x)=gP f x:=by cases x <;> rfl
theorem Zoj (x:Option α) (l:List G):wok (gP f x::l)=wok l:=by cases x <;> rfl
theorem Zdt (x:Option α):(gP f x).one=true:=by cases x <;> rfl
theorem Zab (x:Option α):Xg (gP f x)=some [gP f x]:=by cases x <;> rfl
theorem Zbt (h:∀ x,G.pures (f x)=true) (x:Option α):(gP f x).pure=true:=by
 cases x with
 | none=>rfl
 | some x=>simp only [gP,G.pure,h]
theorem Zhk (h:∀ x,G.pures (f x)=true) (k:Nat) (x:Option α):(gP f x).under k=true:=Zi3 k _ (Zbt h x)
theorem Zxu (h:∀ x,G.pures (f x)=true) (x:Option α):wk O O' n' (gP f x) (gP f x)=True:=eq_true (Zpj _ (Zhk h _ x))
theorem Zid (x:Option α):Y2 O (gP f x)=True:=by cases x <;> rfl
theorem Zwo (hk:Z7 T t=some (.ptr e)) (x:Option α):Zos T .eql t (gP f x) (.val (.pointer none))=some (True,.val (.bool x.isNone)):=by cases x <;> simp [gP,Zos,hk]
end
theorem Zsc {α:Type}:∀ {l:List α} {k:Nat} {x:α},l[k]? = some x→l.set k x=l
 | [],k,x,h=>by simp at h
 | y::l,0,x,h=>by simp at h;simp [h]
 | y::l,k+1,x,h=>by simp only [List.set_cons_succ,Zsc (l:=l) (k:=k) (by simpa using h)]
section
variable {P:Program} {w:World} {O:Objs} {m:Hands} {n:Nat}
theorem Zyr (hM:Mem w O m n) {p:Nat} {q q':GObj} (hp:O p=some q) (h1:q'.row=q.row) (h2:q'.ty=q.ty) (h3:q'.sz=q.sz) (h4:q'.n=q.n) (hc:∀ vs,G.reps w O m n q.cells vs→G.reps w O m n q'.cells vs) :
  Mem w (O.upd p (some q')) m n∧Ext w O m n w (O.upd p (some q')) m n:=by
 have hpn:p < n:=by
  rcases Nat.lt_or_ge p n with h | h
  ·exact h
  rw [hM.fresh p h] at hp;cases hp
 have hold:∀ i o',(O.upd p (some q')) i=some o'→∃ o,O i=some o∧o'.row=o.row∧o'.n=o.n:=fun i o' hi=>by
  by_cases e:i=p
  ·subst e;rw [Zs] at hi;injection hi with hi;subst hi;exact ⟨q,hp,h1,h4⟩
  rw [Zr _ _ e] at hi;exact ⟨o',hi,rfl,rfl⟩
 have hrep:∀ (gs:List G) (vs:List Value),G.reps w O m n gs vs→G.reps w (O.upd p (some q')) m n gs vs:=fun gs vs h=>U7 hold gs vs h (Qw gs vs h)
 refine ⟨⟨fun i hi => ?_,fun i o' hi => ?_,fun i j oi oj b hi hj => ?_⟩,⟨rfl,rfl,rfl,Nat.le_refl _,Nat.le_refl _,fun b _ ho=>⟨rfl,fun ⟨i,o',hi,hb⟩ => ?_⟩,fun i _ o' hi => ?_⟩⟩
 ·rw [Zr _ _ (by omega)];exact hM.fresh i hi
 ·by_cases e:i=p
  ·subst e
   rw [Zs] at hi
   injection hi with hi
   subst hi
   obtain ⟨vs,hr,hx⟩:=hM.obj i q hp
   refine ⟨vs,hrep _ _ (hc vs hr),?_⟩
   rw [h1,h2,h3,h4];exact hx
  rw [Zr _ _ e] at hi
  obtain ⟨vs,hr,hx⟩:=hM.obj i o' hi
  exact ⟨vs,hrep _ _ hr,hx⟩
 ·obtain ⟨o1,e1,_⟩:=hold i oi hi
  obtain ⟨o2,e2,_⟩:=hold j oj hj
  exact hM.apart i j o1 o2 b e1 e2
 ·obtain ⟨o1,e1,_⟩:=hold i o' hi
  exact ho ⟨i,o1,e1,hb⟩
 obtain ⟨o1,e1,e2,e3⟩:=hold i o' hi
 exact ⟨o1,e1,e2,Nat.le_of_eq e3.symm,fun _=>rfl⟩
theorem Zml {ba:Nat} {E:Env} {p k:Nat} {q:GObj} (t:TypeId) (sz:Nat) (hp:O p=some q) (hk:q.cells[k]? = some (.val (.slice none 0 0))) (hb:ba≤n) :
  Fit2 ba E O n E ((O.upd n (some ⟨true,t,sz,0,[]⟩)).upd p (some ⟨q.row,q.ty,q.sz,q.n,q.cells.set k (.row n 0)⟩)) (n+1):=fun w m a hM hE=>by
 have hpn:p≠n:=fun e=>by rw [e,hM.fresh n (Nat.le_refl _)] at hp;cases hp
 obtain ⟨h1,h2⟩:=Zt9 hM t sz
 have hp':(O.upd n (some ⟨true,t,sz,0,[]⟩)) p=some q:=by rw [Zr _ _ hpn];exact hp
 obtain ⟨h3,h4⟩:=Zyr (q':=⟨q.row,q.ty,q.sz,q.n,q.cells.set k (.row n 0)⟩) h1 hp' rfl rfl rfl rfl (fun vs hr=>by
  obtain ⟨v,hv,hrv⟩:=Zl8 _ _ hr k _ hk
  simp only [G.rep] at hrv
  subst hrv
  have:=Zr7 q.cells vs k (.row n 0) (.slice none 0 0) hr (Zua t sz)
  rw [Zsc hv] at this
  exact this)
 have hX:=h2.trans h4
 exact ⟨_,h3,hE.ext hX,hX.base hb⟩
theorem Z1a {ba:Nat} {c:Code} {Q:GQ} {E:Env} {p k:Nat} {q:GObj} (t:TypeId) (sz:Nat) (hp:O p=some q) (hk:q.cells[k]? = some (.val (.slice none 0 0)))
  (h:W P ba c Q E ((O.upd n (some ⟨true,t,sz,0,[]⟩)).upd p (some ⟨q.row,q.ty,q.sz,q.n,q.cells.set k (.row n 0)⟩)) (n+1)):W P ba c Q E O n:=fun hb=>Gn (Zml t sz hp hk hb) h hb
end
end Go.Proofs.Ytaddaloondpnkaa
