/- Part H17 of the ghost memory: lemmas and contracts used by the proofs of this seat's laws; each theorem bears its own conditions. -/
import Derived.Test.YtmjjjfamipncdaaGreatH16
namespace Go.Proofs.YtmjjjfamipncdaaGreat
open Go.RowKit
set_option linter.unusedVariables false
set_option linter.unusedSimpArgs false
section
variable {α:Type} {xs:List α} {i:Int} {f:α→List G} {T:J0} {t:TypeId} {ti:TyI} {x:α} {sz off:Nat}
theorem Z5q (hf:∀ x,(f x).length=sz) (hx:Z5 xs i=some x):(fl f xs).drop (i.toNat * sz)=f x++fl f (xs.drop (i.toNat+1)):=by
 have h1:=Zox hx
 have hi:=Zbt hx
 have:xs[i.toNat]=x:=by rw [List.getElem?_eq_getElem hi] at h1;injection h1
 rw [Zop hf,List.drop_eq_getElem_cons hi,Kz,this]
theorem Zdw (ht:T t=some ti) (hf:∀ x,(f x).length=sz) (ho:off+ti.size≤sz) (h0:0 < ti.size) (hx:Z5 xs i=some x):Zc2 T t (fl f xs) (i.toNat * sz+off)=if ti.k.isAgg then some (.agg (((f x).drop off).take ti.size)) else (f x)[off]? := by
 unfold Zc2
 simp only [ht]
 have hi:=Zbt hx
 have hd:=Z5q hf hx
 split
 ·rw [if_pos ?_,← List.drop_drop,hd,List.drop_append_of_le_length (by rw [hf x];omega),List.take_append_of_le_length (by rw [List.length_drop,hf x];omega)]
  rw [Vo hf]
  have:(i.toNat+1) * sz≤xs.length * sz:=Nat.mul_le_mul_right _ hi
  rw [Nat.succ_mul] at this
  omega
 rw [← List.getElem?_drop,hd,List.getElem?_append_left (by rw [hf x];omega)]
end
theorem Zd4:Zak .any = .any:=rfl
theorem Zd8 (v:Value):Zak (.val v) = .val v:=rfl
theorem Zd3 (cs:List G):Zak (.agg cs) = .agg cs:=rfl
theorem Zd7 (cs:List G):Zak (.tup cs) = .tup cs:=rfl
theorem Zg8 (n:Nat) (cs:List G):Zak (.sl n cs) = .sl n cs:=rfl
theorem Zg3 (cs:List G) (k:Nat):Zak (.ip cs k) = .ip cs k:=rfl
theorem Zd6 (i n:Nat):Zak (.row i n) = .row i n:=rfl
theorem Zg7 (i a n:Nat):Zak (.rs i a n) = .rs i a n:=rfl
theorem Zg6 (i n a:Nat):Zak (.rp i n a) = .rp i n a:=rfl
theorem Zg5 (i n a k:Nat):Zak (.rl i n a k) = .rl i n a k:=rfl
theorem Zd5 (i a:Nat):Zak (.ref i a) = .ref i a:=rfl
theorem Zg2 (f k:Nat) (cs:List G):Zak (.fn f k cs) = .fn f k cs:=rfl
theorem Zcw (b:Bool) (g:G):Zak (.when b g)=g:=rfl
section
variable {O:Objs} {T:J0} {op:BinOp} {t:TypeId}
theorem Zgi:X2 O .any=True:=rfl
theorem Zgm (v:Value):X2 O (.val v)=True:=rfl
theorem Zgh (cs:List G):X2 O (.agg cs)=True:=rfl
theorem Zgl (cs:List G):X2 O (.tup cs)=True:=rfl
theorem Zk2 (n:Nat) (cs:List G):X2 O (.sl n cs)=True:=rfl
theorem Zky (cs:List G) (k:Nat):X2 O (.ip cs k)=True:=rfl
theorem Zkx (f k:Nat) (cs:List G):X2 O (.fn f k cs)=True:=rfl
theorem Zd1 (b:Bool) (g:G):X2 O (.when b g)=True:=rfl
theorem Zgj (i a:Nat):X2 O (.ref i a)=∃ o,O i=some o∧o.row=false:=rfl
theorem Zk1 (i a n:Nat):X2 O (.rs i a n)=∃ o,O i=some o∧o.row=false:=rfl
theorem Zk0 (i k a:Nat):X2 O (.rp i k a)=∃ o,O i=some o∧o.row=true∧k=o.n:=rfl
theorem Zkz (i k a l:Nat):X2 O (.rl i k a l)=True:=rfl
theorem Zgk (i k:Nat):X2 O (.row i k)=∃ o,O i=some o∧o.row=true∧k=o.n:=rfl
theorem Zkt:Kf O .any=True:=rfl
theorem Zkw (v:Value):Kf O (.val v)=True:=rfl
theorem Zks (cs:List G):Kf O (.agg cs)=True:=rfl
theorem Zkv (cs:List G):Kf O (.tup cs)=True:=rfl
theorem Zqh (n:Nat) (cs:List G):Kf O (.sl n cs)=True:=rfl
theorem Zqe (cs:List G) (k:Nat):Kf O (.ip cs k)=True:=rfl
theorem Zqd (f k:Nat) (cs:List G):Kf O (.fn f k cs)=True:=rfl
theorem Zku (i k:Nat):Kf O (.row i k)=True:=rfl
theorem Zqf (i k a l:Nat):Kf O (.rl i k a l)=True:=rfl
theorem Zqg (i a n:Nat):Kf O (.rs i a n)=∃ o,O i=some o∧o.row=false:=rfl
theorem Zkf (k k':IntKind) (a b:Int):Zos T op t (.val (.int k a)) (.val (.int k' b))=(Ztp op k a k' b).map fun r=>(r.1,.val r.2):=rfl
theorem Zke (a b:Bool):Zos T op t (.val (.bool a)) (.val (.bool b))=match Z9 T t,op with
  | some .bool,.eql=>some (True,.val (.bool (a == b)))
  | some .bool,.neq=>some (True,.val (.bool (a != b)))
  | _,_=>none:=rfl
theorem Zkk (a b:ByteArray):Zos T op t (.val (.string a)) (.val (.string b))=match op with
  | .eql=>some (True,.val (.bool (a.toList == b.toList)))
  | .neq=>some (True,.val (.bool (!(a.toList == b.toList))))
  | _=>none:=rfl
theorem Zki:Zos T op t (.val (.pointer none)) (.val (.pointer none))=match Z9 T t,op with
  | some (.ptr _),.eql=>some (True,.val (.bool true))
  | some (.ptr _),.neq=>some (True,.val (.bool false))
  | _,_=>none:=rfl
theorem Zkj (i a:Nat):Zos T op t (.ref i a) (.val (.pointer none))=match Z9 T t,op with
  | some (.ptr _),.eql=>some (True,.val (.bool false))
  | some (.ptr _),.neq=>some (True,.val (.bool true))
  | _,_=>none:=rfl
theorem Zkg (cs:List G) (k:Nat):Zos T op t (.ip cs k) (.val (.pointer none))=match Z9 T t,op with
  | some (.ptr _),.eql=>some (True,.val (.bool false))
  | some (.ptr _),.neq=>some (True,.val (.bool true))
  | _,_=>none:=rfl
theorem Zkh (a:Option Addr) (l c l' c':Nat):Zos T op t (.val (.slice a l c)) (.val (.slice none l' c'))=match Z9 T t,op with
  | some (.slice _),.eql=>some (True,.val (.bool a.isNone))
  | some (.slice _),.neq=>some (True,.val (.bool (!a.isNone)))
  | _,_=>none:=rfl
theorem Zkd (xs ys:List G):Zos T op t (.agg xs) (.agg ys)=match T t,Zow T 6 t xs ys with
  | some i,some b=>if i.k.isAgg=true∧i.eq=true then (match op with
   | .eql=>some (True,.val (.bool b))
   | .neq=>some (True,.val (.bool (!b)))
   | _=>none) else none
  | _,_=>none:=rfl
end
theorem Zk5:G.one .any=false:=rfl
theorem Zk9 (v:Value):G.one (.val v)=v.oneCell':=rfl
theorem Zk4 (cs:List G):G.one (.agg cs)=false:=rfl
theorem Zk8 (cs:List G):G.one (.tup cs)=false:=rfl
theorem Zgr (b:Bool) (g:G):G.one (.when b g)=false:=rfl
theorem Zqr (n:Nat) (cs:List G):G.one (.sl n cs)=true:=rfl
theorem Zqn (cs:List G) (k:Nat):G.one (.ip cs k)=true:=rfl
theorem Zk7 (i n:Nat):G.one (.row i n)=true:=rfl
theorem Zqq (i a n:Nat):G.one (.rs i a n)=true:=rfl
theorem Zqp (i n a:Nat):G.one (.rp i n a)=true:=rfl
theorem Zqo (i n a k:Nat):G.one (.rl i n a k)=true:=rfl
theorem Zk6 (i a:Nat):G.one (.ref i a)=true:=rfl
theorem Zqm (f k:Nat) (cs:List G):G.one (.fn f k cs)=true:=rfl
theorem Za9 (cs:List G):Qi (.agg cs)=some cs:=rfl
theorem Zc0 (v:Value):Qi (.val v)=match v with
  | .agg vs=>some (vs.toList.map .val)
  | v=>if G.one (.val v)=true then some [.val v] else none:=by cases v <;> rfl
theorem Zch (n:Nat) (cs:List G):Qi (.sl n cs)=some [.sl n cs]:=rfl
theorem Zcd (cs:List G) (k:Nat):Qi (.ip cs k)=some [.ip cs k]:=rfl
theorem Zbc (i n:Nat):Qi (.row i n)=some [.row i n]:=rfl
theorem Zcg (i a n:Nat):Qi (.rs i a n)=some [.rs i a n]:=rfl
theorem Zcf (i n a:Nat):Qi (.rp i n a)=some [.rp i n a]:=rfl
theorem Zce (i n a k:Nat):Qi (.rl i n a k)=some [.rl i n a k]:=rfl
theorem Zbb (i a:Nat):Qi (.ref i a)=some [.ref i a]:=rfl
theorem Zcc (f k:Nat) (cs:List G):Qi (.fn f k cs)=some [.fn f k cs]:=rfl
theorem Zba:Qi .any=none:=rfl
theorem Zbd (cs:List G):Qi (.tup cs)=none:=rfl
theorem Zaa (b:Bool) (g:G):Qi (.when b g)=none:=rfl
def gP {α:Type} (f:α→List G):Option α→G
 | none => .val (.pointer none)
 | some x => .ip (f x) 0
def eP {α:Type} (f:α→List G) (x:Option α):List G:=[gP f x]
section
variable {α:Type} {f:α→List G} {T:J0} {t e:TypeId} {O O':Objs} {n':Nat}
theorem Zkb:gP f none = .val (.pointer none):=rfl
theorem Zkc (x:α):gP f (some x) = .ip (f x) 0:=rfl
theorem Yaa (x:Option α):Zak (gP f x)=gP f x:=by cases x <;> rfl
theorem Ye5 (x:Option α) (l:List G):wok (gP f x::l)=wok l:=by cases x <;> rfl
theorem Yew (x:Option α):(gP f x).one=true:=by cases x <;> rfl
theorem Z2g (x:Option α):Qi (gP f x)=some [gP f x]:=by cases x <;> rfl
theorem Z4m (h:∀ x,G.pures (f x)=true) (x:Option α):(gP f x).pure=true:=by
 cases x with
 | none=>rfl
 | some x=>simp only [gP,G.pure,h]
theorem Yah (h:∀ x,G.pures (f x)=true) (k:Nat) (x:Option α):(gP f x).under k=true:=Zij k _ (Z4m h x)
theorem Yiq (h:∀ x,G.pures (f x)=true) (x:Option α):wk O O' n' (gP f x) (gP f x)=True:=eq_true (Zzg _ (Yah h _ x))
theorem Ya9 (x:Option α):X2 O (gP f x)=True:=by cases x <;> rfl
theorem Zz7 (hk:Z9 T t=some (.ptr e)) (x:Option α):Zos T .eql t (gP f x) (.val (.pointer none))=some (True,.val (.bool x.isNone)):=by cases x <;> simp [gP,Zos,hk]
end
theorem Z1l {α:Type}:∀ {l:List α} {k:Nat} {x:α},l[k]? = some x→l.set k x=l
 | [],k,x,h=>by simp at h
 | y::l,0,x,h=>by simp at h;simp [h]
 | y::l,k+1,x,h=>by simp only [List.set_cons_succ,Z1l (l:=l) (k:=k) (by simpa using h)]
section
variable {P:Program} {w:World} {O:Objs} {m:Hands} {n:Nat}
theorem Z25 (hM:Mem w O m n) {p:Nat} {q q':GObj} (hp:O p=some q) (h1:q'.row=q.row) (h2:q'.ty=q.ty) (h3:q'.sz=q.sz) (h4:q'.n=q.n) (hc:∀ vs,G.reps w O m n q.cells vs→G.reps w O m n q'.cells vs) :
  Mem w (O.upd p (some q')) m n∧Ext w O m n w (O.upd p (some q')) m n:=by
 have hpn:p < n:=by
  rcases Nat.lt_or_ge p n with h | h
  ·exact h
  rw [hM.fresh p h] at hp;cases hp
 have hold:∀ i o',(O.upd p (some q')) i=some o'→∃ o,O i=some o∧o'.row=o.row∧o'.n=o.n:=fun i o' hi=>by
  by_cases e:i=p
  ·subst e;rw [Yj] at hi;injection hi with hi;subst hi;exact ⟨q,hp,h1,h4⟩
  rw [Yb _ _ e] at hi;exact ⟨o',hi,rfl,rfl⟩
 have hrep:∀ (gs:List G) (vs:List Value),G.reps w O m n gs vs→G.reps w (O.upd p (some q')) m n gs vs:=fun gs vs h=>Za5 hold gs vs h (Jv gs vs h)
 refine ⟨⟨fun i hi => ?_,fun i o' hi => ?_,fun i j oi oj b hi hj => ?_⟩,⟨rfl,rfl,rfl,Nat.le_refl _,Nat.le_refl _,fun b _ ho=>⟨rfl,fun ⟨i,o',hi,hb⟩ => ?_⟩,fun i _ o' hi => ?_⟩⟩
 ·rw [Yb _ _ (by omega)];exact hM.fresh i hi
 ·by_cases e:i=p
  ·subst e
   rw [Yj] at hi
   injection hi with hi
   subst hi
   obtain ⟨vs,hr,hx⟩:=hM.obj i q hp
   refine ⟨vs,hrep _ _ (hc vs hr),?_⟩
   rw [h1,h2,h3,h4];exact hx
  rw [Yb _ _ e] at hi
  obtain ⟨vs,hr,hx⟩:=hM.obj i o' hi
  exact ⟨vs,hrep _ _ hr,hx⟩
 ·obtain ⟨o1,e1,_⟩:=hold i oi hi
  obtain ⟨o2,e2,_⟩:=hold j oj hj
  exact hM.apart i j o1 o2 b e1 e2
 ·obtain ⟨o1,e1,_⟩:=hold i o' hi
  exact ho ⟨i,o1,e1,hb⟩
 obtain ⟨o1,e1,e2,e3⟩:=hold i o' hi
 exact ⟨o1,e1,e2,Nat.le_of_eq e3.symm,fun _=>rfl⟩
theorem Zeb {ba:Nat} {E:Env} {p k:Nat} {q:GObj} (t:TypeId) (sz:Nat) (hp:O p=some q) (hk:q.cells[k]? = some (.val (.slice none 0 0))) (hb:ba≤n) :
  Fit2 ba E O n E ((O.upd n (some ⟨true,t,sz,0,[]⟩)).upd p (some ⟨q.row,q.ty,q.sz,q.n,q.cells.set k (.row n 0)⟩)) (n+1):=fun w m a hM hE=>by
 have hpn:p≠n:=fun e=>by rw [e,hM.fresh n (Nat.le_refl _)] at hp;cases hp
 obtain ⟨h1,h2⟩:=Zvk hM t sz
 have hp':(O.upd n (some ⟨true,t,sz,0,[]⟩)) p=some q:=by rw [Yb _ _ hpn];exact hp
 obtain ⟨h3,h4⟩:=Z25 (q':=⟨q.row,q.ty,q.sz,q.n,q.cells.set k (.row n 0)⟩) h1 hp' rfl rfl rfl rfl (fun vs hr=>by
  obtain ⟨v,hv,hrv⟩:=Zps _ _ hr k _ hk
  simp only [G.rep] at hrv
  subst hrv
  have:=Z1g q.cells vs k (.row n 0) (.slice none 0 0) hr (Zvl t sz)
  rw [Z1l hv] at this
  exact this)
 have hX:=h2.trans h4
 exact ⟨_,h3,hE.ext hX,hX.base hb⟩
theorem Z7a {ba:Nat} {c:Code} {Q:GQ} {E:Env} {p k:Nat} {q:GObj} (t:TypeId) (sz:Nat) (hp:O p=some q) (hk:q.cells[k]? = some (.val (.slice none 0 0)))
  (h:W P ba c Q E ((O.upd n (some ⟨true,t,sz,0,[]⟩)).upd p (some ⟨q.row,q.ty,q.sz,q.n,q.cells.set k (.row n 0)⟩)) (n+1)):W P ba c Q E O n:=fun hb=>Zh5 (Zeb t sz hp hk hb) h hb
end
end Go.Proofs.YtmjjjfamipncdaaGreat
