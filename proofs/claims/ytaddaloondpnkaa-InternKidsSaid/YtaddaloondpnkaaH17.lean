/- Part H17 of the ghost memory: lemmas and contracts used by the proofs of this seat's laws; each theorem bears its own conditions. -/
import Derived.Test.YtaddaloondpnkaaH16
namespace Go.Proofs.Ytaddaloondpnkaa
open Go.RowKit
set_option linter.unusedVariables false
set_option linter.unusedSimpArgs false
section
variable {α:Type} {xs:List α} {i:Int} {f:α→List G} {T:Kf} {t:TypeId} {ti:TyI} {x:α} {sz off:Nat}
theorem Z33 (hf:∀ x,(f x).length=sz) (hx:Z9 xs i=some x):(fl f xs).drop (i.toNat * sz)=f x++fl f (xs.drop (i.toNat+1)):=by
 have h1:=Zo3 hx
 have hi:=Zax hx
 have:xs[i.toNat]=x:=by rw [List.getElem?_eq_getElem hi] at h1;injection h1
 rw [Zov hf,List.drop_eq_getElem_cons hi,V3,this]
theorem Zee (ht:T t=some ti) (hf:∀ x,(f x).length=sz) (ho:off+ti.size≤sz) (h0:0 < ti.size) (hx:Z9 xs i=some x):Ze1 T t (fl f xs) (i.toNat * sz+off)=if ti.k.isAgg then some (.agg (((f x).drop off).take ti.size)) else (f x)[off]? := by
 unfold Ze1
 simp only [ht]
 have hi:=Zax hx
 have hd:=Z33 hf hx
 split
 ·rw [if_pos ?_,← List.drop_drop,hd,List.drop_append_of_le_length (by rw [hf x];omega),List.take_append_of_le_length (by rw [List.length_drop,hf x];omega)]
  rw [Gi hf]
  have:(i.toNat+1) * sz≤xs.length * sz:=Nat.mul_le_mul_right _ hi
  rw [Nat.succ_mul] at this
  omega
 rw [← List.getElem?_drop,hd,List.getElem?_append_left (by rw [hf x];omega)]
end
theorem Zu8 {P:Program} {t e:TypeId} {α:Type} {f:α→List G} {wf:α→Prop} {sz:Nat} (n:Nat) (ht:P.underlying t=some (.slice e)) (hc:P.cellsOf e=sz) (hs:0 < sz) (hf:∀ x,(f x).length=sz) (he:∀ m,m < n→Zck P e f wf m) :
  Zck P t (eL f) (fun xs=>xs.length * P.bytesOf e≤reachBytes∧∀ x∈xs,wf x) n:=by
 cases n with
 | zero=>exact Zju
 | succ n=>exact Zpg ht hc hs hf (he n (Nat.lt_succ_self n))
theorem Zen:Zar .any = .any:=rfl
theorem Zer (v:Value):Zar (.val v) = .val v:=rfl
theorem Zem (cs:List G):Zar (.agg cs) = .agg cs:=rfl
theorem Zeq (cs:List G):Zar (.tup cs) = .tup cs:=rfl
theorem Zhi (n:Nat) (cs:List G):Zar (.sl n cs) = .sl n cs:=rfl
theorem Zhd (cs:List G) (k:Nat):Zar (.ip cs k) = .ip cs k:=rfl
theorem Zep (i n:Nat):Zar (.row i n) = .row i n:=rfl
theorem Zhh (i a n:Nat):Zar (.rs i a n) = .rs i a n:=rfl
theorem Zhg (i n a:Nat):Zar (.rp i n a) = .rp i n a:=rfl
theorem Zhf (i n a k:Nat):Zar (.rl i n a k) = .rl i n a k:=rfl
theorem Zeo (i a:Nat):Zar (.ref i a) = .ref i a:=rfl
theorem Zhc (f k:Nat) (cs:List G):Zar (.fn f k cs) = .fn f k cs:=rfl
theorem Zc6 (b:Bool) (g:G):Zar (.when b g)=g:=rfl
section
variable {O:Objs} {T:Kf} {op:BinOp} {t:TypeId}
theorem Zgr:Xw O .any=True:=rfl
theorem Zgv (v:Value):Xw O (.val v)=True:=rfl
theorem Zgq (cs:List G):Xw O (.agg cs)=True:=rfl
theorem Zgu (cs:List G):Xw O (.tup cs)=True:=rfl
theorem Zk7 (n:Nat) (cs:List G):Xw O (.sl n cs)=True:=rfl
theorem Zk3 (cs:List G) (k:Nat):Xw O (.ip cs k)=True:=rfl
theorem Zk2 (f k:Nat) (cs:List G):Xw O (.fn f k cs)=True:=rfl
theorem Zej (b:Bool) (g:G):Xw O (.when b g)=True:=rfl
theorem Zgs (i a:Nat):Xw O (.ref i a)=∃ o,O i=some o∧o.row=false:=rfl
theorem Zk6 (i a n:Nat):Xw O (.rs i a n)=∃ o,O i=some o∧o.row=false:=rfl
theorem Zk5 (i k a:Nat):Xw O (.rp i k a)=∃ o,O i=some o∧o.row=true∧k=o.n:=rfl
theorem Zk4 (i k a l:Nat):Xw O (.rl i k a l)=True:=rfl
theorem Zgt (i k:Nat):Xw O (.row i k)=∃ o,O i=some o∧o.row=true∧k=o.n:=rfl
theorem Zky:Kw O .any=True:=rfl
theorem Zk1 (v:Value):Kw O (.val v)=True:=rfl
theorem Zkx (cs:List G):Kw O (.agg cs)=True:=rfl
theorem Zk0 (cs:List G):Kw O (.tup cs)=True:=rfl
theorem Zp9 (n:Nat) (cs:List G):Kw O (.sl n cs)=True:=rfl
theorem Zp6 (cs:List G) (k:Nat):Kw O (.ip cs k)=True:=rfl
theorem Zp5 (f k:Nat) (cs:List G):Kw O (.fn f k cs)=True:=rfl
theorem Zkz (i k:Nat):Kw O (.row i k)=True:=rfl
theorem Zp7 (i k a l:Nat):Kw O (.rl i k a l)=True:=rfl
theorem Zp8 (i a n:Nat):Kw O (.rs i a n)=∃ o,O i=some o∧o.row=false:=rfl
theorem Zkk (k k':IntKind) (a b:Int):Zoy T op t (.val (.int k a)) (.val (.int k' b))=(Ztj op k a k' b).map fun r=>(r.1,.val r.2):=rfl
theorem Zkj (a b:Bool):Zoy T op t (.val (.bool a)) (.val (.bool b))=match Yf T t,op with
  | some .bool,.eql=>some (True,.val (.bool (a == b)))
  | some .bool,.neq=>some (True,.val (.bool (a != b)))
  | _,_=>none:=rfl
theorem Zkp (a b:ByteArray):Zoy T op t (.val (.string a)) (.val (.string b))=match op with
  | .eql=>some (True,.val (.bool (a.toList == b.toList)))
  | .neq=>some (True,.val (.bool (!(a.toList == b.toList))))
  | _=>none:=rfl
theorem Zkn:Zoy T op t (.val (.pointer none)) (.val (.pointer none))=match Yf T t,op with
  | some (.ptr _),.eql=>some (True,.val (.bool true))
  | some (.ptr _),.neq=>some (True,.val (.bool false))
  | _,_=>none:=rfl
theorem Zko (i a:Nat):Zoy T op t (.ref i a) (.val (.pointer none))=match Yf T t,op with
  | some (.ptr _),.eql=>some (True,.val (.bool false))
  | some (.ptr _),.neq=>some (True,.val (.bool true))
  | _,_=>none:=rfl
theorem Zkl (cs:List G) (k:Nat):Zoy T op t (.ip cs k) (.val (.pointer none))=match Yf T t,op with
  | some (.ptr _),.eql=>some (True,.val (.bool false))
  | some (.ptr _),.neq=>some (True,.val (.bool true))
  | _,_=>none:=rfl
theorem Zkm (a:Option Addr) (l c l' c':Nat):Zoy T op t (.val (.slice a l c)) (.val (.slice none l' c'))=match Yf T t,op with
  | some (.slice _),.eql=>some (True,.val (.bool a.isNone))
  | some (.slice _),.neq=>some (True,.val (.bool (!a.isNone)))
  | _,_=>none:=rfl
theorem Zki (xs ys:List G):Zoy T op t (.agg xs) (.agg ys)=match T t,Zo2 T 6 t xs ys with
  | some i,some b=>if i.k.isAgg=true∧i.eq=true then (match op with
   | .eql=>some (True,.val (.bool b))
   | .neq=>some (True,.val (.bool (!b)))
   | _=>none) else none
  | _,_=>none:=rfl
end
theorem Zk9:G.one .any=false:=rfl
theorem Zld (v:Value):G.one (.val v)=v.oneCell':=rfl
theorem Zk8 (cs:List G):G.one (.agg cs)=false:=rfl
theorem Zlc (cs:List G):G.one (.tup cs)=false:=rfl
theorem Zgz (b:Bool) (g:G):G.one (.when b g)=false:=rfl
theorem Zqk (n:Nat) (cs:List G):G.one (.sl n cs)=true:=rfl
theorem Zqg (cs:List G) (k:Nat):G.one (.ip cs k)=true:=rfl
theorem Zlb (i n:Nat):G.one (.row i n)=true:=rfl
theorem Zqj (i a n:Nat):G.one (.rs i a n)=true:=rfl
theorem Zqi (i n a:Nat):G.one (.rp i n a)=true:=rfl
theorem Zqh (i n a k:Nat):G.one (.rl i n a k)=true:=rfl
theorem Zla (i a:Nat):G.one (.ref i a)=true:=rfl
theorem Zqf (f k:Nat) (cs:List G):G.one (.fn f k cs)=true:=rfl
theorem Zbd (cs:List G):Qc (.agg cs)=some cs:=rfl
theorem Zbi (v:Value):Qc (.val v)=match v with
  | .agg vs=>some (vs.toList.map .val)
  | v=>if G.one (.val v)=true then some [.val v] else none:=by cases v <;> rfl
theorem Zcr (n:Nat) (cs:List G):Qc (.sl n cs)=some [.sl n cs]:=rfl
theorem Zcn (cs:List G) (k:Nat):Qc (.ip cs k)=some [.ip cs k]:=rfl
theorem Zbg (i n:Nat):Qc (.row i n)=some [.row i n]:=rfl
theorem Zcq (i a n:Nat):Qc (.rs i a n)=some [.rs i a n]:=rfl
theorem Zcp (i n a:Nat):Qc (.rp i n a)=some [.rp i n a]:=rfl
theorem Zco (i n a k:Nat):Qc (.rl i n a k)=some [.rl i n a k]:=rfl
theorem Zbf (i a:Nat):Qc (.ref i a)=some [.ref i a]:=rfl
theorem Zcm (f k:Nat) (cs:List G):Qc (.fn f k cs)=some [.fn f k cs]:=rfl
theorem Zbe:Qc .any=none:=rfl
theorem Zbh (cs:List G):Qc (.tup cs)=none:=rfl
theorem Zai (b:Bool) (g:G):Qc (.when b g)=none:=rfl
def gP {α:Type} (f:α→List G):Option α→G
 | none => .val (.pointer none)
 | some x => .ip (f x) 0
def eP {α:Type} (f:α→List G) (x:Option α):List G:=[gP f x]
section
variable {α:Type} {f:α→List G} {T:Kf} {t e:TypeId} {O O':Objs} {n':Nat}
theorem Zkg:gP f none = .val (.pointer none):=rfl
theorem Zkh (x:α):gP f (some x) = .ip (f x) 0:=rfl
theorem Z0x (x:Option α):Zar (gP f x)=gP f x:=by cases x <;> rfl
theorem Z8c (x:Option α) (l:List G):wok (gP f x::l)=wok l:=by cases x <;> rfl
theorem Ybu (x:Option α):(gP f x).one=true:=by cases x <;> rfl
theorem Z1e (x:Option α):Qc (gP f x)=some [gP f x]:=by cases x <;> rfl
theorem Zye (h:∀ x,G.pures (f x)=true) (x:Option α):(gP f x).pure=true:=by
 cases x with
 | none=>rfl
 | some x=>simp only [gP,G.pure,h]
theorem Z77 (h:∀ x,G.pures (f x)=true) (k:Nat) (x:Option α):(gP f x).under k=true:=Zik k _ (Zye h x)
theorem Yd2 (h:∀ x,G.pures (f x)=true) (x:Option α):wk O O' n' (gP f x) (gP f x)=True:=eq_true (Zyv _ (Z77 h _ x))
theorem Z2y (x:Option α):Xw O (gP f x)=True:=by cases x <;> rfl
theorem Zry (hk:Yf T t=some (.ptr e)) (x:Option α):Zoy T .eql t (gP f x) (.val (.pointer none))=some (True,.val (.bool x.isNone)):=by cases x <;> simp [gP,Zoy,hk]
end
theorem Zup {α:Type}:∀ {l:List α} {k:Nat} {x:α},l[k]? = some x→l.set k x=l
 | [],k,x,h=>by simp at h
 | y::l,0,x,h=>by simp at h;simp [h]
 | y::l,k+1,x,h=>by simp only [List.set_cons_succ,Zup (l:=l) (k:=k) (by simpa using h)]
section
variable {P:Program} {w:World} {O:Objs} {m:Hands} {n:Nat}
theorem Z13 (hM:Mem w O m n) {p:Nat} {q q':GObj} (hp:O p=some q) (h1:q'.row=q.row) (h2:q'.ty=q.ty) (h3:q'.sz=q.sz) (h4:q'.n=q.n) (hc:∀ vs,G.reps w O m n q.cells vs→G.reps w O m n q'.cells vs) :
  Mem w (O.upd p (some q')) m n∧Ext w O m n w (O.upd p (some q')) m n:=by
 have hpn:p < n:=by
  rcases Nat.lt_or_ge p n with h | h
  ·exact h
  rw [hM.fresh p h] at hp;cases hp
 have hold:∀ i o',(O.upd p (some q')) i=some o'→∃ o,O i=some o∧o'.row=o.row∧o'.n=o.n:=fun i o' hi=>by
  by_cases e:i=p
  ·subst e;rw [Ye] at hi;injection hi with hi;subst hi;exact ⟨q,hp,h1,h4⟩
  rw [Ya _ _ e] at hi;exact ⟨o',hi,rfl,rfl⟩
 have hrep:∀ (gs:List G) (vs:List Value),G.reps w O m n gs vs→G.reps w (O.upd p (some q')) m n gs vs:=fun gs vs h=>Zac hold gs vs h (Jr gs vs h)
 refine ⟨⟨fun i hi => ?_,fun i o' hi => ?_,fun i j oi oj b hi hj => ?_⟩,⟨rfl,rfl,rfl,Nat.le_refl _,Nat.le_refl _,fun b _ ho=>⟨rfl,fun ⟨i,o',hi,hb⟩ => ?_⟩,fun i _ o' hi => ?_⟩⟩
 ·rw [Ya _ _ (by omega)];exact hM.fresh i hi
 ·by_cases e:i=p
  ·subst e
   rw [Ye] at hi
   injection hi with hi
   subst hi
   obtain ⟨vs,hr,hx⟩:=hM.obj i q hp
   refine ⟨vs,hrep _ _ (hc vs hr),?_⟩
   rw [h1,h2,h3,h4];exact hx
  rw [Ya _ _ e] at hi
  obtain ⟨vs,hr,hx⟩:=hM.obj i o' hi
  exact ⟨vs,hrep _ _ hr,hx⟩
 ·obtain ⟨o1,e1,_⟩:=hold i oi hi
  obtain ⟨o2,e2,_⟩:=hold j oj hj
  exact hM.apart i j o1 o2 b e1 e2
 ·obtain ⟨o1,e1,_⟩:=hold i o' hi
  exact ho ⟨i,o1,e1,hb⟩
 obtain ⟨o1,e1,e2,e3⟩:=hold i o' hi
 exact ⟨o1,e1,e2,Nat.le_of_eq e3.symm,fun _=>rfl⟩
theorem Zcl {ba:Nat} {E:Env} {p k:Nat} {q:GObj} (t:TypeId) (sz:Nat) (hp:O p=some q) (hk:q.cells[k]? = some (.val (.slice none 0 0))) (hb:ba≤n) :
  Fit2 ba E O n E ((O.upd n (some ⟨true,t,sz,0,[]⟩)).upd p (some ⟨q.row,q.ty,q.sz,q.n,q.cells.set k (.row n 0)⟩)) (n+1):=fun w m a hM hE=>by
 have hpn:p≠n:=fun e=>by rw [e,hM.fresh n (Nat.le_refl _)] at hp;cases hp
 obtain ⟨h1,h2⟩:=Zpv hM t sz
 have hp':(O.upd n (some ⟨true,t,sz,0,[]⟩)) p=some q:=by rw [Ya _ _ hpn];exact hp
 obtain ⟨h3,h4⟩:=Z13 (q':=⟨q.row,q.ty,q.sz,q.n,q.cells.set k (.row n 0)⟩) h1 hp' rfl rfl rfl rfl (fun vs hr=>by
  obtain ⟨v,hv,hrv⟩:=Zlr _ _ hr k _ hk
  simp only [G.rep] at hrv
  subst hrv
  have:=Zuj q.cells vs k (.row n 0) (.slice none 0 0) hr (Zpw t sz)
  rw [Zup hv] at this
  exact this)
 have hX:=h2.trans h4
 exact ⟨_,h3,hE.ext hX,hX.base hb⟩
theorem Z5i {ba:Nat} {c:Code} {Q:GQ} {E:Env} {p k:Nat} {q:GObj} (t:TypeId) (sz:Nat) (hp:O p=some q) (hk:q.cells[k]? = some (.val (.slice none 0 0)))
  (h:W P ba c Q E ((O.upd n (some ⟨true,t,sz,0,[]⟩)).upd p (some ⟨q.row,q.ty,q.sz,q.n,q.cells.set k (.row n 0)⟩)) (n+1)):W P ba c Q E O n:=fun hb=>U7 (Zcl t sz hp hk hb) h hb
end
end Go.Proofs.Ytaddaloondpnkaa
