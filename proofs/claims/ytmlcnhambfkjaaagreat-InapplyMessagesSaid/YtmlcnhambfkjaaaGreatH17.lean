/- Part H17 of the ghost memory: lemmas and contracts used by the proofs of this seat's laws; each theorem bears its own conditions. -/
import Derived.Test.YtmlcnhambfkjaaaGreatH16
namespace Go.Proofs.YtmlcnhambfkjaaaGreat
open Go.RowKit
set_option linter.unusedVariables false
set_option linter.unusedSimpArgs false
section
variable {α:Type} {xs:List α} {i:Int} {f:α→List G} {T:V6} {t:TypeId} {ti:TyI} {x:α} {sz off:Nat}
theorem Yao (hf:∀ x,(f x).length=sz) (hx:Xj xs i=some x):(fl f xs).drop (i.toNat * sz)=f x++fl f (xs.drop (i.toNat+1)):=by
 have h1:=Zo7 hx
 have hi:=Zem hx
 have:xs[i.toNat]=x:=by rw [List.getElem?_eq_getElem hi] at h1;injection h1
 rw [Zo1 hf,List.drop_eq_getElem_cons hi,G5,this]
theorem Zdb (ht:T t=some ti) (hf:∀ x,(f x).length=sz) (ho:off+ti.size≤sz) (h0:0 < ti.size) (hx:Xj xs i=some x):Zgl T t (fl f xs) (i.toNat * sz+off)=if ti.k.isAgg then some (.agg (((f x).drop off).take ti.size)) else (f x)[off]? := by
 unfold Zgl
 simp only [ht]
 have hi:=Zem hx
 have hd:=Yao hf hx
 split
 ·rw [if_pos ?_,← List.drop_drop,hd,List.drop_append_of_le_length (by rw [hf x];omega),List.take_append_of_le_length (by rw [List.length_drop,hf x];omega)]
  rw [Zac hf]
  have:(i.toNat+1) * sz≤xs.length * sz:=Nat.mul_le_mul_right _ hi
  rw [Nat.succ_mul] at this
  omega
 rw [← List.getElem?_drop,hd,List.getElem?_append_left (by rw [hf x];omega)]
theorem Zd1 (ht:T t=some ti) (hf:∀ x,(f x).length=sz) (ho:ti.size≤sz) (h0:0 < ti.size) (hx:Xj xs i=some x):Zgl T t (fl f xs) (i.toNat * sz)=if ti.k.isAgg then some (.agg ((f x).take ti.size)) else (f x)[0]? := by
 have:=Zdb (off:=0) ht hf (by omega) h0 hx
 rw [Nat.add_zero,List.drop_zero] at this
 exact this
theorem Z5z {O O':Objs} {n':Nat} {zs:List G} {z:α} (h:wkl O O' n' zs (f z)):∀ k:Nat,wkl O O' n' (List.replicate k zs).flatten (fl f (List.replicate k z))
 | 0=>by simp [wkl,fl]
 | k+1=>by
  rw [List.replicate_succ,List.replicate_succ,List.flatten_cons,G5]
  exact Yac _ _ _ _ h (Z5z h k)
end
theorem Zi8 {P:Program} {t e:TypeId} {α:Type} {f:α→List G} {wf:α→Prop} {sz:Nat} (n:Nat) (ht:P.underlying t=some (.slice e)) (hc:P.cellsOf e=sz) (hs:0 < sz) (hf:∀ x,(f x).length=sz) (he:∀ m,m < n→V9 P e f wf m) :
  V9 P t (eL f) (fun xs=>xs.length * P.bytesOf e≤reachBytes∧∀ x∈xs,wf x) n:=by
 cases n with
 | zero=>exact Zc4
 | succ n=>exact Zp0 ht hc hs hf (he n (Nat.lt_succ_self n))
theorem Zna:Zdl .any = .any:=rfl
theorem Zne (v:Value):Zdl (.val v) = .val v:=rfl
theorem Zm9 (cs:List G):Zdl (.agg cs) = .agg cs:=rfl
theorem Znd (cs:List G):Zdl (.tup cs) = .tup cs:=rfl
theorem Zqk (n:Nat) (cs:List G):Zdl (.sl n cs) = .sl n cs:=rfl
theorem Zqg (cs:List G) (k:Nat):Zdl (.ip cs k) = .ip cs k:=rfl
theorem Znc (i n:Nat):Zdl (.row i n) = .row i n:=rfl
theorem Zqj (i a n:Nat):Zdl (.rs i a n) = .rs i a n:=rfl
theorem Zqi (i n a:Nat):Zdl (.rp i n a) = .rp i n a:=rfl
theorem Zqh (i n a k:Nat):Zdl (.rl i n a k) = .rl i n a k:=rfl
theorem Znb (i a:Nat):Zdl (.ref i a) = .ref i a:=rfl
theorem Zqf (f k:Nat) (cs:List G):Zdl (.fn f k cs) = .fn f k cs:=rfl
theorem Zk7 (b:Bool) (g:G):Zdl (.when b g)=g:=rfl
section
variable {O:Objs} {T:V6} {op:BinOp} {t:TypeId}
theorem Zpf:Qp O .any=True:=rfl
theorem Zpj (v:Value):Qp O (.val v)=True:=rfl
theorem Zpe (cs:List G):Qp O (.agg cs)=True:=rfl
theorem Zpi (cs:List G):Qp O (.tup cs)=True:=rfl
theorem Zuw (n:Nat) (cs:List G):Qp O (.sl n cs)=True:=rfl
theorem Zus (cs:List G) (k:Nat):Qp O (.ip cs k)=True:=rfl
theorem Zur (f k:Nat) (cs:List G):Qp O (.fn f k cs)=True:=rfl
theorem Zmw (b:Bool) (g:G):Qp O (.when b g)=True:=rfl
theorem Zpg (i a:Nat):Qp O (.ref i a)=∃ o,O i=some o∧o.row=false:=rfl
theorem Zuv (i a n:Nat):Qp O (.rs i a n)=∃ o,O i=some o∧o.row=false:=rfl
theorem Zuu (i k a:Nat):Qp O (.rp i k a)=∃ o,O i=some o∧o.row=true∧k=o.n:=rfl
theorem Zut (i k a l:Nat):Qp O (.rl i k a l)=True:=rfl
theorem Zph (i k:Nat):Qp O (.row i k)=∃ o,O i=some o∧o.row=true∧k=o.n:=rfl
theorem Zun:Zim O .any=True:=rfl
theorem Zuq (v:Value):Zim O (.val v)=True:=rfl
theorem Zum (cs:List G):Zim O (.agg cs)=True:=rfl
theorem Zup (cs:List G):Zim O (.tup cs)=True:=rfl
theorem Z0f (n:Nat) (cs:List G):Zim O (.sl n cs)=True:=rfl
theorem Z0c (cs:List G) (k:Nat):Zim O (.ip cs k)=True:=rfl
theorem Z0b (f k:Nat) (cs:List G):Zim O (.fn f k cs)=True:=rfl
theorem Zuo (i k:Nat):Zim O (.row i k)=True:=rfl
theorem Z0d (i k a l:Nat):Zim O (.rl i k a l)=True:=rfl
theorem Z0e (i a n:Nat):Zim O (.rs i a n)=∃ o,O i=some o∧o.row=false:=rfl
theorem Zuc (k k':IntKind) (a b:Int):Zo3 T op t (.val (.int k a)) (.val (.int k' b))=(Zz0 op k a k' b).map fun r=>(r.1,.val r.2):=rfl
theorem Zub (a b:Bool):Zo3 T op t (.val (.bool a)) (.val (.bool b))=match Z8 T t,op with
  | some .bool,.eql=>some (True,.val (.bool (a == b)))
  | some .bool,.neq=>some (True,.val (.bool (a != b)))
  | _,_=>none:=rfl
theorem Zuh (a b:ByteArray):Zo3 T op t (.val (.string a)) (.val (.string b))=match op with
  | .eql=>some (True,.val (.bool (a.toList == b.toList)))
  | .neq=>some (True,.val (.bool (!(a.toList == b.toList))))
  | _=>none:=rfl
theorem Zuf:Zo3 T op t (.val (.pointer none)) (.val (.pointer none))=match Z8 T t,op with
  | some (.ptr _),.eql=>some (True,.val (.bool true))
  | some (.ptr _),.neq=>some (True,.val (.bool false))
  | _,_=>none:=rfl
theorem Zug (i a:Nat):Zo3 T op t (.ref i a) (.val (.pointer none))=match Z8 T t,op with
  | some (.ptr _),.eql=>some (True,.val (.bool false))
  | some (.ptr _),.neq=>some (True,.val (.bool true))
  | _,_=>none:=rfl
theorem Zud (cs:List G) (k:Nat):Zo3 T op t (.ip cs k) (.val (.pointer none))=match Z8 T t,op with
  | some (.ptr _),.eql=>some (True,.val (.bool false))
  | some (.ptr _),.neq=>some (True,.val (.bool true))
  | _,_=>none:=rfl
theorem Zue (a:Option Addr) (l c l' c':Nat):Zo3 T op t (.val (.slice a l c)) (.val (.slice none l' c'))=match Z8 T t,op with
  | some (.slice _),.eql=>some (True,.val (.bool a.isNone))
  | some (.slice _),.neq=>some (True,.val (.bool (!a.isNone)))
  | _,_=>none:=rfl
theorem Zua (xs ys:List G):Zo3 T op t (.agg xs) (.agg ys)=match T t,Ztz T 6 t xs ys with
  | some i,some b=>if i.k.isAgg=true∧i.eq=true then (match op with
   | .eql=>some (True,.val (.bool b))
   | .neq=>some (True,.val (.bool (!b)))
   | _=>none) else none
  | _,_=>none:=rfl
end
theorem Zu3:G.one .any=false:=rfl
theorem Zu7 (v:Value):G.one (.val v)=v.oneCell':=rfl
theorem Zu2 (cs:List G):G.one (.agg cs)=false:=rfl
theorem Zu6 (cs:List G):G.one (.tup cs)=false:=rfl
theorem Zpz (b:Bool) (g:G):G.one (.when b g)=false:=rfl
theorem Z01 (n:Nat) (cs:List G):G.one (.sl n cs)=true:=rfl
theorem Z0x (cs:List G) (k:Nat):G.one (.ip cs k)=true:=rfl
theorem Zu5 (i n:Nat):G.one (.row i n)=true:=rfl
theorem Z00 (i a n:Nat):G.one (.rs i a n)=true:=rfl
theorem Z0z (i n a:Nat):G.one (.rp i n a)=true:=rfl
theorem Z0y (i n a k:Nat):G.one (.rl i n a k)=true:=rfl
theorem Zu4 (i a:Nat):G.one (.ref i a)=true:=rfl
theorem Z0w (f k:Nat) (cs:List G):G.one (.fn f k cs)=true:=rfl
theorem Zid (cs:List G):Jg (.agg cs)=some cs:=rfl
theorem Zii (v:Value):Jg (.val v)=match v with
  | .agg vs=>some (vs.toList.map .val)
  | v=>if G.one (.val v)=true then some [.val v] else none:=by cases v <;> rfl
theorem Zke (n:Nat) (cs:List G):Jg (.sl n cs)=some [.sl n cs]:=rfl
theorem Zka (cs:List G) (k:Nat):Jg (.ip cs k)=some [.ip cs k]:=rfl
theorem Zig (i n:Nat):Jg (.row i n)=some [.row i n]:=rfl
theorem Zkd (i a n:Nat):Jg (.rs i a n)=some [.rs i a n]:=rfl
theorem Zkc (i n a:Nat):Jg (.rp i n a)=some [.rp i n a]:=rfl
theorem Zkb (i n a k:Nat):Jg (.rl i n a k)=some [.rl i n a k]:=rfl
theorem Zif (i a:Nat):Jg (.ref i a)=some [.ref i a]:=rfl
theorem Zj9 (f k:Nat) (cs:List G):Jg (.fn f k cs)=some [.fn f k cs]:=rfl
theorem Zie:Jg .any=none:=rfl
theorem Zih (cs:List G):Jg (.tup cs)=none:=rfl
theorem Zgv (b:Bool) (g:G):Jg (.when b g)=none:=rfl
def gP {α:Type} (f:α→List G):Option α→G
 | none => .val (.pointer none)
 | some x => .ip (f x) 0
def eP {α:Type} (f:α→List G) (x:Option α):List G:=[gP f x]
section
variable {α:Type} {f:α→List G} {T:V6} {t e:TypeId} {O O':Objs} {n':Nat}
theorem Zt8:gP f none = .val (.pointer none):=rfl
theorem Zt9 (x:α):gP f (some x) = .ip (f x) 0:=rfl
theorem Yeq (x:Option α):Zdl (gP f x)=gP f x:=by cases x <;> rfl
theorem Yka (x:Option α) (l:List G):wok (gP f x::l)=wok l:=by cases x <;> rfl
theorem Z62 (x:Option α):(gP f x).one=true:=by cases x <;> rfl
theorem Z59 (x:Option α):Jg (gP f x)=some [gP f x]:=by cases x <;> rfl
theorem Z8p (h:∀ x,G.pures (f x)=true) (x:Option α):(gP f x).pure=true:=by
 cases x with
 | none=>rfl
 | some x=>simp only [gP,G.pure,h]
theorem Yew (h:∀ x,G.pures (f x)=true) (k:Nat) (x:Option α):(gP f x).under k=true:=Zkx k _ (Z8p h x)
theorem You (h:∀ x,G.pures (f x)=true) (x:Option α):wk O O' n' (gP f x) (gP f x)=True:=eq_true (Z3m _ (Yew h _ x))
theorem Yfr (x:Option α):Qp O (gP f x)=True:=by cases x <;> rfl
theorem Z38 (hk:Z8 T t=some (.ptr e)) (x:Option α):Zo3 T .eql t (gP f x) (.val (.pointer none))=some (True,.val (.bool x.isNone)):=by cases x <;> simp [gP,Zo3,hk]
end
theorem Zxu {α:Type}:∀ {l:List α} {k:Nat} {x:α},l[k]? = some x→l.set k x=l
 | [],k,x,h=>by simp at h
 | y::l,0,x,h=>by simp at h;simp [h]
 | y::l,k+1,x,h=>by simp only [List.set_cons_succ,Zxu (l:=l) (k:=k) (by simpa using h)]
section
variable {P:Program} {w:World} {O:Objs} {m:Hands} {n:Nat}
theorem Z68 (hM:Mem w O m n) {p:Nat} {q q':GObj} (hp:O p=some q) (h1:q'.row=q.row) (h2:q'.ty=q.ty) (h3:q'.sz=q.sz) (h4:q'.n=q.n) (hc:∀ vs,G.reps w O m n q.cells vs→G.reps w O m n q'.cells vs) :
  Mem w (O.upd p (some q')) m n∧Ext w O m n w (O.upd p (some q')) m n:=by
 have hpn:p < n:=by
  rcases Nat.lt_or_ge p n with h | h
  ·exact h
  rw [hM.fresh p h] at hp;cases hp
 have hold:∀ i o',(O.upd p (some q')) i=some o'→∃ o,O i=some o∧o'.row=o.row∧o'.n=o.n:=fun i o' hi=>by
  by_cases e:i=p
  ·subst e;rw [X2] at hi;injection hi with hi;subst hi;exact ⟨q,hp,h1,h4⟩
  rw [J4 _ _ e] at hi;exact ⟨o',hi,rfl,rfl⟩
 have hrep:∀ (gs:List G) (vs:List Value),G.reps w O m n gs vs→G.reps w (O.upd p (some q')) m n gs vs:=fun gs vs h=>Zc5 hold gs vs h (Zag gs vs h)
 refine ⟨⟨fun i hi => ?_,fun i o' hi => ?_,fun i j oi oj b hi hj => ?_⟩,⟨rfl,rfl,rfl,Nat.le_refl _,Nat.le_refl _,fun b _ ho=>⟨rfl,fun ⟨i,o',hi,hb⟩ => ?_⟩,fun i _ o' hi => ?_⟩⟩
 ·rw [J4 _ _ (by omega)];exact hM.fresh i hi
 ·by_cases e:i=p
  ·subst e
   rw [X2] at hi
   injection hi with hi
   subst hi
   obtain ⟨vs,hr,hx⟩:=hM.obj i q hp
   refine ⟨vs,hrep _ _ (hc vs hr),?_⟩
   rw [h1,h2,h3,h4];exact hx
  rw [J4 _ _ e] at hi
  obtain ⟨vs,hr,hx⟩:=hM.obj i o' hi
  exact ⟨vs,hrep _ _ hr,hx⟩
 ·obtain ⟨o1,e1,_⟩:=hold i oi hi
  obtain ⟨o2,e2,_⟩:=hold j oj hj
  exact hM.apart i j o1 o2 b e1 e2
 ·obtain ⟨o1,e1,_⟩:=hold i o' hi
  exact ho ⟨i,o1,e1,hb⟩
 obtain ⟨o1,e1,e2,e3⟩:=hold i o' hi
 exact ⟨o1,e1,e2,Nat.le_of_eq e3.symm,fun _=>rfl⟩
theorem Zbw {ba:Nat} {E:Env} {p k:Nat} {q:GObj} (t:TypeId) (sz:Nat) (hp:O p=some q) (hk:q.cells[k]? = some (.val (.slice none 0 0))) (hb:ba≤n) :
  Fit2 ba E O n E ((O.upd n (some ⟨true,t,sz,0,[]⟩)).upd p (some ⟨q.row,q.ty,q.sz,q.n,q.cells.set k (.row n 0)⟩)) (n+1):=fun w m a hM hE=>by
 have hpn:p≠n:=fun e=>by rw [e,hM.fresh n (Nat.le_refl _)] at hp;cases hp
 obtain ⟨h1,h2⟩:=Zyk hM t sz
 have hp':(O.upd n (some ⟨true,t,sz,0,[]⟩)) p=some q:=by rw [J4 _ _ hpn];exact hp
 obtain ⟨h3,h4⟩:=Z68 (q':=⟨q.row,q.ty,q.sz,q.n,q.cells.set k (.row n 0)⟩) h1 hp' rfl rfl rfl rfl (fun vs hr=>by
  obtain ⟨v,hv,hrv⟩:=Zm5 _ _ hr k _ hk
  simp only [G.rep] at hrv
  subst hrv
  have:=Zxp q.cells vs k (.row n 0) (.slice none 0 0) hr (Zyl t sz)
  rw [Zxu hv] at this
  exact this)
 have hX:=h2.trans h4
 exact ⟨_,h3,hE.ext hX,hX.base hb⟩
end
end Go.Proofs.YtmlcnhambfkjaaaGreat
