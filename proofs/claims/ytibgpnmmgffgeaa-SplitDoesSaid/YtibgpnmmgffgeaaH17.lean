/- Part H17 of the ghost memory: lemmas and contracts used by the proofs of this seat's laws; each theorem bears its own conditions. -/
import Derived.Test.YtibgpnmmgffgeaaH16
namespace Go.Proofs.Ytibgpnmmgffgeaa
open Go.RowKit
set_option linter.unusedVariables false
set_option linter.unusedSimpArgs false
section
variable {α:Type} {xs:List α} {i:Int} {f:α→List G} {T:Kv} {t:TypeId} {ti:TyI} {x:α} {sz off:Nat}
theorem Z8f (hf:∀ x,(f x).length=sz) (hx:Xj xs i=some x):(fl f xs).drop (i.toNat * sz)=f x++fl f (xs.drop (i.toNat+1)):=by
 have h1:=Zpi hx
 have hi:=Zfc hx
 have:xs[i.toNat]=x:=by rw [List.getElem?_eq_getElem hi] at h1;injection h1
 rw [Zpc hf,List.drop_eq_getElem_cons hi,Gs,this]
theorem Gh (ht:T t=some ti) (hf:∀ x,(f x).length=sz) (ho:off+ti.size≤sz) (h0:0 < ti.size) (hx:Xj xs i=some x):Zhy T t (fl f xs) (i.toNat * sz+off)=if ti.k.isAgg then some (.agg (((f x).drop off).take ti.size)) else (f x)[off]? := by
 unfold Zhy
 simp only [ht]
 have hi:=Zfc hx
 have hd:=Z8f hf hx
 split
 ·rw [if_pos ?_,← List.drop_drop,hd,List.drop_append_of_le_length (by rw [hf x];omega),List.take_append_of_le_length (by rw [List.length_drop,hf x];omega)]
  rw [Q7 hf]
  have:(i.toNat+1) * sz≤xs.length * sz:=Nat.mul_le_mul_right _ hi
  rw [Nat.succ_mul] at this
  omega
 rw [← List.getElem?_drop,hd,List.getElem?_append_left (by rw [hf x];omega)]
theorem Zkl (ht:T t=some ti) (hf:∀ x,(f x).length=sz) (ho:ti.size≤sz) (h0:0 < ti.size) (hx:Xj xs i=some x):Zhy T t (fl f xs) (i.toNat * sz)=if ti.k.isAgg then some (.agg ((f x).take ti.size)) else (f x)[0]? := by
 have:=Gh (off:=0) ht hf (by omega) h0 hx
 rw [Nat.add_zero,List.drop_zero] at this
 exact this
theorem Z33 {O O':Objs} {n':Nat} {zs:List G} {z:α} (h:U8 O O' n' zs (f z)):∀ k:Nat,U8 O O' n' (List.replicate k zs).flatten (fl f (List.replicate k z))
 | 0=>by simp [U8,fl]
 | k+1=>by
  rw [List.replicate_succ,List.replicate_succ,List.flatten_cons,Gs]
  exact Z71 _ _ _ _ h (Z33 h k)
end
theorem Zjt {P:Program} {t e:TypeId} {α:Type} {f:α→List G} {wf:α→Prop} {sz:Nat} (n:Nat) (ht:P.underlying t=some (.slice e)) (hc:P.cellsOf e=sz) (hs:0 < sz) (hf:∀ x,(f x).length=sz) (he:∀ m,m < n→Vf P e f wf m) :
  Vf P t (eL f) (fun xs=>xs.length * P.bytesOf e≤reachBytes∧∀ x∈xs,wf x) n:=by
 cases n with
 | zero=>exact Zcx
 | succ n=>exact Zpv ht hc hs hf (he n (Nat.lt_succ_self n))
theorem Zsf:Zdz .any = .any:=rfl
theorem Zsj (v:Value):Zdz (.val v) = .val v:=rfl
theorem Zse (cs:List G):Zdz (.agg cs) = .agg cs:=rfl
theorem Zsi (cs:List G):Zdz (.tup cs) = .tup cs:=rfl
theorem Zwg (n:Nat) (cs:List G):Zdz (.sl n cs) = .sl n cs:=rfl
theorem Zwc (cs:List G) (k:Nat):Zdz (.ip cs k) = .ip cs k:=rfl
theorem Zsh (i n:Nat):Zdz (.row i n) = .row i n:=rfl
theorem Zwf (i a n:Nat):Zdz (.rs i a n) = .rs i a n:=rfl
theorem Zwe (i n a:Nat):Zdz (.rp i n a) = .rp i n a:=rfl
theorem Zwd (i n a k:Nat):Zdz (.rl i n a k) = .rl i n a k:=rfl
theorem Zsg (i a:Nat):Zdz (.ref i a) = .ref i a:=rfl
theorem Zwa (f k:Nat) (cs:List G):Zdz (.fn f k cs) = .fn f k cs:=rfl
theorem Zoy (b:Bool) (g:G):Zdz (.when b g)=g:=rfl
section
variable {O:Objs} {T:Kv} {op:BinOp} {t:TypeId}
theorem Zu4:Qb O .any=True:=rfl
theorem Zu8 (v:Value):Qb O (.val v)=True:=rfl
theorem Zu3 (cs:List G):Qb O (.agg cs)=True:=rfl
theorem Zu7 (cs:List G):Qb O (.tup cs)=True:=rfl
theorem Zzr (n:Nat) (cs:List G):Qb O (.sl n cs)=True:=rfl
theorem Zzn (cs:List G) (k:Nat):Qb O (.ip cs k)=True:=rfl
theorem Zzl (f k:Nat) (cs:List G):Qb O (.fn f k cs)=True:=rfl
theorem Zrp (b:Bool) (g:G):Qb O (.when b g)=True:=rfl
theorem Zu5 (i a:Nat):Qb O (.ref i a)=∃ o,O i=some o∧o.row=false:=rfl
theorem Zzq (i a n:Nat):Qb O (.rs i a n)=∃ o,O i=some o∧o.row=false:=rfl
theorem Zzp (i k a:Nat):Qb O (.rp i k a)=∃ o,O i=some o∧o.row=true∧k=o.n:=rfl
theorem Zzo (i k a l:Nat):Qb O (.rl i k a l)=True:=rfl
theorem Zu6 (i k:Nat):Qb O (.row i k)=∃ o,O i=some o∧o.row=true∧k=o.n:=rfl
theorem Zzf:Zjg O .any=True:=rfl
theorem Zzj (v:Value):Zjg O (.val v)=True:=rfl
theorem Zze (cs:List G):Zjg O (.agg cs)=True:=rfl
theorem Zzi (cs:List G):Zjg O (.tup cs)=True:=rfl
theorem Z4w (n:Nat) (cs:List G):Zjg O (.sl n cs)=True:=rfl
theorem Z4t (cs:List G) (k:Nat):Zjg O (.ip cs k)=True:=rfl
theorem Z4s (f k:Nat) (cs:List G):Zjg O (.fn f k cs)=True:=rfl
theorem Zzh (i k:Nat):Zjg O (.row i k)=True:=rfl
theorem Z4u (i k a l:Nat):Zjg O (.rl i k a l)=True:=rfl
theorem Z4v (i a n:Nat):Zjg O (.rs i a n)=∃ o,O i=some o∧o.row=false:=rfl
theorem Zyr (k k':IntKind) (a b:Int):Zs1 T op t (.val (.int k a)) (.val (.int k' b))=(Z2j op k a k' b).map fun r=>(r.1,.val r.2):=rfl
theorem Zyq (a b:Bool):Zs1 T op t (.val (.bool a)) (.val (.bool b))=match Yu T t,op with
  | some .bool,.eql=>some (True,.val (.bool (a == b)))
  | some .bool,.neq=>some (True,.val (.bool (a != b)))
  | _,_=>none:=rfl
theorem Zyw (a b:ByteArray):Zs1 T op t (.val (.string a)) (.val (.string b))=match op with
  | .eql=>some (True,.val (.bool (a.toList == b.toList)))
  | .neq=>some (True,.val (.bool (!(a.toList == b.toList))))
  | _=>none:=rfl
theorem Zyu:Zs1 T op t (.val (.pointer none)) (.val (.pointer none))=match Yu T t,op with
  | some (.ptr _),.eql=>some (True,.val (.bool true))
  | some (.ptr _),.neq=>some (True,.val (.bool false))
  | _,_=>none:=rfl
theorem Zyv (i a:Nat):Zs1 T op t (.ref i a) (.val (.pointer none))=match Yu T t,op with
  | some (.ptr _),.eql=>some (True,.val (.bool false))
  | some (.ptr _),.neq=>some (True,.val (.bool true))
  | _,_=>none:=rfl
theorem Zys (cs:List G) (k:Nat):Zs1 T op t (.ip cs k) (.val (.pointer none))=match Yu T t,op with
  | some (.ptr _),.eql=>some (True,.val (.bool false))
  | some (.ptr _),.neq=>some (True,.val (.bool true))
  | _,_=>none:=rfl
theorem Zyt (a:Option Addr) (l c l' c':Nat):Zs1 T op t (.val (.slice a l c)) (.val (.slice none l' c'))=match Yu T t,op with
  | some (.slice _),.eql=>some (True,.val (.bool a.isNone))
  | some (.slice _),.neq=>some (True,.val (.bool (!a.isNone)))
  | _,_=>none:=rfl
theorem Zyp (xs ys:List G):Zs1 T op t (.agg xs) (.agg ys)=match T t,Zus T 6 t xs ys with
  | some i,some b=>if i.k.isAgg=true∧i.eq=true then (match op with
   | .eql=>some (True,.val (.bool b))
   | .neq=>some (True,.val (.bool (!b)))
   | _=>none) else none
  | _,_=>none:=rfl
end
theorem Zz5:G.one .any=false:=rfl
theorem Zz9 (v:Value):G.one (.val v)=v.oneCell':=rfl
theorem Zz4 (cs:List G):G.one (.agg cs)=false:=rfl
theorem Zz8 (cs:List G):G.one (.tup cs)=false:=rfl
theorem Zvn (b:Bool) (g:G):G.one (.when b g)=false:=rfl
theorem Z48 (n:Nat) (cs:List G):G.one (.sl n cs)=true:=rfl
theorem Z44 (cs:List G) (k:Nat):G.one (.ip cs k)=true:=rfl
theorem Zz7 (i n:Nat):G.one (.row i n)=true:=rfl
theorem Z47 (i a n:Nat):G.one (.rs i a n)=true:=rfl
theorem Z46 (i n a:Nat):G.one (.rp i n a)=true:=rfl
theorem Z45 (i n a k:Nat):G.one (.rl i n a k)=true:=rfl
theorem Zz6 (i a:Nat):G.one (.ref i a)=true:=rfl
theorem Z43 (f k:Nat) (cs:List G):G.one (.fn f k cs)=true:=rfl
theorem Zln (cs:List G):Qp (.agg cs)=some cs:=rfl
theorem Zls (v:Value):Qp (.val v)=match v with
  | .agg vs=>some (vs.toList.map .val)
  | v=>if G.one (.val v)=true then some [.val v] else none:=by cases v <;> rfl
theorem Zn1 (n:Nat) (cs:List G):Qp (.sl n cs)=some [.sl n cs]:=rfl
theorem Znx (cs:List G) (k:Nat):Qp (.ip cs k)=some [.ip cs k]:=rfl
theorem Zlq (i n:Nat):Qp (.row i n)=some [.row i n]:=rfl
theorem Zn0 (i a n:Nat):Qp (.rs i a n)=some [.rs i a n]:=rfl
theorem Znz (i n a:Nat):Qp (.rp i n a)=some [.rp i n a]:=rfl
theorem Zny (i n a k:Nat):Qp (.rl i n a k)=some [.rl i n a k]:=rfl
theorem Zlp (i a:Nat):Qp (.ref i a)=some [.ref i a]:=rfl
theorem Znv (f k:Nat) (cs:List G):Qp (.fn f k cs)=some [.fn f k cs]:=rfl
theorem Zlo:Qp .any=none:=rfl
theorem Zlr (cs:List G):Qp (.tup cs)=none:=rfl
theorem Zkk (b:Bool) (g:G):Qp (.when b g)=none:=rfl
def gP {α:Type} (f:α→List G):Option α→G
 | none => .val (.pointer none)
 | some x => .ip (f x) 0
def eP {α:Type} (f:α→List G) (x:Option α):List G:=[gP f x]
section
variable {α:Type} {f:α→List G} {T:Kv} {t e:TypeId} {O O':Objs} {n':Nat}
theorem Zym:gP f none = .val (.pointer none):=rfl
theorem Zyn (x:α):gP f (some x) = .ip (f x) 0:=rfl
theorem Zwb (x:Option α):Zdz (gP f x)=gP f x:=by cases x <;> rfl
theorem Z57 (x:Option α) (l:List G):wok (gP f x::l)=wok l:=by cases x <;> rfl
theorem Zfo (x:Option α):(gP f x).one=true:=by cases x <;> rfl
theorem Znw (x:Option α):Qp (gP f x)=some [gP f x]:=by cases x <;> rfl
theorem Km (h:∀ x,G.pures (f x)=true) (x:Option α):(gP f x).pure=true:=by
 cases x with
 | none=>rfl
 | some x=>simp only [gP,G.pure,h]
theorem Zbn (h:∀ x,G.pures (f x)=true) (k:Nat) (x:Option α):(gP f x).under k=true:=Zky k _ (Km h x)
theorem Zmp (h:∀ x,G.pures (f x)=true) (x:Option α):wk O O' n' (gP f x) (gP f x)=True:=eq_true (Z1z _ (Zbn h _ x))
theorem Zzm (x:Option α):Qb O (gP f x)=True:=by cases x <;> rfl
end
theorem Zv6 {α:Type}:∀ {l:List α} {k:Nat} {x:α},l[k]? = some x→l.set k x=l
 | [],k,x,h=>by simp at h
 | y::l,0,x,h=>by simp at h;simp [h]
 | y::l,k+1,x,h=>by simp only [List.set_cons_succ,Zv6 (l:=l) (k:=k) (by simpa using h)]
section
variable {P:Program} {w:World} {O:Objs} {m:Hands} {n:Nat}
theorem Z5c (hM:Mem w O m n) {p:Nat} {q q':GObj} (hp:O p=some q) (h1:q'.row=q.row) (h2:q'.ty=q.ty) (h3:q'.sz=q.sz) (h4:q'.n=q.n) (hc:∀ vs,G.reps w O m n q.cells vs→G.reps w O m n q'.cells vs) :
  Mem w (O.upd p (some q')) m n∧Ext w O m n w (O.upd p (some q')) m n:=by
 have hpn:p < n:=by
  rcases Nat.lt_or_ge p n with h | h
  ·exact h
  rw [hM.fresh p h] at hp;cases hp
 have hold:∀ i o',(O.upd p (some q')) i=some o'→∃ o,O i=some o∧o'.row=o.row∧o'.n=o.n:=fun i o' hi=>by
  by_cases e:i=p
  ·subst e;rw [Z8] at hi;injection hi with hi;subst hi;exact ⟨q,hp,h1,h4⟩
  rw [Yv _ _ e] at hi;exact ⟨o',hi,rfl,rfl⟩
 have hrep:∀ (gs:List G) (vs:List Value),G.reps w O m n gs vs→G.reps w (O.upd p (some q')) m n gs vs:=fun gs vs h=>Zc3 hold gs vs h (Zaw gs vs h)
 refine ⟨⟨fun i hi => ?_,fun i o' hi => ?_,fun i j oi oj b hi hj => ?_⟩,⟨rfl,rfl,rfl,Nat.le_refl _,Nat.le_refl _,fun b _ ho=>⟨rfl,fun ⟨i,o',hi,hb⟩ => ?_⟩,fun i _ o' hi => ?_⟩⟩
 ·rw [Yv _ _ (by omega)];exact hM.fresh i hi
 ·by_cases e:i=p
  ·subst e
   rw [Z8] at hi
   injection hi with hi
   subst hi
   obtain ⟨vs,hr,hx⟩:=hM.obj i q hp
   refine ⟨vs,hrep _ _ (hc vs hr),?_⟩
   rw [h1,h2,h3,h4];exact hx
  rw [Yv _ _ e] at hi
  obtain ⟨vs,hr,hx⟩:=hM.obj i o' hi
  exact ⟨vs,hrep _ _ hr,hx⟩
 ·obtain ⟨o1,e1,_⟩:=hold i oi hi
  obtain ⟨o2,e2,_⟩:=hold j oj hj
  exact hM.apart i j o1 o2 b e1 e2
 ·obtain ⟨o1,e1,_⟩:=hold i o' hi
  exact ho ⟨i,o1,e1,hb⟩
 obtain ⟨o1,e1,e2,e3⟩:=hold i o' hi
 exact ⟨o1,e1,e2,Nat.le_of_eq e3.symm,fun _=>rfl⟩
theorem G7 {ba:Nat} {E:Env} {p k:Nat} {q:GObj} (t:TypeId) (sz:Nat) (hp:O p=some q) (hk:q.cells[k]? = some (.val (.slice none 0 0))) (hb:ba≤n) :
  Fit2 ba E O n E ((O.upd n (some ⟨true,t,sz,0,[]⟩)).upd p (some ⟨q.row,q.ty,q.sz,q.n,q.cells.set k (.row n 0)⟩)) (n+1):=fun w m a hM hE=>by
 have hpn:p≠n:=fun e=>by rw [e,hM.fresh n (Nat.le_refl _)] at hp;cases hp
 obtain ⟨h1,h2⟩:=Zq9 hM t sz
 have hp':(O.upd n (some ⟨true,t,sz,0,[]⟩)) p=some q:=by rw [Yv _ _ hpn];exact hp
 obtain ⟨h3,h4⟩:=Z5c (q':=⟨q.row,q.ty,q.sz,q.n,q.cells.set k (.row n 0)⟩) h1 hp' rfl rfl rfl rfl (fun vs hr=>by
  obtain ⟨v,hv,hrv⟩:=Zm5 _ _ hr k _ hk
  simp only [G.rep] at hrv
  subst hrv
  have:=Zvz q.cells vs k (.row n 0) (.slice none 0 0) hr (Zra t sz)
  rw [Zv6 hv] at this
  exact this)
 have hX:=h2.trans h4
 exact ⟨_,h3,hE.ext hX,hX.base hb⟩
end
end Go.Proofs.Ytibgpnmmgffgeaa
