/- Part H17 of the ghost memory: lemmas and contracts used by the proofs of this seat's laws; each theorem bears its own conditions. -/
import Derived.Test.YtocpndlnbmjpmaaH16
namespace Go.Proofs.Ytocpndlnbmjpmaa
open Go.RowKit
set_option linter.unusedVariables false
set_option linter.unusedSimpArgs false
section
variable {α:Type} {xs:List α} {i:Int} {f:α→List G} {T:gZ} {t:TypeId} {ti:TyI} {x:α} {sz off:Nat}
theorem Zxe (hf:∀ x,(f x).length=sz) (hx:Qp xs i=some x):(fl f xs).drop (i.toNat * sz)=f x++fl f (xs.drop (i.toNat+1)):=by
 have h1:=Zez hx
 have hi:=cD hx
 have:xs[i.toNat]=x:=by rw [List.getElem?_eq_getElem hi] at h1;injection h1
 rw [Zel hf,List.drop_eq_getElem_cons hi,tJ,this]
theorem iZ (ht:T t=some ti) (hf:∀ x,(f x).length=sz) (ho:off+ti.size≤sz) (h0:0 < ti.size) (hx:Qp xs i=some x):oI T t (fl f xs) (i.toNat * sz+off)=if ti.k.isAgg then some (.agg (((f x).drop off).take ti.size)) else (f x)[off]? := by
 unfold oI
 simp only [ht]
 have hi:=cD hx
 have hd:=Zxe hf hx
 split
 ·rw [if_pos ?_,← List.drop_drop,hd,List.drop_append_of_le_length (by rw [hf x];omega),List.take_append_of_le_length (by rw [List.length_drop,hf x];omega)]
  rw [cK hf]
  have:(i.toNat+1) * sz≤xs.length * sz:=Nat.mul_le_mul_right _ hi
  rw [Nat.succ_mul] at this
  omega
 rw [← List.getElem?_drop,hd,List.getElem?_append_left (by rw [hf x];omega)]
theorem V1 (ht:T t=some ti) (hf:∀ x,(f x).length=sz) (ho:ti.size≤sz) (h0:0 < ti.size) (hx:Qp xs i=some x):oI T t (fl f xs) (i.toNat * sz)=if ti.k.isAgg then some (.agg ((f x).take ti.size)) else (f x)[0]? := by
 have:=iZ (off:=0) ht hf (by omega) h0 hx
 rw [Nat.add_zero,List.drop_zero] at this
 exact this
theorem Zti {O O':Objs} {n':Nat} {zs:List G} {z:α} (h:bV O O' n' zs (f z)):∀ k:Nat,bV O O' n' (List.replicate k zs).flatten (fl f (List.replicate k z))
 | 0=>by simp [bV,fl]
 | k+1=>by
  rw [List.replicate_succ,List.replicate_succ,List.flatten_cons,tJ]
  exact Zwi _ _ _ _ h (Zti h k)
end
theorem jT {P:Program} {t e:TypeId} {α:Type} {f:α→List G} {wf:α→Prop} {sz:Nat} (n:Nat) (ht:P.underlying t=some (.slice e)) (hc:P.cellsOf e=sz) (hs:0 < sz) (hf:∀ x,(f x).length=sz) (he:∀ m,m < n→vZ P e f wf m) :
  vZ P t (eL f) (fun xs=>xs.length * P.bytesOf e≤reachBytes∧∀ x∈xs,wf x) n:=by
 cases n with
 | zero=>exact iA
 | succ n=>exact Zf1 ht hc hs hf (he n (Nat.lt_succ_self n))
theorem xW:wB .any = .any:=rfl
theorem dO (v:Value):wB (.val v) = .val v:=rfl
theorem wW (cs:List G):wB (.agg cs) = .agg cs:=rfl
theorem cO (cs:List G):wB (.tup cs) = .tup cs:=rfl
theorem Zb0 (n:Nat) (cs:List G):wB (.sl n cs) = .sl n cs:=rfl
theorem Zbw (cs:List G) (k:Nat):wB (.ip cs k) = .ip cs k:=rfl
theorem bO (i n:Nat):wB (.row i n) = .row i n:=rfl
theorem Zbz (i a n:Nat):wB (.rs i a n) = .rs i a n:=rfl
theorem Zby (i n a:Nat):wB (.rp i n a) = .rp i n a:=rfl
theorem Zbx (i n a k:Nat):wB (.rl i n a k) = .rl i n a k:=rfl
theorem yW (i a:Nat):wB (.ref i a) = .ref i a:=rfl
theorem Zbv (f k:Nat) (cs:List G):wB (.fn f k cs) = .fn f k cs:=rfl
theorem vP (b:Bool) (g:G):wB (.when b g)=g:=rfl
section
variable {O:Objs} {T:gZ} {op:BinOp} {t:TypeId}
theorem Zba:K2 O .any=True:=rfl
theorem Zbe (v:Value):K2 O (.val v)=True:=rfl
theorem Za9 (cs:List G):K2 O (.agg cs)=True:=rfl
theorem Zbd (cs:List G):K2 O (.tup cs)=True:=rfl
theorem Zfi (n:Nat) (cs:List G):K2 O (.sl n cs)=True:=rfl
theorem Zfe (cs:List G) (k:Nat):K2 O (.ip cs k)=True:=rfl
theorem Zfd (f k:Nat) (cs:List G):K2 O (.fn f k cs)=True:=rfl
theorem yT (b:Bool) (g:G):K2 O (.when b g)=True:=rfl
theorem Zbb (i a:Nat):K2 O (.ref i a)=∃ o,O i=some o∧o.row=false:=rfl
theorem Zfh (i a n:Nat):K2 O (.rs i a n)=∃ o,O i=some o∧o.row=false:=rfl
theorem Zfg (i k a:Nat):K2 O (.rp i k a)=∃ o,O i=some o∧o.row=true∧k=o.n:=rfl
theorem Zff (i k a l:Nat):K2 O (.rl i k a l)=True:=rfl
theorem Zbc (i k:Nat):K2 O (.row i k)=∃ o,O i=some o∧o.row=true∧k=o.n:=rfl
theorem Ze9:jS O .any=True:=rfl
theorem Zfc (v:Value):jS O (.val v)=True:=rfl
theorem Ze8 (cs:List G):jS O (.agg cs)=True:=rfl
theorem Zfb (cs:List G):jS O (.tup cs)=True:=rfl
theorem Zk1 (n:Nat) (cs:List G):jS O (.sl n cs)=True:=rfl
theorem Zky (cs:List G) (k:Nat):jS O (.ip cs k)=True:=rfl
theorem Zkx (f k:Nat) (cs:List G):jS O (.fn f k cs)=True:=rfl
theorem Zfa (i k:Nat):jS O (.row i k)=True:=rfl
theorem Zkz (i k a l:Nat):jS O (.rl i k a l)=True:=rfl
theorem Zk0 (i a n:Nat):jS O (.rs i a n)=∃ o,O i=some o∧o.row=false:=rfl
theorem Zer (k k':IntKind) (a b:Int):Zi6 T op t (.val (.int k a)) (.val (.int k' b))=(Zne op k a k' b).map fun r=>(r.1,.val r.2):=rfl
theorem Zeq (a b:Bool):Zi6 T op t (.val (.bool a)) (.val (.bool b))=match Xv T t,op with
  | some .bool,.eql=>some (True,.val (.bool (a == b)))
  | some .bool,.neq=>some (True,.val (.bool (a != b)))
  | _,_=>none:=rfl
theorem Zew (a b:ByteArray):Zi6 T op t (.val (.string a)) (.val (.string b))=match op with
  | .eql=>some (True,.val (.bool (a.toList == b.toList)))
  | .neq=>some (True,.val (.bool (!(a.toList == b.toList))))
  | _=>none:=rfl
theorem Zeu:Zi6 T op t (.val (.pointer none)) (.val (.pointer none))=match Xv T t,op with
  | some (.ptr _),.eql=>some (True,.val (.bool true))
  | some (.ptr _),.neq=>some (True,.val (.bool false))
  | _,_=>none:=rfl
theorem Zev (i a:Nat):Zi6 T op t (.ref i a) (.val (.pointer none))=match Xv T t,op with
  | some (.ptr _),.eql=>some (True,.val (.bool false))
  | some (.ptr _),.neq=>some (True,.val (.bool true))
  | _,_=>none:=rfl
theorem Zes (cs:List G) (k:Nat):Zi6 T op t (.ip cs k) (.val (.pointer none))=match Xv T t,op with
  | some (.ptr _),.eql=>some (True,.val (.bool false))
  | some (.ptr _),.neq=>some (True,.val (.bool true))
  | _,_=>none:=rfl
theorem Zet (a:Option Addr) (l c l' c':Nat):Zi6 T op t (.val (.slice a l c)) (.val (.slice none l' c'))=match Xv T t,op with
  | some (.slice _),.eql=>some (True,.val (.bool a.isNone))
  | some (.slice _),.neq=>some (True,.val (.bool (!a.isNone)))
  | _,_=>none:=rfl
theorem Zep (xs ys:List G):Zi6 T op t (.agg xs) (.agg ys)=match T t,Zhu T 6 t xs ys with
  | some i,some b=>if i.k.isAgg=true∧i.eq=true then (match op with
   | .eql=>some (True,.val (.bool b))
   | .neq=>some (True,.val (.bool (!b)))
   | _=>none) else none
  | _,_=>none:=rfl
end
theorem Zfw:G.one .any=false:=rfl
theorem Zf0 (v:Value):G.one (.val v)=v.oneCell':=rfl
theorem Zfv (cs:List G):G.one (.agg cs)=false:=rfl
theorem Zfz (cs:List G):G.one (.tup cs)=false:=rfl
theorem Zbn (b:Bool) (g:G):G.one (.when b g)=false:=rfl
theorem Zlp (n:Nat) (cs:List G):G.one (.sl n cs)=true:=rfl
theorem Zll (cs:List G) (k:Nat):G.one (.ip cs k)=true:=rfl
theorem Zfy (i n:Nat):G.one (.row i n)=true:=rfl
theorem Zlo (i a n:Nat):G.one (.rs i a n)=true:=rfl
theorem Zln (i n a:Nat):G.one (.rp i n a)=true:=rfl
theorem Zlm (i n a k:Nat):G.one (.rl i n a k)=true:=rfl
theorem Zfx (i a:Nat):G.one (.ref i a)=true:=rfl
theorem Zlk (f k:Nat) (cs:List G):G.one (.fn f k cs)=true:=rfl
theorem kF (cs:List G):Vl (.agg cs)=some cs:=rfl
theorem pF (v:Value):Vl (.val v)=match v with
  | .agg vs=>some (vs.toList.map .val)
  | v=>if G.one (.val v)=true then some [.val v] else none:=by cases v <;> rfl
theorem fN (n:Nat) (cs:List G):Vl (.sl n cs)=some [.sl n cs]:=rfl
theorem aN (cs:List G) (k:Nat):Vl (.ip cs k)=some [.ip cs k]:=rfl
theorem nF (i n:Nat):Vl (.row i n)=some [.row i n]:=rfl
theorem eN (i a n:Nat):Vl (.rs i a n)=some [.rs i a n]:=rfl
theorem dN (i n a:Nat):Vl (.rp i n a)=some [.rp i n a]:=rfl
theorem bN (i n a k:Nat):Vl (.rl i n a k)=some [.rl i n a k]:=rfl
theorem mF (i a:Nat):Vl (.ref i a)=some [.ref i a]:=rfl
theorem zM (f k:Nat) (cs:List G):Vl (.fn f k cs)=some [.fn f k cs]:=rfl
theorem lF:Vl .any=none:=rfl
theorem oF (cs:List G):Vl (.tup cs)=none:=rfl
theorem yC (b:Bool) (g:G):Vl (.when b g)=none:=rfl
def gP {α:Type} (f:α→List G):Option α→G
 | none => .val (.pointer none)
 | some x => .ip (f x) 0
def eP {α:Type} (f:α→List G) (x:Option α):List G:=[gP f x]
theorem Zl5 {α:Type}:∀ {l:List α} {k:Nat} {x:α},l[k]? = some x→l.set k x=l
 | [],k,x,h=>by simp at h
 | y::l,0,x,h=>by simp at h;simp [h]
 | y::l,k+1,x,h=>by simp only [List.set_cons_succ,Zl5 (l:=l) (k:=k) (by simpa using h)]
section
variable {P:Program} {w:World} {O:Objs} {m:Hands} {n:Nat}
theorem Zuk (hM:Mem w O m n) {p:Nat} {q q':GObj} (hp:O p=some q) (h1:q'.row=q.row) (h2:q'.ty=q.ty) (h3:q'.sz=q.sz) (h4:q'.n=q.n) (hc:∀ vs,G.reps w O m n q.cells vs→G.reps w O m n q'.cells vs) :
  Mem w (O.upd p (some q')) m n∧Ext w O m n w (O.upd p (some q')) m n:=by
 have hpn:p < n:=by
  rcases Nat.lt_or_ge p n with h | h
  ·exact h
  rw [hM.fresh p h] at hp;cases hp
 have hold:∀ i o',(O.upd p (some q')) i=some o'→∃ o,O i=some o∧o'.row=o.row∧o'.n=o.n:=fun i o' hi=>by
  by_cases e:i=p
  ·subst e;rw [Yo] at hi;injection hi with hi;subst hi;exact ⟨q,hp,h1,h4⟩
  rw [Xe _ _ e] at hi;exact ⟨o',hi,rfl,rfl⟩
 have hrep:∀ (gs:List G) (vs:List Value),G.reps w O m n gs vs→G.reps w (O.upd p (some q')) m n gs vs:=fun gs vs h=>kA hold gs vs h (uV gs vs h)
 refine ⟨⟨fun i hi => ?_,fun i o' hi => ?_,fun i j oi oj b hi hj => ?_⟩,⟨rfl,rfl,rfl,Nat.le_refl _,Nat.le_refl _,fun b _ ho=>⟨rfl,fun ⟨i,o',hi,hb⟩ => ?_⟩,fun i _ o' hi => ?_⟩⟩
 ·rw [Xe _ _ (by omega)];exact hM.fresh i hi
 ·by_cases e:i=p
  ·subst e
   rw [Yo] at hi
   injection hi with hi
   subst hi
   obtain ⟨vs,hr,hx⟩:=hM.obj i q hp
   refine ⟨vs,hrep _ _ (hc vs hr),?_⟩
   rw [h1,h2,h3,h4];exact hx
  rw [Xe _ _ e] at hi
  obtain ⟨vs,hr,hx⟩:=hM.obj i o' hi
  exact ⟨vs,hrep _ _ hr,hx⟩
 ·obtain ⟨o1,e1,_⟩:=hold i oi hi
  obtain ⟨o2,e2,_⟩:=hold j oj hj
  exact hM.apart i j o1 o2 b e1 e2
 ·obtain ⟨o1,e1,_⟩:=hold i o' hi
  exact ho ⟨i,o1,e1,hb⟩
 obtain ⟨o1,e1,e2,e3⟩:=hold i o' hi
 exact ⟨o1,e1,e2,Nat.le_of_eq e3.symm,fun _=>rfl⟩
theorem Gh {ba:Nat} {E:Env} {p k:Nat} {q:GObj} (t:TypeId) (sz:Nat) (hp:O p=some q) (hk:q.cells[k]? = some (.val (.slice none 0 0))) (hb:ba≤n) :
  Fit2 ba E O n E ((O.upd n (some ⟨true,t,sz,0,[]⟩)).upd p (some ⟨q.row,q.ty,q.sz,q.n,q.cells.set k (.row n 0)⟩)) (n+1):=fun w m a hM hE=>by
 have hpn:p≠n:=fun e=>by rw [e,hM.fresh n (Nat.le_refl _)] at hp;cases hp
 obtain ⟨h1,h2⟩:=Znx hM t sz
 have hp':(O.upd n (some ⟨true,t,sz,0,[]⟩)) p=some q:=by rw [Xe _ _ hpn];exact hp
 obtain ⟨h3,h4⟩:=Zuk (q':=⟨q.row,q.ty,q.sz,q.n,q.cells.set k (.row n 0)⟩) h1 hp' rfl rfl rfl rfl (fun vs hr=>by
  obtain ⟨v,hv,hrv⟩:=Zc2 _ _ hr k _ hk
  simp only [G.rep] at hrv
  subst hrv
  have:=Zly q.cells vs k (.row n 0) (.slice none 0 0) hr (Zny t sz)
  rw [Zl5 hv] at this
  exact this)
 have hX:=h2.trans h4
 exact ⟨_,h3,hE.ext hX,hX.base hb⟩
end
end Go.Proofs.Ytocpndlnbmjpmaa
