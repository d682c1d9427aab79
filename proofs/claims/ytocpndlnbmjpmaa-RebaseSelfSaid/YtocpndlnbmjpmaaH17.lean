/- Part H17 of the ghost memory: lemmas and contracts used by the proofs of this seat's laws; each theorem bears its own conditions. -/
import Derived.Test.YtocpndlnbmjpmaaH16
namespace Go.Proofs.Ytocpndlnbmjpmaa
open Go.RowKit
set_option linter.unusedVariables false
set_option linter.unusedSimpArgs false
section
variable {α:Type} {xs:List α} {i:Int} {f:α→List G} {T:V3} {t:TypeId} {ti:TyI} {x:α} {sz off:Nat}
theorem Zxu (hf:∀ x,(f x).length=sz) (hx:Xg xs i=some x):(fl f xs).drop (i.toNat * sz)=f x++fl f (xs.drop (i.toNat+1)):=by
 have h1:=Zmx hx
 have hi:=Zgx hx
 have:xs[i.toNat]=x:=by rw [List.getElem?_eq_getElem hi] at h1;injection h1
 rw [Zok hf,List.drop_eq_getElem_cons hi,Zbc,this]
theorem Jn (ht:T t=some ti) (hf:∀ x,(f x).length=sz) (ho:off+ti.size≤sz) (h0:0 < ti.size) (hx:Xg xs i=some x):Zht T t (fl f xs) (i.toNat * sz+off)=if ti.k.isAgg then some (.agg (((f x).drop off).take ti.size)) else (f x)[off]? := by
 unfold Zht
 simp only [ht]
 have hi:=Zgx hx
 have hd:=Zxu hf hx
 split
 ·rw [if_pos ?_,← List.drop_drop,hd,List.drop_append_of_le_length (by rw [hf x];omega),List.take_append_of_le_length (by rw [List.length_drop,hf x];omega)]
  rw [Gz hf]
  have:(i.toNat+1) * sz≤xs.length * sz:=Nat.mul_le_mul_right _ hi
  rw [Nat.succ_mul] at this
  omega
 rw [← List.getElem?_drop,hd,List.getElem?_append_left (by rw [hf x];omega)]
theorem Qc (ht:T t=some ti) (hf:∀ x,(f x).length=sz) (ho:ti.size≤sz) (h0:0 < ti.size) (hx:Xg xs i=some x):Zht T t (fl f xs) (i.toNat * sz)=if ti.k.isAgg then some (.agg ((f x).take ti.size)) else (f x)[0]? := by
 have:=Jn (off:=0) ht hf (by omega) h0 hx
 rw [Nat.add_zero,List.drop_zero] at this
 exact this
theorem Z2r {y:α} {cs:List G} (hf:∀ x,(f x).length=sz) (ho:off+cs.length≤sz) (hx:Xg xs i=some x) (hy:f y=(f x).take off++cs++(f x).drop (off+cs.length)):J5 (fl f xs) cs (i.toNat * sz+off)=some (fl f (Zld xs i y)):=by
 have hi:=Zgx hx
 have h1:=Zmx hx
 have hxe:xs[i.toNat]=x:=by rw [List.getElem?_eq_getElem hi] at h1;injection h1
 have hl:(i.toNat+1) * sz≤xs.length * sz:=Nat.mul_le_mul_right _ hi
 rw [Nat.succ_mul] at hl
 have hd:=Zxu hf hx
 have e:=Z6n (x:=y) hf hi
 unfold J5 Zld
 rw [if_pos (by rw [Gz hf];omega),← e,hy]
 congr 1
 have e1:(fl f xs).take (i.toNat * sz+off)=(fl f xs).take (i.toNat * sz)++(f x).take off:=by
  rw [List.take_add,hd,List.take_append_of_le_length (by rw [hf x];omega)]
 have e2:(fl f xs).drop (i.toNat * sz+off+cs.length)=(f x).drop (off+cs.length)++(fl f xs).drop (i.toNat * sz+sz):=by
  rw [Nat.add_assoc,← List.drop_drop,hd,List.drop_append_of_le_length (by rw [hf x];omega)]
  congr 1
  have e3:i.toNat * sz+sz=(i.toNat+1) * sz:=by rw [Nat.succ_mul]
  rw [e3,Zok hf]
 rw [e1,e2]
 simp only [List.append_assoc]
theorem Z12 {O O':Objs} {n':Nat} {zs:List G} {z:α} (h:wkl O O' n' zs (f z)):∀ k:Nat,wkl O O' n' (List.replicate k zs).flatten (fl f (List.replicate k z))
 | 0=>by simp [wkl,fl]
 | k+1=>by
  rw [List.replicate_succ,List.replicate_succ,List.flatten_cons,Zbc]
  exact Z4k _ _ _ _ h (Z12 h k)
end
theorem Zko {P:Program} {t e:TypeId} {α:Type} {f:α→List G} {wf:α→Prop} {sz:Nat} (n:Nat) (ht:P.underlying t=some (.slice e)) (hc:P.cellsOf e=sz) (hs:0 < sz) (hf:∀ x,(f x).length=sz) (he:∀ m,m < n→Uf P e f wf m) :
  Uf P t (eL f) (fun xs=>xs.length * P.bytesOf e≤reachBytes∧∀ x∈xs,wf x) n:=by
 cases n with
 | zero=>exact Zdy
 | succ n=>exact Zrf ht hc hs hf (he n (Nat.lt_succ_self n))
theorem Zlf:Zet .any = .any:=rfl
theorem Zlk (v:Value):Zet (.val v) = .val v:=rfl
theorem Zle (cs:List G):Zet (.agg cs) = .agg cs:=rfl
theorem Zlj (cs:List G):Zet (.tup cs) = .tup cs:=rfl
theorem Znu (n:Nat) (cs:List G):Zet (.sl n cs) = .sl n cs:=rfl
theorem Znq (cs:List G) (k:Nat):Zet (.ip cs k) = .ip cs k:=rfl
theorem Zli (i n:Nat):Zet (.row i n) = .row i n:=rfl
theorem Znt (i a n:Nat):Zet (.rs i a n) = .rs i a n:=rfl
theorem Zns (i n a:Nat):Zet (.rp i n a) = .rp i n a:=rfl
theorem Znr (i n a k:Nat):Zet (.rl i n a k) = .rl i n a k:=rfl
theorem Zlg (i a:Nat):Zet (.ref i a) = .ref i a:=rfl
theorem Znp (f k:Nat) (cs:List G):Zet (.fn f k cs) = .fn f k cs:=rfl
theorem Zjk (b:Bool) (g:G):Zet (.when b g)=g:=rfl
section
variable {O:Objs} {T:V3} {op:BinOp} {t:TypeId}
theorem Zm2:Q3 O .any=True:=rfl
theorem Zm6 (v:Value):Q3 O (.val v)=True:=rfl
theorem Zm1 (cs:List G):Q3 O (.agg cs)=True:=rfl
theorem Zm5 (cs:List G):Q3 O (.tup cs)=True:=rfl
theorem Zq0 (n:Nat) (cs:List G):Q3 O (.sl n cs)=True:=rfl
theorem Zqw (cs:List G) (k:Nat):Q3 O (.ip cs k)=True:=rfl
theorem Zqv (f k:Nat) (cs:List G):Q3 O (.fn f k cs)=True:=rfl
theorem Zky (b:Bool) (g:G):Q3 O (.when b g)=True:=rfl
theorem Zm3 (i a:Nat):Q3 O (.ref i a)=∃ o,O i=some o∧o.row=false:=rfl
theorem Zqz (i a n:Nat):Q3 O (.rs i a n)=∃ o,O i=some o∧o.row=false:=rfl
theorem Zqy (i k a:Nat):Q3 O (.rp i k a)=∃ o,O i=some o∧o.row=true∧k=o.n:=rfl
theorem Zqx (i k a l:Nat):Q3 O (.rl i k a l)=True:=rfl
theorem Zm4 (i k:Nat):Q3 O (.row i k)=∃ o,O i=some o∧o.row=true∧k=o.n:=rfl
theorem Zqr:Zj7 O .any=True:=rfl
theorem Zqu (v:Value):Zj7 O (.val v)=True:=rfl
theorem Zqq (cs:List G):Zj7 O (.agg cs)=True:=rfl
theorem Zqt (cs:List G):Zj7 O (.tup cs)=True:=rfl
theorem Zu6 (n:Nat) (cs:List G):Zj7 O (.sl n cs)=True:=rfl
theorem Zu3 (cs:List G) (k:Nat):Zj7 O (.ip cs k)=True:=rfl
theorem Zu2 (f k:Nat) (cs:List G):Zj7 O (.fn f k cs)=True:=rfl
theorem Zqs (i k:Nat):Zj7 O (.row i k)=True:=rfl
theorem Zu4 (i k a l:Nat):Zj7 O (.rl i k a l)=True:=rfl
theorem Zu5 (i a n:Nat):Zj7 O (.rs i a n)=∃ o,O i=some o∧o.row=false:=rfl
theorem Zqa (k k':IntKind) (a b:Int):Ztz T op t (.val (.int k a)) (.val (.int k' b))=(Zxb op k a k' b).map fun r=>(r.1,.val r.2):=rfl
theorem Zp9 (a b:Bool):Ztz T op t (.val (.bool a)) (.val (.bool b))=match Y2 T t,op with
  | some .bool,.eql=>some (True,.val (.bool (a == b)))
  | some .bool,.neq=>some (True,.val (.bool (a != b)))
  | _,_=>none:=rfl
theorem Zqf (a b:ByteArray):Ztz T op t (.val (.string a)) (.val (.string b))=match op with
  | .eql=>some (True,.val (.bool (a.toList == b.toList)))
  | .neq=>some (True,.val (.bool (!(a.toList == b.toList))))
  | _=>none:=rfl
theorem Zqd:Ztz T op t (.val (.pointer none)) (.val (.pointer none))=match Y2 T t,op with
  | some (.ptr _),.eql=>some (True,.val (.bool true))
  | some (.ptr _),.neq=>some (True,.val (.bool false))
  | _,_=>none:=rfl
theorem Zqe (i a:Nat):Ztz T op t (.ref i a) (.val (.pointer none))=match Y2 T t,op with
  | some (.ptr _),.eql=>some (True,.val (.bool false))
  | some (.ptr _),.neq=>some (True,.val (.bool true))
  | _,_=>none:=rfl
theorem Zqb (cs:List G) (k:Nat):Ztz T op t (.ip cs k) (.val (.pointer none))=match Y2 T t,op with
  | some (.ptr _),.eql=>some (True,.val (.bool false))
  | some (.ptr _),.neq=>some (True,.val (.bool true))
  | _,_=>none:=rfl
theorem Zqc (a:Option Addr) (l c l' c':Nat):Ztz T op t (.val (.slice a l c)) (.val (.slice none l' c'))=match Y2 T t,op with
  | some (.slice _),.eql=>some (True,.val (.bool a.isNone))
  | some (.slice _),.neq=>some (True,.val (.bool (!a.isNone)))
  | _,_=>none:=rfl
theorem Zp8 (xs ys:List G):Ztz T op t (.agg xs) (.agg ys)=match T t,Zs6 T 6 t xs ys with
  | some i,some b=>if i.k.isAgg=true∧i.eq=true then (match op with
   | .eql=>some (True,.val (.bool b))
   | .neq=>some (True,.val (.bool (!b)))
   | _=>none) else none
  | _,_=>none:=rfl
end
theorem Zra:G.one .any=false:=rfl
theorem Zre (v:Value):G.one (.val v)=v.oneCell':=rfl
theorem Zq9 (cs:List G):G.one (.agg cs)=false:=rfl
theorem Zrd (cs:List G):G.one (.tup cs)=false:=rfl
theorem Zng (b:Bool) (g:G):G.one (.when b g)=false:=rfl
theorem Zvr (n:Nat) (cs:List G):G.one (.sl n cs)=true:=rfl
theorem Zvn (cs:List G) (k:Nat):G.one (.ip cs k)=true:=rfl
theorem Zrc (i n:Nat):G.one (.row i n)=true:=rfl
theorem Zvq (i a n:Nat):G.one (.rs i a n)=true:=rfl
theorem Zvp (i n a:Nat):G.one (.rp i n a)=true:=rfl
theorem Zvo (i n a k:Nat):G.one (.rl i n a k)=true:=rfl
theorem Zrb (i a:Nat):G.one (.ref i a)=true:=rfl
theorem Zvm (f k:Nat) (cs:List G):G.one (.fn f k cs)=true:=rfl
theorem Zgp (cs:List G):Jt (.agg cs)=some cs:=rfl
theorem Zgu (v:Value):Jt (.val v)=match v with
  | .agg vs=>some (vs.toList.map .val)
  | v=>if G.one (.val v)=true then some [.val v] else none:=by cases v <;> rfl
theorem Zik (n:Nat) (cs:List G):Jt (.sl n cs)=some [.sl n cs]:=rfl
theorem Zig (cs:List G) (k:Nat):Jt (.ip cs k)=some [.ip cs k]:=rfl
theorem Zgs (i n:Nat):Jt (.row i n)=some [.row i n]:=rfl
theorem Zij (i a n:Nat):Jt (.rs i a n)=some [.rs i a n]:=rfl
theorem Zii (i n a:Nat):Jt (.rp i n a)=some [.rp i n a]:=rfl
theorem Zih (i n a k:Nat):Jt (.rl i n a k)=some [.rl i n a k]:=rfl
theorem Zgr (i a:Nat):Jt (.ref i a)=some [.ref i a]:=rfl
theorem Zif (f k:Nat) (cs:List G):Jt (.fn f k cs)=some [.fn f k cs]:=rfl
theorem Zgq:Jt .any=none:=rfl
theorem Zgt (cs:List G):Jt (.tup cs)=none:=rfl
theorem Zfm (b:Bool) (g:G):Jt (.when b g)=none:=rfl
def gP {α:Type} (f:α→List G):Option α→G
 | none => .val (.pointer none)
 | some x => .ip (f x) 0
def eP {α:Type} (f:α→List G) (x:Option α):List G:=[gP f x]
theorem Zv6 {α:Type}:∀ {l:List α} {k:Nat} {x:α},l[k]? = some x→l.set k x=l
 | [],k,x,h=>by simp at h
 | y::l,0,x,h=>by simp at h;simp [h]
 | y::l,k+1,x,h=>by simp only [List.set_cons_succ,Zv6 (l:=l) (k:=k) (by simpa using h)]
section
variable {P:Program} {w:World} {O:Objs} {m:Hands} {n:Nat}
theorem Z26 (hM:Mem w O m n) {p:Nat} {q q':GObj} (hp:O p=some q) (h1:q'.row=q.row) (h2:q'.ty=q.ty) (h3:q'.sz=q.sz) (h4:q'.n=q.n) (hc:∀ vs,G.reps w O m n q.cells vs→G.reps w O m n q'.cells vs) :
  Mem w (O.upd p (some q')) m n∧Ext w O m n w (O.upd p (some q')) m n:=by
 have hpn:p < n:=by
  rcases Nat.lt_or_ge p n with h | h
  ·exact h
  rw [hM.fresh p h] at hp;cases hp
 have hold:∀ i o',(O.upd p (some q')) i=some o'→∃ o,O i=some o∧o'.row=o.row∧o'.n=o.n:=fun i o' hi=>by
  by_cases e:i=p
  ·subst e;rw [Z8] at hi;injection hi with hi;subst hi;exact ⟨q,hp,h1,h4⟩
  rw [Yn _ _ e] at hi;exact ⟨o',hi,rfl,rfl⟩
 have hrep:∀ (gs:List G) (vs:List Value),G.reps w O m n gs vs→G.reps w (O.upd p (some q')) m n gs vs:=fun gs vs h=>Zdz hold gs vs h (Zcp gs vs h)
 refine ⟨⟨fun i hi => ?_,fun i o' hi => ?_,fun i j oi oj b hi hj => ?_⟩,⟨rfl,rfl,rfl,Nat.le_refl _,Nat.le_refl _,fun b _ ho=>⟨rfl,fun ⟨i,o',hi,hb⟩ => ?_⟩,fun i _ o' hi => ?_⟩⟩
 ·rw [Yn _ _ (by omega)];exact hM.fresh i hi
 ·by_cases e:i=p
  ·subst e
   rw [Z8] at hi
   injection hi with hi
   subst hi
   obtain ⟨vs,hr,hx⟩:=hM.obj i q hp
   refine ⟨vs,hrep _ _ (hc vs hr),?_⟩
   rw [h1,h2,h3,h4];exact hx
  rw [Yn _ _ e] at hi
  obtain ⟨vs,hr,hx⟩:=hM.obj i o' hi
  exact ⟨vs,hrep _ _ hr,hx⟩
 ·obtain ⟨o1,e1,_⟩:=hold i oi hi
  obtain ⟨o2,e2,_⟩:=hold j oj hj
  exact hM.apart i j o1 o2 b e1 e2
 ·obtain ⟨o1,e1,_⟩:=hold i o' hi
  exact ho ⟨i,o1,e1,hb⟩
 obtain ⟨o1,e1,e2,e3⟩:=hold i o' hi
 exact ⟨o1,e1,e2,Nat.le_of_eq e3.symm,fun _=>rfl⟩
theorem Vg {ba:Nat} {E:Env} {p k:Nat} {q:GObj} (t:TypeId) (sz:Nat) (hp:O p=some q) (hk:q.cells[k]? = some (.val (.slice none 0 0))) (hb:ba≤n) :
  Fit2 ba E O n E ((O.upd n (some ⟨true,t,sz,0,[]⟩)).upd p (some ⟨q.row,q.ty,q.sz,q.n,q.cells.set k (.row n 0)⟩)) (n+1):=fun w m a hM hE=>by
 have hpn:p≠n:=fun e=>by rw [e,hM.fresh n (Nat.le_refl _)] at hp;cases hp
 obtain ⟨h1,h2⟩:=Zxp hM t sz
 have hp':(O.upd n (some ⟨true,t,sz,0,[]⟩)) p=some q:=by rw [Yn _ _ hpn];exact hp
 obtain ⟨h3,h4⟩:=Z26 (q':=⟨q.row,q.ty,q.sz,q.n,q.cells.set k (.row n 0)⟩) h1 hp' rfl rfl rfl rfl (fun vs hr=>by
  obtain ⟨v,hv,hrv⟩:=Zop _ _ hr k _ hk
  simp only [G.rep] at hrv
  subst hrv
  have:=Zv1 q.cells vs k (.row n 0) (.slice none 0 0) hr (Zxq t sz)
  rw [Zv6 hv] at this
  exact this)
 have hX:=h2.trans h4
 exact ⟨_,h3,hE.ext hX,hX.base hb⟩
end
end Go.Proofs.Ytocpndlnbmjpmaa
