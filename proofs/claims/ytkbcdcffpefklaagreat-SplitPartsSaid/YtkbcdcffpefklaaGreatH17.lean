/- Part H17 of the ghost memory: lemmas and contracts used by the proofs of this seat's laws; each theorem bears its own conditions. -/
import Derived.Test.YtkbcdcffpefklaaGreatH16
namespace Go.Proofs.YtkbcdcffpefklaaGreat
open Go.RowKit
set_option linter.unusedVariables false
set_option linter.unusedSimpArgs false
section
variable {α:Type} {xs:List α} {i:Int} {f:α→List G} {T:K4} {t:TypeId} {ti:TyI} {x:α} {sz off:Nat}
theorem Z01 (hf:∀ x,(f x).length=sz) (hx:Yx xs i=some x):(fl f xs).drop (i.toNat * sz)=f x++fl f (xs.drop (i.toNat+1)):=by
 have h1:=Zn9 hx
 have hi:=Zh4 hx
 have:xs[i.toNat]=x:=by rw [List.getElem?_eq_getElem hi] at h1;injection h1
 rw [Zpx hf,List.drop_eq_getElem_cons hi,G8,this]
theorem X2 (ht:T t=some ti) (hf:∀ x,(f x).length=sz) (ho:off+ti.size≤sz) (h0:0 < ti.size) (hx:Yx xs i=some x):Ziv T t (fl f xs) (i.toNat * sz+off)=if ti.k.isAgg then some (.agg (((f x).drop off).take ti.size)) else (f x)[off]? := by
 unfold Ziv
 simp only [ht]
 have hi:=Zh4 hx
 have hd:=Z01 hf hx
 split
 ·rw [if_pos ?_,← List.drop_drop,hd,List.drop_append_of_le_length (by rw [hf x];omega),List.take_append_of_le_length (by rw [List.length_drop,hf x];omega)]
  rw [Qu hf]
  have:(i.toNat+1) * sz≤xs.length * sz:=Nat.mul_le_mul_right _ hi
  rw [Nat.succ_mul] at this
  omega
 rw [← List.getElem?_drop,hd,List.getElem?_append_left (by rw [hf x];omega)]
theorem J0 (ht:T t=some ti) (hf:∀ x,(f x).length=sz) (ho:ti.size≤sz) (h0:0 < ti.size) (hx:Yx xs i=some x):Ziv T t (fl f xs) (i.toNat * sz)=if ti.k.isAgg then some (.agg ((f x).take ti.size)) else (f x)[0]? := by
 have:=X2 (off:=0) ht hf (by omega) h0 hx
 rw [Nat.add_zero,List.drop_zero] at this
 exact this
theorem Z6x {y:α} {cs:List G} (hf:∀ x,(f x).length=sz) (ho:off+cs.length≤sz) (hx:Yx xs i=some x) (hy:f y=(f x).take off++cs++(f x).drop (off+cs.length)):Ke (fl f xs) cs (i.toNat * sz+off)=some (fl f (Zlw xs i y)):=by
 have hi:=Zh4 hx
 have h1:=Zn9 hx
 have hxe:xs[i.toNat]=x:=by rw [List.getElem?_eq_getElem hi] at h1;injection h1
 have hl:(i.toNat+1) * sz≤xs.length * sz:=Nat.mul_le_mul_right _ hi
 rw [Nat.succ_mul] at hl
 have hd:=Z01 hf hx
 have e:=Ybl (x:=y) hf hi
 unfold Ke Zlw
 rw [if_pos (by rw [Qu hf];omega),← e,hy]
 congr 1
 have e1:(fl f xs).take (i.toNat * sz+off)=(fl f xs).take (i.toNat * sz)++(f x).take off:=by
  rw [List.take_add,hd,List.take_append_of_le_length (by rw [hf x];omega)]
 have e2:(fl f xs).drop (i.toNat * sz+off+cs.length)=(f x).drop (off+cs.length)++(fl f xs).drop (i.toNat * sz+sz):=by
  rw [Nat.add_assoc,← List.drop_drop,hd,List.drop_append_of_le_length (by rw [hf x];omega)]
  congr 1
  have e3:i.toNat * sz+sz=(i.toNat+1) * sz:=by rw [Nat.succ_mul]
  rw [e3,Zpx hf]
 rw [e1,e2]
 simp only [List.append_assoc]
theorem Z6d {O O':Objs} {n':Nat} {zs:List G} {z:α} (h:G7 O O' n' zs (f z)):∀ k:Nat,G7 O O' n' (List.replicate k zs).flatten (fl f (List.replicate k z))
 | 0=>by simp [G7,fl]
 | k+1=>by
  rw [List.replicate_succ,List.replicate_succ,List.flatten_cons,G8]
  exact Z9x _ _ _ _ h (Z6d h k)
end
theorem Zk9 {P:Program} {t e:TypeId} {α:Type} {f:α→List G} {wf:α→Prop} {sz:Nat} (n:Nat) (ht:P.underlying t=some (.slice e)) (hc:P.cellsOf e=sz) (hs:0 < sz) (hf:∀ x,(f x).length=sz) (he:∀ m,m < n→Vv P e f wf m) :
  Vv P t (eL f) (fun xs=>xs.length * P.bytesOf e≤reachBytes∧∀ x∈xs,wf x) n:=by
 cases n with
 | zero=>exact Zen
 | succ n=>exact Zsx ht hc hs hf (he n (Nat.lt_succ_self n))
theorem Zqh:Zfd .any = .any:=rfl
theorem Zql (v:Value):Zfd (.val v) = .val v:=rfl
theorem Zqg (cs:List G):Zfd (.agg cs) = .agg cs:=rfl
theorem Zqk (cs:List G):Zfd (.tup cs) = .tup cs:=rfl
theorem Ztk (n:Nat) (cs:List G):Zfd (.sl n cs) = .sl n cs:=rfl
theorem Ztg (cs:List G) (k:Nat):Zfd (.ip cs k) = .ip cs k:=rfl
theorem Zqj (i n:Nat):Zfd (.row i n) = .row i n:=rfl
theorem Ztj (i a n:Nat):Zfd (.rs i a n) = .rs i a n:=rfl
theorem Zti (i n a:Nat):Zfd (.rp i n a) = .rp i n a:=rfl
theorem Zth (i n a k:Nat):Zfd (.rl i n a k) = .rl i n a k:=rfl
theorem Zqi (i a:Nat):Zfd (.ref i a) = .ref i a:=rfl
theorem Zte (f k:Nat) (cs:List G):Zfd (.fn f k cs) = .fn f k cs:=rfl
theorem Znd (b:Bool) (g:G):Zfd (.when b g)=g:=rfl
section
variable {O:Objs} {T:K4} {op:BinOp} {t:TypeId}
theorem Zsd:Qd O .any=True:=rfl
theorem Zsh (v:Value):Qd O (.val v)=True:=rfl
theorem Zsc (cs:List G):Qd O (.agg cs)=True:=rfl
theorem Zsg (cs:List G):Qd O (.tup cs)=True:=rfl
theorem Zw2 (n:Nat) (cs:List G):Qd O (.sl n cs)=True:=rfl
theorem Zwy (cs:List G) (k:Nat):Qd O (.ip cs k)=True:=rfl
theorem Zww (f k:Nat) (cs:List G):Qd O (.fn f k cs)=True:=rfl
theorem Zp1 (b:Bool) (g:G):Qd O (.when b g)=True:=rfl
theorem Zse (i a:Nat):Qd O (.ref i a)=∃ o,O i=some o∧o.row=false:=rfl
theorem Zw1 (i a n:Nat):Qd O (.rs i a n)=∃ o,O i=some o∧o.row=false:=rfl
theorem Zw0 (i k a:Nat):Qd O (.rp i k a)=∃ o,O i=some o∧o.row=true∧k=o.n:=rfl
theorem Zwz (i k a l:Nat):Qd O (.rl i k a l)=True:=rfl
theorem Zsf (i k:Nat):Qd O (.row i k)=∃ o,O i=some o∧o.row=true∧k=o.n:=rfl
theorem Zws:Zkp O .any=True:=rfl
theorem Zwv (v:Value):Zkp O (.val v)=True:=rfl
theorem Zwr (cs:List G):Zkp O (.agg cs)=True:=rfl
theorem Zwu (cs:List G):Zkp O (.tup cs)=True:=rfl
theorem Z2k (n:Nat) (cs:List G):Zkp O (.sl n cs)=True:=rfl
theorem Z2g (cs:List G) (k:Nat):Zkp O (.ip cs k)=True:=rfl
theorem Z2f (f k:Nat) (cs:List G):Zkp O (.fn f k cs)=True:=rfl
theorem Zwt (i k:Nat):Zkp O (.row i k)=True:=rfl
theorem Z2i (i k a l:Nat):Zkp O (.rl i k a l)=True:=rfl
theorem Z2j (i a n:Nat):Zkp O (.rs i a n)=∃ o,O i=some o∧o.row=false:=rfl
theorem Zwf (k k':IntKind) (a b:Int):Zvu T op t (.val (.int k a)) (.val (.int k' b))=(Z16 op k a k' b).map fun r=>(r.1,.val r.2):=rfl
theorem Zwe (a b:Bool):Zvu T op t (.val (.bool a)) (.val (.bool b))=match Yu T t,op with
  | some .bool,.eql=>some (True,.val (.bool (a == b)))
  | some .bool,.neq=>some (True,.val (.bool (a != b)))
  | _,_=>none:=rfl
theorem Zwk (a b:ByteArray):Zvu T op t (.val (.string a)) (.val (.string b))=match op with
  | .eql=>some (True,.val (.bool (a.toList == b.toList)))
  | .neq=>some (True,.val (.bool (!(a.toList == b.toList))))
  | _=>none:=rfl
theorem Zwi:Zvu T op t (.val (.pointer none)) (.val (.pointer none))=match Yu T t,op with
  | some (.ptr _),.eql=>some (True,.val (.bool true))
  | some (.ptr _),.neq=>some (True,.val (.bool false))
  | _,_=>none:=rfl
theorem Zwj (i a:Nat):Zvu T op t (.ref i a) (.val (.pointer none))=match Yu T t,op with
  | some (.ptr _),.eql=>some (True,.val (.bool false))
  | some (.ptr _),.neq=>some (True,.val (.bool true))
  | _,_=>none:=rfl
theorem Zwg (cs:List G) (k:Nat):Zvu T op t (.ip cs k) (.val (.pointer none))=match Yu T t,op with
  | some (.ptr _),.eql=>some (True,.val (.bool false))
  | some (.ptr _),.neq=>some (True,.val (.bool true))
  | _,_=>none:=rfl
theorem Zwh (a:Option Addr) (l c l' c':Nat):Zvu T op t (.val (.slice a l c)) (.val (.slice none l' c'))=match Yu T t,op with
  | some (.slice _),.eql=>some (True,.val (.bool a.isNone))
  | some (.slice _),.neq=>some (True,.val (.bool (!a.isNone)))
  | _,_=>none:=rfl
theorem Zwd (xs ys:List G):Zvu T op t (.agg xs) (.agg ys)=match T t,Zvv T 6 t xs ys with
  | some i,some b=>if i.k.isAgg=true∧i.eq=true then (match op with
   | .eql=>some (True,.val (.bool b))
   | .neq=>some (True,.val (.bool (!b)))
   | _=>none) else none
  | _,_=>none:=rfl
end
theorem Zw9:G.one .any=false:=rfl
theorem Zxd (v:Value):G.one (.val v)=v.oneCell':=rfl
theorem Zw8 (cs:List G):G.one (.agg cs)=false:=rfl
theorem Zxc (cs:List G):G.one (.tup cs)=false:=rfl
theorem Zsw (b:Bool) (g:G):G.one (.when b g)=false:=rfl
theorem Z26 (n:Nat) (cs:List G):G.one (.sl n cs)=true:=rfl
theorem Z22 (cs:List G) (k:Nat):G.one (.ip cs k)=true:=rfl
theorem Zxb (i n:Nat):G.one (.row i n)=true:=rfl
theorem Z25 (i a n:Nat):G.one (.rs i a n)=true:=rfl
theorem Z24 (i n a:Nat):G.one (.rp i n a)=true:=rfl
theorem Z23 (i n a k:Nat):G.one (.rl i n a k)=true:=rfl
theorem Zxa (i a:Nat):G.one (.ref i a)=true:=rfl
theorem Z21 (f k:Nat) (cs:List G):G.one (.fn f k cs)=true:=rfl
theorem Zkc (cs:List G):Qq (.agg cs)=some cs:=rfl
theorem Zkh (v:Value):Qq (.val v)=match v with
  | .agg vs=>some (vs.toList.map .val)
  | v=>if G.one (.val v)=true then some [.val v] else none:=by cases v <;> rfl
theorem Zl7 (n:Nat) (cs:List G):Qq (.sl n cs)=some [.sl n cs]:=rfl
theorem Zl3 (cs:List G) (k:Nat):Qq (.ip cs k)=some [.ip cs k]:=rfl
theorem Zkf (i n:Nat):Qq (.row i n)=some [.row i n]:=rfl
theorem Zl6 (i a n:Nat):Qq (.rs i a n)=some [.rs i a n]:=rfl
theorem Zl5 (i n a:Nat):Qq (.rp i n a)=some [.rp i n a]:=rfl
theorem Zl4 (i n a k:Nat):Qq (.rl i n a k)=some [.rl i n a k]:=rfl
theorem Zke (i a:Nat):Qq (.ref i a)=some [.ref i a]:=rfl
theorem Zl1 (f k:Nat) (cs:List G):Qq (.fn f k cs)=some [.fn f k cs]:=rfl
theorem Zkd:Qq .any=none:=rfl
theorem Zkg (cs:List G):Qq (.tup cs)=none:=rfl
theorem Zi3 (b:Bool) (g:G):Qq (.when b g)=none:=rfl
def gP {α:Type} (f:α→List G):Option α→G
 | none => .val (.pointer none)
 | some x => .ip (f x) 0
def eP {α:Type} (f:α→List G) (x:Option α):List G:=[gP f x]
section
variable {α:Type} {f:α→List G} {T:K4} {t e:TypeId} {O O':Objs} {n':Nat}
theorem Zwb:gP f none = .val (.pointer none):=rfl
theorem Zwc (x:α):gP f (some x) = .ip (f x) 0:=rfl
theorem Ztf (x:Option α):Zfd (gP f x)=gP f x:=by cases x <;> rfl
theorem Z4i (x:Option α) (l:List G):wok (gP f x::l)=wok l:=by cases x <;> rfl
theorem Zf3 (x:Option α):(gP f x).one=true:=by cases x <;> rfl
theorem Zl2 (x:Option α):Qq (gP f x)=some [gP f x]:=by cases x <;> rfl
theorem Kp (h:∀ x,G.pures (f x)=true) (x:Option α):(gP f x).pure=true:=by
 cases x with
 | none=>rfl
 | some x=>simp only [gP,G.pure,h]
theorem Zdo (h:∀ x,G.pures (f x)=true) (k:Nat) (x:Option α):(gP f x).under k=true:=Zm6 k _ (Kp h x)
theorem Zox (h:∀ x,G.pures (f x)=true) (x:Option α):wk O O' n' (gP f x) (gP f x)=True:=eq_true (Z4e _ (Zdo h _ x))
theorem Zwx (x:Option α):Qd O (gP f x)=True:=by cases x <;> rfl
end
theorem Zz7 {α:Type}:∀ {l:List α} {k:Nat} {x:α},l[k]? = some x→l.set k x=l
 | [],k,x,h=>by simp at h
 | y::l,0,x,h=>by simp at h;simp [h]
 | y::l,k+1,x,h=>by simp only [List.set_cons_succ,Zz7 (l:=l) (k:=k) (by simpa using h)]
section
variable {P:Program} {w:World} {O:Objs} {m:Hands} {n:Nat}
theorem Z7a (hM:Mem w O m n) {p:Nat} {q q':GObj} (hp:O p=some q) (h1:q'.row=q.row) (h2:q'.ty=q.ty) (h3:q'.sz=q.sz) (h4:q'.n=q.n) (hc:∀ vs,G.reps w O m n q.cells vs→G.reps w O m n q'.cells vs) :
  Mem w (O.upd p (some q')) m n∧Ext w O m n w (O.upd p (some q')) m n:=by
 have hpn:p < n:=by
  rcases Nat.lt_or_ge p n with h | h
  ·exact h
  rw [hM.fresh p h] at hp;cases hp
 have hold:∀ i o',(O.upd p (some q')) i=some o'→∃ o,O i=some o∧o'.row=o.row∧o'.n=o.n:=fun i o' hi=>by
  by_cases e:i=p
  ·subst e;rw [Ye] at hi;injection hi with hi;subst hi;exact ⟨q,hp,h1,h4⟩
  rw [Yz _ _ e] at hi;exact ⟨o',hi,rfl,rfl⟩
 have hrep:∀ (gs:List G) (vs:List Value),G.reps w O m n gs vs→G.reps w (O.upd p (some q')) m n gs vs:=fun gs vs h=>Zep hold gs vs h (Zcr gs vs h)
 refine ⟨⟨fun i hi => ?_,fun i o' hi => ?_,fun i j oi oj b hi hj => ?_⟩,⟨rfl,rfl,rfl,Nat.le_refl _,Nat.le_refl _,fun b _ ho=>⟨rfl,fun ⟨i,o',hi,hb⟩ => ?_⟩,fun i _ o' hi => ?_⟩⟩
 ·rw [Yz _ _ (by omega)];exact hM.fresh i hi
 ·by_cases e:i=p
  ·subst e
   rw [Ye] at hi
   injection hi with hi
   subst hi
   obtain ⟨vs,hr,hx⟩:=hM.obj i q hp
   refine ⟨vs,hrep _ _ (hc vs hr),?_⟩
   rw [h1,h2,h3,h4];exact hx
  rw [Yz _ _ e] at hi
  obtain ⟨vs,hr,hx⟩:=hM.obj i o' hi
  exact ⟨vs,hrep _ _ hr,hx⟩
 ·obtain ⟨o1,e1,_⟩:=hold i oi hi
  obtain ⟨o2,e2,_⟩:=hold j oj hj
  exact hM.apart i j o1 o2 b e1 e2
 ·obtain ⟨o1,e1,_⟩:=hold i o' hi
  exact ho ⟨i,o1,e1,hb⟩
 obtain ⟨o1,e1,e2,e3⟩:=hold i o' hi
 exact ⟨o1,e1,e2,Nat.le_of_eq e3.symm,fun _=>rfl⟩
theorem Gh {ba:Nat} {E:Env} {p k:Nat} {q:GObj} (t:TypeId) (sz:Nat) (hp:O p=some q) (hk:q.cells[k]? = some (.val (.slice none 0 0))) (hb:ba≤n) :
  Fit2 ba E O n E ((O.upd n (some ⟨true,t,sz,0,[]⟩)).upd p (some ⟨q.row,q.ty,q.sz,q.n,q.cells.set k (.row n 0)⟩)) (n+1):=fun w m a hM hE=>by
 have hpn:p≠n:=fun e=>by rw [e,hM.fresh n (Nat.le_refl _)] at hp;cases hp
 obtain ⟨h1,h2⟩:=Zuf hM t sz
 have hp':(O.upd n (some ⟨true,t,sz,0,[]⟩)) p=some q:=by rw [Yz _ _ hpn];exact hp
 obtain ⟨h3,h4⟩:=Z7a (q':=⟨q.row,q.ty,q.sz,q.n,q.cells.set k (.row n 0)⟩) h1 hp' rfl rfl rfl rfl (fun vs hr=>by
  obtain ⟨v,hv,hrv⟩:=Zqc _ _ hr k _ hk
  simp only [G.rep] at hrv
  subst hrv
  have:=Zz3 q.cells vs k (.row n 0) (.slice none 0 0) hr (Zug t sz)
  rw [Zz7 hv] at this
  exact this)
 have hX:=h2.trans h4
 exact ⟨_,h3,hE.ext hX,hX.base hb⟩
end
end Go.Proofs.YtkbcdcffpefklaaGreat
