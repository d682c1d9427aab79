/- Part H17 of the ghost memory: lemmas and contracts used by the proofs of this seat's laws; each theorem bears its own conditions. -/
import Derived.Test.YtfjkcekfifobpaaH16
import Derived.WalkKit
import Derived.WalkSpells
import Derived.WalkLawsBesides
import Derived.Lib.Hide
import Derived.BigQuiet
import Derived.StillTailTactics
import Derived.Deep.RegionHeld3
import Derived.Deep.AppendLies
import Derived.Laws.CopyOwn
import Derived.Deep.DeepCutAuto
import Derived.Deep.QuietTactic
import Derived.Maps.AppendAt
import Derived.Great.BuildSlice
import Derived.Laws.StructEq
import Derived.IntWalk
import Derived.ProofKit
import Derived.OpenShut
import Derived.SizedLaws
import Derived.Deep.Slices
namespace Go.Proofs.Ytfjkcekfifobpaa
open Go.RowKit
set_option linter.unusedVariables false
set_option linter.unusedSimpArgs false
section
variable {α:Type} {xs:List α} {i:Int} {f:α→List G} {T:V3} {t:TypeId} {ti:TyI} {x:α} {sz off:Nat}
theorem Z2f (hf:∀ x,(f x).length=sz) (hx:Y7 xs i=some x):(fl f xs).drop (i.toNat * sz)=f x++fl f (xs.drop (i.toNat+1)):=by
 have h1:=Zo4 hx
 have hi:=Zge hx
 have:xs[i.toNat]=x:=by rw [List.getElem?_eq_getElem hi] at h1;injection h1
 rw [Zp4 hf,List.drop_eq_getElem_cons hi,Zaz,this]
theorem Ks (ht:T t=some ti) (hf:∀ x,(f x).length=sz) (ho:off+ti.size≤sz) (h0:0 < ti.size) (hx:Y7 xs i=some x):Zjh T t (fl f xs) (i.toNat * sz+off)=if ti.k.isAgg then some (.agg (((f x).drop off).take ti.size)) else (f x)[off]? := by
 unfold Zjh
 simp only [ht]
 have hi:=Zge hx
 have hd:=Z2f hf hx
 split
 ·rw [if_pos ?_,← List.drop_drop,hd,List.drop_append_of_le_length (by rw [hf x];omega),List.take_append_of_le_length (by rw [List.length_drop,hf x];omega)]
  rw [Jo hf]
  have:(i.toNat+1) * sz≤xs.length * sz:=Nat.mul_le_mul_right _ hi
  rw [Nat.succ_mul] at this
  omega
 rw [← List.getElem?_drop,hd,List.getElem?_append_left (by rw [hf x];omega)]
theorem Zam (ht:T t=some ti) (hf:∀ x,(f x).length=sz) (ho:ti.size≤sz) (h0:0 < ti.size) (hx:Y7 xs i=some x):Zjh T t (fl f xs) (i.toNat * sz)=if ti.k.isAgg then some (.agg ((f x).take ti.size)) else (f x)[0]? := by
 have:=Ks (off:=0) ht hf (by omega) h0 hx
 rw [Nat.add_zero,List.drop_zero] at this
 exact this
theorem Z8j {y:α} {cs:List G} (hf:∀ x,(f x).length=sz) (ho:off+cs.length≤sz) (hx:Y7 xs i=some x) (hy:f y=(f x).take off++cs++(f x).drop (off+cs.length)):Ke (fl f xs) cs (i.toNat * sz+off)=some (fl f (Zf0 xs i y)):=by
 have hi:=Zge hx
 have h1:=Zo4 hx
 have hxe:xs[i.toNat]=x:=by rw [List.getElem?_eq_getElem hi] at h1;injection h1
 have hl:(i.toNat+1) * sz≤xs.length * sz:=Nat.mul_le_mul_right _ hi
 rw [Nat.succ_mul] at hl
 have hd:=Z2f hf hx
 have e:=Ydf (x:=y) hf hi
 unfold Ke Zf0
 rw [if_pos (by rw [Jo hf];omega),← e,hy]
 congr 1
 have e1:(fl f xs).take (i.toNat * sz+off)=(fl f xs).take (i.toNat * sz)++(f x).take off:=by
  rw [List.take_add,hd,List.take_append_of_le_length (by rw [hf x];omega)]
 have e2:(fl f xs).drop (i.toNat * sz+off+cs.length)=(f x).drop (off+cs.length)++(fl f xs).drop (i.toNat * sz+sz):=by
  rw [Nat.add_assoc,← List.drop_drop,hd,List.drop_append_of_le_length (by rw [hf x];omega)]
  congr 1
  have e3:i.toNat * sz+sz=(i.toNat+1) * sz:=by rw [Nat.succ_mul]
  rw [e3,Zp4 hf]
 rw [e1,e2]
 simp only [List.append_assoc]
theorem Z70 {O O':Objs} {n':Nat} {zs:List G} {z:α} (h:wkl O O' n' zs (f z)):∀ k:Nat,wkl O O' n' (List.replicate k zs).flatten (fl f (List.replicate k z))
 | 0=>by simp [wkl,fl]
 | k+1=>by
  rw [List.replicate_succ,List.replicate_succ,List.flatten_cons,Zaz]
  exact Ybh _ _ _ _ h (Z70 h k)
end
theorem Zls {P:Program} {t e:TypeId} {α:Type} {f:α→List G} {wf:α→Prop} {sz:Nat} (n:Nat) (ht:P.underlying t=some (.slice e)) (hc:P.cellsOf e=sz) (hs:0 < sz) (hf:∀ x,(f x).length=sz) (he:∀ m,m < n→Ul P e f wf m) :
  Ul P t (eL f) (fun xs=>xs.length * P.bytesOf e≤reachBytes∧∀ x∈xs,wf x) n:=by
 cases n with
 | zero=>exact Zfi
 | succ n=>exact Ztk ht hc hs hf (he n (Nat.lt_succ_self n))
theorem Zqq:Zgl .any = .any:=rfl
theorem Zqu (v:Value):Zgl (.val v) = .val v:=rfl
theorem Zqp (cs:List G):Zgl (.agg cs) = .agg cs:=rfl
theorem Zqt (cs:List G):Zgl (.tup cs) = .tup cs:=rfl
theorem Zt7 (n:Nat) (cs:List G):Zgl (.sl n cs) = .sl n cs:=rfl
theorem Zt4 (cs:List G) (k:Nat):Zgl (.ip cs k) = .ip cs k:=rfl
theorem Zqs (i n:Nat):Zgl (.row i n) = .row i n:=rfl
theorem Zt6 (i a n:Nat):Zgl (.rs i a n) = .rs i a n:=rfl
theorem Zt5 (i n a:Nat):Zgl (.rp i n a) = .rp i n a:=rfl
theorem Zqr (i a:Nat):Zgl (.ref i a) = .ref i a:=rfl
theorem Zt2 (f k:Nat) (cs:List G):Zgl (.fn f k cs) = .fn f k cs:=rfl
theorem Zn3 (b:Bool) (g:G):Zgl (.when b g)=g:=rfl
section
variable {O:Objs} {T:V3} {op:BinOp} {t:TypeId}
theorem Zs0:Qq O .any=True:=rfl
theorem Zs4 (v:Value):Qq O (.val v)=True:=rfl
theorem Zsz (cs:List G):Qq O (.agg cs)=True:=rfl
theorem Zs3 (cs:List G):Qq O (.tup cs)=True:=rfl
theorem Zxi (n:Nat) (cs:List G):Qq O (.sl n cs)=True:=rfl
theorem Zxf (cs:List G) (k:Nat):Qq O (.ip cs k)=True:=rfl
theorem Zxd (f k:Nat) (cs:List G):Qq O (.fn f k cs)=True:=rfl
theorem Zp9 (b:Bool) (g:G):Qq O (.when b g)=True:=rfl
theorem Zs1 (i a:Nat):Qq O (.ref i a)=∃ o,O i=some o∧o.row=false:=rfl
theorem Zxh (i a n:Nat):Qq O (.rs i a n)=∃ o,O i=some o∧o.row=false:=rfl
theorem Zxg (i k a:Nat):Qq O (.rp i k a)=∃ o,O i=some o∧o.row=true∧k=o.n:=rfl
theorem Zs2 (i k:Nat):Qq O (.row i k)=∃ o,O i=some o∧o.row=true∧k=o.n:=rfl
theorem Zw1 (k k':IntKind) (a b:Int):Zwl T op t (.val (.int k a)) (.val (.int k' b))=(Z3k op k a k' b).map fun r=>(r.1,.val r.2):=rfl
theorem Zw0 (a b:Bool):Zwl T op t (.val (.bool a)) (.val (.bool b))=match Yq T t,op with
  | some .bool,.eql=>some (True,.val (.bool (a == b)))
  | some .bool,.neq=>some (True,.val (.bool (a != b)))
  | _,_=>none:=rfl
theorem Zw6 (a b:ByteArray):Zwl T op t (.val (.string a)) (.val (.string b))=match op with
  | .eql=>some (True,.val (.bool (a.toList == b.toList)))
  | .neq=>some (True,.val (.bool (!(a.toList == b.toList))))
  | _=>none:=rfl
theorem Zw4:Zwl T op t (.val (.pointer none)) (.val (.pointer none))=match Yq T t,op with
  | some (.ptr _),.eql=>some (True,.val (.bool true))
  | some (.ptr _),.neq=>some (True,.val (.bool false))
  | _,_=>none:=rfl
theorem Zw5 (i a:Nat):Zwl T op t (.ref i a) (.val (.pointer none))=match Yq T t,op with
  | some (.ptr _),.eql=>some (True,.val (.bool false))
  | some (.ptr _),.neq=>some (True,.val (.bool true))
  | _,_=>none:=rfl
theorem Zw2 (cs:List G) (k:Nat):Zwl T op t (.ip cs k) (.val (.pointer none))=match Yq T t,op with
  | some (.ptr _),.eql=>some (True,.val (.bool false))
  | some (.ptr _),.neq=>some (True,.val (.bool true))
  | _,_=>none:=rfl
theorem Zw3 (a:Option Addr) (l c l' c':Nat):Zwl T op t (.val (.slice a l c)) (.val (.slice none l' c'))=match Yq T t,op with
  | some (.slice _),.eql=>some (True,.val (.bool a.isNone))
  | some (.slice _),.neq=>some (True,.val (.bool (!a.isNone)))
  | _,_=>none:=rfl
theorem Zwz (xs ys:List G):Zwl T op t (.agg xs) (.agg ys)=match T t,Zwm T 6 t xs ys with
  | some i,some b=>if i.k.isAgg=true∧i.eq=true then (match op with
   | .eql=>some (True,.val (.bool b))
   | .neq=>some (True,.val (.bool (!b)))
   | _=>none) else none
  | _,_=>none:=rfl
end
theorem Zxq:G.one .any=false:=rfl
theorem Zxu (v:Value):G.one (.val v)=v.oneCell':=rfl
theorem Zxp (cs:List G):G.one (.agg cs)=false:=rfl
theorem Zxt (cs:List G):G.one (.tup cs)=false:=rfl
theorem Zti (b:Bool) (g:G):G.one (.when b g)=false:=rfl
theorem Z4f (n:Nat) (cs:List G):G.one (.sl n cs)=true:=rfl
theorem Z4c (cs:List G) (k:Nat):G.one (.ip cs k)=true:=rfl
theorem Zxs (i n:Nat):G.one (.row i n)=true:=rfl
theorem Z4e (i a n:Nat):G.one (.rs i a n)=true:=rfl
theorem Z4d (i n a:Nat):G.one (.rp i n a)=true:=rfl
theorem Zxr (i a:Nat):G.one (.ref i a)=true:=rfl
theorem Z4b (f k:Nat) (cs:List G):G.one (.fn f k cs)=true:=rfl
theorem Zku (cs:List G):Jg (.agg cs)=some cs:=rfl
theorem Zkz (v:Value):Jg (.val v)=match v with
  | .agg vs=>some (vs.toList.map .val)
  | v=>if G.one (.val v)=true then some [.val v] else none:=by cases v <;> rfl
theorem Zmz (n:Nat) (cs:List G):Jg (.sl n cs)=some [.sl n cs]:=rfl
theorem Zmw (cs:List G) (k:Nat):Jg (.ip cs k)=some [.ip cs k]:=rfl
theorem Zkx (i n:Nat):Jg (.row i n)=some [.row i n]:=rfl
theorem Zmy (i a n:Nat):Jg (.rs i a n)=some [.rs i a n]:=rfl
theorem Zmx (i n a:Nat):Jg (.rp i n a)=some [.rp i n a]:=rfl
theorem Zkw (i a:Nat):Jg (.ref i a)=some [.ref i a]:=rfl
theorem Zmu (f k:Nat) (cs:List G):Jg (.fn f k cs)=some [.fn f k cs]:=rfl
theorem Zkv:Jg .any=none:=rfl
theorem Zky (cs:List G):Jg (.tup cs)=none:=rfl
theorem Zjp (b:Bool) (g:G):Jg (.when b g)=none:=rfl
def gP {α:Type} (f:α→List G):Option α→G
 | none => .val (.pointer none)
 | some x => .ip (f x) 0
def eP {α:Type} (f:α→List G) (x:Option α):List G:=[gP f x]
section
variable {α:Type} {f:α→List G} {T:V3} {t e:TypeId} {O O':Objs} {n':Nat}
theorem Zwx:gP f none = .val (.pointer none):=rfl
theorem Zwy (x:α):gP f (some x) = .ip (f x) 0:=rfl
theorem Zt3 (x:Option α):Zgl (gP f x)=gP f x:=by cases x <;> rfl
theorem Z57 (x:Option α) (l:List G):wok (gP f x::l)=wok l:=by cases x <;> rfl
theorem Zh3 (x:Option α):(gP f x).one=true:=by cases x <;> rfl
theorem Zmv (x:Option α):Jg (gP f x)=some [gP f x]:=by cases x <;> rfl
theorem Vw (h:∀ x,G.pures (f x)=true) (x:Option α):(gP f x).pure=true:=by
 cases x with
 | none=>rfl
 | some x=>simp only [gP,G.pure,h]
theorem Zfm (h:∀ x,G.pures (f x)=true) (k:Nat) (x:Option α):(gP f x).under k=true:=Znv k _ (Vw h x)
theorem Zrl (h:∀ x,G.pures (f x)=true) (x:Option α):wk O O' n' (gP f x) (gP f x)=True:=eq_true (Z53 _ (Zfm h _ x))
theorem Zxe (x:Option α):Qq O (gP f x)=True:=by cases x <;> rfl
end
theorem Z08 {α:Type}:∀ {l:List α} {k:Nat} {x:α},l[k]? = some x→l.set k x=l
 | [],k,x,h=>by simp at h
 | y::l,0,x,h=>by simp at h;simp [h]
 | y::l,k+1,x,h=>by simp only [List.set_cons_succ,Z08 (l:=l) (k:=k) (by simpa using h)]
section
variable {P:Program} {w:World} {O:Objs} {m:Hands} {n:Nat}
theorem Z8r (hM:Mem w O m n) {p:Nat} {q q':GObj} (hp:O p=some q) (h1:q'.row=q.row) (h2:q'.ty=q.ty) (h3:q'.sz=q.sz) (h4:q'.n=q.n) (hc:∀ vs,G.reps w O m n q.cells vs→G.reps w O m n q'.cells vs) :
  Mem w (O.upd p (some q')) m n∧Ext w O m n w (O.upd p (some q')) m n:=by
 have hpn:p < n:=by
  rcases Nat.lt_or_ge p n with h | h
  ·exact h
  rw [hM.fresh p h] at hp;cases hp
 have hold:∀ i o',(O.upd p (some q')) i=some o'→∃ o,O i=some o∧o'.row=o.row∧o'.n=o.n:=fun i o' hi=>by
  by_cases e:i=p
  ·subst e;rw [Yo] at hi;injection hi with hi;subst hi;exact ⟨q,hp,h1,h4⟩
  rw [Xf _ _ e] at hi;exact ⟨o',hi,rfl,rfl⟩
 have hrep:∀ (gs:List G) (vs:List Value),G.reps w O m n gs vs→G.reps w (O.upd p (some q')) m n gs vs:=fun gs vs h=>Zfk hold gs vs h (Zdg gs vs h)
 refine ⟨⟨fun i hi => ?_,fun i o' hi => ?_,fun i j oi oj b hi hj => ?_⟩,⟨rfl,rfl,rfl,Nat.le_refl _,Nat.le_refl _,fun b _ ho=>⟨rfl,fun ⟨i,o',hi,hb⟩ => ?_⟩,fun i _ o' hi => ?_⟩⟩
 ·rw [Xf _ _ (by omega)];exact hM.fresh i hi
 ·by_cases e:i=p
  ·subst e
   rw [Yo] at hi
   injection hi with hi
   subst hi
   obtain ⟨vs,hr,hx⟩:=hM.obj i q hp
   refine ⟨vs,hrep _ _ (hc vs hr),?_⟩
   rw [h1,h2,h3,h4];exact hx
  rw [Xf _ _ e] at hi
  obtain ⟨vs,hr,hx⟩:=hM.obj i o' hi
  exact ⟨vs,hrep _ _ hr,hx⟩
 ·obtain ⟨o1,e1,_⟩:=hold i oi hi
  obtain ⟨o2,e2,_⟩:=hold j oj hj
  exact hM.apart i j o1 o2 b e1 e2
 ·obtain ⟨o1,e1,_⟩:=hold i o' hi
  exact ho ⟨i,o1,e1,hb⟩
 obtain ⟨o1,e1,e2,e3⟩:=hold i o' hi
 exact ⟨o1,e1,e2,Nat.le_of_eq e3.symm,fun _=>rfl⟩
theorem Zco {ba:Nat} {E:Env} {p k:Nat} {q:GObj} (t:TypeId) (sz:Nat) (hp:O p=some q) (hk:q.cells[k]? = some (.val (.slice none 0 0))) (hb:ba≤n) :
  Fit2 ba E O n E ((O.upd n (some ⟨true,t,sz,0,[]⟩)).upd p (some ⟨q.row,q.ty,q.sz,q.n,q.cells.set k (.row n 0)⟩)) (n+1):=fun w m a hM hE=>by
 have hpn:p≠n:=fun e=>by rw [e,hM.fresh n (Nat.le_refl _)] at hp;cases hp
 obtain ⟨h1,h2⟩:=Zu6 hM t sz
 have hp':(O.upd n (some ⟨true,t,sz,0,[]⟩)) p=some q:=by rw [Xf _ _ hpn];exact hp
 obtain ⟨h3,h4⟩:=Z8r (q':=⟨q.row,q.ty,q.sz,q.n,q.cells.set k (.row n 0)⟩) h1 hp' rfl rfl rfl rfl (fun vs hr=>by
  obtain ⟨v,hv,hrv⟩:=Zqk _ _ hr k _ hk
  simp only [G.rep] at hrv
  subst hrv
  have:=Z02 q.cells vs k (.row n 0) (.slice none 0 0) hr (Zu7 t sz)
  rw [Z08 hv] at this
  exact this)
 have hX:=h2.trans h4
 exact ⟨_,h3,hE.ext hX,hX.base hb⟩
end
end Go.Proofs.Ytfjkcekfifobpaa
