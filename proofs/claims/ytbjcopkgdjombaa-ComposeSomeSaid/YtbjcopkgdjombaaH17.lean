/- Part H17 of the ghost memory: lemmas and contracts used by the proofs of this seat's laws; each theorem bears its own conditions. -/
import Derived.Test.YtbjcopkgdjombaaH16
import Derived.WalkKit
import Derived.WalkSpells
import Derived.WalkLawsBesides
import Derived.Lib.Hide
import Derived.BigQuiet
import Derived.StillTailTactics
import Derived.Deep.RegionHeld3
import Derived.Deep.AppendLies
import Derived.Laws.CopyOwn
import Derived.Deep.DeepCutAuto
import Derived.Deep.QuietTactic
import Derived.Maps.AppendAt
import Derived.Great.BuildSlice
import Derived.Laws.StructEq
import Derived.IntWalk
import Derived.ProofKit
import Derived.OpenShut
import Derived.SizedLaws
import Derived.Deep.Slices
namespace Go.Proofs.Ytbjcopkgdjombaa
open Go.RowKit
set_option linter.unusedVariables false
set_option linter.unusedSimpArgs false
section
variable {α:Type} {xs:List α} {i:Int} {f:α→List G} {T:Uw} {t:TypeId} {ti:TyI} {x:α} {sz off:Nat}
theorem Ybg (hf:∀ x,(f x).length=sz) (hx:Xr xs i=some x):(fl f xs).drop (i.toNat * sz)=f x++fl f (xs.drop (i.toNat+1)):=by
 have h1:=Zsj hx
 have hi:=Zhy hx
 have:xs[i.toNat]=x:=by rw [List.getElem?_eq_getElem hi] at h1;injection h1
 rw [Zse hf,List.drop_eq_getElem_cons hi,Zbo,this]
theorem Zhg (ht:T t=some ti) (hf:∀ x,(f x).length=sz) (ho:off+ti.size≤sz) (h0:0 < ti.size) (hx:Xr xs i=some x):Zj9 T t (fl f xs) (i.toNat * sz+off)=if ti.k.isAgg then some (.agg (((f x).drop off).take ti.size)) else (f x)[off]? := by
 unfold Zj9
 simp only [ht]
 have hi:=Zhy hx
 have hd:=Ybg hf hx
 split
 ·rw [if_pos ?_,← List.drop_drop,hd,List.drop_append_of_le_length (by rw [hf x];omega),List.take_append_of_le_length (by rw [List.length_drop,hf x];omega)]
  rw [Kl hf]
  have:(i.toNat+1) * sz≤xs.length * sz:=Nat.mul_le_mul_right _ hi
  rw [Nat.succ_mul] at this
  omega
 rw [← List.getElem?_drop,hd,List.getElem?_append_left (by rw [hf x];omega)]
theorem Zqu (ht:T t=some ti) (hf:∀ x,(f x).length=sz) (ho:ti.size≤sz) (h0:0 < ti.size) (hx:Xr xs i=some x):Zj9 T t (fl f xs) (i.toNat * sz)=if ti.k.isAgg then some (.agg ((f x).take ti.size)) else (f x)[0]? := by
 have:=Zhg (off:=0) ht hf (by omega) h0 hx
 rw [Nat.add_zero,List.drop_zero] at this
 exact this
theorem Z6z {O O':Objs} {n':Nat} {zs:List G} {z:α} (h:wkl O O' n' zs (f z)):∀ k:Nat,wkl O O' n' (List.replicate k zs).flatten (fl f (List.replicate k z))
 | 0=>by simp [wkl,fl]
 | k+1=>by
  rw [List.replicate_succ,List.replicate_succ,List.flatten_cons,Zbo]
  exact Ya1 _ _ _ _ h (Z6z h k)
end
theorem Zl6 {P:Program} {t e:TypeId} {α:Type} {f:α→List G} {wf:α→Prop} {sz:Nat} (n:Nat) (ht:P.underlying t=some (.slice e)) (hc:P.cellsOf e=sz) (hs:0 < sz) (hf:∀ x,(f x).length=sz) (he:∀ m,m < n→Gb P e f wf m) :
  Gb P t (eL f) (fun xs=>xs.length * P.bytesOf e≤reachBytes∧∀ x∈xs,wf x) n:=by
 cases n with
 | zero=>exact Zfd
 | succ n=>exact Zsx ht hc hs hf (he n (Nat.lt_succ_self n))
theorem Zut:Zgv .any = .any:=rfl
theorem Zux (v:Value):Zgv (.val v) = .val v:=rfl
theorem Zus (cs:List G):Zgv (.agg cs) = .agg cs:=rfl
theorem Zuw (cs:List G):Zgv (.tup cs) = .tup cs:=rfl
theorem Zy4 (n:Nat) (cs:List G):Zgv (.sl n cs) = .sl n cs:=rfl
theorem Zy1 (cs:List G) (k:Nat):Zgv (.ip cs k) = .ip cs k:=rfl
theorem Zuv (i n:Nat):Zgv (.row i n) = .row i n:=rfl
theorem Zy3 (i a n:Nat):Zgv (.rs i a n) = .rs i a n:=rfl
theorem Zy2 (i n a:Nat):Zgv (.rp i n a) = .rp i n a:=rfl
theorem Zuu (i a:Nat):Zgv (.ref i a) = .ref i a:=rfl
theorem Zyz (f k:Nat) (cs:List G):Zgv (.fn f k cs) = .fn f k cs:=rfl
theorem Zrp (b:Bool) (g:G):Zgv (.when b g)=g:=rfl
section
variable {O:Objs} {T:Uw} {op:BinOp} {t:TypeId}
theorem Zxr:Jh O .any=True:=rfl
theorem Zxv (v:Value):Jh O (.val v)=True:=rfl
theorem Zxq (cs:List G):Jh O (.agg cs)=True:=rfl
theorem Zxu (cs:List G):Jh O (.tup cs)=True:=rfl
theorem Z2y (n:Nat) (cs:List G):Jh O (.sl n cs)=True:=rfl
theorem Z2v (cs:List G) (k:Nat):Jh O (.ip cs k)=True:=rfl
theorem Z2t (f k:Nat) (cs:List G):Jh O (.fn f k cs)=True:=rfl
theorem Zt1 (b:Bool) (g:G):Jh O (.when b g)=True:=rfl
theorem Zxs (i a:Nat):Jh O (.ref i a)=∃ o,O i=some o∧o.row=false:=rfl
theorem Z2x (i a n:Nat):Jh O (.rs i a n)=∃ o,O i=some o∧o.row=false:=rfl
theorem Z2w (i k a:Nat):Jh O (.rp i k a)=∃ o,O i=some o∧o.row=true∧k=o.n:=rfl
theorem Zxt (i k:Nat):Jh O (.row i k)=∃ o,O i=some o∧o.row=true∧k=o.n:=rfl
theorem Z14 (k k':IntKind) (a b:Int):Zvj T op t (.val (.int k a)) (.val (.int k' b))=(Z5m op k a k' b).map fun r=>(r.1,.val r.2):=rfl
theorem Z13 (a b:Bool):Zvj T op t (.val (.bool a)) (.val (.bool b))=match Y8 T t,op with
  | some .bool,.eql=>some (True,.val (.bool (a == b)))
  | some .bool,.neq=>some (True,.val (.bool (a != b)))
  | _,_=>none:=rfl
theorem Z19 (a b:ByteArray):Zvj T op t (.val (.string a)) (.val (.string b))=match op with
  | .eql=>some (True,.val (.bool (a.toList == b.toList)))
  | .neq=>some (True,.val (.bool (!(a.toList == b.toList))))
  | _=>none:=rfl
theorem Z17:Zvj T op t (.val (.pointer none)) (.val (.pointer none))=match Y8 T t,op with
  | some (.ptr _),.eql=>some (True,.val (.bool true))
  | some (.ptr _),.neq=>some (True,.val (.bool false))
  | _,_=>none:=rfl
theorem Z18 (i a:Nat):Zvj T op t (.ref i a) (.val (.pointer none))=match Y8 T t,op with
  | some (.ptr _),.eql=>some (True,.val (.bool false))
  | some (.ptr _),.neq=>some (True,.val (.bool true))
  | _,_=>none:=rfl
theorem Z15 (cs:List G) (k:Nat):Zvj T op t (.ip cs k) (.val (.pointer none))=match Y8 T t,op with
  | some (.ptr _),.eql=>some (True,.val (.bool false))
  | some (.ptr _),.neq=>some (True,.val (.bool true))
  | _,_=>none:=rfl
theorem Z16 (a:Option Addr) (l c l' c':Nat):Zvj T op t (.val (.slice a l c)) (.val (.slice none l' c'))=match Y8 T t,op with
  | some (.slice _),.eql=>some (True,.val (.bool a.isNone))
  | some (.slice _),.neq=>some (True,.val (.bool (!a.isNone)))
  | _,_=>none:=rfl
theorem Z12 (xs ys:List G):Zvj T op t (.agg xs) (.agg ys)=match T t,Zxd T 6 t xs ys with
  | some i,some b=>if i.k.isAgg=true∧i.eq=true then (match op with
   | .eql=>some (True,.val (.bool b))
   | .neq=>some (True,.val (.bool (!b)))
   | _=>none) else none
  | _,_=>none:=rfl
end
theorem Z28:G.one .any=false:=rfl
theorem Z3c (v:Value):G.one (.val v)=v.oneCell':=rfl
theorem Z27 (cs:List G):G.one (.agg cs)=false:=rfl
theorem Z3b (cs:List G):G.one (.tup cs)=false:=rfl
theorem Zyd (b:Bool) (g:G):G.one (.when b g)=false:=rfl
theorem Z7z (n:Nat) (cs:List G):G.one (.sl n cs)=true:=rfl
theorem Z7w (cs:List G) (k:Nat):G.one (.ip cs k)=true:=rfl
theorem Z3a (i n:Nat):G.one (.row i n)=true:=rfl
theorem Z7y (i a n:Nat):G.one (.rs i a n)=true:=rfl
theorem Z7x (i n a:Nat):G.one (.rp i n a)=true:=rfl
theorem Z29 (i a:Nat):G.one (.ref i a)=true:=rfl
theorem Z7v (f k:Nat) (cs:List G):G.one (.fn f k cs)=true:=rfl
theorem Zn5 (cs:List G):Kg (.agg cs)=some cs:=rfl
theorem Zoa (v:Value):Kg (.val v)=match v with
  | .agg vs=>some (vs.toList.map .val)
  | v=>if G.one (.val v)=true then some [.val v] else none:=by cases v <;> rfl
theorem Zqn (n:Nat) (cs:List G):Kg (.sl n cs)=some [.sl n cs]:=rfl
theorem Zqk (cs:List G) (k:Nat):Kg (.ip cs k)=some [.ip cs k]:=rfl
theorem Zn8 (i n:Nat):Kg (.row i n)=some [.row i n]:=rfl
theorem Zqm (i a n:Nat):Kg (.rs i a n)=some [.rs i a n]:=rfl
theorem Zql (i n a:Nat):Kg (.rp i n a)=some [.rp i n a]:=rfl
theorem Zn7 (i a:Nat):Kg (.ref i a)=some [.ref i a]:=rfl
theorem Zqi (f k:Nat) (cs:List G):Kg (.fn f k cs)=some [.fn f k cs]:=rfl
theorem Zn6:Kg .any=none:=rfl
theorem Zn9 (cs:List G):Kg (.tup cs)=none:=rfl
theorem Zmx (b:Bool) (g:G):Kg (.when b g)=none:=rfl
def gP {α:Type} (f:α→List G):Option α→G
 | none => .val (.pointer none)
 | some x => .ip (f x) 0
def eP {α:Type} (f:α→List G) (x:Option α):List G:=[gP f x]
section
variable {α:Type} {f:α→List G} {T:Uw} {t e:TypeId} {O O':Objs} {n':Nat}
theorem Z1z:gP f none = .val (.pointer none):=rfl
theorem Z10 (x:α):gP f (some x) = .ip (f x) 0:=rfl
theorem Zy0 (x:Option α):Zgv (gP f x)=gP f x:=by cases x <;> rfl
theorem Z9f (x:Option α) (l:List G):wok (gP f x::l)=wok l:=by cases x <;> rfl
theorem Zia (x:Option α):(gP f x).one=true:=by cases x <;> rfl
theorem Zqj (x:Option α):Kg (gP f x)=some [gP f x]:=by cases x <;> rfl
theorem Vw (h:∀ x,G.pures (f x)=true) (x:Option α):(gP f x).pure=true:=by
 cases x with
 | none=>rfl
 | some x=>simp only [gP,G.pure,h]
theorem Zds (h:∀ x,G.pures (f x)=true) (k:Nat) (x:Option α):(gP f x).under k=true:=Znc k _ (Vw h x)
theorem Zpf (h:∀ x,G.pures (f x)=true) (x:Option α):wk O O' n' (gP f x) (gP f x)=True:=eq_true (Z4z _ (Zds h _ x))
theorem Z2u (x:Option α):Jh O (gP f x)=True:=by cases x <;> rfl
end
theorem Zyv {α:Type}:∀ {l:List α} {k:Nat} {x:α},l[k]? = some x→l.set k x=l
 | [],k,x,h=>by simp at h
 | y::l,0,x,h=>by simp at h;simp [h]
 | y::l,k+1,x,h=>by simp only [List.set_cons_succ,Zyv (l:=l) (k:=k) (by simpa using h)]
section
variable {P:Program} {w:World} {O:Objs} {m:Hands} {n:Nat}
theorem Z74 (hM:Mem w O m n) {p:Nat} {q q':GObj} (hp:O p=some q) (h1:q'.row=q.row) (h2:q'.ty=q.ty) (h3:q'.sz=q.sz) (h4:q'.n=q.n) (hc:∀ vs,G.reps w O m n q.cells vs→G.reps w O m n q'.cells vs) :
  Mem w (O.upd p (some q')) m n∧Ext w O m n w (O.upd p (some q')) m n:=by
 have hpn:p < n:=by
  rcases Nat.lt_or_ge p n with h | h
  ·exact h
  rw [hM.fresh p h] at hp;cases hp
 have hold:∀ i o',(O.upd p (some q')) i=some o'→∃ o,O i=some o∧o'.row=o.row∧o'.n=o.n:=fun i o' hi=>by
  by_cases e:i=p
  ·subst e;rw [Yk] at hi;injection hi with hi;subst hi;exact ⟨q,hp,h1,h4⟩
  rw [Xw _ _ e] at hi;exact ⟨o',hi,rfl,rfl⟩
 have hrep:∀ (gs:List G) (vs:List Value),G.reps w O m n gs vs→G.reps w (O.upd p (some q')) m n gs vs:=fun gs vs h=>Zfk hold gs vs h (Zci gs vs h)
 refine ⟨⟨fun i hi => ?_,fun i o' hi => ?_,fun i j oi oj b hi hj => ?_⟩,⟨rfl,rfl,rfl,Nat.le_refl _,Nat.le_refl _,fun b _ ho=>⟨rfl,fun ⟨i,o',hi,hb⟩ => ?_⟩,fun i _ o' hi => ?_⟩⟩
 ·rw [Xw _ _ (by omega)];exact hM.fresh i hi
 ·by_cases e:i=p
  ·subst e
   rw [Yk] at hi
   injection hi with hi
   subst hi
   obtain ⟨vs,hr,hx⟩:=hM.obj i q hp
   refine ⟨vs,hrep _ _ (hc vs hr),?_⟩
   rw [h1,h2,h3,h4];exact hx
  rw [Xw _ _ e] at hi
  obtain ⟨vs,hr,hx⟩:=hM.obj i o' hi
  exact ⟨vs,hrep _ _ hr,hx⟩
 ·obtain ⟨o1,e1,_⟩:=hold i oi hi
  obtain ⟨o2,e2,_⟩:=hold j oj hj
  exact hM.apart i j o1 o2 b e1 e2
 ·obtain ⟨o1,e1,_⟩:=hold i o' hi
  exact ho ⟨i,o1,e1,hb⟩
 obtain ⟨o1,e1,e2,e3⟩:=hold i o' hi
 exact ⟨o1,e1,e2,Nat.le_of_eq e3.symm,fun _=>rfl⟩
theorem Vg {ba:Nat} {E:Env} {p k:Nat} {q:GObj} (t:TypeId) (sz:Nat) (hp:O p=some q) (hk:q.cells[k]? = some (.val (.slice none 0 0))) (hb:ba≤n) :
  Fit2 ba E O n E ((O.upd n (some ⟨true,t,sz,0,[]⟩)).upd p (some ⟨q.row,q.ty,q.sz,q.n,q.cells.set k (.row n 0)⟩)) (n+1):=fun w m a hM hE=>by
 have hpn:p≠n:=fun e=>by rw [e,hM.fresh n (Nat.le_refl _)] at hp;cases hp
 obtain ⟨h1,h2⟩:=Z0o hM t sz
 have hp':(O.upd n (some ⟨true,t,sz,0,[]⟩)) p=some q:=by rw [Xw _ _ hpn];exact hp
 obtain ⟨h3,h4⟩:=Z74 (q':=⟨q.row,q.ty,q.sz,q.n,q.cells.set k (.row n 0)⟩) h1 hp' rfl rfl rfl rfl (fun vs hr=>by
  obtain ⟨v,hv,hrv⟩:=Zpt _ _ hr k _ hk
  simp only [G.rep] at hrv
  subst hrv
  have:=Zyq q.cells vs k (.row n 0) (.slice none 0 0) hr (Z0p t sz)
  rw [Zyv hv] at this
  exact this)
 have hX:=h2.trans h4
 exact ⟨_,h3,hE.ext hX,hX.base hb⟩
end
end Go.Proofs.Ytbjcopkgdjombaa
