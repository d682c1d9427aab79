/- Part H17 of the ghost memory: lemmas and contracts used by the proofs of this seat's laws; each theorem bears its own conditions. -/
import Derived.Test.YtjeakjakgocoaaaH16
import Derived.WalkKit
import Derived.WalkSpells
import Derived.WalkLawsBesides
import Derived.Lib.Hide
import Derived.BigQuiet
import Derived.StillTailTactics
import Derived.Deep.RegionHeld3
import Derived.Deep.AppendLies
import Derived.Laws.CopyOwn
import Derived.Deep.DeepCutAuto
import Derived.Deep.QuietTactic
import Derived.Maps.AppendAt
import Derived.Great.BuildSlice
import Derived.Laws.StructEq
import Derived.IntWalk
import Derived.ProofKit
import Derived.OpenShut
import Derived.SizedLaws
import Derived.Deep.Slices
namespace Go.Proofs.Ytjeakjakgocoaaa
open Go.RowKit
set_option linter.unusedVariables false
set_option linter.unusedSimpArgs false
section
variable {α:Type} {xs:List α} {i:Int} {f:α→List G} {T:Qy} {t:TypeId} {ti:TyI} {x:α} {sz off:Nat}
theorem Zv2 (hf:∀ x,(f x).length=sz) (hx:Xw xs i=some x):(fl f xs).drop (i.toNat * sz)=f x++fl f (xs.drop (i.toNat+1)):=by
 have h1:=Zgr hx
 have hi:=Zbp hx
 have:xs[i.toNat]=x:=by rw [List.getElem?_eq_getElem hi] at h1;injection h1
 rw [Zgm hf,List.drop_eq_getElem_cons hi,Kg,this]
theorem Q7 (ht:T t=some ti) (hf:∀ x,(f x).length=sz) (ho:off+ti.size≤sz) (h0:0 < ti.size) (hx:Xw xs i=some x):Za2 T t (fl f xs) (i.toNat * sz+off)=if ti.k.isAgg then some (.agg (((f x).drop off).take ti.size)) else (f x)[off]? := by
 unfold Za2
 simp only [ht]
 have hi:=Zbp hx
 have hd:=Zv2 hf hx
 split
 ·rw [if_pos ?_,← List.drop_drop,hd,List.drop_append_of_le_length (by rw [hf x];omega),List.take_append_of_le_length (by rw [List.length_drop,hf x];omega)]
  rw [Qq hf]
  have:(i.toNat+1) * sz≤xs.length * sz:=Nat.mul_le_mul_right _ hi
  rw [Nat.succ_mul] at this
  omega
 rw [← List.getElem?_drop,hd,List.getElem?_append_left (by rw [hf x];omega)]
theorem Zjy (ht:T t=some ti) (hf:∀ x,(f x).length=sz) (ho:ti.size≤sz) (h0:0 < ti.size) (hx:Xw xs i=some x):Za2 T t (fl f xs) (i.toNat * sz)=if ti.k.isAgg then some (.agg ((f x).take ti.size)) else (f x)[0]? := by
 have:=Q7 (off:=0) ht hf (by omega) h0 hx
 rw [Nat.add_zero,List.drop_zero] at this
 exact this
theorem Zrw {O O':Objs} {n':Nat} {zs:List G} {z:α} (h:Vd O O' n' zs (f z)):∀ k:Nat,Vd O O' n' (List.replicate k zs).flatten (fl f (List.replicate k z))
 | 0=>by simp [Vd,fl]
 | k+1=>by
  rw [List.replicate_succ,List.replicate_succ,List.flatten_cons,Kg]
  exact Zvq _ _ _ _ h (Zrw h k)
end
theorem Zcx {P:Program} {t e:TypeId} {α:Type} {f:α→List G} {wf:α→Prop} {sz:Nat} (n:Nat) (ht:P.underlying t=some (.slice e)) (hc:P.cellsOf e=sz) (hs:0 < sz) (hf:∀ x,(f x).length=sz) (he:∀ m,m < n→Qz P e f wf m) :
  Qz P t (eL f) (fun xs=>xs.length * P.bytesOf e≤reachBytes∧∀ x∈xs,wf x) n:=by
 cases n with
 | zero=>exact Vk
 | succ n=>exact Zg2 ht hc hs hf (he n (Nat.lt_succ_self n))
theorem Zmw:V4 .any = .any:=rfl
theorem Zm0 (v:Value):V4 (.val v) = .val v:=rfl
theorem Zmv (cs:List G):V4 (.agg cs) = .agg cs:=rfl
theorem Zmz (cs:List G):V4 (.tup cs) = .tup cs:=rfl
theorem Zp7 (n:Nat) (cs:List G):V4 (.sl n cs) = .sl n cs:=rfl
theorem Zp4 (cs:List G) (k:Nat):V4 (.ip cs k) = .ip cs k:=rfl
theorem Zmy (i n:Nat):V4 (.row i n) = .row i n:=rfl
theorem Zp6 (i a n:Nat):V4 (.rs i a n) = .rs i a n:=rfl
theorem Zp5 (i n a:Nat):V4 (.rp i n a) = .rp i n a:=rfl
theorem Zmx (i a:Nat):V4 (.ref i a) = .ref i a:=rfl
theorem Zp2 (f k:Nat) (cs:List G):V4 (.fn f k cs) = .fn f k cs:=rfl
theorem Zk1 (b:Bool) (g:G):V4 (.when b g)=g:=rfl
section
variable {O:Objs} {T:Qy} {op:BinOp} {t:TypeId}
theorem Zpb:Y4 O .any=True:=rfl
theorem Zpf (v:Value):Y4 O (.val v)=True:=rfl
theorem Zpa (cs:List G):Y4 O (.agg cs)=True:=rfl
theorem Zpe (cs:List G):Y4 O (.tup cs)=True:=rfl
theorem Ztx (n:Nat) (cs:List G):Y4 O (.sl n cs)=True:=rfl
theorem Ztu (cs:List G) (k:Nat):Y4 O (.ip cs k)=True:=rfl
theorem Zts (f k:Nat) (cs:List G):Y4 O (.fn f k cs)=True:=rfl
theorem Zmc (b:Bool) (g:G):Y4 O (.when b g)=True:=rfl
theorem Zpc (i a:Nat):Y4 O (.ref i a)=∃ o,O i=some o∧o.row=false:=rfl
theorem Ztw (i a n:Nat):Y4 O (.rs i a n)=∃ o,O i=some o∧o.row=false:=rfl
theorem Ztv (i k a:Nat):Y4 O (.rp i k a)=∃ o,O i=some o∧o.row=true∧k=o.n:=rfl
theorem Zpd (i k:Nat):Y4 O (.row i k)=∃ o,O i=some o∧o.row=true∧k=o.n:=rfl
theorem Ztd (k k':IntKind) (a b:Int):Zix T op t (.val (.int k a)) (.val (.int k' b))=(Zr9 op k a k' b).map fun r=>(r.1,.val r.2):=rfl
theorem Ztc (a b:Bool):Zix T op t (.val (.bool a)) (.val (.bool b))=match Zs T t,op with
  | some .bool,.eql=>some (True,.val (.bool (a == b)))
  | some .bool,.neq=>some (True,.val (.bool (a != b)))
  | _,_=>none:=rfl
theorem Zti (a b:ByteArray):Zix T op t (.val (.string a)) (.val (.string b))=match op with
  | .eql=>some (True,.val (.bool (a.toList == b.toList)))
  | .neq=>some (True,.val (.bool (!(a.toList == b.toList))))
  | _=>none:=rfl
theorem Ztg:Zix T op t (.val (.pointer none)) (.val (.pointer none))=match Zs T t,op with
  | some (.ptr _),.eql=>some (True,.val (.bool true))
  | some (.ptr _),.neq=>some (True,.val (.bool false))
  | _,_=>none:=rfl
theorem Zth (i a:Nat):Zix T op t (.ref i a) (.val (.pointer none))=match Zs T t,op with
  | some (.ptr _),.eql=>some (True,.val (.bool false))
  | some (.ptr _),.neq=>some (True,.val (.bool true))
  | _,_=>none:=rfl
theorem Zte (cs:List G) (k:Nat):Zix T op t (.ip cs k) (.val (.pointer none))=match Zs T t,op with
  | some (.ptr _),.eql=>some (True,.val (.bool false))
  | some (.ptr _),.neq=>some (True,.val (.bool true))
  | _,_=>none:=rfl
theorem Ztf (a:Option Addr) (l c l' c':Nat):Zix T op t (.val (.slice a l c)) (.val (.slice none l' c'))=match Zs T t,op with
  | some (.slice _),.eql=>some (True,.val (.bool a.isNone))
  | some (.slice _),.neq=>some (True,.val (.bool (!a.isNone)))
  | _,_=>none:=rfl
theorem Ztb (xs ys:List G):Zix T op t (.agg xs) (.agg ys)=match T t,Zlm T 6 t xs ys with
  | some i,some b=>if i.k.isAgg=true∧i.eq=true then (match op with
   | .eql=>some (True,.val (.bool b))
   | .neq=>some (True,.val (.bool (!b)))
   | _=>none) else none
  | _,_=>none:=rfl
end
theorem Zt5:G.one .any=false:=rfl
theorem Zua (v:Value):G.one (.val v)=v.oneCell':=rfl
theorem Zt4 (cs:List G):G.one (.agg cs)=false:=rfl
theorem Zt9 (cs:List G):G.one (.tup cs)=false:=rfl
theorem Zpk (b:Bool) (g:G):G.one (.when b g)=false:=rfl
theorem Zx0 (n:Nat) (cs:List G):G.one (.sl n cs)=true:=rfl
theorem Zxx (cs:List G) (k:Nat):G.one (.ip cs k)=true:=rfl
theorem Zt8 (i n:Nat):G.one (.row i n)=true:=rfl
theorem Zxz (i a n:Nat):G.one (.rs i a n)=true:=rfl
theorem Zxy (i n a:Nat):G.one (.rp i n a)=true:=rfl
theorem Zt6 (i a:Nat):G.one (.ref i a)=true:=rfl
theorem Zxw (f k:Nat) (cs:List G):G.one (.fn f k cs)=true:=rfl
theorem Zh6 (cs:List G):Xk (.agg cs)=some cs:=rfl
theorem Zib (v:Value):Xk (.val v)=match v with
  | .agg vs=>some (vs.toList.map .val)
  | v=>if G.one (.val v)=true then some [.val v] else none:=by cases v <;> rfl
theorem Zjq (n:Nat) (cs:List G):Xk (.sl n cs)=some [.sl n cs]:=rfl
theorem Zjn (cs:List G) (k:Nat):Xk (.ip cs k)=some [.ip cs k]:=rfl
theorem Zh9 (i n:Nat):Xk (.row i n)=some [.row i n]:=rfl
theorem Zjp (i a n:Nat):Xk (.rs i a n)=some [.rs i a n]:=rfl
theorem Zjo (i n a:Nat):Xk (.rp i n a)=some [.rp i n a]:=rfl
theorem Zh8 (i a:Nat):Xk (.ref i a)=some [.ref i a]:=rfl
theorem Zjl (f k:Nat) (cs:List G):Xk (.fn f k cs)=some [.fn f k cs]:=rfl
theorem Zh7:Xk .any=none:=rfl
theorem Zia (cs:List G):Xk (.tup cs)=none:=rfl
theorem Zgk (b:Bool) (g:G):Xk (.when b g)=none:=rfl
def gP {α:Type} (f:α→List G):Option α→G
 | none => .val (.pointer none)
 | some x => .ip (f x) 0
def eP {α:Type} (f:α→List G) (x:Option α):List G:=[gP f x]
section
variable {α:Type} {f:α→List G} {T:Qy} {t e:TypeId} {O O':Objs} {n':Nat}
theorem Zs9:gP f none = .val (.pointer none):=rfl
theorem Zta (x:α):gP f (some x) = .ip (f x) 0:=rfl
theorem Zp3 (x:Option α):V4 (gP f x)=gP f x:=by cases x <;> rfl
theorem Z0j (x:Option α) (l:List G):wok (gP f x::l)=wok l:=by cases x <;> rfl
theorem Zcw (x:Option α):(gP f x).one=true:=by cases x <;> rfl
theorem Zjm (x:Option α):Xk (gP f x)=some [gP f x]:=by cases x <;> rfl
theorem Jv (h:∀ x,G.pures (f x)=true) (x:Option α):(gP f x).pure=true:=by
 cases x with
 | none=>rfl
 | some x=>simp only [gP,G.pure,h]
theorem Gc (h:∀ x,G.pures (f x)=true) (k:Nat) (x:Option α):(gP f x).under k=true:=Zd0 k _ (Jv h x)
theorem Ziw (h:∀ x,G.pures (f x)=true) (x:Option α):wk O O' n' (gP f x) (gP f x)=True:=eq_true (Zob _ (Gc h _ x))
theorem Ztt (x:Option α):Y4 O (gP f x)=True:=by cases x <;> rfl
end
theorem Zp1 {α:Type}:∀ {l:List α} {k:Nat} {x:α},l[k]? = some x→l.set k x=l
 | [],k,x,h=>by simp at h
 | y::l,0,x,h=>by simp at h;simp [h]
 | y::l,k+1,x,h=>by simp only [List.set_cons_succ,Zp1 (l:=l) (k:=k) (by simpa using h)]
section
variable {P:Program} {w:World} {O:Objs} {m:Hands} {n:Nat}
theorem Zsm (hM:Mem w O m n) {p:Nat} {q q':GObj} (hp:O p=some q) (h1:q'.row=q.row) (h2:q'.ty=q.ty) (h3:q'.sz=q.sz) (h4:q'.n=q.n) (hc:∀ vs,G.reps w O m n q.cells vs→G.reps w O m n q'.cells vs) :
  Mem w (O.upd p (some q')) m n∧Ext w O m n w (O.upd p (some q')) m n:=by
 have hpn:p < n:=by
  rcases Nat.lt_or_ge p n with h | h
  ·exact h
  rw [hM.fresh p h] at hp;cases hp
 have hold:∀ i o',(O.upd p (some q')) i=some o'→∃ o,O i=some o∧o'.row=o.row∧o'.n=o.n:=fun i o' hi=>by
  by_cases e:i=p
  ·subst e;rw [Qe] at hi;injection hi with hi;subst hi;exact ⟨q,hp,h1,h4⟩
  rw [Ke _ _ e] at hi;exact ⟨o',hi,rfl,rfl⟩
 have hrep:∀ (gs:List G) (vs:List Value),G.reps w O m n gs vs→G.reps w (O.upd p (some q')) m n gs vs:=fun gs vs h=>Ug hold gs vs h (K6 gs vs h)
 refine ⟨⟨fun i hi => ?_,fun i o' hi => ?_,fun i j oi oj b hi hj => ?_⟩,⟨rfl,rfl,rfl,Nat.le_refl _,Nat.le_refl _,fun b _ ho=>⟨rfl,fun ⟨i,o',hi,hb⟩ => ?_⟩,fun i _ o' hi => ?_⟩⟩
 ·rw [Ke _ _ (by omega)];exact hM.fresh i hi
 ·by_cases e:i=p
  ·subst e
   rw [Qe] at hi
   injection hi with hi
   subst hi
   obtain ⟨vs,hr,hx⟩:=hM.obj i q hp
   refine ⟨vs,hrep _ _ (hc vs hr),?_⟩
   rw [h1,h2,h3,h4];exact hx
  rw [Ke _ _ e] at hi
  obtain ⟨vs,hr,hx⟩:=hM.obj i o' hi
  exact ⟨vs,hrep _ _ hr,hx⟩
 ·obtain ⟨o1,e1,_⟩:=hold i oi hi
  obtain ⟨o2,e2,_⟩:=hold j oj hj
  exact hM.apart i j o1 o2 b e1 e2
 ·obtain ⟨o1,e1,_⟩:=hold i o' hi
  exact ho ⟨i,o1,e1,hb⟩
 obtain ⟨o1,e1,e2,e3⟩:=hold i o' hi
 exact ⟨o1,e1,e2,Nat.le_of_eq e3.symm,fun _=>rfl⟩
theorem Zjh {ba:Nat} {E:Env} {p k:Nat} {q:GObj} (t:TypeId) (sz:Nat) (hp:O p=some q) (hk:q.cells[k]? = some (.val (.slice none 0 0))) (hb:ba≤n) :
  Fit2 ba E O n E ((O.upd n (some ⟨true,t,sz,0,[]⟩)).upd p (some ⟨q.row,q.ty,q.sz,q.n,q.cells.set k (.row n 0)⟩)) (n+1):=fun w m a hM hE=>by
 have hpn:p≠n:=fun e=>by rw [e,hM.fresh n (Nat.le_refl _)] at hp;cases hp
 obtain ⟨h1,h2⟩:=Zl2 hM t sz
 have hp':(O.upd n (some ⟨true,t,sz,0,[]⟩)) p=some q:=by rw [Ke _ _ hpn];exact hp
 obtain ⟨h3,h4⟩:=Zsm (q':=⟨q.row,q.ty,q.sz,q.n,q.cells.set k (.row n 0)⟩) h1 hp' rfl rfl rfl rfl (fun vs hr=>by
  obtain ⟨v,hv,hrv⟩:=Zg8 _ _ hr k _ hk
  simp only [G.rep] at hrv
  subst hrv
  have:=Zpw q.cells vs k (.row n 0) (.slice none 0 0) hr (Zl3 t sz)
  rw [Zp1 hv] at this
  exact this)
 have hX:=h2.trans h4
 exact ⟨_,h3,hE.ext hX,hX.base hb⟩
end
end Go.Proofs.Ytjeakjakgocoaaa
