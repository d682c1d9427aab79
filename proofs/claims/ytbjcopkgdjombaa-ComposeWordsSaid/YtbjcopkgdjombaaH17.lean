/- Part H17 of the ghost memory: lemmas and contracts used by the proofs of this seat's laws; each theorem bears its own conditions. -/
import Derived.Test.YtbjcopkgdjombaaH16
import Derived.WalkKit
import Derived.WalkSpells
import Derived.WalkLawsBesides
import Derived.Lib.Hide
import Derived.BigQuiet
import Derived.StillTailTactics
import Derived.Deep.RegionHeld3
import Derived.Deep.AppendLies
import Derived.Laws.CopyOwn
import Derived.Deep.DeepCutAuto
import Derived.Deep.QuietTactic
import Derived.Maps.AppendAt
import Derived.Great.BuildSlice
import Derived.Laws.StructEq
import Derived.IntWalk
import Derived.ProofKit
import Derived.OpenShut
import Derived.SizedLaws
import Derived.Deep.Slices
namespace Go.Proofs.Ytbjcopkgdjombaa
open Go.RowKit
set_option linter.unusedVariables false
set_option linter.unusedSimpArgs false
section
variable {α:Type} {xs:List α} {i:Int} {f:α→List G} {T:Kk} {t:TypeId} {ti:TyI} {x:α} {sz off:Nat}
theorem Z1f (hf:∀ x,(f x).length=sz) (hx:Xi xs i=some x):(fl f xs).drop (i.toNat * sz)=f x++fl f (xs.drop (i.toNat+1)):=by
 have h1:=Zpu hx
 have hi:=Uq hx
 have:xs[i.toNat]=x:=by rw [List.getElem?_eq_getElem hi] at h1;injection h1
 rw [Zlw hf,List.drop_eq_getElem_cons hi,V6,this]
theorem Zsv (ht:T t=some ti) (hf:∀ x,(f x).length=sz) (ho:off+ti.size≤sz) (h0:0 < ti.size) (hx:Xi xs i=some x):Zfg T t (fl f xs) (i.toNat * sz+off)=if ti.k.isAgg then some (.agg (((f x).drop off).take ti.size)) else (f x)[off]? := by
 unfold Zfg
 simp only [ht]
 have hi:=Uq hx
 have hd:=Z1f hf hx
 split
 ·rw [if_pos ?_,← List.drop_drop,hd,List.drop_append_of_le_length (by rw [hf x];omega),List.take_append_of_le_length (by rw [List.length_drop,hf x];omega)]
  rw [J4 hf]
  have:(i.toNat+1) * sz≤xs.length * sz:=Nat.mul_le_mul_right _ hi
  rw [Nat.succ_mul] at this
  omega
 rw [← List.getElem?_drop,hd,List.getElem?_append_left (by rw [hf x];omega)]
theorem Zks (ht:T t=some ti) (hf:∀ x,(f x).length=sz) (ho:ti.size≤sz) (h0:0 < ti.size) (hx:Xi xs i=some x):Zfg T t (fl f xs) (i.toNat * sz)=if ti.k.isAgg then some (.agg ((f x).take ti.size)) else (f x)[0]? := by
 have:=Zsv (off:=0) ht hf (by omega) h0 hx
 rw [Nat.add_zero,List.drop_zero] at this
 exact this
theorem Zxr {O O':Objs} {n':Nat} {zs:List G} {z:α} (h:Uy O O' n' zs (f z)):∀ k:Nat,Uy O O' n' (List.replicate k zs).flatten (fl f (List.replicate k z))
 | 0=>by simp [Uy,fl]
 | k+1=>by
  rw [List.replicate_succ,List.replicate_succ,List.flatten_cons,V6]
  exact Z03 _ _ _ _ h (Zxr h k)
end
theorem Znw:Zck .any = .any:=rfl
theorem Zn0 (v:Value):Zck (.val v) = .val v:=rfl
theorem Znv (cs:List G):Zck (.agg cs) = .agg cs:=rfl
theorem Znz (cs:List G):Zck (.tup cs) = .tup cs:=rfl
theorem Zrc (n:Nat) (cs:List G):Zck (.sl n cs) = .sl n cs:=rfl
theorem Zq9 (cs:List G) (k:Nat):Zck (.ip cs k) = .ip cs k:=rfl
theorem Zny (i n:Nat):Zck (.row i n) = .row i n:=rfl
theorem Zrb (i a n:Nat):Zck (.rs i a n) = .rs i a n:=rfl
theorem Zra (i n a:Nat):Zck (.rp i n a) = .rp i n a:=rfl
theorem Znx (i a:Nat):Zck (.ref i a) = .ref i a:=rfl
theorem Zq7 (f k:Nat) (cs:List G):Zck (.fn f k cs) = .fn f k cs:=rfl
theorem Zlk (b:Bool) (g:G):Zck (.when b g)=g:=rfl
section
variable {O:Objs} {T:Kk} {op:BinOp} {t:TypeId}
theorem Zp5:Qa O .any=True:=rfl
theorem Zp9 (v:Value):Qa O (.val v)=True:=rfl
theorem Zp4 (cs:List G):Qa O (.agg cs)=True:=rfl
theorem Zp8 (cs:List G):Qa O (.tup cs)=True:=rfl
theorem Zue (n:Nat) (cs:List G):Qa O (.sl n cs)=True:=rfl
theorem Zub (cs:List G) (k:Nat):Qa O (.ip cs k)=True:=rfl
theorem Zt9 (f k:Nat) (cs:List G):Qa O (.fn f k cs)=True:=rfl
theorem Znb (b:Bool) (g:G):Qa O (.when b g)=True:=rfl
theorem Zp6 (i a:Nat):Qa O (.ref i a)=∃ o,O i=some o∧o.row=false:=rfl
theorem Zud (i a n:Nat):Qa O (.rs i a n)=∃ o,O i=some o∧o.row=false:=rfl
theorem Zuc (i k a:Nat):Qa O (.rp i k a)=∃ o,O i=some o∧o.row=true∧k=o.n:=rfl
theorem Zp7 (i k:Nat):Qa O (.row i k)=∃ o,O i=some o∧o.row=true∧k=o.n:=rfl
theorem Zto (k k':IntKind) (a b:Int):Zoj T op t (.val (.int k a)) (.val (.int k' b))=(Zwn op k a k' b).map fun r=>(r.1,.val r.2):=rfl
theorem Ztn (a b:Bool):Zoj T op t (.val (.bool a)) (.val (.bool b))=match Yp T t,op with
  | some .bool,.eql=>some (True,.val (.bool (a == b)))
  | some .bool,.neq=>some (True,.val (.bool (a != b)))
  | _,_=>none:=rfl
theorem Ztt (a b:ByteArray):Zoj T op t (.val (.string a)) (.val (.string b))=match op with
  | .eql=>some (True,.val (.bool (a.toList == b.toList)))
  | .neq=>some (True,.val (.bool (!(a.toList == b.toList))))
  | _=>none:=rfl
theorem Ztr:Zoj T op t (.val (.pointer none)) (.val (.pointer none))=match Yp T t,op with
  | some (.ptr _),.eql=>some (True,.val (.bool true))
  | some (.ptr _),.neq=>some (True,.val (.bool false))
  | _,_=>none:=rfl
theorem Zts (i a:Nat):Zoj T op t (.ref i a) (.val (.pointer none))=match Yp T t,op with
  | some (.ptr _),.eql=>some (True,.val (.bool false))
  | some (.ptr _),.neq=>some (True,.val (.bool true))
  | _,_=>none:=rfl
theorem Ztp (cs:List G) (k:Nat):Zoj T op t (.ip cs k) (.val (.pointer none))=match Yp T t,op with
  | some (.ptr _),.eql=>some (True,.val (.bool false))
  | some (.ptr _),.neq=>some (True,.val (.bool true))
  | _,_=>none:=rfl
theorem Ztq (a:Option Addr) (l c l' c':Nat):Zoj T op t (.val (.slice a l c)) (.val (.slice none l' c'))=match Yp T t,op with
  | some (.slice _),.eql=>some (True,.val (.bool a.isNone))
  | some (.slice _),.neq=>some (True,.val (.bool (!a.isNone)))
  | _,_=>none:=rfl
theorem Ztm (xs ys:List G):Zoj T op t (.agg xs) (.agg ys)=match T t,Zpt T 6 t xs ys with
  | some i,some b=>if i.k.isAgg=true∧i.eq=true then (match op with
   | .eql=>some (True,.val (.bool b))
   | .neq=>some (True,.val (.bool (!b)))
   | _=>none) else none
  | _,_=>none:=rfl
end
theorem Zuo:G.one .any=false:=rfl
theorem Zus (v:Value):G.one (.val v)=v.oneCell':=rfl
theorem Zun (cs:List G):G.one (.agg cs)=false:=rfl
theorem Zur (cs:List G):G.one (.tup cs)=false:=rfl
theorem Zqn (b:Bool) (g:G):G.one (.when b g)=false:=rfl
theorem Zyl (n:Nat) (cs:List G):G.one (.sl n cs)=true:=rfl
theorem Zyi (cs:List G) (k:Nat):G.one (.ip cs k)=true:=rfl
theorem Zuq (i n:Nat):G.one (.row i n)=true:=rfl
theorem Zyk (i a n:Nat):G.one (.rs i a n)=true:=rfl
theorem Zyj (i n a:Nat):G.one (.rp i n a)=true:=rfl
theorem Zup (i a:Nat):G.one (.ref i a)=true:=rfl
theorem Zyh (f k:Nat) (cs:List G):G.one (.fn f k cs)=true:=rfl
theorem Ziu (cs:List G):Qr (.agg cs)=some cs:=rfl
theorem Ziz (v:Value):Qr (.val v)=match v with
  | .agg vs=>some (vs.toList.map .val)
  | v=>if G.one (.val v)=true then some [.val v] else none:=by cases v <;> rfl
theorem Zkl (n:Nat) (cs:List G):Qr (.sl n cs)=some [.sl n cs]:=rfl
theorem Zki (cs:List G) (k:Nat):Qr (.ip cs k)=some [.ip cs k]:=rfl
theorem Zix (i n:Nat):Qr (.row i n)=some [.row i n]:=rfl
theorem Zkk (i a n:Nat):Qr (.rs i a n)=some [.rs i a n]:=rfl
theorem Zkj (i n a:Nat):Qr (.rp i n a)=some [.rp i n a]:=rfl
theorem Ziw (i a:Nat):Qr (.ref i a)=some [.ref i a]:=rfl
theorem Zkg (f k:Nat) (cs:List G):Qr (.fn f k cs)=some [.fn f k cs]:=rfl
theorem Ziv:Qr .any=none:=rfl
theorem Ziy (cs:List G):Qr (.tup cs)=none:=rfl
theorem Zh0 (b:Bool) (g:G):Qr (.when b g)=none:=rfl
def gP {α:Type} (f:α→List G):Option α→G
 | none => .val (.pointer none)
 | some x => .ip (f x) 0
def eP {α:Type} (f:α→List G) (x:Option α):List G:=[gP f x]
section
variable {α:Type} {f:α→List G} {T:Kk} {t e:TypeId} {O O':Objs} {n':Nat}
theorem Ztj:gP f none = .val (.pointer none):=rfl
theorem Ztk (x:α):gP f (some x) = .ip (f x) 0:=rfl
theorem Zq8 (x:Option α):Zck (gP f x)=gP f x:=by cases x <;> rfl
theorem Zzz (x:Option α) (l:List G):wok (gP f x::l)=wok l:=by cases x <;> rfl
theorem Zd8 (x:Option α):(gP f x).one=true:=by cases x <;> rfl
theorem Zkh (x:Option α):Qr (gP f x)=some [gP f x]:=by cases x <;> rfl
theorem Kf (h:∀ x,G.pures (f x)=true) (x:Option α):(gP f x).pure=true:=by
 cases x with
 | none=>rfl
 | some x=>simp only [gP,G.pure,h]
theorem Zbd (h:∀ x,G.pures (f x)=true) (k:Nat) (x:Option α):(gP f x).under k=true:=Zh9 k _ (Kf h x)
theorem Zkf (h:∀ x,G.pures (f x)=true) (x:Option α):wk O O' n' (gP f x) (gP f x)=True:=eq_true (Zv3 _ (Zbd h _ x))
theorem Zua (x:Option α):Qa O (gP f x)=True:=by cases x <;> rfl
end
theorem Zq4 {α:Type}:∀ {l:List α} {k:Nat} {x:α},l[k]? = some x→l.set k x=l
 | [],k,x,h=>by simp at h
 | y::l,0,x,h=>by simp at h;simp [h]
 | y::l,k+1,x,h=>by simp only [List.set_cons_succ,Zq4 (l:=l) (k:=k) (by simpa using h)]
section
variable {P:Program} {w:World} {O:Objs} {m:Hands} {n:Nat}
theorem Zyo (hM:Mem w O m n) {p:Nat} {q q':GObj} (hp:O p=some q) (h1:q'.row=q.row) (h2:q'.ty=q.ty) (h3:q'.sz=q.sz) (h4:q'.n=q.n) (hc:∀ vs,G.reps w O m n q.cells vs→G.reps w O m n q'.cells vs) :
  Mem w (O.upd p (some q')) m n∧Ext w O m n w (O.upd p (some q')) m n:=by
 have hpn:p < n:=by
  rcases Nat.lt_or_ge p n with h | h
  ·exact h
  rw [hM.fresh p h] at hp;cases hp
 have hold:∀ i o',(O.upd p (some q')) i=some o'→∃ o,O i=some o∧o'.row=o.row∧o'.n=o.n:=fun i o' hi=>by
  by_cases e:i=p
  ·subst e;rw [Yg] at hi;injection hi with hi;subst hi;exact ⟨q,hp,h1,h4⟩
  rw [Y3 _ _ e] at hi;exact ⟨o',hi,rfl,rfl⟩
 have hrep:∀ (gs:List G) (vs:List Value),G.reps w O m n gs vs→G.reps w (O.upd p (some q')) m n gs vs:=fun gs vs h=>Za7 hold gs vs h (Uw gs vs h)
 refine ⟨⟨fun i hi => ?_,fun i o' hi => ?_,fun i j oi oj b hi hj => ?_⟩,⟨rfl,rfl,rfl,Nat.le_refl _,Nat.le_refl _,fun b _ ho=>⟨rfl,fun ⟨i,o',hi,hb⟩ => ?_⟩,fun i _ o' hi => ?_⟩⟩
 ·rw [Y3 _ _ (by omega)];exact hM.fresh i hi
 ·by_cases e:i=p
  ·subst e
   rw [Yg] at hi
   injection hi with hi
   subst hi
   obtain ⟨vs,hr,hx⟩:=hM.obj i q hp
   refine ⟨vs,hrep _ _ (hc vs hr),?_⟩
   rw [h1,h2,h3,h4];exact hx
  rw [Y3 _ _ e] at hi
  obtain ⟨vs,hr,hx⟩:=hM.obj i o' hi
  exact ⟨vs,hrep _ _ hr,hx⟩
 ·obtain ⟨o1,e1,_⟩:=hold i oi hi
  obtain ⟨o2,e2,_⟩:=hold j oj hj
  exact hM.apart i j o1 o2 b e1 e2
 ·obtain ⟨o1,e1,_⟩:=hold i o' hi
  exact ho ⟨i,o1,e1,hb⟩
 obtain ⟨o1,e1,e2,e3⟩:=hold i o' hi
 exact ⟨o1,e1,e2,Nat.le_of_eq e3.symm,fun _=>rfl⟩
theorem Vb {ba:Nat} {E:Env} {p k:Nat} {q:GObj} (t:TypeId) (sz:Nat) (hp:O p=some q) (hk:q.cells[k]? = some (.val (.slice none 0 0))) (hb:ba≤n) :
  Fit2 ba E O n E ((O.upd n (some ⟨true,t,sz,0,[]⟩)).upd p (some ⟨q.row,q.ty,q.sz,q.n,q.cells.set k (.row n 0)⟩)) (n+1):=fun w m a hM hE=>by
 have hpn:p≠n:=fun e=>by rw [e,hM.fresh n (Nat.le_refl _)] at hp;cases hp
 obtain ⟨h1,h2⟩:=Zsj hM t sz
 have hp':(O.upd n (some ⟨true,t,sz,0,[]⟩)) p=some q:=by rw [Y3 _ _ hpn];exact hp
 obtain ⟨h3,h4⟩:=Zyo (q':=⟨q.row,q.ty,q.sz,q.n,q.cells.set k (.row n 0)⟩) h1 hp' rfl rfl rfl rfl (fun vs hr=>by
  obtain ⟨v,hv,hrv⟩:=Zj3 _ _ hr k _ hk
  simp only [G.rep] at hrv
  subst hrv
  have:=Zqx q.cells vs k (.row n 0) (.slice none 0 0) hr (Zsk t sz)
  rw [Zq4 hv] at this
  exact this)
 have hX:=h2.trans h4
 exact ⟨_,h3,hE.ext hX,hX.base hb⟩
end
end Go.Proofs.Ytbjcopkgdjombaa
