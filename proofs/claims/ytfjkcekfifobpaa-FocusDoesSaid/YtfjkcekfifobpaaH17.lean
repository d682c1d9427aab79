/- Part H17 of the ghost memory: lemmas and contracts used by the proofs of this seat's laws; each theorem bears its own conditions. -/
import Derived.Test.YtfjkcekfifobpaaH16
import Derived.WalkKit
import Derived.WalkSpells
import Derived.WalkLawsBesides
import Derived.Lib.Hide
import Derived.BigQuiet
import Derived.StillTailTactics
import Derived.Deep.RegionHeld3
import Derived.Deep.AppendLies
import Derived.Laws.CopyOwn
import Derived.Deep.DeepCutAuto
import Derived.Deep.QuietTactic
import Derived.Maps.AppendAt
import Derived.Great.BuildSlice
import Derived.Laws.StructEq
import Derived.IntWalk
import Derived.ProofKit
import Derived.OpenShut
import Derived.SizedLaws
import Derived.Deep.Slices
namespace Go.Proofs.Ytfjkcekfifobpaa
open Go.RowKit
set_option linter.unusedVariables false
set_option linter.unusedSimpArgs false
section
variable {α:Type} {xs:List α} {i:Int} {f:α→List G} {T:Vr} {t:TypeId} {ti:TyI} {x:α} {sz off:Nat}
theorem Z8n (hf:∀ x,(f x).length=sz) (hx:Xp xs i=some x):(fl f xs).drop (i.toNat * sz)=f x++fl f (xs.drop (i.toNat+1)):=by
 have h1:=Zp0 hx
 have hi:=Zfe hx
 have:xs[i.toNat]=x:=by rw [List.getElem?_eq_getElem hi] at h1;injection h1
 rw [Zpv hf,List.drop_eq_getElem_cons hi,Gz,this]
theorem Zb9 (ht:T t=some ti) (hf:∀ x,(f x).length=sz) (ho:off+ti.size≤sz) (h0:0 < ti.size) (hx:Xp xs i=some x):Zhr T t (fl f xs) (i.toNat * sz+off)=if ti.k.isAgg then some (.agg (((f x).drop off).take ti.size)) else (f x)[off]? := by
 unfold Zhr
 simp only [ht]
 have hi:=Zfe hx
 have hd:=Z8n hf hx
 split
 ·rw [if_pos ?_,← List.drop_drop,hd,List.drop_append_of_le_length (by rw [hf x];omega),List.take_append_of_le_length (by rw [List.length_drop,hf x];omega)]
  rw [Jo hf]
  have:(i.toNat+1) * sz≤xs.length * sz:=Nat.mul_le_mul_right _ hi
  rw [Nat.succ_mul] at this
  omega
 rw [← List.getElem?_drop,hd,List.getElem?_append_left (by rw [hf x];omega)]
theorem Zuh (ht:T t=some ti) (hf:∀ x,(f x).length=sz) (ho:ti.size≤sz) (h0:0 < ti.size) (hx:Xp xs i=some x):Zhr T t (fl f xs) (i.toNat * sz)=if ti.k.isAgg then some (.agg ((f x).take ti.size)) else (f x)[0]? := by
 have:=Zb9 (off:=0) ht hf (by omega) h0 hx
 rw [Nat.add_zero,List.drop_zero] at this
 exact this
theorem Z4i {O O':Objs} {n':Nat} {zs:List G} {z:α} (h:wkl O O' n' zs (f z)):∀ k:Nat,wkl O O' n' (List.replicate k zs).flatten (fl f (List.replicate k z))
 | 0=>by simp [wkl,fl]
 | k+1=>by
  rw [List.replicate_succ,List.replicate_succ,List.flatten_cons,Gz]
  exact Z8c _ _ _ _ h (Z4i h k)
end
theorem Zju {P:Program} {t e:TypeId} {α:Type} {f:α→List G} {wf:α→Prop} {sz:Nat} (n:Nat) (ht:P.underlying t=some (.slice e)) (hc:P.cellsOf e=sz) (hs:0 < sz) (hf:∀ x,(f x).length=sz) (he:∀ m,m < n→Vu P e f wf m) :
  Vu P t (eL f) (fun xs=>xs.length * P.bytesOf e≤reachBytes∧∀ x∈xs,wf x) n:=by
 cases n with
 | zero=>exact Zdb
 | succ n=>exact Zqd ht hc hs hf (he n (Nat.lt_succ_self n))
theorem Zr3:Zef .any = .any:=rfl
theorem Zr7 (v:Value):Zef (.val v) = .val v:=rfl
theorem Zr2 (cs:List G):Zef (.agg cs) = .agg cs:=rfl
theorem Zr6 (cs:List G):Zef (.tup cs) = .tup cs:=rfl
theorem Zwb (n:Nat) (cs:List G):Zef (.sl n cs) = .sl n cs:=rfl
theorem Zv8 (cs:List G) (k:Nat):Zef (.ip cs k) = .ip cs k:=rfl
theorem Zr5 (i n:Nat):Zef (.row i n) = .row i n:=rfl
theorem Zwa (i a n:Nat):Zef (.rs i a n) = .rs i a n:=rfl
theorem Zv9 (i n a:Nat):Zef (.rp i n a) = .rp i n a:=rfl
theorem Zr4 (i a:Nat):Zef (.ref i a) = .ref i a:=rfl
theorem Zv6 (f k:Nat) (cs:List G):Zef (.fn f k cs) = .fn f k cs:=rfl
theorem Zpc (b:Bool) (g:G):Zef (.when b g)=g:=rfl
section
variable {O:Objs} {T:Vr} {op:BinOp} {t:TypeId}
theorem Zuu:Qd O .any=True:=rfl
theorem Zuy (v:Value):Qd O (.val v)=True:=rfl
theorem Zut (cs:List G):Qd O (.agg cs)=True:=rfl
theorem Zux (cs:List G):Qd O (.tup cs)=True:=rfl
theorem Z0e (n:Nat) (cs:List G):Qd O (.sl n cs)=True:=rfl
theorem Z0b (cs:List G) (k:Nat):Qd O (.ip cs k)=True:=rfl
theorem Zz9 (f k:Nat) (cs:List G):Qd O (.fn f k cs)=True:=rfl
theorem Zrg (b:Bool) (g:G):Qd O (.when b g)=True:=rfl
theorem Zuv (i a:Nat):Qd O (.ref i a)=∃ o,O i=some o∧o.row=false:=rfl
theorem Z0d (i a n:Nat):Qd O (.rs i a n)=∃ o,O i=some o∧o.row=false:=rfl
theorem Z0c (i k a:Nat):Qd O (.rp i k a)=∃ o,O i=some o∧o.row=true∧k=o.n:=rfl
theorem Zuw (i k:Nat):Qd O (.row i k)=∃ o,O i=some o∧o.row=true∧k=o.n:=rfl
theorem Zzg (k k':IntKind) (a b:Int):Zst T op t (.val (.int k a)) (.val (.int k' b))=(Z27 op k a k' b).map fun r=>(r.1,.val r.2):=rfl
theorem Zzf (a b:Bool):Zst T op t (.val (.bool a)) (.val (.bool b))=match Yi T t,op with
  | some .bool,.eql=>some (True,.val (.bool (a == b)))
  | some .bool,.neq=>some (True,.val (.bool (a != b)))
  | _,_=>none:=rfl
theorem Zzl (a b:ByteArray):Zst T op t (.val (.string a)) (.val (.string b))=match op with
  | .eql=>some (True,.val (.bool (a.toList == b.toList)))
  | .neq=>some (True,.val (.bool (!(a.toList == b.toList))))
  | _=>none:=rfl
theorem Zzj:Zst T op t (.val (.pointer none)) (.val (.pointer none))=match Yi T t,op with
  | some (.ptr _),.eql=>some (True,.val (.bool true))
  | some (.ptr _),.neq=>some (True,.val (.bool false))
  | _,_=>none:=rfl
theorem Zzk (i a:Nat):Zst T op t (.ref i a) (.val (.pointer none))=match Yi T t,op with
  | some (.ptr _),.eql=>some (True,.val (.bool false))
  | some (.ptr _),.neq=>some (True,.val (.bool true))
  | _,_=>none:=rfl
theorem Zzh (cs:List G) (k:Nat):Zst T op t (.ip cs k) (.val (.pointer none))=match Yi T t,op with
  | some (.ptr _),.eql=>some (True,.val (.bool false))
  | some (.ptr _),.neq=>some (True,.val (.bool true))
  | _,_=>none:=rfl
theorem Zzi (a:Option Addr) (l c l' c':Nat):Zst T op t (.val (.slice a l c)) (.val (.slice none l' c'))=match Yi T t,op with
  | some (.slice _),.eql=>some (True,.val (.bool a.isNone))
  | some (.slice _),.neq=>some (True,.val (.bool (!a.isNone)))
  | _,_=>none:=rfl
theorem Zze (xs ys:List G):Zst T op t (.agg xs) (.agg ys)=match T t,Zuc T 6 t xs ys with
  | some i,some b=>if i.k.isAgg=true∧i.eq=true then (match op with
   | .eql=>some (True,.val (.bool b))
   | .neq=>some (True,.val (.bool (!b)))
   | _=>none) else none
  | _,_=>none:=rfl
end
theorem Z0n:G.one .any=false:=rfl
theorem Z0r (v:Value):G.one (.val v)=v.oneCell':=rfl
theorem Z0m (cs:List G):G.one (.agg cs)=false:=rfl
theorem Z0q (cs:List G):G.one (.tup cs)=false:=rfl
theorem Zvg (b:Bool) (g:G):G.one (.when b g)=false:=rfl
theorem Z5d (n:Nat) (cs:List G):G.one (.sl n cs)=true:=rfl
theorem Z5a (cs:List G) (k:Nat):G.one (.ip cs k)=true:=rfl
theorem Z0p (i n:Nat):G.one (.row i n)=true:=rfl
theorem Z5c (i a n:Nat):G.one (.rs i a n)=true:=rfl
theorem Z5b (i n a:Nat):G.one (.rp i n a)=true:=rfl
theorem Z0o (i a:Nat):G.one (.ref i a)=true:=rfl
theorem Z49 (f k:Nat) (cs:List G):G.one (.fn f k cs)=true:=rfl
theorem Zlt (cs:List G):Q1 (.agg cs)=some cs:=rfl
theorem Zly (v:Value):Q1 (.val v)=match v with
  | .agg vs=>some (vs.toList.map .val)
  | v=>if G.one (.val v)=true then some [.val v] else none:=by cases v <;> rfl
theorem Zob (n:Nat) (cs:List G):Q1 (.sl n cs)=some [.sl n cs]:=rfl
theorem Zn8 (cs:List G) (k:Nat):Q1 (.ip cs k)=some [.ip cs k]:=rfl
theorem Zlw (i n:Nat):Q1 (.row i n)=some [.row i n]:=rfl
theorem Zoa (i a n:Nat):Q1 (.rs i a n)=some [.rs i a n]:=rfl
theorem Zn9 (i n a:Nat):Q1 (.rp i n a)=some [.rp i n a]:=rfl
theorem Zlv (i a:Nat):Q1 (.ref i a)=some [.ref i a]:=rfl
theorem Zn6 (f k:Nat) (cs:List G):Q1 (.fn f k cs)=some [.fn f k cs]:=rfl
theorem Zlu:Q1 .any=none:=rfl
theorem Zlx (cs:List G):Q1 (.tup cs)=none:=rfl
theorem Zkq (b:Bool) (g:G):Q1 (.when b g)=none:=rfl
def gP {α:Type} (f:α→List G):Option α→G
 | none => .val (.pointer none)
 | some x => .ip (f x) 0
def eP {α:Type} (f:α→List G) (x:Option α):List G:=[gP f x]
section
variable {α:Type} {f:α→List G} {T:Vr} {t e:TypeId} {O O':Objs} {n':Nat}
theorem Zzb:gP f none = .val (.pointer none):=rfl
theorem Zzc (x:α):gP f (some x) = .ip (f x) 0:=rfl
theorem Zv7 (x:Option α):Zef (gP f x)=gP f x:=by cases x <;> rfl
theorem Z6x (x:Option α) (l:List G):wok (gP f x::l)=wok l:=by cases x <;> rfl
theorem Zgj (x:Option α):(gP f x).one=true:=by cases x <;> rfl
theorem Zn7 (x:Option α):Q1 (gP f x)=some [gP f x]:=by cases x <;> rfl
theorem K8 (h:∀ x,G.pures (f x)=true) (x:Option α):(gP f x).pure=true:=by
 cases x with
 | none=>rfl
 | some x=>simp only [gP,G.pure,h]
theorem Zdj (h:∀ x,G.pures (f x)=true) (k:Nat) (x:Option α):(gP f x).under k=true:=Zk3 k _ (K8 h x)
theorem Zn2 (h:∀ x,G.pures (f x)=true) (x:Option α):wk O O' n' (gP f x) (gP f x)=True:=eq_true (Z2i _ (Zdj h _ x))
theorem Z0a (x:Option α):Qd O (gP f x)=True:=by cases x <;> rfl
end
theorem Zv1 {α:Type}:∀ {l:List α} {k:Nat} {x:α},l[k]? = some x→l.set k x=l
 | [],k,x,h=>by simp at h
 | y::l,0,x,h=>by simp at h;simp [h]
 | y::l,k+1,x,h=>by simp only [List.set_cons_succ,Zv1 (l:=l) (k:=k) (by simpa using h)]
section
variable {P:Program} {w:World} {O:Objs} {m:Hands} {n:Nat}
theorem Z5i (hM:Mem w O m n) {p:Nat} {q q':GObj} (hp:O p=some q) (h1:q'.row=q.row) (h2:q'.ty=q.ty) (h3:q'.sz=q.sz) (h4:q'.n=q.n) (hc:∀ vs,G.reps w O m n q.cells vs→G.reps w O m n q'.cells vs) :
  Mem w (O.upd p (some q')) m n∧Ext w O m n w (O.upd p (some q')) m n:=by
 have hpn:p < n:=by
  rcases Nat.lt_or_ge p n with h | h
  ·exact h
  rw [hM.fresh p h] at hp;cases hp
 have hold:∀ i o',(O.upd p (some q')) i=some o'→∃ o,O i=some o∧o'.row=o.row∧o'.n=o.n:=fun i o' hi=>by
  by_cases e:i=p
  ·subst e;rw [Yj] at hi;injection hi with hi;subst hi;exact ⟨q,hp,h1,h4⟩
  rw [Xa _ _ e] at hi;exact ⟨o',hi,rfl,rfl⟩
 have hrep:∀ (gs:List G) (vs:List Value),G.reps w O m n gs vs→G.reps w (O.upd p (some q')) m n gs vs:=fun gs vs h=>Zdg hold gs vs h (Za3 gs vs h)
 refine ⟨⟨fun i hi => ?_,fun i o' hi => ?_,fun i j oi oj b hi hj => ?_⟩,⟨rfl,rfl,rfl,Nat.le_refl _,Nat.le_refl _,fun b _ ho=>⟨rfl,fun ⟨i,o',hi,hb⟩ => ?_⟩,fun i _ o' hi => ?_⟩⟩
 ·rw [Xa _ _ (by omega)];exact hM.fresh i hi
 ·by_cases e:i=p
  ·subst e
   rw [Yj] at hi
   injection hi with hi
   subst hi
   obtain ⟨vs,hr,hx⟩:=hM.obj i q hp
   refine ⟨vs,hrep _ _ (hc vs hr),?_⟩
   rw [h1,h2,h3,h4];exact hx
  rw [Xa _ _ e] at hi
  obtain ⟨vs,hr,hx⟩:=hM.obj i o' hi
  exact ⟨vs,hrep _ _ hr,hx⟩
 ·obtain ⟨o1,e1,_⟩:=hold i oi hi
  obtain ⟨o2,e2,_⟩:=hold j oj hj
  exact hM.apart i j o1 o2 b e1 e2
 ·obtain ⟨o1,e1,_⟩:=hold i o' hi
  exact ho ⟨i,o1,e1,hb⟩
 obtain ⟨o1,e1,e2,e3⟩:=hold i o' hi
 exact ⟨o1,e1,e2,Nat.le_of_eq e3.symm,fun _=>rfl⟩
theorem Zbd {ba:Nat} {E:Env} {p k:Nat} {q:GObj} (t:TypeId) (sz:Nat) (hp:O p=some q) (hk:q.cells[k]? = some (.val (.slice none 0 0))) (hb:ba≤n) :
  Fit2 ba E O n E ((O.upd n (some ⟨true,t,sz,0,[]⟩)).upd p (some ⟨q.row,q.ty,q.sz,q.n,q.cells.set k (.row n 0)⟩)) (n+1):=fun w m a hM hE=>by
 have hpn:p≠n:=fun e=>by rw [e,hM.fresh n (Nat.le_refl _)] at hp;cases hp
 obtain ⟨h1,h2⟩:=Zq2 hM t sz
 have hp':(O.upd n (some ⟨true,t,sz,0,[]⟩)) p=some q:=by rw [Xa _ _ hpn];exact hp
 obtain ⟨h3,h4⟩:=Z5i (q':=⟨q.row,q.ty,q.sz,q.n,q.cells.set k (.row n 0)⟩) h1 hp' rfl rfl rfl rfl (fun vs hr=>by
  obtain ⟨v,hv,hrv⟩:=Znc _ _ hr k _ hk
  simp only [G.rep] at hrv
  subst hrv
  have:=Zvu q.cells vs k (.row n 0) (.slice none 0 0) hr (Zq3 t sz)
  rw [Zv1 hv] at this
  exact this)
 have hX:=h2.trans h4
 exact ⟨_,h3,hE.ext hX,hX.base hb⟩
end
end Go.Proofs.Ytfjkcekfifobpaa
