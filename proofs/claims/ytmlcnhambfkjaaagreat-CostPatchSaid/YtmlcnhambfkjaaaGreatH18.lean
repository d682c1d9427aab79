/- Part H18 of the ghost memory: lemmas and contracts used by the proofs of this seat's laws; each theorem bears its own conditions. -/
import Derived.Test.YtmlcnhambfkjaaaGreatH17
import Derived.WalkKit
import Derived.WalkSpells
import Derived.WalkLawsBesides
import Derived.Lib.Hide
import Derived.BigQuiet
import Derived.StillTailTactics
import Derived.Deep.RegionHeld3
import Derived.Deep.AppendLies
import Derived.Laws.CopyOwn
import Derived.Deep.DeepCutAuto
import Derived.Deep.QuietTactic
import Derived.Maps.AppendAt
import Derived.Great.BuildSlice
import Derived.Laws.StructEq
import Derived.ChangeKeysEq
import Derived.IntWalk
import Derived.Lib.AppendZeros
import Derived.Lib.AppendZerosOnto
import Derived.ProofKit
import Derived.OpenShut
import Derived.SizedLaws
import Derived.Deep.Slices
namespace Go.Proofs.YtmlcnhambfkjaaaGreat
open Go.RowKit
set_option linter.unusedVariables false
set_option linter.unusedSimpArgs false
theorem Zrm:Zfy .any = .any:=rfl
theorem Zrq (v:Value):Zfy (.val v) = .val v:=rfl
theorem Zrl (cs:List G):Zfy (.agg cs) = .agg cs:=rfl
theorem Zrp (cs:List G):Zfy (.tup cs) = .tup cs:=rfl
theorem Zu3 (n:Nat) (cs:List G):Zfy (.sl n cs) = .sl n cs:=rfl
theorem Zuz (cs:List G) (k:Nat):Zfy (.ip cs k) = .ip cs k:=rfl
theorem Zro (i n:Nat):Zfy (.row i n) = .row i n:=rfl
theorem Zu2 (i a n:Nat):Zfy (.rs i a n) = .rs i a n:=rfl
theorem Zu1 (i n a:Nat):Zfy (.rp i n a) = .rp i n a:=rfl
theorem Zu0 (i n a k:Nat):Zfy (.rl i n a k) = .rl i n a k:=rfl
theorem Zrn (i a:Nat):Zfy (.ref i a) = .ref i a:=rfl
theorem Zux (f k:Nat) (cs:List G):Zfy (.fn f k cs) = .fn f k cs:=rfl
theorem Zpb (b:Bool) (g:G):Zfy (.when b g)=g:=rfl
section
variable {O:Objs} {T:Vv} {op:BinOp} {t:TypeId}
theorem Ztq:Qm O .any=True:=rfl
theorem Ztu (v:Value):Qm O (.val v)=True:=rfl
theorem Ztp (cs:List G):Qm O (.agg cs)=True:=rfl
theorem Ztt (cs:List G):Qm O (.tup cs)=True:=rfl
theorem Zzj (n:Nat) (cs:List G):Qm O (.sl n cs)=True:=rfl
theorem Zzf (cs:List G) (k:Nat):Qm O (.ip cs k)=True:=rfl
theorem Zzd (f k:Nat) (cs:List G):Qm O (.fn f k cs)=True:=rfl
theorem Zq5 (b:Bool) (g:G):Qm O (.when b g)=True:=rfl
theorem Ztr (i a:Nat):Qm O (.ref i a)=∃ o,O i=some o∧o.row=false:=rfl
theorem Zzi (i a n:Nat):Qm O (.rs i a n)=∃ o,O i=some o∧o.row=false:=rfl
theorem Zzh (i k a:Nat):Qm O (.rp i k a)=∃ o,O i=some o∧o.row=true∧k=o.n:=rfl
theorem Zzg (i k a l:Nat):Qm O (.rl i k a l)=True:=rfl
theorem Zts (i k:Nat):Qm O (.row i k)=∃ o,O i=some o∧o.row=true∧k=o.n:=rfl
theorem Zy1 (k k':IntKind) (a b:Int):Zth T op t (.val (.int k a)) (.val (.int k' b))=(Z43 op k a k' b).map fun r=>(r.1,.val r.2):=rfl
theorem Zy0 (a b:Bool):Zth T op t (.val (.bool a)) (.val (.bool b))=match Z9 T t,op with
  | some .bool,.eql=>some (True,.val (.bool (a == b)))
  | some .bool,.neq=>some (True,.val (.bool (a != b)))
  | _,_=>none:=rfl
theorem Zy6 (a b:ByteArray):Zth T op t (.val (.string a)) (.val (.string b))=match op with
  | .eql=>some (True,.val (.bool (a.toList == b.toList)))
  | .neq=>some (True,.val (.bool (!(a.toList == b.toList))))
  | _=>none:=rfl
theorem Zy4:Zth T op t (.val (.pointer none)) (.val (.pointer none))=match Z9 T t,op with
  | some (.ptr _),.eql=>some (True,.val (.bool true))
  | some (.ptr _),.neq=>some (True,.val (.bool false))
  | _,_=>none:=rfl
theorem Zy5 (i a:Nat):Zth T op t (.ref i a) (.val (.pointer none))=match Z9 T t,op with
  | some (.ptr _),.eql=>some (True,.val (.bool false))
  | some (.ptr _),.neq=>some (True,.val (.bool true))
  | _,_=>none:=rfl
theorem Zy2 (cs:List G) (k:Nat):Zth T op t (.ip cs k) (.val (.pointer none))=match Z9 T t,op with
  | some (.ptr _),.eql=>some (True,.val (.bool false))
  | some (.ptr _),.neq=>some (True,.val (.bool true))
  | _,_=>none:=rfl
theorem Zy3 (a:Option Addr) (l c l' c':Nat):Zth T op t (.val (.slice a l c)) (.val (.slice none l' c'))=match Z9 T t,op with
  | some (.slice _),.eql=>some (True,.val (.bool a.isNone))
  | some (.slice _),.neq=>some (True,.val (.bool (!a.isNone)))
  | _,_=>none:=rfl
theorem Zyz (xs ys:List G):Zth T op t (.agg xs) (.agg ys)=match T t,Zye T 6 t xs ys with
  | some i,some b=>if i.k.isAgg=true∧i.eq=true then (match op with
   | .eql=>some (True,.val (.bool b))
   | .neq=>some (True,.val (.bool (!b)))
   | _=>none) else none
  | _,_=>none:=rfl
end
theorem Zzo:G.one .any=false:=rfl
theorem Zzs (v:Value):G.one (.val v)=v.oneCell':=rfl
theorem Zzn (cs:List G):G.one (.agg cs)=false:=rfl
theorem Zzr (cs:List G):G.one (.tup cs)=false:=rfl
theorem Zug (b:Bool) (g:G):G.one (.when b g)=false:=rfl
theorem Z50 (n:Nat) (cs:List G):G.one (.sl n cs)=true:=rfl
theorem Z5w (cs:List G) (k:Nat):G.one (.ip cs k)=true:=rfl
theorem Zzq (i n:Nat):G.one (.row i n)=true:=rfl
theorem Z5z (i a n:Nat):G.one (.rs i a n)=true:=rfl
theorem Z5y (i n a:Nat):G.one (.rp i n a)=true:=rfl
theorem Z5x (i n a k:Nat):G.one (.rl i n a k)=true:=rfl
theorem Zzp (i a:Nat):G.one (.ref i a)=true:=rfl
theorem Z5v (f k:Nat) (cs:List G):G.one (.fn f k cs)=true:=rfl
theorem Zlv (cs:List G):Jb (.agg cs)=some cs:=rfl
theorem Zl0 (v:Value):Jb (.val v)=match v with
  | .agg vs=>some (vs.toList.map .val)
  | v=>if G.one (.val v)=true then some [.val v] else none:=by cases v <;> rfl
theorem Zn5 (n:Nat) (cs:List G):Jb (.sl n cs)=some [.sl n cs]:=rfl
theorem Zn1 (cs:List G) (k:Nat):Jb (.ip cs k)=some [.ip cs k]:=rfl
theorem Zly (i n:Nat):Jb (.row i n)=some [.row i n]:=rfl
theorem Zn4 (i a n:Nat):Jb (.rs i a n)=some [.rs i a n]:=rfl
theorem Zn3 (i n a:Nat):Jb (.rp i n a)=some [.rp i n a]:=rfl
theorem Zn2 (i n a k:Nat):Jb (.rl i n a k)=some [.rl i n a k]:=rfl
theorem Zlx (i a:Nat):Jb (.ref i a)=some [.ref i a]:=rfl
theorem Znz (f k:Nat) (cs:List G):Jb (.fn f k cs)=some [.fn f k cs]:=rfl
theorem Zlw:Jb .any=none:=rfl
theorem Zlz (cs:List G):Jb (.tup cs)=none:=rfl
theorem Zkh (b:Bool) (g:G):Jb (.when b g)=none:=rfl
def gP {α:Type} (f:α→List G):Option α→G
 | none => .val (.pointer none)
 | some x => .ip (f x) 0
def eP {α:Type} (f:α→List G) (x:Option α):List G:=[gP f x]
section
variable {α:Type} {f:α→List G} {T:Vv} {t e:TypeId} {O O':Objs} {n':Nat}
theorem Zyx:gP f none = .val (.pointer none):=rfl
theorem Zyy (x:α):gP f (some x) = .ip (f x) 0:=rfl
theorem Zuy (x:Option α):Zfy (gP f x)=gP f x:=by cases x <;> rfl
theorem Z8m (x:Option α) (l:List G):wok (gP f x::l)=wok l:=by cases x <;> rfl
theorem Zgz (x:Option α):(gP f x).one=true:=by cases x <;> rfl
theorem Zn0 (x:Option α):Jb (gP f x)=some [gP f x]:=by cases x <;> rfl
theorem K8 (h:∀ x,G.pures (f x)=true) (x:Option α):(gP f x).pure=true:=by
 cases x with
 | none=>rfl
 | some x=>simp only [gP,G.pure,h]
theorem Zd9 (h:∀ x,G.pures (f x)=true) (k:Nat) (x:Option α):(gP f x).under k=true:=Zo2 k _ (K8 h x)
theorem Zqo (h:∀ x,G.pures (f x)=true) (x:Option α):wk O O' n' (gP f x) (gP f x)=True:=eq_true (Z8i _ (Zd9 h _ x))
theorem Zze (x:Option α):Qm O (gP f x)=True:=by cases x <;> rfl
theorem Z9a (hk:Z9 T t=some (.ptr e)) (x:Option α):Zth T .eql t (gP f x) (.val (.pointer none))=some (True,.val (.bool x.isNone)):=by cases x <;> simp [gP,Zth,hk]
end
theorem Z21 {α:Type}:∀ {l:List α} {k:Nat} {x:α},l[k]? = some x→l.set k x=l
 | [],k,x,h=>by simp at h
 | y::l,0,x,h=>by simp at h;simp [h]
 | y::l,k+1,x,h=>by simp only [List.set_cons_succ,Z21 (l:=l) (k:=k) (by simpa using h)]
section
variable {P:Program} {w:World} {O:Objs} {m:Hands} {n:Nat}
theorem Ybn (hM:Mem w O m n) {p:Nat} {q q':GObj} (hp:O p=some q) (h1:q'.row=q.row) (h2:q'.ty=q.ty) (h3:q'.sz=q.sz) (h4:q'.n=q.n) (hc:∀ vs,G.reps w O m n q.cells vs→G.reps w O m n q'.cells vs) :
  Mem w (O.upd p (some q')) m n∧Ext w O m n w (O.upd p (some q')) m n:=by
 have hpn:p < n:=by
  rcases Nat.lt_or_ge p n with h | h
  ·exact h
  rw [hM.fresh p h] at hp;cases hp
 have hold:∀ i o',(O.upd p (some q')) i=some o'→∃ o,O i=some o∧o'.row=o.row∧o'.n=o.n:=fun i o' hi=>by
  by_cases e:i=p
  ·subst e;rw [X3] at hi;injection hi with hi;subst hi;exact ⟨q,hp,h1,h4⟩
  rw [J0 _ _ e] at hi;exact ⟨o',hi,rfl,rfl⟩
 have hrep:∀ (gs:List G) (vs:List Value),G.reps w O m n gs vs→G.reps w (O.upd p (some q')) m n gs vs:=fun gs vs h=>Zfd hold gs vs h (Za1 gs vs h)
 refine ⟨⟨fun i hi => ?_,fun i o' hi => ?_,fun i j oi oj b hi hj => ?_⟩,⟨rfl,rfl,rfl,Nat.le_refl _,Nat.le_refl _,fun b _ ho=>⟨rfl,fun ⟨i,o',hi,hb⟩ => ?_⟩,fun i _ o' hi => ?_⟩⟩
 ·rw [J0 _ _ (by omega)];exact hM.fresh i hi
 ·by_cases e:i=p
  ·subst e
   rw [X3] at hi
   injection hi with hi
   subst hi
   obtain ⟨vs,hr,hx⟩:=hM.obj i q hp
   refine ⟨vs,hrep _ _ (hc vs hr),?_⟩
   rw [h1,h2,h3,h4];exact hx
  rw [J0 _ _ e] at hi
  obtain ⟨vs,hr,hx⟩:=hM.obj i o' hi
  exact ⟨vs,hrep _ _ hr,hx⟩
 ·obtain ⟨o1,e1,_⟩:=hold i oi hi
  obtain ⟨o2,e2,_⟩:=hold j oj hj
  exact hM.apart i j o1 o2 b e1 e2
 ·obtain ⟨o1,e1,_⟩:=hold i o' hi
  exact ho ⟨i,o1,e1,hb⟩
 obtain ⟨o1,e1,e2,e3⟩:=hold i o' hi
 exact ⟨o1,e1,e2,Nat.le_of_eq e3.symm,fun _=>rfl⟩
theorem Yay {ba:Nat} {E:Env} {p k:Nat} {q:GObj} (t:TypeId) (sz:Nat) (hp:O p=some q) (hk:q.cells[k]? = some (.val (.slice none 0 0))) (hb:ba≤n) :
  Fit2 ba E O n E ((O.upd n (some ⟨true,t,sz,0,[]⟩)).upd p (some ⟨q.row,q.ty,q.sz,q.n,q.cells.set k (.row n 0)⟩)) (n+1):=fun w m a hM hE=>by
 have hpn:p≠n:=fun e=>by rw [e,hM.fresh n (Nat.le_refl _)] at hp;cases hp
 obtain ⟨h1,h2⟩:=Z30 hM t sz
 have hp':(O.upd n (some ⟨true,t,sz,0,[]⟩)) p=some q:=by rw [J0 _ _ hpn];exact hp
 obtain ⟨h3,h4⟩:=Ybn (q':=⟨q.row,q.ty,q.sz,q.n,q.cells.set k (.row n 0)⟩) h1 hp' rfl rfl rfl rfl (fun vs hr=>by
  obtain ⟨v,hv,hrv⟩:=Zrh _ _ hr k _ hk
  simp only [G.rep] at hrv
  subst hrv
  have:=Z2t q.cells vs k (.row n 0) (.slice none 0 0) hr (Z31 t sz)
  rw [Z21 hv] at this
  exact this)
 have hX:=h2.trans h4
 exact ⟨_,h3,hE.ext hX,hX.base hb⟩
end
end Go.Proofs.YtmlcnhambfkjaaaGreat
