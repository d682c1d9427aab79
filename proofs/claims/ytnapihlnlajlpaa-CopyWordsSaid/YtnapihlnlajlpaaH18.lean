/- Part H18 of the ghost memory: lemmas and contracts used by the proofs of this seat's laws; each theorem bears its own conditions. -/
import Derived.Test.YtnapihlnlajlpaaH17
import Derived.WalkKit
import Derived.WalkSpells
import Derived.WalkLawsBesides
import Derived.Lib.Hide
import Derived.BigQuiet
import Derived.StillTailTactics
import Derived.Deep.RegionHeld3
import Derived.Deep.AppendLies
import Derived.Laws.CopyOwn
import Derived.Deep.DeepCutAuto
import Derived.Deep.QuietTactic
import Derived.Maps.AppendAt
import Derived.Great.BuildSlice
import Derived.Laws.StructEq
import Derived.ChangeKeysEq
import Derived.IntWalk
import Derived.Lib.AppendZeros
import Derived.Lib.AppendZerosOnto
import Derived.ProofKit
import Derived.OpenShut
import Derived.SizedLaws
import Derived.Deep.Slices
namespace Go.Proofs.Ytnapihlnlajlpaa
open Go.RowKit
set_option linter.unusedVariables false
set_option linter.unusedSimpArgs false
theorem Zif:Zdi .any = .any:=rfl
theorem Zij (v:Value):Zdi (.val v) = .val v:=rfl
theorem Zie (cs:List G):Zdi (.agg cs) = .agg cs:=rfl
theorem Zii (cs:List G):Zdi (.tup cs) = .tup cs:=rfl
theorem Zlh (n:Nat) (cs:List G):Zdi (.sl n cs) = .sl n cs:=rfl
theorem Zlc (cs:List G) (k:Nat):Zdi (.ip cs k) = .ip cs k:=rfl
theorem Zih (i n:Nat):Zdi (.row i n) = .row i n:=rfl
theorem Zlg (i a n:Nat):Zdi (.rs i a n) = .rs i a n:=rfl
theorem Zlf (i n a:Nat):Zdi (.rp i n a) = .rp i n a:=rfl
theorem Zle (i n a k:Nat):Zdi (.rl i n a k) = .rl i n a k:=rfl
theorem Zig (i a:Nat):Zdi (.ref i a) = .ref i a:=rfl
theorem Zla (f k:Nat) (cs:List G):Zdi (.fn f k cs) = .fn f k cs:=rfl
theorem Zgq (b:Bool) (g:G):Zdi (.when b g)=g:=rfl
section
variable {O:Objs} {T:K2} {op:BinOp} {t:TypeId}
theorem Zko:X3 O .any=True:=rfl
theorem Zks (v:Value):X3 O (.val v)=True:=rfl
theorem Zkn (cs:List G):X3 O (.agg cs)=True:=rfl
theorem Zkr (cs:List G):X3 O (.tup cs)=True:=rfl
theorem Zoz (n:Nat) (cs:List G):X3 O (.sl n cs)=True:=rfl
theorem Zov (cs:List G) (k:Nat):X3 O (.ip cs k)=True:=rfl
theorem Zot (f k:Nat) (cs:List G):X3 O (.fn f k cs)=True:=rfl
theorem Zh5 (b:Bool) (g:G):X3 O (.when b g)=True:=rfl
theorem Zkp (i a:Nat):X3 O (.ref i a)=∃ o,O i=some o∧o.row=false:=rfl
theorem Zoy (i a n:Nat):X3 O (.rs i a n)=∃ o,O i=some o∧o.row=false:=rfl
theorem Zox (i k a:Nat):X3 O (.rp i k a)=∃ o,O i=some o∧o.row=true∧k=o.n:=rfl
theorem Zow (i k a l:Nat):X3 O (.rl i k a l)=True:=rfl
theorem Zkq (i k:Nat):X3 O (.row i k)=∃ o,O i=some o∧o.row=true∧k=o.n:=rfl
theorem Zoi (k k':IntKind) (a b:Int):Zsb T op t (.val (.int k a)) (.val (.int k' b))=(Zv9 op k a k' b).map fun r=>(r.1,.val r.2):=rfl
theorem Zoh (a b:Bool):Zsb T op t (.val (.bool a)) (.val (.bool b))=match Yn T t,op with
  | some .bool,.eql=>some (True,.val (.bool (a == b)))
  | some .bool,.neq=>some (True,.val (.bool (a != b)))
  | _,_=>none:=rfl
theorem Zon (a b:ByteArray):Zsb T op t (.val (.string a)) (.val (.string b))=match op with
  | .eql=>some (True,.val (.bool (a.toList == b.toList)))
  | .neq=>some (True,.val (.bool (!(a.toList == b.toList))))
  | _=>none:=rfl
theorem Zol:Zsb T op t (.val (.pointer none)) (.val (.pointer none))=match Yn T t,op with
  | some (.ptr _),.eql=>some (True,.val (.bool true))
  | some (.ptr _),.neq=>some (True,.val (.bool false))
  | _,_=>none:=rfl
theorem Zom (i a:Nat):Zsb T op t (.ref i a) (.val (.pointer none))=match Yn T t,op with
  | some (.ptr _),.eql=>some (True,.val (.bool false))
  | some (.ptr _),.neq=>some (True,.val (.bool true))
  | _,_=>none:=rfl
theorem Zoj (cs:List G) (k:Nat):Zsb T op t (.ip cs k) (.val (.pointer none))=match Yn T t,op with
  | some (.ptr _),.eql=>some (True,.val (.bool false))
  | some (.ptr _),.neq=>some (True,.val (.bool true))
  | _,_=>none:=rfl
theorem Zok (a:Option Addr) (l c l' c':Nat):Zsb T op t (.val (.slice a l c)) (.val (.slice none l' c'))=match Yn T t,op with
  | some (.slice _),.eql=>some (True,.val (.bool a.isNone))
  | some (.slice _),.neq=>some (True,.val (.bool (!a.isNone)))
  | _,_=>none:=rfl
theorem Zog (xs ys:List G):Zsb T op t (.agg xs) (.agg ys)=match T t,Zsf T 6 t xs ys with
  | some i,some b=>if i.k.isAgg=true∧i.eq=true then (match op with
   | .eql=>some (True,.val (.bool b))
   | .neq=>some (True,.val (.bool (!b)))
   | _=>none) else none
  | _,_=>none:=rfl
end
theorem Zo1:G.one .any=false:=rfl
theorem Zo5 (v:Value):G.one (.val v)=v.oneCell':=rfl
theorem Zo0 (cs:List G):G.one (.agg cs)=false:=rfl
theorem Zo4 (cs:List G):G.one (.tup cs)=false:=rfl
theorem Zkz (b:Bool) (g:G):G.one (.when b g)=false:=rfl
theorem Ztl (n:Nat) (cs:List G):G.one (.sl n cs)=true:=rfl
theorem Zth (cs:List G) (k:Nat):G.one (.ip cs k)=true:=rfl
theorem Zo3 (i n:Nat):G.one (.row i n)=true:=rfl
theorem Ztk (i a n:Nat):G.one (.rs i a n)=true:=rfl
theorem Ztj (i n a:Nat):G.one (.rp i n a)=true:=rfl
theorem Zti (i n a k:Nat):G.one (.rl i n a k)=true:=rfl
theorem Zo2 (i a:Nat):G.one (.ref i a)=true:=rfl
theorem Ztg (f k:Nat) (cs:List G):G.one (.fn f k cs)=true:=rfl
theorem Zd8 (cs:List G):Qp (.agg cs)=some cs:=rfl
theorem Zed (v:Value):Qp (.val v)=match v with
  | .agg vs=>some (vs.toList.map .val)
  | v=>if G.one (.val v)=true then some [.val v] else none:=by cases v <;> rfl
theorem Zfw (n:Nat) (cs:List G):Qp (.sl n cs)=some [.sl n cs]:=rfl
theorem Zfs (cs:List G) (k:Nat):Qp (.ip cs k)=some [.ip cs k]:=rfl
theorem Zeb (i n:Nat):Qp (.row i n)=some [.row i n]:=rfl
theorem Zfv (i a n:Nat):Qp (.rs i a n)=some [.rs i a n]:=rfl
theorem Zfu (i n a:Nat):Qp (.rp i n a)=some [.rp i n a]:=rfl
theorem Zft (i n a k:Nat):Qp (.rl i n a k)=some [.rl i n a k]:=rfl
theorem Zea (i a:Nat):Qp (.ref i a)=some [.ref i a]:=rfl
theorem Zfq (f k:Nat) (cs:List G):Qp (.fn f k cs)=some [.fn f k cs]:=rfl
theorem Zd9:Qp .any=none:=rfl
theorem Zec (cs:List G):Qp (.tup cs)=none:=rfl
theorem Zdb (b:Bool) (g:G):Qp (.when b g)=none:=rfl
def gP {α:Type} (f:α→List G):Option α→G
 | none => .val (.pointer none)
 | some x => .ip (f x) 0
def eP {α:Type} (f:α→List G) (x:Option α):List G:=[gP f x]
section
variable {α:Type} {f:α→List G} {T:K2} {t e:TypeId} {O O':Objs} {n':Nat}
theorem Zoe:gP f none = .val (.pointer none):=rfl
theorem Zof (x:α):gP f (some x) = .ip (f x) 0:=rfl
theorem Zlb (x:Option α):Zdi (gP f x)=gP f x:=by cases x <;> rfl
theorem Zuo (x:Option α) (l:List G):wok (gP f x::l)=wok l:=by cases x <;> rfl
theorem Zge (x:Option α):(gP f x).one=true:=by cases x <;> rfl
theorem Zfr (x:Option α):Qp (gP f x)=some [gP f x]:=by cases x <;> rfl
theorem Zb0 (h:∀ x,G.pures (f x)=true) (x:Option α):(gP f x).pure=true:=by
 cases x with
 | none=>rfl
 | some x=>simp only [gP,G.pure,h]
theorem Zha (h:∀ x,G.pures (f x)=true) (k:Nat) (x:Option α):(gP f x).under k=true:=Zmk k _ (Zb0 h x)
theorem Zxa (h:∀ x,G.pures (f x)=true) (x:Option α):wk O O' n' (gP f x) (gP f x)=True:=eq_true (Z08 _ (Zha h _ x))
theorem Zou (x:Option α):X3 O (gP f x)=True:=by cases x <;> rfl
theorem Z1r (hk:Yn T t=some (.ptr e)) (x:Option α):Zsb T .eql t (gP f x) (.val (.pointer none))=some (True,.val (.bool x.isNone)):=by cases x <;> simp [gP,Zsb,hk]
end
theorem Zw1 {α:Type}:∀ {l:List α} {k:Nat} {x:α},l[k]? = some x→l.set k x=l
 | [],k,x,h=>by simp at h
 | y::l,0,x,h=>by simp at h;simp [h]
 | y::l,k+1,x,h=>by simp only [List.set_cons_succ,Zw1 (l:=l) (k:=k) (by simpa using h)]
section
variable {P:Program} {w:World} {O:Objs} {m:Hands} {n:Nat}
theorem Z3w (hM:Mem w O m n) {p:Nat} {q q':GObj} (hp:O p=some q) (h1:q'.row=q.row) (h2:q'.ty=q.ty) (h3:q'.sz=q.sz) (h4:q'.n=q.n) (hc:∀ vs,G.reps w O m n q.cells vs→G.reps w O m n q'.cells vs) :
  Mem w (O.upd p (some q')) m n∧Ext w O m n w (O.upd p (some q')) m n:=by
 have hpn:p < n:=by
  rcases Nat.lt_or_ge p n with h | h
  ·exact h
  rw [hM.fresh p h] at hp;cases hp
 have hold:∀ i o',(O.upd p (some q')) i=some o'→∃ o,O i=some o∧o'.row=o.row∧o'.n=o.n:=fun i o' hi=>by
  by_cases e:i=p
  ·subst e;rw [Y4] at hi;injection hi with hi;subst hi;exact ⟨q,hp,h1,h4⟩
  rw [Q6 _ _ e] at hi;exact ⟨o',hi,rfl,rfl⟩
 have hrep:∀ (gs:List G) (vs:List Value),G.reps w O m n gs vs→G.reps w (O.upd p (some q')) m n gs vs:=fun gs vs h=>Zc9 hold gs vs h (Gz gs vs h)
 refine ⟨⟨fun i hi => ?_,fun i o' hi => ?_,fun i j oi oj b hi hj => ?_⟩,⟨rfl,rfl,rfl,Nat.le_refl _,Nat.le_refl _,fun b _ ho=>⟨rfl,fun ⟨i,o',hi,hb⟩ => ?_⟩,fun i _ o' hi => ?_⟩⟩
 ·rw [Q6 _ _ (by omega)];exact hM.fresh i hi
 ·by_cases e:i=p
  ·subst e
   rw [Y4] at hi
   injection hi with hi
   subst hi
   obtain ⟨vs,hr,hx⟩:=hM.obj i q hp
   refine ⟨vs,hrep _ _ (hc vs hr),?_⟩
   rw [h1,h2,h3,h4];exact hx
  rw [Q6 _ _ e] at hi
  obtain ⟨vs,hr,hx⟩:=hM.obj i o' hi
  exact ⟨vs,hrep _ _ hr,hx⟩
 ·obtain ⟨o1,e1,_⟩:=hold i oi hi
  obtain ⟨o2,e2,_⟩:=hold j oj hj
  exact hM.apart i j o1 o2 b e1 e2
 ·obtain ⟨o1,e1,_⟩:=hold i o' hi
  exact ho ⟨i,o1,e1,hb⟩
 obtain ⟨o1,e1,e2,e3⟩:=hold i o' hi
 exact ⟨o1,e1,e2,Nat.le_of_eq e3.symm,fun _=>rfl⟩
theorem Zvu {ba:Nat} {E:Env} {p k:Nat} {q:GObj} (t:TypeId) (sz:Nat) (hp:O p=some q) (hk:q.cells[k]? = some (.val (.slice none 0 0))) (hb:ba≤n) :
  Fit2 ba E O n E ((O.upd n (some ⟨true,t,sz,0,[]⟩)).upd p (some ⟨q.row,q.ty,q.sz,q.n,q.cells.set k (.row n 0)⟩)) (n+1):=fun w m a hM hE=>by
 have hpn:p≠n:=fun e=>by rw [e,hM.fresh n (Nat.le_refl _)] at hp;cases hp
 obtain ⟨h1,h2⟩:=Zxx hM t sz
 have hp':(O.upd n (some ⟨true,t,sz,0,[]⟩)) p=some q:=by rw [Q6 _ _ hpn];exact hp
 obtain ⟨h3,h4⟩:=Z3w (q':=⟨q.row,q.ty,q.sz,q.n,q.cells.set k (.row n 0)⟩) h1 hp' rfl rfl rfl rfl (fun vs hr=>by
  obtain ⟨v,hv,hrv⟩:=Zph _ _ hr k _ hk
  simp only [G.rep] at hrv
  subst hrv
  have:=Zwv q.cells vs k (.row n 0) (.slice none 0 0) hr (Zxy t sz)
  rw [Zw1 hv] at this
  exact this)
 have hX:=h2.trans h4
 exact ⟨_,h3,hE.ext hX,hX.base hb⟩
end
end Go.Proofs.Ytnapihlnlajlpaa
