/- Part H18 of the ghost memory: lemmas and contracts used by the proofs of this seat's laws; each theorem bears its own conditions. -/
import Derived.Test.YtpfbdlcnfekdkaaGreatH17
import Derived.WalkKit
import Derived.WalkSpells
import Derived.WalkLawsBesides
import Derived.Lib.Hide
import Derived.BigQuiet
import Derived.StillTailTactics
import Derived.Deep.RegionHeld3
import Derived.Deep.AppendLies
import Derived.Laws.CopyOwn
import Derived.Deep.DeepCutAuto
import Derived.Deep.QuietTactic
import Derived.Maps.AppendAt
import Derived.Great.BuildSlice
import Derived.Laws.StructEq
import Derived.ChangeKeysEq
import Derived.IntWalk
import Derived.Lib.AppendZeros
import Derived.Lib.AppendZerosOnto
import Derived.ProofKit
import Derived.OpenShut
import Derived.SizedLaws
import Derived.Deep.Slices
namespace Go.Proofs.YtpfbdlcnfekdkaaGreat
open Go.RowKit
set_option linter.unusedVariables false
set_option linter.unusedSimpArgs false
theorem Zi9:Zd2 .any = .any:=rfl
theorem Zjd (v:Value):Zd2 (.val v) = .val v:=rfl
theorem Zi8 (cs:List G):Zd2 (.agg cs) = .agg cs:=rfl
theorem Zjc (cs:List G):Zd2 (.tup cs) = .tup cs:=rfl
theorem Zmk (n:Nat) (cs:List G):Zd2 (.sl n cs) = .sl n cs:=rfl
theorem Zmf (cs:List G) (k:Nat):Zd2 (.ip cs k) = .ip cs k:=rfl
theorem Zjb (i n:Nat):Zd2 (.row i n) = .row i n:=rfl
theorem Zmj (i a n:Nat):Zd2 (.rs i a n) = .rs i a n:=rfl
theorem Zmi (i n a:Nat):Zd2 (.rp i n a) = .rp i n a:=rfl
theorem Zmh (i n a k:Nat):Zd2 (.rl i n a k) = .rl i n a k:=rfl
theorem Zja (i a:Nat):Zd2 (.ref i a) = .ref i a:=rfl
theorem Zmd (f k:Nat) (cs:List G):Zd2 (.fn f k cs) = .fn f k cs:=rfl
theorem Zha (b:Bool) (g:G):Zd2 (.when b g)=g:=rfl
section
variable {O:Objs} {T:Vt} {op:BinOp} {t:TypeId}
theorem Zlr:X7 O .any=True:=rfl
theorem Zlv (v:Value):X7 O (.val v)=True:=rfl
theorem Zlq (cs:List G):X7 O (.agg cs)=True:=rfl
theorem Zlu (cs:List G):X7 O (.tup cs)=True:=rfl
theorem Zpu (n:Nat) (cs:List G):X7 O (.sl n cs)=True:=rfl
theorem Zpq (cs:List G) (k:Nat):X7 O (.ip cs k)=True:=rfl
theorem Zpo (f k:Nat) (cs:List G):X7 O (.fn f k cs)=True:=rfl
theorem Ziz (b:Bool) (g:G):X7 O (.when b g)=True:=rfl
theorem Zls (i a:Nat):X7 O (.ref i a)=∃ o,O i=some o∧o.row=false:=rfl
theorem Zpt (i a n:Nat):X7 O (.rs i a n)=∃ o,O i=some o∧o.row=false:=rfl
theorem Zps (i k a:Nat):X7 O (.rp i k a)=∃ o,O i=some o∧o.row=true∧k=o.n:=rfl
theorem Zpr (i k a l:Nat):X7 O (.rl i k a l)=True:=rfl
theorem Zlt (i k:Nat):X7 O (.row i k)=∃ o,O i=some o∧o.row=true∧k=o.n:=rfl
theorem Zpd (k k':IntKind) (a b:Int):Zsv T op t (.val (.int k a)) (.val (.int k' b))=(Zw0 op k a k' b).map fun r=>(r.1,.val r.2):=rfl
theorem Zpc (a b:Bool):Zsv T op t (.val (.bool a)) (.val (.bool b))=match Ys T t,op with
  | some .bool,.eql=>some (True,.val (.bool (a == b)))
  | some .bool,.neq=>some (True,.val (.bool (a != b)))
  | _,_=>none:=rfl
theorem Zpi (a b:ByteArray):Zsv T op t (.val (.string a)) (.val (.string b))=match op with
  | .eql=>some (True,.val (.bool (a.toList == b.toList)))
  | .neq=>some (True,.val (.bool (!(a.toList == b.toList))))
  | _=>none:=rfl
theorem Zpg:Zsv T op t (.val (.pointer none)) (.val (.pointer none))=match Ys T t,op with
  | some (.ptr _),.eql=>some (True,.val (.bool true))
  | some (.ptr _),.neq=>some (True,.val (.bool false))
  | _,_=>none:=rfl
theorem Zph (i a:Nat):Zsv T op t (.ref i a) (.val (.pointer none))=match Ys T t,op with
  | some (.ptr _),.eql=>some (True,.val (.bool false))
  | some (.ptr _),.neq=>some (True,.val (.bool true))
  | _,_=>none:=rfl
theorem Zpe (cs:List G) (k:Nat):Zsv T op t (.ip cs k) (.val (.pointer none))=match Ys T t,op with
  | some (.ptr _),.eql=>some (True,.val (.bool false))
  | some (.ptr _),.neq=>some (True,.val (.bool true))
  | _,_=>none:=rfl
theorem Zpf (a:Option Addr) (l c l' c':Nat):Zsv T op t (.val (.slice a l c)) (.val (.slice none l' c'))=match Ys T t,op with
  | some (.slice _),.eql=>some (True,.val (.bool a.isNone))
  | some (.slice _),.neq=>some (True,.val (.bool (!a.isNone)))
  | _,_=>none:=rfl
theorem Zpb (xs ys:List G):Zsv T op t (.agg xs) (.agg ys)=match T t,Zsz T 6 t xs ys with
  | some i,some b=>if i.k.isAgg=true∧i.eq=true then (match op with
   | .eql=>some (True,.val (.bool b))
   | .neq=>some (True,.val (.bool (!b)))
   | _=>none) else none
  | _,_=>none:=rfl
end
theorem Zpx:G.one .any=false:=rfl
theorem Zp1 (v:Value):G.one (.val v)=v.oneCell':=rfl
theorem Zpw (cs:List G):G.one (.agg cs)=false:=rfl
theorem Zp0 (cs:List G):G.one (.tup cs)=false:=rfl
theorem Zl3 (b:Bool) (g:G):G.one (.when b g)=false:=rfl
theorem Zui (n:Nat) (cs:List G):G.one (.sl n cs)=true:=rfl
theorem Zue (cs:List G) (k:Nat):G.one (.ip cs k)=true:=rfl
theorem Zpz (i n:Nat):G.one (.row i n)=true:=rfl
theorem Zuh (i a n:Nat):G.one (.rs i a n)=true:=rfl
theorem Zug (i n a:Nat):G.one (.rp i n a)=true:=rfl
theorem Zuf (i n a k:Nat):G.one (.rl i n a k)=true:=rfl
theorem Zpy (i a:Nat):G.one (.ref i a)=true:=rfl
theorem Zud (f k:Nat) (cs:List G):G.one (.fn f k cs)=true:=rfl
theorem Zet (cs:List G):Qt (.agg cs)=some cs:=rfl
theorem Zey (v:Value):Qt (.val v)=match v with
  | .agg vs=>some (vs.toList.map .val)
  | v=>if G.one (.val v)=true then some [.val v] else none:=by cases v <;> rfl
theorem Zgi (n:Nat) (cs:List G):Qt (.sl n cs)=some [.sl n cs]:=rfl
theorem Zge (cs:List G) (k:Nat):Qt (.ip cs k)=some [.ip cs k]:=rfl
theorem Zew (i n:Nat):Qt (.row i n)=some [.row i n]:=rfl
theorem Zgh (i a n:Nat):Qt (.rs i a n)=some [.rs i a n]:=rfl
theorem Zgg (i n a:Nat):Qt (.rp i n a)=some [.rp i n a]:=rfl
theorem Zgf (i n a k:Nat):Qt (.rl i n a k)=some [.rl i n a k]:=rfl
theorem Zev (i a:Nat):Qt (.ref i a)=some [.ref i a]:=rfl
theorem Zgc (f k:Nat) (cs:List G):Qt (.fn f k cs)=some [.fn f k cs]:=rfl
theorem Zeu:Qt .any=none:=rfl
theorem Zex (cs:List G):Qt (.tup cs)=none:=rfl
theorem Zdu (b:Bool) (g:G):Qt (.when b g)=none:=rfl
def gP {α:Type} (f:α→List G):Option α→G
 | none => .val (.pointer none)
 | some x => .ip (f x) 0
def eP {α:Type} (f:α→List G) (x:Option α):List G:=[gP f x]
section
variable {α:Type} {f:α→List G} {T:Vt} {t e:TypeId} {O O':Objs} {n':Nat}
theorem Zo9:gP f none = .val (.pointer none):=rfl
theorem Zpa (x:α):gP f (some x) = .ip (f x) 0:=rfl
theorem Zme (x:Option α):Zd2 (gP f x)=gP f x:=by cases x <;> rfl
theorem Zvk (x:Option α) (l:List G):wok (gP f x::l)=wok l:=by cases x <;> rfl
theorem Zgz (x:Option α):(gP f x).one=true:=by cases x <;> rfl
theorem Zgd (x:Option α):Qt (gP f x)=some [gP f x]:=by cases x <;> rfl
theorem Zcc (h:∀ x,G.pures (f x)=true) (x:Option α):(gP f x).pure=true:=by
 cases x with
 | none=>rfl
 | some x=>simp only [gP,G.pure,h]
theorem Zh4 (h:∀ x,G.pures (f x)=true) (k:Nat) (x:Option α):(gP f x).under k=true:=Znh k _ (Zcc h x)
theorem Zx5 (h:∀ x,G.pures (f x)=true) (x:Option α):wk O O' n' (gP f x) (gP f x)=True:=eq_true (Z1z _ (Zh4 h _ x))
theorem Zpp (x:Option α):X7 O (gP f x)=True:=by cases x <;> rfl
theorem Z2k (hk:Ys T t=some (.ptr e)) (x:Option α):Zsv T .eql t (gP f x) (.val (.pointer none))=some (True,.val (.bool x.isNone)):=by cases x <;> simp [gP,Zsv,hk]
end
theorem Zxw {α:Type}:∀ {l:List α} {k:Nat} {x:α},l[k]? = some x→l.set k x=l
 | [],k,x,h=>by simp at h
 | y::l,0,x,h=>by simp at h;simp [h]
 | y::l,k+1,x,h=>by simp only [List.set_cons_succ,Zxw (l:=l) (k:=k) (by simpa using h)]
section
variable {P:Program} {w:World} {O:Objs} {m:Hands} {n:Nat}
theorem Z41 (hM:Mem w O m n) {p:Nat} {q q':GObj} (hp:O p=some q) (h1:q'.row=q.row) (h2:q'.ty=q.ty) (h3:q'.sz=q.sz) (h4:q'.n=q.n) (hc:∀ vs,G.reps w O m n q.cells vs→G.reps w O m n q'.cells vs) :
  Mem w (O.upd p (some q')) m n∧Ext w O m n w (O.upd p (some q')) m n:=by
 have hpn:p < n:=by
  rcases Nat.lt_or_ge p n with h | h
  ·exact h
  rw [hM.fresh p h] at hp;cases hp
 have hold:∀ i o',(O.upd p (some q')) i=some o'→∃ o,O i=some o∧o'.row=o.row∧o'.n=o.n:=fun i o' hi=>by
  by_cases e:i=p
  ·subst e;rw [Y5] at hi;injection hi with hi;subst hi;exact ⟨q,hp,h1,h4⟩
  rw [Jp _ _ e] at hi;exact ⟨o',hi,rfl,rfl⟩
 have hrep:∀ (gs:List G) (vs:List Value),G.reps w O m n gs vs→G.reps w (O.upd p (some q')) m n gs vs:=fun gs vs h=>Zdq hold gs vs h (Zan gs vs h)
 refine ⟨⟨fun i hi => ?_,fun i o' hi => ?_,fun i j oi oj b hi hj => ?_⟩,⟨rfl,rfl,rfl,Nat.le_refl _,Nat.le_refl _,fun b _ ho=>⟨rfl,fun ⟨i,o',hi,hb⟩ => ?_⟩,fun i _ o' hi => ?_⟩⟩
 ·rw [Jp _ _ (by omega)];exact hM.fresh i hi
 ·by_cases e:i=p
  ·subst e
   rw [Y5] at hi
   injection hi with hi
   subst hi
   obtain ⟨vs,hr,hx⟩:=hM.obj i q hp
   refine ⟨vs,hrep _ _ (hc vs hr),?_⟩
   rw [h1,h2,h3,h4];exact hx
  rw [Jp _ _ e] at hi
  obtain ⟨vs,hr,hx⟩:=hM.obj i o' hi
  exact ⟨vs,hrep _ _ hr,hx⟩
 ·obtain ⟨o1,e1,_⟩:=hold i oi hi
  obtain ⟨o2,e2,_⟩:=hold j oj hj
  exact hM.apart i j o1 o2 b e1 e2
 ·obtain ⟨o1,e1,_⟩:=hold i o' hi
  exact ho ⟨i,o1,e1,hb⟩
 obtain ⟨o1,e1,e2,e3⟩:=hold i o' hi
 exact ⟨o1,e1,e2,Nat.le_of_eq e3.symm,fun _=>rfl⟩
theorem Zjg {ba:Nat} {E:Env} {p k:Nat} {q:GObj} (t:TypeId) (sz:Nat) (hp:O p=some q) (hk:q.cells[k]? = some (.val (.slice none 0 0))) (hb:ba≤n) :
  Fit2 ba E O n E ((O.upd n (some ⟨true,t,sz,0,[]⟩)).upd p (some ⟨q.row,q.ty,q.sz,q.n,q.cells.set k (.row n 0)⟩)) (n+1):=fun w m a hM hE=>by
 have hpn:p≠n:=fun e=>by rw [e,hM.fresh n (Nat.le_refl _)] at hp;cases hp
 obtain ⟨h1,h2⟩:=Zyq hM t sz
 have hp':(O.upd n (some ⟨true,t,sz,0,[]⟩)) p=some q:=by rw [Jp _ _ hpn];exact hp
 obtain ⟨h3,h4⟩:=Z41 (q':=⟨q.row,q.ty,q.sz,q.n,q.cells.set k (.row n 0)⟩) h1 hp' rfl rfl rfl rfl (fun vs hr=>by
  obtain ⟨v,hv,hrv⟩:=Zqe _ _ hr k _ hk
  simp only [G.rep] at hrv
  subst hrv
  have:=Zxq q.cells vs k (.row n 0) (.slice none 0 0) hr (Zyr t sz)
  rw [Zxw hv] at this
  exact this)
 have hX:=h2.trans h4
 exact ⟨_,h3,hE.ext hX,hX.base hb⟩
end
end Go.Proofs.YtpfbdlcnfekdkaaGreat
