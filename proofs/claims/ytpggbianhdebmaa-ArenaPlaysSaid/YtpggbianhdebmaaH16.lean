/- Part H16 of the ghost memory: lemmas and contracts used by the proofs of this seat's laws; each theorem bears its own conditions. -/
import Derived.Test.YtpggbianhdebmaaH11
namespace Go.Proofs.Ytpggbianhdebmaa
open Go.RowKit
set_option linter.unusedVariables false
set_option linter.unusedSimpArgs false
section
variable {P:Program} {T:X0} {O:Objs} {n:Nat}
def Zed (o:Oper):Bool:=match o.op with
 | .move _ | .assign _ | .build .. | .unOp .. | .convert .. | .field .. | .extract .. => true
 | _=>false
theorem Zlh {ops:List Oper} {O':Objs} {n':Nat} {E:Env} {o:Oper} {r:G} (hf:Zed o=true) (h:PS P T ops O n E o r):PS P T ops O' n' E o r:=by
 have hg:Ka T E O' n' o.op=(Ka T E O n o.op).map fun r=>(r.1,r.2.1,O',n'):=by
  obtain ⟨d,op,ty,pos,af,gd⟩:=o
  unfold Zed at hf
  simp only at hf ⊢
  cases op with
  | move x=>rfl
  | assign x=>rfl
  | build t ps=>simp only [Ka,Qi];cases U0 T t _ <;> rfl
  | unOp op t x=>simp only [Ka,Qi];cases U4 op _ <;> rfl
  | convert s t x=>simp only [Ka,Qi];cases Q8 T s t _ <;> rfl
  | field s x f=>simp only [Ka,Qi];cases U2 T s _ f <;> rfl
  | extract x k=>simp only [Ka,Qi];cases Q9 _ k <;> rfl
  | _=>simp at hf
 have hp:∀ K,pop P T E O n o.op K→pop P T E O' n' o.op K:=fun K hk=>by
  obtain ⟨d,op,ty,pos,af,gd⟩:=o
  unfold Zed at hf
  simp only at hf hg hk ⊢
  cases op with
  | call c=>simp at hf
  | _ =>
   simp only [pop] at hk ⊢
   rw [hg]
   revert hk
   cases Ka T E O n _ with
   | none=>exact id
   | some r=>exact id
 rcases h with ⟨h1,h2⟩ | h | ⟨b,g,h1,h2,⟨S,O2,n2,h3,h4⟩,h5⟩
 ·exact .inl ⟨h1,hp _ h2⟩
 ·exact .inr (.inl h)
 exact .inr (.inr ⟨b,g,h1,h2,⟨S,O',n',by rw [hg,h3];rfl,h4⟩,h5⟩)
theorem Zd3 {E E':Env} {op:Op} {K:G→Objs→Nat→Prop} (hE:∀ x∈op.operands,ev E x=ev E' x) (h:gop P T E O n op K):gop P T E' O n op K:=by
 unfold gop at h ⊢
 split at h
 ·rename_i o args ts
  have ho:ev E o=ev E' o:=hE o (by simp [Op.operands,Call.operands])
  rw [← ho]
  split at h
  case h_2=>exact h.elim
  rename_i f k cs hev
  have hx:∀ x∈args.toList,ev E x=ev E' x:=fun x hx=>hE x (by simp [Op.operands,Call.operands];exact .inr (by simpa using hx))
  have e:args.toList.map (ev E)=args.toList.map (ev E'):=List.map_congr_left hx
  have e2:args.toList.map (evS E)=args.toList.map (evS E'):=List.map_congr_left fun x hm=>by unfold evS;rw [hx x hm]
  exact ⟨by rw [← e];exact h.1,by rw [← e2];exact h.2⟩
 rw [← Zgj hE];exact h
theorem G4 {ops:List Oper} {E E':Env} {o:Oper} (hd:∀ t∈Zav ops o,Xo E.l t=Xo E'.l t):Xh ops E' o=Xh ops E o∧∀ x∈o.op.operands,ev E x=ev E' x:=by
 refine ⟨(Zmv fun g d hg hgd=>hd d ?_).symm,fun x hx => ?_⟩
 ·unfold Zav
  rw [hg]
  obtain ⟨j,want⟩:=g
  simp only at hgd
  simp [hgd]
 cases x with
 | tmp t =>
  refine hd t ?_
  unfold Zav
  exact List.mem_append.2 (.inl (List.mem_filterMap.2 ⟨.tmp t,by simpa using hx,rfl⟩))
 | _=>rfl
def EqK (K:GK):Prop:=∀ E E' O n,EqE E E'→K E O n→K E' O n
end
end Go.Proofs.Ytpggbianhdebmaa
