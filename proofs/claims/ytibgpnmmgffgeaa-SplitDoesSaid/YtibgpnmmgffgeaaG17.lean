/- Part G17 of the ghost memory: lemmas and contracts used by the proofs of this seat's laws; each theorem bears its own conditions. -/
import Derived.Test.YtibgpnmmgffgeaaG13
namespace Go.Proofs.Ytibgpnmmgffgeaa
open Go.RowKit
set_option linter.unusedVariables false
set_option linter.unusedSimpArgs false
theorem Zza {x:Int} (h:-9223372036854775808≤x∧x≤9223372036854775807):IntKind.i64.wrap x=x:=IntWalk.i64_in _ (by omega)
theorem GPure.then {P:Program} {f:FuncId} {gs:List G} {O:Objs} {n:Nat} {r:G} {K:G→Objs→Nat→Prop} (h:GPure P f gs O n r) (hk:K r O n):GCalls P f gs O n K :=
 GCalls.mono h fun g O' n' ⟨a,b,c⟩=>by subst a b c;exact hk
theorem PCall.of {P:Program} {f:FuncId} {gs:List G} {O:Objs} {n:Nat} {r:G} {K:G→Prop} (h:GPure P f gs O n r) (hk:K r):PCall P f gs O n K:=⟨r,h,hk⟩
theorem Zye (k:IntKind) (x:Nat) (h:x < 2 ^ k.bits):(BitVec.ofInt k.bits (x:Int)).toNat=x:=by
 rw [BitVec.toNat_ofInt]
 have:((x:Int) % ((2 ^ k.bits:Nat):Int))=(x:Int):=Int.emod_eq_of_lt (by omega) (by omega)
 rw [this,Int.toNat_natCast]
theorem Yac (k:IntKind) (x y:Nat) (hx:x < 2 ^ k.bits) (hy:y < 2 ^ k.bits):Zjf k x y=((x &&& y:Nat):Int):=by
 unfold Zjf;rw [BitVec.toNat_and,Zye k x hx,Zye k y hy]
theorem Yds (k:IntKind) (x y:Nat) (hx:x < 2 ^ k.bits) (hy:y < 2 ^ k.bits):Zvc k x y=((x ||| y:Nat):Int):=by
 unfold Zvc;rw [BitVec.toNat_or,Zye k x hx,Zye k y hy]
theorem Yhh (x y:Nat) (hx:x < 18446744073709551616) (hy:y < 18446744073709551616):Zvc .u64 x y=((x ||| y:Nat):Int):=Yds .u64 x y (by simpa [IntKind.bits] using hx) (by simpa [IntKind.bits] using hy)
theorem gloop.by {body:GQ→GK} {Q:GQ} {E:Env} {O:Objs} {n:Nat} (I:Nat→GK) (start:∃ k E0,I k E0 O n∧leG E0 E) (round:∀ k E O n,I k E O n→body (Y1 (again I k) Q) E O n):gloop body Q E O n:=⟨I,start,round⟩
theorem Ycp {x:Int} (h:0≤x∧x≤18446744073709551615):IntKind.u64.wrap x=x:=IntWalk.u64_in _ h
theorem Ygb {P:Program} {f:FuncId} {gs:List G} (h:GPure P f gs Za7 0 (.val (.bool true))) {w:World} {vs:List Value} (hr:G.reps w Za7 (fun _=>undef) 0 gs vs) :
  Calls P f vs.toArray w fun e w'=>e = .returned (.bool true)∧Below w.heap.size w w':=by
 have hM:Mem w Za7 (fun _=>undef) 0:=⟨fun _ _=>rfl,fun i o hi=>by simp [Za7] at hi,fun i j oi oj b hi=>by simp [Za7] at hi⟩
 refine (h.2 w (fun _=>undef) vs hM hr).mono fun e w' ⟨v,g,O',n',m',h1,h2,h3,h4,h5,h6,h7⟩ => ?_
 subst h5
 simp only [G.rep] at h4
 subst h4
 exact ⟨h1,h3.os,h3.tape,h3.output,h3.size,fun k hk=>(h3.keep k hk (fun ⟨i,o,hi,_⟩=>by simp [Za7] at hi)).1⟩
theorem gfork.by {P:Program} {T:Kv} {ops:List Oper} {b:Bool} {op:Op} {l:List Oper} {E:Env} {d:Option Tmp} {O:Objs} {n:Nat} {K:Env→Objs→Nat→Prop} (h1:b=true→gop P T E O n op (onK P T ops l E d K)) (h2:b=false→onK P T ops l E d K (.val undef) O n):gfork P T ops b op l E d O n K:=⟨h1,h2⟩
theorem pfork.by {P:Program} {T:Kv} {ops:List Oper} {O:Objs} {n:Nat} {b:Bool} {op:Op} {l:List Oper} {E:Env} {d:Option Tmp} {K:Env→Prop} (h1:b=true→pop P T E O n op (onP P T ops O n l E d K)) (h2:b=false→onP P T ops O n l E d K (.val undef)):pfork P T ops O n b op l E d K:=⟨h1,h2⟩
theorem Yfu (b:Bool):(b == true)=b:=by cases b <;> rfl
theorem Yft (b:Bool):(b == false) = !b:=by cases b <;> rfl
end Go.Proofs.Ytibgpnmmgffgeaa
