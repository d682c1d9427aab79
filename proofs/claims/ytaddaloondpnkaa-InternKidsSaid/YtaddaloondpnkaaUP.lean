/- Plain facts on this seat's mirrors (part UP); each theorem bears its own conditions. -/
import Derived.Test.YtaddaloondpnkaaUD
namespace Go.Proofs.Ytaddaloondpnkaa
open Go.RowKit
set_option linter.unusedVariables false
set_option linter.unusedSimpArgs false
theorem Vb {a b:Int} (h:¬ a=b):(a == b)=false:=by simp [h]
def Zm3 (w:Nat):Int:=if w / 4 % 1073741824 < 536870912 then ((w / 4 % 1073741824:Nat):Int) else ((w / 4 % 1073741824:Nat):Int) - 1073741824
def Zd3 (w:Nat):Z8 :=
 if w=0 then ⟨0,0,0,0,0,0,0,false⟩
 else if w % 4=0 then ⟨1,Zm3 w,(w / 4294967296 % 65536:Nat),(w / 281474976710656 % 65536:Nat),0,0,0,false⟩
 else if w % 4=1 then ⟨2,Zm3 w,0,0,(w / 4294967296 % 8:Nat),(w / 34359738368 % 536870912:Nat),0,false⟩
 else if w % 4=2 then ⟨3,(w / 8 % 536870912:Nat),0,0,0,0,(w / 4294967296 % 4294967296:Nat),decide (w / 4 % 2=1)⟩
 else ⟨4,0,0,0,0,0,0,false⟩
theorem Zx4 (b:Nat):((2:Int) ^ b)=((2 ^ b:Nat):Int):=by simp
theorem Zkf (w f b:Nat) (hw:w < 18446744073709551616) (hf:f < 64) (hb:b≤40):X8 w f b=some ((w / 2 ^ f % 2 ^ b:Nat):Int):=by
 unfold X8 Y7
 rw [if_pos (Int.natCast_nonneg _),if_pos (Int.natCast_nonneg _)]
 simp only [Option.bind_some,Option.some.injEq]
 have hp:(2:Nat) ^ b≤1099511627776:=by have:=Nat.pow_le_pow_right (n:=2) (by decide) hb;simpa using this
 have h1:0 < (2:Nat) ^ b:=Nat.pow_pos (by decide)
 have e1:(min ((f:Int).toNat) 64)=f:=by omega
 have e2:(min ((b:Int).toNat) 64)=b:=by omega
 have hd:w / 2 ^ f < 18446744073709551616:=Nat.lt_of_le_of_lt (Nat.div_le_self _ _) hw
 have e3:((w:Int).fdiv ((2 ^ f:Nat):Int))=((w / 2 ^ f:Nat):Int):=by
  rw [Int.fdiv_eq_ediv_of_nonneg _ (Int.natCast_nonneg _),Int.natCast_ediv]
 rw [e1,e2,Zx4,Zx4,e3]
 clear e3
 generalize hq:2 ^ b=q at *
 generalize w / 2 ^ f=x at *
 rw [Int.one_mul,IntWalk.u64_in (q:Int) (by omega),IntWalk.u64_in ((q:Int) - 1) (by omega)]
 have e4:((q:Int) - 1)=((q - 1:Nat):Int):=by omega
 rw [e4,Z1n _ _ hd (by omega),← hq,Nat.and_two_pow_sub_one_eq_mod,hq]
 have:x % q < q:=Nat.mod_lt _ h1
 rw [IntWalk.u64_in _ (by omega),IntWalk.i64_in _ (by omega)]
theorem Ybt (w:Nat) (hw:w < 18446744073709551616):IntKind.i64.wrap ((IntKind.i32.wrap (IntKind.u32.wrap (w:Int))).fdiv (2 ^ min (Int.toNat 2) 32))=Zm3 w:=by
 have e:(2:Int) ^ min (Int.toNat 2) 32=4:=by decide
 rw [e,Int.fdiv_eq_ediv_of_nonneg _ (by decide),IntKind.wrap_u32,IntKind.wrap_i32]
 unfold Zm3
 rw [IntWalk.i64_in _ (by omega)]
 split <;> omega
theorem Z66 (w:Nat) (hw:w < 18446744073709551616):Zb3 w=some (Zm3 w):=congrArg some (Ybt w hw)
theorem Yd4 (w:Nat) (hw:w < 18446744073709551616):IntKind.u64.wrap (Gu .u64 w 3)=((w % 4:Nat):Int):=by
 have:=Z1n w 3 hw (by decide)
 rw [show ((3:Nat):Int)=3 from rfl] at this
 rw [this,show (3:Nat)=2 ^ 2 - 1 from rfl,Nat.and_two_pow_sub_one_eq_mod,IntWalk.u64_in _ (by omega)]
theorem Yd6 (w:Nat) (hw:w < 18446744073709551616):(IntKind.u64.wrap (Gu .u64 ((w:Int).fdiv (2 ^ min (Int.toNat 2) 64)) 1) == 1)=decide (w / 4 % 2=1):=by
 have e1:(2:Int) ^ min (Int.toNat 2) 64=4:=by decide
 have e2:((w:Int).fdiv 4)=((w / 4:Nat):Int):=by rw [Int.fdiv_eq_ediv_of_nonneg _ (by decide)];rfl
 have e3:=Z1n (w / 4) 1 (by omega) (by decide)
 rw [show ((1:Nat):Int)=1 from rfl,Nat.and_one_is_mod] at e3
 rw [e1,e2,e3,IntWalk.u64_in _ (by omega)]
 by_cases h:w / 4 % 2=1
 ·rw [h];decide
 have:w / 4 % 2=0:=by omega
 rw [this];decide
theorem Zxc (a:Nat) (b:Nat):((a:Int) == (b:Int))=decide (a=b):=by
 by_cases h:a=b
 ·subst h;simp
 simp [h,Int.natCast_inj]
theorem Zzb (w:Nat) (hw:w < 18446744073709551616):Jz w=some (Zd3 w):=by
 unfold Jz
 have f1:X8 w 32 16=_:=Zkf w 32 16 hw (by decide) (by decide)
 have f2:X8 w 48 16=_:=Zkf w 48 16 hw (by decide) (by decide)
 have f3:X8 w 32 3=_:=Zkf w 32 3 hw (by decide) (by decide)
 have f4:X8 w 35 29=_:=Zkf w 35 29 hw (by decide) (by decide)
 have f5:X8 w 3 29=_:=Zkf w 3 29 hw (by decide) (by decide)
 have f6:X8 w 32 32=_:=Zkf w 32 32 hw (by decide) (by decide)
 have c0:((w:Int) == 0)=_:=Zxc w 0
 have c1:(((w % 4:Nat):Int) == 0)=_:=Zxc (w % 4) 0
 have c2:(((w % 4:Nat):Int) == 1)=_:=Zxc (w % 4) 1
 have c3:(((w % 4:Nat):Int) == 2)=_:=Zxc (w % 4) 2
 rw [Yd4 w hw,Z66 w hw,f1,f2,f3,f4,f5,f6,Yd6 w hw,c0,c1,c2,c3]
 simp only [Option.bind_some]
 unfold Zd3
 by_cases h0:w=0
 ·simp [h0]
 by_cases h1:w % 4=0
 ·simp [h0,h1]
 by_cases h2:w % 4=1
 ·simp [h0,h2]
 by_cases h3:w % 4=2
 ·simp [h0,h3]
 simp [h0,h1,h2,h3]
theorem Z6s (x i:Nat):x % 2 ^ (i+1)=x % 2 ^ i+2 ^ i * (x / 2 ^ i % 2):=Nat.mod_pow_succ
theorem Zb6 (w f b:Nat) (hw:w < 18446744073709551616) (hf:f < 64) (hb:b≤40):Yb w f b=some ((w / 2 ^ f % 2 ^ b:Nat):Int):=by
 unfold Yb
 have l0:Z6 (Vw f) ((w:Int),0)=some ((w / 2 ^ f:Nat):Int):=by
  refine Zoj (fun s=>∃ i:Nat,i≤f∧s=(((w / 2 ^ i:Nat):Int),(i:Int))) (fun s=>f - s.2.toNat) ?_ _ ⟨0,by omega,by simp⟩
  rintro s ⟨i,hi,rfl⟩
  unfold Vw
  have hs:w / 2 ^ (i+1)=w / 2 ^ i / 2:=by rw [Nat.pow_succ,Nat.div_div_eq_div_mul]
  have hd:w / 2 ^ i < 18446744073709551616:=Nat.lt_of_le_of_lt (Nat.div_le_self _ _) hw
  by_cases h:i < f
  ·left
   refine ⟨(((w / 2 ^ (i+1):Nat):Int),((i+1:Nat):Int)),?_,⟨i+1,by omega,rfl⟩,by simp only;omega⟩
   have:decide ((i:Int) < f)=true:=by simp;omega
   simp only [this,cond_true]
   rw [hs]
   generalize w / 2 ^ i=y at *
   rw [Int.tdiv_eq_ediv_of_nonneg (by omega),Z91 (by omega),Ul (by omega)]
   rfl
  right
  have:decide ((i:Int) < f)=false:=by simp;omega
  obtain rfl:i=f:=by omega
  simp only [this,cond_false]
 rw [l0]
 simp only [Option.bind_some]
 generalize hx:w / 2 ^ f=x at *
 have hd:x < 18446744073709551616:=by rw [← hx];exact Nat.lt_of_le_of_lt (Nat.div_le_self _ _) hw
 have l1:Z6 (Vx b) ((x:Int),0,1,0)=some ((x % 2 ^ b:Nat):Int):=by
  refine Zoj (fun s=>∃ j:Nat,j≤b∧s=(((x / 2 ^ j:Nat):Int),((x % 2 ^ j:Nat):Int),((2 ^ j:Nat):Int),(j:Int))) (fun s=>b - s.2.2.2.toNat) ?_ _ ⟨0,by omega,by simp [Nat.mod_one]⟩
  rintro s ⟨j,hj,rfl⟩
  unfold Vx
  have hdj:x / 2 ^ j < 18446744073709551616:=Nat.lt_of_le_of_lt (Nat.div_le_self _ _) hd
  have hpj:(2:Nat) ^ j≤1099511627776:=by have:=Nat.pow_le_pow_right (n:=2) (by decide) (Nat.le_trans hj hb);simpa using this
  have h0:0 < (2:Nat) ^ j:=Nat.pow_pos (by decide)
  have hm:=Z6s x j
  have hs2:x / 2 ^ (j+1)=x / 2 ^ j / 2:=by rw [Nat.pow_succ,Nat.div_div_eq_div_mul]
  have hp2:(2:Nat) ^ (j+1)=2 ^ j * 2:=Nat.pow_succ ..
  have hlt:x % 2 ^ j < 2 ^ j:=Nat.mod_lt _ h0
  by_cases h:j < b
  ·left
   refine ⟨(((x / 2 ^ (j+1):Nat):Int),((x % 2 ^ (j+1):Nat):Int),((2 ^ (j+1):Nat):Int),((j+1:Nat):Int)),?_,⟨j+1,by omega,rfl⟩,by simp only;omega⟩
   have:decide ((j:Int) < b)=true:=by simp;omega
   simp only [this,cond_true]
   rw [hs2,hm,hp2]
   clear hs2 hm hp2
   generalize x / 2 ^ j=y at *
   generalize x % 2 ^ j=r at *
   generalize 2 ^ j=p at *
   rw [Int.tmod_eq_emod_of_nonneg (by omega),Int.tdiv_eq_ediv_of_nonneg (by omega)]
   by_cases hb1:y % 2=1
   ·have e:(((y:Int) % 2) == 1)=true:=by simp;omega
    rw [e,cond_true,hb1,Ul (by omega)]
    simp only [Option.bind_some]
    rw [Z91 (by omega),Ul (by omega),Ul (by omega)]
    simp only [Option.some.injEq,Sum.inl.injEq,Prod.mk.injEq]
    omega
   have e:(((y:Int) % 2) == 1)=false:=by simp;omega
   have hb0:y % 2=0:=by omega
   rw [e,cond_false,hb0]
   simp only [Option.bind_some]
   rw [Z91 (by omega),Ul (by omega),Ul (by omega)]
   simp only [Option.some.injEq,Sum.inl.injEq,Prod.mk.injEq]
   omega
  right
  have:decide ((j:Int) < b)=false:=by simp;omega
  obtain rfl:j=b:=by omega
  simp only [this,cond_false]
 rw [l1]
 simp only [Option.bind_some]
theorem Z4n (w:Nat) (hw:w < 18446744073709551616):Xd w=some (Zd3 w):=by
 unfold Xd
 have f0:Yb w 2 30=_:=Zb6 w 2 30 hw (by decide) (by decide)
 have f00:Yb w 0 2=_:=Zb6 w 0 2 hw (by decide) (by decide)
 have f1:Yb w 32 16=_:=Zb6 w 32 16 hw (by decide) (by decide)
 have f2:Yb w 48 16=_:=Zb6 w 48 16 hw (by decide) (by decide)
 have f3:Yb w 32 3=_:=Zb6 w 32 3 hw (by decide) (by decide)
 have f4:Yb w 35 29=_:=Zb6 w 35 29 hw (by decide) (by decide)
 have f5:Yb w 3 29=_:=Zb6 w 3 29 hw (by decide) (by decide)
 have f6:Yb w 32 32=_:=Zb6 w 32 32 hw (by decide) (by decide)
 have f7:Yb w 2 1=_:=Zb6 w 2 1 hw (by decide) (by decide)
 have c0:((w:Int) == 0)=_:=Zxc w 0
 have c1:(((w % 4:Nat):Int) == 0)=_:=Zxc (w % 4) 0
 have c2:(((w % 4:Nat):Int) == 1)=_:=Zxc (w % 4) 1
 have c3:(((w % 4:Nat):Int) == 2)=_:=Zxc (w % 4) 2
 have c4:(((w / 4 % 2:Nat):Int) == 1)=_:=Zxc (w / 4 % 2) 1
 simp only [Nat.reducePow,Nat.div_one] at f0 f00 f1 f2 f3 f4 f5 f6 f7
 have ho:(cond (decide (536870912≤((w / 4 % 1073741824:Nat):Int))) (some (IntKind.i64.wrap (((w / 4 % 1073741824:Nat):Int) - 1073741824))) (some ((w / 4 % 1073741824:Nat):Int)))=some (Zm3 w):=by
  unfold Zm3
  rw [Ul (by omega)]
  by_cases h:w / 4 % 1073741824 < 536870912
  ·have:decide (536870912≤((w / 4 % 1073741824:Nat):Int))=false:=by simp;omega
   rw [this,if_pos h,cond_false]
  have:decide (536870912≤((w / 4 % 1073741824:Nat):Int))=true:=by simp;omega
  rw [this,if_neg h,cond_true]
 rw [f0]
 simp only [Option.bind_some,ho]
 rw [f00,f1,f2,f3,f4,f5,f6,f7]
 simp only [Option.bind_some]
 rw [c0,c1,c2,c3,c4]
 unfold Zd3
 by_cases h0:w=0
 ·simp [h0]
 by_cases h1:w % 4=0
 ·simp [h0,h1]
 by_cases h2:w % 4=1
 ·simp [h0,h2]
 by_cases h3:w % 4=2
 ·simp [h0,h3]
 simp [h0,h1,h2,h3]
theorem Zjv (k a b:Nat) (h:a < 2 ^ k):a ||| (b * 2 ^ k)=a+b * 2 ^ k:=by
 rw [Nat.or_comm,Nat.mul_comm,← Nat.two_pow_add_eq_or_of_lt h,Nat.add_comm]
def Zxy (p:Z8):Int :=
 if p.Kind=1 then IntKind.u64.wrap (Zcd .u64 (IntKind.u64.wrap (Zcd .u64 (IntKind.u64.wrap (IntKind.u32.wrap (IntKind.u32.wrap p.Off * 2 ^ min (Int.toNat 2) 32))) (IntKind.u64.wrap (IntKind.u64.wrap p.Data * 2 ^ min (Int.toNat 32) 64)))) (IntKind.u64.wrap (IntKind.u64.wrap p.Ptrs * 2 ^ min (Int.toNat 48) 64)))
 else if p.Kind=2 then IntKind.u64.wrap (Zcd .u64 (IntKind.u64.wrap (Zcd .u64 (IntKind.u64.wrap (Zcd .u64 1 (IntKind.u64.wrap (IntKind.u32.wrap (IntKind.u32.wrap p.Off * 2 ^ min (Int.toNat 2) 32))))) (IntKind.u64.wrap (IntKind.u64.wrap p.Code * 2 ^ min (Int.toNat 32) 64)))) (IntKind.u64.wrap (IntKind.u64.wrap p.Count * 2 ^ min (Int.toNat 35) 64)))
 else if p.Kind=3 then
  if p.Double=true then IntKind.u64.wrap (Zcd .u64 (IntKind.u64.wrap (Zcd .u64 (IntKind.u64.wrap (Zcd .u64 2 (IntKind.u64.wrap (IntKind.u64.wrap p.Off * 2 ^ min (Int.toNat 3) 64)))) (IntKind.u64.wrap (IntKind.u64.wrap p.Segment * 2 ^ min (Int.toNat 32) 64)))) 4)
  else IntKind.u64.wrap (Zcd .u64 (IntKind.u64.wrap (Zcd .u64 2 (IntKind.u64.wrap (IntKind.u64.wrap p.Off * 2 ^ min (Int.toNat 3) 64)))) (IntKind.u64.wrap (IntKind.u64.wrap p.Segment * 2 ^ min (Int.toNat 32) 64)))
 else 0
theorem Ych (p:Z8):Zqb p=some (Zxy p):=by
 unfold Zqb Zxy
 by_cases h1:p.Kind=1
 ·simp [h1]
 by_cases h2:p.Kind=2
 ·simp [h2]
 by_cases h3:p.Kind=3
 ·by_cases hd:p.Double=true <;> simp [h3,hd]
 simp [h1,h2,h3,Vb h1,Vb h2,Vb h3]
theorem Zyx (x:Int):∃ w:Nat,IntKind.u64.wrap x=(w:Int)∧w < 18446744073709551616:=by
 refine ⟨(x % 18446744073709551616).toNat,?_,by omega⟩
 simp [IntKind.wrap,IntKind.bits,IntKind.signed]
 omega
theorem Z6l (p:Z8):∃ w:Nat,Zxy p=(w:Int)∧w < 18446744073709551616:=by
 unfold Zxy
 split
 ·exact Zyx _
 split
 ·exact Zyx _
 split
 ·split <;> exact Zyx _
 exact ⟨0,rfl,by decide⟩
theorem Z01 (x:Nat) (h:x < 18446744073709551616):IntKind.u64.wrap (x:Int)=(x:Int):=IntWalk.u64_in _ (by omega)
theorem Z76 (w:Nat):IntKind.u64.wrap (IntKind.u32.wrap (IntKind.u32.wrap (Zm3 w) * 2 ^ min (Int.toNat 2) 32))=((w / 4 % 1073741824 * 2 ^ 2:Nat):Int):=by
 have e:(2:Int) ^ min (Int.toNat 2) 32=4:=by decide
 rw [e,IntKind.wrap_u32,IntKind.wrap_u32]
 unfold Zm3
 rw [IntWalk.u64_in _ (by omega)]
 split <;> omega
theorem Zh9 (x y:Nat) (hx:x < 18446744073709551616) (hy:y < 18446744073709551616):IntKind.u64.wrap (Zcd .u64 x y)=((x ||| y:Nat):Int):=by
 rw [Yci x y hx hy,Z01 _ (by have:=Nat.or_lt_two_pow (n:=64) (show x < 2 ^ 64 by omega) (show y < 2 ^ 64 by omega);omega)]
theorem Zv1 (x k:Nat) (hx:x < 18446744073709551616) (hk:k≤64) (h:x * 2 ^ k < 18446744073709551616):IntKind.u64.wrap (IntKind.u64.wrap (x:Int) * 2 ^ min (Int.toNat (k:Int)) 64)=((x * 2 ^ k:Nat):Int):=by
 have e:min (Int.toNat (k:Int)) 64=k:=by omega
 have e2:((x:Int) * (2:Int) ^ k)=((x * 2 ^ k:Nat):Int):=by simp
 rw [Z01 x hx,e,e2,Z01 _ h]
theorem Z8t (w:Nat) (hw:w < 18446744073709551616) (h3:¬ (Zd3 w).Kind=4):Zxy (Zd3 w)=(w:Int):=by
 by_cases h0:w=0
 ·subst h0;rfl
 by_cases h1:w % 4=0
 ·have e:Zd3 w=⟨1,Zm3 w,(w / 4294967296 % 65536:Nat),(w / 281474976710656 % 65536:Nat),0,0,0,false⟩:=by simp [Zd3,h0,h1]
  rw [e]
  unfold Zxy
  rw [if_pos rfl]
  simp only
  have s1:=Zv1 (w / 4294967296 % 65536) 32 (by omega) (by decide) (by omega)
  have s2:=Zv1 (w / 281474976710656 % 65536) 48 (by omega) (by decide) (by omega)
  rw [show ((32:Nat):Int)=32 from rfl] at s1
  rw [show ((48:Nat):Int)=48 from rfl] at s2
  rw [Z76,s1,s2,Zh9 _ _ (by omega) (by omega),Zjv 32 _ _ (by omega),Zh9 _ _ (by omega) (by omega),Zjv 48 _ _ (by omega)]
  omega
 by_cases h2:w % 4=1
 ·have e:Zd3 w=⟨2,Zm3 w,0,0,(w / 4294967296 % 8:Nat),(w / 34359738368 % 536870912:Nat),0,false⟩:=by simp [Zd3,h0,h1,h2]
  rw [e]
  unfold Zxy
  rw [if_neg (by simp),if_pos rfl]
  simp only
  have s1:=Zv1 (w / 4294967296 % 8) 32 (by omega) (by decide) (by omega)
  have s2:=Zv1 (w / 34359738368 % 536870912) 35 (by omega) (by decide) (by omega)
  rw [show ((32:Nat):Int)=32 from rfl] at s1
  rw [show ((35:Nat):Int)=35 from rfl] at s2
  have l1:=Zh9 1 (w / 4 % 1073741824 * 2 ^ 2) (by decide) (by omega)
  rw [show ((1:Nat):Int)=1 from rfl,Zjv 2 1 _ (by decide)] at l1
  rw [Z76,s1,s2,l1,Zh9 _ _ (by omega) (by omega),Zjv 32 _ _ (by omega),Zh9 _ _ (by omega) (by omega),Zjv 35 _ _ (by omega)]
  omega
 by_cases h4:w % 4=2
 ·have e:Zd3 w=⟨3,(w / 8 % 536870912:Nat),0,0,0,0,(w / 4294967296 % 4294967296:Nat),decide (w / 4 % 2=1)⟩:=by simp [Zd3,h0,h1,h2,h4]
  rw [e]
  unfold Zxy
  rw [if_neg (by simp),if_neg (by simp),if_pos rfl]
  simp only
  have s1:=Zv1 (w / 8 % 536870912) 3 (by omega) (by decide) (by omega)
  have s2:=Zv1 (w / 4294967296 % 4294967296) 32 (by omega) (by decide) (by omega)
  rw [show ((3:Nat):Int)=3 from rfl] at s1
  rw [show ((32:Nat):Int)=32 from rfl] at s2
  have l1:=Zh9 2 (w / 8 % 536870912 * 2 ^ 3) (by decide) (by omega)
  rw [show ((2:Nat):Int)=2 from rfl,Zjv 3 2 _ (by decide)] at l1
  rw [s1,s2,l1,Zh9 _ _ (by omega) (by omega),Zjv 32 _ _ (by omega)]
  by_cases hb:w / 4 % 2=1
  ·rw [if_pos (by simpa using hb)]
   have l2:=Zh9 (2+w / 8 % 536870912 * 2 ^ 3+w / 4294967296 % 4294967296 * 2 ^ 32) 4 (by omega) (by decide)
   rw [show ((4:Nat):Int)=4 from rfl] at l2
   rw [l2]
   have:(2+w / 8 % 536870912 * 2 ^ 3+w / 4294967296 % 4294967296 * 2 ^ 32) ||| 4=2+w / 8 % 536870912 * 2 ^ 3+w / 4294967296 % 4294967296 * 2 ^ 32+4:=by
    have e1:2+w / 8 % 536870912 * 2 ^ 3+w / 4294967296 % 4294967296 * 2 ^ 32=2 ^ 3 * (w / 8 % 536870912+w / 4294967296 % 4294967296 * 2 ^ 29)+2:=by omega
    rw [e1]
    generalize w / 8 % 536870912+w / 4294967296 % 4294967296 * 2 ^ 29=q
    conv=>lhs;rw [Nat.two_pow_add_eq_or_of_lt (by decide),Nat.or_assoc,show (2 ||| 4:Nat)=6 from rfl,← Nat.two_pow_add_eq_or_of_lt (by decide)]
   rw [this]
   omega
  rw [if_neg (by simpa using hb)]
  omega
 exact absurd (by simp [Zd3,h0,h1,h2,h4]) h3
theorem Z9b (p q:Z8):((p.Kind == q.Kind) && ((p.Off == q.Off) && ((p.Data == q.Data) && ((p.Ptrs == q.Ptrs) && ((p.Code == q.Code) && ((p.Count == q.Count) && ((p.Segment == q.Segment) && (p.Double == q.Double))))))))=true↔p=q:=by
 cases p;cases q
 simp [and_assoc]
open Classical in
/-- what 'Encode' tells -/
theorem Z5w (p:Z8):∃ w:Nat,w < 18446744073709551616∧Zxy p=(w:Int)∧Zan p=some ((w:Int),decide (p.Kind≠4∧Zd3 w=p)):=by
 obtain ⟨w,hw,hlt⟩:=Z6l p
 refine ⟨w,hlt,hw,?_⟩
 unfold Zan
 rw [Ych,hw]
 simp only [Option.bind_some,Zzb w hlt]
 by_cases h4:p.Kind=4
 ·simp [h4]
 have hk:(p.Kind != 4)=true:=by simp [h4]
 rw [hk]
 simp only [cond_true,Option.bind_some,Option.some.injEq,Prod.mk.injEq,true_and]
 rw [Bool.eq_iff_iff,Z9b]
 simp [h4]
theorem Zs9 (w:Nat) (hw:w < 18446744073709551616) (h:¬ (Zd3 w).Kind=4):Zan (Zd3 w)=some ((w:Int),true):=by
 obtain ⟨v,hv,h1,h2⟩:=Z5w (Zd3 w)
 have:v=w:=by have:=Z8t w hw h;omega
 subst this
 rw [h2]
 simp [h]
theorem Yo {x:Int} (h1:-9223372036854775808≤x) (h2:x≤9223372036854775807):IntKind.i64.wrap x=x:=Ul ⟨h1,h2⟩
theorem Zd8 {i n:Nat} (h:i < n):decide ((i:Int) < (n:Int))=true:=by rw [decide_eq_true_eq];omega
theorem Zd7 {n:Nat}:decide ((n:Int) < (n:Int))=false:=by rw [decide_eq_false_iff_not];omega
structure WS (l:List (List Int)):Prop where
 n:l.length * 24≤140737488355328
 s:∀ x∈l,x.length * 8≤140737488355328
 w:∀ x∈l,∀ w∈x,0≤w∧w < 18446744073709551616
theorem Zvz {l:List Int} (h:l.length * 8≤140737488355328):Xf l=some l:=by
 unfold Xf
 rw [Zag (by simp only [List.length_nil];omega) (by simp only [List.length_nil];omega),List.nil_append]
theorem Z70 {α:Type} (l:List α) (n:Nat) (v:α):Y5 l (n:Int) v=l.set n v:=by unfold Y5;rw [Int.toNat_natCast]
theorem Zrt {l:List (List Int)} (h:WS l):∀ (r:List (List Int)) (i:Nat),l.drop i=r→i≤l.length →
  Z6 (Vk l) ((i:Int),l.take i++List.replicate r.length [])=some l
 | [],i,hd,hi=>by
  have hl:i=l.length:=by
   have:=congrArg List.length hd
   rw [List.length_drop,List.length_nil] at this;omega
  subst hl
  refine Yr ?_
  unfold Vk
  simp only
  rw [Zd7,cond_false]
  simp
 | x::r,i,hd,hi=>by
  have hi':i < l.length:=by
   rcases Nat.lt_or_ge i l.length with q | q
   ·exact q
   rw [List.drop_eq_nil_of_le q] at hd;cases hd
  have hx:l[i]? = some x:=by
   have:=congrArg (·[0]?) hd
   simpa using this
  have hm:=List.mem_of_getElem? hx
  have hd':l.drop (i+1)=r:=by
   have:=congrArg (List.drop 1) hd
   rw [List.drop_drop] at this
   simpa [] using this
  have hn:=h.n
  have hlen:(l.take i).length=i:=by rw [List.length_take];omega
  have hg:Z9 (l.take i++List.replicate (r.length+1) []) (i:Int)=some ([]:List Int):=Xh (by rw [List.getElem?_append_right (by omega),hlen,Nat.sub_self];rfl)
  have hstep:Vk l ((i:Int),l.take i++List.replicate (r.length+1) [])=some (.inl (((i+1:Nat):Int),l.take (i+1)++List.replicate r.length [])):=by
   unfold Vk
   simp only
   rw [Zd8 hi',cond_true,Xh hx,Option.bind_some,Zvz (h.s x hm),Option.bind_some,hg,Option.bind_some,Yo (by omega) (by omega),Z70,List.set_append_right _ _ (by omega),hlen,Nat.sub_self,List.replicate_succ,List.set_cons_zero,List.take_add_one,hx,List.append_assoc]
   rfl
  rw [List.length_cons,Xc hstep]
  exact Zrt h r (i+1) hd' (by omega)
theorem Z3x {l:List (List Int)} (h:WS l):Zaz l=some l:=by
 have hn:=h.n
 have:=Zrt h l 0 rfl (Nat.zero_le _)
 rw [List.take_zero,List.nil_append,show (((0:Nat):Int))=0 from rfl] at this
 unfold Zaz
 rw [Zo8 (by omega) (by omega) (by omega),Option.bind_some,Int.toNat_natCast,this]
 rfl
theorem Ya3 {l:List (List Int)} (h:WS l):Zfb l=some (some ⟨l,0,0⟩):=by
 unfold Zfb
 rw [Z3x h,Option.bind_some]
def seg (l:List (List Int)) (s:Int):List Int:=(l[s.toNat]?).getD []
def inB (l:List (List Int)) (s a n:Int):Bool:=decide (0≤s) && (decide (s < l.length) && (decide (0≤a) && (decide (0≤n) && decide (a+n≤(seg l s).length))))
theorem inB_iff {l:List (List Int)} {s a n:Int}:inB l s a n=true↔0≤s∧s < l.length∧0≤a∧0≤n∧a+n≤(seg l s).length:=by
 unfold inB
 simp only [Bool.and_eq_true,decide_eq_true_eq]
theorem Zb9 {l:List (List Int)} {s:Int} (h0:0≤s) (h1:s < l.length):Z9 l s=some (seg l s)∧seg l s∈l:=by
 have hs:s.toNat < l.length:=by omega
 unfold seg Z9
 rw [if_pos h0,List.getElem?_eq_getElem hs]
 exact ⟨rfl,List.getElem_mem hs⟩
def wd (l:List (List Int)) (s a:Int):Int:=((seg l s)[a.toNat]?).getD 0
theorem Zro {l:List (List Int)} {s a:Int} (h:inB l s a 1=true):Z9 (seg l s) a=some (wd l s a)∧wd l s a∈seg l s:=by
 rw [inB_iff] at h
 have ha:a.toNat < (seg l s).length:=by omega
 unfold wd Z9
 rw [if_pos h.2.2.1,List.getElem?_eq_getElem ha]
 exact ⟨rfl,List.getElem_mem ha⟩
theorem Zi1 {l:List (List Int)} (hw:WS l) (s a:Int):0≤wd l s a∧wd l s a < 18446744073709551616:=by
 unfold wd
 cases h:(seg l s)[a.toNat]? with
 | none=>simp
 | some w =>
  have hm:=List.mem_of_getElem? h
  unfold seg at hm
  cases hs:l[s.toNat]? with
  | none=>rw [hs] at hm;cases hm
  | some x=>rw [hs] at hm;exact hw.w x (List.mem_of_getElem? hs) w hm
theorem Zir {l:List (List Int)} (hw:WS l) (s:Int):(seg l s).length * 8≤140737488355328:=by
 unfold seg
 cases hs:l[s.toNat]? with
 | none=>simp
 | some x=>exact hw.s x (List.mem_of_getElem? hs)
section
variable {A:Zr}
theorem Z8i:Gm (some A)=some (A.segments.length:Int):=rfl
theorem Zvc (s:Int):J0 (some A) s=some (decide (0≤s) && decide (s < A.segments.length)):=by
 unfold J0
 rw [Z8i,Option.bind_some]
 cases decide (0≤s) <;> rfl
theorem Z5l (s:Int):Ki (some A) s=some (if 0≤s∧s < A.segments.length then ((seg A.segments s).length:Int) else 0):=by
 unfold Ki
 rw [Zvc,Option.bind_some]
 by_cases h:0≤s∧s < A.segments.length
 ·rw [decide_eq_true h.1,decide_eq_true h.2,if_pos h,Option.bind_some,(Zb9 h.1 h.2).1]
  rfl
 rw [if_neg h,show (decide (0≤s) && decide (s < A.segments.length))=false from by rw [Bool.and_eq_false_iff,decide_eq_false_iff_not,decide_eq_false_iff_not];omega]
 rfl
theorem Zw9 (hw:WS A.segments) (s a n:Int):Ju (some A) s a n=some (inB A.segments s a n):=by
 have hl:=Zir hw s
 unfold Ju inB
 rw [Zvc,Z5l,Option.bind_some]
 by_cases h:0≤s∧s < A.segments.length
 ·rw [if_pos h,decide_eq_true h.1,decide_eq_true h.2]
  by_cases h2:0≤a
  ·by_cases h3:0≤n
   ·by_cases h4:n≤((seg A.segments s).length:Int)
    ·simp only [decide_eq_true h2,decide_eq_true h3,Bool.and_true,Bool.true_and,cond_true,Option.bind_some,decide_eq_true h4]
     rw [Yo (by omega) (by omega)]
     congr 1
     rw [Bool.eq_iff_iff,decide_eq_true_eq,decide_eq_true_eq]
     omega
    simp only [decide_eq_true h2,decide_eq_true h3,Bool.and_true,Bool.true_and,cond_true,cond_false,Option.bind_some,decide_eq_false h4]
    rw [show decide (a+n≤((seg A.segments s).length:Int))=false from by rw [decide_eq_false_iff_not];omega]
   rw [decide_eq_true h2,decide_eq_false h3];rfl
  rw [decide_eq_false h2];rfl
 rw [show (decide (0≤s) && decide (s < A.segments.length))=false from by rw [Bool.and_eq_false_iff,decide_eq_false_iff_not,decide_eq_false_iff_not];omega]
 rw [← Bool.and_assoc,show (decide (0≤s) && decide (s < A.segments.length))=false from by rw [Bool.and_eq_false_iff,decide_eq_false_iff_not,decide_eq_false_iff_not];omega]
 rfl
theorem Zon (hw:WS A.segments) (s a:Int):Qd (some A) s a=some (if inB A.segments s a 1=true then (wd A.segments s a,true) else (0,false)):=by
 unfold Qd
 rw [Zw9 hw,Option.bind_some]
 cases h:inB A.segments s a 1 with
 | false=>rfl
 | true =>
  have h':=inB_iff.1 h
  rw [Bool.not_true,cond_false,Option.bind_some,(Zb9 h'.1 h'.2.1).1,Option.bind_some,(Zro h).1]
  rfl
theorem Z5k (hw:WS A.segments) (s a n:Int):Vq (some A) s a n=some (if inB A.segments s a n=true then (((seg A.segments s).drop a.toNat).take n.toNat,true) else ([],false)):=by
 have hl:=Zir hw s
 unfold Vq
 rw [Zw9 hw,Option.bind_some]
 cases h:inB A.segments s a n with
 | false=>rfl
 | true =>
  have h':=inB_iff.1 h
  rw [Bool.not_true,cond_false,Option.bind_some,(Zb9 h'.1 h'.2.1).1,Option.bind_some,Yo (by omega) (by omega),Zsv (by omega) (by omega) (by omega),Option.bind_some,show a+n - a=n by omega,Zvz (by rw [List.length_take,List.length_drop];omega)]
  rfl
end
def dc (w:Int):Z8:=Zd3 w.toNat
theorem Zza {w:Int} (h:0≤w∧w < 18446744073709551616):Jz w=some (dc w):=by
 have:=Zzb w.toNat (by omega)
 rwa [show ((w.toNat:Nat):Int)=w by omega] at this
theorem Zue {w:Int} (h:0≤w∧w < 18446744073709551616):Xd w=some (dc w):=by
 have:=Z4n w.toNat (by omega)
 rwa [show ((w.toNat:Nat):Int)=w by omega] at this
structure PB (p:Z8):Prop where
 k:p.Kind=0∨p.Kind=1∨p.Kind=2∨p.Kind=3∨p.Kind=4
 o:-536870912≤p.Off∧p.Off < 536870912
 d:0≤p.Data∧p.Data < 65536
 q:0≤p.Ptrs∧p.Ptrs < 65536
 c:0≤p.Code∧p.Code < 8
 n:0≤p.Count∧p.Count < 536870912
 s:0≤p.Segment∧p.Segment < 4294967296
 f:p.Kind=3→0≤p.Off
 z:p.Kind=0∨p.Kind=4→p.Off=0
theorem Z87 (w:Nat):-536870912≤Zm3 w∧Zm3 w < 536870912:=by
 unfold Zm3
 split <;> omega
theorem Zje (w:Int):PB (dc w):=by
 have ho:=Z87 w.toNat
 unfold dc Zd3
 split
 ·exact ⟨.inl rfl,by simp,by simp,by simp,by simp,by simp,by simp,by simp,by simp⟩
 split
 ·exact ⟨.inr (.inl rfl),ho,by simp only;omega,by simp only;omega,by simp,by simp,by simp,by simp,by simp⟩
 split
 ·exact ⟨.inr (.inr (.inl rfl)),ho,by simp,by simp,by simp only;omega,by simp only;omega,by simp,by simp,by simp⟩
 split
 ·exact ⟨.inr (.inr (.inr (.inl rfl))),by simp only;omega,by simp,by simp,by simp,by simp,by simp only;omega,fun _=>by simp only;omega,by simp⟩
 exact ⟨.inr (.inr (.inr (.inr rfl))),by simp,by simp,by simp,by simp,by simp,by simp,by simp,by simp⟩
def wdt (c:Int):Int:=if c=0 then 0 else if c=1 then 1 else if c=2 then 8 else if c=3 then 16 else if c=4 then 32 else 64
def pw (p:Z8):Int:=if p.Kind=1 then p.Data+p.Ptrs else if p.Code=7 then p.Count+1 else (p.Count * wdt p.Code+63) / 64
theorem c7 {c:Int} (h:0≤c∧c < 8) (h7:¬ c=7):c=0∨c=1∨c=2∨c=3∨c=4∨c=5∨c=6:=by omega
theorem Z8a {c:Int} (h:0≤c∧c < 8) (h7:¬ c=7):Zbm c=some (wdt c):=by
 unfold Zbm
 rcases c7 h h7 with rfl | rfl | rfl | rfl | rfl | rfl | rfl <;> rfl
theorem Yct {p:Z8} (h:PB p):0≤pw p∧pw p≤1073741824:=by
 have:=h.d;have:=h.q;have hn:=h.n
 unfold pw
 split
 ·omega
 split
 ·omega
 rename_i h7
 rcases c7 h.c h7 with q | q | q | q | q | q | q <;> rw [q] <;> unfold wdt <;> simp <;> omega
theorem Z8d {p:Z8} (h:PB p):Qr p=some (if p.Kind=1∨p.Kind=2 then (pw p,true) else (0,false)):=by
 have hd:=h.d;have hp:=h.q;have hn:=h.n
 unfold Qr pw
 by_cases k1:p.Kind=1
 ·rw [show (p.Kind == 1)=true from by rw [k1];rfl,cond_true,if_pos (.inl k1),if_pos k1,Yo (by omega) (by omega)]
 rw [show (p.Kind == 1)=false from Vb k1,cond_false]
 by_cases k2:p.Kind=2
 ·rw [show (p.Kind == 2)=true from by rw [k2];rfl,cond_true,if_pos (.inr k2),if_neg k1]
  by_cases c7':p.Code=7
  ·rw [show (p.Code == 7)=true from by rw [c7'];rfl,cond_true,if_pos c7',Yo (by omega) (by omega)]
  rw [show (p.Code == 7)=false from Vb c7',cond_false,if_neg c7',decide_eq_true h.c.1,show decide (p.Code < 7)=true from by rw [decide_eq_true_eq];have:=h.c;omega,decide_eq_true hn.1,show decide (p.Count≤536870911)=true from by rw [decide_eq_true_eq];omega]
  simp only [cond_true]
  rw [Z8a h.c c7',Option.bind_some]
  have hw:0≤wdt p.Code∧wdt p.Code≤64:=by unfold wdt;repeat' split;all_goals omega
  have h1:0≤p.Count * wdt p.Code:=Int.mul_nonneg hn.1 hw.1
  have h2:p.Count * wdt p.Code≤536870912 * 64:=Int.mul_le_mul (by omega) hw.2 hw.1 (by omega)
  rw [Yo (x:=p.Count * wdt p.Code) (by omega) (by omega),Yo (x:=p.Count * wdt p.Code+63) (by omega) (by omega),Int.tdiv_eq_ediv_of_nonneg (by omega),Yo (by omega) (by omega)]
 rw [show (p.Kind == 2)=false from Vb k2,if_neg (by omega)]
 rfl
theorem Z4w {p:Z8} (h:PB p) (hk:p.Kind=1∨p.Kind=2):Vr p=some (pw p):=by
 have hd:=h.d;have hp:=h.q;have hn:=h.n;have hc:=h.c
 unfold Vr pw
 by_cases k1:p.Kind=1
 ·rw [show (p.Kind == 1)=true from by rw [k1];rfl,cond_true,if_pos k1,Yo (by omega) (by omega)]
 have k2:p.Kind=2:=by omega
 rw [show (p.Kind == 1)=false from Vb k1,cond_false,show (p.Kind != 2)=false from by rw [k2];rfl,cond_false,if_neg k1]
 by_cases c7':p.Code=7
 ·rw [show (p.Code == 7)=true from by rw [c7'];rfl,cond_true,if_pos c7',Yo (by omega) (by omega)]
 rw [show (p.Code == 7)=false from Vb c7',cond_false,if_neg c7',show decide (p.Code < 0)=false from by rw [decide_eq_false_iff_not];omega,show decide (6 < p.Code)=false from by rw [decide_eq_false_iff_not];omega,show decide (p.Count < 0)=false from by rw [decide_eq_false_iff_not];omega,show decide (536870912≤p.Count)=false from by rw [decide_eq_false_iff_not];omega]
 simp only [cond_false]
 have hgen:∀ (k:Int),0 < k→(Y7 (k≠0)).bind (fun _=>cond (decide (0 < Int.tmod p.Count k)) ((Y7 (k≠0)).bind fun _=>some (IntKind.i64.wrap (IntKind.i64.wrap (Int.tdiv p.Count k)+1))) ((Y7 (k≠0)).bind fun _=>some (IntKind.i64.wrap (Int.tdiv p.Count k))))=some (if 0 < p.Count % k then p.Count / k+1 else p.Count / k):=fun k hk=>by
  have hne:k≠0:=by omega
  have h0:0≤p.Count / k:=Int.ediv_nonneg hn.1 (by omega)
  have h1:p.Count / k≤p.Count:=Int.ediv_le_self _ hn.1
  rw [Vj hne,Option.bind_some,Option.bind_some,Option.bind_some,Int.tmod_eq_emod_of_nonneg hn.1,Int.tdiv_eq_ediv_of_nonneg hn.1,Yo (x:=p.Count / k) (by omega) (by omega),Yo (x:=p.Count / k+1) (by omega) (by omega)]
  by_cases q:0 < p.Count % k
  ·rw [if_pos q,decide_eq_true q,cond_true]
  rw [if_neg q,decide_eq_false q,cond_false]
 have hgo:∀ (k:Int),0 < k→(if 0 < p.Count % k then p.Count / k+1 else p.Count / k)=(p.Count+(k - 1)) / k:=fun k hk=>by
  have e:=Int.emod_add_mul_ediv p.Count k
  have e1:=Int.emod_nonneg p.Count (show k≠0 by omega)
  have e2:=Int.emod_lt_of_pos p.Count hk
  split
  ·symm
   have:p.Count+(k - 1)=(p.Count % k - 1)+k * (p.Count / k+1):=by rw [Int.mul_add];omega
   rw [this,Int.add_mul_ediv_left _ _ (by omega),Int.ediv_eq_zero_of_lt (by omega) (by omega)]
   omega
  symm
  have:p.Count+(k - 1)=(k - 1)+k * (p.Count / k):=by omega
  rw [this,Int.add_mul_ediv_left _ _ (by omega),Int.ediv_eq_zero_of_lt (by omega) (by omega)]
  omega
 rcases c7 h.c c7' with q | q | q | q | q | q | q
 ·rw [show (p.Code == 0)=true from by rw [q];rfl,cond_true,Option.bind_some,q]
  simp only [wdt,if_true,Int.mul_zero]
  rfl
 ·rw [show (p.Code == 0)=false from by rw [q];rfl,show (p.Code == 1)=true from by rw [q];rfl,cond_false,cond_true,Option.bind_some]
  simp only
  rw [hgen 64 (by omega),hgo 64 (by omega),q]
  simp [wdt]
 ·rw [show (p.Code == 0)=false from by rw [q];rfl,show (p.Code == 1)=false from by rw [q];rfl,show (p.Code == 2)=true from by rw [q];rfl,cond_false,cond_false,cond_true,Option.bind_some]
  simp only
  rw [hgen 8 (by omega),hgo 8 (by omega),q]
  simp [wdt]
  omega
 ·rw [show (p.Code == 0)=false from by rw [q];rfl,show (p.Code == 1)=false from by rw [q];rfl,show (p.Code == 2)=false from by rw [q];rfl,show (p.Code == 3)=true from by rw [q];rfl,cond_false,cond_false,cond_false,cond_true,Option.bind_some]
  simp only
  rw [hgen 4 (by omega),hgo 4 (by omega),q]
  simp [wdt]
  omega
 ·rw [show (p.Code == 0)=false from by rw [q];rfl,show (p.Code == 1)=false from by rw [q];rfl,show (p.Code == 2)=false from by rw [q];rfl,show (p.Code == 3)=false from by rw [q];rfl,show (p.Code == 4)=true from by rw [q];rfl,cond_false,cond_false,cond_false,cond_false,cond_true,Option.bind_some]
  simp only
  rw [hgen 2 (by omega),hgo 2 (by omega),q]
  simp [wdt]
  omega
 ·rw [show (p.Code == 0)=false from by rw [q];rfl,show (p.Code == 1)=false from by rw [q];rfl,show (p.Code == 2)=false from by rw [q];rfl,show (p.Code == 3)=false from by rw [q];rfl,show (p.Code == 4)=false from by rw [q];rfl,cond_false,cond_false,cond_false,cond_false,cond_false,Option.bind_some]
  simp only
  rw [hgen 1 (by omega),hgo 1 (by omega),q]
  simp [wdt]
  omega
 rw [show (p.Code == 0)=false from by rw [q];rfl,show (p.Code == 1)=false from by rw [q];rfl,show (p.Code == 2)=false from by rw [q];rfl,show (p.Code == 3)=false from by rw [q];rfl,show (p.Code == 4)=false from by rw [q];rfl,cond_false,cond_false,cond_false,cond_false,cond_false,Option.bind_some]
 simp only
 rw [hgen 1 (by omega),hgo 1 (by omega),q]
 simp [wdt]
 omega
def l0:Xr:=⟨⟨0,0,0,0,0,0,0,false⟩,0,0⟩
def Zz9 (p:Z8):Z8:=⟨p.Kind,0,p.Data,p.Ptrs,p.Code,p.Count,p.Segment,p.Double⟩
def tgt (l:List (List Int)) (p:Z8) (s a:Int):Xr×Int :=
 if p.Kind=4 then (l0,9) else if p.Kind=1∨p.Kind=2 then (if inB l s a (pw p)=true then (⟨Zz9 p,s,a⟩,0) else (l0,7)) else (l0,8)
def fol (l:List (List Int)) (s a:Int):Xr×Int :=
 if inB l s a 1=true then
  let p:=dc (wd l s a)
  if p.Kind=0 then (l0,0)
  else if p.Kind=3∧p.Double=true then
   if inB l p.Segment p.Off 2=true then
    let b:=dc (wd l p.Segment p.Off)
    let q:=dc (wd l p.Segment (p.Off+1))
    if b.Kind=3∧b.Double=false then (if q.Kind≠4∧q.Off≠0 then (l0,8) else tgt l q b.Segment b.Off) else (l0,8)
   else (l0,7)
  else if p.Kind=3 then
   if inB l p.Segment p.Off 1=true then
    let q:=dc (wd l p.Segment p.Off)
    tgt l q p.Segment (p.Off+1+q.Off)
   else (l0,7)
  else tgt l p s (a+1+p.Off)
 else (l0,7)
section
variable {A:Zr}
theorem Zlu (hw:WS A.segments) {p:Z8} (h:PB p) (s a:Int):Ga (some A) p s a=some (tgt A.segments p s a):=by
 unfold Ga tgt
 by_cases k4:p.Kind=4
 ·rw [show (p.Kind == 4)=true from by rw [k4];rfl,if_pos k4];rfl
 rw [show (p.Kind == 4)=false from Vb k4,cond_false,if_neg k4,Z8d h,Option.bind_some]
 by_cases k:p.Kind=1∨p.Kind=2
 ·rw [if_pos k,if_pos k]
  simp only [Bool.not_true,cond_false]
  rw [Zw9 hw,Option.bind_some]
  cases inB A.segments s a (pw p) <;> rfl
 rw [if_neg k,if_neg k]
 rfl
theorem Yda {l:List (List Int)} {s a:Int} (h:inB l s a 2=true):((seg l s).drop a.toNat).take (2:Int).toNat=[wd l s a,wd l s (a+1)]:=by
 have h':=inB_iff.1 h
 have h1:a.toNat < (seg l s).length:=by omega
 have h2:a.toNat+1 < (seg l s).length:=by omega
 unfold wd
 rw [show (a+1).toNat=a.toNat+1 by omega,List.getElem?_eq_getElem h1,List.getElem?_eq_getElem h2,show ((2:Int).toNat)=2 from rfl,List.drop_eq_getElem_cons h1,List.drop_eq_getElem_cons h2]
 rfl
theorem Z32 (hw:WS A.segments) (s a:Int):Zb1 (some A) s a=some (if inB A.segments s a 2=true then (if (dc (wd A.segments s a)).Kind=3∧(dc (wd A.segments s a)).Double=false then (if (dc (wd A.segments s (a+1))).Kind≠4∧(dc (wd A.segments s (a+1))).Off≠0 then (l0,8) else tgt A.segments (dc (wd A.segments s (a+1))) (dc (wd A.segments s a)).Segment (dc (wd A.segments s a)).Off) else (l0,8)) else (l0,7)):=by
 unfold Zb1
 rw [Z5k hw,Option.bind_some]
 cases h:inB A.segments s a 2 with
 | false=>rfl
 | true =>
  simp only [if_true,Bool.not_true,cond_false]
  rw [Yda h]
  have g0:Z9 [wd A.segments s a,wd A.segments s (a+1)] 0=some (wd A.segments s a):=rfl
  have g1:Z9 [wd A.segments s a,wd A.segments s (a+1)] 1=some (wd A.segments s (a+1)):=rfl
  rw [g0,Option.bind_some,Zza (Zi1 hw _ _),Option.bind_some,g1,Option.bind_some,Zza (Zi1 hw _ _),Option.bind_some]
  generalize dc (wd A.segments s a)=b
  have hq:=Zje (wd A.segments s (a+1))
  revert hq
  generalize dc (wd A.segments s (a+1))=q
  intro hq
  by_cases b3:b.Kind=3
  ·rw [show (b.Kind != 3)=false from by rw [b3];rfl,cond_false]
   cases bd:b.Double with
   | true=>rw [cond_true,if_neg (by simp)];rfl
   | false =>
    rw [cond_false,if_pos ⟨b3,rfl⟩]
    by_cases hq4:q.Kind=4
    ·rw [show (q.Kind != 4)=false from by rw [hq4];rfl,cond_false,cond_false,if_neg (by simp [hq4]),Zlu hw hq]
     rfl
    rw [show (q.Kind != 4)=true from bne_iff_ne.2 hq4,cond_true]
    by_cases ho:q.Off=0
    ·rw [show (q.Off != 0)=false from by rw [ho];rfl,cond_false,if_neg (by simp [ho]),Zlu hw hq]
     rfl
    rw [show (q.Off != 0)=true from bne_iff_ne.2 ho,cond_true,if_pos ⟨hq4,ho⟩]
    rfl
  rw [show (b.Kind != 3)=true from bne_iff_ne.2 b3,cond_true,cond_true,if_neg (by simp [b3])]
  rfl
theorem Z2p {l:List (List Int)} (hw:WS l) {s a n:Int} (h:inB l s a n=true):0≤a∧a≤17592186044416:=by
 have h':=inB_iff.1 h
 have:=Zir hw s
 omega
theorem Z4y (hw:WS A.segments) (s a:Int):Zb2 (some A) s a=some (if inB A.segments s a 1=true then tgt A.segments (dc (wd A.segments s a)) s (a+1+(dc (wd A.segments s a)).Off) else (l0,7)):=by
 unfold Zb2
 rw [Zon hw,Option.bind_some]
 cases h:inB A.segments s a 1 with
 | false=>rfl
 | true =>
  have ha:=Z2p hw h
  have hq:=Zje (wd A.segments s a)
  have ho:=hq.o
  simp only [if_true,Bool.not_true,cond_false]
  rw [Zza (Zi1 hw _ _),Option.bind_some,Yo (x:=a+1) (by omega) (by omega),Yo (by omega) (by omega),Zlu hw hq]
  rfl
theorem Z34 (hw:WS A.segments) (s a:Int):Zb0 (some A) s a=some (fol A.segments s a):=by
 unfold Zb0 fol
 rw [Zon hw,Option.bind_some]
 cases h:inB A.segments s a 1 with
 | false=>rfl
 | true =>
  have ha:=Z2p hw h
  have hq:=Zje (wd A.segments s a)
  have ho:=hq.o
  simp only [if_true,Bool.not_true,cond_false]
  rw [Zza (Zi1 hw _ _),Option.bind_some]
  revert hq ho
  generalize dc (wd A.segments s a)=p
  intro hq ho
  by_cases k0:p.Kind=0
  ·rw [show (p.Kind == 0)=true from by rw [k0];rfl,cond_true,if_pos k0];rfl
  rw [show (p.Kind == 0)=false from Vb k0,cond_false,if_neg k0]
  by_cases k3:p.Kind=3
  ·rw [show (p.Kind == 3)=true from by rw [k3];rfl,cond_true,cond_true]
   cases hd:p.Double with
   | true=>rw [cond_true,if_pos ⟨k3,rfl⟩,Z32 hw];rfl
   | false=>rw [cond_false,if_neg (by simp),if_pos k3,Z4y hw];rfl
  rw [show (p.Kind == 3)=false from Vb k3,cond_false,cond_false,cond_false,if_neg (by simp [k3]),if_neg k3,Yo (x:=a+1) (by omega) (by omega),Yo (by omega) (by omega),Zlu hw hq]
  rfl
end
def toR (x:Xr):Yd:=⟨x.P,x.Segment,x.At⟩
def Z9z (x:Xr×Int):Yd×Int:=(toR x.1,x.2)
theorem Zss {l:List (List Int)} (hw:WS l) (s a:Int):Ji l s a=some (inB l s a 1):=by
 have hl:=Zir hw s
 unfold Ji inB
 by_cases h1:0≤s
 ·by_cases h2:s < (l.length:Int)
  ·by_cases h3:0≤a
   ·rw [(Zb9 h1 h2).1]
    simp only [decide_eq_true h1,decide_eq_true h2,decide_eq_true h3,cond_true,Option.bind_some,Bool.true_and,show decide ((0:Int)≤1)=true from rfl]
    refine congrArg some ?_
    rw [Bool.eq_iff_iff,decide_eq_true_eq,decide_eq_true_eq]
    omega
   rw [decide_eq_true h1,decide_eq_true h2,decide_eq_false h3];rfl
  rw [decide_eq_true h1,decide_eq_false h2];rfl
 rw [decide_eq_false h1];rfl
theorem Z4u {l:List (List Int)} (hw:WS l) {p:Z8} (h:PB p) (hk:p.Kind=1∨p.Kind=2) (s a:Int):Jd l ⟨p,s,a⟩=some (Z9z (if inB l s a (pw p)=true then (⟨Zz9 p,s,a⟩,0) else (l0,7))):=by
 have hl:=Zir hw s
 have hp:=Yct h
 unfold Jd
 simp only
 rw [Z4w h hk,Option.bind_some]
 have key:∀ b:Bool,inB l s a (pw p) = !b→(cond b (some ((⟨⟨0,0,0,0,0,0,0,false⟩,0,0⟩:Yd),(7:Int))) (some ((⟨⟨p.Kind,0,p.Data,p.Ptrs,p.Code,p.Count,p.Segment,p.Double⟩,s,a⟩:Yd),0)))=some (Z9z (if inB l s a (pw p)=true then (⟨Zz9 p,s,a⟩,0) else (l0,7))):=fun b hb=>by
  rw [hb]
  cases b <;> rfl
 have hin:∀ b:Bool,(b=true↔¬ (0≤s∧s < l.length∧0≤a∧0≤pw p∧a+pw p≤(seg l s).length))→inB l s a (pw p) = !b:=fun b hb=>by
  cases hq:inB l s a (pw p) with
  | true =>
   have:=inB_iff.1 hq
   cases b with
   | false=>rfl
   | true=>exact absurd this (hb.1 rfl)
  | false =>
   cases b with
   | true=>rfl
   | false =>
    have h2:¬ ¬ (0≤s∧s < l.length∧0≤a∧0≤pw p∧a+pw p≤(seg l s).length):=fun q=>by have:=hb.2 q;cases this
    have h3:=inB_iff.2 (Classical.not_not.1 h2)
    rw [hq] at h3
    cases h3
 by_cases h1:s < 0
 ·rw [decide_eq_true h1,cond_true,Option.bind_some]
  exact key true (hin true ⟨fun _=>by omega,fun _=>rfl⟩)
 rw [decide_eq_false h1,cond_false]
 by_cases h2:(l.length:Int)≤s
 ·rw [decide_eq_true h2,cond_true,Option.bind_some]
  exact key true (hin true ⟨fun _=>by omega,fun _=>rfl⟩)
 rw [decide_eq_false h2,cond_false]
 by_cases h3:a < 0
 ·rw [decide_eq_true h3,cond_true,Option.bind_some]
  exact key true (hin true ⟨fun _=>by omega,fun _=>rfl⟩)
 rw [decide_eq_false h3,cond_false,(Zb9 (by omega) (by omega)).1,Option.bind_some]
 by_cases h4:((seg l s).length:Int) < a
 ·rw [decide_eq_true h4,cond_true,Option.bind_some]
  exact key true (hin true ⟨fun _=>by omega,fun _=>rfl⟩)
 rw [decide_eq_false h4,cond_false,cond_false,cond_false,cond_false,cond_false,Option.bind_some,Yo (by omega) (by omega)]
 exact key _ (hin _ (by rw [decide_eq_true_eq];omega))
theorem Zvw {p:Z8}:Jc p=some (if p.Kind=4 then 9 else if p.Kind=1∨p.Kind=2 then 0 else 8):=by
 unfold Jc
 by_cases k4:p.Kind=4
 ·rw [show (p.Kind == 4)=true from by rw [k4];rfl,if_pos k4];rfl
 rw [show (p.Kind == 4)=false from Vb k4,cond_false,if_neg k4]
 by_cases k1:p.Kind=1
 ·rw [show (p.Kind != 1)=false from by rw [k1];rfl,if_pos (.inl k1)];rfl
 rw [show (p.Kind != 1)=true from bne_iff_ne.2 k1,cond_true]
 by_cases k2:p.Kind=2
 ·rw [show (p.Kind != 2)=false from by rw [k2];rfl,if_pos (.inr k2)];rfl
 rw [show (p.Kind != 2)=true from bne_iff_ne.2 k2,if_neg (by omega)];rfl
theorem Zyi {l:List (List Int)} (hw:WS l) {p:Z8} (h:PB p) (s a:Int) {k:Int→Option (Yd×Int)} (hk:k=fun y=>cond (y != 0) (some ((⟨⟨0,0,0,0,0,0,0,false⟩,0,0⟩:Yd),y)) ((Jd l ⟨p,s,a⟩).bind fun y=>some (y.1,y.2))):(Jc p).bind k=some (Z9z (tgt l p s a)):=by
 subst hk
 rw [Zvw,Option.bind_some]
 unfold tgt
 by_cases k4:p.Kind=4
 ·rw [if_pos k4,if_pos k4];rfl
 rw [if_neg k4,if_neg k4]
 by_cases k:p.Kind=1∨p.Kind=2
 ·rw [if_pos k,if_pos k,show ((0:Int) != 0)=false from rfl,cond_false,Z4u hw h k,Option.bind_some]
 rw [if_neg k,if_neg k];rfl
theorem Z7d (p:Z8):(⟨p.Kind,p.Off,p.Data,p.Ptrs,p.Code,p.Count,p.Segment,p.Double⟩:Z8)=p:=by cases p;rfl
theorem Yd9 {l:List (List Int)} {s a:Int} (h0:0≤a):inB l s a 2=(inB l s a 1 && inB l s (a+1) 1):=by
 rw [Bool.eq_iff_iff,Bool.and_eq_true,inB_iff,inB_iff,inB_iff]
 omega
theorem Z15 {l:List (List Int)} (hw:WS l) (s a:Int):J5 l s a=some (Z9z (fol l s a)):=by
 unfold J5 fol
 rw [Zss hw,Option.bind_some]
 cases h:inB l s a 1 with
 | false=>rfl
 | true =>
  have h':=inB_iff.1 h
  have ha:=Z2p hw h
  have hq:=Zje (wd l s a)
  simp only [if_true,Bool.not_true,cond_false]
  rw [(Zb9 h'.1 h'.2.1).1,Option.bind_some,(Zro h).1,Option.bind_some,Zue (Zi1 hw _ _),Option.bind_some]
  revert hq
  generalize dc (wd l s a)=p
  intro hq
  have ho:=hq.o
  by_cases k0:p.Kind=0
  ·rw [show (p.Kind == 0)=true from by rw [k0];rfl,cond_true,if_pos k0];rfl
  rw [show (p.Kind == 0)=false from Vb k0,cond_false,if_neg k0]
  by_cases k3:p.Kind=3
  ·have hf:=hq.f k3
   rw [show (p.Kind == 3)=true from by rw [k3];rfl,cond_true,cond_true,if_pos k3]
   cases hd:p.Double with
   | true =>
    rw [cond_true,if_pos ⟨k3,rfl⟩,Zss hw,Option.bind_some,Yo (by omega) (by omega),Zss hw]
    have h2:=Yd9 (l:=l) (s:=p.Segment) hf
    cases b1:inB l p.Segment p.Off 1 with
    | false =>
     rw [h2,b1]
     rfl
    | true =>
     rw [cond_true,Option.bind_some,Option.bind_some,Bool.not_true,cond_false,h2,b1,Bool.true_and]
     cases b2:inB l p.Segment (p.Off+1) 1 with
     | false=>rfl
     | true =>
      have b1':=inB_iff.1 b1
      rw [Bool.not_true,cond_false,(Zb9 b1'.1 b1'.2.1).1,Option.bind_some,(Zro b1).1,Option.bind_some,Zue (Zi1 hw _ _),Option.bind_some,(Zro b2).1,Option.bind_some,Zue (Zi1 hw _ _),Option.bind_some]
      simp only [if_true]
      generalize dc (wd l p.Segment p.Off)=b
      have hq2:=Zje (wd l p.Segment (p.Off+1))
      revert hq2
      generalize dc (wd l p.Segment (p.Off+1))=q
      intro hq2
      by_cases b3:b.Kind=3
      ·rw [show (b.Kind != 3)=false from by rw [b3];rfl,cond_false]
       cases bd:b.Double with
       | true=>rw [cond_true,if_neg (by simp)];rfl
       | false =>
        rw [cond_false,if_pos ⟨b3,rfl⟩]
        by_cases ho':q.Off=0
        ·rw [if_neg (by simp [ho'])]
         refine Zyi hw hq2 b.Segment b.Off ?_
         funext y
         rw [show (q.Off != 0)=false from by rw [ho'];rfl]
         cases (y == 0) <;> rfl
        rw [Zvw,Option.bind_some,show (q.Off != 0)=true from bne_iff_ne.2 ho']
        by_cases hq4:q.Kind=4
        ·exact absurd (hq2.z (.inr hq4)) ho'
        by_cases hk:q.Kind=1∨q.Kind=2
        ·rw [if_neg hq4,if_pos hk,if_pos ⟨hq4,ho'⟩];rfl
        rw [if_neg hq4,if_neg hk,if_pos ⟨hq4,ho'⟩];rfl
      rw [show (b.Kind != 3)=true from bne_iff_ne.2 b3,cond_true,cond_true,if_neg (by simp [b3])]
      rfl
   | false =>
    rw [cond_false,if_neg (by simp),Zss hw,Option.bind_some]
    cases b1:inB l p.Segment p.Off 1 with
    | false=>rfl
    | true =>
     have b1':=inB_iff.1 b1
     rw [Bool.not_true,cond_false,(Zb9 b1'.1 b1'.2.1).1,Option.bind_some,(Zro b1).1,Option.bind_some,Zue (Zi1 hw _ _),Option.bind_some,Option.bind_some]
     have hq2:=Zje (wd l p.Segment p.Off)
     have ho2:=hq2.o
     have ha2:=Z2p hw b1
     simp only [Z7d]
     rw [Yo (x:=p.Off+1) (by omega) (by omega),Yo (by omega) (by omega)]
     exact Zyi hw hq2 _ _ rfl
  rw [show (p.Kind == 3)=false from Vb k3,cond_false,cond_false,cond_false,if_neg (by simp [k3]),if_neg k3,Option.bind_some]
  simp only [Z7d]
  rw [Yo (x:=a+1) (by omega) (by omega),Yo (by omega) (by omega)]
  exact Zyi hw hq _ _ rfl
theorem Yb4 (l:List Int) (h:∀ w∈l,0≤w∧w < 18446744073709551616) (hl:l.length * 8≤140737488355328):WS [l] :=
 ⟨by simp,fun x hx=>by rw [List.mem_singleton] at hx;subst hx;exact hl,fun x hx=>by rw [List.mem_singleton] at hx;subst hx;exact h⟩
theorem Yb1 {l:List (List Int)} {p:Z8} (h:PB p) {s a:Int}:((tgt l p s a).2≠0∧(tgt l p s a).1=l0)∨((tgt l p s a).2=0∧(p.Kind=1∨p.Kind=2)∧(tgt l p s a).1=⟨Zz9 p,s,a⟩∧inB l s a (pw p)=true):=by
 unfold tgt
 by_cases k4:p.Kind=4
 ·rw [if_pos k4];exact .inl ⟨by simp,rfl⟩
 rw [if_neg k4]
 by_cases k:p.Kind=1∨p.Kind=2
 ·rw [if_pos k]
  by_cases hi:inB l s a (pw p)=true
  ·rw [if_pos hi];exact .inr ⟨rfl,k,rfl,hi⟩
  rw [if_neg hi];exact .inl ⟨by simp,rfl⟩
 rw [if_neg k];exact .inl ⟨by simp,rfl⟩
theorem Z86 {p:Z8} (h:PB p):PB (Zz9 p):=⟨h.k,by simp [Zz9],h.d,h.q,h.c,h.n,h.s,fun _=>by simp [Zz9],fun _=>rfl⟩
theorem Ybe (l:List (List Int)) (s a:Int):((fol l s a).1=l0)∨((fol l s a).2=0∧∃ p s' a',PB p∧p.Off=0∧(p.Kind=1∨p.Kind=2)∧(fol l s a).1=⟨p,s',a'⟩∧inB l s' a' (pw p)=true):=by
 have key:∀ (w s a:Int),((tgt l (dc w) s a).1=l0)∨((tgt l (dc w) s a).2=0∧∃ p s' a',PB p∧p.Off=0∧(p.Kind=1∨p.Kind=2)∧(tgt l (dc w) s a).1=⟨p,s',a'⟩∧inB l s' a' (pw p)=true):=fun w s a=>by
  rcases Yb1 (l:=l) (Zje w) (s:=s) (a:=a) with h | ⟨h1,h2,h3,h4⟩
  ·exact .inl h.2
  exact .inr ⟨h1,Zz9 (dc w),s,a,Z86 (Zje w),rfl,h2,h3,h4⟩
 unfold fol
 by_cases h:inB l s a 1=true
 ·rw [if_pos h]
  simp only
  split
  ·exact .inl rfl
  split
  ·split
   ·split
    ·split
     ·exact .inl rfl
     exact key _ _ _
    exact .inl rfl
   exact .inl rfl
  split
  ·split
   ·exact key _ _ _
   exact .inl rfl
  exact key _ _ _
 rw [if_neg h];exact .inl rfl
def r0:Zd:=⟨none,0,0,0,0,0,0,0,0⟩
def Yk (r:Zd):Int:=if r.kind=1 then r.ptrs else r.count
def atR (A:Zr) (s a:Int):Zd×Int :=
 let x:=fol A.segments s a
 if x.2≠0∨x.1.P.Kind=0 then (r0,x.2)
 else if x.1.P.Kind=1 then (⟨some A,1,x.1.Segment,x.1.At,x.1.P.Data,x.1.P.Ptrs,0,0,0⟩,0)
 else if x.1.P.Code=7 then
  let t:=dc (wd A.segments x.1.Segment x.1.At)
  if (t.Kind≠0∧t.Kind≠1)∨t.Off < 0∨x.1.P.Count < t.Off * (t.Data+t.Ptrs) then (r0,8)
  else (⟨some A,9,x.1.Segment,x.1.At,t.Data,t.Ptrs,t.Off,0,0⟩,0)
 else (⟨some A,x.1.P.Code+2,x.1.Segment,x.1.At,0,0,x.1.P.Count,0,0⟩,0)
inductive OKr (A:Zr):Zd→Prop
 | z:OKr A r0
 | st (s a d p:Int) (hd:0≤d∧d < 65536) (hp:0≤p∧p < 65536) (hi:inB A.segments s a (d+p)=true):OKr A ⟨some A,1,s,a,d,p,0,0,0⟩
 | li (k s a n:Int) (hk:2≤k∧k≤8) (hn:0≤n∧n < 536870912) (hi:inB A.segments s a ((n * wdt (k - 2)+63) / 64)=true):OKr A ⟨some A,k,s,a,0,0,n,0,0⟩
 | co (s a d p n:Int) (hd:0≤d∧d < 65536) (hp:0≤p∧p < 65536) (hn:0≤n∧n < 536870912) (hw:0≤n * (d+p)∧n * (d+p) < 536870912) (hi:inB A.segments s a (n * (d+p)+1)=true):OKr A ⟨some A,9,s,a,d,p,n,0,0⟩
 | at_ (s a c i n:Int) (hc:0≤c∧c≤5) (h0:0≤i) (h1:i < n) (hn:n < 536870912) (hi:inB A.segments s a ((n * wdt c+63) / 64)=true):OKr A ⟨some A,10,s,a,0,0,0,c,i⟩
theorem Ztd (l:List (List Int)) (s a:Int):((fol l s a).2≠0∨(fol l s a).1.P.Kind=0)∨((fol l s a).2=0∧PB (fol l s a).1.P∧((fol l s a).1.P.Kind=1∨(fol l s a).1.P.Kind=2)∧inB l (fol l s a).1.Segment (fol l s a).1.At (pw (fol l s a).1.P)=true):=by
 rcases Ybe l s a with h | ⟨h1,p,s',a',hp,ho,hk,h,hi⟩
 ·rw [h];exact .inl (.inr rfl)
 rw [h];exact .inr ⟨h1,hp,hk,hi⟩
section
variable {A:Zr}
theorem Z2d (w:Int):0≤(dc w).Data∧(dc w).Data < 65536∧0≤(dc w).Ptrs∧(dc w).Ptrs < 65536∧(dc w).Off < 536870912:=by
 have h:=Zje w
 exact ⟨h.d.1,h.d.2,h.q.1,h.q.2,h.o.2⟩
theorem Z6u {n x:Int} (h0:-536870912≤n∧n < 536870912) (h1:0≤x∧x≤131070):-70368744177664≤n * x∧n * x≤70368744177664:=by
 constructor
 ·have:-536870912 * 131070≤n * x:=by
   rcases Int.le_total 0 n with h | h
   ·have:=Int.mul_nonneg h h1.1;omega
   have h2:n * 131070≤n * x:=Int.mul_le_mul_of_nonpos_left h h1.2
   have h3:-536870912 * 131070≤n * 131070:=Int.mul_le_mul_of_nonneg_right h0.1 (by omega)
   omega
  omega
 rcases Int.le_total 0 n with h | h
 ·have h2:n * x≤n * 131070:=Int.mul_le_mul_of_nonneg_left h1.2 h
  have h3:n * 131070≤536870912 * 131070:=Int.mul_le_mul_of_nonneg_right (by omega) (by omega)
  omega
 have:=Int.mul_nonpos_of_nonpos_of_nonneg h h1.1
 omega
theorem Zpx (s a:Int):OKr A (atR A s a).1:=by
 unfold atR
 rcases Ztd A.segments s a with h | ⟨h1,hp,hk,hi⟩
 ·rw [if_pos h];exact .z
 rw [if_neg (by omega)]
 generalize (fol A.segments s a).1=x at *
 by_cases k1:x.P.Kind=1
 ·rw [if_pos k1]
  have:pw x.P=x.P.Data+x.P.Ptrs:=by unfold pw;rw [if_pos k1]
  rw [this] at hi
  exact .st _ _ _ _ hp.d hp.q hi
 rw [if_neg k1]
 have k2:x.P.Kind=2:=by omega
 by_cases c7':x.P.Code=7
 ·rw [if_pos c7']
  have hpw:pw x.P=x.P.Count+1:=by unfold pw;rw [if_neg k1,if_pos c7']
  rw [hpw] at hi
  have ht:=Z2d (wd A.segments x.Segment x.At)
  simp only
  generalize dc (wd A.segments x.Segment x.At)=t at *
  split
  ·exact .z
  rename_i hc
  have hn:=hp.n
  have h0:0≤t.Off * (t.Data+t.Ptrs):=Int.mul_nonneg (by omega) (by omega)
  have hi':=inB_iff.1 hi
  exact .co _ _ _ _ _ (by omega) (by omega) (by omega) (by omega) (inB_iff.2 ⟨hi'.1,hi'.2.1,hi'.2.2.1,by omega,by omega⟩)
 rw [if_neg c7']
 have hpw:pw x.P=(x.P.Count * wdt x.P.Code+63) / 64:=by unfold pw;rw [if_neg k1,if_neg c7']
 rw [hpw] at hi
 have hc:=hp.c
 exact .li _ _ _ _ (by omega) hp.n (by rw [show x.P.Code+2 - 2=x.P.Code by omega];exact hi)
theorem Z5q (hw:WS A.segments) (s a:Int):G3 (some A) s a=some (atR A s a):=by
 unfold G3 atR
 rw [Z34 hw,Option.bind_some]
 simp only
 rcases Ztd A.segments s a with h | ⟨h1,hp,hk,hi⟩
 ·rw [if_pos h]
  have:cond ((fol A.segments s a).2 != 0) true ((fol A.segments s a).1.P.Kind == 0)=true:=by
   rcases h with h | h
   ·rw [bne_iff_ne.2 h];rfl
   rw [show ((fol A.segments s a).1.P.Kind == 0)=true from by rw [h];rfl]
   cases ((fol A.segments s a).2 != 0) <;> rfl
  rw [this,cond_true];rfl
 rw [if_neg (by omega),h1,show ((0:Int) != 0)=false from rfl,cond_false]
 generalize (fol A.segments s a).1=x at *
 rw [show (x.P.Kind == 0)=false from Vb (by omega),cond_false]
 by_cases k1:x.P.Kind=1
 ·rw [if_pos k1,show (x.P.Kind == 1)=true from by rw [k1];rfl,cond_true]
 rw [if_neg k1,show (x.P.Kind == 1)=false from Vb k1,cond_false]
 have hc:=hp.c
 by_cases c7':x.P.Code=7
 ·rw [if_pos c7',show (x.P.Code == 7)=true from by rw [c7'];rfl,cond_true]
  have hpw:pw x.P=x.P.Count+1:=by unfold pw;rw [if_neg k1,if_pos c7']
  rw [hpw] at hi
  have hn:=hp.n
  have hi':=inB_iff.1 hi
  have hi1:inB A.segments x.Segment x.At 1=true:=inB_iff.2 ⟨hi'.1,hi'.2.1,hi'.2.2.1,by omega,by omega⟩
  unfold Gb
  simp only
  rw [Zon hw,if_pos hi1,Option.bind_some,Zza (Zi1 hw _ _),Option.bind_some]
  have ht:=Z2d (wd A.segments x.Segment x.At)
  have ho:=(Zje (wd A.segments x.Segment x.At)).o
  generalize dc (wd A.segments x.Segment x.At)=t at *
  have hm:=Z6u (n:=t.Off) (x:=t.Data+t.Ptrs) ho (by omega)
  rw [Yo (x:=t.Data+t.Ptrs) (by omega) (by omega),Yo (x:=t.Off * (t.Data+t.Ptrs)) (by omega) (by omega),Yo (x:=x.P.Code+2) (by omega) (by omega),c7']
  by_cases hq:(t.Kind≠0∧t.Kind≠1)∨t.Off < 0∨x.P.Count < t.Off * (t.Data+t.Ptrs)
  ·rw [if_pos hq]
   have:cond (cond (cond (t.Kind != 0) (t.Kind != 1) false) true (decide (t.Off < 0))) true (decide (x.P.Count < t.Off * (t.Data+t.Ptrs)))=true:=by
    rcases hq with ⟨q1,q2⟩ | q | q
    ·rw [bne_iff_ne.2 q1,bne_iff_ne.2 q2];rfl
    ·rw [decide_eq_true q];cases (cond (t.Kind != 0) (t.Kind != 1) false) <;> rfl
    rw [decide_eq_true q];cases (cond (cond (t.Kind != 0) (t.Kind != 1) false) true (decide (t.Off < 0))) <;> rfl
   rw [this,cond_true];rfl
  rw [if_neg hq]
  have e1:cond (t.Kind != 0) (t.Kind != 1) false=false:=by
   by_cases q0:t.Kind=0
   ·rw [show (t.Kind != 0)=false from by rw [q0];rfl];rfl
   have q1:t.Kind=1:=by omega
   rw [show (t.Kind != 1)=false from by rw [q1];rfl]
   cases (t.Kind != 0) <;> rfl
  rw [e1,cond_false,show decide (t.Off < 0)=false from by rw [decide_eq_false_iff_not];omega,cond_false,show decide (x.P.Count < t.Off * (t.Data+t.Ptrs))=false from by rw [decide_eq_false_iff_not];omega]
  rfl
 rw [if_neg c7',show (x.P.Code == 7)=false from Vb c7',cond_false,Yo (x:=x.P.Code+2) (by omega) (by omega)]
theorem Zpo (r:Zd):Q4 r=some (Yk r):=by
 unfold Q4 Yk
 by_cases h:r.kind=1
 ·rw [if_pos h,show (r.kind == 1)=true from by rw [h];rfl];rfl
 rw [if_neg h,show (r.kind == 1)=false from Vb h];rfl
def Xj (A:Zr) (r:Zd) (i:Int):Zd×Int :=
 if i < 0∨Yk r≤i then (r0,0)
 else if r.kind=1 then atR A r.segment (r.at_+r.words+i)
 else if r.kind=8 then atR A r.segment (r.at_+i)
 else if r.kind=9 then (⟨some A,1,r.segment,r.at_+1+i * (r.words+r.ptrs),r.words,r.ptrs,0,0,0⟩,0)
 else (⟨some A,10,r.segment,r.at_,0,0,0,r.kind - 2,i⟩,0)
theorem Un {r:Zd} (h:OKr A r) (i:Int):OKr A (Xj A r i).1:=by
 unfold Xj
 by_cases hi:i < 0∨Yk r≤i
 ·rw [if_pos hi];exact .z
 rw [if_neg hi]
 by_cases k1:r.kind=1
 ·rw [if_pos k1];exact Zpx _ _
 rw [if_neg k1]
 by_cases k8:r.kind=8
 ·rw [if_pos k8];exact Zpx _ _
 rw [if_neg k8]
 by_cases k9:r.kind=9
 ·rw [if_pos k9]
  cases h with
  | z=>simp [r0] at k9
  | st _ _ _ _=>simp at k1
  | li k s a n hk=>simp only at k9;omega
  | at_=>simp at k9
  | co s a d p n hd hp hn hw hin =>
   simp only
   have hi':=inB_iff.1 hin
   simp only [Yk] at hi
   rw [if_neg (by omega)] at hi
   have h1:0≤i * (d+p):=Int.mul_nonneg (by omega) (by omega)
   have h2:(i+1) * (d+p)≤n * (d+p):=Int.mul_le_mul_of_nonneg_right (by omega) (by omega)
   rw [Int.add_mul,Int.one_mul] at h2
   exact .st _ _ _ _ hd hp (inB_iff.2 ⟨hi'.1,hi'.2.1,by omega,by omega,by omega⟩)
 rw [if_neg k9]
 cases h with
 | z=>simp [r0,Yk] at hi;omega
 | st _ _ _ _=>simp at k1
 | co=>simp at k9
 | at_=>simp [Yk] at hi;omega
 | li k s a n hk hn hin =>
  simp only at k8 k9 ⊢
  simp only [Yk] at hi
  rw [if_neg (by omega)] at hi
  exact .at_ _ _ _ _ n (by omega) (by omega) (by omega) (by omega) hin
theorem Zo7 (hw:WS A.segments) {s a n:Int} (h:inB A.segments s a n=true):0≤a∧0≤n∧a+n≤17592186044416:=by
 have h':=inB_iff.1 h
 have:=Zir hw s
 omega
theorem Zts (hw:WS A.segments) {r:Zd} (h:OKr A r) (i:Int):Qy r i=some (Xj A r i):=by
 unfold Qy Xj
 rw [Zpo]
 have hz:(cond (decide (i < 0)) (some true) ((some (Yk r)).bind fun y4=>some (cond (decide (i < 0)) true (decide (y4≤i)))))=some (decide (i < 0∨Yk r≤i)):=by
  by_cases h0:i < 0
  ·rw [decide_eq_true h0,cond_true,show decide (i < 0∨Yk r≤i)=true from decide_eq_true (.inl h0)]
  rw [decide_eq_false h0,cond_false,Option.bind_some,cond_false]
  congr 1
  rw [decide_eq_decide]
  omega
 rw [hz,Option.bind_some]
 by_cases hi:i < 0∨Yk r≤i
 ·rw [if_pos hi,decide_eq_true hi];rfl
 rw [if_neg hi,decide_eq_false hi,cond_false]
 cases h with
 | z=>exact absurd hi (by first | (simp [Yk,r0];done) | (simp [Yk,r0];omega))
 | at_=>exact absurd hi (by first | (simp [Yk];done) | (simp [Yk];omega))
 | st s a d p hd hp hin =>
  have:=Zo7 hw hin
  simp only [Yk,if_true] at hi
  simp only [beq_self_eq_true,cond_true,if_true]
  rw [Yo (x:=a+d) (by omega) (by omega),Yo (by omega) (by omega),Z5q hw]
  rfl
 | co s a d p n hd hp hn hwx hin =>
  have:=Zo7 hw hin
  simp only [Yk] at hi
  rw [if_neg (by omega)] at hi
  simp only [show ((9:Int) == 1)=false from rfl,show ((9:Int) == 8)=false from rfl,show ((9:Int) == 9)=true from rfl,cond_true,cond_false,show ¬ (9:Int)=1 from by decide,show ¬ (9:Int)=8 from by decide,if_false,if_true]
  have h1:0≤i * (d+p):=Int.mul_nonneg (by omega) (by omega)
  have h2:(i+1) * (d+p)≤n * (d+p):=Int.mul_le_mul_of_nonneg_right (by omega) (by omega)
  rw [Int.add_mul,Int.one_mul] at h2
  rw [Yo (x:=a+1) (by omega) (by omega),Yo (x:=d+p) (by omega) (by omega),Yo (x:=i * (d+p)) (by omega) (by omega),Yo (by omega) (by omega)]
 | li k s a n hk hn hin =>
  have:=Zo7 hw hin
  simp only [Yk] at hi
  rw [if_neg (by omega)] at hi
  simp only
  rw [show (k == 1)=false from Vb (by omega),cond_false,if_neg (by omega),show (k == 9)=false from Vb (by omega)]
  by_cases k8:k=8
  ·have hp:(n * wdt (k - 2)+63) / 64=n:=by rw [k8];simp [wdt];omega
   rw [show (k == 8)=true from by rw [k8];rfl,cond_true,if_pos k8,Yo (by omega) (by omega),Z5q hw]
   rfl
  rw [show (k == 8)=false from Vb k8,cond_false,cond_false,if_neg k8,if_neg (by omega),Yo (by omega) (by omega)]
def Zcc (r:Zd):Int:=if r.kind=1 then r.words else if r.kind=10 then 1 else 0
theorem Zvr (r:Zd):Kl r=some (Zcc r):=by
 unfold Kl Zcc
 by_cases h:r.kind=1
 ·rw [if_pos h,show (r.kind == 1)=true from by rw [h];rfl];rfl
 rw [if_neg h,show (r.kind == 1)=false from Vb h]
 by_cases h':r.kind=10
 ·rw [if_pos h',show (r.kind == 10)=true from by rw [h'];rfl];rfl
 rw [if_neg h',show (r.kind == 10)=false from Vb h'];rfl
def Zz7 (w:Int) (c j:Int):Int:=((w.toNat / 2 ^ (j * wdt c).toNat % 2 ^ (wdt c).toNat:Nat):Int)
def each (c:Int):Int:=64 / wdt c
def Z1t (A:Zr) (r:Zd):Int:=if r.code=0 then 0 else Zz7 (wd A.segments r.segment (r.at_+r.index / each r.code)) r.code (r.index % each r.code)
theorem c5 {c:Int} (h:0≤c∧c≤5):c=0∨c=1∨c=2∨c=3∨c=4∨c=5:=by omega
theorem Zw7 {c:Int} (h:0≤c∧c≤5):Qz c=some (wdt c,true):=by
 unfold Qz
 rcases c5 h with rfl | rfl | rfl | rfl | rfl | rfl <;> rfl
theorem Z4d (w:Nat) (k:Nat) (hw:w < 18446744073709551616) (hk:k≤64):IntKind.u64.wrap (Gu .u64 (w:Int) (IntKind.u64.wrap (IntKind.u64.wrap (1 * 2 ^ min (Int.toNat (k:Int)) 64) - 1)))=((w % 2 ^ k:Nat):Int):=by
 have hm:IntKind.u64.wrap (IntKind.u64.wrap (1 * 2 ^ min (Int.toNat (k:Int)) 64) - 1)=((2 ^ k - 1:Nat):Int):=by
  rw [Int.toNat_natCast,Nat.min_eq_left hk,Zx4]
  rcases Nat.lt_or_ge k 64 with h | h
  ·have h1:2 ^ k≤2 ^ 63:=Nat.pow_le_pow_right (by decide) (by omega)
   have h2:0 < 2 ^ k:=Nat.pow_pos (by decide)
   rw [Int.one_mul,Z01 (2 ^ k) (by omega),show (((2 ^ k:Nat):Int) - 1)=((2 ^ k - 1:Nat):Int) by omega,Z01 _ (by omega)]
  have:k=64:=by omega
  subst this
  decide
 rw [hm]
 have e:Gu .u64 (w:Int) ((2 ^ k - 1:Nat):Int)=((w &&& (2 ^ k - 1):Nat):Int):=by
  unfold Gu
  congr 1
  have h1:2 ^ k≤2 ^ 64:=Nat.pow_le_pow_right (by decide) hk
  have h2:0 < 2 ^ k:=Nat.pow_pos (by decide)
  rw [BitVec.toNat_and]
  have e1:(BitVec.ofInt (IntKind.u64).bits (w:Int)).toNat=w:=by
   show (BitVec.ofInt 64 (w:Int)).toNat=w
   rw [BitVec.ofInt_natCast,BitVec.toNat_ofNat]
   exact Nat.mod_eq_of_lt (by omega)
  have e2:(BitVec.ofInt (IntKind.u64).bits ((2 ^ k - 1:Nat):Int)).toNat=2 ^ k - 1:=by
   show (BitVec.ofInt 64 ((2 ^ k - 1:Nat):Int)).toNat=2 ^ k - 1
   rw [BitVec.ofInt_natCast,BitVec.toNat_ofNat]
   exact Nat.mod_eq_of_lt (by omega)
  rw [e1,e2]
 rw [e,Nat.and_two_pow_sub_one_eq_mod]
 have:w % 2 ^ k≤w:=Nat.mod_le _ _
 exact IntWalk.u64_in _ (by omega)
theorem Z94 {w c j:Int} (hw:0≤w∧w < 18446744073709551616) (hc:1≤c∧c≤5) (hj:0≤j∧j < each c):Zfc [w] c j=some (Zz7 w c j):=by
 unfold Zfc Zz7
 rw [Zw7 (by omega),Option.bind_some]
 simp only
 obtain ⟨d,e,hd⟩:∃ d:Nat,wdt c=(d:Int)∧(d=1∨d=8∨d=16∨d=32∨d=64):=by
  rcases c5 (c:=c) (by omega) with rfl | rfl | rfl | rfl | rfl | rfl
  ·omega
  ·exact ⟨1,rfl,by omega⟩
  ·exact ⟨8,rfl,by omega⟩
  ·exact ⟨16,rfl,by omega⟩
  ·exact ⟨32,rfl,by omega⟩
  exact ⟨64,rfl,by omega⟩
 have he:each c=((64 / d:Nat):Int):=by unfold each;rw [e];rfl
 have hdd:64 / d * d=64:=by rcases hd with rfl | rfl | rfl | rfl | rfl <;> rfl
 have hdp:1≤d∧d≤64:=by omega
 have hep:1≤64 / d∧64 / d≤64:=by rcases hd with rfl | rfl | rfl | rfl | rfl <;> decide
 rw [he] at hj
 obtain ⟨q,rfl⟩:∃ q:Nat,j=q:=⟨j.toNat,by omega⟩
 have hq:q < 64 / d:=by omega
 have hqd:q * d+d≤64:=by
  have:(q+1) * d≤64 / d * d:=Nat.mul_le_mul_right d hq
  rw [Nat.add_mul] at this
  omega
 rw [e]
 have t1:Int.tdiv 64 (d:Int)=((64 / d:Nat):Int):=by rw [Int.tdiv_eq_ediv_of_nonneg (by decide)];rfl
 have t2:Int.tdiv (q:Int) ((64 / d:Nat):Int)=0:=by
  rw [Int.tdiv_eq_ediv_of_nonneg (by omega),show ((q:Int) / ((64 / d:Nat):Int))=((q / (64 / d):Nat):Int) from rfl,Nat.div_eq_of_lt hq]
  rfl
 have t3:Int.tmod (q:Int) ((64 / d:Nat):Int)=(q:Int):=by
  rw [Int.tmod_eq_emod_of_nonneg (by omega),show ((q:Int) % ((64 / d:Nat):Int))=((q % (64 / d):Nat):Int) from rfl,Nat.mod_eq_of_lt hq]
 rw [t1,Yo (x:=((64 / d:Nat):Int)) (by omega) (by omega),t2,t3,show IntKind.i64.wrap 0=0 from by decide]
 have t4:((q:Int) * (d:Int))=((q * d:Nat):Int):=by simp
 rw [t4,Yo (x:=((q * d:Nat):Int)) (by omega) (by omega),show (((d:Nat):Int) == 0)=false from Vb (by omega),show decide ((q:Int) < 0)=false from by rw [decide_eq_false_iff_not];omega]
 simp only [cond_false]
 have g0:Z9 [w] 0=some w:=rfl
 have e1:Y7 ((d:Int)≠0)=some ():=Vj (by omega)
 have e2:Y7 (((64 / d:Nat):Int)≠0)=some ():=Vj (by omega)
 have e3:Y7 (0≤((q * d:Nat):Int))=some ():=Vj (by omega)
 have e4:Y7 (0≤(d:Int))=some ():=Vj (by omega)
 simp only [e1,e2,e3,e4,g0,Option.bind_some,cond_false,show decide ((([w]:List Int).length:Int)≤0)=false from rfl]
 congr 1
 have hwn:w=((w.toNat:Nat):Int):=by omega
 have hf:Int.fdiv w (2 ^ min (Int.toNat ((q * d:Nat):Int)) 64)=((w.toNat / 2 ^ (q * d):Nat):Int):=by
  rw [Int.toNat_natCast,Nat.min_eq_left (by omega),Zx4,Int.fdiv_eq_ediv_of_nonneg _ (Int.natCast_nonneg _)]
  conv=>lhs;rw [hwn]
  rfl
 rw [hf,Z4d _ d (Nat.lt_of_le_of_lt (Nat.div_le_self _ _) (by omega)) (by omega)]
 rw [Int.toNat_natCast,Int.toNat_natCast]
end
section
variable {A:Zr}
def Zw8 (A:Zr) (r:Zd) (i:Int):Int :=
 if i < 0∨Zcc r≤i then 0 else if r.kind=10 then Z1t A r else wd A.segments r.segment (r.at_+i)
theorem Z2s {c i n:Int} (hc:1≤c∧c≤5) (h0:0≤i) (h1:i < n) (hn:n < 536870912):1≤each c∧each c≤64∧0≤i / each c∧i / each c+1≤(n * wdt c+63) / 64∧0≤i % each c∧i % each c < each c∧Int.tdiv 64 (wdt c)=each c∧wdt c≠0:=by
 rcases c5 (c:=c) (by omega) with rfl | rfl | rfl | rfl | rfl | rfl
 ·omega
 ·have e1:each 1=64:=by decide
  have e2:wdt 1=1:=by decide
  rw [e1,e2];exact ⟨by omega,by omega,by omega,by omega,by omega,by omega,by decide,by decide⟩
 ·have e1:each 2=8:=by decide
  have e2:wdt 2=8:=by decide
  rw [e1,e2];exact ⟨by omega,by omega,by omega,by omega,by omega,by omega,by decide,by decide⟩
 ·have e1:each 3=4:=by decide
  have e2:wdt 3=16:=by decide
  rw [e1,e2];exact ⟨by omega,by omega,by omega,by omega,by omega,by omega,by decide,by decide⟩
 ·have e1:each 4=2:=by decide
  have e2:wdt 4=32:=by decide
  rw [e1,e2];exact ⟨by omega,by omega,by omega,by omega,by omega,by omega,by decide,by decide⟩
 have e1:each 5=1:=by decide
 have e2:wdt 5=64:=by decide
 rw [e1,e2];exact ⟨by omega,by omega,by omega,by omega,by omega,by omega,by decide,by decide⟩
theorem Z4h (hw:WS A.segments) {s a c i n:Int} (hc:0≤c∧c≤5) (h0:0≤i) (h1:i < n) (hn:n < 536870912) (hi:inB A.segments s a ((n * wdt c+63) / 64)=true):Vd ⟨some A,10,s,a,0,0,0,c,i⟩=some (Z1t A ⟨some A,10,s,a,0,0,0,c,i⟩):=by
 unfold Vd Z1t
 simp only
 rw [Zw7 hc,Option.bind_some]
 simp only
 by_cases hz:c=0
 ·subst hz
  rw [show (wdt 0 == 0)=true from by decide,cond_true,if_pos rfl]
 obtain ⟨a1,a2,a3,a4,a5,a6,a7,a8⟩:=Z2s (c:=c) (by omega) h0 h1 hn
 have hr:=Zo7 hw hi
 have hi':=inB_iff.1 hi
 have hin:inB A.segments s (a+i / each c) 1=true:=inB_iff.2 ⟨hi'.1,hi'.2.1,by omega,by omega,by omega⟩
 rw [show (wdt c == 0)=false from Vb a8,cond_false,if_neg hz,a7,Yo (x:=each c) (by omega) (by omega),Int.tdiv_eq_ediv_of_nonneg h0,Int.tmod_eq_emod_of_nonneg h0,Yo (x:=i / each c) (by omega) (by omega),Yo (x:=a+i / each c) (by omega) (by omega)]
 have e1:Y7 (wdt c≠0)=some ():=Vj a8
 have e2:Y7 (each c≠0)=some ():=Vj (by omega)
 simp only [e1,e2,Option.bind_some]
 rw [Zon hw,if_pos hin,Option.bind_some]
 simp only
 rw [Z94 (Zi1 hw _ _) (by omega) ⟨a5,a6⟩,Option.bind_some]
theorem Zsw (hw:WS A.segments) {r:Zd} (h:OKr A r) (i:Int):Q5 r i=some (Zw8 A r i):=by
 unfold Q5 Zw8
 rw [Zvr]
 have hz:(cond (decide (i < 0)) (some true) ((some (Zcc r)).bind fun y4=>some (cond (decide (i < 0)) true (decide (y4≤i)))))=some (decide (i < 0∨Zcc r≤i)):=by
  by_cases h0:i < 0
  ·rw [decide_eq_true h0,cond_true,show decide (i < 0∨Zcc r≤i)=true from decide_eq_true (.inl h0)]
  rw [decide_eq_false h0,cond_false,Option.bind_some,cond_false]
  congr 1
  rw [decide_eq_decide]
  omega
 rw [hz,Option.bind_some]
 by_cases hi:i < 0∨Zcc r≤i
 ·rw [if_pos hi,decide_eq_true hi];rfl
 rw [if_neg hi,decide_eq_false hi,cond_false]
 cases h with
 | z=>exact absurd hi (by simp [Zcc,r0];try omega)
 | li k s a n hk hn hin=>exact absurd hi (by simp only [Zcc];rw [if_neg (by omega),if_neg (by omega)];omega)
 | co s a d p n hd hp hn hwx hin=>exact absurd hi (by simp [Zcc];try omega)
 | at_ s a c i' n hc h0 h1 hn hin =>
  simp only [beq_self_eq_true,cond_true,if_true]
  rw [Z4h hw hc h0 h1 hn hin]
  rfl
 | st s a d p hd hp hin =>
  have:=Zo7 hw hin
  have hi':=inB_iff.1 hin
  simp only [Zcc,if_true] at hi
  simp only [show ((1:Int) == 10)=false from rfl,cond_false,show ¬ (1:Int)=10 from by decide,if_false]
  rw [Yo (by omega) (by omega),Zon hw,if_pos (inB_iff.2 ⟨hi'.1,hi'.2.1,by omega,by omega,by omega⟩)]
  rfl
theorem Z9k (hw:WS A.segments):Za0 (some A)=some (atR A 0 0):=by
 unfold Za0
 rw [Z5q hw]
 rfl
end
abbrev Tr:=Zi
def lvR (r:Zd):Int:=if r.kind=0 then 0 else if r.kind=9∧0 < r.count then 2 else 1
def wtR (r:Zd):Int:=if r.kind=0 then 0 else if r.kind=1 then 1+r.words+r.ptrs else if r.kind=9 then 1+r.count * (1+r.words+r.ptrs) else 1+r.count
section
variable {A:Zr}
theorem Z8f (hw:WS A.segments) {r:Zd} (h:OKr A r):0≤wtR r∧wtR r≤4503599627370496∧(r.kind≠0→1≤wtR r):=by
 cases h with
 | z=>simp [wtR,r0]
 | st s a d p hd hp hin=>simp [wtR];omega
 | li k s a n hk hn hin=>simp only [wtR];rw [if_neg (by omega),if_neg (by omega),if_neg (by omega)];omega
 | co s a d p n hd hp hn hwx hin =>
  simp only [wtR,show ¬ (9:Int)=0 from by decide,show ¬ (9:Int)=1 from by decide,if_false,if_true]
  have:n * (1+d+p)=n+n * (d+p):=by rw [Int.add_assoc,Int.mul_add,Int.mul_one]
  omega
 | at_ s a c i n hc h0 h1 hn hin=>simp [wtR]
def Xa (A:Zr) (r:Zd):List Int:=if r.kind=10 then [Z1t A r] else if r.kind=1 then ((seg A.segments r.segment).drop r.at_.toNat).take r.words.toNat else []
def Qa (f:Zd→Int→Tr×Int×Int) (g:Int→Zd×Int):Nat→Nat→Int→List Tr→List Tr×Int×Int
 | 0,_,left,acc=>(acc,left,0)
 | m+1,i,left,acc=>if (g i).2≠0 then (acc,left,(g i).2) else if (f (g i).1 left).2.2≠0 then (acc,(f (g i).1 left).2.1,(f (g i).1 left).2.2) else Qa f g m (i+1) (f (g i).1 left).2.1 (acc++[(f (g i).1 left).1])
def stK (A:Zr) (f:Zd→Int→Tr×Int×Int) (k:Zd) (left:Int):Tr×Int×Int :=
 let q:=Qa f (Xj A k) k.ptrs.toNat 0 left []
 (⟨1,Xa A k,q.1⟩,q.2)
def Zop (A:Zr) (k:Zd) (left:Int):Tr×Int×Int:=(⟨k.kind,Xa A k,[]⟩,left,0)
def Zd6 (A:Zr) (f1 f2:Zd→Int→Tr×Int×Int) (r:Zd):Zd→Int→Tr×Int×Int :=
 if r.kind=9 then stK A f2 else if r.kind=1∨r.kind=8 then f1 else Zop A
def Zni (A:Zr) (f1 f2:Zd→Int→Tr×Int×Int) (d:Int) (r:Zd) (left:Int):Tr×Int×Int :=
 if r.kind=0 then (⟨r.kind,Xa A r,[]⟩,left,0)
 else if d < lvR r∨left < wtR r then (⟨r.kind,Xa A r,[]⟩,left,3)
 else
  let q:=Qa (Zd6 A f1 f2 r) (Xj A r) (Yk r).toNat 0 (left - wtR r) []
  (⟨r.kind,Xa A r,q.1⟩,q.2)
def bad (_:Zd) (left:Int):Tr×Int×Int:=(⟨0,[],[]⟩,left,3)
def Zdn (A:Zr):Nat→Zd→Int→Tr×Int×Int
 | 0=>Zni A bad bad 0
 | 1=>Zni A (Zdn A 0) bad 1
 | d+2=>Zni A (Zdn A (d+1)) (Zdn A d) ((d+2:Nat):Int)
def U4 (A:Zr) (k:Nat) (d:Nat):Zd→Int→Tr×Int×Int:=if k≤d then Zdn A (d - k) else bad
theorem Zsn (d:Nat):Zdn A d=Zni A (U4 A 1 d) (U4 A 2 d) (d:Int):=by
 match d with
 | 0=>rfl
 | 1=>rfl
 | d+2 =>
  unfold U4
  rw [if_pos (by omega),if_pos (by omega)]
  rfl
def Lf (A:Zr) (f:Zd→Int→Tr×Int×Int):Prop:=∀ k left,OKr A k→0≤left→(f k left).2.2=0→0≤(f k left).2.1∧(f k left).2.1≤left
theorem Zsk {f:Zd→Int→Tr×Int×Int} {g:Int→Zd×Int} (hf:Lf A f) (hg:∀ i,OKr A (g i).1):∀ (m i:Nat) (left:Int) (acc:List Tr),0≤left→(Qa f g m i left acc).2.2=0→0≤(Qa f g m i left acc).2.1∧(Qa f g m i left acc).2.1≤left
 | 0,i,left,acc,h0,_=>⟨h0,Int.le_refl _⟩
 | m+1,i,left,acc,h0,h=>by
  rw [Qa] at h ⊢
  by_cases h1:(g i).2≠0
  ·rw [if_pos h1] at h;exact absurd h h1
  rw [if_neg h1] at h ⊢
  by_cases h2:(f (g i).1 left).2.2≠0
  ·rw [if_pos h2] at h;exact absurd h h2
  rw [if_neg h2] at h ⊢
  have h2':(f (g i).1 left).2.2=0:=by omega
  obtain ⟨a1,a2⟩:=hf _ _ (hg i) h0 h2'
  obtain ⟨b1,b2⟩:=Zsk hf hg m (i+1) _ _ a1 h
  exact ⟨b1,by omega⟩
theorem Z1p:Lf A bad:=fun k left _ _ h=>by simp [bad] at h
theorem Ybl {f:Zd→Int→Tr×Int×Int} (hf:Lf A f):Lf A (stK A f):=fun k left hk h0 h=>Zsk hf (fun i=>Un hk i) _ _ _ _ h0 h
theorem Z6m:Lf A (Zop A):=fun k left _ h0 _=>⟨h0,Int.le_refl _⟩
theorem Z2x {f1 f2:Zd→Int→Tr×Int×Int} (h1:Lf A f1) (h2:Lf A f2) (r:Zd):Lf A (Zd6 A f1 f2 r):=by
 unfold Zd6
 split
 ·exact Ybl h2
 split
 ·exact h1
 exact Z6m
theorem Z6n (hw:WS A.segments) {f1 f2:Zd→Int→Tr×Int×Int} (h1:Lf A f1) (h2:Lf A f2) (d:Int):Lf A (Zni A f1 f2 d):=fun r left hr h0 h=>by
 have hwt:=Z8f hw hr
 unfold Zni at h ⊢
 by_cases k0:r.kind=0
 ·rw [if_pos k0];exact ⟨h0,Int.le_refl _⟩
 rw [if_neg k0] at h ⊢
 by_cases hb:d < lvR r∨left < wtR r
 ·rw [if_pos hb] at h;simp at h
 rw [if_neg hb] at h ⊢
 have:=Zsk (Z2x h1 h2 r) (fun i=>Un hr i) (Yk r).toNat 0 (left - wtR r) [] (by omega) h
 simp only
 omega
theorem Zsm (hw:WS A.segments):∀ d,Lf A (Zdn A d):=fun d=>by
 induction d using Nat.strongRecOn with
 | ind d ih =>
  rw [Zsn]
  refine Z6n hw ?_ ?_ _
  ·unfold U4
   split
   ·exact ih _ (by omega)
   exact Z1p
  unfold U4
  split
  ·exact ih _ (by omega)
  exact Z1p
end
theorem Zzz {S R:Type} {s1 s2:S→Option (S ⊕ R)} (h:∀ s x,s1 s=some x→s2 s=some x):∀ (k:Nat) (s:S) (r:R),Gv s1 k s=some r→Gv s2 k s=some r
 | 0,s,r,q=>by simp [Gv] at q
 | k+1,s,r,q=>by
  simp only [Gv] at q ⊢
  cases hs:s1 s with
  | none=>rw [hs] at q;cases q
  | some x =>
   rw [hs] at q
   rw [h s x hs]
   cases x with
   | inl s'=>exact Zzz h k s' r q
   | inr r'=>exact q
theorem Zum {S R:Type} {s1 s2:S→Option (S ⊕ R)} (h:∀ s x,s1 s=some x→s2 s=some x) {s:S} {r:R} (q:Z6 s1 s=some r):Z6 s2 s=some r:=by
 obtain ⟨k,hk⟩:=Zhb q
 exact Zip (Zzz h k s r hk)
theorem Um {α β:Type} {o o':Option α} {f f':α→Option β} (h:∀ x,o=some x→o'=some x) (hf:∀ x y,f x=some y→f' x=some y) {r:β} (q:o.bind f=some r):o'.bind f'=some r:=by
 obtain ⟨x,h1,h2⟩:=Option.bind_eq_some_iff.1 q
 rw [h x h1]
 exact hf x r h2
theorem Zbp {α:Type} (c:Bool) {a a' b b':Option α} (h1:∀ r,a=some r→a'=some r) (h2:∀ r,b=some r→b'=some r) (r:α) (q:cond c a b=some r):cond c a' b'=some r:=by
 cases c with
 | true=>exact h1 r q
 | false=>exact h2 r q
theorem Zzx {R:Type} {F:Nat→Option R} {r:R} (hm:∀ k r,F k=some r→F (k+1)=some r) {K:Nat} (h:F K=some r):lim F=some r:=by
 refine Zqa K fun k hk => ?_
 obtain ⟨d,rfl⟩:∃ d,k=K+d:=⟨k - K,by omega⟩
 clear hk
 induction d with
 | zero=>exact h
 | succ d ih=>exact hm _ _ ih
section
variable {A:Zr}
theorem Ze8 {r:Zd} (h:OKr A r):0≤Yk r∧Yk r≤1073741824:=by
 cases h with
 | z=>simp [Yk,r0]
 | st s a d p hd hp hin=>simp only [Yk,if_true];omega
 | li k s a n hk hn hin=>simp only [Yk];rw [if_neg (by omega)];omega
 | co s a d p n hd hp hn hwx hin=>simp only [Yk];rw [if_neg (by omega)];omega
 | at_ s a c i n hc h0 h1 hn hin=>simp [Yk]
theorem Zzu {r:Zd} (hk:r.kind=9) {i:Int} (h:0≤i∧i < Yk r):(Xj A r i).1.kind=1:=by
 unfold Xj
 rw [if_neg (by omega),if_neg (by omega),if_neg (by omega),if_pos hk]
def LE3 {α β γ δ:Type} (f g:α→β→γ→Option δ):Prop:=∀ x y z r,f x y z=some r→g x y z=some r
def Zos (x m:Int):Int:=if m < (if x < 0 then 0 else x) then m else (if x < 0 then 0 else x)
def Ui (x:Yg):Yg:=⟨Zos x.Depth 64,Zos x.Weight 65536,Zos x.MaxD 4096,Zos x.MaxOut 131072⟩
theorem Zjd (x m:Int) (hm:0≤m):0≤Zos x m∧Zos x m≤m:=by unfold Zos;repeat' split;all_goals omega
def Z5u (A:Zr) (x:Yg):Int×Int :=
 if (atR A 0 0).2≠0 then (0,(atR A 0 0).2)
 else
  let q:=Zdn A (Ui x).Depth.toNat (atR A 0 0).1 (Ui x).Weight
  if q.2.2≠0 then (0,q.2.2) else ((Ui x).Weight - q.2.1,0)
end
theorem Zeb (x m:Int) (hm:0≤m):X7 x m=some (Zos x m):=by
 unfold X7 Zos
 by_cases h:x < 0
 ·rw [decide_eq_true h,if_pos h,if_neg (by omega)];rfl
 rw [decide_eq_false h,if_neg h]
 by_cases h2:m < x
 ·rw [decide_eq_true h2,if_pos h2];rfl
 rw [decide_eq_false h2,if_neg h2];rfl
theorem Z16 (x:Yg):Vc x=some (Ui x):=by
 unfold Vc
 rw [Zeb _ _ (by decide),Zeb _ _ (by decide),Zeb _ _ (by decide),Zeb _ _ (by decide)]
 rfl
theorem Z4v {c:Int} (h:0≤c∧c≤5):Y9 c=some (wdt c):=by
 unfold Y9
 rcases c5 h with rfl | rfl | rfl | rfl | rfl | rfl <;> rfl
theorem Zy7 (q:Int) (n:Nat) (hn:Int.tmod q 64=(n:Int)) (hn2:n < 64):∀ (m t w:Nat),t+m=n→w < 18446744073709551616→Z6 (J3 q) ((w:Int),(t:Int))=some ((w / 2 ^ m:Nat):Int)
 | 0,t,w,h,hw=>by
  refine Yr ?_
  unfold J3
  simp only
  rw [hn,show decide ((t:Int) < (n:Int))=false from by rw [decide_eq_false_iff_not];omega,cond_false,Nat.pow_zero,Nat.div_one]
 | m+1,t,w,h,hw=>by
  have hs:J3 q ((w:Int),(t:Int))=some (.inl (((w / 2:Nat):Int),((t+1:Nat):Int))):=by
   unfold J3
   simp only
   rw [hn,show decide ((t:Int) < (n:Int))=true from by rw [decide_eq_true_eq];omega,cond_true,Int.tdiv_eq_ediv_of_nonneg (by omega),show ((w:Int) / 2)=((w / 2:Nat):Int) from rfl,Z01 _ (by omega),Yo (by omega) (by omega)]
   rfl
  rw [Xc hs,Zy7 q n hn hn2 m (t+1) (w / 2) (by omega) (by omega),Nat.div_div_eq_div_mul,Nat.pow_succ,Nat.mul_comm]
theorem Ya4 {l:List Int} (hl:∀ w∈l,0≤w∧w < 18446744073709551616) {k:Nat} {w:Int} (hk:k < 1125899906842624) (hg:l[k / 64]? = some w):Uv l (k:Int)=some ((w.toNat / 2 ^ (k % 64) % 2:Nat):Int):=by
 have hi:k / 64 < l.length:=by
  rcases Nat.lt_or_ge (k / 64) l.length with h | h
  ·exact h
  rw [List.getElem?_eq_none h] at hg;cases hg
 have hwr:=hl w (List.mem_of_getElem? hg)
 unfold Uv
 have t1:Int.tdiv (k:Int) 64=((k / 64:Nat):Int):=by rw [Int.tdiv_eq_ediv_of_nonneg (by omega)];rfl
 have t2:Int.tmod (k:Int) 64=((k % 64:Nat):Int):=by rw [Int.tmod_eq_emod_of_nonneg (by omega)];rfl
 rw [t1,Yo (x:=((k / 64:Nat):Int)) (by omega) (by omega),show decide ((k:Int) < 0)=false from by rw [decide_eq_false_iff_not];omega,cond_false,show decide ((l.length:Int)≤((k / 64:Nat):Int))=false from by rw [decide_eq_false_iff_not];omega,cond_false,Xh hg,Option.bind_some]
 have hL:=Zy7 (k:Int) (k % 64) t2 (Nat.mod_lt _ (by decide)) (k % 64) 0 w.toNat (by omega) (by omega)
 rw [show ((w.toNat:Nat):Int)=w by omega,show (((0:Nat):Int))=0 from rfl] at hL
 rw [hL,Option.bind_some,Int.tmod_eq_emod_of_nonneg (Int.natCast_nonneg _)]
 rfl
theorem Zzm {l:List Int} (hl:∀ w∈l,0≤w∧w < 18446744073709551616) {d q i:Nat} {w:Int} (hd:1≤d∧d≤64) (hi:i * d+d < 1125899906842624) (hq:∀ j,j < d→(i * d+j) / 64=q∧(i * d+j) % 64=(i * d) % 64+j) (hg:l[q]? = some w):∀ (m:Nat) (acc:Int),m≤d→acc=((w.toNat / 2 ^ ((i * d) % 64+m) % 2 ^ (d - m):Nat):Int) →
  Z6 (J4 l (i:Int) (d:Int)) (acc,(m:Int) - 1)=some ((w.toNat / 2 ^ ((i * d) % 64) % 2 ^ d:Nat):Int)
 | 0,acc,hm,ha=>by
  refine Yr ?_
  unfold J4
  simp only
  rw [show decide ((0:Int)≤((0:Nat):Int) - 1)=false from rfl,cond_false,ha]
  rfl
 | m+1,acc,hm,ha=>by
  obtain ⟨q1,q2⟩:=hq m (by omega)
  have hb:=Ya4 hl (k:=i * d+m) (w:=w) (by omega) (by rw [q1];exact hg)
  rw [q2] at hb
  have hlt:w.toNat / 2 ^ ((i * d) % 64+(m+1)) % 2 ^ (d - (m+1)) < 2 ^ 63:=Nat.lt_of_lt_of_le (Nat.mod_lt _ (Nat.pow_pos (by decide))) (Nat.pow_le_pow_right (by decide) (by omega))
  have hbit:w.toNat / 2 ^ ((i * d) % 64+m) % 2 < 2:=Nat.mod_lt _ (by decide)
  have hstep:J4 l (i:Int) (d:Int) (acc,((m+1:Nat):Int) - 1)=some (.inl (((w.toNat / 2 ^ ((i * d) % 64+m) % 2 ^ (d - m):Nat):Int),(m:Int) - 1)):=by
   unfold J4
   simp only
   have e1:IntKind.i64.wrap (IntKind.i64.wrap ((i:Int) * (d:Int))+(((m+1:Nat):Int) - 1))=((i * d+m:Nat):Int):=by
    have e0:((i:Int) * (d:Int))=((i * d:Nat):Int):=by simp
    rw [e0,Yo (x:=((i * d:Nat):Int)) (by omega) (by omega),Yo (by omega) (by omega)]
    omega
   rw [show decide ((0:Int)≤((m+1:Nat):Int) - 1)=true from by rw [decide_eq_true_eq];omega,cond_true,e1,hb,Option.bind_some,ha]
   have e2:((w.toNat / 2 ^ ((i * d) % 64+(m+1)) % 2 ^ (d - (m+1)):Nat):Int) * 2=((w.toNat / 2 ^ ((i * d) % 64+(m+1)) % 2 ^ (d - (m+1)) * 2:Nat):Int):=by simp
   rw [e2,Z01 _ (by omega),← Int.natCast_add,Z01 _ (by omega),Yo (by omega) (by omega)]
   have e3:w.toNat / 2 ^ ((i * d) % 64+(m+1)) % 2 ^ (d - (m+1)) * 2+w.toNat / 2 ^ ((i * d) % 64+m) % 2=w.toNat / 2 ^ ((i * d) % 64+m) % 2 ^ (d - m):=by
    have h1:w.toNat / 2 ^ ((i * d) % 64+(m+1))=w.toNat / 2 ^ ((i * d) % 64+m) / 2:=by
     rw [Nat.div_div_eq_div_mul,← Nat.pow_succ];rfl
    have h2:d - m=(d - (m+1))+1:=by omega
    rw [h1,h2]
    generalize w.toNat / 2 ^ ((i * d) % 64+m)=x
    generalize d - (m+1)=y
    rw [Nat.pow_succ,Nat.mul_comm (2 ^ y) 2,Nat.mod_mul]
    omega
   rw [e3]
   congr 3
   omega
  rw [Xc hstep]
  exact Zzm hl hd hi hq hg m _ (by omega) rfl
theorem Z9i {l:List Int} (hl:∀ w∈l,0≤w∧w < 18446744073709551616) {c i n:Int} (hc:0≤c∧c≤5) (h0:0≤i) (h1:i < n) (hn:n < 536870912) (hi:(n * wdt c+63) / 64≤l.length):Uw l c i=some (if c=0 then 0 else Zz7 ((l[(i / each c).toNat]?).getD 0) c (i % each c)):=by
 unfold Uw
 rw [Z4v hc,Option.bind_some]
 by_cases hz:c=0
 ·subst hz
  rw [if_pos rfl]
  rfl
 rw [if_neg hz]
 obtain ⟨d,e,hd⟩:∃ d:Nat,wdt c=(d:Int)∧(d=1∨d=8∨d=16∨d=32∨d=64):=by
  rcases c5 hc with rfl | rfl | rfl | rfl | rfl | rfl
  ·omega
  ·exact ⟨1,rfl,by omega⟩
  ·exact ⟨8,rfl,by omega⟩
  ·exact ⟨16,rfl,by omega⟩
  ·exact ⟨32,rfl,by omega⟩
  exact ⟨64,rfl,by omega⟩
 obtain ⟨j,rfl⟩:∃ j:Nat,i=j:=⟨i.toNat,by omega⟩
 have he:each c=((64 / d:Nat):Int):=by unfold each;rw [e];rfl
 rw [e] at hi ⊢
 rw [show decide ((d:Int) < 1)=false from by rw [decide_eq_false_iff_not];omega,show decide ((j:Int) < 0)=false from by rw [decide_eq_false_iff_not];omega,show decide (1099511627776 < (j:Int))=false from by rw [decide_eq_false_iff_not];omega]
 simp only [cond_false]
 rw [Yo (x:=(d:Int) - 1) (by omega) (by omega)]
 have hqn:((j:Int) / each c).toNat=j / (64 / d):=by rw [he];rfl
 have hrn:((j:Int) % each c)=((j % (64 / d):Nat):Int):=by rw [he];rfl
 rw [hqn,hrn]
 have hin:j / (64 / d) < l.length∧∀ t,t < d→(j * d+t) / 64=j / (64 / d)∧(j * d+t) % 64=(j * d) % 64+t:=by
  rcases hd with rfl | rfl | rfl | rfl | rfl
  ·exact ⟨by omega,fun t ht=>by omega⟩
  ·exact ⟨by omega,fun t ht=>by omega⟩
  ·exact ⟨by omega,fun t ht=>by omega⟩
  ·exact ⟨by omega,fun t ht=>by omega⟩
  exact ⟨by omega,fun t ht=>by omega⟩
 have hoff:(j * d) % 64=(j % (64 / d)) * d:=by
  rcases hd with rfl | rfl | rfl | rfl | rfl
  ·omega
  ·omega
  ·omega
  ·omega
  omega
 have hg:l[j / (64 / d)]? = some l[j / (64 / d)]:=List.getElem?_eq_getElem hin.1
 have hjd:j * d≤536870912 * 64:=Nat.mul_le_mul (by omega) (by omega)
 rw [Zzm hl (d:=d) (i:=j) (by omega) (by omega) hin.2 hg d 0 (Nat.le_refl _) (by rw [Nat.sub_self,Nat.pow_zero,Nat.mod_one];rfl),Option.bind_some,hg,Option.getD_some]
 unfold Zz7
 rw [e,hoff]
 congr 4
section
variable {A:Zr}
def Vm (A:Zr) (r:Zd):Zw :=
 if r.kind=0 then ⟨0,0,0,0,0,0,0⟩
 else if r.kind=1 then ⟨1,r.segment,r.at_,r.words,r.ptrs,0,0⟩
 else if r.kind=9 then ⟨9,r.segment,r.at_+1,r.words,r.ptrs,r.count,0⟩
 else if r.kind=10 then ⟨10,0,0,0,0,0,Z1t A r⟩
 else ⟨r.kind,r.segment,r.at_,0,0,r.count,0⟩
def Zur (A:Zr) (x:Zd×Int):Zw×Int:=(Vm A x.1,x.2)
theorem Zes {r:Zd}:(Vm A r).Kind=r.kind:=by
 unfold Vm
 split
 ·symm;assumption
 split
 ·symm;assumption
 split
 ·symm;assumption
 split
 ·symm;assumption
 rfl
theorem Z8k {w:Int} (h:0≤w):(dc w).Kind=0↔w=0:=by
 unfold dc Zd3
 constructor
 ·intro q
  split at q
  ·omega
  split at q
  ·simp at q
  split at q
  ·simp at q
  split at q
  ·simp at q
  simp at q
 intro q
 rw [if_pos (by omega)]
theorem Z12 (hw:WS A.segments) (s a:Int):Va A.segments s a=some (Zur A (atR A s a)):=by
 have hk0:=Ztd A.segments s a
 have hR:J5 A.segments s a=some (⟨(fol A.segments s a).1.P,(fol A.segments s a).1.Segment,(fol A.segments s a).1.At⟩,(fol A.segments s a).2):=Z15 hw s a
 unfold Va atR
 rw [hR,Option.bind_some]
 clear hR
 revert hk0
 generalize fol A.segments s a=y
 intro hk0
 obtain ⟨x,e⟩:=y
 dsimp only at hk0 ⊢
 rcases hk0 with h | ⟨h1,hp,hk,hi⟩
 ·rw [if_pos h]
  have:cond (e != 0) true (x.P.Kind == 0)=true:=by
   rcases h with h | h
   ·rw [bne_iff_ne.2 h];rfl
   rw [show (x.P.Kind == 0)=true from by rw [h];rfl]
   cases (e != 0) <;> rfl
  rw [this,cond_true];rfl
 rw [if_neg (by omega),h1,show ((0:Int) != 0)=false from rfl,cond_false]
 rw [show (x.P.Kind == 0)=false from Vb (by omega),cond_false]
 by_cases k1:x.P.Kind=1
 ·rw [if_pos k1,show (x.P.Kind == 1)=true from by rw [k1];rfl,cond_true]
  rfl
 rw [if_neg k1,show (x.P.Kind == 1)=false from Vb k1,cond_false]
 have hc:=hp.c
 by_cases c7':x.P.Code=7
 ·rw [if_pos c7',show decide (x.P.Code < 7)=false from by rw [decide_eq_false_iff_not];omega,cond_false]
  have hpw:pw x.P=x.P.Count+1:=by unfold pw;rw [if_neg k1,if_pos c7']
  rw [hpw] at hi
  have hn:=hp.n
  have hi':=inB_iff.1 hi
  have hi1:inB A.segments x.Segment x.At 1=true:=inB_iff.2 ⟨hi'.1,hi'.2.1,hi'.2.2.1,by omega,by omega⟩
  have hwr:=Zi1 hw x.Segment x.At
  have hrr:=Zo7 hw hi
  rw [(Zb9 hi'.1 hi'.2.1).1,Option.bind_some,(Zro hi1).1,Option.bind_some,Zue hwr,Option.bind_some]
  have ht:=Z2d (wd A.segments x.Segment x.At)
  have ho:=(Zje (wd A.segments x.Segment x.At)).o
  have hdz:=Z8k hwr.1
  generalize dc (wd A.segments x.Segment x.At)=t at *
  have hm:=Z6u (n:=t.Off) (x:=t.Data+t.Ptrs) ho (by omega)
  rw [Yo (x:=t.Data+t.Ptrs) (by omega) (by omega),Yo (x:=t.Off * (t.Data+t.Ptrs)) (by omega) (by omega),Yo (x:=x.At+1) (by omega) (by omega)]
  by_cases hq:(t.Kind≠0∧t.Kind≠1)∨t.Off < 0∨x.P.Count < t.Off * (t.Data+t.Ptrs)
  ·rw [if_pos hq]
   have:cond (cond (cond (wd A.segments x.Segment x.At != 0) (t.Kind != 1) false) true (decide (t.Off < 0))) true (decide (x.P.Count < t.Off * (t.Data+t.Ptrs)))=true:=by
    rcases hq with ⟨q1,q2⟩ | q | q
    ·rw [bne_iff_ne.2 (fun z=>q1 (hdz.2 z)),bne_iff_ne.2 q2];rfl
    ·rw [decide_eq_true q];cases (cond (wd A.segments x.Segment x.At != 0) (t.Kind != 1) false) <;> rfl
    rw [decide_eq_true q];cases (cond (cond (wd A.segments x.Segment x.At != 0) (t.Kind != 1) false) true (decide (t.Off < 0))) <;> rfl
   rw [this,cond_true];rfl
  rw [if_neg hq]
  have e1:cond (wd A.segments x.Segment x.At != 0) (t.Kind != 1) false=false:=by
   by_cases q0:wd A.segments x.Segment x.At=0
   ·rw [show (wd A.segments x.Segment x.At != 0)=false from bne_eq_false_iff_eq.2 q0];rfl
   have q1:t.Kind=1:=by
    have:t.Kind≠0:=fun z=>q0 (hdz.1 z)
    omega
   rw [show (t.Kind != 1)=false from by rw [q1];rfl]
   cases (wd A.segments x.Segment x.At != 0) <;> rfl
  rw [e1,cond_false,show decide (t.Off < 0)=false from by rw [decide_eq_false_iff_not];omega,cond_false,show decide (x.P.Count < t.Off * (t.Data+t.Ptrs))=false from by rw [decide_eq_false_iff_not];omega]
  rfl
 rw [if_neg c7',show decide (x.P.Code < 7)=true from by rw [decide_eq_true_eq];omega,cond_true,Yo (x:=2+x.P.Code) (by omega) (by omega)]
 unfold Zur Vm
 simp only
 rw [if_neg (by omega),if_neg (by omega),if_neg (by omega),if_neg (by omega),show 2+x.P.Code=x.P.Code+2 by omega]
theorem Zlt {r:Zd} (h:OKr A r):Qb (Vm A r)=some (Yk r):=by
 unfold Qb
 rw [Zes]
 unfold Yk Vm
 by_cases h1:r.kind=1
 ·rw [if_pos h1,show (r.kind == 1)=true from by rw [h1];rfl,cond_true,if_neg (by omega),if_pos h1]
 rw [if_neg h1,show (r.kind == 1)=false from Vb h1,cond_false]
 by_cases h0:r.kind=0
 ·rw [if_pos h0]
  cases h with
  | z=>rfl
  | st=>simp at h0
  | li k s a n hk=>simp only at h0;omega
  | co=>simp at h0
  | at_=>simp at h0
 rw [if_neg h0,if_neg h1]
 by_cases h9:r.kind=9
 ·rw [if_pos h9]
 rw [if_neg h9]
 by_cases h10:r.kind=10
 ·rw [if_pos h10]
  cases h with
  | z=>rfl
  | st=>rfl
  | li k s a n hk=>simp only at h10;omega
  | co=>simp at h10
  | at_=>rfl
 rw [if_neg h10]
theorem Zoh (hw:WS A.segments) {r:Zd} (h:OKr A r):X1 (Vm A r) A.segments=some (Xa A r):=by
 unfold X1
 rw [Zes]
 unfold Xa Vm
 cases h with
 | z=>rfl
 | li k s a n hk hn hin =>
  simp only
  rw [show (k == 10)=false from Vb (by omega),cond_false,show (k != 1)=true from bne_iff_ne.2 (by omega),cond_true,if_neg (by omega),if_neg (by omega)]
 | co s a d p n hd hp hn hwx hin=>rfl
 | at_ s a c i n hc h0 h1 hn hin=>rfl
 | st s a d p hd hp hin =>
  have hi':=inB_iff.1 hin
  have hl:=Zir hw s
  simp only [show ((1:Int) == 10)=false from rfl,show ((1:Int) != 1)=false from rfl,cond_false,show ¬ (1:Int)=0 from by decide,show ¬ (1:Int)=10 from by decide,if_false,if_true]
  rw [(Zb9 hi'.1 hi'.2.1).1,Option.bind_some,Yo (x:=a+d) (by omega) (by omega),Zsv (by omega) (by omega) (by omega),Option.bind_some,show a+d - a=d by omega,Zag (by simp only [List.length_nil,List.length_take,List.length_drop];omega) (by simp only [List.length_nil,List.length_take,List.length_drop];omega),List.nil_append]
  rfl
theorem Z7z (hw:WS A.segments) (s:Int):∀ w∈seg A.segments s,0≤w∧w < 18446744073709551616:=by
 unfold seg
 cases h:A.segments[s.toNat]? with
 | none=>simp
 | some x=>exact hw.w x (List.mem_of_getElem? h)
theorem Z0s (hw:WS A.segments) {r:Zd} (h:OKr A r) (i:Int):Jj (Vm A r) A.segments i=some (Zur A (Xj A r i)):=by
 unfold Jj Xj
 rw [Zlt h,Zes]
 have hz:(cond (decide (i < 0)) (some true) ((some (Yk r)).bind fun y4=>some (cond (decide (i < 0)) true (decide (y4≤i)))))=some (decide (i < 0∨Yk r≤i)):=by
  by_cases h0:i < 0
  ·rw [decide_eq_true h0,cond_true,show decide (i < 0∨Yk r≤i)=true from decide_eq_true (.inl h0)]
  rw [decide_eq_false h0,cond_false,Option.bind_some,cond_false]
  congr 1
  rw [decide_eq_decide]
  omega
 rw [hz,Option.bind_some]
 by_cases hi:i < 0∨Yk r≤i
 ·rw [if_pos hi,decide_eq_true hi];rfl
 rw [if_neg hi,decide_eq_false hi,cond_false]
 cases h with
 | z=>exact absurd hi (by first | (simp [Yk,r0];done) | (simp [Yk,r0];omega))
 | at_=>exact absurd hi (by first | (simp [Yk];done) | (simp [Yk];omega))
 | st s a d p hd hp hin =>
  have:=Zo7 hw hin
  simp only [Yk,if_true] at hi
  have e:Vm A (⟨some A,1,s,a,d,p,0,0,0⟩:Zd)=⟨1,s,a,d,p,0,0⟩:=rfl
  simp only [e,beq_self_eq_true,cond_true,if_true]
  rw [Yo (x:=a+d) (by omega) (by omega),Yo (by omega) (by omega),Z12 hw]
  rfl
 | co s a d p n hd hp hn hwx hin =>
  have:=Zo7 hw hin
  simp only [Yk] at hi
  rw [if_neg (by omega)] at hi
  have e:Vm A (⟨some A,9,s,a,d,p,n,0,0⟩:Zd)=⟨9,s,a+1,d,p,n,0⟩:=rfl
  simp only [e,show ((9:Int) == 1)=false from rfl,show ((9:Int) == 8)=false from rfl,show ((9:Int) == 9)=true from rfl,cond_true,cond_false,show ¬ (9:Int)=1 from by decide,show ¬ (9:Int)=8 from by decide,if_false,if_true]
  have h1:0≤i * (d+p):=Int.mul_nonneg (by omega) (by omega)
  have h2:(i+1) * (d+p)≤n * (d+p):=Int.mul_le_mul_of_nonneg_right (by omega) (by omega)
  rw [Int.add_mul,Int.one_mul] at h2
  rw [Yo (x:=d+p) (by omega) (by omega),Yo (x:=i * (d+p)) (by omega) (by omega),Yo (by omega) (by omega)]
  rfl
 | li k s a n hk hn hin =>
  have hr:=Zo7 hw hin
  have hi':=inB_iff.1 hin
  simp only [Yk] at hi
  rw [if_neg (by omega)] at hi
  have e:Vm A (⟨some A,k,s,a,0,0,n,0,0⟩:Zd)=⟨k,s,a,0,0,n,0⟩:=by
   unfold Vm
   simp only
   rw [if_neg (by omega),if_neg (by omega),if_neg (by omega),if_neg (by omega)]
  simp only [e]
  rw [show (k == 1)=false from Vb (by omega),cond_false,if_neg (by omega),show (k == 9)=false from Vb (by omega)]
  by_cases k8:k=8
  ·have hp:(n * wdt (k - 2)+63) / 64=n:=by rw [k8];simp [wdt];omega
   rw [show (k == 8)=true from by rw [k8];rfl,cond_true,if_pos k8,Yo (by omega) (by omega),Z12 hw]
   rfl
  rw [show (k == 8)=false from Vb k8,cond_false,cond_false,if_neg k8,if_neg (by omega),Yo (by omega) (by omega),(Zb9 hi'.1 hi'.2.1).1,Option.bind_some,Zsv (by omega) (by omega) (by omega),Option.bind_some]
  have hlen:((seg A.segments s).drop a.toNat).length=(seg A.segments s).length - a.toNat:=List.length_drop
  have htk:((seg A.segments s).drop a.toNat).take (((seg A.segments s).length:Int) - a).toNat=(seg A.segments s).drop a.toNat:=List.take_of_length_le (by rw [hlen];omega)
  rw [htk,Z9i (fun w hm=>Z7z hw s w (List.mem_of_mem_drop hm)) (c:=k - 2) (n:=n) (by omega) (by omega) (by omega) (by omega) (by rw [hlen];omega),Option.bind_some]
  unfold Zur Vm Z1t
  simp only [show ¬ (10:Int)=0 from by decide,show ¬ (10:Int)=1 from by decide,show ¬ (10:Int)=9 from by decide,if_false,if_true]
  congr 3
  by_cases hz:k - 2=0
  ·rw [if_pos hz,if_pos hz]
  rw [if_neg hz,if_neg hz]
  obtain ⟨a1,a2,a3,a4,a5,a6,a7,a8⟩:=Z2s (c:=k - 2) (i:=i) (n:=n) (by omega) (by omega) (by omega) (by omega)
  unfold wd
  rw [List.getElem?_drop,show (a+i / each (k - 2)).toNat=a.toNat+(i / each (k - 2)).toNat by omega]
end
theorem Ydb (t:Tr):(⟨t.Kind,t.Words,t.Kids⟩:Tr)=t:=by cases t;rfl
section
variable {A:Zr}
theorem Zqc {step:Int×Int×List Tr→Option ((Int×Int×List Tr) ⊕ ((Int×Int×List Tr) ⊕ (Int×List Tr)))} {f:Zd→Int→Tr×Int×Int} {r:Zd} (hr:OKr A r) (n:Nat) (hn:n≤1073741824)
  (hs:∀ (i:Nat) (left:Int) (acc:List Tr),i < n→acc.length=i→0≤left∧left≤65536→step (left,(i:Int),acc)=some (if (Xj A r i).2≠0 then .inr (.inl (left,(Xj A r i).2,acc)) else if (f (Xj A r i).1 left).2.2≠0 then .inr (.inl ((f (Xj A r i).1 left).2.1,(f (Xj A r i).1 left).2.2,acc)) else .inl ((f (Xj A r i).1 left).2.1,((i+1:Nat):Int),acc++[(f (Xj A r i).1 left).1])))
  (he:∀ left acc,step (left,(n:Int),acc)=some (.inr (.inr (left,acc))))
  (hf:Lf A f):∀ (m i:Nat) (left:Int) (acc:List Tr),i+m=n→acc.length=i→0≤left∧left≤65536 →
  Z6 step (left,(i:Int),acc)=some (if (Qa f (Xj A r) m i left acc).2.2=0 then .inr ((Qa f (Xj A r) m i left acc).2.1,(Qa f (Xj A r) m i left acc).1) else .inl ((Qa f (Xj A r) m i left acc).2.1,(Qa f (Xj A r) m i left acc).2.2,(Qa f (Xj A r) m i left acc).1))
 | 0,i,left,acc,hi,ha,hl=>by
  have:i=n:=by omega
  subst this
  exact Yr (he left acc)
 | m+1,i,left,acc,hi,ha,hl=>by
  have hst:=hs i left acc (by omega) ha hl
  rw [Qa]
  by_cases h1:(Xj A r i).2≠0
  ·rw [if_pos h1] at hst ⊢
   rw [if_neg h1]
   exact Yr hst
  rw [if_neg h1] at hst ⊢
  by_cases h2:(f (Xj A r i).1 left).2.2≠0
  ·rw [if_pos h2] at hst ⊢
   rw [if_neg h2]
   exact Yr hst
  rw [if_neg h2] at hst ⊢
  have hb:=hf _ left (Un hr i) hl.1 (by omega)
  rw [Xc hst]
  exact Zqc hr n hn hs he hf m (i+1) _ _ (by omega) (by rw [List.length_append,ha];rfl) ⟨hb.1,by omega⟩
abbrev MF:=List (List Int)→Zw→Int→Int→Option (Tr×Int×Int)
theorem Z10 (hw:WS A.segments) {f1 f2:MF} {f:Zd→Int→Tr×Int×Int} (hf:Lf A f) {r:Zd} (hr:OKr A r) (h1:r.kind=1) {d left:Int} (hl:0≤left∧left≤65536)
  (hF:∀ (k:Zd) (l:Int),OKr A k→0≤l∧l≤65536→f1 A.segments (Vm A k) d l=some (f k l)):K3 f1 f2 A.segments (Vm A r) d left=some (stK A f r left):=by
 have hp:(Vm A r).Ptrs=r.ptrs:=by unfold Vm;rw [if_neg (by omega),if_pos h1]
 have hpr:0≤r.ptrs∧r.ptrs < 65536:=by
  cases hr with
  | z=>simp [r0] at h1
  | st s a d p hd hp2 hin=>exact hp2
  | li k s a n hk=>simp only at h1;omega
  | co=>simp at h1
  | at_=>simp at h1
 unfold K3 stK
 rw [Zoh hw hr,Option.bind_some]
 have hL:=Zqc (step:=Ks f1 A.segments (Vm A r) d) (f:=f) hr r.ptrs.toNat (by omega) (fun i l acc hi ha hl=>by
  unfold Ks
  simp only
  rw [hp,show decide ((i:Int) < r.ptrs)=true from by rw [decide_eq_true_eq];omega,cond_true,Z0s hw hr,Option.bind_some]
  simp only [Zur]
  by_cases h1:(Xj A r i).2≠0
  ·rw [if_pos h1,bne_iff_ne.2 h1,cond_true]
  rw [if_neg h1,bne_eq_false_iff_eq.2 (show (Xj A r i).2=0 by omega),cond_false,hF _ l (Un hr i) hl,Option.bind_some]
  by_cases h2:(f (Xj A r i).1 l).2.2≠0
  ·rw [if_pos h2,bne_iff_ne.2 h2,cond_true]
  rw [if_neg h2,bne_eq_false_iff_eq.2 (show (f (Xj A r i).1 l).2.2=0 by omega),cond_false,Zag (by simp only [List.length_singleton];omega) (by simp only [List.length_singleton];omega),Option.bind_some,Yo (by omega) (by omega)]
  rfl) (fun l acc=>by
  unfold Ks
  simp only
  rw [hp,show decide (((r.ptrs.toNat:Nat):Int) < r.ptrs)=false from by rw [decide_eq_false_iff_not];omega,cond_false]) hf r.ptrs.toNat 0 left [] (by omega) rfl hl
 rw [show (((0:Nat):Int))=0 from rfl] at hL
 rw [hL,Option.bind_some]
 by_cases hq:(Qa f (Xj A r) r.ptrs.toNat 0 left []).2.2=0
 ·rw [if_pos hq]
  simp only
  rw [show (Qa f (Xj A r) r.ptrs.toNat 0 left []).2=((Qa f (Xj A r) r.ptrs.toNat 0 left []).2.1,0) from by rw [← hq]]
 rw [if_neg hq]
theorem Z2f {r:Zd} (hr:OKr A r):(r.kind=1→(Vm A r).Data=r.words∧(Vm A r).Ptrs=r.ptrs)∧(r.kind=9→(Vm A r).Data=r.words∧(Vm A r).Ptrs=r.ptrs∧(Vm A r).Count=r.count):=by
 refine ⟨fun h => ?_,fun h => ?_⟩
 ·unfold Vm
  rw [if_neg (by omega),if_pos h]
  exact ⟨rfl,rfl⟩
 unfold Vm
 rw [if_neg (by omega),if_neg (by omega),if_pos h]
 exact ⟨rfl,rfl,rfl⟩
theorem Z7f (hw:WS A.segments) {f1 f2:MF} {g1 g2:Zd→Int→Tr×Int×Int} (l1:Lf A g1) (l2:Lf A g2) {r:Zd} (hr:OKr A r) {d left:Int} (hd:0≤d∧d≤1000) (hl:0≤left∧left≤65536)
  (h1:1≤d→∀ (k:Zd) (l:Int),OKr A k→0≤l∧l≤65536→f1 A.segments (Vm A k) (d - 1) l=some (g1 k l))
  (h2:2≤d→∀ (k:Zd) (l:Int),OKr A k→k.kind=1→0≤l∧l≤65536→f2 A.segments (Vm A k) (d - 2) l=some (stK A g2 k l)):Jf f1 f2 A.segments (Vm A r) d left=some (Zni A g1 g2 d r left):=by
 have hwt:=Z8f hw hr
 have hkn:=Ze8 hr
 obtain ⟨fr1,fr9⟩:=Z2f hr
 unfold Jf Zni
 rw [Zoh hw hr,Option.bind_some,Zes,Zlt hr]
 by_cases k0:r.kind=0
 ·rw [if_pos k0,show (r.kind == 0)=true from by rw [k0];rfl,cond_true]
 rw [if_neg k0,show (r.kind == 0)=false from Vb k0,cond_false]
 have hlv:(cond (decide (d < 1)) true (cond (cond (r.kind == 9) (decide (0 < (Vm A r).Count)) false) (decide (d < 2)) false))=decide (d < lvR r):=by
  unfold lvR
  rw [if_neg k0]
  by_cases k9:r.kind=9
  ·rw [show (r.kind == 9)=true from by rw [k9];rfl,(fr9 k9).2.2,cond_true]
   by_cases hc:0 < r.count
   ·rw [if_pos ⟨k9,hc⟩,decide_eq_true hc,cond_true]
    by_cases hd1:d < 1
    ·rw [decide_eq_true hd1,cond_true,decide_eq_true (show d < 2 by omega)]
    rw [decide_eq_false hd1,cond_false]
   rw [if_neg (fun q=>hc q.2),decide_eq_false hc,cond_false]
   cases decide (d < 1) <;> rfl
  rw [show (r.kind == 9)=false from Vb k9,cond_false,cond_false,if_neg (fun q=>k9 q.1)]
  cases decide (d < 1) <;> rfl
 rw [hlv]
 have hwx:((cond (r.kind == 1) (some (IntKind.i64.wrap ((IntKind.i64.wrap (1+(Vm A r).Data))+(Vm A r).Ptrs))) (some (IntKind.i64.wrap (1+Yk r)))).bind fun (z5:Int)=>(cond (r.kind == 9) (some (IntKind.i64.wrap (1+(IntKind.i64.wrap ((Vm A r).Count * (IntKind.i64.wrap ((IntKind.i64.wrap (1+(Vm A r).Data))+(Vm A r).Ptrs))))))) (some z5)))=some (wtR r):=by
  unfold wtR
  rw [if_neg k0]
  by_cases k1:r.kind=1
  ·rw [if_pos k1,show (r.kind == 1)=true from by rw [k1];rfl,cond_true,Option.bind_some,show (r.kind == 9)=false from Vb (by omega),cond_false,(fr1 k1).1,(fr1 k1).2]
   cases hr with
   | z=>simp [r0] at k1
   | st s a d p hd hp hin=>simp only;rw [Yo (x:=1+d) (by omega) (by omega),Yo (by omega) (by omega)]
   | li k s a n hk=>simp only at k1;omega
   | co=>simp at k1
   | at_=>simp at k1
  rw [if_neg k1,show (r.kind == 1)=false from Vb k1,cond_false,Option.bind_some]
  by_cases k9:r.kind=9
  ·rw [if_pos k9,show (r.kind == 9)=true from by rw [k9];rfl,cond_true,(fr9 k9).1,(fr9 k9).2.1,(fr9 k9).2.2]
   cases hr with
   | z=>simp [r0] at k9
   | st=>simp at k9
   | li k s a n hk=>simp only at k9;omega
   | at_=>simp at k9
   | co s a d p n hd hp hn hwx hin =>
    have:n * (1+d+p)=n+n * (d+p):=by rw [Int.add_assoc,Int.mul_add,Int.mul_one]
    simp only
    rw [Yo (x:=1+d) (by omega) (by omega),Yo (x:=1+d+p) (by omega) (by omega),Yo (x:=n * (1+d+p)) (by omega) (by omega),Yo (by omega) (by omega)]
  have hkc:Yk r=r.count:=by unfold Yk;rw [if_neg k1]
  rw [if_neg k9,show (r.kind == 9)=false from Vb k9,cond_false,Yo (by omega) (by omega),hkc]
 by_cases hb1:d < lvR r
 ·rw [decide_eq_true hb1,cond_true,if_pos (.inl hb1)]
 rw [decide_eq_false hb1,cond_false,Option.bind_some]
 have hstep2:∀ {K:Int→Option (Tr×Int×Int)},((cond (r.kind == 1) (some (IntKind.i64.wrap ((IntKind.i64.wrap (1+(Vm A r).Data))+(Vm A r).Ptrs))) (some (IntKind.i64.wrap (1+Yk r)))).bind fun (z5:Int)=>(cond (r.kind == 9) (some (IntKind.i64.wrap (1+(IntKind.i64.wrap ((Vm A r).Count * (IntKind.i64.wrap ((IntKind.i64.wrap (1+(Vm A r).Data))+(Vm A r).Ptrs))))))) (some z5)).bind K)=K (wtR r):=fun {K}=>by
  rw [← Option.bind_assoc,hwx,Option.bind_some]
 rw [hstep2]
 by_cases hb2:left < wtR r
 ·rw [decide_eq_true hb2,cond_true,if_pos (.inr hb2)]
 rw [decide_eq_false hb2,cond_false,if_neg (by omega),Yo (x:=left - wtR r) (by omega) (by omega)]
 have hlvd:1≤d:=by
  have:1≤lvR r:=by unfold lvR;rw [if_neg k0];split <;> omega
  omega
 have hN:Yk r=(((Yk r).toNat:Nat):Int):=by omega
 -- one kid
 have hkf:∀ (i:Nat) (l:Int),i < (Yk r).toNat→(Xj A r i).2=0→0≤l∧l≤65536→(cond (r.kind == 9) ((f2 A.segments (Vm A (Xj A r i).1) (IntKind.i64.wrap (d - 2)) l).bind fun y16=>some (y16.2.1,y16.2.2,y16.1.Kind,y16.1.Words,y16.1.Kids)) (cond (cond (r.kind == 1) true (r.kind == 8)) ((f1 A.segments (Vm A (Xj A r i).1) (IntKind.i64.wrap (d - 1)) l).bind fun y17=>some (y17.2.1,y17.2.2,y17.1.Kind,y17.1.Words,y17.1.Kids)) (some (l,(Xj A r i).2,(Xj A r i).1.kind,Xa A (Xj A r i).1,([]:List Tr)))))=some ((Zd6 A g1 g2 r (Xj A r i).1 l).2.1,(Zd6 A g1 g2 r (Xj A r i).1 l).2.2,(Zd6 A g1 g2 r (Xj A r i).1 l).1.Kind,(Zd6 A g1 g2 r (Xj A r i).1 l).1.Words,(Zd6 A g1 g2 r (Xj A r i).1 l).1.Kids):=fun i l hi he hl=>by
  rw [Yo (x:=d - 2) (by omega) (by omega),Yo (x:=d - 1) (by omega) (by omega)]
  unfold Zd6
  by_cases k9:r.kind=9
  ·have hkc:Yk r=r.count:=by unfold Yk;rw [if_neg (by omega)]
   have hd2:2≤d:=by
    have:lvR r=2:=by unfold lvR;rw [if_neg k0,if_pos ⟨k9,by omega⟩]
    omega
   rw [if_pos k9,show (r.kind == 9)=true from by rw [k9];rfl,cond_true,h2 hd2 _ l (Un hr i) (Zzu k9 ⟨by omega,by omega⟩) hl,Option.bind_some]
  rw [if_neg k9,show (r.kind == 9)=false from Vb k9,cond_false]
  by_cases k18:r.kind=1∨r.kind=8
  ·have e1:cond (r.kind == 1) true (r.kind == 8)=true:=by rcases k18 with k | k <;> rw [k] <;> rfl
   rw [if_pos k18,e1,cond_true,h1 hlvd _ l (Un hr i) hl,Option.bind_some]
  rw [if_neg k18,show (r.kind == 1)=false from Vb (by omega),show (r.kind == 8)=false from Vb (by omega),cond_false,cond_false,he]
  rfl
 have hL:=Zqc (step:=Jg f1 f2 A.segments (Vm A r) d) (f:=Zd6 A g1 g2 r) hr (Yk r).toNat (by omega) (fun i l acc hi ha hl=>by
  unfold Jg
  simp only
  rw [Zlt hr,Option.bind_some,show decide ((i:Int) < Yk r)=true from by rw [decide_eq_true_eq];omega,cond_true,Z0s hw hr,Option.bind_some]
  simp only [Zur]
  by_cases q1:(Xj A r i).2≠0
  ·rw [if_pos q1,bne_iff_ne.2 q1,cond_true]
  rw [if_neg q1,bne_eq_false_iff_eq.2 (show (Xj A r i).2=0 by omega),cond_false,Zoh hw (Un hr i),Option.bind_some,Zes,Zes,hkf i l hi (by omega) hl,Option.bind_some]
  simp only [Ydb]
  by_cases q2:(Zd6 A g1 g2 r (Xj A r i).1 l).2.2≠0
  ·rw [if_pos q2,bne_iff_ne.2 q2,cond_true]
  rw [if_neg q2,bne_eq_false_iff_eq.2 (show (Zd6 A g1 g2 r (Xj A r i).1 l).2.2=0 by omega),cond_false,Zag (by simp only [List.length_singleton];omega) (by simp only [List.length_singleton];omega),Option.bind_some,Yo (by omega) (by omega)]
  rfl) (fun l acc=>by
  unfold Jg
  simp only
  rw [Zlt hr,Option.bind_some,show decide ((((Yk r).toNat:Nat):Int) < Yk r)=false from by rw [decide_eq_false_iff_not];omega,cond_false]) (Z2x l1 l2 r) (Yk r).toNat 0 (left - wtR r) [] (by omega) rfl (by omega)
 rw [show (((0:Nat):Int))=0 from rfl] at hL
 rw [hL,Option.bind_some]
 simp only
 by_cases hq:(Qa (Zd6 A g1 g2 r) (Xj A r) (Yk r).toNat 0 (left - wtR r) []).2.2=0
 ·rw [if_pos hq]
  simp only
  rw [show (Qa (Zd6 A g1 g2 r) (Xj A r) (Yk r).toNat 0 (left - wtR r) []).2=((Qa (Zd6 A g1 g2 r) (Xj A r) (Yk r).toNat 0 (left - wtR r) []).2.1,0) from by rw [← hq]]
 rw [if_neg hq]
theorem Ztx (hw:WS A.segments) (k d:Nat):Lf A (U4 A k d):=by
 unfold U4
 split
 ·exact Zsm hw _
 exact Z1p
theorem Z0t (hw:WS A.segments):∀ (K:Nat),(∀ (d:Nat) r left,d≤1000→OKr A r→0≤left∧left≤65536→2 * d+1≤K→(Yn K).1 A.segments (Vm A r) d left=some (Zdn A d r left)) ∧
  (∀ (d:Nat) r left,d≤1000→OKr A r→r.kind=1→0≤left∧left≤65536→2 * d+2≤K→(Yn K).2 A.segments (Vm A r) d left=some (stK A (Zdn A d) r left))
 | 0=>⟨fun d r left _ _ _ h=>by omega,fun d r left _ _ _ _ h=>by omega⟩
 | K+1=>by
  obtain ⟨i1,i2⟩:=Z0t hw K
  refine ⟨fun d r left hd hr hl hK => ?_,fun d r left hd hr h1 hl hK => ?_⟩
  ·show Jf (Yn K).1 (Yn K).2 A.segments (Vm A r) d left=_
   rw [Zsn]
   refine Z7f hw (Ztx hw 1 d) (Ztx hw 2 d) hr (by omega) hl (fun hd1 k l hk hl => ?_) (fun hd2 k l hk k1 hl => ?_)
   ·have:=i1 (d - 1) k l (by omega) hk hl (by omega)
    rw [show (((d - 1:Nat):Int))=(d:Int) - 1 by omega] at this
    unfold U4
    rw [if_pos (by omega)]
    exact this
   have:=i2 (d - 2) k l (by omega) hk k1 hl (by omega)
   rw [show (((d - 2:Nat):Int))=(d:Int) - 2 by omega] at this
   unfold U4
   rw [if_pos (by omega)]
   exact this
  show K3 (Yn K).1 (Yn K).2 A.segments (Vm A r) d left=_
  exact Z10 hw (Zsm hw d) hr h1 hl fun k l hk hl=>i1 d k l hd hk hl (by omega)
theorem Z7o (hw:WS A.segments) {d:Nat} (hd:d≤1000) {r:Zd} (hr:OKr A r) {left:Int} (hl:0≤left∧left≤65536):Gx A.segments (Vm A r) d left=some (Zdn A d r left) :=
 Zqa (2 * d+1) fun k hk=>(Z0t hw k).1 d r left hd hr hl hk
def Zfr (A:Zr) (x:Yg):Tr×Int×Int :=
 if (atR A 0 0).2≠0 then (⟨0,[],[]⟩,0,(atR A 0 0).2)
 else
  let q:=Zdn A (Ui x).Depth.toNat (atR A 0 0).1 (Ui x).Weight
  if q.2.2≠0 then (⟨0,[],[]⟩,0,q.2.2) else (q.1,(Ui x).Weight - q.2.1,0)
theorem Zw6 (hw:WS A.segments) (x:Yg):X6 A.segments x=some (Zfr A x):=by
 unfold X6 Zfr
 rw [Z16,Option.bind_some,Z12 hw,Option.bind_some]
 simp only [Zur]
 have hd:0≤(Ui x).Depth∧(Ui x).Depth≤64:=Zjd _ _ (by decide)
 have hW:0≤(Ui x).Weight∧(Ui x).Weight≤65536:=Zjd _ _ (by decide)
 by_cases h:(atR A 0 0).2≠0
 ·rw [if_pos h,show ((atR A 0 0).2 != 0)=true from bne_iff_ne.2 h,cond_true]
 rw [if_neg h,show ((atR A 0 0).2 != 0)=false from bne_eq_false_iff_eq.2 (by omega),cond_false]
 have hm:=Z7o hw (d:=(Ui x).Depth.toNat) (by omega) (Zpx (A:=A) 0 0) hW
 rw [show (((Ui x).Depth.toNat:Nat):Int)=(Ui x).Depth by omega] at hm
 rw [hm,Option.bind_some]
 by_cases hq:(Zdn A (Ui x).Depth.toNat (atR A 0 0).1 (Ui x).Weight).2.2≠0
 ·rw [if_pos hq,show ((Zdn A (Ui x).Depth.toNat (atR A 0 0).1 (Ui x).Weight).2.2 != 0)=true from bne_iff_ne.2 hq,cond_true]
 have h0:(Zdn A (Ui x).Depth.toNat (atR A 0 0).1 (Ui x).Weight).2.2=0:=by omega
 have hb:=Zsm hw _ _ _ (Zpx (A:=A) 0 0) hW.1 h0
 rw [if_neg hq,show ((Zdn A (Ui x).Depth.toNat (atR A 0 0).1 (Ui x).Weight).2.2 != 0)=false from bne_eq_false_iff_eq.2 h0,cond_false,Yo (by omega) (by omega)]
theorem Z93 (x:Yg):(Zfr A x).2=Z5u A x:=by
 unfold Zfr Z5u
 by_cases h:(atR A 0 0).2≠0
 ·rw [if_pos h,if_pos h]
 rw [if_neg h,if_neg h]
 simp only
 by_cases hq:(Zdn A (Ui x).Depth.toNat (atR A 0 0).1 (Ui x).Weight).2.2≠0
 ·rw [if_pos hq,if_pos hq]
 rw [if_neg hq,if_neg hq]
end
section
variable {A:Zr}
theorem Zuy (hw:WS A.segments) {r:Zd} (h:OKr A r):((Xa A r).length:Int)=Zcc r:=by
 unfold Xa Zcc
 cases h with
 | z=>rfl
 | li k s a n hk hn hin=>simp only;rw [if_neg (by omega),if_neg (by omega),if_neg (by omega),if_neg (by omega)];rfl
 | co=>rfl
 | at_=>rfl
 | st s a d p hd hp hin =>
  have hi':=inB_iff.1 hin
  simp only [show ¬ (1:Int)=10 from by decide,if_false,if_true,List.length_take,List.length_drop]
  omega
theorem Zm0 (hw:WS A.segments) {r:Zd} (h:OKr A r) {i:Nat} (hi:i < (Xa A r).length):(Xa A r)[i]=Zw8 A r (i:Int):=by
 have hl:=Zuy hw h
 unfold Zw8
 rw [if_neg (by omega)]
 cases h with
 | z=>simp [Xa,r0] at hi
 | li k s a n hk hn hin =>
  have:Xa A ⟨some A,k,s,a,0,0,n,0,0⟩=[]:=by unfold Xa;rw [if_neg (by simp only;omega),if_neg (by simp only;omega)]
  simp [this] at hi
 | co=>simp [Xa] at hi
 | at_ s a c j n hc h0 h1 hn hin =>
  have:i=0:=by
   simp [Xa] at hi;exact hi
  subst this
  rfl
 | st s a d p hd hp hin =>
  have hi':=inB_iff.1 hin
  have hid:(i:Int) < d:=by simp [Zcc] at hl;omega
  simp only [Xa,show ¬ (1:Int)=10 from by decide,if_false,if_true,List.getElem_take,List.getElem_drop]
  unfold wd
  rw [show (a+(i:Int)).toNat=a.toNat+i by omega,List.getElem?_eq_getElem (by omega)]
  rfl
end
theorem Ka {t x:Tr} (h:x∈t.Kids):SizeOf.sizeOf x < SizeOf.sizeOf t:=by
 obtain ⟨k,w,ks⟩:=t
 have:=List.sizeOf_lt_of_mem h
 simp only [Zi.mk.sizeOf_spec]
 simp only at this
 omega
theorem Zt1 {α R:Type} (xs:List α) (step:Int→Option (Int ⊕ R)) (p:α→Bool) (e o:R) (hl:(xs.length:Int)≤140737488355328)
  (h1:∀ (i:Nat) (x:α),i < xs.length→xs[i]? = some x→x∈xs→step i=some (if p x=true then .inr e else .inl (IntKind.i64.wrap ((i:Int)+1)))) (h2:step xs.length=some (.inr o)):Z6 step 0=some (if xs.any p=true then e else o):=by
 have hloop:=Z4f xs (fun i (_:Unit)=>i) step (fun _ x=>some (if p x=true then .inr e else .inl ())) (fun _=>o) (fun i s x hi hx=>by
  rw [h1 i x hi hx (List.mem_of_getElem? hx),Yo (by omega) (by omega)]
  cases p x <;> rfl) (fun _=>h2) ()
 refine hloop.trans ?_
 rw [Zte p (fun s _=>s) e (fun _ _=>True) xs.length xs () 0 (by omega) trivial (fun s k x _ _ _=>⟨by cases p x <;> rfl,fun _=>trivial⟩)]
def tr {α:Type} (p:α→Bool):List α→List α
 | []=>[]
 | x::xs=>match tr p xs with
  | []=>if p x=true then [] else [x]
  | y::ys=>x::y::ys
def trN {α:Type} (p:α→Bool) (l:List α):Nat→Nat
 | 0=>0
 | n+1=>match l[n]? with
  | some x=>if p x=true then trN p l n else n+1
  | none=>0
theorem Zsa {α:Type} {p:α→Bool} {x:α} (h:p x=true):∀ l:List α,tr p (l++[x])=tr p l
 | []=>by simp [tr,h]
 | y::l=>by simp only [List.cons_append,tr,Zsa h l]
theorem Zr9 {α:Type} {p:α→Bool} {x:α} (h:p x=false):∀ l:List α,tr p (l++[x])=l++[x]
 | []=>by simp [tr,h]
 | y::l=>by
  simp only [List.cons_append,tr,Zr9 h l]
  cases hl:l++[x] with
  | nil=>simp at hl
  | cons a b=>rfl
theorem Zyp {α:Type} {p:α→Bool} {l:List α}:∀ n,n≤l.length→l.take (trN p l n)=tr p (l.take n)∧trN p l n≤n
 | 0,_=>by simp [trN,tr]
 | n+1,h=>by
  have hn:l[n]? = some l[n]:=List.getElem?_eq_getElem (by omega)
  have e:l.take (n+1)=l.take n++[l[n]]:=by rw [List.take_add_one,hn];rfl
  obtain ⟨h1,h2⟩:=Zyp (p:=p) (l:=l) n (by omega)
  unfold trN
  rw [hn]
  simp only
  split
  ·rename_i hp
   rw [e,Zsa hp]
   exact ⟨h1,by omega⟩
  rename_i hp
  rw [e,Zr9 (by simpa using hp),← e]
  exact ⟨rfl,Nat.le_refl _⟩
theorem Zc7 {α:Type} (p:α→Bool):∀ l:List α,(tr p l).length≤l.length
 | []=>by simp [tr]
 | x::l=>by
  have:=Zc7 p l
  simp only [tr]
  split
  ·split <;> simp
  rename_i y ys he
  rw [he] at this
  simp at this ⊢
  omega
theorem Zol {α:Type} {p:α→Bool} {x:α}:∀ {l:List α},x∈tr p l→x∈l
 | [],h=>by simp [tr] at h
 | y::l,h=>by
  simp only [tr] at h
  split at h
  ·split at h
   ·simp at h
   simp at h;simp [h]
  rename_i z zs he
  rw [← he] at h
  rcases List.mem_cons.1 h with h | h
  ·simp [h]
  exact List.mem_cons_of_mem _ (Zol h)
theorem Z00 {α:Type} {p:α→Bool}:∀ l:List α,tr p (tr p l)=tr p l
 | []=>rfl
 | x::l=>by
  have ih:=Z00 (p:=p) l
  simp only [tr]
  cases h:tr p l with
  | nil =>
   simp only
   cases hx:p x <;> simp [tr,hx]
  | cons y ys =>
   rw [h] at ih
   simp only [tr] at ih ⊢
   rw [ih]
theorem Zyr {α β:Type} {p:α→Bool} {q:β→Bool} {f:α→β} (h:∀ x,q (f x)=p x):∀ l:List α,tr q (l.map f)=(tr p l).map f
 | []=>rfl
 | x::l=>by
  simp only [List.map_cons,tr,Zyr h l]
  cases tr p l with
  | nil=>simp only [List.map_nil,h];split <;> rfl
  | cons y ys=>rfl
theorem Z8v {α:Type} (l:List α) (p:α→Bool) (step:Int→Option (Int ⊕ Int)) (hl:(l.length:Int)≤140737488355328)
  (h0:step 0=some (.inr 0)) (h1:∀ (n:Nat) (x:α),l[n]? = some x→n < l.length→step ((n+1:Nat):Int)=some (if p x=true then .inl (n:Int) else .inr ((n+1:Nat):Int))):Z6 step (l.length:Int)=some (trN p l l.length:Int):=by
 have key:∀ n:Nat,n≤l.length→Z6 step (n:Int)=some (trN p l n:Int):=fun n=>by
  induction n with
  | zero=>intro _;exact Yr h0
  | succ n ih =>
   intro hn
   have hx:l[n]? = some l[n]:=List.getElem?_eq_getElem (by omega)
   have h:=h1 n _ hx (by omega)
   unfold trN
   rw [hx]
   simp only
   split
   ·rename_i hp
    rw [if_pos hp] at h
    rw [Xc h]
    exact ih (by omega)
   rename_i hp
   rw [if_neg hp] at h
   exact Yr h
 exact key l.length (Nat.le_refl _)
theorem Z0y {α:Type} {l:List α} {n:Nat} (h:n≤l.length):Zhj l 0 (n:Int)=some (l.take n):=by
 rw [Zsv (by omega) (by omega) (by omega)]
 simp
theorem Ybf {n:Nat}:decide (0 < ((n+1:Nat):Int))=true:=by rw [decide_eq_true_eq];omega
theorem Z7g {l:List Int} (hl:l.length * 8≤140737488355328):V6 l=some (tr (fun x=>x == 0) l):=by
 have hloop:=Z8v l (fun x=>x == 0) (Ky l) (by omega) (by unfold Ky;rfl) (fun n x hx hn=>by
  unfold Ky
  rw [Ybf,cond_true,Yo (by omega) (by omega)]
  have e:((n+1:Nat):Int) - 1=(n:Int):=by omega
  rw [e,Xh hx]
  simp only [Option.bind_some,cond_true]
  cases x == 0 <;> rfl)
 obtain ⟨h1,h2⟩:=Zyp (p:=fun x=>x == 0) (l:=l) l.length (Nat.le_refl _)
 have h3:=Zc7 (fun x=>x == 0) l
 unfold V6
 rw [hloop,Option.bind_some,Z0y h2,Option.bind_some,h1,List.take_length,Zag (by rw [List.length_nil];omega) (by rw [List.length_nil];omega)]
 rfl
inductive Bd:Tr→Prop
 | mk (t:Tr) (h1:t.Words.length * 8≤140737488355328) (h2:t.Kids.length * 56≤140737488355328) (h3:∀ w∈t.Words,0≤w∧w < 18446744073709551616) (h4:∀ k∈t.Kids,Bd k):Bd t
theorem Bd.w {t:Tr} (h:Bd t):t.Words.length * 8≤140737488355328:=by cases h;assumption
theorem Bd.k {t:Tr} (h:Bd t):t.Kids.length * 56≤140737488355328:=by cases h;assumption
theorem Bd.u {t:Tr} (h:Bd t):∀ w∈t.Words,0≤w∧w < 18446744073709551616:=by cases h;assumption
theorem Bd.all {t:Tr} (h:Bd t):∀ k∈t.Kids,Bd k:=by cases h;assumption
def nrm (t:Tr):Tr :=
 if t.Kind=0 then ⟨0,[],[]⟩
 else if t.Kind=1 then ⟨1,tr (fun x=>x == 0) t.Words,tr (fun x=>x.Kind == 0) (t.Kids.attach.map fun k=>nrm k.1)⟩
 else ⟨t.Kind,t.Words,t.Kids.attach.map fun k=>nrm k.1⟩
termination_by SizeOf.sizeOf t
decreasing_by all_goals exact Ka k.2
theorem Zga (t:Tr):nrm t=if t.Kind=0 then ⟨0,[],[]⟩ else if t.Kind=1 then ⟨1,tr (fun x=>x == 0) t.Words,tr (fun x=>x.Kind == 0) (t.Kids.map nrm)⟩ else ⟨t.Kind,t.Words,t.Kids.map nrm⟩:=by
 rw [nrm]
 simp only [List.attach_map_val]
theorem Vt (t:Tr):(nrm t).Kind=t.Kind:=by
 rw [Zga]
 split
 ·rename_i h;exact h.symm
 split
 ·rename_i h;exact h.symm
 rfl
theorem Zj6 {α:Type} {p:α→Bool} {x:α} {l:List α} (h:tr p l=[]):tr p (x::l)=if p x=true then [] else [x]:=by simp only [tr,h]
theorem Zus {α:Type} {p:α→Bool} {x:α} {l:List α} (h:tr p l≠[]):tr p (x::l)=x::tr p l:=by
 simp only [tr]
 split
 ·rename_i h';exact absurd h' h
 rename_i h';rw [h']
theorem Z2w:∀ (l:List Tr) (n:Nat) (acc:Int),(l.zipIdx n).foldl (fun a p=>if p.1.Kind=0 then a else ((p.2+1:Nat):Int)) acc=if (tr (fun x=>x.Kind == 0) l).length=0 then acc else ((n+(tr (fun x=>x.Kind == 0) l).length:Nat):Int)
 | [],n,acc=>by simp [tr]
 | x::l,n,acc=>by
  rw [List.zipIdx_cons,List.foldl_cons,Z2w l (n+1)]
  by_cases h:tr (fun x=>x.Kind == 0) l=[]
  ·rw [Zj6 h,h]
   by_cases hx:x.Kind=0
   ·simp [hx]
   simp [hx]
  have h':(tr (fun x=>x.Kind == 0) l).length≠0:=by simpa using h
  rw [Zus h,if_neg h',List.length_cons,if_neg (by omega)]
  congr 1
  omega
theorem Zys {α:Type} (p:α→Bool) (l:List α):l.take (tr p l).length=tr p l:=by
 obtain ⟨h1,h2⟩:=Zyp (p:=p) (l:=l) l.length (Nat.le_refl _)
 rw [List.take_length] at h1
 rw [← h1,List.length_take]
 congr 1
 omega
theorem Z7p {k:Nat} {t:Tr} (hl:t.Kids.length * 56≤140737488355328) (ih:∀ x∈t.Kids,Xk k x=some (nrm x)) :
  Z6 (Qi (Xk k) t) (0,0,[])=some (if (tr (fun x=>x.Kind == 0) (t.Kids.map nrm)).length=0 then 0 else ((tr (fun x=>x.Kind == 0) (t.Kids.map nrm)).length:Int),t.Kids.map nrm):=by
 have key:∀ (l pre:List Tr) (a:Int),t.Kids=pre++l→Z6 (Qi (Xk k) t) (a,((pre.length:Nat):Int),pre.map nrm)=some (((l.map nrm).zipIdx pre.length).foldl (fun a p=>if p.1.Kind=0 then a else ((p.2+1:Nat):Int)) a,t.Kids.map nrm):=fun l=>by
  induction l with
  | nil =>
   intro pre a hp
   rw [List.append_nil] at hp
   refine Yr ?_
   unfold Qi
   simp only
   rw [hp,Zd7,cond_false]
   rfl
  | cons x l ihl =>
   intro pre a hp
   have hx:t.Kids[pre.length]? = some x:=by rw [hp,List.getElem?_append_right (Nat.le_refl _),Nat.sub_self];rfl
   have hi:pre.length < t.Kids.length:=by rw [hp];simp
   have hm:x∈t.Kids:=List.mem_of_getElem? hx
   have hs:Qi (Xk k) t (a,((pre.length:Nat):Int),pre.map nrm)=some (.inl (if x.Kind=0 then a else ((pre.length+1:Nat):Int),(((pre++[x]).length:Nat):Int),(pre++[x]).map nrm)):=by
    unfold Qi
    simp only
    rw [Zd8 hi,cond_true,Xh hx,Option.bind_some,ih x hm,Option.bind_some,Zag (by simp;omega) (by simp;omega),Option.bind_some,Yo (by omega) (by omega),Vt]
    have e:((pre.length:Nat):Int)+1=((pre.length+1:Nat):Int):=by omega
    rw [e]
    by_cases h0:x.Kind=0
    ·simp [h0]
    have:(x.Kind != 0)=true:=by simp [h0]
    rw [this,cond_true]
    simp [h0]
   rw [Xc hs,ihl (pre++[x]) _ (by rw [hp];simp)]
   simp only [List.map_cons,List.zipIdx_cons,List.foldl_cons,List.length_append,List.length_singleton,Vt]
 have:=key t.Kids [] 0 rfl
 rw [Z2w] at this
 simpa using this
theorem Z0u:∀ (k:Nat) (t:Tr),Bd t→SizeOf.sizeOf t < k→Xk k t=some (nrm t)
 | 0,t,_,h=>by omega
 | k+1,t,hb,hk=>by
  have ih:∀ x∈t.Kids,Xk k x=some (nrm x):=fun x hx=>Z0u k x (hb.all x hx) (by have:=Ka hx;omega)
  have hw:=hb.w
  have hkd:=hb.k
  show V1 (Xk k) t=_
  unfold V1
  rw [Zga]
  by_cases h0:t.Kind=0
  ·rw [if_pos h0,h0];rfl
  have e0:(t.Kind == 0)=false:=by rw [beq_eq_false_iff_ne];exact h0
  rw [if_neg h0,e0,cond_false,Z7p hkd ih,Option.bind_some]
  by_cases h1:t.Kind=1
  ·have e1:(t.Kind == 1)=true:=by rw [beq_iff_eq];exact h1
   rw [if_pos h1,e1,cond_true,Z7g hw,Option.bind_some]
   have l1:=Zc7 (fun x:Tr=>x.Kind == 0) (t.Kids.map nrm)
   have l2:(if (tr (fun x=>x.Kind == 0) (t.Kids.map nrm)).length=0 then (0:Int) else ((tr (fun x=>x.Kind == 0) (t.Kids.map nrm)).length:Int))=((tr (fun x=>x.Kind == 0) (t.Kids.map nrm)).length:Int):=by
    split
    ·rename_i h;rw [h];rfl
    rfl
   simp only [l2]
   rw [Z0y l1,Option.bind_some,Zys]
  have e1:(t.Kind == 1)=false:=by rw [beq_eq_false_iff_ne];exact h1
  rw [if_neg h1,e1,cond_false,Zag (by rw [List.length_nil];omega) (by rw [List.length_nil];omega)]
  rfl
theorem Z0v {t:Tr} (h:Bd t):Zbv t=some (nrm t):=Zqa (SizeOf.sizeOf t+1) fun k hk=>Z0u k t h (by omega)
theorem Z6y:∀ (n:Nat) (t:Tr),SizeOf.sizeOf t < n→Bd t→Bd (nrm t)
 | 0,t,h,_=>by omega
 | n+1,t,hn,hb=>by
  have ih:∀ x∈t.Kids,Bd (nrm x):=fun x hx=>Z6y n x (by have:=Ka hx;omega) (hb.all x hx)
  have hw:=hb.w
  have hk:=hb.k
  rw [Zga]
  split
  ·exact .mk _ (by simp) (by simp) (fun w h=>by simp at h) (fun w h=>by simp at h)
  split
  ·have l1:=Zc7 (fun x:Int=>x == 0) t.Words
   have l2:=Zc7 (fun x:Tr=>x.Kind == 0) (t.Kids.map nrm)
   rw [List.length_map] at l2
   refine .mk _ (by simp only;omega) (Nat.le_trans (Nat.mul_le_mul_right 56 l2) hk) (fun w h=>hb.u w (Zol h)) (fun x h => ?_)
   obtain ⟨y,hy,rfl⟩:=List.mem_map.1 (Zol h)
   exact ih y hy
  refine .mk _ hw (by simp only [List.length_map];exact hk) hb.u (fun x h => ?_)
  obtain ⟨y,hy,rfl⟩:=List.mem_map.1 h
  exact ih y hy
theorem Bd.nrm {t:Tr} (h:Bd t):Bd (nrm t):=Z6y _ t (Nat.lt_succ_self _) h
theorem Zvo:∀ (n:Nat) (t:Tr),SizeOf.sizeOf t < n→nrm (nrm t)=nrm t
 | 0,t,h=>by omega
 | n+1,t,hn=>by
  have ih:∀ x∈t.Kids,nrm (nrm x)=nrm x:=fun x hx=>Zvo n x (by have:=Ka hx;omega)
  have em:∀ l:List Tr,(∀ x∈l,x∈t.Kids)→(l.map nrm).map nrm=l.map nrm:=fun l hl=>by
   rw [List.map_map]
   exact List.map_congr_left fun x hx=>ih x (hl x hx)
  rw [Zga t]
  by_cases h0:t.Kind=0
  ·rw [if_pos h0,Zga];simp
  rw [if_neg h0]
  by_cases h1:t.Kind=1
  ·rw [if_pos h1,Zga]
   simp only [if_neg (show ¬ (1:Int)=0 by decide),if_true]
   have q1:∀ l:List Tr,tr (fun x:Tr=>x.Kind == 0) (l.map nrm)=(tr (fun x:Tr=>x.Kind == 0) l).map nrm:=Zyr (fun x=>by rw [Vt])
   rw [Z00,q1,Z00,q1,em _ (fun x hx=>Zol hx)]
  rw [if_neg h1,Zga]
  simp only
  rw [if_neg h0,if_neg h1,em _ (fun x hx=>hx)]
theorem Z25 (t:Tr):nrm (nrm t)=nrm t:=Zvo _ t (Nat.lt_succ_self _)
def eqT (a b:Tr):Bool:=a.Kind == b.Kind && (a.Words == b.Words && (a.Kids.length == b.Kids.length && (a.Kids.attach.zip b.Kids).all fun p=>eqT p.1.1 p.2))
termination_by SizeOf.sizeOf a
decreasing_by exact Ka p.1.2
def eqL:List Tr→List Tr→Bool
 | [],[]=>true
 | x::xs,y::ys=>eqT x y && eqL xs ys
 | _,_=>false
theorem Z3r:∀ (l m:List Tr) (P:Tr→Prop) (l':List {x // P x}),l'.map (·.1)=l→(l.length == m.length && (l'.zip m).all fun p=>eqT p.1.1 p.2)=eqL l m
 | [],[],P,l',h=>by cases l' <;> simp_all [eqL]
 | [],y::m,P,l',h=>by cases l' <;> simp_all [eqL]
 | x::l,[],P,l',h=>by cases l' <;> simp_all [eqL]
 | x::l,y::m,P,l',h=>by
  cases l' with
  | nil=>simp at h
  | cons z l' =>
   simp only [List.map_cons,List.cons.injEq] at h
   have ih:=Z3r l m P l' h.2
   simp only [List.length_cons,List.zip_cons_cons,List.all_cons,eqL,h.1]
   rw [← ih]
   have:(l.length+1 == m.length+1)=(l.length == m.length):=by simp
   rw [this]
   cases l.length == m.length <;> cases eqT x y <;> rfl
theorem Ztb (a b:Tr):eqT a b=(a.Kind == b.Kind && (a.Words == b.Words && eqL a.Kids b.Kids)):=by
 rw [eqT,Z3r a.Kids b.Kids (·∈a.Kids) a.Kids.attach (by simp)]
theorem Zta (x y:Tr) (xs ys:List Tr):eqL (x::xs) (y::ys)=(eqT x y && eqL xs ys):=rfl
theorem Zvg:∀ (n:Nat) (a b:Tr),SizeOf.sizeOf a < n→(eqT a b=true↔a=b)
 | 0,a,b,h=>by omega
 | n+1,a,b,hn=>by
  have ih:∀ x∈a.Kids,∀ y,eqT x y=true↔x=y:=fun x hx y=>Zvg n x y (by have:=Ka hx;omega)
  have hl:∀ (l m:List Tr),(∀ x∈l,x∈a.Kids)→(eqL l m=true↔l=m):=fun l=>by
   induction l with
   | nil=>intro m _;cases m <;> simp [eqL]
   | cons x l ihl =>
    intro m hm
    cases m with
    | nil=>simp [eqL]
    | cons y m=>rw [Zta,Bool.and_eq_true,ih x (hm x (.head _)) y,ihl m (fun z hz=>hm z (.tail _ hz)),List.cons.injEq]
  rw [Ztb,Bool.and_eq_true,Bool.and_eq_true,hl a.Kids b.Kids (fun x hx=>hx),beq_iff_eq,beq_iff_eq]
  obtain ⟨k,w,ks⟩:=a
  obtain ⟨k',w',ks'⟩:=b
  simp
theorem eqT_iff {a b:Tr}:eqT a b=true↔a=b:=Zvg _ a b (Nat.lt_succ_self _)
theorem Z5y (a:Tr):eqT a a=true:=eqT_iff.2 rfl
theorem Z5x (a b:Tr):eqT a b=eqT b a:=by
 rw [Bool.eq_iff_iff,eqT_iff,eqT_iff];exact ⟨Eq.symm,Eq.symm⟩
theorem Z5p:∀ (a b:List Int),a.length=b.length→(a.zip b).any (fun p=>p.1 != p.2) = !(a == b)
 | [],[],_=>rfl
 | [],_::_,h=>by simp at h
 | _::_,[],h=>by simp at h
 | x::a,y::b,h=>by
  have ih:=Z5p a b (by simpa using h)
  rw [List.zip_cons_cons,List.any_cons,ih]
  by_cases hxy:x=y
  ·subst hxy;simp
  simp [bne,hxy]
theorem Zt2 {R:Type} (a b:List Int) (step:Int→Option (Int ⊕ R)) (e o:R) (hab:a.length=b.length) (hl:(a.length:Int)≤140737488355328)
  (h1:∀ (i:Nat) (x y:Int),i < a.length→a[i]? = some x→b[i]? = some y→step i=some (if (x != y)=true then .inr e else .inl (IntKind.i64.wrap ((i:Int)+1)))) (h2:step a.length=some (.inr o)) :
  Z6 step 0=some (if (a == b)=true then o else e):=by
 have hz:(a.zip b).length=a.length:=by rw [List.length_zip];omega
 have:=Zt1 (a.zip b) step (fun p=>p.1 != p.2) e o (by rw [hz];exact hl) (fun i p hi hp hm=>by
  rw [hz] at hi
  have ha:a[i]? = some a[i]:=List.getElem?_eq_getElem hi
  have hb:b[i]? = some b[i]:=List.getElem?_eq_getElem (by omega)
  have:p=(a[i],b[i]):=by
   rw [List.getElem?_eq_getElem (by rw [hz];exact hi)] at hp
   injection hp with hp
   rw [← hp,List.getElem_zip]
  subst this
  exact h1 i _ _ hi ha hb) (by rw [hz];exact h2)
 rw [this,Z5p a b hab]
 cases a == b <;> rfl
theorem Ztw {a b:Nat}:((a:Int) != (b:Int)) = !(a == b):=by
 rw [Bool.eq_iff_iff];simp;omega
theorem Zxd {a b:List Int} (h:¬ a.length=b.length):(a == b)=false:=by
 rw [beq_eq_false_iff_ne];intro e;exact h (by rw [e])
theorem Z7w {a b:List Int} (h:(a.length:Int)≤140737488355328):V5 a b=some (a == b):=by
 unfold V5
 rw [Ztw]
 by_cases hab:a.length=b.length
 ·have:(!(a.length == b.length))=false:=by simp [hab]
  rw [this,cond_false,Zt2 a b (Kx a b) (.inl ()) (.inr ()) hab h (fun i x y hi hx hy=>by
   unfold Kx
   rw [Zd8 hi,cond_true,Xh hx,Option.bind_some,Xh hy,Option.bind_some]
   cases x != y <;> rfl) (by unfold Kx;rw [Zd7];rfl)]
  cases a == b <;> rfl
 have:(!(a.length == b.length))=true:=by simp [hab]
 rw [this,cond_true,Zxd hab]
theorem Z97 (q:Tr→Tr→Bool):∀ (a b:List Tr),(a.zip b).any (fun p => !q p.1 p.2) = !((a.zip b).all fun p=>q p.1 p.2)
 | [],b=>by simp
 | x::a,[]=>by simp
 | x::a,y::b=>by rw [List.zip_cons_cons,List.any_cons,Z97 q a b,List.all_cons];cases q x y <;> rfl
theorem Z4g {R:Type} (a b:List Tr) (q:Tr→Tr→Bool) (step:Int→Option (Int ⊕ R)) (e o:R) (hab:a.length=b.length) (hl:(a.length:Int)≤140737488355328)
  (h1:∀ (i:Nat) (x y:Tr),i < a.length→a[i]? = some x→b[i]? = some y→x∈a→y∈b→step i=some (if (!q x y)=true then .inr e else .inl (IntKind.i64.wrap ((i:Int)+1)))) (h2:step a.length=some (.inr o)) :
  Z6 step 0=some (if ((a.zip b).all fun p=>q p.1 p.2)=true then o else e):=by
 have hz:(a.zip b).length=a.length:=by rw [List.length_zip];omega
 have:=Zt1 (a.zip b) step (fun p => !q p.1 p.2) e o (by rw [hz];exact hl) (fun i p hi hp hm=>by
  rw [hz] at hi
  have ha:a[i]? = some a[i]:=List.getElem?_eq_getElem hi
  have hb:b[i]? = some b[i]:=List.getElem?_eq_getElem (by omega)
  have:p=(a[i],b[i]):=by
   rw [List.getElem?_eq_getElem (by rw [hz];exact hi)] at hp
   injection hp with hp
   rw [← hp,List.getElem_zip]
  subst this
  exact h1 i _ _ hi ha hb (List.getElem_mem _) (List.getElem_mem _)) (by rw [hz];exact h2)
 rw [this,Z97 q a b]
 cases (a.zip b).all fun p=>q p.1 p.2 <;> rfl
theorem Zy1:∀ (a b:List Tr),a.length=b.length→((a.zip b).all fun p=>eqT p.1 p.2)=eqL a b
 | [],[],_=>rfl
 | [],_::_,h=>by simp at h
 | _::_,[],h=>by simp at h
 | x::a,y::b,h=>by
  have ih:=Zy1 a b (by simpa using h)
  rw [List.zip_cons_cons,List.all_cons,ih];rfl
theorem Zxf:∀ (a b:List Tr),a.length≠b.length→eqL a b=false
 | [],[],h=>by simp at h
 | [],_::_,_=>rfl
 | _::_,[],_=>rfl
 | x::a,y::b,h=>by rw [Zta,Zxf a b (by simpa using h),Bool.and_false]
theorem Z3g:∀ (k:Nat) (a b:Tr),Bd a→Bd b→SizeOf.sizeOf a < k→Jb k a b=some (eqT a b)
 | 0,a,b,_,_,h=>by omega
 | k+1,a,b,ha,hb,hk=>by
  have ih:∀ x∈a.Kids,∀ y∈b.Kids,Jb k x y=some (eqT x y):=fun x hx y hy=>Z3g k x y (ha.all x hx) (hb.all y hy) (by have:=Ka hx;omega)
  have hw:=ha.w
  have hkd:=ha.k
  show V2 (Jb k) a b=_
  unfold V2
  rw [Ztb,Z7w (by omega),Option.bind_some,Ztw]
  by_cases h0:a.Kind=b.Kind
  ·have e0:(a.Kind != b.Kind)=false:=by simp [h0]
   have e1:(a.Kind == b.Kind)=true:=by simp [h0]
   rw [e0,e1,cond_false,cond_false,Option.bind_some,Bool.true_and]
   cases hw':a.Words == b.Words with
   | false=>rfl
   | true =>
    rw [Bool.not_true,cond_false,Bool.true_and]
    by_cases hab:a.Kids.length=b.Kids.length
    ·have:(!(a.Kids.length == b.Kids.length))=false:=by simp [hab]
     rw [this,cond_false,Z4g a.Kids b.Kids eqT (Kr (Jb k) a b) (.inl ()) (.inr ()) hab (by omega) (fun i x y hi hx hy hmx hmy=>by
      unfold Kr
      rw [Zd8 hi,cond_true,Xh hx,Option.bind_some,Xh hy,Option.bind_some,ih x hmx y hmy,Option.bind_some]
      cases eqT x y <;> rfl) (by unfold Kr;rw [Zd7];rfl)]
     rw [Zy1 a.Kids b.Kids hab]
     cases eqL a.Kids b.Kids <;> rfl
    have:(!(a.Kids.length == b.Kids.length))=true:=by simp [hab]
    rw [this,cond_true,Zxf _ _ hab]
  have e0:(a.Kind != b.Kind)=true:=by simp [h0]
  have e1:(a.Kind == b.Kind)=false:=by simp [h0]
  rw [e0,e1];rfl
theorem Z9m {a b:Tr} (ha:Bd a) (hb:Bd b):Zbw a b=some (eqT a b):=Zqa (SizeOf.sizeOf a+1) fun k hk=>Z3g k a b ha hb (by omega)
theorem Zpa {t:Tr} (h:t.Kind=0):nrm t=⟨0,[],[]⟩:=by rw [Zga,if_pos h]
theorem G5 {t:Tr} (h:t.Kind=1):nrm t=⟨1,tr (fun x=>x == 0) t.Words,tr (fun x=>x.Kind == 0) (t.Kids.map nrm)⟩:=by rw [Zga,if_neg (by rw [h];decide),if_pos h]
theorem G4 {t:Tr} (h0:¬ t.Kind=0) (h1:¬ t.Kind=1):nrm t=⟨t.Kind,t.Words,t.Kids.map nrm⟩:=by rw [Zga,if_neg h0,if_neg h1]
def pt (t:Tr):Nat:=1+t.Words.length+(t.Kids.attach.map fun k=>pt k.1).sum
termination_by SizeOf.sizeOf t
decreasing_by exact Ka k.2
theorem Zpk (t:Tr):pt t=1+t.Words.length+(t.Kids.map pt).sum:=by
 rw [pt]
 simp only [List.attach_map_val]
theorem Zuq:∀ (k:Nat) (t:Tr) (d left:Int),Bd t→SizeOf.sizeOf t < k→0≤d→d≤100→0≤left→left≤1000000→∃ r,Ym k t d left=some r∧-1≤r∧r≤1000000∧(0≤r→r+pt t≤left)
 | 0,t,_,_,_,h,_,_,_,_=>by omega
 | k+1,t,d,left,hb,hk,hd0,hd1,hl0,hl1=>by
  have ih:∀ x∈t.Kids,∀ d left:Int,0≤d→d≤100→0≤left→left≤1000000→∃ r,Ym k x d left=some r∧-1≤r∧r≤1000000∧(0≤r→r+pt x≤left):=fun x hx d left=>Zuq k x d left (hb.all x hx) (by have:=Ka hx;omega)
  have hw:=hb.w
  have hkd:=hb.k
  show ∃ r,Xx (Ym k) t d left=some r∧_
  unfold Xx
  rw [Yo (x:=left - 1) (by omega) (by omega),Yo (by omega) (by omega),Zpk]
  cases hc:cond (d == 0) true (decide (left - 1 - (t.Words.length:Int) < 0)) with
  | true=>exact ⟨-1,rfl,by omega,by omega,fun h=>by omega⟩
  | false =>
   rw [cond_false]
   have hd:¬ d=0∧0≤left - 1 - (t.Words.length:Int):=by
    by_cases h:d=0
    ·simp [h] at hc
    have e:(d == 0)=false:=by simp [h]
    rw [e,cond_false,decide_eq_false_iff_not] at hc
    exact ⟨h,by omega⟩
   obtain ⟨r,h1,h2⟩:=Ziq (step:=Xs (Ym k) t d)
    (fun s=>∃ j:Nat,s.2=j∧j≤t.Kids.length∧-1≤s.1∧s.1≤1000000∧(0≤s.1→s.1+(((t.Kids.take j).map pt).sum:Nat)≤left - 1 - (t.Words.length:Int)))
    (fun s=>t.Kids.length - s.2.toNat) (fun r=>-1≤r∧r≤1000000∧(0≤r→r+((t.Kids.map pt).sum:Nat)≤left - 1 - (t.Words.length:Int))) (fun s hI=>by
     obtain ⟨l,i⟩:=s
     obtain ⟨j,rfl,hj,g1,g2,g3⟩:=hI
     simp only at g1 g2 g3 ⊢
     unfold Xs
     simp only
     by_cases hji:j < t.Kids.length
     ·rw [Zd8 hji,cond_true]
      by_cases hl:0≤l
      ·have e:decide (0≤l)=true:=by simp [hl]
       have hx:t.Kids[j]? = some t.Kids[j]:=List.getElem?_eq_getElem hji
       obtain ⟨r,q1,q2,q3,q4⟩:=ih t.Kids[j] (List.getElem_mem hji) (d - 1) l (by omega) (by omega) hl g2
       rw [e,cond_true,Xh hx,Option.bind_some,Yo (by omega) (by omega),q1,Option.bind_some,Yo (by omega) (by omega)]
       refine .inl ⟨_,rfl,⟨j+1,by simp only;omega,by omega,q2,q3,fun hr => ?_⟩,by simp only;omega⟩
       have:=q4 hr
       have:=g3 hl
       rw [List.take_add_one,hx]
       simp only [Option.toList_some,List.map_append,List.map_cons,List.map_nil,List.sum_append,List.sum_cons,List.sum_nil]
       simp only at hr
       omega
      have e:decide (0≤l)=false:=by simp [hl]
      rw [e,cond_false]
      exact .inr ⟨l,rfl,g1,g2,fun h=>absurd h hl⟩
     have hj':j=t.Kids.length:=by omega
     subst hj'
     rw [Zd7,cond_false]
     rw [List.take_length] at g3
     exact .inr ⟨l,rfl,g1,g2,g3⟩) (left - 1 - (t.Words.length:Int),0) ⟨0,rfl,Nat.zero_le _,by simp only;omega,by simp only;omega,fun _=>by simp⟩
   rw [h1]
   refine ⟨r,rfl,h2.1,h2.2.1,fun hr => ?_⟩
   have:=h2.2.2 hr
   omega
theorem Zvj {α:Type} {xs:List α} {i:Int} {x:α} (h:Z9 xs i=some x):x∈xs:=List.mem_of_getElem? (Zo3 h)
theorem Zpr:∀ (k k':Nat) (t:Tr) (d left:Int),SizeOf.sizeOf t < k→SizeOf.sizeOf t < k'→Ym k t d left=Ym k' t d left
 | 0,_,t,_,_,h,_=>by omega
 | k+1,0,t,_,_,_,h=>by omega
 | k+1,k'+1,t,d,left,h,h'=>by
  show Xx (Ym k) t d left=Xx (Ym k') t d left
  have e:Xs (Ym k) t d=Xs (Ym k') t d:=funext fun s=>by
   unfold Xs
   cases hx:Z9 t.Kids s.2 with
   | none=>rfl
   | some x=>simp only [Option.bind_some,Zpr k k' x (IntKind.i64.wrap (d - 1)) s.1 (by have:=Ka (Zvj hx);omega) (by have:=Ka (Zvj hx);omega)]
  unfold Xx
  rw [e]
theorem Z52 {t:Tr} (h:Bd t):∃ b,Vl t=some b∧(b=true→pt t≤3000):=by
 obtain ⟨r,h1,h2,h3,h4⟩:=Zuq (SizeOf.sizeOf t+1) t 80 3000 h (by omega) (by omega) (by omega) (by omega) (by omega)
 have hr:Gw t 80 3000=some r:=Zqa (SizeOf.sizeOf t+1) fun k hk=>by rw [Zpr k (SizeOf.sizeOf t+1) t 80 3000 (by omega) (by omega)];exact h1
 unfold Vl
 rw [hr,Option.bind_some]
 refine ⟨_,rfl,fun hb => ?_⟩
 have:=h4 (by simpa using hb)
 have:0≤r:=by simpa using hb
 omega
theorem Z2v {α:Type} {f:α→Nat} {x:α}:∀ {l:List α},x∈l→f x≤(l.map f).sum
 | y::l,h=>by
  simp only [List.map_cons,List.sum_cons]
  rcases List.mem_cons.1 h with rfl | h
  ·omega
  have:=Z2v (f:=f) h
  omega
theorem Z75 {α:Type} (p:α→Bool) (f:α→Nat):∀ l:List α,((tr p l).map f).sum≤(l.map f).sum
 | []=>by simp [tr]
 | x::l=>by
  have ih:=Z75 p f l
  simp only [tr]
  split
  ·split <;> simp
  rename_i y ys he
  rw [he] at ih
  simp only [List.map_cons,List.sum_cons] at ih ⊢
  omega
theorem Z6p {α β:Type} (xs:List α) (f:α→β) (step:Int×List β→Option ((Int×List β) ⊕ List β)) (acc:List β) (hl:(xs.length:Int)≤140737488355328)
  (h1:∀ (i:Nat) (x:α) (out:List β),i < xs.length→xs[i]? = some x→x∈xs→out.length=acc.length+i→step ((i:Int),out)=some (.inl (IntKind.i64.wrap ((i:Int)+1),out++[f x])))
  (h2:∀ out,step ((xs.length:Int),out)=some (.inr out)):Z6 step (0,acc)=some (acc++xs.map f):=by
 have key:∀ m i,i+m=xs.length→Z6 step ((i:Int),acc++(xs.take i).map f)=some (acc++xs.map f):=fun m=>by
  induction m with
  | zero =>
   intro i hi
   have hi':i=xs.length:=by omega
   subst hi'
   rw [List.take_length]
   exact Yr (h2 _)
  | succ m ih =>
   intro i hi
   have hx:xs[i]? = some xs[i]:=List.getElem?_eq_getElem (by omega)
   have h:=h1 i _ (acc++(xs.take i).map f) (by omega) hx (List.mem_of_getElem? hx) (by rw [List.length_append,List.length_map,List.length_take];omega)
   rw [Yo (by omega) (by omega)] at h
   rw [Xc h]
   have e:acc++(xs.take i).map f++[f xs[i]]=acc++(xs.take (i+1)).map f:=by
    rw [List.take_add_one,hx,List.map_append,List.append_assoc]
    rfl
   rw [e]
   exact ih (i+1) (by omega)
 have:=key xs.length 0 (by omega)
 simpa using this
section
variable {A:Zr}
theorem Z1m {f:Zd→Int→Tr×Int×Int} {g:Int→Zd×Int} {Q:Tr→Prop} (hQ:∀ i left,Q (f (g i).1 left).1):∀ (m i:Nat) (left:Int) (acc:List Tr),(∀ t∈acc,Q t)→(∀ t∈(Qa f g m i left acc).1,Q t)∧(Qa f g m i left acc).1.length≤acc.length+m
 | 0,i,left,acc,h=>⟨h,Nat.le_refl _⟩
 | m+1,i,left,acc,h=>by
  rw [Qa]
  split
  ·exact ⟨h,by simp only;omega⟩
  split
  ·exact ⟨h,by simp only;omega⟩
  obtain ⟨h1,h2⟩:=Z1m hQ m (i+1) (f (g i).1 left).2.1 (acc++[(f (g i).1 left).1]) fun t ht=>by
   rcases List.mem_append.1 ht with ht | ht
   ·exact h t ht
   rw [List.mem_singleton] at ht;subst ht;exact hQ i left
  exact ⟨h1,by rw [List.length_append,List.length_singleton] at h2;omega⟩
theorem Z82 {w c j:Int} (hw:0≤w∧w < 18446744073709551616):0≤Zz7 w c j∧Zz7 w c j < 18446744073709551616:=by
 unfold Zz7
 have h1:w.toNat / 2 ^ (j * wdt c).toNat % 2 ^ (wdt c).toNat≤w.toNat / 2 ^ (j * wdt c).toNat:=Nat.mod_le _ _
 have h2:w.toNat / 2 ^ (j * wdt c).toNat≤w.toNat:=Nat.div_le_self _ _
 omega
theorem Zh5 (hw:WS A.segments) (r:Zd):∀ w∈Xa A r,0≤w∧w < 18446744073709551616:=by
 unfold Xa
 split
 ·intro w hm
  rw [List.mem_singleton] at hm
  subst hm
  unfold Z1t
  split
  ·omega
  exact Z82 (Zi1 hw _ _)
 split
 ·exact fun w hm=>Z7z hw _ w (List.mem_of_mem_drop (List.mem_of_mem_take hm))
 exact fun w hm=>by cases hm
theorem Zet {r:Zd} (h:OKr A r):(Xa A r).length≤65536:=by
 unfold Xa
 cases h with
 | z=>simp [r0]
 | st s a d p hd hp hin=>simp only [show ¬ (1:Int)=10 from by decide,if_false,if_true,List.length_take];omega
 | li k s a n hk hn hin=>simp only;rw [if_neg (by omega),if_neg (by omega)];simp
 | co=>simp
 | at_=>simp
theorem Z8y (hw:WS A.segments):∀ (d:Nat) r left,OKr A r→0≤left→left≤65536→Bd (Zdn A d r left).1:=fun d=>by
 have key:∀ (f:Zd→Int→Tr×Int×Int),True:=fun _=>trivial
 clear key
 have hst:∀ (f:Zd→Int→Tr×Int×Int),(∀ r left,OKr A r→Bd (f r left).1)→∀ r left,OKr A r→r.ptrs≤65536→Bd (stK A f r left).1:=fun f hf r left hr hp=>by
  unfold stK
  have:=Z1m (f:=f) (g:=Xj A r) (Q:=Bd) (fun i left=>hf _ left (Un hr i)) r.ptrs.toNat 0 left [] (by simp)
  refine .mk _ (by simp only;have:=Zet hr;omega) (by simp only;have:=this.2;simp only [List.length_nil] at this;omega) (Zh5 hw r) this.1
 have main:∀ r left,OKr A r→Bd (Zdn A d r left).1:=by
  induction d using Nat.strongRecOn with
  | ind d ih =>
   intro r left hr
   have hbad:∀ r left,Bd (bad r left).1:=fun r left => .mk _ (by simp [bad]) (by simp [bad]) (by simp [bad]) (by simp [bad])
   have hP:∀ k,1≤k→∀ r left,OKr A r→Bd (U4 A k d r left).1:=fun k hk r left hr=>by
    unfold U4
    split
    ·exact ih _ (by omega) r left hr
    exact hbad _ _
   rw [Zsn]
   unfold Zni
   have hwl:=Zet hr
   split
   ·exact .mk _ (by simp only;omega) (by simp) (Zh5 hw r) (by simp)
   split
   ·exact .mk _ (by simp only;omega) (by simp) (Zh5 hw r) (by simp)
   have hkn:=Ze8 hr
   have hQ:∀ (i:Int) left,Bd (Zd6 A (U4 A 1 d) (U4 A 2 d) r (Xj A r i).1 left).1:=fun i left=>by
    unfold Zd6
    split
    ·rename_i k9
     have hkr:=Un hr i
     refine hst _ (fun r left hr=>hP 2 (by omega) r left hr) _ _ hkr ?_
     cases hkr':(Xj A r i).1 with
     | mk a b c d e f g h j =>
      rw [hkr'] at hkr
      cases hkr with
      | z=>simp
      | st s a d p hd hp hin=>simp only;omega
      | li k s a n hk=>simp
      | co s a d p n hd hp hn=>simp only;omega
      | at_=>simp
    split
    ·exact hP 1 (by omega) _ _ (Un hr i)
    unfold Zop
    have:=Zet (Un hr i)
    exact .mk _ (by simp only;omega) (by simp) (Zh5 hw _) (by simp)
   have:=Z1m (f:=Zd6 A (U4 A 1 d) (U4 A 2 d) r) (g:=Xj A r) (Q:=Bd) hQ (Yk r).toNat 0 (left - wtR r) [] (by simp)
   refine .mk _ (by simp only;omega) ?_ (Zh5 hw r) this.1
   have h2:=this.2
   simp only [List.length_nil] at h2 ⊢
   omega
 exact fun r left hr _ _=>main r left hr
end
section
variable {A:Zr}
theorem Z92 (x:Yg):((Zfr A x).2.2≠0∧(Zfr A x).1=⟨0,[],[]⟩∧(Z5u A x).2=(Zfr A x).2.2)∨((Zfr A x).2.2=0∧(Z5u A x).2=0∧(atR A 0 0).2=0∧(Zdn A (Ui x).Depth.toNat (atR A 0 0).1 (Ui x).Weight).2.2=0∧(Zfr A x).1=(Zdn A (Ui x).Depth.toNat (atR A 0 0).1 (Ui x).Weight).1):=by
 have hc:(Z5u A x).2=(Zfr A x).2.2:=by rw [← Z93]
 unfold Zfr at hc ⊢
 by_cases h:(atR A 0 0).2≠0
 ·rw [if_pos h] at hc ⊢
  exact .inl ⟨h,rfl,hc⟩
 rw [if_neg h] at hc ⊢
 simp only at hc ⊢
 by_cases hq:(Zdn A (Ui x).Depth.toNat (atR A 0 0).1 (Ui x).Weight).2.2≠0
 ·rw [if_pos hq] at hc ⊢
  exact .inl ⟨hq,rfl,hc⟩
 rw [if_neg hq] at hc ⊢
 exact .inr ⟨rfl,hc,by omega,by omega,rfl⟩
theorem Ybm (x:Yg):(Ui x).Depth.toNat≤64∧0≤(Ui x).Weight∧(Ui x).Weight≤65536:=by
 have hd:0≤(Ui x).Depth∧(Ui x).Depth≤64:=Zjd _ _ (by decide)
 have hW:0≤(Ui x).Weight∧(Ui x).Weight≤65536:=Zjd _ _ (by decide)
 omega
theorem Z3o (hw:WS A.segments) (x:Yg):Bd (Zfr A x).1:=by
 have hl:=Ybm x
 rcases Z92 (A:=A) x with ⟨h1,h2,h3⟩ | ⟨h1,h2,h3,h4,h5⟩
 ·rw [h2];exact .mk _ (by simp) (by simp) (by simp) (by simp)
 rw [h5];exact Z8y hw _ _ _ (Zpx 0 0) hl.2.1 hl.2.2
end
def wid (c:Int):Nat:=if c=0 then 0 else if c=1 then 1 else if c=2 then 8 else if c=3 then 16 else if c=4 then 32 else 64
def Zdf (c w:Int):Bool:=decide (w < 2 ^ wid c)
theorem Zs7 {c:Int} (h0:0≤c) (h1:c≤5):c=0∨c=1∨c=2∨c=3∨c=4∨c=5:=by omega
theorem Z78 {c w:Int} (h0:0≤c) (h1:c≤5) (hw:0≤w):Zjl c w=some (Zdf c w):=by
 have key:∀ n:Nat,n≤64→(Int.fdiv w (2 ^ min (Int.toNat (n:Int)) 64) == 0)=decide (w < 2 ^ n):=fun n hn=>by
  rw [Int.toNat_natCast,Nat.min_eq_left hn,Int.fdiv_eq_ediv_of_nonneg _ (Int.le_of_lt (Int.pow_pos (by decide)))]
  have hp:(0:Int) < 2 ^ n:=Int.pow_pos (by decide)
  rw [Bool.eq_iff_iff,beq_iff_eq,decide_eq_true_eq]
  constructor
  ·intro h
   rcases Int.lt_or_le w (2 ^ n) with h2 | h2
   ·exact h2
   have:=Int.ediv_le_ediv hp h2
   rw [Int.ediv_self (Int.ne_of_gt hp)] at this
   omega
  intro h;exact Int.ediv_eq_zero_of_lt hw h
 have e:∀ n:Nat,n≤64→(some (((n:Int),true):Int×Bool)).bind (fun y2=>(cond y2.2 ((Y7 (0≤y2.1)).bind fun u5=>some (cond y2.2 ((Int.fdiv w (2 ^ min (Int.toNat y2.1) 64)) == 0) false)) (some false)).bind fun (z4:Bool)=>some z4)=some (decide (w < 2 ^ n)):=fun n hn=>by
  rw [Option.bind_some]
  simp only [cond_true]
  rw [Vj (by omega),Option.bind_some,Option.bind_some,key n hn]
 unfold Zjl Zdf
 rcases Zs7 h0 h1 with rfl | rfl | rfl | rfl | rfl | rfl
 ·exact e 0 (by decide)
 ·exact e 1 (by decide)
 ·exact e 8 (by decide)
 ·exact e 16 (by decide)
 ·exact e 32 (by decide)
 exact e 64 (by decide)
theorem Z14 (n:Nat) (hn:n≤64) (w:Int) (h0:0≤w) (h1:w < 18446744073709551616):Z6 (Xz (n:Int)) (w,0)=some (w / 2 ^ n):=by
 have key:∀ m i:Nat,i+m=n→Z6 (Xz (n:Int)) (w / 2 ^ i,(i:Int))=some (w / 2 ^ n):=fun m=>by
  induction m with
  | zero =>
   intro i hi
   have:i=n:=by omega
   subst this
   refine Yr ?_
   unfold Xz
   simp only
   rw [Zd7,cond_false]
  | succ m ih =>
   intro i hi
   have hp:(0:Int) < 2 ^ i:=Int.pow_pos (by decide)
   have q0:0≤w / 2 ^ i:=Int.ediv_nonneg h0 (Int.le_of_lt hp)
   have q1:w / 2 ^ i≤w:=Int.ediv_le_self _ h0
   have hs:Xz (n:Int) (w / 2 ^ i,(i:Int))=some (.inl (w / 2 ^ (i+1),((i+1:Nat):Int))):=by
    unfold Xz
    simp only
    rw [Zd8 (by omega),cond_true,Yo (by omega) (by omega),Int.tdiv_eq_ediv_of_nonneg q0]
    have e:w / 2 ^ i / 2=w / 2 ^ (i+1):=by rw [Int.ediv_ediv_of_nonneg (Int.le_of_lt hp),Int.pow_succ]
    have q2:0≤w / 2 ^ i / 2:=Int.ediv_nonneg q0 (by decide)
    have q3:w / 2 ^ i / 2≤w / 2 ^ i:=Int.ediv_le_self _ q0
    have e3:IntKind.u64.wrap (w / 2 ^ i / 2)=w / 2 ^ i / 2:=by
     exact Z91 ⟨q2,by omega⟩
    rw [e3,e]
    rfl
   rw [Xc hs]
   exact ih (i+1) (by omega)
 have:=key n 0 (by omega)
 simpa using this
theorem Zuk {c w:Int} (h0:0≤c) (h1:c≤5) (hw:0≤w) (hw':w < 18446744073709551616):Jw c w=some (Zdf c w):=by
 have e:∀ n:Nat,n≤64→(cond (decide ((n:Int) < 0)) (some false) ((Z6 (Xz (n:Int)) (w,0)).bind fun (z4:Int)=>some (z4 == 0)))=some (decide (w < 2 ^ n)):=fun n hn=>by
  have:decide ((n:Int) < 0)=false:=by rw [decide_eq_false_iff_not];omega
  have hp:(0:Int) < 2 ^ n:=Int.pow_pos (by decide)
  rw [this,cond_false,Z14 n hn w hw hw',Option.bind_some]
  congr 1
  rw [Bool.eq_iff_iff,beq_iff_eq,decide_eq_true_eq]
  constructor
  ·intro h
   rcases Int.lt_or_le w (2 ^ n) with h2 | h2
   ·exact h2
   have:=Int.ediv_le_ediv hp h2
   rw [Int.ediv_self (Int.ne_of_gt hp)] at this
   omega
  intro h;exact Int.ediv_eq_zero_of_lt hw h
 unfold Jw Zdf
 rcases Zs7 h0 h1 with rfl | rfl | rfl | rfl | rfl | rfl
 ·exact e 0 (by decide)
 ·exact e 1 (by decide)
 ·exact e 8 (by decide)
 ·exact e 16 (by decide)
 ·exact e 32 (by decide)
 exact e 64 (by decide)
def okk (kind:Int) (k:Tr):Bool:=if 2≤kind∧kind≤7 then k.Kind == 10 && Zdf (kind - 2) (k.Words.headD 0) else k.Kind != 10 && (kind != 9 || k.Kind == 1)
def rt (t:Tr) (d:Nat):Bool :=
 if t.Kind=0 then t.Words.length == 0 && t.Kids.length == 0
 else if t.Kind=10 then t.Words.length == 1 && t.Kids.length == 0
 else if t.Kind < 0∨10 < t.Kind∨d=0∨65536≤t.Words.length∨(t.Kind=1∧65536≤t.Kids.length)∨1048576≤t.Kids.length∨(1 < t.Kind∧0 < t.Words.length) then false
 else (t.Kids.attach.map fun k=>rt k.1 (d - 1) && okk t.Kind k.1).all id
termination_by SizeOf.sizeOf t
decreasing_by exact Ka k.2
theorem Znp (t:Tr) (d:Nat):rt t d=if t.Kind=0 then t.Words.length == 0 && t.Kids.length == 0
 else if t.Kind=10 then t.Words.length == 1 && t.Kids.length == 0
 else if t.Kind < 0∨10 < t.Kind∨d=0∨65536≤t.Words.length∨(t.Kind=1∧65536≤t.Kids.length)∨1048576≤t.Kids.length∨(1 < t.Kind∧0 < t.Words.length) then false
 else t.Kids.all fun k=>rt k (d - 1) && okk t.Kind k:=by
 rw [rt]
 have:(t.Kids.attach.map fun k=>rt k.1 (d - 1) && okk t.Kind k.1)=t.Kids.map fun k=>rt k (d - 1) && okk t.Kind k:=List.attach_map_val (f:=fun k=>rt k (d - 1) && okk t.Kind k)
 rw [this,List.all_map]
 rfl
theorem Zvx {t:Tr} (h:t.Kind=10) {d:Nat} (hr:rt t d=true):∃ w,t.Words=[w]:=by
 rw [Znp,if_neg (by omega),if_pos h,Bool.and_eq_true,beq_iff_eq] at hr
 obtain ⟨k,w,ks⟩:=t
 obtain ⟨h1,_⟩:=hr
 simp only at h1 ⊢
 exact List.length_eq_one_iff.1 h1
theorem Ybk {n:Nat}:((n:Int) == 0)=(n == 0):=by rw [Bool.eq_iff_iff,beq_iff_eq,beq_iff_eq];omega
theorem Yea {n:Nat}:((n:Int) == 1)=(n == 1):=by rw [Bool.eq_iff_iff,beq_iff_eq,beq_iff_eq];omega
theorem Zgi (a b:Bool):cond a b false=(a && b):=by cases a <;> rfl
theorem Z2m {α:Type} (p:α→Bool):∀ l:List α,l.any (fun x => !p x) = !(l.all p)
 | []=>rfl
 | x::l=>by rw [List.any_cons,List.all_cons,Z2m p l];cases p x <;> rfl
theorem Z6o {α R:Type} (xs:List α) (step:Int→Option (Int ⊕ R)) (p:α→Bool) (e o:R) (hl:(xs.length:Int)≤140737488355328)
  (h1:∀ (i:Nat) (x:α),i < xs.length→xs[i]? = some x→x∈xs→step i=some (if p x=true then .inl (IntKind.i64.wrap ((i:Int)+1)) else .inr e)) (h2:step xs.length=some (.inr o)):Z6 step 0=some (if xs.all p=true then o else e):=by
 rw [Zt1 xs step (fun x => !p x) e o hl (fun i x hi hx hm=>by rw [h1 i x hi hx hm];cases p x <;> rfl) h2,Z2m]
 cases xs.all p <;> rfl
theorem Zvv:∀ (k:Nat) (t:Tr) (d:Nat),Bd t→SizeOf.sizeOf t < k→d≤64→Q1 k t (d:Int)=some (rt t d)
 | 0,t,d,_,h,_=>by omega
 | k+1,t,d,hb,hk,hd=>by
  have hkd:=hb.k
  show Vo (Q1 k) t (d:Int)=_
  unfold Vo
  rw [Znp,Ybk,Yea]
  by_cases h0:t.Kind=0
  ·rw [if_pos h0,h0]
   simp only [Ybk,Zgi]
   rfl
  have e0:(t.Kind == 0)=false:=by simp [h0]
  rw [if_neg h0,e0,cond_false]
  by_cases h10:t.Kind=10
  ·rw [if_pos h10,h10]
   simp only [Ybk,Zgi]
   rfl
  have e10:(t.Kind == 10)=false:=by simp [h10]
  rw [if_neg h10,e10,cond_false]
  by_cases hbad:t.Kind < 0∨10 < t.Kind∨d=0∨65536≤t.Words.length∨(t.Kind=1∧65536≤t.Kids.length)∨1048576≤t.Kids.length∨(1 < t.Kind∧0 < t.Words.length)
  ·rw [if_pos hbad]
   have hc:∀ c1 c2 c3 c4 c5 c6 c7 c8:Bool,(c1=true∨c2=true∨c3=true∨c4=true∨(c5=true∧c6=true)∨c7=true∨c8=true)→∀ X:Option Bool,
     cond (cond (cond (cond (cond (cond c1 true c2) true c3) true c4) true (cond c5 c6 false)) true c7) (some false) (cond c8 (some false) X)=some false:=by
    intro c1 c2 c3 c4 c5 c6 c7 c8 h X
    cases c1 <;> cases c2 <;> cases c3 <;> cases c4 <;> cases c5 <;> cases c6 <;> cases c7 <;> cases c8 <;> first | rfl | (simp at h;done)
   refine hc _ _ _ _ _ _ _ _ ?_ _
   simp only [decide_eq_true_eq,beq_iff_eq,Zgi,Bool.and_eq_true]
   omega
  rw [if_neg hbad]
  have hg:¬ t.Kind < 0∧¬ 10 < t.Kind∧¬ d=0∧¬ 65536≤t.Words.length∧¬ (t.Kind=1∧65536≤t.Kids.length)∧¬ 1048576≤t.Kids.length∧¬ (1 < t.Kind∧0 < t.Words.length):=by omega
  have hc:∀ c1 c2 c3 c4 c5 c7 c8:Bool,c1=false→c2=false→c3=false→c4=false→c5=false→c7=false→c8=false→∀ X:Option Bool,
    cond (cond (cond (cond (cond (cond c1 true c2) true c3) true c4) true c5) true c7) (some false) (cond c8 (some false) X)=X:=by
   intro c1 c2 c3 c4 c5 c7 c8 h1 h2 h3 h4 h5 h7 h8 X
   subst h1 h2 h3 h4 h5 h7 h8
   rfl
  rw [hc _ _ _ _ _ _ _ (decide_eq_false hg.1) (decide_eq_false hg.2.1) (by rw [beq_eq_false_iff_ne];omega) (by rw [decide_eq_false_iff_not];omega) (by rw [Zgi,Bool.and_eq_false_iff,beq_eq_false_iff_ne,decide_eq_false_iff_not];omega) (by rw [decide_eq_false_iff_not];omega) (by rw [Zgi,Bool.and_eq_false_iff,decide_eq_false_iff_not,decide_eq_false_iff_not];omega)]
  obtain ⟨d',rfl⟩:∃ d',d=d'+1:=⟨d - 1,by omega⟩
  have ih:∀ x∈t.Kids,Q1 k x (d':Int)=some (rt x d'):=fun x hx=>Zvv k x d' (hb.all x hx) (by have:=Ka hx;omega) (by omega)
  rw [Z6o t.Kids (Kc (Q1 k) t ((d'+1:Nat):Int)) (fun x=>rt x d' && okk t.Kind x) (.inl ()) (.inr ()) (by omega) (fun i x hi hx hm=>by
   unfold Kc
   have ed:((d'+1:Nat):Int) - 1=(d':Int):=by omega
   rw [Zd8 hi,cond_true,Xh hx,Option.bind_some,Yo (x:=((d'+1:Nat):Int) - 1) (by omega) (by omega),ed,ih x hm,Option.bind_some]
   cases hr:rt x d' with
   | false=>rfl
   | true =>
    rw [Bool.not_true,cond_false,Bool.true_and]
    unfold okk
    by_cases hdt:2≤t.Kind∧t.Kind≤7
    ·have e2:decide (2≤t.Kind)=true:=decide_eq_true hdt.1
     have e7:decide (t.Kind≤7)=true:=decide_eq_true hdt.2
     have e9:(t.Kind == 9)=false:=by rw [beq_eq_false_iff_ne];omega
     rw [e2,e7,e9,if_pos hdt]
     simp only [cond_true,cond_false]
     by_cases hx10:x.Kind=10
     ·obtain ⟨w,hw⟩:=Zvx hx10 hr
      have hu:=(hb.all x hm).u w (by rw [hw];exact .head _)
      have ex:(x.Kind == 10)=true:=by simp [hx10]
      have ex2:((true:Bool) != true)=false:=rfl
      have hg0:Z9 [w] (0:Int)=some w:=rfl
      rw [ex,ex2,cond_false,hw,hg0,Option.bind_some,Yo (by omega) (by omega),Zuk (by omega) (by omega) hu.1 hu.2,Option.bind_some]
      simp only [cond_false,List.headD_cons,Bool.true_and]
      cases Zdf (t.Kind - 2) w <;> rfl
     have ex:(x.Kind == 10)=false:=by simp [hx10]
     rw [ex]
     rfl
    have ed2:cond (decide (2≤t.Kind)) (decide (t.Kind≤7)) false=false:=by
     rw [Zgi,Bool.and_eq_false_iff,decide_eq_false_iff_not,decide_eq_false_iff_not];omega
    rw [ed2,if_neg hdt]
    have hin:∀ (X:Option Bool) (b:Bool),(cond (decide (2≤t.Kind)) (cond (decide (t.Kind≤7)) X (some b)) (some b))=some b:=fun X b=>by
     by_cases h2:2≤t.Kind
     ·have h7:decide (t.Kind≤7)=false:=by rw [decide_eq_false_iff_not];omega
      rw [decide_eq_true h2,h7];rfl
     rw [decide_eq_false h2];rfl
    by_cases hx10:x.Kind=10
    ·have ex:(x.Kind == 10)=true:=by simp [hx10]
     have ex2:(x.Kind != 10)=false:=by simp [hx10]
     rw [ex,ex2]
     rfl
    have ex:(x.Kind == 10)=false:=by simp [hx10]
    have ex2:(x.Kind != 10)=true:=by simp [hx10]
    have ex3:((false:Bool) != false)=false:=rfl
    rw [ex,ex2,ex3,cond_false]
    simp only [cond_false]
    rw [hin]
    by_cases h9:t.Kind=9
    ·have e9:(t.Kind == 9)=true:=by simp [h9]
     have e9':(t.Kind != 9)=false:=by simp [h9]
     rw [e9,e9',cond_true]
     by_cases hx1:x.Kind=1
     ·have q1:(x.Kind != 1)=false:=by simp [hx1]
      have q2:(x.Kind == 1)=true:=by simp [hx1]
      rw [q1,q2,cond_false]
      rfl
     have q1:(x.Kind != 1)=true:=by simp [hx1]
     have q2:(x.Kind == 1)=false:=by simp [hx1]
     rw [q1,q2,cond_true]
     rfl
    have e9:(t.Kind == 9)=false:=by simp [h9]
    have e9':(t.Kind != 9)=true:=by simp [h9]
    rw [e9,e9']
    rfl) (by unfold Kc;rw [Zd7];rfl),Option.bind_some,Nat.add_sub_cancel]
  cases t.Kids.all fun x=>rt x d' && okk t.Kind x <;> rfl
theorem Z4t {t:Tr} (h:Bd t) {d:Nat} (hd:d≤64):Za7 t (d:Int)=some (rt t d):=Zqa (SizeOf.sizeOf t+1) fun k hk=>Zvv k t d h (by omega) hd
section
variable {A:Zr}
theorem Ybi {r:Zd} (h:r.kind=9) {i:Int} (hi:0≤i∧i < Yk r):Xj A r i=(⟨some A,1,r.segment,r.at_+1+i * (r.words+r.ptrs),r.words,r.ptrs,0,0,0⟩,0):=by
 unfold Xj
 rw [if_neg (by omega),if_neg (by omega),if_neg (by omega),if_pos h]
theorem Ybh {r:Zd} (h:2≤r.kind∧r.kind≤7) {i:Int} (hi:0≤i∧i < Yk r):Xj A r i=(⟨some A,10,r.segment,r.at_,0,0,0,r.kind - 2,i⟩,0):=by
 unfold Xj
 rw [if_neg (by omega),if_neg (by omega),if_neg (by omega),if_neg (by omega)]
end
theorem Zvn {α S R σ:Type} (xs:List α) (mk:S→Int→σ) (f:S→α→S) (out:S→R) (I:S→Prop) (step:σ→Option (σ ⊕ R)) (hl:(xs.length:Int)≤140737488355328)
  (h1:∀ (s:S) (i:Nat) (x:α),I s→i < xs.length→xs[i]? = some x→x∈xs→I (f s x)∧step (mk s (i:Int))=some (.inl (mk (f s x) (IntKind.i64.wrap ((i:Int)+1))))) (h2:∀ s,I s→step (mk s (xs.length:Int))=some (.inr (out s))) (s:S) (hs:I s):Z6 step (mk s 0)=some (out (xs.foldl f s))∧I (xs.foldl f s):=by
 have key:∀ (ys:List α) (i:Nat) (s:S),I s→xs.drop i=ys→i≤xs.length→Z6 step (mk s (i:Int))=some (out (ys.foldl f s))∧I (ys.foldl f s):=fun ys=>by
  induction ys with
  | nil =>
   intro i s hI h hi
   have:i=xs.length:=by
    have:=congrArg List.length h
    rw [List.length_drop,List.length_nil] at this
    omega
   subst this
   exact ⟨Yr (h2 s hI),hI⟩
  | cons x ys ih =>
   intro i s hI h hi
   have hx:xs[i]? = some x:=by
    have:=congrArg (fun l=>l[0]?) h
    simpa using this
   have hi':i < xs.length:=by
    rcases Nat.lt_or_ge i xs.length with h' | h'
    ·exact h'
    rw [List.getElem?_eq_none h'] at hx;cases hx
   obtain ⟨hI',hs⟩:=h1 s i x hI hi' hx (List.mem_of_getElem? hx)
   have hd:xs.drop (i+1)=ys:=by
    have:=congrArg List.tail h
    rwa [List.tail_drop,List.tail_cons] at this
   have e1:(i:Int)+1=((i+1:Nat):Int):=by omega
   rw [Yo (by omega) (by omega),e1] at hs
   rw [Xc hs]
   exact ih (i+1) (f s x) hI' hd (by omega)
 exact key xs 0 s hs rfl (Nat.zero_le _)
def frS (s:Int×Int) (x:Tr):Int×Int:=(if s.1 < (x.Words.length:Int) then (x.Words.length:Int) else s.1,if s.2 < (x.Kids.length:Int) then (x.Kids.length:Int) else s.2)
def fr (l:List Tr):Int×Int:=l.foldl frS (0,0)
theorem Z6a {t:Tr} (hl:(t.Kids.length:Int)≤140737488355328):Zib t=some (fr t.Kids):=by
 unfold Zib
 rw [(Zvn t.Kids (fun (s:Int×Int) (i:Int)=>(s.1,s.2,i)) frS id (fun _=>True) (Za4 t) hl (fun s i x _ hi hx hm=>⟨trivial,by
  unfold Za4
  simp only
  rw [Zd8 hi,cond_true,Xh hx,Option.bind_some]
  rfl⟩) (fun s _=>by
  unfold Za4
  simp only
  rw [Zd7,cond_false]
  rfl) (0,0) trivial).1,Option.bind_some]
 rfl
theorem Z4q {t:Tr} (hl:(t.Kids.length:Int)≤140737488355328):U8 t=some (fr t.Kids):=by
 unfold U8
 rw [(Zvn t.Kids (fun (s:Int×Int) (i:Int)=>(s.1,s.2,i)) frS id (fun _=>True) (Ke t) hl (fun s i x _ hi hx hm=>⟨trivial,by
  unfold Ke frS
  simp only
  rw [Zd8 hi,cond_true,Xh hx,Option.bind_some]
  by_cases h1:s.1 < (x.Words.length:Int) <;> by_cases h2:s.2 < (x.Kids.length:Int) <;> simp [h1,h2]⟩) (fun s _=>by
  unfold Ke
  simp only
  rw [Zd7,cond_false]
  rfl) (0,0) trivial).1,Option.bind_some]
 rfl
def h9 (l:List Tr):Int:=IntKind.i64.wrap (1+IntKind.i64.wrap ((l.length:Int) * IntKind.i64.wrap ((fr l).1+(fr l).2)))
def Z7q (c:Int) (n:Nat):Int:=((n * wid c+63) / 64:Nat)
theorem c5' {c:Int} (h:0≤c∧c≤5):c=0∨c=1∨c=2∨c=3∨c=4∨c=5:=by omega
theorem Z3f {c:Int} (h:0≤c∧c≤5):Y9 c=some ((wid c:Nat):Int):=by
 unfold Y9
 rcases c5' h with rfl | rfl | rfl | rfl | rfl | rfl <;> rfl
theorem Z7s {c:Int} (h:0≤c∧c≤5) {n:Nat} (hn:n≤1099511627776):V4 c (n:Int)=some (((n * wid c+63) / 64:Nat):Int):=by
 unfold V4
 rw [Z3f h,Option.bind_some]
 have key:∀ (w p:Nat),(1≤w∧w≤64)→w * p=64→Int.tdiv 64 (w:Int)=(p:Int)→(cond (cond (cond (decide ((w:Int) < 1)) true (decide ((n:Int) < 0))) true (decide ((1099511627776:Int) < (n:Int)))) (some 0) ((some ((w:Nat):Int)).bind fun y5=>(Y7 (y5≠0)).bind fun u6=>(Y7 ((IntKind.i64.wrap (Int.tdiv 64 y5))≠0)).bind fun u8=>cond (decide (0 < (Int.tmod (n:Int) (IntKind.i64.wrap (Int.tdiv 64 y5))))) ((Y7 ((IntKind.i64.wrap (Int.tdiv 64 y5))≠0)).bind fun u10=>some (IntKind.i64.wrap ((IntKind.i64.wrap (Int.tdiv (n:Int) (IntKind.i64.wrap (Int.tdiv 64 y5))))+1))) ((Y7 ((IntKind.i64.wrap (Int.tdiv 64 y5))≠0)).bind fun u12=>some (IntKind.i64.wrap (Int.tdiv (n:Int) (IntKind.i64.wrap (Int.tdiv 64 y5)))))))=some (((n * w+63) / 64:Nat):Int):=fun w p hw hp ht=>by
  have hp1:1≤p∧p≤64:=by
   rcases Nat.eq_zero_or_pos p with q | q
   ·rw [q] at hp;omega
   exact ⟨q,by have:=Nat.mul_le_mul_right p hw.1;omega⟩
  have hd:n / p≤n:=Nat.div_le_self _ _
  have hm:p * (n / p)+n % p=n:=Nat.div_add_mod n p
  have hml:n % p < p:=Nat.mod_lt _ hp1.1
  have ed:(n:Int) / (p:Int)=((n / p:Nat):Int):=rfl
  have em:(n:Int) % (p:Int)=((n % p:Nat):Int):=rfl
  have enw:n * w=64 * (n / p)+n % p * w:=by
   have:n * w=(p * (n / p)+n % p) * w:=by rw [hm]
   rw [this,Nat.add_mul,Nat.mul_comm p,Nat.mul_assoc,Nat.mul_comm p,hp,Nat.mul_comm (n / p)]
  rw [show decide ((w:Int) < 1)=false from by rw [decide_eq_false_iff_not];omega,cond_false,show decide ((n:Int) < 0)=false from by rw [decide_eq_false_iff_not];omega,cond_false,show decide ((1099511627776:Int) < (n:Int))=false from by rw [decide_eq_false_iff_not];omega,cond_false,Option.bind_some,ht,Yo (x:=(p:Int)) (by omega) (by omega),Vj (by omega),Option.bind_some,Vj (by omega),Option.bind_some,Int.tmod_eq_emod_of_nonneg (by omega),Int.tdiv_eq_ediv_of_nonneg (by omega),ed,em,Yo (x:=((n / p:Nat):Int)) (by omega) (by omega),Yo (x:=((n / p:Nat):Int)+1) (by omega) (by omega)]
  by_cases q:0 < n % p
  ·have h1:1 * w≤n % p * w:=Nat.mul_le_mul_right _ q
   have h2:(n % p+1) * w≤p * w:=Nat.mul_le_mul_right _ hml
   rw [Nat.mul_comm p,hp,Nat.add_mul,Nat.one_mul] at h2
   rw [show decide ((0:Int) < ((n % p:Nat):Int))=true from by rw [decide_eq_true_eq];omega,cond_true,Option.bind_some]
   congr 1
   generalize n % p * w=z at *
   omega
  have h0:n % p=0:=by omega
  rw [h0,Nat.zero_mul] at enw
  rw [show decide ((0:Int) < ((n % p:Nat):Int))=false from by rw [decide_eq_false_iff_not];omega,cond_false,Option.bind_some]
  congr 1
  omega
 rcases c5' h with rfl | rfl | rfl | rfl | rfl | rfl
 ·rw [show decide (((wid 0:Nat):Int) < 1)=true from rfl,cond_true,cond_true,cond_true,show wid 0=0 from rfl,Nat.mul_zero]
  rfl
 ·exact key 1 64 (by decide) rfl rfl
 ·exact key 8 8 (by decide) rfl rfl
 ·exact key 16 4 (by decide) rfl rfl
 ·exact key 32 2 (by decide) rfl rfl
 exact key 64 1 (by decide) rfl rfl
theorem Z8e {c:Int} (h:0≤c∧c≤5) {n:Nat} (hn:n≤1048576):Zjm c (n:Int)=some (Z7q c n):=by
 have hw:Qz c=some (((wid c:Nat):Int),true):=by
  unfold Qz
  rcases c5' h with rfl | rfl | rfl | rfl | rfl | rfl <;> rfl
 have hb:wid c≤64:=by rcases c5' h with rfl | rfl | rfl | rfl | rfl | rfl <;> decide
 have hm:n * wid c≤1048576 * 64:=Nat.mul_le_mul hn hb
 unfold Zjm Z7q
 rw [hw,Option.bind_some]
 simp only
 rw [Bool.not_true,cond_false,decide_eq_false (by omega),cond_false,decide_eq_false (by omega),cond_false,← Int.natCast_mul]
 generalize n * wid c=m at hm ⊢
 rw [Yo (x:=(m:Int)) (by omega) (by omega),Yo (x:=(m:Int)+63) (by omega) (by omega),Int.tdiv_eq_ediv_of_nonneg (by omega),Yo (by omega) (by omega)]
 congr 1
theorem Z19 {t:Tr} {d:Nat} (h:rt t d=true):0≤t.Kind∧t.Kind≤10∧t.Kids.length < 1048576∧(t.Kind=0∨t.Kind=10→t.Kids=[])∧∀ k∈t.Kids,rt k (d - 1)=true:=by
 rw [Znp] at h
 by_cases h0:t.Kind=0
 ·rw [if_pos h0,Bool.and_eq_true,beq_iff_eq,beq_iff_eq] at h
  have:=List.length_eq_zero_iff.1 h.2
  rw [this]
  exact ⟨by omega,by omega,by simp,fun _=>rfl,fun k hk=>by cases hk⟩
 by_cases h1:t.Kind=10
 ·rw [if_neg h0,if_pos h1,Bool.and_eq_true,beq_iff_eq,beq_iff_eq] at h
  have:=List.length_eq_zero_iff.1 h.2
  rw [this]
  exact ⟨by omega,by omega,by simp,fun _=>rfl,fun k hk=>by cases hk⟩
 rw [if_neg h0,if_neg h1] at h
 by_cases hb:t.Kind < 0∨10 < t.Kind∨d=0∨65536≤t.Words.length∨(t.Kind=1∧65536≤t.Kids.length)∨1048576≤t.Kids.length∨(1 < t.Kind∧0 < t.Words.length)
 ·rw [if_pos hb] at h;cases h
 rw [if_neg hb,List.all_eq_true] at h
 refine ⟨by omega,by omega,by omega,fun q=>by omega,fun k hk => ?_⟩
 have:=h k hk
 rw [Bool.and_eq_true] at this
 exact this.1
def Zcf {α σ:Type} (f:σ→Nat→α→σ):σ→Nat→List α→σ
 | s,_,[]=>s
 | s,i,x::xs=>Zcf f (f s i x) (i+1) xs
theorem Zn6 {α σ S R:Type} (xs:List α) (pack:Int→σ→S) (out:σ→R) (step:S→Option (S ⊕ R)) (f:σ→Nat→α→σ) (I:Nat→σ→Prop) (hl:(xs.length:Int)≤140737488355328)
  (h1:∀ (i:Nat) (s:σ) (x:α),i < xs.length→xs[i]? = some x→x∈xs→I i s→step (pack i s)=some (.inl (pack (IntKind.i64.wrap ((i:Int)+1)) (f s i x)))∧I (i+1) (f s i x))
  (h2:∀ s,I xs.length s→step (pack xs.length s)=some (.inr (out s))) (s:σ) (h0:I 0 s):Z6 step (pack 0 s)=some (out (Zcf f s 0 xs))∧I xs.length (Zcf f s 0 xs):=by
 have key:∀ (l pre:List α) (s:σ),xs=pre++l→I pre.length s→Z6 step (pack (pre.length:Nat) s)=some (out (Zcf f s pre.length l))∧I xs.length (Zcf f s pre.length l):=fun l=>by
  induction l with
  | nil =>
   intro pre s hp hi
   rw [List.append_nil] at hp
   subst hp
   exact ⟨Yr (h2 s hi),hi⟩
  | cons x l ih =>
   intro pre s hp hI
   have hx:xs[pre.length]? = some x:=by rw [hp,List.getElem?_append_right (Nat.le_refl _),Nat.sub_self];rfl
   have hi:pre.length < xs.length:=by rw [hp];simp
   obtain ⟨a,b⟩:=h1 pre.length s x hi hx (List.mem_of_getElem? hx) hI
   rw [Yo (by omega) (by omega)] at a
   have:=ih (pre++[x]) (f s pre.length x) (by rw [hp];simp) (by rw [List.length_append,List.length_singleton];exact b)
   rw [List.length_append,List.length_singleton] at this
   exact ⟨(Xc a).trans this.1,this.2⟩
 exact key xs [] s rfl h0
theorem Yd8 {off data ptrs:Int} (a:-536870912≤off) (b:off < 536870912) (c:0≤data) (d:data < 65536) (e:0≤ptrs) (f:ptrs < 65536) (g:¬ (off=0∧data=0∧ptrs=0)) :
  Zan (⟨1,off,data,ptrs,0,0,0,false⟩:Z8)=some (off % 1073741824 * 4+data * 4294967296+ptrs * 281474976710656,true):=by
 have hd:Zd3 ((off % 1073741824).toNat * 4+data.toNat * 4294967296+ptrs.toNat * 281474976710656)=⟨1,off,data,ptrs,0,0,0,false⟩:=by
  generalize hw:(off % 1073741824).toNat * 4+data.toNat * 4294967296+ptrs.toNat * 281474976710656=w
  have h1:¬ w=0:=by omega
  have h2:w % 4=0:=by omega
  unfold Zd3
  rw [if_neg h1,if_pos h2]
  unfold Zm3
  simp only [Z8.mk.injEq,true_and,and_true]
  refine ⟨?_,by omega,by omega⟩
  split <;> omega
 have:=Zs9 ((off % 1073741824).toNat * 4+data.toNat * 4294967296+ptrs.toNat * 281474976710656) (by omega) (by rw [hd];show ¬ (1:Int)=4;decide)
 rw [hd] at this
 rw [this]
 congr 2
 omega
theorem Yd7 {off code count:Int} (a:-536870912≤off) (b:off < 536870912) (c:0≤code) (d:code < 8) (e:0≤count) (f:count < 536870912) :
  Zan (⟨2,off,0,0,code,count,0,false⟩:Z8)=some (off % 1073741824 * 4+1+code * 4294967296+count * 34359738368,true):=by
 have hd:Zd3 ((off % 1073741824).toNat * 4+1+code.toNat * 4294967296+count.toNat * 34359738368)=⟨2,off,0,0,code,count,0,false⟩:=by
  generalize hw:(off % 1073741824).toNat * 4+1+code.toNat * 4294967296+count.toNat * 34359738368=w
  have h1:¬ w=0:=by omega
  have h2:¬ w % 4=0:=by omega
  have h3:w % 4=1:=by omega
  unfold Zd3
  rw [if_neg h1,if_neg h2,if_pos h3]
  unfold Zm3
  simp only [Z8.mk.injEq,true_and,and_true]
  refine ⟨?_,by omega,by omega⟩
  split <;> omega
 have:=Zs9 ((off % 1073741824).toNat * 4+1+code.toNat * 4294967296+count.toNat * 34359738368) (by omega) (by rw [hd];show ¬ (2:Int)=4;decide)
 rw [hd] at this
 rw [this]
 congr 2
 omega
theorem K2 {x:Int} (h0:0≤x) (h1:x < 18446744073709551616):IntKind.u64.wrap x=x:=IntWalk.u64_in _ (by omega)
def Zg8 (w:Nat) (out:List Int) (i:Nat) (n:Int):List Int:=Y5 out ((i * w / 64:Nat):Int) (out[i * w / 64]?.getD 0+n * 2 ^ (i * w % 64))
def Z1y (w N:Nat) (i:Nat) (out:List Int):Prop:=out.length=(N * w+63) / 64∧∀ (q:Nat) (v:Int),out[q]? = some v→0≤v∧v < 2 ^ min 64 (i * w - q * 64)
theorem Z7a {s w:Nat} {v n:Int} (h0:0≤v) (h1:v < 2 ^ s) (n0:0≤n) (n1:n < 2 ^ w):0≤v+n * 2 ^ s∧v+n * 2 ^ s < 2 ^ (s+w)∧0≤n * 2 ^ s:=by
 have p:(0:Int) < 2 ^ s:=Int.pow_pos (by decide)
 have a:=Int.mul_nonneg n0 (Int.le_of_lt p)
 have b:(n+1) * 2 ^ s≤2 ^ w * 2 ^ s:=Int.mul_le_mul_of_nonneg_right (by omega) (Int.le_of_lt p)
 rw [Int.add_mul,Int.one_mul,Int.mul_comm (2 ^ w),← Int.pow_add] at b
 exact ⟨by omega,by omega,a⟩
theorem Zpj {a b:Nat} (h:a≤b):(2:Int) ^ a≤2 ^ b:=by
 have:=Nat.pow_le_pow_right (n:=2) (by decide) h
 exact_mod_cast this
theorem Z1x {w N i:Nat} {out:List Int} {n:Int} (hw:0 < w) (hs:i * w % 64+w≤64) (hi:i < N) (hI:Z1y w N i out) (n0:0≤n) (n1:n < 2 ^ w) :
  ∃ v:Int,out[i * w / 64]? = some v∧0≤v∧v < 2 ^ (i * w % 64)∧v+n * 2 ^ (i * w % 64) < 18446744073709551616∧0≤n * 2 ^ (i * w % 64)∧Z1y w N (i+1) (Zg8 w out i n):=by
 obtain ⟨hl,hv⟩:=hI
 have hm:i * w+w≤N * w:=by
  have:=Nat.mul_le_mul_right w (show i+1≤N by omega)
  rwa [Nat.add_mul,Nat.one_mul] at this
 have hq:i * w / 64 < out.length:=by rw [hl];omega
 have hx:out[i * w / 64]? = some out[i * w / 64]:=List.getElem?_eq_getElem hq
 obtain ⟨v0,v1⟩:=hv _ _ hx
 have e:min 64 (i * w - i * w / 64 * 64)=i * w % 64:=by omega
 rw [e] at v1
 obtain ⟨a,b,c⟩:=Z7a v0 v1 n0 n1
 have d:=Zpj hs
 refine ⟨_,hx,v0,v1,by omega,c,by unfold Zg8;rw [Vg,hl],fun q u hu => ?_⟩
 unfold Zg8 Y5 at hu
 rw [Int.toNat_natCast,hx,Option.getD_some,List.getElem?_set] at hu
 have e1:(i+1) * w=i * w+w:=by rw [Nat.add_mul,Nat.one_mul]
 by_cases h:i * w / 64=q
 ·rw [if_pos h,if_pos hq] at hu
  cases hu
  subst h
  refine ⟨a,?_⟩
  have:min 64 ((i+1) * w - i * w / 64 * 64)=i * w % 64+w:=by rw [e1];omega
  rw [this]
  exact b
 rw [if_neg h] at hu
 obtain ⟨u0,u1⟩:=hv _ _ hu
 refine ⟨u0,Int.lt_of_lt_of_le u1 (Zpj ?_)⟩
 rw [e1]
 omega
theorem Z1w (w N:Nat):Z1y w N 0 (List.replicate ((N * w+63) / 64) 0):=by
 refine ⟨List.length_replicate,fun q v h => ?_⟩
 have:=List.mem_of_getElem? h
 rw [List.mem_replicate] at this
 rw [this.2]
 exact ⟨by decide,Int.pow_pos (by decide)⟩
def Znc (c:Int) (ns:List Int):List Int:=if c=0 then [] else Zcf (Zg8 (wid c)) (List.replicate ((ns.length * wid c+63) / 64) 0) 0 ns
theorem Z5a {w each:Nat} (hw:0 < w) (hw2:w≤64) (he:0 < each) (he2:each≤64) (hE:IntKind.i64.wrap (Int.tdiv 64 (w:Int))=(each:Int)) (hq:∀ i:Nat,i / each=i * w / 64) (hr:∀ i:Nat,i % each * w=i * w % 64) (hs:∀ i:Nat,i * w % 64+w≤64)
  {ns:List Int} (hn:ns.length≤1048576) (hf:∀ n∈ns,0≤n∧n < 2 ^ w) :
  Z6 (Gj ns ((w:Int),true)) (0,List.replicate ((ns.length * w+63) / 64) 0)=some (Zcf (Zg8 w) (List.replicate ((ns.length * w+63) / 64) 0) 0 ns)∧Z1y w ns.length ns.length (Zcf (Zg8 w) (List.replicate ((ns.length * w+63) / 64) 0) 0 ns) :=
 Zn6 ns (fun i s=>(i,s)) (fun s=>s) (Gj ns ((w:Int),true)) (Zg8 w) (Z1y w ns.length) (by omega) (fun i s n hi hx hm hI=>by
  obtain ⟨n0,n1⟩:=hf n hm
  obtain ⟨v,hv,v0,v1,v2,v3,v4⟩:=Z1x hw (hs i) hi hI n0 n1
  refine ⟨?_,v4⟩
  unfold Gj
  simp only
  have e1:IntKind.i64.wrap (Int.tdiv (i:Int) (each:Int))=((i * w / 64:Nat):Int):=by
   have hb:=Nat.mul_le_mul_left i hw2
   rw [Int.tdiv_eq_ediv_of_nonneg (by omega),← Int.natCast_ediv,hq i,Yo (by omega) (by omega)]
  have e2:IntKind.i64.wrap (Int.tmod (i:Int) (each:Int) * (w:Int))=((i * w % 64:Nat):Int):=by
   rw [Int.tmod_eq_emod_of_nonneg (by omega),← Int.natCast_emod,← Int.natCast_mul,hr i,Yo (by omega) (by omega)]
  have e3:min (Int.toNat ((i * w % 64:Nat):Int)) 64=i * w % 64:=by omega
  have e4:IntKind.u64.wrap (n * 2 ^ (i * w % 64))=n * 2 ^ (i * w % 64):=K2 v3 (by omega)
  have e5:IntKind.u64.wrap (Zcd .u64 v (n * 2 ^ (i * w % 64)))=v+n * 2 ^ (i * w % 64):=by
   obtain ⟨a,rfl⟩:=Int.eq_ofNat_of_zero_le v0
   obtain ⟨b,rfl⟩:=Int.eq_ofNat_of_zero_le n0
   have f:((b:Nat):Int) * 2 ^ (i * w % 64)=((b * 2 ^ (i * w % 64):Nat):Int):=by simp
   have f1:a < 2 ^ (i * w % 64):=by exact_mod_cast v1
   rw [f] at v2 v3 ⊢
   rw [Zh9 _ _ (by omega) (by omega),Zjv _ _ _ f1,Int.natCast_add]
  rw [Zd8 hi,cond_true,Xh hx,Option.bind_some,hE,Vj (by omega),Option.bind_some,e1,Xh hv,Option.bind_some,Option.bind_some,e2,Vj (by omega),Option.bind_some,e3,e4,e5]
  unfold Zg8
  rw [hv]
  rfl) (fun s _=>by
  unfold Gj
  simp only
  rw [Zd7,cond_false]) _ (Z1w w ns.length)
theorem Z2i {c:Int} {ns:List Int} (h:0≤c∧c≤5) (hn:ns.length≤1048576) (hf:∀ n∈ns,0≤n∧Zdf c n=true):Z6 (Za1 c ns) (true,0)=some true :=
 (Zn6 ns (fun i s=>(s,i)) (fun s=>s) (Za1 c ns) (fun s _ _=>s) (fun _ s=>s=true) (by omega) (fun i s n hi hx hm hI=>by
  subst hI
  refine ⟨?_,rfl⟩
  unfold Za1
  simp only
  rw [Zd8 hi,cond_true,Xh hx,Option.bind_some,cond_true,Z78 h.1 h.2 (hf n hm).1,Option.bind_some,(hf n hm).2]
  rfl) (fun s _=>by
  unfold Za1
  simp only
  rw [Zd7,cond_false]) true rfl).1.trans (by
  have:∀ (l:List Int) (k:Nat),Zcf (fun (s:Bool) (_:Nat) (_:Int)=>s) true k l=true:=fun l=>by
   induction l with
   | nil=>intro k;rfl
   | cons x l ih=>intro k;exact ih (k+1)
  rw [this])
theorem Z3q {c:Int} (h:0≤c∧c≤5) {ns:List Int} (hn:ns.length≤1048576) (hf:∀ n∈ns,0≤n∧Zdf c n=true):Zt5 c ns=some (Znc c ns,true)∧(Znc c ns).length=(ns.length * wid c+63) / 64:=by
 have hw:Qz c=some (((wid c:Nat):Int),true):=by
  unfold Qz
  rcases c5' h with rfl | rfl | rfl | rfl | rfl | rfl <;> rfl
 have hb:wid c≤64:=by rcases c5' h with rfl | rfl | rfl | rfl | rfl | rfl <;> decide
 have hm:ns.length * wid c≤1048576 * 64:=Nat.mul_le_mul hn hb
 have hf':∀ n∈ns,0≤n∧n < 2 ^ wid c:=fun n hn=>⟨(hf n hn).1,by have:=(hf n hn).2;unfold Zdf at this;exact of_decide_eq_true this⟩
 unfold Zt5 Znc
 rw [hw,Option.bind_some]
 simp only
 rw [Z2i h hn hf,Option.bind_some,Bool.not_true,cond_false,Z8e h hn,Option.bind_some]
 unfold Z7q
 rw [Zo8 (by omega) (by omega) (by omega),Option.bind_some,Int.toNat_natCast]
 have key:∀ w each:Nat,wid c=w→0 < w→0 < each→each≤64→IntKind.i64.wrap (Int.tdiv 64 (w:Int))=(each:Int)→(∀ i:Nat,i / each=i * w / 64)→(∀ i:Nat,i % each * w=i * w % 64)→(∀ i:Nat,i * w % 64+w≤64)→¬ c=0 →
   (cond (((wid c:Nat):Int) == 0) (some (List.replicate ((ns.length * wid c+63) / 64) (0:Int),true)) ((Y7 (((wid c:Nat):Int)≠0)).bind fun u14=>(Z6 (Gj ns (((wid c:Nat):Int),true)) (0,List.replicate ((ns.length * wid c+63) / 64) 0)).bind fun (z24:(List Int))=>some (z24,true)))=some ((if c=0 then [] else Zcf (Zg8 (wid c)) (List.replicate ((ns.length * wid c+63) / 64) 0) 0 ns),true)∧(if c=0 then [] else Zcf (Zg8 (wid c)) (List.replicate ((ns.length * wid c+63) / 64) 0) 0 ns).length=(ns.length * wid c+63) / 64:=by
  intro w each ew a1 a2 a3 a4 a5 a6 a7 a8
  have:=Z5a a1 (by omega) a2 a3 a4 a5 a6 a7 hn (by rw [← ew];exact hf')
  rw [ew,if_neg a8,Vb (by omega),cond_false,Vj (by omega),Option.bind_some,this.1,Option.bind_some]
  exact ⟨rfl,this.2.1⟩
 rcases c5' h with rfl | rfl | rfl | rfl | rfl | rfl
 ·exact ⟨by simp [wid],by simp [wid]⟩
 ·exact key 1 64 rfl (by decide) (by decide) (by decide) rfl (fun i=>by omega) (fun i=>by omega) (fun i=>by omega) (by decide)
 ·exact key 8 8 rfl (by decide) (by decide) (by decide) rfl (fun i=>by omega) (fun i=>by omega) (fun i=>by omega) (by decide)
 ·exact key 16 4 rfl (by decide) (by decide) (by decide) rfl (fun i=>by omega) (fun i=>by omega) (fun i=>by omega) (by decide)
 ·exact key 32 2 rfl (by decide) (by decide) (by decide) rfl (fun i=>by omega) (fun i=>by omega) (fun i=>by omega) (by decide)
 exact key 64 1 rfl (by decide) (by decide) (by decide) rfl (fun i=>by omega) (fun i=>by omega) (fun i=>by omega) (by decide)
theorem Zy9 {y2:Int} {s0:Int×List Int} {s:Nat} {n:Int} (hs:s < 64) (he:Int.tmod (IntKind.i64.wrap (s0.1 * y2)) 64=(s:Int)) (n0:0≤n) (hb:n * 2 ^ s < 18446744073709551616):Z6 (Uo y2 s0) (n,0)=some (n * 2 ^ s):=by
 refine Zoj (fun st=>∃ j:Nat,j≤s∧st=(n * 2 ^ j,(j:Int))) (fun st=>s - st.2.toNat) ?_ _ ⟨0,by omega,by simp⟩
 rintro st ⟨j,hj,rfl⟩
 unfold Uo
 simp only
 rw [he]
 by_cases h:j < s
 ·left
  have p:n * 2 ^ (j+1)≤n * 2 ^ s:=Int.mul_le_mul_of_nonneg_left (Zpj (by omega)) n0
  have q:n * 2 ^ j * 2=n * 2 ^ (j+1):=by rw [Int.pow_succ,Int.mul_assoc]
  have r:0≤n * 2 ^ (j+1):=Int.mul_nonneg n0 (Int.le_of_lt (Int.pow_pos (by decide)))
  refine ⟨(n * 2 ^ (j+1),((j+1:Nat):Int)),?_,⟨j+1,by omega,rfl⟩,by simp only;omega⟩
  rw [decide_eq_true (by omega),cond_true,q,K2 r (by omega),Yo (by omega) (by omega)]
  rfl
 right
 obtain rfl:j=s:=by omega
 rw [decide_eq_false (by omega),cond_false]
theorem Z4s {c:Int} {w:Nat} (h:0≤c∧c≤5) (ew:wid c=w) (hw:0 < w) (hw2:w≤64) (hs:∀ i:Nat,i * w % 64+w≤64)
  {ns:List Int} (hn:ns.length≤1048576) (hu:∀ n∈ns,0≤n∧n < 18446744073709551616∧Zdf c n=true) :
  Z6 (Y3 c ns (w:Int)) (0,List.replicate ((ns.length * w+63) / 64) 0)=some (.inr (Zcf (Zg8 w) (List.replicate ((ns.length * w+63) / 64) 0) 0 ns)) :=
 (Zn6 ns (fun i s=>(i,s)) (fun s => .inr s) (Y3 c ns (w:Int)) (Zg8 w) (Z1y w ns.length) (by omega) (fun i s n hi hx hm hI=>by
  obtain ⟨n0,n1,n2⟩:=hu n hm
  have n3:n < 2 ^ w:=by unfold Zdf at n2;rw [← ew];exact of_decide_eq_true n2
  obtain ⟨v,hv,v0,v1,v2,v3,v4⟩:=Z1x hw (hs i) hi hI n0 n3
  refine ⟨?_,v4⟩
  unfold Y3
  simp only
  have hb:=Nat.mul_le_mul_left i hw2
  have e1:IntKind.i64.wrap ((i:Int) * (w:Int))=((i * w:Nat):Int):=by
   rw [← Int.natCast_mul,Yo (by omega) (by omega)]
  have e2:IntKind.i64.wrap (Int.tdiv ((i * w:Nat):Int) 64)=((i * w / 64:Nat):Int):=by
   rw [Int.tdiv_eq_ediv_of_nonneg (by omega),Yo (by omega) (by omega)]
   omega
  have e3:Int.tmod (IntKind.i64.wrap ((i:Int) * (w:Int))) 64=((i * w % 64:Nat):Int):=by
   rw [e1,Int.tmod_eq_emod_of_nonneg (by omega)]
   omega
  have e4:=Zy9 (y2:=(w:Int)) (s0:=((i:Int),s)) (by omega) e3 n0 (by omega)
  rw [Zd8 hi,cond_true,Xh hx,Option.bind_some,Zuk h.1 h.2 n0 n1,Option.bind_some,n2,Bool.not_true,cond_false,e4,Option.bind_some,decide_eq_true (by omega),cond_true,e1,e2,Xh hv,Option.bind_some,Option.bind_some,K2 (by omega) v2]
  unfold Zg8
  rw [hv]
  rfl) (fun s _=>by
  unfold Y3
  simp only
  rw [Zd7,cond_false]) _ (Z1w w ns.length)).1
theorem Z18 {ns:List Int} (hn:ns.length≤1048576) (hu:∀ n∈ns,0≤n∧n < 18446744073709551616∧Zdf 0 n=true) (l0:List Int):Z6 (Y3 0 ns ((0:Nat):Int)) (0,l0)=some (.inr l0):=by
 have:=(Zn6 ns (fun i s=>(i,s)) (fun s => .inr s) (Y3 0 ns ((0:Nat):Int)) (fun s _ _=>s) (fun _ s=>s=l0) (by omega) (fun i s n hi hx hm hI=>by
  obtain ⟨n0,n1,n2⟩:=hu n hm
  refine ⟨?_,hI⟩
  unfold Y3
  simp only
  have e3:Int.tmod (IntKind.i64.wrap ((i:Int) * ((0:Nat):Int))) 64=((0:Nat):Int):=by
   rw [Int.natCast_zero,Int.mul_zero]
   rfl
  have e4:=Zy9 (y2:=((0:Nat):Int)) (s0:=((i:Int),s)) (by omega) e3 n0 (by omega)
  rw [Zd8 hi,cond_true,Xh hx,Option.bind_some,Zuk (by decide) (by decide) n0 n1,Option.bind_some,n2,Bool.not_true,cond_false,e4,Option.bind_some,decide_eq_false (by decide),cond_false,Option.bind_some]) (fun s _=>by
  unfold Y3
  simp only
  rw [Zd7,cond_false]) l0 rfl)
 rw [this.1,this.2]
theorem Z7r {c:Int} (h:0≤c∧c≤5) {ns:List Int} (hn:ns.length≤1048576) (hu:∀ n∈ns,0≤n∧n < 18446744073709551616∧Zdf c n=true):Ux c ns=some (Znc c ns,true):=by
 have hb:wid c≤64:=by rcases c5' h with rfl | rfl | rfl | rfl | rfl | rfl <;> decide
 have hm:ns.length * wid c≤1048576 * 64:=Nat.mul_le_mul hn hb
 unfold Ux Znc
 rw [Z3f h,Option.bind_some,decide_eq_false (by omega),cond_false,Z7s h (by omega),Option.bind_some,Zo8 (by omega) (by omega) (by omega),Option.bind_some,Int.toNat_natCast]
 have key:∀ w:Nat,wid c=w→0 < w→(∀ i:Nat,i * w % 64+w≤64)→¬ c=0→((Z6 (Y3 c ns ((wid c:Nat):Int)) (0,List.replicate ((ns.length * wid c+63) / 64) 0)).bind fun (z20:(Unit ⊕ (List Int)))=>match z20 with | .inl z20=>some (([]:(List Int)),false) | .inr z20=>some (z20,true))=some ((if c=0 then [] else Zcf (Zg8 (wid c)) (List.replicate ((ns.length * wid c+63) / 64) 0) 0 ns),true):=by
  intro w ew a1 a2 a3
  rw [if_neg a3,ew,Z4s h ew a1 (by omega) a2 hn hu]
  rfl
 rcases c5' h with rfl | rfl | rfl | rfl | rfl | rfl
 ·rw [show wid 0=0 from rfl,Z18 hn hu,Nat.mul_zero,if_pos rfl]
  rfl
 ·exact key 1 rfl (by decide) (fun i=>by omega) (by decide)
 ·exact key 8 rfl (by decide) (fun i=>by omega) (by decide)
 ·exact key 16 rfl (by decide) (fun i=>by omega) (by decide)
 ·exact key 32 rfl (by decide) (fun i=>by omega) (by decide)
 exact key 64 rfl (by decide) (fun i=>by omega) (by decide)
def ato (t:Tr):List Int:=t.Kids.map fun k=>k.Words.headD 0
theorem Zoo (t:Tr):(ato t).length=t.Kids.length:=by unfold ato;rw [List.length_map]
theorem Zz6 {α:Type} {f:α→Nat} {x:α}:∀ {l:List α},x∈l→f x≤(l.map f).sum
 | [],h=>by cases h
 | y::l,h=>by
  simp only [List.map_cons,List.sum_cons]
  rcases List.mem_cons.1 h with rfl | h
  ·omega
  have:=Zz6 (f:=f) h;omega
theorem Zz5 {α:Type} {f:α→Nat}:∀ {l:List α},(∀ x∈l,1≤f x)→l.length≤(l.map f).sum
 | [],_=>by simp
 | y::l,h=>by
  have:=Zz5 fun x hx=>h x (.tail _ hx)
  have:=h y (.head _)
  simp only [List.map_cons,List.sum_cons,List.length_cons]
  omega
theorem Z26 {α β:Type} {f:α→Nat} {g:β→Nat} (p:α→β):∀ {l:List α},(∀ x∈l,g (p x)≤f x)→((l.map p).map g).sum≤(l.map f).sum
 | [],_=>by simp
 | y::l,h=>by
  have:=Z26 p fun x hx=>h x (.tail _ hx)
  have:=h y (.head _)
  simp only [List.map_cons,List.sum_cons]
  omega
theorem Z3n {α:Type} {p:α→Bool} {f:α→Nat}:∀ l:List α,((tr p l).map f).sum≤(l.map f).sum
 | []=>by simp [tr]
 | x::l=>by
  have:=Z3n (p:=p) (f:=f) l
  by_cases h:tr p l=[]
  ·rw [Zj6 h]
   split <;> simp
  rw [Zus h]
  simp only [List.map_cons,List.sum_cons]
  omega
theorem Z7c (t:Tr):1≤pt t:=by rw [Zpk];omega
theorem Ybv {t x:Tr} (h:x∈t.Kids):pt x+1≤pt t:=by
 have:=Zz6 (f:=pt) h
 rw [Zpk t]
 omega
theorem Zln (t:Tr):1+t.Words.length+t.Kids.length≤pt t:=by
 have:=Zz5 (f:=pt) (l:=t.Kids) fun x _=>Z7c x
 rw [Zpk t]
 omega
theorem Z3b:∀ (n:Nat) (t:Tr),SizeOf.sizeOf t < n→pt (nrm t)≤pt t
 | 0,_,h=>by omega
 | n+1,t,h=>by
  have ih:∀ x∈t.Kids,pt (nrm x)≤pt x:=fun x hx=>Z3b n x (by have:=Ka hx;omega)
  have e:=Z26 (f:=pt) (g:=pt) nrm ih
  by_cases h0:t.Kind=0
  ·rw [Zpa h0,Zpk]
   exact Z7c t
  by_cases h1:t.Kind=1
  ·rw [G5 h1,Zpk,Zpk t]
   simp only
   have a:=Zc7 (fun x:Int=>x == 0) t.Words
   have b:=Z3n (p:=fun x:Tr=>x.Kind == 0) (f:=pt) (t.Kids.map nrm)
   exact Nat.add_le_add (Nat.add_le_add_left a 1) (Nat.le_trans b e)
  rw [G4 h0 h1,Zpk,Zpk t]
  simp only
  omega
theorem Z59 {M N:Int}:∀ (l:List Tr) (s:Int×Int),(∀ x∈l,(x.Words.length:Int)≤M∧(x.Kids.length:Int)≤N)→0≤s.1→s.1≤M→0≤s.2→s.2≤N →
  s.1≤(l.foldl frS s).1∧(l.foldl frS s).1≤M∧s.2≤(l.foldl frS s).2∧(l.foldl frS s).2≤N∧∀ x∈l,(x.Words.length:Int)≤(l.foldl frS s).1∧(x.Kids.length:Int)≤(l.foldl frS s).2
 | [],s,_,a,b,c,d=>⟨Int.le_refl _,b,Int.le_refl _,d,fun x hx=>by cases hx⟩
 | y::l,s,h,a,b,c,d=>by
  obtain ⟨h1,h2⟩:=h y (.head _)
  have e1:s.1≤(frS s y).1∧(frS s y).1≤M∧(y.Words.length:Int)≤(frS s y).1:=by unfold frS;simp only;split <;> omega
  have e2:s.2≤(frS s y).2∧(frS s y).2≤N∧(y.Kids.length:Int)≤(frS s y).2:=by unfold frS;simp only;split <;> omega
  obtain ⟨k1,k2,k3,k4,k5⟩:=Z59 l (frS s y) (fun x hx=>h x (.tail _ hx)) (by omega) e1.2.1 (by omega) e2.2.1
  rw [List.foldl_cons]
  refine ⟨by omega,k2,by omega,k4,fun x hx => ?_⟩
  rcases List.mem_cons.1 hx with rfl | hx
  ·omega
  exact k5 x hx
theorem Ycd {M N:Int} {l:List Tr} (h:∀ x∈l,(x.Words.length:Int)≤M∧(x.Kids.length:Int)≤N) (hM:0≤M) (hN:0≤N) :
  0≤(fr l).1∧(fr l).1≤M∧0≤(fr l).2∧(fr l).2≤N∧∀ x∈l,(x.Words.length:Int)≤(fr l).1∧(x.Kids.length:Int)≤(fr l).2 :=
 Z59 l (0,0) h (Int.le_refl _) hM (Int.le_refl _) hN
theorem Zin {t:Tr} {d:Nat} (h:rt t d=true) (h0:¬ t.Kind=0) (h1:¬ t.Kind=10):t.Words.length < 65536∧(t.Kind=1→t.Kids.length < 65536)∧(1 < t.Kind→t.Words=[])∧∀ k∈t.Kids,rt k (d - 1)=true∧okk t.Kind k=true:=by
 rw [Znp,if_neg h0,if_neg h1] at h
 by_cases hb:t.Kind < 0∨10 < t.Kind∨d=0∨65536≤t.Words.length∨(t.Kind=1∧65536≤t.Kids.length)∨1048576≤t.Kids.length∨(1 < t.Kind∧0 < t.Words.length)
 ·rw [if_pos hb] at h;cases h
 rw [if_neg hb,List.all_eq_true] at h
 refine ⟨by omega,fun h=>by omega,fun h=>List.length_eq_zero_iff.1 (by omega),fun k hk => ?_⟩
 have:=h k hk
 rwa [Bool.and_eq_true] at this
theorem Ycf {l:List Tr} (hl:l.length≤200000) (h:∀ x∈l,x.Words.length≤65535∧x.Kids.length≤65535):h9 l=1+(l.length:Int) * ((fr l).1+(fr l).2)∧0≤(l.length:Int) * ((fr l).1+(fr l).2)∧(l.length:Int) * ((fr l).1+(fr l).2)≤26214000000∧(0≤(fr l).1∧(fr l).1≤65535∧0≤(fr l).2∧(fr l).2≤65535∧∀ x∈l,(x.Words.length:Int)≤(fr l).1∧(x.Kids.length:Int)≤(fr l).2):=by
 have f:=Ycd (M:=65535) (N:=65535) (l:=l) (fun x hx=>by have:=h x hx;omega) (by decide) (by decide)
 have a:0≤(l.length:Int) * ((fr l).1+(fr l).2):=Int.mul_nonneg (by omega) (by omega)
 have b:(l.length:Int) * ((fr l).1+(fr l).2)≤200000 * 131070:=Int.mul_le_mul (by omega) (by omega) (by omega) (by decide)
 refine ⟨?_,a,by omega,f⟩
 unfold h9
 rw [Yo (x:=(fr l).1+(fr l).2) (by omega) (by omega),Yo (x:=(l.length:Int) * _) (by omega) (by omega),Yo (by omega) (by omega)]
theorem Z9j {c:Int} (h:0≤c∧c≤5) (n:Nat):(n * wid c+63) / 64≤n:=by
 have hb:wid c≤64:=by rcases c5' h with rfl | rfl | rfl | rfl | rfl | rfl <;> decide
 have:=Nat.mul_le_mul_left n hb
 omega
def zs (l:List Int) (N:Nat):List Int:=l++List.replicate (N - l.length) 0
theorem Z8m {α σ:Type} {f:σ→Nat→α→σ} (I:Nat→σ→Prop) (xs:List α) (h:∀ (i:Nat) (s:σ) (x:α),i < xs.length→xs[i]? = some x→x∈xs→I i s→I (i+1) (f s i x)) {s:σ} (h0:I 0 s):I xs.length (Zcf f s 0 xs):=by
 have key:∀ (l pre:List α) (s:σ),xs=pre++l→I pre.length s→I xs.length (Zcf f s pre.length l):=fun l=>by
  induction l with
  | nil =>
   intro pre s hp hi
   rw [List.append_nil] at hp
   subst hp
   exact hi
  | cons x l ih =>
   intro pre s hp hI
   have hx:xs[pre.length]? = some x:=by rw [hp,List.getElem?_append_right (Nat.le_refl _),Nat.sub_self];rfl
   have hi:pre.length < xs.length:=by rw [hp];simp
   have b:=h pre.length s x hi hx (List.mem_of_getElem? hx) hI
   have:=ih (pre++[x]) (f s pre.length x) (by rw [hp];simp) (by rw [List.length_append,List.length_singleton];exact b)
   rw [List.length_append,List.length_singleton] at this
   exact this
 exact key xs [] s rfl h0
theorem Zru {a b:Int} (h:a=b):(a == b)=true:=by rw [h];exact beq_self_eq_true b
theorem Ybx {c:Int} (h:0≤c∧c≤6):Zbm c=some (if c=6 then 64 else ((wid c:Nat):Int)):=by
 have:c=0∨c=1∨c=2∨c=3∨c=4∨c=5∨c=6:=by omega
 rcases this with rfl | rfl | rfl | rfl | rfl | rfl | rfl <;> rfl
def rmL (c:Int) (n:Nat):Nat:=if c=6 then n else (n * wid c+63) / 64
theorem Yby {c off:Int} {n:Nat} (h:0≤c∧c≤6) (hn:n≤200000):Qr (⟨2,off,0,0,c,(n:Int),0,false⟩:Z8)=some (((rmL c n:Nat):Int),true):=by
 unfold Qr
 simp only
 rw [Vb (a:=2) (b:=1) (by decide),cond_false,Zru (a:=2) (b:=2) rfl,cond_true,Vb (a:=c) (b:=7) (by omega),cond_false,cond_true,decide_eq_true (by omega),cond_true,decide_eq_true (by omega),cond_true,decide_eq_true (by omega),cond_true,decide_eq_true (by omega),cond_true,Ybx h,Option.bind_some]
 unfold rmL
 by_cases q:c=6
 ·rw [if_pos q,if_pos q,Yo (x:=(n:Int) * 64) (by omega) (by omega),Yo (x:=(n:Int) * 64+63) (by omega) (by omega),Int.tdiv_eq_ediv_of_nonneg (by omega),Yo (by omega) (by omega)]
  congr 2
  omega
 rw [if_neg q,if_neg q]
 have hb:wid c≤64:=by rcases c5' (show 0≤c∧c≤5 by omega) with rfl | rfl | rfl | rfl | rfl | rfl <;> decide
 have hm:n * wid c≤200000 * 64:=Nat.mul_le_mul hn hb
 rw [← Int.natCast_mul]
 generalize n * wid c=m at hm ⊢
 rw [Yo (x:=(m:Int)) (by omega) (by omega),Yo (x:=(m:Int)+63) (by omega) (by omega),Int.tdiv_eq_ediv_of_nonneg (by omega),Yo (by omega) (by omega)]
 congr 1
theorem Zz4 {i n m:Nat} (h:i < n):i * m+m≤n * m:=by
 have:=Nat.mul_le_mul_right m (show i+1≤n by omega)
 rwa [Nat.add_mul,Nat.one_mul] at this
theorem Z9a {k:Int} {t:Tr} (h:okk k t=true):okk k (nrm t)=true:=by
 unfold okk at h ⊢
 rw [Vt]
 split
 ·rename_i hk
  rw [if_pos hk,Bool.and_eq_true,beq_iff_eq] at h
  rw [G4 (by omega) (by omega),h.1]
  simp only [BEq.rfl,Bool.true_and]
  exact h.2
 rename_i hk
 rw [if_neg hk] at h
 exact h
theorem Z7t:∀ (n:Nat) (t:Tr) (d:Nat),SizeOf.sizeOf t < n→rt t d=true→rt (nrm t) d=true
 | 0,_,_,h,_=>by omega
 | n+1,t,d,hn,h=>by
  have hk:=Vt t
  by_cases h0:t.Kind=0
  ·rw [Zpa h0,Znp,if_pos rfl];rfl
  rw [Znp,if_neg h0] at h
  by_cases h10:t.Kind=10
  ·rw [if_pos h10] at h
   rw [G4 h0 (by omega),Znp,if_neg h0,if_pos h10]
   simp only [List.length_map]
   exact h
  rw [if_neg h10] at h
  by_cases hc:t.Kind < 0∨10 < t.Kind∨d=0∨65536≤t.Words.length∨(t.Kind=1∧65536≤t.Kids.length)∨1048576≤t.Kids.length∨(1 < t.Kind∧0 < t.Words.length)
  ·rw [if_pos hc] at h;cases h
  rw [if_neg hc,List.all_eq_true] at h
  have hkid:∀ x∈t.Kids,(rt (nrm x) (d - 1) && okk t.Kind (nrm x))=true:=fun x hx=>by
   have:=h x hx
   rw [Bool.and_eq_true] at this ⊢
   exact ⟨Z7t n x (d - 1) (by have:=Ka hx;omega) this.1,Z9a this.2⟩
  by_cases h1:t.Kind=1
  ·obtain ⟨W,K,e1,lW,lK,mK⟩:∃ W K,nrm t=⟨1,W,K⟩∧W.length≤t.Words.length∧K.length≤t.Kids.length∧∀ x∈K,x∈t.Kids.map nrm :=
    ⟨_,_,G5 h1,Zc7 _ _,by have h:=Zc7 (fun x:Tr=>x.Kind == 0) (t.Kids.map nrm);rw [List.length_map] at h;exact h,fun x hx=>Zol hx⟩
   rw [e1,Znp]
   simp only
   rw [if_neg (by decide),if_neg (by decide),if_neg (by omega),List.all_eq_true]
   intro x hx
   obtain ⟨y,hy,rfl⟩:=List.mem_map.1 (mK x hx)
   rw [← h1]
   exact hkid y hy
  rw [G4 h0 h1,Znp]
  simp only [List.length_map]
  rw [if_neg h0,if_neg h10,if_neg hc,List.all_eq_true]
  intro x hx
  obtain ⟨y,hy,rfl⟩:=List.mem_map.1 hx
  exact hkid y hy
theorem rtN {t:Tr} {d:Nat} (h:rt t d=true):rt (nrm t) d=true:=Z7t _ t d (Nat.lt_succ_self _) h
theorem Zdc {kind:Int} {k:Tr} (h:¬ (2≤kind∧kind≤7)) (hk:okk kind k=true):¬ k.Kind=10∧(kind=9→k.Kind=1):=by
 unfold okk at hk
 rw [if_neg h,Bool.and_eq_true,bne_iff_ne,Bool.or_eq_true,bne_iff_ne,beq_iff_eq] at hk
 exact ⟨hk.1,fun h9=>by rcases hk.2 with h | h;exact absurd h9 h;exact h⟩
theorem Z0c {kind:Int} {k:Tr} {d:Nat} (h:2≤kind∧kind≤7) (hb:Bd k) (hr:rt k d=true) (hk:okk kind k=true):∃ w,k.Words=[w]∧0≤w∧w < 18446744073709551616∧Zdf (kind - 2) w=true:=by
 unfold okk at hk
 rw [if_pos h,Bool.and_eq_true,beq_iff_eq] at hk
 obtain ⟨w,hw⟩:=Zvx hk.1 hr
 have hu:=hb.u w (by rw [hw];exact .head _)
 refine ⟨w,hw,hu.1,hu.2,?_⟩
 have:=hk.2
 rwa [hw] at this
structure Fine (t:Tr) (d:Nat):Prop where
 bd:Bd t
 rt:rt t d=true
 pt:pt t≤200000
theorem Fine.kid {t x:Tr} {d:Nat} (h:Fine t d) (hx:x∈t.Kids):Fine x (d - 1):=⟨h.bd.all x hx,(Z19 h.rt).2.2.2.2 x hx,by have:=h.pt;have:=Ybv hx;omega⟩
theorem Fine.nrm {t:Tr} {d:Nat} (h:Fine t d):Fine (nrm t) d:=⟨h.bd.nrm,rtN h.rt,Nat.le_trans (Z3b _ t (Nat.lt_succ_self _)) h.pt⟩
def Z9d (w N:Nat) (ns:List Int) (i:Nat) (s:List Int):Prop:=Z1y w N i s∧∀ (j:Nat) (n:Int),j < i→ns[j]? = some n→(s[j * w / 64]?.getD 0) / 2 ^ (j * w % 64) % 2 ^ w=n
theorem Z4k {w N i:Nat} {ns s:List Int} {n:Int} (hw:0 < w) (hs:∀ i:Nat,i * w % 64+w≤64) (hi:i < N) (hx:ns[i]? = some n) (hI:Z9d w N ns i s) (n0:0≤n) (n1:n < 2 ^ w):Z9d w N ns (i+1) (Zg8 w s i n):=by
 obtain ⟨v,hv,v0,v1,v2,v3,v4⟩:=Z1x hw (hs i) hi hI.1 n0 n1
 refine ⟨v4,fun j m hj hm => ?_⟩
 have hq:i * w / 64 < s.length:=(List.getElem?_eq_some_iff.1 hv).1
 have e0:Zg8 w s i n=s.set (i * w / 64) (v+n * 2 ^ (i * w % 64)):=by
  unfold Zg8 Y5
  rw [hv,Int.toNat_natCast]
  rfl
 rw [e0,List.getElem?_set]
 have pz:∀ k:Nat,(2:Int) ^ k≠0:=fun k=>Int.ne_of_gt (Int.pow_pos (by decide))
 by_cases h:i * w / 64=j * w / 64
 ·rw [if_pos h,if_pos hq,Option.getD_some]
  by_cases hji:j=i
  ·subst hji
   rw [hx] at hm
   cases hm
   rw [Int.add_mul_ediv_right _ _ (pz _),Int.ediv_eq_zero_of_lt v0 v1,Int.zero_add,Int.emod_eq_of_lt n0 n1]
  have hlt:j < i:=by omega
  have h2:=Zz4 (m:=w) hlt
  have h3:j * w % 64+w≤i * w % 64:=by omega
  have e:n * 2 ^ (i * w % 64)=n * 2 ^ (i * w % 64 - (j * w % 64+w)) * 2 ^ w * 2 ^ (j * w % 64):=by
   rw [Int.mul_assoc,Int.mul_assoc,← Int.pow_add,← Int.pow_add]
   congr 2
   omega
  rw [e,Int.add_mul_ediv_right _ _ (pz _),Int.add_mul_emod_self_right]
  have:=hI.2 j m hlt hm
  rw [← h,hv,Option.getD_some] at this
  exact this
 rw [if_neg h]
 have hlt:j < i:=by
  rcases Nat.lt_or_ge j i with q | q
  ·exact q
  exact absurd (by rw [show j=i by omega]) h
 exact hI.2 j m hlt hm
theorem Z7e {w:Nat} (hw:0 < w) (hs:∀ i:Nat,i * w % 64+w≤64) {ns:List Int} (hf:∀ n∈ns,0≤n∧n < 2 ^ w):Z9d w ns.length ns ns.length (Zcf (Zg8 w) (List.replicate ((ns.length * w+63) / 64) 0) 0 ns) :=
 Z8m (f:=Zg8 w) (Z9d w ns.length ns) ns (fun i s x hi hx hm hI=>Z4k hw hs hi hx hI (hf x hm).1 (hf x hm).2) ⟨Z1w w ns.length,fun j n hj=>by omega⟩
structure Nm (t:Tr) (d:Nat):Prop where
 f:Fine t d
 n:nrm t=t
 k:¬ t.Kind=10
theorem Nm.kid {t x:Tr} {d:Nat} (h:Nm t d) (h0:¬ t.Kind=0) (hx:x∈t.Kids) (h10:¬ x.Kind=10):Nm x (d - 1):=by
 refine ⟨h.f.kid hx,?_,h10⟩
 have hn:=h.n
 by_cases h1:t.Kind=1
 ·rw [G5 h1] at hn
  rw [← hn] at hx
  simp only at hx
  obtain ⟨y,_,rfl⟩:=List.mem_map.1 (Zol hx)
  exact Z25 y
 rw [G4 h0 h1] at hn
 rw [← hn] at hx
 simp only at hx
 obtain ⟨y,_,rfl⟩:=List.mem_map.1 hx
 exact Z25 y
theorem Nm.words {t:Tr} {d:Nat} (h:Nm t d) (h1:t.Kind=1):tr (fun x=>x == 0) t.Words=t.Words:=by
 have hn:=h.n
 rw [G5 h1] at hn
 exact congrArg Zi.Words hn
theorem Nm.structs {t:Tr} {d:Nat} (h:Nm t d) (h9:t.Kind=9):∀ x∈t.Kids,Nm x (d - 1)∧x.Kind=1:=fun x hx=>by
 have k1:=(Zdc (by omega) ((Zin h.f.rt (by omega) h.k).2.2.2 x hx).2).2 h9
 exact ⟨h.kid (by omega) hx (by omega),k1⟩
def U6 (l:List Int):Prop:=∀ w∈l,0≤w∧w < 18446744073709551616
theorem Z9c {c:Int} (h:0≤c∧c≤5) {ns:List Int} (hn:∀ n∈ns,0≤n∧Zdf c n=true):U6 (Znc c ns):=by
 by_cases h0:c=0
 ·unfold Znc
  rw [if_pos h0]
  intro w hw
  cases hw
 have ff:∀ n∈ns,0≤n∧n < 2 ^ wid c:=fun n hm=>⟨(hn n hm).1,by have:=(hn n hm).2;unfold Zdf at this;exact of_decide_eq_true this⟩
 have key:0 < wid c∧∀ i:Nat,i * wid c % 64+wid c≤64:=by
  rcases c5' h with rfl | rfl | rfl | rfl | rfl | rfl
  ·exact absurd rfl h0
  ·exact ⟨by decide,fun i=>by show i * 1 % 64+1≤64;omega⟩
  ·exact ⟨by decide,fun i=>by show i * 8 % 64+8≤64;omega⟩
  ·exact ⟨by decide,fun i=>by show i * 16 % 64+16≤64;omega⟩
  ·exact ⟨by decide,fun i=>by show i * 32 % 64+32≤64;omega⟩
  exact ⟨by decide,fun i=>by show i * 64 % 64+64≤64;omega⟩
 have b:=Z7e key.1 key.2 ff
 have e:Znc c ns=Zcf (Zg8 (wid c)) (List.replicate ((ns.length * wid c+63) / 64) 0) 0 ns:=by unfold Znc;rw [if_neg h0]
 intro w hw
 rw [e] at hw
 obtain ⟨q,hq⟩:=List.mem_iff_getElem?.1 hw
 obtain ⟨v0,v1⟩:=b.1.2 q w hq
 refine ⟨v0,Int.lt_of_lt_of_le v1 (Int.le_trans (Zpj (b:=64) (by omega)) (by decide))⟩
def nd (t:Tr):Nat:=1+(t.Kids.attach.map fun k=>nd k.1).sum
termination_by SizeOf.sizeOf t
decreasing_by exact Ka k.2
theorem Zt6 (t:Tr):nd t=1+(t.Kids.map nd).sum:=by
 rw [nd]
 simp
def ndl (l:List Tr):Nat:=(l.map nd).sum
theorem Z80 (l:List Tr) (x:Tr):ndl (l++[x])=ndl l+nd x:=by simp [ndl]
inductive Mn (A:Zr):Zd→Tr→Prop
 | mk {r:Zd} {t:Tr} (hr:OKr A r) (hk:t.Kind=r.kind) (hw:t.Words=Xa A r) (hl:(t.Kids.length:Int)=Yk r) (he:∀ (i:Nat) (x:Tr),t.Kids[i]? = some x→(Xj A r i).2=0) (h:∀ (i:Nat) (x:Tr),t.Kids[i]? = some x→Mn A (Xj A r i).1 x):Mn A r t
section
variable {A:Zr}
theorem Yaa {f:Zd→Int→Tr×Int×Int} {g:Int→Zd×Int} {e:Int} {n:Nat}
  (hQ:∀ (i:Nat) (l:Int),i < n→0≤l→(g i).2=0→(f (g i).1 l).2.2=0→Mn A (g i).1 (f (g i).1 l).1∧(nd (f (g i).1 l).1:Int)≤e+(l - (f (g i).1 l).2.1)∧0≤(f (g i).1 l).2.1) :
  ∀ (m i:Nat) (left:Int) (acc:List Tr),i+m=n→0≤left→acc.length=i→(∀ (j:Nat) x,acc[j]? = some x→(g j).2=0∧Mn A (g j).1 x)→(Qa f g m i left acc).2.2=0 →
   (Qa f g m i left acc).1.length=n∧(∀ (j:Nat) x,(Qa f g m i left acc).1[j]? = some x→(g j).2=0∧Mn A (g j).1 x)∧(ndl (Qa f g m i left acc).1:Int)≤ndl acc+(m:Int) * e+(left - (Qa f g m i left acc).2.1)
 | 0,i,left,acc,hi,h0,ha,hA,h=>by
  refine ⟨by simp only [Qa];omega,by simp only [Qa];exact hA,?_⟩
  simp only [Qa]
  omega
 | m+1,i,left,acc,hi,h0,ha,hA,h=>by
  rw [Qa] at h ⊢
  by_cases h1:(g i).2≠0
  ·rw [if_pos h1] at h;exact absurd h h1
  rw [if_neg h1] at h ⊢
  by_cases h2:(f (g i).1 left).2.2≠0
  ·rw [if_pos h2] at h;exact absurd h h2
  rw [if_neg h2] at h ⊢
  obtain ⟨a1,a2,a3⟩:=hQ i left (by omega) h0 (by omega) (by omega)
  obtain ⟨b1,b2,b3⟩:=Yaa hQ m (i+1) _ _ (by omega) a3 (by rw [List.length_append,ha];rfl) (fun j x hx=>by
   rcases Nat.lt_or_ge j acc.length with hj | hj
   ·rw [List.getElem?_append_left hj] at hx;exact hA j x hx
   rw [List.getElem?_append_right hj] at hx
   have hj0:j - acc.length=0:=by
    rcases Nat.eq_zero_or_pos (j - acc.length) with q | q
    ·exact q
    rw [List.getElem?_eq_none (by simp;omega)] at hx;cases hx
   rw [hj0] at hx
   simp only [List.getElem?_cons_zero,Option.some.injEq] at hx
   subst hx
   have:j=i:=by omega
   subst this
   exact ⟨by omega,a1⟩) h
  refine ⟨b1,b2,?_⟩
  rw [Z80] at b3
  have:(((m+1:Nat)):Int) * e=(m:Int) * e+e:=by rw [show ((m+1:Nat):Int)=(m:Int)+1 from rfl,Int.add_mul,Int.one_mul]
  rw [this]
  omega
def HM (A:Zr) (f:Zd→Int→Tr×Int×Int):Prop:=∀ k left,OKr A k→0≤left→(f k left).2.2=0→Mn A k (f k left).1∧(nd (f k left).1:Int)≤1+(left - (f k left).2.1)∧0≤(f k left).2.1
theorem Ybg:HM A bad:=fun k left _ _ h=>by simp [bad] at h
theorem Zsp {f:Zd→Int→Tr×Int×Int} {e:Int} {r:Zd} (hr:OKr A r) {left:Int} (h0:0≤left)
  (hQ:∀ (i:Nat) (l:Int),i < (Yk r).toNat→0≤l→(Xj A r i).2=0→(f (Xj A r i).1 l).2.2=0→Mn A (Xj A r i).1 (f (Xj A r i).1 l).1∧(nd (f (Xj A r i).1 l).1:Int)≤e+(l - (f (Xj A r i).1 l).2.1)∧0≤(f (Xj A r i).1 l).2.1)
  (h:(Qa f (Xj A r) (Yk r).toNat 0 left []).2.2=0) :
  Mn A r ⟨r.kind,Xa A r,(Qa f (Xj A r) (Yk r).toNat 0 left []).1⟩∧(nd ⟨r.kind,Xa A r,(Qa f (Xj A r) (Yk r).toNat 0 left []).1⟩:Int)≤1+Yk r * e+(left - (Qa f (Xj A r) (Yk r).toNat 0 left []).2.1):=by
 have hkn:=Ze8 hr
 obtain ⟨a1,a2,a3⟩:=Yaa hQ (Yk r).toNat 0 left [] (by omega) h0 rfl (fun j x hx=>by simp at hx) h
 refine ⟨.mk hr rfl rfl ?_ (fun i x hx=>(a2 i x hx).1) (fun i x hx=>(a2 i x hx).2),?_⟩
 ·show ((Qa f (Xj A r) (Yk r).toNat 0 left []).1.length:Int)=Yk r
  rw [a1]
  omega
 rw [Zt6]
 simp only
 rw [show (((Yk r).toNat:Nat):Int)=Yk r by omega] at a3
 unfold ndl at a3
 simp only [List.map_nil,List.sum_nil] at a3
 omega
theorem Z8q (hw:WS A.segments):∀ d,HM A (Zdn A d):=fun d=>by
 induction d using Nat.strongRecOn with
 | ind d ih =>
  intro r left hr h0 h
  have hP:∀ k,1≤k→HM A (U4 A k d):=fun k hk=>by
   unfold U4
   split
   ·exact ih _ (by omega)
   exact Ybg
  have hlf:=Zsm hw d r left hr h0 h
  refine (fun (q:Mn A r (Zdn A d r left).1∧(nd (Zdn A d r left).1:Int)≤1+(left - (Zdn A d r left).2.1))=>⟨q.1,q.2,hlf.1⟩) ?_
  have hwt:=Z8f hw hr
  have hkn:=Ze8 hr
  rw [Zsn] at h hlf ⊢
  unfold Zni at h hlf ⊢
  by_cases k0:r.kind=0
  ·rw [if_pos k0]
   have hz:Yk r=0:=by
    cases hr with
    | z=>rfl
    | st=>simp at k0
    | li k s a n hk=>simp only at k0;omega
    | co=>simp at k0
    | at_=>simp at k0
   refine ⟨.mk hr rfl rfl (by simp [hz]) (fun i x hx=>by simp at hx) (fun i x hx=>by simp at hx),?_⟩
   rw [Zt6]
   simp
  rw [if_neg k0] at h hlf ⊢
  by_cases hb:d < lvR r∨left < wtR r
  ·rw [if_pos hb] at h;simp at h
  rw [if_neg hb] at h hlf ⊢
  simp only at h hlf ⊢
  by_cases k9:r.kind=9
  ·have ef:Zd6 A (U4 A 1 d) (U4 A 2 d) r=stK A (U4 A 2 d):=by unfold Zd6;rw [if_pos k9]
   rw [ef] at h hlf ⊢
   have ew:wtR r=1+r.count * (1+r.words+r.ptrs):=by unfold wtR;rw [if_neg k0,if_neg (by omega),if_pos k9]
   have ekn:Yk r=r.count:=by unfold Yk;rw [if_neg (by omega)]
   have hrg:0≤r.words∧0≤r.ptrs:=by
    cases hr with
    | z=>simp [r0] at k0
    | st=>simp at k9
    | li k s a n hk=>simp only at k9;omega
    | co s a d' p n hd hp=>simp only;omega
    | at_=>simp at k9
   obtain ⟨m1,m2⟩:=Zsp (e:=1+r.ptrs) hr (left:=left - wtR r) (by omega) (fun i l hi hl g0 e0=>by
    have hks:=Ybi (A:=A) k9 (i:=(i:Int)) (by omega)
    have hko:=Un hr (i:Int)
    have e1:(Xj A r (i:Int)).1.kind=1:=by rw [hks]
    have e3:(Xj A r (i:Int)).1.ptrs=r.ptrs:=by rw [hks]
    have ek:Yk (Xj A r (i:Int)).1=r.ptrs:=by unfold Yk;rw [if_pos e1,e3]
    unfold stK at e0 ⊢
    simp only at e0 ⊢
    rw [e3,← ek] at e0 ⊢
    have hgl:=Zsk (Ztx hw 2 d) (fun i'=>Un hko i') _ _ _ [] hl e0
    obtain ⟨n1,n2⟩:=Zsp (f:=U4 A 2 d) (e:=1) hko hl (fun i' l' hi' hl' g0' e0'=>hP 2 (by omega) _ _ (Un hko i') hl' e0') e0
    rw [e1] at n1 n2
    rw [ek] at n1 n2 hgl ⊢
    exact ⟨n1,by omega,hgl.1⟩) h
   refine ⟨m1,?_⟩
   have:Yk r * (1+r.ptrs)≤r.count * (1+r.words+r.ptrs):=by
    rw [ekn]
    exact Int.mul_le_mul_of_nonneg_left (by omega) (by omega)
   omega
  by_cases k18:r.kind=1∨r.kind=8
  ·have ef:Zd6 A (U4 A 1 d) (U4 A 2 d) r=U4 A 1 d:=by unfold Zd6;rw [if_neg k9,if_pos k18]
   rw [ef] at h hlf ⊢
   obtain ⟨m1,m2⟩:=Zsp (e:=1) hr (left:=left - wtR r) (by omega) (fun i l hi hl g0 e0=>hP 1 (by omega) _ _ (Un hr i) hl e0) h
   refine ⟨m1,?_⟩
   have:1+Yk r≤wtR r:=by
    unfold wtR Yk
    rw [if_neg k0]
    by_cases k1:r.kind=1
    ·rw [if_pos k1,if_pos k1]
     cases hr with
     | z=>simp [r0] at k0
     | st s a d' p hd hp=>simp only;omega
     | li k s a n hk=>simp only at k1;omega
     | co s a d' p n hd hp=>simp at k1
     | at_=>simp at k1
    rw [if_neg k1,if_neg k9,if_neg k1]
    omega
   omega
  have ef:Zd6 A (U4 A 1 d) (U4 A 2 d) r=Zop A:=by unfold Zd6;rw [if_neg k9,if_neg k18]
  rw [ef] at h hlf ⊢
  have hnn:Yk r=0∨2≤r.kind∧r.kind≤7:=by
   cases hr with
   | z=>exact .inl rfl
   | st=>simp at k18
   | li k s a n hk=>simp only at k18 ⊢;exact .inr (by omega)
   | co=>simp at k9
   | at_=>exact .inl rfl
  obtain ⟨m1,m2⟩:=Zsp (f:=Zop A) (e:=1) hr (left:=left - wtR r) (by omega) (fun i l hi hl g0 e0=>by
   have hks:=Ybh (A:=A) (r:=r) (by omega) (i:=(i:Int)) (by omega)
   have e2:Yk (Xj A r (i:Int)).1=0:=by rw [hks];rfl
   refine ⟨.mk (Un hr i) rfl rfl (by simp [Zop,e2]) (fun i x hx=>by simp [Zop] at hx) (fun i x hx=>by simp [Zop] at hx),?_,hl⟩
   rw [Zt6]
   simp [Zop]) h
  refine ⟨m1,?_⟩
  have:1+Yk r≤wtR r:=by
   unfold wtR Yk
   rw [if_neg k0,if_neg (by omega),if_neg (by omega),if_neg k9]
   omega
  omega
end
theorem Z90 {α:Type} (p:α→Bool) (l:List α):trN p l l.length=(tr p l).length:=by
 obtain ⟨h1,h2⟩:=Zyp (p:=p) (l:=l) l.length (Nat.le_refl _)
 rw [List.take_length] at h1
 rw [← h1,List.length_take]
 omega
theorem Zz0 {α R:Type} (l:List α) (p:α→Bool) (step:Int→Option (Int ⊕ R)) (g:Nat→R)
  (h0:step 0=some (.inr (g 0))) (h1:∀ (n:Nat) (x:α),l[n]? = some x→n < l.length→step ((n+1:Nat):Int)=some (if p x=true then .inl (n:Int) else .inr (g (n+1)))):Z6 step (l.length:Int)=some (g (tr p l).length):=by
 have key:∀ n:Nat,n≤l.length→Z6 step (n:Int)=some (g (trN p l n)):=fun n=>by
  induction n with
  | zero=>intro _;exact Yr h0
  | succ n ih =>
   intro hn
   have hx:l[n]? = some l[n]:=List.getElem?_eq_getElem (by omega)
   have h:=h1 n _ hx (by omega)
   unfold trN
   rw [hx]
   simp only
   split
   ·rename_i hp
    rw [if_pos hp] at h
    rw [Xc h]
    exact ih (by omega)
   rename_i hp
   rw [if_neg hp] at h
   exact Yr h
 rw [← Z90]
 exact key l.length (Nat.le_refl _)
section
variable {A B:Zr}
theorem Mn.ok {r:Zd} {t:Tr} (h:Mn A r t):OKr A r:=by cases h;assumption
theorem Mn.kd {r:Zd} {t:Tr} (h:Mn A r t):t.Kind=r.kind:=by cases h;assumption
theorem Mn.wd {r:Zd} {t:Tr} (h:Mn A r t):t.Words=Xa A r:=by cases h;assumption
theorem Mn.ln {r:Zd} {t:Tr} (h:Mn A r t):(t.Kids.length:Int)=Yk r:=by cases h;assumption
theorem Mn.er {r:Zd} {t:Tr} (h:Mn A r t):∀ (i:Nat) (x:Tr),t.Kids[i]? = some x→(Xj A r i).2=0:=by cases h;assumption
theorem Mn.kid {r:Zd} {t:Tr} (h:Mn A r t):∀ (i:Nat) (x:Tr),t.Kids[i]? = some x→Mn A (Xj A r i).1 x:=by cases h;assumption
theorem Zty (hw:WS A.segments) {r:Zd} (h:OKr A r):Gy r=some ((tr (fun x=>x == 0) (Xa A r)).length:Int):=by
 have hl:=Zuy hw h
 have hle:=Zet h
 have hloop:=Zz0 (Xa A r) (fun x=>x == 0) (Zbx r) (fun n=>(n:Int)) rfl (fun n x hx hn=>by
  unfold Zbx
  rw [Ybf,cond_true,Yo (by omega) (by omega),show ((n+1:Nat):Int) - 1=(n:Int) by omega,Zsw hw h,Option.bind_some]
  have:Zw8 A r n=x:=by
   rw [← Zm0 hw h hn]
   rw [List.getElem?_eq_getElem hn] at hx
   injection hx
  rw [this]
  simp only [Option.bind_some,cond_true]
  cases x == 0 <;> rfl)
 unfold Gy
 rw [Zvr,← hl,Option.bind_some,hloop]
 rfl
theorem Zyq {p:Int→Bool} {l:List Int} {i:Nat} (hi:i < (tr p l).length):∃ h:i < l.length,(tr p l)[i]? = some (l[i]'h):=by
 have h:=Zys p l
 have hl:=Zc7 p l
 refine ⟨by omega,?_⟩
 rw [← h,List.getElem?_take,if_pos hi,List.getElem?_eq_getElem (by omega)]
theorem Zym (hA:WS A.segments) (hB:WS B.segments) {a b:Zd} (ha:OKr A a) (hb:OKr B b):V7 a b=some (tr (fun x=>x == 0) (Xa A a) == tr (fun x=>x == 0) (Xa B b)):=by
 have hle:=Zet ha
 have htl:=Zc7 (fun x:Int=>x == 0) (Xa A a)
 unfold V7
 rw [Zty hA ha,Option.bind_some,Zty hB hb,Option.bind_some,Ztw]
 by_cases hl:(tr (fun x=>x == 0) (Xa B b)).length=(tr (fun x=>x == 0) (Xa A a)).length
 ·rw [show (!((tr (fun x=>x == 0) (Xa B b)).length == (tr (fun x=>x == 0) (Xa A a)).length))=false by simp [hl],cond_false]
  rw [Zt2 (tr (fun x=>x == 0) (Xa A a)) (tr (fun x=>x == 0) (Xa B b)) (Kz a b ((tr (fun x=>x == 0) (Xa A a)).length:Int)) (.inl ()) (.inr ()) hl.symm (by omega) (fun i x y hi hx hy=>by
   unfold Kz
   obtain ⟨i1,e1⟩:=Zyq hi
   obtain ⟨i2,e2⟩:=Zyq (l:=Xa B b) (p:=fun x=>x == 0) (i:=i) (by omega)
   rw [e1] at hx
   rw [e2] at hy
   injection hx with hx
   injection hy with hy
   rw [Zd8 hi,cond_true,Zsw hA ha,Option.bind_some,Zsw hB hb,Option.bind_some,← Zm0 hA ha i1,← Zm0 hB hb i2,hx,hy]
   cases x != y <;> rfl) (by unfold Kz;rw [Zd7];rfl)]
  cases tr (fun x=>x == 0) (Xa A a) == tr (fun x=>x == 0) (Xa B b) <;> rfl
 rw [show (!((tr (fun x=>x == 0) (Xa B b)).length == (tr (fun x=>x == 0) (Xa A a)).length))=true by simp [hl],cond_true,Zxd (fun q=>hl q.symm)]
theorem Z79 (hw:WS A.segments) {r:Zd} {t:Tr} (h:Mn A r t):Zdm r=some (((tr (fun x=>x.Kind == 0) t.Kids).length:Int),0):=by
 have hl:=h.ln
 have hkn:=Ze8 h.ok
 have hloop:=Zz0 (R:=(Int×Int) ⊕ Unit) t.Kids (fun x=>x.Kind == 0) (Zby r) (fun n=>match n with | 0 => .inr () | n+1 => .inl (((n+1:Nat):Int),0)) rfl (fun n x hx hn=>by
  have e1:=h.er n x hx
  have e2:=(h.kid n x hx).kd
  unfold Zby
  rw [Ybf,cond_true,Yo (by omega) (by omega),show ((n+1:Nat):Int) - 1=(n:Int) by omega,Zts hw h.ok,Option.bind_some,e1,show ((0:Int) != 0)=false from rfl,cond_false,show Y8 (Xj A r n).1=some (Xj A r n).1.kind from rfl,Option.bind_some,cond_false,Option.bind_some,← e2]
  rcases Bool.eq_false_or_eq_true (x.Kind == 0) with q | q
  ·rw [show (x.Kind != 0)=false by unfold bne;rw [q];rfl,cond_false,if_pos q]
  rw [show (x.Kind != 0)=true by unfold bne;rw [q];rfl,cond_true,if_neg (by rw [q];decide)])
 unfold Zdm
 rw [Zpo,← hl,Option.bind_some,hloop]
 cases (tr (fun x=>x.Kind == 0) t.Kids).length <;> rfl
def tk (t:Tr):List Tr:=if t.Kind=1 then tr (fun x=>x.Kind == 0) t.Kids else t.Kids
theorem Z2e (t:Tr) {i:Nat} {x:Tr} (h:(tk t)[i]? = some x):t.Kids[i]? = some x:=by
 unfold tk at h
 split at h
 ·rw [← Zys,List.getElem?_take] at h
  split at h
  ·exact h
  cases h
 exact h
theorem Zyo {t x:Tr} (h:x∈tk t):x∈t.Kids:=by
 unfold tk at h
 split at h
 ·exact Zol h
 exact h
theorem Z6x (t:Tr):ndl (tk t)+1≤nd t:=by
 rw [Zt6]
 unfold ndl tk
 split
 ·have:=Z75 (fun x:Tr=>x.Kind == 0) nd t.Kids
  omega
 omega
theorem Zs8 (hw:WS A.segments) {r:Zd} {t:Tr} (h:Mn A r t):U9 r=some (((tk t).length:Int),0):=by
 have hk:=h.kd
 unfold U9 tk
 rw [show Y8 r=some r.kind from rfl,Option.bind_some,← hk]
 by_cases h1:t.Kind=1
 ·rw [show (t.Kind != 1)=false from by rw [h1];rfl,cond_false,Z79 hw h,if_pos h1]
  rfl
 rw [show (t.Kind != 1)=true from bne_iff_ne.2 h1,cond_true,Zpo,if_neg h1,h.ln]
 rfl
def eqv (t u:Tr):Bool:=eqT (nrm t) (nrm u)
theorem Z50 {t u:Tr} (h:t.Kind≠u.Kind):eqv t u=false:=by
 unfold eqv
 rw [Ztb,Vt,Vt,beq_eq_false_iff_ne.2 h]
 rfl
theorem Mn.w0 {r:Zd} {t:Tr} (h:Mn A r t) (h1:t.Kind≠1) (h10:t.Kind≠10):t.Words=[]:=by
 rw [h.wd]
 unfold Xa
 rw [← h.kd,if_neg h10,if_neg h1]
theorem Mn.w1 {r:Zd} {t:Tr} (h:Mn A r t) (h10:t.Kind=10):∃ x,t.Words=[x]:=by
 rw [h.wd]
 unfold Xa
 rw [← h.kd,if_pos h10]
 exact ⟨_,rfl⟩
theorem Mn.k0 {r:Zd} {t:Tr} (h:Mn A r t) (h0:t.Kind=0):t.Kids=[]:=by
 have hl:=h.ln
 have hz:Yk r=0:=by
  have hk:=h.kd
  have hr:=h.ok
  cases hr with
  | z=>rfl
  | st=>simp at hk;omega
  | li k s a n hk'=>simp only at hk;omega
  | co=>simp at hk;omega
  | at_=>simp at hk;omega
 exact List.eq_nil_of_length_eq_zero (by omega)
theorem Yb3 (x y:Int):(tr (fun x=>x == 0) [x] == tr (fun x=>x == 0) [y])=([x] == [y]):=by
 have e:∀ x:Int,tr (fun x=>x == 0) [x]=if x=0 then [] else [x]:=fun x=>by
  rw [Zj6 (l:=[]) rfl]
  simp only [beq_iff_eq]
 rw [e,e]
 by_cases hx:x=0
 ·by_cases hy:y=0
  ·rw [if_pos hx,if_pos hy,hx,hy];rfl
  rw [if_pos hx,if_neg hy,hx]
  rw [Bool.eq_iff_iff,beq_iff_eq,beq_iff_eq]
  exact ⟨fun q=>by (cases q),fun q=>by injection q with q;exact absurd q.symm hy⟩
 by_cases hy:y=0
 ·rw [if_neg hx,if_pos hy,hy]
  rw [Bool.eq_iff_iff,beq_iff_eq,beq_iff_eq]
  exact ⟨fun q=>by (cases q),fun q=>by injection q with q;exact absurd q hx⟩
 rw [if_neg hx,if_neg hy]
theorem Yba {a b:Zd} {t u:Tr} (ha:Mn A a t) (hb:Mn B b u) (hk:t.Kind=u.Kind):eqv t u=((tr (fun x=>x == 0) t.Words == tr (fun x=>x == 0) u.Words) && eqL ((tk t).map nrm) ((tk u).map nrm)):=by
 unfold eqv
 rw [Ztb,Vt,Vt,beq_iff_eq.2 hk,Bool.true_and]
 by_cases h0:t.Kind=0
 ·have h0':u.Kind=0:=hk ▸ h0
  rw [Zpa h0,Zpa h0',ha.w0 (by omega) (by omega),hb.w0 (by omega) (by omega)]
  unfold tk
  rw [if_neg (by omega),if_neg (by omega),ha.k0 h0,hb.k0 h0']
  rfl
 by_cases h1:t.Kind=1
 ·have h1':u.Kind=1:=hk ▸ h1
  have q1:∀ l:List Tr,tr (fun x:Tr=>x.Kind == 0) (l.map nrm)=(tr (fun x:Tr=>x.Kind == 0) l).map nrm:=Zyr (fun x=>by rw [Vt])
  rw [G5 h1,G5 h1']
  unfold tk
  rw [if_pos h1,if_pos h1',q1,q1]
 have h0':¬ u.Kind=0:=fun q=>h0 (hk.trans q)
 have h1':¬ u.Kind=1:=fun q=>h1 (hk.trans q)
 rw [G4 h0 h1,G4 h0' h1']
 unfold tk
 rw [if_neg h1,if_neg h1']
 by_cases h10:t.Kind=10
 ·obtain ⟨x,ex⟩:=ha.w1 h10
  obtain ⟨y,ey⟩:=hb.w1 (hk ▸ h10)
  rw [ex,ey,Yb3]
 rw [ha.w0 h1 h10,hb.w0 h1' (fun q=>h10 (hk.trans q))]
 rfl
end
section
variable {A B:Zr}
theorem Zzd (hA:WS A.segments) (hB:WS B.segments) {F:Zs→Zd→Zd→Option (Bool×Int×Zs)} {a b:Zd} (ha:OKr A a) (hb:OKr B b) {n:Nat} (hn:n≤1073741824) :
  ∀ (ks ls:List Tr) (i:Nat) (c:Int),n=i+ks.length→ks.length=ls.length→(∀ (j:Nat) x,ks[j]? = some x→(Xj A a ((i+j:Nat):Int)).2=0∧Mn A (Xj A a ((i+j:Nat):Int)).1 x)→(∀ (j:Nat) x,ls[j]? = some x→(Xj B b ((i+j:Nat):Int)).2=0∧Mn B (Xj B b ((i+j:Nat):Int)).1 x) →
   (∀ x∈ks,∀ p q y (c:Int),Mn A p x→Mn B q y→(nd x:Int)≤c→c≤70000→∃ c',F ⟨c⟩ p q=some (eqv x y,0,⟨c'⟩)∧c - nd x≤c'∧c'≤c)→(ndl ks:Int)≤c→c≤70000 →
   ∃ c',Z6 (Yy F a b (n:Int)) ((i:Int),c)=some (if eqL (ks.map nrm) (ls.map nrm)=true then .inr c' else .inl (0,c'))∧c - ndl ks≤c'∧c'≤c
 | [],[],i,c,hi,_,_,_,_,hc,hc2=>by
  refine ⟨c,?_,by omega,Int.le_refl _⟩
  refine Yr ?_
  unfold Yy
  simp only [List.length_nil,Nat.add_zero] at hi
  subst hi
  simp only
  rw [Zd7,cond_false]
  rfl
 | [],y::ls,i,c,hi,hl,_,_,_,hc,hc2=>by simp at hl
 | x::ks,[],i,c,hi,hl,_,_,_,hc,hc2=>by simp at hl
 | x::ks,y::ls,i,c,hi,hl,hk,hk',ih,hc,hc2=>by
  obtain ⟨a1,a2⟩:=hk 0 x rfl
  obtain ⟨b1,b2⟩:=hk' 0 y rfl
  rw [Nat.add_zero] at a1 a2 b1 b2
  have hnd:(ndl (x::ks):Int)=nd x+ndl ks:=by unfold ndl;rw [List.map_cons,List.sum_cons];omega
  rw [hnd] at hc ⊢
  obtain ⟨c1,e1,l1,l2⟩:=ih x (.head _) _ _ y c a2 b2 (by omega) hc2
  simp only [List.length_cons] at hi hl
  have hs:Yy F a b (n:Int) ((i:Int),c)=some (if eqv x y=true then .inl (((i+1:Nat):Int),c1) else .inr (.inl (0,c1))):=by
   unfold Yy
   simp only
   rw [Zd8 (by omega),cond_true,Zts hA ha,Option.bind_some,a1,show ((0:Int) != 0)=false from rfl,cond_false,Zts hB hb,Option.bind_some,b1,show ((0:Int) != 0)=false from rfl,cond_false,e1,Option.bind_some]
   simp only
   rw [show ((0:Int) != 0)=false from rfl,Yo (by omega) (by omega)]
   cases eqv x y <;> rfl
  rw [List.map_cons,List.map_cons,Zta]
  by_cases q:eqv x y=true
  ·rw [if_pos q] at hs
   rw [Xc hs]
   obtain ⟨c',f1,f2,f3⟩:=Zzd hA hB ha hb hn ks ls (i+1) c1 (by omega) (by omega) (fun j x hx=>by
    have:=hk (j+1) x hx
    rw [show i+1+j=i+(j+1) by omega]
    exact this) (fun j x hx=>by
    have:=hk' (j+1) x hx
    rw [show i+1+j=i+(j+1) by omega]
    exact this) (fun z hz=>ih z (.tail _ hz)) (by omega) (by omega)
   refine ⟨c',?_,by omega,by omega⟩
   rw [f1,show eqT (nrm x) (nrm y)=true from q,Bool.true_and]
  rw [if_neg q] at hs
  have hndl:0≤(ndl ks:Int):=by omega
  refine ⟨c1,?_,by omega,l2⟩
  rw [Yr hs,show eqT (nrm x) (nrm y)=false from by unfold eqv at q;simpa using q,Bool.false_and,if_neg (by decide)]
theorem Z1s (t:Tr):1≤nd t:=by rw [Zt6];omega
theorem Z98 (hA:WS A.segments) (hB:WS B.segments):∀ (K:Nat),(∀ a b t u (c:Int),Mn A a t→Mn B b u→2 * SizeOf.sizeOf t+1 < K→(nd t:Int)≤c→c≤70000→∃ c',(Z5 K).1 ⟨c⟩ a b=some (eqv t u,0,⟨c'⟩)∧c - nd t≤c'∧c'≤c) ∧
  (∀ a b t u (c:Int),Mn A a t→Mn B b u→2 * SizeOf.sizeOf t < K→(tk t).length=(tk u).length→(ndl (tk t):Int)≤c→c≤70000→∃ c',(Z5 K).2 ⟨c⟩ a b ((tk t).length:Int)=some (eqL ((tk t).map nrm) ((tk u).map nrm),0,⟨c'⟩)∧c - ndl (tk t)≤c'∧c'≤c)
 | 0=>⟨fun a b t u c _ _ h=>by omega,fun a b t u c _ _ h=>by omega⟩
 | K+1=>by
  obtain ⟨i1,i2⟩:=Z98 hA hB K
  refine ⟨fun a b t u c ha hb hK hc hc2 => ?_,fun a b t u c ha hb hK hl hc hc2 => ?_⟩
  ·show ∃ c',Xn (Z5 K).1 (Z5 K).2 ⟨c⟩ a b=_∧_
   have hp:=Z1s t
   have hp2:=Z6x t
   unfold Xn
   simp only
   rw [Vb (show ¬ c=0 by omega),cond_false,show Y8 a=some a.kind from rfl,show Y8 b=some b.kind from rfl,Option.bind_some,Option.bind_some,← ha.kd,← hb.kd,Yo (x:=c - 1) (by omega) (by omega),Zym hA hB ha.ok hb.ok]
   by_cases hk:t.Kind=u.Kind
   ·rw [show (t.Kind != u.Kind)=false from bne_eq_false_iff_eq.2 hk,cond_false,Option.bind_some,cond_false,Option.bind_some,Yba ha hb hk,← ha.wd,← hb.wd]
    cases hw:tr (fun x=>x == 0) t.Words == tr (fun x=>x == 0) u.Words with
    | false=>exact ⟨c - 1,rfl,by omega,by omega⟩
    | true =>
     simp only [Bool.not_true,cond_false,Bool.true_and]
     rw [Zs8 hA ha,Option.bind_some]
     simp only
     rw [show ((0:Int) != 0)=false from rfl,cond_false,Zs8 hB hb,Option.bind_some]
     simp only
     rw [show ((0:Int) != 0)=false from rfl,cond_false,Ztw]
     by_cases hl:(tk t).length=(tk u).length
     ·rw [show (!((tk t).length == (tk u).length))=false by simp [hl],cond_false]
      obtain ⟨c',e1,e2,e3⟩:=i2 a b t u (c - 1) ha hb (by omega) hl (by omega) (by omega)
      refine ⟨c',?_,by omega,by omega⟩
      rw [e1]
      rfl
     rw [show (!((tk t).length == (tk u).length))=true by simp [hl],cond_true,Zxf _ _ (by simpa using hl)]
     exact ⟨c - 1,rfl,by omega,by omega⟩
   rw [bne_iff_ne.2 hk,cond_true,Option.bind_some,cond_true,Z50 hk]
   exact ⟨c - 1,rfl,by omega,by omega⟩
  show ∃ c',Yz (Z5 K).1 (Z5 K).2 ⟨c⟩ a b _=_∧_
  have hkn:=Ze8 ha.ok
  have hln:=ha.ln
  have htk:(tk t).length≤t.Kids.length:=by
   unfold tk
   split
   ·exact Zc7 _ _
   exact Nat.le_refl _
  obtain ⟨c',e1,e2,e3⟩:=Zzd hA hB (F:=(Z5 K).1) ha.ok hb.ok (n:=(tk t).length) (by omega) (tk t) (tk u) 0 c (by omega) hl (fun j x hx=>by
   have:=Z2e t hx
   rw [Nat.zero_add]
   exact ⟨ha.er j x this,ha.kid j x this⟩) (fun j x hx=>by
   have:=Z2e u hx
   rw [Nat.zero_add]
   exact ⟨hb.er j x this,hb.kid j x this⟩) (fun x hx p q y c hp hq h1 h2=>i1 p q x y c hp hq (by have:=Ka (Zyo hx);omega) h1 h2) hc hc2
  unfold Yz
  rw [show (((0:Nat)):Int)=0 from rfl] at e1
  refine ⟨c',?_,e2,e3⟩
  simp only
  rw [e1]
  cases eqL ((tk t).map nrm) ((tk u).map nrm) <;> rfl
theorem Z2t:∀ (k:Nat),LE3 (Z5 k).1 (Z5 (k+1)).1∧∀ x y z w r,(Z5 k).2 x y z w=some r→(Z5 (k+1)).2 x y z w=some r
 | 0=>⟨fun x y z r h=>(by cases h),fun x y z w r h=>(by cases h)⟩
 | k+1=>by
  obtain ⟨i1,i2⟩:=Z2t k
  refine ⟨fun x y z r h => ?_,fun x y z w r h => ?_⟩
  ·have h':Xn (Z5 k).1 (Z5 k).2 x y z=some r:=h
   show Xn (Z5 (k+1)).1 (Z5 (k+1)).2 x y z=some r
   unfold Xn at h' ⊢
   refine Zbp _ (fun _ h=>h) (fun r h=>Um (fun _ h=>h) (fun z r h=>Zbp _ (fun _ h=>h) (fun r h=>Um (fun _ h=>h) (fun z r h=>Zbp _ (fun _ h=>h) (fun r h=>Um (fun _ h=>h) (fun z r h=>Zbp _ (fun _ h=>h) (fun r h=>Um (fun z h=>i2 _ _ _ _ _ h) (fun _ _ h=>h) h) r h) h) r h) h) r h) h) r h'
  have h':Yz (Z5 k).1 (Z5 k).2 x y z w=some r:=h
  show Yz (Z5 (k+1)).1 (Z5 (k+1)).2 x y z w=some r
  unfold Yz at h' ⊢
  refine Um (fun q h=>Zum (fun s q h => ?_) h) (fun _ _ h=>h) h'
  unfold Yy at h ⊢
  refine Zbp _ (fun r h=>Um (fun _ h=>h) (fun z r h=>Zbp _ (fun _ h=>h) (fun r h=>Um (fun _ h=>h) (fun z r h=>Zbp _ (fun _ h=>h) (fun r h=>Um (fun q h=>i1 _ _ _ _ h) (fun _ _ h=>h) h) r h) h) r h) h) (fun _ h=>h) q h
theorem Z7x (hA:WS A.segments) (hB:WS B.segments) {a b:Zd} {t u:Tr} (ha:Mn A a t) (hb:Mn B b u) (hn:(nd t:Int)≤65537):Gz a b=some (eqv t u,0):=by
 obtain ⟨c',e1,_⟩:=(Z98 hA hB (2 * SizeOf.sizeOf t+2)).1 a b t u 65537 ha hb (by omega) hn (by omega)
 have:Gl ⟨65537⟩ a b=some (eqv t u,0,⟨c'⟩):=Zzx (fun k r h=>(Z2t k).1 _ _ _ r h) e1
 unfold Gz
 rw [this]
 rfl
end
theorem Z2g {A:Zr} (hw:WS A.segments) (x:Yg) (h:(Zfr A x).2.2=0):Mn A (atR A 0 0).1 (Zfr A x).1∧(nd (Zfr A x).1:Int)≤65537:=by
 have hW:0≤(Ui x).Weight∧(Ui x).Weight≤65536:=Zjd _ _ (by decide)
 unfold Zfr at h ⊢
 by_cases h1:(atR A 0 0).2≠0
 ·rw [if_pos h1] at h;exact absurd h h1
 rw [if_neg h1] at h ⊢
 simp only at h ⊢
 by_cases hq:(Zdn A (Ui x).Depth.toNat (atR A 0 0).1 (Ui x).Weight).2.2≠0
 ·rw [if_pos hq] at h;exact absurd h hq
 rw [if_neg hq] at h ⊢
 obtain ⟨a1,a2,a3⟩:=Z8q hw (Ui x).Depth.toNat (atR A 0 0).1 (Ui x).Weight (Zpx 0 0) hW.1 (by omega)
 exact ⟨a1,by simp only;omega⟩
theorem Zzf (t:Tr):eqv t t=true:=Z5y _
theorem Zze (t u:Tr):eqv t u=eqv u t:=Z5x _ _
theorem Z51 {t u v:Tr} (h:eqv t u=true):eqv t v=eqv u v:=by
 unfold eqv at *
 rw [eqT_iff.1 h]
def mx (s n:Int):Int:=IntKind.u64.wrap (Zdl .u64 (IntKind.u64.wrap ((IntKind.u64.wrap (Zdl .u64 s n)) * 11400714819323198485)) (Int.fdiv (IntKind.u64.wrap ((IntKind.u64.wrap (Zdl .u64 s n)) * 11400714819323198485)) (2 ^ min (Int.toNat 32) 64)))
theorem Z1r (s c n:Int):Qn ⟨s,c⟩ n=some ⟨mx s n,c⟩:=rfl
noncomputable def hxN:Nat→Tr→Int→Int
 | 0,_,s=>s
 | k+1,t,s=>if t.Kind=0 then mx (mx (mx s (IntKind.u64.wrap 0)) (IntKind.u64.wrap ((0:Nat):Int))) (IntKind.u64.wrap ((0:Nat):Int))
  else (tk t).foldl (fun s x=>hxN k x s) ((tr (fun x=>x == 0) t.Words).foldl mx (mx (mx (mx s (IntKind.u64.wrap t.Kind)) (IntKind.u64.wrap ((tk t).length:Int))) (IntKind.u64.wrap ((tr (fun x=>x == 0) t.Words).length:Int))))
theorem Zzs (k:Nat) (t:Tr) (s:Int):hxN (k+1) t s=if t.Kind=0 then mx (mx (mx s (IntKind.u64.wrap 0)) (IntKind.u64.wrap ((0:Nat):Int))) (IntKind.u64.wrap ((0:Nat):Int))
  else (tk t).foldl (fun s x=>hxN k x s) ((tr (fun x=>x == 0) t.Words).foldl mx (mx (mx (mx s (IntKind.u64.wrap t.Kind)) (IntKind.u64.wrap ((tk t).length:Int))) (IntKind.u64.wrap ((tr (fun x=>x == 0) t.Words).length:Int)))):=by
 rw [hxN]
theorem Znx {α σ:Type} {f g:σ→α→σ}:∀ (l:List α) (s:σ),(∀ x∈l,∀ s,f s x=g s x)→l.foldl f s=l.foldl g s
 | [],_,_=>rfl
 | x::l,s,h=>by
  rw [List.foldl_cons,List.foldl_cons,h x (.head _)]
  exact Znx l _ fun y hy=>h y (.tail _ hy)
theorem Ztr:∀ (k k':Nat) (t:Tr) (s:Int),SizeOf.sizeOf t < k→SizeOf.sizeOf t < k'→hxN k t s=hxN k' t s
 | 0,_,_,_,h,_=>by omega
 | _+1,0,_,_,_,h=>by omega
 | k+1,k'+1,t,s,h,h'=>by
  unfold hxN
  split
  ·rfl
  exact Znx _ _ fun x hx s=>Ztr k k' x s (by have:=Ka (Zyo hx);omega) (by have:=Ka (Zyo hx);omega)
theorem Yb2 {t:Tr} (h0:¬ t.Kind=0):tk (nrm t)=(tk t).map nrm:=by
 unfold tk
 rw [Vt]
 by_cases h1:t.Kind=1
 ·rw [if_pos h1,if_pos h1,G5 h1]
  simp only
  rw [Z00]
  exact Zyr (p:=fun x:Tr=>x.Kind == 0) (q:=fun x:Tr=>x.Kind == 0) (f:=nrm) (fun x=>by simp only [Vt]) t.Kids
 rw [if_neg h1,if_neg h1,G4 h0 h1]
theorem Zxt:∀ (k:Nat) (t:Tr) (s:Int),hxN k (nrm t) s=hxN k t s
 | 0,_,_=>rfl
 | k+1,t,s=>by
  unfold hxN
  rw [Vt]
  by_cases h0:t.Kind=0
  ·rw [if_pos h0,if_pos h0]
  rw [if_neg h0,if_neg h0,Yb2 h0,List.length_map,List.foldl_map]
  have ew:tr (fun x=>x == 0) (nrm t).Words=tr (fun x=>x == 0) t.Words:=by
   by_cases h1:t.Kind=1
   ·rw [G5 h1]
    exact Z00 _
   rw [G4 h0 h1]
  rw [ew]
  exact Znx _ _ fun x _ s=>Zxt k x s
noncomputable def hx (t:Tr):Int:=hxN (SizeOf.sizeOf t+1) t 0
theorem Z6g {t u:Tr} (h:eqv t u=true):hx t=hx u:=by
 unfold eqv at h
 have e:=eqT_iff.1 h
 have a:=Zxt (SizeOf.sizeOf t+SizeOf.sizeOf u+1) t 0
 have b:=Zxt (SizeOf.sizeOf t+SizeOf.sizeOf u+1) u 0
 rw [e] at a
 unfold hx
 rw [Ztr (SizeOf.sizeOf t+1) (SizeOf.sizeOf t+SizeOf.sizeOf u+1) t 0 (by omega) (by omega),Ztr (SizeOf.sizeOf u+1) (SizeOf.sizeOf t+SizeOf.sizeOf u+1) u 0 (by omega) (by omega),← a,← b]
section
variable {A:Zr}
theorem Zrx {α σ:Type} (g:σ→α→σ):∀ (l:List α) (s:σ) (i:Nat),Zcf (fun s _ x=>g s x) s i l=l.foldl g s
 | [],_,_=>rfl
 | x::l,s,i=>Zrx g l (g s x) (i+1)
theorem Z4c (hw:WS A.segments) {r:Zd} {t:Tr} (h:Mn A r t) (s c:Int):Qe r ⟨s,c⟩=some ⟨(tr (fun x=>x == 0) t.Words).foldl mx (mx s (IntKind.u64.wrap ((tr (fun x=>x == 0) t.Words).length:Int))),c⟩:=by
 unfold Qe
 rw [Zty hw h.ok,Option.bind_some,Z1r,Option.bind_some,← h.wd]
 have hle:=Zc7 (fun x:Int=>x == 0) t.Words
 have hl2:t.Words.length≤65536:=by rw [h.wd];exact Zet h.ok
 have main:=(Zn6 (tr (fun x=>x == 0) t.Words) (fun i (s:Int)=>(i,s,c)) (fun s=>(s,c)) (Xt r ((tr (fun x=>x == 0) t.Words).length:Int)) (fun s _ x=>mx s x) (fun _ _=>True) (by omega) (fun i s x hi hx _ _=>by
  refine ⟨?_,trivial⟩
  obtain ⟨hj,he⟩:=Zyq (p:=fun x:Int=>x == 0) (l:=t.Words) hi
  have hj':i < (Xa A r).length:=by rw [← h.wd];exact hj
  have hwr:Zw8 A r (i:Int)=x:=by
   rw [← Zm0 hw h.ok hj']
   rw [hx] at he
   have h2:(Xa A r)[i]? = some x:=by rw [← h.wd,List.getElem?_eq_getElem hj];exact he.symm
   rw [List.getElem?_eq_getElem hj'] at h2
   exact Option.some.inj h2
  unfold Xt
  simp only
  rw [Zd8 hi,cond_true,Zsw hw h.ok,Option.bind_some,hwr,Z1r]
  rfl) (fun s _=>by
  unfold Xt
  simp only
  rw [Zd7,cond_false]) (mx s (IntKind.u64.wrap ((tr (fun x=>x == 0) t.Words).length:Int))) trivial).1
 simp only
 rw [main,Zrx mx]
 rfl
theorem Zto (hw:WS A.segments) {F:Z7→Zd→Option (Int×Z7)} {H:Tr→Int→Int} {r:Zd} {t:Tr} (h:Mn A r t)
  (hF:∀ x∈tk t,∀ (q:Zd) (s c:Int),Mn A q x→(nd x:Int)≤c→c≤70000→∃ c',F ⟨s,c⟩ q=some (0,⟨H x s,c'⟩)∧c - nd x≤c'∧c'≤c) (hn:(tk t).length≤1073741824) :
  ∀ (l pre:List Tr) (s c:Int),tk t=pre++l→(ndl l:Int)≤c→c≤70000→∃ c',Z6 (Jh F r (((tk t).length:Int),0)) (((pre.length:Nat):Int),s,c)=some (.inr (l.foldl (fun s x=>H x s) s,c'))∧c - ndl l≤c'∧c'≤c
 | [],pre,s,c,hp,_,_=>by
  rw [List.append_nil] at hp
  refine ⟨c,Yr ?_,by simp [ndl],Int.le_refl _⟩
  unfold Jh
  simp only
  rw [hp,Zd7,cond_false]
  rfl
 | x::l,pre,s,c,hp,hc,hc2=>by
  have hx:(tk t)[pre.length]? = some x:=by rw [hp,List.getElem?_append_right (Nat.le_refl _),Nat.sub_self];rfl
  have hi:pre.length < (tk t).length:=by rw [hp];simp
  have hsum:ndl (x::l)=nd x+ndl l:=by simp [ndl]
  have hxk:=Z2e t hx
  obtain ⟨c1,e1,e2,e3⟩:=hF x (List.mem_of_getElem? hx) _ s c (h.kid _ _ hxk) (by omega) hc2
  obtain ⟨c2,f1,f2,f3⟩:=Zto hw h hF hn l (pre++[x]) (H x s) c1 (by rw [hp];simp) (by omega) (by omega)
  rw [List.length_append,List.length_singleton] at f1
  refine ⟨c2,(Xc ?_).trans f1,by omega,by omega⟩
  unfold Jh
  simp only
  rw [Zd8 hi,cond_true,Zts hw h.ok,Option.bind_some,h.er _ _ hxk,show ((0:Int) != 0)=false from rfl,cond_false,e1,Option.bind_some]
  simp only
  rw [show ((0:Int) != 0)=false from rfl,cond_false,Yo (by omega) (by omega)]
  rfl
theorem Z8o (hw:WS A.segments):∀ (K:Nat) (t:Tr) (r:Zd) (s c:Int),Mn A r t→SizeOf.sizeOf t < K→(nd t:Int)≤c→c≤70000→∃ c',Ys K ⟨s,c⟩ r=some (0,⟨hxN K t s,c'⟩)∧c - nd t≤c'∧c'≤c:=fun K=>by
 induction K with
 | zero =>
  intro t r s c _ h _ _
  omega
 | succ K ih =>
  intro t r s c h hK hc hc2
  have hp:=Z1s t
  have htk:=Z6x t
  have hkn:=Ze8 h.ok
  have hln:=h.ln
  have htl:(tk t).length≤t.Kids.length:=by
   unfold tk
   split
   ·exact Zc7 _ _
   exact Nat.le_refl _
  show ∃ c',Xy (Ys K) ⟨s,c⟩ r=_∧_
  unfold Xy
  simp only
  obtain ⟨c',e1,e2,e3⟩:=Zto hw (F:=Ys K) (H:=fun x s=>hxN K x s) h (fun x hx q s c hq hc hc2=>ih x q s c hq (by have:=Ka (Zyo hx);omega) hc hc2) (by omega) (tk t) []
   ((tr (fun x=>x == 0) t.Words).foldl mx (mx (mx (mx s (IntKind.u64.wrap t.Kind)) (IntKind.u64.wrap ((tk t).length:Int))) (IntKind.u64.wrap ((tr (fun x=>x == 0) t.Words).length:Int)))) (c - 1) rfl (by omega) (by omega)
  rw [show (((([]:List Tr).length:Nat)):Int)=0 from rfl] at e1
  have eh:hxN (K+1) t s=(tk t).foldl (fun s x=>hxN K x s) ((tr (fun x=>x == 0) t.Words).foldl mx (mx (mx (mx s (IntKind.u64.wrap t.Kind)) (IntKind.u64.wrap ((tk t).length:Int))) (IntKind.u64.wrap ((tr (fun x=>x == 0) t.Words).length:Int)))):=by
   rw [Zzs]
   by_cases h0:t.Kind=0
   ·have k0:=h.k0 h0
    have w0:=h.w0 (by omega) (by omega)
    have tk0:tk t=[]:=by unfold tk;rw [if_neg (by omega),k0]
    rw [if_pos h0,tk0,w0,h0]
    simp only [tr,List.foldl_nil,List.length_nil]
   rw [if_neg h0]
  have hwo:=Z4c hw h
  have hM0:=Z1r
  rw [eh]
  clear eh ih
  obtain ⟨Y,hY⟩:∃ Y:Tr→Int→Int,(fun x s=>hxN K x s)=Y:=⟨_,rfl⟩
  rw [show (fun (s:Int) (x:Tr)=>hxN K x s)=fun s x=>Y x s from by rw [← hY]] at e1 ⊢
  obtain ⟨M,hM⟩:∃ M,Qn=M:=⟨_,rfl⟩
  obtain ⟨X,hX⟩:∃ X,mx=X:=⟨_,rfl⟩
  rw [hX] at e1 ⊢
  rw [hM] at hM0 ⊢
  rw [hX] at hM0 hwo
  clear hM hX hY
  rw [Vb (show ¬ c=0 by omega),cond_false,Zs8 hw h,Option.bind_some,show Y8 r=some r.kind from rfl]
  simp only [Option.bind_some]
  rw [show ((0:Int) != 0)=false from rfl,cond_false,Yo (x:=c - 1) (by omega) (by omega),hM0]
  simp only [Option.bind_some]
  rw [hM0]
  simp only [Option.bind_some]
  rw [hwo,← h.kd]
  simp only [Option.bind_some]
  rw [e1]
  exact ⟨c',rfl,by omega,by omega⟩
theorem Zvl:∀ (k:Nat) c r v,Ys k c r=some v→Ys (k+1) c r=some v
 | 0,c,r,v,h=>by cases h
 | k+1,c,r,v,h=>by
  have h':Xy (Ys k) c r=some v:=h
  show Xy (Ys (k+1)) c r=some v
  unfold Xy at h' ⊢
  refine Zbp _ (fun _ q=>q) (fun _=>Um (fun _ q=>q) fun y=>Zbp _ (fun _ q=>q) fun _=>Um (fun _ q=>q) fun u _=>Um (fun _ q=>q) fun w _=>Um (fun _ q=>q) fun z _=>Um (fun _ q=>q) fun a _=>Um (fun x=>Zum fun s y q => ?_) fun _ _ q=>q) v h'
  exact Zbp _ (fun _=>Um (fun _ q=>q) fun u=>Zbp _ (fun _ q=>q) fun _=>Um (fun x q=>Zvl k _ _ x q) fun _ _ q=>q) (fun _ q=>q) y q
theorem Z8p (hw:WS A.segments) {t:Tr} {r:Zd} (h:Mn A r t) (hn:(nd t:Int)≤65537):Zbz r=some (hx t,0):=by
 obtain ⟨c',e1,e2,e3⟩:=Z8o hw (SizeOf.sizeOf t+1) t r 0 65537 h (by omega) hn (by decide)
 have e:G0 ⟨0,65537⟩ r=some (0,⟨hx t,c'⟩):=Zzx (F:=fun k=>Ys k ⟨0,65537⟩ r) (fun k x=>Zvl k _ _ x) e1
 unfold Zbz
 rw [e,Option.bind_some]
 rfl
end
theorem Zj3 {R:Type} {step:Int→Option (Int ⊕ R)} {r:R} (p:Nat→Int) (m:Nat) (h1:∀ k,k < m→step (p k)=some (.inl (p (k+1)))) (h2:step (p m)=some (.inr r)):Z6 step (p 0)=some r:=by
 have key:∀ d k,k+d=m→Z6 step (p k)=some r:=fun d=>by
  induction d with
  | zero =>
   intro k hk
   have:k=m:=by omega
   subst this
   exact Yr h2
  | succ d ih =>
   intro k hk
   rw [Xc (h1 k (by omega))]
   exact ih (k+1) (by omega)
 exact key m 0 (by omega)
theorem Yae {p:Nat→Prop} (dp:∀ k,p k∨¬ p k):∀ n,p n→∃ m,m≤n∧p m∧∀ j,j < m→¬ p j:=fun n=>by
 induction n using Nat.strongRecOn with
 | ind n ih =>
  intro h
  by_cases q:∃ j,j < n∧p j
  ·obtain ⟨j,hj,pj⟩:=q
   obtain ⟨m,h1,h2,h3⟩:=ih j hj pj
   exact ⟨m,by omega,h2,h3⟩
  exact ⟨n,Nat.le_refl _,h,fun j hj pj=>q ⟨j,hj,pj⟩⟩
def pat (pl:List Int) (h:Int) (k:Nat):Int:=(pl[(h.toNat+k) % pl.length]?).getD 0
def nz (pl:List Int):Nat:=pl.countP fun x => !(x == 0)
structure PRt (hs:List Int) (pl:List Int):Prop where
 rng:∀ x∈pl,0≤x∧x≤hs.length
 fnd:∀ (i:Nat) (h:Int),hs[i]? = some h→∃ k,pat pl h k=(i:Int)+1∧∀ j,j < k→pat pl h j≠0
 cnt:nz pl≤hs.length
theorem Z83 {pl:List Int} (h:nz pl < pl.length):∃ q,q < pl.length∧pl[q]? = some 0:=by
 induction pl with
 | nil=>simp at h
 | cons x pl ih =>
  by_cases hx:x=0
  ·subst hx
   exact ⟨0,by simp,rfl⟩
  have e:nz (x::pl)=nz pl+1:=by
   unfold nz
   rw [List.countP_cons_of_pos (by simp [hx])]
  rw [e,List.length_cons] at h
  obtain ⟨q,h1,h2⟩:=ih (by omega)
  exact ⟨q+1,by rw [List.length_cons];omega,by simpa using h2⟩
theorem Z60:∀ (pl:List Int) (q:Nat) (v:Int),nz (pl.set q v)≤nz pl+1
 | [],q,v=>by simp [nz]
 | x::pl,0,v=>by
  unfold nz
  rw [List.set_cons_zero,List.countP_cons,List.countP_cons]
  split <;> split <;> omega
 | x::pl,q+1,v=>by
  have:=Z60 pl q v
  unfold nz at this ⊢
  rw [List.set_cons_succ,List.countP_cons,List.countP_cons]
  omega
theorem Z0k {hs pl:List Int} (hP:PRt hs pl) (hn:hs.length < pl.length) (h:Int):∃ Z,pat pl h Z=0∧∀ j,j < Z→pat pl h j≠0:=by
 obtain ⟨q,h1,h2⟩:=Z83 (pl:=pl) (by have:=hP.cnt;omega)
 obtain ⟨Z,_,h3,h4⟩:=Yae (p:=fun k=>pat pl h k=0) (fun k=>Decidable.em _) (q+(pl.length - h.toNat % pl.length)) (by
  have hm:=Nat.mod_lt h.toNat (show 0 < pl.length by omega)
  have e:(h.toNat+(q+(pl.length - h.toNat % pl.length))) % pl.length=q:=by
   have d:=Nat.div_add_mod h.toNat pl.length
   have:h.toNat+(q+(pl.length - h.toNat % pl.length))=q+pl.length * (h.toNat / pl.length+1):=by
    rw [Nat.mul_add,Nat.mul_one]
    omega
   rw [this,Nat.add_mul_mod_self_left,Nat.mod_eq_of_lt h1]
  unfold pat
  rw [e,h2]
  rfl)
 exact ⟨Z,h3,h4⟩
theorem Zle {pl:List Int} (hp:0 < pl.length) (h:Int) (k:Nat):pl[(h.toNat+k) % pl.length]? = some (pat pl h k):=by
 have:=List.getElem?_eq_getElem (Nat.mod_lt (h.toNat+k) hp) (l:=pl)
 unfold pat
 rw [this]
 rfl
theorem Zsq {pl:List Int} (hp:0 < pl.length) (h g:Int) (k Z:Nat) (v:Int):pat (pl.set ((g.toNat+Z) % pl.length) v) h k=if (h.toNat+k) % pl.length=(g.toNat+Z) % pl.length then v else pat pl h k:=by
 unfold pat
 rw [List.length_set,List.getElem?_set]
 by_cases e:(g.toNat+Z) % pl.length=(h.toNat+k) % pl.length
 ·rw [if_pos e,if_pos e.symm,if_pos (Nat.mod_lt _ hp)]
  rfl
 rw [if_neg e,if_neg (fun q=>e q.symm)]
theorem PRt.push {hs pl:List Int} (hP:PRt hs pl) (hp:0 < pl.length) {g:Int} {Z:Nat} (hz:pat pl g Z=0) (hl:∀ j,j < Z→pat pl g j≠0):PRt (hs++[g]) (pl.set ((g.toNat+Z) % pl.length) ((hs.length:Int)+1)):=by
 refine ⟨fun x hx => ?_,fun i h hi => ?_,?_⟩
 ·rw [List.length_append,List.length_singleton]
  rcases List.mem_or_eq_of_mem_set hx with q | q
  ·have:=hP.rng x q
   omega
  omega
 ·by_cases hlt:i < hs.length
  ·rw [List.getElem?_append_left hlt] at hi
   obtain ⟨k,h1,h2⟩:=hP.fnd i h hi
   have far:∀ j,pat pl h j≠0→¬ (h.toNat+j) % pl.length=(g.toNat+Z) % pl.length:=fun j hj e=>by
    unfold pat at hz hj
    rw [e] at hj
    exact hj hz
   refine ⟨k,?_,fun j hj => ?_⟩
   ·rw [Zsq hp,if_neg (far k (by omega))]
    exact h1
   rw [Zsq hp,if_neg (far j (h2 j hj))]
   exact h2 j hj
  rw [List.getElem?_append_right (by omega)] at hi
  have hi0:i - hs.length=0:=by
   rcases Nat.eq_zero_or_pos (i - hs.length) with q | q
   ·exact q
   rw [List.getElem?_eq_none (by simp;omega)] at hi
   cases hi
  rw [hi0] at hi
  have hg:g=h:=by simpa using hi
  subst hg
  refine ⟨Z,?_,fun j hj => ?_⟩
  ·rw [Zsq hp,if_pos rfl]
   omega
  rw [Zsq hp]
  split
  ·omega
  exact hl j hj
 have:=Z60 pl ((g.toNat+Z) % pl.length) ((hs.length:Int)+1)
 have:=hP.cnt
 rw [List.length_append,List.length_singleton]
 omega
theorem PRt.empty (P:Nat):PRt [] (List.replicate P 0):=by
 refine ⟨fun x hx => ?_,fun i h hi=>by simp at hi,?_⟩
 ·rw [(List.mem_replicate.1 hx).2]
  simp
 unfold nz
 rw [List.countP_replicate]
 simp
theorem Ybo (s n:Int):0≤mx s n∧mx s n < 18446744073709551616:=by
 unfold mx
 generalize Zdl _ _ _=z
 exact ⟨Int.emod_nonneg _ (by decide),Int.emod_lt_of_pos _ (by decide)⟩
theorem Zxk {α:Type} {f:Int→α→Int} (hf:∀ s x,(0≤s∧s < 18446744073709551616)→0≤f s x∧f s x < 18446744073709551616):∀ (l:List α) (s:Int),(0≤s∧s < 18446744073709551616)→0≤l.foldl f s∧l.foldl f s < 18446744073709551616
 | [],_,h=>h
 | x::l,s,h=>Zxk hf l _ (hf s x h)
theorem Yab:∀ (k:Nat) (t:Tr) (s:Int),(0≤s∧s < 18446744073709551616)→0≤hxN k t s∧hxN k t s < 18446744073709551616
 | 0,_,_,h=>h
 | k+1,t,s,h=>by
  rw [Zzs]
  split
  ·exact Ybo _ _
  exact Zxk (fun s x hs=>Yab k x s hs) _ _ (Zxk (fun s x _=>Ybo s x) _ _ (Ybo _ _))
theorem Ycg (t:Tr):0≤hx t∧hx t < 18446744073709551616:=Yab _ t 0 (by decide)
theorem Zzg {cl:List Zu} {pl:List Int} {h:Int} (hp:0 < pl.length) (hl:pl.length≤1000000000) (hh:0≤h):Qo (some ⟨cl,pl⟩) h=some (((h.toNat+0) % pl.length:Nat):Int):=by
 have e:IntKind.u64.wrap (pl.length:Int)=(pl.length:Int):=IntWalk.u64_in _ (by omega)
 have hm:=Nat.mod_lt h.toNat hp
 unfold Qo
 rw [Option.bind_some]
 simp only
 rw [e]
 unfold Y7
 rw [if_pos (by omega),Option.bind_some,Int.tmod_eq_emod_of_nonneg hh,Nat.add_zero]
 have:h % (pl.length:Int)=((h.toNat % pl.length:Nat):Int):=by
  rw [Int.natCast_emod,Int.toNat_of_nonneg hh]
 rw [this,Yo (by omega) (by omega)]
theorem Z24 {cl:List Zu} {pl:List Int} {h:Int} (hp:0 < pl.length) (hl:pl.length≤1000000000) (k:Nat):J7 (some ⟨cl,pl⟩) (((h.toNat+k) % pl.length:Nat):Int)=some (((h.toNat+(k+1)) % pl.length:Nat):Int):=by
 have hm:=Nat.mod_lt (h.toNat+k) hp
 unfold J7
 rw [Option.bind_some]
 simp only
 unfold Y7
 rw [if_pos (by omega),Option.bind_some,Yo (by omega) (by omega)]
 have:((((h.toNat+k) % pl.length:Nat):Int)+1)=((((h.toNat+k) % pl.length+1:Nat)):Int):=by omega
 rw [this,Int.tmod_eq_emod_of_nonneg (by omega),← Int.natCast_emod]
 congr 2
 rw [Nat.add_mod,Nat.mod_mod,← Nat.add_mod,Nat.add_assoc]
theorem Z6e {cl:List Zu} {pl:List Int} (hh:∀ m∈cl,0≤m.hash) (hc:cl.length≤1000000) (hp:pl.length≤4000016) (hb:2 * cl.length≤pl.length+1):∃ pl',J6 ⟨cl,pl⟩=some ⟨cl,pl'⟩∧PRt (cl.map (·.hash)) pl'∧pl'.length=(if 16 < 2 * pl.length then 2 * pl.length else 16):=by
 obtain ⟨P,hP⟩:∃ P,P=if 16 < 2 * pl.length then 2 * pl.length else 16:=⟨_,rfl⟩
 have hP1:2 * cl.length < P:=by rw [hP];split <;> omega
 have hP2:P≤8000032:=by rw [hP];split <;> omega
 have e:(if 16 < (IntKind.i64.wrap (2 * (pl.length:Int))) then (IntKind.i64.wrap (2 * (pl.length:Int))) else 16)=(P:Int):=by
  rw [Yo (by omega) (by omega),hP]
  split <;> split <;> omega
 have loop:=Zn6 cl (fun i (s:List Int)=>(i,s)) (fun s=>s) (Jx ⟨cl,pl⟩) (fun s i m=>s.set ((m.hash.toNat+(Classical.choose (p:=fun Z=>∀ hs,PRt hs s→hs.length < s.length→pat s m.hash Z=0∧∀ j,j < Z→pat s m.hash j≠0) (by
   by_cases q:∃ hs,PRt hs s∧hs.length < s.length
   ·obtain ⟨hs,h1,h2⟩:=q
    obtain ⟨Z,h3,h4⟩:=Z0k h1 h2 m.hash
    exact ⟨Z,fun _ _ _=>⟨h3,h4⟩⟩
   exact ⟨0,fun hs h1 h2=>absurd ⟨hs,h1,h2⟩ q⟩))) % s.length) ((i:Int)+1)) (fun i s=>PRt ((cl.take i).map (·.hash)) s∧s.length=P) (by omega) (fun i s m hi hx hm hI=>by
  obtain ⟨i1,i2⟩:=hI
  have hlen:((cl.take i).map (·.hash)).length=i:=by rw [List.length_map,List.length_take];omega
  generalize hch:Classical.choose _=Z
  have hz:pat s m.hash Z=0∧∀ j,j < Z→pat s m.hash j≠0:=by
   rw [← hch]
   exact Classical.choose_spec (p:=fun Z=>∀ hs,PRt hs s→hs.length < s.length→pat s m.hash Z=0∧∀ j,j < Z→pat s m.hash j≠0) _ _ i1 (by omega)
  clear hch
  have sp:0 < s.length:=by omega
  have sl:s.length≤1000000000:=by omega
  refine ⟨?_,?_,by rw [List.length_set];exact i2⟩
  ·unfold Jx
   simp only
   rw [Zd8 hi,cond_true,Xh hx,Option.bind_some,Zzg sp sl (hh m hm),Option.bind_some]
   have inner:=Zj3 (step:=Jy ⟨cl,pl⟩ ((i:Int),s)) (fun k=>(((m.hash.toNat+k) % s.length:Nat):Int)) Z (r:=(((m.hash.toNat+Z) % s.length:Nat):Int)) (fun k hk=>by
    unfold Jy
    simp only
    rw [Xh (Zle sp m.hash k),Option.bind_some,bne_iff_ne.2 (hz.2 k hk),cond_true,Z24 sp sl k]
    rfl) (by
    unfold Jy
    simp only
    rw [Xh (Zle sp m.hash Z),Option.bind_some,hz.1]
    rfl)
   rw [inner,Option.bind_some,Xh (Zle sp m.hash Z),Option.bind_some,Yo (by omega) (by omega)]
   unfold Y5
   rw [Int.toNat_natCast]
  ·have:=i1.push sp hz.1 hz.2
   rw [hlen] at this
   rw [List.take_add_one,hx,List.map_append]
   exact this) (fun s _=>by
  unfold Jx
  simp only
  rw [Zd7,cond_false]) (List.replicate P 0) ⟨by simpa using PRt.empty P,by simp⟩
 obtain ⟨l1,l2,l3⟩:=loop
 refine ⟨_,?_,?_,l3.trans hP⟩
 ·unfold J6
  simp only
  rw [e,Zo8 (by omega) (by omega) (by omega),Option.bind_some,Int.toNat_natCast]
  rw [show ((0:Int),List.replicate P (0:Int))=(fun i (s:List Int)=>(i,s)) 0 (List.replicate P 0) from rfl,l1]
  rfl
 rw [List.take_length] at l2
 exact l2
def VT (r:Zd) (t:Tr):Prop:=∃ A:Zr,WS A.segments∧Mn A r t∧(nd t:Int)≤65537
def fi:List Tr→Tr→Nat
 | [],_=>0
 | u::l,t=>if eqv u t=true then 0 else fi l t+1
theorem Z54:∀ (l:List Tr) (t:Tr),fi l t≤l.length
 | [],_=>Nat.le_refl _
 | u::l,t=>by
  have:=Z54 l t
  unfold fi
  rw [List.length_cons]
  split <;> omega
theorem Z53:∀ {l:List Tr} {t:Tr},fi l t < l.length→∃ u,l[fi l t]? = some u∧eqv u t=true
 | [],_,h=>by simp at h
 | u::l,t,h=>by
  unfold fi at h ⊢
  by_cases q:eqv u t=true
  ·rw [if_pos q]
   exact ⟨u,rfl,q⟩
  rw [if_neg q,List.length_cons] at h
  rw [if_neg q]
  obtain ⟨v,h1,h2⟩:=Z53 (l:=l) (t:=t) (by omega)
  exact ⟨v,by simpa using h1,h2⟩
theorem Zxg:∀ {l:List Tr} {t:Tr} {j:Nat} {u:Tr},j < fi l t→l[j]? = some u→eqv u t=false
 | [],_,_,_,_,hu=>by simp at hu
 | v::l,t,j,u,h,hu=>by
  unfold fi at h
  by_cases q:eqv v t=true
  ·rw [if_pos q] at h;omega
  rw [if_neg q] at h
  cases j with
  | zero =>
   have:v=u:=by simpa using hu
   subst this
   simpa using q
  | succ j=>exact Zxg (l:=l) (t:=t) (j:=j) (by omega) (by simpa using hu)
def nxt (ts:List Tr) (t:Tr):List Tr:=if fi ts t < ts.length then ts else ts++[t]
structure TI (cl:List Zu) (pl:List Int) (ts:List Tr):Prop where
 len:cl.length=ts.length
 mem:∀ (i:Nat) (m:Zu) (t:Tr),cl[i]? = some m→ts[i]? = some t→VT m.r t∧m.hash=hx t
 dif:∀ (i j:Nat) (t u:Tr),i < j→ts[i]? = some t→ts[j]? = some u→eqv t u=false
 plc:PRt (cl.map (·.hash)) pl
 few:2 * cl.length≤pl.length+1
 siz:pl.length≤4 * cl.length+16
theorem TI.empty:TI [] [] []:=⟨rfl,fun i m t h=>by simp at h,fun i j t u _ h=>by simp at h,PRt.empty 0,by simp,by simp⟩
theorem TI.one {cl:List Zu} {pl:List Int} {ts:List Tr} (h:TI cl pl ts) {i j:Nat} {a b t:Tr} (ha:ts[i]? = some a) (hb:ts[j]? = some b) (e1:eqv a t=true) (e2:eqv b t=true):i=j:=by
 have e:eqv a b=true:=by rw [Z51 e1,Zze];exact e2
 rcases Nat.lt_trichotomy i j with q | q | q
 ·rw [h.dif i j a b q ha hb] at e;cases e
 ·exact q
 have:=h.dif j i b a q hb ha
 rw [Zze,e] at this
 cases this
theorem Z6t {m:Zu} {u:Tr} (hv:VT m.r u) (hh:m.hash=hx u) {r:Zd} {t:Tr} (hr:VT r t):K1 m ⟨hx t,r⟩=some (eqv u t,0):=by
 obtain ⟨A,a1,a2,a3⟩:=hv
 obtain ⟨B,b1,b2,b3⟩:=hr
 unfold K1
 simp only
 rw [hh]
 by_cases e:hx u=hx t
 ·rw [show (hx u != hx t)=false from by rw [e];simp,cond_false,Z7x a1 b1 a2 b2 a3]
  rfl
 rw [bne_iff_ne.2 e,cond_true]
 cases q:eqv u t with
 | false=>rfl
 | true=>exact absurd (Z6g q) e
theorem Z5v {cl:List Zu} {pl:List Int} {ts:List Tr} (hI:TI cl pl ts) {r:Zd} {t:Tr} (hv:VT r t) (hn:cl.length≤300000):∃ cl' pl',K0 ⟨cl,pl⟩ ⟨hx t,r⟩=some (((fi ts t:Nat):Int),0,(⟨cl',pl'⟩:Z3))∧TI cl' pl' (nxt ts t):=by
 have hsz:=hI.siz
 have hfw:=hI.few
 have hln:=hI.len
 have hhs:∀ m∈cl,0≤m.hash:=fun m hm=>by
  obtain ⟨i,hi⟩:=List.mem_iff_getElem?.1 hm
  have hlt:i < ts.length:=by
   rw [← hln]
   rcases Nat.lt_or_ge i cl.length with q | q
   ·exact q
   rw [List.getElem?_eq_none q] at hi;cases hi
  rw [(hI.mem i m ts[i] hi (List.getElem?_eq_getElem hlt)).2]
  exact (Ycg _).1
 obtain ⟨pl1,g1,g2,g3,g4⟩:∃ pl1,((cond (decide ((pl.length:Int)≤(IntKind.i64.wrap (2 * (cl.length:Int))))) ((J6 (⟨cl,pl⟩:Z3)).bind fun y2=>some (y2.classes,y2.places)) (some (cl,pl))):Option (List Zu×List Int))=some (cl,pl1)∧PRt (cl.map (·.hash)) pl1∧2 * cl.length < pl1.length∧pl1.length≤4 * cl.length+16:=by
  rw [Yo (by omega) (by omega)]
  by_cases q:pl.length≤2 * cl.length
  ·obtain ⟨pl',h1,h2,h3⟩:=Z6e (pl:=pl) hhs (by omega) (by omega) hfw
   rw [decide_eq_true (by omega:(pl.length:Int)≤2 * (cl.length:Int)),cond_true,h1]
   refine ⟨pl',rfl,h2,?_,?_⟩ <;> rw [h3] <;> split <;> omega
  rw [decide_eq_false (by omega:¬ (pl.length:Int)≤2 * (cl.length:Int)),cond_false]
  exact ⟨pl,rfl,hI.plc,by omega,hsz⟩
 have pp:0 < pl1.length:=by omega
 have ps:pl1.length≤1000000000:=by omega
 obtain ⟨Z,z1,z2⟩:=Z0k g2 (by rw [List.length_map];omega) (hx t)
 -- what is seen at a place that is not free
 have see:∀ k,pat pl1 (hx t) k≠0→∃ i u,pat pl1 (hx t) k=(i:Nat)+1∧ts[i]? = some u∧((eqv u t=true→Yv ⟨hx t,r⟩ (cl,pl1) ((((hx t).toNat+k) % pl1.length:Nat):Int)=some (.inr (.inl ((i:Nat),0))))∧(eqv u t=false→Yv ⟨hx t,r⟩ (cl,pl1) ((((hx t).toNat+k) % pl1.length:Nat):Int)=some (.inl ((((hx t).toNat+(k+1)) % pl1.length:Nat):Int)))):=fun k hk=>by
  have hm:=Zle pp (hx t) k
  have hr:=g2.rng _ (List.mem_of_getElem? hm)
  rw [List.length_map] at hr
  obtain ⟨i,hi,hlt⟩:∃ i:Nat,pat pl1 (hx t) k - 1=(i:Int)∧i < cl.length:=⟨(pat pl1 (hx t) k - 1).toNat,by omega,by omega⟩
  have hc:cl[i]? = some cl[i]:=List.getElem?_eq_getElem hlt
  have hu:ts[i]? = some (ts[i]'(by omega)):=List.getElem?_eq_getElem (by omega)
  obtain ⟨v1,v2⟩:=hI.mem _ _ _ hc hu
  have hs:=Z6t v1 v2 hv
  refine ⟨i,_,by omega,hu,fun e => ?_,fun e => ?_⟩
  ·unfold Yv
   simp only
   rw [Xh hm,Option.bind_some,bne_iff_ne.2 hk,cond_true,Option.bind_some,Yo (by omega) (by omega),hi,Xh hc,Option.bind_some,hs,Option.bind_some,e]
   rfl
  unfold Yv
  simp only
  rw [Xh hm,Option.bind_some,bne_iff_ne.2 hk,cond_true,Option.bind_some,Yo (by omega) (by omega),hi,Xh hc,Option.bind_some,hs,Option.bind_some,e]
  simp only
  rw [show ((0:Int) != 0)=false from rfl,cond_false,cond_false,Z24 pp ps k]
  rfl
 have start:Qo (some ⟨cl,pl1⟩) (hx t)=some ((fun k=>((((hx t).toNat+k) % pl1.length:Nat):Int)) 0):=Zzg pp ps (Ycg t).1
 unfold K0
 simp only
 rw [g1,Option.bind_some]
 simp only
 rw [start,Option.bind_some]
 by_cases found:fi ts t < ts.length
 ·obtain ⟨w,w1,w2⟩:=Z53 found
  have hlc:fi ts t < cl.length:=by omega
  have hc:cl[fi ts t]? = some cl[fi ts t]:=List.getElem?_eq_getElem hlc
  have hhash:(cl.map (·.hash))[fi ts t]? = some (hx t):=by
   rw [List.getElem?_map,hc]
   exact congrArg some ((hI.mem _ _ _ hc w1).2.trans (Z6g w2))
  obtain ⟨k0,k1,k2⟩:=g2.fnd _ _ hhash
  obtain ⟨m,m1,m2,m3⟩:=Yae (p:=fun k=>pat pl1 (hx t) k=((fi ts t:Nat):Int)+1) (fun k=>Decidable.em _) k0 k1
  have run:=Zj3 (step:=Yv ⟨hx t,r⟩ (cl,pl1)) (fun k=>((((hx t).toNat+k) % pl1.length:Nat):Int)) m (r := .inl (((fi ts t:Nat):Int),0)) (fun k hk=>by
   obtain ⟨i,u,s1,s2,_,s4⟩:=see k (k2 k (by omega))
   refine s4 ?_
   cases q:eqv u t with
   | false=>rfl
   | true =>
    have:=hI.one s2 w1 q w2
    rw [this] at s1
    exact absurd s1 (m3 k hk)) (by
   obtain ⟨i,u,s1,s2,s3,_⟩:=see m (by rw [m2];omega)
   have hi:i=fi ts t:=by omega
   subst hi
   rw [w1] at s2
   obtain rfl:=Option.some.inj s2
   exact s3 w2)
  rw [run,Option.bind_some]
  refine ⟨cl,pl1,rfl,?_⟩
  unfold nxt
  rw [if_pos found]
  exact ⟨hln,hI.mem,hI.dif,g2,by omega,g4⟩
 have hfi:fi ts t=ts.length:=by have:=Z54 ts t;omega
 have run:=Zj3 (step:=Yv ⟨hx t,r⟩ (cl,pl1)) (fun k=>((((hx t).toNat+k) % pl1.length:Nat):Int)) Z (r := .inr ((((hx t).toNat+Z) % pl1.length:Nat):Int)) (fun k hk=>by
  obtain ⟨i,u,s1,s2,_,s4⟩:=see k (z2 k hk)
  refine s4 (Zxg (l:=ts) (j:=i) ?_ s2)
  rw [hfi]
  rcases Nat.lt_or_ge i ts.length with q | q
  ·exact q
  ·rw [List.getElem?_eq_none q] at s2;cases s2) (by
  unfold Yv
  simp only
  rw [Xh (Zle pp (hx t) Z),Option.bind_some,z1]
  rfl)
 rw [run,Option.bind_some]
 simp only
 rw [Zag (by rw [List.length_singleton];omega) (by rw [List.length_singleton];omega),Option.bind_some,Xh (Zle pp (hx t) Z),Option.bind_some,List.length_append,List.length_singleton]
 have e1:IntKind.i64.wrap (((cl.length+1:Nat):Int) - 1)=((fi ts t:Nat):Int):=by rw [Yo (by omega) (by omega)];omega
 rw [e1]
 refine ⟨_,_,rfl,?_⟩
 unfold nxt
 rw [if_neg found]
 have hp:=g2.push pp z1 z2
 refine ⟨by rw [List.length_append,List.length_append,hln];rfl,fun i m u hm hu => ?_,fun i j a b hij ha hb => ?_,?_,?_,?_⟩
 ·by_cases q:i < cl.length
  ·rw [List.getElem?_append_left q] at hm
   rw [List.getElem?_append_left (by omega)] at hu
   exact hI.mem i m u hm hu
  rw [List.getElem?_append_right (by omega)] at hm hu
  rw [← hln] at hu
  have q0:i - cl.length=0:=by
   rcases Nat.eq_zero_or_pos (i - cl.length) with z | z
   ·exact z
   rw [List.getElem?_eq_none (by simp;omega)] at hm
   cases hm
  rw [q0] at hm hu
  have em:(⟨hx t,r⟩:Zu)=m:=by simpa using hm
  have eu:t=u:=by simpa using hu
  subst em eu
  exact ⟨hv,rfl⟩
 ·by_cases q:j < ts.length
  ·rw [List.getElem?_append_left q] at hb
   rw [List.getElem?_append_left (by omega)] at ha
   exact hI.dif i j a b hij ha hb
  rw [List.getElem?_append_right (by omega)] at hb
  have q0:j - ts.length=0:=by
   rcases Nat.eq_zero_or_pos (j - ts.length) with z | z
   ·exact z
   rw [List.getElem?_eq_none (by simp;omega)] at hb
   cases hb
  rw [q0] at hb
  have eb:t=b:=by simpa using hb
  subst eb
  rw [List.getElem?_append_left (by omega)] at ha
  exact Zxg (l:=ts) (j:=i) (by omega) ha
 ·unfold Y5
  rw [List.map_append,Int.toNat_natCast]
  rw [List.length_map] at hp
  exact hp
 ·unfold Y5
  rw [List.length_append,List.length_singleton,List.length_set]
  omega
 unfold Y5
 rw [List.length_append,List.length_singleton,List.length_set]
 omega
def Znw:List Tr→List Tr→List Tr
 | ts,[]=>ts
 | ts,t::l=>Znw (nxt ts t) l
def Znv:List Tr→List Tr→List Int
 | _,[]=>[]
 | ts,t::l=>((fi ts t:Nat):Int)::Znv (nxt ts t) l
theorem Zx5 (ts:List Tr) (t:Tr):(nxt ts t).length≤ts.length+1:=by
 unfold nxt
 split
 ·omega
 rw [List.length_append];exact Nat.le_refl _
theorem Z6i {ps:List (Zd×Tr)} (hv:∀ p∈ps,VT p.1 p.2) (hl:ps.length≤70000):∀ (l pre:List (Zd×Tr)) (out:List Int) (cl:List Zu) (pl:List Int) (ts:List Tr),ps=pre++l→TI cl pl ts→cl.length+l.length≤300000→out.length+l.length≤300000 →
  ∃ cl' pl',Z6 (Qx (ps.map fun p=>⟨hx p.2,p.1⟩)) ((pre.length:Nat),out,cl,pl)=some (.inr (out++Znv ts (l.map (·.2)),cl',pl'))∧TI cl' pl' (Znw ts (l.map (·.2)))
 | [],pre,out,cl,pl,ts,hp,hI,_,_=>by
  rw [List.append_nil] at hp
  refine ⟨cl,pl,Yr ?_,hI⟩
  unfold Qx
  simp only
  rw [List.length_map,hp,Zd7,cond_false]
  simp [Znv]
 | p::l,pre,out,cl,pl,ts,hp,hI,hc,ho=>by
  rw [List.length_cons] at hc ho
  have hx0:ps[pre.length]? = some p:=by rw [hp,List.getElem?_append_right (Nat.le_refl _),Nat.sub_self];rfl
  have hi:pre.length < ps.length:=by rw [hp];simp
  obtain ⟨cl1,pl1,c1,c2⟩:=Z5v hI (hv p (List.mem_of_getElem? hx0)) (by omega)
  have n1:cl1.length≤cl.length+1:=by
   rw [c2.len,hI.len]
   exact Zx5 _ _
  obtain ⟨cl2,pl2,r1,r2⟩:=Z6i hv hl l (pre++[p]) (out++[((fi ts p.2:Nat):Int)]) cl1 pl1 (nxt ts p.2) (by rw [hp];simp) c2 (by omega) (by rw [List.length_append,List.length_singleton];omega)
  rw [List.length_append,List.length_singleton] at r1
  refine ⟨cl2,pl2,(Xc ?_).trans (r1.trans ?_),r2⟩
  ·unfold Qx
   simp only
   rw [List.length_map,Zd8 hi,cond_true,Xh (x:=(⟨hx p.2,p.1⟩:Zu)) (by rw [List.getElem?_map,hx0];rfl),Option.bind_some,c1,Option.bind_some]
   simp only
   rw [show ((0:Int) != 0)=false from rfl,cond_false,Zag (by rw [List.length_singleton];omega) (by rw [List.length_singleton];omega),Option.bind_some,Yo (by omega) (by omega)]
   rfl
  rw [List.append_assoc]
  rfl
def kps (A:Zr) (r:Zd) (u:Tr):List (Zd×Tr):=u.Kids.zipIdx.map fun p=>((Xj A r (p.2:Int)).1,p.1)
theorem Zxx {A:Zr} {r:Zd} {u:Tr} {i:Nat} {x:Tr} (h:u.Kids[i]? = some x):(kps A r u)[i]? = some ((Xj A r (i:Int)).1,x):=by
 unfold kps
 rw [List.getElem?_map,List.getElem?_zipIdx,h,Nat.zero_add]
 rfl
theorem Zh8 (A:Zr) (r:Zd) (u:Tr):(kps A r u).length=u.Kids.length:=by
 unfold kps
 rw [List.length_map,List.length_zipIdx]
theorem Z8s (A:Zr) (r:Zd) (u:Tr):(kps A r u).map (·.2)=u.Kids:=by
 refine List.ext_getElem? fun i => ?_
 rw [List.getElem?_map]
 rcases Nat.lt_or_ge i u.Kids.length with q | q
 ·have hx:u.Kids[i]? = some u.Kids[i]:=List.getElem?_eq_getElem q
  rw [Zxx hx,hx]
  rfl
 rw [List.getElem?_eq_none q,List.getElem?_eq_none (by rw [Zh8];exact q)]
 rfl
theorem Z6v {t x:Tr} (h:x∈t.Kids):nd x≤nd t:=by
 have:=Z2v (f:=nd) h
 rw [Zt6 t]
 omega
theorem Z6j {A:Zr} (hw:WS A.segments) {r:Zd} {u:Tr} (hm:Mn A r u) (hn:(nd u:Int)≤65537):∀ p∈kps A r u,VT p.1 p.2:=fun p hp=>by
 obtain ⟨i,hi⟩:=List.mem_iff_getElem?.1 hp
 have hlt:i < u.Kids.length:=by
  rw [← Zh8 A r u]
  rcases Nat.lt_or_ge i (kps A r u).length with q | q
  ·exact q
  rw [List.getElem?_eq_none q] at hi;cases hi
 have hx:u.Kids[i]? = some u.Kids[i]:=List.getElem?_eq_getElem hlt
 rw [Zxx hx] at hi
 obtain rfl:=Option.some.inj hi
 exact ⟨A,hw,hm.kid _ _ hx,by have:=Z6v (List.mem_of_getElem? hx);simp only;omega⟩
theorem Zp3 {A:Zr} (hw:WS A.segments) {r:Zd} {u:Tr} (hm:Mn A r u) (hn:(nd u:Int)≤65537) (hk:u.Kids.length≤70000) {cl:List Zu} {pl:List Int} {ts:List Tr} (hI:TI cl pl ts) (hc:cl.length≤70000):∃ cl' pl',Q2 ⟨cl,pl⟩ r=some (Znv ts u.Kids,0,⟨cl',pl'⟩)∧TI cl' pl' (Znw ts u.Kids):=by
 have hl0:=Zn6 u.Kids (fun i (s:List Zu)=>(i,s)) (fun s=>(.inr s:Int ⊕ List Zu)) (Qw r (Yk r)) (fun s i x=>s++[(⟨hx x,(Xj A r (i:Int)).1⟩:Zu)]) (fun i s=>s=((kps A r u).take i).map fun p=>(⟨hx p.2,p.1⟩:Zu)) (by omega) (fun i s x hi hx0 hmem hs=>by
  have hkv:=Z6j hw hm hn _ (List.mem_of_getElem? (Zxx (A:=A) (r:=r) hx0))
  have hh:=Z8p hw (hm.kid _ _ hx0) (by have:=Z6v hmem;omega)
  have hlen:s.length≤70000:=by rw [hs,List.length_map,List.length_take,Zh8];omega
  refine ⟨?_,?_⟩
  ·unfold Qw
   simp only
   rw [← hm.ln,Zd8 hi,cond_true,Zts hw hm.ok,Option.bind_some,hm.er _ _ hx0,show ((0:Int) != 0)=false from rfl,cond_false,hh,Option.bind_some]
   simp only
   rw [show ((0:Int) != 0)=false from rfl,cond_false,Zag (by rw [List.length_singleton];omega) (by rw [List.length_singleton];omega),Option.bind_some]
  ·rw [hs,List.take_add_one,Zxx hx0,List.map_append]
   rfl) (fun s _=>by
  unfold Qw
  simp only
  rw [← hm.ln,Zd7,cond_false]) [] (by simp)
 obtain ⟨a1,a2⟩:=hl0
 rw [a2,← Zh8 A r u,List.take_length] at a1
 obtain ⟨cl',pl',b1,b2⟩:=Z6i (Z6j hw hm hn) (by rw [Zh8];exact hk) (kps A r u) [] [] cl pl ts rfl hI (by rw [Zh8];omega) (by rw [Zh8,List.length_nil];omega)
 rw [Z8s] at b1 b2
 refine ⟨cl',pl',?_,b2⟩
 unfold Q2
 simp only
 rw [Zpo,Option.bind_some]
 rw [show Z6 (Qw r (Yk r)) (0,([]:List Zu))=_ from a1,Option.bind_some]
 simp only
 rw [show Z6 (Qx ((kps A r u).map fun p=>⟨hx p.2,p.1⟩)) (0,([]:List Int),cl,pl)=_ from b1,Option.bind_some]
 rfl
theorem Zj4 {a b:List Int} (h:(a.length:Int)≤140737488355328):Xb a b=some (a == b):=by
 unfold Xb
 rw [Ztw]
 by_cases hl:a.length=b.length
 ·have:(a.length == b.length)=true:=by rw [beq_iff_eq];exact hl
  rw [this,Bool.not_true,cond_false,Zt2 a b _ (.inl ()) (.inr ()) hl h (fun i x y hi hx hy=>by
   unfold Kp
   rw [Zd8 hi,cond_true,Xh hx,Option.bind_some,Xh hy,Option.bind_some]
   cases x != y <;> rfl) (by unfold Kp;rw [Zd7,cond_false])]
  cases a == b <;> rfl
 have:(a.length == b.length)=false:=by rw [beq_eq_false_iff_ne];exact hl
 rw [this,Bool.not_false,cond_true,Zxd hl]
theorem Zqv {l:List (List Int)} (hw:WS l):Jv l=some (atR ⟨l,0,0⟩ 0 0).1:=by
 unfold Jv
 rw [Ya3 hw,Option.bind_some,Z9k (A:=⟨l,0,0⟩) hw,Option.bind_some]
def u16:Tr:=⟨4,[],[⟨10,[5],[]⟩,⟨10,[7],[]⟩,⟨10,[5],[]⟩]⟩
theorem unf16:(Zfr ⟨[[111669149697,329477]],0,0⟩ ⟨64,65536,0,0⟩).1=u16∧(Zfr ⟨[[111669149697,329477]],0,0⟩ ⟨64,65536,0,0⟩).2.2=0:=⟨rfl,rfl⟩
theorem Z5z:eqv ⟨10,[5],[]⟩ ⟨10,[7],[]⟩=false:=by
 unfold eqv
 rw [G4 (show ¬ (10:Int)=0 by decide) (show ¬ (10:Int)=1 by decide),G4 (show ¬ (10:Int)=0 by decide) (show ¬ (10:Int)=1 by decide),Ztb]
 rfl
theorem Ya6:Znv [] u16.Kids=[0,1,0]:=by simp [u16,Znv,nxt,fi,Z5z,Zzf]
theorem Ya7:(Znw [] u16.Kids).length=2:=by simp [u16,Znw,nxt,fi,Z5z,Zzf]
theorem Z30:Qm=some true:=by
 have hw:WS [[111669149697,329477]]:=Yb4 _ (by simp) (by simp)
 obtain ⟨hm,hn⟩:=Z2g (A:=⟨[[111669149697,329477]],0,0⟩) hw ⟨64,65536,0,0⟩ unf16.2
 rw [unf16.1] at hm hn
 obtain ⟨cl',pl',k1,k2⟩:=Zp3 (A:=⟨[[111669149697,329477]],0,0⟩) hw hm hn (by decide) TI.empty (by simp)
 rw [Ya6] at k1
 have hl:cl'.length=2:=by rw [k2.len,Ya7]
 unfold Qm
 rw [show Zam=some (⟨[],[]⟩:Z3) from rfl,Option.bind_some,Zqv hw,Option.bind_some]
 simp only
 rw [k1,Option.bind_some]
 simp only
 rw [Zj4 (by decide)]
 unfold Kk
 simp only [Option.isNone_some,cond_false,Option.bind_some]
 rw [hl]
 rfl
theorem Z4m {ts:List Tr} (hb:∀ t∈ts,Bd t) {t:Tr} (ht:Bd t) (hl:ts.length≤300000):Vs (ts.map nrm) t=some ((nxt ts t).map nrm,((fi ts t:Nat):Int)):=by
 have hle:=Z54 ts t
 have step:∀ (k:Nat) (u:Tr),ts[k]? = some u→Yw (ts.map nrm) (nrm t) (k:Int)=if eqv u t=true then some (.inr (.inl (k:Int))) else some (.inl ((k+1:Nat):Int)):=fun k u hu=>by
  have hk:k < ts.length:=by
   rcases Nat.lt_or_ge k ts.length with q | q
   ·exact q
   rw [List.getElem?_eq_none q] at hu;cases hu
  unfold Yw
  rw [List.length_map,Zd8 hk,cond_true,Xh (x:=nrm u) (by rw [List.getElem?_map,hu];rfl),Option.bind_some,Z9m (hb u (List.mem_of_getElem? hu)).nrm ht.nrm,Option.bind_some,Yo (by omega) (by omega)]
  show cond (eqv u t) _ _=_
  cases eqv u t <;> rfl
 unfold Vs
 rw [Z0v ht,Option.bind_some]
 have before:∀ k,k < fi ts t→Yw (ts.map nrm) (nrm t) (k:Int)=some (.inl ((k+1:Nat):Int)):=fun k hk=>by
  have hx:ts[k]? = some ts[k]:=List.getElem?_eq_getElem (by omega)
  rw [step k _ hx,Zxg hk hx]
  rfl
 unfold nxt
 by_cases found:fi ts t < ts.length
 ·obtain ⟨u,u1,u2⟩:=Z53 found
  have run:=Zj3 (step:=Yw (ts.map nrm) (nrm t)) (fun k=>(k:Int)) (fi ts t) (r := .inl ((fi ts t:Nat):Int)) before (by
   rw [step _ _ u1,if_pos u2])
  rw [show Z6 (Yw (ts.map nrm) (nrm t)) 0=_ from run,Option.bind_some,if_pos found]
 have e:fi ts t=ts.length:=by omega
 have run:=Zj3 (step:=Yw (ts.map nrm) (nrm t)) (fun k=>(k:Int)) (fi ts t) (r := .inr ()) before (by
  unfold Yw
  rw [e,List.length_map,Zd7,cond_false])
 rw [show Z6 (Yw (ts.map nrm) (nrm t)) 0=_ from run,Option.bind_some,if_neg found]
 simp only
 rw [Zag (by rw [List.length_map,List.length_singleton];omega) (by rw [List.length_map,List.length_singleton];omega),Option.bind_some,List.length_map,e,List.map_append]
 rfl
theorem Z27 {ts:List Tr} {t:Tr} {P:Tr→Prop} (h:∀ u∈ts,P u) (ht:P t):∀ u∈nxt ts t,P u:=fun u hu=>by
 unfold nxt at hu
 split at hu
 ·exact h u hu
 rcases List.mem_append.1 hu with q | q
 ·exact h u q
 rw [List.mem_singleton.1 q];exact ht
theorem Znm {kids:List Tr} (hk:∀ t∈kids,Bd t) (hl:kids.length≤70000):∀ (l pre ts:List Tr) (out:List Int),kids=pre++l→(∀ t∈ts,Bd t)→ts.length+l.length≤200000→out.length+l.length≤200000→Z6 (Qg kids) ((pre.length:Nat),ts.map nrm,out)=some ((Znw ts l).map nrm,out++Znv ts l)
 | [],pre,ts,out,hp,_,_,_=>by
  rw [List.append_nil] at hp
  refine Yr ?_
  unfold Qg
  simp only
  rw [hp,Zd7,cond_false]
  simp [Znv,Znw]
 | t::l,pre,ts,out,hp,hb,h1,h2=>by
  rw [List.length_cons] at h1 h2
  have hx:kids[pre.length]? = some t:=by rw [hp,List.getElem?_append_right (Nat.le_refl _),Nat.sub_self];rfl
  have hi:pre.length < kids.length:=by rw [hp];simp
  have bt:=hk t (List.mem_of_getElem? hx)
  have nl:=Zx5 ts t
  have r1:=Znm hk hl l (pre++[t]) (nxt ts t) (out++[((fi ts t:Nat):Int)]) (by rw [hp];simp) (Z27 hb bt) (by omega) (by rw [List.length_append,List.length_singleton];omega)
  rw [List.length_append,List.length_singleton] at r1
  refine (Xc ?_).trans (r1.trans ?_)
  ·unfold Qg
   simp only
   rw [Zd8 hi,cond_true,Xh hx,Option.bind_some,Z4m hb bt (by omega),Option.bind_some]
   simp only
   rw [Zag (by rw [List.length_singleton];omega) (by rw [List.length_singleton];omega),Option.bind_some,Yo (by omega) (by omega)]
   rfl
  rw [List.append_assoc]
  rfl
end Go.Proofs.Ytaddaloondpnkaa
