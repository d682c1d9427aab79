/- Plain facts on this seat's mirrors (part DP1); each theorem bears its own conditions. -/
import Derived.Test.YtpfbdlcnfekdkaaGreatDD
import Derived.Test.YtpfbdlcnfekdkaaGreatDE
import Derived.IntWalk
namespace Go.Proofs.YtpfbdlcnfekdkaaGreat
open Go.RowKit
set_option linter.unusedVariables false
set_option linter.unusedSimpArgs false
theorem X2 {a b:Int} (h:¬ a=b):(a == b)=false:=by simp [h]
def Zrn (w:Nat):Int:=if w / 4 % 1073741824 < 536870912 then ((w / 4 % 1073741824:Nat):Int) else ((w / 4 % 1073741824:Nat):Int) - 1073741824
def Zii (w:Nat):Zx :=
 if w=0 then ⟨0,0,0,0,0,0,0,false⟩
 else if w % 4=0 then ⟨1,Zrn w,(w / 4294967296 % 65536:Nat),(w / 281474976710656 % 65536:Nat),0,0,0,false⟩
 else if w % 4=1 then ⟨2,Zrn w,0,0,(w / 4294967296 % 8:Nat),(w / 34359738368 % 536870912:Nat),0,false⟩
 else if w % 4=2 then ⟨3,(w / 8 % 536870912:Nat),0,0,0,0,(w / 4294967296 % 4294967296:Nat),decide (w / 4 % 2=1)⟩
 else ⟨4,0,0,0,0,0,0,false⟩
theorem Z07 (b:Nat):((2:Int) ^ b)=((2 ^ b:Nat):Int):=by simp
theorem Zo7 (w f b:Nat) (hw:w < 18446744073709551616) (hf:f < 64) (hb:b≤40):Qo w f b=some ((w / 2 ^ f % 2 ^ b:Nat):Int):=by
 unfold Qo Xj
 rw [if_pos (Int.natCast_nonneg _),if_pos (Int.natCast_nonneg _)]
 simp only [Option.bind_some,Option.some.injEq]
 have hp:(2:Nat) ^ b≤1099511627776:=by have:=Nat.pow_le_pow_right (n:=2) (by decide) hb;simpa using this
 have h1:0 < (2:Nat) ^ b:=Nat.pow_pos (by decide)
 have e1:(min ((f:Int).toNat) 64)=f:=by omega
 have e2:(min ((b:Int).toNat) 64)=b:=by omega
 have hd:w / 2 ^ f < 18446744073709551616:=Nat.lt_of_le_of_lt (Nat.div_le_self _ _) hw
 have e3:((w:Int).fdiv ((2 ^ f:Nat):Int))=((w / 2 ^ f:Nat):Int):=by
  rw [Int.fdiv_eq_ediv_of_nonneg _ (Int.natCast_nonneg _),Int.natCast_ediv]
 rw [e1,e2,Z07,Z07,e3]
 clear e3
 generalize hq:2 ^ b=q at *
 generalize w / 2 ^ f=x at *
 rw [Int.one_mul,IntWalk.u64_in (q:Int) (by omega),IntWalk.u64_in ((q:Int) - 1) (by omega)]
 have e4:((q:Int) - 1)=((q - 1:Nat):Int):=by omega
 rw [e4,Z4p _ _ hd (by omega),← hq,Nat.and_two_pow_sub_one_eq_mod,hq]
 have:x % q < q:=Nat.mod_lt _ h1
 rw [IntWalk.u64_in _ (by omega),IntWalk.i64_in _ (by omega)]
theorem Ycg (w:Nat) (hw:w < 18446744073709551616):IntKind.i64.wrap ((IntKind.i32.wrap (IntKind.u32.wrap (w:Int))).fdiv (2 ^ min (Int.toNat 2) 32))=Zrn w:=by
 have e:(2:Int) ^ min (Int.toNat 2) 32=4:=by decide
 rw [e,Int.fdiv_eq_ediv_of_nonneg _ (by decide),IntKind.wrap_u32,IntKind.wrap_i32]
 unfold Zrn
 rw [IntWalk.i64_in _ (by omega)]
 split <;> omega
theorem Z9g (w:Nat) (hw:w < 18446744073709551616):Zfw w=some (Zrn w):=congrArg some (Ycg w hw)
theorem Yd2 (w:Nat) (hw:w < 18446744073709551616):IntKind.u64.wrap (Zdg .u64 w 3)=((w % 4:Nat):Int):=by
 have:=Z4p w 3 hw (by decide)
 rw [show ((3:Nat):Int)=3 from rfl] at this
 rw [this,show (3:Nat)=2 ^ 2 - 1 from rfl,Nat.and_two_pow_sub_one_eq_mod,IntWalk.u64_in _ (by omega)]
theorem Yd3 (w:Nat) (hw:w < 18446744073709551616):(IntKind.u64.wrap (Zdg .u64 ((w:Int).fdiv (2 ^ min (Int.toNat 2) 64)) 1) == 1)=decide (w / 4 % 2=1):=by
 have e1:(2:Int) ^ min (Int.toNat 2) 64=4:=by decide
 have e2:((w:Int).fdiv 4)=((w / 4:Nat):Int):=by rw [Int.fdiv_eq_ediv_of_nonneg _ (by decide)];rfl
 have e3:=Z4p (w / 4) 1 (by omega) (by decide)
 rw [show ((1:Nat):Int)=1 from rfl,Nat.and_one_is_mod] at e3
 rw [e1,e2,e3,IntWalk.u64_in _ (by omega)]
 by_cases h:w / 4 % 2=1
 ·rw [h];decide
 have:w / 4 % 2=0:=by omega
 rw [this];decide
theorem Z0m (a:Nat) (b:Nat):((a:Int) == (b:Int))=decide (a=b):=by
 by_cases h:a=b
 ·subst h;simp
 simp [h,Int.natCast_inj]
theorem Z2e (w:Nat) (hw:w < 18446744073709551616):K7 w=some (Zii w):=by
 unfold K7
 have f1:Qo w 32 16=_:=Zo7 w 32 16 hw (by decide) (by decide)
 have f2:Qo w 48 16=_:=Zo7 w 48 16 hw (by decide) (by decide)
 have f3:Qo w 32 3=_:=Zo7 w 32 3 hw (by decide) (by decide)
 have f4:Qo w 35 29=_:=Zo7 w 35 29 hw (by decide) (by decide)
 have f5:Qo w 3 29=_:=Zo7 w 3 29 hw (by decide) (by decide)
 have f6:Qo w 32 32=_:=Zo7 w 32 32 hw (by decide) (by decide)
 have c0:((w:Int) == 0)=_:=Z0m w 0
 have c1:(((w % 4:Nat):Int) == 0)=_:=Z0m (w % 4) 0
 have c2:(((w % 4:Nat):Int) == 1)=_:=Z0m (w % 4) 1
 have c3:(((w % 4:Nat):Int) == 2)=_:=Z0m (w % 4) 2
 rw [Yd2 w hw,Z9g w hw,f1,f2,f3,f4,f5,f6,Yd3 w hw,c0,c1,c2,c3]
 simp only [Option.bind_some]
 unfold Zii
 by_cases h0:w=0
 ·simp [h0]
 by_cases h1:w % 4=0
 ·simp [h0,h1]
 by_cases h2:w % 4=1
 ·simp [h0,h2]
 by_cases h3:w % 4=2
 ·simp [h0,h3]
 simp [h0,h1,h2,h3]
theorem Z9b (x i:Nat):x % 2 ^ (i+1)=x % 2 ^ i+2 ^ i * (x / 2 ^ i % 2):=Nat.mod_pow_succ
theorem Zf4 (w f b:Nat) (hw:w < 18446744073709551616) (hf:f < 64) (hb:b≤40):Ya w f b=some ((w / 2 ^ f % 2 ^ b:Nat):Int):=by
 unfold Ya
 have l0:Zw (Zae f) ((w:Int),0)=some ((w / 2 ^ f:Nat):Int):=by
  refine Zso (fun s=>∃ i:Nat,i≤f∧s=(((w / 2 ^ i:Nat):Int),(i:Int))) (fun s=>f - s.2.toNat) ?_ _ ⟨0,by omega,by simp⟩
  rintro s ⟨i,hi,rfl⟩
  unfold Zae
  have hs:w / 2 ^ (i+1)=w / 2 ^ i / 2:=by rw [Nat.pow_succ,Nat.div_div_eq_div_mul]
  have hd:w / 2 ^ i < 18446744073709551616:=Nat.lt_of_le_of_lt (Nat.div_le_self _ _) hw
  by_cases h:i < f
  ·left
   refine ⟨(((w / 2 ^ (i+1):Nat):Int),((i+1:Nat):Int)),?_,⟨i+1,by omega,rfl⟩,by simp only;omega⟩
   have:decide ((i:Int) < f)=true:=by simp;omega
   simp only [this,cond_true]
   rw [hs]
   generalize w / 2 ^ i=y at *
   rw [Int.tdiv_eq_ediv_of_nonneg (by omega),Ybl (by omega),Z2t (by omega)]
   rfl
  right
  have:decide ((i:Int) < f)=false:=by simp;omega
  obtain rfl:i=f:=by omega
  simp only [this,cond_false]
 rw [l0]
 simp only [Option.bind_some]
 generalize hx:w / 2 ^ f=x at *
 have hd:x < 18446744073709551616:=by rw [← hx];exact Nat.lt_of_le_of_lt (Nat.div_le_self _ _) hw
 have l1:Zw (Zaf b) ((x:Int),0,1,0)=some ((x % 2 ^ b:Nat):Int):=by
  refine Zso (fun s=>∃ j:Nat,j≤b∧s=(((x / 2 ^ j:Nat):Int),((x % 2 ^ j:Nat):Int),((2 ^ j:Nat):Int),(j:Int))) (fun s=>b - s.2.2.2.toNat) ?_ _ ⟨0,by omega,by simp [Nat.mod_one]⟩
  rintro s ⟨j,hj,rfl⟩
  unfold Zaf
  have hdj:x / 2 ^ j < 18446744073709551616:=Nat.lt_of_le_of_lt (Nat.div_le_self _ _) hd
  have hpj:(2:Nat) ^ j≤1099511627776:=by have:=Nat.pow_le_pow_right (n:=2) (by decide) (Nat.le_trans hj hb);simpa using this
  have h0:0 < (2:Nat) ^ j:=Nat.pow_pos (by decide)
  have hm:=Z9b x j
  have hs2:x / 2 ^ (j+1)=x / 2 ^ j / 2:=by rw [Nat.pow_succ,Nat.div_div_eq_div_mul]
  have hp2:(2:Nat) ^ (j+1)=2 ^ j * 2:=Nat.pow_succ ..
  have hlt:x % 2 ^ j < 2 ^ j:=Nat.mod_lt _ h0
  by_cases h:j < b
  ·left
   refine ⟨(((x / 2 ^ (j+1):Nat):Int),((x % 2 ^ (j+1):Nat):Int),((2 ^ (j+1):Nat):Int),((j+1:Nat):Int)),?_,⟨j+1,by omega,rfl⟩,by simp only;omega⟩
   have:decide ((j:Int) < b)=true:=by simp;omega
   simp only [this,cond_true]
   rw [hs2,hm,hp2]
   clear hs2 hm hp2
   generalize x / 2 ^ j=y at *
   generalize x % 2 ^ j=r at *
   generalize 2 ^ j=p at *
   rw [Int.tmod_eq_emod_of_nonneg (by omega),Int.tdiv_eq_ediv_of_nonneg (by omega)]
   by_cases hb1:y % 2=1
   ·have e:(((y:Int) % 2) == 1)=true:=by simp;omega
    rw [e,cond_true,hb1,Z2t (by omega)]
    simp only [Option.bind_some]
    rw [Ybl (by omega),Z2t (by omega),Z2t (by omega)]
    simp only [Option.some.injEq,Sum.inl.injEq,Prod.mk.injEq]
    omega
   have e:(((y:Int) % 2) == 1)=false:=by simp;omega
   have hb0:y % 2=0:=by omega
   rw [e,cond_false,hb0]
   simp only [Option.bind_some]
   rw [Ybl (by omega),Z2t (by omega),Z2t (by omega)]
   simp only [Option.some.injEq,Sum.inl.injEq,Prod.mk.injEq]
   omega
  right
  have:decide ((j:Int) < b)=false:=by simp;omega
  obtain rfl:j=b:=by omega
  simp only [this,cond_false]
 rw [l1]
 simp only [Option.bind_some]
theorem Z7k (w:Nat) (hw:w < 18446744073709551616):Xp w=some (Zii w):=by
 unfold Xp
 have f0:Ya w 2 30=_:=Zf4 w 2 30 hw (by decide) (by decide)
 have f00:Ya w 0 2=_:=Zf4 w 0 2 hw (by decide) (by decide)
 have f1:Ya w 32 16=_:=Zf4 w 32 16 hw (by decide) (by decide)
 have f2:Ya w 48 16=_:=Zf4 w 48 16 hw (by decide) (by decide)
 have f3:Ya w 32 3=_:=Zf4 w 32 3 hw (by decide) (by decide)
 have f4:Ya w 35 29=_:=Zf4 w 35 29 hw (by decide) (by decide)
 have f5:Ya w 3 29=_:=Zf4 w 3 29 hw (by decide) (by decide)
 have f6:Ya w 32 32=_:=Zf4 w 32 32 hw (by decide) (by decide)
 have f7:Ya w 2 1=_:=Zf4 w 2 1 hw (by decide) (by decide)
 have c0:((w:Int) == 0)=_:=Z0m w 0
 have c1:(((w % 4:Nat):Int) == 0)=_:=Z0m (w % 4) 0
 have c2:(((w % 4:Nat):Int) == 1)=_:=Z0m (w % 4) 1
 have c3:(((w % 4:Nat):Int) == 2)=_:=Z0m (w % 4) 2
 have c4:(((w / 4 % 2:Nat):Int) == 1)=_:=Z0m (w / 4 % 2) 1
 simp only [Nat.reducePow,Nat.div_one] at f0 f00 f1 f2 f3 f4 f5 f6 f7
 have ho:(cond (decide (536870912≤((w / 4 % 1073741824:Nat):Int))) (some (IntKind.i64.wrap (((w / 4 % 1073741824:Nat):Int) - 1073741824))) (some ((w / 4 % 1073741824:Nat):Int)))=some (Zrn w):=by
  unfold Zrn
  rw [Z2t (by omega)]
  by_cases h:w / 4 % 1073741824 < 536870912
  ·have:decide (536870912≤((w / 4 % 1073741824:Nat):Int))=false:=by simp;omega
   rw [this,if_pos h,cond_false]
  have:decide (536870912≤((w / 4 % 1073741824:Nat):Int))=true:=by simp;omega
  rw [this,if_neg h,cond_true]
 rw [f0]
 simp only [Option.bind_some,ho]
 rw [f00,f1,f2,f3,f4,f5,f6,f7]
 simp only [Option.bind_some]
 rw [c0,c1,c2,c3,c4]
 unfold Zii
 by_cases h0:w=0
 ·simp [h0]
 by_cases h1:w % 4=0
 ·simp [h0,h1]
 by_cases h2:w % 4=1
 ·simp [h0,h2]
 by_cases h3:w % 4=2
 ·simp [h0,h3]
 simp [h0,h1,h2,h3]
theorem Zoy (k a b:Nat) (h:a < 2 ^ k):a ||| (b * 2 ^ k)=a+b * 2 ^ k:=by
 rw [Nat.or_comm,Nat.mul_comm,← Nat.two_pow_add_eq_or_of_lt h,Nat.add_comm]
def Z03 (p:Zx):Int :=
 if p.Kind=1 then IntKind.u64.wrap (Zdb .u64 (IntKind.u64.wrap (Zdb .u64 (IntKind.u64.wrap (IntKind.u32.wrap (IntKind.u32.wrap p.Off * 2 ^ min (Int.toNat 2) 32))) (IntKind.u64.wrap (IntKind.u64.wrap p.Data * 2 ^ min (Int.toNat 32) 64)))) (IntKind.u64.wrap (IntKind.u64.wrap p.Ptrs * 2 ^ min (Int.toNat 48) 64)))
 else if p.Kind=2 then IntKind.u64.wrap (Zdb .u64 (IntKind.u64.wrap (Zdb .u64 (IntKind.u64.wrap (Zdb .u64 1 (IntKind.u64.wrap (IntKind.u32.wrap (IntKind.u32.wrap p.Off * 2 ^ min (Int.toNat 2) 32))))) (IntKind.u64.wrap (IntKind.u64.wrap p.Code * 2 ^ min (Int.toNat 32) 64)))) (IntKind.u64.wrap (IntKind.u64.wrap p.Count * 2 ^ min (Int.toNat 35) 64)))
 else if p.Kind=3 then
  if p.Double=true then IntKind.u64.wrap (Zdb .u64 (IntKind.u64.wrap (Zdb .u64 (IntKind.u64.wrap (Zdb .u64 2 (IntKind.u64.wrap (IntKind.u64.wrap p.Off * 2 ^ min (Int.toNat 3) 64)))) (IntKind.u64.wrap (IntKind.u64.wrap p.Segment * 2 ^ min (Int.toNat 32) 64)))) 4)
  else IntKind.u64.wrap (Zdb .u64 (IntKind.u64.wrap (Zdb .u64 2 (IntKind.u64.wrap (IntKind.u64.wrap p.Off * 2 ^ min (Int.toNat 3) 64)))) (IntKind.u64.wrap (IntKind.u64.wrap p.Segment * 2 ^ min (Int.toNat 32) 64)))
 else 0
theorem Yc1 (p:Zx):Zlx p=some (Z03 p):=by
 unfold Zlx Z03
 by_cases h1:p.Kind=1
 ·simp [h1]
 by_cases h2:p.Kind=2
 ·simp [h2]
 by_cases h3:p.Kind=3
 ·by_cases hd:p.Double=true <;> simp [h3,hd]
 simp [h1,h2,h3,X2 h1,X2 h2,X2 h3]
theorem Z10 (x:Int):∃ w:Nat,IntKind.u64.wrap x=(w:Int)∧w < 18446744073709551616:=by
 refine ⟨(x % 18446744073709551616).toNat,?_,by omega⟩
 simp [IntKind.wrap,IntKind.bits,IntKind.signed]
 omega
theorem Z8z (p:Zx):∃ w:Nat,Z03 p=(w:Int)∧w < 18446744073709551616:=by
 unfold Z03
 split
 ·exact Z10 _
 split
 ·exact Z10 _
 split
 ·split <;> exact Z10 _
 exact ⟨0,rfl,by decide⟩
theorem Z3u (x:Nat) (h:x < 18446744073709551616):IntKind.u64.wrap (x:Int)=(x:Int):=IntWalk.u64_in _ (by omega)
theorem Z98 (w:Nat):IntKind.u64.wrap (IntKind.u32.wrap (IntKind.u32.wrap (Zrn w) * 2 ^ min (Int.toNat 2) 32))=((w / 4 % 1073741824 * 2 ^ 2:Nat):Int):=by
 have e:(2:Int) ^ min (Int.toNat 2) 32=4:=by decide
 rw [e,IntKind.wrap_u32,IntKind.wrap_u32]
 unfold Zrn
 rw [IntWalk.u64_in _ (by omega)]
 split <;> omega
theorem Zm9 (x y:Nat) (hx:x < 18446744073709551616) (hy:y < 18446744073709551616):IntKind.u64.wrap (Zdb .u64 x y)=((x ||| y:Nat):Int):=by
 rw [Yc3 x y hx hy,Z3u _ (by have:=Nat.or_lt_two_pow (n:=64) (show x < 2 ^ 64 by omega) (show y < 2 ^ 64 by omega);omega)]
theorem Zy9 (x k:Nat) (hx:x < 18446744073709551616) (hk:k≤64) (h:x * 2 ^ k < 18446744073709551616):IntKind.u64.wrap (IntKind.u64.wrap (x:Int) * 2 ^ min (Int.toNat (k:Int)) 64)=((x * 2 ^ k:Nat):Int):=by
 have e:min (Int.toNat (k:Int)) 64=k:=by omega
 have e2:((x:Int) * (2:Int) ^ k)=((x * 2 ^ k:Nat):Int):=by simp
 rw [Z3u x hx,e,e2,Z3u _ h]
theorem Yax (w:Nat) (hw:w < 18446744073709551616) (h3:¬ (Zii w).Kind=4):Z03 (Zii w)=(w:Int):=by
 by_cases h0:w=0
 ·subst h0;rfl
 by_cases h1:w % 4=0
 ·have e:Zii w=⟨1,Zrn w,(w / 4294967296 % 65536:Nat),(w / 281474976710656 % 65536:Nat),0,0,0,false⟩:=by simp [Zii,h0,h1]
  rw [e]
  unfold Z03
  rw [if_pos rfl]
  simp only
  have s1:=Zy9 (w / 4294967296 % 65536) 32 (by omega) (by decide) (by omega)
  have s2:=Zy9 (w / 281474976710656 % 65536) 48 (by omega) (by decide) (by omega)
  rw [show ((32:Nat):Int)=32 from rfl] at s1
  rw [show ((48:Nat):Int)=48 from rfl] at s2
  rw [Z98,s1,s2,Zm9 _ _ (by omega) (by omega),Zoy 32 _ _ (by omega),Zm9 _ _ (by omega) (by omega),Zoy 48 _ _ (by omega)]
  omega
 by_cases h2:w % 4=1
 ·have e:Zii w=⟨2,Zrn w,0,0,(w / 4294967296 % 8:Nat),(w / 34359738368 % 536870912:Nat),0,false⟩:=by simp [Zii,h0,h1,h2]
  rw [e]
  unfold Z03
  rw [if_neg (by simp),if_pos rfl]
  simp only
  have s1:=Zy9 (w / 4294967296 % 8) 32 (by omega) (by decide) (by omega)
  have s2:=Zy9 (w / 34359738368 % 536870912) 35 (by omega) (by decide) (by omega)
  rw [show ((32:Nat):Int)=32 from rfl] at s1
  rw [show ((35:Nat):Int)=35 from rfl] at s2
  have l1:=Zm9 1 (w / 4 % 1073741824 * 2 ^ 2) (by decide) (by omega)
  rw [show ((1:Nat):Int)=1 from rfl,Zoy 2 1 _ (by decide)] at l1
  rw [Z98,s1,s2,l1,Zm9 _ _ (by omega) (by omega),Zoy 32 _ _ (by omega),Zm9 _ _ (by omega) (by omega),Zoy 35 _ _ (by omega)]
  omega
 by_cases h4:w % 4=2
 ·have e:Zii w=⟨3,(w / 8 % 536870912:Nat),0,0,0,0,(w / 4294967296 % 4294967296:Nat),decide (w / 4 % 2=1)⟩:=by simp [Zii,h0,h1,h2,h4]
  rw [e]
  unfold Z03
  rw [if_neg (by simp),if_neg (by simp),if_pos rfl]
  simp only
  have s1:=Zy9 (w / 8 % 536870912) 3 (by omega) (by decide) (by omega)
  have s2:=Zy9 (w / 4294967296 % 4294967296) 32 (by omega) (by decide) (by omega)
  rw [show ((3:Nat):Int)=3 from rfl] at s1
  rw [show ((32:Nat):Int)=32 from rfl] at s2
  have l1:=Zm9 2 (w / 8 % 536870912 * 2 ^ 3) (by decide) (by omega)
  rw [show ((2:Nat):Int)=2 from rfl,Zoy 3 2 _ (by decide)] at l1
  rw [s1,s2,l1,Zm9 _ _ (by omega) (by omega),Zoy 32 _ _ (by omega)]
  by_cases hb:w / 4 % 2=1
  ·rw [if_pos (by simpa using hb)]
   have l2:=Zm9 (2+w / 8 % 536870912 * 2 ^ 3+w / 4294967296 % 4294967296 * 2 ^ 32) 4 (by omega) (by decide)
   rw [show ((4:Nat):Int)=4 from rfl] at l2
   rw [l2]
   have:(2+w / 8 % 536870912 * 2 ^ 3+w / 4294967296 % 4294967296 * 2 ^ 32) ||| 4=2+w / 8 % 536870912 * 2 ^ 3+w / 4294967296 % 4294967296 * 2 ^ 32+4:=by
    have e1:2+w / 8 % 536870912 * 2 ^ 3+w / 4294967296 % 4294967296 * 2 ^ 32=2 ^ 3 * (w / 8 % 536870912+w / 4294967296 % 4294967296 * 2 ^ 29)+2:=by omega
    rw [e1]
    generalize w / 8 % 536870912+w / 4294967296 % 4294967296 * 2 ^ 29=q
    conv=>lhs;rw [Nat.two_pow_add_eq_or_of_lt (by decide),Nat.or_assoc,show (2 ||| 4:Nat)=6 from rfl,← Nat.two_pow_add_eq_or_of_lt (by decide)]
   rw [this]
   omega
  rw [if_neg (by simpa using hb)]
  omega
 exact absurd (by simp [Zii,h0,h1,h2,h4]) h3
theorem Ybd (p q:Zx):((p.Kind == q.Kind) && ((p.Off == q.Off) && ((p.Data == q.Data) && ((p.Ptrs == q.Ptrs) && ((p.Code == q.Code) && ((p.Count == q.Count) && ((p.Segment == q.Segment) && (p.Double == q.Double))))))))=true↔p=q:=by
 cases p;cases q
 simp [and_assoc]
open Classical in
/-- what 'Encode' tells -/
theorem Z8j (p:Zx):∃ w:Nat,w < 18446744073709551616∧Z03 p=(w:Int)∧Ua p=some ((w:Int),decide (p.Kind≠4∧Zii w=p)):=by
 obtain ⟨w,hw,hlt⟩:=Z8z p
 refine ⟨w,hlt,hw,?_⟩
 unfold Ua
 rw [Yc1,hw]
 simp only [Option.bind_some,Z2e w hlt]
 by_cases h4:p.Kind=4
 ·simp [h4]
 have hk:(p.Kind != 4)=true:=by simp [h4]
 rw [hk]
 simp only [cond_true,Option.bind_some,Option.some.injEq,Prod.mk.injEq,true_and]
 rw [Bool.eq_iff_iff,Ybd]
 simp [h4]
theorem Zwr (w:Nat) (hw:w < 18446744073709551616) (h:¬ (Zii w).Kind=4):Ua (Zii w)=some ((w:Int),true):=by
 obtain ⟨v,hv,h1,h2⟩:=Z8j (Zii w)
 have:v=w:=by have:=Yax w hw h;omega
 subst this
 rw [h2]
 simp [h]
theorem Yg {x:Int} (h1:-9223372036854775808≤x) (h2:x≤9223372036854775807):IntKind.i64.wrap x=x:=Z2t ⟨h1,h2⟩
theorem Zee {i n:Nat} (h:i < n):decide ((i:Int) < (n:Int))=true:=by rw [decide_eq_true_eq];omega
theorem Zd4 {n:Nat}:decide ((n:Int) < (n:Int))=false:=by rw [decide_eq_false_iff_not];omega
structure WS (l:List (List Int)):Prop where
 n:l.length * 24≤140737488355328
 s:∀ x∈l,x.length * 8≤140737488355328
 w:∀ x∈l,∀ w∈x,0≤w∧w < 18446744073709551616
theorem Zy7 {l:List Int} (h:l.length * 8≤140737488355328):Xr l=some l:=by
 unfold Xr
 rw [Zba (by simp only [List.length_nil];omega) (by simp only [List.length_nil];omega),List.nil_append]
theorem Z92 {α:Type} (l:List α) (n:Nat) (v:α):Kc l (n:Int) v=l.set n v:=by unfold Kc;rw [Int.toNat_natCast]
theorem Zvm {l:List (List Int)} (h:WS l):∀ (r:List (List Int)) (i:Nat),l.drop i=r→i≤l.length →
  Zw (Ge l) ((i:Int),l.take i++List.replicate r.length [])=some l
 | [],i,hd,hi=>by
  have hl:i=l.length:=by
   have:=congrArg List.length hd
   rw [List.length_drop,List.length_nil] at this;omega
  subst hl
  refine Y7 ?_
  unfold Ge
  simp only
  rw [Zd4,cond_false]
  simp
 | x::r,i,hd,hi=>by
  have hi':i < l.length:=by
   rcases Nat.lt_or_ge i l.length with q | q
   ·exact q
   rw [List.drop_eq_nil_of_le q] at hd;cases hd
  have hx:l[i]? = some x:=by
   have:=congrArg (·[0]?) hd
   simpa using this
  have hm:=List.mem_of_getElem? hx
  have hd':l.drop (i+1)=r:=by
   have:=congrArg (List.drop 1) hd
   rw [List.drop_drop] at this
   simpa [Nat.add_comm] using this
  have hn:=h.n
  have hlen:(l.take i).length=i:=by rw [List.length_take];omega
  have hg:Y9 (l.take i++List.replicate (r.length+1) []) (i:Int)=some ([]:List Int):=Y3 (by rw [List.getElem?_append_right (by omega),hlen,Nat.sub_self];rfl)
  have hstep:Ge l ((i:Int),l.take i++List.replicate (r.length+1) [])=some (.inl (((i+1:Nat):Int),l.take (i+1)++List.replicate r.length [])):=by
   unfold Ge
   simp only
   rw [Zee hi',cond_true,Y3 hx,Option.bind_some,Zy7 (h.s x hm),Option.bind_some,hg,Option.bind_some,Yg (by omega) (by omega),Z92,List.set_append_right _ _ (by omega),hlen,Nat.sub_self,List.replicate_succ,List.set_cons_zero,List.take_add_one,hx,List.append_assoc]
   rfl
  rw [List.length_cons,X4 hstep]
  exact Zvm h r (i+1) hd' (by omega)
theorem Z6r {l:List (List Int)} (h:WS l):Zef l=some l:=by
 have hn:=h.n
 have:=Zvm h l 0 rfl (Nat.zero_le _)
 rw [List.take_zero,List.nil_append,show (((0:Nat):Int))=0 from rfl] at this
 unfold Zef
 rw [Zoj (by omega) (by omega) (by omega),Option.bind_some,Int.toNat_natCast,this]
 rfl
theorem Yb4 {l:List (List Int)} (h:WS l):Zju l=some (some ⟨l,0,0⟩):=by
 unfold Zju
 rw [Z6r h,Option.bind_some]
def seg (l:List (List Int)) (s:Int):List Int:=(l[s.toNat]?).getD []
def inB (l:List (List Int)) (s a n:Int):Bool:=decide (0≤s) && (decide (s < l.length) && (decide (0≤a) && (decide (0≤n) && decide (a+n≤(seg l s).length))))
theorem inB_iff {l:List (List Int)} {s a n:Int}:inB l s a n=true↔0≤s∧s < l.length∧0≤a∧0≤n∧a+n≤(seg l s).length:=by
 unfold inB
 simp only [Bool.and_eq_true,decide_eq_true_eq]
theorem Zf6 {l:List (List Int)} {s:Int} (h0:0≤s) (h1:s < l.length):Y9 l s=some (seg l s)∧seg l s∈l:=by
 have hs:s.toNat < l.length:=by omega
 unfold seg Y9
 rw [if_pos h0,List.getElem?_eq_getElem hs]
 exact ⟨rfl,List.getElem_mem hs⟩
def wd (l:List (List Int)) (s a:Int):Int:=((seg l s)[a.toNat]?).getD 0
theorem Zvd {l:List (List Int)} {s a:Int} (h:inB l s a 1=true):Y9 (seg l s) a=some (wd l s a)∧wd l s a∈seg l s:=by
 rw [inB_iff] at h
 have ha:a.toNat < (seg l s).length:=by omega
 unfold wd Y9
 rw [if_pos h.2.2.1,List.getElem?_eq_getElem ha]
 exact ⟨rfl,List.getElem_mem ha⟩
theorem Znz {l:List (List Int)} (hw:WS l) (s a:Int):0≤wd l s a∧wd l s a < 18446744073709551616:=by
 unfold wd
 cases h:(seg l s)[a.toNat]? with
 | none=>simp
 | some w =>
  have hm:=List.mem_of_getElem? h
  unfold seg at hm
  cases hs:l[s.toNat]? with
  | none=>rw [hs] at hm;cases hm
  | some x=>rw [hs] at hm;exact hw.w x (List.mem_of_getElem? hs) w hm
theorem Znm {l:List (List Int)} (hw:WS l) (s:Int):(seg l s).length * 8≤140737488355328:=by
 unfold seg
 cases hs:l[s.toNat]? with
 | none=>simp
 | some x=>exact hw.s x (List.mem_of_getElem? hs)
section
variable {A:Zl}
theorem Yam:Zc6 (some A)=some (A.segments.length:Int):=rfl
theorem Zyp (s:Int):Vf (some A) s=some (decide (0≤s) && decide (s < A.segments.length)):=by
 unfold Vf
 rw [Yam,Option.bind_some]
 cases decide (0≤s) <;> rfl
theorem Z78 (s:Int):V4 (some A) s=some (if 0≤s∧s < A.segments.length then ((seg A.segments s).length:Int) else 0):=by
 unfold V4
 rw [Zyp,Option.bind_some]
 by_cases h:0≤s∧s < A.segments.length
 ·rw [decide_eq_true h.1,decide_eq_true h.2,if_pos h,Option.bind_some,(Zf6 h.1 h.2).1]
  rfl
 rw [if_neg h,show (decide (0≤s) && decide (s < A.segments.length))=false from by rw [Bool.and_eq_false_iff,decide_eq_false_iff_not,decide_eq_false_iff_not];omega]
 rfl
theorem Z0j (hw:WS A.segments) (s a n:Int):K4 (some A) s a n=some (inB A.segments s a n):=by
 have hl:=Znm hw s
 unfold K4 inB
 rw [Zyp,Z78,Option.bind_some]
 by_cases h:0≤s∧s < A.segments.length
 ·rw [if_pos h,decide_eq_true h.1,decide_eq_true h.2]
  by_cases h2:0≤a
  ·by_cases h3:0≤n
   ·by_cases h4:n≤((seg A.segments s).length:Int)
    ·simp only [decide_eq_true h2,decide_eq_true h3,Bool.and_true,Bool.true_and,cond_true,Option.bind_some,decide_eq_true h4]
     rw [Yg (by omega) (by omega)]
     congr 1
     rw [Bool.eq_iff_iff,decide_eq_true_eq,decide_eq_true_eq]
     omega
    simp only [decide_eq_true h2,decide_eq_true h3,Bool.and_true,Bool.true_and,cond_true,cond_false,Option.bind_some,decide_eq_false h4]
    rw [show decide (a+n≤((seg A.segments s).length:Int))=false from by rw [decide_eq_false_iff_not];omega]
   rw [decide_eq_true h2,decide_eq_false h3];rfl
  rw [decide_eq_false h2];rfl
 rw [show (decide (0≤s) && decide (s < A.segments.length))=false from by rw [Bool.and_eq_false_iff,decide_eq_false_iff_not,decide_eq_false_iff_not];omega]
 rw [← Bool.and_assoc,show (decide (0≤s) && decide (s < A.segments.length))=false from by rw [Bool.and_eq_false_iff,decide_eq_false_iff_not,decide_eq_false_iff_not];omega]
 rfl
theorem Zsq (hw:WS A.segments) (s a:Int):Qu (some A) s a=some (if inB A.segments s a 1=true then (wd A.segments s a,true) else (0,false)):=by
 unfold Qu
 rw [Z0j hw,Option.bind_some]
 cases h:inB A.segments s a 1 with
 | false=>rfl
 | true =>
  have h':=inB_iff.1 h
  rw [Bool.not_true,cond_false,Option.bind_some,(Zf6 h'.1 h'.2.1).1,Option.bind_some,(Zvd h).1]
  rfl
theorem Z77 (hw:WS A.segments) (s a n:Int):Gt (some A) s a n=some (if inB A.segments s a n=true then (((seg A.segments s).drop a.toNat).take n.toNat,true) else ([],false)):=by
 have hl:=Znm hw s
 unfold Gt
 rw [Z0j hw,Option.bind_some]
 cases h:inB A.segments s a n with
 | false=>rfl
 | true =>
  have h':=inB_iff.1 h
  rw [Bool.not_true,cond_false,Option.bind_some,(Zf6 h'.1 h'.2.1).1,Option.bind_some,Yg (by omega) (by omega),Zwh (by omega) (by omega) (by omega),Option.bind_some,show a+n - a=n by omega,Zy7 (by rw [List.length_take,List.length_drop];omega)]
  rfl
end
def dc (w:Int):Zx:=Zii w.toNat
theorem Z2d {w:Int} (h:0≤w∧w < 18446744073709551616):K7 w=some (dc w):=by
 have:=Z2e w.toNat (by omega)
 rwa [show ((w.toNat:Nat):Int)=w by omega] at this
theorem Zxo {w:Int} (h:0≤w∧w < 18446744073709551616):Xp w=some (dc w):=by
 have:=Z7k w.toNat (by omega)
 rwa [show ((w.toNat:Nat):Int)=w by omega] at this
structure PB (p:Zx):Prop where
 k:p.Kind=0∨p.Kind=1∨p.Kind=2∨p.Kind=3∨p.Kind=4
 o:-536870912≤p.Off∧p.Off < 536870912
 d:0≤p.Data∧p.Data < 65536
 q:0≤p.Ptrs∧p.Ptrs < 65536
 c:0≤p.Code∧p.Code < 8
 n:0≤p.Count∧p.Count < 536870912
 s:0≤p.Segment∧p.Segment < 4294967296
 f:p.Kind=3→0≤p.Off
 z:p.Kind=0∨p.Kind=4→p.Off=0
theorem Ybb (w:Nat):-536870912≤Zrn w∧Zrn w < 536870912:=by
 unfold Zrn
 split <;> omega
theorem Zoa (w:Int):PB (dc w):=by
 have ho:=Ybb w.toNat
 unfold dc Zii
 split
 ·exact ⟨.inl rfl,by simp,by simp,by simp,by simp,by simp,by simp,by simp,by simp⟩
 split
 ·exact ⟨.inr (.inl rfl),ho,by simp only;omega,by simp only;omega,by simp,by simp,by simp,by simp,by simp⟩
 split
 ·exact ⟨.inr (.inr (.inl rfl)),ho,by simp,by simp,by simp only;omega,by simp only;omega,by simp,by simp,by simp⟩
 split
 ·exact ⟨.inr (.inr (.inr (.inl rfl))),by simp only;omega,by simp,by simp,by simp,by simp,by simp only;omega,fun _=>by simp only;omega,by simp⟩
 exact ⟨.inr (.inr (.inr (.inr rfl))),by simp,by simp,by simp,by simp,by simp,by simp,by simp,by simp⟩
def wdt (c:Int):Int:=if c=0 then 0 else if c=1 then 1 else if c=2 then 8 else if c=3 then 16 else if c=4 then 32 else 64
def pw (p:Zx):Int:=if p.Kind=1 then p.Data+p.Ptrs else if p.Code=7 then p.Count+1 else (p.Count * wdt p.Code+63) / 64
theorem c7 {c:Int} (h:0≤c∧c < 8) (h7:¬ c=7):c=0∨c=1∨c=2∨c=3∨c=4∨c=5∨c=6:=by omega
theorem Yac {c:Int} (h:0≤c∧c < 8) (h7:¬ c=7):Ze3 c=some (wdt c):=by
 unfold Ze3
 rcases c7 h h7 with rfl | rfl | rfl | rfl | rfl | rfl | rfl <;> rfl
theorem Yc7 {p:Zx} (h:PB p):0≤pw p∧pw p≤1073741824:=by
 have:=h.d;have:=h.q;have hn:=h.n
 unfold pw
 split
 ·omega
 split
 ·omega
 rename_i h7
 rcases c7 h.c h7 with q | q | q | q | q | q | q <;> rw [q] <;> unfold wdt <;> simp <;> omega
theorem Yae {p:Zx} (h:PB p):X5 p=some (if p.Kind=1∨p.Kind=2 then (pw p,true) else (0,false)):=by
 have hd:=h.d;have hp:=h.q;have hn:=h.n
 unfold X5 pw
 by_cases k1:p.Kind=1
 ·rw [show (p.Kind == 1)=true from by rw [k1];rfl,cond_true,if_pos (.inl k1),if_pos k1,Yg (by omega) (by omega)]
 rw [show (p.Kind == 1)=false from X2 k1,cond_false]
 by_cases k2:p.Kind=2
 ·rw [show (p.Kind == 2)=true from by rw [k2];rfl,cond_true,if_pos (.inr k2),if_neg k1]
  by_cases c7':p.Code=7
  ·rw [show (p.Code == 7)=true from by rw [c7'];rfl,cond_true,if_pos c7',Yg (by omega) (by omega)]
  rw [show (p.Code == 7)=false from X2 c7',cond_false,if_neg c7',decide_eq_true h.c.1,show decide (p.Code < 7)=true from by rw [decide_eq_true_eq];have:=h.c;omega,decide_eq_true hn.1,show decide (p.Count≤536870911)=true from by rw [decide_eq_true_eq];omega]
  simp only [cond_true]
  rw [Yac h.c c7',Option.bind_some]
  have hw:0≤wdt p.Code∧wdt p.Code≤64:=by unfold wdt;repeat' split;all_goals omega
  have h1:0≤p.Count * wdt p.Code:=Int.mul_nonneg hn.1 hw.1
  have h2:p.Count * wdt p.Code≤536870912 * 64:=Int.mul_le_mul (by omega) hw.2 hw.1 (by omega)
  rw [Yg (x:=p.Count * wdt p.Code) (by omega) (by omega),Yg (x:=p.Count * wdt p.Code+63) (by omega) (by omega),Int.tdiv_eq_ediv_of_nonneg (by omega),Yg (by omega) (by omega)]
 rw [show (p.Kind == 2)=false from X2 k2,if_neg (by omega)]
 rfl
theorem Z7p {p:Zx} (h:PB p) (hk:p.Kind=1∨p.Kind=2):Gw p=some (pw p):=by
 have hd:=h.d;have hp:=h.q;have hn:=h.n;have hc:=h.c
 unfold Gw pw
 by_cases k1:p.Kind=1
 ·rw [show (p.Kind == 1)=true from by rw [k1];rfl,cond_true,if_pos k1,Yg (by omega) (by omega)]
 have k2:p.Kind=2:=by omega
 rw [show (p.Kind == 1)=false from X2 k1,cond_false,show (p.Kind != 2)=false from by rw [k2];rfl,cond_false,if_neg k1]
 by_cases c7':p.Code=7
 ·rw [show (p.Code == 7)=true from by rw [c7'];rfl,cond_true,if_pos c7',Yg (by omega) (by omega)]
 rw [show (p.Code == 7)=false from X2 c7',cond_false,if_neg c7',show decide (p.Code < 0)=false from by rw [decide_eq_false_iff_not];omega,show decide (6 < p.Code)=false from by rw [decide_eq_false_iff_not];omega,show decide (p.Count < 0)=false from by rw [decide_eq_false_iff_not];omega,show decide (536870912≤p.Count)=false from by rw [decide_eq_false_iff_not];omega]
 simp only [cond_false]
 have hgen:∀ (k:Int),0 < k→(Xj (k≠0)).bind (fun _=>cond (decide (0 < Int.tmod p.Count k)) ((Xj (k≠0)).bind fun _=>some (IntKind.i64.wrap (IntKind.i64.wrap (Int.tdiv p.Count k)+1))) ((Xj (k≠0)).bind fun _=>some (IntKind.i64.wrap (Int.tdiv p.Count k))))=some (if 0 < p.Count % k then p.Count / k+1 else p.Count / k):=fun k hk=>by
  have hne:k≠0:=by omega
  have h0:0≤p.Count / k:=Int.ediv_nonneg hn.1 (by omega)
  have h1:p.Count / k≤p.Count:=Int.ediv_le_self _ hn.1
  rw [Vd hne,Option.bind_some,Option.bind_some,Option.bind_some,Int.tmod_eq_emod_of_nonneg hn.1,Int.tdiv_eq_ediv_of_nonneg hn.1,Yg (x:=p.Count / k) (by omega) (by omega),Yg (x:=p.Count / k+1) (by omega) (by omega)]
  by_cases q:0 < p.Count % k
  ·rw [if_pos q,decide_eq_true q,cond_true]
  rw [if_neg q,decide_eq_false q,cond_false]
 have hgo:∀ (k:Int),0 < k→(if 0 < p.Count % k then p.Count / k+1 else p.Count / k)=(p.Count+(k - 1)) / k:=fun k hk=>by
  have e:=Int.emod_add_mul_ediv p.Count k
  have e1:=Int.emod_nonneg p.Count (show k≠0 by omega)
  have e2:=Int.emod_lt_of_pos p.Count hk
  split
  ·symm
   have:p.Count+(k - 1)=(p.Count % k - 1)+k * (p.Count / k+1):=by rw [Int.mul_add];omega
   rw [this,Int.add_mul_ediv_left _ _ (by omega),Int.ediv_eq_zero_of_lt (by omega) (by omega)]
   omega
  symm
  have:p.Count+(k - 1)=(k - 1)+k * (p.Count / k):=by omega
  rw [this,Int.add_mul_ediv_left _ _ (by omega),Int.ediv_eq_zero_of_lt (by omega) (by omega)]
  omega
 rcases c7 h.c c7' with q | q | q | q | q | q | q
 ·rw [show (p.Code == 0)=true from by rw [q];rfl,cond_true,Option.bind_some,q]
  simp only [wdt,if_true,Int.mul_zero]
  rfl
 ·rw [show (p.Code == 0)=false from by rw [q];rfl,show (p.Code == 1)=true from by rw [q];rfl,cond_false,cond_true,Option.bind_some]
  simp only
  rw [hgen 64 (by omega),hgo 64 (by omega),q]
  simp [wdt]
 ·rw [show (p.Code == 0)=false from by rw [q];rfl,show (p.Code == 1)=false from by rw [q];rfl,show (p.Code == 2)=true from by rw [q];rfl,cond_false,cond_false,cond_true,Option.bind_some]
  simp only
  rw [hgen 8 (by omega),hgo 8 (by omega),q]
  simp [wdt]
  omega
 ·rw [show (p.Code == 0)=false from by rw [q];rfl,show (p.Code == 1)=false from by rw [q];rfl,show (p.Code == 2)=false from by rw [q];rfl,show (p.Code == 3)=true from by rw [q];rfl,cond_false,cond_false,cond_false,cond_true,Option.bind_some]
  simp only
  rw [hgen 4 (by omega),hgo 4 (by omega),q]
  simp [wdt]
  omega
 ·rw [show (p.Code == 0)=false from by rw [q];rfl,show (p.Code == 1)=false from by rw [q];rfl,show (p.Code == 2)=false from by rw [q];rfl,show (p.Code == 3)=false from by rw [q];rfl,show (p.Code == 4)=true from by rw [q];rfl,cond_false,cond_false,cond_false,cond_false,cond_true,Option.bind_some]
  simp only
  rw [hgen 2 (by omega),hgo 2 (by omega),q]
  simp [wdt]
  omega
 ·rw [show (p.Code == 0)=false from by rw [q];rfl,show (p.Code == 1)=false from by rw [q];rfl,show (p.Code == 2)=false from by rw [q];rfl,show (p.Code == 3)=false from by rw [q];rfl,show (p.Code == 4)=false from by rw [q];rfl,cond_false,cond_false,cond_false,cond_false,cond_false,Option.bind_some]
  simp only
  rw [hgen 1 (by omega),hgo 1 (by omega),q]
  simp [wdt]
  omega
 rw [show (p.Code == 0)=false from by rw [q];rfl,show (p.Code == 1)=false from by rw [q];rfl,show (p.Code == 2)=false from by rw [q];rfl,show (p.Code == 3)=false from by rw [q];rfl,show (p.Code == 4)=false from by rw [q];rfl,cond_false,cond_false,cond_false,cond_false,cond_false,Option.bind_some]
 simp only
 rw [hgen 1 (by omega),hgo 1 (by omega),q]
 simp [wdt]
 omega
def l0:Xy:=⟨⟨0,0,0,0,0,0,0,false⟩,0,0⟩
def Z25 (p:Zx):Zx:=⟨p.Kind,0,p.Data,p.Ptrs,p.Code,p.Count,p.Segment,p.Double⟩
def tgt (l:List (List Int)) (p:Zx) (s a:Int):Xy×Int :=
 if p.Kind=4 then (l0,9) else if p.Kind=1∨p.Kind=2 then (if inB l s a (pw p)=true then (⟨Z25 p,s,a⟩,0) else (l0,7)) else (l0,8)
def fol (l:List (List Int)) (s a:Int):Xy×Int :=
 if inB l s a 1=true then
  let p:=dc (wd l s a)
  if p.Kind=0 then (l0,0)
  else if p.Kind=3∧p.Double=true then
   if inB l p.Segment p.Off 2=true then
    let b:=dc (wd l p.Segment p.Off)
    let q:=dc (wd l p.Segment (p.Off+1))
    if b.Kind=3∧b.Double=false then (if q.Kind≠4∧q.Off≠0 then (l0,8) else tgt l q b.Segment b.Off) else (l0,8)
   else (l0,7)
  else if p.Kind=3 then
   if inB l p.Segment p.Off 1=true then
    let q:=dc (wd l p.Segment p.Off)
    tgt l q p.Segment (p.Off+1+q.Off)
   else (l0,7)
  else tgt l p s (a+1+p.Off)
 else (l0,7)
section
variable {A:Zl}
theorem Zqj (hw:WS A.segments) {p:Zx} (h:PB p) (s a:Int):Zb5 (some A) p s a=some (tgt A.segments p s a):=by
 unfold Zb5 tgt
 by_cases k4:p.Kind=4
 ·rw [show (p.Kind == 4)=true from by rw [k4];rfl,if_pos k4];rfl
 rw [show (p.Kind == 4)=false from X2 k4,cond_false,if_neg k4,Yae h,Option.bind_some]
 by_cases k:p.Kind=1∨p.Kind=2
 ·rw [if_pos k,if_pos k]
  simp only [Bool.not_true,cond_false]
  rw [Z0j hw,Option.bind_some]
  cases inB A.segments s a (pw p) <;> rfl
 rw [if_neg k,if_neg k]
 rfl
theorem Yc8 {l:List (List Int)} {s a:Int} (h:inB l s a 2=true):((seg l s).drop a.toNat).take (2:Int).toNat=[wd l s a,wd l s (a+1)]:=by
 have h':=inB_iff.1 h
 have h1:a.toNat < (seg l s).length:=by omega
 have h2:a.toNat+1 < (seg l s).length:=by omega
 unfold wd
 rw [show (a+1).toNat=a.toNat+1 by omega,List.getElem?_eq_getElem h1,List.getElem?_eq_getElem h2,show ((2:Int).toNat)=2 from rfl,List.drop_eq_getElem_cons h1,List.drop_eq_getElem_cons h2]
 rfl
theorem Z6z (hw:WS A.segments) (s a:Int):Zfu (some A) s a=some (if inB A.segments s a 2=true then (if (dc (wd A.segments s a)).Kind=3∧(dc (wd A.segments s a)).Double=false then (if (dc (wd A.segments s (a+1))).Kind≠4∧(dc (wd A.segments s (a+1))).Off≠0 then (l0,8) else tgt A.segments (dc (wd A.segments s (a+1))) (dc (wd A.segments s a)).Segment (dc (wd A.segments s a)).Off) else (l0,8)) else (l0,7)):=by
 unfold Zfu
 rw [Z77 hw,Option.bind_some]
 cases h:inB A.segments s a 2 with
 | false=>rfl
 | true =>
  simp only [if_true,Bool.not_true,cond_false]
  rw [Yc8 h]
  have g0:Y9 [wd A.segments s a,wd A.segments s (a+1)] 0=some (wd A.segments s a):=rfl
  have g1:Y9 [wd A.segments s a,wd A.segments s (a+1)] 1=some (wd A.segments s (a+1)):=rfl
  rw [g0,Option.bind_some,Z2d (Znz hw _ _),Option.bind_some,g1,Option.bind_some,Z2d (Znz hw _ _),Option.bind_some]
  generalize dc (wd A.segments s a)=b
  have hq:=Zoa (wd A.segments s (a+1))
  revert hq
  generalize dc (wd A.segments s (a+1))=q
  intro hq
  by_cases b3:b.Kind=3
  ·rw [show (b.Kind != 3)=false from by rw [b3];rfl,cond_false]
   cases bd:b.Double with
   | true=>rw [cond_true,if_neg (by simp)];rfl
   | false =>
    rw [cond_false,if_pos ⟨b3,rfl⟩]
    by_cases hq4:q.Kind=4
    ·rw [show (q.Kind != 4)=false from by rw [hq4];rfl,cond_false,cond_false,if_neg (by simp [hq4]),Zqj hw hq]
     rfl
    rw [show (q.Kind != 4)=true from bne_iff_ne.2 hq4,cond_true]
    by_cases ho:q.Off=0
    ·rw [show (q.Off != 0)=false from by rw [ho];rfl,cond_false,if_neg (by simp [ho]),Zqj hw hq]
     rfl
    rw [show (q.Off != 0)=true from bne_iff_ne.2 ho,cond_true,if_pos ⟨hq4,ho⟩]
    rfl
  rw [show (b.Kind != 3)=true from bne_iff_ne.2 b3,cond_true,cond_true,if_neg (by simp [b3])]
  rfl
theorem Z5n {l:List (List Int)} (hw:WS l) {s a n:Int} (h:inB l s a n=true):0≤a∧a≤17592186044416:=by
 have h':=inB_iff.1 h
 have:=Znm hw s
 omega
theorem Z7q (hw:WS A.segments) (s a:Int):Zfv (some A) s a=some (if inB A.segments s a 1=true then tgt A.segments (dc (wd A.segments s a)) s (a+1+(dc (wd A.segments s a)).Off) else (l0,7)):=by
 unfold Zfv
 rw [Zsq hw,Option.bind_some]
 cases h:inB A.segments s a 1 with
 | false=>rfl
 | true =>
  have ha:=Z5n hw h
  have hq:=Zoa (wd A.segments s a)
  have ho:=hq.o
  simp only [if_true,Bool.not_true,cond_false]
  rw [Z2d (Znz hw _ _),Option.bind_some,Yg (x:=a+1) (by omega) (by omega),Yg (by omega) (by omega),Zqj hw hq]
  rfl
theorem Z62 (hw:WS A.segments) (s a:Int):Zft (some A) s a=some (fol A.segments s a):=by
 unfold Zft fol
 rw [Zsq hw,Option.bind_some]
 cases h:inB A.segments s a 1 with
 | false=>rfl
 | true =>
  have ha:=Z5n hw h
  have hq:=Zoa (wd A.segments s a)
  have ho:=hq.o
  simp only [if_true,Bool.not_true,cond_false]
  rw [Z2d (Znz hw _ _),Option.bind_some]
  revert hq ho
  generalize dc (wd A.segments s a)=p
  intro hq ho
  by_cases k0:p.Kind=0
  ·rw [show (p.Kind == 0)=true from by rw [k0];rfl,cond_true,if_pos k0];rfl
  rw [show (p.Kind == 0)=false from X2 k0,cond_false,if_neg k0]
  by_cases k3:p.Kind=3
  ·rw [show (p.Kind == 3)=true from by rw [k3];rfl,cond_true,cond_true]
   cases hd:p.Double with
   | true=>rw [cond_true,if_pos ⟨k3,rfl⟩,Z6z hw];rfl
   | false=>rw [cond_false,if_neg (by simp),if_pos k3,Z7q hw];rfl
  rw [show (p.Kind == 3)=false from X2 k3,cond_false,cond_false,cond_false,if_neg (by simp [k3]),if_neg k3,Yg (x:=a+1) (by omega) (by omega),Yg (by omega) (by omega),Zqj hw hq]
  rfl
end
def toR (x:Xy):Yf:=⟨x.P,x.Segment,x.At⟩
def Ybj (x:Xy×Int):Yf×Int:=(toR x.1,x.2)
theorem Zwf {l:List (List Int)} (hw:WS l) (s a:Int):Kt l s a=some (inB l s a 1):=by
 have hl:=Znm hw s
 unfold Kt inB
 by_cases h1:0≤s
 ·by_cases h2:s < (l.length:Int)
  ·by_cases h3:0≤a
   ·rw [(Zf6 h1 h2).1]
    simp only [decide_eq_true h1,decide_eq_true h2,decide_eq_true h3,cond_true,Option.bind_some,Bool.true_and,show decide ((0:Int)≤1)=true from rfl]
    refine congrArg some ?_
    rw [Bool.eq_iff_iff,decide_eq_true_eq,decide_eq_true_eq]
    omega
   rw [decide_eq_true h1,decide_eq_true h2,decide_eq_false h3];rfl
  rw [decide_eq_true h1,decide_eq_false h2];rfl
 rw [decide_eq_false h1];rfl
theorem Z7n {l:List (List Int)} (hw:WS l) {p:Zx} (h:PB p) (hk:p.Kind=1∨p.Kind=2) (s a:Int):Km l ⟨p,s,a⟩=some (Ybj (if inB l s a (pw p)=true then (⟨Z25 p,s,a⟩,0) else (l0,7))):=by
 have hl:=Znm hw s
 have hp:=Yc7 h
 unfold Km
 simp only
 rw [Z7p h hk,Option.bind_some]
 have key:∀ b:Bool,inB l s a (pw p) = !b→(cond b (some ((⟨⟨0,0,0,0,0,0,0,false⟩,0,0⟩:Yf),(7:Int))) (some ((⟨⟨p.Kind,0,p.Data,p.Ptrs,p.Code,p.Count,p.Segment,p.Double⟩,s,a⟩:Yf),0)))=some (Ybj (if inB l s a (pw p)=true then (⟨Z25 p,s,a⟩,0) else (l0,7))):=fun b hb=>by
  rw [hb]
  cases b <;> rfl
 have hin:∀ b:Bool,(b=true↔¬ (0≤s∧s < l.length∧0≤a∧0≤pw p∧a+pw p≤(seg l s).length))→inB l s a (pw p) = !b:=fun b hb=>by
  cases hq:inB l s a (pw p) with
  | true =>
   have:=inB_iff.1 hq
   cases b with
   | false=>rfl
   | true=>exact absurd this (hb.1 rfl)
  | false =>
   cases b with
   | true=>rfl
   | false =>
    have h2:¬ ¬ (0≤s∧s < l.length∧0≤a∧0≤pw p∧a+pw p≤(seg l s).length):=fun q=>by have:=hb.2 q;cases this
    have h3:=inB_iff.2 (Classical.not_not.1 h2)
    rw [hq] at h3
    cases h3
 by_cases h1:s < 0
 ·rw [decide_eq_true h1,cond_true,Option.bind_some]
  exact key true (hin true ⟨fun _=>by omega,fun _=>rfl⟩)
 rw [decide_eq_false h1,cond_false]
 by_cases h2:(l.length:Int)≤s
 ·rw [decide_eq_true h2,cond_true,Option.bind_some]
  exact key true (hin true ⟨fun _=>by omega,fun _=>rfl⟩)
 rw [decide_eq_false h2,cond_false]
 by_cases h3:a < 0
 ·rw [decide_eq_true h3,cond_true,Option.bind_some]
  exact key true (hin true ⟨fun _=>by omega,fun _=>rfl⟩)
 rw [decide_eq_false h3,cond_false,(Zf6 (by omega) (by omega)).1,Option.bind_some]
 by_cases h4:((seg l s).length:Int) < a
 ·rw [decide_eq_true h4,cond_true,Option.bind_some]
  exact key true (hin true ⟨fun _=>by omega,fun _=>rfl⟩)
 rw [decide_eq_false h4,cond_false,cond_false,cond_false,cond_false,cond_false,Option.bind_some,Yg (by omega) (by omega)]
 exact key _ (hin _ (by rw [decide_eq_true_eq];omega))
theorem Zy5 {p:Zx}:Kl p=some (if p.Kind=4 then 9 else if p.Kind=1∨p.Kind=2 then 0 else 8):=by
 unfold Kl
 by_cases k4:p.Kind=4
 ·rw [show (p.Kind == 4)=true from by rw [k4];rfl,if_pos k4];rfl
 rw [show (p.Kind == 4)=false from X2 k4,cond_false,if_neg k4]
 by_cases k1:p.Kind=1
 ·rw [show (p.Kind != 1)=false from by rw [k1];rfl,if_pos (.inl k1)];rfl
 rw [show (p.Kind != 1)=true from bne_iff_ne.2 k1,cond_true]
 by_cases k2:p.Kind=2
 ·rw [show (p.Kind != 2)=false from by rw [k2];rfl,if_pos (.inr k2)];rfl
 rw [show (p.Kind != 2)=true from bne_iff_ne.2 k2,if_neg (by omega)];rfl
theorem Z1m {l:List (List Int)} (hw:WS l) {p:Zx} (h:PB p) (s a:Int) {k:Int→Option (Yf×Int)} (hk:k=fun y=>cond (y != 0) (some ((⟨⟨0,0,0,0,0,0,0,false⟩,0,0⟩:Yf),y)) ((Km l ⟨p,s,a⟩).bind fun y=>some (y.1,y.2))):(Kl p).bind k=some (Ybj (tgt l p s a)):=by
 subst hk
 rw [Zy5,Option.bind_some]
 unfold tgt
 by_cases k4:p.Kind=4
 ·rw [if_pos k4,if_pos k4];rfl
 rw [if_neg k4,if_neg k4]
 by_cases k:p.Kind=1∨p.Kind=2
 ·rw [if_pos k,if_pos k,show ((0:Int) != 0)=false from rfl,cond_false,Z7n hw h k,Option.bind_some]
 rw [if_neg k,if_neg k];rfl
theorem Z9m (p:Zx):(⟨p.Kind,p.Off,p.Data,p.Ptrs,p.Code,p.Count,p.Segment,p.Double⟩:Zx)=p:=by cases p;rfl
theorem Yd4 {l:List (List Int)} {s a:Int} (h0:0≤a):inB l s a 2=(inB l s a 1 && inB l s (a+1) 1):=by
 rw [Bool.eq_iff_iff,Bool.and_eq_true,inB_iff,inB_iff,inB_iff]
 omega
theorem Z43 {l:List (List Int)} (hw:WS l) (s a:Int):Vi l s a=some (Ybj (fol l s a)):=by
 unfold Vi fol
 rw [Zwf hw,Option.bind_some]
 cases h:inB l s a 1 with
 | false=>rfl
 | true =>
  have h':=inB_iff.1 h
  have ha:=Z5n hw h
  have hq:=Zoa (wd l s a)
  simp only [if_true,Bool.not_true,cond_false]
  rw [(Zf6 h'.1 h'.2.1).1,Option.bind_some,(Zvd h).1,Option.bind_some,Zxo (Znz hw _ _),Option.bind_some]
  revert hq
  generalize dc (wd l s a)=p
  intro hq
  have ho:=hq.o
  by_cases k0:p.Kind=0
  ·rw [show (p.Kind == 0)=true from by rw [k0];rfl,cond_true,if_pos k0];rfl
  rw [show (p.Kind == 0)=false from X2 k0,cond_false,if_neg k0]
  by_cases k3:p.Kind=3
  ·have hf:=hq.f k3
   rw [show (p.Kind == 3)=true from by rw [k3];rfl,cond_true,cond_true,if_pos k3]
   cases hd:p.Double with
   | true =>
    rw [cond_true,if_pos ⟨k3,rfl⟩,Zwf hw,Option.bind_some,Yg (by omega) (by omega),Zwf hw]
    have h2:=Yd4 (l:=l) (s:=p.Segment) hf
    cases b1:inB l p.Segment p.Off 1 with
    | false =>
     rw [h2,b1]
     rfl
    | true =>
     rw [cond_true,Option.bind_some,Option.bind_some,Bool.not_true,cond_false,h2,b1,Bool.true_and]
     cases b2:inB l p.Segment (p.Off+1) 1 with
     | false=>rfl
     | true =>
      have b1':=inB_iff.1 b1
      rw [Bool.not_true,cond_false,(Zf6 b1'.1 b1'.2.1).1,Option.bind_some,(Zvd b1).1,Option.bind_some,Zxo (Znz hw _ _),Option.bind_some,(Zvd b2).1,Option.bind_some,Zxo (Znz hw _ _),Option.bind_some]
      simp only [if_true]
      generalize dc (wd l p.Segment p.Off)=b
      have hq2:=Zoa (wd l p.Segment (p.Off+1))
      revert hq2
      generalize dc (wd l p.Segment (p.Off+1))=q
      intro hq2
      by_cases b3:b.Kind=3
      ·rw [show (b.Kind != 3)=false from by rw [b3];rfl,cond_false]
       cases bd:b.Double with
       | true=>rw [cond_true,if_neg (by simp)];rfl
       | false =>
        rw [cond_false,if_pos ⟨b3,rfl⟩]
        by_cases ho':q.Off=0
        ·rw [if_neg (by simp [ho'])]
         refine Z1m hw hq2 b.Segment b.Off ?_
         funext y
         rw [show (q.Off != 0)=false from by rw [ho'];rfl]
         cases (y == 0) <;> rfl
        rw [Zy5,Option.bind_some,show (q.Off != 0)=true from bne_iff_ne.2 ho']
        by_cases hq4:q.Kind=4
        ·exact absurd (hq2.z (.inr hq4)) ho'
        by_cases hk:q.Kind=1∨q.Kind=2
        ·rw [if_neg hq4,if_pos hk,if_pos ⟨hq4,ho'⟩];rfl
        rw [if_neg hq4,if_neg hk,if_pos ⟨hq4,ho'⟩];rfl
      rw [show (b.Kind != 3)=true from bne_iff_ne.2 b3,cond_true,cond_true,if_neg (by simp [b3])]
      rfl
   | false =>
    rw [cond_false,if_neg (by simp),Zwf hw,Option.bind_some]
    cases b1:inB l p.Segment p.Off 1 with
    | false=>rfl
    | true =>
     have b1':=inB_iff.1 b1
     rw [Bool.not_true,cond_false,(Zf6 b1'.1 b1'.2.1).1,Option.bind_some,(Zvd b1).1,Option.bind_some,Zxo (Znz hw _ _),Option.bind_some,Option.bind_some]
     have hq2:=Zoa (wd l p.Segment p.Off)
     have ho2:=hq2.o
     have ha2:=Z5n hw b1
     simp only [Z9m]
     rw [Yg (x:=p.Off+1) (by omega) (by omega),Yg (by omega) (by omega)]
     exact Z1m hw hq2 _ _ rfl
  rw [show (p.Kind == 3)=false from X2 k3,cond_false,cond_false,cond_false,if_neg (by simp [k3]),if_neg k3,Option.bind_some]
  simp only [Z9m]
  rw [Yg (x:=a+1) (by omega) (by omega),Yg (by omega) (by omega)]
  exact Z1m hw hq _ _ rfl
theorem Yck {l:List (List Int)} {p:Zx} (h:PB p) {s a:Int}:((tgt l p s a).2≠0∧(tgt l p s a).1=l0)∨((tgt l p s a).2=0∧(p.Kind=1∨p.Kind=2)∧(tgt l p s a).1=⟨Z25 p,s,a⟩∧inB l s a (pw p)=true):=by
 unfold tgt
 by_cases k4:p.Kind=4
 ·rw [if_pos k4];exact .inl ⟨by simp,rfl⟩
 rw [if_neg k4]
 by_cases k:p.Kind=1∨p.Kind=2
 ·rw [if_pos k]
  by_cases hi:inB l s a (pw p)=true
  ·rw [if_pos hi];exact .inr ⟨rfl,k,rfl,hi⟩
  rw [if_neg hi];exact .inl ⟨by simp,rfl⟩
 rw [if_neg k];exact .inl ⟨by simp,rfl⟩
theorem Yba {p:Zx} (h:PB p):PB (Z25 p):=⟨h.k,by simp [Z25],h.d,h.q,h.c,h.n,h.s,fun _=>by simp [Z25],fun _=>rfl⟩
theorem Yb8 (l:List (List Int)) (s a:Int):((fol l s a).1=l0)∨((fol l s a).2=0∧∃ p s' a',PB p∧p.Off=0∧(p.Kind=1∨p.Kind=2)∧(fol l s a).1=⟨p,s',a'⟩∧inB l s' a' (pw p)=true):=by
 have key:∀ (w s a:Int),((tgt l (dc w) s a).1=l0)∨((tgt l (dc w) s a).2=0∧∃ p s' a',PB p∧p.Off=0∧(p.Kind=1∨p.Kind=2)∧(tgt l (dc w) s a).1=⟨p,s',a'⟩∧inB l s' a' (pw p)=true):=fun w s a=>by
  rcases Yck (l:=l) (Zoa w) (s:=s) (a:=a) with h | ⟨h1,h2,h3,h4⟩
  ·exact .inl h.2
  exact .inr ⟨h1,Z25 (dc w),s,a,Yba (Zoa w),rfl,h2,h3,h4⟩
 unfold fol
 by_cases h:inB l s a 1=true
 ·rw [if_pos h]
  simp only
  split
  ·exact .inl rfl
  split
  ·split
   ·split
    ·split
     ·exact .inl rfl
     exact key _ _ _
    exact .inl rfl
   exact .inl rfl
  split
  ·split
   ·exact key _ _ _
   exact .inl rfl
  exact key _ _ _
 rw [if_neg h];exact .inl rfl
def r0:Zc:=⟨none,0,0,0,0,0,0,0,0⟩
def Zy (r:Zc):Int:=if r.kind=1 then r.ptrs else r.count
def atR (A:Zl) (s a:Int):Zc×Int :=
 let x:=fol A.segments s a
 if x.2≠0∨x.1.P.Kind=0 then (r0,x.2)
 else if x.1.P.Kind=1 then (⟨some A,1,x.1.Segment,x.1.At,x.1.P.Data,x.1.P.Ptrs,0,0,0⟩,0)
 else if x.1.P.Code=7 then
  let t:=dc (wd A.segments x.1.Segment x.1.At)
  if (t.Kind≠0∧t.Kind≠1)∨t.Off < 0∨x.1.P.Count < t.Off * (t.Data+t.Ptrs) then (r0,8)
  else (⟨some A,9,x.1.Segment,x.1.At,t.Data,t.Ptrs,t.Off,0,0⟩,0)
 else (⟨some A,x.1.P.Code+2,x.1.Segment,x.1.At,0,0,x.1.P.Count,0,0⟩,0)
inductive OKr (A:Zl):Zc→Prop
 | z:OKr A r0
 | st (s a d p:Int) (hd:0≤d∧d < 65536) (hp:0≤p∧p < 65536) (hi:inB A.segments s a (d+p)=true):OKr A ⟨some A,1,s,a,d,p,0,0,0⟩
 | li (k s a n:Int) (hk:2≤k∧k≤8) (hn:0≤n∧n < 536870912) (hi:inB A.segments s a ((n * wdt (k - 2)+63) / 64)=true):OKr A ⟨some A,k,s,a,0,0,n,0,0⟩
 | co (s a d p n:Int) (hd:0≤d∧d < 65536) (hp:0≤p∧p < 65536) (hn:0≤n∧n < 536870912) (hw:0≤n * (d+p)∧n * (d+p) < 536870912) (hi:inB A.segments s a (n * (d+p)+1)=true):OKr A ⟨some A,9,s,a,d,p,n,0,0⟩
 | at_ (s a c i n:Int) (hc:0≤c∧c≤5) (h0:0≤i) (h1:i < n) (hn:n < 536870912) (hi:inB A.segments s a ((n * wdt c+63) / 64)=true):OKr A ⟨some A,10,s,a,0,0,0,c,i⟩
theorem Z2v {A:Zl} {r:Zc} (h:OKr A r):0≤r.kind∧r.kind≤10:=by cases h <;> simp [r0] <;> omega
theorem Zjl (l:List (List Int)) (s a:Int):((fol l s a).2≠0∨(fol l s a).1.P.Kind=0)∨((fol l s a).2=0∧PB (fol l s a).1.P∧((fol l s a).1.P.Kind=1∨(fol l s a).1.P.Kind=2)∧inB l (fol l s a).1.Segment (fol l s a).1.At (pw (fol l s a).1.P)=true):=by
 rcases Yb8 l s a with h | ⟨h1,p,s',a',hp,ho,hk,h,hi⟩
 ·rw [h];exact .inl (.inr rfl)
 rw [h];exact .inr ⟨h1,hp,hk,hi⟩
section
variable {A:Zl}
theorem Z5b (w:Int):0≤(dc w).Data∧(dc w).Data < 65536∧0≤(dc w).Ptrs∧(dc w).Ptrs < 65536∧(dc w).Off < 536870912:=by
 have h:=Zoa w
 exact ⟨h.d.1,h.d.2,h.q.1,h.q.2,h.o.2⟩
theorem Z9c {n x:Int} (h0:-536870912≤n∧n < 536870912) (h1:0≤x∧x≤131070):-70368744177664≤n * x∧n * x≤70368744177664:=by
 constructor
 ·have:-536870912 * 131070≤n * x:=by
   rcases Int.le_total 0 n with h | h
   ·have:=Int.mul_nonneg h h1.1;omega
   have h2:n * 131070≤n * x:=Int.mul_le_mul_of_nonpos_left h h1.2
   have h3:-536870912 * 131070≤n * 131070:=Int.mul_le_mul_of_nonneg_right h0.1 (by omega)
   omega
  omega
 rcases Int.le_total 0 n with h | h
 ·have h2:n * x≤n * 131070:=Int.mul_le_mul_of_nonneg_left h1.2 h
  have h3:n * 131070≤536870912 * 131070:=Int.mul_le_mul_of_nonneg_right (by omega) (by omega)
  omega
 have:=Int.mul_nonpos_of_nonpos_of_nonneg h h1.1
 omega
theorem Zjh (s a:Int):OKr A (atR A s a).1:=by
 unfold atR
 rcases Zjl A.segments s a with h | ⟨h1,hp,hk,hi⟩
 ·rw [if_pos h];exact .z
 rw [if_neg (by omega)]
 generalize (fol A.segments s a).1=x at *
 by_cases k1:x.P.Kind=1
 ·rw [if_pos k1]
  have:pw x.P=x.P.Data+x.P.Ptrs:=by unfold pw;rw [if_pos k1]
  rw [this] at hi
  exact .st _ _ _ _ hp.d hp.q hi
 rw [if_neg k1]
 have k2:x.P.Kind=2:=by omega
 by_cases c7':x.P.Code=7
 ·rw [if_pos c7']
  have hpw:pw x.P=x.P.Count+1:=by unfold pw;rw [if_neg k1,if_pos c7']
  rw [hpw] at hi
  have ht:=Z5b (wd A.segments x.Segment x.At)
  simp only
  generalize dc (wd A.segments x.Segment x.At)=t at *
  split
  ·exact .z
  rename_i hc
  have hn:=hp.n
  have h0:0≤t.Off * (t.Data+t.Ptrs):=Int.mul_nonneg (by omega) (by omega)
  have hi':=inB_iff.1 hi
  exact .co _ _ _ _ _ (by omega) (by omega) (by omega) (by omega) (inB_iff.2 ⟨hi'.1,hi'.2.1,hi'.2.2.1,by omega,by omega⟩)
 rw [if_neg c7']
 have hpw:pw x.P=(x.P.Count * wdt x.P.Code+63) / 64:=by unfold pw;rw [if_neg k1,if_neg c7']
 rw [hpw] at hi
 have hc:=hp.c
 exact .li _ _ _ _ (by omega) hp.n (by rw [show x.P.Code+2 - 2=x.P.Code by omega];exact hi)
theorem Z8d (hw:WS A.segments) (s a:Int):Zdj (some A) s a=some (atR A s a):=by
 unfold Zdj atR
 rw [Z62 hw,Option.bind_some]
 simp only
 rcases Zjl A.segments s a with h | ⟨h1,hp,hk,hi⟩
 ·rw [if_pos h]
  have:cond ((fol A.segments s a).2 != 0) true ((fol A.segments s a).1.P.Kind == 0)=true:=by
   rcases h with h | h
   ·rw [bne_iff_ne.2 h];rfl
   rw [show ((fol A.segments s a).1.P.Kind == 0)=true from by rw [h];rfl]
   cases ((fol A.segments s a).2 != 0) <;> rfl
  rw [this,cond_true];rfl
 rw [if_neg (by omega),h1,show ((0:Int) != 0)=false from rfl,cond_false]
 generalize (fol A.segments s a).1=x at *
 rw [show (x.P.Kind == 0)=false from X2 (by omega),cond_false]
 by_cases k1:x.P.Kind=1
 ·rw [if_pos k1,show (x.P.Kind == 1)=true from by rw [k1];rfl,cond_true]
 rw [if_neg k1,show (x.P.Kind == 1)=false from X2 k1,cond_false]
 have hc:=hp.c
 by_cases c7':x.P.Code=7
 ·rw [if_pos c7',show (x.P.Code == 7)=true from by rw [c7'];rfl,cond_true]
  have hpw:pw x.P=x.P.Count+1:=by unfold pw;rw [if_neg k1,if_pos c7']
  rw [hpw] at hi
  have hn:=hp.n
  have hi':=inB_iff.1 hi
  have hi1:inB A.segments x.Segment x.At 1=true:=inB_iff.2 ⟨hi'.1,hi'.2.1,hi'.2.2.1,by omega,by omega⟩
  unfold Zb7
  simp only
  rw [Zsq hw,if_pos hi1,Option.bind_some,Z2d (Znz hw _ _),Option.bind_some]
  have ht:=Z5b (wd A.segments x.Segment x.At)
  have ho:=(Zoa (wd A.segments x.Segment x.At)).o
  generalize dc (wd A.segments x.Segment x.At)=t at *
  have hm:=Z9c (n:=t.Off) (x:=t.Data+t.Ptrs) ho (by omega)
  rw [Yg (x:=t.Data+t.Ptrs) (by omega) (by omega),Yg (x:=t.Off * (t.Data+t.Ptrs)) (by omega) (by omega),Yg (x:=x.P.Code+2) (by omega) (by omega),c7']
  by_cases hq:(t.Kind≠0∧t.Kind≠1)∨t.Off < 0∨x.P.Count < t.Off * (t.Data+t.Ptrs)
  ·rw [if_pos hq]
   have:cond (cond (cond (t.Kind != 0) (t.Kind != 1) false) true (decide (t.Off < 0))) true (decide (x.P.Count < t.Off * (t.Data+t.Ptrs)))=true:=by
    rcases hq with ⟨q1,q2⟩ | q | q
    ·rw [bne_iff_ne.2 q1,bne_iff_ne.2 q2];rfl
    ·rw [decide_eq_true q];cases (cond (t.Kind != 0) (t.Kind != 1) false) <;> rfl
    rw [decide_eq_true q];cases (cond (cond (t.Kind != 0) (t.Kind != 1) false) true (decide (t.Off < 0))) <;> rfl
   rw [this,cond_true];rfl
  rw [if_neg hq]
  have e1:cond (t.Kind != 0) (t.Kind != 1) false=false:=by
   by_cases q0:t.Kind=0
   ·rw [show (t.Kind != 0)=false from by rw [q0];rfl];rfl
   have q1:t.Kind=1:=by omega
   rw [show (t.Kind != 1)=false from by rw [q1];rfl]
   cases (t.Kind != 0) <;> rfl
  rw [e1,cond_false,show decide (t.Off < 0)=false from by rw [decide_eq_false_iff_not];omega,cond_false,show decide (x.P.Count < t.Off * (t.Data+t.Ptrs))=false from by rw [decide_eq_false_iff_not];omega]
  rfl
 rw [if_neg c7',show (x.P.Code == 7)=false from X2 c7',cond_false,Yg (x:=x.P.Code+2) (by omega) (by omega)]
theorem Zj5 (r:Zc):Y6 r=some (Zy r):=by
 unfold Y6 Zy
 by_cases h:r.kind=1
 ·rw [if_pos h,show (r.kind == 1)=true from by rw [h];rfl];rfl
 rw [if_neg h,show (r.kind == 1)=false from X2 h];rfl
def Z9 (A:Zl) (r:Zc) (i:Int):Zc×Int :=
 if i < 0∨Zy r≤i then (r0,0)
 else if r.kind=1 then atR A r.segment (r.at_+r.words+i)
 else if r.kind=8 then atR A r.segment (r.at_+i)
 else if r.kind=9 then (⟨some A,1,r.segment,r.at_+1+i * (r.words+r.ptrs),r.words,r.ptrs,0,0,0⟩,0)
 else (⟨some A,10,r.segment,r.at_,0,0,0,r.kind - 2,i⟩,0)
theorem Jq {r:Zc} (h:OKr A r) (i:Int):OKr A (Z9 A r i).1:=by
 unfold Z9
 by_cases hi:i < 0∨Zy r≤i
 ·rw [if_pos hi];exact .z
 rw [if_neg hi]
 by_cases k1:r.kind=1
 ·rw [if_pos k1];exact Zjh _ _
 rw [if_neg k1]
 by_cases k8:r.kind=8
 ·rw [if_pos k8];exact Zjh _ _
 rw [if_neg k8]
 by_cases k9:r.kind=9
 ·rw [if_pos k9]
  cases h with
  | z=>simp [r0] at k9
  | st _ _ _ _=>simp at k1
  | li k s a n hk=>simp only at k9;omega
  | at_=>simp at k9
  | co s a d p n hd hp hn hw hin =>
   simp only
   have hi':=inB_iff.1 hin
   simp only [Zy] at hi
   rw [if_neg (by omega)] at hi
   have h1:0≤i * (d+p):=Int.mul_nonneg (by omega) (by omega)
   have h2:(i+1) * (d+p)≤n * (d+p):=Int.mul_le_mul_of_nonneg_right (by omega) (by omega)
   rw [Int.add_mul,Int.one_mul] at h2
   exact .st _ _ _ _ hd hp (inB_iff.2 ⟨hi'.1,hi'.2.1,by omega,by omega,by omega⟩)
 rw [if_neg k9]
 cases h with
 | z=>simp [r0,Zy] at hi;omega
 | st _ _ _ _=>simp at k1
 | co=>simp at k9
 | at_=>simp [Zy] at hi;omega
 | li k s a n hk hn hin =>
  simp only at k8 k9 ⊢
  simp only [Zy] at hi
  rw [if_neg (by omega)] at hi
  exact .at_ _ _ _ _ n (by omega) (by omega) (by omega) (by omega) hin
theorem Zs2 (hw:WS A.segments) {s a n:Int} (h:inB A.segments s a n=true):0≤a∧0≤n∧a+n≤17592186044416:=by
 have h':=inB_iff.1 h
 have:=Znm hw s
 omega
theorem Z8u (hw:WS A.segments) {r:Zc} (h:OKr A r) (i:Int):Kv r i=some (Z9 A r i):=by
 unfold Kv Z9
 rw [Zj5]
 have hz:(cond (decide (i < 0)) (some true) ((some (Zy r)).bind fun y4=>some (cond (decide (i < 0)) true (decide (y4≤i)))))=some (decide (i < 0∨Zy r≤i)):=by
  by_cases h0:i < 0
  ·rw [decide_eq_true h0,cond_true,show decide (i < 0∨Zy r≤i)=true from decide_eq_true (.inl h0)]
  rw [decide_eq_false h0,cond_false,Option.bind_some,cond_false]
  congr 1
  rw [decide_eq_decide]
  omega
 rw [hz,Option.bind_some]
 by_cases hi:i < 0∨Zy r≤i
 ·rw [if_pos hi,decide_eq_true hi];rfl
 rw [if_neg hi,decide_eq_false hi,cond_false]
 cases h with
 | z=>exact absurd hi (by first | (simp [Zy,r0];done) | (simp [Zy,r0];omega))
 | at_=>exact absurd hi (by first | (simp [Zy];done) | (simp [Zy];omega))
 | st s a d p hd hp hin =>
  have:=Zs2 hw hin
  simp only [Zy,if_true] at hi
  simp only [beq_self_eq_true,cond_true,if_true]
  rw [Yg (x:=a+d) (by omega) (by omega),Yg (by omega) (by omega),Z8d hw]
  rfl
 | co s a d p n hd hp hn hwx hin =>
  have:=Zs2 hw hin
  simp only [Zy] at hi
  rw [if_neg (by omega)] at hi
  simp only [show ((9:Int) == 1)=false from rfl,show ((9:Int) == 8)=false from rfl,show ((9:Int) == 9)=true from rfl,cond_true,cond_false,show ¬ (9:Int)=1 from by decide,show ¬ (9:Int)=8 from by decide,if_false,if_true]
  have h1:0≤i * (d+p):=Int.mul_nonneg (by omega) (by omega)
  have h2:(i+1) * (d+p)≤n * (d+p):=Int.mul_le_mul_of_nonneg_right (by omega) (by omega)
  rw [Int.add_mul,Int.one_mul] at h2
  rw [Yg (x:=a+1) (by omega) (by omega),Yg (x:=d+p) (by omega) (by omega),Yg (x:=i * (d+p)) (by omega) (by omega),Yg (by omega) (by omega)]
 | li k s a n hk hn hin =>
  have:=Zs2 hw hin
  simp only [Zy] at hi
  rw [if_neg (by omega)] at hi
  simp only
  rw [show (k == 1)=false from X2 (by omega),cond_false,if_neg (by omega),show (k == 9)=false from X2 (by omega)]
  by_cases k8:k=8
  ·have hp:(n * wdt (k - 2)+63) / 64=n:=by rw [k8];simp [wdt];omega
   rw [show (k == 8)=true from by rw [k8];rfl,cond_true,if_pos k8,Yg (by omega) (by omega),Z8d hw]
   rfl
  rw [show (k == 8)=false from X2 k8,cond_false,cond_false,if_neg k8,if_neg (by omega),Yg (by omega) (by omega)]
def Za9 (r:Zc):Int:=if r.kind=1 then r.words else if r.kind=10 then 1 else 0
theorem Zqc (r:Zc):Ja r=some (Za9 r):=by
 unfold Ja Za9
 by_cases h:r.kind=1
 ·rw [if_pos h,show (r.kind == 1)=true from by rw [h];rfl];rfl
 rw [if_neg h,show (r.kind == 1)=false from X2 h]
 by_cases h':r.kind=10
 ·rw [if_pos h',show (r.kind == 10)=true from by rw [h'];rfl];rfl
 rw [if_neg h',show (r.kind == 10)=false from X2 h'];rfl
def Z09 (w:Int) (c j:Int):Int:=((w.toNat / 2 ^ (j * wdt c).toNat % 2 ^ (wdt c).toNat:Nat):Int)
def each (c:Int):Int:=64 / wdt c
def Zyd (A:Zl) (r:Zc):Int:=if r.code=0 then 0 else Z09 (wd A.segments r.segment (r.at_+r.index / each r.code)) r.code (r.index % each r.code)
theorem c5 {c:Int} (h:0≤c∧c≤5):c=0∨c=1∨c=2∨c=3∨c=4∨c=5:=by omega
theorem Z0b {c:Int} (h:0≤c∧c≤5):Jh c=some (wdt c,true):=by
 unfold Jh
 rcases c5 h with rfl | rfl | rfl | rfl | rfl | rfl <;> rfl
theorem Z69 (w:Nat) (k:Nat) (hw:w < 18446744073709551616) (hk:k≤64):IntKind.u64.wrap (Zdg .u64 (w:Int) (IntKind.u64.wrap (IntKind.u64.wrap (1 * 2 ^ min (Int.toNat (k:Int)) 64) - 1)))=((w % 2 ^ k:Nat):Int):=by
 have hm:IntKind.u64.wrap (IntKind.u64.wrap (1 * 2 ^ min (Int.toNat (k:Int)) 64) - 1)=((2 ^ k - 1:Nat):Int):=by
  rw [Int.toNat_natCast,Nat.min_eq_left hk,Z07]
  rcases Nat.lt_or_ge k 64 with h | h
  ·have h1:2 ^ k≤2 ^ 63:=Nat.pow_le_pow_right (by decide) (by omega)
   have h2:0 < 2 ^ k:=Nat.pow_pos (by decide)
   rw [Int.one_mul,Z3u (2 ^ k) (by omega),show (((2 ^ k:Nat):Int) - 1)=((2 ^ k - 1:Nat):Int) by omega,Z3u _ (by omega)]
  have:k=64:=by omega
  subst this
  decide
 rw [hm]
 have e:Zdg .u64 (w:Int) ((2 ^ k - 1:Nat):Int)=((w &&& (2 ^ k - 1):Nat):Int):=by
  unfold Zdg
  congr 1
  have h1:2 ^ k≤2 ^ 64:=Nat.pow_le_pow_right (by decide) hk
  have h2:0 < 2 ^ k:=Nat.pow_pos (by decide)
  rw [BitVec.toNat_and]
  have e1:(BitVec.ofInt (IntKind.u64).bits (w:Int)).toNat=w:=by
   show (BitVec.ofInt 64 (w:Int)).toNat=w
   rw [BitVec.ofInt_natCast,BitVec.toNat_ofNat]
   exact Nat.mod_eq_of_lt (by omega)
  have e2:(BitVec.ofInt (IntKind.u64).bits ((2 ^ k - 1:Nat):Int)).toNat=2 ^ k - 1:=by
   show (BitVec.ofInt 64 ((2 ^ k - 1:Nat):Int)).toNat=2 ^ k - 1
   rw [BitVec.ofInt_natCast,BitVec.toNat_ofNat]
   exact Nat.mod_eq_of_lt (by omega)
  rw [e1,e2]
 rw [e,Nat.and_two_pow_sub_one_eq_mod]
 have:w % 2 ^ k≤w:=Nat.mod_le _ _
 exact IntWalk.u64_in _ (by omega)
theorem Ybo {w c j:Int} (hw:0≤w∧w < 18446744073709551616) (hc:1≤c∧c≤5) (hj:0≤j∧j < each c):Zjv [w] c j=some (Z09 w c j):=by
 unfold Zjv Z09
 rw [Z0b (by omega),Option.bind_some]
 simp only
 obtain ⟨d,e,hd⟩:∃ d:Nat,wdt c=(d:Int)∧(d=1∨d=8∨d=16∨d=32∨d=64):=by
  rcases c5 (c:=c) (by omega) with rfl | rfl | rfl | rfl | rfl | rfl
  ·omega
  ·exact ⟨1,rfl,by omega⟩
  ·exact ⟨8,rfl,by omega⟩
  ·exact ⟨16,rfl,by omega⟩
  ·exact ⟨32,rfl,by omega⟩
  exact ⟨64,rfl,by omega⟩
 have he:each c=((64 / d:Nat):Int):=by unfold each;rw [e];rfl
 have hdd:64 / d * d=64:=by rcases hd with rfl | rfl | rfl | rfl | rfl <;> rfl
 have hdp:1≤d∧d≤64:=by omega
 have hep:1≤64 / d∧64 / d≤64:=by rcases hd with rfl | rfl | rfl | rfl | rfl <;> decide
 rw [he] at hj
 obtain ⟨q,rfl⟩:∃ q:Nat,j=q:=⟨j.toNat,by omega⟩
 have hq:q < 64 / d:=by omega
 have hqd:q * d+d≤64:=by
  have:(q+1) * d≤64 / d * d:=Nat.mul_le_mul_right d hq
  rw [Nat.add_mul] at this
  omega
 rw [e]
 have t1:Int.tdiv 64 (d:Int)=((64 / d:Nat):Int):=by rw [Int.tdiv_eq_ediv_of_nonneg (by decide)];rfl
 have t2:Int.tdiv (q:Int) ((64 / d:Nat):Int)=0:=by
  rw [Int.tdiv_eq_ediv_of_nonneg (by omega),show ((q:Int) / ((64 / d:Nat):Int))=((q / (64 / d):Nat):Int) from rfl,Nat.div_eq_of_lt hq]
  rfl
 have t3:Int.tmod (q:Int) ((64 / d:Nat):Int)=(q:Int):=by
  rw [Int.tmod_eq_emod_of_nonneg (by omega),show ((q:Int) % ((64 / d:Nat):Int))=((q % (64 / d):Nat):Int) from rfl,Nat.mod_eq_of_lt hq]
 rw [t1,Yg (x:=((64 / d:Nat):Int)) (by omega) (by omega),t2,t3,show IntKind.i64.wrap 0=0 from by decide]
 have t4:((q:Int) * (d:Int))=((q * d:Nat):Int):=by simp
 rw [t4,Yg (x:=((q * d:Nat):Int)) (by omega) (by omega),show (((d:Nat):Int) == 0)=false from X2 (by omega),show decide ((q:Int) < 0)=false from by rw [decide_eq_false_iff_not];omega]
 simp only [cond_false]
 have g0:Y9 [w] 0=some w:=rfl
 have e1:Xj ((d:Int)≠0)=some ():=Vd (by omega)
 have e2:Xj (((64 / d:Nat):Int)≠0)=some ():=Vd (by omega)
 have e3:Xj (0≤((q * d:Nat):Int))=some ():=Vd (by omega)
 have e4:Xj (0≤(d:Int))=some ():=Vd (by omega)
 simp only [e1,e2,e3,e4,g0,Option.bind_some,cond_false,show decide ((([w]:List Int).length:Int)≤0)=false from rfl]
 congr 1
 have hwn:w=((w.toNat:Nat):Int):=by omega
 have hf:Int.fdiv w (2 ^ min (Int.toNat ((q * d:Nat):Int)) 64)=((w.toNat / 2 ^ (q * d):Nat):Int):=by
  rw [Int.toNat_natCast,Nat.min_eq_left (by omega),Z07,Int.fdiv_eq_ediv_of_nonneg _ (Int.natCast_nonneg _)]
  conv=>lhs;rw [hwn]
  rfl
 rw [hf,Z69 _ d (Nat.lt_of_le_of_lt (Nat.div_le_self _ _) (by omega)) (by omega)]
 rw [Int.toNat_natCast,Int.toNat_natCast]
end
section
variable {A:Zl}
def Z6k (A:Zl) (r:Zc) (i:Int):Int :=
 if i < 0∨Za9 r≤i then 0 else if r.kind=10 then Zyd A r else wd A.segments r.segment (r.at_+i)
theorem Z5p {c i n:Int} (hc:1≤c∧c≤5) (h0:0≤i) (h1:i < n) (hn:n < 536870912):1≤each c∧each c≤64∧0≤i / each c∧i / each c+1≤(n * wdt c+63) / 64∧0≤i % each c∧i % each c < each c∧Int.tdiv 64 (wdt c)=each c∧wdt c≠0:=by
 rcases c5 (c:=c) (by omega) with rfl | rfl | rfl | rfl | rfl | rfl
 ·omega
 ·have e1:each 1=64:=by decide
  have e2:wdt 1=1:=by decide
  rw [e1,e2];exact ⟨by omega,by omega,by omega,by omega,by omega,by omega,by decide,by decide⟩
 ·have e1:each 2=8:=by decide
  have e2:wdt 2=8:=by decide
  rw [e1,e2];exact ⟨by omega,by omega,by omega,by omega,by omega,by omega,by decide,by decide⟩
 ·have e1:each 3=4:=by decide
  have e2:wdt 3=16:=by decide
  rw [e1,e2];exact ⟨by omega,by omega,by omega,by omega,by omega,by omega,by decide,by decide⟩
 ·have e1:each 4=2:=by decide
  have e2:wdt 4=32:=by decide
  rw [e1,e2];exact ⟨by omega,by omega,by omega,by omega,by omega,by omega,by decide,by decide⟩
 have e1:each 5=1:=by decide
 have e2:wdt 5=64:=by decide
 rw [e1,e2];exact ⟨by omega,by omega,by omega,by omega,by omega,by omega,by decide,by decide⟩
theorem Z7g (hw:WS A.segments) {s a c i n:Int} (hc:0≤c∧c≤5) (h0:0≤i) (h1:i < n) (hn:n < 536870912) (hi:inB A.segments s a ((n * wdt c+63) / 64)=true):U6 ⟨some A,10,s,a,0,0,0,c,i⟩=some (Zyd A ⟨some A,10,s,a,0,0,0,c,i⟩):=by
 unfold U6 Zyd
 simp only
 rw [Z0b hc,Option.bind_some]
 simp only
 by_cases hz:c=0
 ·subst hz
  rw [show (wdt 0 == 0)=true from by decide,cond_true,if_pos rfl]
 obtain ⟨a1,a2,a3,a4,a5,a6,a7,a8⟩:=Z5p (c:=c) (by omega) h0 h1 hn
 have hr:=Zs2 hw hi
 have hi':=inB_iff.1 hi
 have hin:inB A.segments s (a+i / each c) 1=true:=inB_iff.2 ⟨hi'.1,hi'.2.1,by omega,by omega,by omega⟩
 rw [show (wdt c == 0)=false from X2 a8,cond_false,if_neg hz,a7,Yg (x:=each c) (by omega) (by omega),Int.tdiv_eq_ediv_of_nonneg h0,Int.tmod_eq_emod_of_nonneg h0,Yg (x:=i / each c) (by omega) (by omega),Yg (x:=a+i / each c) (by omega) (by omega)]
 have e1:Xj (wdt c≠0)=some ():=Vd a8
 have e2:Xj (each c≠0)=some ():=Vd (by omega)
 simp only [e1,e2,Option.bind_some]
 rw [Zsq hw,if_pos hin,Option.bind_some]
 simp only
 rw [Ybo (Znz hw _ _) (by omega) ⟨a5,a6⟩,Option.bind_some]
theorem Ybq (hw:WS A.segments) {r:Zc} (h:OKr A r) (i:Int):Zav r i=some (Z6k A r i):=by
 unfold Zav Z6k
 rw [Zqc]
 have hz:(cond (decide (i < 0)) (some true) ((some (Za9 r)).bind fun y4=>some (cond (decide (i < 0)) true (decide (y4≤i)))))=some (decide (i < 0∨Za9 r≤i)):=by
  by_cases h0:i < 0
  ·rw [decide_eq_true h0,cond_true,show decide (i < 0∨Za9 r≤i)=true from decide_eq_true (.inl h0)]
  rw [decide_eq_false h0,cond_false,Option.bind_some,cond_false]
  congr 1
  rw [decide_eq_decide]
  omega
 rw [hz,Option.bind_some]
 by_cases hi:i < 0∨Za9 r≤i
 ·rw [if_pos hi,decide_eq_true hi];rfl
 rw [if_neg hi,decide_eq_false hi,cond_false]
 cases h with
 | z=>exact absurd hi (by simp [Za9,r0];try omega)
 | li k s a n hk hn hin=>exact absurd hi (by simp only [Za9];rw [if_neg (by omega),if_neg (by omega)];omega)
 | co s a d p n hd hp hn hwx hin=>exact absurd hi (by simp [Za9];try omega)
 | at_ s a c i' n hc h0 h1 hn hin =>
  simp only [beq_self_eq_true,cond_true,if_true]
  rw [Z7g hw hc h0 h1 hn hin]
  rfl
 | st s a d p hd hp hin =>
  have:=Zs2 hw hin
  have hi':=inB_iff.1 hin
  simp only [Za9,if_true] at hi
  simp only [show ((1:Int) == 10)=false from rfl,cond_false,show ¬ (1:Int)=10 from by decide,if_false]
  rw [Yg (by omega) (by omega),Zsq hw,if_pos (inB_iff.2 ⟨hi'.1,hi'.2.1,by omega,by omega,by omega⟩)]
  rfl
theorem Z6a (hw:WS A.segments):Zcu (some A)=some (atR A 0 0):=by
 unfold Zcu
 rw [Z8d hw]
 rfl
end
abbrev Tr:=Za
def lvR (r:Zc):Int:=if r.kind=0 then 0 else if r.kind=9∧0 < r.count then 2 else 1
def wtR (r:Zc):Int:=if r.kind=0 then 0 else if r.kind=1 then 1+r.words+r.ptrs else if r.kind=9 then 1+r.count * (1+r.words+r.ptrs) else 1+r.count
theorem Z7b (r:Zc):Zdn r=some (lvR r):=by
 have hk:Yy r=some r.kind:=rfl
 unfold Zdn lvR
 rw [hk,Zj5,Option.bind_some]
 by_cases h0:r.kind=0
 ·rw [show (r.kind == 0)=true from by rw [h0];rfl,if_pos h0];rfl
 rw [show (r.kind == 0)=false from X2 h0,if_neg h0,cond_false,Option.bind_some]
 by_cases h9:r.kind=9
 ·have hkn:Zy r=r.count:=by unfold Zy;rw [if_neg (by omega)]
  rw [show (r.kind == 9)=true from by rw [h9];rfl,cond_true,Option.bind_some,Option.bind_some,cond_true,hkn]
  by_cases hc:0 < r.count
  ·rw [if_pos ⟨h9,hc⟩,decide_eq_true hc];rfl
  rw [if_neg (fun q=>hc q.2),decide_eq_false hc];rfl
 rw [show (r.kind == 9)=false from X2 h9,if_neg (fun q=>h9 q.1)];rfl
section
variable {A:Zl}
theorem Z30 (hw:WS A.segments) {r:Zc} (h:OKr A r):0≤wtR r∧wtR r≤4503599627370496∧(r.kind≠0→1≤wtR r):=by
 cases h with
 | z=>simp [wtR,r0]
 | st s a d p hd hp hin=>simp [wtR];omega
 | li k s a n hk hn hin=>simp only [wtR];rw [if_neg (by omega),if_neg (by omega),if_neg (by omega)];omega
 | co s a d p n hd hp hn hwx hin =>
  simp only [wtR,show ¬ (9:Int)=0 from by decide,show ¬ (9:Int)=1 from by decide,if_false,if_true]
  have:n * (1+d+p)=n+n * (d+p):=by rw [Int.add_assoc,Int.mul_add,Int.mul_one]
  omega
 | at_ s a c i n hc h0 h1 hn hin=>simp [wtR]
theorem Z72 (hw:WS A.segments) {r:Zc} (h:OKr A r):Zbs r=some (wtR r):=by
 have hk:Yy r=some r.kind:=rfl
 unfold Zbs wtR
 rw [hk,Zqc,Zj5,Option.bind_some]
 cases h with
 | z=>rfl
 | st s a d p hd hp hin =>
  simp only [Za9,Zy,if_true,show ((1:Int) == 0)=false from rfl,show ((1:Int) == 1)=true from rfl,cond_false,cond_true,Option.bind_some,show ¬ (1:Int)=0 from by decide,if_false]
  rw [Yg (x:=1+d) (by omega) (by omega),Yg (by omega) (by omega)]
 | li k s a n hk' hn hin =>
  simp only [Zy]
  rw [show (k == 0)=false from X2 (by omega),show (k == 1)=false from X2 (by omega),show (k == 9)=false from X2 (by omega),if_neg (by omega),if_neg (by omega),if_neg (by omega),if_neg (by omega),cond_false,cond_false,cond_false,Option.bind_some,Yg (by omega) (by omega)]
 | co s a d p n hd hp hn hwx hin =>
  have:n * (1+d+p)=n+n * (d+p):=by rw [Int.add_assoc,Int.mul_add,Int.mul_one]
  unfold Zb6
  simp only [Zy,show ((9:Int) == 0)=false from rfl,show ((9:Int) == 1)=false from rfl,show ((9:Int) == 9)=true from rfl,show ((9:Int) != 9)=false from rfl,cond_false,cond_true,Option.bind_some,show ¬ (9:Int)=0 from by decide,show ¬ (9:Int)=1 from by decide,if_false,if_true]
  rw [Yg (x:=1+d) (by omega) (by omega),Yg (x:=1+d+p) (by omega) (by omega),Yg (x:=n * (1+d+p)) (by omega) (by omega),Yg (by omega) (by omega)]
 | at_ s a c i n hc h0 h1 hn hin=>rfl
def Xf (A:Zl) (r:Zc):List Int:=if r.kind=10 then [Zyd A r] else if r.kind=1 then ((seg A.segments r.segment).drop r.at_.toNat).take r.words.toNat else []
def Z6 (f:Zc→Int→Tr×Int×Int) (g:Int→Zc×Int):Nat→Nat→Int→List Tr→List Tr×Int×Int
 | 0,_,left,acc=>(acc,left,0)
 | m+1,i,left,acc=>if (g i).2≠0 then (acc,left,(g i).2) else if (f (g i).1 left).2.2≠0 then (acc,(f (g i).1 left).2.1,(f (g i).1 left).2.2) else Z6 f g m (i+1) (f (g i).1 left).2.1 (acc++[(f (g i).1 left).1])
def stK (A:Zl) (f:Zc→Int→Tr×Int×Int) (k:Zc) (left:Int):Tr×Int×Int :=
 let q:=Z6 f (Z9 A k) k.ptrs.toNat 0 left []
 (⟨1,Xf A k,q.1⟩,q.2)
def Zhk (A:Zl) (k:Zc) (left:Int):Tr×Int×Int:=(⟨k.kind,Xf A k,[]⟩,left,0)
def J8 (A:Zl) (f1 f2:Zc→Int→Tr×Int×Int) (r:Zc):Zc→Int→Tr×Int×Int :=
 if r.kind=9 then stK A f2 else if r.kind=1∨r.kind=8 then f1 else Zhk A
def Zeh (A:Zl) (f1 f2:Zc→Int→Tr×Int×Int) (d:Int) (r:Zc) (left:Int):Tr×Int×Int :=
 if r.kind=0 then (⟨r.kind,Xf A r,[]⟩,left,0)
 else if d < lvR r∨left < wtR r then (⟨r.kind,Xf A r,[]⟩,left,3)
 else
  let q:=Z6 (J8 A f1 f2 r) (Z9 A r) (Zy r).toNat 0 (left - wtR r) []
  (⟨r.kind,Xf A r,q.1⟩,q.2)
def bad (_:Zc) (left:Int):Tr×Int×Int:=(⟨0,[],[]⟩,left,3)
def K8 (A:Zl):Nat→Zc→Int→Tr×Int×Int
 | 0=>Zeh A bad bad 0
 | 1=>Zeh A (K8 A 0) bad 1
 | d+2=>Zeh A (K8 A (d+1)) (K8 A d) ((d+2:Nat):Int)
def Yn (A:Zl) (k:Nat) (d:Nat):Zc→Int→Tr×Int×Int:=if k≤d then K8 A (d - k) else bad
theorem Zfy (d:Nat):K8 A d=Zeh A (Yn A 1 d) (Yn A 2 d) (d:Int):=by
 match d with
 | 0=>rfl
 | 1=>rfl
 | d+2 =>
  unfold Yn
  rw [if_pos (by omega),if_pos (by omega)]
  rfl
def Lf (A:Zl) (f:Zc→Int→Tr×Int×Int):Prop:=∀ k left,OKr A k→0≤left→(f k left).2.2=0→0≤(f k left).2.1∧(f k left).2.1≤left
theorem Zs1 {f:Zc→Int→Tr×Int×Int} {g:Int→Zc×Int} (hf:Lf A f) (hg:∀ i,OKr A (g i).1):∀ (m i:Nat) (left:Int) (acc:List Tr),0≤left→(Z6 f g m i left acc).2.2=0→0≤(Z6 f g m i left acc).2.1∧(Z6 f g m i left acc).2.1≤left
 | 0,i,left,acc,h0,_=>⟨h0,Int.le_refl _⟩
 | m+1,i,left,acc,h0,h=>by
  rw [Z6] at h ⊢
  by_cases h1:(g i).2≠0
  ·rw [if_pos h1] at h;exact absurd h h1
  rw [if_neg h1] at h ⊢
  by_cases h2:(f (g i).1 left).2.2≠0
  ·rw [if_pos h2] at h;exact absurd h h2
  rw [if_neg h2] at h ⊢
  have h2':(f (g i).1 left).2.2=0:=by omega
  obtain ⟨a1,a2⟩:=hf _ _ (hg i) h0 h2'
  obtain ⟨b1,b2⟩:=Zs1 hf hg m (i+1) _ _ a1 h
  exact ⟨b1,by omega⟩
theorem Zt6:Lf A bad:=fun k left _ _ h=>by simp [bad] at h
theorem Z85 {f:Zc→Int→Tr×Int×Int} (hf:Lf A f):Lf A (stK A f):=fun k left hk h0 h=>Zs1 hf (fun i=>Jq hk i) _ _ _ _ h0 h
theorem Z83:Lf A (Zhk A):=fun k left _ h0 _=>⟨h0,Int.le_refl _⟩
theorem Z04 {f1 f2:Zc→Int→Tr×Int×Int} (h1:Lf A f1) (h2:Lf A f2) (r:Zc):Lf A (J8 A f1 f2 r):=by
 unfold J8
 split
 ·exact Z85 h2
 split
 ·exact h1
 exact Z83
theorem Z84 (hw:WS A.segments) {f1 f2:Zc→Int→Tr×Int×Int} (h1:Lf A f1) (h2:Lf A f2) (d:Int):Lf A (Zeh A f1 f2 d):=fun r left hr h0 h=>by
 have hwt:=Z30 hw hr
 unfold Zeh at h ⊢
 by_cases k0:r.kind=0
 ·rw [if_pos k0];exact ⟨h0,Int.le_refl _⟩
 rw [if_neg k0] at h ⊢
 by_cases hb:d < lvR r∨left < wtR r
 ·rw [if_pos hb] at h;simp at h
 rw [if_neg hb] at h ⊢
 have:=Zs1 (Z04 h1 h2 r) (fun i=>Jq hr i) (Zy r).toNat 0 (left - wtR r) [] (by omega) h
 simp only
 omega
theorem Zkp (hw:WS A.segments):∀ d,Lf A (K8 A d):=fun d=>by
 induction d using Nat.strongRecOn with
 | ind d ih =>
  rw [Zfy]
  refine Z84 hw ?_ ?_ _
  ·unfold Yn
   split
   ·exact ih _ (by omega)
   exact Zt6
  unfold Yn
  split
  ·exact ih _ (by omega)
  exact Zt6
end
theorem Z2y {S R:Type} {s1 s2:S→Option (S ⊕ R)} (h:∀ s x,s1 s=some x→s2 s=some x):∀ (k:Nat) (s:S) (r:R),Zdh s1 k s=some r→Zdh s2 k s=some r
 | 0,s,r,q=>by simp [Zdh] at q
 | k+1,s,r,q=>by
  simp only [Zdh] at q ⊢
  cases hs:s1 s with
  | none=>rw [hs] at q;cases q
  | some x =>
   rw [hs] at q
   rw [h s x hs]
   cases x with
   | inl s'=>exact Z2y h k s' r q
   | inr r'=>exact q
theorem Zxu {S R:Type} {s1 s2:S→Option (S ⊕ R)} (h:∀ s x,s1 s=some x→s2 s=some x) {s:S} {r:R} (q:Zw s1 s=some r):Zw s2 s=some r:=by
 obtain ⟨k,hk⟩:=Zmc q
 exact Znk (Z2y h k s r hk)
theorem Zc5 {α β:Type} {o o':Option α} {f f':α→Option β} (h:∀ x,o=some x→o'=some x) (hf:∀ x y,f x=some y→f' x=some y) {r:β} (q:o.bind f=some r):o'.bind f'=some r:=by
 obtain ⟨x,h1,h2⟩:=Option.bind_eq_some_iff.1 q
 rw [h x h1]
 exact hf x r h2
theorem Zm4 {α:Type} (c:Bool) {a a' b b':Option α} (h1:∀ r,a=some r→a'=some r) (h2:∀ r,b=some r→b'=some r) (r:α) (q:cond c a b=some r):cond c a' b'=some r:=by
 cases c with
 | true=>exact h1 r q
 | false=>exact h2 r q
theorem Z87 {R:Type} {F:Nat→Option R} {r:R} (hm:∀ k r,F k=some r→F (k+1)=some r) {K:Nat} (h:F K=some r):lim F=some r:=by
 refine Zh8 K fun k hk => ?_
 obtain ⟨d,rfl⟩:∃ d,k=K+d:=⟨k - K,by omega⟩
 clear hk
 induction d with
 | zero=>exact h
 | succ d ih=>exact hm _ _ ih
section
variable {A:Zl}
theorem Zwp {step:Int×Int→Option ((Int×Int) ⊕ ((Int×Int) ⊕ Int))} {F:Zh→Zc→Option (Int×Zh)} {f:Zc→Int→Tr×Int×Int} {r:Zc} (hw:WS A.segments) (hr:OKr A r) (n:Nat) (hn:n≤1073741824)
  (hs:∀ (i:Nat) (left:Int),i < n→step ((i:Int),left)=(Kv r i).bind fun y4=>cond (y4.2 != 0) (some (.inr (.inl (y4.2,left)))) ((F ⟨left⟩ y4.1).bind fun y6=>cond (y6.1 != 0) (some (.inr (.inl (y6.1,y6.2.left)))) (some (.inl (IntKind.i64.wrap ((i:Int)+1),y6.2.left)))))
  (he:∀ left,step ((n:Int),left)=some (.inr (.inr left)))
  (hf:Lf A f)
  (hF:∀ (i:Nat) (left:Int),i < n→(Z9 A r i).2=0→0≤left∧left≤65536→∃ e l',F ⟨left⟩ (Z9 A r i).1=some (e,⟨l'⟩)∧e=(f (Z9 A r i).1 left).2.2∧(e=0→l'=(f (Z9 A r i).1 left).2.1)):∀ (m i:Nat) (left:Int) (acc:List Tr),i+m=n→0≤left∧left≤65536 →
  ∃ z,Zw step ((i:Int),left)=some z∧((Z6 f (Z9 A r) m i left acc).2.2=0→z = .inr (Z6 f (Z9 A r) m i left acc).2.1)∧((Z6 f (Z9 A r) m i left acc).2.2≠0→∃ x,z = .inl ((Z6 f (Z9 A r) m i left acc).2.2,x))
 | 0,i,left,acc,hi,hl=>by
  have:i=n:=by omega
  subst this
  exact ⟨_,Y7 (he left),fun _=>rfl,fun h=>absurd rfl h⟩
 | m+1,i,left,acc,hi,hl=>by
  have hst:=hs i left (by omega)
  rw [Z8u hw hr,Option.bind_some] at hst
  rw [Z6]
  by_cases h1:(Z9 A r i).2≠0
  ·rw [if_pos h1]
   rw [show ((Z9 A r i).2 != 0)=true from bne_iff_ne.2 h1,cond_true] at hst
   exact ⟨_,Y7 hst,fun h=>absurd h h1,fun _=>⟨_,rfl⟩⟩
  rw [if_neg h1]
  have h1':(Z9 A r i).2=0:=by omega
  rw [show ((Z9 A r i).2 != 0)=false from by rw [h1'];rfl,cond_false] at hst
  obtain ⟨e,l',q1,q2,q3⟩:=hF i left (by omega) h1' hl
  rw [q1,Option.bind_some] at hst
  simp only at hst
  by_cases h2:(f (Z9 A r i).1 left).2.2≠0
  ·rw [if_pos h2]
   rw [q2,show ((f (Z9 A r i).1 left).2.2 != 0)=true from bne_iff_ne.2 h2,cond_true] at hst
   exact ⟨_,Y7 hst,fun h=>absurd h h2,fun _=>⟨_,rfl⟩⟩
  rw [if_neg h2]
  have h2':(f (Z9 A r i).1 left).2.2=0:=by omega
  have e0:e=0:=q2.trans h2'
  have hl':=q3 e0
  have hb:=hf _ left (Jq hr i) hl.1 h2'
  rw [e0,show ((0:Int) != 0)=false from rfl,cond_false,Yg (by omega) (by omega),hl'] at hst
  rw [X4 (s':=(((i+1:Nat):Int),(f (Z9 A r i).1 left).2.1)) hst]
  exact Zwp hw hr n hn hs he hf hF m (i+1) _ _ (by omega) ⟨hb.1,by omega⟩
def CK (A:Zl) (F:Zh→Zc→Int→Option (Int×Zh)) (f:Zc→Int→Tr×Int×Int) (d:Int) (r:Zc) (left:Int):Prop:=∃ e l',F ⟨left⟩ r d=some (e,⟨l'⟩)∧e=(f r left).2.2∧(e=0→l'=(f r left).2.1)
theorem Zfr {r:Zc} (h:OKr A r):0≤Zy r∧Zy r≤1073741824:=by
 cases h with
 | z=>simp [Zy,r0]
 | st s a d p hd hp hin=>simp only [Zy,if_true];omega
 | li k s a n hk hn hin=>simp only [Zy];rw [if_neg (by omega)];omega
 | co s a d p n hd hp hn hwx hin=>simp only [Zy];rw [if_neg (by omega)];omega
 | at_ s a c i n hc h0 h1 hn hin=>simp [Zy]
theorem Z8f (hw:WS A.segments) {f1 f2 f3:Zh→Zc→Int→Option (Int×Zh)} {f:Zc→Int→Tr×Int×Int} (hf:Lf A f) {r:Zc} (hr:OKr A r) {d left:Int} (hl:0≤left∧left≤65536)
  (hF:∀ (i:Nat) (l:Int),i < (Zy r).toNat→(Z9 A r i).2=0→0≤l∧l≤65536→CK A f1 f d (Z9 A r i).1 l) :
  ∃ e l',Kr f1 f2 f3 ⟨left⟩ r d=some (e,⟨l'⟩)∧e=(Z6 f (Z9 A r) (Zy r).toNat 0 left []).2.2∧(e=0→l'=(Z6 f (Z9 A r) (Zy r).toNat 0 left []).2.1):=by
 have hk:=Zfr hr
 unfold Kr
 rw [Zj5,Option.bind_some]
 have hN:Zy r=(((Zy r).toNat:Nat):Int):=by omega
 obtain ⟨z,z1,z2,z3⟩:=Zwp (step:=Ks f1 r d (Zy r)) (F:=fun c k=>f1 c k d) (f:=f) hw hr (Zy r).toNat (by omega) (fun i l hi=>by
  unfold Ks
  simp only
  rw [show decide ((i:Int) < Zy r)=true from by rw [decide_eq_true_eq];omega,cond_true]) (fun l=>by
  unfold Ks
  simp only
  rw [show decide ((((Zy r).toNat:Nat):Int) < Zy r)=false from by rw [decide_eq_false_iff_not];omega,cond_false]) hf hF (Zy r).toNat 0 left [] (by omega) hl
 rw [show (((0:Nat):Int))=0 from rfl] at z1
 rw [z1,Option.bind_some]
 by_cases hq:(Z6 f (Z9 A r) (Zy r).toNat 0 left []).2.2=0
 ·rw [z2 hq]
  exact ⟨_,_,rfl,hq.symm,fun _=>rfl⟩
 obtain ⟨x,hx⟩:=z3 hq
 rw [hx]
 exact ⟨_,_,rfl,rfl,fun h=>absurd h hq⟩
theorem Z2a (hw:WS A.segments) {f1 f2 f3:Zh→Zc→Int→Option (Int×Zh)} {f:Zc→Int→Tr×Int×Int} (hf:Lf A f) {r:Zc} (hr:OKr A r) {d left:Int} (hd:0≤d∧d≤1000) (hl:0≤left∧left≤65536)
  (hF:∀ (i:Nat) (l:Int),i < (Zy r).toNat→(Z9 A r i).2=0→0≤l∧l≤65536→CK A f2 f (d - 1) (Z9 A r i).1 l) :
  ∃ e l',Qy f1 f2 f3 ⟨left⟩ r d=some (e,⟨l'⟩)∧e=(Z6 f (Z9 A r) (Zy r).toNat 0 left []).2.2∧(e=0→l'=(Z6 f (Z9 A r) (Zy r).toNat 0 left []).2.1):=by
 have hk:=Zfr hr
 unfold Qy
 rw [Zj5,Option.bind_some]
 obtain ⟨z,z1,z2,z3⟩:=Zwp (step:=Q7 f2 r d (Zy r)) (F:=fun c k=>f2 c k (d - 1)) (f:=f) hw hr (Zy r).toNat (by omega) (fun i l hi=>by
  unfold Q7
  simp only
  rw [show decide ((i:Int) < Zy r)=true from by rw [decide_eq_true_eq];omega,cond_true,Yg (x:=d - 1) (by omega) (by omega)]) (fun l=>by
  unfold Q7
  simp only
  rw [show decide ((((Zy r).toNat:Nat):Int) < Zy r)=false from by rw [decide_eq_false_iff_not];omega,cond_false]) hf hF (Zy r).toNat 0 left [] (by omega) hl
 rw [show (((0:Nat):Int))=0 from rfl] at z1
 rw [z1,Option.bind_some]
 by_cases hq:(Z6 f (Z9 A r) (Zy r).toNat 0 left []).2.2=0
 ·rw [z2 hq]
  exact ⟨_,_,rfl,hq.symm,fun _=>rfl⟩
 obtain ⟨x,hx⟩:=z3 hq
 rw [hx]
 exact ⟨_,_,rfl,rfl,fun h=>absurd h hq⟩
theorem Z2o {g:Int→Zc×Int} (n:Nat) (hg:∀ i:Nat,i < n→(g i).2=0):∀ (m i:Nat) (left:Int) (acc:List Tr),i+m=n→(Z6 (Zhk A) g m i left acc).2=(left,0)
 | 0,i,left,acc,_=>rfl
 | m+1,i,left,acc,h=>by
  rw [Z6,if_neg (by rw [hg i (by omega)];simp),if_neg (by simp [Zhk])]
  exact Z2o n hg m (i+1) left _ (by omega)
theorem Z8t {r:Zc} (hk:2≤r.kind∧r.kind≤7) (i:Int):(Z9 A r i).2=0:=by
 unfold Z9
 split
 ·rfl
 rw [if_neg (by omega),if_neg (by omega),if_neg (by omega)]
theorem Zko {r:Zc} (hk:r.kind=9) {i:Int} (h:0≤i∧i < Zy r):(Z9 A r i).1.kind=1:=by
 unfold Z9
 rw [if_neg (by omega),if_neg (by omega),if_neg (by omega),if_pos hk]
theorem Z6x (hw:WS A.segments) {f1 f2 f3:Zh→Zc→Int→Option (Int×Zh)} {g1 g2:Zc→Int→Tr×Int×Int} {r:Zc} (hr:OKr A r) {d left:Int} (hd:0≤d∧d≤1000) (hl:0≤left∧left≤65536)
  (hK:(r.kind=1∨r.kind=8)→1≤d→∀ l,0≤l∧l≤65536→∃ e l',f2 ⟨l⟩ r (d - 1)=some (e,⟨l'⟩)∧e=(Z6 g1 (Z9 A r) (Zy r).toNat 0 l []).2.2∧(e=0→l'=(Z6 g1 (Z9 A r) (Zy r).toNat 0 l []).2.1))
  (hS:r.kind=9→1≤d→(0 < r.count→2≤d)→∀ l,0≤l∧l≤65536→∃ e l',f3 ⟨l⟩ r (d - 1)=some (e,⟨l'⟩)∧e=(Z6 (stK A g2) (Z9 A r) (Zy r).toNat 0 l []).2.2∧(e=0→l'=(Z6 (stK A g2) (Z9 A r) (Zy r).toNat 0 l []).2.1)) :
  ∃ e l',Jv f1 f2 f3 ⟨left⟩ r d=some (e,⟨l'⟩)∧e=(Zeh A g1 g2 d r left).2.2∧(e=0→l'=(Zeh A g1 g2 d r left).2.1):=by
 have hwt:=Z30 hw hr
 have hkd:=Z2v hr
 have hkk:Yy r=some r.kind:=rfl
 unfold Jv Zeh
 rw [Z7b,Z72 hw hr,hkk]
 have hz:(cond (decide (d < lvR r)) (some true) ((some (wtR r)).bind fun y7=>some (cond (decide (d < lvR r)) true (decide (left < y7)))))=some (decide (d < lvR r∨left < wtR r)):=by
  by_cases h0:d < lvR r
  ·rw [decide_eq_true h0,cond_true,show decide (d < lvR r∨left < wtR r)=true from decide_eq_true (.inl h0)]
  rw [decide_eq_false h0,cond_false,Option.bind_some,cond_false]
  congr 1
  rw [decide_eq_decide]
  omega
 rw [Option.bind_some,hz,Option.bind_some]
 by_cases k0:r.kind=0
 ·rw [if_pos k0]
  have e1:lvR r=0:=by unfold lvR;rw [if_pos k0]
  have e2:wtR r=0:=by unfold wtR;rw [if_pos k0]
  rw [e1,e2,show decide (d < 0∨left < 0)=false from by rw [decide_eq_false_iff_not];omega,cond_false,Option.bind_some,Option.bind_some,k0]
  refine ⟨0,left,?_,rfl,fun _=>rfl⟩
  show some ((0:Int),(⟨IntKind.i64.wrap (left - 0)⟩:Zh))=_
  rw [Yg (by omega) (by omega),Int.sub_zero]
 rw [if_neg k0]
 by_cases hb:d < lvR r∨left < wtR r
 ·rw [if_pos hb,decide_eq_true hb,cond_true]
  exact ⟨_,_,rfl,rfl,fun h=>by simp at h⟩
 rw [if_neg hb,decide_eq_false hb,cond_false,Option.bind_some,Option.bind_some,Yg (x:=left - wtR r) (by omega) (by omega),Yg (x:=d - 1) (by omega) (by omega)]
 have hlv:1≤d:=by
  have:1≤lvR r:=by unfold lvR;rw [if_neg k0];split <;> omega
  omega
 have hl':0≤left - wtR r∧left - wtR r≤65536:=by omega
 by_cases k18:r.kind=1∨r.kind=8
 ·have e1:(cond (r.kind == 1) (some (r.kind == 1)) (some (r.kind == 8)))=some true:=by
   rcases k18 with k | k <;> rw [k] <;> rfl
  have hkf:J8 A g1 g2 r=g1:=by unfold J8;rw [if_neg (by omega),if_pos k18]
  rw [e1,Option.bind_some,cond_true,hkf]
  obtain ⟨e,l',q1,q2,q3⟩:=hK k18 hlv _ hl'
  rw [q1]
  exact ⟨e,l',rfl,q2,q3⟩
 have e1:(cond (r.kind == 1) (some (r.kind == 1)) (some (r.kind == 8)))=some false:=by
  rw [show (r.kind == 1)=false from X2 (by omega),show (r.kind == 8)=false from X2 (by omega)];rfl
 rw [e1,Option.bind_some,cond_false]
 by_cases k9:r.kind=9
 ·have hkf:J8 A g1 g2 r=stK A g2:=by unfold J8;rw [if_pos k9]
  have hc:0 < r.count→2≤d:=fun hc=>by
   have:lvR r=2:=by unfold lvR;rw [if_neg k0,if_pos ⟨k9,hc⟩]
   omega
  rw [show (r.kind == 9)=true from by rw [k9];rfl,cond_true,hkf]
  obtain ⟨e,l',q1,q2,q3⟩:=hS k9 hlv hc _ hl'
  rw [q1]
  exact ⟨e,l',rfl,q2,q3⟩
 have hkf:J8 A g1 g2 r=Zhk A:=by unfold J8;rw [if_neg k9,if_neg k18]
 rw [show (r.kind == 9)=false from X2 k9,cond_false,hkf]
 have hgo:(Z6 (Zhk A) (Z9 A r) (Zy r).toNat 0 (left - wtR r) []).2=(left - wtR r,0):=by
  by_cases k10:r.kind=10
  ·have:Zy r=0:=by
    cases hr with
    | at_ s a c i n hc h0 h1 hn hin=>simp [Zy]
    | z=>simp [r0] at k10
    | st=>simp at k10
    | li k s a n hk=>simp only at k10;omega
    | co=>simp at k10
   rw [this];rfl
  exact Z2o (Zy r).toNat (fun i _=>Z8t (by omega) i) _ 0 _ _ (by omega)
 refine ⟨0,left - wtR r,rfl,?_,fun _ => ?_⟩
 ·simp only;rw [hgo]
 simp only;rw [hgo]
theorem Z8h (hw:WS A.segments):∀ (K:Nat),(∀ (d:Nat) r left,d≤1000→OKr A r→0≤left∧left≤65536→2 * d+1≤K→CK A (Zs K).1 (K8 A d) d r left) ∧
  (∀ (d:Nat) r left,d≤1000→OKr A r→0≤left∧left≤65536→2 * d+2≤K→∃ e l',(Zs K).2.1 ⟨left⟩ r d=some (e,⟨l'⟩)∧e=(Z6 (K8 A d) (Z9 A r) (Zy r).toNat 0 left []).2.2∧(e=0→l'=(Z6 (K8 A d) (Z9 A r) (Zy r).toNat 0 left []).2.1)) ∧
  (∀ (d:Nat) r left,d≤1000→OKr A r→r.kind=9→0≤left∧left≤65536→(0 < r.count→1≤d)→2 * d+2≤K→∃ e l',(Zs K).2.2 ⟨left⟩ r d=some (e,⟨l'⟩)∧e=(Z6 (stK A (Yn A 1 d)) (Z9 A r) (Zy r).toNat 0 left []).2.2∧(e=0→l'=(Z6 (stK A (Yn A 1 d)) (Z9 A r) (Zy r).toNat 0 left []).2.1))
 | 0=>⟨fun d r left _ _ _ h=>by omega,fun d r left _ _ _ h=>by omega,fun d r left _ _ _ _ _ h=>by omega⟩
 | K+1=>by
  obtain ⟨i1,i2,i3⟩:=Z8h hw K
  refine ⟨fun d r left hd hr hl hK => ?_,fun d r left hd hr hl hK => ?_,fun d r left hd hr k9 hl hc hK => ?_⟩
  ·show ∃ e l',Jv (Zs K).1 (Zs K).2.1 (Zs K).2.2 ⟨left⟩ r d=some (e,⟨l'⟩)∧_
   rw [Zfy]
   refine Z6x hw hr (by omega) hl (fun k18 h1 l hl => ?_) (fun k9 h1 hc l hl => ?_)
   ·have:=i2 (d - 1) r l (by omega) hr hl (by omega)
    rw [show (((d - 1:Nat):Int))=(d:Int) - 1 by omega] at this
    unfold Yn
    rw [if_pos (by omega)]
    exact this
   have:=i3 (d - 1) r l (by omega) hr k9 hl (fun h=>by have:=hc h;omega) (by omega)
   rw [show (((d - 1:Nat):Int))=(d:Int) - 1 by omega] at this
   have e:Yn A 1 (d - 1)=Yn A 2 d:=by
    unfold Yn
    by_cases h2:2≤d
    ·rw [if_pos (by omega),if_pos h2,show d - 1 - 1=d - 2 by omega]
    rw [if_neg (by omega),if_neg h2]
   rw [e] at this
   exact this
  ·show ∃ e l',Kr (Zs K).1 (Zs K).2.1 (Zs K).2.2 ⟨left⟩ r d=some (e,⟨l'⟩)∧_
   exact Z8f hw (Zkp hw d) hr hl fun i l hi _ hl=>i1 d _ l hd (Jq hr i) hl (by omega)
  show ∃ e l',Qy (Zs K).1 (Zs K).2.1 (Zs K).2.2 ⟨left⟩ r d=some (e,⟨l'⟩)∧_
  have hlf:Lf A (Yn A 1 d):=by
   unfold Yn
   split
   ·exact Zkp hw _
   exact Zt6
  refine Z2a hw (Z85 hlf) hr (by omega) hl fun i l hi _ hl => ?_
  have hkn:Zy r=r.count:=by unfold Zy;rw [if_neg (by omega)]
  have hd1:1≤d:=hc (by omega)
  have h:=i2 (d - 1) (Z9 A r i).1 l (by omega) (Jq hr i) hl (by omega)
  rw [show (((d - 1:Nat):Int))=(d:Int) - 1 by omega] at h
  have hk1:=Zko (A:=A) k9 (i:=(i:Int)) (by omega)
  have hkk:Zy (Z9 A r i).1=(Z9 A r i).1.ptrs:=by unfold Zy;rw [if_pos hk1]
  rw [hkk] at h
  have e:Yn A 1 d=K8 A (d - 1):=by unfold Yn;rw [if_pos hd1]
  rw [e]
  exact h
def LE3 {α β γ δ:Type} (f g:α→β→γ→Option δ):Prop:=∀ x y z r,f x y z=some r→g x y z=some r
theorem Z2b:∀ (k:Nat),LE3 (Zs k).1 (Zs (k+1)).1∧LE3 (Zs k).2.1 (Zs (k+1)).2.1∧LE3 (Zs k).2.2 (Zs (k+1)).2.2
 | 0=>⟨fun x y z r h=>(by cases h),fun x y z r h=>(by cases h),fun x y z r h=>(by cases h)⟩
 | k+1=>by
  obtain ⟨i1,i2,i3⟩:=Z2b k
  refine ⟨fun c r d v h => ?_,fun c r d v h => ?_,fun c r d v h => ?_⟩
  ·refine Zc5 (fun _ q=>q) (fun z=>Zm4 _ (fun _ q=>q) fun _=>Zc5 (fun _ q=>q) fun w _=>Zc5 (fun _ q=>q) fun u _=>Zc5 (fun _ q=>q) fun b=>Zm4 _ (fun _=>Zc5 (fun x q=>i2 _ _ _ x q) fun _ _ q=>q) (Zm4 _ (fun _=>Zc5 (fun x q=>i3 _ _ _ x q) fun _ _ q=>q) fun _ q=>q)) h
  ·refine Zc5 (fun _ q=>q) (fun n _=>Zc5 (fun x=>Zxu fun s y q => ?_) fun _ _ q=>q) h
   exact Zm4 _ (fun _=>Zc5 (fun _ q=>q) fun u=>Zm4 _ (fun _ q=>q) fun _=>Zc5 (fun x q=>i1 _ _ _ x q) fun _ _ q=>q) (fun _ q=>q) y q
  refine Zc5 (fun _ q=>q) (fun n _=>Zc5 (fun x=>Zxu fun s y q => ?_) fun _ _ q=>q) h
  exact Zm4 _ (fun _=>Zc5 (fun _ q=>q) fun u=>Zm4 _ (fun _ q=>q) fun _=>Zc5 (fun x q=>i2 _ _ _ x q) fun _ _ q=>q) (fun _ q=>q) y q
theorem Z6y (hw:WS A.segments) {d:Nat} (hd:d≤1000) {r:Zc} (hr:OKr A r) {left:Int} (hl:0≤left∧left≤65536):CK A Zc2 (K8 A d) d r left:=by
 obtain ⟨e,l',h1,h2,h3⟩:=(Z8h hw (2 * d+1)).1 d r left hd hr hl (Nat.le_refl _)
 exact ⟨e,l',Z87 (F:=fun k=>(Zs k).1 ⟨left⟩ r d) (fun k x=>(Z2b k).1 _ _ _ x) h1,h2,h3⟩
def Zss (x m:Int):Int:=if m < (if x < 0 then 0 else x) then m else (if x < 0 then 0 else x)
def V3 (x:Z0):Z0:=⟨Zss x.Depth 64,Zss x.Weight 65536,Zss x.MaxD 4096,Zss x.MaxOut 131072⟩
theorem Z7c (x:Z0):Zfx x=some (V3 x):=rfl
theorem Zlg (x m:Int) (hm:0≤m):0≤Zss x m∧Zss x m≤m:=by unfold Zss;repeat' split;all_goals omega
def Z4c (A:Zl) (x:Z0):Int×Int :=
 if (atR A 0 0).2≠0 then (0,(atR A 0 0).2)
 else
  let q:=K8 A (V3 x).Depth.toNat (atR A 0 0).1 (V3 x).Weight
  if q.2.2≠0 then (0,q.2.2) else ((V3 x).Weight - q.2.1,0)
theorem Z8g (hw:WS A.segments) (x:Z0):Zeg (some A) x=some (Z4c A x):=by
 unfold Zeg Z4c
 rw [Z7c,Option.bind_some,Z6a hw,Option.bind_some]
 have hd:0≤(V3 x).Depth∧(V3 x).Depth≤64:=Zlg _ _ (by decide)
 have hW:0≤(V3 x).Weight∧(V3 x).Weight≤65536:=Zlg _ _ (by decide)
 by_cases h:(atR A 0 0).2≠0
 ·rw [if_pos h,show ((atR A 0 0).2 != 0)=true from bne_iff_ne.2 h,cond_true]
 rw [if_neg h,show ((atR A 0 0).2 != 0)=false from bne_eq_false_iff_eq.2 (by omega),cond_false]
 obtain ⟨e,l',h1,h2,h3⟩:=Z6y hw (d:=(V3 x).Depth.toNat) (by omega) (Zjh (A:=A) 0 0) hW
 rw [show (((V3 x).Depth.toNat:Nat):Int)=(V3 x).Depth by omega] at h1
 rw [h1,Option.bind_some]
 simp only
 rw [h2]
 by_cases hq:(K8 A (V3 x).Depth.toNat (atR A 0 0).1 (V3 x).Weight).2.2≠0
 ·rw [if_pos hq,show ((K8 A (V3 x).Depth.toNat (atR A 0 0).1 (V3 x).Weight).2.2 != 0)=true from bne_iff_ne.2 hq,cond_true]
 have h0:(K8 A (V3 x).Depth.toNat (atR A 0 0).1 (V3 x).Weight).2.2=0:=by omega
 have hb:=Zkp hw _ _ _ (Zjh (A:=A) 0 0) hW.1 h0
 rw [if_neg hq,show ((K8 A (V3 x).Depth.toNat (atR A 0 0).1 (V3 x).Weight).2.2 != 0)=false from bne_eq_false_iff_eq.2 h0,cond_false,h3 (by rw [h2,h0]),Yg (by omega) (by omega)]
end
theorem Zio (x m:Int) (hm:0≤m):Qn x m=some (Zss x m):=by
 unfold Qn Zss
 by_cases h:x < 0
 ·rw [decide_eq_true h,if_pos h,if_neg (by omega)];rfl
 rw [decide_eq_false h,if_neg h]
 by_cases h2:m < x
 ·rw [decide_eq_true h2,if_pos h2];rfl
 rw [decide_eq_false h2,if_neg h2];rfl
theorem Z44 (x:Z0):U3 x=some (V3 x):=by
 unfold U3
 rw [Zio _ _ (by decide),Zio _ _ (by decide),Zio _ _ (by decide),Zio _ _ (by decide)]
 rfl
section
variable {A:Zl}
def Mo (f g:Zc→Int→Tr×Int×Int):Prop:=∀ k left e,0≤left→0≤e→(f k left).2.2=0→(g k (left+e)).2.2=0∧(g k (left+e)).2.1=(f k left).2.1+e
def NN (f:Zc→Int→Tr×Int×Int):Prop:=∀ k left,0≤left→(f k left).2.2=0→0≤(f k left).2.1
theorem Z0x {f f':Zc→Int→Tr×Int×Int} {g:Int→Zc×Int} (h:Mo f f') (hn:NN f):∀ (m i:Nat) (left e:Int) (acc acc':List Tr),0≤left→0≤e→(Z6 f g m i left acc).2.2=0→(Z6 f' g m i (left+e) acc').2.2=0∧(Z6 f' g m i (left+e) acc').2.1=(Z6 f g m i left acc).2.1+e
 | 0,i,left,e,acc,acc',_,_,_=>⟨rfl,rfl⟩
 | m+1,i,left,e,acc,acc',h0,he,hq=>by
  rw [Z6] at hq
  rw [Z6,Z6]
  by_cases h1:(g i).2≠0
  ·rw [if_pos h1] at hq;exact absurd hq h1
  rw [if_neg h1] at hq
  rw [if_neg h1,if_neg h1]
  by_cases h2:(f (g i).1 left).2.2≠0
  ·rw [if_pos h2] at hq;exact absurd hq h2
  rw [if_neg h2] at hq
  have h2':(f (g i).1 left).2.2=0:=by omega
  obtain ⟨a1,a2⟩:=h _ _ e h0 he h2'
  rw [if_neg h2,if_neg (by omega),a2]
  exact Z0x h hn m (i+1) _ e _ _ (hn _ _ h0 h2') he hq
theorem Ycf {f f':Zc→Int→Tr×Int×Int} (h:Mo f f') (hn:NN f):Mo (stK A f) (stK A f'):=fun k left e h0 he hq=>Z0x h hn _ _ _ _ _ _ h0 he hq
theorem Z8q {f:Zc→Int→Tr×Int×Int} {g:Int→Zc×Int} (hf:NN f):∀ (m i:Nat) (left:Int) (acc:List Tr),0≤left→(Z6 f g m i left acc).2.2=0→0≤(Z6 f g m i left acc).2.1
 | 0,i,left,acc,h0,_=>h0
 | m+1,i,left,acc,h0,h=>by
  rw [Z6] at h ⊢
  by_cases h1:(g i).2≠0
  ·rw [if_pos h1] at h;exact absurd h h1
  rw [if_neg h1] at h ⊢
  by_cases h2:(f (g i).1 left).2.2≠0
  ·rw [if_pos h2] at h;exact absurd h h2
  rw [if_neg h2] at h ⊢
  exact Z8q hf m (i+1) _ _ (hf _ _ h0 (by omega)) h
theorem Z53 {f1 f2:Zc→Int→Tr×Int×Int} (h1:NN f1) (h2:NN f2) (r:Zc):NN (J8 A f1 f2 r):=by
 unfold J8
 split
 ·exact fun k left h0 h=>Z8q h2 _ _ _ _ h0 h
 split
 ·exact h1
 exact fun k left h0 h=>h0
theorem Z9e {f1 f2:Zc→Int→Tr×Int×Int} (h1:NN f1) (h2:NN f2) (d:Int):NN (Zeh A f1 f2 d):=fun r left h0 h=>by
 unfold Zeh at h ⊢
 by_cases k0:r.kind=0
 ·rw [if_pos k0];exact h0
 rw [if_neg k0] at h ⊢
 by_cases hb:d < lvR r∨left < wtR r
 ·rw [if_pos hb] at h;simp at h
 rw [if_neg hb] at h ⊢
 exact Z8q (Z53 h1 h2 r) _ _ _ _ (by omega) h
theorem Z4u:NN bad:=fun k left _ h=>by simp [bad] at h
theorem Ya8:∀ d,NN (K8 A d):=fun d=>by
 induction d using Nat.strongRecOn with
 | ind d ih =>
  rw [Zfy]
  refine Z9e ?_ ?_ _
  ·unfold Yn
   split
   ·exact ih _ (by omega)
   exact Z4u
  unfold Yn
  split
  ·exact ih _ (by omega)
  exact Z4u
theorem Ya6 {f1 f2 f1' f2':Zc→Int→Tr×Int×Int} (h1:Mo f1 f1') (n1:NN f1) (h2:Mo f2 f2') (n2:NN f2) (r:Zc):Mo (J8 A f1 f2 r) (J8 A f1' f2' r):=by
 unfold J8
 by_cases k9:r.kind=9
 ·rw [if_pos k9,if_pos k9];exact Ycf h2 n2
 rw [if_neg k9,if_neg k9]
 by_cases k18:r.kind=1∨r.kind=8
 ·rw [if_pos k18,if_pos k18];exact h1
 rw [if_neg k18,if_neg k18];exact fun k left e _ _ _=>⟨rfl,rfl⟩
theorem Z9a {f1 f2 f1' f2':Zc→Int→Tr×Int×Int} (h1:Mo f1 f1') (n1:NN f1) (h2:Mo f2 f2') (n2:NN f2) {d d':Int} (hd:d≤d'):Mo (Zeh A f1 f2 d) (Zeh A f1' f2' d'):=fun r left e h0 he hq=>by
 unfold Zeh at hq ⊢
 by_cases k0:r.kind=0
 ·rw [if_pos k0,if_pos k0];exact ⟨rfl,rfl⟩
 rw [if_neg k0] at hq
 rw [if_neg k0,if_neg k0]
 by_cases hb:d < lvR r∨left < wtR r
 ·rw [if_pos hb] at hq;simp at hq
 rw [if_neg hb] at hq
 rw [if_neg hb,if_neg (by omega)]
 simp only at hq ⊢
 have:=Z0x (Ya6 (A:=A) h1 n1 h2 n2 r) (Z53 n1 n2 r) (g:=Z9 A r) (Zy r).toNat 0 (left - wtR r) e [] [] (by omega) he hq
 rw [show left - wtR r+e=left+e - wtR r by omega] at this
 exact this
theorem Yce (g:Zc→Int→Tr×Int×Int):Mo bad g:=fun k left e _ _ h=>by simp [bad] at h
theorem Ya7:∀ (d d':Nat),d≤d'→Mo (K8 A d) (K8 A d'):=fun d=>by
 induction d using Nat.strongRecOn with
 | ind d ih =>
  intro d' hd
  rw [Zfy d,Zfy d']
  have key:∀ k,1≤k→Mo (Yn A k d) (Yn A k d')∧NN (Yn A k d):=fun k hk=>by
   unfold Yn
   by_cases h:k≤d
   ·rw [if_pos h,if_pos (by omega)]
    exact ⟨ih (d - k) (by omega) (d' - k) (by omega),Ya8 _⟩
   rw [if_neg h]
   exact ⟨Yce _,Z4u⟩
  exact Z9a (key 1 (by omega)).1 (key 1 (by omega)).2 (key 2 (by omega)).1 (key 2 (by omega)).2 (by omega)
end
theorem Z86 (x:Z0):∃ w,Gv x=some ⟨x.Depth,w,x.MaxD,x.MaxOut⟩:=by
 unfold Gv
 cases decide (3000 < x.Weight) with
 | true=>exact ⟨3000,rfl⟩
 | false=>exact ⟨x.Weight,rfl⟩
theorem Z7o {c:Int} (h:0≤c∧c≤5):Xl c=some (wdt c):=by
 unfold Xl
 rcases c5 h with rfl | rfl | rfl | rfl | rfl | rfl <;> rfl
theorem Z19 (q:Int) (n:Nat) (hn:Int.tmod q 64=(n:Int)) (hn2:n < 64):∀ (m t w:Nat),t+m=n→w < 18446744073709551616→Zw (Vg q) ((w:Int),(t:Int))=some ((w / 2 ^ m:Nat):Int)
 | 0,t,w,h,hw=>by
  refine Y7 ?_
  unfold Vg
  simp only
  rw [hn,show decide ((t:Int) < (n:Int))=false from by rw [decide_eq_false_iff_not];omega,cond_false,Nat.pow_zero,Nat.div_one]
 | m+1,t,w,h,hw=>by
  have hs:Vg q ((w:Int),(t:Int))=some (.inl (((w / 2:Nat):Int),((t+1:Nat):Int))):=by
   unfold Vg
   simp only
   rw [hn,show decide ((t:Int) < (n:Int))=true from by rw [decide_eq_true_eq];omega,cond_true,Int.tdiv_eq_ediv_of_nonneg (by omega),show ((w:Int) / 2)=((w / 2:Nat):Int) from rfl,Z3u _ (by omega),Yg (by omega) (by omega)]
   rfl
  rw [X4 hs,Z19 q n hn hn2 m (t+1) (w / 2) (by omega) (by omega),Nat.div_div_eq_div_mul,Nat.pow_succ,Nat.mul_comm]
theorem Yb6 {l:List Int} (hl:∀ w∈l,0≤w∧w < 18446744073709551616) {k:Nat} {w:Int} (hk:k < 1125899906842624) (hg:l[k / 64]? = some w):Zbm l (k:Int)=some ((w.toNat / 2 ^ (k % 64) % 2:Nat):Int):=by
 have hi:k / 64 < l.length:=by
  rcases Nat.lt_or_ge (k / 64) l.length with h | h
  ·exact h
  rw [List.getElem?_eq_none h] at hg;cases hg
 have hwr:=hl w (List.mem_of_getElem? hg)
 unfold Zbm
 have t1:Int.tdiv (k:Int) 64=((k / 64:Nat):Int):=by rw [Int.tdiv_eq_ediv_of_nonneg (by omega)];rfl
 have t2:Int.tmod (k:Int) 64=((k % 64:Nat):Int):=by rw [Int.tmod_eq_emod_of_nonneg (by omega)];rfl
 rw [t1,Yg (x:=((k / 64:Nat):Int)) (by omega) (by omega),show decide ((k:Int) < 0)=false from by rw [decide_eq_false_iff_not];omega,cond_false,show decide ((l.length:Int)≤((k / 64:Nat):Int))=false from by rw [decide_eq_false_iff_not];omega,cond_false,Y3 hg,Option.bind_some]
 have hL:=Z19 (k:Int) (k % 64) t2 (Nat.mod_lt _ (by decide)) (k % 64) 0 w.toNat (by omega) (by omega)
 rw [show ((w.toNat:Nat):Int)=w by omega,show (((0:Nat):Int))=0 from rfl] at hL
 rw [hL,Option.bind_some,Int.tmod_eq_emod_of_nonneg (Int.natCast_nonneg _)]
 rfl
theorem Z2m {l:List Int} (hl:∀ w∈l,0≤w∧w < 18446744073709551616) {d q i:Nat} {w:Int} (hd:1≤d∧d≤64) (hi:i * d+d < 1125899906842624) (hq:∀ j,j < d→(i * d+j) / 64=q∧(i * d+j) % 64=(i * d) % 64+j) (hg:l[q]? = some w):∀ (m:Nat) (acc:Int),m≤d→acc=((w.toNat / 2 ^ ((i * d) % 64+m) % 2 ^ (d - m):Nat):Int) →
  Zw (Vh l (i:Int) (d:Int)) (acc,(m:Int) - 1)=some ((w.toNat / 2 ^ ((i * d) % 64) % 2 ^ d:Nat):Int)
 | 0,acc,hm,ha=>by
  refine Y7 ?_
  unfold Vh
  simp only
  rw [show decide ((0:Int)≤((0:Nat):Int) - 1)=false from rfl,cond_false,ha]
  rfl
 | m+1,acc,hm,ha=>by
  obtain ⟨q1,q2⟩:=hq m (by omega)
  have hb:=Yb6 hl (k:=i * d+m) (w:=w) (by omega) (by rw [q1];exact hg)
  rw [q2] at hb
  have hlt:w.toNat / 2 ^ ((i * d) % 64+(m+1)) % 2 ^ (d - (m+1)) < 2 ^ 63:=Nat.lt_of_lt_of_le (Nat.mod_lt _ (Nat.pow_pos (by decide))) (Nat.pow_le_pow_right (by decide) (by omega))
  have hbit:w.toNat / 2 ^ ((i * d) % 64+m) % 2 < 2:=Nat.mod_lt _ (by decide)
  have hstep:Vh l (i:Int) (d:Int) (acc,((m+1:Nat):Int) - 1)=some (.inl (((w.toNat / 2 ^ ((i * d) % 64+m) % 2 ^ (d - m):Nat):Int),(m:Int) - 1)):=by
   unfold Vh
   simp only
   have e1:IntKind.i64.wrap (IntKind.i64.wrap ((i:Int) * (d:Int))+(((m+1:Nat):Int) - 1))=((i * d+m:Nat):Int):=by
    have e0:((i:Int) * (d:Int))=((i * d:Nat):Int):=by simp
    rw [e0,Yg (x:=((i * d:Nat):Int)) (by omega) (by omega),Yg (by omega) (by omega)]
    omega
   rw [show decide ((0:Int)≤((m+1:Nat):Int) - 1)=true from by rw [decide_eq_true_eq];omega,cond_true,e1,hb,Option.bind_some,ha]
   have e2:((w.toNat / 2 ^ ((i * d) % 64+(m+1)) % 2 ^ (d - (m+1)):Nat):Int) * 2=((w.toNat / 2 ^ ((i * d) % 64+(m+1)) % 2 ^ (d - (m+1)) * 2:Nat):Int):=by simp
   rw [e2,Z3u _ (by omega),← Int.natCast_add,Z3u _ (by omega),Yg (by omega) (by omega)]
   have e3:w.toNat / 2 ^ ((i * d) % 64+(m+1)) % 2 ^ (d - (m+1)) * 2+w.toNat / 2 ^ ((i * d) % 64+m) % 2=w.toNat / 2 ^ ((i * d) % 64+m) % 2 ^ (d - m):=by
    have h1:w.toNat / 2 ^ ((i * d) % 64+(m+1))=w.toNat / 2 ^ ((i * d) % 64+m) / 2:=by
     rw [Nat.div_div_eq_div_mul,← Nat.pow_succ];rfl
    have h2:d - m=(d - (m+1))+1:=by omega
    rw [h1,h2]
    generalize w.toNat / 2 ^ ((i * d) % 64+m)=x
    generalize d - (m+1)=y
    rw [Nat.pow_succ,Nat.mul_comm (2 ^ y) 2,Nat.mod_mul]
    omega
   rw [e3]
   congr 3
   omega
  rw [X4 hstep]
  exact Z2m hl hd hi hq hg m _ (by omega) rfl
theorem Ybg {l:List Int} (hl:∀ w∈l,0≤w∧w < 18446744073709551616) {c i n:Int} (hc:0≤c∧c≤5) (h0:0≤i) (h1:i < n) (hn:n < 536870912) (hi:(n * wdt c+63) / 64≤l.length):Zbn l c i=some (if c=0 then 0 else Z09 ((l[(i / each c).toNat]?).getD 0) c (i % each c)):=by
 unfold Zbn
 rw [Z7o hc,Option.bind_some]
 by_cases hz:c=0
 ·subst hz
  rw [if_pos rfl]
  rfl
 rw [if_neg hz]
 obtain ⟨d,e,hd⟩:∃ d:Nat,wdt c=(d:Int)∧(d=1∨d=8∨d=16∨d=32∨d=64):=by
  rcases c5 hc with rfl | rfl | rfl | rfl | rfl | rfl
  ·omega
  ·exact ⟨1,rfl,by omega⟩
  ·exact ⟨8,rfl,by omega⟩
  ·exact ⟨16,rfl,by omega⟩
  ·exact ⟨32,rfl,by omega⟩
  exact ⟨64,rfl,by omega⟩
 obtain ⟨j,rfl⟩:∃ j:Nat,i=j:=⟨i.toNat,by omega⟩
 have he:each c=((64 / d:Nat):Int):=by unfold each;rw [e];rfl
 rw [e] at hi ⊢
 rw [show decide ((d:Int) < 1)=false from by rw [decide_eq_false_iff_not];omega,show decide ((j:Int) < 0)=false from by rw [decide_eq_false_iff_not];omega,show decide (1099511627776 < (j:Int))=false from by rw [decide_eq_false_iff_not];omega]
 simp only [cond_false]
 rw [Yg (x:=(d:Int) - 1) (by omega) (by omega)]
 have hqn:((j:Int) / each c).toNat=j / (64 / d):=by rw [he];rfl
 have hrn:((j:Int) % each c)=((j % (64 / d):Nat):Int):=by rw [he];rfl
 rw [hqn,hrn]
 have hin:j / (64 / d) < l.length∧∀ t,t < d→(j * d+t) / 64=j / (64 / d)∧(j * d+t) % 64=(j * d) % 64+t:=by
  rcases hd with rfl | rfl | rfl | rfl | rfl
  ·exact ⟨by omega,fun t ht=>by omega⟩
  ·exact ⟨by omega,fun t ht=>by omega⟩
  ·exact ⟨by omega,fun t ht=>by omega⟩
  ·exact ⟨by omega,fun t ht=>by omega⟩
  exact ⟨by omega,fun t ht=>by omega⟩
 have hoff:(j * d) % 64=(j % (64 / d)) * d:=by
  rcases hd with rfl | rfl | rfl | rfl | rfl
  ·omega
  ·omega
  ·omega
  ·omega
  omega
 have hg:l[j / (64 / d)]? = some l[j / (64 / d)]:=List.getElem?_eq_getElem hin.1
 have hjd:j * d≤536870912 * 64:=Nat.mul_le_mul (by omega) (by omega)
 rw [Z2m hl (d:=d) (i:=j) (by omega) (by omega) hin.2 hg d 0 (Nat.le_refl _) (by rw [Nat.sub_self,Nat.pow_zero,Nat.mod_one];rfl),Option.bind_some,hg,Option.getD_some]
 unfold Z09
 rw [e,hoff]
 congr 4
section
variable {A:Zl}
def Gi (A:Zl) (r:Zc):Zr :=
 if r.kind=0 then ⟨0,0,0,0,0,0,0⟩
 else if r.kind=1 then ⟨1,r.segment,r.at_,r.words,r.ptrs,0,0⟩
 else if r.kind=9 then ⟨9,r.segment,r.at_+1,r.words,r.ptrs,r.count,0⟩
 else if r.kind=10 then ⟨10,0,0,0,0,0,Zyd A r⟩
 else ⟨r.kind,r.segment,r.at_,0,0,r.count,0⟩
def Zx0 (A:Zl) (x:Zc×Int):Zr×Int:=(Gi A x.1,x.2)
theorem Zjf {r:Zc}:(Gi A r).Kind=r.kind:=by
 unfold Gi
 split
 ·symm;assumption
 split
 ·symm;assumption
 split
 ·symm;assumption
 split
 ·symm;assumption
 rfl
theorem Yas {w:Int} (h:0≤w):(dc w).Kind=0↔w=0:=by
 unfold dc Zii
 constructor
 ·intro q
  split at q
  ·omega
  split at q
  ·simp at q
  split at q
  ·simp at q
  split at q
  ·simp at q
  simp at q
 intro q
 rw [if_pos (by omega)]
theorem Z40 (hw:WS A.segments) (s a:Int):Ux A.segments s a=some (Zx0 A (atR A s a)):=by
 have hk0:=Zjl A.segments s a
 have hR:Vi A.segments s a=some (⟨(fol A.segments s a).1.P,(fol A.segments s a).1.Segment,(fol A.segments s a).1.At⟩,(fol A.segments s a).2):=Z43 hw s a
 unfold Ux atR
 rw [hR,Option.bind_some]
 clear hR
 revert hk0
 generalize fol A.segments s a=y
 intro hk0
 obtain ⟨x,e⟩:=y
 dsimp only at hk0 ⊢
 rcases hk0 with h | ⟨h1,hp,hk,hi⟩
 ·rw [if_pos h]
  have:cond (e != 0) true (x.P.Kind == 0)=true:=by
   rcases h with h | h
   ·rw [bne_iff_ne.2 h];rfl
   rw [show (x.P.Kind == 0)=true from by rw [h];rfl]
   cases (e != 0) <;> rfl
  rw [this,cond_true];rfl
 rw [if_neg (by omega),h1,show ((0:Int) != 0)=false from rfl,cond_false]
 rw [show (x.P.Kind == 0)=false from X2 (by omega),cond_false]
 by_cases k1:x.P.Kind=1
 ·rw [if_pos k1,show (x.P.Kind == 1)=true from by rw [k1];rfl,cond_true]
  rfl
 rw [if_neg k1,show (x.P.Kind == 1)=false from X2 k1,cond_false]
 have hc:=hp.c
 by_cases c7':x.P.Code=7
 ·rw [if_pos c7',show decide (x.P.Code < 7)=false from by rw [decide_eq_false_iff_not];omega,cond_false]
  have hpw:pw x.P=x.P.Count+1:=by unfold pw;rw [if_neg k1,if_pos c7']
  rw [hpw] at hi
  have hn:=hp.n
  have hi':=inB_iff.1 hi
  have hi1:inB A.segments x.Segment x.At 1=true:=inB_iff.2 ⟨hi'.1,hi'.2.1,hi'.2.2.1,by omega,by omega⟩
  have hwr:=Znz hw x.Segment x.At
  have hrr:=Zs2 hw hi
  rw [(Zf6 hi'.1 hi'.2.1).1,Option.bind_some,(Zvd hi1).1,Option.bind_some,Zxo hwr,Option.bind_some]
  have ht:=Z5b (wd A.segments x.Segment x.At)
  have ho:=(Zoa (wd A.segments x.Segment x.At)).o
  have hdz:=Yas hwr.1
  generalize dc (wd A.segments x.Segment x.At)=t at *
  have hm:=Z9c (n:=t.Off) (x:=t.Data+t.Ptrs) ho (by omega)
  rw [Yg (x:=t.Data+t.Ptrs) (by omega) (by omega),Yg (x:=t.Off * (t.Data+t.Ptrs)) (by omega) (by omega),Yg (x:=x.At+1) (by omega) (by omega)]
  by_cases hq:(t.Kind≠0∧t.Kind≠1)∨t.Off < 0∨x.P.Count < t.Off * (t.Data+t.Ptrs)
  ·rw [if_pos hq]
   have:cond (cond (cond (wd A.segments x.Segment x.At != 0) (t.Kind != 1) false) true (decide (t.Off < 0))) true (decide (x.P.Count < t.Off * (t.Data+t.Ptrs)))=true:=by
    rcases hq with ⟨q1,q2⟩ | q | q
    ·rw [bne_iff_ne.2 (fun z=>q1 (hdz.2 z)),bne_iff_ne.2 q2];rfl
    ·rw [decide_eq_true q];cases (cond (wd A.segments x.Segment x.At != 0) (t.Kind != 1) false) <;> rfl
    rw [decide_eq_true q];cases (cond (cond (wd A.segments x.Segment x.At != 0) (t.Kind != 1) false) true (decide (t.Off < 0))) <;> rfl
   rw [this,cond_true];rfl
  rw [if_neg hq]
  have e1:cond (wd A.segments x.Segment x.At != 0) (t.Kind != 1) false=false:=by
   by_cases q0:wd A.segments x.Segment x.At=0
   ·rw [show (wd A.segments x.Segment x.At != 0)=false from bne_eq_false_iff_eq.2 q0];rfl
   have q1:t.Kind=1:=by
    have:t.Kind≠0:=fun z=>q0 (hdz.1 z)
    omega
   rw [show (t.Kind != 1)=false from by rw [q1];rfl]
   cases (wd A.segments x.Segment x.At != 0) <;> rfl
  rw [e1,cond_false,show decide (t.Off < 0)=false from by rw [decide_eq_false_iff_not];omega,cond_false,show decide (x.P.Count < t.Off * (t.Data+t.Ptrs))=false from by rw [decide_eq_false_iff_not];omega]
  rfl
 rw [if_neg c7',show decide (x.P.Code < 7)=true from by rw [decide_eq_true_eq];omega,cond_true,Yg (x:=2+x.P.Code) (by omega) (by omega)]
 unfold Zx0 Gi
 simp only
 rw [if_neg (by omega),if_neg (by omega),if_neg (by omega),if_neg (by omega),show 2+x.P.Code=x.P.Code+2 by omega]
theorem Zqh {r:Zc} (h:OKr A r):Qq (Gi A r)=some (Zy r):=by
 unfold Qq
 rw [Zjf]
 unfold Zy Gi
 by_cases h1:r.kind=1
 ·rw [if_pos h1,show (r.kind == 1)=true from by rw [h1];rfl,cond_true,if_neg (by omega),if_pos h1]
 rw [if_neg h1,show (r.kind == 1)=false from X2 h1,cond_false]
 by_cases h0:r.kind=0
 ·rw [if_pos h0]
  cases h with
  | z=>rfl
  | st=>simp at h0
  | li k s a n hk=>simp only at h0;omega
  | co=>simp at h0
  | at_=>simp at h0
 rw [if_neg h0,if_neg h1]
 by_cases h9:r.kind=9
 ·rw [if_pos h9]
 rw [if_neg h9]
 by_cases h10:r.kind=10
 ·rw [if_pos h10]
  cases h with
  | z=>rfl
  | st=>rfl
  | li k s a n hk=>simp only at h10;omega
  | co=>simp at h10
  | at_=>rfl
 rw [if_neg h10]
theorem Zsm (hw:WS A.segments) {r:Zc} (h:OKr A r):Qc (Gi A r) A.segments=some (Xf A r):=by
 unfold Qc
 rw [Zjf]
 unfold Xf Gi
 cases h with
 | z=>rfl
 | li k s a n hk hn hin =>
  simp only
  rw [show (k == 10)=false from X2 (by omega),cond_false,show (k != 1)=true from bne_iff_ne.2 (by omega),cond_true,if_neg (by omega),if_neg (by omega)]
 | co s a d p n hd hp hn hwx hin=>rfl
 | at_ s a c i n hc h0 h1 hn hin=>rfl
 | st s a d p hd hp hin =>
  have hi':=inB_iff.1 hin
  have hl:=Znm hw s
  simp only [show ((1:Int) == 10)=false from rfl,show ((1:Int) != 1)=false from rfl,cond_false,show ¬ (1:Int)=0 from by decide,show ¬ (1:Int)=10 from by decide,if_false,if_true]
  rw [(Zf6 hi'.1 hi'.2.1).1,Option.bind_some,Yg (x:=a+d) (by omega) (by omega),Zwh (by omega) (by omega) (by omega),Option.bind_some,show a+d - a=d by omega,Zba (by simp only [List.length_nil,List.length_take,List.length_drop];omega) (by simp only [List.length_nil,List.length_take,List.length_drop];omega),List.nil_append]
  rfl
theorem Z91 (hw:WS A.segments) (s:Int):∀ w∈seg A.segments s,0≤w∧w < 18446744073709551616:=by
 unfold seg
 cases h:A.segments[s.toNat]? with
 | none=>simp
 | some x=>exact hw.w x (List.mem_of_getElem? h)
theorem Z3i (hw:WS A.segments) {r:Zc} (h:OKr A r) (i:Int):Ku (Gi A r) A.segments i=some (Zx0 A (Z9 A r i)):=by
 unfold Ku Z9
 rw [Zqh h,Zjf]
 have hz:(cond (decide (i < 0)) (some true) ((some (Zy r)).bind fun y4=>some (cond (decide (i < 0)) true (decide (y4≤i)))))=some (decide (i < 0∨Zy r≤i)):=by
  by_cases h0:i < 0
  ·rw [decide_eq_true h0,cond_true,show decide (i < 0∨Zy r≤i)=true from decide_eq_true (.inl h0)]
  rw [decide_eq_false h0,cond_false,Option.bind_some,cond_false]
  congr 1
  rw [decide_eq_decide]
  omega
 rw [hz,Option.bind_some]
 by_cases hi:i < 0∨Zy r≤i
 ·rw [if_pos hi,decide_eq_true hi];rfl
 rw [if_neg hi,decide_eq_false hi,cond_false]
 cases h with
 | z=>exact absurd hi (by first | (simp [Zy,r0];done) | (simp [Zy,r0];omega))
 | at_=>exact absurd hi (by first | (simp [Zy];done) | (simp [Zy];omega))
 | st s a d p hd hp hin =>
  have:=Zs2 hw hin
  simp only [Zy,if_true] at hi
  have e:Gi A (⟨some A,1,s,a,d,p,0,0,0⟩:Zc)=⟨1,s,a,d,p,0,0⟩:=rfl
  simp only [e,beq_self_eq_true,cond_true,if_true]
  rw [Yg (x:=a+d) (by omega) (by omega),Yg (by omega) (by omega),Z40 hw]
  rfl
 | co s a d p n hd hp hn hwx hin =>
  have:=Zs2 hw hin
  simp only [Zy] at hi
  rw [if_neg (by omega)] at hi
  have e:Gi A (⟨some A,9,s,a,d,p,n,0,0⟩:Zc)=⟨9,s,a+1,d,p,n,0⟩:=rfl
  simp only [e,show ((9:Int) == 1)=false from rfl,show ((9:Int) == 8)=false from rfl,show ((9:Int) == 9)=true from rfl,cond_true,cond_false,show ¬ (9:Int)=1 from by decide,show ¬ (9:Int)=8 from by decide,if_false,if_true]
  have h1:0≤i * (d+p):=Int.mul_nonneg (by omega) (by omega)
  have h2:(i+1) * (d+p)≤n * (d+p):=Int.mul_le_mul_of_nonneg_right (by omega) (by omega)
  rw [Int.add_mul,Int.one_mul] at h2
  rw [Yg (x:=d+p) (by omega) (by omega),Yg (x:=i * (d+p)) (by omega) (by omega),Yg (by omega) (by omega)]
  rfl
 | li k s a n hk hn hin =>
  have hr:=Zs2 hw hin
  have hi':=inB_iff.1 hin
  simp only [Zy] at hi
  rw [if_neg (by omega)] at hi
  have e:Gi A (⟨some A,k,s,a,0,0,n,0,0⟩:Zc)=⟨k,s,a,0,0,n,0⟩:=by
   unfold Gi
   simp only
   rw [if_neg (by omega),if_neg (by omega),if_neg (by omega),if_neg (by omega)]
  simp only [e]
  rw [show (k == 1)=false from X2 (by omega),cond_false,if_neg (by omega),show (k == 9)=false from X2 (by omega)]
  by_cases k8:k=8
  ·have hp:(n * wdt (k - 2)+63) / 64=n:=by rw [k8];simp [wdt];omega
   rw [show (k == 8)=true from by rw [k8];rfl,cond_true,if_pos k8,Yg (by omega) (by omega),Z40 hw]
   rfl
  rw [show (k == 8)=false from X2 k8,cond_false,cond_false,if_neg k8,if_neg (by omega),Yg (by omega) (by omega),(Zf6 hi'.1 hi'.2.1).1,Option.bind_some,Zwh (by omega) (by omega) (by omega),Option.bind_some]
  have hlen:((seg A.segments s).drop a.toNat).length=(seg A.segments s).length - a.toNat:=List.length_drop
  have htk:((seg A.segments s).drop a.toNat).take (((seg A.segments s).length:Int) - a).toNat=(seg A.segments s).drop a.toNat:=List.take_of_length_le (by rw [hlen];omega)
  rw [htk,Ybg (fun w hm=>Z91 hw s w (List.mem_of_mem_drop hm)) (c:=k - 2) (n:=n) (by omega) (by omega) (by omega) (by omega) (by rw [hlen];omega),Option.bind_some]
  unfold Zx0 Gi Zyd
  simp only [show ¬ (10:Int)=0 from by decide,show ¬ (10:Int)=1 from by decide,show ¬ (10:Int)=9 from by decide,if_false,if_true]
  congr 3
  by_cases hz:k - 2=0
  ·rw [if_pos hz,if_pos hz]
  rw [if_neg hz,if_neg hz]
  obtain ⟨a1,a2,a3,a4,a5,a6,a7,a8⟩:=Z5p (c:=k - 2) (i:=i) (n:=n) (by omega) (by omega) (by omega) (by omega)
  unfold wd
  rw [List.getElem?_drop,show (a+i / each (k - 2)).toNat=a.toNat+(i / each (k - 2)).toNat by omega]
end
theorem Yc9 (t:Tr):(⟨t.Kind,t.Words,t.Kids⟩:Tr)=t:=by cases t;rfl
section
variable {A:Zl}
theorem Zt9 {step:Int×Int×List Tr→Option ((Int×Int×List Tr) ⊕ ((Int×Int×List Tr) ⊕ (Int×List Tr)))} {f:Zc→Int→Tr×Int×Int} {r:Zc} (hr:OKr A r) (n:Nat) (hn:n≤1073741824)
  (hs:∀ (i:Nat) (left:Int) (acc:List Tr),i < n→acc.length=i→0≤left∧left≤65536→step (left,(i:Int),acc)=some (if (Z9 A r i).2≠0 then .inr (.inl (left,(Z9 A r i).2,acc)) else if (f (Z9 A r i).1 left).2.2≠0 then .inr (.inl ((f (Z9 A r i).1 left).2.1,(f (Z9 A r i).1 left).2.2,acc)) else .inl ((f (Z9 A r i).1 left).2.1,((i+1:Nat):Int),acc++[(f (Z9 A r i).1 left).1])))
  (he:∀ left acc,step (left,(n:Int),acc)=some (.inr (.inr (left,acc))))
  (hf:Lf A f):∀ (m i:Nat) (left:Int) (acc:List Tr),i+m=n→acc.length=i→0≤left∧left≤65536 →
  Zw step (left,(i:Int),acc)=some (if (Z6 f (Z9 A r) m i left acc).2.2=0 then .inr ((Z6 f (Z9 A r) m i left acc).2.1,(Z6 f (Z9 A r) m i left acc).1) else .inl ((Z6 f (Z9 A r) m i left acc).2.1,(Z6 f (Z9 A r) m i left acc).2.2,(Z6 f (Z9 A r) m i left acc).1))
 | 0,i,left,acc,hi,ha,hl=>by
  have:i=n:=by omega
  subst this
  exact Y7 (he left acc)
 | m+1,i,left,acc,hi,ha,hl=>by
  have hst:=hs i left acc (by omega) ha hl
  rw [Z6]
  by_cases h1:(Z9 A r i).2≠0
  ·rw [if_pos h1] at hst ⊢
   rw [if_neg h1]
   exact Y7 hst
  rw [if_neg h1] at hst ⊢
  by_cases h2:(f (Z9 A r i).1 left).2.2≠0
  ·rw [if_pos h2] at hst ⊢
   rw [if_neg h2]
   exact Y7 hst
  rw [if_neg h2] at hst ⊢
  have hb:=hf _ left (Jq hr i) hl.1 (by omega)
  rw [X4 hst]
  exact Zt9 hr n hn hs he hf m (i+1) _ _ (by omega) (by rw [List.length_append,ha];rfl) ⟨hb.1,by omega⟩
abbrev MF:=List (List Int)→Zr→Int→Int→Option (Tr×Int×Int)
theorem Z4z (hw:WS A.segments) {f1 f2:MF} {f:Zc→Int→Tr×Int×Int} (hf:Lf A f) {r:Zc} (hr:OKr A r) (h1:r.kind=1) {d left:Int} (hl:0≤left∧left≤65536)
  (hF:∀ (k:Zc) (l:Int),OKr A k→0≤l∧l≤65536→f1 A.segments (Gi A k) d l=some (f k l)):Ul f1 f2 A.segments (Gi A r) d left=some (stK A f r left):=by
 have hp:(Gi A r).Ptrs=r.ptrs:=by unfold Gi;rw [if_neg (by omega),if_pos h1]
 have hpr:0≤r.ptrs∧r.ptrs < 65536:=by
  cases hr with
  | z=>simp [r0] at h1
  | st s a d p hd hp2 hin=>exact hp2
  | li k s a n hk=>simp only at h1;omega
  | co=>simp at h1
  | at_=>simp at h1
 unfold Ul stK
 rw [Zsm hw hr,Option.bind_some]
 have hL:=Zt9 (step:=Uh f1 A.segments (Gi A r) d) (f:=f) hr r.ptrs.toNat (by omega) (fun i l acc hi ha hl=>by
  unfold Uh
  simp only
  rw [hp,show decide ((i:Int) < r.ptrs)=true from by rw [decide_eq_true_eq];omega,cond_true,Z3i hw hr,Option.bind_some]
  simp only [Zx0]
  by_cases h1:(Z9 A r i).2≠0
  ·rw [if_pos h1,bne_iff_ne.2 h1,cond_true]
  rw [if_neg h1,bne_eq_false_iff_eq.2 (show (Z9 A r i).2=0 by omega),cond_false,hF _ l (Jq hr i) hl,Option.bind_some]
  by_cases h2:(f (Z9 A r i).1 l).2.2≠0
  ·rw [if_pos h2,bne_iff_ne.2 h2,cond_true]
  rw [if_neg h2,bne_eq_false_iff_eq.2 (show (f (Z9 A r i).1 l).2.2=0 by omega),cond_false,Zba (by simp only [List.length_singleton];omega) (by simp only [List.length_singleton];omega),Option.bind_some,Yg (by omega) (by omega)]
  rfl) (fun l acc=>by
  unfold Uh
  simp only
  rw [hp,show decide (((r.ptrs.toNat:Nat):Int) < r.ptrs)=false from by rw [decide_eq_false_iff_not];omega,cond_false]) hf r.ptrs.toNat 0 left [] (by omega) rfl hl
 rw [show (((0:Nat):Int))=0 from rfl] at hL
 rw [hL,Option.bind_some]
 by_cases hq:(Z6 f (Z9 A r) r.ptrs.toNat 0 left []).2.2=0
 ·rw [if_pos hq]
  simp only
  rw [show (Z6 f (Z9 A r) r.ptrs.toNat 0 left []).2=((Z6 f (Z9 A r) r.ptrs.toNat 0 left []).2.1,0) from by rw [← hq]]
 rw [if_neg hq]
theorem Z5c {r:Zc} (hr:OKr A r):(r.kind=1→(Gi A r).Data=r.words∧(Gi A r).Ptrs=r.ptrs)∧(r.kind=9→(Gi A r).Data=r.words∧(Gi A r).Ptrs=r.ptrs∧(Gi A r).Count=r.count):=by
 refine ⟨fun h => ?_,fun h => ?_⟩
 ·unfold Gi
  rw [if_neg (by omega),if_pos h]
  exact ⟨rfl,rfl⟩
 unfold Gi
 rw [if_neg (by omega),if_neg (by omega),if_pos h]
 exact ⟨rfl,rfl,rfl⟩
theorem Z9p (hw:WS A.segments) {f1 f2:MF} {g1 g2:Zc→Int→Tr×Int×Int} (l1:Lf A g1) (l2:Lf A g2) {r:Zc} (hr:OKr A r) {d left:Int} (hd:0≤d∧d≤1000) (hl:0≤left∧left≤65536)
  (h1:1≤d→∀ (k:Zc) (l:Int),OKr A k→0≤l∧l≤65536→f1 A.segments (Gi A k) (d - 1) l=some (g1 k l))
  (h2:2≤d→∀ (k:Zc) (l:Int),OKr A k→k.kind=1→0≤l∧l≤65536→f2 A.segments (Gi A k) (d - 2) l=some (stK A g2 k l)):Kp f1 f2 A.segments (Gi A r) d left=some (Zeh A g1 g2 d r left):=by
 have hwt:=Z30 hw hr
 have hkn:=Zfr hr
 obtain ⟨fr1,fr9⟩:=Z5c hr
 unfold Kp Zeh
 rw [Zsm hw hr,Option.bind_some,Zjf,Zqh hr]
 by_cases k0:r.kind=0
 ·rw [if_pos k0,show (r.kind == 0)=true from by rw [k0];rfl,cond_true]
 rw [if_neg k0,show (r.kind == 0)=false from X2 k0,cond_false]
 have hlv:(cond (decide (d < 1)) true (cond (cond (r.kind == 9) (decide (0 < (Gi A r).Count)) false) (decide (d < 2)) false))=decide (d < lvR r):=by
  unfold lvR
  rw [if_neg k0]
  by_cases k9:r.kind=9
  ·rw [show (r.kind == 9)=true from by rw [k9];rfl,(fr9 k9).2.2,cond_true]
   by_cases hc:0 < r.count
   ·rw [if_pos ⟨k9,hc⟩,decide_eq_true hc,cond_true]
    by_cases hd1:d < 1
    ·rw [decide_eq_true hd1,cond_true,decide_eq_true (show d < 2 by omega)]
    rw [decide_eq_false hd1,cond_false]
   rw [if_neg (fun q=>hc q.2),decide_eq_false hc,cond_false]
   cases decide (d < 1) <;> rfl
  rw [show (r.kind == 9)=false from X2 k9,cond_false,cond_false,if_neg (fun q=>k9 q.1)]
  cases decide (d < 1) <;> rfl
 rw [hlv]
 have hwx:((cond (r.kind == 1) (some (IntKind.i64.wrap ((IntKind.i64.wrap (1+(Gi A r).Data))+(Gi A r).Ptrs))) (some (IntKind.i64.wrap (1+Zy r)))).bind fun (z5:Int)=>(cond (r.kind == 9) (some (IntKind.i64.wrap (1+(IntKind.i64.wrap ((Gi A r).Count * (IntKind.i64.wrap ((IntKind.i64.wrap (1+(Gi A r).Data))+(Gi A r).Ptrs))))))) (some z5)))=some (wtR r):=by
  unfold wtR
  rw [if_neg k0]
  by_cases k1:r.kind=1
  ·rw [if_pos k1,show (r.kind == 1)=true from by rw [k1];rfl,cond_true,Option.bind_some,show (r.kind == 9)=false from X2 (by omega),cond_false,(fr1 k1).1,(fr1 k1).2]
   cases hr with
   | z=>simp [r0] at k1
   | st s a d p hd hp hin=>simp only;rw [Yg (x:=1+d) (by omega) (by omega),Yg (by omega) (by omega)]
   | li k s a n hk=>simp only at k1;omega
   | co=>simp at k1
   | at_=>simp at k1
  rw [if_neg k1,show (r.kind == 1)=false from X2 k1,cond_false,Option.bind_some]
  by_cases k9:r.kind=9
  ·rw [if_pos k9,show (r.kind == 9)=true from by rw [k9];rfl,cond_true,(fr9 k9).1,(fr9 k9).2.1,(fr9 k9).2.2]
   cases hr with
   | z=>simp [r0] at k9
   | st=>simp at k9
   | li k s a n hk=>simp only at k9;omega
   | at_=>simp at k9
   | co s a d p n hd hp hn hwx hin =>
    have:n * (1+d+p)=n+n * (d+p):=by rw [Int.add_assoc,Int.mul_add,Int.mul_one]
    simp only
    rw [Yg (x:=1+d) (by omega) (by omega),Yg (x:=1+d+p) (by omega) (by omega),Yg (x:=n * (1+d+p)) (by omega) (by omega),Yg (by omega) (by omega)]
  have hkc:Zy r=r.count:=by unfold Zy;rw [if_neg k1]
  rw [if_neg k9,show (r.kind == 9)=false from X2 k9,cond_false,Yg (by omega) (by omega),hkc]
 by_cases hb1:d < lvR r
 ·rw [decide_eq_true hb1,cond_true,if_pos (.inl hb1)]
 rw [decide_eq_false hb1,cond_false,Option.bind_some]
 have hstep2:∀ {K:Int→Option (Tr×Int×Int)},((cond (r.kind == 1) (some (IntKind.i64.wrap ((IntKind.i64.wrap (1+(Gi A r).Data))+(Gi A r).Ptrs))) (some (IntKind.i64.wrap (1+Zy r)))).bind fun (z5:Int)=>(cond (r.kind == 9) (some (IntKind.i64.wrap (1+(IntKind.i64.wrap ((Gi A r).Count * (IntKind.i64.wrap ((IntKind.i64.wrap (1+(Gi A r).Data))+(Gi A r).Ptrs))))))) (some z5)).bind K)=K (wtR r):=fun {K}=>by
  rw [← Option.bind_assoc,hwx,Option.bind_some]
 rw [hstep2]
 by_cases hb2:left < wtR r
 ·rw [decide_eq_true hb2,cond_true,if_pos (.inr hb2)]
 rw [decide_eq_false hb2,cond_false,if_neg (by omega),Yg (x:=left - wtR r) (by omega) (by omega)]
 have hlvd:1≤d:=by
  have:1≤lvR r:=by unfold lvR;rw [if_neg k0];split <;> omega
  omega
 have hN:Zy r=(((Zy r).toNat:Nat):Int):=by omega
 -- one kid
 have hkf:∀ (i:Nat) (l:Int),i < (Zy r).toNat→(Z9 A r i).2=0→0≤l∧l≤65536→(cond (r.kind == 9) ((f2 A.segments (Gi A (Z9 A r i).1) (IntKind.i64.wrap (d - 2)) l).bind fun y16=>some (y16.2.1,y16.2.2,y16.1.Kind,y16.1.Words,y16.1.Kids)) (cond (cond (r.kind == 1) true (r.kind == 8)) ((f1 A.segments (Gi A (Z9 A r i).1) (IntKind.i64.wrap (d - 1)) l).bind fun y17=>some (y17.2.1,y17.2.2,y17.1.Kind,y17.1.Words,y17.1.Kids)) (some (l,(Z9 A r i).2,(Z9 A r i).1.kind,Xf A (Z9 A r i).1,([]:List Tr)))))=some ((J8 A g1 g2 r (Z9 A r i).1 l).2.1,(J8 A g1 g2 r (Z9 A r i).1 l).2.2,(J8 A g1 g2 r (Z9 A r i).1 l).1.Kind,(J8 A g1 g2 r (Z9 A r i).1 l).1.Words,(J8 A g1 g2 r (Z9 A r i).1 l).1.Kids):=fun i l hi he hl=>by
  rw [Yg (x:=d - 2) (by omega) (by omega),Yg (x:=d - 1) (by omega) (by omega)]
  unfold J8
  by_cases k9:r.kind=9
  ·have hkc:Zy r=r.count:=by unfold Zy;rw [if_neg (by omega)]
   have hd2:2≤d:=by
    have:lvR r=2:=by unfold lvR;rw [if_neg k0,if_pos ⟨k9,by omega⟩]
    omega
   rw [if_pos k9,show (r.kind == 9)=true from by rw [k9];rfl,cond_true,h2 hd2 _ l (Jq hr i) (Zko k9 ⟨by omega,by omega⟩) hl,Option.bind_some]
  rw [if_neg k9,show (r.kind == 9)=false from X2 k9,cond_false]
  by_cases k18:r.kind=1∨r.kind=8
  ·have e1:cond (r.kind == 1) true (r.kind == 8)=true:=by rcases k18 with k | k <;> rw [k] <;> rfl
   rw [if_pos k18,e1,cond_true,h1 hlvd _ l (Jq hr i) hl,Option.bind_some]
  rw [if_neg k18,show (r.kind == 1)=false from X2 (by omega),show (r.kind == 8)=false from X2 (by omega),cond_false,cond_false,he]
  rfl
 have hL:=Zt9 (step:=Kq f1 f2 A.segments (Gi A r) d) (f:=J8 A g1 g2 r) hr (Zy r).toNat (by omega) (fun i l acc hi ha hl=>by
  unfold Kq
  simp only
  rw [Zqh hr,Option.bind_some,show decide ((i:Int) < Zy r)=true from by rw [decide_eq_true_eq];omega,cond_true,Z3i hw hr,Option.bind_some]
  simp only [Zx0]
  by_cases q1:(Z9 A r i).2≠0
  ·rw [if_pos q1,bne_iff_ne.2 q1,cond_true]
  rw [if_neg q1,bne_eq_false_iff_eq.2 (show (Z9 A r i).2=0 by omega),cond_false,Zsm hw (Jq hr i),Option.bind_some,Zjf,Zjf,hkf i l hi (by omega) hl,Option.bind_some]
  simp only [Yc9]
  by_cases q2:(J8 A g1 g2 r (Z9 A r i).1 l).2.2≠0
  ·rw [if_pos q2,bne_iff_ne.2 q2,cond_true]
  rw [if_neg q2,bne_eq_false_iff_eq.2 (show (J8 A g1 g2 r (Z9 A r i).1 l).2.2=0 by omega),cond_false,Zba (by simp only [List.length_singleton];omega) (by simp only [List.length_singleton];omega),Option.bind_some,Yg (by omega) (by omega)]
  rfl) (fun l acc=>by
  unfold Kq
  simp only
  rw [Zqh hr,Option.bind_some,show decide ((((Zy r).toNat:Nat):Int) < Zy r)=false from by rw [decide_eq_false_iff_not];omega,cond_false]) (Z04 l1 l2 r) (Zy r).toNat 0 (left - wtR r) [] (by omega) rfl (by omega)
 rw [show (((0:Nat):Int))=0 from rfl] at hL
 rw [hL,Option.bind_some]
 simp only
 by_cases hq:(Z6 (J8 A g1 g2 r) (Z9 A r) (Zy r).toNat 0 (left - wtR r) []).2.2=0
 ·rw [if_pos hq]
  simp only
  rw [show (Z6 (J8 A g1 g2 r) (Z9 A r) (Zy r).toNat 0 (left - wtR r) []).2=((Z6 (J8 A g1 g2 r) (Z9 A r) (Zy r).toNat 0 (left - wtR r) []).2.1,0) from by rw [← hq]]
 rw [if_neg hq]
theorem Zs3 (hw:WS A.segments) (k d:Nat):Lf A (Yn A k d):=by
 unfold Yn
 split
 ·exact Zkp hw _
 exact Zt6
theorem Z3j (hw:WS A.segments):∀ (K:Nat),(∀ (d:Nat) r left,d≤1000→OKr A r→0≤left∧left≤65536→2 * d+1≤K→(Yx K).1 A.segments (Gi A r) d left=some (K8 A d r left)) ∧
  (∀ (d:Nat) r left,d≤1000→OKr A r→r.kind=1→0≤left∧left≤65536→2 * d+2≤K→(Yx K).2 A.segments (Gi A r) d left=some (stK A (K8 A d) r left))
 | 0=>⟨fun d r left _ _ _ h=>by omega,fun d r left _ _ _ _ h=>by omega⟩
 | K+1=>by
  obtain ⟨i1,i2⟩:=Z3j hw K
  refine ⟨fun d r left hd hr hl hK => ?_,fun d r left hd hr h1 hl hK => ?_⟩
  ·show Kp (Yx K).1 (Yx K).2 A.segments (Gi A r) d left=_
   rw [Zfy]
   refine Z9p hw (Zs3 hw 1 d) (Zs3 hw 2 d) hr (by omega) hl (fun hd1 k l hk hl => ?_) (fun hd2 k l hk k1 hl => ?_)
   ·have:=i1 (d - 1) k l (by omega) hk hl (by omega)
    rw [show (((d - 1:Nat):Int))=(d:Int) - 1 by omega] at this
    unfold Yn
    rw [if_pos (by omega)]
    exact this
   have:=i2 (d - 2) k l (by omega) hk k1 hl (by omega)
   rw [show (((d - 2:Nat):Int))=(d:Int) - 2 by omega] at this
   unfold Yn
   rw [if_pos (by omega)]
   exact this
  show Ul (Yx K).1 (Yx K).2 A.segments (Gi A r) d left=_
  exact Z4z hw (Zkp hw d) hr h1 hl fun k l hk hl=>i1 d k l hd hk hl (by omega)
theorem Z9u (hw:WS A.segments) {d:Nat} (hd:d≤1000) {r:Zc} (hr:OKr A r) {left:Int} (hl:0≤left∧left≤65536):Zdi A.segments (Gi A r) d left=some (K8 A d r left) :=
 Zh8 (2 * d+1) fun k hk=>(Z3j hw k).1 d r left hd hr hl hk
def Zki (A:Zl) (x:Z0):Tr×Int×Int :=
 if (atR A 0 0).2≠0 then (⟨0,[],[]⟩,0,(atR A 0 0).2)
 else
  let q:=K8 A (V3 x).Depth.toNat (atR A 0 0).1 (V3 x).Weight
  if q.2.2≠0 then (⟨0,[],[]⟩,0,q.2.2) else (q.1,(V3 x).Weight - q.2.1,0)
theorem Z7z (hw:WS A.segments) (x:Z0):Vj A.segments x=some (Zki A x):=by
 unfold Vj Zki
 rw [Z44,Option.bind_some,Z40 hw,Option.bind_some]
 simp only [Zx0]
 have hd:0≤(V3 x).Depth∧(V3 x).Depth≤64:=Zlg _ _ (by decide)
 have hW:0≤(V3 x).Weight∧(V3 x).Weight≤65536:=Zlg _ _ (by decide)
 by_cases h:(atR A 0 0).2≠0
 ·rw [if_pos h,show ((atR A 0 0).2 != 0)=true from bne_iff_ne.2 h,cond_true]
 rw [if_neg h,show ((atR A 0 0).2 != 0)=false from bne_eq_false_iff_eq.2 (by omega),cond_false]
 have hm:=Z9u hw (d:=(V3 x).Depth.toNat) (by omega) (Zjh (A:=A) 0 0) hW
 rw [show (((V3 x).Depth.toNat:Nat):Int)=(V3 x).Depth by omega] at hm
 rw [hm,Option.bind_some]
 by_cases hq:(K8 A (V3 x).Depth.toNat (atR A 0 0).1 (V3 x).Weight).2.2≠0
 ·rw [if_pos hq,show ((K8 A (V3 x).Depth.toNat (atR A 0 0).1 (V3 x).Weight).2.2 != 0)=true from bne_iff_ne.2 hq,cond_true]
 have h0:(K8 A (V3 x).Depth.toNat (atR A 0 0).1 (V3 x).Weight).2.2=0:=by omega
 have hb:=Zkp hw _ _ _ (Zjh (A:=A) 0 0) hW.1 h0
 rw [if_neg hq,show ((K8 A (V3 x).Depth.toNat (atR A 0 0).1 (V3 x).Weight).2.2 != 0)=false from bne_eq_false_iff_eq.2 h0,cond_false,Yg (by omega) (by omega)]
theorem Ybn (x:Z0):(Zki A x).2=Z4c A x:=by
 unfold Zki Z4c
 by_cases h:(atR A 0 0).2≠0
 ·rw [if_pos h,if_pos h]
 rw [if_neg h,if_neg h]
 simp only
 by_cases hq:(K8 A (V3 x).Depth.toNat (atR A 0 0).1 (V3 x).Weight).2.2≠0
 ·rw [if_pos hq,if_pos hq]
 rw [if_neg hq,if_neg hq]
end
section
variable {A:Zl}
theorem Zx6 (hw:WS A.segments) {r:Zc} (h:OKr A r):((Xf A r).length:Int)=Za9 r:=by
 unfold Xf Za9
 cases h with
 | z=>rfl
 | li k s a n hk hn hin=>simp only;rw [if_neg (by omega),if_neg (by omega),if_neg (by omega),if_neg (by omega)];rfl
 | co=>rfl
 | at_=>rfl
 | st s a d p hd hp hin =>
  have hi':=inB_iff.1 hin
  simp only [show ¬ (1:Int)=10 from by decide,if_false,if_true,List.length_take,List.length_drop]
  omega
theorem Z73 (hw:WS A.segments) {r:Zc} (h:OKr A r) {i:Nat} (hi:i < (Xf A r).length):(Xf A r)[i]=Z6k A r (i:Int):=by
 have hl:=Zx6 hw h
 unfold Z6k
 rw [if_neg (by omega)]
 cases h with
 | z=>simp [Xf,r0] at hi
 | li k s a n hk hn hin =>
  have:Xf A ⟨some A,k,s,a,0,0,n,0,0⟩=[]:=by unfold Xf;rw [if_neg (by simp only;omega),if_neg (by simp only;omega)]
  simp [this] at hi
 | co=>simp [Xf] at hi
 | at_ s a c j n hc h0 h1 hn hin =>
  have:i=0:=by
   simp [Xf] at hi;exact hi
  subst this
  rfl
 | st s a d p hd hp hin =>
  have hi':=inB_iff.1 hin
  have hid:(i:Int) < d:=by simp [Za9] at hl;omega
  simp only [Xf,show ¬ (1:Int)=10 from by decide,if_false,if_true,List.getElem_take,List.getElem_drop]
  unfold wd
  rw [show (a+(i:Int)).toNat=a.toNat+i by omega,List.getElem?_eq_getElem (by omega)]
  rfl
end
theorem Xt {t x:Tr} (h:x∈t.Kids):SizeOf.sizeOf x < SizeOf.sizeOf t:=by
 obtain ⟨k,w,ks⟩:=t
 have:=List.sizeOf_lt_of_mem h
 simp only [Za.mk.sizeOf_spec]
 simp only at this
 omega
theorem Zw9 {α R:Type} (xs:List α) (step:Int→Option (Int ⊕ R)) (p:α→Bool) (e o:R) (hl:(xs.length:Int)≤140737488355328)
  (h1:∀ (i:Nat) (x:α),i < xs.length→xs[i]? = some x→x∈xs→step i=some (if p x=true then .inr e else .inl (IntKind.i64.wrap ((i:Int)+1)))) (h2:step xs.length=some (.inr o)):Zw step 0=some (if xs.any p=true then e else o):=by
 have hloop:=Z7d xs (fun i (_:Unit)=>i) step (fun _ x=>some (if p x=true then .inr e else .inl ())) (fun _=>o) (fun i s x hi hx=>by
  rw [h1 i x hi hx (List.mem_of_getElem? hx),Yg (by omega) (by omega)]
  cases p x <;> rfl) (fun _=>h2) ()
 refine hloop.trans ?_
 rw [Zws p (fun s _=>s) e (fun _ _=>True) xs.length xs () 0 (by omega) trivial (fun s k x _ _ _=>⟨by cases p x <;> rfl,fun _=>trivial⟩)]
def tr {α:Type} (p:α→Bool):List α→List α
 | []=>[]
 | x::xs=>match tr p xs with
  | []=>if p x=true then [] else [x]
  | y::ys=>x::y::ys
def trN {α:Type} (p:α→Bool) (l:List α):Nat→Nat
 | 0=>0
 | n+1=>match l[n]? with
  | some x=>if p x=true then trN p l n else n+1
  | none=>0
theorem Zvx {α:Type} {p:α→Bool} {x:α} (h:p x=true):∀ l:List α,tr p (l++[x])=tr p l
 | []=>by simp [tr,h]
 | y::l=>by simp only [List.cons_append,tr,Zvx h l]
theorem Zvw {α:Type} {p:α→Bool} {x:α} (h:p x=false):∀ l:List α,tr p (l++[x])=l++[x]
 | []=>by simp [tr,h]
 | y::l=>by
  simp only [List.cons_append,tr,Zvw h l]
  cases hl:l++[x] with
  | nil=>simp at hl
  | cons a b=>rfl
theorem Zx1 {α:Type} {p:α→Bool} {l:List α}:∀ n,n≤l.length→l.take (trN p l n)=tr p (l.take n)∧trN p l n≤n
 | 0,_=>by simp [trN,tr]
 | n+1,h=>by
  have hn:l[n]? = some l[n]:=List.getElem?_eq_getElem (by omega)
  have e:l.take (n+1)=l.take n++[l[n]]:=by rw [List.take_add_one,hn];rfl
  obtain ⟨h1,h2⟩:=Zx1 (p:=p) (l:=l) n (by omega)
  unfold trN
  rw [hn]
  simp only
  split
  ·rename_i hp
   rw [e,Zvx hp]
   exact ⟨h1,by omega⟩
  rename_i hp
  rw [e,Zvw (by simpa using hp),← e]
  exact ⟨rfl,Nat.le_refl _⟩
theorem Znq {α:Type} (p:α→Bool):∀ l:List α,(tr p l).length≤l.length
 | []=>by simp [tr]
 | x::l=>by
  have:=Znq p l
  simp only [tr]
  split
  ·split <;> simp
  rename_i y ys he
  rw [he] at this
  simp at this ⊢
  omega
theorem Zk4 {α:Type} {p:α→Bool} {x:α}:∀ {l:List α},x∈tr p l→x∈l
 | [],h=>by simp [tr] at h
 | y::l,h=>by
  simp only [tr] at h
  split at h
  ·split at h
   ·simp at h
   simp at h;simp [h]
  rename_i z zs he
  rw [← he] at h
  rcases List.mem_cons.1 h with h | h
  ·simp [h]
  exact List.mem_cons_of_mem _ (Zk4 h)
theorem Z0a {α:Type} {p:α→Bool}:∀ l:List α,tr p (tr p l)=tr p l
 | []=>rfl
 | x::l=>by
  have ih:=Z0a (p:=p) l
  simp only [tr]
  cases h:tr p l with
  | nil =>
   simp only
   cases hx:p x <;> simp [tr,hx]
  | cons y ys =>
   rw [h] at ih
   simp only [tr] at ih ⊢
   rw [ih]
theorem Z5d {α β:Type} {p:α→Bool} {q:β→Bool} {f:α→β} (h:∀ x,q (f x)=p x):∀ l:List α,tr q (l.map f)=(tr p l).map f
 | []=>rfl
 | x::l=>by
  simp only [List.map_cons,tr,Z5d h l]
  cases tr p l with
  | nil=>simp only [List.map_nil,h];split <;> rfl
  | cons y ys=>rfl
theorem Z06 {α:Type} (l:List α) (p:α→Bool) (step:Int→Option (Int ⊕ Int)) (hl:(l.length:Int)≤140737488355328)
  (h0:step 0=some (.inr 0)) (h1:∀ (n:Nat) (x:α),l[n]? = some x→n < l.length→step ((n+1:Nat):Int)=some (if p x=true then .inl (n:Int) else .inr ((n+1:Nat):Int))):Zw step (l.length:Int)=some (trN p l l.length:Int):=by
 have key:∀ n:Nat,n≤l.length→Zw step (n:Int)=some (trN p l n:Int):=fun n=>by
  induction n with
  | zero=>intro _;exact Y7 h0
  | succ n ih =>
   intro hn
   have hx:l[n]? = some l[n]:=List.getElem?_eq_getElem (by omega)
   have h:=h1 n _ hx (by omega)
   unfold trN
   rw [hx]
   simp only
   split
   ·rename_i hp
    rw [if_pos hp] at h
    rw [X4 h]
    exact ih (by omega)
   rename_i hp
   rw [if_neg hp] at h
   exact Y7 h
 exact key l.length (Nat.le_refl _)
theorem Ztq {α:Type} {l:List α} {n:Nat} (h:n≤l.length):Zin l 0 (n:Int)=some (l.take n):=by
 rw [Zwh (by omega) (by omega) (by omega)]
 simp
theorem Ycb {n:Nat}:decide (0 < ((n+1:Nat):Int))=true:=by rw [decide_eq_true_eq];omega
theorem Z1w {l:List Int} (hl:(l.length:Int)≤140737488355328):Zbp l=some (tr (fun x=>x == 0) l):=by
 have hloop:=Z06 l (fun x=>x == 0) (U7 l) hl (by unfold U7;rfl) (fun n x hx hn=>by
  unfold U7
  rw [Ycb,cond_true,Yg (by omega) (by omega)]
  have e:((n+1:Nat):Int) - 1=(n:Int):=by omega
  rw [e,Y3 hx]
  simp only [Option.bind_some,cond_true]
  cases x == 0 <;> rfl)
 obtain ⟨h1,h2⟩:=Zx1 (p:=fun x=>x == 0) (l:=l) l.length (Nat.le_refl _)
 unfold Zbp
 rw [hloop,Option.bind_some,Ztq h2,Option.bind_some,h1,List.take_length]
theorem Z3t {l:List Tr} (hl:(l.length:Int)≤140737488355328):Zcj l=some (tr (fun x=>x.Kind == 0) l):=by
 have hloop:=Z06 l (fun x=>x.Kind == 0) (Gy l) hl (by unfold Gy;rfl) (fun n x hx hn=>by
  unfold Gy
  rw [Ycb,cond_true,Yg (by omega) (by omega)]
  have e:((n+1:Nat):Int) - 1=(n:Int):=by omega
  rw [e,Y3 hx]
  simp only [Option.bind_some,cond_true]
  cases x.Kind == 0 <;> rfl)
 obtain ⟨h1,h2⟩:=Zx1 (p:=fun x=>x.Kind == 0) (l:=l) l.length (Nat.le_refl _)
 unfold Zcj
 rw [hloop,Option.bind_some,Ztq h2,Option.bind_some,h1,List.take_length]
theorem Z9q {l:List Int} (hl:l.length * 8≤140737488355328):Zau l=some (tr (fun x=>x == 0) l):=by
 have hloop:=Z06 l (fun x=>x == 0) (Uj l) (by omega) (by unfold Uj;rfl) (fun n x hx hn=>by
  unfold Uj
  rw [Ycb,cond_true,Yg (by omega) (by omega)]
  have e:((n+1:Nat):Int) - 1=(n:Int):=by omega
  rw [e,Y3 hx]
  simp only [Option.bind_some,cond_true]
  cases x == 0 <;> rfl)
 obtain ⟨h1,h2⟩:=Zx1 (p:=fun x=>x == 0) (l:=l) l.length (Nat.le_refl _)
 have h3:=Znq (fun x=>x == 0) l
 unfold Zau
 rw [hloop,Option.bind_some,Ztq h2,Option.bind_some,h1,List.take_length,Zba (by rw [List.length_nil];omega) (by rw [List.length_nil];omega)]
 rfl
inductive Bd:Tr→Prop
 | mk (t:Tr) (h1:t.Words.length * 8≤140737488355328) (h2:t.Kids.length * 56≤140737488355328) (h3:∀ w∈t.Words,0≤w∧w < 18446744073709551616) (h4:∀ k∈t.Kids,Bd k):Bd t
theorem Bd.w {t:Tr} (h:Bd t):t.Words.length * 8≤140737488355328:=by cases h;assumption
theorem Bd.k {t:Tr} (h:Bd t):t.Kids.length * 56≤140737488355328:=by cases h;assumption
theorem Bd.u {t:Tr} (h:Bd t):∀ w∈t.Words,0≤w∧w < 18446744073709551616:=by cases h;assumption
theorem Bd.all {t:Tr} (h:Bd t):∀ k∈t.Kids,Bd k:=by cases h;assumption
def nrm (t:Tr):Tr :=
 if t.Kind=0 then ⟨0,[],[]⟩
 else if t.Kind=1 then ⟨1,tr (fun x=>x == 0) t.Words,tr (fun x=>x.Kind == 0) (t.Kids.attach.map fun k=>nrm k.1)⟩
 else ⟨t.Kind,t.Words,t.Kids.attach.map fun k=>nrm k.1⟩
termination_by SizeOf.sizeOf t
decreasing_by all_goals exact Xt k.2
theorem Zh9 (t:Tr):nrm t=if t.Kind=0 then ⟨0,[],[]⟩ else if t.Kind=1 then ⟨1,tr (fun x=>x == 0) t.Words,tr (fun x=>x.Kind == 0) (t.Kids.map nrm)⟩ else ⟨t.Kind,t.Words,t.Kids.map nrm⟩:=by
 rw [nrm]
 simp only [List.attach_map_val]
theorem Zfz (t:Tr):(nrm t).Kind=t.Kind:=by
 rw [Zh9]
 split
 ·rename_i h;exact h.symm
 split
 ·rename_i h;exact h.symm
 rfl
theorem Z93 {α β:Type} {xs:List α} {f:α→β} {z:β} {i m:Nat} {x:α} (hi:i+(m+1)=xs.length) (hx:xs[i]? = some x) :
  ((xs.take i).map f++List.replicate (m+1) z).set i (f x)=(xs.take (i+1)).map f++List.replicate m z:=by
 have hl:((xs.take i).map f).length=i:=by rw [List.length_map,List.length_take];omega
 rw [List.set_append,if_neg (by omega),hl,Nat.sub_self,List.replicate_succ,List.set_cons_zero,List.take_add_one,hx]
 simp
theorem Z88 {α β:Type} (xs:List α) (f:α→β) (z:β) (step:Int×List β→Option ((Int×List β) ⊕ List β)) (hl:(xs.length:Int)≤140737488355328)
  (h1:∀ (i:Nat) (x:α) (out:List β) (y:β),i < xs.length→xs[i]? = some x→x∈xs→out[i]? = some y→step ((i:Int),out)=some (.inl (IntKind.i64.wrap ((i:Int)+1),Kc out (i:Int) (f x))))
  (h2:∀ out,step ((xs.length:Int),out)=some (.inr out)):Zw step (0,List.replicate xs.length z)=some (xs.map f):=by
 have key:∀ m i,i+m=xs.length→Zw step ((i:Int),(xs.take i).map f++List.replicate m z)=some (xs.map f):=fun m=>by
  induction m with
  | zero =>
   intro i hi
   have hi':i=xs.length:=by omega
   subst hi'
   rw [List.take_length,List.replicate_zero,List.append_nil]
   exact Y7 (h2 _)
  | succ m ih =>
   intro i hi
   have hx:xs[i]? = some xs[i]:=List.getElem?_eq_getElem (by omega)
   have hl':((xs.take i).map f).length=i:=by rw [List.length_map,List.length_take];omega
   have hy:((xs.take i).map f++List.replicate (m+1) z)[i]? = some z:=by
    rw [List.getElem?_append_right (by omega),hl',Nat.sub_self,List.replicate_succ];rfl
   have h:=h1 i _ _ z (by omega) hx (List.mem_of_getElem? hx) hy
   rw [Yg (by omega) (by omega)] at h
   rw [X4 h]
   unfold Kc
   rw [Int.toNat_natCast,Z93 (by omega) hx]
   exact ih (i+1) (by omega)
 have:=key xs.length 0 (by omega)
 simpa using this
theorem Z54:∀ (k:Nat) (t:Tr),Bd t→SizeOf.sizeOf t < k→U9 k t=some (nrm t)
 | 0,t,_,h=>by omega
 | k+1,t,hb,hk=>by
  have ih:∀ x∈t.Kids,U9 k x=some (nrm x):=fun x hx=>Z54 k x (hb.all x hx) (by have:=Xt hx;omega)
  have hw:=hb.w
  have hkd:=hb.k
  show Zhl (U9 k) t=_
  unfold Zhl
  rw [Zh9]
  by_cases h0:t.Kind=0
  ·rw [if_pos h0,h0];rfl
  have e0:(t.Kind == 0)=false:=by rw [beq_eq_false_iff_ne];exact h0
  rw [if_neg h0,e0,cond_false]
  have main:∀ (w:List Int) (ks:List Tr),(ks.length:Int)≤140737488355328→(56:Int) * ks.length≤140737488355328→(∀ x∈ks,U9 k x=some (nrm x)) →
    ((cond (decide (0 < ((w,ks).2.length:Int))) ((Zic 56 ((w,ks).2.length:Int) (⟨(0:Int),([]:(List Int)),([]:(List Za))⟩:Za)).bind fun l6=>some l6) (some ([]:List Za))).bind fun (z5:(List Za))=>(Zw (Zbg (U9 k) (w,ks)) (0,z5)).bind fun (z14:(List Za))=>some (⟨t.Kind,(w,ks).1,z14⟩:Za))=some ⟨t.Kind,w,ks.map nrm⟩:=fun w ks h1 h2 hks=>by
   have hz:(cond (decide (0 < ((w,ks).2.length:Int))) ((Zic 56 ((w,ks).2.length:Int) (⟨(0:Int),([]:(List Int)),([]:(List Za))⟩:Za)).bind fun l6=>some l6) (some ([]:List Za)))=some (List.replicate ks.length (⟨0,[],[]⟩:Tr)):=by
    cases ks with
    | nil=>rfl
    | cons y ys =>
     have:decide (0 < (((w,y::ys).2.length:Nat):Int))=true:=by rw [decide_eq_true_eq];simp
     rw [this,cond_true,Zoj (Int.natCast_nonneg _) h2 h1,Option.bind_some,Int.toNat_natCast]
   rw [hz,Option.bind_some]
   rw [Z88 ks nrm _ (Zbg (U9 k) (w,ks)) h1 (fun i x out z hi hx hm hz=>by
     unfold Zbg
     simp only
     rw [Zee hi,cond_true,Y3 hx,Option.bind_some,hks x hm,Option.bind_some,Y3 hz,Option.bind_some]) (fun out=>by
     unfold Zbg
     simp only
     rw [Zd4,cond_false]),Option.bind_some]
  by_cases h1:t.Kind=1
  ·have e1:(t.Kind == 1)=true:=by rw [beq_iff_eq];exact h1
   have l1:=Znq (fun x:Tr=>x.Kind == 0) t.Kids
   rw [if_pos h1,e1,cond_true,Z1w (by omega),Option.bind_some,Z3t (by omega),Option.bind_some,Option.bind_some]
   rw [main _ _ (by omega) (by omega) (fun x hx=>ih x (Zk4 hx)),Z5d (fun x=>by rw [Zfz]),h1]
  have e1:(t.Kind == 1)=false:=by rw [beq_eq_false_iff_ne];exact h1
  rw [if_neg h1,e1,cond_false,Option.bind_some]
  exact main _ _ (by omega) (by omega) ih
theorem Z08 {t:Tr} (h:Bd t):Zhr t=some (nrm t):=Zh8 (SizeOf.sizeOf t+1) fun k hk=>Z54 k t h (by omega)
theorem Zvy {α:Type} {p:α→Bool} {x:α} {l:List α} (h:tr p l=[]):tr p (x::l)=if p x=true then [] else [x]:=by simp only [tr,h]
theorem Zx2 {α:Type} {p:α→Bool} {x:α} {l:List α} (h:tr p l≠[]):tr p (x::l)=x::tr p l:=by
 simp only [tr]
 split
 ·rename_i h';exact absurd h' h
 rename_i h';rw [h']
theorem Z5w:∀ (l:List Tr) (n:Nat) (acc:Int),(l.zipIdx n).foldl (fun a p=>if p.1.Kind=0 then a else ((p.2+1:Nat):Int)) acc=if (tr (fun x=>x.Kind == 0) l).length=0 then acc else ((n+(tr (fun x=>x.Kind == 0) l).length:Nat):Int)
 | [],n,acc=>by simp [tr]
 | x::l,n,acc=>by
  rw [List.zipIdx_cons,List.foldl_cons,Z5w l (n+1)]
  by_cases h:tr (fun x=>x.Kind == 0) l=[]
  ·rw [Zvy h,h]
   by_cases hx:x.Kind=0
   ·simp [hx]
   simp [hx]
  have h':(tr (fun x=>x.Kind == 0) l).length≠0:=by simpa using h
  rw [Zx2 h,if_neg h',List.length_cons,if_neg (by omega)]
  congr 1
  omega
theorem Ybk {α:Type} (p:α→Bool) (l:List α):l.take (tr p l).length=tr p l:=by
 obtain ⟨h1,h2⟩:=Zx1 (p:=p) (l:=l) l.length (Nat.le_refl _)
 rw [List.take_length] at h1
 rw [← h1,List.length_take]
 congr 1
 omega
theorem Z9v {k:Nat} {t:Tr} (hl:t.Kids.length * 56≤140737488355328) (ih:∀ x∈t.Kids,Xv k x=some (nrm x)) :
  Zw (Q6 (Xv k) t) (0,0,[])=some (if (tr (fun x=>x.Kind == 0) (t.Kids.map nrm)).length=0 then 0 else ((tr (fun x=>x.Kind == 0) (t.Kids.map nrm)).length:Int),t.Kids.map nrm):=by
 have key:∀ (l pre:List Tr) (a:Int),t.Kids=pre++l→Zw (Q6 (Xv k) t) (a,((pre.length:Nat):Int),pre.map nrm)=some (((l.map nrm).zipIdx pre.length).foldl (fun a p=>if p.1.Kind=0 then a else ((p.2+1:Nat):Int)) a,t.Kids.map nrm):=fun l=>by
  induction l with
  | nil =>
   intro pre a hp
   rw [List.append_nil] at hp
   refine Y7 ?_
   unfold Q6
   simp only
   rw [hp,Zd4,cond_false]
   rfl
  | cons x l ihl =>
   intro pre a hp
   have hx:t.Kids[pre.length]? = some x:=by rw [hp,List.getElem?_append_right (Nat.le_refl _),Nat.sub_self];rfl
   have hi:pre.length < t.Kids.length:=by rw [hp];simp
   have hm:x∈t.Kids:=List.mem_of_getElem? hx
   have hs:Q6 (Xv k) t (a,((pre.length:Nat):Int),pre.map nrm)=some (.inl (if x.Kind=0 then a else ((pre.length+1:Nat):Int),(((pre++[x]).length:Nat):Int),(pre++[x]).map nrm)):=by
    unfold Q6
    simp only
    rw [Zee hi,cond_true,Y3 hx,Option.bind_some,ih x hm,Option.bind_some,Zba (by simp;omega) (by simp;omega),Option.bind_some,Yg (by omega) (by omega),Zfz]
    have e:((pre.length:Nat):Int)+1=((pre.length+1:Nat):Int):=by omega
    rw [e]
    by_cases h0:x.Kind=0
    ·simp [h0]
    have:(x.Kind != 0)=true:=by simp [h0]
    rw [this,cond_true]
    simp [h0]
   rw [X4 hs,ihl (pre++[x]) _ (by rw [hp];simp)]
   simp only [List.map_cons,List.zipIdx_cons,List.foldl_cons,List.length_append,List.length_singleton,Zfz]
 have:=key t.Kids [] 0 rfl
 rw [Z5w] at this
 simpa using this
theorem Z3k:∀ (k:Nat) (t:Tr),Bd t→SizeOf.sizeOf t < k→Xv k t=some (nrm t)
 | 0,t,_,h=>by omega
 | k+1,t,hb,hk=>by
  have ih:∀ x∈t.Kids,Xv k x=some (nrm x):=fun x hx=>Z3k k x (hb.all x hx) (by have:=Xt hx;omega)
  have hw:=hb.w
  have hkd:=hb.k
  show Zaq (Xv k) t=_
  unfold Zaq
  rw [Zh9]
  by_cases h0:t.Kind=0
  ·rw [if_pos h0,h0];rfl
  have e0:(t.Kind == 0)=false:=by rw [beq_eq_false_iff_ne];exact h0
  rw [if_neg h0,e0,cond_false,Z9v hkd ih,Option.bind_some]
  by_cases h1:t.Kind=1
  ·have e1:(t.Kind == 1)=true:=by rw [beq_iff_eq];exact h1
   rw [if_pos h1,e1,cond_true,Z9q hw,Option.bind_some]
   have l1:=Znq (fun x:Tr=>x.Kind == 0) (t.Kids.map nrm)
   have l2:(if (tr (fun x=>x.Kind == 0) (t.Kids.map nrm)).length=0 then (0:Int) else ((tr (fun x=>x.Kind == 0) (t.Kids.map nrm)).length:Int))=((tr (fun x=>x.Kind == 0) (t.Kids.map nrm)).length:Int):=by
    split
    ·rename_i h;rw [h];rfl
    rfl
   simp only [l2]
   rw [Ztq l1,Option.bind_some,Ybk]
  have e1:(t.Kind == 1)=false:=by rw [beq_eq_false_iff_ne];exact h1
  rw [if_neg h1,e1,cond_false,Zba (by rw [List.length_nil];omega) (by rw [List.length_nil];omega)]
  rfl
theorem Zo0 {t:Tr} (h:Bd t):Zc7 t=some (nrm t):=Zh8 (SizeOf.sizeOf t+1) fun k hk=>Z3k k t h (by omega)
theorem Z9f:∀ (n:Nat) (t:Tr),SizeOf.sizeOf t < n→Bd t→Bd (nrm t)
 | 0,t,h,_=>by omega
 | n+1,t,hn,hb=>by
  have ih:∀ x∈t.Kids,Bd (nrm x):=fun x hx=>Z9f n x (by have:=Xt hx;omega) (hb.all x hx)
  have hw:=hb.w
  have hk:=hb.k
  rw [Zh9]
  split
  ·exact .mk _ (by simp) (by simp) (fun w h=>by simp at h) (fun w h=>by simp at h)
  split
  ·have l1:=Znq (fun x:Int=>x == 0) t.Words
   have l2:=Znq (fun x:Tr=>x.Kind == 0) (t.Kids.map nrm)
   rw [List.length_map] at l2
   refine .mk _ (by simp only;omega) (Nat.le_trans (Nat.mul_le_mul_right 56 l2) hk) (fun w h=>hb.u w (Zk4 h)) (fun x h => ?_)
   obtain ⟨y,hy,rfl⟩:=List.mem_map.1 (Zk4 h)
   exact ih y hy
  refine .mk _ hw (by simp only [List.length_map];exact hk) hb.u (fun x h => ?_)
  obtain ⟨y,hy,rfl⟩:=List.mem_map.1 h
  exact ih y hy
theorem Bd.nrm {t:Tr} (h:Bd t):Bd (nrm t):=Z9f _ t (Nat.lt_succ_self _) h
theorem Zy0:∀ (n:Nat) (t:Tr),SizeOf.sizeOf t < n→nrm (nrm t)=nrm t
 | 0,t,h=>by omega
 | n+1,t,hn=>by
  have ih:∀ x∈t.Kids,nrm (nrm x)=nrm x:=fun x hx=>Zy0 n x (by have:=Xt hx;omega)
  have em:∀ l:List Tr,(∀ x∈l,x∈t.Kids)→(l.map nrm).map nrm=l.map nrm:=fun l hl=>by
   rw [List.map_map]
   exact List.map_congr_left fun x hx=>ih x (hl x hx)
  rw [Zh9 t]
  by_cases h0:t.Kind=0
  ·rw [if_pos h0,Zh9];simp
  rw [if_neg h0]
  by_cases h1:t.Kind=1
  ·rw [if_pos h1,Zh9]
   simp only [if_neg (show ¬ (1:Int)=0 by decide),if_true]
   have q1:∀ l:List Tr,tr (fun x:Tr=>x.Kind == 0) (l.map nrm)=(tr (fun x:Tr=>x.Kind == 0) l).map nrm:=Z5d (fun x=>by rw [Zfz])
   rw [Z0a,q1,Z0a,q1,em _ (fun x hx=>Zk4 hx)]
  rw [if_neg h1,Zh9]
  simp only
  rw [if_neg h0,if_neg h1,em _ (fun x hx=>hx)]
theorem Zs6 (t:Tr):nrm (nrm t)=nrm t:=Zy0 _ t (Nat.lt_succ_self _)
def eqT (a b:Tr):Bool:=a.Kind == b.Kind && (a.Words == b.Words && (a.Kids.length == b.Kids.length && (a.Kids.attach.zip b.Kids).all fun p=>eqT p.1.1 p.2))
termination_by SizeOf.sizeOf a
decreasing_by exact Xt p.1.2
def eqL:List Tr→List Tr→Bool
 | [],[]=>true
 | x::xs,y::ys=>eqT x y && eqL xs ys
 | _,_=>false
theorem Z6p:∀ (l m:List Tr) (P:Tr→Prop) (l':List {x // P x}),l'.map (·.1)=l→(l.length == m.length && (l'.zip m).all fun p=>eqT p.1.1 p.2)=eqL l m
 | [],[],P,l',h=>by cases l' <;> simp_all [eqL]
 | [],y::m,P,l',h=>by cases l' <;> simp_all [eqL]
 | x::l,[],P,l',h=>by cases l' <;> simp_all [eqL]
 | x::l,y::m,P,l',h=>by
  cases l' with
  | nil=>simp at h
  | cons z l' =>
   simp only [List.map_cons,List.cons.injEq] at h
   have ih:=Z6p l m P l' h.2
   simp only [List.length_cons,List.zip_cons_cons,List.all_cons,eqL,h.1]
   rw [← ih]
   have:(l.length+1 == m.length+1)=(l.length == m.length):=by simp
   rw [this]
   cases l.length == m.length <;> cases eqT x y <;> rfl
theorem Z8k (a b:Tr):eqT a b=(a.Kind == b.Kind && (a.Words == b.Words && eqL a.Kids b.Kids)):=by
 rw [eqT,Z6p a.Kids b.Kids (·∈a.Kids) a.Kids.attach (by simp)]
theorem Z2h (x y:Tr) (xs ys:List Tr):eqL (x::xs) (y::ys)=(eqT x y && eqL xs ys):=rfl
theorem Zyv:∀ (n:Nat) (a b:Tr),SizeOf.sizeOf a < n→(eqT a b=true↔a=b)
 | 0,a,b,h=>by omega
 | n+1,a,b,hn=>by
  have ih:∀ x∈a.Kids,∀ y,eqT x y=true↔x=y:=fun x hx y=>Zyv n x y (by have:=Xt hx;omega)
  have hl:∀ (l m:List Tr),(∀ x∈l,x∈a.Kids)→(eqL l m=true↔l=m):=fun l=>by
   induction l with
   | nil=>intro m _;cases m <;> simp [eqL]
   | cons x l ihl =>
    intro m hm
    cases m with
    | nil=>simp [eqL]
    | cons y m=>rw [Z2h,Bool.and_eq_true,ih x (hm x (.head _)) y,ihl m (fun z hz=>hm z (.tail _ hz)),List.cons.injEq]
  rw [Z8k,Bool.and_eq_true,Bool.and_eq_true,hl a.Kids b.Kids (fun x hx=>hx),beq_iff_eq,beq_iff_eq]
  obtain ⟨k,w,ks⟩:=a
  obtain ⟨k',w',ks'⟩:=b
  simp
theorem eqT_iff {a b:Tr}:eqT a b=true↔a=b:=Zyv _ a b (Nat.lt_succ_self _)
theorem Z8a:∀ (a b:List Int),a.length=b.length→(a.zip b).any (fun p=>p.1 != p.2) = !(a == b)
 | [],[],_=>rfl
 | [],_::_,h=>by simp at h
 | _::_,[],h=>by simp at h
 | x::a,y::b,h=>by
  have ih:=Z8a a b (by simpa using h)
  rw [List.zip_cons_cons,List.any_cons,ih]
  by_cases hxy:x=y
  ·subst hxy;simp
  simp [bne,hxy]
theorem Z20 {R:Type} (a b:List Int) (step:Int→Option (Int ⊕ R)) (e o:R) (hab:a.length=b.length) (hl:(a.length:Int)≤140737488355328)
  (h1:∀ (i:Nat) (x y:Int),i < a.length→a[i]? = some x→b[i]? = some y→step i=some (if (x != y)=true then .inr e else .inl (IntKind.i64.wrap ((i:Int)+1)))) (h2:step a.length=some (.inr o)) :
  Zw step 0=some (if (a == b)=true then o else e):=by
 have hz:(a.zip b).length=a.length:=by rw [List.length_zip];omega
 have:=Zw9 (a.zip b) step (fun p=>p.1 != p.2) e o (by rw [hz];exact hl) (fun i p hi hp hm=>by
  rw [hz] at hi
  have ha:a[i]? = some a[i]:=List.getElem?_eq_getElem hi
  have hb:b[i]? = some b[i]:=List.getElem?_eq_getElem (by omega)
  have:p=(a[i],b[i]):=by
   rw [List.getElem?_eq_getElem (by rw [hz];exact hi)] at hp
   injection hp with hp
   rw [← hp,List.getElem_zip]
  subst this
  exact h1 i _ _ hi ha hb) (by rw [hz];exact h2)
 rw [this,Z8a a b hab]
 cases a == b <;> rfl
theorem Z4q {a b:Nat}:((a:Int) != (b:Int)) = !(a == b):=by
 rw [Bool.eq_iff_iff];simp;omega
theorem Z5o {a b:List Int} (h:¬ a.length=b.length):(a == b)=false:=by
 rw [beq_eq_false_iff_ne];intro e;exact h (by rw [e])
theorem Ztp {a b:List Int} (h:(a.length:Int)≤140737488355328):Qv a b=some (a == b):=by
 unfold Qv
 rw [Z4q]
 by_cases hab:a.length=b.length
 ·have:(!(a.length == b.length))=false:=by simp [hab]
  rw [this,cond_false,Z20 a b (Ui a b) (.inl ()) (.inr ()) hab h (fun i x y hi hx hy=>by
   unfold Ui
   rw [Zee hi,cond_true,Y3 hx,Option.bind_some,Y3 hy,Option.bind_some]
   cases x != y <;> rfl) (by unfold Ui;rw [Zd4];rfl)]
  cases a == b <;> rfl
 have:(!(a.length == b.length))=true:=by simp [hab]
 rw [this,cond_true,Z5o hab]
theorem Z60 {a b:List Int} (h:(a.length:Int)≤140737488355328):Qe a b=some (a == b):=by
 unfold Qe
 rw [Z4q]
 by_cases hab:a.length=b.length
 ·have:(!(a.length == b.length))=false:=by simp [hab]
  rw [this,cond_false,Z20 a b (Xz a b) (.inl ()) (.inr ()) hab h (fun i x y hi hx hy=>by
   unfold Xz
   rw [Zee hi,cond_true,Y3 hx,Option.bind_some,Y3 hy,Option.bind_some]
   cases x != y <;> rfl) (by unfold Xz;rw [Zd4];rfl)]
  cases a == b <;> rfl
 have:(!(a.length == b.length))=true:=by simp [hab]
 rw [this,cond_true,Z5o hab]
theorem Ybs (q:Tr→Tr→Bool):∀ (a b:List Tr),(a.zip b).any (fun p => !q p.1 p.2) = !((a.zip b).all fun p=>q p.1 p.2)
 | [],b=>by simp
 | x::a,[]=>by simp
 | x::a,y::b=>by rw [List.zip_cons_cons,List.any_cons,Ybs q a b,List.all_cons];cases q x y <;> rfl
theorem Z7e {R:Type} (a b:List Tr) (q:Tr→Tr→Bool) (step:Int→Option (Int ⊕ R)) (e o:R) (hab:a.length=b.length) (hl:(a.length:Int)≤140737488355328)
  (h1:∀ (i:Nat) (x y:Tr),i < a.length→a[i]? = some x→b[i]? = some y→x∈a→y∈b→step i=some (if (!q x y)=true then .inr e else .inl (IntKind.i64.wrap ((i:Int)+1)))) (h2:step a.length=some (.inr o)) :
  Zw step 0=some (if ((a.zip b).all fun p=>q p.1 p.2)=true then o else e):=by
 have hz:(a.zip b).length=a.length:=by rw [List.length_zip];omega
 have:=Zw9 (a.zip b) step (fun p => !q p.1 p.2) e o (by rw [hz];exact hl) (fun i p hi hp hm=>by
  rw [hz] at hi
  have ha:a[i]? = some a[i]:=List.getElem?_eq_getElem hi
  have hb:b[i]? = some b[i]:=List.getElem?_eq_getElem (by omega)
  have:p=(a[i],b[i]):=by
   rw [List.getElem?_eq_getElem (by rw [hz];exact hi)] at hp
   injection hp with hp
   rw [← hp,List.getElem_zip]
  subst this
  exact h1 i _ _ hi ha hb (List.getElem_mem _) (List.getElem_mem _)) (by rw [hz];exact h2)
 rw [this,Ybs q a b]
 cases (a.zip b).all fun p=>q p.1 p.2 <;> rfl
theorem Z15:∀ (a b:List Tr),a.length=b.length→((a.zip b).all fun p=>eqT p.1 p.2)=eqL a b
 | [],[],_=>rfl
 | [],_::_,h=>by simp at h
 | _::_,[],h=>by simp at h
 | x::a,y::b,h=>by
  have ih:=Z15 a b (by simpa using h)
  rw [List.zip_cons_cons,List.all_cons,ih];rfl
theorem Z5q:∀ (a b:List Tr),a.length≠b.length→eqL a b=false
 | [],[],h=>by simp at h
 | [],_::_,_=>rfl
 | _::_,[],_=>rfl
 | x::a,y::b,h=>by rw [Z2h,Z5q a b (by simpa using h),Bool.and_false]
theorem Z6d:∀ (k:Nat) (a b:Tr),Bd a→Bd b→SizeOf.sizeOf a < k→Kj k a b=some (eqT a b)
 | 0,a,b,_,_,h=>by omega
 | k+1,a,b,ha,hb,hk=>by
  have ih:∀ x∈a.Kids,∀ y∈b.Kids,Kj k x y=some (eqT x y):=fun x hx y hy=>Z6d k x y (ha.all x hx) (hb.all y hy) (by have:=Xt hx;omega)
  have hw:=ha.w
  have hkd:=ha.k
  show Zar (Kj k) a b=_
  unfold Zar
  rw [Z8k,Ztp (by omega),Option.bind_some,Z4q]
  by_cases h0:a.Kind=b.Kind
  ·have e0:(a.Kind != b.Kind)=false:=by simp [h0]
   have e1:(a.Kind == b.Kind)=true:=by simp [h0]
   rw [e0,e1,cond_false,cond_false,Option.bind_some,Bool.true_and]
   cases hw':a.Words == b.Words with
   | false=>rfl
   | true =>
    rw [Bool.not_true,cond_false,Bool.true_and]
    by_cases hab:a.Kids.length=b.Kids.length
    ·have:(!(a.Kids.length == b.Kids.length))=false:=by simp [hab]
     rw [this,cond_false,Z7e a.Kids b.Kids eqT (Ue (Kj k) a b) (.inl ()) (.inr ()) hab (by omega) (fun i x y hi hx hy hmx hmy=>by
      unfold Ue
      rw [Zee hi,cond_true,Y3 hx,Option.bind_some,Y3 hy,Option.bind_some,ih x hmx y hmy,Option.bind_some]
      cases eqT x y <;> rfl) (by unfold Ue;rw [Zd4];rfl)]
     rw [Z15 a.Kids b.Kids hab]
     cases eqL a.Kids b.Kids <;> rfl
    have:(!(a.Kids.length == b.Kids.length))=true:=by simp [hab]
    rw [this,cond_true,Z5q _ _ hab]
  have e0:(a.Kind != b.Kind)=true:=by simp [h0]
  have e1:(a.Kind == b.Kind)=false:=by simp [h0]
  rw [e0,e1];rfl
theorem Z6e {a b:Tr} (ha:Bd a) (hb:Bd b):K6 a b=some (eqT a b):=Zh8 (SizeOf.sizeOf a+1) fun k hk=>Z6d k a b ha hb (by omega)
theorem Zly {t:Tr} (h:t.Kind=0):nrm t=⟨0,[],[]⟩:=by rw [Zh9,if_pos h]
theorem Zb9 {t:Tr} (h:t.Kind=1):nrm t=⟨1,tr (fun x=>x == 0) t.Words,tr (fun x=>x.Kind == 0) (t.Kids.map nrm)⟩:=by rw [Zh9,if_neg (by rw [h];decide),if_pos h]
theorem Zhv {t:Tr} (h0:¬ t.Kind=0) (h1:¬ t.Kind=1):nrm t=⟨t.Kind,t.Words,t.Kids.map nrm⟩:=by rw [Zh9,if_neg h0,if_neg h1]
theorem Zxy (t:Tr):0 < SizeOf.sizeOf t:=by
 obtain ⟨k,w,ks⟩:=t
 simp only [Za.mk.sizeOf_spec]
 omega
def pt (t:Tr):Nat:=1+t.Words.length+(t.Kids.attach.map fun k=>pt k.1).sum
termination_by SizeOf.sizeOf t
decreasing_by exact Xt k.2
theorem Znu (t:Tr):pt t=1+t.Words.length+(t.Kids.map pt).sum:=by
 rw [pt]
 simp only [List.attach_map_val]
def wt (t:Tr):Nat :=
 if t.Kind=0 then 0 else if t.Kind=10 then 1
 else (if t.Kind=1 then 1+(t.Words.length+t.Kids.length) else if t.Kind=8 then 1+t.Kids.length else 1)+(t.Kids.attach.map fun k=>wt k.1).sum
termination_by SizeOf.sizeOf t
decreasing_by all_goals exact Xt k.2
theorem Z6m (t:Tr):wt t=if t.Kind=0 then 0 else if t.Kind=10 then 1 else (if t.Kind=1 then 1+(t.Words.length+t.Kids.length) else if t.Kind=8 then 1+t.Kids.length else 1)+(t.Kids.map wt).sum:=by
 rw [wt]
 simp only [List.attach_map_val]
theorem Z5a {α:Type} {f g:α→Nat}:∀ l:List α,(∀ x∈l,f x≤g x)→(l.map f).sum≤(l.map g).sum
 | [],_=>by simp
 | x::l,h=>by
  have:=Z5a l fun y hy=>h y (.tail _ hy)
  have:=h x (.head _)
  simp only [List.map_cons,List.sum_cons]
  omega
theorem Zxz {α:Type} (f:α→Nat):∀ l:List α,(l.map fun x=>f x+1).sum=(l.map f).sum+l.length
 | []=>by simp
 | x::l=>by
  have:=Zxz f l
  simp only [List.map_cons,List.sum_cons,List.length_cons,this]
  omega
theorem Z1u {α:Type} (f:α→Nat) (c:Nat):∀ l:List α,(l.map fun x=>c * f x).sum=c * (l.map f).sum
 | []=>by simp
 | x::l=>by
  have:=Z1u f c l
  simp only [List.map_cons,List.sum_cons,this,Nat.mul_add]
section
variable {A:Zl}
theorem Z4k {f:Zc→Int→Tr×Int×Int} {g:Int→Zc×Int} {Q:Tr→Prop} (hQ:∀ i left,Q (f (g i).1 left).1):∀ (m i:Nat) (left:Int) (acc:List Tr),(∀ t∈acc,Q t)→(∀ t∈(Z6 f g m i left acc).1,Q t)∧(Z6 f g m i left acc).1.length≤acc.length+m
 | 0,i,left,acc,h=>⟨h,Nat.le_refl _⟩
 | m+1,i,left,acc,h=>by
  rw [Z6]
  split
  ·exact ⟨h,by simp only;omega⟩
  split
  ·exact ⟨h,by simp only;omega⟩
  obtain ⟨h1,h2⟩:=Z4k hQ m (i+1) (f (g i).1 left).2.1 (acc++[(f (g i).1 left).1]) fun t ht=>by
   rcases List.mem_append.1 ht with ht | ht
   ·exact h t ht
   rw [List.mem_singleton] at ht;subst ht;exact hQ i left
  exact ⟨h1,by rw [List.length_append,List.length_singleton] at h2;omega⟩
theorem Ya9 {w c j:Int} (hw:0≤w∧w < 18446744073709551616):0≤Z09 w c j∧Z09 w c j < 18446744073709551616:=by
 unfold Z09
 have h1:w.toNat / 2 ^ (j * wdt c).toNat % 2 ^ (wdt c).toNat≤w.toNat / 2 ^ (j * wdt c).toNat:=Nat.mod_le _ _
 have h2:w.toNat / 2 ^ (j * wdt c).toNat≤w.toNat:=Nat.div_le_self _ _
 omega
theorem Zm2 (hw:WS A.segments) (r:Zc):∀ w∈Xf A r,0≤w∧w < 18446744073709551616:=by
 unfold Xf
 split
 ·intro w hm
  rw [List.mem_singleton] at hm
  subst hm
  unfold Zyd
  split
  ·omega
  exact Ya9 (Znz hw _ _)
 split
 ·exact fun w hm=>Z91 hw _ w (List.mem_of_mem_drop (List.mem_of_mem_take hm))
 exact fun w hm=>by cases hm
theorem Zrm {r:Zc} (h:OKr A r):(Xf A r).length≤65536:=by
 unfold Xf
 cases h with
 | z=>simp [r0]
 | st s a d p hd hp hin=>simp only [show ¬ (1:Int)=10 from by decide,if_false,if_true,List.length_take];omega
 | li k s a n hk hn hin=>simp only;rw [if_neg (by omega),if_neg (by omega)];simp
 | co=>simp
 | at_=>simp
theorem Z5z (hw:WS A.segments):∀ (d:Nat) r left,OKr A r→0≤left→left≤65536→Bd (K8 A d r left).1:=fun d=>by
 have key:∀ (f:Zc→Int→Tr×Int×Int),True:=fun _=>trivial
 clear key
 have hst:∀ (f:Zc→Int→Tr×Int×Int),(∀ r left,OKr A r→Bd (f r left).1)→∀ r left,OKr A r→r.ptrs≤65536→Bd (stK A f r left).1:=fun f hf r left hr hp=>by
  unfold stK
  have:=Z4k (f:=f) (g:=Z9 A r) (Q:=Bd) (fun i left=>hf _ left (Jq hr i)) r.ptrs.toNat 0 left [] (by simp)
  refine .mk _ (by simp only;have:=Zrm hr;omega) (by simp only;have:=this.2;simp only [List.length_nil] at this;omega) (Zm2 hw r) this.1
 have main:∀ r left,OKr A r→Bd (K8 A d r left).1:=by
  induction d using Nat.strongRecOn with
  | ind d ih =>
   intro r left hr
   have hbad:∀ r left,Bd (bad r left).1:=fun r left => .mk _ (by simp [bad]) (by simp [bad]) (by simp [bad]) (by simp [bad])
   have hP:∀ k,1≤k→∀ r left,OKr A r→Bd (Yn A k d r left).1:=fun k hk r left hr=>by
    unfold Yn
    split
    ·exact ih _ (by omega) r left hr
    exact hbad _ _
   rw [Zfy]
   unfold Zeh
   have hwl:=Zrm hr
   split
   ·exact .mk _ (by simp only;omega) (by simp) (Zm2 hw r) (by simp)
   split
   ·exact .mk _ (by simp only;omega) (by simp) (Zm2 hw r) (by simp)
   have hkn:=Zfr hr
   have hQ:∀ (i:Int) left,Bd (J8 A (Yn A 1 d) (Yn A 2 d) r (Z9 A r i).1 left).1:=fun i left=>by
    unfold J8
    split
    ·rename_i k9
     have hkr:=Jq hr i
     refine hst _ (fun r left hr=>hP 2 (by omega) r left hr) _ _ hkr ?_
     cases hkr':(Z9 A r i).1 with
     | mk a b c d e f g h j =>
      rw [hkr'] at hkr
      cases hkr with
      | z=>simp
      | st s a d p hd hp hin=>simp only;omega
      | li k s a n hk=>simp
      | co s a d p n hd hp hn=>simp only;omega
      | at_=>simp
    split
    ·exact hP 1 (by omega) _ _ (Jq hr i)
    unfold Zhk
    have:=Zrm (Jq hr i)
    exact .mk _ (by simp only;omega) (by simp) (Zm2 hw _) (by simp)
   have:=Z4k (f:=J8 A (Yn A 1 d) (Yn A 2 d) r) (g:=Z9 A r) (Q:=Bd) hQ (Zy r).toNat 0 (left - wtR r) [] (by simp)
   refine .mk _ (by simp only;omega) ?_ (Zm2 hw r) this.1
   have h2:=this.2
   simp only [List.length_nil] at h2 ⊢
   omega
 exact fun r left hr _ _=>main r left hr
end
def uwR (r:Zc):Int:=if r.kind=0 then 0 else if r.kind=1 then 1+r.words+r.ptrs else if r.kind=8 then 1+r.count else 1
section
variable {A:Zl}
theorem Z5e {r:Zc} (h:OKr A r):Zck r=some (uwR r):=by
 have hk:Yy r=some r.kind:=rfl
 unfold Zck uwR
 rw [hk,Zqc,Zj5,Option.bind_some]
 cases h with
 | z=>rfl
 | st s a d p hd hp hin =>
  simp only [Za9,Zy,if_true,show ((1:Int) == 0)=false from rfl,show ((1:Int) == 1)=true from rfl,cond_false,cond_true,Option.bind_some,show ¬ (1:Int)=0 from by decide,if_false]
  rw [Yg (x:=1+d) (by omega) (by omega),Yg (by omega) (by omega)]
 | li k s a n hk' hn hin =>
  simp only [Zy]
  rw [show (k == 0)=false from X2 (by omega),show (k == 1)=false from X2 (by omega),if_neg (show ¬ k=1 by omega),if_neg (show ¬ k=0 by omega),if_neg (show ¬ k=1 by omega),cond_false,cond_false]
  by_cases k8:k=8
  ·rw [if_pos k8,show (k == 8)=true from by rw [k8];rfl,cond_true,Option.bind_some,Yg (by omega) (by omega)]
  rw [if_neg k8,show (k == 8)=false from X2 k8,cond_false]
 | co s a d p n hd hp hn hwx hin=>rfl
 | at_ s a c i n hc h0 h1 hn hin=>rfl
theorem Z9d (r:Zc):Zdm r=some (decide (1≤r.kind∧r.kind≤9)):=by
 have hk:Yy r=some r.kind:=rfl
 unfold Zdm Zdk
 rw [hk,Option.bind_some]
 by_cases k1:r.kind=1
 ·rw [show (r.kind == 1)=true from by rw [k1];rfl,cond_true,Option.bind_some,decide_eq_true (show 1≤r.kind∧r.kind≤9 by omega)]
 rw [show (r.kind == 1)=false from X2 k1,cond_false]
 simp only [Option.bind_some,cond_false]
 congr 1
 by_cases h2:2≤r.kind
 ·rw [decide_eq_true h2,cond_true,decide_eq_decide];omega
 rw [decide_eq_false h2,cond_false,decide_eq_false (show ¬ (1≤r.kind∧r.kind≤9) by omega)]
theorem Z71 (hw:WS A.segments) {r:Zc} (h:OKr A r):Zw (Xi r (Za9 r)) (0,([]:List Int))=some (Xf A r):=by
 have hl:=Zx6 hw h
 have hle:=Zrm h
 have key:∀ (k i:Nat),i+k=(Xf A r).length→Zw (Xi r (Za9 r)) ((i:Int),(Xf A r).take i)=some (Xf A r):=fun k=>by
  induction k with
  | zero =>
   intro i hi
   refine Y7 ?_
   unfold Xi
   simp only
   rw [show decide ((i:Int) < Za9 r)=false from by rw [decide_eq_false_iff_not];omega,cond_false,List.take_of_length_le (by omega)]
  | succ k ih =>
   intro i hi
   have h1:i < (Xf A r).length:=by omega
   have hs:Xi r (Za9 r) ((i:Int),(Xf A r).take i)=some (.inl (((i+1:Nat):Int),(Xf A r).take (i+1))):=by
    unfold Xi
    simp only
    rw [show decide ((i:Int) < Za9 r)=true from by rw [decide_eq_true_eq];omega,cond_true,Ybq hw h,Option.bind_some,Zba (by simp only [List.length_singleton,List.length_take];omega) (by simp only [List.length_singleton,List.length_take];omega),Option.bind_some,Yg (by omega) (by omega),← Z73 hw h h1,List.take_add_one,List.getElem?_eq_getElem h1]
    rfl
   rw [X4 hs]
   exact ih (i+1) (by omega)
 have:=key (Xf A r).length 0 (by omega)
 rw [List.take_zero,show (((0:Nat):Int))=0 from rfl] at this
 exact this
theorem Z3v (hw:WS A.segments) {f1:Zu→Zc→Int→Option (Tr×Int×Zu)} {f:Zc→Int→Tr×Int×Int} (hf:Lf A f) {r:Zc} (hr:OKr A r) (n:Nat) (hn:Zy r=(n:Int)) (hn2:n≤1073741824) {X D:Int} (hX:0≤X) (hD:1≤D∧D≤1000)
  (hF:∀ (i:Nat) (l L:Int),i < n→(Z9 A r i).2=0→0≤l∧l≤65536→(f (Z9 A r i).1 l).2.2=0→l - (f (Z9 A r i).1 l).2.1+X≤L→L≤65536→f1 ⟨L⟩ (Z9 A r i).1 (D - 1)=some ((f (Z9 A r i).1 l).1,0,⟨L - (l - (f (Z9 A r i).1 l).2.1+X)⟩)):∀ (m i:Nat) (left L:Int) (acc:List Tr),i+m=n→acc.length=i→0≤left∧left≤65536→(Z6 f (Z9 A r) m i left acc).2.2=0→left - (Z6 f (Z9 A r) m i left acc).2.1+(m:Int) * X≤L→L≤65536 →
  Zw (Xb f1 r D (Zy r)) ((i:Int),acc,L)=some (.inr ((Z6 f (Z9 A r) m i left acc).1,L - (left - (Z6 f (Z9 A r) m i left acc).2.1+(m:Int) * X)))
 | 0,i,left,L,acc,hi,ha,hl,hq,hL,hL2=>by
  refine Y7 ?_
  unfold Xb
  simp only
  rw [show decide ((i:Int) < Zy r)=false from by rw [decide_eq_false_iff_not];omega,cond_false]
  simp only [Z6]
  congr 4
  simp
 | m+1,i,left,L,acc,hi,ha,hl,hq,hL,hL2=>by
  rw [Z6] at hq hL ⊢
  by_cases h1:(Z9 A r i).2≠0
  ·rw [if_pos h1] at hq;exact absurd hq h1
  rw [if_neg h1] at hq hL ⊢
  by_cases h2:(f (Z9 A r i).1 left).2.2≠0
  ·rw [if_pos h2] at hq;exact absurd hq h2
  rw [if_neg h2] at hq hL ⊢
  have h1':(Z9 A r i).2=0:=by omega
  have h2':(f (Z9 A r i).1 left).2.2=0:=by omega
  obtain ⟨b1,b2⟩:=hf _ _ (Jq hr i) hl.1 h2'
  obtain ⟨c1,c2⟩:=Zs1 hf (fun i=>Jq hr i) m (i+1) (f (Z9 A r i).1 left).2.1 (acc++[(f (Z9 A r i).1 left).1]) b1 hq
  have hmX:(((m+1:Nat):Int)) * X=(m:Int) * X+X:=by rw [show (((m+1:Nat):Int))=(m:Int)+1 by omega,Int.add_mul,Int.one_mul]
  have hmn:0≤(m:Int) * X:=Int.mul_nonneg (by omega) hX
  rw [hmX] at hL ⊢
  have hk:=hF i left L (by omega) h1' hl h2' (by omega) hL2
  have hs:Xb f1 r D (Zy r) ((i:Int),acc,L)=some (.inl (((i+1:Nat):Int),acc++[(f (Z9 A r i).1 left).1],L - (left - (f (Z9 A r i).1 left).2.1+X))):=by
   unfold Xb
   simp only
   rw [show decide ((i:Int) < Zy r)=true from by rw [decide_eq_true_eq];omega,cond_true,Z8u hw hr,Option.bind_some,bne_eq_false_iff_eq.2 h1',cond_false,Yg (x:=D - 1) (by omega) (by omega),hk,Option.bind_some]
   simp only
   rw [show ((0:Int) != 0)=false from rfl,cond_false,Zba (by simp only [List.length_singleton];omega) (by simp only [List.length_singleton];omega),Option.bind_some,Yg (by omega) (by omega)]
   rfl
  rw [X4 hs,Z3v hw hf hr n hn hn2 hX hD hF m (i+1) _ _ _ (by omega) (by rw [List.length_append,ha];rfl) ⟨b1,by omega⟩ hq (by omega) (by omega)]
  refine congrArg some (congrArg Sum.inr (Prod.ext rfl ?_))
  simp only
  omega
theorem Zwi (hw:WS A.segments) {f1:Zu→Zc→Int→Option (Tr×Int×Zu)} {f:Zc→Int→Tr×Int×Int} (hf:Lf A f) {r:Zc} (hr:OKr A r) {X D left L:Int} (hX:0≤X) (hD:0≤D∧D≤1000) (hD1:1≤r.kind∧r.kind≤9→1≤D) (hl:0≤left∧left≤65536)
  (hq:(Z6 f (Z9 A r) (Zy r).toNat 0 left []).2.2=0) (hL:uwR r+(left - (Z6 f (Z9 A r) (Zy r).toNat 0 left []).2.1+Zy r * X)≤L) (hL2:L≤65536)
  (hF:1≤D→∀ (i:Nat) (l L:Int),i < (Zy r).toNat→(Z9 A r i).2=0→0≤l∧l≤65536→(f (Z9 A r i).1 l).2.2=0→l - (f (Z9 A r i).1 l).2.1+X≤L→L≤65536→f1 ⟨L⟩ (Z9 A r i).1 (D - 1)=some ((f (Z9 A r i).1 l).1,0,⟨L - (l - (f (Z9 A r i).1 l).2.1+X)⟩)) :
  Xn f1 ⟨L⟩ r D=some (⟨r.kind,Xf A r,(Z6 f (Z9 A r) (Zy r).toNat 0 left []).1⟩,0,⟨L - (uwR r+(left - (Z6 f (Z9 A r) (Zy r).toNat 0 left []).2.1+Zy r * X))⟩):=by
 have hkk:Yy r=some r.kind:=rfl
 have hkn:=Zfr hr
 have hg:=Zs1 hf (fun i=>Jq hr i) (Zy r).toNat 0 left [] hl.1 hq
 have hmn:0≤Zy r * X:=Int.mul_nonneg hkn.1 hX
 have hu:0≤uwR r:=by
  cases hr with
  | z=>simp [uwR,r0]
  | st s a d p hd hp hin=>simp [uwR];omega
  | li k s a n hk hn hin=>simp only [uwR];rw [if_neg (by omega),if_neg (by omega)];split <;> omega
  | co=>simp [uwR]
  | at_=>simp [uwR]
 unfold Xn
 rw [Z5e hr,Option.bind_some,Z9d,Yg (x:=L - uwR r) (by omega) (by omega)]
 have e1:(cond (decide (L - uwR r < 0)) (some true) (cond (D == 0) ((some (decide (1≤r.kind∧r.kind≤9))).bind fun y6=>some (cond (decide (L - uwR r < 0)) true (cond (D == 0) y6 false))) (some (cond (decide (L - uwR r < 0)) true false))))=some false:=by
  rw [decide_eq_false (show ¬ L - uwR r < 0 by omega),cond_false]
  by_cases d0:D=0
  ·rw [show (D == 0)=true from by rw [d0];rfl,cond_true,Option.bind_some,cond_true,decide_eq_false (show ¬ (1≤r.kind∧r.kind≤9) from fun q=>by have:=hD1 q;omega)]
   rfl
  rw [show (D == 0)=false from X2 d0];rfl
 rw [e1,Option.bind_some,cond_false,hkk,Option.bind_some,Zqc,Option.bind_some,Z71 hw hr,Option.bind_some,Zj5,Option.bind_some]
 by_cases hk0:Zy r=0
 ·-- no kids
  have e2:Zw (Xb f1 r D (Zy r)) (0,([]:List Tr),L - uwR r)=some (.inr ([],L - uwR r)):=by
   refine Y7 ?_
   unfold Xb
   simp only
   rw [hk0]
   rfl
  rw [e2,Option.bind_some,hk0]
  simp only [show ((0:Int).toNat)=0 from rfl,Z6]
  congr 4
  omega
 have hD':1≤D:=hD1 (by
  cases hr with
  | z=>simp [Zy,r0] at hk0
  | st=>simp
  | li k s a n hk=>simp only;omega
  | co=>simp
  | at_=>simp [Zy] at hk0)
 have hL1:=Z3v hw hf hr (Zy r).toNat (by omega) (by omega) hX ⟨hD',hD.2⟩ (hF hD') (Zy r).toNat 0 left (L - uwR r) [] (by omega) rfl hl hq (by rw [show (((Zy r).toNat:Nat):Int)=Zy r by omega];omega) (by omega)
 rw [show (((0:Nat):Int))=0 from rfl,show (((Zy r).toNat:Nat):Int)=Zy r by omega] at hL1
 rw [hL1,Option.bind_some]
 simp only
 congr 4
 omega
theorem Ydp {r:Zc} (h:OKr A r):wtR r=uwR r+Zy r * (if r.kind=9 then 1+r.words+r.ptrs else if r.kind=1∨r.kind=8 then 0 else if r.kind=0 then 0 else 1):=by
 cases h with
 | z=>simp [wtR,uwR,Zy,r0]
 | st s a d p hd hp hin=>simp [wtR,uwR]
 | co s a d p n hd hp hn hwx hin=>simp [wtR,uwR,Zy]
 | at_=>simp [wtR,uwR,Zy]
 | li k s a n hk hn hin =>
  have:k=2∨k=3∨k=4∨k=5∨k=6∨k=7∨k=8:=by omega
  rcases this with rfl | rfl | rfl | rfl | rfl | rfl | rfl <;> simp [wtR,uwR,Zy]
theorem Z2u {r:Zc} (hk:r.kind=9) {i:Int} (h:0≤i∧i < Zy r):(Z9 A r i).1.words=r.words∧(Z9 A r i).1.ptrs=r.ptrs:=by
 unfold Z9
 rw [if_neg (by omega),if_neg (by omega),if_neg (by omega),if_pos hk]
 exact ⟨rfl,rfl⟩
theorem Zt5 {r:Zc} (hk:2≤r.kind∧r.kind≤7) {i:Int} (h:0≤i∧i < Zy r):(Z9 A r i).1.kind=10∧Zy (Z9 A r i).1=0:=by
 unfold Z9
 rw [if_neg (by omega),if_neg (by omega),if_neg (by omega),if_neg (by omega)]
 exact ⟨rfl,rfl⟩
theorem Z99 (hw:WS A.segments):∀ (K:Nat),(∀ (d:Nat) r (left L D:Int),OKr A r→0≤left∧left≤65536→(K8 A d r left).2.2=0→left - (K8 A d r left).2.1≤L→L≤65536→(d:Int)≤D→D≤1000→d+2≤K→r.kind≠10→Yp K ⟨L⟩ r D=some ((K8 A d r left).1,0,⟨L - (left - (K8 A d r left).2.1)⟩)) ∧
  (∀ (d:Nat) r (left L D:Int),OKr A r→r.kind=1→0≤left∧left≤65536→(stK A (K8 A d) r left).2.2=0→left - (stK A (K8 A d) r left).2.1+(1+r.words+r.ptrs)≤L→L≤65536→(d:Int)+1≤D→D≤1000→d+3≤K→Yp K ⟨L⟩ r D=some ((stK A (K8 A d) r left).1,0,⟨L - (left - (stK A (K8 A d) r left).2.1+(1+r.words+r.ptrs))⟩)) ∧
  (∀ r (left L D:Int),OKr A r→r.kind=10→Zy r=0→1≤L→L≤65536→0≤D→D≤1000→1≤K→Yp K ⟨L⟩ r D=some ((Zhk A r left).1,0,⟨L - 1⟩))
 | 0=>⟨fun d r left L D _ _ _ _ _ _ _ h=>by omega,fun d r left L D _ _ _ _ _ _ _ _ h=>by omega,fun r left L D _ _ _ _ _ _ _ h=>by omega⟩
 | K+1=>by
  obtain ⟨i1,i2,i3⟩:=Z99 hw K
  refine ⟨fun d r left L D hr hl hq hL hL2 hdD hD hK h10 => ?_,fun d r left L D hr k1 hl hq hL hL2 hdD hD hK => ?_,fun r left L D hr k10 hk0 hL hL2 hD0 hD hK => ?_⟩
  ·show Xn (Yp K) ⟨L⟩ r D=_
   have hwt:=Z30 hw hr
   have hkd:=Z2v hr
   have hkn:=Zfr hr
   have hwu:=Ydp hr
   rw [Zfy] at hq hL ⊢
   unfold Zeh at hq hL ⊢
   by_cases k0:r.kind=0
   ·rw [if_pos k0] at hq hL ⊢
    have hz:Zy r=0:=by
     cases hr with
     | z=>rfl
     | st=>simp at k0
     | li k s a n hk=>simp only at k0;omega
     | co=>simp at k0
     | at_=>simp at k0
    have huz:uwR r=0:=by unfold uwR;rw [if_pos k0]
    have:=Zwi hw (f1:=Yp K) (f:=bad) Zt6 hr (X:=0) (D:=D) (left:=left) (L:=L) (by omega) ⟨by omega,hD⟩ (fun q=>by omega) hl (by rw [hz];rfl) (by rw [hz,huz];simp only [show ((0:Int).toNat)=0 from rfl,Z6];simp only at hL;omega) hL2 (fun _ i l L hi=>by rw [hz] at hi;simp at hi)
    rw [this,hz,huz]
    simp only [show ((0:Int).toNat)=0 from rfl,Z6]
    congr 4
    omega
   rw [if_neg k0] at hq hL ⊢
   by_cases hb:(d:Int) < lvR r∨left < wtR r
   ·rw [if_pos hb] at hq;simp at hq
   rw [if_neg hb] at hq hL ⊢
   simp only at hq hL ⊢
   have hlv:1≤(d:Int):=by
    have:1≤lvR r:=by unfold lvR;rw [if_neg k0];split <;> omega
    omega
   have hlf:Lf A (J8 A (Yn A 1 d) (Yn A 2 d) r):=Z04 (Zs3 hw 1 d) (Zs3 hw 2 d) r
   obtain ⟨X,hXe⟩:∃ X,(if r.kind=9 then 1+r.words+r.ptrs else if r.kind=1∨r.kind=8 then 0 else if r.kind=0 then 0 else 1)=X:=⟨_,rfl⟩
   rw [hXe] at hwu
   have hX0:0≤X:=by
    rw [← hXe]
    cases hr with
    | z=>simp [r0]
    | st=>simp
    | li k s a n hk =>
     simp only
     repeat' split
     all_goals omega
    | co s a d p n hd hp=>simp;omega
    | at_=>simp
   have hkey:=Zwi hw (f1:=Yp K) hlf hr hX0 (D:=D) (left:=left - wtR r) (L:=L) ⟨by omega,hD⟩ (fun _=>by omega) ⟨by omega,by omega⟩ hq (by omega) hL2 (fun hD1 i l L hi he hl hq2 hL hL2=>by
    by_cases k9:r.kind=9
    ·have hkf:J8 A (Yn A 1 d) (Yn A 2 d) r=stK A (Yn A 2 d):=by unfold J8;rw [if_pos k9]
     have hkc:Zy r=r.count:=by unfold Zy;rw [if_neg (by omega)]
     have hd2:2≤d:=by
      have:lvR r=2:=by unfold lvR;rw [if_neg k0,if_pos ⟨k9,by omega⟩]
      omega
     have hm2:Yn A 2 d=K8 A (d - 2):=by unfold Yn;rw [if_pos hd2]
     rw [hkf,hm2] at hq2 hL ⊢
     obtain ⟨w1,w2⟩:=Z2u (A:=A) k9 (i:=(i:Int)) ⟨by omega,by omega⟩
     have hX:X=1+(Z9 A r i).1.words+(Z9 A r i).1.ptrs:=by rw [← hXe,if_pos k9,w1,w2]
     rw [hX] at hL ⊢
     exact i2 (d - 2) _ l L (D - 1) (Jq hr i) (Zko k9 ⟨by omega,by omega⟩) hl hq2 hL hL2 (by omega) (by omega) (by omega)
    by_cases k18:r.kind=1∨r.kind=8
    ·have hkf:J8 A (Yn A 1 d) (Yn A 2 d) r=Yn A 1 d:=by unfold J8;rw [if_neg k9,if_pos k18]
     have hm1:Yn A 1 d=K8 A (d - 1):=by unfold Yn;rw [if_pos (by omega)]
     have hX:X=0:=by rw [← hXe,if_neg k9,if_pos k18]
     rw [hkf,hm1,hX,Int.add_zero] at hL ⊢
     rw [hkf,hm1] at hq2
     have hk10:(Z9 A r i).1.kind≠10:=by
      unfold Z9
      rw [if_neg (by omega)]
      have hat:∀ s a,(atR A s a).1.kind≠10:=fun s a=>by
       unfold atR
       rcases Zjl A.segments s a with h | ⟨h1,hp,hk,hi⟩
       ·rw [if_pos h];simp [r0]
       rw [if_neg (by omega)]
       have hc:=hp.c
       split
       ·simp
       split
       ·simp only;split <;> simp [r0]
       simp only;omega
      rcases k18 with k | k
      ·rw [if_pos k];exact hat _ _
      rw [if_neg (by omega),if_pos k];exact hat _ _
     exact i1 (d - 1) _ l L (D - 1) (Jq hr i) hl hq2 hL hL2 (by omega) (by omega) (by omega) hk10
    have hkf:J8 A (Yn A 1 d) (Yn A 2 d) r=Zhk A:=by unfold J8;rw [if_neg k9,if_neg k18]
    have hX:X=1:=by rw [← hXe,if_neg k9,if_neg k18,if_neg k0]
    rw [hkf,hX] at hL ⊢
    obtain ⟨a1,a2⟩:=Zt5 (A:=A) (r:=r) (i:=(i:Int)) (by omega) ⟨by omega,by omega⟩
    have hz:l - (Zhk A (Z9 A r i).1 l).2.1+1=1:=by simp only [Zhk];omega
    rw [hz] at hL ⊢
    exact i3 _ l L (D - 1) (Jq hr i) a1 a2 hL hL2 (by omega) (by omega) (by omega))
   rw [hkey]
   congr 4
   omega
  ·show Xn (Yp K) ⟨L⟩ r D=_
   have hkn:Zy r=r.ptrs:=by unfold Zy;rw [if_pos k1]
   have hu:uwR r=1+r.words+r.ptrs:=by unfold uwR;rw [if_neg (by omega),if_pos k1]
   unfold stK at hq hL ⊢
   simp only at hq hL ⊢
   rw [← hkn] at hq hL ⊢
   have hkey:=Zwi hw (f1:=Yp K) (Zkp hw d) hr (X:=0) (D:=D) (left:=left) (L:=L) (by omega) ⟨by omega,hD⟩ (fun _=>by omega) hl hq (by rw [hu];omega) hL2 (fun hD1 i l L hi he hl hq2 hL hL2=>by
    rw [Int.add_zero] at hL ⊢
    have hk10:(Z9 A r i).1.kind≠10:=by
     unfold Z9
     rw [if_neg (by omega),if_pos k1]
     unfold atR
     rcases Zjl A.segments r.segment (r.at_+r.words+i) with h | ⟨h1,hp,hk,hi⟩
     ·rw [if_pos h];simp [r0]
     rw [if_neg (by omega)]
     have hc:=hp.c
     split
     ·simp
     split
     ·simp only;split <;> simp [r0]
     simp only;omega
    exact i1 d _ l L (D - 1) (Jq hr i) hl hq2 hL hL2 (by omega) (by omega) (by omega) hk10)
   rw [hkey,hu,k1]
   congr 4
   omega
  show Xn (Yp K) ⟨L⟩ r D=_
  have hu:uwR r=1:=by unfold uwR;rw [if_neg (by omega),if_neg (by omega),if_neg (by omega)]
  have hkey:=Zwi hw (f1:=Yp K) (f:=bad) Zt6 hr (X:=0) (D:=D) (left:=0) (L:=L) (by omega) ⟨hD0,hD⟩ (fun q=>by omega) (by omega) (by rw [hk0];rfl) (by rw [hk0,hu];simp only [show ((0:Int).toNat)=0 from rfl,Z6];omega) hL2 (fun _ i l L hi=>by rw [hk0] at hi;simp at hi)
  rw [hkey,hk0,hu]
  simp only [show ((0:Int).toNat)=0 from rfl,Z6,Zhk]
  congr 4
end
section
variable {A:Zl}
theorem Z8c (s a:Int):(atR A s a).1.kind≠10:=by
 unfold atR
 rcases Zjl A.segments s a with h | ⟨h1,hp,hk,hi⟩
 ·rw [if_pos h];simp [r0]
 rw [if_neg (by omega)]
 have hc:=hp.c
 split
 ·simp
 split
 ·simp only;split <;> simp [r0]
 simp only;omega
theorem Yaa (hw:WS A.segments) {d:Nat} (hd:d≤64) {r:Zc} (hr:OKr A r) (h10:r.kind≠10) {left:Int} (hl:0≤left∧left≤65536) (hq:(K8 A d r left).2.2=0):Zdl r=some ((K8 A d r left).1,0):=by
 have hb:=Zkp hw d r left hr hl.1 hq
 have h:Zbr ⟨65536⟩ r 64=some ((K8 A d r left).1,0,⟨65536 - (left - (K8 A d r left).2.1)⟩) :=
  Zh8 (d+2) fun k hk=>(Z99 hw k).1 d r left 65536 64 hr hl hq (by omega) (by omega) (by omega) (by omega) hk h10
 unfold Zdl
 rw [h,Option.bind_some]
theorem Z1x (x:Z0):((Zki A x).2.2≠0∧(Zki A x).1=⟨0,[],[]⟩∧(Z4c A x).2=(Zki A x).2.2)∨((Zki A x).2.2=0∧(Z4c A x).2=0∧(atR A 0 0).2=0∧(K8 A (V3 x).Depth.toNat (atR A 0 0).1 (V3 x).Weight).2.2=0∧(Zki A x).1=(K8 A (V3 x).Depth.toNat (atR A 0 0).1 (V3 x).Weight).1):=by
 have hc:(Z4c A x).2=(Zki A x).2.2:=by rw [← Ybn]
 unfold Zki at hc ⊢
 by_cases h:(atR A 0 0).2≠0
 ·rw [if_pos h] at hc ⊢
  exact .inl ⟨h,rfl,hc⟩
 rw [if_neg h] at hc ⊢
 simp only at hc ⊢
 by_cases hq:(K8 A (V3 x).Depth.toNat (atR A 0 0).1 (V3 x).Weight).2.2≠0
 ·rw [if_pos hq] at hc ⊢
  exact .inl ⟨hq,rfl,hc⟩
 rw [if_neg hq] at hc ⊢
 exact .inr ⟨rfl,hc,by omega,by omega,rfl⟩
theorem Z4s (x:Z0):(V3 x).Depth.toNat≤64∧0≤(V3 x).Weight∧(V3 x).Weight≤65536:=by
 have hd:0≤(V3 x).Depth∧(V3 x).Depth≤64:=Zlg _ _ (by decide)
 have hW:0≤(V3 x).Weight∧(V3 x).Weight≤65536:=Zlg _ _ (by decide)
 omega
theorem Z4t (hw:WS A.segments) (x:Z0):Zbq (some A) x=some (nrm (Zki A x).1,(Zki A x).2.2):=by
 have hl:=Z4s x
 unfold Zbq
 rw [Z8g hw,Option.bind_some]
 rcases Z1x (A:=A) x with ⟨h1,h2,h3⟩ | ⟨h1,h2,h3,h4,h5⟩
 ·rw [h3,bne_iff_ne.2 h1,cond_true,h2,Zly rfl]
 rw [h2,h1,h5,show ((0:Int) != 0)=false from rfl,cond_false,Z6a hw,Option.bind_some,h3,show ((0:Int) != 0)=false from rfl,cond_false,Yaa hw hl.1 (Zjh 0 0) (Z8c 0 0) ⟨hl.2.1,hl.2.2⟩ h4,Option.bind_some,Z08 (Z5z hw _ _ _ (Zjh 0 0) hl.2.1 hl.2.2),Option.bind_some]
theorem Ybm (hw:WS A.segments) (x:Z0):Bd (Zki A x).1:=by
 have hl:=Z4s x
 rcases Z1x (A:=A) x with ⟨h1,h2,h3⟩ | ⟨h1,h2,h3,h4,h5⟩
 ·rw [h2];exact .mk _ (by simp) (by simp) (by simp) (by simp)
 rw [h5];exact Z5z hw _ _ _ (Zjh 0 0) hl.2.1 hl.2.2
end
end Go.Proofs.YtpfbdlcnfekdkaaGreat
