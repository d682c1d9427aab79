/- Plain facts on this seat's mirrors (part WP1); each theorem bears its own conditions. -/
import Derived.Test.YtnapihlnlajlpaaWD
import Derived.Test.YtnapihlnlajlpaaWE
import Derived.IntWalk
namespace Go.Proofs.Ytnapihlnlajlpaa
open Go.RowKit
set_option linter.unusedVariables false
set_option linter.unusedSimpArgs false
theorem Xk {a b:Int} (h:¬ a=b):(a == b)=false:=by simp [h]
def Zqr (w:Nat):Int:=if w / 4 % 1073741824 < 536870912 then ((w / 4 % 1073741824:Nat):Int) else ((w / 4 % 1073741824:Nat):Int) - 1073741824
def Zhq (w:Nat):Zs :=
 if w=0 then ⟨0,0,0,0,0,0,0,false⟩
 else if w % 4=0 then ⟨1,Zqr w,(w / 4294967296 % 65536:Nat),(w / 281474976710656 % 65536:Nat),0,0,0,false⟩
 else if w % 4=1 then ⟨2,Zqr w,0,0,(w / 4294967296 % 8:Nat),(w / 34359738368 % 536870912:Nat),0,false⟩
 else if w % 4=2 then ⟨3,(w / 8 % 536870912:Nat),0,0,0,0,(w / 4294967296 % 4294967296:Nat),decide (w / 4 % 2=1)⟩
 else ⟨4,0,0,0,0,0,0,false⟩
theorem Z0o (b:Nat):((2:Int) ^ b)=((2 ^ b:Nat):Int):=by simp
theorem Zob (w f b:Nat) (hw:w < 18446744073709551616) (hf:f < 64) (hb:b≤40):Ql w f b=some ((w / 2 ^ f % 2 ^ b:Nat):Int):=by
 unfold Ql Xe
 rw [if_pos (Int.natCast_nonneg _),if_pos (Int.natCast_nonneg _)]
 simp only [Option.bind_some,Option.some.injEq]
 have hp:(2:Nat) ^ b≤1099511627776:=by have:=Nat.pow_le_pow_right (n:=2) (by decide) hb;simpa using this
 have h1:0 < (2:Nat) ^ b:=Nat.pow_pos (by decide)
 have e1:(min ((f:Int).toNat) 64)=f:=by omega
 have e2:(min ((b:Int).toNat) 64)=b:=by omega
 have hd:w / 2 ^ f < 18446744073709551616:=Nat.lt_of_le_of_lt (Nat.div_le_self _ _) hw
 have e3:((w:Int).fdiv ((2 ^ f:Nat):Int))=((w / 2 ^ f:Nat):Int):=by
  rw [Int.fdiv_eq_ediv_of_nonneg _ (Int.natCast_nonneg _),Int.natCast_ediv]
 rw [e1,e2,Z0o,Z0o,e3]
 clear e3
 generalize hq:2 ^ b=q at *
 generalize w / 2 ^ f=x at *
 rw [Int.one_mul,IntWalk.u64_in (q:Int) (by omega),IntWalk.u64_in ((q:Int) - 1) (by omega)]
 have e4:((q:Int) - 1)=((q - 1:Nat):Int):=by omega
 rw [e4,Z3k _ _ hd (by omega),← hq,Nat.and_two_pow_sub_one_eq_mod,hq]
 have:x % q < q:=Nat.mod_lt _ h1
 rw [IntWalk.u64_in _ (by omega),IntWalk.i64_in _ (by omega)]
theorem Ybw (w:Nat) (hw:w < 18446744073709551616):IntKind.i64.wrap ((IntKind.i32.wrap (IntKind.u32.wrap (w:Int))).fdiv (2 ^ min (Int.toNat 2) 32))=Zqr w:=by
 have e:(2:Int) ^ min (Int.toNat 2) 32=4:=by decide
 rw [e,Int.fdiv_eq_ediv_of_nonneg _ (by decide),IntKind.wrap_u32,IntKind.wrap_i32]
 unfold Zqr
 rw [IntWalk.i64_in _ (by omega)]
 split <;> omega
theorem Z8b (w:Nat) (hw:w < 18446744073709551616):Ze7 w=some (Zqr w):=congrArg some (Ybw w hw)
theorem Yda (w:Nat) (hw:w < 18446744073709551616):IntKind.u64.wrap (Zc1 .u64 w 3)=((w % 4:Nat):Int):=by
 have:=Z3k w 3 hw (by decide)
 rw [show ((3:Nat):Int)=3 from rfl] at this
 rw [this,show (3:Nat)=2 ^ 2 - 1 from rfl,Nat.and_two_pow_sub_one_eq_mod,IntWalk.u64_in _ (by omega)]
theorem Ydc (w:Nat) (hw:w < 18446744073709551616):(IntKind.u64.wrap (Zc1 .u64 ((w:Int).fdiv (2 ^ min (Int.toNat 2) 64)) 1) == 1)=decide (w / 4 % 2=1):=by
 have e1:(2:Int) ^ min (Int.toNat 2) 64=4:=by decide
 have e2:((w:Int).fdiv 4)=((w / 4:Nat):Int):=by rw [Int.fdiv_eq_ediv_of_nonneg _ (by decide)];rfl
 have e3:=Z3k (w / 4) 1 (by omega) (by decide)
 rw [show ((1:Nat):Int)=1 from rfl,Nat.and_one_is_mod] at e3
 rw [e1,e2,e3,IntWalk.u64_in _ (by omega)]
 by_cases h:w / 4 % 2=1
 ·rw [h];decide
 have:w / 4 % 2=0:=by omega
 rw [this];decide
theorem Zzy (a:Nat) (b:Nat):((a:Int) == (b:Int))=decide (a=b):=by
 by_cases h:a=b
 ·subst h;simp
 simp [h,Int.natCast_inj]
theorem Z1n (w:Nat) (hw:w < 18446744073709551616):Kb w=some (Zhq w):=by
 unfold Kb
 have f1:Ql w 32 16=_:=Zob w 32 16 hw (by decide) (by decide)
 have f2:Ql w 48 16=_:=Zob w 48 16 hw (by decide) (by decide)
 have f3:Ql w 32 3=_:=Zob w 32 3 hw (by decide) (by decide)
 have f4:Ql w 35 29=_:=Zob w 35 29 hw (by decide) (by decide)
 have f5:Ql w 3 29=_:=Zob w 3 29 hw (by decide) (by decide)
 have f6:Ql w 32 32=_:=Zob w 32 32 hw (by decide) (by decide)
 have c0:((w:Int) == 0)=_:=Zzy w 0
 have c1:(((w % 4:Nat):Int) == 0)=_:=Zzy (w % 4) 0
 have c2:(((w % 4:Nat):Int) == 1)=_:=Zzy (w % 4) 1
 have c3:(((w % 4:Nat):Int) == 2)=_:=Zzy (w % 4) 2
 rw [Yda w hw,Z8b w hw,f1,f2,f3,f4,f5,f6,Ydc w hw,c0,c1,c2,c3]
 simp only [Option.bind_some]
 unfold Zhq
 by_cases h0:w=0
 ·simp [h0]
 by_cases h1:w % 4=0
 ·simp [h0,h1]
 by_cases h2:w % 4=1
 ·simp [h0,h2]
 by_cases h3:w % 4=2
 ·simp [h0,h3]
 simp [h0,h1,h2,h3]
theorem Z76 (x i:Nat):x % 2 ^ (i+1)=x % 2 ^ i+2 ^ i * (x / 2 ^ i % 2):=Nat.mod_pow_succ
theorem Zfd (w f b:Nat) (hw:w < 18446744073709551616) (hf:f < 64) (hb:b≤40):Z6 w f b=some ((w / 2 ^ f % 2 ^ b:Nat):Int):=by
 unfold Z6
 have l0:Zw (Gn f) ((w:Int),0)=some ((w / 2 ^ f:Nat):Int):=by
  refine Zry (fun s=>∃ i:Nat,i≤f∧s=(((w / 2 ^ i:Nat):Int),(i:Int))) (fun s=>f - s.2.toNat) ?_ _ ⟨0,by omega,by simp⟩
  rintro s ⟨i,hi,rfl⟩
  unfold Gn
  have hs:w / 2 ^ (i+1)=w / 2 ^ i / 2:=by rw [Nat.pow_succ,Nat.div_div_eq_div_mul]
  have hd:w / 2 ^ i < 18446744073709551616:=Nat.lt_of_le_of_lt (Nat.div_le_self _ _) hw
  by_cases h:i < f
  ·left
   refine ⟨(((w / 2 ^ (i+1):Nat):Int),((i+1:Nat):Int)),?_,⟨i+1,by omega,rfl⟩,by simp only;omega⟩
   have:decide ((i:Int) < f)=true:=by simp;omega
   simp only [this,cond_true]
   rw [hs]
   generalize w / 2 ^ i=y at *
   rw [Int.tdiv_eq_ediv_of_nonneg (by omega),Yav (by omega),Z10 (by omega)]
   rfl
  right
  have:decide ((i:Int) < f)=false:=by simp;omega
  obtain rfl:i=f:=by omega
  simp only [this,cond_false]
 rw [l0]
 simp only [Option.bind_some]
 generalize hx:w / 2 ^ f=x at *
 have hd:x < 18446744073709551616:=by rw [← hx];exact Nat.lt_of_le_of_lt (Nat.div_le_self _ _) hw
 have l1:Zw (Gp b) ((x:Int),0,1,0)=some ((x % 2 ^ b:Nat):Int):=by
  refine Zry (fun s=>∃ j:Nat,j≤b∧s=(((x / 2 ^ j:Nat):Int),((x % 2 ^ j:Nat):Int),((2 ^ j:Nat):Int),(j:Int))) (fun s=>b - s.2.2.2.toNat) ?_ _ ⟨0,by omega,by simp [Nat.mod_one]⟩
  rintro s ⟨j,hj,rfl⟩
  unfold Gp
  have hdj:x / 2 ^ j < 18446744073709551616:=Nat.lt_of_le_of_lt (Nat.div_le_self _ _) hd
  have hpj:(2:Nat) ^ j≤1099511627776:=by have:=Nat.pow_le_pow_right (n:=2) (by decide) (Nat.le_trans hj hb);simpa using this
  have h0:0 < (2:Nat) ^ j:=Nat.pow_pos (by decide)
  have hm:=Z76 x j
  have hs2:x / 2 ^ (j+1)=x / 2 ^ j / 2:=by rw [Nat.pow_succ,Nat.div_div_eq_div_mul]
  have hp2:(2:Nat) ^ (j+1)=2 ^ j * 2:=Nat.pow_succ ..
  have hlt:x % 2 ^ j < 2 ^ j:=Nat.mod_lt _ h0
  by_cases h:j < b
  ·left
   refine ⟨(((x / 2 ^ (j+1):Nat):Int),((x % 2 ^ (j+1):Nat):Int),((2 ^ (j+1):Nat):Int),((j+1:Nat):Int)),?_,⟨j+1,by omega,rfl⟩,by simp only;omega⟩
   have:decide ((j:Int) < b)=true:=by simp;omega
   simp only [this,cond_true]
   rw [hs2,hm,hp2]
   clear hs2 hm hp2
   generalize x / 2 ^ j=y at *
   generalize x % 2 ^ j=r at *
   generalize 2 ^ j=p at *
   rw [Int.tmod_eq_emod_of_nonneg (by omega),Int.tdiv_eq_ediv_of_nonneg (by omega)]
   by_cases hb1:y % 2=1
   ·have e:(((y:Int) % 2) == 1)=true:=by simp;omega
    rw [e,cond_true,hb1,Z10 (by omega)]
    simp only [Option.bind_some]
    rw [Yav (by omega),Z10 (by omega),Z10 (by omega)]
    simp only [Option.some.injEq,Sum.inl.injEq,Prod.mk.injEq]
    omega
   have e:(((y:Int) % 2) == 1)=false:=by simp;omega
   have hb0:y % 2=0:=by omega
   rw [e,cond_false,hb0]
   simp only [Option.bind_some]
   rw [Yav (by omega),Z10 (by omega),Z10 (by omega)]
   simp only [Option.some.injEq,Sum.inl.injEq,Prod.mk.injEq]
   omega
  right
  have:decide ((j:Int) < b)=false:=by simp;omega
  obtain rfl:j=b:=by omega
  simp only [this,cond_false]
 rw [l1]
 simp only [Option.bind_some]
theorem Z6m (w:Nat) (hw:w < 18446744073709551616):Xl w=some (Zhq w):=by
 unfold Xl
 have f0:Z6 w 2 30=_:=Zfd w 2 30 hw (by decide) (by decide)
 have f00:Z6 w 0 2=_:=Zfd w 0 2 hw (by decide) (by decide)
 have f1:Z6 w 32 16=_:=Zfd w 32 16 hw (by decide) (by decide)
 have f2:Z6 w 48 16=_:=Zfd w 48 16 hw (by decide) (by decide)
 have f3:Z6 w 32 3=_:=Zfd w 32 3 hw (by decide) (by decide)
 have f4:Z6 w 35 29=_:=Zfd w 35 29 hw (by decide) (by decide)
 have f5:Z6 w 3 29=_:=Zfd w 3 29 hw (by decide) (by decide)
 have f6:Z6 w 32 32=_:=Zfd w 32 32 hw (by decide) (by decide)
 have f7:Z6 w 2 1=_:=Zfd w 2 1 hw (by decide) (by decide)
 have c0:((w:Int) == 0)=_:=Zzy w 0
 have c1:(((w % 4:Nat):Int) == 0)=_:=Zzy (w % 4) 0
 have c2:(((w % 4:Nat):Int) == 1)=_:=Zzy (w % 4) 1
 have c3:(((w % 4:Nat):Int) == 2)=_:=Zzy (w % 4) 2
 have c4:(((w / 4 % 2:Nat):Int) == 1)=_:=Zzy (w / 4 % 2) 1
 simp only [Nat.reducePow,Nat.div_one] at f0 f00 f1 f2 f3 f4 f5 f6 f7
 have ho:(cond (decide (536870912≤((w / 4 % 1073741824:Nat):Int))) (some (IntKind.i64.wrap (((w / 4 % 1073741824:Nat):Int) - 1073741824))) (some ((w / 4 % 1073741824:Nat):Int)))=some (Zqr w):=by
  unfold Zqr
  rw [Z10 (by omega)]
  by_cases h:w / 4 % 1073741824 < 536870912
  ·have:decide (536870912≤((w / 4 % 1073741824:Nat):Int))=false:=by simp;omega
   rw [this,if_pos h,cond_false]
  have:decide (536870912≤((w / 4 % 1073741824:Nat):Int))=true:=by simp;omega
  rw [this,if_neg h,cond_true]
 rw [f0]
 simp only [Option.bind_some,ho]
 rw [f00,f1,f2,f3,f4,f5,f6,f7]
 simp only [Option.bind_some]
 rw [c0,c1,c2,c3,c4]
 unfold Zhq
 by_cases h0:w=0
 ·simp [h0]
 by_cases h1:w % 4=0
 ·simp [h0,h1]
 by_cases h2:w % 4=1
 ·simp [h0,h2]
 by_cases h3:w % 4=2
 ·simp [h0,h3]
 simp [h0,h1,h2,h3]
theorem Zn1 (k a b:Nat) (h:a < 2 ^ k):a ||| (b * 2 ^ k)=a+b * 2 ^ k:=by
 rw [Nat.or_comm,Nat.mul_comm,← Nat.two_pow_add_eq_or_of_lt h,Nat.add_comm]
def Z0j (p:Zs):Int :=
 if p.Kind=1 then IntKind.u64.wrap (Zcq .u64 (IntKind.u64.wrap (Zcq .u64 (IntKind.u64.wrap (IntKind.u32.wrap (IntKind.u32.wrap p.Off * 2 ^ min (Int.toNat 2) 32))) (IntKind.u64.wrap (IntKind.u64.wrap p.Data * 2 ^ min (Int.toNat 32) 64)))) (IntKind.u64.wrap (IntKind.u64.wrap p.Ptrs * 2 ^ min (Int.toNat 48) 64)))
 else if p.Kind=2 then IntKind.u64.wrap (Zcq .u64 (IntKind.u64.wrap (Zcq .u64 (IntKind.u64.wrap (Zcq .u64 1 (IntKind.u64.wrap (IntKind.u32.wrap (IntKind.u32.wrap p.Off * 2 ^ min (Int.toNat 2) 32))))) (IntKind.u64.wrap (IntKind.u64.wrap p.Code * 2 ^ min (Int.toNat 32) 64)))) (IntKind.u64.wrap (IntKind.u64.wrap p.Count * 2 ^ min (Int.toNat 35) 64)))
 else if p.Kind=3 then
  if p.Double=true then IntKind.u64.wrap (Zcq .u64 (IntKind.u64.wrap (Zcq .u64 (IntKind.u64.wrap (Zcq .u64 2 (IntKind.u64.wrap (IntKind.u64.wrap p.Off * 2 ^ min (Int.toNat 3) 64)))) (IntKind.u64.wrap (IntKind.u64.wrap p.Segment * 2 ^ min (Int.toNat 32) 64)))) 4)
  else IntKind.u64.wrap (Zcq .u64 (IntKind.u64.wrap (Zcq .u64 2 (IntKind.u64.wrap (IntKind.u64.wrap p.Off * 2 ^ min (Int.toNat 3) 64)))) (IntKind.u64.wrap (IntKind.u64.wrap p.Segment * 2 ^ min (Int.toNat 32) 64)))
 else 0
theorem Yca (p:Zs):Zkt p=some (Z0j p):=by
 unfold Zkt Z0j
 by_cases h1:p.Kind=1
 ·simp [h1]
 by_cases h2:p.Kind=2
 ·simp [h2]
 by_cases h3:p.Kind=3
 ·by_cases hd:p.Double=true <;> simp [h3,hd]
 simp [h1,h2,h3,Xk h1,Xk h2,Xk h3]
theorem Z1a (x:Int):∃ w:Nat,IntKind.u64.wrap x=(w:Int)∧w < 18446744073709551616:=by
 refine ⟨(x % 18446744073709551616).toNat,?_,by omega⟩
 simp [IntKind.wrap,IntKind.bits,IntKind.signed]
 omega
theorem Z7v (p:Zs):∃ w:Nat,Z0j p=(w:Int)∧w < 18446744073709551616:=by
 unfold Z0j
 split
 ·exact Z1a _
 split
 ·exact Z1a _
 split
 ·split <;> exact Z1a _
 exact ⟨0,rfl,by decide⟩
theorem Z21 (x:Nat) (h:x < 18446744073709551616):IntKind.u64.wrap (x:Int)=(x:Int):=IntWalk.u64_in _ (by omega)
theorem Z86 (w:Nat):IntKind.u64.wrap (IntKind.u32.wrap (IntKind.u32.wrap (Zqr w) * 2 ^ min (Int.toNat 2) 32))=((w / 4 % 1073741824 * 2 ^ 2:Nat):Int):=by
 have e:(2:Int) ^ min (Int.toNat 2) 32=4:=by decide
 rw [e,IntKind.wrap_u32,IntKind.wrap_u32]
 unfold Zqr
 rw [IntWalk.u64_in _ (by omega)]
 split <;> omega
theorem Zl9 (x y:Nat) (hx:x < 18446744073709551616) (hy:y < 18446744073709551616):IntKind.u64.wrap (Zcq .u64 x y)=((x ||| y:Nat):Int):=by
 rw [Ycc x y hx hy,Z21 _ (by have:=Nat.or_lt_two_pow (n:=64) (show x < 2 ^ 64 by omega) (show y < 2 ^ 64 by omega);omega)]
theorem Zyl (x k:Nat) (hx:x < 18446744073709551616) (hk:k≤64) (h:x * 2 ^ k < 18446744073709551616):IntKind.u64.wrap (IntKind.u64.wrap (x:Int) * 2 ^ min (Int.toNat (k:Int)) 64)=((x * 2 ^ k:Nat):Int):=by
 have e:min (Int.toNat (k:Int)) 64=k:=by omega
 have e2:((x:Int) * (2:Int) ^ k)=((x * 2 ^ k:Nat):Int):=by simp
 rw [Z21 x hx,e,e2,Z21 _ h]
theorem Z9x (w:Nat) (hw:w < 18446744073709551616) (h3:¬ (Zhq w).Kind=4):Z0j (Zhq w)=(w:Int):=by
 by_cases h0:w=0
 ·subst h0;rfl
 by_cases h1:w % 4=0
 ·have e:Zhq w=⟨1,Zqr w,(w / 4294967296 % 65536:Nat),(w / 281474976710656 % 65536:Nat),0,0,0,false⟩:=by simp [Zhq,h0,h1]
  rw [e]
  unfold Z0j
  rw [if_pos rfl]
  simp only
  have s1:=Zyl (w / 4294967296 % 65536) 32 (by omega) (by decide) (by omega)
  have s2:=Zyl (w / 281474976710656 % 65536) 48 (by omega) (by decide) (by omega)
  rw [show ((32:Nat):Int)=32 from rfl] at s1
  rw [show ((48:Nat):Int)=48 from rfl] at s2
  rw [Z86,s1,s2,Zl9 _ _ (by omega) (by omega),Zn1 32 _ _ (by omega),Zl9 _ _ (by omega) (by omega),Zn1 48 _ _ (by omega)]
  omega
 by_cases h2:w % 4=1
 ·have e:Zhq w=⟨2,Zqr w,0,0,(w / 4294967296 % 8:Nat),(w / 34359738368 % 536870912:Nat),0,false⟩:=by simp [Zhq,h0,h1,h2]
  rw [e]
  unfold Z0j
  rw [if_neg (by simp),if_pos rfl]
  simp only
  have s1:=Zyl (w / 4294967296 % 8) 32 (by omega) (by decide) (by omega)
  have s2:=Zyl (w / 34359738368 % 536870912) 35 (by omega) (by decide) (by omega)
  rw [show ((32:Nat):Int)=32 from rfl] at s1
  rw [show ((35:Nat):Int)=35 from rfl] at s2
  have l1:=Zl9 1 (w / 4 % 1073741824 * 2 ^ 2) (by decide) (by omega)
  rw [show ((1:Nat):Int)=1 from rfl,Zn1 2 1 _ (by decide)] at l1
  rw [Z86,s1,s2,l1,Zl9 _ _ (by omega) (by omega),Zn1 32 _ _ (by omega),Zl9 _ _ (by omega) (by omega),Zn1 35 _ _ (by omega)]
  omega
 by_cases h4:w % 4=2
 ·have e:Zhq w=⟨3,(w / 8 % 536870912:Nat),0,0,0,0,(w / 4294967296 % 4294967296:Nat),decide (w / 4 % 2=1)⟩:=by simp [Zhq,h0,h1,h2,h4]
  rw [e]
  unfold Z0j
  rw [if_neg (by simp),if_neg (by simp),if_pos rfl]
  simp only
  have s1:=Zyl (w / 8 % 536870912) 3 (by omega) (by decide) (by omega)
  have s2:=Zyl (w / 4294967296 % 4294967296) 32 (by omega) (by decide) (by omega)
  rw [show ((3:Nat):Int)=3 from rfl] at s1
  rw [show ((32:Nat):Int)=32 from rfl] at s2
  have l1:=Zl9 2 (w / 8 % 536870912 * 2 ^ 3) (by decide) (by omega)
  rw [show ((2:Nat):Int)=2 from rfl,Zn1 3 2 _ (by decide)] at l1
  rw [s1,s2,l1,Zl9 _ _ (by omega) (by omega),Zn1 32 _ _ (by omega)]
  by_cases hb:w / 4 % 2=1
  ·rw [if_pos (by simpa using hb)]
   have l2:=Zl9 (2+w / 8 % 536870912 * 2 ^ 3+w / 4294967296 % 4294967296 * 2 ^ 32) 4 (by omega) (by decide)
   rw [show ((4:Nat):Int)=4 from rfl] at l2
   rw [l2]
   have:(2+w / 8 % 536870912 * 2 ^ 3+w / 4294967296 % 4294967296 * 2 ^ 32) ||| 4=2+w / 8 % 536870912 * 2 ^ 3+w / 4294967296 % 4294967296 * 2 ^ 32+4:=by
    have e1:2+w / 8 % 536870912 * 2 ^ 3+w / 4294967296 % 4294967296 * 2 ^ 32=2 ^ 3 * (w / 8 % 536870912+w / 4294967296 % 4294967296 * 2 ^ 29)+2:=by omega
    rw [e1]
    generalize w / 8 % 536870912+w / 4294967296 % 4294967296 * 2 ^ 29=q
    conv=>lhs;rw [Nat.two_pow_add_eq_or_of_lt (by decide),Nat.or_assoc,show (2 ||| 4:Nat)=6 from rfl,← Nat.two_pow_add_eq_or_of_lt (by decide)]
   rw [this]
   omega
  rw [if_neg (by simpa using hb)]
  omega
 exact absurd (by simp [Zhq,h0,h1,h2,h4]) h3
theorem Yam (p q:Zs):((p.Kind == q.Kind) && ((p.Off == q.Off) && ((p.Data == q.Data) && ((p.Ptrs == q.Ptrs) && ((p.Code == q.Code) && ((p.Count == q.Count) && ((p.Segment == q.Segment) && (p.Double == q.Double))))))))=true↔p=q:=by
 cases p;cases q
 simp [and_assoc]
open Classical in
/-- what 'Encode' tells -/
theorem Z7h (p:Zs):∃ w:Nat,w < 18446744073709551616∧Z0j p=(w:Int)∧Qd p=some ((w:Int),decide (p.Kind≠4∧Zhq w=p)):=by
 obtain ⟨w,hw,hlt⟩:=Z7v p
 refine ⟨w,hlt,hw,?_⟩
 unfold Qd
 rw [Yca,hw]
 simp only [Option.bind_some,Z1n w hlt]
 by_cases h4:p.Kind=4
 ·simp [h4]
 have hk:(p.Kind != 4)=true:=by simp [h4]
 rw [hk]
 simp only [cond_true,Option.bind_some,Option.some.injEq,Prod.mk.injEq,true_and]
 rw [Bool.eq_iff_iff,Yam]
 simp [h4]
theorem Zv0 (w:Nat) (hw:w < 18446744073709551616) (h:¬ (Zhq w).Kind=4):Qd (Zhq w)=some ((w:Int),true):=by
 obtain ⟨v,hv,h1,h2⟩:=Z7h (Zhq w)
 have:v=w:=by have:=Z9x w hw h;omega
 subst this
 rw [h2]
 simp [h]
theorem Z4 {x:Int} (h1:-9223372036854775808≤x) (h2:x≤9223372036854775807):IntKind.i64.wrap x=x:=Z10 ⟨h1,h2⟩
theorem Zb3 {i n:Nat} (h:i < n):decide ((i:Int) < (n:Int))=true:=by rw [decide_eq_true_eq];omega
theorem Zbr {n:Nat}:decide ((n:Int) < (n:Int))=false:=by rw [decide_eq_false_iff_not];omega
structure WS (l:List (List Int)):Prop where
 n:l.length * 24≤140737488355328
 s:∀ x∈l,x.length * 8≤140737488355328
 w:∀ x∈l,∀ w∈x,0≤w∧w < 18446744073709551616
theorem Zyj {l:List Int} (h:l.length * 8≤140737488355328):Xp l=some l:=by
 unfold Xp
 rw [Zbm (by simp only [List.length_nil];omega) (by simp only [List.length_nil];omega),List.nil_append]
theorem Z8x {α:Type} (l:List α) (n:Nat) (v:α):Xu l (n:Int) v=l.set n v:=by unfold Xu;rw [Int.toNat_natCast]
theorem Zur {l:List (List Int)} (h:WS l):∀ (r:List (List Int)) (i:Nat),l.drop i=r→i≤l.length →
  Zw (Uz l) ((i:Int),l.take i++List.replicate r.length [])=some l
 | [],i,hd,hi=>by
  have hl:i=l.length:=by
   have:=congrArg List.length hd
   rw [List.length_drop,List.length_nil] at this;omega
  subst hl
  refine Y0 ?_
  unfold Uz
  simp only
  rw [Zbr,cond_false]
  simp
 | x::r,i,hd,hi=>by
  have hi':i < l.length:=by
   rcases Nat.lt_or_ge i l.length with q | q
   ·exact q
   rw [List.drop_eq_nil_of_le q] at hd;cases hd
  have hx:l[i]? = some x:=by
   have:=congrArg (·[0]?) hd
   simpa using this
  have hm:=List.mem_of_getElem? hx
  have hd':l.drop (i+1)=r:=by
   have:=congrArg (List.drop 1) hd
   rw [List.drop_drop] at this
   simpa [Nat.add_comm] using this
  have hn:=h.n
  have hlen:(l.take i).length=i:=by rw [List.length_take];omega
  have hg:Y2 (l.take i++List.replicate (r.length+1) []) (i:Int)=some ([]:List Int):=Y5 (by rw [List.getElem?_append_right (by omega),hlen,Nat.sub_self];rfl)
  have hstep:Uz l ((i:Int),l.take i++List.replicate (r.length+1) [])=some (.inl (((i+1:Nat):Int),l.take (i+1)++List.replicate r.length [])):=by
   unfold Uz
   simp only
   rw [Zb3 hi',cond_true,Y5 hx,Option.bind_some,Zyj (h.s x hm),Option.bind_some,hg,Option.bind_some,Z4 (by omega) (by omega),Z8x,List.set_append_right _ _ (by omega),hlen,Nat.sub_self,List.replicate_succ,List.set_cons_zero,List.take_add_one,hx,List.append_assoc]
   rfl
  rw [List.length_cons,Xz hstep]
  exact Zur h r (i+1) hd' (by omega)
theorem Z5s {l:List (List Int)} (h:WS l):Zdq l=some l:=by
 have hn:=h.n
 have:=Zur h l 0 rfl (Nat.zero_le _)
 rw [List.take_zero,List.nil_append,show (((0:Nat):Int))=0 from rfl] at this
 unfold Zdq
 rw [Zku (by omega) (by omega) (by omega),Option.bind_some,Int.toNat_natCast,this]
 rfl
theorem Z66 {l:List (List Int)} (h:WS l):Zd0 l=some (some ⟨l,0,0⟩):=by
 unfold Zd0
 rw [Z5s h,Option.bind_some]
def seg (l:List (List Int)) (s:Int):List Int:=(l[s.toNat]?).getD []
def inB (l:List (List Int)) (s a n:Int):Bool:=decide (0≤s) && (decide (s < l.length) && (decide (0≤a) && (decide (0≤n) && decide (a+n≤(seg l s).length))))
theorem inB_iff {l:List (List Int)} {s a n:Int}:inB l s a n=true↔0≤s∧s < l.length∧0≤a∧0≤n∧a+n≤(seg l s).length:=by
 unfold inB
 simp only [Bool.and_eq_true,decide_eq_true_eq]
theorem Zfi {l:List (List Int)} {s:Int} (h0:0≤s) (h1:s < l.length):Y2 l s=some (seg l s)∧seg l s∈l:=by
 have hs:s.toNat < l.length:=by omega
 unfold seg Y2
 rw [if_pos h0,List.getElem?_eq_getElem hs]
 exact ⟨rfl,List.getElem_mem hs⟩
def wd (l:List (List Int)) (s a:Int):Int:=((seg l s)[a.toNat]?).getD 0
theorem Zuh {l:List (List Int)} {s a:Int} (h:inB l s a 1=true):Y2 (seg l s) a=some (wd l s a)∧wd l s a∈seg l s:=by
 rw [inB_iff] at h
 have ha:a.toNat < (seg l s).length:=by omega
 unfold wd Y2
 rw [if_pos h.2.2.1,List.getElem?_eq_getElem ha]
 exact ⟨rfl,List.getElem_mem ha⟩
theorem Zmz {l:List (List Int)} (hw:WS l) (s a:Int):0≤wd l s a∧wd l s a < 18446744073709551616:=by
 unfold wd
 cases h:(seg l s)[a.toNat]? with
 | none=>simp
 | some w =>
  have hm:=List.mem_of_getElem? h
  unfold seg at hm
  cases hs:l[s.toNat]? with
  | none=>rw [hs] at hm;cases hm
  | some x=>rw [hs] at hm;exact hw.w x (List.mem_of_getElem? hs) w hm
theorem Zmp {l:List (List Int)} (hw:WS l) (s:Int):(seg l s).length * 8≤140737488355328:=by
 unfold seg
 cases hs:l[s.toNat]? with
 | none=>simp
 | some x=>exact hw.s x (List.mem_of_getElem? hs)
section
variable {A:Zj}
theorem Z9k:Zcm (some A)=some (A.segments.length:Int):=rfl
theorem Zxw (s:Int):Ki (some A) s=some (decide (0≤s) && decide (s < A.segments.length)):=by
 unfold Ki
 rw [Z9k,Option.bind_some]
 cases decide (0≤s) <;> rfl
theorem Z68 (s:Int):Vd (some A) s=some (if 0≤s∧s < A.segments.length then ((seg A.segments s).length:Int) else 0):=by
 unfold Vd
 rw [Zxw,Option.bind_some]
 by_cases h:0≤s∧s < A.segments.length
 ·rw [decide_eq_true h.1,decide_eq_true h.2,if_pos h,Option.bind_some,(Zfi h.1 h.2).1]
  rfl
 rw [if_neg h,show (decide (0≤s) && decide (s < A.segments.length))=false from by rw [Bool.and_eq_false_iff,decide_eq_false_iff_not,decide_eq_false_iff_not];omega]
 rfl
theorem Zzv (hw:WS A.segments) (s a n:Int):J9 (some A) s a n=some (inB A.segments s a n):=by
 have hl:=Zmp hw s
 unfold J9 inB
 rw [Zxw,Z68,Option.bind_some]
 by_cases h:0≤s∧s < A.segments.length
 ·rw [if_pos h,decide_eq_true h.1,decide_eq_true h.2]
  by_cases h2:0≤a
  ·by_cases h3:0≤n
   ·by_cases h4:n≤((seg A.segments s).length:Int)
    ·simp only [decide_eq_true h2,decide_eq_true h3,Bool.and_true,Bool.true_and,cond_true,Option.bind_some,decide_eq_true h4]
     rw [Z4 (by omega) (by omega)]
     congr 1
     rw [Bool.eq_iff_iff,decide_eq_true_eq,decide_eq_true_eq]
     omega
    simp only [decide_eq_true h2,decide_eq_true h3,Bool.and_true,Bool.true_and,cond_true,cond_false,Option.bind_some,decide_eq_false h4]
    rw [show decide (a+n≤((seg A.segments s).length:Int))=false from by rw [decide_eq_false_iff_not];omega]
   rw [decide_eq_true h2,decide_eq_false h3];rfl
  rw [decide_eq_false h2];rfl
 rw [show (decide (0≤s) && decide (s < A.segments.length))=false from by rw [Bool.and_eq_false_iff,decide_eq_false_iff_not,decide_eq_false_iff_not];omega]
 rw [← Bool.and_assoc,show (decide (0≤s) && decide (s < A.segments.length))=false from by rw [Bool.and_eq_false_iff,decide_eq_false_iff_not,decide_eq_false_iff_not];omega]
 rfl
theorem Zr1 (hw:WS A.segments) (s a:Int):Qq (some A) s a=some (if inB A.segments s a 1=true then (wd A.segments s a,true) else (0,false)):=by
 unfold Qq
 rw [Zzv hw,Option.bind_some]
 cases h:inB A.segments s a 1 with
 | false=>rfl
 | true =>
  have h':=inB_iff.1 h
  rw [Bool.not_true,cond_false,Option.bind_some,(Zfi h'.1 h'.2.1).1,Option.bind_some,(Zuh h).1]
  rfl
theorem Z67 (hw:WS A.segments) (s a n:Int):Gd (some A) s a n=some (if inB A.segments s a n=true then (((seg A.segments s).drop a.toNat).take n.toNat,true) else ([],false)):=by
 have hl:=Zmp hw s
 unfold Gd
 rw [Zzv hw,Option.bind_some]
 cases h:inB A.segments s a n with
 | false=>rfl
 | true =>
  have h':=inB_iff.1 h
  rw [Bool.not_true,cond_false,Option.bind_some,(Zfi h'.1 h'.2.1).1,Option.bind_some,Z4 (by omega) (by omega),Zvo (by omega) (by omega) (by omega),Option.bind_some,show a+n - a=n by omega,Zyj (by rw [List.length_take,List.length_drop];omega)]
  rfl
end
def dc (w:Int):Zs:=Zhq w.toNat
theorem Z1m {w:Int} (h:0≤w∧w < 18446744073709551616):Kb w=some (dc w):=by
 have:=Z1n w.toNat (by omega)
 rwa [show ((w.toNat:Nat):Int)=w by omega] at this
theorem Zws {w:Int} (h:0≤w∧w < 18446744073709551616):Xl w=some (dc w):=by
 have:=Z6m w.toNat (by omega)
 rwa [show ((w.toNat:Nat):Int)=w by omega] at this
structure PB (p:Zs):Prop where
 k:p.Kind=0∨p.Kind=1∨p.Kind=2∨p.Kind=3∨p.Kind=4
 o:-536870912≤p.Off∧p.Off < 536870912
 d:0≤p.Data∧p.Data < 65536
 q:0≤p.Ptrs∧p.Ptrs < 65536
 c:0≤p.Code∧p.Code < 8
 n:0≤p.Count∧p.Count < 536870912
 s:0≤p.Segment∧p.Segment < 4294967296
 f:p.Kind=3→0≤p.Off
 z:p.Kind=0∨p.Kind=4→p.Off=0
theorem Yae (w:Nat):-536870912≤Zqr w∧Zqr w < 536870912:=by
 unfold Zqr
 split <;> omega
theorem Zna (w:Int):PB (dc w):=by
 have ho:=Yae w.toNat
 unfold dc Zhq
 split
 ·exact ⟨.inl rfl,by simp,by simp,by simp,by simp,by simp,by simp,by simp,by simp⟩
 split
 ·exact ⟨.inr (.inl rfl),ho,by simp only;omega,by simp only;omega,by simp,by simp,by simp,by simp,by simp⟩
 split
 ·exact ⟨.inr (.inr (.inl rfl)),ho,by simp,by simp,by simp only;omega,by simp only;omega,by simp,by simp,by simp⟩
 split
 ·exact ⟨.inr (.inr (.inr (.inl rfl))),by simp only;omega,by simp,by simp,by simp,by simp,by simp only;omega,fun _=>by simp only;omega,by simp⟩
 exact ⟨.inr (.inr (.inr (.inr rfl))),by simp,by simp,by simp,by simp,by simp,by simp,by simp,by simp⟩
def wdt (c:Int):Int:=if c=0 then 0 else if c=1 then 1 else if c=2 then 8 else if c=3 then 16 else if c=4 then 32 else 64
def pw (p:Zs):Int:=if p.Kind=1 then p.Data+p.Ptrs else if p.Code=7 then p.Count+1 else (p.Count * wdt p.Code+63) / 64
theorem c7 {c:Int} (h:0≤c∧c < 8) (h7:¬ c=7):c=0∨c=1∨c=2∨c=3∨c=4∨c=5∨c=6:=by omega
theorem Z89 {c:Int} (h:0≤c∧c < 8) (h7:¬ c=7):Zei c=some (wdt c):=by
 unfold Zei
 rcases c7 h h7 with rfl | rfl | rfl | rfl | rfl | rfl | rfl <;> rfl
theorem Yci {p:Zs} (h:PB p):0≤pw p∧pw p≤1073741824:=by
 have:=h.d;have:=h.q;have hn:=h.n
 unfold pw
 split
 ·omega
 split
 ·omega
 rename_i h7
 rcases c7 h.c h7 with q | q | q | q | q | q | q <;> rw [q] <;> unfold wdt <;> simp <;> omega
theorem Z9b {p:Zs} (h:PB p):Yt p=some (if p.Kind=1∨p.Kind=2 then (pw p,true) else (0,false)):=by
 have hd:=h.d;have hp:=h.q;have hn:=h.n
 unfold Yt pw
 by_cases k1:p.Kind=1
 ·rw [show (p.Kind == 1)=true from by rw [k1];rfl,cond_true,if_pos (.inl k1),if_pos k1,Z4 (by omega) (by omega)]
 rw [show (p.Kind == 1)=false from Xk k1,cond_false]
 by_cases k2:p.Kind=2
 ·rw [show (p.Kind == 2)=true from by rw [k2];rfl,cond_true,if_pos (.inr k2),if_neg k1]
  by_cases c7':p.Code=7
  ·rw [show (p.Code == 7)=true from by rw [c7'];rfl,cond_true,if_pos c7',Z4 (by omega) (by omega)]
  rw [show (p.Code == 7)=false from Xk c7',cond_false,if_neg c7',decide_eq_true h.c.1,show decide (p.Code < 7)=true from by rw [decide_eq_true_eq];have:=h.c;omega,decide_eq_true hn.1,show decide (p.Count≤536870911)=true from by rw [decide_eq_true_eq];omega]
  simp only [cond_true]
  rw [Z89 h.c c7',Option.bind_some]
  have hw:0≤wdt p.Code∧wdt p.Code≤64:=by unfold wdt;repeat' split;all_goals omega
  have h1:0≤p.Count * wdt p.Code:=Int.mul_nonneg hn.1 hw.1
  have h2:p.Count * wdt p.Code≤536870912 * 64:=Int.mul_le_mul (by omega) hw.2 hw.1 (by omega)
  rw [Z4 (x:=p.Count * wdt p.Code) (by omega) (by omega),Z4 (x:=p.Count * wdt p.Code+63) (by omega) (by omega),Int.tdiv_eq_ediv_of_nonneg (by omega),Z4 (by omega) (by omega)]
 rw [show (p.Kind == 2)=false from Xk k2,if_neg (by omega)]
 rfl
theorem Z6r {p:Zs} (h:PB p) (hk:p.Kind=1∨p.Kind=2):Gf p=some (pw p):=by
 have hd:=h.d;have hp:=h.q;have hn:=h.n;have hc:=h.c
 unfold Gf pw
 by_cases k1:p.Kind=1
 ·rw [show (p.Kind == 1)=true from by rw [k1];rfl,cond_true,if_pos k1,Z4 (by omega) (by omega)]
 have k2:p.Kind=2:=by omega
 rw [show (p.Kind == 1)=false from Xk k1,cond_false,show (p.Kind != 2)=false from by rw [k2];rfl,cond_false,if_neg k1]
 by_cases c7':p.Code=7
 ·rw [show (p.Code == 7)=true from by rw [c7'];rfl,cond_true,if_pos c7',Z4 (by omega) (by omega)]
 rw [show (p.Code == 7)=false from Xk c7',cond_false,if_neg c7',show decide (p.Code < 0)=false from by rw [decide_eq_false_iff_not];omega,show decide (6 < p.Code)=false from by rw [decide_eq_false_iff_not];omega,show decide (p.Count < 0)=false from by rw [decide_eq_false_iff_not];omega,show decide (536870912≤p.Count)=false from by rw [decide_eq_false_iff_not];omega]
 simp only [cond_false]
 have hgen:∀ (k:Int),0 < k→(Xe (k≠0)).bind (fun _=>cond (decide (0 < Int.tmod p.Count k)) ((Xe (k≠0)).bind fun _=>some (IntKind.i64.wrap (IntKind.i64.wrap (Int.tdiv p.Count k)+1))) ((Xe (k≠0)).bind fun _=>some (IntKind.i64.wrap (Int.tdiv p.Count k))))=some (if 0 < p.Count % k then p.Count / k+1 else p.Count / k):=fun k hk=>by
  have hne:k≠0:=by omega
  have h0:0≤p.Count / k:=Int.ediv_nonneg hn.1 (by omega)
  have h1:p.Count / k≤p.Count:=Int.ediv_le_self _ hn.1
  rw [Jv hne,Option.bind_some,Option.bind_some,Option.bind_some,Int.tmod_eq_emod_of_nonneg hn.1,Int.tdiv_eq_ediv_of_nonneg hn.1,Z4 (x:=p.Count / k) (by omega) (by omega),Z4 (x:=p.Count / k+1) (by omega) (by omega)]
  by_cases q:0 < p.Count % k
  ·rw [if_pos q,decide_eq_true q,cond_true]
  rw [if_neg q,decide_eq_false q,cond_false]
 have hgo:∀ (k:Int),0 < k→(if 0 < p.Count % k then p.Count / k+1 else p.Count / k)=(p.Count+(k - 1)) / k:=fun k hk=>by
  have e:=Int.emod_add_mul_ediv p.Count k
  have e1:=Int.emod_nonneg p.Count (show k≠0 by omega)
  have e2:=Int.emod_lt_of_pos p.Count hk
  split
  ·symm
   have:p.Count+(k - 1)=(p.Count % k - 1)+k * (p.Count / k+1):=by rw [Int.mul_add];omega
   rw [this,Int.add_mul_ediv_left _ _ (by omega),Int.ediv_eq_zero_of_lt (by omega) (by omega)]
   omega
  symm
  have:p.Count+(k - 1)=(k - 1)+k * (p.Count / k):=by omega
  rw [this,Int.add_mul_ediv_left _ _ (by omega),Int.ediv_eq_zero_of_lt (by omega) (by omega)]
  omega
 rcases c7 h.c c7' with q | q | q | q | q | q | q
 ·rw [show (p.Code == 0)=true from by rw [q];rfl,cond_true,Option.bind_some,q]
  simp only [wdt,if_true,Int.mul_zero]
  rfl
 ·rw [show (p.Code == 0)=false from by rw [q];rfl,show (p.Code == 1)=true from by rw [q];rfl,cond_false,cond_true,Option.bind_some]
  simp only
  rw [hgen 64 (by omega),hgo 64 (by omega),q]
  simp [wdt]
 ·rw [show (p.Code == 0)=false from by rw [q];rfl,show (p.Code == 1)=false from by rw [q];rfl,show (p.Code == 2)=true from by rw [q];rfl,cond_false,cond_false,cond_true,Option.bind_some]
  simp only
  rw [hgen 8 (by omega),hgo 8 (by omega),q]
  simp [wdt]
  omega
 ·rw [show (p.Code == 0)=false from by rw [q];rfl,show (p.Code == 1)=false from by rw [q];rfl,show (p.Code == 2)=false from by rw [q];rfl,show (p.Code == 3)=true from by rw [q];rfl,cond_false,cond_false,cond_false,cond_true,Option.bind_some]
  simp only
  rw [hgen 4 (by omega),hgo 4 (by omega),q]
  simp [wdt]
  omega
 ·rw [show (p.Code == 0)=false from by rw [q];rfl,show (p.Code == 1)=false from by rw [q];rfl,show (p.Code == 2)=false from by rw [q];rfl,show (p.Code == 3)=false from by rw [q];rfl,show (p.Code == 4)=true from by rw [q];rfl,cond_false,cond_false,cond_false,cond_false,cond_true,Option.bind_some]
  simp only
  rw [hgen 2 (by omega),hgo 2 (by omega),q]
  simp [wdt]
  omega
 ·rw [show (p.Code == 0)=false from by rw [q];rfl,show (p.Code == 1)=false from by rw [q];rfl,show (p.Code == 2)=false from by rw [q];rfl,show (p.Code == 3)=false from by rw [q];rfl,show (p.Code == 4)=false from by rw [q];rfl,cond_false,cond_false,cond_false,cond_false,cond_false,Option.bind_some]
  simp only
  rw [hgen 1 (by omega),hgo 1 (by omega),q]
  simp [wdt]
  omega
 rw [show (p.Code == 0)=false from by rw [q];rfl,show (p.Code == 1)=false from by rw [q];rfl,show (p.Code == 2)=false from by rw [q];rfl,show (p.Code == 3)=false from by rw [q];rfl,show (p.Code == 4)=false from by rw [q];rfl,cond_false,cond_false,cond_false,cond_false,cond_false,Option.bind_some]
 simp only
 rw [hgen 1 (by omega),hgo 1 (by omega),q]
 simp [wdt]
 omega
def l0:Xw:=⟨⟨0,0,0,0,0,0,0,false⟩,0,0⟩
def Z2h (p:Zs):Zs:=⟨p.Kind,0,p.Data,p.Ptrs,p.Code,p.Count,p.Segment,p.Double⟩
def tgt (l:List (List Int)) (p:Zs) (s a:Int):Xw×Int :=
 if p.Kind=4 then (l0,9) else if p.Kind=1∨p.Kind=2 then (if inB l s a (pw p)=true then (⟨Z2h p,s,a⟩,0) else (l0,7)) else (l0,8)
def fol (l:List (List Int)) (s a:Int):Xw×Int :=
 if inB l s a 1=true then
  let p:=dc (wd l s a)
  if p.Kind=0 then (l0,0)
  else if p.Kind=3∧p.Double=true then
   if inB l p.Segment p.Off 2=true then
    let b:=dc (wd l p.Segment p.Off)
    let q:=dc (wd l p.Segment (p.Off+1))
    if b.Kind=3∧b.Double=false then (if q.Kind≠4∧q.Off≠0 then (l0,8) else tgt l q b.Segment b.Off) else (l0,8)
   else (l0,7)
  else if p.Kind=3 then
   if inB l p.Segment p.Off 1=true then
    let q:=dc (wd l p.Segment p.Off)
    tgt l q p.Segment (p.Off+1+q.Off)
   else (l0,7)
  else tgt l p s (a+1+p.Off)
 else (l0,7)
section
variable {A:Zj}
theorem Zpm (hw:WS A.segments) {p:Zs} (h:PB p) (s a:Int):Zbv (some A) p s a=some (tgt A.segments p s a):=by
 unfold Zbv tgt
 by_cases k4:p.Kind=4
 ·rw [show (p.Kind == 4)=true from by rw [k4];rfl,if_pos k4];rfl
 rw [show (p.Kind == 4)=false from Xk k4,cond_false,if_neg k4,Z9b h,Option.bind_some]
 by_cases k:p.Kind=1∨p.Kind=2
 ·rw [if_pos k,if_pos k]
  simp only [Bool.not_true,cond_false]
  rw [Zzv hw,Option.bind_some]
  cases inB A.segments s a (pw p) <;> rfl
 rw [if_neg k,if_neg k]
 rfl
theorem Ycj {l:List (List Int)} {s a:Int} (h:inB l s a 2=true):((seg l s).drop a.toNat).take (2:Int).toNat=[wd l s a,wd l s (a+1)]:=by
 have h':=inB_iff.1 h
 have h1:a.toNat < (seg l s).length:=by omega
 have h2:a.toNat+1 < (seg l s).length:=by omega
 unfold wd
 rw [show (a+1).toNat=a.toNat+1 by omega,List.getElem?_eq_getElem h1,List.getElem?_eq_getElem h2,show ((2:Int).toNat)=2 from rfl,List.drop_eq_getElem_cons h1,List.drop_eq_getElem_cons h2]
 rfl
theorem Z50 (hw:WS A.segments) (s a:Int):Ze5 (some A) s a=some (if inB A.segments s a 2=true then (if (dc (wd A.segments s a)).Kind=3∧(dc (wd A.segments s a)).Double=false then (if (dc (wd A.segments s (a+1))).Kind≠4∧(dc (wd A.segments s (a+1))).Off≠0 then (l0,8) else tgt A.segments (dc (wd A.segments s (a+1))) (dc (wd A.segments s a)).Segment (dc (wd A.segments s a)).Off) else (l0,8)) else (l0,7)):=by
 unfold Ze5
 rw [Z67 hw,Option.bind_some]
 cases h:inB A.segments s a 2 with
 | false=>rfl
 | true =>
  simp only [if_true,Bool.not_true,cond_false]
  rw [Ycj h]
  have g0:Y2 [wd A.segments s a,wd A.segments s (a+1)] 0=some (wd A.segments s a):=rfl
  have g1:Y2 [wd A.segments s a,wd A.segments s (a+1)] 1=some (wd A.segments s (a+1)):=rfl
  rw [g0,Option.bind_some,Z1m (Zmz hw _ _),Option.bind_some,g1,Option.bind_some,Z1m (Zmz hw _ _),Option.bind_some]
  generalize dc (wd A.segments s a)=b
  have hq:=Zna (wd A.segments s (a+1))
  revert hq
  generalize dc (wd A.segments s (a+1))=q
  intro hq
  by_cases b3:b.Kind=3
  ·rw [show (b.Kind != 3)=false from by rw [b3];rfl,cond_false]
   cases bd:b.Double with
   | true=>rw [cond_true,if_neg (by simp)];rfl
   | false =>
    rw [cond_false,if_pos ⟨b3,rfl⟩]
    by_cases hq4:q.Kind=4
    ·rw [show (q.Kind != 4)=false from by rw [hq4];rfl,cond_false,cond_false,if_neg (by simp [hq4]),Zpm hw hq]
     rfl
    rw [show (q.Kind != 4)=true from bne_iff_ne.2 hq4,cond_true]
    by_cases ho:q.Off=0
    ·rw [show (q.Off != 0)=false from by rw [ho];rfl,cond_false,if_neg (by simp [ho]),Zpm hw hq]
     rfl
    rw [show (q.Off != 0)=true from bne_iff_ne.2 ho,cond_true,if_pos ⟨hq4,ho⟩]
    rfl
  rw [show (b.Kind != 3)=true from bne_iff_ne.2 b3,cond_true,cond_true,if_neg (by simp [b3])]
  rfl
theorem Z4g {l:List (List Int)} (hw:WS l) {s a n:Int} (h:inB l s a n=true):0≤a∧a≤17592186044416:=by
 have h':=inB_iff.1 h
 have:=Zmp hw s
 omega
theorem Z6s (hw:WS A.segments) (s a:Int):Ze6 (some A) s a=some (if inB A.segments s a 1=true then tgt A.segments (dc (wd A.segments s a)) s (a+1+(dc (wd A.segments s a)).Off) else (l0,7)):=by
 unfold Ze6
 rw [Zr1 hw,Option.bind_some]
 cases h:inB A.segments s a 1 with
 | false=>rfl
 | true =>
  have ha:=Z4g hw h
  have hq:=Zna (wd A.segments s a)
  have ho:=hq.o
  simp only [if_true,Bool.not_true,cond_false]
  rw [Z1m (Zmz hw _ _),Option.bind_some,Z4 (x:=a+1) (by omega) (by omega),Z4 (by omega) (by omega),Zpm hw hq]
  rfl
theorem Z52 (hw:WS A.segments) (s a:Int):Ze4 (some A) s a=some (fol A.segments s a):=by
 unfold Ze4 fol
 rw [Zr1 hw,Option.bind_some]
 cases h:inB A.segments s a 1 with
 | false=>rfl
 | true =>
  have ha:=Z4g hw h
  have hq:=Zna (wd A.segments s a)
  have ho:=hq.o
  simp only [if_true,Bool.not_true,cond_false]
  rw [Z1m (Zmz hw _ _),Option.bind_some]
  revert hq ho
  generalize dc (wd A.segments s a)=p
  intro hq ho
  by_cases k0:p.Kind=0
  ·rw [show (p.Kind == 0)=true from by rw [k0];rfl,cond_true,if_pos k0];rfl
  rw [show (p.Kind == 0)=false from Xk k0,cond_false,if_neg k0]
  by_cases k3:p.Kind=3
  ·rw [show (p.Kind == 3)=true from by rw [k3];rfl,cond_true,cond_true]
   cases hd:p.Double with
   | true=>rw [cond_true,if_pos ⟨k3,rfl⟩,Z50 hw];rfl
   | false=>rw [cond_false,if_neg (by simp),if_pos k3,Z6s hw];rfl
  rw [show (p.Kind == 3)=false from Xk k3,cond_false,cond_false,cond_false,if_neg (by simp [k3]),if_neg k3,Z4 (x:=a+1) (by omega) (by omega),Z4 (by omega) (by omega),Zpm hw hq]
  rfl
end
def toR (x:Xw):Z7:=⟨x.P,x.Segment,x.At⟩
def Yau (x:Xw×Int):Z7×Int:=(toR x.1,x.2)
theorem Zvl {l:List (List Int)} (hw:WS l) (s a:Int):Jw l s a=some (inB l s a 1):=by
 have hl:=Zmp hw s
 unfold Jw inB
 by_cases h1:0≤s
 ·by_cases h2:s < (l.length:Int)
  ·by_cases h3:0≤a
   ·rw [(Zfi h1 h2).1]
    simp only [decide_eq_true h1,decide_eq_true h2,decide_eq_true h3,cond_true,Option.bind_some,Bool.true_and,show decide ((0:Int)≤1)=true from rfl]
    refine congrArg some ?_
    rw [Bool.eq_iff_iff,decide_eq_true_eq,decide_eq_true_eq]
    omega
   rw [decide_eq_true h1,decide_eq_true h2,decide_eq_false h3];rfl
  rw [decide_eq_true h1,decide_eq_false h2];rfl
 rw [decide_eq_false h1];rfl
theorem Z6p {l:List (List Int)} (hw:WS l) {p:Zs} (h:PB p) (hk:p.Kind=1∨p.Kind=2) (s a:Int):Jl l ⟨p,s,a⟩=some (Yau (if inB l s a (pw p)=true then (⟨Z2h p,s,a⟩,0) else (l0,7))):=by
 have hl:=Zmp hw s
 have hp:=Yci h
 unfold Jl
 simp only
 rw [Z6r h hk,Option.bind_some]
 have key:∀ b:Bool,inB l s a (pw p) = !b→(cond b (some ((⟨⟨0,0,0,0,0,0,0,false⟩,0,0⟩:Z7),(7:Int))) (some ((⟨⟨p.Kind,0,p.Data,p.Ptrs,p.Code,p.Count,p.Segment,p.Double⟩,s,a⟩:Z7),0)))=some (Yau (if inB l s a (pw p)=true then (⟨Z2h p,s,a⟩,0) else (l0,7))):=fun b hb=>by
  rw [hb]
  cases b <;> rfl
 have hin:∀ b:Bool,(b=true↔¬ (0≤s∧s < l.length∧0≤a∧0≤pw p∧a+pw p≤(seg l s).length))→inB l s a (pw p) = !b:=fun b hb=>by
  cases hq:inB l s a (pw p) with
  | true =>
   have:=inB_iff.1 hq
   cases b with
   | false=>rfl
   | true=>exact absurd this (hb.1 rfl)
  | false =>
   cases b with
   | true=>rfl
   | false =>
    have h2:¬ ¬ (0≤s∧s < l.length∧0≤a∧0≤pw p∧a+pw p≤(seg l s).length):=fun q=>by have:=hb.2 q;cases this
    have h3:=inB_iff.2 (Classical.not_not.1 h2)
    rw [hq] at h3
    cases h3
 by_cases h1:s < 0
 ·rw [decide_eq_true h1,cond_true,Option.bind_some]
  exact key true (hin true ⟨fun _=>by omega,fun _=>rfl⟩)
 rw [decide_eq_false h1,cond_false]
 by_cases h2:(l.length:Int)≤s
 ·rw [decide_eq_true h2,cond_true,Option.bind_some]
  exact key true (hin true ⟨fun _=>by omega,fun _=>rfl⟩)
 rw [decide_eq_false h2,cond_false]
 by_cases h3:a < 0
 ·rw [decide_eq_true h3,cond_true,Option.bind_some]
  exact key true (hin true ⟨fun _=>by omega,fun _=>rfl⟩)
 rw [decide_eq_false h3,cond_false,(Zfi (by omega) (by omega)).1,Option.bind_some]
 by_cases h4:((seg l s).length:Int) < a
 ·rw [decide_eq_true h4,cond_true,Option.bind_some]
  exact key true (hin true ⟨fun _=>by omega,fun _=>rfl⟩)
 rw [decide_eq_false h4,cond_false,cond_false,cond_false,cond_false,cond_false,Option.bind_some,Z4 (by omega) (by omega)]
 exact key _ (hin _ (by rw [decide_eq_true_eq];omega))
theorem Zyh {p:Zs}:Jk p=some (if p.Kind=4 then 9 else if p.Kind=1∨p.Kind=2 then 0 else 8):=by
 unfold Jk
 by_cases k4:p.Kind=4
 ·rw [show (p.Kind == 4)=true from by rw [k4];rfl,if_pos k4];rfl
 rw [show (p.Kind == 4)=false from Xk k4,cond_false,if_neg k4]
 by_cases k1:p.Kind=1
 ·rw [show (p.Kind != 1)=false from by rw [k1];rfl,if_pos (.inl k1)];rfl
 rw [show (p.Kind != 1)=true from bne_iff_ne.2 k1,cond_true]
 by_cases k2:p.Kind=2
 ·rw [show (p.Kind != 2)=false from by rw [k2];rfl,if_pos (.inr k2)];rfl
 rw [show (p.Kind != 2)=true from bne_iff_ne.2 k2,if_neg (by omega)];rfl
theorem Z00 {l:List (List Int)} (hw:WS l) {p:Zs} (h:PB p) (s a:Int) {k:Int→Option (Z7×Int)} (hk:k=fun y=>cond (y != 0) (some ((⟨⟨0,0,0,0,0,0,0,false⟩,0,0⟩:Z7),y)) ((Jl l ⟨p,s,a⟩).bind fun y=>some (y.1,y.2))):(Jk p).bind k=some (Yau (tgt l p s a)):=by
 subst hk
 rw [Zyh,Option.bind_some]
 unfold tgt
 by_cases k4:p.Kind=4
 ·rw [if_pos k4,if_pos k4];rfl
 rw [if_neg k4,if_neg k4]
 by_cases k:p.Kind=1∨p.Kind=2
 ·rw [if_pos k,if_pos k,show ((0:Int) != 0)=false from rfl,cond_false,Z6p hw h k,Option.bind_some]
 rw [if_neg k,if_neg k];rfl
theorem Z8f (p:Zs):(⟨p.Kind,p.Off,p.Data,p.Ptrs,p.Code,p.Count,p.Segment,p.Double⟩:Zs)=p:=by cases p;rfl
theorem Ydd {l:List (List Int)} {s a:Int} (h0:0≤a):inB l s a 2=(inB l s a 1 && inB l s (a+1) 1):=by
 rw [Bool.eq_iff_iff,Bool.and_eq_true,inB_iff,inB_iff,inB_iff]
 omega
theorem Z3y {l:List (List Int)} (hw:WS l) (s a:Int):Kl l s a=some (Yau (fol l s a)):=by
 unfold Kl fol
 rw [Zvl hw,Option.bind_some]
 cases h:inB l s a 1 with
 | false=>rfl
 | true =>
  have h':=inB_iff.1 h
  have ha:=Z4g hw h
  have hq:=Zna (wd l s a)
  simp only [if_true,Bool.not_true,cond_false]
  rw [(Zfi h'.1 h'.2.1).1,Option.bind_some,(Zuh h).1,Option.bind_some,Zws (Zmz hw _ _),Option.bind_some]
  revert hq
  generalize dc (wd l s a)=p
  intro hq
  have ho:=hq.o
  by_cases k0:p.Kind=0
  ·rw [show (p.Kind == 0)=true from by rw [k0];rfl,cond_true,if_pos k0];rfl
  rw [show (p.Kind == 0)=false from Xk k0,cond_false,if_neg k0]
  by_cases k3:p.Kind=3
  ·have hf:=hq.f k3
   rw [show (p.Kind == 3)=true from by rw [k3];rfl,cond_true,cond_true,if_pos k3]
   cases hd:p.Double with
   | true =>
    rw [cond_true,if_pos ⟨k3,rfl⟩,Zvl hw,Option.bind_some,Z4 (by omega) (by omega),Zvl hw]
    have h2:=Ydd (l:=l) (s:=p.Segment) hf
    cases b1:inB l p.Segment p.Off 1 with
    | false =>
     rw [h2,b1]
     rfl
    | true =>
     rw [cond_true,Option.bind_some,Option.bind_some,Bool.not_true,cond_false,h2,b1,Bool.true_and]
     cases b2:inB l p.Segment (p.Off+1) 1 with
     | false=>rfl
     | true =>
      have b1':=inB_iff.1 b1
      rw [Bool.not_true,cond_false,(Zfi b1'.1 b1'.2.1).1,Option.bind_some,(Zuh b1).1,Option.bind_some,Zws (Zmz hw _ _),Option.bind_some,(Zuh b2).1,Option.bind_some,Zws (Zmz hw _ _),Option.bind_some]
      simp only [if_true]
      generalize dc (wd l p.Segment p.Off)=b
      have hq2:=Zna (wd l p.Segment (p.Off+1))
      revert hq2
      generalize dc (wd l p.Segment (p.Off+1))=q
      intro hq2
      by_cases b3:b.Kind=3
      ·rw [show (b.Kind != 3)=false from by rw [b3];rfl,cond_false]
       cases bd:b.Double with
       | true=>rw [cond_true,if_neg (by simp)];rfl
       | false =>
        rw [cond_false,if_pos ⟨b3,rfl⟩]
        by_cases ho':q.Off=0
        ·rw [if_neg (by simp [ho'])]
         refine Z00 hw hq2 b.Segment b.Off ?_
         funext y
         rw [show (q.Off != 0)=false from by rw [ho'];rfl]
         cases (y == 0) <;> rfl
        rw [Zyh,Option.bind_some,show (q.Off != 0)=true from bne_iff_ne.2 ho']
        by_cases hq4:q.Kind=4
        ·exact absurd (hq2.z (.inr hq4)) ho'
        by_cases hk:q.Kind=1∨q.Kind=2
        ·rw [if_neg hq4,if_pos hk,if_pos ⟨hq4,ho'⟩];rfl
        rw [if_neg hq4,if_neg hk,if_pos ⟨hq4,ho'⟩];rfl
      rw [show (b.Kind != 3)=true from bne_iff_ne.2 b3,cond_true,cond_true,if_neg (by simp [b3])]
      rfl
   | false =>
    rw [cond_false,if_neg (by simp),Zvl hw,Option.bind_some]
    cases b1:inB l p.Segment p.Off 1 with
    | false=>rfl
    | true =>
     have b1':=inB_iff.1 b1
     rw [Bool.not_true,cond_false,(Zfi b1'.1 b1'.2.1).1,Option.bind_some,(Zuh b1).1,Option.bind_some,Zws (Zmz hw _ _),Option.bind_some,Option.bind_some]
     have hq2:=Zna (wd l p.Segment p.Off)
     have ho2:=hq2.o
     have ha2:=Z4g hw b1
     simp only [Z8f]
     rw [Z4 (x:=p.Off+1) (by omega) (by omega),Z4 (by omega) (by omega)]
     exact Z00 hw hq2 _ _ rfl
  rw [show (p.Kind == 3)=false from Xk k3,cond_false,cond_false,cond_false,if_neg (by simp [k3]),if_neg k3,Option.bind_some]
  simp only [Z8f]
  rw [Z4 (x:=a+1) (by omega) (by omega),Z4 (by omega) (by omega)]
  exact Z00 hw hq _ _ rfl
theorem Yb0 (l:List Int) (h:∀ w∈l,0≤w∧w < 18446744073709551616) (hl:l.length * 8≤140737488355328):WS [l] :=
 ⟨by simp,fun x hx=>by rw [List.mem_singleton] at hx;subst hx;exact hl,fun x hx=>by rw [List.mem_singleton] at hx;subst hx;exact h⟩
theorem Ybz {l:List (List Int)} {p:Zs} (h:PB p) {s a:Int}:((tgt l p s a).2≠0∧(tgt l p s a).1=l0)∨((tgt l p s a).2=0∧(p.Kind=1∨p.Kind=2)∧(tgt l p s a).1=⟨Z2h p,s,a⟩∧inB l s a (pw p)=true):=by
 unfold tgt
 by_cases k4:p.Kind=4
 ·rw [if_pos k4];exact .inl ⟨by simp,rfl⟩
 rw [if_neg k4]
 by_cases k:p.Kind=1∨p.Kind=2
 ·rw [if_pos k]
  by_cases hi:inB l s a (pw p)=true
  ·rw [if_pos hi];exact .inr ⟨rfl,k,rfl,hi⟩
  rw [if_neg hi];exact .inl ⟨by simp,rfl⟩
 rw [if_neg k];exact .inl ⟨by simp,rfl⟩
theorem Yad {p:Zs} (h:PB p):PB (Z2h p):=⟨h.k,by simp [Z2h],h.d,h.q,h.c,h.n,h.s,fun _=>by simp [Z2h],fun _=>rfl⟩
theorem Ybm (l:List (List Int)) (s a:Int):((fol l s a).1=l0)∨((fol l s a).2=0∧∃ p s' a',PB p∧p.Off=0∧(p.Kind=1∨p.Kind=2)∧(fol l s a).1=⟨p,s',a'⟩∧inB l s' a' (pw p)=true):=by
 have key:∀ (w s a:Int),((tgt l (dc w) s a).1=l0)∨((tgt l (dc w) s a).2=0∧∃ p s' a',PB p∧p.Off=0∧(p.Kind=1∨p.Kind=2)∧(tgt l (dc w) s a).1=⟨p,s',a'⟩∧inB l s' a' (pw p)=true):=fun w s a=>by
  rcases Ybz (l:=l) (Zna w) (s:=s) (a:=a) with h | ⟨h1,h2,h3,h4⟩
  ·exact .inl h.2
  exact .inr ⟨h1,Z2h (dc w),s,a,Yad (Zna w),rfl,h2,h3,h4⟩
 unfold fol
 by_cases h:inB l s a 1=true
 ·rw [if_pos h]
  simp only
  split
  ·exact .inl rfl
  split
  ·split
   ·split
    ·split
     ·exact .inl rfl
     exact key _ _ _
    exact .inl rfl
   exact .inl rfl
  split
  ·split
   ·exact key _ _ _
   exact .inl rfl
  exact key _ _ _
 rw [if_neg h];exact .inl rfl
def r0:Za:=⟨none,0,0,0,0,0,0,0,0⟩
def Yx (r:Za):Int:=if r.kind=1 then r.ptrs else r.count
def atR (A:Zj) (s a:Int):Za×Int :=
 let x:=fol A.segments s a
 if x.2≠0∨x.1.P.Kind=0 then (r0,x.2)
 else if x.1.P.Kind=1 then (⟨some A,1,x.1.Segment,x.1.At,x.1.P.Data,x.1.P.Ptrs,0,0,0⟩,0)
 else if x.1.P.Code=7 then
  let t:=dc (wd A.segments x.1.Segment x.1.At)
  if (t.Kind≠0∧t.Kind≠1)∨t.Off < 0∨x.1.P.Count < t.Off * (t.Data+t.Ptrs) then (r0,8)
  else (⟨some A,9,x.1.Segment,x.1.At,t.Data,t.Ptrs,t.Off,0,0⟩,0)
 else (⟨some A,x.1.P.Code+2,x.1.Segment,x.1.At,0,0,x.1.P.Count,0,0⟩,0)
inductive OKr (A:Zj):Za→Prop
 | z:OKr A r0
 | st (s a d p:Int) (hd:0≤d∧d < 65536) (hp:0≤p∧p < 65536) (hi:inB A.segments s a (d+p)=true):OKr A ⟨some A,1,s,a,d,p,0,0,0⟩
 | li (k s a n:Int) (hk:2≤k∧k≤8) (hn:0≤n∧n < 536870912) (hi:inB A.segments s a ((n * wdt (k - 2)+63) / 64)=true):OKr A ⟨some A,k,s,a,0,0,n,0,0⟩
 | co (s a d p n:Int) (hd:0≤d∧d < 65536) (hp:0≤p∧p < 65536) (hn:0≤n∧n < 536870912) (hw:0≤n * (d+p)∧n * (d+p) < 536870912) (hi:inB A.segments s a (n * (d+p)+1)=true):OKr A ⟨some A,9,s,a,d,p,n,0,0⟩
 | at_ (s a c i n:Int) (hc:0≤c∧c≤5) (h0:0≤i) (h1:i < n) (hn:n < 536870912) (hi:inB A.segments s a ((n * wdt c+63) / 64)=true):OKr A ⟨some A,10,s,a,0,0,0,c,i⟩
theorem Z7t {A:Zj} {r:Za} (h:OKr A r):0≤r.kind∧r.kind≤10:=by cases h <;> simp [r0] <;> omega
theorem Znb (l:List (List Int)) (s a:Int):((fol l s a).2≠0∨(fol l s a).1.P.Kind=0)∨((fol l s a).2=0∧PB (fol l s a).1.P∧((fol l s a).1.P.Kind=1∨(fol l s a).1.P.Kind=2)∧inB l (fol l s a).1.Segment (fol l s a).1.At (pw (fol l s a).1.P)=true):=by
 rcases Ybm l s a with h | ⟨h1,p,s',a',hp,ho,hk,h,hi⟩
 ·rw [h];exact .inl (.inr rfl)
 rw [h];exact .inr ⟨h1,hp,hk,hi⟩
section
variable {A:Zj}
theorem Z36 (w:Int):0≤(dc w).Data∧(dc w).Data < 65536∧0≤(dc w).Ptrs∧(dc w).Ptrs < 65536∧(dc w).Off < 536870912:=by
 have h:=Zna w
 exact ⟨h.d.1,h.d.2,h.q.1,h.q.2,h.o.2⟩
theorem Z78 {n x:Int} (h0:-536870912≤n∧n < 536870912) (h1:0≤x∧x≤131070):-70368744177664≤n * x∧n * x≤70368744177664:=by
 constructor
 ·have:-536870912 * 131070≤n * x:=by
   rcases Int.le_total 0 n with h | h
   ·have:=Int.mul_nonneg h h1.1;omega
   have h2:n * 131070≤n * x:=Int.mul_le_mul_of_nonpos_left h h1.2
   have h3:-536870912 * 131070≤n * 131070:=Int.mul_le_mul_of_nonneg_right h0.1 (by omega)
   omega
  omega
 rcases Int.le_total 0 n with h | h
 ·have h2:n * x≤n * 131070:=Int.mul_le_mul_of_nonneg_left h1.2 h
  have h3:n * 131070≤536870912 * 131070:=Int.mul_le_mul_of_nonneg_right (by omega) (by omega)
  omega
 have:=Int.mul_nonpos_of_nonpos_of_nonneg h h1.1
 omega
theorem Zm7 (s a:Int):OKr A (atR A s a).1:=by
 unfold atR
 rcases Znb A.segments s a with h | ⟨h1,hp,hk,hi⟩
 ·rw [if_pos h];exact .z
 rw [if_neg (by omega)]
 generalize (fol A.segments s a).1=x at *
 by_cases k1:x.P.Kind=1
 ·rw [if_pos k1]
  have:pw x.P=x.P.Data+x.P.Ptrs:=by unfold pw;rw [if_pos k1]
  rw [this] at hi
  exact .st _ _ _ _ hp.d hp.q hi
 rw [if_neg k1]
 have k2:x.P.Kind=2:=by omega
 by_cases c7':x.P.Code=7
 ·rw [if_pos c7']
  have hpw:pw x.P=x.P.Count+1:=by unfold pw;rw [if_neg k1,if_pos c7']
  rw [hpw] at hi
  have ht:=Z36 (wd A.segments x.Segment x.At)
  simp only
  generalize dc (wd A.segments x.Segment x.At)=t at *
  split
  ·exact .z
  rename_i hc
  have hn:=hp.n
  have h0:0≤t.Off * (t.Data+t.Ptrs):=Int.mul_nonneg (by omega) (by omega)
  have hi':=inB_iff.1 hi
  exact .co _ _ _ _ _ (by omega) (by omega) (by omega) (by omega) (inB_iff.2 ⟨hi'.1,hi'.2.1,hi'.2.2.1,by omega,by omega⟩)
 rw [if_neg c7']
 have hpw:pw x.P=(x.P.Count * wdt x.P.Code+63) / 64:=by unfold pw;rw [if_neg k1,if_neg c7']
 rw [hpw] at hi
 have hc:=hp.c
 exact .li _ _ _ _ (by omega) hp.n (by rw [show x.P.Code+2 - 2=x.P.Code by omega];exact hi)
theorem Z7c (hw:WS A.segments) (s a:Int):Zc6 (some A) s a=some (atR A s a):=by
 unfold Zc6 atR
 rw [Z52 hw,Option.bind_some]
 simp only
 rcases Znb A.segments s a with h | ⟨h1,hp,hk,hi⟩
 ·rw [if_pos h]
  have:cond ((fol A.segments s a).2 != 0) true ((fol A.segments s a).1.P.Kind == 0)=true:=by
   rcases h with h | h
   ·rw [bne_iff_ne.2 h];rfl
   rw [show ((fol A.segments s a).1.P.Kind == 0)=true from by rw [h];rfl]
   cases ((fol A.segments s a).2 != 0) <;> rfl
  rw [this,cond_true];rfl
 rw [if_neg (by omega),h1,show ((0:Int) != 0)=false from rfl,cond_false]
 generalize (fol A.segments s a).1=x at *
 rw [show (x.P.Kind == 0)=false from Xk (by omega),cond_false]
 by_cases k1:x.P.Kind=1
 ·rw [if_pos k1,show (x.P.Kind == 1)=true from by rw [k1];rfl,cond_true]
 rw [if_neg k1,show (x.P.Kind == 1)=false from Xk k1,cond_false]
 have hc:=hp.c
 by_cases c7':x.P.Code=7
 ·rw [if_pos c7',show (x.P.Code == 7)=true from by rw [c7'];rfl,cond_true]
  have hpw:pw x.P=x.P.Count+1:=by unfold pw;rw [if_neg k1,if_pos c7']
  rw [hpw] at hi
  have hn:=hp.n
  have hi':=inB_iff.1 hi
  have hi1:inB A.segments x.Segment x.At 1=true:=inB_iff.2 ⟨hi'.1,hi'.2.1,hi'.2.2.1,by omega,by omega⟩
  unfold Zbw
  simp only
  rw [Zr1 hw,if_pos hi1,Option.bind_some,Z1m (Zmz hw _ _),Option.bind_some]
  have ht:=Z36 (wd A.segments x.Segment x.At)
  have ho:=(Zna (wd A.segments x.Segment x.At)).o
  generalize dc (wd A.segments x.Segment x.At)=t at *
  have hm:=Z78 (n:=t.Off) (x:=t.Data+t.Ptrs) ho (by omega)
  rw [Z4 (x:=t.Data+t.Ptrs) (by omega) (by omega),Z4 (x:=t.Off * (t.Data+t.Ptrs)) (by omega) (by omega),Z4 (x:=x.P.Code+2) (by omega) (by omega),c7']
  by_cases hq:(t.Kind≠0∧t.Kind≠1)∨t.Off < 0∨x.P.Count < t.Off * (t.Data+t.Ptrs)
  ·rw [if_pos hq]
   have:cond (cond (cond (t.Kind != 0) (t.Kind != 1) false) true (decide (t.Off < 0))) true (decide (x.P.Count < t.Off * (t.Data+t.Ptrs)))=true:=by
    rcases hq with ⟨q1,q2⟩ | q | q
    ·rw [bne_iff_ne.2 q1,bne_iff_ne.2 q2];rfl
    ·rw [decide_eq_true q];cases (cond (t.Kind != 0) (t.Kind != 1) false) <;> rfl
    rw [decide_eq_true q];cases (cond (cond (t.Kind != 0) (t.Kind != 1) false) true (decide (t.Off < 0))) <;> rfl
   rw [this,cond_true];rfl
  rw [if_neg hq]
  have e1:cond (t.Kind != 0) (t.Kind != 1) false=false:=by
   by_cases q0:t.Kind=0
   ·rw [show (t.Kind != 0)=false from by rw [q0];rfl];rfl
   have q1:t.Kind=1:=by omega
   rw [show (t.Kind != 1)=false from by rw [q1];rfl]
   cases (t.Kind != 0) <;> rfl
  rw [e1,cond_false,show decide (t.Off < 0)=false from by rw [decide_eq_false_iff_not];omega,cond_false,show decide (x.P.Count < t.Off * (t.Data+t.Ptrs))=false from by rw [decide_eq_false_iff_not];omega]
  rfl
 rw [if_neg c7',show (x.P.Code == 7)=false from Xk c7',cond_false,Z4 (x:=x.P.Code+2) (by omega) (by omega)]
theorem Zb6 (r:Za):Yf r=some (Yx r):=by
 unfold Yf Yx
 by_cases h:r.kind=1
 ·rw [if_pos h,show (r.kind == 1)=true from by rw [h];rfl];rfl
 rw [if_neg h,show (r.kind == 1)=false from Xk h];rfl
def Yv (A:Zj) (r:Za) (i:Int):Za×Int :=
 if i < 0∨Yx r≤i then (r0,0)
 else if r.kind=1 then atR A r.segment (r.at_+r.words+i)
 else if r.kind=8 then atR A r.segment (r.at_+i)
 else if r.kind=9 then (⟨some A,1,r.segment,r.at_+1+i * (r.words+r.ptrs),r.words,r.ptrs,0,0,0⟩,0)
 else (⟨some A,10,r.segment,r.at_,0,0,0,r.kind - 2,i⟩,0)
theorem Zax {r:Za} (h:OKr A r) (i:Int):OKr A (Yv A r i).1:=by
 unfold Yv
 by_cases hi:i < 0∨Yx r≤i
 ·rw [if_pos hi];exact .z
 rw [if_neg hi]
 by_cases k1:r.kind=1
 ·rw [if_pos k1];exact Zm7 _ _
 rw [if_neg k1]
 by_cases k8:r.kind=8
 ·rw [if_pos k8];exact Zm7 _ _
 rw [if_neg k8]
 by_cases k9:r.kind=9
 ·rw [if_pos k9]
  cases h with
  | z=>simp [r0] at k9
  | st _ _ _ _=>simp at k1
  | li k s a n hk=>simp only at k9;omega
  | at_=>simp at k9
  | co s a d p n hd hp hn hw hin =>
   simp only
   have hi':=inB_iff.1 hin
   simp only [Yx] at hi
   rw [if_neg (by omega)] at hi
   have h1:0≤i * (d+p):=Int.mul_nonneg (by omega) (by omega)
   have h2:(i+1) * (d+p)≤n * (d+p):=Int.mul_le_mul_of_nonneg_right (by omega) (by omega)
   rw [Int.add_mul,Int.one_mul] at h2
   exact .st _ _ _ _ hd hp (inB_iff.2 ⟨hi'.1,hi'.2.1,by omega,by omega,by omega⟩)
 rw [if_neg k9]
 cases h with
 | z=>simp [r0,Yx] at hi;omega
 | st _ _ _ _=>simp at k1
 | co=>simp at k9
 | at_=>simp [Yx] at hi;omega
 | li k s a n hk hn hin =>
  simp only at k8 k9 ⊢
  simp only [Yx] at hi
  rw [if_neg (by omega)] at hi
  exact .at_ _ _ _ _ n (by omega) (by omega) (by omega) (by omega) hin
theorem Zsh (hw:WS A.segments) {s a n:Int} (h:inB A.segments s a n=true):0≤a∧0≤n∧a+n≤17592186044416:=by
 have h':=inB_iff.1 h
 have:=Zmp hw s
 omega
theorem Zni (hw:WS A.segments) {r:Za} (h:OKr A r) (i:Int):Xo r i=some (Yv A r i):=by
 unfold Xo Yv
 rw [Zb6]
 have hz:(cond (decide (i < 0)) (some true) ((some (Yx r)).bind fun y4=>some (cond (decide (i < 0)) true (decide (y4≤i)))))=some (decide (i < 0∨Yx r≤i)):=by
  by_cases h0:i < 0
  ·rw [decide_eq_true h0,cond_true,show decide (i < 0∨Yx r≤i)=true from decide_eq_true (.inl h0)]
  rw [decide_eq_false h0,cond_false,Option.bind_some,cond_false]
  congr 1
  rw [decide_eq_decide]
  omega
 rw [hz,Option.bind_some]
 by_cases hi:i < 0∨Yx r≤i
 ·rw [if_pos hi,decide_eq_true hi];rfl
 rw [if_neg hi,decide_eq_false hi,cond_false]
 cases h with
 | z=>exact absurd hi (by first | (simp [Yx,r0];done) | (simp [Yx,r0];omega))
 | at_=>exact absurd hi (by first | (simp [Yx];done) | (simp [Yx];omega))
 | st s a d p hd hp hin =>
  have:=Zsh hw hin
  simp only [Yx,if_true] at hi
  simp only [beq_self_eq_true,cond_true,if_true]
  rw [Z4 (x:=a+d) (by omega) (by omega),Z4 (by omega) (by omega),Z7c hw]
  rfl
 | co s a d p n hd hp hn hwx hin =>
  have:=Zsh hw hin
  simp only [Yx] at hi
  rw [if_neg (by omega)] at hi
  simp only [show ((9:Int) == 1)=false from rfl,show ((9:Int) == 8)=false from rfl,show ((9:Int) == 9)=true from rfl,cond_true,cond_false,show ¬ (9:Int)=1 from by decide,show ¬ (9:Int)=8 from by decide,if_false,if_true]
  have h1:0≤i * (d+p):=Int.mul_nonneg (by omega) (by omega)
  have h2:(i+1) * (d+p)≤n * (d+p):=Int.mul_le_mul_of_nonneg_right (by omega) (by omega)
  rw [Int.add_mul,Int.one_mul] at h2
  rw [Z4 (x:=a+1) (by omega) (by omega),Z4 (x:=d+p) (by omega) (by omega),Z4 (x:=i * (d+p)) (by omega) (by omega),Z4 (by omega) (by omega)]
 | li k s a n hk hn hin =>
  have:=Zsh hw hin
  simp only [Yx] at hi
  rw [if_neg (by omega)] at hi
  simp only
  rw [show (k == 1)=false from Xk (by omega),cond_false,if_neg (by omega),show (k == 9)=false from Xk (by omega)]
  by_cases k8:k=8
  ·have hp:(n * wdt (k - 2)+63) / 64=n:=by rw [k8];simp [wdt];omega
   rw [show (k == 8)=true from by rw [k8];rfl,cond_true,if_pos k8,Z4 (by omega) (by omega),Z7c hw]
   rfl
  rw [show (k == 8)=false from Xk k8,cond_false,cond_false,if_neg k8,if_neg (by omega),Z4 (by omega) (by omega)]
def Zfl (r:Za):Int:=if r.kind=1 then r.words else if r.kind=10 then 1 else 0
theorem Zyc (r:Za):Vh r=some (Zfl r):=by
 unfold Vh Zfl
 by_cases h:r.kind=1
 ·rw [if_pos h,show (r.kind == 1)=true from by rw [h];rfl];rfl
 rw [if_neg h,show (r.kind == 1)=false from Xk h]
 by_cases h':r.kind=10
 ·rw [if_pos h',show (r.kind == 10)=true from by rw [h'];rfl];rfl
 rw [if_neg h',show (r.kind == 10)=false from Xk h'];rfl
def Z0p (w:Int) (c j:Int):Int:=((w.toNat / 2 ^ (j * wdt c).toNat % 2 ^ (wdt c).toNat:Nat):Int)
def each (c:Int):Int:=64 / wdt c
def Zxk (A:Zj) (r:Za):Int:=if r.code=0 then 0 else Z0p (wd A.segments r.segment (r.at_+r.index / each r.code)) r.code (r.index % each r.code)
theorem c5 {c:Int} (h:0≤c∧c≤5):c=0∨c=1∨c=2∨c=3∨c=4∨c=5:=by omega
theorem Zzn {c:Int} (h:0≤c∧c≤5):Q3 c=some (wdt c,true):=by
 unfold Q3
 rcases c5 h with rfl | rfl | rfl | rfl | rfl | rfl <;> rfl
theorem Z6a (w:Nat) (k:Nat) (hw:w < 18446744073709551616) (hk:k≤64):IntKind.u64.wrap (Zc1 .u64 (w:Int) (IntKind.u64.wrap (IntKind.u64.wrap (1 * 2 ^ min (Int.toNat (k:Int)) 64) - 1)))=((w % 2 ^ k:Nat):Int):=by
 have hm:IntKind.u64.wrap (IntKind.u64.wrap (1 * 2 ^ min (Int.toNat (k:Int)) 64) - 1)=((2 ^ k - 1:Nat):Int):=by
  rw [Int.toNat_natCast,Nat.min_eq_left hk,Z0o]
  rcases Nat.lt_or_ge k 64 with h | h
  ·have h1:2 ^ k≤2 ^ 63:=Nat.pow_le_pow_right (by decide) (by omega)
   have h2:0 < 2 ^ k:=Nat.pow_pos (by decide)
   rw [Int.one_mul,Z21 (2 ^ k) (by omega),show (((2 ^ k:Nat):Int) - 1)=((2 ^ k - 1:Nat):Int) by omega,Z21 _ (by omega)]
  have:k=64:=by omega
  subst this
  decide
 rw [hm]
 have e:Zc1 .u64 (w:Int) ((2 ^ k - 1:Nat):Int)=((w &&& (2 ^ k - 1):Nat):Int):=by
  unfold Zc1
  congr 1
  have h1:2 ^ k≤2 ^ 64:=Nat.pow_le_pow_right (by decide) hk
  have h2:0 < 2 ^ k:=Nat.pow_pos (by decide)
  rw [BitVec.toNat_and]
  have e1:(BitVec.ofInt (IntKind.u64).bits (w:Int)).toNat=w:=by
   show (BitVec.ofInt 64 (w:Int)).toNat=w
   rw [BitVec.ofInt_natCast,BitVec.toNat_ofNat]
   exact Nat.mod_eq_of_lt (by omega)
  have e2:(BitVec.ofInt (IntKind.u64).bits ((2 ^ k - 1:Nat):Int)).toNat=2 ^ k - 1:=by
   show (BitVec.ofInt 64 ((2 ^ k - 1:Nat):Int)).toNat=2 ^ k - 1
   rw [BitVec.ofInt_natCast,BitVec.toNat_ofNat]
   exact Nat.mod_eq_of_lt (by omega)
  rw [e1,e2]
 rw [e,Nat.and_two_pow_sub_one_eq_mod]
 have:w % 2 ^ k≤w:=Nat.mod_le _ _
 exact IntWalk.u64_in _ (by omega)
theorem Yay {w c j:Int} (hw:0≤w∧w < 18446744073709551616) (hc:1≤c∧c≤5) (hj:0≤j∧j < each c):Ziy [w] c j=some (Z0p w c j):=by
 unfold Ziy Z0p
 rw [Zzn (by omega),Option.bind_some]
 simp only
 obtain ⟨d,e,hd⟩:∃ d:Nat,wdt c=(d:Int)∧(d=1∨d=8∨d=16∨d=32∨d=64):=by
  rcases c5 (c:=c) (by omega) with rfl | rfl | rfl | rfl | rfl | rfl
  ·omega
  ·exact ⟨1,rfl,by omega⟩
  ·exact ⟨8,rfl,by omega⟩
  ·exact ⟨16,rfl,by omega⟩
  ·exact ⟨32,rfl,by omega⟩
  exact ⟨64,rfl,by omega⟩
 have he:each c=((64 / d:Nat):Int):=by unfold each;rw [e];rfl
 have hdd:64 / d * d=64:=by rcases hd with rfl | rfl | rfl | rfl | rfl <;> rfl
 have hdp:1≤d∧d≤64:=by omega
 have hep:1≤64 / d∧64 / d≤64:=by rcases hd with rfl | rfl | rfl | rfl | rfl <;> decide
 rw [he] at hj
 obtain ⟨q,rfl⟩:∃ q:Nat,j=q:=⟨j.toNat,by omega⟩
 have hq:q < 64 / d:=by omega
 have hqd:q * d+d≤64:=by
  have:(q+1) * d≤64 / d * d:=Nat.mul_le_mul_right d hq
  rw [Nat.add_mul] at this
  omega
 rw [e]
 have t1:Int.tdiv 64 (d:Int)=((64 / d:Nat):Int):=by rw [Int.tdiv_eq_ediv_of_nonneg (by decide)];rfl
 have t2:Int.tdiv (q:Int) ((64 / d:Nat):Int)=0:=by
  rw [Int.tdiv_eq_ediv_of_nonneg (by omega),show ((q:Int) / ((64 / d:Nat):Int))=((q / (64 / d):Nat):Int) from rfl,Nat.div_eq_of_lt hq]
  rfl
 have t3:Int.tmod (q:Int) ((64 / d:Nat):Int)=(q:Int):=by
  rw [Int.tmod_eq_emod_of_nonneg (by omega),show ((q:Int) % ((64 / d:Nat):Int))=((q % (64 / d):Nat):Int) from rfl,Nat.mod_eq_of_lt hq]
 rw [t1,Z4 (x:=((64 / d:Nat):Int)) (by omega) (by omega),t2,t3,show IntKind.i64.wrap 0=0 from by decide]
 have t4:((q:Int) * (d:Int))=((q * d:Nat):Int):=by simp
 rw [t4,Z4 (x:=((q * d:Nat):Int)) (by omega) (by omega),show (((d:Nat):Int) == 0)=false from Xk (by omega),show decide ((q:Int) < 0)=false from by rw [decide_eq_false_iff_not];omega]
 simp only [cond_false]
 have g0:Y2 [w] 0=some w:=rfl
 have e1:Xe ((d:Int)≠0)=some ():=Jv (by omega)
 have e2:Xe (((64 / d:Nat):Int)≠0)=some ():=Jv (by omega)
 have e3:Xe (0≤((q * d:Nat):Int))=some ():=Jv (by omega)
 have e4:Xe (0≤(d:Int))=some ():=Jv (by omega)
 simp only [e1,e2,e3,e4,g0,Option.bind_some,cond_false,show decide ((([w]:List Int).length:Int)≤0)=false from rfl]
 congr 1
 have hwn:w=((w.toNat:Nat):Int):=by omega
 have hf:Int.fdiv w (2 ^ min (Int.toNat ((q * d:Nat):Int)) 64)=((w.toNat / 2 ^ (q * d):Nat):Int):=by
  rw [Int.toNat_natCast,Nat.min_eq_left (by omega),Z0o,Int.fdiv_eq_ediv_of_nonneg _ (Int.natCast_nonneg _)]
  conv=>lhs;rw [hwn]
  rfl
 rw [hf,Z6a _ d (Nat.lt_of_le_of_lt (Nat.div_le_self _ _) (by omega)) (by omega)]
 rw [Int.toNat_natCast,Int.toNat_natCast]
end
section
variable {A:Zj}
def Zxb (A:Zj) (r:Za) (i:Int):Int :=
 if i < 0∨Zfl r≤i then 0 else if r.kind=10 then Zxk A r else wd A.segments r.segment (r.at_+i)
theorem Z4i {c i n:Int} (hc:1≤c∧c≤5) (h0:0≤i) (h1:i < n) (hn:n < 536870912):1≤each c∧each c≤64∧0≤i / each c∧i / each c+1≤(n * wdt c+63) / 64∧0≤i % each c∧i % each c < each c∧Int.tdiv 64 (wdt c)=each c∧wdt c≠0:=by
 rcases c5 (c:=c) (by omega) with rfl | rfl | rfl | rfl | rfl | rfl
 ·omega
 ·have e1:each 1=64:=by decide
  have e2:wdt 1=1:=by decide
  rw [e1,e2];exact ⟨by omega,by omega,by omega,by omega,by omega,by omega,by decide,by decide⟩
 ·have e1:each 2=8:=by decide
  have e2:wdt 2=8:=by decide
  rw [e1,e2];exact ⟨by omega,by omega,by omega,by omega,by omega,by omega,by decide,by decide⟩
 ·have e1:each 3=4:=by decide
  have e2:wdt 3=16:=by decide
  rw [e1,e2];exact ⟨by omega,by omega,by omega,by omega,by omega,by omega,by decide,by decide⟩
 ·have e1:each 4=2:=by decide
  have e2:wdt 4=32:=by decide
  rw [e1,e2];exact ⟨by omega,by omega,by omega,by omega,by omega,by omega,by decide,by decide⟩
 have e1:each 5=1:=by decide
 have e2:wdt 5=64:=by decide
 rw [e1,e2];exact ⟨by omega,by omega,by omega,by omega,by omega,by omega,by decide,by decide⟩
theorem Z6f (hw:WS A.segments) {s a c i n:Int} (hc:0≤c∧c≤5) (h0:0≤i) (h1:i < n) (hn:n < 536870912) (hi:inB A.segments s a ((n * wdt c+63) / 64)=true):Uq ⟨some A,10,s,a,0,0,0,c,i⟩=some (Zxk A ⟨some A,10,s,a,0,0,0,c,i⟩):=by
 unfold Uq Zxk
 simp only
 rw [Zzn hc,Option.bind_some]
 simp only
 by_cases hz:c=0
 ·subst hz
  rw [show (wdt 0 == 0)=true from by decide,cond_true,if_pos rfl]
 obtain ⟨a1,a2,a3,a4,a5,a6,a7,a8⟩:=Z4i (c:=c) (by omega) h0 h1 hn
 have hr:=Zsh hw hi
 have hi':=inB_iff.1 hi
 have hin:inB A.segments s (a+i / each c) 1=true:=inB_iff.2 ⟨hi'.1,hi'.2.1,by omega,by omega,by omega⟩
 rw [show (wdt c == 0)=false from Xk a8,cond_false,if_neg hz,a7,Z4 (x:=each c) (by omega) (by omega),Int.tdiv_eq_ediv_of_nonneg h0,Int.tmod_eq_emod_of_nonneg h0,Z4 (x:=i / each c) (by omega) (by omega),Z4 (x:=a+i / each c) (by omega) (by omega)]
 have e1:Xe (wdt c≠0)=some ():=Jv a8
 have e2:Xe (each c≠0)=some ():=Jv (by omega)
 simp only [e1,e2,Option.bind_some]
 rw [Zr1 hw,if_pos hin,Option.bind_some]
 simp only
 rw [Yay (Zmz hw _ _) (by omega) ⟨a5,a6⟩,Option.bind_some]
theorem Zvq (hw:WS A.segments) {r:Za} (h:OKr A r) (i:Int):Q9 r i=some (Zxb A r i):=by
 unfold Q9 Zxb
 rw [Zyc]
 have hz:(cond (decide (i < 0)) (some true) ((some (Zfl r)).bind fun y4=>some (cond (decide (i < 0)) true (decide (y4≤i)))))=some (decide (i < 0∨Zfl r≤i)):=by
  by_cases h0:i < 0
  ·rw [decide_eq_true h0,cond_true,show decide (i < 0∨Zfl r≤i)=true from decide_eq_true (.inl h0)]
  rw [decide_eq_false h0,cond_false,Option.bind_some,cond_false]
  congr 1
  rw [decide_eq_decide]
  omega
 rw [hz,Option.bind_some]
 by_cases hi:i < 0∨Zfl r≤i
 ·rw [if_pos hi,decide_eq_true hi];rfl
 rw [if_neg hi,decide_eq_false hi,cond_false]
 cases h with
 | z=>exact absurd hi (by simp [Zfl,r0];try omega)
 | li k s a n hk hn hin=>exact absurd hi (by simp only [Zfl];rw [if_neg (by omega),if_neg (by omega)];omega)
 | co s a d p n hd hp hn hwx hin=>exact absurd hi (by simp [Zfl];try omega)
 | at_ s a c i' n hc h0 h1 hn hin =>
  simp only [beq_self_eq_true,cond_true,if_true]
  rw [Z6f hw hc h0 h1 hn hin]
  rfl
 | st s a d p hd hp hin =>
  have:=Zsh hw hin
  have hi':=inB_iff.1 hin
  simp only [Zfl,if_true] at hi
  simp only [show ((1:Int) == 10)=false from rfl,cond_false,show ¬ (1:Int)=10 from by decide,if_false]
  rw [Z4 (by omega) (by omega),Zr1 hw,if_pos (inB_iff.2 ⟨hi'.1,hi'.2.1,by omega,by omega,by omega⟩)]
  rfl
theorem Z47 (hw:WS A.segments):Zas (some A)=some (atR A 0 0):=by
 unfold Zas
 rw [Z7c hw]
 rfl
end
abbrev Tr:=Zb
def lvR (r:Za):Int:=if r.kind=0 then 0 else if r.kind=9∧0 < r.count then 2 else 1
def wtR (r:Za):Int:=if r.kind=0 then 0 else if r.kind=1 then 1+r.words+r.ptrs else if r.kind=9 then 1+r.count * (1+r.words+r.ptrs) else 1+r.count
section
variable {A:Zj}
theorem Z9d (hw:WS A.segments) {r:Za} (h:OKr A r):0≤wtR r∧wtR r≤4503599627370496∧(r.kind≠0→1≤wtR r):=by
 cases h with
 | z=>simp [wtR,r0]
 | st s a d p hd hp hin=>simp [wtR];omega
 | li k s a n hk hn hin=>simp only [wtR];rw [if_neg (by omega),if_neg (by omega),if_neg (by omega)];omega
 | co s a d p n hd hp hn hwx hin =>
  simp only [wtR,show ¬ (9:Int)=0 from by decide,show ¬ (9:Int)=1 from by decide,if_false,if_true]
  have:n * (1+d+p)=n+n * (d+p):=by rw [Int.add_assoc,Int.mul_add,Int.mul_one]
  omega
 | at_ s a c i n hc h0 h1 hn hin=>simp [wtR]
def Xf (A:Zj) (r:Za):List Int:=if r.kind=10 then [Zxk A r] else if r.kind=1 then ((seg A.segments r.segment).drop r.at_.toNat).take r.words.toNat else []
def Yw (f:Za→Int→Tr×Int×Int) (g:Int→Za×Int):Nat→Nat→Int→List Tr→List Tr×Int×Int
 | 0,_,left,acc=>(acc,left,0)
 | m+1,i,left,acc=>if (g i).2≠0 then (acc,left,(g i).2) else if (f (g i).1 left).2.2≠0 then (acc,(f (g i).1 left).2.1,(f (g i).1 left).2.2) else Yw f g m (i+1) (f (g i).1 left).2.1 (acc++[(f (g i).1 left).1])
def stK (A:Zj) (f:Za→Int→Tr×Int×Int) (k:Za) (left:Int):Tr×Int×Int :=
 let q:=Yw f (Yv A k) k.ptrs.toNat 0 left []
 (⟨1,Xf A k,q.1⟩,q.2)
def Zus (A:Zj) (k:Za) (left:Int):Tr×Int×Int:=(⟨k.kind,Xf A k,[]⟩,left,0)
def V6 (A:Zj) (f1 f2:Za→Int→Tr×Int×Int) (r:Za):Za→Int→Tr×Int×Int :=
 if r.kind=9 then stK A f2 else if r.kind=1∨r.kind=8 then f1 else Zus A
def Zg4 (A:Zj) (f1 f2:Za→Int→Tr×Int×Int) (d:Int) (r:Za) (left:Int):Tr×Int×Int :=
 if r.kind=0 then (⟨r.kind,Xf A r,[]⟩,left,0)
 else if d < lvR r∨left < wtR r then (⟨r.kind,Xf A r,[]⟩,left,3)
 else
  let q:=Yw (V6 A f1 f2 r) (Yv A r) (Yx r).toNat 0 (left - wtR r) []
  (⟨r.kind,Xf A r,q.1⟩,q.2)
def bad (_:Za) (left:Int):Tr×Int×Int:=(⟨0,[],[]⟩,left,3)
def Zcr (A:Zj):Nat→Za→Int→Tr×Int×Int
 | 0=>Zg4 A bad bad 0
 | 1=>Zg4 A (Zcr A 0) bad 1
 | d+2=>Zg4 A (Zcr A (d+1)) (Zcr A d) ((d+2:Nat):Int)
def Yy (A:Zj) (k:Nat) (d:Nat):Za→Int→Tr×Int×Int:=if k≤d then Zcr A (d - k) else bad
theorem Zht (d:Nat):Zcr A d=Zg4 A (Yy A 1 d) (Yy A 2 d) (d:Int):=by
 match d with
 | 0=>rfl
 | 1=>rfl
 | d+2 =>
  unfold Yy
  rw [if_pos (by omega),if_pos (by omega)]
  rfl
def Lf (A:Zj) (f:Za→Int→Tr×Int×Int):Prop:=∀ k left,OKr A k→0≤left→(f k left).2.2=0→0≤(f k left).2.1∧(f k left).2.1≤left
theorem Zz9 {f:Za→Int→Tr×Int×Int} {g:Int→Za×Int} (hf:Lf A f) (hg:∀ i,OKr A (g i).1):∀ (m i:Nat) (left:Int) (acc:List Tr),0≤left→(Yw f g m i left acc).2.2=0→0≤(Yw f g m i left acc).2.1∧(Yw f g m i left acc).2.1≤left
 | 0,i,left,acc,h0,_=>⟨h0,Int.le_refl _⟩
 | m+1,i,left,acc,h0,h=>by
  rw [Yw] at h ⊢
  by_cases h1:(g i).2≠0
  ·rw [if_pos h1] at h;exact absurd h h1
  rw [if_neg h1] at h ⊢
  by_cases h2:(f (g i).1 left).2.2≠0
  ·rw [if_pos h2] at h;exact absurd h h2
  rw [if_neg h2] at h ⊢
  have h2':(f (g i).1 left).2.2=0:=by omega
  obtain ⟨a1,a2⟩:=hf _ _ (hg i) h0 h2'
  obtain ⟨b1,b2⟩:=Zz9 hf hg m (i+1) _ _ a1 h
  exact ⟨b1,by omega⟩
theorem Z3l:Lf A bad:=fun k left _ _ h=>by simp [bad] at h
theorem Ybt {f:Za→Int→Tr×Int×Int} (hf:Lf A f):Lf A (stK A f):=fun k left hk h0 h=>Zz9 hf (fun i=>Zax hk i) _ _ _ _ h0 h
theorem Z7w:Lf A (Zus A):=fun k left _ h0 _=>⟨h0,Int.le_refl _⟩
theorem Z4q {f1 f2:Za→Int→Tr×Int×Int} (h1:Lf A f1) (h2:Lf A f2) (r:Za):Lf A (V6 A f1 f2 r):=by
 unfold V6
 split
 ·exact Ybt h2
 split
 ·exact h1
 exact Z7w
theorem Z7x (hw:WS A.segments) {f1 f2:Za→Int→Tr×Int×Int} (h1:Lf A f1) (h2:Lf A f2) (d:Int):Lf A (Zg4 A f1 f2 d):=fun r left hr h0 h=>by
 have hwt:=Z9d hw hr
 unfold Zg4 at h ⊢
 by_cases k0:r.kind=0
 ·rw [if_pos k0];exact ⟨h0,Int.le_refl _⟩
 rw [if_neg k0] at h ⊢
 by_cases hb:d < lvR r∨left < wtR r
 ·rw [if_pos hb] at h;simp at h
 rw [if_neg hb] at h ⊢
 have:=Zz9 (Z4q h1 h2 r) (fun i=>Zax hr i) (Yx r).toNat 0 (left - wtR r) [] (by omega) h
 simp only
 omega
theorem Z0k (hw:WS A.segments):∀ d,Lf A (Zcr A d):=fun d=>by
 induction d using Nat.strongRecOn with
 | ind d ih =>
  rw [Zht]
  refine Z7x hw ?_ ?_ _
  ·unfold Yy
   split
   ·exact ih _ (by omega)
   exact Z3l
  unfold Yy
  split
  ·exact ih _ (by omega)
  exact Z3l
end
theorem Z18 {S R:Type} {s1 s2:S→Option (S ⊕ R)} (h:∀ s x,s1 s=some x→s2 s=some x):∀ (k:Nat) (s:S) (r:R),Zc2 s1 k s=some r→Zc2 s2 k s=some r
 | 0,s,r,q=>by simp [Zc2] at q
 | k+1,s,r,q=>by
  simp only [Zc2] at q ⊢
  cases hs:s1 s with
  | none=>rw [hs] at q;cases q
  | some x =>
   rw [hs] at q
   rw [h s x hs]
   cases x with
   | inl s'=>exact Z18 h k s' r q
   | inr r'=>exact q
theorem Zwz {S R:Type} {s1 s2:S→Option (S ⊕ R)} (h:∀ s x,s1 s=some x→s2 s=some x) {s:S} {r:R} (q:Zw s1 s=some r):Zw s2 s=some r:=by
 obtain ⟨k,hk⟩:=Zk8 q
 exact Zmn (Z18 h k s r hk)
theorem Vu {α β:Type} {o o':Option α} {f f':α→Option β} (h:∀ x,o=some x→o'=some x) (hf:∀ x y,f x=some y→f' x=some y) {r:β} (q:o.bind f=some r):o'.bind f'=some r:=by
 obtain ⟨x,h1,h2⟩:=Option.bind_eq_some_iff.1 q
 rw [h x h1]
 exact hf x r h2
theorem Zdu {α:Type} (c:Bool) {a a' b b':Option α} (h1:∀ r,a=some r→a'=some r) (h2:∀ r,b=some r→b'=some r) (r:α) (q:cond c a b=some r):cond c a' b'=some r:=by
 cases c with
 | true=>exact h1 r q
 | false=>exact h2 r q
theorem Z7z {R:Type} {F:Nat→Option R} {r:R} (hm:∀ k r,F k=some r→F (k+1)=some r) {K:Nat} (h:F K=some r):lim F=some r:=by
 refine Zf5 K fun k hk => ?_
 obtain ⟨d,rfl⟩:∃ d,k=K+d:=⟨k - K,by omega⟩
 clear hk
 induction d with
 | zero=>exact h
 | succ d ih=>exact hm _ _ ih
section
variable {A:Zj}
theorem Zg1 {r:Za} (h:OKr A r):0≤Yx r∧Yx r≤1073741824:=by
 cases h with
 | z=>simp [Yx,r0]
 | st s a d p hd hp hin=>simp only [Yx,if_true];omega
 | li k s a n hk hn hin=>simp only [Yx];rw [if_neg (by omega)];omega
 | co s a d p n hd hp hn hwx hin=>simp only [Yx];rw [if_neg (by omega)];omega
 | at_ s a c i n hc h0 h1 hn hin=>simp [Yx]
theorem Zu0 {r:Za} (hk:r.kind=9) {i:Int} (h:0≤i∧i < Yx r):(Yv A r i).1.kind=1:=by
 unfold Yv
 rw [if_neg (by omega),if_neg (by omega),if_neg (by omega),if_pos hk]
def Zr4 (x m:Int):Int:=if m < (if x < 0 then 0 else x) then m else (if x < 0 then 0 else x)
def Zbq (x:Ya):Ya:=⟨Zr4 x.Depth 64,Zr4 x.Weight 65536,Zr4 x.MaxD 4096,Zr4 x.MaxOut 131072⟩
theorem Zr5 (x m:Int) (hm:0≤m):0≤Zr4 x m∧Zr4 x m≤m:=by unfold Zr4;repeat' split;all_goals omega
def Z7e (A:Zj) (x:Ya):Int×Int :=
 if (atR A 0 0).2≠0 then (0,(atR A 0 0).2)
 else
  let q:=Zcr A (Zbq x).Depth.toNat (atR A 0 0).1 (Zbq x).Weight
  if q.2.2≠0 then (0,q.2.2) else ((Zbq x).Weight - q.2.1,0)
end
theorem Zhu (x m:Int) (hm:0≤m):Qk x m=some (Zr4 x m):=by
 unfold Qk Zr4
 by_cases h:x < 0
 ·rw [decide_eq_true h,if_pos h,if_neg (by omega)];rfl
 rw [decide_eq_false h,if_neg h]
 by_cases h2:m < x
 ·rw [decide_eq_true h2,if_pos h2];rfl
 rw [decide_eq_false h2,if_neg h2];rfl
theorem Z3z (x:Ya):Un x=some (Zbq x):=by
 unfold Un
 rw [Zhu _ _ (by decide),Zhu _ _ (by decide),Zhu _ _ (by decide),Zhu _ _ (by decide)]
 rfl
section
variable {A:Zj}
def Mo (f g:Za→Int→Tr×Int×Int):Prop:=∀ k left e,0≤left→0≤e→(f k left).2.2=0→(g k (left+e)).2.2=0∧(g k (left+e)).2.1=(f k left).2.1+e
def NN (f:Za→Int→Tr×Int×Int):Prop:=∀ k left,0≤left→(f k left).2.2=0→0≤(f k left).2.1
theorem Z0a {f f':Za→Int→Tr×Int×Int} {g:Int→Za×Int} (h:Mo f f') (hn:NN f):∀ (m i:Nat) (left e:Int) (acc acc':List Tr),0≤left→0≤e→(Yw f g m i left acc).2.2=0→(Yw f' g m i (left+e) acc').2.2=0∧(Yw f' g m i (left+e) acc').2.1=(Yw f g m i left acc).2.1+e
 | 0,i,left,e,acc,acc',_,_,_=>⟨rfl,rfl⟩
 | m+1,i,left,e,acc,acc',h0,he,hq=>by
  rw [Yw] at hq
  rw [Yw,Yw]
  by_cases h1:(g i).2≠0
  ·rw [if_pos h1] at hq;exact absurd hq h1
  rw [if_neg h1] at hq
  rw [if_neg h1,if_neg h1]
  by_cases h2:(f (g i).1 left).2.2≠0
  ·rw [if_pos h2] at hq;exact absurd hq h2
  rw [if_neg h2] at hq
  have h2':(f (g i).1 left).2.2=0:=by omega
  obtain ⟨a1,a2⟩:=h _ _ e h0 he h2'
  rw [if_neg h2,if_neg (by omega),a2]
  exact Z0a h hn m (i+1) _ e _ _ (hn _ _ h0 h2') he hq
theorem Ybv {f f':Za→Int→Tr×Int×Int} (h:Mo f f') (hn:NN f):Mo (stK A f) (stK A f'):=fun k left e h0 he hq=>Z0a h hn _ _ _ _ _ _ h0 he hq
theorem Z7n {f:Za→Int→Tr×Int×Int} {g:Int→Za×Int} (hf:NN f):∀ (m i:Nat) (left:Int) (acc:List Tr),0≤left→(Yw f g m i left acc).2.2=0→0≤(Yw f g m i left acc).2.1
 | 0,i,left,acc,h0,_=>h0
 | m+1,i,left,acc,h0,h=>by
  rw [Yw] at h ⊢
  by_cases h1:(g i).2≠0
  ·rw [if_pos h1] at h;exact absurd h h1
  rw [if_neg h1] at h ⊢
  by_cases h2:(f (g i).1 left).2.2≠0
  ·rw [if_pos h2] at h;exact absurd h h2
  rw [if_neg h2] at h ⊢
  exact Z7n hf m (i+1) _ _ (hf _ _ h0 (by omega)) h
theorem Z4z {f1 f2:Za→Int→Tr×Int×Int} (h1:NN f1) (h2:NN f2) (r:Za):NN (V6 A f1 f2 r):=by
 unfold V6
 split
 ·exact fun k left h0 h=>Z7n h2 _ _ _ _ h0 h
 split
 ·exact h1
 exact fun k left h0 h=>h0
theorem Z79 {f1 f2:Za→Int→Tr×Int×Int} (h1:NN f1) (h2:NN f2) (d:Int):NN (Zg4 A f1 f2 d):=fun r left h0 h=>by
 unfold Zg4 at h ⊢
 by_cases k0:r.kind=0
 ·rw [if_pos k0];exact h0
 rw [if_neg k0] at h ⊢
 by_cases hb:d < lvR r∨left < wtR r
 ·rw [if_pos hb] at h;simp at h
 rw [if_neg hb] at h ⊢
 exact Z7n (Z4z h1 h2 r) _ _ _ _ (by omega) h
theorem Z3p:NN bad:=fun k left _ h=>by simp [bad] at h
theorem Yab:∀ d,NN (Zcr A d):=fun d=>by
 induction d using Nat.strongRecOn with
 | ind d ih =>
  rw [Zht]
  refine Z79 ?_ ?_ _
  ·unfold Yy
   split
   ·exact ih _ (by omega)
   exact Z3p
  unfold Yy
  split
  ·exact ih _ (by omega)
  exact Z3p
theorem Z99 {f1 f2 f1' f2':Za→Int→Tr×Int×Int} (h1:Mo f1 f1') (n1:NN f1) (h2:Mo f2 f2') (n2:NN f2) (r:Za):Mo (V6 A f1 f2 r) (V6 A f1' f2' r):=by
 unfold V6
 by_cases k9:r.kind=9
 ·rw [if_pos k9,if_pos k9];exact Ybv h2 n2
 rw [if_neg k9,if_neg k9]
 by_cases k18:r.kind=1∨r.kind=8
 ·rw [if_pos k18,if_pos k18];exact h1
 rw [if_neg k18,if_neg k18];exact fun k left e _ _ _=>⟨rfl,rfl⟩
theorem Z75 {f1 f2 f1' f2':Za→Int→Tr×Int×Int} (h1:Mo f1 f1') (n1:NN f1) (h2:Mo f2 f2') (n2:NN f2) {d d':Int} (hd:d≤d'):Mo (Zg4 A f1 f2 d) (Zg4 A f1' f2' d'):=fun r left e h0 he hq=>by
 unfold Zg4 at hq ⊢
 by_cases k0:r.kind=0
 ·rw [if_pos k0,if_pos k0];exact ⟨rfl,rfl⟩
 rw [if_neg k0] at hq
 rw [if_neg k0,if_neg k0]
 by_cases hb:d < lvR r∨left < wtR r
 ·rw [if_pos hb] at hq;simp at hq
 rw [if_neg hb] at hq
 rw [if_neg hb,if_neg (by omega)]
 simp only at hq ⊢
 have:=Z0a (Z99 (A:=A) h1 n1 h2 n2 r) (Z4z n1 n2 r) (g:=Yv A r) (Yx r).toNat 0 (left - wtR r) e [] [] (by omega) he hq
 rw [show left - wtR r+e=left+e - wtR r by omega] at this
 exact this
theorem Ybu (g:Za→Int→Tr×Int×Int):Mo bad g:=fun k left e _ _ h=>by simp [bad] at h
theorem Yaa:∀ (d d':Nat),d≤d'→Mo (Zcr A d) (Zcr A d'):=fun d=>by
 induction d using Nat.strongRecOn with
 | ind d ih =>
  intro d' hd
  rw [Zht d,Zht d']
  have key:∀ k,1≤k→Mo (Yy A k d) (Yy A k d')∧NN (Yy A k d):=fun k hk=>by
   unfold Yy
   by_cases h:k≤d
   ·rw [if_pos h,if_pos (by omega)]
    exact ⟨ih (d - k) (by omega) (d' - k) (by omega),Yab _⟩
   rw [if_neg h]
   exact ⟨Ybu _,Z3p⟩
  exact Z75 (key 1 (by omega)).1 (key 1 (by omega)).2 (key 2 (by omega)).1 (key 2 (by omega)).2 (by omega)
end
theorem Z7y (x:Ya):∃ w,Ge x=some ⟨x.Depth,w,x.MaxD,x.MaxOut⟩:=by
 unfold Ge
 cases decide (3000 < x.Weight) with
 | true=>exact ⟨3000,rfl⟩
 | false=>exact ⟨x.Weight,rfl⟩
theorem Z6q {c:Int} (h:0≤c∧c≤5):Xi c=some (wdt c):=by
 unfold Xi
 rcases c5 h with rfl | rfl | rfl | rfl | rfl | rfl <;> rfl
theorem Z1j (q:Int) (n:Nat) (hn:Int.tmod q 64=(n:Int)) (hn2:n < 64):∀ (m t w:Nat),t+m=n→w < 18446744073709551616→Zw (Kj q) ((w:Int),(t:Int))=some ((w / 2 ^ m:Nat):Int)
 | 0,t,w,h,hw=>by
  refine Y0 ?_
  unfold Kj
  simp only
  rw [hn,show decide ((t:Int) < (n:Int))=false from by rw [decide_eq_false_iff_not];omega,cond_false,Nat.pow_zero,Nat.div_one]
 | m+1,t,w,h,hw=>by
  have hs:Kj q ((w:Int),(t:Int))=some (.inl (((w / 2:Nat):Int),((t+1:Nat):Int))):=by
   unfold Kj
   simp only
   rw [hn,show decide ((t:Int) < (n:Int))=true from by rw [decide_eq_true_eq];omega,cond_true,Int.tdiv_eq_ediv_of_nonneg (by omega),show ((w:Int) / 2)=((w / 2:Nat):Int) from rfl,Z21 _ (by omega),Z4 (by omega) (by omega)]
   rfl
  rw [Xz hs,Z1j q n hn hn2 m (t+1) (w / 2) (by omega) (by omega),Nat.div_div_eq_div_mul,Nat.pow_succ,Nat.mul_comm]
theorem Ybh {l:List Int} (hl:∀ w∈l,0≤w∧w < 18446744073709551616) {k:Nat} {w:Int} (hk:k < 1125899906842624) (hg:l[k / 64]? = some w):Za5 l (k:Int)=some ((w.toNat / 2 ^ (k % 64) % 2:Nat):Int):=by
 have hi:k / 64 < l.length:=by
  rcases Nat.lt_or_ge (k / 64) l.length with h | h
  ·exact h
  rw [List.getElem?_eq_none h] at hg;cases hg
 have hwr:=hl w (List.mem_of_getElem? hg)
 unfold Za5
 have t1:Int.tdiv (k:Int) 64=((k / 64:Nat):Int):=by rw [Int.tdiv_eq_ediv_of_nonneg (by omega)];rfl
 have t2:Int.tmod (k:Int) 64=((k % 64:Nat):Int):=by rw [Int.tmod_eq_emod_of_nonneg (by omega)];rfl
 rw [t1,Z4 (x:=((k / 64:Nat):Int)) (by omega) (by omega),show decide ((k:Int) < 0)=false from by rw [decide_eq_false_iff_not];omega,cond_false,show decide ((l.length:Int)≤((k / 64:Nat):Int))=false from by rw [decide_eq_false_iff_not];omega,cond_false,Y5 hg,Option.bind_some]
 have hL:=Z1j (k:Int) (k % 64) t2 (Nat.mod_lt _ (by decide)) (k % 64) 0 w.toNat (by omega) (by omega)
 rw [show ((w.toNat:Nat):Int)=w by omega,show (((0:Nat):Int))=0 from rfl] at hL
 rw [hL,Option.bind_some,Int.tmod_eq_emod_of_nonneg (Int.natCast_nonneg _)]
 rfl
theorem Z1t {l:List Int} (hl:∀ w∈l,0≤w∧w < 18446744073709551616) {d q i:Nat} {w:Int} (hd:1≤d∧d≤64) (hi:i * d+d < 1125899906842624) (hq:∀ j,j < d→(i * d+j) / 64=q∧(i * d+j) % 64=(i * d) % 64+j) (hg:l[q]? = some w):∀ (m:Nat) (acc:Int),m≤d→acc=((w.toNat / 2 ^ ((i * d) % 64+m) % 2 ^ (d - m):Nat):Int) →
  Zw (Kk l (i:Int) (d:Int)) (acc,(m:Int) - 1)=some ((w.toNat / 2 ^ ((i * d) % 64) % 2 ^ d:Nat):Int)
 | 0,acc,hm,ha=>by
  refine Y0 ?_
  unfold Kk
  simp only
  rw [show decide ((0:Int)≤((0:Nat):Int) - 1)=false from rfl,cond_false,ha]
  rfl
 | m+1,acc,hm,ha=>by
  obtain ⟨q1,q2⟩:=hq m (by omega)
  have hb:=Ybh hl (k:=i * d+m) (w:=w) (by omega) (by rw [q1];exact hg)
  rw [q2] at hb
  have hlt:w.toNat / 2 ^ ((i * d) % 64+(m+1)) % 2 ^ (d - (m+1)) < 2 ^ 63:=Nat.lt_of_lt_of_le (Nat.mod_lt _ (Nat.pow_pos (by decide))) (Nat.pow_le_pow_right (by decide) (by omega))
  have hbit:w.toNat / 2 ^ ((i * d) % 64+m) % 2 < 2:=Nat.mod_lt _ (by decide)
  have hstep:Kk l (i:Int) (d:Int) (acc,((m+1:Nat):Int) - 1)=some (.inl (((w.toNat / 2 ^ ((i * d) % 64+m) % 2 ^ (d - m):Nat):Int),(m:Int) - 1)):=by
   unfold Kk
   simp only
   have e1:IntKind.i64.wrap (IntKind.i64.wrap ((i:Int) * (d:Int))+(((m+1:Nat):Int) - 1))=((i * d+m:Nat):Int):=by
    have e0:((i:Int) * (d:Int))=((i * d:Nat):Int):=by simp
    rw [e0,Z4 (x:=((i * d:Nat):Int)) (by omega) (by omega),Z4 (by omega) (by omega)]
    omega
   rw [show decide ((0:Int)≤((m+1:Nat):Int) - 1)=true from by rw [decide_eq_true_eq];omega,cond_true,e1,hb,Option.bind_some,ha]
   have e2:((w.toNat / 2 ^ ((i * d) % 64+(m+1)) % 2 ^ (d - (m+1)):Nat):Int) * 2=((w.toNat / 2 ^ ((i * d) % 64+(m+1)) % 2 ^ (d - (m+1)) * 2:Nat):Int):=by simp
   rw [e2,Z21 _ (by omega),← Int.natCast_add,Z21 _ (by omega),Z4 (by omega) (by omega)]
   have e3:w.toNat / 2 ^ ((i * d) % 64+(m+1)) % 2 ^ (d - (m+1)) * 2+w.toNat / 2 ^ ((i * d) % 64+m) % 2=w.toNat / 2 ^ ((i * d) % 64+m) % 2 ^ (d - m):=by
    have h1:w.toNat / 2 ^ ((i * d) % 64+(m+1))=w.toNat / 2 ^ ((i * d) % 64+m) / 2:=by
     rw [Nat.div_div_eq_div_mul,← Nat.pow_succ];rfl
    have h2:d - m=(d - (m+1))+1:=by omega
    rw [h1,h2]
    generalize w.toNat / 2 ^ ((i * d) % 64+m)=x
    generalize d - (m+1)=y
    rw [Nat.pow_succ,Nat.mul_comm (2 ^ y) 2,Nat.mod_mul]
    omega
   rw [e3]
   congr 3
   omega
  rw [Xz hstep]
  exact Z1t hl hd hi hq hg m _ (by omega) rfl
theorem Yap {l:List Int} (hl:∀ w∈l,0≤w∧w < 18446744073709551616) {c i n:Int} (hc:0≤c∧c≤5) (h0:0≤i) (h1:i < n) (hn:n < 536870912) (hi:(n * wdt c+63) / 64≤l.length):Za6 l c i=some (if c=0 then 0 else Z0p ((l[(i / each c).toNat]?).getD 0) c (i % each c)):=by
 unfold Za6
 rw [Z6q hc,Option.bind_some]
 by_cases hz:c=0
 ·subst hz
  rw [if_pos rfl]
  rfl
 rw [if_neg hz]
 obtain ⟨d,e,hd⟩:∃ d:Nat,wdt c=(d:Int)∧(d=1∨d=8∨d=16∨d=32∨d=64):=by
  rcases c5 hc with rfl | rfl | rfl | rfl | rfl | rfl
  ·omega
  ·exact ⟨1,rfl,by omega⟩
  ·exact ⟨8,rfl,by omega⟩
  ·exact ⟨16,rfl,by omega⟩
  ·exact ⟨32,rfl,by omega⟩
  exact ⟨64,rfl,by omega⟩
 obtain ⟨j,rfl⟩:∃ j:Nat,i=j:=⟨i.toNat,by omega⟩
 have he:each c=((64 / d:Nat):Int):=by unfold each;rw [e];rfl
 rw [e] at hi ⊢
 rw [show decide ((d:Int) < 1)=false from by rw [decide_eq_false_iff_not];omega,show decide ((j:Int) < 0)=false from by rw [decide_eq_false_iff_not];omega,show decide (1099511627776 < (j:Int))=false from by rw [decide_eq_false_iff_not];omega]
 simp only [cond_false]
 rw [Z4 (x:=(d:Int) - 1) (by omega) (by omega)]
 have hqn:((j:Int) / each c).toNat=j / (64 / d):=by rw [he];rfl
 have hrn:((j:Int) % each c)=((j % (64 / d):Nat):Int):=by rw [he];rfl
 rw [hqn,hrn]
 have hin:j / (64 / d) < l.length∧∀ t,t < d→(j * d+t) / 64=j / (64 / d)∧(j * d+t) % 64=(j * d) % 64+t:=by
  rcases hd with rfl | rfl | rfl | rfl | rfl
  ·exact ⟨by omega,fun t ht=>by omega⟩
  ·exact ⟨by omega,fun t ht=>by omega⟩
  ·exact ⟨by omega,fun t ht=>by omega⟩
  ·exact ⟨by omega,fun t ht=>by omega⟩
  exact ⟨by omega,fun t ht=>by omega⟩
 have hoff:(j * d) % 64=(j % (64 / d)) * d:=by
  rcases hd with rfl | rfl | rfl | rfl | rfl
  ·omega
  ·omega
  ·omega
  ·omega
  omega
 have hg:l[j / (64 / d)]? = some l[j / (64 / d)]:=List.getElem?_eq_getElem hin.1
 have hjd:j * d≤536870912 * 64:=Nat.mul_le_mul (by omega) (by omega)
 rw [Z1t hl (d:=d) (i:=j) (by omega) (by omega) hin.2 hg d 0 (Nat.le_refl _) (by rw [Nat.sub_self,Nat.pow_zero,Nat.mod_one];rfl),Option.bind_some,hg,Option.getD_some]
 unfold Z0p
 rw [e,hoff]
 congr 4
section
variable {A:Zj}
def U4 (A:Zj) (r:Za):Zt :=
 if r.kind=0 then ⟨0,0,0,0,0,0,0⟩
 else if r.kind=1 then ⟨1,r.segment,r.at_,r.words,r.ptrs,0,0⟩
 else if r.kind=9 then ⟨9,r.segment,r.at_+1,r.words,r.ptrs,r.count,0⟩
 else if r.kind=10 then ⟨10,0,0,0,0,0,Zxk A r⟩
 else ⟨r.kind,r.segment,r.at_,0,0,r.count,0⟩
def Zw6 (A:Zj) (x:Za×Int):Zt×Int:=(U4 A x.1,x.2)
theorem Zil {r:Za}:(U4 A r).Kind=r.kind:=by
 unfold U4
 split
 ·symm;assumption
 split
 ·symm;assumption
 split
 ·symm;assumption
 split
 ·symm;assumption
 rfl
theorem Z9p {w:Int} (h:0≤w):(dc w).Kind=0↔w=0:=by
 unfold dc Zhq
 constructor
 ·intro q
  split at q
  ·omega
  split at q
  ·simp at q
  split at q
  ·simp at q
  split at q
  ·simp at q
  simp at q
 intro q
 rw [if_pos (by omega)]
theorem Z3v (hw:WS A.segments) (s a:Int):Uh A.segments s a=some (Zw6 A (atR A s a)):=by
 have hk0:=Znb A.segments s a
 have hR:Kl A.segments s a=some (⟨(fol A.segments s a).1.P,(fol A.segments s a).1.Segment,(fol A.segments s a).1.At⟩,(fol A.segments s a).2):=Z3y hw s a
 unfold Uh atR
 rw [hR,Option.bind_some]
 clear hR
 revert hk0
 generalize fol A.segments s a=y
 intro hk0
 obtain ⟨x,e⟩:=y
 dsimp only at hk0 ⊢
 rcases hk0 with h | ⟨h1,hp,hk,hi⟩
 ·rw [if_pos h]
  have:cond (e != 0) true (x.P.Kind == 0)=true:=by
   rcases h with h | h
   ·rw [bne_iff_ne.2 h];rfl
   rw [show (x.P.Kind == 0)=true from by rw [h];rfl]
   cases (e != 0) <;> rfl
  rw [this,cond_true];rfl
 rw [if_neg (by omega),h1,show ((0:Int) != 0)=false from rfl,cond_false]
 rw [show (x.P.Kind == 0)=false from Xk (by omega),cond_false]
 by_cases k1:x.P.Kind=1
 ·rw [if_pos k1,show (x.P.Kind == 1)=true from by rw [k1];rfl,cond_true]
  rfl
 rw [if_neg k1,show (x.P.Kind == 1)=false from Xk k1,cond_false]
 have hc:=hp.c
 by_cases c7':x.P.Code=7
 ·rw [if_pos c7',show decide (x.P.Code < 7)=false from by rw [decide_eq_false_iff_not];omega,cond_false]
  have hpw:pw x.P=x.P.Count+1:=by unfold pw;rw [if_neg k1,if_pos c7']
  rw [hpw] at hi
  have hn:=hp.n
  have hi':=inB_iff.1 hi
  have hi1:inB A.segments x.Segment x.At 1=true:=inB_iff.2 ⟨hi'.1,hi'.2.1,hi'.2.2.1,by omega,by omega⟩
  have hwr:=Zmz hw x.Segment x.At
  have hrr:=Zsh hw hi
  rw [(Zfi hi'.1 hi'.2.1).1,Option.bind_some,(Zuh hi1).1,Option.bind_some,Zws hwr,Option.bind_some]
  have ht:=Z36 (wd A.segments x.Segment x.At)
  have ho:=(Zna (wd A.segments x.Segment x.At)).o
  have hdz:=Z9p hwr.1
  generalize dc (wd A.segments x.Segment x.At)=t at *
  have hm:=Z78 (n:=t.Off) (x:=t.Data+t.Ptrs) ho (by omega)
  rw [Z4 (x:=t.Data+t.Ptrs) (by omega) (by omega),Z4 (x:=t.Off * (t.Data+t.Ptrs)) (by omega) (by omega),Z4 (x:=x.At+1) (by omega) (by omega)]
  by_cases hq:(t.Kind≠0∧t.Kind≠1)∨t.Off < 0∨x.P.Count < t.Off * (t.Data+t.Ptrs)
  ·rw [if_pos hq]
   have:cond (cond (cond (wd A.segments x.Segment x.At != 0) (t.Kind != 1) false) true (decide (t.Off < 0))) true (decide (x.P.Count < t.Off * (t.Data+t.Ptrs)))=true:=by
    rcases hq with ⟨q1,q2⟩ | q | q
    ·rw [bne_iff_ne.2 (fun z=>q1 (hdz.2 z)),bne_iff_ne.2 q2];rfl
    ·rw [decide_eq_true q];cases (cond (wd A.segments x.Segment x.At != 0) (t.Kind != 1) false) <;> rfl
    rw [decide_eq_true q];cases (cond (cond (wd A.segments x.Segment x.At != 0) (t.Kind != 1) false) true (decide (t.Off < 0))) <;> rfl
   rw [this,cond_true];rfl
  rw [if_neg hq]
  have e1:cond (wd A.segments x.Segment x.At != 0) (t.Kind != 1) false=false:=by
   by_cases q0:wd A.segments x.Segment x.At=0
   ·rw [show (wd A.segments x.Segment x.At != 0)=false from bne_eq_false_iff_eq.2 q0];rfl
   have q1:t.Kind=1:=by
    have:t.Kind≠0:=fun z=>q0 (hdz.1 z)
    omega
   rw [show (t.Kind != 1)=false from by rw [q1];rfl]
   cases (wd A.segments x.Segment x.At != 0) <;> rfl
  rw [e1,cond_false,show decide (t.Off < 0)=false from by rw [decide_eq_false_iff_not];omega,cond_false,show decide (x.P.Count < t.Off * (t.Data+t.Ptrs))=false from by rw [decide_eq_false_iff_not];omega]
  rfl
 rw [if_neg c7',show decide (x.P.Code < 7)=true from by rw [decide_eq_true_eq];omega,cond_true,Z4 (x:=2+x.P.Code) (by omega) (by omega)]
 unfold Zw6 U4
 simp only
 rw [if_neg (by omega),if_neg (by omega),if_neg (by omega),if_neg (by omega),show 2+x.P.Code=x.P.Code+2 by omega]
theorem Zpk {r:Za} (h:OKr A r):Qn (U4 A r)=some (Yx r):=by
 unfold Qn
 rw [Zil]
 unfold Yx U4
 by_cases h1:r.kind=1
 ·rw [if_pos h1,show (r.kind == 1)=true from by rw [h1];rfl,cond_true,if_neg (by omega),if_pos h1]
 rw [if_neg h1,show (r.kind == 1)=false from Xk h1,cond_false]
 by_cases h0:r.kind=0
 ·rw [if_pos h0]
  cases h with
  | z=>rfl
  | st=>simp at h0
  | li k s a n hk=>simp only at h0;omega
  | co=>simp at h0
  | at_=>simp at h0
 rw [if_neg h0,if_neg h1]
 by_cases h9:r.kind=9
 ·rw [if_pos h9]
 rw [if_neg h9]
 by_cases h10:r.kind=10
 ·rw [if_pos h10]
  cases h with
  | z=>rfl
  | st=>rfl
  | li k s a n hk=>simp only at h10;omega
  | co=>simp at h10
  | at_=>rfl
 rw [if_neg h10]
theorem Zrw (hw:WS A.segments) {r:Za} (h:OKr A r):Qc (U4 A r) A.segments=some (Xf A r):=by
 unfold Qc
 rw [Zil]
 unfold Xf U4
 cases h with
 | z=>rfl
 | li k s a n hk hn hin =>
  simp only
  rw [show (k == 10)=false from Xk (by omega),cond_false,show (k != 1)=true from bne_iff_ne.2 (by omega),cond_true,if_neg (by omega),if_neg (by omega)]
 | co s a d p n hd hp hn hwx hin=>rfl
 | at_ s a c i n hc h0 h1 hn hin=>rfl
 | st s a d p hd hp hin =>
  have hi':=inB_iff.1 hin
  have hl:=Zmp hw s
  simp only [show ((1:Int) == 10)=false from rfl,show ((1:Int) != 1)=false from rfl,cond_false,show ¬ (1:Int)=0 from by decide,show ¬ (1:Int)=10 from by decide,if_false,if_true]
  rw [(Zfi hi'.1 hi'.2.1).1,Option.bind_some,Z4 (x:=a+d) (by omega) (by omega),Zvo (by omega) (by omega) (by omega),Option.bind_some,show a+d - a=d by omega,Zbm (by simp only [List.length_nil,List.length_take,List.length_drop];omega) (by simp only [List.length_nil,List.length_take,List.length_drop];omega),List.nil_append]
  rfl
theorem Z8w (hw:WS A.segments) (s:Int):∀ w∈seg A.segments s,0≤w∧w < 18446744073709551616:=by
 unfold seg
 cases h:A.segments[s.toNat]? with
 | none=>simp
 | some x=>exact hw.w x (List.mem_of_getElem? h)
theorem Z2s (hw:WS A.segments) {r:Za} (h:OKr A r) (i:Int):Jx (U4 A r) A.segments i=some (Zw6 A (Yv A r i)):=by
 unfold Jx Yv
 rw [Zpk h,Zil]
 have hz:(cond (decide (i < 0)) (some true) ((some (Yx r)).bind fun y4=>some (cond (decide (i < 0)) true (decide (y4≤i)))))=some (decide (i < 0∨Yx r≤i)):=by
  by_cases h0:i < 0
  ·rw [decide_eq_true h0,cond_true,show decide (i < 0∨Yx r≤i)=true from decide_eq_true (.inl h0)]
  rw [decide_eq_false h0,cond_false,Option.bind_some,cond_false]
  congr 1
  rw [decide_eq_decide]
  omega
 rw [hz,Option.bind_some]
 by_cases hi:i < 0∨Yx r≤i
 ·rw [if_pos hi,decide_eq_true hi];rfl
 rw [if_neg hi,decide_eq_false hi,cond_false]
 cases h with
 | z=>exact absurd hi (by first | (simp [Yx,r0];done) | (simp [Yx,r0];omega))
 | at_=>exact absurd hi (by first | (simp [Yx];done) | (simp [Yx];omega))
 | st s a d p hd hp hin =>
  have:=Zsh hw hin
  simp only [Yx,if_true] at hi
  have e:U4 A (⟨some A,1,s,a,d,p,0,0,0⟩:Za)=⟨1,s,a,d,p,0,0⟩:=rfl
  simp only [e,beq_self_eq_true,cond_true,if_true]
  rw [Z4 (x:=a+d) (by omega) (by omega),Z4 (by omega) (by omega),Z3v hw]
  rfl
 | co s a d p n hd hp hn hwx hin =>
  have:=Zsh hw hin
  simp only [Yx] at hi
  rw [if_neg (by omega)] at hi
  have e:U4 A (⟨some A,9,s,a,d,p,n,0,0⟩:Za)=⟨9,s,a+1,d,p,n,0⟩:=rfl
  simp only [e,show ((9:Int) == 1)=false from rfl,show ((9:Int) == 8)=false from rfl,show ((9:Int) == 9)=true from rfl,cond_true,cond_false,show ¬ (9:Int)=1 from by decide,show ¬ (9:Int)=8 from by decide,if_false,if_true]
  have h1:0≤i * (d+p):=Int.mul_nonneg (by omega) (by omega)
  have h2:(i+1) * (d+p)≤n * (d+p):=Int.mul_le_mul_of_nonneg_right (by omega) (by omega)
  rw [Int.add_mul,Int.one_mul] at h2
  rw [Z4 (x:=d+p) (by omega) (by omega),Z4 (x:=i * (d+p)) (by omega) (by omega),Z4 (by omega) (by omega)]
  rfl
 | li k s a n hk hn hin =>
  have hr:=Zsh hw hin
  have hi':=inB_iff.1 hin
  simp only [Yx] at hi
  rw [if_neg (by omega)] at hi
  have e:U4 A (⟨some A,k,s,a,0,0,n,0,0⟩:Za)=⟨k,s,a,0,0,n,0⟩:=by
   unfold U4
   simp only
   rw [if_neg (by omega),if_neg (by omega),if_neg (by omega),if_neg (by omega)]
  simp only [e]
  rw [show (k == 1)=false from Xk (by omega),cond_false,if_neg (by omega),show (k == 9)=false from Xk (by omega)]
  by_cases k8:k=8
  ·have hp:(n * wdt (k - 2)+63) / 64=n:=by rw [k8];simp [wdt];omega
   rw [show (k == 8)=true from by rw [k8];rfl,cond_true,if_pos k8,Z4 (by omega) (by omega),Z3v hw]
   rfl
  rw [show (k == 8)=false from Xk k8,cond_false,cond_false,if_neg k8,if_neg (by omega),Z4 (by omega) (by omega),(Zfi hi'.1 hi'.2.1).1,Option.bind_some,Zvo (by omega) (by omega) (by omega),Option.bind_some]
  have hlen:((seg A.segments s).drop a.toNat).length=(seg A.segments s).length - a.toNat:=List.length_drop
  have htk:((seg A.segments s).drop a.toNat).take (((seg A.segments s).length:Int) - a).toNat=(seg A.segments s).drop a.toNat:=List.take_of_length_le (by rw [hlen];omega)
  rw [htk,Yap (fun w hm=>Z8w hw s w (List.mem_of_mem_drop hm)) (c:=k - 2) (n:=n) (by omega) (by omega) (by omega) (by omega) (by rw [hlen];omega),Option.bind_some]
  unfold Zw6 U4 Zxk
  simp only [show ¬ (10:Int)=0 from by decide,show ¬ (10:Int)=1 from by decide,show ¬ (10:Int)=9 from by decide,if_false,if_true]
  congr 3
  by_cases hz:k - 2=0
  ·rw [if_pos hz,if_pos hz]
  rw [if_neg hz,if_neg hz]
  obtain ⟨a1,a2,a3,a4,a5,a6,a7,a8⟩:=Z4i (c:=k - 2) (i:=i) (n:=n) (by omega) (by omega) (by omega) (by omega)
  unfold wd
  rw [List.getElem?_drop,show (a+i / each (k - 2)).toNat=a.toNat+(i / each (k - 2)).toNat by omega]
end
theorem Yck (t:Tr):(⟨t.Kind,t.Words,t.Kids⟩:Tr)=t:=by cases t;rfl
section
variable {A:Zj}
theorem Ztf {step:Int×Int×List Tr→Option ((Int×Int×List Tr) ⊕ ((Int×Int×List Tr) ⊕ (Int×List Tr)))} {f:Za→Int→Tr×Int×Int} {r:Za} (hr:OKr A r) (n:Nat) (hn:n≤1073741824)
  (hs:∀ (i:Nat) (left:Int) (acc:List Tr),i < n→acc.length=i→0≤left∧left≤65536→step (left,(i:Int),acc)=some (if (Yv A r i).2≠0 then .inr (.inl (left,(Yv A r i).2,acc)) else if (f (Yv A r i).1 left).2.2≠0 then .inr (.inl ((f (Yv A r i).1 left).2.1,(f (Yv A r i).1 left).2.2,acc)) else .inl ((f (Yv A r i).1 left).2.1,((i+1:Nat):Int),acc++[(f (Yv A r i).1 left).1])))
  (he:∀ left acc,step (left,(n:Int),acc)=some (.inr (.inr (left,acc))))
  (hf:Lf A f):∀ (m i:Nat) (left:Int) (acc:List Tr),i+m=n→acc.length=i→0≤left∧left≤65536 →
  Zw step (left,(i:Int),acc)=some (if (Yw f (Yv A r) m i left acc).2.2=0 then .inr ((Yw f (Yv A r) m i left acc).2.1,(Yw f (Yv A r) m i left acc).1) else .inl ((Yw f (Yv A r) m i left acc).2.1,(Yw f (Yv A r) m i left acc).2.2,(Yw f (Yv A r) m i left acc).1))
 | 0,i,left,acc,hi,ha,hl=>by
  have:i=n:=by omega
  subst this
  exact Y0 (he left acc)
 | m+1,i,left,acc,hi,ha,hl=>by
  have hst:=hs i left acc (by omega) ha hl
  rw [Yw]
  by_cases h1:(Yv A r i).2≠0
  ·rw [if_pos h1] at hst ⊢
   rw [if_neg h1]
   exact Y0 hst
  rw [if_neg h1] at hst ⊢
  by_cases h2:(f (Yv A r i).1 left).2.2≠0
  ·rw [if_pos h2] at hst ⊢
   rw [if_neg h2]
   exact Y0 hst
  rw [if_neg h2] at hst ⊢
  have hb:=hf _ left (Zax hr i) hl.1 (by omega)
  rw [Xz hst]
  exact Ztf hr n hn hs he hf m (i+1) _ _ (by omega) (by rw [List.length_append,ha];rfl) ⟨hb.1,by omega⟩
abbrev MF:=List (List Int)→Zt→Int→Int→Option (Tr×Int×Int)
theorem Z3u (hw:WS A.segments) {f1 f2:MF} {f:Za→Int→Tr×Int×Int} (hf:Lf A f) {r:Za} (hr:OKr A r) (h1:r.kind=1) {d left:Int} (hl:0≤left∧left≤65536)
  (hF:∀ (k:Za) (l:Int),OKr A k→0≤l∧l≤65536→f1 A.segments (U4 A k) d l=some (f k l)):V7 f1 f2 A.segments (U4 A r) d left=some (stK A f r left):=by
 have hp:(U4 A r).Ptrs=r.ptrs:=by unfold U4;rw [if_neg (by omega),if_pos h1]
 have hpr:0≤r.ptrs∧r.ptrs < 65536:=by
  cases hr with
  | z=>simp [r0] at h1
  | st s a d p hd hp2 hin=>exact hp2
  | li k s a n hk=>simp only at h1;omega
  | co=>simp at h1
  | at_=>simp at h1
 unfold V7 stK
 rw [Zrw hw hr,Option.bind_some]
 have hL:=Ztf (step:=Vz f1 A.segments (U4 A r) d) (f:=f) hr r.ptrs.toNat (by omega) (fun i l acc hi ha hl=>by
  unfold Vz
  simp only
  rw [hp,show decide ((i:Int) < r.ptrs)=true from by rw [decide_eq_true_eq];omega,cond_true,Z2s hw hr,Option.bind_some]
  simp only [Zw6]
  by_cases h1:(Yv A r i).2≠0
  ·rw [if_pos h1,bne_iff_ne.2 h1,cond_true]
  rw [if_neg h1,bne_eq_false_iff_eq.2 (show (Yv A r i).2=0 by omega),cond_false,hF _ l (Zax hr i) hl,Option.bind_some]
  by_cases h2:(f (Yv A r i).1 l).2.2≠0
  ·rw [if_pos h2,bne_iff_ne.2 h2,cond_true]
  rw [if_neg h2,bne_eq_false_iff_eq.2 (show (f (Yv A r i).1 l).2.2=0 by omega),cond_false,Zbm (by simp only [List.length_singleton];omega) (by simp only [List.length_singleton];omega),Option.bind_some,Z4 (by omega) (by omega)]
  rfl) (fun l acc=>by
  unfold Vz
  simp only
  rw [hp,show decide (((r.ptrs.toNat:Nat):Int) < r.ptrs)=false from by rw [decide_eq_false_iff_not];omega,cond_false]) hf r.ptrs.toNat 0 left [] (by omega) rfl hl
 rw [show (((0:Nat):Int))=0 from rfl] at hL
 rw [hL,Option.bind_some]
 by_cases hq:(Yw f (Yv A r) r.ptrs.toNat 0 left []).2.2=0
 ·rw [if_pos hq]
  simp only
  rw [show (Yw f (Yv A r) r.ptrs.toNat 0 left []).2=((Yw f (Yv A r) r.ptrs.toNat 0 left []).2.1,0) from by rw [← hq]]
 rw [if_neg hq]
theorem Z37 {r:Za} (hr:OKr A r):(r.kind=1→(U4 A r).Data=r.words∧(U4 A r).Ptrs=r.ptrs)∧(r.kind=9→(U4 A r).Data=r.words∧(U4 A r).Ptrs=r.ptrs∧(U4 A r).Count=r.count):=by
 refine ⟨fun h => ?_,fun h => ?_⟩
 ·unfold U4
  rw [if_neg (by omega),if_pos h]
  exact ⟨rfl,rfl⟩
 unfold U4
 rw [if_neg (by omega),if_neg (by omega),if_pos h]
 exact ⟨rfl,rfl,rfl⟩
theorem Z8j (hw:WS A.segments) {f1 f2:MF} {g1 g2:Za→Int→Tr×Int×Int} (l1:Lf A g1) (l2:Lf A g2) {r:Za} (hr:OKr A r) {d left:Int} (hd:0≤d∧d≤1000) (hl:0≤left∧left≤65536)
  (h1:1≤d→∀ (k:Za) (l:Int),OKr A k→0≤l∧l≤65536→f1 A.segments (U4 A k) (d - 1) l=some (g1 k l))
  (h2:2≤d→∀ (k:Za) (l:Int),OKr A k→k.kind=1→0≤l∧l≤65536→f2 A.segments (U4 A k) (d - 2) l=some (stK A g2 k l)):Jp f1 f2 A.segments (U4 A r) d left=some (Zg4 A g1 g2 d r left):=by
 have hwt:=Z9d hw hr
 have hkn:=Zg1 hr
 obtain ⟨fr1,fr9⟩:=Z37 hr
 unfold Jp Zg4
 rw [Zrw hw hr,Option.bind_some,Zil,Zpk hr]
 by_cases k0:r.kind=0
 ·rw [if_pos k0,show (r.kind == 0)=true from by rw [k0];rfl,cond_true]
 rw [if_neg k0,show (r.kind == 0)=false from Xk k0,cond_false]
 have hlv:(cond (decide (d < 1)) true (cond (cond (r.kind == 9) (decide (0 < (U4 A r).Count)) false) (decide (d < 2)) false))=decide (d < lvR r):=by
  unfold lvR
  rw [if_neg k0]
  by_cases k9:r.kind=9
  ·rw [show (r.kind == 9)=true from by rw [k9];rfl,(fr9 k9).2.2,cond_true]
   by_cases hc:0 < r.count
   ·rw [if_pos ⟨k9,hc⟩,decide_eq_true hc,cond_true]
    by_cases hd1:d < 1
    ·rw [decide_eq_true hd1,cond_true,decide_eq_true (show d < 2 by omega)]
    rw [decide_eq_false hd1,cond_false]
   rw [if_neg (fun q=>hc q.2),decide_eq_false hc,cond_false]
   cases decide (d < 1) <;> rfl
  rw [show (r.kind == 9)=false from Xk k9,cond_false,cond_false,if_neg (fun q=>k9 q.1)]
  cases decide (d < 1) <;> rfl
 rw [hlv]
 have hwx:((cond (r.kind == 1) (some (IntKind.i64.wrap ((IntKind.i64.wrap (1+(U4 A r).Data))+(U4 A r).Ptrs))) (some (IntKind.i64.wrap (1+Yx r)))).bind fun (z5:Int)=>(cond (r.kind == 9) (some (IntKind.i64.wrap (1+(IntKind.i64.wrap ((U4 A r).Count * (IntKind.i64.wrap ((IntKind.i64.wrap (1+(U4 A r).Data))+(U4 A r).Ptrs))))))) (some z5)))=some (wtR r):=by
  unfold wtR
  rw [if_neg k0]
  by_cases k1:r.kind=1
  ·rw [if_pos k1,show (r.kind == 1)=true from by rw [k1];rfl,cond_true,Option.bind_some,show (r.kind == 9)=false from Xk (by omega),cond_false,(fr1 k1).1,(fr1 k1).2]
   cases hr with
   | z=>simp [r0] at k1
   | st s a d p hd hp hin=>simp only;rw [Z4 (x:=1+d) (by omega) (by omega),Z4 (by omega) (by omega)]
   | li k s a n hk=>simp only at k1;omega
   | co=>simp at k1
   | at_=>simp at k1
  rw [if_neg k1,show (r.kind == 1)=false from Xk k1,cond_false,Option.bind_some]
  by_cases k9:r.kind=9
  ·rw [if_pos k9,show (r.kind == 9)=true from by rw [k9];rfl,cond_true,(fr9 k9).1,(fr9 k9).2.1,(fr9 k9).2.2]
   cases hr with
   | z=>simp [r0] at k9
   | st=>simp at k9
   | li k s a n hk=>simp only at k9;omega
   | at_=>simp at k9
   | co s a d p n hd hp hn hwx hin =>
    have:n * (1+d+p)=n+n * (d+p):=by rw [Int.add_assoc,Int.mul_add,Int.mul_one]
    simp only
    rw [Z4 (x:=1+d) (by omega) (by omega),Z4 (x:=1+d+p) (by omega) (by omega),Z4 (x:=n * (1+d+p)) (by omega) (by omega),Z4 (by omega) (by omega)]
  have hkc:Yx r=r.count:=by unfold Yx;rw [if_neg k1]
  rw [if_neg k9,show (r.kind == 9)=false from Xk k9,cond_false,Z4 (by omega) (by omega),hkc]
 by_cases hb1:d < lvR r
 ·rw [decide_eq_true hb1,cond_true,if_pos (.inl hb1)]
 rw [decide_eq_false hb1,cond_false,Option.bind_some]
 have hstep2:∀ {K:Int→Option (Tr×Int×Int)},((cond (r.kind == 1) (some (IntKind.i64.wrap ((IntKind.i64.wrap (1+(U4 A r).Data))+(U4 A r).Ptrs))) (some (IntKind.i64.wrap (1+Yx r)))).bind fun (z5:Int)=>(cond (r.kind == 9) (some (IntKind.i64.wrap (1+(IntKind.i64.wrap ((U4 A r).Count * (IntKind.i64.wrap ((IntKind.i64.wrap (1+(U4 A r).Data))+(U4 A r).Ptrs))))))) (some z5)).bind K)=K (wtR r):=fun {K}=>by
  rw [← Option.bind_assoc,hwx,Option.bind_some]
 rw [hstep2]
 by_cases hb2:left < wtR r
 ·rw [decide_eq_true hb2,cond_true,if_pos (.inr hb2)]
 rw [decide_eq_false hb2,cond_false,if_neg (by omega),Z4 (x:=left - wtR r) (by omega) (by omega)]
 have hlvd:1≤d:=by
  have:1≤lvR r:=by unfold lvR;rw [if_neg k0];split <;> omega
  omega
 have hN:Yx r=(((Yx r).toNat:Nat):Int):=by omega
 -- one kid
 have hkf:∀ (i:Nat) (l:Int),i < (Yx r).toNat→(Yv A r i).2=0→0≤l∧l≤65536→(cond (r.kind == 9) ((f2 A.segments (U4 A (Yv A r i).1) (IntKind.i64.wrap (d - 2)) l).bind fun y16=>some (y16.2.1,y16.2.2,y16.1.Kind,y16.1.Words,y16.1.Kids)) (cond (cond (r.kind == 1) true (r.kind == 8)) ((f1 A.segments (U4 A (Yv A r i).1) (IntKind.i64.wrap (d - 1)) l).bind fun y17=>some (y17.2.1,y17.2.2,y17.1.Kind,y17.1.Words,y17.1.Kids)) (some (l,(Yv A r i).2,(Yv A r i).1.kind,Xf A (Yv A r i).1,([]:List Tr)))))=some ((V6 A g1 g2 r (Yv A r i).1 l).2.1,(V6 A g1 g2 r (Yv A r i).1 l).2.2,(V6 A g1 g2 r (Yv A r i).1 l).1.Kind,(V6 A g1 g2 r (Yv A r i).1 l).1.Words,(V6 A g1 g2 r (Yv A r i).1 l).1.Kids):=fun i l hi he hl=>by
  rw [Z4 (x:=d - 2) (by omega) (by omega),Z4 (x:=d - 1) (by omega) (by omega)]
  unfold V6
  by_cases k9:r.kind=9
  ·have hkc:Yx r=r.count:=by unfold Yx;rw [if_neg (by omega)]
   have hd2:2≤d:=by
    have:lvR r=2:=by unfold lvR;rw [if_neg k0,if_pos ⟨k9,by omega⟩]
    omega
   rw [if_pos k9,show (r.kind == 9)=true from by rw [k9];rfl,cond_true,h2 hd2 _ l (Zax hr i) (Zu0 k9 ⟨by omega,by omega⟩) hl,Option.bind_some]
  rw [if_neg k9,show (r.kind == 9)=false from Xk k9,cond_false]
  by_cases k18:r.kind=1∨r.kind=8
  ·have e1:cond (r.kind == 1) true (r.kind == 8)=true:=by rcases k18 with k | k <;> rw [k] <;> rfl
   rw [if_pos k18,e1,cond_true,h1 hlvd _ l (Zax hr i) hl,Option.bind_some]
  rw [if_neg k18,show (r.kind == 1)=false from Xk (by omega),show (r.kind == 8)=false from Xk (by omega),cond_false,cond_false,he]
  rfl
 have hL:=Ztf (step:=Jq f1 f2 A.segments (U4 A r) d) (f:=V6 A g1 g2 r) hr (Yx r).toNat (by omega) (fun i l acc hi ha hl=>by
  unfold Jq
  simp only
  rw [Zpk hr,Option.bind_some,show decide ((i:Int) < Yx r)=true from by rw [decide_eq_true_eq];omega,cond_true,Z2s hw hr,Option.bind_some]
  simp only [Zw6]
  by_cases q1:(Yv A r i).2≠0
  ·rw [if_pos q1,bne_iff_ne.2 q1,cond_true]
  rw [if_neg q1,bne_eq_false_iff_eq.2 (show (Yv A r i).2=0 by omega),cond_false,Zrw hw (Zax hr i),Option.bind_some,Zil,Zil,hkf i l hi (by omega) hl,Option.bind_some]
  simp only [Yck]
  by_cases q2:(V6 A g1 g2 r (Yv A r i).1 l).2.2≠0
  ·rw [if_pos q2,bne_iff_ne.2 q2,cond_true]
  rw [if_neg q2,bne_eq_false_iff_eq.2 (show (V6 A g1 g2 r (Yv A r i).1 l).2.2=0 by omega),cond_false,Zbm (by simp only [List.length_singleton];omega) (by simp only [List.length_singleton];omega),Option.bind_some,Z4 (by omega) (by omega)]
  rfl) (fun l acc=>by
  unfold Jq
  simp only
  rw [Zpk hr,Option.bind_some,show decide ((((Yx r).toNat:Nat):Int) < Yx r)=false from by rw [decide_eq_false_iff_not];omega,cond_false]) (Z4q l1 l2 r) (Yx r).toNat 0 (left - wtR r) [] (by omega) rfl (by omega)
 rw [show (((0:Nat):Int))=0 from rfl] at hL
 rw [hL,Option.bind_some]
 simp only
 by_cases hq:(Yw (V6 A g1 g2 r) (Yv A r) (Yx r).toNat 0 (left - wtR r) []).2.2=0
 ·rw [if_pos hq]
  simp only
  rw [show (Yw (V6 A g1 g2 r) (Yv A r) (Yx r).toNat 0 (left - wtR r) []).2=((Yw (V6 A g1 g2 r) (Yv A r) (Yx r).toNat 0 (left - wtR r) []).2.1,0) from by rw [← hq]]
 rw [if_neg hq]
theorem Z17 (hw:WS A.segments) (k d:Nat):Lf A (Yy A k d):=by
 unfold Yy
 split
 ·exact Z0k hw _
 exact Z3l
theorem Z2t (hw:WS A.segments):∀ (K:Nat),(∀ (d:Nat) r left,d≤1000→OKr A r→0≤left∧left≤65536→2 * d+1≤K→(Ys K).1 A.segments (U4 A r) d left=some (Zcr A d r left)) ∧
  (∀ (d:Nat) r left,d≤1000→OKr A r→r.kind=1→0≤left∧left≤65536→2 * d+2≤K→(Ys K).2 A.segments (U4 A r) d left=some (stK A (Zcr A d) r left))
 | 0=>⟨fun d r left _ _ _ h=>by omega,fun d r left _ _ _ _ h=>by omega⟩
 | K+1=>by
  obtain ⟨i1,i2⟩:=Z2t hw K
  refine ⟨fun d r left hd hr hl hK => ?_,fun d r left hd hr h1 hl hK => ?_⟩
  ·show Jp (Ys K).1 (Ys K).2 A.segments (U4 A r) d left=_
   rw [Zht]
   refine Z8j hw (Z17 hw 1 d) (Z17 hw 2 d) hr (by omega) hl (fun hd1 k l hk hl => ?_) (fun hd2 k l hk k1 hl => ?_)
   ·have:=i1 (d - 1) k l (by omega) hk hl (by omega)
    rw [show (((d - 1:Nat):Int))=(d:Int) - 1 by omega] at this
    unfold Yy
    rw [if_pos (by omega)]
    exact this
   have:=i2 (d - 2) k l (by omega) hk k1 hl (by omega)
   rw [show (((d - 2:Nat):Int))=(d:Int) - 2 by omega] at this
   unfold Yy
   rw [if_pos (by omega)]
   exact this
  show V7 (Ys K).1 (Ys K).2 A.segments (U4 A r) d left=_
  exact Z3u hw (Z0k hw d) hr h1 hl fun k l hk hl=>i1 d k l hd hk hl (by omega)
theorem Z8o (hw:WS A.segments) {d:Nat} (hd:d≤1000) {r:Za} (hr:OKr A r) {left:Int} (hl:0≤left∧left≤65536):Zc4 A.segments (U4 A r) d left=some (Zcr A d r left) :=
 Zf5 (2 * d+1) fun k hk=>(Z2t hw k).1 d r left hd hr hl hk
def Zjz (A:Zj) (x:Ya):Tr×Int×Int :=
 if (atR A 0 0).2≠0 then (⟨0,[],[]⟩,0,(atR A 0 0).2)
 else
  let q:=Zcr A (Zbq x).Depth.toNat (atR A 0 0).1 (Zbq x).Weight
  if q.2.2≠0 then (⟨0,[],[]⟩,0,q.2.2) else (q.1,(Zbq x).Weight - q.2.1,0)
theorem Z61 (hw:WS A.segments) (x:Ya):Km A.segments x=some (Zjz A x):=by
 unfold Km Zjz
 rw [Z3z,Option.bind_some,Z3v hw,Option.bind_some]
 simp only [Zw6]
 have hd:0≤(Zbq x).Depth∧(Zbq x).Depth≤64:=Zr5 _ _ (by decide)
 have hW:0≤(Zbq x).Weight∧(Zbq x).Weight≤65536:=Zr5 _ _ (by decide)
 by_cases h:(atR A 0 0).2≠0
 ·rw [if_pos h,show ((atR A 0 0).2 != 0)=true from bne_iff_ne.2 h,cond_true]
 rw [if_neg h,show ((atR A 0 0).2 != 0)=false from bne_eq_false_iff_eq.2 (by omega),cond_false]
 have hm:=Z8o hw (d:=(Zbq x).Depth.toNat) (by omega) (Zm7 (A:=A) 0 0) hW
 rw [show (((Zbq x).Depth.toNat:Nat):Int)=(Zbq x).Depth by omega] at hm
 rw [hm,Option.bind_some]
 by_cases hq:(Zcr A (Zbq x).Depth.toNat (atR A 0 0).1 (Zbq x).Weight).2.2≠0
 ·rw [if_pos hq,show ((Zcr A (Zbq x).Depth.toNat (atR A 0 0).1 (Zbq x).Weight).2.2 != 0)=true from bne_iff_ne.2 hq,cond_true]
 have h0:(Zcr A (Zbq x).Depth.toNat (atR A 0 0).1 (Zbq x).Weight).2.2=0:=by omega
 have hb:=Z0k hw _ _ _ (Zm7 (A:=A) 0 0) hW.1 h0
 rw [if_neg hq,show ((Zcr A (Zbq x).Depth.toNat (atR A 0 0).1 (Zbq x).Weight).2.2 != 0)=false from bne_eq_false_iff_eq.2 h0,cond_false,Z4 (by omega) (by omega)]
theorem Yax (x:Ya):(Zjz A x).2=Z7e A x:=by
 unfold Zjz Z7e
 by_cases h:(atR A 0 0).2≠0
 ·rw [if_pos h,if_pos h]
 rw [if_neg h,if_neg h]
 simp only
 by_cases hq:(Zcr A (Zbq x).Depth.toNat (atR A 0 0).1 (Zbq x).Weight).2.2≠0
 ·rw [if_pos hq,if_pos hq]
 rw [if_neg hq,if_neg hq]
end
section
variable {A:Zj}
theorem Zxc (hw:WS A.segments) {r:Za} (h:OKr A r):((Xf A r).length:Int)=Zfl r:=by
 unfold Xf Zfl
 cases h with
 | z=>rfl
 | li k s a n hk hn hin=>simp only;rw [if_neg (by omega),if_neg (by omega),if_neg (by omega),if_neg (by omega)];rfl
 | co=>rfl
 | at_=>rfl
 | st s a d p hd hp hin =>
  have hi':=inB_iff.1 hin
  simp only [show ¬ (1:Int)=10 from by decide,if_false,if_true,List.length_take,List.length_drop]
  omega
theorem Zup (hw:WS A.segments) {r:Za} (h:OKr A r) {i:Nat} (hi:i < (Xf A r).length):(Xf A r)[i]=Zxb A r (i:Int):=by
 have hl:=Zxc hw h
 unfold Zxb
 rw [if_neg (by omega)]
 cases h with
 | z=>simp [Xf,r0] at hi
 | li k s a n hk hn hin =>
  have:Xf A ⟨some A,k,s,a,0,0,n,0,0⟩=[]:=by unfold Xf;rw [if_neg (by simp only;omega),if_neg (by simp only;omega)]
  simp [this] at hi
 | co=>simp [Xf] at hi
 | at_ s a c j n hc h0 h1 hn hin =>
  have:i=0:=by
   simp [Xf] at hi;exact hi
  subst this
  rfl
 | st s a d p hd hp hin =>
  have hi':=inB_iff.1 hin
  have hid:(i:Int) < d:=by simp [Zfl] at hl;omega
  simp only [Xf,show ¬ (1:Int)=10 from by decide,if_false,if_true,List.getElem_take,List.getElem_drop]
  unfold wd
  rw [show (a+(i:Int)).toNat=a.toNat+i by omega,List.getElem?_eq_getElem (by omega)]
  rfl
theorem Z6l (r:Za):Gi r=some (if r.kind=9 then (r.words,r.ptrs) else (0,0)):=by
 unfold Gi
 by_cases h:r.kind=9
 ·rw [if_pos h,show (r.kind != 9)=false from by rw [h];rfl];rfl
 rw [if_neg h,show (r.kind != 9)=true from bne_iff_ne.2 h];rfl
end
theorem Y8 {t x:Tr} (h:x∈t.Kids):SizeOf.sizeOf x < SizeOf.sizeOf t:=by
 obtain ⟨k,w,ks⟩:=t
 have:=List.sizeOf_lt_of_mem h
 simp only [Zb.mk.sizeOf_spec]
 simp only at this
 omega
theorem Z19 {α R:Type} (xs:List α) (step:Int→Option (Int ⊕ R)) (p:α→Bool) (e o:R) (hl:(xs.length:Int)≤140737488355328)
  (h1:∀ (i:Nat) (x:α),i < xs.length→xs[i]? = some x→x∈xs→step i=some (if p x=true then .inr e else .inl (IntKind.i64.wrap ((i:Int)+1)))) (h2:step xs.length=some (.inr o)):Zw step 0=some (if xs.any p=true then e else o):=by
 have hloop:=Z6c xs (fun i (_:Unit)=>i) step (fun _ x=>some (if p x=true then .inr e else .inl ())) (fun _=>o) (fun i s x hi hx=>by
  rw [h1 i x hi hx (List.mem_of_getElem? hx),Z4 (by omega) (by omega)]
  cases p x <;> rfl) (fun _=>h2) ()
 refine hloop.trans ?_
 rw [Zv2 p (fun s _=>s) e (fun _ _=>True) xs.length xs () 0 (by omega) trivial (fun s k x _ _ _=>⟨by cases p x <;> rfl,fun _=>trivial⟩)]
def tr {α:Type} (p:α→Bool):List α→List α
 | []=>[]
 | x::xs=>match tr p xs with
  | []=>if p x=true then [] else [x]
  | y::ys=>x::y::ys
def trN {α:Type} (p:α→Bool) (l:List α):Nat→Nat
 | 0=>0
 | n+1=>match l[n]? with
  | some x=>if p x=true then trN p l n else n+1
  | none=>0
theorem Zvb {α:Type} {p:α→Bool} {x:α} (h:p x=true):∀ l:List α,tr p (l++[x])=tr p l
 | []=>by simp [tr,h]
 | y::l=>by simp only [List.cons_append,tr,Zvb h l]
theorem Zva {α:Type} {p:α→Bool} {x:α} (h:p x=false):∀ l:List α,tr p (l++[x])=l++[x]
 | []=>by simp [tr,h]
 | y::l=>by
  simp only [List.cons_append,tr,Zva h l]
  cases hl:l++[x] with
  | nil=>simp at hl
  | cons a b=>rfl
theorem Zuf {α:Type} {p:α→Bool} {l:List α}:∀ n,n≤l.length→l.take (trN p l n)=tr p (l.take n)∧trN p l n≤n
 | 0,_=>by simp [trN,tr]
 | n+1,h=>by
  have hn:l[n]? = some l[n]:=List.getElem?_eq_getElem (by omega)
  have e:l.take (n+1)=l.take n++[l[n]]:=by rw [List.take_add_one,hn];rfl
  obtain ⟨h1,h2⟩:=Zuf (p:=p) (l:=l) n (by omega)
  unfold trN
  rw [hn]
  simp only
  split
  ·rename_i hp
   rw [e,Zvb hp]
   exact ⟨h1,by omega⟩
  rename_i hp
  rw [e,Zva (by simpa using hp),← e]
  exact ⟨rfl,Nat.le_refl _⟩
theorem Zd7 {α:Type} (p:α→Bool):∀ l:List α,(tr p l).length≤l.length
 | []=>by simp [tr]
 | x::l=>by
  have:=Zd7 p l
  simp only [tr]
  split
  ·split <;> simp
  rename_i y ys he
  rw [he] at this
  simp at this ⊢
  omega
theorem Zjy {α:Type} {p:α→Bool} {x:α}:∀ {l:List α},x∈tr p l→x∈l
 | [],h=>by simp [tr] at h
 | y::l,h=>by
  simp only [tr] at h
  split at h
  ·split at h
   ·simp at h
   simp at h;simp [h]
  rename_i z zs he
  rw [← he] at h
  rcases List.mem_cons.1 h with h | h
  ·simp [h]
  exact List.mem_cons_of_mem _ (Zjy h)
theorem Zzm {α:Type} {p:α→Bool}:∀ l:List α,tr p (tr p l)=tr p l
 | []=>rfl
 | x::l=>by
  have ih:=Zzm (p:=p) l
  simp only [tr]
  cases h:tr p l with
  | nil =>
   simp only
   cases hx:p x <;> simp [tr,hx]
  | cons y ys =>
   rw [h] at ih
   simp only [tr] at ih ⊢
   rw [ih]
theorem Z06 {α β:Type} {p:α→Bool} {q:β→Bool} {f:α→β} (h:∀ x,q (f x)=p x):∀ l:List α,tr q (l.map f)=(tr p l).map f
 | []=>rfl
 | x::l=>by
  simp only [List.map_cons,tr,Z06 h l]
  cases tr p l with
  | nil=>simp only [List.map_nil,h];split <;> rfl
  | cons y ys=>rfl
theorem Zvh {α:Type} (l:List α) (p:α→Bool) (step:Int→Option (Int ⊕ Int)) (hl:(l.length:Int)≤140737488355328)
  (h0:step 0=some (.inr 0)) (h1:∀ (n:Nat) (x:α),l[n]? = some x→n < l.length→step ((n+1:Nat):Int)=some (if p x=true then .inl (n:Int) else .inr ((n+1:Nat):Int))):Zw step (l.length:Int)=some (trN p l l.length:Int):=by
 have key:∀ n:Nat,n≤l.length→Zw step (n:Int)=some (trN p l n:Int):=fun n=>by
  induction n with
  | zero=>intro _;exact Y0 h0
  | succ n ih =>
   intro hn
   have hx:l[n]? = some l[n]:=List.getElem?_eq_getElem (by omega)
   have h:=h1 n _ hx (by omega)
   unfold trN
   rw [hx]
   simp only
   split
   ·rename_i hp
    rw [if_pos hp] at h
    rw [Xz h]
    exact ih (by omega)
   rename_i hp
   rw [if_neg hp] at h
   exact Y0 h
 exact key l.length (Nat.le_refl _)
theorem Zs1 {α:Type} {l:List α} {n:Nat} (h:n≤l.length):Zjg l 0 (n:Int)=some (l.take n):=by
 rw [Zvo (by omega) (by omega) (by omega)]
 simp
theorem Ybo {n:Nat}:decide (0 < ((n+1:Nat):Int))=true:=by rw [decide_eq_true_eq];omega
theorem Z07 {l:List Int} (hl:(l.length:Int)≤140737488355328):Zf8 l=some (tr (fun x=>x == 0) l):=by
 have hloop:=Zvh l (fun x=>x == 0) (Zaz l) hl (by unfold Zaz;rfl) (fun n x hx hn=>by
  unfold Zaz
  rw [Ybo,cond_true,Z4 (by omega) (by omega)]
  have e:((n+1:Nat):Int) - 1=(n:Int):=by omega
  rw [e,Y5 hx]
  simp only [Option.bind_some,cond_true]
  cases x == 0 <;> rfl)
 obtain ⟨h1,h2⟩:=Zuf (p:=fun x=>x == 0) (l:=l) l.length (Nat.le_refl _)
 unfold Zf8
 rw [hloop,Option.bind_some,Zs1 h2,Option.bind_some,h1,List.take_length]
theorem Z20 {l:List Tr} (hl:(l.length:Int)≤140737488355328):Zhh l=some (tr (fun x=>x.Kind == 0) l):=by
 have hloop:=Zvh l (fun x=>x.Kind == 0) (Zbx l) hl (by unfold Zbx;rfl) (fun n x hx hn=>by
  unfold Zbx
  rw [Ybo,cond_true,Z4 (by omega) (by omega)]
  have e:((n+1:Nat):Int) - 1=(n:Int):=by omega
  rw [e,Y5 hx]
  simp only [Option.bind_some,cond_true]
  cases x.Kind == 0 <;> rfl)
 obtain ⟨h1,h2⟩:=Zuf (p:=fun x=>x.Kind == 0) (l:=l) l.length (Nat.le_refl _)
 unfold Zhh
 rw [hloop,Option.bind_some,Zs1 h2,Option.bind_some,h1,List.take_length]
theorem Z8k {l:List Int} (hl:l.length * 8≤140737488355328):Zaf l=some (tr (fun x=>x == 0) l):=by
 have hloop:=Zvh l (fun x=>x == 0) (V3 l) (by omega) (by unfold V3;rfl) (fun n x hx hn=>by
  unfold V3
  rw [Ybo,cond_true,Z4 (by omega) (by omega)]
  have e:((n+1:Nat):Int) - 1=(n:Int):=by omega
  rw [e,Y5 hx]
  simp only [Option.bind_some,cond_true]
  cases x == 0 <;> rfl)
 obtain ⟨h1,h2⟩:=Zuf (p:=fun x=>x == 0) (l:=l) l.length (Nat.le_refl _)
 have h3:=Zd7 (fun x=>x == 0) l
 unfold Zaf
 rw [hloop,Option.bind_some,Zs1 h2,Option.bind_some,h1,List.take_length,Zbm (by rw [List.length_nil];omega) (by rw [List.length_nil];omega)]
 rfl
inductive Bd:Tr→Prop
 | mk (t:Tr) (h1:t.Words.length * 8≤140737488355328) (h2:t.Kids.length * 56≤140737488355328) (h3:∀ w∈t.Words,0≤w∧w < 18446744073709551616) (h4:∀ k∈t.Kids,Bd k):Bd t
theorem Bd.w {t:Tr} (h:Bd t):t.Words.length * 8≤140737488355328:=by cases h;assumption
theorem Bd.k {t:Tr} (h:Bd t):t.Kids.length * 56≤140737488355328:=by cases h;assumption
theorem Bd.u {t:Tr} (h:Bd t):∀ w∈t.Words,0≤w∧w < 18446744073709551616:=by cases h;assumption
theorem Bd.all {t:Tr} (h:Bd t):∀ k∈t.Kids,Bd k:=by cases h;assumption
def nrm (t:Tr):Tr :=
 if t.Kind=0 then ⟨0,[],[]⟩
 else if t.Kind=1 then ⟨1,tr (fun x=>x == 0) t.Words,tr (fun x=>x.Kind == 0) (t.Kids.attach.map fun k=>nrm k.1)⟩
 else ⟨t.Kind,t.Words,t.Kids.attach.map fun k=>nrm k.1⟩
termination_by SizeOf.sizeOf t
decreasing_by all_goals exact Y8 k.2
theorem Ziz (t:Tr):nrm t=if t.Kind=0 then ⟨0,[],[]⟩ else if t.Kind=1 then ⟨1,tr (fun x=>x == 0) t.Words,tr (fun x=>x.Kind == 0) (t.Kids.map nrm)⟩ else ⟨t.Kind,t.Words,t.Kids.map nrm⟩:=by
 rw [nrm]
 simp only [List.attach_map_val]
theorem Qg (t:Tr):(nrm t).Kind=t.Kind:=by
 rw [Ziz]
 split
 ·rename_i h;exact h.symm
 split
 ·rename_i h;exact h.symm
 rfl
theorem Z8y {α β:Type} {xs:List α} {f:α→β} {z:β} {i m:Nat} {x:α} (hi:i+(m+1)=xs.length) (hx:xs[i]? = some x) :
  ((xs.take i).map f++List.replicate (m+1) z).set i (f x)=(xs.take (i+1)).map f++List.replicate m z:=by
 have hl:((xs.take i).map f).length=i:=by rw [List.length_map,List.length_take];omega
 rw [List.set_append,if_neg (by omega),hl,Nat.sub_self,List.replicate_succ,List.set_cons_zero,List.take_add_one,hx]
 simp
theorem Z71 {α β:Type} (xs:List α) (f:α→β) (z:β) (step:Int×List β→Option ((Int×List β) ⊕ List β)) (hl:(xs.length:Int)≤140737488355328)
  (h1:∀ (i:Nat) (x:α) (out:List β) (y:β),i < xs.length→xs[i]? = some x→x∈xs→out[i]? = some y→step ((i:Int),out)=some (.inl (IntKind.i64.wrap ((i:Int)+1),Xu out (i:Int) (f x))))
  (h2:∀ out,step ((xs.length:Int),out)=some (.inr out)):Zw step (0,List.replicate xs.length z)=some (xs.map f):=by
 have key:∀ m i,i+m=xs.length→Zw step ((i:Int),(xs.take i).map f++List.replicate m z)=some (xs.map f):=fun m=>by
  induction m with
  | zero =>
   intro i hi
   have hi':i=xs.length:=by omega
   subst hi'
   rw [List.take_length,List.replicate_zero,List.append_nil]
   exact Y0 (h2 _)
  | succ m ih =>
   intro i hi
   have hx:xs[i]? = some xs[i]:=List.getElem?_eq_getElem (by omega)
   have hl':((xs.take i).map f).length=i:=by rw [List.length_map,List.length_take];omega
   have hy:((xs.take i).map f++List.replicate (m+1) z)[i]? = some z:=by
    rw [List.getElem?_append_right (by omega),hl',Nat.sub_self,List.replicate_succ];rfl
   have h:=h1 i _ _ z (by omega) hx (List.mem_of_getElem? hx) hy
   rw [Z4 (by omega) (by omega)] at h
   rw [Xz h]
   unfold Xu
   rw [Int.toNat_natCast,Z8y (by omega) hx]
   exact ih (i+1) (by omega)
 have:=key xs.length 0 (by omega)
 simpa using this
theorem Z40:∀ (k:Nat) (t:Tr),Bd t→SizeOf.sizeOf t < k→Zae k t=some (nrm t)
 | 0,t,_,h=>by omega
 | k+1,t,hb,hk=>by
  have ih:∀ x∈t.Kids,Zae k x=some (nrm x):=fun x hx=>Z40 k x (hb.all x hx) (by have:=Y8 hx;omega)
  have hw:=hb.w
  have hkd:=hb.k
  show Zm8 (Zae k) t=_
  unfold Zm8
  rw [Ziz]
  by_cases h0:t.Kind=0
  ·rw [if_pos h0,h0];rfl
  have e0:(t.Kind == 0)=false:=by rw [beq_eq_false_iff_ne];exact h0
  rw [if_neg h0,e0,cond_false]
  have main:∀ (w:List Int) (ks:List Tr),(ks.length:Int)≤140737488355328→(56:Int) * ks.length≤140737488355328→(∀ x∈ks,Zae k x=some (nrm x)) →
    ((cond (decide (0 < ((w,ks).2.length:Int))) ((Zfn 56 ((w,ks).2.length:Int) (⟨(0:Int),([]:(List Int)),([]:(List Zb))⟩:Zb)).bind fun l6=>some l6) (some ([]:List Zb))).bind fun (z5:(List Zb))=>(Zw (Zcv (Zae k) (w,ks)) (0,z5)).bind fun (z14:(List Zb))=>some (⟨t.Kind,(w,ks).1,z14⟩:Zb))=some ⟨t.Kind,w,ks.map nrm⟩:=fun w ks h1 h2 hks=>by
   have hz:(cond (decide (0 < ((w,ks).2.length:Int))) ((Zfn 56 ((w,ks).2.length:Int) (⟨(0:Int),([]:(List Int)),([]:(List Zb))⟩:Zb)).bind fun l6=>some l6) (some ([]:List Zb)))=some (List.replicate ks.length (⟨0,[],[]⟩:Tr)):=by
    cases ks with
    | nil=>rfl
    | cons y ys =>
     have:decide (0 < (((w,y::ys).2.length:Nat):Int))=true:=by rw [decide_eq_true_eq];simp
     rw [this,cond_true,Zku (Int.natCast_nonneg _) h2 h1,Option.bind_some,Int.toNat_natCast]
   rw [hz,Option.bind_some]
   rw [Z71 ks nrm _ (Zcv (Zae k) (w,ks)) h1 (fun i x out z hi hx hm hz=>by
     unfold Zcv
     simp only
     rw [Zb3 hi,cond_true,Y5 hx,Option.bind_some,hks x hm,Option.bind_some,Y5 hz,Option.bind_some]) (fun out=>by
     unfold Zcv
     simp only
     rw [Zbr,cond_false]),Option.bind_some]
  by_cases h1:t.Kind=1
  ·have e1:(t.Kind == 1)=true:=by rw [beq_iff_eq];exact h1
   have l1:=Zd7 (fun x:Tr=>x.Kind == 0) t.Kids
   rw [if_pos h1,e1,cond_true,Z07 (by omega),Option.bind_some,Z20 (by omega),Option.bind_some,Option.bind_some]
   rw [main _ _ (by omega) (by omega) (fun x hx=>ih x (Zjy hx)),Z06 (fun x=>by rw [Qg]),h1]
  have e1:(t.Kind == 1)=false:=by rw [beq_eq_false_iff_ne];exact h1
  rw [if_neg h1,e1,cond_false,Option.bind_some]
  exact main _ _ (by omega) (by omega) ih
theorem Z41 {t:Tr} (h:Bd t):Znm t=some (nrm t):=Zf5 (SizeOf.sizeOf t+1) fun k hk=>Z40 k t h (by omega)
theorem Zjp {α:Type} {p:α→Bool} {x:α} {l:List α} (h:tr p l=[]):tr p (x::l)=if p x=true then [] else [x]:=by simp only [tr,h]
theorem Zmu {α:Type} {p:α→Bool} {x:α} {l:List α} (h:tr p l≠[]):tr p (x::l)=x::tr p l:=by
 simp only [tr]
 split
 ·rename_i h';exact absurd h' h
 rename_i h';rw [h']
theorem Z4p:∀ (l:List Tr) (n:Nat) (acc:Int),(l.zipIdx n).foldl (fun a p=>if p.1.Kind=0 then a else ((p.2+1:Nat):Int)) acc=if (tr (fun x=>x.Kind == 0) l).length=0 then acc else ((n+(tr (fun x=>x.Kind == 0) l).length:Nat):Int)
 | [],n,acc=>by simp [tr]
 | x::l,n,acc=>by
  rw [List.zipIdx_cons,List.foldl_cons,Z4p l (n+1)]
  by_cases h:tr (fun x=>x.Kind == 0) l=[]
  ·rw [Zjp h,h]
   by_cases hx:x.Kind=0
   ·simp [hx]
   simp [hx]
  have h':(tr (fun x=>x.Kind == 0) l).length≠0:=by simpa using h
  rw [Zmu h,if_neg h',List.length_cons,if_neg (by omega)]
  congr 1
  omega
theorem Z5i {α:Type} (p:α→Bool) (l:List α):l.take (tr p l).length=tr p l:=by
 obtain ⟨h1,h2⟩:=Zuf (p:=p) (l:=l) l.length (Nat.le_refl _)
 rw [List.take_length] at h1
 rw [← h1,List.length_take]
 congr 1
 omega
theorem Z8p {k:Nat} {t:Tr} (hl:t.Kids.length * 56≤140737488355328) (ih:∀ x∈t.Kids,Xt k x=some (nrm x)) :
  Zw (Qv (Xt k) t) (0,0,[])=some (if (tr (fun x=>x.Kind == 0) (t.Kids.map nrm)).length=0 then 0 else ((tr (fun x=>x.Kind == 0) (t.Kids.map nrm)).length:Int),t.Kids.map nrm):=by
 have key:∀ (l pre:List Tr) (a:Int),t.Kids=pre++l→Zw (Qv (Xt k) t) (a,((pre.length:Nat):Int),pre.map nrm)=some (((l.map nrm).zipIdx pre.length).foldl (fun a p=>if p.1.Kind=0 then a else ((p.2+1:Nat):Int)) a,t.Kids.map nrm):=fun l=>by
  induction l with
  | nil =>
   intro pre a hp
   rw [List.append_nil] at hp
   refine Y0 ?_
   unfold Qv
   simp only
   rw [hp,Zbr,cond_false]
   rfl
  | cons x l ihl =>
   intro pre a hp
   have hx:t.Kids[pre.length]? = some x:=by rw [hp,List.getElem?_append_right (Nat.le_refl _),Nat.sub_self];rfl
   have hi:pre.length < t.Kids.length:=by rw [hp];simp
   have hm:x∈t.Kids:=List.mem_of_getElem? hx
   have hs:Qv (Xt k) t (a,((pre.length:Nat):Int),pre.map nrm)=some (.inl (if x.Kind=0 then a else ((pre.length+1:Nat):Int),(((pre++[x]).length:Nat):Int),(pre++[x]).map nrm)):=by
    unfold Qv
    simp only
    rw [Zb3 hi,cond_true,Y5 hx,Option.bind_some,ih x hm,Option.bind_some,Zbm (by simp;omega) (by simp;omega),Option.bind_some,Z4 (by omega) (by omega),Qg]
    have e:((pre.length:Nat):Int)+1=((pre.length+1:Nat):Int):=by omega
    rw [e]
    by_cases h0:x.Kind=0
    ·simp [h0]
    have:(x.Kind != 0)=true:=by simp [h0]
    rw [this,cond_true]
    simp [h0]
   rw [Xz hs,ihl (pre++[x]) _ (by rw [hp];simp)]
   simp only [List.map_cons,List.zipIdx_cons,List.foldl_cons,List.length_append,List.length_singleton,Qg]
 have:=key t.Kids [] 0 rfl
 rw [Z4p] at this
 simpa using this
theorem Z2u:∀ (k:Nat) (t:Tr),Bd t→SizeOf.sizeOf t < k→Xt k t=some (nrm t)
 | 0,t,_,h=>by omega
 | k+1,t,hb,hk=>by
  have ih:∀ x∈t.Kids,Xt k x=some (nrm x):=fun x hx=>Z2u k x (hb.all x hx) (by have:=Y8 hx;omega)
  have hw:=hb.w
  have hkd:=hb.k
  show Zaa (Xt k) t=_
  unfold Zaa
  rw [Ziz]
  by_cases h0:t.Kind=0
  ·rw [if_pos h0,h0];rfl
  have e0:(t.Kind == 0)=false:=by rw [beq_eq_false_iff_ne];exact h0
  rw [if_neg h0,e0,cond_false,Z8p hkd ih,Option.bind_some]
  by_cases h1:t.Kind=1
  ·have e1:(t.Kind == 1)=true:=by rw [beq_iff_eq];exact h1
   rw [if_pos h1,e1,cond_true,Z8k hw,Option.bind_some]
   have l1:=Zd7 (fun x:Tr=>x.Kind == 0) (t.Kids.map nrm)
   have l2:(if (tr (fun x=>x.Kind == 0) (t.Kids.map nrm)).length=0 then (0:Int) else ((tr (fun x=>x.Kind == 0) (t.Kids.map nrm)).length:Int))=((tr (fun x=>x.Kind == 0) (t.Kids.map nrm)).length:Int):=by
    split
    ·rename_i h;rw [h];rfl
    rfl
   simp only [l2]
   rw [Zs1 l1,Option.bind_some,Z5i]
  have e1:(t.Kind == 1)=false:=by rw [beq_eq_false_iff_ne];exact h1
  rw [if_neg h1,e1,cond_false,Zbm (by rw [List.length_nil];omega) (by rw [List.length_nil];omega)]
  rfl
theorem Z8q {t:Tr} (h:Bd t):Ze3 t=some (nrm t):=Zf5 (SizeOf.sizeOf t+1) fun k hk=>Z2u k t h (by omega)
theorem Z8a:∀ (n:Nat) (t:Tr),SizeOf.sizeOf t < n→Bd t→Bd (nrm t)
 | 0,t,h,_=>by omega
 | n+1,t,hn,hb=>by
  have ih:∀ x∈t.Kids,Bd (nrm x):=fun x hx=>Z8a n x (by have:=Y8 hx;omega) (hb.all x hx)
  have hw:=hb.w
  have hk:=hb.k
  rw [Ziz]
  split
  ·exact .mk _ (by simp) (by simp) (fun w h=>by simp at h) (fun w h=>by simp at h)
  split
  ·have l1:=Zd7 (fun x:Int=>x == 0) t.Words
   have l2:=Zd7 (fun x:Tr=>x.Kind == 0) (t.Kids.map nrm)
   rw [List.length_map] at l2
   refine .mk _ (by simp only;omega) (Nat.le_trans (Nat.mul_le_mul_right 56 l2) hk) (fun w h=>hb.u w (Zjy h)) (fun x h => ?_)
   obtain ⟨y,hy,rfl⟩:=List.mem_map.1 (Zjy h)
   exact ih y hy
  refine .mk _ hw (by simp only [List.length_map];exact hk) hb.u (fun x h => ?_)
  obtain ⟨y,hy,rfl⟩:=List.mem_map.1 h
  exact ih y hy
theorem Bd.nrm {t:Tr} (h:Bd t):Bd (nrm t):=Z8a _ t (Nat.lt_succ_self _) h
theorem Zya:∀ (n:Nat) (t:Tr),SizeOf.sizeOf t < n→nrm (nrm t)=nrm t
 | 0,t,h=>by omega
 | n+1,t,hn=>by
  have ih:∀ x∈t.Kids,nrm (nrm x)=nrm x:=fun x hx=>Zya n x (by have:=Y8 hx;omega)
  have em:∀ l:List Tr,(∀ x∈l,x∈t.Kids)→(l.map nrm).map nrm=l.map nrm:=fun l hl=>by
   rw [List.map_map]
   exact List.map_congr_left fun x hx=>ih x (hl x hx)
  rw [Ziz t]
  by_cases h0:t.Kind=0
  ·rw [if_pos h0,Ziz];simp
  rw [if_neg h0]
  by_cases h1:t.Kind=1
  ·rw [if_pos h1,Ziz]
   simp only [if_neg (show ¬ (1:Int)=0 by decide),if_true]
   have q1:∀ l:List Tr,tr (fun x:Tr=>x.Kind == 0) (l.map nrm)=(tr (fun x:Tr=>x.Kind == 0) l).map nrm:=Z06 (fun x=>by rw [Qg])
   rw [Zzm,q1,Zzm,q1,em _ (fun x hx=>Zjy hx)]
  rw [if_neg h1,Ziz]
  simp only
  rw [if_neg h0,if_neg h1,em _ (fun x hx=>hx)]
theorem Zso (t:Tr):nrm (nrm t)=nrm t:=Zya _ t (Nat.lt_succ_self _)
def eqT (a b:Tr):Bool:=a.Kind == b.Kind && (a.Words == b.Words && (a.Kids.length == b.Kids.length && (a.Kids.attach.zip b.Kids).all fun p=>eqT p.1.1 p.2))
termination_by SizeOf.sizeOf a
decreasing_by exact Y8 p.1.2
def eqL:List Tr→List Tr→Bool
 | [],[]=>true
 | x::xs,y::ys=>eqT x y && eqL xs ys
 | _,_=>false
theorem Z5q:∀ (l m:List Tr) (P:Tr→Prop) (l':List {x // P x}),l'.map (·.1)=l→(l.length == m.length && (l'.zip m).all fun p=>eqT p.1.1 p.2)=eqL l m
 | [],[],P,l',h=>by cases l' <;> simp_all [eqL]
 | [],y::m,P,l',h=>by cases l' <;> simp_all [eqL]
 | x::l,[],P,l',h=>by cases l' <;> simp_all [eqL]
 | x::l,y::m,P,l',h=>by
  cases l' with
  | nil=>simp at h
  | cons z l' =>
   simp only [List.map_cons,List.cons.injEq] at h
   have ih:=Z5q l m P l' h.2
   simp only [List.length_cons,List.zip_cons_cons,List.all_cons,eqL,h.1]
   rw [← ih]
   have:(l.length+1 == m.length+1)=(l.length == m.length):=by simp
   rw [this]
   cases l.length == m.length <;> cases eqT x y <;> rfl
theorem Ybj (a b:Tr):eqT a b=(a.Kind == b.Kind && (a.Words == b.Words && eqL a.Kids b.Kids)):=by
 rw [eqT,Z5q a.Kids b.Kids (·∈a.Kids) a.Kids.attach (by simp)]
theorem Z7i (x y:Tr) (xs ys:List Tr):eqL (x::xs) (y::ys)=(eqT x y && eqL xs ys):=rfl
theorem Zx3:∀ (n:Nat) (a b:Tr),SizeOf.sizeOf a < n→(eqT a b=true↔a=b)
 | 0,a,b,h=>by omega
 | n+1,a,b,hn=>by
  have ih:∀ x∈a.Kids,∀ y,eqT x y=true↔x=y:=fun x hx y=>Zx3 n x y (by have:=Y8 hx;omega)
  have hl:∀ (l m:List Tr),(∀ x∈l,x∈a.Kids)→(eqL l m=true↔l=m):=fun l=>by
   induction l with
   | nil=>intro m _;cases m <;> simp [eqL]
   | cons x l ihl =>
    intro m hm
    cases m with
    | nil=>simp [eqL]
    | cons y m=>rw [Z7i,Bool.and_eq_true,ih x (hm x (.head _)) y,ihl m (fun z hz=>hm z (.tail _ hz)),List.cons.injEq]
  rw [Ybj,Bool.and_eq_true,Bool.and_eq_true,hl a.Kids b.Kids (fun x hx=>hx),beq_iff_eq,beq_iff_eq]
  obtain ⟨k,w,ks⟩:=a
  obtain ⟨k',w',ks'⟩:=b
  simp
theorem Z9s {a b:Tr}:eqT a b=true↔a=b:=Zx3 _ a b (Nat.lt_succ_self _)
theorem Z7a:∀ (a b:List Int),a.length=b.length→(a.zip b).any (fun p=>p.1 != p.2) = !(a == b)
 | [],[],_=>rfl
 | [],_::_,h=>by simp at h
 | _::_,[],h=>by simp at h
 | x::a,y::b,h=>by
  have ih:=Z7a a b (by simpa using h)
  rw [List.zip_cons_cons,List.any_cons,ih]
  by_cases hxy:x=y
  ·subst hxy;simp
  simp [bne,hxy]
theorem Z72 {R:Type} (a b:List Int) (step:Int→Option (Int ⊕ R)) (e o:R) (hab:a.length=b.length) (hl:(a.length:Int)≤140737488355328)
  (h1:∀ (i:Nat) (x y:Int),i < a.length→a[i]? = some x→b[i]? = some y→step i=some (if (x != y)=true then .inr e else .inl (IntKind.i64.wrap ((i:Int)+1)))) (h2:step a.length=some (.inr o)) :
  Zw step 0=some (if (a == b)=true then o else e):=by
 have hz:(a.zip b).length=a.length:=by rw [List.length_zip];omega
 have:=Z19 (a.zip b) step (fun p=>p.1 != p.2) e o (by rw [hz];exact hl) (fun i p hi hp hm=>by
  rw [hz] at hi
  have ha:a[i]? = some a[i]:=List.getElem?_eq_getElem hi
  have hb:b[i]? = some b[i]:=List.getElem?_eq_getElem (by omega)
  have:p=(a[i],b[i]):=by
   rw [List.getElem?_eq_getElem (by rw [hz];exact hi)] at hp
   injection hp with hp
   rw [← hp,List.getElem_zip]
  subst this
  exact h1 i _ _ hi ha hb) (by rw [hz];exact h2)
 rw [this,Z7a a b hab]
 cases a == b <;> rfl
theorem Ybs {a b:Nat}:((a:Int) != (b:Int)) = !(a == b):=by
 rw [Bool.eq_iff_iff];simp;omega
theorem Z9n {a b:List Int} (h:¬ a.length=b.length):(a == b)=false:=by
 rw [beq_eq_false_iff_ne];intro e;exact h (by rw [e])
theorem Zw0 {a b:List Int} (h:(a.length:Int)≤140737488355328):Q7 a b=some (a == b):=by
 unfold Q7
 rw [Ybs]
 by_cases hab:a.length=b.length
 ·have:(!(a.length == b.length))=false:=by simp [hab]
  rw [this,cond_false,Z72 a b (V2 a b) (.inl ()) (.inr ()) hab h (fun i x y hi hx hy=>by
   unfold V2
   rw [Zb3 hi,cond_true,Y5 hx,Option.bind_some,Y5 hy,Option.bind_some]
   cases x != y <;> rfl) (by unfold V2;rw [Zbr];rfl)]
  cases a == b <;> rfl
 have:(!(a.length == b.length))=true:=by simp [hab]
 rw [this,cond_true,Z9n hab]
theorem Znq {t:Tr} (h:t.Kind=0):nrm t=⟨0,[],[]⟩:=by rw [Ziz,if_pos h]
theorem Gj {t:Tr} (h:t.Kind=1):nrm t=⟨1,tr (fun x=>x == 0) t.Words,tr (fun x=>x.Kind == 0) (t.Kids.map nrm)⟩:=by rw [Ziz,if_neg (by rw [h];decide),if_pos h]
theorem Zdr {t:Tr} (h0:¬ t.Kind=0) (h1:¬ t.Kind=1):nrm t=⟨t.Kind,t.Words,t.Kids.map nrm⟩:=by rw [Ziz,if_neg h0,if_neg h1]
theorem Zk9 (t:Tr):0 < SizeOf.sizeOf t:=by
 obtain ⟨k,w,ks⟩:=t
 simp only [Zb.mk.sizeOf_spec]
 omega
def pt (t:Tr):Nat:=1+t.Words.length+(t.Kids.attach.map fun k=>pt k.1).sum
termination_by SizeOf.sizeOf t
decreasing_by exact Y8 k.2
theorem Zn3 (t:Tr):pt t=1+t.Words.length+(t.Kids.map pt).sum:=by
 rw [pt]
 simp only [List.attach_map_val]
def wt (t:Tr):Nat :=
 if t.Kind=0 then 0 else if t.Kind=10 then 1
 else (if t.Kind=1 then 1+(t.Words.length+t.Kids.length) else if t.Kind=8 then 1+t.Kids.length else 1)+(t.Kids.attach.map fun k=>wt k.1).sum
termination_by SizeOf.sizeOf t
decreasing_by all_goals exact Y8 k.2
theorem Z5l (t:Tr):wt t=if t.Kind=0 then 0 else if t.Kind=10 then 1 else (if t.Kind=1 then 1+(t.Words.length+t.Kids.length) else if t.Kind=8 then 1+t.Kids.length else 1)+(t.Kids.map wt).sum:=by
 rw [wt]
 simp only [List.attach_map_val]
theorem Z35 {α:Type} {f g:α→Nat}:∀ l:List α,(∀ x∈l,f x≤g x)→(l.map f).sum≤(l.map g).sum
 | [],_=>by simp
 | x::l,h=>by
  have:=Z35 l fun y hy=>h y (.tail _ hy)
  have:=h x (.head _)
  simp only [List.map_cons,List.sum_cons]
  omega
theorem Zw3 {α:Type} (f:α→Nat):∀ l:List α,(l.map fun x=>f x+1).sum=(l.map f).sum+l.length
 | []=>by simp
 | x::l=>by
  have:=Zw3 f l
  simp only [List.map_cons,List.sum_cons,List.length_cons,this]
  omega
theorem Z04 {α:Type} (f:α→Nat) (c:Nat):∀ l:List α,(l.map fun x=>c * f x).sum=c * (l.map f).sum
 | []=>by simp
 | x::l=>by
  have:=Z04 f c l
  simp only [List.map_cons,List.sum_cons,this,Nat.mul_add]
section
variable {A:Zj}
theorem Z3i {f:Za→Int→Tr×Int×Int} {g:Int→Za×Int} {Q:Tr→Prop} (hQ:∀ i left,Q (f (g i).1 left).1):∀ (m i:Nat) (left:Int) (acc:List Tr),(∀ t∈acc,Q t)→(∀ t∈(Yw f g m i left acc).1,Q t)∧(Yw f g m i left acc).1.length≤acc.length+m
 | 0,i,left,acc,h=>⟨h,Nat.le_refl _⟩
 | m+1,i,left,acc,h=>by
  rw [Yw]
  split
  ·exact ⟨h,by simp only;omega⟩
  split
  ·exact ⟨h,by simp only;omega⟩
  obtain ⟨h1,h2⟩:=Z3i hQ m (i+1) (f (g i).1 left).2.1 (acc++[(f (g i).1 left).1]) fun t ht=>by
   rcases List.mem_append.1 ht with ht | ht
   ·exact h t ht
   rw [List.mem_singleton] at ht;subst ht;exact hQ i left
  exact ⟨h1,by rw [List.length_append,List.length_singleton] at h2;omega⟩
theorem Yac {w c j:Int} (hw:0≤w∧w < 18446744073709551616):0≤Z0p w c j∧Z0p w c j < 18446744073709551616:=by
 unfold Z0p
 have h1:w.toNat / 2 ^ (j * wdt c).toNat % 2 ^ (wdt c).toNat≤w.toNat / 2 ^ (j * wdt c).toNat:=Nat.mod_le _ _
 have h2:w.toNat / 2 ^ (j * wdt c).toNat≤w.toNat:=Nat.div_le_self _ _
 omega
theorem Zl0 (hw:WS A.segments) (r:Za):∀ w∈Xf A r,0≤w∧w < 18446744073709551616:=by
 unfold Xf
 split
 ·intro w hm
  rw [List.mem_singleton] at hm
  subst hm
  unfold Zxk
  split
  ·omega
  exact Yac (Zmz hw _ _)
 split
 ·exact fun w hm=>Z8w hw _ w (List.mem_of_mem_drop (List.mem_of_mem_take hm))
 exact fun w hm=>by cases hm
theorem Zqp {r:Za} (h:OKr A r):(Xf A r).length≤65536:=by
 unfold Xf
 cases h with
 | z=>simp [r0]
 | st s a d p hd hp hin=>simp only [show ¬ (1:Int)=10 from by decide,if_false,if_true,List.length_take];omega
 | li k s a n hk hn hin=>simp only;rw [if_neg (by omega),if_neg (by omega)];simp
 | co=>simp
 | at_=>simp
theorem Z96 (hw:WS A.segments):∀ (d:Nat) r left,OKr A r→0≤left→left≤65536→Bd (Zcr A d r left).1:=fun d=>by
 have key:∀ (f:Za→Int→Tr×Int×Int),True:=fun _=>trivial
 clear key
 have hst:∀ (f:Za→Int→Tr×Int×Int),(∀ r left,OKr A r→Bd (f r left).1)→∀ r left,OKr A r→r.ptrs≤65536→Bd (stK A f r left).1:=fun f hf r left hr hp=>by
  unfold stK
  have:=Z3i (f:=f) (g:=Yv A r) (Q:=Bd) (fun i left=>hf _ left (Zax hr i)) r.ptrs.toNat 0 left [] (by simp)
  refine .mk _ (by simp only;have:=Zqp hr;omega) (by simp only;have:=this.2;simp only [List.length_nil] at this;omega) (Zl0 hw r) this.1
 have main:∀ r left,OKr A r→Bd (Zcr A d r left).1:=by
  induction d using Nat.strongRecOn with
  | ind d ih =>
   intro r left hr
   have hbad:∀ r left,Bd (bad r left).1:=fun r left => .mk _ (by simp [bad]) (by simp [bad]) (by simp [bad]) (by simp [bad])
   have hP:∀ k,1≤k→∀ r left,OKr A r→Bd (Yy A k d r left).1:=fun k hk r left hr=>by
    unfold Yy
    split
    ·exact ih _ (by omega) r left hr
    exact hbad _ _
   rw [Zht]
   unfold Zg4
   have hwl:=Zqp hr
   split
   ·exact .mk _ (by simp only;omega) (by simp) (Zl0 hw r) (by simp)
   split
   ·exact .mk _ (by simp only;omega) (by simp) (Zl0 hw r) (by simp)
   have hkn:=Zg1 hr
   have hQ:∀ (i:Int) left,Bd (V6 A (Yy A 1 d) (Yy A 2 d) r (Yv A r i).1 left).1:=fun i left=>by
    unfold V6
    split
    ·rename_i k9
     have hkr:=Zax hr i
     refine hst _ (fun r left hr=>hP 2 (by omega) r left hr) _ _ hkr ?_
     cases hkr':(Yv A r i).1 with
     | mk a b c d e f g h j =>
      rw [hkr'] at hkr
      cases hkr with
      | z=>simp
      | st s a d p hd hp hin=>simp only;omega
      | li k s a n hk=>simp
      | co s a d p n hd hp hn=>simp only;omega
      | at_=>simp
    split
    ·exact hP 1 (by omega) _ _ (Zax hr i)
    unfold Zus
    have:=Zqp (Zax hr i)
    exact .mk _ (by simp only;omega) (by simp) (Zl0 hw _) (by simp)
   have:=Z3i (f:=V6 A (Yy A 1 d) (Yy A 2 d) r) (g:=Yv A r) (Q:=Bd) hQ (Yx r).toNat 0 (left - wtR r) [] (by simp)
   refine .mk _ (by simp only;omega) ?_ (Zl0 hw r) this.1
   have h2:=this.2
   simp only [List.length_nil] at h2 ⊢
   omega
 exact fun r left hr _ _=>main r left hr
end
section
variable {A:Zj}
theorem Zx7 {r:Za} (hk:2≤r.kind∧r.kind≤7) {i:Int} (h:0≤i∧i < Yx r):(Yv A r i).1.kind=10∧Yx (Yv A r i).1=0:=by
 unfold Yv
 rw [if_neg (by omega),if_neg (by omega),if_neg (by omega),if_neg (by omega)]
 exact ⟨rfl,rfl⟩
end
section
variable {A:Zj}
theorem Ybg (s a:Int):(atR A s a).1.kind≠10:=by
 unfold atR
 rcases Znb A.segments s a with h | ⟨h1,hp,hk,hi⟩
 ·rw [if_pos h];simp [r0]
 rw [if_neg (by omega)]
 have hc:=hp.c
 split
 ·simp
 split
 ·simp only;split <;> simp [r0]
 simp only;omega
theorem Z5j (x:Ya):((Zjz A x).2.2≠0∧(Zjz A x).1=⟨0,[],[]⟩∧(Z7e A x).2=(Zjz A x).2.2)∨((Zjz A x).2.2=0∧(Z7e A x).2=0∧(atR A 0 0).2=0∧(Zcr A (Zbq x).Depth.toNat (atR A 0 0).1 (Zbq x).Weight).2.2=0∧(Zjz A x).1=(Zcr A (Zbq x).Depth.toNat (atR A 0 0).1 (Zbq x).Weight).1):=by
 have hc:(Z7e A x).2=(Zjz A x).2.2:=by rw [← Yax]
 unfold Zjz at hc ⊢
 by_cases h:(atR A 0 0).2≠0
 ·rw [if_pos h] at hc ⊢
  exact .inl ⟨h,rfl,hc⟩
 rw [if_neg h] at hc ⊢
 simp only at hc ⊢
 by_cases hq:(Zcr A (Zbq x).Depth.toNat (atR A 0 0).1 (Zbq x).Weight).2.2≠0
 ·rw [if_pos hq] at hc ⊢
  exact .inl ⟨hq,rfl,hc⟩
 rw [if_neg hq] at hc ⊢
 exact .inr ⟨rfl,hc,by omega,by omega,rfl⟩
theorem Z70 (x:Ya):(Zbq x).Depth.toNat≤64∧0≤(Zbq x).Weight∧(Zbq x).Weight≤65536:=by
 have hd:0≤(Zbq x).Depth∧(Zbq x).Depth≤64:=Zr5 _ _ (by decide)
 have hW:0≤(Zbq x).Weight∧(Zbq x).Weight≤65536:=Zr5 _ _ (by decide)
 omega
theorem Yaw (hw:WS A.segments) (x:Ya):Bd (Zjz A x).1:=by
 have hl:=Z70 x
 rcases Z5j (A:=A) x with ⟨h1,h2,h3⟩ | ⟨h1,h2,h3,h4,h5⟩
 ·rw [h2];exact .mk _ (by simp) (by simp) (by simp) (by simp)
 rw [h5];exact Z96 hw _ _ _ (Zm7 0 0) hl.2.1 hl.2.2
end
def wid (c:Int):Nat:=if c=0 then 0 else if c=1 then 1 else if c=2 then 8 else if c=3 then 16 else if c=4 then 32 else 64
def Zcx (c w:Int):Bool:=decide (w < 2 ^ wid c)
theorem Zvz {c:Int} (h0:0≤c) (h1:c≤5):c=0∨c=1∨c=2∨c=3∨c=4∨c=5:=by omega
theorem Z22 {c w:Int} (h0:0≤c) (h1:c≤5) (hw:0≤w):Zej c w=some (Zcx c w):=by
 have key:∀ n:Nat,n≤64→(Int.fdiv w (2 ^ min (Int.toNat (n:Int)) 64) == 0)=decide (w < 2 ^ n):=fun n hn=>by
  rw [Int.toNat_natCast,Nat.min_eq_left hn,Int.fdiv_eq_ediv_of_nonneg _ (Int.le_of_lt (Int.pow_pos (by decide)))]
  have hp:(0:Int) < 2 ^ n:=Int.pow_pos (by decide)
  rw [Bool.eq_iff_iff,beq_iff_eq,decide_eq_true_eq]
  constructor
  ·intro h
   rcases Int.lt_or_le w (2 ^ n) with h2 | h2
   ·exact h2
   have:=Int.ediv_le_ediv hp h2
   rw [Int.ediv_self (Int.ne_of_gt hp)] at this
   omega
  intro h;exact Int.ediv_eq_zero_of_lt hw h
 have e:∀ n:Nat,n≤64→(some (((n:Int),true):Int×Bool)).bind (fun y2=>(cond y2.2 ((Xe (0≤y2.1)).bind fun u5=>some (cond y2.2 ((Int.fdiv w (2 ^ min (Int.toNat y2.1) 64)) == 0) false)) (some false)).bind fun (z4:Bool)=>some z4)=some (decide (w < 2 ^ n)):=fun n hn=>by
  rw [Option.bind_some]
  simp only [cond_true]
  rw [Jv (by omega),Option.bind_some,Option.bind_some,key n hn]
 unfold Zej Zcx
 rcases Zvz h0 h1 with rfl | rfl | rfl | rfl | rfl | rfl
 ·exact e 0 (by decide)
 ·exact e 1 (by decide)
 ·exact e 8 (by decide)
 ·exact e 16 (by decide)
 ·exact e 32 (by decide)
 exact e 64 (by decide)
theorem Z3x (n:Nat) (hn:n≤64) (w:Int) (h0:0≤w) (h1:w < 18446744073709551616):Zw (X6 (n:Int)) (w,0)=some (w / 2 ^ n):=by
 have key:∀ m i:Nat,i+m=n→Zw (X6 (n:Int)) (w / 2 ^ i,(i:Int))=some (w / 2 ^ n):=fun m=>by
  induction m with
  | zero =>
   intro i hi
   have:i=n:=by omega
   subst this
   refine Y0 ?_
   unfold X6
   simp only
   rw [Zbr,cond_false]
  | succ m ih =>
   intro i hi
   have hp:(0:Int) < 2 ^ i:=Int.pow_pos (by decide)
   have q0:0≤w / 2 ^ i:=Int.ediv_nonneg h0 (Int.le_of_lt hp)
   have q1:w / 2 ^ i≤w:=Int.ediv_le_self _ h0
   have hs:X6 (n:Int) (w / 2 ^ i,(i:Int))=some (.inl (w / 2 ^ (i+1),((i+1:Nat):Int))):=by
    unfold X6
    simp only
    rw [Zb3 (by omega),cond_true,Z4 (by omega) (by omega),Int.tdiv_eq_ediv_of_nonneg q0]
    have e:w / 2 ^ i / 2=w / 2 ^ (i+1):=by rw [Int.ediv_ediv_of_nonneg (Int.le_of_lt hp),Int.pow_succ]
    have q2:0≤w / 2 ^ i / 2:=Int.ediv_nonneg q0 (by decide)
    have q3:w / 2 ^ i / 2≤w / 2 ^ i:=Int.ediv_le_self _ q0
    have e3:IntKind.u64.wrap (w / 2 ^ i / 2)=w / 2 ^ i / 2:=by
     exact Yav ⟨q2,by omega⟩
    rw [e3,e]
    rfl
   rw [Xz hs]
   exact ih (i+1) (by omega)
 have:=key n 0 (by omega)
 simpa using this
theorem Zww {c w:Int} (h0:0≤c) (h1:c≤5) (hw:0≤w) (hw':w < 18446744073709551616):Ka c w=some (Zcx c w):=by
 have e:∀ n:Nat,n≤64→(cond (decide ((n:Int) < 0)) (some false) ((Zw (X6 (n:Int)) (w,0)).bind fun (z4:Int)=>some (z4 == 0)))=some (decide (w < 2 ^ n)):=fun n hn=>by
  have:decide ((n:Int) < 0)=false:=by rw [decide_eq_false_iff_not];omega
  have hp:(0:Int) < 2 ^ n:=Int.pow_pos (by decide)
  rw [this,cond_false,Z3x n hn w hw hw',Option.bind_some]
  congr 1
  rw [Bool.eq_iff_iff,beq_iff_eq,decide_eq_true_eq]
  constructor
  ·intro h
   rcases Int.lt_or_le w (2 ^ n) with h2 | h2
   ·exact h2
   have:=Int.ediv_le_ediv hp h2
   rw [Int.ediv_self (Int.ne_of_gt hp)] at this
   omega
  intro h;exact Int.ediv_eq_zero_of_lt hw h
 unfold Ka Zcx
 rcases Zvz h0 h1 with rfl | rfl | rfl | rfl | rfl | rfl
 ·exact e 0 (by decide)
 ·exact e 1 (by decide)
 ·exact e 8 (by decide)
 ·exact e 16 (by decide)
 ·exact e 32 (by decide)
 exact e 64 (by decide)
def okk (kind:Int) (k:Tr):Bool:=if 2≤kind∧kind≤7 then k.Kind == 10 && Zcx (kind - 2) (k.Words.headD 0) else k.Kind != 10 && (kind != 9 || k.Kind == 1)
def rt (t:Tr) (d:Nat):Bool :=
 if t.Kind=0 then t.Words.length == 0 && t.Kids.length == 0
 else if t.Kind=10 then t.Words.length == 1 && t.Kids.length == 0
 else if t.Kind < 0∨10 < t.Kind∨d=0∨65536≤t.Words.length∨(t.Kind=1∧65536≤t.Kids.length)∨1048576≤t.Kids.length∨(1 < t.Kind∧0 < t.Words.length) then false
 else (t.Kids.attach.map fun k=>rt k.1 (d - 1) && okk t.Kind k.1).all id
termination_by SizeOf.sizeOf t
decreasing_by exact Y8 k.2
theorem Zfe (t:Tr) (d:Nat):rt t d=if t.Kind=0 then t.Words.length == 0 && t.Kids.length == 0
 else if t.Kind=10 then t.Words.length == 1 && t.Kids.length == 0
 else if t.Kind < 0∨10 < t.Kind∨d=0∨65536≤t.Words.length∨(t.Kind=1∧65536≤t.Kids.length)∨1048576≤t.Kids.length∨(1 < t.Kind∧0 < t.Words.length) then false
 else t.Kids.all fun k=>rt k (d - 1) && okk t.Kind k:=by
 rw [rt]
 have:(t.Kids.attach.map fun k=>rt k.1 (d - 1) && okk t.Kind k.1)=t.Kids.map fun k=>rt k (d - 1) && okk t.Kind k:=List.attach_map_val (f:=fun k=>rt k (d - 1) && okk t.Kind k)
 rw [this,List.all_map]
 rfl
theorem Yar {t:Tr} (h:t.Kind=10) (d d':Nat):rt t d=rt t d':=by
 have h0:¬ t.Kind=0:=by rw [h];decide
 rw [Zfe t d,Zfe t d']
 simp only [if_neg h0,if_pos h]
theorem Zpl {t:Tr} (h:t.Kind=10) {d:Nat} (hr:rt t d=true):∃ w,t.Words=[w]:=by
 rw [Zfe,if_neg (by omega),if_pos h,Bool.and_eq_true,beq_iff_eq] at hr
 obtain ⟨k,w,ks⟩:=t
 obtain ⟨h1,_⟩:=hr
 simp only at h1 ⊢
 exact List.length_eq_one_iff.1 h1
theorem Z6b {n:Nat}:((n:Int) == 0)=(n == 0):=by rw [Bool.eq_iff_iff,beq_iff_eq,beq_iff_eq];omega
theorem Ycb {n:Nat}:((n:Int) == 1)=(n == 1):=by rw [Bool.eq_iff_iff,beq_iff_eq,beq_iff_eq];omega
theorem Zdn (a b:Bool):cond a b false=(a && b):=by cases a <;> rfl
theorem Z4d {α:Type} (p:α→Bool):∀ l:List α,l.any (fun x => !p x) = !(l.all p)
 | []=>rfl
 | x::l=>by rw [List.any_cons,List.all_cons,Z4d p l];cases p x <;> rfl
theorem Zsl {α R:Type} (xs:List α) (step:Int→Option (Int ⊕ R)) (p:α→Bool) (e o:R) (hl:(xs.length:Int)≤140737488355328)
  (h1:∀ (i:Nat) (x:α),i < xs.length→xs[i]? = some x→x∈xs→step i=some (if p x=true then .inl (IntKind.i64.wrap ((i:Int)+1)) else .inr e)) (h2:step xs.length=some (.inr o)):Zw step 0=some (if xs.all p=true then o else e):=by
 rw [Z19 xs step (fun x => !p x) e o hl (fun i x hi hx hm=>by rw [h1 i x hi hx hm];cases p x <;> rfl) h2,Z4d]
 cases xs.all p <;> rfl
theorem Zyg:∀ (k:Nat) (t:Tr) (d:Nat),Bd t→SizeOf.sizeOf t < k→d≤64→Q5 k t (d:Int)=some (rt t d)
 | 0,t,d,_,h,_=>by omega
 | k+1,t,d,hb,hk,hd=>by
  have hkd:=hb.k
  show U9 (Q5 k) t (d:Int)=_
  unfold U9
  rw [Zfe,Z6b,Ycb]
  by_cases h0:t.Kind=0
  ·rw [if_pos h0,h0]
   simp only [Z6b,Zdn]
   rfl
  have e0:(t.Kind == 0)=false:=by simp [h0]
  rw [if_neg h0,e0,cond_false]
  by_cases h10:t.Kind=10
  ·rw [if_pos h10,h10]
   simp only [Z6b,Zdn]
   rfl
  have e10:(t.Kind == 10)=false:=by simp [h10]
  rw [if_neg h10,e10,cond_false]
  by_cases hbad:t.Kind < 0∨10 < t.Kind∨d=0∨65536≤t.Words.length∨(t.Kind=1∧65536≤t.Kids.length)∨1048576≤t.Kids.length∨(1 < t.Kind∧0 < t.Words.length)
  ·rw [if_pos hbad]
   have hc:∀ c1 c2 c3 c4 c5 c6 c7 c8:Bool,(c1=true∨c2=true∨c3=true∨c4=true∨(c5=true∧c6=true)∨c7=true∨c8=true)→∀ X:Option Bool,
     cond (cond (cond (cond (cond (cond c1 true c2) true c3) true c4) true (cond c5 c6 false)) true c7) (some false) (cond c8 (some false) X)=some false:=by
    intro c1 c2 c3 c4 c5 c6 c7 c8 h X
    cases c1 <;> cases c2 <;> cases c3 <;> cases c4 <;> cases c5 <;> cases c6 <;> cases c7 <;> cases c8 <;> first | rfl | (simp at h;done)
   refine hc _ _ _ _ _ _ _ _ ?_ _
   simp only [decide_eq_true_eq,beq_iff_eq,Zdn,Bool.and_eq_true]
   omega
  rw [if_neg hbad]
  have hg:¬ t.Kind < 0∧¬ 10 < t.Kind∧¬ d=0∧¬ 65536≤t.Words.length∧¬ (t.Kind=1∧65536≤t.Kids.length)∧¬ 1048576≤t.Kids.length∧¬ (1 < t.Kind∧0 < t.Words.length):=by omega
  have hc:∀ c1 c2 c3 c4 c5 c7 c8:Bool,c1=false→c2=false→c3=false→c4=false→c5=false→c7=false→c8=false→∀ X:Option Bool,
    cond (cond (cond (cond (cond (cond c1 true c2) true c3) true c4) true c5) true c7) (some false) (cond c8 (some false) X)=X:=by
   intro c1 c2 c3 c4 c5 c7 c8 h1 h2 h3 h4 h5 h7 h8 X
   subst h1 h2 h3 h4 h5 h7 h8
   rfl
  rw [hc _ _ _ _ _ _ _ (decide_eq_false hg.1) (decide_eq_false hg.2.1) (by rw [beq_eq_false_iff_ne];omega) (by rw [decide_eq_false_iff_not];omega) (by rw [Zdn,Bool.and_eq_false_iff,beq_eq_false_iff_ne,decide_eq_false_iff_not];omega) (by rw [decide_eq_false_iff_not];omega) (by rw [Zdn,Bool.and_eq_false_iff,decide_eq_false_iff_not,decide_eq_false_iff_not];omega)]
  obtain ⟨d',rfl⟩:∃ d',d=d'+1:=⟨d - 1,by omega⟩
  have ih:∀ x∈t.Kids,Q5 k x (d':Int)=some (rt x d'):=fun x hx=>Zyg k x d' (hb.all x hx) (by have:=Y8 hx;omega) (by omega)
  rw [Zsl t.Kids (K3 (Q5 k) t ((d'+1:Nat):Int)) (fun x=>rt x d' && okk t.Kind x) (.inl ()) (.inr ()) (by omega) (fun i x hi hx hm=>by
   unfold K3
   have ed:((d'+1:Nat):Int) - 1=(d':Int):=by omega
   rw [Zb3 hi,cond_true,Y5 hx,Option.bind_some,Z4 (x:=((d'+1:Nat):Int) - 1) (by omega) (by omega),ed,ih x hm,Option.bind_some]
   cases hr:rt x d' with
   | false=>rfl
   | true =>
    rw [Bool.not_true,cond_false,Bool.true_and]
    unfold okk
    by_cases hdt:2≤t.Kind∧t.Kind≤7
    ·have e2:decide (2≤t.Kind)=true:=decide_eq_true hdt.1
     have e7:decide (t.Kind≤7)=true:=decide_eq_true hdt.2
     have e9:(t.Kind == 9)=false:=by rw [beq_eq_false_iff_ne];omega
     rw [e2,e7,e9,if_pos hdt]
     simp only [cond_true,cond_false]
     by_cases hx10:x.Kind=10
     ·obtain ⟨w,hw⟩:=Zpl hx10 hr
      have hu:=(hb.all x hm).u w (by rw [hw];exact .head _)
      have ex:(x.Kind == 10)=true:=by simp [hx10]
      have ex2:((true:Bool) != true)=false:=rfl
      have hg0:Y2 [w] (0:Int)=some w:=rfl
      rw [ex,ex2,cond_false,hw,hg0,Option.bind_some,Z4 (by omega) (by omega),Zww (by omega) (by omega) hu.1 hu.2,Option.bind_some]
      simp only [cond_false,List.headD_cons,Bool.true_and]
      cases Zcx (t.Kind - 2) w <;> rfl
     have ex:(x.Kind == 10)=false:=by simp [hx10]
     rw [ex]
     rfl
    have ed2:cond (decide (2≤t.Kind)) (decide (t.Kind≤7)) false=false:=by
     rw [Zdn,Bool.and_eq_false_iff,decide_eq_false_iff_not,decide_eq_false_iff_not];omega
    rw [ed2,if_neg hdt]
    have hin:∀ (X:Option Bool) (b:Bool),(cond (decide (2≤t.Kind)) (cond (decide (t.Kind≤7)) X (some b)) (some b))=some b:=fun X b=>by
     by_cases h2:2≤t.Kind
     ·have h7:decide (t.Kind≤7)=false:=by rw [decide_eq_false_iff_not];omega
      rw [decide_eq_true h2,h7];rfl
     rw [decide_eq_false h2];rfl
    by_cases hx10:x.Kind=10
    ·have ex:(x.Kind == 10)=true:=by simp [hx10]
     have ex2:(x.Kind != 10)=false:=by simp [hx10]
     rw [ex,ex2]
     rfl
    have ex:(x.Kind == 10)=false:=by simp [hx10]
    have ex2:(x.Kind != 10)=true:=by simp [hx10]
    have ex3:((false:Bool) != false)=false:=rfl
    rw [ex,ex2,ex3,cond_false]
    simp only [cond_false]
    rw [hin]
    by_cases h9:t.Kind=9
    ·have e9:(t.Kind == 9)=true:=by simp [h9]
     have e9':(t.Kind != 9)=false:=by simp [h9]
     rw [e9,e9',cond_true]
     by_cases hx1:x.Kind=1
     ·have q1:(x.Kind != 1)=false:=by simp [hx1]
      have q2:(x.Kind == 1)=true:=by simp [hx1]
      rw [q1,q2,cond_false]
      rfl
     have q1:(x.Kind != 1)=true:=by simp [hx1]
     have q2:(x.Kind == 1)=false:=by simp [hx1]
     rw [q1,q2,cond_true]
     rfl
    have e9:(t.Kind == 9)=false:=by simp [h9]
    have e9':(t.Kind != 9)=true:=by simp [h9]
    rw [e9,e9']
    rfl) (by unfold K3;rw [Zbr];rfl),Option.bind_some,Nat.add_sub_cancel]
  cases t.Kids.all fun x=>rt x d' && okk t.Kind x <;> rfl
theorem Z6o {t:Tr} (h:Bd t) {d:Nat} (hd:d≤64):Zd1 t (d:Int)=some (rt t d):=Zf5 (SizeOf.sizeOf t+1) fun k hk=>Zyg k t d h (by omega) hd
theorem Z9y (n:Int):Znl n=some (decide (2≤n) && decide (n≤9)):=by unfold Znl;rw [Zdn]
theorem Z34 {l:List Tr} (hl:(l.length:Int)≤140737488355328):Ze9 l=some (l.all fun x=>x.Kind == 1):=by
 unfold Ze9
 rw [Zsl l (Zah l) (fun x=>x.Kind == 1) (.inl ()) (.inr ()) hl (fun i x hi hx hm=>by
  unfold Zah
  rw [Zb3 hi,cond_true,Y5 hx,Option.bind_some]
  simp only [bne]
  cases x.Kind == 1 <;> rfl) (by unfold Zah;rw [Zbr];rfl),Option.bind_some]
 cases l.all fun x=>x.Kind == 1 <;> rfl
theorem Z4c {α:Type} (p q:α→Bool):∀ l:List α,(l.all fun x=>p x && q x)=(l.all p && l.all q)
 | []=>rfl
 | x::l=>by rw [List.all_cons,List.all_cons,List.all_cons,Z4c p q l];cases p x <;> cases q x <;> cases l.all p <;> cases l.all q <;> rfl
theorem Zxz {α:Type} {p q:α→Bool}:∀ {l:List α},(∀ x∈l,p x=q x)→l.all p=l.all q
 | [],_=>rfl
 | x::l,h=>by rw [List.all_cons,List.all_cons,h x (.head _),Zxz fun y hy=>h y (.tail _ hy)]
def rq (t:Tr) (d:Nat):Bool:=rt t d && t.Kind != 10
def ra (c:Int) (x:Tr):Bool:=x.Kind == 10 && (rt x 64 && Zcx c (x.Words.headD 0))
theorem Z2r:∀ (k:Nat),(∀ t:Tr,Bd t→(2 * SizeOf.sizeOf t+1 < k∨(t.Kind=10∧0 < k))→(Zy k).1 t=some (rt t 64)) ∧
  (∀ (t:Tr) (d:Nat),Bd t→2 * SizeOf.sizeOf t < k→d≤64→(Zy k).2.1 t (d:Int)=some (rq t d)) ∧
  (∀ (l:List Tr) (d:Nat),(∀ x∈l,Bd x∧2 * SizeOf.sizeOf x+1 < k)→(l.length:Int)≤140737488355328→d≤64→1≤k→(Zy k).2.2.1 l (d:Int)=some (l.all fun x=>rq x d)) ∧
  (∀ (l:List Tr) (c:Int),(∀ x∈l,Bd x)→(l.length:Int)≤140737488355328→0≤c→c≤5→2≤k→(Zy k).2.2.2 l c=some (l.all (ra c)))
 | 0=>⟨fun t _ h=>by omega,fun t d _ h=>by omega,fun l d _ _ _ h=>by omega,fun l c _ _ _ _ h=>by omega⟩
 | k+1=>by
  obtain ⟨i1,i2,i3,i4⟩:=Z2r k
  refine ⟨fun t hb hk => ?_,fun t d hb hk hd => ?_,fun l d hl hn hd hk => ?_,fun l c hl hn h0 h5 hk => ?_⟩
  ·show Zl3 (Zy k).1 (Zy k).2.1 (Zy k).2.2.1 (Zy k).2.2.2 t=_
   unfold Zl3
   rw [Z6b,Ycb]
   by_cases h10:t.Kind=10
   ·have e:(t.Kind == 10)=true:=by simp [h10]
    rw [e,cond_true,Zdn,Zfe,if_neg (by rw [h10];decide),if_pos h10]
   have e:(t.Kind == 10)=false:=by simp [h10]
   have e2:(t.Kind != 10)=true:=by simp [h10]
   have:=i2 t 64 hb (by rcases hk with hk | hk;omega;exact absurd hk.1 h10) (by decide)
   rw [e,cond_false,show (64:Int)=((64:Nat):Int) from rfl,this,Option.bind_some]
   unfold rq
   rw [e2,Bool.and_true]
  ·have hkd:=hb.k
   have hw:=hb.w
   show Zl4 (Zy k).1 (Zy k).2.1 (Zy k).2.2.1 (Zy k).2.2.2 t (d:Int)=_
   unfold Zl4 rq
   rw [Z6b,Z6b,Zfe]
   by_cases h0:t.Kind=0
   ·have e:(t.Kind == 0)=true:=by simp [h0]
    have e2:(t.Kind != 10)=true:=by rw [h0];rfl
    rw [e,e2,cond_true,Zdn,if_pos h0,Bool.and_true]
   have e0:(t.Kind == 0)=false:=by simp [h0]
   rw [e0,cond_false,if_neg h0]
   by_cases hd0:d=0
   ·subst hd0
    have e:(((0:Nat):Int) == 0)=true:=rfl
    rw [e,cond_true]
    by_cases h10:t.Kind=10
    ·simp [h10]
    rw [if_neg h10,if_pos (by omega),Bool.false_and]
   have ed:((d:Int) == 0)=false:=by rw [beq_eq_false_iff_ne];omega
   rw [ed,cond_false]
   obtain ⟨d',rfl⟩:∃ d',d=d'+1:=⟨d - 1,by omega⟩
   have e3:((d'+1:Nat):Int) - 1=(d':Int):=by omega
   have ih3:=i3 t.Kids d' (fun x hx=>⟨hb.all x hx,by have:=Y8 hx;omega⟩) (by omega) (by omega) (by have:=Zk9 t;omega)
   rw [Z4 (x:=((d'+1:Nat):Int) - 1) (by omega) (by omega),e3,ih3,Nat.add_sub_cancel]
   by_cases h1:t.Kind=1
   ·have e:(t.Kind == 1)=true:=by simp [h1]
    have e2:(t.Kind != 10)=true:=by rw [h1];rfl
    have e10:¬ t.Kind=10:=by omega
    have ho:∀ x:Tr,okk t.Kind x=(x.Kind != 10):=fun x=>by unfold okk;rw [h1,if_neg (by decide)];simp
    rw [e,e2,cond_true,if_neg e10,Bool.and_true]
    simp only [ho]
    by_cases hw':t.Words.length < 65536
    ·have q1:decide ((t.Words.length:Int) < 65536)=true:=by rw [decide_eq_true_eq];omega
     by_cases hk':t.Kids.length < 65536
     ·have q2:decide ((t.Kids.length:Int) < 65536)=true:=by rw [decide_eq_true_eq];omega
      rw [q1,q2,if_neg (by omega)]
      rfl
     have q2:decide ((t.Kids.length:Int) < 65536)=false:=by rw [decide_eq_false_iff_not];omega
     rw [q1,q2,if_pos (by omega)]
     rfl
    have q1:decide ((t.Words.length:Int) < 65536)=false:=by rw [decide_eq_false_iff_not];omega
    rw [q1,if_pos (by omega)]
    rfl
   have e1:(t.Kind == 1)=false:=by simp [h1]
   rw [e1,cond_false,Z9y,Option.bind_some]
   by_cases hbad:¬ (2≤t.Kind∧t.Kind≤9)∨0 < t.Words.length∨1048576≤t.Kids.length
   ·have q:cond (cond (!(decide (2≤t.Kind) && decide (t.Kind≤9))) true (decide (0 < (t.Words.length:Int)))) true (decide (1048576≤(t.Kids.length:Int)))=true:=by
     cases hq:cond (cond (!(decide (2≤t.Kind) && decide (t.Kind≤9))) true (decide (0 < (t.Words.length:Int)))) true (decide (1048576≤(t.Kids.length:Int))) with
     | true=>rfl
     | false =>
      have hc:∀ a b c:Bool,cond (cond (!a) true b) true c=false→a=true∧b=false∧c=false:=by decide
      obtain ⟨z1,z2,z3⟩:=hc _ _ _ hq
      rw [Bool.and_eq_true,decide_eq_true_eq,decide_eq_true_eq] at z1
      rw [decide_eq_false_iff_not] at z2 z3
      omega
    rw [q,cond_true]
    by_cases h10:t.Kind=10
    ·have e2:(t.Kind != 10)=false:=by simp [h10]
     rw [e2,Bool.and_false]
    rw [if_neg h10,if_pos (by omega),Bool.false_and]
   have hg:2≤t.Kind∧t.Kind≤9∧¬ 0 < t.Words.length∧¬ 1048576≤t.Kids.length:=by omega
   have q2:decide (0 < (t.Words.length:Int))=false:=by rw [decide_eq_false_iff_not];omega
   have q3:decide (1048576≤(t.Kids.length:Int))=false:=by rw [decide_eq_false_iff_not];omega
   have e10:¬ t.Kind=10:=by omega
   have e2:(t.Kind != 10)=true:=by simp [e10]
   rw [decide_eq_true hg.1,decide_eq_true hg.2.1,q2,q3,e2,if_neg e10,if_neg (by omega),Bool.and_true]
   simp only [Bool.and_true,Bool.not_true,cond_false]
   by_cases h8:t.Kind=8
   ·have e:(t.Kind == 8)=true:=by simp [h8]
    have ho:∀ x:Tr,okk t.Kind x=(x.Kind != 10):=fun x=>by unfold okk;rw [h8,if_neg (by decide)];simp
    rw [e,cond_true,Option.bind_some]
    simp only [ho]
    rfl
   have e8:(t.Kind == 8)=false:=by simp [h8]
   rw [e8,cond_false]
   by_cases h9:t.Kind=9
   ·have e:(t.Kind == 9)=true:=by simp [h9]
    have ho:∀ x:Tr,(rt x d' && okk t.Kind x)=(rq x d' && x.Kind == 1):=fun x=>by
     unfold okk rq
     rw [h9,if_neg (by decide)]
     have:((9:Int) != 9)=false:=rfl
     rw [this,Bool.false_or,Bool.and_assoc]
    rw [e,cond_true,Z34 (by omega),Option.bind_some]
    simp only [ho]
    rw [Z4c]
    cases t.Kids.all fun x=>x.Kind == 1 with
    | false=>rw [Bool.and_false];rfl
    | true=>rw [Bool.and_true];rfl
   have e:(t.Kind == 9)=false:=by simp [h9]
   have hd7:2≤t.Kind∧t.Kind≤7:=by omega
   rw [e,cond_false,Z4 (by omega) (by omega),i4 t.Kids (t.Kind - 2) hb.all (by omega) (by omega) (by omega) (by have:=Zk9 t;omega),Option.bind_some]
   congr 1
   refine Zxz fun x hx => ?_
   unfold okk ra
   rw [if_pos hd7]
   by_cases hx10:x.Kind=10
   ·rw [Yar hx10 d' 64]
    have:(x.Kind == 10)=true:=by simp [hx10]
    rw [this,Bool.true_and,Bool.true_and]
   have:(x.Kind == 10)=false:=by simp [hx10]
   rw [this,Bool.false_and,Bool.false_and,Bool.and_false]
  ·show Zhf (Zy k).1 (Zy k).2.1 (Zy k).2.2.1 (Zy k).2.2.2 l (d:Int)=_
   unfold Zhf
   rw [Zsl l (Zbp (Zy k).2.1 l (d:Int)) (fun x=>rq x d) (.inl ()) (.inr ()) hn (fun i x hi hx hm=>by
    unfold Zbp
    rw [Zb3 hi,cond_true,Y5 hx,Option.bind_some,i2 x d (hl x hm).1 (by have:=(hl x hm).2;omega) hd,Option.bind_some]
    cases rq x d <;> rfl) (by unfold Zbp;rw [Zbr];rfl),Option.bind_some]
   cases l.all fun x=>rq x d <;> rfl
  show Zhe (Zy k).1 (Zy k).2.1 (Zy k).2.2.1 (Zy k).2.2.2 l c=_
  unfold Zhe
  rw [Zsl l (Zbo (Zy k).1 l c) (ra c) (.inl ()) (.inr ()) hn (fun i x hi hx hm=>by
   unfold Zbo ra
   rw [Zb3 hi,cond_true,Y5 hx,Option.bind_some]
   by_cases hx10:x.Kind=10
   ·have e:(x.Kind == 10)=true:=by simp [hx10]
    have e2:(x.Kind != 10)=false:=by simp [hx10]
    rw [e,e2,cond_false,i1 x (hl x hm) (.inr ⟨hx10,by omega⟩),Option.bind_some,Bool.true_and]
    cases hr:rt x 64 with
    | false=>rfl
    | true =>
     obtain ⟨w,hw⟩:=Zpl hx10 hr
     have hu:=(hl x hm).u w (by rw [hw];exact .head _)
     have hg0:Y2 [w] (0:Int)=some w:=rfl
     rw [cond_true,hw,hg0,Option.bind_some,Z22 h0 h5 hu.1,Option.bind_some]
     simp only [cond_false,List.headD_cons,Bool.true_and,Bool.not_true]
     cases Zcx c w <;> rfl
   have e:(x.Kind == 10)=false:=by simp [hx10]
   have e2:(x.Kind != 10)=true:=by simp [hx10]
   rw [e,e2]
   rfl) (by unfold Zbo;rw [Zbr];rfl),Option.bind_some]
  cases l.all (ra c) <;> rfl
theorem Z8n {t:Tr} (h:Bd t):Zsm t=some (rt t 64):=Zf5 (2 * SizeOf.sizeOf t+2) fun k hk=>(Z2r k).1 t h (.inl (by omega))
def Z3j:List (Tr×Int)→Int
 | []=>0
 | p::ps=>p.2+Z3j ps
theorem Z4n:∀ ps:List (Tr×Int),(∀ p∈ps,0≤p.2)→0≤Z3j ps
 | [],_=>Int.le_refl _
 | p::ps,h=>by
  have h1:=h p (.head _)
  have h2:=Z4n ps fun q hq=>h q (.tail _ hq)
  simp only [Z3j]
  omega
def GG (t:Tr) (d:Nat) (w:Int):Prop:=True∧0≤w∧rt t d=true
theorem Z9w (d:Nat):GG ⟨0,[],[]⟩ d 0:=⟨trivial,Int.le_refl _,by rw [Zfe];rfl⟩
theorem Ybn (w:Int) (d:Nat):GG ⟨10,[w],[]⟩ d 1:=⟨trivial,by decide,by rw [Zfe];rfl⟩
theorem Z4m {t:Tr} (h1:1≤t.Kind∧t.Kind≤9) {d:Nat} (hd:1≤d∧d≤64) (hl:t.Kids.length < 65536∨t.Kind≠1∧t.Kids.length≤65536) (hw:t.Words.length < 65536) (hws:1 < t.Kind→t.Words.length=0) {ps:List (Tr×Int)} (e:t.Kids=ps.map (·.1)) (hp:∀ p∈ps,GG p.1 (d - 1) p.2∧okk t.Kind p.1=true) {b c w:Int} (hb:b=if t.Kind=1 then 1+(t.Words.length:Int) else 1) (hc:c=if t.Kind=1∨t.Kind=8 then 1 else 0) (hwe:w=b+Z3j ps+c * (ps.length:Int)) (hw2:w≤65536):GG t d w:=by
 have hm:∀ x∈t.Kids,∃ p∈ps,p.1=x:=fun x hx=>by
  rw [e] at hx
  exact List.mem_map.1 hx
 have hg:=Z4n ps fun p q=>(hp p q).1.2.1
 have hc0:0≤c:=by rw [hc];split <;> omega
 have hb0:0≤b:=by rw [hb];split <;> omega
 have hcl:0≤c * (ps.length:Int):=Int.mul_nonneg hc0 (by omega)
 refine ⟨trivial,by omega,?_⟩
 rw [Zfe,if_neg (by omega),if_neg (by omega),if_neg (by omega),List.all_eq_true]
 intro x hx
 obtain ⟨p,hp',rfl⟩:=hm x hx
 have:=hp p hp'
 rw [this.1.2.2,this.2]
 rfl
section
variable {A:Zj}
theorem Zwa {f:Za→Int→Tr×Int×Int} {g:Int→Za×Int} {Q:Tr→Int→Prop} {e M:Int} {n:Nat} (hQ:∀ (i:Nat) (left:Int),i < n→0≤left→left≤M→(g i).2=0→(f (g i).1 left).2.2=0→0≤(f (g i).1 left).2.1∧(f (g i).1 left).2.1≤left∧Q (f (g i).1 left).1 (left - (f (g i).1 left).2.1+e)) :
  ∀ (m i:Nat) (left:Int) (acc:List Tr),i+m=n→0≤left→left≤M→(Yw f g m i left acc).2.2=0→0≤(Yw f g m i left acc).2.1∧(Yw f g m i left acc).2.1≤left∧∃ ps:List (Tr×Int),(Yw f g m i left acc).1=acc++ps.map (·.1)∧ps.length=m∧(∀ p∈ps,Q p.1 p.2)∧Z3j ps=left - (Yw f g m i left acc).2.1+e * (m:Int)
 | 0,i,left,acc,_,h0,_,_=>⟨h0,Int.le_refl _,[],by simp [Yw],rfl,by simp,by simp [Yw,Z3j]⟩
 | m+1,i,left,acc,hi,h0,hM,h=>by
  rw [Yw] at h ⊢
  by_cases h1:(g i).2≠0
  ·rw [if_pos h1] at h;exact absurd h h1
  rw [if_neg h1] at h ⊢
  by_cases h2:(f (g i).1 left).2.2≠0
  ·rw [if_pos h2] at h;exact absurd h h2
  rw [if_neg h2] at h ⊢
  obtain ⟨a1,a2,a3⟩:=hQ i left (by omega) h0 hM (by omega) (by omega)
  obtain ⟨b1,b2,ps,c1,c2,c3,c4⟩:=Zwa hQ m (i+1) _ _ (by omega) a1 (by omega) h
  refine ⟨b1,by omega,((f (g i).1 left).1,left - (f (g i).1 left).2.1+e)::ps,by rw [c1,List.append_assoc,List.map_cons];rfl,by rw [List.length_cons,c2],?_,?_⟩
  ·intro p hp
   rcases List.mem_cons.1 hp with rfl | hp
   ·exact a3
   exact c3 p hp
  have:e * ((m+1:Nat):Int)=e * (m:Int)+e:=by rw [show ((m+1:Nat):Int)=(m:Int)+1 from rfl,Int.mul_add,Int.mul_one]
  rw [this]
  simp only [Z3j]
  rw [c4]
  omega
theorem Z1h (s a:Int):(atR A s a).1.kind≠10:=by
 unfold atR
 rcases Znb A.segments s a with h | ⟨h1,hp,hk,hi⟩
 ·rw [if_pos h];simp [r0]
 rw [if_neg (by omega)]
 have hc:=hp.c
 generalize (fol A.segments s a).1=x at *
 simp only
 split
 ·simp
 split
 ·split
  ·simp [r0]
  simp
 simp only
 omega
theorem Z4o {r:Za} (h:r.kind=1∨r.kind=8) (i:Int):(Yv A r i).1.kind≠10:=by
 unfold Yv
 split
 ·simp [r0]
 split
 ·exact Z1h _ _
 split
 ·exact Z1h _ _
 omega
theorem Z0h {r:Za} (h:r.kind=9) {i:Int} (hi:0≤i∧i < Yx r):Yv A r i=(⟨some A,1,r.segment,r.at_+1+i * (r.words+r.ptrs),r.words,r.ptrs,0,0,0⟩,0):=by
 unfold Yv
 rw [if_neg (by omega),if_neg (by omega),if_neg (by omega),if_pos h]
theorem Ybp {r:Za} (h:2≤r.kind∧r.kind≤7) {i:Int} (hi:0≤i∧i < Yx r):Yv A r i=(⟨some A,10,r.segment,r.at_,0,0,0,r.kind - 2,i⟩,0):=by
 unfold Yv
 rw [if_neg (by omega),if_neg (by omega),if_neg (by omega),if_neg (by omega)]
theorem Yaz (c:Int):((wid c:Nat):Int)=wdt c:=by
 unfold wid wdt
 repeat' split
 all_goals rfl
theorem Z6e (r:Za):Zcx r.code (Zxk A r)=true:=by
 unfold Zcx Zxk
 rw [decide_eq_true_eq]
 split
 ·exact Int.pow_pos (by decide)
 unfold Z0p
 have:(wdt r.code).toNat=wid r.code:=by rw [← Yaz,Int.toNat_natCast]
 rw [this]
 have h:=Nat.mod_lt ((wd A.segments r.segment (r.at_+r.index / each r.code)).toNat / 2 ^ (r.index % each r.code * wdt r.code).toNat) (Nat.pow_pos (n:=wid r.code) (show 0 < 2 by decide))
 have e:(2:Int) ^ wid r.code=((2 ^ wid r.code:Nat):Int):=by simp
 rw [e]
 omega
theorem Zqq {r:Za} (hr:OKr A r) (h:r.kind=1):((Xf A r).length:Int)=r.words:=by
 unfold Xf
 rw [if_neg (by omega),if_pos h]
 cases hr with
 | z=>simp [r0] at h
 | st s a d p hd hp hin =>
  have:=inB_iff.1 hin
  simp only [List.length_take,List.length_drop]
  simp only [seg] at this ⊢
  omega
 | li k s a n hk=>simp only at h;omega
 | co=>simp at h
 | at_=>simp at h
def HF (A:Zj) (f:Za→Int→Tr×Int×Int) (d:Nat):Prop:=∀ k left,OKr A k→k.kind≠10→0≤left→left≤65536→(f k left).2.2=0→0≤(f k left).2.1∧(f k left).2.1≤left∧(f k left).1.Kind=k.kind∧GG (f k left).1 d (left - (f k left).2.1)
theorem Z43 {κ:Int} (h:κ=1∨κ=8) {k:Tr} (hk:k.Kind≠10):okk κ k=true:=by
 unfold okk
 rw [if_neg (by omega)]
 have e1:(k.Kind != 10)=true:=bne_iff_ne.2 hk
 have e2:(κ != 9)=true:=bne_iff_ne.2 (by omega)
 rw [e1,e2]
 rfl
theorem Ya4 {f:Za→Int→Tr×Int×Int} {d:Nat} (hd:1≤d∧d≤64) (hf:HF A f (d - 1)) {r:Za} (hr:OKr A r) (h1:r.kind=1) {left:Int} (h0:0≤left) (hb:1+r.words+r.ptrs+left≤65536) (h:(Yw f (Yv A r) r.ptrs.toNat 0 left []).2.2=0) :
  0≤(Yw f (Yv A r) r.ptrs.toNat 0 left []).2.1∧(Yw f (Yv A r) r.ptrs.toNat 0 left []).2.1≤left∧GG ⟨1,Xf A r,(Yw f (Yv A r) r.ptrs.toNat 0 left []).1⟩ d (1+r.words+r.ptrs+(left - (Yw f (Yv A r) r.ptrs.toNat 0 left []).2.1)):=by
 have hrg:0≤r.words∧r.words < 65536∧0≤r.ptrs∧r.ptrs < 65536:=by
  cases hr with
  | z=>simp [r0] at h1
  | st s a d p hd hp hin=>simp only;omega
  | li k s a n hk=>simp only at h1;omega
  | co=>simp at h1
  | at_=>simp at h1
 have hwl:=Zqq hr h1
 obtain ⟨a1,a2,ps,b1,b2,b3,b4⟩:=Zwa (f:=f) (g:=Yv A r) (Q:=fun t w=>GG t (d - 1) w∧okk 1 t=true) (e:=0) (M:=left) (n:=r.ptrs.toNat) (fun i l hi hl hM g0 e0=>by
  have hk:=Z4o (A:=A) (r:=r) (.inl h1) i
  obtain ⟨c1,c2,c3,c4⟩:=hf _ l (Zax hr i) hk hl (by omega) e0
  exact ⟨c1,c2,by rw [Int.add_zero];exact c4,Z43 (.inl rfl) (by rw [c3];exact hk)⟩) r.ptrs.toNat 0 left [] (by omega) h0 (Int.le_refl _) h
 refine ⟨a1,a2,?_⟩
 rw [List.nil_append] at b1
 rw [Int.zero_mul,Int.add_zero] at b4
 refine Z4m (t:=⟨1,Xf A r,_⟩) ⟨show (1:Int)≤1 by decide,show (1:Int)≤9 by decide⟩ hd (.inl ?_) ?_ (fun q=>absurd q (show ¬ (1:Int) < 1 by decide)) b1 b3 (b:=1+((Xf A r).length:Int)) (c:=1) rfl rfl ?_ (by omega)
 ·show (Yw f (Yv A r) r.ptrs.toNat 0 left []).1.length < 65536
  rw [b1,List.length_map,b2]
  omega
 ·show (Xf A r).length < 65536
  omega
 rw [b4,b2]
 omega
end
section
variable {A:Zj}
theorem Z80 (f:Za→Int→Tr×Int×Int) (k:Za) (left:Int):(stK A f k left).1.Kind=1:=rfl
theorem Z9v (hw:WS A.segments):∀ d:Nat,d≤64→HF A (Zcr A d) d:=fun d=>by
 induction d using Nat.strongRecOn with
 | ind d ih =>
  intro hd r left hr h10 h0 hl h
  have hP:∀ k,1≤k→k≤d→HF A (Yy A k d) (d - k):=fun k hk hkd=>by
   unfold Yy
   rw [if_pos hkd]
   exact ih _ (by omega) (by omega)
  have hwt:=Z9d hw hr
  have hkn:=Zg1 hr
  have hkd:=Z7t hr
  rw [Zht] at h ⊢
  unfold Zg4 at h ⊢
  by_cases k0:r.kind=0
  ·rw [if_pos k0]
   refine ⟨h0,Int.le_refl _,rfl,?_⟩
   have e:Xf A r=[]:=by unfold Xf;rw [if_neg (by omega),if_neg (by omega)]
   simp only
   rw [e,k0,Int.sub_self]
   exact Z9w d
  rw [if_neg k0] at h ⊢
  by_cases hb:d < lvR r∨left < wtR r
  ·rw [if_pos hb] at h;simp at h
  rw [if_neg hb] at h ⊢
  have hlv:1≤lvR r:=by
   unfold lvR
   rw [if_neg k0]
   split <;> omega
  have hd1:1≤d∧d≤64:=by omega
  by_cases k1:r.kind=1
  ·-- a struct
   have ek:Yx r=r.ptrs:=by unfold Yx;rw [if_pos k1]
   have ew:wtR r=1+r.words+r.ptrs:=by unfold wtR;rw [if_neg k0,if_pos k1]
   have ef:V6 A (Yy A 1 d) (Yy A 2 d) r=Yy A 1 d:=by unfold V6;rw [if_neg (by omega),if_pos (.inl k1)]
   simp only at h ⊢
   rw [ek,ew,ef] at h ⊢
   obtain ⟨a1,a2,a3⟩:=Ya4 hd1 (hP 1 (by omega) (by omega)) hr k1 (left:=left - (1+r.words+r.ptrs)) (by omega) (by omega) h
   refine ⟨a1,by omega,trivial,?_⟩
   rw [k1]
   have:left - (Yw (Yy A 1 d) (Yv A r) r.ptrs.toNat 0 (left - (1+r.words+r.ptrs)) []).2.1=1+r.words+r.ptrs+(left - (1+r.words+r.ptrs) - (Yw (Yy A 1 d) (Yv A r) r.ptrs.toNat 0 (left - (1+r.words+r.ptrs)) []).2.1):=by omega
   rw [this]
   exact a3
  -- a list
  have ewl:Xf A r=[]:=by unfold Xf;rw [if_neg h10,if_neg k1]
  have ek:Yx r=r.count:=by unfold Yx;rw [if_neg k1]
  rw [ek] at hkn
  simp only at h ⊢
  rw [ek] at h ⊢
  have hcw:r.count+1≤wtR r:=by
   cases hr with
   | z=>simp [r0] at k0
   | st=>simp at k1
   | li k s a n hk hn hin =>
    simp only [wtR] at *
    rw [if_neg (by omega),if_neg (by omega),if_neg (by omega)]
    omega
   | co s a d' p n hd' hp hn hwx hin =>
    have:n * (1+d'+p)=n+n * (d'+p):=by rw [Int.add_assoc,Int.mul_add,Int.mul_one]
    simp [wtR]
    omega
   | at_=>simp at h10
  -- what each kid adds
  have main:∀ e:Int,wtR r=1+e * r.count+(if r.kind=8 then r.count else 0)→(∀ (i:Nat) (l:Int),i < r.count.toNat→0≤l→l≤left - wtR r→(Yv A r i).2=0→(V6 A (Yy A 1 d) (Yy A 2 d) r (Yv A r i).1 l).2.2=0→0≤(V6 A (Yy A 1 d) (Yy A 2 d) r (Yv A r i).1 l).2.1∧(V6 A (Yy A 1 d) (Yy A 2 d) r (Yv A r i).1 l).2.1≤l∧(GG (V6 A (Yy A 1 d) (Yy A 2 d) r (Yv A r i).1 l).1 (d - 1) (l - (V6 A (Yy A 1 d) (Yy A 2 d) r (Yv A r i).1 l).2.1+e)∧okk r.kind (V6 A (Yy A 1 d) (Yy A 2 d) r (Yv A r i).1 l).1=true)) →
    0≤(Yw (V6 A (Yy A 1 d) (Yy A 2 d) r) (Yv A r) r.count.toNat 0 (left - wtR r) []).2.1∧(Yw (V6 A (Yy A 1 d) (Yy A 2 d) r) (Yv A r) r.count.toNat 0 (left - wtR r) []).2.1≤left∧True∧GG ⟨r.kind,Xf A r,(Yw (V6 A (Yy A 1 d) (Yy A 2 d) r) (Yv A r) r.count.toNat 0 (left - wtR r) []).1⟩ d (left - (Yw (V6 A (Yy A 1 d) (Yy A 2 d) r) (Yv A r) r.count.toNat 0 (left - wtR r) []).2.1):=fun e he hQ=>by
   obtain ⟨a1,a2,ps,b1,b2,b3,b4⟩:=Zwa (f:=V6 A (Yy A 1 d) (Yy A 2 d) r) (g:=Yv A r) (Q:=fun t w=>GG t (d - 1) w∧okk r.kind t=true) (e:=e) (M:=left - wtR r) (n:=r.count.toNat) hQ r.count.toNat 0 (left - wtR r) [] (by omega) (by omega) (Int.le_refl _) h
   refine ⟨a1,by omega,trivial,?_⟩
   rw [List.nil_append] at b1
   rw [show ((r.count.toNat:Nat):Int)=r.count by omega] at b4
   have hc8:(if r.kind=8 then (1:Int) else 0)=if r.kind=1∨r.kind=8 then 1 else 0:=by
    by_cases k8:r.kind=8
    ·rw [if_pos k8,if_pos (.inr k8)]
    rw [if_neg k8,if_neg (by omega)]
   refine Z4m (t:=⟨r.kind,Xf A r,_⟩) (show 1≤r.kind∧r.kind≤9 by omega) hd1 (.inr ⟨k1,?_⟩) ?_ (fun _=>by simp only;rw [ewl];rfl) b1 b3 (b:=1) (c:=if r.kind=8 then 1 else 0) (by simp only;rw [if_neg k1]) hc8 ?_ (by omega)
   ·show (Yw (V6 A (Yy A 1 d) (Yy A 2 d) r) (Yv A r) r.count.toNat 0 (left - wtR r) []).1.length≤65536
    rw [b1,List.length_map,b2]
    omega
   ·show (Xf A r).length < 65536
    rw [ewl]
    decide
   rw [b4,b2,show ((r.count.toNat:Nat):Int)=r.count by omega]
   by_cases k8:r.kind=8
   ·rw [if_pos k8] at he ⊢
    rw [Int.one_mul]
    omega
   rw [if_neg k8] at he ⊢
   rw [Int.zero_mul]
   omega
  by_cases k9:r.kind=9
  ·have ef:V6 A (Yy A 1 d) (Yy A 2 d) r=stK A (Yy A 2 d):=by unfold V6;rw [if_pos k9]
   have ew:wtR r=1+r.count * (1+r.words+r.ptrs):=by unfold wtR;rw [if_neg k0,if_neg k1,if_pos k9]
   refine main (1+r.words+r.ptrs) (by rw [if_neg (by omega),ew,Int.mul_comm];omega) fun i l hi h0' hM g0 e0 => ?_
   rw [ef] at e0 ⊢
   have hks:=Z0h (A:=A) k9 (i:=(i:Int)) (by rw [ek];omega)
   have hko:=Zax hr (i:Int)
   have hl2:2≤d:=by
    have:lvR r=2:=by unfold lvR;rw [if_neg k0,if_pos ⟨k9,by omega⟩]
    omega
   have hfit:1+r.words+r.ptrs≤wtR r - 1:=by
    have hnn:0≤1+r.words+r.ptrs:=by
     cases hr with
     | z=>simp [r0] at k0
     | st=>simp at k1
     | li k s a n hk hn hin=>simp only at k9;omega
     | co s a d' p n hd' hp hn hwx hin=>simp only;omega
     | at_=>simp at h10
    have:1 * (1+r.words+r.ptrs)≤r.count * (1+r.words+r.ptrs):=Int.mul_le_mul_of_nonneg_right (by omega) hnn
    rw [ew]
    omega
   have e1:(Yv A r (i:Int)).1.kind=1:=by rw [hks]
   have e2:(Yv A r (i:Int)).1.words=r.words:=by rw [hks]
   have e3:(Yv A r (i:Int)).1.ptrs=r.ptrs:=by rw [hks]
   obtain ⟨a1,a2,a3⟩:=Ya4 (d:=d - 1) (by omega) (hP 2 (by omega) hl2) hko e1 (left:=l) h0' (by rw [e2,e3];omega) e0
   refine ⟨a1,a2,?_,?_⟩
   ·have ea:1+(Yv A r (i:Int)).1.words+(Yv A r (i:Int)).1.ptrs=1+r.words+r.ptrs:=by rw [e2,e3]
    rw [ea,Int.add_comm (1+r.words+r.ptrs)] at a3
    exact a3
   unfold okk
   rw [if_neg (by omega),Z80,k9]
   rfl
  by_cases k8:r.kind=8
  ·have ef:V6 A (Yy A 1 d) (Yy A 2 d) r=Yy A 1 d:=by unfold V6;rw [if_neg k9,if_pos (.inr k8)]
   have ew:wtR r=1+r.count:=by unfold wtR;rw [if_neg k0,if_neg k1,if_neg k9]
   refine main 0 (by rw [if_pos k8,ew,Int.zero_mul];omega) fun i l hi h0' hM g0 e0 => ?_
   rw [ef] at e0 ⊢
   have hk:=Z4o (A:=A) (r:=r) (.inr k8) i
   obtain ⟨c1,c2,c3,c4⟩:=hP 1 (by omega) (by omega) _ l (Zax hr i) hk h0' (by omega) e0
   exact ⟨c1,c2,by rw [Int.add_zero];exact c4,Z43 (.inr k8) (by rw [c3];exact hk)⟩
  have ef:V6 A (Yy A 1 d) (Yy A 2 d) r=Zus A:=by unfold V6;rw [if_neg k9,if_neg (by omega)]
  have ew:wtR r=1+r.count:=by unfold wtR;rw [if_neg k0,if_neg k1,if_neg k9]
  refine main 1 (by rw [if_neg k8,ew,Int.one_mul];omega) fun i l hi h0' hM g0 e0 => ?_
  rw [ef] at e0 ⊢
  have hks:=Ybp (A:=A) (r:=r) (by omega) (i:=(i:Int)) (by rw [ek];omega)
  unfold Zus
  simp only
  refine ⟨h0',Int.le_refl _,?_⟩
  have e1:(Yv A r (i:Int)).1.kind=10:=by rw [hks]
  have e2:(Yv A r (i:Int)).1.code=r.kind - 2:=by rw [hks]
  have ewk:Xf A (Yv A r (i:Int)).1=[Zxk A (Yv A r (i:Int)).1]:=by unfold Xf;rw [if_pos e1]
  rw [e1,ewk,Int.sub_self,Int.zero_add]
  refine ⟨Ybn _ _,?_⟩
  unfold okk
  rw [if_pos (by omega)]
  have:=Z6e (A:=A) (Yv A r (i:Int)).1
  rw [e2] at this
  simp only [List.headD_cons]
  rw [this]
  rfl
end
theorem Z48:∀ (n:Nat) (t:Tr),SizeOf.sizeOf t < n→∀ d d',d≤d'→rt t d=true→rt t d'=true
 | 0,t,h,_,_,_,_=>by omega
 | n+1,t,hn,d,d',hd,h=>by
  rw [Zfe] at h ⊢
  by_cases h0:t.Kind=0
  ·rw [if_pos h0] at h ⊢
   exact h
  rw [if_neg h0] at h ⊢
  by_cases h10:t.Kind=10
  ·rw [if_pos h10] at h ⊢
   exact h
  rw [if_neg h10] at h ⊢
  by_cases hb:t.Kind < 0∨10 < t.Kind∨d=0∨65536≤t.Words.length∨(t.Kind=1∧65536≤t.Kids.length)∨1048576≤t.Kids.length∨(1 < t.Kind∧0 < t.Words.length)
  ·rw [if_pos hb] at h
   cases h
  rw [if_neg hb] at h
  rw [if_neg (by omega)]
  rw [List.all_eq_true] at h ⊢
  intro x hx
  have:=h x hx
  rw [Bool.and_eq_true] at this ⊢
  exact ⟨Z48 n x (by have:=Y8 hx;omega) (d - 1) (d' - 1) (by omega) this.1,this.2⟩
theorem Zf6 {α S R σ:Type} (xs:List α) (mk:S→Int→σ) (f:S→α→S) (out:S→R) (I:S→Prop) (step:σ→Option (σ ⊕ R)) (hl:(xs.length:Int)≤140737488355328)
  (h1:∀ (s:S) (i:Nat) (x:α),I s→i < xs.length→xs[i]? = some x→x∈xs→I (f s x)∧step (mk s (i:Int))=some (.inl (mk (f s x) (IntKind.i64.wrap ((i:Int)+1))))) (h2:∀ s,I s→step (mk s (xs.length:Int))=some (.inr (out s))) (s:S) (hs:I s):Zw step (mk s 0)=some (out (xs.foldl f s))∧I (xs.foldl f s):=by
 have key:∀ (ys:List α) (i:Nat) (s:S),I s→xs.drop i=ys→i≤xs.length→Zw step (mk s (i:Int))=some (out (ys.foldl f s))∧I (ys.foldl f s):=fun ys=>by
  induction ys with
  | nil =>
   intro i s hI h hi
   have:i=xs.length:=by
    have:=congrArg List.length h
    rw [List.length_drop,List.length_nil] at this
    omega
   subst this
   exact ⟨Y0 (h2 s hI),hI⟩
  | cons x ys ih =>
   intro i s hI h hi
   have hx:xs[i]? = some x:=by
    have:=congrArg (fun l=>l[0]?) h
    simpa using this
   have hi':i < xs.length:=by
    rcases Nat.lt_or_ge i xs.length with h' | h'
    ·exact h'
    rw [List.getElem?_eq_none h'] at hx;cases hx
   obtain ⟨hI',hs⟩:=h1 s i x hI hi' hx (List.mem_of_getElem? hx)
   have hd:xs.drop (i+1)=ys:=by
    have:=congrArg List.tail h
    rwa [List.tail_drop,List.tail_cons] at this
   have e1:(i:Int)+1=((i+1:Nat):Int):=by omega
   rw [Z4 (by omega) (by omega),e1] at hs
   rw [Xz hs]
   exact ih (i+1) (f s x) hI' hd (by omega)
 exact key xs 0 s hs rfl (Nat.zero_le _)
def n0T:Tr:=⟨0,[],[]⟩
theorem Z2a {α β:Type} (xs:List α) (f:α→β) (step:Int×List β→Option ((Int×List β) ⊕ List β)) (acc:List β) (hl:(xs.length:Int)≤140737488355328)
  (h1:∀ (i:Nat) (x:α) (out:List β),i < xs.length→xs[i]? = some x→x∈xs→out.length=acc.length+i→step ((i:Int),out)=some (.inl (IntKind.i64.wrap ((i:Int)+1),out++[f x])))
  (h2:∀ out,step ((xs.length:Int),out)=some (.inr out)):Zw step (0,acc)=some (acc++xs.map f):=by
 have key:∀ m i,i+m=xs.length→Zw step ((i:Int),acc++(xs.take i).map f)=some (acc++xs.map f):=fun m=>by
  induction m with
  | zero =>
   intro i hi
   have hi':i=xs.length:=by omega
   subst hi'
   rw [List.take_length]
   exact Y0 (h2 _)
  | succ m ih =>
   intro i hi
   have hx:xs[i]? = some xs[i]:=List.getElem?_eq_getElem (by omega)
   have h:=h1 i _ (acc++(xs.take i).map f) (by omega) hx (List.mem_of_getElem? hx) (by rw [List.length_append,List.length_map,List.length_take];omega)
   rw [Z4 (by omega) (by omega)] at h
   rw [Xz h]
   have e:acc++(xs.take i).map f++[f xs[i]]=acc++(xs.take (i+1)).map f:=by
    rw [List.take_add_one,hx,List.map_append,List.append_assoc]
    rfl
   rw [e]
   exact ih (i+1) (by omega)
 have:=key xs.length 0 (by omega)
 simpa using this
end Go.Proofs.Ytnapihlnlajlpaa
