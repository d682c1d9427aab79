/- Plain facts on this seat's mirrors (part JP1); each theorem bears its own conditions. -/
import Derived.Test.YtmlcnhambfkjaaaGreatJD
namespace Go.Proofs.YtmlcnhambfkjaaaGreat
open Go.RowKit
set_option linter.unusedVariables false
set_option linter.unusedSimpArgs false
theorem Za7 {a b:Int} (h:¬ a=b):(a == b)=false:=by simp [h]
def Zx9 (w:Nat):Int:=if w / 4 % 1073741824 < 536870912 then ((w / 4 % 1073741824:Nat):Int) else ((w / 4 % 1073741824:Nat):Int) - 1073741824
def Z6c (w:Nat):Yp :=
 if w=0 then ⟨0,0,0,0,0,0,0,false⟩
 else if w % 4=0 then ⟨1,Zx9 w,(w / 4294967296 % 65536:Nat),(w / 281474976710656 % 65536:Nat),0,0,0,false⟩
 else if w % 4=1 then ⟨2,Zx9 w,0,0,(w / 4294967296 % 8:Nat),(w / 34359738368 % 536870912:Nat),0,false⟩
 else if w % 4=2 then ⟨3,(w / 8 % 536870912:Nat),0,0,0,0,(w / 4294967296 % 4294967296:Nat),decide (w / 4 % 2=1)⟩
 else ⟨4,0,0,0,0,0,0,false⟩
theorem Z0k (b:Nat):((2:Int) ^ b)=((2 ^ b:Nat):Int):=by simp
theorem Zmu (w f b:Nat) (hw:w < 18446744073709551616) (hf:f < 64) (hb:b≤40):Jb w f b=some ((w / 2 ^ f % 2 ^ b:Nat):Int):=by
 unfold Jb Km
 rw [if_pos (Int.natCast_nonneg _),if_pos (Int.natCast_nonneg _)]
 simp only [Option.bind_some,Option.some.injEq]
 have hp:(2:Nat) ^ b≤1099511627776:=by have:=Nat.pow_le_pow_right (n:=2) (by decide) hb;simpa using this
 have h1:0 < (2:Nat) ^ b:=Nat.pow_pos (by decide)
 have e1:(min ((f:Int).toNat) 64)=f:=by omega
 have e2:(min ((b:Int).toNat) 64)=b:=by omega
 have hd:w / 2 ^ f < 18446744073709551616:=Nat.lt_of_le_of_lt (Nat.div_le_self _ _) hw
 have e3:((w:Int).fdiv ((2 ^ f:Nat):Int))=((w / 2 ^ f:Nat):Int):=by
  rw [Int.fdiv_eq_ediv_of_nonneg _ (Int.natCast_nonneg _),Int.natCast_ediv]
 rw [e1,e2,Z0k,Z0k,e3]
 clear e3
 generalize hq:2 ^ b=q at *
 generalize w / 2 ^ f=x at *
 rw [Int.one_mul,IntWalk.u64_in (q:Int) (by omega),IntWalk.u64_in ((q:Int) - 1) (by omega)]
 have e4:((q:Int) - 1)=((q - 1:Nat):Int):=by omega
 rw [e4,Z6r _ _ hd (by omega),← hq,Nat.and_two_pow_sub_one_eq_mod,hq]
 have:x % q < q:=Nat.mod_lt _ h1
 rw [IntWalk.u64_in _ (by omega),IntWalk.i64_in _ (by omega)]
theorem Yj0 (w:Nat) (hw:w < 18446744073709551616):IntKind.i64.wrap ((IntKind.i32.wrap (IntKind.u32.wrap (w:Int))).fdiv (2 ^ min (Int.toNat 2) 32))=Zx9 w:=by
 have e:(2:Int) ^ min (Int.toNat 2) 32=4:=by decide
 rw [e,Int.fdiv_eq_ediv_of_nonneg _ (by decide),IntKind.wrap_u32,IntKind.wrap_i32]
 unfold Zx9
 rw [IntWalk.i64_in _ (by omega)]
 split <;> omega
theorem Ydp (w:Nat) (hw:w < 18446744073709551616):Zev w=some (Zx9 w):=congrArg some (Yj0 w hw)
theorem Yo5 (w:Nat) (hw:w < 18446744073709551616):IntKind.u64.wrap (Uz .u64 w 3)=((w % 4:Nat):Int):=by
 have:=Z6r w 3 hw (by decide)
 rw [show ((3:Nat):Int)=3 from rfl] at this
 rw [this,show (3:Nat)=2 ^ 2 - 1 from rfl,Nat.and_two_pow_sub_one_eq_mod,IntWalk.u64_in _ (by omega)]
theorem Yo7 (w:Nat) (hw:w < 18446744073709551616):(IntKind.u64.wrap (Uz .u64 ((w:Int).fdiv (2 ^ min (Int.toNat 2) 64)) 1) == 1)=decide (w / 4 % 2=1):=by
 have e1:(2:Int) ^ min (Int.toNat 2) 64=4:=by decide
 have e2:((w:Int).fdiv 4)=((w / 4:Nat):Int):=by rw [Int.fdiv_eq_ediv_of_nonneg _ (by decide)];rfl
 have e3:=Z6r (w / 4) 1 (by omega) (by decide)
 rw [show ((1:Nat):Int)=1 from rfl,Nat.and_one_is_mod] at e3
 rw [e1,e2,e3,IntWalk.u64_in _ (by omega)]
 by_cases h:w / 4 % 2=1
 ·rw [h];decide
 have:w / 4 % 2=0:=by omega
 rw [this];decide
theorem Zzr (a:Nat) (b:Nat):((a:Int) == (b:Int))=decide (a=b):=by
 by_cases h:a=b
 ·subst h;simp
 simp [h,Int.natCast_inj]
theorem Ych (w:Nat) (hw:w < 18446744073709551616):V8 w=some (Z6c w):=by
 unfold V8
 have f1:Jb w 32 16=_:=Zmu w 32 16 hw (by decide) (by decide)
 have f2:Jb w 48 16=_:=Zmu w 48 16 hw (by decide) (by decide)
 have f3:Jb w 32 3=_:=Zmu w 32 3 hw (by decide) (by decide)
 have f4:Jb w 35 29=_:=Zmu w 35 29 hw (by decide) (by decide)
 have f5:Jb w 3 29=_:=Zmu w 3 29 hw (by decide) (by decide)
 have f6:Jb w 32 32=_:=Zmu w 32 32 hw (by decide) (by decide)
 have c0:((w:Int) == 0)=_:=Zzr w 0
 have c1:(((w % 4:Nat):Int) == 0)=_:=Zzr (w % 4) 0
 have c2:(((w % 4:Nat):Int) == 1)=_:=Zzr (w % 4) 1
 have c3:(((w % 4:Nat):Int) == 2)=_:=Zzr (w % 4) 2
 rw [Yo5 w hw,Ydp w hw,f1,f2,f3,f4,f5,f6,Yo7 w hw,c0,c1,c2,c3]
 simp only [Option.bind_some]
 unfold Z6c
 by_cases h0:w=0
 ·simp [h0]
 by_cases h1:w % 4=0
 ·simp [h0,h1]
 by_cases h2:w % 4=1
 ·simp [h0,h2]
 by_cases h3:w % 4=2
 ·simp [h0,h3]
 simp [h0,h1,h2,h3]
theorem Ydd (x i:Nat):x % 2 ^ (i+1)=x % 2 ^ i+2 ^ i * (x / 2 ^ i % 2):=Nat.mod_pow_succ
theorem Ze0 (w f b:Nat) (hw:w < 18446744073709551616) (hf:f < 64) (hb:b≤40):Yf w f b=some ((w / 2 ^ f % 2 ^ b:Nat):Int):=by
 unfold Yf
 have l0:Zv (G7 f) ((w:Int),0)=some ((w / 2 ^ f:Nat):Int):=by
  refine Zk0 (fun s=>∃ i:Nat,i≤f∧s=(((w / 2 ^ i:Nat):Int),(i:Int))) (fun s=>f - s.2.toNat) ?_ _ ⟨0,by omega,by simp⟩
  rintro s ⟨i,hi,rfl⟩
  unfold G7
  have hs:w / 2 ^ (i+1)=w / 2 ^ i / 2:=by rw [Nat.pow_succ,Nat.div_div_eq_div_mul]
  have hd:w / 2 ^ i < 18446744073709551616:=Nat.lt_of_le_of_lt (Nat.div_le_self _ _) hw
  by_cases h:i < f
  ·left
   refine ⟨(((w / 2 ^ (i+1):Nat):Int),((i+1:Nat):Int)),?_,⟨i+1,by omega,rfl⟩,by simp only;omega⟩
   have:decide ((i:Int) < f)=true:=by simp;omega
   simp only [this,cond_true]
   rw [hs]
   generalize w / 2 ^ i=y at *
   rw [Int.tdiv_eq_ediv_of_nonneg (by omega),Z3h (by omega),Zni (by omega)]
   rfl
  right
  have:decide ((i:Int) < f)=false:=by simp;omega
  obtain rfl:i=f:=by omega
  simp only [this,cond_false]
 rw [l0]
 simp only [Option.bind_some]
 generalize hx:w / 2 ^ f=x at *
 have hd:x < 18446744073709551616:=by rw [← hx];exact Nat.lt_of_le_of_lt (Nat.div_le_self _ _) hw
 have l1:Zv (G8 b) ((x:Int),0,1,0)=some ((x % 2 ^ b:Nat):Int):=by
  refine Zk0 (fun s=>∃ j:Nat,j≤b∧s=(((x / 2 ^ j:Nat):Int),((x % 2 ^ j:Nat):Int),((2 ^ j:Nat):Int),(j:Int))) (fun s=>b - s.2.2.2.toNat) ?_ _ ⟨0,by omega,by simp [Nat.mod_one]⟩
  rintro s ⟨j,hj,rfl⟩
  unfold G8
  have hdj:x / 2 ^ j < 18446744073709551616:=Nat.lt_of_le_of_lt (Nat.div_le_self _ _) hd
  have hpj:(2:Nat) ^ j≤1099511627776:=by have:=Nat.pow_le_pow_right (n:=2) (by decide) (Nat.le_trans hj hb);simpa using this
  have h0:0 < (2:Nat) ^ j:=Nat.pow_pos (by decide)
  have hm:=Ydd x j
  have hs2:x / 2 ^ (j+1)=x / 2 ^ j / 2:=by rw [Nat.pow_succ,Nat.div_div_eq_div_mul]
  have hp2:(2:Nat) ^ (j+1)=2 ^ j * 2:=Nat.pow_succ ..
  have hlt:x % 2 ^ j < 2 ^ j:=Nat.mod_lt _ h0
  by_cases h:j < b
  ·left
   refine ⟨(((x / 2 ^ (j+1):Nat):Int),((x % 2 ^ (j+1):Nat):Int),((2 ^ (j+1):Nat):Int),((j+1:Nat):Int)),?_,⟨j+1,by omega,rfl⟩,by simp only;omega⟩
   have:decide ((j:Int) < b)=true:=by simp;omega
   simp only [this,cond_true]
   rw [hs2,hm,hp2]
   clear hs2 hm hp2
   generalize x / 2 ^ j=y at *
   generalize x % 2 ^ j=r at *
   generalize 2 ^ j=p at *
   rw [Int.tmod_eq_emod_of_nonneg (by omega),Int.tdiv_eq_ediv_of_nonneg (by omega)]
   by_cases hb1:y % 2=1
   ·have e:(((y:Int) % 2) == 1)=true:=by simp;omega
    rw [e,cond_true,hb1,Zni (by omega)]
    simp only [Option.bind_some]
    rw [Z3h (by omega),Zni (by omega),Zni (by omega)]
    simp only [Option.some.injEq,Sum.inl.injEq,Prod.mk.injEq]
    omega
   have e:(((y:Int) % 2) == 1)=false:=by simp;omega
   have hb0:y % 2=0:=by omega
   rw [e,cond_false,hb0]
   simp only [Option.bind_some]
   rw [Z3h (by omega),Zni (by omega),Zni (by omega)]
   simp only [Option.some.injEq,Sum.inl.injEq,Prod.mk.injEq]
   omega
  right
  have:decide ((j:Int) < b)=false:=by simp;omega
  obtain rfl:j=b:=by omega
  simp only [this,cond_false]
 rw [l1]
 simp only [Option.bind_some]
theorem Ybc (w:Nat) (hw:w < 18446744073709551616):X1 w=some (Z6c w):=by
 unfold X1
 have f0:Yf w 2 30=_:=Ze0 w 2 30 hw (by decide) (by decide)
 have f00:Yf w 0 2=_:=Ze0 w 0 2 hw (by decide) (by decide)
 have f1:Yf w 32 16=_:=Ze0 w 32 16 hw (by decide) (by decide)
 have f2:Yf w 48 16=_:=Ze0 w 48 16 hw (by decide) (by decide)
 have f3:Yf w 32 3=_:=Ze0 w 32 3 hw (by decide) (by decide)
 have f4:Yf w 35 29=_:=Ze0 w 35 29 hw (by decide) (by decide)
 have f5:Yf w 3 29=_:=Ze0 w 3 29 hw (by decide) (by decide)
 have f6:Yf w 32 32=_:=Ze0 w 32 32 hw (by decide) (by decide)
 have f7:Yf w 2 1=_:=Ze0 w 2 1 hw (by decide) (by decide)
 have c0:((w:Int) == 0)=_:=Zzr w 0
 have c1:(((w % 4:Nat):Int) == 0)=_:=Zzr (w % 4) 0
 have c2:(((w % 4:Nat):Int) == 1)=_:=Zzr (w % 4) 1
 have c3:(((w % 4:Nat):Int) == 2)=_:=Zzr (w % 4) 2
 have c4:(((w / 4 % 2:Nat):Int) == 1)=_:=Zzr (w / 4 % 2) 1
 simp only [Nat.reducePow,Nat.div_one] at f0 f00 f1 f2 f3 f4 f5 f6 f7
 have ho:(cond (decide (536870912≤((w / 4 % 1073741824:Nat):Int))) (some (IntKind.i64.wrap (((w / 4 % 1073741824:Nat):Int) - 1073741824))) (some ((w / 4 % 1073741824:Nat):Int)))=some (Zx9 w):=by
  unfold Zx9
  rw [Zni (by omega)]
  by_cases h:w / 4 % 1073741824 < 536870912
  ·have:decide (536870912≤((w / 4 % 1073741824:Nat):Int))=false:=by simp;omega
   rw [this,if_pos h,cond_false]
  have:decide (536870912≤((w / 4 % 1073741824:Nat):Int))=true:=by simp;omega
  rw [this,if_neg h,cond_true]
 rw [f0]
 simp only [Option.bind_some,ho]
 rw [f00,f1,f2,f3,f4,f5,f6,f7]
 simp only [Option.bind_some]
 rw [c0,c1,c2,c3,c4]
 unfold Z6c
 by_cases h0:w=0
 ·simp [h0]
 by_cases h1:w % 4=0
 ·simp [h0,h1]
 by_cases h2:w % 4=1
 ·simp [h0,h2]
 by_cases h3:w % 4=2
 ·simp [h0,h3]
 simp [h0,h1,h2,h3]
theorem Yev (x:Nat) (h:x < 18446744073709551616):IntKind.u64.wrap (x:Int)=(x:Int):=IntWalk.u64_in _ (by omega)
theorem Yz {x:Int} (h1:-9223372036854775808≤x) (h2:x≤9223372036854775807):IntKind.i64.wrap x=x:=Zni ⟨h1,h2⟩
theorem Vz {i n:Nat} (h:i < n):decide ((i:Int) < (n:Int))=true:=by rw [decide_eq_true_eq];omega
theorem Zdd {n:Nat}:decide ((n:Int) < (n:Int))=false:=by rw [decide_eq_false_iff_not];omega
structure WS (l:List (List Int)):Prop where
 n:l.length * 24≤140737488355328
 s:∀ x∈l,x.length * 8≤140737488355328
 w:∀ x∈l,∀ w∈x,0≤w∧w < 18446744073709551616
theorem Zze {l:List Int} (h:l.length * 8≤140737488355328):X3 l=some l:=by
 unfold X3
 rw [J5 (by simp only [List.length_nil];omega) (by simp only [List.length_nil];omega),List.nil_append]
theorem Yek {α:Type} (l:List α) (n:Nat) (v:α):Zic l (n:Int) v=l.set n v:=by unfold Zic;rw [Int.toNat_natCast]
theorem Ztl {l:List (List Int)} (h:WS l):∀ (r:List (List Int)) (i:Nat),l.drop i=r→i≤l.length →
  Zv (Gf l) ((i:Int),l.take i++List.replicate r.length [])=some l
 | [],i,hd,hi=>by
  have hl:i=l.length:=by
   have:=congrArg List.length hd
   rw [List.length_drop,List.length_nil] at this;omega
  subst hl
  refine Z4 ?_
  unfold Gf
  simp only
  rw [Zdd,cond_false]
  simp
 | x::r,i,hd,hi=>by
  have hi':i < l.length:=by
   rcases Nat.lt_or_ge i l.length with q | q
   ·exact q
   rw [List.drop_eq_nil_of_le q] at hd;cases hd
  have hx:l[i]? = some x:=by
   have:=congrArg (·[0]?) hd
   simpa using this
  have hm:=List.mem_of_getElem? hx
  have hd':l.drop (i+1)=r:=by
   have:=congrArg (List.drop 1) hd
   rw [List.drop_drop] at this
   simpa [] using this
  have hn:=h.n
  have hlen:(l.take i).length=i:=by rw [List.length_take];omega
  have hg:Xj (l.take i++List.replicate (r.length+1) []) (i:Int)=some ([]:List Int):=Yk (by rw [List.getElem?_append_right (by omega),hlen,Nat.sub_self];rfl)
  have hstep:Gf l ((i:Int),l.take i++List.replicate (r.length+1) [])=some (.inl (((i+1:Nat):Int),l.take (i+1)++List.replicate r.length [])):=by
   unfold Gf
   simp only
   rw [Vz hi',cond_true,Yk hx,Option.bind_some,Zze (h.s x hm),Option.bind_some,hg,Option.bind_some,Yz (by omega) (by omega),Yek,List.set_append_right _ _ (by omega),hlen,Nat.sub_self,List.replicate_succ,List.set_cons_zero,List.take_add_one,hx,List.append_assoc]
   rfl
  rw [List.length_cons,Yd hstep]
  exact Ztl h r (i+1) hd' (by omega)
theorem Yai {l:List (List Int)} (h:WS l):Zds l=some l:=by
 have hn:=h.n
 have:=Ztl h l 0 rfl (Nat.zero_le _)
 rw [List.take_zero,List.nil_append,show (((0:Nat):Int))=0 from rfl] at this
 unfold Zds
 rw [Z4s (by omega) (by omega) (by omega),Option.bind_some,Int.toNat_natCast,this]
 rfl
theorem Yi9 {l:List (List Int)} (h:WS l):Zhi l=some (some ⟨l,0,0⟩):=by
 unfold Zhi
 rw [Yai h,Option.bind_some]
def seg (l:List (List Int)) (s:Int):List Int:=(l[s.toNat]?).getD []
def inB (l:List (List Int)) (s a n:Int):Bool:=decide (0≤s) && (decide (s < l.length) && (decide (0≤a) && (decide (0≤n) && decide (a+n≤(seg l s).length))))
theorem inB_iff {l:List (List Int)} {s a n:Int}:inB l s a n=true↔0≤s∧s < l.length∧0≤a∧0≤n∧a+n≤(seg l s).length:=by
 unfold inB
 simp only [Bool.and_eq_true,decide_eq_true_eq]
theorem Ze3 {l:List (List Int)} {s:Int} (h0:0≤s) (h1:s < l.length):Xj l s=some (seg l s)∧seg l s∈l:=by
 have hs:s.toNat < l.length:=by omega
 unfold seg Xj
 rw [if_pos h0,List.getElem?_eq_getElem hs]
 exact ⟨rfl,List.getElem_mem hs⟩
def wd (l:List (List Int)) (s a:Int):Int:=((seg l s)[a.toNat]?).getD 0
theorem Ztf {l:List (List Int)} {s a:Int} (h:inB l s a 1=true):Xj (seg l s) a=some (wd l s a)∧wd l s a∈seg l s:=by
 rw [inB_iff] at h
 have ha:a.toNat < (seg l s).length:=by omega
 unfold wd Xj
 rw [if_pos h.2.2.1,List.getElem?_eq_getElem ha]
 exact ⟨rfl,List.getElem_mem ha⟩
theorem Zlh {l:List (List Int)} (hw:WS l) (s a:Int):0≤wd l s a∧wd l s a < 18446744073709551616:=by
 unfold wd
 cases h:(seg l s)[a.toNat]? with
 | none=>simp
 | some w =>
  have hm:=List.mem_of_getElem? h
  unfold seg at hm
  cases hs:l[s.toNat]? with
  | none=>rw [hs] at hm;cases hm
  | some x=>rw [hs] at hm;exact hw.w x (List.mem_of_getElem? hs) w hm
theorem Zk4 {l:List (List Int)} (hw:WS l) (s:Int):(seg l s).length * 8≤140737488355328:=by
 unfold seg
 cases hs:l[s.toNat]? with
 | none=>simp
 | some x=>exact hw.s x (List.mem_of_getElem? hs)
section
variable {A:Zn}
theorem Yfa:Zcj (some A)=some (A.segments.length:Int):=rfl
theorem Zyj (s:Int):Vj (some A) s=some (decide (0≤s) && decide (s < A.segments.length)):=by
 unfold Vj
 rw [Yfa,Option.bind_some]
 cases decide (0≤s) <;> rfl
theorem Ybz (s:Int):V0 (some A) s=some (if 0≤s∧s < A.segments.length then ((seg A.segments s).length:Int) else 0):=by
 unfold V0
 rw [Zyj,Option.bind_some]
 by_cases h:0≤s∧s < A.segments.length
 ·rw [decide_eq_true h.1,decide_eq_true h.2,if_pos h,Option.bind_some,(Ze3 h.1 h.2).1]
  rfl
 rw [if_neg h,show (decide (0≤s) && decide (s < A.segments.length))=false from by rw [Bool.and_eq_false_iff,decide_eq_false_iff_not,decide_eq_false_iff_not];omega]
 rfl
theorem Zzp (hw:WS A.segments) (s a n:Int):Ve (some A) s a n=some (inB A.segments s a n):=by
 have hl:=Zk4 hw s
 unfold Ve inB
 rw [Zyj,Ybz,Option.bind_some]
 by_cases h:0≤s∧s < A.segments.length
 ·rw [if_pos h,decide_eq_true h.1,decide_eq_true h.2]
  by_cases h2:0≤a
  ·by_cases h3:0≤n
   ·by_cases h4:n≤((seg A.segments s).length:Int)
    ·simp only [decide_eq_true h2,decide_eq_true h3,Bool.and_true,Bool.true_and,cond_true,Option.bind_some,decide_eq_true h4]
     rw [Yz (by omega) (by omega)]
     congr 1
     rw [Bool.eq_iff_iff,decide_eq_true_eq,decide_eq_true_eq]
     omega
    simp only [decide_eq_true h2,decide_eq_true h3,Bool.and_true,Bool.true_and,cond_true,cond_false,Option.bind_some,decide_eq_false h4]
    rw [show decide (a+n≤((seg A.segments s).length:Int))=false from by rw [decide_eq_false_iff_not];omega]
   rw [decide_eq_true h2,decide_eq_false h3];rfl
  rw [decide_eq_false h2];rfl
 rw [show (decide (0≤s) && decide (s < A.segments.length))=false from by rw [Bool.and_eq_false_iff,decide_eq_false_iff_not,decide_eq_false_iff_not];omega]
 rw [← Bool.and_assoc,show (decide (0≤s) && decide (s < A.segments.length))=false from by rw [Bool.and_eq_false_iff,decide_eq_false_iff_not,decide_eq_false_iff_not];omega]
 rfl
theorem Zot (hw:WS A.segments) (s a:Int):Jh (some A) s a=some (if inB A.segments s a 1=true then (wd A.segments s a,true) else (0,false)):=by
 unfold Jh
 rw [Zzp hw,Option.bind_some]
 cases h:inB A.segments s a 1 with
 | false=>rfl
 | true =>
  have h':=inB_iff.1 h
  rw [Bool.not_true,cond_false,Option.bind_some,(Ze3 h'.1 h'.2.1).1,Option.bind_some,(Ztf h).1]
  rfl
theorem Yby (hw:WS A.segments) (s a n:Int):Gr (some A) s a n=some (if inB A.segments s a n=true then (((seg A.segments s).drop a.toNat).take n.toNat,true) else ([],false)):=by
 have hl:=Zk4 hw s
 unfold Gr
 rw [Zzp hw,Option.bind_some]
 cases h:inB A.segments s a n with
 | false=>rfl
 | true =>
  have h':=inB_iff.1 h
  rw [Bool.not_true,cond_false,Option.bind_some,(Ze3 h'.1 h'.2.1).1,Option.bind_some,Yz (by omega) (by omega),Zvl (by omega) (by omega) (by omega),Option.bind_some,show a+n - a=n by omega,Zze (by rw [List.length_take,List.length_drop];omega)]
  rfl
end
def dc (w:Int):Yp:=Z6c w.toNat
theorem Z31 {w:Int} (h:0≤w∧w < 18446744073709551616):V8 w=some (dc w):=by
 have:=Ych w.toNat (by omega)
 rwa [show ((w.toNat:Nat):Int)=w by omega] at this
theorem Zxj {w:Int} (h:0≤w∧w < 18446744073709551616):X1 w=some (dc w):=by
 have:=Ybc w.toNat (by omega)
 rwa [show ((w.toNat:Nat):Int)=w by omega] at this
structure PB (p:Yp):Prop where
 k:p.Kind=0∨p.Kind=1∨p.Kind=2∨p.Kind=3∨p.Kind=4
 o:-536870912≤p.Off∧p.Off < 536870912
 d:0≤p.Data∧p.Data < 65536
 q:0≤p.Ptrs∧p.Ptrs < 65536
 c:0≤p.Code∧p.Code < 8
 n:0≤p.Count∧p.Count < 536870912
 s:0≤p.Segment∧p.Segment < 4294967296
 f:p.Kind=3→0≤p.Off
 z:p.Kind=0∨p.Kind=4→p.Off=0
theorem Yf7 (w:Nat):-536870912≤Zx9 w∧Zx9 w < 536870912:=by
 unfold Zx9
 split <;> omega
theorem Zlt (w:Int):PB (dc w):=by
 have ho:=Yf7 w.toNat
 unfold dc Z6c
 split
 ·exact ⟨.inl rfl,by simp,by simp,by simp,by simp,by simp,by simp,by simp,by simp⟩
 split
 ·exact ⟨.inr (.inl rfl),ho,by simp only;omega,by simp only;omega,by simp,by simp,by simp,by simp,by simp⟩
 split
 ·exact ⟨.inr (.inr (.inl rfl)),ho,by simp,by simp,by simp only;omega,by simp only;omega,by simp,by simp,by simp⟩
 split
 ·exact ⟨.inr (.inr (.inr (.inl rfl))),by simp only;omega,by simp,by simp,by simp,by simp,by simp only;omega,fun _=>by simp only;omega,by simp⟩
 exact ⟨.inr (.inr (.inr (.inr rfl))),by simp,by simp,by simp,by simp,by simp,by simp,by simp,by simp⟩
def wdt (c:Int):Int:=if c=0 then 0 else if c=1 then 1 else if c=2 then 8 else if c=3 then 16 else if c=4 then 32 else 64
def pw (p:Yp):Int:=if p.Kind=1 then p.Data+p.Ptrs else if p.Code=7 then p.Count+1 else (p.Count * wdt p.Code+63) / 64
theorem c7 {c:Int} (h:0≤c∧c < 8) (h7:¬ c=7):c=0∨c=1∨c=2∨c=3∨c=4∨c=5∨c=6:=by omega
theorem Ye2 {c:Int} (h:0≤c∧c < 8) (h7:¬ c=7):Zf2 c=some (wdt c):=by
 unfold Zf2
 rcases c7 h h7 with rfl | rfl | rfl | rfl | rfl | rfl | rfl <;> rfl
theorem Ylh {p:Yp} (h:PB p):0≤pw p∧pw p≤1073741824:=by
 have:=h.d;have:=h.q;have hn:=h.n
 unfold pw
 split
 ·omega
 split
 ·omega
 rename_i h7
 rcases c7 h.c h7 with q | q | q | q | q | q | q <;> rw [q] <;> unfold wdt <;> simp <;> omega
theorem Ye5 {p:Yp} (h:PB p):Zb7 p=some (if p.Kind=1∨p.Kind=2 then (pw p,true) else (0,false)):=by
 have hd:=h.d;have hp:=h.q;have hn:=h.n
 unfold Zb7 pw
 by_cases k1:p.Kind=1
 ·rw [show (p.Kind == 1)=true from by rw [k1];rfl,cond_true,if_pos (.inl k1),if_pos k1,Yz (by omega) (by omega)]
 rw [show (p.Kind == 1)=false from Za7 k1,cond_false]
 by_cases k2:p.Kind=2
 ·rw [show (p.Kind == 2)=true from by rw [k2];rfl,cond_true,if_pos (.inr k2),if_neg k1]
  by_cases c7':p.Code=7
  ·rw [show (p.Code == 7)=true from by rw [c7'];rfl,cond_true,if_pos c7',Yz (by omega) (by omega)]
  rw [show (p.Code == 7)=false from Za7 c7',cond_false,if_neg c7',decide_eq_true h.c.1,show decide (p.Code < 7)=true from by rw [decide_eq_true_eq];have:=h.c;omega,decide_eq_true hn.1,show decide (p.Count≤536870911)=true from by rw [decide_eq_true_eq];omega]
  simp only [cond_true]
  rw [Ye2 h.c c7',Option.bind_some]
  have hw:0≤wdt p.Code∧wdt p.Code≤64:=by unfold wdt;repeat' split;all_goals omega
  have h1:0≤p.Count * wdt p.Code:=Int.mul_nonneg hn.1 hw.1
  have h2:p.Count * wdt p.Code≤536870912 * 64:=Int.mul_le_mul (by omega) hw.2 hw.1 (by omega)
  rw [Yz (x:=p.Count * wdt p.Code) (by omega) (by omega),Yz (x:=p.Count * wdt p.Code+63) (by omega) (by omega),Int.tdiv_eq_ediv_of_nonneg (by omega),Yz (by omega) (by omega)]
 rw [show (p.Kind == 2)=false from Za7 k2,if_neg (by omega)]
 rfl
theorem Ybh {p:Yp} (h:PB p) (hk:p.Kind=1∨p.Kind=2):Gv p=some (pw p):=by
 have hd:=h.d;have hp:=h.q;have hn:=h.n;have hc:=h.c
 unfold Gv pw
 by_cases k1:p.Kind=1
 ·rw [show (p.Kind == 1)=true from by rw [k1];rfl,cond_true,if_pos k1,Yz (by omega) (by omega)]
 have k2:p.Kind=2:=by omega
 rw [show (p.Kind == 1)=false from Za7 k1,cond_false,show (p.Kind != 2)=false from by rw [k2];rfl,cond_false,if_neg k1]
 by_cases c7':p.Code=7
 ·rw [show (p.Code == 7)=true from by rw [c7'];rfl,cond_true,if_pos c7',Yz (by omega) (by omega)]
 rw [show (p.Code == 7)=false from Za7 c7',cond_false,if_neg c7',show decide (p.Code < 0)=false from by rw [decide_eq_false_iff_not];omega,show decide (6 < p.Code)=false from by rw [decide_eq_false_iff_not];omega,show decide (p.Count < 0)=false from by rw [decide_eq_false_iff_not];omega,show decide (536870912≤p.Count)=false from by rw [decide_eq_false_iff_not];omega]
 simp only [cond_false]
 have hgen:∀ (k:Int),0 < k→(Km (k≠0)).bind (fun _=>cond (decide (0 < Int.tmod p.Count k)) ((Km (k≠0)).bind fun _=>some (IntKind.i64.wrap (IntKind.i64.wrap (Int.tdiv p.Count k)+1))) ((Km (k≠0)).bind fun _=>some (IntKind.i64.wrap (Int.tdiv p.Count k))))=some (if 0 < p.Count % k then p.Count / k+1 else p.Count / k):=fun k hk=>by
  have hne:k≠0:=by omega
  have h0:0≤p.Count / k:=Int.ediv_nonneg hn.1 (by omega)
  have h1:p.Count / k≤p.Count:=Int.ediv_le_self _ hn.1
  rw [Zdc hne,Option.bind_some,Option.bind_some,Option.bind_some,Int.tmod_eq_emod_of_nonneg hn.1,Int.tdiv_eq_ediv_of_nonneg hn.1,Yz (x:=p.Count / k) (by omega) (by omega),Yz (x:=p.Count / k+1) (by omega) (by omega)]
  by_cases q:0 < p.Count % k
  ·rw [if_pos q,decide_eq_true q,cond_true]
  rw [if_neg q,decide_eq_false q,cond_false]
 have hgo:∀ (k:Int),0 < k→(if 0 < p.Count % k then p.Count / k+1 else p.Count / k)=(p.Count+(k - 1)) / k:=fun k hk=>by
  have e:=Int.emod_add_mul_ediv p.Count k
  have e1:=Int.emod_nonneg p.Count (show k≠0 by omega)
  have e2:=Int.emod_lt_of_pos p.Count hk
  split
  ·symm
   have:p.Count+(k - 1)=(p.Count % k - 1)+k * (p.Count / k+1):=by rw [Int.mul_add];omega
   rw [this,Int.add_mul_ediv_left _ _ (by omega),Int.ediv_eq_zero_of_lt (by omega) (by omega)]
   omega
  symm
  have:p.Count+(k - 1)=(k - 1)+k * (p.Count / k):=by omega
  rw [this,Int.add_mul_ediv_left _ _ (by omega),Int.ediv_eq_zero_of_lt (by omega) (by omega)]
  omega
 rcases c7 h.c c7' with q | q | q | q | q | q | q
 ·rw [show (p.Code == 0)=true from by rw [q];rfl,cond_true,Option.bind_some,q]
  simp only [wdt,if_true,Int.mul_zero]
  rfl
 ·rw [show (p.Code == 0)=false from by rw [q];rfl,show (p.Code == 1)=true from by rw [q];rfl,cond_false,cond_true,Option.bind_some]
  simp only
  rw [hgen 64 (by omega),hgo 64 (by omega),q]
  simp [wdt]
 ·rw [show (p.Code == 0)=false from by rw [q];rfl,show (p.Code == 1)=false from by rw [q];rfl,show (p.Code == 2)=true from by rw [q];rfl,cond_false,cond_false,cond_true,Option.bind_some]
  simp only
  rw [hgen 8 (by omega),hgo 8 (by omega),q]
  simp [wdt]
  omega
 ·rw [show (p.Code == 0)=false from by rw [q];rfl,show (p.Code == 1)=false from by rw [q];rfl,show (p.Code == 2)=false from by rw [q];rfl,show (p.Code == 3)=true from by rw [q];rfl,cond_false,cond_false,cond_false,cond_true,Option.bind_some]
  simp only
  rw [hgen 4 (by omega),hgo 4 (by omega),q]
  simp [wdt]
  omega
 ·rw [show (p.Code == 0)=false from by rw [q];rfl,show (p.Code == 1)=false from by rw [q];rfl,show (p.Code == 2)=false from by rw [q];rfl,show (p.Code == 3)=false from by rw [q];rfl,show (p.Code == 4)=true from by rw [q];rfl,cond_false,cond_false,cond_false,cond_false,cond_true,Option.bind_some]
  simp only
  rw [hgen 2 (by omega),hgo 2 (by omega),q]
  simp [wdt]
  omega
 ·rw [show (p.Code == 0)=false from by rw [q];rfl,show (p.Code == 1)=false from by rw [q];rfl,show (p.Code == 2)=false from by rw [q];rfl,show (p.Code == 3)=false from by rw [q];rfl,show (p.Code == 4)=false from by rw [q];rfl,cond_false,cond_false,cond_false,cond_false,cond_false,Option.bind_some]
  simp only
  rw [hgen 1 (by omega),hgo 1 (by omega),q]
  simp [wdt]
  omega
 rw [show (p.Code == 0)=false from by rw [q];rfl,show (p.Code == 1)=false from by rw [q];rfl,show (p.Code == 2)=false from by rw [q];rfl,show (p.Code == 3)=false from by rw [q];rfl,show (p.Code == 4)=false from by rw [q];rfl,cond_false,cond_false,cond_false,cond_false,cond_false,Option.bind_some]
 simp only
 rw [hgen 1 (by omega),hgo 1 (by omega),q]
 simp [wdt]
 omega
def l0:Qi:=⟨⟨0,0,0,0,0,0,0,false⟩,0,0⟩
def Z41 (p:Yp):Yp:=⟨p.Kind,0,p.Data,p.Ptrs,p.Code,p.Count,p.Segment,p.Double⟩
def tgt (l:List (List Int)) (p:Yp) (s a:Int):Qi×Int :=
 if p.Kind=4 then (l0,9) else if p.Kind=1∨p.Kind=2 then (if inB l s a (pw p)=true then (⟨Z41 p,s,a⟩,0) else (l0,7)) else (l0,8)
def fol (l:List (List Int)) (s a:Int):Qi×Int :=
 if inB l s a 1=true then
  let p:=dc (wd l s a)
  if p.Kind=0 then (l0,0)
  else if p.Kind=3∧p.Double=true then
   if inB l p.Segment p.Off 2=true then
    let b:=dc (wd l p.Segment p.Off)
    let q:=dc (wd l p.Segment (p.Off+1))
    if b.Kind=3∧b.Double=false then (if q.Kind≠4∧q.Off≠0 then (l0,8) else tgt l q b.Segment b.Off) else (l0,8)
   else (l0,7)
  else if p.Kind=3 then
   if inB l p.Segment p.Off 1=true then
    let q:=dc (wd l p.Segment p.Off)
    tgt l q p.Segment (p.Off+1+q.Off)
   else (l0,7)
  else tgt l p s (a+1+p.Off)
 else (l0,7)
section
variable {A:Zn}
theorem Znf (hw:WS A.segments) {p:Yp} (h:PB p) (s a:Int):Zbz (some A) p s a=some (tgt A.segments p s a):=by
 unfold Zbz tgt
 by_cases k4:p.Kind=4
 ·rw [show (p.Kind == 4)=true from by rw [k4];rfl,if_pos k4];rfl
 rw [show (p.Kind == 4)=false from Za7 k4,cond_false,if_neg k4,Ye5 h,Option.bind_some]
 by_cases k:p.Kind=1∨p.Kind=2
 ·rw [if_pos k,if_pos k]
  simp only [Bool.not_true,cond_false]
  rw [Zzp hw,Option.bind_some]
  cases inB A.segments s a (pw p) <;> rfl
 rw [if_neg k,if_neg k]
 rfl
theorem Yly {l:List (List Int)} {s a:Int} (h:inB l s a 2=true):((seg l s).drop a.toNat).take (2:Int).toNat=[wd l s a,wd l s (a+1)]:=by
 have h':=inB_iff.1 h
 have h1:a.toNat < (seg l s).length:=by omega
 have h2:a.toNat+1 < (seg l s).length:=by omega
 unfold wd
 rw [show (a+1).toNat=a.toNat+1 by omega,List.getElem?_eq_getElem h1,List.getElem?_eq_getElem h2,show ((2:Int).toNat)=2 from rfl,List.drop_eq_getElem_cons h1,List.drop_eq_getElem_cons h2]
 rfl
theorem Yam (hw:WS A.segments) (s a:Int):Zet (some A) s a=some (if inB A.segments s a 2=true then (if (dc (wd A.segments s a)).Kind=3∧(dc (wd A.segments s a)).Double=false then (if (dc (wd A.segments s (a+1))).Kind≠4∧(dc (wd A.segments s (a+1))).Off≠0 then (l0,8) else tgt A.segments (dc (wd A.segments s (a+1))) (dc (wd A.segments s a)).Segment (dc (wd A.segments s a)).Off) else (l0,8)) else (l0,7)):=by
 unfold Zet
 rw [Yby hw,Option.bind_some]
 cases h:inB A.segments s a 2 with
 | false=>rfl
 | true =>
  simp only [if_true,Bool.not_true,cond_false]
  rw [Yly h]
  have g0:Xj [wd A.segments s a,wd A.segments s (a+1)] 0=some (wd A.segments s a):=rfl
  have g1:Xj [wd A.segments s a,wd A.segments s (a+1)] 1=some (wd A.segments s (a+1)):=rfl
  rw [g0,Option.bind_some,Z31 (Zlh hw _ _),Option.bind_some,g1,Option.bind_some,Z31 (Zlh hw _ _),Option.bind_some]
  generalize dc (wd A.segments s a)=b
  have hq:=Zlt (wd A.segments s (a+1))
  revert hq
  generalize dc (wd A.segments s (a+1))=q
  intro hq
  by_cases b3:b.Kind=3
  ·rw [show (b.Kind != 3)=false from by rw [b3];rfl,cond_false]
   cases bd:b.Double with
   | true=>rw [cond_true,if_neg (by simp)];rfl
   | false =>
    rw [cond_false,if_pos ⟨b3,rfl⟩]
    by_cases hq4:q.Kind=4
    ·rw [show (q.Kind != 4)=false from by rw [hq4];rfl,cond_false,cond_false,if_neg (by simp [hq4]),Znf hw hq]
     rfl
    rw [show (q.Kind != 4)=true from bne_iff_ne.2 hq4,cond_true]
    by_cases ho:q.Off=0
    ·rw [show (q.Off != 0)=false from by rw [ho];rfl,cond_false,if_neg (by simp [ho]),Znf hw hq]
     rfl
    rw [show (q.Off != 0)=true from bne_iff_ne.2 ho,cond_true,if_pos ⟨hq4,ho⟩]
    rfl
  rw [show (b.Kind != 3)=true from bne_iff_ne.2 b3,cond_true,cond_true,if_neg (by simp [b3])]
  rfl
theorem Z7r {l:List (List Int)} (hw:WS l) {s a n:Int} (h:inB l s a n=true):0≤a∧a≤17592186044416:=by
 have h':=inB_iff.1 h
 have:=Zk4 hw s
 omega
theorem Ybi (hw:WS A.segments) (s a:Int):Zeu (some A) s a=some (if inB A.segments s a 1=true then tgt A.segments (dc (wd A.segments s a)) s (a+1+(dc (wd A.segments s a)).Off) else (l0,7)):=by
 unfold Zeu
 rw [Zot hw,Option.bind_some]
 cases h:inB A.segments s a 1 with
 | false=>rfl
 | true =>
  have ha:=Z7r hw h
  have hq:=Zlt (wd A.segments s a)
  have ho:=hq.o
  simp only [if_true,Bool.not_true,cond_false]
  rw [Z31 (Zlh hw _ _),Option.bind_some,Yz (x:=a+1) (by omega) (by omega),Yz (by omega) (by omega),Znf hw hq]
  rfl
theorem Yap (hw:WS A.segments) (s a:Int):Zes (some A) s a=some (fol A.segments s a):=by
 unfold Zes fol
 rw [Zot hw,Option.bind_some]
 cases h:inB A.segments s a 1 with
 | false=>rfl
 | true =>
  have ha:=Z7r hw h
  have hq:=Zlt (wd A.segments s a)
  have ho:=hq.o
  simp only [if_true,Bool.not_true,cond_false]
  rw [Z31 (Zlh hw _ _),Option.bind_some]
  revert hq ho
  generalize dc (wd A.segments s a)=p
  intro hq ho
  by_cases k0:p.Kind=0
  ·rw [show (p.Kind == 0)=true from by rw [k0];rfl,cond_true,if_pos k0];rfl
  rw [show (p.Kind == 0)=false from Za7 k0,cond_false,if_neg k0]
  by_cases k3:p.Kind=3
  ·rw [show (p.Kind == 3)=true from by rw [k3];rfl,cond_true,cond_true]
   cases hd:p.Double with
   | true=>rw [cond_true,if_pos ⟨k3,rfl⟩,Yam hw];rfl
   | false=>rw [cond_false,if_neg (by simp),if_pos k3,Ybi hw];rfl
  rw [show (p.Kind == 3)=false from Za7 k3,cond_false,cond_false,cond_false,if_neg (by simp [k3]),if_neg k3,Yz (x:=a+1) (by omega) (by omega),Yz (by omega) (by omega),Znf hw hq]
  rfl
end
def toR (x:Qi):Yj:=⟨x.P,x.Segment,x.At⟩
def Yg3 (x:Qi×Int):Yj×Int:=(toR x.1,x.2)
theorem Zvi {l:List (List Int)} (hw:WS l) (s a:Int):Kw l s a=some (inB l s a 1):=by
 have hl:=Zk4 hw s
 unfold Kw inB
 by_cases h1:0≤s
 ·by_cases h2:s < (l.length:Int)
  ·by_cases h3:0≤a
   ·rw [(Ze3 h1 h2).1]
    simp only [decide_eq_true h1,decide_eq_true h2,decide_eq_true h3,cond_true,Option.bind_some,Bool.true_and,show decide ((0:Int)≤1)=true from rfl]
    refine congrArg some ?_
    rw [Bool.eq_iff_iff,decide_eq_true_eq,decide_eq_true_eq]
    omega
   rw [decide_eq_true h1,decide_eq_true h2,decide_eq_false h3];rfl
  rw [decide_eq_true h1,decide_eq_false h2];rfl
 rw [decide_eq_false h1];rfl
theorem Ybf {l:List (List Int)} (hw:WS l) {p:Yp} (h:PB p) (hk:p.Kind=1∨p.Kind=2) (s a:Int):Kr l ⟨p,s,a⟩=some (Yg3 (if inB l s a (pw p)=true then (⟨Z41 p,s,a⟩,0) else (l0,7))):=by
 have hl:=Zk4 hw s
 have hp:=Ylh h
 unfold Kr
 simp only
 rw [Ybh h hk,Option.bind_some]
 have key:∀ b:Bool,inB l s a (pw p) = !b→(cond b (some ((⟨⟨0,0,0,0,0,0,0,false⟩,0,0⟩:Yj),(7:Int))) (some ((⟨⟨p.Kind,0,p.Data,p.Ptrs,p.Code,p.Count,p.Segment,p.Double⟩,s,a⟩:Yj),0)))=some (Yg3 (if inB l s a (pw p)=true then (⟨Z41 p,s,a⟩,0) else (l0,7))):=fun b hb=>by
  rw [hb]
  cases b <;> rfl
 have hin:∀ b:Bool,(b=true↔¬ (0≤s∧s < l.length∧0≤a∧0≤pw p∧a+pw p≤(seg l s).length))→inB l s a (pw p) = !b:=fun b hb=>by
  cases hq:inB l s a (pw p) with
  | true =>
   have:=inB_iff.1 hq
   cases b with
   | false=>rfl
   | true=>exact absurd this (hb.1 rfl)
  | false =>
   cases b with
   | true=>rfl
   | false =>
    have h2:¬ ¬ (0≤s∧s < l.length∧0≤a∧0≤pw p∧a+pw p≤(seg l s).length):=fun q=>by have:=hb.2 q;cases this
    have h3:=inB_iff.2 (Classical.not_not.1 h2)
    rw [hq] at h3
    cases h3
 by_cases h1:s < 0
 ·rw [decide_eq_true h1,cond_true,Option.bind_some]
  exact key true (hin true ⟨fun _=>by omega,fun _=>rfl⟩)
 rw [decide_eq_false h1,cond_false]
 by_cases h2:(l.length:Int)≤s
 ·rw [decide_eq_true h2,cond_true,Option.bind_some]
  exact key true (hin true ⟨fun _=>by omega,fun _=>rfl⟩)
 rw [decide_eq_false h2,cond_false]
 by_cases h3:a < 0
 ·rw [decide_eq_true h3,cond_true,Option.bind_some]
  exact key true (hin true ⟨fun _=>by omega,fun _=>rfl⟩)
 rw [decide_eq_false h3,cond_false,(Ze3 (by omega) (by omega)).1,Option.bind_some]
 by_cases h4:((seg l s).length:Int) < a
 ·rw [decide_eq_true h4,cond_true,Option.bind_some]
  exact key true (hin true ⟨fun _=>by omega,fun _=>rfl⟩)
 rw [decide_eq_false h4,cond_false,cond_false,cond_false,cond_false,cond_false,Option.bind_some,Yz (by omega) (by omega)]
 exact key _ (hin _ (by rw [decide_eq_true_eq];omega))
theorem Zzc {p:Yp}:Kq p=some (if p.Kind=4 then 9 else if p.Kind=1∨p.Kind=2 then 0 else 8):=by
 unfold Kq
 by_cases k4:p.Kind=4
 ·rw [show (p.Kind == 4)=true from by rw [k4];rfl,if_pos k4];rfl
 rw [show (p.Kind == 4)=false from Za7 k4,cond_false,if_neg k4]
 by_cases k1:p.Kind=1
 ·rw [show (p.Kind != 1)=false from by rw [k1];rfl,if_pos (.inl k1)];rfl
 rw [show (p.Kind != 1)=true from bne_iff_ne.2 k1,cond_true]
 by_cases k2:p.Kind=2
 ·rw [show (p.Kind != 2)=false from by rw [k2];rfl,if_pos (.inr k2)];rfl
 rw [show (p.Kind != 2)=true from bne_iff_ne.2 k2,if_neg (by omega)];rfl
theorem Z07 {l:List (List Int)} (hw:WS l) {p:Yp} (h:PB p) (s a:Int) {k:Int→Option (Yj×Int)} (hk:k=fun y=>cond (y != 0) (some ((⟨⟨0,0,0,0,0,0,0,false⟩,0,0⟩:Yj),y)) ((Kr l ⟨p,s,a⟩).bind fun y=>some (y.1,y.2))):(Kq p).bind k=some (Yg3 (tgt l p s a)):=by
 subst hk
 rw [Zzc,Option.bind_some]
 unfold tgt
 by_cases k4:p.Kind=4
 ·rw [if_pos k4,if_pos k4];rfl
 rw [if_neg k4,if_neg k4]
 by_cases k:p.Kind=1∨p.Kind=2
 ·rw [if_pos k,if_pos k,show ((0:Int) != 0)=false from rfl,cond_false,Ybf hw h k,Option.bind_some]
 rw [if_neg k,if_neg k];rfl
theorem Yd0 (p:Yp):(⟨p.Kind,p.Off,p.Data,p.Ptrs,p.Code,p.Count,p.Segment,p.Double⟩:Yp)=p:=by cases p;rfl
theorem Yo9 {l:List (List Int)} {s a:Int} (h0:0≤a):inB l s a 2=(inB l s a 1 && inB l s (a+1) 1):=by
 rw [Bool.eq_iff_iff,Bool.and_eq_true,inB_iff,inB_iff,inB_iff]
 omega
theorem Z7a {l:List (List Int)} (hw:WS l) (s a:Int):Vm l s a=some (Yg3 (fol l s a)):=by
 unfold Vm fol
 rw [Zvi hw,Option.bind_some]
 cases h:inB l s a 1 with
 | false=>rfl
 | true =>
  have h':=inB_iff.1 h
  have ha:=Z7r hw h
  have hq:=Zlt (wd l s a)
  simp only [if_true,Bool.not_true,cond_false]
  rw [(Ze3 h'.1 h'.2.1).1,Option.bind_some,(Ztf h).1,Option.bind_some,Zxj (Zlh hw _ _),Option.bind_some]
  revert hq
  generalize dc (wd l s a)=p
  intro hq
  have ho:=hq.o
  by_cases k0:p.Kind=0
  ·rw [show (p.Kind == 0)=true from by rw [k0];rfl,cond_true,if_pos k0];rfl
  rw [show (p.Kind == 0)=false from Za7 k0,cond_false,if_neg k0]
  by_cases k3:p.Kind=3
  ·have hf:=hq.f k3
   rw [show (p.Kind == 3)=true from by rw [k3];rfl,cond_true,cond_true,if_pos k3]
   cases hd:p.Double with
   | true =>
    rw [cond_true,if_pos ⟨k3,rfl⟩,Zvi hw,Option.bind_some,Yz (by omega) (by omega),Zvi hw]
    have h2:=Yo9 (l:=l) (s:=p.Segment) hf
    cases b1:inB l p.Segment p.Off 1 with
    | false =>
     rw [h2,b1]
     rfl
    | true =>
     rw [cond_true,Option.bind_some,Option.bind_some,Bool.not_true,cond_false,h2,b1,Bool.true_and]
     cases b2:inB l p.Segment (p.Off+1) 1 with
     | false=>rfl
     | true =>
      have b1':=inB_iff.1 b1
      rw [Bool.not_true,cond_false,(Ze3 b1'.1 b1'.2.1).1,Option.bind_some,(Ztf b1).1,Option.bind_some,Zxj (Zlh hw _ _),Option.bind_some,(Ztf b2).1,Option.bind_some,Zxj (Zlh hw _ _),Option.bind_some]
      simp only [if_true]
      generalize dc (wd l p.Segment p.Off)=b
      have hq2:=Zlt (wd l p.Segment (p.Off+1))
      revert hq2
      generalize dc (wd l p.Segment (p.Off+1))=q
      intro hq2
      by_cases b3:b.Kind=3
      ·rw [show (b.Kind != 3)=false from by rw [b3];rfl,cond_false]
       cases bd:b.Double with
       | true=>rw [cond_true,if_neg (by simp)];rfl
       | false =>
        rw [cond_false,if_pos ⟨b3,rfl⟩]
        by_cases ho':q.Off=0
        ·rw [if_neg (by simp [ho'])]
         refine Z07 hw hq2 b.Segment b.Off ?_
         funext y
         rw [show (q.Off != 0)=false from by rw [ho'];rfl]
         cases (y == 0) <;> rfl
        rw [Zzc,Option.bind_some,show (q.Off != 0)=true from bne_iff_ne.2 ho']
        by_cases hq4:q.Kind=4
        ·exact absurd (hq2.z (.inr hq4)) ho'
        by_cases hk:q.Kind=1∨q.Kind=2
        ·rw [if_neg hq4,if_pos hk,if_pos ⟨hq4,ho'⟩];rfl
        rw [if_neg hq4,if_neg hk,if_pos ⟨hq4,ho'⟩];rfl
      rw [show (b.Kind != 3)=true from bne_iff_ne.2 b3,cond_true,cond_true,if_neg (by simp [b3])]
      rfl
   | false =>
    rw [cond_false,if_neg (by simp),Zvi hw,Option.bind_some]
    cases b1:inB l p.Segment p.Off 1 with
    | false=>rfl
    | true =>
     have b1':=inB_iff.1 b1
     rw [Bool.not_true,cond_false,(Ze3 b1'.1 b1'.2.1).1,Option.bind_some,(Ztf b1).1,Option.bind_some,Zxj (Zlh hw _ _),Option.bind_some,Option.bind_some]
     have hq2:=Zlt (wd l p.Segment p.Off)
     have ho2:=hq2.o
     have ha2:=Z7r hw b1
     simp only [Yd0]
     rw [Yz (x:=p.Off+1) (by omega) (by omega),Yz (by omega) (by omega)]
     exact Z07 hw hq2 _ _ rfl
  rw [show (p.Kind == 3)=false from Za7 k3,cond_false,cond_false,cond_false,if_neg (by simp [k3]),if_neg k3,Option.bind_some]
  simp only [Yd0]
  rw [Yz (x:=a+1) (by omega) (by omega),Yz (by omega) (by omega)]
  exact Z07 hw hq _ _ rfl
theorem Ykb (l:List Int) (h:∀ w∈l,0≤w∧w < 18446744073709551616) (hl:l.length * 8≤140737488355328):WS [l] :=
 ⟨by simp,fun x hx=>by rw [List.mem_singleton] at hx;subst hx;exact hl,fun x hx=>by rw [List.mem_singleton] at hx;subst hx;exact h⟩
theorem Yj7 {l:List (List Int)} {p:Yp} (h:PB p) {s a:Int}:((tgt l p s a).2≠0∧(tgt l p s a).1=l0)∨((tgt l p s a).2=0∧(p.Kind=1∨p.Kind=2)∧(tgt l p s a).1=⟨Z41 p,s,a⟩∧inB l s a (pw p)=true):=by
 unfold tgt
 by_cases k4:p.Kind=4
 ·rw [if_pos k4];exact .inl ⟨by simp,rfl⟩
 rw [if_neg k4]
 by_cases k:p.Kind=1∨p.Kind=2
 ·rw [if_pos k]
  by_cases hi:inB l s a (pw p)=true
  ·rw [if_pos hi];exact .inr ⟨rfl,k,rfl,hi⟩
  rw [if_neg hi];exact .inl ⟨by simp,rfl⟩
 rw [if_neg k];exact .inl ⟨by simp,rfl⟩
theorem Yf6 {p:Yp} (h:PB p):PB (Z41 p):=⟨h.k,by simp [Z41],h.d,h.q,h.c,h.n,h.s,fun _=>by simp [Z41],fun _=>rfl⟩
theorem Yjm (l:List (List Int)) (s a:Int):((fol l s a).1=l0)∨((fol l s a).2=0∧∃ p s' a',PB p∧p.Off=0∧(p.Kind=1∨p.Kind=2)∧(fol l s a).1=⟨p,s',a'⟩∧inB l s' a' (pw p)=true):=by
 have key:∀ (w s a:Int),((tgt l (dc w) s a).1=l0)∨((tgt l (dc w) s a).2=0∧∃ p s' a',PB p∧p.Off=0∧(p.Kind=1∨p.Kind=2)∧(tgt l (dc w) s a).1=⟨p,s',a'⟩∧inB l s' a' (pw p)=true):=fun w s a=>by
  rcases Yj7 (l:=l) (Zlt w) (s:=s) (a:=a) with h | ⟨h1,h2,h3,h4⟩
  ·exact .inl h.2
  exact .inr ⟨h1,Z41 (dc w),s,a,Yf6 (Zlt w),rfl,h2,h3,h4⟩
 unfold fol
 by_cases h:inB l s a 1=true
 ·rw [if_pos h]
  simp only
  split
  ·exact .inl rfl
  split
  ·split
   ·split
    ·split
     ·exact .inl rfl
     exact key _ _ _
    exact .inl rfl
   exact .inl rfl
  split
  ·split
   ·exact key _ _ _
   exact .inl rfl
  exact key _ _ _
 rw [if_neg h];exact .inl rfl
def r0:Zb:=⟨none,0,0,0,0,0,0,0,0⟩
def Ye (r:Zb):Int:=if r.kind=1 then r.ptrs else r.count
def atR (A:Zn) (s a:Int):Zb×Int :=
 let x:=fol A.segments s a
 if x.2≠0∨x.1.P.Kind=0 then (r0,x.2)
 else if x.1.P.Kind=1 then (⟨some A,1,x.1.Segment,x.1.At,x.1.P.Data,x.1.P.Ptrs,0,0,0⟩,0)
 else if x.1.P.Code=7 then
  let t:=dc (wd A.segments x.1.Segment x.1.At)
  if (t.Kind≠0∧t.Kind≠1)∨t.Off < 0∨x.1.P.Count < t.Off * (t.Data+t.Ptrs) then (r0,8)
  else (⟨some A,9,x.1.Segment,x.1.At,t.Data,t.Ptrs,t.Off,0,0⟩,0)
 else (⟨some A,x.1.P.Code+2,x.1.Segment,x.1.At,0,0,x.1.P.Count,0,0⟩,0)
inductive OKr (A:Zn):Zb→Prop
 | z:OKr A r0
 | st (s a d p:Int) (hd:0≤d∧d < 65536) (hp:0≤p∧p < 65536) (hi:inB A.segments s a (d+p)=true):OKr A ⟨some A,1,s,a,d,p,0,0,0⟩
 | li (k s a n:Int) (hk:2≤k∧k≤8) (hn:0≤n∧n < 536870912) (hi:inB A.segments s a ((n * wdt (k - 2)+63) / 64)=true):OKr A ⟨some A,k,s,a,0,0,n,0,0⟩
 | co (s a d p n:Int) (hd:0≤d∧d < 65536) (hp:0≤p∧p < 65536) (hn:0≤n∧n < 536870912) (hw:0≤n * (d+p)∧n * (d+p) < 536870912) (hi:inB A.segments s a (n * (d+p)+1)=true):OKr A ⟨some A,9,s,a,d,p,n,0,0⟩
 | at_ (s a c i n:Int) (hc:0≤c∧c≤5) (h0:0≤i) (h1:i < n) (hn:n < 536870912) (hi:inB A.segments s a ((n * wdt c+63) / 64)=true):OKr A ⟨some A,10,s,a,0,0,0,c,i⟩
theorem Z75 {A:Zn} {r:Zb} (h:OKr A r):0≤r.kind∧r.kind≤10:=by cases h <;> simp [r0] <;> omega
theorem Zhc (l:List (List Int)) (s a:Int):((fol l s a).2≠0∨(fol l s a).1.P.Kind=0)∨((fol l s a).2=0∧PB (fol l s a).1.P∧((fol l s a).1.P.Kind=1∨(fol l s a).1.P.Kind=2)∧inB l (fol l s a).1.Segment (fol l s a).1.At (pw (fol l s a).1.P)=true):=by
 rcases Yjm l s a with h | ⟨h1,p,s',a',hp,ho,hk,h,hi⟩
 ·rw [h];exact .inl (.inr rfl)
 rw [h];exact .inr ⟨h1,hp,hk,hi⟩
section
variable {A:Zn}
theorem Z7g (w:Int):0≤(dc w).Data∧(dc w).Data < 65536∧0≤(dc w).Ptrs∧(dc w).Ptrs < 65536∧(dc w).Off < 536870912:=by
 have h:=Zlt w
 exact ⟨h.d.1,h.d.2,h.q.1,h.q.2,h.o.2⟩
theorem Ydf {n x:Int} (h0:-536870912≤n∧n < 536870912) (h1:0≤x∧x≤131070):-70368744177664≤n * x∧n * x≤70368744177664:=by
 constructor
 ·have:-536870912 * 131070≤n * x:=by
   rcases Int.le_total 0 n with h | h
   ·have:=Int.mul_nonneg h h1.1;omega
   have h2:n * 131070≤n * x:=Int.mul_le_mul_of_nonpos_left h h1.2
   have h3:-536870912 * 131070≤n * 131070:=Int.mul_le_mul_of_nonneg_right h0.1 (by omega)
   omega
  omega
 rcases Int.le_total 0 n with h | h
 ·have h2:n * x≤n * 131070:=Int.mul_le_mul_of_nonneg_left h1.2 h
  have h3:n * 131070≤536870912 * 131070:=Int.mul_le_mul_of_nonneg_right (by omega) (by omega)
  omega
 have:=Int.mul_nonpos_of_nonpos_of_nonneg h h1.1
 omega
theorem Zj6 (s a:Int):OKr A (atR A s a).1:=by
 unfold atR
 rcases Zhc A.segments s a with h | ⟨h1,hp,hk,hi⟩
 ·rw [if_pos h];exact .z
 rw [if_neg (by omega)]
 generalize (fol A.segments s a).1=x at *
 by_cases k1:x.P.Kind=1
 ·rw [if_pos k1]
  have:pw x.P=x.P.Data+x.P.Ptrs:=by unfold pw;rw [if_pos k1]
  rw [this] at hi
  exact .st _ _ _ _ hp.d hp.q hi
 rw [if_neg k1]
 have k2:x.P.Kind=2:=by omega
 by_cases c7':x.P.Code=7
 ·rw [if_pos c7']
  have hpw:pw x.P=x.P.Count+1:=by unfold pw;rw [if_neg k1,if_pos c7']
  rw [hpw] at hi
  have ht:=Z7g (wd A.segments x.Segment x.At)
  simp only
  generalize dc (wd A.segments x.Segment x.At)=t at *
  split
  ·exact .z
  rename_i hc
  have hn:=hp.n
  have h0:0≤t.Off * (t.Data+t.Ptrs):=Int.mul_nonneg (by omega) (by omega)
  have hi':=inB_iff.1 hi
  exact .co _ _ _ _ _ (by omega) (by omega) (by omega) (by omega) (inB_iff.2 ⟨hi'.1,hi'.2.1,hi'.2.2.1,by omega,by omega⟩)
 rw [if_neg c7']
 have hpw:pw x.P=(x.P.Count * wdt x.P.Code+63) / 64:=by unfold pw;rw [if_neg k1,if_neg c7']
 rw [hpw] at hi
 have hc:=hp.c
 exact .li _ _ _ _ (by omega) hp.n (by rw [show x.P.Code+2 - 2=x.P.Code by omega];exact hi)
theorem Yb8 (hw:WS A.segments) (s a:Int):Zcv (some A) s a=some (atR A s a):=by
 unfold Zcv atR
 rw [Yap hw,Option.bind_some]
 simp only
 rcases Zhc A.segments s a with h | ⟨h1,hp,hk,hi⟩
 ·rw [if_pos h]
  have:cond ((fol A.segments s a).2 != 0) true ((fol A.segments s a).1.P.Kind == 0)=true:=by
   rcases h with h | h
   ·rw [bne_iff_ne.2 h];rfl
   rw [show ((fol A.segments s a).1.P.Kind == 0)=true from by rw [h];rfl]
   cases ((fol A.segments s a).2 != 0) <;> rfl
  rw [this,cond_true];rfl
 rw [if_neg (by omega),h1,show ((0:Int) != 0)=false from rfl,cond_false]
 generalize (fol A.segments s a).1=x at *
 rw [show (x.P.Kind == 0)=false from Za7 (by omega),cond_false]
 by_cases k1:x.P.Kind=1
 ·rw [if_pos k1,show (x.P.Kind == 1)=true from by rw [k1];rfl,cond_true]
 rw [if_neg k1,show (x.P.Kind == 1)=false from Za7 k1,cond_false]
 have hc:=hp.c
 by_cases c7':x.P.Code=7
 ·rw [if_pos c7',show (x.P.Code == 7)=true from by rw [c7'];rfl,cond_true]
  have hpw:pw x.P=x.P.Count+1:=by unfold pw;rw [if_neg k1,if_pos c7']
  rw [hpw] at hi
  have hn:=hp.n
  have hi':=inB_iff.1 hi
  have hi1:inB A.segments x.Segment x.At 1=true:=inB_iff.2 ⟨hi'.1,hi'.2.1,hi'.2.2.1,by omega,by omega⟩
  unfold Zb0
  simp only
  rw [Zot hw,if_pos hi1,Option.bind_some,Z31 (Zlh hw _ _),Option.bind_some]
  have ht:=Z7g (wd A.segments x.Segment x.At)
  have ho:=(Zlt (wd A.segments x.Segment x.At)).o
  generalize dc (wd A.segments x.Segment x.At)=t at *
  have hm:=Ydf (n:=t.Off) (x:=t.Data+t.Ptrs) ho (by omega)
  rw [Yz (x:=t.Data+t.Ptrs) (by omega) (by omega),Yz (x:=t.Off * (t.Data+t.Ptrs)) (by omega) (by omega),Yz (x:=x.P.Code+2) (by omega) (by omega),c7']
  by_cases hq:(t.Kind≠0∧t.Kind≠1)∨t.Off < 0∨x.P.Count < t.Off * (t.Data+t.Ptrs)
  ·rw [if_pos hq]
   have:cond (cond (cond (t.Kind != 0) (t.Kind != 1) false) true (decide (t.Off < 0))) true (decide (x.P.Count < t.Off * (t.Data+t.Ptrs)))=true:=by
    rcases hq with ⟨q1,q2⟩ | q | q
    ·rw [bne_iff_ne.2 q1,bne_iff_ne.2 q2];rfl
    ·rw [decide_eq_true q];cases (cond (t.Kind != 0) (t.Kind != 1) false) <;> rfl
    rw [decide_eq_true q];cases (cond (cond (t.Kind != 0) (t.Kind != 1) false) true (decide (t.Off < 0))) <;> rfl
   rw [this,cond_true];rfl
  rw [if_neg hq]
  have e1:cond (t.Kind != 0) (t.Kind != 1) false=false:=by
   by_cases q0:t.Kind=0
   ·rw [show (t.Kind != 0)=false from by rw [q0];rfl];rfl
   have q1:t.Kind=1:=by omega
   rw [show (t.Kind != 1)=false from by rw [q1];rfl]
   cases (t.Kind != 0) <;> rfl
  rw [e1,cond_false,show decide (t.Off < 0)=false from by rw [decide_eq_false_iff_not];omega,cond_false,show decide (x.P.Count < t.Off * (t.Data+t.Ptrs))=false from by rw [decide_eq_false_iff_not];omega]
  rfl
 rw [if_neg c7',show (x.P.Code == 7)=false from Za7 c7',cond_false,Yz (x:=x.P.Code+2) (by omega) (by omega)]
theorem Zdv (r:Zb):Xi r=some (Ye r):=by
 unfold Xi Ye
 by_cases h:r.kind=1
 ·rw [if_pos h,show (r.kind == 1)=true from by rw [h];rfl];rfl
 rw [if_neg h,show (r.kind == 1)=false from Za7 h];rfl
def Yo (A:Zn) (r:Zb) (i:Int):Zb×Int :=
 if i < 0∨Ye r≤i then (r0,0)
 else if r.kind=1 then atR A r.segment (r.at_+r.words+i)
 else if r.kind=8 then atR A r.segment (r.at_+i)
 else if r.kind=9 then (⟨some A,1,r.segment,r.at_+1+i * (r.words+r.ptrs),r.words,r.ptrs,0,0,0⟩,0)
 else (⟨some A,10,r.segment,r.at_,0,0,0,r.kind - 2,i⟩,0)
theorem Vd {r:Zb} (h:OKr A r) (i:Int):OKr A (Yo A r i).1:=by
 unfold Yo
 by_cases hi:i < 0∨Ye r≤i
 ·rw [if_pos hi];exact .z
 rw [if_neg hi]
 by_cases k1:r.kind=1
 ·rw [if_pos k1];exact Zj6 _ _
 rw [if_neg k1]
 by_cases k8:r.kind=8
 ·rw [if_pos k8];exact Zj6 _ _
 rw [if_neg k8]
 by_cases k9:r.kind=9
 ·rw [if_pos k9]
  cases h with
  | z=>simp [r0] at k9
  | st _ _ _ _=>simp at k1
  | li k s a n hk=>simp only at k9;omega
  | at_=>simp at k9
  | co s a d p n hd hp hn hw hin =>
   simp only
   have hi':=inB_iff.1 hin
   simp only [Ye] at hi
   rw [if_neg (by omega)] at hi
   have h1:0≤i * (d+p):=Int.mul_nonneg (by omega) (by omega)
   have h2:(i+1) * (d+p)≤n * (d+p):=Int.mul_le_mul_of_nonneg_right (by omega) (by omega)
   rw [Int.add_mul,Int.one_mul] at h2
   exact .st _ _ _ _ hd hp (inB_iff.2 ⟨hi'.1,hi'.2.1,by omega,by omega,by omega⟩)
 rw [if_neg k9]
 cases h with
 | z=>simp [r0,Ye] at hi;omega
 | st _ _ _ _=>simp at k1
 | co=>simp at k9
 | at_=>simp [Ye] at hi;omega
 | li k s a n hk hn hin =>
  simp only at k8 k9 ⊢
  simp only [Ye] at hi
  rw [if_neg (by omega)] at hi
  exact .at_ _ _ _ _ n (by omega) (by omega) (by omega) (by omega) hin
theorem Zo9 (hw:WS A.segments) {s a n:Int} (h:inB A.segments s a n=true):0≤a∧0≤n∧a+n≤17592186044416:=by
 have h':=inB_iff.1 h
 have:=Zk4 hw s
 omega
theorem Zz8 (hw:WS A.segments) {r:Zb} (h:OKr A r) (i:Int):K2 r i=some (Yo A r i):=by
 unfold K2 Yo
 rw [Zdv]
 have hz:(cond (decide (i < 0)) (some true) ((some (Ye r)).bind fun y4=>some (cond (decide (i < 0)) true (decide (y4≤i)))))=some (decide (i < 0∨Ye r≤i)):=by
  by_cases h0:i < 0
  ·rw [decide_eq_true h0,cond_true,show decide (i < 0∨Ye r≤i)=true from decide_eq_true (.inl h0)]
  rw [decide_eq_false h0,cond_false,Option.bind_some,cond_false]
  congr 1
  rw [decide_eq_decide]
  omega
 rw [hz,Option.bind_some]
 by_cases hi:i < 0∨Ye r≤i
 ·rw [if_pos hi,decide_eq_true hi];rfl
 rw [if_neg hi,decide_eq_false hi,cond_false]
 cases h with
 | z=>exact absurd hi (by first | (simp [Ye,r0];done) | (simp [Ye,r0];omega))
 | at_=>exact absurd hi (by first | (simp [Ye];done) | (simp [Ye];omega))
 | st s a d p hd hp hin =>
  have:=Zo9 hw hin
  simp only [Ye,if_true] at hi
  simp only [beq_self_eq_true,cond_true,if_true]
  rw [Yz (x:=a+d) (by omega) (by omega),Yz (by omega) (by omega),Yb8 hw]
  rfl
 | co s a d p n hd hp hn hwx hin =>
  have:=Zo9 hw hin
  simp only [Ye] at hi
  rw [if_neg (by omega)] at hi
  simp only [show ((9:Int) == 1)=false from rfl,show ((9:Int) == 8)=false from rfl,show ((9:Int) == 9)=true from rfl,cond_true,cond_false,show ¬ (9:Int)=1 from by decide,show ¬ (9:Int)=8 from by decide,if_false,if_true]
  have h1:0≤i * (d+p):=Int.mul_nonneg (by omega) (by omega)
  have h2:(i+1) * (d+p)≤n * (d+p):=Int.mul_le_mul_of_nonneg_right (by omega) (by omega)
  rw [Int.add_mul,Int.one_mul] at h2
  rw [Yz (x:=a+1) (by omega) (by omega),Yz (x:=d+p) (by omega) (by omega),Yz (x:=i * (d+p)) (by omega) (by omega),Yz (by omega) (by omega)]
 | li k s a n hk hn hin =>
  have:=Zo9 hw hin
  simp only [Ye] at hi
  rw [if_neg (by omega)] at hi
  simp only
  rw [show (k == 1)=false from Za7 (by omega),cond_false,if_neg (by omega),show (k == 9)=false from Za7 (by omega)]
  by_cases k8:k=8
  ·have hp:(n * wdt (k - 2)+63) / 64=n:=by rw [k8];simp [wdt];omega
   rw [show (k == 8)=true from by rw [k8];rfl,cond_true,if_pos k8,Yz (by omega) (by omega),Yb8 hw]
   rfl
  rw [show (k == 8)=false from Za7 k8,cond_false,cond_false,if_neg k8,if_neg (by omega),Yz (by omega) (by omega)]
def Zbq (r:Zb):Int:=if r.kind=1 then r.words else if r.kind=10 then 1 else 0
theorem Zjx (r:Zb):Qx r=some (Zbq r):=by
 unfold Qx Zbq
 by_cases h:r.kind=1
 ·rw [if_pos h,show (r.kind == 1)=true from by rw [h];rfl];rfl
 rw [if_neg h,show (r.kind == 1)=false from Za7 h]
 by_cases h':r.kind=10
 ·rw [if_pos h',show (r.kind == 10)=true from by rw [h'];rfl];rfl
 rw [if_neg h',show (r.kind == 10)=false from Za7 h'];rfl
def Z0m (w:Int) (c j:Int):Int:=((w.toNat / 2 ^ (j * wdt c).toNat % 2 ^ (wdt c).toNat:Nat):Int)
def each (c:Int):Int:=64 / wdt c
def Zx7 (A:Zn) (r:Zb):Int:=if r.code=0 then 0 else Z0m (wd A.segments r.segment (r.at_+r.index / each r.code)) r.code (r.index % each r.code)
theorem c5 {c:Int} (h:0≤c∧c≤5):c=0∨c=1∨c=2∨c=3∨c=4∨c=5:=by omega
theorem Zzk {c:Int} (h:0≤c∧c≤5):Zde c=some (wdt c,true):=by
 unfold Zde
 rcases c5 h with rfl | rfl | rfl | rfl | rfl | rfl <;> rfl
theorem Yay (w:Nat) (k:Nat) (hw:w < 18446744073709551616) (hk:k≤64):IntKind.u64.wrap (Uz .u64 (w:Int) (IntKind.u64.wrap (IntKind.u64.wrap (1 * 2 ^ min (Int.toNat (k:Int)) 64) - 1)))=((w % 2 ^ k:Nat):Int):=by
 have hm:IntKind.u64.wrap (IntKind.u64.wrap (1 * 2 ^ min (Int.toNat (k:Int)) 64) - 1)=((2 ^ k - 1:Nat):Int):=by
  rw [Int.toNat_natCast,Nat.min_eq_left hk,Z0k]
  rcases Nat.lt_or_ge k 64 with h | h
  ·have h1:2 ^ k≤2 ^ 63:=Nat.pow_le_pow_right (by decide) (by omega)
   have h2:0 < 2 ^ k:=Nat.pow_pos (by decide)
   rw [Int.one_mul,Yev (2 ^ k) (by omega),show (((2 ^ k:Nat):Int) - 1)=((2 ^ k - 1:Nat):Int) by omega,Yev _ (by omega)]
  have:k=64:=by omega
  subst this
  decide
 rw [hm]
 have e:Uz .u64 (w:Int) ((2 ^ k - 1:Nat):Int)=((w &&& (2 ^ k - 1):Nat):Int):=by
  unfold Uz
  congr 1
  have h1:2 ^ k≤2 ^ 64:=Nat.pow_le_pow_right (by decide) hk
  have h2:0 < 2 ^ k:=Nat.pow_pos (by decide)
  rw [BitVec.toNat_and]
  have e1:(BitVec.ofInt (IntKind.u64).bits (w:Int)).toNat=w:=by
   show (BitVec.ofInt 64 (w:Int)).toNat=w
   rw [BitVec.ofInt_natCast,BitVec.toNat_ofNat]
   exact Nat.mod_eq_of_lt (by omega)
  have e2:(BitVec.ofInt (IntKind.u64).bits ((2 ^ k - 1:Nat):Int)).toNat=2 ^ k - 1:=by
   show (BitVec.ofInt 64 ((2 ^ k - 1:Nat):Int)).toNat=2 ^ k - 1
   rw [BitVec.ofInt_natCast,BitVec.toNat_ofNat]
   exact Nat.mod_eq_of_lt (by omega)
  rw [e1,e2]
 rw [e,Nat.and_two_pow_sub_one_eq_mod]
 have:w % 2 ^ k≤w:=Nat.mod_le _ _
 exact IntWalk.u64_in _ (by omega)
theorem Yha {w c j:Int} (hw:0≤w∧w < 18446744073709551616) (hc:1≤c∧c≤5) (hj:0≤j∧j < each c):Zhl [w] c j=some (Z0m w c j):=by
 unfold Zhl Z0m
 rw [Zzk (by omega),Option.bind_some]
 simp only
 obtain ⟨d,e,hd⟩:∃ d:Nat,wdt c=(d:Int)∧(d=1∨d=8∨d=16∨d=32∨d=64):=by
  rcases c5 (c:=c) (by omega) with rfl | rfl | rfl | rfl | rfl | rfl
  ·omega
  ·exact ⟨1,rfl,by omega⟩
  ·exact ⟨8,rfl,by omega⟩
  ·exact ⟨16,rfl,by omega⟩
  ·exact ⟨32,rfl,by omega⟩
  exact ⟨64,rfl,by omega⟩
 have he:each c=((64 / d:Nat):Int):=by unfold each;rw [e];rfl
 have hdd:64 / d * d=64:=by rcases hd with rfl | rfl | rfl | rfl | rfl <;> rfl
 have hdp:1≤d∧d≤64:=by omega
 have hep:1≤64 / d∧64 / d≤64:=by rcases hd with rfl | rfl | rfl | rfl | rfl <;> decide
 rw [he] at hj
 obtain ⟨q,rfl⟩:∃ q:Nat,j=q:=⟨j.toNat,by omega⟩
 have hq:q < 64 / d:=by omega
 have hqd:q * d+d≤64:=by
  have:(q+1) * d≤64 / d * d:=Nat.mul_le_mul_right d hq
  rw [Nat.add_mul] at this
  omega
 rw [e]
 have t1:Int.tdiv 64 (d:Int)=((64 / d:Nat):Int):=by rw [Int.tdiv_eq_ediv_of_nonneg (by decide)];rfl
 have t2:Int.tdiv (q:Int) ((64 / d:Nat):Int)=0:=by
  rw [Int.tdiv_eq_ediv_of_nonneg (by omega),show ((q:Int) / ((64 / d:Nat):Int))=((q / (64 / d):Nat):Int) from rfl,Nat.div_eq_of_lt hq]
  rfl
 have t3:Int.tmod (q:Int) ((64 / d:Nat):Int)=(q:Int):=by
  rw [Int.tmod_eq_emod_of_nonneg (by omega),show ((q:Int) % ((64 / d:Nat):Int))=((q % (64 / d):Nat):Int) from rfl,Nat.mod_eq_of_lt hq]
 rw [t1,Yz (x:=((64 / d:Nat):Int)) (by omega) (by omega),t2,t3,show IntKind.i64.wrap 0=0 from by decide]
 have t4:((q:Int) * (d:Int))=((q * d:Nat):Int):=by simp
 rw [t4,Yz (x:=((q * d:Nat):Int)) (by omega) (by omega),show (((d:Nat):Int) == 0)=false from Za7 (by omega),show decide ((q:Int) < 0)=false from by rw [decide_eq_false_iff_not];omega]
 simp only [cond_false]
 have g0:Xj [w] 0=some w:=rfl
 have e1:Km ((d:Int)≠0)=some ():=Zdc (by omega)
 have e2:Km (((64 / d:Nat):Int)≠0)=some ():=Zdc (by omega)
 have e3:Km (0≤((q * d:Nat):Int))=some ():=Zdc (by omega)
 have e4:Km (0≤(d:Int))=some ():=Zdc (by omega)
 simp only [e1,e2,e3,e4,g0,Option.bind_some,cond_false,show decide ((([w]:List Int).length:Int)≤0)=false from rfl]
 congr 1
 have hwn:w=((w.toNat:Nat):Int):=by omega
 have hf:Int.fdiv w (2 ^ min (Int.toNat ((q * d:Nat):Int)) 64)=((w.toNat / 2 ^ (q * d):Nat):Int):=by
  rw [Int.toNat_natCast,Nat.min_eq_left (by omega),Z0k,Int.fdiv_eq_ediv_of_nonneg _ (Int.natCast_nonneg _)]
  conv=>lhs;rw [hwn]
  rfl
 rw [hf,Yay _ d (Nat.lt_of_le_of_lt (Nat.div_le_self _ _) (by omega)) (by omega)]
 rw [Int.toNat_natCast,Int.toNat_natCast]
end
section
variable {A:Zn}
def Zj2 (A:Zn) (r:Zb) (i:Int):Int :=
 if i < 0∨Zbq r≤i then 0 else if r.kind=10 then Zx7 A r else wd A.segments r.segment (r.at_+i)
theorem Z7t {c i n:Int} (hc:1≤c∧c≤5) (h0:0≤i) (h1:i < n) (hn:n < 536870912):1≤each c∧each c≤64∧0≤i / each c∧i / each c+1≤(n * wdt c+63) / 64∧0≤i % each c∧i % each c < each c∧Int.tdiv 64 (wdt c)=each c∧wdt c≠0:=by
 rcases c5 (c:=c) (by omega) with rfl | rfl | rfl | rfl | rfl | rfl
 ·omega
 ·have e1:each 1=64:=by decide
  have e2:wdt 1=1:=by decide
  rw [e1,e2];exact ⟨by omega,by omega,by omega,by omega,by omega,by omega,by decide,by decide⟩
 ·have e1:each 2=8:=by decide
  have e2:wdt 2=8:=by decide
  rw [e1,e2];exact ⟨by omega,by omega,by omega,by omega,by omega,by omega,by decide,by decide⟩
 ·have e1:each 3=4:=by decide
  have e2:wdt 3=16:=by decide
  rw [e1,e2];exact ⟨by omega,by omega,by omega,by omega,by omega,by omega,by decide,by decide⟩
 ·have e1:each 4=2:=by decide
  have e2:wdt 4=32:=by decide
  rw [e1,e2];exact ⟨by omega,by omega,by omega,by omega,by omega,by omega,by decide,by decide⟩
 have e1:each 5=1:=by decide
 have e2:wdt 5=64:=by decide
 rw [e1,e2];exact ⟨by omega,by omega,by omega,by omega,by omega,by omega,by decide,by decide⟩
theorem Ya4 (hw:WS A.segments) {s a c i n:Int} (hc:0≤c∧c≤5) (h0:0≤i) (h1:i < n) (hn:n < 536870912) (hi:inB A.segments s a ((n * wdt c+63) / 64)=true):U2 ⟨some A,10,s,a,0,0,0,c,i⟩=some (Zx7 A ⟨some A,10,s,a,0,0,0,c,i⟩):=by
 unfold U2 Zx7
 simp only
 rw [Zzk hc,Option.bind_some]
 simp only
 by_cases hz:c=0
 ·subst hz
  rw [show (wdt 0 == 0)=true from by decide,cond_true,if_pos rfl]
 obtain ⟨a1,a2,a3,a4,a5,a6,a7,a8⟩:=Z7t (c:=c) (by omega) h0 h1 hn
 have hr:=Zo9 hw hi
 have hi':=inB_iff.1 hi
 have hin:inB A.segments s (a+i / each c) 1=true:=inB_iff.2 ⟨hi'.1,hi'.2.1,by omega,by omega,by omega⟩
 rw [show (wdt c == 0)=false from Za7 a8,cond_false,if_neg hz,a7,Yz (x:=each c) (by omega) (by omega),Int.tdiv_eq_ediv_of_nonneg h0,Int.tmod_eq_emod_of_nonneg h0,Yz (x:=i / each c) (by omega) (by omega),Yz (x:=a+i / each c) (by omega) (by omega)]
 have e1:Km (wdt c≠0)=some ():=Zdc a8
 have e2:Km (each c≠0)=some ():=Zdc (by omega)
 simp only [e1,e2,Option.bind_some]
 rw [Zot hw,if_pos hin,Option.bind_some]
 simp only
 rw [Yha (Zlh hw _ _) (by omega) ⟨a5,a6⟩,Option.bind_some]
theorem Zsc (hw:WS A.segments) {r:Zb} (h:OKr A r) (i:Int):Qn r i=some (Zj2 A r i):=by
 unfold Qn Zj2
 rw [Zjx]
 have hz:(cond (decide (i < 0)) (some true) ((some (Zbq r)).bind fun y4=>some (cond (decide (i < 0)) true (decide (y4≤i)))))=some (decide (i < 0∨Zbq r≤i)):=by
  by_cases h0:i < 0
  ·rw [decide_eq_true h0,cond_true,show decide (i < 0∨Zbq r≤i)=true from decide_eq_true (.inl h0)]
  rw [decide_eq_false h0,cond_false,Option.bind_some,cond_false]
  congr 1
  rw [decide_eq_decide]
  omega
 rw [hz,Option.bind_some]
 by_cases hi:i < 0∨Zbq r≤i
 ·rw [if_pos hi,decide_eq_true hi];rfl
 rw [if_neg hi,decide_eq_false hi,cond_false]
 cases h with
 | z=>exact absurd hi (by simp [Zbq,r0];try omega)
 | li k s a n hk hn hin=>exact absurd hi (by simp only [Zbq];rw [if_neg (by omega),if_neg (by omega)];omega)
 | co s a d p n hd hp hn hwx hin=>exact absurd hi (by simp [Zbq];try omega)
 | at_ s a c i' n hc h0 h1 hn hin =>
  simp only [beq_self_eq_true,cond_true,if_true]
  rw [Ya4 hw hc h0 h1 hn hin]
  rfl
 | st s a d p hd hp hin =>
  have:=Zo9 hw hin
  have hi':=inB_iff.1 hin
  simp only [Zbq,if_true] at hi
  simp only [show ((1:Int) == 10)=false from rfl,cond_false,show ¬ (1:Int)=10 from by decide,if_false]
  rw [Yz (by omega) (by omega),Zot hw,if_pos (inB_iff.2 ⟨hi'.1,hi'.2.1,by omega,by omega,by omega⟩)]
  rfl
theorem Ygh (hw:WS A.segments):Zdt (some A)=some (atR A 0 0):=by
 unfold Zdt
 rw [Yb8 hw]
 rfl
end
abbrev Tr:=Za
def lvR (r:Zb):Int:=if r.kind=0 then 0 else if r.kind=9∧0 < r.count then 2 else 1
def wtR (r:Zb):Int:=if r.kind=0 then 0 else if r.kind=1 then 1+r.words+r.ptrs else if r.kind=9 then 1+r.count * (1+r.words+r.ptrs) else 1+r.count
section
variable {A:Zn}
theorem Yae (hw:WS A.segments) {r:Zb} (h:OKr A r):0≤wtR r∧wtR r≤4503599627370496∧(r.kind≠0→1≤wtR r):=by
 cases h with
 | z=>simp [wtR,r0]
 | st s a d p hd hp hin=>simp [wtR];omega
 | li k s a n hk hn hin=>simp only [wtR];rw [if_neg (by omega),if_neg (by omega),if_neg (by omega)];omega
 | co s a d p n hd hp hn hwx hin =>
  simp only [wtR,show ¬ (9:Int)=0 from by decide,show ¬ (9:Int)=1 from by decide,if_false,if_true]
  have:n * (1+d+p)=n+n * (d+p):=by rw [Int.add_assoc,Int.mul_add,Int.mul_one]
  omega
 | at_ s a c i n hc h0 h1 hn hin=>simp [wtR]
def Y6 (A:Zn) (r:Zb):List Int:=if r.kind=10 then [Zx7 A r] else if r.kind=1 then ((seg A.segments r.segment).drop r.at_.toNat).take r.words.toNat else []
def Yq (f:Zb→Int→Tr×Int×Int) (g:Int→Zb×Int):Nat→Nat→Int→List Tr→List Tr×Int×Int
 | 0,_,left,acc=>(acc,left,0)
 | m+1,i,left,acc=>if (g i).2≠0 then (acc,left,(g i).2) else if (f (g i).1 left).2.2≠0 then (acc,(f (g i).1 left).2.1,(f (g i).1 left).2.2) else Yq f g m (i+1) (f (g i).1 left).2.1 (acc++[(f (g i).1 left).1])
def stK (A:Zn) (f:Zb→Int→Tr×Int×Int) (k:Zb) (left:Int):Tr×Int×Int :=
 let q:=Yq f (Yo A k) k.ptrs.toNat 0 left []
 (⟨1,Y6 A k,q.1⟩,q.2)
def Zgj (A:Zn) (k:Zb) (left:Int):Tr×Int×Int:=(⟨k.kind,Y6 A k,[]⟩,left,0)
def Vc (A:Zn) (f1 f2:Zb→Int→Tr×Int×Int) (r:Zb):Zb→Int→Tr×Int×Int :=
 if r.kind=9 then stK A f2 else if r.kind=1∨r.kind=8 then f1 else Zgj A
def Ze7 (A:Zn) (f1 f2:Zb→Int→Tr×Int×Int) (d:Int) (r:Zb) (left:Int):Tr×Int×Int :=
 if r.kind=0 then (⟨r.kind,Y6 A r,[]⟩,left,0)
 else if d < lvR r∨left < wtR r then (⟨r.kind,Y6 A r,[]⟩,left,3)
 else
  let q:=Yq (Vc A f1 f2 r) (Yo A r) (Ye r).toNat 0 (left - wtR r) []
  (⟨r.kind,Y6 A r,q.1⟩,q.2)
def bad (_:Zb) (left:Int):Tr×Int×Int:=(⟨0,[],[]⟩,left,3)
def U4 (A:Zn):Nat→Zb→Int→Tr×Int×Int
 | 0=>Ze7 A bad bad 0
 | 1=>Ze7 A (U4 A 0) bad 1
 | d+2=>Ze7 A (U4 A (d+1)) (U4 A d) ((d+2:Nat):Int)
def Y5 (A:Zn) (k:Nat) (d:Nat):Zb→Int→Tr×Int×Int:=if k≤d then U4 A (d - k) else bad
theorem Zfs (d:Nat):U4 A d=Ze7 A (Y5 A 1 d) (Y5 A 2 d) (d:Int):=by
 match d with
 | 0=>rfl
 | 1=>rfl
 | d+2 =>
  unfold Y5
  rw [if_pos (by omega),if_pos (by omega)]
  rfl
def Lf (A:Zn) (f:Zb→Int→Tr×Int×Int):Prop:=∀ k left,OKr A k→0≤left→(f k left).2.2=0→0≤(f k left).2.1∧(f k left).2.1≤left
theorem Zo8 {f:Zb→Int→Tr×Int×Int} {g:Int→Zb×Int} (hf:Lf A f) (hg:∀ i,OKr A (g i).1):∀ (m i:Nat) (left:Int) (acc:List Tr),0≤left→(Yq f g m i left acc).2.2=0→0≤(Yq f g m i left acc).2.1∧(Yq f g m i left acc).2.1≤left
 | 0,i,left,acc,h0,_=>⟨h0,Int.le_refl _⟩
 | m+1,i,left,acc,h0,h=>by
  rw [Yq] at h ⊢
  by_cases h1:(g i).2≠0
  ·rw [if_pos h1] at h;exact absurd h h1
  rw [if_neg h1] at h ⊢
  by_cases h2:(f (g i).1 left).2.2≠0
  ·rw [if_pos h2] at h;exact absurd h h2
  rw [if_neg h2] at h ⊢
  have h2':(f (g i).1 left).2.2=0:=by omega
  obtain ⟨a1,a2⟩:=hf _ _ (hg i) h0 h2'
  obtain ⟨b1,b2⟩:=Zo8 hf hg m (i+1) _ _ a1 h
  exact ⟨b1,by omega⟩
theorem Zw7:Lf A bad:=fun k left _ _ h=>by simp [bad] at h
theorem Yjs {f:Zb→Int→Tr×Int×Int} (hf:Lf A f):Lf A (stK A f):=fun k left hk h0 h=>Zo8 hf (fun i=>Vd hk i) _ _ _ _ h0 h
theorem Yc1:Lf A (Zgj A):=fun k left _ h0 _=>⟨h0,Int.le_refl _⟩
theorem Z0g {f1 f2:Zb→Int→Tr×Int×Int} (h1:Lf A f1) (h2:Lf A f2) (r:Zb):Lf A (Vc A f1 f2 r):=by
 unfold Vc
 split
 ·exact Yjs h2
 split
 ·exact h1
 exact Yc1
theorem Yc2 (hw:WS A.segments) {f1 f2:Zb→Int→Tr×Int×Int} (h1:Lf A f1) (h2:Lf A f2) (d:Int):Lf A (Ze7 A f1 f2 d):=fun r left hr h0 h=>by
 have hwt:=Yae hw hr
 unfold Ze7 at h ⊢
 by_cases k0:r.kind=0
 ·rw [if_pos k0];exact ⟨h0,Int.le_refl _⟩
 rw [if_neg k0] at h ⊢
 by_cases hb:d < lvR r∨left < wtR r
 ·rw [if_pos hb] at h;simp at h
 rw [if_neg hb] at h ⊢
 have:=Zo8 (Z0g h1 h2 r) (fun i=>Vd hr i) (Ye r).toNat 0 (left - wtR r) [] (by omega) h
 simp only
 omega
theorem Zpc (hw:WS A.segments):∀ d,Lf A (U4 A d):=fun d=>by
 induction d using Nat.strongRecOn with
 | ind d ih =>
  rw [Zfs]
  refine Yc2 hw ?_ ?_ _
  ·unfold Y5
   split
   ·exact ih _ (by omega)
   exact Zw7
  unfold Y5
  split
  ·exact ih _ (by omega)
  exact Zw7
end
theorem Z4o {S R:Type} {s1 s2:S→Option (S ⊕ R)} (h:∀ s x,s1 s=some x→s2 s=some x):∀ (k:Nat) (s:S) (r:R),Zcs s1 k s=some r→Zcs s2 k s=some r
 | 0,s,r,q=>by simp [Zcs] at q
 | k+1,s,r,q=>by
  simp only [Zcs] at q ⊢
  cases hs:s1 s with
  | none=>rw [hs] at q;cases q
  | some x =>
   rw [hs] at q
   rw [h s x hs]
   cases x with
   | inl s'=>exact Z4o h k s' r q
   | inr r'=>exact q
theorem Zk1 {S R:Type} {s1 s2:S→Option (S ⊕ R)} (h:∀ s x,s1 s=some x→s2 s=some x) {s:S} {r:R} (q:Zv s1 s=some r):Zv s2 s=some r:=by
 obtain ⟨k,hk⟩:=Zjz q
 exact Zk2 (Z4o h k s r hk)
theorem Kk {α β:Type} {o o':Option α} {f f':α→Option β} (h:∀ x,o=some x→o'=some x) (hf:∀ x y,f x=some y→f' x=some y) {r:β} (q:o.bind f=some r):o'.bind f'=some r:=by
 obtain ⟨x,h1,h2⟩:=Option.bind_eq_some_iff.1 q
 rw [h x h1]
 exact hf x r h2
theorem U9 {α:Type} (c:Bool) {a a' b b':Option α} (h1:∀ r,a=some r→a'=some r) (h2:∀ r,b=some r→b'=some r) (r:α) (q:cond c a b=some r):cond c a' b'=some r:=by
 cases c with
 | true=>exact h1 r q
 | false=>exact h2 r q
theorem Yc4 {R:Type} {F:Nat→Option R} {r:R} (hm:∀ k r,F k=some r→F (k+1)=some r) {K:Nat} (h:F K=some r):lim F=some r:=by
 refine Zep K fun k hk => ?_
 obtain ⟨d,rfl⟩:∃ d,k=K+d:=⟨k - K,by omega⟩
 clear hk
 induction d with
 | zero=>exact h
 | succ d ih=>exact hm _ _ ih
section
variable {A:Zn}
theorem Uy {r:Zb} (h:OKr A r):0≤Ye r∧Ye r≤1073741824:=by
 cases h with
 | z=>simp [Ye,r0]
 | st s a d p hd hp hin=>simp only [Ye,if_true];omega
 | li k s a n hk hn hin=>simp only [Ye];rw [if_neg (by omega)];omega
 | co s a d p n hd hp hn hwx hin=>simp only [Ye];rw [if_neg (by omega)];omega
 | at_ s a c i n hc h0 h1 hn hin=>simp [Ye]
theorem Zl3 {r:Zb} (hk:r.kind=9) {i:Int} (h:0≤i∧i < Ye r):(Yo A r i).1.kind=1:=by
 unfold Yo
 rw [if_neg (by omega),if_neg (by omega),if_neg (by omega),if_pos hk]
def Zoy (x m:Int):Int:=if m < (if x < 0 then 0 else x) then m else (if x < 0 then 0 else x)
def Zby (x:Yi):Yi:=⟨Zoy x.Depth 64,Zoy x.Weight 65536,Zoy x.MaxD 4096,Zoy x.MaxOut 131072⟩
theorem Zoz (x m:Int) (hm:0≤m):0≤Zoy x m∧Zoy x m≤m:=by unfold Zoy;repeat' split;all_goals omega
def Yce (A:Zn) (x:Yi):Int×Int :=
 if (atR A 0 0).2≠0 then (0,(atR A 0 0).2)
 else
  let q:=U4 A (Zby x).Depth.toNat (atR A 0 0).1 (Zby x).Weight
  if q.2.2≠0 then (0,q.2.2) else ((Zby x).Weight - q.2.1,0)
end
theorem Zg1 (x m:Int) (hm:0≤m):Ja x m=some (Zoy x m):=by
 unfold Ja Zoy
 by_cases h:x < 0
 ·rw [decide_eq_true h,if_pos h,if_neg (by omega)];rfl
 rw [decide_eq_false h,if_neg h]
 by_cases h2:m < x
 ·rw [decide_eq_true h2,if_pos h2];rfl
 rw [decide_eq_false h2,if_neg h2];rfl
theorem Z7b (x:Yi):U1 x=some (Zby x):=by
 unfold U1
 rw [Zg1 _ _ (by decide),Zg1 _ _ (by decide),Zg1 _ _ (by decide),Zg1 _ _ (by decide)]
 rfl
section
variable {A:Zn}
def Mo (f g:Zb→Int→Tr×Int×Int):Prop:=∀ k left e,0≤left→0≤e→(f k left).2.2=0→(g k (left+e)).2.2=0∧(g k (left+e)).2.1=(f k left).2.1+e
def NN (f:Zb→Int→Tr×Int×Int):Prop:=∀ k left,0≤left→(f k left).2.2=0→0≤(f k left).2.1
theorem Zz2 {f f':Zb→Int→Tr×Int×Int} {g:Int→Zb×Int} (h:Mo f f') (hn:NN f):∀ (m i:Nat) (left e:Int) (acc acc':List Tr),0≤left→0≤e→(Yq f g m i left acc).2.2=0→(Yq f' g m i (left+e) acc').2.2=0∧(Yq f' g m i (left+e) acc').2.1=(Yq f g m i left acc).2.1+e
 | 0,i,left,e,acc,acc',_,_,_=>⟨rfl,rfl⟩
 | m+1,i,left,e,acc,acc',h0,he,hq=>by
  rw [Yq] at hq
  rw [Yq,Yq]
  by_cases h1:(g i).2≠0
  ·rw [if_pos h1] at hq;exact absurd hq h1
  rw [if_neg h1] at hq
  rw [if_neg h1,if_neg h1]
  by_cases h2:(f (g i).1 left).2.2≠0
  ·rw [if_pos h2] at hq;exact absurd hq h2
  rw [if_neg h2] at hq
  have h2':(f (g i).1 left).2.2=0:=by omega
  obtain ⟨a1,a2⟩:=h _ _ e h0 he h2'
  rw [if_neg h2,if_neg (by omega),a2]
  exact Zz2 h hn m (i+1) _ e _ _ (hn _ _ h0 h2') he hq
theorem Yjw {f f':Zb→Int→Tr×Int×Int} (h:Mo f f') (hn:NN f):Mo (stK A f) (stK A f'):=fun k left e h0 he hq=>Zz2 h hn _ _ _ _ _ _ h0 he hq
theorem Ycr {f:Zb→Int→Tr×Int×Int} {g:Int→Zb×Int} (hf:NN f):∀ (m i:Nat) (left:Int) (acc:List Tr),0≤left→(Yq f g m i left acc).2.2=0→0≤(Yq f g m i left acc).2.1
 | 0,i,left,acc,h0,_=>h0
 | m+1,i,left,acc,h0,h=>by
  rw [Yq] at h ⊢
  by_cases h1:(g i).2≠0
  ·rw [if_pos h1] at h;exact absurd h h1
  rw [if_neg h1] at h ⊢
  by_cases h2:(f (g i).1 left).2.2≠0
  ·rw [if_pos h2] at h;exact absurd h h2
  rw [if_neg h2] at h ⊢
  exact Ycr hf m (i+1) _ _ (hf _ _ h0 (by omega)) h
theorem Z8g {f1 f2:Zb→Int→Tr×Int×Int} (h1:NN f1) (h2:NN f2) (r:Zb):NN (Vc A f1 f2 r):=by
 unfold Vc
 split
 ·exact fun k left h0 h=>Ycr h2 _ _ _ _ h0 h
 split
 ·exact h1
 exact fun k left h0 h=>h0
theorem Ydj {f1 f2:Zb→Int→Tr×Int×Int} (h1:NN f1) (h2:NN f2) (d:Int):NN (Ze7 A f1 f2 d):=fun r left h0 h=>by
 unfold Ze7 at h ⊢
 by_cases k0:r.kind=0
 ·rw [if_pos k0];exact h0
 rw [if_neg k0] at h ⊢
 by_cases hb:d < lvR r∨left < wtR r
 ·rw [if_pos hb] at h;simp at h
 rw [if_neg hb] at h ⊢
 exact Ycr (Z8g h1 h2 r) _ _ _ _ (by omega) h
theorem Z6x:NN bad:=fun k left _ h=>by simp [bad] at h
theorem Yf0:∀ d,NN (U4 A d):=fun d=>by
 induction d using Nat.strongRecOn with
 | ind d ih =>
  rw [Zfs]
  refine Ydj ?_ ?_ _
  ·unfold Y5
   split
   ·exact ih _ (by omega)
   exact Z6x
  unfold Y5
  split
  ·exact ih _ (by omega)
  exact Z6x
theorem Yfy {f1 f2 f1' f2':Zb→Int→Tr×Int×Int} (h1:Mo f1 f1') (n1:NN f1) (h2:Mo f2 f2') (n2:NN f2) (r:Zb):Mo (Vc A f1 f2 r) (Vc A f1' f2' r):=by
 unfold Vc
 by_cases k9:r.kind=9
 ·rw [if_pos k9,if_pos k9];exact Yjw h2 n2
 rw [if_neg k9,if_neg k9]
 by_cases k18:r.kind=1∨r.kind=8
 ·rw [if_pos k18,if_pos k18];exact h1
 rw [if_neg k18,if_neg k18];exact fun k left e _ _ _=>⟨rfl,rfl⟩
theorem Ydc {f1 f2 f1' f2':Zb→Int→Tr×Int×Int} (h1:Mo f1 f1') (n1:NN f1) (h2:Mo f2 f2') (n2:NN f2) {d d':Int} (hd:d≤d'):Mo (Ze7 A f1 f2 d) (Ze7 A f1' f2' d'):=fun r left e h0 he hq=>by
 unfold Ze7 at hq ⊢
 by_cases k0:r.kind=0
 ·rw [if_pos k0,if_pos k0];exact ⟨rfl,rfl⟩
 rw [if_neg k0] at hq
 rw [if_neg k0,if_neg k0]
 by_cases hb:d < lvR r∨left < wtR r
 ·rw [if_pos hb] at hq;simp at hq
 rw [if_neg hb] at hq
 rw [if_neg hb,if_neg (by omega)]
 simp only at hq ⊢
 have:=Zz2 (Yfy (A:=A) h1 n1 h2 n2 r) (Z8g n1 n2 r) (g:=Yo A r) (Ye r).toNat 0 (left - wtR r) e [] [] (by omega) he hq
 rw [show left - wtR r+e=left+e - wtR r by omega] at this
 exact this
theorem Yjv (g:Zb→Int→Tr×Int×Int):Mo bad g:=fun k left e _ _ h=>by simp [bad] at h
theorem Yfz:∀ (d d':Nat),d≤d'→Mo (U4 A d) (U4 A d'):=fun d=>by
 induction d using Nat.strongRecOn with
 | ind d ih =>
  intro d' hd
  rw [Zfs d,Zfs d']
  have key:∀ k,1≤k→Mo (Y5 A k d) (Y5 A k d')∧NN (Y5 A k d):=fun k hk=>by
   unfold Y5
   by_cases h:k≤d
   ·rw [if_pos h,if_pos (by omega)]
    exact ⟨ih (d - k) (by omega) (d' - k) (by omega),Yf0 _⟩
   rw [if_neg h]
   exact ⟨Yjv _,Z6x⟩
  exact Ydc (key 1 (by omega)).1 (key 1 (by omega)).2 (key 2 (by omega)).1 (key 2 (by omega)).2 (by omega)
end
theorem Yc3 (x:Yi):∃ w,Gs x=some ⟨x.Depth,w,x.MaxD,x.MaxOut⟩:=by
 unfold Gs
 cases decide (3000 < x.Weight) with
 | true=>exact ⟨3000,rfl⟩
 | false=>exact ⟨x.Weight,rfl⟩
theorem Ybg {c:Int} (h:0≤c∧c≤5):V2 c=some (wdt c):=by
 unfold V2
 rcases c5 h with rfl | rfl | rfl | rfl | rfl | rfl <;> rfl
theorem Z3y (q:Int) (n:Nat) (hn:Int.tmod q 64=(n:Int)) (hn2:n < 64):∀ (m t w:Nat),t+m=n→w < 18446744073709551616→Zv (Vk q) ((w:Int),(t:Int))=some ((w / 2 ^ m:Nat):Int)
 | 0,t,w,h,hw=>by
  refine Z4 ?_
  unfold Vk
  simp only
  rw [hn,show decide ((t:Int) < (n:Int))=false from by rw [decide_eq_false_iff_not];omega,cond_false,Nat.pow_zero,Nat.div_one]
 | m+1,t,w,h,hw=>by
  have hs:Vk q ((w:Int),(t:Int))=some (.inl (((w / 2:Nat):Int),((t+1:Nat):Int))):=by
   unfold Vk
   simp only
   rw [hn,show decide ((t:Int) < (n:Int))=true from by rw [decide_eq_true_eq];omega,cond_true,Int.tdiv_eq_ediv_of_nonneg (by omega),show ((w:Int) / 2)=((w / 2:Nat):Int) from rfl,Yev _ (by omega),Yz (by omega) (by omega)]
   rfl
  rw [Yd hs,Z3y q n hn hn2 m (t+1) (w / 2) (by omega) (by omega),Nat.div_div_eq_div_mul,Nat.pow_succ,Nat.mul_comm]
theorem Yjd {l:List Int} (hl:∀ w∈l,0≤w∧w < 18446744073709551616) {k:Nat} {w:Int} (hk:k < 1125899906842624) (hg:l[k / 64]? = some w):Zbh l (k:Int)=some ((w.toNat / 2 ^ (k % 64) % 2:Nat):Int):=by
 have hi:k / 64 < l.length:=by
  rcases Nat.lt_or_ge (k / 64) l.length with h | h
  ·exact h
  rw [List.getElem?_eq_none h] at hg;cases hg
 have hwr:=hl w (List.mem_of_getElem? hg)
 unfold Zbh
 have t1:Int.tdiv (k:Int) 64=((k / 64:Nat):Int):=by rw [Int.tdiv_eq_ediv_of_nonneg (by omega)];rfl
 have t2:Int.tmod (k:Int) 64=((k % 64:Nat):Int):=by rw [Int.tmod_eq_emod_of_nonneg (by omega)];rfl
 rw [t1,Yz (x:=((k / 64:Nat):Int)) (by omega) (by omega),show decide ((k:Int) < 0)=false from by rw [decide_eq_false_iff_not];omega,cond_false,show decide ((l.length:Int)≤((k / 64:Nat):Int))=false from by rw [decide_eq_false_iff_not];omega,cond_false,Yk hg,Option.bind_some]
 have hL:=Z3y (k:Int) (k % 64) t2 (Nat.mod_lt _ (by decide)) (k % 64) 0 w.toNat (by omega) (by omega)
 rw [show ((w.toNat:Nat):Int)=w by omega,show (((0:Nat):Int))=0 from rfl] at hL
 rw [hL,Option.bind_some,Int.tmod_eq_emod_of_nonneg (Int.natCast_nonneg _)]
 rfl
theorem Z4b {l:List Int} (hl:∀ w∈l,0≤w∧w < 18446744073709551616) {d q i:Nat} {w:Int} (hd:1≤d∧d≤64) (hi:i * d+d < 1125899906842624) (hq:∀ j,j < d→(i * d+j) / 64=q∧(i * d+j) % 64=(i * d) % 64+j) (hg:l[q]? = some w):∀ (m:Nat) (acc:Int),m≤d→acc=((w.toNat / 2 ^ ((i * d) % 64+m) % 2 ^ (d - m):Nat):Int) →
  Zv (Vl l (i:Int) (d:Int)) (acc,(m:Int) - 1)=some ((w.toNat / 2 ^ ((i * d) % 64) % 2 ^ d:Nat):Int)
 | 0,acc,hm,ha=>by
  refine Z4 ?_
  unfold Vl
  simp only
  rw [show decide ((0:Int)≤((0:Nat):Int) - 1)=false from rfl,cond_false,ha]
  rfl
 | m+1,acc,hm,ha=>by
  obtain ⟨q1,q2⟩:=hq m (by omega)
  have hb:=Yjd hl (k:=i * d+m) (w:=w) (by omega) (by rw [q1];exact hg)
  rw [q2] at hb
  have hlt:w.toNat / 2 ^ ((i * d) % 64+(m+1)) % 2 ^ (d - (m+1)) < 2 ^ 63:=Nat.lt_of_lt_of_le (Nat.mod_lt _ (Nat.pow_pos (by decide))) (Nat.pow_le_pow_right (by decide) (by omega))
  have hbit:w.toNat / 2 ^ ((i * d) % 64+m) % 2 < 2:=Nat.mod_lt _ (by decide)
  have hstep:Vl l (i:Int) (d:Int) (acc,((m+1:Nat):Int) - 1)=some (.inl (((w.toNat / 2 ^ ((i * d) % 64+m) % 2 ^ (d - m):Nat):Int),(m:Int) - 1)):=by
   unfold Vl
   simp only
   have e1:IntKind.i64.wrap (IntKind.i64.wrap ((i:Int) * (d:Int))+(((m+1:Nat):Int) - 1))=((i * d+m:Nat):Int):=by
    have e0:((i:Int) * (d:Int))=((i * d:Nat):Int):=by simp
    rw [e0,Yz (x:=((i * d:Nat):Int)) (by omega) (by omega),Yz (by omega) (by omega)]
    omega
   rw [show decide ((0:Int)≤((m+1:Nat):Int) - 1)=true from by rw [decide_eq_true_eq];omega,cond_true,e1,hb,Option.bind_some,ha]
   have e2:((w.toNat / 2 ^ ((i * d) % 64+(m+1)) % 2 ^ (d - (m+1)):Nat):Int) * 2=((w.toNat / 2 ^ ((i * d) % 64+(m+1)) % 2 ^ (d - (m+1)) * 2:Nat):Int):=by simp
   rw [e2,Yev _ (by omega),← Int.natCast_add,Yev _ (by omega),Yz (by omega) (by omega)]
   have e3:w.toNat / 2 ^ ((i * d) % 64+(m+1)) % 2 ^ (d - (m+1)) * 2+w.toNat / 2 ^ ((i * d) % 64+m) % 2=w.toNat / 2 ^ ((i * d) % 64+m) % 2 ^ (d - m):=by
    have h1:w.toNat / 2 ^ ((i * d) % 64+(m+1))=w.toNat / 2 ^ ((i * d) % 64+m) / 2:=by
     rw [Nat.div_div_eq_div_mul,← Nat.pow_succ];rfl
    have h2:d - m=(d - (m+1))+1:=by omega
    rw [h1,h2]
    generalize w.toNat / 2 ^ ((i * d) % 64+m)=x
    generalize d - (m+1)=y
    rw [Nat.pow_succ,Nat.mul_comm (2 ^ y) 2,Nat.mod_mul]
    omega
   rw [e3]
   congr 3
   omega
  rw [Yd hstep]
  exact Z4b hl hd hi hq hg m _ (by omega) rfl
theorem Ygg {l:List Int} (hl:∀ w∈l,0≤w∧w < 18446744073709551616) {c i n:Int} (hc:0≤c∧c≤5) (h0:0≤i) (h1:i < n) (hn:n < 536870912) (hi:(n * wdt c+63) / 64≤l.length):Zbi l c i=some (if c=0 then 0 else Z0m ((l[(i / each c).toNat]?).getD 0) c (i % each c)):=by
 unfold Zbi
 rw [Ybg hc,Option.bind_some]
 by_cases hz:c=0
 ·subst hz
  rw [if_pos rfl]
  rfl
 rw [if_neg hz]
 obtain ⟨d,e,hd⟩:∃ d:Nat,wdt c=(d:Int)∧(d=1∨d=8∨d=16∨d=32∨d=64):=by
  rcases c5 hc with rfl | rfl | rfl | rfl | rfl | rfl
  ·omega
  ·exact ⟨1,rfl,by omega⟩
  ·exact ⟨8,rfl,by omega⟩
  ·exact ⟨16,rfl,by omega⟩
  ·exact ⟨32,rfl,by omega⟩
  exact ⟨64,rfl,by omega⟩
 obtain ⟨j,rfl⟩:∃ j:Nat,i=j:=⟨i.toNat,by omega⟩
 have he:each c=((64 / d:Nat):Int):=by unfold each;rw [e];rfl
 rw [e] at hi ⊢
 rw [show decide ((d:Int) < 1)=false from by rw [decide_eq_false_iff_not];omega,show decide ((j:Int) < 0)=false from by rw [decide_eq_false_iff_not];omega,show decide (1099511627776 < (j:Int))=false from by rw [decide_eq_false_iff_not];omega]
 simp only [cond_false]
 rw [Yz (x:=(d:Int) - 1) (by omega) (by omega)]
 have hqn:((j:Int) / each c).toNat=j / (64 / d):=by rw [he];rfl
 have hrn:((j:Int) % each c)=((j % (64 / d):Nat):Int):=by rw [he];rfl
 rw [hqn,hrn]
 have hin:j / (64 / d) < l.length∧∀ t,t < d→(j * d+t) / 64=j / (64 / d)∧(j * d+t) % 64=(j * d) % 64+t:=by
  rcases hd with rfl | rfl | rfl | rfl | rfl
  ·exact ⟨by omega,fun t ht=>by omega⟩
  ·exact ⟨by omega,fun t ht=>by omega⟩
  ·exact ⟨by omega,fun t ht=>by omega⟩
  ·exact ⟨by omega,fun t ht=>by omega⟩
  exact ⟨by omega,fun t ht=>by omega⟩
 have hoff:(j * d) % 64=(j % (64 / d)) * d:=by
  rcases hd with rfl | rfl | rfl | rfl | rfl
  ·omega
  ·omega
  ·omega
  ·omega
  omega
 have hg:l[j / (64 / d)]? = some l[j / (64 / d)]:=List.getElem?_eq_getElem hin.1
 have hjd:j * d≤536870912 * 64:=Nat.mul_le_mul (by omega) (by omega)
 rw [Z4b hl (d:=d) (i:=j) (by omega) (by omega) hin.2 hg d 0 (Nat.le_refl _) (by rw [Nat.sub_self,Nat.pow_zero,Nat.mod_one];rfl),Option.bind_some,hg,Option.getD_some]
 unfold Z0m
 rw [e,hoff]
 congr 4
section
variable {A:Zn}
def Gh (A:Zn) (r:Zb):Zw :=
 if r.kind=0 then ⟨0,0,0,0,0,0,0⟩
 else if r.kind=1 then ⟨1,r.segment,r.at_,r.words,r.ptrs,0,0⟩
 else if r.kind=9 then ⟨9,r.segment,r.at_+1,r.words,r.ptrs,r.count,0⟩
 else if r.kind=10 then ⟨10,0,0,0,0,0,Zx7 A r⟩
 else ⟨r.kind,r.segment,r.at_,0,0,r.count,0⟩
def Zxx (A:Zn) (x:Zb×Int):Zw×Int:=(Gh A x.1,x.2)
theorem Zg7 {r:Zb}:(Gh A r).Kind=r.kind:=by
 unfold Gh
 split
 ·symm;assumption
 split
 ·symm;assumption
 split
 ·symm;assumption
 split
 ·symm;assumption
 rfl
theorem Yff {w:Int} (h:0≤w):(dc w).Kind=0↔w=0:=by
 unfold dc Z6c
 constructor
 ·intro q
  split at q
  ·omega
  split at q
  ·simp at q
  split at q
  ·simp at q
  split at q
  ·simp at q
  simp at q
 intro q
 rw [if_pos (by omega)]
theorem Z67 (hw:WS A.segments) (s a:Int):Uv A.segments s a=some (Zxx A (atR A s a)):=by
 have hk0:=Zhc A.segments s a
 have hR:Vm A.segments s a=some (⟨(fol A.segments s a).1.P,(fol A.segments s a).1.Segment,(fol A.segments s a).1.At⟩,(fol A.segments s a).2):=Z7a hw s a
 unfold Uv atR
 rw [hR,Option.bind_some]
 clear hR
 revert hk0
 generalize fol A.segments s a=y
 intro hk0
 obtain ⟨x,e⟩:=y
 dsimp only at hk0 ⊢
 rcases hk0 with h | ⟨h1,hp,hk,hi⟩
 ·rw [if_pos h]
  have:cond (e != 0) true (x.P.Kind == 0)=true:=by
   rcases h with h | h
   ·rw [bne_iff_ne.2 h];rfl
   rw [show (x.P.Kind == 0)=true from by rw [h];rfl]
   cases (e != 0) <;> rfl
  rw [this,cond_true];rfl
 rw [if_neg (by omega),h1,show ((0:Int) != 0)=false from rfl,cond_false]
 rw [show (x.P.Kind == 0)=false from Za7 (by omega),cond_false]
 by_cases k1:x.P.Kind=1
 ·rw [if_pos k1,show (x.P.Kind == 1)=true from by rw [k1];rfl,cond_true]
  rfl
 rw [if_neg k1,show (x.P.Kind == 1)=false from Za7 k1,cond_false]
 have hc:=hp.c
 by_cases c7':x.P.Code=7
 ·rw [if_pos c7',show decide (x.P.Code < 7)=false from by rw [decide_eq_false_iff_not];omega,cond_false]
  have hpw:pw x.P=x.P.Count+1:=by unfold pw;rw [if_neg k1,if_pos c7']
  rw [hpw] at hi
  have hn:=hp.n
  have hi':=inB_iff.1 hi
  have hi1:inB A.segments x.Segment x.At 1=true:=inB_iff.2 ⟨hi'.1,hi'.2.1,hi'.2.2.1,by omega,by omega⟩
  have hwr:=Zlh hw x.Segment x.At
  have hrr:=Zo9 hw hi
  rw [(Ze3 hi'.1 hi'.2.1).1,Option.bind_some,(Ztf hi1).1,Option.bind_some,Zxj hwr,Option.bind_some]
  have ht:=Z7g (wd A.segments x.Segment x.At)
  have ho:=(Zlt (wd A.segments x.Segment x.At)).o
  have hdz:=Yff hwr.1
  generalize dc (wd A.segments x.Segment x.At)=t at *
  have hm:=Ydf (n:=t.Off) (x:=t.Data+t.Ptrs) ho (by omega)
  rw [Yz (x:=t.Data+t.Ptrs) (by omega) (by omega),Yz (x:=t.Off * (t.Data+t.Ptrs)) (by omega) (by omega),Yz (x:=x.At+1) (by omega) (by omega)]
  by_cases hq:(t.Kind≠0∧t.Kind≠1)∨t.Off < 0∨x.P.Count < t.Off * (t.Data+t.Ptrs)
  ·rw [if_pos hq]
   have:cond (cond (cond (wd A.segments x.Segment x.At != 0) (t.Kind != 1) false) true (decide (t.Off < 0))) true (decide (x.P.Count < t.Off * (t.Data+t.Ptrs)))=true:=by
    rcases hq with ⟨q1,q2⟩ | q | q
    ·rw [bne_iff_ne.2 (fun z=>q1 (hdz.2 z)),bne_iff_ne.2 q2];rfl
    ·rw [decide_eq_true q];cases (cond (wd A.segments x.Segment x.At != 0) (t.Kind != 1) false) <;> rfl
    rw [decide_eq_true q];cases (cond (cond (wd A.segments x.Segment x.At != 0) (t.Kind != 1) false) true (decide (t.Off < 0))) <;> rfl
   rw [this,cond_true];rfl
  rw [if_neg hq]
  have e1:cond (wd A.segments x.Segment x.At != 0) (t.Kind != 1) false=false:=by
   by_cases q0:wd A.segments x.Segment x.At=0
   ·rw [show (wd A.segments x.Segment x.At != 0)=false from bne_eq_false_iff_eq.2 q0];rfl
   have q1:t.Kind=1:=by
    have:t.Kind≠0:=fun z=>q0 (hdz.1 z)
    omega
   rw [show (t.Kind != 1)=false from by rw [q1];rfl]
   cases (wd A.segments x.Segment x.At != 0) <;> rfl
  rw [e1,cond_false,show decide (t.Off < 0)=false from by rw [decide_eq_false_iff_not];omega,cond_false,show decide (x.P.Count < t.Off * (t.Data+t.Ptrs))=false from by rw [decide_eq_false_iff_not];omega]
  rfl
 rw [if_neg c7',show decide (x.P.Code < 7)=true from by rw [decide_eq_true_eq];omega,cond_true,Yz (x:=2+x.P.Code) (by omega) (by omega)]
 unfold Zxx Gh
 simp only
 rw [if_neg (by omega),if_neg (by omega),if_neg (by omega),if_neg (by omega),show 2+x.P.Code=x.P.Code+2 by omega]
theorem Zm8 {r:Zb} (h:OKr A r):Jf (Gh A r)=some (Ye r):=by
 unfold Jf
 rw [Zg7]
 unfold Ye Gh
 by_cases h1:r.kind=1
 ·rw [if_pos h1,show (r.kind == 1)=true from by rw [h1];rfl,cond_true,if_neg (by omega),if_pos h1]
 rw [if_neg h1,show (r.kind == 1)=false from Za7 h1,cond_false]
 by_cases h0:r.kind=0
 ·rw [if_pos h0]
  cases h with
  | z=>rfl
  | st=>simp at h0
  | li k s a n hk=>simp only at h0;omega
  | co=>simp at h0
  | at_=>simp at h0
 rw [if_neg h0,if_neg h1]
 by_cases h9:r.kind=9
 ·rw [if_pos h9]
 rw [if_neg h9]
 by_cases h10:r.kind=10
 ·rw [if_pos h10]
  cases h with
  | z=>rfl
  | st=>rfl
  | li k s a n hk=>simp only at h10;omega
  | co=>simp at h10
  | at_=>rfl
 rw [if_neg h10]
theorem Zoo (hw:WS A.segments) {r:Zb} (h:OKr A r):Qw (Gh A r) A.segments=some (Y6 A r):=by
 unfold Qw
 rw [Zg7]
 unfold Y6 Gh
 cases h with
 | z=>rfl
 | li k s a n hk hn hin =>
  simp only
  rw [show (k == 10)=false from Za7 (by omega),cond_false,show (k != 1)=true from bne_iff_ne.2 (by omega),cond_true,if_neg (by omega),if_neg (by omega)]
 | co s a d p n hd hp hn hwx hin=>rfl
 | at_ s a c i n hc h0 h1 hn hin=>rfl
 | st s a d p hd hp hin =>
  have hi':=inB_iff.1 hin
  have hl:=Zk4 hw s
  simp only [show ((1:Int) == 10)=false from rfl,show ((1:Int) != 1)=false from rfl,cond_false,show ¬ (1:Int)=0 from by decide,show ¬ (1:Int)=10 from by decide,if_false,if_true]
  rw [(Ze3 hi'.1 hi'.2.1).1,Option.bind_some,Yz (x:=a+d) (by omega) (by omega),Zvl (by omega) (by omega) (by omega),Option.bind_some,show a+d - a=d by omega,J5 (by simp only [List.length_nil,List.length_take,List.length_drop];omega) (by simp only [List.length_nil,List.length_take,List.length_drop];omega),List.nil_append]
  rfl
theorem Yej (hw:WS A.segments) (s:Int):∀ w∈seg A.segments s,0≤w∧w < 18446744073709551616:=by
 unfold seg
 cases h:A.segments[s.toNat]? with
 | none=>simp
 | some x=>exact hw.w x (List.mem_of_getElem? h)
theorem Z5h (hw:WS A.segments) {r:Zb} (h:OKr A r) (i:Int):Ky (Gh A r) A.segments i=some (Zxx A (Yo A r i)):=by
 unfold Ky Yo
 rw [Zm8 h,Zg7]
 have hz:(cond (decide (i < 0)) (some true) ((some (Ye r)).bind fun y4=>some (cond (decide (i < 0)) true (decide (y4≤i)))))=some (decide (i < 0∨Ye r≤i)):=by
  by_cases h0:i < 0
  ·rw [decide_eq_true h0,cond_true,show decide (i < 0∨Ye r≤i)=true from decide_eq_true (.inl h0)]
  rw [decide_eq_false h0,cond_false,Option.bind_some,cond_false]
  congr 1
  rw [decide_eq_decide]
  omega
 rw [hz,Option.bind_some]
 by_cases hi:i < 0∨Ye r≤i
 ·rw [if_pos hi,decide_eq_true hi];rfl
 rw [if_neg hi,decide_eq_false hi,cond_false]
 cases h with
 | z=>exact absurd hi (by first | (simp [Ye,r0];done) | (simp [Ye,r0];omega))
 | at_=>exact absurd hi (by first | (simp [Ye];done) | (simp [Ye];omega))
 | st s a d p hd hp hin =>
  have:=Zo9 hw hin
  simp only [Ye,if_true] at hi
  have e:Gh A (⟨some A,1,s,a,d,p,0,0,0⟩:Zb)=⟨1,s,a,d,p,0,0⟩:=rfl
  simp only [e,beq_self_eq_true,cond_true,if_true]
  rw [Yz (x:=a+d) (by omega) (by omega),Yz (by omega) (by omega),Z67 hw]
  rfl
 | co s a d p n hd hp hn hwx hin =>
  have:=Zo9 hw hin
  simp only [Ye] at hi
  rw [if_neg (by omega)] at hi
  have e:Gh A (⟨some A,9,s,a,d,p,n,0,0⟩:Zb)=⟨9,s,a+1,d,p,n,0⟩:=rfl
  simp only [e,show ((9:Int) == 1)=false from rfl,show ((9:Int) == 8)=false from rfl,show ((9:Int) == 9)=true from rfl,cond_true,cond_false,show ¬ (9:Int)=1 from by decide,show ¬ (9:Int)=8 from by decide,if_false,if_true]
  have h1:0≤i * (d+p):=Int.mul_nonneg (by omega) (by omega)
  have h2:(i+1) * (d+p)≤n * (d+p):=Int.mul_le_mul_of_nonneg_right (by omega) (by omega)
  rw [Int.add_mul,Int.one_mul] at h2
  rw [Yz (x:=d+p) (by omega) (by omega),Yz (x:=i * (d+p)) (by omega) (by omega),Yz (by omega) (by omega)]
  rfl
 | li k s a n hk hn hin =>
  have hr:=Zo9 hw hin
  have hi':=inB_iff.1 hin
  simp only [Ye] at hi
  rw [if_neg (by omega)] at hi
  have e:Gh A (⟨some A,k,s,a,0,0,n,0,0⟩:Zb)=⟨k,s,a,0,0,n,0⟩:=by
   unfold Gh
   simp only
   rw [if_neg (by omega),if_neg (by omega),if_neg (by omega),if_neg (by omega)]
  simp only [e]
  rw [show (k == 1)=false from Za7 (by omega),cond_false,if_neg (by omega),show (k == 9)=false from Za7 (by omega)]
  by_cases k8:k=8
  ·have hp:(n * wdt (k - 2)+63) / 64=n:=by rw [k8];simp [wdt];omega
   rw [show (k == 8)=true from by rw [k8];rfl,cond_true,if_pos k8,Yz (by omega) (by omega),Z67 hw]
   rfl
  rw [show (k == 8)=false from Za7 k8,cond_false,cond_false,if_neg k8,if_neg (by omega),Yz (by omega) (by omega),(Ze3 hi'.1 hi'.2.1).1,Option.bind_some,Zvl (by omega) (by omega) (by omega),Option.bind_some]
  have hlen:((seg A.segments s).drop a.toNat).length=(seg A.segments s).length - a.toNat:=List.length_drop
  have htk:((seg A.segments s).drop a.toNat).take (((seg A.segments s).length:Int) - a).toNat=(seg A.segments s).drop a.toNat:=List.take_of_length_le (by rw [hlen];omega)
  rw [htk,Ygg (fun w hm=>Yej hw s w (List.mem_of_mem_drop hm)) (c:=k - 2) (n:=n) (by omega) (by omega) (by omega) (by omega) (by rw [hlen];omega),Option.bind_some]
  unfold Zxx Gh Zx7
  simp only [show ¬ (10:Int)=0 from by decide,show ¬ (10:Int)=1 from by decide,show ¬ (10:Int)=9 from by decide,if_false,if_true]
  congr 3
  by_cases hz:k - 2=0
  ·rw [if_pos hz,if_pos hz]
  rw [if_neg hz,if_neg hz]
  obtain ⟨a1,a2,a3,a4,a5,a6,a7,a8⟩:=Z7t (c:=k - 2) (i:=i) (n:=n) (by omega) (by omega) (by omega) (by omega)
  unfold wd
  rw [List.getElem?_drop,show (a+i / each (k - 2)).toNat=a.toNat+(i / each (k - 2)).toNat by omega]
end
theorem Z5q (t:Tr):(⟨t.Kind,t.Words,t.Kids⟩:Tr)=t:=by cases t;rfl
section
variable {A:Zn}
theorem Zsq {step:Int×Int×List Tr→Option ((Int×Int×List Tr) ⊕ ((Int×Int×List Tr) ⊕ (Int×List Tr)))} {f:Zb→Int→Tr×Int×Int} {r:Zb} (hr:OKr A r) (n:Nat) (hn:n≤1073741824)
  (hs:∀ (i:Nat) (left:Int) (acc:List Tr),i < n→acc.length=i→0≤left∧left≤65536→step (left,(i:Int),acc)=some (if (Yo A r i).2≠0 then .inr (.inl (left,(Yo A r i).2,acc)) else if (f (Yo A r i).1 left).2.2≠0 then .inr (.inl ((f (Yo A r i).1 left).2.1,(f (Yo A r i).1 left).2.2,acc)) else .inl ((f (Yo A r i).1 left).2.1,((i+1:Nat):Int),acc++[(f (Yo A r i).1 left).1])))
  (he:∀ left acc,step (left,(n:Int),acc)=some (.inr (.inr (left,acc))))
  (hf:Lf A f):∀ (m i:Nat) (left:Int) (acc:List Tr),i+m=n→acc.length=i→0≤left∧left≤65536 →
  Zv step (left,(i:Int),acc)=some (if (Yq f (Yo A r) m i left acc).2.2=0 then .inr ((Yq f (Yo A r) m i left acc).2.1,(Yq f (Yo A r) m i left acc).1) else .inl ((Yq f (Yo A r) m i left acc).2.1,(Yq f (Yo A r) m i left acc).2.2,(Yq f (Yo A r) m i left acc).1))
 | 0,i,left,acc,hi,ha,hl=>by
  have:i=n:=by omega
  subst this
  exact Z4 (he left acc)
 | m+1,i,left,acc,hi,ha,hl=>by
  have hst:=hs i left acc (by omega) ha hl
  rw [Yq]
  by_cases h1:(Yo A r i).2≠0
  ·rw [if_pos h1] at hst ⊢
   rw [if_neg h1]
   exact Z4 hst
  rw [if_neg h1] at hst ⊢
  by_cases h2:(f (Yo A r i).1 left).2.2≠0
  ·rw [if_pos h2] at hst ⊢
   rw [if_neg h2]
   exact Z4 hst
  rw [if_neg h2] at hst ⊢
  have hb:=hf _ left (Vd hr i) hl.1 (by omega)
  rw [Yd hst]
  exact Zsq hr n hn hs he hf m (i+1) _ _ (by omega) (by rw [List.length_append,ha];rfl) ⟨hb.1,by omega⟩
abbrev MF:=List (List Int)→Zw→Int→Int→Option (Tr×Int×Int)
theorem Z65 (hw:WS A.segments) {f1 f2:MF} {f:Zb→Int→Tr×Int×Int} (hf:Lf A f) {r:Zb} (hr:OKr A r) (h1:r.kind=1) {d left:Int} (hl:0≤left∧left≤65536)
  (hF:∀ (k:Zb) (l:Int),OKr A k→0≤l∧l≤65536→f1 A.segments (Gh A k) d l=some (f k l)):Uk f1 f2 A.segments (Gh A r) d left=some (stK A f r left):=by
 have hp:(Gh A r).Ptrs=r.ptrs:=by unfold Gh;rw [if_neg (by omega),if_pos h1]
 have hpr:0≤r.ptrs∧r.ptrs < 65536:=by
  cases hr with
  | z=>simp [r0] at h1
  | st s a d p hd hp2 hin=>exact hp2
  | li k s a n hk=>simp only at h1;omega
  | co=>simp at h1
  | at_=>simp at h1
 unfold Uk stK
 rw [Zoo hw hr,Option.bind_some]
 have hL:=Zsq (step:=Ub f1 A.segments (Gh A r) d) (f:=f) hr r.ptrs.toNat (by omega) (fun i l acc hi ha hl=>by
  unfold Ub
  simp only
  rw [hp,show decide ((i:Int) < r.ptrs)=true from by rw [decide_eq_true_eq];omega,cond_true,Z5h hw hr,Option.bind_some]
  simp only [Zxx]
  by_cases h1:(Yo A r i).2≠0
  ·rw [if_pos h1,bne_iff_ne.2 h1,cond_true]
  rw [if_neg h1,bne_eq_false_iff_eq.2 (show (Yo A r i).2=0 by omega),cond_false,hF _ l (Vd hr i) hl,Option.bind_some]
  by_cases h2:(f (Yo A r i).1 l).2.2≠0
  ·rw [if_pos h2,bne_iff_ne.2 h2,cond_true]
  rw [if_neg h2,bne_eq_false_iff_eq.2 (show (f (Yo A r i).1 l).2.2=0 by omega),cond_false,J5 (by simp only [List.length_singleton];omega) (by simp only [List.length_singleton];omega),Option.bind_some,Yz (by omega) (by omega)]
  rfl) (fun l acc=>by
  unfold Ub
  simp only
  rw [hp,show decide (((r.ptrs.toNat:Nat):Int) < r.ptrs)=false from by rw [decide_eq_false_iff_not];omega,cond_false]) hf r.ptrs.toNat 0 left [] (by omega) rfl hl
 rw [show (((0:Nat):Int))=0 from rfl] at hL
 rw [hL,Option.bind_some]
 by_cases hq:(Yq f (Yo A r) r.ptrs.toNat 0 left []).2.2=0
 ·rw [if_pos hq]
  simp only
  rw [show (Yq f (Yo A r) r.ptrs.toNat 0 left []).2=((Yq f (Yo A r) r.ptrs.toNat 0 left []).2.1,0) from by rw [← hq]]
 rw [if_neg hq]
theorem Z7i {r:Zb} (hr:OKr A r):(r.kind=1→(Gh A r).Data=r.words∧(Gh A r).Ptrs=r.ptrs)∧(r.kind=9→(Gh A r).Data=r.words∧(Gh A r).Ptrs=r.ptrs∧(Gh A r).Count=r.count):=by
 refine ⟨fun h => ?_,fun h => ?_⟩
 ·unfold Gh
  rw [if_neg (by omega),if_pos h]
  exact ⟨rfl,rfl⟩
 unfold Gh
 rw [if_neg (by omega),if_neg (by omega),if_pos h]
 exact ⟨rfl,rfl,rfl⟩
theorem Yd4 (hw:WS A.segments) {f1 f2:MF} {g1 g2:Zb→Int→Tr×Int×Int} (l1:Lf A g1) (l2:Lf A g2) {r:Zb} (hr:OKr A r) {d left:Int} (hd:0≤d∧d≤1000) (hl:0≤left∧left≤65536)
  (h1:1≤d→∀ (k:Zb) (l:Int),OKr A k→0≤l∧l≤65536→f1 A.segments (Gh A k) (d - 1) l=some (g1 k l))
  (h2:2≤d→∀ (k:Zb) (l:Int),OKr A k→k.kind=1→0≤l∧l≤65536→f2 A.segments (Gh A k) (d - 2) l=some (stK A g2 k l)):Kt f1 f2 A.segments (Gh A r) d left=some (Ze7 A g1 g2 d r left):=by
 have hwt:=Yae hw hr
 have hkn:=Uy hr
 obtain ⟨fr1,fr9⟩:=Z7i hr
 unfold Kt Ze7
 rw [Zoo hw hr,Option.bind_some,Zg7,Zm8 hr]
 by_cases k0:r.kind=0
 ·rw [if_pos k0,show (r.kind == 0)=true from by rw [k0];rfl,cond_true]
 rw [if_neg k0,show (r.kind == 0)=false from Za7 k0,cond_false]
 have hlv:(cond (decide (d < 1)) true (cond (cond (r.kind == 9) (decide (0 < (Gh A r).Count)) false) (decide (d < 2)) false))=decide (d < lvR r):=by
  unfold lvR
  rw [if_neg k0]
  by_cases k9:r.kind=9
  ·rw [show (r.kind == 9)=true from by rw [k9];rfl,(fr9 k9).2.2,cond_true]
   by_cases hc:0 < r.count
   ·rw [if_pos ⟨k9,hc⟩,decide_eq_true hc,cond_true]
    by_cases hd1:d < 1
    ·rw [decide_eq_true hd1,cond_true,decide_eq_true (show d < 2 by omega)]
    rw [decide_eq_false hd1,cond_false]
   rw [if_neg (fun q=>hc q.2),decide_eq_false hc,cond_false]
   cases decide (d < 1) <;> rfl
  rw [show (r.kind == 9)=false from Za7 k9,cond_false,cond_false,if_neg (fun q=>k9 q.1)]
  cases decide (d < 1) <;> rfl
 rw [hlv]
 have hwx:((cond (r.kind == 1) (some (IntKind.i64.wrap ((IntKind.i64.wrap (1+(Gh A r).Data))+(Gh A r).Ptrs))) (some (IntKind.i64.wrap (1+Ye r)))).bind fun (z5:Int)=>(cond (r.kind == 9) (some (IntKind.i64.wrap (1+(IntKind.i64.wrap ((Gh A r).Count * (IntKind.i64.wrap ((IntKind.i64.wrap (1+(Gh A r).Data))+(Gh A r).Ptrs))))))) (some z5)))=some (wtR r):=by
  unfold wtR
  rw [if_neg k0]
  by_cases k1:r.kind=1
  ·rw [if_pos k1,show (r.kind == 1)=true from by rw [k1];rfl,cond_true,Option.bind_some,show (r.kind == 9)=false from Za7 (by omega),cond_false,(fr1 k1).1,(fr1 k1).2]
   cases hr with
   | z=>simp [r0] at k1
   | st s a d p hd hp hin=>simp only;rw [Yz (x:=1+d) (by omega) (by omega),Yz (by omega) (by omega)]
   | li k s a n hk=>simp only at k1;omega
   | co=>simp at k1
   | at_=>simp at k1
  rw [if_neg k1,show (r.kind == 1)=false from Za7 k1,cond_false,Option.bind_some]
  by_cases k9:r.kind=9
  ·rw [if_pos k9,show (r.kind == 9)=true from by rw [k9];rfl,cond_true,(fr9 k9).1,(fr9 k9).2.1,(fr9 k9).2.2]
   cases hr with
   | z=>simp [r0] at k9
   | st=>simp at k9
   | li k s a n hk=>simp only at k9;omega
   | at_=>simp at k9
   | co s a d p n hd hp hn hwx hin =>
    have:n * (1+d+p)=n+n * (d+p):=by rw [Int.add_assoc,Int.mul_add,Int.mul_one]
    simp only
    rw [Yz (x:=1+d) (by omega) (by omega),Yz (x:=1+d+p) (by omega) (by omega),Yz (x:=n * (1+d+p)) (by omega) (by omega),Yz (by omega) (by omega)]
  have hkc:Ye r=r.count:=by unfold Ye;rw [if_neg k1]
  rw [if_neg k9,show (r.kind == 9)=false from Za7 k9,cond_false,Yz (by omega) (by omega),hkc]
 by_cases hb1:d < lvR r
 ·rw [decide_eq_true hb1,cond_true,if_pos (.inl hb1)]
 rw [decide_eq_false hb1,cond_false,Option.bind_some]
 have hstep2:∀ {K:Int→Option (Tr×Int×Int)},((cond (r.kind == 1) (some (IntKind.i64.wrap ((IntKind.i64.wrap (1+(Gh A r).Data))+(Gh A r).Ptrs))) (some (IntKind.i64.wrap (1+Ye r)))).bind fun (z5:Int)=>(cond (r.kind == 9) (some (IntKind.i64.wrap (1+(IntKind.i64.wrap ((Gh A r).Count * (IntKind.i64.wrap ((IntKind.i64.wrap (1+(Gh A r).Data))+(Gh A r).Ptrs))))))) (some z5)).bind K)=K (wtR r):=fun {K}=>by
  rw [← Option.bind_assoc,hwx,Option.bind_some]
 rw [hstep2]
 by_cases hb2:left < wtR r
 ·rw [decide_eq_true hb2,cond_true,if_pos (.inr hb2)]
 rw [decide_eq_false hb2,cond_false,if_neg (by omega),Yz (x:=left - wtR r) (by omega) (by omega)]
 have hlvd:1≤d:=by
  have:1≤lvR r:=by unfold lvR;rw [if_neg k0];split <;> omega
  omega
 have hN:Ye r=(((Ye r).toNat:Nat):Int):=by omega
 -- one kid
 have hkf:∀ (i:Nat) (l:Int),i < (Ye r).toNat→(Yo A r i).2=0→0≤l∧l≤65536→(cond (r.kind == 9) ((f2 A.segments (Gh A (Yo A r i).1) (IntKind.i64.wrap (d - 2)) l).bind fun y16=>some (y16.2.1,y16.2.2,y16.1.Kind,y16.1.Words,y16.1.Kids)) (cond (cond (r.kind == 1) true (r.kind == 8)) ((f1 A.segments (Gh A (Yo A r i).1) (IntKind.i64.wrap (d - 1)) l).bind fun y17=>some (y17.2.1,y17.2.2,y17.1.Kind,y17.1.Words,y17.1.Kids)) (some (l,(Yo A r i).2,(Yo A r i).1.kind,Y6 A (Yo A r i).1,([]:List Tr)))))=some ((Vc A g1 g2 r (Yo A r i).1 l).2.1,(Vc A g1 g2 r (Yo A r i).1 l).2.2,(Vc A g1 g2 r (Yo A r i).1 l).1.Kind,(Vc A g1 g2 r (Yo A r i).1 l).1.Words,(Vc A g1 g2 r (Yo A r i).1 l).1.Kids):=fun i l hi he hl=>by
  rw [Yz (x:=d - 2) (by omega) (by omega),Yz (x:=d - 1) (by omega) (by omega)]
  unfold Vc
  by_cases k9:r.kind=9
  ·have hkc:Ye r=r.count:=by unfold Ye;rw [if_neg (by omega)]
   have hd2:2≤d:=by
    have:lvR r=2:=by unfold lvR;rw [if_neg k0,if_pos ⟨k9,by omega⟩]
    omega
   rw [if_pos k9,show (r.kind == 9)=true from by rw [k9];rfl,cond_true,h2 hd2 _ l (Vd hr i) (Zl3 k9 ⟨by omega,by omega⟩) hl,Option.bind_some]
  rw [if_neg k9,show (r.kind == 9)=false from Za7 k9,cond_false]
  by_cases k18:r.kind=1∨r.kind=8
  ·have e1:cond (r.kind == 1) true (r.kind == 8)=true:=by rcases k18 with k | k <;> rw [k] <;> rfl
   rw [if_pos k18,e1,cond_true,h1 hlvd _ l (Vd hr i) hl,Option.bind_some]
  rw [if_neg k18,show (r.kind == 1)=false from Za7 (by omega),show (r.kind == 8)=false from Za7 (by omega),cond_false,cond_false,he]
  rfl
 have hL:=Zsq (step:=Ku f1 f2 A.segments (Gh A r) d) (f:=Vc A g1 g2 r) hr (Ye r).toNat (by omega) (fun i l acc hi ha hl=>by
  unfold Ku
  simp only
  rw [Zm8 hr,Option.bind_some,show decide ((i:Int) < Ye r)=true from by rw [decide_eq_true_eq];omega,cond_true,Z5h hw hr,Option.bind_some]
  simp only [Zxx]
  by_cases q1:(Yo A r i).2≠0
  ·rw [if_pos q1,bne_iff_ne.2 q1,cond_true]
  rw [if_neg q1,bne_eq_false_iff_eq.2 (show (Yo A r i).2=0 by omega),cond_false,Zoo hw (Vd hr i),Option.bind_some,Zg7,Zg7,hkf i l hi (by omega) hl,Option.bind_some]
  simp only [Z5q]
  by_cases q2:(Vc A g1 g2 r (Yo A r i).1 l).2.2≠0
  ·rw [if_pos q2,bne_iff_ne.2 q2,cond_true]
  rw [if_neg q2,bne_eq_false_iff_eq.2 (show (Vc A g1 g2 r (Yo A r i).1 l).2.2=0 by omega),cond_false,J5 (by simp only [List.length_singleton];omega) (by simp only [List.length_singleton];omega),Option.bind_some,Yz (by omega) (by omega)]
  rfl) (fun l acc=>by
  unfold Ku
  simp only
  rw [Zm8 hr,Option.bind_some,show decide ((((Ye r).toNat:Nat):Int) < Ye r)=false from by rw [decide_eq_false_iff_not];omega,cond_false]) (Z0g l1 l2 r) (Ye r).toNat 0 (left - wtR r) [] (by omega) rfl (by omega)
 rw [show (((0:Nat):Int))=0 from rfl] at hL
 rw [hL,Option.bind_some]
 simp only
 by_cases hq:(Yq (Vc A g1 g2 r) (Yo A r) (Ye r).toNat 0 (left - wtR r) []).2.2=0
 ·rw [if_pos hq]
  simp only
  rw [show (Yq (Vc A g1 g2 r) (Yo A r) (Ye r).toNat 0 (left - wtR r) []).2=((Yq (Vc A g1 g2 r) (Yo A r) (Ye r).toNat 0 (left - wtR r) []).2.1,0) from by rw [← hq]]
 rw [if_neg hq]
theorem Zpd (hw:WS A.segments) (k d:Nat):Lf A (Y5 A k d):=by
 unfold Y5
 split
 ·exact Zpc hw _
 exact Zw7
theorem Z5i (hw:WS A.segments):∀ (K:Nat),(∀ (d:Nat) r left,d≤1000→OKr A r→0≤left∧left≤65536→2 * d+1≤K→(Xc K).1 A.segments (Gh A r) d left=some (U4 A d r left)) ∧
  (∀ (d:Nat) r left,d≤1000→OKr A r→r.kind=1→0≤left∧left≤65536→2 * d+2≤K→(Xc K).2 A.segments (Gh A r) d left=some (stK A (U4 A d) r left))
 | 0=>⟨fun d r left _ _ _ h=>by omega,fun d r left _ _ _ _ h=>by omega⟩
 | K+1=>by
  obtain ⟨i1,i2⟩:=Z5i hw K
  refine ⟨fun d r left hd hr hl hK => ?_,fun d r left hd hr h1 hl hK => ?_⟩
  ·show Kt (Xc K).1 (Xc K).2 A.segments (Gh A r) d left=_
   rw [Zfs]
   refine Yd4 hw (Zpd hw 1 d) (Zpd hw 2 d) hr (by omega) hl (fun hd1 k l hk hl => ?_) (fun hd2 k l hk k1 hl => ?_)
   ·have:=i1 (d - 1) k l (by omega) hk hl (by omega)
    rw [show (((d - 1:Nat):Int))=(d:Int) - 1 by omega] at this
    unfold Y5
    rw [if_pos (by omega)]
    exact this
   have:=i2 (d - 2) k l (by omega) hk k1 hl (by omega)
   rw [show (((d - 2:Nat):Int))=(d:Int) - 2 by omega] at this
   unfold Y5
   rw [if_pos (by omega)]
   exact this
  show Uk (Xc K).1 (Xc K).2 A.segments (Gh A r) d left=_
  exact Z65 hw (Zpc hw d) hr h1 hl fun k l hk hl=>i1 d k l hd hk hl (by omega)
theorem Yea (hw:WS A.segments) {d:Nat} (hd:d≤1000) {r:Zb} (hr:OKr A r) {left:Int} (hl:0≤left∧left≤65536):Zct A.segments (Gh A r) d left=some (U4 A d r left) :=
 Zep (2 * d+1) fun k hk=>(Z5i hw k).1 d r left hd hr hl hk
def Zja (A:Zn) (x:Yi):Tr×Int×Int :=
 if (atR A 0 0).2≠0 then (⟨0,[],[]⟩,0,(atR A 0 0).2)
 else
  let q:=U4 A (Zby x).Depth.toNat (atR A 0 0).1 (Zby x).Weight
  if q.2.2≠0 then (⟨0,[],[]⟩,0,q.2.2) else (q.1,(Zby x).Weight - q.2.1,0)
theorem Ybm (hw:WS A.segments) (x:Yi):Vn A.segments x=some (Zja A x):=by
 unfold Vn Zja
 rw [Z7b,Option.bind_some,Z67 hw,Option.bind_some]
 simp only [Zxx]
 have hd:0≤(Zby x).Depth∧(Zby x).Depth≤64:=Zoz _ _ (by decide)
 have hW:0≤(Zby x).Weight∧(Zby x).Weight≤65536:=Zoz _ _ (by decide)
 by_cases h:(atR A 0 0).2≠0
 ·rw [if_pos h,show ((atR A 0 0).2 != 0)=true from bne_iff_ne.2 h,cond_true]
 rw [if_neg h,show ((atR A 0 0).2 != 0)=false from bne_eq_false_iff_eq.2 (by omega),cond_false]
 have hm:=Yea hw (d:=(Zby x).Depth.toNat) (by omega) (Zj6 (A:=A) 0 0) hW
 rw [show (((Zby x).Depth.toNat:Nat):Int)=(Zby x).Depth by omega] at hm
 rw [hm,Option.bind_some]
 by_cases hq:(U4 A (Zby x).Depth.toNat (atR A 0 0).1 (Zby x).Weight).2.2≠0
 ·rw [if_pos hq,show ((U4 A (Zby x).Depth.toNat (atR A 0 0).1 (Zby x).Weight).2.2 != 0)=true from bne_iff_ne.2 hq,cond_true]
 have h0:(U4 A (Zby x).Depth.toNat (atR A 0 0).1 (Zby x).Weight).2.2=0:=by omega
 have hb:=Zpc hw _ _ _ (Zj6 (A:=A) 0 0) hW.1 h0
 rw [if_neg hq,show ((U4 A (Zby x).Depth.toNat (atR A 0 0).1 (Zby x).Weight).2.2 != 0)=false from bne_eq_false_iff_eq.2 h0,cond_false,Yz (by omega) (by omega)]
theorem Yg6 (x:Yi):(Zja A x).2=Yce A x:=by
 unfold Zja Yce
 by_cases h:(atR A 0 0).2≠0
 ·rw [if_pos h,if_pos h]
 rw [if_neg h,if_neg h]
 simp only
 by_cases hq:(U4 A (Zby x).Depth.toNat (atR A 0 0).1 (Zby x).Weight).2.2≠0
 ·rw [if_pos hq,if_pos hq]
 rw [if_neg hq,if_neg hq]
end
section
variable {A:Zn}
theorem Zia (hw:WS A.segments) {r:Zb} (h:OKr A r):((Y6 A r).length:Int)=Zbq r:=by
 unfold Y6 Zbq
 cases h with
 | z=>rfl
 | li k s a n hk hn hin=>simp only;rw [if_neg (by omega),if_neg (by omega),if_neg (by omega),if_neg (by omega)];rfl
 | co=>rfl
 | at_=>rfl
 | st s a d p hd hp hin =>
  have hi':=inB_iff.1 hin
  simp only [show ¬ (1:Int)=10 from by decide,if_false,if_true,List.length_take,List.length_drop]
  omega
theorem Zng (hw:WS A.segments) {r:Zb} (h:OKr A r) {i:Nat} (hi:i < (Y6 A r).length):(Y6 A r)[i]=Zj2 A r (i:Int):=by
 have hl:=Zia hw h
 unfold Zj2
 rw [if_neg (by omega)]
 cases h with
 | z=>simp [Y6,r0] at hi
 | li k s a n hk hn hin =>
  have:Y6 A ⟨some A,k,s,a,0,0,n,0,0⟩=[]:=by unfold Y6;rw [if_neg (by simp only;omega),if_neg (by simp only;omega)]
  simp [this] at hi
 | co=>simp [Y6] at hi
 | at_ s a c j n hc h0 h1 hn hin =>
  have:i=0:=by
   simp [Y6] at hi;exact hi
  subst this
  rfl
 | st s a d p hd hp hin =>
  have hi':=inB_iff.1 hin
  have hid:(i:Int) < d:=by simp [Zbq] at hl;omega
  simp only [Y6,show ¬ (1:Int)=10 from by decide,if_false,if_true,List.getElem_take,List.getElem_drop]
  unfold wd
  rw [show (a+(i:Int)).toNat=a.toNat+i by omega,List.getElem?_eq_getElem (by omega)]
  rfl
end
theorem Uu {t x:Tr} (h:x∈t.Kids):SizeOf.sizeOf x < SizeOf.sizeOf t:=by
 obtain ⟨k,w,ks⟩:=t
 have:=List.sizeOf_lt_of_mem h
 simp only [Za.mk.sizeOf_spec]
 simp only at this
 omega
theorem Zxb {α R:Type} (xs:List α) (step:Int→Option (Int ⊕ R)) (p:α→Bool) (e o:R) (hl:(xs.length:Int)≤140737488355328)
  (h1:∀ (i:Nat) (x:α),i < xs.length→xs[i]? = some x→x∈xs→step i=some (if p x=true then .inr e else .inl (IntKind.i64.wrap ((i:Int)+1)))) (h2:step xs.length=some (.inr o)):Zv step 0=some (if xs.any p=true then e else o):=by
 have hloop:=Ya0 xs (fun i (_:Unit)=>i) step (fun _ x=>some (if p x=true then .inr e else .inl ())) (fun _=>o) (fun i s x hi hx=>by
  rw [h1 i x hi hx (List.mem_of_getElem? hx),Yz (by omega) (by omega)]
  cases p x <;> rfl) (fun _=>h2) ()
 refine hloop.trans ?_
 rw [Zww p (fun s _=>s) e (fun _ _=>True) xs.length xs () 0 (by omega) trivial (fun s k x _ _ _=>⟨by cases p x <;> rfl,fun _=>trivial⟩)]
def tr {α:Type} (p:α→Bool):List α→List α
 | []=>[]
 | x::xs=>match tr p xs with
  | []=>if p x=true then [] else [x]
  | y::ys=>x::y::ys
def trN {α:Type} (p:α→Bool) (l:List α):Nat→Nat
 | 0=>0
 | n+1=>match l[n]? with
  | some x=>if p x=true then trN p l n else n+1
  | none=>0
theorem Ztx {α:Type} {p:α→Bool} {x:α} (h:p x=true):∀ l:List α,tr p (l++[x])=tr p l
 | []=>by simp [tr,h]
 | y::l=>by simp only [List.cons_append,tr,Ztx h l]
theorem Ztw {α:Type} {p:α→Bool} {x:α} (h:p x=false):∀ l:List α,tr p (l++[x])=l++[x]
 | []=>by simp [tr,h]
 | y::l=>by
  simp only [List.cons_append,tr,Ztw h l]
  cases hl:l++[x] with
  | nil=>simp at hl
  | cons a b=>rfl
theorem Ztc {α:Type} {p:α→Bool} {l:List α}:∀ n,n≤l.length→l.take (trN p l n)=tr p (l.take n)∧trN p l n≤n
 | 0,_=>by simp [trN,tr]
 | n+1,h=>by
  have hn:l[n]? = some l[n]:=List.getElem?_eq_getElem (by omega)
  have e:l.take (n+1)=l.take n++[l[n]]:=by rw [List.take_add_one,hn];rfl
  obtain ⟨h1,h2⟩:=Ztc (p:=p) (l:=l) n (by omega)
  unfold trN
  rw [hn]
  simp only
  split
  ·rename_i hp
   rw [e,Ztx hp]
   exact ⟨h1,by omega⟩
  rename_i hp
  rw [e,Ztw (by simpa using hp),← e]
  exact ⟨rfl,Nat.le_refl _⟩
theorem Zc6 {α:Type} (p:α→Bool):∀ l:List α,(tr p l).length≤l.length
 | []=>by simp [tr]
 | x::l=>by
  have:=Zc6 p l
  simp only [tr]
  split
  ·split <;> simp
  rename_i y ys he
  rw [he] at this
  simp at this ⊢
  omega
theorem Zfq {α:Type} {p:α→Bool} {x:α}:∀ {l:List α},x∈tr p l→x∈l
 | [],h=>by simp [tr] at h
 | y::l,h=>by
  simp only [tr] at h
  split at h
  ·split at h
   ·simp at h
   simp at h;simp [h]
  rename_i z zs he
  rw [← he] at h
  rcases List.mem_cons.1 h with h | h
  ·simp [h]
  exact List.mem_cons_of_mem _ (Zfq h)
theorem Zzj {α:Type} {p:α→Bool}:∀ l:List α,tr p (tr p l)=tr p l
 | []=>rfl
 | x::l=>by
  have ih:=Zzj (p:=p) l
  simp only [tr]
  cases h:tr p l with
  | nil =>
   simp only
   cases hx:p x <;> simp [tr,hx]
  | cons y ys =>
   rw [h] at ih
   simp only [tr] at ih ⊢
   rw [ih]
theorem Z7j {α β:Type} {p:α→Bool} {q:β→Bool} {f:α→β} (h:∀ x,q (f x)=p x):∀ l:List α,tr q (l.map f)=(tr p l).map f
 | []=>rfl
 | x::l=>by
  simp only [List.map_cons,tr,Z7j h l]
  cases tr p l with
  | nil=>simp only [List.map_nil,h];split <;> rfl
  | cons y ys=>rfl
theorem Zux {α:Type} (l:List α) (p:α→Bool) (step:Int→Option (Int ⊕ Int)) (hl:(l.length:Int)≤140737488355328)
  (h0:step 0=some (.inr 0)) (h1:∀ (n:Nat) (x:α),l[n]? = some x→n < l.length→step ((n+1:Nat):Int)=some (if p x=true then .inl (n:Int) else .inr ((n+1:Nat):Int))):Zv step (l.length:Int)=some (trN p l l.length:Int):=by
 have key:∀ n:Nat,n≤l.length→Zv step (n:Int)=some (trN p l n:Int):=fun n=>by
  induction n with
  | zero=>intro _;exact Z4 h0
  | succ n ih =>
   intro hn
   have hx:l[n]? = some l[n]:=List.getElem?_eq_getElem (by omega)
   have h:=h1 n _ hx (by omega)
   unfold trN
   rw [hx]
   simp only
   split
   ·rename_i hp
    rw [if_pos hp] at h
    rw [Yd h]
    exact ih (by omega)
   rename_i hp
   rw [if_neg hp] at h
   exact Z4 h
 exact key l.length (Nat.le_refl _)
theorem Zql {α:Type} {l:List α} {n:Nat} (h:n≤l.length):Zfo l 0 (n:Int)=some (l.take n):=by
 rw [Zvl (by omega) (by omega) (by omega)]
 simp
theorem Yjp {n:Nat}:decide (0 < ((n+1:Nat):Int))=true:=by rw [decide_eq_true_eq];omega
theorem Z3g {l:List Int} (hl:(l.length:Int)≤140737488355328):Zbm l=some (tr (fun x=>x == 0) l):=by
 have hloop:=Zux l (fun x=>x == 0) (U3 l) hl (by unfold U3;rfl) (fun n x hx hn=>by
  unfold U3
  rw [Yjp,cond_true,Yz (by omega) (by omega)]
  have e:((n+1:Nat):Int) - 1=(n:Int):=by omega
  rw [e,Yk hx]
  simp only [Option.bind_some,cond_true]
  cases x == 0 <;> rfl)
 obtain ⟨h1,h2⟩:=Ztc (p:=fun x=>x == 0) (l:=l) l.length (Nat.le_refl _)
 unfold Zbm
 rw [hloop,Option.bind_some,Zql h2,Option.bind_some,h1,List.take_length]
theorem Z5r {l:List Tr} (hl:(l.length:Int)≤140737488355328):Zb8 l=some (tr (fun x=>x.Kind == 0) l):=by
 have hloop:=Zux l (fun x=>x.Kind == 0) (Gy l) hl (by unfold Gy;rfl) (fun n x hx hn=>by
  unfold Gy
  rw [Yjp,cond_true,Yz (by omega) (by omega)]
  have e:((n+1:Nat):Int) - 1=(n:Int):=by omega
  rw [e,Yk hx]
  simp only [Option.bind_some,cond_true]
  cases x.Kind == 0 <;> rfl)
 obtain ⟨h1,h2⟩:=Ztc (p:=fun x=>x.Kind == 0) (l:=l) l.length (Nat.le_refl _)
 unfold Zb8
 rw [hloop,Option.bind_some,Zql h2,Option.bind_some,h1,List.take_length]
theorem Yd5 {l:List Int} (hl:l.length * 8≤140737488355328):Zar l=some (tr (fun x=>x == 0) l):=by
 have hloop:=Zux l (fun x=>x == 0) (Uh l) (by omega) (by unfold Uh;rfl) (fun n x hx hn=>by
  unfold Uh
  rw [Yjp,cond_true,Yz (by omega) (by omega)]
  have e:((n+1:Nat):Int) - 1=(n:Int):=by omega
  rw [e,Yk hx]
  simp only [Option.bind_some,cond_true]
  cases x == 0 <;> rfl)
 obtain ⟨h1,h2⟩:=Ztc (p:=fun x=>x == 0) (l:=l) l.length (Nat.le_refl _)
 have h3:=Zc6 (fun x=>x == 0) l
 unfold Zar
 rw [hloop,Option.bind_some,Zql h2,Option.bind_some,h1,List.take_length,J5 (by rw [List.length_nil];omega) (by rw [List.length_nil];omega)]
 rfl
inductive Bd:Tr→Prop
 | mk (t:Tr) (h1:t.Words.length * 8≤140737488355328) (h2:t.Kids.length * 56≤140737488355328) (h3:∀ w∈t.Words,0≤w∧w < 18446744073709551616) (h4:∀ k∈t.Kids,Bd k):Bd t
theorem Bd.w {t:Tr} (h:Bd t):t.Words.length * 8≤140737488355328:=by cases h;assumption
theorem Bd.k {t:Tr} (h:Bd t):t.Kids.length * 56≤140737488355328:=by cases h;assumption
theorem Bd.u {t:Tr} (h:Bd t):∀ w∈t.Words,0≤w∧w < 18446744073709551616:=by cases h;assumption
theorem Bd.all {t:Tr} (h:Bd t):∀ k∈t.Kids,Bd k:=by cases h;assumption
def nrm (t:Tr):Tr :=
 if t.Kind=0 then ⟨0,[],[]⟩
 else if t.Kind=1 then ⟨1,tr (fun x=>x == 0) t.Words,tr (fun x=>x.Kind == 0) (t.Kids.attach.map fun k=>nrm k.1)⟩
 else ⟨t.Kind,t.Words,t.Kids.attach.map fun k=>nrm k.1⟩
termination_by SizeOf.sizeOf t
decreasing_by all_goals exact Uu k.2
theorem Zho (t:Tr):nrm t=if t.Kind=0 then ⟨0,[],[]⟩ else if t.Kind=1 then ⟨1,tr (fun x=>x == 0) t.Words,tr (fun x=>x.Kind == 0) (t.Kids.map nrm)⟩ else ⟨t.Kind,t.Words,t.Kids.map nrm⟩:=by
 rw [nrm]
 simp only [List.attach_map_val]
theorem U5 (t:Tr):(nrm t).Kind=t.Kind:=by
 rw [Zho]
 split
 ·rename_i h;exact h.symm
 split
 ·rename_i h;exact h.symm
 rfl
theorem Yem {α β:Type} {xs:List α} {f:α→β} {z:β} {i m:Nat} {x:α} (hi:i+(m+1)=xs.length) (hx:xs[i]? = some x) :
  ((xs.take i).map f++List.replicate (m+1) z).set i (f x)=(xs.take (i+1)).map f++List.replicate m z:=by
 have hl:((xs.take i).map f).length=i:=by rw [List.length_map,List.length_take];omega
 rw [List.set_append,if_neg (by omega),hl,Nat.sub_self,List.replicate_succ,List.set_cons_zero,List.take_add_one,hx]
 simp
theorem Yc6 {α β:Type} (xs:List α) (f:α→β) (z:β) (step:Int×List β→Option ((Int×List β) ⊕ List β)) (hl:(xs.length:Int)≤140737488355328)
  (h1:∀ (i:Nat) (x:α) (out:List β) (y:β),i < xs.length→xs[i]? = some x→x∈xs→out[i]? = some y→step ((i:Int),out)=some (.inl (IntKind.i64.wrap ((i:Int)+1),Zic out (i:Int) (f x))))
  (h2:∀ out,step ((xs.length:Int),out)=some (.inr out)):Zv step (0,List.replicate xs.length z)=some (xs.map f):=by
 have key:∀ m i,i+m=xs.length→Zv step ((i:Int),(xs.take i).map f++List.replicate m z)=some (xs.map f):=fun m=>by
  induction m with
  | zero =>
   intro i hi
   have hi':i=xs.length:=by omega
   subst hi'
   rw [List.take_length,List.replicate_zero,List.append_nil]
   exact Z4 (h2 _)
  | succ m ih =>
   intro i hi
   have hx:xs[i]? = some xs[i]:=List.getElem?_eq_getElem (by omega)
   have hl':((xs.take i).map f).length=i:=by rw [List.length_map,List.length_take];omega
   have hy:((xs.take i).map f++List.replicate (m+1) z)[i]? = some z:=by
    rw [List.getElem?_append_right (by omega),hl',Nat.sub_self,List.replicate_succ];rfl
   have h:=h1 i _ _ z (by omega) hx (List.mem_of_getElem? hx) hy
   rw [Yz (by omega) (by omega)] at h
   rw [Yd h]
   unfold Zic
   rw [Int.toNat_natCast,Yem (by omega) hx]
   exact ih (i+1) (by omega)
 have:=key xs.length 0 (by omega)
 simpa using this
theorem Z8h:∀ (k:Nat) (t:Tr),Bd t→SizeOf.sizeOf t < k→Gb k t=some (nrm t)
 | 0,t,_,h=>by omega
 | k+1,t,hb,hk=>by
  have ih:∀ x∈t.Kids,Gb k x=some (nrm x):=fun x hx=>Z8h k x (hb.all x hx) (by have:=Uu hx;omega)
  have hw:=hb.w
  have hkd:=hb.k
  show Zfu (Gb k) t=_
  unfold Zfu
  rw [Zho]
  by_cases h0:t.Kind=0
  ·rw [if_pos h0,h0];rfl
  have e0:(t.Kind == 0)=false:=by rw [beq_eq_false_iff_ne];exact h0
  rw [if_neg h0,e0,cond_false]
  have main:∀ (w:List Int) (ks:List Tr),(ks.length:Int)≤140737488355328→(56:Int) * ks.length≤140737488355328→(∀ x∈ks,Gb k x=some (nrm x)) →
    ((cond (decide (0 < ((w,ks).2.length:Int))) ((Zlb 56 ((w,ks).2.length:Int) (⟨(0:Int),([]:(List Int)),([]:(List Za))⟩:Za)).bind fun l6=>some l6) (some ([]:List Za))).bind fun (z5:(List Za))=>(Zv (Zbd (Gb k) (w,ks)) (0,z5)).bind fun (z14:(List Za))=>some (⟨t.Kind,(w,ks).1,z14⟩:Za))=some ⟨t.Kind,w,ks.map nrm⟩:=fun w ks h1 h2 hks=>by
   have hz:(cond (decide (0 < ((w,ks).2.length:Int))) ((Zlb 56 ((w,ks).2.length:Int) (⟨(0:Int),([]:(List Int)),([]:(List Za))⟩:Za)).bind fun l6=>some l6) (some ([]:List Za)))=some (List.replicate ks.length (⟨0,[],[]⟩:Tr)):=by
    cases ks with
    | nil=>rfl
    | cons y ys =>
     have:decide (0 < (((w,y::ys).2.length:Nat):Int))=true:=by rw [decide_eq_true_eq];simp
     rw [this,cond_true,Z4s (Int.natCast_nonneg _) h2 h1,Option.bind_some,Int.toNat_natCast]
   rw [hz,Option.bind_some]
   rw [Yc6 ks nrm _ (Zbd (Gb k) (w,ks)) h1 (fun i x out z hi hx hm hz=>by
     unfold Zbd
     simp only
     rw [Vz hi,cond_true,Yk hx,Option.bind_some,hks x hm,Option.bind_some,Yk hz,Option.bind_some]) (fun out=>by
     unfold Zbd
     simp only
     rw [Zdd,cond_false]),Option.bind_some]
  by_cases h1:t.Kind=1
  ·have e1:(t.Kind == 1)=true:=by rw [beq_iff_eq];exact h1
   have l1:=Zc6 (fun x:Tr=>x.Kind == 0) t.Kids
   rw [if_pos h1,e1,cond_true,Z3g (by omega),Option.bind_some,Z5r (by omega),Option.bind_some,Option.bind_some]
   rw [main _ _ (by omega) (by omega) (fun x hx=>ih x (Zfq hx)),Z7j (fun x=>by rw [U5]),h1]
  have e1:(t.Kind == 1)=false:=by rw [beq_eq_false_iff_ne];exact h1
  rw [if_neg h1,e1,cond_false,Option.bind_some]
  exact main _ _ (by omega) (by omega) ih
theorem Yf1 {t:Tr} (h:Bd t):Zl5 t=some (nrm t):=Zep (SizeOf.sizeOf t+1) fun k hk=>Z8h k t h (by omega)
theorem Zeb {α:Type} {p:α→Bool} {x:α} {l:List α} (h:tr p l=[]):tr p (x::l)=if p x=true then [] else [x]:=by simp only [tr,h]
theorem Zh7 {α:Type} {p:α→Bool} {x:α} {l:List α} (h:tr p l≠[]):tr p (x::l)=x::tr p l:=by
 simp only [tr]
 split
 ·rename_i h';exact absurd h' h
 rename_i h';rw [h']
theorem Z76:∀ (l:List Tr) (n:Nat) (acc:Int),(l.zipIdx n).foldl (fun a p=>if p.1.Kind=0 then a else ((p.2+1:Nat):Int)) acc=if (tr (fun x=>x.Kind == 0) l).length=0 then acc else ((n+(tr (fun x=>x.Kind == 0) l).length:Nat):Int)
 | [],n,acc=>by simp [tr]
 | x::l,n,acc=>by
  rw [List.zipIdx_cons,List.foldl_cons,Z76 l (n+1)]
  by_cases h:tr (fun x=>x.Kind == 0) l=[]
  ·rw [Zeb h,h]
   by_cases hx:x.Kind=0
   ·simp [hx]
   simp [hx]
  have h':(tr (fun x=>x.Kind == 0) l).length≠0:=by simpa using h
  rw [Zh7 h,if_neg h',List.length_cons,if_neg (by omega)]
  congr 1
  omega
theorem Z99 {α:Type} (p:α→Bool) (l:List α):l.take (tr p l).length=tr p l:=by
 obtain ⟨h1,h2⟩:=Ztc (p:=p) (l:=l) l.length (Nat.le_refl _)
 rw [List.take_length] at h1
 rw [← h1,List.length_take]
 congr 1
 omega
theorem Yeb {k:Nat} {t:Tr} (hl:t.Kids.length * 56≤140737488355328) (ih:∀ x∈t.Kids,X7 k x=some (nrm x)) :
  Zv (Jn (X7 k) t) (0,0,[])=some (if (tr (fun x=>x.Kind == 0) (t.Kids.map nrm)).length=0 then 0 else ((tr (fun x=>x.Kind == 0) (t.Kids.map nrm)).length:Int),t.Kids.map nrm):=by
 have key:∀ (l pre:List Tr) (a:Int),t.Kids=pre++l→Zv (Jn (X7 k) t) (a,((pre.length:Nat):Int),pre.map nrm)=some (((l.map nrm).zipIdx pre.length).foldl (fun a p=>if p.1.Kind=0 then a else ((p.2+1:Nat):Int)) a,t.Kids.map nrm):=fun l=>by
  induction l with
  | nil =>
   intro pre a hp
   rw [List.append_nil] at hp
   refine Z4 ?_
   unfold Jn
   simp only
   rw [hp,Zdd,cond_false]
   rfl
  | cons x l ihl =>
   intro pre a hp
   have hx:t.Kids[pre.length]? = some x:=by rw [hp,List.getElem?_append_right (Nat.le_refl _),Nat.sub_self];rfl
   have hi:pre.length < t.Kids.length:=by rw [hp];simp
   have hm:x∈t.Kids:=List.mem_of_getElem? hx
   have hs:Jn (X7 k) t (a,((pre.length:Nat):Int),pre.map nrm)=some (.inl (if x.Kind=0 then a else ((pre.length+1:Nat):Int),(((pre++[x]).length:Nat):Int),(pre++[x]).map nrm)):=by
    unfold Jn
    simp only
    rw [Vz hi,cond_true,Yk hx,Option.bind_some,ih x hm,Option.bind_some,J5 (by simp;omega) (by simp;omega),Option.bind_some,Yz (by omega) (by omega),U5]
    have e:((pre.length:Nat):Int)+1=((pre.length+1:Nat):Int):=by omega
    rw [e]
    by_cases h0:x.Kind=0
    ·simp [h0]
    have:(x.Kind != 0)=true:=by simp [h0]
    rw [this,cond_true]
    simp [h0]
   rw [Yd hs,ihl (pre++[x]) _ (by rw [hp];simp)]
   simp only [List.map_cons,List.zipIdx_cons,List.foldl_cons,List.length_append,List.length_singleton,U5]
 have:=key t.Kids [] 0 rfl
 rw [Z76] at this
 simpa using this
theorem Z5k:∀ (k:Nat) (t:Tr),Bd t→SizeOf.sizeOf t < k→X7 k t=some (nrm t)
 | 0,t,_,h=>by omega
 | k+1,t,hb,hk=>by
  have ih:∀ x∈t.Kids,X7 k x=some (nrm x):=fun x hx=>Z5k k x (hb.all x hx) (by have:=Uu hx;omega)
  have hw:=hb.w
  have hkd:=hb.k
  show Zaj (X7 k) t=_
  unfold Zaj
  rw [Zho]
  by_cases h0:t.Kind=0
  ·rw [if_pos h0,h0];rfl
  have e0:(t.Kind == 0)=false:=by rw [beq_eq_false_iff_ne];exact h0
  rw [if_neg h0,e0,cond_false,Yeb hkd ih,Option.bind_some]
  by_cases h1:t.Kind=1
  ·have e1:(t.Kind == 1)=true:=by rw [beq_iff_eq];exact h1
   rw [if_pos h1,e1,cond_true,Yd5 hw,Option.bind_some]
   have l1:=Zc6 (fun x:Tr=>x.Kind == 0) (t.Kids.map nrm)
   have l2:(if (tr (fun x=>x.Kind == 0) (t.Kids.map nrm)).length=0 then (0:Int) else ((tr (fun x=>x.Kind == 0) (t.Kids.map nrm)).length:Int))=((tr (fun x=>x.Kind == 0) (t.Kids.map nrm)).length:Int):=by
    split
    ·rename_i h;rw [h];rfl
    rfl
   simp only [l2]
   rw [Zql l1,Option.bind_some,Z99]
  have e1:(t.Kind == 1)=false:=by rw [beq_eq_false_iff_ne];exact h1
  rw [if_neg h1,e1,cond_false,J5 (by rw [List.length_nil];omega) (by rw [List.length_nil];omega)]
  rfl
theorem Zxr {t:Tr} (h:Bd t):Uo t=some (nrm t):=Zep (SizeOf.sizeOf t+1) fun k hk=>Z5k k t h (by omega)
theorem Ydk:∀ (n:Nat) (t:Tr),SizeOf.sizeOf t < n→Bd t→Bd (nrm t)
 | 0,t,h,_=>by omega
 | n+1,t,hn,hb=>by
  have ih:∀ x∈t.Kids,Bd (nrm x):=fun x hx=>Ydk n x (by have:=Uu hx;omega) (hb.all x hx)
  have hw:=hb.w
  have hk:=hb.k
  rw [Zho]
  split
  ·exact .mk _ (by simp) (by simp) (fun w h=>by simp at h) (fun w h=>by simp at h)
  split
  ·have l1:=Zc6 (fun x:Int=>x == 0) t.Words
   have l2:=Zc6 (fun x:Tr=>x.Kind == 0) (t.Kids.map nrm)
   rw [List.length_map] at l2
   refine .mk _ (by simp only;omega) (Nat.le_trans (Nat.mul_le_mul_right 56 l2) hk) (fun w h=>hb.u w (Zfq h)) (fun x h => ?_)
   obtain ⟨y,hy,rfl⟩:=List.mem_map.1 (Zfq h)
   exact ih y hy
  refine .mk _ hw (by simp only [List.length_map];exact hk) hb.u (fun x h => ?_)
  obtain ⟨y,hy,rfl⟩:=List.mem_map.1 h
  exact ih y hy
theorem Bd.nrm {t:Tr} (h:Bd t):Bd (nrm t):=Ydk _ t (Nat.lt_succ_self _) h
theorem Zy2:∀ (n:Nat) (t:Tr),SizeOf.sizeOf t < n→nrm (nrm t)=nrm t
 | 0,t,h=>by omega
 | n+1,t,hn=>by
  have ih:∀ x∈t.Kids,nrm (nrm x)=nrm x:=fun x hx=>Zy2 n x (by have:=Uu hx;omega)
  have em:∀ l:List Tr,(∀ x∈l,x∈t.Kids)→(l.map nrm).map nrm=l.map nrm:=fun l hl=>by
   rw [List.map_map]
   exact List.map_congr_left fun x hx=>ih x (hl x hx)
  rw [Zho t]
  by_cases h0:t.Kind=0
  ·rw [if_pos h0,Zho];simp
  rw [if_neg h0]
  by_cases h1:t.Kind=1
  ·rw [if_pos h1,Zho]
   simp only [if_neg (show ¬ (1:Int)=0 by decide),if_true]
   have q1:∀ l:List Tr,tr (fun x:Tr=>x.Kind == 0) (l.map nrm)=(tr (fun x:Tr=>x.Kind == 0) l).map nrm:=Z7j (fun x=>by rw [U5])
   rw [Zzj,q1,Zzj,q1,em _ (fun x hx=>Zfq hx)]
  rw [if_neg h1,Zho]
  simp only
  rw [if_neg h0,if_neg h1,em _ (fun x hx=>hx)]
theorem Z0l (t:Tr):nrm (nrm t)=nrm t:=Zy2 _ t (Nat.lt_succ_self _)
def eqT (a b:Tr):Bool:=a.Kind == b.Kind && (a.Words == b.Words && (a.Kids.length == b.Kids.length && (a.Kids.attach.zip b.Kids).all fun p=>eqT p.1.1 p.2))
termination_by SizeOf.sizeOf a
decreasing_by exact Uu p.1.2
def eqL:List Tr→List Tr→Bool
 | [],[]=>true
 | x::xs,y::ys=>eqT x y && eqL xs ys
 | _,_=>false
theorem Yaf:∀ (l m:List Tr) (P:Tr→Prop) (l':List {x // P x}),l'.map (·.1)=l→(l.length == m.length && (l'.zip m).all fun p=>eqT p.1.1 p.2)=eqL l m
 | [],[],P,l',h=>by cases l' <;> simp_all [eqL]
 | [],y::m,P,l',h=>by cases l' <;> simp_all [eqL]
 | x::l,[],P,l',h=>by cases l' <;> simp_all [eqL]
 | x::l,y::m,P,l',h=>by
  cases l' with
  | nil=>simp at h
  | cons z l' =>
   simp only [List.map_cons,List.cons.injEq] at h
   have ih:=Yaf l m P l' h.2
   simp only [List.length_cons,List.zip_cons_cons,List.all_cons,eqL,h.1]
   rw [← ih]
   have:(l.length+1 == m.length+1)=(l.length == m.length):=by simp
   rw [this]
   cases l.length == m.length <;> cases eqT x y <;> rfl
theorem Z6e (a b:Tr):eqT a b=(a.Kind == b.Kind && (a.Words == b.Words && eqL a.Kids b.Kids)):=by
 rw [eqT,Yaf a.Kids b.Kids (·∈a.Kids) a.Kids.attach (by simp)]
theorem Z35 (x y:Tr) (xs ys:List Tr):eqL (x::xs) (y::ys)=(eqT x y && eqL xs ys):=rfl
theorem Zyp:∀ (n:Nat) (a b:Tr),SizeOf.sizeOf a < n→(eqT a b=true↔a=b)
 | 0,a,b,h=>by omega
 | n+1,a,b,hn=>by
  have ih:∀ x∈a.Kids,∀ y,eqT x y=true↔x=y:=fun x hx y=>Zyp n x y (by have:=Uu hx;omega)
  have hl:∀ (l m:List Tr),(∀ x∈l,x∈a.Kids)→(eqL l m=true↔l=m):=fun l=>by
   induction l with
   | nil=>intro m _;cases m <;> simp [eqL]
   | cons x l ihl =>
    intro m hm
    cases m with
    | nil=>simp [eqL]
    | cons y m=>rw [Z35,Bool.and_eq_true,ih x (hm x (.head _)) y,ihl m (fun z hz=>hm z (.tail _ hz)),List.cons.injEq]
  rw [Z6e,Bool.and_eq_true,Bool.and_eq_true,hl a.Kids b.Kids (fun x hx=>hx),beq_iff_eq,beq_iff_eq]
  obtain ⟨k,w,ks⟩:=a
  obtain ⟨k',w',ks'⟩:=b
  simp
theorem eqT_iff {a b:Tr}:eqT a b=true↔a=b:=Zyp _ a b (Nat.lt_succ_self _)
theorem Yb1:∀ (a b:List Int),a.length=b.length→(a.zip b).any (fun p=>p.1 != p.2) = !(a == b)
 | [],[],_=>rfl
 | [],_::_,h=>by simp at h
 | _::_,[],h=>by simp at h
 | x::a,y::b,h=>by
  have ih:=Yb1 a b (by simpa using h)
  rw [List.zip_cons_cons,List.any_cons,ih]
  by_cases hxy:x=y
  ·subst hxy;simp
  simp [bne,hxy]
theorem Yc7 {R:Type} (a b:List Int) (step:Int→Option (Int ⊕ R)) (e o:R) (hab:a.length=b.length) (hl:(a.length:Int)≤140737488355328)
  (h1:∀ (i:Nat) (x y:Int),i < a.length→a[i]? = some x→b[i]? = some y→step i=some (if (x != y)=true then .inr e else .inl (IntKind.i64.wrap ((i:Int)+1)))) (h2:step a.length=some (.inr o)) :
  Zv step 0=some (if (a == b)=true then o else e):=by
 have hz:(a.zip b).length=a.length:=by rw [List.length_zip];omega
 have:=Zxb (a.zip b) step (fun p=>p.1 != p.2) e o (by rw [hz];exact hl) (fun i p hi hp hm=>by
  rw [hz] at hi
  have ha:a[i]? = some a[i]:=List.getElem?_eq_getElem hi
  have hb:b[i]? = some b[i]:=List.getElem?_eq_getElem (by omega)
  have:p=(a[i],b[i]):=by
   rw [List.getElem?_eq_getElem (by rw [hz];exact hi)] at hp
   injection hp with hp
   rw [← hp,List.getElem_zip]
  subst this
  exact h1 i _ _ hi ha hb) (by rw [hz];exact h2)
 rw [this,Yb1 a b hab]
 cases a == b <;> rfl
theorem Ycy {a b:Nat}:((a:Int) != (b:Int)) = !(a == b):=by
 rw [Bool.eq_iff_iff];simp;omega
theorem Yfe {a b:List Int} (h:¬ a.length=b.length):(a == b)=false:=by
 rw [beq_eq_false_iff_ne];intro e;exact h (by rw [e])
theorem Yeh {a b:List Int} (h:(a.length:Int)≤140737488355328):Zap a b=some (a == b):=by
 unfold Zap
 rw [Ycy]
 by_cases hab:a.length=b.length
 ·have:(!(a.length == b.length))=false:=by simp [hab]
  rw [this,cond_false,Yc7 a b (Ug a b) (.inl ()) (.inr ()) hab h (fun i x y hi hx hy=>by
   unfold Ug
   rw [Vz hi,cond_true,Yk hx,Option.bind_some,Yk hy,Option.bind_some]
   cases x != y <;> rfl) (by unfold Ug;rw [Zdd];rfl)]
  cases a == b <;> rfl
 have:(!(a.length == b.length))=true:=by simp [hab]
 rw [this,cond_true,Yfe hab]
theorem Yhf (q:Tr→Tr→Bool):∀ (a b:List Tr),(a.zip b).any (fun p => !q p.1 p.2) = !((a.zip b).all fun p=>q p.1 p.2)
 | [],b=>by simp
 | x::a,[]=>by simp
 | x::a,y::b=>by rw [List.zip_cons_cons,List.any_cons,Yhf q a b,List.all_cons];cases q x y <;> rfl
theorem Ya2 {R:Type} (a b:List Tr) (q:Tr→Tr→Bool) (step:Int→Option (Int ⊕ R)) (e o:R) (hab:a.length=b.length) (hl:(a.length:Int)≤140737488355328)
  (h1:∀ (i:Nat) (x y:Tr),i < a.length→a[i]? = some x→b[i]? = some y→x∈a→y∈b→step i=some (if (!q x y)=true then .inr e else .inl (IntKind.i64.wrap ((i:Int)+1)))) (h2:step a.length=some (.inr o)) :
  Zv step 0=some (if ((a.zip b).all fun p=>q p.1 p.2)=true then o else e):=by
 have hz:(a.zip b).length=a.length:=by rw [List.length_zip];omega
 have:=Zxb (a.zip b) step (fun p => !q p.1 p.2) e o (by rw [hz];exact hl) (fun i p hi hp hm=>by
  rw [hz] at hi
  have ha:a[i]? = some a[i]:=List.getElem?_eq_getElem hi
  have hb:b[i]? = some b[i]:=List.getElem?_eq_getElem (by omega)
  have:p=(a[i],b[i]):=by
   rw [List.getElem?_eq_getElem (by rw [hz];exact hi)] at hp
   injection hp with hp
   rw [← hp,List.getElem_zip]
  subst this
  exact h1 i _ _ hi ha hb (List.getElem_mem _) (List.getElem_mem _)) (by rw [hz];exact h2)
 rw [this,Yhf q a b]
 cases (a.zip b).all fun p=>q p.1 p.2 <;> rfl
theorem Z3t:∀ (a b:List Tr),a.length=b.length→((a.zip b).all fun p=>eqT p.1 p.2)=eqL a b
 | [],[],_=>rfl
 | [],_::_,h=>by simp at h
 | _::_,[],h=>by simp at h
 | x::a,y::b,h=>by
  have ih:=Z3t a b (by simpa using h)
  rw [List.zip_cons_cons,List.all_cons,ih];rfl
theorem Z7u:∀ (a b:List Tr),a.length≠b.length→eqL a b=false
 | [],[],h=>by simp at h
 | [],_::_,_=>rfl
 | _::_,[],_=>rfl
 | x::a,y::b,h=>by rw [Z35,Z7u a b (by simpa using h),Bool.and_false]
theorem Z80:∀ (k:Nat) (a b:Tr),Bd a→Bd b→SizeOf.sizeOf a < k→Ko k a b=some (eqT a b)
 | 0,a,b,_,_,h=>by omega
 | k+1,a,b,ha,hb,hk=>by
  have ih:∀ x∈a.Kids,∀ y∈b.Kids,Ko k x y=some (eqT x y):=fun x hx y hy=>Z80 k x y (ha.all x hx) (hb.all y hy) (by have:=Uu hx;omega)
  have hw:=ha.w
  have hkd:=ha.k
  show Zak (Ko k) a b=_
  unfold Zak
  rw [Z6e,Yeh (by omega),Option.bind_some,Ycy]
  by_cases h0:a.Kind=b.Kind
  ·have e0:(a.Kind != b.Kind)=false:=by simp [h0]
   have e1:(a.Kind == b.Kind)=true:=by simp [h0]
   rw [e0,e1,cond_false,cond_false,Option.bind_some,Bool.true_and]
   cases hw':a.Words == b.Words with
   | false=>rfl
   | true =>
    rw [Bool.not_true,cond_false,Bool.true_and]
    by_cases hab:a.Kids.length=b.Kids.length
    ·have:(!(a.Kids.length == b.Kids.length))=false:=by simp [hab]
     rw [this,cond_false,Ya2 a.Kids b.Kids eqT (Ua (Ko k) a b) (.inl ()) (.inr ()) hab (by omega) (fun i x y hi hx hy hmx hmy=>by
      unfold Ua
      rw [Vz hi,cond_true,Yk hx,Option.bind_some,Yk hy,Option.bind_some,ih x hmx y hmy,Option.bind_some]
      cases eqT x y <;> rfl) (by unfold Ua;rw [Zdd];rfl)]
     rw [Z3t a.Kids b.Kids hab]
     cases eqL a.Kids b.Kids <;> rfl
    have:(!(a.Kids.length == b.Kids.length))=true:=by simp [hab]
    rw [this,cond_true,Z7u _ _ hab]
  have e0:(a.Kind != b.Kind)=true:=by simp [h0]
  have e1:(a.Kind == b.Kind)=false:=by simp [h0]
  rw [e0,e1];rfl
theorem Z1f {a b:Tr} (ha:Bd a) (hb:Bd b):Zaq a b=some (eqT a b):=Zep (SizeOf.sizeOf a+1) fun k hk=>Z80 k a b ha hb (by omega)
theorem Zy8 {a b:Tr} (ha:Bd a) (hb:Bd b):Ks a b=some (eqT (nrm a) (nrm b)):=by
 unfold Ks
 rw [Zxr ha,Option.bind_some,Zxr hb,Option.bind_some,Z1f ha.nrm hb.nrm,Option.bind_some]
theorem Zca {t:Tr} (h:t.Kind=0):nrm t=⟨0,[],[]⟩:=by rw [Zho,if_pos h]
theorem Qy {t:Tr} (h:t.Kind=1):nrm t=⟨1,tr (fun x=>x == 0) t.Words,tr (fun x=>x.Kind == 0) (t.Kids.map nrm)⟩:=by rw [Zho,if_neg (by rw [h];decide),if_pos h]
theorem Ui {t:Tr} (h0:¬ t.Kind=0) (h1:¬ t.Kind=1):nrm t=⟨t.Kind,t.Words,t.Kids.map nrm⟩:=by rw [Zho,if_neg h0,if_neg h1]
def pt (t:Tr):Nat:=1+t.Words.length+(t.Kids.attach.map fun k=>pt k.1).sum
termination_by SizeOf.sizeOf t
decreasing_by exact Uu k.2
theorem Zcl (t:Tr):pt t=1+t.Words.length+(t.Kids.map pt).sum:=by
 rw [pt]
 simp only [List.attach_map_val]
theorem Zxv:∀ (k:Nat) (t:Tr) (d left:Int),Bd t→SizeOf.sizeOf t < k→0≤d→d≤100→0≤left→left≤1000000→∃ r,Xb k t d left=some r∧-1≤r∧r≤1000000∧(0≤r→r+pt t≤left)
 | 0,t,_,_,_,h,_,_,_,_=>by omega
 | k+1,t,d,left,hb,hk,hd0,hd1,hl0,hl1=>by
  have ih:∀ x∈t.Kids,∀ d left:Int,0≤d→d≤100→0≤left→left≤1000000→∃ r,Xb k x d left=some r∧-1≤r∧r≤1000000∧(0≤r→r+pt x≤left):=fun x hx d left=>Zxv k x d left (hb.all x hx) (by have:=Uu hx;omega)
  have hw:=hb.w
  have hkd:=hb.k
  show ∃ r,Qq (Xb k) t d left=some r∧_
  unfold Qq
  rw [Yz (x:=left - 1) (by omega) (by omega),Yz (by omega) (by omega),Zcl]
  cases hc:cond (d == 0) true (decide (left - 1 - (t.Words.length:Int) < 0)) with
  | true=>exact ⟨-1,rfl,by omega,by omega,fun h=>by omega⟩
  | false =>
   rw [cond_false]
   have hd:¬ d=0∧0≤left - 1 - (t.Words.length:Int):=by
    by_cases h:d=0
    ·simp [h] at hc
    have e:(d == 0)=false:=by simp [h]
    rw [e,cond_false,decide_eq_false_iff_not] at hc
    exact ⟨h,by omega⟩
   obtain ⟨r,h1,h2⟩:=Zdg (step:=Qj (Xb k) t d)
    (fun s=>∃ j:Nat,s.2=j∧j≤t.Kids.length∧-1≤s.1∧s.1≤1000000∧(0≤s.1→s.1+(((t.Kids.take j).map pt).sum:Nat)≤left - 1 - (t.Words.length:Int)))
    (fun s=>t.Kids.length - s.2.toNat) (fun r=>-1≤r∧r≤1000000∧(0≤r→r+((t.Kids.map pt).sum:Nat)≤left - 1 - (t.Words.length:Int))) (fun s hI=>by
     obtain ⟨l,i⟩:=s
     obtain ⟨j,rfl,hj,g1,g2,g3⟩:=hI
     simp only at g1 g2 g3 ⊢
     unfold Qj
     simp only
     by_cases hji:j < t.Kids.length
     ·rw [Vz hji,cond_true]
      by_cases hl:0≤l
      ·have e:decide (0≤l)=true:=by simp [hl]
       have hx:t.Kids[j]? = some t.Kids[j]:=List.getElem?_eq_getElem hji
       obtain ⟨r,q1,q2,q3,q4⟩:=ih t.Kids[j] (List.getElem_mem hji) (d - 1) l (by omega) (by omega) hl g2
       rw [e,cond_true,Yk hx,Option.bind_some,Yz (by omega) (by omega),q1,Option.bind_some,Yz (by omega) (by omega)]
       refine .inl ⟨_,rfl,⟨j+1,by simp only;omega,by omega,q2,q3,fun hr => ?_⟩,by simp only;omega⟩
       have:=q4 hr
       have:=g3 hl
       rw [List.take_add_one,hx]
       simp only [Option.toList_some,List.map_append,List.map_cons,List.map_nil,List.sum_append,List.sum_cons,List.sum_nil]
       simp only at hr
       omega
      have e:decide (0≤l)=false:=by simp [hl]
      rw [e,cond_false]
      exact .inr ⟨l,rfl,g1,g2,fun h=>absurd h hl⟩
     have hj':j=t.Kids.length:=by omega
     subst hj'
     rw [Zdd,cond_false]
     rw [List.take_length] at g3
     exact .inr ⟨l,rfl,g1,g2,g3⟩) (left - 1 - (t.Words.length:Int),0) ⟨0,rfl,Nat.zero_le _,by simp only;omega,by simp only;omega,fun _=>by simp⟩
   rw [h1]
   refine ⟨r,rfl,h2.1,h2.2.1,fun hr => ?_⟩
   have:=h2.2.2 hr
   omega
theorem Zjf {α:Type} {xs:List α} {i:Int} {x:α} (h:Xj xs i=some x):x∈xs:=List.mem_of_getElem? (Zo7 h)
theorem Zqe:∀ (k k':Nat) (t:Tr) (d left:Int),SizeOf.sizeOf t < k→SizeOf.sizeOf t < k'→Xb k t d left=Xb k' t d left
 | 0,_,t,_,_,h,_=>by omega
 | k+1,0,t,_,_,_,h=>by omega
 | k+1,k'+1,t,d,left,h,h'=>by
  show Qq (Xb k) t d left=Qq (Xb k') t d left
  have e:Qj (Xb k) t d=Qj (Xb k') t d:=funext fun s=>by
   unfold Qj
   cases hx:Xj t.Kids s.2 with
   | none=>rfl
   | some x=>simp only [Option.bind_some,Zqe k k' x (IntKind.i64.wrap (d - 1)) s.1 (by have:=Uu (Zjf hx);omega) (by have:=Uu (Zjf hx);omega)]
  unfold Qq
  rw [e]
def wt (t:Tr):Nat :=
 if t.Kind=0 then 0 else if t.Kind=10 then 1
 else (if t.Kind=1 then 1+(t.Words.length+t.Kids.length) else if t.Kind=8 then 1+t.Kids.length else 1)+(t.Kids.attach.map fun k=>wt k.1).sum
termination_by SizeOf.sizeOf t
decreasing_by all_goals exact Uu k.2
theorem Zx1 (t:Tr):wt t=if t.Kind=0 then 0 else if t.Kind=10 then 1 else (if t.Kind=1 then 1+(t.Words.length+t.Kids.length) else if t.Kind=8 then 1+t.Kids.length else 1)+(t.Kids.map wt).sum:=by
 rw [wt]
 simp only [List.attach_map_val]
theorem Z1k {α:Type} {f g:α→Nat}:∀ l:List α,(∀ x∈l,f x≤g x)→(l.map f).sum≤(l.map g).sum
 | [],_=>by simp
 | x::l,h=>by
  have:=Z1k l fun y hy=>h y (.tail _ hy)
  have:=h x (.head _)
  simp only [List.map_cons,List.sum_cons]
  omega
theorem Zxw {α:Type} (f:α→Nat):∀ l:List α,(l.map fun x=>f x+1).sum=(l.map f).sum+l.length
 | []=>by simp
 | x::l=>by
  have:=Zxw f l
  simp only [List.map_cons,List.sum_cons,List.length_cons,this]
  omega
theorem Z1l {α:Type} (f:α→Nat) (c:Nat):∀ l:List α,(l.map fun x=>c * f x).sum=c * (l.map f).sum
 | []=>by simp
 | x::l=>by
  have:=Z1l f c l
  simp only [List.map_cons,List.sum_cons,this,Nat.mul_add]
theorem Z73 {α:Type} {f:α→Nat} {x:α}:∀ {l:List α},x∈l→f x≤(l.map f).sum
 | y::l,h=>by
  simp only [List.map_cons,List.sum_cons]
  rcases List.mem_cons.1 h with rfl | h
  ·omega
  have:=Z73 (f:=f) h
  omega
theorem Zz9 {t x:Tr} (h:x∈t.Kids):pt x≤pt t:=by
 rw [Zcl t]
 have:=Z73 (f:=pt) h
 omega
theorem Yeu {α:Type} (p:α→Bool) (f:α→Nat):∀ l:List α,((tr p l).map f).sum≤(l.map f).sum
 | []=>by simp [tr]
 | x::l=>by
  have ih:=Yeu p f l
  simp only [tr]
  split
  ·split <;> simp
  rename_i y ys he
  rw [he] at ih
  simp only [List.map_cons,List.sum_cons] at ih ⊢
  omega
theorem Ydz:∀ (n:Nat) (t:Tr),SizeOf.sizeOf t < n→pt (nrm t)≤pt t
 | 0,t,h=>by omega
 | n+1,t,hn=>by
  have ih:∀ x∈t.Kids,pt (nrm x)≤pt x:=fun x hx=>Ydz n x (by have:=Uu hx;omega)
  have h1:((t.Kids.map nrm).map pt).sum≤(t.Kids.map pt).sum:=by
   rw [List.map_map]
   exact Z1k (f:=pt ∘ nrm) (g:=pt) t.Kids ih
  by_cases h0:t.Kind=0
  ·rw [Zca h0,Zcl,Zcl t];simp;omega
  by_cases hk:t.Kind=1
  ·have l1:=Zc6 (fun x:Int=>x == 0) t.Words
   have l3:=Yeu (fun x:Tr=>x.Kind == 0) pt (t.Kids.map nrm)
   rw [Qy hk,Zcl,Zcl t]
   exact Nat.add_le_add (Nat.add_le_add (Nat.le_refl _) l1) (Nat.le_trans l3 h1)
  rw [Ui h0 hk,Zcl,Zcl t]
  exact Nat.add_le_add (Nat.le_refl _) h1
section
variable {A:Zn}
theorem Z6m {f:Zb→Int→Tr×Int×Int} {g:Int→Zb×Int} {Q:Tr→Prop} (hQ:∀ i left,Q (f (g i).1 left).1):∀ (m i:Nat) (left:Int) (acc:List Tr),(∀ t∈acc,Q t)→(∀ t∈(Yq f g m i left acc).1,Q t)∧(Yq f g m i left acc).1.length≤acc.length+m
 | 0,i,left,acc,h=>⟨h,Nat.le_refl _⟩
 | m+1,i,left,acc,h=>by
  rw [Yq]
  split
  ·exact ⟨h,by simp only;omega⟩
  split
  ·exact ⟨h,by simp only;omega⟩
  obtain ⟨h1,h2⟩:=Z6m hQ m (i+1) (f (g i).1 left).2.1 (acc++[(f (g i).1 left).1]) fun t ht=>by
   rcases List.mem_append.1 ht with ht | ht
   ·exact h t ht
   rw [List.mem_singleton] at ht;subst ht;exact hQ i left
  exact ⟨h1,by rw [List.length_append,List.length_singleton] at h2;omega⟩
theorem Yf2 {w c j:Int} (hw:0≤w∧w < 18446744073709551616):0≤Z0m w c j∧Z0m w c j < 18446744073709551616:=by
 unfold Z0m
 have h1:w.toNat / 2 ^ (j * wdt c).toNat % 2 ^ (wdt c).toNat≤w.toNat / 2 ^ (j * wdt c).toNat:=Nat.mod_le _ _
 have h2:w.toNat / 2 ^ (j * wdt c).toNat≤w.toNat:=Nat.div_le_self _ _
 omega
theorem Zj3 (hw:WS A.segments) (r:Zb):∀ w∈Y6 A r,0≤w∧w < 18446744073709551616:=by
 unfold Y6
 split
 ·intro w hm
  rw [List.mem_singleton] at hm
  subst hm
  unfold Zx7
  split
  ·omega
  exact Yf2 (Zlh hw _ _)
 split
 ·exact fun w hm=>Yej hw _ w (List.mem_of_mem_drop (List.mem_of_mem_take hm))
 exact fun w hm=>by cases hm
theorem Zec {r:Zb} (h:OKr A r):(Y6 A r).length≤65536:=by
 unfold Y6
 cases h with
 | z=>simp [r0]
 | st s a d p hd hp hin=>simp only [show ¬ (1:Int)=10 from by decide,if_false,if_true,List.length_take];omega
 | li k s a n hk hn hin=>simp only;rw [if_neg (by omega),if_neg (by omega)];simp
 | co=>simp
 | at_=>simp
theorem Yfw (hw:WS A.segments):∀ (d:Nat) r left,OKr A r→0≤left→left≤65536→Bd (U4 A d r left).1:=fun d=>by
 have key:∀ (f:Zb→Int→Tr×Int×Int),True:=fun _=>trivial
 clear key
 have hst:∀ (f:Zb→Int→Tr×Int×Int),(∀ r left,OKr A r→Bd (f r left).1)→∀ r left,OKr A r→r.ptrs≤65536→Bd (stK A f r left).1:=fun f hf r left hr hp=>by
  unfold stK
  have:=Z6m (f:=f) (g:=Yo A r) (Q:=Bd) (fun i left=>hf _ left (Vd hr i)) r.ptrs.toNat 0 left [] (by simp)
  refine .mk _ (by simp only;have:=Zec hr;omega) (by simp only;have:=this.2;simp only [List.length_nil] at this;omega) (Zj3 hw r) this.1
 have main:∀ r left,OKr A r→Bd (U4 A d r left).1:=by
  induction d using Nat.strongRecOn with
  | ind d ih =>
   intro r left hr
   have hbad:∀ r left,Bd (bad r left).1:=fun r left => .mk _ (by simp [bad]) (by simp [bad]) (by simp [bad]) (by simp [bad])
   have hP:∀ k,1≤k→∀ r left,OKr A r→Bd (Y5 A k d r left).1:=fun k hk r left hr=>by
    unfold Y5
    split
    ·exact ih _ (by omega) r left hr
    exact hbad _ _
   rw [Zfs]
   unfold Ze7
   have hwl:=Zec hr
   split
   ·exact .mk _ (by simp only;omega) (by simp) (Zj3 hw r) (by simp)
   split
   ·exact .mk _ (by simp only;omega) (by simp) (Zj3 hw r) (by simp)
   have hkn:=Uy hr
   have hQ:∀ (i:Int) left,Bd (Vc A (Y5 A 1 d) (Y5 A 2 d) r (Yo A r i).1 left).1:=fun i left=>by
    unfold Vc
    split
    ·rename_i k9
     have hkr:=Vd hr i
     refine hst _ (fun r left hr=>hP 2 (by omega) r left hr) _ _ hkr ?_
     cases hkr':(Yo A r i).1 with
     | mk a b c d e f g h j =>
      rw [hkr'] at hkr
      cases hkr with
      | z=>simp
      | st s a d p hd hp hin=>simp only;omega
      | li k s a n hk=>simp
      | co s a d p n hd hp hn=>simp only;omega
      | at_=>simp
    split
    ·exact hP 1 (by omega) _ _ (Vd hr i)
    unfold Zgj
    have:=Zec (Vd hr i)
    exact .mk _ (by simp only;omega) (by simp) (Zj3 hw _) (by simp)
   have:=Z6m (f:=Vc A (Y5 A 1 d) (Y5 A 2 d) r) (g:=Yo A r) (Q:=Bd) hQ (Ye r).toNat 0 (left - wtR r) [] (by simp)
   refine .mk _ (by simp only;omega) ?_ (Zj3 hw r) this.1
   have h2:=this.2
   simp only [List.length_nil] at h2 ⊢
   omega
 exact fun r left hr _ _=>main r left hr
end
def uwR (r:Zb):Int:=if r.kind=0 then 0 else if r.kind=1 then 1+r.words+r.ptrs else if r.kind=8 then 1+r.count else 1
section
variable {A:Zn}
theorem Z7l {r:Zb} (h:OKr A r):Zb9 r=some (uwR r):=by
 have hk:Xf r=some r.kind:=rfl
 unfold Zb9 uwR
 rw [hk,Zjx,Zdv,Option.bind_some]
 cases h with
 | z=>rfl
 | st s a d p hd hp hin =>
  simp only [Zbq,Ye,if_true,show ((1:Int) == 0)=false from rfl,show ((1:Int) == 1)=true from rfl,cond_false,cond_true,Option.bind_some,show ¬ (1:Int)=0 from by decide,if_false]
  rw [Yz (x:=1+d) (by omega) (by omega),Yz (by omega) (by omega)]
 | li k s a n hk' hn hin =>
  simp only [Ye]
  rw [show (k == 0)=false from Za7 (by omega),show (k == 1)=false from Za7 (by omega),if_neg (show ¬ k=1 by omega),if_neg (show ¬ k=0 by omega),if_neg (show ¬ k=1 by omega),cond_false,cond_false]
  by_cases k8:k=8
  ·rw [if_pos k8,show (k == 8)=true from by rw [k8];rfl,cond_true,Option.bind_some,Yz (by omega) (by omega)]
  rw [if_neg k8,show (k == 8)=false from Za7 k8,cond_false]
 | co s a d p n hd hp hn hwx hin=>rfl
 | at_ s a c i n hc h0 h1 hn hin=>rfl
theorem Ydi (r:Zb):Zcx r=some (decide (1≤r.kind∧r.kind≤9)):=by
 have hk:Xf r=some r.kind:=rfl
 unfold Zcx Zcw
 rw [hk,Option.bind_some]
 by_cases k1:r.kind=1
 ·rw [show (r.kind == 1)=true from by rw [k1];rfl,cond_true,Option.bind_some,decide_eq_true (show 1≤r.kind∧r.kind≤9 by omega)]
 rw [show (r.kind == 1)=false from Za7 k1,cond_false]
 simp only [Option.bind_some,cond_false]
 congr 1
 by_cases h2:2≤r.kind
 ·rw [decide_eq_true h2,cond_true,decide_eq_decide];omega
 rw [decide_eq_false h2,cond_false,decide_eq_false (show ¬ (1≤r.kind∧r.kind≤9) by omega)]
theorem Ybp (hw:WS A.segments) {r:Zb} (h:OKr A r):Zv (Xv r (Zbq r)) (0,([]:List Int))=some (Y6 A r):=by
 have hl:=Zia hw h
 have hle:=Zec h
 have key:∀ (k i:Nat),i+k=(Y6 A r).length→Zv (Xv r (Zbq r)) ((i:Int),(Y6 A r).take i)=some (Y6 A r):=fun k=>by
  induction k with
  | zero =>
   intro i hi
   refine Z4 ?_
   unfold Xv
   simp only
   rw [show decide ((i:Int) < Zbq r)=false from by rw [decide_eq_false_iff_not];omega,cond_false,List.take_of_length_le (by omega)]
  | succ k ih =>
   intro i hi
   have h1:i < (Y6 A r).length:=by omega
   have hs:Xv r (Zbq r) ((i:Int),(Y6 A r).take i)=some (.inl (((i+1:Nat):Int),(Y6 A r).take (i+1))):=by
    unfold Xv
    simp only
    rw [show decide ((i:Int) < Zbq r)=true from by rw [decide_eq_true_eq];omega,cond_true,Zsc hw h,Option.bind_some,J5 (by simp only [List.length_singleton,List.length_take];omega) (by simp only [List.length_singleton,List.length_take];omega),Option.bind_some,Yz (by omega) (by omega),← Zng hw h h1,List.take_add_one,List.getElem?_eq_getElem h1]
    rfl
   rw [Yd hs]
   exact ih (i+1) (by omega)
 have:=key (Y6 A r).length 0 (by omega)
 rw [List.take_zero,show (((0:Nat):Int))=0 from rfl] at this
 exact this
theorem Z5t (hw:WS A.segments) {f1:Z7→Zb→Int→Option (Tr×Int×Z7)} {f:Zb→Int→Tr×Int×Int} (hf:Lf A f) {r:Zb} (hr:OKr A r) (n:Nat) (hn:Ye r=(n:Int)) (hn2:n≤1073741824) {X D:Int} (hX:0≤X) (hD:1≤D∧D≤1000)
  (hF:∀ (i:Nat) (l L:Int),i < n→(Yo A r i).2=0→0≤l∧l≤65536→(f (Yo A r i).1 l).2.2=0→l - (f (Yo A r i).1 l).2.1+X≤L→L≤65536→f1 ⟨L⟩ (Yo A r i).1 (D - 1)=some ((f (Yo A r i).1 l).1,0,⟨L - (l - (f (Yo A r i).1 l).2.1+X)⟩)):∀ (m i:Nat) (left L:Int) (acc:List Tr),i+m=n→acc.length=i→0≤left∧left≤65536→(Yq f (Yo A r) m i left acc).2.2=0→left - (Yq f (Yo A r) m i left acc).2.1+(m:Int) * X≤L→L≤65536 →
  Zv (Xp f1 r D (Ye r)) ((i:Int),acc,L)=some (.inr ((Yq f (Yo A r) m i left acc).1,L - (left - (Yq f (Yo A r) m i left acc).2.1+(m:Int) * X)))
 | 0,i,left,L,acc,hi,ha,hl,hq,hL,hL2=>by
  refine Z4 ?_
  unfold Xp
  simp only
  rw [show decide ((i:Int) < Ye r)=false from by rw [decide_eq_false_iff_not];omega,cond_false]
  simp only [Yq]
  congr 4
  simp
 | m+1,i,left,L,acc,hi,ha,hl,hq,hL,hL2=>by
  rw [Yq] at hq hL ⊢
  by_cases h1:(Yo A r i).2≠0
  ·rw [if_pos h1] at hq;exact absurd hq h1
  rw [if_neg h1] at hq hL ⊢
  by_cases h2:(f (Yo A r i).1 left).2.2≠0
  ·rw [if_pos h2] at hq;exact absurd hq h2
  rw [if_neg h2] at hq hL ⊢
  have h1':(Yo A r i).2=0:=by omega
  have h2':(f (Yo A r i).1 left).2.2=0:=by omega
  obtain ⟨b1,b2⟩:=hf _ _ (Vd hr i) hl.1 h2'
  obtain ⟨c1,c2⟩:=Zo8 hf (fun i=>Vd hr i) m (i+1) (f (Yo A r i).1 left).2.1 (acc++[(f (Yo A r i).1 left).1]) b1 hq
  have hmX:(((m+1:Nat):Int)) * X=(m:Int) * X+X:=by rw [show (((m+1:Nat):Int))=(m:Int)+1 by omega,Int.add_mul,Int.one_mul]
  have hmn:0≤(m:Int) * X:=Int.mul_nonneg (by omega) hX
  rw [hmX] at hL ⊢
  have hk:=hF i left L (by omega) h1' hl h2' (by omega) hL2
  have hs:Xp f1 r D (Ye r) ((i:Int),acc,L)=some (.inl (((i+1:Nat):Int),acc++[(f (Yo A r i).1 left).1],L - (left - (f (Yo A r i).1 left).2.1+X))):=by
   unfold Xp
   simp only
   rw [show decide ((i:Int) < Ye r)=true from by rw [decide_eq_true_eq];omega,cond_true,Zz8 hw hr,Option.bind_some,bne_eq_false_iff_eq.2 h1',cond_false,Yz (x:=D - 1) (by omega) (by omega),hk,Option.bind_some]
   simp only
   rw [show ((0:Int) != 0)=false from rfl,cond_false,J5 (by simp only [List.length_singleton];omega) (by simp only [List.length_singleton];omega),Option.bind_some,Yz (by omega) (by omega)]
   rfl
  rw [Yd hs,Z5t hw hf hr n hn hn2 hX hD hF m (i+1) _ _ _ (by omega) (by rw [List.length_append,ha];rfl) ⟨b1,by omega⟩ hq (by omega) (by omega)]
  refine congrArg some (congrArg Sum.inr (Prod.ext rfl ?_))
  simp only
  omega
theorem Zwi (hw:WS A.segments) {f1:Z7→Zb→Int→Option (Tr×Int×Z7)} {f:Zb→Int→Tr×Int×Int} (hf:Lf A f) {r:Zb} (hr:OKr A r) {X D left L:Int} (hX:0≤X) (hD:0≤D∧D≤1000) (hD1:1≤r.kind∧r.kind≤9→1≤D) (hl:0≤left∧left≤65536)
  (hq:(Yq f (Yo A r) (Ye r).toNat 0 left []).2.2=0) (hL:uwR r+(left - (Yq f (Yo A r) (Ye r).toNat 0 left []).2.1+Ye r * X)≤L) (hL2:L≤65536)
  (hF:1≤D→∀ (i:Nat) (l L:Int),i < (Ye r).toNat→(Yo A r i).2=0→0≤l∧l≤65536→(f (Yo A r i).1 l).2.2=0→l - (f (Yo A r i).1 l).2.1+X≤L→L≤65536→f1 ⟨L⟩ (Yo A r i).1 (D - 1)=some ((f (Yo A r i).1 l).1,0,⟨L - (l - (f (Yo A r i).1 l).2.1+X)⟩)) :
  Xy f1 ⟨L⟩ r D=some (⟨r.kind,Y6 A r,(Yq f (Yo A r) (Ye r).toNat 0 left []).1⟩,0,⟨L - (uwR r+(left - (Yq f (Yo A r) (Ye r).toNat 0 left []).2.1+Ye r * X))⟩):=by
 have hkk:Xf r=some r.kind:=rfl
 have hkn:=Uy hr
 have hg:=Zo8 hf (fun i=>Vd hr i) (Ye r).toNat 0 left [] hl.1 hq
 have hmn:0≤Ye r * X:=Int.mul_nonneg hkn.1 hX
 have hu:0≤uwR r:=by
  cases hr with
  | z=>simp [uwR,r0]
  | st s a d p hd hp hin=>simp [uwR];omega
  | li k s a n hk hn hin=>simp only [uwR];rw [if_neg (by omega),if_neg (by omega)];split <;> omega
  | co=>simp [uwR]
  | at_=>simp [uwR]
 unfold Xy
 rw [Z7l hr,Option.bind_some,Ydi,Yz (x:=L - uwR r) (by omega) (by omega)]
 have e1:(cond (decide (L - uwR r < 0)) (some true) (cond (D == 0) ((some (decide (1≤r.kind∧r.kind≤9))).bind fun y6=>some (cond (decide (L - uwR r < 0)) true (cond (D == 0) y6 false))) (some (cond (decide (L - uwR r < 0)) true false))))=some false:=by
  rw [decide_eq_false (show ¬ L - uwR r < 0 by omega),cond_false]
  by_cases d0:D=0
  ·rw [show (D == 0)=true from by rw [d0];rfl,cond_true,Option.bind_some,cond_true,decide_eq_false (show ¬ (1≤r.kind∧r.kind≤9) from fun q=>by have:=hD1 q;omega)]
   rfl
  rw [show (D == 0)=false from Za7 d0];rfl
 rw [e1,Option.bind_some,cond_false,hkk,Option.bind_some,Zjx,Option.bind_some,Ybp hw hr,Option.bind_some,Zdv,Option.bind_some]
 by_cases hk0:Ye r=0
 ·-- no kids
  have e2:Zv (Xp f1 r D (Ye r)) (0,([]:List Tr),L - uwR r)=some (.inr ([],L - uwR r)):=by
   refine Z4 ?_
   unfold Xp
   simp only
   rw [hk0]
   rfl
  rw [e2,Option.bind_some,hk0]
  simp only [show ((0:Int).toNat)=0 from rfl,Yq]
  congr 4
  omega
 have hD':1≤D:=hD1 (by
  cases hr with
  | z=>simp [Ye,r0] at hk0
  | st=>simp
  | li k s a n hk=>simp only;omega
  | co=>simp
  | at_=>simp [Ye] at hk0)
 have hL1:=Z5t hw hf hr (Ye r).toNat (by omega) (by omega) hX ⟨hD',hD.2⟩ (hF hD') (Ye r).toNat 0 left (L - uwR r) [] (by omega) rfl hl hq (by rw [show (((Ye r).toNat:Nat):Int)=Ye r by omega];omega) (by omega)
 rw [show (((0:Nat):Int))=0 from rfl,show (((Ye r).toNat:Nat):Int)=Ye r by omega] at hL1
 rw [hL1,Option.bind_some]
 simp only
 congr 4
 omega
theorem Yov {r:Zb} (h:OKr A r):wtR r=uwR r+Ye r * (if r.kind=9 then 1+r.words+r.ptrs else if r.kind=1∨r.kind=8 then 0 else if r.kind=0 then 0 else 1):=by
 cases h with
 | z=>simp [wtR,uwR,Ye,r0]
 | st s a d p hd hp hin=>simp [wtR,uwR]
 | co s a d p n hd hp hn hwx hin=>simp [wtR,uwR,Ye]
 | at_=>simp [wtR,uwR,Ye]
 | li k s a n hk hn hin =>
  have:k=2∨k=3∨k=4∨k=5∨k=6∨k=7∨k=8:=by omega
  rcases this with rfl | rfl | rfl | rfl | rfl | rfl | rfl <;> simp [wtR,uwR,Ye]
theorem Z4k {r:Zb} (hk:r.kind=9) {i:Int} (h:0≤i∧i < Ye r):(Yo A r i).1.words=r.words∧(Yo A r i).1.ptrs=r.ptrs:=by
 unfold Yo
 rw [if_neg (by omega),if_neg (by omega),if_neg (by omega),if_pos hk]
 exact ⟨rfl,rfl⟩
theorem Zsn {r:Zb} (hk:2≤r.kind∧r.kind≤7) {i:Int} (h:0≤i∧i < Ye r):(Yo A r i).1.kind=10∧Ye (Yo A r i).1=0:=by
 unfold Yo
 rw [if_neg (by omega),if_neg (by omega),if_neg (by omega),if_neg (by omega)]
 exact ⟨rfl,rfl⟩
theorem Z7k (hw:WS A.segments):∀ (K:Nat),(∀ (d:Nat) r (left L D:Int),OKr A r→0≤left∧left≤65536→(U4 A d r left).2.2=0→left - (U4 A d r left).2.1≤L→L≤65536→(d:Int)≤D→D≤1000→d+2≤K→r.kind≠10→Ys K ⟨L⟩ r D=some ((U4 A d r left).1,0,⟨L - (left - (U4 A d r left).2.1)⟩)) ∧
  (∀ (d:Nat) r (left L D:Int),OKr A r→r.kind=1→0≤left∧left≤65536→(stK A (U4 A d) r left).2.2=0→left - (stK A (U4 A d) r left).2.1+(1+r.words+r.ptrs)≤L→L≤65536→(d:Int)+1≤D→D≤1000→d+3≤K→Ys K ⟨L⟩ r D=some ((stK A (U4 A d) r left).1,0,⟨L - (left - (stK A (U4 A d) r left).2.1+(1+r.words+r.ptrs))⟩)) ∧
  (∀ r (left L D:Int),OKr A r→r.kind=10→Ye r=0→1≤L→L≤65536→0≤D→D≤1000→1≤K→Ys K ⟨L⟩ r D=some ((Zgj A r left).1,0,⟨L - 1⟩))
 | 0=>⟨fun d r left L D _ _ _ _ _ _ _ h=>by omega,fun d r left L D _ _ _ _ _ _ _ _ h=>by omega,fun r left L D _ _ _ _ _ _ _ h=>by omega⟩
 | K+1=>by
  obtain ⟨i1,i2,i3⟩:=Z7k hw K
  refine ⟨fun d r left L D hr hl hq hL hL2 hdD hD hK h10 => ?_,fun d r left L D hr k1 hl hq hL hL2 hdD hD hK => ?_,fun r left L D hr k10 hk0 hL hL2 hD0 hD hK => ?_⟩
  ·show Xy (Ys K) ⟨L⟩ r D=_
   have hwt:=Yae hw hr
   have hkd:=Z75 hr
   have hkn:=Uy hr
   have hwu:=Yov hr
   rw [Zfs] at hq hL ⊢
   unfold Ze7 at hq hL ⊢
   by_cases k0:r.kind=0
   ·rw [if_pos k0] at hq hL ⊢
    have hz:Ye r=0:=by
     cases hr with
     | z=>rfl
     | st=>simp at k0
     | li k s a n hk=>simp only at k0;omega
     | co=>simp at k0
     | at_=>simp at k0
    have huz:uwR r=0:=by unfold uwR;rw [if_pos k0]
    have:=Zwi hw (f1:=Ys K) (f:=bad) Zw7 hr (X:=0) (D:=D) (left:=left) (L:=L) (by omega) ⟨by omega,hD⟩ (fun q=>by omega) hl (by rw [hz];rfl) (by rw [hz,huz];simp only [show ((0:Int).toNat)=0 from rfl,Yq];simp only at hL;omega) hL2 (fun _ i l L hi=>by rw [hz] at hi;simp at hi)
    rw [this,hz,huz]
    simp only [show ((0:Int).toNat)=0 from rfl,Yq]
    congr 4
    omega
   rw [if_neg k0] at hq hL ⊢
   by_cases hb:(d:Int) < lvR r∨left < wtR r
   ·rw [if_pos hb] at hq;simp at hq
   rw [if_neg hb] at hq hL ⊢
   simp only at hq hL ⊢
   have hlv:1≤(d:Int):=by
    have:1≤lvR r:=by unfold lvR;rw [if_neg k0];split <;> omega
    omega
   have hlf:Lf A (Vc A (Y5 A 1 d) (Y5 A 2 d) r):=Z0g (Zpd hw 1 d) (Zpd hw 2 d) r
   obtain ⟨X,hXe⟩:∃ X,(if r.kind=9 then 1+r.words+r.ptrs else if r.kind=1∨r.kind=8 then 0 else if r.kind=0 then 0 else 1)=X:=⟨_,rfl⟩
   rw [hXe] at hwu
   have hX0:0≤X:=by
    rw [← hXe]
    cases hr with
    | z=>simp [r0]
    | st=>simp
    | li k s a n hk =>
     simp only
     repeat' split
     all_goals omega
    | co s a d p n hd hp=>simp;omega
    | at_=>simp
   have hkey:=Zwi hw (f1:=Ys K) hlf hr hX0 (D:=D) (left:=left - wtR r) (L:=L) ⟨by omega,hD⟩ (fun _=>by omega) ⟨by omega,by omega⟩ hq (by omega) hL2 (fun hD1 i l L hi he hl hq2 hL hL2=>by
    by_cases k9:r.kind=9
    ·have hkf:Vc A (Y5 A 1 d) (Y5 A 2 d) r=stK A (Y5 A 2 d):=by unfold Vc;rw [if_pos k9]
     have hkc:Ye r=r.count:=by unfold Ye;rw [if_neg (by omega)]
     have hd2:2≤d:=by
      have:lvR r=2:=by unfold lvR;rw [if_neg k0,if_pos ⟨k9,by omega⟩]
      omega
     have hm2:Y5 A 2 d=U4 A (d - 2):=by unfold Y5;rw [if_pos hd2]
     rw [hkf,hm2] at hq2 hL ⊢
     obtain ⟨w1,w2⟩:=Z4k (A:=A) k9 (i:=(i:Int)) ⟨by omega,by omega⟩
     have hX:X=1+(Yo A r i).1.words+(Yo A r i).1.ptrs:=by rw [← hXe,if_pos k9,w1,w2]
     rw [hX] at hL ⊢
     exact i2 (d - 2) _ l L (D - 1) (Vd hr i) (Zl3 k9 ⟨by omega,by omega⟩) hl hq2 hL hL2 (by omega) (by omega) (by omega)
    by_cases k18:r.kind=1∨r.kind=8
    ·have hkf:Vc A (Y5 A 1 d) (Y5 A 2 d) r=Y5 A 1 d:=by unfold Vc;rw [if_neg k9,if_pos k18]
     have hm1:Y5 A 1 d=U4 A (d - 1):=by unfold Y5;rw [if_pos (by omega)]
     have hX:X=0:=by rw [← hXe,if_neg k9,if_pos k18]
     rw [hkf,hm1,hX,Int.add_zero] at hL ⊢
     rw [hkf,hm1] at hq2
     have hk10:(Yo A r i).1.kind≠10:=by
      unfold Yo
      rw [if_neg (by omega)]
      have hat:∀ s a,(atR A s a).1.kind≠10:=fun s a=>by
       unfold atR
       rcases Zhc A.segments s a with h | ⟨h1,hp,hk,hi⟩
       ·rw [if_pos h];simp [r0]
       rw [if_neg (by omega)]
       have hc:=hp.c
       split
       ·simp
       split
       ·simp only;split <;> simp [r0]
       simp only;omega
      rcases k18 with k | k
      ·rw [if_pos k];exact hat _ _
      rw [if_neg (by omega),if_pos k];exact hat _ _
     exact i1 (d - 1) _ l L (D - 1) (Vd hr i) hl hq2 hL hL2 (by omega) (by omega) (by omega) hk10
    have hkf:Vc A (Y5 A 1 d) (Y5 A 2 d) r=Zgj A:=by unfold Vc;rw [if_neg k9,if_neg k18]
    have hX:X=1:=by rw [← hXe,if_neg k9,if_neg k18,if_neg k0]
    rw [hkf,hX] at hL ⊢
    obtain ⟨a1,a2⟩:=Zsn (A:=A) (r:=r) (i:=(i:Int)) (by omega) ⟨by omega,by omega⟩
    have hz:l - (Zgj A (Yo A r i).1 l).2.1+1=1:=by simp only [Zgj];omega
    rw [hz] at hL ⊢
    exact i3 _ l L (D - 1) (Vd hr i) a1 a2 hL hL2 (by omega) (by omega) (by omega))
   rw [hkey]
   congr 4
   omega
  ·show Xy (Ys K) ⟨L⟩ r D=_
   have hkn:Ye r=r.ptrs:=by unfold Ye;rw [if_pos k1]
   have hu:uwR r=1+r.words+r.ptrs:=by unfold uwR;rw [if_neg (by omega),if_pos k1]
   unfold stK at hq hL ⊢
   simp only at hq hL ⊢
   rw [← hkn] at hq hL ⊢
   have hkey:=Zwi hw (f1:=Ys K) (Zpc hw d) hr (X:=0) (D:=D) (left:=left) (L:=L) (by omega) ⟨by omega,hD⟩ (fun _=>by omega) hl hq (by rw [hu];omega) hL2 (fun hD1 i l L hi he hl hq2 hL hL2=>by
    rw [Int.add_zero] at hL ⊢
    have hk10:(Yo A r i).1.kind≠10:=by
     unfold Yo
     rw [if_neg (by omega),if_pos k1]
     unfold atR
     rcases Zhc A.segments r.segment (r.at_+r.words+i) with h | ⟨h1,hp,hk,hi⟩
     ·rw [if_pos h];simp [r0]
     rw [if_neg (by omega)]
     have hc:=hp.c
     split
     ·simp
     split
     ·simp only;split <;> simp [r0]
     simp only;omega
    exact i1 d _ l L (D - 1) (Vd hr i) hl hq2 hL hL2 (by omega) (by omega) (by omega) hk10)
   rw [hkey,hu,k1]
   congr 4
   omega
  show Xy (Ys K) ⟨L⟩ r D=_
  have hu:uwR r=1:=by unfold uwR;rw [if_neg (by omega),if_neg (by omega),if_neg (by omega)]
  have hkey:=Zwi hw (f1:=Ys K) (f:=bad) Zw7 hr (X:=0) (D:=D) (left:=0) (L:=L) (by omega) ⟨hD0,hD⟩ (fun q=>by omega) (by omega) (by rw [hk0];rfl) (by rw [hk0,hu];simp only [show ((0:Int).toNat)=0 from rfl,Yq];omega) hL2 (fun _ i l L hi=>by rw [hk0] at hi;simp at hi)
  rw [hkey,hk0,hu]
  simp only [show ((0:Int).toNat)=0 from rfl,Yq,Zgj]
  congr 4
end
section
variable {A:Zn}
theorem Yb7 (s a:Int):(atR A s a).1.kind≠10:=by
 unfold atR
 rcases Zhc A.segments s a with h | ⟨h1,hp,hk,hi⟩
 ·rw [if_pos h];simp [r0]
 rw [if_neg (by omega)]
 have hc:=hp.c
 split
 ·simp
 split
 ·simp only;split <;> simp [r0]
 simp only;omega
theorem Ye0 (hw:WS A.segments) {d:Nat} (hd:d≤64) {r:Zb} (hr:OKr A r) (h10:r.kind≠10) {left:Int} (hl:0≤left∧left≤65536) (hq:(U4 A d r left).2.2=0):Gz r=some ((U4 A d r left).1,0):=by
 have hb:=Zpc hw d r left hr hl.1 hq
 have h:Uq ⟨65536⟩ r 64=some ((U4 A d r left).1,0,⟨65536 - (left - (U4 A d r left).2.1)⟩) :=
  Zep (d+2) fun k hk=>(Z7k hw k).1 d r left 65536 64 hr hl hq (by omega) (by omega) (by omega) (by omega) hk h10
 unfold Gz
 rw [h,Option.bind_some]
theorem Z3i (x:Yi):((Zja A x).2.2≠0∧(Zja A x).1=⟨0,[],[]⟩∧(Yce A x).2=(Zja A x).2.2)∨((Zja A x).2.2=0∧(Yce A x).2=0∧(atR A 0 0).2=0∧(U4 A (Zby x).Depth.toNat (atR A 0 0).1 (Zby x).Weight).2.2=0∧(Zja A x).1=(U4 A (Zby x).Depth.toNat (atR A 0 0).1 (Zby x).Weight).1):=by
 have hc:(Yce A x).2=(Zja A x).2.2:=by rw [← Yg6]
 unfold Zja at hc ⊢
 by_cases h:(atR A 0 0).2≠0
 ·rw [if_pos h] at hc ⊢
  exact .inl ⟨h,rfl,hc⟩
 rw [if_neg h] at hc ⊢
 simp only at hc ⊢
 by_cases hq:(U4 A (Zby x).Depth.toNat (atR A 0 0).1 (Zby x).Weight).2.2≠0
 ·rw [if_pos hq] at hc ⊢
  exact .inl ⟨hq,rfl,hc⟩
 rw [if_neg hq] at hc ⊢
 exact .inr ⟨rfl,hc,by omega,by omega,rfl⟩
theorem Z6v (x:Yi):(Zby x).Depth.toNat≤64∧0≤(Zby x).Weight∧(Zby x).Weight≤65536:=by
 have hd:0≤(Zby x).Depth∧(Zby x).Depth≤64:=Zoz _ _ (by decide)
 have hW:0≤(Zby x).Weight∧(Zby x).Weight≤65536:=Zoz _ _ (by decide)
 omega
theorem Yg5 (hw:WS A.segments) (x:Yi):Bd (Zja A x).1:=by
 have hl:=Z6v x
 rcases Z3i (A:=A) x with ⟨h1,h2,h3⟩ | ⟨h1,h2,h3,h4,h5⟩
 ·rw [h2];exact .mk _ (by simp) (by simp) (by simp) (by simp)
 rw [h5];exact Yfw hw _ _ _ (Zj6 0 0) hl.2.1 hl.2.2
end
end Go.Proofs.YtmlcnhambfkjaaaGreat
