/- Plain facts on this seat's mirrors (part UP); each theorem bears its own conditions. -/
import Derived.Test.YtmjjjfamipncdaaGreatUD
namespace Go.Proofs.YtmjjjfamipncdaaGreat
open Go.RowKit
set_option linter.unusedVariables false
set_option linter.unusedSimpArgs false
theorem Um {a b:Int} (h:¬ a=b):(a == b)=false:=by simp [h]
def Zsm (w:Nat):Int:=if w / 4 % 1073741824 < 536870912 then ((w / 4 % 1073741824:Nat):Int) else ((w / 4 % 1073741824:Nat):Int) - 1073741824
def Zu5 (w:Nat):Z4 :=
 if w=0 then ⟨0,0,0,0,0,0,0,false⟩
 else if w % 4=0 then ⟨1,Zsm w,(w / 4294967296 % 65536:Nat),(w / 281474976710656 % 65536:Nat),0,0,0,false⟩
 else if w % 4=1 then ⟨2,Zsm w,0,0,(w / 4294967296 % 8:Nat),(w / 34359738368 % 536870912:Nat),0,false⟩
 else if w % 4=2 then ⟨3,(w / 8 % 536870912:Nat),0,0,0,0,(w / 4294967296 % 4294967296:Nat),decide (w / 4 % 2=1)⟩
 else ⟨4,0,0,0,0,0,0,false⟩
theorem Zyl (b:Nat):((2:Int) ^ b)=((2 ^ b:Nat):Int):=by simp
theorem Zka (w f b:Nat) (hw:w < 18446744073709551616) (hf:f < 64) (hb:b≤40):Qe w f b=some ((w / 2 ^ f % 2 ^ b:Nat):Int):=by
 unfold Qe Xz
 rw [if_pos (Int.natCast_nonneg _),if_pos (Int.natCast_nonneg _)]
 simp only [Option.bind_some,Option.some.injEq]
 have hp:(2:Nat) ^ b≤1099511627776:=by have:=Nat.pow_le_pow_right (n:=2) (by decide) hb;simpa using this
 have h1:0 < (2:Nat) ^ b:=Nat.pow_pos (by decide)
 have e1:(min ((f:Int).toNat) 64)=f:=by omega
 have e2:(min ((b:Int).toNat) 64)=b:=by omega
 have hd:w / 2 ^ f < 18446744073709551616:=Nat.lt_of_le_of_lt (Nat.div_le_self _ _) hw
 have e3:((w:Int).fdiv ((2 ^ f:Nat):Int))=((w / 2 ^ f:Nat):Int):=by
  rw [Int.fdiv_eq_ediv_of_nonneg _ (Int.natCast_nonneg _),Int.natCast_ediv]
 rw [e1,e2,Zyl,Zyl,e3]
 clear e3
 generalize hq:2 ^ b=q at *
 generalize w / 2 ^ f=x at *
 rw [Int.one_mul,IntWalk.u64_in (q:Int) (by omega),IntWalk.u64_in ((q:Int) - 1) (by omega)]
 have e4:((q:Int) - 1)=((q - 1:Nat):Int):=by omega
 rw [e4,Z2t _ _ hd (by omega),← hq,Nat.and_two_pow_sub_one_eq_mod,hq]
 have:x % q < q:=Nat.mod_lt _ h1
 rw [IntWalk.u64_in _ (by omega),IntWalk.i64_in _ (by omega)]
theorem Yeu (w:Nat) (hw:w < 18446744073709551616):IntKind.i64.wrap ((IntKind.i32.wrap (IntKind.u32.wrap (w:Int))).fdiv (2 ^ min (Int.toNat 2) 32))=Zsm w:=by
 have e:(2:Int) ^ min (Int.toNat 2) 32=4:=by decide
 rw [e,Int.fdiv_eq_ediv_of_nonneg _ (by decide),IntKind.wrap_u32,IntKind.wrap_i32]
 unfold Zsm
 rw [IntWalk.i64_in _ (by omega)]
 split <;> omega
theorem Z83 (w:Nat) (hw:w < 18446744073709551616):Zb0 w=some (Zsm w):=congrArg some (Yeu w hw)
theorem Yis (w:Nat) (hw:w < 18446744073709551616):IntKind.u64.wrap (Vw .u64 w 3)=((w % 4:Nat):Int):=by
 have:=Z2t w 3 hw (by decide)
 rw [show ((3:Nat):Int)=3 from rfl] at this
 rw [this,show (3:Nat)=2 ^ 2 - 1 from rfl,Nat.and_two_pow_sub_one_eq_mod,IntWalk.u64_in _ (by omega)]
theorem Yiu (w:Nat) (hw:w < 18446744073709551616):(IntKind.u64.wrap (Vw .u64 ((w:Int).fdiv (2 ^ min (Int.toNat 2) 64)) 1) == 1)=decide (w / 4 % 2=1):=by
 have e1:(2:Int) ^ min (Int.toNat 2) 64=4:=by decide
 have e2:((w:Int).fdiv 4)=((w / 4:Nat):Int):=by rw [Int.fdiv_eq_ediv_of_nonneg _ (by decide)];rfl
 have e3:=Z2t (w / 4) 1 (by omega) (by decide)
 rw [show ((1:Nat):Int)=1 from rfl,Nat.and_one_is_mod] at e3
 rw [e1,e2,e3,IntWalk.u64_in _ (by omega)]
 by_cases h:w / 4 % 2=1
 ·rw [h];decide
 have:w / 4 % 2=0:=by omega
 rw [this];decide
theorem Zxv (a:Nat) (b:Nat):((a:Int) == (b:Int))=decide (a=b):=by
 by_cases h:a=b
 ·subst h;simp
 simp [h,Int.natCast_inj]
theorem Z7x (w:Nat) (hw:w < 18446744073709551616):Ka w=some (Zu5 w):=by
 unfold Ka
 have f1:Qe w 32 16=_:=Zka w 32 16 hw (by decide) (by decide)
 have f2:Qe w 48 16=_:=Zka w 48 16 hw (by decide) (by decide)
 have f3:Qe w 32 3=_:=Zka w 32 3 hw (by decide) (by decide)
 have f4:Qe w 35 29=_:=Zka w 35 29 hw (by decide) (by decide)
 have f5:Qe w 3 29=_:=Zka w 3 29 hw (by decide) (by decide)
 have f6:Qe w 32 32=_:=Zka w 32 32 hw (by decide) (by decide)
 have c0:((w:Int) == 0)=_:=Zxv w 0
 have c1:(((w % 4:Nat):Int) == 0)=_:=Zxv (w % 4) 0
 have c2:(((w % 4:Nat):Int) == 1)=_:=Zxv (w % 4) 1
 have c3:(((w % 4:Nat):Int) == 2)=_:=Zxv (w % 4) 2
 rw [Yis w hw,Z83 w hw,f1,f2,f3,f4,f5,f6,Yiu w hw,c0,c1,c2,c3]
 simp only [Option.bind_some]
 unfold Zu5
 by_cases h0:w=0
 ·simp [h0]
 by_cases h1:w % 4=0
 ·simp [h0,h1]
 by_cases h2:w % 4=1
 ·simp [h0,h2]
 by_cases h3:w % 4=2
 ·simp [h0,h3]
 simp [h0,h1,h2,h3]
theorem Z8r (x i:Nat):x % 2 ^ (i+1)=x % 2 ^ i+2 ^ i * (x / 2 ^ i % 2):=Nat.mod_pow_succ
theorem Zb4 (w f b:Nat) (hw:w < 18446744073709551616) (hf:f < 64) (hb:b≤40):Z7 w f b=some ((w / 2 ^ f % 2 ^ b:Nat):Int):=by
 unfold Z7
 have l0:Z6 (Vj f) ((w:Int),0)=some ((w / 2 ^ f:Nat):Int):=by
  refine Zod (fun s=>∃ i:Nat,i≤f∧s=(((w / 2 ^ i:Nat):Int),(i:Int))) (fun s=>f - s.2.toNat) ?_ _ ⟨0,by omega,by simp⟩
  rintro s ⟨i,hi,rfl⟩
  unfold Vj
  have hs:w / 2 ^ (i+1)=w / 2 ^ i / 2:=by rw [Nat.pow_succ,Nat.div_div_eq_div_mul]
  have hd:w / 2 ^ i < 18446744073709551616:=Nat.lt_of_le_of_lt (Nat.div_le_self _ _) hw
  by_cases h:i < f
  ·left
   refine ⟨(((w / 2 ^ (i+1):Nat):Int),((i+1:Nat):Int)),?_,⟨i+1,by omega,rfl⟩,by simp only;omega⟩
   have:decide ((i:Int) < f)=true:=by simp;omega
   simp only [this,cond_true]
   rw [hs]
   generalize w / 2 ^ i=y at *
   rw [Int.tdiv_eq_ediv_of_nonneg (by omega),Yci (by omega),Vv (by omega)]
   rfl
  right
  have:decide ((i:Int) < f)=false:=by simp;omega
  obtain rfl:i=f:=by omega
  simp only [this,cond_false]
 rw [l0]
 simp only [Option.bind_some]
 generalize hx:w / 2 ^ f=x at *
 have hd:x < 18446744073709551616:=by rw [← hx];exact Nat.lt_of_le_of_lt (Nat.div_le_self _ _) hw
 have l1:Z6 (Vk b) ((x:Int),0,1,0)=some ((x % 2 ^ b:Nat):Int):=by
  refine Zod (fun s=>∃ j:Nat,j≤b∧s=(((x / 2 ^ j:Nat):Int),((x % 2 ^ j:Nat):Int),((2 ^ j:Nat):Int),(j:Int))) (fun s=>b - s.2.2.2.toNat) ?_ _ ⟨0,by omega,by simp [Nat.mod_one]⟩
  rintro s ⟨j,hj,rfl⟩
  unfold Vk
  have hdj:x / 2 ^ j < 18446744073709551616:=Nat.lt_of_le_of_lt (Nat.div_le_self _ _) hd
  have hpj:(2:Nat) ^ j≤1099511627776:=by have:=Nat.pow_le_pow_right (n:=2) (by decide) (Nat.le_trans hj hb);simpa using this
  have h0:0 < (2:Nat) ^ j:=Nat.pow_pos (by decide)
  have hm:=Z8r x j
  have hs2:x / 2 ^ (j+1)=x / 2 ^ j / 2:=by rw [Nat.pow_succ,Nat.div_div_eq_div_mul]
  have hp2:(2:Nat) ^ (j+1)=2 ^ j * 2:=Nat.pow_succ ..
  have hlt:x % 2 ^ j < 2 ^ j:=Nat.mod_lt _ h0
  by_cases h:j < b
  ·left
   refine ⟨(((x / 2 ^ (j+1):Nat):Int),((x % 2 ^ (j+1):Nat):Int),((2 ^ (j+1):Nat):Int),((j+1:Nat):Int)),?_,⟨j+1,by omega,rfl⟩,by simp only;omega⟩
   have:decide ((j:Int) < b)=true:=by simp;omega
   simp only [this,cond_true]
   rw [hs2,hm,hp2]
   clear hs2 hm hp2
   generalize x / 2 ^ j=y at *
   generalize x % 2 ^ j=r at *
   generalize 2 ^ j=p at *
   rw [Int.tmod_eq_emod_of_nonneg (by omega),Int.tdiv_eq_ediv_of_nonneg (by omega)]
   by_cases hb1:y % 2=1
   ·have e:(((y:Int) % 2) == 1)=true:=by simp;omega
    rw [e,cond_true,hb1,Vv (by omega)]
    simp only [Option.bind_some]
    rw [Yci (by omega),Vv (by omega),Vv (by omega)]
    simp only [Option.some.injEq,Sum.inl.injEq,Prod.mk.injEq]
    omega
   have e:(((y:Int) % 2) == 1)=false:=by simp;omega
   have hb0:y % 2=0:=by omega
   rw [e,cond_false,hb0]
   simp only [Option.bind_some]
   rw [Yci (by omega),Vv (by omega),Vv (by omega)]
   simp only [Option.some.injEq,Sum.inl.injEq,Prod.mk.injEq]
   omega
  right
  have:decide ((j:Int) < b)=false:=by simp;omega
  obtain rfl:j=b:=by omega
  simp only [this,cond_false]
 rw [l1]
 simp only [Option.bind_some]
theorem Z6g (w:Nat) (hw:w < 18446744073709551616):Xd w=some (Zu5 w):=by
 unfold Xd
 have f0:Z7 w 2 30=_:=Zb4 w 2 30 hw (by decide) (by decide)
 have f00:Z7 w 0 2=_:=Zb4 w 0 2 hw (by decide) (by decide)
 have f1:Z7 w 32 16=_:=Zb4 w 32 16 hw (by decide) (by decide)
 have f2:Z7 w 48 16=_:=Zb4 w 48 16 hw (by decide) (by decide)
 have f3:Z7 w 32 3=_:=Zb4 w 32 3 hw (by decide) (by decide)
 have f4:Z7 w 35 29=_:=Zb4 w 35 29 hw (by decide) (by decide)
 have f5:Z7 w 3 29=_:=Zb4 w 3 29 hw (by decide) (by decide)
 have f6:Z7 w 32 32=_:=Zb4 w 32 32 hw (by decide) (by decide)
 have f7:Z7 w 2 1=_:=Zb4 w 2 1 hw (by decide) (by decide)
 have c0:((w:Int) == 0)=_:=Zxv w 0
 have c1:(((w % 4:Nat):Int) == 0)=_:=Zxv (w % 4) 0
 have c2:(((w % 4:Nat):Int) == 1)=_:=Zxv (w % 4) 1
 have c3:(((w % 4:Nat):Int) == 2)=_:=Zxv (w % 4) 2
 have c4:(((w / 4 % 2:Nat):Int) == 1)=_:=Zxv (w / 4 % 2) 1
 simp only [Nat.reducePow,Nat.div_one] at f0 f00 f1 f2 f3 f4 f5 f6 f7
 have ho:(cond (decide (536870912≤((w / 4 % 1073741824:Nat):Int))) (some (IntKind.i64.wrap (((w / 4 % 1073741824:Nat):Int) - 1073741824))) (some ((w / 4 % 1073741824:Nat):Int)))=some (Zsm w):=by
  unfold Zsm
  rw [Vv (by omega)]
  by_cases h:w / 4 % 1073741824 < 536870912
  ·have:decide (536870912≤((w / 4 % 1073741824:Nat):Int))=false:=by simp;omega
   rw [this,if_pos h,cond_false]
  have:decide (536870912≤((w / 4 % 1073741824:Nat):Int))=true:=by simp;omega
  rw [this,if_neg h,cond_true]
 rw [f0]
 simp only [Option.bind_some,ho]
 rw [f00,f1,f2,f3,f4,f5,f6,f7]
 simp only [Option.bind_some]
 rw [c0,c1,c2,c3,c4]
 unfold Zu5
 by_cases h0:w=0
 ·simp [h0]
 by_cases h1:w % 4=0
 ·simp [h0,h1]
 by_cases h2:w % 4=1
 ·simp [h0,h2]
 by_cases h3:w % 4=2
 ·simp [h0,h3]
 simp [h0,h1,h2,h3]
theorem Yag (x:Nat) (h:x < 18446744073709551616):IntKind.u64.wrap (x:Int)=(x:Int):=IntWalk.u64_in _ (by omega)
theorem Yy {x:Int} (h1:-9223372036854775808≤x) (h2:x≤9223372036854775807):IntKind.i64.wrap x=x:=Vv ⟨h1,h2⟩
theorem Zt4 {i n:Nat} (h:i < n):decide ((i:Int) < (n:Int))=true:=by rw [decide_eq_true_eq];omega
theorem Zt3 {n:Nat}:decide ((n:Int) < (n:Int))=false:=by rw [decide_eq_false_iff_not];omega
structure WS (l:List (List Int)):Prop where
 n:l.length * 24≤140737488355328
 s:∀ x∈l,x.length * 8≤140737488355328
 w:∀ x∈l,∀ w∈x,0≤w∧w < 18446744073709551616
theorem Zwf {l:List Int} (h:l.length * 8≤140737488355328):Xh l=some l:=by
 unfold Xh
 rw [Zcx (by simp only [List.length_nil];omega) (by simp only [List.length_nil];omega),List.nil_append]
theorem Z94 {α:Type} (l:List α) (n:Nat) (v:α):Xs l (n:Int) v=l.set n v:=by unfold Xs;rw [Int.toNat_natCast]
theorem Zr3 {l:List (List Int)} (h:WS l):∀ (r:List (List Int)) (i:Nat),l.drop i=r→i≤l.length →
  Z6 (K3 l) ((i:Int),l.take i++List.replicate r.length [])=some l
 | [],i,hd,hi=>by
  have hl:i=l.length:=by
   have:=congrArg List.length hd
   rw [List.length_drop,List.length_nil] at this;omega
  subst hl
  refine Yt ?_
  unfold K3
  simp only
  rw [Zt3,cond_false]
  simp
 | x::r,i,hd,hi=>by
  have hi':i < l.length:=by
   rcases Nat.lt_or_ge i l.length with q | q
   ·exact q
   rw [List.drop_eq_nil_of_le q] at hd;cases hd
  have hx:l[i]? = some x:=by
   have:=congrArg (·[0]?) hd
   simpa using this
  have hm:=List.mem_of_getElem? hx
  have hd':l.drop (i+1)=r:=by
   have:=congrArg (List.drop 1) hd
   rw [List.drop_drop] at this
   simpa [] using this
  have hn:=h.n
  have hlen:(l.take i).length=i:=by rw [List.length_take];omega
  have hg:Z5 (l.take i++List.replicate (r.length+1) []) (i:Int)=some ([]:List Int):=Zaz (by rw [List.getElem?_append_right (by omega),hlen,Nat.sub_self];rfl)
  have hstep:K3 l ((i:Int),l.take i++List.replicate (r.length+1) [])=some (.inl (((i+1:Nat):Int),l.take (i+1)++List.replicate r.length [])):=by
   unfold K3
   simp only
   rw [Zt4 hi',cond_true,Zaz hx,Option.bind_some,Zwf (h.s x hm),Option.bind_some,hg,Option.bind_some,Yy (by omega) (by omega),Z94,List.set_append_right _ _ (by omega),hlen,Nat.sub_self,List.replicate_succ,List.set_cons_zero,List.take_add_one,hx,List.append_assoc]
   rfl
  rw [List.length_cons,X9 hstep]
  exact Zr3 h r (i+1) hd' (by omega)
theorem Z5j {l:List (List Int)} (h:WS l):Zau l=some l:=by
 have hn:=h.n
 have:=Zr3 h l 0 rfl (Nat.zero_le _)
 rw [List.take_zero,List.nil_append,show (((0:Nat):Int))=0 from rfl] at this
 unfold Zau
 rw [Z0s (by omega) (by omega) (by omega),Option.bind_some,Int.toNat_natCast,this]
 rfl
theorem Yd2 {l:List (List Int)} (h:WS l):Zeq l=some (some ⟨l,0,0⟩):=by
 unfold Zeq
 rw [Z5j h,Option.bind_some]
def seg (l:List (List Int)) (s:Int):List Int:=(l[s.toNat]?).getD []
def inB (l:List (List Int)) (s a n:Int):Bool:=decide (0≤s) && (decide (s < l.length) && (decide (0≤a) && (decide (0≤n) && decide (a+n≤(seg l s).length))))
theorem inB_iff {l:List (List Int)} {s a n:Int}:inB l s a n=true↔0≤s∧s < l.length∧0≤a∧0≤n∧a+n≤(seg l s).length:=by
 unfold inB
 simp only [Bool.and_eq_true,decide_eq_true_eq]
theorem Zb7 {l:List (List Int)} {s:Int} (h0:0≤s) (h1:s < l.length):Z5 l s=some (seg l s)∧seg l s∈l:=by
 have hs:s.toNat < l.length:=by omega
 unfold seg Z5
 rw [if_pos h0,List.getElem?_eq_getElem hs]
 exact ⟨rfl,List.getElem_mem hs⟩
def wd (l:List (List Int)) (s a:Int):Int:=((seg l s)[a.toNat]?).getD 0
theorem Zry {l:List (List Int)} {s a:Int} (h:inB l s a 1=true):Z5 (seg l s) a=some (wd l s a)∧wd l s a∈seg l s:=by
 rw [inB_iff] at h
 have ha:a.toNat < (seg l s).length:=by omega
 unfold wd Z5
 rw [if_pos h.2.2.1,List.getElem?_eq_getElem ha]
 exact ⟨rfl,List.getElem_mem ha⟩
theorem Ziy {l:List (List Int)} (hw:WS l) (s a:Int):0≤wd l s a∧wd l s a < 18446744073709551616:=by
 unfold wd
 cases h:(seg l s)[a.toNat]? with
 | none=>simp
 | some w =>
  have hm:=List.mem_of_getElem? h
  unfold seg at hm
  cases hs:l[s.toNat]? with
  | none=>rw [hs] at hm;cases hm
  | some x=>rw [hs] at hm;exact hw.w x (List.mem_of_getElem? hs) w hm
theorem Zio {l:List (List Int)} (hw:WS l) (s:Int):(seg l s).length * 8≤140737488355328:=by
 unfold seg
 cases hs:l[s.toNat]? with
 | none=>simp
 | some x=>exact hw.s x (List.mem_of_getElem? hs)
section
variable {A:Zp}
theorem Yas:Gl (some A)=some (A.segments.length:Int):=rfl
theorem Zvj (s:Int):Jq (some A) s=some (decide (0≤s) && decide (s < A.segments.length)):=by
 unfold Jq
 rw [Yas,Option.bind_some]
 cases decide (0≤s) <;> rfl
theorem Z7e (s:Int):J5 (some A) s=some (if 0≤s∧s < A.segments.length then ((seg A.segments s).length:Int) else 0):=by
 unfold J5
 rw [Zvj,Option.bind_some]
 by_cases h:0≤s∧s < A.segments.length
 ·rw [decide_eq_true h.1,decide_eq_true h.2,if_pos h,Option.bind_some,(Zb7 h.1 h.2).1]
  rfl
 rw [if_neg h,show (decide (0≤s) && decide (s < A.segments.length))=false from by rw [Bool.and_eq_false_iff,decide_eq_false_iff_not,decide_eq_false_iff_not];omega]
 rfl
theorem Zxo (hw:WS A.segments) (s a n:Int):Jo (some A) s a n=some (inB A.segments s a n):=by
 have hl:=Zio hw s
 unfold Jo inB
 rw [Zvj,Z7e,Option.bind_some]
 by_cases h:0≤s∧s < A.segments.length
 ·rw [if_pos h,decide_eq_true h.1,decide_eq_true h.2]
  by_cases h2:0≤a
  ·by_cases h3:0≤n
   ·by_cases h4:n≤((seg A.segments s).length:Int)
    ·simp only [decide_eq_true h2,decide_eq_true h3,Bool.and_true,Bool.true_and,cond_true,Option.bind_some,decide_eq_true h4]
     rw [Yy (by omega) (by omega)]
     congr 1
     rw [Bool.eq_iff_iff,decide_eq_true_eq,decide_eq_true_eq]
     omega
    simp only [decide_eq_true h2,decide_eq_true h3,Bool.and_true,Bool.true_and,cond_true,cond_false,Option.bind_some,decide_eq_false h4]
    rw [show decide (a+n≤((seg A.segments s).length:Int))=false from by rw [decide_eq_false_iff_not];omega]
   rw [decide_eq_true h2,decide_eq_false h3];rfl
  rw [decide_eq_false h2];rfl
 rw [show (decide (0≤s) && decide (s < A.segments.length))=false from by rw [Bool.and_eq_false_iff,decide_eq_false_iff_not,decide_eq_false_iff_not];omega]
 rw [← Bool.and_assoc,show (decide (0≤s) && decide (s < A.segments.length))=false from by rw [Bool.and_eq_false_iff,decide_eq_false_iff_not,decide_eq_false_iff_not];omega]
 rfl
theorem Zoi (hw:WS A.segments) (s a:Int):Qk (some A) s a=some (if inB A.segments s a 1=true then (wd A.segments s a,true) else (0,false)):=by
 unfold Qk
 rw [Zxo hw,Option.bind_some]
 cases h:inB A.segments s a 1 with
 | false=>rfl
 | true =>
  have h':=inB_iff.1 h
  rw [Bool.not_true,cond_false,Option.bind_some,(Zb7 h'.1 h'.2.1).1,Option.bind_some,(Zry h).1]
  rfl
theorem Z7d (hw:WS A.segments) (s a n:Int):K8 (some A) s a n=some (if inB A.segments s a n=true then (((seg A.segments s).drop a.toNat).take n.toNat,true) else ([],false)):=by
 have hl:=Zio hw s
 unfold K8
 rw [Zxo hw,Option.bind_some]
 cases h:inB A.segments s a n with
 | false=>rfl
 | true =>
  have h':=inB_iff.1 h
  rw [Bool.not_true,cond_false,Option.bind_some,(Zb7 h'.1 h'.2.1).1,Option.bind_some,Yy (by omega) (by omega),Zs6 (by omega) (by omega) (by omega),Option.bind_some,show a+n - a=n by omega,Zwf (by rw [List.length_take,List.length_drop];omega)]
  rfl
end
def dc (w:Int):Z4:=Zu5 w.toNat
theorem Zzy {w:Int} (h:0≤w∧w < 18446744073709551616):Ka w=some (dc w):=by
 have:=Z7x w.toNat (by omega)
 rwa [show ((w.toNat:Nat):Int)=w by omega] at this
theorem Zue {w:Int} (h:0≤w∧w < 18446744073709551616):Xd w=some (dc w):=by
 have:=Z6g w.toNat (by omega)
 rwa [show ((w.toNat:Nat):Int)=w by omega] at this
structure PB (p:Z4):Prop where
 k:p.Kind=0∨p.Kind=1∨p.Kind=2∨p.Kind=3∨p.Kind=4
 o:-536870912≤p.Off∧p.Off < 536870912
 d:0≤p.Data∧p.Data < 65536
 q:0≤p.Ptrs∧p.Ptrs < 65536
 c:0≤p.Code∧p.Code < 8
 n:0≤p.Count∧p.Count < 536870912
 s:0≤p.Segment∧p.Segment < 4294967296
 f:p.Kind=3→0≤p.Off
 z:p.Kind=0∨p.Kind=4→p.Off=0
theorem Ybn (w:Nat):-536870912≤Zsm w∧Zsm w < 536870912:=by
 unfold Zsm
 split <;> omega
theorem Zi5 (w:Int):PB (dc w):=by
 have ho:=Ybn w.toNat
 unfold dc Zu5
 split
 ·exact ⟨.inl rfl,by simp,by simp,by simp,by simp,by simp,by simp,by simp,by simp⟩
 split
 ·exact ⟨.inr (.inl rfl),ho,by simp only;omega,by simp only;omega,by simp,by simp,by simp,by simp,by simp⟩
 split
 ·exact ⟨.inr (.inr (.inl rfl)),ho,by simp,by simp,by simp only;omega,by simp only;omega,by simp,by simp,by simp⟩
 split
 ·exact ⟨.inr (.inr (.inr (.inl rfl))),by simp only;omega,by simp,by simp,by simp,by simp,by simp only;omega,fun _=>by simp only;omega,by simp⟩
 exact ⟨.inr (.inr (.inr (.inr rfl))),by simp,by simp,by simp,by simp,by simp,by simp,by simp,by simp⟩
def wdt (c:Int):Int:=if c=0 then 0 else if c=1 then 1 else if c=2 then 8 else if c=3 then 16 else if c=4 then 32 else 64
def pw (p:Z4):Int:=if p.Kind=1 then p.Data+p.Ptrs else if p.Code=7 then p.Count+1 else (p.Count * wdt p.Code+63) / 64
theorem c7 {c:Int} (h:0≤c∧c < 8) (h7:¬ c=7):c=0∨c=1∨c=2∨c=3∨c=4∨c=5∨c=6:=by omega
theorem Yak {c:Int} (h:0≤c∧c < 8) (h7:¬ c=7):Zc8 c=some (wdt c):=by
 unfold Zc8
 rcases c7 h h7 with rfl | rfl | rfl | rfl | rfl | rfl | rfl <;> rfl
theorem Yfy {p:Z4} (h:PB p):0≤pw p∧pw p≤1073741824:=by
 have:=h.d;have:=h.q;have hn:=h.n
 unfold pw
 split
 ·omega
 split
 ·omega
 rename_i h7
 rcases c7 h.c h7 with q | q | q | q | q | q | q <;> rw [q] <;> unfold wdt <;> simp <;> omega
theorem Yao {p:Z4} (h:PB p):U8 p=some (if p.Kind=1∨p.Kind=2 then (pw p,true) else (0,false)):=by
 have hd:=h.d;have hp:=h.q;have hn:=h.n
 unfold U8 pw
 by_cases k1:p.Kind=1
 ·rw [show (p.Kind == 1)=true from by rw [k1];rfl,cond_true,if_pos (.inl k1),if_pos k1,Yy (by omega) (by omega)]
 rw [show (p.Kind == 1)=false from Um k1,cond_false]
 by_cases k2:p.Kind=2
 ·rw [show (p.Kind == 2)=true from by rw [k2];rfl,cond_true,if_pos (.inr k2),if_neg k1]
  by_cases c7':p.Code=7
  ·rw [show (p.Code == 7)=true from by rw [c7'];rfl,cond_true,if_pos c7',Yy (by omega) (by omega)]
  rw [show (p.Code == 7)=false from Um c7',cond_false,if_neg c7',decide_eq_true h.c.1,show decide (p.Code < 7)=true from by rw [decide_eq_true_eq];have:=h.c;omega,decide_eq_true hn.1,show decide (p.Count≤536870911)=true from by rw [decide_eq_true_eq];omega]
  simp only [cond_true]
  rw [Yak h.c c7',Option.bind_some]
  have hw:0≤wdt p.Code∧wdt p.Code≤64:=by unfold wdt;repeat' split;all_goals omega
  have h1:0≤p.Count * wdt p.Code:=Int.mul_nonneg hn.1 hw.1
  have h2:p.Count * wdt p.Code≤536870912 * 64:=Int.mul_le_mul (by omega) hw.2 hw.1 (by omega)
  rw [Yy (x:=p.Count * wdt p.Code) (by omega) (by omega),Yy (x:=p.Count * wdt p.Code+63) (by omega) (by omega),Int.tdiv_eq_ediv_of_nonneg (by omega),Yy (by omega) (by omega)]
 rw [show (p.Kind == 2)=false from Um k2,if_neg (by omega)]
 rfl
theorem Z6p {p:Z4} (h:PB p) (hk:p.Kind=1∨p.Kind=2):Vb p=some (pw p):=by
 have hd:=h.d;have hp:=h.q;have hn:=h.n;have hc:=h.c
 unfold Vb pw
 by_cases k1:p.Kind=1
 ·rw [show (p.Kind == 1)=true from by rw [k1];rfl,cond_true,if_pos k1,Yy (by omega) (by omega)]
 have k2:p.Kind=2:=by omega
 rw [show (p.Kind == 1)=false from Um k1,cond_false,show (p.Kind != 2)=false from by rw [k2];rfl,cond_false,if_neg k1]
 by_cases c7':p.Code=7
 ·rw [show (p.Code == 7)=true from by rw [c7'];rfl,cond_true,if_pos c7',Yy (by omega) (by omega)]
 rw [show (p.Code == 7)=false from Um c7',cond_false,if_neg c7',show decide (p.Code < 0)=false from by rw [decide_eq_false_iff_not];omega,show decide (6 < p.Code)=false from by rw [decide_eq_false_iff_not];omega,show decide (p.Count < 0)=false from by rw [decide_eq_false_iff_not];omega,show decide (536870912≤p.Count)=false from by rw [decide_eq_false_iff_not];omega]
 simp only [cond_false]
 have hgen:∀ (k:Int),0 < k→(Xz (k≠0)).bind (fun _=>cond (decide (0 < Int.tmod p.Count k)) ((Xz (k≠0)).bind fun _=>some (IntKind.i64.wrap (IntKind.i64.wrap (Int.tdiv p.Count k)+1))) ((Xz (k≠0)).bind fun _=>some (IntKind.i64.wrap (Int.tdiv p.Count k))))=some (if 0 < p.Count % k then p.Count / k+1 else p.Count / k):=fun k hk=>by
  have hne:k≠0:=by omega
  have h0:0≤p.Count / k:=Int.ediv_nonneg hn.1 (by omega)
  have h1:p.Count / k≤p.Count:=Int.ediv_le_self _ hn.1
  rw [Zac hne,Option.bind_some,Option.bind_some,Option.bind_some,Int.tmod_eq_emod_of_nonneg hn.1,Int.tdiv_eq_ediv_of_nonneg hn.1,Yy (x:=p.Count / k) (by omega) (by omega),Yy (x:=p.Count / k+1) (by omega) (by omega)]
  by_cases q:0 < p.Count % k
  ·rw [if_pos q,decide_eq_true q,cond_true]
  rw [if_neg q,decide_eq_false q,cond_false]
 have hgo:∀ (k:Int),0 < k→(if 0 < p.Count % k then p.Count / k+1 else p.Count / k)=(p.Count+(k - 1)) / k:=fun k hk=>by
  have e:=Int.emod_add_mul_ediv p.Count k
  have e1:=Int.emod_nonneg p.Count (show k≠0 by omega)
  have e2:=Int.emod_lt_of_pos p.Count hk
  split
  ·symm
   have:p.Count+(k - 1)=(p.Count % k - 1)+k * (p.Count / k+1):=by rw [Int.mul_add];omega
   rw [this,Int.add_mul_ediv_left _ _ (by omega),Int.ediv_eq_zero_of_lt (by omega) (by omega)]
   omega
  symm
  have:p.Count+(k - 1)=(k - 1)+k * (p.Count / k):=by omega
  rw [this,Int.add_mul_ediv_left _ _ (by omega),Int.ediv_eq_zero_of_lt (by omega) (by omega)]
  omega
 rcases c7 h.c c7' with q | q | q | q | q | q | q
 ·rw [show (p.Code == 0)=true from by rw [q];rfl,cond_true,Option.bind_some,q]
  simp only [wdt,if_true,Int.mul_zero]
  rfl
 ·rw [show (p.Code == 0)=false from by rw [q];rfl,show (p.Code == 1)=true from by rw [q];rfl,cond_false,cond_true,Option.bind_some]
  simp only
  rw [hgen 64 (by omega),hgo 64 (by omega),q]
  simp [wdt]
 ·rw [show (p.Code == 0)=false from by rw [q];rfl,show (p.Code == 1)=false from by rw [q];rfl,show (p.Code == 2)=true from by rw [q];rfl,cond_false,cond_false,cond_true,Option.bind_some]
  simp only
  rw [hgen 8 (by omega),hgo 8 (by omega),q]
  simp [wdt]
  omega
 ·rw [show (p.Code == 0)=false from by rw [q];rfl,show (p.Code == 1)=false from by rw [q];rfl,show (p.Code == 2)=false from by rw [q];rfl,show (p.Code == 3)=true from by rw [q];rfl,cond_false,cond_false,cond_false,cond_true,Option.bind_some]
  simp only
  rw [hgen 4 (by omega),hgo 4 (by omega),q]
  simp [wdt]
  omega
 ·rw [show (p.Code == 0)=false from by rw [q];rfl,show (p.Code == 1)=false from by rw [q];rfl,show (p.Code == 2)=false from by rw [q];rfl,show (p.Code == 3)=false from by rw [q];rfl,show (p.Code == 4)=true from by rw [q];rfl,cond_false,cond_false,cond_false,cond_false,cond_true,Option.bind_some]
  simp only
  rw [hgen 2 (by omega),hgo 2 (by omega),q]
  simp [wdt]
  omega
 ·rw [show (p.Code == 0)=false from by rw [q];rfl,show (p.Code == 1)=false from by rw [q];rfl,show (p.Code == 2)=false from by rw [q];rfl,show (p.Code == 3)=false from by rw [q];rfl,show (p.Code == 4)=false from by rw [q];rfl,cond_false,cond_false,cond_false,cond_false,cond_false,Option.bind_some]
  simp only
  rw [hgen 1 (by omega),hgo 1 (by omega),q]
  simp [wdt]
  omega
 rw [show (p.Code == 0)=false from by rw [q];rfl,show (p.Code == 1)=false from by rw [q];rfl,show (p.Code == 2)=false from by rw [q];rfl,show (p.Code == 3)=false from by rw [q];rfl,show (p.Code == 4)=false from by rw [q];rfl,cond_false,cond_false,cond_false,cond_false,cond_false,Option.bind_some]
 simp only
 rw [hgen 1 (by omega),hgo 1 (by omega),q]
 simp [wdt]
 omega
def l0:Xg:=⟨⟨0,0,0,0,0,0,0,false⟩,0,0⟩
def Zqk (p:Z4):Z4:=⟨p.Kind,0,p.Data,p.Ptrs,p.Code,p.Count,p.Segment,p.Double⟩
def tgt (l:List (List Int)) (p:Z4) (s a:Int):Xg×Int :=
 if p.Kind=4 then (l0,9) else if p.Kind=1∨p.Kind=2 then (if inB l s a (pw p)=true then (⟨Zqk p,s,a⟩,0) else (l0,7)) else (l0,8)
def fol (l:List (List Int)) (s a:Int):Xg×Int :=
 if inB l s a 1=true then
  let p:=dc (wd l s a)
  if p.Kind=0 then (l0,0)
  else if p.Kind=3∧p.Double=true then
   if inB l p.Segment p.Off 2=true then
    let b:=dc (wd l p.Segment p.Off)
    let q:=dc (wd l p.Segment (p.Off+1))
    if b.Kind=3∧b.Double=false then (if q.Kind≠4∧q.Off≠0 then (l0,8) else tgt l q b.Segment b.Off) else (l0,8)
   else (l0,7)
  else if p.Kind=3 then
   if inB l p.Segment p.Off 1=true then
    let q:=dc (wd l p.Segment p.Off)
    tgt l q p.Segment (p.Off+1+q.Off)
   else (l0,7)
  else tgt l p s (a+1+p.Off)
 else (l0,7)
section
variable {A:Zp}
theorem Zlq (hw:WS A.segments) {p:Z4} (h:PB p) (s a:Int):U3 (some A) p s a=some (tgt A.segments p s a):=by
 unfold U3 tgt
 by_cases k4:p.Kind=4
 ·rw [show (p.Kind == 4)=true from by rw [k4];rfl,if_pos k4];rfl
 rw [show (p.Kind == 4)=false from Um k4,cond_false,if_neg k4,Yao h,Option.bind_some]
 by_cases k:p.Kind=1∨p.Kind=2
 ·rw [if_pos k,if_pos k]
  simp only [Bool.not_true,cond_false]
  rw [Zxo hw,Option.bind_some]
  cases inB A.segments s a (pw p) <;> rfl
 rw [if_neg k,if_neg k]
 rfl
theorem Ygn {l:List (List Int)} {s a:Int} (h:inB l s a 2=true):((seg l s).drop a.toNat).take (2:Int).toNat=[wd l s a,wd l s (a+1)]:=by
 have h':=inB_iff.1 h
 have h1:a.toNat < (seg l s).length:=by omega
 have h2:a.toNat+1 < (seg l s).length:=by omega
 unfold wd
 rw [show (a+1).toNat=a.toNat+1 by omega,List.getElem?_eq_getElem h1,List.getElem?_eq_getElem h2,show ((2:Int).toNat)=2 from rfl,List.drop_eq_getElem_cons h1,List.drop_eq_getElem_cons h2]
 rfl
theorem Z5p (hw:WS A.segments) (s a:Int):Zby (some A) s a=some (if inB A.segments s a 2=true then (if (dc (wd A.segments s a)).Kind=3∧(dc (wd A.segments s a)).Double=false then (if (dc (wd A.segments s (a+1))).Kind≠4∧(dc (wd A.segments s (a+1))).Off≠0 then (l0,8) else tgt A.segments (dc (wd A.segments s (a+1))) (dc (wd A.segments s a)).Segment (dc (wd A.segments s a)).Off) else (l0,8)) else (l0,7)):=by
 unfold Zby
 rw [Z7d hw,Option.bind_some]
 cases h:inB A.segments s a 2 with
 | false=>rfl
 | true =>
  simp only [if_true,Bool.not_true,cond_false]
  rw [Ygn h]
  have g0:Z5 [wd A.segments s a,wd A.segments s (a+1)] 0=some (wd A.segments s a):=rfl
  have g1:Z5 [wd A.segments s a,wd A.segments s (a+1)] 1=some (wd A.segments s (a+1)):=rfl
  rw [g0,Option.bind_some,Zzy (Ziy hw _ _),Option.bind_some,g1,Option.bind_some,Zzy (Ziy hw _ _),Option.bind_some]
  generalize dc (wd A.segments s a)=b
  have hq:=Zi5 (wd A.segments s (a+1))
  revert hq
  generalize dc (wd A.segments s (a+1))=q
  intro hq
  by_cases b3:b.Kind=3
  ·rw [show (b.Kind != 3)=false from by rw [b3];rfl,cond_false]
   cases bd:b.Double with
   | true=>rw [cond_true,if_neg (by simp)];rfl
   | false =>
    rw [cond_false,if_pos ⟨b3,rfl⟩]
    by_cases hq4:q.Kind=4
    ·rw [show (q.Kind != 4)=false from by rw [hq4];rfl,cond_false,cond_false,if_neg (by simp [hq4]),Zlq hw hq]
     rfl
    rw [show (q.Kind != 4)=true from bne_iff_ne.2 hq4,cond_true]
    by_cases ho:q.Off=0
    ·rw [show (q.Off != 0)=false from by rw [ho];rfl,cond_false,if_neg (by simp [ho]),Zlq hw hq]
     rfl
    rw [show (q.Off != 0)=true from bne_iff_ne.2 ho,cond_true,if_pos ⟨hq4,ho⟩]
    rfl
  rw [show (b.Kind != 3)=true from bne_iff_ne.2 b3,cond_true,cond_true,if_neg (by simp [b3])]
  rfl
theorem Z3u {l:List (List Int)} (hw:WS l) {s a n:Int} (h:inB l s a n=true):0≤a∧a≤17592186044416:=by
 have h':=inB_iff.1 h
 have:=Zio hw s
 omega
theorem Z6r (hw:WS A.segments) (s a:Int):Zbz (some A) s a=some (if inB A.segments s a 1=true then tgt A.segments (dc (wd A.segments s a)) s (a+1+(dc (wd A.segments s a)).Off) else (l0,7)):=by
 unfold Zbz
 rw [Zoi hw,Option.bind_some]
 cases h:inB A.segments s a 1 with
 | false=>rfl
 | true =>
  have ha:=Z3u hw h
  have hq:=Zi5 (wd A.segments s a)
  have ho:=hq.o
  simp only [if_true,Bool.not_true,cond_false]
  rw [Zzy (Ziy hw _ _),Option.bind_some,Yy (x:=a+1) (by omega) (by omega),Yy (by omega) (by omega),Zlq hw hq]
  rfl
theorem Z5r (hw:WS A.segments) (s a:Int):Zbx (some A) s a=some (fol A.segments s a):=by
 unfold Zbx fol
 rw [Zoi hw,Option.bind_some]
 cases h:inB A.segments s a 1 with
 | false=>rfl
 | true =>
  have ha:=Z3u hw h
  have hq:=Zi5 (wd A.segments s a)
  have ho:=hq.o
  simp only [if_true,Bool.not_true,cond_false]
  rw [Zzy (Ziy hw _ _),Option.bind_some]
  revert hq ho
  generalize dc (wd A.segments s a)=p
  intro hq ho
  by_cases k0:p.Kind=0
  ·rw [show (p.Kind == 0)=true from by rw [k0];rfl,cond_true,if_pos k0];rfl
  rw [show (p.Kind == 0)=false from Um k0,cond_false,if_neg k0]
  by_cases k3:p.Kind=3
  ·rw [show (p.Kind == 3)=true from by rw [k3];rfl,cond_true,cond_true]
   cases hd:p.Double with
   | true=>rw [cond_true,if_pos ⟨k3,rfl⟩,Z5p hw];rfl
   | false=>rw [cond_false,if_neg (by simp),if_pos k3,Z6r hw];rfl
  rw [show (p.Kind == 3)=false from Um k3,cond_false,cond_false,cond_false,if_neg (by simp [k3]),if_neg k3,Yy (x:=a+1) (by omega) (by omega),Yy (by omega) (by omega),Zlq hw hq]
  rfl
end
def toR (x:Xg):Ya:=⟨x.P,x.Segment,x.At⟩
def Ych (x:Xg×Int):Ya×Int:=(toR x.1,x.2)
theorem Zs4 {l:List (List Int)} (hw:WS l) (s a:Int):Jf l s a=some (inB l s a 1):=by
 have hl:=Zio hw s
 unfold Jf inB
 by_cases h1:0≤s
 ·by_cases h2:s < (l.length:Int)
  ·by_cases h3:0≤a
   ·rw [(Zb7 h1 h2).1]
    simp only [decide_eq_true h1,decide_eq_true h2,decide_eq_true h3,cond_true,Option.bind_some,Bool.true_and,show decide ((0:Int)≤1)=true from rfl]
    refine congrArg some ?_
    rw [Bool.eq_iff_iff,decide_eq_true_eq,decide_eq_true_eq]
    omega
   rw [decide_eq_true h1,decide_eq_true h2,decide_eq_false h3];rfl
  rw [decide_eq_true h1,decide_eq_false h2];rfl
 rw [decide_eq_false h1];rfl
theorem Z6n {l:List (List Int)} (hw:WS l) {p:Z4} (h:PB p) (hk:p.Kind=1∨p.Kind=2) (s a:Int):Jb l ⟨p,s,a⟩=some (Ych (if inB l s a (pw p)=true then (⟨Zqk p,s,a⟩,0) else (l0,7))):=by
 have hl:=Zio hw s
 have hp:=Yfy h
 unfold Jb
 simp only
 rw [Z6p h hk,Option.bind_some]
 have key:∀ b:Bool,inB l s a (pw p) = !b→(cond b (some ((⟨⟨0,0,0,0,0,0,0,false⟩,0,0⟩:Ya),(7:Int))) (some ((⟨⟨p.Kind,0,p.Data,p.Ptrs,p.Code,p.Count,p.Segment,p.Double⟩,s,a⟩:Ya),0)))=some (Ych (if inB l s a (pw p)=true then (⟨Zqk p,s,a⟩,0) else (l0,7))):=fun b hb=>by
  rw [hb]
  cases b <;> rfl
 have hin:∀ b:Bool,(b=true↔¬ (0≤s∧s < l.length∧0≤a∧0≤pw p∧a+pw p≤(seg l s).length))→inB l s a (pw p) = !b:=fun b hb=>by
  cases hq:inB l s a (pw p) with
  | true =>
   have:=inB_iff.1 hq
   cases b with
   | false=>rfl
   | true=>exact absurd this (hb.1 rfl)
  | false =>
   cases b with
   | true=>rfl
   | false =>
    have h2:¬ ¬ (0≤s∧s < l.length∧0≤a∧0≤pw p∧a+pw p≤(seg l s).length):=fun q=>by have:=hb.2 q;cases this
    have h3:=inB_iff.2 (Classical.not_not.1 h2)
    rw [hq] at h3
    cases h3
 by_cases h1:s < 0
 ·rw [decide_eq_true h1,cond_true,Option.bind_some]
  exact key true (hin true ⟨fun _=>by omega,fun _=>rfl⟩)
 rw [decide_eq_false h1,cond_false]
 by_cases h2:(l.length:Int)≤s
 ·rw [decide_eq_true h2,cond_true,Option.bind_some]
  exact key true (hin true ⟨fun _=>by omega,fun _=>rfl⟩)
 rw [decide_eq_false h2,cond_false]
 by_cases h3:a < 0
 ·rw [decide_eq_true h3,cond_true,Option.bind_some]
  exact key true (hin true ⟨fun _=>by omega,fun _=>rfl⟩)
 rw [decide_eq_false h3,cond_false,(Zb7 (by omega) (by omega)).1,Option.bind_some]
 by_cases h4:((seg l s).length:Int) < a
 ·rw [decide_eq_true h4,cond_true,Option.bind_some]
  exact key true (hin true ⟨fun _=>by omega,fun _=>rfl⟩)
 rw [decide_eq_false h4,cond_false,cond_false,cond_false,cond_false,cond_false,Option.bind_some,Yy (by omega) (by omega)]
 exact key _ (hin _ (by rw [decide_eq_true_eq];omega))
theorem Zwc {p:Z4}:Ja p=some (if p.Kind=4 then 9 else if p.Kind=1∨p.Kind=2 then 0 else 8):=by
 unfold Ja
 by_cases k4:p.Kind=4
 ·rw [show (p.Kind == 4)=true from by rw [k4];rfl,if_pos k4];rfl
 rw [show (p.Kind == 4)=false from Um k4,cond_false,if_neg k4]
 by_cases k1:p.Kind=1
 ·rw [show (p.Kind != 1)=false from by rw [k1];rfl,if_pos (.inl k1)];rfl
 rw [show (p.Kind != 1)=true from bne_iff_ne.2 k1,cond_true]
 by_cases k2:p.Kind=2
 ·rw [show (p.Kind != 2)=false from by rw [k2];rfl,if_pos (.inr k2)];rfl
 rw [show (p.Kind != 2)=true from bne_iff_ne.2 k2,if_neg (by omega)];rfl
theorem Zy6 {l:List (List Int)} (hw:WS l) {p:Z4} (h:PB p) (s a:Int) {k:Int→Option (Ya×Int)} (hk:k=fun y=>cond (y != 0) (some ((⟨⟨0,0,0,0,0,0,0,false⟩,0,0⟩:Ya),y)) ((Jb l ⟨p,s,a⟩).bind fun y=>some (y.1,y.2))):(Ja p).bind k=some (Ych (tgt l p s a)):=by
 subst hk
 rw [Zwc,Option.bind_some]
 unfold tgt
 by_cases k4:p.Kind=4
 ·rw [if_pos k4,if_pos k4];rfl
 rw [if_neg k4,if_neg k4]
 by_cases k:p.Kind=1∨p.Kind=2
 ·rw [if_pos k,if_pos k,show ((0:Int) != 0)=false from rfl,cond_false,Z6n hw h k,Option.bind_some]
 rw [if_neg k,if_neg k];rfl
theorem Z9c (p:Z4):(⟨p.Kind,p.Off,p.Data,p.Ptrs,p.Code,p.Count,p.Segment,p.Double⟩:Z4)=p:=by cases p;rfl
theorem Yfk {l:List (List Int)} {s a:Int} (h0:0≤a):inB l s a 2=(inB l s a 1 && inB l s (a+1) 1):=by
 rw [Bool.eq_iff_iff,Bool.and_eq_true,inB_iff,inB_iff,inB_iff]
 omega
theorem Z27 {l:List (List Int)} (hw:WS l) (s a:Int):Jt l s a=some (Ych (fol l s a)):=by
 unfold Jt fol
 rw [Zs4 hw,Option.bind_some]
 cases h:inB l s a 1 with
 | false=>rfl
 | true =>
  have h':=inB_iff.1 h
  have ha:=Z3u hw h
  have hq:=Zi5 (wd l s a)
  simp only [if_true,Bool.not_true,cond_false]
  rw [(Zb7 h'.1 h'.2.1).1,Option.bind_some,(Zry h).1,Option.bind_some,Zue (Ziy hw _ _),Option.bind_some]
  revert hq
  generalize dc (wd l s a)=p
  intro hq
  have ho:=hq.o
  by_cases k0:p.Kind=0
  ·rw [show (p.Kind == 0)=true from by rw [k0];rfl,cond_true,if_pos k0];rfl
  rw [show (p.Kind == 0)=false from Um k0,cond_false,if_neg k0]
  by_cases k3:p.Kind=3
  ·have hf:=hq.f k3
   rw [show (p.Kind == 3)=true from by rw [k3];rfl,cond_true,cond_true,if_pos k3]
   cases hd:p.Double with
   | true =>
    rw [cond_true,if_pos ⟨k3,rfl⟩,Zs4 hw,Option.bind_some,Yy (by omega) (by omega),Zs4 hw]
    have h2:=Yfk (l:=l) (s:=p.Segment) hf
    cases b1:inB l p.Segment p.Off 1 with
    | false =>
     rw [h2,b1]
     rfl
    | true =>
     rw [cond_true,Option.bind_some,Option.bind_some,Bool.not_true,cond_false,h2,b1,Bool.true_and]
     cases b2:inB l p.Segment (p.Off+1) 1 with
     | false=>rfl
     | true =>
      have b1':=inB_iff.1 b1
      rw [Bool.not_true,cond_false,(Zb7 b1'.1 b1'.2.1).1,Option.bind_some,(Zry b1).1,Option.bind_some,Zue (Ziy hw _ _),Option.bind_some,(Zry b2).1,Option.bind_some,Zue (Ziy hw _ _),Option.bind_some]
      simp only [if_true]
      generalize dc (wd l p.Segment p.Off)=b
      have hq2:=Zi5 (wd l p.Segment (p.Off+1))
      revert hq2
      generalize dc (wd l p.Segment (p.Off+1))=q
      intro hq2
      by_cases b3:b.Kind=3
      ·rw [show (b.Kind != 3)=false from by rw [b3];rfl,cond_false]
       cases bd:b.Double with
       | true=>rw [cond_true,if_neg (by simp)];rfl
       | false =>
        rw [cond_false,if_pos ⟨b3,rfl⟩]
        by_cases ho':q.Off=0
        ·rw [if_neg (by simp [ho'])]
         refine Zy6 hw hq2 b.Segment b.Off ?_
         funext y
         rw [show (q.Off != 0)=false from by rw [ho'];rfl]
         cases (y == 0) <;> rfl
        rw [Zwc,Option.bind_some,show (q.Off != 0)=true from bne_iff_ne.2 ho']
        by_cases hq4:q.Kind=4
        ·exact absurd (hq2.z (.inr hq4)) ho'
        by_cases hk:q.Kind=1∨q.Kind=2
        ·rw [if_neg hq4,if_pos hk,if_pos ⟨hq4,ho'⟩];rfl
        rw [if_neg hq4,if_neg hk,if_pos ⟨hq4,ho'⟩];rfl
      rw [show (b.Kind != 3)=true from bne_iff_ne.2 b3,cond_true,cond_true,if_neg (by simp [b3])]
      rfl
   | false =>
    rw [cond_false,if_neg (by simp),Zs4 hw,Option.bind_some]
    cases b1:inB l p.Segment p.Off 1 with
    | false=>rfl
    | true =>
     have b1':=inB_iff.1 b1
     rw [Bool.not_true,cond_false,(Zb7 b1'.1 b1'.2.1).1,Option.bind_some,(Zry b1).1,Option.bind_some,Zue (Ziy hw _ _),Option.bind_some,Option.bind_some]
     have hq2:=Zi5 (wd l p.Segment p.Off)
     have ho2:=hq2.o
     have ha2:=Z3u hw b1
     simp only [Z9c]
     rw [Yy (x:=p.Off+1) (by omega) (by omega),Yy (by omega) (by omega)]
     exact Zy6 hw hq2 _ _ rfl
  rw [show (p.Kind == 3)=false from Um k3,cond_false,cond_false,cond_false,if_neg (by simp [k3]),if_neg k3,Option.bind_some]
  simp only [Z9c]
  rw [Yy (x:=a+1) (by omega) (by omega),Yy (by omega) (by omega)]
  exact Zy6 hw hq _ _ rfl
theorem Zzi (l:List Int) (h:∀ w∈l,0≤w∧w < 18446744073709551616) (hl:l.length * 8≤140737488355328):WS [l] :=
 ⟨by simp,fun x hx=>by rw [List.mem_singleton] at hx;subst hx;exact hl,fun x hx=>by rw [List.mem_singleton] at hx;subst hx;exact h⟩
theorem Ye1 {l:List (List Int)} {p:Z4} (h:PB p) {s a:Int}:((tgt l p s a).2≠0∧(tgt l p s a).1=l0)∨((tgt l p s a).2=0∧(p.Kind=1∨p.Kind=2)∧(tgt l p s a).1=⟨Zqk p,s,a⟩∧inB l s a (pw p)=true):=by
 unfold tgt
 by_cases k4:p.Kind=4
 ·rw [if_pos k4];exact .inl ⟨by simp,rfl⟩
 rw [if_neg k4]
 by_cases k:p.Kind=1∨p.Kind=2
 ·rw [if_pos k]
  by_cases hi:inB l s a (pw p)=true
  ·rw [if_pos hi];exact .inr ⟨rfl,k,rfl,hi⟩
  rw [if_neg hi];exact .inl ⟨by simp,rfl⟩
 rw [if_neg k];exact .inl ⟨by simp,rfl⟩
theorem Ybm {p:Z4} (h:PB p):PB (Zqk p):=⟨h.k,by simp [Zqk],h.d,h.q,h.c,h.n,h.s,fun _=>by simp [Zqk],fun _=>rfl⟩
theorem Yej (l:List (List Int)) (s a:Int):((fol l s a).1=l0)∨((fol l s a).2=0∧∃ p s' a',PB p∧p.Off=0∧(p.Kind=1∨p.Kind=2)∧(fol l s a).1=⟨p,s',a'⟩∧inB l s' a' (pw p)=true):=by
 have key:∀ (w s a:Int),((tgt l (dc w) s a).1=l0)∨((tgt l (dc w) s a).2=0∧∃ p s' a',PB p∧p.Off=0∧(p.Kind=1∨p.Kind=2)∧(tgt l (dc w) s a).1=⟨p,s',a'⟩∧inB l s' a' (pw p)=true):=fun w s a=>by
  rcases Ye1 (l:=l) (Zi5 w) (s:=s) (a:=a) with h | ⟨h1,h2,h3,h4⟩
  ·exact .inl h.2
  exact .inr ⟨h1,Zqk (dc w),s,a,Ybm (Zi5 w),rfl,h2,h3,h4⟩
 unfold fol
 by_cases h:inB l s a 1=true
 ·rw [if_pos h]
  simp only
  split
  ·exact .inl rfl
  split
  ·split
   ·split
    ·split
     ·exact .inl rfl
     exact key _ _ _
    exact .inl rfl
   exact .inl rfl
  split
  ·split
   ·exact key _ _ _
   exact .inl rfl
  exact key _ _ _
 rw [if_neg h];exact .inl rfl
def r0:Zd:=⟨none,0,0,0,0,0,0,0,0⟩
def Ym (r:Zd):Int:=if r.kind=1 then r.ptrs else r.count
def atR (A:Zp) (s a:Int):Zd×Int :=
 let x:=fol A.segments s a
 if x.2≠0∨x.1.P.Kind=0 then (r0,x.2)
 else if x.1.P.Kind=1 then (⟨some A,1,x.1.Segment,x.1.At,x.1.P.Data,x.1.P.Ptrs,0,0,0⟩,0)
 else if x.1.P.Code=7 then
  let t:=dc (wd A.segments x.1.Segment x.1.At)
  if (t.Kind≠0∧t.Kind≠1)∨t.Off < 0∨x.1.P.Count < t.Off * (t.Data+t.Ptrs) then (r0,8)
  else (⟨some A,9,x.1.Segment,x.1.At,t.Data,t.Ptrs,t.Off,0,0⟩,0)
 else (⟨some A,x.1.P.Code+2,x.1.Segment,x.1.At,0,0,x.1.P.Count,0,0⟩,0)
inductive OKr (A:Zp):Zd→Prop
 | z:OKr A r0
 | st (s a d p:Int) (hd:0≤d∧d < 65536) (hp:0≤p∧p < 65536) (hi:inB A.segments s a (d+p)=true):OKr A ⟨some A,1,s,a,d,p,0,0,0⟩
 | li (k s a n:Int) (hk:2≤k∧k≤8) (hn:0≤n∧n < 536870912) (hi:inB A.segments s a ((n * wdt (k - 2)+63) / 64)=true):OKr A ⟨some A,k,s,a,0,0,n,0,0⟩
 | co (s a d p n:Int) (hd:0≤d∧d < 65536) (hp:0≤p∧p < 65536) (hn:0≤n∧n < 536870912) (hw:0≤n * (d+p)∧n * (d+p) < 536870912) (hi:inB A.segments s a (n * (d+p)+1)=true):OKr A ⟨some A,9,s,a,d,p,n,0,0⟩
 | at_ (s a c i n:Int) (hc:0≤c∧c≤5) (h0:0≤i) (h1:i < n) (hn:n < 536870912) (hi:inB A.segments s a ((n * wdt c+63) / 64)=true):OKr A ⟨some A,10,s,a,0,0,0,c,i⟩
theorem Ycv {A:Zp} {r:Zd} (h:OKr A r):0≤r.kind∧r.kind≤10:=by cases h <;> simp [r0] <;> omega
theorem Zi7 (l:List (List Int)) (s a:Int):((fol l s a).2≠0∨(fol l s a).1.P.Kind=0)∨((fol l s a).2=0∧PB (fol l s a).1.P∧((fol l s a).1.P.Kind=1∨(fol l s a).1.P.Kind=2)∧inB l (fol l s a).1.Segment (fol l s a).1.At (pw (fol l s a).1.P)=true):=by
 rcases Yej l s a with h | ⟨h1,p,s',a',hp,ho,hk,h,hi⟩
 ·rw [h];exact .inl (.inr rfl)
 rw [h];exact .inr ⟨h1,hp,hk,hi⟩
section
variable {A:Zp}
theorem Z3f (w:Int):0≤(dc w).Data∧(dc w).Data < 65536∧0≤(dc w).Ptrs∧(dc w).Ptrs < 65536∧(dc w).Off < 536870912:=by
 have h:=Zi5 w
 exact ⟨h.d.1,h.d.2,h.q.1,h.q.2,h.o.2⟩
theorem Z8s {n x:Int} (h0:-536870912≤n∧n < 536870912) (h1:0≤x∧x≤131070):-70368744177664≤n * x∧n * x≤70368744177664:=by
 constructor
 ·have:-536870912 * 131070≤n * x:=by
   rcases Int.le_total 0 n with h | h
   ·have:=Int.mul_nonneg h h1.1;omega
   have h2:n * 131070≤n * x:=Int.mul_le_mul_of_nonpos_left h h1.2
   have h3:-536870912 * 131070≤n * 131070:=Int.mul_le_mul_of_nonneg_right h0.1 (by omega)
   omega
  omega
 rcases Int.le_total 0 n with h | h
 ·have h2:n * x≤n * 131070:=Int.mul_le_mul_of_nonneg_left h1.2 h
  have h3:n * 131070≤536870912 * 131070:=Int.mul_le_mul_of_nonneg_right (by omega) (by omega)
  omega
 have:=Int.mul_nonpos_of_nonpos_of_nonneg h h1.1
 omega
theorem Zdd (s a:Int):OKr A (atR A s a).1:=by
 unfold atR
 rcases Zi7 A.segments s a with h | ⟨h1,hp,hk,hi⟩
 ·rw [if_pos h];exact .z
 rw [if_neg (by omega)]
 generalize (fol A.segments s a).1=x at *
 by_cases k1:x.P.Kind=1
 ·rw [if_pos k1]
  have:pw x.P=x.P.Data+x.P.Ptrs:=by unfold pw;rw [if_pos k1]
  rw [this] at hi
  exact .st _ _ _ _ hp.d hp.q hi
 rw [if_neg k1]
 have k2:x.P.Kind=2:=by omega
 by_cases c7':x.P.Code=7
 ·rw [if_pos c7']
  have hpw:pw x.P=x.P.Count+1:=by unfold pw;rw [if_neg k1,if_pos c7']
  rw [hpw] at hi
  have ht:=Z3f (wd A.segments x.Segment x.At)
  simp only
  generalize dc (wd A.segments x.Segment x.At)=t at *
  split
  ·exact .z
  rename_i hc
  have hn:=hp.n
  have h0:0≤t.Off * (t.Data+t.Ptrs):=Int.mul_nonneg (by omega) (by omega)
  have hi':=inB_iff.1 hi
  exact .co _ _ _ _ _ (by omega) (by omega) (by omega) (by omega) (inB_iff.2 ⟨hi'.1,hi'.2.1,hi'.2.2.1,by omega,by omega⟩)
 rw [if_neg c7']
 have hpw:pw x.P=(x.P.Count * wdt x.P.Code+63) / 64:=by unfold pw;rw [if_neg k1,if_neg c7']
 rw [hpw] at hi
 have hc:=hp.c
 exact .li _ _ _ _ (by omega) hp.n (by rw [show x.P.Code+2 - 2=x.P.Code by omega];exact hi)
theorem Z7o (hw:WS A.segments) (s a:Int):G3 (some A) s a=some (atR A s a):=by
 unfold G3 atR
 rw [Z5r hw,Option.bind_some]
 simp only
 rcases Zi7 A.segments s a with h | ⟨h1,hp,hk,hi⟩
 ·rw [if_pos h]
  have:cond ((fol A.segments s a).2 != 0) true ((fol A.segments s a).1.P.Kind == 0)=true:=by
   rcases h with h | h
   ·rw [bne_iff_ne.2 h];rfl
   rw [show ((fol A.segments s a).1.P.Kind == 0)=true from by rw [h];rfl]
   cases ((fol A.segments s a).2 != 0) <;> rfl
  rw [this,cond_true];rfl
 rw [if_neg (by omega),h1,show ((0:Int) != 0)=false from rfl,cond_false]
 generalize (fol A.segments s a).1=x at *
 rw [show (x.P.Kind == 0)=false from Um (by omega),cond_false]
 by_cases k1:x.P.Kind=1
 ·rw [if_pos k1,show (x.P.Kind == 1)=true from by rw [k1];rfl,cond_true]
 rw [if_neg k1,show (x.P.Kind == 1)=false from Um k1,cond_false]
 have hc:=hp.c
 by_cases c7':x.P.Code=7
 ·rw [if_pos c7',show (x.P.Code == 7)=true from by rw [c7'];rfl,cond_true]
  have hpw:pw x.P=x.P.Count+1:=by unfold pw;rw [if_neg k1,if_pos c7']
  rw [hpw] at hi
  have hn:=hp.n
  have hi':=inB_iff.1 hi
  have hi1:inB A.segments x.Segment x.At 1=true:=inB_iff.2 ⟨hi'.1,hi'.2.1,hi'.2.2.1,by omega,by omega⟩
  unfold U4
  simp only
  rw [Zoi hw,if_pos hi1,Option.bind_some,Zzy (Ziy hw _ _),Option.bind_some]
  have ht:=Z3f (wd A.segments x.Segment x.At)
  have ho:=(Zi5 (wd A.segments x.Segment x.At)).o
  generalize dc (wd A.segments x.Segment x.At)=t at *
  have hm:=Z8s (n:=t.Off) (x:=t.Data+t.Ptrs) ho (by omega)
  rw [Yy (x:=t.Data+t.Ptrs) (by omega) (by omega),Yy (x:=t.Off * (t.Data+t.Ptrs)) (by omega) (by omega),Yy (x:=x.P.Code+2) (by omega) (by omega),c7']
  by_cases hq:(t.Kind≠0∧t.Kind≠1)∨t.Off < 0∨x.P.Count < t.Off * (t.Data+t.Ptrs)
  ·rw [if_pos hq]
   have:cond (cond (cond (t.Kind != 0) (t.Kind != 1) false) true (decide (t.Off < 0))) true (decide (x.P.Count < t.Off * (t.Data+t.Ptrs)))=true:=by
    rcases hq with ⟨q1,q2⟩ | q | q
    ·rw [bne_iff_ne.2 q1,bne_iff_ne.2 q2];rfl
    ·rw [decide_eq_true q];cases (cond (t.Kind != 0) (t.Kind != 1) false) <;> rfl
    rw [decide_eq_true q];cases (cond (cond (t.Kind != 0) (t.Kind != 1) false) true (decide (t.Off < 0))) <;> rfl
   rw [this,cond_true];rfl
  rw [if_neg hq]
  have e1:cond (t.Kind != 0) (t.Kind != 1) false=false:=by
   by_cases q0:t.Kind=0
   ·rw [show (t.Kind != 0)=false from by rw [q0];rfl];rfl
   have q1:t.Kind=1:=by omega
   rw [show (t.Kind != 1)=false from by rw [q1];rfl]
   cases (t.Kind != 0) <;> rfl
  rw [e1,cond_false,show decide (t.Off < 0)=false from by rw [decide_eq_false_iff_not];omega,cond_false,show decide (x.P.Count < t.Off * (t.Data+t.Ptrs))=false from by rw [decide_eq_false_iff_not];omega]
  rfl
 rw [if_neg c7',show (x.P.Code == 7)=false from Um c7',cond_false,Yy (x:=x.P.Code+2) (by omega) (by omega)]
theorem Zud (r:Zd):Xk r=some (Ym r):=by
 unfold Xk Ym
 by_cases h:r.kind=1
 ·rw [if_pos h,show (r.kind == 1)=true from by rw [h];rfl];rfl
 rw [if_neg h,show (r.kind == 1)=false from Um h];rfl
def Yq (A:Zp) (r:Zd) (i:Int):Zd×Int :=
 if i < 0∨Ym r≤i then (r0,0)
 else if r.kind=1 then atR A r.segment (r.at_+r.words+i)
 else if r.kind=8 then atR A r.segment (r.at_+i)
 else if r.kind=9 then (⟨some A,1,r.segment,r.at_+1+i * (r.words+r.ptrs),r.words,r.ptrs,0,0,0⟩,0)
 else (⟨some A,10,r.segment,r.at_,0,0,0,r.kind - 2,i⟩,0)
theorem Vi {r:Zd} (h:OKr A r) (i:Int):OKr A (Yq A r i).1:=by
 unfold Yq
 by_cases hi:i < 0∨Ym r≤i
 ·rw [if_pos hi];exact .z
 rw [if_neg hi]
 by_cases k1:r.kind=1
 ·rw [if_pos k1];exact Zdd _ _
 rw [if_neg k1]
 by_cases k8:r.kind=8
 ·rw [if_pos k8];exact Zdd _ _
 rw [if_neg k8]
 by_cases k9:r.kind=9
 ·rw [if_pos k9]
  cases h with
  | z=>simp [r0] at k9
  | st _ _ _ _=>simp at k1
  | li k s a n hk=>simp only at k9;omega
  | at_=>simp at k9
  | co s a d p n hd hp hn hw hin =>
   simp only
   have hi':=inB_iff.1 hin
   simp only [Ym] at hi
   rw [if_neg (by omega)] at hi
   have h1:0≤i * (d+p):=Int.mul_nonneg (by omega) (by omega)
   have h2:(i+1) * (d+p)≤n * (d+p):=Int.mul_le_mul_of_nonneg_right (by omega) (by omega)
   rw [Int.add_mul,Int.one_mul] at h2
   exact .st _ _ _ _ hd hp (inB_iff.2 ⟨hi'.1,hi'.2.1,by omega,by omega,by omega⟩)
 rw [if_neg k9]
 cases h with
 | z=>simp [r0,Ym] at hi;omega
 | st _ _ _ _=>simp at k1
 | co=>simp at k9
 | at_=>simp [Ym] at hi;omega
 | li k s a n hk hn hin =>
  simp only at k8 k9 ⊢
  simp only [Ym] at hi
  rw [if_neg (by omega)] at hi
  exact .at_ _ _ _ _ n (by omega) (by omega) (by omega) (by omega) hin
theorem Zo4 (hw:WS A.segments) {s a n:Int} (h:inB A.segments s a n=true):0≤a∧0≤n∧a+n≤17592186044416:=by
 have h':=inB_iff.1 h
 have:=Zio hw s
 omega
theorem Z2s (hw:WS A.segments) {r:Zd} (h:OKr A r) (i:Int):J6 r i=some (Yq A r i):=by
 unfold J6 Yq
 rw [Zud]
 have hz:(cond (decide (i < 0)) (some true) ((some (Ym r)).bind fun y4=>some (cond (decide (i < 0)) true (decide (y4≤i)))))=some (decide (i < 0∨Ym r≤i)):=by
  by_cases h0:i < 0
  ·rw [decide_eq_true h0,cond_true,show decide (i < 0∨Ym r≤i)=true from decide_eq_true (.inl h0)]
  rw [decide_eq_false h0,cond_false,Option.bind_some,cond_false]
  congr 1
  rw [decide_eq_decide]
  omega
 rw [hz,Option.bind_some]
 by_cases hi:i < 0∨Ym r≤i
 ·rw [if_pos hi,decide_eq_true hi];rfl
 rw [if_neg hi,decide_eq_false hi,cond_false]
 cases h with
 | z=>exact absurd hi (by first | (simp [Ym,r0];done) | (simp [Ym,r0];omega))
 | at_=>exact absurd hi (by first | (simp [Ym];done) | (simp [Ym];omega))
 | st s a d p hd hp hin =>
  have:=Zo4 hw hin
  simp only [Ym,if_true] at hi
  simp only [beq_self_eq_true,cond_true,if_true]
  rw [Yy (x:=a+d) (by omega) (by omega),Yy (by omega) (by omega),Z7o hw]
  rfl
 | co s a d p n hd hp hn hwx hin =>
  have:=Zo4 hw hin
  simp only [Ym] at hi
  rw [if_neg (by omega)] at hi
  simp only [show ((9:Int) == 1)=false from rfl,show ((9:Int) == 8)=false from rfl,show ((9:Int) == 9)=true from rfl,cond_true,cond_false,show ¬ (9:Int)=1 from by decide,show ¬ (9:Int)=8 from by decide,if_false,if_true]
  have h1:0≤i * (d+p):=Int.mul_nonneg (by omega) (by omega)
  have h2:(i+1) * (d+p)≤n * (d+p):=Int.mul_le_mul_of_nonneg_right (by omega) (by omega)
  rw [Int.add_mul,Int.one_mul] at h2
  rw [Yy (x:=a+1) (by omega) (by omega),Yy (x:=d+p) (by omega) (by omega),Yy (x:=i * (d+p)) (by omega) (by omega),Yy (by omega) (by omega)]
 | li k s a n hk hn hin =>
  have:=Zo4 hw hin
  simp only [Ym] at hi
  rw [if_neg (by omega)] at hi
  simp only
  rw [show (k == 1)=false from Um (by omega),cond_false,if_neg (by omega),show (k == 9)=false from Um (by omega)]
  by_cases k8:k=8
  ·have hp:(n * wdt (k - 2)+63) / 64=n:=by rw [k8];simp [wdt];omega
   rw [show (k == 8)=true from by rw [k8];rfl,cond_true,if_pos k8,Yy (by omega) (by omega),Z7o hw]
   rfl
  rw [show (k == 8)=false from Um k8,cond_false,cond_false,if_neg k8,if_neg (by omega),Yy (by omega) (by omega)]
def Zb9 (r:Zd):Int:=if r.kind=1 then r.words else if r.kind=10 then 1 else 0
theorem Zv8 (r:Zd):J7 r=some (Zb9 r):=by
 unfold J7 Zb9
 by_cases h:r.kind=1
 ·rw [if_pos h,show (r.kind == 1)=true from by rw [h];rfl];rfl
 rw [if_neg h,show (r.kind == 1)=false from Um h]
 by_cases h':r.kind=10
 ·rw [if_pos h',show (r.kind == 10)=true from by rw [h'];rfl];rfl
 rw [if_neg h',show (r.kind == 10)=false from Um h'];rfl
def Zt6 (w:Int) (c j:Int):Int:=((w.toNat / 2 ^ (j * wdt c).toNat % 2 ^ (wdt c).toNat:Nat):Int)
def each (c:Int):Int:=64 / wdt c
def Zsl (A:Zp) (r:Zd):Int:=if r.code=0 then 0 else Zt6 (wd A.segments r.segment (r.at_+r.index / each r.code)) r.code (r.index % each r.code)
theorem c5 {c:Int} (h:0≤c∧c≤5):c=0∨c=1∨c=2∨c=3∨c=4∨c=5:=by omega
theorem Zxn {c:Int} (h:0≤c∧c≤5):Zag c=some (wdt c,true):=by
 unfold Zag
 rcases c5 h with rfl | rfl | rfl | rfl | rfl | rfl <;> rfl
theorem Z51 (w:Nat) (k:Nat) (hw:w < 18446744073709551616) (hk:k≤64):IntKind.u64.wrap (Vw .u64 (w:Int) (IntKind.u64.wrap (IntKind.u64.wrap (1 * 2 ^ min (Int.toNat (k:Int)) 64) - 1)))=((w % 2 ^ k:Nat):Int):=by
 have hm:IntKind.u64.wrap (IntKind.u64.wrap (1 * 2 ^ min (Int.toNat (k:Int)) 64) - 1)=((2 ^ k - 1:Nat):Int):=by
  rw [Int.toNat_natCast,Nat.min_eq_left hk,Zyl]
  rcases Nat.lt_or_ge k 64 with h | h
  ·have h1:2 ^ k≤2 ^ 63:=Nat.pow_le_pow_right (by decide) (by omega)
   have h2:0 < 2 ^ k:=Nat.pow_pos (by decide)
   rw [Int.one_mul,Yag (2 ^ k) (by omega),show (((2 ^ k:Nat):Int) - 1)=((2 ^ k - 1:Nat):Int) by omega,Yag _ (by omega)]
  have:k=64:=by omega
  subst this
  decide
 rw [hm]
 have e:Vw .u64 (w:Int) ((2 ^ k - 1:Nat):Int)=((w &&& (2 ^ k - 1):Nat):Int):=by
  unfold Vw
  congr 1
  have h1:2 ^ k≤2 ^ 64:=Nat.pow_le_pow_right (by decide) hk
  have h2:0 < 2 ^ k:=Nat.pow_pos (by decide)
  rw [BitVec.toNat_and]
  have e1:(BitVec.ofInt (IntKind.u64).bits (w:Int)).toNat=w:=by
   show (BitVec.ofInt 64 (w:Int)).toNat=w
   rw [BitVec.ofInt_natCast,BitVec.toNat_ofNat]
   exact Nat.mod_eq_of_lt (by omega)
  have e2:(BitVec.ofInt (IntKind.u64).bits ((2 ^ k - 1:Nat):Int)).toNat=2 ^ k - 1:=by
   show (BitVec.ofInt 64 ((2 ^ k - 1:Nat):Int)).toNat=2 ^ k - 1
   rw [BitVec.ofInt_natCast,BitVec.toNat_ofNat]
   exact Nat.mod_eq_of_lt (by omega)
  rw [e1,e2]
 rw [e,Nat.and_two_pow_sub_one_eq_mod]
 have:w % 2 ^ k≤w:=Nat.mod_le _ _
 exact IntWalk.u64_in _ (by omega)
theorem Ycj {w c j:Int} (hw:0≤w∧w < 18446744073709551616) (hc:1≤c∧c≤5) (hj:0≤j∧j < each c):Zer [w] c j=some (Zt6 w c j):=by
 unfold Zer Zt6
 rw [Zxn (by omega),Option.bind_some]
 simp only
 obtain ⟨d,e,hd⟩:∃ d:Nat,wdt c=(d:Int)∧(d=1∨d=8∨d=16∨d=32∨d=64):=by
  rcases c5 (c:=c) (by omega) with rfl | rfl | rfl | rfl | rfl | rfl
  ·omega
  ·exact ⟨1,rfl,by omega⟩
  ·exact ⟨8,rfl,by omega⟩
  ·exact ⟨16,rfl,by omega⟩
  ·exact ⟨32,rfl,by omega⟩
  exact ⟨64,rfl,by omega⟩
 have he:each c=((64 / d:Nat):Int):=by unfold each;rw [e];rfl
 have hdd:64 / d * d=64:=by rcases hd with rfl | rfl | rfl | rfl | rfl <;> rfl
 have hdp:1≤d∧d≤64:=by omega
 have hep:1≤64 / d∧64 / d≤64:=by rcases hd with rfl | rfl | rfl | rfl | rfl <;> decide
 rw [he] at hj
 obtain ⟨q,rfl⟩:∃ q:Nat,j=q:=⟨j.toNat,by omega⟩
 have hq:q < 64 / d:=by omega
 have hqd:q * d+d≤64:=by
  have:(q+1) * d≤64 / d * d:=Nat.mul_le_mul_right d hq
  rw [Nat.add_mul] at this
  omega
 rw [e]
 have t1:Int.tdiv 64 (d:Int)=((64 / d:Nat):Int):=by rw [Int.tdiv_eq_ediv_of_nonneg (by decide)];rfl
 have t2:Int.tdiv (q:Int) ((64 / d:Nat):Int)=0:=by
  rw [Int.tdiv_eq_ediv_of_nonneg (by omega),show ((q:Int) / ((64 / d:Nat):Int))=((q / (64 / d):Nat):Int) from rfl,Nat.div_eq_of_lt hq]
  rfl
 have t3:Int.tmod (q:Int) ((64 / d:Nat):Int)=(q:Int):=by
  rw [Int.tmod_eq_emod_of_nonneg (by omega),show ((q:Int) % ((64 / d:Nat):Int))=((q % (64 / d):Nat):Int) from rfl,Nat.mod_eq_of_lt hq]
 rw [t1,Yy (x:=((64 / d:Nat):Int)) (by omega) (by omega),t2,t3,show IntKind.i64.wrap 0=0 from by decide]
 have t4:((q:Int) * (d:Int))=((q * d:Nat):Int):=by simp
 rw [t4,Yy (x:=((q * d:Nat):Int)) (by omega) (by omega),show (((d:Nat):Int) == 0)=false from Um (by omega),show decide ((q:Int) < 0)=false from by rw [decide_eq_false_iff_not];omega]
 simp only [cond_false]
 have g0:Z5 [w] 0=some w:=rfl
 have e1:Xz ((d:Int)≠0)=some ():=Zac (by omega)
 have e2:Xz (((64 / d:Nat):Int)≠0)=some ():=Zac (by omega)
 have e3:Xz (0≤((q * d:Nat):Int))=some ():=Zac (by omega)
 have e4:Xz (0≤(d:Int))=some ():=Zac (by omega)
 simp only [e1,e2,e3,e4,g0,Option.bind_some,cond_false,show decide ((([w]:List Int).length:Int)≤0)=false from rfl]
 congr 1
 have hwn:w=((w.toNat:Nat):Int):=by omega
 have hf:Int.fdiv w (2 ^ min (Int.toNat ((q * d:Nat):Int)) 64)=((w.toNat / 2 ^ (q * d):Nat):Int):=by
  rw [Int.toNat_natCast,Nat.min_eq_left (by omega),Zyl,Int.fdiv_eq_ediv_of_nonneg _ (Int.natCast_nonneg _)]
  conv=>lhs;rw [hwn]
  rfl
 rw [hf,Z51 _ d (Nat.lt_of_le_of_lt (Nat.div_le_self _ _) (by omega)) (by omega)]
 rw [Int.toNat_natCast,Int.toNat_natCast]
end
section
variable {A:Zp}
def Z10 (A:Zp) (r:Zd) (i:Int):Int :=
 if i < 0∨Zb9 r≤i then 0 else if r.kind=10 then Zsl A r else wd A.segments r.segment (r.at_+i)
theorem Z3x {c i n:Int} (hc:1≤c∧c≤5) (h0:0≤i) (h1:i < n) (hn:n < 536870912):1≤each c∧each c≤64∧0≤i / each c∧i / each c+1≤(n * wdt c+63) / 64∧0≤i % each c∧i % each c < each c∧Int.tdiv 64 (wdt c)=each c∧wdt c≠0:=by
 rcases c5 (c:=c) (by omega) with rfl | rfl | rfl | rfl | rfl | rfl
 ·omega
 ·have e1:each 1=64:=by decide
  have e2:wdt 1=1:=by decide
  rw [e1,e2];exact ⟨by omega,by omega,by omega,by omega,by omega,by omega,by decide,by decide⟩
 ·have e1:each 2=8:=by decide
  have e2:wdt 2=8:=by decide
  rw [e1,e2];exact ⟨by omega,by omega,by omega,by omega,by omega,by omega,by decide,by decide⟩
 ·have e1:each 3=4:=by decide
  have e2:wdt 3=16:=by decide
  rw [e1,e2];exact ⟨by omega,by omega,by omega,by omega,by omega,by omega,by decide,by decide⟩
 ·have e1:each 4=2:=by decide
  have e2:wdt 4=32:=by decide
  rw [e1,e2];exact ⟨by omega,by omega,by omega,by omega,by omega,by omega,by decide,by decide⟩
 have e1:each 5=1:=by decide
 have e2:wdt 5=64:=by decide
 rw [e1,e2];exact ⟨by omega,by omega,by omega,by omega,by omega,by omega,by decide,by decide⟩
theorem Z57 (hw:WS A.segments) {s a c i n:Int} (hc:0≤c∧c≤5) (h0:0≤i) (h1:i < n) (hn:n < 536870912) (hi:inB A.segments s a ((n * wdt c+63) / 64)=true):Ku ⟨some A,10,s,a,0,0,0,c,i⟩=some (Zsl A ⟨some A,10,s,a,0,0,0,c,i⟩):=by
 unfold Ku Zsl
 simp only
 rw [Zxn hc,Option.bind_some]
 simp only
 by_cases hz:c=0
 ·subst hz
  rw [show (wdt 0 == 0)=true from by decide,cond_true,if_pos rfl]
 obtain ⟨a1,a2,a3,a4,a5,a6,a7,a8⟩:=Z3x (c:=c) (by omega) h0 h1 hn
 have hr:=Zo4 hw hi
 have hi':=inB_iff.1 hi
 have hin:inB A.segments s (a+i / each c) 1=true:=inB_iff.2 ⟨hi'.1,hi'.2.1,by omega,by omega,by omega⟩
 rw [show (wdt c == 0)=false from Um a8,cond_false,if_neg hz,a7,Yy (x:=each c) (by omega) (by omega),Int.tdiv_eq_ediv_of_nonneg h0,Int.tmod_eq_emod_of_nonneg h0,Yy (x:=i / each c) (by omega) (by omega),Yy (x:=a+i / each c) (by omega) (by omega)]
 have e1:Xz (wdt c≠0)=some ():=Zac a8
 have e2:Xz (each c≠0)=some ():=Zac (by omega)
 simp only [e1,e2,Option.bind_some]
 rw [Zoi hw,if_pos hin,Option.bind_some]
 simp only
 rw [Ycj (Ziy hw _ _) (by omega) ⟨a5,a6⟩,Option.bind_some]
theorem Zzh (hw:WS A.segments) {r:Zd} (h:OKr A r) (i:Int):Xl r i=some (Z10 A r i):=by
 unfold Xl Z10
 rw [Zv8]
 have hz:(cond (decide (i < 0)) (some true) ((some (Zb9 r)).bind fun y4=>some (cond (decide (i < 0)) true (decide (y4≤i)))))=some (decide (i < 0∨Zb9 r≤i)):=by
  by_cases h0:i < 0
  ·rw [decide_eq_true h0,cond_true,show decide (i < 0∨Zb9 r≤i)=true from decide_eq_true (.inl h0)]
  rw [decide_eq_false h0,cond_false,Option.bind_some,cond_false]
  congr 1
  rw [decide_eq_decide]
  omega
 rw [hz,Option.bind_some]
 by_cases hi:i < 0∨Zb9 r≤i
 ·rw [if_pos hi,decide_eq_true hi];rfl
 rw [if_neg hi,decide_eq_false hi,cond_false]
 cases h with
 | z=>exact absurd hi (by simp [Zb9,r0];try omega)
 | li k s a n hk hn hin=>exact absurd hi (by simp only [Zb9];rw [if_neg (by omega),if_neg (by omega)];omega)
 | co s a d p n hd hp hn hwx hin=>exact absurd hi (by simp [Zb9];try omega)
 | at_ s a c i' n hc h0 h1 hn hin =>
  simp only [beq_self_eq_true,cond_true,if_true]
  rw [Z57 hw hc h0 h1 hn hin]
  rfl
 | st s a d p hd hp hin =>
  have:=Zo4 hw hin
  have hi':=inB_iff.1 hin
  simp only [Zb9,if_true] at hi
  simp only [show ((1:Int) == 10)=false from rfl,cond_false,show ¬ (1:Int)=10 from by decide,if_false]
  rw [Yy (by omega) (by omega),Zoi hw,if_pos (inB_iff.2 ⟨hi'.1,hi'.2.1,by omega,by omega,by omega⟩)]
  rfl
theorem Yb2 (hw:WS A.segments):Zav (some A)=some (atR A 0 0):=by
 unfold Zav
 rw [Z7o hw]
 rfl
end
abbrev Tr:=Zj
def lvR (r:Zd):Int:=if r.kind=0 then 0 else if r.kind=9∧0 < r.count then 2 else 1
def wtR (r:Zd):Int:=if r.kind=0 then 0 else if r.kind=1 then 1+r.words+r.ptrs else if r.kind=9 then 1+r.count * (1+r.words+r.ptrs) else 1+r.count
section
variable {A:Zp}
theorem Yap (hw:WS A.segments) {r:Zd} (h:OKr A r):0≤wtR r∧wtR r≤4503599627370496∧(r.kind≠0→1≤wtR r):=by
 cases h with
 | z=>simp [wtR,r0]
 | st s a d p hd hp hin=>simp [wtR];omega
 | li k s a n hk hn hin=>simp only [wtR];rw [if_neg (by omega),if_neg (by omega),if_neg (by omega)];omega
 | co s a d p n hd hp hn hwx hin =>
  simp only [wtR,show ¬ (9:Int)=0 from by decide,show ¬ (9:Int)=1 from by decide,if_false,if_true]
  have:n * (1+d+p)=n+n * (d+p):=by rw [Int.add_assoc,Int.mul_add,Int.mul_one]
  omega
 | at_ s a c i n hc h0 h1 hn hin=>simp [wtR]
def Yg (A:Zp) (r:Zd):List Int:=if r.kind=10 then [Zsl A r] else if r.kind=1 then ((seg A.segments r.segment).drop r.at_.toNat).take r.words.toNat else []
def Y7 (f:Zd→Int→Tr×Int×Int) (g:Int→Zd×Int):Nat→Nat→Int→List Tr→List Tr×Int×Int
 | 0,_,left,acc=>(acc,left,0)
 | m+1,i,left,acc=>if (g i).2≠0 then (acc,left,(g i).2) else if (f (g i).1 left).2.2≠0 then (acc,(f (g i).1 left).2.1,(f (g i).1 left).2.2) else Y7 f g m (i+1) (f (g i).1 left).2.1 (acc++[(f (g i).1 left).1])
def stK (A:Zp) (f:Zd→Int→Tr×Int×Int) (k:Zd) (left:Int):Tr×Int×Int :=
 let q:=Y7 f (Yq A k) k.ptrs.toNat 0 left []
 (⟨1,Yg A k,q.1⟩,q.2)
def Zzr (A:Zp) (k:Zd) (left:Int):Tr×Int×Int:=(⟨k.kind,Yg A k,[]⟩,left,0)
def U0 (A:Zp) (f1 f2:Zd→Int→Tr×Int×Int) (r:Zd):Zd→Int→Tr×Int×Int :=
 if r.kind=9 then stK A f2 else if r.kind=1∨r.kind=8 then f1 else Zzr A
def Zjh (A:Zp) (f1 f2:Zd→Int→Tr×Int×Int) (d:Int) (r:Zd) (left:Int):Tr×Int×Int :=
 if r.kind=0 then (⟨r.kind,Yg A r,[]⟩,left,0)
 else if d < lvR r∨left < wtR r then (⟨r.kind,Yg A r,[]⟩,left,3)
 else
  let q:=Y7 (U0 A f1 f2 r) (Yq A r) (Ym r).toNat 0 (left - wtR r) []
  (⟨r.kind,Yg A r,q.1⟩,q.2)
def bad (_:Zd) (left:Int):Tr×Int×Int:=(⟨0,[],[]⟩,left,3)
def Zfv (A:Zp):Nat→Zd→Int→Tr×Int×Int
 | 0=>Zjh A bad bad 0
 | 1=>Zjh A (Zfv A 0) bad 1
 | d+2=>Zjh A (Zfv A (d+1)) (Zfv A d) ((d+2:Nat):Int)
def Xr (A:Zp) (k:Nat) (d:Nat):Zd→Int→Tr×Int×Int:=if k≤d then Zfv A (d - k) else bad
theorem Zo8 (d:Nat):Zfv A d=Zjh A (Xr A 1 d) (Xr A 2 d) (d:Int):=by
 match d with
 | 0=>rfl
 | 1=>rfl
 | d+2 =>
  unfold Xr
  rw [if_pos (by omega),if_pos (by omega)]
  rfl
def Lf (A:Zp) (f:Zd→Int→Tr×Int×Int):Prop:=∀ k left,OKr A k→0≤left→(f k left).2.2=0→0≤(f k left).2.1∧(f k left).2.1≤left
theorem Zx8 {f:Zd→Int→Tr×Int×Int} {g:Int→Zd×Int} (hf:Lf A f) (hg:∀ i,OKr A (g i).1):∀ (m i:Nat) (left:Int) (acc:List Tr),0≤left→(Y7 f g m i left acc).2.2=0→0≤(Y7 f g m i left acc).2.1∧(Y7 f g m i left acc).2.1≤left
 | 0,i,left,acc,h0,_=>⟨h0,Int.le_refl _⟩
 | m+1,i,left,acc,h0,h=>by
  rw [Y7] at h ⊢
  by_cases h1:(g i).2≠0
  ·rw [if_pos h1] at h;exact absurd h h1
  rw [if_neg h1] at h ⊢
  by_cases h2:(f (g i).1 left).2.2≠0
  ·rw [if_pos h2] at h;exact absurd h h2
  rw [if_neg h2] at h ⊢
  have h2':(f (g i).1 left).2.2=0:=by omega
  obtain ⟨a1,a2⟩:=hf _ _ (hg i) h0 h2'
  obtain ⟨b1,b2⟩:=Zx8 hf hg m (i+1) _ _ a1 h
  exact ⟨b1,by omega⟩
theorem Z2w:Lf A bad:=fun k left _ _ h=>by simp [bad] at h
theorem Yen {f:Zd→Int→Tr×Int×Int} (hf:Lf A f):Lf A (stK A f):=fun k left hk h0 h=>Zx8 hf (fun i=>Vi hk i) _ _ _ _ h0 h
theorem Z8h:Lf A (Zzr A):=fun k left _ h0 _=>⟨h0,Int.le_refl _⟩
theorem Z37 {f1 f2:Zd→Int→Tr×Int×Int} (h1:Lf A f1) (h2:Lf A f2) (r:Zd):Lf A (U0 A f1 f2 r):=by
 unfold U0
 split
 ·exact Yen h2
 split
 ·exact h1
 exact Z8h
theorem Z8i (hw:WS A.segments) {f1 f2:Zd→Int→Tr×Int×Int} (h1:Lf A f1) (h2:Lf A f2) (d:Int):Lf A (Zjh A f1 f2 d):=fun r left hr h0 h=>by
 have hwt:=Yap hw hr
 unfold Zjh at h ⊢
 by_cases k0:r.kind=0
 ·rw [if_pos k0];exact ⟨h0,Int.le_refl _⟩
 rw [if_neg k0] at h ⊢
 by_cases hb:d < lvR r∨left < wtR r
 ·rw [if_pos hb] at h;simp at h
 rw [if_neg hb] at h ⊢
 have:=Zx8 (Z37 h1 h2 r) (fun i=>Vi hr i) (Ym r).toNat 0 (left - wtR r) [] (by omega) h
 simp only
 omega
theorem Zyi (hw:WS A.segments):∀ d,Lf A (Zfv A d):=fun d=>by
 induction d using Nat.strongRecOn with
 | ind d ih =>
  rw [Zo8]
  refine Z8i hw ?_ ?_ _
  ·unfold Xr
   split
   ·exact ih _ (by omega)
   exact Z2w
  unfold Xr
  split
  ·exact ih _ (by omega)
  exact Z2w
end
theorem Z0p {S R:Type} {s1 s2:S→Option (S ⊕ R)} (h:∀ s x,s1 s=some x→s2 s=some x):∀ (k:Nat) (s:S) (r:R),Gx s1 k s=some r→Gx s2 k s=some r
 | 0,s,r,q=>by simp [Gx] at q
 | k+1,s,r,q=>by
  simp only [Gx] at q ⊢
  cases hs:s1 s with
  | none=>rw [hs] at q;cases q
  | some x =>
   rw [hs] at q
   rw [h s x hs]
   cases x with
   | inl s'=>exact Z0p h k s' r q
   | inr r'=>exact q
theorem Z3b {S R:Type} {s1 s2:S→Option (S ⊕ R)} (h:∀ s x,s1 s=some x→s2 s=some x) {s:S} {r:R} (q:Z6 s1 s=some r):Z6 s2 s=some r:=by
 obtain ⟨k,hk⟩:=Zg1 q
 exact Za6 (Z0p h k s r hk)
theorem Zfa {α β:Type} {o o':Option α} {f f':α→Option β} (h:∀ x,o=some x→o'=some x) (hf:∀ x y,f x=some y→f' x=some y) {r:β} (q:o.bind f=some r):o'.bind f'=some r:=by
 obtain ⟨x,h1,h2⟩:=Option.bind_eq_some_iff.1 q
 rw [h x h1]
 exact hf x r h2
theorem Zh7 {α:Type} (c:Bool) {a a' b b':Option α} (h1:∀ r,a=some r→a'=some r) (h2:∀ r,b=some r→b'=some r) (r:α) (q:cond c a b=some r):cond c a' b'=some r:=by
 cases c with
 | true=>exact h1 r q
 | false=>exact h2 r q
theorem Z8k {R:Type} {F:Nat→Option R} {r:R} (hm:∀ k r,F k=some r→F (k+1)=some r) {K:Nat} (h:F K=some r):lim F=some r:=by
 refine Ztz K fun k hk => ?_
 obtain ⟨d,rfl⟩:∃ d,k=K+d:=⟨k - K,by omega⟩
 clear hk
 induction d with
 | zero=>exact h
 | succ d ih=>exact hm _ _ ih
section
variable {A:Zp}
theorem Zeo {r:Zd} (h:OKr A r):0≤Ym r∧Ym r≤1073741824:=by
 cases h with
 | z=>simp [Ym,r0]
 | st s a d p hd hp hin=>simp only [Ym,if_true];omega
 | li k s a n hk hn hin=>simp only [Ym];rw [if_neg (by omega)];omega
 | co s a d p n hd hp hn hwx hin=>simp only [Ym];rw [if_neg (by omega)];omega
 | at_ s a c i n hc h0 h1 hn hin=>simp [Ym]
theorem Zr9 {r:Zd} (hk:r.kind=9) {i:Int} (h:0≤i∧i < Ym r):(Yq A r i).1.kind=1:=by
 unfold Yq
 rw [if_neg (by omega),if_neg (by omega),if_neg (by omega),if_pos hk]
def LE3 {α β γ δ:Type} (f g:α→β→γ→Option δ):Prop:=∀ x y z r,f x y z=some r→g x y z=some r
def Zol (x m:Int):Int:=if m < (if x < 0 then 0 else x) then m else (if x < 0 then 0 else x)
def Zbw (x:Yd):Yd:=⟨Zol x.Depth 64,Zol x.Weight 65536,Zol x.MaxD 4096,Zol x.MaxOut 131072⟩
theorem Zom (x m:Int) (hm:0≤m):0≤Zol x m∧Zol x m≤m:=by unfold Zol;repeat' split;all_goals omega
end
theorem Zdt (x m:Int) (hm:0≤m):Qd x m=some (Zol x m):=by
 unfold Qd Zol
 by_cases h:x < 0
 ·rw [decide_eq_true h,if_pos h,if_neg (by omega)];rfl
 rw [decide_eq_false h,if_neg h]
 by_cases h2:m < x
 ·rw [decide_eq_true h2,if_pos h2];rfl
 rw [decide_eq_false h2,if_neg h2];rfl
theorem Z28 (x:Yd):Kt x=some (Zbw x):=by
 unfold Kt
 rw [Zdt _ _ (by decide),Zdt _ _ (by decide),Zdt _ _ (by decide),Zdt _ _ (by decide)]
 rfl
theorem Z8j (x:Yd):∃ w,K9 x=some ⟨x.Depth,w,x.MaxD,x.MaxOut⟩:=by
 unfold K9
 cases decide (3000 < x.Weight) with
 | true=>exact ⟨3000,rfl⟩
 | false=>exact ⟨x.Weight,rfl⟩
theorem Z6o {c:Int} (h:0≤c∧c≤5):Xa c=some (wdt c):=by
 unfold Xa
 rcases c5 h with rfl | rfl | rfl | rfl | rfl | rfl <;> rfl
theorem Zzv (q:Int) (n:Nat) (hn:Int.tmod q 64=(n:Int)) (hn2:n < 64):∀ (m t w:Nat),t+m=n→w < 18446744073709551616→Z6 (Jr q) ((w:Int),(t:Int))=some ((w / 2 ^ m:Nat):Int)
 | 0,t,w,h,hw=>by
  refine Yt ?_
  unfold Jr
  simp only
  rw [hn,show decide ((t:Int) < (n:Int))=false from by rw [decide_eq_false_iff_not];omega,cond_false,Nat.pow_zero,Nat.div_one]
 | m+1,t,w,h,hw=>by
  have hs:Jr q ((w:Int),(t:Int))=some (.inl (((w / 2:Nat):Int),((t+1:Nat):Int))):=by
   unfold Jr
   simp only
   rw [hn,show decide ((t:Int) < (n:Int))=true from by rw [decide_eq_true_eq];omega,cond_true,Int.tdiv_eq_ediv_of_nonneg (by omega),show ((w:Int) / 2)=((w / 2:Nat):Int) from rfl,Yag _ (by omega),Yy (by omega) (by omega)]
   rfl
  rw [X9 hs,Zzv q n hn hn2 m (t+1) (w / 2) (by omega) (by omega),Nat.div_div_eq_div_mul,Nat.pow_succ,Nat.mul_comm]
theorem Yd4 {l:List Int} (hl:∀ w∈l,0≤w∧w < 18446744073709551616) {k:Nat} {w:Int} (hk:k < 1125899906842624) (hg:l[k / 64]? = some w):Uo l (k:Int)=some ((w.toNat / 2 ^ (k % 64) % 2:Nat):Int):=by
 have hi:k / 64 < l.length:=by
  rcases Nat.lt_or_ge (k / 64) l.length with h | h
  ·exact h
  rw [List.getElem?_eq_none h] at hg;cases hg
 have hwr:=hl w (List.mem_of_getElem? hg)
 unfold Uo
 have t1:Int.tdiv (k:Int) 64=((k / 64:Nat):Int):=by rw [Int.tdiv_eq_ediv_of_nonneg (by omega)];rfl
 have t2:Int.tmod (k:Int) 64=((k % 64:Nat):Int):=by rw [Int.tmod_eq_emod_of_nonneg (by omega)];rfl
 rw [t1,Yy (x:=((k / 64:Nat):Int)) (by omega) (by omega),show decide ((k:Int) < 0)=false from by rw [decide_eq_false_iff_not];omega,cond_false,show decide ((l.length:Int)≤((k / 64:Nat):Int))=false from by rw [decide_eq_false_iff_not];omega,cond_false,Zaz hg,Option.bind_some]
 have hL:=Zzv (k:Int) (k % 64) t2 (Nat.mod_lt _ (by decide)) (k % 64) 0 w.toNat (by omega) (by omega)
 rw [show ((w.toNat:Nat):Int)=w by omega,show (((0:Nat):Int))=0 from rfl] at hL
 rw [hL,Option.bind_some,Int.tmod_eq_emod_of_nonneg (Int.natCast_nonneg _)]
 rfl
theorem Z0b {l:List Int} (hl:∀ w∈l,0≤w∧w < 18446744073709551616) {d q i:Nat} {w:Int} (hd:1≤d∧d≤64) (hi:i * d+d < 1125899906842624) (hq:∀ j,j < d→(i * d+j) / 64=q∧(i * d+j) % 64=(i * d) % 64+j) (hg:l[q]? = some w):∀ (m:Nat) (acc:Int),m≤d→acc=((w.toNat / 2 ^ ((i * d) % 64+m) % 2 ^ (d - m):Nat):Int) →
  Z6 (Js l (i:Int) (d:Int)) (acc,(m:Int) - 1)=some ((w.toNat / 2 ^ ((i * d) % 64) % 2 ^ d:Nat):Int)
 | 0,acc,hm,ha=>by
  refine Yt ?_
  unfold Js
  simp only
  rw [show decide ((0:Int)≤((0:Nat):Int) - 1)=false from rfl,cond_false,ha]
  rfl
 | m+1,acc,hm,ha=>by
  obtain ⟨q1,q2⟩:=hq m (by omega)
  have hb:=Yd4 hl (k:=i * d+m) (w:=w) (by omega) (by rw [q1];exact hg)
  rw [q2] at hb
  have hlt:w.toNat / 2 ^ ((i * d) % 64+(m+1)) % 2 ^ (d - (m+1)) < 2 ^ 63:=Nat.lt_of_lt_of_le (Nat.mod_lt _ (Nat.pow_pos (by decide))) (Nat.pow_le_pow_right (by decide) (by omega))
  have hbit:w.toNat / 2 ^ ((i * d) % 64+m) % 2 < 2:=Nat.mod_lt _ (by decide)
  have hstep:Js l (i:Int) (d:Int) (acc,((m+1:Nat):Int) - 1)=some (.inl (((w.toNat / 2 ^ ((i * d) % 64+m) % 2 ^ (d - m):Nat):Int),(m:Int) - 1)):=by
   unfold Js
   simp only
   have e1:IntKind.i64.wrap (IntKind.i64.wrap ((i:Int) * (d:Int))+(((m+1:Nat):Int) - 1))=((i * d+m:Nat):Int):=by
    have e0:((i:Int) * (d:Int))=((i * d:Nat):Int):=by simp
    rw [e0,Yy (x:=((i * d:Nat):Int)) (by omega) (by omega),Yy (by omega) (by omega)]
    omega
   rw [show decide ((0:Int)≤((m+1:Nat):Int) - 1)=true from by rw [decide_eq_true_eq];omega,cond_true,e1,hb,Option.bind_some,ha]
   have e2:((w.toNat / 2 ^ ((i * d) % 64+(m+1)) % 2 ^ (d - (m+1)):Nat):Int) * 2=((w.toNat / 2 ^ ((i * d) % 64+(m+1)) % 2 ^ (d - (m+1)) * 2:Nat):Int):=by simp
   rw [e2,Yag _ (by omega),← Int.natCast_add,Yag _ (by omega),Yy (by omega) (by omega)]
   have e3:w.toNat / 2 ^ ((i * d) % 64+(m+1)) % 2 ^ (d - (m+1)) * 2+w.toNat / 2 ^ ((i * d) % 64+m) % 2=w.toNat / 2 ^ ((i * d) % 64+m) % 2 ^ (d - m):=by
    have h1:w.toNat / 2 ^ ((i * d) % 64+(m+1))=w.toNat / 2 ^ ((i * d) % 64+m) / 2:=by
     rw [Nat.div_div_eq_div_mul,← Nat.pow_succ];rfl
    have h2:d - m=(d - (m+1))+1:=by omega
    rw [h1,h2]
    generalize w.toNat / 2 ^ ((i * d) % 64+m)=x
    generalize d - (m+1)=y
    rw [Nat.pow_succ,Nat.mul_comm (2 ^ y) 2,Nat.mod_mul]
    omega
   rw [e3]
   congr 3
   omega
  rw [X9 hstep]
  exact Z0b hl hd hi hq hg m _ (by omega) rfl
theorem Yb0 {l:List Int} (hl:∀ w∈l,0≤w∧w < 18446744073709551616) {c i n:Int} (hc:0≤c∧c≤5) (h0:0≤i) (h1:i < n) (hn:n < 536870912) (hi:(n * wdt c+63) / 64≤l.length):Up l c i=some (if c=0 then 0 else Zt6 ((l[(i / each c).toNat]?).getD 0) c (i % each c)):=by
 unfold Up
 rw [Z6o hc,Option.bind_some]
 by_cases hz:c=0
 ·subst hz
  rw [if_pos rfl]
  rfl
 rw [if_neg hz]
 obtain ⟨d,e,hd⟩:∃ d:Nat,wdt c=(d:Int)∧(d=1∨d=8∨d=16∨d=32∨d=64):=by
  rcases c5 hc with rfl | rfl | rfl | rfl | rfl | rfl
  ·omega
  ·exact ⟨1,rfl,by omega⟩
  ·exact ⟨8,rfl,by omega⟩
  ·exact ⟨16,rfl,by omega⟩
  ·exact ⟨32,rfl,by omega⟩
  exact ⟨64,rfl,by omega⟩
 obtain ⟨j,rfl⟩:∃ j:Nat,i=j:=⟨i.toNat,by omega⟩
 have he:each c=((64 / d:Nat):Int):=by unfold each;rw [e];rfl
 rw [e] at hi ⊢
 rw [show decide ((d:Int) < 1)=false from by rw [decide_eq_false_iff_not];omega,show decide ((j:Int) < 0)=false from by rw [decide_eq_false_iff_not];omega,show decide (1099511627776 < (j:Int))=false from by rw [decide_eq_false_iff_not];omega]
 simp only [cond_false]
 rw [Yy (x:=(d:Int) - 1) (by omega) (by omega)]
 have hqn:((j:Int) / each c).toNat=j / (64 / d):=by rw [he];rfl
 have hrn:((j:Int) % each c)=((j % (64 / d):Nat):Int):=by rw [he];rfl
 rw [hqn,hrn]
 have hin:j / (64 / d) < l.length∧∀ t,t < d→(j * d+t) / 64=j / (64 / d)∧(j * d+t) % 64=(j * d) % 64+t:=by
  rcases hd with rfl | rfl | rfl | rfl | rfl
  ·exact ⟨by omega,fun t ht=>by omega⟩
  ·exact ⟨by omega,fun t ht=>by omega⟩
  ·exact ⟨by omega,fun t ht=>by omega⟩
  ·exact ⟨by omega,fun t ht=>by omega⟩
  exact ⟨by omega,fun t ht=>by omega⟩
 have hoff:(j * d) % 64=(j % (64 / d)) * d:=by
  rcases hd with rfl | rfl | rfl | rfl | rfl
  ·omega
  ·omega
  ·omega
  ·omega
  omega
 have hg:l[j / (64 / d)]? = some l[j / (64 / d)]:=List.getElem?_eq_getElem hin.1
 have hjd:j * d≤536870912 * 64:=Nat.mul_le_mul (by omega) (by omega)
 rw [Z0b hl (d:=d) (i:=j) (by omega) (by omega) hin.2 hg d 0 (Nat.le_refl _) (by rw [Nat.sub_self,Nat.pow_zero,Nat.mod_one];rfl),Option.bind_some,hg,Option.getD_some]
 unfold Zt6
 rw [e,hoff]
 congr 4
section
variable {A:Zp}
def K4 (A:Zp) (r:Zd):Zs :=
 if r.kind=0 then ⟨0,0,0,0,0,0,0⟩
 else if r.kind=1 then ⟨1,r.segment,r.at_,r.words,r.ptrs,0,0⟩
 else if r.kind=9 then ⟨9,r.segment,r.at_+1,r.words,r.ptrs,r.count,0⟩
 else if r.kind=10 then ⟨10,0,0,0,0,0,Zsl A r⟩
 else ⟨r.kind,r.segment,r.at_,0,0,r.count,0⟩
def Zus (A:Zp) (x:Zd×Int):Zs×Int:=(K4 A x.1,x.2)
theorem Zd9 {r:Zd}:(K4 A r).Kind=r.kind:=by
 unfold K4
 split
 ·symm;assumption
 split
 ·symm;assumption
 split
 ·symm;assumption
 split
 ·symm;assumption
 rfl
theorem Yax {w:Int} (h:0≤w):(dc w).Kind=0↔w=0:=by
 unfold dc Zu5
 constructor
 ·intro q
  split at q
  ·omega
  split at q
  ·simp at q
  split at q
  ·simp at q
  split at q
  ·simp at q
  simp at q
 intro q
 rw [if_pos (by omega)]
theorem Z24 (hw:WS A.segments) (s a:Int):Kq A.segments s a=some (Zus A (atR A s a)):=by
 have hk0:=Zi7 A.segments s a
 have hR:Jt A.segments s a=some (⟨(fol A.segments s a).1.P,(fol A.segments s a).1.Segment,(fol A.segments s a).1.At⟩,(fol A.segments s a).2):=Z27 hw s a
 unfold Kq atR
 rw [hR,Option.bind_some]
 clear hR
 revert hk0
 generalize fol A.segments s a=y
 intro hk0
 obtain ⟨x,e⟩:=y
 dsimp only at hk0 ⊢
 rcases hk0 with h | ⟨h1,hp,hk,hi⟩
 ·rw [if_pos h]
  have:cond (e != 0) true (x.P.Kind == 0)=true:=by
   rcases h with h | h
   ·rw [bne_iff_ne.2 h];rfl
   rw [show (x.P.Kind == 0)=true from by rw [h];rfl]
   cases (e != 0) <;> rfl
  rw [this,cond_true];rfl
 rw [if_neg (by omega),h1,show ((0:Int) != 0)=false from rfl,cond_false]
 rw [show (x.P.Kind == 0)=false from Um (by omega),cond_false]
 by_cases k1:x.P.Kind=1
 ·rw [if_pos k1,show (x.P.Kind == 1)=true from by rw [k1];rfl,cond_true]
  rfl
 rw [if_neg k1,show (x.P.Kind == 1)=false from Um k1,cond_false]
 have hc:=hp.c
 by_cases c7':x.P.Code=7
 ·rw [if_pos c7',show decide (x.P.Code < 7)=false from by rw [decide_eq_false_iff_not];omega,cond_false]
  have hpw:pw x.P=x.P.Count+1:=by unfold pw;rw [if_neg k1,if_pos c7']
  rw [hpw] at hi
  have hn:=hp.n
  have hi':=inB_iff.1 hi
  have hi1:inB A.segments x.Segment x.At 1=true:=inB_iff.2 ⟨hi'.1,hi'.2.1,hi'.2.2.1,by omega,by omega⟩
  have hwr:=Ziy hw x.Segment x.At
  have hrr:=Zo4 hw hi
  rw [(Zb7 hi'.1 hi'.2.1).1,Option.bind_some,(Zry hi1).1,Option.bind_some,Zue hwr,Option.bind_some]
  have ht:=Z3f (wd A.segments x.Segment x.At)
  have ho:=(Zi5 (wd A.segments x.Segment x.At)).o
  have hdz:=Yax hwr.1
  generalize dc (wd A.segments x.Segment x.At)=t at *
  have hm:=Z8s (n:=t.Off) (x:=t.Data+t.Ptrs) ho (by omega)
  rw [Yy (x:=t.Data+t.Ptrs) (by omega) (by omega),Yy (x:=t.Off * (t.Data+t.Ptrs)) (by omega) (by omega),Yy (x:=x.At+1) (by omega) (by omega)]
  by_cases hq:(t.Kind≠0∧t.Kind≠1)∨t.Off < 0∨x.P.Count < t.Off * (t.Data+t.Ptrs)
  ·rw [if_pos hq]
   have:cond (cond (cond (wd A.segments x.Segment x.At != 0) (t.Kind != 1) false) true (decide (t.Off < 0))) true (decide (x.P.Count < t.Off * (t.Data+t.Ptrs)))=true:=by
    rcases hq with ⟨q1,q2⟩ | q | q
    ·rw [bne_iff_ne.2 (fun z=>q1 (hdz.2 z)),bne_iff_ne.2 q2];rfl
    ·rw [decide_eq_true q];cases (cond (wd A.segments x.Segment x.At != 0) (t.Kind != 1) false) <;> rfl
    rw [decide_eq_true q];cases (cond (cond (wd A.segments x.Segment x.At != 0) (t.Kind != 1) false) true (decide (t.Off < 0))) <;> rfl
   rw [this,cond_true];rfl
  rw [if_neg hq]
  have e1:cond (wd A.segments x.Segment x.At != 0) (t.Kind != 1) false=false:=by
   by_cases q0:wd A.segments x.Segment x.At=0
   ·rw [show (wd A.segments x.Segment x.At != 0)=false from bne_eq_false_iff_eq.2 q0];rfl
   have q1:t.Kind=1:=by
    have:t.Kind≠0:=fun z=>q0 (hdz.1 z)
    omega
   rw [show (t.Kind != 1)=false from by rw [q1];rfl]
   cases (wd A.segments x.Segment x.At != 0) <;> rfl
  rw [e1,cond_false,show decide (t.Off < 0)=false from by rw [decide_eq_false_iff_not];omega,cond_false,show decide (x.P.Count < t.Off * (t.Data+t.Ptrs))=false from by rw [decide_eq_false_iff_not];omega]
  rfl
 rw [if_neg c7',show decide (x.P.Code < 7)=true from by rw [decide_eq_true_eq];omega,cond_true,Yy (x:=2+x.P.Code) (by omega) (by omega)]
 unfold Zus K4
 simp only
 rw [if_neg (by omega),if_neg (by omega),if_neg (by omega),if_neg (by omega),show 2+x.P.Code=x.P.Code+2 by omega]
theorem Zlp {r:Zd} (h:OKr A r):Qf (K4 A r)=some (Ym r):=by
 unfold Qf
 rw [Zd9]
 unfold Ym K4
 by_cases h1:r.kind=1
 ·rw [if_pos h1,show (r.kind == 1)=true from by rw [h1];rfl,cond_true,if_neg (by omega),if_pos h1]
 rw [if_neg h1,show (r.kind == 1)=false from Um h1,cond_false]
 by_cases h0:r.kind=0
 ·rw [if_pos h0]
  cases h with
  | z=>rfl
  | st=>simp at h0
  | li k s a n hk=>simp only at h0;omega
  | co=>simp at h0
  | at_=>simp at h0
 rw [if_neg h0,if_neg h1]
 by_cases h9:r.kind=9
 ·rw [if_pos h9]
 rw [if_neg h9]
 by_cases h10:r.kind=10
 ·rw [if_pos h10]
  cases h with
  | z=>rfl
  | st=>rfl
  | li k s a n hk=>simp only at h10;omega
  | co=>simp at h10
  | at_=>rfl
 rw [if_neg h10]
theorem Zob (hw:WS A.segments) {r:Zd} (h:OKr A r):X8 (K4 A r) A.segments=some (Yg A r):=by
 unfold X8
 rw [Zd9]
 unfold Yg K4
 cases h with
 | z=>rfl
 | li k s a n hk hn hin =>
  simp only
  rw [show (k == 10)=false from Um (by omega),cond_false,show (k != 1)=true from bne_iff_ne.2 (by omega),cond_true,if_neg (by omega),if_neg (by omega)]
 | co s a d p n hd hp hn hwx hin=>rfl
 | at_ s a c i n hc h0 h1 hn hin=>rfl
 | st s a d p hd hp hin =>
  have hi':=inB_iff.1 hin
  have hl:=Zio hw s
  simp only [show ((1:Int) == 10)=false from rfl,show ((1:Int) != 1)=false from rfl,cond_false,show ¬ (1:Int)=0 from by decide,show ¬ (1:Int)=10 from by decide,if_false,if_true]
  rw [(Zb7 hi'.1 hi'.2.1).1,Option.bind_some,Yy (x:=a+d) (by omega) (by omega),Zs6 (by omega) (by omega) (by omega),Option.bind_some,show a+d - a=d by omega,Zcx (by simp only [List.length_nil,List.length_take,List.length_drop];omega) (by simp only [List.length_nil,List.length_take,List.length_drop];omega),List.nil_append]
  rfl
theorem Z93 (hw:WS A.segments) (s:Int):∀ w∈seg A.segments s,0≤w∧w < 18446744073709551616:=by
 unfold seg
 cases h:A.segments[s.toNat]? with
 | none=>simp
 | some x=>exact hw.w x (List.mem_of_getElem? h)
theorem Z1h (hw:WS A.segments) {r:Zd} (h:OKr A r) (i:Int):Jg (K4 A r) A.segments i=some (Zus A (Yq A r i)):=by
 unfold Jg Yq
 rw [Zlp h,Zd9]
 have hz:(cond (decide (i < 0)) (some true) ((some (Ym r)).bind fun y4=>some (cond (decide (i < 0)) true (decide (y4≤i)))))=some (decide (i < 0∨Ym r≤i)):=by
  by_cases h0:i < 0
  ·rw [decide_eq_true h0,cond_true,show decide (i < 0∨Ym r≤i)=true from decide_eq_true (.inl h0)]
  rw [decide_eq_false h0,cond_false,Option.bind_some,cond_false]
  congr 1
  rw [decide_eq_decide]
  omega
 rw [hz,Option.bind_some]
 by_cases hi:i < 0∨Ym r≤i
 ·rw [if_pos hi,decide_eq_true hi];rfl
 rw [if_neg hi,decide_eq_false hi,cond_false]
 cases h with
 | z=>exact absurd hi (by first | (simp [Ym,r0];done) | (simp [Ym,r0];omega))
 | at_=>exact absurd hi (by first | (simp [Ym];done) | (simp [Ym];omega))
 | st s a d p hd hp hin =>
  have:=Zo4 hw hin
  simp only [Ym,if_true] at hi
  have e:K4 A (⟨some A,1,s,a,d,p,0,0,0⟩:Zd)=⟨1,s,a,d,p,0,0⟩:=rfl
  simp only [e,beq_self_eq_true,cond_true,if_true]
  rw [Yy (x:=a+d) (by omega) (by omega),Yy (by omega) (by omega),Z24 hw]
  rfl
 | co s a d p n hd hp hn hwx hin =>
  have:=Zo4 hw hin
  simp only [Ym] at hi
  rw [if_neg (by omega)] at hi
  have e:K4 A (⟨some A,9,s,a,d,p,n,0,0⟩:Zd)=⟨9,s,a+1,d,p,n,0⟩:=rfl
  simp only [e,show ((9:Int) == 1)=false from rfl,show ((9:Int) == 8)=false from rfl,show ((9:Int) == 9)=true from rfl,cond_true,cond_false,show ¬ (9:Int)=1 from by decide,show ¬ (9:Int)=8 from by decide,if_false,if_true]
  have h1:0≤i * (d+p):=Int.mul_nonneg (by omega) (by omega)
  have h2:(i+1) * (d+p)≤n * (d+p):=Int.mul_le_mul_of_nonneg_right (by omega) (by omega)
  rw [Int.add_mul,Int.one_mul] at h2
  rw [Yy (x:=d+p) (by omega) (by omega),Yy (x:=i * (d+p)) (by omega) (by omega),Yy (by omega) (by omega)]
  rfl
 | li k s a n hk hn hin =>
  have hr:=Zo4 hw hin
  have hi':=inB_iff.1 hin
  simp only [Ym] at hi
  rw [if_neg (by omega)] at hi
  have e:K4 A (⟨some A,k,s,a,0,0,n,0,0⟩:Zd)=⟨k,s,a,0,0,n,0⟩:=by
   unfold K4
   simp only
   rw [if_neg (by omega),if_neg (by omega),if_neg (by omega),if_neg (by omega)]
  simp only [e]
  rw [show (k == 1)=false from Um (by omega),cond_false,if_neg (by omega),show (k == 9)=false from Um (by omega)]
  by_cases k8:k=8
  ·have hp:(n * wdt (k - 2)+63) / 64=n:=by rw [k8];simp [wdt];omega
   rw [show (k == 8)=true from by rw [k8];rfl,cond_true,if_pos k8,Yy (by omega) (by omega),Z24 hw]
   rfl
  rw [show (k == 8)=false from Um k8,cond_false,cond_false,if_neg k8,if_neg (by omega),Yy (by omega) (by omega),(Zb7 hi'.1 hi'.2.1).1,Option.bind_some,Zs6 (by omega) (by omega) (by omega),Option.bind_some]
  have hlen:((seg A.segments s).drop a.toNat).length=(seg A.segments s).length - a.toNat:=List.length_drop
  have htk:((seg A.segments s).drop a.toNat).take (((seg A.segments s).length:Int) - a).toNat=(seg A.segments s).drop a.toNat:=List.take_of_length_le (by rw [hlen];omega)
  rw [htk,Yb0 (fun w hm=>Z93 hw s w (List.mem_of_mem_drop hm)) (c:=k - 2) (n:=n) (by omega) (by omega) (by omega) (by omega) (by rw [hlen];omega),Option.bind_some]
  unfold Zus K4 Zsl
  simp only [show ¬ (10:Int)=0 from by decide,show ¬ (10:Int)=1 from by decide,show ¬ (10:Int)=9 from by decide,if_false,if_true]
  congr 3
  by_cases hz:k - 2=0
  ·rw [if_pos hz,if_pos hz]
  rw [if_neg hz,if_neg hz]
  obtain ⟨a1,a2,a3,a4,a5,a6,a7,a8⟩:=Z3x (c:=k - 2) (i:=i) (n:=n) (by omega) (by omega) (by omega) (by omega)
  unfold wd
  rw [List.getElem?_drop,show (a+i / each (k - 2)).toNat=a.toNat+(i / each (k - 2)).toNat by omega]
end
theorem Ygo (t:Tr):(⟨t.Kind,t.Words,t.Kids⟩:Tr)=t:=by cases t;rfl
section
variable {A:Zp}
theorem Zqi {step:Int×Int×List Tr→Option ((Int×Int×List Tr) ⊕ ((Int×Int×List Tr) ⊕ (Int×List Tr)))} {f:Zd→Int→Tr×Int×Int} {r:Zd} (hr:OKr A r) (n:Nat) (hn:n≤1073741824)
  (hs:∀ (i:Nat) (left:Int) (acc:List Tr),i < n→acc.length=i→0≤left∧left≤65536→step (left,(i:Int),acc)=some (if (Yq A r i).2≠0 then .inr (.inl (left,(Yq A r i).2,acc)) else if (f (Yq A r i).1 left).2.2≠0 then .inr (.inl ((f (Yq A r i).1 left).2.1,(f (Yq A r i).1 left).2.2,acc)) else .inl ((f (Yq A r i).1 left).2.1,((i+1:Nat):Int),acc++[(f (Yq A r i).1 left).1])))
  (he:∀ left acc,step (left,(n:Int),acc)=some (.inr (.inr (left,acc))))
  (hf:Lf A f):∀ (m i:Nat) (left:Int) (acc:List Tr),i+m=n→acc.length=i→0≤left∧left≤65536 →
  Z6 step (left,(i:Int),acc)=some (if (Y7 f (Yq A r) m i left acc).2.2=0 then .inr ((Y7 f (Yq A r) m i left acc).2.1,(Y7 f (Yq A r) m i left acc).1) else .inl ((Y7 f (Yq A r) m i left acc).2.1,(Y7 f (Yq A r) m i left acc).2.2,(Y7 f (Yq A r) m i left acc).1))
 | 0,i,left,acc,hi,ha,hl=>by
  have:i=n:=by omega
  subst this
  exact Yt (he left acc)
 | m+1,i,left,acc,hi,ha,hl=>by
  have hst:=hs i left acc (by omega) ha hl
  rw [Y7]
  by_cases h1:(Yq A r i).2≠0
  ·rw [if_pos h1] at hst ⊢
   rw [if_neg h1]
   exact Yt hst
  rw [if_neg h1] at hst ⊢
  by_cases h2:(f (Yq A r i).1 left).2.2≠0
  ·rw [if_pos h2] at hst ⊢
   rw [if_neg h2]
   exact Yt hst
  rw [if_neg h2] at hst ⊢
  have hb:=hf _ left (Vi hr i) hl.1 (by omega)
  rw [X9 hst]
  exact Zqi hr n hn hs he hf m (i+1) _ _ (by omega) (by rw [List.length_append,ha];rfl) ⟨hb.1,by omega⟩
abbrev MF:=List (List Int)→Zs→Int→Int→Option (Tr×Int×Int)
theorem Z22 (hw:WS A.segments) {f1 f2:MF} {f:Zd→Int→Tr×Int×Int} (hf:Lf A f) {r:Zd} (hr:OKr A r) (h1:r.kind=1) {d left:Int} (hl:0≤left∧left≤65536)
  (hF:∀ (k:Zd) (l:Int),OKr A k→0≤l∧l≤65536→f1 A.segments (K4 A k) d l=some (f k l)):Kk f1 f2 A.segments (K4 A r) d left=some (stK A f r left):=by
 have hp:(K4 A r).Ptrs=r.ptrs:=by unfold K4;rw [if_neg (by omega),if_pos h1]
 have hpr:0≤r.ptrs∧r.ptrs < 65536:=by
  cases hr with
  | z=>simp [r0] at h1
  | st s a d p hd hp2 hin=>exact hp2
  | li k s a n hk=>simp only at h1;omega
  | co=>simp at h1
  | at_=>simp at h1
 unfold Kk stK
 rw [Zob hw hr,Option.bind_some]
 have hL:=Zqi (step:=Kb f1 A.segments (K4 A r) d) (f:=f) hr r.ptrs.toNat (by omega) (fun i l acc hi ha hl=>by
  unfold Kb
  simp only
  rw [hp,show decide ((i:Int) < r.ptrs)=true from by rw [decide_eq_true_eq];omega,cond_true,Z1h hw hr,Option.bind_some]
  simp only [Zus]
  by_cases h1:(Yq A r i).2≠0
  ·rw [if_pos h1,bne_iff_ne.2 h1,cond_true]
  rw [if_neg h1,bne_eq_false_iff_eq.2 (show (Yq A r i).2=0 by omega),cond_false,hF _ l (Vi hr i) hl,Option.bind_some]
  by_cases h2:(f (Yq A r i).1 l).2.2≠0
  ·rw [if_pos h2,bne_iff_ne.2 h2,cond_true]
  rw [if_neg h2,bne_eq_false_iff_eq.2 (show (f (Yq A r i).1 l).2.2=0 by omega),cond_false,Zcx (by simp only [List.length_singleton];omega) (by simp only [List.length_singleton];omega),Option.bind_some,Yy (by omega) (by omega)]
  rfl) (fun l acc=>by
  unfold Kb
  simp only
  rw [hp,show decide (((r.ptrs.toNat:Nat):Int) < r.ptrs)=false from by rw [decide_eq_false_iff_not];omega,cond_false]) hf r.ptrs.toNat 0 left [] (by omega) rfl hl
 rw [show (((0:Nat):Int))=0 from rfl] at hL
 rw [hL,Option.bind_some]
 by_cases hq:(Y7 f (Yq A r) r.ptrs.toNat 0 left []).2.2=0
 ·rw [if_pos hq]
  simp only
  rw [show (Y7 f (Yq A r) r.ptrs.toNat 0 left []).2=((Y7 f (Yq A r) r.ptrs.toNat 0 left []).2.1,0) from by rw [← hq]]
 rw [if_neg hq]
theorem Z3h {r:Zd} (hr:OKr A r):(r.kind=1→(K4 A r).Data=r.words∧(K4 A r).Ptrs=r.ptrs)∧(r.kind=9→(K4 A r).Data=r.words∧(K4 A r).Ptrs=r.ptrs∧(K4 A r).Count=r.count):=by
 refine ⟨fun h => ?_,fun h => ?_⟩
 ·unfold K4
  rw [if_neg (by omega),if_pos h]
  exact ⟨rfl,rfl⟩
 unfold K4
 rw [if_neg (by omega),if_neg (by omega),if_pos h]
 exact ⟨rfl,rfl,rfl⟩
theorem Z9m (hw:WS A.segments) {f1 f2:MF} {g1 g2:Zd→Int→Tr×Int×Int} (l1:Lf A g1) (l2:Lf A g2) {r:Zd} (hr:OKr A r) {d left:Int} (hd:0≤d∧d≤1000) (hl:0≤left∧left≤65536)
  (h1:1≤d→∀ (k:Zd) (l:Int),OKr A k→0≤l∧l≤65536→f1 A.segments (K4 A k) (d - 1) l=some (g1 k l))
  (h2:2≤d→∀ (k:Zd) (l:Int),OKr A k→k.kind=1→0≤l∧l≤65536→f2 A.segments (K4 A k) (d - 2) l=some (stK A g2 k l)):Jd f1 f2 A.segments (K4 A r) d left=some (Zjh A g1 g2 d r left):=by
 have hwt:=Yap hw hr
 have hkn:=Zeo hr
 obtain ⟨fr1,fr9⟩:=Z3h hr
 unfold Jd Zjh
 rw [Zob hw hr,Option.bind_some,Zd9,Zlp hr]
 by_cases k0:r.kind=0
 ·rw [if_pos k0,show (r.kind == 0)=true from by rw [k0];rfl,cond_true]
 rw [if_neg k0,show (r.kind == 0)=false from Um k0,cond_false]
 have hlv:(cond (decide (d < 1)) true (cond (cond (r.kind == 9) (decide (0 < (K4 A r).Count)) false) (decide (d < 2)) false))=decide (d < lvR r):=by
  unfold lvR
  rw [if_neg k0]
  by_cases k9:r.kind=9
  ·rw [show (r.kind == 9)=true from by rw [k9];rfl,(fr9 k9).2.2,cond_true]
   by_cases hc:0 < r.count
   ·rw [if_pos ⟨k9,hc⟩,decide_eq_true hc,cond_true]
    by_cases hd1:d < 1
    ·rw [decide_eq_true hd1,cond_true,decide_eq_true (show d < 2 by omega)]
    rw [decide_eq_false hd1,cond_false]
   rw [if_neg (fun q=>hc q.2),decide_eq_false hc,cond_false]
   cases decide (d < 1) <;> rfl
  rw [show (r.kind == 9)=false from Um k9,cond_false,cond_false,if_neg (fun q=>k9 q.1)]
  cases decide (d < 1) <;> rfl
 rw [hlv]
 have hwx:((cond (r.kind == 1) (some (IntKind.i64.wrap ((IntKind.i64.wrap (1+(K4 A r).Data))+(K4 A r).Ptrs))) (some (IntKind.i64.wrap (1+Ym r)))).bind fun (z5:Int)=>(cond (r.kind == 9) (some (IntKind.i64.wrap (1+(IntKind.i64.wrap ((K4 A r).Count * (IntKind.i64.wrap ((IntKind.i64.wrap (1+(K4 A r).Data))+(K4 A r).Ptrs))))))) (some z5)))=some (wtR r):=by
  unfold wtR
  rw [if_neg k0]
  by_cases k1:r.kind=1
  ·rw [if_pos k1,show (r.kind == 1)=true from by rw [k1];rfl,cond_true,Option.bind_some,show (r.kind == 9)=false from Um (by omega),cond_false,(fr1 k1).1,(fr1 k1).2]
   cases hr with
   | z=>simp [r0] at k1
   | st s a d p hd hp hin=>simp only;rw [Yy (x:=1+d) (by omega) (by omega),Yy (by omega) (by omega)]
   | li k s a n hk=>simp only at k1;omega
   | co=>simp at k1
   | at_=>simp at k1
  rw [if_neg k1,show (r.kind == 1)=false from Um k1,cond_false,Option.bind_some]
  by_cases k9:r.kind=9
  ·rw [if_pos k9,show (r.kind == 9)=true from by rw [k9];rfl,cond_true,(fr9 k9).1,(fr9 k9).2.1,(fr9 k9).2.2]
   cases hr with
   | z=>simp [r0] at k9
   | st=>simp at k9
   | li k s a n hk=>simp only at k9;omega
   | at_=>simp at k9
   | co s a d p n hd hp hn hwx hin =>
    have:n * (1+d+p)=n+n * (d+p):=by rw [Int.add_assoc,Int.mul_add,Int.mul_one]
    simp only
    rw [Yy (x:=1+d) (by omega) (by omega),Yy (x:=1+d+p) (by omega) (by omega),Yy (x:=n * (1+d+p)) (by omega) (by omega),Yy (by omega) (by omega)]
  have hkc:Ym r=r.count:=by unfold Ym;rw [if_neg k1]
  rw [if_neg k9,show (r.kind == 9)=false from Um k9,cond_false,Yy (by omega) (by omega),hkc]
 by_cases hb1:d < lvR r
 ·rw [decide_eq_true hb1,cond_true,if_pos (.inl hb1)]
 rw [decide_eq_false hb1,cond_false,Option.bind_some]
 have hstep2:∀ {K:Int→Option (Tr×Int×Int)},((cond (r.kind == 1) (some (IntKind.i64.wrap ((IntKind.i64.wrap (1+(K4 A r).Data))+(K4 A r).Ptrs))) (some (IntKind.i64.wrap (1+Ym r)))).bind fun (z5:Int)=>(cond (r.kind == 9) (some (IntKind.i64.wrap (1+(IntKind.i64.wrap ((K4 A r).Count * (IntKind.i64.wrap ((IntKind.i64.wrap (1+(K4 A r).Data))+(K4 A r).Ptrs))))))) (some z5)).bind K)=K (wtR r):=fun {K}=>by
  rw [← Option.bind_assoc,hwx,Option.bind_some]
 rw [hstep2]
 by_cases hb2:left < wtR r
 ·rw [decide_eq_true hb2,cond_true,if_pos (.inr hb2)]
 rw [decide_eq_false hb2,cond_false,if_neg (by omega),Yy (x:=left - wtR r) (by omega) (by omega)]
 have hlvd:1≤d:=by
  have:1≤lvR r:=by unfold lvR;rw [if_neg k0];split <;> omega
  omega
 have hN:Ym r=(((Ym r).toNat:Nat):Int):=by omega
 -- one kid
 have hkf:∀ (i:Nat) (l:Int),i < (Ym r).toNat→(Yq A r i).2=0→0≤l∧l≤65536→(cond (r.kind == 9) ((f2 A.segments (K4 A (Yq A r i).1) (IntKind.i64.wrap (d - 2)) l).bind fun y16=>some (y16.2.1,y16.2.2,y16.1.Kind,y16.1.Words,y16.1.Kids)) (cond (cond (r.kind == 1) true (r.kind == 8)) ((f1 A.segments (K4 A (Yq A r i).1) (IntKind.i64.wrap (d - 1)) l).bind fun y17=>some (y17.2.1,y17.2.2,y17.1.Kind,y17.1.Words,y17.1.Kids)) (some (l,(Yq A r i).2,(Yq A r i).1.kind,Yg A (Yq A r i).1,([]:List Tr)))))=some ((U0 A g1 g2 r (Yq A r i).1 l).2.1,(U0 A g1 g2 r (Yq A r i).1 l).2.2,(U0 A g1 g2 r (Yq A r i).1 l).1.Kind,(U0 A g1 g2 r (Yq A r i).1 l).1.Words,(U0 A g1 g2 r (Yq A r i).1 l).1.Kids):=fun i l hi he hl=>by
  rw [Yy (x:=d - 2) (by omega) (by omega),Yy (x:=d - 1) (by omega) (by omega)]
  unfold U0
  by_cases k9:r.kind=9
  ·have hkc:Ym r=r.count:=by unfold Ym;rw [if_neg (by omega)]
   have hd2:2≤d:=by
    have:lvR r=2:=by unfold lvR;rw [if_neg k0,if_pos ⟨k9,by omega⟩]
    omega
   rw [if_pos k9,show (r.kind == 9)=true from by rw [k9];rfl,cond_true,h2 hd2 _ l (Vi hr i) (Zr9 k9 ⟨by omega,by omega⟩) hl,Option.bind_some]
  rw [if_neg k9,show (r.kind == 9)=false from Um k9,cond_false]
  by_cases k18:r.kind=1∨r.kind=8
  ·have e1:cond (r.kind == 1) true (r.kind == 8)=true:=by rcases k18 with k | k <;> rw [k] <;> rfl
   rw [if_pos k18,e1,cond_true,h1 hlvd _ l (Vi hr i) hl,Option.bind_some]
  rw [if_neg k18,show (r.kind == 1)=false from Um (by omega),show (r.kind == 8)=false from Um (by omega),cond_false,cond_false,he]
  rfl
 have hL:=Zqi (step:=Je f1 f2 A.segments (K4 A r) d) (f:=U0 A g1 g2 r) hr (Ym r).toNat (by omega) (fun i l acc hi ha hl=>by
  unfold Je
  simp only
  rw [Zlp hr,Option.bind_some,show decide ((i:Int) < Ym r)=true from by rw [decide_eq_true_eq];omega,cond_true,Z1h hw hr,Option.bind_some]
  simp only [Zus]
  by_cases q1:(Yq A r i).2≠0
  ·rw [if_pos q1,bne_iff_ne.2 q1,cond_true]
  rw [if_neg q1,bne_eq_false_iff_eq.2 (show (Yq A r i).2=0 by omega),cond_false,Zob hw (Vi hr i),Option.bind_some,Zd9,Zd9,hkf i l hi (by omega) hl,Option.bind_some]
  simp only [Ygo]
  by_cases q2:(U0 A g1 g2 r (Yq A r i).1 l).2.2≠0
  ·rw [if_pos q2,bne_iff_ne.2 q2,cond_true]
  rw [if_neg q2,bne_eq_false_iff_eq.2 (show (U0 A g1 g2 r (Yq A r i).1 l).2.2=0 by omega),cond_false,Zcx (by simp only [List.length_singleton];omega) (by simp only [List.length_singleton];omega),Option.bind_some,Yy (by omega) (by omega)]
  rfl) (fun l acc=>by
  unfold Je
  simp only
  rw [Zlp hr,Option.bind_some,show decide ((((Ym r).toNat:Nat):Int) < Ym r)=false from by rw [decide_eq_false_iff_not];omega,cond_false]) (Z37 l1 l2 r) (Ym r).toNat 0 (left - wtR r) [] (by omega) rfl (by omega)
 rw [show (((0:Nat):Int))=0 from rfl] at hL
 rw [hL,Option.bind_some]
 simp only
 by_cases hq:(Y7 (U0 A g1 g2 r) (Yq A r) (Ym r).toNat 0 (left - wtR r) []).2.2=0
 ·rw [if_pos hq]
  simp only
  rw [show (Y7 (U0 A g1 g2 r) (Yq A r) (Ym r).toNat 0 (left - wtR r) []).2=((Y7 (U0 A g1 g2 r) (Yq A r) (Ym r).toNat 0 (left - wtR r) []).2.1,0) from by rw [← hq]]
 rw [if_neg hq]
theorem Z0n (hw:WS A.segments) (k d:Nat):Lf A (Xr A k d):=by
 unfold Xr
 split
 ·exact Zyi hw _
 exact Z2w
theorem Z1i (hw:WS A.segments):∀ (K:Nat),(∀ (d:Nat) r left,d≤1000→OKr A r→0≤left∧left≤65536→2 * d+1≤K→(Yi K).1 A.segments (K4 A r) d left=some (Zfv A d r left)) ∧
  (∀ (d:Nat) r left,d≤1000→OKr A r→r.kind=1→0≤left∧left≤65536→2 * d+2≤K→(Yi K).2 A.segments (K4 A r) d left=some (stK A (Zfv A d) r left))
 | 0=>⟨fun d r left _ _ _ h=>by omega,fun d r left _ _ _ _ h=>by omega⟩
 | K+1=>by
  obtain ⟨i1,i2⟩:=Z1i hw K
  refine ⟨fun d r left hd hr hl hK => ?_,fun d r left hd hr h1 hl hK => ?_⟩
  ·show Jd (Yi K).1 (Yi K).2 A.segments (K4 A r) d left=_
   rw [Zo8]
   refine Z9m hw (Z0n hw 1 d) (Z0n hw 2 d) hr (by omega) hl (fun hd1 k l hk hl => ?_) (fun hd2 k l hk k1 hl => ?_)
   ·have:=i1 (d - 1) k l (by omega) hk hl (by omega)
    rw [show (((d - 1:Nat):Int))=(d:Int) - 1 by omega] at this
    unfold Xr
    rw [if_pos (by omega)]
    exact this
   have:=i2 (d - 2) k l (by omega) hk k1 hl (by omega)
   rw [show (((d - 2:Nat):Int))=(d:Int) - 2 by omega] at this
   unfold Xr
   rw [if_pos (by omega)]
   exact this
  show Kk (Yi K).1 (Yi K).2 A.segments (K4 A r) d left=_
  exact Z22 hw (Zyi hw d) hr h1 hl fun k l hk hl=>i1 d k l hd hk hl (by omega)
theorem Z9u (hw:WS A.segments) {d:Nat} (hd:d≤1000) {r:Zd} (hr:OKr A r) {left:Int} (hl:0≤left∧left≤65536):Gz A.segments (K4 A r) d left=some (Zfv A d r left) :=
 Ztz (2 * d+1) fun k hk=>(Z1i hw k).1 d r left hd hr hl hk
def Zvh (A:Zp) (x:Yd):Tr×Int×Int :=
 if (atR A 0 0).2≠0 then (⟨0,[],[]⟩,0,(atR A 0 0).2)
 else
  let q:=Zfv A (Zbw x).Depth.toNat (atR A 0 0).1 (Zbw x).Weight
  if q.2.2≠0 then (⟨0,[],[]⟩,0,q.2.2) else (q.1,(Zbw x).Weight - q.2.1,0)
theorem Z6z (hw:WS A.segments) (x:Yd):Ju A.segments x=some (Zvh A x):=by
 unfold Ju Zvh
 rw [Z28,Option.bind_some,Z24 hw,Option.bind_some]
 simp only [Zus]
 have hd:0≤(Zbw x).Depth∧(Zbw x).Depth≤64:=Zom _ _ (by decide)
 have hW:0≤(Zbw x).Weight∧(Zbw x).Weight≤65536:=Zom _ _ (by decide)
 by_cases h:(atR A 0 0).2≠0
 ·rw [if_pos h,show ((atR A 0 0).2 != 0)=true from bne_iff_ne.2 h,cond_true]
 rw [if_neg h,show ((atR A 0 0).2 != 0)=false from bne_eq_false_iff_eq.2 (by omega),cond_false]
 have hm:=Z9u hw (d:=(Zbw x).Depth.toNat) (by omega) (Zdd (A:=A) 0 0) hW
 rw [show (((Zbw x).Depth.toNat:Nat):Int)=(Zbw x).Depth by omega] at hm
 rw [hm,Option.bind_some]
 by_cases hq:(Zfv A (Zbw x).Depth.toNat (atR A 0 0).1 (Zbw x).Weight).2.2≠0
 ·rw [if_pos hq,show ((Zfv A (Zbw x).Depth.toNat (atR A 0 0).1 (Zbw x).Weight).2.2 != 0)=true from bne_iff_ne.2 hq,cond_true]
 have h0:(Zfv A (Zbw x).Depth.toNat (atR A 0 0).1 (Zbw x).Weight).2.2=0:=by omega
 have hb:=Zyi hw _ _ _ (Zdd (A:=A) 0 0) hW.1 h0
 rw [if_neg hq,show ((Zfv A (Zbw x).Depth.toNat (atR A 0 0).1 (Zbw x).Weight).2.2 != 0)=false from bne_eq_false_iff_eq.2 h0,cond_false,Yy (by omega) (by omega)]
end
section
variable {A:Zp}
theorem Zu1 (hw:WS A.segments) {r:Zd} (h:OKr A r):((Yg A r).length:Int)=Zb9 r:=by
 unfold Yg Zb9
 cases h with
 | z=>rfl
 | li k s a n hk hn hin=>simp only;rw [if_neg (by omega),if_neg (by omega),if_neg (by omega),if_neg (by omega)];rfl
 | co=>rfl
 | at_=>rfl
 | st s a d p hd hp hin =>
  have hi':=inB_iff.1 hin
  simp only [show ¬ (1:Int)=10 from by decide,if_false,if_true,List.length_take,List.length_drop]
  omega
theorem Zr2 (hw:WS A.segments) {r:Zd} (h:OKr A r) {i:Nat} (hi:i < (Yg A r).length):(Yg A r)[i]=Z10 A r (i:Int):=by
 have hl:=Zu1 hw h
 unfold Z10
 rw [if_neg (by omega)]
 cases h with
 | z=>simp [Yg,r0] at hi
 | li k s a n hk hn hin =>
  have:Yg A ⟨some A,k,s,a,0,0,n,0,0⟩=[]:=by unfold Yg;rw [if_neg (by simp only;omega),if_neg (by simp only;omega)]
  simp [this] at hi
 | co=>simp [Yg] at hi
 | at_ s a c j n hc h0 h1 hn hin =>
  have:i=0:=by
   simp [Yg] at hi;exact hi
  subst this
  rfl
 | st s a d p hd hp hin =>
  have hi':=inB_iff.1 hin
  have hid:(i:Int) < d:=by simp [Zb9] at hl;omega
  simp only [Yg,show ¬ (1:Int)=10 from by decide,if_false,if_true,List.getElem_take,List.getElem_drop]
  unfold wd
  rw [show (a+(i:Int)).toNat=a.toNat+i by omega,List.getElem?_eq_getElem (by omega)]
  rfl
end
theorem Xc {t x:Tr} (h:x∈t.Kids):SizeOf.sizeOf x < SizeOf.sizeOf t:=by
 obtain ⟨k,w,ks⟩:=t
 have:=List.sizeOf_lt_of_mem h
 simp only [Zj.mk.sizeOf_spec]
 simp only at this
 omega
theorem Z0q {α R:Type} (xs:List α) (step:Int→Option (Int ⊕ R)) (p:α→Bool) (e o:R) (hl:(xs.length:Int)≤140737488355328)
  (h1:∀ (i:Nat) (x:α),i < xs.length→xs[i]? = some x→x∈xs→step i=some (if p x=true then .inr e else .inl (IntKind.i64.wrap ((i:Int)+1)))) (h2:step xs.length=some (.inr o)):Z6 step 0=some (if xs.any p=true then e else o):=by
 have hloop:=Z54 xs (fun i (_:Unit)=>i) step (fun _ x=>some (if p x=true then .inr e else .inl ())) (fun _=>o) (fun i s x hi hx=>by
  rw [h1 i x hi hx (List.mem_of_getElem? hx),Yy (by omega) (by omega)]
  cases p x <;> rfl) (fun _=>h2) ()
 refine hloop.trans ?_
 rw [Ztk p (fun s _=>s) e (fun _ _=>True) xs.length xs () 0 (by omega) trivial (fun s k x _ _ _=>⟨by cases p x <;> rfl,fun _=>trivial⟩)]
def tr {α:Type} (p:α→Bool):List α→List α
 | []=>[]
 | x::xs=>match tr p xs with
  | []=>if p x=true then [] else [x]
  | y::ys=>x::y::ys
def trN {α:Type} (p:α→Bool) (l:List α):Nat→Nat
 | 0=>0
 | n+1=>match l[n]? with
  | some x=>if p x=true then trN p l n else n+1
  | none=>0
theorem Zj0 {α:Type} {p:α→Bool} {x:α} (h:p x=true):∀ l:List α,tr p (l++[x])=tr p l
 | []=>by simp [tr,h]
 | y::l=>by simp only [List.cons_append,tr,Zj0 h l]
theorem Zsi {α:Type} {p:α→Bool} {x:α} (h:p x=false):∀ l:List α,tr p (l++[x])=l++[x]
 | []=>by simp [tr,h]
 | y::l=>by
  simp only [List.cons_append,tr,Zsi h l]
  cases hl:l++[x] with
  | nil=>simp at hl
  | cons a b=>rfl
theorem Zzd {α:Type} {p:α→Bool} {l:List α}:∀ n,n≤l.length→l.take (trN p l n)=tr p (l.take n)∧trN p l n≤n
 | 0,_=>by simp [trN,tr]
 | n+1,h=>by
  have hn:l[n]? = some l[n]:=List.getElem?_eq_getElem (by omega)
  have e:l.take (n+1)=l.take n++[l[n]]:=by rw [List.take_add_one,hn];rfl
  obtain ⟨h1,h2⟩:=Zzd (p:=p) (l:=l) n (by omega)
  unfold trN
  rw [hn]
  simp only
  split
  ·rename_i hp
   rw [e,Zj0 hp]
   exact ⟨h1,by omega⟩
  rename_i hp
  rw [e,Zsi (by simpa using hp),← e]
  exact ⟨rfl,Nat.le_refl _⟩
theorem Ze7 {α:Type} (p:α→Bool):∀ l:List α,(tr p l).length≤l.length
 | []=>by simp [tr]
 | x::l=>by
  have:=Ze7 p l
  simp only [tr]
  split
  ·split <;> simp
  rename_i y ys he
  rw [he] at this
  simp at this ⊢
  omega
theorem Zf3 {α:Type} {p:α→Bool} {x:α}:∀ {l:List α},x∈tr p l→x∈l
 | [],h=>by simp [tr] at h
 | y::l,h=>by
  simp only [tr] at h
  split at h
  ·split at h
   ·simp at h
   simp at h;simp [h]
  rename_i z zs he
  rw [← he] at h
  rcases List.mem_cons.1 h with h | h
  ·simp [h]
  exact List.mem_cons_of_mem _ (Zf3 h)
theorem Zxm {α:Type} {p:α→Bool}:∀ l:List α,tr p (tr p l)=tr p l
 | []=>rfl
 | x::l=>by
  have ih:=Zxm (p:=p) l
  simp only [tr]
  cases h:tr p l with
  | nil =>
   simp only
   cases hx:p x <;> simp [tr,hx]
  | cons y ys =>
   rw [h] at ih
   simp only [tr] at ih ⊢
   rw [ih]
theorem Z3i {α β:Type} {p:α→Bool} {q:β→Bool} {f:α→β} (h:∀ x,q (f x)=p x):∀ l:List α,tr q (l.map f)=(tr p l).map f
 | []=>rfl
 | x::l=>by
  simp only [List.map_cons,tr,Z3i h l]
  cases tr p l with
  | nil=>simp only [List.map_nil,h];split <;> rfl
  | cons y ys=>rfl
theorem Z39 {α:Type} (l:List α) (p:α→Bool) (step:Int→Option (Int ⊕ Int)) (hl:(l.length:Int)≤140737488355328)
  (h0:step 0=some (.inr 0)) (h1:∀ (n:Nat) (x:α),l[n]? = some x→n < l.length→step ((n+1:Nat):Int)=some (if p x=true then .inl (n:Int) else .inr ((n+1:Nat):Int))):Z6 step (l.length:Int)=some (trN p l l.length:Int):=by
 have key:∀ n:Nat,n≤l.length→Z6 step (n:Int)=some (trN p l n:Int):=fun n=>by
  induction n with
  | zero=>intro _;exact Yt h0
  | succ n ih =>
   intro hn
   have hx:l[n]? = some l[n]:=List.getElem?_eq_getElem (by omega)
   have h:=h1 n _ hx (by omega)
   unfold trN
   rw [hx]
   simp only
   split
   ·rename_i hp
    rw [if_pos hp] at h
    rw [X9 h]
    exact ih (by omega)
   rename_i hp
   rw [if_neg hp] at h
   exact Yt h
 exact key l.length (Nat.le_refl _)
theorem Z1m {α:Type} {l:List α} {n:Nat} (h:n≤l.length):Zg9 l 0 (n:Int)=some (l.take n):=by
 rw [Zs6 (by omega) (by omega) (by omega)]
 simp
theorem Yiw {n:Nat}:decide (0 < ((n+1:Nat):Int))=true:=by rw [decide_eq_true_eq];omega
theorem Z9n {l:List Int} (hl:l.length * 8≤140737488355328):Vz l=some (tr (fun x=>x == 0) l):=by
 have hloop:=Z39 l (fun x=>x == 0) (Kg l) (by omega) (by unfold Kg;rfl) (fun n x hx hn=>by
  unfold Kg
  rw [Yiw,cond_true,Yy (by omega) (by omega)]
  have e:((n+1:Nat):Int) - 1=(n:Int):=by omega
  rw [e,Zaz hx]
  simp only [Option.bind_some,cond_true]
  cases x == 0 <;> rfl)
 obtain ⟨h1,h2⟩:=Zzd (p:=fun x=>x == 0) (l:=l) l.length (Nat.le_refl _)
 have h3:=Ze7 (fun x=>x == 0) l
 unfold Vz
 rw [hloop,Option.bind_some,Z1m h2,Option.bind_some,h1,List.take_length,Zcx (by rw [List.length_nil];omega) (by rw [List.length_nil];omega)]
 rfl
inductive Bd:Tr→Prop
 | mk (t:Tr) (h1:t.Words.length * 8≤140737488355328) (h2:t.Kids.length * 56≤140737488355328) (h3:∀ w∈t.Words,0≤w∧w < 18446744073709551616) (h4:∀ k∈t.Kids,Bd k):Bd t
theorem Bd.w {t:Tr} (h:Bd t):t.Words.length * 8≤140737488355328:=by cases h;assumption
theorem Bd.k {t:Tr} (h:Bd t):t.Kids.length * 56≤140737488355328:=by cases h;assumption
theorem Bd.u {t:Tr} (h:Bd t):∀ w∈t.Words,0≤w∧w < 18446744073709551616:=by cases h;assumption
theorem Bd.all {t:Tr} (h:Bd t):∀ k∈t.Kids,Bd k:=by cases h;assumption
def nrm (t:Tr):Tr :=
 if t.Kind=0 then ⟨0,[],[]⟩
 else if t.Kind=1 then ⟨1,tr (fun x=>x == 0) t.Words,tr (fun x=>x.Kind == 0) (t.Kids.attach.map fun k=>nrm k.1)⟩
 else ⟨t.Kind,t.Words,t.Kids.attach.map fun k=>nrm k.1⟩
termination_by SizeOf.sizeOf t
decreasing_by all_goals exact Xc k.2
theorem Zfw (t:Tr):nrm t=if t.Kind=0 then ⟨0,[],[]⟩ else if t.Kind=1 then ⟨1,tr (fun x=>x == 0) t.Words,tr (fun x=>x.Kind == 0) (t.Kids.map nrm)⟩ else ⟨t.Kind,t.Words,t.Kids.map nrm⟩:=by
 rw [nrm]
 simp only [List.attach_map_val]
theorem Kv (t:Tr):(nrm t).Kind=t.Kind:=by
 rw [Zfw]
 split
 ·rename_i h;exact h.symm
 split
 ·rename_i h;exact h.symm
 rfl
theorem Zj1 {α:Type} {p:α→Bool} {x:α} {l:List α} (h:tr p l=[]):tr p (x::l)=if p x=true then [] else [x]:=by simp only [tr,h]
theorem Zut {α:Type} {p:α→Bool} {x:α} {l:List α} (h:tr p l≠[]):tr p (x::l)=x::tr p l:=by
 simp only [tr]
 split
 ·rename_i h';exact absurd h' h
 rename_i h';rw [h']
theorem Z36:∀ (l:List Tr) (n:Nat) (acc:Int),(l.zipIdx n).foldl (fun a p=>if p.1.Kind=0 then a else ((p.2+1:Nat):Int)) acc=if (tr (fun x=>x.Kind == 0) l).length=0 then acc else ((n+(tr (fun x=>x.Kind == 0) l).length:Nat):Int)
 | [],n,acc=>by simp [tr]
 | x::l,n,acc=>by
  rw [List.zipIdx_cons,List.foldl_cons,Z36 l (n+1)]
  by_cases h:tr (fun x=>x.Kind == 0) l=[]
  ·rw [Zj1 h,h]
   by_cases hx:x.Kind=0
   ·simp [hx]
   simp [hx]
  have h':(tr (fun x=>x.Kind == 0) l).length≠0:=by simpa using h
  rw [Zut h,if_neg h',List.length_cons,if_neg (by omega)]
  congr 1
  omega
theorem Zze {α:Type} (p:α→Bool) (l:List α):l.take (tr p l).length=tr p l:=by
 obtain ⟨h1,h2⟩:=Zzd (p:=p) (l:=l) l.length (Nat.le_refl _)
 rw [List.take_length] at h1
 rw [← h1,List.length_take]
 congr 1
 omega
theorem Z9v {k:Nat} {t:Tr} (hl:t.Kids.length * 56≤140737488355328) (ih:∀ x∈t.Kids,Xo k x=some (nrm x)) :
  Z6 (Qn (Xo k) t) (0,0,[])=some (if (tr (fun x=>x.Kind == 0) (t.Kids.map nrm)).length=0 then 0 else ((tr (fun x=>x.Kind == 0) (t.Kids.map nrm)).length:Int),t.Kids.map nrm):=by
 have key:∀ (l pre:List Tr) (a:Int),t.Kids=pre++l→Z6 (Qn (Xo k) t) (a,((pre.length:Nat):Int),pre.map nrm)=some (((l.map nrm).zipIdx pre.length).foldl (fun a p=>if p.1.Kind=0 then a else ((p.2+1:Nat):Int)) a,t.Kids.map nrm):=fun l=>by
  induction l with
  | nil =>
   intro pre a hp
   rw [List.append_nil] at hp
   refine Yt ?_
   unfold Qn
   simp only
   rw [hp,Zt3,cond_false]
   rfl
  | cons x l ihl =>
   intro pre a hp
   have hx:t.Kids[pre.length]? = some x:=by rw [hp,List.getElem?_append_right (Nat.le_refl _),Nat.sub_self];rfl
   have hi:pre.length < t.Kids.length:=by rw [hp];simp
   have hm:x∈t.Kids:=List.mem_of_getElem? hx
   have hs:Qn (Xo k) t (a,((pre.length:Nat):Int),pre.map nrm)=some (.inl (if x.Kind=0 then a else ((pre.length+1:Nat):Int),(((pre++[x]).length:Nat):Int),(pre++[x]).map nrm)):=by
    unfold Qn
    simp only
    rw [Zt4 hi,cond_true,Zaz hx,Option.bind_some,ih x hm,Option.bind_some,Zcx (by simp;omega) (by simp;omega),Option.bind_some,Yy (by omega) (by omega),Kv]
    have e:((pre.length:Nat):Int)+1=((pre.length+1:Nat):Int):=by omega
    rw [e]
    by_cases h0:x.Kind=0
    ·simp [h0]
    have:(x.Kind != 0)=true:=by simp [h0]
    rw [this,cond_true]
    simp [h0]
   rw [X9 hs,ihl (pre++[x]) _ (by rw [hp];simp)]
   simp only [List.map_cons,List.zipIdx_cons,List.foldl_cons,List.length_append,List.length_singleton,Kv]
 have:=key t.Kids [] 0 rfl
 rw [Z36] at this
 simpa using this
theorem Z1j:∀ (k:Nat) (t:Tr),Bd t→SizeOf.sizeOf t < k→Xo k t=some (nrm t)
 | 0,t,_,h=>by omega
 | k+1,t,hb,hk=>by
  have ih:∀ x∈t.Kids,Xo k x=some (nrm x):=fun x hx=>Z1j k x (hb.all x hx) (by have:=Xc hx;omega)
  have hw:=hb.w
  have hkd:=hb.k
  show Vt (Xo k) t=_
  unfold Vt
  rw [Zfw]
  by_cases h0:t.Kind=0
  ·rw [if_pos h0,h0];rfl
  have e0:(t.Kind == 0)=false:=by rw [beq_eq_false_iff_ne];exact h0
  rw [if_neg h0,e0,cond_false,Z9v hkd ih,Option.bind_some]
  by_cases h1:t.Kind=1
  ·have e1:(t.Kind == 1)=true:=by rw [beq_iff_eq];exact h1
   rw [if_pos h1,e1,cond_true,Z9n hw,Option.bind_some]
   have l1:=Ze7 (fun x:Tr=>x.Kind == 0) (t.Kids.map nrm)
   have l2:(if (tr (fun x=>x.Kind == 0) (t.Kids.map nrm)).length=0 then (0:Int) else ((tr (fun x=>x.Kind == 0) (t.Kids.map nrm)).length:Int))=((tr (fun x=>x.Kind == 0) (t.Kids.map nrm)).length:Int):=by
    split
    ·rename_i h;rw [h];rfl
    rfl
   simp only [l2]
   rw [Z1m l1,Option.bind_some,Zze]
  have e1:(t.Kind == 1)=false:=by rw [beq_eq_false_iff_ne];exact h1
  rw [if_neg h1,e1,cond_false,Zcx (by rw [List.length_nil];omega) (by rw [List.length_nil];omega)]
  rfl
theorem Z9w {t:Tr} (h:Bd t):Zfe t=some (nrm t):=Ztz (SizeOf.sizeOf t+1) fun k hk=>Z1j k t h (by omega)
theorem Z8t:∀ (n:Nat) (t:Tr),SizeOf.sizeOf t < n→Bd t→Bd (nrm t)
 | 0,t,h,_=>by omega
 | n+1,t,hn,hb=>by
  have ih:∀ x∈t.Kids,Bd (nrm x):=fun x hx=>Z8t n x (by have:=Xc hx;omega) (hb.all x hx)
  have hw:=hb.w
  have hk:=hb.k
  rw [Zfw]
  split
  ·exact .mk _ (by simp) (by simp) (fun w h=>by simp at h) (fun w h=>by simp at h)
  split
  ·have l1:=Ze7 (fun x:Int=>x == 0) t.Words
   have l2:=Ze7 (fun x:Tr=>x.Kind == 0) (t.Kids.map nrm)
   rw [List.length_map] at l2
   refine .mk _ (by simp only;omega) (Nat.le_trans (Nat.mul_le_mul_right 56 l2) hk) (fun w h=>hb.u w (Zf3 h)) (fun x h => ?_)
   obtain ⟨y,hy,rfl⟩:=List.mem_map.1 (Zf3 h)
   exact ih y hy
  refine .mk _ hw (by simp only [List.length_map];exact hk) hb.u (fun x h => ?_)
  obtain ⟨y,hy,rfl⟩:=List.mem_map.1 h
  exact ih y hy
theorem Bd.nrm {t:Tr} (h:Bd t):Bd (nrm t):=Z8t _ t (Nat.lt_succ_self _) h
theorem Zv3:∀ (n:Nat) (t:Tr),SizeOf.sizeOf t < n→nrm (nrm t)=nrm t
 | 0,t,h=>by omega
 | n+1,t,hn=>by
  have ih:∀ x∈t.Kids,nrm (nrm x)=nrm x:=fun x hx=>Zv3 n x (by have:=Xc hx;omega)
  have em:∀ l:List Tr,(∀ x∈l,x∈t.Kids)→(l.map nrm).map nrm=l.map nrm:=fun l hl=>by
   rw [List.map_map]
   exact List.map_congr_left fun x hx=>ih x (hl x hx)
  rw [Zfw t]
  by_cases h0:t.Kind=0
  ·rw [if_pos h0,Zfw];simp
  rw [if_neg h0]
  by_cases h1:t.Kind=1
  ·rw [if_pos h1,Zfw]
   simp only [if_neg (show ¬ (1:Int)=0 by decide),if_true]
   have q1:∀ l:List Tr,tr (fun x:Tr=>x.Kind == 0) (l.map nrm)=(tr (fun x:Tr=>x.Kind == 0) l).map nrm:=Z3i (fun x=>by rw [Kv])
   rw [Zxm,q1,Zxm,q1,em _ (fun x hx=>Zf3 hx)]
  rw [if_neg h1,Zfw]
  simp only
  rw [if_neg h0,if_neg h1,em _ (fun x hx=>hx)]
theorem Zpa (t:Tr):nrm (nrm t)=nrm t:=Zv3 _ t (Nat.lt_succ_self _)
def eqT (a b:Tr):Bool:=a.Kind == b.Kind && (a.Words == b.Words && (a.Kids.length == b.Kids.length && (a.Kids.attach.zip b.Kids).all fun p=>eqT p.1.1 p.2))
termination_by SizeOf.sizeOf a
decreasing_by exact Xc p.1.2
def eqL:List Tr→List Tr→Bool
 | [],[]=>true
 | x::xs,y::ys=>eqT x y && eqL xs ys
 | _,_=>false
theorem Z5f:∀ (l m:List Tr) (P:Tr→Prop) (l':List {x // P x}),l'.map (·.1)=l→(l.length == m.length && (l'.zip m).all fun p=>eqT p.1.1 p.2)=eqL l m
 | [],[],P,l',h=>by cases l' <;> simp_all [eqL]
 | [],y::m,P,l',h=>by cases l' <;> simp_all [eqL]
 | x::l,[],P,l',h=>by cases l' <;> simp_all [eqL]
 | x::l,y::m,P,l',h=>by
  cases l' with
  | nil=>simp at h
  | cons z l' =>
   simp only [List.map_cons,List.cons.injEq] at h
   have ih:=Z5f l m P l' h.2
   simp only [List.length_cons,List.zip_cons_cons,List.all_cons,eqL,h.1]
   rw [← ih]
   have:(l.length+1 == m.length+1)=(l.length == m.length):=by simp
   rw [this]
   cases l.length == m.length <;> cases eqT x y <;> rfl
theorem Zxy (a b:Tr):eqT a b=(a.Kind == b.Kind && (a.Words == b.Words && eqL a.Kids b.Kids)):=by
 rw [eqT,Z5f a.Kids b.Kids (·∈a.Kids) a.Kids.attach (by simp)]
theorem Ztf (x y:Tr) (xs ys:List Tr):eqL (x::xs) (y::ys)=(eqT x y && eqL xs ys):=rfl
theorem Zvr:∀ (n:Nat) (a b:Tr),SizeOf.sizeOf a < n→(eqT a b=true↔a=b)
 | 0,a,b,h=>by omega
 | n+1,a,b,hn=>by
  have ih:∀ x∈a.Kids,∀ y,eqT x y=true↔x=y:=fun x hx y=>Zvr n x y (by have:=Xc hx;omega)
  have hl:∀ (l m:List Tr),(∀ x∈l,x∈a.Kids)→(eqL l m=true↔l=m):=fun l=>by
   induction l with
   | nil=>intro m _;cases m <;> simp [eqL]
   | cons x l ihl =>
    intro m hm
    cases m with
    | nil=>simp [eqL]
    | cons y m=>rw [Ztf,Bool.and_eq_true,ih x (hm x (.head _)) y,ihl m (fun z hz=>hm z (.tail _ hz)),List.cons.injEq]
  rw [Zxy,Bool.and_eq_true,Bool.and_eq_true,hl a.Kids b.Kids (fun x hx=>hx),beq_iff_eq,beq_iff_eq]
  obtain ⟨k,w,ks⟩:=a
  obtain ⟨k',w',ks'⟩:=b
  simp
theorem eqT_iff {a b:Tr}:eqT a b=true↔a=b:=Zvr _ a b (Nat.lt_succ_self _)
theorem Z7y (a:Tr):eqT a a=true:=eqT_iff.2 rfl
theorem Z7j:∀ (a b:List Int),a.length=b.length→(a.zip b).any (fun p=>p.1 != p.2) = !(a == b)
 | [],[],_=>rfl
 | [],_::_,h=>by simp at h
 | _::_,[],h=>by simp at h
 | x::a,y::b,h=>by
  have ih:=Z7j a b (by simpa using h)
  rw [List.zip_cons_cons,List.any_cons,ih]
  by_cases hxy:x=y
  ·subst hxy;simp
  simp [bne,hxy]
theorem Z8o {R:Type} (a b:List Int) (step:Int→Option (Int ⊕ R)) (e o:R) (hab:a.length=b.length) (hl:(a.length:Int)≤140737488355328)
  (h1:∀ (i:Nat) (x y:Int),i < a.length→a[i]? = some x→b[i]? = some y→step i=some (if (x != y)=true then .inr e else .inl (IntKind.i64.wrap ((i:Int)+1)))) (h2:step a.length=some (.inr o)) :
  Z6 step 0=some (if (a == b)=true then o else e):=by
 have hz:(a.zip b).length=a.length:=by rw [List.length_zip];omega
 have:=Z0q (a.zip b) step (fun p=>p.1 != p.2) e o (by rw [hz];exact hl) (fun i p hi hp hm=>by
  rw [hz] at hi
  have ha:a[i]? = some a[i]:=List.getElem?_eq_getElem hi
  have hb:b[i]? = some b[i]:=List.getElem?_eq_getElem (by omega)
  have:p=(a[i],b[i]):=by
   rw [List.getElem?_eq_getElem (by rw [hz];exact hi)] at hp
   injection hp with hp
   rw [← hp,List.getElem_zip]
  subst this
  exact h1 i _ _ hi ha hb) (by rw [hz];exact h2)
 rw [this,Z7j a b hab]
 cases a == b <;> rfl
theorem Z8g {a b:Nat}:((a:Int) != (b:Int)) = !(a == b):=by
 rw [Bool.eq_iff_iff];simp;omega
theorem Yav {a b:List Int} (h:¬ a.length=b.length):(a == b)=false:=by
 rw [beq_eq_false_iff_ne];intro e;exact h (by rw [e])
theorem Z3y:∀ (a b:List Tr),a.length≠b.length→eqL a b=false
 | [],[],h=>by simp at h
 | [],_::_,_=>rfl
 | _::_,[],_=>rfl
 | x::a,y::b,h=>by rw [Ztf,Z3y a b (by simpa using h),Bool.and_false]
theorem U9 {t:Tr} (h:t.Kind=0):nrm t=⟨0,[],[]⟩:=by rw [Zfw,if_pos h]
theorem Qq {t:Tr} (h:t.Kind=1):nrm t=⟨1,tr (fun x=>x == 0) t.Words,tr (fun x=>x.Kind == 0) (t.Kids.map nrm)⟩:=by rw [Zfw,if_neg (by rw [h];decide),if_pos h]
theorem V3 {t:Tr} (h0:¬ t.Kind=0) (h1:¬ t.Kind=1):nrm t=⟨t.Kind,t.Words,t.Kids.map nrm⟩:=by rw [Zfw,if_neg h0,if_neg h1]
def pt (t:Tr):Nat:=1+t.Words.length+(t.Kids.attach.map fun k=>pt k.1).sum
termination_by SizeOf.sizeOf t
decreasing_by exact Xc k.2
theorem Ziu (t:Tr):pt t=1+t.Words.length+(t.Kids.map pt).sum:=by
 rw [pt]
 simp only [List.attach_map_val]
theorem Zup:∀ (k:Nat) (t:Tr) (d left:Int),Bd t→SizeOf.sizeOf t < k→0≤d→d≤100→0≤left→left≤1000000→∃ r,Yh k t d left=some r∧-1≤r∧r≤1000000∧(0≤r→r+pt t≤left)
 | 0,t,_,_,_,h,_,_,_,_=>by omega
 | k+1,t,d,left,hb,hk,hd0,hd1,hl0,hl1=>by
  have ih:∀ x∈t.Kids,∀ d left:Int,0≤d→d≤100→0≤left→left≤1000000→∃ r,Yh k x d left=some r∧-1≤r∧r≤1000000∧(0≤r→r+pt x≤left):=fun x hx d left=>Zup k x d left (hb.all x hx) (by have:=Xc hx;omega)
  have hw:=hb.w
  have hkd:=hb.k
  show ∃ r,X4 (Yh k) t d left=some r∧_
  unfold X4
  rw [Yy (x:=left - 1) (by omega) (by omega),Yy (by omega) (by omega),Ziu]
  cases hc:cond (d == 0) true (decide (left - 1 - (t.Words.length:Int) < 0)) with
  | true=>exact ⟨-1,rfl,by omega,by omega,fun h=>by omega⟩
  | false =>
   rw [cond_false]
   have hd:¬ d=0∧0≤left - 1 - (t.Words.length:Int):=by
    by_cases h:d=0
    ·simp [h] at hc
    have e:(d == 0)=false:=by simp [h]
    rw [e,cond_false,decide_eq_false_iff_not] at hc
    exact ⟨h,by omega⟩
   obtain ⟨r,h1,h2⟩:=Zin (step:=Xy (Yh k) t d)
    (fun s=>∃ j:Nat,s.2=j∧j≤t.Kids.length∧-1≤s.1∧s.1≤1000000∧(0≤s.1→s.1+(((t.Kids.take j).map pt).sum:Nat)≤left - 1 - (t.Words.length:Int)))
    (fun s=>t.Kids.length - s.2.toNat) (fun r=>-1≤r∧r≤1000000∧(0≤r→r+((t.Kids.map pt).sum:Nat)≤left - 1 - (t.Words.length:Int))) (fun s hI=>by
     obtain ⟨l,i⟩:=s
     obtain ⟨j,rfl,hj,g1,g2,g3⟩:=hI
     simp only at g1 g2 g3 ⊢
     unfold Xy
     simp only
     by_cases hji:j < t.Kids.length
     ·rw [Zt4 hji,cond_true]
      by_cases hl:0≤l
      ·have e:decide (0≤l)=true:=by simp [hl]
       have hx:t.Kids[j]? = some t.Kids[j]:=List.getElem?_eq_getElem hji
       obtain ⟨r,q1,q2,q3,q4⟩:=ih t.Kids[j] (List.getElem_mem hji) (d - 1) l (by omega) (by omega) hl g2
       rw [e,cond_true,Zaz hx,Option.bind_some,Yy (by omega) (by omega),q1,Option.bind_some,Yy (by omega) (by omega)]
       refine .inl ⟨_,rfl,⟨j+1,by simp only;omega,by omega,q2,q3,fun hr => ?_⟩,by simp only;omega⟩
       have:=q4 hr
       have:=g3 hl
       rw [List.take_add_one,hx]
       simp only [Option.toList_some,List.map_append,List.map_cons,List.map_nil,List.sum_append,List.sum_cons,List.sum_nil]
       simp only at hr
       omega
      have e:decide (0≤l)=false:=by simp [hl]
      rw [e,cond_false]
      exact .inr ⟨l,rfl,g1,g2,fun h=>absurd h hl⟩
     have hj':j=t.Kids.length:=by omega
     subst hj'
     rw [Zt3,cond_false]
     rw [List.take_length] at g3
     exact .inr ⟨l,rfl,g1,g2,g3⟩) (left - 1 - (t.Words.length:Int),0) ⟨0,rfl,Nat.zero_le _,by simp only;omega,by simp only;omega,fun _=>by simp⟩
   rw [h1]
   refine ⟨r,rfl,h2.1,h2.2.1,fun hr => ?_⟩
   have:=h2.2.2 hr
   omega
theorem Zvw {α:Type} {xs:List α} {i:Int} {x:α} (h:Z5 xs i=some x):x∈xs:=List.mem_of_getElem? (Zox h)
theorem Zpw:∀ (k k':Nat) (t:Tr) (d left:Int),SizeOf.sizeOf t < k→SizeOf.sizeOf t < k'→Yh k t d left=Yh k' t d left
 | 0,_,t,_,_,h,_=>by omega
 | k+1,0,t,_,_,_,h=>by omega
 | k+1,k'+1,t,d,left,h,h'=>by
  show X4 (Yh k) t d left=X4 (Yh k') t d left
  have e:Xy (Yh k) t d=Xy (Yh k') t d:=funext fun s=>by
   unfold Xy
   cases hx:Z5 t.Kids s.2 with
   | none=>rfl
   | some x=>simp only [Option.bind_some,Zpw k k' x (IntKind.i64.wrap (d - 1)) s.1 (by have:=Xc (Zvw hx);omega) (by have:=Xc (Zvw hx);omega)]
  unfold X4
  rw [e]
def wt (t:Tr):Nat :=
 if t.Kind=0 then 0 else if t.Kind=10 then 1
 else (if t.Kind=1 then 1+(t.Words.length+t.Kids.length) else if t.Kind=8 then 1+t.Kids.length else 1)+(t.Kids.attach.map fun k=>wt k.1).sum
termination_by SizeOf.sizeOf t
decreasing_by all_goals exact Xc k.2
theorem Yae {α:Type} (p:α→Bool) (f:α→Nat):∀ l:List α,((tr p l).map f).sum≤(l.map f).sum
 | []=>by simp [tr]
 | x::l=>by
  have ih:=Yae p f l
  simp only [tr]
  split
  ·split <;> simp
  rename_i y ys he
  rw [he] at ih
  simp only [List.map_cons,List.sum_cons] at ih ⊢
  omega
theorem Z8n {α β:Type} (xs:List α) (f:α→β) (step:Int×List β→Option ((Int×List β) ⊕ List β)) (acc:List β) (hl:(xs.length:Int)≤140737488355328)
  (h1:∀ (i:Nat) (x:α) (out:List β),i < xs.length→xs[i]? = some x→x∈xs→out.length=acc.length+i→step ((i:Int),out)=some (.inl (IntKind.i64.wrap ((i:Int)+1),out++[f x])))
  (h2:∀ out,step ((xs.length:Int),out)=some (.inr out)):Z6 step (0,acc)=some (acc++xs.map f):=by
 have key:∀ m i,i+m=xs.length→Z6 step ((i:Int),acc++(xs.take i).map f)=some (acc++xs.map f):=fun m=>by
  induction m with
  | zero =>
   intro i hi
   have hi':i=xs.length:=by omega
   subst hi'
   rw [List.take_length]
   exact Yt (h2 _)
  | succ m ih =>
   intro i hi
   have hx:xs[i]? = some xs[i]:=List.getElem?_eq_getElem (by omega)
   have h:=h1 i _ (acc++(xs.take i).map f) (by omega) hx (List.mem_of_getElem? hx) (by rw [List.length_append,List.length_map,List.length_take];omega)
   rw [Yy (by omega) (by omega)] at h
   rw [X9 h]
   have e:acc++(xs.take i).map f++[f xs[i]]=acc++(xs.take (i+1)).map f:=by
    rw [List.take_add_one,hx,List.map_append,List.append_assoc]
    rfl
   rw [e]
   exact ih (i+1) (by omega)
 have:=key xs.length 0 (by omega)
 simpa using this
section
variable {A:Zp}
theorem Z2q {f:Zd→Int→Tr×Int×Int} {g:Int→Zd×Int} {Q:Tr→Prop} (hQ:∀ i left,Q (f (g i).1 left).1):∀ (m i:Nat) (left:Int) (acc:List Tr),(∀ t∈acc,Q t)→(∀ t∈(Y7 f g m i left acc).1,Q t)∧(Y7 f g m i left acc).1.length≤acc.length+m
 | 0,i,left,acc,h=>⟨h,Nat.le_refl _⟩
 | m+1,i,left,acc,h=>by
  rw [Y7]
  split
  ·exact ⟨h,by simp only;omega⟩
  split
  ·exact ⟨h,by simp only;omega⟩
  obtain ⟨h1,h2⟩:=Z2q hQ m (i+1) (f (g i).1 left).2.1 (acc++[(f (g i).1 left).1]) fun t ht=>by
   rcases List.mem_append.1 ht with ht | ht
   ·exact h t ht
   rw [List.mem_singleton] at ht;subst ht;exact hQ i left
  exact ⟨h1,by rw [List.length_append,List.length_singleton] at h2;omega⟩
theorem Ybh {w c j:Int} (hw:0≤w∧w < 18446744073709551616):0≤Zt6 w c j∧Zt6 w c j < 18446744073709551616:=by
 unfold Zt6
 have h1:w.toNat / 2 ^ (j * wdt c).toNat % 2 ^ (wdt c).toNat≤w.toNat / 2 ^ (j * wdt c).toNat:=Nat.mod_le _ _
 have h2:w.toNat / 2 ^ (j * wdt c).toNat≤w.toNat:=Nat.div_le_self _ _
 omega
theorem Zh4 (hw:WS A.segments) (r:Zd):∀ w∈Yg A r,0≤w∧w < 18446744073709551616:=by
 unfold Yg
 split
 ·intro w hm
  rw [List.mem_singleton] at hm
  subst hm
  unfold Zsl
  split
  ·omega
  exact Ybh (Ziy hw _ _)
 split
 ·exact fun w hm=>Z93 hw _ w (List.mem_of_mem_drop (List.mem_of_mem_take hm))
 exact fun w hm=>by cases hm
theorem Zh3 {r:Zd} (h:OKr A r):(Yg A r).length≤65536:=by
 unfold Yg
 cases h with
 | z=>simp [r0]
 | st s a d p hd hp hin=>simp only [show ¬ (1:Int)=10 from by decide,if_false,if_true,List.length_take];omega
 | li k s a n hk hn hin=>simp only;rw [if_neg (by omega),if_neg (by omega)];simp
 | co=>simp
 | at_=>simp
theorem Ybc (hw:WS A.segments):∀ (d:Nat) r left,OKr A r→0≤left→left≤65536→Bd (Zfv A d r left).1:=fun d=>by
 have key:∀ (f:Zd→Int→Tr×Int×Int),True:=fun _=>trivial
 clear key
 have hst:∀ (f:Zd→Int→Tr×Int×Int),(∀ r left,OKr A r→Bd (f r left).1)→∀ r left,OKr A r→r.ptrs≤65536→Bd (stK A f r left).1:=fun f hf r left hr hp=>by
  unfold stK
  have:=Z2q (f:=f) (g:=Yq A r) (Q:=Bd) (fun i left=>hf _ left (Vi hr i)) r.ptrs.toNat 0 left [] (by simp)
  refine .mk _ (by simp only;have:=Zh3 hr;omega) (by simp only;have:=this.2;simp only [List.length_nil] at this;omega) (Zh4 hw r) this.1
 have main:∀ r left,OKr A r→Bd (Zfv A d r left).1:=by
  induction d using Nat.strongRecOn with
  | ind d ih =>
   intro r left hr
   have hbad:∀ r left,Bd (bad r left).1:=fun r left => .mk _ (by simp [bad]) (by simp [bad]) (by simp [bad]) (by simp [bad])
   have hP:∀ k,1≤k→∀ r left,OKr A r→Bd (Xr A k d r left).1:=fun k hk r left hr=>by
    unfold Xr
    split
    ·exact ih _ (by omega) r left hr
    exact hbad _ _
   rw [Zo8]
   unfold Zjh
   have hwl:=Zh3 hr
   split
   ·exact .mk _ (by simp only;omega) (by simp) (Zh4 hw r) (by simp)
   split
   ·exact .mk _ (by simp only;omega) (by simp) (Zh4 hw r) (by simp)
   have hkn:=Zeo hr
   have hQ:∀ (i:Int) left,Bd (U0 A (Xr A 1 d) (Xr A 2 d) r (Yq A r i).1 left).1:=fun i left=>by
    unfold U0
    split
    ·rename_i k9
     have hkr:=Vi hr i
     refine hst _ (fun r left hr=>hP 2 (by omega) r left hr) _ _ hkr ?_
     cases hkr':(Yq A r i).1 with
     | mk a b c d e f g h j =>
      rw [hkr'] at hkr
      cases hkr with
      | z=>simp
      | st s a d p hd hp hin=>simp only;omega
      | li k s a n hk=>simp
      | co s a d p n hd hp hn=>simp only;omega
      | at_=>simp
    split
    ·exact hP 1 (by omega) _ _ (Vi hr i)
    unfold Zzr
    have:=Zh3 (Vi hr i)
    exact .mk _ (by simp only;omega) (by simp) (Zh4 hw _) (by simp)
   have:=Z2q (f:=U0 A (Xr A 1 d) (Xr A 2 d) r) (g:=Yq A r) (Q:=Bd) hQ (Ym r).toNat 0 (left - wtR r) [] (by simp)
   refine .mk _ (by simp only;omega) ?_ (Zh4 hw r) this.1
   have h2:=this.2
   simp only [List.length_nil] at h2 ⊢
   omega
 exact fun r left hr _ _=>main r left hr
end
section
variable {A:Zp}
theorem Z50 {r:Zd} (hk:2≤r.kind∧r.kind≤7) {i:Int} (h:0≤i∧i < Ym r):(Yq A r i).1.kind=10∧Ym (Yq A r i).1=0:=by
 unfold Yq
 rw [if_neg (by omega),if_neg (by omega),if_neg (by omega),if_neg (by omega)]
 exact ⟨rfl,rfl⟩
end
section
variable {A:Zp}
theorem Z7n (s a:Int):(atR A s a).1.kind≠10:=by
 unfold atR
 rcases Zi7 A.segments s a with h | ⟨h1,hp,hk,hi⟩
 ·rw [if_pos h];simp [r0]
 rw [if_neg (by omega)]
 have hc:=hp.c
 split
 ·simp
 split
 ·simp only;split <;> simp [r0]
 simp only;omega
end
def wid (c:Int):Nat:=if c=0 then 0 else if c=1 then 1 else if c=2 then 8 else if c=3 then 16 else if c=4 then 32 else 64
def Zbp (c w:Int):Bool:=decide (w < 2 ^ wid c)
theorem Z2i {c:Int} (h0:0≤c) (h1:c≤5):c=0∨c=1∨c=2∨c=3∨c=4∨c=5:=by omega
theorem Z26 (n:Nat) (hn:n≤64) (w:Int) (h0:0≤w) (h1:w < 18446744073709551616):Z6 (X5 (n:Int)) (w,0)=some (w / 2 ^ n):=by
 have key:∀ m i:Nat,i+m=n→Z6 (X5 (n:Int)) (w / 2 ^ i,(i:Int))=some (w / 2 ^ n):=fun m=>by
  induction m with
  | zero =>
   intro i hi
   have:i=n:=by omega
   subst this
   refine Yt ?_
   unfold X5
   simp only
   rw [Zt3,cond_false]
  | succ m ih =>
   intro i hi
   have hp:(0:Int) < 2 ^ i:=Int.pow_pos (by decide)
   have q0:0≤w / 2 ^ i:=Int.ediv_nonneg h0 (Int.le_of_lt hp)
   have q1:w / 2 ^ i≤w:=Int.ediv_le_self _ h0
   have hs:X5 (n:Int) (w / 2 ^ i,(i:Int))=some (.inl (w / 2 ^ (i+1),((i+1:Nat):Int))):=by
    unfold X5
    simp only
    rw [Zt4 (by omega),cond_true,Yy (by omega) (by omega),Int.tdiv_eq_ediv_of_nonneg q0]
    have e:w / 2 ^ i / 2=w / 2 ^ (i+1):=by rw [Int.ediv_ediv_of_nonneg (Int.le_of_lt hp),Int.pow_succ]
    have q2:0≤w / 2 ^ i / 2:=Int.ediv_nonneg q0 (by decide)
    have q3:w / 2 ^ i / 2≤w / 2 ^ i:=Int.ediv_le_self _ q0
    have e3:IntKind.u64.wrap (w / 2 ^ i / 2)=w / 2 ^ i / 2:=by
     exact Yci ⟨q2,by omega⟩
    rw [e3,e]
    rfl
   rw [X9 hs]
   exact ih (i+1) (by omega)
 have:=key n 0 (by omega)
 simpa using this
theorem Zuj {c w:Int} (h0:0≤c) (h1:c≤5) (hw:0≤w) (hw':w < 18446744073709551616):Jp c w=some (Zbp c w):=by
 have e:∀ n:Nat,n≤64→(cond (decide ((n:Int) < 0)) (some false) ((Z6 (X5 (n:Int)) (w,0)).bind fun (z4:Int)=>some (z4 == 0)))=some (decide (w < 2 ^ n)):=fun n hn=>by
  have:decide ((n:Int) < 0)=false:=by rw [decide_eq_false_iff_not];omega
  have hp:(0:Int) < 2 ^ n:=Int.pow_pos (by decide)
  rw [this,cond_false,Z26 n hn w hw hw',Option.bind_some]
  congr 1
  rw [Bool.eq_iff_iff,beq_iff_eq,decide_eq_true_eq]
  constructor
  ·intro h
   rcases Int.lt_or_le w (2 ^ n) with h2 | h2
   ·exact h2
   have:=Int.ediv_le_ediv hp h2
   rw [Int.ediv_self (Int.ne_of_gt hp)] at this
   omega
  intro h;exact Int.ediv_eq_zero_of_lt hw h
 unfold Jp Zbp
 rcases Z2i h0 h1 with rfl | rfl | rfl | rfl | rfl | rfl
 ·exact e 0 (by decide)
 ·exact e 1 (by decide)
 ·exact e 8 (by decide)
 ·exact e 16 (by decide)
 ·exact e 32 (by decide)
 exact e 64 (by decide)
def okk (kind:Int) (k:Tr):Bool:=if 2≤kind∧kind≤7 then k.Kind == 10 && Zbp (kind - 2) (k.Words.headD 0) else k.Kind != 10 && (kind != 9 || k.Kind == 1)
def rt (t:Tr) (d:Nat):Bool :=
 if t.Kind=0 then t.Words.length == 0 && t.Kids.length == 0
 else if t.Kind=10 then t.Words.length == 1 && t.Kids.length == 0
 else if t.Kind < 0∨10 < t.Kind∨d=0∨65536≤t.Words.length∨(t.Kind=1∧65536≤t.Kids.length)∨1048576≤t.Kids.length∨(1 < t.Kind∧0 < t.Words.length) then false
 else (t.Kids.attach.map fun k=>rt k.1 (d - 1) && okk t.Kind k.1).all id
termination_by SizeOf.sizeOf t
decreasing_by exact Xc k.2
theorem Zfk (t:Tr) (d:Nat):rt t d=if t.Kind=0 then t.Words.length == 0 && t.Kids.length == 0
 else if t.Kind=10 then t.Words.length == 1 && t.Kids.length == 0
 else if t.Kind < 0∨10 < t.Kind∨d=0∨65536≤t.Words.length∨(t.Kind=1∧65536≤t.Kids.length)∨1048576≤t.Kids.length∨(1 < t.Kind∧0 < t.Words.length) then false
 else t.Kids.all fun k=>rt k (d - 1) && okk t.Kind k:=by
 rw [rt]
 have:(t.Kids.attach.map fun k=>rt k.1 (d - 1) && okk t.Kind k.1)=t.Kids.map fun k=>rt k (d - 1) && okk t.Kind k:=List.attach_map_val (f:=fun k=>rt k (d - 1) && okk t.Kind k)
 rw [this,List.all_map]
 rfl
theorem Zwd {t:Tr} (h:t.Kind=10) {d:Nat} (hr:rt t d=true):∃ w,t.Words=[w]:=by
 rw [Zfk,if_neg (by omega),if_pos h,Bool.and_eq_true,beq_iff_eq] at hr
 obtain ⟨k,w,ks⟩:=t
 obtain ⟨h1,_⟩:=hr
 simp only at h1 ⊢
 exact List.length_eq_one_iff.1 h1
theorem Yem {n:Nat}:((n:Int) == 0)=(n == 0):=by rw [Bool.eq_iff_iff,beq_iff_eq,beq_iff_eq];omega
theorem Yix {n:Nat}:((n:Int) == 1)=(n == 1):=by rw [Bool.eq_iff_iff,beq_iff_eq,beq_iff_eq];omega
theorem Zf8 (a b:Bool):cond a b false=(a && b):=by cases a <;> rfl
theorem Z3p {α:Type} (p:α→Bool):∀ l:List α,l.any (fun x => !p x) = !(l.all p)
 | []=>rfl
 | x::l=>by rw [List.any_cons,List.all_cons,Z3p p l];cases p x <;> rfl
theorem Z8m {α R:Type} (xs:List α) (step:Int→Option (Int ⊕ R)) (p:α→Bool) (e o:R) (hl:(xs.length:Int)≤140737488355328)
  (h1:∀ (i:Nat) (x:α),i < xs.length→xs[i]? = some x→x∈xs→step i=some (if p x=true then .inl (IntKind.i64.wrap ((i:Int)+1)) else .inr e)) (h2:step xs.length=some (.inr o)):Z6 step 0=some (if xs.all p=true then o else e):=by
 rw [Z0q xs step (fun x => !p x) e o hl (fun i x hi hx hm=>by rw [h1 i x hi hx hm];cases p x <;> rfl) h2,Z3p]
 cases xs.all p <;> rfl
theorem Zwb:∀ (k:Nat) (t:Tr) (d:Nat),Bd t→SizeOf.sizeOf t < k→d≤64→Qz k t (d:Int)=some (rt t d)
 | 0,t,d,_,h,_=>by omega
 | k+1,t,d,hb,hk,hd=>by
  have hkd:=hb.k
  show K6 (Qz k) t (d:Int)=_
  unfold K6
  rw [Zfk,Yem,Yix]
  by_cases h0:t.Kind=0
  ·rw [if_pos h0,h0]
   simp only [Yem,Zf8]
   rfl
  have e0:(t.Kind == 0)=false:=by simp [h0]
  rw [if_neg h0,e0,cond_false]
  by_cases h10:t.Kind=10
  ·rw [if_pos h10,h10]
   simp only [Yem,Zf8]
   rfl
  have e10:(t.Kind == 10)=false:=by simp [h10]
  rw [if_neg h10,e10,cond_false]
  by_cases hbad:t.Kind < 0∨10 < t.Kind∨d=0∨65536≤t.Words.length∨(t.Kind=1∧65536≤t.Kids.length)∨1048576≤t.Kids.length∨(1 < t.Kind∧0 < t.Words.length)
  ·rw [if_pos hbad]
   have hc:∀ c1 c2 c3 c4 c5 c6 c7 c8:Bool,(c1=true∨c2=true∨c3=true∨c4=true∨(c5=true∧c6=true)∨c7=true∨c8=true)→∀ X:Option Bool,
     cond (cond (cond (cond (cond (cond c1 true c2) true c3) true c4) true (cond c5 c6 false)) true c7) (some false) (cond c8 (some false) X)=some false:=by
    intro c1 c2 c3 c4 c5 c6 c7 c8 h X
    cases c1 <;> cases c2 <;> cases c3 <;> cases c4 <;> cases c5 <;> cases c6 <;> cases c7 <;> cases c8 <;> first | rfl | (simp at h;done)
   refine hc _ _ _ _ _ _ _ _ ?_ _
   simp only [decide_eq_true_eq,beq_iff_eq,Zf8,Bool.and_eq_true]
   omega
  rw [if_neg hbad]
  have hg:¬ t.Kind < 0∧¬ 10 < t.Kind∧¬ d=0∧¬ 65536≤t.Words.length∧¬ (t.Kind=1∧65536≤t.Kids.length)∧¬ 1048576≤t.Kids.length∧¬ (1 < t.Kind∧0 < t.Words.length):=by omega
  have hc:∀ c1 c2 c3 c4 c5 c7 c8:Bool,c1=false→c2=false→c3=false→c4=false→c5=false→c7=false→c8=false→∀ X:Option Bool,
    cond (cond (cond (cond (cond (cond c1 true c2) true c3) true c4) true c5) true c7) (some false) (cond c8 (some false) X)=X:=by
   intro c1 c2 c3 c4 c5 c7 c8 h1 h2 h3 h4 h5 h7 h8 X
   subst h1 h2 h3 h4 h5 h7 h8
   rfl
  rw [hc _ _ _ _ _ _ _ (decide_eq_false hg.1) (decide_eq_false hg.2.1) (by rw [beq_eq_false_iff_ne];omega) (by rw [decide_eq_false_iff_not];omega) (by rw [Zf8,Bool.and_eq_false_iff,beq_eq_false_iff_ne,decide_eq_false_iff_not];omega) (by rw [decide_eq_false_iff_not];omega) (by rw [Zf8,Bool.and_eq_false_iff,decide_eq_false_iff_not,decide_eq_false_iff_not];omega)]
  obtain ⟨d',rfl⟩:∃ d',d=d'+1:=⟨d - 1,by omega⟩
  have ih:∀ x∈t.Kids,Qz k x (d':Int)=some (rt x d'):=fun x hx=>Zwb k x d' (hb.all x hx) (by have:=Xc hx;omega) (by omega)
  rw [Z8m t.Kids (Jx (Qz k) t ((d'+1:Nat):Int)) (fun x=>rt x d' && okk t.Kind x) (.inl ()) (.inr ()) (by omega) (fun i x hi hx hm=>by
   unfold Jx
   have ed:((d'+1:Nat):Int) - 1=(d':Int):=by omega
   rw [Zt4 hi,cond_true,Zaz hx,Option.bind_some,Yy (x:=((d'+1:Nat):Int) - 1) (by omega) (by omega),ed,ih x hm,Option.bind_some]
   cases hr:rt x d' with
   | false=>rfl
   | true =>
    rw [Bool.not_true,cond_false,Bool.true_and]
    unfold okk
    by_cases hdt:2≤t.Kind∧t.Kind≤7
    ·have e2:decide (2≤t.Kind)=true:=decide_eq_true hdt.1
     have e7:decide (t.Kind≤7)=true:=decide_eq_true hdt.2
     have e9:(t.Kind == 9)=false:=by rw [beq_eq_false_iff_ne];omega
     rw [e2,e7,e9,if_pos hdt]
     simp only [cond_true,cond_false]
     by_cases hx10:x.Kind=10
     ·obtain ⟨w,hw⟩:=Zwd hx10 hr
      have hu:=(hb.all x hm).u w (by rw [hw];exact .head _)
      have ex:(x.Kind == 10)=true:=by simp [hx10]
      have ex2:((true:Bool) != true)=false:=rfl
      have hg0:Z5 [w] (0:Int)=some w:=rfl
      rw [ex,ex2,cond_false,hw,hg0,Option.bind_some,Yy (by omega) (by omega),Zuj (by omega) (by omega) hu.1 hu.2,Option.bind_some]
      simp only [cond_false,List.headD_cons,Bool.true_and]
      cases Zbp (t.Kind - 2) w <;> rfl
     have ex:(x.Kind == 10)=false:=by simp [hx10]
     rw [ex]
     rfl
    have ed2:cond (decide (2≤t.Kind)) (decide (t.Kind≤7)) false=false:=by
     rw [Zf8,Bool.and_eq_false_iff,decide_eq_false_iff_not,decide_eq_false_iff_not];omega
    rw [ed2,if_neg hdt]
    have hin:∀ (X:Option Bool) (b:Bool),(cond (decide (2≤t.Kind)) (cond (decide (t.Kind≤7)) X (some b)) (some b))=some b:=fun X b=>by
     by_cases h2:2≤t.Kind
     ·have h7:decide (t.Kind≤7)=false:=by rw [decide_eq_false_iff_not];omega
      rw [decide_eq_true h2,h7];rfl
     rw [decide_eq_false h2];rfl
    by_cases hx10:x.Kind=10
    ·have ex:(x.Kind == 10)=true:=by simp [hx10]
     have ex2:(x.Kind != 10)=false:=by simp [hx10]
     rw [ex,ex2]
     rfl
    have ex:(x.Kind == 10)=false:=by simp [hx10]
    have ex2:(x.Kind != 10)=true:=by simp [hx10]
    have ex3:((false:Bool) != false)=false:=rfl
    rw [ex,ex2,ex3,cond_false]
    simp only [cond_false]
    rw [hin]
    by_cases h9:t.Kind=9
    ·have e9:(t.Kind == 9)=true:=by simp [h9]
     have e9':(t.Kind != 9)=false:=by simp [h9]
     rw [e9,e9',cond_true]
     by_cases hx1:x.Kind=1
     ·have q1:(x.Kind != 1)=false:=by simp [hx1]
      have q2:(x.Kind == 1)=true:=by simp [hx1]
      rw [q1,q2,cond_false]
      rfl
     have q1:(x.Kind != 1)=true:=by simp [hx1]
     have q2:(x.Kind == 1)=false:=by simp [hx1]
     rw [q1,q2,cond_true]
     rfl
    have e9:(t.Kind == 9)=false:=by simp [h9]
    have e9':(t.Kind != 9)=true:=by simp [h9]
    rw [e9,e9']
    rfl) (by unfold Jx;rw [Zt3];rfl),Option.bind_some,Nat.add_sub_cancel]
  cases t.Kids.all fun x=>rt x d' && okk t.Kind x <;> rfl
theorem Z6m {t:Tr} (h:Bd t) {d:Nat} (hd:d≤64):Za2 t (d:Int)=some (rt t d):=Ztz (SizeOf.sizeOf t+1) fun k hk=>Zwb k t d h (by omega) hd
def Z2r:List (Tr×Int)→Int
 | []=>0
 | p::ps=>p.2+Z2r ps
theorem Z33:∀ ps:List (Tr×Int),(∀ p∈ps,0≤p.2)→0≤Z2r ps
 | [],_=>Int.le_refl _
 | p::ps,h=>by
  have h1:=h p (.head _)
  have h2:=Z33 ps fun q hq=>h q (.tail _ hq)
  simp only [Z2r]
  omega
def GG (t:Tr) (d:Nat) (w:Int):Prop:=True∧0≤w∧rt t d=true
theorem Ya4 (d:Nat):GG ⟨0,[],[]⟩ d 0:=⟨trivial,Int.le_refl _,by rw [Zfk];rfl⟩
theorem Yek (w:Int) (d:Nat):GG ⟨10,[w],[]⟩ d 1:=⟨trivial,by decide,by rw [Zfk];rfl⟩
theorem Z32 {t:Tr} (h1:1≤t.Kind∧t.Kind≤9) {d:Nat} (hd:1≤d∧d≤64) (hl:t.Kids.length < 65536∨t.Kind≠1∧t.Kids.length≤65536) (hw:t.Words.length < 65536) (hws:1 < t.Kind→t.Words.length=0) {ps:List (Tr×Int)} (e:t.Kids=ps.map (·.1)) (hp:∀ p∈ps,GG p.1 (d - 1) p.2∧okk t.Kind p.1=true) {b c w:Int} (hb:b=if t.Kind=1 then 1+(t.Words.length:Int) else 1) (hc:c=if t.Kind=1∨t.Kind=8 then 1 else 0) (hwe:w=b+Z2r ps+c * (ps.length:Int)) (hw2:w≤65536):GG t d w:=by
 have hm:∀ x∈t.Kids,∃ p∈ps,p.1=x:=fun x hx=>by
  rw [e] at hx
  exact List.mem_map.1 hx
 have hg:=Z33 ps fun p q=>(hp p q).1.2.1
 have hc0:0≤c:=by rw [hc];split <;> omega
 have hb0:0≤b:=by rw [hb];split <;> omega
 have hcl:0≤c * (ps.length:Int):=Int.mul_nonneg hc0 (by omega)
 refine ⟨trivial,by omega,?_⟩
 rw [Zfk,if_neg (by omega),if_neg (by omega),if_neg (by omega),List.all_eq_true]
 intro x hx
 obtain ⟨p,hp',rfl⟩:=hm x hx
 have:=hp p hp'
 rw [this.1.2.2,this.2]
 rfl
section
variable {A:Zp}
theorem Ztq {f:Zd→Int→Tr×Int×Int} {g:Int→Zd×Int} {Q:Tr→Int→Prop} {e M:Int} {n:Nat} (hQ:∀ (i:Nat) (left:Int),i < n→0≤left→left≤M→(g i).2=0→(f (g i).1 left).2.2=0→0≤(f (g i).1 left).2.1∧(f (g i).1 left).2.1≤left∧Q (f (g i).1 left).1 (left - (f (g i).1 left).2.1+e)) :
  ∀ (m i:Nat) (left:Int) (acc:List Tr),i+m=n→0≤left→left≤M→(Y7 f g m i left acc).2.2=0→0≤(Y7 f g m i left acc).2.1∧(Y7 f g m i left acc).2.1≤left∧∃ ps:List (Tr×Int),(Y7 f g m i left acc).1=acc++ps.map (·.1)∧ps.length=m∧(∀ p∈ps,Q p.1 p.2)∧Z2r ps=left - (Y7 f g m i left acc).2.1+e * (m:Int)
 | 0,i,left,acc,_,h0,_,_=>⟨h0,Int.le_refl _,[],by simp [Y7],rfl,by simp,by simp [Y7,Z2r]⟩
 | m+1,i,left,acc,hi,h0,hM,h=>by
  rw [Y7] at h ⊢
  by_cases h1:(g i).2≠0
  ·rw [if_pos h1] at h;exact absurd h h1
  rw [if_neg h1] at h ⊢
  by_cases h2:(f (g i).1 left).2.2≠0
  ·rw [if_pos h2] at h;exact absurd h h2
  rw [if_neg h2] at h ⊢
  obtain ⟨a1,a2,a3⟩:=hQ i left (by omega) h0 hM (by omega) (by omega)
  obtain ⟨b1,b2,ps,c1,c2,c3,c4⟩:=Ztq hQ m (i+1) _ _ (by omega) a1 (by omega) h
  refine ⟨b1,by omega,((f (g i).1 left).1,left - (f (g i).1 left).2.1+e)::ps,by rw [c1,List.append_assoc,List.map_cons];rfl,by rw [List.length_cons,c2],?_,?_⟩
  ·intro p hp
   rcases List.mem_cons.1 hp with rfl | hp
   ·exact a3
   exact c3 p hp
  have:e * ((m+1:Nat):Int)=e * (m:Int)+e:=by rw [show ((m+1:Nat):Int)=(m:Int)+1 from rfl,Int.mul_add,Int.mul_one]
  rw [this]
  simp only [Z2r]
  rw [c4]
  omega
theorem Zzp (s a:Int):(atR A s a).1.kind≠10:=by
 unfold atR
 rcases Zi7 A.segments s a with h | ⟨h1,hp,hk,hi⟩
 ·rw [if_pos h];simp [r0]
 rw [if_neg (by omega)]
 have hc:=hp.c
 generalize (fol A.segments s a).1=x at *
 simp only
 split
 ·simp
 split
 ·split
  ·simp [r0]
  simp
 simp only
 omega
theorem Z34 {r:Zd} (h:r.kind=1∨r.kind=8) (i:Int):(Yq A r i).1.kind≠10:=by
 unfold Yq
 split
 ·simp [r0]
 split
 ·exact Zzp _ _
 split
 ·exact Zzp _ _
 omega
theorem Z8d {r:Zd} (h:r.kind=9) {i:Int} (hi:0≤i∧i < Ym r):Yq A r i=(⟨some A,1,r.segment,r.at_+1+i * (r.words+r.ptrs),r.words,r.ptrs,0,0,0⟩,0):=by
 unfold Yq
 rw [if_neg (by omega),if_neg (by omega),if_neg (by omega),if_pos h]
theorem Z8c {r:Zd} (h:2≤r.kind∧r.kind≤7) {i:Int} (hi:0≤i∧i < Ym r):Yq A r i=(⟨some A,10,r.segment,r.at_,0,0,0,r.kind - 2,i⟩,0):=by
 unfold Yq
 rw [if_neg (by omega),if_neg (by omega),if_neg (by omega),if_neg (by omega)]
theorem Z5b (c:Int):((wid c:Nat):Int)=wdt c:=by
 unfold wid wdt
 repeat' split
 all_goals rfl
theorem Z56 (r:Zd):Zbp r.code (Zsl A r)=true:=by
 unfold Zbp Zsl
 rw [decide_eq_true_eq]
 split
 ·exact Int.pow_pos (by decide)
 unfold Zt6
 have:(wdt r.code).toNat=wid r.code:=by rw [← Z5b,Int.toNat_natCast]
 rw [this]
 have h:=Nat.mod_lt ((wd A.segments r.segment (r.at_+r.index / each r.code)).toNat / 2 ^ (r.index % each r.code * wdt r.code).toNat) (Nat.pow_pos (n:=wid r.code) (show 0 < 2 by decide))
 have e:(2:Int) ^ wid r.code=((2 ^ wid r.code:Nat):Int):=by simp
 rw [e]
 omega
theorem Z63 {r:Zd} (hr:OKr A r) (h:r.kind=1):((Yg A r).length:Int)=r.words:=by
 unfold Yg
 rw [if_neg (by omega),if_pos h]
 cases hr with
 | z=>simp [r0] at h
 | st s a d p hd hp hin =>
  have:=inB_iff.1 hin
  simp only [List.length_take,List.length_drop]
  simp only [seg] at this ⊢
  omega
 | li k s a n hk=>simp only at h;omega
 | co=>simp at h
 | at_=>simp at h
def HF (A:Zp) (f:Zd→Int→Tr×Int×Int) (d:Nat):Prop:=∀ k left,OKr A k→k.kind≠10→0≤left→left≤65536→(f k left).2.2=0→0≤(f k left).2.1∧(f k left).2.1≤left∧(f k left).1.Kind=k.kind∧GG (f k left).1 d (left - (f k left).2.1)
theorem Z4k {κ:Int} (h:κ=1∨κ=8) {k:Tr} (hk:k.Kind≠10):okk κ k=true:=by
 unfold okk
 rw [if_neg (by omega)]
 have e1:(k.Kind != 10)=true:=bne_iff_ne.2 hk
 have e2:(κ != 9)=true:=bne_iff_ne.2 (by omega)
 rw [e1,e2]
 rfl
theorem Yct {f:Zd→Int→Tr×Int×Int} {d:Nat} (hd:1≤d∧d≤64) (hf:HF A f (d - 1)) {r:Zd} (hr:OKr A r) (h1:r.kind=1) {left:Int} (h0:0≤left) (hb:1+r.words+r.ptrs+left≤65536) (h:(Y7 f (Yq A r) r.ptrs.toNat 0 left []).2.2=0) :
  0≤(Y7 f (Yq A r) r.ptrs.toNat 0 left []).2.1∧(Y7 f (Yq A r) r.ptrs.toNat 0 left []).2.1≤left∧GG ⟨1,Yg A r,(Y7 f (Yq A r) r.ptrs.toNat 0 left []).1⟩ d (1+r.words+r.ptrs+(left - (Y7 f (Yq A r) r.ptrs.toNat 0 left []).2.1)):=by
 have hrg:0≤r.words∧r.words < 65536∧0≤r.ptrs∧r.ptrs < 65536:=by
  cases hr with
  | z=>simp [r0] at h1
  | st s a d p hd hp hin=>simp only;omega
  | li k s a n hk=>simp only at h1;omega
  | co=>simp at h1
  | at_=>simp at h1
 have hwl:=Z63 hr h1
 obtain ⟨a1,a2,ps,b1,b2,b3,b4⟩:=Ztq (f:=f) (g:=Yq A r) (Q:=fun t w=>GG t (d - 1) w∧okk 1 t=true) (e:=0) (M:=left) (n:=r.ptrs.toNat) (fun i l hi hl hM g0 e0=>by
  have hk:=Z34 (A:=A) (r:=r) (.inl h1) i
  obtain ⟨c1,c2,c3,c4⟩:=hf _ l (Vi hr i) hk hl (by omega) e0
  exact ⟨c1,c2,by rw [Int.add_zero];exact c4,Z4k (.inl rfl) (by rw [c3];exact hk)⟩) r.ptrs.toNat 0 left [] (by omega) h0 (Int.le_refl _) h
 refine ⟨a1,a2,?_⟩
 rw [List.nil_append] at b1
 rw [Int.zero_mul,Int.add_zero] at b4
 refine Z32 (t:=⟨1,Yg A r,_⟩) ⟨show (1:Int)≤1 by decide,show (1:Int)≤9 by decide⟩ hd (.inl ?_) ?_ (fun q=>absurd q (show ¬ (1:Int) < 1 by decide)) b1 b3 (b:=1+((Yg A r).length:Int)) (c:=1) rfl rfl ?_ (by omega)
 ·show (Y7 f (Yq A r) r.ptrs.toNat 0 left []).1.length < 65536
  rw [b1,List.length_map,b2]
  omega
 ·show (Yg A r).length < 65536
  omega
 rw [b4,b2]
 omega
end
section
variable {A:Zp}
theorem Z97 (f:Zd→Int→Tr×Int×Int) (k:Zd) (left:Int):(stK A f k left).1.Kind=1:=rfl
theorem Ya3 (hw:WS A.segments):∀ d:Nat,d≤64→HF A (Zfv A d) d:=fun d=>by
 induction d using Nat.strongRecOn with
 | ind d ih =>
  intro hd r left hr h10 h0 hl h
  have hP:∀ k,1≤k→k≤d→HF A (Xr A k d) (d - k):=fun k hk hkd=>by
   unfold Xr
   rw [if_pos hkd]
   exact ih _ (by omega) (by omega)
  have hwt:=Yap hw hr
  have hkn:=Zeo hr
  have hkd:=Ycv hr
  rw [Zo8] at h ⊢
  unfold Zjh at h ⊢
  by_cases k0:r.kind=0
  ·rw [if_pos k0]
   refine ⟨h0,Int.le_refl _,rfl,?_⟩
   have e:Yg A r=[]:=by unfold Yg;rw [if_neg (by omega),if_neg (by omega)]
   simp only
   rw [e,k0,Int.sub_self]
   exact Ya4 d
  rw [if_neg k0] at h ⊢
  by_cases hb:d < lvR r∨left < wtR r
  ·rw [if_pos hb] at h;simp at h
  rw [if_neg hb] at h ⊢
  have hlv:1≤lvR r:=by
   unfold lvR
   rw [if_neg k0]
   split <;> omega
  have hd1:1≤d∧d≤64:=by omega
  by_cases k1:r.kind=1
  ·-- a struct
   have ek:Ym r=r.ptrs:=by unfold Ym;rw [if_pos k1]
   have ew:wtR r=1+r.words+r.ptrs:=by unfold wtR;rw [if_neg k0,if_pos k1]
   have ef:U0 A (Xr A 1 d) (Xr A 2 d) r=Xr A 1 d:=by unfold U0;rw [if_neg (by omega),if_pos (.inl k1)]
   simp only at h ⊢
   rw [ek,ew,ef] at h ⊢
   obtain ⟨a1,a2,a3⟩:=Yct hd1 (hP 1 (by omega) (by omega)) hr k1 (left:=left - (1+r.words+r.ptrs)) (by omega) (by omega) h
   refine ⟨a1,by omega,trivial,?_⟩
   rw [k1]
   have:left - (Y7 (Xr A 1 d) (Yq A r) r.ptrs.toNat 0 (left - (1+r.words+r.ptrs)) []).2.1=1+r.words+r.ptrs+(left - (1+r.words+r.ptrs) - (Y7 (Xr A 1 d) (Yq A r) r.ptrs.toNat 0 (left - (1+r.words+r.ptrs)) []).2.1):=by omega
   rw [this]
   exact a3
  -- a list
  have ewl:Yg A r=[]:=by unfold Yg;rw [if_neg h10,if_neg k1]
  have ek:Ym r=r.count:=by unfold Ym;rw [if_neg k1]
  rw [ek] at hkn
  simp only at h ⊢
  rw [ek] at h ⊢
  have hcw:r.count+1≤wtR r:=by
   cases hr with
   | z=>simp [r0] at k0
   | st=>simp at k1
   | li k s a n hk hn hin =>
    simp only [wtR] at *
    rw [if_neg (by omega),if_neg (by omega),if_neg (by omega)]
    omega
   | co s a d' p n hd' hp hn hwx hin =>
    have:n * (1+d'+p)=n+n * (d'+p):=by rw [Int.add_assoc,Int.mul_add,Int.mul_one]
    simp [wtR]
    omega
   | at_=>simp at h10
  -- what each kid adds
  have main:∀ e:Int,wtR r=1+e * r.count+(if r.kind=8 then r.count else 0)→(∀ (i:Nat) (l:Int),i < r.count.toNat→0≤l→l≤left - wtR r→(Yq A r i).2=0→(U0 A (Xr A 1 d) (Xr A 2 d) r (Yq A r i).1 l).2.2=0→0≤(U0 A (Xr A 1 d) (Xr A 2 d) r (Yq A r i).1 l).2.1∧(U0 A (Xr A 1 d) (Xr A 2 d) r (Yq A r i).1 l).2.1≤l∧(GG (U0 A (Xr A 1 d) (Xr A 2 d) r (Yq A r i).1 l).1 (d - 1) (l - (U0 A (Xr A 1 d) (Xr A 2 d) r (Yq A r i).1 l).2.1+e)∧okk r.kind (U0 A (Xr A 1 d) (Xr A 2 d) r (Yq A r i).1 l).1=true)) →
    0≤(Y7 (U0 A (Xr A 1 d) (Xr A 2 d) r) (Yq A r) r.count.toNat 0 (left - wtR r) []).2.1∧(Y7 (U0 A (Xr A 1 d) (Xr A 2 d) r) (Yq A r) r.count.toNat 0 (left - wtR r) []).2.1≤left∧True∧GG ⟨r.kind,Yg A r,(Y7 (U0 A (Xr A 1 d) (Xr A 2 d) r) (Yq A r) r.count.toNat 0 (left - wtR r) []).1⟩ d (left - (Y7 (U0 A (Xr A 1 d) (Xr A 2 d) r) (Yq A r) r.count.toNat 0 (left - wtR r) []).2.1):=fun e he hQ=>by
   obtain ⟨a1,a2,ps,b1,b2,b3,b4⟩:=Ztq (f:=U0 A (Xr A 1 d) (Xr A 2 d) r) (g:=Yq A r) (Q:=fun t w=>GG t (d - 1) w∧okk r.kind t=true) (e:=e) (M:=left - wtR r) (n:=r.count.toNat) hQ r.count.toNat 0 (left - wtR r) [] (by omega) (by omega) (Int.le_refl _) h
   refine ⟨a1,by omega,trivial,?_⟩
   rw [List.nil_append] at b1
   rw [show ((r.count.toNat:Nat):Int)=r.count by omega] at b4
   have hc8:(if r.kind=8 then (1:Int) else 0)=if r.kind=1∨r.kind=8 then 1 else 0:=by
    by_cases k8:r.kind=8
    ·rw [if_pos k8,if_pos (.inr k8)]
    rw [if_neg k8,if_neg (by omega)]
   refine Z32 (t:=⟨r.kind,Yg A r,_⟩) (show 1≤r.kind∧r.kind≤9 by omega) hd1 (.inr ⟨k1,?_⟩) ?_ (fun _=>by simp only;rw [ewl];rfl) b1 b3 (b:=1) (c:=if r.kind=8 then 1 else 0) (by simp only;rw [if_neg k1]) hc8 ?_ (by omega)
   ·show (Y7 (U0 A (Xr A 1 d) (Xr A 2 d) r) (Yq A r) r.count.toNat 0 (left - wtR r) []).1.length≤65536
    rw [b1,List.length_map,b2]
    omega
   ·show (Yg A r).length < 65536
    rw [ewl]
    decide
   rw [b4,b2,show ((r.count.toNat:Nat):Int)=r.count by omega]
   by_cases k8:r.kind=8
   ·rw [if_pos k8] at he ⊢
    rw [Int.one_mul]
    omega
   rw [if_neg k8] at he ⊢
   rw [Int.zero_mul]
   omega
  by_cases k9:r.kind=9
  ·have ef:U0 A (Xr A 1 d) (Xr A 2 d) r=stK A (Xr A 2 d):=by unfold U0;rw [if_pos k9]
   have ew:wtR r=1+r.count * (1+r.words+r.ptrs):=by unfold wtR;rw [if_neg k0,if_neg k1,if_pos k9]
   refine main (1+r.words+r.ptrs) (by rw [if_neg (by omega),ew,Int.mul_comm];omega) fun i l hi h0' hM g0 e0 => ?_
   rw [ef] at e0 ⊢
   have hks:=Z8d (A:=A) k9 (i:=(i:Int)) (by rw [ek];omega)
   have hko:=Vi hr (i:Int)
   have hl2:2≤d:=by
    have:lvR r=2:=by unfold lvR;rw [if_neg k0,if_pos ⟨k9,by omega⟩]
    omega
   have hfit:1+r.words+r.ptrs≤wtR r - 1:=by
    have hnn:0≤1+r.words+r.ptrs:=by
     cases hr with
     | z=>simp [r0] at k0
     | st=>simp at k1
     | li k s a n hk hn hin=>simp only at k9;omega
     | co s a d' p n hd' hp hn hwx hin=>simp only;omega
     | at_=>simp at h10
    have:1 * (1+r.words+r.ptrs)≤r.count * (1+r.words+r.ptrs):=Int.mul_le_mul_of_nonneg_right (by omega) hnn
    rw [ew]
    omega
   have e1:(Yq A r (i:Int)).1.kind=1:=by rw [hks]
   have e2:(Yq A r (i:Int)).1.words=r.words:=by rw [hks]
   have e3:(Yq A r (i:Int)).1.ptrs=r.ptrs:=by rw [hks]
   obtain ⟨a1,a2,a3⟩:=Yct (d:=d - 1) (by omega) (hP 2 (by omega) hl2) hko e1 (left:=l) h0' (by rw [e2,e3];omega) e0
   refine ⟨a1,a2,?_,?_⟩
   ·have ea:1+(Yq A r (i:Int)).1.words+(Yq A r (i:Int)).1.ptrs=1+r.words+r.ptrs:=by rw [e2,e3]
    rw [ea,Int.add_comm (1+r.words+r.ptrs)] at a3
    exact a3
   unfold okk
   rw [if_neg (by omega),Z97,k9]
   rfl
  by_cases k8:r.kind=8
  ·have ef:U0 A (Xr A 1 d) (Xr A 2 d) r=Xr A 1 d:=by unfold U0;rw [if_neg k9,if_pos (.inr k8)]
   have ew:wtR r=1+r.count:=by unfold wtR;rw [if_neg k0,if_neg k1,if_neg k9]
   refine main 0 (by rw [if_pos k8,ew,Int.zero_mul];omega) fun i l hi h0' hM g0 e0 => ?_
   rw [ef] at e0 ⊢
   have hk:=Z34 (A:=A) (r:=r) (.inr k8) i
   obtain ⟨c1,c2,c3,c4⟩:=hP 1 (by omega) (by omega) _ l (Vi hr i) hk h0' (by omega) e0
   exact ⟨c1,c2,by rw [Int.add_zero];exact c4,Z4k (.inr k8) (by rw [c3];exact hk)⟩
  have ef:U0 A (Xr A 1 d) (Xr A 2 d) r=Zzr A:=by unfold U0;rw [if_neg k9,if_neg (by omega)]
  have ew:wtR r=1+r.count:=by unfold wtR;rw [if_neg k0,if_neg k1,if_neg k9]
  refine main 1 (by rw [if_neg k8,ew,Int.one_mul];omega) fun i l hi h0' hM g0 e0 => ?_
  rw [ef] at e0 ⊢
  have hks:=Z8c (A:=A) (r:=r) (by omega) (i:=(i:Int)) (by rw [ek];omega)
  unfold Zzr
  simp only
  refine ⟨h0',Int.le_refl _,?_⟩
  have e1:(Yq A r (i:Int)).1.kind=10:=by rw [hks]
  have e2:(Yq A r (i:Int)).1.code=r.kind - 2:=by rw [hks]
  have ewk:Yg A (Yq A r (i:Int)).1=[Zsl A (Yq A r (i:Int)).1]:=by unfold Yg;rw [if_pos e1]
  rw [e1,ewk,Int.sub_self,Int.zero_add]
  refine ⟨Yek _ _,?_⟩
  unfold okk
  rw [if_pos (by omega)]
  have:=Z56 (A:=A) (Yq A r (i:Int)).1
  rw [e2] at this
  simp only [List.headD_cons]
  rw [this]
  rfl
end
theorem Z4q:∀ (n:Nat) (t:Tr),SizeOf.sizeOf t < n→∀ d d',d≤d'→rt t d=true→rt t d'=true
 | 0,t,h,_,_,_,_=>by omega
 | n+1,t,hn,d,d',hd,h=>by
  rw [Zfk] at h ⊢
  by_cases h0:t.Kind=0
  ·rw [if_pos h0] at h ⊢
   exact h
  rw [if_neg h0] at h ⊢
  by_cases h10:t.Kind=10
  ·rw [if_pos h10] at h ⊢
   exact h
  rw [if_neg h10] at h ⊢
  by_cases hb:t.Kind < 0∨10 < t.Kind∨d=0∨65536≤t.Words.length∨(t.Kind=1∧65536≤t.Kids.length)∨1048576≤t.Kids.length∨(1 < t.Kind∧0 < t.Words.length)
  ·rw [if_pos hb] at h
   cases h
  rw [if_neg hb] at h
  rw [if_neg (by omega)]
  rw [List.all_eq_true] at h ⊢
  intro x hx
  have:=h x hx
  rw [Bool.and_eq_true] at this ⊢
  exact ⟨Z4q n x (by have:=Xc hx;omega) (d - 1) (d' - 1) (by omega) this.1,this.2⟩
def Yiv (m i:Nat):Bool:=decide (m / 2 ^ i % 2=1)
def Ycn (f:Nat→Nat):Nat→Nat
 | 0=>0
 | k+1=>2 ^ (8 * k) * f k+Ycn f k
def Yco (n k:Nat):Nat:=n / 256 ^ k % 256
def Yiy (a b m k:Nat):Nat:=if Yiv m k then Yco b k else Yco a k
def Yiz (a b m:Nat):Nat:=Ycn (Yiy a b m) 8
def wi (x m:Int):Bool:=Yiz x.toNat 0 m.toNat == 0
abbrev Ed:=Yv
theorem Zsz {e:Ed} {k:Xm} (h:k∈e.Kids):SizeOf.sizeOf k.E < SizeOf.sizeOf e:=by
 obtain ⟨a,b,c,d,ks,f,g⟩:=e
 obtain ⟨i,x⟩:=k
 have h1:=List.sizeOf_lt_of_mem h
 simp only [Yv.mk.sizeOf_spec,Xm.mk.sizeOf_spec] at h1 ⊢
 omega
theorem Zyv {e:Ed} {o:Qh} (h:o∈e.Ops):SizeOf.sizeOf o.E < SizeOf.sizeOf e:=by
 obtain ⟨a,b,c,d,ks,f,os⟩:=e
 obtain ⟨i,n,l,x⟩:=o
 have h1:=List.sizeOf_lt_of_mem h
 simp only [Yv.mk.sizeOf_spec,Qh.mk.sizeOf_spec] at h1 ⊢
 omega
inductive BE:Ed→Prop
 | mk (e:Ed) (h1:Bd e.Old) (h2:Bd e.New) (h3:(e.Words.length:Int)≤140737488355328) (h4:∀ w∈e.Words,(0≤w.Mask∧w.Mask < 256)∧(0≤w.Old∧w.Old < 18446744073709551616)∧(0≤w.New∧w.New < 18446744073709551616))
   (h5:(e.Kids.length:Int)≤140737488355328) (h6:∀ k∈e.Kids,BE k.E) (h7:(e.Ops.length:Int)≤140737488355328) (h8:∀ o∈e.Ops,o.L.length * 56≤140737488355328∧∀ t∈o.L,Bd t) (h9:∀ o∈e.Ops,BE o.E):BE e
theorem BE.w {e:Ed} (h:BE e):(e.Words.length:Int)≤140737488355328:=by cases h;assumption
theorem BE.ws {e:Ed} (h:BE e):∀ w∈e.Words,(0≤w.Mask∧w.Mask < 256)∧(0≤w.Old∧w.Old < 18446744073709551616)∧(0≤w.New∧w.New < 18446744073709551616):=by cases h;assumption
theorem BE.k {e:Ed} (h:BE e):(e.Kids.length:Int)≤140737488355328:=by cases h;assumption
theorem BE.ks {e:Ed} (h:BE e):∀ k∈e.Kids,BE k.E:=by cases h;assumption
theorem BE.o {e:Ed} (h:BE e):(e.Ops.length:Int)≤140737488355328:=by cases h;assumption
theorem BE.l {e:Ed} (h:BE e):∀ o∈e.Ops,o.L.length * 56≤140737488355328∧∀ t∈o.L,Bd t:=by cases h;assumption
theorem BE.os {e:Ed} (h:BE e):∀ o∈e.Ops,BE o.E:=by cases h;assumption
def chk {α:Type} (pl:α→Int) (ok:Int→α→Bool):Int→List α→Bool
 | _,[]=>true
 | p,x::xs=>ok p x && chk pl ok (pl x) xs
def Ycz (t:Tr):Bool:=t.Kind == 0 && (t.Words.length == 0 && t.Kids.length == 0)
def Zym (e:Ed):Bool:=e.Words.length == 0 && e.Kids.length == 0
def Zt5 (e:Ed):Bool:=e.List_ == 0 && e.Ops.length == 0
def Z0u (e:Ed):Bool:=Ycz e.Old && Ycz e.New
def Zpv (e:Ed):Bool:=e.Kind == 0 && (Z0u e && (Zym e && Zt5 e))
def okW (p:Int) (w:Z8):Bool := !(((((decide (w.At≤p) || decide (65534 < w.At)) || w.Mask == 0) || !(wi w.Old w.Mask)) || !(wi w.New w.Mask)))
theorem Z55 {α S R σ:Type} (xs:List α) (mk:S→Int→σ) (f:S→α→S) (out:S→R) (I:S→Prop) (step:σ→Option (σ ⊕ R)) (hl:(xs.length:Int)≤140737488355328)
  (h1:∀ (s:S) (i:Nat) (x:α),I s→i < xs.length→xs[i]? = some x→x∈xs→I (f s x)∧step (mk s (i:Int))=some (.inl (mk (f s x) (IntKind.i64.wrap ((i:Int)+1))))) (h2:∀ s,I s→step (mk s (xs.length:Int))=some (.inr (out s))) (s:S) (hs:I s):Z6 step (mk s 0)=some (out (xs.foldl f s))∧I (xs.foldl f s):=by
 have key:∀ (ys:List α) (i:Nat) (s:S),I s→xs.drop i=ys→i≤xs.length→Z6 step (mk s (i:Int))=some (out (ys.foldl f s))∧I (ys.foldl f s):=fun ys=>by
  induction ys with
  | nil =>
   intro i s hI h hi
   have:i=xs.length:=by
    have:=congrArg List.length h
    rw [List.length_drop,List.length_nil] at this
    omega
   subst this
   exact ⟨Yt (h2 s hI),hI⟩
  | cons x ys ih =>
   intro i s hI h hi
   have hx:xs[i]? = some x:=by
    have:=congrArg (fun l=>l[0]?) h
    simpa using this
   have hi':i < xs.length:=by
    rcases Nat.lt_or_ge i xs.length with h' | h'
    ·exact h'
    rw [List.getElem?_eq_none h'] at hx;cases hx
   obtain ⟨hI',hs⟩:=h1 s i x hI hi' hx (List.mem_of_getElem? hx)
   have hd:xs.drop (i+1)=ys:=by
    have:=congrArg List.tail h
    rwa [List.tail_drop,List.tail_cons] at this
   have e1:(i:Int)+1=((i+1:Nat):Int):=by omega
   rw [Yy (by omega) (by omega),e1] at hs
   rw [X9 hs]
   exact ih (i+1) (f s x) hI' hd (by omega)
 exact key xs 0 s hs rfl (Nat.zero_le _)
def thr (o:Qh):Int:=if o.Kind=0 then (if 1048576 < (if o.N < 0 then 0 else o.N) then 1048576 else (if o.N < 0 then 0 else o.N)) else if o.Kind=1∨o.Kind=2 then (o.L.length:Int) else if o.Kind=3 then 1 else 0
theorem Z3g {o:Qh} (h:o.L.length * 56≤140737488355328):0≤thr o∧thr o≤140737488355328:=by
 unfold thr
 repeat' split
 all_goals omega
def Zu4 (x:Int):Int:=if 1048576 < x then 1048576 else x
def stI (s:Int×Int) (o:Qh):Int×Int:=(if o.Kind=2 then s.1 else Zu4 (s.1+thr o),if o.Kind=1 then s.2 else Zu4 (s.2+thr o))
def Sm (s:Int×Int):Prop:=(0≤s.1∧s.1≤1048576)∧(0≤s.2∧s.2≤1048576)
theorem Z3c {s:Int×Int} {o:Qh} (hs:Sm s) (h:o.L.length * 56≤140737488355328):Sm (stI s o):=by
 have:=Z3g h
 unfold Sm at hs ⊢
 unfold stI Zu4
 refine ⟨?_,?_⟩
 ·simp only
  split
  ·omega
  split <;> omega
 simp only
 split
 ·omega
 split <;> omega
def Ya7 (o:Qh):Int:=if o.Kind=3 then 1 else IntKind.i64.wrap (o.N+(o.L.length:Int))
def stR (s:Int×Int) (o:Qh):Int×Int:=(Zu4 (if o.Kind=2 then s.1 else IntKind.i64.wrap (s.1+Ya7 o)),Zu4 (if o.Kind=1 then s.2 else IntKind.i64.wrap (s.2+Ya7 o)))
def Yfe (l:Int) (e:Ed):Bool:=if l=8 then e.Kind != 0 else if l=9 then e.Kind == 2 || (e.Kind == 1 && (e.Old.Kind == 1 && e.New.Kind == 1)) else false
def okO (l:Int) (o:Qh) (r:Bool):Bool :=
 if o.Kind=0 then (decide (1≤o.N) && decide (o.N≤1048576)) && (o.L.length == 0 && Zpv o.E)
 else if o.Kind=1∨o.Kind=2 then o.N == 0 && (decide (0 < o.L.length) && ((o.L.all fun t=>rt t 63 && okk l t) && Zpv o.E))
 else if o.Kind=3 then o.N == 0 && (o.L.length == 0 && (o.E.Kind != 0 && (Yfe l o.E && r)))
 else false
def Z0l (s:Int×Int):Bool:=decide (s.1 < 1048576) && decide (s.2 < 1048576)
theorem Yev {l:Int} {o:Qh} {r:Bool} (h:okO l o r=true):o.N+(o.L.length:Int)=(if o.Kind=3 then 0 else thr o)∧0≤thr o:=by
 unfold okO at h
 unfold thr
 by_cases h0:o.Kind=0
 ·rw [if_pos h0] at h
  simp only [Bool.and_eq_true,decide_eq_true_eq,beq_iff_eq] at h
  simp only [h0,if_pos]
  refine ⟨?_,?_⟩
  ·rw [if_neg (by decide)]
   repeat' split
   all_goals omega
  repeat' split
  all_goals omega
 rw [if_neg h0] at h
 by_cases h12:o.Kind=1∨o.Kind=2
 ·rw [if_pos h12] at h
  simp only [Bool.and_eq_true,beq_iff_eq] at h
  rw [if_neg h0,if_pos h12,if_neg (by omega)]
  omega
 rw [if_neg h12] at h
 by_cases h3:o.Kind=3
 ·rw [if_pos h3] at h
  simp only [Bool.and_eq_true,beq_iff_eq] at h
  rw [if_neg h0,if_neg h12,if_pos h3,if_pos h3]
  omega
 rw [if_neg h3] at h
 cases h
theorem Yb4 {l:Int} {o:Qh} {r:Bool} {s:Int×Int} (h:okO l o r=true) (hs:Sm s) (hl:o.L.length * 56≤140737488355328):stR s o=stI s o:=by
 have ht:=Z3g hl
 have hk:=Yev h
 have hi:Ya7 o=thr o:=by
  unfold Ya7
  by_cases h3:o.Kind=3
  ·rw [if_pos h3]
   unfold thr
   rw [if_neg (by omega),if_neg (by omega),if_pos h3]
  rw [if_neg h3] at hk ⊢
  rw [Yy (by omega) (by omega)]
  exact hk.1
 unfold Sm at hs
 unfold stR stI
 rw [hi,Yy (by omega) (by omega),Yy (by omega) (by omega)]
 have hc:∀ x:Int,x≤1048576→Zu4 x=x:=fun x hx=>by unfold Zu4;rw [if_neg (by omega)]
 refine Prod.ext ?_ ?_
 ·simp only
  split
  ·exact hc _ hs.1.2
  rfl
 simp only
 split
 ·exact hc _ hs.2.2
 rfl
theorem Zvv {l:Int} (r:Qh→Bool):∀ (os:List Qh) (s:Int×Int),Sm s→(∀ o∈os,okO l o (r o)=true)→(∀ o∈os,o.L.length * 56≤140737488355328)→os.foldl stR s=os.foldl stI s∧Sm (os.foldl stI s)
 | [],s,hs,_,_=>⟨rfl,hs⟩
 | o::os,s,hs,h,hl=>by
  have h1:=Yb4 (h o (.head _)) hs (hl o (.head _))
  have:=Zvv r os (stI s o) (Z3c hs (hl o (.head _))) (fun x hx=>h x (.tail _ hx)) (fun x hx=>hl x (.tail _ hx))
  rw [List.foldl_cons,List.foldl_cons,h1]
  exact this
theorem Z30:∀ (os:List Qh) (s:Int×Int),Sm s→(∀ o∈os,o.L.length * 56≤140737488355328)→(s.1=1048576→(os.foldl stI s).1=1048576)∧(s.2=1048576→(os.foldl stI s).2=1048576)
 | [],s,_,_=>⟨id,id⟩
 | o::os,s,hs,hl=>by
  have ht:=Z3g (hl o (.head _))
  have:=Z30 os (stI s o) (Z3c hs (hl o (.head _))) (fun x hx=>hl x (.tail _ hx))
  rw [List.foldl_cons]
  refine ⟨fun h=>this.1 ?_,fun h=>this.2 ?_⟩
  ·unfold stI Zu4
   simp only
   repeat' split
   all_goals omega
  unfold stI Zu4
  simp only
  repeat' split
  all_goals omega
def okP (p:Int) (x:Int×Bool):Bool := !(decide (x.1≤p) || decide (65534 < x.1)) && x.2
theorem Z3w {α:Type} (g:α→Int×Bool):∀ (xs:List α) (p:Int),chk (·.1) okP p (xs.map g)=chk (fun x=>(g x).1) (fun p x=>okP p (g x)) p xs
 | [],_=>rfl
 | x::xs,p=>by rw [List.map_cons,chk,chk,Z3w g xs]
def rE (e:Ed) (d:Nat):Bool :=
 if d=0 then false
 else if e.Kind=0 then Zpv e
 else if e.Kind=1 then (Zym e && Zt5 e) && ((rt e.Old 64 && e.Old.Kind != 10) && (rt e.New 64 && e.New.Kind != 10))
 else if e.Kind=2 then (Z0u e && Zt5 e) && (chk (·.At) okW (-1) e.Words && chk (·.1) okP (-1) (e.Kids.attach.map fun k=>(k.1.At,k.1.E.Kind != 0 && rE k.1.E (d - 1))))
 else if e.Kind=3 then (Z0u e && Zym e) && ((decide (2≤e.List_) && decide (e.List_≤9)) && ((e.Ops.attach.map fun o=>okO e.List_ o.1 (rE o.1.E (d - 1))).all id && Z0l (e.Ops.foldl stR (0,0))))
 else false
termination_by SizeOf.sizeOf e
decreasing_by
 ·exact Zsz k.2
 exact Zyv o.2
def okK (d:Nat) (p:Int) (k:Xm):Bool:=okP p (k.At,k.E.Kind != 0 && rE k.E d)
theorem Z9l (e:Ed) (d:Nat):rE e d=if d=0 then false
 else if e.Kind=0 then Zpv e
 else if e.Kind=1 then (Zym e && Zt5 e) && ((rt e.Old 64 && e.Old.Kind != 10) && (rt e.New 64 && e.New.Kind != 10))
 else if e.Kind=2 then (Z0u e && Zt5 e) && (chk (·.At) okW (-1) e.Words && chk (·.At) (okK (d - 1)) (-1) e.Kids)
 else if e.Kind=3 then (Z0u e && Zym e) && ((decide (2≤e.List_) && decide (e.List_≤9)) && ((e.Ops.all fun o=>okO e.List_ o (rE o.E (d - 1))) && Z0l (e.Ops.foldl stR (0,0))))
 else false:=by
 rw [rE]
 have h1:(e.Kids.attach.map fun k=>(k.1.At,k.1.E.Kind != 0 && rE k.1.E (d - 1)))=e.Kids.map fun k=>(k.At,k.E.Kind != 0 && rE k.E (d - 1)):=List.attach_map_val (f:=fun k:Xm=>(k.At,k.E.Kind != 0 && rE k.E (d - 1)))
 have h2:(e.Ops.attach.map fun o=>okO e.List_ o.1 (rE o.1.E (d - 1)))=e.Ops.map fun o=>okO e.List_ o (rE o.E (d - 1)):=List.attach_map_val (f:=fun o:Qh=>okO e.List_ o (rE o.E (d - 1)))
 rw [h1,h2,Z3w,List.all_map]
 rfl
def ce (e:Ed):Nat:=1+e.Words.length+e.Ops.length+(e.Kids.attach.map fun k=>ce k.1.E).sum+(e.Ops.attach.map fun o=>ce o.1.E).sum
termination_by SizeOf.sizeOf e
decreasing_by
 ·exact Zsz k.2
 exact Zyv o.2
theorem Ycp (e:Ed):ce e=1+e.Words.length+e.Ops.length+(e.Kids.map fun k=>ce k.E).sum+(e.Ops.map fun o=>ce o.E).sum:=by
 rw [ce]
 have h1:(e.Kids.attach.map fun k=>ce k.1.E)=e.Kids.map fun k=>ce k.E:=List.attach_map_val (f:=fun k:Xm=>ce k.E)
 have h2:(e.Ops.attach.map fun o=>ce o.1.E)=e.Ops.map fun o=>ce o.E:=List.attach_map_val (f:=fun o:Qh=>ce o.E)
 rw [h1,h2]
theorem Ybv {e:Ed} (hb:BE e) {d:Nat} (h:rE e d=true):e.Ops.foldl stR (0,0)=e.Ops.foldl stI (0,0):=by
 have h0:Sm (0,0):=by unfold Sm;simp
 have hnil:Zt5 e=true→e.Ops.foldl stR (0,0)=e.Ops.foldl stI (0,0):=fun h=>by
  unfold Zt5 at h
  rw [Bool.and_eq_true,beq_iff_eq,beq_iff_eq] at h
  rw [List.eq_nil_of_length_eq_zero h.2]
  rfl
 rw [Z9l] at h
 split at h
 ·cases h
 split at h
 ·unfold Zpv at h
  simp only [Bool.and_eq_true] at h
  exact hnil h.2.2.2
 split at h
 ·simp only [Bool.and_eq_true] at h
  exact hnil h.1.2
 split at h
 ·simp only [Bool.and_eq_true] at h
  exact hnil h.1.2
 split at h
 ·simp only [Bool.and_eq_true] at h
  exact (Zvv (fun o=>rE o.E (d - 1)) e.Ops (0,0) h0 (List.all_eq_true.1 h.2.2.1) (fun o ho=>(hb.l o ho).1)).1
 cases h
theorem Zxw {α:Type} {pl:α→Int} {ok:Int→α→Bool} {Q:α→Prop} (h:∀ p x,ok p x=true→Q x):∀ (xs:List α) (p:Int),chk pl ok p xs=true→∀ x∈xs,Q x
 | [],_,_=>fun x hx=>by cases hx
 | y::xs,p,hc=>fun x hx=>by
  rw [chk,Bool.and_eq_true] at hc
  rcases List.mem_cons.1 hx with rfl | hx
  ·exact h p _ hc.1
  exact Zxw h xs (pl y) hc.2 x hx
abbrev EO:=Qh
def n0T:Tr:=⟨0,[],[]⟩
def thN (o:EO):Nat:=if o.Kind=0 then o.N.toNat else if o.Kind=3 then 1 else o.L.length
def opk (o:EO):Prop:=(o.Kind=0∧1≤o.N)∨(o.Kind=1∧o.L≠[])∨(o.Kind=2∧o.L≠[])∨o.Kind=3
def Zna (l:List EO):Nat:=(l.map thN).sum
inductive GN:Ed→Prop
 | mk (e:Ed) (hw:e.Words.length≤1048576) (hk:e.Kids.length≤1048576) (ho:e.Ops.length≤1048576) (hs:Zna e.Ops≤1073741824) (hp:∀ o∈e.Ops,opk o) (ik:∀ k∈e.Kids,GN k.E) (io:∀ o∈e.Ops,GN o.E):GN e
theorem GN.w {e:Ed} (h:GN e):e.Words.length≤1048576:=by cases h;assumption
theorem GN.k {e:Ed} (h:GN e):e.Kids.length≤1048576:=by cases h;assumption
theorem GN.o {e:Ed} (h:GN e):e.Ops.length≤1048576:=by cases h;assumption
theorem GN.s {e:Ed} (h:GN e):Zna e.Ops≤1073741824:=by cases h;assumption
theorem GN.ks {e:Ed} (h:GN e):∀ k∈e.Kids,GN k.E:=by cases h;assumption
theorem GN.os {e:Ed} (h:GN e):∀ o∈e.Ops,GN o.E:=by cases h;assumption
theorem Ya5 {e:Ed} (h:Zpv e=true):GN e:=by
 unfold Zpv Zym Zt5 at h
 simp only [Bool.and_eq_true,beq_iff_eq] at h
 obtain ⟨_,_,⟨h1,h2⟩,_,h3⟩:=h
 have w:=List.eq_nil_of_length_eq_zero h1
 have k:=List.eq_nil_of_length_eq_zero h2
 have o:=List.eq_nil_of_length_eq_zero h3
 exact .mk _ (by rw [w];simp) (by rw [k];simp) (by rw [o];simp) (by rw [o];simp [Zna]) (by rw [o];simp) (by rw [k];simp) (by rw [o];simp)
theorem Ycg {l:Int} {o:EO} {r:Bool} (h:okO l o r=true):((thN o:Nat):Int)=thr o:=by
 unfold okO at h
 unfold thN thr
 by_cases h0:o.Kind=0
 ·rw [if_pos h0] at h
  simp only [Bool.and_eq_true,decide_eq_true_eq] at h
  rw [if_pos h0,if_pos h0]
  split <;> split at * <;> omega
 rw [if_neg h0] at h ⊢
 rw [if_neg h0]
 by_cases h12:o.Kind=1∨o.Kind=2
 ·rw [if_pos h12,if_neg (by omega)]
 rw [if_neg h12] at h ⊢
 by_cases h3:o.Kind=3
 ·rw [if_pos h3,if_pos h3];rfl
 rw [if_neg h3] at h;cases h
theorem Z4j {l:Int} {o:EO} {r:Bool} (h:okO l o r=true):opk o:=by
 unfold okO at h
 unfold opk
 by_cases h0:o.Kind=0
 ·rw [if_pos h0] at h
  simp only [Bool.and_eq_true,decide_eq_true_eq] at h
  exact .inl ⟨h0,h.1.1⟩
 rw [if_neg h0] at h
 by_cases h12:o.Kind=1∨o.Kind=2
 ·rw [if_pos h12] at h
  simp only [Bool.and_eq_true,decide_eq_true_eq] at h
  have hne:o.L≠[]:=by
   intro he
   rw [he] at h
   simp at h
  rcases h12 with h1 | h2
  ·exact .inr (.inl ⟨h1,hne⟩)
  exact .inr (.inr (.inl ⟨h2,hne⟩))
 rw [if_neg h12] at h
 by_cases h3:o.Kind=3
 ·exact .inr (.inr (.inr h3))
 rw [if_neg h3] at h;cases h
theorem Z1n {l:Int} (r:EO→Bool):∀ (os:List EO) (s:Int×Int),Sm s→(∀ o∈os,okO l o (r o)=true)→(∀ o∈os,o.L.length * 56≤140737488355328)→Z0l (os.foldl stI s)=true→s.1+s.2+((Zna os:Nat):Int)≤(os.foldl stI s).1+(os.foldl stI s).2
 | [],s,_,_,_,_=>by simp [Zna]
 | o::os,s,hs,h,hl,hb=>by
  have hsm:=Z3c hs (hl o (.head _))
  have hup:=Z30 os (stI s o) hsm (fun x hx=>hl x (.tail _ hx))
  have ih:=Z1n r os (stI s o) hsm (fun x hx=>h x (.tail _ hx)) (fun x hx=>hl x (.tail _ hx)) hb
  have hso:Zna (o::os)=thN o+Zna os:=by unfold Zna;simp
  have ht:=Ycg (h o (.head _))
  rw [List.foldl_cons] at hb ⊢
  unfold Z0l at hb
  rw [Bool.and_eq_true,decide_eq_true_eq,decide_eq_true_eq] at hb
  have n1:(stI s o).1≠1048576:=fun he=>by have:=hup.1 he;omega
  have n2:(stI s o).2≠1048576:=fun he=>by have:=hup.2 he;omega
  have key:s.1+s.2+thr o≤(stI s o).1+(stI s o).2:=by
   have hth:0≤thr o:=by omega
   unfold stI Zu4 at n1 n2 ⊢
   simp only at n1 n2 ⊢
   by_cases k2:o.Kind=2
   ·rw [if_neg (by omega:¬ o.Kind=1)] at n2 ⊢
    rw [if_pos k2]
    split at n2
    ·omega
    rename_i h5;rw [if_neg h5];omega
   rw [if_neg k2] at n1 ⊢
   split at n1
   ·omega
   rename_i h5
   rw [if_neg h5]
   by_cases k1:o.Kind=1
   ·rw [if_pos k1];omega
   rw [if_neg k1] at n2 ⊢
   split at n2
   ·omega
   rename_i h6;rw [if_neg h6];omega
  rw [hso]
  omega
theorem Ztt {α:Type} {f:α→Nat} {x:α}:∀ {l:List α},x∈l→f x≤(l.map f).sum
 | y::l,h=>by
  rw [List.map_cons,List.sum_cons]
  rcases List.mem_cons.1 h with rfl | h
  ·omega
  have:=Ztt (f:=f) h;omega
theorem Z0k {α:Type} {f:α→Nat}:∀ {l:List α},(∀ x∈l,1≤f x)→l.length≤(l.map f).sum
 | [],_=>Nat.le_refl _
 | y::l,h=>by
  rw [List.map_cons,List.sum_cons,List.length_cons]
  have:=Z0k (f:=f) (l:=l) fun x hx=>h x (by simp [hx])
  have:=h y (by simp)
  omega
theorem Yd7 (e:Ed):1≤ce e:=by rw [Ycp];omega
theorem Z76:∀ (n:Nat) (e:Ed) (d:Nat),SizeOf.sizeOf e < n→BE e→ce e≤1000000→rE e d=true→GN e
 | 0,_,_,h,_,_,_=>by omega
 | n+1,e,d,hn,hb,hc,h=>by
  have hc':=hc
  rw [Ycp] at hc'
  have hk1:e.Kids.length≤(e.Kids.map fun k=>ce k.E).sum:=Z0k fun x _=>Yd7 _
  have hlens:=Ybv hb h
  have hparts:(∀ k∈e.Kids,∃ d',rE k.E d'=true)∧(∀ o∈e.Ops,opk o∧(Zpv o.E=true∨∃ d',rE o.E d'=true))∧Zna e.Ops≤2097152:=by
   rw [Z9l] at h
   by_cases hd:d=0
   ·rw [if_pos hd] at h;cases h
   rw [if_neg hd] at h
   by_cases h0:e.Kind=0
   ·rw [if_pos h0] at h
    unfold Zpv Zym Zt5 at h
    simp only [Bool.and_eq_true,beq_iff_eq] at h
    obtain ⟨_,_,⟨h1,h2⟩,_,h3⟩:=h
    rw [List.eq_nil_of_length_eq_zero h2,List.eq_nil_of_length_eq_zero h3]
    simp [Zna]
   rw [if_neg h0] at h
   by_cases h1:e.Kind=1
   ·rw [if_pos h1] at h
    unfold Zym Zt5 at h
    simp only [Bool.and_eq_true,beq_iff_eq] at h
    rw [List.eq_nil_of_length_eq_zero h.1.1.2,List.eq_nil_of_length_eq_zero h.1.2.2]
    simp [Zna]
   rw [if_neg h1] at h
   by_cases h2:e.Kind=2
   ·rw [if_pos h2] at h
    unfold Zt5 at h
    simp only [Bool.and_eq_true,beq_iff_eq] at h
    rw [List.eq_nil_of_length_eq_zero h.1.2.2]
    refine ⟨fun k hk=>⟨d - 1,?_⟩,by simp,by simp [Zna]⟩
    exact Zxw (Q:=fun k:Xm=>rE k.E (d - 1)=true) (fun p x hx=>by
     unfold okK okP at hx
     simp only [Bool.and_eq_true] at hx
     exact hx.2.2) e.Kids (-1) h.2.2 k hk
   rw [if_neg h2] at h
   by_cases h3:e.Kind=3
   ·rw [if_pos h3] at h
    unfold Zym at h
    rw [Bool.and_eq_true,Bool.and_eq_true,Bool.and_eq_true,Bool.and_eq_true,Bool.and_eq_true,Bool.and_eq_true,beq_iff_eq,beq_iff_eq,List.all_eq_true] at h
    obtain ⟨⟨_,_,hk⟩,_,hall,hB⟩:=h
    rw [List.eq_nil_of_length_eq_zero hk]
    refine ⟨by simp,fun o ho=>⟨Z4j (hall o ho),?_⟩,?_⟩
    ·have:=hall o ho
     unfold okO at this
     by_cases k0:o.Kind=0
     ·rw [if_pos k0] at this
      simp only [Bool.and_eq_true] at this
      exact .inl this.2.2
     rw [if_neg k0] at this
     by_cases k12:o.Kind=1∨o.Kind=2
     ·rw [if_pos k12] at this
      simp only [Bool.and_eq_true] at this
      exact .inl this.2.2.2
     rw [if_neg k12] at this
     by_cases k3:o.Kind=3
     ·rw [if_pos k3] at this
      simp only [Bool.and_eq_true] at this
      exact .inr ⟨d - 1,this.2.2.2.2⟩
     rw [if_neg k3] at this;cases this
    rw [hlens] at hB
    have:=Z1n (l:=e.List_) (fun o=>rE o.E (d - 1)) e.Ops (0,0) ⟨⟨by decide,by decide⟩,by decide,by decide⟩ hall (fun o ho=>(hb.l o ho).1) hB
    unfold Z0l at hB
    rw [Bool.and_eq_true,decide_eq_true_eq,decide_eq_true_eq] at hB
    simp only at this
    omega
   rw [if_neg h3] at h;cases h
  refine .mk _ (by omega) (by omega) (by omega) (by omega) (fun o ho=>(hparts.2.1 o ho).1) (fun k hk => ?_) (fun o ho => ?_)
  ·obtain ⟨d',hd'⟩:=hparts.1 k hk
   have:=Ztt (f:=fun k:Xm=>ce k.E) hk
   exact Z76 n k.E d' (by have:=Zsz hk;omega) (hb.ks k hk) (by omega) hd'
  rcases (hparts.2.1 o ho).2 with hs | ⟨d',hd'⟩
  ·exact Ya5 hs
  have:=Ztt (f:=fun o:Qh=>ce o.E) ho
  exact Z76 n o.E d' (by have:=Zyv ho;omega) (hb.os o ho) (by omega) hd'
theorem Ybq {k:Int} {t:Tr} (h:okk k t=true):okk k (nrm t)=true:=by
 unfold okk at h ⊢
 rw [Kv]
 split
 ·rename_i hk
  rw [if_pos hk,Bool.and_eq_true,beq_iff_eq] at h
  rw [V3 (by omega) (by omega),h.1]
  simp only [BEq.rfl,Bool.true_and]
  exact h.2
 rename_i hk
 rw [if_neg hk] at h
 exact h
theorem Z9z:∀ (n:Nat) (t:Tr) (d:Nat),SizeOf.sizeOf t < n→rt t d=true→rt (nrm t) d=true
 | 0,_,_,h,_=>by omega
 | n+1,t,d,hn,h=>by
  have hk:=Kv t
  by_cases h0:t.Kind=0
  ·rw [U9 h0,Zfk,if_pos rfl];rfl
  rw [Zfk,if_neg h0] at h
  by_cases h10:t.Kind=10
  ·rw [if_pos h10] at h
   rw [V3 h0 (by omega),Zfk,if_neg h0,if_pos h10]
   simp only [List.length_map]
   exact h
  rw [if_neg h10] at h
  by_cases hc:t.Kind < 0∨10 < t.Kind∨d=0∨65536≤t.Words.length∨(t.Kind=1∧65536≤t.Kids.length)∨1048576≤t.Kids.length∨(1 < t.Kind∧0 < t.Words.length)
  ·rw [if_pos hc] at h;cases h
  rw [if_neg hc,List.all_eq_true] at h
  have hkid:∀ x∈t.Kids,(rt (nrm x) (d - 1) && okk t.Kind (nrm x))=true:=fun x hx=>by
   have:=h x hx
   rw [Bool.and_eq_true] at this ⊢
   exact ⟨Z9z n x (d - 1) (by have:=Xc hx;omega) this.1,Ybq this.2⟩
  by_cases h1:t.Kind=1
  ·obtain ⟨W,K,e1,lW,lK,mK⟩:∃ W K,nrm t=⟨1,W,K⟩∧W.length≤t.Words.length∧K.length≤t.Kids.length∧∀ x∈K,x∈t.Kids.map nrm :=
    ⟨_,_,Qq h1,Ze7 _ _,by have h:=Ze7 (fun x:Tr=>x.Kind == 0) (t.Kids.map nrm);rw [List.length_map] at h;exact h,fun x hx=>Zf3 hx⟩
   rw [e1,Zfk]
   simp only
   rw [if_neg (by decide),if_neg (by decide),if_neg (by omega),List.all_eq_true]
   intro x hx
   obtain ⟨y,hy,rfl⟩:=List.mem_map.1 (mK x hx)
   rw [← h1]
   exact hkid y hy
  rw [V3 h0 h1,Zfk]
  simp only [List.length_map]
  rw [if_neg h0,if_neg h10,if_neg hc,List.all_eq_true]
  intro x hx
  obtain ⟨y,hy,rfl⟩:=List.mem_map.1 hx
  exact hkid y hy
theorem rtN {t:Tr} {d:Nat} (h:rt t d=true):rt (nrm t) d=true:=Z9z _ t d (Nat.lt_succ_self _) h
def atD {α:Type} (z:α) (l:List α) (i:Nat):α:=(l[i]?).getD z
def p0 (x:Int):Bool:=x == 0
def pT (x:Tr):Bool:=x.Kind == 0
def NT (t:Tr):Prop:=nrm t=t
theorem NT.null {t:Tr} (h:NT t) (hk:pT t=true):t=n0T:=by
 unfold pT at hk
 rw [beq_iff_eq] at hk
 rw [← h,U9 hk]
 rfl
theorem NT.of (t:Tr):NT (nrm t):=Zpa t
theorem NT.z:NT n0T:=U9 rfl
theorem NT.kids {t:Tr} (h:NT t):∀ k∈t.Kids,NT k:=fun k hk=>by
 unfold NT at h
 rw [← h] at hk
 by_cases h0:t.Kind=0
 ·rw [U9 h0] at hk;cases hk
 by_cases h1:t.Kind=1
 ·rw [Qq h1] at hk
  obtain ⟨y,_,rfl⟩:=List.mem_map.1 (Zf3 hk)
  exact NT.of y
 rw [V3 h0 h1] at hk
 obtain ⟨y,_,rfl⟩:=List.mem_map.1 hk
 exact NT.of y
theorem NT.map {l:List Tr} (h:∀ k∈l,NT k):l.map nrm=l:=by
 conv=>rhs;rw [← List.map_id l]
 exact List.map_congr_left fun x hx=>h x hx
theorem NT.words {t:Tr} (h:NT t) (h1:t.Kind=1):tr p0 t.Words=t.Words∧tr pT t.Kids=t.Kids:=by
 have hk:=NT.map h.kids
 unfold NT at h
 rw [Qq h1] at h
 have hw:=congrArg Zj.Words h
 have hk2:=congrArg Zj.Kids h
 simp only at hw hk2
 rw [hk] at hk2
 exact ⟨hw,hk2⟩
theorem NT.st {ws:List Int} {ks:List Tr} (h:∀ k∈ks,NT k):NT ⟨1,tr p0 ws,tr pT ks⟩:=by
 unfold NT
 rw [Qq rfl]
 simp only
 rw [NT.map (l:=tr pT ks) fun k hk=>h k (Zf3 hk)]
 congr 1
 ·exact Zxm ws
 exact Zxm ks
theorem NT.li {k:Int} {ks:List Tr} (h0:¬ k=0) (h1:¬ k=1) (h:∀ k∈ks,NT k):NT ⟨k,[],ks⟩:=by
 unfold NT
 rw [V3 h0 h1]
 simp only
 rw [NT.map h]
inductive Rg:Tr→Prop
 | mk (t:Tr) (h3:∀ w∈t.Words,0≤w∧w < 18446744073709551616) (h4:∀ k∈t.Kids,Rg k):Rg t
theorem Rg.u {t:Tr} (h:Rg t):∀ w∈t.Words,0≤w∧w < 18446744073709551616:=by cases h;assumption
theorem Rg.all {t:Tr} (h:Rg t):∀ k∈t.Kids,Rg k:=by cases h;assumption
theorem Rg.z:Rg n0T := .mk _ (by simp [n0T]) (by simp [n0T])
theorem Rg.of:∀ (n:Nat) (t:Tr),SizeOf.sizeOf t < n→Bd t→Rg t
 | 0,_,h,_=>by omega
 | n+1,t,hn,h => .mk _ h.u fun k hk=>Rg.of n k (by have:=Xc hk;omega) (h.all k hk)
theorem Bd.rg {t:Tr} (h:Bd t):Rg t:=Rg.of _ t (Nat.lt_succ_self _) h
inductive RX:Ed→Prop
 | same (e:Ed) (h:e.Kind=0):RX e
 | repl (e:Ed) (h:e.Kind=1):RX e
 | st (e:Ed) (h:e.Kind=2) (hw:e.Words.Pairwise (fun a b=>a.At.toNat≠b.At.toNat)) (hw2:∀ w∈e.Words,0≤w.At∧w.At≤65534) (hk:e.Kids.Pairwise (fun a b=>a.At.toNat≠b.At.toNat)) (hk2:∀ k∈e.Kids,0≤k.At∧k.At≤65534) (ih:∀ k∈e.Kids,RX k.E):RX e
 | li (e:Ed) (h:e.Kind=3) (hl:2≤e.List_∧e.List_≤9) (ho:∀ o∈e.Ops,opk o) (hN:∀ o∈e.Ops,o.Kind=0∨o.Kind=3→o.L=[]) (ih:∀ o∈e.Ops,o.Kind=3→RX o.E):RX e
theorem RX.kind {e:Ed} (h:RX e):e.Kind=0∨e.Kind=1∨e.Kind=2∨e.Kind=3:=by
 cases h with
 | same _ h=>exact .inl h
 | repl _ h=>exact .inr (.inl h)
 | st _ h=>exact .inr (.inr (.inl h))
 | li _ h=>exact .inr (.inr (.inr h))
theorem Zzw {α:Type} {pl:α→Int} {ok:Int→α→Bool} (h:∀ p x,ok p x=true→p < pl x∧pl x≤65534):∀ (xs:List α) (p:Int),chk pl ok p xs=true→(∀ x∈xs,p < pl x∧pl x≤65534)∧xs.Pairwise (fun a b=>pl a < pl b)
 | [],_,_=>⟨fun x hx=>(by cases hx),.nil⟩
 | x::xs,p,hc=>by
  rw [chk,Bool.and_eq_true] at hc
  have h1:=h p x hc.1
  obtain ⟨h2,h3⟩:=Zzw h xs (pl x) hc.2
  refine ⟨fun y hy => ?_,.cons (fun y hy=>(h2 y hy).1) h3⟩
  rcases List.mem_cons.1 hy with rfl | hy
  ·exact h1
  have:=h2 y hy;omega
theorem Z7v {α:Type} {pl:α→Int} {ok:Int→α→Bool} (h:∀ p x,ok p x=true→p < pl x∧pl x≤65534) {xs:List α} (hc:chk pl ok (-1) xs=true):(∀ x∈xs,0≤pl x∧pl x≤65534)∧xs.Pairwise (fun a b=>(pl a).toNat≠(pl b).toNat):=by
 obtain ⟨h1,h2⟩:=Zzw h xs (-1) hc
 refine ⟨fun x hx=>by have:=h1 x hx;omega,?_⟩
 exact h2.imp_of_mem fun {a b} ha hb hab=>by
  have:=h1 a ha
  have:=h1 b hb
  omega
theorem Z85 (p:Int) (w:Z8) (h:okW p w=true):p < w.At∧w.At≤65534:=by
 unfold okW at h
 simp only [Bool.not_eq_true',Bool.or_eq_false_iff,decide_eq_false_iff_not] at h
 omega
theorem Z84 (d:Nat) (p:Int) (k:Xm) (h:okK d p k=true):p < k.At∧k.At≤65534:=by
 unfold okK okP at h
 simp only [Bool.and_eq_true,Bool.not_eq_true',Bool.or_eq_false_iff,decide_eq_false_iff_not] at h
 omega
theorem Z9k:∀ (n:Nat) (e:Ed) (d:Nat),SizeOf.sizeOf e < n→rE e d=true→RX e
 | 0,_,_,h,_=>by omega
 | n+1,e,d,hn,h=>by
  rw [Z9l] at h
  by_cases hd:d=0
  ·rw [if_pos hd] at h;cases h
  rw [if_neg hd] at h
  by_cases h0:e.Kind=0
  ·exact .same e h0
  rw [if_neg h0] at h
  by_cases h1:e.Kind=1
  ·exact .repl e h1
  rw [if_neg h1] at h
  by_cases h2:e.Kind=2
  ·rw [if_pos h2] at h
   simp only [Bool.and_eq_true] at h
   obtain ⟨w1,w2⟩:=Z7v Z85 h.2.1
   obtain ⟨k1,k2⟩:=Z7v (Z84 (d - 1)) h.2.2
   refine .st e h2 w2 w1 k2 k1 fun k hk=>Z9k n k.E (d - 1) (by have:=Zsz hk;omega) ?_
   exact Zxw (Q:=fun k:Xm=>rE k.E (d - 1)=true) (fun p x hx=>by
    unfold okK okP at hx
    simp only [Bool.and_eq_true] at hx
    exact hx.2.2) e.Kids (-1) h.2.2 k hk
  rw [if_neg h2] at h
  by_cases h3:e.Kind=3
  ·rw [if_pos h3] at h
   simp only [Bool.and_eq_true,decide_eq_true_eq,List.all_eq_true] at h
   have ho:=h.2.2.1
   refine .li e h3 h.2.1 (fun o hx=>Z4j (ho o hx)) (fun o hx k03 => ?_) fun o hx k3=>Z9k n o.E (d - 1) (by have:=Zyv hx;omega) ?_
   ·have:=ho o hx
    unfold okO at this
    rcases k03 with k0 | k3
    ·rw [if_pos k0] at this
     simp only [Bool.and_eq_true,beq_iff_eq] at this
     exact List.eq_nil_of_length_eq_zero this.2.1
    rw [if_neg (by omega),if_neg (by omega),if_pos k3] at this
    simp only [Bool.and_eq_true,beq_iff_eq] at this
    exact List.eq_nil_of_length_eq_zero this.2.1
   have:=ho o hx
   unfold okO at this
   rw [if_neg (by omega),if_neg (by omega),if_pos k3] at this
   simp only [Bool.and_eq_true] at this
   exact this.2.2.2.2
  rw [if_neg h3] at h;cases h
inductive TX:Tr→Prop
 | mk (t:Tr) (h1:2≤t.Kind∧t.Kind≤9→t.Words=[]) (h9:t.Kind=9→∀ k∈t.Kids,k.Kind=1) (ih:∀ k∈t.Kids,TX k):TX t
theorem TX.w {t:Tr} (h:TX t):2≤t.Kind∧t.Kind≤9→t.Words=[]:=by cases h;assumption
theorem TX.s {t:Tr} (h:TX t):t.Kind=9→∀ k∈t.Kids,k.Kind=1:=by cases h;assumption
theorem TX.all {t:Tr} (h:TX t):∀ k∈t.Kids,TX k:=by cases h;assumption
theorem TX.z:TX n0T := .mk _ (fun _=>rfl) (fun h=>by simp [n0T] at h) (by simp [n0T])
theorem TX.nn:∀ (n:Nat) (t:Tr),SizeOf.sizeOf t < n→TX t→TX (nrm t)
 | 0,_,h,_=>by omega
 | n+1,t,hn,h=>by
  by_cases h0:t.Kind=0
  ·rw [U9 h0];exact TX.z
  by_cases h1:t.Kind=1
  ·rw [Qq h1]
   refine .mk _ (fun h=>by simp only at h;omega) (fun h=>by simp only at h;omega) fun k hk => ?_
   obtain ⟨y,hy,rfl⟩:=List.mem_map.1 (Zf3 hk)
   exact TX.nn n y (by have:=Xc hy;omega) (h.all y hy)
  rw [V3 h0 h1]
  refine .mk _ h.w (fun h9 k hk => ?_) fun k hk => ?_
  ·obtain ⟨y,hy,rfl⟩:=List.mem_map.1 hk
   rw [Kv];exact h.s h9 y hy
  obtain ⟨y,hy,rfl⟩:=List.mem_map.1 hk
  exact TX.nn n y (by have:=Xc hy;omega) (h.all y hy)
theorem TX.n {t:Tr} (h:TX t):TX (nrm t):=TX.nn _ t (Nat.lt_succ_self _) h
theorem Z3t {α:Type} {z:α} {l:List α} {i:Nat}:atD z l i∈l∨atD z l i=z:=by
 unfold atD
 cases h:l[i]? with
 | none=>exact .inr rfl
 | some x=>exact .inl (List.mem_of_getElem? h)
theorem Zxt {l:List Tr} {Q:Tr→Prop} (h:∀ x∈l,Q x) (hz:Q n0T) (i:Nat):Q (atD n0T l i):=by
 rcases Z3t (z:=n0T) (l:=l) (i:=i) with q | q
 ·exact h _ q
 rw [q];exact hz
theorem Yd3 {l:List Int} (h:∀ x∈l,0≤x∧x < 18446744073709551616) (i:Nat):0≤atD 0 l i∧atD 0 l i < 18446744073709551616:=by
 rcases Z3t (z:=(0:Int)) (l:=l) (i:=i) with q | q
 ·exact h _ q
 rw [q];omega
structure CA (e:Ed) (t:Tr):Prop where
 x:RX e
 b:BE e
 g:GN e
 p:pt t≤1000000
 t:Bd t
theorem CA.of {e:Ed} {t:Tr} (hb:BE e) (hr:rE e 64=true) (hc:ce e≤3000) (ht:Bd t) (hp:pt t≤3000):CA e t :=
 ⟨Z9k _ e 64 (Nat.lt_succ_self _) hr,hb,Z76 _ e 64 (Nat.lt_succ_self _) hb (by omega) hr,by omega,ht⟩
def Z7k (a:List EO) (g:Nat):Prop:=match a with
 | []=>g=0
 | o::_=>g≤thN o
structure CI (a:List EO) (g:Nat):Prop where
 p:∀ o∈a,opk o
 s:Zna a≤1073741824
 g:Z7k a g
inductive ST:Ed→Prop
 | mk (e:Ed) (ho:pt e.Old≤1000000) (hn:pt e.New≤1000000) (hl:∀ o∈e.Ops,∀ t∈o.L,pt t≤1000000) (ik:∀ k∈e.Kids,ST k.E) (io:∀ o∈e.Ops,ST o.E):ST e
theorem ST.l {e:Ed} (h:ST e):∀ o∈e.Ops,∀ t∈o.L,pt t≤1000000:=by cases h;assumption
theorem ST.ks {e:Ed} (h:ST e):∀ k∈e.Kids,ST k.E:=by cases h;assumption
theorem ST.os {e:Ed} (h:ST e):∀ o∈e.Ops,ST o.E:=by cases h;assumption
structure GT (t:Tr):Prop where
 n:NT t
 g:Rg t
 x:TX t
theorem GT.z:GT n0T:=⟨NT.z,Rg.z,TX.z⟩
theorem GT.all {t:Tr} (h:GT t):∀ k∈t.Kids,GT k:=fun k hk=>⟨h.n.kids k hk,h.g.all k hk,h.x.all k hk⟩
theorem GT.at_ {t:Tr} (h:GT t) (i:Nat):GT (atD n0T t.Kids i):=⟨Zxt h.n.kids NT.z i,Zxt h.g.all Rg.z i,Zxt h.x.all TX.z i⟩
theorem GT.of {t:Tr} (hb:Bd t) (hx:TX t):GT (nrm t):=⟨NT.of t,hb.nrm.rg,hx.n⟩
def D9 (e:Ed):Prop:=e.Kind=2∨(e.Kind=1∧e.Old.Kind=1∧e.New.Kind=1)
inductive RZ:Ed→Prop
 | same (e:Ed) (h:e.Kind=0):RZ e
 | repl (e:Ed) (h:e.Kind=1) (ho:TX e.Old) (hn:TX e.New):RZ e
 | st (e:Ed) (h:e.Kind=2) (hw:e.Words.Pairwise (fun a b=>a.At < b.At)) (hw2:∀ w∈e.Words,0≤w.At∧w.At≤65534) (hk:e.Kids.Pairwise (fun a b=>a.At < b.At)) (hk2:∀ k∈e.Kids,0≤k.At∧k.At≤65534) (ih:∀ k∈e.Kids,RZ k.E):RZ e
 | li (e:Ed) (h:e.Kind=3) (hl:2≤e.List_∧e.List_≤9) (ho:∀ o∈e.Ops,opk o) (hN:∀ o∈e.Ops,o.Kind=0∨o.Kind=3→o.L=[]) (hT:∀ o∈e.Ops,∀ t∈o.L,TX t∧(e.List_=9→t.Kind=1)) (h9:∀ o∈e.Ops,o.Kind=3→e.List_=9→D9 o.E) (ih:∀ o∈e.Ops,o.Kind=3→RZ o.E):RZ e
def Yki {α:Type} (f:α→α→Option α):Option α→Option α→Option α
 | some x,some y=>f x y
 | some x,none=>some x
 | none,y=>y
def Rise {α:Type} (pl:α→Int) (l:List α):Prop:=l.Pairwise (fun a b=>pl a < pl b)∧∀ x∈l,0≤pl x
theorem Rise.tail {α:Type} {pl:α→Int} {x:α} {l:List α} (h:Rise pl (x::l)):Rise pl l:=⟨(List.pairwise_cons.1 h.1).2,fun y hy=>h.2 y (.tail _ hy)⟩
theorem GT.w {t:Tr} (h:GT t) (j:Nat):0≤atD 0 t.Words j∧atD 0 t.Words j < 18446744073709551616:=Yd3 h.g.u j
inductive LM:Ed→Prop
 | mk (e:Ed) (hw:e.Words.length≤250000) (hk:e.Kids.length≤250000) (ho:e.Ops.length≤250000) (hs:Zna e.Ops≤4000000) (ik:∀ k∈e.Kids,LM k.E) (io:∀ o∈e.Ops,LM o.E):LM e
theorem LM.w {e:Ed} (h:LM e):e.Words.length≤250000:=by cases h;assumption
theorem LM.k {e:Ed} (h:LM e):e.Kids.length≤250000:=by cases h;assumption
theorem LM.o {e:Ed} (h:LM e):e.Ops.length≤250000:=by cases h;assumption
theorem LM.s {e:Ed} (h:LM e):Zna e.Ops≤4000000:=by cases h;assumption
theorem LM.ks {e:Ed} (h:LM e):∀ k∈e.Kids,LM k.E:=by cases h;assumption
theorem LM.os {e:Ed} (h:LM e):∀ o∈e.Ops,LM o.E:=by cases h;assumption
structure MC (e:Ed):Prop where
 z:RZ e
 b:BE e
 g:GN e
 s:ST e
 m:LM e
theorem RZ.kid {e:Ed} (h:RZ e) (k2:e.Kind=2):∀ k∈e.Kids,RZ k.E:=by
 cases h with
 | st _ _ _ _ _ _ ih=>exact ih
 | same _ k=>omega
 | repl _ k=>omega
 | li _ k=>omega
theorem MC.kid {e:Ed} (h:MC e) (k2:e.Kind=2):∀ k∈e.Kids,MC k.E:=fun k hk=>⟨h.z.kid k2 k hk,h.b.ks k hk,h.g.ks k hk,h.s.ks k hk,h.m.ks k hk⟩
theorem CI.of {a:List EO} (hp:∀ o∈a,opk o) (hs:Zna a≤1073741824):CI a 0:=⟨hp,hs,by unfold Z7k;split <;> omega⟩
def frS (s:Int×Int) (x:Tr):Int×Int:=(if s.1 < (x.Words.length:Int) then (x.Words.length:Int) else s.1,if s.2 < (x.Kids.length:Int) then (x.Kids.length:Int) else s.2)
def fr (l:List Tr):Int×Int:=l.foldl frS (0,0)
theorem Z6j {t:Tr} (hl:(t.Kids.length:Int)≤140737488355328):U1 t=some (fr t.Kids):=by
 unfold U1
 rw [(Z55 t.Kids (fun (s:Int×Int) (i:Int)=>(s.1,s.2,i)) frS id (fun _=>True) (Jz t) hl (fun s i x _ hi hx hm=>⟨trivial,by
  unfold Jz frS
  simp only
  rw [Zt4 hi,cond_true,Zaz hx,Option.bind_some]
  by_cases h1:s.1 < (x.Words.length:Int) <;> by_cases h2:s.2 < (x.Kids.length:Int) <;> simp [h1,h2]⟩) (fun s _=>by
  unfold Jz
  simp only
  rw [Zt3,cond_false]
  rfl) (0,0) trivial).1,Option.bind_some]
 rfl
def h9 (l:List Tr):Int:=IntKind.i64.wrap (1+IntKind.i64.wrap ((l.length:Int) * IntKind.i64.wrap ((fr l).1+(fr l).2)))
def Yfz (c:Int) (n:Nat):Int:=((n * wid c+63) / 64:Nat)
def sz (t:Tr):Int :=
 if t.Kind=1 then ((t.Words.length:Int)+(t.Kids.length:Int))+(t.Kids.attach.map fun k=>sz k.1).sum
 else if 2≤t.Kind∧t.Kind≤7 then Yfz (t.Kind - 2) t.Kids.length
 else if t.Kind=8 then (t.Kids.length:Int)+(t.Kids.attach.map fun k=>sz k.1).sum
 else if t.Kind=9 then h9 t.Kids+(t.Kids.attach.map fun k=>(k.1.Kids.attach.map fun j=>sz j.1).sum).sum
 else 0
termination_by SizeOf.sizeOf t
decreasing_by
 ·exact Xc k.2
 ·exact Xc k.2
 exact Nat.lt_trans (Xc j.2) (Xc k.2)
theorem c5' {c:Int} (h:0≤c∧c≤5):c=0∨c=1∨c=2∨c=3∨c=4∨c=5:=by omega
theorem Z4r {c:Int} (h:0≤c∧c≤5):Xa c=some ((wid c:Nat):Int):=by
 unfold Xa
 rcases c5' h with rfl | rfl | rfl | rfl | rfl | rfl <;> rfl
theorem Z9y {c:Int} (h:0≤c∧c≤5) {n:Nat} (hn:n≤1099511627776):Vy c (n:Int)=some (((n * wid c+63) / 64:Nat):Int):=by
 unfold Vy
 rw [Z4r h,Option.bind_some]
 have key:∀ (w p:Nat),(1≤w∧w≤64)→w * p=64→Int.tdiv 64 (w:Int)=(p:Int)→(cond (cond (cond (decide ((w:Int) < 1)) true (decide ((n:Int) < 0))) true (decide ((1099511627776:Int) < (n:Int)))) (some 0) ((some ((w:Nat):Int)).bind fun y5=>(Xz (y5≠0)).bind fun u6=>(Xz ((IntKind.i64.wrap (Int.tdiv 64 y5))≠0)).bind fun u8=>cond (decide (0 < (Int.tmod (n:Int) (IntKind.i64.wrap (Int.tdiv 64 y5))))) ((Xz ((IntKind.i64.wrap (Int.tdiv 64 y5))≠0)).bind fun u10=>some (IntKind.i64.wrap ((IntKind.i64.wrap (Int.tdiv (n:Int) (IntKind.i64.wrap (Int.tdiv 64 y5))))+1))) ((Xz ((IntKind.i64.wrap (Int.tdiv 64 y5))≠0)).bind fun u12=>some (IntKind.i64.wrap (Int.tdiv (n:Int) (IntKind.i64.wrap (Int.tdiv 64 y5)))))))=some (((n * w+63) / 64:Nat):Int):=fun w p hw hp ht=>by
  have hp1:1≤p∧p≤64:=by
   rcases Nat.eq_zero_or_pos p with q | q
   ·rw [q] at hp;omega
   exact ⟨q,by have:=Nat.mul_le_mul_right p hw.1;omega⟩
  have hd:n / p≤n:=Nat.div_le_self _ _
  have hm:p * (n / p)+n % p=n:=Nat.div_add_mod n p
  have hml:n % p < p:=Nat.mod_lt _ hp1.1
  have ed:(n:Int) / (p:Int)=((n / p:Nat):Int):=rfl
  have em:(n:Int) % (p:Int)=((n % p:Nat):Int):=rfl
  have enw:n * w=64 * (n / p)+n % p * w:=by
   have:n * w=(p * (n / p)+n % p) * w:=by rw [hm]
   rw [this,Nat.add_mul,Nat.mul_comm p,Nat.mul_assoc,Nat.mul_comm p,hp,Nat.mul_comm (n / p)]
  rw [show decide ((w:Int) < 1)=false from by rw [decide_eq_false_iff_not];omega,cond_false,show decide ((n:Int) < 0)=false from by rw [decide_eq_false_iff_not];omega,cond_false,show decide ((1099511627776:Int) < (n:Int))=false from by rw [decide_eq_false_iff_not];omega,cond_false,Option.bind_some,ht,Yy (x:=(p:Int)) (by omega) (by omega),Zac (by omega),Option.bind_some,Zac (by omega),Option.bind_some,Int.tmod_eq_emod_of_nonneg (by omega),Int.tdiv_eq_ediv_of_nonneg (by omega),ed,em,Yy (x:=((n / p:Nat):Int)) (by omega) (by omega),Yy (x:=((n / p:Nat):Int)+1) (by omega) (by omega)]
  by_cases q:0 < n % p
  ·have h1:1 * w≤n % p * w:=Nat.mul_le_mul_right _ q
   have h2:(n % p+1) * w≤p * w:=Nat.mul_le_mul_right _ hml
   rw [Nat.mul_comm p,hp,Nat.add_mul,Nat.one_mul] at h2
   rw [show decide ((0:Int) < ((n % p:Nat):Int))=true from by rw [decide_eq_true_eq];omega,cond_true,Option.bind_some]
   congr 1
   generalize n % p * w=z at *
   omega
  have h0:n % p=0:=by omega
  rw [h0,Nat.zero_mul] at enw
  rw [show decide ((0:Int) < ((n % p:Nat):Int))=false from by rw [decide_eq_false_iff_not];omega,cond_false,Option.bind_some]
  congr 1
  omega
 rcases c5' h with rfl | rfl | rfl | rfl | rfl | rfl
 ·rw [show decide (((wid 0:Nat):Int) < 1)=true from rfl,cond_true,cond_true,cond_true,show wid 0=0 from rfl,Nat.mul_zero]
  rfl
 ·exact key 1 64 (by decide) rfl rfl
 ·exact key 8 8 (by decide) rfl rfl
 ·exact key 16 4 (by decide) rfl rfl
 ·exact key 32 2 (by decide) rfl rfl
 exact key 64 1 (by decide) rfl rfl
theorem Zuk {t:Tr} {d:Nat} (h:rt t d=true):0≤t.Kind∧t.Kind≤10∧t.Kids.length < 1048576∧(t.Kind=0∨t.Kind=10→t.Kids=[])∧∀ k∈t.Kids,rt k (d - 1)=true:=by
 rw [Zfk] at h
 by_cases h0:t.Kind=0
 ·rw [if_pos h0,Bool.and_eq_true,beq_iff_eq,beq_iff_eq] at h
  have:=List.length_eq_zero_iff.1 h.2
  rw [this]
  exact ⟨by omega,by omega,by simp,fun _=>rfl,fun k hk=>by cases hk⟩
 by_cases h1:t.Kind=10
 ·rw [if_neg h0,if_pos h1,Bool.and_eq_true,beq_iff_eq,beq_iff_eq] at h
  have:=List.length_eq_zero_iff.1 h.2
  rw [this]
  exact ⟨by omega,by omega,by simp,fun _=>rfl,fun k hk=>by cases hk⟩
 rw [if_neg h0,if_neg h1] at h
 by_cases hb:t.Kind < 0∨10 < t.Kind∨d=0∨65536≤t.Words.length∨(t.Kind=1∧65536≤t.Kids.length)∨1048576≤t.Kids.length∨(1 < t.Kind∧0 < t.Words.length)
 ·rw [if_pos hb] at h;cases h
 rw [if_neg hb,List.all_eq_true] at h
 refine ⟨by omega,by omega,by omega,fun q=>by omega,fun k hk => ?_⟩
 have:=h k hk
 rw [Bool.and_eq_true] at this
 exact this.1
def Zef {α σ:Type} (f:σ→Nat→α→σ):σ→Nat→List α→σ
 | s,_,[]=>s
 | s,i,x::xs=>Zef f (f s i x) (i+1) xs
theorem Z8l {α σ S R:Type} (xs:List α) (pack:Int→σ→S) (out:σ→R) (step:S→Option (S ⊕ R)) (f:σ→Nat→α→σ) (I:Nat→σ→Prop) (hl:(xs.length:Int)≤140737488355328)
  (h1:∀ (i:Nat) (s:σ) (x:α),i < xs.length→xs[i]? = some x→x∈xs→I i s→step (pack i s)=some (.inl (pack (IntKind.i64.wrap ((i:Int)+1)) (f s i x)))∧I (i+1) (f s i x))
  (h2:∀ s,I xs.length s→step (pack xs.length s)=some (.inr (out s))) (s:σ) (h0:I 0 s):Z6 step (pack 0 s)=some (out (Zef f s 0 xs))∧I xs.length (Zef f s 0 xs):=by
 have key:∀ (l pre:List α) (s:σ),xs=pre++l→I pre.length s→Z6 step (pack (pre.length:Nat) s)=some (out (Zef f s pre.length l))∧I xs.length (Zef f s pre.length l):=fun l=>by
  induction l with
  | nil =>
   intro pre s hp hi
   rw [List.append_nil] at hp
   subst hp
   exact ⟨Yt (h2 s hi),hi⟩
  | cons x l ih =>
   intro pre s hp hI
   have hx:xs[pre.length]? = some x:=by rw [hp,List.getElem?_append_right (Nat.le_refl _),Nat.sub_self];rfl
   have hi:pre.length < xs.length:=by rw [hp];simp
   obtain ⟨a,b⟩:=h1 pre.length s x hi hx (List.mem_of_getElem? hx) hI
   rw [Yy (by omega) (by omega)] at a
   have:=ih (pre++[x]) (f s pre.length x) (by rw [hp];simp) (by rw [List.length_append,List.length_singleton];exact b)
   rw [List.length_append,List.length_singleton] at this
   exact ⟨(X9 a).trans this.1,this.2⟩
 exact key xs [] s rfl h0
theorem Kr {x:Int} (h0:0≤x) (h1:x < 18446744073709551616):IntKind.u64.wrap x=x:=IntWalk.u64_in _ (by omega)
def Zjs (w:Nat) (out:List Int) (i:Nat) (n:Int):List Int:=Xs out ((i * w / 64:Nat):Int) (out[i * w / 64]?.getD 0+n * 2 ^ (i * w % 64))
def Z9g (w N:Nat) (i:Nat) (out:List Int):Prop:=out.length=(N * w+63) / 64∧∀ (q:Nat) (v:Int),out[q]? = some v→0≤v∧v < 2 ^ min 64 (i * w - q * 64)
theorem Z9a {s w:Nat} {v n:Int} (h0:0≤v) (h1:v < 2 ^ s) (n0:0≤n) (n1:n < 2 ^ w):0≤v+n * 2 ^ s∧v+n * 2 ^ s < 2 ^ (s+w)∧0≤n * 2 ^ s:=by
 have p:(0:Int) < 2 ^ s:=Int.pow_pos (by decide)
 have a:=Int.mul_nonneg n0 (Int.le_of_lt p)
 have b:(n+1) * 2 ^ s≤2 ^ w * 2 ^ s:=Int.mul_le_mul_of_nonneg_right (by omega) (Int.le_of_lt p)
 rw [Int.add_mul,Int.one_mul,Int.mul_comm (2 ^ w),← Int.pow_add] at b
 exact ⟨by omega,by omega,a⟩
theorem Zpm {a b:Nat} (h:a≤b):(2:Int) ^ a≤2 ^ b:=by
 have:=Nat.pow_le_pow_right (n:=2) (by decide) h
 exact_mod_cast this
theorem Z9f {w N i:Nat} {out:List Int} {n:Int} (hw:0 < w) (hs:i * w % 64+w≤64) (hi:i < N) (hI:Z9g w N i out) (n0:0≤n) (n1:n < 2 ^ w) :
  ∃ v:Int,out[i * w / 64]? = some v∧0≤v∧v < 2 ^ (i * w % 64)∧v+n * 2 ^ (i * w % 64) < 18446744073709551616∧0≤n * 2 ^ (i * w % 64)∧Z9g w N (i+1) (Zjs w out i n):=by
 obtain ⟨hl,hv⟩:=hI
 have hm:i * w+w≤N * w:=by
  have:=Nat.mul_le_mul_right w (show i+1≤N by omega)
  rwa [Nat.add_mul,Nat.one_mul] at this
 have hq:i * w / 64 < out.length:=by rw [hl];omega
 have hx:out[i * w / 64]? = some out[i * w / 64]:=List.getElem?_eq_getElem hq
 obtain ⟨v0,v1⟩:=hv _ _ hx
 have e:min 64 (i * w - i * w / 64 * 64)=i * w % 64:=by omega
 rw [e] at v1
 obtain ⟨a,b,c⟩:=Z9a v0 v1 n0 n1
 have d:=Zpm hs
 refine ⟨_,hx,v0,v1,by omega,c,by unfold Zjs;rw [Kx,hl],fun q u hu => ?_⟩
 unfold Zjs Xs at hu
 rw [Int.toNat_natCast,hx,Option.getD_some,List.getElem?_set] at hu
 have e1:(i+1) * w=i * w+w:=by rw [Nat.add_mul,Nat.one_mul]
 by_cases h:i * w / 64=q
 ·rw [if_pos h,if_pos hq] at hu
  cases hu
  subst h
  refine ⟨a,?_⟩
  have:min 64 ((i+1) * w - i * w / 64 * 64)=i * w % 64+w:=by rw [e1];omega
  rw [this]
  exact b
 rw [if_neg h] at hu
 obtain ⟨u0,u1⟩:=hv _ _ hu
 refine ⟨u0,Int.lt_of_lt_of_le u1 (Zpm ?_)⟩
 rw [e1]
 omega
theorem Z9e (w N:Nat):Z9g w N 0 (List.replicate ((N * w+63) / 64) 0):=by
 refine ⟨List.length_replicate,fun q v h => ?_⟩
 have:=List.mem_of_getElem? h
 rw [List.mem_replicate] at this
 rw [this.2]
 exact ⟨by decide,Int.pow_pos (by decide)⟩
def Zaq (c:Int) (ns:List Int):List Int:=if c=0 then [] else Zef (Zjs (wid c)) (List.replicate ((ns.length * wid c+63) / 64) 0) 0 ns
theorem Zzx {y2:Int} {s0:Int×List Int} {s:Nat} {n:Int} (hs:s < 64) (he:Int.tmod (IntKind.i64.wrap (s0.1 * y2)) 64=(s:Int)) (n0:0≤n) (hb:n * 2 ^ s < 18446744073709551616):Z6 (Uh y2 s0) (n,0)=some (n * 2 ^ s):=by
 refine Zod (fun st=>∃ j:Nat,j≤s∧st=(n * 2 ^ j,(j:Int))) (fun st=>s - st.2.toNat) ?_ _ ⟨0,by omega,by simp⟩
 rintro st ⟨j,hj,rfl⟩
 unfold Uh
 simp only
 rw [he]
 by_cases h:j < s
 ·left
  have p:n * 2 ^ (j+1)≤n * 2 ^ s:=Int.mul_le_mul_of_nonneg_left (Zpm (by omega)) n0
  have q:n * 2 ^ j * 2=n * 2 ^ (j+1):=by rw [Int.pow_succ,Int.mul_assoc]
  have r:0≤n * 2 ^ (j+1):=Int.mul_nonneg n0 (Int.le_of_lt (Int.pow_pos (by decide)))
  refine ⟨(n * 2 ^ (j+1),((j+1:Nat):Int)),?_,⟨j+1,by omega,rfl⟩,by simp only;omega⟩
  rw [decide_eq_true (by omega),cond_true,q,Kr r (by omega),Yy (by omega) (by omega)]
  rfl
 right
 obtain rfl:j=s:=by omega
 rw [decide_eq_false (by omega),cond_false]
theorem Z6l {c:Int} {w:Nat} (h:0≤c∧c≤5) (ew:wid c=w) (hw:0 < w) (hw2:w≤64) (hs:∀ i:Nat,i * w % 64+w≤64)
  {ns:List Int} (hn:ns.length≤1048576) (hu:∀ n∈ns,0≤n∧n < 18446744073709551616∧Zbp c n=true) :
  Z6 (Y6 c ns (w:Int)) (0,List.replicate ((ns.length * w+63) / 64) 0)=some (.inr (Zef (Zjs w) (List.replicate ((ns.length * w+63) / 64) 0) 0 ns)) :=
 (Z8l ns (fun i s=>(i,s)) (fun s => .inr s) (Y6 c ns (w:Int)) (Zjs w) (Z9g w ns.length) (by omega) (fun i s n hi hx hm hI=>by
  obtain ⟨n0,n1,n2⟩:=hu n hm
  have n3:n < 2 ^ w:=by unfold Zbp at n2;rw [← ew];exact of_decide_eq_true n2
  obtain ⟨v,hv,v0,v1,v2,v3,v4⟩:=Z9f hw (hs i) hi hI n0 n3
  refine ⟨?_,v4⟩
  unfold Y6
  simp only
  have hb:=Nat.mul_le_mul_left i hw2
  have e1:IntKind.i64.wrap ((i:Int) * (w:Int))=((i * w:Nat):Int):=by
   rw [← Int.natCast_mul,Yy (by omega) (by omega)]
  have e2:IntKind.i64.wrap (Int.tdiv ((i * w:Nat):Int) 64)=((i * w / 64:Nat):Int):=by
   rw [Int.tdiv_eq_ediv_of_nonneg (by omega),Yy (by omega) (by omega)]
   omega
  have e3:Int.tmod (IntKind.i64.wrap ((i:Int) * (w:Int))) 64=((i * w % 64:Nat):Int):=by
   rw [e1,Int.tmod_eq_emod_of_nonneg (by omega)]
   omega
  have e4:=Zzx (y2:=(w:Int)) (s0:=((i:Int),s)) (by omega) e3 n0 (by omega)
  rw [Zt4 hi,cond_true,Zaz hx,Option.bind_some,Zuj h.1 h.2 n0 n1,Option.bind_some,n2,Bool.not_true,cond_false,e4,Option.bind_some,decide_eq_true (by omega),cond_true,e1,e2,Zaz hv,Option.bind_some,Option.bind_some,Kr (by omega) v2]
  unfold Zjs
  rw [hv]
  rfl) (fun s _=>by
  unfold Y6
  simp only
  rw [Zt3,cond_false]) _ (Z9e w ns.length)).1
theorem Z3a {ns:List Int} (hn:ns.length≤1048576) (hu:∀ n∈ns,0≤n∧n < 18446744073709551616∧Zbp 0 n=true) (l0:List Int):Z6 (Y6 0 ns ((0:Nat):Int)) (0,l0)=some (.inr l0):=by
 have:=(Z8l ns (fun i s=>(i,s)) (fun s => .inr s) (Y6 0 ns ((0:Nat):Int)) (fun s _ _=>s) (fun _ s=>s=l0) (by omega) (fun i s n hi hx hm hI=>by
  obtain ⟨n0,n1,n2⟩:=hu n hm
  refine ⟨?_,hI⟩
  unfold Y6
  simp only
  have e3:Int.tmod (IntKind.i64.wrap ((i:Int) * ((0:Nat):Int))) 64=((0:Nat):Int):=by
   rw [Int.natCast_zero,Int.mul_zero]
   rfl
  have e4:=Zzx (y2:=((0:Nat):Int)) (s0:=((i:Int),s)) (by omega) e3 n0 (by omega)
  rw [Zt4 hi,cond_true,Zaz hx,Option.bind_some,Zuj (by decide) (by decide) n0 n1,Option.bind_some,n2,Bool.not_true,cond_false,e4,Option.bind_some,decide_eq_false (by decide),cond_false,Option.bind_some]) (fun s _=>by
  unfold Y6
  simp only
  rw [Zt3,cond_false]) l0 rfl)
 rw [this.1,this.2]
theorem Z9x {c:Int} (h:0≤c∧c≤5) {ns:List Int} (hn:ns.length≤1048576) (hu:∀ n∈ns,0≤n∧n < 18446744073709551616∧Zbp c n=true):Uq c ns=some (Zaq c ns,true):=by
 have hb:wid c≤64:=by rcases c5' h with rfl | rfl | rfl | rfl | rfl | rfl <;> decide
 have hm:ns.length * wid c≤1048576 * 64:=Nat.mul_le_mul hn hb
 unfold Uq Zaq
 rw [Z4r h,Option.bind_some,decide_eq_false (by omega),cond_false,Z9y h (by omega),Option.bind_some,Z0s (by omega) (by omega) (by omega),Option.bind_some,Int.toNat_natCast]
 have key:∀ w:Nat,wid c=w→0 < w→(∀ i:Nat,i * w % 64+w≤64)→¬ c=0→((Z6 (Y6 c ns ((wid c:Nat):Int)) (0,List.replicate ((ns.length * wid c+63) / 64) 0)).bind fun (z20:(Unit ⊕ (List Int)))=>match z20 with | .inl z20=>some (([]:(List Int)),false) | .inr z20=>some (z20,true))=some ((if c=0 then [] else Zef (Zjs (wid c)) (List.replicate ((ns.length * wid c+63) / 64) 0) 0 ns),true):=by
  intro w ew a1 a2 a3
  rw [if_neg a3,ew,Z6l h ew a1 (by omega) a2 hn hu]
  rfl
 rcases c5' h with rfl | rfl | rfl | rfl | rfl | rfl
 ·rw [show wid 0=0 from rfl,Z3a hn hu,Nat.mul_zero,if_pos rfl]
  rfl
 ·exact key 1 rfl (by decide) (fun i=>by omega) (by decide)
 ·exact key 8 rfl (by decide) (fun i=>by omega) (by decide)
 ·exact key 16 rfl (by decide) (fun i=>by omega) (by decide)
 ·exact key 32 rfl (by decide) (fun i=>by omega) (by decide)
 exact key 64 rfl (by decide) (fun i=>by omega) (by decide)
def ato (t:Tr):List Int:=t.Kids.map fun k=>k.Words.headD 0
theorem Zj8 (t:Tr):(ato t).length=t.Kids.length:=by unfold ato;rw [List.length_map]
theorem Zpc {α:Type} {f:α→Nat} {x:α}:∀ {l:List α},x∈l→f x≤(l.map f).sum
 | [],h=>by cases h
 | y::l,h=>by
  simp only [List.map_cons,List.sum_cons]
  rcases List.mem_cons.1 h with rfl | h
  ·omega
  have:=Zpc (f:=f) h;omega
theorem Zpb {α:Type} {f:α→Nat}:∀ {l:List α},(∀ x∈l,1≤f x)→l.length≤(l.map f).sum
 | [],_=>by simp
 | y::l,h=>by
  have:=Zpb fun x hx=>h x (.tail _ hx)
  have:=h y (.head _)
  simp only [List.map_cons,List.sum_cons,List.length_cons]
  omega
theorem Z4h {α β:Type} {f:α→Nat} {g:β→Nat} (p:α→β):∀ {l:List α},(∀ x∈l,g (p x)≤f x)→((l.map p).map g).sum≤(l.map f).sum
 | [],_=>by simp
 | y::l,h=>by
  have:=Z4h p fun x hx=>h x (.tail _ hx)
  have:=h y (.head _)
  simp only [List.map_cons,List.sum_cons]
  omega
theorem Z5a {α:Type} {p:α→Bool} {f:α→Nat}:∀ l:List α,((tr p l).map f).sum≤(l.map f).sum
 | []=>by simp [tr]
 | x::l=>by
  have:=Z5a (p:=p) (f:=f) l
  by_cases h:tr p l=[]
  ·rw [Zj1 h]
   split <;> simp
  rw [Zut h]
  simp only [List.map_cons,List.sum_cons]
  omega
theorem Zy1 (t:Tr):1≤pt t:=by rw [Ziu];omega
theorem Yex {t x:Tr} (h:x∈t.Kids):pt x+1≤pt t:=by
 have:=Zpc (f:=pt) h
 rw [Ziu t]
 omega
theorem Zii (t:Tr):1+t.Words.length+t.Kids.length≤pt t:=by
 have:=Zpb (f:=pt) (l:=t.Kids) fun x _=>Zy1 x
 rw [Ziu t]
 omega
theorem Zy0:∀ (n:Nat) (t:Tr),SizeOf.sizeOf t < n→pt (nrm t)≤pt t
 | 0,_,h=>by omega
 | n+1,t,h=>by
  have ih:∀ x∈t.Kids,pt (nrm x)≤pt x:=fun x hx=>Zy0 n x (by have:=Xc hx;omega)
  have e:=Z4h (f:=pt) (g:=pt) nrm ih
  by_cases h0:t.Kind=0
  ·rw [U9 h0,Ziu]
   exact Zy1 t
  by_cases h1:t.Kind=1
  ·rw [Qq h1,Ziu,Ziu t]
   simp only
   have a:=Ze7 (fun x:Int=>x == 0) t.Words
   have b:=Z5a (p:=fun x:Tr=>x.Kind == 0) (f:=pt) (t.Kids.map nrm)
   exact Nat.add_le_add (Nat.add_le_add_left a 1) (Nat.le_trans b e)
  rw [V3 h0 h1,Ziu,Ziu t]
  simp only
  omega
theorem Z73 {M N:Int}:∀ (l:List Tr) (s:Int×Int),(∀ x∈l,(x.Words.length:Int)≤M∧(x.Kids.length:Int)≤N)→0≤s.1→s.1≤M→0≤s.2→s.2≤N →
  s.1≤(l.foldl frS s).1∧(l.foldl frS s).1≤M∧s.2≤(l.foldl frS s).2∧(l.foldl frS s).2≤N∧∀ x∈l,(x.Words.length:Int)≤(l.foldl frS s).1∧(x.Kids.length:Int)≤(l.foldl frS s).2
 | [],s,_,a,b,c,d=>⟨Int.le_refl _,b,Int.le_refl _,d,fun x hx=>by cases hx⟩
 | y::l,s,h,a,b,c,d=>by
  obtain ⟨h1,h2⟩:=h y (.head _)
  have e1:s.1≤(frS s y).1∧(frS s y).1≤M∧(y.Words.length:Int)≤(frS s y).1:=by unfold frS;simp only;split <;> omega
  have e2:s.2≤(frS s y).2∧(frS s y).2≤N∧(y.Kids.length:Int)≤(frS s y).2:=by unfold frS;simp only;split <;> omega
  obtain ⟨k1,k2,k3,k4,k5⟩:=Z73 l (frS s y) (fun x hx=>h x (.tail _ hx)) (by omega) e1.2.1 (by omega) e2.2.1
  rw [List.foldl_cons]
  refine ⟨by omega,k2,by omega,k4,fun x hx => ?_⟩
  rcases List.mem_cons.1 hx with rfl | hx
  ·omega
  exact k5 x hx
theorem Ycs {M N:Int} {l:List Tr} (h:∀ x∈l,(x.Words.length:Int)≤M∧(x.Kids.length:Int)≤N) (hM:0≤M) (hN:0≤N) :
  0≤(fr l).1∧(fr l).1≤M∧0≤(fr l).2∧(fr l).2≤N∧∀ x∈l,(x.Words.length:Int)≤(fr l).1∧(x.Kids.length:Int)≤(fr l).2 :=
 Z73 l (0,0) h (Int.le_refl _) hM (Int.le_refl _) hN
theorem Uu {t:Tr} {d:Nat} (h:rt t d=true) (h0:¬ t.Kind=0) (h1:¬ t.Kind=10):t.Words.length < 65536∧(t.Kind=1→t.Kids.length < 65536)∧(1 < t.Kind→t.Words=[])∧∀ k∈t.Kids,rt k (d - 1)=true∧okk t.Kind k=true:=by
 rw [Zfk,if_neg h0,if_neg h1] at h
 by_cases hb:t.Kind < 0∨10 < t.Kind∨d=0∨65536≤t.Words.length∨(t.Kind=1∧65536≤t.Kids.length)∨1048576≤t.Kids.length∨(1 < t.Kind∧0 < t.Words.length)
 ·rw [if_pos hb] at h;cases h
 rw [if_neg hb,List.all_eq_true] at h
 refine ⟨by omega,fun h=>by omega,fun h=>List.length_eq_zero_iff.1 (by omega),fun k hk => ?_⟩
 have:=h k hk
 rwa [Bool.and_eq_true] at this
theorem Yfj {l:List Tr} (hl:l.length≤200000) (h:∀ x∈l,x.Words.length≤65535∧x.Kids.length≤65535):h9 l=1+(l.length:Int) * ((fr l).1+(fr l).2)∧0≤(l.length:Int) * ((fr l).1+(fr l).2)∧(l.length:Int) * ((fr l).1+(fr l).2)≤26214000000∧(0≤(fr l).1∧(fr l).1≤65535∧0≤(fr l).2∧(fr l).2≤65535∧∀ x∈l,(x.Words.length:Int)≤(fr l).1∧(x.Kids.length:Int)≤(fr l).2):=by
 have f:=Ycs (M:=65535) (N:=65535) (l:=l) (fun x hx=>by have:=h x hx;omega) (by decide) (by decide)
 have a:0≤(l.length:Int) * ((fr l).1+(fr l).2):=Int.mul_nonneg (by omega) (by omega)
 have b:(l.length:Int) * ((fr l).1+(fr l).2)≤200000 * 131070:=Int.mul_le_mul (by omega) (by omega) (by omega) (by decide)
 refine ⟨?_,a,by omega,f⟩
 unfold h9
 rw [Yy (x:=(fr l).1+(fr l).2) (by omega) (by omega),Yy (x:=(l.length:Int) * _) (by omega) (by omega),Yy (by omega) (by omega)]
theorem Yb1 {c:Int} (h:0≤c∧c≤5) (n:Nat):(n * wid c+63) / 64≤n:=by
 have hb:wid c≤64:=by rcases c5' h with rfl | rfl | rfl | rfl | rfl | rfl <;> decide
 have:=Nat.mul_le_mul_left n hb
 omega
def zs (l:List Int) (N:Nat):List Int:=l++List.replicate (N - l.length) 0
theorem Ya1 {α σ:Type} {f:σ→Nat→α→σ} (I:Nat→σ→Prop) (xs:List α) (h:∀ (i:Nat) (s:σ) (x:α),i < xs.length→xs[i]? = some x→x∈xs→I i s→I (i+1) (f s i x)) {s:σ} (h0:I 0 s):I xs.length (Zef f s 0 xs):=by
 have key:∀ (l pre:List α) (s:σ),xs=pre++l→I pre.length s→I xs.length (Zef f s pre.length l):=fun l=>by
  induction l with
  | nil =>
   intro pre s hp hi
   rw [List.append_nil] at hp
   subst hp
   exact hi
  | cons x l ih =>
   intro pre s hp hI
   have hx:xs[pre.length]? = some x:=by rw [hp,List.getElem?_append_right (Nat.le_refl _),Nat.sub_self];rfl
   have hi:pre.length < xs.length:=by rw [hp];simp
   have b:=h pre.length s x hi hx (List.mem_of_getElem? hx) hI
   have:=ih (pre++[x]) (f s pre.length x) (by rw [hp];simp) (by rw [List.length_append,List.length_singleton];exact b)
   rw [List.length_append,List.length_singleton] at this
   exact this
 exact key xs [] s rfl h0
theorem Z7r {a b:Int} (h:a=b):(a == b)=true:=by rw [h];exact beq_self_eq_true b
def Yi4 (t:Tr) (l:List Int) (a:Nat):Int:=if t.Words.length+t.Kids.length=0 then -1 else (l.length:Int) - a - 1
def Ycd (t:Tr) (W K:Nat):Int:=(t.Kids.length:Int) * 4+(W:Int) * 4294967296+(K:Int) * 281474976710656
theorem Zbi {i n m:Nat} (h:i < n):i * m+m≤n * m:=by
 have:=Nat.mul_le_mul_right m (show i+1≤n by omega)
 rwa [Nat.add_mul,Nat.one_mul] at this
theorem Vl {kind:Int} {k:Tr} (h:¬ (2≤kind∧kind≤7)) (hk:okk kind k=true):¬ k.Kind=10∧(kind=9→k.Kind=1):=by
 unfold okk at hk
 rw [if_neg h,Bool.and_eq_true,bne_iff_ne,Bool.or_eq_true,bne_iff_ne,beq_iff_eq] at hk
 exact ⟨hk.1,fun h9=>by rcases hk.2 with h | h;exact absurd h9 h;exact h⟩
theorem Z0y {kind:Int} {k:Tr} {d:Nat} (h:2≤kind∧kind≤7) (hb:Bd k) (hr:rt k d=true) (hk:okk kind k=true):∃ w,k.Words=[w]∧0≤w∧w < 18446744073709551616∧Zbp (kind - 2) w=true:=by
 unfold okk at hk
 rw [if_pos h,Bool.and_eq_true,beq_iff_eq] at hk
 obtain ⟨w,hw⟩:=Zwd hk.1 hr
 have hu:=hb.u w (by rw [hw];exact .head _)
 refine ⟨w,hw,hu.1,hu.2,?_⟩
 have:=hk.2
 rwa [hw] at this
structure Fine (t:Tr) (d:Nat):Prop where
 bd:Bd t
 rt:rt t d=true
 pt:pt t≤200000
theorem Fine.kid {t x:Tr} {d:Nat} (h:Fine t d) (hx:x∈t.Kids):Fine x (d - 1):=⟨h.bd.all x hx,(Zuk h.rt).2.2.2.2 x hx,by have:=h.pt;have:=Yex hx;omega⟩
theorem Fine.nrm {t:Tr} {d:Nat} (h:Fine t d):Fine (nrm t) d:=⟨h.bd.nrm,rtN h.rt,Nat.le_trans (Zy0 _ t (Nat.lt_succ_self _)) h.pt⟩
def Ybu (w N:Nat) (ns:List Int) (i:Nat) (s:List Int):Prop:=Z9g w N i s∧∀ (j:Nat) (n:Int),j < i→ns[j]? = some n→(s[j * w / 64]?.getD 0) / 2 ^ (j * w % 64) % 2 ^ w=n
theorem Z6e {w N i:Nat} {ns s:List Int} {n:Int} (hw:0 < w) (hs:∀ i:Nat,i * w % 64+w≤64) (hi:i < N) (hx:ns[i]? = some n) (hI:Ybu w N ns i s) (n0:0≤n) (n1:n < 2 ^ w):Ybu w N ns (i+1) (Zjs w s i n):=by
 obtain ⟨v,hv,v0,v1,v2,v3,v4⟩:=Z9f hw (hs i) hi hI.1 n0 n1
 refine ⟨v4,fun j m hj hm => ?_⟩
 have hq:i * w / 64 < s.length:=(List.getElem?_eq_some_iff.1 hv).1
 have e0:Zjs w s i n=s.set (i * w / 64) (v+n * 2 ^ (i * w % 64)):=by
  unfold Zjs Xs
  rw [hv,Int.toNat_natCast]
  rfl
 rw [e0,List.getElem?_set]
 have pz:∀ k:Nat,(2:Int) ^ k≠0:=fun k=>Int.ne_of_gt (Int.pow_pos (by decide))
 by_cases h:i * w / 64=j * w / 64
 ·rw [if_pos h,if_pos hq,Option.getD_some]
  by_cases hji:j=i
  ·subst hji
   rw [hx] at hm
   cases hm
   rw [Int.add_mul_ediv_right _ _ (pz _),Int.ediv_eq_zero_of_lt v0 v1,Int.zero_add,Int.emod_eq_of_lt n0 n1]
  have hlt:j < i:=by omega
  have h2:=Zbi (m:=w) hlt
  have h3:j * w % 64+w≤i * w % 64:=by omega
  have e:n * 2 ^ (i * w % 64)=n * 2 ^ (i * w % 64 - (j * w % 64+w)) * 2 ^ w * 2 ^ (j * w % 64):=by
   rw [Int.mul_assoc,Int.mul_assoc,← Int.pow_add,← Int.pow_add]
   congr 2
   omega
  rw [e,Int.add_mul_ediv_right _ _ (pz _),Int.add_mul_emod_self_right]
  have:=hI.2 j m hlt hm
  rw [← h,hv,Option.getD_some] at this
  exact this
 rw [if_neg h]
 have hlt:j < i:=by
  rcases Nat.lt_or_ge j i with q | q
  ·exact q
  exact absurd (by rw [show j=i by omega]) h
 exact hI.2 j m hlt hm
theorem Z09 {w:Nat} (hw:0 < w) (hs:∀ i:Nat,i * w % 64+w≤64) {ns:List Int} (hf:∀ n∈ns,0≤n∧n < 2 ^ w):Ybu w ns.length ns ns.length (Zef (Zjs w) (List.replicate ((ns.length * w+63) / 64) 0) 0 ns) :=
 Ya1 (f:=Zjs w) (Ybu w ns.length ns) ns (fun i s x hi hx hm hI=>Z6e hw hs hi hx hI (hf x hm).1 (hf x hm).2) ⟨Z9e w ns.length,fun j n hj=>by omega⟩
structure Nm (t:Tr) (d:Nat):Prop where
 f:Fine t d
 n:nrm t=t
 k:¬ t.Kind=10
theorem Nm.kid {t x:Tr} {d:Nat} (h:Nm t d) (h0:¬ t.Kind=0) (hx:x∈t.Kids) (h10:¬ x.Kind=10):Nm x (d - 1):=by
 refine ⟨h.f.kid hx,?_,h10⟩
 have hn:=h.n
 by_cases h1:t.Kind=1
 ·rw [Qq h1] at hn
  rw [← hn] at hx
  simp only at hx
  obtain ⟨y,_,rfl⟩:=List.mem_map.1 (Zf3 hx)
  exact Zpa y
 rw [V3 h0 h1] at hn
 rw [← hn] at hx
 simp only at hx
 obtain ⟨y,_,rfl⟩:=List.mem_map.1 hx
 exact Zpa y
theorem Nm.words {t:Tr} {d:Nat} (h:Nm t d) (h1:t.Kind=1):tr (fun x=>x == 0) t.Words=t.Words:=by
 have hn:=h.n
 rw [Qq h1] at hn
 exact congrArg Zj.Words hn
theorem Nm.kids {t:Tr} {d:Nat} (h:Nm t d) (h1:t.Kind=1):tr (fun x=>x.Kind == 0) t.Kids=t.Kids:=by
 have hn:=h.n
 rw [Qq h1] at hn
 have:=congrArg Zj.Kids hn
 simp only at this
 rw [← this,Zxm]
theorem Nm.okids {t:Tr} {d:Nat} (h:Nm t d) (h18:t.Kind=1∨t.Kind=8):∀ x∈t.Kids,Nm x (d - 1):=fun x hx =>
 h.kid (by omega) hx (Vl (by omega) ((Uu h.f.rt (by omega) h.k).2.2.2 x hx).2).1
theorem Nm.structs {t:Tr} {d:Nat} (h:Nm t d) (h9:t.Kind=9):∀ x∈t.Kids,Nm x (d - 1)∧x.Kind=1:=fun x hx=>by
 have k1:=(Vl (by omega) ((Uu h.f.rt (by omega) h.k).2.2.2 x hx).2).2 h9
 exact ⟨h.kid (by omega) hx (by omega),k1⟩
theorem Nm.null {t:Tr} {d:Nat} (h:Nm t d) (h0:t.Kind=0):t=⟨0,[],[]⟩:=by
 have:=h.n
 rwa [U9 h0,eq_comm] at this
def hdS (t:Tr) (l:List Int) (a:Nat):Int:=Yi4 t l a % 1073741824 * 4+(t.Words.length:Int) * 4294967296+(t.Kids.length:Int) * 281474976710656
theorem Z8f {t:Tr} {d:Nat} (h:Nm t d):t.Kids.length≤200000:=by
 have:=Zii t
 have:=h.f.pt
 omega
theorem Nm.atoms {t:Tr} {d:Nat} (h:Nm t d) (h2:2≤t.Kind∧t.Kind≤7):∀ k∈t.Kids,∃ w,k=⟨10,[w],[]⟩∧0≤w∧w < 18446744073709551616∧Zbp (t.Kind - 2) w=true:=fun k hk=>by
 have i4:=(Uu h.f.rt (by omega) h.k).2.2.2 k hk
 obtain ⟨w,hw,a,b,c⟩:=Z0y h2 (h.f.bd.all k hk) i4.1 i4.2
 have k10:k.Kind=10:=by
  have:=i4.2
  unfold okk at this
  rw [if_pos h2,Bool.and_eq_true,beq_iff_eq] at this
  exact this.1
 have k0:k.Kids=[]:=(Zuk i4.1).2.2.2.1 (.inr k10)
 refine ⟨w,?_,a,b,c⟩
 obtain ⟨x,y,z⟩:=k
 simp only at hw k10 k0
 rw [hw,k10,k0]
def hv (t:Tr) (l:List Int) (a:Nat) (c:Int):Int:=if t.Kind=0 then 0 else if t.Kind=1 then hdS t l a else ((l.length:Int) - a - 1) % 1073741824 * 4+1+(t.Kind - 2) * 4294967296+c * 34359738368
def StN (W K:Nat) (x:Tr):Prop:=x.Kind=1∧(∃ d,Nm x d)∧x.Words.length≤W∧x.Kids.length≤K
theorem StN.kids {W K:Nat} {x:Tr} (h:StN W K x):∀ y∈x.Kids,∃ d,Nm y d:=fun y hy=>by
 obtain ⟨k,⟨d,n⟩,_⟩:=h
 exact ⟨_,n.okids (.inl k) y hy⟩
section
variable {A:Zp}
theorem Zx7 {f:Zd→Int→Tr×Int×Int} {g:Int→Zd×Int}:∀ (m i:Nat) (left:Int) (acc:List Tr),(Y7 f g m i left acc).2.2=0 →
  ∃ ts:List Tr,(Y7 f g m i left acc).1=acc++ts∧ts.length=m∧∀ (j:Nat) (x:Tr),ts[j]? = some x→(g ((i+j:Nat):Int)).2=0∧∃ l',(f (g ((i+j:Nat):Int)).1 l').2.2=0∧x=(f (g ((i+j:Nat):Int)).1 l').1
 | 0,i,left,acc,_=>⟨[],by simp [Y7],rfl,fun j x h=>by simp at h⟩
 | m+1,i,left,acc,h=>by
  rw [Y7] at h ⊢
  by_cases h1:(g i).2≠0
  ·rw [if_pos h1] at h;exact absurd h h1
  rw [if_neg h1] at h ⊢
  by_cases h2:(f (g i).1 left).2.2≠0
  ·rw [if_pos h2] at h;exact absurd h h2
  rw [if_neg h2] at h ⊢
  obtain ⟨ts,c1,c2,c3⟩:=Zx7 m (i+1) _ _ h
  refine ⟨(f (g i).1 left).1::ts,by rw [c1,List.append_assoc];rfl,by rw [List.length_cons,c2],fun j x hx => ?_⟩
  cases j with
  | zero =>
   simp only [List.getElem?_cons_zero,Option.some.injEq] at hx
   exact ⟨by simpa using h1,left,by simpa using h2,by simpa using hx.symm⟩
  | succ j =>
   rw [List.getElem?_cons_succ] at hx
   have:=c3 j x hx
   rwa [show i+1+j=i+(j+1) by omega] at this
inductive MR (A:Zp):Zd→Tr→Prop
 | mk (r:Zd) (t:Tr) (ho:OKr A r) (hk:t.Kind=r.kind) (hw:t.Words=Yg A r) (hl:(t.Kids.length:Int)=Ym r)
   (he:∀ (i:Nat) (x:Tr),t.Kids[i]? = some x→(Yq A r i).2=0) (hs:∀ (i:Nat) (x:Tr),t.Kids[i]? = some x→MR A (Yq A r i).1 x):MR A r t
theorem MR.o {r:Zd} {t:Tr} (h:MR A r t):OKr A r:=by cases h;assumption
theorem MR.kd {r:Zd} {t:Tr} (h:MR A r t):t.Kind=r.kind:=by cases h;assumption
theorem MR.ws {r:Zd} {t:Tr} (h:MR A r t):t.Words=Yg A r:=by cases h;assumption
theorem MR.len {r:Zd} {t:Tr} (h:MR A r t):(t.Kids.length:Int)=Ym r:=by cases h;assumption
theorem MR.kid {r:Zd} {t:Tr} (h:MR A r t) {i:Nat} {x:Tr} (hx:t.Kids[i]? = some x):(Yq A r i).2=0∧MR A (Yq A r i).1 x:=by
 cases h with
 | mk _ _ _ _ _ _ he hs=>exact ⟨he i x hx,hs i x hx⟩
theorem Ycu {r:Zd} (h:OKr A r) (hk:r.kind=0∨r.kind=10):Ym r=0:=by
 cases h <;> simp_all [Ym,r0]
 omega
theorem Zs2 {r:Zd} (h:OKr A r) (h0:Ym r=0):MR A r ⟨r.kind,Yg A r,[]⟩ := .mk _ _ h rfl rfl (by simp [h0]) (fun i x hx=>by simp at hx) (fun i x hx=>by simp at hx)
theorem Ybe:∀ (d:Nat) (r:Zd) (left:Int),OKr A r→(Zfv A d r left).2.2=0→MR A r (Zfv A d r left).1:=fun d=>by
 induction d using Nat.strongRecOn with
 | _ d ih =>
  intro r left ho hq
  have iP:∀ (k:Nat) (r:Zd) (left:Int),0 < k→OKr A r→(Xr A k d r left).2.2=0→MR A r (Xr A k d r left).1:=fun k r left hk ho h=>by
   unfold Xr at h ⊢
   by_cases q:k≤d
   ·rw [if_pos q] at h ⊢
    exact ih (d - k) (by omega) r left ho h
   rw [if_neg q] at h
   simp [bad] at h
  rw [Zo8] at hq ⊢
  unfold Zjh at hq ⊢
  by_cases h0:r.kind=0
  ·rw [if_pos h0] at hq ⊢
   exact Zs2 ho (Ycu ho (.inl h0))
  rw [if_neg h0] at hq ⊢
  by_cases h1:(d:Int) < lvR r∨left < wtR r
  ·rw [if_pos h1] at hq
   simp at hq
  rw [if_neg h1] at hq ⊢
  simp only at hq ⊢
  obtain ⟨ts,c1,c2,c3⟩:=Zx7 _ _ _ _ hq
  have hn:=Zeo ho
  rw [c1,List.nil_append]
  have key:∀ (i:Nat) (x:Tr),ts[i]? = some x→(Yq A r i).2=0∧MR A (Yq A r i).1 x:=fun i x hx=>by
   have hi:i < ts.length:=(List.getElem?_eq_some_iff.1 hx).1
   obtain ⟨e1,l',e2,e3⟩:=c3 i x hx
   rw [Nat.zero_add] at e1 e2 e3
   refine ⟨e1,?_⟩
   have hi2:(0:Int)≤(i:Int)∧(i:Int) < Ym r:=by omega
   have hko:=Vi ho (i:Int)
   rw [e3]
   unfold U0 at e2 ⊢
   by_cases k9:r.kind=9
   ·rw [if_pos k9] at e2 ⊢
    have ks:=Zr9 (A:=A) k9 hi2
    generalize (Yq A r (i:Int)).1=k at *
    unfold stK at e2 ⊢
    simp only at e2 ⊢
    obtain ⟨ts',d1,d2,d3⟩:=Zx7 _ _ _ _ e2
    have hn':=Zeo hko
    have hp:Ym k=k.ptrs:=by unfold Ym;rw [if_pos ks]
    rw [d1,List.nil_append]
    refine .mk _ _ hko ks.symm rfl (by simp only;omega) (fun j y hy => ?_) (fun j y hy => ?_)
    ·have:=(d3 j y hy).1
     rwa [Nat.zero_add] at this
    obtain ⟨f1,l'',f2,f3⟩:=d3 j y hy
    rw [Nat.zero_add] at f1 f2 f3
    rw [f3]
    exact iP 2 _ _ (by decide) (Vi hko _) f2
   rw [if_neg k9] at e2 ⊢
   by_cases k18:r.kind=1∨r.kind=8
   ·rw [if_pos k18] at e2 ⊢
    exact iP 1 _ _ (by decide) hko e2
   rw [if_neg k18] at e2 ⊢
   have kk:=Ycv ho
   have k10:¬ r.kind=10:=fun h=>by
    have:=Ycu ho (.inr h)
    omega
   exact Zs2 hko (Z50 (A:=A) (by omega) hi2).2
  exact .mk _ _ ho rfl rfl (by simp only;omega) (fun i x hx=>(key i x hx).1) (fun i x hx=>(key i x hx).2)
theorem Yaf {α:Type} (p:α→Bool) (l:List α):trN p l l.length=(tr p l).length:=by
 have:=Zzd (p:=p) (l:=l) l.length (Nat.le_refl _)
 rw [List.take_length] at this
 rw [← this.1,List.length_take]
 omega
theorem Zo6 (hw:WS A.segments) {r:Zd} (h:OKr A r):K1 r=some (((tr (fun x=>x == 0) (Yg A r)).length:Nat):Int):=by
 have hl:=Zu1 hw h
 have hn:(Yg A r).length≤65536:=Zh3 h
 unfold K1
 rw [Zv8,Option.bind_some,← hl]
 rw [Z39 (Yg A r) (fun x=>x == 0) (G0 r) (by omega) (by
  unfold G0
  rfl) (fun n x hx hn'=>by
  unfold G0
  have e:IntKind.i64.wrap (((n+1:Nat):Int) - 1)=(n:Int):=by rw [Yy (by omega) (by omega)];omega
  have ew:Z10 A r (n:Int)=x:=by
   rw [← Zr2 hw h hn']
   rw [List.getElem?_eq_getElem hn'] at hx
   exact Option.some.inj hx
  rw [e,decide_eq_true (by omega),cond_true,Zzh hw h,Option.bind_some,ew,cond_true,Option.bind_some]
  cases hq:x == 0 with
  | true=>simp
  | false=>simp),Yaf]
 rfl
theorem Z7w (hw:WS A.segments) {r:Zd} {t:Tr} (h:MR A r t):Zc6 r=some ((((tr (fun x=>x.Kind == 0) t.Kids).length:Nat):Int),0):=by
 have hl:=h.len
 have hn:=Zeo h.o
 have key:∀ n:Nat,n≤t.Kids.length→Z6 (Ur r) (n:Int)=some (if trN (fun x:Tr=>x.Kind == 0) t.Kids n=0 then .inr () else .inl (((trN (fun x:Tr=>x.Kind == 0) t.Kids n:Nat):Int),0)):=fun n=>by
  induction n with
  | zero =>
   intro _
   refine Yt ?_
   unfold Ur
   rfl
  | succ n ih =>
   intro hn'
   have hx:t.Kids[n]? = some t.Kids[n]:=List.getElem?_eq_getElem (by omega)
   obtain ⟨e1,e2⟩:=h.kid hx
   have e:IntKind.i64.wrap (((n+1:Nat):Int) - 1)=(n:Int):=by rw [Yy (by omega) (by omega)];omega
   have st:Ur r ((n+1:Nat):Int)=some (cond (t.Kids[n].Kind == 0) (.inl (n:Int)) (.inr (.inl (((n+1:Nat):Int),0)))):=by
    unfold Ur
    rw [decide_eq_true (by omega),cond_true,e,Z2s hw h.o,Option.bind_some,e1,show Yf (Yq A r (n:Int)).1=some (Yq A r (n:Int)).1.kind from rfl,← e2.kd]
    cases hq:t.Kids[n].Kind == 0 with
    | true=>simp [bne,hq]
    | false=>simp [bne,hq]
   unfold trN
   rw [hx]
   simp only
   cases hq:t.Kids[n].Kind == 0 with
   | true =>
    rw [hq,cond_true] at st
    rw [X9 st,ih (by omega)]
    rfl
   | false =>
    rw [hq,cond_false] at st
    rw [Yt st]
    rfl
 unfold Zc6
 rw [Zud,Option.bind_some,← hl,key _ (Nat.le_refl _),Yaf]
 by_cases q:(tr (fun x:Tr=>x.Kind == 0) t.Kids).length=0
 ·rw [if_pos q]
  simp only [Option.bind_some]
  rw [q]
  rfl
 rw [if_neg q]
 rfl
end
theorem dcS {off data ptrs:Int} (a:-536870912≤off) (b:off < 536870912) (c:0≤data) (d:data < 65536) (e:0≤ptrs) (f:ptrs < 65536) (g:¬ (off=0∧data=0∧ptrs=0)) :
  dc (off % 1073741824 * 4+data * 4294967296+ptrs * 281474976710656)=⟨1,off,data,ptrs,0,0,0,false⟩:=by
 have e1:(off % 1073741824 * 4+data * 4294967296+ptrs * 281474976710656).toNat=(off % 1073741824).toNat * 4+data.toNat * 4294967296+ptrs.toNat * 281474976710656:=by omega
 unfold dc
 rw [e1]
 generalize hw:(off % 1073741824).toNat * 4+data.toNat * 4294967296+ptrs.toNat * 281474976710656=w
 have h1:¬ w=0:=by omega
 have h2:w % 4=0:=by omega
 unfold Zu5
 rw [if_neg h1,if_pos h2]
 unfold Zsm
 simp only [Z4.mk.injEq,true_and,and_true]
 refine ⟨?_,by omega,by omega⟩
 split <;> omega
theorem dcL {off code count:Int} (a:-536870912≤off) (b:off < 536870912) (c:0≤code) (d:code < 8) (e:0≤count) (f:count < 536870912) :
  dc (off % 1073741824 * 4+1+code * 4294967296+count * 34359738368)=⟨2,off,0,0,code,count,0,false⟩:=by
 have e1:(off % 1073741824 * 4+1+code * 4294967296+count * 34359738368).toNat=(off % 1073741824).toNat * 4+1+code.toNat * 4294967296+count.toNat * 34359738368:=by omega
 unfold dc
 rw [e1]
 generalize hw:(off % 1073741824).toNat * 4+1+code.toNat * 4294967296+count.toNat * 34359738368=w
 have h1:¬ w=0:=by omega
 have h2:¬ w % 4=0:=by omega
 have h3:w % 4=1:=by omega
 unfold Zu5
 rw [if_neg h1,if_neg h2,if_pos h3]
 unfold Zsm
 simp only [Z4.mk.injEq,true_and,and_true]
 refine ⟨?_,by omega,by omega⟩
 split <;> omega
def Z05 (W:Nat) (l:List Int):List Int:=l++List.replicate (W - l.length) 0
def Zyx (K:Nat) (l:List Tr):List Tr:=l++List.replicate (K - l.length) ⟨0,[],[]⟩
def Z04 (q:Int×Int) (u:Tr):Tr:=⟨u.Kind,Z05 q.1.toNat u.Words,Zyx q.2.toNat u.Kids⟩
def fm (t:Tr):Tr:=⟨t.Kind,t.Words,t.Kids.attach.map fun k=>if t.Kind=9 then Z04 (fr t.Kids) (fm k.1) else fm k.1⟩
termination_by SizeOf.sizeOf t
decreasing_by all_goals exact Xc k.2
theorem Zvt (t:Tr):fm t=⟨t.Kind,t.Words,t.Kids.map fun k=>if t.Kind=9 then Z04 (fr t.Kids) (fm k) else fm k⟩:=by
 rw [fm]
 congr 1
 exact List.attach_map_val (l:=t.Kids) (f:=fun k=>if t.Kind=9 then Z04 (fr t.Kids) (fm k) else fm k)
theorem Zoq (t:Tr):(fm t).Kind=t.Kind:=by rw [Zvt]
theorem Zz4 (t:Tr):(fm t).Words=t.Words:=by rw [Zvt]
theorem Zfb {t:Tr} (h:¬ t.Kind=9):(fm t).Kids=t.Kids.map fm:=by
 rw [Zvt]
 simp only [if_neg h]
theorem Zti {t:Tr} (h:t.Kind=9):(fm t).Kids=t.Kids.map fun k=>Z04 (fr t.Kids) (fm k):=by
 rw [Zvt]
 simp only [if_pos h]
theorem Yce {L m:List Int} {tp:Nat} (h:∀ (j:Nat),j < m.length→L[tp+j]? = m[j]?):(L.drop tp).take m.length=m:=by
 refine List.ext_getElem? fun j => ?_
 rw [List.getElem?_take]
 by_cases q:j < m.length
 ·rw [if_pos q,List.getElem?_drop,h j q]
 rw [if_neg q,List.getElem?_eq_none (by omega)]
theorem Z4d {A:Zp}:MR A r0 ⟨0,[],[]⟩:=Zs2 (A:=A) .z rfl
theorem Zo7 {α β:Type} {f:α→β} {l:List α} {i:Nat} {x:β} (h:(l.map f)[i]? = some x):∃ y,l[i]? = some y∧y∈l∧f y=x:=by
 rw [List.getElem?_map] at h
 cases hy:l[i]? with
 | none=>rw [hy] at h;cases h
 | some y =>
  rw [hy] at h
  exact ⟨y,rfl,List.mem_of_getElem? hy,Option.some.inj h⟩
theorem Z8x {L ps:List Int} {tp i:Nat} {c w:Int} (hc:1≤c∧c≤5) (hw:∀ q,q < ps.length→L[tp+q]? = ps[q]?) (h0:∀ (q:Nat) (v:Int),ps[q]? = some v→0≤v) (hq:i * wid c / 64 < ps.length) (hp:(ps[i * wid c / 64]?.getD 0) / 2 ^ (i * wid c % 64) % 2 ^ wid c=w) :
  Zt6 (wd [L] 0 ((tp:Int)+(i:Int) / each c)) c ((i:Int) % each c)=w:=by
 obtain ⟨E,w0,e1,e2,e3,e4,e5⟩:∃ E w0:Nat,each c=(E:Int)∧wid c=w0∧wdt c=(w0:Int)∧i / E=i * w0 / 64∧i % E * w0=i * w0 % 64:=by
  rcases c5' (c:=c) (by omega) with rfl | rfl | rfl | rfl | rfl | rfl
  ·omega
  ·exact ⟨64,1,rfl,rfl,rfl,by omega,by omega⟩
  ·exact ⟨8,8,rfl,rfl,rfl,by omega,by omega⟩
  ·exact ⟨4,16,rfl,rfl,rfl,by omega,by omega⟩
  ·exact ⟨2,32,rfl,rfl,rfl,by omega,by omega⟩
  exact ⟨1,64,rfl,rfl,rfl,by omega,by omega⟩
 rw [e2] at hq hp
 obtain ⟨v,hv⟩:∃ v,ps[i * w0 / 64]? = some v:=⟨_,List.getElem?_eq_getElem hq⟩
 have v0:=h0 _ v hv
 have hwd:wd [L] 0 ((tp:Int)+(i:Int) / each c)=v:=by
  unfold wd
  show (L[((tp:Int)+(i:Int) / each c).toNat]?).getD 0=v
  have:((tp:Int)+(i:Int) / each c).toNat=tp+i * w0 / 64:=by rw [e1,← Int.natCast_ediv,e4];omega
  rw [this,hw _ hq,hv]
  rfl
 rw [hwd]
 unfold Zt6
 rw [hv,Option.getD_some] at hp
 have f1:((i:Int) % each c * wdt c).toNat=i * w0 % 64:=by rw [e1,e3,← Int.natCast_emod,← Int.natCast_mul,e5,Int.toNat_natCast]
 have f2:(wdt c).toNat=w0:=by rw [e3,Int.toNat_natCast]
 rw [f1,f2,← hp,Int.natCast_emod,Int.natCast_ediv,Int.toNat_of_nonneg v0,Int.natCast_pow,Int.natCast_pow]
 rfl
theorem Z6d {c:Int} (h:1≤c∧c≤5) {ns:List Int} (hn:∀ n∈ns,0≤n∧Zbp c n=true):(∀ (q:Nat) (v:Int),(Zaq c ns)[q]? = some v→0≤v)∧(Zaq c ns).length=(ns.length * wid c+63) / 64 ∧
  ∀ (i:Nat) (n:Int),ns[i]? = some n→i * wid c / 64 < (Zaq c ns).length∧((Zaq c ns)[i * wid c / 64]?.getD 0) / 2 ^ (i * wid c % 64) % 2 ^ wid c=n:=by
 have ff:∀ n∈ns,0≤n∧n < 2 ^ wid c:=fun n hm=>⟨(hn n hm).1,by have:=(hn n hm).2;unfold Zbp at this;exact of_decide_eq_true this⟩
 have key:0 < wid c∧∀ i:Nat,i * wid c % 64+wid c≤64:=by
  rcases c5' (c:=c) (by omega) with rfl | rfl | rfl | rfl | rfl | rfl
  ·omega
  ·exact ⟨by decide,fun i=>by show i * 1 % 64+1≤64;omega⟩
  ·exact ⟨by decide,fun i=>by show i * 8 % 64+8≤64;omega⟩
  ·exact ⟨by decide,fun i=>by show i * 16 % 64+16≤64;omega⟩
  ·exact ⟨by decide,fun i=>by show i * 32 % 64+32≤64;omega⟩
  exact ⟨by decide,fun i=>by show i * 64 % 64+64≤64;omega⟩
 have b:=Z09 key.1 key.2 ff
 have e:Zaq c ns=Zef (Zjs (wid c)) (List.replicate ((ns.length * wid c+63) / 64) 0) 0 ns:=by unfold Zaq;rw [if_neg (by omega)]
 rw [e]
 refine ⟨fun q v hv=>(b.1.2 q v hv).1,b.1.1,fun i n hi=>⟨?_,b.2 i n (List.getElem?_eq_some_iff.1 hi).1 hi⟩⟩
 have hl:=(List.getElem?_eq_some_iff.1 hi).1
 have:=Zbi (m:=wid c) hl
 have:=key.1
 rw [b.1.1]
 omega
theorem Z7m {A:Zp} {s a:Int} {x:Xg} (h:fol A.segments s a=(x,0)) (hk:x.P.Kind=2) (hc:¬ x.P.Code=7):atR A s a=(⟨some A,x.P.Code+2,x.Segment,x.At,0,0,x.P.Count,0,0⟩,0):=by
 unfold atR
 rw [h]
 simp only
 rw [if_neg (by omega),if_neg (by omega),if_neg hc]
theorem Z7l {A:Zp} {s a kd n W K:Int} {x:Xg} (h:fol A.segments s a=(x,0)) (hk:x.P.Kind=2) (hc:x.P.Code=7) (ht:dc (wd A.segments x.Segment x.At)=⟨kd,n,W,K,0,0,0,false⟩) (h1:kd=0∨kd=1) (h2:0≤n) (h3:n * (W+K)≤x.P.Count):atR A s a=(⟨some A,9,x.Segment,x.At,W,K,n,0,0⟩,0):=by
 unfold atR
 rw [h]
 simp only
 rw [if_neg (by omega),if_neg (by omega),if_pos hc,ht]
 simp only
 rw [if_neg (by omega)]
theorem Yea {t:Tr} {W K:Nat} (hfr:fr t.Kids=((W:Int),(K:Int))) (hn:t.Kids.length≤200000) (hW:W≤65535) (hK:K≤65535):∃ kd,(kd=0∨kd=1)∧dc (Ycd t W K)=⟨kd,(t.Kids.length:Int),(W:Int),(K:Int),0,0,0,false⟩:=by
 unfold Ycd
 by_cases h0:t.Kids.length=0
 ·have hk:t.Kids=[]:=List.length_eq_zero_iff.1 h0
  rw [hk] at hfr
  have e1:(0:Int)=(W:Int):=congrArg Prod.fst hfr
  have e2:(0:Int)=(K:Int):=congrArg Prod.snd hfr
  rw [← e1,← e2,h0]
  exact ⟨0,.inl rfl,rfl⟩
 have:=dcS (off:=(t.Kids.length:Int)) (data:=(W:Int)) (ptrs:=(K:Int)) (by omega) (by omega) (by omega) (by omega) (by omega) (by omega) (by omega)
 rw [Int.emod_eq_of_lt (by omega) (by omega)] at this
 exact ⟨1,.inr rfl,this⟩
theorem Z06 {W:Nat} {l:List Int} (h:l.length≤W):(Z05 W l).length=W:=by
 unfold Z05
 rw [List.length_append,List.length_replicate]
 omega
theorem Z88 {W j:Nat} {l:List Int} (h:l.length≤W) (hj:j < W):(Z05 W l)[j]? = some (l[j]?.getD 0):=by
 unfold Z05
 by_cases q:j < l.length
 ·rw [List.getElem?_append_left q,List.getElem?_eq_getElem q]
  rfl
 rw [List.getElem?_append_right (by omega),List.getElem?_replicate,if_pos (by omega),List.getElem?_eq_none (by omega)]
 rfl
theorem Z87 {K:Nat} {l:List Tr} (h:l.length≤K):(Zyx K l).length=K:=by
 unfold Zyx
 rw [List.length_append,List.length_replicate]
 omega
theorem Z86 {K j:Nat} {l:List Tr} {x:Tr} (h:(Zyx K l)[j]? = some x):l[j]? = some x∨l.length≤j∧j < K∧x=⟨0,[],[]⟩:=by
 unfold Zyx at h
 by_cases q:j < l.length
 ·rw [List.getElem?_append_left q] at h
  exact .inl h
 rw [List.getElem?_append_right (by omega),List.getElem?_replicate] at h
 split at h
 ·exact .inr ⟨by omega,by omega,(Option.some.inj h).symm⟩
 cases h
theorem Z3j {α:Type} {p:α→Bool} {x:α} (h:p x=true) (l:List α):∀ n:Nat,tr p (l++List.replicate n x)=tr p l
 | 0=>by simp
 | n+1=>by rw [List.replicate_succ',← List.append_assoc,Zj0 h,Z3j h l n]
theorem Z8v {u:Tr} (q:Int×Int) (h:u.Kind=1):nrm (Z04 q u)=nrm u:=by
 rw [Qq (t:=Z04 q u) h,Qq h]
 show (⟨1,tr _ (Z05 q.1.toNat u.Words),tr _ ((Zyx q.2.toNat u.Kids).map nrm)⟩:Tr)=_
 unfold Z05 Zyx
 rw [Z3j rfl,List.map_append,List.map_replicate,U9 rfl,Z3j rfl]
theorem Z8u:∀ (n:Nat) (t:Tr) (d:Nat),SizeOf.sizeOf t < n→rt t d=true→nrm (fm t)=nrm t
 | 0,_,_,h,_=>by omega
 | n+1,t,d,h,hr=>by
  have ih:∀ x∈t.Kids,nrm (fm x)=nrm x:=fun x hx=>Z8u n x (d - 1) (by have:=Xc hx;omega) ((Zuk hr).2.2.2.2 x hx)
  by_cases h0:t.Kind=0
  ·rw [U9 (by rw [Zoq];exact h0),U9 h0]
  by_cases h9:t.Kind=9
  ·rw [V3 (t:=fm t) (by rw [Zoq];exact h0) (by rw [Zoq];omega),V3 h0 (by omega),Zoq,Zz4,Zti h9,List.map_map]
   congr 1
   refine List.map_congr_left fun x hx => ?_
   have k1:=(Vl (by omega) ((Uu hr h0 (by omega)).2.2.2 x hx).2).2 h9
   show nrm (Z04 _ (fm x))=nrm x
   rw [Z8v _ (by rw [Zoq];exact k1),ih x hx]
  have hk:(fm t).Kids.map nrm=t.Kids.map nrm:=by
   rw [Zfb h9,List.map_map]
   exact List.map_congr_left fun x hx=>ih x hx
  by_cases h1:t.Kind=1
  ·rw [Qq (t:=fm t) (by rw [Zoq];exact h1),Qq h1,Zz4,hk]
  rw [V3 (t:=fm t) (by rw [Zoq];exact h0) (by rw [Zoq];exact h1),V3 h0 h1,Zoq,Zz4,hk]
def U6 (l:List Int):Prop:=∀ w∈l,0≤w∧w < 18446744073709551616
theorem Ybt {c:Int} (h:0≤c∧c≤5) {ns:List Int} (hn:∀ n∈ns,0≤n∧Zbp c n=true):U6 (Zaq c ns):=by
 by_cases h0:c=0
 ·unfold Zaq
  rw [if_pos h0]
  intro w hw
  cases hw
 have ff:∀ n∈ns,0≤n∧n < 2 ^ wid c:=fun n hm=>⟨(hn n hm).1,by have:=(hn n hm).2;unfold Zbp at this;exact of_decide_eq_true this⟩
 have key:0 < wid c∧∀ i:Nat,i * wid c % 64+wid c≤64:=by
  rcases c5' h with rfl | rfl | rfl | rfl | rfl | rfl
  ·exact absurd rfl h0
  ·exact ⟨by decide,fun i=>by show i * 1 % 64+1≤64;omega⟩
  ·exact ⟨by decide,fun i=>by show i * 8 % 64+8≤64;omega⟩
  ·exact ⟨by decide,fun i=>by show i * 16 % 64+16≤64;omega⟩
  ·exact ⟨by decide,fun i=>by show i * 32 % 64+32≤64;omega⟩
  exact ⟨by decide,fun i=>by show i * 64 % 64+64≤64;omega⟩
 have b:=Z09 key.1 key.2 ff
 have e:Zaq c ns=Zef (Zjs (wid c)) (List.replicate ((ns.length * wid c+63) / 64) 0) 0 ns:=by unfold Zaq;rw [if_neg h0]
 intro w hw
 rw [e] at hw
 obtain ⟨q,hq⟩:=List.mem_iff_getElem?.1 hw
 obtain ⟨v0,v1⟩:=b.1.2 q w hq
 refine ⟨v0,Int.lt_of_lt_of_le v1 (Int.le_trans (Zpm (b:=64) (by omega)) (by decide))⟩
def nd (t:Tr):Nat:=1+(t.Kids.attach.map fun k=>nd k.1).sum
termination_by SizeOf.sizeOf t
decreasing_by exact Xc k.2
theorem Z4f (t:Tr):nd t=1+(t.Kids.map nd).sum:=by
 rw [nd]
 simp
def ndl (l:List Tr):Nat:=(l.map nd).sum
theorem Z49 {p:Int→Bool} {l:List Int} {i:Nat} (hi:i < (tr p l).length):∃ h:i < l.length,(tr p l)[i]? = some (l[i]'h):=by
 have h:=Zze p l
 have hl:=Ze7 p l
 refine ⟨by omega,?_⟩
 rw [← h,List.getElem?_take,if_pos hi,List.getElem?_eq_getElem (by omega)]
section
variable {A B:Zp}
theorem MR.er {r:Zd} {t:Tr} (h:MR A r t) (i:Nat) (x:Tr) (hx:t.Kids[i]? = some x):(Yq A r i).2=0:=(h.kid hx).1
theorem MR.kidM {r:Zd} {t:Tr} (h:MR A r t) (i:Nat) (x:Tr) (hx:t.Kids[i]? = some x):MR A (Yq A r i).1 x:=(h.kid hx).2
theorem Zzb (hA:WS A.segments) (hB:WS B.segments) {a b:Zd} (ha:OKr A a) (hb:OKr B b):V0 a b=some (tr (fun x=>x == 0) (Yg A a) == tr (fun x=>x == 0) (Yg B b)):=by
 have hle:=Zh3 ha
 have htl:=Ze7 (fun x:Int=>x == 0) (Yg A a)
 unfold V0
 rw [Zo6 hA ha,Option.bind_some,Zo6 hB hb,Option.bind_some,Z8g]
 by_cases hl:(tr (fun x=>x == 0) (Yg B b)).length=(tr (fun x=>x == 0) (Yg A a)).length
 ·rw [show (!((tr (fun x=>x == 0) (Yg B b)).length == (tr (fun x=>x == 0) (Yg A a)).length))=false by simp [hl],cond_false]
  rw [Z8o (tr (fun x=>x == 0) (Yg A a)) (tr (fun x=>x == 0) (Yg B b)) (Kh a b ((tr (fun x=>x == 0) (Yg A a)).length:Int)) (.inl ()) (.inr ()) hl.symm (by omega) (fun i x y hi hx hy=>by
   unfold Kh
   obtain ⟨i1,e1⟩:=Z49 hi
   obtain ⟨i2,e2⟩:=Z49 (l:=Yg B b) (p:=fun x=>x == 0) (i:=i) (by omega)
   rw [e1] at hx
   rw [e2] at hy
   injection hx with hx
   injection hy with hy
   rw [Zt4 hi,cond_true,Zzh hA ha,Option.bind_some,Zzh hB hb,Option.bind_some,← Zr2 hA ha i1,← Zr2 hB hb i2,hx,hy]
   cases x != y <;> rfl) (by unfold Kh;rw [Zt3];rfl)]
  cases tr (fun x=>x == 0) (Yg A a) == tr (fun x=>x == 0) (Yg B b) <;> rfl
 rw [show (!((tr (fun x=>x == 0) (Yg B b)).length == (tr (fun x=>x == 0) (Yg A a)).length))=true by simp [hl],cond_true,Yav (fun q=>hl q.symm)]
def tk (t:Tr):List Tr:=if t.Kind=1 then tr (fun x=>x.Kind == 0) t.Kids else t.Kids
theorem Yad (t:Tr) {i:Nat} {x:Tr} (h:(tk t)[i]? = some x):t.Kids[i]? = some x:=by
 unfold tk at h
 split at h
 ·rw [← Zze,List.getElem?_take] at h
  split at h
  ·exact h
  cases h
 exact h
theorem Ye2 {t x:Tr} (h:x∈tk t):x∈t.Kids:=by
 unfold tk at h
 split at h
 ·exact Zf3 h
 exact h
theorem Yeq (t:Tr):ndl (tk t)+1≤nd t:=by
 rw [Z4f]
 unfold ndl tk
 split
 ·have:=Yae (fun x:Tr=>x.Kind == 0) nd t.Kids
  omega
 omega
theorem Zz0 (hw:WS A.segments) {r:Zd} {t:Tr} (h:MR A r t):Zaf r=some (((tk t).length:Int),0):=by
 have hk:=h.kd
 unfold Zaf tk
 rw [show Yf r=some r.kind from rfl,Option.bind_some,← hk]
 by_cases h1:t.Kind=1
 ·rw [show (t.Kind != 1)=false from by rw [h1];rfl,cond_false,Z7w hw h,if_pos h1]
  rfl
 rw [show (t.Kind != 1)=true from bne_iff_ne.2 h1,cond_true,Zud,if_neg h1,h.len]
 rfl
def eqv (t u:Tr):Bool:=eqT (nrm t) (nrm u)
theorem Z7z {t u:Tr} (h:t.Kind≠u.Kind):eqv t u=false:=by
 unfold eqv
 rw [Zxy,Kv,Kv,beq_eq_false_iff_ne.2 h]
 rfl
theorem MR.w0 {r:Zd} {t:Tr} (h:MR A r t) (h1:t.Kind≠1) (h10:t.Kind≠10):t.Words=[]:=by
 rw [h.ws]
 unfold Yg
 rw [← h.kd,if_neg h10,if_neg h1]
theorem MR.w1 {r:Zd} {t:Tr} (h:MR A r t) (h10:t.Kind=10):∃ x,t.Words=[x]:=by
 rw [h.ws]
 unfold Yg
 rw [← h.kd,if_pos h10]
 exact ⟨_,rfl⟩
theorem MR.k0 {r:Zd} {t:Tr} (h:MR A r t) (h0:t.Kind=0):t.Kids=[]:=by
 have hl:=h.len
 have hz:Ym r=0:=by
  have hk:=h.kd
  have hr:=h.o
  cases hr with
  | z=>rfl
  | st=>simp at hk;omega
  | li k s a n hk'=>simp only at hk;omega
  | co=>simp at hk;omega
  | at_=>simp at hk;omega
 exact List.eq_nil_of_length_eq_zero (by omega)
theorem Ye3 (x y:Int):(tr (fun x=>x == 0) [x] == tr (fun x=>x == 0) [y])=([x] == [y]):=by
 have e:∀ x:Int,tr (fun x=>x == 0) [x]=if x=0 then [] else [x]:=fun x=>by
  rw [Zj1 (l:=[]) rfl]
  simp only [beq_iff_eq]
 rw [e,e]
 by_cases hx:x=0
 ·by_cases hy:y=0
  ·rw [if_pos hx,if_pos hy,hx,hy];rfl
  rw [if_pos hx,if_neg hy,hx]
  rw [Bool.eq_iff_iff,beq_iff_eq,beq_iff_eq]
  exact ⟨fun q=>by (cases q),fun q=>by injection q with q;exact absurd q.symm hy⟩
 by_cases hy:y=0
 ·rw [if_neg hx,if_pos hy,hy]
  rw [Bool.eq_iff_iff,beq_iff_eq,beq_iff_eq]
  exact ⟨fun q=>by (cases q),fun q=>by injection q with q;exact absurd q hx⟩
 rw [if_neg hx,if_neg hy]
theorem Yed {a b:Zd} {t u:Tr} (ha:MR A a t) (hb:MR B b u) (hk:t.Kind=u.Kind):eqv t u=((tr (fun x=>x == 0) t.Words == tr (fun x=>x == 0) u.Words) && eqL ((tk t).map nrm) ((tk u).map nrm)):=by
 unfold eqv
 rw [Zxy,Kv,Kv,beq_iff_eq.2 hk,Bool.true_and]
 by_cases h0:t.Kind=0
 ·have h0':u.Kind=0:=hk ▸ h0
  rw [U9 h0,U9 h0',ha.w0 (by omega) (by omega),hb.w0 (by omega) (by omega)]
  unfold tk
  rw [if_neg (by omega),if_neg (by omega),ha.k0 h0,hb.k0 h0']
  rfl
 by_cases h1:t.Kind=1
 ·have h1':u.Kind=1:=hk ▸ h1
  have q1:∀ l:List Tr,tr (fun x:Tr=>x.Kind == 0) (l.map nrm)=(tr (fun x:Tr=>x.Kind == 0) l).map nrm:=Z3i (fun x=>by rw [Kv])
  rw [Qq h1,Qq h1']
  unfold tk
  rw [if_pos h1,if_pos h1',q1,q1]
 have h0':¬ u.Kind=0:=fun q=>h0 (hk.trans q)
 have h1':¬ u.Kind=1:=fun q=>h1 (hk.trans q)
 rw [V3 h0 h1,V3 h0' h1']
 unfold tk
 rw [if_neg h1,if_neg h1']
 by_cases h10:t.Kind=10
 ·obtain ⟨x,ex⟩:=ha.w1 h10
  obtain ⟨y,ey⟩:=hb.w1 (hk ▸ h10)
  rw [ex,ey,Ye3]
 rw [ha.w0 h1 h10,hb.w0 h1' (fun q=>h10 (hk.trans q))]
 rfl
end
section
variable {A B:Zp}
theorem Zz1 (hA:WS A.segments) (hB:WS B.segments) {F:Zq→Zd→Zd→Option (Bool×Int×Zq)} {a b:Zd} (ha:OKr A a) (hb:OKr B b) {n:Nat} (hn:n≤1073741824) :
  ∀ (ks ls:List Tr) (i:Nat) (c:Int),n=i+ks.length→ks.length=ls.length→(∀ (j:Nat) x,ks[j]? = some x→(Yq A a ((i+j:Nat):Int)).2=0∧MR A (Yq A a ((i+j:Nat):Int)).1 x)→(∀ (j:Nat) x,ls[j]? = some x→(Yq B b ((i+j:Nat):Int)).2=0∧MR B (Yq B b ((i+j:Nat):Int)).1 x) →
   (∀ x∈ks,∀ p q y (c:Int),MR A p x→MR B q y→(nd x:Int)≤c→c≤70000→∃ c',F ⟨c⟩ p q=some (eqv x y,0,⟨c'⟩)∧c - nd x≤c'∧c'≤c)→(ndl ks:Int)≤c→c≤70000 →
   ∃ c',Z6 (Y1 F a b (n:Int)) ((i:Int),c)=some (if eqL (ks.map nrm) (ls.map nrm)=true then .inr c' else .inl (0,c'))∧c - ndl ks≤c'∧c'≤c
 | [],[],i,c,hi,_,_,_,_,hc,hc2=>by
  refine ⟨c,?_,by omega,Int.le_refl _⟩
  refine Yt ?_
  unfold Y1
  simp only [List.length_nil,Nat.add_zero] at hi
  subst hi
  simp only
  rw [Zt3,cond_false]
  rfl
 | [],y::ls,i,c,hi,hl,_,_,_,hc,hc2=>by simp at hl
 | x::ks,[],i,c,hi,hl,_,_,_,hc,hc2=>by simp at hl
 | x::ks,y::ls,i,c,hi,hl,hk,hk',ih,hc,hc2=>by
  obtain ⟨a1,a2⟩:=hk 0 x rfl
  obtain ⟨b1,b2⟩:=hk' 0 y rfl
  rw [Nat.add_zero] at a1 a2 b1 b2
  have hnd:(ndl (x::ks):Int)=nd x+ndl ks:=by unfold ndl;rw [List.map_cons,List.sum_cons];omega
  rw [hnd] at hc ⊢
  obtain ⟨c1,e1,l1,l2⟩:=ih x (.head _) _ _ y c a2 b2 (by omega) hc2
  simp only [List.length_cons] at hi hl
  have hs:Y1 F a b (n:Int) ((i:Int),c)=some (if eqv x y=true then .inl (((i+1:Nat):Int),c1) else .inr (.inl (0,c1))):=by
   unfold Y1
   simp only
   rw [Zt4 (by omega),cond_true,Z2s hA ha,Option.bind_some,a1,show ((0:Int) != 0)=false from rfl,cond_false,Z2s hB hb,Option.bind_some,b1,show ((0:Int) != 0)=false from rfl,cond_false,e1,Option.bind_some]
   simp only
   rw [show ((0:Int) != 0)=false from rfl,Yy (by omega) (by omega)]
   cases eqv x y <;> rfl
  rw [List.map_cons,List.map_cons,Ztf]
  by_cases q:eqv x y=true
  ·rw [if_pos q] at hs
   rw [X9 hs]
   obtain ⟨c',f1,f2,f3⟩:=Zz1 hA hB ha hb hn ks ls (i+1) c1 (by omega) (by omega) (fun j x hx=>by
    have:=hk (j+1) x hx
    rw [show i+1+j=i+(j+1) by omega]
    exact this) (fun j x hx=>by
    have:=hk' (j+1) x hx
    rw [show i+1+j=i+(j+1) by omega]
    exact this) (fun z hz=>ih z (.tail _ hz)) (by omega) (by omega)
   refine ⟨c',?_,by omega,by omega⟩
   rw [f1,show eqT (nrm x) (nrm y)=true from q,Bool.true_and]
  rw [if_neg q] at hs
  have hndl:0≤(ndl ks:Int):=by omega
  refine ⟨c1,?_,by omega,l2⟩
  rw [Yt hs,show eqT (nrm x) (nrm y)=false from by unfold eqv at q;simpa using q,Bool.false_and,if_neg (by decide)]
theorem Yep (t:Tr):1≤nd t:=by rw [Z4f];omega
theorem Ycq (hA:WS A.segments) (hB:WS B.segments):∀ (K:Nat),(∀ a b t u (c:Int),MR A a t→MR B b u→2 * SizeOf.sizeOf t+1 < K→(nd t:Int)≤c→c≤70000→∃ c',(Z0 K).1 ⟨c⟩ a b=some (eqv t u,0,⟨c'⟩)∧c - nd t≤c'∧c'≤c) ∧
  (∀ a b t u (c:Int),MR A a t→MR B b u→2 * SizeOf.sizeOf t < K→(tk t).length=(tk u).length→(ndl (tk t):Int)≤c→c≤70000→∃ c',(Z0 K).2 ⟨c⟩ a b ((tk t).length:Int)=some (eqL ((tk t).map nrm) ((tk u).map nrm),0,⟨c'⟩)∧c - ndl (tk t)≤c'∧c'≤c)
 | 0=>⟨fun a b t u c _ _ h=>by omega,fun a b t u c _ _ h=>by omega⟩
 | K+1=>by
  obtain ⟨i1,i2⟩:=Ycq hA hB K
  refine ⟨fun a b t u c ha hb hK hc hc2 => ?_,fun a b t u c ha hb hK hl hc hc2 => ?_⟩
  ·show ∃ c',Xt (Z0 K).1 (Z0 K).2 ⟨c⟩ a b=_∧_
   have hp:=Yep t
   have hp2:=Yeq t
   unfold Xt
   simp only
   rw [Um (show ¬ c=0 by omega),cond_false,show Yf a=some a.kind from rfl,show Yf b=some b.kind from rfl,Option.bind_some,Option.bind_some,← ha.kd,← hb.kd,Yy (x:=c - 1) (by omega) (by omega),Zzb hA hB ha.o hb.o]
   by_cases hk:t.Kind=u.Kind
   ·rw [show (t.Kind != u.Kind)=false from bne_eq_false_iff_eq.2 hk,cond_false,Option.bind_some,cond_false,Option.bind_some,Yed ha hb hk,← ha.ws,← hb.ws]
    cases hw:tr (fun x=>x == 0) t.Words == tr (fun x=>x == 0) u.Words with
    | false=>exact ⟨c - 1,rfl,by omega,by omega⟩
    | true =>
     simp only [Bool.not_true,cond_false,Bool.true_and]
     rw [Zz0 hA ha,Option.bind_some]
     simp only
     rw [show ((0:Int) != 0)=false from rfl,cond_false,Zz0 hB hb,Option.bind_some]
     simp only
     rw [show ((0:Int) != 0)=false from rfl,cond_false,Z8g]
     by_cases hl:(tk t).length=(tk u).length
     ·rw [show (!((tk t).length == (tk u).length))=false by simp [hl],cond_false]
      obtain ⟨c',e1,e2,e3⟩:=i2 a b t u (c - 1) ha hb (by omega) hl (by omega) (by omega)
      refine ⟨c',?_,by omega,by omega⟩
      rw [e1]
      rfl
     rw [show (!((tk t).length == (tk u).length))=true by simp [hl],cond_true,Z3y _ _ (by simpa using hl)]
     exact ⟨c - 1,rfl,by omega,by omega⟩
   rw [bne_iff_ne.2 hk,cond_true,Option.bind_some,cond_true,Z7z hk]
   exact ⟨c - 1,rfl,by omega,by omega⟩
  show ∃ c',Y3 (Z0 K).1 (Z0 K).2 ⟨c⟩ a b _=_∧_
  have hkn:=Zeo ha.o
  have hln:=ha.len
  have htk:(tk t).length≤t.Kids.length:=by
   unfold tk
   split
   ·exact Ze7 _ _
   exact Nat.le_refl _
  obtain ⟨c',e1,e2,e3⟩:=Zz1 hA hB (F:=(Z0 K).1) ha.o hb.o (n:=(tk t).length) (by omega) (tk t) (tk u) 0 c (by omega) hl (fun j x hx=>by
   have:=Yad t hx
   rw [Nat.zero_add]
   exact ⟨ha.er j x this,ha.kidM j x this⟩) (fun j x hx=>by
   have:=Yad u hx
   rw [Nat.zero_add]
   exact ⟨hb.er j x this,hb.kidM j x this⟩) (fun x hx p q y c hp hq h1 h2=>i1 p q x y c hp hq (by have:=Xc (Ye2 hx);omega) h1 h2) hc hc2
  unfold Y3
  rw [show (((0:Nat)):Int)=0 from rfl] at e1
  refine ⟨c',?_,e2,e3⟩
  simp only
  rw [e1]
  cases eqL ((tk t).map nrm) ((tk u).map nrm) <;> rfl
theorem Z3z:∀ (k:Nat),LE3 (Z0 k).1 (Z0 (k+1)).1∧∀ x y z w r,(Z0 k).2 x y z w=some r→(Z0 (k+1)).2 x y z w=some r
 | 0=>⟨fun x y z r h=>(by cases h),fun x y z w r h=>(by cases h)⟩
 | k+1=>by
  obtain ⟨i1,i2⟩:=Z3z k
  refine ⟨fun x y z r h => ?_,fun x y z w r h => ?_⟩
  ·have h':Xt (Z0 k).1 (Z0 k).2 x y z=some r:=h
   show Xt (Z0 (k+1)).1 (Z0 (k+1)).2 x y z=some r
   unfold Xt at h' ⊢
   refine Zh7 _ (fun _ h=>h) (fun r h=>Zfa (fun _ h=>h) (fun z r h=>Zh7 _ (fun _ h=>h) (fun r h=>Zfa (fun _ h=>h) (fun z r h=>Zh7 _ (fun _ h=>h) (fun r h=>Zfa (fun _ h=>h) (fun z r h=>Zh7 _ (fun _ h=>h) (fun r h=>Zfa (fun z h=>i2 _ _ _ _ _ h) (fun _ _ h=>h) h) r h) h) r h) h) r h) h) r h'
  have h':Y3 (Z0 k).1 (Z0 k).2 x y z w=some r:=h
  show Y3 (Z0 (k+1)).1 (Z0 (k+1)).2 x y z w=some r
  unfold Y3 at h' ⊢
  refine Zfa (fun q h=>Z3b (fun s q h => ?_) h) (fun _ _ h=>h) h'
  unfold Y1 at h ⊢
  refine Zh7 _ (fun r h=>Zfa (fun _ h=>h) (fun z r h=>Zh7 _ (fun _ h=>h) (fun r h=>Zfa (fun _ h=>h) (fun z r h=>Zh7 _ (fun _ h=>h) (fun r h=>Zfa (fun q h=>i1 _ _ _ _ h) (fun _ _ h=>h) h) r h) h) r h) h) (fun _ h=>h) q h
theorem Zum (hA:WS A.segments) (hB:WS B.segments) {a b:Zd} {t u:Tr} (ha:MR A a t) (hb:MR B b u) (hn:(nd t:Int)≤65537):Vc a b=some (eqv t u,0):=by
 obtain ⟨c',e1,_⟩:=(Ycq hA hB (2 * SizeOf.sizeOf t+2)).1 a b t u 65537 ha hb (by omega) hn (by omega)
 have:Gk ⟨65537⟩ a b=some (eqv t u,0,⟨c'⟩):=Z8k (fun k r h=>(Z3z k).1 _ _ _ r h) e1
 unfold Vc
 rw [this]
 rfl
end
theorem Yeh:fol [[4294967296,7]] 0 0=(⟨⟨1,0,1,0,0,0,0,false⟩,0,1⟩,0):=rfl
theorem Yei:fol [[4294967296,8]] 0 0=(⟨⟨1,0,1,0,0,0,0,false⟩,0,1⟩,0):=rfl
theorem Z4c {A:Zp} {r:Zd} {ws:List Int} (hr:OKr A r) (h1:r.kind=1) (h2:Yg A r=ws) (h3:r.ptrs=0):MR A r ⟨1,ws,[]⟩ :=
 .mk _ _ hr h1.symm h2.symm (by unfold Ym;rw [if_pos h1,h3];rfl) (fun i x hx=>by simp at hx) (fun i x hx=>by simp at hx)
theorem Z3r:(atR ⟨[[4294967296,7]],0,0⟩ 0 0).1=⟨some ⟨[[4294967296,7]],0,0⟩,1,0,1,1,0,0,0,0⟩:=by
 unfold atR
 simp only
 rw [Yeh]
 rfl
theorem Z3s:(atR ⟨[[4294967296,8]],0,0⟩ 0 0).1=⟨some ⟨[[4294967296,8]],0,0⟩,1,0,1,1,0,0,0,0⟩:=by
 unfold atR
 simp only
 rw [Yei]
 rfl
theorem Yfl:MR ⟨[[4294967296,7]],0,0⟩ (atR ⟨[[4294967296,7]],0,0⟩ 0 0).1 ⟨1,[7],[]⟩:=by
 refine Z4c (Zdd 0 0) ?_ ?_ ?_ <;> rw [Z3r] <;> rfl
theorem Yfm:MR ⟨[[4294967296,8]],0,0⟩ (atR ⟨[[4294967296,8]],0,0⟩ 0 0).1 ⟨1,[8],[]⟩:=by
 refine Z4c (Zdd 0 0) ?_ ?_ ?_ <;> rw [Z3s] <;> rfl
theorem Ybf (ws:List Int):nd ⟨1,ws,[]⟩=1:=by rw [Z4f];rfl
theorem Yec:eqv ⟨1,[7],[]⟩ ⟨1,[8],[]⟩=false:=by
 unfold eqv
 rw [Qq rfl,Qq rfl,Zxy]
 rfl
theorem Z70 (t:Tr):eqv t t=true:=Z7y _
end Go.Proofs.YtmjjjfamipncdaaGreat
