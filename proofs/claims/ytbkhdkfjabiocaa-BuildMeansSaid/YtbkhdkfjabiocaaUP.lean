/- Plain facts on this seat's mirrors (part UP); each theorem bears its own conditions. -/
import Derived.Test.YtbkhdkfjabiocaaUD
namespace Go.Proofs.Ytbkhdkfjabiocaa
open Go.RowKit
set_option linter.unusedVariables false
set_option linter.unusedSimpArgs false
theorem Vu {a b:Int} (h:¬ a=b):(a == b)=false:=by simp [h]
def Zox (w:Nat):Int:=if w / 4 % 1073741824 < 536870912 then ((w / 4 % 1073741824:Nat):Int) else ((w / 4 % 1073741824:Nat):Int) - 1073741824
def Ze5 (w:Nat):Zx :=
 if w=0 then ⟨0,0,0,0,0,0,0,false⟩
 else if w % 4=0 then ⟨1,Zox w,(w / 4294967296 % 65536:Nat),(w / 281474976710656 % 65536:Nat),0,0,0,false⟩
 else if w % 4=1 then ⟨2,Zox w,0,0,(w / 4294967296 % 8:Nat),(w / 34359738368 % 536870912:Nat),0,false⟩
 else if w % 4=2 then ⟨3,(w / 8 % 536870912:Nat),0,0,0,0,(w / 4294967296 % 4294967296:Nat),decide (w / 4 % 2=1)⟩
 else ⟨4,0,0,0,0,0,0,false⟩
theorem Zzj (b:Nat):((2:Int) ^ b)=((2 ^ b:Nat):Int):=by simp
theorem Zl5 (w f b:Nat) (hw:w < 18446744073709551616) (hf:f < 64) (hb:b≤40):X0 w f b=some ((w / 2 ^ f % 2 ^ b:Nat):Int):=by
 unfold X0 Ja
 rw [if_pos (Int.natCast_nonneg _),if_pos (Int.natCast_nonneg _)]
 simp only [Option.bind_some,Option.some.injEq]
 have hp:(2:Nat) ^ b≤1099511627776:=by have:=Nat.pow_le_pow_right (n:=2) (by decide) hb;simpa using this
 have h1:0 < (2:Nat) ^ b:=Nat.pow_pos (by decide)
 have e1:(min ((f:Int).toNat) 64)=f:=by omega
 have e2:(min ((b:Int).toNat) 64)=b:=by omega
 have hd:w / 2 ^ f < 18446744073709551616:=Nat.lt_of_le_of_lt (Nat.div_le_self _ _) hw
 have e3:((w:Int).fdiv ((2 ^ f:Nat):Int))=((w / 2 ^ f:Nat):Int):=by
  rw [Int.fdiv_eq_ediv_of_nonneg _ (Int.natCast_nonneg _),Int.natCast_ediv]
 rw [e1,e2,Zzj,Zzj,e3]
 clear e3
 generalize hq:2 ^ b=q at *
 generalize w / 2 ^ f=x at *
 rw [Int.one_mul,IntWalk.u64_in (q:Int) (by omega),IntWalk.u64_in ((q:Int) - 1) (by omega)]
 have e4:((q:Int) - 1)=((q - 1:Nat):Int):=by omega
 rw [e4,Z3e _ _ hd (by omega),← hq,Nat.and_two_pow_sub_one_eq_mod,hq]
 have:x % q < q:=Nat.mod_lt _ h1
 rw [IntWalk.u64_in _ (by omega),IntWalk.i64_in _ (by omega)]
theorem Ycc (w:Nat) (hw:w < 18446744073709551616):IntKind.i64.wrap ((IntKind.i32.wrap (IntKind.u32.wrap (w:Int))).fdiv (2 ^ min (Int.toNat 2) 32))=Zox w:=by
 have e:(2:Int) ^ min (Int.toNat 2) 32=4:=by decide
 rw [e,Int.fdiv_eq_ediv_of_nonneg _ (by decide),IntKind.wrap_u32,IntKind.wrap_i32]
 unfold Zox
 rw [IntWalk.i64_in _ (by omega)]
 split <;> omega
theorem Z75 (w:Nat) (hw:w < 18446744073709551616):Zde w=some (Zox w):=congrArg some (Ycc w hw)
theorem Yd5 (w:Nat) (hw:w < 18446744073709551616):IntKind.u64.wrap (Zaz .u64 w 3)=((w % 4:Nat):Int):=by
 have:=Z3e w 3 hw (by decide)
 rw [show ((3:Nat):Int)=3 from rfl] at this
 rw [this,show (3:Nat)=2 ^ 2 - 1 from rfl,Nat.and_two_pow_sub_one_eq_mod,IntWalk.u64_in _ (by omega)]
theorem Yd8 (w:Nat) (hw:w < 18446744073709551616):(IntKind.u64.wrap (Zaz .u64 ((w:Int).fdiv (2 ^ min (Int.toNat 2) 64)) 1) == 1)=decide (w / 4 % 2=1):=by
 have e1:(2:Int) ^ min (Int.toNat 2) 64=4:=by decide
 have e2:((w:Int).fdiv 4)=((w / 4:Nat):Int):=by rw [Int.fdiv_eq_ediv_of_nonneg _ (by decide)];rfl
 have e3:=Z3e (w / 4) 1 (by omega) (by decide)
 rw [show ((1:Nat):Int)=1 from rfl,Nat.and_one_is_mod] at e3
 rw [e1,e2,e3,IntWalk.u64_in _ (by omega)]
 by_cases h:w / 4 % 2=1
 ·rw [h];decide
 have:w / 4 % 2=0:=by omega
 rw [this];decide
theorem Z9h (a:Nat) (b:Nat):((a:Int) == (b:Int))=decide (a=b):=by
 by_cases h:a=b
 ·subst h;simp
 simp [h,Int.natCast_inj]
theorem Z0o (w:Nat) (hw:w < 18446744073709551616):Jx w=some (Ze5 w):=by
 unfold Jx
 have f1:X0 w 32 16=_:=Zl5 w 32 16 hw (by decide) (by decide)
 have f2:X0 w 48 16=_:=Zl5 w 48 16 hw (by decide) (by decide)
 have f3:X0 w 32 3=_:=Zl5 w 32 3 hw (by decide) (by decide)
 have f4:X0 w 35 29=_:=Zl5 w 35 29 hw (by decide) (by decide)
 have f5:X0 w 3 29=_:=Zl5 w 3 29 hw (by decide) (by decide)
 have f6:X0 w 32 32=_:=Zl5 w 32 32 hw (by decide) (by decide)
 have c0:((w:Int) == 0)=_:=Z9h w 0
 have c1:(((w % 4:Nat):Int) == 0)=_:=Z9h (w % 4) 0
 have c2:(((w % 4:Nat):Int) == 1)=_:=Z9h (w % 4) 1
 have c3:(((w % 4:Nat):Int) == 2)=_:=Z9h (w % 4) 2
 rw [Yd5 w hw,Z75 w hw,f1,f2,f3,f4,f5,f6,Yd8 w hw,c0,c1,c2,c3]
 simp only [Option.bind_some]
 unfold Ze5
 by_cases h0:w=0
 ·simp [h0]
 by_cases h1:w % 4=0
 ·simp [h0,h1]
 by_cases h2:w % 4=1
 ·simp [h0,h2]
 by_cases h3:w % 4=2
 ·simp [h0,h3]
 simp [h0,h1,h2,h3]
theorem Zlu (k a b:Nat) (h:a < 2 ^ k):a ||| (b * 2 ^ k)=a+b * 2 ^ k:=by
 rw [Nat.or_comm,Nat.mul_comm,← Nat.two_pow_add_eq_or_of_lt h,Nat.add_comm]
def Zzc (p:Zx):Int :=
 if p.Kind=1 then IntKind.u64.wrap (Zar .u64 (IntKind.u64.wrap (Zar .u64 (IntKind.u64.wrap (IntKind.u32.wrap (IntKind.u32.wrap p.Off * 2 ^ min (Int.toNat 2) 32))) (IntKind.u64.wrap (IntKind.u64.wrap p.Data * 2 ^ min (Int.toNat 32) 64)))) (IntKind.u64.wrap (IntKind.u64.wrap p.Ptrs * 2 ^ min (Int.toNat 48) 64)))
 else if p.Kind=2 then IntKind.u64.wrap (Zar .u64 (IntKind.u64.wrap (Zar .u64 (IntKind.u64.wrap (Zar .u64 1 (IntKind.u64.wrap (IntKind.u32.wrap (IntKind.u32.wrap p.Off * 2 ^ min (Int.toNat 2) 32))))) (IntKind.u64.wrap (IntKind.u64.wrap p.Code * 2 ^ min (Int.toNat 32) 64)))) (IntKind.u64.wrap (IntKind.u64.wrap p.Count * 2 ^ min (Int.toNat 35) 64)))
 else if p.Kind=3 then
  if p.Double=true then IntKind.u64.wrap (Zar .u64 (IntKind.u64.wrap (Zar .u64 (IntKind.u64.wrap (Zar .u64 2 (IntKind.u64.wrap (IntKind.u64.wrap p.Off * 2 ^ min (Int.toNat 3) 64)))) (IntKind.u64.wrap (IntKind.u64.wrap p.Segment * 2 ^ min (Int.toNat 32) 64)))) 4)
  else IntKind.u64.wrap (Zar .u64 (IntKind.u64.wrap (Zar .u64 2 (IntKind.u64.wrap (IntKind.u64.wrap p.Off * 2 ^ min (Int.toNat 3) 64)))) (IntKind.u64.wrap (IntKind.u64.wrap p.Segment * 2 ^ min (Int.toNat 32) 64)))
 else 0
theorem Yc1 (p:Zx):Zi6 p=some (Zzc p):=by
 unfold Zi6 Zzc
 by_cases h1:p.Kind=1
 ·simp [h1]
 by_cases h2:p.Kind=2
 ·simp [h2]
 by_cases h3:p.Kind=3
 ·by_cases hd:p.Double=true <;> simp [h3,hd]
 simp [h1,h2,h3,Vu h1,Vu h2,Vu h3]
theorem Zz9 (x:Int):∃ w:Nat,IntKind.u64.wrap x=(w:Int)∧w < 18446744073709551616:=by
 refine ⟨(x % 18446744073709551616).toNat,?_,by omega⟩
 simp [IntKind.wrap,IntKind.bits,IntKind.signed]
 omega
theorem Z7i (p:Zx):∃ w:Nat,Zzc p=(w:Int)∧w < 18446744073709551616:=by
 unfold Zzc
 split
 ·exact Zz9 _
 split
 ·exact Zz9 _
 split
 ·split <;> exact Zz9 _
 exact ⟨0,rfl,by decide⟩
theorem Z81 (x:Nat) (h:x < 18446744073709551616):IntKind.u64.wrap (x:Int)=(x:Int):=IntWalk.u64_in _ (by omega)
theorem Z80 (w:Nat):IntKind.u64.wrap (IntKind.u32.wrap (IntKind.u32.wrap (Zox w) * 2 ^ min (Int.toNat 2) 32))=((w / 4 % 1073741824 * 2 ^ 2:Nat):Int):=by
 have e:(2:Int) ^ min (Int.toNat 2) 32=4:=by decide
 rw [e,IntKind.wrap_u32,IntKind.wrap_u32]
 unfold Zox
 rw [IntWalk.u64_in _ (by omega)]
 split <;> omega
theorem Zki (x y:Nat) (hx:x < 18446744073709551616) (hy:y < 18446744073709551616):IntKind.u64.wrap (Zar .u64 x y)=((x ||| y:Nat):Int):=by
 rw [Yc2 x y hx hy,Z81 _ (by have:=Nat.or_lt_two_pow (n:=64) (show x < 2 ^ 64 by omega) (show y < 2 ^ 64 by omega);omega)]
theorem Zxi (x k:Nat) (hx:x < 18446744073709551616) (hk:k≤64) (h:x * 2 ^ k < 18446744073709551616):IntKind.u64.wrap (IntKind.u64.wrap (x:Int) * 2 ^ min (Int.toNat (k:Int)) 64)=((x * 2 ^ k:Nat):Int):=by
 have e:min (Int.toNat (k:Int)) 64=k:=by omega
 have e2:((x:Int) * (2:Int) ^ k)=((x * 2 ^ k:Nat):Int):=by simp
 rw [Z81 x hx,e,e2,Z81 _ h]
theorem Z9v (w:Nat) (hw:w < 18446744073709551616) (h3:¬ (Ze5 w).Kind=4):Zzc (Ze5 w)=(w:Int):=by
 by_cases h0:w=0
 ·subst h0;rfl
 by_cases h1:w % 4=0
 ·have e:Ze5 w=⟨1,Zox w,(w / 4294967296 % 65536:Nat),(w / 281474976710656 % 65536:Nat),0,0,0,false⟩:=by simp [Ze5,h0,h1]
  rw [e]
  unfold Zzc
  rw [if_pos rfl]
  simp only
  have s1:=Zxi (w / 4294967296 % 65536) 32 (by omega) (by decide) (by omega)
  have s2:=Zxi (w / 281474976710656 % 65536) 48 (by omega) (by decide) (by omega)
  rw [show ((32:Nat):Int)=32 from rfl] at s1
  rw [show ((48:Nat):Int)=48 from rfl] at s2
  rw [Z80,s1,s2,Zki _ _ (by omega) (by omega),Zlu 32 _ _ (by omega),Zki _ _ (by omega) (by omega),Zlu 48 _ _ (by omega)]
  omega
 by_cases h2:w % 4=1
 ·have e:Ze5 w=⟨2,Zox w,0,0,(w / 4294967296 % 8:Nat),(w / 34359738368 % 536870912:Nat),0,false⟩:=by simp [Ze5,h0,h1,h2]
  rw [e]
  unfold Zzc
  rw [if_neg (by simp),if_pos rfl]
  simp only
  have s1:=Zxi (w / 4294967296 % 8) 32 (by omega) (by decide) (by omega)
  have s2:=Zxi (w / 34359738368 % 536870912) 35 (by omega) (by decide) (by omega)
  rw [show ((32:Nat):Int)=32 from rfl] at s1
  rw [show ((35:Nat):Int)=35 from rfl] at s2
  have l1:=Zki 1 (w / 4 % 1073741824 * 2 ^ 2) (by decide) (by omega)
  rw [show ((1:Nat):Int)=1 from rfl,Zlu 2 1 _ (by decide)] at l1
  rw [Z80,s1,s2,l1,Zki _ _ (by omega) (by omega),Zlu 32 _ _ (by omega),Zki _ _ (by omega) (by omega),Zlu 35 _ _ (by omega)]
  omega
 by_cases h4:w % 4=2
 ·have e:Ze5 w=⟨3,(w / 8 % 536870912:Nat),0,0,0,0,(w / 4294967296 % 4294967296:Nat),decide (w / 4 % 2=1)⟩:=by simp [Ze5,h0,h1,h2,h4]
  rw [e]
  unfold Zzc
  rw [if_neg (by simp),if_neg (by simp),if_pos rfl]
  simp only
  have s1:=Zxi (w / 8 % 536870912) 3 (by omega) (by decide) (by omega)
  have s2:=Zxi (w / 4294967296 % 4294967296) 32 (by omega) (by decide) (by omega)
  rw [show ((3:Nat):Int)=3 from rfl] at s1
  rw [show ((32:Nat):Int)=32 from rfl] at s2
  have l1:=Zki 2 (w / 8 % 536870912 * 2 ^ 3) (by decide) (by omega)
  rw [show ((2:Nat):Int)=2 from rfl,Zlu 3 2 _ (by decide)] at l1
  rw [s1,s2,l1,Zki _ _ (by omega) (by omega),Zlu 32 _ _ (by omega)]
  by_cases hb:w / 4 % 2=1
  ·rw [if_pos (by simpa using hb)]
   have l2:=Zki (2+w / 8 % 536870912 * 2 ^ 3+w / 4294967296 % 4294967296 * 2 ^ 32) 4 (by omega) (by decide)
   rw [show ((4:Nat):Int)=4 from rfl] at l2
   rw [l2]
   have:(2+w / 8 % 536870912 * 2 ^ 3+w / 4294967296 % 4294967296 * 2 ^ 32) ||| 4=2+w / 8 % 536870912 * 2 ^ 3+w / 4294967296 % 4294967296 * 2 ^ 32+4:=by
    have e1:2+w / 8 % 536870912 * 2 ^ 3+w / 4294967296 % 4294967296 * 2 ^ 32=2 ^ 3 * (w / 8 % 536870912+w / 4294967296 % 4294967296 * 2 ^ 29)+2:=by omega
    rw [e1]
    generalize w / 8 % 536870912+w / 4294967296 % 4294967296 * 2 ^ 29=q
    conv=>lhs;rw [Nat.two_pow_add_eq_or_of_lt (by decide),Nat.or_assoc,show (2 ||| 4:Nat)=6 from rfl,← Nat.two_pow_add_eq_or_of_lt (by decide)]
   rw [this]
   omega
  rw [if_neg (by simpa using hb)]
  omega
 exact absurd (by simp [Ze5,h0,h1,h2,h4]) h3
theorem Yad (p q:Zx):((p.Kind == q.Kind) && ((p.Off == q.Off) && ((p.Data == q.Data) && ((p.Ptrs == q.Ptrs) && ((p.Code == q.Code) && ((p.Count == q.Count) && ((p.Segment == q.Segment) && (p.Double == q.Double))))))))=true↔p=q:=by
 cases p;cases q
 simp [and_assoc]
open Classical in
/-- what 'Encode' tells -/
theorem Z60 (p:Zx):∃ w:Nat,w < 18446744073709551616∧Zzc p=(w:Int)∧Ve p=some ((w:Int),decide (p.Kind≠4∧Ze5 w=p)):=by
 obtain ⟨w,hw,hlt⟩:=Z7i p
 refine ⟨w,hlt,hw,?_⟩
 unfold Ve
 rw [Yc1,hw]
 simp only [Option.bind_some,Z0o w hlt]
 by_cases h4:p.Kind=4
 ·simp [h4]
 have hk:(p.Kind != 4)=true:=by simp [h4]
 rw [hk]
 simp only [cond_true,Option.bind_some,Option.some.injEq,Prod.mk.injEq,true_and]
 rw [Bool.eq_iff_iff,Yad]
 simp [h4]
theorem Zph (w:Nat) (hw:w < 18446744073709551616) (h:¬ (Ze5 w).Kind=4):Ve (Ze5 w)=some ((w:Int),true):=by
 obtain ⟨v,hv,h1,h2⟩:=Z60 (Ze5 w)
 have:v=w:=by have:=Z9v w hw h;omega
 subst this
 rw [h2]
 simp [h]
theorem Xc {x:Int} (h1:-9223372036854775808≤x) (h2:x≤9223372036854775807):IntKind.i64.wrap x=x:=Zcv ⟨h1,h2⟩
theorem Zow {i n:Nat} (h:i < n):decide ((i:Int) < (n:Int))=true:=by rw [decide_eq_true_eq];omega
theorem Zov {n:Nat}:decide ((n:Int) < (n:Int))=false:=by rw [decide_eq_false_iff_not];omega
structure WS (l:List (List Int)):Prop where
 n:l.length * 24≤140737488355328
 s:∀ x∈l,x.length * 8≤140737488355328
 w:∀ x∈l,∀ w∈x,0≤w∧w < 18446744073709551616
theorem Zxf {l:List Int} (h:l.length * 8≤140737488355328):Xd l=some l:=by
 unfold Xd
 rw [Zbc (by simp only [List.length_nil];omega) (by simp only [List.length_nil];omega),List.nil_append]
theorem Z8t {α:Type} (l:List α) (n:Nat) (v:α):Xr l (n:Int) v=l.set n v:=by unfold Xr;rw [Int.toNat_natCast]
theorem Ztf {l:List (List Int)} (h:WS l):∀ (r:List (List Int)) (i:Nat),l.drop i=r→i≤l.length →
  Z8 (Vj l) ((i:Int),l.take i++List.replicate r.length [])=some l
 | [],i,hd,hi=>by
  have hl:i=l.length:=by
   have:=congrArg List.length hd
   rw [List.length_drop,List.length_nil] at this;omega
  subst hl
  refine Y7 ?_
  unfold Vj
  simp only
  rw [Zov,cond_false]
  simp
 | x::r,i,hd,hi=>by
  have hi':i < l.length:=by
   rcases Nat.lt_or_ge i l.length with q | q
   ·exact q
   rw [List.drop_eq_nil_of_le q] at hd;cases hd
  have hx:l[i]? = some x:=by
   have:=congrArg (·[0]?) hd
   simpa using this
  have hm:=List.mem_of_getElem? hx
  have hd':l.drop (i+1)=r:=by
   have:=congrArg (List.drop 1) hd
   rw [List.drop_drop] at this
   simpa [Nat.add_comm] using this
  have hn:=h.n
  have hlen:(l.take i).length=i:=by rw [List.length_take];omega
  have hg:Z6 (l.take i++List.replicate (r.length+1) []) (i:Int)=some ([]:List Int):=Jr (by rw [List.getElem?_append_right (by omega),hlen,Nat.sub_self];rfl)
  have hstep:Vj l ((i:Int),l.take i++List.replicate (r.length+1) [])=some (.inl (((i+1:Nat):Int),l.take (i+1)++List.replicate r.length [])):=by
   unfold Vj
   simp only
   rw [Zow hi',cond_true,Jr hx,Option.bind_some,Zxf (h.s x hm),Option.bind_some,hg,Option.bind_some,Xc (by omega) (by omega),Z8t,List.set_append_right _ _ (by omega),hlen,Nat.sub_self,List.replicate_succ,List.set_cons_zero,List.take_add_one,hx,List.append_assoc]
   rfl
  rw [List.length_cons,Qw hstep]
  exact Ztf h r (i+1) hd' (by omega)
theorem Zrk {l:List (List Int)} (h:WS l):Zac l=some l:=by
 have hn:=h.n
 have:=Ztf h l 0 rfl (Nat.zero_le _)
 rw [List.take_zero,List.nil_append,show (((0:Nat):Int))=0 from rfl] at this
 unfold Zac
 rw [Zu5 (by omega) (by omega) (by omega),Option.bind_some,Int.toNat_natCast,this]
 rfl
theorem Ybm {l:List (List Int)} (h:WS l):Zgz l=some (some ⟨l,0,0⟩):=by
 unfold Zgz
 rw [Zrk h,Option.bind_some]
def seg (l:List (List Int)) (s:Int):List Int:=(l[s.toNat]?).getD []
def inB (l:List (List Int)) (s a n:Int):Bool:=decide (0≤s) && (decide (s < l.length) && (decide (0≤a) && (decide (0≤n) && decide (a+n≤(seg l s).length))))
theorem inB_iff {l:List (List Int)} {s a n:Int}:inB l s a n=true↔0≤s∧s < l.length∧0≤a∧0≤n∧a+n≤(seg l s).length:=by
 unfold inB
 simp only [Bool.and_eq_true,decide_eq_true_eq]
theorem Zz0 {l:List (List Int)} {s:Int} (h0:0≤s) (h1:s < l.length):Z6 l s=some (seg l s)∧seg l s∈l:=by
 have hs:s.toNat < l.length:=by omega
 unfold seg Z6
 rw [if_pos h0,List.getElem?_eq_getElem hs]
 exact ⟨rfl,List.getElem_mem hs⟩
def wd (l:List (List Int)) (s a:Int):Int:=((seg l s)[a.toNat]?).getD 0
theorem Yck {l:List (List Int)} {s a:Int} (h:inB l s a 1=true):Z6 (seg l s) a=some (wd l s a)∧wd l s a∈seg l s:=by
 rw [inB_iff] at h
 have ha:a.toNat < (seg l s).length:=by omega
 unfold wd Z6
 rw [if_pos h.2.2.1,List.getElem?_eq_getElem ha]
 exact ⟨rfl,List.getElem_mem ha⟩
theorem Zv1 {l:List (List Int)} (hw:WS l) (s a:Int):0≤wd l s a∧wd l s a < 18446744073709551616:=by
 unfold wd
 cases h:(seg l s)[a.toNat]? with
 | none=>simp
 | some w =>
  have hm:=List.mem_of_getElem? h
  unfold seg at hm
  cases hs:l[s.toNat]? with
  | none=>rw [hs] at hm;cases hm
  | some x=>rw [hs] at hm;exact hw.w x (List.mem_of_getElem? hs) w hm
theorem Zub {l:List (List Int)} (hw:WS l) (s:Int):(seg l s).length * 8≤140737488355328:=by
 unfold seg
 cases hs:l[s.toNat]? with
 | none=>simp
 | some x=>exact hw.s x (List.mem_of_getElem? hs)
section
variable {A:Zm}
theorem Z9e:Ui (some A)=some (A.segments.length:Int):=rfl
theorem Zwo (s:Int):Xz (some A) s=some (decide (0≤s) && decide (s < A.segments.length)):=by
 unfold Xz
 rw [Z9e,Option.bind_some]
 cases decide (0≤s) <;> rfl
theorem Z6p (s:Int):Jg (some A) s=some (if 0≤s∧s < A.segments.length then ((seg A.segments s).length:Int) else 0):=by
 unfold Jg
 rw [Zwo,Option.bind_some]
 by_cases h:0≤s∧s < A.segments.length
 ·rw [decide_eq_true h.1,decide_eq_true h.2,if_pos h,Option.bind_some,(Zz0 h.1 h.2).1]
  rfl
 rw [if_neg h,show (decide (0≤s) && decide (s < A.segments.length))=false from by rw [Bool.and_eq_false_iff,decide_eq_false_iff_not,decide_eq_false_iff_not];omega]
 rfl
theorem Zyq (hw:WS A.segments) (s a n:Int):X4 (some A) s a n=some (inB A.segments s a n):=by
 have hl:=Zub hw s
 unfold X4 inB
 rw [Zwo,Z6p,Option.bind_some]
 by_cases h:0≤s∧s < A.segments.length
 ·rw [if_pos h,decide_eq_true h.1,decide_eq_true h.2]
  by_cases h2:0≤a
  ·by_cases h3:0≤n
   ·by_cases h4:n≤((seg A.segments s).length:Int)
    ·simp only [decide_eq_true h2,decide_eq_true h3,Bool.and_true,Bool.true_and,cond_true,Option.bind_some,decide_eq_true h4]
     rw [Xc (by omega) (by omega)]
     congr 1
     rw [Bool.eq_iff_iff,decide_eq_true_eq,decide_eq_true_eq]
     omega
    simp only [decide_eq_true h2,decide_eq_true h3,Bool.and_true,Bool.true_and,cond_true,cond_false,Option.bind_some,decide_eq_false h4]
    rw [show decide (a+n≤((seg A.segments s).length:Int))=false from by rw [decide_eq_false_iff_not];omega]
   rw [decide_eq_true h2,decide_eq_false h3];rfl
  rw [decide_eq_false h2];rfl
 rw [show (decide (0≤s) && decide (s < A.segments.length))=false from by rw [Bool.and_eq_false_iff,decide_eq_false_iff_not,decide_eq_false_iff_not];omega]
 rw [← Bool.and_assoc,show (decide (0≤s) && decide (s < A.segments.length))=false from by rw [Bool.and_eq_false_iff,decide_eq_false_iff_not,decide_eq_false_iff_not];omega]
 rfl
theorem Zp7 (hw:WS A.segments) (s a:Int):X3 (some A) s a=some (if inB A.segments s a 1=true then (wd A.segments s a,true) else (0,false)):=by
 unfold X3
 rw [Zyq hw,Option.bind_some]
 cases h:inB A.segments s a 1 with
 | false=>rfl
 | true =>
  have h':=inB_iff.1 h
  rw [Bool.not_true,cond_false,Option.bind_some,(Zz0 h'.1 h'.2.1).1,Option.bind_some,(Yck h).1]
  rfl
theorem Z6o (hw:WS A.segments) (s a n:Int):Vv (some A) s a n=some (if inB A.segments s a n=true then (((seg A.segments s).drop a.toNat).take n.toNat,true) else ([],false)):=by
 have hl:=Zub hw s
 unfold Vv
 rw [Zyq hw,Option.bind_some]
 cases h:inB A.segments s a n with
 | false=>rfl
 | true =>
  have h':=inB_iff.1 h
  rw [Bool.not_true,cond_false,Option.bind_some,(Zz0 h'.1 h'.2.1).1,Option.bind_some,Xc (by omega) (by omega),Z4t (by omega) (by omega) (by omega),Option.bind_some,show a+n - a=n by omega,Zxf (by rw [List.length_take,List.length_drop];omega)]
  rfl
end
def dc (w:Int):Zx:=Ze5 w.toNat
theorem Z0n {w:Int} (h:0≤w∧w < 18446744073709551616):Jx w=some (dc w):=by
 have:=Z0o w.toNat (by omega)
 rwa [show ((w.toNat:Nat):Int)=w by omega] at this
structure PB (p:Zx):Prop where
 k:p.Kind=0∨p.Kind=1∨p.Kind=2∨p.Kind=3∨p.Kind=4
 o:-536870912≤p.Off∧p.Off < 536870912
 d:0≤p.Data∧p.Data < 65536
 q:0≤p.Ptrs∧p.Ptrs < 65536
 c:0≤p.Code∧p.Code < 8
 n:0≤p.Count∧p.Count < 536870912
 s:0≤p.Segment∧p.Segment < 4294967296
 f:p.Kind=3→0≤p.Off
 z:p.Kind=0∨p.Kind=4→p.Off=0
theorem Z98 (w:Nat):-536870912≤Zox w∧Zox w < 536870912:=by
 unfold Zox
 split <;> omega
theorem Zum (w:Int):PB (dc w):=by
 have ho:=Z98 w.toNat
 unfold dc Ze5
 split
 ·exact ⟨.inl rfl,by simp,by simp,by simp,by simp,by simp,by simp,by simp,by simp⟩
 split
 ·exact ⟨.inr (.inl rfl),ho,by simp only;omega,by simp only;omega,by simp,by simp,by simp,by simp,by simp⟩
 split
 ·exact ⟨.inr (.inr (.inl rfl)),ho,by simp,by simp,by simp only;omega,by simp only;omega,by simp,by simp,by simp⟩
 split
 ·exact ⟨.inr (.inr (.inr (.inl rfl))),by simp only;omega,by simp,by simp,by simp,by simp,by simp only;omega,fun _=>by simp only;omega,by simp⟩
 exact ⟨.inr (.inr (.inr (.inr rfl))),by simp,by simp,by simp,by simp,by simp,by simp,by simp,by simp⟩
def wdt (c:Int):Int:=if c=0 then 0 else if c=1 then 1 else if c=2 then 8 else if c=3 then 16 else if c=4 then 32 else 64
def pw (p:Zx):Int:=if p.Kind=1 then p.Data+p.Ptrs else if p.Code=7 then p.Count+1 else (p.Count * wdt p.Code+63) / 64
theorem c7 {c:Int} (h:0≤c∧c < 8) (h7:¬ c=7):c=0∨c=1∨c=2∨c=3∨c=4∨c=5∨c=6:=by omega
theorem Z84 {c:Int} (h:0≤c∧c < 8) (h7:¬ c=7):Zce c=some (wdt c):=by
 unfold Zce
 rcases c7 h h7 with rfl | rfl | rfl | rfl | rfl | rfl | rfl <;> rfl
theorem Z86 {p:Zx} (h:PB p):Qo p=some (if p.Kind=1∨p.Kind=2 then (pw p,true) else (0,false)):=by
 have hd:=h.d;have hp:=h.q;have hn:=h.n
 unfold Qo pw
 by_cases k1:p.Kind=1
 ·rw [show (p.Kind == 1)=true from by rw [k1];rfl,cond_true,if_pos (.inl k1),if_pos k1,Xc (by omega) (by omega)]
 rw [show (p.Kind == 1)=false from Vu k1,cond_false]
 by_cases k2:p.Kind=2
 ·rw [show (p.Kind == 2)=true from by rw [k2];rfl,cond_true,if_pos (.inr k2),if_neg k1]
  by_cases c7':p.Code=7
  ·rw [show (p.Code == 7)=true from by rw [c7'];rfl,cond_true,if_pos c7',Xc (by omega) (by omega)]
  rw [show (p.Code == 7)=false from Vu c7',cond_false,if_neg c7',decide_eq_true h.c.1,show decide (p.Code < 7)=true from by rw [decide_eq_true_eq];have:=h.c;omega,decide_eq_true hn.1,show decide (p.Count≤536870911)=true from by rw [decide_eq_true_eq];omega]
  simp only [cond_true]
  rw [Z84 h.c c7',Option.bind_some]
  have hw:0≤wdt p.Code∧wdt p.Code≤64:=by unfold wdt;repeat' split;all_goals omega
  have h1:0≤p.Count * wdt p.Code:=Int.mul_nonneg hn.1 hw.1
  have h2:p.Count * wdt p.Code≤536870912 * 64:=Int.mul_le_mul (by omega) hw.2 hw.1 (by omega)
  rw [Xc (x:=p.Count * wdt p.Code) (by omega) (by omega),Xc (x:=p.Count * wdt p.Code+63) (by omega) (by omega),Int.tdiv_eq_ediv_of_nonneg (by omega),Xc (by omega) (by omega)]
 rw [show (p.Kind == 2)=false from Vu k2,if_neg (by omega)]
 rfl
def l0:Xb:=⟨⟨0,0,0,0,0,0,0,false⟩,0,0⟩
def Zu6 (p:Zx):Zx:=⟨p.Kind,0,p.Data,p.Ptrs,p.Code,p.Count,p.Segment,p.Double⟩
def tgt (l:List (List Int)) (p:Zx) (s a:Int):Xb×Int :=
 if p.Kind=4 then (l0,9) else if p.Kind=1∨p.Kind=2 then (if inB l s a (pw p)=true then (⟨Zu6 p,s,a⟩,0) else (l0,7)) else (l0,8)
def fol (l:List (List Int)) (s a:Int):Xb×Int :=
 if inB l s a 1=true then
  let p:=dc (wd l s a)
  if p.Kind=0 then (l0,0)
  else if p.Kind=3∧p.Double=true then
   if inB l p.Segment p.Off 2=true then
    let b:=dc (wd l p.Segment p.Off)
    let q:=dc (wd l p.Segment (p.Off+1))
    if b.Kind=3∧b.Double=false then (if q.Kind≠4∧q.Off≠0 then (l0,8) else tgt l q b.Segment b.Off) else (l0,8)
   else (l0,7)
  else if p.Kind=3 then
   if inB l p.Segment p.Off 1=true then
    let q:=dc (wd l p.Segment p.Off)
    tgt l q p.Segment (p.Off+1+q.Off)
   else (l0,7)
  else tgt l p s (a+1+p.Off)
 else (l0,7)
section
variable {A:Zm}
theorem Znr (hw:WS A.segments) {p:Zx} (h:PB p) (s a:Int):Gq (some A) p s a=some (tgt A.segments p s a):=by
 unfold Gq tgt
 by_cases k4:p.Kind=4
 ·rw [show (p.Kind == 4)=true from by rw [k4];rfl,if_pos k4];rfl
 rw [show (p.Kind == 4)=false from Vu k4,cond_false,if_neg k4,Z86 h,Option.bind_some]
 by_cases k:p.Kind=1∨p.Kind=2
 ·rw [if_pos k,if_pos k]
  simp only [Bool.not_true,cond_false]
  rw [Zyq hw,Option.bind_some]
  cases inB A.segments s a (pw p) <;> rfl
 rw [if_neg k,if_neg k]
 rfl
theorem Ydo {l:List (List Int)} {s a:Int} (h:inB l s a 2=true):((seg l s).drop a.toNat).take (2:Int).toNat=[wd l s a,wd l s (a+1)]:=by
 have h':=inB_iff.1 h
 have h1:a.toNat < (seg l s).length:=by omega
 have h2:a.toNat+1 < (seg l s).length:=by omega
 unfold wd
 rw [show (a+1).toNat=a.toNat+1 by omega,List.getElem?_eq_getElem h1,List.getElem?_eq_getElem h2,show ((2:Int).toNat)=2 from rfl,List.drop_eq_getElem_cons h1,List.drop_eq_getElem_cons h2]
 rfl
theorem Z5e (hw:WS A.segments) (s a:Int):Zdc (some A) s a=some (if inB A.segments s a 2=true then (if (dc (wd A.segments s a)).Kind=3∧(dc (wd A.segments s a)).Double=false then (if (dc (wd A.segments s (a+1))).Kind≠4∧(dc (wd A.segments s (a+1))).Off≠0 then (l0,8) else tgt A.segments (dc (wd A.segments s (a+1))) (dc (wd A.segments s a)).Segment (dc (wd A.segments s a)).Off) else (l0,8)) else (l0,7)):=by
 unfold Zdc
 rw [Z6o hw,Option.bind_some]
 cases h:inB A.segments s a 2 with
 | false=>rfl
 | true =>
  simp only [if_true,Bool.not_true,cond_false]
  rw [Ydo h]
  have g0:Z6 [wd A.segments s a,wd A.segments s (a+1)] 0=some (wd A.segments s a):=rfl
  have g1:Z6 [wd A.segments s a,wd A.segments s (a+1)] 1=some (wd A.segments s (a+1)):=rfl
  rw [g0,Option.bind_some,Z0n (Zv1 hw _ _),Option.bind_some,g1,Option.bind_some,Z0n (Zv1 hw _ _),Option.bind_some]
  generalize dc (wd A.segments s a)=b
  have hq:=Zum (wd A.segments s (a+1))
  revert hq
  generalize dc (wd A.segments s (a+1))=q
  intro hq
  by_cases b3:b.Kind=3
  ·rw [show (b.Kind != 3)=false from by rw [b3];rfl,cond_false]
   cases bd:b.Double with
   | true=>rw [cond_true,if_neg (by simp)];rfl
   | false =>
    rw [cond_false,if_pos ⟨b3,rfl⟩]
    by_cases hq4:q.Kind=4
    ·rw [show (q.Kind != 4)=false from by rw [hq4];rfl,cond_false,cond_false,if_neg (by simp [hq4]),Znr hw hq]
     rfl
    rw [show (q.Kind != 4)=true from bne_iff_ne.2 hq4,cond_true]
    by_cases ho:q.Off=0
    ·rw [show (q.Off != 0)=false from by rw [ho];rfl,cond_false,if_neg (by simp [ho]),Znr hw hq]
     rfl
    rw [show (q.Off != 0)=true from bne_iff_ne.2 ho,cond_true,if_pos ⟨hq4,ho⟩]
    rfl
  rw [show (b.Kind != 3)=true from bne_iff_ne.2 b3,cond_true,cond_true,if_neg (by simp [b3])]
  rfl
theorem Ya7 {l:List (List Int)} (hw:WS l) {s a n:Int} (h:inB l s a n=true):0≤a∧a≤17592186044416:=by
 have h':=inB_iff.1 h
 have:=Zub hw s
 omega
theorem Z53 (hw:WS A.segments) (s a:Int):Zdd (some A) s a=some (if inB A.segments s a 1=true then tgt A.segments (dc (wd A.segments s a)) s (a+1+(dc (wd A.segments s a)).Off) else (l0,7)):=by
 unfold Zdd
 rw [Zp7 hw,Option.bind_some]
 cases h:inB A.segments s a 1 with
 | false=>rfl
 | true =>
  have ha:=Ya7 hw h
  have hq:=Zum (wd A.segments s a)
  have ho:=hq.o
  simp only [if_true,Bool.not_true,cond_false]
  rw [Z0n (Zv1 hw _ _),Option.bind_some,Xc (x:=a+1) (by omega) (by omega),Xc (by omega) (by omega),Znr hw hq]
  rfl
theorem Z5g (hw:WS A.segments) (s a:Int):Zdb (some A) s a=some (fol A.segments s a):=by
 unfold Zdb fol
 rw [Zp7 hw,Option.bind_some]
 cases h:inB A.segments s a 1 with
 | false=>rfl
 | true =>
  have ha:=Ya7 hw h
  have hq:=Zum (wd A.segments s a)
  have ho:=hq.o
  simp only [if_true,Bool.not_true,cond_false]
  rw [Z0n (Zv1 hw _ _),Option.bind_some]
  revert hq ho
  generalize dc (wd A.segments s a)=p
  intro hq ho
  by_cases k0:p.Kind=0
  ·rw [show (p.Kind == 0)=true from by rw [k0];rfl,cond_true,if_pos k0];rfl
  rw [show (p.Kind == 0)=false from Vu k0,cond_false,if_neg k0]
  by_cases k3:p.Kind=3
  ·rw [show (p.Kind == 3)=true from by rw [k3];rfl,cond_true,cond_true]
   cases hd:p.Double with
   | true=>rw [cond_true,if_pos ⟨k3,rfl⟩,Z5e hw];rfl
   | false=>rw [cond_false,if_neg (by simp),if_pos k3,Z53 hw];rfl
  rw [show (p.Kind == 3)=false from Vu k3,cond_false,cond_false,cond_false,if_neg (by simp [k3]),if_neg k3,Xc (x:=a+1) (by omega) (by omega),Xc (by omega) (by omega),Znr hw hq]
  rfl
end
theorem Yeb {l:List (List Int)} {s a:Int} (h0:0≤a):inB l s a 2=(inB l s a 1 && inB l s (a+1) 1):=by
 rw [Bool.eq_iff_iff,Bool.and_eq_true,inB_iff,inB_iff,inB_iff]
 omega
theorem Ycj {l:List (List Int)} {p:Zx} (h:PB p) {s a:Int}:((tgt l p s a).2≠0∧(tgt l p s a).1=l0)∨((tgt l p s a).2=0∧(p.Kind=1∨p.Kind=2)∧(tgt l p s a).1=⟨Zu6 p,s,a⟩∧inB l s a (pw p)=true):=by
 unfold tgt
 by_cases k4:p.Kind=4
 ·rw [if_pos k4];exact .inl ⟨by simp,rfl⟩
 rw [if_neg k4]
 by_cases k:p.Kind=1∨p.Kind=2
 ·rw [if_pos k]
  by_cases hi:inB l s a (pw p)=true
  ·rw [if_pos hi];exact .inr ⟨rfl,k,rfl,hi⟩
  rw [if_neg hi];exact .inl ⟨by simp,rfl⟩
 rw [if_neg k];exact .inl ⟨by simp,rfl⟩
theorem Z97 {p:Zx} (h:PB p):PB (Zu6 p):=⟨h.k,by simp [Zu6],h.d,h.q,h.c,h.n,h.s,fun _=>by simp [Zu6],fun _=>rfl⟩
theorem Ybx (l:List (List Int)) (s a:Int):((fol l s a).1=l0)∨((fol l s a).2=0∧∃ p s' a',PB p∧p.Off=0∧(p.Kind=1∨p.Kind=2)∧(fol l s a).1=⟨p,s',a'⟩∧inB l s' a' (pw p)=true):=by
 have key:∀ (w s a:Int),((tgt l (dc w) s a).1=l0)∨((tgt l (dc w) s a).2=0∧∃ p s' a',PB p∧p.Off=0∧(p.Kind=1∨p.Kind=2)∧(tgt l (dc w) s a).1=⟨p,s',a'⟩∧inB l s' a' (pw p)=true):=fun w s a=>by
  rcases Ycj (l:=l) (Zum w) (s:=s) (a:=a) with h | ⟨h1,h2,h3,h4⟩
  ·exact .inl h.2
  exact .inr ⟨h1,Zu6 (dc w),s,a,Z97 (Zum w),rfl,h2,h3,h4⟩
 unfold fol
 by_cases h:inB l s a 1=true
 ·rw [if_pos h]
  simp only
  split
  ·exact .inl rfl
  split
  ·split
   ·split
    ·split
     ·exact .inl rfl
     exact key _ _ _
    exact .inl rfl
   exact .inl rfl
  split
  ·split
   ·exact key _ _ _
   exact .inl rfl
  exact key _ _ _
 rw [if_neg h];exact .inl rfl
def r0:Ze:=⟨none,0,0,0,0,0,0,0,0⟩
def Z5 (r:Ze):Int:=if r.kind=1 then r.ptrs else r.count
def atR (A:Zm) (s a:Int):Ze×Int :=
 let x:=fol A.segments s a
 if x.2≠0∨x.1.P.Kind=0 then (r0,x.2)
 else if x.1.P.Kind=1 then (⟨some A,1,x.1.Segment,x.1.At,x.1.P.Data,x.1.P.Ptrs,0,0,0⟩,0)
 else if x.1.P.Code=7 then
  let t:=dc (wd A.segments x.1.Segment x.1.At)
  if (t.Kind≠0∧t.Kind≠1)∨t.Off < 0∨x.1.P.Count < t.Off * (t.Data+t.Ptrs) then (r0,8)
  else (⟨some A,9,x.1.Segment,x.1.At,t.Data,t.Ptrs,t.Off,0,0⟩,0)
 else (⟨some A,x.1.P.Code+2,x.1.Segment,x.1.At,0,0,x.1.P.Count,0,0⟩,0)
inductive OKr (A:Zm):Ze→Prop
 | z:OKr A r0
 | st (s a d p:Int) (hd:0≤d∧d < 65536) (hp:0≤p∧p < 65536) (hi:inB A.segments s a (d+p)=true):OKr A ⟨some A,1,s,a,d,p,0,0,0⟩
 | li (k s a n:Int) (hk:2≤k∧k≤8) (hn:0≤n∧n < 536870912) (hi:inB A.segments s a ((n * wdt (k - 2)+63) / 64)=true):OKr A ⟨some A,k,s,a,0,0,n,0,0⟩
 | co (s a d p n:Int) (hd:0≤d∧d < 65536) (hp:0≤p∧p < 65536) (hn:0≤n∧n < 536870912) (hw:0≤n * (d+p)∧n * (d+p) < 536870912) (hi:inB A.segments s a (n * (d+p)+1)=true):OKr A ⟨some A,9,s,a,d,p,n,0,0⟩
 | at_ (s a c i n:Int) (hc:0≤c∧c≤5) (h0:0≤i) (h1:i < n) (hn:n < 536870912) (hi:inB A.segments s a ((n * wdt c+63) / 64)=true):OKr A ⟨some A,10,s,a,0,0,0,c,i⟩
theorem Z37 {A:Zm} {r:Ze} (h:OKr A r):0≤r.kind∧r.kind≤10:=by cases h <;> simp [r0] <;> omega
theorem Zle (l:List (List Int)) (s a:Int):((fol l s a).2≠0∨(fol l s a).1.P.Kind=0)∨((fol l s a).2=0∧PB (fol l s a).1.P∧((fol l s a).1.P.Kind=1∨(fol l s a).1.P.Kind=2)∧inB l (fol l s a).1.Segment (fol l s a).1.At (pw (fol l s a).1.P)=true):=by
 rcases Ybx l s a with h | ⟨h1,p,s',a',hp,ho,hk,h,hi⟩
 ·rw [h];exact .inl (.inr rfl)
 rw [h];exact .inr ⟨h1,hp,hk,hi⟩
section
variable {A:Zm}
theorem Z8z (w:Int):0≤(dc w).Data∧(dc w).Data < 65536∧0≤(dc w).Ptrs∧(dc w).Ptrs < 65536∧(dc w).Off < 536870912:=by
 have h:=Zum w
 exact ⟨h.d.1,h.d.2,h.q.1,h.q.2,h.o.2⟩
theorem Yb7 {n x:Int} (h0:-536870912≤n∧n < 536870912) (h1:0≤x∧x≤131070):-70368744177664≤n * x∧n * x≤70368744177664:=by
 constructor
 ·have:-536870912 * 131070≤n * x:=by
   rcases Int.le_total 0 n with h | h
   ·have:=Int.mul_nonneg h h1.1;omega
   have h2:n * 131070≤n * x:=Int.mul_le_mul_of_nonpos_left h h1.2
   have h3:-536870912 * 131070≤n * 131070:=Int.mul_le_mul_of_nonneg_right h0.1 (by omega)
   omega
  omega
 rcases Int.le_total 0 n with h | h
 ·have h2:n * x≤n * 131070:=Int.mul_le_mul_of_nonneg_left h1.2 h
  have h3:n * 131070≤536870912 * 131070:=Int.mul_le_mul_of_nonneg_right (by omega) (by omega)
  omega
 have:=Int.mul_nonpos_of_nonpos_of_nonneg h h1.1
 omega
theorem Zpf (s a:Int):OKr A (atR A s a).1:=by
 unfold atR
 rcases Zle A.segments s a with h | ⟨h1,hp,hk,hi⟩
 ·rw [if_pos h];exact .z
 rw [if_neg (by omega)]
 generalize (fol A.segments s a).1=x at *
 by_cases k1:x.P.Kind=1
 ·rw [if_pos k1]
  have:pw x.P=x.P.Data+x.P.Ptrs:=by unfold pw;rw [if_pos k1]
  rw [this] at hi
  exact .st _ _ _ _ hp.d hp.q hi
 rw [if_neg k1]
 have k2:x.P.Kind=2:=by omega
 by_cases c7':x.P.Code=7
 ·rw [if_pos c7']
  have hpw:pw x.P=x.P.Count+1:=by unfold pw;rw [if_neg k1,if_pos c7']
  rw [hpw] at hi
  have ht:=Z8z (wd A.segments x.Segment x.At)
  simp only
  generalize dc (wd A.segments x.Segment x.At)=t at *
  split
  ·exact .z
  rename_i hc
  have hn:=hp.n
  have h0:0≤t.Off * (t.Data+t.Ptrs):=Int.mul_nonneg (by omega) (by omega)
  have hi':=inB_iff.1 hi
  exact .co _ _ _ _ _ (by omega) (by omega) (by omega) (by omega) (inB_iff.2 ⟨hi'.1,hi'.2.1,hi'.2.2.1,by omega,by omega⟩)
 rw [if_neg c7']
 have hpw:pw x.P=(x.P.Count * wdt x.P.Code+63) / 64:=by unfold pw;rw [if_neg k1,if_neg c7']
 rw [hpw] at hi
 have hc:=hp.c
 exact .li _ _ _ _ (by omega) hp.n (by rw [show x.P.Code+2 - 2=x.P.Code by omega];exact hi)
theorem Z6v (hw:WS A.segments) (s a:Int):Za2 (some A) s a=some (atR A s a):=by
 unfold Za2 atR
 rw [Z5g hw,Option.bind_some]
 simp only
 rcases Zle A.segments s a with h | ⟨h1,hp,hk,hi⟩
 ·rw [if_pos h]
  have:cond ((fol A.segments s a).2 != 0) true ((fol A.segments s a).1.P.Kind == 0)=true:=by
   rcases h with h | h
   ·rw [bne_iff_ne.2 h];rfl
   rw [show ((fol A.segments s a).1.P.Kind == 0)=true from by rw [h];rfl]
   cases ((fol A.segments s a).2 != 0) <;> rfl
  rw [this,cond_true];rfl
 rw [if_neg (by omega),h1,show ((0:Int) != 0)=false from rfl,cond_false]
 generalize (fol A.segments s a).1=x at *
 rw [show (x.P.Kind == 0)=false from Vu (by omega),cond_false]
 by_cases k1:x.P.Kind=1
 ·rw [if_pos k1,show (x.P.Kind == 1)=true from by rw [k1];rfl,cond_true]
 rw [if_neg k1,show (x.P.Kind == 1)=false from Vu k1,cond_false]
 have hc:=hp.c
 by_cases c7':x.P.Code=7
 ·rw [if_pos c7',show (x.P.Code == 7)=true from by rw [c7'];rfl,cond_true]
  have hpw:pw x.P=x.P.Count+1:=by unfold pw;rw [if_neg k1,if_pos c7']
  rw [hpw] at hi
  have hn:=hp.n
  have hi':=inB_iff.1 hi
  have hi1:inB A.segments x.Segment x.At 1=true:=inB_iff.2 ⟨hi'.1,hi'.2.1,hi'.2.2.1,by omega,by omega⟩
  unfold Gs
  simp only
  rw [Zp7 hw,if_pos hi1,Option.bind_some,Z0n (Zv1 hw _ _),Option.bind_some]
  have ht:=Z8z (wd A.segments x.Segment x.At)
  have ho:=(Zum (wd A.segments x.Segment x.At)).o
  generalize dc (wd A.segments x.Segment x.At)=t at *
  have hm:=Yb7 (n:=t.Off) (x:=t.Data+t.Ptrs) ho (by omega)
  rw [Xc (x:=t.Data+t.Ptrs) (by omega) (by omega),Xc (x:=t.Off * (t.Data+t.Ptrs)) (by omega) (by omega),Xc (x:=x.P.Code+2) (by omega) (by omega),c7']
  by_cases hq:(t.Kind≠0∧t.Kind≠1)∨t.Off < 0∨x.P.Count < t.Off * (t.Data+t.Ptrs)
  ·rw [if_pos hq]
   have:cond (cond (cond (t.Kind != 0) (t.Kind != 1) false) true (decide (t.Off < 0))) true (decide (x.P.Count < t.Off * (t.Data+t.Ptrs)))=true:=by
    rcases hq with ⟨q1,q2⟩ | q | q
    ·rw [bne_iff_ne.2 q1,bne_iff_ne.2 q2];rfl
    ·rw [decide_eq_true q];cases (cond (t.Kind != 0) (t.Kind != 1) false) <;> rfl
    rw [decide_eq_true q];cases (cond (cond (t.Kind != 0) (t.Kind != 1) false) true (decide (t.Off < 0))) <;> rfl
   rw [this,cond_true];rfl
  rw [if_neg hq]
  have e1:cond (t.Kind != 0) (t.Kind != 1) false=false:=by
   by_cases q0:t.Kind=0
   ·rw [show (t.Kind != 0)=false from by rw [q0];rfl];rfl
   have q1:t.Kind=1:=by omega
   rw [show (t.Kind != 1)=false from by rw [q1];rfl]
   cases (t.Kind != 0) <;> rfl
  rw [e1,cond_false,show decide (t.Off < 0)=false from by rw [decide_eq_false_iff_not];omega,cond_false,show decide (x.P.Count < t.Off * (t.Data+t.Ptrs))=false from by rw [decide_eq_false_iff_not];omega]
  rfl
 rw [if_neg c7',show (x.P.Code == 7)=false from Vu c7',cond_false,Xc (x:=x.P.Code+2) (by omega) (by omega)]
theorem Zha (r:Ze):Yt r=some (Z5 r):=by
 unfold Yt Z5
 by_cases h:r.kind=1
 ·rw [if_pos h,show (r.kind == 1)=true from by rw [h];rfl];rfl
 rw [if_neg h,show (r.kind == 1)=false from Vu h];rfl
def Yq (A:Zm) (r:Ze) (i:Int):Ze×Int :=
 if i < 0∨Z5 r≤i then (r0,0)
 else if r.kind=1 then atR A r.segment (r.at_+r.words+i)
 else if r.kind=8 then atR A r.segment (r.at_+i)
 else if r.kind=9 then (⟨some A,1,r.segment,r.at_+1+i * (r.words+r.ptrs),r.words,r.ptrs,0,0,0⟩,0)
 else (⟨some A,10,r.segment,r.at_,0,0,0,r.kind - 2,i⟩,0)
theorem Kw {r:Ze} (h:OKr A r) (i:Int):OKr A (Yq A r i).1:=by
 unfold Yq
 by_cases hi:i < 0∨Z5 r≤i
 ·rw [if_pos hi];exact .z
 rw [if_neg hi]
 by_cases k1:r.kind=1
 ·rw [if_pos k1];exact Zpf _ _
 rw [if_neg k1]
 by_cases k8:r.kind=8
 ·rw [if_pos k8];exact Zpf _ _
 rw [if_neg k8]
 by_cases k9:r.kind=9
 ·rw [if_pos k9]
  cases h with
  | z=>simp [r0] at k9
  | st _ _ _ _=>simp at k1
  | li k s a n hk=>simp only at k9;omega
  | at_=>simp at k9
  | co s a d p n hd hp hn hw hin =>
   simp only
   have hi':=inB_iff.1 hin
   simp only [Z5] at hi
   rw [if_neg (by omega)] at hi
   have h1:0≤i * (d+p):=Int.mul_nonneg (by omega) (by omega)
   have h2:(i+1) * (d+p)≤n * (d+p):=Int.mul_le_mul_of_nonneg_right (by omega) (by omega)
   rw [Int.add_mul,Int.one_mul] at h2
   exact .st _ _ _ _ hd hp (inB_iff.2 ⟨hi'.1,hi'.2.1,by omega,by omega,by omega⟩)
 rw [if_neg k9]
 cases h with
 | z=>simp [r0,Z5] at hi;omega
 | st _ _ _ _=>simp at k1
 | co=>simp at k9
 | at_=>simp [Z5] at hi;omega
 | li k s a n hk hn hin =>
  simp only at k8 k9 ⊢
  simp only [Z5] at hi
  rw [if_neg (by omega)] at hi
  exact .at_ _ _ _ _ n (by omega) (by omega) (by omega) (by omega) hin
theorem Z06 (hw:WS A.segments) {s a n:Int} (h:inB A.segments s a n=true):0≤a∧0≤n∧a+n≤17592186044416:=by
 have h':=inB_iff.1 h
 have:=Zub hw s
 omega
theorem Z7f (hw:WS A.segments) {r:Ze} (h:OKr A r) (i:Int):Jl r i=some (Yq A r i):=by
 unfold Jl Yq
 rw [Zha]
 have hz:(cond (decide (i < 0)) (some true) ((some (Z5 r)).bind fun y4=>some (cond (decide (i < 0)) true (decide (y4≤i)))))=some (decide (i < 0∨Z5 r≤i)):=by
  by_cases h0:i < 0
  ·rw [decide_eq_true h0,cond_true,show decide (i < 0∨Z5 r≤i)=true from decide_eq_true (.inl h0)]
  rw [decide_eq_false h0,cond_false,Option.bind_some,cond_false]
  congr 1
  rw [decide_eq_decide]
  omega
 rw [hz,Option.bind_some]
 by_cases hi:i < 0∨Z5 r≤i
 ·rw [if_pos hi,decide_eq_true hi];rfl
 rw [if_neg hi,decide_eq_false hi,cond_false]
 cases h with
 | z=>exact absurd hi (by first | (simp [Z5,r0];done) | (simp [Z5,r0];omega))
 | at_=>exact absurd hi (by first | (simp [Z5];done) | (simp [Z5];omega))
 | st s a d p hd hp hin =>
  have:=Z06 hw hin
  simp only [Z5,if_true] at hi
  simp only [beq_self_eq_true,cond_true,if_true]
  rw [Xc (x:=a+d) (by omega) (by omega),Xc (by omega) (by omega),Z6v hw]
  rfl
 | co s a d p n hd hp hn hwx hin =>
  have:=Z06 hw hin
  simp only [Z5] at hi
  rw [if_neg (by omega)] at hi
  simp only [show ((9:Int) == 1)=false from rfl,show ((9:Int) == 8)=false from rfl,show ((9:Int) == 9)=true from rfl,cond_true,cond_false,show ¬ (9:Int)=1 from by decide,show ¬ (9:Int)=8 from by decide,if_false,if_true]
  have h1:0≤i * (d+p):=Int.mul_nonneg (by omega) (by omega)
  have h2:(i+1) * (d+p)≤n * (d+p):=Int.mul_le_mul_of_nonneg_right (by omega) (by omega)
  rw [Int.add_mul,Int.one_mul] at h2
  rw [Xc (x:=a+1) (by omega) (by omega),Xc (x:=d+p) (by omega) (by omega),Xc (x:=i * (d+p)) (by omega) (by omega),Xc (by omega) (by omega)]
 | li k s a n hk hn hin =>
  have:=Z06 hw hin
  simp only [Z5] at hi
  rw [if_neg (by omega)] at hi
  simp only
  rw [show (k == 1)=false from Vu (by omega),cond_false,if_neg (by omega),show (k == 9)=false from Vu (by omega)]
  by_cases k8:k=8
  ·have hp:(n * wdt (k - 2)+63) / 64=n:=by rw [k8];simp [wdt];omega
   rw [show (k == 8)=true from by rw [k8];rfl,cond_true,if_pos k8,Xc (by omega) (by omega),Z6v hw]
   rfl
  rw [show (k == 8)=false from Vu k8,cond_false,cond_false,if_neg k8,if_neg (by omega),Xc (by omega) (by omega)]
def Uy (r:Ze):Int:=if r.kind=1 then r.words else if r.kind=10 then 1 else 0
theorem Znn (r:Ze):Qn r=some (Uy r):=by
 unfold Qn Uy
 by_cases h:r.kind=1
 ·rw [if_pos h,show (r.kind == 1)=true from by rw [h];rfl];rfl
 rw [if_neg h,show (r.kind == 1)=false from Vu h]
 by_cases h':r.kind=10
 ·rw [if_pos h',show (r.kind == 10)=true from by rw [h'];rfl];rfl
 rw [if_neg h',show (r.kind == 10)=false from Vu h'];rfl
def Z1i (w:Int) (c j:Int):Int:=((w.toNat / 2 ^ (j * wdt c).toNat % 2 ^ (wdt c).toNat:Nat):Int)
def each (c:Int):Int:=64 / wdt c
def Z3i (A:Zm) (r:Ze):Int:=if r.code=0 then 0 else Z1i (wd A.segments r.segment (r.at_+r.index / each r.code)) r.code (r.index % each r.code)
theorem c5 {c:Int} (h:0≤c∧c≤5):c=0∨c=1∨c=2∨c=3∨c=4∨c=5:=by omega
theorem Zyi {c:Int} (h:0≤c∧c≤5):Qt c=some (wdt c,true):=by
 unfold Qt
 rcases c5 h with rfl | rfl | rfl | rfl | rfl | rfl <;> rfl
theorem Z5o (w:Nat) (k:Nat) (hw:w < 18446744073709551616) (hk:k≤64):IntKind.u64.wrap (Zaz .u64 (w:Int) (IntKind.u64.wrap (IntKind.u64.wrap (1 * 2 ^ min (Int.toNat (k:Int)) 64) - 1)))=((w % 2 ^ k:Nat):Int):=by
 have hm:IntKind.u64.wrap (IntKind.u64.wrap (1 * 2 ^ min (Int.toNat (k:Int)) 64) - 1)=((2 ^ k - 1:Nat):Int):=by
  rw [Int.toNat_natCast,Nat.min_eq_left hk,Zzj]
  rcases Nat.lt_or_ge k 64 with h | h
  ·have h1:2 ^ k≤2 ^ 63:=Nat.pow_le_pow_right (by decide) (by omega)
   have h2:0 < 2 ^ k:=Nat.pow_pos (by decide)
   rw [Int.one_mul,Z81 (2 ^ k) (by omega),show (((2 ^ k:Nat):Int) - 1)=((2 ^ k - 1:Nat):Int) by omega,Z81 _ (by omega)]
  have:k=64:=by omega
  subst this
  decide
 rw [hm]
 have e:Zaz .u64 (w:Int) ((2 ^ k - 1:Nat):Int)=((w &&& (2 ^ k - 1):Nat):Int):=by
  unfold Zaz
  congr 1
  have h1:2 ^ k≤2 ^ 64:=Nat.pow_le_pow_right (by decide) hk
  have h2:0 < 2 ^ k:=Nat.pow_pos (by decide)
  rw [BitVec.toNat_and]
  have e1:(BitVec.ofInt (IntKind.u64).bits (w:Int)).toNat=w:=by
   show (BitVec.ofInt 64 (w:Int)).toNat=w
   rw [BitVec.ofInt_natCast,BitVec.toNat_ofNat]
   exact Nat.mod_eq_of_lt (by omega)
  have e2:(BitVec.ofInt (IntKind.u64).bits ((2 ^ k - 1:Nat):Int)).toNat=2 ^ k - 1:=by
   show (BitVec.ofInt 64 ((2 ^ k - 1:Nat):Int)).toNat=2 ^ k - 1
   rw [BitVec.ofInt_natCast,BitVec.toNat_ofNat]
   exact Nat.mod_eq_of_lt (by omega)
  rw [e1,e2]
 rw [e,Nat.and_two_pow_sub_one_eq_mod]
 have:w % 2 ^ k≤w:=Nat.mod_le _ _
 exact IntWalk.u64_in _ (by omega)
theorem Ya1 {w c j:Int} (hw:0≤w∧w < 18446744073709551616) (hc:1≤c∧c≤5) (hj:0≤j∧j < each c):Zg0 [w] c j=some (Z1i w c j):=by
 unfold Zg0 Z1i
 rw [Zyi (by omega),Option.bind_some]
 simp only
 obtain ⟨d,e,hd⟩:∃ d:Nat,wdt c=(d:Int)∧(d=1∨d=8∨d=16∨d=32∨d=64):=by
  rcases c5 (c:=c) (by omega) with rfl | rfl | rfl | rfl | rfl | rfl
  ·omega
  ·exact ⟨1,rfl,by omega⟩
  ·exact ⟨8,rfl,by omega⟩
  ·exact ⟨16,rfl,by omega⟩
  ·exact ⟨32,rfl,by omega⟩
  exact ⟨64,rfl,by omega⟩
 have he:each c=((64 / d:Nat):Int):=by unfold each;rw [e];rfl
 have hdd:64 / d * d=64:=by rcases hd with rfl | rfl | rfl | rfl | rfl <;> rfl
 have hdp:1≤d∧d≤64:=by omega
 have hep:1≤64 / d∧64 / d≤64:=by rcases hd with rfl | rfl | rfl | rfl | rfl <;> decide
 rw [he] at hj
 obtain ⟨q,rfl⟩:∃ q:Nat,j=q:=⟨j.toNat,by omega⟩
 have hq:q < 64 / d:=by omega
 have hqd:q * d+d≤64:=by
  have:(q+1) * d≤64 / d * d:=Nat.mul_le_mul_right d hq
  rw [Nat.add_mul] at this
  omega
 rw [e]
 have t1:Int.tdiv 64 (d:Int)=((64 / d:Nat):Int):=by rw [Int.tdiv_eq_ediv_of_nonneg (by decide)];rfl
 have t2:Int.tdiv (q:Int) ((64 / d:Nat):Int)=0:=by
  rw [Int.tdiv_eq_ediv_of_nonneg (by omega),show ((q:Int) / ((64 / d:Nat):Int))=((q / (64 / d):Nat):Int) from rfl,Nat.div_eq_of_lt hq]
  rfl
 have t3:Int.tmod (q:Int) ((64 / d:Nat):Int)=(q:Int):=by
  rw [Int.tmod_eq_emod_of_nonneg (by omega),show ((q:Int) % ((64 / d:Nat):Int))=((q % (64 / d):Nat):Int) from rfl,Nat.mod_eq_of_lt hq]
 rw [t1,Xc (x:=((64 / d:Nat):Int)) (by omega) (by omega),t2,t3,show IntKind.i64.wrap 0=0 from by decide]
 have t4:((q:Int) * (d:Int))=((q * d:Nat):Int):=by simp
 rw [t4,Xc (x:=((q * d:Nat):Int)) (by omega) (by omega),show (((d:Nat):Int) == 0)=false from Vu (by omega),show decide ((q:Int) < 0)=false from by rw [decide_eq_false_iff_not];omega]
 simp only [cond_false]
 have g0:Z6 [w] 0=some w:=rfl
 have e1:Ja ((d:Int)≠0)=some ():=V9 (by omega)
 have e2:Ja (((64 / d:Nat):Int)≠0)=some ():=V9 (by omega)
 have e3:Ja (0≤((q * d:Nat):Int))=some ():=V9 (by omega)
 have e4:Ja (0≤(d:Int))=some ():=V9 (by omega)
 simp only [e1,e2,e3,e4,g0,Option.bind_some,cond_false,show decide ((([w]:List Int).length:Int)≤0)=false from rfl]
 congr 1
 have hwn:w=((w.toNat:Nat):Int):=by omega
 have hf:Int.fdiv w (2 ^ min (Int.toNat ((q * d:Nat):Int)) 64)=((w.toNat / 2 ^ (q * d):Nat):Int):=by
  rw [Int.toNat_natCast,Nat.min_eq_left (by omega),Zzj,Int.fdiv_eq_ediv_of_nonneg _ (Int.natCast_nonneg _)]
  conv=>lhs;rw [hwn]
  rfl
 rw [hf,Z5o _ d (Nat.lt_of_le_of_lt (Nat.div_le_self _ _) (by omega)) (by omega)]
 rw [Int.toNat_natCast,Int.toNat_natCast]
end
section
variable {A:Zm}
def Z40 (A:Zm) (r:Ze) (i:Int):Int :=
 if i < 0∨Uy r≤i then 0 else if r.kind=10 then Z3i A r else wd A.segments r.segment (r.at_+i)
theorem Z9l {c i n:Int} (hc:1≤c∧c≤5) (h0:0≤i) (h1:i < n) (hn:n < 536870912):1≤each c∧each c≤64∧0≤i / each c∧i / each c+1≤(n * wdt c+63) / 64∧0≤i % each c∧i % each c < each c∧Int.tdiv 64 (wdt c)=each c∧wdt c≠0:=by
 rcases c5 (c:=c) (by omega) with rfl | rfl | rfl | rfl | rfl | rfl
 ·omega
 ·have e1:each 1=64:=by decide
  have e2:wdt 1=1:=by decide
  rw [e1,e2];exact ⟨by omega,by omega,by omega,by omega,by omega,by omega,by decide,by decide⟩
 ·have e1:each 2=8:=by decide
  have e2:wdt 2=8:=by decide
  rw [e1,e2];exact ⟨by omega,by omega,by omega,by omega,by omega,by omega,by decide,by decide⟩
 ·have e1:each 3=4:=by decide
  have e2:wdt 3=16:=by decide
  rw [e1,e2];exact ⟨by omega,by omega,by omega,by omega,by omega,by omega,by decide,by decide⟩
 ·have e1:each 4=2:=by decide
  have e2:wdt 4=32:=by decide
  rw [e1,e2];exact ⟨by omega,by omega,by omega,by omega,by omega,by omega,by decide,by decide⟩
 have e1:each 5=1:=by decide
 have e2:wdt 5=64:=by decide
 rw [e1,e2];exact ⟨by omega,by omega,by omega,by omega,by omega,by omega,by decide,by decide⟩
theorem Z5u (hw:WS A.segments) {s a c i n:Int} (hc:0≤c∧c≤5) (h0:0≤i) (h1:i < n) (hn:n < 536870912) (hi:inB A.segments s a ((n * wdt c+63) / 64)=true):K9 ⟨some A,10,s,a,0,0,0,c,i⟩=some (Z3i A ⟨some A,10,s,a,0,0,0,c,i⟩):=by
 unfold K9 Z3i
 simp only
 rw [Zyi hc,Option.bind_some]
 simp only
 by_cases hz:c=0
 ·subst hz
  rw [show (wdt 0 == 0)=true from by decide,cond_true,if_pos rfl]
 obtain ⟨a1,a2,a3,a4,a5,a6,a7,a8⟩:=Z9l (c:=c) (by omega) h0 h1 hn
 have hr:=Z06 hw hi
 have hi':=inB_iff.1 hi
 have hin:inB A.segments s (a+i / each c) 1=true:=inB_iff.2 ⟨hi'.1,hi'.2.1,by omega,by omega,by omega⟩
 rw [show (wdt c == 0)=false from Vu a8,cond_false,if_neg hz,a7,Xc (x:=each c) (by omega) (by omega),Int.tdiv_eq_ediv_of_nonneg h0,Int.tmod_eq_emod_of_nonneg h0,Xc (x:=i / each c) (by omega) (by omega),Xc (x:=a+i / each c) (by omega) (by omega)]
 have e1:Ja (wdt c≠0)=some ():=V9 a8
 have e2:Ja (each c≠0)=some ():=V9 (by omega)
 simp only [e1,e2,Option.bind_some]
 rw [Zp7 hw,if_pos hin,Option.bind_some]
 simp only
 rw [Ya1 (Zv1 hw _ _) (by omega) ⟨a5,a6⟩,Option.bind_some]
theorem Ya3 (hw:WS A.segments) {r:Ze} (h:OKr A r) (i:Int):Um r i=some (Z40 A r i):=by
 unfold Um Z40
 rw [Znn]
 have hz:(cond (decide (i < 0)) (some true) ((some (Uy r)).bind fun y4=>some (cond (decide (i < 0)) true (decide (y4≤i)))))=some (decide (i < 0∨Uy r≤i)):=by
  by_cases h0:i < 0
  ·rw [decide_eq_true h0,cond_true,show decide (i < 0∨Uy r≤i)=true from decide_eq_true (.inl h0)]
  rw [decide_eq_false h0,cond_false,Option.bind_some,cond_false]
  congr 1
  rw [decide_eq_decide]
  omega
 rw [hz,Option.bind_some]
 by_cases hi:i < 0∨Uy r≤i
 ·rw [if_pos hi,decide_eq_true hi];rfl
 rw [if_neg hi,decide_eq_false hi,cond_false]
 cases h with
 | z=>exact absurd hi (by simp [Uy,r0];try omega)
 | li k s a n hk hn hin=>exact absurd hi (by simp only [Uy];rw [if_neg (by omega),if_neg (by omega)];omega)
 | co s a d p n hd hp hn hwx hin=>exact absurd hi (by simp [Uy];try omega)
 | at_ s a c i' n hc h0 h1 hn hin =>
  simp only [beq_self_eq_true,cond_true,if_true]
  rw [Z5u hw hc h0 h1 hn hin]
  rfl
 | st s a d p hd hp hin =>
  have:=Z06 hw hin
  have hi':=inB_iff.1 hin
  simp only [Uy,if_true] at hi
  simp only [show ((1:Int) == 10)=false from rfl,cond_false,show ¬ (1:Int)=10 from by decide,if_false]
  rw [Xc (by omega) (by omega),Zp7 hw,if_pos (inB_iff.2 ⟨hi'.1,hi'.2.1,by omega,by omega,by omega⟩)]
  rfl
theorem Z4q (hw:WS A.segments):Zae (some A)=some (atR A 0 0):=by
 unfold Zae
 rw [Z6v hw]
 rfl
end
abbrev Tr:=Zd
def lvR (r:Ze):Int:=if r.kind=0 then 0 else if r.kind=9∧0 < r.count then 2 else 1
def wtR (r:Ze):Int:=if r.kind=0 then 0 else if r.kind=1 then 1+r.words+r.ptrs else if r.kind=9 then 1+r.count * (1+r.words+r.ptrs) else 1+r.count
theorem Z5q (r:Ze):Za6 r=some (lvR r):=by
 have hk:Yk r=some r.kind:=rfl
 unfold Za6 lvR
 rw [hk,Zha,Option.bind_some]
 by_cases h0:r.kind=0
 ·rw [show (r.kind == 0)=true from by rw [h0];rfl,if_pos h0];rfl
 rw [show (r.kind == 0)=false from Vu h0,if_neg h0,cond_false,Option.bind_some]
 by_cases h9:r.kind=9
 ·have hkn:Z5 r=r.count:=by unfold Z5;rw [if_neg (by omega)]
  rw [show (r.kind == 9)=true from by rw [h9];rfl,cond_true,Option.bind_some,Option.bind_some,cond_true,hkn]
  by_cases hc:0 < r.count
  ·rw [if_pos ⟨h9,hc⟩,decide_eq_true hc];rfl
  rw [if_neg (fun q=>hc q.2),decide_eq_false hc];rfl
 rw [show (r.kind == 9)=false from Vu h9,if_neg (fun q=>h9 q.1)];rfl
section
variable {A:Zm}
theorem Z89 (hw:WS A.segments) {r:Ze} (h:OKr A r):0≤wtR r∧wtR r≤4503599627370496∧(r.kind≠0→1≤wtR r):=by
 cases h with
 | z=>simp [wtR,r0]
 | st s a d p hd hp hin=>simp [wtR];omega
 | li k s a n hk hn hin=>simp only [wtR];rw [if_neg (by omega),if_neg (by omega),if_neg (by omega)];omega
 | co s a d p n hd hp hn hwx hin =>
  simp only [wtR,show ¬ (9:Int)=0 from by decide,show ¬ (9:Int)=1 from by decide,if_false,if_true]
  have:n * (1+d+p)=n+n * (d+p):=by rw [Int.add_assoc,Int.mul_add,Int.mul_one]
  omega
 | at_ s a c i n hc h0 h1 hn hin=>simp [wtR]
theorem Z6g (hw:WS A.segments) {r:Ze} (h:OKr A r):Gf r=some (wtR r):=by
 have hk:Yk r=some r.kind:=rfl
 unfold Gf wtR
 rw [hk,Znn,Zha,Option.bind_some]
 cases h with
 | z=>rfl
 | st s a d p hd hp hin =>
  simp only [Uy,Z5,if_true,show ((1:Int) == 0)=false from rfl,show ((1:Int) == 1)=true from rfl,cond_false,cond_true,Option.bind_some,show ¬ (1:Int)=0 from by decide,if_false]
  rw [Xc (x:=1+d) (by omega) (by omega),Xc (by omega) (by omega)]
 | li k s a n hk' hn hin =>
  simp only [Z5]
  rw [show (k == 0)=false from Vu (by omega),show (k == 1)=false from Vu (by omega),show (k == 9)=false from Vu (by omega),if_neg (by omega),if_neg (by omega),if_neg (by omega),if_neg (by omega),cond_false,cond_false,cond_false,Option.bind_some,Xc (by omega) (by omega)]
 | co s a d p n hd hp hn hwx hin =>
  have:n * (1+d+p)=n+n * (d+p):=by rw [Int.add_assoc,Int.mul_add,Int.mul_one]
  unfold Gr
  simp only [Z5,show ((9:Int) == 0)=false from rfl,show ((9:Int) == 1)=false from rfl,show ((9:Int) == 9)=true from rfl,show ((9:Int) != 9)=false from rfl,cond_false,cond_true,Option.bind_some,show ¬ (9:Int)=0 from by decide,show ¬ (9:Int)=1 from by decide,if_false,if_true]
  rw [Xc (x:=1+d) (by omega) (by omega),Xc (x:=1+d+p) (by omega) (by omega),Xc (x:=n * (1+d+p)) (by omega) (by omega),Xc (by omega) (by omega)]
 | at_ s a c i n hc h0 h1 hn hin=>rfl
def Xu (A:Zm) (r:Ze):List Int:=if r.kind=10 then [Z3i A r] else if r.kind=1 then ((seg A.segments r.segment).drop r.at_.toNat).take r.words.toNat else []
def Yr (f:Ze→Int→Tr×Int×Int) (g:Int→Ze×Int):Nat→Nat→Int→List Tr→List Tr×Int×Int
 | 0,_,left,acc=>(acc,left,0)
 | m+1,i,left,acc=>if (g i).2≠0 then (acc,left,(g i).2) else if (f (g i).1 left).2.2≠0 then (acc,(f (g i).1 left).2.1,(f (g i).1 left).2.2) else Yr f g m (i+1) (f (g i).1 left).2.1 (acc++[(f (g i).1 left).1])
def stK (A:Zm) (f:Ze→Int→Tr×Int×Int) (k:Ze) (left:Int):Tr×Int×Int :=
 let q:=Yr f (Yq A k) k.ptrs.toNat 0 left []
 (⟨1,Xu A k,q.1⟩,q.2)
def Zgo (A:Zm) (k:Ze) (left:Int):Tr×Int×Int:=(⟨k.kind,Xu A k,[]⟩,left,0)
def Zc7 (A:Zm) (f1 f2:Ze→Int→Tr×Int×Int) (r:Ze):Ze→Int→Tr×Int×Int :=
 if r.kind=9 then stK A f2 else if r.kind=1∨r.kind=8 then f1 else Zgo A
def Zhu (A:Zm) (f1 f2:Ze→Int→Tr×Int×Int) (d:Int) (r:Ze) (left:Int):Tr×Int×Int :=
 if r.kind=0 then (⟨r.kind,Xu A r,[]⟩,left,0)
 else if d < lvR r∨left < wtR r then (⟨r.kind,Xu A r,[]⟩,left,3)
 else
  let q:=Yr (Zc7 A f1 f2 r) (Yq A r) (Z5 r).toNat 0 (left - wtR r) []
  (⟨r.kind,Xu A r,q.1⟩,q.2)
def bad (_:Ze) (left:Int):Tr×Int×Int:=(⟨0,[],[]⟩,left,3)
def Uz (A:Zm):Nat→Ze→Int→Tr×Int×Int
 | 0=>Zhu A bad bad 0
 | 1=>Zhu A (Uz A 0) bad 1
 | d+2=>Zhu A (Uz A (d+1)) (Uz A d) ((d+2:Nat):Int)
def Xa (A:Zm) (k:Nat) (d:Nat):Ze→Int→Tr×Int×Int:=if k≤d then Uz A (d - k) else bad
theorem Zkj (d:Nat):Uz A d=Zhu A (Xa A 1 d) (Xa A 2 d) (d:Int):=by
 match d with
 | 0=>rfl
 | 1=>rfl
 | d+2 =>
  unfold Xa
  rw [if_pos (by omega),if_pos (by omega)]
  rfl
def Lf (A:Zm) (f:Ze→Int→Tr×Int×Int):Prop:=∀ k left,OKr A k→0≤left→(f k left).2.2=0→0≤(f k left).2.1∧(f k left).2.1≤left
theorem Zqp {f:Ze→Int→Tr×Int×Int} {g:Int→Ze×Int} (hf:Lf A f) (hg:∀ i,OKr A (g i).1):∀ (m i:Nat) (left:Int) (acc:List Tr),0≤left→(Yr f g m i left acc).2.2=0→0≤(Yr f g m i left acc).2.1∧(Yr f g m i left acc).2.1≤left
 | 0,i,left,acc,h0,_=>⟨h0,Int.le_refl _⟩
 | m+1,i,left,acc,h0,h=>by
  rw [Yr] at h ⊢
  by_cases h1:(g i).2≠0
  ·rw [if_pos h1] at h;exact absurd h h1
  rw [if_neg h1] at h ⊢
  by_cases h2:(f (g i).1 left).2.2≠0
  ·rw [if_pos h2] at h;exact absurd h h2
  rw [if_neg h2] at h ⊢
  have h2':(f (g i).1 left).2.2=0:=by omega
  obtain ⟨a1,a2⟩:=hf _ _ (hg i) h0 h2'
  obtain ⟨b1,b2⟩:=Zqp hf hg m (i+1) _ _ a1 h
  exact ⟨b1,by omega⟩
theorem Zr2:Lf A bad:=fun k left _ _ h=>by simp [bad] at h
theorem Z7n {f:Ze→Int→Tr×Int×Int} (hf:Lf A f):Lf A (stK A f):=fun k left hk h0 h=>Zqp hf (fun i=>Kw hk i) _ _ _ _ h0 h
theorem Z7l:Lf A (Zgo A):=fun k left _ h0 _=>⟨h0,Int.le_refl _⟩
theorem Z4b {f1 f2:Ze→Int→Tr×Int×Int} (h1:Lf A f1) (h2:Lf A f2) (r:Ze):Lf A (Zc7 A f1 f2 r):=by
 unfold Zc7
 split
 ·exact Z7n h2
 split
 ·exact h1
 exact Z7l
theorem Z7m (hw:WS A.segments) {f1 f2:Ze→Int→Tr×Int×Int} (h1:Lf A f1) (h2:Lf A f2) (d:Int):Lf A (Zhu A f1 f2 d):=fun r left hr h0 h=>by
 have hwt:=Z89 hw hr
 unfold Zhu at h ⊢
 by_cases k0:r.kind=0
 ·rw [if_pos k0];exact ⟨h0,Int.le_refl _⟩
 rw [if_neg k0] at h ⊢
 by_cases hb:d < lvR r∨left < wtR r
 ·rw [if_pos hb] at h;simp at h
 rw [if_neg hb] at h ⊢
 have:=Zqp (Z4b h1 h2 r) (fun i=>Kw hr i) (Z5 r).toNat 0 (left - wtR r) [] (by omega) h
 simp only
 omega
theorem Zmv (hw:WS A.segments):∀ d,Lf A (Uz A d):=fun d=>by
 induction d using Nat.strongRecOn with
 | ind d ih =>
  rw [Zkj]
  refine Z7m hw ?_ ?_ _
  ·unfold Xa
   split
   ·exact ih _ (by omega)
   exact Zr2
  unfold Xa
  split
  ·exact ih _ (by omega)
  exact Zr2
end
theorem Z1c {S R:Type} {s1 s2:S→Option (S ⊕ R)} (h:∀ s x,s1 s=some x→s2 s=some x):∀ (k:Nat) (s:S) (r:R),Za0 s1 k s=some r→Za0 s2 k s=some r
 | 0,s,r,q=>by simp [Za0] at q
 | k+1,s,r,q=>by
  simp only [Za0] at q ⊢
  cases hs:s1 s with
  | none=>rw [hs] at q;cases q
  | some x =>
   rw [hs] at q
   rw [h s x hs]
   cases x with
   | inl s'=>exact Z1c h k s' r q
   | inr r'=>exact q
theorem Zvp {S R:Type} {s1 s2:S→Option (S ⊕ R)} (h:∀ s x,s1 s=some x→s2 s=some x) {s:S} {r:R} (q:Z8 s1 s=some r):Z8 s2 s=some r:=by
 obtain ⟨k,hk⟩:=Zjn q
 exact Zkw (Z1c h k s r hk)
theorem Zan {α β:Type} {o o':Option α} {f f':α→Option β} (h:∀ x,o=some x→o'=some x) (hf:∀ x y,f x=some y→f' x=some y) {r:β} (q:o.bind f=some r):o'.bind f'=some r:=by
 obtain ⟨x,h1,h2⟩:=Option.bind_eq_some_iff.1 q
 rw [h x h1]
 exact hf x r h2
theorem Zkd {α:Type} (c:Bool) {a a' b b':Option α} (h1:∀ r,a=some r→a'=some r) (h2:∀ r,b=some r→b'=some r) (r:α) (q:cond c a b=some r):cond c a' b'=some r:=by
 cases c with
 | true=>exact h1 r q
 | false=>exact h2 r q
theorem Z7p {R:Type} {F:Nat→Option R} {r:R} (hm:∀ k r,F k=some r→F (k+1)=some r) {K:Nat} (h:F K=some r):lim F=some r:=by
 refine Zkh K fun k hk => ?_
 obtain ⟨d,rfl⟩:∃ d,k=K+d:=⟨k - K,by omega⟩
 clear hk
 induction d with
 | zero=>exact h
 | succ d ih=>exact hm _ _ ih
section
variable {A:Zm}
theorem Zuj {step:Int×Int→Option ((Int×Int) ⊕ ((Int×Int) ⊕ Int))} {F:Zh→Ze→Option (Int×Zh)} {f:Ze→Int→Tr×Int×Int} {r:Ze} (hw:WS A.segments) (hr:OKr A r) (n:Nat) (hn:n≤1073741824)
  (hs:∀ (i:Nat) (left:Int),i < n→step ((i:Int),left)=(Jl r i).bind fun y4=>cond (y4.2 != 0) (some (.inr (.inl (y4.2,left)))) ((F ⟨left⟩ y4.1).bind fun y6=>cond (y6.1 != 0) (some (.inr (.inl (y6.1,y6.2.left)))) (some (.inl (IntKind.i64.wrap ((i:Int)+1),y6.2.left)))))
  (he:∀ left,step ((n:Int),left)=some (.inr (.inr left)))
  (hf:Lf A f)
  (hF:∀ (i:Nat) (left:Int),i < n→(Yq A r i).2=0→0≤left∧left≤65536→∃ e l',F ⟨left⟩ (Yq A r i).1=some (e,⟨l'⟩)∧e=(f (Yq A r i).1 left).2.2∧(e=0→l'=(f (Yq A r i).1 left).2.1)):∀ (m i:Nat) (left:Int) (acc:List Tr),i+m=n→0≤left∧left≤65536 →
  ∃ z,Z8 step ((i:Int),left)=some z∧((Yr f (Yq A r) m i left acc).2.2=0→z = .inr (Yr f (Yq A r) m i left acc).2.1)∧((Yr f (Yq A r) m i left acc).2.2≠0→∃ x,z = .inl ((Yr f (Yq A r) m i left acc).2.2,x))
 | 0,i,left,acc,hi,hl=>by
  have:i=n:=by omega
  subst this
  exact ⟨_,Y7 (he left),fun _=>rfl,fun h=>absurd rfl h⟩
 | m+1,i,left,acc,hi,hl=>by
  have hst:=hs i left (by omega)
  rw [Z7f hw hr,Option.bind_some] at hst
  rw [Yr]
  by_cases h1:(Yq A r i).2≠0
  ·rw [if_pos h1]
   rw [show ((Yq A r i).2 != 0)=true from bne_iff_ne.2 h1,cond_true] at hst
   exact ⟨_,Y7 hst,fun h=>absurd h h1,fun _=>⟨_,rfl⟩⟩
  rw [if_neg h1]
  have h1':(Yq A r i).2=0:=by omega
  rw [show ((Yq A r i).2 != 0)=false from by rw [h1'];rfl,cond_false] at hst
  obtain ⟨e,l',q1,q2,q3⟩:=hF i left (by omega) h1' hl
  rw [q1,Option.bind_some] at hst
  simp only at hst
  by_cases h2:(f (Yq A r i).1 left).2.2≠0
  ·rw [if_pos h2]
   rw [q2,show ((f (Yq A r i).1 left).2.2 != 0)=true from bne_iff_ne.2 h2,cond_true] at hst
   exact ⟨_,Y7 hst,fun h=>absurd h h2,fun _=>⟨_,rfl⟩⟩
  rw [if_neg h2]
  have h2':(f (Yq A r i).1 left).2.2=0:=by omega
  have e0:e=0:=q2.trans h2'
  have hl':=q3 e0
  have hb:=hf _ left (Kw hr i) hl.1 h2'
  rw [e0,show ((0:Int) != 0)=false from rfl,cond_false,Xc (by omega) (by omega),hl'] at hst
  rw [Qw (s':=(((i+1:Nat):Int),(f (Yq A r i).1 left).2.1)) hst]
  exact Zuj hw hr n hn hs he hf hF m (i+1) _ _ (by omega) ⟨hb.1,by omega⟩
def CK (A:Zm) (F:Zh→Ze→Int→Option (Int×Zh)) (f:Ze→Int→Tr×Int×Int) (d:Int) (r:Ze) (left:Int):Prop:=∃ e l',F ⟨left⟩ r d=some (e,⟨l'⟩)∧e=(f r left).2.2∧(e=0→l'=(f r left).2.1)
theorem Zgy {r:Ze} (h:OKr A r):0≤Z5 r∧Z5 r≤1073741824:=by
 cases h with
 | z=>simp [Z5,r0]
 | st s a d p hd hp hin=>simp only [Z5,if_true];omega
 | li k s a n hk hn hin=>simp only [Z5];rw [if_neg (by omega)];omega
 | co s a d p n hd hp hn hwx hin=>simp only [Z5];rw [if_neg (by omega)];omega
 | at_ s a c i n hc h0 h1 hn hin=>simp [Z5]
theorem Z6x (hw:WS A.segments) {f1 f2 f3:Zh→Ze→Int→Option (Int×Zh)} {f:Ze→Int→Tr×Int×Int} (hf:Lf A f) {r:Ze} (hr:OKr A r) {d left:Int} (hl:0≤left∧left≤65536)
  (hF:∀ (i:Nat) (l:Int),i < (Z5 r).toNat→(Yq A r i).2=0→0≤l∧l≤65536→CK A f1 f d (Yq A r i).1 l) :
  ∃ e l',Jh f1 f2 f3 ⟨left⟩ r d=some (e,⟨l'⟩)∧e=(Yr f (Yq A r) (Z5 r).toNat 0 left []).2.2∧(e=0→l'=(Yr f (Yq A r) (Z5 r).toNat 0 left []).2.1):=by
 have hk:=Zgy hr
 unfold Jh
 rw [Zha,Option.bind_some]
 have hN:Z5 r=(((Z5 r).toNat:Nat):Int):=by omega
 obtain ⟨z,z1,z2,z3⟩:=Zuj (step:=Ji f1 r d (Z5 r)) (F:=fun c k=>f1 c k d) (f:=f) hw hr (Z5 r).toNat (by omega) (fun i l hi=>by
  unfold Ji
  simp only
  rw [show decide ((i:Int) < Z5 r)=true from by rw [decide_eq_true_eq];omega,cond_true]) (fun l=>by
  unfold Ji
  simp only
  rw [show decide ((((Z5 r).toNat:Nat):Int) < Z5 r)=false from by rw [decide_eq_false_iff_not];omega,cond_false]) hf hF (Z5 r).toNat 0 left [] (by omega) hl
 rw [show (((0:Nat):Int))=0 from rfl] at z1
 rw [z1,Option.bind_some]
 by_cases hq:(Yr f (Yq A r) (Z5 r).toNat 0 left []).2.2=0
 ·rw [z2 hq]
  exact ⟨_,_,rfl,hq.symm,fun _=>rfl⟩
 obtain ⟨x,hx⟩:=z3 hq
 rw [hx]
 exact ⟨_,_,rfl,rfl,fun h=>absurd h hq⟩
theorem Z0l (hw:WS A.segments) {f1 f2 f3:Zh→Ze→Int→Option (Int×Zh)} {f:Ze→Int→Tr×Int×Int} (hf:Lf A f) {r:Ze} (hr:OKr A r) {d left:Int} (hd:0≤d∧d≤1000) (hl:0≤left∧left≤65536)
  (hF:∀ (i:Nat) (l:Int),i < (Z5 r).toNat→(Yq A r i).2=0→0≤l∧l≤65536→CK A f2 f (d - 1) (Yq A r i).1 l) :
  ∃ e l',X7 f1 f2 f3 ⟨left⟩ r d=some (e,⟨l'⟩)∧e=(Yr f (Yq A r) (Z5 r).toNat 0 left []).2.2∧(e=0→l'=(Yr f (Yq A r) (Z5 r).toNat 0 left []).2.1):=by
 have hk:=Zgy hr
 unfold X7
 rw [Zha,Option.bind_some]
 obtain ⟨z,z1,z2,z3⟩:=Zuj (step:=Qh f2 r d (Z5 r)) (F:=fun c k=>f2 c k (d - 1)) (f:=f) hw hr (Z5 r).toNat (by omega) (fun i l hi=>by
  unfold Qh
  simp only
  rw [show decide ((i:Int) < Z5 r)=true from by rw [decide_eq_true_eq];omega,cond_true,Xc (x:=d - 1) (by omega) (by omega)]) (fun l=>by
  unfold Qh
  simp only
  rw [show decide ((((Z5 r).toNat:Nat):Int) < Z5 r)=false from by rw [decide_eq_false_iff_not];omega,cond_false]) hf hF (Z5 r).toNat 0 left [] (by omega) hl
 rw [show (((0:Nat):Int))=0 from rfl] at z1
 rw [z1,Option.bind_some]
 by_cases hq:(Yr f (Yq A r) (Z5 r).toNat 0 left []).2.2=0
 ·rw [z2 hq]
  exact ⟨_,_,rfl,hq.symm,fun _=>rfl⟩
 obtain ⟨x,hx⟩:=z3 hq
 rw [hx]
 exact ⟨_,_,rfl,rfl,fun h=>absurd h hq⟩
theorem Z00 {g:Int→Ze×Int} (n:Nat) (hg:∀ i:Nat,i < n→(g i).2=0):∀ (m i:Nat) (left:Int) (acc:List Tr),i+m=n→(Yr (Zgo A) g m i left acc).2=(left,0)
 | 0,i,left,acc,_=>rfl
 | m+1,i,left,acc,h=>by
  rw [Yr,if_neg (by rw [hg i (by omega)];simp),if_neg (by simp [Zgo])]
  exact Z00 n hg m (i+1) left _ (by omega)
theorem Z7e {r:Ze} (hk:2≤r.kind∧r.kind≤7) (i:Int):(Yq A r i).2=0:=by
 unfold Yq
 split
 ·rfl
 rw [if_neg (by omega),if_neg (by omega),if_neg (by omega)]
theorem Zht {r:Ze} (hk:r.kind=9) {i:Int} (h:0≤i∧i < Z5 r):(Yq A r i).1.kind=1:=by
 unfold Yq
 rw [if_neg (by omega),if_neg (by omega),if_neg (by omega),if_pos hk]
theorem Z5c (hw:WS A.segments) {f1 f2 f3:Zh→Ze→Int→Option (Int×Zh)} {g1 g2:Ze→Int→Tr×Int×Int} {r:Ze} (hr:OKr A r) {d left:Int} (hd:0≤d∧d≤1000) (hl:0≤left∧left≤65536)
  (hK:(r.kind=1∨r.kind=8)→1≤d→∀ l,0≤l∧l≤65536→∃ e l',f2 ⟨l⟩ r (d - 1)=some (e,⟨l'⟩)∧e=(Yr g1 (Yq A r) (Z5 r).toNat 0 l []).2.2∧(e=0→l'=(Yr g1 (Yq A r) (Z5 r).toNat 0 l []).2.1))
  (hS:r.kind=9→1≤d→(0 < r.count→2≤d)→∀ l,0≤l∧l≤65536→∃ e l',f3 ⟨l⟩ r (d - 1)=some (e,⟨l'⟩)∧e=(Yr (stK A g2) (Yq A r) (Z5 r).toNat 0 l []).2.2∧(e=0→l'=(Yr (stK A g2) (Yq A r) (Z5 r).toNat 0 l []).2.1)) :
  ∃ e l',Q3 f1 f2 f3 ⟨left⟩ r d=some (e,⟨l'⟩)∧e=(Zhu A g1 g2 d r left).2.2∧(e=0→l'=(Zhu A g1 g2 d r left).2.1):=by
 have hwt:=Z89 hw hr
 have hkd:=Z37 hr
 have hkk:Yk r=some r.kind:=rfl
 unfold Q3 Zhu
 rw [Z5q,Z6g hw hr,hkk]
 have hz:(cond (decide (d < lvR r)) (some true) ((some (wtR r)).bind fun y7=>some (cond (decide (d < lvR r)) true (decide (left < y7)))))=some (decide (d < lvR r∨left < wtR r)):=by
  by_cases h0:d < lvR r
  ·rw [decide_eq_true h0,cond_true,show decide (d < lvR r∨left < wtR r)=true from decide_eq_true (.inl h0)]
  rw [decide_eq_false h0,cond_false,Option.bind_some,cond_false]
  congr 1
  rw [decide_eq_decide]
  omega
 rw [Option.bind_some,hz,Option.bind_some]
 by_cases k0:r.kind=0
 ·rw [if_pos k0]
  have e1:lvR r=0:=by unfold lvR;rw [if_pos k0]
  have e2:wtR r=0:=by unfold wtR;rw [if_pos k0]
  rw [e1,e2,show decide (d < 0∨left < 0)=false from by rw [decide_eq_false_iff_not];omega,cond_false,Option.bind_some,Option.bind_some,k0]
  refine ⟨0,left,?_,rfl,fun _=>rfl⟩
  show some ((0:Int),(⟨IntKind.i64.wrap (left - 0)⟩:Zh))=_
  rw [Xc (by omega) (by omega),Int.sub_zero]
 rw [if_neg k0]
 by_cases hb:d < lvR r∨left < wtR r
 ·rw [if_pos hb,decide_eq_true hb,cond_true]
  exact ⟨_,_,rfl,rfl,fun h=>by simp at h⟩
 rw [if_neg hb,decide_eq_false hb,cond_false,Option.bind_some,Option.bind_some,Xc (x:=left - wtR r) (by omega) (by omega),Xc (x:=d - 1) (by omega) (by omega)]
 have hlv:1≤d:=by
  have:1≤lvR r:=by unfold lvR;rw [if_neg k0];split <;> omega
  omega
 have hl':0≤left - wtR r∧left - wtR r≤65536:=by omega
 by_cases k18:r.kind=1∨r.kind=8
 ·have e1:(cond (r.kind == 1) (some (r.kind == 1)) (some (r.kind == 8)))=some true:=by
   rcases k18 with k | k <;> rw [k] <;> rfl
  have hkf:Zc7 A g1 g2 r=g1:=by unfold Zc7;rw [if_neg (by omega),if_pos k18]
  rw [e1,Option.bind_some,cond_true,hkf]
  obtain ⟨e,l',q1,q2,q3⟩:=hK k18 hlv _ hl'
  rw [q1]
  exact ⟨e,l',rfl,q2,q3⟩
 have e1:(cond (r.kind == 1) (some (r.kind == 1)) (some (r.kind == 8)))=some false:=by
  rw [show (r.kind == 1)=false from Vu (by omega),show (r.kind == 8)=false from Vu (by omega)];rfl
 rw [e1,Option.bind_some,cond_false]
 by_cases k9:r.kind=9
 ·have hkf:Zc7 A g1 g2 r=stK A g2:=by unfold Zc7;rw [if_pos k9]
  have hc:0 < r.count→2≤d:=fun hc=>by
   have:lvR r=2:=by unfold lvR;rw [if_neg k0,if_pos ⟨k9,hc⟩]
   omega
  rw [show (r.kind == 9)=true from by rw [k9];rfl,cond_true,hkf]
  obtain ⟨e,l',q1,q2,q3⟩:=hS k9 hlv hc _ hl'
  rw [q1]
  exact ⟨e,l',rfl,q2,q3⟩
 have hkf:Zc7 A g1 g2 r=Zgo A:=by unfold Zc7;rw [if_neg k9,if_neg k18]
 rw [show (r.kind == 9)=false from Vu k9,cond_false,hkf]
 have hgo:(Yr (Zgo A) (Yq A r) (Z5 r).toNat 0 (left - wtR r) []).2=(left - wtR r,0):=by
  by_cases k10:r.kind=10
  ·have:Z5 r=0:=by
    cases hr with
    | at_ s a c i n hc h0 h1 hn hin=>simp [Z5]
    | z=>simp [r0] at k10
    | st=>simp at k10
    | li k s a n hk=>simp only at k10;omega
    | co=>simp at k10
   rw [this];rfl
  exact Z00 (Z5 r).toNat (fun i _=>Z7e (by omega) i) _ 0 _ _ (by omega)
 refine ⟨0,left - wtR r,rfl,?_,fun _ => ?_⟩
 ·simp only;rw [hgo]
 simp only;rw [hgo]
theorem Z6z (hw:WS A.segments):∀ (K:Nat),(∀ (d:Nat) r left,d≤1000→OKr A r→0≤left∧left≤65536→2 * d+1≤K→CK A (Zt K).1 (Uz A d) d r left) ∧
  (∀ (d:Nat) r left,d≤1000→OKr A r→0≤left∧left≤65536→2 * d+2≤K→∃ e l',(Zt K).2.1 ⟨left⟩ r d=some (e,⟨l'⟩)∧e=(Yr (Uz A d) (Yq A r) (Z5 r).toNat 0 left []).2.2∧(e=0→l'=(Yr (Uz A d) (Yq A r) (Z5 r).toNat 0 left []).2.1)) ∧
  (∀ (d:Nat) r left,d≤1000→OKr A r→r.kind=9→0≤left∧left≤65536→(0 < r.count→1≤d)→2 * d+2≤K→∃ e l',(Zt K).2.2 ⟨left⟩ r d=some (e,⟨l'⟩)∧e=(Yr (stK A (Xa A 1 d)) (Yq A r) (Z5 r).toNat 0 left []).2.2∧(e=0→l'=(Yr (stK A (Xa A 1 d)) (Yq A r) (Z5 r).toNat 0 left []).2.1))
 | 0=>⟨fun d r left _ _ _ h=>by omega,fun d r left _ _ _ h=>by omega,fun d r left _ _ _ _ _ h=>by omega⟩
 | K+1=>by
  obtain ⟨i1,i2,i3⟩:=Z6z hw K
  refine ⟨fun d r left hd hr hl hK => ?_,fun d r left hd hr hl hK => ?_,fun d r left hd hr k9 hl hc hK => ?_⟩
  ·show ∃ e l',Q3 (Zt K).1 (Zt K).2.1 (Zt K).2.2 ⟨left⟩ r d=some (e,⟨l'⟩)∧_
   rw [Zkj]
   refine Z5c hw hr (by omega) hl (fun k18 h1 l hl => ?_) (fun k9 h1 hc l hl => ?_)
   ·have:=i2 (d - 1) r l (by omega) hr hl (by omega)
    rw [show (((d - 1:Nat):Int))=(d:Int) - 1 by omega] at this
    unfold Xa
    rw [if_pos (by omega)]
    exact this
   have:=i3 (d - 1) r l (by omega) hr k9 hl (fun h=>by have:=hc h;omega) (by omega)
   rw [show (((d - 1:Nat):Int))=(d:Int) - 1 by omega] at this
   have e:Xa A 1 (d - 1)=Xa A 2 d:=by
    unfold Xa
    by_cases h2:2≤d
    ·rw [if_pos (by omega),if_pos h2,show d - 1 - 1=d - 2 by omega]
    rw [if_neg (by omega),if_neg h2]
   rw [e] at this
   exact this
  ·show ∃ e l',Jh (Zt K).1 (Zt K).2.1 (Zt K).2.2 ⟨left⟩ r d=some (e,⟨l'⟩)∧_
   exact Z6x hw (Zmv hw d) hr hl fun i l hi _ hl=>i1 d _ l hd (Kw hr i) hl (by omega)
  show ∃ e l',X7 (Zt K).1 (Zt K).2.1 (Zt K).2.2 ⟨left⟩ r d=some (e,⟨l'⟩)∧_
  have hlf:Lf A (Xa A 1 d):=by
   unfold Xa
   split
   ·exact Zmv hw _
   exact Zr2
  refine Z0l hw (Z7n hlf) hr (by omega) hl fun i l hi _ hl => ?_
  have hkn:Z5 r=r.count:=by unfold Z5;rw [if_neg (by omega)]
  have hd1:1≤d:=hc (by omega)
  have h:=i2 (d - 1) (Yq A r i).1 l (by omega) (Kw hr i) hl (by omega)
  rw [show (((d - 1:Nat):Int))=(d:Int) - 1 by omega] at h
  have hk1:=Zht (A:=A) k9 (i:=(i:Int)) (by omega)
  have hkk:Z5 (Yq A r i).1=(Yq A r i).1.ptrs:=by unfold Z5;rw [if_pos hk1]
  rw [hkk] at h
  have e:Xa A 1 d=Uz A (d - 1):=by unfold Xa;rw [if_pos hd1]
  rw [e]
  exact h
def LE3 {α β γ δ:Type} (f g:α→β→γ→Option δ):Prop:=∀ x y z r,f x y z=some r→g x y z=some r
theorem Z0m:∀ (k:Nat),LE3 (Zt k).1 (Zt (k+1)).1∧LE3 (Zt k).2.1 (Zt (k+1)).2.1∧LE3 (Zt k).2.2 (Zt (k+1)).2.2
 | 0=>⟨fun x y z r h=>(by cases h),fun x y z r h=>(by cases h),fun x y z r h=>(by cases h)⟩
 | k+1=>by
  obtain ⟨i1,i2,i3⟩:=Z0m k
  refine ⟨fun c r d v h => ?_,fun c r d v h => ?_,fun c r d v h => ?_⟩
  ·refine Zan (fun _ q=>q) (fun z=>Zkd _ (fun _ q=>q) fun _=>Zan (fun _ q=>q) fun w _=>Zan (fun _ q=>q) fun u _=>Zan (fun _ q=>q) fun b=>Zkd _ (fun _=>Zan (fun x q=>i2 _ _ _ x q) fun _ _ q=>q) (Zkd _ (fun _=>Zan (fun x q=>i3 _ _ _ x q) fun _ _ q=>q) fun _ q=>q)) h
  ·refine Zan (fun _ q=>q) (fun n _=>Zan (fun x=>Zvp fun s y q => ?_) fun _ _ q=>q) h
   exact Zkd _ (fun _=>Zan (fun _ q=>q) fun u=>Zkd _ (fun _ q=>q) fun _=>Zan (fun x q=>i1 _ _ _ x q) fun _ _ q=>q) (fun _ q=>q) y q
  refine Zan (fun _ q=>q) (fun n _=>Zan (fun x=>Zvp fun s y q => ?_) fun _ _ q=>q) h
  exact Zkd _ (fun _=>Zan (fun _ q=>q) fun u=>Zkd _ (fun _ q=>q) fun _=>Zan (fun x q=>i2 _ _ _ x q) fun _ _ q=>q) (fun _ q=>q) y q
theorem Z5d (hw:WS A.segments) {d:Nat} (hd:d≤1000) {r:Ze} (hr:OKr A r) {left:Int} (hl:0≤left∧left≤65536):CK A Zal (Uz A d) d r left:=by
 obtain ⟨e,l',h1,h2,h3⟩:=(Z6z hw (2 * d+1)).1 d r left hd hr hl (Nat.le_refl _)
 exact ⟨e,l',Z7p (F:=fun k=>(Zt k).1 ⟨left⟩ r d) (fun k x=>(Z0m k).1 _ _ _ x) h1,h2,h3⟩
def Zuk (x m:Int):Int:=if m < (if x < 0 then 0 else x) then m else (if x < 0 then 0 else x)
def Uh (x:Ym):Ym:=⟨Zuk x.Depth 64,Zuk x.Weight 65536,Zuk x.MaxD 4096,Zuk x.MaxOut 131072⟩
theorem Z5r (x:Ym):Zdg x=some (Uh x):=rfl
theorem Zp9 (x m:Int) (hm:0≤m):0≤Zuk x m∧Zuk x m≤m:=by unfold Zuk;repeat' split;all_goals omega
def Z2y (A:Zm) (x:Ym):Int×Int :=
 if (atR A 0 0).2≠0 then (0,(atR A 0 0).2)
 else
  let q:=Uz A (Uh x).Depth.toNat (atR A 0 0).1 (Uh x).Weight
  if q.2.2≠0 then (0,q.2.2) else ((Uh x).Weight - q.2.1,0)
theorem Z6y (hw:WS A.segments) (x:Ym):Zbu (some A) x=some (Z2y A x):=by
 unfold Zbu Z2y
 rw [Z5r,Option.bind_some,Z4q hw,Option.bind_some]
 have hd:0≤(Uh x).Depth∧(Uh x).Depth≤64:=Zp9 _ _ (by decide)
 have hW:0≤(Uh x).Weight∧(Uh x).Weight≤65536:=Zp9 _ _ (by decide)
 by_cases h:(atR A 0 0).2≠0
 ·rw [if_pos h,show ((atR A 0 0).2 != 0)=true from bne_iff_ne.2 h,cond_true]
 rw [if_neg h,show ((atR A 0 0).2 != 0)=false from bne_eq_false_iff_eq.2 (by omega),cond_false]
 obtain ⟨e,l',h1,h2,h3⟩:=Z5d hw (d:=(Uh x).Depth.toNat) (by omega) (Zpf (A:=A) 0 0) hW
 rw [show (((Uh x).Depth.toNat:Nat):Int)=(Uh x).Depth by omega] at h1
 rw [h1,Option.bind_some]
 simp only
 rw [h2]
 by_cases hq:(Uz A (Uh x).Depth.toNat (atR A 0 0).1 (Uh x).Weight).2.2≠0
 ·rw [if_pos hq,show ((Uz A (Uh x).Depth.toNat (atR A 0 0).1 (Uh x).Weight).2.2 != 0)=true from bne_iff_ne.2 hq,cond_true]
 have h0:(Uz A (Uh x).Depth.toNat (atR A 0 0).1 (Uh x).Weight).2.2=0:=by omega
 have hb:=Zmv hw _ _ _ (Zpf (A:=A) 0 0) hW.1 h0
 rw [if_neg hq,show ((Uz A (Uh x).Depth.toNat (atR A 0 0).1 (Uh x).Weight).2.2 != 0)=false from bne_eq_false_iff_eq.2 h0,cond_false,h3 (by rw [h2,h0]),Xc (by omega) (by omega)]
end
section
variable {A:Zm}
theorem Ych (hw:WS A.segments) (s:Int):∀ w∈seg A.segments s,0≤w∧w < 18446744073709551616:=by
 unfold seg
 cases h:A.segments[s.toNat]? with
 | none=>simp
 | some x=>exact hw.w x (List.mem_of_getElem? h)
end
theorem Ydp (t:Tr):(⟨t.Kind,t.Words,t.Kids⟩:Tr)=t:=by cases t;rfl
section
variable {A:Zm}
theorem Z1b (hw:WS A.segments) (k d:Nat):Lf A (Xa A k d):=by
 unfold Xa
 split
 ·exact Zmv hw _
 exact Zr2
def Zp4 (A:Zm) (x:Ym):Tr×Int×Int :=
 if (atR A 0 0).2≠0 then (⟨0,[],[]⟩,0,(atR A 0 0).2)
 else
  let q:=Uz A (Uh x).Depth.toNat (atR A 0 0).1 (Uh x).Weight
  if q.2.2≠0 then (⟨0,[],[]⟩,0,q.2.2) else (q.1,(Uh x).Weight - q.2.1,0)
theorem Ya0 (x:Ym):(Zp4 A x).2=Z2y A x:=by
 unfold Zp4 Z2y
 by_cases h:(atR A 0 0).2≠0
 ·rw [if_pos h,if_pos h]
 rw [if_neg h,if_neg h]
 simp only
 by_cases hq:(Uz A (Uh x).Depth.toNat (atR A 0 0).1 (Uh x).Weight).2.2≠0
 ·rw [if_pos hq,if_pos hq]
 rw [if_neg hq,if_neg hq]
end
section
variable {A:Zm}
theorem Zv4 (hw:WS A.segments) {r:Ze} (h:OKr A r):((Xu A r).length:Int)=Uy r:=by
 unfold Xu Uy
 cases h with
 | z=>rfl
 | li k s a n hk hn hin=>simp only;rw [if_neg (by omega),if_neg (by omega),if_neg (by omega),if_neg (by omega)];rfl
 | co=>rfl
 | at_=>rfl
 | st s a d p hd hp hin =>
  have hi':=inB_iff.1 hin
  simp only [show ¬ (1:Int)=10 from by decide,if_false,if_true,List.length_take,List.length_drop]
  omega
theorem Z6h (hw:WS A.segments) {r:Ze} (h:OKr A r) {i:Nat} (hi:i < (Xu A r).length):(Xu A r)[i]=Z40 A r (i:Int):=by
 have hl:=Zv4 hw h
 unfold Z40
 rw [if_neg (by omega)]
 cases h with
 | z=>simp [Xu,r0] at hi
 | li k s a n hk hn hin =>
  have:Xu A ⟨some A,k,s,a,0,0,n,0,0⟩=[]:=by unfold Xu;rw [if_neg (by simp only;omega),if_neg (by simp only;omega)]
  simp [this] at hi
 | co=>simp [Xu] at hi
 | at_ s a c j n hc h0 h1 hn hin =>
  have:i=0:=by
   simp [Xu] at hi;exact hi
  subst this
  rfl
 | st s a d p hd hp hin =>
  have hi':=inB_iff.1 hin
  have hid:(i:Int) < d:=by simp [Uy] at hl;omega
  simp only [Xu,show ¬ (1:Int)=10 from by decide,if_false,if_true,List.getElem_take,List.getElem_drop]
  unfold wd
  rw [show (a+(i:Int)).toNat=a.toNat+i by omega,List.getElem?_eq_getElem (by omega)]
  rfl
end
theorem Yy {t x:Tr} (h:x∈t.Kids):SizeOf.sizeOf x < SizeOf.sizeOf t:=by
 obtain ⟨k,w,ks⟩:=t
 have:=List.sizeOf_lt_of_mem h
 simp only [Zd.mk.sizeOf_spec]
 simp only at this
 omega
theorem Zu3 {α R:Type} (xs:List α) (step:Int→Option (Int ⊕ R)) (p:α→Bool) (e o:R) (hl:(xs.length:Int)≤140737488355328)
  (h1:∀ (i:Nat) (x:α),i < xs.length→xs[i]? = some x→x∈xs→step i=some (if p x=true then .inr e else .inl (IntKind.i64.wrap ((i:Int)+1)))) (h2:step xs.length=some (.inr o)):Z8 step 0=some (if xs.any p=true then e else o):=by
 have hloop:=Z5s xs (fun i (_:Unit)=>i) step (fun _ x=>some (if p x=true then .inr e else .inl ())) (fun _=>o) (fun i s x hi hx=>by
  rw [h1 i x hi hx (List.mem_of_getElem? hx),Xc (by omega) (by omega)]
  cases p x <;> rfl) (fun _=>h2) ()
 refine hloop.trans ?_
 rw [Zuo p (fun s _=>s) e (fun _ _=>True) xs.length xs () 0 (by omega) trivial (fun s k x _ _ _=>⟨by cases p x <;> rfl,fun _=>trivial⟩)]
def tr {α:Type} (p:α→Bool):List α→List α
 | []=>[]
 | x::xs=>match tr p xs with
  | []=>if p x=true then [] else [x]
  | y::ys=>x::y::ys
def trN {α:Type} (p:α→Bool) (l:List α):Nat→Nat
 | 0=>0
 | n+1=>match l[n]? with
  | some x=>if p x=true then trN p l n else n+1
  | none=>0
theorem Zl0 {α:Type} {p:α→Bool} {x:α} (h:p x=true):∀ l:List α,tr p (l++[x])=tr p l
 | []=>by simp [tr,h]
 | y::l=>by simp only [List.cons_append,tr,Zl0 h l]
theorem Ztu {α:Type} {p:α→Bool} {x:α} (h:p x=false):∀ l:List α,tr p (l++[x])=l++[x]
 | []=>by simp [tr,h]
 | y::l=>by
  simp only [List.cons_append,tr,Ztu h l]
  cases hl:l++[x] with
  | nil=>simp at hl
  | cons a b=>rfl
theorem Zvv {α:Type} {p:α→Bool} {l:List α}:∀ n,n≤l.length→l.take (trN p l n)=tr p (l.take n)∧trN p l n≤n
 | 0,_=>by simp [trN,tr]
 | n+1,h=>by
  have hn:l[n]? = some l[n]:=List.getElem?_eq_getElem (by omega)
  have e:l.take (n+1)=l.take n++[l[n]]:=by rw [List.take_add_one,hn];rfl
  obtain ⟨h1,h2⟩:=Zvv (p:=p) (l:=l) n (by omega)
  unfold trN
  rw [hn]
  simp only
  split
  ·rename_i hp
   rw [e,Zl0 hp]
   exact ⟨h1,by omega⟩
  rename_i hp
  rw [e,Ztu (by simpa using hp),← e]
  exact ⟨rfl,Nat.le_refl _⟩
theorem Zkz {α:Type} (p:α→Bool):∀ l:List α,(tr p l).length≤l.length
 | []=>by simp [tr]
 | x::l=>by
  have:=Zkz p l
  simp only [tr]
  split
  ·split <;> simp
  rename_i y ys he
  rw [he] at this
  simp at this ⊢
  omega
theorem Zia {α:Type} {p:α→Bool} {x:α}:∀ {l:List α},x∈tr p l→x∈l
 | [],h=>by simp [tr] at h
 | y::l,h=>by
  simp only [tr] at h
  split at h
  ·split at h
   ·simp at h
   simp at h;simp [h]
  rename_i z zs he
  rw [← he] at h
  rcases List.mem_cons.1 h with h | h
  ·simp [h]
  exact List.mem_cons_of_mem _ (Zia h)
theorem Zyh {α:Type} {p:α→Bool}:∀ l:List α,tr p (tr p l)=tr p l
 | []=>rfl
 | x::l=>by
  have ih:=Zyh (p:=p) l
  simp only [tr]
  cases h:tr p l with
  | nil =>
   simp only
   cases hx:p x <;> simp [tr,hx]
  | cons y ys =>
   rw [h] at ih
   simp only [tr] at ih ⊢
   rw [ih]
theorem Z3r {α β:Type} {p:α→Bool} {q:β→Bool} {f:α→β} (h:∀ x,q (f x)=p x):∀ l:List α,tr q (l.map f)=(tr p l).map f
 | []=>rfl
 | x::l=>by
  simp only [List.map_cons,tr,Z3r h l]
  cases tr p l with
  | nil=>simp only [List.map_nil,h];split <;> rfl
  | cons y ys=>rfl
theorem Zzi {α:Type} (l:List α) (p:α→Bool) (step:Int→Option (Int ⊕ Int)) (hl:(l.length:Int)≤140737488355328)
  (h0:step 0=some (.inr 0)) (h1:∀ (n:Nat) (x:α),l[n]? = some x→n < l.length→step ((n+1:Nat):Int)=some (if p x=true then .inl (n:Int) else .inr ((n+1:Nat):Int))):Z8 step (l.length:Int)=some (trN p l l.length:Int):=by
 have key:∀ n:Nat,n≤l.length→Z8 step (n:Int)=some (trN p l n:Int):=fun n=>by
  induction n with
  | zero=>intro _;exact Y7 h0
  | succ n ih =>
   intro hn
   have hx:l[n]? = some l[n]:=List.getElem?_eq_getElem (by omega)
   have h:=h1 n _ hx (by omega)
   unfold trN
   rw [hx]
   simp only
   split
   ·rename_i hp
    rw [if_pos hp] at h
    rw [Qw h]
    exact ih (by omega)
   rename_i hp
   rw [if_neg hp] at h
   exact Y7 h
 exact key l.length (Nat.le_refl _)
theorem Zrf {α:Type} {l:List α} {n:Nat} (h:n≤l.length):Zhp l 0 (n:Int)=some (l.take n):=by
 rw [Z4t (by omega) (by omega) (by omega)]
 simp
theorem Yby {n:Nat}:decide (0 < ((n+1:Nat):Int))=true:=by rw [decide_eq_true_eq];omega
theorem Zz5 {l:List Int} (hl:(l.length:Int)≤140737488355328):Gc l=some (tr (fun x=>x == 0) l):=by
 have hloop:=Zzi l (fun x=>x == 0) (Va l) hl (by unfold Va;rfl) (fun n x hx hn=>by
  unfold Va
  rw [Yby,cond_true,Xc (by omega) (by omega)]
  have e:((n+1:Nat):Int) - 1=(n:Int):=by omega
  rw [e,Jr hx]
  simp only [Option.bind_some,cond_true]
  cases x == 0 <;> rfl)
 obtain ⟨h1,h2⟩:=Zvv (p:=fun x=>x == 0) (l:=l) l.length (Nat.le_refl _)
 unfold Gc
 rw [hloop,Option.bind_some,Zrf h2,Option.bind_some,h1,List.take_length]
theorem Z2a {l:List Tr} (hl:(l.length:Int)≤140737488355328):Gz l=some (tr (fun x=>x.Kind == 0) l):=by
 have hloop:=Zzi l (fun x=>x.Kind == 0) (Vy l) hl (by unfold Vy;rfl) (fun n x hx hn=>by
  unfold Vy
  rw [Yby,cond_true,Xc (by omega) (by omega)]
  have e:((n+1:Nat):Int) - 1=(n:Int):=by omega
  rw [e,Jr hx]
  simp only [Option.bind_some,cond_true]
  cases x.Kind == 0 <;> rfl)
 obtain ⟨h1,h2⟩:=Zvv (p:=fun x=>x.Kind == 0) (l:=l) l.length (Nat.le_refl _)
 unfold Gz
 rw [hloop,Option.bind_some,Zrf h2,Option.bind_some,h1,List.take_length]
theorem Z8g {l:List Int} (hl:l.length * 8≤140737488355328):Ul l=some (tr (fun x=>x == 0) l):=by
 have hloop:=Zzi l (fun x=>x == 0) (Kq l) (by omega) (by unfold Kq;rfl) (fun n x hx hn=>by
  unfold Kq
  rw [Yby,cond_true,Xc (by omega) (by omega)]
  have e:((n+1:Nat):Int) - 1=(n:Int):=by omega
  rw [e,Jr hx]
  simp only [Option.bind_some,cond_true]
  cases x == 0 <;> rfl)
 obtain ⟨h1,h2⟩:=Zvv (p:=fun x=>x == 0) (l:=l) l.length (Nat.le_refl _)
 have h3:=Zkz (fun x=>x == 0) l
 unfold Ul
 rw [hloop,Option.bind_some,Zrf h2,Option.bind_some,h1,List.take_length,Zbc (by rw [List.length_nil];omega) (by rw [List.length_nil];omega)]
 rfl
inductive Bd:Tr→Prop
 | mk (t:Tr) (h1:t.Words.length * 8≤140737488355328) (h2:t.Kids.length * 56≤140737488355328) (h3:∀ w∈t.Words,0≤w∧w < 18446744073709551616) (h4:∀ k∈t.Kids,Bd k):Bd t
theorem Bd.w {t:Tr} (h:Bd t):t.Words.length * 8≤140737488355328:=by cases h;assumption
theorem Bd.k {t:Tr} (h:Bd t):t.Kids.length * 56≤140737488355328:=by cases h;assumption
theorem Bd.u {t:Tr} (h:Bd t):∀ w∈t.Words,0≤w∧w < 18446744073709551616:=by cases h;assumption
theorem Bd.all {t:Tr} (h:Bd t):∀ k∈t.Kids,Bd k:=by cases h;assumption
def nrm (t:Tr):Tr :=
 if t.Kind=0 then ⟨0,[],[]⟩
 else if t.Kind=1 then ⟨1,tr (fun x=>x == 0) t.Words,tr (fun x=>x.Kind == 0) (t.Kids.attach.map fun k=>nrm k.1)⟩
 else ⟨t.Kind,t.Words,t.Kids.attach.map fun k=>nrm k.1⟩
termination_by SizeOf.sizeOf t
decreasing_by all_goals exact Yy k.2
theorem Zfi (t:Tr):nrm t=if t.Kind=0 then ⟨0,[],[]⟩ else if t.Kind=1 then ⟨1,tr (fun x=>x == 0) t.Words,tr (fun x=>x.Kind == 0) (t.Kids.map nrm)⟩ else ⟨t.Kind,t.Words,t.Kids.map nrm⟩:=by
 rw [nrm]
 simp only [List.attach_map_val]
theorem Za7 (t:Tr):(nrm t).Kind=t.Kind:=by
 rw [Zfi]
 split
 ·rename_i h;exact h.symm
 split
 ·rename_i h;exact h.symm
 rfl
theorem Z8u {α β:Type} {xs:List α} {f:α→β} {z:β} {i m:Nat} {x:α} (hi:i+(m+1)=xs.length) (hx:xs[i]? = some x) :
  ((xs.take i).map f++List.replicate (m+1) z).set i (f x)=(xs.take (i+1)).map f++List.replicate m z:=by
 have hl:((xs.take i).map f).length=i:=by rw [List.length_map,List.length_take];omega
 rw [List.set_append,if_neg (by omega),hl,Nat.sub_self,List.replicate_succ,List.set_cons_zero,List.take_add_one,hx]
 simp
theorem Z7r {α β:Type} (xs:List α) (f:α→β) (z:β) (step:Int×List β→Option ((Int×List β) ⊕ List β)) (hl:(xs.length:Int)≤140737488355328)
  (h1:∀ (i:Nat) (x:α) (out:List β) (y:β),i < xs.length→xs[i]? = some x→x∈xs→out[i]? = some y→step ((i:Int),out)=some (.inl (IntKind.i64.wrap ((i:Int)+1),Xr out (i:Int) (f x))))
  (h2:∀ out,step ((xs.length:Int),out)=some (.inr out)):Z8 step (0,List.replicate xs.length z)=some (xs.map f):=by
 have key:∀ m i,i+m=xs.length→Z8 step ((i:Int),(xs.take i).map f++List.replicate m z)=some (xs.map f):=fun m=>by
  induction m with
  | zero =>
   intro i hi
   have hi':i=xs.length:=by omega
   subst hi'
   rw [List.take_length,List.replicate_zero,List.append_nil]
   exact Y7 (h2 _)
  | succ m ih =>
   intro i hi
   have hx:xs[i]? = some xs[i]:=List.getElem?_eq_getElem (by omega)
   have hl':((xs.take i).map f).length=i:=by rw [List.length_map,List.length_take];omega
   have hy:((xs.take i).map f++List.replicate (m+1) z)[i]? = some z:=by
    rw [List.getElem?_append_right (by omega),hl',Nat.sub_self,List.replicate_succ];rfl
   have h:=h1 i _ _ z (by omega) hx (List.mem_of_getElem? hx) hy
   rw [Xc (by omega) (by omega)] at h
   rw [Qw h]
   unfold Xr
   rw [Int.toNat_natCast,Z8u (by omega) hx]
   exact ih (i+1) (by omega)
 have:=key xs.length 0 (by omega)
 simpa using this
theorem Z4h:∀ (k:Nat) (t:Tr),Bd t→SizeOf.sizeOf t < k→Vd k t=some (nrm t)
 | 0,t,_,h=>by omega
 | k+1,t,hb,hk=>by
  have ih:∀ x∈t.Kids,Vd k x=some (nrm x):=fun x hx=>Z4h k x (hb.all x hx) (by have:=Yy hx;omega)
  have hw:=hb.w
  have hkd:=hb.k
  show Ze4 (Vd k) t=_
  unfold Ze4
  rw [Zfi]
  by_cases h0:t.Kind=0
  ·rw [if_pos h0,h0];rfl
  have e0:(t.Kind == 0)=false:=by rw [beq_eq_false_iff_ne];exact h0
  rw [if_neg h0,e0,cond_false]
  have main:∀ (w:List Int) (ks:List Tr),(ks.length:Int)≤140737488355328→(56:Int) * ks.length≤140737488355328→(∀ x∈ks,Vd k x=some (nrm x)) →
    ((cond (decide (0 < ((w,ks).2.length:Int))) ((Zi7 56 ((w,ks).2.length:Int) (⟨(0:Int),([]:(List Int)),([]:(List Zd))⟩:Zd)).bind fun l6=>some l6) (some ([]:List Zd))).bind fun (z5:(List Zd))=>(Z8 (U5 (Vd k) (w,ks)) (0,z5)).bind fun (z14:(List Zd))=>some (⟨t.Kind,(w,ks).1,z14⟩:Zd))=some ⟨t.Kind,w,ks.map nrm⟩:=fun w ks h1 h2 hks=>by
   have hz:(cond (decide (0 < ((w,ks).2.length:Int))) ((Zi7 56 ((w,ks).2.length:Int) (⟨(0:Int),([]:(List Int)),([]:(List Zd))⟩:Zd)).bind fun l6=>some l6) (some ([]:List Zd)))=some (List.replicate ks.length (⟨0,[],[]⟩:Tr)):=by
    cases ks with
    | nil=>rfl
    | cons y ys =>
     have:decide (0 < (((w,y::ys).2.length:Nat):Int))=true:=by rw [decide_eq_true_eq];simp
     rw [this,cond_true,Zu5 (Int.natCast_nonneg _) h2 h1,Option.bind_some,Int.toNat_natCast]
   rw [hz,Option.bind_some]
   rw [Z7r ks nrm _ (U5 (Vd k) (w,ks)) h1 (fun i x out z hi hx hm hz=>by
     unfold U5
     simp only
     rw [Zow hi,cond_true,Jr hx,Option.bind_some,hks x hm,Option.bind_some,Jr hz,Option.bind_some]) (fun out=>by
     unfold U5
     simp only
     rw [Zov,cond_false]),Option.bind_some]
  by_cases h1:t.Kind=1
  ·have e1:(t.Kind == 1)=true:=by rw [beq_iff_eq];exact h1
   have l1:=Zkz (fun x:Tr=>x.Kind == 0) t.Kids
   rw [if_pos h1,e1,cond_true,Zz5 (by omega),Option.bind_some,Z2a (by omega),Option.bind_some,Option.bind_some]
   rw [main _ _ (by omega) (by omega) (fun x hx=>ih x (Zia hx)),Z3r (fun x=>by rw [Za7]),h1]
  have e1:(t.Kind == 1)=false:=by rw [beq_eq_false_iff_ne];exact h1
  rw [if_neg h1,e1,cond_false,Option.bind_some]
  exact main _ _ (by omega) (by omega) ih
theorem Z4i {t:Tr} (h:Bd t):Zll t=some (nrm t):=Zkh (SizeOf.sizeOf t+1) fun k hk=>Z4h k t h (by omega)
theorem Ztv {α:Type} {p:α→Bool} {x:α} {l:List α} (h:tr p l=[]):tr p (x::l)=if p x=true then [] else [x]:=by simp only [tr,h]
theorem Zvw {α:Type} {p:α→Bool} {x:α} {l:List α} (h:tr p l≠[]):tr p (x::l)=x::tr p l:=by
 simp only [tr]
 split
 ·rename_i h';exact absurd h' h
 rename_i h';rw [h']
theorem Z39:∀ (l:List Tr) (n:Nat) (acc:Int),(l.zipIdx n).foldl (fun a p=>if p.1.Kind=0 then a else ((p.2+1:Nat):Int)) acc=if (tr (fun x=>x.Kind == 0) l).length=0 then acc else ((n+(tr (fun x=>x.Kind == 0) l).length:Nat):Int)
 | [],n,acc=>by simp [tr]
 | x::l,n,acc=>by
  rw [List.zipIdx_cons,List.foldl_cons,Z39 l (n+1)]
  by_cases h:tr (fun x=>x.Kind == 0) l=[]
  ·rw [Ztv h,h]
   by_cases hx:x.Kind=0
   ·simp [hx]
   simp [hx]
  have h':(tr (fun x=>x.Kind == 0) l).length≠0:=by simpa using h
  rw [Zvw h,if_neg h',List.length_cons,if_neg (by omega)]
  congr 1
  omega
theorem Yay {α:Type} (p:α→Bool) (l:List α):l.take (tr p l).length=tr p l:=by
 obtain ⟨h1,h2⟩:=Zvv (p:=p) (l:=l) l.length (Nat.le_refl _)
 rw [List.take_length] at h1
 rw [← h1,List.length_take]
 congr 1
 omega
theorem Z8k {k:Nat} {t:Tr} (hl:t.Kids.length * 56≤140737488355328) (ih:∀ x∈t.Kids,Xh k x=some (nrm x)) :
  Z8 (Qg (Xh k) t) (0,0,[])=some (if (tr (fun x=>x.Kind == 0) (t.Kids.map nrm)).length=0 then 0 else ((tr (fun x=>x.Kind == 0) (t.Kids.map nrm)).length:Int),t.Kids.map nrm):=by
 have key:∀ (l pre:List Tr) (a:Int),t.Kids=pre++l→Z8 (Qg (Xh k) t) (a,((pre.length:Nat):Int),pre.map nrm)=some (((l.map nrm).zipIdx pre.length).foldl (fun a p=>if p.1.Kind=0 then a else ((p.2+1:Nat):Int)) a,t.Kids.map nrm):=fun l=>by
  induction l with
  | nil =>
   intro pre a hp
   rw [List.append_nil] at hp
   refine Y7 ?_
   unfold Qg
   simp only
   rw [hp,Zov,cond_false]
   rfl
  | cons x l ihl =>
   intro pre a hp
   have hx:t.Kids[pre.length]? = some x:=by rw [hp,List.getElem?_append_right (Nat.le_refl _),Nat.sub_self];rfl
   have hi:pre.length < t.Kids.length:=by rw [hp];simp
   have hm:x∈t.Kids:=List.mem_of_getElem? hx
   have hs:Qg (Xh k) t (a,((pre.length:Nat):Int),pre.map nrm)=some (.inl (if x.Kind=0 then a else ((pre.length+1:Nat):Int),(((pre++[x]).length:Nat):Int),(pre++[x]).map nrm)):=by
    unfold Qg
    simp only
    rw [Zow hi,cond_true,Jr hx,Option.bind_some,ih x hm,Option.bind_some,Zbc (by simp;omega) (by simp;omega),Option.bind_some,Xc (by omega) (by omega),Za7]
    have e:((pre.length:Nat):Int)+1=((pre.length+1:Nat):Int):=by omega
    rw [e]
    by_cases h0:x.Kind=0
    ·simp [h0]
    have:(x.Kind != 0)=true:=by simp [h0]
    rw [this,cond_true]
    simp [h0]
   rw [Qw hs,ihl (pre++[x]) _ (by rw [hp];simp)]
   simp only [List.map_cons,List.zipIdx_cons,List.foldl_cons,List.length_append,List.length_singleton,Za7]
 have:=key t.Kids [] 0 rfl
 rw [Z39] at this
 simpa using this
theorem Z13:∀ (k:Nat) (t:Tr),Bd t→SizeOf.sizeOf t < k→Xh k t=some (nrm t)
 | 0,t,_,h=>by omega
 | k+1,t,hb,hk=>by
  have ih:∀ x∈t.Kids,Xh k x=some (nrm x):=fun x hx=>Z13 k x (hb.all x hx) (by have:=Yy hx;omega)
  have hw:=hb.w
  have hkd:=hb.k
  show Ue (Xh k) t=_
  unfold Ue
  rw [Zfi]
  by_cases h0:t.Kind=0
  ·rw [if_pos h0,h0];rfl
  have e0:(t.Kind == 0)=false:=by rw [beq_eq_false_iff_ne];exact h0
  rw [if_neg h0,e0,cond_false,Z8k hkd ih,Option.bind_some]
  by_cases h1:t.Kind=1
  ·have e1:(t.Kind == 1)=true:=by rw [beq_iff_eq];exact h1
   rw [if_pos h1,e1,cond_true,Z8g hw,Option.bind_some]
   have l1:=Zkz (fun x:Tr=>x.Kind == 0) (t.Kids.map nrm)
   have l2:(if (tr (fun x=>x.Kind == 0) (t.Kids.map nrm)).length=0 then (0:Int) else ((tr (fun x=>x.Kind == 0) (t.Kids.map nrm)).length:Int))=((tr (fun x=>x.Kind == 0) (t.Kids.map nrm)).length:Int):=by
    split
    ·rename_i h;rw [h];rfl
    rfl
   simp only [l2]
   rw [Zrf l1,Option.bind_some,Yay]
  have e1:(t.Kind == 1)=false:=by rw [beq_eq_false_iff_ne];exact h1
  rw [if_neg h1,e1,cond_false,Zbc (by rw [List.length_nil];omega) (by rw [List.length_nil];omega)]
  rfl
theorem Z8l {t:Tr} (h:Bd t):Zc9 t=some (nrm t):=Zkh (SizeOf.sizeOf t+1) fun k hk=>Z13 k t h (by omega)
theorem Zzk:∀ (n:Nat) (t:Tr),SizeOf.sizeOf t < n→Bd t→Bd (nrm t)
 | 0,t,h,_=>by omega
 | n+1,t,hn,hb=>by
  have ih:∀ x∈t.Kids,Bd (nrm x):=fun x hx=>Zzk n x (by have:=Yy hx;omega) (hb.all x hx)
  have hw:=hb.w
  have hk:=hb.k
  rw [Zfi]
  split
  ·exact .mk _ (by simp) (by simp) (fun w h=>by simp at h) (fun w h=>by simp at h)
  split
  ·have l1:=Zkz (fun x:Int=>x == 0) t.Words
   have l2:=Zkz (fun x:Tr=>x.Kind == 0) (t.Kids.map nrm)
   rw [List.length_map] at l2
   refine .mk _ (by simp only;omega) (Nat.le_trans (Nat.mul_le_mul_right 56 l2) hk) (fun w h=>hb.u w (Zia h)) (fun x h => ?_)
   obtain ⟨y,hy,rfl⟩:=List.mem_map.1 (Zia h)
   exact ih y hy
  refine .mk _ hw (by simp only [List.length_map];exact hk) hb.u (fun x h => ?_)
  obtain ⟨y,hy,rfl⟩:=List.mem_map.1 h
  exact ih y hy
theorem Bd.nrm {t:Tr} (h:Bd t):Bd (nrm t):=Zzk _ t (Nat.lt_succ_self _) h
theorem Zw9:∀ (n:Nat) (t:Tr),SizeOf.sizeOf t < n→nrm (nrm t)=nrm t
 | 0,t,h=>by omega
 | n+1,t,hn=>by
  have ih:∀ x∈t.Kids,nrm (nrm x)=nrm x:=fun x hx=>Zw9 n x (by have:=Yy hx;omega)
  have em:∀ l:List Tr,(∀ x∈l,x∈t.Kids)→(l.map nrm).map nrm=l.map nrm:=fun l hl=>by
   rw [List.map_map]
   exact List.map_congr_left fun x hx=>ih x (hl x hx)
  rw [Zfi t]
  by_cases h0:t.Kind=0
  ·rw [if_pos h0,Zfi];simp
  rw [if_neg h0]
  by_cases h1:t.Kind=1
  ·rw [if_pos h1,Zfi]
   simp only [if_neg (show ¬ (1:Int)=0 by decide),if_true]
   have q1:∀ l:List Tr,tr (fun x:Tr=>x.Kind == 0) (l.map nrm)=(tr (fun x:Tr=>x.Kind == 0) l).map nrm:=Z3r (fun x=>by rw [Za7])
   rw [Zyh,q1,Zyh,q1,em _ (fun x hx=>Zia hx)]
  rw [if_neg h1,Zfi]
  simp only
  rw [if_neg h0,if_neg h1,em _ (fun x hx=>hx)]
theorem Zqv (t:Tr):nrm (nrm t)=nrm t:=Zw9 _ t (Nat.lt_succ_self _)
def eqT (a b:Tr):Bool:=a.Kind == b.Kind && (a.Words == b.Words && (a.Kids.length == b.Kids.length && (a.Kids.attach.zip b.Kids).all fun p=>eqT p.1.1 p.2))
termination_by SizeOf.sizeOf a
decreasing_by exact Yy p.1.2
def eqL:List Tr→List Tr→Bool
 | [],[]=>true
 | x::xs,y::ys=>eqT x y && eqL xs ys
 | _,_=>false
theorem Z42:∀ (l m:List Tr) (P:Tr→Prop) (l':List {x // P x}),l'.map (·.1)=l→(l.length == m.length && (l'.zip m).all fun p=>eqT p.1.1 p.2)=eqL l m
 | [],[],P,l',h=>by cases l' <;> simp_all [eqL]
 | [],y::m,P,l',h=>by cases l' <;> simp_all [eqL]
 | x::l,[],P,l',h=>by cases l' <;> simp_all [eqL]
 | x::l,y::m,P,l',h=>by
  cases l' with
  | nil=>simp at h
  | cons z l' =>
   simp only [List.map_cons,List.cons.injEq] at h
   have ih:=Z42 l m P l' h.2
   simp only [List.length_cons,List.zip_cons_cons,List.all_cons,eqL,h.1]
   rw [← ih]
   have:(l.length+1 == m.length+1)=(l.length == m.length):=by simp
   rw [this]
   cases l.length == m.length <;> cases eqT x y <;> rfl
theorem Z61 (a b:Tr):eqT a b=(a.Kind == b.Kind && (a.Words == b.Words && eqL a.Kids b.Kids)):=by
 rw [eqT,Z42 a.Kids b.Kids (·∈a.Kids) a.Kids.attach (by simp)]
theorem Z0q (x y:Tr) (xs ys:List Tr):eqL (x::xs) (y::ys)=(eqT x y && eqL xs ys):=rfl
theorem Z6s:∀ (a b:List Int),a.length=b.length→(a.zip b).any (fun p=>p.1 != p.2) = !(a == b)
 | [],[],_=>rfl
 | [],_::_,h=>by simp at h
 | _::_,[],h=>by simp at h
 | x::a,y::b,h=>by
  have ih:=Z6s a b (by simpa using h)
  rw [List.zip_cons_cons,List.any_cons,ih]
  by_cases hxy:x=y
  ·subst hxy;simp
  simp [bne,hxy]
theorem Z7t {R:Type} (a b:List Int) (step:Int→Option (Int ⊕ R)) (e o:R) (hab:a.length=b.length) (hl:(a.length:Int)≤140737488355328)
  (h1:∀ (i:Nat) (x y:Int),i < a.length→a[i]? = some x→b[i]? = some y→step i=some (if (x != y)=true then .inr e else .inl (IntKind.i64.wrap ((i:Int)+1)))) (h2:step a.length=some (.inr o)) :
  Z8 step 0=some (if (a == b)=true then o else e):=by
 have hz:(a.zip b).length=a.length:=by rw [List.length_zip];omega
 have:=Zu3 (a.zip b) step (fun p=>p.1 != p.2) e o (by rw [hz];exact hl) (fun i p hi hp hm=>by
  rw [hz] at hi
  have ha:a[i]? = some a[i]:=List.getElem?_eq_getElem hi
  have hb:b[i]? = some b[i]:=List.getElem?_eq_getElem (by omega)
  have:p=(a[i],b[i]):=by
   rw [List.getElem?_eq_getElem (by rw [hz];exact hi)] at hp
   injection hp with hp
   rw [← hp,List.getElem_zip]
  subst this
  exact h1 i _ _ hi ha hb) (by rw [hz];exact h2)
 rw [this,Z6s a b hab]
 cases a == b <;> rfl
theorem Z7k {a b:Nat}:((a:Int) != (b:Int)) = !(a == b):=by
 rw [Bool.eq_iff_iff];simp;omega
theorem Z9i {a b:List Int} (h:¬ a.length=b.length):(a == b)=false:=by
 rw [beq_eq_false_iff_ne];intro e;exact h (by rw [e])
theorem Z8r {a b:List Int} (h:(a.length:Int)≤140737488355328):Q2 a b=some (a == b):=by
 unfold Q2
 rw [Z7k]
 by_cases hab:a.length=b.length
 ·have:(!(a.length == b.length))=false:=by simp [hab]
  rw [this,cond_false,Z7t a b (Qm a b) (.inl ()) (.inr ()) hab h (fun i x y hi hx hy=>by
   unfold Qm
   rw [Zow hi,cond_true,Jr hx,Option.bind_some,Jr hy,Option.bind_some]
   cases x != y <;> rfl) (by unfold Qm;rw [Zov];rfl)]
  cases a == b <;> rfl
 have:(!(a.length == b.length))=true:=by simp [hab]
 rw [this,cond_true,Z9i hab]
theorem Ya6 (q:Tr→Tr→Bool):∀ (a b:List Tr),(a.zip b).any (fun p => !q p.1 p.2) = !((a.zip b).all fun p=>q p.1 p.2)
 | [],b=>by simp
 | x::a,[]=>by simp
 | x::a,y::b=>by rw [List.zip_cons_cons,List.any_cons,Ya6 q a b,List.all_cons];cases q x y <;> rfl
theorem Z5t {R:Type} (a b:List Tr) (q:Tr→Tr→Bool) (step:Int→Option (Int ⊕ R)) (e o:R) (hab:a.length=b.length) (hl:(a.length:Int)≤140737488355328)
  (h1:∀ (i:Nat) (x y:Tr),i < a.length→a[i]? = some x→b[i]? = some y→x∈a→y∈b→step i=some (if (!q x y)=true then .inr e else .inl (IntKind.i64.wrap ((i:Int)+1)))) (h2:step a.length=some (.inr o)) :
  Z8 step 0=some (if ((a.zip b).all fun p=>q p.1 p.2)=true then o else e):=by
 have hz:(a.zip b).length=a.length:=by rw [List.length_zip];omega
 have:=Zu3 (a.zip b) step (fun p => !q p.1 p.2) e o (by rw [hz];exact hl) (fun i p hi hp hm=>by
  rw [hz] at hi
  have ha:a[i]? = some a[i]:=List.getElem?_eq_getElem hi
  have hb:b[i]? = some b[i]:=List.getElem?_eq_getElem (by omega)
  have:p=(a[i],b[i]):=by
   rw [List.getElem?_eq_getElem (by rw [hz];exact hi)] at hp
   injection hp with hp
   rw [← hp,List.getElem_zip]
  subst this
  exact h1 i _ _ hi ha hb (List.getElem_mem _) (List.getElem_mem _)) (by rw [hz];exact h2)
 rw [this,Ya6 q a b]
 cases (a.zip b).all fun p=>q p.1 p.2 <;> rfl
theorem Z0b:∀ (a b:List Tr),a.length=b.length→((a.zip b).all fun p=>eqT p.1 p.2)=eqL a b
 | [],[],_=>rfl
 | [],_::_,h=>by simp at h
 | _::_,[],h=>by simp at h
 | x::a,y::b,h=>by
  have ih:=Z0b a b (by simpa using h)
  rw [List.zip_cons_cons,List.all_cons,ih];rfl
theorem Z3z:∀ (a b:List Tr),a.length≠b.length→eqL a b=false
 | [],[],h=>by simp at h
 | [],_::_,_=>rfl
 | _::_,[],_=>rfl
 | x::a,y::b,h=>by rw [Z0q,Z3z a b (by simpa using h),Bool.and_false]
theorem Z4r:∀ (k:Nat) (a b:Tr),Bd a→Bd b→SizeOf.sizeOf a < k→Jf k a b=some (eqT a b)
 | 0,a,b,_,_,h=>by omega
 | k+1,a,b,ha,hb,hk=>by
  have ih:∀ x∈a.Kids,∀ y∈b.Kids,Jf k x y=some (eqT x y):=fun x hx y hy=>Z4r k x y (ha.all x hx) (hb.all y hy) (by have:=Yy hx;omega)
  have hw:=ha.w
  have hkd:=ha.k
  show Uf (Jf k) a b=_
  unfold Uf
  rw [Z61,Z8r (by omega),Option.bind_some,Z7k]
  by_cases h0:a.Kind=b.Kind
  ·have e0:(a.Kind != b.Kind)=false:=by simp [h0]
   have e1:(a.Kind == b.Kind)=true:=by simp [h0]
   rw [e0,e1,cond_false,cond_false,Option.bind_some,Bool.true_and]
   cases hw':a.Words == b.Words with
   | false=>rfl
   | true =>
    rw [Bool.not_true,cond_false,Bool.true_and]
    by_cases hab:a.Kids.length=b.Kids.length
    ·have:(!(a.Kids.length == b.Kids.length))=false:=by simp [hab]
     rw [this,cond_false,Z5t a.Kids b.Kids eqT (Ko (Jf k) a b) (.inl ()) (.inr ()) hab (by omega) (fun i x y hi hx hy hmx hmy=>by
      unfold Ko
      rw [Zow hi,cond_true,Jr hx,Option.bind_some,Jr hy,Option.bind_some,ih x hmx y hmy,Option.bind_some]
      cases eqT x y <;> rfl) (by unfold Ko;rw [Zov];rfl)]
     rw [Z0b a.Kids b.Kids hab]
     cases eqL a.Kids b.Kids <;> rfl
    have:(!(a.Kids.length == b.Kids.length))=true:=by simp [hab]
    rw [this,cond_true,Z3z _ _ hab]
  have e0:(a.Kind != b.Kind)=true:=by simp [h0]
  have e1:(a.Kind == b.Kind)=false:=by simp [h0]
  rw [e0,e1];rfl
theorem Yal {a b:Tr} (ha:Bd a) (hb:Bd b):Zda a b=some (eqT a b):=Zkh (SizeOf.sizeOf a+1) fun k hk=>Z4r k a b ha hb (by omega)
theorem Za8 {t:Tr} (h:t.Kind=0):nrm t=⟨0,[],[]⟩:=by rw [Zfi,if_pos h]
theorem Kf {t:Tr} (h:t.Kind=1):nrm t=⟨1,tr (fun x=>x == 0) t.Words,tr (fun x=>x.Kind == 0) (t.Kids.map nrm)⟩:=by rw [Zfi,if_neg (by rw [h];decide),if_pos h]
theorem G3 {t:Tr} (h0:¬ t.Kind=0) (h1:¬ t.Kind=1):nrm t=⟨t.Kind,t.Words,t.Kids.map nrm⟩:=by rw [Zfi,if_neg h0,if_neg h1]
theorem Z17 (t:Tr):0 < SizeOf.sizeOf t:=by
 obtain ⟨k,w,ks⟩:=t
 simp only [Zd.mk.sizeOf_spec]
 omega
def pt (t:Tr):Nat:=1+t.Words.length+(t.Kids.attach.map fun k=>pt k.1).sum
termination_by SizeOf.sizeOf t
decreasing_by exact Yy k.2
theorem Zfn (t:Tr):pt t=1+t.Words.length+(t.Kids.map pt).sum:=by
 rw [pt]
 simp only [List.attach_map_val]
theorem Zvs:∀ (k:Nat) (t:Tr) (d left:Int),Bd t→SizeOf.sizeOf t < k→0≤d→d≤100→0≤left→left≤1000000→∃ r,Yi k t d left=some r∧-1≤r∧r≤1000000∧(0≤r→r+pt t≤left)
 | 0,t,_,_,_,h,_,_,_,_=>by omega
 | k+1,t,d,left,hb,hk,hd0,hd1,hl0,hl1=>by
  have ih:∀ x∈t.Kids,∀ d left:Int,0≤d→d≤100→0≤left→left≤1000000→∃ r,Yi k x d left=some r∧-1≤r∧r≤1000000∧(0≤r→r+pt x≤left):=fun x hx d left=>Zvs k x d left (hb.all x hx) (by have:=Yy hx;omega)
  have hw:=hb.w
  have hkd:=hb.k
  show ∃ r,Xo (Yi k) t d left=some r∧_
  unfold Xo
  rw [Xc (x:=left - 1) (by omega) (by omega),Xc (by omega) (by omega),Zfn]
  cases hc:cond (d == 0) true (decide (left - 1 - (t.Words.length:Int) < 0)) with
  | true=>exact ⟨-1,rfl,by omega,by omega,fun h=>by omega⟩
  | false =>
   rw [cond_false]
   have hd:¬ d=0∧0≤left - 1 - (t.Words.length:Int):=by
    by_cases h:d=0
    ·simp [h] at hc
    have e:(d == 0)=false:=by simp [h]
    rw [e,cond_false,decide_eq_false_iff_not] at hc
    exact ⟨h,by omega⟩
   obtain ⟨r,h1,h2⟩:=Zrd (step:=Xl (Yi k) t d)
    (fun s=>∃ j:Nat,s.2=j∧j≤t.Kids.length∧-1≤s.1∧s.1≤1000000∧(0≤s.1→s.1+(((t.Kids.take j).map pt).sum:Nat)≤left - 1 - (t.Words.length:Int)))
    (fun s=>t.Kids.length - s.2.toNat) (fun r=>-1≤r∧r≤1000000∧(0≤r→r+((t.Kids.map pt).sum:Nat)≤left - 1 - (t.Words.length:Int))) (fun s hI=>by
     obtain ⟨l,i⟩:=s
     obtain ⟨j,rfl,hj,g1,g2,g3⟩:=hI
     simp only at g1 g2 g3 ⊢
     unfold Xl
     simp only
     by_cases hji:j < t.Kids.length
     ·rw [Zow hji,cond_true]
      by_cases hl:0≤l
      ·have e:decide (0≤l)=true:=by simp [hl]
       have hx:t.Kids[j]? = some t.Kids[j]:=List.getElem?_eq_getElem hji
       obtain ⟨r,q1,q2,q3,q4⟩:=ih t.Kids[j] (List.getElem_mem hji) (d - 1) l (by omega) (by omega) hl g2
       rw [e,cond_true,Jr hx,Option.bind_some,Xc (by omega) (by omega),q1,Option.bind_some,Xc (by omega) (by omega)]
       refine .inl ⟨_,rfl,⟨j+1,by simp only;omega,by omega,q2,q3,fun hr => ?_⟩,by simp only;omega⟩
       have:=q4 hr
       have:=g3 hl
       rw [List.take_add_one,hx]
       simp only [Option.toList_some,List.map_append,List.map_cons,List.map_nil,List.sum_append,List.sum_cons,List.sum_nil]
       simp only at hr
       omega
      have e:decide (0≤l)=false:=by simp [hl]
      rw [e,cond_false]
      exact .inr ⟨l,rfl,g1,g2,fun h=>absurd h hl⟩
     have hj':j=t.Kids.length:=by omega
     subst hj'
     rw [Zov,cond_false]
     rw [List.take_length] at g3
     exact .inr ⟨l,rfl,g1,g2,g3⟩) (left - 1 - (t.Words.length:Int),0) ⟨0,rfl,Nat.zero_le _,by simp only;omega,by simp only;omega,fun _=>by simp⟩
   rw [h1]
   refine ⟨r,rfl,h2.1,h2.2.1,fun hr => ?_⟩
   have:=h2.2.2 hr
   omega
theorem Zw1 {α:Type} {xs:List α} {i:Int} {x:α} (h:Z6 xs i=some x):x∈xs:=List.mem_of_getElem? (Zql h)
theorem Zre:∀ (k k':Nat) (t:Tr) (d left:Int),SizeOf.sizeOf t < k→SizeOf.sizeOf t < k'→Yi k t d left=Yi k' t d left
 | 0,_,t,_,_,h,_=>by omega
 | k+1,0,t,_,_,_,h=>by omega
 | k+1,k'+1,t,d,left,h,h'=>by
  show Xo (Yi k) t d left=Xo (Yi k') t d left
  have e:Xl (Yi k) t d=Xl (Yi k') t d:=funext fun s=>by
   unfold Xl
   cases hx:Z6 t.Kids s.2 with
   | none=>rfl
   | some x=>simp only [Option.bind_some,Zre k k' x (IntKind.i64.wrap (d - 1)) s.1 (by have:=Yy (Zw1 hx);omega) (by have:=Yy (Zw1 hx);omega)]
  unfold Xo
  rw [e]
theorem Ybv {t:Tr} (h:Bd t):∃ b,Gb t=some b∧(b=true→pt t≤3000):=by
 obtain ⟨r,h1,h2,h3,h4⟩:=Zvs (SizeOf.sizeOf t+1) t 80 3000 h (by omega) (by omega) (by omega) (by omega) (by omega)
 have hr:Za1 t 80 3000=some r:=Zkh (SizeOf.sizeOf t+1) fun k hk=>by rw [Zre k (SizeOf.sizeOf t+1) t 80 3000 (by omega) (by omega)];exact h1
 unfold Gb
 rw [hr,Option.bind_some]
 refine ⟨_,rfl,fun hb => ?_⟩
 have:=h4 (by simpa using hb)
 have:0≤r:=by simpa using hb
 omega
def wt (t:Tr):Nat :=
 if t.Kind=0 then 0 else if t.Kind=10 then 1
 else (if t.Kind=1 then 1+(t.Words.length+t.Kids.length) else if t.Kind=8 then 1+t.Kids.length else 1)+(t.Kids.attach.map fun k=>wt k.1).sum
termination_by SizeOf.sizeOf t
decreasing_by all_goals exact Yy k.2
theorem Zv5 (t:Tr):wt t=if t.Kind=0 then 0 else if t.Kind=10 then 1 else (if t.Kind=1 then 1+(t.Words.length+t.Kids.length) else if t.Kind=8 then 1+t.Kids.length else 1)+(t.Kids.map wt).sum:=by
 rw [wt]
 simp only [List.attach_map_val]
theorem Z35 {α:Type} {f:α→Nat} {x:α}:∀ {l:List α},x∈l→f x≤(l.map f).sum
 | y::l,h=>by
  simp only [List.map_cons,List.sum_cons]
  rcases List.mem_cons.1 h with rfl | h
  ·omega
  have:=Z35 (f:=f) h
  omega
theorem Z7s {α:Type} (xs:List α) (f:α→Nat) (s0 B:Nat) (step:Int×Int→Option ((Int×Int) ⊕ Int)) (hl:(xs.length:Int)≤140737488355328) (hs:s0+(xs.map f).sum≤B) (hB:B≤140737488355328)
  (h1:∀ (i:Nat) (x:α) (s:Int),i < xs.length→xs[i]? = some x→x∈xs→step (s,(i:Int))=some (.inl (IntKind.i64.wrap (s+f x),IntKind.i64.wrap ((i:Int)+1))))
  (h2:∀ s,step (s,(xs.length:Int))=some (.inr s)):Z8 step ((s0:Int),0)=some ((s0+(xs.map f).sum:Nat):Int):=by
 have key:∀ (l pre:List α) (s:Nat),xs=pre++l→s+(l.map f).sum≤B→Z8 step ((s:Int),((pre.length:Nat):Int))=some ((s+(l.map f).sum:Nat):Int):=fun l=>by
  induction l with
  | nil =>
   intro pre s hp _
   rw [List.append_nil] at hp
   subst hp
   exact Y7 (by rw [h2];simp)
  | cons x l ih =>
   intro pre s hp hb
   have hx:xs[pre.length]? = some x:=by rw [hp,List.getElem?_append_right (Nat.le_refl _),Nat.sub_self];rfl
   have hi:pre.length < xs.length:=by rw [hp];simp
   simp only [List.map_cons,List.sum_cons] at hb ⊢
   have h:=h1 pre.length x s hi hx (List.mem_of_getElem? hx)
   rw [Xc (by omega) (by omega),Xc (by omega) (by omega)] at h
   have e:(s:Int)+(f x:Int)=((s+f x:Nat):Int):=by omega
   have e2:((pre.length:Nat):Int)+1=(((pre++[x]).length:Nat):Int):=by simp
   rw [e,e2] at h
   rw [Qw h,ih (pre++[x]) (s+f x) (by rw [hp];simp) (by omega)]
   congr 2
   omega
 exact key xs [] s0 rfl hs
section
variable {A:Zm}
theorem Z28 {f:Ze→Int→Tr×Int×Int} {g:Int→Ze×Int} {Q:Tr→Prop} (hQ:∀ i left,Q (f (g i).1 left).1):∀ (m i:Nat) (left:Int) (acc:List Tr),(∀ t∈acc,Q t)→(∀ t∈(Yr f g m i left acc).1,Q t)∧(Yr f g m i left acc).1.length≤acc.length+m
 | 0,i,left,acc,h=>⟨h,Nat.le_refl _⟩
 | m+1,i,left,acc,h=>by
  rw [Yr]
  split
  ·exact ⟨h,by simp only;omega⟩
  split
  ·exact ⟨h,by simp only;omega⟩
  obtain ⟨h1,h2⟩:=Z28 hQ m (i+1) (f (g i).1 left).2.1 (acc++[(f (g i).1 left).1]) fun t ht=>by
   rcases List.mem_append.1 ht with ht | ht
   ·exact h t ht
   rw [List.mem_singleton] at ht;subst ht;exact hQ i left
  exact ⟨h1,by rw [List.length_append,List.length_singleton] at h2;omega⟩
theorem Z93 {w c j:Int} (hw:0≤w∧w < 18446744073709551616):0≤Z1i w c j∧Z1i w c j < 18446744073709551616:=by
 unfold Z1i
 have h1:w.toNat / 2 ^ (j * wdt c).toNat % 2 ^ (wdt c).toNat≤w.toNat / 2 ^ (j * wdt c).toNat:=Nat.mod_le _ _
 have h2:w.toNat / 2 ^ (j * wdt c).toNat≤w.toNat:=Nat.div_le_self _ _
 omega
theorem Zkb (hw:WS A.segments) (r:Ze):∀ w∈Xu A r,0≤w∧w < 18446744073709551616:=by
 unfold Xu
 split
 ·intro w hm
  rw [List.mem_singleton] at hm
  subst hm
  unfold Z3i
  split
  ·omega
  exact Z93 (Zv1 hw _ _)
 split
 ·exact fun w hm=>Ych hw _ w (List.mem_of_mem_drop (List.mem_of_mem_take hm))
 exact fun w hm=>by cases hm
theorem Zor {r:Ze} (h:OKr A r):(Xu A r).length≤65536:=by
 unfold Xu
 cases h with
 | z=>simp [r0]
 | st s a d p hd hp hin=>simp only [show ¬ (1:Int)=10 from by decide,if_false,if_true,List.length_take];omega
 | li k s a n hk hn hin=>simp only;rw [if_neg (by omega),if_neg (by omega)];simp
 | co=>simp
 | at_=>simp
theorem Z90 (hw:WS A.segments):∀ (d:Nat) r left,OKr A r→0≤left→left≤65536→Bd (Uz A d r left).1:=fun d=>by
 have key:∀ (f:Ze→Int→Tr×Int×Int),True:=fun _=>trivial
 clear key
 have hst:∀ (f:Ze→Int→Tr×Int×Int),(∀ r left,OKr A r→Bd (f r left).1)→∀ r left,OKr A r→r.ptrs≤65536→Bd (stK A f r left).1:=fun f hf r left hr hp=>by
  unfold stK
  have:=Z28 (f:=f) (g:=Yq A r) (Q:=Bd) (fun i left=>hf _ left (Kw hr i)) r.ptrs.toNat 0 left [] (by simp)
  refine .mk _ (by simp only;have:=Zor hr;omega) (by simp only;have:=this.2;simp only [List.length_nil] at this;omega) (Zkb hw r) this.1
 have main:∀ r left,OKr A r→Bd (Uz A d r left).1:=by
  induction d using Nat.strongRecOn with
  | ind d ih =>
   intro r left hr
   have hbad:∀ r left,Bd (bad r left).1:=fun r left => .mk _ (by simp [bad]) (by simp [bad]) (by simp [bad]) (by simp [bad])
   have hP:∀ k,1≤k→∀ r left,OKr A r→Bd (Xa A k d r left).1:=fun k hk r left hr=>by
    unfold Xa
    split
    ·exact ih _ (by omega) r left hr
    exact hbad _ _
   rw [Zkj]
   unfold Zhu
   have hwl:=Zor hr
   split
   ·exact .mk _ (by simp only;omega) (by simp) (Zkb hw r) (by simp)
   split
   ·exact .mk _ (by simp only;omega) (by simp) (Zkb hw r) (by simp)
   have hkn:=Zgy hr
   have hQ:∀ (i:Int) left,Bd (Zc7 A (Xa A 1 d) (Xa A 2 d) r (Yq A r i).1 left).1:=fun i left=>by
    unfold Zc7
    split
    ·rename_i k9
     have hkr:=Kw hr i
     refine hst _ (fun r left hr=>hP 2 (by omega) r left hr) _ _ hkr ?_
     cases hkr':(Yq A r i).1 with
     | mk a b c d e f g h j =>
      rw [hkr'] at hkr
      cases hkr with
      | z=>simp
      | st s a d p hd hp hin=>simp only;omega
      | li k s a n hk=>simp
      | co s a d p n hd hp hn=>simp only;omega
      | at_=>simp
    split
    ·exact hP 1 (by omega) _ _ (Kw hr i)
    unfold Zgo
    have:=Zor (Kw hr i)
    exact .mk _ (by simp only;omega) (by simp) (Zkb hw _) (by simp)
   have:=Z28 (f:=Zc7 A (Xa A 1 d) (Xa A 2 d) r) (g:=Yq A r) (Q:=Bd) hQ (Z5 r).toNat 0 (left - wtR r) [] (by simp)
   refine .mk _ (by simp only;omega) ?_ (Zkb hw r) this.1
   have h2:=this.2
   simp only [List.length_nil] at h2 ⊢
   omega
 exact fun r left hr _ _=>main r left hr
end
def uwR (r:Ze):Int:=if r.kind=0 then 0 else if r.kind=1 then 1+r.words+r.ptrs else if r.kind=8 then 1+r.count else 1
section
variable {A:Zm}
theorem Z3t {r:Ze} (h:OKr A r):G0 r=some (uwR r):=by
 have hk:Yk r=some r.kind:=rfl
 unfold G0 uwR
 rw [hk,Znn,Zha,Option.bind_some]
 cases h with
 | z=>rfl
 | st s a d p hd hp hin =>
  simp only [Uy,Z5,if_true,show ((1:Int) == 0)=false from rfl,show ((1:Int) == 1)=true from rfl,cond_false,cond_true,Option.bind_some,show ¬ (1:Int)=0 from by decide,if_false]
  rw [Xc (x:=1+d) (by omega) (by omega),Xc (by omega) (by omega)]
 | li k s a n hk' hn hin =>
  simp only [Z5]
  rw [show (k == 0)=false from Vu (by omega),show (k == 1)=false from Vu (by omega),if_neg (show ¬ k=1 by omega),if_neg (show ¬ k=0 by omega),if_neg (show ¬ k=1 by omega),cond_false,cond_false]
  by_cases k8:k=8
  ·rw [if_pos k8,show (k == 8)=true from by rw [k8];rfl,cond_true,Option.bind_some,Xc (by omega) (by omega)]
  rw [if_neg k8,show (k == 8)=false from Vu k8,cond_false]
 | co s a d p n hd hp hn hwx hin=>rfl
 | at_ s a c i n hc h0 h1 hn hin=>rfl
theorem Z7w (r:Ze):Za5 r=some (decide (1≤r.kind∧r.kind≤9)):=by
 have hk:Yk r=some r.kind:=rfl
 unfold Za5 Za3
 rw [hk,Option.bind_some]
 by_cases k1:r.kind=1
 ·rw [show (r.kind == 1)=true from by rw [k1];rfl,cond_true,Option.bind_some,decide_eq_true (show 1≤r.kind∧r.kind≤9 by omega)]
 rw [show (r.kind == 1)=false from Vu k1,cond_false]
 simp only [Option.bind_some,cond_false]
 congr 1
 by_cases h2:2≤r.kind
 ·rw [decide_eq_true h2,cond_true,decide_eq_decide];omega
 rw [decide_eq_false h2,cond_false,decide_eq_false (show ¬ (1≤r.kind∧r.kind≤9) by omega)]
theorem Z6f (hw:WS A.segments) {r:Ze} (h:OKr A r):Z8 (Y2 r (Uy r)) (0,([]:List Int))=some (Xu A r):=by
 have hl:=Zv4 hw h
 have hle:=Zor h
 have key:∀ (k i:Nat),i+k=(Xu A r).length→Z8 (Y2 r (Uy r)) ((i:Int),(Xu A r).take i)=some (Xu A r):=fun k=>by
  induction k with
  | zero =>
   intro i hi
   refine Y7 ?_
   unfold Y2
   simp only
   rw [show decide ((i:Int) < Uy r)=false from by rw [decide_eq_false_iff_not];omega,cond_false,List.take_of_length_le (by omega)]
  | succ k ih =>
   intro i hi
   have h1:i < (Xu A r).length:=by omega
   have hs:Y2 r (Uy r) ((i:Int),(Xu A r).take i)=some (.inl (((i+1:Nat):Int),(Xu A r).take (i+1))):=by
    unfold Y2
    simp only
    rw [show decide ((i:Int) < Uy r)=true from by rw [decide_eq_true_eq];omega,cond_true,Ya3 hw h,Option.bind_some,Zbc (by simp only [List.length_singleton,List.length_take];omega) (by simp only [List.length_singleton,List.length_take];omega),Option.bind_some,Xc (by omega) (by omega),← Z6h hw h h1,List.take_add_one,List.getElem?_eq_getElem h1]
    rfl
   rw [Qw hs]
   exact ih (i+1) (by omega)
 have:=key (Xu A r).length 0 (by omega)
 rw [List.take_zero,show (((0:Nat):Int))=0 from rfl] at this
 exact this
theorem Z2b (hw:WS A.segments) {f1:Zv→Ze→Int→Option (Tr×Int×Zv)} {f:Ze→Int→Tr×Int×Int} (hf:Lf A f) {r:Ze} (hr:OKr A r) (n:Nat) (hn:Z5 r=(n:Int)) (hn2:n≤1073741824) {X D:Int} (hX:0≤X) (hD:1≤D∧D≤1000)
  (hF:∀ (i:Nat) (l L:Int),i < n→(Yq A r i).2=0→0≤l∧l≤65536→(f (Yq A r i).1 l).2.2=0→l - (f (Yq A r i).1 l).2.1+X≤L→L≤65536→f1 ⟨L⟩ (Yq A r i).1 (D - 1)=some ((f (Yq A r i).1 l).1,0,⟨L - (l - (f (Yq A r i).1 l).2.1+X)⟩)):∀ (m i:Nat) (left L:Int) (acc:List Tr),i+m=n→acc.length=i→0≤left∧left≤65536→(Yr f (Yq A r) m i left acc).2.2=0→left - (Yr f (Yq A r) m i left acc).2.1+(m:Int) * X≤L→L≤65536 →
  Z8 (Yw f1 r D (Z5 r)) ((i:Int),acc,L)=some (.inr ((Yr f (Yq A r) m i left acc).1,L - (left - (Yr f (Yq A r) m i left acc).2.1+(m:Int) * X)))
 | 0,i,left,L,acc,hi,ha,hl,hq,hL,hL2=>by
  refine Y7 ?_
  unfold Yw
  simp only
  rw [show decide ((i:Int) < Z5 r)=false from by rw [decide_eq_false_iff_not];omega,cond_false]
  simp only [Yr]
  congr 4
  simp
 | m+1,i,left,L,acc,hi,ha,hl,hq,hL,hL2=>by
  rw [Yr] at hq hL ⊢
  by_cases h1:(Yq A r i).2≠0
  ·rw [if_pos h1] at hq;exact absurd hq h1
  rw [if_neg h1] at hq hL ⊢
  by_cases h2:(f (Yq A r i).1 left).2.2≠0
  ·rw [if_pos h2] at hq;exact absurd hq h2
  rw [if_neg h2] at hq hL ⊢
  have h1':(Yq A r i).2=0:=by omega
  have h2':(f (Yq A r i).1 left).2.2=0:=by omega
  obtain ⟨b1,b2⟩:=hf _ _ (Kw hr i) hl.1 h2'
  obtain ⟨c1,c2⟩:=Zqp hf (fun i=>Kw hr i) m (i+1) (f (Yq A r i).1 left).2.1 (acc++[(f (Yq A r i).1 left).1]) b1 hq
  have hmX:(((m+1:Nat):Int)) * X=(m:Int) * X+X:=by rw [show (((m+1:Nat):Int))=(m:Int)+1 by omega,Int.add_mul,Int.one_mul]
  have hmn:0≤(m:Int) * X:=Int.mul_nonneg (by omega) hX
  rw [hmX] at hL ⊢
  have hk:=hF i left L (by omega) h1' hl h2' (by omega) hL2
  have hs:Yw f1 r D (Z5 r) ((i:Int),acc,L)=some (.inl (((i+1:Nat):Int),acc++[(f (Yq A r i).1 left).1],L - (left - (f (Yq A r i).1 left).2.1+X))):=by
   unfold Yw
   simp only
   rw [show decide ((i:Int) < Z5 r)=true from by rw [decide_eq_true_eq];omega,cond_true,Z7f hw hr,Option.bind_some,bne_eq_false_iff_eq.2 h1',cond_false,Xc (x:=D - 1) (by omega) (by omega),hk,Option.bind_some]
   simp only
   rw [show ((0:Int) != 0)=false from rfl,cond_false,Zbc (by simp only [List.length_singleton];omega) (by simp only [List.length_singleton];omega),Option.bind_some,Xc (by omega) (by omega)]
   rfl
  rw [Qw hs,Z2b hw hf hr n hn hn2 hX hD hF m (i+1) _ _ _ (by omega) (by rw [List.length_append,ha];rfl) ⟨b1,by omega⟩ hq (by omega) (by omega)]
  refine congrArg some (congrArg Sum.inr (Prod.ext rfl ?_))
  simp only
  omega
theorem Zuc (hw:WS A.segments) {f1:Zv→Ze→Int→Option (Tr×Int×Zv)} {f:Ze→Int→Tr×Int×Int} (hf:Lf A f) {r:Ze} (hr:OKr A r) {X D left L:Int} (hX:0≤X) (hD:0≤D∧D≤1000) (hD1:1≤r.kind∧r.kind≤9→1≤D) (hl:0≤left∧left≤65536)
  (hq:(Yr f (Yq A r) (Z5 r).toNat 0 left []).2.2=0) (hL:uwR r+(left - (Yr f (Yq A r) (Z5 r).toNat 0 left []).2.1+Z5 r * X)≤L) (hL2:L≤65536)
  (hF:1≤D→∀ (i:Nat) (l L:Int),i < (Z5 r).toNat→(Yq A r i).2=0→0≤l∧l≤65536→(f (Yq A r i).1 l).2.2=0→l - (f (Yq A r i).1 l).2.1+X≤L→L≤65536→f1 ⟨L⟩ (Yq A r i).1 (D - 1)=some ((f (Yq A r i).1 l).1,0,⟨L - (l - (f (Yq A r i).1 l).2.1+X)⟩)) :
  Y6 f1 ⟨L⟩ r D=some (⟨r.kind,Xu A r,(Yr f (Yq A r) (Z5 r).toNat 0 left []).1⟩,0,⟨L - (uwR r+(left - (Yr f (Yq A r) (Z5 r).toNat 0 left []).2.1+Z5 r * X))⟩):=by
 have hkk:Yk r=some r.kind:=rfl
 have hkn:=Zgy hr
 have hg:=Zqp hf (fun i=>Kw hr i) (Z5 r).toNat 0 left [] hl.1 hq
 have hmn:0≤Z5 r * X:=Int.mul_nonneg hkn.1 hX
 have hu:0≤uwR r:=by
  cases hr with
  | z=>simp [uwR,r0]
  | st s a d p hd hp hin=>simp [uwR];omega
  | li k s a n hk hn hin=>simp only [uwR];rw [if_neg (by omega),if_neg (by omega)];split <;> omega
  | co=>simp [uwR]
  | at_=>simp [uwR]
 unfold Y6
 rw [Z3t hr,Option.bind_some,Z7w,Xc (x:=L - uwR r) (by omega) (by omega)]
 have e1:(cond (decide (L - uwR r < 0)) (some true) (cond (D == 0) ((some (decide (1≤r.kind∧r.kind≤9))).bind fun y6=>some (cond (decide (L - uwR r < 0)) true (cond (D == 0) y6 false))) (some (cond (decide (L - uwR r < 0)) true false))))=some false:=by
  rw [decide_eq_false (show ¬ L - uwR r < 0 by omega),cond_false]
  by_cases d0:D=0
  ·rw [show (D == 0)=true from by rw [d0];rfl,cond_true,Option.bind_some,cond_true,decide_eq_false (show ¬ (1≤r.kind∧r.kind≤9) from fun q=>by have:=hD1 q;omega)]
   rfl
  rw [show (D == 0)=false from Vu d0];rfl
 rw [e1,Option.bind_some,cond_false,hkk,Option.bind_some,Znn,Option.bind_some,Z6f hw hr,Option.bind_some,Zha,Option.bind_some]
 by_cases hk0:Z5 r=0
 ·-- no kids
  have e2:Z8 (Yw f1 r D (Z5 r)) (0,([]:List Tr),L - uwR r)=some (.inr ([],L - uwR r)):=by
   refine Y7 ?_
   unfold Yw
   simp only
   rw [hk0]
   rfl
  rw [e2,Option.bind_some,hk0]
  simp only [show ((0:Int).toNat)=0 from rfl,Yr]
  congr 4
  omega
 have hD':1≤D:=hD1 (by
  cases hr with
  | z=>simp [Z5,r0] at hk0
  | st=>simp
  | li k s a n hk=>simp only;omega
  | co=>simp
  | at_=>simp [Z5] at hk0)
 have hL1:=Z2b hw hf hr (Z5 r).toNat (by omega) (by omega) hX ⟨hD',hD.2⟩ (hF hD') (Z5 r).toNat 0 left (L - uwR r) [] (by omega) rfl hl hq (by rw [show (((Z5 r).toNat:Nat):Int)=Z5 r by omega];omega) (by omega)
 rw [show (((0:Nat):Int))=0 from rfl,show (((Z5 r).toNat:Nat):Int)=Z5 r by omega] at hL1
 rw [hL1,Option.bind_some]
 simp only
 congr 4
 omega
theorem Yd3 {r:Ze} (h:OKr A r):wtR r=uwR r+Z5 r * (if r.kind=9 then 1+r.words+r.ptrs else if r.kind=1∨r.kind=8 then 0 else if r.kind=0 then 0 else 1):=by
 cases h with
 | z=>simp [wtR,uwR,Z5,r0]
 | st s a d p hd hp hin=>simp [wtR,uwR]
 | co s a d p n hd hp hn hwx hin=>simp [wtR,uwR,Z5]
 | at_=>simp [wtR,uwR,Z5]
 | li k s a n hk hn hin =>
  have:k=2∨k=3∨k=4∨k=5∨k=6∨k=7∨k=8:=by omega
  rcases this with rfl | rfl | rfl | rfl | rfl | rfl | rfl <;> simp [wtR,uwR,Z5]
theorem Z08 {r:Ze} (hk:r.kind=9) {i:Int} (h:0≤i∧i < Z5 r):(Yq A r i).1.words=r.words∧(Yq A r i).1.ptrs=r.ptrs:=by
 unfold Yq
 rw [if_neg (by omega),if_neg (by omega),if_neg (by omega),if_pos hk]
 exact ⟨rfl,rfl⟩
theorem Zrv {r:Ze} (hk:2≤r.kind∧r.kind≤7) {i:Int} (h:0≤i∧i < Z5 r):(Yq A r i).1.kind=10∧Z5 (Yq A r i).1=0:=by
 unfold Yq
 rw [if_neg (by omega),if_neg (by omega),if_neg (by omega),if_neg (by omega)]
 exact ⟨rfl,rfl⟩
theorem Z82 (hw:WS A.segments):∀ (K:Nat),(∀ (d:Nat) r (left L D:Int),OKr A r→0≤left∧left≤65536→(Uz A d r left).2.2=0→left - (Uz A d r left).2.1≤L→L≤65536→(d:Int)≤D→D≤1000→d+2≤K→r.kind≠10→Yc K ⟨L⟩ r D=some ((Uz A d r left).1,0,⟨L - (left - (Uz A d r left).2.1)⟩)) ∧
  (∀ (d:Nat) r (left L D:Int),OKr A r→r.kind=1→0≤left∧left≤65536→(stK A (Uz A d) r left).2.2=0→left - (stK A (Uz A d) r left).2.1+(1+r.words+r.ptrs)≤L→L≤65536→(d:Int)+1≤D→D≤1000→d+3≤K→Yc K ⟨L⟩ r D=some ((stK A (Uz A d) r left).1,0,⟨L - (left - (stK A (Uz A d) r left).2.1+(1+r.words+r.ptrs))⟩)) ∧
  (∀ r (left L D:Int),OKr A r→r.kind=10→Z5 r=0→1≤L→L≤65536→0≤D→D≤1000→1≤K→Yc K ⟨L⟩ r D=some ((Zgo A r left).1,0,⟨L - 1⟩))
 | 0=>⟨fun d r left L D _ _ _ _ _ _ _ h=>by omega,fun d r left L D _ _ _ _ _ _ _ _ h=>by omega,fun r left L D _ _ _ _ _ _ _ h=>by omega⟩
 | K+1=>by
  obtain ⟨i1,i2,i3⟩:=Z82 hw K
  refine ⟨fun d r left L D hr hl hq hL hL2 hdD hD hK h10 => ?_,fun d r left L D hr k1 hl hq hL hL2 hdD hD hK => ?_,fun r left L D hr k10 hk0 hL hL2 hD0 hD hK => ?_⟩
  ·show Y6 (Yc K) ⟨L⟩ r D=_
   have hwt:=Z89 hw hr
   have hkd:=Z37 hr
   have hkn:=Zgy hr
   have hwu:=Yd3 hr
   rw [Zkj] at hq hL ⊢
   unfold Zhu at hq hL ⊢
   by_cases k0:r.kind=0
   ·rw [if_pos k0] at hq hL ⊢
    have hz:Z5 r=0:=by
     cases hr with
     | z=>rfl
     | st=>simp at k0
     | li k s a n hk=>simp only at k0;omega
     | co=>simp at k0
     | at_=>simp at k0
    have huz:uwR r=0:=by unfold uwR;rw [if_pos k0]
    have:=Zuc hw (f1:=Yc K) (f:=bad) Zr2 hr (X:=0) (D:=D) (left:=left) (L:=L) (by omega) ⟨by omega,hD⟩ (fun q=>by omega) hl (by rw [hz];rfl) (by rw [hz,huz];simp only [show ((0:Int).toNat)=0 from rfl,Yr];simp only at hL;omega) hL2 (fun _ i l L hi=>by rw [hz] at hi;simp at hi)
    rw [this,hz,huz]
    simp only [show ((0:Int).toNat)=0 from rfl,Yr]
    congr 4
    omega
   rw [if_neg k0] at hq hL ⊢
   by_cases hb:(d:Int) < lvR r∨left < wtR r
   ·rw [if_pos hb] at hq;simp at hq
   rw [if_neg hb] at hq hL ⊢
   simp only at hq hL ⊢
   have hlv:1≤(d:Int):=by
    have:1≤lvR r:=by unfold lvR;rw [if_neg k0];split <;> omega
    omega
   have hlf:Lf A (Zc7 A (Xa A 1 d) (Xa A 2 d) r):=Z4b (Z1b hw 1 d) (Z1b hw 2 d) r
   obtain ⟨X,hXe⟩:∃ X,(if r.kind=9 then 1+r.words+r.ptrs else if r.kind=1∨r.kind=8 then 0 else if r.kind=0 then 0 else 1)=X:=⟨_,rfl⟩
   rw [hXe] at hwu
   have hX0:0≤X:=by
    rw [← hXe]
    cases hr with
    | z=>simp [r0]
    | st=>simp
    | li k s a n hk =>
     simp only
     repeat' split
     all_goals omega
    | co s a d p n hd hp=>simp;omega
    | at_=>simp
   have hkey:=Zuc hw (f1:=Yc K) hlf hr hX0 (D:=D) (left:=left - wtR r) (L:=L) ⟨by omega,hD⟩ (fun _=>by omega) ⟨by omega,by omega⟩ hq (by omega) hL2 (fun hD1 i l L hi he hl hq2 hL hL2=>by
    by_cases k9:r.kind=9
    ·have hkf:Zc7 A (Xa A 1 d) (Xa A 2 d) r=stK A (Xa A 2 d):=by unfold Zc7;rw [if_pos k9]
     have hkc:Z5 r=r.count:=by unfold Z5;rw [if_neg (by omega)]
     have hd2:2≤d:=by
      have:lvR r=2:=by unfold lvR;rw [if_neg k0,if_pos ⟨k9,by omega⟩]
      omega
     have hm2:Xa A 2 d=Uz A (d - 2):=by unfold Xa;rw [if_pos hd2]
     rw [hkf,hm2] at hq2 hL ⊢
     obtain ⟨w1,w2⟩:=Z08 (A:=A) k9 (i:=(i:Int)) ⟨by omega,by omega⟩
     have hX:X=1+(Yq A r i).1.words+(Yq A r i).1.ptrs:=by rw [← hXe,if_pos k9,w1,w2]
     rw [hX] at hL ⊢
     exact i2 (d - 2) _ l L (D - 1) (Kw hr i) (Zht k9 ⟨by omega,by omega⟩) hl hq2 hL hL2 (by omega) (by omega) (by omega)
    by_cases k18:r.kind=1∨r.kind=8
    ·have hkf:Zc7 A (Xa A 1 d) (Xa A 2 d) r=Xa A 1 d:=by unfold Zc7;rw [if_neg k9,if_pos k18]
     have hm1:Xa A 1 d=Uz A (d - 1):=by unfold Xa;rw [if_pos (by omega)]
     have hX:X=0:=by rw [← hXe,if_neg k9,if_pos k18]
     rw [hkf,hm1,hX,Int.add_zero] at hL ⊢
     rw [hkf,hm1] at hq2
     have hk10:(Yq A r i).1.kind≠10:=by
      unfold Yq
      rw [if_neg (by omega)]
      have hat:∀ s a,(atR A s a).1.kind≠10:=fun s a=>by
       unfold atR
       rcases Zle A.segments s a with h | ⟨h1,hp,hk,hi⟩
       ·rw [if_pos h];simp [r0]
       rw [if_neg (by omega)]
       have hc:=hp.c
       split
       ·simp
       split
       ·simp only;split <;> simp [r0]
       simp only;omega
      rcases k18 with k | k
      ·rw [if_pos k];exact hat _ _
      rw [if_neg (by omega),if_pos k];exact hat _ _
     exact i1 (d - 1) _ l L (D - 1) (Kw hr i) hl hq2 hL hL2 (by omega) (by omega) (by omega) hk10
    have hkf:Zc7 A (Xa A 1 d) (Xa A 2 d) r=Zgo A:=by unfold Zc7;rw [if_neg k9,if_neg k18]
    have hX:X=1:=by rw [← hXe,if_neg k9,if_neg k18,if_neg k0]
    rw [hkf,hX] at hL ⊢
    obtain ⟨a1,a2⟩:=Zrv (A:=A) (r:=r) (i:=(i:Int)) (by omega) ⟨by omega,by omega⟩
    have hz:l - (Zgo A (Yq A r i).1 l).2.1+1=1:=by simp only [Zgo];omega
    rw [hz] at hL ⊢
    exact i3 _ l L (D - 1) (Kw hr i) a1 a2 hL hL2 (by omega) (by omega) (by omega))
   rw [hkey]
   congr 4
   omega
  ·show Y6 (Yc K) ⟨L⟩ r D=_
   have hkn:Z5 r=r.ptrs:=by unfold Z5;rw [if_pos k1]
   have hu:uwR r=1+r.words+r.ptrs:=by unfold uwR;rw [if_neg (by omega),if_pos k1]
   unfold stK at hq hL ⊢
   simp only at hq hL ⊢
   rw [← hkn] at hq hL ⊢
   have hkey:=Zuc hw (f1:=Yc K) (Zmv hw d) hr (X:=0) (D:=D) (left:=left) (L:=L) (by omega) ⟨by omega,hD⟩ (fun _=>by omega) hl hq (by rw [hu];omega) hL2 (fun hD1 i l L hi he hl hq2 hL hL2=>by
    rw [Int.add_zero] at hL ⊢
    have hk10:(Yq A r i).1.kind≠10:=by
     unfold Yq
     rw [if_neg (by omega),if_pos k1]
     unfold atR
     rcases Zle A.segments r.segment (r.at_+r.words+i) with h | ⟨h1,hp,hk,hi⟩
     ·rw [if_pos h];simp [r0]
     rw [if_neg (by omega)]
     have hc:=hp.c
     split
     ·simp
     split
     ·simp only;split <;> simp [r0]
     simp only;omega
    exact i1 d _ l L (D - 1) (Kw hr i) hl hq2 hL hL2 (by omega) (by omega) (by omega) hk10)
   rw [hkey,hu,k1]
   congr 4
   omega
  show Y6 (Yc K) ⟨L⟩ r D=_
  have hu:uwR r=1:=by unfold uwR;rw [if_neg (by omega),if_neg (by omega),if_neg (by omega)]
  have hkey:=Zuc hw (f1:=Yc K) (f:=bad) Zr2 hr (X:=0) (D:=D) (left:=0) (L:=L) (by omega) ⟨hD0,hD⟩ (fun q=>by omega) (by omega) (by rw [hk0];rfl) (by rw [hk0,hu];simp only [show ((0:Int).toNat)=0 from rfl,Yr];omega) hL2 (fun _ i l L hi=>by rw [hk0] at hi;simp at hi)
  rw [hkey,hk0,hu]
  simp only [show ((0:Int).toNat)=0 from rfl,Yr,Zgo]
  congr 4
end
section
variable {A:Zm}
theorem Ybp (s a:Int):(atR A s a).1.kind≠10:=by
 unfold atR
 rcases Zle A.segments s a with h | ⟨h1,hp,hk,hi⟩
 ·rw [if_pos h];simp [r0]
 rw [if_neg (by omega)]
 have hc:=hp.c
 split
 ·simp
 split
 ·simp only;split <;> simp [r0]
 simp only;omega
theorem Z83 (hw:WS A.segments) {d:Nat} (hd:d≤64) {r:Ze} (hr:OKr A r) (h10:r.kind≠10) {left:Int} (hl:0≤left∧left≤65536) (hq:(Uz A d r left).2.2=0):Za4 r=some ((Uz A d r left).1,0):=by
 have hb:=Zmv hw d r left hr hl.1 hq
 have h:Ge ⟨65536⟩ r 64=some ((Uz A d r left).1,0,⟨65536 - (left - (Uz A d r left).2.1)⟩) :=
  Zkh (d+2) fun k hk=>(Z82 hw k).1 d r left 65536 64 hr hl hq (by omega) (by omega) (by omega) (by omega) hk h10
 unfold Za4
 rw [h,Option.bind_some]
theorem Yaz (x:Ym):((Zp4 A x).2.2≠0∧(Zp4 A x).1=⟨0,[],[]⟩∧(Z2y A x).2=(Zp4 A x).2.2)∨((Zp4 A x).2.2=0∧(Z2y A x).2=0∧(atR A 0 0).2=0∧(Uz A (Uh x).Depth.toNat (atR A 0 0).1 (Uh x).Weight).2.2=0∧(Zp4 A x).1=(Uz A (Uh x).Depth.toNat (atR A 0 0).1 (Uh x).Weight).1):=by
 have hc:(Z2y A x).2=(Zp4 A x).2.2:=by rw [← Ya0]
 unfold Zp4 at hc ⊢
 by_cases h:(atR A 0 0).2≠0
 ·rw [if_pos h] at hc ⊢
  exact .inl ⟨h,rfl,hc⟩
 rw [if_neg h] at hc ⊢
 simp only at hc ⊢
 by_cases hq:(Uz A (Uh x).Depth.toNat (atR A 0 0).1 (Uh x).Weight).2.2≠0
 ·rw [if_pos hq] at hc ⊢
  exact .inl ⟨hq,rfl,hc⟩
 rw [if_neg hq] at hc ⊢
 exact .inr ⟨rfl,hc,by omega,by omega,rfl⟩
theorem Yb4 (x:Ym):(Uh x).Depth.toNat≤64∧0≤(Uh x).Weight∧(Uh x).Weight≤65536:=by
 have hd:0≤(Uh x).Depth∧(Uh x).Depth≤64:=Zp9 _ _ (by decide)
 have hW:0≤(Uh x).Weight∧(Uh x).Weight≤65536:=Zp9 _ _ (by decide)
 omega
theorem Z3h (hw:WS A.segments) (x:Ym):Gd (some A) x=some (nrm (Zp4 A x).1,(Zp4 A x).2.2):=by
 have hl:=Yb4 x
 unfold Gd
 rw [Z6y hw,Option.bind_some]
 rcases Yaz (A:=A) x with ⟨h1,h2,h3⟩ | ⟨h1,h2,h3,h4,h5⟩
 ·rw [h3,bne_iff_ne.2 h1,cond_true,h2,Za8 rfl]
 rw [h2,h1,h5,show ((0:Int) != 0)=false from rfl,cond_false,Z4q hw,Option.bind_some,h3,show ((0:Int) != 0)=false from rfl,cond_false,Z83 hw hl.1 (Zpf 0 0) (Ybp 0 0) ⟨hl.2.1,hl.2.2⟩ h4,Option.bind_some,Z4i (Z90 hw _ _ _ (Zpf 0 0) hl.2.1 hl.2.2),Option.bind_some]
end
def wid (c:Int):Nat:=if c=0 then 0 else if c=1 then 1 else if c=2 then 8 else if c=3 then 16 else if c=4 then 32 else 64
def Zfl (c w:Int):Bool:=decide (w < 2 ^ wid c)
theorem Z2z {c:Int} (h0:0≤c) (h1:c≤5):c=0∨c=1∨c=2∨c=3∨c=4∨c=5:=by omega
theorem Z2e {c w:Int} (h0:0≤c) (h1:c≤5) (hw:0≤w):Zcf c w=some (Zfl c w):=by
 have key:∀ n:Nat,n≤64→(Int.fdiv w (2 ^ min (Int.toNat (n:Int)) 64) == 0)=decide (w < 2 ^ n):=fun n hn=>by
  rw [Int.toNat_natCast,Nat.min_eq_left hn,Int.fdiv_eq_ediv_of_nonneg _ (Int.le_of_lt (Int.pow_pos (by decide)))]
  have hp:(0:Int) < 2 ^ n:=Int.pow_pos (by decide)
  rw [Bool.eq_iff_iff,beq_iff_eq,decide_eq_true_eq]
  constructor
  ·intro h
   rcases Int.lt_or_le w (2 ^ n) with h2 | h2
   ·exact h2
   have:=Int.ediv_le_ediv hp h2
   rw [Int.ediv_self (Int.ne_of_gt hp)] at this
   omega
  intro h;exact Int.ediv_eq_zero_of_lt hw h
 have e:∀ n:Nat,n≤64→(some (((n:Int),true):Int×Bool)).bind (fun y2=>(cond y2.2 ((Ja (0≤y2.1)).bind fun u5=>some (cond y2.2 ((Int.fdiv w (2 ^ min (Int.toNat y2.1) 64)) == 0) false)) (some false)).bind fun (z4:Bool)=>some z4)=some (decide (w < 2 ^ n)):=fun n hn=>by
  rw [Option.bind_some]
  simp only [cond_true]
  rw [V9 (by omega),Option.bind_some,Option.bind_some,key n hn]
 unfold Zcf Zfl
 rcases Z2z h0 h1 with rfl | rfl | rfl | rfl | rfl | rfl
 ·exact e 0 (by decide)
 ·exact e 1 (by decide)
 ·exact e 8 (by decide)
 ·exact e 16 (by decide)
 ·exact e 32 (by decide)
 exact e 64 (by decide)
def okk (kind:Int) (k:Tr):Bool:=if 2≤kind∧kind≤7 then k.Kind == 10 && Zfl (kind - 2) (k.Words.headD 0) else k.Kind != 10 && (kind != 9 || k.Kind == 1)
def rt (t:Tr) (d:Nat):Bool :=
 if t.Kind=0 then t.Words.length == 0 && t.Kids.length == 0
 else if t.Kind=10 then t.Words.length == 1 && t.Kids.length == 0
 else if t.Kind < 0∨10 < t.Kind∨d=0∨65536≤t.Words.length∨(t.Kind=1∧65536≤t.Kids.length)∨1048576≤t.Kids.length∨(1 < t.Kind∧0 < t.Words.length) then false
 else (t.Kids.attach.map fun k=>rt k.1 (d - 1) && okk t.Kind k.1).all id
termination_by SizeOf.sizeOf t
decreasing_by exact Yy k.2
theorem Zdp (t:Tr) (d:Nat):rt t d=if t.Kind=0 then t.Words.length == 0 && t.Kids.length == 0
 else if t.Kind=10 then t.Words.length == 1 && t.Kids.length == 0
 else if t.Kind < 0∨10 < t.Kind∨d=0∨65536≤t.Words.length∨(t.Kind=1∧65536≤t.Kids.length)∨1048576≤t.Kids.length∨(1 < t.Kind∧0 < t.Words.length) then false
 else t.Kids.all fun k=>rt k (d - 1) && okk t.Kind k:=by
 rw [rt]
 have:(t.Kids.attach.map fun k=>rt k.1 (d - 1) && okk t.Kind k.1)=t.Kids.map fun k=>rt k (d - 1) && okk t.Kind k:=List.attach_map_val (f:=fun k=>rt k (d - 1) && okk t.Kind k)
 rw [this,List.all_map]
 rfl
theorem Yai {t:Tr} (h:t.Kind=10) (d d':Nat):rt t d=rt t d':=by
 have h0:¬ t.Kind=0:=by rw [h];decide
 rw [Zdp t d,Zdp t d']
 simp only [if_neg h0,if_pos h]
theorem Zsk {t:Tr} (h:t.Kind=10) {d:Nat} (hr:rt t d=true):∃ w,t.Words=[w]:=by
 rw [Zdp,if_neg (by omega),if_pos h,Bool.and_eq_true,beq_iff_eq] at hr
 obtain ⟨k,w,ks⟩:=t
 obtain ⟨h1,_⟩:=hr
 simp only at h1 ⊢
 exact List.length_eq_one_iff.1 h1
theorem Yb3 {n:Nat}:((n:Int) == 0)=(n == 0):=by rw [Bool.eq_iff_iff,beq_iff_eq,beq_iff_eq];omega
theorem Yec {n:Nat}:((n:Int) == 1)=(n == 1):=by rw [Bool.eq_iff_iff,beq_iff_eq,beq_iff_eq];omega
theorem Zul (a b:Bool):cond a b false=(a && b):=by cases a <;> rfl
theorem Z3w {α:Type} (p:α→Bool):∀ l:List α,l.any (fun x => !p x) = !(l.all p)
 | []=>rfl
 | x::l=>by rw [List.any_cons,List.all_cons,Z3w p l];cases p x <;> rfl
theorem Zu2 {α R:Type} (xs:List α) (step:Int→Option (Int ⊕ R)) (p:α→Bool) (e o:R) (hl:(xs.length:Int)≤140737488355328)
  (h1:∀ (i:Nat) (x:α),i < xs.length→xs[i]? = some x→x∈xs→step i=some (if p x=true then .inl (IntKind.i64.wrap ((i:Int)+1)) else .inr e)) (h2:step xs.length=some (.inr o)):Z8 step 0=some (if xs.all p=true then o else e):=by
 rw [Zu3 xs step (fun x => !p x) e o hl (fun i x hi hx hm=>by rw [h1 i x hi hx hm];cases p x <;> rfl) h2,Z3w]
 cases xs.all p <;> rfl
theorem Z9x (n:Int):Za3 n=some (decide (2≤n) && decide (n≤9)):=by unfold Za3;rw [Zul]
theorem Z3o {l:List Tr} (hl:(l.length:Int)≤140737488355328):Un l=some (l.all fun x=>x.Kind == 1):=by
 unfold Un
 rw [Zu2 l (Kr l) (fun x=>x.Kind == 1) (.inl ()) (.inr ()) hl (fun i x hi hx hm=>by
  unfold Kr
  rw [Zow hi,cond_true,Jr hx,Option.bind_some]
  simp only [bne]
  cases x.Kind == 1 <;> rfl) (by unfold Kr;rw [Zov];rfl),Option.bind_some]
 cases l.all fun x=>x.Kind == 1 <;> rfl
theorem Z3v {α:Type} (p q:α→Bool):∀ l:List α,(l.all fun x=>p x && q x)=(l.all p && l.all q)
 | []=>rfl
 | x::l=>by rw [List.all_cons,List.all_cons,List.all_cons,Z3v p q l];cases p x <;> cases q x <;> cases l.all p <;> cases l.all q <;> rfl
theorem Zwr {α:Type} {p q:α→Bool}:∀ {l:List α},(∀ x∈l,p x=q x)→l.all p=l.all q
 | [],_=>rfl
 | x::l,h=>by rw [List.all_cons,List.all_cons,h x (.head _),Zwr fun y hy=>h y (.tail _ hy)]
def rq (t:Tr) (d:Nat):Bool:=rt t d && t.Kind != 10
def ra (c:Int) (x:Tr):Bool:=x.Kind == 10 && (rt x 64 && Zfl c (x.Words.headD 0))
theorem Z12:∀ (k:Nat),(∀ t:Tr,Bd t→(2 * SizeOf.sizeOf t+1 < k∨(t.Kind=10∧0 < k))→(Zz k).1 t=some (rt t 64)) ∧
  (∀ (t:Tr) (d:Nat),Bd t→2 * SizeOf.sizeOf t < k→d≤64→(Zz k).2.1 t (d:Int)=some (rq t d)) ∧
  (∀ (l:List Tr) (d:Nat),(∀ x∈l,Bd x∧2 * SizeOf.sizeOf x+1 < k)→(l.length:Int)≤140737488355328→d≤64→1≤k→(Zz k).2.2.1 l (d:Int)=some (l.all fun x=>rq x d)) ∧
  (∀ (l:List Tr) (c:Int),(∀ x∈l,Bd x)→(l.length:Int)≤140737488355328→0≤c→c≤5→2≤k→(Zz k).2.2.2 l c=some (l.all (ra c)))
 | 0=>⟨fun t _ h=>by omega,fun t d _ h=>by omega,fun l d _ _ _ h=>by omega,fun l c _ _ _ _ h=>by omega⟩
 | k+1=>by
  obtain ⟨i1,i2,i3,i4⟩:=Z12 k
  refine ⟨fun t hb hk => ?_,fun t d hb hk hd => ?_,fun l d hl hn hd hk => ?_,fun l c hl hn h0 h5 hk => ?_⟩
  ·show Zcy (Zz k).1 (Zz k).2.1 (Zz k).2.2.1 (Zz k).2.2.2 t=_
   unfold Zcy
   rw [Yb3,Yec]
   by_cases h10:t.Kind=10
   ·have e:(t.Kind == 10)=true:=by simp [h10]
    rw [e,cond_true,Zul,Zdp,if_neg (by rw [h10];decide),if_pos h10]
   have e:(t.Kind == 10)=false:=by simp [h10]
   have e2:(t.Kind != 10)=true:=by simp [h10]
   have:=i2 t 64 hb (by rcases hk with hk | hk;omega;exact absurd hk.1 h10) (by decide)
   rw [e,cond_false,show (64:Int)=((64:Nat):Int) from rfl,this,Option.bind_some]
   unfold rq
   rw [e2,Bool.and_true]
  ·have hkd:=hb.k
   have hw:=hb.w
   show Zcz (Zz k).1 (Zz k).2.1 (Zz k).2.2.1 (Zz k).2.2.2 t (d:Int)=_
   unfold Zcz rq
   rw [Yb3,Yb3,Zdp]
   by_cases h0:t.Kind=0
   ·have e:(t.Kind == 0)=true:=by simp [h0]
    have e2:(t.Kind != 10)=true:=by rw [h0];rfl
    rw [e,e2,cond_true,Zul,if_pos h0,Bool.and_true]
   have e0:(t.Kind == 0)=false:=by simp [h0]
   rw [e0,cond_false,if_neg h0]
   by_cases hd0:d=0
   ·subst hd0
    have e:(((0:Nat):Int) == 0)=true:=rfl
    rw [e,cond_true]
    by_cases h10:t.Kind=10
    ·simp [h10]
    rw [if_neg h10,if_pos (by omega),Bool.false_and]
   have ed:((d:Int) == 0)=false:=by rw [beq_eq_false_iff_ne];omega
   rw [ed,cond_false]
   obtain ⟨d',rfl⟩:∃ d',d=d'+1:=⟨d - 1,by omega⟩
   have e3:((d'+1:Nat):Int) - 1=(d':Int):=by omega
   have ih3:=i3 t.Kids d' (fun x hx=>⟨hb.all x hx,by have:=Yy hx;omega⟩) (by omega) (by omega) (by have:=Z17 t;omega)
   rw [Xc (x:=((d'+1:Nat):Int) - 1) (by omega) (by omega),e3,ih3,Nat.add_sub_cancel]
   by_cases h1:t.Kind=1
   ·have e:(t.Kind == 1)=true:=by simp [h1]
    have e2:(t.Kind != 10)=true:=by rw [h1];rfl
    have e10:¬ t.Kind=10:=by omega
    have ho:∀ x:Tr,okk t.Kind x=(x.Kind != 10):=fun x=>by unfold okk;rw [h1,if_neg (by decide)];simp
    rw [e,e2,cond_true,if_neg e10,Bool.and_true]
    simp only [ho]
    by_cases hw':t.Words.length < 65536
    ·have q1:decide ((t.Words.length:Int) < 65536)=true:=by rw [decide_eq_true_eq];omega
     by_cases hk':t.Kids.length < 65536
     ·have q2:decide ((t.Kids.length:Int) < 65536)=true:=by rw [decide_eq_true_eq];omega
      rw [q1,q2,if_neg (by omega)]
      rfl
     have q2:decide ((t.Kids.length:Int) < 65536)=false:=by rw [decide_eq_false_iff_not];omega
     rw [q1,q2,if_pos (by omega)]
     rfl
    have q1:decide ((t.Words.length:Int) < 65536)=false:=by rw [decide_eq_false_iff_not];omega
    rw [q1,if_pos (by omega)]
    rfl
   have e1:(t.Kind == 1)=false:=by simp [h1]
   rw [e1,cond_false,Z9x,Option.bind_some]
   by_cases hbad:¬ (2≤t.Kind∧t.Kind≤9)∨0 < t.Words.length∨1048576≤t.Kids.length
   ·have q:cond (cond (!(decide (2≤t.Kind) && decide (t.Kind≤9))) true (decide (0 < (t.Words.length:Int)))) true (decide (1048576≤(t.Kids.length:Int)))=true:=by
     cases hq:cond (cond (!(decide (2≤t.Kind) && decide (t.Kind≤9))) true (decide (0 < (t.Words.length:Int)))) true (decide (1048576≤(t.Kids.length:Int))) with
     | true=>rfl
     | false =>
      have hc:∀ a b c:Bool,cond (cond (!a) true b) true c=false→a=true∧b=false∧c=false:=by decide
      obtain ⟨z1,z2,z3⟩:=hc _ _ _ hq
      rw [Bool.and_eq_true,decide_eq_true_eq,decide_eq_true_eq] at z1
      rw [decide_eq_false_iff_not] at z2 z3
      omega
    rw [q,cond_true]
    by_cases h10:t.Kind=10
    ·have e2:(t.Kind != 10)=false:=by simp [h10]
     rw [e2,Bool.and_false]
    rw [if_neg h10,if_pos (by omega),Bool.false_and]
   have hg:2≤t.Kind∧t.Kind≤9∧¬ 0 < t.Words.length∧¬ 1048576≤t.Kids.length:=by omega
   have q2:decide (0 < (t.Words.length:Int))=false:=by rw [decide_eq_false_iff_not];omega
   have q3:decide (1048576≤(t.Kids.length:Int))=false:=by rw [decide_eq_false_iff_not];omega
   have e10:¬ t.Kind=10:=by omega
   have e2:(t.Kind != 10)=true:=by simp [e10]
   rw [decide_eq_true hg.1,decide_eq_true hg.2.1,q2,q3,e2,if_neg e10,if_neg (by omega),Bool.and_true]
   simp only [Bool.and_true,Bool.not_true,cond_false]
   by_cases h8:t.Kind=8
   ·have e:(t.Kind == 8)=true:=by simp [h8]
    have ho:∀ x:Tr,okk t.Kind x=(x.Kind != 10):=fun x=>by unfold okk;rw [h8,if_neg (by decide)];simp
    rw [e,cond_true,Option.bind_some]
    simp only [ho]
    rfl
   have e8:(t.Kind == 8)=false:=by simp [h8]
   rw [e8,cond_false]
   by_cases h9:t.Kind=9
   ·have e:(t.Kind == 9)=true:=by simp [h9]
    have ho:∀ x:Tr,(rt x d' && okk t.Kind x)=(rq x d' && x.Kind == 1):=fun x=>by
     unfold okk rq
     rw [h9,if_neg (by decide)]
     have:((9:Int) != 9)=false:=rfl
     rw [this,Bool.false_or,Bool.and_assoc]
    rw [e,cond_true,Z3o (by omega),Option.bind_some]
    simp only [ho]
    rw [Z3v]
    cases t.Kids.all fun x=>x.Kind == 1 with
    | false=>rw [Bool.and_false];rfl
    | true=>rw [Bool.and_true];rfl
   have e:(t.Kind == 9)=false:=by simp [h9]
   have hd7:2≤t.Kind∧t.Kind≤7:=by omega
   rw [e,cond_false,Xc (by omega) (by omega),i4 t.Kids (t.Kind - 2) hb.all (by omega) (by omega) (by omega) (by have:=Z17 t;omega),Option.bind_some]
   congr 1
   refine Zwr fun x hx => ?_
   unfold okk ra
   rw [if_pos hd7]
   by_cases hx10:x.Kind=10
   ·rw [Yai hx10 d' 64]
    have:(x.Kind == 10)=true:=by simp [hx10]
    rw [this,Bool.true_and,Bool.true_and]
   have:(x.Kind == 10)=false:=by simp [hx10]
   rw [this,Bool.false_and,Bool.false_and,Bool.and_false]
  ·show Gw (Zz k).1 (Zz k).2.1 (Zz k).2.2.1 (Zz k).2.2.2 l (d:Int)=_
   unfold Gw
   rw [Zu2 l (Vs (Zz k).2.1 l (d:Int)) (fun x=>rq x d) (.inl ()) (.inr ()) hn (fun i x hi hx hm=>by
    unfold Vs
    rw [Zow hi,cond_true,Jr hx,Option.bind_some,i2 x d (hl x hm).1 (by have:=(hl x hm).2;omega) hd,Option.bind_some]
    cases rq x d <;> rfl) (by unfold Vs;rw [Zov];rfl),Option.bind_some]
   cases l.all fun x=>rq x d <;> rfl
  show Gv (Zz k).1 (Zz k).2.1 (Zz k).2.2.1 (Zz k).2.2.2 l c=_
  unfold Gv
  rw [Zu2 l (Vr (Zz k).1 l c) (ra c) (.inl ()) (.inr ()) hn (fun i x hi hx hm=>by
   unfold Vr ra
   rw [Zow hi,cond_true,Jr hx,Option.bind_some]
   by_cases hx10:x.Kind=10
   ·have e:(x.Kind == 10)=true:=by simp [hx10]
    have e2:(x.Kind != 10)=false:=by simp [hx10]
    rw [e,e2,cond_false,i1 x (hl x hm) (.inr ⟨hx10,by omega⟩),Option.bind_some,Bool.true_and]
    cases hr:rt x 64 with
    | false=>rfl
    | true =>
     obtain ⟨w,hw⟩:=Zsk hx10 hr
     have hu:=(hl x hm).u w (by rw [hw];exact .head _)
     have hg0:Z6 [w] (0:Int)=some w:=rfl
     rw [cond_true,hw,hg0,Option.bind_some,Z2e h0 h5 hu.1,Option.bind_some]
     simp only [cond_false,List.headD_cons,Bool.true_and,Bool.not_true]
     cases Zfl c w <;> rfl
   have e:(x.Kind == 10)=false:=by simp [hx10]
   have e2:(x.Kind != 10)=true:=by simp [hx10]
   rw [e,e2]
   rfl) (by unfold Vr;rw [Zov];rfl),Option.bind_some]
  cases l.all (ra c) <;> rfl
theorem Z8j {t:Tr} (h:Bd t):Zqs t=some (rt t 64):=Zkh (2 * SizeOf.sizeOf t+2) fun k hk=>(Z12 k).1 t h (.inl (by omega))
section
variable {A:Zm}
theorem Z3c {r:Ze} (h:r.kind=9) {i:Int} (hi:0≤i∧i < Z5 r):Yq A r i=(⟨some A,1,r.segment,r.at_+1+i * (r.words+r.ptrs),r.words,r.ptrs,0,0,0⟩,0):=by
 unfold Yq
 rw [if_neg (by omega),if_neg (by omega),if_neg (by omega),if_pos h]
theorem Ybz {r:Ze} (h:2≤r.kind∧r.kind≤7) {i:Int} (hi:0≤i∧i < Z5 r):Yq A r i=(⟨some A,10,r.segment,r.at_,0,0,0,r.kind - 2,i⟩,0):=by
 unfold Yq
 rw [if_neg (by omega),if_neg (by omega),if_neg (by omega),if_neg (by omega)]
theorem Ya2 (c:Int):((wid c:Nat):Int)=wdt c:=by
 unfold wid wdt
 repeat' split
 all_goals rfl
theorem Zyp {r:Ze} (hr:OKr A r) (h:r.kind=1):((Xu A r).length:Int)=r.words:=by
 unfold Xu
 rw [if_neg (by omega),if_pos h]
 cases hr with
 | z=>simp [r0] at h
 | st s a d p hd hp hin =>
  have:=inB_iff.1 hin
  simp only [List.length_take,List.length_drop]
  simp only [seg] at this ⊢
  omega
 | li k s a n hk=>simp only at h;omega
 | co=>simp at h
 | at_=>simp at h
end
theorem Zw8 {α S R σ:Type} (xs:List α) (mk:S→Int→σ) (f:S→α→S) (out:S→R) (I:S→Prop) (step:σ→Option (σ ⊕ R)) (hl:(xs.length:Int)≤140737488355328)
  (h1:∀ (s:S) (i:Nat) (x:α),I s→i < xs.length→xs[i]? = some x→x∈xs→I (f s x)∧step (mk s (i:Int))=some (.inl (mk (f s x) (IntKind.i64.wrap ((i:Int)+1))))) (h2:∀ s,I s→step (mk s (xs.length:Int))=some (.inr (out s))) (s:S) (hs:I s):Z8 step (mk s 0)=some (out (xs.foldl f s))∧I (xs.foldl f s):=by
 have key:∀ (ys:List α) (i:Nat) (s:S),I s→xs.drop i=ys→i≤xs.length→Z8 step (mk s (i:Int))=some (out (ys.foldl f s))∧I (ys.foldl f s):=fun ys=>by
  induction ys with
  | nil =>
   intro i s hI h hi
   have:i=xs.length:=by
    have:=congrArg List.length h
    rw [List.length_drop,List.length_nil] at this
    omega
   subst this
   exact ⟨Y7 (h2 s hI),hI⟩
  | cons x ys ih =>
   intro i s hI h hi
   have hx:xs[i]? = some x:=by
    have:=congrArg (fun l=>l[0]?) h
    simpa using this
   have hi':i < xs.length:=by
    rcases Nat.lt_or_ge i xs.length with h' | h'
    ·exact h'
    rw [List.getElem?_eq_none h'] at hx;cases hx
   obtain ⟨hI',hs⟩:=h1 s i x hI hi' hx (List.mem_of_getElem? hx)
   have hd:xs.drop (i+1)=ys:=by
    have:=congrArg List.tail h
    rwa [List.tail_drop,List.tail_cons] at this
   have e1:(i:Int)+1=((i+1:Nat):Int):=by omega
   rw [Xc (by omega) (by omega),e1] at hs
   rw [Qw hs]
   exact ih (i+1) (f s x) hI' hd (by omega)
 exact key xs 0 s hs rfl (Nat.zero_le _)
def n0T:Tr:=⟨0,[],[]⟩
theorem Yab {k:Int} {t:Tr} (h:okk k t=true):okk k (nrm t)=true:=by
 unfold okk at h ⊢
 rw [Za7]
 split
 ·rename_i hk
  rw [if_pos hk,Bool.and_eq_true,beq_iff_eq] at h
  rw [G3 (by omega) (by omega),h.1]
  simp only [BEq.rfl,Bool.true_and]
  exact h.2
 rename_i hk
 rw [if_neg hk] at h
 exact h
theorem Z8o:∀ (n:Nat) (t:Tr) (d:Nat),SizeOf.sizeOf t < n→rt t d=true→rt (nrm t) d=true
 | 0,_,_,h,_=>by omega
 | n+1,t,d,hn,h=>by
  have hk:=Za7 t
  by_cases h0:t.Kind=0
  ·rw [Za8 h0,Zdp,if_pos rfl];rfl
  rw [Zdp,if_neg h0] at h
  by_cases h10:t.Kind=10
  ·rw [if_pos h10] at h
   rw [G3 h0 (by omega),Zdp,if_neg h0,if_pos h10]
   simp only [List.length_map]
   exact h
  rw [if_neg h10] at h
  by_cases hc:t.Kind < 0∨10 < t.Kind∨d=0∨65536≤t.Words.length∨(t.Kind=1∧65536≤t.Kids.length)∨1048576≤t.Kids.length∨(1 < t.Kind∧0 < t.Words.length)
  ·rw [if_pos hc] at h;cases h
  rw [if_neg hc,List.all_eq_true] at h
  have hkid:∀ x∈t.Kids,(rt (nrm x) (d - 1) && okk t.Kind (nrm x))=true:=fun x hx=>by
   have:=h x hx
   rw [Bool.and_eq_true] at this ⊢
   exact ⟨Z8o n x (d - 1) (by have:=Yy hx;omega) this.1,Yab this.2⟩
  by_cases h1:t.Kind=1
  ·obtain ⟨W,K,e1,lW,lK,mK⟩:∃ W K,nrm t=⟨1,W,K⟩∧W.length≤t.Words.length∧K.length≤t.Kids.length∧∀ x∈K,x∈t.Kids.map nrm :=
    ⟨_,_,Kf h1,Zkz _ _,by have h:=Zkz (fun x:Tr=>x.Kind == 0) (t.Kids.map nrm);rw [List.length_map] at h;exact h,fun x hx=>Zia hx⟩
   rw [e1,Zdp]
   simp only
   rw [if_neg (by decide),if_neg (by decide),if_neg (by omega),List.all_eq_true]
   intro x hx
   obtain ⟨y,hy,rfl⟩:=List.mem_map.1 (mK x hx)
   rw [← h1]
   exact hkid y hy
  rw [G3 h0 h1,Zdp]
  simp only [List.length_map]
  rw [if_neg h0,if_neg h10,if_neg hc,List.all_eq_true]
  intro x hx
  obtain ⟨y,hy,rfl⟩:=List.mem_map.1 hx
  exact hkid y hy
theorem rtN {t:Tr} {d:Nat} (h:rt t d=true):rt (nrm t) d=true:=Z8o _ t d (Nat.lt_succ_self _) h
def atD {α:Type} (z:α) (l:List α) (i:Nat):α:=(l[i]?).getD z
def p0 (x:Int):Bool:=x == 0
def pT (x:Tr):Bool:=x.Kind == 0
def NT (t:Tr):Prop:=nrm t=t
theorem NT.null {t:Tr} (h:NT t) (hk:pT t=true):t=n0T:=by
 unfold pT at hk
 rw [beq_iff_eq] at hk
 rw [← h,Za8 hk]
 rfl
theorem NT.of (t:Tr):NT (nrm t):=Zqv t
theorem NT.z:NT n0T:=Za8 rfl
theorem NT.kids {t:Tr} (h:NT t):∀ k∈t.Kids,NT k:=fun k hk=>by
 unfold NT at h
 rw [← h] at hk
 by_cases h0:t.Kind=0
 ·rw [Za8 h0] at hk;cases hk
 by_cases h1:t.Kind=1
 ·rw [Kf h1] at hk
  obtain ⟨y,_,rfl⟩:=List.mem_map.1 (Zia hk)
  exact NT.of y
 rw [G3 h0 h1] at hk
 obtain ⟨y,_,rfl⟩:=List.mem_map.1 hk
 exact NT.of y
theorem NT.map {l:List Tr} (h:∀ k∈l,NT k):l.map nrm=l:=by
 conv=>rhs;rw [← List.map_id l]
 exact List.map_congr_left fun x hx=>h x hx
theorem NT.words {t:Tr} (h:NT t) (h1:t.Kind=1):tr p0 t.Words=t.Words∧tr pT t.Kids=t.Kids:=by
 have hk:=NT.map h.kids
 unfold NT at h
 rw [Kf h1] at h
 have hw:=congrArg Zd.Words h
 have hk2:=congrArg Zd.Kids h
 simp only at hw hk2
 rw [hk] at hk2
 exact ⟨hw,hk2⟩
theorem NT.st {ws:List Int} {ks:List Tr} (h:∀ k∈ks,NT k):NT ⟨1,tr p0 ws,tr pT ks⟩:=by
 unfold NT
 rw [Kf rfl]
 simp only
 rw [NT.map (l:=tr pT ks) fun k hk=>h k (Zia hk)]
 congr 1
 ·exact Zyh ws
 exact Zyh ks
theorem NT.li {k:Int} {ks:List Tr} (h0:¬ k=0) (h1:¬ k=1) (h:∀ k∈ks,NT k):NT ⟨k,[],ks⟩:=by
 unfold NT
 rw [G3 h0 h1]
 simp only
 rw [NT.map h]
inductive Rg:Tr→Prop
 | mk (t:Tr) (h3:∀ w∈t.Words,0≤w∧w < 18446744073709551616) (h4:∀ k∈t.Kids,Rg k):Rg t
theorem Rg.u {t:Tr} (h:Rg t):∀ w∈t.Words,0≤w∧w < 18446744073709551616:=by cases h;assumption
theorem Rg.all {t:Tr} (h:Rg t):∀ k∈t.Kids,Rg k:=by cases h;assumption
theorem Rg.z:Rg n0T := .mk _ (by simp [n0T]) (by simp [n0T])
theorem Rg.of:∀ (n:Nat) (t:Tr),SizeOf.sizeOf t < n→Bd t→Rg t
 | 0,_,h,_=>by omega
 | n+1,t,hn,h => .mk _ h.u fun k hk=>Rg.of n k (by have:=Yy hk;omega) (h.all k hk)
theorem Bd.rg {t:Tr} (h:Bd t):Rg t:=Rg.of _ t (Nat.lt_succ_self _) h
inductive TX:Tr→Prop
 | mk (t:Tr) (h1:2≤t.Kind∧t.Kind≤9→t.Words=[]) (h9:t.Kind=9→∀ k∈t.Kids,k.Kind=1) (ih:∀ k∈t.Kids,TX k):TX t
theorem TX.w {t:Tr} (h:TX t):2≤t.Kind∧t.Kind≤9→t.Words=[]:=by cases h;assumption
theorem TX.s {t:Tr} (h:TX t):t.Kind=9→∀ k∈t.Kids,k.Kind=1:=by cases h;assumption
theorem TX.all {t:Tr} (h:TX t):∀ k∈t.Kids,TX k:=by cases h;assumption
theorem TX.z:TX n0T := .mk _ (fun _=>rfl) (fun h=>by simp [n0T] at h) (by simp [n0T])
theorem TX.nn:∀ (n:Nat) (t:Tr),SizeOf.sizeOf t < n→TX t→TX (nrm t)
 | 0,_,h,_=>by omega
 | n+1,t,hn,h=>by
  by_cases h0:t.Kind=0
  ·rw [Za8 h0];exact TX.z
  by_cases h1:t.Kind=1
  ·rw [Kf h1]
   refine .mk _ (fun h=>by simp only at h;omega) (fun h=>by simp only at h;omega) fun k hk => ?_
   obtain ⟨y,hy,rfl⟩:=List.mem_map.1 (Zia hk)
   exact TX.nn n y (by have:=Yy hy;omega) (h.all y hy)
  rw [G3 h0 h1]
  refine .mk _ h.w (fun h9 k hk => ?_) fun k hk => ?_
  ·obtain ⟨y,hy,rfl⟩:=List.mem_map.1 hk
   rw [Za7];exact h.s h9 y hy
  obtain ⟨y,hy,rfl⟩:=List.mem_map.1 hk
  exact TX.nn n y (by have:=Yy hy;omega) (h.all y hy)
theorem TX.n {t:Tr} (h:TX t):TX (nrm t):=TX.nn _ t (Nat.lt_succ_self _) h
theorem Z3x {α:Type} {z:α} {l:List α} {i:Nat}:atD z l i∈l∨atD z l i=z:=by
 unfold atD
 cases h:l[i]? with
 | none=>exact .inr rfl
 | some x=>exact .inl (List.mem_of_getElem? h)
theorem Zyt {l:List Tr} {Q:Tr→Prop} (h:∀ x∈l,Q x) (hz:Q n0T) (i:Nat):Q (atD n0T l i):=by
 rcases Z3x (z:=n0T) (l:=l) (i:=i) with q | q
 ·exact h _ q
 rw [q];exact hz
theorem Ybo {l:List Int} (h:∀ x∈l,0≤x∧x < 18446744073709551616) (i:Nat):0≤atD 0 l i∧atD 0 l i < 18446744073709551616:=by
 rcases Z3x (z:=(0:Int)) (l:=l) (i:=i) with q | q
 ·exact h _ q
 rw [q];omega
structure GT (t:Tr):Prop where
 n:NT t
 g:Rg t
 x:TX t
theorem GT.z:GT n0T:=⟨NT.z,Rg.z,TX.z⟩
theorem GT.all {t:Tr} (h:GT t):∀ k∈t.Kids,GT k:=fun k hk=>⟨h.n.kids k hk,h.g.all k hk,h.x.all k hk⟩
theorem GT.at_ {t:Tr} (h:GT t) (i:Nat):GT (atD n0T t.Kids i):=⟨Zyt h.n.kids NT.z i,Zyt h.g.all Rg.z i,Zyt h.x.all TX.z i⟩
theorem GT.of {t:Tr} (hb:Bd t) (hx:TX t):GT (nrm t):=⟨NT.of t,hb.nrm.rg,hx.n⟩
def Yfk {α:Type} (f:α→α→Option α):Option α→Option α→Option α
 | some x,some y=>f x y
 | some x,none=>some x
 | none,y=>y
def Rise {α:Type} (pl:α→Int) (l:List α):Prop:=l.Pairwise (fun a b=>pl a < pl b)∧∀ x∈l,0≤pl x
theorem Rise.tail {α:Type} {pl:α→Int} {x:α} {l:List α} (h:Rise pl (x::l)):Rise pl l:=⟨(List.pairwise_cons.1 h.1).2,fun y hy=>h.2 y (.tail _ hy)⟩
theorem GT.w {t:Tr} (h:GT t) (j:Nat):0≤atD 0 t.Words j∧atD 0 t.Words j < 18446744073709551616:=Ybo h.g.u j
theorem w_l (a b:Int):IntKind.i64.wrap (IntKind.i64.wrap a+b)=IntKind.i64.wrap (a+b):=by rw [IntKind.wrap_i64 a,IntKind.wrap_i64,IntKind.wrap_i64];omega
def frS (s:Int×Int) (x:Tr):Int×Int:=(if s.1 < (x.Words.length:Int) then (x.Words.length:Int) else s.1,if s.2 < (x.Kids.length:Int) then (x.Kids.length:Int) else s.2)
def fr (l:List Tr):Int×Int:=l.foldl frS (0,0)
theorem Z0u {t:Tr} (hl:(t.Kids.length:Int)≤140737488355328):Zdf t=some (fr t.Kids):=by
 unfold Zdf
 rw [(Zw8 t.Kids (fun (s:Int×Int) (i:Int)=>(s.1,s.2,i)) frS id (fun _=>True) (Gy t) hl (fun s i x _ hi hx hm=>⟨trivial,by
  unfold Gy
  simp only
  rw [Zow hi,cond_true,Jr hx,Option.bind_some]
  rfl⟩) (fun s _=>by
  unfold Gy
  simp only
  rw [Zov,cond_false]
  rfl) (0,0) trivial).1,Option.bind_some]
 rfl
theorem Z52 {t:Tr} (hl:(t.Kids.length:Int)≤140737488355328):Vx t=some (fr t.Kids):=by
 unfold Vx
 rw [(Zw8 t.Kids (fun (s:Int×Int) (i:Int)=>(s.1,s.2,i)) frS id (fun _=>True) (Kb t) hl (fun s i x _ hi hx hm=>⟨trivial,by
  unfold Kb frS
  simp only
  rw [Zow hi,cond_true,Jr hx,Option.bind_some]
  by_cases h1:s.1 < (x.Words.length:Int) <;> by_cases h2:s.2 < (x.Kids.length:Int) <;> simp [h1,h2]⟩) (fun s _=>by
  unfold Kb
  simp only
  rw [Zov,cond_false]
  rfl) (0,0) trivial).1,Option.bind_some]
 rfl
def h9 (l:List Tr):Int:=IntKind.i64.wrap (1+IntKind.i64.wrap ((l.length:Int) * IntKind.i64.wrap ((fr l).1+(fr l).2)))
def Zvl (c:Int) (n:Nat):Int:=((n * wid c+63) / 64:Nat)
def sz (t:Tr):Int :=
 if t.Kind=1 then ((t.Words.length:Int)+(t.Kids.length:Int))+(t.Kids.attach.map fun k=>sz k.1).sum
 else if 2≤t.Kind∧t.Kind≤7 then Zvl (t.Kind - 2) t.Kids.length
 else if t.Kind=8 then (t.Kids.length:Int)+(t.Kids.attach.map fun k=>sz k.1).sum
 else if t.Kind=9 then h9 t.Kids+(t.Kids.attach.map fun k=>(k.1.Kids.attach.map fun j=>sz j.1).sum).sum
 else 0
termination_by SizeOf.sizeOf t
decreasing_by
 ·exact Yy k.2
 ·exact Yy k.2
 exact Nat.lt_trans (Yy j.2) (Yy k.2)
theorem Zxj (t:Tr):sz t=if t.Kind=1 then ((t.Words.length:Int)+(t.Kids.length:Int))+(t.Kids.map sz).sum
 else if 2≤t.Kind∧t.Kind≤7 then Zvl (t.Kind - 2) t.Kids.length
 else if t.Kind=8 then (t.Kids.length:Int)+(t.Kids.map sz).sum
 else if t.Kind=9 then h9 t.Kids+(t.Kids.map fun k=>(k.Kids.map sz).sum).sum
 else 0:=by
 rw [sz]
 have h1:(t.Kids.attach.map fun k=>(k.1.Kids.attach.map fun j=>sz j.1).sum)=t.Kids.map fun k=>(k.Kids.map sz).sum:=by
  have:(fun (k:{ x // x∈t.Kids })=>(k.1.Kids.attach.map fun j=>sz j.1).sum)=fun (k:{ x // x∈t.Kids })=>(fun k:Tr=>(k.Kids.map sz).sum) k.1:=funext fun k=>congrArg List.sum (List.attach_map_val (f:=sz))
  rw [this]
  exact List.attach_map_val (f:=fun k:Tr=>(k.Kids.map sz).sum)
 rw [h1]
 simp only [List.attach_map_val]
theorem c5' {c:Int} (h:0≤c∧c≤5):c=0∨c=1∨c=2∨c=3∨c=4∨c=5:=by omega
theorem Z87 {c:Int} (h:0≤c∧c≤5) {n:Nat} (hn:n≤1048576):Zfa c (n:Int)=some (Zvl c n):=by
 have hw:Qt c=some (((wid c:Nat):Int),true):=by
  unfold Qt
  rcases c5' h with rfl | rfl | rfl | rfl | rfl | rfl <;> rfl
 have hb:wid c≤64:=by rcases c5' h with rfl | rfl | rfl | rfl | rfl | rfl <;> decide
 have hm:n * wid c≤1048576 * 64:=Nat.mul_le_mul hn hb
 unfold Zfa Zvl
 rw [hw,Option.bind_some]
 simp only
 rw [Bool.not_true,cond_false,decide_eq_false (by omega),cond_false,decide_eq_false (by omega),cond_false,← Int.natCast_mul]
 generalize n * wid c=m at hm ⊢
 rw [Xc (x:=(m:Int)) (by omega) (by omega),Xc (x:=(m:Int)+63) (by omega) (by omega),Int.tdiv_eq_ediv_of_nonneg (by omega),Xc (by omega) (by omega)]
 congr 1
theorem Zep {t:Tr} {d:Nat} (h:rt t d=true):0≤t.Kind∧t.Kind≤10∧t.Kids.length < 1048576∧(t.Kind=0∨t.Kind=10→t.Kids=[])∧∀ k∈t.Kids,rt k (d - 1)=true:=by
 rw [Zdp] at h
 by_cases h0:t.Kind=0
 ·rw [if_pos h0,Bool.and_eq_true,beq_iff_eq,beq_iff_eq] at h
  have:=List.length_eq_zero_iff.1 h.2
  rw [this]
  exact ⟨by omega,by omega,by simp,fun _=>rfl,fun k hk=>by cases hk⟩
 by_cases h1:t.Kind=10
 ·rw [if_neg h0,if_pos h1,Bool.and_eq_true,beq_iff_eq,beq_iff_eq] at h
  have:=List.length_eq_zero_iff.1 h.2
  rw [this]
  exact ⟨by omega,by omega,by simp,fun _=>rfl,fun k hk=>by cases hk⟩
 rw [if_neg h0,if_neg h1] at h
 by_cases hb:t.Kind < 0∨10 < t.Kind∨d=0∨65536≤t.Words.length∨(t.Kind=1∧65536≤t.Kids.length)∨1048576≤t.Kids.length∨(1 < t.Kind∧0 < t.Words.length)
 ·rw [if_pos hb] at h;cases h
 rw [if_neg hb,List.all_eq_true] at h
 refine ⟨by omega,by omega,by omega,fun q=>by omega,fun k hk => ?_⟩
 have:=h k hk
 rw [Bool.and_eq_true] at this
 exact this.1
def Zfm {α σ:Type} (f:σ→Nat→α→σ):σ→Nat→List α→σ
 | s,_,[]=>s
 | s,i,x::xs=>Zfm f (f s i x) (i+1) xs
theorem Z3g {α σ S R:Type} (xs:List α) (pack:Int→σ→S) (out:σ→R) (step:S→Option (S ⊕ R)) (f:σ→Nat→α→σ) (I:Nat→σ→Prop) (hl:(xs.length:Int)≤140737488355328)
  (h1:∀ (i:Nat) (s:σ) (x:α),i < xs.length→xs[i]? = some x→x∈xs→I i s→step (pack i s)=some (.inl (pack (IntKind.i64.wrap ((i:Int)+1)) (f s i x)))∧I (i+1) (f s i x))
  (h2:∀ s,I xs.length s→step (pack xs.length s)=some (.inr (out s))) (s:σ) (h0:I 0 s):Z8 step (pack 0 s)=some (out (Zfm f s 0 xs))∧I xs.length (Zfm f s 0 xs):=by
 have key:∀ (l pre:List α) (s:σ),xs=pre++l→I pre.length s→Z8 step (pack (pre.length:Nat) s)=some (out (Zfm f s pre.length l))∧I xs.length (Zfm f s pre.length l):=fun l=>by
  induction l with
  | nil =>
   intro pre s hp hi
   rw [List.append_nil] at hp
   subst hp
   exact ⟨Y7 (h2 s hi),hi⟩
  | cons x l ih =>
   intro pre s hp hI
   have hx:xs[pre.length]? = some x:=by rw [hp,List.getElem?_append_right (Nat.le_refl _),Nat.sub_self];rfl
   have hi:pre.length < xs.length:=by rw [hp];simp
   obtain ⟨a,b⟩:=h1 pre.length s x hi hx (List.mem_of_getElem? hx) hI
   rw [Xc (by omega) (by omega)] at a
   have:=ih (pre++[x]) (f s pre.length x) (by rw [hp];simp) (by rw [List.length_append,List.length_singleton];exact b)
   rw [List.length_append,List.length_singleton] at this
   exact ⟨(Qw a).trans this.1,this.2⟩
 exact key xs [] s rfl h0
theorem Yct {off data ptrs:Int} (a:-536870912≤off) (b:off < 536870912) (c:0≤data) (d:data < 65536) (e:0≤ptrs) (f:ptrs < 65536) (g:¬ (off=0∧data=0∧ptrs=0)) :
  Ve (⟨1,off,data,ptrs,0,0,0,false⟩:Zx)=some (off % 1073741824 * 4+data * 4294967296+ptrs * 281474976710656,true):=by
 have hd:Ze5 ((off % 1073741824).toNat * 4+data.toNat * 4294967296+ptrs.toNat * 281474976710656)=⟨1,off,data,ptrs,0,0,0,false⟩:=by
  generalize hw:(off % 1073741824).toNat * 4+data.toNat * 4294967296+ptrs.toNat * 281474976710656=w
  have h1:¬ w=0:=by omega
  have h2:w % 4=0:=by omega
  unfold Ze5
  rw [if_neg h1,if_pos h2]
  unfold Zox
  simp only [Zx.mk.injEq,true_and,and_true]
  refine ⟨?_,by omega,by omega⟩
  split <;> omega
 have:=Zph ((off % 1073741824).toNat * 4+data.toNat * 4294967296+ptrs.toNat * 281474976710656) (by omega) (by rw [hd];show ¬ (1:Int)=4;decide)
 rw [hd] at this
 rw [this]
 congr 2
 omega
theorem Yea {off code count:Int} (a:-536870912≤off) (b:off < 536870912) (c:0≤code) (d:code < 8) (e:0≤count) (f:count < 536870912) :
  Ve (⟨2,off,0,0,code,count,0,false⟩:Zx)=some (off % 1073741824 * 4+1+code * 4294967296+count * 34359738368,true):=by
 have hd:Ze5 ((off % 1073741824).toNat * 4+1+code.toNat * 4294967296+count.toNat * 34359738368)=⟨2,off,0,0,code,count,0,false⟩:=by
  generalize hw:(off % 1073741824).toNat * 4+1+code.toNat * 4294967296+count.toNat * 34359738368=w
  have h1:¬ w=0:=by omega
  have h2:¬ w % 4=0:=by omega
  have h3:w % 4=1:=by omega
  unfold Ze5
  rw [if_neg h1,if_neg h2,if_pos h3]
  unfold Zox
  simp only [Zx.mk.injEq,true_and,and_true]
  refine ⟨?_,by omega,by omega⟩
  split <;> omega
 have:=Zph ((off % 1073741824).toNat * 4+1+code.toNat * 4294967296+count.toNat * 34359738368) (by omega) (by rw [hd];show ¬ (2:Int)=4;decide)
 rw [hd] at this
 rw [this]
 congr 2
 omega
theorem Yfj {x:Int} (h0:0≤x) (h1:x < 18446744073709551616):IntKind.u64.wrap x=x:=IntWalk.u64_in _ (by omega)
def Zly (w:Nat) (out:List Int) (i:Nat) (n:Int):List Int:=Xr out ((i * w / 64:Nat):Int) (out[i * w / 64]?.getD 0+n * 2 ^ (i * w % 64))
def Z50 (w N:Nat) (i:Nat) (out:List Int):Prop:=out.length=(N * w+63) / 64∧∀ (q:Nat) (v:Int),out[q]? = some v→0≤v∧v < 2 ^ min 64 (i * w - q * 64)
theorem Z8b {s w:Nat} {v n:Int} (h0:0≤v) (h1:v < 2 ^ s) (n0:0≤n) (n1:n < 2 ^ w):0≤v+n * 2 ^ s∧v+n * 2 ^ s < 2 ^ (s+w)∧0≤n * 2 ^ s:=by
 have p:(0:Int) < 2 ^ s:=Int.pow_pos (by decide)
 have a:=Int.mul_nonneg n0 (Int.le_of_lt p)
 have b:(n+1) * 2 ^ s≤2 ^ w * 2 ^ s:=Int.mul_le_mul_of_nonneg_right (by omega) (Int.le_of_lt p)
 rw [Int.add_mul,Int.one_mul,Int.mul_comm (2 ^ w),← Int.pow_add] at b
 exact ⟨by omega,by omega,a⟩
theorem Zvi {a b:Nat} (h:a≤b):(2:Int) ^ a≤2 ^ b:=by
 have:=Nat.pow_le_pow_right (n:=2) (by decide) h
 exact_mod_cast this
theorem Z8e {w N i:Nat} {out:List Int} {n:Int} (hw:0 < w) (hs:i * w % 64+w≤64) (hi:i < N) (hI:Z50 w N i out) (n0:0≤n) (n1:n < 2 ^ w) :
  ∃ v:Int,out[i * w / 64]? = some v∧0≤v∧v < 2 ^ (i * w % 64)∧v+n * 2 ^ (i * w % 64) < 18446744073709551616∧0≤n * 2 ^ (i * w % 64)∧Z50 w N (i+1) (Zly w out i n):=by
 obtain ⟨hl,hv⟩:=hI
 have hm:i * w+w≤N * w:=by
  have:=Nat.mul_le_mul_right w (show i+1≤N by omega)
  rwa [Nat.add_mul,Nat.one_mul] at this
 have hq:i * w / 64 < out.length:=by rw [hl];omega
 have hx:out[i * w / 64]? = some out[i * w / 64]:=List.getElem?_eq_getElem hq
 obtain ⟨v0,v1⟩:=hv _ _ hx
 have e:min 64 (i * w - i * w / 64 * 64)=i * w % 64:=by omega
 rw [e] at v1
 obtain ⟨a,b,c⟩:=Z8b v0 v1 n0 n1
 have d:=Zvi hs
 refine ⟨_,hx,v0,v1,by omega,c,by unfold Zly;rw [Jc,hl],fun q u hu => ?_⟩
 unfold Zly Xr at hu
 rw [Int.toNat_natCast,hx,Option.getD_some,List.getElem?_set] at hu
 have e1:(i+1) * w=i * w+w:=by rw [Nat.add_mul,Nat.one_mul]
 by_cases h:i * w / 64=q
 ·rw [if_pos h,if_pos hq] at hu
  cases hu
  subst h
  refine ⟨a,?_⟩
  have:min 64 ((i+1) * w - i * w / 64 * 64)=i * w % 64+w:=by rw [e1];omega
  rw [this]
  exact b
 rw [if_neg h] at hu
 obtain ⟨u0,u1⟩:=hv _ _ hu
 refine ⟨u0,Int.lt_of_lt_of_le u1 (Zvi ?_)⟩
 rw [e1]
 omega
theorem Z8d (w N:Nat):Z50 w N 0 (List.replicate ((N * w+63) / 64) 0):=by
 refine ⟨List.length_replicate,fun q v h => ?_⟩
 have:=List.mem_of_getElem? h
 rw [List.mem_replicate] at this
 rw [this.2]
 exact ⟨by decide,Int.pow_pos (by decide)⟩
def Zdi (c:Int) (ns:List Int):List Int:=if c=0 then [] else Zfm (Zly (wid c)) (List.replicate ((ns.length * wid c+63) / 64) 0) 0 ns
theorem Z6i {w each:Nat} (hw:0 < w) (hw2:w≤64) (he:0 < each) (he2:each≤64) (hE:IntKind.i64.wrap (Int.tdiv 64 (w:Int))=(each:Int)) (hq:∀ i:Nat,i / each=i * w / 64) (hr:∀ i:Nat,i % each * w=i * w % 64) (hs:∀ i:Nat,i * w % 64+w≤64)
  {ns:List Int} (hn:ns.length≤1048576) (hf:∀ n∈ns,0≤n∧n < 2 ^ w) :
  Z8 (Uw ns ((w:Int),true)) (0,List.replicate ((ns.length * w+63) / 64) 0)=some (Zfm (Zly w) (List.replicate ((ns.length * w+63) / 64) 0) 0 ns)∧Z50 w ns.length ns.length (Zfm (Zly w) (List.replicate ((ns.length * w+63) / 64) 0) 0 ns) :=
 Z3g ns (fun i s=>(i,s)) (fun s=>s) (Uw ns ((w:Int),true)) (Zly w) (Z50 w ns.length) (by omega) (fun i s n hi hx hm hI=>by
  obtain ⟨n0,n1⟩:=hf n hm
  obtain ⟨v,hv,v0,v1,v2,v3,v4⟩:=Z8e hw (hs i) hi hI n0 n1
  refine ⟨?_,v4⟩
  unfold Uw
  simp only
  have e1:IntKind.i64.wrap (Int.tdiv (i:Int) (each:Int))=((i * w / 64:Nat):Int):=by
   have hb:=Nat.mul_le_mul_left i hw2
   rw [Int.tdiv_eq_ediv_of_nonneg (by omega),← Int.natCast_ediv,hq i,Xc (by omega) (by omega)]
  have e2:IntKind.i64.wrap (Int.tmod (i:Int) (each:Int) * (w:Int))=((i * w % 64:Nat):Int):=by
   rw [Int.tmod_eq_emod_of_nonneg (by omega),← Int.natCast_emod,← Int.natCast_mul,hr i,Xc (by omega) (by omega)]
  have e3:min (Int.toNat ((i * w % 64:Nat):Int)) 64=i * w % 64:=by omega
  have e4:IntKind.u64.wrap (n * 2 ^ (i * w % 64))=n * 2 ^ (i * w % 64):=Yfj v3 (by omega)
  have e5:IntKind.u64.wrap (Zar .u64 v (n * 2 ^ (i * w % 64)))=v+n * 2 ^ (i * w % 64):=by
   obtain ⟨a,rfl⟩:=Int.eq_ofNat_of_zero_le v0
   obtain ⟨b,rfl⟩:=Int.eq_ofNat_of_zero_le n0
   have f:((b:Nat):Int) * 2 ^ (i * w % 64)=((b * 2 ^ (i * w % 64):Nat):Int):=by simp
   have f1:a < 2 ^ (i * w % 64):=by exact_mod_cast v1
   rw [f] at v2 v3 ⊢
   rw [Zki _ _ (by omega) (by omega),Zlu _ _ _ f1,Int.natCast_add]
  rw [Zow hi,cond_true,Jr hx,Option.bind_some,hE,V9 (by omega),Option.bind_some,e1,Jr hv,Option.bind_some,Option.bind_some,e2,V9 (by omega),Option.bind_some,e3,e4,e5]
  unfold Zly
  rw [hv]
  rfl) (fun s _=>by
  unfold Uw
  simp only
  rw [Zov,cond_false]) _ (Z8d w ns.length)
theorem Z3u {c:Int} {ns:List Int} (h:0≤c∧c≤5) (hn:ns.length≤1048576) (hf:∀ n∈ns,0≤n∧Zfl c n=true):Z8 (Zaf c ns) (true,0)=some true :=
 (Z3g ns (fun i s=>(s,i)) (fun s=>s) (Zaf c ns) (fun s _ _=>s) (fun _ s=>s=true) (by omega) (fun i s n hi hx hm hI=>by
  subst hI
  refine ⟨?_,rfl⟩
  unfold Zaf
  simp only
  rw [Zow hi,cond_true,Jr hx,Option.bind_some,cond_true,Z2e h.1 h.2 (hf n hm).1,Option.bind_some,(hf n hm).2]
  rfl) (fun s _=>by
  unfold Zaf
  simp only
  rw [Zov,cond_false]) true rfl).1.trans (by
  have:∀ (l:List Int) (k:Nat),Zfm (fun (s:Bool) (_:Nat) (_:Int)=>s) true k l=true:=fun l=>by
   induction l with
   | nil=>intro k;rfl
   | cons x l ih=>intro k;exact ih (k+1)
  rw [this])
theorem Zz8 {c:Int} (h:0≤c∧c≤5) {ns:List Int} (hn:ns.length≤1048576) (hf:∀ n∈ns,0≤n∧Zfl c n=true):Zeb c ns=some (Zdi c ns,true)∧(Zdi c ns).length=(ns.length * wid c+63) / 64:=by
 have hw:Qt c=some (((wid c:Nat):Int),true):=by
  unfold Qt
  rcases c5' h with rfl | rfl | rfl | rfl | rfl | rfl <;> rfl
 have hb:wid c≤64:=by rcases c5' h with rfl | rfl | rfl | rfl | rfl | rfl <;> decide
 have hm:ns.length * wid c≤1048576 * 64:=Nat.mul_le_mul hn hb
 have hf':∀ n∈ns,0≤n∧n < 2 ^ wid c:=fun n hn=>⟨(hf n hn).1,by have:=(hf n hn).2;unfold Zfl at this;exact of_decide_eq_true this⟩
 unfold Zeb Zdi
 rw [hw,Option.bind_some]
 simp only
 rw [Z3u h hn hf,Option.bind_some,Bool.not_true,cond_false,Z87 h hn,Option.bind_some]
 unfold Zvl
 rw [Zu5 (by omega) (by omega) (by omega),Option.bind_some,Int.toNat_natCast]
 have key:∀ w each:Nat,wid c=w→0 < w→0 < each→each≤64→IntKind.i64.wrap (Int.tdiv 64 (w:Int))=(each:Int)→(∀ i:Nat,i / each=i * w / 64)→(∀ i:Nat,i % each * w=i * w % 64)→(∀ i:Nat,i * w % 64+w≤64)→¬ c=0 →
   (cond (((wid c:Nat):Int) == 0) (some (List.replicate ((ns.length * wid c+63) / 64) (0:Int),true)) ((Ja (((wid c:Nat):Int)≠0)).bind fun u14=>(Z8 (Uw ns (((wid c:Nat):Int),true)) (0,List.replicate ((ns.length * wid c+63) / 64) 0)).bind fun (z24:(List Int))=>some (z24,true)))=some ((if c=0 then [] else Zfm (Zly (wid c)) (List.replicate ((ns.length * wid c+63) / 64) 0) 0 ns),true)∧(if c=0 then [] else Zfm (Zly (wid c)) (List.replicate ((ns.length * wid c+63) / 64) 0) 0 ns).length=(ns.length * wid c+63) / 64:=by
  intro w each ew a1 a2 a3 a4 a5 a6 a7 a8
  have:=Z6i a1 (by omega) a2 a3 a4 a5 a6 a7 hn (by rw [← ew];exact hf')
  rw [ew,if_neg a8,Vu (by omega),cond_false,V9 (by omega),Option.bind_some,this.1,Option.bind_some]
  exact ⟨rfl,this.2.1⟩
 rcases c5' h with rfl | rfl | rfl | rfl | rfl | rfl
 ·exact ⟨by simp [wid],by simp [wid]⟩
 ·exact key 1 64 rfl (by decide) (by decide) (by decide) rfl (fun i=>by omega) (fun i=>by omega) (fun i=>by omega) (by decide)
 ·exact key 8 8 rfl (by decide) (by decide) (by decide) rfl (fun i=>by omega) (fun i=>by omega) (fun i=>by omega) (by decide)
 ·exact key 16 4 rfl (by decide) (by decide) (by decide) rfl (fun i=>by omega) (fun i=>by omega) (fun i=>by omega) (by decide)
 ·exact key 32 2 rfl (by decide) (by decide) (by decide) rfl (fun i=>by omega) (fun i=>by omega) (fun i=>by omega) (by decide)
 exact key 64 1 rfl (by decide) (by decide) (by decide) rfl (fun i=>by omega) (fun i=>by omega) (fun i=>by omega) (by decide)
def ato (t:Tr):List Int:=t.Kids.map fun k=>k.Words.headD 0
theorem Zp8 (t:Tr):(ato t).length=t.Kids.length:=by unfold ato;rw [List.length_map]
theorem Z1h {α:Type} {f:α→Nat} {x:α}:∀ {l:List α},x∈l→f x≤(l.map f).sum
 | [],h=>by cases h
 | y::l,h=>by
  simp only [List.map_cons,List.sum_cons]
  rcases List.mem_cons.1 h with rfl | h
  ·omega
  have:=Z1h (f:=f) h;omega
theorem Z1g {α:Type} {f:α→Nat}:∀ {l:List α},(∀ x∈l,1≤f x)→l.length≤(l.map f).sum
 | [],_=>by simp
 | y::l,h=>by
  have:=Z1g fun x hx=>h x (.tail _ hx)
  have:=h y (.head _)
  simp only [List.map_cons,List.sum_cons,List.length_cons]
  omega
theorem Z4j {α β:Type} {f:α→Nat} {g:β→Nat} (p:α→β):∀ {l:List α},(∀ x∈l,g (p x)≤f x)→((l.map p).map g).sum≤(l.map f).sum
 | [],_=>by simp
 | y::l,h=>by
  have:=Z4j p fun x hx=>h x (.tail _ hx)
  have:=h y (.head _)
  simp only [List.map_cons,List.sum_cons]
  omega
theorem Z4w {α:Type} {p:α→Bool} {f:α→Nat}:∀ l:List α,((tr p l).map f).sum≤(l.map f).sum
 | []=>by simp [tr]
 | x::l=>by
  have:=Z4w (p:=p) (f:=f) l
  by_cases h:tr p l=[]
  ·rw [Ztv h]
   split <;> simp
  rw [Zvw h]
  simp only [List.map_cons,List.sum_cons]
  omega
theorem Z8c (t:Tr):1≤pt t:=by rw [Zfn];omega
theorem Zp0 {t x:Tr} (h:x∈t.Kids):pt x+1≤pt t:=by
 have:=Z1h (f:=pt) h
 rw [Zfn t]
 omega
theorem Ze2 (t:Tr):1+t.Words.length+t.Kids.length≤pt t:=by
 have:=Z1g (f:=pt) (l:=t.Kids) fun x _=>Z8c x
 rw [Zfn t]
 omega
theorem Zzv:∀ (n:Nat) (t:Tr),SizeOf.sizeOf t < n→pt (nrm t)≤pt t
 | 0,_,h=>by omega
 | n+1,t,h=>by
  have ih:∀ x∈t.Kids,pt (nrm x)≤pt x:=fun x hx=>Zzv n x (by have:=Yy hx;omega)
  have e:=Z4j (f:=pt) (g:=pt) nrm ih
  by_cases h0:t.Kind=0
  ·rw [Za8 h0,Zfn]
   exact Z8c t
  by_cases h1:t.Kind=1
  ·rw [Kf h1,Zfn,Zfn t]
   simp only
   have a:=Zkz (fun x:Int=>x == 0) t.Words
   have b:=Z4w (p:=fun x:Tr=>x.Kind == 0) (f:=pt) (t.Kids.map nrm)
   exact Nat.add_le_add (Nat.add_le_add_left a 1) (Nat.le_trans b e)
  rw [G3 h0 h1,Zfn,Zfn t]
  simp only
  omega
theorem Z66 {M N:Int}:∀ (l:List Tr) (s:Int×Int),(∀ x∈l,(x.Words.length:Int)≤M∧(x.Kids.length:Int)≤N)→0≤s.1→s.1≤M→0≤s.2→s.2≤N →
  s.1≤(l.foldl frS s).1∧(l.foldl frS s).1≤M∧s.2≤(l.foldl frS s).2∧(l.foldl frS s).2≤N∧∀ x∈l,(x.Words.length:Int)≤(l.foldl frS s).1∧(x.Kids.length:Int)≤(l.foldl frS s).2
 | [],s,_,a,b,c,d=>⟨Int.le_refl _,b,Int.le_refl _,d,fun x hx=>by cases hx⟩
 | y::l,s,h,a,b,c,d=>by
  obtain ⟨h1,h2⟩:=h y (.head _)
  have e1:s.1≤(frS s y).1∧(frS s y).1≤M∧(y.Words.length:Int)≤(frS s y).1:=by unfold frS;simp only;split <;> omega
  have e2:s.2≤(frS s y).2∧(frS s y).2≤N∧(y.Kids.length:Int)≤(frS s y).2:=by unfold frS;simp only;split <;> omega
  obtain ⟨k1,k2,k3,k4,k5⟩:=Z66 l (frS s y) (fun x hx=>h x (.tail _ hx)) (by omega) e1.2.1 (by omega) e2.2.1
  rw [List.foldl_cons]
  refine ⟨by omega,k2,by omega,k4,fun x hx => ?_⟩
  rcases List.mem_cons.1 hx with rfl | hx
  ·omega
  exact k5 x hx
theorem Ycw {M N:Int} {l:List Tr} (h:∀ x∈l,(x.Words.length:Int)≤M∧(x.Kids.length:Int)≤N) (hM:0≤M) (hN:0≤N) :
  0≤(fr l).1∧(fr l).1≤M∧0≤(fr l).2∧(fr l).2≤N∧∀ x∈l,(x.Words.length:Int)≤(fr l).1∧(x.Kids.length:Int)≤(fr l).2 :=
 Z66 l (0,0) h (Int.le_refl _) hM (Int.le_refl _) hN
theorem Zkf {α:Type} {f:α→Int} {g:α→Nat} {c:Int}:∀ {l:List α},(∀ x∈l,0≤f x∧f x≤c * (g x:Int))→0≤(l.map f).sum∧(l.map f).sum≤c * (((l.map g).sum:Nat):Int)
 | [],_=>by simp
 | y::l,h=>by
  obtain ⟨a,b⟩:=Zkf fun x hx=>h x (.tail _ hx)
  obtain ⟨c1,d⟩:=h y (.head _)
  simp only [List.map_cons,List.sum_cons,Int.natCast_add,Int.mul_add]
  omega
theorem Q1 {t:Tr} {d:Nat} (h:rt t d=true) (h0:¬ t.Kind=0) (h1:¬ t.Kind=10):t.Words.length < 65536∧(t.Kind=1→t.Kids.length < 65536)∧(1 < t.Kind→t.Words=[])∧∀ k∈t.Kids,rt k (d - 1)=true∧okk t.Kind k=true:=by
 rw [Zdp,if_neg h0,if_neg h1] at h
 by_cases hb:t.Kind < 0∨10 < t.Kind∨d=0∨65536≤t.Words.length∨(t.Kind=1∧65536≤t.Kids.length)∨1048576≤t.Kids.length∨(1 < t.Kind∧0 < t.Words.length)
 ·rw [if_pos hb] at h;cases h
 rw [if_neg hb,List.all_eq_true] at h
 refine ⟨by omega,fun h=>by omega,fun h=>List.length_eq_zero_iff.1 (by omega),fun k hk => ?_⟩
 have:=h k hk
 rwa [Bool.and_eq_true] at this
theorem Z33 {l:List Tr} (hl:l.length≤200000) (h:∀ x∈l,x.Words.length≤65535∧x.Kids.length≤65535):h9 l=1+(l.length:Int) * ((fr l).1+(fr l).2)∧0≤(l.length:Int) * ((fr l).1+(fr l).2)∧(l.length:Int) * ((fr l).1+(fr l).2)≤26214000000∧(0≤(fr l).1∧(fr l).1≤65535∧0≤(fr l).2∧(fr l).2≤65535∧∀ x∈l,(x.Words.length:Int)≤(fr l).1∧(x.Kids.length:Int)≤(fr l).2):=by
 have f:=Ycw (M:=65535) (N:=65535) (l:=l) (fun x hx=>by have:=h x hx;omega) (by decide) (by decide)
 have a:0≤(l.length:Int) * ((fr l).1+(fr l).2):=Int.mul_nonneg (by omega) (by omega)
 have b:(l.length:Int) * ((fr l).1+(fr l).2)≤200000 * 131070:=Int.mul_le_mul (by omega) (by omega) (by omega) (by decide)
 refine ⟨?_,a,by omega,f⟩
 unfold h9
 rw [Xc (x:=(fr l).1+(fr l).2) (by omega) (by omega),Xc (x:=(l.length:Int) * _) (by omega) (by omega),Xc (by omega) (by omega)]
theorem Z4p {c:Int} (h:0≤c∧c≤5) (n:Nat):(n * wid c+63) / 64≤n:=by
 have hb:wid c≤64:=by rcases c5' h with rfl | rfl | rfl | rfl | rfl | rfl <;> decide
 have:=Nat.mul_le_mul_left n hb
 omega
theorem Z8y:∀ (n:Nat) (t:Tr) (d:Nat),SizeOf.sizeOf t < n→rt t d=true→pt t≤200000→0≤sz t∧sz t≤27000000000 * (pt t:Int)
 | 0,_,_,h,_,_=>by omega
 | n+1,t,d,h,hr,hp=>by
  obtain ⟨_,_,_,_,hk⟩:=Zep hr
  have ih:∀ x∈t.Kids,0≤sz x∧sz x≤27000000000 * (pt x:Int):=fun x hx=>Z8y n x (d - 1) (by have:=Yy hx;omega) (hk x hx) (by have:=Zp0 hx;omega)
  have ih2:∀ x∈t.Kids,0≤(x.Kids.map sz).sum∧(x.Kids.map sz).sum≤27000000000 * (pt x:Int):=fun x hx=>by
   have:=Zkf (f:=sz) (g:=pt) (c:=27000000000) (l:=x.Kids) fun y hy=>Z8y n y (d - 1 - 1) (by have:=Yy hx;have:=Yy hy;omega) ((Zep (hk x hx)).2.2.2.2 y hy) (by have:=Zp0 hx;have:=Zp0 hy;omega)
   rw [Zfn x]
   omega
  have s1:=Zkf ih
  have s2:=Zkf ih2
  have pk:=Ze2 t
  have pe:=Zfn t
  rw [Zxj]
  by_cases h1:t.Kind=1
  ·rw [if_pos h1];omega
  by_cases h2:2≤t.Kind∧t.Kind≤7
  ·rw [if_neg h1,if_pos h2]
   have:=Z4p (c:=t.Kind - 2) (by omega) t.Kids.length
   unfold Zvl
   omega
  by_cases h8:t.Kind=8
  ·rw [if_neg h1,if_neg h2,if_pos h8];omega
  by_cases h9':t.Kind=9
  ·rw [if_neg h1,if_neg h2,if_neg h8,if_pos h9']
   obtain ⟨e,a,b,_⟩:=Z33 (l:=t.Kids) (by omega) (fun x hx=>by
    obtain ⟨r1,r2⟩:=(Q1 hr (by omega) (by omega)).2.2.2 x hx
    unfold okk at r2
    rw [if_neg h2,Bool.and_eq_true,bne_iff_ne,Bool.or_eq_true,bne_iff_ne,beq_iff_eq] at r2
    have k1:x.Kind=1:=by rcases r2.2 with h | h;exact absurd h9' h;exact h
    have:=Q1 r1 (by omega) (by omega)
    have:=this.2.1 k1
    omega)
   omega
  rw [if_neg h1,if_neg h2,if_neg h8,if_neg h9'];omega
theorem Yc9 {t:Tr} {d:Nat} (hr:rt t d=true) (hp:pt t≤200000):0≤sz t∧sz t≤5400000000000000:=by
 have:=Z8y _ t d (Nat.lt_succ_self _) hr hp
 omega
def zs (l:List Int) (N:Nat):List Int:=l++List.replicate (N - l.length) 0
theorem Z9o {α σ:Type} {f:σ→Nat→α→σ} (I:Nat→σ→Prop) (xs:List α) (h:∀ (i:Nat) (s:σ) (x:α),i < xs.length→xs[i]? = some x→x∈xs→I i s→I (i+1) (f s i x)) {s:σ} (h0:I 0 s):I xs.length (Zfm f s 0 xs):=by
 have key:∀ (l pre:List α) (s:σ),xs=pre++l→I pre.length s→I xs.length (Zfm f s pre.length l):=fun l=>by
  induction l with
  | nil =>
   intro pre s hp hi
   rw [List.append_nil] at hp
   subst hp
   exact hi
  | cons x l ih =>
   intro pre s hp hI
   have hx:xs[pre.length]? = some x:=by rw [hp,List.getElem?_append_right (Nat.le_refl _),Nat.sub_self];rfl
   have hi:pre.length < xs.length:=by rw [hp];simp
   have b:=h pre.length s x hi hx (List.mem_of_getElem? hx) hI
   have:=ih (pre++[x]) (f s pre.length x) (by rw [hp];simp) (by rw [List.length_append,List.length_singleton];exact b)
   rw [List.length_append,List.length_singleton] at this
   exact this
 exact key xs [] s rfl h0
theorem Zo5 {a b:Int} (h:a=b):(a == b)=true:=by rw [h];exact beq_self_eq_true b
def Yef (t:Tr) (l:List Int) (a:Nat):Int:=if t.Words.length+t.Kids.length=0 then -1 else (l.length:Int) - a - 1
theorem Ycf {c:Int} (h:0≤c∧c≤6):Zce c=some (if c=6 then 64 else ((wid c:Nat):Int)):=by
 have:c=0∨c=1∨c=2∨c=3∨c=4∨c=5∨c=6:=by omega
 rcases this with rfl | rfl | rfl | rfl | rfl | rfl | rfl <;> rfl
def rmL (c:Int) (n:Nat):Nat:=if c=6 then n else (n * wid c+63) / 64
theorem Ycg {c off:Int} {n:Nat} (h:0≤c∧c≤6) (hn:n≤200000):Qo (⟨2,off,0,0,c,(n:Int),0,false⟩:Zx)=some (((rmL c n:Nat):Int),true):=by
 unfold Qo
 simp only
 rw [Vu (a:=2) (b:=1) (by decide),cond_false,Zo5 (a:=2) (b:=2) rfl,cond_true,Vu (a:=c) (b:=7) (by omega),cond_false,cond_true,decide_eq_true (by omega),cond_true,decide_eq_true (by omega),cond_true,decide_eq_true (by omega),cond_true,decide_eq_true (by omega),cond_true,Ycf h,Option.bind_some]
 unfold rmL
 by_cases q:c=6
 ·rw [if_pos q,if_pos q,Xc (x:=(n:Int) * 64) (by omega) (by omega),Xc (x:=(n:Int) * 64+63) (by omega) (by omega),Int.tdiv_eq_ediv_of_nonneg (by omega),Xc (by omega) (by omega)]
  congr 2
  omega
 rw [if_neg q,if_neg q]
 have hb:wid c≤64:=by rcases c5' (show 0≤c∧c≤5 by omega) with rfl | rfl | rfl | rfl | rfl | rfl <;> decide
 have hm:n * wid c≤200000 * 64:=Nat.mul_le_mul hn hb
 rw [← Int.natCast_mul]
 generalize n * wid c=m at hm ⊢
 rw [Xc (x:=(m:Int)) (by omega) (by omega),Xc (x:=(m:Int)+63) (by omega) (by omega),Int.tdiv_eq_ediv_of_nonneg (by omega),Xc (by omega) (by omega)]
 congr 1
def Yav (t:Tr) (W K:Nat):Int:=(t.Kids.length:Int) * 4+(W:Int) * 4294967296+(K:Int) * 281474976710656
theorem Zcg {i n m:Nat} (h:i < n):i * m+m≤n * m:=by
 have:=Nat.mul_le_mul_right m (show i+1≤n by omega)
 rwa [Nat.add_mul,Nat.one_mul] at this
def szK (k:Tr):Int:=(k.Kids.map sz).sum
theorem Km {kind:Int} {k:Tr} (h:¬ (2≤kind∧kind≤7)) (hk:okk kind k=true):¬ k.Kind=10∧(kind=9→k.Kind=1):=by
 unfold okk at hk
 rw [if_neg h,Bool.and_eq_true,bne_iff_ne,Bool.or_eq_true,bne_iff_ne,beq_iff_eq] at hk
 exact ⟨hk.1,fun h9=>by rcases hk.2 with h | h;exact absurd h9 h;exact h⟩
theorem Zvc {kind:Int} {k:Tr} {d:Nat} (h:2≤kind∧kind≤7) (hb:Bd k) (hr:rt k d=true) (hk:okk kind k=true):∃ w,k.Words=[w]∧0≤w∧w < 18446744073709551616∧Zfl (kind - 2) w=true:=by
 unfold okk at hk
 rw [if_pos h,Bool.and_eq_true,beq_iff_eq] at hk
 obtain ⟨w,hw⟩:=Zsk hk.1 hr
 have hu:=hb.u w (by rw [hw];exact .head _)
 refine ⟨w,hw,hu.1,hu.2,?_⟩
 have:=hk.2
 rwa [hw] at this
structure Fine (t:Tr) (d:Nat):Prop where
 bd:Bd t
 rt:rt t d=true
 pt:pt t≤200000
theorem Fine.kid {t x:Tr} {d:Nat} (h:Fine t d) (hx:x∈t.Kids):Fine x (d - 1):=⟨h.bd.all x hx,(Zep h.rt).2.2.2.2 x hx,by have:=h.pt;have:=Zp0 hx;omega⟩
theorem Zpi {t:Tr} {d:Nat} (h:Fine t d) (h9:t.Kind=9):∃ W K:Nat,fr t.Kids=((W:Int),(K:Int))∧W≤65535∧K≤65535∧(∀ x∈t.Kids,x.Words.length≤W∧x.Kids.length≤K)∧sz t=1+((t.Kids.length * (W+K):Nat):Int)+(t.Kids.map szK).sum:=by
 have p:=h.pt
 have pk:=Ze2 t
 obtain ⟨e,_,_,f0,f1,f2,f3,f4⟩:=Z33 (l:=t.Kids) (by omega) (fun x hx=>by
  obtain ⟨r1,r2⟩:=(Q1 h.rt (by omega) (by omega)).2.2.2 x hx
  have k1:=(Km (by omega) r2).2 h9
  obtain ⟨a1,a2,_⟩:=Q1 r1 (by omega) (by omega)
  have:=a2 k1
  omega)
 obtain ⟨W,hW⟩:=Int.eq_ofNat_of_zero_le f0
 obtain ⟨K,hK⟩:=Int.eq_ofNat_of_zero_le f2
 rw [hW] at f1
 rw [hK] at f3
 refine ⟨W,K,Prod.ext hW hK,by omega,by omega,fun x hx => ?_,?_⟩
 ·have:=f4 x hx
  rw [hW,hK] at this
  omega
 rw [Zxj,if_neg (by omega),if_neg (by omega),if_neg (by omega),if_pos h9,e,hW,hK,← Int.natCast_add,← Int.natCast_mul]
 rfl
theorem Fine.nrm {t:Tr} {d:Nat} (h:Fine t d):Fine (nrm t) d:=⟨h.bd.nrm,rtN h.rt,Nat.le_trans (Zzv _ t (Nat.lt_succ_self _)) h.pt⟩
def Yaf (w N:Nat) (ns:List Int) (i:Nat) (s:List Int):Prop:=Z50 w N i s∧∀ (j:Nat) (n:Int),j < i→ns[j]? = some n→(s[j * w / 64]?.getD 0) / 2 ^ (j * w % 64) % 2 ^ w=n
theorem Z51 {w N i:Nat} {ns s:List Int} {n:Int} (hw:0 < w) (hs:∀ i:Nat,i * w % 64+w≤64) (hi:i < N) (hx:ns[i]? = some n) (hI:Yaf w N ns i s) (n0:0≤n) (n1:n < 2 ^ w):Yaf w N ns (i+1) (Zly w s i n):=by
 obtain ⟨v,hv,v0,v1,v2,v3,v4⟩:=Z8e hw (hs i) hi hI.1 n0 n1
 refine ⟨v4,fun j m hj hm => ?_⟩
 have hq:i * w / 64 < s.length:=(List.getElem?_eq_some_iff.1 hv).1
 have e0:Zly w s i n=s.set (i * w / 64) (v+n * 2 ^ (i * w % 64)):=by
  unfold Zly Xr
  rw [hv,Int.toNat_natCast]
  rfl
 rw [e0,List.getElem?_set]
 have pz:∀ k:Nat,(2:Int) ^ k≠0:=fun k=>Int.ne_of_gt (Int.pow_pos (by decide))
 by_cases h:i * w / 64=j * w / 64
 ·rw [if_pos h,if_pos hq,Option.getD_some]
  by_cases hji:j=i
  ·subst hji
   rw [hx] at hm
   cases hm
   rw [Int.add_mul_ediv_right _ _ (pz _),Int.ediv_eq_zero_of_lt v0 v1,Int.zero_add,Int.emod_eq_of_lt n0 n1]
  have hlt:j < i:=by omega
  have h2:=Zcg (m:=w) hlt
  have h3:j * w % 64+w≤i * w % 64:=by omega
  have e:n * 2 ^ (i * w % 64)=n * 2 ^ (i * w % 64 - (j * w % 64+w)) * 2 ^ w * 2 ^ (j * w % 64):=by
   rw [Int.mul_assoc,Int.mul_assoc,← Int.pow_add,← Int.pow_add]
   congr 2
   omega
  rw [e,Int.add_mul_ediv_right _ _ (pz _),Int.add_mul_emod_self_right]
  have:=hI.2 j m hlt hm
  rw [← h,hv,Option.getD_some] at this
  exact this
 rw [if_neg h]
 have hlt:j < i:=by
  rcases Nat.lt_or_ge j i with q | q
  ·exact q
  exact absurd (by rw [show j=i by omega]) h
 exact hI.2 j m hlt hm
theorem Z1x {w:Nat} (hw:0 < w) (hs:∀ i:Nat,i * w % 64+w≤64) {ns:List Int} (hf:∀ n∈ns,0≤n∧n < 2 ^ w):Yaf w ns.length ns ns.length (Zfm (Zly w) (List.replicate ((ns.length * w+63) / 64) 0) 0 ns) :=
 Z9o (f:=Zly w) (Yaf w ns.length ns) ns (fun i s x hi hx hm hI=>Z51 hw hs hi hx hI (hf x hm).1 (hf x hm).2) ⟨Z8d w ns.length,fun j n hj=>by omega⟩
structure Nm (t:Tr) (d:Nat):Prop where
 f:Fine t d
 n:nrm t=t
 k:¬ t.Kind=10
theorem Nm.kid {t x:Tr} {d:Nat} (h:Nm t d) (h0:¬ t.Kind=0) (hx:x∈t.Kids) (h10:¬ x.Kind=10):Nm x (d - 1):=by
 refine ⟨h.f.kid hx,?_,h10⟩
 have hn:=h.n
 by_cases h1:t.Kind=1
 ·rw [Kf h1] at hn
  rw [← hn] at hx
  simp only at hx
  obtain ⟨y,_,rfl⟩:=List.mem_map.1 (Zia hx)
  exact Zqv y
 rw [G3 h0 h1] at hn
 rw [← hn] at hx
 simp only at hx
 obtain ⟨y,_,rfl⟩:=List.mem_map.1 hx
 exact Zqv y
theorem Nm.words {t:Tr} {d:Nat} (h:Nm t d) (h1:t.Kind=1):tr (fun x=>x == 0) t.Words=t.Words:=by
 have hn:=h.n
 rw [Kf h1] at hn
 exact congrArg Zd.Words hn
theorem Nm.kids {t:Tr} {d:Nat} (h:Nm t d) (h1:t.Kind=1):tr (fun x=>x.Kind == 0) t.Kids=t.Kids:=by
 have hn:=h.n
 rw [Kf h1] at hn
 have:=congrArg Zd.Kids hn
 simp only at this
 rw [← this,Zyh]
theorem Nm.okids {t:Tr} {d:Nat} (h:Nm t d) (h18:t.Kind=1∨t.Kind=8):∀ x∈t.Kids,Nm x (d - 1):=fun x hx =>
 h.kid (by omega) hx (Km (by omega) ((Q1 h.f.rt (by omega) h.k).2.2.2 x hx).2).1
theorem Nm.structs {t:Tr} {d:Nat} (h:Nm t d) (h9:t.Kind=9):∀ x∈t.Kids,Nm x (d - 1)∧x.Kind=1:=fun x hx=>by
 have k1:=(Km (by omega) ((Q1 h.f.rt (by omega) h.k).2.2.2 x hx).2).2 h9
 exact ⟨h.kid (by omega) hx (by omega),k1⟩
theorem Nm.null {t:Tr} {d:Nat} (h:Nm t d) (h0:t.Kind=0):t=⟨0,[],[]⟩:=by
 have:=h.n
 rwa [Za8 h0,eq_comm] at this
def hdS (t:Tr) (l:List Int) (a:Nat):Int:=Yef t l a % 1073741824 * 4+(t.Words.length:Int) * 4294967296+(t.Kids.length:Int) * 281474976710656
theorem Z7j {t:Tr} {d:Nat} (h:Nm t d):t.Kids.length≤200000:=by
 have:=Ze2 t
 have:=h.f.pt
 omega
theorem Nm.atoms {t:Tr} {d:Nat} (h:Nm t d) (h2:2≤t.Kind∧t.Kind≤7):∀ k∈t.Kids,∃ w,k=⟨10,[w],[]⟩∧0≤w∧w < 18446744073709551616∧Zfl (t.Kind - 2) w=true:=fun k hk=>by
 have i4:=(Q1 h.f.rt (by omega) h.k).2.2.2 k hk
 obtain ⟨w,hw,a,b,c⟩:=Zvc h2 (h.f.bd.all k hk) i4.1 i4.2
 have k10:k.Kind=10:=by
  have:=i4.2
  unfold okk at this
  rw [if_pos h2,Bool.and_eq_true,beq_iff_eq] at this
  exact this.1
 have k0:k.Kids=[]:=(Zep i4.1).2.2.2.1 (.inr k10)
 refine ⟨w,?_,a,b,c⟩
 obtain ⟨x,y,z⟩:=k
 simp only at hw k10 k0
 rw [hw,k10,k0]
def hv (t:Tr) (l:List Int) (a:Nat) (c:Int):Int:=if t.Kind=0 then 0 else if t.Kind=1 then hdS t l a else ((l.length:Int) - a - 1) % 1073741824 * 4+1+(t.Kind - 2) * 4294967296+c * 34359738368
def StN (W K:Nat) (x:Tr):Prop:=x.Kind=1∧(∃ d,Nm x d)∧x.Words.length≤W∧x.Kids.length≤K
theorem StN.kids {W K:Nat} {x:Tr} (h:StN W K x):∀ y∈x.Kids,∃ d,Nm y d:=fun y hy=>by
 obtain ⟨k,⟨d,n⟩,_⟩:=h
 exact ⟨_,n.okids (.inl k) y hy⟩
section
variable {A:Zm}
theorem Zy6 {f:Ze→Int→Tr×Int×Int} {g:Int→Ze×Int}:∀ (m i:Nat) (left:Int) (acc:List Tr),(Yr f g m i left acc).2.2=0 →
  ∃ ts:List Tr,(Yr f g m i left acc).1=acc++ts∧ts.length=m∧∀ (j:Nat) (x:Tr),ts[j]? = some x→(g ((i+j:Nat):Int)).2=0∧∃ l',(f (g ((i+j:Nat):Int)).1 l').2.2=0∧x=(f (g ((i+j:Nat):Int)).1 l').1
 | 0,i,left,acc,_=>⟨[],by simp [Yr],rfl,fun j x h=>by simp at h⟩
 | m+1,i,left,acc,h=>by
  rw [Yr] at h ⊢
  by_cases h1:(g i).2≠0
  ·rw [if_pos h1] at h;exact absurd h h1
  rw [if_neg h1] at h ⊢
  by_cases h2:(f (g i).1 left).2.2≠0
  ·rw [if_pos h2] at h;exact absurd h h2
  rw [if_neg h2] at h ⊢
  obtain ⟨ts,c1,c2,c3⟩:=Zy6 m (i+1) _ _ h
  refine ⟨(f (g i).1 left).1::ts,by rw [c1,List.append_assoc];rfl,by rw [List.length_cons,c2],fun j x hx => ?_⟩
  cases j with
  | zero =>
   simp only [List.getElem?_cons_zero,Option.some.injEq] at hx
   exact ⟨by simpa using h1,left,by simpa using h2,by simpa using hx.symm⟩
  | succ j =>
   rw [List.getElem?_cons_succ] at hx
   have:=c3 j x hx
   rwa [show i+1+j=i+(j+1) by omega] at this
inductive MR (A:Zm):Ze→Tr→Prop
 | mk (r:Ze) (t:Tr) (ho:OKr A r) (hk:t.Kind=r.kind) (hw:t.Words=Xu A r) (hl:(t.Kids.length:Int)=Z5 r)
   (he:∀ (i:Nat) (x:Tr),t.Kids[i]? = some x→(Yq A r i).2=0) (hs:∀ (i:Nat) (x:Tr),t.Kids[i]? = some x→MR A (Yq A r i).1 x):MR A r t
theorem MR.o {r:Ze} {t:Tr} (h:MR A r t):OKr A r:=by cases h;assumption
theorem MR.kd {r:Ze} {t:Tr} (h:MR A r t):t.Kind=r.kind:=by cases h;assumption
theorem MR.ws {r:Ze} {t:Tr} (h:MR A r t):t.Words=Xu A r:=by cases h;assumption
theorem MR.len {r:Ze} {t:Tr} (h:MR A r t):(t.Kids.length:Int)=Z5 r:=by cases h;assumption
theorem MR.kid {r:Ze} {t:Tr} (h:MR A r t) {i:Nat} {x:Tr} (hx:t.Kids[i]? = some x):(Yq A r i).2=0∧MR A (Yq A r i).1 x:=by
 cases h with
 | mk _ _ _ _ _ _ he hs=>exact ⟨he i x hx,hs i x hx⟩
theorem Z7g {r:Ze} (h:OKr A r) (hk:r.kind=0∨r.kind=10):Z5 r=0:=by
 cases h <;> simp_all [Z5,r0]
 omega
theorem Zt9 {r:Ze} (h:OKr A r) (h0:Z5 r=0):MR A r ⟨r.kind,Xu A r,[]⟩ := .mk _ _ h rfl rfl (by simp [h0]) (fun i x hx=>by simp at hx) (fun i x hx=>by simp at hx)
theorem Z92:∀ (d:Nat) (r:Ze) (left:Int),OKr A r→(Uz A d r left).2.2=0→MR A r (Uz A d r left).1:=fun d=>by
 induction d using Nat.strongRecOn with
 | _ d ih =>
  intro r left ho hq
  have iP:∀ (k:Nat) (r:Ze) (left:Int),0 < k→OKr A r→(Xa A k d r left).2.2=0→MR A r (Xa A k d r left).1:=fun k r left hk ho h=>by
   unfold Xa at h ⊢
   by_cases q:k≤d
   ·rw [if_pos q] at h ⊢
    exact ih (d - k) (by omega) r left ho h
   rw [if_neg q] at h
   simp [bad] at h
  rw [Zkj] at hq ⊢
  unfold Zhu at hq ⊢
  by_cases h0:r.kind=0
  ·rw [if_pos h0] at hq ⊢
   exact Zt9 ho (Z7g ho (.inl h0))
  rw [if_neg h0] at hq ⊢
  by_cases h1:(d:Int) < lvR r∨left < wtR r
  ·rw [if_pos h1] at hq
   simp at hq
  rw [if_neg h1] at hq ⊢
  simp only at hq ⊢
  obtain ⟨ts,c1,c2,c3⟩:=Zy6 _ _ _ _ hq
  have hn:=Zgy ho
  rw [c1,List.nil_append]
  have key:∀ (i:Nat) (x:Tr),ts[i]? = some x→(Yq A r i).2=0∧MR A (Yq A r i).1 x:=fun i x hx=>by
   have hi:i < ts.length:=(List.getElem?_eq_some_iff.1 hx).1
   obtain ⟨e1,l',e2,e3⟩:=c3 i x hx
   rw [Nat.zero_add] at e1 e2 e3
   refine ⟨e1,?_⟩
   have hi2:(0:Int)≤(i:Int)∧(i:Int) < Z5 r:=by omega
   have hko:=Kw ho (i:Int)
   rw [e3]
   unfold Zc7 at e2 ⊢
   by_cases k9:r.kind=9
   ·rw [if_pos k9] at e2 ⊢
    have ks:=Zht (A:=A) k9 hi2
    generalize (Yq A r (i:Int)).1=k at *
    unfold stK at e2 ⊢
    simp only at e2 ⊢
    obtain ⟨ts',d1,d2,d3⟩:=Zy6 _ _ _ _ e2
    have hn':=Zgy hko
    have hp:Z5 k=k.ptrs:=by unfold Z5;rw [if_pos ks]
    rw [d1,List.nil_append]
    refine .mk _ _ hko ks.symm rfl (by simp only;omega) (fun j y hy => ?_) (fun j y hy => ?_)
    ·have:=(d3 j y hy).1
     rwa [Nat.zero_add] at this
    obtain ⟨f1,l'',f2,f3⟩:=d3 j y hy
    rw [Nat.zero_add] at f1 f2 f3
    rw [f3]
    exact iP 2 _ _ (by decide) (Kw hko _) f2
   rw [if_neg k9] at e2 ⊢
   by_cases k18:r.kind=1∨r.kind=8
   ·rw [if_pos k18] at e2 ⊢
    exact iP 1 _ _ (by decide) hko e2
   rw [if_neg k18] at e2 ⊢
   have kk:=Z37 ho
   have k10:¬ r.kind=10:=fun h=>by
    have:=Z7g ho (.inr h)
    omega
   exact Zt9 hko (Zrv (A:=A) (by omega) hi2).2
  exact .mk _ _ ho rfl rfl (by simp only;omega) (fun i x hx=>(key i x hx).1) (fun i x hx=>(key i x hx).2)
end
theorem dcS {off data ptrs:Int} (a:-536870912≤off) (b:off < 536870912) (c:0≤data) (d:data < 65536) (e:0≤ptrs) (f:ptrs < 65536) (g:¬ (off=0∧data=0∧ptrs=0)) :
  dc (off % 1073741824 * 4+data * 4294967296+ptrs * 281474976710656)=⟨1,off,data,ptrs,0,0,0,false⟩:=by
 have e1:(off % 1073741824 * 4+data * 4294967296+ptrs * 281474976710656).toNat=(off % 1073741824).toNat * 4+data.toNat * 4294967296+ptrs.toNat * 281474976710656:=by omega
 unfold dc
 rw [e1]
 generalize hw:(off % 1073741824).toNat * 4+data.toNat * 4294967296+ptrs.toNat * 281474976710656=w
 have h1:¬ w=0:=by omega
 have h2:w % 4=0:=by omega
 unfold Ze5
 rw [if_neg h1,if_pos h2]
 unfold Zox
 simp only [Zx.mk.injEq,true_and,and_true]
 refine ⟨?_,by omega,by omega⟩
 split <;> omega
theorem dcL {off code count:Int} (a:-536870912≤off) (b:off < 536870912) (c:0≤code) (d:code < 8) (e:0≤count) (f:count < 536870912) :
  dc (off % 1073741824 * 4+1+code * 4294967296+count * 34359738368)=⟨2,off,0,0,code,count,0,false⟩:=by
 have e1:(off % 1073741824 * 4+1+code * 4294967296+count * 34359738368).toNat=(off % 1073741824).toNat * 4+1+code.toNat * 4294967296+count.toNat * 34359738368:=by omega
 unfold dc
 rw [e1]
 generalize hw:(off % 1073741824).toNat * 4+1+code.toNat * 4294967296+count.toNat * 34359738368=w
 have h1:¬ w=0:=by omega
 have h2:¬ w % 4=0:=by omega
 have h3:w % 4=1:=by omega
 unfold Ze5
 rw [if_neg h1,if_neg h2,if_pos h3]
 unfold Zox
 simp only [Zx.mk.injEq,true_and,and_true]
 refine ⟨?_,by omega,by omega⟩
 split <;> omega
def Zwk (W:Nat) (l:List Int):List Int:=l++List.replicate (W - l.length) 0
def Zsf (K:Nat) (l:List Tr):List Tr:=l++List.replicate (K - l.length) ⟨0,[],[]⟩
def Zjd (q:Int×Int) (u:Tr):Tr:=⟨u.Kind,Zwk q.1.toNat u.Words,Zsf q.2.toNat u.Kids⟩
def fm (t:Tr):Tr:=⟨t.Kind,t.Words,t.Kids.attach.map fun k=>if t.Kind=9 then Zjd (fr t.Kids) (fm k.1) else fm k.1⟩
termination_by SizeOf.sizeOf t
decreasing_by all_goals exact Yy k.2
theorem Zti (t:Tr):fm t=⟨t.Kind,t.Words,t.Kids.map fun k=>if t.Kind=9 then Zjd (fr t.Kids) (fm k) else fm k⟩:=by
 rw [fm]
 congr 1
 exact List.attach_map_val (l:=t.Kids) (f:=fun k=>if t.Kind=9 then Zjd (fr t.Kids) (fm k) else fm k)
theorem Zb0 (t:Tr):(fm t).Kind=t.Kind:=by rw [Zti]
theorem Zk7 (t:Tr):(fm t).Words=t.Words:=by rw [Zti]
theorem Ug {t:Tr} (h:¬ t.Kind=9):(fm t).Kids=t.Kids.map fm:=by
 rw [Zti]
 simp only [if_neg h]
theorem Zio {t:Tr} (h:t.Kind=9):(fm t).Kids=t.Kids.map fun k=>Zjd (fr t.Kids) (fm k):=by
 rw [Zti]
 simp only [if_pos h]
theorem Yaw {L m:List Int} {tp:Nat} (h:∀ (j:Nat),j < m.length→L[tp+j]? = m[j]?):(L.drop tp).take m.length=m:=by
 refine List.ext_getElem? fun j => ?_
 rw [List.getElem?_take]
 by_cases q:j < m.length
 ·rw [if_pos q,List.getElem?_drop,h j q]
 rw [if_neg q,List.getElem?_eq_none (by omega)]
theorem Z4f {A:Zm}:MR A r0 ⟨0,[],[]⟩:=Zt9 (A:=A) .z rfl
theorem Zqt {α β:Type} {f:α→β} {l:List α} {i:Nat} {x:β} (h:(l.map f)[i]? = some x):∃ y,l[i]? = some y∧y∈l∧f y=x:=by
 rw [List.getElem?_map] at h
 cases hy:l[i]? with
 | none=>rw [hy] at h;cases h
 | some y =>
  rw [hy] at h
  exact ⟨y,rfl,List.mem_of_getElem? hy,Option.some.inj h⟩
theorem Z7z {L ps:List Int} {tp i:Nat} {c w:Int} (hc:1≤c∧c≤5) (hw:∀ q,q < ps.length→L[tp+q]? = ps[q]?) (h0:∀ (q:Nat) (v:Int),ps[q]? = some v→0≤v) (hq:i * wid c / 64 < ps.length) (hp:(ps[i * wid c / 64]?.getD 0) / 2 ^ (i * wid c % 64) % 2 ^ wid c=w) :
  Z1i (wd [L] 0 ((tp:Int)+(i:Int) / each c)) c ((i:Int) % each c)=w:=by
 obtain ⟨E,w0,e1,e2,e3,e4,e5⟩:∃ E w0:Nat,each c=(E:Int)∧wid c=w0∧wdt c=(w0:Int)∧i / E=i * w0 / 64∧i % E * w0=i * w0 % 64:=by
  rcases c5' (c:=c) (by omega) with rfl | rfl | rfl | rfl | rfl | rfl
  ·omega
  ·exact ⟨64,1,rfl,rfl,rfl,by omega,by omega⟩
  ·exact ⟨8,8,rfl,rfl,rfl,by omega,by omega⟩
  ·exact ⟨4,16,rfl,rfl,rfl,by omega,by omega⟩
  ·exact ⟨2,32,rfl,rfl,rfl,by omega,by omega⟩
  exact ⟨1,64,rfl,rfl,rfl,by omega,by omega⟩
 rw [e2] at hq hp
 obtain ⟨v,hv⟩:∃ v,ps[i * w0 / 64]? = some v:=⟨_,List.getElem?_eq_getElem hq⟩
 have v0:=h0 _ v hv
 have hwd:wd [L] 0 ((tp:Int)+(i:Int) / each c)=v:=by
  unfold wd
  show (L[((tp:Int)+(i:Int) / each c).toNat]?).getD 0=v
  have:((tp:Int)+(i:Int) / each c).toNat=tp+i * w0 / 64:=by rw [e1,← Int.natCast_ediv,e4];omega
  rw [this,hw _ hq,hv]
  rfl
 rw [hwd]
 unfold Z1i
 rw [hv,Option.getD_some] at hp
 have f1:((i:Int) % each c * wdt c).toNat=i * w0 % 64:=by rw [e1,e3,← Int.natCast_emod,← Int.natCast_mul,e5,Int.toNat_natCast]
 have f2:(wdt c).toNat=w0:=by rw [e3,Int.toNat_natCast]
 rw [f1,f2,← hp,Int.natCast_emod,Int.natCast_ediv,Int.toNat_of_nonneg v0,Int.natCast_pow,Int.natCast_pow]
 rfl
theorem Z5z {c:Int} (h:1≤c∧c≤5) {ns:List Int} (hn:∀ n∈ns,0≤n∧Zfl c n=true):(∀ (q:Nat) (v:Int),(Zdi c ns)[q]? = some v→0≤v)∧(Zdi c ns).length=(ns.length * wid c+63) / 64 ∧
  ∀ (i:Nat) (n:Int),ns[i]? = some n→i * wid c / 64 < (Zdi c ns).length∧((Zdi c ns)[i * wid c / 64]?.getD 0) / 2 ^ (i * wid c % 64) % 2 ^ wid c=n:=by
 have ff:∀ n∈ns,0≤n∧n < 2 ^ wid c:=fun n hm=>⟨(hn n hm).1,by have:=(hn n hm).2;unfold Zfl at this;exact of_decide_eq_true this⟩
 have key:0 < wid c∧∀ i:Nat,i * wid c % 64+wid c≤64:=by
  rcases c5' (c:=c) (by omega) with rfl | rfl | rfl | rfl | rfl | rfl
  ·omega
  ·exact ⟨by decide,fun i=>by show i * 1 % 64+1≤64;omega⟩
  ·exact ⟨by decide,fun i=>by show i * 8 % 64+8≤64;omega⟩
  ·exact ⟨by decide,fun i=>by show i * 16 % 64+16≤64;omega⟩
  ·exact ⟨by decide,fun i=>by show i * 32 % 64+32≤64;omega⟩
  exact ⟨by decide,fun i=>by show i * 64 % 64+64≤64;omega⟩
 have b:=Z1x key.1 key.2 ff
 have e:Zdi c ns=Zfm (Zly (wid c)) (List.replicate ((ns.length * wid c+63) / 64) 0) 0 ns:=by unfold Zdi;rw [if_neg (by omega)]
 rw [e]
 refine ⟨fun q v hv=>(b.1.2 q v hv).1,b.1.1,fun i n hi=>⟨?_,b.2 i n (List.getElem?_eq_some_iff.1 hi).1 hi⟩⟩
 have hl:=(List.getElem?_eq_some_iff.1 hi).1
 have:=Zcg (m:=wid c) hl
 have:=key.1
 rw [b.1.1]
 omega
theorem Z6u {A:Zm} {s a:Int} {x:Xb} (h:fol A.segments s a=(x,0)) (hk:x.P.Kind=2) (hc:¬ x.P.Code=7):atR A s a=(⟨some A,x.P.Code+2,x.Segment,x.At,0,0,x.P.Count,0,0⟩,0):=by
 unfold atR
 rw [h]
 simp only
 rw [if_neg (by omega),if_neg (by omega),if_neg hc]
theorem Z6t {A:Zm} {s a kd n W K:Int} {x:Xb} (h:fol A.segments s a=(x,0)) (hk:x.P.Kind=2) (hc:x.P.Code=7) (ht:dc (wd A.segments x.Segment x.At)=⟨kd,n,W,K,0,0,0,false⟩) (h1:kd=0∨kd=1) (h2:0≤n) (h3:n * (W+K)≤x.P.Count):atR A s a=(⟨some A,9,x.Segment,x.At,W,K,n,0,0⟩,0):=by
 unfold atR
 rw [h]
 simp only
 rw [if_neg (by omega),if_neg (by omega),if_pos hc,ht]
 simp only
 rw [if_neg (by omega)]
theorem Ybt {t:Tr} {W K:Nat} (hfr:fr t.Kids=((W:Int),(K:Int))) (hn:t.Kids.length≤200000) (hW:W≤65535) (hK:K≤65535):∃ kd,(kd=0∨kd=1)∧dc (Yav t W K)=⟨kd,(t.Kids.length:Int),(W:Int),(K:Int),0,0,0,false⟩:=by
 unfold Yav
 by_cases h0:t.Kids.length=0
 ·have hk:t.Kids=[]:=List.length_eq_zero_iff.1 h0
  rw [hk] at hfr
  have e1:(0:Int)=(W:Int):=congrArg Prod.fst hfr
  have e2:(0:Int)=(K:Int):=congrArg Prod.snd hfr
  rw [← e1,← e2,h0]
  exact ⟨0,.inl rfl,rfl⟩
 have:=dcS (off:=(t.Kids.length:Int)) (data:=(W:Int)) (ptrs:=(K:Int)) (by omega) (by omega) (by omega) (by omega) (by omega) (by omega) (by omega)
 rw [Int.emod_eq_of_lt (by omega) (by omega)] at this
 exact ⟨1,.inr rfl,this⟩
theorem Zq5 {W:Nat} {l:List Int} (h:l.length≤W):(Zwk W l).length=W:=by
 unfold Zwk
 rw [List.length_append,List.length_replicate]
 omega
theorem Z79 {W j:Nat} {l:List Int} (h:l.length≤W) (hj:j < W):(Zwk W l)[j]? = some (l[j]?.getD 0):=by
 unfold Zwk
 by_cases q:j < l.length
 ·rw [List.getElem?_append_left q,List.getElem?_eq_getElem q]
  rfl
 rw [List.getElem?_append_right (by omega),List.getElem?_replicate,if_pos (by omega),List.getElem?_eq_none (by omega)]
 rfl
theorem Zvg {K:Nat} {l:List Tr} (h:l.length≤K):(Zsf K l).length=K:=by
 unfold Zsf
 rw [List.length_append,List.length_replicate]
 omega
theorem Z78 {K j:Nat} {l:List Tr} {x:Tr} (h:(Zsf K l)[j]? = some x):l[j]? = some x∨l.length≤j∧j < K∧x=⟨0,[],[]⟩:=by
 unfold Zsf at h
 by_cases q:j < l.length
 ·rw [List.getElem?_append_left q] at h
  exact .inl h
 rw [List.getElem?_append_right (by omega),List.getElem?_replicate] at h
 split at h
 ·exact .inr ⟨by omega,by omega,(Option.some.inj h).symm⟩
 cases h
theorem Zw3 {f:Ze→Int→Tr×Int×Int} {g:Int→Ze×Int} {w':Tr→Nat}:∀ (ts:List Tr) (i:Nat) (left:Int) (acc:List Tr),
  (∀ (j:Nat) (x:Tr),ts[j]? = some x→(g ((i+j:Nat):Int)).2=0∧∀ l':Int,((w' x:Nat):Int)≤l'→f (g ((i+j:Nat):Int)).1 l'=(x,l' - ((w' x:Nat):Int),0))→(((ts.map w').sum:Nat):Int)≤left →
  Yr f g ts.length i left acc=(acc++ts,left - (((ts.map w').sum:Nat):Int),0)
 | [],i,left,acc,_,_=>by simp [Yr]
 | x::ts,i,left,acc,h,hl=>by
  obtain ⟨e1,e2⟩:=h 0 x rfl
  rw [Nat.add_zero] at e1 e2
  have hs:(((x::ts).map w').sum:Nat)=w' x+(ts.map w').sum:=rfl
  rw [hs] at hl ⊢
  have e3:=e2 left (by omega)
  rw [List.length_cons,Yr,e1,if_neg (by simp),e3]
  simp only
  rw [if_neg (by simp),Zw3 ts (i+1) _ _ (fun j y hy=>by
   have:=h (j+1) y (by rw [List.getElem?_cons_succ];exact hy)
   rwa [show i+(j+1)=i+1+j by omega] at this) (by omega),List.append_assoc]
  refine Prod.ext rfl (Prod.ext ?_ rfl)
  simp only
  omega
theorem Zsm {α:Type} {f:α→Nat} {c:Nat}:∀ {l:List α},(∀ x∈l,f x=c)→(l.map f).sum=l.length * c
 | [],_=>by simp
 | x::l,h=>by
  have:=Zsm (f:=f) (l:=l) fun y hy=>h y (.tail _ hy)
  simp only [List.map_cons,List.sum_cons,List.length_cons,this,h x (.head _),Nat.add_mul,Nat.one_mul]
  omega
theorem Zrg {α:Type} {f g:α→Nat} {c:Nat}:∀ {l:List α},(∀ x∈l,f x=c+g x)→(l.map f).sum=l.length * c+(l.map g).sum
 | [],_=>by simp
 | x::l,h=>by
  have:=Zrg (f:=f) (g:=g) (l:=l) fun y hy=>h y (.tail _ hy)
  simp only [List.map_cons,List.sum_cons,List.length_cons,this,h x (.head _),Nat.add_mul,Nat.one_mul]
  omega
theorem Zlm {A:Zm} {r:Ze} {t:Tr} (h:MR A r t):(⟨r.kind,Xu A r,t.Kids⟩:Tr)=t:=by
 obtain ⟨a,b,c⟩:=t
 have h1:=h.kd
 have h2:=h.ws
 simp only at h1 h2
 rw [h1,h2]
def wtK (t:Tr):Nat:=(t.Kids.map wt).sum
theorem Zvm {t:Tr} {d:Nat} (h:rt t d=true) (h0:¬ t.Kind=0) (h1:¬ t.Kind=10):1≤d:=by
 rw [Zdp,if_neg h0,if_neg h1] at h
 by_cases hb:t.Kind < 0∨10 < t.Kind∨d=0∨65536≤t.Words.length∨(t.Kind=1∧65536≤t.Kids.length)∨1048576≤t.Kids.length∨(1 < t.Kind∧0 < t.Words.length)
 ·rw [if_pos hb] at h;cases h
 omega
theorem Yc3 {A:Zm}:∀ (d:Nat) (r:Ze) (u:Tr) (left:Int),MR A r u→rt u d=true→¬ u.Kind=10→((wt u:Nat):Int)≤left→Uz A d r left=(u,left - ((wt u:Nat):Int),0):=fun d=>by
 induction d using Nat.strongRecOn with
 | _ d ih =>
  intro r u left hm hr h10 hl
  have iP:∀ (k:Nat) (r:Ze) (u:Tr) (left:Int),0 < k→k≤d→MR A r u→rt u (d - k)=true→¬ u.Kind=10→((wt u:Nat):Int)≤left→Xa A k d r left=(u,left - ((wt u:Nat):Int),0):=fun k r u left hk hkd hm hr h10 hl=>by
   unfold Xa
   rw [if_pos hkd]
   exact ih (d - k) (by omega) r u left hm hr h10 hl
  have hkd:=hm.kd
  have hlen:=hm.len
  have hln:(Z5 r).toNat=u.Kids.length:=by omega
  have hwe:=Zv5 u
  rw [Zkj]
  unfold Zhu
  by_cases h0:r.kind=0
  ·rw [if_pos h0]
   have:=Z7g hm.o (.inl h0)
   have hk:u.Kids=[]:=List.length_eq_zero_iff.1 (by omega)
   have e:=Zlm hm
   rw [hk] at e
   rw [if_pos (by omega)] at hwe
   rw [e,hwe]
   simp
  rw [if_neg h0]
  rw [if_neg (by omega),if_neg h10] at hwe
  have hd1:=Zvm hr (by omega) h10
  have hri:=Q1 hr (by omega) h10
  -- a struct
  by_cases h1:r.kind=1
  ·have hw:=Zyp hm.o h1
   rw [← hm.ws] at hw
   have hk:Z5 r=r.ptrs:=by unfold Z5;rw [if_pos h1]
   have ewt:wtR r=1+((u.Words.length:Int)+(u.Kids.length:Int)):=by unfold wtR;rw [if_neg h0,if_pos h1];omega
   have elv:lvR r=1:=by unfold lvR;rw [if_neg h0,if_neg (by omega)]
   rw [if_pos (by omega)] at hwe
   have ef:Zc7 A (Xa A 1 d) (Xa A 2 d) r=Xa A 1 d:=by unfold Zc7;rw [if_neg (by omega),if_pos (.inl h1)]
   have main:=Zw3 (f:=Xa A 1 d) (g:=Yq A r) (w':=wt) u.Kids 0 (left - wtR r) [] (fun j x hx=>by
    obtain ⟨e1,e2⟩:=hm.kid hx
    have hxm:=List.mem_of_getElem? hx
    rw [Nat.zero_add]
    exact ⟨e1,fun l' hl'=>iP 1 _ _ _ (by decide) hd1 e2 (hri.2.2.2 x hxm).1 (Km (by omega) (hri.2.2.2 x hxm).2).1 hl'⟩) (by omega)
   rw [if_neg (by omega),hln,ef]
   simp only
   rw [main]
   simp only [List.nil_append]
   rw [Zlm hm]
   refine Prod.ext rfl (Prod.ext ?_ rfl)
   simp only
   omega
  have hk:Z5 r=r.count:=by unfold Z5;rw [if_neg h1]
  rw [if_neg (by omega)] at hwe
  by_cases h9:r.kind=9
  ·rw [if_neg (by omega)] at hwe
   have st:∀ (j:Nat) (x:Tr),u.Kids[j]? = some x→MR A ⟨some A,1,r.segment,r.at_+1+(j:Int) * (r.words+r.ptrs),r.words,r.ptrs,0,0,0⟩ x∧(x.Words.length:Int)=r.words∧(x.Kids.length:Int)=r.ptrs∧x.Kind=1:=fun j x hx=>by
    obtain ⟨e1,e2⟩:=hm.kid hx
    have hj:j < u.Kids.length:=(List.getElem?_eq_some_iff.1 hx).1
    have hks:=Z3c (A:=A) h9 (i:=(j:Int)) (by omega)
    rw [hks] at e2
    have q1:=e2.kd
    have q2:=Zyp e2.o rfl
    rw [← e2.ws] at q2
    have q3:=e2.len
    exact ⟨e2,q2,q3,q1⟩
   by_cases hn:u.Kids.length=0
   ·have hz:u.Kids=[]:=List.length_eq_zero_iff.1 hn
    have ewt:wtR r=1:=by unfold wtR;rw [if_neg h0,if_neg h1,if_pos h9,← hk,← hlen,hn];simp
    have elv:lvR r=1:=by unfold lvR;rw [if_neg h0,if_neg (by omega)]
    rw [if_neg (by rw [hz] at hwe;simp at hwe;omega),hln,hn]
    simp only [Yr]
    have e:=Zlm hm
    rw [hz] at e
    rw [e,hwe,hz,ewt]
    rfl
   obtain ⟨x0,hx0⟩:∃ x,u.Kids[0]? = some x:=⟨_,List.getElem?_eq_getElem (by omega)⟩
   obtain ⟨_,w0,p0,k0⟩:=st 0 x0 hx0
   have hd2:2≤d:=by
    have:=Zvm (hri.2.2.2 x0 (List.mem_of_getElem? hx0)).1 (by omega) (by omega)
    omega
   have hsum:(u.Kids.map wt).sum=u.Kids.length * (1+(x0.Words.length+x0.Kids.length))+(u.Kids.map wtK).sum:=Zrg fun x hx=>by
    obtain ⟨j,hj⟩:=List.mem_iff_getElem?.1 hx
    obtain ⟨_,q1,q2,q3⟩:=st j x hj
    rw [Zv5,if_neg (by omega),if_neg (by omega),if_pos q3]
    unfold wtK
    omega
   have ewt:wtR r=1+((u.Kids.length * (1+(x0.Words.length+x0.Kids.length)):Nat):Int):=by
    unfold wtR
    rw [if_neg h0,if_neg h1,if_pos h9,← w0,← p0,← hk,← hlen,Int.natCast_mul,Int.natCast_add,Int.natCast_add,← Int.add_assoc]
    rfl
   have elv:lvR r=2:=by unfold lvR;rw [if_neg h0,if_pos ⟨h9,by omega⟩]
   have ef:Zc7 A (Xa A 1 d) (Xa A 2 d) r=stK A (Xa A 2 d):=by unfold Zc7;rw [if_pos h9]
   have main:=Zw3 (f:=stK A (Xa A 2 d)) (g:=Yq A r) (w':=wtK) u.Kids 0 (left - wtR r) [] (fun j x hx=>by
    obtain ⟨e2,q1,q2,q3⟩:=st j x hx
    have hj:j < u.Kids.length:=(List.getElem?_eq_some_iff.1 hx).1
    have hxr:=hri.2.2.2 x (List.mem_of_getElem? hx)
    have hxi:=Q1 hxr.1 (by omega) (by omega)
    have hks:=Z3c (A:=A) h9 (i:=(j:Int)) (by omega)
    rw [Nat.zero_add,hks]
    refine ⟨rfl,fun l' hl' => ?_⟩
    unfold stK
    have hp:(r.ptrs).toNat=x.Kids.length:=by omega
    have inner:=Zw3 (f:=Xa A 2 d) (g:=Yq A ⟨some A,1,r.segment,r.at_+1+(j:Int) * (r.words+r.ptrs),r.words,r.ptrs,0,0,0⟩) (w':=wt) x.Kids 0 l' [] (fun j' y hy=>by
     obtain ⟨f1,f2⟩:=e2.kid hy
     have hym:=List.mem_of_getElem? hy
     rw [Nat.zero_add]
     refine ⟨f1,fun l'' hl''=>iP 2 _ _ _ (by decide) hd2 f2 ?_ (Km (by omega) (hxi.2.2.2 y hym).2).1 hl''⟩
     rw [show d - 2=d - 1 - 1 by omega]
     exact (hxi.2.2.2 y hym).1) hl'
    simp only
    rw [hp,inner]
    simp only [List.nil_append]
    have e:=Zlm e2
    simp only at e
    rw [e]
    rfl) (by omega)
   rw [if_neg (by omega),hln,ef]
   simp only
   rw [main]
   simp only [List.nil_append]
   rw [Zlm hm]
   refine Prod.ext rfl (Prod.ext ?_ rfl)
   simp only
   omega
  have ewt:wtR r=1+(u.Kids.length:Int):=by unfold wtR;rw [if_neg h0,if_neg h1,if_neg h9];omega
  have elv:lvR r=1:=by unfold lvR;rw [if_neg h0,if_neg (by omega)]
  by_cases h8:r.kind=8
  ·rw [if_pos (by omega)] at hwe
   have ef:Zc7 A (Xa A 1 d) (Xa A 2 d) r=Xa A 1 d:=by unfold Zc7;rw [if_neg (by omega),if_pos (.inr h8)]
   have main:=Zw3 (f:=Xa A 1 d) (g:=Yq A r) (w':=wt) u.Kids 0 (left - wtR r) [] (fun j x hx=>by
    obtain ⟨e1,e2⟩:=hm.kid hx
    have hxm:=List.mem_of_getElem? hx
    rw [Nat.zero_add]
    exact ⟨e1,fun l' hl'=>iP 1 _ _ _ (by decide) hd1 e2 (hri.2.2.2 x hxm).1 (Km (by omega) (hri.2.2.2 x hxm).2).1 hl'⟩) (by omega)
   rw [if_neg (by omega),hln,ef]
   simp only
   rw [main]
   simp only [List.nil_append]
   rw [Zlm hm]
   refine Prod.ext rfl (Prod.ext ?_ rfl)
   simp only
   omega
  rw [if_neg (by omega)] at hwe
  have kk:=Z37 hm.o
  have h27:2≤u.Kind∧u.Kind≤7:=by omega
  have hone:(u.Kids.map wt).sum=u.Kids.length * 1:=Zsm fun x hx=>by
   have:=(hri.2.2.2 x hx).2
   unfold okk at this
   rw [if_pos h27,Bool.and_eq_true,beq_iff_eq] at this
   rw [Zv5,if_neg (by omega),if_pos this.1]
  have hz:(u.Kids.map fun _=>0).sum=u.Kids.length * 0:=Zsm fun x hx=>rfl
  have ef:Zc7 A (Xa A 1 d) (Xa A 2 d) r=Zgo A:=by unfold Zc7;rw [if_neg (by omega),if_neg (by omega)]
  have main:=Zw3 (f:=Zgo A) (g:=Yq A r) (w':=fun _=>0) u.Kids 0 (left - wtR r) [] (fun j x hx=>by
   obtain ⟨e1,e2⟩:=hm.kid hx
   have hj:j < u.Kids.length:=(List.getElem?_eq_some_iff.1 hx).1
   have q:=Zrv (A:=A) (r:=r) (by omega) (i:=(j:Int)) (by omega)
   rw [Nat.zero_add]
   refine ⟨e1,fun l' hl' => ?_⟩
   have e:=Zlm e2
   have hl2:=e2.len
   have hk0:x.Kids=[]:=List.length_eq_zero_iff.1 (by omega)
   rw [hk0] at e
   unfold Zgo
   rw [e]
   simp) (by rw [hz];omega)
  rw [if_neg (by omega),hln,ef]
  simp only
  rw [main,hz]
  simp only [List.nil_append]
  rw [Zlm hm]
  refine Prod.ext rfl (Prod.ext ?_ rfl)
  simp only
  omega
theorem Z3s {α:Type} {p:α→Bool} {x:α} (h:p x=true) (l:List α):∀ n:Nat,tr p (l++List.replicate n x)=tr p l
 | 0=>by simp
 | n+1=>by rw [List.replicate_succ',← List.append_assoc,Zl0 h,Z3s h l n]
theorem Z7y {u:Tr} (q:Int×Int) (h:u.Kind=1):nrm (Zjd q u)=nrm u:=by
 rw [Kf (t:=Zjd q u) h,Kf h]
 show (⟨1,tr _ (Zwk q.1.toNat u.Words),tr _ ((Zsf q.2.toNat u.Kids).map nrm)⟩:Tr)=_
 unfold Zwk Zsf
 rw [Z3s rfl,List.map_append,List.map_replicate,Za8 rfl,Z3s rfl]
theorem Z7x:∀ (n:Nat) (t:Tr) (d:Nat),SizeOf.sizeOf t < n→rt t d=true→nrm (fm t)=nrm t
 | 0,_,_,h,_=>by omega
 | n+1,t,d,h,hr=>by
  have ih:∀ x∈t.Kids,nrm (fm x)=nrm x:=fun x hx=>Z7x n x (d - 1) (by have:=Yy hx;omega) ((Zep hr).2.2.2.2 x hx)
  by_cases h0:t.Kind=0
  ·rw [Za8 (by rw [Zb0];exact h0),Za8 h0]
  by_cases h9:t.Kind=9
  ·rw [G3 (t:=fm t) (by rw [Zb0];exact h0) (by rw [Zb0];omega),G3 h0 (by omega),Zb0,Zk7,Zio h9,List.map_map]
   congr 1
   refine List.map_congr_left fun x hx => ?_
   have k1:=(Km (by omega) ((Q1 hr h0 (by omega)).2.2.2 x hx).2).2 h9
   show nrm (Zjd _ (fm x))=nrm x
   rw [Z7y _ (by rw [Zb0];exact k1),ih x hx]
  have hk:(fm t).Kids.map nrm=t.Kids.map nrm:=by
   rw [Ug h9,List.map_map]
   exact List.map_congr_left fun x hx=>ih x hx
  by_cases h1:t.Kind=1
  ·rw [Kf (t:=fm t) (by rw [Zb0];exact h1),Kf h1,Zk7,hk]
  rw [G3 (t:=fm t) (by rw [Zb0];exact h0) (by rw [Zb0];exact h1),G3 h0 h1,Zb0,Zk7,hk]
theorem Z8n {t:Tr} {d:Nat} (h1:1≤t.Kind∧t.Kind≤9) (hd:1≤d) (hw:t.Words.length < 65536) (hk:t.Kind=1→t.Kids.length < 65536) (hk2:t.Kids.length < 1048576) (hw2:1 < t.Kind→t.Words=[]) (ha:∀ x∈t.Kids,rt x (d - 1)=true∧okk t.Kind x=true):rt t d=true:=by
 rw [Zdp,if_neg (by omega),if_neg (by omega),if_neg,List.all_eq_true]
 ·intro x hx
  rw [Bool.and_eq_true]
  exact ha x hx
 rintro (q | q | q | q | ⟨q1,q2⟩ | q | ⟨q1,q2⟩)
 ·omega
 ·omega
 ·omega
 ·omega
 ·have:=hk q1;omega
 ·omega
 have:=hw2 q1;rw [this] at q2;simp at q2
theorem Z76 {κ:Int} {x y:Tr} (h1:x.Kind=y.Kind) (h2:x.Words=y.Words):okk κ x=okk κ y:=by unfold okk;rw [h1,h2]
theorem Z8m:∀ (n:Nat) (t:Tr) (d:Nat),SizeOf.sizeOf t < n→Fine t d→rt (fm t) d=true
 | 0,_,_,h,_=>by omega
 | n+1,t,d,h,hf=>by
  have ih:∀ x∈t.Kids,rt (fm x) (d - 1)=true:=fun x hx=>Z8m n x (d - 1) (by have:=Yy hx;omega) (hf.kid hx)
  have g:=Zep hf.rt
  by_cases h0:t.Kind=0∨t.Kind=10
  ·have e:fm t=t:=by
    have:=g.2.2.2.1 h0
    rw [Zti,this]
    obtain ⟨a,b,c⟩:=t
    simp only at this
    subst this
    rfl
   rw [e]
   exact hf.rt
  have i:=Q1 hf.rt (by omega) (by omega)
  by_cases h9:t.Kind=9
  ·obtain ⟨W,K,e1,e2,e3,e4,e5⟩:=Zpi hf h9
   refine Z8n (by rw [Zb0];omega) (Zvm hf.rt (by omega) (by omega)) (by rw [Zk7];exact i.1) (fun q=>by rw [Zb0] at q;omega) (by rw [Zio h9,List.length_map];exact g.2.2.1) (fun _=>by rw [Zk7];exact i.2.2.1 (by omega)) fun x hx => ?_
   rw [Zio h9] at hx
   obtain ⟨y,hy,rfl⟩:=List.mem_map.1 hx
   have k1:=(Km (by omega) (i.2.2.2 y hy).2).2 h9
   have lyy:=e4 y hy
   have iy:=Q1 (ih y hy) (by rw [Zb0];omega) (by rw [Zb0];omega)
   have fk:(fm y).Kids=y.Kids.map fm:=Ug (by omega)
   have f1:(fr t.Kids).1.toNat=W:=by rw [e1];exact Int.toNat_natCast W
   have f2:(fr t.Kids).2.toNat=K:=by rw [e1];exact Int.toNat_natCast K
   have l1:(Zjd (fr t.Kids) (fm y)).Words.length=W:=by show (Zwk (fr t.Kids).1.toNat (fm y).Words).length=W;rw [f1,Zk7,Zq5 lyy.1]
   have l2:(Zjd (fr t.Kids) (fm y)).Kids.length=K:=by show (Zsf (fr t.Kids).2.toNat (fm y).Kids).length=K;rw [f2,Zvg (by rw [fk,List.length_map];exact lyy.2)]
   have kk:(Zjd (fr t.Kids) (fm y)).Kind=1:=by show (fm y).Kind=1;rw [Zb0,k1]
   refine ⟨Z8n (by omega) (Zvm (ih y hy) (by rw [Zb0];omega) (by rw [Zb0];omega)) (by omega) (fun _=>by omega) (by omega) (fun q=>by omega) fun z hz => ?_,?_⟩
   ·have hz':z∈Zsf (fr t.Kids).2.toNat (fm y).Kids:=hz
    unfold Zsf at hz'
    rw [kk]
    rcases List.mem_append.1 hz' with q | q
    ·have:=iy.2.2.2 z q
     rwa [Zb0,k1] at this
    rw [(List.mem_replicate.1 q).2]
    exact ⟨by rw [Zdp];rfl,rfl⟩
   rw [Zb0,h9]
   unfold okk
   rw [if_neg (by decide),kk]
   rfl
  refine Z8n (by rw [Zb0];omega) (Zvm hf.rt (by omega) (by omega)) (by rw [Zk7];exact i.1) (fun q=>by rw [Zb0] at q;rw [Ug h9,List.length_map];exact i.2.1 q) (by rw [Ug h9,List.length_map];exact g.2.2.1) (fun q=>by rw [Zb0] at q;rw [Zk7];exact i.2.2.1 q) fun x hx => ?_
  rw [Ug h9] at hx
  obtain ⟨y,hy,rfl⟩:=List.mem_map.1 hx
  rw [Zb0,Z76 (Zb0 y) (Zk7 y)]
  exact ⟨ih y hy,(i.2.2.2 y hy).2⟩
theorem Zqr {α:Type} {f:α→Nat} {g:α→Int}:∀ {l:List α},(∀ x∈l,((f x:Nat):Int)≤g x)→(((l.map f).sum:Nat):Int)≤(l.map g).sum
 | [],_=>by simp
 | x::l,h=>by
  have:=Zqr (f:=f) (g:=g) (l:=l) fun y hy=>h y (.tail _ hy)
  have:=h x (.head _)
  simp only [List.map_cons,List.sum_cons,Int.natCast_add]
  omega
theorem Zt7 {α:Type} {f:α→Int} {g:α→Nat}:∀ {l:List α},(l.map fun x=>2 * f x+((g x:Nat):Int)).sum=2 * (l.map f).sum+(((l.map g).sum:Nat):Int)
 | []=>by simp
 | x::l=>by
  have:=Zt7 (f:=f) (g:=g) (l:=l)
  simp only [List.map_cons,List.sum_cons,Int.natCast_add,this]
  omega
theorem Yam {l:List Tr}:((l.map fun x=>(x.Kids.map pt).sum).sum)+l.length≤(l.map pt).sum:=by
 induction l with
 | nil=>simp
 | cons x l ih =>
  have:=Zfn x
  simp only [List.map_cons,List.sum_cons,List.length_cons]
  omega
theorem Z8x {f:Tr→Nat} {l:List Tr} {n:Nat} (h:f ⟨0,[],[]⟩=0):((l++List.replicate n (⟨0,[],[]⟩:Tr)).map f).sum=(l.map f).sum:=by
 rw [List.map_append,List.map_replicate,h,List.sum_append]
 simp
theorem Ya4 {W K:Nat} {u:Tr} (h1:u.Kind=1) (hw:u.Words.length≤W) (hk:u.Kids.length≤K):wt (Zjd ((W:Int),(K:Int)) u)=1+(W+K)+(u.Kids.map wt).sum:=by
 have hkk:(Zjd ((W:Int),(K:Int)) u).Kind=1:=h1
 have e1:(Zjd ((W:Int),(K:Int)) u).Words.length=W:=Zq5 hw
 have e2:(Zjd ((W:Int),(K:Int)) u).Kids.length=K:=Zvg hk
 have e3:((Zjd ((W:Int),(K:Int)) u).Kids.map wt).sum=(u.Kids.map wt).sum:=Z8x (f:=wt) (by rw [Zv5];rfl)
 rw [Zv5,if_neg (by omega),if_neg (by omega),if_pos hkk,e1,e2,e3]
theorem Z88:∀ (n:Nat) (t:Tr) (d:Nat),SizeOf.sizeOf t < n→Fine t d→((wt (fm t):Nat):Int)≤2 * sz t+(pt t:Int)
 | 0,_,_,h,_=>by omega
 | n+1,t,d,h,hf=>by
  have ih:∀ x∈t.Kids,((wt (fm x):Nat):Int)≤2 * sz x+(pt x:Int):=fun x hx=>Z88 n x (d - 1) (by have:=Yy hx;omega) (hf.kid hx)
  have g:=Zep hf.rt
  have s0:=(Yc9 hf.rt hf.pt).1
  have p0:=Zfn t
  rw [Zv5,Zb0]
  by_cases h0:t.Kind=0
  ·rw [if_pos h0];omega
  rw [if_neg h0]
  by_cases h10:t.Kind=10
  ·rw [if_pos h10];omega
  rw [if_neg h10]
  have hri:=Q1 hf.rt h0 h10
  by_cases h9:t.Kind=9
  ·obtain ⟨W,K,e1,e2,e3,e4,e5⟩:=Zpi hf h9
   have k1:∀ x∈t.Kids,x.Kind=1:=fun x hx=>(Km (by omega) (hri.2.2.2 x hx).2).2 h9
   have hs:((fm t).Kids.map wt).sum=t.Kids.length * (1+(W+K))+(t.Kids.map fun x=>((fm x).Kids.map wt).sum).sum:=by
    rw [Zio h9,List.map_map,e1]
    exact Zrg fun x hx=>by
     have:=e4 x hx
     have fk:(fm x).Kids.length=x.Kids.length:=by rw [Ug (by have:=k1 x hx;omega),List.length_map]
     show wt (Zjd ((W:Int),(K:Int)) (fm x))=_
     rw [Ya4 (by rw [Zb0];exact k1 x hx) (by rw [Zk7];exact this.1) (by rw [fk];exact this.2)]
   have hb:(((t.Kids.map fun x=>((fm x).Kids.map wt).sum).sum:Nat):Int)≤(t.Kids.map fun x=>2 * szK x+(((x.Kids.map pt).sum:Nat):Int)).sum:=Zqr fun x hx=>by
    rw [Ug (by have:=k1 x hx;omega),List.map_map]
    have:=Zqr (f:=wt ∘ fm) (g:=fun y=>2 * sz y+(pt y:Int)) (l:=x.Kids) fun y hy=>Z88 n y (d - 1 - 1) (by have:=Yy hx;have:=Yy hy;omega) ((hf.kid hx).kid hy)
    rw [Zt7] at this
    exact this
   have e2p:=Zt7 (f:=szK) (g:=fun x:Tr=>(x.Kids.map pt).sum) (l:=t.Kids)
   have sp:=Yam (l:=t.Kids)
   have em:t.Kids.length * (1+(W+K))=t.Kids.length+t.Kids.length * (W+K):=by rw [Nat.mul_add,Nat.mul_one]
   rw [if_neg (by omega),if_neg (by omega),hs,em,e5]
   generalize (t.Kids.map szK).sum=S1 at *
   generalize ((t.Kids.map fun x=>((fm x).Kids.map wt).sum).sum)=S2 at *
   generalize ((t.Kids.map fun x:Tr=>(x.Kids.map pt).sum).sum)=S3 at *
   have hw0:=hri.2.2.1 (by omega)
   rw [hw0] at p0
   simp only [List.length_nil] at p0
   omega
  have hb:((((fm t).Kids.map wt).sum:Nat):Int)≤2 * (t.Kids.map sz).sum+(((t.Kids.map pt).sum:Nat):Int):=by
   rw [Ug h9,List.map_map]
   have:=Zqr (f:=wt ∘ fm) (g:=fun y=>2 * sz y+(pt y:Int)) (l:=t.Kids) ih
   rwa [Zt7] at this
  have fl:(fm t).Kids.length=t.Kids.length:=by rw [Ug h9,List.length_map]
  by_cases h1:t.Kind=1
  ·have es:sz t=((t.Words.length:Int)+(t.Kids.length:Int))+(t.Kids.map sz).sum:=by rw [Zxj,if_pos h1]
   rw [if_pos h1,Zk7,fl]
   omega
  by_cases h8:t.Kind=8
  ·have es:sz t=(t.Kids.length:Int)+(t.Kids.map sz).sum:=by rw [Zxj,if_neg (by omega),if_neg (by omega),if_pos h8]
   rw [if_neg h1,if_pos h8,fl]
   omega
  have hz:(t.Kids.map sz).sum=0:=by
   have:∀ l:List Tr,(∀ x∈l,sz x=0)→(l.map sz).sum=0:=fun l=>by
    induction l with
    | nil=>intro _;rfl
    | cons x l ih=>intro h;simp only [List.map_cons,List.sum_cons,h x (.head _),ih fun y hy=>h y (.tail _ hy)];rfl
   refine this _ fun x hx => ?_
   have:=(hri.2.2.2 x hx).2
   unfold okk at this
   rw [if_pos (by omega),Bool.and_eq_true,beq_iff_eq] at this
   rw [Zxj,if_neg (by omega),if_neg (by omega),if_neg (by omega),if_neg (by omega)]
  rw [if_neg h1,if_neg h8]
  omega
theorem Zw0:∀ (k:Nat) (t:Tr) (d:Nat),Fine t d→SizeOf.sizeOf t < k→Qk k t=some (fm t)
 | 0,_,_,_,h=>by omega
 | k+1,t,d,hf,hk=>by
  have g:=Zep hf.rt
  have ih:∀ x∈t.Kids,Qk k x=some (fm x):=fun x hx=>Zw0 k x (d - 1) (hf.kid hx) (by have:=Yy hx;omega)
  show K7 (Qk k) t=_
  unfold K7
  rw [Z52 (by omega),Option.bind_some]
  have main:=Z3g t.Kids (fun i (s:List Tr)=>(i,s)) (fun s=>s) (Ju (Qk k) t (fr t.Kids)) (fun s _ x=>s++[if t.Kind=9 then Zjd (fr t.Kids) (fm x) else fm x]) (fun i (s:List Tr)=>s=(t.Kids.take i).map fun k=>if t.Kind=9 then Zjd (fr t.Kids) (fm k) else fm k) (by omega) (fun i s x hi hx hm hI=>by
   have hl:s.length≤1048576:=by rw [hI,List.length_map,List.length_take];omega
   refine ⟨?_,?_⟩
   ·unfold Ju
    simp only
    rw [Zow hi,cond_true,Jr hx,Option.bind_some,ih x hm,Option.bind_some]
    by_cases h9:t.Kind=9
    ·obtain ⟨W,K,e1,e2,e3,e4,e5⟩:=Zpi hf h9
     have hx4:=e4 x hm
     have k1:=(Km (by omega) ((Q1 hf.rt (by omega) (by omega)).2.2.2 x hm).2).2 h9
     have fk:(fm x).Kids.length=x.Kids.length:=by rw [Ug (by omega),List.length_map]
     have fw:(fm x).Words.length=x.Words.length:=by rw [Zk7]
     rw [Zo5 h9,cond_true,if_pos h9,e1]
     simp only
     rw [Xc (x:=(W:Int) - _) (by omega) (by omega),Xc (x:=(K:Int) - _) (by omega) (by omega),Zbc (by simp;omega) (by simp;omega),Option.bind_some,V9 (by omega),Option.bind_some,Zbc (by simp;omega) (by simp;omega),Option.bind_some,Zbc (by simp;omega) (by simp;omega),Option.bind_some,V9 (by omega),Option.bind_some,Zbc (by simp;omega) (by simp;omega),Option.bind_some,Option.bind_some,Zbc (by simp;omega) (by simp;omega),Option.bind_some]
     simp only [List.nil_append]
     have n1:((W:Int) - ((fm x).Words.length:Int)).toNat=W - (fm x).Words.length:=by omega
     have n2:((K:Int) - ((fm x).Kids.length:Int)).toNat=K - (fm x).Kids.length:=by omega
     rw [n1,n2]
     unfold Zjd Zwk Zsf
     simp only [Int.toNat_natCast]
    rw [Vu h9,cond_false,if_neg h9,Option.bind_some,Zbc (by simp;omega) (by simp;omega),Option.bind_some]
    show some (Sum.inl (_,s++[(⟨(fm x).Kind,(fm x).Words,(fm x).Kids⟩:Tr)]))=_
    rw [Ydp]
   ·rw [hI,List.take_add_one,hx,List.map_append]
    rfl) (fun s _=>by
   unfold Ju
   simp only
   rw [Zov,cond_false]) [] rfl
  rw [main.1,Option.bind_some,main.2,List.take_length,Zti]
theorem Z5h {t:Tr} {d:Nat} (hf:Fine t d):Zbn t=some (fm t):=Zkh (SizeOf.sizeOf t+1) fun k hk=>Zw0 k t d hf (by omega)
def U6 (l:List Int):Prop:=∀ w∈l,0≤w∧w < 18446744073709551616
theorem Yae {c:Int} (h:0≤c∧c≤5) {ns:List Int} (hn:∀ n∈ns,0≤n∧Zfl c n=true):U6 (Zdi c ns):=by
 by_cases h0:c=0
 ·unfold Zdi
  rw [if_pos h0]
  intro w hw
  cases hw
 have ff:∀ n∈ns,0≤n∧n < 2 ^ wid c:=fun n hm=>⟨(hn n hm).1,by have:=(hn n hm).2;unfold Zfl at this;exact of_decide_eq_true this⟩
 have key:0 < wid c∧∀ i:Nat,i * wid c % 64+wid c≤64:=by
  rcases c5' h with rfl | rfl | rfl | rfl | rfl | rfl
  ·exact absurd rfl h0
  ·exact ⟨by decide,fun i=>by show i * 1 % 64+1≤64;omega⟩
  ·exact ⟨by decide,fun i=>by show i * 8 % 64+8≤64;omega⟩
  ·exact ⟨by decide,fun i=>by show i * 16 % 64+16≤64;omega⟩
  ·exact ⟨by decide,fun i=>by show i * 32 % 64+32≤64;omega⟩
  exact ⟨by decide,fun i=>by show i * 64 % 64+64≤64;omega⟩
 have b:=Z1x key.1 key.2 ff
 have e:Zdi c ns=Zfm (Zly (wid c)) (List.replicate ((ns.length * wid c+63) / 64) 0) 0 ns:=by unfold Zdi;rw [if_neg h0]
 intro w hw
 rw [e] at hw
 obtain ⟨q,hq⟩:=List.mem_iff_getElem?.1 hw
 obtain ⟨v0,v1⟩:=b.1.2 q w hq
 refine ⟨v0,Int.lt_of_lt_of_le v1 (Int.le_trans (Zvi (b:=64) (by omega)) (by decide))⟩
end Go.Proofs.Ytbkhdkfjabiocaa
