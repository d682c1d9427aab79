/- Plain facts on this seat's mirrors (part KP2); each theorem bears its own conditions. -/
import Derived.Test.YtjeakjakgocoaaaKM4
import Derived.IntWalk
namespace Go.Proofs.Ytjeakjakgocoaaa
open Go.RowKit
set_option linter.unusedVariables false
set_option linter.unusedSimpArgs false
def Z24 (m i:Nat):Bool:=decide (m / 2 ^ i % 2=1)
theorem Zww (q:Nat):((q:Int) % 2 == 1)=decide (q % 2=1):=by rw [Bool.eq_iff_iff];simp;omega
def Zs2 (f:Nat→Nat):Nat→Nat
 | 0=>0
 | k+1=>2 ^ (8 * k) * f k+Zs2 f k
def Kj (n k:Nat):Nat:=n / 256 ^ k % 256
theorem Zwx (n k:Nat):Kj n k < 256:=Nat.mod_lt _ (by decide)
def Zdx (a b m k:Nat):Nat:=if Z24 m k then Kj b k else Kj a k
theorem Z06 (a b m k:Nat):Zdx a b m k < 256:=by unfold Zdx;split <;> exact Zwx _ _
def Z33 (a b m:Nat):Nat:=Zs2 (Zdx a b m) 8
theorem Z1n (q:Nat):Int.tdiv (q:Int) 256=((q / 256:Nat):Int):=by rw [Int.tdiv_eq_ediv_of_nonneg (Int.natCast_nonneg _)];omega
theorem Z4h (q:Nat):Int.tdiv (q:Int) 2=((q / 2:Nat):Int):=by rw [Int.tdiv_eq_ediv_of_nonneg (Int.natCast_nonneg _)];omega
theorem Z1p (q:Nat):IntKind.u8.wrap (Int.tmod (q:Int) 256)=((q % 256:Nat):Int):=by rw [Int.tmod_eq_emod_of_nonneg (Int.natCast_nonneg _),IntKind.wrap_u8'];omega
theorem Z7m (q:Nat) (h:q < 18446744073709551616):IntKind.u64.wrap (q:Int)=(q:Int):=Zwm (by omega)
theorem u8n (q:Nat) (h:q < 256):IntKind.u8.wrap (q:Int)=(q:Int):=by rw [IntKind.wrap_u8'];omega
theorem lt8 {k:Nat} (h:k < 8):k=0∨k=1∨k=2∨k=3∨k=4∨k=5∨k=6∨k=7:=by omega
def ofF (f:Nat→Nat):Arr Int 8:=⟨[(f 0:Nat),(f 1:Nat),(f 2:Nat),(f 3:Nat),(f 4:Nat),(f 5:Nat),(f 6:Nat),(f 7:Nat)],rfl⟩
theorem Zi8 (f:Nat→Nat) (k:Nat) (hk:k < 8):Xw (ofF f).1 (k:Int)=some ((f k:Nat):Int):=by
 rcases lt8 hk with rfl | rfl | rfl | rfl | rfl | rfl | rfl | rfl <;> rfl
theorem Zt2 (f:Nat→Nat) (k v:Nat) (hk:k < 8):Arr.put (ofF f) (k:Int) (v:Int)=ofF (fun i=>if i=k then v else f i):=by
 rcases lt8 hk with rfl | rfl | rfl | rfl | rfl | rfl | rfl | rfl <;> rfl
theorem Zmg {f g:Nat→Nat} (h:∀ k,k < 8→f k=g k):ofF f=ofF g:=by
 unfold ofF
 simp only [h 0 (by decide),h 1 (by decide),h 2 (by decide),h 3 (by decide),h 4 (by decide),h 5 (by decide),h 6 (by decide),h 7 (by decide)]
theorem Zjk (n:Nat) (hn:n < 18446744073709551616):∀ j i:Nat,i+j=8→Zm Qn (((n / 256 ^ i:Nat):Int),(i:Int),ofF (fun q=>if q < i then Kj n q else 0))=some (ofF (Kj n))
 | 0,i,h=>by
  obtain rfl:i=8:=by omega
  refine (Yg (r:=ofF (fun q=>if q < 8 then Kj n q else 0)) rfl).trans ?_
  rw [Zmg (g:=Kj n) fun k hk=>if_pos hk]
 | j+1,i,h=>by
  have hs:Qn (((n / 256 ^ i:Nat):Int),(i:Int),ofF (fun q=>if q < i then Kj n q else 0))=some (.inl (((n / 256 ^ (i+1):Nat):Int),((i+1:Nat):Int),ofF (fun q=>if q < i+1 then Kj n q else 0))):=by
   unfold Qn
   have e:decide ((i:Int) < 8)=true:=by rw [decide_eq_true_eq];omega
   simp only
   have q1:n / 256 ^ i≤n:=Nat.div_le_self _ _
   have q2:n / 256 ^ i / 256=n / 256 ^ (i+1):=by rw [Nat.div_div_eq_div_mul,Nat.pow_succ]
   have q3:Int.tdiv ((n / 256 ^ i:Nat):Int) 256=((n / 256 ^ (i+1):Nat):Int):=by rw [← q2,Z1n]
   have q4:IntKind.u8.wrap (Int.tmod ((n / 256 ^ i:Nat):Int) 256)=((Kj n i:Nat):Int):=by
    rw [Z1p]
    rfl
   have q5:n / 256 ^ (i+1)≤n:=Nat.div_le_self _ _
   rw [e,cond_true,Zi8 _ _ (by omega),Option.bind_some,q3,q4,Z7m _ (Nat.lt_of_le_of_lt q5 hn),Zwc (x:=(i:Int)+1) (by omega),Zt2 _ _ _ (by omega)]
   have e5:(fun q=>if q=i then Kj n i else if q < i then Kj n q else 0)=fun q=>if q < i+1 then Kj n q else 0:=by
    funext q
    by_cases h1:q=i
    ·rw [if_pos h1,if_pos (by omega),h1]
    rw [if_neg h1]
    by_cases h2:q < i
    ·rw [if_pos h2,if_pos (by omega)]
    rw [if_neg h2,if_neg (by omega)]
   rw [e5]
   rfl
  rw [Ys hs]
  exact Zjk n hn j (i+1) (by omega)
theorem Zor (n:Nat) (hn:n < 18446744073709551616):Qr (n:Int)=some (ofF (Kj n)):=by
 unfold Qr
 have h:=Zjk n hn 8 0 rfl
 have e:ofF (fun q=>if q < 0 then Kj n q else 0)=⟨[0,0,0,0,0,0,0,0],rfl⟩:=rfl
 rw [e,Nat.pow_zero,Nat.div_one,show ((0:Nat):Int)=0 from rfl] at h
 rw [Option.bind_some,Option.bind_some,h]
 rfl
theorem Zke (m n:Nat) (hm:m < 256) (hn:n≤8):∀ j i:Nat,i+j=n→Zm (Xz (n:Int)) (((m / 2 ^ i:Nat):Int),(i:Int))=some ((m / 2 ^ n:Nat):Int)
 | 0,i,h=>by
  obtain rfl:i=n:=by omega
  refine Yg ?_
  unfold Xz
  have e:decide ((i:Int) < (i:Int))=false:=by rw [decide_eq_false_iff_not];omega
  simp only
  rw [e,cond_false]
 | j+1,i,h=>by
  have hs:Xz (n:Int) (((m / 2 ^ i:Nat):Int),(i:Int))=some (.inl (((m / 2 ^ (i+1):Nat):Int),((i+1:Nat):Int))):=by
   unfold Xz
   have e:decide ((i:Int) < (n:Int))=true:=by rw [decide_eq_true_eq];omega
   have q1:m / 2 ^ i≤m:=Nat.div_le_self _ _
   have q2:m / 2 ^ i / 2=m / 2 ^ (i+1):=by rw [Nat.div_div_eq_div_mul,Nat.pow_succ]
   have q5:m / 2 ^ (i+1)≤m:=Nat.div_le_self _ _
   have q3:Int.tdiv ((m / 2 ^ i:Nat):Int) 2=((m / 2 ^ (i+1):Nat):Int):=by rw [← q2,Z4h]
   have q4:IntKind.u8.wrap ((m / 2 ^ (i+1):Nat):Int)=((m / 2 ^ (i+1):Nat):Int):=u8n _ (Nat.lt_of_le_of_lt q5 hm)
   simp only
   rw [e,cond_true,q3,q4,Zwc (x:=(i:Int)+1) (by omega)]
   rfl
  rw [Ys hs]
  exact Zke m n hm hn j (i+1) (by omega)
theorem Zxq (m n:Nat) (hm:m < 256) (hn:n≤8):Jq (m:Int) (n:Int)=some (Z24 m n):=by
 unfold Jq
 have h:=Zke m n hm hn n 0 (by omega)
 rw [Nat.pow_zero,Nat.div_one,show ((0:Nat):Int)=0 from rfl] at h
 rw [h,Option.bind_some,Int.tmod_eq_emod_of_nonneg (Int.natCast_nonneg _),Zww]
 rfl
theorem Zpi (a b m:Nat) (hm:m < 256):∀ j i:Nat,i+j=8→Zm (Je (m:Int) (ofF (Kj b))) ((i:Int),ofF (fun q=>if q < i then Zdx a b m q else Kj a q))=some (ofF (Zdx a b m))
 | 0,i,h=>by
  obtain rfl:i=8:=by omega
  refine (Yg (r:=ofF (fun q=>if q < 8 then Zdx a b m q else Kj a q)) rfl).trans ?_
  rw [Zmg (g:=Zdx a b m) fun k hk=>if_pos hk]
 | j+1,i,h=>by
  have hs:Je (m:Int) (ofF (Kj b)) ((i:Int),ofF (fun q=>if q < i then Zdx a b m q else Kj a q))=some (.inl (((i+1:Nat):Int),ofF (fun q=>if q < i+1 then Zdx a b m q else Kj a q))):=by
   unfold Je
   have e:decide ((i:Int) < 8)=true:=by rw [decide_eq_true_eq];omega
   simp only
   rw [e,cond_true,Zxq m i hm (by omega),Option.bind_some,Zwc (x:=(i:Int)+1) (by omega)]
   have hne:∀ v,v=Zdx a b m i→(fun q=>if q=i then v else if q < i then Zdx a b m q else Kj a q)=fun q=>if q < i+1 then Zdx a b m q else Kj a q:=fun v hv=>by
    funext q
    by_cases h1:q=i
    ·rw [if_pos h1,if_pos (by omega),h1,hv]
    rw [if_neg h1]
    by_cases h2:q < i
    ·rw [if_pos h2,if_pos (by omega)]
    rw [if_neg h2,if_neg (by omega)]
   cases hb:Z24 m i with
   | true =>
    rw [cond_true,Zi8 _ _ (by omega),Option.bind_some,Zi8 _ _ (by omega),Option.bind_some,Option.bind_some,Zt2 _ _ _ (by omega),hne _ (by unfold Zdx;rw [hb,if_pos rfl])]
    rfl
   | false =>
    have e6:(fun q=>if q < i then Zdx a b m q else Kj a q)=fun q=>if q < i+1 then Zdx a b m q else Kj a q:=by
     funext q
     by_cases h1:q=i
     ·rw [if_neg (by omega),if_pos (by omega),h1]
      unfold Zdx
      rw [hb]
      rfl
     by_cases h2:q < i
     ·rw [if_pos h2,if_pos (by omega)]
     rw [if_neg h2,if_neg (by omega)]
    rw [cond_false,Option.bind_some,e6]
    rfl
  rw [Ys hs]
  exact Zpi a b m hm j (i+1) (by omega)
def hiN (f:Nat→Nat):Nat→Nat→Nat
 | _,0=>0
 | i,n+1=>hiN f (i+1) n * 256+f i
theorem Zxd (f:Nat→Nat) (hf:∀ k,f k < 256):∀ n i,hiN f i n < 256 ^ n
 | 0,_=>by simp [hiN]
 | n+1,i=>by
  have h1:=Zxd f hf n (i+1)
  have h2:=hf i
  have h3:256 ^ (n+1)=256 * 256 ^ n:=by rw [Nat.pow_succ,Nat.mul_comm]
  simp only [hiN]
  omega
theorem Z00 (f:Nat→Nat):hiN f 0 8=Zs2 f 8:=by simp only [hiN,Zs2,Nat.reduceMul,Nat.reducePow,Nat.reduceAdd];omega
theorem Zt3 (f:Nat→Nat) (hf:∀ k,f k < 256):∀ i n:Nat,i+n=8→Zm (Jr (ofF f).1 0) (((hiN f i n:Nat):Int),(i:Int) - 1)=some ((hiN f 0 8:Nat):Int)
 | 0,n,h=>by
  obtain rfl:n=8:=by omega
  exact Yg rfl
 | i+1,n,h=>by
  have hs:Jr (ofF f).1 0 (((hiN f (i+1) n:Nat):Int),((i+1:Nat):Int) - 1)=some (.inl (((hiN f i (n+1):Nat):Int),(i:Int) - 1)):=by
   unfold Jr
   have e0:((i+1:Nat):Int) - 1=(i:Int):=by omega
   have e:decide (0≤(i:Int))=true:=by rw [decide_eq_true_eq];omega
   have h1:=Zxd f hf n (i+1)
   have h2:=hf i
   have h3:256 ^ n≤256 ^ 7:=Nat.pow_le_pow_right (by decide) (by omega)
   have h4:(256:Nat) ^ 7=72057594037927936:=by decide
   simp only
   rw [e0,e,cond_true,Int.zero_add,Zwc (x:=(i:Int)) (by omega),Zi8 _ _ (by omega),Option.bind_some,Zwm (x:=((hiN f (i+1) n:Nat):Int) * 256) (by omega),Zwm (x:=((f i:Nat):Int)) (by omega),Zwm (by omega),Zwc (by omega)]
   have e7:((hiN f (i+1) n:Nat):Int) * 256+((f i:Nat):Int)=((hiN f i (n+1):Nat):Int):=by simp only [hiN];omega
   rw [e7]
  rw [Ys hs]
  exact Zt3 f hf i (n+1) (by omega)
theorem Z3e (a b m:Nat) (ha:a < 18446744073709551616) (hb:b < 18446744073709551616) (hm:m < 256):Km (a:Int) (b:Int) (m:Int)=some ((Z33 a b m:Nat):Int):=by
 unfold Km
 have h:=Zpi a b m hm 8 0 rfl
 have e:ofF (fun q=>if q < 0 then Zdx a b m q else Kj a q)=ofF (Kj a):=rfl
 rw [e,show ((0:Nat):Int)=0 from rfl] at h
 have h2:=Zt3 (Zdx a b m) (Z06 a b m) 8 0 rfl
 rw [Z00,show ((8:Nat):Int) - 1=7 from rfl,show ((hiN (Zdx a b m) 8 0:Nat):Int)=0 from rfl] at h2
 rw [Zor a ha,Option.bind_some,Zor b hb,Option.bind_some,Option.bind_some,h,Option.bind_some]
 unfold V6
 rw [h2]
 rfl
def wi (x m:Int):Bool:=Z33 x.toNat 0 m.toNat == 0
theorem Zm3 {x m:Int} (h0:0≤x) (h1:x < 18446744073709551616) (m0:0≤m) (m1:m < 256):Qf x m=some (wi x m):=by
 obtain ⟨a,rfl⟩:=Int.eq_ofNat_of_zero_le h0
 obtain ⟨k,rfl⟩:=Int.eq_ofNat_of_zero_le m0
 unfold Qf wi
 rw [show (0:Int)=((0:Nat):Int) from rfl,Z3e a 0 k (by omega) (by decide) (by omega),Option.bind_some]
 congr 1
 rw [Bool.eq_iff_iff,beq_iff_eq,beq_iff_eq]
 simp only [Int.toNat_natCast]
 omega
abbrev Ed:=Zd
theorem J5 {e:Ed} {k:Zj} (h:k∈e.Kids):SizeOf.sizeOf k.E < SizeOf.sizeOf e:=by
 obtain ⟨a,b,c,d,ks,f,g⟩:=e
 obtain ⟨i,x⟩:=k
 have h1:=List.sizeOf_lt_of_mem h
 simp only [Zd.mk.sizeOf_spec,Zj.mk.sizeOf_spec] at h1 ⊢
 omega
theorem Va {e:Ed} {o:Zp} (h:o∈e.Ops):SizeOf.sizeOf o.E < SizeOf.sizeOf e:=by
 obtain ⟨a,b,c,d,ks,f,os⟩:=e
 obtain ⟨i,n,l,x⟩:=o
 have h1:=List.sizeOf_lt_of_mem h
 simp only [Zd.mk.sizeOf_spec,Zp.mk.sizeOf_spec] at h1 ⊢
 omega
inductive BE:Ed→Prop
 | mk (e:Ed) (h1:Bd e.Old) (h2:Bd e.New) (h3:(e.Words.length:Int)≤140737488355328) (h4:∀ w∈e.Words,(0≤w.Mask∧w.Mask < 256)∧(0≤w.Old∧w.Old < 18446744073709551616)∧(0≤w.New∧w.New < 18446744073709551616))
   (h5:(e.Kids.length:Int)≤140737488355328) (h6:∀ k∈e.Kids,BE k.E) (h7:(e.Ops.length:Int)≤140737488355328) (h8:∀ o∈e.Ops,o.L.length * 56≤140737488355328∧∀ t∈o.L,Bd t) (h9:∀ o∈e.Ops,BE o.E):BE e
theorem BE.old {e:Ed} (h:BE e):Bd e.Old:=by cases h;assumption
theorem BE.new {e:Ed} (h:BE e):Bd e.New:=by cases h;assumption
theorem BE.w {e:Ed} (h:BE e):(e.Words.length:Int)≤140737488355328:=by cases h;assumption
theorem BE.ws {e:Ed} (h:BE e):∀ w∈e.Words,(0≤w.Mask∧w.Mask < 256)∧(0≤w.Old∧w.Old < 18446744073709551616)∧(0≤w.New∧w.New < 18446744073709551616):=by cases h;assumption
theorem BE.k {e:Ed} (h:BE e):(e.Kids.length:Int)≤140737488355328:=by cases h;assumption
theorem BE.ks {e:Ed} (h:BE e):∀ k∈e.Kids,BE k.E:=by cases h;assumption
theorem BE.o {e:Ed} (h:BE e):(e.Ops.length:Int)≤140737488355328:=by cases h;assumption
theorem BE.l {e:Ed} (h:BE e):∀ o∈e.Ops,o.L.length * 56≤140737488355328∧∀ t∈o.L,Bd t:=by cases h;assumption
theorem BE.os {e:Ed} (h:BE e):∀ o∈e.Ops,BE o.E:=by cases h;assumption
theorem Zw0 {α:Type} (a b:Int) (x y:α):cond (a == b) x y=if a=b then x else y:=by
 by_cases h:a=b
 ·rw [beq_iff_eq.2 h,if_pos h];rfl
 rw [beq_eq_false_iff_ne.2 h,if_neg h];rfl
theorem Zot {α:Type} (a b:Int) (x y:α):cond (a != b) x y=if a=b then y else x:=by
 by_cases h:a=b
 ·have:(a != b)=false:=by simp [h]
  rw [this,if_pos h];rfl
 have:(a != b)=true:=by simp [h]
 rw [this,if_neg h];rfl
def chk {α:Type} (pl:α→Int) (ok:Int→α→Bool):Int→List α→Bool
 | _,[]=>true
 | p,x::xs=>ok p x && chk pl ok (pl x) xs
theorem Zpg {α R:Type} (xs:List α) (pl:α→Int) (ok:Int→α→Bool) (step:Int×Int→Option ((Int×Int) ⊕ R)) (e o:R) (hl:(xs.length:Int)≤140737488355328)
  (h1:∀ (p:Int) (i:Nat) (x:α),i < xs.length→xs[i]? = some x→x∈xs→step (p,(i:Int))=some (if ok p x=true then .inl (pl x,IntKind.i64.wrap ((i:Int)+1)) else .inr e)) (h2:∀ p,step (p,(xs.length:Int))=some (.inr o)) (p:Int):Zm step (p,0)=some (if chk pl ok p xs=true then o else e):=by
 have key:∀ (ys:List α) (i:Nat) (p:Int),xs.drop i=ys→i≤xs.length→Zm step (p,(i:Int))=some (if chk pl ok p ys=true then o else e):=fun ys=>by
  induction ys with
  | nil =>
   intro i p h hi
   have:i=xs.length:=by
    have:=congrArg List.length h
    rw [List.length_drop,List.length_nil] at this
    omega
   subst this
   exact Yg (h2 p)
  | cons x ys ih =>
   intro i p h hi
   have hx:xs[i]? = some x:=by
    have:=congrArg (fun l=>l[0]?) h
    simpa using this
   have hi':i < xs.length:=by
    rcases Nat.lt_or_ge i xs.length with h' | h'
    ·exact h'
    rw [List.getElem?_eq_none h'] at hx;cases hx
   have hs:=h1 p i x hi' hx (List.mem_of_getElem? hx)
   have hd:xs.drop (i+1)=ys:=by
    have:=congrArg List.tail h
    rwa [List.tail_drop,List.tail_cons] at this
   cases hk:ok p x with
   | false =>
    rw [hk] at hs
    rw [Yg (by simpa using hs)]
    simp [chk,hk]
   | true =>
    rw [hk,if_pos rfl,Qh (by omega) (by omega)] at hs
    have e1:(i:Int)+1=((i+1:Nat):Int):=by omega
    rw [e1] at hs
    rw [Ys hs,ih (i+1) (pl x) hd (by omega)]
    simp [chk,hk]
 exact key xs 0 p rfl (Nat.zero_le _)
def Vc (t:Tr):Bool:=t.Kind == 0 && (t.Words.length == 0 && t.Kids.length == 0)
theorem Zi7 {t:Tr} (h:Bd t):Xt t=some (Vc t):=by
 have:=h.w
 have:=h.k
 unfold Xt Vc
 rw [Qh (by omega) (by omega),G4]
 congr 2
 rw [Bool.eq_iff_iff,Bool.and_eq_true,beq_iff_eq,beq_iff_eq,beq_iff_eq]
 omega
def Zcd (e:Ed):Bool:=e.Words.length == 0 && e.Kids.length == 0
def Zax (e:Ed):Bool:=e.List_ == 0 && e.Ops.length == 0
theorem Z3m {e:Ed} (h:BE e):decide (0 < IntKind.i64.wrap ((e.Words.length:Int)+(e.Kids.length:Int))) = !Zcd e:=by
 have:=h.w
 have:=h.k
 unfold Zcd
 rw [Qh (by omega) (by omega),Bool.eq_iff_iff,Bool.not_eq_true',decide_eq_true_eq,Bool.and_eq_false_iff,beq_eq_false_iff_ne,beq_eq_false_iff_ne]
 omega
theorem Z3d (e:Ed):cond (e.List_ != 0) true (decide (0 < (e.Ops.length:Int))) = !Zax e:=by
 unfold Zax
 cases h0:e.List_ == 0 with
 | false=>simp only [bne,h0];rfl
 | true =>
  simp only [bne,h0,Bool.not_true,cond_false,Bool.true_and]
  rw [Bool.eq_iff_iff,Bool.not_eq_true',decide_eq_true_eq,beq_eq_false_iff_ne]
  omega
def Zfs (e:Ed):Bool:=Vc e.Old && Vc e.New
def Uo (e:Ed):Bool:=e.Kind == 0 && (Zfs e && (Zcd e && Zax e))
theorem Zyl {e:Ed} (h:BE e):Q9 e=some (Uo e):=by
 have:=h.w
 have:=h.k
 have:=h.o
 unfold Q9 Uo
 rw [Zi7 h.old,Zi7 h.new]
 simp only [Option.bind_some]
 have e1:(IntKind.i64.wrap (IntKind.i64.wrap ((e.Words.length:Int)+(e.Kids.length:Int))+(e.Ops.length:Int)) == 0)=(Zcd e && e.Ops.length == 0):=by
  unfold Zcd
  rw [Qh (x:=(e.Words.length:Int)+(e.Kids.length:Int)) (by omega) (by omega),Qh (by omega) (by omega),Bool.eq_iff_iff,Bool.and_eq_true,Bool.and_eq_true,beq_iff_eq,beq_iff_eq,beq_iff_eq,beq_iff_eq]
  omega
 rw [e1]
 unfold Zfs Zax
 generalize Vc e.Old=p
 generalize Vc e.New=q
 generalize Zcd e=r
 generalize (e.List_ == 0)=s
 generalize (e.Ops.length == 0)=u
 generalize (e.Kind == 0)=v
 revert p q r s u v
 decide
def okW (p:Int) (w:Zv):Bool := !(((((decide (w.At≤p) || decide (65534 < w.At)) || w.Mask == 0) || !(wi w.Old w.Mask)) || !(wi w.New w.Mask)))
theorem Zwj {e:Ed} (h:BE e):Zm (Xx e) (-1,0)=some (if chk (·.At) okW (-1) e.Words=true then Sum.inr () else Sum.inl ()) :=
 Zpg e.Words (·.At) okW (Xx e) (.inl ()) (.inr ()) h.w (fun p i x hi hx hm=>by
  obtain ⟨h1,h2,h3⟩:=h.ws x hm
  unfold Xx
  simp only
  rw [Ub hi,cond_true,Yn hx,Option.bind_some,Zm3 h2.1 h2.2 h1.1 h1.2,Zm3 h3.1 h3.2 h1.1 h1.2]
  simp only [Option.bind_some]
  unfold okW
  generalize decide (x.At≤p)=q1
  generalize decide (65534 < x.At)=q2
  generalize (x.Mask == 0)=q3
  generalize wi x.Old x.Mask=q4
  generalize wi x.New x.Mask=q5
  cases q1 <;> cases q2 <;> cases q3 <;> cases q4 <;> cases q5 <;> rfl) (fun p=>by unfold Xx;simp only;rw [Ua];rfl) (-1)
theorem Kl {α S R σ:Type} (xs:List α) (mk:S→Int→σ) (f:S→α→S) (out:S→R) (I:S→Prop) (step:σ→Option (σ ⊕ R)) (hl:(xs.length:Int)≤140737488355328)
  (h1:∀ (s:S) (i:Nat) (x:α),I s→i < xs.length→xs[i]? = some x→x∈xs→I (f s x)∧step (mk s (i:Int))=some (.inl (mk (f s x) (IntKind.i64.wrap ((i:Int)+1))))) (h2:∀ s,I s→step (mk s (xs.length:Int))=some (.inr (out s))) (s:S) (hs:I s):Zm step (mk s 0)=some (out (xs.foldl f s))∧I (xs.foldl f s):=by
 have key:∀ (ys:List α) (i:Nat) (s:S),I s→xs.drop i=ys→i≤xs.length→Zm step (mk s (i:Int))=some (out (ys.foldl f s))∧I (ys.foldl f s):=fun ys=>by
  induction ys with
  | nil =>
   intro i s hI h hi
   have:i=xs.length:=by
    have:=congrArg List.length h
    rw [List.length_drop,List.length_nil] at this
    omega
   subst this
   exact ⟨Yg (h2 s hI),hI⟩
  | cons x ys ih =>
   intro i s hI h hi
   have hx:xs[i]? = some x:=by
    have:=congrArg (fun l=>l[0]?) h
    simpa using this
   have hi':i < xs.length:=by
    rcases Nat.lt_or_ge i xs.length with h' | h'
    ·exact h'
    rw [List.getElem?_eq_none h'] at hx;cases hx
   obtain ⟨hI',hs⟩:=h1 s i x hI hi' hx (List.mem_of_getElem? hx)
   have hd:xs.drop (i+1)=ys:=by
    have:=congrArg List.tail h
    rwa [List.tail_drop,List.tail_cons] at this
   have e1:(i:Int)+1=((i+1:Nat):Int):=by omega
   rw [Qh (by omega) (by omega),e1] at hs
   rw [Ys hs]
   exact ih (i+1) (f s x) hI' hd (by omega)
 exact key xs 0 s hs rfl (Nat.zero_le _)
def thr (o:Zp):Int:=if o.Kind=0 then (if 1048576 < (if o.N < 0 then 0 else o.N) then 1048576 else (if o.N < 0 then 0 else o.N)) else if o.Kind=1∨o.Kind=2 then (o.L.length:Int) else if o.Kind=3 then 1 else 0
theorem Zsv {o:Zp} (h:o.L.length * 56≤140737488355328):0≤thr o∧thr o≤140737488355328:=by
 unfold thr
 repeat' split
 all_goals omega
def Zhi (x:Int):Int:=if 1048576 < x then 1048576 else x
def stI (s:Int×Int) (o:Zp):Int×Int:=(if o.Kind=2 then s.1 else Zhi (s.1+thr o),if o.Kind=1 then s.2 else Zhi (s.2+thr o))
def Sm (s:Int×Int):Prop:=(0≤s.1∧s.1≤1048576)∧(0≤s.2∧s.2≤1048576)
theorem Zsq {s:Int×Int} {o:Zp} (hs:Sm s) (h:o.L.length * 56≤140737488355328):Sm (stI s o):=by
 have:=Zsv h
 unfold Sm at hs ⊢
 unfold stI Zhi
 refine ⟨?_,?_⟩
 ·simp only
  split
  ·omega
  split <;> omega
 simp only
 split
 ·omega
 split <;> omega
def Zlo (o:Zp):Int:=if o.Kind=3 then 1 else IntKind.i64.wrap (o.N+(o.L.length:Int))
def stR (s:Int×Int) (o:Zp):Int×Int:=(Zhi (if o.Kind=2 then s.1 else IntKind.i64.wrap (s.1+Zlo o)),Zhi (if o.Kind=1 then s.2 else IntKind.i64.wrap (s.2+Zlo o)))
theorem Ztr {e:Ed} (h:BE e):X6 e=some (e.Ops.foldl stR (0,0)):=by
 obtain ⟨h1,_⟩:=Kl e.Ops (fun (s:Int×Int) i=>(s.1,s.2,i)) stR (fun s=>(s.1,s.2)) (fun _=>True) (X7 e) h.o (fun s i x hs hi hx hm=>by
  refine ⟨trivial,?_⟩
  have hc:∀ a b:Int,((cond (decide (1048576 < a)) (some 1048576) (some a)).bind fun (z10:Int)=>cond (decide (1048576 < b)) (some (z10,1048576)) (some (z10,b)))=some (Zhi a,Zhi b):=fun a b=>by
   unfold Zhi
   by_cases q1:1048576 < a <;> by_cases q2:1048576 < b <;> simp [q1,q2]
  unfold X7
  simp only
  rw [Ub hi,cond_true,Yn hx,Option.bind_some]
  have e1:cond (x.Kind == 3) (some 1) (some (IntKind.i64.wrap (x.N+(x.L.length:Int))))=some (Zlo x):=by
   unfold Zlo
   rw [Zw0]
   split <;> rfl
  rw [e1,Option.bind_some]
  have e2:cond (x.Kind != 2) (some (IntKind.i64.wrap (s.1+Zlo x))) (some s.1)=some (if x.Kind=2 then s.1 else IntKind.i64.wrap (s.1+Zlo x)):=by
   rw [Zot];split <;> rfl
  have e3:cond (x.Kind != 1) (some (IntKind.i64.wrap (s.2+Zlo x))) (some s.2)=some (if x.Kind=1 then s.2 else IntKind.i64.wrap (s.2+Zlo x)):=by
   rw [Zot];split <;> rfl
  rw [e2,Option.bind_some,e3,Option.bind_some,hc]
  rfl) (fun s _=>by unfold X7;simp only;rw [Ua];rfl) (0,0) trivial
 unfold X6
 rw [h1]
 rfl
def Zw2 (l:Int) (e:Ed):Bool:=if l=8 then e.Kind != 0 else if l=9 then e.Kind == 2 || (e.Kind == 1 && (e.Old.Kind == 1 && e.New.Kind == 1)) else false
def okO (l:Int) (o:Zp) (r:Bool):Bool :=
 if o.Kind=0 then (decide (1≤o.N) && decide (o.N≤1048576)) && (o.L.length == 0 && Uo o.E)
 else if o.Kind=1∨o.Kind=2 then o.N == 0 && (decide (0 < o.L.length) && ((o.L.all fun t=>rt t 63 && okk l t) && Uo o.E))
 else if o.Kind=3 then o.N == 0 && (o.L.length == 0 && (o.E.Kind != 0 && (Zw2 l o.E && r)))
 else false
def Zj8 (s:Int×Int):Bool:=decide (s.1 < 1048576) && decide (s.2 < 1048576)
theorem Z3f {l:Int} {o:Zp} {r:Bool} (h:okO l o r=true):o.N+(o.L.length:Int)=(if o.Kind=3 then 0 else thr o)∧0≤thr o:=by
 unfold okO at h
 unfold thr
 by_cases h0:o.Kind=0
 ·rw [if_pos h0] at h
  simp only [Bool.and_eq_true,decide_eq_true_eq,beq_iff_eq] at h
  simp only [h0,if_pos]
  refine ⟨?_,?_⟩
  ·rw [if_neg (by decide)]
   repeat' split
   all_goals omega
  repeat' split
  all_goals omega
 rw [if_neg h0] at h
 by_cases h12:o.Kind=1∨o.Kind=2
 ·rw [if_pos h12] at h
  simp only [Bool.and_eq_true,beq_iff_eq] at h
  rw [if_neg h0,if_pos h12,if_neg (by omega)]
  omega
 rw [if_neg h12] at h
 by_cases h3:o.Kind=3
 ·rw [if_pos h3] at h
  simp only [Bool.and_eq_true,beq_iff_eq] at h
  rw [if_neg h0,if_neg h12,if_pos h3,if_pos h3]
  omega
 rw [if_neg h3] at h
 cases h
theorem Z1i {l:Int} {o:Zp} {r:Bool} {s:Int×Int} (h:okO l o r=true) (hs:Sm s) (hl:o.L.length * 56≤140737488355328):stR s o=stI s o:=by
 have ht:=Zsv hl
 have hk:=Z3f h
 have hi:Zlo o=thr o:=by
  unfold Zlo
  by_cases h3:o.Kind=3
  ·rw [if_pos h3]
   unfold thr
   rw [if_neg (by omega),if_neg (by omega),if_pos h3]
  rw [if_neg h3] at hk ⊢
  rw [Qh (by omega) (by omega)]
  exact hk.1
 unfold Sm at hs
 unfold stR stI
 rw [hi,Qh (by omega) (by omega),Qh (by omega) (by omega)]
 have hc:∀ x:Int,x≤1048576→Zhi x=x:=fun x hx=>by unfold Zhi;rw [if_neg (by omega)]
 refine Prod.ext ?_ ?_
 ·simp only
  split
  ·exact hc _ hs.1.2
  rfl
 simp only
 split
 ·exact hc _ hs.2.2
 rfl
theorem Zl6 {l:Int} (r:Zp→Bool):∀ (os:List Zp) (s:Int×Int),Sm s→(∀ o∈os,okO l o (r o)=true)→(∀ o∈os,o.L.length * 56≤140737488355328)→os.foldl stR s=os.foldl stI s∧Sm (os.foldl stI s)
 | [],s,hs,_,_=>⟨rfl,hs⟩
 | o::os,s,hs,h,hl=>by
  have h1:=Z1i (h o (.head _)) hs (hl o (.head _))
  have:=Zl6 r os (stI s o) (Zsq hs (hl o (.head _))) (fun x hx=>h x (.tail _ hx)) (fun x hx=>hl x (.tail _ hx))
  rw [List.foldl_cons,List.foldl_cons,h1]
  exact this
theorem Zs7:∀ (os:List Zp) (s:Int×Int),Sm s→(∀ o∈os,o.L.length * 56≤140737488355328)→(s.1=1048576→(os.foldl stI s).1=1048576)∧(s.2=1048576→(os.foldl stI s).2=1048576)
 | [],s,_,_=>⟨id,id⟩
 | o::os,s,hs,hl=>by
  have ht:=Zsv (hl o (.head _))
  have:=Zs7 os (stI s o) (Zsq hs (hl o (.head _))) (fun x hx=>hl x (.tail _ hx))
  rw [List.foldl_cons]
  refine ⟨fun h=>this.1 ?_,fun h=>this.2 ?_⟩
  ·unfold stI Zhi
   simp only
   repeat' split
   all_goals omega
  unfold stI Zhi
  simp only
  repeat' split
  all_goals omega
def okP (p:Int) (x:Int×Bool):Bool := !(decide (x.1≤p) || decide (65534 < x.1)) && x.2
theorem Zs3 {α:Type} (g:α→Int×Bool):∀ (xs:List α) (p:Int),chk (·.1) okP p (xs.map g)=chk (fun x=>(g x).1) (fun p x=>okP p (g x)) p xs
 | [],_=>rfl
 | x::xs,p=>by rw [List.map_cons,chk,chk,Zs3 g xs]
def rE (e:Ed) (d:Nat):Bool :=
 if d=0 then false
 else if e.Kind=0 then Uo e
 else if e.Kind=1 then (Zcd e && Zax e) && ((rt e.Old 64 && e.Old.Kind != 10) && (rt e.New 64 && e.New.Kind != 10))
 else if e.Kind=2 then (Zfs e && Zax e) && (chk (·.At) okW (-1) e.Words && chk (·.1) okP (-1) (e.Kids.attach.map fun k=>(k.1.At,k.1.E.Kind != 0 && rE k.1.E (d - 1))))
 else if e.Kind=3 then (Zfs e && Zcd e) && ((decide (2≤e.List_) && decide (e.List_≤9)) && ((e.Ops.attach.map fun o=>okO e.List_ o.1 (rE o.1.E (d - 1))).all id && Zj8 (e.Ops.foldl stR (0,0))))
 else false
termination_by SizeOf.sizeOf e
decreasing_by
 ·exact J5 k.2
 exact Va o.2
def okK (d:Nat) (p:Int) (k:Zj):Bool:=okP p (k.At,k.E.Kind != 0 && rE k.E d)
theorem Zfu (e:Ed) (d:Nat):rE e d=if d=0 then false
 else if e.Kind=0 then Uo e
 else if e.Kind=1 then (Zcd e && Zax e) && ((rt e.Old 64 && e.Old.Kind != 10) && (rt e.New 64 && e.New.Kind != 10))
 else if e.Kind=2 then (Zfs e && Zax e) && (chk (·.At) okW (-1) e.Words && chk (·.At) (okK (d - 1)) (-1) e.Kids)
 else if e.Kind=3 then (Zfs e && Zcd e) && ((decide (2≤e.List_) && decide (e.List_≤9)) && ((e.Ops.all fun o=>okO e.List_ o (rE o.E (d - 1))) && Zj8 (e.Ops.foldl stR (0,0))))
 else false:=by
 rw [rE]
 have h1:(e.Kids.attach.map fun k=>(k.1.At,k.1.E.Kind != 0 && rE k.1.E (d - 1)))=e.Kids.map fun k=>(k.At,k.E.Kind != 0 && rE k.E (d - 1)):=List.attach_map_val (f:=fun k:Zj=>(k.At,k.E.Kind != 0 && rE k.E (d - 1)))
 have h2:(e.Ops.attach.map fun o=>okO e.List_ o.1 (rE o.1.E (d - 1)))=e.Ops.map fun o=>okO e.List_ o (rE o.E (d - 1)):=List.attach_map_val (f:=fun o:Zp=>okO e.List_ o (rE o.E (d - 1)))
 rw [h1,h2,Zs3,List.all_map]
 rfl
theorem Z03 {n:Nat}:decide (0 < (n:Int)) = !(n == 0):=by rw [Bool.eq_iff_iff,Bool.not_eq_true',decide_eq_true_eq,beq_eq_false_iff_ne];omega
theorem Zxe {n:Nat}:decide (0 < n) = !(n == 0):=by rw [Bool.eq_iff_iff,Bool.not_eq_true',decide_eq_true_eq,beq_eq_false_iff_ne];omega
theorem Z4a {l:Int} {L:List Tr} (h2:2≤l) (h9:l≤9):rt ⟨l,[],L⟩ 64=(decide (L.length < 1048576) && L.all fun t=>rt t 63 && okk l t):=by
 rw [Zd7]
 simp only
 rw [if_neg (by omega),if_neg (by omega)]
 by_cases h:L.length < 1048576
 ·rw [if_neg (by simp only [List.length_nil];omega),decide_eq_true h,Bool.true_and]
 rw [if_pos (by omega),decide_eq_false h,Bool.false_and]
def BO (o:Zp):Prop:=(o.L.length * 56≤140737488355328∧∀ t∈o.L,Bd t)∧BE o.E
theorem Z3v {l:Int} {L:List Tr} (h:L.length * 56≤140737488355328∧∀ t∈L,Bd t):Bd ⟨l,[],L⟩ := .mk _ (by simp) (by simp only;omega) (fun w hw=>by simp at hw) h.2
theorem Z1m {α:Type} {l:List α} {i:Nat} {x:α} (hx:l[i]? = some x) (hl:(l.length:Int)≤140737488355328):Zbd l (i:Int) (IntKind.i64.wrap ((i:Int)+1))=some [x]:=by
 have hi:i < l.length:=by
  rcases Nat.lt_or_ge i l.length with h' | h'
  ·exact h'
  rw [List.getElem?_eq_none h'] at hx;cases hx
 rw [Qh (by omega) (by omega)]
 unfold Zbd
 rw [if_pos (by omega)]
 have e1:((i:Int)+1 - (i:Int)).toNat=1:=by omega
 rw [e1,Int.toNat_natCast,List.drop_eq_getElem_cons hi,List.take_succ_cons,List.take_zero]
 rw [List.getElem?_eq_getElem hi] at hx
 rw [Option.some.inj hx]
theorem Zs4:∀ (k:Nat),(∀ (e:Ed) (d:Nat),BE e→2 * SizeOf.sizeOf e < k→d≤64→(Zw k).1 e (d:Int)=some (rE e d)) ∧
  (∀ (l:Int) (o:Zp) (d:Nat),2≤l→l≤9→BO o→2 * SizeOf.sizeOf o.E+1 < k→d≤64→(Zw k).2 l o (d:Int)=some (okO l o (rE o.E d)))
 | 0=>⟨fun e d _ h=>by omega,fun l o d _ _ _ h=>by omega⟩
 | k+1=>by
  obtain ⟨i1,i2⟩:=Zs4 k
  refine ⟨fun e d hb hk hd => ?_,fun l o d h2 h9 hb hk hd => ?_⟩
  ·show Jn (Zw k).1 (Zw k).2 e (d:Int)=_
   unfold Jn
   rw [Zfu,Zi7 hb.old,Zi7 hb.new,Z3m hb,Z3d,Zwj hb,Ztr hb]
   by_cases hd0:d=0
   ·subst hd0
    rw [if_pos rfl]
    rfl
   have ed:((d:Int) == 0)=false:=by rw [beq_eq_false_iff_ne];omega
   rw [if_neg hd0,ed,cond_false]
   obtain ⟨d',rfl⟩:∃ d',d=d'+1:=⟨d - 1,by omega⟩
   have ed':IntKind.i64.wrap (((d'+1:Nat):Int) - 1)=(d':Int):=by rw [Qh (by omega) (by omega)];omega
   by_cases hbad:e.Kind < 0∨3 < e.Kind
   ·have q:cond (decide (e.Kind < 0)) true (decide (3 < e.Kind))=true:=by
     rcases hbad with h | h
     ·rw [decide_eq_true h];rfl
     rw [decide_eq_true h];cases decide (e.Kind < 0) <;> rfl
    rw [q,cond_true,if_neg (by omega),if_neg (by omega),if_neg (by omega),if_neg (by omega)]
   have q:cond (decide (e.Kind < 0)) true (decide (3 < e.Kind))=false:=by
    rw [decide_eq_false (by omega),decide_eq_false (by omega)]
    rfl
   rw [q,cond_false]
   simp only [Option.bind_some]
   have hkids:Zm (Xy (Zw k).1 e ((d'+1:Nat):Int)) (-1,0)=some (if chk (·.At) (okK d') (-1) e.Kids=true then Sum.inr () else Sum.inl ()) :=
    Zpg e.Kids (·.At) (okK d') (Xy (Zw k).1 e ((d'+1:Nat):Int)) (.inl ()) (.inr ()) hb.k (fun p i x hi hx hm=>by
     unfold Xy
     simp only
     rw [Ub hi,cond_true,Yn hx,Option.bind_some,ed',i1 x.E d' (hb.ks x hm) (by have:=J5 hm;omega) (by omega)]
     simp only [Option.bind_some]
     unfold okK okP bne
     simp only
     generalize decide (x.At≤p)=q1
     generalize decide (65534 < x.At)=q2
     generalize (x.E.Kind == 0)=q3
     generalize rE x.E d'=q4
     cases q1 <;> cases q2 <;> cases q3 <;> cases q4 <;> rfl) (fun p=>by unfold Xy;simp only;rw [Ua];rfl) (-1)
   have hnil:e.Ops=[]→Zm (Xe (Zw k).2 e ((d'+1:Nat):Int)) 0=some (Sum.inr ()):=fun h=>Yg (by
    unfold Xe
    rw [h]
    rfl)
   have wk_nil:Zcd e=true→e.Words=[]∧e.Kids=[]:=fun h=>by
    unfold Zcd at h
    rw [Bool.and_eq_true,beq_iff_eq,beq_iff_eq] at h
    exact ⟨List.eq_nil_of_length_eq_zero h.1,List.eq_nil_of_length_eq_zero h.2⟩
   have lo_nil:Zax e=true→e.List_=0∧e.Ops=[]:=fun h=>by
    unfold Zax at h
    rw [Bool.and_eq_true,beq_iff_eq,beq_iff_eq] at h
    exact ⟨h.1,List.eq_nil_of_length_eq_zero h.2⟩
   rw [Nat.add_sub_cancel]
   by_cases h0:e.Kind=0
   ·rw [if_pos h0]
    unfold Uo Zfs
    rw [h0]
    cases hwk:Zcd e with
    | false=>cases Vc e.Old <;> cases Vc e.New <;> cases Zax e <;> rfl
    | true =>
     cases hlo:Zax e with
     | false=>cases Vc e.Old <;> cases Vc e.New <;> rfl
     | true =>
      obtain ⟨w0,k0⟩:=wk_nil hwk
      obtain ⟨l0,o0⟩:=lo_nil hlo
      rw [hkids,hnil o0,w0,k0,o0]
      cases Vc e.Old <;> cases Vc e.New <;> rfl
   rw [if_neg h0]
   by_cases h1:e.Kind=1
   ·have r1:=Zff hb.old (d:=64) (by decide)
    have r2:=Zff hb.new (d:=64) (by decide)
    rw [show ((64:Nat):Int)=64 from rfl] at r1 r2
    rw [if_pos h1,h1,r1,r2]
    simp only [Option.bind_some]
    generalize Zcd e=q1
    generalize Zax e=q2
    generalize rt e.Old 64=q3
    generalize rt e.New 64=q4
    generalize (e.Old.Kind != 10)=q5
    generalize (e.New.Kind != 10)=q6
    cases q1 <;> cases q2 <;> cases q3 <;> cases q4 <;> cases q5 <;> cases q6 <;> rfl
   rw [if_neg h1]
   by_cases h2:e.Kind=2
   ·rw [if_pos h2,h2]
    unfold Zfs
    cases hlo:Zax e with
    | false=>cases Vc e.Old <;> cases Vc e.New <;> rfl
    | true =>
     obtain ⟨l0,o0⟩:=lo_nil hlo
     rw [hkids,hnil o0,o0]
     generalize chk (·.At) okW (-1) e.Words=q1
     generalize chk (·.At) (okK d') (-1) e.Kids=q2
     cases Vc e.Old <;> cases Vc e.New <;> cases q1 <;> cases q2 <;> rfl
   have h3:e.Kind=3:=by omega
   rw [if_neg h2,if_pos h3,h3]
   unfold Zfs
   cases hwk:Zcd e with
   | false=>cases Vc e.Old <;> cases Vc e.New <;> rfl
   | true =>
    obtain ⟨w0,k0⟩:=wk_nil hwk
    rw [hkids,w0,k0]
    by_cases hl:2≤e.List_∧e.List_≤9
    ·have hops:Zm (Xe (Zw k).2 e ((d'+1:Nat):Int)) 0=some (if (e.Ops.all fun o=>okO e.List_ o (rE o.E d'))=true then Sum.inr () else Sum.inl ()) :=
      Zem e.Ops _ (fun o=>okO e.List_ o (rE o.E d')) (Sum.inl ():Unit ⊕ Unit) (Sum.inr ()) hb.o (fun i x hi hx hm=>by
       unfold Xe
       rw [Ub hi,cond_true,Yn hx,Option.bind_some,ed',i2 e.List_ x d' hl.1 hl.2 ⟨hb.l x hm,hb.os x hm⟩ (by have:=Va hm;omega) (by omega),Option.bind_some]
       cases okO e.List_ x (rE x.E d') <;> rfl) (by unfold Xe;rw [Ua];rfl)
     rw [hops,decide_eq_true hl.1,decide_eq_true hl.2,decide_eq_false (p:=e.List_ < 2) (by omega),decide_eq_false (p:=9 < e.List_) (by omega)]
     unfold Zj8
     generalize (e.Ops.all fun o=>okO e.List_ o (rE o.E d'))=q1
     generalize decide ((e.Ops.foldl stR (0,0)).1 < 1048576)=q2
     generalize decide ((e.Ops.foldl stR (0,0)).2 < 1048576)=q3
     cases Vc e.Old <;> cases Vc e.New <;> cases q1 <;> cases q2 <;> cases q3 <;> rfl
    have q:cond (decide (e.List_ < 2)) true (decide (9 < e.List_))=true:=by
     by_cases h:e.List_ < 2
     ·rw [decide_eq_true h];rfl
     rw [decide_eq_true (p:=9 < e.List_) (by omega)];cases decide (e.List_ < 2) <;> rfl
    have q':(decide (2≤e.List_) && decide (e.List_≤9))=false:=by rw [Bool.and_eq_false_iff,decide_eq_false_iff_not,decide_eq_false_iff_not];omega
    rw [q,q']
    cases Vc e.Old <;> cases Vc e.New <;> rfl
  show Kz (Zw k).1 (Zw k).2 l o (d:Int)=_
  have hlen:(o.L.length:Int)≤140737488355328:=by have:=hb.1.1;omega
  have hloop:Zm (Jo l o) 0=some (if (o.L.all fun t=>rt t 63 && okk l t)=true then Sum.inr () else Sum.inl ()) :=
   Zem o.L _ (fun t=>rt t 63 && okk l t) (Sum.inl ():Unit ⊕ Unit) (Sum.inr ()) hlen (fun i x hi hx hm=>by
    unfold Jo
    have hbx:Bd ⟨l,[],[x]⟩:=Z3v ⟨by simp,fun t ht=>by rw [List.mem_singleton.1 ht];exact hb.1.2 x hm⟩
    have r1:=Zff hbx (d:=64) (by decide)
    rw [show ((64:Nat):Int)=64 from rfl,Z4a h2 h9] at r1
    rw [Ub hi,cond_true,Z1m hx hlen,Option.bind_some,r1,Option.bind_some]
    simp only [List.all_cons,List.all_nil,Bool.and_true,List.length_singleton]
    cases rt x 63 && okk l x <;> rfl) (by unfold Jo;rw [Ua];rfl)
  unfold Kz okO
  rw [Zyl hb.2,i1 o.E d hb.2 (by omega) hd,hloop,Z02,Z03,Zxe]
  simp only [Option.bind_some]
  by_cases h0:o.Kind=0
  ·rw [if_pos h0,h0]
   generalize decide (1≤o.N)=q1
   generalize decide (o.N≤1048576)=q2
   generalize (o.L.length == 0)=q3
   generalize Uo o.E=q4
   cases q1 <;> cases q2 <;> cases q3 <;> cases q4 <;> rfl
  rw [if_neg h0,beq_eq_false_iff_ne.2 h0,cond_false]
  by_cases h12:o.Kind=1∨o.Kind=2
  ·rw [if_pos h12,decide_eq_false (p:=o.Kind < 0) (by omega),decide_eq_false (p:=3 < o.Kind) (by omega),decide_eq_true (p:=o.Kind < 3) (by omega)]
   unfold bne
   generalize (o.N == 0)=q1
   generalize (o.L.length == 0)=q2
   generalize (o.L.all fun t=>rt t 63 && okk l t)=q3
   generalize Uo o.E=q4
   cases q1 <;> cases q2 <;> cases q3 <;> cases q4 <;> rfl
  rw [if_neg h12]
  by_cases h3:o.Kind=3
  ·rw [if_pos h3,h3]
   unfold bne Zw2
   by_cases k0:o.E.Kind=0
   ·rw [k0]
    generalize (o.N == 0)=q1
    generalize (o.L.length == 0)=q2
    cases q1 <;> cases q2 <;> rfl
   rw [beq_eq_false_iff_ne.2 k0]
   by_cases l8:l=8
   ·rw [if_pos l8,l8]
    unfold bne
    rw [beq_eq_false_iff_ne.2 k0]
    generalize (o.N == 0)=q1
    generalize (o.L.length == 0)=q2
    generalize rE o.E d=q3
    cases q1 <;> cases q2 <;> cases q3 <;> rfl
   rw [if_neg l8]
   by_cases l9:l=9
   ·rw [if_pos l9,l9]
    generalize (o.N == 0)=q1
    generalize (o.L.length == 0)=q2
    generalize rE o.E d=q3
    generalize (o.E.Kind == 2)=q4
    generalize (o.E.Kind == 1)=q5
    generalize (o.E.Old.Kind == 1)=q6
    generalize (o.E.New.Kind == 1)=q7
    cases q1 <;> cases q2 <;> cases q3 <;> cases q4 <;> cases q5 <;> cases q6 <;> cases q7 <;> rfl
   rw [if_neg l9,decide_eq_true (p:=l≤7) (by omega)]
   generalize (o.N == 0)=q1
   generalize (o.L.length == 0)=q2
   cases q1 <;> cases q2 <;> rfl
  rw [if_neg h3]
  have q:cond (cond (o.N != 0) true (decide (o.Kind < 0))) true (decide (3 < o.Kind))=true:=by
   by_cases h:o.Kind < 0
   ·rw [decide_eq_true h];cases o.N != 0 <;> rfl
   rw [decide_eq_true (p:=3 < o.Kind) (by omega)];cases cond (o.N != 0) true (decide (o.Kind < 0)) <;> rfl
  rw [q]
  rfl
theorem Z0w {e:Ed} (h:BE e) {d:Nat} (hd:d≤64):Ud e (d:Int)=some (rE e d):=Zav (2 * SizeOf.sizeOf e+1) fun k hk=>(Zs4 k).1 e d h (by omega) hd
def ce (e:Ed):Nat:=1+e.Words.length+e.Ops.length+(e.Kids.attach.map fun k=>ce k.1.E).sum+(e.Ops.attach.map fun o=>ce o.1.E).sum
termination_by SizeOf.sizeOf e
decreasing_by
 ·exact J5 k.2
 exact Va o.2
theorem Zos (e:Ed):ce e=1+e.Words.length+e.Ops.length+(e.Kids.map fun k=>ce k.E).sum+(e.Ops.map fun o=>ce o.E).sum:=by
 rw [ce]
 have h1:(e.Kids.attach.map fun k=>ce k.1.E)=e.Kids.map fun k=>ce k.E:=List.attach_map_val (f:=fun k:Zj=>ce k.E)
 have h2:(e.Ops.attach.map fun o=>ce o.1.E)=e.Ops.map fun o=>ce o.E:=List.attach_map_val (f:=fun o:Zp=>ce o.E)
 rw [h1,h2]
theorem Znn:∀ (k:Nat) (e:Ed) (d left:Int),BE e→SizeOf.sizeOf e < k→0≤d→d≤100→0≤left→left≤1000000→∃ r,Zu k e d left=some r∧-1≤r∧r≤1000000∧(0≤r→r+(ce e:Nat)≤left)
 | 0,e,_,_,_,h,_,_,_,_=>by omega
 | k+1,e,d,left,hb,hk,hd0,hd1,hl0,hl1=>by
  have hw:=hb.w
  have ho:=hb.o
  show ∃ r,Y1 (Zu k) e d left=some r∧_
  unfold Y1
  rw [Qh (x:=left - 1) (by omega) (by omega),Qh (x:=left - 1 - (e.Words.length:Int)) (by omega) (by omega),Qh (by omega) (by omega),Zos]
  cases hc:cond (d == 0) true (decide (left - 1 - (e.Words.length:Int) - (e.Ops.length:Int) < 0)) with
  | true=>exact ⟨-1,rfl,by omega,by omega,fun h=>by omega⟩
  | false =>
   rw [cond_false]
   have hd:¬ d=0∧0≤left - 1 - (e.Words.length:Int) - (e.Ops.length:Int):=by
    by_cases h:d=0
    ·simp [h] at hc
    have e:(d == 0)=false:=by simp [h]
    rw [e,cond_false,decide_eq_false_iff_not] at hc
    exact ⟨h,by omega⟩
   obtain ⟨r1,g1,g2,g3,g4⟩:=Zfh hb.old hd.2 (by omega)
   have hz:∃ z,cond (decide (0≤r1)) ((Xm e.New 80 r1).bind fun y4=>some y4) (some r1)=some z∧-1≤z∧z≤1000000∧(0≤z→z≤left - 1 - (e.Words.length:Int) - (e.Ops.length:Int)):=by
    by_cases h:0≤r1
    ·obtain ⟨r2,f1,f2,f3,f4⟩:=Zfh hb.new h g3
     refine ⟨r2,by rw [decide_eq_true h,f1];rfl,f2,f3,fun h2 => ?_⟩
     have:=f4 h2
     have:=g4 h
     omega
    exact ⟨r1,by rw [decide_eq_false h];rfl,g2,g3,fun h2=>absurd h2 h⟩
   obtain ⟨z,z1,z2,z3,z4⟩:=hz
   rw [g1,Option.bind_some,z1,Option.bind_some]
   obtain ⟨r,h1,h2⟩:=Kx (step:=Yo (Zu k) e d)
    (fun s=>∃ j:Nat,s.2=j∧j≤e.Kids.length∧-1≤s.1∧s.1≤1000000∧(0≤s.1→s.1+((((e.Kids.take j).map fun k=>ce k.E)).sum:Nat)≤left - 1 - (e.Words.length:Int) - (e.Ops.length:Int)))
    (fun s=>e.Kids.length - s.2.toNat) (fun r=>-1≤r∧r≤1000000∧(0≤r→r+((e.Kids.map fun k=>ce k.E).sum:Nat)≤left - 1 - (e.Words.length:Int) - (e.Ops.length:Int))) (fun s hI=>by
     obtain ⟨l,i⟩:=s
     obtain ⟨j,rfl,hj,g1,g2,g3⟩:=hI
     have hkl:=hb.k
     simp only at g1 g2 g3 ⊢
     unfold Yo
     simp only
     by_cases hji:j < e.Kids.length
     ·rw [Ub hji,cond_true]
      by_cases hl:0≤l
      ·have e1:decide (0≤l)=true:=by simp [hl]
       have hx:e.Kids[j]? = some e.Kids[j]:=List.getElem?_eq_getElem hji
       have hm:e.Kids[j]∈e.Kids:=List.getElem_mem hji
       obtain ⟨r,q1,q2,q3,q4⟩:=Znn k e.Kids[j].E (d - 1) l (hb.ks _ hm) (by have:=J5 hm;omega) (by omega) (by omega) hl g2
       rw [e1,cond_true,Yn hx,Option.bind_some,Qh (x:=d - 1) (by omega) (by omega),q1,Option.bind_some,Qh (by omega) (by omega)]
       refine .inl ⟨_,rfl,⟨j+1,by simp only;omega,by omega,q2,q3,fun hr => ?_⟩,by simp only;omega⟩
       have:=q4 hr
       have:=g3 hl
       rw [List.take_add_one,hx]
       simp only [Option.toList_some,List.map_append,List.map_cons,List.map_nil,List.sum_append,List.sum_cons,List.sum_nil]
       simp only at hr
       omega
      have e1:decide (0≤l)=false:=by simp [hl]
      rw [e1,cond_false]
      exact .inr ⟨l,rfl,g1,g2,fun h=>absurd h hl⟩
     have hj':j=e.Kids.length:=by omega
     subst hj'
     rw [Ua,cond_false]
     rw [List.take_length] at g3
     exact .inr ⟨l,rfl,g1,g2,g3⟩) (z,0) ⟨0,rfl,Nat.zero_le _,z2,z3,fun h=>by simpa using z4 h⟩
   rw [h1,Option.bind_some]
   have inner:∀ (j:Nat) (hj:j < e.Ops.length) (l:Int),0≤l→l≤1000000→∃ r,Zm (Y6 e (l,(j:Int))) (l,0)=some r∧-1≤r∧r≤1000000∧r≤l:=fun j hj l hl hl'=>by
    have hx:e.Ops[j]? = some e.Ops[j]:=List.getElem?_eq_getElem hj
    have hm:e.Ops[j]∈e.Ops:=List.getElem_mem hj
    have hL:=(hb.l _ hm).1
    obtain ⟨r,h1,h2⟩:=Kx (step:=Y6 e (l,(j:Int)))
     (fun s=>∃ i:Nat,s.2=i∧i≤e.Ops[j].L.length∧-1≤s.1∧s.1≤1000000∧s.1≤l)
     (fun s=>e.Ops[j].L.length - s.2.toNat) (fun r=>-1≤r∧r≤1000000∧r≤l) (fun s hI=>by
      obtain ⟨l',i'⟩:=s
      obtain ⟨i,rfl,hi,g1,g2,g3⟩:=hI
      simp only at g1 g2 g3 ⊢
      unfold Y6
      simp only
      rw [Yn hx,Option.bind_some,Option.bind_some]
      by_cases hii:i < e.Ops[j].L.length
      ·rw [Ub hii,cond_true]
       by_cases hl2:0≤l'
       ·have e1:decide (0≤l')=true:=by simp [hl2]
        have hx2:e.Ops[j].L[i]? = some e.Ops[j].L[i]:=List.getElem?_eq_getElem hii
        have hm2:e.Ops[j].L[i]∈e.Ops[j].L:=List.getElem_mem hii
        obtain ⟨r,q1,q2,q3,q4⟩:=Zfh ((hb.l _ hm).2 _ hm2) hl2 g2
        rw [e1,cond_true,Yn hx2,Option.bind_some,q1,Option.bind_some,Qh (by omega) (by omega)]
        refine .inl ⟨_,rfl,⟨i+1,by simp only;omega,by omega,q2,q3,?_⟩,by simp only;omega⟩
        simp only
        by_cases hr:0≤r
        ·have:=q4 hr;omega
        omega
       have e1:decide (0≤l')=false:=by simp [hl2]
       rw [e1,cond_false]
       exact .inr ⟨l',rfl,g1,g2,g3⟩
      have hi':i=e.Ops[j].L.length:=by omega
      subst hi'
      rw [Ua,cond_false]
      exact .inr ⟨l',rfl,g1,g2,g3⟩) (l,0) ⟨0,rfl,Nat.zero_le _,by simp only;omega,by simp only;omega,by simp only;omega⟩
    exact ⟨r,h1,h2⟩
   obtain ⟨r',h1',h2'⟩:=Kx (step:=Yp (Zu k) e d)
    (fun s=>∃ j:Nat,s.2=j∧j≤e.Ops.length∧-1≤s.1∧s.1≤1000000∧(0≤s.1→0≤r∧s.1+((((e.Ops.take j).map fun o=>ce o.E)).sum:Nat)≤r))
    (fun s=>e.Ops.length - s.2.toNat) (fun q=>-1≤q∧q≤1000000∧(0≤q→0≤r∧q+((e.Ops.map fun o=>ce o.E).sum:Nat)≤r)) (fun s hI=>by
     obtain ⟨l,i⟩:=s
     obtain ⟨j,rfl,hj,g1,g2,g3⟩:=hI
     simp only at g1 g2 g3 ⊢
     unfold Yp
     simp only
     by_cases hji:j < e.Ops.length
     ·rw [Ub hji,cond_true]
      by_cases hl:0≤l
      ·have e1:decide (0≤l)=true:=by simp [hl]
       have hx:e.Ops[j]? = some e.Ops[j]:=List.getElem?_eq_getElem hji
       have hm:e.Ops[j]∈e.Ops:=List.getElem_mem hji
       obtain ⟨t,t1,t2,t3,t4⟩:=inner j hji l hl g2
       rw [e1,cond_true,t1,Option.bind_some,Qh (x:=(j:Int)+1) (by omega) (by omega)]
       by_cases ht:0≤t
       ·obtain ⟨r,q1,q2,q3,q4⟩:=Znn k e.Ops[j].E (d - 1) t (hb.os _ hm) (by have:=Va hm;omega) (by omega) (by omega) ht t3
        rw [decide_eq_true ht,cond_true,Yn hx,Option.bind_some,Qh (x:=d - 1) (by omega) (by omega),q1]
        refine .inl ⟨_,rfl,⟨j+1,by simp only;omega,by omega,q2,q3,fun hr => ?_⟩,by simp only;omega⟩
        have:=q4 hr
        have:=g3 hl
        rw [List.take_add_one,hx]
        simp only [Option.toList_some,List.map_append,List.map_cons,List.map_nil,List.sum_append,List.sum_cons,List.sum_nil]
        simp only at hr
        omega
       rw [decide_eq_false ht]
       exact .inl ⟨_,rfl,⟨j+1,by simp only;omega,by omega,t2,t3,fun hr=>absurd hr ht⟩,by simp only;omega⟩
      have e1:decide (0≤l)=false:=by simp [hl]
      rw [e1,cond_false]
      exact .inr ⟨l,rfl,g1,g2,fun h=>absurd h hl⟩
     have hj':j=e.Ops.length:=by omega
     subst hj'
     rw [Ua,cond_false]
     rw [List.take_length] at g3
     exact .inr ⟨l,rfl,g1,g2,g3⟩) (r,0) ⟨0,rfl,Nat.zero_le _,h2.1,h2.2.1,fun h=>⟨h,by simp⟩⟩
   rw [h1']
   refine ⟨r',rfl,h2'.1,h2'.2.1,fun hr => ?_⟩
   have p1:=h2'.2.2 hr
   have p2:=h2.2.2 p1.1
   omega
theorem Zfd:∀ (k k':Nat) (e:Ed) (d left:Int),SizeOf.sizeOf e < k→SizeOf.sizeOf e < k'→Zu k e d left=Zu k' e d left
 | 0,_,e,_,_,h,_=>by omega
 | k+1,0,e,_,_,_,h=>by omega
 | k+1,k'+1,e,d,left,h,h'=>by
  show Y1 (Zu k) e d left=Y1 (Zu k') e d left
  have e1:Yo (Zu k) e d=Yo (Zu k') e d:=funext fun s=>by
   unfold Yo
   cases hx:Xw e.Kids s.2 with
   | none=>rfl
   | some x=>simp only [Option.bind_some,Zfd k k' x.E (IntKind.i64.wrap (d - 1)) s.1 (by have:=J5 (Zc3 hx);omega) (by have:=J5 (Zc3 hx);omega)]
  have e2:Yp (Zu k) e d=Yp (Zu k') e d:=funext fun s=>by
   unfold Yp
   cases hx:Xw e.Ops s.2 with
   | none=>rfl
   | some x=>
    have:∀ z,Zu k x.E (IntKind.i64.wrap (d - 1)) z=Zu k' x.E (IntKind.i64.wrap (d - 1)) z:=fun z=>Zfd k k' x.E _ z (by have:=Va (Zc3 hx);omega) (by have:=Va (Zc3 hx);omega)
    simp only [Option.bind_some,this]
  unfold Y1
  rw [e1,e2]
theorem Z3z {e:Ed} (h:BE e):∃ b,Qt e=some b∧(b=true→ce e≤3000):=by
 obtain ⟨r,h1,h2,h3,h4⟩:=Znn (SizeOf.sizeOf e+1) e 80 3000 h (by omega) (by omega) (by omega) (by omega) (by omega)
 have hr:Vb e 80 3000=some r:=Zav (SizeOf.sizeOf e+1) fun k hk=>by rw [Zfd k (SizeOf.sizeOf e+1) e 80 3000 (by omega) (by omega)];exact h1
 unfold Qt
 rw [hr,Option.bind_some]
 refine ⟨_,rfl,fun hb => ?_⟩
 have:=h4 (by simpa using hb)
 have:0≤r:=by simpa using hb
 omega
theorem Zuj {e:Ed} (hb:BE e) {d:Nat} (h:rE e d=true):e.Ops.foldl stR (0,0)=e.Ops.foldl stI (0,0):=by
 have h0:Sm (0,0):=by unfold Sm;simp
 have hnil:Zax e=true→e.Ops.foldl stR (0,0)=e.Ops.foldl stI (0,0):=fun h=>by
  unfold Zax at h
  rw [Bool.and_eq_true,beq_iff_eq,beq_iff_eq] at h
  rw [List.eq_nil_of_length_eq_zero h.2]
  rfl
 rw [Zfu] at h
 split at h
 ·cases h
 split at h
 ·unfold Uo at h
  simp only [Bool.and_eq_true] at h
  exact hnil h.2.2.2
 split at h
 ·simp only [Bool.and_eq_true] at h
  exact hnil h.1.2
 split at h
 ·simp only [Bool.and_eq_true] at h
  exact hnil h.1.2
 split at h
 ·simp only [Bool.and_eq_true] at h
  exact (Zl6 (fun o=>rE o.E (d - 1)) e.Ops (0,0) h0 (List.all_eq_true.1 h.2.2.1) (fun o ho=>(hb.l o ho).1)).1
 cases h
theorem Zdr {α:Type} {pl:α→Int} {ok:Int→α→Bool} {Q:α→Prop} (h:∀ p x,ok p x=true→Q x):∀ (xs:List α) (p:Int),chk pl ok p xs=true→∀ x∈xs,Q x
 | [],_,_=>fun x hx=>by cases hx
 | y::xs,p,hc=>fun x hx=>by
  rw [chk,Bool.and_eq_true] at hc
  rcases List.mem_cons.1 hx with rfl | hx
  ·exact h p _ hc.1
  exact Zdr h xs (pl y) hc.2 x hx
abbrev EO:=Zp
def n0T:Tr:=⟨0,[],[]⟩
def eS0:Ed:=⟨0,⟨0,[],[]⟩,⟨0,[],[]⟩,[],[],0,[]⟩
theorem Zxl {α β:Type} (xs:List α) (f:α→β) (step:Int×List β→Option ((Int×List β) ⊕ List β)) (acc:List β) (hl:(xs.length:Int)≤140737488355328)
  (h1:∀ (i:Nat) (x:α) (out:List β),i < xs.length→xs[i]? = some x→x∈xs→out.length=acc.length+i→step ((i:Int),out)=some (.inl (IntKind.i64.wrap ((i:Int)+1),out++[f x])))
  (h2:∀ out,step ((xs.length:Int),out)=some (.inr out)):Zm step (0,acc)=some (acc++xs.map f):=by
 have key:∀ m i,i+m=xs.length→Zm step ((i:Int),acc++(xs.take i).map f)=some (acc++xs.map f):=fun m=>by
  induction m with
  | zero =>
   intro i hi
   have hi':i=xs.length:=by omega
   subst hi'
   rw [List.take_length]
   exact Yg (h2 _)
  | succ m ih =>
   intro i hi
   have hx:xs[i]? = some xs[i]:=List.getElem?_eq_getElem (by omega)
   have h:=h1 i _ (acc++(xs.take i).map f) (by omega) hx (List.mem_of_getElem? hx) (by rw [List.length_append,List.length_map,List.length_take];omega)
   rw [Qh (by omega) (by omega)] at h
   rw [Ys h]
   have e:acc++(xs.take i).map f++[f xs[i]]=acc++(xs.take (i+1)).map f:=by
    rw [List.take_add_one,hx,List.map_append,List.append_assoc]
    rfl
   rw [e]
   exact ih (i+1) (by omega)
 have:=key xs.length 0 (by omega)
 simpa using this
def thN (o:EO):Nat:=if o.Kind=0 then o.N.toNat else if o.Kind=3 then 1 else o.L.length
def opk (o:EO):Prop:=(o.Kind=0∧1≤o.N)∨(o.Kind=1∧o.L≠[])∨(o.Kind=2∧o.L≠[])∨o.Kind=3
def Zdj (l:List EO):Nat:=(l.map thN).sum
inductive GN:Ed→Prop
 | mk (e:Ed) (hw:e.Words.length≤1048576) (hk:e.Kids.length≤1048576) (ho:e.Ops.length≤1048576) (hs:Zdj e.Ops≤1073741824) (hp:∀ o∈e.Ops,opk o) (ik:∀ k∈e.Kids,GN k.E) (io:∀ o∈e.Ops,GN o.E):GN e
theorem GN.w {e:Ed} (h:GN e):e.Words.length≤1048576:=by cases h;assumption
theorem GN.k {e:Ed} (h:GN e):e.Kids.length≤1048576:=by cases h;assumption
theorem GN.o {e:Ed} (h:GN e):e.Ops.length≤1048576:=by cases h;assumption
theorem GN.s {e:Ed} (h:GN e):Zdj e.Ops≤1073741824:=by cases h;assumption
theorem GN.ks {e:Ed} (h:GN e):∀ k∈e.Kids,GN k.E:=by cases h;assumption
theorem GN.os {e:Ed} (h:GN e):∀ o∈e.Ops,GN o.E:=by cases h;assumption
theorem Z0y {e:Ed} (h:Uo e=true):GN e:=by
 unfold Uo Zcd Zax at h
 simp only [Bool.and_eq_true,beq_iff_eq] at h
 obtain ⟨_,_,⟨h1,h2⟩,_,h3⟩:=h
 have w:=List.eq_nil_of_length_eq_zero h1
 have k:=List.eq_nil_of_length_eq_zero h2
 have o:=List.eq_nil_of_length_eq_zero h3
 exact .mk _ (by rw [w];simp) (by rw [k];simp) (by rw [o];simp) (by rw [o];simp [Zdj]) (by rw [o];simp) (by rw [k];simp) (by rw [o];simp)
theorem Z1o {l:Int} {o:EO} {r:Bool} (h:okO l o r=true):((thN o:Nat):Int)=thr o:=by
 unfold okO at h
 unfold thN thr
 by_cases h0:o.Kind=0
 ·rw [if_pos h0] at h
  simp only [Bool.and_eq_true,decide_eq_true_eq] at h
  rw [if_pos h0,if_pos h0]
  split <;> split at * <;> omega
 rw [if_neg h0] at h ⊢
 rw [if_neg h0]
 by_cases h12:o.Kind=1∨o.Kind=2
 ·rw [if_pos h12,if_neg (by omega)]
 rw [if_neg h12] at h ⊢
 by_cases h3:o.Kind=3
 ·rw [if_pos h3,if_pos h3];rfl
 rw [if_neg h3] at h;cases h
theorem Zi9 {l:Int} {o:EO} {r:Bool} (h:okO l o r=true):opk o:=by
 unfold okO at h
 unfold opk
 by_cases h0:o.Kind=0
 ·rw [if_pos h0] at h
  simp only [Bool.and_eq_true,decide_eq_true_eq] at h
  exact .inl ⟨h0,h.1.1⟩
 rw [if_neg h0] at h
 by_cases h12:o.Kind=1∨o.Kind=2
 ·rw [if_pos h12] at h
  simp only [Bool.and_eq_true,decide_eq_true_eq] at h
  have hne:o.L≠[]:=by
   intro he
   rw [he] at h
   simp at h
  rcases h12 with h1 | h2
  ·exact .inr (.inl ⟨h1,hne⟩)
  exact .inr (.inr (.inl ⟨h2,hne⟩))
 rw [if_neg h12] at h
 by_cases h3:o.Kind=3
 ·exact .inr (.inr (.inr h3))
 rw [if_neg h3] at h;cases h
theorem Zk2 {l:Int} (r:EO→Bool):∀ (os:List EO) (s:Int×Int),Sm s→(∀ o∈os,okO l o (r o)=true)→(∀ o∈os,o.L.length * 56≤140737488355328)→Zj8 (os.foldl stI s)=true→s.1+s.2+((Zdj os:Nat):Int)≤(os.foldl stI s).1+(os.foldl stI s).2
 | [],s,_,_,_,_=>by simp [Zdj]
 | o::os,s,hs,h,hl,hb=>by
  have hsm:=Zsq hs (hl o (.head _))
  have hup:=Zs7 os (stI s o) hsm (fun x hx=>hl x (.tail _ hx))
  have ih:=Zk2 r os (stI s o) hsm (fun x hx=>h x (.tail _ hx)) (fun x hx=>hl x (.tail _ hx)) hb
  have hso:Zdj (o::os)=thN o+Zdj os:=by unfold Zdj;simp
  have ht:=Z1o (h o (.head _))
  rw [List.foldl_cons] at hb ⊢
  unfold Zj8 at hb
  rw [Bool.and_eq_true,decide_eq_true_eq,decide_eq_true_eq] at hb
  have n1:(stI s o).1≠1048576:=fun he=>by have:=hup.1 he;omega
  have n2:(stI s o).2≠1048576:=fun he=>by have:=hup.2 he;omega
  have key:s.1+s.2+thr o≤(stI s o).1+(stI s o).2:=by
   have hth:0≤thr o:=by omega
   unfold stI Zhi at n1 n2 ⊢
   simp only at n1 n2 ⊢
   by_cases k2:o.Kind=2
   ·rw [if_neg (by omega:¬ o.Kind=1)] at n2 ⊢
    rw [if_pos k2]
    split at n2
    ·omega
    rename_i h5;rw [if_neg h5];omega
   rw [if_neg k2] at n1 ⊢
   split at n1
   ·omega
   rename_i h5
   rw [if_neg h5]
   by_cases k1:o.Kind=1
   ·rw [if_pos k1];omega
   rw [if_neg k1] at n2 ⊢
   split at n2
   ·omega
   rename_i h6;rw [if_neg h6];omega
  rw [hso]
  omega
theorem Zek {α:Type} {f:α→Nat} {x:α}:∀ {l:List α},x∈l→f x≤(l.map f).sum
 | y::l,h=>by
  rw [List.map_cons,List.sum_cons]
  rcases List.mem_cons.1 h with rfl | h
  ·omega
  have:=Zek (f:=f) h;omega
theorem Zj7 {α:Type} {f:α→Nat}:∀ {l:List α},(∀ x∈l,1≤f x)→l.length≤(l.map f).sum
 | [],_=>Nat.le_refl _
 | y::l,h=>by
  rw [List.map_cons,List.sum_cons,List.length_cons]
  have:=Zj7 (f:=f) (l:=l) fun x hx=>h x (by simp [hx])
  have:=h y (by simp)
  omega
theorem Zwy (e:Ed):1≤ce e:=by rw [Zos];omega
theorem Ztm:∀ (n:Nat) (e:Ed) (d:Nat),SizeOf.sizeOf e < n→BE e→ce e≤1000000→rE e d=true→GN e
 | 0,_,_,h,_,_,_=>by omega
 | n+1,e,d,hn,hb,hc,h=>by
  have hc':=hc
  rw [Zos] at hc'
  have hk1:e.Kids.length≤(e.Kids.map fun k=>ce k.E).sum:=Zj7 fun x _=>Zwy _
  have hlens:=Zuj hb h
  have hparts:(∀ k∈e.Kids,∃ d',rE k.E d'=true)∧(∀ o∈e.Ops,opk o∧(Uo o.E=true∨∃ d',rE o.E d'=true))∧Zdj e.Ops≤2097152:=by
   rw [Zfu] at h
   by_cases hd:d=0
   ·rw [if_pos hd] at h;cases h
   rw [if_neg hd] at h
   by_cases h0:e.Kind=0
   ·rw [if_pos h0] at h
    unfold Uo Zcd Zax at h
    simp only [Bool.and_eq_true,beq_iff_eq] at h
    obtain ⟨_,_,⟨h1,h2⟩,_,h3⟩:=h
    rw [List.eq_nil_of_length_eq_zero h2,List.eq_nil_of_length_eq_zero h3]
    simp [Zdj]
   rw [if_neg h0] at h
   by_cases h1:e.Kind=1
   ·rw [if_pos h1] at h
    unfold Zcd Zax at h
    simp only [Bool.and_eq_true,beq_iff_eq] at h
    rw [List.eq_nil_of_length_eq_zero h.1.1.2,List.eq_nil_of_length_eq_zero h.1.2.2]
    simp [Zdj]
   rw [if_neg h1] at h
   by_cases h2:e.Kind=2
   ·rw [if_pos h2] at h
    unfold Zax at h
    simp only [Bool.and_eq_true,beq_iff_eq] at h
    rw [List.eq_nil_of_length_eq_zero h.1.2.2]
    refine ⟨fun k hk=>⟨d - 1,?_⟩,by simp,by simp [Zdj]⟩
    exact Zdr (Q:=fun k:Zj=>rE k.E (d - 1)=true) (fun p x hx=>by
     unfold okK okP at hx
     simp only [Bool.and_eq_true] at hx
     exact hx.2.2) e.Kids (-1) h.2.2 k hk
   rw [if_neg h2] at h
   by_cases h3:e.Kind=3
   ·rw [if_pos h3] at h
    unfold Zcd at h
    rw [Bool.and_eq_true,Bool.and_eq_true,Bool.and_eq_true,Bool.and_eq_true,Bool.and_eq_true,Bool.and_eq_true,beq_iff_eq,beq_iff_eq,List.all_eq_true] at h
    obtain ⟨⟨_,_,hk⟩,_,hall,hB⟩:=h
    rw [List.eq_nil_of_length_eq_zero hk]
    refine ⟨by simp,fun o ho=>⟨Zi9 (hall o ho),?_⟩,?_⟩
    ·have:=hall o ho
     unfold okO at this
     by_cases k0:o.Kind=0
     ·rw [if_pos k0] at this
      simp only [Bool.and_eq_true] at this
      exact .inl this.2.2
     rw [if_neg k0] at this
     by_cases k12:o.Kind=1∨o.Kind=2
     ·rw [if_pos k12] at this
      simp only [Bool.and_eq_true] at this
      exact .inl this.2.2.2
     rw [if_neg k12] at this
     by_cases k3:o.Kind=3
     ·rw [if_pos k3] at this
      simp only [Bool.and_eq_true] at this
      exact .inr ⟨d - 1,this.2.2.2.2⟩
     rw [if_neg k3] at this;cases this
    rw [hlens] at hB
    have:=Zk2 (l:=e.List_) (fun o=>rE o.E (d - 1)) e.Ops (0,0) ⟨⟨by decide,by decide⟩,by decide,by decide⟩ hall (fun o ho=>(hb.l o ho).1) hB
    unfold Zj8 at hB
    rw [Bool.and_eq_true,decide_eq_true_eq,decide_eq_true_eq] at hB
    simp only at this
    omega
   rw [if_neg h3] at h;cases h
  refine .mk _ (by omega) (by omega) (by omega) (by omega) (fun o ho=>(hparts.2.1 o ho).1) (fun k hk => ?_) (fun o ho => ?_)
  ·obtain ⟨d',hd'⟩:=hparts.1 k hk
   have:=Zek (f:=fun k:Zj=>ce k.E) hk
   exact Ztm n k.E d' (by have:=J5 hk;omega) (hb.ks k hk) (by omega) hd'
  rcases (hparts.2.1 o ho).2 with hs | ⟨d',hd'⟩
  ·exact Z0y hs
  have:=Zek (f:=fun o:Zp=>ce o.E) ho
  exact Ztm n o.E d' (by have:=Va ho;omega) (hb.os o ho) (by omega) hd'
def lgt (e:Ed):Bool:=(!(decide (2000 < (e.Ops.foldl stR (0,0)).1) || decide (2000 < (e.Ops.foldl stR (0,0)).2))) && ((e.Kids.attach.map fun k=>lgt k.1.E).all id && (e.Ops.attach.map fun o=>lgt o.1.E).all id)
termination_by SizeOf.sizeOf e
decreasing_by
 ·exact J5 k.2
 exact Va o.2
theorem Z3c (e:Ed):lgt e=((!(decide (2000 < (e.Ops.foldl stR (0,0)).1) || decide (2000 < (e.Ops.foldl stR (0,0)).2))) && ((e.Kids.all fun k=>lgt k.E) && (e.Ops.all fun o=>lgt o.E))):=by
 have h1:(e.Kids.attach.map fun k=>lgt k.1.E)=e.Kids.map fun k=>lgt k.E:=List.attach_map_val (f:=fun k:Zj=>lgt k.E)
 have h2:(e.Ops.attach.map fun o=>lgt o.1.E)=e.Ops.map fun o=>lgt o.E:=List.attach_map_val (f:=fun o:EO=>lgt o.E)
 rw [lgt,h1,h2,List.all_map,List.all_map]
 rfl
theorem Zj9:∀ (k:Nat) (e:Ed),BE e→SizeOf.sizeOf e < k→Xr k e=some (lgt e)
 | 0,_,_,h=>by omega
 | k+1,e,hb,hk=>by
  show Jm (Xr k) e=_
  unfold Jm
  have l0:Zm (Qk (Xr k) e) 0=some (if (e.Kids.all fun x=>lgt x.E)=true then Sum.inr () else Sum.inl ()) :=
   Zem e.Kids _ (fun x=>lgt x.E) (Sum.inl ():Unit ⊕ Unit) (Sum.inr ()) hb.k (fun i x hi hx hm=>by
    unfold Qk
    rw [Ub hi,cond_true,Yn hx,Option.bind_some,Zj9 k x.E (hb.ks x hm) (by have:=J5 hm;omega),Option.bind_some]
    cases lgt x.E <;> rfl) (by unfold Qk;rw [Ua];rfl)
  have l1:Zm (Ql (Xr k) e) 0=some (if (e.Ops.all fun x=>lgt x.E)=true then Sum.inr () else Sum.inl ()) :=
   Zem e.Ops _ (fun x=>lgt x.E) (Sum.inl ():Unit ⊕ Unit) (Sum.inr ()) hb.o (fun i x hi hx hm=>by
    unfold Ql
    rw [Ub hi,cond_true,Yn hx,Option.bind_some,Zj9 k x.E (hb.os x hm) (by have:=Va hm;omega),Option.bind_some]
    cases lgt x.E <;> rfl) (by unfold Ql;rw [Ua];rfl)
  rw [Z3c,Ztr hb,Option.bind_some,l0,l1]
  generalize decide (2000 < (e.Ops.foldl stR (0,0)).1)=q1
  generalize decide (2000 < (e.Ops.foldl stR (0,0)).2)=q2
  generalize (e.Kids.all fun x=>lgt x.E)=q3
  generalize (e.Ops.all fun x=>lgt x.E)=q4
  cases q1 <;> cases q2 <;> cases q3 <;> cases q4 <;> rfl
theorem Zxh {e:Ed} (hb:BE e):Uc e=some (lgt e):=Zav (SizeOf.sizeOf e+1) fun k hk=>Zj9 k e hb (by omega)
theorem Z09 {k:Int} {t:Tr} (h:okk k t=true):okk k (nrm t)=true:=by
 unfold okk at h ⊢
 rw [Ju]
 split
 ·rename_i hk
  rw [if_pos hk,Bool.and_eq_true,beq_iff_eq] at h
  rw [Zc8 (by omega) (by omega),h.1]
  simp only [BEq.rfl,Bool.true_and]
  exact h.2
 rename_i hk
 rw [if_neg hk] at h
 exact h
theorem Zyi:∀ (n:Nat) (t:Tr) (d:Nat),SizeOf.sizeOf t < n→rt t d=true→rt (nrm t) d=true
 | 0,_,_,h,_=>by omega
 | n+1,t,d,hn,h=>by
  have hk:=Ju t
  by_cases h0:t.Kind=0
  ·rw [Zc9 h0,Zd7,if_pos rfl];rfl
  rw [Zd7,if_neg h0] at h
  by_cases h10:t.Kind=10
  ·rw [if_pos h10] at h
   rw [Zc8 h0 (by omega),Zd7,if_neg h0,if_pos h10]
   simp only [List.length_map]
   exact h
  rw [if_neg h10] at h
  by_cases hc:t.Kind < 0∨10 < t.Kind∨d=0∨65536≤t.Words.length∨(t.Kind=1∧65536≤t.Kids.length)∨1048576≤t.Kids.length∨(1 < t.Kind∧0 < t.Words.length)
  ·rw [if_pos hc] at h;cases h
  rw [if_neg hc,List.all_eq_true] at h
  have hkid:∀ x∈t.Kids,(rt (nrm x) (d - 1) && okk t.Kind (nrm x))=true:=fun x hx=>by
   have:=h x hx
   rw [Bool.and_eq_true] at this ⊢
   exact ⟨Zyi n x (d - 1) (by have:=Qi hx;omega) this.1,Z09 this.2⟩
  by_cases h1:t.Kind=1
  ·obtain ⟨W,K,e1,lW,lK,mK⟩:∃ W K,nrm t=⟨1,W,K⟩∧W.length≤t.Words.length∧K.length≤t.Kids.length∧∀ x∈K,x∈t.Kids.map nrm :=
    ⟨_,_,Zdy h1,Ze3 _ _,by have h:=Ze3 (fun x:Tr=>x.Kind == 0) (t.Kids.map nrm);rw [List.length_map] at h;exact h,fun x hx=>Zd3 hx⟩
   rw [e1,Zd7]
   simp only
   rw [if_neg (by decide),if_neg (by decide),if_neg (by omega),List.all_eq_true]
   intro x hx
   obtain ⟨y,hy,rfl⟩:=List.mem_map.1 (mK x hx)
   rw [← h1]
   exact hkid y hy
  rw [Zc8 h0 h1,Zd7]
  simp only [List.length_map]
  rw [if_neg h0,if_neg h10,if_neg hc,List.all_eq_true]
  intro x hx
  obtain ⟨y,hy,rfl⟩:=List.mem_map.1 hx
  exact hkid y hy
theorem rtN {t:Tr} {d:Nat} (h:rt t d=true):rt (nrm t) d=true:=Zyi _ t d (Nat.lt_succ_self _) h
theorem Zt0 {t:Tr} (h:Vc t=true):t=⟨0,[],[]⟩:=by
 unfold Vc at h
 simp only [Bool.and_eq_true,beq_iff_eq] at h
 obtain ⟨k,w,l⟩:=t
 simp only at h
 rw [h.1,List.eq_nil_of_length_eq_zero h.2.1,List.eq_nil_of_length_eq_zero h.2.2]
theorem Z1g {e:Ed} (h:Uo e=true):e=eS0:=by
 unfold Uo Zfs Zcd Zax at h
 simp only [Bool.and_eq_true,beq_iff_eq] at h
 obtain ⟨k,a,b,w,ks,li,os⟩:=e
 simp only at h
 obtain ⟨h0,⟨h1,h2⟩,⟨h3,h4⟩,h5,h6⟩:=h
 rw [h0,Zt0 h1,Zt0 h2,List.eq_nil_of_length_eq_zero h3,List.eq_nil_of_length_eq_zero h4,h5,List.eq_nil_of_length_eq_zero h6]
 rfl
def atD {α:Type} (z:α) (l:List α) (i:Nat):α:=(l[i]?).getD z
def Zwi {α:Type} (z:α) (p:α→Bool) (l:List α) (i:Nat) (v:α):List α :=
 if i < l.length then l.set i v else if p v=true then l else l++List.replicate (i - l.length) z++[v]
theorem Z0s {α:Type} {z:α} {p:α→Bool} {l:List α} {i j:Nat} {v:α} (hv:p v=true→v=z):atD z (Zwi z p l i v) j=if j=i then v else atD z l j:=by
 unfold atD Zwi
 by_cases hi:i < l.length
 ·rw [if_pos hi,List.getElem?_set]
  by_cases e:i=j
  ·subst e;rw [if_pos rfl,if_pos hi,if_pos rfl];rfl
  rw [if_neg e,if_neg (fun q=>e q.symm)]
 rw [if_neg hi]
 cases hp:p v with
 | true =>
  rw [if_pos rfl]
  split
  ·rename_i e;subst e;rw [List.getElem?_eq_none (by omega),hv hp];rfl
  rfl
 | false =>
  rw [if_neg (by simp)]
  by_cases h1:j < l.length
  ·rw [List.append_assoc,List.getElem?_append_left h1,if_neg (by omega)]
  by_cases h2:j < i
  ·rw [List.getElem?_append_left (by simp only [List.length_append,List.length_replicate];omega),List.getElem?_append_right (by omega),List.getElem?_replicate,if_pos (by omega),if_neg (by omega),List.getElem?_eq_none (by omega)]
   rfl
  by_cases h3:j=i
  ·subst h3
   rw [if_pos rfl,List.getElem?_append_right (by simp only [List.length_append,List.length_replicate];omega)]
   simp only [List.length_append,List.length_replicate]
   rw [show j - (l.length+(j - l.length))=0 by omega]
   rfl
  rw [if_neg h3,List.getElem?_eq_none (by simp only [List.length_append,List.length_replicate,List.length_singleton];omega),List.getElem?_eq_none (by omega)]
def p0 (x:Int):Bool:=x == 0
def pT (x:Tr):Bool:=x.Kind == 0
instance decTr:DecidableEq Tr:=fun a b=>decidable_of_iff (eqT a b=true) Z0v
def NT (t:Tr):Prop:=nrm t=t
theorem NT.null {t:Tr} (h:NT t) (hk:pT t=true):t=n0T:=by
 unfold pT at hk
 rw [beq_iff_eq] at hk
 rw [← h,Zc9 hk]
 rfl
theorem NT.of (t:Tr):NT (nrm t):=Z08 t
theorem NT.z:NT n0T:=Zc9 rfl
theorem NT.kids {t:Tr} (h:NT t):∀ k∈t.Kids,NT k:=fun k hk=>by
 unfold NT at h
 rw [← h] at hk
 by_cases h0:t.Kind=0
 ·rw [Zc9 h0] at hk;cases hk
 by_cases h1:t.Kind=1
 ·rw [Zdy h1] at hk
  obtain ⟨y,_,rfl⟩:=List.mem_map.1 (Zd3 hk)
  exact NT.of y
 rw [Zc8 h0 h1] at hk
 obtain ⟨y,_,rfl⟩:=List.mem_map.1 hk
 exact NT.of y
theorem NT.map {l:List Tr} (h:∀ k∈l,NT k):l.map nrm=l:=by
 conv=>rhs;rw [← List.map_id l]
 exact List.map_congr_left fun x hx=>h x hx
theorem NT.st {ws:List Int} {ks:List Tr} (h:∀ k∈ks,NT k):NT ⟨1,tr p0 ws,tr pT ks⟩:=by
 unfold NT
 rw [Zdy rfl]
 simp only
 rw [NT.map (l:=tr pT ks) fun k hk=>h k (Zd3 hk)]
 congr 1
 ·exact Zrq ws
 exact Zrq ks
theorem NT.li {k:Int} {ks:List Tr} (h0:¬ k=0) (h1:¬ k=1) (h:∀ k∈ks,NT k):NT ⟨k,[],ks⟩:=by
 unfold NT
 rw [Zc8 h0 h1]
 simp only
 rw [NT.map h]
inductive Rg:Tr→Prop
 | mk (t:Tr) (h3:∀ w∈t.Words,0≤w∧w < 18446744073709551616) (h4:∀ k∈t.Kids,Rg k):Rg t
theorem Rg.u {t:Tr} (h:Rg t):∀ w∈t.Words,0≤w∧w < 18446744073709551616:=by cases h;assumption
theorem Rg.all {t:Tr} (h:Rg t):∀ k∈t.Kids,Rg k:=by cases h;assumption
theorem Rg.z:Rg n0T := .mk _ (by simp [n0T]) (by simp [n0T])
theorem Rg.of:∀ (n:Nat) (t:Tr),SizeOf.sizeOf t < n→Bd t→Rg t
 | 0,_,h,_=>by omega
 | n+1,t,hn,h => .mk _ h.u fun k hk=>Rg.of n k (by have:=Qi hk;omega) (h.all k hk)
theorem Bd.rg {t:Tr} (h:Bd t):Rg t:=Rg.of _ t (Nat.lt_succ_self _) h
inductive RX:Ed→Prop
 | same (e:Ed) (h:e.Kind=0):RX e
 | repl (e:Ed) (h:e.Kind=1):RX e
 | st (e:Ed) (h:e.Kind=2) (hw:e.Words.Pairwise (fun a b=>a.At.toNat≠b.At.toNat)) (hw2:∀ w∈e.Words,0≤w.At∧w.At≤65534) (hk:e.Kids.Pairwise (fun a b=>a.At.toNat≠b.At.toNat)) (hk2:∀ k∈e.Kids,0≤k.At∧k.At≤65534) (ih:∀ k∈e.Kids,RX k.E):RX e
 | li (e:Ed) (h:e.Kind=3) (hl:2≤e.List_∧e.List_≤9) (ho:∀ o∈e.Ops,opk o) (hN:∀ o∈e.Ops,o.Kind=0∨o.Kind=3→o.L=[]) (ih:∀ o∈e.Ops,o.Kind=3→RX o.E):RX e
theorem Zc1 {α:Type} {pl:α→Int} {ok:Int→α→Bool} (h:∀ p x,ok p x=true→p < pl x∧pl x≤65534):∀ (xs:List α) (p:Int),chk pl ok p xs=true→(∀ x∈xs,p < pl x∧pl x≤65534)∧xs.Pairwise (fun a b=>pl a < pl b)
 | [],_,_=>⟨fun x hx=>(by cases hx),.nil⟩
 | x::xs,p,hc=>by
  rw [chk,Bool.and_eq_true] at hc
  have h1:=h p x hc.1
  obtain ⟨h2,h3⟩:=Zc1 h xs (pl x) hc.2
  refine ⟨fun y hy => ?_,.cons (fun y hy=>(h2 y hy).1) h3⟩
  rcases List.mem_cons.1 hy with rfl | hy
  ·exact h1
  have:=h2 y hy;omega
theorem Zwz {α:Type} {pl:α→Int} {ok:Int→α→Bool} (h:∀ p x,ok p x=true→p < pl x∧pl x≤65534) {xs:List α} (hc:chk pl ok (-1) xs=true):(∀ x∈xs,0≤pl x∧pl x≤65534)∧xs.Pairwise (fun a b=>(pl a).toNat≠(pl b).toNat):=by
 obtain ⟨h1,h2⟩:=Zc1 h xs (-1) hc
 refine ⟨fun x hx=>by have:=h1 x hx;omega,?_⟩
 exact h2.imp_of_mem fun {a b} ha hb hab=>by
  have:=h1 a ha
  have:=h1 b hb
  omega
theorem Zkf (p:Int) (w:Zv) (h:okW p w=true):p < w.At∧w.At≤65534:=by
 unfold okW at h
 simp only [Bool.not_eq_true',Bool.or_eq_false_iff,decide_eq_false_iff_not] at h
 omega
theorem Zpj (d:Nat) (p:Int) (k:Zj) (h:okK d p k=true):p < k.At∧k.At≤65534:=by
 unfold okK okP at h
 simp only [Bool.and_eq_true,Bool.not_eq_true',Bool.or_eq_false_iff,decide_eq_false_iff_not] at h
 omega
theorem Zya:∀ (n:Nat) (e:Ed) (d:Nat),SizeOf.sizeOf e < n→rE e d=true→RX e
 | 0,_,_,h,_=>by omega
 | n+1,e,d,hn,h=>by
  rw [Zfu] at h
  by_cases hd:d=0
  ·rw [if_pos hd] at h;cases h
  rw [if_neg hd] at h
  by_cases h0:e.Kind=0
  ·exact .same e h0
  rw [if_neg h0] at h
  by_cases h1:e.Kind=1
  ·exact .repl e h1
  rw [if_neg h1] at h
  by_cases h2:e.Kind=2
  ·rw [if_pos h2] at h
   simp only [Bool.and_eq_true] at h
   obtain ⟨w1,w2⟩:=Zwz Zkf h.2.1
   obtain ⟨k1,k2⟩:=Zwz (Zpj (d - 1)) h.2.2
   refine .st e h2 w2 w1 k2 k1 fun k hk=>Zya n k.E (d - 1) (by have:=J5 hk;omega) ?_
   exact Zdr (Q:=fun k:Zj=>rE k.E (d - 1)=true) (fun p x hx=>by
    unfold okK okP at hx
    simp only [Bool.and_eq_true] at hx
    exact hx.2.2) e.Kids (-1) h.2.2 k hk
  rw [if_neg h2] at h
  by_cases h3:e.Kind=3
  ·rw [if_pos h3] at h
   simp only [Bool.and_eq_true,decide_eq_true_eq,List.all_eq_true] at h
   have ho:=h.2.2.1
   refine .li e h3 h.2.1 (fun o hx=>Zi9 (ho o hx)) (fun o hx k03 => ?_) fun o hx k3=>Zya n o.E (d - 1) (by have:=Va hx;omega) ?_
   ·have:=ho o hx
    unfold okO at this
    rcases k03 with k0 | k3
    ·rw [if_pos k0] at this
     simp only [Bool.and_eq_true,beq_iff_eq] at this
     exact List.eq_nil_of_length_eq_zero this.2.1
    rw [if_neg (by omega),if_neg (by omega),if_pos k3] at this
    simp only [Bool.and_eq_true,beq_iff_eq] at this
    exact List.eq_nil_of_length_eq_zero this.2.1
   have:=ho o hx
   unfold okO at this
   rw [if_neg (by omega),if_neg (by omega),if_pos k3] at this
   simp only [Bool.and_eq_true] at this
   exact this.2.2.2.2
  rw [if_neg h3] at h;cases h
inductive TX:Tr→Prop
 | mk (t:Tr) (h1:2≤t.Kind∧t.Kind≤9→t.Words=[]) (h9:t.Kind=9→∀ k∈t.Kids,k.Kind=1) (ih:∀ k∈t.Kids,TX k):TX t
theorem TX.w {t:Tr} (h:TX t):2≤t.Kind∧t.Kind≤9→t.Words=[]:=by cases h;assumption
theorem TX.s {t:Tr} (h:TX t):t.Kind=9→∀ k∈t.Kids,k.Kind=1:=by cases h;assumption
theorem TX.all {t:Tr} (h:TX t):∀ k∈t.Kids,TX k:=by cases h;assumption
theorem TX.z:TX n0T := .mk _ (fun _=>rfl) (fun h=>by simp [n0T] at h) (by simp [n0T])
theorem Zun:∀ (n:Nat) (t:Tr) (d:Nat),SizeOf.sizeOf t < n→rt t d=true→TX t
 | 0,_,_,h,_=>by omega
 | n+1,t,d,hn,h=>by
  rw [Zd7] at h
  by_cases h0:t.Kind=0
  ·rw [if_pos h0] at h
   simp only [Bool.and_eq_true,beq_iff_eq] at h
   have hk:=List.eq_nil_of_length_eq_zero h.2
   exact .mk _ (fun h=>by omega) (fun h=>by omega) (by rw [hk];simp)
  rw [if_neg h0] at h
  by_cases h10:t.Kind=10
  ·rw [if_pos h10] at h
   simp only [Bool.and_eq_true,beq_iff_eq] at h
   have hk:=List.eq_nil_of_length_eq_zero h.2
   exact .mk _ (fun h=>by omega) (fun h=>by omega) (by rw [hk];simp)
  rw [if_neg h10] at h
  by_cases hc:t.Kind < 0∨10 < t.Kind∨d=0∨65536≤t.Words.length∨(t.Kind=1∧65536≤t.Kids.length)∨1048576≤t.Kids.length∨(1 < t.Kind∧0 < t.Words.length)
  ·rw [if_pos hc] at h;cases h
  rw [if_neg hc,List.all_eq_true] at h
  refine .mk _ (fun hk=>List.eq_nil_of_length_eq_zero (by omega)) (fun h9 k hk => ?_) fun k hk => ?_
  ·have:=h k hk
   rw [Bool.and_eq_true] at this
   have h2:=this.2
   unfold okk at h2
   rw [if_neg (by omega),h9] at h2
   simp only [Bool.and_eq_true,Bool.or_eq_true,bne_self_eq_false,Bool.false_eq_true,false_or,beq_iff_eq] at h2
   exact h2.2
  have:=h k hk
  rw [Bool.and_eq_true] at this
  exact Zun n k (d - 1) (by have:=Qi hk;omega) this.1
theorem TX.nn:∀ (n:Nat) (t:Tr),SizeOf.sizeOf t < n→TX t→TX (nrm t)
 | 0,_,h,_=>by omega
 | n+1,t,hn,h=>by
  by_cases h0:t.Kind=0
  ·rw [Zc9 h0];exact TX.z
  by_cases h1:t.Kind=1
  ·rw [Zdy h1]
   refine .mk _ (fun h=>by simp only at h;omega) (fun h=>by simp only at h;omega) fun k hk => ?_
   obtain ⟨y,hy,rfl⟩:=List.mem_map.1 (Zd3 hk)
   exact TX.nn n y (by have:=Qi hy;omega) (h.all y hy)
  rw [Zc8 h0 h1]
  refine .mk _ h.w (fun h9 k hk => ?_) fun k hk => ?_
  ·obtain ⟨y,hy,rfl⟩:=List.mem_map.1 hk
   rw [Ju];exact h.s h9 y hy
  obtain ⟨y,hy,rfl⟩:=List.mem_map.1 hk
  exact TX.nn n y (by have:=Qi hy;omega) (h.all y hy)
theorem TX.n {t:Tr} (h:TX t):TX (nrm t):=TX.nn _ t (Nat.lt_succ_self _) h
theorem Z0r {α:Type} {z:α} {l:List α} {i:Nat}:atD z l i∈l∨atD z l i=z:=by
 unfold atD
 cases h:l[i]? with
 | none=>exact .inr rfl
 | some x=>exact .inl (List.mem_of_getElem? h)
theorem Z23 {l:List Int} (h:∀ x∈l,0≤x∧x < 18446744073709551616) (i:Nat):0≤atD 0 l i∧atD 0 l i < 18446744073709551616:=by
 rcases Z0r (z:=(0:Int)) (l:=l) (i:=i) with q | q
 ·exact h _ q
 rw [q];omega
theorem Zwt {α β:Type} {z:α} {p:α→Bool} {l:List α} {i j:Nat} {v:α} (f:α→β) (hv:p v=true→f v=f z):f (atD z (Zwi z p l i v) j)=if j=i then f v else f (atD z l j):=by
 unfold atD Zwi
 by_cases hi:i < l.length
 ·rw [if_pos hi,List.getElem?_set]
  by_cases e:i=j
  ·subst e;rw [if_pos rfl,if_pos hi,if_pos rfl];rfl
  rw [if_neg e,if_neg (fun q=>e q.symm)]
 rw [if_neg hi]
 cases hp:p v with
 | true =>
  rw [if_pos rfl]
  split
  ·rename_i e;subst e;rw [List.getElem?_eq_none (by omega),hv hp];rfl
  rfl
 | false =>
  rw [if_neg (by simp)]
  by_cases h1:j < l.length
  ·rw [List.append_assoc,List.getElem?_append_left h1,if_neg (by omega)]
  by_cases h2:j < i
  ·rw [List.getElem?_append_left (by simp only [List.length_append,List.length_replicate];omega),List.getElem?_append_right (by omega),List.getElem?_replicate,if_pos (by omega),if_neg (by omega),List.getElem?_eq_none (by omega)]
   rfl
  by_cases h3:j=i
  ·subst h3
   rw [if_pos rfl,List.getElem?_append_right (by simp only [List.length_append,List.length_replicate];omega)]
   simp only [List.length_append,List.length_replicate]
   rw [show j - (l.length+(j - l.length))=0 by omega]
   rfl
  rw [if_neg h3,List.getElem?_eq_none (by simp only [List.length_append,List.length_replicate,List.length_singleton];omega),List.getElem?_eq_none (by omega)]
def RN (c cN:List Tr):Prop:=∀ j,nrm (atD n0T c j)=atD n0T cN j
theorem RN.put {c cN:List Tr} (h:RN c cN) {i:Nat} {v u:Tr} (hv:nrm v=u):RN (Zwi n0T pT c i v) (Zwi n0T pT cN i u):=fun j=>by
 have hnu:NT u:=by rw [← hv];exact NT.of v
 rw [Z0s (fun q=>hnu.null q),Zwt nrm (fun q=>by unfold pT at q;rw [beq_iff_eq] at q;rw [Zc9 q];exact NT.z.symm),hv,h j]
structure CA (e:Ed) (t:Tr):Prop where
 x:RX e
 b:BE e
 g:GN e
 p:pt t≤1000000
 t:Bd t
theorem CA.of {e:Ed} {t:Tr} (hb:BE e) (hr:rE e 64=true) (hc:ce e≤3000) (ht:Bd t) (hp:pt t≤3000):CA e t :=
 ⟨Zya _ e 64 (Nat.lt_succ_self _) hr,hb,Ztm _ e 64 (Nat.lt_succ_self _) hb (by omega) hr,by omega,ht⟩
def Zwu (a:List EO) (g:Nat):Prop:=match a with
 | []=>g=0
 | o::_=>g≤thN o
structure CI (a:List EO) (g:Nat):Prop where
 p:∀ o∈a,opk o
 s:Zdj a≤1073741824
 g:Zwu a g
theorem Zx3 {o:EO} (h:opk o):o.Kind=0∨o.Kind=1∨o.Kind=2∨o.Kind=3:=by
 rcases h with ⟨k,_⟩ | ⟨k,_⟩ | ⟨k,_⟩ | k
 ·exact .inl k
 ·exact .inr (.inl k)
 ·exact .inr (.inr (.inl k))
 exact .inr (.inr (.inr k))
inductive ST:Ed→Prop
 | mk (e:Ed) (ho:pt e.Old≤1000000) (hn:pt e.New≤1000000) (hl:∀ o∈e.Ops,∀ t∈o.L,pt t≤1000000) (ik:∀ k∈e.Kids,ST k.E) (io:∀ o∈e.Ops,ST o.E):ST e
theorem ST.old {e:Ed} (h:ST e):pt e.Old≤1000000:=by cases h;assumption
theorem ST.new {e:Ed} (h:ST e):pt e.New≤1000000:=by cases h;assumption
theorem ST.l {e:Ed} (h:ST e):∀ o∈e.Ops,∀ t∈o.L,pt t≤1000000:=by cases h;assumption
theorem ST.ks {e:Ed} (h:ST e):∀ k∈e.Kids,ST k.E:=by cases h;assumption
theorem ST.os {e:Ed} (h:ST e):∀ o∈e.Ops,ST o.E:=by cases h;assumption
theorem Zj4:∀ (k:Nat) (e:Ed) (d left:Int),BE e→SizeOf.sizeOf e < k→0≤d→d≤100→0≤left→left≤1000000→∃ r,Zu k e d left=some r∧-1≤r∧r≤1000000∧(0≤r→r+(ce e:Nat)≤left∧ST e)
 | 0,e,_,_,_,h,_,_,_,_=>by omega
 | k+1,e,d,left,hb,hk,hd0,hd1,hl0,hl1=>by
  have hw:=hb.w
  have ho:=hb.o
  show ∃ r,Y1 (Zu k) e d left=some r∧_
  unfold Y1
  rw [Qh (x:=left - 1) (by omega) (by omega),Qh (x:=left - 1 - (e.Words.length:Int)) (by omega) (by omega),Qh (by omega) (by omega),Zos]
  cases hc:cond (d == 0) true (decide (left - 1 - (e.Words.length:Int) - (e.Ops.length:Int) < 0)) with
  | true=>exact ⟨-1,rfl,by omega,by omega,fun h=>by omega⟩
  | false =>
   rw [cond_false]
   have hd:¬ d=0∧0≤left - 1 - (e.Words.length:Int) - (e.Ops.length:Int):=by
    by_cases h:d=0
    ·simp [h] at hc
    have e:(d == 0)=false:=by simp [h]
    rw [e,cond_false,decide_eq_false_iff_not] at hc
    exact ⟨h,by omega⟩
   obtain ⟨r1,g1,g2,g3,g4⟩:=Zfh hb.old hd.2 (by omega)
   have hz:∃ z,cond (decide (0≤r1)) ((Xm e.New 80 r1).bind fun y4=>some y4) (some r1)=some z∧-1≤z∧z≤1000000∧(0≤z→z≤left - 1 - (e.Words.length:Int) - (e.Ops.length:Int)∧pt e.Old≤1000000∧pt e.New≤1000000):=by
    by_cases h:0≤r1
    ·obtain ⟨r2,f1,f2,f3,f4⟩:=Zfh hb.new h g3
     refine ⟨r2,by rw [decide_eq_true h,f1];rfl,f2,f3,fun h2 => ?_⟩
     have:=f4 h2
     have:=g4 h
     omega
    exact ⟨r1,by rw [decide_eq_false h];rfl,g2,g3,fun h2=>absurd h2 h⟩
   obtain ⟨z,z1,z2,z3,z4⟩:=hz
   rw [g1,Option.bind_some,z1,Option.bind_some]
   obtain ⟨r,h1,h2⟩:=Kx (step:=Yo (Zu k) e d)
    (fun s=>∃ j:Nat,s.2=j∧j≤e.Kids.length∧-1≤s.1∧s.1≤1000000∧(0≤s.1→s.1+((((e.Kids.take j).map fun k=>ce k.E)).sum:Nat)≤left - 1 - (e.Words.length:Int) - (e.Ops.length:Int)∧(pt e.Old≤1000000∧pt e.New≤1000000)∧∀ k∈e.Kids.take j,ST k.E))
    (fun s=>e.Kids.length - s.2.toNat) (fun r=>-1≤r∧r≤1000000∧(0≤r→r+((e.Kids.map fun k=>ce k.E).sum:Nat)≤left - 1 - (e.Words.length:Int) - (e.Ops.length:Int)∧(pt e.Old≤1000000∧pt e.New≤1000000)∧∀ k∈e.Kids,ST k.E)) (fun s hI=>by
     obtain ⟨l,i⟩:=s
     obtain ⟨j,rfl,hj,g1,g2,g3⟩:=hI
     have hkl:=hb.k
     simp only at g1 g2 g3 ⊢
     unfold Yo
     simp only
     by_cases hji:j < e.Kids.length
     ·rw [Ub hji,cond_true]
      by_cases hl:0≤l
      ·have e1:decide (0≤l)=true:=by simp [hl]
       have hx:e.Kids[j]? = some e.Kids[j]:=List.getElem?_eq_getElem hji
       have hm:e.Kids[j]∈e.Kids:=List.getElem_mem hji
       obtain ⟨r,q1,q2,q3,q4⟩:=Zj4 k e.Kids[j].E (d - 1) l (hb.ks _ hm) (by have:=J5 hm;omega) (by omega) (by omega) hl g2
       rw [e1,cond_true,Yn hx,Option.bind_some,Qh (x:=d - 1) (by omega) (by omega),q1,Option.bind_some,Qh (by omega) (by omega)]
       refine .inl ⟨_,rfl,⟨j+1,by simp only;omega,by omega,q2,q3,fun hr => ?_⟩,by simp only;omega⟩
       obtain ⟨w1,w2⟩:=q4 hr
       obtain ⟨w3,w4,w5⟩:=g3 hl
       rw [List.take_add_one,hx]
       simp only [Option.toList_some,List.map_append,List.map_cons,List.map_nil,List.sum_append,List.sum_cons,List.sum_nil]
       simp only at hr
       refine ⟨by omega,w4,fun y hy => ?_⟩
       rcases List.mem_append.1 hy with hy | hy
       ·exact w5 y hy
       rw [List.mem_singleton] at hy;subst hy;exact w2
      have e1:decide (0≤l)=false:=by simp [hl]
      rw [e1,cond_false]
      exact .inr ⟨l,rfl,g1,g2,fun h=>absurd h hl⟩
     have hj':j=e.Kids.length:=by omega
     subst hj'
     rw [Ua,cond_false]
     rw [List.take_length] at g3
     exact .inr ⟨l,rfl,g1,g2,g3⟩) (z,0) ⟨0,rfl,Nat.zero_le _,z2,z3,fun h=>⟨by simpa using (z4 h).1,(z4 h).2,by simp⟩⟩
   rw [h1,Option.bind_some]
   have inner:∀ (j:Nat) (hj:j < e.Ops.length) (l:Int),0≤l→l≤1000000→∃ r,Zm (Y6 e (l,(j:Int))) (l,0)=some r∧-1≤r∧r≤1000000∧r≤l∧(0≤r→∀ t∈e.Ops[j].L,pt t≤1000000):=fun j hj l hl hl'=>by
    have hx:e.Ops[j]? = some e.Ops[j]:=List.getElem?_eq_getElem hj
    have hm:e.Ops[j]∈e.Ops:=List.getElem_mem hj
    have hL:=(hb.l _ hm).1
    obtain ⟨r,h1,h2⟩:=Kx (step:=Y6 e (l,(j:Int)))
     (fun s=>∃ i:Nat,s.2=i∧i≤e.Ops[j].L.length∧-1≤s.1∧s.1≤1000000∧s.1≤l∧(0≤s.1→∀ t∈e.Ops[j].L.take i,pt t≤1000000))
     (fun s=>e.Ops[j].L.length - s.2.toNat) (fun r=>-1≤r∧r≤1000000∧r≤l∧(0≤r→∀ t∈e.Ops[j].L,pt t≤1000000)) (fun s hI=>by
      obtain ⟨l',i'⟩:=s
      obtain ⟨i,rfl,hi,g1,g2,g3,g4⟩:=hI
      simp only at g1 g2 g3 g4 ⊢
      unfold Y6
      simp only
      rw [Yn hx,Option.bind_some,Option.bind_some]
      by_cases hii:i < e.Ops[j].L.length
      ·rw [Ub hii,cond_true]
       by_cases hl2:0≤l'
       ·have e1:decide (0≤l')=true:=by simp [hl2]
        have hx2:e.Ops[j].L[i]? = some e.Ops[j].L[i]:=List.getElem?_eq_getElem hii
        have hm2:e.Ops[j].L[i]∈e.Ops[j].L:=List.getElem_mem hii
        obtain ⟨r,q1,q2,q3,q4⟩:=Zfh ((hb.l _ hm).2 _ hm2) hl2 g2
        rw [e1,cond_true,Yn hx2,Option.bind_some,q1,Option.bind_some,Qh (by omega) (by omega)]
        refine .inl ⟨_,rfl,⟨i+1,by simp only;omega,by omega,q2,q3,?_⟩,by simp only;omega⟩
        simp only
        refine ⟨?_,fun hr t ht => ?_⟩
        ·by_cases hr:0≤r
         ·have:=q4 hr;omega
         omega
        rw [List.take_add_one,hx2] at ht
        rcases List.mem_append.1 ht with ht | ht
        ·exact g4 hl2 t ht
        simp only [Option.toList_some,List.mem_singleton] at ht
        subst ht
        have:=q4 hr
        omega
       have e1:decide (0≤l')=false:=by simp [hl2]
       rw [e1,cond_false]
       exact .inr ⟨l',rfl,g1,g2,g3,fun h=>absurd h hl2⟩
      have hi':i=e.Ops[j].L.length:=by omega
      subst hi'
      rw [Ua,cond_false]
      rw [List.take_length] at g4
      exact .inr ⟨l',rfl,g1,g2,g3,g4⟩) (l,0) ⟨0,rfl,Nat.zero_le _,by simp only;omega,by simp only;omega,by simp only;omega,fun _=>by simp⟩
    exact ⟨r,h1,h2⟩
   obtain ⟨r',h1',h2'⟩:=Kx (step:=Yp (Zu k) e d)
    (fun s=>∃ j:Nat,s.2=j∧j≤e.Ops.length∧-1≤s.1∧s.1≤1000000∧(0≤s.1→0≤r∧s.1+((((e.Ops.take j).map fun o=>ce o.E)).sum:Nat)≤r∧∀ o∈e.Ops.take j,ST o.E∧∀ t∈o.L,pt t≤1000000))
    (fun s=>e.Ops.length - s.2.toNat) (fun q=>-1≤q∧q≤1000000∧(0≤q→0≤r∧q+((e.Ops.map fun o=>ce o.E).sum:Nat)≤r∧∀ o∈e.Ops,ST o.E∧∀ t∈o.L,pt t≤1000000)) (fun s hI=>by
     obtain ⟨l,i⟩:=s
     obtain ⟨j,rfl,hj,g1,g2,g3⟩:=hI
     simp only at g1 g2 g3 ⊢
     unfold Yp
     simp only
     by_cases hji:j < e.Ops.length
     ·rw [Ub hji,cond_true]
      by_cases hl:0≤l
      ·have e1:decide (0≤l)=true:=by simp [hl]
       have hx:e.Ops[j]? = some e.Ops[j]:=List.getElem?_eq_getElem hji
       have hm:e.Ops[j]∈e.Ops:=List.getElem_mem hji
       obtain ⟨t,t1,t2,t3,t4,t5⟩:=inner j hji l hl g2
       rw [e1,cond_true,t1,Option.bind_some,Qh (x:=(j:Int)+1) (by omega) (by omega)]
       by_cases ht:0≤t
       ·obtain ⟨r,q1,q2,q3,q4⟩:=Zj4 k e.Ops[j].E (d - 1) t (hb.os _ hm) (by have:=Va hm;omega) (by omega) (by omega) ht t3
        rw [decide_eq_true ht,cond_true,Yn hx,Option.bind_some,Qh (x:=d - 1) (by omega) (by omega),q1]
        refine .inl ⟨_,rfl,⟨j+1,by simp only;omega,by omega,q2,q3,fun hr => ?_⟩,by simp only;omega⟩
        obtain ⟨w1,w2⟩:=q4 hr
        obtain ⟨w3,w4,w5⟩:=g3 hl
        rw [List.take_add_one,hx]
        simp only [Option.toList_some,List.map_append,List.map_cons,List.map_nil,List.sum_append,List.sum_cons,List.sum_nil]
        simp only at hr
        refine ⟨w3,by omega,fun y hy => ?_⟩
        rcases List.mem_append.1 hy with hy | hy
        ·exact w5 y hy
        rw [List.mem_singleton] at hy;subst hy;exact ⟨w2,t5 ht⟩
       rw [decide_eq_false ht]
       exact .inl ⟨_,rfl,⟨j+1,by simp only;omega,by omega,t2,t3,fun hr=>absurd hr ht⟩,by simp only;omega⟩
      have e1:decide (0≤l)=false:=by simp [hl]
      rw [e1,cond_false]
      exact .inr ⟨l,rfl,g1,g2,fun h=>absurd h hl⟩
     have hj':j=e.Ops.length:=by omega
     subst hj'
     rw [Ua,cond_false]
     rw [List.take_length] at g3
     exact .inr ⟨l,rfl,g1,g2,g3⟩) (r,0) ⟨0,rfl,Nat.zero_le _,h2.1,h2.2.1,fun h=>⟨h,by simp,by simp⟩⟩
   rw [h1']
   refine ⟨r',rfl,h2'.1,h2'.2.1,fun hr => ?_⟩
   obtain ⟨p1,p2,p3⟩:=h2'.2.2 hr
   obtain ⟨p4,p5,p6⟩:=h2.2.2 p1
   exact ⟨by omega,.mk e p5.1 p5.2 (fun o ho=>(p3 o ho).2) p6 fun o ho=>(p3 o ho).1⟩
theorem Z26 {e:Ed} (h:BE e) (hq:Qt e=some true):ce e≤3000∧ST e:=by
 obtain ⟨r,h1,h2,h3,h4⟩:=Zj4 (SizeOf.sizeOf e+1) e 80 3000 h (by omega) (by omega) (by omega) (by omega) (by omega)
 have hr:Vb e 80 3000=some r:=Zav (SizeOf.sizeOf e+1) fun k hk=>by rw [Zfd k (SizeOf.sizeOf e+1) e 80 3000 (by omega) (by omega)];exact h1
 unfold Qt at hq
 rw [hr,Option.bind_some] at hq
 have hp:0≤r:=by simpa using hq
 have:=h4 hp
 exact ⟨by omega,this.2⟩
structure GT (t:Tr):Prop where
 n:NT t
 g:Rg t
 x:TX t
theorem GT.z:GT n0T:=⟨NT.z,Rg.z,TX.z⟩
theorem GT.all {t:Tr} (h:GT t):∀ k∈t.Kids,GT k:=fun k hk=>⟨h.n.kids k hk,h.g.all k hk,h.x.all k hk⟩
theorem GT.of {t:Tr} (hb:Bd t) (hx:TX t):GT (nrm t):=⟨NT.of t,hb.nrm.rg,hx.n⟩
def D9 (e:Ed):Prop:=e.Kind=2∨(e.Kind=1∧e.Old.Kind=1∧e.New.Kind=1)
inductive RZ:Ed→Prop
 | same (e:Ed) (h:e.Kind=0):RZ e
 | repl (e:Ed) (h:e.Kind=1) (ho:TX e.Old) (hn:TX e.New):RZ e
 | st (e:Ed) (h:e.Kind=2) (hw:e.Words.Pairwise (fun a b=>a.At < b.At)) (hw2:∀ w∈e.Words,0≤w.At∧w.At≤65534) (hk:e.Kids.Pairwise (fun a b=>a.At < b.At)) (hk2:∀ k∈e.Kids,0≤k.At∧k.At≤65534) (ih:∀ k∈e.Kids,RZ k.E):RZ e
 | li (e:Ed) (h:e.Kind=3) (hl:2≤e.List_∧e.List_≤9) (ho:∀ o∈e.Ops,opk o) (hN:∀ o∈e.Ops,o.Kind=0∨o.Kind=3→o.L=[]) (hT:∀ o∈e.Ops,∀ t∈o.L,TX t∧(e.List_=9→t.Kind=1)) (h9:∀ o∈e.Ops,o.Kind=3→e.List_=9→D9 o.E) (ih:∀ o∈e.Ops,o.Kind=3→RZ o.E):RZ e
theorem Zyb:∀ (n:Nat) (e:Ed) (d:Nat),SizeOf.sizeOf e < n→rE e d=true→RZ e
 | 0,_,_,h,_=>by omega
 | n+1,e,d,hn,h=>by
  rw [Zfu] at h
  by_cases hd:d=0
  ·rw [if_pos hd] at h;cases h
  rw [if_neg hd] at h
  by_cases h0:e.Kind=0
  ·exact .same e h0
  rw [if_neg h0] at h
  by_cases h1:e.Kind=1
  ·rw [if_pos h1] at h
   simp only [Bool.and_eq_true] at h
   exact .repl e h1 (Zun _ _ 64 (Nat.lt_succ_self _) h.2.1.1) (Zun _ _ 64 (Nat.lt_succ_self _) h.2.2.1)
  rw [if_neg h1] at h
  by_cases h2:e.Kind=2
  ·rw [if_pos h2] at h
   simp only [Bool.and_eq_true] at h
   obtain ⟨w1,w2⟩:=Zc1 Zkf e.Words (-1) h.2.1
   obtain ⟨k1,k2⟩:=Zc1 (Zpj (d - 1)) e.Kids (-1) h.2.2
   refine .st e h2 w2 (fun w hw=>by have:=w1 w hw;omega) k2 (fun k hk=>by have:=k1 k hk;omega) fun k hk=>Zyb n k.E (d - 1) (by have:=J5 hk;omega) ?_
   exact Zdr (Q:=fun k:Zj=>rE k.E (d - 1)=true) (fun p x hx=>by
    unfold okK okP at hx
    simp only [Bool.and_eq_true] at hx
    exact hx.2.2) e.Kids (-1) h.2.2 k hk
  rw [if_neg h2] at h
  by_cases h3:e.Kind=3
  ·rw [if_pos h3] at h
   simp only [Bool.and_eq_true,decide_eq_true_eq,List.all_eq_true] at h
   have ho:=h.2.2.1
   have hL:∀ o∈e.Ops,o.Kind=0∨o.Kind=3→o.L=[]:=fun o hx k03=>by
    have:=ho o hx
    unfold okO at this
    rcases k03 with k0 | k3
    ·rw [if_pos k0] at this
     simp only [Bool.and_eq_true,beq_iff_eq] at this
     exact List.eq_nil_of_length_eq_zero this.2.1
    rw [if_neg (by omega),if_neg (by omega),if_pos k3] at this
    simp only [Bool.and_eq_true,beq_iff_eq] at this
    exact List.eq_nil_of_length_eq_zero this.2.1
   refine .li e h3 h.2.1 (fun o hx=>Zi9 (ho o hx)) hL (fun o hx t ht => ?_) (fun o hx k3 h9 => ?_) fun o hx k3=>Zyb n o.E (d - 1) (by have:=Va hx;omega) ?_
   ·have hk:=Zx3 (Zi9 (ho o hx))
    by_cases k12:o.Kind=1∨o.Kind=2
    ·have:=ho o hx
     unfold okO at this
     rw [if_neg (by omega),if_pos k12] at this
     simp only [Bool.and_eq_true,List.all_eq_true] at this
     obtain ⟨q1,q2⟩:=this.2.2.1 t ht
     refine ⟨Zun _ t 63 (Nat.lt_succ_self _) q1,fun h9 => ?_⟩
     unfold okk at q2
     rw [if_neg (by omega),h9] at q2
     simp only [Bool.and_eq_true,Bool.or_eq_true,bne_self_eq_false,Bool.false_eq_true,false_or,beq_iff_eq] at q2
     exact q2.2
    rw [hL o hx (by omega)] at ht
    cases ht
   ·have:=ho o hx
    unfold okO at this
    rw [if_neg (by omega),if_neg (by omega),if_pos k3] at this
    simp only [Bool.and_eq_true] at this
    have q:=this.2.2.2.1
    unfold Zw2 at q
    rw [if_neg (by omega),if_pos h9] at q
    simp only [Bool.or_eq_true,Bool.and_eq_true,beq_iff_eq] at q
    exact q
   have:=ho o hx
   unfold okO at this
   rw [if_neg (by omega),if_neg (by omega),if_pos k3] at this
   simp only [Bool.and_eq_true] at this
   exact this.2.2.2.2
  rw [if_neg h3] at h;cases h
def Rise {α:Type} (pl:α→Int) (l:List α):Prop:=l.Pairwise (fun a b=>pl a < pl b)∧∀ x∈l,0≤pl x
theorem Rise.tail {α:Type} {pl:α→Int} {x:α} {l:List α} (h:Rise pl (x::l)):Rise pl l:=⟨(List.pairwise_cons.1 h.1).2,fun y hy=>h.2 y (.tail _ hy)⟩
theorem GT.w {t:Tr} (h:GT t) (j:Nat):0≤atD 0 t.Words j∧atD 0 t.Words j < 18446744073709551616:=Z23 h.g.u j
inductive LM:Ed→Prop
 | mk (e:Ed) (hw:e.Words.length≤250000) (hk:e.Kids.length≤250000) (ho:e.Ops.length≤250000) (hs:Zdj e.Ops≤4000000) (ik:∀ k∈e.Kids,LM k.E) (io:∀ o∈e.Ops,LM o.E):LM e
theorem LM.w {e:Ed} (h:LM e):e.Words.length≤250000:=by cases h;assumption
theorem LM.k {e:Ed} (h:LM e):e.Kids.length≤250000:=by cases h;assumption
theorem LM.o {e:Ed} (h:LM e):e.Ops.length≤250000:=by cases h;assumption
theorem LM.s {e:Ed} (h:LM e):Zdj e.Ops≤4000000:=by cases h;assumption
theorem LM.ks {e:Ed} (h:LM e):∀ k∈e.Kids,LM k.E:=by cases h;assumption
theorem LM.os {e:Ed} (h:LM e):∀ o∈e.Ops,LM o.E:=by cases h;assumption
structure MC (e:Ed):Prop where
 z:RZ e
 b:BE e
 g:GN e
 s:ST e
 m:LM e
theorem CI.of {a:List EO} (hp:∀ o∈a,opk o) (hs:Zdj a≤1073741824):CI a 0:=⟨hp,hs,by unfold Zwu;split <;> omega⟩
theorem Z31:LM eS0 := .mk _ (by simp [eS0]) (by simp [eS0]) (by simp [eS0]) (by simp [eS0,Zdj]) (by simp [eS0]) (by simp [eS0])
theorem Znq {e:Ed} (h:Uo e=true):LM e:=by rw [Z1g h];exact Z31
theorem Zxi:∀ (n:Nat) (e:Ed) (d:Nat),SizeOf.sizeOf e < n→BE e→GN e→ce e≤3000→rE e d=true→LM e
 | 0,_,_,h,_,_,_,_=>by omega
 | n+1,e,d,hn,hb,hg,hc,h=>by
  have hc':=hc
  rw [Zos] at hc'
  have hk1:e.Kids.length≤(e.Kids.map fun k=>ce k.E).sum:=Zj7 fun x _=>Zwy _
  have kk:∀ k∈e.Kids,∀ d',rE k.E d'=true→LM k.E:=fun k hk d' hd'=>by
   have:=Zek (f:=fun k:Zj=>ce k.E) hk
   exact Zxi n k.E d' (by have:=J5 hk;omega) (hb.ks k hk) (hg.ks k hk) (by omega) hd'
  have oo:∀ o∈e.Ops,∀ d',rE o.E d'=true→LM o.E:=fun o ho d' hd'=>by
   have:=Zek (f:=fun o:Zp=>ce o.E) ho
   exact Zxi n o.E d' (by have:=Va ho;omega) (hb.os o ho) (hg.os o ho) (by omega) hd'
  have hlens:=Zuj hb h
  rw [Zfu] at h
  by_cases hd:d=0
  ·rw [if_pos hd] at h;cases h
  rw [if_neg hd] at h
  by_cases h0:e.Kind=0
  ·rw [if_pos h0] at h
   exact Znq h
  rw [if_neg h0] at h
  by_cases h1:e.Kind=1
  ·rw [if_pos h1] at h
   unfold Zcd Zax at h
   simp only [Bool.and_eq_true,beq_iff_eq] at h
   have e1:=List.eq_nil_of_length_eq_zero h.1.1.2
   have e2:=List.eq_nil_of_length_eq_zero h.1.2.2
   exact .mk _ (by omega) (by omega) (by omega) (by rw [e2];simp [Zdj]) (by rw [e1];simp) (by rw [e2];simp)
  rw [if_neg h1] at h
  by_cases h2:e.Kind=2
  ·rw [if_pos h2] at h
   unfold Zax at h
   simp only [Bool.and_eq_true,beq_iff_eq] at h
   have e2:=List.eq_nil_of_length_eq_zero h.1.2.2
   refine .mk _ (by omega) (by omega) (by omega) (by rw [e2];simp [Zdj]) (fun k hk=>kk k hk (d - 1) ?_) (by rw [e2];simp)
   exact Zdr (Q:=fun k:Zj=>rE k.E (d - 1)=true) (fun p x hx=>by
    unfold okK okP at hx
    simp only [Bool.and_eq_true] at hx
    exact hx.2.2) e.Kids (-1) h.2.2 k hk
  rw [if_neg h2] at h
  by_cases h3:e.Kind=3
  ·rw [if_pos h3] at h
   unfold Zcd at h
   rw [Bool.and_eq_true,Bool.and_eq_true,Bool.and_eq_true,Bool.and_eq_true,Bool.and_eq_true,Bool.and_eq_true,beq_iff_eq,beq_iff_eq,List.all_eq_true] at h
   obtain ⟨⟨_,_,hk⟩,_,hall,hB⟩:=h
   have e1:=List.eq_nil_of_length_eq_zero hk
   refine .mk _ (by omega) (by omega) (by omega) ?_ (by rw [e1];simp) fun o ho => ?_
   ·rw [hlens] at hB
    have:=Zk2 (l:=e.List_) (fun o=>rE o.E (d - 1)) e.Ops (0,0) ⟨⟨by decide,by decide⟩,by decide,by decide⟩ hall (fun o ho=>(hb.l o ho).1) hB
    unfold Zj8 at hB
    rw [Bool.and_eq_true,decide_eq_true_eq,decide_eq_true_eq] at hB
    simp only at this
    omega
   have:=hall o ho
   unfold okO at this
   by_cases k0:o.Kind=0
   ·rw [if_pos k0] at this
    simp only [Bool.and_eq_true] at this
    exact Znq this.2.2
   rw [if_neg k0] at this
   by_cases k12:o.Kind=1∨o.Kind=2
   ·rw [if_pos k12] at this
    simp only [Bool.and_eq_true] at this
    exact Znq this.2.2.2
   rw [if_neg k12] at this
   by_cases k3:o.Kind=3
   ·rw [if_pos k3] at this
    simp only [Bool.and_eq_true] at this
    exact oo o ho (d - 1) this.2.2.2.2
   rw [if_neg k3] at this;cases this
  rw [if_neg h3] at h;cases h
theorem Z0z {e:Ed} (hb:BE e):∃ b,J8 e=some b∧(b=true→MC e∧rE e 64=true):=by
 obtain ⟨b,h1,h2⟩:=Z3z hb
 have h3:=Z0w hb (d:=64) (by decide)
 rw [show ((64:Nat):Int)=64 from rfl] at h3
 unfold J8
 rw [h1,Option.bind_some,h3,Zxh hb]
 refine ⟨b && (rE e 64 && lgt e),?_,fun h => ?_⟩
 ·cases b <;> cases rE e 64 <;> cases lgt e <;> rfl
 simp only [Bool.and_eq_true] at h
 rw [h.1] at h1
 obtain ⟨hc,hs⟩:=Z26 hb h1
 have hr:=h.2.1
 have hg:=Ztm _ e 64 (Nat.lt_succ_self _) hb (by omega) hr
 exact ⟨⟨Zyb _ e 64 (Nat.lt_succ_self _) hr,hb,hg,hs,Zxi _ e 64 (Nat.lt_succ_self _) hb hg hc hr⟩,hr⟩
theorem w_l (a b:Int):IntKind.i64.wrap (IntKind.i64.wrap a+b)=IntKind.i64.wrap (a+b):=by rw [IntKind.wrap_i64 a,IntKind.wrap_i64,IntKind.wrap_i64];omega
theorem w_r (a b:Int):IntKind.i64.wrap (a+IntKind.i64.wrap b)=IntKind.i64.wrap (a+b):=by rw [IntKind.wrap_i64 b,IntKind.wrap_i64,IntKind.wrap_i64];omega
theorem w_w (a:Int):IntKind.i64.wrap (IntKind.i64.wrap a)=IntKind.i64.wrap a:=by rw [IntKind.wrap_i64 a,IntKind.wrap_i64];omega
theorem Zlc (a b:Int):IntKind.i64.wrap (IntKind.i64.wrap a+IntKind.i64.wrap b)=IntKind.i64.wrap (a+b):=by rw [w_l,w_r]
theorem Zbg {α:Type} (g:α→Int):∀ (l:List α) (s:Int),l.foldl (fun s x=>s+g x) s=s+(l.map g).sum
 | [],s=>by simp
 | x::l,s=>by rw [List.foldl_cons,Zbg g l,List.map_cons,List.sum_cons];omega
def frS (s:Int×Int) (x:Tr):Int×Int:=(if s.1 < (x.Words.length:Int) then (x.Words.length:Int) else s.1,if s.2 < (x.Kids.length:Int) then (x.Kids.length:Int) else s.2)
def fr (l:List Tr):Int×Int:=l.foldl frS (0,0)
theorem Zw8 {t:Tr} (hl:(t.Kids.length:Int)≤140737488355328):U2 t=some (fr t.Kids):=by
 unfold U2
 rw [(Kl t.Kids (fun (s:Int×Int) (i:Int)=>(s.1,s.2,i)) frS id (fun _=>True) (K1 t) hl (fun s i x _ hi hx hm=>⟨trivial,by
  unfold K1
  simp only
  rw [Ub hi,cond_true,Yn hx,Option.bind_some]
  rfl⟩) (fun s _=>by
  unfold K1
  simp only
  rw [Ua,cond_false]
  rfl) (0,0) trivial).1,Option.bind_some]
 rfl
theorem Zwk {t:Tr} (hl:(t.Kids.length:Int)≤140737488355328):Js t=some (fr t.Kids):=by
 unfold Js
 rw [(Kl t.Kids (fun (s:Int×Int) (i:Int)=>(s.1,s.2,i)) frS id (fun _=>True) (Qo t) hl (fun s i x _ hi hx hm=>⟨trivial,by
  unfold Qo frS
  simp only
  rw [Ub hi,cond_true,Yn hx,Option.bind_some]
  by_cases h1:s.1 < (x.Words.length:Int) <;> by_cases h2:s.2 < (x.Kids.length:Int) <;> simp [h1,h2]⟩) (fun s _=>by
  unfold Qo
  simp only
  rw [Ua,cond_false]
  rfl) (0,0) trivial).1,Option.bind_some]
 rfl
def h9 (l:List Tr):Int:=IntKind.i64.wrap (1+IntKind.i64.wrap ((l.length:Int) * IntKind.i64.wrap ((fr l).1+(fr l).2)))
def Zip (c:Int) (n:Nat):Int:=((n * wid c+63) / 64:Nat)
def sz (t:Tr):Int :=
 if t.Kind=1 then ((t.Words.length:Int)+(t.Kids.length:Int))+(t.Kids.attach.map fun k=>sz k.1).sum
 else if 2≤t.Kind∧t.Kind≤7 then Zip (t.Kind - 2) t.Kids.length
 else if t.Kind=8 then (t.Kids.length:Int)+(t.Kids.attach.map fun k=>sz k.1).sum
 else if t.Kind=9 then h9 t.Kids+(t.Kids.attach.map fun k=>(k.1.Kids.attach.map fun j=>sz j.1).sum).sum
 else 0
termination_by SizeOf.sizeOf t
decreasing_by
 ·exact Qi k.2
 ·exact Qi k.2
 exact Nat.lt_trans (Qi j.2) (Qi k.2)
theorem Zqa (t:Tr):sz t=if t.Kind=1 then ((t.Words.length:Int)+(t.Kids.length:Int))+(t.Kids.map sz).sum
 else if 2≤t.Kind∧t.Kind≤7 then Zip (t.Kind - 2) t.Kids.length
 else if t.Kind=8 then (t.Kids.length:Int)+(t.Kids.map sz).sum
 else if t.Kind=9 then h9 t.Kids+(t.Kids.map fun k=>(k.Kids.map sz).sum).sum
 else 0:=by
 rw [sz]
 have h1:(t.Kids.attach.map fun k=>(k.1.Kids.attach.map fun j=>sz j.1).sum)=t.Kids.map fun k=>(k.Kids.map sz).sum:=by
  have:(fun (k:{ x // x∈t.Kids })=>(k.1.Kids.attach.map fun j=>sz j.1).sum)=fun (k:{ x // x∈t.Kids })=>(fun k:Tr=>(k.Kids.map sz).sum) k.1:=funext fun k=>congrArg List.sum (List.attach_map_val (f:=sz))
  rw [this]
  exact List.attach_map_val (f:=fun k:Tr=>(k.Kids.map sz).sum)
 rw [h1]
 simp only [List.attach_map_val]
theorem c5' {c:Int} (h:0≤c∧c≤5):c=0∨c=1∨c=2∨c=3∨c=4∨c=5:=by omega
theorem Z1f {c:Int} (h:0≤c∧c≤5):X4 c=some ((wid c:Nat):Int):=by
 unfold X4
 rcases c5' h with rfl | rfl | rfl | rfl | rfl | rfl <;> rfl
theorem Zyg {c:Int} (h:0≤c∧c≤5) {n:Nat} (hn:n≤1099511627776):J6 c (n:Int)=some (((n * wid c+63) / 64:Nat):Int):=by
 unfold J6
 rw [Z1f h,Option.bind_some]
 have key:∀ (w p:Nat),(1≤w∧w≤64)→w * p=64→Int.tdiv 64 (w:Int)=(p:Int)→(cond (cond (cond (decide ((w:Int) < 1)) true (decide ((n:Int) < 0))) true (decide ((1099511627776:Int) < (n:Int)))) (some 0) ((some ((w:Nat):Int)).bind fun y5=>(Gt (y5≠0)).bind fun u6=>(Gt ((IntKind.i64.wrap (Int.tdiv 64 y5))≠0)).bind fun u8=>cond (decide (0 < (Int.tmod (n:Int) (IntKind.i64.wrap (Int.tdiv 64 y5))))) ((Gt ((IntKind.i64.wrap (Int.tdiv 64 y5))≠0)).bind fun u10=>some (IntKind.i64.wrap ((IntKind.i64.wrap (Int.tdiv (n:Int) (IntKind.i64.wrap (Int.tdiv 64 y5))))+1))) ((Gt ((IntKind.i64.wrap (Int.tdiv 64 y5))≠0)).bind fun u12=>some (IntKind.i64.wrap (Int.tdiv (n:Int) (IntKind.i64.wrap (Int.tdiv 64 y5)))))))=some (((n * w+63) / 64:Nat):Int):=fun w p hw hp ht=>by
  have hp1:1≤p∧p≤64:=by
   rcases Nat.eq_zero_or_pos p with q | q
   ·rw [q] at hp;omega
   exact ⟨q,by have:=Nat.mul_le_mul_right p hw.1;omega⟩
  have hd:n / p≤n:=Nat.div_le_self _ _
  have hm:p * (n / p)+n % p=n:=Nat.div_add_mod n p
  have hml:n % p < p:=Nat.mod_lt _ hp1.1
  have ed:(n:Int) / (p:Int)=((n / p:Nat):Int):=rfl
  have em:(n:Int) % (p:Int)=((n % p:Nat):Int):=rfl
  have enw:n * w=64 * (n / p)+n % p * w:=by
   have:n * w=(p * (n / p)+n % p) * w:=by rw [hm]
   rw [this,Nat.add_mul,Nat.mul_comm p,Nat.mul_assoc,Nat.mul_comm p,hp,Nat.mul_comm (n / p)]
  rw [show decide ((w:Int) < 1)=false from by rw [decide_eq_false_iff_not];omega,cond_false,show decide ((n:Int) < 0)=false from by rw [decide_eq_false_iff_not];omega,cond_false,show decide ((1099511627776:Int) < (n:Int))=false from by rw [decide_eq_false_iff_not];omega,cond_false,Option.bind_some,ht,Qh (x:=(p:Int)) (by omega) (by omega),Zma (by omega),Option.bind_some,Zma (by omega),Option.bind_some,Int.tmod_eq_emod_of_nonneg (by omega),Int.tdiv_eq_ediv_of_nonneg (by omega),ed,em,Qh (x:=((n / p:Nat):Int)) (by omega) (by omega),Qh (x:=((n / p:Nat):Int)+1) (by omega) (by omega)]
  by_cases q:0 < n % p
  ·have h1:1 * w≤n % p * w:=Nat.mul_le_mul_right _ q
   have h2:(n % p+1) * w≤p * w:=Nat.mul_le_mul_right _ hml
   rw [Nat.mul_comm p,hp,Nat.add_mul,Nat.one_mul] at h2
   rw [show decide ((0:Int) < ((n % p:Nat):Int))=true from by rw [decide_eq_true_eq];omega,cond_true,Option.bind_some]
   congr 1
   generalize n % p * w=z at *
   omega
  have h0:n % p=0:=by omega
  rw [h0,Nat.zero_mul] at enw
  rw [show decide ((0:Int) < ((n % p:Nat):Int))=false from by rw [decide_eq_false_iff_not];omega,cond_false,Option.bind_some]
  congr 1
  omega
 rcases c5' h with rfl | rfl | rfl | rfl | rfl | rfl
 ·rw [show decide (((wid 0:Nat):Int) < 1)=true from rfl,cond_true,cond_true,cond_true,show wid 0=0 from rfl,Nat.mul_zero]
  rfl
 ·exact key 1 64 (by decide) rfl rfl
 ·exact key 8 8 (by decide) rfl rfl
 ·exact key 16 4 (by decide) rfl rfl
 ·exact key 32 2 (by decide) rfl rfl
 exact key 64 1 (by decide) rfl rfl
theorem Z0k {c:Int} (h:0≤c∧c≤5) {n:Nat} (hn:n≤1048576):Zac c (n:Int)=some (Zip c n):=by
 have hw:U3 c=some (((wid c:Nat):Int),true):=by
  unfold U3
  rcases c5' h with rfl | rfl | rfl | rfl | rfl | rfl <;> rfl
 have hb:wid c≤64:=by rcases c5' h with rfl | rfl | rfl | rfl | rfl | rfl <;> decide
 have hm:n * wid c≤1048576 * 64:=Nat.mul_le_mul hn hb
 unfold Zac Zip
 rw [hw,Option.bind_some]
 simp only
 rw [Bool.not_true,cond_false,decide_eq_false (by omega),cond_false,decide_eq_false (by omega),cond_false,← Int.natCast_mul]
 generalize n * wid c=m at hm ⊢
 rw [Qh (x:=(m:Int)) (by omega) (by omega),Qh (x:=(m:Int)+63) (by omega) (by omega),Int.tdiv_eq_ediv_of_nonneg (by omega),Qh (by omega) (by omega)]
 congr 1
theorem Za0 {t:Tr} {d:Nat} (h:rt t d=true):0≤t.Kind∧t.Kind≤10∧t.Kids.length < 1048576∧(t.Kind=0∨t.Kind=10→t.Kids=[])∧∀ k∈t.Kids,rt k (d - 1)=true:=by
 rw [Zd7] at h
 by_cases h0:t.Kind=0
 ·rw [if_pos h0,Bool.and_eq_true,beq_iff_eq,beq_iff_eq] at h
  have:=List.length_eq_zero_iff.1 h.2
  rw [this]
  exact ⟨by omega,by omega,by simp,fun _=>rfl,fun k hk=>by cases hk⟩
 by_cases h1:t.Kind=10
 ·rw [if_neg h0,if_pos h1,Bool.and_eq_true,beq_iff_eq,beq_iff_eq] at h
  have:=List.length_eq_zero_iff.1 h.2
  rw [this]
  exact ⟨by omega,by omega,by simp,fun _=>rfl,fun k hk=>by cases hk⟩
 rw [if_neg h0,if_neg h1] at h
 by_cases hb:t.Kind < 0∨10 < t.Kind∨d=0∨65536≤t.Words.length∨(t.Kind=1∧65536≤t.Kids.length)∨1048576≤t.Kids.length∨(1 < t.Kind∧0 < t.Words.length)
 ·rw [if_pos hb] at h;cases h
 rw [if_neg hb,List.all_eq_true] at h
 refine ⟨by omega,by omega,by omega,fun q=>by omega,fun k hk => ?_⟩
 have:=h k hk
 rw [Bool.and_eq_true] at this
 exact this.1
theorem Zsp {k:Nat} (l:List Tr) (hl:(l.length:Int)≤140737488355328) (h:∀ x∈l,(Yf k).1 x=some (IntKind.i64.wrap (sz x))):Zm (Jx (Yf k).1 l) (0,0)=some (IntKind.i64.wrap (l.map sz).sum):=by
 have:=(Kl l (fun (s:Int) (i:Int)=>(IntKind.i64.wrap s,i)) (fun s x=>s+sz x) (fun s=>IntKind.i64.wrap s) (fun _=>True) (Jx (Yf k).1 l) hl (fun s i x _ hi hx hm=>⟨trivial,by
  unfold Jx
  simp only
  rw [Ub hi,cond_true,Yn hx,Option.bind_some,h x hm,Option.bind_some,Zlc]⟩) (fun s _=>by
  unfold Jx
  simp only
  rw [Ua,cond_false]) 0 trivial).1
 rw [Zbg,Int.zero_add] at this
 exact this
theorem Zuo:∀ (k:Nat),(∀ (t:Tr) (d:Nat),rt t d=true→2 * SizeOf.sizeOf t < k→(Yf k).1 t=some (IntKind.i64.wrap (sz t))) ∧
  (∀ l:List Tr,0 < k→(l.length:Int)≤140737488355328→(∀ x∈l,(∃ d,rt x d=true)∧2 * SizeOf.sizeOf x+1 < k)→(Yf k).2 l=some (IntKind.i64.wrap (l.map sz).sum))
 | 0=>⟨fun _ _ _ h=>by omega,fun _ h=>by omega⟩
 | k+1=>by
  obtain ⟨i1,i2⟩:=Zuo k
  refine ⟨fun t d hr hk => ?_,fun l _ hl h => ?_⟩
  ·obtain ⟨r1,r2,r3,r4,r5⟩:=Za0 hr
   have s0:0 < SizeOf.sizeOf t:=by
    obtain ⟨a,b,c⟩:=t
    simp only [Za.mk.sizeOf_spec]
    omega
   have k0:0 < k:=by omega
   have hs:∀ x∈t.Kids,(∃ d,rt x d=true)∧2 * SizeOf.sizeOf x+1 < k:=fun x hx=>⟨⟨_,r5 x hx⟩,by have:=Qi hx;omega⟩
   have hk9:∀ y∈t.Kids,(Yf k).2 y.Kids=some (IntKind.i64.wrap (y.Kids.map sz).sum):=fun y hy =>
    i2 _ k0 (by have:=(Za0 (r5 y hy)).2.2.1;omega) fun x hx=>⟨⟨_,(Za0 (r5 y hy)).2.2.2.2 x hx⟩,by have:=Qi hx;have:=Qi hy;omega⟩
   show G3 (Yf k).1 (Yf k).2 t=_
   unfold G3 Zcj
   rw [Zqa]
   by_cases h1:t.Kind=1
   ·rw [if_pos h1,show (t.Kind == 1)=true from by rw [h1];rfl,cond_true,i2 _ k0 (by omega) hs,Option.bind_some,Zlc]
   rw [if_neg h1,beq_eq_false_iff_ne.2 h1,cond_false,Option.bind_some]
   by_cases h2:2≤t.Kind∧t.Kind≤7
   ·rw [if_pos h2,decide_eq_true h2.1,cond_true,decide_eq_true h2.2,cond_true,Qh (by omega) (by omega),Z0k (by omega) (by omega),Option.bind_some]
    have:IntKind.i64.wrap (Zip (t.Kind - 2) t.Kids.length)=Zip (t.Kind - 2) t.Kids.length:=by
     have hb:wid (t.Kind - 2)≤64:=by rcases c5' (c:=t.Kind - 2) (by omega) with q | q | q | q | q | q <;> rw [q] <;> decide
     have hm:t.Kids.length * wid (t.Kind - 2)≤1048576 * 64:=Nat.mul_le_mul (by omega) hb
     unfold Zip
     rw [Qh (by omega) (by omega)]
    rw [this]
   rw [if_neg h2]
   have hc:cond (decide (2≤t.Kind)) (decide (t.Kind≤7)) false=false:=by
    rw [G4,Bool.and_eq_false_iff,decide_eq_false_iff_not,decide_eq_false_iff_not];omega
   rw [hc,cond_false]
   by_cases h8:t.Kind=8
   ·rw [if_pos h8,show (t.Kind == 8)=true from by rw [h8];rfl,cond_true,i2 _ k0 (by omega) hs,Option.bind_some,w_r]
   rw [if_neg h8,beq_eq_false_iff_ne.2 h8,cond_false]
   by_cases h9':t.Kind=9
   ·rw [if_pos h9',show (t.Kind == 9)=true from by rw [h9'];rfl,cond_true,Zw8 (by omega),Option.bind_some]
    have:=(Kl t.Kids (fun (s:Int) (i:Int)=>(IntKind.i64.wrap s,i)) (fun s x=>s+(x.Kids.map sz).sum) (fun s=>IntKind.i64.wrap s) (fun _=>True) (Ki (Yf k).2 t) (by omega) (fun s i x _ hi hx hm=>⟨trivial,by
     unfold Ki
     simp only
     rw [Ub hi,cond_true,Yn hx,Option.bind_some,hk9 x hm,Option.bind_some,Zlc]⟩) (fun s _=>by
     unfold Ki
     simp only
     rw [Ua,cond_false]) (h9 t.Kids) trivial).1
    rw [Zbg,show IntKind.i64.wrap (h9 t.Kids)=h9 t.Kids from w_w _] at this
    show (Zm (Ki (Yf k).2 t) (h9 t.Kids,0)).bind _=_
    rw [this,Option.bind_some]
   rw [if_neg h9',beq_eq_false_iff_ne.2 h9',cond_false]
   rfl
  show Ut (Yf k).1 (Yf k).2 l=_
  unfold Ut
  rw [Zsp l hl (fun x hx=>by obtain ⟨⟨d,hd⟩,hh⟩:=h x hx;exact i1 x d hd (by omega)),Option.bind_some]
theorem Z1h {t:Tr} {d:Nat} (h:rt t d=true):Zeo t=some (IntKind.i64.wrap (sz t)):=Zav (2 * SizeOf.sizeOf t+1) fun k hk=>(Zuo k).1 t d h (by omega)
theorem Z0o {t:Tr} {d:Nat} (hb:Bd t) (h:rt t d=true):Zab t=some (IntKind.i64.wrap (sz (nrm t))):=by
 unfold Zab
 rw [Z07 hb,Option.bind_some,Z1h (rtN h),Option.bind_some]
theorem Zkx:∀ (k:Nat) (t:Tr) (d:Nat),rt t d=true→SizeOf.sizeOf t < k→Yi k t=some (IntKind.i64.wrap (sz t))
 | 0,_,_,_,h=>by omega
 | k+1,t,d,hr,hk=>by
  obtain ⟨r1,r2,r3,r4,r5⟩:=Za0 hr
  have ih:∀ x∈t.Kids,Yi k x=some (IntKind.i64.wrap (sz x)):=fun x hx=>Zkx k x _ (r5 x hx) (by have:=Qi hx;omega)
  have ih2:∀ y∈t.Kids,∀ x∈y.Kids,Yi k x=some (IntKind.i64.wrap (sz x)):=fun y hy x hx=>Zkx k x _ ((Za0 (r5 y hy)).2.2.2.2 x hx) (by have:=Qi hx;have:=Qi hy;omega)
  have lp:∀ s:Int,Zm (X5 (Yi k) t) (IntKind.i64.wrap s,0)=some (IntKind.i64.wrap (s+(t.Kids.map sz).sum)):=fun s=>by
   have:=(Kl t.Kids (fun (s:Int) (i:Int)=>(IntKind.i64.wrap s,i)) (fun s x=>s+sz x) (fun s=>IntKind.i64.wrap s) (fun _=>True) (X5 (Yi k) t) (by omega) (fun s i x _ hi hx hm=>⟨trivial,by
    unfold X5
    simp only
    rw [Ub hi,cond_true,Yn hx,Option.bind_some,ih x hm,Option.bind_some,Zlc]⟩) (fun s _=>by
    unfold X5
    simp only
    rw [Ua,cond_false]) s trivial).1
   rw [Zbg] at this
   exact this
  show J3 (Yi k) t=_
  unfold J3
  rw [Zqa]
  by_cases h1:t.Kind=1
  ·rw [if_pos h1,show (t.Kind == 1)=true from by rw [h1];rfl,cond_true,Option.bind_some]
   simp only
   rw [lp,Option.bind_some]
  rw [if_neg h1,beq_eq_false_iff_ne.2 h1,cond_false]
  by_cases h8:t.Kind=8
  ·rw [if_neg (by omega),if_pos h8,show (t.Kind == 8)=true from by rw [h8];rfl,cond_true,Option.bind_some]
   simp only
   have:=lp (t.Kids.length:Int)
   rw [Qh (x:=(t.Kids.length:Int)) (by omega) (by omega)] at this
   rw [this,Option.bind_some]
  rw [beq_eq_false_iff_ne.2 h8,cond_false]
  have hc:(cond (t.Kind == 2) (some (t.Kind == 2)) (cond (t.Kind == 3) (some (t.Kind == 3)) (cond (t.Kind == 4) (some (t.Kind == 4)) (cond (t.Kind == 5) (some (t.Kind == 5)) (cond (t.Kind == 6) (some (t.Kind == 6)) (some (t.Kind == 7)))))))=some (decide (2≤t.Kind∧t.Kind≤7)):=by
   by_cases h2:2≤t.Kind∧t.Kind≤7
   ·rcases (show t.Kind=2∨t.Kind=3∨t.Kind=4∨t.Kind=5∨t.Kind=6∨t.Kind=7 by omega) with q | q | q | q | q | q <;> rw [q] <;> rfl
   rw [decide_eq_false h2,beq_eq_false_iff_ne.2 (by omega:¬ t.Kind=2),beq_eq_false_iff_ne.2 (by omega:¬ t.Kind=3),beq_eq_false_iff_ne.2 (by omega:¬ t.Kind=4),beq_eq_false_iff_ne.2 (by omega:¬ t.Kind=5),beq_eq_false_iff_ne.2 (by omega:¬ t.Kind=6),beq_eq_false_iff_ne.2 (by omega:¬ t.Kind=7)]
   rfl
  rw [hc,Option.bind_some]
  by_cases h2:2≤t.Kind∧t.Kind≤7
  ·have hb:wid (t.Kind - 2)≤64:=by rcases c5' (c:=t.Kind - 2) (by omega) with q | q | q | q | q | q <;> rw [q] <;> decide
   have hm:t.Kids.length * wid (t.Kind - 2)≤1048576 * 64:=Nat.mul_le_mul (by omega) hb
   rw [decide_eq_true h2,cond_true,if_pos h2,Qh (x:=t.Kind - 2) (by omega) (by omega),Zyg (by omega) (by omega),Option.bind_some,Option.bind_some]
   unfold Zip
   rw [Qh (by omega) (by omega)]
  rw [decide_eq_false h2,cond_false,if_neg h2,if_neg h8]
  by_cases h9':t.Kind=9
  ·rw [if_pos h9',show (t.Kind == 9)=true from by rw [h9'];rfl,cond_true,Zwk (by omega),Option.bind_some]
   have:=(Kl t.Kids (fun (s:Int) (i:Int)=>(IntKind.i64.wrap s,i)) (fun s x=>s+(x.Kids.map sz).sum) (fun s=>IntKind.i64.wrap s) (fun _=>True) (Q0 (Yi k) t) (by omega) (fun s i x _ hi hx hm=>⟨trivial,by
    have hxl:=(Za0 (r5 x hm)).2.2.1
    have inner:=(Kl x.Kids (fun (s:Int) (i:Int)=>(IntKind.i64.wrap s,i)) (fun s x=>s+sz x) (fun s=>IntKind.i64.wrap s) (fun _=>True) (Q1 (Yi k) t (IntKind.i64.wrap s,(i:Int))) (by omega) (fun s j y _ hj hy hmy=>⟨trivial,by
     unfold Q1
     simp only
     rw [Yn hx,Option.bind_some,Ub hj,cond_true,Option.bind_some,Yn hy,Option.bind_some,ih2 x hm y hmy,Option.bind_some,Zlc]⟩) (fun s _=>by
     unfold Q1
     simp only
     rw [Yn hx,Option.bind_some,Ua,cond_false]) s trivial).1
    rw [Zbg] at inner
    unfold Q0
    simp only
    rw [Ub hi,cond_true,inner,Option.bind_some]⟩) (fun s _=>by
    unfold Q0
    simp only
    rw [Ua,cond_false]) (h9 t.Kids) trivial).1
   rw [Zbg,show IntKind.i64.wrap (h9 t.Kids)=h9 t.Kids from w_w _] at this
   have h9e:IntKind.i64.wrap (1+IntKind.i64.wrap ((t.Kids.length:Int) * IntKind.i64.wrap ((fr t.Kids).1+(fr t.Kids).2)))=h9 t.Kids:=rfl
   rw [h9e,this,Option.bind_some,Option.bind_some]
  rw [if_neg h9',beq_eq_false_iff_ne.2 h9',cond_false,Option.bind_some]
  simp only
  have:=lp 0
  rw [show IntKind.i64.wrap 0=0 from rfl,r4 (by omega)] at this
  rw [this,Option.bind_some]
  rfl
theorem Zyh {t:Tr} {d:Nat} (h:rt t d=true):U0 t=some (IntKind.i64.wrap (sz t)):=Zav (SizeOf.sizeOf t+1) fun k hk=>Zkx k t d h (by omega)
theorem Zmd {α β γ:Type} (xs:List α) (f:α→β) (c:γ) (step:Int×γ×List β→Option ((Int×γ×List β) ⊕ (γ×List β))) (hl:(xs.length:Int)≤140737488355328)
  (h1:∀ (i:Nat) (x:α) (out:List β),i < xs.length→xs[i]? = some x→x∈xs→out.length=i→step ((i:Int),c,out)=some (.inl (IntKind.i64.wrap ((i:Int)+1),c,out++[f x])))
  (h2:∀ out,step ((xs.length:Int),c,out)=some (.inr (c,out))):Zm step (0,c,[])=some (c,xs.map f):=by
 have key:∀ m i,i+m=xs.length→Zm step ((i:Int),c,(xs.take i).map f)=some (c,xs.map f):=fun m=>by
  induction m with
  | zero =>
   intro i hi
   have hi':i=xs.length:=by omega
   subst hi'
   rw [List.take_length]
   exact Yg (h2 _)
  | succ m ih =>
   intro i hi
   have hx:xs[i]? = some xs[i]:=List.getElem?_eq_getElem (by omega)
   have h:=h1 i _ ((xs.take i).map f) (by omega) hx (List.mem_of_getElem? hx) (by rw [List.length_map,List.length_take];omega)
   rw [Qh (by omega) (by omega)] at h
   rw [Ys h]
   have e:(xs.take i).map f++[f xs[i]]=(xs.take (i+1)).map f:=by
    rw [List.take_add_one,hx,List.map_append]
    rfl
   rw [e]
   exact ih (i+1) (by omega)
 have:=key xs.length 0 (by omega)
 simpa using this
def hdE (e:Ed):Int:=IntKind.u64.wrap (IntKind.i64.wrap (e.Kind+IntKind.i64.wrap (256 * e.List_)))
def hdO (o:Zp):Int:=IntKind.u64.wrap (IntKind.i64.wrap (o.Kind+IntKind.i64.wrap (256 * o.N)))
def wT (w:Zv):Tr:=⟨1,[IntKind.u64.wrap (IntKind.u64.wrap w.At+IntKind.u64.wrap (4294967296 * IntKind.u64.wrap w.Mask)),w.Old,w.New],[]⟩
def Ze1 (l:List Tr):Tr:=if l.length=0 then ⟨0,[],[]⟩ else ⟨9,[],l⟩
def kT (k:Zj) (t:Tr):Tr:=⟨1,[IntKind.u64.wrap k.At],[t]⟩
def opT (l:Int) (o:Zp) (t:Tr):Tr:=⟨1,[hdO o],if o.Kind=3 then [t] else if 0 < o.Kind then [⟨l,[],o.L⟩] else []⟩
def TE (e:Ed):Tr :=
 if e.Kind=0 then ⟨0,[],[]⟩
 else if e.Kind=1 then ⟨1,[hdE e],[e.Old,e.New]⟩
 else if e.Kind=2 then ⟨1,[hdE e],[Ze1 (e.Words.map wT),Ze1 (e.Kids.attach.map fun k=>kT k.1 (TE k.1.E))]⟩
 else ⟨1,[hdE e],[Ze1 (e.Ops.attach.map fun o=>opT e.List_ o.1 (TE o.1.E))]⟩
termination_by SizeOf.sizeOf e
decreasing_by
 ·exact J5 k.2
 exact Va o.2
theorem Zfq (e:Ed):TE e=if e.Kind=0 then ⟨0,[],[]⟩
 else if e.Kind=1 then ⟨1,[hdE e],[e.Old,e.New]⟩
 else if e.Kind=2 then ⟨1,[hdE e],[Ze1 (e.Words.map wT),Ze1 (e.Kids.map fun k=>kT k (TE k.E))]⟩
 else ⟨1,[hdE e],[Ze1 (e.Ops.map fun o=>opT e.List_ o (TE o.E))]⟩:=by
 rw [TE]
 have h1:(e.Kids.attach.map fun k=>kT k.1 (TE k.1.E))=e.Kids.map fun k=>kT k (TE k.E):=List.attach_map_val (f:=fun k:Zj=>kT k (TE k.E))
 have h2:(e.Ops.attach.map fun o=>opT e.List_ o.1 (TE o.1.E))=e.Ops.map fun o=>opT e.List_ o (TE o.E):=List.attach_map_val (f:=fun o:Zp=>opT e.List_ o (TE o.E))
 rw [h1,h2]
theorem Zso (l:List Tr):Qu l=some (Ze1 l):=by
 unfold Qu Ze1
 cases l with
 | nil=>rfl
 | cons x l =>
  have:(((x::l).length:Int) == 0)=false:=by rw [beq_eq_false_iff_ne,List.length_cons];omega
  rw [this,cond_false,if_neg (by simp)]
theorem Zz2:∀ (k:Nat) (e:Ed),GN e→SizeOf.sizeOf e < k→X2 k e=some (TE e)
 | 0,_,_,h=>by omega
 | k+1,e,hg,hk=>by
  have gw:=hg.w
  have gk:=hg.k
  have go:=hg.o
  show J4 (X2 k) e=_
  unfold J4
  rw [Zfq]
  by_cases h0:e.Kind=0
  ·rw [if_pos h0,show (e.Kind == 0)=true from by rw [h0];rfl,cond_true];rfl
  rw [if_neg h0,beq_eq_false_iff_ne.2 h0,cond_false]
  by_cases h1:e.Kind=1
  ·rw [if_pos h1,show (e.Kind == 1)=true from by rw [h1];rfl,cond_true];rfl
  rw [if_neg h1,beq_eq_false_iff_ne.2 h1,cond_false]
  by_cases h2:e.Kind=2
  ·rw [if_pos h2,show (e.Kind == 2)=true from by rw [h2];rfl,cond_true]
   have l0:=Zmd e.Words wT [hdE e] (Q2 e) (by omega) (fun i x out hi hx hm ho=>by
    unfold Q2
    simp only
    rw [Ub hi,cond_true,Yn hx,Option.bind_some,Zfa (by simp only [List.length_singleton];omega) (by simp only [List.length_singleton];omega),Option.bind_some]
    rfl) (fun out=>by
    unfold Q2
    simp only
    rw [Ua,cond_false])
   have l1:=Zxl e.Kids (fun k=>kT k (TE k.E)) (Q3 (X2 k) e) [] (by omega) (fun i x out hi hx hm ho=>by
    unfold Q3
    simp only [List.length_nil] at ho ⊢
    rw [Ub hi,cond_true,Yn hx,Option.bind_some,Zz2 k x.E (hg.ks x hm) (by have:=J5 hm;omega),Option.bind_some,Zfa (by simp only [List.length_singleton];omega) (by simp only [List.length_singleton];omega),Option.bind_some]
    rfl) (fun out=>by
    unfold Q3
    simp only
    rw [Ua,cond_false])
   unfold hdE at l0
   rw [l0,Option.bind_some,l1,Option.bind_some,Zso,Option.bind_some,Zso,Option.bind_some,Option.bind_some]
   rfl
  rw [if_neg h2,beq_eq_false_iff_ne.2 h2,cond_false]
  have l2:=Zmd e.Ops (fun o=>opT e.List_ o (TE o.E)) [hdE e] (Q4 (X2 k) e) (by omega) (fun i x out hi hx hm ho=>by
   unfold Q4
   simp only
   rw [Ub hi,cond_true,Yn hx,Option.bind_some,Zz2 k x.E (hg.os x hm) (by have:=Va hm;omega),Option.bind_some]
   have:(cond (x.Kind == 3) (some (([IntKind.u64.wrap (IntKind.i64.wrap (x.Kind+IntKind.i64.wrap (256 * x.N)))]:List Int),([TE x.E]:List Za))) (cond (decide (0 < x.Kind)) (some (([IntKind.u64.wrap (IntKind.i64.wrap (x.Kind+IntKind.i64.wrap (256 * x.N)))]:List Int),([(⟨e.List_,[],x.L⟩:Za)]:List Za))) (some (([IntKind.u64.wrap (IntKind.i64.wrap (x.Kind+IntKind.i64.wrap (256 * x.N)))]:List Int),([]:List Za)))))=some ((opT e.List_ x (TE x.E)).Words,(opT e.List_ x (TE x.E)).Kids):=by
    unfold opT hdO
    by_cases q:x.Kind=3
    ·rw [if_pos q,show (x.Kind == 3)=true from by rw [q];rfl,cond_true]
    rw [if_neg q,beq_eq_false_iff_ne.2 q,cond_false]
    by_cases q2:0 < x.Kind
    ·rw [if_pos q2,decide_eq_true q2,cond_true]
    rw [if_neg q2,decide_eq_false q2,cond_false]
   rw [this,Option.bind_some,Zfa (by simp only [List.length_singleton];omega) (by simp only [List.length_singleton];omega),Option.bind_some]
   rfl) (fun out=>by
   unfold Q4
   simp only
   rw [Ua,cond_false])
  unfold hdE at l2
  rw [l2,Option.bind_some,Zso,Option.bind_some,Option.bind_some]
  rfl
theorem Z4i {e:Ed} (h:GN e):U1 e=some (TE e):=Zav (SizeOf.sizeOf e+1) fun k hk=>Zz2 k e h (by omega)
abbrev PT:=Zi
def part (t:Tr):PT:=⟨t.Kind != 0,IntKind.i64.wrap (sz (nrm t))⟩
theorem Zbe {t:Tr} (h:t.Kind=0):sz (nrm t)=0:=by
 rw [Kp,if_pos h,Zqa]
 rfl
theorem Zyp (ws:List Int) (ks:List Tr):sz (⟨1,ws,ks⟩:Tr)=((ws.length:Int)+(ks.length:Int))+(ks.map sz).sum:=by rw [Zqa];rfl
theorem Z3l (l:List Tr):sz (⟨9,[],l⟩:Tr)=h9 l+(l.map fun k=>(k.Kids.map sz).sum).sum:=by rw [Zqa];rfl
theorem Zhu {t:Tr} {d:Nat} (hb:Bd t) (h:rt t d=true):Qx t=some (part t):=by
 unfold Qx
 rw [Z0o hb h,Option.bind_some]
 rfl
theorem Z1j (b:Bool) (s:Int):Y0 1 [⟨b,s⟩]=some ⟨true,IntKind.i64.wrap (IntKind.i64.wrap (1+s)+(if b=true then 1 else 0))⟩:=by
 unfold Y0
 have h1:Xs [⟨b,s⟩] (0,1,0)=some (.inl ((if b=true then 1 else 0),IntKind.i64.wrap (1+s),1)):=by cases b <;> rfl
 have h2:∀ c t,Xs [⟨b,s⟩] (c,t,1)=some (.inr (c,t)):=fun c t=>rfl
 rw [Ys h1,Yg (h2 _ _),Option.bind_some]
theorem Z1k (b:Bool) (s:Int) (b':Bool) (s':Int):Y0 1 [⟨b,s⟩,⟨b',s'⟩]=some ⟨true,IntKind.i64.wrap (IntKind.i64.wrap (IntKind.i64.wrap (1+s)+s')+(if b'=true then 2 else if b=true then 1 else 0))⟩:=by
 unfold Y0
 have h1:Xs [⟨b,s⟩,⟨b',s'⟩] (0,1,0)=some (.inl ((if b=true then 1 else 0),IntKind.i64.wrap (1+s),1)):=by cases b <;> rfl
 have h2:∀ c t,Xs [⟨b,s⟩,⟨b',s'⟩] (c,t,1)=some (.inl ((if b'=true then 2 else c),IntKind.i64.wrap (t+s'),2)):=fun c t=>by cases b' <;> rfl
 have h3:∀ c t,Xs [⟨b,s⟩,⟨b',s'⟩] (c,t,2)=some (.inr (c,t)):=fun c t=>rfl
 rw [Ys h1,Ys (h2 _ _),Yg (h3 _ _),Option.bind_some]
theorem Zn9 {w:Int} (h:w≠0):tr (fun x:Int=>x == 0) [w]=[w]:=by
 simp [tr,h]
theorem st1 {w:Int} (hw:w≠0) (a:Tr):Y0 1 [part a]=some (part ⟨1,[w],[a]⟩):=by
 unfold part
 rw [Z1j]
 congr 1
 rw [show nrm (⟨1,[w],[a]⟩:Tr)=⟨1,tr (fun x:Int=>x == 0) [w],tr (fun x:Tr=>x.Kind == 0) [nrm a]⟩ from by rw [Kp];rfl,Zn9 hw,Zyp]
 by_cases q:a.Kind=0
 ·rw [show tr (fun x:Tr=>x.Kind == 0) [nrm a]=[] from by simp [tr,Ju,q],Zbe q]
  simp [q]
  rfl
 rw [show tr (fun x:Tr=>x.Kind == 0) [nrm a]=[nrm a] from by simp [tr,Ju,q]]
 simp only [bne_iff_ne,ne_eq,q,not_false_eq_true,if_true,List.length_singleton,List.map_cons,List.map_nil,List.sum_cons,List.sum_nil]
 rw [w_l,IntKind.wrap_i64 (sz (nrm a)),IntKind.wrap_i64,IntKind.wrap_i64]
 congr 1
 omega
theorem st2 {w:Int} (hw:w≠0) (a b:Tr):Y0 1 [part a,part b]=some (part ⟨1,[w],[a,b]⟩):=by
 unfold part
 rw [Z1k]
 congr 1
 rw [show nrm (⟨1,[w],[a,b]⟩:Tr)=⟨1,tr (fun x:Int=>x == 0) [w],tr (fun x:Tr=>x.Kind == 0) [nrm a,nrm b]⟩ from by rw [Kp];rfl,Zn9 hw,Zyp]
 have e:∀ x y c z:Int,x+y+c=z→IntKind.i64.wrap (IntKind.i64.wrap (IntKind.i64.wrap (1+IntKind.i64.wrap x)+IntKind.i64.wrap y)+c)=IntKind.i64.wrap (1+z):=fun x y c z h=>by
  rw [w_r 1 x,Zlc,w_l]
  congr 1
  omega
 by_cases q2:b.Kind=0
 ·by_cases q:a.Kind=0
  ·rw [show tr (fun x:Tr=>x.Kind == 0) [nrm a,nrm b]=[] from by simp [tr,Ju,q,q2],Zbe q,Zbe q2]
   simp only [q,q2]
   rfl
  rw [show tr (fun x:Tr=>x.Kind == 0) [nrm a,nrm b]=[nrm a] from by simp [tr,Ju,q,q2],Zbe q2]
  simp only [q2,bne_self_eq_false,Bool.false_eq_true,if_false,bne_iff_ne,ne_eq,q,not_false_eq_true,if_true,List.length_singleton,List.map_cons,List.map_nil,List.sum_cons,List.sum_nil]
  refine congrArg _ ((e _ 0 1 _ rfl).trans (congrArg _ ?_))
  omega
 rw [show tr (fun x:Tr=>x.Kind == 0) [nrm a,nrm b]=[nrm a,nrm b] from by simp [tr,Ju,q2]]
 simp only [bne_iff_ne,ne_eq,q2,not_false_eq_true,if_true,List.length_cons,List.length_nil,List.map_cons,List.map_nil,List.sum_cons,List.sum_nil]
 refine congrArg _ ((e _ _ 2 _ rfl).trans (congrArg _ ?_))
 omega
def mx {α:Type} (f:α→Int) (l:List α) (s:Int):Int:=l.foldl (fun s x=>if s < f x then f x else s) s
theorem Zs8:∀ (l:List Tr) (a b:Int),l.foldl frS (a,b)=(mx (fun x=>(x.Words.length:Int)) l a,mx (fun x=>(x.Kids.length:Int)) l b)
 | [],_,_=>rfl
 | x::l,a,b=>by
  rw [List.foldl_cons]
  exact Zs8 l _ _
theorem Zaw {α β:Type} (g:α→β) (f:β→Int) (l:List α) (s:Int):mx f (l.map g) s=mx (fun x=>f (g x)) l s:=by
 unfold mx
 rw [List.foldl_map]
theorem Zc7 {α:Type} {f g:α→Int}:∀ {l:List α} {s:Int},(∀ x∈l,f x=g x)→mx f l s=mx g l s
 | [],_,_=>rfl
 | x::l,s,h=>by
  show mx f l (if s < f x then f x else s)=mx g l (if s < g x then g x else s)
  rw [h x (List.mem_cons_self ..)]
  exact Zc7 fun y hy=>h y (List.mem_cons_of_mem _ hy)
theorem Zkd {α:Type} {c:Int}:∀ (l:List α),mx (fun _=>c) l c=c
 | []=>rfl
 | x::l=>by
  show mx (fun _=>c) l (if c < c then c else c)=c
  rw [if_neg (by omega)]
  exact Zkd l
theorem Zxp {α:Type} {f:α→Int} {c:Int} (h:0 < c) {x:α} {l:List α} (hf:∀ y∈x::l,f y=c):mx f (x::l) 0=c:=by
 rw [Zc7 hf]
 show mx (fun _=>c) l (if 0 < c then c else 0)=c
 rw [if_pos h]
 exact Zkd l
theorem Z34 {α:Type} {f:α→Int} {c:Int} (hc:0 < c) {x:α} {l:List α} (hf:c≤f x):mx f (x::l) 0=mx f (x::l) c:=by
 show mx f l (if 0 < f x then f x else 0)=mx f l (if c < f x then f x else c)
 rw [if_pos (by omega)]
 by_cases q:c < f x
 ·rw [if_pos q]
 rw [if_neg q,show f x=c by omega]
theorem Zkw {l:List Tr} {a b s:Int} (hf:l≠[]→fr (l.map nrm)=(a,b)) (hs:((l.map nrm).map fun k=>(k.Kids.map sz).sum).sum=s):Ue (l.length:Int) a b (IntKind.i64.wrap s)=some (part (Ze1 l)):=by
 unfold Ue part Ze1
 cases l with
 | nil =>
  rw [show ((([]:List Tr).length:Int) == 0)=true from rfl,cond_true,if_pos List.length_nil,Zbe rfl]
  rfl
 | cons x l =>
  rw [show (((x::l).length:Int) == 0)=false from by rw [beq_eq_false_iff_ne,List.length_cons];omega,cond_false,if_neg (by simp)]
  have e:nrm (⟨9,[],x::l⟩:Tr)=⟨9,[],(x::l).map nrm⟩:=by rw [Kp];rfl
  rw [e,Z3l,hs]
  unfold h9
  rw [hf (by simp),List.length_map,Zlc,w_l]
  rfl
theorem Zsy {x:Int} (h:0≤x∧x < 18446744073709551616):IntKind.u64.wrap x=x:=Zwm (by omega)
def Zgw (w:Zv):Int:=if w.New≠0 then 3 else if w.Old≠0 then 2 else 1
theorem Zsz {w:Zv} (h1:0≤w.At∧w.At≤65534) (h2:0 < w.Mask∧w.Mask < 256):((nrm (wT w)).Words.length:Int)=Zgw w∧(nrm (wT w)).Kids=[]:=by
 have hx:IntKind.u64.wrap (IntKind.u64.wrap w.At+IntKind.u64.wrap (4294967296 * IntKind.u64.wrap w.Mask))≠0:=by
  rw [Zsy (x:=w.At) (by omega),Zsy (x:=w.Mask) (by omega),Zsy (x:=4294967296 * w.Mask) (by omega),Zsy (by omega)]
  omega
 have e:nrm (wT w)=⟨1,tr (fun x:Int=>x == 0) [IntKind.u64.wrap (IntKind.u64.wrap w.At+IntKind.u64.wrap (4294967296 * IntKind.u64.wrap w.Mask)),w.Old,w.New],[]⟩:=by rw [Kp];rfl
 rw [e]
 refine ⟨?_,rfl⟩
 unfold Zgw
 generalize IntKind.u64.wrap (IntKind.u64.wrap w.At+IntKind.u64.wrap (4294967296 * IntKind.u64.wrap w.Mask))=z at hx ⊢
 by_cases q:w.New=0 <;> by_cases q2:w.Old=0 <;> simp [tr,q,q2,hx]
theorem Zp9 {α:Type} {g:α→Int}:∀ {l:List α},(∀ x∈l,g x=0)→(l.map g).sum=0
 | [],_=>rfl
 | x::l,h=>by rw [List.map_cons,List.sum_cons,h x (List.mem_cons_self ..),Zp9 fun y hy=>h y (List.mem_cons_of_mem _ hy)];rfl
theorem Zm1 {α:Type} {f g:α→Int} {l:List α} (h:∀ x∈l,f x=g x):(l.map f).sum=(l.map g).sum:=congrArg List.sum (List.map_congr_left h)
theorem Zsg {ws:List Zv} (hl:(ws.length:Int)≤140737488355328) (h:∀ w∈ws,(0≤w.At∧w.At≤65534)∧(0 < w.Mask∧w.Mask < 256)):Vh ws=some (part (Ze1 (ws.map wT))):=by
 unfold Vh
 have hloop:=(Kl ws (fun (s:Int) (i:Int)=>(s,i)) (fun s w=>if s < Zgw w then Zgw w else s) id (fun s=>1≤s∧s≤3) (J9 ws) hl (fun s i x hI hi hx hm=>by
  refine ⟨by unfold Zgw;split <;> split <;> (try split) <;> omega,?_⟩
  unfold J9
  simp only
  rw [Ub hi,cond_true,Yn hx,Option.bind_some]
  by_cases q:x.New=0
  ·by_cases q2:x.Old=0
   ·have e:Zgw x=1:=by unfold Zgw;rw [if_neg (fun c=>c q),if_neg (fun c=>c q2)]
    rw [e,if_neg (by omega:¬ s < 1)]
    simp [q,q2]
   have e:Zgw x=2:=by unfold Zgw;rw [if_neg (fun c=>c q),if_pos q2]
   rw [e]
   rw [show (x.New != 0)=false from by simp [q],cond_false,show (x.Old != 0)=true from by simp [q2],cond_true,Option.bind_some]
  ·have e:Zgw x=3:=by unfold Zgw;rw [if_pos q]
   rw [e,show (if s < 3 then 3 else s)=3 from by split <;> omega,show (x.New != 0)=true from by simp [q],cond_true,Option.bind_some]) (fun s _=>by
  unfold J9
  simp only
  rw [Ua,cond_false]
  rfl) 1 (by omega)).1
 rw [hloop,Option.bind_some]
 have hrow:=Zkw (l:=ws.map wT) (a:=mx Zgw ws 1) (b:=0) (s:=0) (fun hne=>by
  unfold fr
  rw [Zs8,Zaw,Zaw,Zaw,Zaw]
  refine Prod.ext ?_ ?_
  ·show mx (fun w=>((nrm (wT w)).Words.length:Int)) ws 0=mx Zgw ws 1
   rw [Zc7 fun w hw=>(Zsz (h w hw).1 (h w hw).2).1]
   cases ws with
   | nil=>exact absurd rfl hne
   | cons w ws=>exact Z34 (by omega) (by unfold Zgw;split <;> (try split) <;> omega)
  ·show mx (fun w=>((nrm (wT w)).Kids.length:Int)) ws 0=0
   rw [Zc7 (g:=fun _=>0) fun w hw=>by rw [(Zsz (h w hw).1 (h w hw).2).2];rfl]
   exact Zkd ws) (by
  rw [List.map_map,List.map_map]
  refine Zp9 fun w hw => ?_
  show ((nrm (wT w)).Kids.map sz).sum=0
  rw [(Zsz (h w hw).1 (h w hw).2).2]
  rfl)
 rw [List.length_map,show IntKind.i64.wrap 0=0 from rfl] at hrow
 exact (congrArg (fun z=>Option.bind z fun y9=>some y9) hrow).trans rfl
theorem Z3a {k:Zj} {t:Tr} (h1:0≤k.At∧k.At≤65534) (ht:t.Kind≠0):((nrm (kT k t)).Words.length:Int)=(if 0 < k.At then 1 else 0)∧(nrm (kT k t)).Kids=[nrm t]:=by
 have e:nrm (kT k t)=⟨1,tr (fun x:Int=>x == 0) [k.At],tr (fun x:Tr=>x.Kind == 0) [nrm t]⟩:=by
  rw [Kp]
  unfold kT
  rw [Zsy (x:=k.At) (by omega)]
  rfl
 rw [e]
 refine ⟨?_,by simp [tr,Ju,ht]⟩
 by_cases q:k.At=0
 ·rw [q];rfl
 rw [Zn9 q,if_pos (by omega)];rfl
theorem Z1c {l:Int} {o:Zp} {t:Tr} (ho:hdO o≠0) (hk:o.Kind=0∨o.Kind=1∨o.Kind=2∨o.Kind=3) (ht:o.Kind=0→t.Kind=0) (hl:l≠0) :
  ((nrm (opT l o t)).Words.length:Int)=1∧((nrm (opT l o t)).Kids.length:Int)=(if (if o.Kind=1∨o.Kind=2 then (⟨l,[],o.L⟩:Tr) else t).Kind≠0 then 1 else 0)∧((nrm (opT l o t)).Kids.map sz).sum=sz (nrm (if o.Kind=1∨o.Kind=2 then (⟨l,[],o.L⟩:Tr) else t)):=by
 have e:nrm (opT l o t)=⟨1,[hdO o],tr (fun x:Tr=>x.Kind == 0) ((if o.Kind=3 then [t] else if 0 < o.Kind then [(⟨l,[],o.L⟩:Tr)] else []).map nrm)⟩:=by
  rw [Kp]
  unfold opT
  simp only
  rw [if_neg (by decide),if_pos True.intro,Zn9 ho]
 rw [e]
 refine ⟨rfl,?_⟩
 simp only
 have one:∀ x:Tr,((tr (fun x:Tr=>x.Kind == 0) ([x].map nrm)).length:Int)=(if x.Kind≠0 then 1 else 0)∧((tr (fun x:Tr=>x.Kind == 0) ([x].map nrm)).map sz).sum=sz (nrm x):=fun x=>by
  by_cases q:x.Kind=0
  ·rw [show tr (fun x:Tr=>x.Kind == 0) ([x].map nrm)=[] from by simp [tr,Ju,q],if_neg (by omega),Zbe q]
   exact ⟨rfl,rfl⟩
  rw [show tr (fun x:Tr=>x.Kind == 0) ([x].map nrm)=[nrm x] from by simp [tr,Ju,q],if_pos q]
  refine ⟨rfl,?_⟩
  rw [List.map_cons,List.map_nil,List.sum_cons,List.sum_nil]
  omega
 rcases hk with q | q | q | q
 ·rw [if_neg (by omega:¬ o.Kind=3),if_neg (by omega:¬ 0 < o.Kind),if_neg (by omega:¬ (o.Kind=1∨o.Kind=2)),if_neg (by rw [ht q];decide),Zbe (ht q)]
  exact ⟨rfl,rfl⟩
 ·rw [if_neg (by omega:¬ o.Kind=3),if_pos (by omega:0 < o.Kind),if_pos (by omega:(o.Kind=1∨o.Kind=2))]
  exact one _
 ·rw [if_neg (by omega:¬ o.Kind=3),if_pos (by omega:0 < o.Kind),if_pos (by omega:(o.Kind=1∨o.Kind=2))]
  exact one _
 rw [if_pos q,if_neg (by omega:¬ (o.Kind=1∨o.Kind=2))]
 exact one _
theorem Zur (e:Ed):(TE e).Kind=if e.Kind=0 then 0 else 1:=by
 rw [Zfq]
 split
 ·rfl
 split
 ·rfl
 split <;> rfl
theorem Zyj {l:List Tr} {d:Nat} (h:rt (Ze1 l) d=true):∀ x∈l,rt x (d - 1)=true:=fun x hx=>by
 unfold Ze1 at h
 rw [if_neg (by intro c;rw [List.length_eq_zero_iff.1 c] at hx;cases hx)] at h
 exact (Za0 h).2.2.2.2 x hx
theorem Zhx {α:Type} (f g:α→Int):∀ (l:List α) (a b:Int),l.foldl (fun (s:Int×Int) x=>(if s.1 < f x then f x else s.1,s.2+g x)) (a,b)=(mx f l a,b+(l.map g).sum)
 | [],a,b=>by
  rw [List.map_nil,List.sum_nil,Int.add_zero]
  rfl
 | x::l,a,b=>by
  rw [List.foldl_cons,Zhx f g l,List.map_cons,List.sum_cons,Int.add_assoc]
  rfl
def fk (x:Zj):Int:=if 0 < x.At then 1 else 0
theorem Zwe {k:Nat} {l:List Zj} (hl:(l.length:Int)≤140737488355328) (hA:∀ x∈l,0≤x.At∧x.At≤65534) (hK:∀ x∈l,x.E.Kind≠0) (ih:∀ x∈l,(Zr k).1 x.E=some (part (TE x.E))) :
  (Zr (k+1)).2.1 l=some (part (Ze1 (l.map fun x=>kT x (TE x.E)))):=by
 show Vz (Zr k).1 (Zr k).2.1 (Zr k).2.2 l=_
 unfold Vz
 have hloop:=(Kl l (fun (s:Int×Int) (i:Int)=>(s.1,IntKind.i64.wrap s.2,i)) (fun (s:Int×Int) x=>(if s.1 < fk x then fk x else s.1,s.2+sz (nrm (TE x.E)))) (fun s=>(s.1,IntKind.i64.wrap s.2)) (fun s=>0≤s.1∧s.1≤1) (Jk (Zr k).1 l) hl (fun s i x hI hi hx hm=>by
  refine ⟨by unfold fk;simp only;split <;> split <;> omega,?_⟩
  unfold Jk
  simp only
  rw [Ub hi,cond_true,Yn hx,Option.bind_some,ih x hm]
  by_cases q:0 < x.At
  ·have e:fk x=1:=if_pos q
   rw [decide_eq_true q,cond_true,Option.bind_some,Option.bind_some,e,show (if s.1 < 1 then 1 else s.1)=1 from by split <;> omega]
   unfold part
   simp only
   rw [Zlc]
  ·have e:fk x=0:=if_neg q
   rw [decide_eq_false q,cond_false,Option.bind_some,Option.bind_some,e,if_neg (by omega:¬ s.1 < 0)]
   unfold part
   simp only
   rw [Zlc]) (fun s _=>by
  unfold Jk
  simp only
  rw [Ua,cond_false]) (0,0) ⟨by decide,by decide⟩).1
 have hloop':Zm (Jk (Zr k).1 l) (0,0,0)=some (mx fk l 0,IntKind.i64.wrap (l.map fun x=>sz (nrm (TE x.E))).sum):=by
  rw [Zhx fk fun x=>sz (nrm (TE x.E))] at hloop
  simp only at hloop
  rw [Int.zero_add] at hloop
  exact hloop
 rw [hloop',Option.bind_some]
 have hn:∀ x∈l,_:=fun x hx=>Z3a (k:=x) (t:=TE x.E) (hA x hx) (by rw [Zur,if_neg (hK x hx)];decide)
 have hrow:=Zkw (l:=l.map fun x=>kT x (TE x.E)) (a:=mx fk l 0) (b:=1) (s:=(l.map fun x=>sz (nrm (TE x.E))).sum) (fun hne=>by
  unfold fr
  rw [Zs8,Zaw,Zaw,Zaw,Zaw]
  refine Prod.ext ?_ ?_
  ·exact Zc7 fun x hx=>(hn x hx).1
  ·cases l with
   | nil=>exact absurd rfl hne
   | cons y l=>exact Zxp (by omega) fun x hx=>by rw [(hn x hx).2];rfl) (by
  rw [List.map_map,List.map_map]
  refine Zm1 fun x hx => ?_
  show ((nrm (kT x (TE x.E))).Kids.map sz).sum=_
  rw [(hn x hx).2,List.map_cons,List.map_nil,List.sum_cons,List.sum_nil]
  omega)
 rw [List.length_map] at hrow
 exact (congrArg (fun z=>Option.bind z fun y9=>some y9) hrow).trans rfl
def aT (l:Int) (o:Zp):Tr:=if o.Kind=1∨o.Kind=2 then (⟨l,[],o.L⟩:Tr) else TE o.E
def fo (l:Int) (o:Zp):Int:=if (aT l o).Kind≠0 then 1 else 0
theorem Zxs {k:Nat} {l:List Zp} {li:Int} (hli:2≤li) (hl:(l.length:Int)≤140737488355328) (hH:∀ x∈l,hdO x≠0) (hK:∀ x∈l,x.Kind=0∨x.Kind=1∨x.Kind=2∨x.Kind=3) (h0:∀ x∈l,x.Kind=0→x.E.Kind=0)
  (hT:∀ x∈l,x.Kind=1∨x.Kind=2→Qx ⟨li,[],x.L⟩=some (part ⟨li,[],x.L⟩)) (ih:∀ x∈l,(Zr k).1 x.E=some (part (TE x.E))) :
  (Zr (k+1)).2.2 li l=some (part (Ze1 (l.map fun o=>opT li o (TE o.E)))):=by
 show Us (Zr k).1 (Zr k).2.1 (Zr k).2.2 li l=_
 unfold Us
 have hloop:=(Kl l (fun (s:Int×Int) (i:Int)=>(s.1,IntKind.i64.wrap s.2,i)) (fun (s:Int×Int) x=>(if s.1 < fo li x then fo li x else s.1,s.2+sz (nrm (aT li x)))) (fun s=>(s.1,IntKind.i64.wrap s.2)) (fun s=>0≤s.1∧s.1≤1) (Jw (Zr k).1 li l) hl (fun s i x hI hi hx hm=>by
  refine ⟨by unfold fo;simp only;split <;> split <;> omega,?_⟩
  unfold Jw
  simp only
  rw [Ub hi,cond_true,Yn hx,Option.bind_some,ih x hm,Option.bind_some]
  have hz:(cond (cond (x.Kind == 1) true (x.Kind == 2)) ((Qx (⟨li,[],x.L⟩:Za)).bind fun y6=>some (y6.something,y6.size)) (some ((part (TE x.E)).something,(part (TE x.E)).size)))=some ((aT li x).Kind != 0,IntKind.i64.wrap (sz (nrm (aT li x)))):=by
   unfold aT
   by_cases q:x.Kind=1∨x.Kind=2
   ·have:cond (x.Kind == 1) true (x.Kind == 2)=true:=by
     rcases q with q | q <;> rw [q] <;> rfl
    rw [this,cond_true,hT x hm q,Option.bind_some,if_pos q]
    rfl
   have:cond (x.Kind == 1) true (x.Kind == 2)=false:=by
    rw [beq_eq_false_iff_ne.2 (fun c=>q (.inl c)),cond_false,beq_eq_false_iff_ne.2 (fun c=>q (.inr c))]
   rw [this,cond_false,if_neg q]
   rfl
  rw [hz,Option.bind_some]
  simp only
  by_cases q:(aT li x).Kind=0
  ·have e:fo li x=0:=if_neg fun c=>c q
   rw [show ((aT li x).Kind != 0)=false from by simp [q],cond_false,Option.bind_some,e,if_neg (by omega:¬ s.1 < 0),Zlc]
  ·have e:fo li x=1:=if_pos q
   rw [show ((aT li x).Kind != 0)=true from by simp [q],cond_true,Option.bind_some,e,show (if s.1 < 1 then 1 else s.1)=1 from by split <;> omega,Zlc]) (fun s _=>by
  unfold Jw
  simp only
  rw [Ua,cond_false]) (0,0) ⟨by decide,by decide⟩).1
 have hloop':Zm (Jw (Zr k).1 li l) (0,0,0)=some (mx (fo li) l 0,IntKind.i64.wrap (l.map fun x=>sz (nrm (aT li x))).sum):=by
  rw [Zhx (fo li) fun x=>sz (nrm (aT li x))] at hloop
  simp only at hloop
  rw [Int.zero_add] at hloop
  exact hloop
 rw [hloop',Option.bind_some]
 have hn:∀ x∈l,_:=fun x hx=>Z1c (l:=li) (o:=x) (t:=TE x.E) (hH x hx) (hK x hx) (fun q=>by rw [Zur,if_pos (h0 x hx q)]) (by omega)
 have hrow:=Zkw (l:=l.map fun o=>opT li o (TE o.E)) (a:=1) (b:=mx (fo li) l 0) (s:=(l.map fun x=>sz (nrm (aT li x))).sum) (fun hne=>by
  unfold fr
  rw [Zs8,Zaw,Zaw,Zaw,Zaw]
  refine Prod.ext ?_ ?_
  ·cases l with
   | nil=>exact absurd rfl hne
   | cons y l=>exact Zxp (by omega) fun x hx=>(hn x hx).1
  ·exact Zc7 fun x hx=>(hn x hx).2.1) (by
  rw [List.map_map,List.map_map]
  refine Zm1 fun x hx => ?_
  exact (hn x hx).2.2)
 rw [List.length_map] at hrow
 exact (congrArg (fun z=>Option.bind z fun y9=>some y9) hrow).trans rfl
theorem Zse {e:Ed} (h1:1≤e.Kind∧e.Kind≤3) (h2:0≤e.List_∧e.List_≤9):hdE e≠0:=by
 unfold hdE
 rw [Qh (x:=256 * e.List_) (by omega) (by omega),Qh (by omega) (by omega),Zsy (by omega)]
 omega
theorem Z29 {o:Zp} {l:Int} {r:Bool} (h:okO l o r=true):hdO o≠0∧(o.Kind=0∨o.Kind=1∨o.Kind=2∨o.Kind=3)∧(o.Kind≠3→Uo o.E=true)∧(o.Kind=3→r=true):=by
 unfold okO at h
 have val:∀ k N:Int,o.Kind=k→o.N=N→0≤k→k≤3→0≤N→N≤1048576→0 < k+N→hdO o≠0:=fun k N hk hN a b c d f=>by
  unfold hdO
  rw [hk,hN,Qh (x:=256 * N) (by omega) (by omega),Qh (by omega) (by omega),Zsy (by omega)]
  omega
 by_cases h0:o.Kind=0
 ·rw [if_pos h0] at h
  simp only [Bool.and_eq_true,decide_eq_true_eq] at h
  exact ⟨val 0 o.N h0 rfl (by omega) (by omega) (by omega) (by omega) (by omega),.inl h0,fun _=>h.2.2,fun q=>by omega⟩
 rw [if_neg h0] at h
 by_cases h1:o.Kind=1∨o.Kind=2
 ·rw [if_pos h1] at h
  simp only [Bool.and_eq_true,beq_iff_eq] at h
  exact ⟨val o.Kind 0 rfl h.1 (by omega) (by omega) (by omega) (by omega) (by omega),by omega,fun _=>h.2.2.2,fun q=>by omega⟩
 rw [if_neg h1] at h
 by_cases h3:o.Kind=3
 ·rw [if_pos h3] at h
  simp only [Bool.and_eq_true,beq_iff_eq] at h
  exact ⟨val 3 0 h3 h.1 (by omega) (by omega) (by omega) (by omega) (by omega),.inr (.inr (.inr h3)),fun q=>absurd h3 q,fun _=>h.2.2.2.2⟩
 rw [if_neg h3] at h;cases h
theorem Zuk {e:Ed} (h:Uo e=true):e.Kind=0∧rE e 1=true:=by
 have h0:e.Kind=0:=by
  unfold Uo at h
  rw [Bool.and_eq_true,beq_iff_eq] at h
  exact h.1
 exact ⟨h0,by rw [Zfu,if_neg (by omega),if_pos h0];exact h⟩
theorem Zjc (d:Nat):rt ⟨0,[],[]⟩ d=true:=by
 rw [Zd7,if_pos rfl]
 rfl
theorem Zi6:∀ (k:Nat) (e:Ed) (d d':Nat),BE e→GN e→rE e d=true→rt (TE e) d'=true→2 * SizeOf.sizeOf e < k→(Zr k).1 e=some (part (TE e))
 | 0,_,_,_,_,_,_,_,h=>by omega
 | 1,e,_,_,_,_,_,_,h=>by
  have:0 < SizeOf.sizeOf e:=by
   obtain ⟨a,b,c,d,f,g,i⟩:=e
   simp only [Zd.mk.sizeOf_spec]
   omega
  omega
 | k+2,e,d,d',hb,hg,hr,ht,hk=>by
  have gk:=hg.k
  have go:=hg.o
  have gw:=hg.w
  show Vy (Zr (k+1)).1 (Zr (k+1)).2.1 (Zr (k+1)).2.2 e=_
  unfold Vy
  rw [Zfu] at hr
  by_cases hd:d=0
  ·rw [if_pos hd] at hr;cases hr
  rw [if_neg hd] at hr
  by_cases h0:e.Kind=0
  ·rw [beq_eq_false_iff_ne.2 (by omega:¬ e.Kind=1),cond_false,beq_eq_false_iff_ne.2 (by omega:¬ e.Kind=2),cond_false,beq_eq_false_iff_ne.2 (by omega:¬ e.Kind=3),cond_false,Zfq,if_pos h0]
   unfold part
   rw [Zbe rfl]
   rfl
  rw [if_neg h0] at hr
  by_cases h1:e.Kind=1
  ·rw [if_pos h1] at hr
   simp only [Bool.and_eq_true] at hr
   have hl:e.List_=0:=by
    have:=hr.1.2
    unfold Zax at this
    rw [Bool.and_eq_true,beq_iff_eq] at this
    exact this.1
   rw [show (e.Kind == 1)=true from by rw [h1];rfl,cond_true,Zhu hb.old hr.2.1.1,Option.bind_some,Zhu hb.new hr.2.2.1,Option.bind_some,st2 (Zse (e:=e) (by omega) (by omega)),Option.bind_some,Zfq,if_neg h0,if_pos h1]
  rw [if_neg h1] at hr
  by_cases h2:e.Kind=2
  ·rw [if_pos h2] at hr
   simp only [Bool.and_eq_true] at hr
   obtain ⟨⟨_,hlo⟩,hw,hkd⟩:=hr
   have hl:e.List_=0:=by
    unfold Zax at hlo
    rw [Bool.and_eq_true,beq_iff_eq] at hlo
    exact hlo.1
   rw [Zfq,if_neg h0,if_neg h1,if_pos h2] at ht ⊢
   have hrow:=Zyj ((Za0 ht).2.2.2.2 _ (List.mem_cons_of_mem _ (List.mem_cons_self ..)))
   have hkr:=Zc1 (ok:=okK (d - 1)) (pl:=(·.At)) (fun p x hx=>by
    unfold okK okP at hx
    simp only [Bool.and_eq_true,Bool.not_eq_true',Bool.or_eq_false_iff,decide_eq_false_iff_not] at hx
    omega) _ _ hkd
   have hkm:=Zdr (Q:=fun x:Zj=>x.E.Kind≠0∧rE x.E (d - 1)=true) (fun p x hx=>by
    unfold okK okP at hx
    simp only [Bool.and_eq_true,bne_iff_ne] at hx
    exact hx.2) _ _ hkd
   have hwr:=Zc1 Zkf _ _ hw
   have hwm:=Zdr (Q:=fun x:Zv=>x.Mask≠0) (fun p x hx=>by
    unfold okW at hx
    simp only [Bool.not_eq_true',Bool.or_eq_false_iff,beq_eq_false_iff_ne] at hx
    exact hx.1.1.2) _ _ hw
   rw [beq_eq_false_iff_ne.2 h1,cond_false,show (e.Kind == 2)=true from by rw [h2];rfl,cond_true,Zsg (by omega) (fun w hw'=>by
    have a1:=hwr.1 w hw'
    have a2:=hwm w hw'
    have a3:=(hb.ws w hw').1
    omega),Option.bind_some,Zwe (by omega) (fun x hx=>by have:=hkr.1 x hx;omega) (fun x hx=>(hkm x hx).1) (fun x hx=>by
    have r1:=hrow _ (List.mem_map.2 ⟨x,hx,rfl⟩)
    have r2:=(Za0 r1).2.2.2.2 (TE x.E) (List.mem_cons_self ..)
    exact Zi6 k x.E (d - 1) _ (hb.ks x hx) (hg.ks x hx) (hkm x hx).2 r2 (by have:=J5 hx;omega)),Option.bind_some,st2 (Zse (e:=e) (by omega) (by omega)),Option.bind_some]
  rw [if_neg h2] at hr
  by_cases h3:e.Kind=3
  ·rw [if_pos h3] at hr
   simp only [Bool.and_eq_true,decide_eq_true_eq,List.all_eq_true] at hr
   obtain ⟨_,⟨l2,l9⟩,hops,_⟩:=hr
   rw [Zfq,if_neg h0,if_neg h1,if_neg h2] at ht ⊢
   have hrow:=Zyj ((Za0 ht).2.2.2.2 _ (List.mem_cons_self ..))
   have hop:=fun o ho=>Z29 (hops o ho)
   rw [beq_eq_false_iff_ne.2 h1,cond_false,beq_eq_false_iff_ne.2 h2,cond_false,show (e.Kind == 3)=true from by rw [h3];rfl,cond_true,Zxs l2 (by omega) (fun x hx=>(hop x hx).1) (fun x hx=>(hop x hx).2.1) (fun x hx q=>(Zuk ((hop x hx).2.2.1 (by omega))).1) (fun x hx q=>by
    have r1:=hrow _ (List.mem_map.2 ⟨x,hx,rfl⟩)
    have r2:=(Za0 r1).2.2.2.2 (⟨e.List_,[],x.L⟩:Tr) (by unfold opT;rw [if_neg (by omega),if_pos (by omega)];exact List.mem_cons_self ..)
    exact Zhu (.mk _ (by simp) (hb.l x hx).1 (fun w hw=>by cases hw) (hb.l x hx).2) r2) (fun x hx=>by
    by_cases q:x.Kind=3
    ·have r1:=hrow _ (List.mem_map.2 ⟨x,hx,rfl⟩)
     have r2:=(Za0 r1).2.2.2.2 (TE x.E) (by unfold opT;rw [if_pos q];exact List.mem_cons_self ..)
     exact Zi6 k x.E (d - 1) _ (hb.os x hx) (hg.os x hx) ((hop x hx).2.2.2 q) r2 (by have:=Va hx;omega)
    obtain ⟨n1,n2⟩:=Zuk ((hop x hx).2.2.1 q)
    exact Zi6 k x.E 1 0 (hb.os x hx) (hg.os x hx) n2 (by rw [Zfq,if_pos n1];exact Zjc 0) (by have:=Va hx;omega)),Option.bind_some,st1 (Zse (e:=e) (by omega) (by omega)),Option.bind_some]
  rw [if_neg h3] at hr;cases hr
theorem Zm8 {e:Ed} {d d':Nat} (hb:BE e) (hg:GN e) (hr:rE e d=true) (ht:rt (TE e) d'=true):Kv e=some (IntKind.i64.wrap (1+sz (nrm (TE e)))):=by
 have:Zcv e=some (part (TE e)):=Zav (2 * SizeOf.sizeOf e+1) fun k hk=>Zi6 k e d d' hb hg hr ht (by omega)
 unfold Kv
 rw [this,Option.bind_some]
 unfold part
 simp only
 rw [w_r]
theorem Zn3 {l:List Tr} (hl:l.length≤1048576) (h:∀ x∈l,Bd x):Bd (Ze1 l):=by
 unfold Ze1
 split
 ·exact .mk _ (by simp) (by simp) (fun _ h=>by cases h) (fun _ h=>by cases h)
 exact .mk _ (by simp) (by simp only;omega) (fun _ h=>by cases h) h
theorem Z59 (x:Int):0≤IntKind.u64.wrap x∧IntKind.u64.wrap x < 18446744073709551616:=by
 rw [show IntKind.u64.wrap x=x % 18446744073709551616 from by simp [IntKind.wrap,IntKind.bits,IntKind.signed]]
 omega
theorem Zz1:∀ (n:Nat) (e:Ed),SizeOf.sizeOf e < n→BE e→GN e→Bd (TE e)
 | 0,_,h,_,_=>by omega
 | n+1,e,hn,hb,hg=>by
  have gk:=hg.k
  have go:=hg.o
  have gw:=hg.w
  have nn:∀ {α:Type} {P:α→Prop} {x:α},x∈([]:List α)→P x:=fun h=>by cases h
  have hw1:∀ z:Int,∀ w∈[IntKind.u64.wrap z],0≤w∧w < 18446744073709551616:=fun z w hw=>by
   rw [List.mem_singleton.1 hw];exact Z59 z
  rw [Zfq]
  split
  ·exact .mk _ (by simp) (by simp) (fun _ h=>by cases h) (fun _ h=>by cases h)
  split
  ·refine .mk _ (by simp) (by simp) (hw1 _) (fun k hk => ?_)
   rcases List.mem_cons.1 hk with rfl | hk
   ·exact hb.old
   rw [List.mem_singleton.1 hk];exact hb.new
  split
  ·refine .mk _ (by simp) (by simp) (hw1 _) (fun k hk => ?_)
   rcases List.mem_cons.1 hk with rfl | hk
   ·refine Zn3 (by rw [List.length_map];exact gw) fun x hx => ?_
    obtain ⟨w,hw,rfl⟩:=List.mem_map.1 hx
    have:=hb.ws w hw
    refine .mk _ (by simp [wT]) (by simp [wT]) (fun z hz => ?_) (fun _ h=>by cases h)
    rcases List.mem_cons.1 hz with rfl | hz
    ·exact Z59 _
    rcases List.mem_cons.1 hz with rfl | hz
    ·exact this.2.1
    rw [List.mem_singleton.1 hz];exact this.2.2
   rw [List.mem_singleton.1 hk]
   refine Zn3 (by rw [List.length_map];exact gk) fun x hx => ?_
   obtain ⟨w,hw,rfl⟩:=List.mem_map.1 hx
   refine .mk _ (by simp [kT]) (by simp [kT]) (hw1 _) (fun z hz => ?_)
   rw [List.mem_singleton.1 hz]
   exact Zz1 n w.E (by have:=J5 hw;omega) (hb.ks w hw) (hg.ks w hw)
  refine .mk _ (by simp) (by simp) (hw1 _) (fun k hk => ?_)
  rw [List.mem_singleton.1 hk]
  refine Zn3 (by rw [List.length_map];exact go) fun x hx => ?_
  obtain ⟨o,ho,rfl⟩:=List.mem_map.1 hx
  unfold opT
  split
  ·refine .mk _ (by simp) (by simp) (hw1 _) (fun z hz => ?_)
   rw [List.mem_singleton.1 hz]
   exact Zz1 n o.E (by have:=Va ho;omega) (hb.os o ho) (hg.os o ho)
  split
  ·refine .mk _ (by simp) (by simp) (hw1 _) (fun z hz => ?_)
   rw [List.mem_singleton.1 hz]
   exact .mk _ (by simp) (hb.l o ho).1 (fun w hw=>by cases hw) (hb.l o ho).2
  exact .mk _ (by simp) (by simp) (hw1 _) (fun _ h=>by cases h)
theorem Zm7:X3=some true:=by
 have b0:Bd ⟨0,[],[]⟩ := .mk _ (by simp) (by simp) (fun _ h=>by cases h) (fun _ h=>by cases h)
 have bE:∀ k,BE ⟨k,⟨0,[],[]⟩,⟨0,[],[]⟩,[],[],0,[]⟩:=fun k => .mk _ b0 b0 (by simp) (fun _ h=>by cases h) (by simp) (fun _ h=>by cases h) (by simp) (fun _ h=>by cases h) (fun _ h=>by cases h)
 have gE:∀ k,GN ⟨k,⟨0,[],[]⟩,⟨0,[],[]⟩,[],[],0,[]⟩:=fun k => .mk _ (by simp) (by simp) (by simp) (by simp [Zdj]) (fun _ h=>by cases h) (fun _ h=>by cases h) (fun _ h=>by cases h)
 have r0:rE ⟨0,⟨0,[],[]⟩,⟨0,[],[]⟩,[],[],0,[]⟩ 1=true:=by rw [Zfu,if_neg (by omega),if_pos rfl];decide
 have r1:rE ⟨1,⟨0,[],[]⟩,⟨0,[],[]⟩,[],[],0,[]⟩ 1=true:=by
  rw [Zfu,if_neg (by decide),if_neg (by decide),if_pos rfl,Zjc]
  decide
 have t0:TE ⟨0,⟨0,[],[]⟩,⟨0,[],[]⟩,[],[],0,[]⟩=⟨0,[],[]⟩:=by rw [Zfq,if_pos rfl]
 have t1:TE ⟨1,⟨0,[],[]⟩,⟨0,[],[]⟩,[],[],0,[]⟩=⟨1,[1],[⟨0,[],[]⟩,⟨0,[],[]⟩]⟩:=by rw [Zfq,if_neg (by decide),if_pos rfl];rfl
 have q1:rt ⟨1,[1],[⟨0,[],[]⟩,⟨0,[],[]⟩]⟩ 2=true:=by
  rw [Zd7,if_neg (by decide),if_neg (by decide),if_neg (by decide)]
  simp only [List.all_cons,List.all_nil,Zjc]
  decide
 have s1:sz (nrm ⟨1,[1],[⟨0,[],[]⟩,⟨0,[],[]⟩]⟩)=1:=by
  have e0:nrm ⟨0,[],[]⟩=⟨0,[],[]⟩:=by rw [Kp,if_pos rfl]
  rw [Kp,if_neg (by decide),if_pos rfl,Zyp,List.map_cons,List.map_cons,List.map_nil,e0]
  rfl
 unfold X3
 rw [Zm8 (bE 0) (gE 0) r0 (by rw [t0];exact Zjc 1),Option.bind_some,Zm8 (bE 1) (gE 1) r1 (by rw [t1];exact q1),t0,t1,s1,Zbe rfl]
 rfl
theorem Zou {e:Ed} (hb:BE e):Ji e=some true:=by
 obtain ⟨b,h1,h2⟩:=Z0z hb
 unfold Ji
 rw [h1,Option.bind_some]
 cases b with
 | false=>rw [Zm7];rfl
 | true =>
 rw [Bool.not_true,cond_false]
 obtain ⟨mc,hr⟩:=h2 rfl
 have bt:=Zz1 _ e (Nat.lt_succ_self _) hb mc.g
 have hrt:=Zff bt (d:=64) (by decide)
 rw [show ((64:Nat):Int)=64 from rfl] at hrt
 rw [Z4i mc.g,Option.bind_some,hrt,Option.bind_some]
 cases q:rt (TE e) 64 with
 | false=>rw [Bool.not_false,cond_true,Zm7];rfl
 | true =>
 rw [Bool.not_true,cond_false,Zm8 hb mc.g hr q,Option.bind_some,Zyf bt,Option.bind_some,Zyh (rtN q),Option.bind_some,w_l,Int.add_comm,Zm7]
 simp only [beq_self_eq_true,cond_true,Option.bind_some]
end Go.Proofs.Ytjeakjakgocoaaa
