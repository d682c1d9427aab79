/- Part YA; each theorem bears its own conditions. -/
import Derived.Test.YtmjjjfamipncdaaGreatXA
namespace Go.Proofs.YtmjjjfamipncdaaGreat
open Go.RowKit
set_option linter.unusedVariables false
set_option linter.unusedSimpArgs false
set_option maxRecDepth 100000
set_option maxHeartbeats 4000000
attribute [local push_cast] Xu Yx Zn J3 Zx Yk Zi Zh Ze Xn Zbs Zab Znd Zi8 Zd4 Zd8 Zd3 Zd7 Zg8 Zg3 Zd6 Zg7 Zg6 Zg5 Zd5 Zg2 Zcw evS wok Q0 Op.operands Call.operands gop atK List.all_cons List.all_nil Value.oneCell' List.take_zero List.take_succ_cons Nat.add_zero K7 Yc ev Qy Znt Zkf Zke Zkk Zki Zkj Zkg Zkh Zkd Zow Zp7 Ztp Zel Gt Zek Zam Zdx Zcn Za9 Zch Zcd Zbc Zcg Zcf Zce Zbb Zcc Zba Zbd Zaa Zh8 Zcm Uc Zdp Ud Zfr Zej Zsk bLo bHi bMx Gu Zfq Zu7 Zeh Zgc Zbu K0 Zo2 Zu8 Zdo Zbr Zu9 Gs Zx6 Zgi Zgm Zgh Zgl Zk2 Zky Zkx Zd1 Zgj Zk1 Zk0 Zkz Zgk Zkt Zkw Zks Zkv Zqh Zqe Zqd Zku Zqf Zqg Zfs Zmz pop TK.isAgg Zk5 Zk9 Zk4 Zk8 Zgr Zqr Zqn Zk7 Zqq Zqp Zqo Zk6 Zqm G.under G.unders List.set_cons_zero List.set_cons_succ List.toList_toArray Option.toArray_none Option.toArray_some Option.map_some Option.map_none Option.bind_some Option.bind_none List.getElem?_cons_zero List.getElem?_cons_succ List.getElem?_nil List.nil_append List.cons_append List.replicate_succ List.replicate_zero List.length_cons List.length_nil true_and and_false Bool.false_eq_true IntKind.bits ite_true ite_false eq_self not_true_eq_false not_false_eq_true decide_true decide_false ne_eq Option.some.injEq cond_true cond_false Option.join_some Int.toNat_natCast eI eL Zde Zko Zkm Zkn Zyu Z01 Zlh Zle Zlf Zub Ziz Zr5 Ziw Zoo G.agg.injEq G.tup.injEq List.flatten_cons List.flatten_nil Int.le_refl Zoa Znl G.ren G.rens Zqu Zkb Zkc Option.join_none Kz undef Zge Arr.put_eq Zcq Zld Zlb Zlc onB Zyt Zov Zd2 Zgw Zgv Zgu Zgt Z00 Z0z Zve Zso Vm Zt2 Zm0 Zpo Zpn Zyy Znn Zfp Zga Zca Zc3 Z6t Zrq Z1r Zrr Z6u Zrs Z1s Zrt Z6v Zru Z6w Zrv Z6x Zrw Z6y Zrx Zwh Zlr Zwi Zls Zwj Zlt Zwk Zlu Zwl Zlv Zwm Zlw Zwn Zlx Zwo Zly Zwp Zlz Zwq Zl0 Zwr Zl1 Zws Zl2 Zwt Zl3 Zwu Zl4 Uv Zcz Zsh Zir Zwv Zl5 Zdb Zl6 Zww Zl7 Zwx Zl8 Zwy Zl9 Zwz Zma Zw0 Zmb Zw1 Zmc Zw2 Zis Zw3 Zmd Zw4 Zme Ug Zmf Zw5 Zmg Zw6 Zmh Zw7 Zmi Zuq Zmj Zw8 Zmk Zw9 Zml Zxa Zmm Zxb Zmn Zxc Zmo Zxd Zmp Zxe Zmq Zxf Zmr Zxg Zms Zxh Zmt Zxi Zmu Zxj Zmv Zxk Zmw Zq0 Zha Zoe Zhb Zq1 Zhc Zq2 Zhd Zq3 Zhe Zq4 Zhf Zq5 Zhg Zq6 Zhh Zq7 Zhi Zq8 Zhj Zq9 Zhk Zra Zhl Zrb Zhm Zrc Zhn Zrd Zho Zre Zhp Zrf Zhq Zrg Zhr Zrh Zhs Zri Zht Zrj Zhu Zrk Zhv Zrl Zhw Zjy Zhx Zrm Zhy Zrn Zhz Zro Zh0 Zrp Zh1 Zr Zz Q1 Zy Yu Jn
theorem Z1u {B:List (List Int)} {s p v:Int} (h:vA B s p=some v):0≤s∧s < (B.length:Int)∧0≤p∧p < ((seg B s).length:Int)∧(seg B s)[p.toNat]? = some v:=by
 unfold vA at h
 cases hx:Z5 B s with
 | none=>rw [hx] at h;cases h
 | some x =>
  rw [hx,Option.bind_some] at h
  have a:=Q4 hx
  have b:=Q4 h
  have e:seg B s=x:=by
   unfold seg
   unfold Z5 at hx
   rw [if_pos a.1] at hx
   rw [hx];rfl
  rw [e]
  unfold Z5 at h
  rw [if_pos b.1] at h
  exact ⟨a.1,a.2,b.1,b.2,h⟩
theorem Zof {B:List (List Int)} {s p v:Int} (h:vA B s p=some v):inB B s p 1=true:=by
 have:=Z1u h
 exact inB_iff.2 ⟨this.1,this.2.1,this.2.2.1,by decide,by omega⟩
theorem Zsj {B:List (List Int)} {s p v:Int} (h:vA B s p=some v):wd B s p=v:=by
 unfold wd
 rw [(Z1u h).2.2.2.2];rfl
theorem Zo3 {B:List (List Int)} {s p k:Int} (h:Yl B s p k=true):inB B s p k=true:=by
 obtain ⟨x,hx,h0,h1,h2⟩:=Qw h
 have a:=Q4 hx
 have e:seg B s=x:=by
  unfold seg
  unfold Z5 at hx
  rw [if_pos a.1] at hx
  rw [hx];rfl
 exact inB_iff.2 ⟨a.1,a.2,h0,h1,by rw [e];exact h2⟩
theorem Zxx {P:Z4} {k u off:Int} (h:PtrOf P k u) (a:-536870912≤off) (b:off < 536870912) (hc:¬ (k=0∧u=0∧off=0)):dc (off % 1073741824 * 4+k+u * 4294967296)=⟨P.Kind,off,P.Data,P.Ptrs,P.Code,P.Count,P.Segment,P.Double⟩:=by
 rcases h with ⟨d,p,rfl,rfl,rfl,d0,d1,p0,p1⟩ | ⟨cd,m,rfl,rfl,rfl,c0,c1,m0,m1⟩
 ·have:=dcS (off:=off) (data:=d) (ptrs:=p) a b d0 d1 p0 p1 (by omega)
  rw [← this]
  congr 1
  omega
 have:=dcL (off:=off) (code:=cd) (count:=m) a b c0 c1 m0 m1
 rw [← this]
 congr 1
 omega
theorem Z2j {h b d:Int} (h0:0≤h) (h1:h < 4294967296) (b0:0≤b) (b1:b < 536870912) (hd:d=0∨d=1):dc (fw h b d)=⟨3,b,0,0,0,0,h,decide (d=1)⟩:=by
 have e1:(fw h b d).toNat=2+4 * d.toNat+8 * b.toNat+4294967296 * h.toNat:=by unfold fw;omega
 unfold dc
 rw [e1]
 generalize hw:2+4 * d.toNat+8 * b.toNat+4294967296 * h.toNat=w
 have g1:¬ w=0:=by omega
 have g2:¬ w % 4=0:=by omega
 have g3:¬ w % 4=1:=by omega
 have g4:w % 4=2:=by omega
 unfold Zu5
 rw [if_neg g1,if_neg g2,if_neg g3,if_pos g4]
 simp only [Z4.mk.injEq,true_and]
 refine ⟨by omega,by omega,?_⟩
 rw [decide_eq_decide]
 omega
theorem PtrOf.kd {P:Z4} {k u:Int} (h:PtrOf P k u):P.Kind=1∨P.Kind=2:=by
 rcases h with ⟨d,p,rfl,_⟩ | ⟨c,m,rfl,_⟩
 ·exact .inl rfl
 exact .inr rfl
theorem PtrOf.o0 {P:Z4} {k u:Int} (h:PtrOf P k u):Zqk P=P:=by
 rcases h with ⟨d,p,rfl,_⟩ | ⟨c,m,rfl,_⟩ <;> rfl
theorem Zur {B:List (List Int)} {P:Z4} {off s t:Int} (hk:P.Kind=1∨P.Kind=2) (hi:inB B s t (pw P)=true):tgt B ⟨P.Kind,off,P.Data,P.Ptrs,P.Code,P.Count,P.Segment,P.Double⟩ s t=(⟨Zqk P,s,t⟩,0):=by
 have hi':inB B s t (pw ⟨P.Kind,off,P.Data,P.Ptrs,P.Code,P.Count,P.Segment,P.Double⟩)=true:=hi
 unfold tgt
 rw [if_neg (by simp only;omega),if_pos hk,if_pos hi']
 rfl
theorem Zz5 {B:List (List Int)} {P:Z4} {off s p t w:Int} (hk:P.Kind=1∨P.Kind=2) (h:vA B s p=some w) (hd:dc w=⟨P.Kind,off,P.Data,P.Ptrs,P.Code,P.Count,P.Segment,P.Double⟩) (ht:p+1+off=t) (hi:inB B s t (pw P)=true):fol B s p=(⟨Zqk P,s,t⟩,0):=by
 unfold fol
 rw [if_pos (Zof h),Zsj h,hd]
 simp only
 rw [if_neg (by omega),if_neg (by omega),if_neg (by omega),ht]
 exact Zur hk hi
theorem Ya0 {B:List (List Int)} {P:Z4} {off s p g q t w:Int} (hk:P.Kind=1∨P.Kind=2) (g0:0≤g) (g1:g < 4294967296) (q0:0≤q) (q1:q < 536870912) (h:vA B s p=some (fw g q 0)) (h2:vA B g q=some w) (hd:dc w=⟨P.Kind,off,P.Data,P.Ptrs,P.Code,P.Count,P.Segment,P.Double⟩) (ht:q+1+off=t) (hi:inB B g t (pw P)=true):fol B s p=(⟨Zqk P,g,t⟩,0):=by
 unfold fol
 rw [if_pos (Zof h),Zsj h,Z2j g0 g1 q0 q1 (.inl rfl)]
 simp only
 rw [if_neg (by decide),if_neg (by simp),if_pos trivial,if_pos (Zof h2),Zsj h2,hd,ht]
 exact Zur hk hi
theorem Yaz {B:List (List Int)} {P:Z4} {s p g q h b w:Int} (hk:P.Kind=1∨P.Kind=2) (g0:0≤g) (g1:g < 4294967296) (q0:0≤q) (q1:q < 536870912) (h0:0≤h) (h1:h < 4294967296) (b0:0≤b) (b1:b < 536870912)
  (e:vA B s p=some (fw g q 1)) (e2:vA B g q=some (fw h b 0)) (e3:vA B g (q+1)=some w) (hd:dc w=⟨P.Kind,0,P.Data,P.Ptrs,P.Code,P.Count,P.Segment,P.Double⟩) (hi:inB B h b (pw P)=true):fol B s p=(⟨Zqk P,h,b⟩,0):=by
 have i2:inB B g q 2=true:=by rw [Yfk q0,Zof e2,Zof e3];rfl
 unfold fol
 rw [if_pos (Zof e),Zsj e,Z2j g0 g1 q0 q1 (.inr rfl)]
 simp only
 rw [if_neg (by decide),if_pos (by simp),if_pos i2,Zsj e2,Zsj e3,Z2j h0 h1 b0 b1 (.inl rfl),hd]
 simp only
 rw [if_pos (by simp),if_neg (by simp)]
 exact Zur hk hi
structure Ag (σ τ:SG) (s p:Int) (B:List (List Int)):Prop where
 ex:∀ s' p' m,Yl τ.1 s' p' m=true→Yl B s' p' m=true
 eq:∀ s' p' v,vA τ.1 s' p'=some v→(vA σ.1 s' p'=none∨(s'=s∧p'=p))→vA B s' p'=some v
theorem Zk3 {A:List (List Int)} {s p:Int} (h:¬ Yl A s p 1=true):vA A s p=none:=by
 cases e:vA A s p with
 | none=>rfl
 | some v=>exact absurd (hasB_iff.2 ⟨v,e⟩) h
theorem Zsv {size most:Int} {σ τ:SG} {s p k u h b:Int} {P:Z4} (hs:St size most σ) (hP:PtrOf P k u) (hsp:Yl σ.1 s p 1=true) (hb:0≤b∧b≤131072) (hh:0≤h∧h≤16) (e:K5 size σ s p k u h b=some τ) {B:List (List Int)} (hA:Ag σ τ s p B) (hz:¬ (k=0∧u=0)) (hi:inB B h b (pw P)=true):fol B s p=(⟨P,h,b⟩,0):=by
 obtain ⟨x,hx,p0,_,p1⟩:=Qw hsp
 have xl:=hs.hB x (Xe hx)
 have l0:=hs.hl0
 have kd:=hP.kd
 rw [← hP.o0]
 unfold K5 at e
 rw [if_neg hz] at e
 by_cases c:h=s
 ·rw [if_pos c] at e
  have:=Option.some.inj e;subst this
  have v1:vA (Xi σ.1 s p (nw p b k u)) s p=some (nw p b k u):=by rw [Kj _ hsp,if_pos ⟨rfl,rfl⟩]
  have w:=hA.eq s p _ v1 (.inr ⟨rfl,rfl⟩)
  rw [c] at hi ⊢
  exact Zz5 kd w (Zxx hP (off:=b - p - 1) (by omega) (by omega) (fun q=>hz ⟨q.1,q.2.1⟩)) (by omega) hi
 rw [if_neg c] at e
 cases hin:Go.Proofs.YtmjjjfamipncdaaGreat.inO size σ h with
 | some r =>
  rw [hin] at e
  have:=Option.some.inj e;subst this
  have o:=Zts hs hin
  have r1:Yl (Xi r.2.1 h r.1 (nw r.1 b k u)) s p 1=true:=by rw [Gv];exact o.2.2.2.1 _ _ _ hsp
  have v1:vA (Xi (Xi r.2.1 h r.1 (nw r.1 b k u)) s p (fw h r.1 0)) s p=some (fw h r.1 0):=by rw [Kj _ r1,if_pos ⟨rfl,rfl⟩]
  have v2:vA (Xi (Xi r.2.1 h r.1 (nw r.1 b k u)) s p (fw h r.1 0)) h r.1=some (nw r.1 b k u):=by rw [Kj _ r1,if_neg (fun q=>c q.1),Kj _ o.2.2.2.2.1,if_pos ⟨rfl,rfl⟩]
  have w1:=hA.eq s p _ v1 (.inr ⟨rfl,rfl⟩)
  have w2:=hA.eq h r.1 _ v2 (.inl (Zk3 fun q=>by have:=o.2.2.2.2.2.2 _ q;omega))
  exact Ya0 kd hh.1 (by omega) o.1 (by omega) w1 w2 (Zxx hP (off:=b - r.1 - 1) (by omega) (by omega) (fun q=>hz ⟨q.1,q.2.1⟩)) (by omega) hi
 | none =>
  rw [hin] at e
  dsimp only at e
  cases hg:Ys size σ 2 with
  | none=>rw [hg] at e;cases e
  | some r =>
   rw [hg] at e
   have:=Option.some.inj e;subst this
   have o:=Qj hs hg
   obtain ⟨y,hy,y0,_,y1⟩:=Qw o.2.2.2.2.2.2.1
   have gl:=Q4 hy
   have g16:=o.2.2.2.2.1.h16
   have q1:=Uk o.2.2.2.2.2.2.1 (q:=r.2.1) (by omega) (by omega)
   have q2:=Uk o.2.2.2.2.2.2.1 (q:=r.2.1+1) (by omega) (by omega)
   have hr:¬ (r.1=s∧(r.2.1=p∨r.2.1+1=p)):=fun q=>by
    have:=o.2.2.2.2.2.2.2.2 p (by rw [q.1];exact hsp)
    omega
   have le:Y5 r.2.2.1 r.1 r.2.1 [fw h b 0,k+u * 4294967296]=Xi (Xi r.2.2.1 r.1 r.2.1 (fw h b 0)) r.1 (r.2.1+1) (k+u * 4294967296):=by simp only [Y5]
   have q2':Yl (Xi r.2.2.1 r.1 r.2.1 (fw h b 0)) r.1 (r.2.1+1) 1=true:=by rw [Gv];exact q2
   have rs:Yl (Y5 r.2.2.1 r.1 r.2.1 [fw h b 0,k+u * 4294967296]) s p 1=true:=by rw [Zdy];exact o.2.2.2.2.2.1 _ _ _ hsp
   have V:∀ s' p',vA (Xi (Y5 r.2.2.1 r.1 r.2.1 [fw h b 0,k+u * 4294967296]) s p (fw r.1 r.2.1 1)) s' p'=if s'=s∧p'=p then some (fw r.1 r.2.1 1) else if s'=r.1∧p'=r.2.1+1 then some (k+u * 4294967296) else if s'=r.1∧p'=r.2.1 then some (fw h b 0) else vA r.2.2.1 s' p':=fun s' p'=>by
    rw [Kj _ rs,le,Kj _ q2',Kj _ q1]
   have w1:=hA.eq s p (fw r.1 r.2.1 1) ((V s p).trans (if_pos ⟨rfl,rfl⟩)) (.inr ⟨rfl,rfl⟩)
   have w2:=hA.eq r.1 r.2.1 (fw h b 0) ((V _ _).trans (by rw [if_neg (fun q=>hr ⟨q.1,.inl q.2⟩),if_neg (by omega),if_pos ⟨rfl,rfl⟩])) (.inl (Zk3 fun q=>by have:=o.2.2.2.2.2.2.2.2 _ q;omega))
   have w3:=hA.eq r.1 (r.2.1+1) (k+u * 4294967296) ((V _ _).trans (by rw [if_neg (fun q=>hr ⟨q.1,.inr q.2⟩),if_pos ⟨rfl,rfl⟩])) (.inl (Zk3 fun q=>by have:=o.2.2.2.2.2.2.2.2 _ q;omega))
   have hd:=Zxx hP (off:=0) (by decide) (by decide) (fun q=>hz ⟨q.1,q.2.1⟩)
   rw [show (0:Int) % 1073741824 * 4+k+u * 4294967296=k+u * 4294967296 by omega] at hd
   exact Yaz kd (by omega) (by omega) o.2.2.1 (by omega) hh.1 (by omega) hb.1 (by omega) w1 w2 w3 hd hi
theorem Zxl {size most:Int} {f:Tr→Int→Int→SG→Option SG} (hf:Gp size most f) {t:Tr} {s p:Int} {σ τ:SG} (hs:St size most σ) (e:f t s p σ=some τ) {s' p':Int} (hb:Yl σ.1 s' p' 1=true) (hne:¬ (s=s'∧p=p')):vA τ.1 s' p'=vA σ.1 s' p':=by
 obtain ⟨v,hv⟩:=hasB_iff.1 hb
 obtain ⟨h1,h2⟩:=hf t s p σ hs
 have e2:=h2 s' p' v hb hne
 have e3:pt1 s' p' v σ=σ:=Prod.ext (Z1a hv) rfl
 rw [e3,e] at e2
 have e4:τ=pt1 s' p' v τ:=Option.some.inj e2
 have hB:Yl τ.1 s' p' 1=true:=(h1 τ e).2 _ _ _ hb
 have:vA (pt1 s' p' v τ).1 s' p'=some v:=by
  show vA (Xi τ.1 s' p' v) s' p'=_
  rw [Kj _ hB,if_pos ⟨rfl,rfl⟩]
 rw [e4,this,hv]
noncomputable def Zn2 (f:Tr→Int→Int→SG→Option SG) (s:Int):List (Int×Tr)→SG→Option SG
 | [],σ=>some σ
 | a::L,σ=>(f a.2 s a.1 σ).bind (Zn2 f s L)
theorem Zsb (f:Tr→Int→Int→SG→Option SG) (s:Int):∀ (L M:List (Int×Tr)) (σ:SG),Zn2 f s (L++M) σ=(Zn2 f s L σ).bind (Zn2 f s M)
 | [],_,_=>rfl
 | a::L,M,σ=>by
  show (f a.2 s a.1 σ).bind (Zn2 f s (L++M))=((f a.2 s a.1 σ).bind (Zn2 f s L)).bind (Zn2 f s M)
  cases f a.2 s a.1 σ with
  | none=>rfl
  | some ρ=>exact Zsb f s L M ρ
def Zu3:Int→List Tr→List (Int×Tr)
 | _,[]=>[]
 | p,t::ts=>(p,t)::Zu3 (p+1) ts
def Zu2 (m w:Int):Int→List Tr→List (Int×Tr)
 | _,[]=>[]
 | p,t::ts=>Zu3 (p+w) t.Kids++Zu2 m w (p+m) ts
theorem Zye (f:Tr→Int→Int→SG→Option SG) (s:Int):∀ (ts:List Tr) (p:Int) (σ:SG),Jy f s p ts σ=Zn2 f s (Zu3 p ts) σ
 | [],_,_=>rfl
 | t::ts,p,σ=>by
  rw [Jy]
  show _=(f t s p σ).bind (Zn2 f s (Zu3 (p+1) ts))
  cases f t s p σ with
  | none=>rfl
  | some ρ=>exact Zye f s ts (p+1) ρ
theorem Z35 (f:Tr→Int→Int→SG→Option SG) (s m w:Int):∀ (ts:List Tr) (p:Int) (σ:SG),Zdj f s m w p ts σ=Zn2 f s (Zu2 m w p ts) σ
 | [],_,_=>rfl
 | t::ts,p,σ=>by
  rw [Zdj,Zu2,Zsb,Zye]
  cases Zn2 f s (Zu3 (p+w) t.Kids) σ with
  | none=>rfl
  | some ρ=>exact Z35 f s m w ts (p+m) ρ
theorem Zay:∀ (ts:List Tr) (p:Int) (a:Int×Tr),a∈Zu3 p ts→a.2∈ts∧p≤a.1∧a.1 < p+(ts.length:Int)
 | [],_,_,h=>by cases h
 | t::ts,p,a,h=>by
  rw [List.length_cons]
  rcases List.mem_cons.1 h with rfl | h
  ·exact ⟨.head _,Int.le_refl _,by show p < _;omega⟩
  obtain ⟨h1,h2,h3⟩:=Zay ts (p+1) a h
  exact ⟨.tail _ h1,by omega,by omega⟩
theorem Zp0:∀ (ts:List Tr) (p:Int) (i:Nat) (x:Tr),ts[i]? = some x→(p+(i:Int),x)∈Zu3 p ts
 | [],_,i,x,h=>by simp at h
 | t::ts,p,0,x,h=>by
  have:t=x:=by simpa using h
  subst this
  rw [show p+((0:Nat):Int)=p by omega]
  exact .head _
 | t::ts,p,i+1,x,h=>by
  have:=Zp0 ts (p+1) i x (by simpa using h)
  rw [show p+((i+1:Nat):Int)=p+1+(i:Int) by omega]
  exact .tail _ this
theorem Zmy:∀ (ts:List Tr) (p:Int),(Zu3 p ts).Pairwise (fun a b=>a.1 < b.1)
 | [],_ => .nil
 | t::ts,p => .cons (fun b hb=>by have:=(Zay ts (p+1) b hb).2.1;show p < b.1;omega) (Zmy ts (p+1))
theorem Z13 (m w:Int) (hm:0≤m) (hw:0≤w):∀ (ts:List Tr) (p:Int),(∀ u∈ts,w+(u.Kids.length:Int)≤m)→∀ a∈Zu2 m w p ts,(∃ u∈ts,a.2∈u.Kids)∧p≤a.1∧a.1 < p+(ts.length:Int) * m
 | [],_,_,a,h=>by cases h
 | t::ts,p,hk,a,h=>by
  have hn:0≤(ts.length:Int) * m:=Int.mul_nonneg (by omega) hm
  rw [List.length_cons,Int.natCast_add,Int.add_mul]
  simp only [Int.natCast_one,Int.one_mul]
  have k1:=hk t (.head _)
  rcases List.mem_append.1 h with h | h
  ·obtain ⟨h1,h2,h3⟩:=Zay t.Kids (p+w) a h
   exact ⟨⟨t,.head _,h1⟩,by omega,by omega⟩
  obtain ⟨⟨u,hu,h1⟩,h2,h3⟩:=Z13 m w hm hw ts (p+m) (fun u hu=>hk u (.tail _ hu)) a h
  exact ⟨⟨u,.tail _ hu,h1⟩,by omega,by omega⟩
theorem Z12 (m w:Int):∀ (ts:List Tr) (p:Int) (i:Nat) (u:Tr),ts[i]? = some u→∀ (j:Nat) (x:Tr),u.Kids[j]? = some x→(p+(i:Int) * m+w+(j:Int),x)∈Zu2 m w p ts
 | [],_,i,u,h,_,_,_=>by simp at h
 | t::ts,p,0,u,h,j,x,hx=>by
  have:t=u:=by simpa using h
  subst this
  have:=Zp0 t.Kids (p+w) j x hx
  rw [show p+((0:Nat):Int) * m+w+(j:Int)=p+w+(j:Int) by simp]
  exact List.mem_append.2 (.inl this)
 | t::ts,p,i+1,u,h,j,x,hx=>by
  have:=Z12 m w ts (p+m) i u (by simpa using h) j x hx
  rw [show p+((i+1:Nat):Int) * m+w+(j:Int)=p+m+(i:Int) * m+w+(j:Int) by rw [Int.natCast_add,Int.add_mul];simp only [Int.natCast_one,Int.one_mul];omega]
  exact List.mem_append.2 (.inr this)
theorem Z5e (m w:Int) (hm:0≤m) (hw:0≤w):∀ (ts:List Tr) (p:Int),(∀ u∈ts,w+(u.Kids.length:Int)≤m)→(Zu2 m w p ts).Pairwise (fun a b=>a.1 < b.1)
 | [],_,_ => .nil
 | t::ts,p,hk=>by
  refine List.pairwise_append.2 ⟨Zmy _ _,Z5e m w hm hw ts (p+m) (fun u hu=>hk u (.tail _ hu)),fun a ha b hb => ?_⟩
  have h1:=(Zay _ _ a ha).2.2
  have h2:=(Z13 m w hm hw ts (p+m) (fun u hu=>hk u (.tail _ hu)) b hb).2.1
  have:=hk t (.head _)
  omega
theorem Zgf {size most:Int} {f:Tr→Int→Int→SG→Option SG} (hf:Gp size most f) (s:Int):∀ (L:List (Int×Tr)) (σ τ:SG),L.Pairwise (fun a b=>a.1 < b.1)→St size most σ→(∀ a∈L,Yl σ.1 s a.1 1=true)→Zn2 f s L σ=some τ →
  St size most τ∧Ex σ τ∧(∀ s' p',Yl σ.1 s' p' 1=true→(∀ a∈L,¬ (s=s'∧a.1=p'))→vA τ.1 s' p'=vA σ.1 s' p') ∧
  ∀ a∈L,∃ ρ ρ',St size most ρ∧Ex σ ρ∧f a.2 s a.1 ρ=some ρ'∧vA ρ.1 s a.1=vA σ.1 s a.1∧Ag ρ ρ' s a.1 τ.1
 | [],σ,τ,_,hs,_,e=>by
  have:=Option.some.inj e;subst this
  exact ⟨hs,Ex.refl _,fun _ _ _ _=>rfl,fun a ha=>by cases ha⟩
 | x::L,σ,τ,hp,hs,hb,e=>by
  have hp':=List.pairwise_cons.1 hp
  have e':(f x.2 s x.1 σ).bind (Zn2 f s L)=some τ:=e
  cases h1:f x.2 s x.1 σ with
  | none=>rw [h1] at e';cases e'
  | some ρ =>
   rw [h1,Option.bind_some] at e'
   obtain ⟨s1,x1⟩:=(hf x.2 s x.1 σ hs).1 ρ h1
   obtain ⟨s2,x2,k2,a2⟩:=Zgf hf s L ρ τ hp'.2 s1 (fun a ha=>x1 _ _ _ (hb a (.tail _ ha))) e'
   refine ⟨s2,x1.trans x2,fun s' p' hq hn => ?_,fun a ha => ?_⟩
   ·rw [k2 s' p' (x1 _ _ _ hq) (fun a ha=>hn a (.tail _ ha))]
    exact Zxl hf hs h1 hq (hn x (.head _))
   rcases List.mem_cons.1 ha with rfl | ha
   ·refine ⟨σ,ρ,hs,Ex.refl _,h1,rfl,fun s' p' m q=>x2 _ _ _ q,fun s' p' v hv hq => ?_⟩
    rw [k2 s' p' (hasB_iff.2 ⟨v,hv⟩) (fun b hb' q => ?_)]
    ·exact hv
    rcases hq with hq | hq
    ·obtain ⟨z,hz⟩:=hasB_iff.1 (hb b (.tail _ hb'))
     rw [q.1,q.2,hq] at hz
     cases hz
    have:=hp'.1 b hb'
    omega
   obtain ⟨ρ1,ρ2,b1,b2,b3,b4,b5⟩:=a2 a ha
   refine ⟨ρ1,ρ2,b1,x1.trans b2,b3,b4.trans ?_,b5⟩
   have:=hp'.1 a ha
   exact Zxl hf hs h1 (hb a (.tail _ ha)) (by omega)
theorem Zs7 (s:Int):∀ (ws:List Int) (A:List (List Int)) (p:Int),(∀ q,p≤q→q < p+(ws.length:Int)→Yl A s q 1=true)→∀ s' p',vA (Y5 A s p ws) s' p'=if s'=s∧p≤p'∧p' < p+(ws.length:Int) then ws[(p' - p).toNat]? else vA A s' p'
 | [],A,p,_,s',p'=>by
  rw [if_neg (by simp only [List.length_nil];omega)];rfl
 | w::ws,A,p,h,s',p'=>by
  rw [List.length_cons] at h ⊢
  have h0:=h p (Int.le_refl _) (by omega)
  rw [Y5,Zs7 s ws (Xi A s p w) (p+1) (fun q x y=>by rw [Gv];exact h q (by omega) (by omega)),Kj _ h0]
  by_cases c:s'=s∧p'=p
  ·rw [if_neg (by omega),if_pos c,if_pos (by omega),c.2,Int.sub_self];rfl
  rw [if_neg c]
  by_cases c2:s'=s∧p+1≤p'∧p' < p+1+(ws.length:Int)
  ·rw [if_pos c2,if_pos (by omega),show (p' - p).toNat=(p' - (p+1)).toNat+1 by omega,List.getElem?_cons_succ]
  rw [if_neg c2,if_neg (by omega)]
structure GA (σ σ1 ρ:SG) (size most h b n s p:Int):Prop where
 st:St size most ρ
 x1:Ex σ σ1
 x2:Ex σ1 ρ
 h0:0≤h
 h1:h≤16
 b0:0≤b
 b1:b+n≤131072
 n0:0≤n
 row:Yl ρ.1 h b n=true
 z:∀ q,b≤q→q < b+n→Yl σ1.1 h q 1=true∧vA σ.1 h q=none∧vA ρ.1 h q=some 0
theorem Zo1 {size most:Int} {σ ρ:SG} {r:Int×Int×SG} {s p k u n:Int} (hs:St size most σ) (hsp:Yl σ.1 s p 1=true) (hg:Ys size σ n=some r) (ha:K5 size r.2.2 s p k u r.1 r.2.1=some ρ):GA σ r.2.2 ρ size most r.1 r.2.1 n s p:=by
 have g:=Qj hs hg
 have a:=Zh6 g.2.2.2.2.1 ha
 obtain ⟨y,hy,_⟩:=Qw g.2.2.2.2.2.2.1
 have gl:=Q4 hy
 have g16:=g.2.2.2.2.1.h16
 refine ⟨a.1,g.2.2.2.2.2.1,a.2.1,g.2.1,by omega,g.2.2.1,g.2.2.2.1,g.1,a.2.1 _ _ _ g.2.2.2.2.2.2.1,fun q h1 h2 => ?_⟩
 have hq:=Uk g.2.2.2.2.2.2.1 h1 h2
 have hn:vA σ.1 r.1 q=none:=Zk3 fun c=>by have:=g.2.2.2.2.2.2.2.2 q c;omega
 refine ⟨hq,hn,?_⟩
 rw [a.2.2 r.1 q hq (fun c=>by
  obtain ⟨v,hv⟩:=hasB_iff.1 hsp
  rw [c.1,c.2,hv] at hn
  cases hn),g.2.2.2.2.2.2.2.1,if_pos ⟨rfl,h1,h2⟩]
theorem Zxp {σ σ1 ρ τ:SG} {size most h b n s p:Int} (g:GA σ σ1 ρ size most h b n s p) (hsp:Yl σ.1 s p 1=true) (xt:Ex ρ τ) (keep:∀ s' p',Yl ρ.1 s' p' 1=true→¬ (s'=h∧b≤p'∧p' < b+n)→vA τ.1 s' p'=vA ρ.1 s' p') {B:List (List Int)} (hB:Ag σ τ s p B):Ag σ1 ρ s p B:=by
 refine ⟨fun s' p' m q=>hB.ex _ _ _ (xt _ _ _ q),fun s' p' v hv hq=>hB.eq s' p' v ((keep s' p' (hasB_iff.2 ⟨v,hv⟩) fun c => ?_).trans hv) ?_⟩
 ·rcases hq with hq | hq
  ·obtain ⟨w,hw⟩:=hasB_iff.1 (g.z p' c.2.1 c.2.2).1
   rw [c.1,hw] at hq
   cases hq
  obtain ⟨v,hv⟩:=hasB_iff.1 hsp
  have:=(g.z p' c.2.1 c.2.2).2.1
  rw [← c.1,hq.1,hq.2,hv] at this
  cases this
 rcases hq with hq | hq
 ·exact .inl (Zk3 fun c=>by
   obtain ⟨w,hw⟩:=hasB_iff.1 (g.x1 _ _ _ c)
   rw [hw] at hq
   cases hq)
 exact .inr hq
def Z64 (size most:Int) (f:Tr→Int→Int→SG→Option SG) (t:Tr):Prop:=∀ s p σ τ,St size most σ→vA σ.1 s p=some 0→f t s p σ=some τ→∀ B,Ag σ τ s p B→∃ r,atR ⟨B,0,0⟩ s p=(r,0)∧MR ⟨B,0,0⟩ r (fm t)
theorem Zqb {size most:Int} {f:Tr→Int→Int→SG→Option SG} (hf:Gp size most f) {s:Int} {L:List (Int×Tr)} {σ0 σ τ:SG} (hp:L.Pairwise (fun a b=>a.1 < b.1)) (hs:St size most σ) (e:Zn2 f s L σ=some τ) (hx:Ex σ0 σ) (hz:∀ a∈L,vA σ0.1 s a.1=none∧vA σ.1 s a.1=some 0) (hk:∀ a∈L,Z64 size most f a.2) {s0 p0:Int} {B:List (List Int)} (hB:Ag σ0 τ s0 p0 B):∀ a∈L,∃ r,atR ⟨B,0,0⟩ s a.1=(r,0)∧MR ⟨B,0,0⟩ r (fm a.2):=by
 intro a ha
 obtain ⟨_,_,_,h4⟩:=Zgf hf s L σ τ hp hs (fun a ha=>hasB_iff.2 ⟨0,(hz a ha).2⟩) e
 obtain ⟨ρ,ρ',b1,b2,b3,b4,b5⟩:=h4 a ha
 refine hk a ha s a.1 ρ ρ' b1 (b4.trans (hz a ha).2) b3 B ⟨fun s' p' m q=>hB.ex _ _ _ (b5.ex _ _ _ q),fun s' p' v hv hq=>hB.eq s' p' v (b5.eq s' p' v hv hq) (.inl ?_)⟩
 rcases hq with hq | hq
 ·exact Zk3 fun c=>by
   obtain ⟨w,hw⟩:=hasB_iff.1 (b2 _ _ _ (hx _ _ _ c))
   rw [hw] at hq
   cases hq
 rw [hq.1,hq.2]
 exact (hz a ha).1
theorem Zys {B:List (List Int)} {s p:Int} {r:Zd} (h:atR ⟨B,0,0⟩ s p=(r,0)):OKr ⟨B,0,0⟩ r:=by
 have:=Zdd (A:=⟨B,0,0⟩) s p
 rwa [h] at this
theorem Zzq {B:List (List Int)} {s p:Int} (h:vA B s p=some 0):atR ⟨B,0,0⟩ s p=(r0,0):=by
 have e:fol B s p=(l0,0):=by
  unfold fol
  rw [if_pos (Zof h),Zsj h]
  rfl
 unfold atR
 simp only
 rw [e]
 rfl
theorem Z0i {A:Zp} {h b:Int} {W K i:Nat} (hi:i < K):Yq A ⟨some A,1,h,b,(W:Int),(K:Int),0,0,0⟩ (i:Int)=atR A h (b+W+i):=by
 have hk:Ym ⟨some A,1,h,b,(W:Int),(K:Int),0,0,0⟩=(K:Int):=rfl
 unfold Yq
 rw [hk,if_neg (by omega),if_pos rfl]
theorem Z8b {A:Zp} {h b:Int} {n i:Nat} (hi:i < n):Yq A ⟨some A,8,h,b,0,0,(n:Int),0,0⟩ (i:Int)=atR A h (b+i):=by
 have hk:Ym ⟨some A,8,h,b,0,0,(n:Int),0,0⟩=(n:Int):=rfl
 unfold Yq
 rw [hk,if_neg (by omega),if_neg (by simp),if_pos rfl]
theorem Z11 {B:List (List Int)} {h b:Int} {W K:Nat} {m:List Int} (hm:m.length=W) (hv:∀ j:Nat,j < m.length→vA B h (b+(j:Int))=m[j]?) (b0:0≤b):Yg ⟨B,0,0⟩ ⟨some ⟨B,0,0⟩,1,h,b,(W:Int),(K:Int),0,0,0⟩=m:=by
 unfold Yg
 rw [if_neg (by simp),if_pos rfl]
 show ((seg B h).drop b.toNat).take ((W:Int)).toNat=m
 rw [Int.toNat_natCast,← hm]
 refine Yce fun j hj => ?_
 have h1:=hv j hj
 rw [List.getElem?_eq_getElem hj] at h1
 have h2:=(Z1u h1).2.2.2.2
 rw [show (b+(j:Int)).toNat=b.toNat+j by omega] at h2
 rw [h2,List.getElem?_eq_getElem hj]
theorem Z5l {size:Int} {σ τ:SG} {s p h b:Int} (hsp:Yl σ.1 s p 1=true) (e:K5 size σ s p 0 0 h b=some τ) {B:List (List Int)} (hB:Ag σ τ s p B):fol B s p=(⟨⟨1,0,0,0,0,0,0,false⟩,s,p⟩,0):=by
 unfold K5 at e
 rw [if_pos ⟨rfl,rfl⟩] at e
 have:=Option.some.inj e;subst this
 have w:=hB.eq s p 4294967292 (by show vA (Xi σ.1 s p 4294967292) s p=_;rw [Kj _ hsp,if_pos ⟨rfl,rfl⟩]) (.inr ⟨rfl,rfl⟩)
 have i:=Z1u w
 exact Zz5 (P:=⟨1,0,0,0,0,0,0,false⟩) (off:=-1) (.inl rfl) w rfl (by omega) (inB_iff.2 ⟨i.1,i.2.1,i.2.2.1,by decide,by show p+0≤_;omega⟩)
theorem Zxu {size most:Int} {f:Tr→Int→Int→SG→Option SG} (hf:Gp size most f) {t:Tr} {d:Nat} (hm:Nm t d) (h1:t.Kind=1) {σ ρ τ:SG} {r:Int×Int×SG} {s p:Int} (hs:St size most σ) (hsp:Yl σ.1 s p 1=true)
  (hg:Ys size σ (Gd t)=some r) (ha:K5 size r.2.2 s p (pkd t) (pup t) r.1 r.2.1=some ρ) (e:inT true f r.1 r.2.1 t ρ=some τ) (ih:∀ x∈t.Kids,Z64 size most f x) {B:List (List Int)} (hB:Ag σ τ s p B):∃ r,atR ⟨B,0,0⟩ s p=(r,0)∧MR ⟨B,0,0⟩ r (fm t):=by
 have g:=Zo1 hs hsp hg ha
 have hs1:=(Qj hs hg).2.2.2.2.1
 obtain ⟨h,b,σ1⟩:=r
 simp only at g ha e hs1
 have hpw:=Ze0 h1
 rw [hpw] at g
 obtain ⟨i1,i2,_,i4⟩:=Uu hm.f.rt (by omega) hm.k
 have i2:=i2 h1
 unfold inT at e
 rw [if_pos h1,Zye] at e
 have rw1:∀ q,b≤q→q < b+(t.Words.length:Int)→Yl ρ.1 h q 1=true:=fun q x y=>hasB_iff.2 ⟨0,(g.z q x (by omega)).2.2⟩
 have V:=Zs7 h t.Words ρ.1 b rw1
 have s2:St size most (Y5 ρ.1 h b t.Words,ρ.2):=St.lays h _ g.st _
 have x2:Ex ρ (Y5 ρ.1 h b t.Words,ρ.2):=Ex.lays _ _ _ _
 have zk:∀ a∈Zu3 (b+(t.Words.length:Int)) t.Kids,vA σ.1 h a.1=none∧vA (Y5 ρ.1 h b t.Words) h a.1=some 0:=fun a ha'=>by
  obtain ⟨_,k1,k2⟩:=Zay _ _ a ha'
  have z:=g.z a.1 (by omega) (by omega)
  refine ⟨z.2.1,?_⟩
  rw [V,if_neg (by omega),z.2.2]
 obtain ⟨_,x3,kp,_⟩:=Zgf hf h _ _ τ (Zmy t.Kids (b+(t.Words.length:Int))) s2 (fun a ha'=>hasB_iff.2 ⟨0,(zk a ha').2⟩) e
 have KB:=Zqb hf (Zmy t.Kids (b+(t.Words.length:Int))) s2 e ((g.x1.trans g.x2).trans x2) zk (fun a ha'=>ih a.2 (Zay _ _ a ha').1) hB
 have kp':∀ s' p',Yl ρ.1 s' p' 1=true→¬ (s'=h∧b+(t.Words.length:Int)≤p'∧p' < b+(t.Words.length:Int)+(t.Kids.length:Int))→vA τ.1 s' p'=vA (Y5 ρ.1 h b t.Words) s' p':=fun s' p' q c=>kp s' p' (x2 _ _ _ q) fun a ha' q2=>by
  have:=Zay _ _ a ha'
  omega
 have hA:=Zxp g hsp (x2.trans x3) (fun s' p' q c=>by rw [kp' s' p' q (by omega),V,if_neg (by omega)]) hB
 have hv:∀ j:Nat,j < t.Words.length→vA B h (b+(j:Int))=t.Words[j]? := fun j hj=>by
  have q:=rw1 (b+(j:Int)) (by omega) (by omega)
  have v1:=kp' h (b+(j:Int)) q (by omega)
  rw [V,if_pos ⟨rfl,by omega,by omega⟩,show (b+(j:Int) - b).toNat=j by omega,List.getElem?_eq_getElem hj] at v1
  rw [List.getElem?_eq_getElem hj]
  exact hB.eq _ _ _ v1 (.inl (g.z _ (by omega) (by omega)).2.1)
 have hsp1:=g.x1 _ _ _ hsp
 obtain ⟨h',b',hf',hb'⟩:∃ h' b',fol B s p=(⟨⟨1,0,(t.Words.length:Int),(t.Kids.length:Int),0,0,0,false⟩,h',b'⟩,0)∧0≤b'∧(t.Words.length+t.Kids.length=0∨h'=h∧b'=b):=by
  by_cases c:t.Words.length+t.Kids.length=0
  ·have ek:pkd t=0:=by unfold pkd;rw [if_pos h1]
   have eu:pup t=0:=by unfold pup;rw [if_pos h1];omega
   rw [ek,eu] at ha
   have:=Z5l hsp1 ha hA
   have w0:t.Words.length=0:=by omega
   have k0:t.Kids.length=0:=by omega
   obtain ⟨x,hx,p0,_⟩:=Qw hsp
   exact ⟨s,p,by rw [w0,k0];exact this,p0,.inl c⟩
  have hP:PtrOf ⟨1,0,(t.Words.length:Int),(t.Kids.length:Int),0,0,0,false⟩ (pkd t) (pup t) := .inl ⟨_,_,rfl,by unfold pkd;rw [if_pos h1],by unfold pup;rw [if_pos h1],by omega,by omega,by omega,by omega⟩
  have eu:pup t=(t.Words.length:Int)+65536 * (t.Kids.length:Int):=by unfold pup;rw [if_pos h1]
  have gb:=g.b1
  have gn:=g.n0
  exact ⟨h,b,Zsv hs1 hP hsp1 ⟨g.b0,by omega⟩ ⟨g.h0,g.h1⟩ ha hA (by omega) (Zo3 (hA.ex _ _ _ g.row)),g.b0,.inr ⟨rfl,rfl⟩⟩
 have hat:atR ⟨B,0,0⟩ s p=(⟨some ⟨B,0,0⟩,1,h',b',(t.Words.length:Int),(t.Kids.length:Int),0,0,0⟩,0):=by
  unfold atR
  simp only
  rw [hf']
  rfl
 refine ⟨_,hat,.mk _ _ (Zys hat) (by rw [Zoq,h1]) ?_ (by rw [Zfb (by omega),List.length_map];rfl) ?_ ?_⟩
 ·rw [Zz4]
  refine (Z11 rfl (fun j hj => ?_) hb'.1).symm
  rcases hb'.2 with c | ⟨rfl,rfl⟩
  ·omega
  exact hv j hj
 all_goals
  intro i x hx
  rw [Zfb (by omega)] at hx
  obtain ⟨y,hy,hym,rfl⟩:=Zo7 hx
  have hi:i < t.Kids.length:=(List.getElem?_eq_some_iff.1 hy).1
  obtain ⟨r,r1,r2⟩:=KB _ (Zp0 t.Kids (b+(t.Words.length:Int)) i y hy)
  rcases hb'.2 with c | ⟨rfl,rfl⟩
  ·omega
  rw [Z0i hi,r1] <;> first | exact r2 | rfl
theorem Z2e {size most:Int} {f:Tr→Int→Int→SG→Option SG} (hf:Gp size most f) {t:Tr} {d:Nat} (hm:Nm t d) (h8:t.Kind=8) {σ ρ τ:SG} {r:Int×Int×SG} {s p:Int} (hs:St size most σ) (hsp:Yl σ.1 s p 1=true)
  (hg:Ys size σ (Gd t)=some r) (ha:K5 size r.2.2 s p (pkd t) (pup t) r.1 r.2.1=some ρ) (e:inT true f r.1 r.2.1 t ρ=some τ) (ih:∀ x∈t.Kids,Z64 size most f x) {B:List (List Int)} (hB:Ag σ τ s p B):∃ r,atR ⟨B,0,0⟩ s p=(r,0)∧MR ⟨B,0,0⟩ r (fm t):=by
 have g:=Zo1 hs hsp hg ha
 have hs1:=(Qj hs hg).2.2.2.2.1
 obtain ⟨h,b,σ1⟩:=r
 simp only at g ha e hs1
 have hpw:=Zjt h8
 rw [hpw] at g
 unfold inT at e
 rw [if_neg (by omega),if_pos h8,Zye] at e
 have zk:∀ a∈Zu3 b t.Kids,vA σ.1 h a.1=none∧vA ρ.1 h a.1=some 0:=fun a ha'=>by
  obtain ⟨_,k1,k2⟩:=Zay _ _ a ha'
  exact (g.z a.1 (by omega) (by omega)).2
 obtain ⟨_,x3,kp,_⟩:=Zgf hf h _ _ τ (Zmy t.Kids b) g.st (fun a ha'=>hasB_iff.2 ⟨0,(zk a ha').2⟩) e
 have KB:=Zqb hf (Zmy t.Kids b) g.st e (g.x1.trans g.x2) zk (fun a ha'=>ih a.2 (Zay _ _ a ha').1) hB
 have hA:=Zxp g hsp x3 (fun s' p' q c=>kp s' p' q fun a ha' q2=>by
  have:=Zay _ _ a ha'
  omega) hB
 have gb:=g.b1
 have gn:=g.n0
 have hP:PtrOf ⟨2,0,0,0,6,(t.Kids.length:Int),0,false⟩ (pkd t) (pup t) := .inr ⟨_,_,rfl,by unfold pkd;rw [if_neg (by omega)],by unfold pup;rw [if_neg (by omega),if_neg (by omega)];omega,by omega,by omega,by omega,by have:=g.b0;omega⟩
 have hf':=Zsv hs1 hP (g.x1 _ _ _ hsp) ⟨g.b0,by omega⟩ ⟨g.h0,g.h1⟩ ha hA (fun c=>by have:=c.1;unfold pkd at this;rw [if_neg (by omega)] at this;omega) (by
  have:=Zo3 (hA.ex _ _ _ g.row)
  rw [show pw (⟨2,0,0,0,6,(t.Kids.length:Int),0,false⟩:Z4)=(t.Kids.length:Int) from by unfold pw wdt;simp;omega]
  exact this)
 have hat:atR ⟨B,0,0⟩ s p=(⟨some ⟨B,0,0⟩,8,h,b,0,0,(t.Kids.length:Int),0,0⟩,0):=by
  unfold atR
  simp only
  rw [hf']
  rfl
 refine ⟨_,hat,.mk _ _ (Zys hat) (by rw [Zoq,h8]) ?_ (by rw [Zfb (by omega),List.length_map];rfl) ?_ ?_⟩
 ·rw [Zz4]
  have:=(Uu hm.f.rt (by omega) hm.k).2.2.1 (by omega)
  rw [this]
  rfl
 all_goals
  intro i x hx
  rw [Zfb (by omega)] at hx
  obtain ⟨y,hy,hym,rfl⟩:=Zo7 hx
  have hi:i < t.Kids.length:=(List.getElem?_eq_some_iff.1 hy).1
  obtain ⟨r,r1,r2⟩:=KB _ (Zp0 t.Kids b i y hy)
  rw [Z8b hi,r1] <;> first | exact r2 | rfl
theorem Z2d {size most:Int} {f:Tr→Int→Int→SG→Option SG} {t:Tr} {d:Nat} (hm:Nm t d) (h2:2≤t.Kind∧t.Kind≤7) {σ ρ τ:SG} {r:Int×Int×SG} {s p:Int} (hs:St size most σ) (hsp:Yl σ.1 s p 1=true)
  (hg:Ys size σ (Gd t)=some r) (ha:K5 size r.2.2 s p (pkd t) (pup t) r.1 r.2.1=some ρ) (e:inT true f r.1 r.2.1 t ρ=some τ) {B:List (List Int)} (hB:Ag σ τ s p B):∃ r,atR ⟨B,0,0⟩ s p=(r,0)∧MR ⟨B,0,0⟩ r (fm t):=by
 have g:=Zo1 hs hsp hg ha
 have hs1:=(Qj hs hg).2.2.2.2.1
 obtain ⟨h,b,σ1⟩:=r
 simp only at g ha e hs1
 have hpw:Gd t=((Zaq (t.Kind - 2) (ato t)).length:Int):=by unfold Gd;rw [if_neg (by omega),if_neg (by omega),if_neg (by omega)]
 rw [hpw] at g
 unfold inT at e
 rw [if_neg (by omega),if_neg (by omega),if_neg (by omega)] at e
 have:=Option.some.inj e;subst this
 have rw1:∀ q,b≤q→q < b+((Zaq (t.Kind - 2) (ato t)).length:Int)→Yl ρ.1 h q 1=true:=fun q x y=>hasB_iff.2 ⟨0,(g.z q x y).2.2⟩
 have V:=Zs7 h (Zaq (t.Kind - 2) (ato t)) ρ.1 b rw1
 have hA:=Zxp g hsp (Ex.lays _ _ _ _) (fun s' p' q c=>by show vA (Y5 ρ.1 h b _) s' p'=_;rw [V,if_neg c]) hB
 have hv:∀ j:Nat,j < (Zaq (t.Kind - 2) (ato t)).length→(seg B h)[b.toNat+j]? = (Zaq (t.Kind - 2) (ato t))[j]? := fun j hj=>by
  have v1:vA (Y5 ρ.1 h b (Zaq (t.Kind - 2) (ato t))) h (b+(j:Int))=some ((Zaq (t.Kind - 2) (ato t))[j]):=by
   rw [V,if_pos ⟨rfl,by omega,by omega⟩,show (b+(j:Int) - b).toNat=j by omega,List.getElem?_eq_getElem hj]
  have v2:=(Z1u (hB.eq _ _ _ v1 (.inl (g.z _ (by omega) (by omega)).2.1))).2.2.2.2
  have b0:=g.b0
  rw [show (b+(j:Int)).toNat=b.toNat+j by omega] at v2
  rw [v2,List.getElem?_eq_getElem hj]
 have hat0:=hm.atoms h2
 have hlb:=Z8f hm
 have hlen:(Zaq (t.Kind - 2) (ato t)).length=(t.Kids.length * wid (t.Kind - 2)+63) / 64:=by
  rw [(Z5d (c:=t.Kind - 2) (by omega) (ns:=ato t) (by rw [Zj8];omega) (fun n hn=>by
   obtain ⟨k,hk,rfl⟩:=List.mem_map.1 hn
   obtain ⟨w,hw,h0,_,h1⟩:=hat0 k hk
   rw [hw]
   exact ⟨h0,h1⟩)).2,Zj8]
 have gb:=g.b1
 have gn:=g.n0
 have b0:=g.b0
 have hP:PtrOf ⟨2,0,0,0,t.Kind - 2,(t.Kids.length:Int),0,false⟩ (pkd t) (pup t) := .inr ⟨_,_,rfl,by unfold pkd;rw [if_neg (by omega)],by unfold pup;rw [if_neg (by omega),if_neg (by omega)],by omega,by omega,by omega,by omega⟩
 have hf':=Zsv hs1 hP (g.x1 _ _ _ hsp) ⟨g.b0,by omega⟩ ⟨g.h0,g.h1⟩ ha hA (fun c=>by have:=c.1;unfold pkd at this;rw [if_neg (by omega)] at this;omega) (by
  have:=Zo3 (hA.ex _ _ _ g.row)
  rw [show pw (⟨2,0,0,0,t.Kind - 2,(t.Kids.length:Int),0,false⟩:Z4)=((Zaq (t.Kind - 2) (ato t)).length:Int) from by
   unfold pw
   simp only
   rw [if_neg (by decide),if_neg (by omega),hlen,← Z5b]
   simp]
  exact this)
 have hat:atR ⟨B,0,0⟩ s p=(⟨some ⟨B,0,0⟩,t.Kind,h,b,0,0,(t.Kids.length:Int),0,0⟩,0):=by
  rw [Z7m (A:=⟨B,0,0⟩) hf' rfl (by show ¬ t.Kind - 2=7;omega)]
  show ((⟨_,t.Kind - 2+2,_,_,_,_,_,_,_⟩:Zd),_)=_
  rw [show t.Kind - 2+2=t.Kind by omega]
 have ho:=Zys hat
 have kn:Ym (⟨some ⟨B,0,0⟩,t.Kind,h,b,0,0,(t.Kids.length:Int),0,0⟩:Zd)=(t.Kids.length:Int):=by unfold Ym;rw [if_neg (by simp only;omega)]
 refine ⟨_,hat,.mk _ _ ho (Zoq t) ?_ (by rw [Zfb (by omega),List.length_map,kn]) ?_ ?_⟩
 ·rw [Zz4,(Uu hm.f.rt (by omega) hm.k).2.2.1 (by omega)]
  unfold Yg
  rw [if_neg (by simp only;omega),if_neg (by simp only;omega)]
 all_goals
  intro i x hx
  rw [Zfb (by omega)] at hx
  obtain ⟨y,hy,hym,rfl⟩:=Zo7 hx
  have hi:i < t.Kids.length:=(List.getElem?_eq_some_iff.1 hy).1
  have hks:=Z8c (A:=⟨B,0,0⟩) (r:=⟨some ⟨B,0,0⟩,t.Kind,h,b,0,0,(t.Kids.length:Int),0,0⟩) (by simp only;omega) (i:=(i:Int)) (by rw [kn];omega)
 ·rw [hks]
 obtain ⟨w,hyw,w0,w1,w2⟩:=hat0 y hym
 have hok:=Vi ho (i:Int)
 rw [hks] at hok ⊢
 have hnum:Zsl ⟨B,0,0⟩ (⟨some ⟨B,0,0⟩,10,h,b,0,0,0,t.Kind - 2,(i:Int)⟩:Zd)=w:=by
  unfold Zsl
  simp only
  by_cases hc:t.Kind - 2=0
  ·rw [if_pos hc]
   rw [hc] at w2
   unfold Zbp at w2
   have:=of_decide_eq_true w2
   rw [show (2:Int) ^ wid 0=1 from rfl] at this
   omega
  rw [if_neg hc]
  obtain ⟨p1,p2,p3⟩:=Z6d (c:=t.Kind - 2) (by omega) (ns:=ato t) (fun n hn=>by
   obtain ⟨k,hk,rfl⟩:=List.mem_map.1 hn
   obtain ⟨w,hw,h0,_,h1⟩:=hat0 k hk
   rw [hw]
   exact ⟨h0,h1⟩)
  obtain ⟨p4,p5⟩:=p3 i w (by unfold ato;rw [List.getElem?_map,hy,hyw];rfl)
  have key:=Z8x (L:=seg B h) (tp:=b.toNat) (c:=t.Kind - 2) (w:=w) (by omega) hv p1 p4 p5
  rw [show ((b.toNat:Nat):Int)=b by omega] at key
  exact key
 have:MR ⟨B,0,0⟩ (⟨some ⟨B,0,0⟩,10,h,b,0,0,0,t.Kind - 2,(i:Int)⟩:Zd) _:=Zs2 hok rfl
 have ew:Yg ⟨B,0,0⟩ (⟨some ⟨B,0,0⟩,10,h,b,0,0,0,t.Kind - 2,(i:Int)⟩:Zd)=[w]:=by unfold Yg;rw [if_pos rfl,hnum]
 rw [ew] at this
 have ey:fm y=⟨10,[w],[]⟩:=by rw [hyw,Zvt];rfl
 rw [ey]
 exact this
theorem Z15:∀ (ts:List Tr) (p:Int) (a:Int×Tr),a∈Zu3 p ts→∃ i:Nat,ts[i]? = some a.2∧a.1=p+(i:Int)
 | [],_,_,h=>by cases h
 | t::ts,p,a,h=>by
  rcases List.mem_cons.1 h with rfl | h
  ·exact ⟨0,rfl,by show p=_;omega⟩
  obtain ⟨i,h1,h2⟩:=Z15 ts (p+1) a h
  exact ⟨i+1,by rw [List.getElem?_cons_succ];exact h1,by omega⟩
theorem Z14 (m w:Int):∀ (ts:List Tr) (p:Int) (a:Int×Tr),a∈Zu2 m w p ts→∃ (i:Nat) (u:Tr) (j:Nat),ts[i]? = some u∧u.Kids[j]? = some a.2∧a.1=p+(i:Int) * m+w+(j:Int)
 | [],_,_,h=>by cases h
 | t::ts,p,a,h=>by
  rcases List.mem_append.1 h with h | h
  ·obtain ⟨j,h1,h2⟩:=Z15 _ _ a h
   exact ⟨0,t,j,rfl,h1,by rw [h2];simp⟩
  obtain ⟨i,u,j,h1,h2,h3⟩:=Z14 m w ts (p+m) a h
  refine ⟨i+1,u,j,by rw [List.getElem?_cons_succ];exact h1,h2,?_⟩
  rw [h3,Int.natCast_add,Int.add_mul]
  simp only [Int.natCast_one,Int.one_mul]
  omega
theorem Z1v (s:Int) (M:Nat):∀ (us:List Tr) (A:List (List Int)) (p:Int),(∀ u∈us,u.Words.length≤M)→(∀ q,p≤q→q < p+((us.length * M:Nat):Int)→Yl A s q 1=true) →
  (∀ s' p',¬ (s'=s∧p≤p'∧p' < p+((us.length * M:Nat):Int))→vA (Ks s (M:Int) p us A) s' p'=vA A s' p') ∧
  ∀ (i:Nat) (u:Tr),us[i]? = some u→∀ j:Nat,j < M→vA (Ks s (M:Int) p us A) s (p+((i * M:Nat):Int)+(j:Int))=if j < u.Words.length then u.Words[j]? else vA A s (p+((i * M:Nat):Int)+(j:Int))
 | [],A,p,_,_=>⟨fun _ _ _=>rfl,fun i u h=>by simp at h⟩
 | t::ts,A,p,hw,hb=>by
  rw [List.length_cons,Nat.add_mul,Nat.one_mul] at hb ⊢
  have w0:=hw t (.head _)
  have V:=Zs7 s t.Words A p (fun q x y=>hb q x (by omega))
  obtain ⟨h1,h2⟩:=Z1v s M ts (Y5 A s p t.Words) (p+(M:Int)) (fun u hu=>hw u (.tail _ hu)) (fun q x y=>by rw [Zdy];exact hb q (by omega) (by omega))
  rw [Ks]
  refine ⟨fun s' p' c=>by rw [h1 s' p' (by omega),V,if_neg (by omega)],fun i u hu j hj => ?_⟩
  cases i with
  | zero =>
   have:t=u:=by simpa using hu
   subst this
   rw [h1 _ _ (by omega),V]
   by_cases c:j < t.Words.length
   ·rw [if_pos ⟨rfl,by omega,by omega⟩,if_pos c]
    congr 1
    omega
   rw [if_neg (by omega),if_neg c]
  | succ i =>
   have:=h2 i u (by simpa using hu) j hj
   rw [show p+(((i+1) * M:Nat):Int)+(j:Int)=p+(M:Int)+((i * M:Nat):Int)+(j:Int) by rw [Nat.add_mul,Nat.one_mul];omega,this]
   by_cases c:j < u.Words.length
   ·rw [if_pos c,if_pos c]
   rw [if_neg c,if_neg c,V,if_neg (by omega)]
theorem Z2c {size most:Int} {f:Tr→Int→Int→SG→Option SG} (hf:Gp size most f) {t:Tr} {d:Nat} (hm:Nm t d) (h9:t.Kind=9) {σ ρ τ:SG} {r:Int×Int×SG} {s p:Int} (hs:St size most σ) (hsp:Yl σ.1 s p 1=true)
  (hg:Ys size σ (Gd t)=some r) (ha:K5 size r.2.2 s p (pkd t) (pup t) r.1 r.2.1=some ρ) (e:inT true f r.1 r.2.1 t ρ=some τ) (ih:∀ u∈t.Kids,∀ x∈u.Kids,Z64 size most f x) {B:List (List Int)} (hB:Ag σ τ s p B):∃ r,atR ⟨B,0,0⟩ s p=(r,0)∧MR ⟨B,0,0⟩ r (fm t):=by
 have g:=Zo1 hs hsp hg ha
 have hs1:=(Qj hs hg).2.2.2.2.1
 obtain ⟨h,b,σ1⟩:=r
 simp only at g ha e hs1
 obtain ⟨a1,a2,w0,w1,k0,k1,ak⟩:=Zth hm.f h9
 obtain ⟨W,hW⟩:∃ W:Nat,(fr t.Kids).1=(W:Int):=⟨_,(Int.toNat_of_nonneg w0).symm⟩
 obtain ⟨K,hK⟩:∃ K:Nat,(fr t.Kids).2=(K:Int):=⟨_,(Int.toNat_of_nonneg k0).symm⟩
 have hfr:fr t.Kids=((W:Int),(K:Int)):=Prod.ext hW hK
 have hM:(W:Int)+(K:Int)=((W+K:Nat):Int):=by omega
 have hpw:Gd t=1+((t.Kids.length * (W+K):Nat):Int):=by rw [Zez h9,hW,hK,hM,← Int.natCast_mul]
 have ak':∀ u∈t.Kids,u.Words.length≤W∧u.Kids.length≤K:=fun u hu=>by have:=ak u hu;omega
 rw [hpw] at g
 have gb:=g.b1
 have gn:=g.n0
 have b0:=g.b0
 have hlb:=Z8f hm
 unfold inT at e
 rw [if_neg (by omega),if_neg (by omega),if_pos h9,if_pos rfl,hW,hK,hM,Z35] at e
 have zb:=g.z b (Int.le_refl _) (by omega)
 have hb1:Yl ρ.1 h b 1=true:=hasB_iff.2 ⟨0,zb.2.2⟩
 obtain ⟨A0,hA0,xA,sA,e⟩:∃ A0,(∀ s' p',vA A0 s' p'=if s'=h∧p'=b then some (Zbl t) else vA ρ.1 s' p')∧(∀ s' p' k,Yl ρ.1 s' p' k=true→Yl A0 s' p' k=true)∧St size most (A0,ρ.2)∧Zn2 f h (Zu2 ((W+K:Nat):Int) (W:Int) (b+1) t.Kids) (Ks h ((W+K:Nat):Int) (b+1) t.Kids A0,ρ.2)=some τ:=by
  by_cases hk:t.Kids=[]
  ·rw [if_pos hk] at e
   refine ⟨ρ.1,fun s' p' => ?_,fun _ _ _ q=>q,g.st,e⟩
   split
   ·rename_i c
    rw [c.1,c.2,zb.2.2]
    unfold Zbl
    rw [hk]
    rfl
   rfl
  rw [if_neg hk] at e
  exact ⟨_,fun s' p'=>Kj _ hb1 s' p',fun _ _ _ q=>by rw [Gv];exact q,St.put g.st _ _ _,e⟩
 have rowA:∀ q,b+1≤q→q < b+1+((t.Kids.length * (W+K):Nat):Int)→Yl A0 h q 1=true:=fun q x y=>xA _ _ _ (hasB_iff.2 ⟨0,(g.z q (by omega) (by omega)).2.2⟩)
 obtain ⟨V1,V2⟩:=Z1v h (W+K) t.Kids A0 (b+1) (fun u hu=>by have:=ak' u hu;omega) rowA
 have s2:St size most (Ks h ((W+K:Nat):Int) (b+1) t.Kids A0,ρ.2):=St.words h _ _ _ sA
 have x2:Ex ρ (Ks h ((W+K:Nat):Int) (b+1) t.Kids A0,ρ.2):=fun s' p' k q=>by
  show Yl (Ks h _ (b+1) t.Kids A0) s' p' k=true
  rw [Zny]
  exact xA _ _ _ q
 have pos:∀ a∈Zu2 ((W+K:Nat):Int) (W:Int) (b+1) t.Kids,∃ (i:Nat) (u:Tr) (j:Nat),t.Kids[i]? = some u∧u∈t.Kids∧u.Kids[j]? = some a.2∧a.2∈u.Kids∧j < u.Kids.length∧j < K∧i * (W+K)+(W+K)≤t.Kids.length * (W+K)∧a.1=b+1+((i * (W+K):Nat):Int)+((W+j:Nat):Int):=fun a ha'=>by
  obtain ⟨i,u,j,h1,h2,h3⟩:=Z14 _ _ _ _ a ha'
  have hu:=List.mem_of_getElem? h1
  have hj:j < u.Kids.length:=(List.getElem?_eq_some_iff.1 h2).1
  have:=ak' u hu
  refine ⟨i,u,j,h1,hu,h2,List.mem_of_getElem? h2,hj,by omega,Zbi (List.getElem?_eq_some_iff.1 h1).1,?_⟩
  rw [h3,← Int.natCast_mul]
  omega
 have cell:∀ (i:Nat) (u:Tr),t.Kids[i]? = some u→∀ j,j < W+K→vA (Ks h ((W+K:Nat):Int) (b+1) t.Kids A0) h (b+1+((i * (W+K):Nat):Int)+(j:Int))=some (u.Words[j]?.getD 0)∧vA σ.1 h (b+1+((i * (W+K):Nat):Int)+(j:Int))=none:=fun i u hu j hj=>by
  have hmul:=Zbi (m:=W+K) (List.getElem?_eq_some_iff.1 hu).1
  have z:=g.z (b+1+((i * (W+K):Nat):Int)+(j:Int)) (by omega) (by omega)
  refine ⟨?_,z.2.1⟩
  rw [V2 i u hu j hj]
  by_cases c:j < u.Words.length
  ·rw [if_pos c,List.getElem?_eq_getElem c];rfl
  rw [if_neg c,hA0,if_neg (by omega),z.2.2,List.getElem?_eq_none (by omega)];rfl
 have zk:∀ a∈Zu2 ((W+K:Nat):Int) (W:Int) (b+1) t.Kids,vA σ.1 h a.1=none∧vA (Ks h ((W+K:Nat):Int) (b+1) t.Kids A0) h a.1=some 0:=fun a ha'=>by
  obtain ⟨i,u,j,h1,hu,_,_,hj,hjK,hmul,h3⟩:=pos a ha'
  obtain ⟨c1,c2⟩:=cell i u h1 (W+j) (by omega)
  have:=ak' u hu
  rw [List.getElem?_eq_none (by omega)] at c1
  rw [h3]
  exact ⟨c2,c1⟩
 have hpw2:(Zu2 ((W+K:Nat):Int) (W:Int) (b+1) t.Kids).Pairwise (fun a b=>a.1 < b.1):=Z5e _ _ (by omega) (by omega) _ _ (fun u hu=>by have:=ak' u hu;omega)
 obtain ⟨_,x3,kp,_⟩:=Zgf hf h _ _ τ hpw2 s2 (fun a ha'=>hasB_iff.2 ⟨0,(zk a ha').2⟩) e
 have KB:=Zqb hf hpw2 s2 e ((g.x1.trans g.x2).trans x2) zk (fun a ha'=>by
  obtain ⟨i,u,j,_,hu,_,hx,_⟩:=pos a ha'
  exact ih u hu a.2 hx) hB
 have out:∀ s' p',Yl ρ.1 s' p' 1=true→¬ (s'=h∧b+1≤p'∧p' < b+1+((t.Kids.length * (W+K):Nat):Int))→vA τ.1 s' p'=vA A0 s' p':=fun s' p' q c=>by
  rw [kp s' p' (x2 _ _ _ q) (fun a ha' q2=>by
   obtain ⟨i,u,j,_,_,_,_,_,hjK,hmul,h3⟩:=pos a ha'
   omega)]
  exact V1 s' p' c
 have hA:=Zxp g hsp (x2.trans x3) (fun s' p' q c=>by rw [out s' p' q (by omega),hA0,if_neg (by omega)]) hB
 have hP:PtrOf ⟨2,0,0,0,7,((t.Kids.length * (W+K):Nat):Int),0,false⟩ (pkd t) (pup t) := .inr ⟨_,_,rfl,by unfold pkd;rw [if_neg (by omega)],by unfold pup;rw [if_neg (by omega),if_pos h9,hW,hK,hM,← Int.natCast_mul],by omega,by omega,by omega,by omega⟩
 have hf':=Zsv hs1 hP (g.x1 _ _ _ hsp) ⟨g.b0,by omega⟩ ⟨g.h0,g.h1⟩ ha hA (fun c=>by have:=c.1;unfold pkd at this;rw [if_neg (by omega)] at this;omega) (by
  have:=Zo3 (hA.ex _ _ _ g.row)
  rw [show pw (⟨2,0,0,0,7,((t.Kids.length * (W+K):Nat):Int),0,false⟩:Z4)=1+((t.Kids.length * (W+K):Nat):Int) from by
   unfold pw
   rw [if_neg (by simp),if_pos rfl]
   show ((t.Kids.length * (W+K):Nat):Int)+1=_
   omega]
  exact this)
 have hwt:vA B h b=some (Zbl t):=hB.eq h b _ (by rw [out h b hb1 (by omega),hA0,if_pos ⟨rfl,rfl⟩]) (.inl zb.2.1)
 have etag:Zbl t=Ycd t W K:=by unfold Zbl Ycd;rw [hW,hK]
 obtain ⟨kd,kd1,kd2⟩:=Yea hfr (by omega) (show W≤65535 by omega) (show K≤65535 by omega)
 have hat:atR ⟨B,0,0⟩ s p=(⟨some ⟨B,0,0⟩,9,h,b,(W:Int),(K:Int),(t.Kids.length:Int),0,0⟩,0) :=
  Z7l (A:=⟨B,0,0⟩) hf' rfl rfl (by show dc (wd B h b)=_;rw [Zsj hwt,etag,kd2]) kd1 (by omega) (by show (t.Kids.length:Int) * ((W:Int)+(K:Int))≤((t.Kids.length * (W+K):Nat):Int);rw [Int.natCast_mul,Int.natCast_add];exact Int.le_refl _)
 have ho:=Zys hat
 have kn:Ym (⟨some ⟨B,0,0⟩,9,h,b,(W:Int),(K:Int),(t.Kids.length:Int),0,0⟩:Zd)=(t.Kids.length:Int):=rfl
 have keep:∀ (i:Nat) (y:Tr),t.Kids[i]? = some y→∀ j,j < W+K→(j < W∨W+y.Kids.length≤j)→vA B h (b+1+((i * (W+K):Nat):Int)+(j:Int))=some (y.Words[j]?.getD 0):=fun i y hy j hj hq=>by
  obtain ⟨c1,c2⟩:=cell i y hy j hj
  refine hB.eq _ _ _ ?_ (.inl c2)
  rw [kp _ _ (hasB_iff.2 ⟨_,c1⟩) (fun a ha' q => ?_)]
  ·exact c1
  obtain ⟨i',u,j',h1,hu,_,_,hj',hjK,hmul,h3⟩:=pos a ha'
  rw [h3] at q
  rcases Nat.lt_trichotomy i' i with c | c | c
  ·have:=Zbi (m:=W+K) c
   omega
  ·subst c
   rw [hy] at h1
   cases h1
   omega
  have:=Zbi (m:=W+K) c
  omega
 have main:∀ (i:Nat) (y:Tr),t.Kids[i]? = some y→(Yq ⟨B,0,0⟩ (⟨some ⟨B,0,0⟩,9,h,b,(W:Int),(K:Int),(t.Kids.length:Int),0,0⟩:Zd) (i:Int)).2=0∧MR ⟨B,0,0⟩ (Yq ⟨B,0,0⟩ (⟨some ⟨B,0,0⟩,9,h,b,(W:Int),(K:Int),(t.Kids.length:Int),0,0⟩:Zd) (i:Int)).1 (Z04 (fr t.Kids) (fm y)):=fun i y hy=>by
  have hym:=List.mem_of_getElem? hy
  have hi:i < t.Kids.length:=(List.getElem?_eq_some_iff.1 hy).1
  have hks:=Z8d (A:=⟨B,0,0⟩) (r:=⟨some ⟨B,0,0⟩,9,h,b,(W:Int),(K:Int),(t.Kids.length:Int),0,0⟩) rfl (i:=(i:Int)) (by rw [kn];omega)
  have hok:=Vi ho (i:Int)
  rw [hks] at hok ⊢
  have ec:b+1+(i:Int) * ((W:Int)+(K:Int))=b+1+((i * (W+K):Nat):Int):=by rw [Int.natCast_mul,Int.natCast_add]
  simp only [ec] at hok ⊢
  obtain ⟨yw,yk⟩:=ak' y hym
  have e1:(fr t.Kids).1.toNat=W:=by rw [hfr];exact Int.toNat_natCast W
  have e2:(fr t.Kids).2.toNat=K:=by rw [hfr];exact Int.toNat_natCast K
  have k1:=(hm.structs h9 y hym).2
  have fk:(fm y).Kids=y.Kids.map fm:=Zfb (by omega)
  refine ⟨trivial,.mk _ _ hok (by show (fm y).Kind=1;rw [Zoq,k1]) ?_ ?_ ?_ ?_⟩
  ·show Z05 (fr t.Kids).1.toNat (fm y).Words=_
   rw [e1,Zz4]
   refine (Z11 (Z06 yw) (fun j hj => ?_) (by omega)).symm
   rw [Z06 yw] at hj
   rw [Z88 yw hj,keep i y hy j (by omega) (.inl hj)]
  ·show ((Zyx (fr t.Kids).2.toNat (fm y).Kids).length:Int)=(K:Int)
   rw [e2,Z87 (by rw [fk,List.length_map];exact yk)]
  all_goals
   intro j x hx
   have hx':(Zyx (fr t.Kids).2.toNat (fm y).Kids)[j]? = some x:=hx
   rw [e2,fk] at hx'
   have fin:∃ r,atR ⟨B,0,0⟩ h (b+1+((i * (W+K):Nat):Int)+(W:Int)+(j:Int))=(r,0)∧MR ⟨B,0,0⟩ r x∧j < K:=by
    rcases Z86 hx' with q | ⟨q1,q2,q3⟩
    ·obtain ⟨z,hz,hzm,rfl⟩:=Zo7 q
     have hj:j < y.Kids.length:=(List.getElem?_eq_some_iff.1 hz).1
     obtain ⟨r,r1,r2⟩:=KB _ (Z12 ((W+K:Nat):Int) (W:Int) t.Kids (b+1) i y hy j z hz)
     simp only [← Int.natCast_mul] at r1
     exact ⟨r,r1,r2,by omega⟩
    rw [List.length_map] at q1
    subst q3
    have:=keep i y hy (W+j) (by omega) (.inr (by omega))
    rw [List.getElem?_eq_none (by omega),show b+1+((i * (W+K):Nat):Int)+((W+j:Nat):Int)=b+1+((i * (W+K):Nat):Int)+(W:Int)+(j:Int) by omega] at this
    exact ⟨r0,Zzq this,Z4d,q2⟩
   obtain ⟨r,r1,r2,r3⟩:=fin
   rw [Z0i r3,r1] <;> first | exact r2 | rfl
 refine ⟨_,hat,.mk _ _ ho (by rw [Zoq,h9]) ?_ (by rw [Zti h9,List.length_map,kn]) ?_ ?_⟩
 ·rw [Zz4,(Uu hm.f.rt (by omega) hm.k).2.2.1 (by omega)]
  rfl
 all_goals
  intro i x hx
  rw [Zti h9] at hx
  obtain ⟨y,hy,hym,rfl⟩:=Zo7 hx
  first | exact (main i y hy).1 | exact (main i y hy).2
theorem Zkr (size most:Int):∀ (n:Nat) (t:Tr) (d:Nat),SizeOf.sizeOf t < n→Nm t d→Z64 size most (Vx true size n) t
 | 0,_,_,h,_=>by omega
 | n+1,t,d,h,hm=>fun s p σ τ hs hz e B hB=>by
  have h10:=hm.k
  have hf:=Zbg true size most n
  have hsp:Yl σ.1 s p 1=true:=hasB_iff.2 ⟨0,hz⟩
  simp only [Vx] at e
  by_cases c0:t.Kind=0
  ·rw [if_pos c0] at e
   have:=Option.some.inj e;subst this
   rw [hm.null c0]
   exact ⟨r0,Zzq (hB.eq s p 0 hz (.inr ⟨rfl,rfl⟩)),by rw [Zvt];exact Z4d⟩
  rw [if_neg c0] at e
  cases hg:Ys size σ (Gd t) with
  | none=>rw [hg] at e;cases e
  | some r =>
   rw [hg,Option.bind_some] at e
   cases ha:K5 size r.2.2 s p (pkd t) (pup t) r.1 r.2.1 with
   | none=>rw [ha] at e;cases e
   | some ρ =>
    rw [ha,Option.bind_some] at e
    have kd:=Zvz hm.f c0 h10
    by_cases h1:t.Kind=1
    ·exact Zxu hf hm h1 hs hsp hg ha e (fun x hx=>Zkr size most n x (d - 1) (by have:=Xc hx;omega) (hm.okids (.inl h1) x hx)) hB
    by_cases h2:2≤t.Kind∧t.Kind≤7
    ·exact Z2d hm h2 hs hsp hg ha e hB
    by_cases h8:t.Kind=8
    ·exact Z2e hf hm h8 hs hsp hg ha e (fun x hx=>Zkr size most n x (d - 1) (by have:=Xc hx;omega) (hm.okids (.inr h8) x hx)) hB
    have h9:t.Kind=9:=by omega
    exact Z2c hf hm h9 hs hsp hg ha e (fun u hu x hx=>Zkr size most n x (d - 1 - 1) (by have:=Xc hu;have:=Xc hx;omega) ((hm.structs h9 u hu).1.okids (.inl (hm.structs h9 u hu).2) x hx)) hB
theorem Z7s {t:Tr} (hbd:Bd t) (hp:pt t≤200000) {size most:Int} {τ:SG} (h:Zf6 false t size most=some τ):∃ r,atR ⟨τ.1,0,0⟩ 0 0=(r,0)∧MR ⟨τ.1,0,0⟩ r (fm (nrm t))∧Nm (nrm t) 64:=by
 rw [← Z7t hbd hp] at h
 unfold Zf6 at h
 by_cases c:t.Kind=10∨rt t 64=false
 ·rw [if_pos c] at h;cases h
 rw [if_neg c] at h
 have hr:rt t 64=true:=by
  cases h:rt t 64 with
  | true=>rfl
  | false=>exact absurd (.inr h) c
 have hm:Nm (nrm t) 64:=⟨Fine.nrm ⟨hbd,hr,hp⟩,Zpa t,by rw [Kv];exact fun q=>c (.inl q)⟩
 cases hg:Ys (szB size) ([],Q6 most) 1 with
 | none=>rw [hg] at h;cases h
 | some r =>
  rw [hg,Option.bind_some] at h
  have g:=Qj (Zqz size most) hg
  obtain ⟨h1,h2⟩:=Zoz hg
  have e0:r.1=0∧r.2.1=0:=by
   by_cases q:(1:Int) < 0∨Q6 most < 1
   ·have e:Xf [] (szB size) (Q6 most) 1=(0,0,false,[],Q6 most):=if_pos q
    rw [show Xf (([]:List (List Int)),Q6 most).1 (szB size) (([]:List (List Int)),Q6 most).2 1=_ from e] at h1
    cases h1
   have e:Xf [] (szB size) (Q6 most) 1=(0,0,true,[]++[Go.Proofs.YtmjjjfamipncdaaGreat.zl [] 1],IntKind.i64.wrap (Q6 most - 1)):=(if_neg q).trans (if_pos (.inl rfl))
   rw [h2,show Xf (([]:List (List Int)),Q6 most).1 (szB size) (([]:List (List Int)),Q6 most).2 1=_ from e]
   exact ⟨rfl,rfl⟩
  have hz:vA r.2.2.1 r.1 r.2.1=some 0:=by
   rw [g.2.2.2.2.2.2.2.1,if_pos ⟨rfl,Int.le_refl _,by omega⟩]
  obtain ⟨x,x1,x2⟩:=Zkr (szB size) (Q6 most) _ (nrm t) 64 (Nat.lt_succ_self _) hm r.1 r.2.1 r.2.2 τ g.2.2.2.2.1 hz h τ.1 ⟨fun _ _ _ q=>q,fun _ _ _ q _=>q⟩
  rw [e0.1,e0.2] at x1
  exact ⟨x,x1,x2,hm⟩
attribute [local push_cast] Bool.and_self List.take_nil List.drop_zero List.drop_succ_cons List.drop_nil List.append_nil Nat.zero_add List.map_cons List.map_nil and_true false_and Bool.true_eq_false forall_const implies_true or_false beq_iff_eq bne_iff_ne beq_eq_false_iff_ne beq_self_eq_true exists_eq_left' Bool.not_true Bool.not_false imp_self Z7q Z7p Bool.not_not Bool.and_false Bool.false_and Uz Zdn Zbm Zog Gn K2 Nat.add_assoc Zcl Zbe Nat.le_refl Bool.not_eq_true' Bool.not_eq_false' Zmx Zdc Zr0 Z1y Zrz Zyk Z38 Zlk Zli Zih Zff Zlj Za7 Zno Zaj
noncomputable def Km (a0:(List (List Int))) (a1:Yd) (a2:Int):Option Bool :=
 (K9 a1).bind fun y2=>(Ju a0 y2).bind fun y4=>(cond (y4.2.2 != 0) (some true) ((Va y4.1).bind fun y8=>some (cond (y4.2.2 != 0) true (!y8)))).bind fun (z6:Bool)=>cond z6 ((Q9).bind fun y11=>some y11) ((U2 y4.1 a2 131072).bind fun y13=>(Xj a0).bind fun y17=>(Xj a0).bind fun y18=>(Q5 y17 y18 y2.MaxD).bind fun y19=>(Xj a0).bind fun y23=>(Xj y13.1).bind fun y24=>(Q5 y23 y24 y2.MaxD).bind fun y25=>(cond (y19.1.Kind == 0) (cond (y19.2 == 0) (cond y13.2 (cond (y25.1.Kind == 0) (cond (y25.2 == 0) ((Q9).bind fun y31=>some (cond (cond (cond (y19.1.Kind == 0) (y19.2 == 0) false) (cond (!y13.2) true (cond (y25.1.Kind == 0) (y25.2 == 0) false)) false) y31 false)) (some false)) (some false)) ((Q9).bind fun y32=>some (cond (cond (cond (y19.1.Kind == 0) (y19.2 == 0) false) (cond (!y13.2) true (cond (y25.1.Kind == 0) (y25.2 == 0) false)) false) y32 false))) (some false)) (some false)).bind fun (z28:Bool)=>some z28)
def qc (p:Int):Int:=p * p+6 * p
theorem Z9i {a b:Int} (ha:0≤a) (hb:0≤b):qc a+qc b≤qc (a+b):=by
 have:=Int.mul_nonneg ha hb
 unfold qc
 grind
theorem Z1b {a:Int} (ha:0≤a):0≤qc a:=by
 have:=Int.mul_nonneg ha ha
 unfold qc
 omega
theorem Z9j {a b:Int} (ha:0≤a) (h:a≤b):qc a≤qc b:=by
 have:=Z9i ha (b:=b - a) (by omega)
 have:=Z1b (a:=b - a) (by omega)
 rw [show a+(b - a)=b by omega] at *
 omega
def Qs (ts:List Tr):Int:=(ts.map fun x=>qc (pt x:Int)).sum
theorem Zy4 {α:Type} {f:α→Int} {g:α→Nat}:∀ l:List α,(∀ x∈l,f x≤qc (g x:Int))→(l.map f).sum≤qc (((l.map g).sum:Nat):Int)
 | [],_=>by simp [qc]
 | x::l,h=>by
  have a:=h x (.head _)
  have b:=Zy4 l fun y hy=>h y (.tail _ hy)
  have c:=Z9i (a:=(g x:Int)) (b:=(((l.map g).sum:Nat):Int)) (by omega) (by omega)
  rw [List.map_cons,List.map_cons,List.sum_cons,List.sum_cons,Int.natCast_add]
  omega
theorem Ycl (ts:List Tr):Qs ts≤qc (((ts.map pt).sum:Nat):Int):=Zy4 ts fun _ _=>Int.le_refl _
theorem Ybs (c:Int) (ns:List Int):(Zaq c ns).length≤ns.length:=by
 unfold Zaq
 by_cases h0:c=0
 ·rw [if_pos h0];exact Nat.zero_le _
 rw [if_neg h0,Zp6,List.length_replicate]
 have hw:wid c≤64:=by unfold wid;(repeat' split) <;> omega
 have:=Nat.mul_le_mul_left ns.length hw
 omega
def qk9 (u:Tr):Int:=Qs u.Kids
def wl9 (u:Tr):Nat:=u.Words.length
def kp9 (u:Tr):Nat:=(u.Kids.map pt).sum
theorem Yc4:∀ l:List Tr,(l.map pt).sum=l.length+(l.map wl9).sum+(l.map kp9).sum
 | []=>rfl
 | u::l=>by
  have:=Yc4 l
  rw [List.map_cons,List.map_cons,List.map_cons,List.sum_cons,List.sum_cons,List.sum_cons,List.length_cons,this,Ziu u]
  unfold wl9 kp9
  omega
theorem Z9h {t:Tr} {d:Nat} (hF:Fine t d) (h0:¬ t.Kind=0) (h10:¬ t.Kind=10):0≤Gd t∧2 * Gd t+4+(if t.Kind=9 then (t.Kids.map qk9).sum else if t.Kind=1∨t.Kind=8 then Qs t.Kids else 0)≤qc (pt t:Int):=by
 have kd:=Zvz hF h0 h10
 have pe:=Ziu t
 have pk:=Zpb (f:=pt) (l:=t.Kids) fun x _=>Zy1 x
 have key:∀ w k P:Int,0≤w→0≤P→k≤P→2 * (w+k)+4+qc P≤qc (1+w+P):=fun w k P a b c=>by
  have h1:=Int.mul_nonneg a a
  have h2:=Int.mul_nonneg a b
  unfold qc
  grind
 have ql:=Ycl t.Kids
 generalize hP:(t.Kids.map pt).sum=P at *
 by_cases c9:t.Kind=9
 ·obtain ⟨a1,a2,w0,w1,k0,k1,ak⟩:=Zth hF c9
  rw [if_pos c9,Zez c9]
  refine ⟨by omega,?_⟩
  have s9:=Yc4 t.Kids
  rw [hP] at s9
  have q9:=Zy4 (f:=qk9) (g:=kp9) t.Kids fun u _=>Ycl u.Kids
  obtain ⟨-,fW,-,fK,-⟩:=Ycs (l:=t.Kids) (M:=(((t.Kids.map wl9).sum:Nat):Int)) (N:=(((t.Kids.map kp9).sum:Nat):Int)) (fun x hx=>⟨by
   have:=Zpc (f:=wl9) hx
   unfold wl9 at this ⊢
   omega,by
   have:=Zpc (f:=kp9) hx
   have:=Zpb (f:=pt) (l:=x.Kids) fun y _=>Zy1 y
   unfold kp9 at *
   omega⟩) (by omega) (by omega)
  generalize (t.Kids.map wl9).sum=SW at s9 fW
  generalize (t.Kids.map kp9).sum=SP at s9 fK q9
  have m1:=Int.mul_le_mul_of_nonneg_left (show (fr t.Kids).1+(fr t.Kids).2≤(SW:Int)+SP by omega) (show (0:Int)≤(t.Kids.length:Int) by omega)
  have m2:=Z9j (a:=1+(t.Kids.length:Int)+SW+SP) (b:=(pt t:Int)) (by omega) (by omega)
  generalize (t.Kids.length:Int) * ((fr t.Kids).1+(fr t.Kids).2)=F at *
  have hn:(0:Int)≤(t.Kids.length:Int):=by omega
  generalize (t.Kids.length:Int)=n at *
  have hw:(0:Int)≤SW:=by omega
  have hs:(0:Int)≤SP:=by omega
  generalize (SW:Int)=W at *
  generalize (SP:Int)=S at *
  have g1:=Int.mul_nonneg hn hn
  have g2:=Int.mul_nonneg hn hw
  have g3:=Int.mul_nonneg hn hs
  have g4:=Int.mul_nonneg hw hw
  have g5:=Int.mul_nonneg hw hs
  have m3:2 * (1+n * (W+S))+4+qc S≤qc (1+n+W+S):=by
   unfold qc
   grind
  omega
 rw [if_neg c9]
 by_cases c1:t.Kind=1
 ·rw [if_pos (.inl c1),Ze0 c1]
  have:=key (t.Words.length:Int) (t.Kids.length:Int) (P:Int) (by omega) (by omega) (by omega)
  rw [show (pt t:Int)=1+(t.Words.length:Int)+(P:Int) by omega]
  exact ⟨by omega,by omega⟩
 have:=key 0 (t.Kids.length:Int) (P:Int) (by omega) (by omega) (by omega)
 have m2:=Z9j (a:=1+0+(P:Int)) (b:=(pt t:Int)) (by omega) (by omega)
 have:=Z1b (a:=(P:Int)) (by omega)
 by_cases c8:t.Kind=8
 ·rw [if_pos (.inr c8),Zjt c8]
  exact ⟨by omega,by omega⟩
 rw [if_neg (by omega)]
 have e:Gd t=((Zaq (t.Kind - 2) (ato t)).length:Int):=by unfold Gd;rw [if_neg c1,if_neg c9,if_neg c8]
 have:=Ybs (t.Kind - 2) (ato t)
 rw [Zj8] at this
 exact ⟨by omega,by omega⟩
theorem Zqa {size most k:Int} {σ:SG} (hs:St size most σ) (h0:0≤k) (h1:k≤σ.2):∃ r,Ys size σ k=some r∧r.2.2.2=σ.2 - k:=by
 have w:IntKind.i64.wrap (σ.2 - k)=σ.2 - k:=Vv (by have:=hs.hl0;have:=hs.hm;have:=hs.hmm;omega)
 by_cases c2:σ.1.length=0∨σ.1.length < 16∧¬ k≤IntKind.i64.wrap (size - ((Q3 σ.1).length:Int))
 ·have e:Xf σ.1 size σ.2 k=((σ.1.length:Int),0,true,σ.1++[zl [] k],IntKind.i64.wrap (σ.2 - k)):=(if_neg (by omega)).trans (if_pos c2)
  exact ⟨((σ.1.length:Int),0,σ.1++[zl [] k],IntKind.i64.wrap (σ.2 - k)),by unfold Ys;rw [e];rfl,w⟩
 have e:Xf σ.1 size σ.2 k=((σ.1.length:Int) - 1,((Q3 σ.1).length:Int),true,σ.1.set (σ.1.length - 1) (zl (Q3 σ.1) k),IntKind.i64.wrap (σ.2 - k)):=(if_neg (by omega)).trans (if_neg c2)
 exact ⟨((σ.1.length:Int) - 1,((Q3 σ.1).length:Int),σ.1.set (σ.1.length - 1) (zl (Q3 σ.1) k),IntKind.i64.wrap (σ.2 - k)),by unfold Ys;rw [e];rfl,w⟩
theorem Z79 {size most h:Int} {σ:SG} {r:Int×SG} (hs:St size most σ) (e:inO size σ h=some r):r.2.2=σ.2 - 1:=by
 unfold inO at e
 cases hx:Z5 σ.1 h with
 | none=>rw [hx] at e;cases e
 | some x =>
  rw [hx] at e
  dsimp only at e
  split at e
  ·have:=Option.some.inj e;subst this
   exact Vv (by have:=hs.hl0;have:=hs.hm;have:=hs.hmm;omega)
  cases e
theorem Z7g {size most s p k u h b:Int} {σ:SG} (hs:St size most σ) (h2:2≤σ.2):∃ τ,K5 size σ s p k u h b=some τ∧σ.2 - 2≤τ.2:=by
 unfold K5
 by_cases c1:k=0∧u=0
 ·rw [if_pos c1];exact ⟨_,rfl,show σ.2 - 2≤σ.2 by omega⟩
 rw [if_neg c1]
 by_cases c2:h=s
 ·rw [if_pos c2];exact ⟨_,rfl,show σ.2 - 2≤σ.2 by omega⟩
 rw [if_neg c2]
 cases e:inO size σ h with
 | some r=>exact ⟨_,rfl,show σ.2 - 2≤r.2.2 by rw [Z79 hs e];omega⟩
 | none =>
  obtain ⟨r,r1,r2⟩:=Zqa hs (k:=2) (by decide) h2
  dsimp only
  rw [r1]
  exact ⟨_,rfl,show σ.2 - 2≤r.2.2.2 by omega⟩
def Can (size most:Int) (f:Tr→Int→Int→SG→Option SG) (t:Tr):Prop:=∀ s p σ,St size most σ→qc (pt t:Int)≤2 * σ.2→∃ τ,f t s p σ=some τ∧2 * σ.2 - qc (pt t:Int)≤2 * τ.2
theorem Zzm (ts:List Tr):0≤Qs ts:=by
 induction ts with
 | nil=>exact Int.le_refl _
 | cons t ts ih =>
  have:=Z1b (a:=(pt t:Int)) (by omega)
  unfold Qs at ih ⊢
  rw [List.map_cons,List.sum_cons]
  omega
theorem Zo5 {size most:Int} {f:Tr→Int→Int→SG→Option SG} (hf:Gp size most f) (s:Int):∀ (ts:List Tr) (p:Int) (σ:SG),(∀ t∈ts,Can size most f t)→St size most σ→Qs ts≤2 * σ.2→∃ τ,Jy f s p ts σ=some τ∧St size most τ∧2 * σ.2 - Qs ts≤2 * τ.2
 | [],_,σ,_,hs,_=>⟨σ,rfl,hs,by show 2 * σ.2 - 0≤_;omega⟩
 | t::ts,p,σ,hk,hs,hq=>by
  have e:Qs (t::ts)=qc (pt t:Int)+Qs ts:=rfl
  have n1:=Zzm ts
  have n2:=Z1b (a:=(pt t:Int)) (by omega)
  rw [e] at hq ⊢
  obtain ⟨ρ,r1,r2⟩:=hk t (.head _) s p σ hs (by omega)
  obtain ⟨τ,t1,t2,t3⟩:=Zo5 hf s ts (p+1) ρ (fun x hx=>hk x (.tail _ hx)) ((hf t s p σ hs).1 ρ r1).1 (by omega)
  exact ⟨τ,by rw [Jy,r1,Option.bind_some,t1],t2,by omega⟩
theorem Zvo {size most:Int} {f:Tr→Int→Int→SG→Option SG} (hf:Gp size most f) (s m w:Int):∀ (us:List Tr) (p:Int) (σ:SG),(∀ u∈us,∀ t∈u.Kids,Can size most f t)→St size most σ→(us.map qk9).sum≤2 * σ.2→∃ τ,Zas f s m w p us σ=some τ∧2 * σ.2 - (us.map qk9).sum≤2 * τ.2
 | [],_,σ,_,_,_=>⟨σ,rfl,by show 2 * σ.2 - 0≤_;omega⟩
 | u::us,p,σ,hk,hs,hq=>by
  have n1:∀ l:List Tr,0≤(l.map qk9).sum:=fun l=>by
   induction l with
   | nil=>exact Int.le_refl _
   | cons x l ih =>
    have:0≤qk9 x:=Zzm x.Kids
    rw [List.map_cons,List.sum_cons]
    omega
  have n2:=n1 us
  have n3:=Zzm u.Kids
  rw [List.map_cons,List.sum_cons,show qk9 u=Qs u.Kids from rfl] at hq ⊢
  obtain ⟨ρ,r1,r2,r3⟩:=Zo5 hf s u.Kids (p+w) (Y5 σ.1 s p u.Words,σ.2) (hk u (.head _)) (St.lays s u.Words hs p) (by show _≤2 * σ.2;omega)
  have r3':2 * σ.2 - Qs u.Kids≤2 * ρ.2:=r3
  obtain ⟨τ,t1,t2⟩:=Zvo hf s m w us (p+m) ρ (fun x hx=>hk x (.tail _ hx)) r2 (by omega)
  exact ⟨τ,by rw [Zas,r1,Option.bind_some,t1],by omega⟩
theorem Ztv (size most:Int):∀ (n:Nat) (t:Tr) (d:Nat),SizeOf.sizeOf t < n→Fine t d→¬ t.Kind=10→Can size most (Vx false size n) t
 | 0,_,_,h,_,_=>by omega
 | n+1,t,d,h,hF,h10=>fun s p σ hs hq=>by
  have qn:=Z1b (a:=(pt t:Int)) (by omega)
  simp only [Vx]
  have hf:=Zbg false size most n
  by_cases c0:t.Kind=0
  ·rw [if_pos c0];exact ⟨σ,rfl,by omega⟩
  rw [if_neg c0]
  have ik:=(Uu hF.rt c0 h10).2.2.2
  obtain ⟨w0,w1⟩:=Z9h hF c0 h10
  have kc:∀ x∈t.Kids,t.Kind=1∨t.Kind=8→Can size most (Vx false size n) x:=fun x hx c=>Ztv size most n x (d - 1) (by have:=Xc hx;omega) (hF.kid hx) (Vl (by omega) (ik x hx).2).1
  have In:0≤(if t.Kind=9 then (t.Kids.map qk9).sum else if t.Kind=1∨t.Kind=8 then Qs t.Kids else 0):=by
   split
   ·have n1:∀ l:List Tr,0≤(l.map qk9).sum:=fun l=>by
     induction l with
     | nil=>exact Int.le_refl _
     | cons x l ih =>
      have:0≤qk9 x:=Zzm x.Kids
      rw [List.map_cons,List.sum_cons]
      omega
    exact n1 _
   split
   ·exact Zzm _
   exact Int.le_refl _
  obtain ⟨r,r1,r2⟩:=Zqa hs w0 (by omega)
  have g:=Qj hs r1
  obtain ⟨ρ,a1,a2⟩:=Z7g g.2.2.2.2.1 (s:=s) (p:=p) (k:=pkd t) (u:=pup t) (h:=r.1) (b:=r.2.1) (by omega)
  have a:=Zh6 g.2.2.2.2.1 a1
  rw [r1,Option.bind_some,a1,Option.bind_some]
  unfold inT
  by_cases c1:t.Kind=1
  ·rw [if_neg (by omega),if_pos (.inl c1)] at w1
   rw [if_pos c1]
   obtain ⟨τ,t1,_,t3⟩:=Zo5 hf r.1 t.Kids (r.2.1+(t.Words.length:Int)) (Y5 ρ.1 r.1 r.2.1 t.Words,ρ.2) (fun x hx=>kc x hx (.inl c1)) (St.lays r.1 _ a.1 _) (by show _≤2 * ρ.2;omega)
   have t3':2 * ρ.2 - Qs t.Kids≤2 * τ.2:=t3
   exact ⟨τ,t1,by omega⟩
  rw [if_neg c1]
  by_cases c8:t.Kind=8
  ·rw [if_neg (by omega),if_pos (.inr c8)] at w1
   rw [if_pos c8]
   obtain ⟨τ,t1,_,t3⟩:=Zo5 hf r.1 t.Kids r.2.1 ρ (fun x hx=>kc x hx (.inr c8)) a.1 (by omega)
   exact ⟨τ,t1,by omega⟩
  rw [if_neg c8]
  by_cases c9:t.Kind=9
  ·rw [if_pos c9] at w1
   rw [if_pos c9,if_neg (by decide)]
   obtain ⟨τ,t1,t3⟩:=Zvo hf r.1 ((fr t.Kids).1+(fr t.Kids).2) (fr t.Kids).1 t.Kids (r.2.1+1) (Xi ρ.1 r.1 r.2.1 (Zbl t),ρ.2) (fun u hu x hx=>by
    have k1':=(Vl (by omega) (ik u hu).2).2 c9
    have j4:=(Uu (hF.kid hu).rt (by omega) (by omega)).2.2.2 x hx
    exact Ztv size most n x (d - 1 - 1) (by have:=Xc hu;have:=Xc hx;omega) ((hF.kid hu).kid hx) (Vl (by omega) j4.2).1) (a.1.put _ _ _) (by show _≤2 * ρ.2;omega)
   have t3':2 * ρ.2 - (t.Kids.map qk9).sum≤2 * τ.2:=t3
   exact ⟨τ,t1,by omega⟩
  rw [if_neg c9]
  rw [if_neg c9,if_neg (by omega)] at w1
  exact ⟨_,rfl,show 2 * σ.2 - qc (pt t:Int)≤2 * ρ.2 by omega⟩
theorem Yaw {t:Tr} (hb:Bd t) (hr:rt t 64=true) (h10:¬ t.Kind=10) (hp:pt t≤400) (size:Int):∃ τ,Zf6 false t size 131072=some τ:=by
 have hF:Fine (nrm t) 64:=Fine.nrm ⟨hb,hr,by omega⟩
 have hpn:=Zy0 _ t (Nat.lt_succ_self _)
 have hm:Q6 131072=131072:=rfl
 unfold Zf6
 rw [if_neg (fun c=>by rcases c with c | c;exact h10 c;rw [hr] at c;cases c)]
 have hs:=Zqz size 131072
 obtain ⟨r,r1,r2⟩:=Zqa hs (k:=1) (by decide) (by rw [hm];decide)
 rw [r1,Option.bind_some]
 have g:=Qj hs r1
 have q:=Z9j (a:=(pt (nrm t):Int)) (b:=400) (by omega) (by omega)
 have e:r.2.2.2=131071:=by rw [r2];rfl
 obtain ⟨τ,t1,_⟩:=Ztv (szB size) (Q6 131072) _ (nrm t) 64 (Nat.lt_succ_self _) hF (by rw [Kv];exact h10) r.1 r.2.1 r.2.2 g.2.2.2.2.1 (by rw [show qc 400=162400 from rfl] at q;omega)
 exact ⟨τ,t1⟩
def E0:Yv:=⟨0,⟨0,[],[]⟩,⟨0,[],[]⟩,[],[],0,[]⟩
theorem Yff:Gf E0=some E0:=rfl
theorem Yfg:Gf ⟨2,⟨0,[],[]⟩,⟨0,[],[]⟩,[⟨0,1,7,8⟩],[],0,[]⟩=some ⟨2,⟨0,[],[]⟩,⟨0,[],[]⟩,[⟨0,1,7,8⟩],[],0,[]⟩:=by
 unfold Gf
 rw [Um (a:=2) (b:=1) (by decide),cond_false,Z7r (a:=2) (b:=2) rfl,cond_true]
 unfold Qg
 rw [Zcx (by simp) (by simp),Option.bind_some,Yt (r:=()) rfl,Option.bind_some]
 rfl
theorem Yio {A:Zp} (hw:WS A.segments) (x:Yd) (h:(Zvh A x).2.2=0):MR A (atR A 0 0).1 (Zvh A x).1∧Bd (Zvh A x).1∧rt (Zvh A x).1 64=true∧¬ (Zvh A x).1.Kind=10:=by
 have hd:0≤(Zbw x).Depth∧(Zbw x).Depth≤64:=Zom _ _ (by decide)
 have hW:0≤(Zbw x).Weight∧(Zbw x).Weight≤65536:=Zom _ _ (by decide)
 unfold Zvh at h ⊢
 by_cases h1:(atR A 0 0).2≠0
 ·rw [if_pos h1] at h;exact absurd h h1
 rw [if_neg h1] at h ⊢
 simp only at h ⊢
 by_cases hq:(Zfv A (Zbw x).Depth.toNat (atR A 0 0).1 (Zbw x).Weight).2.2≠0
 ·rw [if_pos hq] at h;exact absurd h hq
 rw [if_neg hq] at h ⊢
 have hq':(Zfv A (Zbw x).Depth.toNat (atR A 0 0).1 (Zbw x).Weight).2.2=0:=by omega
 obtain ⟨a1,a2,a3,a4⟩:=Ya3 hw (Zbw x).Depth.toNat (by omega) (atR A 0 0).1 (Zbw x).Weight (Zdd 0 0) (Z7n 0 0) hW.1 hW.2 hq'
 exact ⟨Ybe _ _ _ (Zdd 0 0) hq',Ybc hw _ _ _ (Zdd 0 0) hW.1 hW.2,Z4q _ _ (Nat.lt_succ_self _) _ 64 (by omega) a4.2.2,fun q=>Z7n 0 0 (a3.symm.trans q)⟩
theorem Z1w {a b:Zd} (most:Int) (h:Vc a b=some (true,0)):Q5 a b most=some (E0,0):=by
 unfold Q5 Jh
 simp only
 rw [show ((131074:Int) == 0)=false from rfl,cond_false,h,Option.bind_some,cond_true,cond_true,Option.bind_some]
 simp only
 rw [show ((0:Int) != 0)=false from rfl,cond_false]
 exact (congrArg (fun z=>Option.bind z _) Yff).trans rfl
theorem Zlo {l:List (List Int)} (hw:WS l):Xj l=some (atR ⟨l,0,0⟩ 0 0).1:=by
 unfold Xj
 rw [Yd2 hw,Option.bind_some,Yb2 (A:=⟨l,0,0⟩) hw,Option.bind_some]
theorem Ycy:∀ (n:Nat) (t:Tr),SizeOf.sizeOf t < n→nd t≤pt t
 | 0,_,h=>by omega
 | n+1,t,h=>by
  have:∀ l:List Tr,(∀ x∈l,nd x≤pt x)→(l.map nd).sum≤(l.map pt).sum:=fun l=>by
   induction l with
   | nil=>intro _;exact Nat.le_refl _
   | cons x l ih =>
    intro h
    rw [List.map_cons,List.map_cons,List.sum_cons,List.sum_cons]
    have:=h x (.head _)
    have:=ih fun y hy=>h y (.tail _ hy)
    omega
  have:=this t.Kids fun x hx=>Ycy n x (by have:=Xc hx;omega)
  rw [Z4f,Ziu]
  omega
theorem Z96 {t:Tr} (h:Bd t):∃ b,Va t=some b∧(b=true→pt t≤400):=by
 obtain ⟨r,h2,h3,h4,h5⟩:=Zup (SizeOf.sizeOf t+1) t 70 400 h (by omega) (by omega) (by omega) (by omega) (by omega)
 have:Gy t 70 400=some r:=Ztz (SizeOf.sizeOf t+1) fun k hk=>by rw [Zpw k (SizeOf.sizeOf t+1) t 70 400 (by omega) (by omega)];exact h2
 unfold Va
 rw [this,Option.bind_some]
 refine ⟨decide (0≤r),rfl,fun q => ?_⟩
 have h6:r+(pt t:Int)≤400:=h5 (of_decide_eq_true q)
 have h7:0≤r:=of_decide_eq_true q
 show pt t≤400
 omega
theorem Yai:Zaw 7 8=some 1:=by
 unfold Zaw
 rw [show Zb1 (IntKind.u64.wrap (Zv2 .u64 7 8))=some ⟨[15,0,0,0,0,0,0,0],rfl⟩ from by
  unfold Zb1
  rw [Option.bind_some,Option.bind_some,Za6 (k:=9) (r:=(⟨[15,0,0,0,0,0,0,0],rfl⟩:Arr Int 8)) rfl]
  rfl]
 rw [Option.bind_some,Za6 (k:=9) (r:=(1:Int)) rfl]
 rfl
theorem Ye4:Zbh 1=some 255:=by
 unfold Zbh
 rw [Za6 (k:=9) (r:=(255:Int)) rfl]
 rfl
theorem Ye6:Zc7 0 7 8=some (⟨0,1,7,8⟩,true):=by
 unfold Zc7
 rw [Yai,Option.bind_some,Ye4,Option.bind_some,Option.bind_some]
 rfl
def a28:Zd:=⟨some ⟨[[4294967296,7]],0,0⟩,1,0,1,1,0,0,0,0⟩
def b28:Zd:=⟨some ⟨[[4294967296,8]],0,0⟩,1,0,1,1,0,0,0,0⟩
theorem Yf0 (d:Xw):Ji d a28 b28=some (⟨2,⟨0,[],[]⟩,⟨0,[],[]⟩,[⟨0,1,7,8⟩],[],0,[]⟩,0,d):=by
 have ha:WS [[4294967296,7]]:=Zzi _ (by simp) (by simp)
 have hc:WS [[4294967296,8]]:=Zzi _ (by simp) (by simp)
 have l1:K1 a28=some 1:=Zo6 (A:=⟨[[4294967296,7]],0,0⟩) ha (by have:=Zdd (A:=⟨[[4294967296,7]],0,0⟩) 0 0;rw [Z3r] at this;exact this)
 have l2:K1 b28=some 1:=Zo6 (A:=⟨[[4294967296,8]],0,0⟩) hc (by have:=Zdd (A:=⟨[[4294967296,8]],0,0⟩) 0 0;rw [Z3s] at this;exact this)
 have w1:Xl a28 0=some 7:=rfl
 have w2:Xl b28 0=some 8:=rfl
 have s1:Qp a28 b28 1 1 (0,[])=some (.inl (1,[⟨0,1,7,8⟩])):=by
  unfold Qp
  simp only
  rw [show decide ((0:Int) < if (1:Int) < 1 then 1 else 1)=true from rfl,cond_true,w1,Option.bind_some,w2,Option.bind_some,Ye6,Option.bind_some,cond_true,Zcx (by simp) (by simp)]
  rfl
 have s2:Qp a28 b28 1 1 (1,[⟨0,1,7,8⟩])=some (.inr [⟨0,1,7,8⟩]):=rfl
 have s3:Vd 0 0 ()=some (.inr ()):=rfl
 unfold Ji
 rw [l1,Option.bind_some,l2,Option.bind_some,X9 s1,Yt s2,Option.bind_some,show Xk a28=some 0 from rfl,Option.bind_some,show Xk b28=some 0 from rfl,Option.bind_some,Yt s3,Option.bind_some]
theorem Z5n:Q9=some true:=by
 have ha:WS [[4294967296,7]]:=Zzi _ (by simp) (by simp)
 have hc:WS [[4294967296,8]]:=Zzi _ (by simp) (by simp)
 have he:=Zum (A:=⟨[[4294967296,7]],0,0⟩) (B:=⟨[[4294967296,8]],0,0⟩) ha hc Yfl Yfm (by rw [Ybf];decide)
 rw [Yec,Z3r,Z3s] at he
 have hv:Q5 a28 b28 9=some (⟨2,⟨0,[],[]⟩,⟨0,[],[]⟩,[⟨0,1,7,8⟩],[],0,[]⟩,0):=by
  unfold Q5 Jh
  simp only
  rw [show ((131074:Int) == 0)=false from rfl,cond_false,show Vc a28 b28=_ from he,Option.bind_some]
  simp only
  rw [show ((0:Int) != 0)=false from rfl,cond_false,cond_false,show Yf a28=some 1 from rfl,show Yf b28=some 1 from rfl]
  simp only [Option.bind_some]
  rw [show ((1:Int) == 1)=true from rfl]
  simp only [cond_true,Option.bind_some]
  rw [Yf0,Option.bind_some,Option.bind_some]
  simp only
  rw [show ((0:Int) != 0)=false from rfl,cond_false,Yfg,Option.bind_some]
 unfold Q9
 rw [Zlo ha,Option.bind_some,Zlo hc,Option.bind_some,show (atR ⟨[[4294967296,7]],0,0⟩ 0 0).1=a28 from Z3r,show (atR ⟨[[4294967296,8]],0,0⟩ 0 0).1=b28 from Z3s,hv,Option.bind_some]
 rfl
theorem Zyc {l:List (List Int)} (hl:WS l) (x:Yd) (size:Int):Km l x size=some true:=by
 obtain ⟨w,hx⟩:=Z8j x
 unfold Km
 rw [hx,Option.bind_some]
 generalize (⟨x.Depth,w,x.MaxD,x.MaxOut⟩:Yd)=y
 rw [show Ju l y=_ from Z6z (A:=⟨l,0,0⟩) hl y,Option.bind_some,Z5n]
 by_cases e1:(Zvh ⟨l,0,0⟩ y).2.2=0
 ·obtain ⟨hm,hb,hr,h10⟩:=Yio (A:=⟨l,0,0⟩) hl y e1
  obtain ⟨b,eb,hp⟩:=Z96 hb
  rw [e1,eb]
  generalize (Zvh ⟨l,0,0⟩ y).1=t at hm hb hr h10 eb hp ⊢
  cases b with
  | false=>rfl
  | true =>
   have hp':=hp rfl
   have hn:(nd t:Int)≤65537:=by have:=Ycy _ t (Nat.lt_succ_self _);omega
   have hq:pt t≤200000:=by omega
   have B:U2 t size 131072=_:=if_pos ⟨hb,hq⟩
   obtain ⟨τ,e⟩:=Yaw hb hr h10 hp' size
   rw [B,e,Zlo hl]
   have v1:=Z1w y.MaxD (by rw [Zum hl hl hm hm hn,Z70])
   obtain ⟨r,r1,r2,rm⟩:=Z7s hb hq e
   have hw:=Yd6 hb hq e
   have hroot:Xj τ.1=some r:=by rw [Zlo hw,r1]
   have v2:=Z1w y.MaxD (b:=r) (by
    rw [Zum hl hw hm r2 hn]
    unfold eqv
    rw [Z8u _ (nrm t) 64 (Nat.lt_succ_self _) rm.f.rt,Zpa,eqT_iff.2 rfl])
   simp only [Option.bind_some]
   rw [show ((0:Int) != 0)=false from rfl]
   simp only [cond_false,Option.bind_some]
   rw [v1,Option.bind_some,hroot,Option.bind_some,v2,Option.bind_some]
   rfl
 rw [bne_iff_ne.2 e1]
 rfl
theorem Zfx {a0:(List (List Int))} {a1:Yd} {a2:Int} {r:Bool} {O:Objs} {n:Nat} (h:Km a0 a1 a2=some r):GTo Tryz.prog 3 [.sl a0.length (fl (eL (eI .u64)) a0),.agg (Yx a1),.val (.int .i64 a2)] O n (.val (.bool r)) O n:=by
 unfold Km at h
 refine Ye Zc Tryz.call3 Tryz.func3 rfl (Nat.le_of_ble_eq_true rfl) (Nat.le_refl _) fun hU => ?_
 have hN0:O n=none:=hU.fresh _ (Nat.le_refl _)
 have hN:∀ k,O (n+k)=none:=fun k=>hU.fresh _ (Nat.le_add_right _ _)
 show W _ _ _ _ ⟨82,[],[(0,.sl a0.length (fl (eL (eI .u64)) a0)),(1,.agg (Yx a1)),(2,.val (.int .i64 a2))]⟩ (Z3 O n []) _
 refine Zk [0,2,4] (Zb Zc [] ?_)
 simp only [push_cast,seval,Za,hN0,hN]
 refine Zf ?_
 obtain ⟨y2,hy2,h⟩:=bC h
 refine Zb Zc [] ?_
 simp only [push_cast,seval,Za,hN0,hN]
 refine (Zm2 hy2).then ?_
 simp only [push_cast,seval,Za,hN0,hN]
 refine Zg [0,2,4] [true] ?_
 simp only [push_cast,seval]
 refine Zf ?_
 obtain ⟨y4,hy4,h⟩:=bC h
 refine Zb Zc [] ?_
 simp only [push_cast,seval,Za,hN0,hN]
 refine (Zjk hy4).then ?_
 simp only [push_cast,seval,Za,hN0,hN]
 refine Zg [0,2,4,7,9] [true,true] ?_
 simp only [push_cast,seval]
 refine Zf ?_
 obtain ⟨z6,hz6,h⟩:=bC h
 refine Yr (E':=⟨82,[],[(0,.sl a0.length (fl (eL (eI .u64)) a0)),(2,.val (.int .i64 a2)),(4,.ref n 0),(7,.ref (n+1) 0),(31,.val (.bool z6))]⟩) (O':=(Z3 O n [some ⟨false,24,4,1,(Yx y2)⟩,some ⟨false,29,3,1,(Zn y4.1)⟩])) (n0:=(n+2)) ?_ ?_
 ·rcases Bool.eq_false_or_eq_true (y4.2.2 != 0) with c9 | c9
  ·replace hz6:=Zw c9 hz6
   refine Zb Zc (Z8z []) ?_
   simp only [push_cast,seval,Za,c9,hN0,hN]
   have hz6:=Option.some.inj hz6;subst hz6
   refine And.intro rfl (Fit2.of (Zm hU rfl rfl ?_) (by omega))
   simp only [push_cast,seval,Za,c9,hN0,hN]
  replace hz6:=Zv c9 hz6
  obtain ⟨y8,hy8,hz6⟩:=bC hz6
  refine Zb Zc (Z58 []) ?_
  simp only [push_cast,seval,Za,c9,hN0,hN]
  refine (Zm3 hy8).then ?_
  simp only [push_cast,seval,Za,c9,hN0,hN]
  have hz6:=Option.some.inj hz6;subst hz6
  refine And.intro rfl (Fit2.of (Zm hU rfl rfl ?_) (by omega))
  simp only [push_cast,seval,Za,c9,hN0,hN]
 refine Zo (t:=z6) rfl (fun c38 => ?_) (fun c38 => ?_)
 ·replace h:=Zw c38 h
  refine Zf ?_
  obtain ⟨y11,hy11,h⟩:=bC h
  refine Zb Zc [] ?_
  simp only [push_cast,seval,Za,hN0,hN]
  refine (Zao hy11).then ?_
  simp only [push_cast,seval,Za,hN0,hN]
  refine Zg [6] [false,false] ?_
  simp only [push_cast,seval]
  refine Zu ?_
  try simp only [Zh,Ze]
  have h:=Option.some.inj h;subst h
  refine Zl (.inr rfl) hU [.val (.bool y11)] (by omega) ?_
  simp only [push_cast,seval,Za,Tryz.results3,hN0,hN]
 replace h:=Zv c38 h
 refine Zt ?_
 try simp only [Zh,Ze]
 refine Zg [0,2,4,7] [true,true] ?_
 simp only [push_cast,seval]
 refine Zf ?_
 obtain ⟨y13,hy13,h⟩:=bC h
 refine Zb Zc [] ?_
 simp only [push_cast,seval,Za,hN0,hN]
 refine (Zm6 hy13).then ?_
 simp only [push_cast,seval,Za,hN0,hN]
 refine Zg [0,4,10,11] [true,false] ?_
 simp only [push_cast,seval]
 refine Zf ?_
 obtain ⟨y17,hy17,h⟩:=bC h
 obtain ⟨y18,hy18,h⟩:=bC h
 obtain ⟨y19,hy19,h⟩:=bC h
 refine Zbo Zc (by kernel_rfl) [.plain,.low,.plain,.low,.low,.low,.low,.plain,.plain,.plain,.pass,.bar,.plain] (fun i=>i < (n+2)) [0,1,2,3,4,5,6,7,8,9,10,11,12] [.plain,.low,.plain,.low,.low,.low,.low,.plain,.plain,.plain,.pass,.bar,.plain] [] (by kernel_rfl) rfl ?_
 simp only [push_cast,seval,Za,hN0,hN]
 repeat (with_reducible refine And.intro (by first | omega | exact Xb rfl | exact Yw | exact X7 rfl | exact Qm rfl rfl | exact Y9 rfl | exact Y2 rfl) ?_)
 first | refine PCallA.of (fun _ _=>Xp hy17) ?_ | refine PCall.of (Xp hy17) ?_
 simp only [push_cast,seval,Za,hN0,hN]
 repeat (with_reducible refine And.intro (by first | omega | exact Xb rfl | exact Yw | exact X7 rfl | exact Qm rfl rfl | exact Y9 rfl | exact Y2 rfl) ?_)
 first | refine PCallA.of (fun _ _=>Xp hy18) ?_ | refine PCall.of (Xp hy18) ?_
 simp only [push_cast,seval,Za,hN0,hN]
 repeat (with_reducible refine And.intro (by first | omega | exact Xb rfl | exact Yw | exact X7 rfl | exact Qm rfl rfl | exact Y9 rfl | exact Y2 rfl) ?_)
 first | refine PCallA.of (fun _ _=>Us hy19) ?_ | refine PCall.of (Us hy19) ?_
 simp only [push_cast,seval,Za,hN0,hN]
 repeat (with_reducible refine And.intro (by first | omega | exact Xb rfl | exact Yw | exact X7 rfl | exact Qm rfl rfl | exact Y9 rfl | exact Y2 rfl) ?_)
 refine Zg [0,4,10,11,12,13] [true,false,true] ?_
 simp only [push_cast,seval]
 refine Zf ?_
 obtain ⟨y23,hy23,h⟩:=bC h
 obtain ⟨y24,hy24,h⟩:=bC h
 obtain ⟨y25,hy25,h⟩:=bC h
 refine Zbo Zc (by kernel_rfl) [.plain,.low,.plain,.low,.low,.low,.low,.plain,.plain,.plain,.pass,.bar,.plain] (fun i=>i < (n+3)) [0,1,2,3,4,5,6,7,8,9,10,11,12] [.plain,.low,.plain,.low,.low,.low,.low,.plain,.plain,.plain,.pass,.bar,.plain] [] (by kernel_rfl) rfl ?_
 simp only [push_cast,seval,Za,hN0,hN]
 repeat (with_reducible refine And.intro (by first | omega | exact Xb rfl | exact Yw | exact X7 rfl | exact Qm rfl rfl | exact Y9 rfl | exact Y2 rfl) ?_)
 first | refine PCallA.of (fun _ _=>Xp hy23) ?_ | refine PCall.of (Xp hy23) ?_
 simp only [push_cast,seval,Za,hN0,hN]
 repeat (with_reducible refine And.intro (by first | omega | exact Xb rfl | exact Yw | exact X7 rfl | exact Qm rfl rfl | exact Y9 rfl | exact Y2 rfl) ?_)
 first | refine PCallA.of (fun _ _=>Xp hy24) ?_ | refine PCall.of (Xp hy24) ?_
 simp only [push_cast,seval,Za,hN0,hN]
 repeat (with_reducible refine And.intro (by first | omega | exact Xb rfl | exact Yw | exact X7 rfl | exact Qm rfl rfl | exact Y9 rfl | exact Y2 rfl) ?_)
 first | refine PCallA.of (fun _ _=>Us hy25) ?_ | refine PCall.of (Us hy25) ?_
 simp only [push_cast,seval,Za,hN0,hN]
 repeat (with_reducible refine And.intro (by first | omega | exact Xb rfl | exact Yw | exact X7 rfl | exact Qm rfl rfl | exact Y9 rfl | exact Y2 rfl) ?_)
 refine Zg [11,12,13,14,15] [false,false,true,true] ?_
 simp only [push_cast,seval]
 obtain ⟨z28,hz28,h⟩:=bC h
 refine Yr (E':=⟨82,[],[(6,.val (.bool z28))]⟩) (O':=(Z3 O n [none,none,none,none])) (n0:=(n+4)) ?_ ?_
 ·rcases Bool.eq_false_or_eq_true (y19.1.Kind == 0) with c33 | c33
  ·replace hz28:=Zw c33 hz28
   rcases Bool.eq_false_or_eq_true (y19.2 == 0) with c34 | c34
   ·replace hz28:=Zw c34 hz28
    try rw [c34] at c33
    rcases Bool.eq_false_or_eq_true y13.2 with c35 | c35
    ·replace hz28:=Zw c35 hz28
     try rw [c35] at c33
     try rw [c35] at c34
     rcases Bool.eq_false_or_eq_true (y25.1.Kind == 0) with c36 | c36
     ·replace hz28:=Zw c36 hz28
      try rw [c36] at c33
      try rw [c36] at c34
      try rw [c36] at c35
      rcases Bool.eq_false_or_eq_true (y25.2 == 0) with c37 | c37
      ·replace hz28:=Zw c37 hz28
       try rw [c37] at c33
       try rw [c37] at c34
       try rw [c37] at c35
       try rw [c37] at c36
       obtain ⟨y31,hy31,hz28⟩:=bC hz28
       refine Zb Zc (Zv4 [Qc]) ?_
       simp only [push_cast,seval,Za,c33,c34,c35,c36,c37,hN0,hN]
       repeat (with_reducible refine And.intro (by first | (intro h0;simp only [h0];done) | (intro h0;simp only [h0,Bool.not_false,Bool.not_true,true_and,and_true,imp_self,implies_true,ne_eq,beq_iff_eq];done) | (intros;simp_all;done) | exact True.intro) ?_)
       refine (Zao hy31).then ?_
       simp only [push_cast,seval,Za,c33,c34,c35,c36,c37,hN0,hN]
       repeat (with_reducible refine And.intro (by first | (intro h0;simp only [h0];done) | (intro h0;simp only [h0,Bool.not_false,Bool.not_true,true_and,and_true,imp_self,implies_true,ne_eq,beq_iff_eq];done) | (intros;simp_all;done) | exact True.intro) ?_)
       have hz28:=Option.some.inj hz28;subst hz28
       refine And.intro rfl (Fit2.of (Zm hU rfl rfl ?_) (by omega))
       simp only [push_cast,seval,Za,c33,c34,c35,c36,c37,hN0,hN]
      replace hz28:=Zv c37 hz28
      try rw [c37] at c33
      try rw [c37] at c34
      try rw [c37] at c35
      try rw [c37] at c36
      refine Zb Zc (Zv4 [X3]) ?_
      simp only [push_cast,seval,Za,c33,c34,c35,c36,c37,hN0,hN]
      repeat (with_reducible refine And.intro (by first | (intro h0;simp only [h0];done) | (intro h0;simp only [h0,Bool.not_false,Bool.not_true,true_and,and_true,imp_self,implies_true,ne_eq,beq_iff_eq];done) | (intros;simp_all;done) | exact True.intro) ?_)
      have hz28:=Option.some.inj hz28;subst hz28
      refine And.intro rfl (Fit2.of (Zm hU rfl rfl ?_) (by omega))
      simp only [push_cast,seval,Za,c33,c34,c35,c36,c37,hN0,hN]
     replace hz28:=Zv c36 hz28
     try rw [c36] at c33
     try rw [c36] at c34
     try rw [c36] at c35
     refine Zb Zc (Zv4 [X3]) ?_
     simp only [push_cast,seval,Za,c33,c34,c35,c36,hN0,hN]
     repeat (with_reducible refine And.intro (by first | (intro h0;simp only [h0];done) | (intro h0;simp only [h0,Bool.not_false,Bool.not_true,true_and,and_true,imp_self,implies_true,ne_eq,beq_iff_eq];done) | (intros;simp_all;done) | exact True.intro) ?_)
     have hz28:=Option.some.inj hz28;subst hz28
     refine And.intro rfl (Fit2.of (Zm hU rfl rfl ?_) (by omega))
     simp only [push_cast,seval,Za,c33,c34,c35,c36,hN0,hN]
    replace hz28:=Zv c35 hz28
    try rw [c35] at c33
    try rw [c35] at c34
    obtain ⟨y32,hy32,hz28⟩:=bC hz28
    refine Zb Zc (Zv4 [Qc]) ?_
    simp only [push_cast,seval,Za,c33,c34,c35,hN0,hN]
    repeat (with_reducible refine And.intro (by first | (intro h0;simp only [h0];done) | (intro h0;simp only [h0,Bool.not_false,Bool.not_true,true_and,and_true,imp_self,implies_true,ne_eq,beq_iff_eq];done) | (intros;simp_all;done) | exact True.intro) ?_)
    refine (Zao hy32).then ?_
    simp only [push_cast,seval,Za,c33,c34,c35,hN0,hN]
    repeat (with_reducible refine And.intro (by first | (intro h0;simp only [h0];done) | (intro h0;simp only [h0,Bool.not_false,Bool.not_true,true_and,and_true,imp_self,implies_true,ne_eq,beq_iff_eq];done) | (intros;simp_all;done) | exact True.intro) ?_)
    have hz28:=Option.some.inj hz28;subst hz28
    refine And.intro rfl (Fit2.of (Zm hU rfl rfl ?_) (by omega))
    simp only [push_cast,seval,Za,c33,c34,c35,hN0,hN]
   replace hz28:=Zv c34 hz28
   try rw [c34] at c33
   refine Zb Zc (Zv4 [X3]) ?_
   simp only [push_cast,seval,Za,c33,c34,hN0,hN]
   repeat (with_reducible refine And.intro (by first | (intro h0;simp only [h0];done) | (intro h0;simp only [h0,Bool.not_false,Bool.not_true,true_and,and_true,imp_self,implies_true,ne_eq,beq_iff_eq];done) | (intros;simp_all;done) | exact True.intro) ?_)
   have hz28:=Option.some.inj hz28;subst hz28
   refine And.intro rfl (Fit2.of (Zm hU rfl rfl ?_) (by omega))
   simp only [push_cast,seval,Za,c33,c34,hN0,hN]
  replace hz28:=Zv c33 hz28
  refine Zb Zc (Zv4 [X3]) ?_
  simp only [push_cast,seval,Za,c33,hN0,hN]
  repeat (with_reducible refine And.intro (by first | (intro h0;simp only [h0];done) | (intro h0;simp only [h0,Bool.not_false,Bool.not_true,true_and,and_true,imp_self,implies_true,ne_eq,beq_iff_eq];done) | (intros;simp_all;done) | exact True.intro) ?_)
  have hz28:=Option.some.inj hz28;subst hz28
  refine And.intro rfl (Fit2.of (Zm hU rfl rfl ?_) (by omega))
  simp only [push_cast,seval,Za,c33,hN0,hN]
 refine Zu ?_
 try simp only [Zh,Ze]
 have h:=Option.some.inj h;subst h
 refine Zl (.inr rfl) hU [.val (.bool z28)] (by omega) ?_
 simp only [push_cast,seval,Za,Tryz.results3,hN0,hN]
end Go.Proofs.YtmjjjfamipncdaaGreat
