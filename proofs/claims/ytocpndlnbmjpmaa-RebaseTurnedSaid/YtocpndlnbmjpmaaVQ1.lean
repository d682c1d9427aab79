/- Plain facts on this seat's mirrors (part VQ1); each theorem bears its own conditions. -/
import Derived.Test.YtocpndlnbmjpmaaVP1
namespace Go.Proofs.Ytocpndlnbmjpmaa
open Go.RowKit
set_option linter.unusedVariables false
set_option linter.unusedSimpArgs false
abbrev WE:=Zs
abbrev FF:=Bool×Bool
def orF (f g:FF):FF:=(f.1 || g.1,f.2 || g.2)
def bU (m:Zg) (f:FF):Zg:=⟨m.apart || f.1,m.clash || f.2⟩
def f00:FF:=(false,false)
theorem Zrv (f g:FF):orF f g=orF g f:=by unfold orF;rw [Bool.or_comm f.1,Bool.or_comm f.2]
theorem Zxy (f g h:FF):orF (orF f g) h=orF f (orF g h):=by unfold orF;simp only [Bool.or_assoc]
theorem xA (m:Zg) (f g:FF):bU (bU m f) g=bU m (orF f g):=by unfold bU orF;simp only [Bool.or_assoc]
theorem Zao (m:Zg):bU m f00=m:=by cases m;simp [bU,f00]
theorem Zu8 (a b:Bool):cond a true b=(a || b):=by cases a <;> rfl
theorem Zi8 {α:Type} (x:α) (l:List α):Qp (x::l) 0=some x:=rfl
def wdI (m:Int):Int:=(rX m.toNat 8:Nat)
theorem Z1t (x:Int):0≤IntKind.u8.wrap x∧IntKind.u8.wrap x < 256:=by
 unfold IntKind.wrap
 simp only [IntKind.signed,IntKind.bits]
 simp
 omega
theorem Zwg (x:Int):0≤IntKind.u64.wrap x∧IntKind.u64.wrap x < 18446744073709551616:=by
 unfold IntKind.wrap
 simp only [IntKind.signed,IntKind.bits]
 simp
 omega
theorem Z1x (x:Int):gY (IntKind.u8.wrap x)=some (wdI (IntKind.u8.wrap x)):=by
 obtain ⟨h1,h2⟩:=Z1t x
 obtain ⟨a,ha⟩:∃ a:Nat,IntKind.u8.wrap x=(a:Int):=⟨_,(Int.toNat_of_nonneg h1).symm⟩
 rw [ha]
 exact Zqd a (by omega)
def mkB (w o:WE):Int:=IntKind.u8.wrap (nX .u8 w.Mask o.Mask)
def mkL (w o:WE):Int:=IntKind.u8.wrap (Zak .u8 w.Mask o.Mask)
def rF (w o:WE):FF:=((IntKind.u64.wrap (nX .u64 (IntKind.u64.wrap (xD .u64 w.Old o.Old)) (wdI (mkB w o)))) != 0,(IntKind.u64.wrap (nX .u64 (IntKind.u64.wrap (xD .u64 w.New o.New)) (wdI (mkB w o)))) != 0)
def rW (w o:WE):WE:=⟨w.At,mkL w o,IntKind.u64.wrap (nX .u64 w.Old (wdI (mkL w o))),IntKind.u64.wrap (nX .u64 w.New (wdI (mkL w o)))⟩
theorem Z66 (s:Zi) (m:Zg) (w o:WE):mJ s w o m=some (rW w o,s,bU m (rF w o)):=by
 unfold mJ
 rw [Z1x,Option.bind_some,Z1x,Option.bind_some,Option.bind_some,Zu8,Zu8]
 rfl
theorem Zxo (k:IntKind) (x y:Int):nX k x y=nX k y x:=by unfold nX;rw [BitVec.and_comm]
theorem Zob (k:IntKind) (x y:Int):xD k x y=xD k y x:=by unfold xD;rw [BitVec.xor_comm]
theorem Zv2 (w o:WE):rF w o=rF o w:=by
 unfold rF mkB
 rw [Zxo .u8 w.Mask,Zob .u64 w.Old,Zob .u64 w.New]
def SE (k l:Int) (ws:List WE) (ks:List Zq) (ops:List EO) (c:List Tr):Zi:=⟨none,⟨k,yV,yV,ws,ks,l,ops⟩,c⟩
def dW (a:Int):List WE→List WE
 | []=>[]
 | v::V=>if v.At < a then dW a V else v::V
def sW (w:WE) (V:List WE):WE×FF:=match V with
 | []=>(w,f00)
 | v::_=>if v.At=w.At then (rW w v,rF w v) else (w,f00)
def lW:List WE→List WE→List WE×FF
 | [],_=>([],f00)
 | w::W,V=>(if (sW w (dW w.At V)).1.Mask=0 then (lW W (dW w.At V)).1 else (sW w (dW w.At V)).1::(lW W (dW w.At V)).1,orF (sW w (dW w.At V)).2 (lW W (dW w.At V)).2)
theorem Zzf (a:Int):∀ V:List WE,(dW a V).length≤V.length
 | []=>Nat.le_refl _
 | v::V=>by
  have:=Zzf a V
  unfold dW
  split
  ·simp only [List.length_cons];omega
  exact Nat.le_refl _
theorem Zva (x:WE):∀ V:List WE,V.length≤1048576→Yx (K6 x) V=some (dW x.At V)
 | [],_=>Y7 (by unfold K6;rfl)
 | v::V,hl=>by
  simp only [List.length_cons] at hl
  unfold dW
  by_cases h:v.At < x.At
  ·have e1:K6 x (v::V)=some (.inl V):=by
    unfold K6
    rw [decide_eq_true (by simp only [List.length_cons];omega),cond_true,Zi8,Option.bind_some,cond_true,decide_eq_true h,Option.bind_some,cond_true,iM (by omega) (by simp;omega) (by simp)]
    simp
   rw [Xg e1,Zva x V (by omega),if_pos h]
  rw [if_neg h]
  refine Y7 ?_
  unfold K6
  rw [decide_eq_true (by simp only [List.length_cons];omega),cond_true,Zi8,Option.bind_some,cond_true,decide_eq_false h,Option.bind_some,cond_false]
theorem Ycf {W:List WE} (hl:W.length≤1048576) (k l:Int) (ks:List Zq) (ops:List EO) (c:List Tr):∀ (ys:List WE) (i:Nat) (others ws:List WE) (m:Zg),i≤W.length→W.drop i=ys→others.length≤1048576→ws.length+ys.length≤2000000 →
  Yx (K5 W) (others,(i:Int),SE k l ws ks ops c,m.apart,m.clash)=some (ws++(lW ys others).1,ks,ops,c,SE k l (ws++(lW ys others).1) ks ops c,(bU m (lW ys others).2).apart,(bU m (lW ys others).2).clash)
 | [],i,others,ws,m,hi,hd,_,_=>by
  have:W.length≤i:=List.drop_eq_nil_iff.1 hd
  rw [show lW [] others=([],f00) from rfl]
  simp only
  rw [Zao,List.append_nil]
  refine Y7 ?_
  unfold K5
  simp only
  rw [decide_eq_false (by omega),cond_false]
  rfl
 | x::ys,i,others,ws,m,hi,hd,ho,hw=>by
  simp only [List.length_cons] at hw
  have hlt:i < W.length:=by
   rcases Nat.lt_or_ge i W.length with h | h
   ·exact h
   rw [List.drop_eq_nil_of_le h] at hd;cases hd
  have hx:W[i]? = some x:=by
   have:=congrArg (fun l=>l[0]?) hd
   simp only [List.getElem?_drop,Nat.add_zero,List.getElem?_cons_zero] at this
   exact this
  have h1:=Zva x others ho
  have hdl:=Zzf x.At others
  have hd':W.drop (i+1)=ys:=by rw [← List.drop_drop,hd];rfl
  rw [show lW (x::ys) others=(if (sW x (dW x.At others)).1.Mask=0 then (lW ys (dW x.At others)).1 else (sW x (dW x.At others)).1::(lW ys (dW x.At others)).1,orF (sW x (dW x.At others)).2 (lW ys (dW x.At others)).2) from rfl]
  simp only
  generalize hV:dW x.At others=V at h1 hdl
  have hs:K5 W (others,(i:Int),SE k l ws ks ops c,m.apart,m.clash)=some (.inl (V,((i+1:Nat):Int),SE k l (if (sW x V).1.Mask=0 then ws else ws++[(sW x V).1]) ks ops c,(bU m (sW x V).2).apart,(bU m (sW x V).2).clash)):=by
   have hap:∀ w:WE,jK 32 ws [w]=some (ws++[w]):=fun w=>G3 (by simp only [List.length_singleton];omega) (by simp only [List.length_singleton];omega)
   unfold K5
   simp only
   rw [decide_eq_true (by omega),cond_true,X5 hx,Option.bind_some,h1,Option.bind_some,gJ (by omega) (by omega)]
   have hm0:∀ y:WE,y.Mask=0∨y.Mask≠0:=fun y=>Decidable.em _
   cases V with
   | nil =>
    rw [show sW x []=(x,f00) from rfl,Zao,show decide ((0:Int) < (([]:List WE).length:Int))=false from rfl,cond_false,Option.bind_some,cond_false,Option.bind_some]
    simp only
    rcases hm0 x with h | h
    ·rw [show (x.Mask != 0)=false by simp [h],cond_false,Option.bind_some,if_pos h]
     rfl
    rw [show (x.Mask != 0)=true by simp [h],cond_true,show (SE k l ws ks ops c).left.Words=ws from rfl,hap,Option.bind_some,Option.bind_some,if_neg h]
    rfl
   | cons v V =>
    rw [decide_eq_true (by simp only [List.length_cons];omega),cond_true,Zi8,Option.bind_some,cond_true,Option.bind_some]
    by_cases he:v.At=x.At
    ·rw [show (v.At == x.At)=true from beq_iff_eq.2 he,cond_true,Option.bind_some,Z66,Option.bind_some,Option.bind_some,show sW x (v::V)=(rW x v,rF x v) from if_pos he]
     simp only
     rw [show (⟨m.apart,m.clash⟩:Zg)=m from rfl]
     rcases hm0 (rW x v) with h | h
     ·rw [show ((rW x v).Mask != 0)=false by simp [h],cond_false,Option.bind_some,if_pos h]
      rfl
     rw [show ((rW x v).Mask != 0)=true by simp [h],cond_true,show (SE k l ws ks ops c).left.Words=ws from rfl,hap,Option.bind_some,Option.bind_some,if_neg h]
     rfl
    rw [show (v.At == x.At)=false from beq_eq_false_iff_ne.2 he,cond_false,Option.bind_some,show sW x (v::V)=(x,f00) from if_neg he,Zao]
    simp only
    rcases hm0 x with h | h
    ·rw [show (x.Mask != 0)=false by simp [h],cond_false,Option.bind_some,if_pos h]
     rfl
    rw [show (x.Mask != 0)=true by simp [h],cond_true,show (SE k l ws ks ops c).left.Words=ws from rfl,hap,Option.bind_some,Option.bind_some,if_neg h]
    rfl
  rw [Xg hs,Ycf hl k l ks ops c ys (i+1) V _ (bU m (sW x V).2) (by omega) hd' (by omega) (by
   split
   ·omega
   simp only [List.length_append,List.length_singleton];omega),xA]
  by_cases h:(sW x V).1.Mask=0
  ·rw [if_pos h,if_pos h]
  rw [if_neg h,if_neg h,List.append_assoc]
  rfl
theorem Zwk {W V:List WE} (hl:W.length≤1048576) (hv:V.length≤1048576) (k l:Int) (ks:List Zq) (ops:List EO) (c:List Tr) (m:Zg):Gs (SE k l [] ks ops c) W V m=some (SE k l (lW W V).1 ks ops c,bU m (lW W V).2):=by
 unfold Gs
 have h:=Ycf hl k l ks ops c W 0 V [] m (Nat.zero_le _) rfl hv (by simp only [List.length_nil];omega)
 rw [List.nil_append] at h
 rw [show Yx (K5 W) (V,0,SE k l [] ks ops c,m.apart,m.clash)=_ from h,Option.bind_some]
 rfl
abbrev PW (W:List WE):Prop:=W.Pairwise fun a b=>a.At < b.At
theorem Zy7:∀ (W:List WE) (p:Int),chk (·.At) okW p W=true→PW W∧∀ w∈W,p < w.At
 | [],_,_=>⟨List.Pairwise.nil,fun w hw=>by cases hw⟩
 | x::W,p,hc=>by
  rw [chk,Bool.and_eq_true] at hc
  have hat:p < x.At:=by
   have:=hc.1
   unfold okW at this
   simp only [Bool.not_eq_true',Bool.or_eq_false_iff,decide_eq_false_iff_not] at this
   omega
  obtain ⟨h1,h2⟩:=Zy7 W x.At hc.2
  refine ⟨List.Pairwise.cons h2 h1,fun w hw => ?_⟩
  rcases List.mem_cons.1 hw with rfl | hw
  ·exact hat
  have:=h2 w hw;omega
theorem Ztv {a:Int} {v:WE}:∀ {V:List WE},v∈dW a V→v∈V
 | u::V,h=>by
  unfold dW at h
  split at h
  ·exact .tail _ (Ztv h)
  exact h
theorem Zei {a:Int} {v:WE} (ha:a≤v.At):∀ {V:List WE},v∈V→v∈dW a V
 | u::V,h=>by
  unfold dW
  split
  ·rcases List.mem_cons.1 h with rfl | h
   ·omega
   exact Zei ha h
  exact h
theorem Zzg {a:Int}:∀ {V:List WE},PW V→PW (dW a V)
 | [],h=>h
 | u::V,h=>by
  unfold dW
  split
  ·exact Zzg (List.Pairwise.of_cons h)
  exact h
theorem Zu9 {a:Int} {u:WE} {R:List WE}:∀ {V:List WE},dW a V=u::R→a≤u.At
 | x::V,h=>by
  unfold dW at h
  split at h
  ·exact Zu9 h
  injection h with h1 _
  subst h1
  omega
structure Pi2 (p:FF→Bool):Prop where
 z:p f00=false
 o:∀ f g,p (orF f g)=(p f || p g)
theorem Z62:Pi2 Prod.fst:=⟨rfl,fun _ _=>rfl⟩
theorem Z63:Pi2 Prod.snd:=⟨rfl,fun _ _=>rfl⟩
theorem Z67 {p:FF→Bool} (hp:Pi2 p) {w:WE} {V:List WE} (hV:PW V):p (sW w (dW w.At V)).2=true↔∃ v∈V,v.At=w.At∧p (rF w v)=true:=by
 cases hd:dW w.At V with
 | nil =>
  rw [show (sW w []).2=f00 from rfl,hp.z]
  refine ⟨fun h=>(by cases h),fun ⟨v,hv,ha,_⟩ => ?_⟩
  have:=Zei (a:=w.At) (by omega) hv
  rw [hd] at this
  cases this
 | cons u R =>
  have hu:u∈V:=Ztv (by rw [hd];exact .head _)
  have hpw:=Zzg (a:=w.At) hV
  rw [hd] at hpw
  by_cases he:u.At=w.At
  ·rw [show sW w (u::R)=(rW w u,rF w u) from if_pos he]
   refine ⟨fun h=>⟨u,hu,he,h⟩,fun ⟨v,hv,ha,h⟩ => ?_⟩
   have hm:=Zei (a:=w.At) (by omega) hv
   rw [hd] at hm
   rcases List.mem_cons.1 hm with rfl | hm
   ·exact h
   have:=(List.pairwise_cons.1 hpw).1 v hm
   omega
  rw [show sW w (u::R)=(w,f00) from if_neg he,show p (w,f00).2=false from hp.z]
  refine ⟨fun h=>(by cases h),fun ⟨v,hv,ha,_⟩ => ?_⟩
  have hm:=Zei (a:=w.At) (by omega) hv
  rw [hd] at hm
  have hh:=Zu9 hd
  rcases List.mem_cons.1 hm with rfl | hm
  ·omega
  have:=(List.pairwise_cons.1 hpw).1 v hm
  omega
theorem Zt9 {p:FF→Bool} (hp:Pi2 p):∀ (W V:List WE),PW W→PW V→(p (lW W V).2=true↔∃ w∈W,∃ v∈V,v.At=w.At∧p (rF w v)=true)
 | [],V,_,_=>by
  rw [show (lW [] V).2=f00 from rfl,hp.z]
  exact ⟨fun h=>(by cases h),fun ⟨w,hw,_⟩=>(by cases hw)⟩
 | w::W,V,hW,hV=>by
  obtain ⟨hw1,hw2⟩:=List.pairwise_cons.1 hW
  rw [show (lW (w::W) V).2=orF (sW w (dW w.At V)).2 (lW W (dW w.At V)).2 from rfl,hp.o,Bool.or_eq_true,Z67 hp hV,Zt9 hp W _ hw2 (Zzg hV)]
  constructor
  ·rintro (⟨v,hv,h⟩ | ⟨x,hx,v,hv,h⟩)
   ·exact ⟨w,.head _,v,hv,h⟩
   exact ⟨x,.tail _ hx,v,Ztv hv,h⟩
  rintro ⟨x,hx,v,hv,ha,h⟩
  rcases List.mem_cons.1 hx with rfl | hx
  ·exact .inl ⟨v,hv,ha,h⟩
  have:=hw1 x hx
  exact .inr ⟨x,hx,v,Zei (by omega) hv,ha,h⟩
theorem Z2y {W V:List WE} (hW:PW W) (hV:PW V):(lW W V).2=(lW V W).2:=by
 have key:∀ p:FF→Bool,Pi2 p→p (lW W V).2=p (lW V W).2:=fun p hp=>by
  rw [Bool.eq_iff_iff,Zt9 hp W V hW hV,Zt9 hp V W hV hW]
  constructor
  ·rintro ⟨w,hw,v,hv,ha,h⟩
   exact ⟨v,hv,w,hw,ha.symm,by rw [Zv2];exact h⟩
  rintro ⟨w,hw,v,hv,ha,h⟩
  exact ⟨v,hv,w,hw,ha.symm,by rw [Zv2];exact h⟩
 exact Prod.ext (key _ Z62) (key _ Z63)
def wOk (w:WE):Prop:=(0≤w.Mask∧w.Mask < 256)∧(0≤w.Old∧w.Old < 18446744073709551616)∧(0≤w.New∧w.New < 18446744073709551616)
theorem Zz0:∀ (W V:List WE),(∀ w∈W,wOk w)→(∀ x∈(lW W V).1,wOk x)∧(lW W V).1.length≤W.length
 | [],V,_=>⟨fun x hx=>(by cases hx),Nat.le_refl _⟩
 | w::W,V,h=>by
  obtain ⟨h1,h2⟩:=Zz0 W (dW w.At V) fun x hx=>h x (.tail _ hx)
  have hs:wOk (sW w (dW w.At V)).1:=by
   unfold sW
   split
   ·exact h w (.head _)
   split
   ·exact ⟨Z1t _,Zwg _,Zwg _⟩
   exact h w (.head _)
  rw [show (lW (w::W) V).1=if (sW w (dW w.At V)).1.Mask=0 then (lW W (dW w.At V)).1 else (sW w (dW w.At V)).1::(lW W (dW w.At V)).1 from rfl]
  split
  ·exact ⟨h1,by simp only [List.length_cons];omega⟩
  refine ⟨fun x hx => ?_,by simp only [List.length_cons];omega⟩
  rcases List.mem_cons.1 hx with rfl | hx
  ·exact hs
  exact h1 x hx
theorem Zzi (a b:List Tr):eqL a b=eqL b a:=by rw [Bool.eq_iff_iff,Zjp,Zjp];exact eq_comm
def eqN (a b:List Tr):Bool:=eqL (a.map nrm) (b.map nrm)
theorem Zzj (a b:List Tr):eqN a b=eqN b a:=Zzi _ _
theorem Z4k {a b:List Tr} (ha:∀ x∈a,Bd x) (hb:∀ x∈b,Bd x) (hn:(a.length:Int)≤140737488355328):Y8 a b=some (eqN a b) :=
 cA (2 * SizeOf.sizeOf a+3) fun k hk=>(Zej k).2 a b (fun x hx=>⟨ha x hx,by have:=List.sizeOf_lt_of_mem hx;omega⟩) hb hn (by omega)
section
variable {k l:Int} {ws:List WE} {ks:List Zq} {ops:List EO} {c:List Tr} {m:Zg}
theorem Z0p (hl:ops.length≤100000000) (o:EO):lZ (SE k l ws ks ops c) o m=some (SE k l ws ks (ops++[o]) c,m):=by
 unfold lZ
 rw [show (SE k l ws ks ops c).left.Ops=ops from rfl,G3 (by simp only [List.length_singleton];omega) (by simp only [List.length_singleton];omega),Option.bind_some,iE,Option.bind_some]
 rfl
theorem Z41 (hl:ops.length≤100000000) (o:EO):rK (SE k l ws ks ops c) o m=some (SE k l ws ks (ops++[o]) c,m):=Z0p hl o
theorem Yaw (hl:ops.length≤100000000) (o:EO):lG (SE k l ws ks ops c) o m=some (SE k l ws ks (ops++[o]) c,m):=Z0p hl o
def dsL (e:Ed):List EO:=if e.Kind=0 then [⟨0,1,[],sJ⟩] else [⟨3,0,[],e⟩]
theorem Zoz (hl:ops.length≤100000000) (e:Ed):Un (SE k l ws ks ops c) e m=some (SE k l ws ks (ops++dsL e) c,m):=by
 unfold Un dsL
 by_cases h:e.Kind=0
 ·rw [show (e.Kind == 0)=true from beq_iff_eq.2 h,cond_true,if_pos h]
  exact (congrArg (fun z=>Option.bind z _) (Z0p hl _)).trans rfl
 rw [show (e.Kind == 0)=false from beq_eq_false_iff_ne.2 h,cond_false,if_neg h]
 exact (congrArg (fun z=>Option.bind z _) (Z0p hl _)).trans rfl
def gpL (own others:List Tr):List EO:=if others=[] then (if own=[] then [] else [⟨2,0,own,sJ⟩]) else [⟨0,(others.length:Int),[],sJ⟩]
theorem Zcu (a b:List Tr):(gpL a b).length≤1:=by unfold gpL;split <;> (try split) <;> simp
theorem Zjw (c:List Tr):decide (0 < (c.length:Int)) = !decide (c=[]):=by
 cases c with
 | nil=>rfl
 | cons x c=>rw [decide_eq_true (by simp only [List.length_cons];omega)];simp
theorem Z1c (hl:ops.length≤100000000) (d:List Tr):bX (SE k l ws ks ops c) d m=some (SE k l ws ks (ops++gpL c d) c,m):=by
 unfold bX gpL
 rw [show (SE k l ws ks ops c).come=c from rfl,Zjw,Zjw]
 by_cases h:d=[]
 ·rw [decide_eq_true h,Bool.not_true,cond_false,if_pos h]
  by_cases g:c=[]
  ·rw [decide_eq_true g,Bool.not_true,cond_false,if_pos g,List.append_nil]
  rw [decide_eq_false g,Bool.not_false,cond_true,if_neg g]
  exact (congrArg (fun z=>Option.bind z _) (Z41 hl _)).trans rfl
 rw [decide_eq_false h,Bool.not_false,cond_true,if_neg h]
 exact (congrArg (fun z=>Option.bind z _) (Z41 hl _)).trans rfl
end
def gpF (a b:List Tr):FF:=(false,!decide (a=[]) && (!decide (b=[]) && !eqN a b))
theorem Zks (a b:List Tr):gpF a b=gpF b a:=by
 unfold gpF
 rw [Zzj a b]
 cases decide (a=[]) <;> cases decide (b=[]) <;> rfl
theorem Z4m {k l k' l':Int} {ws ws':List WE} {ks ks':List Zq} {ops ops':List EO} {c c':List Tr} (m:Zg) (h1:ops.length≤100000000) (h2:ops'.length≤100000000) (hc:∀ t∈c,Bd t) (hc':∀ t∈c',Bd t) (hn:c.length≤4000000000) :
  K4 (SE k l ws ks ops c) (SE k' l' ws' ks' ops' c') m=some (SE k l ws ks (ops++gpL c c') [],SE k' l' ws' ks' (ops'++gpL c' c) [],bU m (gpF c c')):=by
 have z:(cond (decide (0 < (c.length:Int))) (cond (decide (0 < (c'.length:Int))) ((Y8 c c').bind fun y5=>some (cond (cond (decide (0 < (c.length:Int))) (decide (0 < (c'.length:Int))) false) (!y5) false)) (some false)) (some false))=some (gpF c c').2:=by
  rw [Z4k hc hc' (by omega),Option.bind_some,Zjw,Zjw]
  unfold gpF
  cases decide (c=[]) <;> cases decide (c'=[]) <;> cases eqN c c' <;> rfl
 unfold K4
 rw [show (SE k l ws ks ops c).come=c from rfl,show (SE k' l' ws' ks' ops' c').come=c' from rfl,z,Option.bind_some]
 have z2:(cond (gpF c c').2 (some true) (some m.clash))=some (m.clash || (gpF c c').2):=by
  cases (gpF c c').2 <;> cases m.clash <;> rfl
 rw [z2,Option.bind_some]
 have hm:(⟨m.apart,m.clash || (gpF c c').2⟩:Zg)=bU m (gpF c c'):=by
  unfold bU
  rw [show (gpF c c').1=false from rfl,Bool.or_false]
 rw [hm]
 have g1:=Z1c (k:=k) (l:=l) (ws:=ws) (ks:=ks) (ops:=ops) (c:=c) (m:=bU m (gpF c c')) h1 c'
 have g2:=Z1c (k:=k') (l:=l') (ws:=ws') (ks:=ks') (ops:=ops') (c:=c') (m:=bU m (gpF c c')) h2 c
 refine (congrArg (fun z=>Option.bind z _) g1).trans ?_
 rw [Option.bind_some]
 refine (congrArg (fun z=>Option.bind z _) g2).trans ?_
 rfl
def stL (o q:EO):List EO:=if q.Kind=0 then [o] else if o.Kind=0∧q.Kind=3 then [⟨0,1,[],sJ⟩] else []
noncomputable def apB (e:Ed) (t:Tr):Bool:=match J3 e t with | some u=>u.2 | none=>false
noncomputable def stF (o q:EO):FF:=if q.Kind=0 then f00 else if o.Kind=1∧q.Kind=1 then (!eqN o.L q.L,false) else if o.Kind=1∧q.Kind=3 then (!apB q.E (o.L.headD yV),true) else f00
theorem Z1e {k l:Int} {ws:List WE} {ks:List Zq} {ops:List EO} {c:List Tr} (m:Zg) (hl:ops.length≤100000000) {o q:EO} (ho:∀ t∈o.L,Bd t) (hq:∀ t∈q.L,Bd t) (hn:o.L.length≤4000000000) (ha:o.Kind=1→q.Kind=3→∃ t r u,o.L=t::r∧J3 q.E t=some u) :
  Vp (SE k l ws ks ops c) o q m=some (SE k l ws ks (ops++stL o q) c,bU m (stF o q)):=by
 unfold Vp stL stF
 by_cases h0:q.Kind=0
 ·rw [show (q.Kind == 0)=true from beq_iff_eq.2 h0,cond_true,if_pos h0,if_pos h0,Zao]
  exact (congrArg (fun z=>Option.bind z _) (Z0p hl _)).trans rfl
 rw [show (q.Kind == 0)=false from beq_eq_false_iff_ne.2 h0,cond_false,if_neg h0,if_neg h0]
 by_cases h3:o.Kind=0∧q.Kind=3
 ·rw [if_pos h3,if_neg (by omega),if_neg (by omega),h3.1,h3.2,Zao]
  exact (congrArg (fun z=>Option.bind z _) (Yaw hl _)).trans rfl
 rw [if_neg h3,List.append_nil,show cond (o.Kind == 0) (q.Kind == 3) false=false by
  rcases Decidable.em (o.Kind=0) with g | g
  ·rw [show (o.Kind == 0)=true from beq_iff_eq.2 g,cond_true];exact beq_eq_false_iff_ne.2 fun hh=>h3 ⟨g,hh⟩
  rw [show (o.Kind == 0)=false from beq_eq_false_iff_ne.2 g,cond_false],cond_false]
 by_cases h1:o.Kind=1∧q.Kind=1
 ·rw [if_pos h1,h1.1,h1.2,Z4k ho hq (by omega),Option.bind_some]
  unfold bU
  cases m with
  | mk a c=>cases a <;> cases c <;> rfl
 rw [if_neg h1,show cond (o.Kind == 1) (q.Kind == 1) false=false by
  rcases Decidable.em (o.Kind=1) with g | g
  ·rw [show (o.Kind == 1)=true from beq_iff_eq.2 g,cond_true];exact beq_eq_false_iff_ne.2 fun hh=>h1 ⟨g,hh⟩
  rw [show (o.Kind == 1)=false from beq_eq_false_iff_ne.2 g,cond_false],cond_false]
 by_cases h2:o.Kind=1∧q.Kind=3
 ·obtain ⟨t,r,u,e1,e2⟩:=ha h2.1 h2.2
  have hap:apB q.E t=u.2:=by unfold apB;rw [e2]
  rw [if_pos h2,h2.1,h2.2,e1,Zi8,Option.bind_some,e2,Option.bind_some,List.headD_cons,hap]
  unfold bU
  cases m with
  | mk a c=>cases a <;> cases c <;> rfl
 rw [if_neg h2,show cond (o.Kind == 1) (q.Kind == 3) false=false by
  rcases Decidable.em (o.Kind=1) with g | g
  ·rw [show (o.Kind == 1)=true from beq_iff_eq.2 g,cond_true];exact beq_eq_false_iff_ne.2 fun hh=>h2 ⟨g,hh⟩
  rw [show (o.Kind == 1)=false from beq_eq_false_iff_ne.2 g,cond_false],cond_false,Zao]
abbrev RM:=Zd→Zd→Zg→Option (Zd×Zd×Zg)
abbrev KE:=Zq
def kdL (a:Int) (e:Ed):List KE:=if e.Kind=0 then [] else [⟨a,e⟩]
theorem Zzy {k l:Int} {ws:List WE} {ks:List KE} {ops:List EO} {c:List Tr} {m:Zg} (hl:ks.length≤100000000) (a:Int) (e:Ed):cX (SE k l ws ks ops c) a e m=some (SE k l ws (ks++kdL a e) ops c,m):=by
 unfold cX kdL
 by_cases h:e.Kind=0
 ·rw [show (e.Kind != 0)=false by simp [h],cond_false,if_pos h,List.append_nil]
 rw [show (e.Kind != 0)=true by simp [h],cond_true,if_neg h,show (SE k l ws ks ops c).left.Kids=ks from rfl,G3 (by simp only [List.length_singleton];omega) (by simp only [List.length_singleton];omega),Option.bind_some,iE,Option.bind_some]
 rfl
theorem Zph {k l:Int} {ws:List WE} {ks:List KE} {ops:List EO} {c:List Tr} {m:Zg} (hl:ks.length≤100000000) (a:Int) (e:Ed):lJ (SE k l ws ks ops c) a e m=some (SE k l ws (ks++kdL a e) ops c,m):=Zzy hl a e
def kGood (ks:List KE):Prop:=∀ x∈ks,BE x.E∧GN x.E
theorem xT {a:Int} {e:Ed} (hb:BE e) (hg:GN e):kGood (kdL a e)∧(kdL a e).length≤1:=by
 unfold kdL
 split
 ·exact ⟨fun x hx=>(by cases hx),by simp⟩
 exact ⟨fun x hx=>by rw [List.mem_singleton.1 hx];exact ⟨hb,hg⟩,by simp⟩
theorem kGood.app {a b:List KE} (ha:kGood a) (hb:kGood b):kGood (a++b):=fun x hx=>by
 rcases List.mem_append.1 hx with h | h
 ·exact ha x h
 exact hb x h
def Mv {ι:Type} (rm:ι→RM) (e g:Ed):Prop:=∃ u v f,(∀ i m,rm i e g m=some (u,v,bU m f))∧(∀ i m,rm i g e m=some (v,u,bU m f))∧BE u∧GN u∧BE v∧GN v
def KL (rm:RM) (p q pa qa:List KE) (f:FF):Prop:=∀ (k l k' l':Int) (ws ws':List WE) (ka kb:List KE) (ops ops':List EO) (c c':List Tr) (m:Zg),ka.length+p.length≤4000000→kb.length+q.length≤4000000 →
 Yx (Q3 rm) (p,q,SE k l ws ka ops c,SE k' l' ws' kb ops' c',m.apart,m.clash)=some (ws,ka++pa,ops,c,ws',kb++qa,ops',c',SE k l ws (ka++pa) ops c,SE k' l' ws' (kb++qa) ops' c',(bU m f).apart,(bU m f).clash)
theorem Zuq {α:Type} (x:α) (xs:List α) (h:xs.length≤1048576):iG (x::xs) 1 (((x::xs).length:Nat):Int)=some xs:=by
 rw [iM (by omega) (by simp only [List.length_cons];omega) (by simp only [List.length_cons];omega)]
 simp
theorem Z0y {α:Type} (x:α) (xs:List α):decide ((0:Int) < (((x::xs).length:Nat):Int))=true:=decide_eq_true (by simp only [List.length_cons];omega)
theorem neC {α:Type} (x:α) (xs:List α):((((x::xs).length:Nat):Int) == 0)=false:=beq_eq_false_iff_ne.2 (by simp only [List.length_cons];omega)
theorem Zzz (rm:RM):KL rm [] [] [] [] f00:=fun k l k' l' ws ws' ka kb ops ops' c c' m _ _=>by
 rw [Zao,List.append_nil,List.append_nil]
 exact Y7 (by unfold Q3;rfl)
theorem Ze7 {rm:RM} {x:KE} {p q pa qa:List KE} {f:FF} (hp:p.length≤1048576) (hq:q=[]∨∃ y q',q=y::q'∧x.At < y.At) (h:KL rm p q pa qa f):KL rm (x::p) q (kdL x.At x.E++pa) qa f:=fun k l k' l' ws ws' ka kb ops ops' c c' m h1 h2=>by
 simp only [List.length_cons] at h1
 have hkl:(kdL x.At x.E).length≤1:=by unfold kdL;split <;> simp
 have hs:Q3 rm (x::p,q,SE k l ws ka ops c,SE k' l' ws' kb ops' c',m.apart,m.clash)=some (.inl (p,q,SE k l ws (ka++kdL x.At x.E) ops c,SE k' l' ws' kb ops' c',m.apart,m.clash)):=by
  unfold Q3
  rcases hq with rfl | ⟨y,q',rfl,hlt⟩
  ·simp only [Z0y,cond_true,Zi8,Option.bind_some]
   rw [show ((([]:List KE).length:Int) == 0)=true from rfl,cond_true,Option.bind_some,cond_true,Zph (by omega),Option.bind_some,Zuq x p hp,Option.bind_some]
  simp only [Z0y,neC,cond_true,cond_false,Zi8,Option.bind_some]
  rw [decide_eq_true hlt,cond_true,Zph (by omega),Option.bind_some,Zuq x p hp,Option.bind_some]
 rw [Xg hs,h k l k' l' ws ws' (ka++kdL x.At x.E) kb ops ops' c c' m (by rw [List.length_append];omega) h2,List.append_assoc]
theorem Zcv {rm:RM} {y:KE} {p q pa qa:List KE} {f:FF} (hq:q.length≤1048576) (hp:p=[]∨∃ x p',p=x::p'∧y.At < x.At) (h:KL rm p q pa qa f):KL rm p (y::q) pa (kdL y.At y.E++qa) f:=fun k l k' l' ws ws' ka kb ops ops' c c' m h1 h2=>by
 simp only [List.length_cons] at h2
 have hkl:(kdL y.At y.E).length≤1:=by unfold kdL;split <;> simp
 have hs:Q3 rm (p,y::q,SE k l ws ka ops c,SE k' l' ws' kb ops' c',m.apart,m.clash)=some (.inl (p,q,SE k l ws ka ops c,SE k' l' ws' (kb++kdL y.At y.E) ops' c',m.apart,m.clash)):=by
  unfold Q3
  rcases hp with rfl | ⟨x,p',rfl,hlt⟩
  ·simp only [Z0y,neC,cond_true,cond_false,Zi8,Option.bind_some]
   rw [show decide ((0:Int) < (([]:List KE).length:Int))=false from rfl,show ((([]:List KE).length:Int) == 0)=true from rfl]
   simp only [cond_true,cond_false,Option.bind_some]
   rw [Zph (by omega),Option.bind_some,Zuq y q hq,Option.bind_some]
  simp only [Z0y,neC,cond_true,cond_false,Zi8,Option.bind_some]
  rw [decide_eq_false (by omega:¬ x.At < y.At),cond_false,decide_eq_true hlt,cond_true,Zph (by omega),Option.bind_some,Zuq y q hq,Option.bind_some]
 rw [Xg hs,h k l k' l' ws ws' ka (kb++kdL y.At y.E) ops ops' c c' m h1 (by rw [List.length_append];omega),List.append_assoc]
theorem Zvn {rm:RM} {x y:KE} {p q pa qa:List KE} {f g:FF} {u v:Ed} (hp:p.length≤1048576) (hq:q.length≤1048576) (he:x.At=y.At) (hm:∀ m,rm x.E y.E m=some (u,v,bU m g)) (h:KL rm p q pa qa f):KL rm (x::p) (y::q) (kdL x.At u++pa) (kdL y.At v++qa) (orF g f):=fun k l k' l' ws ws' ka kb ops ops' c c' m h1 h2=>by
 simp only [List.length_cons] at h1 h2
 have hku:(kdL x.At u).length≤1:=by unfold kdL;split <;> simp
 have hkv:(kdL y.At v).length≤1:=by unfold kdL;split <;> simp
 have hs:Q3 rm (x::p,y::q,SE k l ws ka ops c,SE k' l' ws' kb ops' c',m.apart,m.clash)=some (.inl (p,q,SE k l ws (ka++kdL x.At u) ops c,SE k' l' ws' (kb++kdL y.At v) ops' c',(bU m g).apart,(bU m g).clash)):=by
  unfold Q3
  simp only [Z0y,neC,cond_true,cond_false,Zi8,Option.bind_some]
  rw [decide_eq_false (by omega:¬ x.At < y.At),cond_false,decide_eq_false (by omega:¬ y.At < x.At),cond_false,show (⟨m.apart,m.clash⟩:Zg)=m from rfl,hm,Option.bind_some]
  simp only
  rw [Zzy (by omega),Option.bind_some]
  simp only
  rw [Zzy (by omega),Option.bind_some,Zuq x p hp,Option.bind_some,Zuq y q hq,Option.bind_some]
 rw [Xg hs,h k l k' l' ws ws' (ka++kdL x.At u) (kb++kdL y.At v) ops ops' c c' (bU m g) (by rw [List.length_append];omega) (by rw [List.length_append];omega),List.append_assoc,List.append_assoc,xA]
theorem Zhx {ι:Type} {rm:ι→RM}:∀ (n:Nat) (p q:List KE),p.length+q.length < n→p.length≤1048576→q.length≤1048576→kGood p→kGood q→(∀ x∈p,∀ y∈q,Mv rm x.E y.E) →
  ∃ pa qa f,(∀ i,KL (rm i) p q pa qa f)∧(∀ i,KL (rm i) q p qa pa f)∧kGood pa∧kGood qa∧pa.length≤p.length∧qa.length≤q.length
 | 0,_,_,h,_,_,_,_,_=>by omega
 | n+1,[],[],_,_,_,_,_,_=>⟨[],[],f00,fun i=>Zzz (rm i),fun i=>Zzz (rm i),fun x hx=>(by cases hx),fun x hx=>(by cases hx),Nat.le_refl _,Nat.le_refl _⟩
 | n+1,x::p,[],hn,hp,hq,gp,gq,hm=>by
  simp only [List.length_cons] at hn hp
  obtain ⟨pa,qa,f,h1,h2,h3,h4,h5,h6⟩:=Zhx (rm:=rm) n p [] (by omega) (by omega) hq (fun z hz=>gp z (.tail _ hz)) gq fun z hz y hy=>hm z (.tail _ hz) y hy
  obtain ⟨k1,k2⟩:=xT (a:=x.At) (gp x (.head _)).1 (gp x (.head _)).2
  exact ⟨_,_,f,fun i=>Ze7 (by omega) (.inl rfl) (h1 i),fun i=>Zcv (by omega) (.inl rfl) (h2 i),k1.app h3,h4,by rw [List.length_append,List.length_cons];omega,h6⟩
 | n+1,[],y::q,hn,hp,hq,gp,gq,hm=>by
  simp only [List.length_cons] at hn hq
  obtain ⟨pa,qa,f,h1,h2,h3,h4,h5,h6⟩:=Zhx (rm:=rm) n [] q (by simp only [List.length_nil];omega) hp (by omega) gp (fun z hz=>gq z (.tail _ hz)) fun z hz=>(by cases hz)
  obtain ⟨k1,k2⟩:=xT (a:=y.At) (gq y (.head _)).1 (gq y (.head _)).2
  exact ⟨_,_,f,fun i=>Zcv (by omega) (.inl rfl) (h1 i),fun i=>Ze7 (by omega) (.inl rfl) (h2 i),h3,k1.app h4,h5,by rw [List.length_append,List.length_cons];omega⟩
 | n+1,x::p,y::q,hn,hp,hq,gp,gq,hm=>by
  simp only [List.length_cons] at hn hp hq
  obtain ⟨kx1,kx2⟩:=xT (a:=x.At) (gp x (.head _)).1 (gp x (.head _)).2
  obtain ⟨ky1,ky2⟩:=xT (a:=y.At) (gq y (.head _)).1 (gq y (.head _)).2
  rcases Int.lt_trichotomy x.At y.At with h | h | h
  ·obtain ⟨pa,qa,f,h1,h2,h3,h4,h5,h6⟩:=Zhx (rm:=rm) n p (y::q) (by simp only [List.length_cons];omega) (by omega) (by simp only [List.length_cons];omega) (fun z hz=>gp z (.tail _ hz)) gq fun z hz=>hm z (.tail _ hz)
   exact ⟨_,_,f,fun i=>Ze7 (by omega) (.inr ⟨y,q,rfl,h⟩) (h1 i),fun i=>Zcv (by omega) (.inr ⟨y,q,rfl,h⟩) (h2 i),kx1.app h3,h4,by rw [List.length_append,List.length_cons];omega,h6⟩
  ·obtain ⟨u,v,g,m1,m2,bu,gu,bv,gv⟩:=hm x (.head _) y (.head _)
   obtain ⟨pa,qa,f,h1,h2,h3,h4,h5,h6⟩:=Zhx (rm:=rm) n p q (by omega) (by omega) (by omega) (fun z hz=>gp z (.tail _ hz)) (fun z hz=>gq z (.tail _ hz)) fun z hz w hw=>hm z (.tail _ hz) w (.tail _ hw)
   obtain ⟨ku1,ku2⟩:=xT (a:=x.At) bu gu
   obtain ⟨kv1,kv2⟩:=xT (a:=y.At) bv gv
   exact ⟨_,_,_,fun i=>Zvn (by omega) (by omega) h (m1 i) (h1 i),fun i=>Zvn (by omega) (by omega) h.symm (m2 i) (h2 i),ku1.app h3,kv1.app h4,by rw [List.length_append,List.length_cons];omega,by rw [List.length_append,List.length_cons];omega⟩
  obtain ⟨pa,qa,f,h1,h2,h3,h4,h5,h6⟩:=Zhx (rm:=rm) n (x::p) q (by simp only [List.length_cons];omega) (by simp only [List.length_cons];omega) (by omega) gp (fun z hz=>gq z (.tail _ hz)) fun z hz w hw=>hm z hz w (.tail _ hw)
  exact ⟨_,_,f,fun i=>Zcv (by omega) (.inr ⟨x,p,rfl,h⟩) (h1 i),fun i=>Ze7 (by omega) (.inr ⟨x,p,rfl,h⟩) (h2 i),h3,ky1.app h4,h5,by rw [List.length_append,List.length_cons];omega⟩
def OKo (o:EO):Prop:=opk o∧lX o≤1073741824
theorem OKo.pos {o:EO} (h:OKo o):1≤lX o:=by
 unfold lX
 rcases h.1 with ⟨a,b⟩ | ⟨a,b⟩ | ⟨a,b⟩ | a
 ·rw [if_pos a];omega
 ·rw [if_neg (by omega),if_neg (by omega)];exact List.length_pos_iff.2 b
 ·rw [if_neg (by omega),if_neg (by omega)];exact List.length_pos_iff.2 b
 rw [if_neg (by omega),if_pos a];omega
theorem Zvm {o:EO} (h:OKo o):iD o=some (lX o:Int):=by
 unfold iD lX
 rcases h.1 with ⟨a,b⟩ | ⟨a,b⟩ | ⟨a,b⟩ | a
 ·rw [a,show ((0:Int) == 0)=true from rfl,cond_true,if_pos rfl];congr 1;omega
 ·rw [a,show ((1:Int) == 0)=false from rfl,cond_false,show ((1:Int) == 1)=true from rfl,cond_true,Option.bind_some,cond_true];rfl
 ·rw [a,show ((2:Int) == 0)=false from rfl,cond_false,show ((2:Int) == 1)=false from rfl,cond_false,show ((2:Int) == 2)=true from rfl,Option.bind_some,cond_true];rfl
 rw [a,show ((3:Int) == 0)=false from rfl,cond_false,show ((3:Int) == 1)=false from rfl,cond_false,show ((3:Int) == 2)=false from rfl,Option.bind_some,cond_false];rfl
def nx:List EO→Nat→List EO×Nat
 | [],_=>([],0)
 | o::R,g=>if g < lX o then (o::R,g) else nx R 0
def CuO (c:List EO×Nat):Prop:=(∀ o∈c.1,OKo o)∧c.1.length≤1048577∧(c.1=[]→c.2=0)∧∀ o R,c.1=o::R→c.2≤lX o
def CuN (c:List EO×Nat):Prop:=CuO c∧∀ o R,c.1=o::R→c.2 < lX o
theorem Zfq:∀ {xs:List EO} {g:Nat},CuO (xs,g)→CuN (nx xs g)
 | [],_,h=>⟨⟨fun o ho=>(by cases ho),by simp [nx],fun _=>rfl,fun o R e=>(by cases e)⟩,fun o R e=>(by cases e)⟩
 | o::R,g,h=>by
  unfold nx
  by_cases hg:g < lX o
  ·rw [if_pos hg]
   refine ⟨h,fun o' R' e => ?_⟩
   injection e with e1 e2
   subst e1
   exact hg
  rw [if_neg hg]
  refine Zfq ⟨fun x hx=>h.1 x (.tail _ hx),by have:=h.2.1;simp only [List.length_cons] at this ⊢;omega,fun _=>rfl,fun _ _ _=>Nat.zero_le _⟩
def nxV (c:List EO×Nat):Int×Int×Ji:=match c.1 with
 | []=>(0,0,⟨[],0⟩)
 | o::R=>(o.Kind,((lX o - c.2:Nat):Int),⟨o::R,(c.2:Int)⟩)
def nxI (c:List EO×Nat):(Int×Int×List EO×Int) ⊕ (List EO×Int):=match c.1 with
 | [] => .inr ([],0)
 | o::R => .inl (o.Kind,((lX o - c.2:Nat):Int),o::R,(c.2:Int))
theorem Ziw:∀ (xs:List EO) (g:Nat),CuO (xs,g)→Yx K3 (xs,(g:Int))=some (nxI (nx xs g))
 | [],g,h=>by
  have:g=0:=h.2.2.1 rfl
  subst this
  exact Y7 rfl
 | o::R,g,h=>by
  have ho:=h.1 o (.head _)
  have hg:=h.2.2.2 o R rfl
  have hb:=ho.2
  have hl:=h.2.1
  simp only [List.length_cons] at hl hg
  unfold nx
  by_cases hlt:g < lX o
  ·rw [if_pos hlt]
   refine Y7 ?_
   unfold K3
   simp only
   rw [decide_eq_true (by simp only [List.length_cons];omega),cond_true,Zi8,Option.bind_some,Zvm ho,Option.bind_some,gJ (by omega) (by omega),decide_eq_true (by omega),cond_true,show ((lX o:Nat):Int) - (g:Int)=((lX o - g:Nat):Int) by omega]
   rfl
  rw [if_neg hlt]
  have hs:K3 (o::R,(g:Int))=some (.inl (R,0)):=by
   unfold K3
   simp only
   rw [decide_eq_true (by simp only [List.length_cons];omega),cond_true,Zi8,Option.bind_some,Zvm ho,Option.bind_some,gJ (by omega) (by omega),decide_eq_false (by omega),cond_false,Zuq o R (by omega),Option.bind_some]
  rw [Xg hs]
  exact Ziw R 0 ⟨fun x hx=>h.1 x (.tail _ hx),by simp only;omega,fun _=>rfl,fun _ _ _=>Nat.zero_le _⟩
theorem cT {xs:List EO} {g:Nat} (h:CuO (xs,g)):K9 ⟨xs,(g:Int)⟩=some (nxV (nx xs g)):=by
 unfold K9
 simp only
 rw [Ziw xs g h,Option.bind_some]
 unfold nxI nxV
 cases (nx xs g).1 <;> rfl
def Zi4 (o:EO) (g n:Nat):EO:=if o.Kind=0 then ⟨0,(n:Int),o.L,o.E⟩ else if o.Kind=1∨o.Kind=2 then ⟨o.Kind,o.N,(o.L.drop g).take n,o.E⟩ else o
theorem Z7a {o:EO} {R:List EO} {g n:Nat} (h:OKo o) (hn:g+n≤lX o):Ke ⟨o::R,(g:Int)⟩ (n:Int)=some (Zi4 o g n,⟨o::R,((g+n:Nat):Int)⟩):=by
 have hb:=h.2
 unfold Ke Zi4
 simp only
 rw [Zi8,Option.bind_some,gJ (by omega) (by omega)]
 have hL:(o.Kind=1∨o.Kind=2)→iG o.L (g:Int) ((g:Int)+(n:Int))=some ((o.L.drop g).take n):=fun hk=>by
  have e:lX o=o.L.length:=by unfold lX;rw [if_neg (by omega),if_neg (by omega)]
  rw [iM (by omega) (by omega) (by omega)]
  congr 1
  rw [show ((g:Int)).toNat=g from rfl]
  congr 1
  omega
 rcases h.1 with ⟨a,b⟩ | ⟨a,b⟩ | ⟨a,b⟩ | a
 ·rw [if_pos a,a,show ((0:Int) == 0)=true from rfl,cond_true,Option.bind_some]
  rfl
 ·rw [if_neg (by omega),if_pos (.inl a),hL (.inl a),a,show ((1:Int) == 0)=false from rfl,cond_false,show ((1:Int) == 1)=true from rfl,cond_true,Option.bind_some,cond_true,Option.bind_some,Option.bind_some]
  rfl
 ·rw [if_neg (by omega),if_pos (.inr a),hL (.inr a),a,show ((2:Int) == 0)=false from rfl,cond_false,show ((2:Int) == 1)=false from rfl,cond_false,show ((2:Int) == 2)=true from rfl,Option.bind_some,cond_true,Option.bind_some,Option.bind_some]
  rfl
 rw [if_neg (by omega),if_neg (by omega),a,show ((3:Int) == 0)=false from rfl,cond_false,show ((3:Int) == 1)=false from rfl,cond_false,show ((3:Int) == 2)=false from rfl,Option.bind_some,cond_false,Option.bind_some]
 obtain ⟨x,y,z,w⟩:=o
 simp only at a
 subst a
 rfl
theorem Zof {c:List EO×Nat} (h:c.1=[]→c.2=0):(nxV c).2.2=⟨c.1,(c.2:Int)⟩:=by
 unfold nxV
 cases hc:c.1 with
 | nil=>rw [h hc];rfl
 | cons o R=>rfl
def cnt (c:List EO×Nat):Nat:=match c.1 with
 | []=>0
 | o::_=>lX o - c.2
def knd (c:List EO×Nat):Int:=match c.1 with
 | []=>0
 | o::_=>o.Kind
theorem Zfo (c:List EO×Nat):(nxV c).1=knd c:=by unfold nxV knd;cases c.1 <;> rfl
theorem Zfp (c:List EO×Nat):(nxV c).2.1=(cnt c:Int):=by unfold nxV cnt;cases c.1 <;> rfl
def E0:EO:=⟨0,0,[],sJ⟩
def prt (c:List EO×Nat) (n:Nat):EO:=match c.1 with
 | []=>E0
 | o::_=>Zi4 o c.2 n
theorem CuN.z {c:List EO×Nat} (h:CuN c):c.1=[]→c.2=0:=h.1.2.2.1
theorem CuN.pos {c:List EO×Nat} (h:CuN c) (hc:c.1≠[]):0 < cnt c:=by
 unfold cnt
 cases e:c.1 with
 | nil=>exact absurd e hc
 | cons o R=>have:=h.2 o R e;simp only;omega
theorem Zwf {c:List EO×Nat} (h:CuN c) {n:Nat} (h0:c.1≠[]) (hn:n≤cnt c):Ke ⟨c.1,(c.2:Int)⟩ (n:Int)=some (prt c n,⟨c.1,((c.2+n:Nat):Int)⟩):=by
 unfold cnt at hn
 unfold prt
 cases e:c.1 with
 | nil=>exact absurd e h0
 | cons o R =>
  rw [e] at hn
  have:=h.2 o R e
  exact Z7a (h.1.1 o (by rw [e];exact .head _)) (by simp only at hn;omega)
def adv (c:List EO×Nat) (n:Nat):List EO×Nat:=(c.1,c.2+n)
theorem Zyi {c:List EO×Nat} (h:CuN c) {n:Nat} (h0:c.1≠[]) (hn:n≤cnt c):CuO (adv c n):=by
 refine ⟨h.1.1,h.1.2.1,fun e=>absurd e h0,fun o R e => ?_⟩
 unfold cnt at hn
 have e':c.1=o::R:=e
 rw [e'] at hn
 have:=h.2 o R e'
 show c.2+n≤lX o
 simp only at hn
 omega
abbrev PST:=List EO×Int×List EO×Int×List Yw
def pst (c d:List EO×Nat) (out:List Yw):PST:=(c.1,(c.2:Int),d.1,(d.2:Int),out)
section
variable {c d:List EO×Nat} {out:List Yw}
theorem Zlq (hc:CuO c) (hd:CuO d) (h0:(nx c.1 c.2).1≠[]) (hk:knd (nx c.1 c.2)=2) (hl:out.length≤100000000) :
  X3 2 2 (pst c d out)=some (.inl (pst (adv (nx c.1 c.2) (cnt (nx c.1 c.2))) (nx d.1 d.2) (out++[⟨1,prt (nx c.1 c.2) (cnt (nx c.1 c.2)),E0⟩]))):=by
 have nc:CuN (nx c.1 c.2):=Zfq hc
 have nd:CuN (nx d.1 d.2):=Zfq hd
 have hp:=nc.pos h0
 unfold X3 pst
 simp only
 rw [cT hc,Option.bind_some,cT hd,Option.bind_some,Zfp,Zfo,Zof nc.z,Zof nd.z,hk,decide_eq_true (by omega),cond_true,show ((2:Int) == 2)=true from rfl,cond_true,Zwf nc h0 (Nat.le_refl _),Option.bind_some,G3 (by simp only [List.length_singleton];omega) (by simp only [List.length_singleton];omega),Option.bind_some]
 rfl
theorem Zh6 (hc:CuO c) (hd:CuO d) (hk':(nx c.1 c.2).1=[]∨knd (nx c.1 c.2)≠2) (h0:(nx d.1 d.2).1≠[]) (hk:knd (nx d.1 d.2)=2) (hl:out.length≤100000000) :
  X3 2 2 (pst c d out)=some (.inl (pst (nx c.1 c.2) (adv (nx d.1 d.2) (cnt (nx d.1 d.2))) (out++[⟨2,E0,prt (nx d.1 d.2) (cnt (nx d.1 d.2))⟩]))):=by
 have nc:CuN (nx c.1 c.2):=Zfq hc
 have nd:CuN (nx d.1 d.2):=Zfq hd
 have hp:=nd.pos h0
 have hf:cond (decide (0 < (cnt (nx c.1 c.2):Int))) (knd (nx c.1 c.2) == 2) false=false:=by
  rcases hk' with h | h
  ·rw [decide_eq_false (by unfold cnt;rw [h];simp),cond_false]
  rw [show (knd (nx c.1 c.2) == 2)=false from beq_eq_false_iff_ne.2 h]
  cases decide (0 < (cnt (nx c.1 c.2):Int)) <;> rfl
 unfold X3 pst
 simp only
 rw [cT hc,Option.bind_some,cT hd,Option.bind_some,Zfp,Zfo,Zof nc.z,Zfp,Zfo,Zof nd.z,hf,cond_false,hk,decide_eq_true (by omega),cond_true,show ((2:Int) == 2)=true from rfl,cond_true,Zwf nd h0 (Nat.le_refl _),Option.bind_some,G3 (by simp only [List.length_singleton];omega) (by simp only [List.length_singleton];omega),Option.bind_some]
 rfl
def noI (c:List EO×Nat):Prop:=c.1=[]∨knd c≠2
theorem Zod {c:List EO×Nat} (h:noI c):cond (decide (0 < (cnt c:Int))) (knd c == 2) false=false:=by
 rcases h with h | h
 ·rw [decide_eq_false (by unfold cnt;rw [h];simp),cond_false]
 rw [show (knd c == 2)=false from beq_eq_false_iff_ne.2 h]
 cases decide (0 < (cnt c:Int)) <;> rfl
theorem Zjo {c:List EO×Nat} (h:c.1=[]):cnt c=0:=by unfold cnt;rw [h]
theorem Zpx (hc:CuO c) (hd:CuO d) (e1:(nx c.1 c.2).1=[]) (e2:(nx d.1 d.2).1=[]):X3 2 2 (pst c d out)=some (.inr (out,true)):=by
 unfold X3 pst
 simp only
 rw [cT hc,Option.bind_some,cT hd,Option.bind_some,Zfp,Zfo,Zfp,Zfo,Zod (.inl e1),cond_false,Zod (.inl e2),cond_false,Zjo e1,Zjo e2]
 rfl
theorem lS (hc:CuO c) (hd:CuO d) (n1:noI (nx c.1 c.2)) (n2:noI (nx d.1 d.2)) (e:(nx c.1 c.2).1=[]∧(nx d.1 d.2).1≠[]∨(nx c.1 c.2).1≠[]∧(nx d.1 d.2).1=[]):X3 2 2 (pst c d out)=some (.inr ([],false)):=by
 have nc:CuN (nx c.1 c.2):=Zfq hc
 have nd:CuN (nx d.1 d.2):=Zfq hd
 unfold X3 pst
 simp only
 rw [cT hc,Option.bind_some,cT hd,Option.bind_some,Zfp,Zfo,Zfp,Zfo,Zod n1,cond_false,Zod n2,cond_false]
 rcases e with ⟨e1,e2⟩ | ⟨e1,e2⟩
 ·have:=nd.pos e2
  rw [Zjo e1,show (((0:Nat):Int) == 0)=true from rfl,cond_true,show (((cnt (nx d.1 d.2):Nat):Int) == 0)=false from beq_eq_false_iff_ne.2 (by omega),cond_false,cond_true]
  rfl
 have:=nc.pos e1
 rw [Zjo e2,show (((cnt (nx c.1 c.2):Nat):Int) == 0)=false from beq_eq_false_iff_ne.2 (by omega),cond_false,cond_false,cond_false,show (((0:Nat):Int) == 0)=true from rfl,cond_true]
theorem Zjv (hc:CuO c) (hd:CuO d) (n1:noI (nx c.1 c.2)) (n2:noI (nx d.1 d.2)) (e1:(nx c.1 c.2).1≠[]) (e2:(nx d.1 d.2).1≠[]) (hl:out.length≤100000000) {n:Nat} (hn:n=min (cnt (nx c.1 c.2)) (cnt (nx d.1 d.2))) :
  X3 2 2 (pst c d out)=some (.inl (pst (adv (nx c.1 c.2) n) (adv (nx d.1 d.2) n) (out++[⟨0,prt (nx c.1 c.2) n,prt (nx d.1 d.2) n⟩]))):=by
 have nc:CuN (nx c.1 c.2):=Zfq hc
 have nd:CuN (nx d.1 d.2):=Zfq hd
 have p1:=nc.pos e1
 have p2:=nd.pos e2
 have hmin:(if (cnt (nx d.1 d.2):Int) < (cnt (nx c.1 c.2):Int) then (cnt (nx d.1 d.2):Int) else (cnt (nx c.1 c.2):Int))=(n:Int):=by
  split <;> omega
 unfold X3 pst
 simp only
 rw [cT hc,Option.bind_some,cT hd,Option.bind_some,Zfp,Zfo,Zof nc.z,Zfp,Zfo,Zof nd.z,Zod n1,cond_false,Zod n2,cond_false,show (((cnt (nx c.1 c.2):Nat):Int) == 0)=false from beq_eq_false_iff_ne.2 (by omega),cond_false,cond_false,cond_false,show (((cnt (nx d.1 d.2):Nat):Int) == 0)=false from beq_eq_false_iff_ne.2 (by omega),cond_false,hmin,Zwf nc e1 (by omega),Option.bind_some,Zwf nd e2 (by omega),Option.bind_some,G3 (by simp only [List.length_singleton];omega) (by simp only [List.length_singleton];omega),Option.bind_some]
 rfl
end
theorem Zlb {c:List EO×Nat} (h:CuN c):nx c.1 c.2=c:=by
 obtain ⟨xs,g⟩:=c
 cases xs with
 | nil=>have:=h.z rfl;simp only at this;subst this;rfl
 | cons o R =>
  have:=h.2 o R rfl
  simp only at this
  unfold nx
  rw [if_pos this]
abbrev cF (c:List EO×Nat):List EO×Nat:=nx c.1 c.2
noncomputable def run (c d:List EO×Nat) (out:List Yw):Option (List Yw×Bool):=Yx (X3 2 2) (pst c d out)
theorem Zp6 {c d:List EO×Nat} {out:List Yw} (hc:CuO c) (hd:CuO d) (hl:out.length≤100000000):run c d out=run (cF c) (cF d) out:=by
 have nc:CuN (cF c):=Zfq hc
 have nd:CuN (cF d):=Zfq hd
 have ic:=Zlb nc
 have id_:=Zlb nd
 unfold run
 by_cases e1:(cF c).1≠[]∧knd (cF c)=2
 ·rw [Xg (Zlq hc hd e1.1 e1.2 hl),Xg (Zlq (c:=cF c) (d:=cF d) nc.1 nd.1 (by rw [ic];exact e1.1) (by rw [ic];exact e1.2) hl),ic,id_]
 have n1:noI (cF c):=by
  by_cases h:(cF c).1=[]
  ·exact .inl h
  exact .inr fun hk=>e1 ⟨h,hk⟩
 by_cases e2:(cF d).1≠[]∧knd (cF d)=2
 ·rw [Xg (Zh6 hc hd n1 e2.1 e2.2 hl),Xg (Zh6 (c:=cF c) (d:=cF d) nc.1 nd.1 (by rw [ic];exact n1) (by rw [id_];exact e2.1) (by rw [id_];exact e2.2) hl),ic,id_]
 have n2:noI (cF d):=by
  by_cases h:(cF d).1=[]
  ·exact .inl h
  exact .inr fun hk=>e2 ⟨h,hk⟩
 by_cases f1:(cF c).1=[] <;> by_cases f2:(cF d).1=[]
 ·rw [Y7 (Zpx hc hd f1 f2),Y7 (Zpx (c:=cF c) (d:=cF d) nc.1 nd.1 (by rw [ic];exact f1) (by rw [id_];exact f2))]
 ·rw [Y7 (lS hc hd n1 n2 (.inl ⟨f1,f2⟩)),Y7 (lS (c:=cF c) (d:=cF d) nc.1 nd.1 (by rw [ic];exact n1) (by rw [id_];exact n2) (by rw [ic,id_];exact .inl ⟨f1,f2⟩))]
 ·rw [Y7 (lS hc hd n1 n2 (.inr ⟨f1,f2⟩)),Y7 (lS (c:=cF c) (d:=cF d) nc.1 nd.1 (by rw [ic];exact n1) (by rw [id_];exact n2) (by rw [ic,id_];exact .inr ⟨f1,f2⟩))]
 rw [Xg (Zjv hc hd n1 n2 f1 f2 hl rfl),Xg (Zjv (c:=cF c) (d:=cF d) nc.1 nd.1 (by rw [ic];exact n1) (by rw [id_];exact n2) (by rw [ic];exact f1) (by rw [id_];exact f2) hl rfl),ic,id_]
theorem Zpp:∀ (xs:List EO) (g:Nat),(nx xs g).1.length≤xs.length
 | [],_=>Nat.le_refl _
 | o::R,g=>by
  unfold nx
  split
  ·exact Nat.le_refl _
  have:=Zpp R 0
  simp only [List.length_cons]
  omega
def rem (c:List EO×Nat):Nat:=Jk c.1 - c.2
theorem Zp3:∀ (xs:List EO) (g:Nat),CuO (xs,g)→rem (nx xs g)=rem (xs,g)
 | [],g,h=>by have:=h.2.2.1 rfl;simp only at this;subst this;rfl
 | o::R,g,h=>by
  unfold nx
  by_cases hg:g < lX o
  ·rw [if_pos hg]
  rw [if_neg hg,Zp3 R 0 ⟨fun x hx=>h.1 x (.tail _ hx),by have:=h.2.1;simp only [List.length_cons] at this ⊢;omega,fun _=>rfl,fun _ _ _=>Nat.zero_le _⟩]
  have:=h.2.2.2 o R rfl
  unfold rem
  simp only at this ⊢
  rw [eO]
  omega
theorem Zoy {c:List EO×Nat}:cnt c≤rem c:=by
 unfold cnt rem
 cases c.1 with
 | nil=>simp
 | cons o R=>rw [eO];simp only;omega
theorem Zp2 (c:List EO×Nat) (n:Nat):rem (adv c n)=rem c - n:=by unfold rem adv;simp only;omega
theorem Zpj {c:List EO×Nat} (h:CuN c) (h0:c.1≠[]):(cF (adv c (cnt c))).1.length+1≤c.1.length:=by
 obtain ⟨xs,g⟩:=c
 cases xs with
 | nil=>exact absurd rfl h0
 | cons o R =>
  have hg:=h.2 o R rfl
  have e:cF (adv (o::R,g) (cnt (o::R,g)))=nx R 0:=by
   unfold cF adv cnt
   simp only at hg ⊢
   rw [nx,if_neg (by omega)]
  rw [e]
  have:=Zpp R 0
  simp only [List.length_cons]
  omega
theorem Z6f:∀ (w:Nat) (c:List EO×Nat),rem c < w→CuN c→∃ (ia:List EO) (c':List EO×Nat),CuN c'∧noI c'∧rem c'+Jk ia=rem c∧c'.1.length+ia.length≤c.1.length∧(∀ o∈ia,o.Kind=2)∧(∀ o∈ia,∃ x∈c.1,∀ t∈o.L,t∈x.L)∧(∀ o∈c'.1,o∈c.1) ∧
  (∀ (d:List EO×Nat) (out:List Yw),CuN d→out.length+ia.length≤90000000→run c d out=run c' d (out++ia.map fun o=>⟨1,o,E0⟩)) ∧
  (∀ (d:List EO×Nat) (out:List Yw),CuN d→noI d→out.length+ia.length≤90000000→run d c out=run d c' (out++ia.map fun o=>⟨2,E0,o⟩))
 | 0,_,h,_=>by omega
 | w+1,c,hw,hc=>by
  by_cases e:c.1≠[]∧knd c=2
  ·have ic:=Zlb hc
   have hO:=Zyi hc e.1 (Nat.le_refl _)
   have hN:CuN (cF (adv c (cnt c))):=Zfq hO
   have hp:=hc.pos e.1
   have hcr:=Zoy (c:=c)
   have hr:rem (cF (adv c (cnt c)))=rem c - cnt c:=by rw [show rem (cF (adv c (cnt c)))=rem (adv c (cnt c)) from Zp3 _ _ hO,Zp2]
   obtain ⟨ia,c',q1,q2,q3,q4,q5,q6,q7,q8,q9⟩:=Z6f w (cF (adv c (cnt c))) (by omega) hN
   have hl:=Zpj hc e.1
   have hmem:∀ (xs:List EO) (g:Nat),∀ o∈(nx xs g).1,o∈xs:=fun xs=>by
    induction xs with
    | nil=>intro g o ho;exact ho
    | cons y R ih =>
     intro g o ho
     unfold nx at ho
     split at ho
     ·exact ho
     exact .tail _ (ih 0 o ho)
   have hsub:∀ o∈(cF (adv c (cnt c))).1,o∈c.1:=fun o ho=>hmem _ _ o ho
   have hprt:(prt c (cnt c)).Kind=2∧lX (prt c (cnt c))=cnt c∧∃ x∈c.1,∀ t∈(prt c (cnt c)).L,t∈x.L:=by
    obtain ⟨xs,g⟩:=c
    cases xs with
    | nil=>exact absurd rfl e.1
    | cons o R =>
     have hk:o.Kind=2:=e.2
     have hg:=hc.2 o R rfl
     have ht:lX o=o.L.length:=by unfold lX;rw [if_neg (by omega),if_neg (by omega)]
     have hpr:prt (o::R,g) (cnt (o::R,g))=⟨o.Kind,o.N,(o.L.drop g).take (lX o - g),o.E⟩:=by
      unfold prt cnt Zi4
      simp only
      rw [if_neg (by omega),if_pos (.inr hk)]
     have hlen:∀ L':List Tr,lX ⟨o.Kind,o.N,L',o.E⟩=L'.length:=fun L'=>by
      unfold lX
      simp only
      rw [if_neg (by omega),if_neg (by omega)]
     rw [hpr]
     refine ⟨hk,?_,o,.head _,fun t ht=>List.mem_of_mem_drop (List.mem_of_mem_take ht)⟩
     rw [hlen,List.length_take,List.length_drop]
     unfold cnt
     simp only
     omega
   refine ⟨prt c (cnt c)::ia,c',q1,q2,by rw [eO,hprt.2.1];omega,by simp only [List.length_cons];omega,fun o ho => ?_,fun o ho => ?_,fun o ho=>hsub o (q7 o ho),fun d out hd ho => ?_,fun d out hd hnd ho => ?_⟩
   ·rcases List.mem_cons.1 ho with rfl | ho
    ·exact hprt.1
    exact q5 o ho
   ·rcases List.mem_cons.1 ho with rfl | ho
    ·exact hprt.2.2
    obtain ⟨x,hx,h⟩:=q6 o ho
    exact ⟨x,hsub x hx,h⟩
   ·simp only [List.length_cons] at ho
    have id_:=Zlb hd
    have h1:=Zlq (c:=c) (d:=d) (out:=out) hc.1 hd.1 (by rw [ic];exact e.1) (by rw [ic];exact e.2) (by omega)
    rw [ic,id_] at h1
    have h2:run c d out=run (adv c (cnt c)) d (out++[⟨1,prt c (cnt c),E0⟩]):=Xg h1
    rw [h2,Zp6 hO hd.1 (by rw [List.length_append,List.length_singleton];omega),show cF d=d from id_,q8 d _ hd (by rw [List.length_append,List.length_singleton];omega),List.append_assoc]
    rfl
   simp only [List.length_cons] at ho
   have id_:=Zlb hd
   have h1:=Zh6 (c:=d) (d:=c) (out:=out) hd.1 hc.1 (by rw [id_];exact hnd) (by rw [ic];exact e.1) (by rw [ic];exact e.2) (by omega)
   rw [ic,id_] at h1
   have h2:run d c out=run d (adv c (cnt c)) (out++[⟨2,E0,prt c (cnt c)⟩]):=Xg h1
   rw [h2,Zp6 hd.1 hO (by rw [List.length_append,List.length_singleton];omega),show cF d=d from id_,q9 d _ hd hnd (by rw [List.length_append,List.length_singleton];omega),List.append_assoc]
   rfl
  refine ⟨[],c,hc,?_,by simp [Jk],by simp,fun o ho=>(by cases ho),fun o ho=>(by cases ho),fun o ho=>ho,fun d out _ _=>by rw [List.map_nil,List.append_nil],fun d out _ _ _=>by rw [List.map_nil,List.append_nil]⟩
  by_cases h:c.1=[]
  ·exact .inl h
  exact .inr fun hk=>e ⟨h,hk⟩
def F1 (l:List EO):List Yw:=l.map fun o=>⟨1,o,E0⟩
def S2 (l:List EO):List Yw:=l.map fun o=>⟨2,E0,o⟩
def Ziu (P ia:List EO):Prop:=∀ o∈ia,o.Kind=2∧∃ x∈P,∀ t∈o.L,t∈x.L
def Zf4 (P:List EO) (x:EO):Prop:=opk x∧x.Kind≠2∧∃ z∈P,x.Kind=z.Kind∧x.E=z.E∧(∀ t∈x.L,t∈z.L)∧x.L.length≤z.L.length
inductive Tw (P Q:List EO):Nat→Nat→List Yw→List Yw→Prop
 | fin (ia ib:List EO) (ha:Ziu P ia) (hb:Ziu Q ib):Tw P Q (ia.length+ib.length) (Jk ia+Jk ib) (F1 ia++S2 ib) (F1 ib++S2 ia)
 | both (ia ib:List EO) (x y:EO) (n w:Nat) (r r':List Yw) (ha:Ziu P ia) (hb:Ziu Q ib) (hx:Zf4 P x) (hy:Zf4 Q y) (h:Tw P Q n w r r') :
   Tw P Q (ia.length+ib.length+1+n) (Jk ia+Jk ib+(lX x+lX y)+w) (F1 ia++(S2 ib++⟨0,x,y⟩::r)) (F1 ib++(S2 ia++⟨0,y,x⟩::r'))
theorem Z0z {c:List EO×Nat} {P:List EO} (hc:CuN c) (h0:c.1≠[]) (hk:noI c) (hP:∀ o∈c.1,o∈P) {n:Nat} (h1:1≤n) (hn:n≤cnt c):Zf4 P (prt c n)∧lX (prt c n)=n:=by
 obtain ⟨xs,g⟩:=c
 cases xs with
 | nil=>exact absurd rfl h0
 | cons o R =>
  have h2:o.Kind≠2:=by
   rcases hk with h | h
   ·exact absurd h h0
   exact h
  have hg:=hc.2 o R rfl
  have ho:=hc.1.1 o (.head _)
  have hm:o∈P:=hP o (.head _)
  have hn':n≤lX o - g:=hn
  show Zf4 P (Zi4 o g n)∧lX (Zi4 o g n)=n
  rcases ho.1 with ⟨a,b⟩ | ⟨a,b⟩ | ⟨a,b⟩ | a
  ·have e:Zi4 o g n=⟨0,(n:Int),o.L,o.E⟩:=by unfold Zi4;rw [if_pos a]
   rw [e]
   refine ⟨⟨.inl ⟨rfl,by simp only;omega⟩,by simp,o,hm,a.symm,rfl,fun t ht=>ht,Nat.le_refl _⟩,?_⟩
   unfold lX
   simp
  ·have e:Zi4 o g n=⟨o.Kind,o.N,(o.L.drop g).take n,o.E⟩:=by unfold Zi4;rw [if_neg (by omega),if_pos (.inl a)]
   have ht:lX o=o.L.length:=by unfold lX;rw [if_neg (by omega),if_neg (by omega)]
   have hl:((o.L.drop g).take n).length=n:=by rw [List.length_take,List.length_drop];omega
   rw [e]
   refine ⟨⟨.inr (.inl ⟨a,fun hh => ?_⟩),h2,o,hm,rfl,rfl,fun t ht=>List.mem_of_mem_drop (List.mem_of_mem_take ht),by simp only [hl];omega⟩,?_⟩
   ·have hh':(o.L.drop g).take n=[]:=hh
    rw [hh'] at hl
    simp at hl
    omega
   unfold lX
   simp only
   rw [if_neg (by omega),if_neg (by omega),hl]
  ·exact absurd a h2
  have e:Zi4 o g n=o:=by unfold Zi4;rw [if_neg (by omega),if_neg (by omega)]
  have ht:lX o=1:=by unfold lX;rw [if_neg (by omega),if_pos a]
  rw [e]
  exact ⟨⟨ho.1,h2,o,hm,rfl,rfl,fun t ht=>ht,Nat.le_refl _⟩,by omega⟩
theorem Zue:∀ (xs:List EO) (g:Nat),∀ o∈(nx xs g).1,o∈xs
 | [],_,o,ho=>ho
 | y::R,g,o,ho=>by
  unfold nx at ho
  split at ho
  ·exact ho
  exact .tail _ (Zue R 0 o ho)
theorem Zrx (P Q:List EO):∀ (w:Nat) (c d:List EO×Nat),rem c+rem d < w→CuN c→CuN d→(∀ o∈c.1,o∈P)→(∀ o∈d.1,o∈Q) →
  (∀ out:List Yw,out.length+(c.1.length+d.1.length)≤80000000→run c d out=some ([],false)∧run d c out=some ([],false)) ∨
  ∃ n u ps ps',Tw P Q n u ps ps'∧n≤c.1.length+d.1.length∧u≤rem c+rem d∧∀ out:List Yw,out.length+(c.1.length+d.1.length)≤80000000→run c d out=some (out++ps,true)∧run d c out=some (out++ps',true)
 | 0,_,_,h,_,_,_,_=>by omega
 | w+1,c,d,hw,hc,hd,hP,hQ=>by
  obtain ⟨ia,c1,a1,a2,a3,a4,a5,a6,a7,a8,a9⟩:=Z6f _ c (Nat.lt_succ_self _) hc
  obtain ⟨ib,d1,b1,b2,b3,b4,b5,b6,b7,b8,b9⟩:=Z6f _ d (Nat.lt_succ_self _) hd
  have ha:Ziu P ia:=fun o ho=>⟨a5 o ho,by obtain ⟨x,hx,h⟩:=a6 o ho;exact ⟨x,hP x hx,h⟩⟩
  have hb:Ziu Q ib:=fun o ho=>⟨b5 o ho,by obtain ⟨x,hx,h⟩:=b6 o ho;exact ⟨x,hQ x hx,h⟩⟩
  have r1:∀ out:List Yw,out.length+(c.1.length+d.1.length)≤80000000→run c d out=run c1 d1 (out++F1 ia++S2 ib):=fun out ho=>by
   rw [a8 d out hd (by omega),b9 c1 _ a1 a2 (by rw [List.length_append,List.length_map];omega)]
   rfl
  have r2:∀ out:List Yw,out.length+(c.1.length+d.1.length)≤80000000→run d c out=run d1 c1 (out++F1 ib++S2 ia):=fun out ho=>by
   rw [b8 c out hc (by omega),a9 d1 _ b1 b2 (by rw [List.length_append,List.length_map];omega)]
   rfl
  have ic:=Zlb a1
  have id_:=Zlb b1
  have nc:noI (cF c1):=by rw [show cF c1=c1 from ic];exact a2
  have nd:noI (cF d1):=by rw [show cF d1=d1 from id_];exact b2
  by_cases f1:c1.1=[] <;> by_cases f2:d1.1=[]
  ·refine .inr ⟨_,_,_,_,.fin ia ib ha hb,by omega,by omega,fun out ho=>⟨?_,?_⟩⟩
   ·rw [r1 out ho,List.append_assoc]
    exact Y7 (Zpx a1.1 b1.1 (by rw [ic];exact f1) (by rw [id_];exact f2))
   rw [r2 out ho,List.append_assoc]
   exact Y7 (Zpx b1.1 a1.1 (by rw [id_];exact f2) (by rw [ic];exact f1))
  ·refine .inl fun out ho=>⟨?_,?_⟩
   ·rw [r1 out ho]
    exact Y7 (lS a1.1 b1.1 nc nd (.inl ⟨by rw [ic];exact f1,by rw [id_];exact f2⟩))
   rw [r2 out ho]
   exact Y7 (lS b1.1 a1.1 nd nc (.inr ⟨by rw [id_];exact f2,by rw [ic];exact f1⟩))
  ·refine .inl fun out ho=>⟨?_,?_⟩
   ·rw [r1 out ho]
    exact Y7 (lS a1.1 b1.1 nc nd (.inr ⟨by rw [ic];exact f1,by rw [id_];exact f2⟩))
   rw [r2 out ho]
   exact Y7 (lS b1.1 a1.1 nd nc (.inl ⟨by rw [id_];exact f2,by rw [ic];exact f1⟩))
  have p1:=a1.pos f1
  have p2:=b1.pos f2
  obtain ⟨n,hn⟩:∃ n,n=min (cnt c1) (cnt d1):=⟨_,rfl⟩
  have hn':n=min (cnt d1) (cnt c1):=by omega
  have oc:=Zyi a1 f1 (n:=n) (by omega)
  have od:=Zyi b1 f2 (n:=n) (by omega)
  have rc:rem (cF (adv c1 n))=rem c1 - n:=by rw [show rem (cF (adv c1 n))=rem (adv c1 n) from Zp3 _ _ oc,Zp2]
  have rd:rem (cF (adv d1 n))=rem d1 - n:=by rw [show rem (cF (adv d1 n))=rem (adv d1 n) from Zp3 _ _ od,Zp2]
  have q1:=Zoy (c:=c1)
  have q2:=Zoy (c:=d1)
  have l1:(cF (adv c1 n)).1.length≤c1.1.length:=Zpp _ _
  have l2:(cF (adv d1 n)).1.length≤d1.1.length:=Zpp _ _
  have l3:(cF (adv c1 n)).1.length+(cF (adv d1 n)).1.length+1≤c1.1.length+d1.1.length:=by
   rcases Nat.le_total (cnt c1) (cnt d1) with h | h
   ·have:=Zpj a1 f1
    rw [show n=cnt c1 by omega] at l2 ⊢
    omega
   have:=Zpj b1 f2
   rw [show n=cnt d1 by omega] at l1 ⊢
   omega
  obtain ⟨x1,x2⟩:=Z0z a1 f1 a2 (fun o ho=>hP o (a7 o ho)) (n:=n) (by omega) (by omega)
  obtain ⟨y1,y2⟩:=Z0z b1 f2 b2 (fun o ho=>hQ o (b7 o ho)) (n:=n) (by omega) (by omega)
  have s1:∀ out:List Yw,out.length≤90000000→run c1 d1 out=run (cF (adv c1 n)) (cF (adv d1 n)) (out++[⟨0,prt c1 n,prt d1 n⟩]):=fun out ho=>by
   have h:=Zjv (c:=c1) (d:=d1) (out:=out) a1.1 b1.1 nc nd (by rw [ic];exact f1) (by rw [id_];exact f2) (by omega) (n:=n) (by rw [ic,id_];exact hn)
   rw [ic,id_] at h
   have h':run c1 d1 out=run (adv c1 n) (adv d1 n) (out++[⟨0,prt c1 n,prt d1 n⟩]):=Xg h
   rw [h',Zp6 oc od (by rw [List.length_append,List.length_singleton];omega)]
  have s2:∀ out:List Yw,out.length≤90000000→run d1 c1 out=run (cF (adv d1 n)) (cF (adv c1 n)) (out++[⟨0,prt d1 n,prt c1 n⟩]):=fun out ho=>by
   have h:=Zjv (c:=d1) (d:=c1) (out:=out) b1.1 a1.1 nd nc (by rw [id_];exact f2) (by rw [ic];exact f1) (by omega) (n:=n) (by rw [ic,id_];exact hn')
   rw [ic,id_] at h
   have h':run d1 c1 out=run (adv d1 n) (adv c1 n) (out++[⟨0,prt d1 n,prt c1 n⟩]):=Xg h
   rw [h',Zp6 od oc (by rw [List.length_append,List.length_singleton];omega)]
  have ll:∀ (out:List Yw) (l m:List EO) (z:Yw),(out++F1 l++S2 m++[z]).length=out.length+l.length+m.length+1:=fun out l m z=>by
   simp only [List.length_append,List.length_singleton,F1,S2,List.length_map]
  have lk:∀ (out:List Yw) (l m:List EO),(out++F1 l++S2 m).length=out.length+l.length+m.length:=fun out l m=>by
   simp only [List.length_append,F1,S2,List.length_map]
  rcases Zrx P Q w (cF (adv c1 n)) (cF (adv d1 n)) (by omega) (Zfq oc) (Zfq od) (fun o ho=>hP o (a7 o (Zue _ _ o ho))) (fun o ho=>hQ o (b7 o (Zue _ _ o ho))) with h | ⟨k,u,ps,ps',h1,h2,h3,h4⟩
  ·refine .inl fun out ho=>⟨?_,?_⟩
   ·rw [r1 out ho,s1 _ (by rw [lk];omega)]
    exact (h _ (by rw [ll];omega)).1
   rw [r2 out ho,s2 _ (by rw [lk];omega)]
   exact (h _ (by rw [ll];omega)).2
  refine .inr ⟨_,_,_,_,.both ia ib (prt c1 n) (prt d1 n) k u ps ps' ha hb x1 y1 h1,by omega,by omega,fun out ho=>⟨?_,?_⟩⟩
  ·rw [r1 out ho,s1 _ (by rw [lk];omega),(h4 _ (by rw [ll];omega)).1]
   simp only [List.append_assoc,List.singleton_append,List.cons_append,List.nil_append]
  rw [r2 out ho,s2 _ (by rw [lk];omega),(h4 _ (by rw [ll];omega)).2]
  simp only [List.append_assoc,List.singleton_append,List.cons_append,List.nil_append]
abbrev RB:=Zi→Zi→Zo→Zo→Zg→Option (Zi×Zi×Zg)
abbrev LR:=Zi×Zi×List WE×List KE×List EO×List Tr×List WE×List KE×List EO×List Tr×Bool×Bool
def Zuc (A B:Zi) (m:Zg):LR:=(A,B,A.left.Words,A.left.Kids,A.left.Ops,A.come,B.left.Words,B.left.Kids,B.left.Ops,B.come,m.apart,m.clash)
def LT (rb:RB) (qP:List Yw) (A B:Zi) (m:Zg) (R:LR):Prop:=∀ (ps:List Yw) (i:Nat),ps.drop i=qP→i≤ps.length→ps.length≤100000000 →
 Yx (Xx rb (ps,true)) ((i:Int),A,B,m.apart,m.clash)=some R
def SL (L:Int) (ops:List EO) (c:List Tr):Zi:=SE 3 L [] [] ops c
theorem Zhq {ps:List Yw} {i:Nat} {x:Yw} {r:List Yw} (hd:ps.drop i=x::r):ps[i]? = some x∧ps.drop (i+1)=r∧i < ps.length:=by
 have e1:=congrArg (fun l=>l[0]?) hd
 simp only [List.getElem?_drop,Nat.add_zero,List.getElem?_cons_zero] at e1
 exact ⟨e1,by rw [← List.drop_drop,hd];rfl,(List.getElem?_eq_some_iff.1 e1).1⟩
section
variable {rb:RB} {L:Int} {ops ops':List EO} {c c':List Tr} {m:Zg} {R:LR} {r:List Yw}
theorem Zz9:LT rb [] (SL L ops c) (SL L ops' c') m (Zuc (SL L ops c) (SL L ops' c') m):=fun ps i hd hi hl=>by
 have:ps.length≤i:=List.drop_eq_nil_iff.1 hd
 refine Y7 ?_
 unfold Xx
 simp only
 rw [decide_eq_false (by omega),cond_false]
 rfl
theorem Zz8 {x y:EO} (hc:c.length+x.L.length≤2000000000) (h:LT rb r (SL L ops (c++x.L)) (SL L ops' c') m R):LT rb (⟨1,x,y⟩::r) (SL L ops c) (SL L ops' c') m R:=fun ps i hd hi hl=>by
 obtain ⟨g1,g2,g3⟩:=Zhq hd
 have hs:Xx rb (ps,true) ((i:Int),SL L ops c,SL L ops' c',m.apart,m.clash)=some (.inl (((i+1:Nat):Int),SL L ops (c++x.L),SL L ops' c',m.apart,m.clash)):=by
  unfold Xx
  simp only
  rw [decide_eq_true (by omega),cond_true,X5 g1,Option.bind_some]
  simp only
  rw [show ((1:Int) == 1)=true from rfl,cond_true,show (SL L ops c).come=c from rfl,G3 (by omega) (by omega),Option.bind_some,Option.bind_some,gJ (by omega) (by omega)]
  rfl
 rw [Xg hs]
 exact h ps (i+1) g2 g3 hl
theorem Zxs {x y:EO} (hc:c'.length+y.L.length≤2000000000) (h:LT rb r (SL L ops c) (SL L ops' (c'++y.L)) m R):LT rb (⟨2,x,y⟩::r) (SL L ops c) (SL L ops' c') m R:=fun ps i hd hi hl=>by
 obtain ⟨g1,g2,g3⟩:=Zhq hd
 have hs:Xx rb (ps,true) ((i:Int),SL L ops c,SL L ops' c',m.apart,m.clash)=some (.inl (((i+1:Nat):Int),SL L ops c,SL L ops' (c'++y.L),m.apart,m.clash)):=by
  unfold Xx
  simp only
  rw [decide_eq_true (by omega),cond_true,X5 g1,Option.bind_some]
  simp only
  rw [show ((2:Int) == 1)=false from rfl,cond_false,show ((2:Int) == 2)=true from rfl,cond_true,show (SL L ops' c').come=c' from rfl,G3 (by omega) (by omega),Option.bind_some,Option.bind_some,gJ (by omega) (by omega)]
  rfl
 rw [Xg hs]
 exact h ps (i+1) g2 g3 hl
theorem Zvs {x y:EO} {xa yb:List EO} {f:FF} (h1:ops.length≤100000000) (h2:ops'.length≤100000000) (hc:∀ t∈c,Bd t) (hc':∀ t∈c',Bd t) (hn:c.length≤4000000000)
  (hb:rb (SL L (ops++gpL c c') []) (SL L (ops'++gpL c' c) []) x y (bU m (gpF c c'))=some (SL L (ops++gpL c c'++xa) [],SL L (ops'++gpL c' c++yb) [],bU (bU m (gpF c c')) f))
  (h:LT rb r (SL L (ops++gpL c c'++xa) []) (SL L (ops'++gpL c' c++yb) []) (bU (bU m (gpF c c')) f) R):LT rb (⟨0,x,y⟩::r) (SL L ops c) (SL L ops' c') m R:=fun ps i hd hi hl=>by
 obtain ⟨g1,g2,g3⟩:=Zhq hd
 have hg:K4 (SL L ops c) (SL L ops' c') ⟨m.apart,m.clash⟩=some (SL L (ops++gpL c c') [],SL L (ops'++gpL c' c) [],bU m (gpF c c')):=Z4m m h1 h2 hc hc' hn
 have hs:Xx rb (ps,true) ((i:Int),SL L ops c,SL L ops' c',m.apart,m.clash)=some (.inl (((i+1:Nat):Int),SL L (ops++gpL c c'++xa) [],SL L (ops'++gpL c' c++yb) [],(bU (bU m (gpF c c')) f).apart,(bU (bU m (gpF c c')) f).clash)):=by
  unfold Xx
  simp only
  rw [decide_eq_true (by omega),cond_true,X5 g1,Option.bind_some]
  simp only
  rw [show ((0:Int) == 1)=false from rfl,cond_false,show ((0:Int) == 2)=false from rfl,cond_false,show ((0:Int) == 0)=true from rfl,cond_true,hg,Option.bind_some]
  simp only
  rw [hb,Option.bind_some,Option.bind_some,gJ (by omega) (by omega)]
  rfl
 rw [Xg hs]
 exact h ps (i+1) g2 g3 hl
def xV (ia:List EO):List Tr:=(ia.map (·.L)).flatten
theorem Zho (o:EO) (ia:List EO):xV (o::ia)=o.L++xV ia:=rfl
theorem zT:∀ (ia:List EO) (c:List Tr),c.length+(xV ia).length≤2000000000→LT rb r (SL L ops (c++xV ia)) (SL L ops' c') m R→LT rb (F1 ia++r) (SL L ops c) (SL L ops' c') m R
 | [],c,_,h=>by rw [show xV []=[] from rfl,List.append_nil] at h;exact h
 | o::ia,c,hl,h=>by
  rw [Zho,List.length_append] at hl
  refine Zz8 (by omega) (zT ia (c++o.L) (by rw [List.length_append];omega) ?_)
  rw [List.append_assoc]
  exact h
theorem uN:∀ (ib:List EO) (c':List Tr),c'.length+(xV ib).length≤2000000000→LT rb r (SL L ops c) (SL L ops' (c'++xV ib)) m R→LT rb (S2 ib++r) (SL L ops c) (SL L ops' c') m R
 | [],c',_,h=>by rw [show xV []=[] from rfl,List.append_nil] at h;exact h
 | o::ib,c',hl,h=>by
  rw [Zho,List.length_append] at hl
  refine Zxs (by omega) (uN ib (c'++o.L) (by rw [List.length_append];omega) ?_)
  rw [List.append_assoc]
  exact h
end
theorem Za2:∀ {P ia:List EO},Ziu P ia→(xV ia).length=Jk ia
 | _,[],_=>rfl
 | P,o::ia,h=>by
  have hk:=(h o (.head _)).1
  have ht:lX o=o.L.length:=by unfold lX;rw [if_neg (by omega),if_neg (by omega)]
  rw [Zho,List.length_append,eO,Za2 (P:=P) fun x hx=>h x (.tail _ hx)]
  omega
theorem Zjm {P ia:List EO} (h:Ziu P ia) (hP:∀ o∈P,∀ t∈o.L,Bd t):∀ t∈xV ia,Bd t:=fun t ht=>by
 obtain ⟨l,hl,htl⟩:=List.mem_flatten.1 ht
 obtain ⟨o,ho,rfl⟩:=List.mem_map.1 hl
 obtain ⟨_,x,hx,hh⟩:=h o ho
 exact hP x hx t (hh t htl)
def oGood (l:List EO):Prop:=∀ o∈l,opk o∧(o.L.length * 56≤140737488355328∧∀ t∈o.L,Bd t)∧BE o.E∧GN o.E
theorem oGood.app {a b:List EO} (ha:oGood a) (hb:oGood b):oGood (a++b):=fun x hx=>by
 rcases List.mem_append.1 hx with h | h
 ·exact ha x h
 exact hb x h
theorem tM:oGood []:=fun x hx=>by cases hx
def Bt {ι:Type} (rb:ι→RB) (L:Int) (x y:EO):Prop:=∃ xa yb f,(∀ i ops ops' m,ops.length≤50000000→ops'.length≤50000000→rb i (SL L ops []) (SL L ops' []) x y m=some (SL L (ops++xa) [],SL L (ops'++yb) [],bU m f)) ∧
 (∀ i ops ops' m,ops.length≤50000000→ops'.length≤50000000→rb i (SL L ops []) (SL L ops' []) y x m=some (SL L (ops++yb) [],SL L (ops'++xa) [],bU m f)) ∧
 oGood xa∧oGood yb∧xa.length≤1∧yb.length≤1∧Jk xa≤lX x+lX y∧Jk yb≤lX x+lX y
theorem Ze3 {a b:List Tr} (ha:∀ t∈a,Bd t) (hl:a.length≤2000000000):oGood (gpL a b):=fun o ho=>by
 unfold gpL at ho
 split at ho
 ·split at ho
  ·cases ho
  rename_i h2
  rw [List.mem_singleton.1 ho]
  exact ⟨.inr (.inr (.inl ⟨rfl,h2⟩)),⟨by simp only;omega,ha⟩,bB,vD⟩
 rename_i h1
 have:=List.length_pos_iff.2 h1
 rw [List.mem_singleton.1 ho]
 exact ⟨.inl ⟨rfl,by simp only;omega⟩,⟨by simp,by simp⟩,bB,vD⟩
theorem Zjq (a b:List Tr):Jk (gpL a b)≤a.length+b.length:=by
 unfold gpL
 split
 ·split
  ·simp [Jk]
  simp [Jk,lX]
 simp [Jk,lX]
theorem Z22 {ι:Type} {rb:ι→RB} {L:Int} {P Q:List EO} {n w:Nat} {ps ps':List Yw} (h:Tw P Q n w ps ps') (hP:∀ o∈P,∀ t∈o.L,Bd t) (hQ:∀ o∈Q,∀ t∈o.L,Bd t) (hb:∀ x y,Zf4 P x→Zf4 Q y→Bt rb L x y):w≤1000000000 →
  ∃ oa ob ca cb f,(∀ i ops ops' m,ops.length+2 * n≤50000000→ops'.length+2 * n≤50000000→LT (rb i) ps (SL L ops []) (SL L ops' []) m (Zuc (SL L (ops++oa) ca) (SL L (ops'++ob) cb) (bU m f))) ∧
   (∀ i ops ops' m,ops.length+2 * n≤50000000→ops'.length+2 * n≤50000000→LT (rb i) ps' (SL L ops []) (SL L ops' []) m (Zuc (SL L (ops++ob) cb) (SL L (ops'++oa) ca) (bU m f))) ∧
   oGood oa∧oGood ob∧(∀ t∈ca,Bd t)∧(∀ t∈cb,Bd t)∧oa.length≤2 * n∧ob.length≤2 * n∧Jk oa+ca.length+cb.length≤2 * w∧Jk ob+ca.length+cb.length≤2 * w:=by
 induction h with
 | fin ia ib ha hb' =>
  intro hw
  have la:=Za2 ha
  have lb:=Za2 hb'
  refine ⟨[],[],xV ia,xV ib,f00,fun i ops ops' m _ _ => ?_,fun i ops ops' m _ _ => ?_,tM,tM,Zjm ha hP,Zjm hb' hQ,by simp,by simp,by rw [show Jk []=0 from rfl];omega,by rw [show Jk []=0 from rfl];omega⟩
  ·rw [List.append_nil,List.append_nil,Zao]
   have h1:=uN (rb:=rb i) (L:=L) (ops:=ops) (ops':=ops') (c:=xV ia) (m:=m) (r:=[]) ib [] (by simp only [List.length_nil];omega) Zz9
   rw [List.append_nil,List.nil_append] at h1
   exact zT ia [] (by simp only [List.length_nil];omega) h1
  rw [List.append_nil,List.append_nil,Zao]
  have h1:=uN (rb:=rb i) (L:=L) (ops:=ops) (ops':=ops') (c:=xV ib) (m:=m) (r:=[]) ia [] (by simp only [List.length_nil];omega) Zz9
  rw [List.append_nil,List.nil_append] at h1
  exact zT ib [] (by simp only [List.length_nil];omega) h1
 | both ia ib x y n w r r' ha hb' hx hy _ ih =>
  intro hw
  have la:=Za2 ha
  have lb:=Za2 hb'
  have ba:=Zjm ha hP
  have bb:=Zjm hb' hQ
  obtain ⟨oa,ob,ca,cb,f,i1,i2,i3,i4,i5,i6,i7,i8,i9,i10⟩:=ih (by omega)
  obtain ⟨xa,yb,g,j1,j2,j3,j4,j5,j6,j7,j8⟩:=hb x y hx hy
  have s1:=Zjq (xV ia) (xV ib)
  have s2:=Zjq (xV ib) (xV ia)
  have l1:=Zcu (xV ia) (xV ib)
  have l2:=Zcu (xV ib) (xV ia)
  refine ⟨gpL (xV ia) (xV ib)++xa++oa,gpL (xV ib) (xV ia)++yb++ob,ca,cb,orF (orF (gpF (xV ia) (xV ib)) g) f,fun i ops ops' m h1 h2 => ?_,fun i ops ops' m h1 h2 => ?_,
   ((Ze3 ba (by omega)).app j3).app i3,((Ze3 bb (by omega)).app j4).app i4,i5,i6,by simp only [List.length_append];omega,by simp only [List.length_append];omega,by rw [xU,xU];omega,by rw [xU,xU];omega⟩
  ·refine zT ia [] (by simp only [List.length_nil];omega) (uN ib [] (by simp only [List.length_nil];omega) ?_)
   rw [List.nil_append,List.nil_append]
   refine Zvs (xa:=xa) (yb:=yb) (f:=g) (by omega) (by omega) ba bb (by omega) (j1 i _ _ _ (by rw [List.length_append];omega) (by rw [List.length_append];omega)) ?_
   have:=i1 i (ops++gpL (xV ia) (xV ib)++xa) (ops'++gpL (xV ib) (xV ia)++yb) (bU (bU m (gpF (xV ia) (xV ib))) g) (by simp only [List.length_append];omega) (by simp only [List.length_append];omega)
   rw [xA,xA] at this
   rw [xA]
   simp only [List.append_assoc] at this ⊢
   exact this
  refine zT ib [] (by simp only [List.length_nil];omega) (uN ia [] (by simp only [List.length_nil];omega) ?_)
  rw [List.nil_append,List.nil_append]
  refine Zvs (xa:=yb) (yb:=xa) (f:=g) (by omega) (by omega) bb ba (by omega) (j2 i _ _ _ (by rw [List.length_append];omega) (by rw [List.length_append];omega)) ?_
  have:=i2 i (ops++gpL (xV ib) (xV ia)++yb) (ops'++gpL (xV ia) (xV ib)++xa) (bU (bU m (gpF (xV ib) (xV ia))) g) (by simp only [List.length_append];omega) (by simp only [List.length_append];omega)
  rw [xA,xA,Zks] at this
  rw [xA,Zks]
  simp only [List.append_assoc] at this ⊢
  exact this
theorem Z6a {ops:List EO} (hl:ops.length≤100000000):∃ b,Y9 ops=some b:=by
 have key:∀ (ys:List EO) (i:Nat),ops.drop i=ys→i≤ops.length→∃ r,Yx (Xq ops) (i:Int)=some r:=fun ys=>by
  induction ys with
  | nil =>
   intro i hd _
   have:ops.length≤i:=List.drop_eq_nil_iff.1 hd
   refine ⟨.inr (),Y7 ?_⟩
   unfold Xq
   rw [decide_eq_false (by omega),cond_false]
  | cons x ys ih =>
   intro i hd hi
   have hx:ops[i]? = some x:=by
    have:=congrArg (fun l=>l[0]?) hd
    simp only [List.getElem?_drop,Nat.add_zero,List.getElem?_cons_zero] at this
    exact this
   have hlt:i < ops.length:=(List.getElem?_eq_some_iff.1 hx).1
   by_cases hk:x.Kind=0
   ·have hs:Xq ops (i:Int)=some (.inl ((i+1:Nat):Int)):=by
     unfold Xq
     rw [decide_eq_true (by omega),cond_true,X5 hx,Option.bind_some]
     unfold fY
     rw [hk,Option.bind_some,show ((0:Int) != 0)=false from rfl,cond_false,gJ (by omega) (by omega)]
     rfl
    rw [Xg hs]
    exact ih (i+1) (by rw [← List.drop_drop,hd];rfl) (by omega)
   refine ⟨.inl (i:Int),Y7 ?_⟩
   unfold Xq
   rw [decide_eq_true (by omega),cond_true,X5 hx,Option.bind_some]
   unfold fY
   rw [Option.bind_some,show (x.Kind != 0)=true by simp [hk],cond_true]
 obtain ⟨r,hr⟩:=key ops 0 rfl (Nat.zero_le _)
 unfold Y9 Qt
 rw [show Yx (Xq ops) 0=_ from hr,Option.bind_some]
 cases r <;> exact ⟨_,rfl⟩
noncomputable def edE (k l:Int) (ws:List WE) (ks:List KE) (ops:List EO):Ed:=if ws.length+ks.length=0∧Y9 ops=some false then sJ else ⟨k,yV,yV,ws,ks,l,ops⟩
theorem Zo0 {k l:Int} {ws:List WE} {ks:List KE} {ops:List EO} {c:List Tr} {m:Zg} (h1:ws.length≤100000000) (h2:ks.length≤100000000) (h3:ops.length≤100000000) :
  Jg (SE k l ws ks ops c) m=some (edE k l ws ks ops,SE k l ws ks ops c,m):=by
 obtain ⟨b,hb⟩:=Z6a h3
 unfold Jg edE
 rw [show (SE k l ws ks ops c).left.Words=ws from rfl,show (SE k l ws ks ops c).left.Kids=ks from rfl,show (SE k l ws ks ops c).left.Ops=ops from rfl,hb,Option.bind_some,gJ (by omega) (by omega)]
 by_cases h:ws.length+ks.length=0
 ·rw [show ((ws.length:Int)+(ks.length:Int) == 0)=true from beq_iff_eq.2 (by omega)]
  cases b with
  | false=>rw [if_pos ⟨h,rfl⟩];rfl
  | true=>rw [if_neg (fun hh=>by cases hh.2)];rfl
 rw [show ((ws.length:Int)+(ks.length:Int) == 0)=false from beq_eq_false_iff_ne.2 (by omega),if_neg (fun hh=>h hh.1)]
 rfl
theorem Za3 {k l:Int} {ws:List WE} {ks:List KE} {ops:List EO} (hw:∀ w∈ws,wOk w) (hk:kGood ks) (ho:oGood ops) (h1:ws.length≤1048576) (h2:ks.length≤1048576) (h3:ops.length≤1048576) (hs:Jk ops≤1073741824):BE (edE k l ws ks ops)∧GN (edE k l ws ks ops):=by
 unfold edE
 split
 ·exact ⟨bB,vD⟩
 exact ⟨.mk _ xM xM (by simp only;omega) hw (by simp only;omega) (fun x hx=>(hk x hx).1) (by simp only;omega) (fun o h=>(ho o h).2.1) (fun o h=>(ho o h).2.2.1),.mk _ h1 h2 h3 hs (fun o h=>(ho o h).1) (fun x hx=>(hk x hx).2) (fun o h=>(ho o h).2.2.2)⟩
theorem Z8l {P:List EO} (h:∀ o∈P,OKo o) (hl:P.length≤1048576):CuN (P,0):=by
 refine ⟨⟨h,by simp only;omega,fun _=>rfl,fun _ _ _=>Nat.zero_le _⟩,fun o R e => ?_⟩
 have e':P=o::R:=e
 have:=(h o (by rw [e'];exact .head _)).pos
 show 0 < lX o
 omega
theorem Zad {P Q:List EO} {r:List Yw×Bool} (h:run (P,0) (Q,0) []=some r):Jp P Q=some r:=by
 unfold Jp dA
 rw [show Yx (X3 2 2) (P,0,Q,0,[])=some r from h,Option.bind_some,Option.bind_some]
theorem Zx9 {P Q:List EO} (hP:∀ o∈P,OKo o) (hQ:∀ o∈Q,OKo o) (h1:P.length≤1048576) (h2:Q.length≤1048576):(Jp P Q=some ([],false)∧Jp Q P=some ([],false)) ∨
  ∃ n u ps ps',Tw P Q n u ps ps'∧n≤P.length+Q.length∧u≤Jk P+Jk Q∧Jp P Q=some (ps,true)∧Jp Q P=some (ps',true):=by
 rcases Zrx P Q _ (P,0) (Q,0) (Nat.lt_succ_self _) (Z8l hP h1) (Z8l hQ h2) (fun o h=>h) (fun o h=>h) with h | ⟨n,u,ps,ps',a1,a2,a3,a4⟩
 ·have:=h [] (by simp only [List.length_nil];omega)
  exact .inl ⟨Zad this.1,Zad this.2⟩
 have:=a4 [] (by simp only [List.length_nil];omega)
 rw [List.nil_append,List.nil_append] at this
 exact .inr ⟨n,u,ps,ps',a1,a2,by unfold rem at a3;simp only at a3;omega,Zad this.1,Zad this.2⟩
theorem Yd8:opk ⟨0,1,[],sJ⟩ := .inl ⟨rfl,by decide⟩
theorem Z4s:oGood [⟨0,1,[],sJ⟩]:=fun o ho=>by
 rw [List.mem_singleton.1 ho]
 exact ⟨Yd8,⟨by simp,by simp⟩,bB,vD⟩
theorem Z7b {o:EO} (h:o.Kind=3):lX o=1:=by unfold lX;rw [if_neg (by omega),if_pos h]
theorem Z47 (o:EO):Jk [o]=lX o:=by unfold Jk;simp
theorem Zqy {e:Ed} (hb:BE e) (hg:GN e):oGood (dsL e)∧(dsL e).length≤1∧Jk (dsL e)=1:=by
 unfold dsL
 split
 ·exact ⟨Z4s,by simp,rfl⟩
 refine ⟨fun o ho => ?_,by simp,by rw [Z47];exact Z7b rfl⟩
 rw [List.mem_singleton.1 ho]
 exact ⟨.inr (.inr (.inr rfl)),⟨by simp,by simp⟩,hb,hg⟩
theorem Zsb {x y:EO} (hx:oGood [x]):oGood (stL x y)∧(stL x y).length≤1∧Jk (stL x y)≤lX x+lX y:=by
 unfold stL
 split
 ·exact ⟨hx,by simp,by rw [Z47];omega⟩
 split
 ·rename_i h
  refine ⟨Z4s,by simp,?_⟩
  rw [Z7b h.2,show Jk [(⟨0,1,[],sJ⟩:EO)]=1 from rfl]
  omega
 exact ⟨tM,by simp,by rw [show Jk []=0 from rfl];omega⟩
theorem Z2f {ι:Type} {rm:ι→RM} {r2 r3:ι→RM} {r4:ι→Zi→Zi→List KE→List KE→Zg→Option (Zi×Zi×Zg)} {r5:ι→RB} {L:Int} {x y:EO} (gx:oGood [x]) (gy:oGood [y]) (lx:x.L.length≤2000000000) (ly:y.L.length≤2000000000)
  (h33:x.Kind=3→y.Kind=3→Mv rm x.E y.E) (h13:x.Kind=1→y.Kind=3→∃ t r u,x.L=t::r∧J3 y.E t=some u) (h31:y.Kind=1→x.Kind=3→∃ t r u,y.L=t::r∧J3 x.E t=some u) :
  Bt (fun i=>Jt (rm i) (r2 i) (r3 i) (r4 i) (r5 i)) L x y:=by
 by_cases h:x.Kind=3∧y.Kind=3
 ·obtain ⟨u,v,f,m1,m2,bu,gu,bv,gv⟩:=h33 h.1 h.2
  obtain ⟨a1,a2,a3⟩:=Zqy bu gu
  obtain ⟨b1,b2,b3⟩:=Zqy bv gv
  have tx:=Z7b h.1
  refine ⟨dsL u,dsL v,f,fun i ops ops' m l1 l2 => ?_,fun i ops ops' m l1 l2 => ?_,a1,b1,a2,b2,by omega,by omega⟩
  ·dsimp only
   unfold Jt
   rw [h.1,h.2,show ((3:Int) == 3)=true from rfl,cond_true,cond_true,m1 i,Option.bind_some]
   refine (congrArg (fun z=>Option.bind z _) (Zoz (k:=3) (l:=L) (ws:=[]) (ks:=[]) (ops:=ops) (c:=[]) (by omega) u)).trans ?_
   rw [Option.bind_some]
   refine (congrArg (fun z=>Option.bind z _) (Zoz (k:=3) (l:=L) (ws:=[]) (ks:=[]) (ops:=ops') (c:=[]) (by omega) v)).trans ?_
   rfl
  dsimp only
  unfold Jt
  rw [h.1,h.2,show ((3:Int) == 3)=true from rfl,cond_true,cond_true,m2 i,Option.bind_some]
  refine (congrArg (fun z=>Option.bind z _) (Zoz (k:=3) (l:=L) (ws:=[]) (ks:=[]) (ops:=ops) (c:=[]) (by omega) v)).trans ?_
  rw [Option.bind_some]
  refine (congrArg (fun z=>Option.bind z _) (Zoz (k:=3) (l:=L) (ws:=[]) (ks:=[]) (ops:=ops') (c:=[]) (by omega) u)).trans ?_
  rfl
 obtain ⟨a1,a2,a3⟩:=Zsb (x:=x) (y:=y) gx
 obtain ⟨b1,b2,b3⟩:=Zsb (x:=y) (y:=x) gy
 have bx:=(gx x (.head _)).2.1.2
 have by':=(gy y (.head _)).2.1.2
 have c1:cond (x.Kind == 3) (y.Kind == 3) false=false:=by
  rcases Decidable.em (x.Kind=3) with g | g
  ·rw [show (x.Kind == 3)=true from beq_iff_eq.2 g,cond_true];exact beq_eq_false_iff_ne.2 fun hh=>h ⟨g,hh⟩
  rw [show (x.Kind == 3)=false from beq_eq_false_iff_ne.2 g,cond_false]
 have c2:cond (y.Kind == 3) (x.Kind == 3) false=false:=by
  rcases Decidable.em (y.Kind=3) with g | g
  ·rw [show (y.Kind == 3)=true from beq_iff_eq.2 g,cond_true];exact beq_eq_false_iff_ne.2 fun hh=>h ⟨hh,g⟩
  rw [show (y.Kind == 3)=false from beq_eq_false_iff_ne.2 g,cond_false]
 have s1:∀ ops m,ops.length≤50000000→Vp (SL L ops []) x y m=some (SL L (ops++stL x y) [],bU m (stF x y)):=fun ops m hl=>Z1e m (by omega) bx by' (by omega) h13
 have s2:∀ ops m,ops.length≤50000000→Vp (SL L ops []) y x m=some (SL L (ops++stL y x) [],bU m (stF y x)):=fun ops m hl=>Z1e m (by omega) by' bx (by omega) h31
 refine ⟨stL x y,stL y x,orF (stF x y) (stF y x),fun i ops ops' m l1 l2 => ?_,fun i ops ops' m l1 l2 => ?_,a1,b1,a2,b2,by omega,by omega⟩
 ·dsimp only
  unfold Jt
  rw [c1,cond_false,s1 ops m l1,Option.bind_some]
  simp only
  rw [s2 ops' _ l2,Option.bind_some,xA]
 dsimp only
 unfold Jt
 rw [c2,cond_false,s2 ops m l1,Option.bind_some]
 simp only
 rw [s1 ops' _ l2,Option.bind_some,xA,Zrv]
theorem Zz6 {ι:Type} {r1 r2 r3:ι→RM} {r4:ι→Zi→Zi→List KE→List KE→Zg→Option (Zi×Zi×Zg)} {rb:ι→RB} {p q:Ed} (kp:p.Kind=3) (kq:q.Kind=3) (hL:p.List_=q.List_)
  (hP:∀ o∈p.Ops,OKo o) (hQ:∀ o∈q.Ops,OKo o) (bP:∀ o∈p.Ops,∀ t∈o.L,Bd t) (bQ:∀ o∈q.Ops,∀ t∈o.L,Bd t) (h1:p.Ops.length≤100000) (h2:q.Ops.length≤100000) (s1:Jk p.Ops≤100000000) (s2:Jk q.Ops≤100000000)
  (hb:∀ x y,Zf4 p.Ops x→Zf4 q.Ops y→Bt rb p.List_ x y):Mv (fun i=>Jd (r1 i) (r2 i) (r3 i) (r4 i) (rb i)) p q:=by
 have fin:∀ (oa ob:List EO) (ca cb:List Tr) (m:Zg),oa.length≤50000000→ob.length≤50000000→(∀ t∈ca,Bd t)→(∀ t∈cb,Bd t)→ca.length≤2000000000 →
   ((K4 (SL p.List_ oa ca) (SL p.List_ ob cb) m).bind fun Uv=>(Jg (⟨(none:Option Zg),⟨Uv.1.left.Kind,Uv.1.left.Old,Uv.1.left.New,Uv.1.left.Words,Uv.1.left.Kids,Uv.1.left.List_,Uv.1.left.Ops⟩,Uv.1.come⟩:Zi) Uv.2.2).bind fun Ztj=>(Jg (⟨(none:Option Zg),⟨Uv.2.1.left.Kind,Uv.2.1.left.Old,Uv.2.1.left.New,Uv.2.1.left.Words,Uv.2.1.left.Kids,Uv.2.1.left.List_,Uv.2.1.left.Ops⟩,Uv.2.1.come⟩:Zi) Ztj.2.2).bind fun Zd9=>some (Ztj.1,Zd9.1,Zd9.2.2))
    = some (edE 3 p.List_ [] [] (oa++gpL ca cb),edE 3 p.List_ [] [] (ob++gpL cb ca),bU m (gpF ca cb)):=fun oa ob ca cb m la lb ha hb' hc=>by
  have g1:=Zcu ca cb
  have g2:=Zcu cb ca
  have hg:K4 (SL p.List_ oa ca) (SL p.List_ ob cb) m=some (SL p.List_ (oa++gpL ca cb) [],SL p.List_ (ob++gpL cb ca) [],bU m (gpF ca cb)):=Z4m m (by omega) (by omega) ha hb' (by omega)
  rw [hg,Option.bind_some]
  refine (congrArg (fun z=>Option.bind z _) (Zo0 (k:=3) (l:=p.List_) (ws:=[]) (ks:=[]) (ops:=oa++gpL ca cb) (c:=[]) (m:=bU m (gpF ca cb)) (by simp) (by simp) (by rw [List.length_append];omega))).trans ?_
  rw [Option.bind_some]
  refine (congrArg (fun z=>Option.bind z _) (Zo0 (k:=3) (l:=p.List_) (ws:=[]) (ks:=[]) (ops:=ob++gpL cb ca) (c:=[]) (m:=bU m (gpF ca cb)) (by simp) (by simp) (by rw [List.length_append];omega))).trans ?_
  rfl
 have sp:Jf p=some (SL p.List_ [] []):=by
  show some (SE p.Kind p.List_ [] [] [] [])=_
  rw [kp];rfl
 have sq:Jf q=some (SL p.List_ [] []):=by
  show some (SE q.Kind q.List_ [] [] [] [])=_
  rw [kq,← hL];rfl
 rcases Zx9 hP hQ (by omega) (by omega) with ⟨t1,t2⟩ | ⟨n,w,ps,ps',tw,hn,hw,t1,t2⟩
 ·have go:∀ (i:ι) (a b:Ed) (m:Zg),Jp a.Ops b.Ops=some ([],false)→Jf a=some (SL p.List_ [] [])→Jf b=some (SL p.List_ [] [])→Jd (r1 i) (r2 i) (r3 i) (r4 i) (rb i) a b m=some (edE 3 p.List_ [] [] [],edE 3 p.List_ [] [] [],bU m (true,false)):=fun i a b m t sa sb=>by
   unfold Jd
   rw [t,Option.bind_some,sa,Option.bind_some,sb,Option.bind_some]
   have hr:Yx (Xx (rb i) (([]:List Yw),false)) (0,SL p.List_ [] [],SL p.List_ [] [],cond m.apart true (!false),m.clash)=some (Zuc (SL p.List_ [] []) (SL p.List_ [] []) (bU m (true,false))):=by
    refine Y7 ?_
    unfold Xx bU Zuc
    cases m with
    | mk x y=>cases x <;> cases y <;> rfl
   refine (congrArg (fun z=>Option.bind z _) hr).trans ?_
   rw [Option.bind_some]
   have hf:=fin [] [] [] [] (bU m (true,false)) (by simp) (by simp) (fun t ht=>by cases ht) (fun t ht=>by cases ht) (by simp)
   rw [show gpF [] []=f00 from rfl,Zao] at hf
   exact hf
  obtain ⟨e1,e2⟩:=Za3 (k:=3) (l:=p.List_) (ws:=[]) (ks:=[]) (ops:=[]) (fun w hw=>by cases hw) (fun x hx=>by cases hx) tM (by simp) (by simp) (by simp) (by rw [show Jk []=0 from rfl];omega)
  exact ⟨_,_,(true,false),fun i m=>go i p q m t1 sp sq,fun i m=>go i q p m t2 sq sp,e1,e2,e1,e2⟩
 obtain ⟨oa,ob,ca,cb,f,i1,i2,i3,i4,i5,i6,i7,i8,i9,i10⟩:=Z22 (L:=p.List_) tw bP bQ hb (by omega)
 have hpl:ps.length≤100000000∧ps'.length≤100000000:=by
  have:∀ {P Q:List EO} {n w:Nat} {a b:List Yw},Tw P Q n w a b→a.length≤n∧b.length≤n:=fun h=>by
   induction h with
   | fin ia ib _ _=>simp only [F1,S2,List.length_append,List.length_map];omega
   | both ia ib x y n w r r' _ _ _ _ _ ih=>simp only [F1,S2,List.length_append,List.length_map,List.length_cons];omega
  have:=this tw
  omega
 have go:∀ (i:ι) (a b:Ed) (pp:List Yw) (xa xb:List EO) (da db:List Tr) (m:Zg),Jp a.Ops b.Ops=some (pp,true)→Jf a=some (SL p.List_ [] [])→Jf b=some (SL p.List_ [] [])→pp.length≤100000000→LT (rb i) pp (SL p.List_ [] []) (SL p.List_ [] []) m (Zuc (SL p.List_ xa da) (SL p.List_ xb db) (bU m f)) →
   xa.length≤50000000→xb.length≤50000000→(∀ t∈da,Bd t)→(∀ t∈db,Bd t)→da.length≤2000000000→Jd (r1 i) (r2 i) (r3 i) (r4 i) (rb i) a b m=some (edE 3 p.List_ [] [] (xa++gpL da db),edE 3 p.List_ [] [] (xb++gpL db da),bU m (orF f (gpF da db))):=fun i a b pp xa xb da db m t sa sb hp hlt l1 l2 hda hdb hdl=>by
  unfold Jd
  rw [t,Option.bind_some,sa,Option.bind_some,sb,Option.bind_some]
  have hr:Yx (Xx (rb i) (pp,true)) (0,SL p.List_ [] [],SL p.List_ [] [],cond m.apart true (!true),m.clash)=some (Zuc (SL p.List_ xa da) (SL p.List_ xb db) (bU m f)):=by
   rw [show cond m.apart true (!true)=m.apart by cases m.apart <;> rfl]
   exact hlt pp 0 rfl (Nat.zero_le _) hp
  refine (congrArg (fun z=>Option.bind z _) hr).trans ?_
  rw [Option.bind_some]
  have hf:=fin xa xb da db (bU m f) l1 l2 hda hdb hdl
  rw [xA] at hf
  exact hf
 have g1:=Zcu ca cb
 have g2:=Zcu cb ca
 have q1:=Zjq ca cb
 have q2:=Zjq cb ca
 obtain ⟨e1,e2⟩:=Za3 (k:=3) (l:=p.List_) (ws:=[]) (ks:=[]) (ops:=oa++gpL ca cb) (fun w hw=>by cases hw) (fun x hx=>by cases hx) (i3.app (Ze3 i5 (by omega))) (by simp) (by simp) (by rw [List.length_append];omega) (by rw [xU];omega)
 obtain ⟨e3,e4⟩:=Za3 (k:=3) (l:=p.List_) (ws:=[]) (ks:=[]) (ops:=ob++gpL cb ca) (fun w hw=>by cases hw) (fun x hx=>by cases hx) (i4.app (Ze3 i6 (by omega))) (by simp) (by simp) (by rw [List.length_append];omega) (by rw [xU];omega)
 refine ⟨_,_,orF f (gpF ca cb),fun i m=>go i p q ps oa ob ca cb m t1 sp sq hpl.1 (i1 i [] [] m (by simp only [List.length_nil];omega) (by simp only [List.length_nil];omega)) (by omega) (by omega) i5 i6 (by omega),fun i m => ?_,e1,e2,e3,e4⟩
 have:=go i q p ps' ob oa cb ca m t2 sq sp hpl.2 (i2 i [] [] m (by simp only [List.length_nil];omega) (by simp only [List.length_nil];omega)) (by omega) (by omega) i6 i5 (by omega)
 rw [Zks cb ca] at this
 exact this
abbrev RK:=Zi→Zi→List KE→List KE→Zg→Option (Zi×Zi×Zg)
def Mk {ι:Type} (rk:ι→RK) (p q:List KE):Prop:=∃ pa qa f,(∀ (k l k' l':Int) (ws ws':List WE) (ops ops':List EO) (c c':List Tr) (m:Zg) (i:ι),rk i (SE k l ws [] ops c) (SE k' l' ws' [] ops' c') p q m=some (SE k l ws pa ops c,SE k' l' ws' qa ops' c',bU m f)) ∧
 (∀ (k l k' l':Int) (ws ws':List WE) (ops ops':List EO) (c c':List Tr) (m:Zg) (i:ι),rk i (SE k l ws [] ops c) (SE k' l' ws' [] ops' c') q p m=some (SE k l ws qa ops c,SE k' l' ws' pa ops' c',bU m f))∧kGood pa∧kGood qa∧pa.length≤1048576∧qa.length≤1048576
theorem Z2x {ι:Type} {rm r2 r3:ι→RM} {r4:ι→RK} {r5:ι→RB} {p q:List KE} (hp:p.length≤1048576) (hq:q.length≤1048576) (gp:kGood p) (gq:kGood q) (hm:∀ x∈p,∀ y∈q,Mv rm x.E y.E):Mk (fun i=>V0 (rm i) (r2 i) (r3 i) (r4 i) (r5 i)) p q:=by
 obtain ⟨pa,qa,f,h1,h2,h3,h4,h5,h6⟩:=Zhx (rm:=rm) _ p q (Nat.lt_succ_self _) hp hq gp gq hm
 refine ⟨pa,qa,f,fun k l k' l' ws ws' ops ops' c c' m i => ?_,fun k l k' l' ws ws' ops ops' c c' m i => ?_,h3,h4,by omega,by omega⟩
 ·dsimp only
  unfold V0
  refine (congrArg (fun z=>Option.bind z _) (h1 i k l k' l' ws ws' [] [] ops ops' c c' m (by simp only [List.length_nil];omega) (by simp only [List.length_nil];omega))).trans ?_
  rfl
 dsimp only
 unfold V0
 refine (congrArg (fun z=>Option.bind z _) (h2 i k l k' l' ws ws' [] [] ops ops' c c' m (by simp only [List.length_nil];omega) (by simp only [List.length_nil];omega))).trans ?_
 rfl
theorem Zup {ι:Type} {r1 r2 r3:ι→RM} {rk:ι→RK} {r5:ι→RB} {p q:Ed} (kp:p.Kind=2) (kq:q.Kind=2) (hW:PW p.Words) (hV:PW q.Words) (oW:∀ w∈p.Words,wOk w) (oV:∀ w∈q.Words,wOk w) (lW1:p.Words.length≤1048576) (lV1:q.Words.length≤1048576) (hk:Mk rk p.Kids q.Kids) :
  Mv (fun i=>K1 (r1 i) (r2 i) (r3 i) (rk i) (r5 i)) p q:=by
 obtain ⟨pa,qa,f,k1,k2,k3,k4,k5,k6⟩:=hk
 obtain ⟨w1,w2⟩:=Zz0 p.Words q.Words oW
 obtain ⟨v1,v2⟩:=Zz0 q.Words p.Words oV
 have hc:=Z2y hW hV
 have go:∀ (i:ι) (a b:Ed) (xa xb:List KE) (m:Zg),a.Words.length≤1048576→b.Words.length≤1048576→(lW a.Words b.Words).1.length≤1048576→(lW b.Words a.Words).1.length≤1048576→xa.length≤1048576→xb.length≤1048576 →
   (∀ (k l k' l':Int) (ws ws':List WE) (ops ops':List EO) (c c':List Tr) (m:Zg) (i:ι),rk i (SE k l ws [] ops c) (SE k' l' ws' [] ops' c') a.Kids b.Kids m=some (SE k l ws xa ops c,SE k' l' ws' xb ops' c',bU m f)) →
   K1 (r1 i) (r2 i) (r3 i) (rk i) (r5 i) a b m=some (edE a.Kind a.List_ (lW a.Words b.Words).1 xa [],edE b.Kind b.List_ (lW b.Words a.Words).1 xb [],bU m (orF (orF (lW a.Words b.Words).2 (lW b.Words a.Words).2) f)):=fun i a b xa xb m l1 l2 l3 l4 l5 l6 h=>by
  unfold K1
  rw [show Jf a=some (SE a.Kind a.List_ [] [] [] []) from rfl,Option.bind_some,show Jf b=some (SE b.Kind b.List_ [] [] [] []) from rfl,Option.bind_some,Zwk l1 l2,Option.bind_some]
  simp only
  rw [Zwk l2 l1,Option.bind_some]
  simp only
  rw [h,Option.bind_some]
  refine (congrArg (fun z=>Option.bind z _) (Zo0 (k:=a.Kind) (l:=a.List_) (ws:=(lW a.Words b.Words).1) (ks:=xa) (ops:=[]) (c:=[]) (by omega) (by omega) (by simp))).trans ?_
  rw [Option.bind_some]
  refine (congrArg (fun z=>Option.bind z _) (Zo0 (k:=b.Kind) (l:=b.List_) (ws:=(lW b.Words a.Words).1) (ks:=xb) (ops:=[]) (c:=[]) (by omega) (by omega) (by simp))).trans ?_
  rw [Option.bind_some,xA,xA,Zxy]
 obtain ⟨e1,e2⟩:=Za3 (k:=p.Kind) (l:=p.List_) (ops:=[]) w1 k3 tM (by omega) k5 (by simp) (by rw [show Jk []=0 from rfl];omega)
 obtain ⟨e3,e4⟩:=Za3 (k:=q.Kind) (l:=q.List_) (ops:=[]) v1 k4 tM (by omega) k6 (by simp) (by rw [show Jk []=0 from rfl];omega)
 refine ⟨_,_,_,fun i m=>go i p q pa qa m lW1 lV1 (by omega) (by omega) k5 k6 k1,fun i m => ?_,e1,e2,e3,e4⟩
 have:=go i q p qa pa m lV1 lW1 (by omega) (by omega) k6 k5 k2
 rw [Zrv (lW q.Words p.Words).2] at this
 exact this
def RpF (p q:Ed) (f:FF):Prop:=∀ m,Gb p q m=some (bU m f)
theorem Zd5 {p q:Ed} {u:Tr×Bool} (h:J3 q p.Old=some u) (hu:Bd u.1) (hn:Bd p.New):RpF p q (!u.2,u.2 && !eqT (nrm u.1) (nrm p.New)):=fun m=>by
 unfold Gb bU
 rw [h,Option.bind_some,Zkh hu hn,Option.bind_some]
 cases m with
 | mk a c =>
  cases u.2 <;> cases eqT (nrm u.1) (nrm p.New) <;> cases a <;> cases c <;> rfl
theorem Zqz (e:Ed):(⟨e.Kind,⟨e.Old.Kind,e.Old.Words,e.Old.Kids⟩,⟨e.New.Kind,e.New.Words,e.New.Kids⟩,e.Words,e.Kids,e.List_,e.Ops⟩:Ed)=e:=by
 obtain ⟨k,⟨a,b,c⟩,⟨d,f,g⟩,w,ks,li,os⟩:=e
 rfl
theorem Zh5 (a b:Ed) (m:Zg):some ((⟨a.Kind,⟨a.Old.Kind,a.Old.Words,a.Old.Kids⟩,⟨a.New.Kind,a.New.Words,a.New.Kids⟩,a.Words,a.Kids,a.List_,a.Ops⟩:Ed),(⟨b.Kind,⟨b.Old.Kind,b.Old.Words,b.Old.Kids⟩,⟨b.New.Kind,b.New.Words,b.New.Kids⟩,b.Words,b.Kids,b.List_,b.Ops⟩:Ed),m)=some (a,b,m):=by rw [Zqz,Zqz]
theorem Zw3 {q:Ed} {t:Tr} (hb:BE q) (ht:Bd t) (k1:q.Kind=1):gM q t=some (q.New,eqT (nrm t) (nrm q.Old)):=cA 1 fun k hk=>by
 obtain ⟨k,rfl⟩:∃ j,k=j+1:=⟨k - 1,by omega⟩
 show pZ (Yh k).1 (Yh k).2.1 (Yh k).2.2.1 (Yh k).2.2.2.1 (Yh k).2.2.2.2 q t=_
 unfold pZ
 rw [k1,show ((1:Int) == 0)=false from rfl,cond_false,show ((1:Int) == 1)=true from rfl,cond_true,Zkh ht hb.old,Option.bind_some]
theorem Zw6 {q:Ed} {t:Tr} (hb:BE q) (ht:Bd t) (k1:q.Kind=1):∃ u,J3 q t=some u∧Bd u.1∧u.2=eqT (nrm t) (nrm q.Old)∧(u.2=true→u.1=nrm q.New):=by
 unfold J3
 rw [Zw3 hb ht k1,Option.bind_some]
 simp only
 cases eqT (nrm t) (nrm q.Old) with
 | false=>exact ⟨(yV,false),rfl,xM,rfl,fun h=>by cases h⟩
 | true =>
  rw [Bool.not_true,cond_false,Zfm hb.new,Option.bind_some]
  exact ⟨(nrm q.New,true),rfl,hb.new.nrm,rfl,fun _=>rfl⟩
theorem Zq0 (a b:Tr):eqT a b=eqT b a:=by rw [Bool.eq_iff_iff,eqT_iff,eqT_iff];exact eq_comm
def rrF (p q:Ed):FF:=(!eqT (nrm p.Old) (nrm q.Old),eqT (nrm p.Old) (nrm q.Old) && !eqT (nrm q.New) (nrm p.New))
theorem Z05 (p q:Ed):rrF p q=rrF q p:=by unfold rrF;rw [Zq0 (nrm p.Old),Zq0 (nrm q.New)]
theorem Zv4 {p q:Ed} (hp:BE p) (hq:BE q) (kq:q.Kind=1):RpF p q (rrF p q):=by
 obtain ⟨u,h1,h2,h3,h4⟩:=Zw6 hq hp.old kq
 have h:=Zd5 h1 h2 hp.new
 have e:(!u.2,u.2 && !eqT (nrm u.1) (nrm p.New))=rrF p q:=by
  unfold rrF
  rw [← h3]
  cases hu:u.2 with
  | false=>rfl
  | true=>rw [h4 hu,Zfn]
 rw [e] at h
 exact h
theorem Z27 {ι:Type} {rm rs rl:ι→RM} {rk:ι→RK} {rb:ι→RB} {p q:Ed} (bp:BE p) (gp:GN p) (bq:BE q) (gq:GN q) (a1:p.Kind=1→q.Kind≠0→q.Kind≠1→∃ u,J3 q p.Old=some u∧Bd u.1) (a2:q.Kind=1→p.Kind≠0→p.Kind≠1→∃ u,J3 p q.Old=some u∧Bd u.1)
  (hs:p.Kind=2→q.Kind=2→Mv rs p q) (hl:p.Kind=3→q.Kind=3→p.List_=q.List_→Mv rl p q):Mv (fun i=>Xo (rm i) (rs i) (rl i) (rk i) (rb i)) p q:=by
 have bf:∀ {a b:Int},¬ a=b→(a == b)=false:=fun h=>beq_eq_false_iff_ne.2 h
 have bt:∀ {a b:Int},a=b→(a == b)=true:=fun h=>beq_iff_eq.2 h
 by_cases k0:p.Kind=0∨q.Kind=0
 ·have c1:cond (p.Kind == 0) true (q.Kind == 0)=true:=by
   rcases k0 with h | h
   ·rw [bt h,cond_true]
   rw [bt h];cases p.Kind == 0 <;> rfl
  have c2:cond (q.Kind == 0) true (p.Kind == 0)=true:=by
   rcases k0 with h | h
   ·rw [bt h];cases q.Kind == 0 <;> rfl
   rw [bt h,cond_true]
  refine ⟨p,q,f00,fun i m => ?_,fun i m => ?_,bp,gp,bq,gq⟩
  ·dsimp only
   unfold Xo
   rw [c1,Zao]
   exact Zh5 p q m
  dsimp only
  unfold Xo
  rw [c2,Zao]
  exact Zh5 q p m
 have p0:¬ p.Kind=0:=fun h=>k0 (.inl h)
 have q0:¬ q.Kind=0:=fun h=>k0 (.inr h)
 -- a replacement on one side, or on both
 have Z3c:∀ (a b:Ed) (f:FF),a.Kind=1→¬ b.Kind=0→RpF a b f→∀ i m,Xo (rm i) (rs i) (rl i) (rk i) (rb i) a b m=some (sJ,sJ,bU m f):=fun a b f ka kb h i m=>by
  unfold Xo
  rw [ka,bf kb,h m]
  rfl
 have Yba:∀ (a b:Ed) (f:FF),b.Kind=1→¬ a.Kind=0→¬ a.Kind=1→RpF b a f→∀ i m,Xo (rm i) (rs i) (rl i) (rk i) (rb i) a b m=some (sJ,sJ,bU m f):=fun a b f kb ka ka1 h i m=>by
  have h':sZ b a m=some (bU m f):=h m
  unfold Xo
  rw [bf ka,bf ka1,kb,h']
  rfl
 by_cases p1:p.Kind=1
 ·by_cases q1:q.Kind=1
  ·exact ⟨sJ,sJ,rrF p q,fun i m=>Z3c p q _ p1 q0 (Zv4 bp bq q1) i m,fun i m=>by rw [Z05];exact Z3c q p _ q1 p0 (Zv4 bq bp p1) i m,bB,vD,bB,vD⟩
  obtain ⟨u,h1,h2⟩:=a1 p1 q0 q1
  have h:=Zd5 h1 h2 bp.new
  exact ⟨sJ,sJ,_,fun i m=>Z3c p q _ p1 q0 h i m,fun i m=>Yba q p _ p1 q0 q1 h i m,bB,vD,bB,vD⟩
 by_cases q1:q.Kind=1
 ·obtain ⟨u,h1,h2⟩:=a2 q1 p0 p1
  have h:=Zd5 h1 h2 bq.new
  exact ⟨sJ,sJ,_,fun i m=>Yba p q _ q1 p0 p1 h i m,fun i m=>Z3c q p _ q1 p0 h i m,bB,vD,bB,vD⟩
 by_cases k2:p.Kind=2∧q.Kind=2
 ·obtain ⟨u,v,f,m1,m2,g⟩:=hs k2.1 k2.2
  refine ⟨u,v,f,fun i m => ?_,fun i m => ?_,g⟩
  ·dsimp only
   unfold Xo
   rw [m1 i m,k2.1,k2.2]
   exact Zh5 u v (bU m f)
  dsimp only
  unfold Xo
  rw [m2 i m,k2.1,k2.2]
  exact Zh5 v u (bU m f)
 by_cases k3:(p.Kind=3∧q.Kind=3)∧p.List_=q.List_
 ·obtain ⟨u,v,f,m1,m2,g⟩:=hl k3.1.1 k3.1.2 k3.2
  refine ⟨u,v,f,fun i m => ?_,fun i m => ?_,g⟩
  ·dsimp only
   unfold Xo
   rw [m1 i m,k3.1.1,k3.1.2,bt k3.2]
   exact Zh5 u v (bU m f)
  dsimp only
  unfold Xo
  rw [m2 i m,k3.1.1,k3.1.2,bt k3.2.symm]
  exact Zh5 v u (bU m f)
 have off:∀ (a b:Ed),¬ a.Kind=0→¬ b.Kind=0→¬ a.Kind=1→¬ b.Kind=1→¬ (a.Kind=2∧b.Kind=2)→¬ ((a.Kind=3∧b.Kind=3)∧a.List_=b.List_)→∀ i m,Xo (rm i) (rs i) (rl i) (rk i) (rb i) a b m=some (sJ,sJ,bU m (true,false)):=fun a b h1 h2 h3 h4 h5 h6 i m=>by
  have c2:cond (a.Kind == 2) (b.Kind == 2) false=false:=by
   by_cases g:a.Kind=2
   ·rw [bt g,cond_true];exact bf fun hh=>h5 ⟨g,hh⟩
   rw [bf g,cond_false]
  have c3:cond (cond (a.Kind == 3) (b.Kind == 3) false) (a.List_ == b.List_) false=false:=by
   by_cases g:a.Kind=3
   ·by_cases g':b.Kind=3
    ·rw [bt g,bt g',cond_true,cond_true];exact bf fun hh=>h6 ⟨⟨g,g'⟩,hh⟩
    rw [bt g,bf g',cond_true,cond_false]
   rw [bf g,cond_false,cond_false]
  unfold Xo
  rw [bf h1,bf h2,bf h3,bf h4,c2,c3]
  unfold bU
  cases m with
  | mk x y=>cases x <;> cases y <;> rfl
 exact ⟨sJ,sJ,(true,false),fun i m=>off p q p0 q0 p1 q1 k2 k3 i m,fun i m=>off q p q0 p0 q1 p1 (fun h=>k2 ⟨h.2,h.1⟩) (fun h=>k3 ⟨⟨h.1.2,h.1.1⟩,h.2.symm⟩) i m,bB,vD,bB,vD⟩
inductive EP:Ed→Prop
 | mk (e:Ed) (hb:BE e) (hg:GN e) (hx:RX e) (hw:e.Kind=2→PW e.Words) (hn:e.Ops.length≤100000) (hs:Jk e.Ops≤100000000) (ho:MB e.Old) (hl:∀ o∈e.Ops,∀ t∈o.L,MB t) (ks:∀ k∈e.Kids,EP k.E) (os:∀ o∈e.Ops,o.Kind=3→EP o.E):EP e
theorem EP.b {e:Ed} (h:EP e):BE e:=by cases h;assumption
theorem EP.g {e:Ed} (h:EP e):GN e:=by cases h;assumption
theorem EP.x {e:Ed} (h:EP e):RX e:=by cases h;assumption
theorem EP.w {e:Ed} (h:EP e):e.Kind=2→PW e.Words:=by cases h;assumption
theorem EP.n {e:Ed} (h:EP e):e.Ops.length≤100000:=by cases h;assumption
theorem EP.s {e:Ed} (h:EP e):Jk e.Ops≤100000000:=by cases h;assumption
theorem EP.o {e:Ed} (h:EP e):MB e.Old:=by cases h;assumption
theorem EP.l {e:Ed} (h:EP e):∀ o∈e.Ops,∀ t∈o.L,MB t:=by cases h;assumption
theorem EP.ks {e:Ed} (h:EP e):∀ k∈e.Kids,EP k.E:=by cases h;assumption
theorem EP.os {e:Ed} (h:EP e):∀ o∈e.Ops,o.Kind=3→EP o.E:=by cases h;assumption
theorem Zos {e:Ed} {t:Tr} (h:CA e t):∃ u,J3 e t=some u∧Bd u.1:=by
 have:=Zyp h
 cases hu:ap e (nrm t) with
 | none=>rw [hu] at this;exact ⟨_,this,xM⟩
 | some u=>rw [hu] at this;exact ⟨_,this,Zyo h hu⟩
theorem EP.ok {e:Ed} (h:EP e):∀ o∈e.Ops,OKo o:=fun o ho=>⟨h.g.p o ho,by
 have:=yF (f:=lX) ho
 have:=h.g.s
 unfold Jk at this
 omega⟩
theorem CA.ep {e:Ed} {t:Tr} (h:EP e) (ht:Bd t) (hp:MB t):CA e t:=⟨h.x,h.b,h.g,hp,ht⟩
theorem EP.nl {e:Ed} (h:EP e) (k:e.Kind=3):∀ o∈e.Ops,o.Kind=0∨o.Kind=3→o.L=[]:=by
 have hx:=h.x
 cases hx with
 | same _ h=>omega
 | repl _ h=>omega
 | st _ h=>omega
 | li _ _ _ _ hN _=>exact hN
theorem EP.prt {e:Ed} (h:EP e) (k:e.Kind=3) {x:EO} (hx:Zf4 e.Ops x):oGood [x]∧x.L.length≤2000000000∧(x.Kind=3→EP x.E∧SizeOf.sizeOf x.E < SizeOf.sizeOf e)∧(x.Kind=1→∃ t r,x.L=t::r∧Bd t∧MB t):=by
 obtain ⟨ox,nx2,z,hz,zk,ze,zl,zn⟩:=hx
 have hb:=h.b.l z hz
 have hlen:x.L.length≤2000000000:=by
  rcases h.g.p z hz with ⟨a,_⟩ | ⟨a,_⟩ | ⟨a,_⟩ | a
  ·have:=h.nl k z hz (.inl a);rw [this] at zn;simp at zn;rw [zn];simp
  ·have h1:=yF (f:=lX) hz
   have h2:=h.s
   have ht:lX z=z.L.length:=by unfold lX;rw [if_neg (by omega),if_neg (by omega)]
   unfold Jk at h2
   omega
  ·omega
  have:=h.nl k z hz (.inr a);rw [this] at zn;simp at zn;rw [zn];simp
 refine ⟨fun o ho => ?_,hlen,fun k3=>⟨by rw [ze];exact h.os z hz (by omega),by rw [ze];exact tV hz⟩,fun k1 => ?_⟩
 ·rw [List.mem_singleton.1 ho]
  exact ⟨ox,⟨by omega,fun t ht=>hb.2 t (zl t ht)⟩,by rw [ze];exact h.b.os z hz,by rw [ze];exact h.g.os z hz⟩
 rcases ox with ⟨a,_⟩ | ⟨_,hne⟩ | ⟨a,_⟩ | a
 ·omega
 ·cases hL:x.L with
  | nil=>exact absurd hL hne
  | cons t r =>
   have ht:t∈z.L:=zl t (by rw [hL];exact .head _)
   exact ⟨t,r,rfl,hb.2 t ht,h.l z hz t ht⟩
 ·omega
 omega
theorem Mv.sub {ι κ:Type} {rm:ι→RM} {e g:Ed} (h:Mv rm e g) (φ:κ→ι):Mv (fun j=>rm (φ j)) e g:=by
 obtain ⟨u,v,f,h1,h2,h3⟩:=h
 exact ⟨u,v,f,fun j m=>h1 (φ j) m,fun j m=>h2 (φ j) m,h3⟩
theorem Z0g:∀ (n:Nat) (p q:Ed),SizeOf.sizeOf p+SizeOf.sizeOf q < n→EP p→EP q→Mv (fun K:Nat=>(Zp (K+4 * n)).1) p q
 | 0,_,_,h,_,_=>by omega
 | n+1,p,q,hn,hp,hq=>by
  have ih:∀ (x y:Ed),SizeOf.sizeOf x+SizeOf.sizeOf y < n→EP x→EP y→Mv (fun K:Nat=>(Zp (K+4 * n)).1) x y:=fun x y h=>Z0g n x y h
  have e1:(fun K:Nat=>(Zp (K+4 * (n+1))).1)=fun K:Nat=>Xo (Zp (K+4 * n+3)).1 (Zp (K+4 * n+3)).2.1 (Zp (K+4 * n+3)).2.2.1 (Zp (K+4 * n+3)).2.2.2.1 (Zp (K+4 * n+3)).2.2.2.2:=rfl
  rw [e1]
  refine Z27 hp.b hp.g hq.b hq.g (fun _ _ _=>Zos (CA.ep hq hp.b.old hp.o)) (fun _ _ _=>Zos (CA.ep hp hq.b.old hq.o)) (fun k2 k2' => ?_) (fun k3 k3' hL => ?_)
  ·show Mv (fun K:Nat=>K1 (Zp (K+4 * n+2)).1 (Zp (K+4 * n+2)).2.1 (Zp (K+4 * n+2)).2.2.1 (Zp (K+4 * n+2)).2.2.2.1 (Zp (K+4 * n+2)).2.2.2.2) p q
   refine Zup k2 k2' (hp.w k2) (hq.w k2') hp.b.ws hq.b.ws hp.g.w hq.g.w ?_
   show Mk (fun K:Nat=>V0 (Zp (K+4 * n+1)).1 (Zp (K+4 * n+1)).2.1 (Zp (K+4 * n+1)).2.2.1 (Zp (K+4 * n+1)).2.2.2.1 (Zp (K+4 * n+1)).2.2.2.2) p.Kids q.Kids
   refine Z2x hp.g.k hq.g.k (fun x hx=>⟨hp.b.ks x hx,hp.g.ks x hx⟩) (fun x hx=>⟨hq.b.ks x hx,hq.g.ks x hx⟩) fun x hx y hy => ?_
   have h:=(ih x.E y.E (by have:=rZ hx;have:=rZ hy;omega) (hp.ks x hx) (hq.ks y hy)).sub (fun K:Nat=>K+1)
   have e:(fun K:Nat=>(Zp (K+4 * n+1)).1)=fun K:Nat=>(Zp (K+1+4 * n)).1:=funext fun K=>by rw [show K+4 * n+1=K+1+4 * n by omega]
   rw [e]
   exact h
  show Mv (fun K:Nat=>Jd (Zp (K+4 * n+2)).1 (Zp (K+4 * n+2)).2.1 (Zp (K+4 * n+2)).2.2.1 (Zp (K+4 * n+2)).2.2.2.1 (Zp (K+4 * n+2)).2.2.2.2) p q
  refine Zz6 k3 k3' hL hp.ok hq.ok (fun o ho=>(hp.b.l o ho).2) (fun o ho=>(hq.b.l o ho).2) hp.n hq.n hp.s hq.s fun x y hx hy => ?_
  show Bt (fun K:Nat=>Jt (Zp (K+4 * n+1)).1 (Zp (K+4 * n+1)).2.1 (Zp (K+4 * n+1)).2.2.1 (Zp (K+4 * n+1)).2.2.2.1 (Zp (K+4 * n+1)).2.2.2.2) p.List_ x y
  obtain ⟨x1,x2,x3,x4⟩:=hp.prt k3 hx
  obtain ⟨y1,y2,y3,y4⟩:=hq.prt k3' hy
  refine Z2f x1 y1 x2 y2 (fun kx ky => ?_) (fun kx ky => ?_) (fun ky kx => ?_)
  ·have h:=(ih x.E y.E (by have:=(x3 kx).2;have:=(y3 ky).2;omega) (x3 kx).1 (y3 ky).1).sub (fun K:Nat=>K+1)
   have e:(fun K:Nat=>(Zp (K+4 * n+1)).1)=fun K:Nat=>(Zp (K+1+4 * n)).1:=funext fun K=>by rw [show K+4 * n+1=K+1+4 * n by omega]
   rw [e]
   exact h
  ·obtain ⟨t,r,e,bt,pt'⟩:=x4 kx
   obtain ⟨u,hu,_⟩:=Zos (CA.ep (y3 ky).1 bt pt')
   exact ⟨t,r,u,e,hu⟩
  obtain ⟨t,r,e,bt,pt'⟩:=y4 ky
  obtain ⟨u,hu,_⟩:=Zos (CA.ep (x3 kx).1 bt pt')
  exact ⟨t,r,u,e,hu⟩
theorem Z0e {p q:Ed} (hp:EP p) (hq:EP q):∃ u v f,(∀ m,Gr p q m=some (u,v,bU m f))∧(∀ m,Gr q p m=some (v,u,bU m f))∧BE u∧GN u∧BE v∧GN v:=by
 obtain ⟨u,v,f,h1,h2,h3⟩:=Z0g (SizeOf.sizeOf p+SizeOf.sizeOf q+1) p q (by omega) hp hq
 refine ⟨u,v,f,fun m=>cA (4 * (SizeOf.sizeOf p+SizeOf.sizeOf q+1)) fun k hk => ?_,fun m=>cA (4 * (SizeOf.sizeOf p+SizeOf.sizeOf q+1)) fun k hk => ?_,h3⟩
 ·have:(Zp (k - 4 * (SizeOf.sizeOf p+SizeOf.sizeOf q+1)+4 * (SizeOf.sizeOf p+SizeOf.sizeOf q+1))).1 p q m=_:=h1 (k - 4 * (SizeOf.sizeOf p+SizeOf.sizeOf q+1)) m
  rw [Nat.sub_add_cancel hk] at this
  exact this
 have:(Zp (k - 4 * (SizeOf.sizeOf p+SizeOf.sizeOf q+1)+4 * (SizeOf.sizeOf p+SizeOf.sizeOf q+1))).1 q p m=_:=h2 (k - 4 * (SizeOf.sizeOf p+SizeOf.sizeOf q+1)) m
 rw [Nat.sub_add_cancel hk] at this
 exact this
theorem Z2m {p q:Ed} (hp:BE p) (gp:GN p) (hq:BE q) (gq:GN q) (ep:EP (nE p)) (eq:EP (nE q)):∃ x y c,Vo p q=some (x,y,c)∧Vo q p=some (y,x,c)∧BE x∧BE y:=by
 obtain ⟨u,v,f,h1,h2,bu,gu,bv,gv⟩:=Z0e ep eq
 have h1':=h1 ⟨false,false⟩
 have h2':=h2 ⟨false,false⟩
 have hm:bU ⟨false,false⟩ f=⟨f.1,f.2⟩:=by unfold bU;simp
 rw [hm] at h1' h2'
 have go:∀ (a b s t:Ed),Gf a=some (nE a)→Gf b=some (nE b)→Gf s=some (nE s)→Gf t=some (nE t)→Gr (nE a) (nE b) ⟨false,false⟩=some (s,t,⟨f.1,f.2⟩) →
   Vo a b=some (if f.1=true then (sJ,sJ,14) else if f.2=true then (sJ,sJ,13) else (nE s,nE t,0)):=fun a b s t na nb ns nt h=>by
  unfold Vo
  rw [na,Option.bind_some,nb,Option.bind_some,h,Option.bind_some]
  show cond f.1 _ (cond f.2 _ _)=_
  cases f.1 with
  | true=>rfl
  | false =>
   cases f.2 with
   | true=>rfl
   | false =>
    rw [cond_false,cond_false]
    simp only
    rw [ns,Option.bind_some,nt,Option.bind_some]
    rfl
 have e1:=go p q u v (Zal hp gp) (Zal hq gq) (Zal bu gu) (Zal bv gv) h1'
 have e2:=go q p v u (Zal hq gq) (Zal hp gp) (Zal bv gv) (Zal bu gu) h2'
 rw [e1,e2]
 cases f.1 with
 | true=>exact ⟨sJ,sJ,14,rfl,rfl,bB,bB⟩
 | false =>
  cases f.2 with
  | true=>exact ⟨sJ,sJ,13,rfl,rfl,bB,bB⟩
  | false=>exact ⟨nE u,nE v,0,rfl,rfl,bu.nE gu,bv.nE gv⟩
theorem Z0c:∀ (n:Nat) (t:Tr),SizeOf.sizeOf t < n→MB t→MB (nrm t)
 | 0,_,h,_=>by omega
 | n+1,t,hn,h=>by
  have ih:∀ x∈t.Kids.map nrm,MB x:=fun x hx=>by
   obtain ⟨y,hy,rfl⟩:=List.mem_map.1 hx
   exact Z0c n y (by have:=jU hy;omega) (h.all y hy)
  by_cases h0:t.Kind=0
  ·rw [gW h0];exact MB.z
  by_cases h1:t.Kind=1
  ·rw [lU h1]
   refine .mk _ (Nat.le_trans (Zci _ _) h.w) (Nat.le_trans (Zci _ _) (by rw [List.length_map];exact h.k)) fun k hk=>ih k (zP hk)
  rw [lD h0 h1]
  exact .mk _ h.w (by simp only [List.length_map];exact h.k) ih
theorem MB.nrm {t:Tr} (h:MB t):MB (nrm t):=Z0c _ t (Nat.lt_succ_self _) h
theorem Z06:∀ (n:Nat) (t:Tr) (d:Nat),SizeOf.sizeOf t < n→rt t d=true→MB t
 | 0,_,_,h,_=>by omega
 | n+1,t,d,hn,h=>by
  rw [Zv7] at h
  by_cases h0:t.Kind=0
  ·rw [if_pos h0,Bool.and_eq_true,beq_iff_eq,beq_iff_eq] at h
   refine .mk _ (by omega) (by omega) fun k hk => ?_
   rw [List.eq_nil_of_length_eq_zero h.2] at hk;cases hk
  rw [if_neg h0] at h
  by_cases h1:t.Kind=10
  ·rw [if_pos h1,Bool.and_eq_true,beq_iff_eq,beq_iff_eq] at h
   refine .mk _ (by omega) (by omega) fun k hk => ?_
   rw [List.eq_nil_of_length_eq_zero h.2] at hk;cases hk
  rw [if_neg h1] at h
  by_cases hc:t.Kind < 0∨10 < t.Kind∨d=0∨65536≤t.Words.length∨(t.Kind=1∧65536≤t.Kids.length)∨1048576≤t.Kids.length∨(1 < t.Kind∧0 < t.Words.length)
  ·rw [if_pos hc] at h;cases h
  rw [if_neg hc,List.all_eq_true] at h
  refine .mk _ (by omega) (by omega) fun k hk => ?_
  have:=h k hk
  rw [Bool.and_eq_true] at this
  exact Z06 n k (d - 1) (by have:=jU hk;omega) this.1
theorem Zr0 {F:List EO} {n:Int} {o:EO} (h:o∈wJ F n) (h3:o.Kind=3):o∈F:=by
 by_cases hk:∃ x,F.getLast? = some x∧x.Kind=0
 ·obtain ⟨x,hx,k0⟩:=hk
  obtain ⟨o',rfl⟩:=List.getLast?_eq_some_iff.1 hx
  obtain ⟨k,N,L,E⟩:=x
  simp only at k0
  subst k0
  rw [pJ] at h
  rcases List.mem_append.1 h with h | h
  ·exact List.mem_append.2 (.inl h)
  rw [List.mem_singleton.1 h] at h3;simp at h3
 rw [jA fun x hx h0=>hk ⟨x,hx,h0⟩] at h
 rcases List.mem_append.1 h with h | h
 ·exact h
 rw [List.mem_singleton.1 h] at h3;simp at h3
theorem Zv0 {Q:Tr→Prop} {F:List EO} {n:Int} (hF:∀ o∈F,∀ t∈o.L,Q t):∀ o∈wJ F n,∀ t∈o.L,Q t:=by
 by_cases hk:∃ x,F.getLast? = some x∧x.Kind=0
 ·obtain ⟨x,hx,k0⟩:=hk
  obtain ⟨o',rfl⟩:=List.getLast?_eq_some_iff.1 hx
  have hl:=hF x (by simp)
  obtain ⟨k,N,L,E⟩:=x
  simp only at k0
  subst k0
  rw [pJ]
  intro o h
  rcases List.mem_append.1 h with h | h
  ·exact hF o (List.mem_append.2 (.inl h))
  rw [List.mem_singleton.1 h];exact hl
 rw [jA fun x hx h0=>hk ⟨x,hx,h0⟩]
 intro o h
 rcases List.mem_append.1 h with h | h
 ·exact hF o h
 rw [List.mem_singleton.1 h];intro t ht;cases ht
theorem Zen {s:NW} {o:EO} (h:o∈s.flush) (h3:o.Kind=3):o∈s.out:=by
 unfold NW.flush at h
 rw [List.mem_append,List.mem_append] at h
 rcases h with h | h | h
 ·exact h
 ·unfold rU at h
  split at h
  ·cases h
  rw [List.mem_singleton.1 h] at h3;simp at h3
 unfold nG at h
 split at h
 ·cases h
 rw [List.mem_singleton.1 h] at h3;simp at h3
structure LQ (Q:Tr→Prop) (s:NW):Prop where
 o:∀ o∈s.out,∀ t∈o.L,Q t
 g:∀ t∈s.gone,Q t
 c:∀ t∈s.come,Q t
theorem LQ.f {Q:Tr→Prop} {s:NW} (h:LQ Q s):∀ o∈s.flush,∀ t∈o.L,Q t:=fun o ho=>by
 unfold NW.flush at ho
 rw [List.mem_append,List.mem_append] at ho
 rcases ho with ho | ho | ho
 ·exact h.o o ho
 ·unfold rU at ho
  split at ho
  ·cases ho
  rw [List.mem_singleton.1 ho];exact h.g
 unfold nG at ho
 split at ho
 ·cases ho
 rw [List.mem_singleton.1 ho];exact h.c
theorem LQ.step {Q:Tr→Prop} {l:Int} {s:NW} {p:EO×Ed} (h:LQ Q s) (hp:∀ t∈p.1.L,Q (nrm t)):LQ Q (sC l s p):=by
 have hm:∀ t∈p.1.L.map nrm,Q t:=fun t ht=>by
  obtain ⟨x,hx,rfl⟩:=List.mem_map.1 ht
  exact hp x hx
 unfold sC
 split
 ·exact ⟨h.o,fun t ht=>(List.mem_append.1 ht).elim (h.g t) (hm t),h.c⟩
 split
 ·exact ⟨h.o,h.g,fun t ht=>(List.mem_append.1 ht).elim (h.c t) (hm t)⟩
 split
 ·exact ⟨Zv0 h.f,by simp,by simp⟩
 split
 ·exact ⟨Zv0 h.f,by simp,by simp⟩
 refine ⟨fun o ho => ?_,by simp,by simp⟩
 rcases List.mem_append.1 ho with ho | ho
 ·exact h.f o ho
 rw [List.mem_singleton.1 ho];intro t ht;cases ht
theorem Zvr {Q:Tr→Prop} {l:Int}:∀ (ps:List (EO×Ed)) (s:NW),LQ Q s→(∀ p∈ps,∀ t∈p.1.L,Q (nrm t))→LQ Q (ps.foldl (sC l) s)
 | [],_,h,_=>h
 | p::ps,_,h,hp=>Zvr ps _ (h.step (hp p (.head _))) fun q hq=>hp q (.tail _ hq)
theorem Z6x {Q:Tr→Prop} {l:Int} {os:List EO} (h:∀ o∈os,∀ t∈o.L,Q (nrm t)):∀ o∈gC l (Vr os),∀ t∈o.L,Q t:=by
 unfold gC
 refine (Zvr (Q:=Q) _ s0N ⟨by simp [s0N],by simp [s0N],by simp [s0N]⟩ fun p hp => ?_).f
 obtain ⟨x,hx,rfl⟩:=List.mem_map.1 hp
 exact h x hx
def kds (k:Int):Prop:=k=0∨k=1∨k=2∨k=3
theorem Z69 {Q:Ed→Prop} {l:Int} {s:NW} {p:EO×Ed} (hs:∀ o∈s.out,o.Kind=3→Q o.E) (hp:p.1.Kind=3→Q p.2) (hk:kds p.1.Kind):∀ o∈(sC l s p).out,o.Kind=3→Q o.E:=fun o ho h3=>by
 unfold kds at hk
 unfold sC at ho
 split at ho
 ·exact hs o ho h3
 split at ho
 ·exact hs o ho h3
 split at ho
 ·exact hs o (Zen (Zr0 ho h3) h3) h3
 split at ho
 ·exact hs o (Zen (Zr0 ho h3) h3) h3
 rcases List.mem_append.1 ho with ho | ho
 ·exact hs o (Zen ho h3) h3
 rw [List.mem_singleton.1 ho];exact hp (by omega)
theorem Zvf {Q:Ed→Prop} {l:Int}:∀ (ps:List (EO×Ed)) (s:NW),(∀ o∈s.out,o.Kind=3→Q o.E)→(∀ p∈ps,(p.1.Kind=3→Q p.2)∧kds p.1.Kind)→∀ o∈(ps.foldl (sC l) s).out,o.Kind=3→Q o.E
 | [],s,hs,_=>hs
 | p::ps,s,hs,hp=>Zvf ps _ (Z69 hs (hp p (.head _)).1 (hp p (.head _)).2) fun q hq=>hp q (.tail _ hq)
theorem Z28 {Q:Ed→Prop} {l:Int} {os:List EO} (h:∀ o∈os,opk o∧(o.Kind=3→Q (nE o.E))):∀ o∈gC l (Vr os),o.Kind=3→Q o.E:=fun o ho h3=>by
 unfold gC at ho
 refine Zvf (Q:=Q) _ s0N (fun x hx=>by cases hx) (fun p hp => ?_) o (Zen ho h3) h3
 obtain ⟨x,hx,rfl⟩:=List.mem_map.1 hp
 refine ⟨(h x hx).2,?_⟩
 show kds x.Kind
 unfold kds
 rcases (h x hx).1 with ⟨q,_⟩ | ⟨q,_⟩ | ⟨q,_⟩ | q <;> omega
theorem Z80:EP sJ := .mk _ bB vD (.same _ rfl) (fun h=>absurd h (by decide)) (by simp [sJ]) (by simp [sJ,Jk]) MB.z (fun o h=>by cases h) (fun k h=>by cases h) (fun o h=>by cases h)
theorem Zvb:∀ (n:Nat) (e:Ed) (d:Nat),SizeOf.sizeOf e < n→BE e→GN e→ce e≤100000→rE e d=true→EP (nE e)
 | 0,_,_,h,_,_,_,_=>by omega
 | n+1,e,d,hn,hb,hg,hc,h=>by
  have hB:=hb.nE hg
  have hG:=GN.nE hb hg
  have hX:=(Z03 _ e d (Nat.lt_succ_self _) h).nE hb hg
  have hlens:=Zv1 hb h
  have hc':=hc
  rw [Zu6] at hc'
  rw [Zr2] at h
  rw [pI] at hB hG hX ⊢
  by_cases hd:d=0
  ·rw [if_pos hd] at h;cases h
  rw [if_neg hd] at h
  by_cases h0:e.Kind=0
  ·rw [if_neg (by omega),if_neg (by omega),if_neg (by omega)]
   exact Z80
  rw [if_neg h0] at h
  by_cases h1:e.Kind=1
  ·rw [if_pos h1] at hB hG hX ⊢
   rw [if_pos h1] at h
   simp only [Bool.and_eq_true] at h
   exact .mk _ hB hG hX (fun h=>absurd (show (1:Int)=2 from h) (by decide)) (by simp) (by simp [Jk]) (Z06 _ _ 64 (Nat.lt_succ_self _) h.2.1.1).nrm (fun o h=>by cases h) (fun k hk=>by cases hk) (fun o ho=>by cases ho)
  rw [if_neg h1] at h hB hG hX ⊢
  by_cases h2:e.Kind=2
  ·rw [if_pos h2] at h hB hG hX ⊢
   simp only [Bool.and_eq_true] at h
   refine .mk _ hB hG hX (fun _=>(Zy7 _ _ h.2.1).1) (by simp) (by simp [Jk]) MB.z (fun o h=>by cases h) (fun k hk => ?_) (fun o ho=>by cases ho)
   obtain ⟨x,hx,rfl⟩:=List.mem_map.1 hk
   have:=yF (f:=fun k:Zq=>ce k.E) hx
   refine Zvb n x.E (d - 1) (by have:=rZ hx;omega) (hb.ks x hx) (hg.ks x hx) (by omega) ?_
   exact Zjn (Q:=fun k:Zq=>rE k.E (d - 1)=true) (fun p x hx=>by
     unfold okK okP at hx
     simp only [Bool.and_eq_true] at hx
     exact hx.2.2) e.Kids (-1) h.2.2 x hx
  rw [if_neg h2] at h hB hG hX ⊢
  by_cases h3:e.Kind=3
  ·rw [if_pos h3] at h hB hG hX ⊢
   rw [Bool.and_eq_true,Bool.and_eq_true,Bool.and_eq_true,Bool.and_eq_true,Bool.and_eq_true,List.all_eq_true] at h
   obtain ⟨_,_,hall,hL⟩:=h
   have hsum:Jk e.Ops≤2097152:=by
    rw [hlens] at hL
    have:=Zl8 (l:=e.List_) (fun o=>rE o.E (d - 1)) e.Ops (0,0) ⟨⟨by decide,by decide⟩,by decide,by decide⟩ hall (fun o ho=>(hb.l o ho).1) hL
    unfold Zk2 at hL
    rw [Bool.and_eq_true,decide_eq_true_eq,decide_eq_true_eq] at hL
    simp only at this
    omega
   have hob:=Zps (l:=e.List_) e.Ops s0N 0 0 ⟨by simp [s0N],by simp [s0N],by simp [s0N],Nat.le_refl _,Nat.le_refl _⟩ fun o ho=>⟨hg.p o ho,(hb.l o ho).2,(hb.os o ho).nE (hg.os o ho),GN.nE (hb.os o ho) (hg.os o ho)⟩
   have h5:=hob.cnt
   have h6:=hob.sum
   refine .mk _ hB hG hX (fun h=>absurd (show (3:Int)=2 from h) (by decide)) ?_ ?_ MB.z (Z6x fun o ho t ht => ?_) (fun k hk=>by cases hk) (Z28 fun o ho=>⟨hg.p o ho,fun k3 => ?_⟩)
   ·show (gC e.List_ (Vr e.Ops)).length≤_
    unfold gC
    omega
   ·show Jk (gC e.List_ (Vr e.Ops))≤_
    unfold gC
    omega
   ·have:=hall o ho
    unfold okO at this
    split at this
    ·simp only [Bool.and_eq_true,beq_iff_eq] at this
     rw [List.eq_nil_of_length_eq_zero this.2.1] at ht;cases ht
    split at this
    ·simp only [Bool.and_eq_true,List.all_eq_true] at this
     exact (Z06 _ t 63 (Nat.lt_succ_self _) (this.2.2.1 t ht).1).nrm
    split at this
    ·simp only [Bool.and_eq_true,beq_iff_eq] at this
     rw [List.eq_nil_of_length_eq_zero this.2.1] at ht;cases ht
    cases this
   have:=hall o ho
   unfold okO at this
   rw [if_neg (by omega),if_neg (by omega),if_pos k3] at this
   simp only [Bool.and_eq_true] at this
   exact Zvb n o.E (d - 1) (by have:=tV ho;omega) (hb.os o ho) (hg.os o ho) (by have:=yF (f:=fun o:Zo=>ce o.E) ho;omega) this.2.2.2.2
  rw [if_neg h3] at h;cases h
def SD (k l:Int) (ops:List EO) (c:List Tr):Zi:=⟨none,⟨k,yV,yV,[],[],l,ops⟩,c⟩
def M0:Zg:=⟨false,false⟩
theorem Zon (e:Ed):Jf e=some (SD e.Kind e.List_ [] []):=rfl
theorem Yd2 (K:Nat):(Zp (K+1)).1=Xo (Zp K).1 (Zp K).2.1 (Zp K).2.2.1 (Zp K).2.2.2.1 (Zp K).2.2.2.2:=rfl
theorem Yd3 (K:Nat):(Zp (K+1)).2.2.1=Jd (Zp K).1 (Zp K).2.1 (Zp K).2.2.1 (Zp K).2.2.2.1 (Zp K).2.2.2.2:=rfl
theorem Yd4 (K:Nat):(Zp (K+1)).2.2.2.2=Jt (Zp K).1 (Zp K).2.1 (Zp K).2.2.1 (Zp K).2.2.2.1 (Zp K).2.2.2.2:=rfl
def aI (w:Int):EO:=⟨2,0,[⟨10,[w],[]⟩],sJ⟩
def aK (n:Int):EO:=⟨0,n,[],sJ⟩
def aE (os:List EO):Ed:=⟨3,yV,yV,[],[],4,os⟩
theorem Z4c {w:Int} (h:0≤w∧w < 18446744073709551616):Bd ⟨10,[w],[]⟩ := .mk _ (by simp) (by simp) (by simpa using h) (fun k h=>by simp at h)
theorem Zjl {os:List EO} (hl:os.length≤5) (h:∀ o∈os,o=aI 1∨o=aI 2∨o=aK 1) (hs:Jk os≤100):BE (aE os)∧GN (aE os):=by
 have hE:∀ o∈os,o.E=sJ:=fun o ho=>by rcases h o ho with h | h | h <;> rw [h] <;> rfl
 refine ⟨.mk _ xM xM (by simp [aE]) (by simp [aE]) (by simp [aE]) (by simp [aE]) (by simp only [aE];omega) (fun o ho => ?_) (fun o ho=>by rw [hE o ho];exact bB),.mk _ (by simp [aE]) (by simp [aE]) (by simp only [aE];omega) (by simp only [aE];omega) (fun o ho => ?_) (by simp [aE]) (fun o ho=>by rw [hE o ho];exact vD)⟩
 ·rcases h o ho with h | h | h <;> rw [h] <;> refine ⟨by simp [aI,aK],fun t ht => ?_⟩
  ·rw [List.mem_singleton.1 ht];exact Z4c (by decide)
  ·rw [List.mem_singleton.1 ht];exact Z4c (by decide)
  cases ht
 rcases h o ho with h | h | h <;> rw [h] <;> simp [opk,aI,aK]
theorem Z2c (w:Int):nrm ⟨10,[w],[]⟩=⟨10,[w],[]⟩:=by rw [lD (by simp) (by simp)];rfl
theorem Zlc {xs:List EO} {g:Int} {r:(Int×Int×List EO×Int) ⊕ (List EO×Int)} (h:jG K3 3 (xs,g)=some r):K9 ⟨xs,g⟩=(match r with | .inl z=>some (z.1,z.2.1,(⟨z.2.2.1,z.2.2.2⟩:Ji)) | .inr z=>some (0,0,(⟨z.1,z.2⟩:Ji))):=by
 unfold K9
 rw [nA h]
 cases r <;> rfl
theorem Zu5 {α β γ:Type} {a:Option α} {b:Option β} {x:α} {y:β} {f:α→β→Option γ} {r:Option γ} (ha:a=some x) (hb:b=some y) (h:f x y=r):(a.bind fun u=>b.bind fun v=>f u v)=r:=by subst ha hb;exact h
theorem Z5n:Jp [aI 1,aK 1] [aK 1,aI 2]=some ([⟨1,aI 1,⟨0,0,[],sJ⟩⟩,⟨0,aK 1,aK 1⟩,⟨2,⟨0,0,[],sJ⟩,aI 2⟩],true):=by
 have n1:=Zlc (xs:=[aI 1,aK 1]) (g:=0) (r := .inl (2,1,[aI 1,aK 1],0)) rfl
 have n2:=Zlc (xs:=[aK 1,aI 2]) (g:=0) (r := .inl (0,1,[aK 1,aI 2],0)) rfl
 have n3:=Zlc (xs:=[aI 1,aK 1]) (g:=1) (r := .inl (0,1,[aK 1],0)) rfl
 have n4:=Zlc (xs:=[aK 1]) (g:=1) (r := .inr ([],0)) rfl
 have n5:=Zlc (xs:=[aK 1,aI 2]) (g:=1) (r := .inl (2,1,[aI 2],0)) rfl
 have n6:=Zlc (xs:=[]) (g:=0) (r := .inr ([],0)) rfl
 have n7:=Zlc (xs:=[aI 2]) (g:=1) (r := .inr ([],0)) rfl
 have q1:X3 2 2 ([aI 1,aK 1],0,[aK 1,aI 2],0,[])=some (.inl ([aI 1,aK 1],1,[aK 1,aI 2],0,[⟨1,aI 1,⟨0,0,[],sJ⟩⟩])):=Zu5 n1 n2 rfl
 have q2:X3 2 2 ([aI 1,aK 1],1,[aK 1,aI 2],0,[⟨1,aI 1,⟨0,0,[],sJ⟩⟩])=some (.inl ([aK 1],1,[aK 1,aI 2],1,[⟨1,aI 1,⟨0,0,[],sJ⟩⟩,⟨0,aK 1,aK 1⟩])):=Zu5 n3 n2 rfl
 have q3:X3 2 2 ([aK 1],1,[aK 1,aI 2],1,[⟨1,aI 1,⟨0,0,[],sJ⟩⟩,⟨0,aK 1,aK 1⟩])=some (.inl ([],0,[aI 2],1,[⟨1,aI 1,⟨0,0,[],sJ⟩⟩,⟨0,aK 1,aK 1⟩,⟨2,⟨0,0,[],sJ⟩,aI 2⟩])):=Zu5 n4 n5 rfl
 have q4:X3 2 2 ([],0,[aI 2],1,[⟨1,aI 1,⟨0,0,[],sJ⟩⟩,⟨0,aK 1,aK 1⟩,⟨2,⟨0,0,[],sJ⟩,aI 2⟩])=some (.inr ([⟨1,aI 1,⟨0,0,[],sJ⟩⟩,⟨0,aK 1,aK 1⟩,⟨2,⟨0,0,[],sJ⟩,aI 2⟩],true)):=Zu5 n6 n7 rfl
 unfold Jp dA
 rw [Xg q1,Xg q2,Xg q3,Y7 q4]
 rfl
theorem Zu3 {os:List EO} (h:Y9 os=some true):Jg (SD 3 4 os []) M0=some (aE os,SD 3 4 os [],M0):=by
 unfold Jg
 rw [show (SD 3 4 os []).left.Ops=os from rfl,h]
 rfl
theorem Z7t:Y9 [aI 1,aK 1,aK 1]=some true:=by
 unfold Y9 Qt
 rw [nA (k:=4) (by rfl)]
 rfl
theorem Z7u:Y9 [aK 1,aK 1,aI 2]=some true:=by
 unfold Y9 Qt
 rw [nA (k:=4) (by rfl)]
 rfl
theorem Z2b:Gr (aE [aI 1,aK 1]) (aE [aK 1,aI 2]) M0=some (aE [aI 1,aK 1,aK 1],aE [aK 1,aK 1,aI 2],M0):=cA 3 fun k hk=>by
 obtain ⟨k,rfl⟩:∃ j,k=j+1+1+1:=⟨k - 3,by omega⟩
 have hL:(Zp (k+1+1)).2.2.1 (aE [aI 1,aK 1]) (aE [aK 1,aI 2]) M0=some (aE [aI 1,aK 1,aK 1],aE [aK 1,aK 1,aI 2],M0):=by
  rw [Yd3,Yd4]
  unfold Jd
  rw [show Jp (aE [aI 1,aK 1]).Ops (aE [aK 1,aI 2]).Ops=_ from Z5n,Option.bind_some,Zon,Option.bind_some,Zon,Option.bind_some]
  refine (congrArg (fun z=>Option.bind z _) (nA (k:=5) (r:=(SD 3 4 [aI 1,aK 1] [],SD 3 4 [aK 1,aK 1] [⟨10,[2],[]⟩],[],[],[aI 1,aK 1],[],[],[],[aK 1,aK 1],[⟨10,[2],[]⟩],false,false)) (by rfl))).trans ?_
  rw [Option.bind_some]
  refine (congrArg (fun z=>Option.bind z _) (show _=some (SD 3 4 [aI 1,aK 1,aK 1] [],SD 3 4 [aK 1,aK 1,aI 2] [],M0) from rfl)).trans ?_
  rw [Option.bind_some]
  refine (congrArg (fun z=>Option.bind z _) (Zu3 Z7t)).trans ?_
  rw [Option.bind_some]
  refine (congrArg (fun z=>Option.bind z _) (Zu3 Z7u)).trans ?_
  rfl
 rw [Yd2]
 unfold Xo
 rw [hL]
 rfl
theorem Zow:jZ=some true:=by
 have g1:=Zjl (os:=[aI 1,aK 1]) (by simp) (by simp) (by simp [Jk,lX,aI,aK])
 have g2:=Zjl (os:=[aK 1,aI 2]) (by simp) (by simp) (by simp [Jk,lX,aI,aK])
 have g3:=Zjl (os:=[aI 1,aK 1,aK 1]) (by simp) (by simp) (by simp [Jk,lX,aI,aK])
 have g4:=Zjl (os:=[aK 1,aK 1,aI 2]) (by simp) (by simp) (by simp [Jk,lX,aI,aK])
 have hv:∀ os:List EO,nE (aE os)=aE (gC 4 (Vr os)):=fun os=>(pI (aE os)).trans rfl
 have n1:gC 4 (Vr [aI 1,aK 1])=[aI 1,aK 1]:=by simp [gC,Vr,aI,aK,sC,s0N,Z2c,NW.flush,rU,nG,wJ]
 have n2:gC 4 (Vr [aK 1,aI 2])=[aK 1,aI 2]:=by simp [gC,Vr,aI,aK,sC,s0N,Z2c,NW.flush,rU,nG,wJ]
 have n3:gC 4 (Vr [aI 1,aK 1,aK 1])=[aI 1,aK 2]:=by simp [gC,Vr,aI,aK,sC,s0N,Z2c,NW.flush,rU,nG,wJ]
 have n4:gC 4 (Vr [aK 1,aK 1,aI 2])=[aK 2,aI 2]:=by simp [gC,Vr,aI,aK,sC,s0N,Z2c,NW.flush,rU,nG,wJ]
 have e1:Vo (aE [aI 1,aK 1]) (aE [aK 1,aI 2])=some (aE [aI 1,aK 2],aE [aK 2,aI 2],0):=by
  unfold Vo
  rw [Zal g1.1 g1.2,Option.bind_some,Zal g2.1 g2.2,Option.bind_some,hv,hv,n1,n2,show (⟨false,false⟩:Zg)=M0 from rfl,Z2b,Option.bind_some]
  show cond false _ (cond false _ _)=_
  rw [cond_false,cond_false]
  simp only
  rw [Zal g3.1 g3.2,Option.bind_some,Zal g4.1 g4.2,Option.bind_some,hv,hv,n3,n4]
 unfold jZ
 refine (congrArg (fun z=>Option.bind z _) e1).trans ?_
 rfl
theorem Zlt {e f:Ed} (he:BE e) (hf:BE f):G4 e f=some true:=by
 obtain ⟨b,h1,h2⟩:=Zzo he
 obtain ⟨c,g1,g2⟩:=Zzo hf
 unfold G4
 rw [h1,Option.bind_some]
 cases b with
 | false=>rw [Zow];rfl
 | true =>
  rw [cond_true,g1,Option.bind_some]
  cases c with
  | false=>rw [Zow];rfl
  | true =>
   obtain ⟨r1,r2⟩:=h2 rfl
   obtain ⟨s1,s2⟩:=g2 rfl
   have ge:=Zvi _ e 64 (Nat.lt_succ_self _) he (by omega) r1
   have gf:=Zvi _ f 64 (Nat.lt_succ_self _) hf (by omega) s1
   obtain ⟨x,y,z,e1,e2,bx,by'⟩:=Z2m he ge hf gf (Zvb _ e 64 (Nat.lt_succ_self _) he ge (by omega) r1) (Zvb _ f 64 (Nat.lt_succ_self _) hf gf (by omega) s1)
   rw [Option.bind_some,Bool.not_true,cond_false,cond_false,e1,Option.bind_some]
   refine (congrArg (fun z=>Option.bind z _) e2).trans ?_
   rw [Option.bind_some]
   simp only
   rw [beq_self_eq_true,cond_true,Zq1 bx,Option.bind_some,cond_true,Zq1 by',Option.bind_some,cond_true,Zow]
   rfl
end Go.Proofs.Ytocpndlnbmjpmaa
