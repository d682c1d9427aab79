/- Plain facts on this seat's mirrors (part SP5); each theorem bears its own conditions. -/
import Derived.Test.YtmpkfolcikhofaaSP3
import Derived.IntWalk
namespace Go.Proofs.Ytmpkfolcikhofaa
open Go.RowKit
set_option linter.unusedVariables false
set_option linter.unusedSimpArgs false
theorem Zpq {e:Ed} {t u:Tr} (h:CA e t) (hu:ap e (nrm t)=some u):Bd u:=by
 obtain ⟨v,b,h1,h2,h3⟩:=(Zlh (4 * SizeOf.sizeOf e+1)).1 e t h (by omega)
 obtain ⟨g1,g2⟩:=h3 u hu
 rw [← g1];exact g2.nrm
theorem Zzw {t:Tr} (h:Bd t):∃ b,Uf t=some b∧(b=true→TX t∧pt t≤3000):=by
 obtain ⟨b,h1,h2⟩:=Z36 h
 have h3:=Zkh h (d:=64) (by decide)
 rw [show ((64:Nat):Int)=64 from rfl] at h3
 unfold Uf
 rw [h1,Option.bind_some,h3]
 refine ⟨b && (rt t 64 && (t.Kind != 10)),?_,fun q => ?_⟩
 ·cases b <;> cases rt t 64 <;> cases (t.Kind != 10) <;> rfl
 simp only [Bool.and_eq_true] at q
 exact ⟨Z3w _ t 64 (Nat.lt_succ_self _) q.2.1,h2 q.1⟩
theorem CA.of {e:Ed} {t:Tr} (hb:BE e) (hr:rE e 64=true) (hc:ce e≤3000) (ht:Bd t) (hp:pt t≤3000):CA e t :=
 ⟨Z1r _ e 64 (Nat.lt_succ_self _) hr,hb,Z0y _ e 64 (Nat.lt_succ_self _) hb (by omega) hr,by omega,ht⟩
def Zdv:Ed:=⟨2,⟨0,[],[]⟩,⟨0,[],[]⟩,[⟨0,1,5,6⟩],[],0,[]⟩
theorem Z4t (w:Int) (h:0≤w∧w < 18446744073709551616):CA Zdv ⟨1,[w],[]⟩:=by
 have b1:Bd ⟨1,[w],[]⟩ := .mk _ (by simp) (by simp) (by simpa using h) (fun k h=>by simp at h)
 refine ⟨.st _ rfl (by simp [Zdv]) (by simp [Zdv]) (by simp [Zdv]) (by simp [Zdv]) (by simp [Zdv]),.mk _ Zff Zff (by simp [Zdv]) (by simp [Zdv]) (by simp [Zdv]) (by simp [Zdv]) (by simp [Zdv]) (by simp [Zdv]) (by simp [Zdv]),.mk _ (by simp [Zdv]) (by simp [Zdv]) (by simp [Zdv]) (by simp [Zdv,K4]) (by simp [Zdv]) (by simp [Zdv]) (by simp [Zdv]),?_,b1⟩
 rw [Zh2];simp
theorem Zo6:Jr=some true:=by
 have n5:∀ w:Int,w≠0→nrm ⟨1,[w],[]⟩=⟨1,[w],[]⟩:=fun w hw=>by
  rw [Jv rfl]
  simp [tr,hw]
 have a5:ap Zdv (nrm ⟨1,[5],[]⟩)=some ⟨1,[6],[]⟩:=by
  rw [n5 5 (by decide),Zdp]
  simp [Zdv,rnW,apK,rnK,tr,Xf,cW,Zdl,Zew,p0,show Zfc 5 5 1=5 from by decide,show Zfc 5 6 1=6 from by decide]
 have a7:ap Zdv (nrm ⟨1,[7],[]⟩)=none:=by
  rw [n5 7 (by decide),Zdp]
  simp [Zdv,rnW,apK,rnK,tr,Xf,cW,Zdl,Zew,p0]
  decide
 have h5:=Zps (Z4t 5 (by decide))
 have h7:=Zps (Z4t 7 (by decide))
 rw [a5] at h5
 rw [a7] at h7
 unfold Jr
 refine Option.bind_eq_some_iff.2 ⟨_,h5,?_⟩
 refine Option.bind_eq_some_iff.2 ⟨_,h7,?_⟩
 rfl
def rfG {α β:Type} (pl:β→Nat) (f:β→Option α) (g:Nat→α):Nat→Nat→List β→Option (List α)
 | 0,_,_=>some []
 | n+1,i,[]=>(rfG pl f g n (i+1) []).map (g i::·)
 | n+1,i,w::ws=>if pl w=i then (f w).bind fun u=>(rfG pl f g n (i+1) ws).map (u::·) else (rfG pl f g n (i+1) (w::ws)).map (g i::·)
def gtG {α β:Type} (pl:β→Nat) (f:β→Option α) (g:Nat→α) (ws:List β) (j:Nat):Option α:=match ws.find? fun w=>pl w == j with
 | some w=>f w
 | none=>some (g j)
theorem Z00 {α β:Type} (pl:β→Nat) (f:β→Option α) (g:Nat→α) (w:β) (ws:List β) (j:Nat):gtG pl f g (w::ws) j=if pl w=j then f w else gtG pl f g ws j:=by
 unfold gtG
 rw [List.find?_cons]
 by_cases h:pl w=j
 ·rw [if_pos h,show (pl w == j)=true from by rw [beq_iff_eq];exact h]
 rw [if_neg h,show (pl w == j)=false from by rw [beq_eq_false_iff_ne];exact h]
theorem Z01 {α β:Type} {pl:β→Nat} {f:β→Option α} {g:Nat→α} {ws:List β} {j:Nat} (h:∀ w∈ws,pl w≠j):gtG pl f g ws j=some (g j):=by
 unfold gtG
 rw [show ws.find? (fun w=>pl w == j)=none from by rw [List.find?_eq_none];intro w hw;rw [beq_iff_eq];exact h w hw]
theorem Zjb {α β:Type} {pl:β→Nat} {f:β→Option α} {g:Nat→α}:∀ (n i:Nat) (ws:List β),ws.Pairwise (fun a b=>pl a < pl b)→(∀ w∈ws,i≤pl w∧pl w < i+n) →
  ((∀ w∈ws,(f w).isSome=true)→∃ out,rfG pl f g n i ws=some out∧out.length=n∧∀ j,j < n→out[j]? = gtG pl f g ws (i+j))∧((∃ w∈ws,f w=none)→rfG pl f g n i ws=none)
 | 0,i,ws,hp,hr=>by
  have:ws=[]:=by
   cases ws with
   | nil=>rfl
   | cons w ws=>have:=hr w (.head _);omega
  subst this
  exact ⟨fun _=>⟨[],rfl,rfl,fun j hj=>by omega⟩,fun ⟨w,hw,_⟩=>by cases hw⟩
 | n+1,i,[],hp,hr=>by
  obtain ⟨i1,i2⟩:=Zjb (pl:=pl) (f:=f) (g:=g) n (i+1) [] .nil (fun w hw=>by cases hw)
  obtain ⟨out,h1,h2,h3⟩:=i1 fun w hw=>by cases hw
  refine ⟨fun _=>⟨g i::out,by rw [rfG,h1];rfl,by rw [List.length_cons,h2],fun j hj => ?_⟩,fun ⟨w,hw,_⟩=>by cases hw⟩
  cases j with
  | zero=>rfl
  | succ j =>
   rw [List.getElem?_cons_succ,h3 j (by omega),show i+1+j=i+(j+1) by omega]
 | n+1,i,w::ws,hp,hr=>by
  obtain ⟨hp1,hp2⟩:=List.pairwise_cons.1 hp
  have hw:=hr w (.head _)
  by_cases hi:pl w=i
  ·obtain ⟨i1,i2⟩:=Zjb (pl:=pl) (f:=f) (g:=g) n (i+1) ws hp2 fun x hx=>by
    have:=hp1 x hx
    have:=hr x (.tail _ hx)
    omega
   refine ⟨fun h => ?_,fun ⟨x,hx,hn⟩ => ?_⟩
   ·obtain ⟨out,h1,h2,h3⟩:=i1 fun x hx=>h x (.tail _ hx)
    obtain ⟨u,hu⟩:=Option.isSome_iff_exists.1 (h w (.head _))
    refine ⟨u::out,by rw [rfG,if_pos hi,hu,Option.bind_some,h1];rfl,by rw [List.length_cons,h2],fun j hj => ?_⟩
    rw [Z00]
    cases j with
    | zero=>rw [if_pos (by omega),hu];rfl
    | succ j =>
     rw [List.getElem?_cons_succ,h3 j (by omega),if_neg (by omega),show i+1+j=i+(j+1) by omega]
   rw [rfG,if_pos hi]
   rcases List.mem_cons.1 hx with rfl | hx
   ·rw [hn];rfl
   rw [i2 ⟨x,hx,hn⟩]
   cases f w <;> rfl
  obtain ⟨i1,i2⟩:=Zjb (pl:=pl) (f:=f) (g:=g) n (i+1) (w::ws) hp fun x hx=>by
   have:=hr x hx
   rcases List.mem_cons.1 hx with rfl | hx
   ·omega
   have:=hp1 x hx
   omega
  refine ⟨fun h => ?_,fun h => ?_⟩
  ·obtain ⟨out,h1,h2,h3⟩:=i1 h
   refine ⟨g i::out,by rw [rfG,if_neg hi,h1];rfl,by rw [List.length_cons,h2],fun j hj => ?_⟩
   cases j with
   | zero =>
    rw [Z01 fun x hx => ?_]
    ·rfl
    rcases List.mem_cons.1 hx with rfl | hx
    ·omega
    have:=hp1 x hx
    omega
   | succ j =>
    rw [List.getElem?_cons_succ,h3 j (by omega),show i+1+j=i+(j+1) by omega]
  rw [rfG,if_neg hi,i2 h]
  rfl
theorem Zph {α β γ:Type} {pl:β→Nat} {f:β→Option α} {g:Nat→α} (h:α→γ):∀ (n i:Nat) (ws:List β),(rfG pl f g n i ws).map (List.map h)=rfG pl (fun w=>(f w).map h) (fun i=>h (g i)) n i ws
 | 0,i,ws=>by cases ws <;> rfl
 | n+1,i,[]=>by
  rw [rfG,rfG,← Zph h n (i+1) []]
  cases rfG pl f g n (i+1) [] <;> rfl
 | n+1,i,w::ws=>by
  rw [rfG,rfG]
  by_cases hi:pl w=i
  ·rw [if_pos hi,if_pos hi,← Zph h n (i+1) ws]
   cases f w with
   | none=>rfl
   | some u=>cases rfG pl f g n (i+1) ws <;> rfl
  rw [if_neg hi,if_neg hi,← Zph h n (i+1) (w::ws)]
  cases rfG pl f g n (i+1) (w::ws) <;> rfl
theorem Z1x {o:List Int} {ws:List Zn} {n:Nat} (hs:ws.Pairwise (fun a b=>a.At.toNat < b.At.toNat)) (hn:∀ w∈ws,w.At.toNat < n) (hl:o.length≤n) :
  (rfG (fun w:Zn=>w.At.toNat) (fun w=>if cW (Xf 0 o w.At.toNat) w=true then some (Zdl (Xf 0 o w.At.toNat) w) else none) (Xf 0 o) n 0 ws).map (tr p0)=(rnW o ws o).map (tr p0):=by
 obtain ⟨a1,a2⟩:=Zjb (pl:=fun w:Zn=>w.At.toNat) (f:=fun w=>if cW (Xf 0 o w.At.toNat) w=true then some (Zdl (Xf 0 o w.At.toNat) w) else none) (g:=Xf 0 o) n 0 ws hs fun w hw=>⟨Nat.zero_le _,by have:=hn w hw;omega⟩
 obtain ⟨c1,c2⟩:=Zmq o ws o (hs.imp fun h=>by omega)
 by_cases hk:Zxz o ws
 ·obtain ⟨out,h1,h2,h3⟩:=a1 fun w hw=>by rw [if_pos (hk w hw)];rfl
  obtain ⟨c',g1,g2⟩:=c1 hk
  rw [h1,g1]
  refine congrArg some (Zrz rfl out c' (fun x _ hx=>Zvs hx) (fun x _ hx=>Zvs hx) fun j => ?_)
  rw [g2]
  by_cases hj:j < n
  ·have:=h3 j hj
   unfold gtG at this
   rw [Nat.zero_add] at this
   unfold upW
   cases hf:ws.find? (fun w=>w.At.toNat == j) with
   | none =>
    rw [hf] at this
    unfold Xf at *
    rw [this];rfl
   | some w =>
    rw [hf] at this
    have hw:=List.mem_of_find?_eq_some hf
    have hj':=List.find?_some hf
    rw [beq_iff_eq] at hj'
    simp only at this
    rw [if_pos (hk w hw),hj'] at this
    unfold Xf at *
    rw [this];rfl
  have hf:ws.find? (fun w=>w.At.toNat == j)=none:=by
   rw [List.find?_eq_none];intro w hw;rw [beq_iff_eq];have:=hn w hw;omega
  unfold upW
  rw [hf]
  unfold Xf
  rw [List.getElem?_eq_none (by omega),List.getElem?_eq_none (by omega)]
 rw [c2 hk,a2 ?_]
 refine Classical.byContradiction fun q=>hk fun w hw=>Classical.byContradiction fun q2=>q ⟨w,hw,if_neg q2⟩
theorem Z3a {o:List Tr} {ks:List (Nat×(Tr→Option Tr))} {n:Nat} (hs:ks.Pairwise (fun a b=>a.1 < b.1)) (hn:∀ w∈ks,w.1 < n) (hl:o.length≤n) (ho:∀ x∈o,NT x) (hu:∀ w∈ks,∀ u,w.2 (Xf Qr o w.1)=some u→NT u) :
  (rfG (fun k:Nat×(Tr→Option Tr)=>k.1) (fun k=>k.2 (Xf Qr o k.1)) (Xf Qr o) n 0 ks).map (tr pT)=(rnK o ks o).map (tr pT):=by
 obtain ⟨a1,a2⟩:=Zjb (pl:=fun k:Nat×(Tr→Option Tr)=>k.1) (f:=fun k=>k.2 (Xf Qr o k.1)) (g:=Xf Qr o) n 0 ks hs fun w hw=>⟨Nat.zero_le _,by have:=hn w hw;omega⟩
 obtain ⟨c1,c2⟩:=Zv0 o ks o (hs.imp fun h=>by omega) hu
 by_cases hk:Z4e o ks
 ·obtain ⟨out,h1,h2,h3⟩:=a1 hk
  obtain ⟨c',g1,g2⟩:=c1 hk
  have hb:∀ j,Xf Qr out j=Xf Qr c' j:=fun j=>by
   rw [g2]
   by_cases hj:j < n
   ·have:=h3 j hj
    unfold gtG at this
    rw [Nat.zero_add] at this
    unfold upK
    cases hf:ks.find? (fun w=>w.1 == j) with
    | none =>
     rw [hf] at this
     unfold Xf at *
     rw [this];rfl
    | some w =>
     rw [hf] at this
     have hw:=List.mem_of_find?_eq_some hf
     have hj':=List.find?_some hf
     rw [beq_iff_eq] at hj'
     simp only at this
     rw [hj'] at this
     have hs:=hk w hw
     rw [hj'] at hs
     obtain ⟨u,hu'⟩:=Option.isSome_iff_exists.1 hs
     rw [hu'] at this
     simp only
     rw [hu']
     unfold Xf
     rw [this]
   have hf:ks.find? (fun w=>w.1 == j)=none:=by
    rw [List.find?_eq_none];intro w hw;rw [beq_iff_eq];have:=hn w hw;omega
   unfold upK
   rw [hf]
   unfold Xf
   rw [List.getElem?_eq_none (by omega),List.getElem?_eq_none (by omega)]
  rw [h1,g1]
  have q1:∀ x∈out,NT x:=fun x hx=>by
   obtain ⟨j,hj,rfl⟩:=List.mem_iff_getElem.1 hx
   have:=h3 j (by omega)
   rw [List.getElem?_eq_getElem hj] at this
   unfold gtG at this
   split at this
   ·rename_i w hf
    exact hu w (List.mem_of_find?_eq_some hf) _ this.symm
   injection this with this
   rw [this]
   rcases Zhb (z:=Qr) (l:=o) (i:=0+j) with h | h
   ·exact ho _ h
   rw [h];exact NT.z
  have q2:∀ x∈c',NT x:=fun x hx=>Zun o NT NT.z ks o c' (fun w hw u h=>hu w hw u h) ho g1 x hx
  exact congrArg some (Zrz rfl out c' (fun x hx hp=>(q1 x hx).null hp) (fun x hx hp=>(q2 x hx).null hp) hb)
 rw [c2 hk,a2 ?_]
 refine Classical.byContradiction fun q=>hk fun w hw => ?_
 cases h:w.2 (Xf Qr o w.1) with
 | some u=>rfl
 | none=>exact absurd ⟨w,hw,h⟩ q
theorem Z1f {x old m:Nat} (hx:x < 2 ^ 64) (ho:old < 2 ^ 64) (hw:Zfc old 0 m=0):Zfc 0 x m=old↔Zfc x old m=x:=by
 have hb:∀ i,i < 64→Zhc m (i / 8)=false→Nat.testBit old i=false:=fun i hi hm=>by
  have:=Zed old 0 m i hi
  rw [hw,if_neg (by rw [hm];simp),Nat.zero_testBit] at this
  exact this.symm
 constructor
 ·intro h
  refine Zto (Zl2 _ _ _) hx fun i hi => ?_
  rw [Zed _ _ _ _ hi]
  by_cases hm:Zhc m (i / 8)=true
  ·rw [if_pos hm,← h,Zed _ _ _ _ hi,if_pos hm]
  rw [if_neg hm]
 intro h
 refine Zto (Zl2 _ _ _) ho fun i hi => ?_
 rw [Zed _ _ _ _ hi]
 by_cases hm:Zhc m (i / 8)=true
 ·rw [if_pos hm]
  have:=Zed x old m i hi
  rw [h,if_pos hm] at this
  exact this
 rw [if_neg hm,hb i hi (by cases hq:Zhc m (i / 8) <;> simp_all),Nat.zero_testBit]
theorem Z33 {x:Int} {w:Zn} (hx:0≤x∧x < 18446744073709551616) (ho:0≤w.Old∧w.Old < 18446744073709551616) (hw:wi w.Old w.Mask=true):cW x w=decide (((Zfc 0 x.toNat w.Mask.toNat:Nat):Int)=w.Old):=by
 unfold wi at hw
 rw [beq_iff_eq] at hw
 unfold cW
 rw [decide_eq_decide,← Z1f (by omega) (by omega) hw]
 constructor
 ·intro h;rw [h];omega
 intro h;omega
def stF (o:EO) (f:Tr→Option Tr) (s:List Tr×List Tr):Option (List Tr×List Tr) :=
 if o.Kind=0 then (if 0≤o.N∧o.N.toNat≤s.1.length then some (s.1.drop o.N.toNat,s.2++s.1.take o.N.toNat) else none)
 else if o.Kind=1 then (if (s.1.take o.L.length).map nrm=o.L.map nrm then some (s.1.drop o.L.length,s.2) else none)
 else if o.Kind=2 then some (s.1,s.2++o.L)
 else if o.Kind=3 then (match s.1 with
  | []=>none
  | x::l=>(f x).map fun u=>(l,s.2++[u]))
 else none
def rnR:List (EO×(Tr→Option Tr))→List Tr×List Tr→Option (List Tr×List Tr)
 | [],s=>some s
 | (o,f)::r,s=>(stF o f s).bind (rnR r)
def nn2 (p:List Tr×List Tr):List Tr×List Tr:=(p.1.map nrm,p.2.map nrm)
theorem Z3c {o:EO} {f g:Tr→Option Tr} {s:List Tr×List Tr} (hf:o.Kind=3→∀ x∈s.1,f x=g (nrm x)) (hn:o.Kind=3→∀ x∈s.1,∀ u,g (nrm x)=some u→NT u):(stF o f s).map nn2=stO o g (nn2 s):=by
 obtain ⟨l,out⟩:=s
 unfold stF stO nn2
 simp only
 by_cases h0:o.Kind=0
 ·rw [if_pos h0,if_pos h0,List.length_map]
  by_cases h:0≤o.N∧o.N.toNat≤l.length
  ·rw [if_pos h,if_pos h]
   simp only [Option.map_some,List.map_append,List.map_drop,List.map_take]
  rw [if_neg h,if_neg h];rfl
 rw [if_neg h0,if_neg h0]
 by_cases h1:o.Kind=1
 ·rw [if_pos h1,if_pos h1,← List.map_take]
  by_cases h:(l.take o.L.length).map nrm=o.L.map nrm
  ·rw [if_pos h,if_pos h]
   simp only [Option.map_some,List.map_drop]
  rw [if_neg h,if_neg h];rfl
 rw [if_neg h1,if_neg h1]
 by_cases h2:o.Kind=2
 ·rw [if_pos h2,if_pos h2]
  simp only [Option.map_some,List.map_append]
 rw [if_neg h2,if_neg h2]
 by_cases h3:o.Kind=3
 ·rw [if_pos h3,if_pos h3]
  cases l with
  | nil=>rfl
  | cons x l =>
   simp only [List.map_cons]
   rw [hf h3 x (.head _)]
   cases hg:g (nrm x) with
   | none=>rfl
   | some u =>
    have:=hn h3 x (.head _) u hg
    simp only [Option.map_some,List.map_append,List.map_cons,List.map_nil]
    rw [show nrm u=u from this]
 rw [if_neg h3,if_neg h3];rfl
theorem Z3d {o:EO} {f:Tr→Option Tr} {s s':List Tr×List Tr} (h:stF o f s=some s'):∀ x∈s'.1,x∈s.1:=by
 unfold stF at h
 split at h
 ·split at h
  ·injection h with h;subst h;exact fun x hx=>List.mem_of_mem_drop hx
  cases h
 split at h
 ·split at h
  ·injection h with h;subst h;exact fun x hx=>List.mem_of_mem_drop hx
  cases h
 split at h
 ·injection h with h;subst h;exact fun x hx=>hx
 split at h
 ·obtain ⟨l,out⟩:=s
  cases l with
  | nil=>cases h
  | cons y l =>
   simp only at h
   cases hf:f y with
   | none=>rw [hf] at h;cases h
   | some u=>rw [hf] at h;injection h with h;subst h;exact fun x hx => .tail _ hx
 cases h
theorem Zzc:∀ (os:List (EO×(Tr→Option Tr)×(Tr→Option Tr))) (s:List Tr×List Tr),(∀ o∈os,o.1.Kind=3→∀ x∈s.1,o.2.1 x=o.2.2 (nrm x)∧∀ u,o.2.2 (nrm x)=some u→NT u) →
  (rnR (os.map fun o=>(o.1,o.2.1)) s).map nn2=rnO (os.map fun o=>(o.1,o.2.2)) (nn2 s)
 | [],s,_=>rfl
 | o::os,s,h=>by
  rw [List.map_cons,List.map_cons,rnR,rnO,← Z3c (o:=o.1) (f:=o.2.1) (g:=o.2.2) (s:=s) (fun k x hx=>(h o (.head _) k x hx).1) (fun k x hx=>(h o (.head _) k x hx).2)]
  cases hs:stF o.1 o.2.1 s with
  | none=>rfl
  | some s' =>
   rw [Option.bind_some,Option.map_some,Option.bind_some]
   exact Zzc os s' fun q hq k x hx=>h q (.tail _ hq) k x (Z3d hs x hx)
theorem Zum {α β γ:Type} {pl:γ→Nat} {f:γ→Option α} {g:Nat→α} (φ:β→γ):∀ (n i:Nat) (ws:List β),rfG (fun w=>pl (φ w)) (fun w=>f (φ w)) g n i ws=rfG pl f g n i (ws.map φ)
 | 0,i,ws=>by cases ws <;> rfl
 | n+1,i,[]=>by rw [rfG,Zum φ n (i+1) []];rfl
 | n+1,i,w::ws=>by
  rw [rfG,Zum φ n (i+1) ws,Zum φ n (i+1) (w::ws)]
  rfl
theorem Zkg {α β:Type} {pl:β→Nat} {f f':β→Option α} {g:Nat→α}:∀ (n i:Nat) (ws:List β),(∀ w∈ws,f w=f' w)→rfG pl f g n i ws=rfG pl f' g n i ws
 | 0,i,ws,_=>by cases ws <;> rfl
 | n+1,i,[],_=>by rw [rfG,rfG,Zkg n (i+1) [] (fun w hw=>by cases hw)]
 | n+1,i,w::ws,h=>by rw [rfG,rfG,Zkg n (i+1) ws (fun x hx=>h x (.tail _ hx)),Zkg n (i+1) (w::ws) h,h w (.head _)]
theorem Zz9 {e:Ed} {t:Tr} {n m:Nat} (k2:e.Kind=2) (t1:t.Kind=1) (hw:e.Words.Pairwise (fun a b=>a.At.toNat < b.At.toNat)) (hk:e.Kids.Pairwise (fun a b=>a.At.toNat < b.At.toNat)) (hwn:∀ w∈e.Words,w.At.toNat < n) (hkm:∀ k∈e.Kids,k.At.toNat < m) (ln:t.Words.length≤n) (lm:t.Kids.length≤m)
  (hu:∀ k∈e.Kids,∀ u,ap k.E (nrm (Xf Qr t.Kids k.At.toNat))=some u→NT u) :
  ((rfG (fun w:Zn=>w.At.toNat) (fun w=>if cW (Xf 0 t.Words w.At.toNat) w=true then some (Zdl (Xf 0 t.Words w.At.toNat) w) else none) (Xf 0 t.Words) n 0 e.Words).bind fun ws =>
   (rfG (fun k:S_api_KidEdit=>k.At.toNat) (fun k=>ap k.E (nrm (Xf Qr t.Kids k.At.toNat))) (Xf Qr t.Kids) m 0 e.Kids).map fun ks=>nrm ⟨1,ws,ks⟩)=ap e (nrm t):=by
 have nw:(nrm t).Words=tr p0 t.Words:=by rw [Jv t1];rfl
 have nk:(nrm t).Kids=tr pT (t.Kids.map nrm):=by rw [Jv t1];rfl
 have hatw:Xf 0 t.Words=Xf 0 (nrm t).Words:=funext fun i=>by rw [nw,Zw3 t.Words fun x _ hx=>Zvs hx]
 have hatm:∀ (l:List Tr) i,Xf Qr (l.map nrm) i=nrm (Xf Qr l i):=fun l i=>by
  unfold Xf
  rw [List.getElem?_map]
  cases l[i]? with
  | none=>exact NT.z.symm
  | some x=>rfl
 have hatk:∀ i,nrm (Xf Qr t.Kids i)=Xf Qr (nrm t).Kids i:=fun i=>by
  rw [nk,Zw3 (t.Kids.map nrm) (fun x hx hp=>by obtain ⟨y,_,rfl⟩:=List.mem_map.1 hx;exact (NT.of y).null hp),hatm]
 rw [Zdp,if_neg (by omega),if_neg (by omega),if_pos k2,if_pos (by rw [Uk];exact t1),hatw]
 have e1:=Z1x (o:=(nrm t).Words) hw hwn (by rw [nw];exact Nat.le_trans (Zf4 _ _) ln)
 have e2:=Z3a (o:=(nrm t).Kids) (ks:=apK e.Kids) (n:=m) (by unfold apK;rw [List.pairwise_map];exact hk) (fun w hw=>by
  obtain ⟨k,hkm',rfl⟩:=List.mem_map.1 hw
  exact hkm k hkm') (by rw [nk];exact Nat.le_trans (Zf4 _ _) (by rw [List.length_map];exact lm)) (NT.of t).kids (fun w hw u h=>by
  obtain ⟨k,hkm',rfl⟩:=List.mem_map.1 hw
  simp only at h
  rw [← hatk] at h
  exact hu k hkm' u h)
 unfold apK at e2
 rw [← Zum (pl:=fun k:Nat×(Tr→Option Tr)=>k.1) (f:=fun k=>k.2 (Xf Qr (nrm t).Kids k.1)) (fun k:S_api_KidEdit=>(k.At.toNat,ap k.E))] at e2
 have e3:(rfG (fun k:S_api_KidEdit=>k.At.toNat) (fun k=>ap k.E (nrm (Xf Qr t.Kids k.At.toNat))) (Xf Qr t.Kids) m 0 e.Kids).map (List.map nrm)=rfG (fun k:S_api_KidEdit=>k.At.toNat) (fun k=>ap k.E (Xf Qr (nrm t).Kids k.At.toNat)) (Xf Qr (nrm t).Kids) m 0 e.Kids:=by
  rw [Zph,show (fun i=>nrm (Xf Qr t.Kids i))=Xf Qr (nrm t).Kids from funext hatk]
  refine Zkg m 0 e.Kids fun k hk' => ?_
  rw [hatk]
  cases h:ap k.E (Xf Qr (nrm t).Kids k.At.toNat) with
  | none=>rfl
  | some u =>
   have:=hu k hk' u (by rw [hatk];exact h)
   rw [Option.map_some,show nrm u=u from this]
 rw [← e3,Option.map_map] at e2
 cases hA:rfG (fun w:Zn=>w.At.toNat) (fun w=>if cW (Xf 0 (nrm t).Words w.At.toNat) w=true then some (Zdl (Xf 0 (nrm t).Words w.At.toNat) w) else none) (Xf 0 (nrm t).Words) n 0 e.Words with
 | none =>
  rw [hA] at e1
  cases hB:rnW (nrm t).Words e.Words (nrm t).Words with
  | none=>rfl
  | some c=>rw [hB] at e1;cases e1
 | some ws =>
  rw [hA] at e1
  cases hB:rnW (nrm t).Words e.Words (nrm t).Words with
  | none=>rw [hB] at e1;cases e1
  | some c =>
   rw [hB] at e1
   have e1':tr p0 ws=tr p0 c:=by injection e1
   rw [Option.bind_some,Option.bind_some]
   unfold apK
   cases hC:rfG (fun k:S_api_KidEdit=>k.At.toNat) (fun k=>ap k.E (nrm (Xf Qr t.Kids k.At.toNat))) (Xf Qr t.Kids) m 0 e.Kids with
   | none =>
    rw [hC] at e2
    cases hD:rnK (nrm t).Kids (e.Kids.map fun k=>(k.At.toNat,ap k.E)) (nrm t).Kids with
    | none=>rfl
    | some d=>rw [hD] at e2;cases e2
   | some ks =>
    rw [hC] at e2
    cases hD:rnK (nrm t).Kids (e.Kids.map fun k=>(k.At.toNat,ap k.E)) (nrm t).Kids with
    | none=>rw [hD] at e2;cases e2
    | some d =>
     rw [hD] at e2
     have e2':tr pT (ks.map nrm)=tr pT d:=by injection e2
     rw [Option.map_some,Option.bind_some,Jv rfl]
     simp only
     rw [← e1',← e2']
     rfl
theorem Z3b {e:Ed} {t:Tr} (k3:e.Kind=3) (hl:2≤t.Kind∧t.Kind≤9) (hk:t.Kind=e.List_) (hu:∀ o∈e.Ops,o.Kind=3→∀ x∈t.Kids,∀ u,ap o.E (nrm x)=some u→NT u) :
  ((rnR (e.Ops.map fun o=>(o,fun x=>ap o.E (nrm x))) (t.Kids,[])).bind fun p=>if p.1=[] then some (nrm ⟨t.Kind,[],p.2⟩) else none)=ap e (nrm t):=by
 have nk:(nrm t).Kids=t.Kids.map nrm:=by rw [Zb2 (by omega) (by omega)]
 rw [Zdp,if_neg (by omega),if_neg (by omega),if_neg (by omega),if_pos k3,Uk,if_pos hk,nk]
 have h:=Zzc (e.Ops.map fun o=>(o,(fun x=>ap o.E (nrm x)),ap o.E)) (t.Kids,[]) (fun o ho k x hx=>by
  obtain ⟨q,hq,rfl⟩:=List.mem_map.1 ho
  exact ⟨rfl,hu q hq k x hx⟩)
 rw [List.map_map,List.map_map] at h
 have h':(rnR (e.Ops.map fun o=>(o,fun x=>ap o.E (nrm x))) (t.Kids,[])).map nn2=rnO (apO e.Ops) (t.Kids.map nrm,[]):=h
 rw [← h']
 cases rnR (e.Ops.map fun o=>(o,fun x=>ap o.E (nrm x))) (t.Kids,[]) with
 | none=>rfl
 | some p =>
  obtain ⟨l,out⟩:=p
  rw [Option.bind_some,Option.map_some]
  cases l with
  | nil =>
   rw [if_pos rfl,Zb2 (by simp only;omega) (by simp only;omega)]
   rfl
  | cons x l=>rw [if_neg (by simp)];rfl
theorem Z3r {e:Ed} {t u:Tr} (h:CA e t) (hu:ap e (nrm t)=some u):NT u:=by
 obtain ⟨v,b,h1,h2,h3⟩:=(Zlh (4 * SizeOf.sizeOf e+1)).1 e t h (by omega)
 obtain ⟨g1,g2⟩:=h3 u hu
 rw [← g1];exact NT.of v
theorem Zmo {α β:Type} {pl:β→Nat} {f:β→Option α} {g:Nat→α} {Q:α→Prop} (hg:∀ j,Q (g j)):∀ (n i:Nat) (ws:List β) (out:List α),(∀ w∈ws,∀ u,f w=some u→Q u)→rfG pl f g n i ws=some out→out.length=n∧∀ x∈out,Q x
 | 0,i,ws,out,_,h=>by
  have:rfG pl f g 0 i ws=some []:=by cases ws <;> rfl
  rw [this] at h
  injection h with h
  subst h
  exact ⟨rfl,fun x hx=>by cases hx⟩
 | n+1,i,[],out,hf,h=>by
  rw [rfG] at h
  cases hr:rfG pl f g n (i+1) [] with
  | none=>rw [hr] at h;cases h
  | some l =>
   rw [hr] at h
   injection h with h
   subst h
   obtain ⟨h1,h2⟩:=Zmo hg n (i+1) [] l hf hr
   refine ⟨by rw [List.length_cons,h1],fun x hx => ?_⟩
   rcases List.mem_cons.1 hx with rfl | hx
   ·exact hg i
   exact h2 x hx
 | n+1,i,w::ws,out,hf,h=>by
  rw [rfG] at h
  by_cases hi:pl w=i
  ·rw [if_pos hi] at h
   cases hw:f w with
   | none=>rw [hw] at h;cases h
   | some u =>
    rw [hw,Option.bind_some] at h
    cases hr:rfG pl f g n (i+1) ws with
    | none=>rw [hr] at h;cases h
    | some l =>
     rw [hr] at h
     injection h with h
     subst h
     obtain ⟨h1,h2⟩:=Zmo hg n (i+1) ws l (fun x hx=>hf x (.tail _ hx)) hr
     refine ⟨by rw [List.length_cons,h1],fun x hx => ?_⟩
     rcases List.mem_cons.1 hx with rfl | hx
     ·exact hf w (.head _) _ hw
     exact h2 x hx
  rw [if_neg hi] at h
  cases hr:rfG pl f g n (i+1) (w::ws) with
  | none=>rw [hr] at h;cases h
  | some l =>
   rw [hr] at h
   injection h with h
   subst h
   obtain ⟨h1,h2⟩:=Zmo hg n (i+1) (w::ws) l hf hr
   refine ⟨by rw [List.length_cons,h1],fun x hx => ?_⟩
   rcases List.mem_cons.1 hx with rfl | hx
   ·exact hg i
   exact h2 x hx
theorem Z2j {α:Type} (At:α→Int) (l:List α) (n:Nat) (h2:∀ x∈l,0≤At x∧At x≤65534) (hs:l.Pairwise fun a b=>(At a).toNat < (At b).toNat) (hl:l.length≤1048576) (hn:n≤5000000) :
  ∃ m:Nat,((cond (decide (0 < (l.length:Int))) ((Xc l (IntKind.i64.wrap ((l.length:Int) - 1))).bind fun x=>some (cond (decide (0 < (l.length:Int))) (decide ((n:Int)≤At x)) false)) (some false)).bind fun (z:Bool)=>cond z ((Xc l (IntKind.i64.wrap ((l.length:Int) - 1))).bind fun x=>some (IntKind.i64.wrap (At x+1))) (some (n:Int)))=some (m:Int)∧n≤m∧m≤5065536∧∀ x∈l,(At x).toNat < m:=by
 rcases List.eq_nil_or_concat l with rfl | ⟨l',x,rfl⟩
 ·exact ⟨n,rfl,Nat.le_refl _,by omega,fun x hx=>by cases hx⟩
 rw [List.concat_eq_append] at *
 rw [List.length_append,List.length_singleton] at hl ⊢
 have hx:x∈l'++[x]:=by simp
 have hg:Xc (l'++[x]) (IntKind.i64.wrap (((l'.length+1:Nat):Int) - 1))=some x:=by
  rw [Jq (by omega) (by omega),show (((l'.length+1:Nat):Int) - 1)=((l'.length:Nat):Int) by omega]
  exact Ya (by rw [List.getElem?_append_right (Nat.le_refl _),Nat.sub_self];rfl)
 have hd:decide (0 < ((l'.length+1:Nat):Int))=true:=by rw [decide_eq_true_eq];omega
 have hA:=h2 x hx
 have hm:∀ y∈l'++[x],(At y).toNat≤(At x).toNat:=fun y hy=>by
  rcases List.mem_append.1 hy with hy | hy
  ·exact Nat.le_of_lt ((List.pairwise_append.1 hs).2.2 y hy x (by simp))
  rw [List.mem_singleton] at hy;subst hy;exact Nat.le_refl _
 rw [hd,cond_true,hg,Option.bind_some,Option.bind_some,Option.bind_some,cond_true]
 by_cases hle:(n:Int)≤At x
 ·rw [show decide ((n:Int)≤At x)=true from decide_eq_true hle,cond_true,Jq (by omega) (by omega)]
  exact ⟨(At x).toNat+1,by congr 1;omega,by omega,by omega,fun y hy=>by have:=hm y hy;omega⟩
 rw [show decide ((n:Int)≤At x)=false from decide_eq_false hle,cond_false]
 exact ⟨n,rfl,Nat.le_refl _,by omega,fun y hy=>by have:=hm y hy;omega⟩
theorem Zmr {t:Tr} (i:Nat):Uj t i=some (Xf 0 t.Words i):=by
 unfold Uj Xf
 by_cases h:i < t.Words.length
 ·rw [Vh h,cond_true,Ya (List.getElem?_eq_getElem h),List.getElem?_eq_getElem h];rfl
 rw [show decide ((i:Int) < ((t.Words.length:Nat):Int))=false from by rw [decide_eq_false_iff_not];omega,cond_false,List.getElem?_eq_none (by omega)];rfl
theorem Zpi {t:Tr} (i:Nat):U3 t i=some (Xf Qr t.Kids i):=by
 unfold U3 Xf
 by_cases h:i < t.Kids.length
 ·rw [Vh h,cond_true,Ya (List.getElem?_eq_getElem h),List.getElem?_eq_getElem h];rfl
 rw [show decide ((i:Int) < ((t.Kids.length:Nat):Int))=false from by rw [decide_eq_false_iff_not];omega,cond_false,List.getElem?_eq_none (by omega)];rfl
theorem Zsr {x:Int} (h:0≤x) (i:Nat):(x == (i:Int))=decide (x.toNat=i):=by
 by_cases hi:x.toNat=i
 ·rw [decide_eq_true hi,beq_iff_eq];omega
 rw [decide_eq_false hi,beq_eq_false_iff_ne];omega
theorem Zpg {e:Ed} {t:Tr} (hb:BE e) (hg:GN e) (hw2:∀ w∈e.Words,0≤w.At∧w.At≤65534) (hwi:∀ w∈e.Words,wi w.Old w.Mask=true) (ht:Bd t):∀ (m i:Nat) (ws:List Zn) (a n:Nat) (out:List Int),n=i+m→n≤5065536→e.Words.drop a=ws→a≤e.Words.length→out.length=i →
  Zw (Yj e t (n:Int)) ((a:Int),(i:Int),out)=some (match rfG (fun w:Zn=>w.At.toNat) (fun w=>if cW (Xf 0 t.Words w.At.toNat) w=true then some (Zdl (Xf 0 t.Words w.At.toNat) w) else none) (Xf 0 t.Words) m i ws with | none => .inl () | some l => .inr (out++l))
 | 0,i,ws,a,n,out,hn,hn2,hd,ha,ho=>by
  refine Z6 ?_
  unfold Yj
  simp only
  rw [show decide ((i:Int) < (n:Int))=false from by rw [decide_eq_false_iff_not];omega,cond_false]
  cases ws <;> simp [rfG]
 | m+1,i,[],a,n,out,hn,hn2,hd,ha,ho=>by
  obtain rfl:=drop_nil hd ha
  have hstep:Yj e t (n:Int) ((e.Words.length:Int),(i:Int),out)=some (.inl ((e.Words.length:Int),((i+1:Nat):Int),out++[Xf 0 t.Words i])):=by
   unfold Yj
   simp only
   rw [show decide ((i:Int) < (n:Int))=true from by rw [decide_eq_true_eq];omega,cond_true,Zmr,Option.bind_some,Zck,cond_false,Option.bind_some,cond_false,Option.bind_some]
   simp only
   rw [Vf (by simp only [List.length_singleton];omega) (by simp only [List.length_singleton];omega),Option.bind_some,Jq (by omega) (by omega)]
   rfl
  rw [Yn hstep,Zpg hb hg hw2 hwi ht m (i+1) [] _ n _ (by omega) hn2 hd ha (by rw [List.length_append,ho];rfl)]
  rw [rfG]
  cases rfG (fun w:Zn=>w.At.toNat) (fun w=>if cW (Xf 0 t.Words w.At.toNat) w=true then some (Zdl (Xf 0 t.Words w.At.toNat) w) else none) (Xf 0 t.Words) m (i+1) [] with
  | none=>rfl
  | some l=>simp
 | m+1,i,w::ws,a,n,out,hn,hn2,hd,ha,ho=>by
  obtain ⟨hi',hx,hd'⟩:=Zcz hd
  have hm:=List.mem_of_getElem? hx
  have hA:=hw2 w hm
  obtain ⟨⟨m0,m1⟩,⟨o0,o1⟩,n0,n1⟩:=hb.ws w hm
  have hlen:=hg.w
  have hr:=Zxj ht.u i
  have hxn:((Xf 0 t.Words i).toNat:Int)=Xf 0 t.Words i:=by omega
  by_cases hi:w.At.toNat=i
  ·have hm1:Qa 0 (Xf 0 t.Words i) w.Mask=some ((Zfc 0 (Xf 0 t.Words i).toNat w.Mask.toNat:Nat):Int):=by
    have:=Zxx 0 (Xf 0 t.Words i).toNat w.Mask.toNat (by omega) (by omega) (by omega)
    rw [hxn,show ((w.Mask.toNat:Nat):Int)=w.Mask by omega] at this
    exact this
   have hm2:Qa (Xf 0 t.Words i) w.New w.Mask=some (Zdl (Xf 0 t.Words i) w):=by
    have:=Zxx (Xf 0 t.Words i).toNat w.New.toNat w.Mask.toNat (by omega) (by omega) (by omega)
    rw [hxn,show ((w.Mask.toNat:Nat):Int)=w.Mask by omega,show ((w.New.toNat:Nat):Int)=w.New by omega] at this
    exact this
   have hc:=Z33 (x:=Xf 0 t.Words i) (w:=w) hr ⟨o0,o1⟩ (hwi w hm)
   cases hcw:cW (Xf 0 t.Words i) w with
   | false =>
    rw [hcw] at hc
    have hne:(((Zfc 0 (Xf 0 t.Words i).toNat w.Mask.toNat:Nat):Int) != w.Old)=true:=bne_iff_ne.2 fun q=>by rw [decide_eq_true q] at hc;cases hc
    rw [rfG,if_pos hi]
    simp only [hi]
    rw [if_neg (by rw [hcw];simp),Option.bind_none]
    refine Z6 ?_
    unfold Yj
    simp only
    rw [show decide ((i:Int) < (n:Int))=true from by rw [decide_eq_true_eq];omega,cond_true,Zmr,Option.bind_some,Vh hi',cond_true,Ya hx,Option.bind_some,cond_true,Zsr hA.1,decide_eq_true hi,Option.bind_some,cond_true,Option.bind_some,hm1,Option.bind_some,hne,cond_true,Option.bind_some]
   | true =>
    rw [hcw] at hc
    have hne:(((Zfc 0 (Xf 0 t.Words i).toNat w.Mask.toNat:Nat):Int) != w.Old)=false:=bne_eq_false_iff_eq.2 (of_decide_eq_true hc.symm)
    have hstep:Yj e t (n:Int) ((a:Int),(i:Int),out)=some (.inl (((a+1:Nat):Int),((i+1:Nat):Int),out++[Zdl (Xf 0 t.Words i) w])):=by
     unfold Yj
     simp only
     rw [show decide ((i:Int) < (n:Int))=true from by rw [decide_eq_true_eq];omega,cond_true,Zmr,Option.bind_some,Vh hi',cond_true,Ya hx,Option.bind_some,cond_true,Zsr hA.1,decide_eq_true hi,Option.bind_some,cond_true,Option.bind_some,hm1,Option.bind_some,hne,cond_false,hm2,Option.bind_some,Option.bind_some]
     simp only
     rw [Vf (by simp only [List.length_singleton];omega) (by simp only [List.length_singleton];omega),Option.bind_some,Jq (by omega) (by omega),Jq (by omega) (by omega)]
     rfl
    rw [Yn hstep,Zpg hb hg hw2 hwi ht m (i+1) ws _ n _ (by omega) hn2 hd' (by omega) (by rw [List.length_append,ho];rfl)]
    rw [rfG,if_pos hi]
    simp only [hi]
    rw [if_pos hcw,Option.bind_some]
    cases rfG (fun w:Zn=>w.At.toNat) (fun w=>if cW (Xf 0 t.Words w.At.toNat) w=true then some (Zdl (Xf 0 t.Words w.At.toNat) w) else none) (Xf 0 t.Words) m (i+1) ws with
    | none=>rfl
    | some l=>simp
  have hstep:Yj e t (n:Int) ((a:Int),(i:Int),out)=some (.inl ((a:Int),((i+1:Nat):Int),out++[Xf 0 t.Words i])):=by
   unfold Yj
   simp only
   rw [show decide ((i:Int) < (n:Int))=true from by rw [decide_eq_true_eq];omega,cond_true,Zmr,Option.bind_some,Vh hi',cond_true,Ya hx,Option.bind_some,cond_true,Zsr hA.1,decide_eq_false hi,Option.bind_some,cond_false,Option.bind_some]
   simp only
   rw [Vf (by simp only [List.length_singleton];omega) (by simp only [List.length_singleton];omega),Option.bind_some,Jq (by omega) (by omega)]
   rfl
  rw [Yn hstep,Zpg hb hg hw2 hwi ht m (i+1) (w::ws) _ n _ (by omega) hn2 hd ha (by rw [List.length_append,ho];rfl)]
  rw [rfG,if_neg hi]
  cases rfG (fun w:Zn=>w.At.toNat) (fun w=>if cW (Xf 0 t.Words w.At.toNat) w=true then some (Zdl (Xf 0 t.Words w.At.toNat) w) else none) (Xf 0 t.Words) m (i+1) (w::ws) with
  | none=>rfl
  | some l=>simp
def opR:Option Tr→Tr×Bool
 | some u=>(u,true)
 | none=>(Qr,false)
theorem Zpf {f:Ed→Tr→Option (Tr×Bool)} {e:Ed} {t:Tr} (hg:GN e) (hk2:∀ k∈e.Kids,0≤k.At∧k.At≤65534) (hf:∀ k∈e.Kids,f k.E (Xf Qr t.Kids k.At.toNat)=some (opR (ap k.E (nrm (Xf Qr t.Kids k.At.toNat))))):∀ (m i:Nat) (ks:List S_api_KidEdit) (a n:Nat) (out:List Tr),n=i+m→n≤5065536→e.Kids.drop a=ks→a≤e.Kids.length→out.length=i →
  Zw (Yk f e t (n:Int)) ((a:Int),(i:Int),out)=some (match rfG (fun k:S_api_KidEdit=>k.At.toNat) (fun k=>ap k.E (nrm (Xf Qr t.Kids k.At.toNat))) (Xf Qr t.Kids) m i ks with | none => .inl () | some l => .inr (out++l))
 | 0,i,ks,a,n,out,hn,hn2,hd,ha,ho=>by
  refine Z6 ?_
  unfold Yk
  simp only
  rw [show decide ((i:Int) < (n:Int))=false from by rw [decide_eq_false_iff_not];omega,cond_false]
  cases ks <;> simp [rfG]
 | m+1,i,[],a,n,out,hn,hn2,hd,ha,ho=>by
  obtain rfl:=drop_nil hd ha
  have hstep:Yk f e t (n:Int) ((e.Kids.length:Int),(i:Int),out)=some (.inl ((e.Kids.length:Int),((i+1:Nat):Int),out++[Xf Qr t.Kids i])):=by
   unfold Yk
   simp only
   rw [show decide ((i:Int) < (n:Int))=true from by rw [decide_eq_true_eq];omega,cond_true,Zpi,Option.bind_some,Zck,cond_false,Option.bind_some,cond_false,Option.bind_some]
   simp only [Zzj]
   rw [Vf (by simp only [List.length_singleton];omega) (by simp only [List.length_singleton];omega),Option.bind_some,Jq (by omega) (by omega)]
   rfl
  rw [Yn hstep,Zpf hg hk2 hf m (i+1) [] _ n _ (by omega) hn2 hd ha (by rw [List.length_append,ho];rfl)]
  rw [rfG]
  cases rfG (fun k:S_api_KidEdit=>k.At.toNat) (fun k=>ap k.E (nrm (Xf Qr t.Kids k.At.toNat))) (Xf Qr t.Kids) m (i+1) [] with
  | none=>rfl
  | some l=>simp
 | m+1,i,w::ks,a,n,out,hn,hn2,hd,ha,ho=>by
  obtain ⟨hi',hx,hd'⟩:=Zcz hd
  have hm:=List.mem_of_getElem? hx
  have hA:=hk2 w hm
  have hlen:=hg.k
  by_cases hi:w.At.toNat=i
  ·have hfw:=hf w hm
   rw [hi] at hfw
   rw [rfG,if_pos hi]
   simp only [hi]
   cases hap:ap w.E (nrm (Xf Qr t.Kids i)) with
   | none =>
    rw [hap] at hfw
    rw [Option.bind_none]
    refine Z6 ?_
    unfold Yk
    simp only
    rw [show decide ((i:Int) < (n:Int))=true from by rw [decide_eq_true_eq];omega,cond_true,Zpi,Option.bind_some,Vh hi',cond_true,Ya hx,Option.bind_some,cond_true,Zsr hA.1,decide_eq_true hi,Option.bind_some,cond_true,Option.bind_some,hfw,Option.bind_some]
    rfl
   | some u =>
    rw [hap] at hfw
    have hstep:Yk f e t (n:Int) ((a:Int),(i:Int),out)=some (.inl (((a+1:Nat):Int),((i+1:Nat):Int),out++[u])):=by
     unfold Yk
     simp only
     rw [show decide ((i:Int) < (n:Int))=true from by rw [decide_eq_true_eq];omega,cond_true,Zpi,Option.bind_some,Vh hi',cond_true,Ya hx,Option.bind_some,cond_true,Zsr hA.1,decide_eq_true hi,Option.bind_some,cond_true,Option.bind_some,hfw,Option.bind_some]
     simp only [opR,Bool.not_true,cond_false,Option.bind_some,Zzj]
     rw [Vf (by simp only [List.length_singleton];omega) (by simp only [List.length_singleton];omega),Option.bind_some,Jq (by omega) (by omega),Jq (by omega) (by omega)]
     rfl
    rw [Yn hstep,Zpf hg hk2 hf m (i+1) ks _ n _ (by omega) hn2 hd' (by omega) (by rw [List.length_append,ho];rfl),Option.bind_some]
    cases rfG (fun k:S_api_KidEdit=>k.At.toNat) (fun k=>ap k.E (nrm (Xf Qr t.Kids k.At.toNat))) (Xf Qr t.Kids) m (i+1) ks with
    | none=>rfl
    | some l=>simp
  have hstep:Yk f e t (n:Int) ((a:Int),(i:Int),out)=some (.inl ((a:Int),((i+1:Nat):Int),out++[Xf Qr t.Kids i])):=by
   unfold Yk
   simp only
   rw [show decide ((i:Int) < (n:Int))=true from by rw [decide_eq_true_eq];omega,cond_true,Zpi,Option.bind_some,Vh hi',cond_true,Ya hx,Option.bind_some,cond_true,Zsr hA.1,decide_eq_false hi,Option.bind_some,cond_false,Option.bind_some]
   simp only [Zzj]
   rw [Vf (by simp only [List.length_singleton];omega) (by simp only [List.length_singleton];omega),Option.bind_some,Jq (by omega) (by omega)]
   rfl
  rw [Yn hstep,Zpf hg hk2 hf m (i+1) (w::ks) _ n _ (by omega) hn2 hd ha (by rw [List.length_append,ho];rfl)]
  rw [rfG,if_neg hi]
  cases rfG (fun k:S_api_KidEdit=>k.At.toNat) (fun k=>ap k.E (nrm (Xf Qr t.Kids k.At.toNat))) (Xf Qr t.Kids) m (i+1) (w::ks) with
  | none=>rfl
  | some l=>simp
theorem Zve {n m:Nat} (h:n < m):decide ((m:Int)≤(n:Int))=false:=by rw [decide_eq_false_iff_not];omega
theorem Z08 {n m:Nat} (h:m≤n):decide ((m:Int)≤(n:Int))=true:=by rw [decide_eq_true_eq];omega
theorem Zvw {t:Tr} {o:EO} (k0:o.Kind=0) (hN:0≤o.N∧o.N.toNat≤1073741824) (ht:t.Kids.length≤1000000):∀ (m n a:Nat) (out:List Tr),o.N.toNat=n+m→a≤t.Kids.length→out.length+m≤2000000000 →
  Zw (Xa t o) ((a:Int),(n:Int),out)=some (if m≤t.Kids.length - a then .inr (((a+m:Nat):Int),out++(t.Kids.drop a).take m) else .inl ())
 | 0,n,a,out,hn,ha,ho=>by
  refine Z6 ?_
  unfold Xa
  simp only
  rw [show decide ((n:Int) < o.N)=false from by rw [decide_eq_false_iff_not];omega,cond_false,cond_false,if_pos (Nat.zero_le _)]
  simp
 | m+1,n,a,out,hn,ha,ho=>by
  by_cases hk:a < t.Kids.length
  ·have hx:t.Kids[a]? = some t.Kids[a]:=List.getElem?_eq_getElem hk
   have hstep:Xa t o ((a:Int),(n:Int),out)=some (.inl (((a+1:Nat):Int),((n+1:Nat):Int),out++[t.Kids[a]])):=by
    unfold Xa
    simp only
    rw [show decide ((n:Int) < o.N)=true from by rw [decide_eq_true_eq];omega,show (o.Kind == 0)=true from by rw [k0];rfl,cond_true,cond_true,Zve hk,cond_false,Ya hx,Option.bind_some,Vf (by simp only [List.length_singleton];omega) (by simp only [List.length_singleton];omega),Option.bind_some,Jq (by omega) (by omega),Jq (by omega) (by omega)]
    rfl
   rw [Yn hstep,Zvw k0 hN ht m (n+1) (a+1) _ (by omega) (by omega) (by rw [List.length_append,List.length_singleton];omega)]
   by_cases hm:m+1≤t.Kids.length - a
   ·rw [if_pos hm,if_pos (by omega),List.drop_eq_getElem_cons hk,List.take_succ_cons,List.append_assoc,show a+1+m=a+(m+1) by omega]
    rfl
   rw [if_neg hm,if_neg (by omega)]
  rw [if_neg (by omega)]
  refine Z6 ?_
  unfold Xa
  simp only
  rw [show decide ((n:Int) < o.N)=true from by rw [decide_eq_true_eq];omega,show (o.Kind == 0)=true from by rw [k0];rfl,cond_true,cond_true,Z08 (by omega),cond_true]
theorem Z4j {t:Tr} {o:EO} (k0:¬ o.Kind=0) (a:Int) (out:List Tr):Zw (Xa t o) (a,0,out)=some (.inr (a,out)):=by
 refine Z6 ?_
 unfold Xa
 simp only
 rw [show (o.Kind == 0)=false from by rw [beq_eq_false_iff_ne];exact k0]
 cases decide (0 < o.N) <;> rfl
theorem Zuk {t:Tr} {o:EO} (hl:o.L=[]) (a:Int) (out:List Tr):Zw (Yl t o) (a,0,out)=some (.inr (a,out)):=by
 refine Z6 ?_
 unfold Yl
 simp only
 rw [hl]
 rfl
theorem Zy9 {t:Tr} {o:EO} (k2:o.Kind=2) (hL:o.L.length≤1073741824) (a:Int):∀ (l:List Tr) (j:Nat) (out:List Tr),o.L.drop j=l→j≤o.L.length→out.length+l.length≤2000000000 →
  Zw (Yl t o) (a,(j:Int),out)=some (.inr (a,out++l))
 | [],j,out,hd,hj,ho=>by
  obtain rfl:=drop_nil hd hj
  refine Z6 ?_
  unfold Yl
  simp only
  rw [Zck,cond_false,List.append_nil]
 | x::l,j,out,hd,hj,ho=>by
  obtain ⟨hi',hx,hd'⟩:=Zcz hd
  rw [List.length_cons] at ho
  have hstep:Yl t o (a,(j:Int),out)=some (.inl (a,((j+1:Nat):Int),out++[x])):=by
   unfold Yl
   simp only
   rw [Vh hi',cond_true,show (o.Kind == 2)=true from by rw [k2];rfl,cond_true,Ya hx,Option.bind_some,Vf (by simp only [List.length_singleton];omega) (by simp only [List.length_singleton];omega),Option.bind_some,Option.bind_some]
   simp only
   rw [Jq (by omega) (by omega)]
   rfl
  rw [Yn hstep,Zy9 k2 hL a l (j+1) _ hd' (by omega) (by rw [List.length_append,List.length_singleton];omega),List.append_assoc]
  rfl
theorem Zy8 {t:Tr} {o:EO} (k1:o.Kind=1) (hL:o.L.length≤1073741824) (hb:∀ x∈o.L,Bd x) (ht:t.Kids.length≤1000000) (htb:∀ x∈t.Kids,Bd x) (out:List Tr):∀ (l:List Tr) (j a:Nat),o.L.drop j=l→j≤o.L.length→a≤t.Kids.length →
  Zw (Yl t o) ((a:Int),(j:Int),out)=some (if ((t.Kids.drop a).take l.length).map nrm=l.map nrm then .inr (((a+l.length:Nat):Int),out) else .inl ())
 | [],j,a,hd,hj,ha=>by
  obtain rfl:=drop_nil hd hj
  refine Z6 ?_
  unfold Yl
  simp only
  rw [Zck,cond_false,if_pos (by simp)]
  rfl
 | x::l,j,a,hd,hj,ha=>by
  obtain ⟨hi',hx,hd'⟩:=Zcz hd
  have hxm:=List.mem_of_getElem? hx
  have k2:(o.Kind == 2)=false:=by rw [k1];rfl
  by_cases hk:a < t.Kids.length
  ·have hy:t.Kids[a]? = some t.Kids[a]:=List.getElem?_eq_getElem hk
   have hym:t.Kids[a]∈t.Kids:=List.getElem_mem hk
   have hq:Qu t.Kids[a] x=some (eqT (nrm t.Kids[a]) (nrm x)):=Zta (htb _ hym) (hb _ hxm)
   rw [List.drop_eq_getElem_cons hk,List.length_cons,List.take_succ_cons,List.map_cons,List.map_cons]
   by_cases he:nrm t.Kids[a]=nrm x
   ·have hstep:Yl t o ((a:Int),(j:Int),out)=some (.inl (((a+1:Nat):Int),((j+1:Nat):Int),out)):=by
     unfold Yl
     simp only
     rw [Vh hi',cond_true,k2,cond_false,Zve hk,cond_false,Ya hy,Option.bind_some,Ya hx,Option.bind_some,hq,eqT_iff.2 he,Option.bind_some,Option.bind_some,cond_false,Bool.not_true,cond_false,Option.bind_some]
     simp only
     rw [Jq (by omega) (by omega),Jq (by omega) (by omega)]
     rfl
    rw [Yn hstep,Zy8 k1 hL hb ht htb out l (j+1) (a+1) hd' (by omega) (by omega),he]
    by_cases hr:((t.Kids.drop (a+1)).take l.length).map nrm=l.map nrm
    ·rw [if_pos hr,if_pos (by rw [hr]),show a+1+l.length=a+(l.length+1) by omega]
    rw [if_neg hr,if_neg fun q=>hr (List.cons.inj q).2]
   rw [if_neg fun q=>he (List.cons.inj q).1]
   have hf:eqT (nrm t.Kids[a]) (nrm x)=false:=by
    cases h:eqT (nrm t.Kids[a]) (nrm x) with
    | false=>rfl
    | true=>exact absurd (eqT_iff.1 h) he
   refine Z6 ?_
   unfold Yl
   simp only
   rw [Vh hi',cond_true,k2,cond_false,Zve hk,cond_false,Ya hy,Option.bind_some,Ya hx,Option.bind_some,hq,hf,Option.bind_some,Option.bind_some,cond_false,Bool.not_false,cond_true,Option.bind_some]
  rw [List.drop_eq_nil_of_le (by omega),List.take_nil,List.map_nil,List.map_cons,if_neg (by simp)]
  refine Z6 ?_
  unfold Yl
  simp only
  rw [Vh hi',cond_true,k2,cond_false,Z08 (by omega),cond_true,Option.bind_some,cond_true,Option.bind_some]
theorem Z43 {o:EO} (h:opk o) (k0:o.Kind=0):1≤o.N:=by
 rcases h with h | h | h | h <;> omega
theorem Zza {f:Ed→Tr→Option (Tr×Bool)} {e:Ed} {t:Tr} (hg:GN e) (hb:BE e) (ht:t.Kids.length≤1000000) (htb:∀ x∈t.Kids,Bd x) (hop:∀ o∈e.Ops,opk o) (hN:∀ o∈e.Ops,o.Kind=0∨o.Kind=3→o.L=[])
  (hf:∀ o∈e.Ops,o.Kind=3→∀ x∈t.Kids,f o.E x=some (opR (ap o.E (nrm x)))∧∀ u,ap o.E (nrm x)=some u→Bd u):∀ (os:List EO) (i a:Nat) (out:List Tr),e.Ops.drop i=os→i≤e.Ops.length→a≤t.Kids.length→(∀ x∈out,Bd x)→out.length+K4 os≤2000000000 →
  ∃ r,Zw (Yc f e t) ((a:Int),(i:Int),out)=some r∧(rnR (os.map fun o=>(o,fun x=>ap o.E (nrm x))) (t.Kids.drop a,out)=none→r = .inl ())∧∀ l o',rnR (os.map fun o=>(o,fun x=>ap o.E (nrm x))) (t.Kids.drop a,out)=some (l,o')→∃ a':Nat,r = .inr ((a':Int),o')∧a'≤t.Kids.length∧t.Kids.drop a'=l∧(∀ x∈o',Bd x)∧o'.length≤2000000000
 | [],i,a,out,hd,hi,ha,hbo,ho=>by
  obtain rfl:=drop_nil hd hi
  refine ⟨.inr ((a:Int),out),Z6 ?_,fun h=>(by cases h),fun l o' h => ?_⟩
  ·unfold Yc
   simp only
   rw [Zck,cond_false]
  injection h with h
  injection h with e1 e2
  subst e2
  exact ⟨a,rfl,ha,e1,hbo,by omega⟩
 | o::os,i,a,out,hd,hi,ha,hbo,ho=>by
  obtain ⟨hi',hx,hd'⟩:=Zcz hd
  have hm:=List.mem_of_getElem? hx
  rw [Zte] at ho
  have hgo:=hg.o
  have hpo:=hop o hm
  have hbl:=hb.l o hm
  have hth:thN o≤1073741824:=by
   have h1:thN o≤K4 e.Ops:=Zit (f:=thN) hm
   have h2:=hg.s
   omega
  rw [List.map_cons,rnR]
  -- what one round comes to
  have key:∀ (a':Nat) (o':List Tr),Yc f e t ((a:Int),(i:Int),out)=some (.inl ((a':Int),((i+1:Nat):Int),o'))→stF o (fun x=>ap o.E (nrm x)) (t.Kids.drop a,out)=some (t.Kids.drop a',o')→a'≤t.Kids.length→(∀ x∈o',Bd x)→o'.length+K4 os≤2000000000 →
    ∃ r,Zw (Yc f e t) ((a:Int),(i:Int),out)=some r∧((stF o (fun x=>ap o.E (nrm x)) (t.Kids.drop a,out)).bind (rnR (os.map fun o=>(o,fun x=>ap o.E (nrm x))))=none→r = .inl ())∧∀ l o',(stF o (fun x=>ap o.E (nrm x)) (t.Kids.drop a,out)).bind (rnR (os.map fun o=>(o,fun x=>ap o.E (nrm x))))=some (l,o')→∃ a':Nat,r = .inr ((a':Int),o')∧a'≤t.Kids.length∧t.Kids.drop a'=l∧(∀ x∈o',Bd x)∧o'.length≤2000000000:=fun a' o' h1 h2 h3 h4 h5=>by
   rw [Yn h1,h2,Option.bind_some]
   exact Zza hg hb ht htb hop hN hf os (i+1) a' o' hd' (by omega) h3 h4 h5
  have bad:Yc f e t ((a:Int),(i:Int),out)=some (.inr (.inl ()))→stF o (fun x=>ap o.E (nrm x)) (t.Kids.drop a,out)=none →
    ∃ r,Zw (Yc f e t) ((a:Int),(i:Int),out)=some r∧((stF o (fun x=>ap o.E (nrm x)) (t.Kids.drop a,out)).bind (rnR (os.map fun o=>(o,fun x=>ap o.E (nrm x))))=none→r = .inl ())∧∀ l o',(stF o (fun x=>ap o.E (nrm x)) (t.Kids.drop a,out)).bind (rnR (os.map fun o=>(o,fun x=>ap o.E (nrm x))))=some (l,o')→∃ a':Nat,r = .inr ((a':Int),o')∧a'≤t.Kids.length∧t.Kids.drop a'=l∧(∀ x∈o',Bd x)∧o'.length≤2000000000:=fun h1 h2=>by
   rw [h2]
   exact ⟨.inl (),Z6 h1,fun _=>rfl,fun l o' h=>by cases h⟩
  by_cases k0:o.Kind=0
  ·have hNn:=Z43 hpo k0
   have hthN:thN o=o.N.toNat:=by unfold thN;rw [if_pos k0]
   have l1:=Zvw (t:=t) (o:=o) k0 ⟨by omega,by omega⟩ ht o.N.toNat 0 a out (by omega) ha (by omega)
   rw [show (((0:Nat):Int))=0 from rfl] at l1
   have hL:=hN o hm (.inl k0)
   have hst:stF o (fun x=>ap o.E (nrm x)) (t.Kids.drop a,out)=if o.N.toNat≤t.Kids.length - a then some (t.Kids.drop (a+o.N.toNat),out++(t.Kids.drop a).take o.N.toNat) else none:=by
    unfold stF
    rw [if_pos k0]
    simp only [List.length_drop,List.drop_drop]
    by_cases h:o.N.toNat≤t.Kids.length - a
    ·rw [if_pos h,if_pos ⟨by omega,h⟩]
    rw [if_neg h,if_neg fun q=>h q.2]
   by_cases h:o.N.toNat≤t.Kids.length - a
   ·rw [if_pos h] at l1 hst
    refine key (a+o.N.toNat) _ ?_ hst (by omega) (fun x hx => ?_) (by rw [List.length_append,List.length_take,List.length_drop];omega)
    ·unfold Yc
     simp only
     rw [Vh hi',cond_true,Ya hx,Option.bind_some,l1,Option.bind_some]
     simp only
     rw [Zuk hL,Option.bind_some]
     simp only
     rw [show (o.Kind == 3)=false from by rw [k0];rfl,cond_false,Option.bind_some]
     simp only
     rw [Jq (by omega) (by omega)]
     rfl
    rcases List.mem_append.1 hx with hx | hx
    ·exact hbo x hx
    exact htb x (List.mem_of_mem_drop (List.mem_of_mem_take hx))
   rw [if_neg h] at l1 hst
   refine bad ?_ hst
   unfold Yc
   simp only
   rw [Vh hi',cond_true,Ya hx,Option.bind_some,l1,Option.bind_some]
   simp only
   rw [Option.bind_some]
  have l1:=Z4j (t:=t) (o:=o) k0 (a:Int) out
  by_cases k1:o.Kind=1
  ·have hthN:thN o=o.L.length:=by unfold thN;rw [if_neg k0,if_neg (by omega)]
   have l2:=Zy8 (t:=t) (o:=o) k1 (by omega) hbl.2 ht htb out o.L 0 a rfl (Nat.zero_le _) ha
   rw [show (((0:Nat):Int))=0 from rfl] at l2
   have hst:stF o (fun x=>ap o.E (nrm x)) (t.Kids.drop a,out)=if ((t.Kids.drop a).take o.L.length).map nrm=o.L.map nrm then some (t.Kids.drop (a+o.L.length),out) else none:=by
    unfold stF
    rw [if_neg k0,if_pos k1]
    simp only [List.drop_drop]
   by_cases h:((t.Kids.drop a).take o.L.length).map nrm=o.L.map nrm
   ·rw [if_pos h] at l2 hst
    have hlen:=congrArg List.length h
    rw [List.length_map,List.length_map,List.length_take,List.length_drop] at hlen
    refine key (a+o.L.length) _ ?_ hst (by omega) hbo (by omega)
    unfold Yc
    simp only
    rw [Vh hi',cond_true,Ya hx,Option.bind_some,l1,Option.bind_some]
    simp only
    rw [l2,Option.bind_some]
    simp only
    rw [show (o.Kind == 3)=false from by rw [k1];rfl,cond_false,Option.bind_some]
    simp only
    rw [Jq (by omega) (by omega)]
    rfl
   rw [if_neg h] at l2 hst
   refine bad ?_ hst
   unfold Yc
   simp only
   rw [Vh hi',cond_true,Ya hx,Option.bind_some,l1,Option.bind_some]
   simp only
   rw [l2,Option.bind_some]
   simp only
   rw [Option.bind_some]
  by_cases k2:o.Kind=2
  ·have hthN:thN o=o.L.length:=by unfold thN;rw [if_neg k0,if_neg (by omega)]
   have l2:=Zy9 (t:=t) (o:=o) k2 (by omega) (a:Int) o.L 0 out rfl (Nat.zero_le _) (by omega)
   rw [show (((0:Nat):Int))=0 from rfl] at l2
   have hst:stF o (fun x=>ap o.E (nrm x)) (t.Kids.drop a,out)=some (t.Kids.drop a,out++o.L):=by
    unfold stF
    rw [if_neg k0,if_neg k1,if_pos k2]
   refine key a _ ?_ hst ha (fun x hx => ?_) (by rw [List.length_append];omega)
   ·unfold Yc
    simp only
    rw [Vh hi',cond_true,Ya hx,Option.bind_some,l1,Option.bind_some]
    simp only
    rw [l2,Option.bind_some]
    simp only
    rw [show (o.Kind == 3)=false from by rw [k2];rfl,cond_false,Option.bind_some]
    simp only
    rw [Jq (by omega) (by omega)]
    rfl
   rcases List.mem_append.1 hx with hx | hx
   ·exact hbo x hx
   exact hbl.2 x hx
  have k3:o.Kind=3:=by rcases hpo with h | h | h | h <;> omega
  have hthN:thN o=1:=by unfold thN;rw [if_neg k0,if_pos k3]
  have hL:=hN o hm (.inr k3)
  by_cases hk:a < t.Kids.length
  ·have hy:t.Kids[a]? = some t.Kids[a]:=List.getElem?_eq_getElem hk
   obtain ⟨f1,f2⟩:=hf o hm k3 t.Kids[a] (List.getElem_mem hk)
   have hst:stF o (fun x=>ap o.E (nrm x)) (t.Kids.drop a,out)=(ap o.E (nrm t.Kids[a])).map fun u=>(t.Kids.drop (a+1),out++[u]):=by
    unfold stF
    rw [if_neg k0,if_neg k1,if_neg k2,if_pos k3,List.drop_eq_getElem_cons hk]
   cases hap:ap o.E (nrm t.Kids[a]) with
   | none =>
    rw [hap] at f1 hst
    refine bad ?_ hst
    unfold Yc
    simp only
    rw [Vh hi',cond_true,Ya hx,Option.bind_some,l1,Option.bind_some]
    simp only
    rw [Zuk hL,Option.bind_some]
    simp only
    rw [show (o.Kind == 3)=true from by rw [k3];rfl,cond_true,Zve hk,cond_false,Ya hy,Option.bind_some,f1,Option.bind_some]
    rfl
   | some u =>
    have bu:=f2 u hap
    rw [hap] at f1 hst
    refine key (a+1) _ ?_ hst (by omega) (fun x hx => ?_) (by rw [List.length_append,List.length_singleton];omega)
    ·unfold Yc
     simp only
     rw [Vh hi',cond_true,Ya hx,Option.bind_some,l1,Option.bind_some]
     simp only
     rw [Zuk hL,Option.bind_some]
     simp only
     rw [show (o.Kind == 3)=true from by rw [k3];rfl,cond_true,Zve hk,cond_false,Ya hy,Option.bind_some,f1,Option.bind_some]
     simp only [opR,Bool.not_true,cond_false]
     rw [Vf (by simp only [List.length_singleton];omega) (by simp only [List.length_singleton];omega),Option.bind_some,Option.bind_some,Jq (by omega) (by omega)]
     simp only
     rw [Jq (by omega) (by omega)]
     rfl
    rcases List.mem_append.1 hx with hx | hx
    ·exact hbo x hx
    rw [List.mem_singleton] at hx;subst hx;exact bu
  have hst:stF o (fun x=>ap o.E (nrm x)) (t.Kids.drop a,out)=none:=by
   unfold stF
   rw [if_neg k0,if_neg k1,if_neg k2,if_pos k3,List.drop_eq_nil_of_le (by omega)]
  refine bad ?_ hst
  unfold Yc
  simp only
  rw [Vh hi',cond_true,Ya hx,Option.bind_some,l1,Option.bind_some]
  simp only
  rw [Zuk hL,Option.bind_some]
  simp only
  rw [show (o.Kind == 3)=true from by rw [k3];rfl,cond_true,Z08 (by omega),cond_true,Option.bind_some]
theorem Z4i {e:Ed} {d:Nat} (h2:e.Kind=2) (h:rE e d=true):e.Words.Pairwise (fun a b=>a.At.toNat < b.At.toNat)∧(∀ w∈e.Words,wi w.Old w.Mask=true)∧e.Kids.Pairwise (fun a b=>a.At.toNat < b.At.toNat)∧∀ k∈e.Kids,rE k.E (d - 1)=true:=by
 rw [Zs7] at h
 by_cases hd:d=0
 ·rw [if_pos hd] at h;cases h
 rw [if_neg hd,if_neg (by omega),if_neg (by omega),if_pos h2] at h
 simp only [Bool.and_eq_true] at h
 obtain ⟨w1,w2⟩:=Zlm Zvm e.Words (-1) h.2.1
 obtain ⟨k1,k2⟩:=Zlm (Zvl (d - 1)) e.Kids (-1) h.2.2
 refine ⟨w2.imp_of_mem fun {a b} ha hb hab => ?_,fun w hw => ?_,k2.imp_of_mem fun {a b} ha hb hab => ?_,fun k hk => ?_⟩
 ·have:=w1 a ha
  have:=w1 b hb
  omega
 ·exact Zll (Q:=fun w:Zn=>wi w.Old w.Mask=true) (fun p x hx=>by
   unfold okW at hx
   cases hq:wi x.Old x.Mask with
   | true=>rfl
   | false=>rw [hq] at hx;simp at hx) e.Words (-1) h.2.1 w hw
 ·have:=k1 a ha
  have:=k1 b hb
  omega
 exact Zll (Q:=fun k:S_api_KidEdit=>rE k.E (d - 1)=true) (fun p x hx=>by
  unfold okK okP at hx
  simp only [Bool.and_eq_true] at hx
  exact hx.2.2) e.Kids (-1) h.2.2 k hk
theorem Z48 {e:Ed} {d:Nat} (h3:e.Kind=3) (h:rE e d=true):∀ o∈e.Ops,o.Kind=3→rE o.E (d - 1)=true:=by
 rw [Zs7] at h
 by_cases hd:d=0
 ·rw [if_pos hd] at h;cases h
 rw [if_neg hd,if_neg (by omega),if_neg (by omega),if_neg (by omega),if_pos h3] at h
 simp only [Bool.and_eq_true,decide_eq_true_eq,List.all_eq_true] at h
 intro o hx k3
 have:=h.2.2.1 o hx
 unfold okO at this
 rw [if_neg (by omega),if_neg (by omega),if_pos k3] at this
 simp only [Bool.and_eq_true] at this
 exact this.2.2.2.2
structure CR (e:Ed) (t:Tr):Prop where
 c:CA e t
 r:∃ d,rE e d=true
theorem Z0i {t:Tr} (h:Bd t) (i:Nat):Bd (Xf Qr t.Kids i):=by
 rcases Zhb (z:=Qr) (l:=t.Kids) (i:=i) with q | q
 ·exact h.all _ q
 rw [q];exact Zff
theorem Zx5 {f1 f2 f3:Ed→Tr→Option (Tr×Bool)} {e:Ed} {t:Tr} (h:CR e t) (k2:e.Kind=2)
  (ih:∀ k∈e.Kids,∀ x,CR k.E x→f1 k.E x=some (opR (ap k.E (nrm x)))):∃ u b,Q4 f1 f2 f3 e t=some (u,b)∧b=(ap e (nrm t)).isSome∧∀ v,ap e (nrm t)=some v→nrm u=v∧Bd u:=by
 obtain ⟨d,hr⟩:=h.r
 obtain ⟨a1,a2,a3,a4⟩:=Z4i k2 hr
 have hx:=h.c.x
 have hb:=h.c.b
 have hg:=h.c.g
 have ht:=h.c.t
 have hp:=h.c.p
 rw [Zh2] at hp
 have hkl:t.Kids.length≤(t.Kids.map pt).sum:=Zgk fun x _=>by rw [Zh2];omega
 cases hx with
 | same _ q=>omega
 | repl _ q=>omega
 | li _ q=>omega
 | st _ q hw hw2 hkk hk2 hkx =>
  unfold Q4
  by_cases t1:t.Kind=1
  ·have e1:(t.Kind != 1)=false:=by rw [t1];rfl
   obtain ⟨n,n1,n2,n3,n4⟩:=Z2j (fun w:Zn=>w.At) e.Words t.Words.length hw2 a1 hg.w (by omega)
   obtain ⟨m,m1,m2,m3,m4⟩:=Z2j (fun k:S_api_KidEdit=>k.At) e.Kids t.Kids.length hk2 a3 hg.k (by omega)
   rw [e1,cond_false,n1,Option.bind_some,m1,Option.bind_some]
   have hcr:∀ k∈e.Kids,∀ i,CR k.E (Xf Qr t.Kids i):=fun k hk i=>⟨⟨hkx k hk,hb.ks k hk,hg.ks k hk,by
    rcases Zhb (z:=Qr) (l:=t.Kids) (i:=i) with q | q
    ·have:=Zqb q;have:=h.c.p;omega
    rw [q,Z1p];omega,Z0i ht i⟩,d - 1,a4 k hk⟩
   have hf:∀ k∈e.Kids,f1 k.E (Xf Qr t.Kids k.At.toNat)=some (opR (ap k.E (nrm (Xf Qr t.Kids k.At.toNat)))):=fun k hk=>ih k hk _ (hcr k hk _)
   have l0:=Zpg hb hg hw2 a2 ht n 0 e.Words 0 n [] (by omega) n3 rfl (Nat.zero_le _) rfl
   have l1:=Zpf (f:=f1) (t:=t) hg hk2 hf m 0 e.Kids 0 m [] (by omega) m3 rfl (Nat.zero_le _) rfl
   rw [show (((0:Nat):Int))=0 from rfl] at l0 l1
   have hs:=Zz9 (e:=e) (t:=t) (n:=n) (m:=m) k2 t1 a1 a3 n4 m4 n2 m2 fun k hk u hu=>Z3r (hcr k hk _).c hu
   rw [l0,Option.bind_some]
   cases hA:rfG (fun w:Zn=>w.At.toNat) (fun w=>if cW (Xf 0 t.Words w.At.toNat) w=true then some (Zdl (Xf 0 t.Words w.At.toNat) w) else none) (Xf 0 t.Words) n 0 e.Words with
   | none =>
    rw [hA] at hs
    rw [← hs]
    exact ⟨_,_,rfl,rfl,fun v hv=>by cases hv⟩
   | some ws =>
    rw [hA,Option.bind_some] at hs
    simp only [List.nil_append]
    rw [l1,Option.bind_some]
    cases hC:rfG (fun k:S_api_KidEdit=>k.At.toNat) (fun k=>ap k.E (nrm (Xf Qr t.Kids k.At.toNat))) (Xf Qr t.Kids) m 0 e.Kids with
    | none =>
     rw [hC] at hs
     rw [← hs]
     exact ⟨_,_,rfl,rfl,fun v hv=>by cases hv⟩
    | some ks =>
     rw [hC] at hs
     rw [← hs]
     obtain ⟨q1,q2⟩:=Zmo (Q:=fun x:Int=>0≤x∧x < 18446744073709551616) (fun j=>Zxj ht.u j) n 0 e.Words ws (fun w hw u hu=>by
      split at hu
      ·injection hu with hu;subst hu;exact Zyz _ _
      cases hu) hA
     obtain ⟨q3,q4⟩:=Zmo (Q:=Bd) (fun j=>Z0i ht j) m 0 e.Kids ks (fun k hk u hu=>Zpq (hcr k hk _).c hu) hC
     refine ⟨_,_,rfl,rfl,fun v hv => ?_⟩
     injection hv with hv
     subst hv
     exact ⟨rfl,.mk _ (by simp only;omega) (by simp only [List.nil_append];omega) q2 q4⟩
  rw [show (t.Kind != 1)=true from bne_iff_ne.2 t1,cond_true]
  have hn:ap e (nrm t)=none:=by
   rw [Zdp,if_neg (by omega),if_neg (by omega),if_pos k2,Uk,if_neg t1]
  rw [hn]
  exact ⟨_,_,rfl,rfl,fun v hv=>by cases hv⟩
theorem Z1t {f1 f2 f3:Ed→Tr→Option (Tr×Bool)} {e:Ed} {t:Tr} (h:CR e t) (k3:e.Kind=3)
  (ih:∀ o∈e.Ops,o.Kind=3→∀ x,CR o.E x→f1 o.E x=some (opR (ap o.E (nrm x)))):∃ u b,Ub f1 f2 f3 e t=some (u,b)∧b=(ap e (nrm t)).isSome∧∀ v,ap e (nrm t)=some v→nrm u=v∧Bd u:=by
 obtain ⟨d,hr⟩:=h.r
 have hx:=h.c.x
 have hb:=h.c.b
 have hg:=h.c.g
 have ht:=h.c.t
 have hp:=h.c.p
 rw [Zh2] at hp
 have hkl:t.Kids.length≤(t.Kids.map pt).sum:=Zgk fun x _=>by rw [Zh2];omega
 cases hx with
 | same _ q=>omega
 | repl _ q=>omega
 | st _ q=>omega
 | li _ q hl ho hN hox =>
  unfold Ub
  by_cases t1:t.Kind=e.List_
  ·have e1:(t.Kind != e.List_)=false:=by rw [t1];exact bne_self_eq_false _
   rw [e1,cond_false]
   have hcr:∀ o∈e.Ops,o.Kind=3→∀ x∈t.Kids,CR o.E x:=fun o hom k x hxm=>⟨⟨hox o hom k,hb.os o hom,hg.os o hom,by have:=Zqb hxm;have:=h.c.p;omega,ht.all x hxm⟩,d - 1,Z48 k3 hr o hom k⟩
   obtain ⟨r,r1,r2,r3⟩:=Zza (f:=f1) (t:=t) hg hb (by omega) ht.all ho hN (fun o hom k x hxm=>⟨ih o hom k x (hcr o hom k x hxm),fun u hu=>Zpq (hcr o hom k x hxm).c hu⟩) e.Ops 0 0 [] rfl (Nat.zero_le _) (Nat.zero_le _) (fun x hx=>by cases hx) (by have:=hg.s;simp only [List.length_nil];omega)
   rw [show (((0:Nat):Int))=0 from rfl] at r1
   rw [r1,Option.bind_some]
   rw [List.drop_zero] at r2 r3
   have hs:=Z3b (e:=e) (t:=t) k3 (by omega) t1 fun o hom k x hxm u hu=>Z3r (hcr o hom k x hxm).c hu
   cases hR:rnR (e.Ops.map fun o=>(o,fun x=>ap o.E (nrm x))) (t.Kids,[]) with
   | none =>
    rw [hR] at hs
    rw [r2 hR,← hs]
    exact ⟨_,_,rfl,rfl,fun v hv=>by cases hv⟩
   | some p =>
    obtain ⟨l,o'⟩:=p
    rw [hR,Option.bind_some] at hs
    obtain ⟨a',q1,q2,q3,q4,q5⟩:=r3 l o' hR
    rw [q1]
    simp only at hs
    cases l with
    | nil =>
     rw [if_pos rfl] at hs
     have ha:a'=t.Kids.length:=by
      have:=congrArg List.length q3
      rw [List.length_drop,List.length_nil] at this
      omega
     rw [← hs]
     refine ⟨_,_,rfl,?_,fun v hv => ?_⟩
     ·subst ha
      show (((t.Kids.length:Nat):Int) == ((t.Kids.length:Nat):Int))=true
      exact beq_self_eq_true _
     injection hv with hv
     subst hv
     exact ⟨rfl,.mk _ (by simp) (by simp only;omega) (by simp) q4⟩
    | cons x l =>
     rw [if_neg (by simp)] at hs
     have ha:a'≠t.Kids.length:=fun q=>by
      subst q
      rw [List.drop_length] at q3
      cases q3
     rw [← hs]
     refine ⟨_,_,rfl,?_,fun v hv=>by cases hv⟩
     show (((a':Nat):Int) == ((t.Kids.length:Nat):Int))=false
     rw [beq_eq_false_iff_ne]
     omega
  rw [show (t.Kind != e.List_)=true from bne_iff_ne.2 t1,cond_true]
  have hn:ap e (nrm t)=none:=by
   rw [Zdp,if_neg (by omega),if_neg (by omega),if_neg (by omega),if_pos k3,Uk,if_neg t1]
  rw [hn]
  exact ⟨_,_,rfl,rfl,fun v hv=>by cases hv⟩
theorem Z27 {o:Option Tr} {u:Tr} {b:Bool} (h1:b=o.isSome) (h2:∀ v,o=some v→nrm u=v∧Bd u):cond (!b) (some (Qr,false)) ((Kw (⟨u.Kind,u.Words,u.Kids⟩:Tr)).bind fun y=>some (y,true))=some (opR o):=by
 subst h1
 cases o with
 | none=>rfl
 | some v =>
  obtain ⟨g1,g2⟩:=h2 v rfl
  simp only [Option.isSome_some,Bool.not_true,cond_false]
  rw [Zzj,Zqu g2,g1]
  rfl
theorem Zvv:∀ (k:Nat),(∀ e t,CR e t→2 * SizeOf.sizeOf e < k→(Z5 k).1 e t=some (opR (ap e (nrm t)))) ∧
  (∀ e t,CR e t→e.Kind=2→2 * SizeOf.sizeOf e≤k→∃ u b,(Z5 k).2.1 e t=some (u,b)∧b=(ap e (nrm t)).isSome∧∀ v,ap e (nrm t)=some v→nrm u=v∧Bd u) ∧
  (∀ e t,CR e t→e.Kind=3→2 * SizeOf.sizeOf e≤k→∃ u b,(Z5 k).2.2 e t=some (u,b)∧b=(ap e (nrm t)).isSome∧∀ v,ap e (nrm t)=some v→nrm u=v∧Bd u)
 | 0=>⟨fun e t _ h=>by omega,fun e t _ _ h=>by have:=Zin e;omega,fun e t _ _ h=>by have:=Zin e;omega⟩
 | k+1=>by
  obtain ⟨i1,i2,i3⟩:=Zvv k
  refine ⟨fun e t h hk => ?_,fun e t h k2 hk => ?_,fun e t h k3 hk => ?_⟩
  ·show Ua (Z5 k).1 (Z5 k).2.1 (Z5 k).2.2 e t=_
   unfold Ua
   rcases h.c.x.kind with k0 | k1 | k2 | k3
   ·rw [show (e.Kind == 0)=true from by rw [k0];rfl,cond_true,Option.bind_some]
    refine Z27 (u:=t) ?_ fun v hv => ?_
    ·rw [Zdp,if_pos k0];rfl
    rw [Zdp,if_pos k0] at hv
    injection hv with hv
    exact ⟨hv,h.c.t⟩
   ·rw [show (e.Kind == 0)=false from by rw [k1];rfl,show (e.Kind == 1)=true from by rw [k1];rfl,cond_false,cond_true,Zta h.c.b.old h.c.t,Option.bind_some,Option.bind_some]
    refine Z27 (u:=e.New) ?_ fun v hv => ?_
    ·rw [Zdp,if_neg (by omega),if_pos k1]
     by_cases he:nrm t=nrm e.Old
     ·rw [if_pos he,eqT_iff.2 he.symm];rfl
     rw [if_neg he]
     cases hq:eqT (nrm e.Old) (nrm t) with
     | false=>rfl
     | true=>exact absurd (eqT_iff.1 hq).symm he
    rw [Zdp,if_neg (by omega),if_pos k1] at hv
    split at hv
    ·injection hv with hv
     exact ⟨hv,h.c.b.new⟩
    cases hv
   ·obtain ⟨u,b,q1,q2,q3⟩:=i2 e t h k2 (by omega)
    rw [show (e.Kind == 0)=false from by rw [k2];rfl,show (e.Kind == 1)=false from by rw [k2];rfl,show (e.Kind == 2)=true from by rw [k2];rfl,cond_false,cond_false,cond_true,q1,Option.bind_some,Option.bind_some]
    exact Z27 (u:=u) q2 q3
   obtain ⟨u,b,q1,q2,q3⟩:=i3 e t h k3 (by omega)
   rw [show (e.Kind == 0)=false from by rw [k3];rfl,show (e.Kind == 1)=false from by rw [k3];rfl,show (e.Kind == 2)=false from by rw [k3];rfl,show (e.Kind == 3)=true from by rw [k3];rfl,cond_false,cond_false,cond_false,cond_true,q1,Option.bind_some,Option.bind_some]
   exact Z27 (u:=u) q2 q3
  ·exact Zx5 (f2:=(Z5 k).2.1) (f3:=(Z5 k).2.2) h k2 fun c hc x hx=>i1 c.E x hx (by have:=Vy hc;omega)
  exact Z1t (f2:=(Z5 k).2.1) (f3:=(Z5 k).2.2) h k3 fun o ho _ x hx=>i1 o.E x hx (by have:=Gz ho;omega)
theorem Z1s {e:Ed} {t:Tr} (h:CR e t):Zb1 e t=some (opR (ap e (nrm t))):=Zcj (2 * SizeOf.sizeOf e+1) fun k hk=>(Zvv k).1 e t h (by omega)
theorem Ztk {e:Ed} {t:Tr} (hb:BE e) (ht:Bd t):Ku e t=some true:=by
 obtain ⟨b1,g1,g2⟩:=Zzw ht
 obtain ⟨b2,g3,g4⟩:=Z38 hb
 unfold Ku
 rw [g1,Option.bind_some]
 cases b1 with
 | false=>rw [cond_false,Option.bind_some,cond_true,Zo6];rfl
 | true =>
  rw [cond_true,g3,Option.bind_some,Option.bind_some]
  cases b2 with
  | false=>rw [Zo6];rfl
  | true =>
   obtain ⟨tx,pu⟩:=g2 rfl
   obtain ⟨hr,hc⟩:=g4 rfl
   have h1:CA e t:=CA.of hb hr hc ht pu
   rw [Zps h1,Z1s ⟨h1,64,hr⟩]
   simp only [Bool.not_true,cond_false,cond_true,Option.bind_some]
   cases hu:ap e (nrm t) with
   | none=>simp only [opR,BEq.rfl,cond_true];rw [Zup Zff Zff,eqT_iff.2 rfl,Option.bind_some,cond_true,Zo6];rfl
   | some u=>have bu:=Zpq h1 hu;simp only [opR,BEq.rfl,cond_true];rw [Zup bu bu,eqT_iff.2 rfl,Option.bind_some,cond_true,Zo6];rfl
end Go.Proofs.Ytmpkfolcikhofaa
