/- Plain facts on this seat's mirrors (part RP3); each theorem bears its own conditions. -/
import Derived.Test.YtocpndlnbmjpmaaRP1
namespace Go.Proofs.Ytocpndlnbmjpmaa
open Go.RowKit
set_option linter.unusedVariables false
set_option linter.unusedSimpArgs false
theorem Z87 {l:Int} {e:Ed} (hb:BE e):Zer l e=some (Zqn l e):=by
 unfold Zer Zqn
 have hw:=hb.w
 have hk:=hb.k
 have e1:(IntKind.i64.wrap ((e.Words.length:Int)+(e.Kids.length:Int)) == 0)=(e.Words.length == 0 && e.Kids.length == 0):=by
  rw [G0 (by omega) (by omega),Bool.eq_iff_iff,Bool.and_eq_true,beq_iff_eq,beq_iff_eq,beq_iff_eq]
  omega
 rw [e1]
 cases e.Kind == 0 <;> cases l == 9 <;> cases e.Kind == 2 <;> cases (e.Words.length == 0 && e.Kids.length == 0) <;> rfl
theorem Z2f {w:Wr} {s:NW} {i S:Nat} (h:WS w s i S) (hi:i≤1048576) (hS:S≤1073741824) {l:Int} {e:Ed} (hb:BE e) :
  ∃ w',K9 w l e=some w'∧WS w' (if Zqn l e=true then ⟨Zbh s.flush 1,[],[]⟩ else ⟨s.flush++[⟨3,0,[],e⟩],[],[]⟩) (i+1) (S+1):=by
 unfold K9
 rw [Z87 hb,Option.bind_some]
 cases hid:Zqn l e with
 | true =>
  obtain ⟨w',h1,h2⟩:=Z3w h hi hS (n:=1) (by omega) (by omega)
  rw [cond_true,Zkq,h1]
  exact ⟨w',rfl,h2⟩
 | false =>
  have hf:=h.flen
  rw [cond_false,Zkq,h.lay hi,Option.bind_some,Vh (by simp only [List.length_singleton];omega) (by simp only [List.length_singleton];omega),Option.bind_some,Zgb,Option.bind_some]
  refine ⟨_,rfl,Int.le_refl _,fun _=>rfl,fun h0=>by simp at h0,fun _ o ho => ?_,by simp;omega,by simp⟩
  simp only [List.getLast?_concat,Option.some.injEq] at ho
  subst ho
  simp
theorem Zvd (step:Int×List Tr→Option ((Int×List Tr) ⊕ List Tr)) (L acc:List Tr) (hL:∀ t∈L,Bd t) (hl:(acc.length+L.length) * 56≤140737488355328)
  (h1:∀ (i:Nat) (x:Tr) (out:List Tr),i < L.length→L[i]? = some x→step ((i:Int),out)=((Zcs x).bind fun y6=>(Zbf 56 out ([(⟨0,[],[]⟩:Tr)])).bind fun l7=>(Xg l7 (out.length:Int)).bind fun x8=>some (.inl ((IntKind.i64.wrap ((i:Int)+1)),(out++[y6])))))
  (h2:∀ out,step ((L.length:Int),out)=some (.inr out)):Z9 step (0,acc)=some (acc++L.map nrm) :=
 Zq1 L nrm step acc (by omega) (fun i x out hi hx hm ho=>by
  rw [h1 i x out hi hx,Zub (hL x hm),Option.bind_some,Vh (by simp only [List.length_singleton];omega) (by simp only [List.length_singleton];omega),Option.bind_some,Zgb,Option.bind_some]) h2
theorem Zy4 {α β:Type} {f:α→β} {l:List α} (h:l≠[]):l.map f≠[]:=by simpa using h
theorem Z8k {w:Wr} {s:NW} {i S:Nat} (h:WS w s i S) (hi:i≤1048576) {L:List Tr} (hS:S+L.length≤1073741824) (hne:L≠[]) (hL:∀ t∈L,Bd t) :
  ∃ w',Kw w L=some w'∧WS w' ⟨s.out,s.gone++L.map nrm,s.come⟩ (i+1) (S+L.length):=by
 have hs:=h.sum
 have hloop:∀ acc:List Tr,acc.length≤S→Z9 (Jl L) (0,acc)=some (acc++L.map nrm):=fun acc ha =>
  Zvd _ L acc hL (by omega) (fun i x out hi hx=>by unfold Jl;rw [Zeq hi,cond_true,Xd hx,Option.bind_some]) (fun out=>by unfold Jl;rw [Zez,cond_false])
 unfold Kw
 by_cases hk:w.kept=0
 ·rw [decide_eq_false (by omega),cond_false,Option.bind_some]
  simp only
  rw [hloop w.gone (by omega),Option.bind_some]
  refine ⟨_,rfl,by simp only;omega,fun _ => ?_,fun h0=>by simp only at h0;omega,fun hg => ?_,by simp only;have:=h.len;omega,by simp only [List.length_append,List.length_map];omega⟩
  ·rw [h.zero hk]
  have:=(hg hk).1
  simp only at this
  exact absurd (List.append_eq_nil_iff.1 this).2 (Zy4 hne)
 have hp:0 < w.kept:=by have:=h.nn;omega
 obtain ⟨g1,g2,g3⟩:=h.pos hp
 have hf:s.flush=s.out:=by rw [g3];unfold NW.flush;simp [Zca,Zdh]
 rw [decide_eq_true hp,cond_true,Zkq,h.lay hi]
 simp only [Option.bind_some]
 rw [hloop [] (by simp),Option.bind_some]
 refine ⟨_,rfl,Int.le_refl _,fun _ => ?_,fun h0=>by simp at h0,fun hg => ?_,by simp only;have:=h.flen;omega,by simp⟩
 ·rw [hf,g3]
 have:=(hg rfl).1
 simp only at this
 exact absurd (List.append_eq_nil_iff.1 this).2 (Zy4 hne)
theorem Z8l {w:Wr} {s:NW} {i S:Nat} (h:WS w s i S) (hi:i≤1048576) {L:List Tr} (hS:S+L.length≤1073741824) (hne:L≠[]) (hL:∀ t∈L,Bd t) :
  ∃ w',Kx w L=some w'∧WS w' ⟨s.out,s.gone,s.come++L.map nrm⟩ (i+1) (S+L.length):=by
 have hs:=h.sum
 have hloop:∀ acc:List Tr,acc.length≤S→Z9 (Jm L) (0,acc)=some (acc++L.map nrm):=fun acc ha =>
  Zvd _ L acc hL (by omega) (fun i x out hi hx=>by unfold Jm;rw [Zeq hi,cond_true,Xd hx,Option.bind_some]) (fun out=>by unfold Jm;rw [Zez,cond_false])
 unfold Kx
 by_cases hk:w.kept=0
 ·rw [decide_eq_false (by omega),cond_false,Option.bind_some]
  simp only
  rw [hloop w.come (by omega),Option.bind_some]
  refine ⟨_,rfl,by simp only;omega,fun _ => ?_,fun h0=>by simp only at h0;omega,fun hg => ?_,by simp only;have:=h.len;omega,by simp only [List.length_append,List.length_map];omega⟩
  ·rw [h.zero hk]
  have:=(hg hk).2
  simp only at this
  exact absurd (List.append_eq_nil_iff.1 this).2 (Zy4 hne)
 have hp:0 < w.kept:=by have:=h.nn;omega
 obtain ⟨g1,g2,g3⟩:=h.pos hp
 have hf:s.flush=s.out:=by rw [g3];unfold NW.flush;simp [Zca,Zdh]
 rw [decide_eq_true hp,cond_true,Zkq,h.lay hi]
 simp only [Option.bind_some]
 rw [hloop [] (by simp),Option.bind_some]
 refine ⟨_,rfl,Int.le_refl _,fun _ => ?_,fun h0=>by simp at h0,fun hg => ?_,by simp only;have:=h.flen;omega,by simp⟩
 ·rw [hf,g3]
 have:=(hg rfl).2
 simp only at this
 exact absurd (List.append_eq_nil_iff.1 this).2 (Zy4 hne)
def Q1 (l:List EO):Nat:=(l.map thN).sum
theorem Z7j {rE':Ed→Option Ed} {l:Int} {os:List EO} (hlen:os.length≤1048576) (hsum:Q1 os≤1073741824) (hok:∀ o∈os,opk o) (hL:∀ o∈os,∀ t∈o.L,Bd t)
  (hE:∀ o∈os,o.Kind=3→rE' o.E=some (nE o.E)∧BE (nE o.E)) :
  ∃ w',Z9 (Gd rE' l os) (0,0,[],[],[])=some (w'.kept,w'.out,w'.gone,w'.come)∧WS w' ((Kq os).foldl (stN l) s0N) os.length (Q1 os):=by
 have key:∀ (ys:List EO) (i:Nat) (w:Wr) (s:NW) (S:Nat),os.drop i=ys→i≤os.length→S+Q1 ys≤1073741824→WS w s i S →
   ∃ w',Z9 (Gd rE' l os) ((i:Int),w.kept,w.out,w.gone,w.come)=some (w'.kept,w'.out,w'.gone,w'.come)∧WS w' ((Kq ys).foldl (stN l) s) os.length (S+Q1 ys):=fun ys=>by
  induction ys with
  | nil =>
   intro i w s S hd hi hS hw
   have hil:i=os.length:=by
    have:=List.drop_eq_nil_iff.1 hd
    omega
   subst hil
   exact ⟨w,Y0 (by unfold Gd;simp only;rw [Zez,cond_false]),hw⟩
  | cons x ys ih =>
   intro i w s S hd hi hS hw
   have hil:i < os.length:=by
    rcases Nat.lt_or_ge i os.length with h | h
    ·exact h
    rw [List.drop_eq_nil_of_le h] at hd;cases hd
   have hx:os[i]? = some x:=by
    rw [List.drop_eq_getElem_cons hil] at hd
    injection hd with h1 _
    rw [List.getElem?_eq_getElem hil,h1]
   have hd':os.drop (i+1)=ys:=by
    rw [List.drop_eq_getElem_cons hil] at hd
    injection hd
   have hm:=List.mem_of_getElem? hx
   have hsx:Q1 (x::ys)=thN x+Q1 ys:=by unfold Q1;simp
   rw [hsx] at hS ⊢
   have main:∃ w',(Gd rE' l os) ((i:Int),w.kept,w.out,w.gone,w.come)=some (.inl (((i+1:Nat):Int),w'.kept,w'.out,w'.gone,w'.come))∧WS w' (stN l s (x,nE x.E)) (i+1) (S+thN x):=by
    unfold Gd
    simp only
    rw [Zeq hil,cond_true,Xd hx,Option.bind_some,G0 (by omega) (by omega)]
    rcases hok x hm with ⟨k,hn⟩ | ⟨k,hn⟩ | ⟨k,hn⟩ | k
    ·have e0:(x.Kind == 0)=true:=by rw [k];rfl
     have ht:thN x=x.N.toNat:=by unfold thN;rw [if_pos k]
     have hst:stN l s (x,nE x.E)=⟨Zbh s.flush x.N,[],[]⟩:=by
      unfold stN
      simp only [k,show ¬ (0:Int)=1 from by decide,show ¬ (0:Int)=2 from by decide,if_false,if_true]
     rw [ht] at hS
     obtain ⟨w',h1,h2⟩:=Z3w hw (by omega) (by omega) hn (by omega)
     rw [e0,cond_true,Zkq,h1,ht,hst]
     exact ⟨w',rfl,h2⟩
    ·have e0:(x.Kind == 0)=false:=by rw [k];rfl
     have e1:(x.Kind == 1)=true:=by rw [k];rfl
     have ht:thN x=x.L.length:=by unfold thN;rw [if_neg (by omega),if_neg (by omega)]
     have hst:stN l s (x,nE x.E)=⟨s.out,s.gone++x.L.map nrm,s.come⟩:=by
      unfold stN
      simp only [k,if_true]
     rw [ht] at hS
     obtain ⟨w',h1,h2⟩:=Z8k hw (by omega) (by omega) hn (hL x hm)
     rw [e0,e1,cond_false,cond_true,Zkq,h1,ht,hst]
     exact ⟨w',rfl,h2⟩
    ·have e0:(x.Kind == 0)=false:=by rw [k];rfl
     have e1:(x.Kind == 1)=false:=by rw [k];rfl
     have e2:(x.Kind == 2)=true:=by rw [k];rfl
     have ht:thN x=x.L.length:=by unfold thN;rw [if_neg (by omega),if_neg (by omega)]
     have hst:stN l s (x,nE x.E)=⟨s.out,s.gone,s.come++x.L.map nrm⟩:=by
      unfold stN
      simp only [k,show ¬ (2:Int)=1 from by decide,if_false,if_true]
     rw [ht] at hS
     obtain ⟨w',h1,h2⟩:=Z8l hw (by omega) (by omega) hn (hL x hm)
     rw [e0,e1,e2,cond_false,cond_false,cond_true,Zkq,h1,ht,hst]
     exact ⟨w',rfl,h2⟩
    have e0:(x.Kind == 0)=false:=by rw [k];rfl
    have e1:(x.Kind == 1)=false:=by rw [k];rfl
    have e2:(x.Kind == 2)=false:=by rw [k];rfl
    have e3:(x.Kind == 3)=true:=by rw [k];rfl
    have ht:thN x=1:=by unfold thN;rw [if_neg (by omega),if_pos k]
    have hst:stN l s (x,nE x.E)=if Zqn l (nE x.E)=true then ⟨Zbh s.flush 1,[],[]⟩ else ⟨s.flush++[⟨3,0,[],nE x.E⟩],[],[]⟩:=by
     unfold stN
     simp only [k,show ¬ (3:Int)=1 from by decide,show ¬ (3:Int)=2 from by decide,show ¬ (3:Int)=0 from by decide,if_false]
    obtain ⟨r1,r2⟩:=hE x hm k
    rw [ht] at hS
    obtain ⟨w',h1,h2⟩:=Z2f hw (by omega) (by omega) (l:=l) r2
    rw [e0,e1,e2,e3,cond_false,cond_false,cond_false,cond_true,r1,Option.bind_some,Zkq,h1,ht,hst]
    exact ⟨w',rfl,h2⟩
   obtain ⟨w1,h1,h2⟩:=main
   rw [Yu h1]
   obtain ⟨w',h3,h4⟩:=ih (i+1) w1 _ (S+thN x) hd' (by omega) (by omega) h2
   exact ⟨w',h3,by rw [← Nat.add_assoc];exact h4⟩
 have:=key os 0 ⟨[],0,[],[]⟩ s0N 0 (by simp) (by omega) (by omega) ⟨Int.le_refl _,fun _=>rfl,fun h=>by simp at h,fun _ o ho=>by simp at ho,by simp,by simp⟩
 simpa using this
theorem Z9f {rE':Ed→Option Ed} {rO':Int→List EO→Option (List EO)} {l:Int} {os:List EO} (hlen:os.length≤1048576) (hsum:Q1 os≤1073741824) (hok:∀ o∈os,opk o) (hL:∀ o∈os,∀ t∈o.L,Bd t)
  (hE:∀ o∈os,o.Kind=3→rE' o.E=some (nE o.E)∧BE (nE o.E)):Zd5 rE' rO' l os=some (Zf3 l (Kq os)):=by
 obtain ⟨w',h1,h2⟩:=Z7j (l:=l) hlen hsum hok hL hE
 unfold Zd5
 rw [h1,Option.bind_some]
 simp only
 rw [Zkq,h2.lay hlen]
 rfl
theorem Z80 {α:Type} {l:List α} {i:Nat} (h:i < l.length):∃ x,l[i]? = some x∧l.drop i=x::l.drop (i+1):=⟨l[i],List.getElem?_eq_getElem h,List.drop_eq_getElem_cons h⟩
theorem Z5t {L:List Tr} (hL:∀ t∈L,Bd t) (hl:L.length * 56≤140737488355328):Za8 L=some (L.map nrm):=by
 unfold Za8
 rw [Zq1 L nrm _ [] (by omega) (fun i x out hi hx hm ho=>by
  unfold Zbd
  simp only
  rw [Zeq hi,cond_true,Xd hx,Option.bind_some,Zv2 (hL x hm),Option.bind_some,Vh (by simp at ho ⊢;omega) (by simp at ho ⊢;omega),Option.bind_some]) (fun out=>by
  unfold Zbd
  simp only
  rw [Zez,cond_false])]
 rfl
def Ziy (o:EO):Bool:=o.Kind == 1 || o.Kind == 2
def Zdj:List EO→Nat
 | []=>0
 | o::os=>if Ziy o=true then Zdj os+1 else 0
def Zci (kd:Int):List EO→List Tr
 | []=>[]
 | o::os=>if Ziy o=true then (if o.Kind=kd then o.L.map nrm else [])++Zci kd os else []
theorem Z3u:∀ os:List EO,Zdj os≤os.length
 | []=>Nat.le_refl _
 | o::os=>by
  have:=Z3u os
  unfold Zdj
  split <;> simp <;> omega
theorem Zut (kd:Int):∀ os:List EO,(Zci kd os).length≤Q1 os
 | []=>Nat.zero_le _
 | o::os=>by
  have ih:=Zut kd os
  have hs:Q1 (o::os)=thN o+Q1 os:=by unfold Q1;simp
  unfold Zci
  by_cases hg:Ziy o=true
  ·rw [if_pos hg,hs,List.length_append]
   refine Nat.add_le_add ?_ ih
   unfold Ziy at hg
   rw [Bool.or_eq_true,beq_iff_eq,beq_iff_eq] at hg
   unfold thN
   rw [if_neg (by omega:¬ o.Kind=0),if_neg (by omega:¬ o.Kind=3)]
   split <;> simp
  rw [if_neg hg];simp
theorem Zyo {a:List EO} {kd:Int} {i:Nat} (hi:i≤a.length) (hlen:a.length≤1048576) (hsum:Q1 a≤1073741824) (hL:∀ o∈a,∀ t∈o.L,Bd t) (hLl:∀ o∈a,o.L.length * 56≤140737488355328) :
  G3 a (i:Int) kd=some (Zci kd (a.drop i),((i+Zdj (a.drop i):Nat):Int)):=by
 have key:∀ (ys:List EO) (i:Nat) (acc:List Tr),a.drop i=ys→i≤a.length→acc.length+Q1 ys≤1073741824 →
   Z9 (Jf a kd) ((i:Int),acc)=some (((i+Zdj ys:Nat):Int),acc++Zci kd ys):=fun ys=>by
  induction ys with
  | nil =>
   intro i acc hd hi _
   have hil:i=a.length:=by have:=List.drop_eq_nil_iff.1 hd;omega
   subst hil
   refine Y0 ?_
   unfold Jf
   simp only
   rw [Zez,cond_false,Option.bind_some,cond_false]
   simp [Zdj,Zci]
  | cons x ys ih =>
   intro i acc hd hi hS
   have hil:i < a.length:=by
    rcases Nat.lt_or_ge i a.length with h | h
    ·exact h
    rw [List.drop_eq_nil_of_le h] at hd;cases hd
   have hx:a[i]? = some x:=by
    rw [List.drop_eq_getElem_cons hil] at hd
    injection hd with h1 _
    rw [List.getElem?_eq_getElem hil,h1]
   have hd':a.drop (i+1)=ys:=by
    rw [List.drop_eq_getElem_cons hil] at hd
    injection hd
   have hm:=List.mem_of_getElem? hx
   have hsx:Q1 (x::ys)=thN x+Q1 ys:=by unfold Q1;simp
   rw [hsx] at hS
   have hz:(cond (decide ((i:Int) < (a.length:Int))) ((Xg a (i:Int)).bind fun x10=>cond (x10.Kind == 1) (some (cond (decide ((i:Int) < (a.length:Int))) true false)) (some (cond (decide ((i:Int) < (a.length:Int))) (cond (x10.Kind == 1) true (x10.Kind == 2)) false))) (some false))=some (Ziy x):=by
    rw [Zeq hil,cond_true,Xd hx,Option.bind_some]
    unfold Ziy
    cases x.Kind == 1 <;> cases x.Kind == 2 <;> rfl
   by_cases hg:Ziy x=true
   ·have hth:thN x=x.L.length:=by
     unfold Ziy at hg
     rw [Bool.or_eq_true,beq_iff_eq,beq_iff_eq] at hg
     unfold thN
     rw [if_neg (by omega),if_neg (by omega)]
    have hst:Jf a kd ((i:Int),acc)=some (.inl (((i+1:Nat):Int),acc++(if x.Kind=kd then x.L.map nrm else []))):=by
     unfold Jf
     simp only
     rw [hz,Option.bind_some,hg,cond_true,Xd hx,Option.bind_some,Option.bind_some,Z5t (hL x hm) (hLl x hm),Option.bind_some,G0 (by omega) (by omega)]
     rw [Vh (by simp;omega) (by simp;omega)]
     by_cases hk:x.Kind=kd
     ·rw [if_pos hk,hk];simp
     rw [if_neg hk,beq_eq_false_iff_ne.2 hk];simp
    rw [Yu hst]
    rw [ih (i+1) _ hd' (by omega) (by
     rw [List.length_append]
     have:(if x.Kind=kd then x.L.map nrm else ([]:List Tr)).length≤x.L.length:=by split <;> simp
     omega)]
    simp only [Zdj,Zci,if_pos hg,List.append_assoc]
    congr 2
    omega
   have hst:Jf a kd ((i:Int),acc)=some (.inr ((i:Int),acc)):=by
    unfold Jf
    simp only
    have:Ziy x=false:=by simpa using hg
    rw [hz,Option.bind_some,this,cond_false]
   rw [Y0 hst]
   simp [Zdj,Zci,hg]
 unfold G3
 rw [key _ i [] rfl hi (by
  have:Q1 (a.drop i)≤Q1 a:=by
   conv=>rhs;rw [← List.take_append_drop i a]
   unfold Q1
   rw [List.map_append,List.sum_append]
   omega
  simp;omega),Option.bind_some]
 simp
theorem Zz3 (l:Int):∀ (ys:List EO) (s:NW),(Kq ys).foldl (stN l) s=(Kq (ys.drop (Zdj ys))).foldl (stN l) ⟨s.out,s.gone++Zci 1 ys,s.come++Zci 2 ys⟩
 | [],s=>by simp [Zdj,Zci]
 | o::os,s=>by
  by_cases hg:Ziy o=true
  ·have hg':=hg
   unfold Ziy at hg'
   rw [Bool.or_eq_true,beq_iff_eq,beq_iff_eq] at hg'
   simp only [Zdj,Zci,if_pos hg,List.drop_succ_cons]
   show (Kq os).foldl (stN l) (stN l s (o,nE o.E))=_
   rw [Zz3 l os]
   unfold stN
   rcases hg' with h | h
   ·simp [h]
   simp [h]
  simp [Zdj,Zci,hg]
theorem Z3t:∀ {ys:List EO} {o:EO},(ys.drop (Zdj ys))[0]? = some o→Ziy o=false
 | [],o,h=>by simp [Zdj] at h
 | x::ys,o,h=>by
  by_cases hg:Ziy x=true
  ·simp only [Zdj,if_pos hg,List.drop_succ_cons] at h
   exact Z3t h
  simp only [Zdj,if_neg hg,List.drop_zero,List.getElem?_cons_zero,Option.some.injEq] at h
  subst h
  simpa using hg
theorem Z0v (l:Int) (e:Ed):U4 l e=some (Zqn l e):=by
 unfold U4 Zqn
 rw [Z5g,Z5g]
 cases e.Kind == 0 <;> cases l == 9 <;> cases e.Kind == 2 <;> cases e.Words.length == 0 <;> cases e.Kids.length == 0 <;> rfl
theorem Z2g (e:Ed):(⟨e.Kind,⟨e.Old.Kind,e.Old.Words,e.Old.Kids⟩,⟨e.New.Kind,e.New.Words,e.New.Kids⟩,e.Words,e.Kids,e.List_,e.Ops⟩:Ed)=e:=by
 obtain ⟨k,⟨a,b,c⟩,⟨d,f,g⟩,w,ks,li,os⟩:=e
 rfl
theorem Z38 {out:List EO} {n tt:Int} (hlen:(out.length+1) * 240≤140737488355328) (hn:0≤n∧n≤1073741824) (hN:∀ o,out.getLast? = some o→o.Kind=0→0≤o.N∧o.N≤1073741824) :
  (cond ((0:Int) == 0) (cond (decide (0 < (out.length:Int))) ((Xg out (IntKind.i64.wrap ((out.length:Int) - 1))).bind fun x36=>some (cond (cond ((0:Int) == 0) (decide (0 < (out.length:Int))) false) (x36.Kind == 0) false)) (some false)) (some false)).bind (fun (z33:Bool)=>cond z33 ((Xg out (IntKind.i64.wrap ((out.length:Int) - 1))).bind fun x40=>some (.inl (tt,Zld out (IntKind.i64.wrap ((out.length:Int) - 1)) (⟨x40.Kind,(IntKind.i64.wrap (x40.N+n)),x40.L,x40.E⟩:EO)))) ((Zbf 240 out [(⟨0,n,[],eS0⟩:EO)]).bind fun l44=>some (.inl (tt,l44))))=(some (.inl (tt,Zbh out n)):Option ((Int×List EO) ⊕ List EO)):=by
 rw [show ((0:Int) == 0)=true from rfl,cond_true]
 cases hl:out.getLast? with
 | none =>
  have:=List.getLast?_eq_none_iff.1 hl
  subst this
  rfl
 | some o =>
  obtain ⟨o',ho⟩:=List.getLast?_eq_some_iff.1 hl
  have hlen':out.length=o'.length+1:=by rw [ho];simp
  have hpos:decide (0 < (out.length:Int))=true:=by rw [decide_eq_true_eq];omega
  have hw:IntKind.i64.wrap ((out.length:Int) - 1)=(o'.length:Int):=by rw [G0 (by omega) (by omega)];omega
  have hg:Xg out (o'.length:Int)=some o:=Xd (by rw [ho];simp)
  rw [hpos,cond_true,hw,hg,Option.bind_some,Option.bind_some,Option.bind_some]
  unfold Zbh
  rw [hl]
  simp only
  by_cases hk:o.Kind=0
  ·have hN':=hN o hl hk
   have e:(o.Kind == 0)=true:=by rw [hk];rfl
   rw [e,if_pos hk]
   simp only [cond_true]
   rw [G0 (by omega) (by omega),hk]
   unfold Zld
   rw [ho,Int.toNat_natCast]
   simp
  rw [beq_eq_false_iff_ne.2 hk,if_neg hk]
  simp only [cond_true,cond_false]
  rw [Vh (by simp;omega) (by simp;omega),Option.bind_some]
theorem Zvw {out:List EO} {n:Int} {S:Nat} (hn:0≤n) (hN:∀ o,out.getLast? = some o→o.Kind=0→0≤o.N∧o.N≤S):∀ o,(Zbh out n).getLast? = some o→o.Kind=0→0≤o.N∧o.N≤S+n:=fun o ho hk=>by
 unfold Zbh at ho
 cases hl:out.getLast? with
 | none=>rw [hl] at ho;simp at ho;subst ho;simp only;omega
 | some x =>
  rw [hl] at ho
  simp only at ho
  split at ho
  ·rename_i hx
   have:=hN x hl hx
   simp at ho;subst ho;simp only;omega
  simp at ho;subst ho;simp only;omega
theorem Ztf (out:List EO) (n:Int):(Zbh out n).length≤out.length+1:=by
 unfold Zbh
 split
 ·split <;> simp
 simp
theorem Z3b (ys:List EO) (k:Nat):Q1 ys=Q1 (ys.take k)+Q1 (ys.drop k):=by
 conv=>lhs;rw [← List.take_append_drop k ys]
 unfold Q1
 rw [List.map_append,List.sum_append]
theorem Zx8 {rE':Ed→Option Ed} {l:Int} {a:List EO} (hlen:a.length≤1048576) (hsum:Q1 a≤1073741824) (hok:∀ o∈a,opk o) (hL:∀ o∈a,∀ t∈o.L,Bd t) (hLl:∀ o∈a,o.L.length * 56≤140737488355328)
  (hE:∀ o∈a,o.Kind=3→rE' o.E=some (nE o.E)) :
  ∀ (m i:Nat) (out:List EO) (S:Nat),a.length - i < m→i≤a.length→out.length≤3 * i→(∀ o,out.getLast? = some o→o.Kind=0→0≤o.N∧o.N≤S)→S+Q1 (a.drop i)≤1073741824 →
  ∃ r:List EO ⊕ List EO,Z9 (X9 rE' l a) ((i:Int),out)=some r∧Sum.elim id id r=((Kq (a.drop i)).foldl (stN l) ⟨out,[],[]⟩).flush
 | 0,_,_,_,h,_,_,_,_=>by omega
 | m+1,i,out,S,hm,hi,hol,hN,hS=>by
  by_cases hil:i < a.length
  ·have hgn:=Z3u (a.drop i)
   rw [List.length_drop] at hgn
   have hg1:=Zut 1 (a.drop i)
   have hg2:=Zut 2 (a.drop i)
   have hFe:out++Zca (Zci 1 (a.drop i))++Zdh (Zci 2 (a.drop i))=(⟨out,Zci 1 (a.drop i),Zci 2 (a.drop i)⟩:NW).flush:=by unfold NW.flush;rw [List.append_assoc]
   have hd1:(Zca (Zci 1 (a.drop i))).length≤1:=by unfold Zca;split <;> simp
   have hd2:(Zdh (Zci 2 (a.drop i))).length≤1:=by unfold Zdh;split <;> simp
   have hFl:(⟨out,Zci 1 (a.drop i),Zci 2 (a.drop i)⟩:NW).flush.length≤3 * i+2:=by
    rw [← hFe,List.length_append,List.length_append];omega
   have hFN:∀ o,(⟨out,Zci 1 (a.drop i),Zci 2 (a.drop i)⟩:NW).flush.getLast? = some o→o.Kind=0→0≤o.N∧o.N≤S:=fun o ho hk=>by
    rcases Zpg ho with h12 | ⟨_,_,g3⟩
    ·omega
    exact hN o g3 hk
   have z6:(cond (decide (0 < ((Zci 1 (a.drop i)).length:Int))) ((Zbf 240 out ([(⟨1,0,Zci 1 (a.drop i),eS0⟩:EO)])).bind fun l7=>some l7) (some out))=some (out++Zca (Zci 1 (a.drop i))):=by
    by_cases h:Zci 1 (a.drop i)=[]
    ·rw [h];simp [Zca]
    have:decide (0 < ((Zci 1 (a.drop i)).length:Int))=true:=by rw [decide_eq_true_eq];have:=List.length_pos_iff.2 h;omega
    rw [this,cond_true,Vh (by simp;omega) (by simp;omega),Zls h];rfl
   have z9:(cond (decide (0 < ((Zci 2 (a.drop i)).length:Int))) ((Zbf 240 (out++Zca (Zci 1 (a.drop i))) ([(⟨2,0,Zci 2 (a.drop i),eS0⟩:EO)])).bind fun l10=>some l10) (some (out++Zca (Zci 1 (a.drop i)))))=some (⟨out,Zci 1 (a.drop i),Zci 2 (a.drop i)⟩:NW).flush:=by
    rw [← hFe]
    by_cases h:Zci 2 (a.drop i)=[]
    ·rw [h];simp [Zdh]
    have:decide (0 < ((Zci 2 (a.drop i)).length:Int))=true:=by rw [decide_eq_true_eq];have:=List.length_pos_iff.2 h;omega
    have hl':(out++Zca (Zci 1 (a.drop i))).length≤out.length+1:=by rw [List.length_append];omega
    rw [this,cond_true,Vh (by simp only [List.length_singleton];omega) (by simp only [List.length_singleton];omega),Zlw h];rfl
   have hfold:=Zz3 l (a.drop i) ⟨out,[],[]⟩
   simp only [List.nil_append] at hfold
   rw [List.drop_drop] at hfold
   generalize hF:(⟨out,Zci 1 (a.drop i),Zci 2 (a.drop i)⟩:NW).flush=F at *
   by_cases hto:a.length≤i+Zdj (a.drop i)
   ·refine ⟨.inl F,Y0 ?_,?_⟩
    ·unfold X9
     simp only
     rw [Zeq hil,cond_true,Zyo hi hlen hsum hL hLl,Zyo hi hlen hsum hL hLl]
     simp only [Option.bind_some]
     refine Option.bind_eq_some_iff.2 ⟨.inr F,?_,rfl⟩
     refine Option.bind_eq_some_iff.2 ⟨_,z6,?_⟩
     refine Option.bind_eq_some_iff.2 ⟨_,z9,?_⟩
     rw [decide_eq_true (by omega:(a.length:Int)≤((i+Zdj (a.drop i):Nat):Int)),cond_true]
    rw [hfold,List.drop_eq_nil_of_le hto]
    exact hF.symm
   obtain ⟨o,ho,hod⟩:=Z80 (show i+Zdj (a.drop i) < a.length by omega)
   have hom:=List.mem_of_getElem? ho
   have hng:Ziy o=false:=Z3t (ys:=a.drop i) (by rw [List.drop_drop,hod];rfl)
   have hsp:=Z3b (a.drop i) (Zdj (a.drop i))
   rw [List.drop_drop,hod] at hsp
   have hso:Q1 (o::a.drop (i+Zdj (a.drop i)+1))=thN o+Q1 (a.drop (i+Zdj (a.drop i)+1)):=by unfold Q1;simp
   rw [hso] at hsp
   have go:∀ (out':List EO) (n':Int),0≤n'→n'≤(thN o:Nat)→out'.length≤3 * (i+Zdj (a.drop i)+1)→(∀ x,out'.getLast? = some x→x.Kind=0→0≤x.N∧x.N≤S+n')→stN l ⟨out,Zci 1 (a.drop i),Zci 2 (a.drop i)⟩ (o,nE o.E)=⟨out',[],[]⟩ →
     X9 rE' l a ((i:Int),out)=some (.inl (((i+Zdj (a.drop i)+1:Nat):Int),out')) →
     ∃ r:List EO ⊕ List EO,Z9 (X9 rE' l a) ((i:Int),out)=some r∧Sum.elim id id r=((Kq (a.drop i)).foldl (stN l) ⟨out,[],[]⟩).flush:=fun out' n' hn0 hn1 h1 h2 h3 h4=>by
    obtain ⟨r,hr1,hr2⟩:=Zx8 hlen hsum hok hL hLl hE m (i+Zdj (a.drop i)+1) out' (S+thN o) (by omega) (by omega) h1 (fun x hx hk=>by have:=h2 x hx hk;omega) (by omega)
    refine ⟨r,by rw [Yu h4];exact hr1,?_⟩
    rw [hr2,hfold,hod]
    show _=((Kq _).foldl (stN l) (stN l _ (o,nE o.E))).flush
    rw [h3]
   have start:∀ (z1:Int×List EO),(((Xg a ((i+Zdj (a.drop i):Nat):Int)).bind fun x19=>cond (x19.Kind == 3) ((Xg a ((i+Zdj (a.drop i):Nat):Int)).bind fun x24=>(rE' x24.E).bind fun y26=>(U4 l y26).bind fun y28=>cond y28 (some ((0:Int),(1:Int),(0:Int),(0:Int),([]:(List Int)),([]:(List Zb)),(0:Int),([]:(List Int)),([]:(List Zb)),([]:(List Zp)),([]:(List Zm)),(0:Int),([]:(List Zl)))) (some (3,0,y26.Kind,y26.Old.Kind,y26.Old.Words,y26.Old.Kids,y26.New.Kind,y26.New.Words,y26.New.Kids,y26.Words,y26.Kids,y26.List_,y26.Ops))) (some (0,o.N,0,0,([]:(List Int)),([]:(List Zb)),0,([]:(List Int)),([]:(List Zb)),([]:(List Zp)),([]:(List Zm)),0,([]:(List Zl))))).bind fun (z16:(Int×Int×Int×Int×(List Int)×(List Zb)×Int×(List Int)×(List Zb)×(List Zp)×(List Zm)×Int×(List Zl)))=>(cond (z16.1 == 0) (cond (decide (0 < (F.length:Int))) ((Xg F (IntKind.i64.wrap ((F.length:Int) - 1))).bind fun x36=>some (cond (cond (z16.1 == 0) (decide (0 < (F.length:Int))) false) (x36.Kind == 0) false)) (some false)) (some false)).bind fun (z33:Bool)=>cond z33 ((Xg F (IntKind.i64.wrap ((F.length:Int) - 1))).bind fun x40=>some (.inl (((i+Zdj (a.drop i):Nat):Int),(Zld F (IntKind.i64.wrap ((F.length:Int) - 1)) (⟨x40.Kind,(IntKind.i64.wrap (x40.N+z16.2.1)),x40.L,x40.E⟩:Zl))))) ((Zbf 240 F ([(⟨z16.1,z16.2.1,([]:(List Zb)),(⟨z16.2.2.1,(⟨z16.2.2.2.1,z16.2.2.2.2.1,z16.2.2.2.2.2.1⟩:Zb),(⟨z16.2.2.2.2.2.2.1,z16.2.2.2.2.2.2.2.1,z16.2.2.2.2.2.2.2.2.1⟩:Zb),z16.2.2.2.2.2.2.2.2.2.1,z16.2.2.2.2.2.2.2.2.2.2.1,z16.2.2.2.2.2.2.2.2.2.2.2.1,z16.2.2.2.2.2.2.2.2.2.2.2.2⟩:Zg)⟩:Zl)]:List Zl)).bind fun l44=>some (.inl (((i+Zdj (a.drop i):Nat):Int),l44))))=(some (.inl z1):Option ((Int×List EO) ⊕ List EO)) →
     X9 rE' l a ((i:Int),out)=some (.inl (IntKind.i64.wrap (z1.1+1),z1.2)):=fun z1 hz=>by
    unfold X9
    simp only
    rw [Zeq hil,cond_true,Zyo hi hlen hsum hL hLl,Zyo hi hlen hsum hL hLl]
    simp only [Option.bind_some]
    refine Option.bind_eq_some_iff.2 ⟨.inl z1,?_,rfl⟩
    refine Option.bind_eq_some_iff.2 ⟨_,z6,?_⟩
    refine Option.bind_eq_some_iff.2 ⟨_,z9,?_⟩
    rw [decide_eq_false (by omega:¬ (a.length:Int)≤((i+Zdj (a.drop i):Nat):Int)),cond_false,Xd ho,Option.bind_some]
    rw [Xd ho] at hz
    exact hz
   have hwr:IntKind.i64.wrap (((i+Zdj (a.drop i):Nat):Int)+1)=((i+Zdj (a.drop i)+1:Nat):Int):=by rw [G0 (by omega) (by omega)];omega
   unfold Ziy at hng
   rw [Bool.or_eq_false_iff,beq_eq_false_iff_ne,beq_eq_false_iff_ne] at hng
   rcases hok o hom with ⟨k,hn⟩ | ⟨k,_⟩ | ⟨k,_⟩ | k
   ·have hth:thN o=o.N.toNat:=by unfold thN;rw [if_pos k]
    have hp:=Ztf F o.N
    refine go (Zbh F o.N) o.N (by omega) (by omega) (by omega) (Zvw (by omega) hFN) ?_ ?_
    ·unfold stN
     simp only [k,show ¬ (0:Int)=1 from by decide,show ¬ (0:Int)=2 from by decide,if_false,if_true]
     rw [hF]
    have:=start (((i+Zdj (a.drop i):Nat):Int),Zbh F o.N) (by
     rw [Xd ho,Option.bind_some,k]
     exact Z38 (n:=o.N) (by omega) (by omega) (fun x hx hk=>by have:=hFN x hx hk;omega))
    rw [this]
    simp only
    rw [hwr]
   ·omega
   ·omega
   have hth:thN o=1:=by unfold thN;rw [if_neg (by omega),if_pos k]
   have e3:(o.Kind == 3)=true:=by rw [k];rfl
   cases hid:Zqn l (nE o.E) with
   | true =>
    have hp:=Ztf F 1
    refine go (Zbh F 1) 1 (by omega) (by omega) (by omega) (Zvw (by omega) hFN) ?_ ?_
    ·unfold stN
     simp only [k,show ¬ (3:Int)=1 from by decide,show ¬ (3:Int)=2 from by decide,show ¬ (3:Int)=0 from by decide,if_false,hid,if_true]
     rw [hF]
    have:=start (((i+Zdj (a.drop i):Nat):Int),Zbh F 1) (by
     rw [Xd ho,Option.bind_some,e3,cond_true,Option.bind_some,hE o hom k,Option.bind_some,Z0v,Option.bind_some,hid,cond_true]
     exact Z38 (n:=1) (by omega) (by omega) (fun x hx hk=>by have:=hFN x hx hk;omega))
    rw [this]
    simp only
    rw [hwr]
   | false =>
    refine go (F++[⟨3,0,[],nE o.E⟩]) 1 (by omega) (by omega) (by simp;omega) (fun x hx hk=>by simp at hx;subst hx;simp at hk) ?_ ?_
    ·unfold stN
     simp only [k,show ¬ (3:Int)=1 from by decide,show ¬ (3:Int)=2 from by decide,show ¬ (3:Int)=0 from by decide,if_false,hid]
     rw [hF]
     simp
    have:=start (((i+Zdj (a.drop i):Nat):Int),F++[⟨3,0,[],nE o.E⟩]) (by
     rw [Xd ho,Option.bind_some,e3,cond_true,Option.bind_some,hE o hom k,Option.bind_some,Z0v,Option.bind_some,hid,cond_false,Option.bind_some]
     simp only [show ((3:Int) == 0)=false from rfl,cond_false,Option.bind_some]
     rw [Z2g,Vh (by simp;omega) (by simp;omega),Option.bind_some])
    rw [this]
    simp only
    rw [hwr]
  have hil':i=a.length:=by omega
  subst hil'
  refine ⟨.inr out,Y0 (by unfold X9;simp only;rw [Zez,cond_false]),?_⟩
  rw [List.drop_length]
  unfold NW.flush
  simp [Kq,Zca,Zdh]
theorem Z7v {rE':Ed→Option Ed} {rO':Int→List EO→Option (List EO)} {l:Int} {a:List EO} (hlen:a.length≤1048576) (hsum:Q1 a≤1073741824) (hok:∀ o∈a,opk o) (hL:∀ o∈a,∀ t∈o.L,Bd t) (hLl:∀ o∈a,o.L.length * 56≤140737488355328)
  (hE:∀ o∈a,o.Kind=3→rE' o.E=some (nE o.E)):Gy rE' rO' l a=some (Zf3 l (Kq a)):=by
 obtain ⟨r,h1,h2⟩:=Zx8 (l:=l) hlen hsum hok hL hLl hE (a.length+1) 0 [] 0 (by omega) (by omega) (by simp) (fun o ho=>by simp at ho) (by simpa using hsum)
 unfold Gy
 have h1':Z9 (X9 rE' l a) (0,[])=some r:=h1
 rw [h1',Option.bind_some]
 rw [List.drop_zero] at h2
 unfold Zf3
 show _=some (((Kq a).foldl (stN l) ⟨[],[],[]⟩).flush)
 rw [← h2]
 cases r <;> rfl
inductive GN:Ed→Prop
 | mk (e:Ed) (hw:e.Words.length≤1048576) (hk:e.Kids.length≤1048576) (ho:e.Ops.length≤1048576) (hs:Q1 e.Ops≤1073741824) (hp:∀ o∈e.Ops,opk o) (ik:∀ k∈e.Kids,GN k.E) (io:∀ o∈e.Ops,GN o.E):GN e
theorem GN.w {e:Ed} (h:GN e):e.Words.length≤1048576:=by cases h;assumption
theorem GN.k {e:Ed} (h:GN e):e.Kids.length≤1048576:=by cases h;assumption
theorem GN.o {e:Ed} (h:GN e):e.Ops.length≤1048576:=by cases h;assumption
theorem GN.s {e:Ed} (h:GN e):Q1 e.Ops≤1073741824:=by cases h;assumption
theorem GN.p {e:Ed} (h:GN e):∀ o∈e.Ops,opk o:=by cases h;assumption
theorem GN.ks {e:Ed} (h:GN e):∀ k∈e.Kids,GN k.E:=by cases h;assumption
theorem GN.os {e:Ed} (h:GN e):∀ o∈e.Ops,GN o.E:=by cases h;assumption
theorem Z85 {e:Ed} (h:Zkb e=true):GN e:=by
 unfold Zkb Zl1 Zk1 at h
 simp only [Bool.and_eq_true,beq_iff_eq] at h
 obtain ⟨_,_,⟨h1,h2⟩,_,h3⟩:=h
 have w:=List.eq_nil_of_length_eq_zero h1
 have k:=List.eq_nil_of_length_eq_zero h2
 have o:=List.eq_nil_of_length_eq_zero h3
 exact .mk _ (by rw [w];simp) (by rw [k];simp) (by rw [o];simp) (by rw [o];simp [Q1]) (by rw [o];simp) (by rw [k];simp) (by rw [o];simp)
theorem Zqi:GN eS0 := .mk _ (by simp [eS0]) (by simp [eS0]) (by simp [eS0]) (by simp [eS0,Q1]) (by simp [eS0]) (by simp [eS0]) (by simp [eS0])
theorem Ztl:Bd n0T := .mk _ (by simp [n0T]) (by simp [n0T]) (by simp [n0T]) (by simp [n0T])
theorem Zp5:BE eS0 := .mk _ Ztl Ztl (by simp [eS0]) (by simp [eS0]) (by simp [eS0]) (by simp [eS0]) (by simp [eS0]) (by simp [eS0]) (by simp [eS0])
theorem Z91 {l:Int} {o:EO} {r:Bool} (h:okO l o r=true):((thN o:Nat):Int)=thr o:=by
 unfold okO at h
 unfold thN thr
 by_cases h0:o.Kind=0
 ·rw [if_pos h0] at h
  simp only [Bool.and_eq_true,decide_eq_true_eq] at h
  rw [if_pos h0,if_pos h0]
  split <;> split at * <;> omega
 rw [if_neg h0] at h ⊢
 rw [if_neg h0]
 by_cases h12:o.Kind=1∨o.Kind=2
 ·rw [if_pos h12,if_neg (by omega)]
 rw [if_neg h12] at h ⊢
 by_cases h3:o.Kind=3
 ·rw [if_pos h3,if_pos h3];rfl
 rw [if_neg h3] at h;cases h
theorem Z9i {l:Int} {o:EO} {r:Bool} (h:okO l o r=true):opk o:=by
 unfold okO at h
 unfold opk
 by_cases h0:o.Kind=0
 ·rw [if_pos h0] at h
  simp only [Bool.and_eq_true,decide_eq_true_eq] at h
  exact .inl ⟨h0,h.1.1⟩
 rw [if_neg h0] at h
 by_cases h12:o.Kind=1∨o.Kind=2
 ·rw [if_pos h12] at h
  simp only [Bool.and_eq_true,decide_eq_true_eq] at h
  have hne:o.L≠[]:=by
   intro he
   rw [he] at h
   simp at h
  rcases h12 with h1 | h2
  ·exact .inr (.inl ⟨h1,hne⟩)
  exact .inr (.inr (.inl ⟨h2,hne⟩))
 rw [if_neg h12] at h
 by_cases h3:o.Kind=3
 ·exact .inr (.inr (.inr h3))
 rw [if_neg h3] at h;cases h
theorem Z01 {l:Int} (r:EO→Bool):∀ (os:List EO) (s:Int×Int),Sm s→(∀ o∈os,okO l o (r o)=true)→(∀ o∈os,o.L.length * 56≤140737488355328)→Zx0 (os.foldl stI s)=true→s.1+s.2+((Q1 os:Nat):Int)≤(os.foldl stI s).1+(os.foldl stI s).2
 | [],s,_,_,_,_=>by simp [Q1]
 | o::os,s,hs,h,hl,hb=>by
  have hsm:=Z28 hs (hl o (.head _))
  have hup:=Z3s os (stI s o) hsm (fun x hx=>hl x (.tail _ hx))
  have ih:=Z01 r os (stI s o) hsm (fun x hx=>h x (.tail _ hx)) (fun x hx=>hl x (.tail _ hx)) hb
  have hso:Q1 (o::os)=thN o+Q1 os:=by unfold Q1;simp
  have ht:=Z91 (h o (.head _))
  rw [List.foldl_cons] at hb ⊢
  unfold Zx0 at hb
  rw [Bool.and_eq_true,decide_eq_true_eq,decide_eq_true_eq] at hb
  have n1:(stI s o).1≠1048576:=fun he=>by have:=hup.1 he;omega
  have n2:(stI s o).2≠1048576:=fun he=>by have:=hup.2 he;omega
  have key:s.1+s.2+thr o≤(stI s o).1+(stI s o).2:=by
   have hth:0≤thr o:=by omega
   unfold stI Zs0 at n1 n2 ⊢
   simp only at n1 n2 ⊢
   by_cases k2:o.Kind=2
   ·rw [if_neg (by omega:¬ o.Kind=1)] at n2 ⊢
    rw [if_pos k2]
    split at n2
    ·omega
    rename_i h5;rw [if_neg h5];omega
   rw [if_neg k2] at n1 ⊢
   split at n1
   ·omega
   rename_i h5
   rw [if_neg h5]
   by_cases k1:o.Kind=1
   ·rw [if_pos k1];omega
   rw [if_neg k1] at n2 ⊢
   split at n2
   ·omega
   rename_i h6;rw [if_neg h6];omega
  rw [hso]
  omega
theorem Zqp {α:Type} {f:α→Nat} {x:α}:∀ {l:List α},x∈l→f x≤(l.map f).sum
 | y::l,h=>by
  rw [List.map_cons,List.sum_cons]
  rcases List.mem_cons.1 h with rfl | h
  ·omega
  have:=Zqp (f:=f) h;omega
theorem Z0e {α:Type} {f:α→Nat}:∀ {l:List α},(∀ x∈l,1≤f x)→l.length≤(l.map f).sum
 | [],_=>Nat.le_refl _
 | y::l,h=>by
  rw [List.map_cons,List.sum_cons,List.length_cons]
  have:=Z0e (f:=f) (l:=l) fun x hx=>h x (by simp [hx])
  have:=h y (by simp)
  omega
theorem Ya1 (e:Ed):1≤ce e:=by rw [Z6f];omega
theorem Z6q:∀ (n:Nat) (e:Ed) (d:Nat),SizeOf.sizeOf e < n→BE e→ce e≤1000000→rE e d=true→GN e
 | 0,_,_,h,_,_,_=>by omega
 | n+1,e,d,hn,hb,hc,h=>by
  have hc':=hc
  rw [Z6f] at hc'
  have hk1:e.Kids.length≤(e.Kids.map fun k=>ce k.E).sum:=Z0e fun x _=>Ya1 _
  have hlens:=Z9j hb h
  have hparts:(∀ k∈e.Kids,∃ d',rE k.E d'=true)∧(∀ o∈e.Ops,opk o∧(Zkb o.E=true∨∃ d',rE o.E d'=true))∧Q1 e.Ops≤2097152:=by
   rw [Z39] at h
   by_cases hd:d=0
   ·rw [if_pos hd] at h;cases h
   rw [if_neg hd] at h
   by_cases h0:e.Kind=0
   ·rw [if_pos h0] at h
    unfold Zkb Zl1 Zk1 at h
    simp only [Bool.and_eq_true,beq_iff_eq] at h
    obtain ⟨_,_,⟨h1,h2⟩,_,h3⟩:=h
    rw [List.eq_nil_of_length_eq_zero h2,List.eq_nil_of_length_eq_zero h3]
    simp [Q1]
   rw [if_neg h0] at h
   by_cases h1:e.Kind=1
   ·rw [if_pos h1] at h
    unfold Zl1 Zk1 at h
    simp only [Bool.and_eq_true,beq_iff_eq] at h
    rw [List.eq_nil_of_length_eq_zero h.1.1.2,List.eq_nil_of_length_eq_zero h.1.2.2]
    simp [Q1]
   rw [if_neg h1] at h
   by_cases h2:e.Kind=2
   ·rw [if_pos h2] at h
    unfold Zk1 at h
    simp only [Bool.and_eq_true,beq_iff_eq] at h
    rw [List.eq_nil_of_length_eq_zero h.1.2.2]
    refine ⟨fun k hk=>⟨d - 1,?_⟩,by simp,by simp [Q1]⟩
    exact Zyh (Q:=fun k:Zm=>rE k.E (d - 1)=true) (fun p x hx=>by
     unfold okK okP at hx
     simp only [Bool.and_eq_true] at hx
     exact hx.2.2) e.Kids (-1) h.2.2 k hk
   rw [if_neg h2] at h
   by_cases h3:e.Kind=3
   ·rw [if_pos h3] at h
    unfold Zl1 at h
    rw [Bool.and_eq_true,Bool.and_eq_true,Bool.and_eq_true,Bool.and_eq_true,Bool.and_eq_true,Bool.and_eq_true,beq_iff_eq,beq_iff_eq,List.all_eq_true] at h
    obtain ⟨⟨_,_,hk⟩,_,hall,hB⟩:=h
    rw [List.eq_nil_of_length_eq_zero hk]
    refine ⟨by simp,fun o ho=>⟨Z9i (hall o ho),?_⟩,?_⟩
    ·have:=hall o ho
     unfold okO at this
     by_cases k0:o.Kind=0
     ·rw [if_pos k0] at this
      simp only [Bool.and_eq_true] at this
      exact .inl this.2.2
     rw [if_neg k0] at this
     by_cases k12:o.Kind=1∨o.Kind=2
     ·rw [if_pos k12] at this
      simp only [Bool.and_eq_true] at this
      exact .inl this.2.2.2
     rw [if_neg k12] at this
     by_cases k3:o.Kind=3
     ·rw [if_pos k3] at this
      simp only [Bool.and_eq_true] at this
      exact .inr ⟨d - 1,this.2.2.2.2⟩
     rw [if_neg k3] at this;cases this
    rw [hlens] at hB
    have:=Z01 (l:=e.List_) (fun o=>rE o.E (d - 1)) e.Ops (0,0) ⟨⟨by decide,by decide⟩,by decide,by decide⟩ hall (fun o ho=>(hb.l o ho).1) hB
    unfold Zx0 at hB
    rw [Bool.and_eq_true,decide_eq_true_eq,decide_eq_true_eq] at hB
    simp only at this
    omega
   rw [if_neg h3] at h;cases h
  refine .mk _ (by omega) (by omega) (by omega) (by omega) (fun o ho=>(hparts.2.1 o ho).1) (fun k hk => ?_) (fun o ho => ?_)
  ·obtain ⟨d',hd'⟩:=hparts.1 k hk
   have:=Zqp (f:=fun k:Zm=>ce k.E) hk
   exact Z6q n k.E d' (by have:=Zbs hk;omega) (hb.ks k hk) (by omega) hd'
  rcases (hparts.2.1 o ho).2 with hs | ⟨d',hd'⟩
  ·exact Z85 hs
  have:=Zqp (f:=fun o:Zl=>ce o.E) ho
  exact Z6q n o.E d' (by have:=Zdx ho;omega) (hb.os o ho) (by omega) hd'
def OQ (S:Nat) (o:EO):Prop:=opk o∧o.L.length≤S∧(∀ t∈o.L,Bd t)∧BE o.E∧GN o.E
structure OB (s:NW) (i S:Nat):Prop where
 out:∀ o∈s.out,OQ S o
 gone:∀ t∈s.gone,Bd t
 come:∀ t∈s.come,Bd t
 cnt:s.flush.length≤i
 sum:Q1 s.flush≤S
theorem OQ.mono {S S':Nat} {o:EO} (h:OQ S o) (hS:S≤S'):OQ S' o:=⟨h.1,Nat.le_trans h.2.1 hS,h.2.2⟩
theorem Zll (a b:List EO):Q1 (a++b)=Q1 a+Q1 b:=by unfold Q1;rw [List.map_append,List.sum_append]
theorem Z78 (g:List Tr):Q1 (Zca g)=g.length:=by
 by_cases h:g=[]
 ·subst h;rfl
 rw [Zls h];simp [Q1,thN]
theorem Z79 (g:List Tr):Q1 (Zdh g)=g.length:=by
 by_cases h:g=[]
 ·subst h;rfl
 rw [Zlw h];simp [Q1,thN]
theorem Zp2 (s:NW):Q1 s.flush=Q1 s.out+(s.gone.length+s.come.length):=by
 unfold NW.flush
 rw [Zll,Zll,Z78,Z79]
theorem OB.fl {s:NW} {i S:Nat} (h:OB s i S):∀ o∈s.flush,OQ S o:=fun o ho=>by
 have hs:=h.sum
 rw [Zp2] at hs
 unfold NW.flush at ho
 rw [List.mem_append,List.mem_append] at ho
 rcases ho with ho | ho | ho
 ·exact h.out o ho
 ·by_cases hg:s.gone=[]
  ·rw [hg] at ho;simp [Zca] at ho
  rw [Zls hg,List.mem_singleton] at ho
  subst ho
  exact ⟨.inr (.inl ⟨rfl,hg⟩),by simp only;omega,h.gone,Zp5,Zqi⟩
 by_cases hg:s.come=[]
 ·rw [hg] at ho;simp [Zdh] at ho
 rw [Zlw hg,List.mem_singleton] at ho
 subst ho
 exact ⟨.inr (.inr (.inl ⟨rfl,hg⟩)),by simp only;omega,h.come,Zp5,Zqi⟩
theorem Z7q {F:List EO} {S:Nat} {n:Int} (hn:1≤n) (hF:∀ o∈F,OQ S o):(∀ o∈Zbh F n,OQ S o)∧Q1 (Zbh F n)=Q1 F+n.toNat:=by
 have hq:OQ S (⟨0,n,[],eS0⟩:EO):=⟨.inl ⟨rfl,hn⟩,Nat.zero_le _,by simp,Zp5,Zqi⟩
 by_cases hk:∃ o,F.getLast? = some o∧o.Kind=0
 ·obtain ⟨o,ho,hk0⟩:=hk
  obtain ⟨o',ho'⟩:=List.getLast?_eq_some_iff.1 ho
  subst ho'
  have hoq:=hF o (by simp)
  obtain ⟨k,N,L,E⟩:=o
  simp only at hk0
  subst hk0
  have hN:1≤N:=by
   rcases hoq.1 with ⟨_,h⟩ | ⟨h,_⟩ | ⟨h,_⟩ | h
   ·exact h
   ·simp at h
   ·simp at h
   simp at h
  rw [Zl5]
  refine ⟨fun x hx => ?_,?_⟩
  ·rcases List.mem_append.1 hx with hx | hx
   ·exact hF x (by simp [hx])
   rw [List.mem_singleton.1 hx]
   exact ⟨.inl ⟨rfl,by simp only;omega⟩,hoq.2⟩
  rw [Zll,Zll]
  simp only [Q1,List.map_cons,List.map_nil,List.sum_cons,List.sum_nil,thN,if_true]
  omega
 rw [Zlb fun o ho h0=>hk ⟨o,ho,h0⟩]
 refine ⟨fun x hx => ?_,?_⟩
 ·rcases List.mem_append.1 hx with hx | hx
  ·exact hF x hx
  rw [List.mem_singleton.1 hx];exact hq
 rw [Zll]
 simp [Q1,thN]
theorem Zjs (out:List EO):(⟨out,[],[]⟩:NW).flush=out:=by unfold NW.flush;simp [Zca,Zdh]
theorem Z6i (g:List Tr):(Zca g).length≤1:=by unfold Zca;split <;> simp
theorem Z6v (g:List Tr):(Zdh g).length≤1:=by unfold Zdh;split <;> simp
theorem OB.step {s:NW} {i S:Nat} (h:OB s i S) {l:Int} {p:EO×Ed} (hp:opk p.1) (hL:∀ t∈p.1.L,Bd t) (hb:BE p.2) (hg:GN p.2):OB (stN l s p) (i+1) (S+thN p.1):=by
 have hfs:=h.sum
 have hfc:=h.cnt
 have hpush:∀ n:Int,1≤n→n.toNat≤thN p.1→OB ⟨Zbh s.flush n,[],[]⟩ (i+1) (S+thN p.1):=fun n hn hnt=>by
  obtain ⟨q1,q2⟩:=Z7q hn h.fl
  have ql:=Ztf s.flush n
  refine ⟨fun o ho=>(q1 o ho).mono (by omega),by simp,by simp,?_,?_⟩
  ·rw [Zjs];omega
  rw [Zjs,q2];omega
 unfold stN
 by_cases k1:p.1.Kind=1
 ·have ht:thN p.1=p.1.L.length:=by unfold thN;rw [if_neg (by omega),if_neg (by omega)]
  rw [if_pos k1,ht]
  refine ⟨fun o ho=>(h.out o ho).mono (by omega),fun t ht => ?_,h.come,?_,?_⟩
  ·rcases List.mem_append.1 ht with ht | ht
   ·exact h.gone t ht
   obtain ⟨x,hx,rfl⟩:=List.mem_map.1 ht
   exact (hL x hx).nrm
  ·unfold NW.flush at hfc ⊢
   have:=Z6i (s.gone++p.1.L.map nrm)
   simp only [List.length_append] at hfc ⊢
   omega
  rw [Zp2] at hfs ⊢
  simp only [List.length_append,List.length_map]
  omega
 rw [if_neg k1]
 by_cases k2:p.1.Kind=2
 ·have ht:thN p.1=p.1.L.length:=by unfold thN;rw [if_neg (by omega),if_neg (by omega)]
  rw [if_pos k2,ht]
  refine ⟨fun o ho=>(h.out o ho).mono (by omega),h.gone,fun t ht => ?_,?_,?_⟩
  ·rcases List.mem_append.1 ht with ht | ht
   ·exact h.come t ht
   obtain ⟨x,hx,rfl⟩:=List.mem_map.1 ht
   exact (hL x hx).nrm
  ·unfold NW.flush at hfc ⊢
   have:=Z6v (s.come++p.1.L.map nrm)
   simp only [List.length_append] at hfc ⊢
   omega
  rw [Zp2] at hfs ⊢
  simp only [List.length_append,List.length_map]
  omega
 rw [if_neg k2]
 by_cases k0:p.1.Kind=0
 ·rw [if_pos k0]
  have hN:1≤p.1.N:=by
   rcases hp with ⟨_,h⟩ | ⟨h,_⟩ | ⟨h,_⟩ | h
   ·exact h
   ·omega
   ·omega
   omega
  exact hpush _ hN (by unfold thN;rw [if_pos k0];exact Nat.le_refl _)
 rw [if_neg k0]
 have k3:p.1.Kind=3:=by
  rcases hp with ⟨h,_⟩ | ⟨h,_⟩ | ⟨h,_⟩ | h
  ·omega
  ·omega
  ·omega
  exact h
 have ht:thN p.1=1:=by unfold thN;rw [if_neg k0,if_pos k3]
 split
 ·exact hpush 1 (by omega) (by omega)
 refine ⟨fun o ho => ?_,by simp,by simp,?_,?_⟩
 ·rcases List.mem_append.1 ho with ho | ho
  ·exact (h.fl o ho).mono (by omega)
  rw [List.mem_singleton.1 ho]
  exact ⟨.inr (.inr (.inr rfl)),Nat.zero_le _,by simp,hb,hg⟩
 ·rw [Zjs,List.length_append];simp;omega
 rw [Zjs,Zll,ht]
 have:Q1 [(⟨3,0,[],p.2⟩:EO)]=1:=by simp [Q1,thN]
 omega
theorem Z34 {l:Int}:∀ (os:List EO) (s:NW) (i S:Nat),OB s i S→(∀ o∈os,opk o∧(∀ t∈o.L,Bd t)∧BE (nE o.E)∧GN (nE o.E))→OB ((Kq os).foldl (stN l) s) (i+os.length) (S+Q1 os)
 | [],s,i,S,h,_=>by simpa [Kq,Q1] using h
 | o::os,s,i,S,h,hq=>by
  obtain ⟨q1,q2,q3,q4⟩:=hq o (by simp)
  have:=Z34 (l:=l) os _ _ _ (h.step (l:=l) (p:=(o,nE o.E)) q1 q2 q3 q4) fun x hx=>hq x (by simp [hx])
  have e1:i+1+os.length=i+(o::os).length:=by simp;omega
  have e2:S+thN o+Q1 os=S+Q1 (o::os):=by unfold Q1;simp;omega
  rw [e1,e2] at this
  exact this
theorem Zt9:∀ (n:Nat) (e:Ed),SizeOf.sizeOf e < n→BE e→GN e→BE (nE e)∧GN (nE e)
 | 0,_,h,_,_=>by omega
 | n+1,e,hn,hb,hg=>by
  have ik:∀ k∈e.Kids,BE (nE k.E)∧GN (nE k.E):=fun k hk=>Zt9 n k.E (by have:=Zbs hk;omega) (hb.ks k hk) (hg.ks k hk)
  have io:∀ o∈e.Ops,BE (nE o.E)∧GN (nE o.E):=fun o ho=>Zt9 n o.E (by have:=Zdx ho;omega) (hb.os o ho) (hg.os o ho)
  have hw:=hg.w
  have hk:=hg.k
  rw [Zm8]
  by_cases h1:e.Kind=1
  ·rw [if_pos h1]
   exact ⟨.mk _ hb.old.nrm hb.new.nrm (by simp) (by simp) (by simp) (by simp) (by simp) (by simp) (by simp),.mk _ (by simp) (by simp) (by simp) (by simp [Q1]) (by simp) (by simp) (by simp)⟩
  rw [if_neg h1]
  by_cases h2:e.Kind=2
  ·rw [if_pos h2]
   refine ⟨.mk _ Ztl Ztl hb.w hb.ws (by simp only [List.length_map];omega) (fun k hk => ?_) (by simp) (by simp) (by simp),.mk _ hg.w (by simp only [List.length_map];omega) (by simp) (by simp [Q1]) (by simp) (fun k hk => ?_) (by simp)⟩
   ·obtain ⟨x,hx,rfl⟩:=List.mem_map.1 hk
    exact (ik x hx).1
   obtain ⟨x,hx,rfl⟩:=List.mem_map.1 hk
   exact (ik x hx).2
  rw [if_neg h2]
  by_cases h3:e.Kind=3
  ·rw [if_pos h3]
   have hob:=Z34 (l:=e.List_) e.Ops s0N 0 0 ⟨by simp [s0N],by simp [s0N],by simp [s0N],Nat.le_refl _,Nat.le_refl _⟩ fun o ho=>⟨hg.p o ho,(hb.l o ho).2,(io o ho).1,(io o ho).2⟩
   have h5:=hob.cnt
   have h6:=hob.sum
   have h7:=hg.o
   have h8:=hg.s
   have hall:=hob.fl
   refine ⟨.mk _ Ztl Ztl (by simp) (by simp) (by simp) (by simp) ?_ (fun o ho => ?_) (fun o ho=>(hall o ho).2.2.2.1),.mk _ (by simp) (by simp) ?_ ?_ (fun o ho=>(hall o ho).1) (by simp) (fun o ho=>(hall o ho).2.2.2.2)⟩
   ·show ((Zf3 e.List_ (Kq e.Ops)).length:Int)≤_
    unfold Zf3
    omega
   ·have:=(hall o ho).2.1
    exact ⟨by omega,(hall o ho).2.2.1⟩
   ·show (Zf3 e.List_ (Kq e.Ops)).length≤_
    unfold Zf3
    omega
   show Q1 (Zf3 e.List_ (Kq e.Ops))≤_
   unfold Zf3
   omega
  rw [if_neg h3]
  exact ⟨Zp5,Zqi⟩
theorem BE.nE {e:Ed} (hb:BE e) (hg:GN e):BE (nE e):=(Zt9 _ e (Nat.lt_succ_self _) hb hg).1
theorem GN.nE {e:Ed} (hb:BE e) (hg:GN e):GN (nE e):=(Zt9 _ e (Nat.lt_succ_self _) hb hg).2
theorem Yaf:∀ (k:Nat),(∀ e:Ed,BE e→GN e→2 * SizeOf.sizeOf e+1 < k→(Qg k).1 e=some (nE e)) ∧
  (∀ (l:Int) (os:List EO),os.length≤1048576→Q1 os≤1073741824→(∀ o∈os,opk o)→(∀ o∈os,∀ t∈o.L,Bd t)→(∀ o∈os,BE o.E∧GN o.E∧2 * SizeOf.sizeOf o.E+2 < k)→0 < k→(Qg k).2 l os=some (Zf3 l (Kq os)))
 | 0=>⟨fun e _ _ h=>by omega,fun l os _ _ _ _ _ h=>by omega⟩
 | k+1=>by
  obtain ⟨i1,i2⟩:=Yaf k
  refine ⟨fun e hb hg hk => ?_,fun l os hlen hsum hok hL hE _ => ?_⟩
  ·show Zek (Qg k).1 (Qg k).2 e=_
   unfold Zek
   rw [Zm8]
   by_cases h1:e.Kind=1
   ·have e1:(e.Kind == 1)=true:=by rw [h1];rfl
    rw [if_pos h1,e1,cond_true,Zub hb.old,Option.bind_some,Zub hb.new];rfl
   have e1:(e.Kind == 1)=false:=by rw [beq_eq_false_iff_ne];exact h1
   rw [if_neg h1,e1,cond_false]
   by_cases h2:e.Kind=2
   ·have e2:(e.Kind == 2)=true:=by rw [h2];rfl
    have hw:=hg.w
    have hkl:=hg.k
    have hloop:Z9 (Zcf (Qg k).1 e) (0,([]:List Zm))=some ([]++e.Kids.map fun x=>(⟨x.At,nE x.E⟩:Zm)) :=
     Zq1 e.Kids (fun x=>(⟨x.At,nE x.E⟩:Zm)) _ [] (by omega) (fun i x out hi hx hm ho=>by
      unfold Zcf
      simp only
      rw [Zeq hi,cond_true,Xd hx,Option.bind_some,i1 x.E (hb.ks x hm) (hg.ks x hm) (by have:=Zbs hm;omega),Option.bind_some]
      simp only [List.length_nil] at ho
      rw [Vh (by simp only [List.length_singleton];omega) (by simp only [List.length_singleton];omega),Option.bind_some]) (fun out=>by
      unfold Zcf
      simp only
      rw [Zez,cond_false])
    unfold Ji
    rw [if_pos h2,e2,cond_true,Vh (by simp only [List.length_nil];omega) (by simp only [List.length_nil];omega),Option.bind_some,hloop,Option.bind_some]
    rfl
   have e2:(e.Kind == 2)=false:=by rw [beq_eq_false_iff_ne];exact h2
   rw [if_neg h2,e2,cond_false]
   by_cases h3:e.Kind=3
   ·have e3:(e.Kind == 3)=true:=by rw [h3];rfl
    rw [if_pos h3,e3,cond_true,i2 e.List_ e.Ops hg.o hg.s hg.p (fun o ho=>(hb.l o ho).2) (fun o ho=>⟨hb.os o ho,hg.os o ho,by have:=Zdx ho;omega⟩) (by omega)]
    rfl
   have e3:(e.Kind == 3)=false:=by rw [beq_eq_false_iff_ne];exact h3
   rw [if_neg h3,e3,cond_false];rfl
  show Zd5 (Qg k).1 (Qg k).2 l os=_
  exact Z9f hlen hsum hok hL fun o ho _=>⟨i1 o.E (hE o ho).1 (hE o ho).2.1 (by have:=(hE o ho).2.2;omega),(hE o ho).1.nE (hE o ho).2.1⟩
theorem Zpc {e:Ed} (hb:BE e) (hg:GN e):Zb8 e=some (nE e):=Zeg (2 * SizeOf.sizeOf e+2) fun k hk=>(Yaf k).1 e hb hg (by omega)
theorem Z7u:∀ (k:Nat),(∀ e:Ed,BE e→GN e→2 * SizeOf.sizeOf e+1 < k→(Xj k).1 e=some (nE e)) ∧
  (∀ (l:Int) (os:List EO),os.length≤1048576→Q1 os≤1073741824→(∀ o∈os,opk o)→(∀ o∈os,o.L.length * 56≤140737488355328∧∀ t∈o.L,Bd t)→(∀ o∈os,BE o.E∧GN o.E∧2 * SizeOf.sizeOf o.E+2 < k)→0 < k→(Xj k).2 l os=some (Zf3 l (Kq os)))
 | 0=>⟨fun e _ _ h=>by omega,fun l os _ _ _ _ _ h=>by omega⟩
 | k+1=>by
  obtain ⟨i1,i2⟩:=Z7u k
  refine ⟨fun e hb hg hk => ?_,fun l os hlen hsum hok hL hE _ => ?_⟩
  ·show Zbo (Xj k).1 (Xj k).2 e=_
   unfold Zbo
   rw [Zm8]
   by_cases h1:e.Kind=1
   ·have e1:(e.Kind == 1)=true:=by rw [h1];rfl
    rw [if_pos h1,e1,cond_true,Zv2 hb.old,Option.bind_some,Zv2 hb.new];rfl
   have e1:(e.Kind == 1)=false:=by rw [beq_eq_false_iff_ne];exact h1
   rw [if_neg h1,e1,cond_false]
   by_cases h2:e.Kind=2
   ·have e2:(e.Kind == 2)=true:=by rw [h2];rfl
    have hw:=hg.w
    have hkl:=hg.k
    have hloop:Z9 (Ui (Xj k).1 e) (0,([]:List Zm))=some ([]++e.Kids.map fun x=>(⟨x.At,nE x.E⟩:Zm)) :=
     Zq1 e.Kids (fun x=>(⟨x.At,nE x.E⟩:Zm)) _ [] (by omega) (fun i x out hi hx hm ho=>by
      unfold Ui
      simp only
      rw [Zeq hi,cond_true,Xd hx,Option.bind_some,i1 x.E (hb.ks x hm) (hg.ks x hm) (by have:=Zbs hm;omega),Option.bind_some]
      simp only [List.length_nil] at ho
      rw [Vh (by simp only [List.length_singleton];omega) (by simp only [List.length_singleton];omega),Option.bind_some]) (fun out=>by
      unfold Ui
      simp only
      rw [Zez,cond_false])
    rw [if_pos h2,e2,cond_true,Vh (by simp only [List.length_nil];omega) (by simp only [List.length_nil];omega),Option.bind_some,hloop,Option.bind_some]
    rfl
   have e2:(e.Kind == 2)=false:=by rw [beq_eq_false_iff_ne];exact h2
   rw [if_neg h2,e2,cond_false]
   by_cases h3:e.Kind=3
   ·have e3:(e.Kind == 3)=true:=by rw [h3];rfl
    rw [if_pos h3,e3,cond_true,i2 e.List_ e.Ops hg.o hg.s hg.p hb.l (fun o ho=>⟨hb.os o ho,hg.os o ho,by have:=Zdx ho;omega⟩) (by omega)]
    rfl
   have e3:(e.Kind == 3)=false:=by rw [beq_eq_false_iff_ne];exact h3
   rw [if_neg h3,e3,cond_false];rfl
  show Gy (Xj k).1 (Xj k).2 l os=_
  exact Z7v hlen hsum hok (fun o ho=>(hL o ho).2) (fun o ho=>(hL o ho).1) fun o ho _=>i1 o.E (hE o ho).1 (hE o ho).2.1 (by have:=(hE o ho).2.2;omega)
theorem Ybg {e:Ed} (hb:BE e) (hg:GN e):Zfv e=some (nE e):=Zeg (2 * SizeOf.sizeOf e+2) fun k hk=>(Z7u k).1 e hb hg (by omega)
theorem Zv5 {L:List Tr} (hl:(L.length:Int)≤140737488355328) (hL:∀ t∈L,Bd t):Vk L L=some true:=by
 unfold Vk
 have e:((L.length:Int) != (L.length:Int))=false:=by simp
 rw [e,cond_false,Zfr L _ (fun _=>true) (Sum.inl ():Unit ⊕ Unit) (Sum.inr ()) hl (fun i x hi hx hm=>by
  unfold Vw
  rw [Zeq hi,cond_true,Xd hx,Option.bind_some,Option.bind_some,Zzh (hL x hm) (hL x hm),Zuo]
  rfl) (by unfold Vw;rw [Zez];rfl)]
 simp
theorem Zuq:∀ (k:Nat) (e:Ed),BE e→SizeOf.sizeOf e < k→K3 k e e=some true
 | 0,_,_,h=>by omega
 | k+1,e,hb,hk=>by
  show Zbp (K3 k) e e=_
  unfold Zbp
  have ne:∀ x:Int,(x != x)=false:=fun x=>by simp
  have l0:Z9 (Uj e e) 0=some (if (e.Words.all fun _=>true)=true then Sum.inr () else Sum.inl ()) :=
   Zfr e.Words _ (fun _=>true) (Sum.inl ():Unit ⊕ Unit) (Sum.inr ()) hb.w (fun i x hi hx hm=>by
    unfold Uj
    rw [Zeq hi,cond_true,Xd hx,Option.bind_some,Option.bind_some]
    simp) (by unfold Uj;rw [Zez];rfl)
  have l1:Z9 (Uk (K3 k) e e) 0=some (if (e.Kids.all fun _=>true)=true then Sum.inr () else Sum.inl ()) :=
   Zfr e.Kids _ (fun _=>true) (Sum.inl ():Unit ⊕ Unit) (Sum.inr ()) hb.k (fun i x hi hx hm=>by
    unfold Uk
    rw [Zeq hi,cond_true,Xd hx,Option.bind_some,Option.bind_some,ne,cond_false,Zuq k x.E (hb.ks x hm) (by have:=Zbs hm;omega)]
    simp) (by unfold Uk;rw [Zez];rfl)
  have l2:Z9 (Ul (K3 k) e e) 0=some (if (e.Ops.all fun _=>true)=true then Sum.inr () else Sum.inl ()) :=
   Zfr e.Ops _ (fun _=>true) (Sum.inl ():Unit ⊕ Unit) (Sum.inr ()) hb.o (fun i x hi hx hm=>by
    have hL:=hb.l x hm
    unfold Ul
    rw [Zeq hi,cond_true,Xd hx,Option.bind_some,Option.bind_some,ne,ne,cond_false,cond_false,Zv5 (by omega) hL.2,Option.bind_some,cond_true,Zuq k x.E (hb.os x hm) (by have:=Zdx hm;omega)]
    simp) (by unfold Ul;rw [Zez];rfl)
  rw [ne,ne,Zzh hb.old hb.old,Zzh hb.new hb.new,Zuo,Zuo,l0,l1,l2]
  simp
theorem Z6j {e:Ed} (hb:BE e):Zfw e e=some true:=Zeg (SizeOf.sizeOf e+1) fun k hk=>Zuq k e hb (by omega)
def lgt (e:Ed):Bool:=(!(decide (2000 < (e.Ops.foldl stR (0,0)).1) || decide (2000 < (e.Ops.foldl stR (0,0)).2))) && ((e.Kids.attach.map fun k=>lgt k.1.E).all id && (e.Ops.attach.map fun o=>lgt o.1.E).all id)
termination_by SizeOf.sizeOf e
decreasing_by
 ·exact Zbs k.2
 exact Zdx o.2
theorem Ya7 (e:Ed):lgt e=((!(decide (2000 < (e.Ops.foldl stR (0,0)).1) || decide (2000 < (e.Ops.foldl stR (0,0)).2))) && ((e.Kids.all fun k=>lgt k.E) && (e.Ops.all fun o=>lgt o.E))):=by
 have h1:(e.Kids.attach.map fun k=>lgt k.1.E)=e.Kids.map fun k=>lgt k.E:=List.attach_map_val (f:=fun k:Zm=>lgt k.E)
 have h2:(e.Ops.attach.map fun o=>lgt o.1.E)=e.Ops.map fun o=>lgt o.E:=List.attach_map_val (f:=fun o:EO=>lgt o.E)
 rw [lgt,h1,h2,List.all_map,List.all_map]
 rfl
theorem Zu7:∀ (k:Nat) (e:Ed),BE e→SizeOf.sizeOf e < k→J7 k e=some (lgt e)
 | 0,_,_,h=>by omega
 | k+1,e,hb,hk=>by
  show G5 (J7 k) e=_
  unfold G5
  have l0:Z9 (Vz (J7 k) e) 0=some (if (e.Kids.all fun x=>lgt x.E)=true then Sum.inr () else Sum.inl ()) :=
   Zfr e.Kids _ (fun x=>lgt x.E) (Sum.inl ():Unit ⊕ Unit) (Sum.inr ()) hb.k (fun i x hi hx hm=>by
    unfold Vz
    rw [Zeq hi,cond_true,Xd hx,Option.bind_some,Zu7 k x.E (hb.ks x hm) (by have:=Zbs hm;omega),Option.bind_some]
    cases lgt x.E <;> rfl) (by unfold Vz;rw [Zez];rfl)
  have l1:Z9 (V0 (J7 k) e) 0=some (if (e.Ops.all fun x=>lgt x.E)=true then Sum.inr () else Sum.inl ()) :=
   Zfr e.Ops _ (fun x=>lgt x.E) (Sum.inl ():Unit ⊕ Unit) (Sum.inr ()) hb.o (fun i x hi hx hm=>by
    unfold V0
    rw [Zeq hi,cond_true,Xd hx,Option.bind_some,Zu7 k x.E (hb.os x hm) (by have:=Zdx hm;omega),Option.bind_some]
    cases lgt x.E <;> rfl) (by unfold V0;rw [Zez];rfl)
  rw [Ya7,Z3z hb,Option.bind_some,l0,l1]
  generalize decide (2000 < (e.Ops.foldl stR (0,0)).1)=q1
  generalize decide (2000 < (e.Ops.foldl stR (0,0)).2)=q2
  generalize (e.Kids.all fun x=>lgt x.E)=q3
  generalize (e.Ops.all fun x=>lgt x.E)=q4
  cases q1 <;> cases q2 <;> cases q3 <;> cases q4 <;> rfl
theorem Z61 {e:Ed} (hb:BE e):Ze1 e=some (lgt e):=Zeg (SizeOf.sizeOf e+1) fun k hk=>Zu7 k e hb (by omega)
theorem Ya3 {e:Ed} (hb:BE e):∃ b,Zby e=some b∧(b=true→rE e 64=true∧ce e≤3000):=by
 obtain ⟨b,h1,h2⟩:=Ybv hb
 have h3:=Z82 hb (d:=64) (by decide)
 rw [show ((64:Nat):Int)=64 from rfl] at h3
 unfold Zby
 rw [h1,Option.bind_some,h3,Z61 hb]
 refine ⟨b && (rE e 64 && lgt e),?_,fun h => ?_⟩
 ·cases b <;> cases rE e 64 <;> cases lgt e <;> rfl
 simp only [Bool.and_eq_true] at h
 exact ⟨h.2.1,h2 h.1⟩
theorem Z7e (a:Nat) (h:a < 256):(BitVec.ofInt (IntKind.bits .u8) (a:Int)).toNat=a:=by
 show (BitVec.ofInt 8 (a:Int)).toNat=a
 rw [BitVec.ofInt_natCast,BitVec.toNat_ofNat]
 exact Nat.mod_eq_of_lt h
theorem Yby {a b:Nat} (ha:a < 256) (hb:b < 256):Zcl .u8 (a:Int) (b:Int)=((a &&& b:Nat):Int):=by
 unfold Zcl
 rw [BitVec.toNat_and,Z7e a ha,Z7e b hb]
def Rise {α:Type} (pl:α→Int) (l:List α):Prop:=l.Pairwise (fun a b=>pl a < pl b)∧∀ x∈l,0≤pl x
theorem Rise.tail {α:Type} {pl:α→Int} {x:α} {l:List α} (h:Rise pl (x::l)):Rise pl l:=⟨(List.pairwise_cons.1 h.1).2,fun y hy=>h.2 y (.tail _ hy)⟩
theorem Z2o {α:Type} (x:α) (l:List α):Xg (x::l) 0=some x:=rfl
def SD (k l:Int) (ops:List EO) (c:List Tr):Zi:=⟨none,⟨k,n0T,n0T,[],[],l,ops⟩,c⟩
def M0:Zh:=⟨false,false⟩
theorem Zos (e:Ed):Gh e=some (SD e.Kind e.List_ [] []):=rfl
theorem Z44 {m:Int} (h:0≤m∧m < 256):IntKind.u8.wrap (Zcl .u8 m m)=m:=by
 obtain ⟨a,rfl⟩:∃ a:Nat,m=(a:Int):=⟨m.toNat,by omega⟩
 rw [Yby (by omega) (by omega),Nat.and_self]
 exact u8n a (by omega)
theorem Z47 (m:Int):IntKind.u8.wrap (Zpb .u8 m m)=0:=by
 unfold Zpb
 rw [BitVec.and_not_self]
 rfl
theorem Zw9 (a:Int):Zmg .u64 a a=0:=by
 unfold Zmg
 rw [BitVec.xor_self]
 rfl
theorem Z2a (y:Int):Zcl .u64 0 y=0:=by
 unfold Zcl
 rw [show BitVec.ofInt IntKind.u64.bits 0=0#_ from rfl,BitVec.zero_and]
 rfl
theorem Z5y:∃ z,Zb0 0=some z:=⟨_,Z4i 0 (by decide)⟩
theorem Z9l (s:Zi) {w:Zp} (hm:0≤w.Mask∧w.Mask < 256):∃ a b,Za9 s w w M0=some (⟨w.At,0,a,b⟩,s,M0):=by
 obtain ⟨y,hy⟩:∃ y,Zb0 w.Mask=some y:=by
  obtain ⟨a,ha⟩:∃ a:Nat,w.Mask=(a:Int):=⟨w.Mask.toNat,by omega⟩
  exact ⟨_,by rw [ha];exact Z4i a (by omega)⟩
 obtain ⟨z,hz⟩:=Z5y
 unfold Za9
 rw [Z44 hm,Z47,hy,Option.bind_some,hz,Option.bind_some,Option.bind_some,Zw9,Zw9,show IntKind.u64.wrap 0=0 from rfl,Z2a]
 exact ⟨_,_,rfl⟩
theorem Z8o {x:Zp} {ys:List Zp} (hl:ys.length≤1048576) {others:List Zp} (h:others=x::ys∨∃ z,others=z::x::ys∧z.At < x.At):Z9 (Q5 x) others=some (x::ys):=by
 have e0:Q5 x (x::ys)=some (.inr (x::ys)):=by
  unfold Q5
  rw [decide_eq_true (by simp only [List.length_cons];omega),cond_true,Z2o,Option.bind_some,cond_true,decide_eq_false (by omega),Option.bind_some,cond_false]
 rcases h with rfl | ⟨z,rfl,hz⟩
 ·exact Y0 e0
 have e1:Q5 x (z::x::ys)=some (.inl (x::ys)):=by
  unfold Q5
  rw [decide_eq_true (by simp only [List.length_cons];omega),cond_true,Z2o,Option.bind_some,cond_true,decide_eq_true hz,Option.bind_some,cond_true,Zot (by omega) (by simp;omega) (by simp)]
  simp
 rw [Yu e1]
 exact Y0 e0
theorem Zw8 {W:List Zp} (hl:W.length≤1048576) (hm:∀ w∈W,0≤w.Mask∧w.Mask < 256) (k l:Int) (ops:List EO) (c:List Tr):∀ (ys:List Zp) (i:Nat) (p:Int) (others:List Zp),i≤W.length→W.drop i=ys→(others=ys∨∃ z,others=z::ys∧z.At=p)→chk (·.At) okW p ys=true →
  Z9 (Q4 W) (others,(i:Int),SD k l ops c,false,false)=some ([],[],ops,c,SD k l ops c,false,false)
 | [],i,p,others,hi,hd,_,_=>by
  have:W.length≤i:=List.drop_eq_nil_iff.1 hd
  refine Y0 ?_
  unfold Q4
  simp only
  rw [decide_eq_false (by omega),cond_false]
  rfl
 | x::ys,i,p,others,hi,hd,ho,hc=>by
  have hlt:i < W.length:=by
   rcases Nat.lt_or_ge i W.length with h | h
   ·exact h
   rw [List.drop_eq_nil_of_le h] at hd;cases hd
  have hx:W[i]? = some x:=by
   have:=congrArg (fun l=>l[0]?) hd
   simp only [List.getElem?_drop,Nat.add_zero,List.getElem?_cons_zero] at this
   exact this
  have hmem:x∈W:=List.mem_of_getElem? hx
  have hys:ys.length≤1048576:=by
   have:=congrArg List.length hd
   simp only [List.length_drop,List.length_cons] at this
   omega
  rw [chk,Bool.and_eq_true] at hc
  have hat:p < x.At:=by
   have:=hc.1
   unfold okW at this
   simp only [Bool.not_eq_true',Bool.or_eq_false_iff,decide_eq_false_iff_not] at this
   omega
  have h1:=Z8o (x:=x) (ys:=ys) hys (others:=others) (by
   rcases ho with h | ⟨z,h,hz⟩
   ·exact .inl h
   exact .inr ⟨z,h,by omega⟩)
  obtain ⟨a,b,hr⟩:=Z9l (SD k l ops c) (hm x hmem)
  have hs:Q4 W (others,(i:Int),SD k l ops c,false,false)=some (.inl (x::ys,((i+1:Nat):Int),SD k l ops c,false,false)):=by
   unfold Q4
   simp only
   rw [decide_eq_true (by omega),cond_true,Xd hx,Option.bind_some,h1,Option.bind_some,decide_eq_true (by simp only [List.length_cons];omega),cond_true,Z2o,Option.bind_some,cond_true,beq_self_eq_true,Option.bind_some,cond_true,Option.bind_some,show (⟨false,false⟩:Zh)=M0 from rfl,hr,Option.bind_some]
   simp only
   rw [Option.bind_some]
   simp only
   rw [show ((0:Int) != 0)=false from rfl,cond_false,Option.bind_some,G0 (by omega) (by omega)]
   rfl
  rw [Yu hs]
  exact Zw8 hl hm k l ops c ys (i+1) x.At (x::ys) (by omega) (by rw [← List.drop_drop,hd];rfl) (.inr ⟨x,rfl,rfl⟩) hc.2
theorem Z8p {W:List Zp} (hl:W.length≤1048576) (hm:∀ w∈W,0≤w.Mask∧w.Mask < 256) (hc:chk (·.At) okW (-1) W=true) (k l:Int) (ops:List EO) (c:List Tr):Vo (SD k l ops c) W W M0=some (SD k l ops c,M0):=by
 unfold Vo
 rw [show Z9 (Q4 W) (W,0,SD k l ops c,M0.apart,M0.clash)=_ from Zw8 hl hm k l ops c W 0 (-1) W (Nat.zero_le _) rfl (.inl rfl) hc,Option.bind_some]
 rfl
theorem Zyi {k l:Int} {ops:List EO} (hl:ops.length≤100000000) (h:∀ o∈ops,o.Kind=0) (c:List Tr):Ql (SD k l ops c) M0=some (eS0,SD k l ops c,M0):=by
 have key:∀ (ys:List EO) (i:Nat),ops.drop i=ys→i≤ops.length→Z9 (Y4 ops) (i:Int)=some (.inr ()):=fun ys=>by
  induction ys with
  | nil =>
   intro i hd _
   have:ops.length≤i:=List.drop_eq_nil_iff.1 hd
   refine Y0 ?_
   unfold Y4
   rw [decide_eq_false (by omega),cond_false]
  | cons x ys ih =>
   intro i hd hi
   have hx:ops[i]? = some x:=by
    have:=congrArg (fun l=>l[0]?) hd
    simp only [List.getElem?_drop,Nat.add_zero,List.getElem?_cons_zero] at this
    exact this
   have hlt:i < ops.length:=(List.getElem?_eq_some_iff.1 hx).1
   have hk:=h x (List.mem_of_getElem? hx)
   have hs:Y4 ops (i:Int)=some (.inl ((i+1:Nat):Int)):=by
    unfold Y4
    rw [decide_eq_true (by omega),cond_true,Xd hx,Option.bind_some]
    unfold Zbz
    rw [hk,Option.bind_some,show ((0:Int) != 0)=false from rfl,cond_false,G0 (by omega) (by omega)]
    rfl
   rw [Yu hs]
   exact ih (i+1) (by rw [← List.drop_drop,hd];rfl) (by omega)
 unfold Ql
 have e1:Yj ops=some false:=by
  unfold Yj Xl
  rw [show Z9 (Y4 ops) 0=_ from key ops 0 rfl (Nat.zero_le _),Option.bind_some,Option.bind_some]
  rfl
 rw [show (SD k l ops c).left.Words=[] from rfl,show (SD k l ops c).left.Kids=[] from rfl,show (SD k l ops c).left.Ops=ops from rfl,e1]
 rfl
theorem Zzz {l:List Tr} (hl:∀ x∈l,Bd x) (hn:(l.length:Int)≤140737488355328):Yk l l=some true:=by
 have eqs:∀ a:List Tr,eqL a a=true:=fun a=>by
  induction a with
  | nil=>simp [eqL]
  | cons x a ih=>rw [Zun,ih,eqT_iff.2 rfl];rfl
 have:Yk l l=some (eqL (l.map nrm) (l.map nrm)) :=
  Zeg (2 * SizeOf.sizeOf l+3) fun k hk=>(Zup k).2 l l (fun x hx=>⟨hl x hx,by have:=List.sizeOf_lt_of_mem hx;omega⟩) hl hn (by omega)
 rw [this,eqs]
section
variable {k l:Int} {ops:List EO} {c:List Tr}
theorem Ybe (hl:ops.length≤100000000) (o:EO):U7 (SD k l ops c) o M0=some (SD k l (ops++[o]) c,M0):=by
 unfold U7
 rw [show (SD k l ops c).left.Ops=ops from rfl,Vh (by simp only [List.length_singleton];omega) (by simp only [List.length_singleton];omega),Option.bind_some,Zgb,Option.bind_some]
 rfl
theorem Yaj (hl:ops.length≤100000000) (o:EO):V8 (SD k l ops c) o M0=some (SD k l (ops++[o]) c,M0):=by
 unfold V8
 rw [show (SD k l ops c).left.Ops=ops from rfl,Vh (by simp only [List.length_singleton];omega) (by simp only [List.length_singleton];omega),Option.bind_some,Zgb,Option.bind_some]
 rfl
theorem Z3o (hl:ops.length≤100000000) {e:Ed} (he:e.Kind=0):Ku (SD k l ops c) e M0=some (SD k l (ops++[⟨0,1,[],eS0⟩]) c,M0):=by
 unfold Ku
 rw [he,show ((0:Int) == 0)=true from rfl,cond_true]
 have:=Yaj (k:=k) (l:=l) (c:=c) hl ⟨0,1,[],eS0⟩
 unfold eS0 at this
 rw [this]
 rfl
def kpC (c:List Tr):List EO:=if c=[] then [] else [⟨0,(c.length:Int),[],eS0⟩]
theorem Z3x (c:List Tr):(kpC c).length≤1:=by unfold kpC;split <;> simp
theorem Z0d (c:List Tr):∀ o∈kpC c,o.Kind=0:=fun o ho=>by
 unfold kpC at ho
 split at ho
 ·cases ho
 rw [List.mem_singleton.1 ho]
theorem Z4c (hl:ops.length≤100000000):U5 (SD k l ops c) c M0=some (SD k l (ops++kpC c) c,M0):=by
 unfold U5 kpC
 by_cases h:c=[]
 ·subst h
  rw [if_pos rfl,List.append_nil]
  rfl
 have hp:0 < c.length:=List.length_pos_iff.2 h
 have:=Ybe (k:=k) (l:=l) (c:=c) hl ⟨0,(c.length:Int),[],eS0⟩
 unfold eS0 at this
 rw [if_neg h,decide_eq_true (by omega),cond_true,this]
 rfl
theorem Zz5 {k' l':Int} {ops':List EO} (h1:ops.length≤100000000) (h2:ops'.length≤100000000) (hc:∀ t∈c,Bd t) (hn:c.length≤4000000000):V7 (SD k l ops c) (SD k' l' ops' c) M0=some (SD k l (ops++kpC c) [],SD k' l' (ops'++kpC c) [],M0):=by
 have z:(cond (decide (0 < (c.length:Int))) (cond (decide (0 < (c.length:Int))) ((Yk c c).bind fun y5=>some (cond (cond (decide (0 < (c.length:Int))) (decide (0 < (c.length:Int))) false) (!y5) false)) (some false)) (some false))=some false:=by
  rw [Zzz hc (by omega),Option.bind_some]
  cases decide (0 < (c.length:Int)) <;> rfl
 unfold V7
 rw [show (SD k l ops c).come=c from rfl,show (SD k' l' ops' c).come=c from rfl,z,Option.bind_some,cond_false,Option.bind_some]
 have g1:=Z4c (k:=k) (l:=l) (ops:=ops) (c:=c) h1
 have g2:=Z4c (k:=k') (l:=l') (ops:=ops') (c:=c) h2
 rw [show (⟨M0.apart,M0.clash⟩:Zh)=M0 from rfl]
 refine (congrArg (fun z=>Option.bind z _) g1).trans ?_
 rw [Option.bind_some]
 refine (congrArg (fun z=>Option.bind z _) g2).trans ?_
 rfl
end
def stO (o:EO):List EO:=if o.Kind=0 then [o] else if o.Kind=3 then [⟨0,1,[],eS0⟩] else []
theorem Z4d {k l:Int} {ops:List EO} {c:List Tr} (hl:ops.length≤100000000) {o:EO} (ho:o.Kind=0∨o.Kind=1) (hL:∀ t∈o.L,Bd t) (hn:(o.L.length:Int)≤140737488355328):V9 (SD k l ops c) o o M0=some (SD k l (ops++stO o) c,M0):=by
 unfold V9 stO
 rcases ho with h | h
 ·rw [h,show ((0:Int) == 0)=true from rfl,cond_true,if_pos rfl,Yaj hl]
  rfl
 rw [h,show ((1:Int) == 0)=false from rfl,show ((1:Int) == 1)=true from rfl,show ((1:Int) == 3)=false from rfl,if_neg (by decide),if_neg (by decide),List.append_nil,Zzz hL hn]
 rfl
def pcs:List EO→List EO→List Yt
 | [],[]=>[]
 | [],i::ins=>⟨2,⟨0,0,[],eS0⟩,i⟩::pcs [] ins
 | o::xs,ins=>if o.Kind=2 then ⟨1,o,⟨0,0,[],eS0⟩⟩::pcs xs (ins++[o]) else match ins with
  | []=>⟨0,o,o⟩::pcs xs []
  | i::ins=>⟨2,⟨0,0,[],eS0⟩,i⟩::pcs (o::xs) ins
termination_by xs ins=>2 * xs.length+ins.length
decreasing_by all_goals simp only [List.length_cons,List.length_append,List.length_nil];omega
theorem Zy9 {o:EO} (h:o.Kind=2) (xs ins:List EO):pcs (o::xs) ins=⟨1,o,⟨0,0,[],eS0⟩⟩::pcs xs (ins++[o]):=by
 rw [pcs.eq_def]
 simp only
 rw [if_pos h]
theorem Zvs {o:EO} (h:¬ o.Kind=2) (xs:List EO):pcs (o::xs) []=⟨0,o,o⟩::pcs xs []:=by
 rw [pcs.eq_def]
 simp only
 rw [if_neg h]
theorem Zvt {o:EO} (h:¬ o.Kind=2) (xs:List EO) (i:EO) (ins:List EO):pcs (o::xs) (i::ins)=⟨2,⟨0,0,[],eS0⟩,i⟩::pcs (o::xs) ins:=by
 rw [pcs.eq_def]
 simp only
 rw [if_neg h]
theorem Zvu (i:EO) (ins:List EO):pcs [] (i::ins)=⟨2,⟨0,0,[],eS0⟩,i⟩::pcs [] ins:=by
 rw [pcs.eq_def]
theorem Zza:pcs [] []=[]:=by rw [pcs.eq_def]
def OKo (o:EO):Prop:=opk o∧thN o≤1073741824
theorem OKo.pos {o:EO} (h:OKo o):1≤thN o:=by
 unfold thN
 rcases h.1 with ⟨a,b⟩ | ⟨a,b⟩ | ⟨a,b⟩ | a
 ·rw [if_pos a];omega
 ·rw [if_neg (by omega),if_neg (by omega)];exact List.length_pos_iff.2 b
 ·rw [if_neg (by omega),if_neg (by omega)];exact List.length_pos_iff.2 b
 rw [if_neg (by omega),if_pos a];exact Nat.le_refl _
theorem OKo.kd {o:EO} (h:OKo o):o.Kind=0∨o.Kind=1∨o.Kind=2∨o.Kind=3:=by
 rcases h.1 with ⟨a,b⟩ | ⟨a,b⟩ | ⟨a,b⟩ | a
 ·exact .inl a
 ·exact .inr (.inl a)
 ·exact .inr (.inr (.inl a))
 exact .inr (.inr (.inr a))
theorem Z6x {o:EO} (h:OKo o):Zfs o=some (thN o:Int):=by
 unfold Zfs thN
 rcases h.1 with ⟨a,b⟩ | ⟨a,b⟩ | ⟨a,b⟩ | a <;> rw [a]
 ·rw [show ((0:Int) == 0)=true from rfl,cond_true,if_pos rfl]
  exact congrArg some (by omega)
 ·rfl
 ·rfl
 rfl
theorem Z6u {a b:Int} (h:¬ a=b):(a == b)=false:=beq_eq_false_iff_ne.2 h
def nxA (R:List EO):Int×Int×X2:=match R with
 | []=>(0,0,⟨[],0⟩)
 | o::_=>(o.Kind,(thN o:Int),⟨R,0⟩)
def nxL (R:List EO):(Int×Int×List EO×Int) ⊕ (List EO×Int):=match R with
 | [] => .inr ([],0)
 | o::_ => .inl (o.Kind,(thN o:Int),R,0)
theorem Z0k (R:List EO):(nxA R).2.2=⟨R,0⟩:=by cases R <;> rfl
def Cur (xs:List EO) (g:Int) (R:List EO):Prop:=(xs=R∧g=0)∨∃ o,OKo o∧xs=o::R∧g=(thN o:Int)
theorem Z68 {xs R:List EO} {g:Int} (h:Cur xs g R) (hR:∀ o∈R,OKo o) (hl:xs.length≤1048577):Jd ⟨xs,g⟩=some (nxA R):=by
 have fin:∀ R:List EO,(∀ o∈R,OKo o)→Z9 Qh (R,0)=some (nxL R):=fun R hR=>by
  cases R with
  | nil=>exact Y0 rfl
  | cons o R =>
   have ho:=hR o (.head _)
   have hp:=ho.pos
   have hb:=ho.2
   refine Y0 ?_
   unfold Qh
   simp only
   rw [decide_eq_true (by simp only [List.length_cons];omega),cond_true,Z2o,Option.bind_some,Z6x ho,Option.bind_some,G0 (by omega) (by omega),decide_eq_true (by omega),cond_true,Int.sub_zero]
   rfl
 have tot:Z9 Qh (xs,g)=some (nxL R):=by
  rcases h with ⟨rfl,rfl⟩ | ⟨o,ho,rfl,rfl⟩
  ·exact fin _ hR
  have hs:Qh (o::R,(thN o:Int))=some (.inl (R,0)):=by
   unfold Qh
   simp only
   rw [decide_eq_true (by simp only [List.length_cons];omega),cond_true,Z2o,Option.bind_some,Z6x ho,Option.bind_some,Int.sub_self,show IntKind.i64.wrap 0=0 from rfl,decide_eq_false (by omega),cond_false,Zot (by omega) (by simp only [List.length_cons];omega) (by simp only [List.length_cons];omega)]
   simp
  rw [Yu hs]
  exact fin R hR
 unfold Jd
 simp only
 rw [tot,Option.bind_some]
 cases R <;> rfl
theorem Z3c {o:EO} {R:List EO} (h:OKo o):Je ⟨o::R,0⟩ (thN o:Int)=some (o,⟨o::R,(thN o:Int)⟩):=by
 have hb:=h.2
 unfold Je
 simp only
 rw [Z2o,Option.bind_some,Int.zero_add,G0 (by omega) (by omega)]
 rcases h.1 with ⟨a,b⟩ | ⟨a,b⟩ | ⟨a,b⟩ | a
 ·have e:(thN o:Int)=o.N:=by unfold thN;rw [if_pos a];omega
  rw [a,show ((0:Int) == 0)=true from rfl,cond_true,Option.bind_some,e]
  obtain ⟨x,y,z,w⟩:=o
  simp only at a
  subst a
  rfl
 ·have e:thN o=o.L.length:=by unfold thN;rw [if_neg (by omega),if_neg (by omega)]
  rw [a,show ((1:Int) == 0)=false from rfl,cond_false,show ((1:Int) == 1)=true from rfl,cond_true,Option.bind_some,cond_true,e,Zot (Int.le_refl _) (by omega) (by omega),Option.bind_some,Option.bind_some]
  obtain ⟨x,y,z,w⟩:=o
  simp only at a
  subst a
  simp
 ·have e:thN o=o.L.length:=by unfold thN;rw [if_neg (by omega),if_neg (by omega)]
  rw [a,show ((2:Int) == 0)=false from rfl,cond_false,show ((2:Int) == 1)=false from rfl,cond_false,show ((2:Int) == 2)=true from rfl,Option.bind_some,cond_true,e,Zot (Int.le_refl _) (by omega) (by omega),Option.bind_some,Option.bind_some]
  obtain ⟨x,y,z,w⟩:=o
  simp only at a
  subst a
  simp
 rw [a,show ((3:Int) == 0)=false from rfl,cond_false,show ((3:Int) == 1)=false from rfl,cond_false,show ((3:Int) == 2)=false from rfl,Option.bind_some,cond_false,Option.bind_some]
 obtain ⟨x,y,z,w⟩:=o
 simp only at a
 subst a
 rfl
theorem Cur.len {xs R:List EO} {g:Int} (h:Cur xs g R):xs.length≤R.length+1:=by
 rcases h with ⟨rfl,_⟩ | ⟨o,_,rfl,_⟩
 ·omega
 exact Nat.le_refl _
theorem Znh:∀ (m:Nat) (P ins xs ys:List EO) (g h:Int) (out:List Yt),2 * P.length+ins.length < m→Cur xs g P→Cur ys h (ins++P)→(∀ o∈P,OKo o)→(∀ o∈ins,OKo o∧o.Kind=2)→ins.length+P.length≤1048576→out.length+(2 * P.length+ins.length)≤10000000 →
  Z9 (Xq 2 2) (xs,g,ys,h,out)=some (out++pcs P ins,true)
 | 0,_,_,_,_,_,_,_,hm,_,_,_,_,_,_=>by omega
 | m+1,P,ins,xs,ys,g,h,out,hm,hp,hq,oP,oI,hl,ho=>by
  have lp:=hp.len
  have lq:=hq.len
  rw [List.length_append] at lq
  have hIP:∀ o∈ins++P,OKo o:=fun o ho=>by
   rcases List.mem_append.1 ho with q | q
   ·exact (oI o q).1
   exact oP o q
  have np:=Z68 hp oP (by omega)
  have nq:=Z68 hq hIP (by omega)
  have app:∀ x:Yt,out.length+1≤10000000→Zbf 488 out [x]=some (out++[x]):=fun x hx=>Vh (by simp only [List.length_singleton];omega) (by simp only [List.length_singleton];omega)
  have second:∀ (i:EO) (ins':List EO),ins=i::ins'→(∀ o P',P=o::P'→o.Kind≠2)→Xq 2 2 (xs,g,ys,h,out)=some (.inl (P,0,ins++P,(thN i:Int),out++[⟨2,⟨0,0,[],eS0⟩,i⟩])):=fun i ins' hi hk=>by
   subst hi
   have hi2:=oI i (.head _)
   have hpi:=hi2.1.pos
   have e1:cond (decide (0 < (nxA P).2.1)) ((nxA P).1 == 2) false=false:=by
    cases P with
    | nil=>rfl
    | cons o P' =>
     show cond (decide (0 < (thN o:Int))) (o.Kind == 2) false=false
     rw [Z6u (hk o P' rfl)]
     cases decide (0 < (thN o:Int)) <;> rfl
   unfold Xq
   simp only
   rw [np,Option.bind_some,nq,Option.bind_some,e1,cond_false,Z0k,Z0k,show (nxA (i::ins'++P)).2.1=(thN i:Int) from rfl,show (nxA (i::ins'++P)).1=i.Kind from rfl,decide_eq_true (show (0:Int) < (thN i:Int) by omega),cond_true,hi2.2,show ((2:Int) == 2)=true from rfl,cond_true,List.cons_append,Z3c hi2.1,Option.bind_some]
   have:=app ⟨2,⟨0,0,[],eS0⟩,i⟩ (by simp only [List.length_cons] at ho;omega)
   unfold eS0 at this ⊢
   rw [this]
   rfl
  cases P with
  | nil =>
   cases ins with
   | nil =>
    refine (Y0 (r:=(out,true)) ?_).trans (by rw [Zza,List.append_nil])
    unfold Xq
    simp only
    rw [np,Option.bind_some,nq,Option.bind_some]
    rfl
   | cons i ins' =>
    rw [Yu (second i ins' rfl (fun o P' h=>by cases h)),Zvu]
    rw [Znh m [] ins' [] ((i::ins')++[]) 0 (thN i:Int) _ (by simp only [List.length_cons,List.length_nil] at hm ⊢;omega) (.inl ⟨rfl,rfl⟩) (.inr ⟨i,(oI i (.head _)).1,rfl,rfl⟩) oP (fun o ho=>oI o (.tail _ ho)) (by simp only [List.length_cons] at hl;omega) (by simp only [List.length_cons,List.length_append,List.length_nil] at ho ⊢;omega),List.append_assoc]
    rfl
  | cons o P' =>
   have ok:=oP o (.head _)
   have hpo:=ok.pos
   by_cases h2:o.Kind=2
   ·have hs:Xq 2 2 (xs,g,ys,h,out)=some (.inl (o::P',(thN o:Int),ins++o::P',0,out++[⟨1,o,⟨0,0,[],eS0⟩⟩])):=by
     unfold Xq
     simp only
     rw [np,Option.bind_some,nq,Option.bind_some,Z0k,Z0k,show (nxA (o::P')).2.1=(thN o:Int) from rfl,show (nxA (o::P')).1=o.Kind from rfl,decide_eq_true (show (0:Int) < (thN o:Int) by omega),cond_true,h2,show ((2:Int) == 2)=true from rfl,cond_true,Z3c ok,Option.bind_some]
     have:=app ⟨1,o,⟨0,0,[],eS0⟩⟩ (by simp only [List.length_cons] at ho;omega)
     unfold eS0 at this ⊢
     rw [this]
     rfl
    rw [Yu hs,Zy9 h2]
    rw [Znh m P' (ins++[o]) (o::P') (ins++o::P') (thN o:Int) 0 _ (by simp only [List.length_cons,List.length_append,List.length_nil] at hm ⊢;omega) (.inr ⟨o,ok,rfl,rfl⟩) (.inl ⟨by simp,rfl⟩) (fun x hx=>oP x (.tail _ hx)) (fun x hx=>by
     rcases List.mem_append.1 hx with q | q
     ·exact oI x q
     rw [List.mem_singleton.1 q];exact ⟨ok,h2⟩) (by simp only [List.length_cons,List.length_append,List.length_nil] at hl ⊢;omega) (by simp only [List.length_cons,List.length_append,List.length_nil] at ho ⊢;omega),List.append_assoc]
    rfl
   cases ins with
   | nil =>
    have hs:Xq 2 2 (xs,g,ys,h,out)=some (.inl (o::P',(thN o:Int),o::P',(thN o:Int),out++[⟨0,o,o⟩])):=by
     rw [List.nil_append] at nq
     unfold Xq
     simp only
     rw [np,Option.bind_some,nq,Option.bind_some,Z0k,show (nxA (o::P')).2.1=(thN o:Int) from rfl,show (nxA (o::P')).1=o.Kind from rfl,decide_eq_true (show (0:Int) < (thN o:Int) by omega),cond_true,Z6u h2,cond_false,cond_false,Z6u (show ¬ ((thN o:Nat):Int)=0 by omega),cond_false,cond_false,cond_false,cond_false,if_neg (by omega),Z3c ok,Option.bind_some,Option.bind_some,app _ (by simp only [List.length_cons] at ho;omega),Option.bind_some]
    rw [Yu hs,Zvs h2]
    rw [Znh m P' [] (o::P') (o::P') (thN o:Int) (thN o:Int) _ (by simp only [List.length_cons,List.length_nil] at hm ⊢;omega) (.inr ⟨o,ok,rfl,rfl⟩) (.inr ⟨o,ok,rfl,rfl⟩) (fun x hx=>oP x (.tail _ hx)) (fun x hx=>by cases hx) (by simp only [List.length_cons,List.length_nil] at hl ⊢;omega) (by simp only [List.length_cons,List.length_append,List.length_nil] at ho ⊢;omega),List.append_assoc]
    rfl
   | cons i ins' =>
    rw [Yu (second i ins' rfl (fun o' P'' h=>by injection h with h _;subst h;exact h2)),Zvt h2]
    rw [Znh m (o::P') ins' (o::P') ((i::ins')++(o::P')) 0 (thN i:Int) _ (by simp only [List.length_cons] at hm ⊢;omega) (.inl ⟨rfl,rfl⟩) (.inr ⟨i,(oI i (.head _)).1,rfl,rfl⟩) oP (fun o ho=>oI o (.tail _ ho)) (by simp only [List.length_cons] at hl ⊢;omega) (by simp only [List.length_cons,List.length_append,List.length_nil] at ho ⊢;omega),List.append_assoc]
    rfl
theorem Z5w {P:List EO} (oP:∀ o∈P,OKo o) (hl:P.length≤1048576):Vs P P=some (pcs P [],true):=by
 unfold Vs Zdt
 rw [Znh _ P [] P P 0 0 [] (Nat.lt_succ_self _) (.inl ⟨rfl,rfl⟩) (.inl ⟨rfl,rfl⟩) oP (fun o ho=>by cases ho) (by simp only [List.length_nil];omega) (by simp only [List.length_nil];omega),Option.bind_some,Option.bind_some]
 rfl
def Zo9 (ins:List EO):List Tr:=(ins.map (·.L)).flatten
theorem Z6e (ins:List EO) (o:EO):Zo9 (ins++[o])=Zo9 ins++o.L:=by unfold Zo9;simp
theorem Zzw (ins:List EO) (o:EO):Zo9 (o::ins)=o.L++Zo9 ins:=by unfold Zo9;simp
theorem Z75 (o:EO):∀ x∈stO o,x.Kind=0:=fun x hx=>by
 unfold stO at hx
 split at hx
 ·rw [List.mem_singleton.1 hx];assumption
 split at hx
 ·rw [List.mem_singleton.1 hx]
 cases hx
theorem Z9n (o:EO):(stO o).length≤1:=by unfold stO;split <;> (try split) <;> simp
abbrev RB:=Zi→Zi→Zl→Zl→Zh→Option (Zi×Zi×Zh)
theorem Zh3 {rb:RB} {L:Int} {ps:List Yt} (hps:ps.length≤100000000):∀ (m:Nat) (P ins:List EO) (i:Nat) (A B:List Tr) (oa ob:List EO),2 * P.length+ins.length < m→ps.drop i=pcs P ins→i≤ps.length→A=B++Zo9 ins →
  (∀ o∈P,OKo o∧(∀ t∈o.L,Bd t))→(∀ o∈ins,∀ t∈o.L,Bd t)→(∀ t∈B,Bd t)→A.length+Q1 P≤2147483648 →
  (∀ o∈P,o.Kind≠2→∀ oa ob,oa.length≤50000000→ob.length≤50000000→rb (SD 3 L oa []) (SD 3 L ob []) o o M0=some (SD 3 L (oa++stO o) [],SD 3 L (ob++stO o) [],M0)) →
  (∀ o∈oa,o.Kind=0)→(∀ o∈ob,o.Kind=0)→oa.length+2 * (2 * P.length+ins.length)≤10000000→ob.length+2 * (2 * P.length+ins.length)≤10000000 →
  ∃ oa' ob' c,Z9 (Xe rb (ps,true)) ((i:Int),SD 3 L oa A,SD 3 L ob B,false,false)=some (SD 3 L oa' c,SD 3 L ob' c,[],[],oa',c,[],[],ob',c,false,false) ∧
   (∀ o∈oa',o.Kind=0)∧(∀ o∈ob',o.Kind=0)∧oa'.length≤10000000∧ob'.length≤10000000∧(∀ t∈c,Bd t)∧c.length≤2147483648
 | 0,_,_,_,_,_,_,_,hm,_,_,_,_,_,_,_,_,_,_,_,_=>by omega
 | m+1,P,ins,i,A,B,oa,ob,hm,hd,hi,hA,oP,oI,hB,hs,hr,ka,kb,la,lb=>by
  have at_:∀ x xs,pcs P ins=x::xs→ps[i]? = some x∧ps.drop (i+1)=xs∧i < ps.length:=fun x xs h=>by
   rw [h] at hd
   have e1:=congrArg (fun l=>l[0]?) hd
   simp only [List.getElem?_drop,Nat.add_zero,List.getElem?_cons_zero] at e1
   exact ⟨e1,by rw [← List.drop_drop,hd];rfl,(List.getElem?_eq_some_iff.1 e1).1⟩
  -- what comes of the other side
  have second:∀ (j:EO) (ins':List EO),ins=j::ins'→(pcs P ins=⟨2,⟨0,0,[],eS0⟩,j⟩::pcs P ins')→∃ oa' ob' c,Z9 (Xe rb (ps,true)) ((i:Int),SD 3 L oa A,SD 3 L ob B,false,false)=some (SD 3 L oa' c,SD 3 L ob' c,[],[],oa',c,[],[],ob',c,false,false) ∧
    (∀ o∈oa',o.Kind=0)∧(∀ o∈ob',o.Kind=0)∧oa'.length≤10000000∧ob'.length≤10000000∧(∀ t∈c,Bd t)∧c.length≤2147483648:=fun j ins' hj hp=>by
   obtain ⟨g1,g2,g3⟩:=at_ _ _ hp
   subst hj
   have hlen:B.length+j.L.length≤A.length:=by rw [hA,Zzw,List.length_append,List.length_append];omega
   have hs':Xe rb (ps,true) ((i:Int),SD 3 L oa A,SD 3 L ob B,false,false)=some (.inl (((i+1:Nat):Int),SD 3 L oa A,SD 3 L ob (B++j.L),false,false)):=by
    unfold Xe
    simp only
    rw [decide_eq_true (by omega),cond_true,Xd g1,Option.bind_some]
    simp only
    rw [show ((2:Int) == 1)=false from rfl,cond_false,show ((2:Int) == 2)=true from rfl,cond_true,show (SD 3 L ob B).come=B from rfl,Vh (by omega) (by omega),Option.bind_some,Option.bind_some,G0 (by omega) (by omega)]
    rfl
   rw [Yu hs']
   exact Zh3 hps m P ins' (i+1) A (B++j.L) oa ob (by simp only [List.length_cons] at hm;omega) g2 (by omega) (by rw [hA,Zzw,List.append_assoc]) oP (fun o ho=>oI o (.tail _ ho)) (fun t ht=>by
    rcases List.mem_append.1 ht with q | q
    ·exact hB t q
    exact oI j (.head _) t q) hs hr ka kb (by simp only [List.length_cons] at la;omega) (by simp only [List.length_cons] at lb;omega)
  cases P with
  | nil =>
   cases ins with
   | nil =>
    rw [Zza] at hd
    have:ps.length≤i:=List.drop_eq_nil_iff.1 hd
    have hAB:A=B:=by rw [hA];simp [Zo9]
    subst hAB
    refine ⟨oa,ob,A,Y0 ?_,ka,kb,by omega,by omega,hB,by omega⟩
    unfold Xe
    simp only
    rw [decide_eq_false (by omega),cond_false]
    rfl
   | cons j ins'=>exact second j ins' rfl (Zvu j ins')
  | cons o P' =>
   obtain ⟨ok,oL⟩:=oP o (.head _)
   have hso:Q1 (o::P')=thN o+Q1 P':=by unfold Q1;rw [List.map_cons,List.sum_cons]
   by_cases h2:o.Kind=2
   ·obtain ⟨g1,g2,g3⟩:=at_ _ _ (Zy9 h2 P' ins)
    have ht:thN o=o.L.length:=by unfold thN;rw [if_neg (by omega),if_neg (by omega)]
    have hs':Xe rb (ps,true) ((i:Int),SD 3 L oa A,SD 3 L ob B,false,false)=some (.inl (((i+1:Nat):Int),SD 3 L oa (A++o.L),SD 3 L ob B,false,false)):=by
     unfold Xe
     simp only
     rw [decide_eq_true (by omega),cond_true,Xd g1,Option.bind_some]
     simp only
     rw [show ((1:Int) == 1)=true from rfl,cond_true,show (SD 3 L oa A).come=A from rfl,Vh (by omega) (by omega),Option.bind_some,Option.bind_some,G0 (by omega) (by omega)]
     rfl
    rw [Yu hs']
    exact Zh3 hps m P' (ins++[o]) (i+1) (A++o.L) B oa ob (by simp only [List.length_cons,List.length_append,List.length_nil] at hm ⊢;omega) g2 (by omega) (by rw [hA,Z6e,List.append_assoc]) (fun x hx=>oP x (.tail _ hx)) (fun x hx=>by
     rcases List.mem_append.1 hx with q | q
     ·exact oI x q
     rw [List.mem_singleton.1 q];exact oL) hB (by rw [List.length_append];omega) (fun x hx=>hr x (.tail _ hx)) ka kb (by simp only [List.length_cons,List.length_append,List.length_nil] at la ⊢;omega) (by simp only [List.length_cons,List.length_append,List.length_nil] at lb ⊢;omega)
   cases ins with
   | cons j ins'=>exact second j ins' rfl (Zvt h2 P' j ins')
   | nil =>
    obtain ⟨g1,g2,g3⟩:=at_ _ _ (Zvs h2 P')
    have hAB:A=B:=by rw [hA];simp [Zo9]
    subst hAB
    simp only [List.length_cons,List.length_nil] at la lb hm
    have lk:=Z3x A
    have ls:=Z9n o
    have gp:=Zz5 (k:=3) (l:=L) (k':=3) (l':=L) (ops:=oa) (ops':=ob) (c:=A) (by omega) (by omega) hB (by omega)
    have bo:=hr o (.head _) h2 (oa++kpC A) (ob++kpC A) (by rw [List.length_append];omega) (by rw [List.length_append];omega)
    have hs':Xe rb (ps,true) ((i:Int),SD 3 L oa A,SD 3 L ob A,false,false)=some (.inl (((i+1:Nat):Int),SD 3 L (oa++kpC A++stO o) [],SD 3 L (ob++kpC A++stO o) [],false,false)):=by
     unfold Xe
     simp only
     rw [decide_eq_true (by omega),cond_true,Xd g1,Option.bind_some]
     simp only
     rw [show ((0:Int) == 1)=false from rfl,cond_false,show ((0:Int) == 2)=false from rfl,cond_false,show ((0:Int) == 0)=true from rfl,cond_true,show (⟨false,false⟩:Zh)=M0 from rfl,gp,Option.bind_some]
     simp only
     rw [bo,Option.bind_some,Option.bind_some,G0 (by omega) (by omega)]
     rfl
    rw [Yu hs']
    have kk:∀ (q:List EO),(∀ x∈q,x.Kind=0)→∀ x∈q++kpC A++stO o,x.Kind=0:=fun q hq x hx=>by
     rcases List.mem_append.1 hx with h | h
     ·rcases List.mem_append.1 h with h | h
      ·exact hq x h
      exact Z0d A x h
     exact Z75 o x h
    exact Zh3 hps m P' [] (i+1) [] [] _ _ (by simp only [List.length_nil];omega) g2 (by omega) (by simp [Zo9]) (fun x hx=>oP x (.tail _ hx)) (fun x hx=>by cases hx) (fun t ht=>by cases ht) (by simp only [List.length_nil];omega) (fun x hx=>hr x (.tail _ hx)) (kk oa ka) (kk ob kb) (by simp only [List.length_append,List.length_nil];omega) (by simp only [List.length_append,List.length_nil];omega)
theorem Zi8:∀ (m:Nat) (P ins:List EO),2 * P.length+ins.length < m→(pcs P ins).length≤2 * P.length+ins.length
 | 0,_,_,h=>by omega
 | m+1,P,ins,h=>by
  cases P with
  | nil =>
   cases ins with
   | nil=>rw [Zza];simp
   | cons j ins' =>
    have:=Zi8 m [] ins' (by simp only [List.length_cons,List.length_nil] at h ⊢;omega)
    rw [Zvu]
    simp only [List.length_cons,List.length_nil] at this ⊢
    omega
  | cons o P' =>
   by_cases h2:o.Kind=2
   ·have:=Zi8 m P' (ins++[o]) (by simp only [List.length_cons,List.length_append,List.length_nil] at h ⊢;omega)
    rw [Zy9 h2]
    simp only [List.length_cons,List.length_append,List.length_nil] at this ⊢
    omega
   cases ins with
   | nil =>
    have:=Zi8 m P' [] (by simp only [List.length_cons,List.length_nil] at h ⊢;omega)
    rw [Zvs h2]
    simp only [List.length_cons,List.length_nil] at this ⊢
    omega
   | cons j ins' =>
    have:=Zi8 m (o::P') ins' (by simp only [List.length_cons] at h ⊢;omega)
    rw [Zvt h2]
    simp only [List.length_cons] at this ⊢
    omega
inductive SP:Ed→Prop
 | mk (e:Ed) (hb:BE e) (hg:GN e) (hk:e.Kind=0∨e.Kind=1∨e.Kind=2∨e.Kind=3) (hw:e.Kind=2→chk (·.At) okW (-1) e.Words=true) (hs:∀ k∈e.Kids,SP k.E) (hd:∀ o∈e.Ops,o.Kind=3→SP o.E):SP e
theorem SP.b {e:Ed} (h:SP e):BE e:=by cases h;assumption
theorem SP.g {e:Ed} (h:SP e):GN e:=by cases h;assumption
theorem SP.kd {e:Ed} (h:SP e):e.Kind=0∨e.Kind=1∨e.Kind=2∨e.Kind=3:=by cases h;assumption
theorem SP.ws {e:Ed} (h:SP e):e.Kind=2→chk (·.At) okW (-1) e.Words=true:=by cases h;assumption
theorem SP.ks {e:Ed} (h:SP e):∀ k∈e.Kids,SP k.E:=by cases h;assumption
theorem SP.os {e:Ed} (h:SP e):∀ o∈e.Ops,o.Kind=3→SP o.E:=by cases h;assumption
theorem Ybx {e:Ed} (h:GN e):∀ o∈e.Ops,OKo o:=fun o ho=>⟨h.p o ho,by
 have:=Zqp (f:=thN) ho
 have:=h.s
 unfold Q1 at this
 omega⟩
abbrev RM:=Zg→Zg→Zh→Option (Zg×Zg×Zh)
theorem Yae (s:Zi) (a:Int) {y:Ed} (h:y.Kind=0):U6 s a y M0=some (s,M0):=by
 unfold U6
 rw [h]
 rfl
theorem Zts {rm:RM} {k l k' l':Int} {ops ops':List EO} {c c':List Tr}:∀ ks:List Zm,ks.length≤1048576→(∀ x∈ks,∃ y y',rm x.E x.E M0=some (y,y',M0)∧y.Kind=0∧y'.Kind=0) →
  Z9 (Vi rm) (ks,ks,SD k l ops c,SD k' l' ops' c',false,false)=some ([],[],ops,c,[],[],ops',c',SD k l ops c,SD k' l' ops' c',false,false)
 | [],_,_=>Y0 rfl
 | x::ks,hl,h=>by
  obtain ⟨y,y',e1,e2,e3⟩:=h x (.head _)
  simp only [List.length_cons] at hl
  have n0:((((x::ks).length:Nat):Int) == 0)=false:=Z6u (by simp only [List.length_cons];omega)
  have p0:decide ((0:Int) < (((x::ks).length:Nat):Int))=true:=decide_eq_true (by simp only [List.length_cons];omega)
  have sb:Zfj (x::ks) 1 (((x::ks).length:Nat):Int)=some ks:=by
   rw [Zot (by omega) (by simp only [List.length_cons];omega) (by simp only [List.length_cons];omega)]
   simp
  have hs:Vi rm (x::ks,x::ks,SD k l ops c,SD k' l' ops' c',false,false)=some (.inl (ks,ks,SD k l ops c,SD k' l' ops' c',false,false)):=by
   unfold Vi
   simp only
   simp only [p0,n0,cond_true,cond_false,Z2o,Option.bind_some,Int.lt_irrefl,decide_false]
   rw [show (⟨false,false⟩:Zh)=M0 from rfl,e1,Option.bind_some]
   simp only
   rw [Yae _ _ e2,Option.bind_some]
   simp only
   rw [Yae _ _ e3,Option.bind_some,sb,Option.bind_some]
   rfl
  rw [Yu hs]
  exact Zts ks (by omega) fun z hz=>h z (.tail _ hz)
theorem Z25 {e:Ed} (hb:BE e) (h1:e.Kind=1):Vb e e M0=some M0:=by
 have a1:Zft e e.Old=some (nrm e.New,true):=by
  unfold Zft Zh4
  rw [h1,show ((1:Int) == 0)=false from rfl,cond_false,show ((1:Int) == 1)=true from rfl,cond_true,Zz0 hb.old hb.old,eqT_iff.2 rfl,Option.bind_some,Option.bind_some]
  simp only
  rw [Bool.not_true,cond_false,Zub hb.new,Option.bind_some]
 unfold Vb
 rw [a1,Option.bind_some]
 simp only
 rw [Bool.not_true,cond_false,Zz0 (Bd.nrm hb.new) hb.new,Zuc,eqT_iff.2 rfl,Option.bind_some,Bool.not_true,cond_false]
theorem Ycr {e:Ed} {k:Zm} (h:k∈e.Kids):SizeOf.sizeOf k.E < SizeOf.sizeOf e:=Zbs h
theorem Ycs {e:Ed} {o:EO} (h:o∈e.Ops):SizeOf.sizeOf o.E < SizeOf.sizeOf e:=Zdx h
def mvE (e:Ed):Ed:=if e.Kind=0 then e else eS0
theorem Z31 (e:Ed):(mvE e).Kind=0:=by
 unfold mvE
 split
 ·assumption
 rfl
theorem Ya9 (K:Nat):(Zo (K+1)).1=J4 (Zo K).1 (Zo K).2.1 (Zo K).2.2.1 (Zo K).2.2.2.1 (Zo K).2.2.2.2:=rfl
theorem Yd8 (K:Nat):(Zo (K+1)).2.1=Vj (Zo K).1 (Zo K).2.1 (Zo K).2.2.1 (Zo K).2.2.2.1 (Zo K).2.2.2.2:=rfl
theorem Yb0 (K:Nat):(Zo (K+1)).2.2.1=K4 (Zo K).1 (Zo K).2.1 (Zo K).2.2.1 (Zo K).2.2.2.1 (Zo K).2.2.2.2:=rfl
theorem Yd9 (K:Nat):(Zo (K+1)).2.2.2.1=Gm (Zo K).1 (Zo K).2.1 (Zo K).2.2.1 (Zo K).2.2.2.1 (Zo K).2.2.2.2:=rfl
theorem Yb1 (K:Nat):(Zo (K+1)).2.2.2.2=Gl (Zo K).1 (Zo K).2.1 (Zo K).2.2.1 (Zo K).2.2.2.1 (Zo K).2.2.2.2:=rfl
theorem Z7s:∀ K:Nat,
  (∀ e:Ed,SP e→4 * SizeOf.sizeOf e+3 < K→(Zo K).1 e e M0=some (mvE e,mvE e,M0)) ∧
  (∀ e:Ed,SP e→e.Kind=2→4 * SizeOf.sizeOf e+2 < K→(Zo K).2.1 e e M0=some (eS0,eS0,M0)) ∧
  (∀ e:Ed,SP e→e.Kind=3→4 * SizeOf.sizeOf e+2 < K→(Zo K).2.2.1 e e M0=some (eS0,eS0,M0)) ∧
  (∀ (ks:List Zm) (k l k' l':Int) (ops ops':List EO) (c c':List Tr),1≤K→ks.length≤1048576→(∀ x∈ks,SP x.E∧4 * SizeOf.sizeOf x.E+4 < K)→(Zo K).2.2.2.1 (SD k l ops c) (SD k' l' ops' c') ks ks M0=some (SD k l ops c,SD k' l' ops' c',M0)) ∧
  (∀ (o:EO) (L:Int) (oa ob:List EO),1≤K→OKo o→(∀ t∈o.L,Bd t)→(o.L.length:Int)≤140737488355328→o.Kind≠2→(o.Kind=3→SP o.E∧4 * SizeOf.sizeOf o.E+4 < K)→oa.length≤50000000→ob.length≤50000000→(Zo K).2.2.2.2 (SD 3 L oa []) (SD 3 L ob []) o o M0=some (SD 3 L (oa++stO o) [],SD 3 L (ob++stO o) [],M0))
 | 0=>⟨fun _ _ h=>by omega,fun _ _ _ h=>by omega,fun _ _ _ h=>by omega,fun _ _ _ _ _ _ _ _ _ h=>by omega,fun _ _ _ _ h=>by omega⟩
 | K+1=>by
  obtain ⟨i1,i2,i3,i4,i5⟩:=Z7s K
  refine ⟨fun e he hK => ?_,fun e he h2 hK => ?_,fun e he h3 hK => ?_,fun ks k l k' l' ops ops' c c' _ hl hks => ?_,fun o L oa ob _ ok oL hn n2 h3 la lb => ?_⟩
  ·rw [Ya9]
   unfold J4
   unfold mvE
   rcases he.kd with h | h | h | h
   ·rw [if_pos h,show (e.Kind == 0)=true from beq_iff_eq.2 h]
    exact congrArg (fun z:Ed=>some (z,z,M0)) (Z2g e)
   ·rw [Z25 he.b h,if_neg (by omega),h]
    rfl
   ·rw [i2 e he h (by omega),if_neg (by omega),h]
    rfl
   rw [i3 e he h (by omega),if_neg (by omega),h,show (e.List_ == e.List_)=true from beq_self_eq_true _]
   rfl
  ·rw [Yd8]
   have wm:∀ w∈e.Words,0≤w.Mask∧w.Mask < 256:=fun w hw=>(he.b.ws w hw).1
   have w1:=Z8p he.g.w wm (he.ws h2) e.Kind e.List_ [] []
   have k1:=i4 e.Kids e.Kind e.List_ e.Kind e.List_ [] [] [] [] (by omega) he.g.k (fun x hx=>⟨he.ks x hx,by have:=Ycr hx;omega⟩)
   have d1:=Zyi (k:=e.Kind) (l:=e.List_) (ops:=[]) (by simp) (fun o ho=>by cases ho) []
   unfold Vj
   rw [Zos,Option.bind_some,Option.bind_some,w1,Option.bind_some]
   simp only
   rw [w1,Option.bind_some]
   simp only
   rw [k1,Option.bind_some]
   refine (congrArg (fun z=>Option.bind z _) d1).trans ?_
   rw [Option.bind_some]
   refine (congrArg (fun z=>Option.bind z _) d1).trans ?_
   rfl
  ·rw [Yb0]
   have hok:=Ybx he.g
   have hlen:=he.g.o
   have th:=Z5w hok hlen
   have pl:=Zi8 _ e.Ops [] (Nat.lt_succ_self _)
   simp only [List.length_nil] at pl
   obtain ⟨oa,ob,c,r1,r2,r3,r4,r5,r6,r7⟩:=Zh3 (rb:=(Zo K).2.2.2.2) (L:=e.List_) (ps:=pcs e.Ops []) (by omega) _ e.Ops [] 0 [] [] [] [] (Nat.lt_succ_self _) rfl (Nat.zero_le _) rfl
    (fun o ho=>⟨hok o ho,(he.b.l o ho).2⟩) (fun o ho=>by cases ho) (fun t ht=>by cases ht) (by have:=he.g.s;simp only [List.length_nil];omega)
    (fun o ho n2 oa ob la lb=>i5 o e.List_ oa ob (by omega) (hok o ho) (he.b.l o ho).2 (by have:=(he.b.l o ho).1;omega) n2 (fun h=>⟨he.os o ho h,by have:=Ycs ho;omega⟩) la lb)
    (fun o ho=>by cases ho) (fun o ho=>by cases ho) (by simp only [List.length_nil];omega) (by simp only [List.length_nil];omega)
   have lc:=Z3x c
   have kk:∀ q:List EO,(∀ x∈q,x.Kind=0)→∀ x∈q++kpC c,x.Kind=0:=fun q hq x hx=>by
    rcases List.mem_append.1 hx with h | h
    ·exact hq x h
    exact Z0d c x h
   have gp:=Zz5 (k:=3) (l:=e.List_) (k':=3) (l':=e.List_) (ops:=oa) (ops':=ob) (c:=c) (by omega) (by omega) r6 (by omega)
   have d1:=Zyi (k:=3) (l:=e.List_) (ops:=oa++kpC c) (by rw [List.length_append];omega) (kk oa r2) []
   have d2:=Zyi (k:=3) (l:=e.List_) (ops:=ob++kpC c) (by rw [List.length_append];omega) (kk ob r3) []
   unfold K4
   rw [th,Option.bind_some,Zos,Option.bind_some,Option.bind_some,h3]
   refine (congrArg (fun z=>Option.bind z _) r1).trans ?_
   rw [Option.bind_some]
   refine (congrArg (fun z=>Option.bind z _) gp).trans ?_
   rw [Option.bind_some]
   refine (congrArg (fun z=>Option.bind z _) d1).trans ?_
   rw [Option.bind_some]
   refine (congrArg (fun z=>Option.bind z _) d2).trans ?_
   rfl
  ·rw [Yd9]
   have kl:=Zts (rm:=(Zo K).1) (k:=k) (l:=l) (k':=k') (l':=l') (ops:=ops) (ops':=ops') (c:=c) (c':=c') ks hl (fun x hx=>by
    obtain ⟨s,hs⟩:=hks x hx
    exact ⟨mvE x.E,mvE x.E,i1 x.E s (by omega),Z31 _,Z31 _⟩)
   unfold Gm
   refine (congrArg (fun z=>Option.bind z _) kl).trans ?_
   rfl
  rw [Yb1]
  unfold Gl
  by_cases h:o.Kind=3
  ·obtain ⟨s,hs⟩:=h3 h
   have e1:=i1 o.E s (by omega)
   have e2:=Z31 o.E
   rw [h,show ((3:Int) == 3)=true from rfl,cond_true,cond_true,e1,Option.bind_some]
   simp only
   rw [Z3o (by omega) e2,Option.bind_some]
   simp only
   rw [Z3o (by omega) e2]
   have:stO o=[⟨0,1,[],eS0⟩]:=by unfold stO;rw [if_neg (by omega),if_pos h]
   rw [this]
   rfl
  have hk:o.Kind=0∨o.Kind=1:=by rcases ok.kd with q | q | q | q <;> omega
  rw [Z6u h,cond_false,cond_false,Z4d (by omega) hk oL hn,Option.bind_some]
  simp only
  rw [Z4d (by omega) hk oL hn]
  rfl
theorem Z0q {F:List EO} {n:Int} {o:EO} (h:o∈Zbh F n) (h3:o.Kind=3):o∈F:=by
 by_cases hk:∃ x,F.getLast? = some x∧x.Kind=0
 ·obtain ⟨x,hx,k0⟩:=hk
  obtain ⟨o',rfl⟩:=List.getLast?_eq_some_iff.1 hx
  obtain ⟨k,N,L,E⟩:=x
  simp only at k0
  subst k0
  rw [Zl5] at h
  rcases List.mem_append.1 h with h | h
  ·exact List.mem_append.2 (.inl h)
  rw [List.mem_singleton.1 h] at h3;simp at h3
 rw [Zlb fun x hx h0=>hk ⟨x,hx,h0⟩] at h
 rcases List.mem_append.1 h with h | h
 ·exact h
 rw [List.mem_singleton.1 h] at h3;simp at h3
theorem Zp6 {s:NW} {o:EO} (h:o∈s.flush) (h3:o.Kind=3):o∈s.out:=by
 unfold NW.flush at h
 rw [List.mem_append,List.mem_append] at h
 rcases h with h | h | h
 ·exact h
 ·unfold Zca at h
  split at h
  ·cases h
  rw [List.mem_singleton.1 h] at h3;simp at h3
 unfold Zdh at h
 split at h
 ·cases h
 rw [List.mem_singleton.1 h] at h3;simp at h3
def kds (k:Int):Prop:=k=0∨k=1∨k=2∨k=3
theorem Ybh {Q:Ed→Prop} {l:Int} {s:NW} {p:EO×Ed} (hs:∀ o∈s.out,o.Kind=3→Q o.E) (hp:p.1.Kind=3→Q p.2) (hk:kds p.1.Kind):∀ o∈(stN l s p).out,o.Kind=3→Q o.E:=fun o ho h3=>by
 unfold kds at hk
 unfold stN at ho
 split at ho
 ·exact hs o ho h3
 split at ho
 ·exact hs o ho h3
 split at ho
 ·exact hs o (Zp6 (Z0q ho h3) h3) h3
 split at ho
 ·exact hs o (Zp6 (Z0q ho h3) h3) h3
 rcases List.mem_append.1 ho with ho | ho
 ·exact hs o (Zp6 ho h3) h3
 rw [List.mem_singleton.1 ho];exact hp (by omega)
theorem Z3r {Q:Ed→Prop} {l:Int}:∀ (ps:List (EO×Ed)) (s:NW),(∀ o∈s.out,o.Kind=3→Q o.E)→(∀ p∈ps,(p.1.Kind=3→Q p.2)∧kds p.1.Kind)→∀ o∈(ps.foldl (stN l) s).out,o.Kind=3→Q o.E
 | [],s,hs,_=>hs
 | p::ps,s,hs,hp=>Z3r ps _ (Ybh hs (hp p (.head _)).1 (hp p (.head _)).2) fun q hq=>hp q (.tail _ hq)
theorem Z9e {Q:Ed→Prop} {l:Int} {os:List EO} (h:∀ o∈os,opk o∧(o.Kind=3→Q (nE o.E))):∀ o∈Zf3 l (Kq os),o.Kind=3→Q o.E:=fun o ho h3=>by
 unfold Zf3 at ho
 refine Z3r (Q:=Q) _ s0N (fun x hx=>by cases hx) (fun p hp => ?_) o (Zp6 ho h3) h3
 obtain ⟨x,hx,rfl⟩:=List.mem_map.1 hp
 refine ⟨(h x hx).2,?_⟩
 show kds x.Kind
 unfold kds
 rcases (h x hx).1 with ⟨q,_⟩ | ⟨q,_⟩ | ⟨q,_⟩ | q <;> omega
theorem Yct:SP eS0 := .mk _ Zp5 Zqi (.inl rfl) (fun h=>absurd h (by decide)) (fun k h=>by cases h) (fun o h=>by cases h)
theorem Z74:∀ (n:Nat) (e:Ed) (d:Nat),SizeOf.sizeOf e < n→BE e→GN e→rE e d=true→SP (nE e)
 | 0,_,_,h,_,_,_=>by omega
 | n+1,e,d,hn,hb,hg,h=>by
  have hB:=hb.nE hg
  have hG:=GN.nE hb hg
  rw [Z39] at h
  rw [Zm8] at hB hG ⊢
  by_cases hd:d=0
  ·rw [if_pos hd] at h;cases h
  rw [if_neg hd] at h
  by_cases h0:e.Kind=0
  ·rw [if_neg (by omega),if_neg (by omega),if_neg (by omega)]
   exact Yct
  rw [if_neg h0] at h
  by_cases h1:e.Kind=1
  ·rw [if_pos h1] at hB hG ⊢
   exact .mk _ hB hG (.inr (.inl rfl)) (fun h=>absurd (show (1:Int)=2 from h) (by decide)) (fun k hk=>by cases hk) (fun o ho=>by cases ho)
  rw [if_neg h1] at h hB hG ⊢
  by_cases h2:e.Kind=2
  ·rw [if_pos h2] at h hB hG ⊢
   simp only [Bool.and_eq_true] at h
   refine .mk _ hB hG (.inr (.inr (.inl rfl))) (fun _=>h.2.1) (fun k hk => ?_) (fun o ho=>by cases ho)
   obtain ⟨x,hx,rfl⟩:=List.mem_map.1 hk
   refine Z74 n x.E (d - 1) (by have:=Zbs hx;omega) (hb.ks x hx) (hg.ks x hx) ?_
   exact Zyh (Q:=fun k:Zm=>rE k.E (d - 1)=true) (fun p x hx=>by
     unfold okK okP at hx
     simp only [Bool.and_eq_true] at hx
     exact hx.2.2) e.Kids (-1) h.2.2 x hx
  rw [if_neg h2] at h hB hG ⊢
  by_cases h3:e.Kind=3
  ·rw [if_pos h3] at h hB hG ⊢
   rw [Bool.and_eq_true,Bool.and_eq_true,Bool.and_eq_true,Bool.and_eq_true,Bool.and_eq_true,List.all_eq_true] at h
   obtain ⟨_,_,hall,_⟩:=h
   refine .mk _ hB hG (.inr (.inr (.inr rfl))) (fun h=>absurd (show (3:Int)=2 from h) (by decide)) (fun k hk=>by cases hk) (Z9e fun o ho=>⟨hg.p o ho,fun k3 => ?_⟩)
   have:=hall o ho
   unfold okO at this
   rw [if_neg (by omega),if_neg (by omega),if_pos k3] at this
   simp only [Bool.and_eq_true] at this
   exact Z74 n o.E (d - 1) (by have:=Zdx ho;omega) (hb.os o ho) (hg.os o ho) this.2.2.2.2
  rw [if_neg h3] at h;cases h
theorem Z5l {e:Ed} (h:SP e):Gq e e M0=some (mvE e,mvE e,M0):=Zeg (4 * SizeOf.sizeOf e+4) fun k hk=>(Z7s k).1 e h (by omega)
theorem Z66 {e:Ed} (h:e.Kind=0):nE e=eS0:=by rw [Zm8,if_neg (by omega),if_neg (by omega),if_neg (by omega)]
theorem Ybb {e:Ed} (hb:BE e) (hg:GN e):Zb8 (mvE e)=some eS0:=by
 have h1:BE (mvE e):=by
  unfold mvE
  split
  ·exact hb
  exact Zp5
 have h2:GN (mvE e):=by
  unfold mvE
  split
  ·exact hg
  exact Zqi
 rw [Zpc h1 h2,Z66 (Z31 e)]
theorem Z2i {e:Ed} (hb:BE e) (hg:GN e) (hs:SP (nE e)):Jv e e=some (eS0,eS0,0):=by
 unfold Jv
 rw [Zpc hb hg,Option.bind_some,Option.bind_some,show (⟨false,false⟩:Zh)=M0 from rfl,Z5l hs,Option.bind_some]
 show cond false _ (cond false _ _)=_
 rw [cond_false,cond_false]
 simp only
 rw [Ybb (hb.nE hg) (GN.nE hb hg),Option.bind_some,Option.bind_some]
theorem Z5k (e:Ed):Gq e eS0 M0=some (e,eS0,M0):=Zeg 1 fun k hk=>by
 obtain ⟨k,rfl⟩:∃ j,k=j+1:=⟨k - 1,by omega⟩
 rw [Ya9]
 unfold J4
 rw [show cond (e.Kind == 0) true (eS0.Kind == 0)=true by cases e.Kind == 0 <;> rfl]
 exact congrArg (fun z:Ed=>some (z,eS0,M0)) (Z2g e)
theorem Z2h {e:Ed} (hb:BE e) (hg:GN e):Jv e eS0=some (nE e,eS0,0):=by
 unfold Jv
 rw [Zpc hb hg,Option.bind_some,Zpc Zp5 Zqi,Option.bind_some,show (⟨false,false⟩:Zh)=M0 from rfl,Z66 (e:=eS0) rfl,Z5k,Option.bind_some]
 show cond false _ (cond false _ _)=_
 rw [cond_false,cond_false]
 simp only
 rw [Zpc (hb.nE hg) (GN.nE hb hg),Option.bind_some,Zpc Zp5 Zqi,Option.bind_some,Yb3,Z66 (e:=eS0) rfl]
def aI (w:Int):EO:=⟨2,0,[⟨10,[w],[]⟩],eS0⟩
def aK (n:Int):EO:=⟨0,n,[],eS0⟩
def aE (os:List EO):Ed:=⟨3,n0T,n0T,[],[],4,os⟩
theorem Yab {w:Int} (h:0≤w∧w < 18446744073709551616):Bd ⟨10,[w],[]⟩ := .mk _ (by simp) (by simp) (by simpa using h) (fun k h=>by simp at h)
theorem Zt8 {os:List EO} (hl:os.length≤5) (h:∀ o∈os,o=aI 1∨o=aI 2∨o=aK 1) (hs:Q1 os≤100):BE (aE os)∧GN (aE os):=by
 have hE:∀ o∈os,o.E=eS0:=fun o ho=>by rcases h o ho with h | h | h <;> rw [h] <;> rfl
 refine ⟨.mk _ Ztl Ztl (by simp [aE]) (by simp [aE]) (by simp [aE]) (by simp [aE]) (by simp only [aE];omega) (fun o ho => ?_) (fun o ho=>by rw [hE o ho];exact Zp5),.mk _ (by simp [aE]) (by simp [aE]) (by simp only [aE];omega) (by simp only [aE];omega) (fun o ho => ?_) (by simp [aE]) (fun o ho=>by rw [hE o ho];exact Zqi)⟩
 ·rcases h o ho with h | h | h <;> rw [h] <;> refine ⟨by simp [aI,aK],fun t ht => ?_⟩
  ·rw [List.mem_singleton.1 ht];exact Yab (by decide)
  ·rw [List.mem_singleton.1 ht];exact Yab (by decide)
  cases ht
 rcases h o ho with h | h | h <;> rw [h] <;> simp [opk,aI,aK]
theorem Z8y (w:Int):nrm ⟨10,[w],[]⟩=⟨10,[w],[]⟩:=by rw [Zve (by simp) (by simp)];rfl
theorem Zvg {xs:List EO} {g:Int} {r:(Int×Int×List EO×Int) ⊕ (List EO×Int)} (h:Zfd Qh 3 (xs,g)=some r):Jd ⟨xs,g⟩=(match r with | .inl z=>some (z.1,z.2.1,(⟨z.2.2.1,z.2.2.2⟩:X2)) | .inr z=>some (0,0,(⟨z.1,z.2⟩:X2))):=by
 unfold Jd
 rw [Ze8 h]
 cases r <;> rfl
theorem Z3l {α β γ:Type} {a:Option α} {b:Option β} {x:α} {y:β} {f:α→β→Option γ} {r:Option γ} (ha:a=some x) (hb:b=some y) (h:f x y=r):(a.bind fun u=>b.bind fun v=>f u v)=r:=by subst ha hb;exact h
theorem Yay:Vs [aI 1,aK 1] [aK 1,aI 2]=some ([⟨1,aI 1,⟨0,0,[],eS0⟩⟩,⟨0,aK 1,aK 1⟩,⟨2,⟨0,0,[],eS0⟩,aI 2⟩],true):=by
 have n1:=Zvg (xs:=[aI 1,aK 1]) (g:=0) (r := .inl (2,1,[aI 1,aK 1],0)) rfl
 have n2:=Zvg (xs:=[aK 1,aI 2]) (g:=0) (r := .inl (0,1,[aK 1,aI 2],0)) rfl
 have n3:=Zvg (xs:=[aI 1,aK 1]) (g:=1) (r := .inl (0,1,[aK 1],0)) rfl
 have n4:=Zvg (xs:=[aK 1]) (g:=1) (r := .inr ([],0)) rfl
 have n5:=Zvg (xs:=[aK 1,aI 2]) (g:=1) (r := .inl (2,1,[aI 2],0)) rfl
 have n6:=Zvg (xs:=[]) (g:=0) (r := .inr ([],0)) rfl
 have n7:=Zvg (xs:=[aI 2]) (g:=1) (r := .inr ([],0)) rfl
 have q1:Xq 2 2 ([aI 1,aK 1],0,[aK 1,aI 2],0,[])=some (.inl ([aI 1,aK 1],1,[aK 1,aI 2],0,[⟨1,aI 1,⟨0,0,[],eS0⟩⟩])):=Z3l n1 n2 rfl
 have q2:Xq 2 2 ([aI 1,aK 1],1,[aK 1,aI 2],0,[⟨1,aI 1,⟨0,0,[],eS0⟩⟩])=some (.inl ([aK 1],1,[aK 1,aI 2],1,[⟨1,aI 1,⟨0,0,[],eS0⟩⟩,⟨0,aK 1,aK 1⟩])):=Z3l n3 n2 rfl
 have q3:Xq 2 2 ([aK 1],1,[aK 1,aI 2],1,[⟨1,aI 1,⟨0,0,[],eS0⟩⟩,⟨0,aK 1,aK 1⟩])=some (.inl ([],0,[aI 2],1,[⟨1,aI 1,⟨0,0,[],eS0⟩⟩,⟨0,aK 1,aK 1⟩,⟨2,⟨0,0,[],eS0⟩,aI 2⟩])):=Z3l n4 n5 rfl
 have q4:Xq 2 2 ([],0,[aI 2],1,[⟨1,aI 1,⟨0,0,[],eS0⟩⟩,⟨0,aK 1,aK 1⟩,⟨2,⟨0,0,[],eS0⟩,aI 2⟩])=some (.inr ([⟨1,aI 1,⟨0,0,[],eS0⟩⟩,⟨0,aK 1,aK 1⟩,⟨2,⟨0,0,[],eS0⟩,aI 2⟩],true)):=Z3l n6 n7 rfl
 unfold Vs Zdt
 rw [Yu q1,Yu q2,Yu q3,Y0 q4]
 rfl
theorem Z3i {os:List EO} (h:Yj os=some true):Ql (SD 3 4 os []) M0=some (aE os,SD 3 4 os [],M0):=by
 unfold Ql
 rw [show (SD 3 4 os []).left.Ops=os from rfl,h]
 rfl
theorem Ybr:Yj [aI 1,aK 1,aK 1]=some true:=by
 unfold Yj Xl
 rw [Ze8 (k:=4) (by rfl)]
 rfl
theorem Ybs:Yj [aK 1,aK 1,aI 2]=some true:=by
 unfold Yj Xl
 rw [Ze8 (k:=4) (by rfl)]
 rfl
theorem Z8x:Gq (aE [aI 1,aK 1]) (aE [aK 1,aI 2]) M0=some (aE [aI 1,aK 1,aK 1],aE [aK 1,aK 1,aI 2],M0):=Zeg 3 fun k hk=>by
 obtain ⟨k,rfl⟩:∃ j,k=j+1+1+1:=⟨k - 3,by omega⟩
 have hL:(Zo (k+1+1)).2.2.1 (aE [aI 1,aK 1]) (aE [aK 1,aI 2]) M0=some (aE [aI 1,aK 1,aK 1],aE [aK 1,aK 1,aI 2],M0):=by
  rw [Yb0,Yb1]
  unfold K4
  rw [show Vs (aE [aI 1,aK 1]).Ops (aE [aK 1,aI 2]).Ops=_ from Yay,Option.bind_some,Zos,Option.bind_some,Zos,Option.bind_some]
  refine (congrArg (fun z=>Option.bind z _) (Ze8 (k:=5) (r:=(SD 3 4 [aI 1,aK 1] [],SD 3 4 [aK 1,aK 1] [⟨10,[2],[]⟩],[],[],[aI 1,aK 1],[],[],[],[aK 1,aK 1],[⟨10,[2],[]⟩],false,false)) (by rfl))).trans ?_
  rw [Option.bind_some]
  refine (congrArg (fun z=>Option.bind z _) (show _=some (SD 3 4 [aI 1,aK 1,aK 1] [],SD 3 4 [aK 1,aK 1,aI 2] [],M0) from rfl)).trans ?_
  rw [Option.bind_some]
  refine (congrArg (fun z=>Option.bind z _) (Z3i Ybr)).trans ?_
  rw [Option.bind_some]
  refine (congrArg (fun z=>Option.bind z _) (Z3i Ybs)).trans ?_
  rfl
 rw [Ya9]
 unfold J4
 rw [hL]
 rfl
theorem Z3j:V5=some true:=by
 have g1:=Zt8 (os:=[aI 1,aK 1]) (by simp) (by simp) (by simp [Q1,thN,aI,aK])
 have g2:=Zt8 (os:=[aK 1,aI 2]) (by simp) (by simp) (by simp [Q1,thN,aI,aK])
 have g3:=Zt8 (os:=[aI 1,aK 1,aK 1]) (by simp) (by simp) (by simp [Q1,thN,aI,aK])
 have g4:=Zt8 (os:=[aK 1,aK 1,aI 2]) (by simp) (by simp) (by simp [Q1,thN,aI,aK])
 have hv:∀ os:List EO,nE (aE os)=aE (Zf3 4 (Kq os)):=fun os=>(Zm8 (aE os)).trans rfl
 have n1:Zf3 4 (Kq [aI 1,aK 1])=[aI 1,aK 1]:=by simp [Zf3,Kq,aI,aK,stN,s0N,Z8y,NW.flush,Zca,Zdh,Zbh]
 have n2:Zf3 4 (Kq [aK 1,aI 2])=[aK 1,aI 2]:=by simp [Zf3,Kq,aI,aK,stN,s0N,Z8y,NW.flush,Zca,Zdh,Zbh]
 have n3:Zf3 4 (Kq [aI 1,aK 1,aK 1])=[aI 1,aK 2]:=by simp [Zf3,Kq,aI,aK,stN,s0N,Z8y,NW.flush,Zca,Zdh,Zbh]
 have n4:Zf3 4 (Kq [aK 1,aK 1,aI 2])=[aK 2,aI 2]:=by simp [Zf3,Kq,aI,aK,stN,s0N,Z8y,NW.flush,Zca,Zdh,Zbh]
 have e1:Jv (aE [aI 1,aK 1]) (aE [aK 1,aI 2])=some (aE [aI 1,aK 2],aE [aK 2,aI 2],0):=by
  unfold Jv
  rw [Zpc g1.1 g1.2,Option.bind_some,Zpc g2.1 g2.2,Option.bind_some,hv,hv,n1,n2,show (⟨false,false⟩:Zh)=M0 from rfl,Z8x,Option.bind_some]
  show cond false _ (cond false _ _)=_
  rw [cond_false,cond_false]
  simp only
  rw [Zpc g3.1 g3.2,Option.bind_some,Zpc g4.1 g4.2,Option.bind_some,hv,hv,n3,n4]
 unfold V5
 refine (congrArg (fun z=>Option.bind z _) e1).trans ?_
 rfl
theorem Zze {e:Ed} (hb:BE e):U1 e=some true:=by
 obtain ⟨b,h1,h2⟩:=Ya3 hb
 unfold U1
 rw [h1,Option.bind_some]
 cases b with
 | false=>rw [Z3j];rfl
 | true =>
  obtain ⟨r1,r2⟩:=h2 rfl
  have hg:=Z6q _ e 64 (Nat.lt_succ_self _) hb (by omega) r1
  have hs:=Z74 _ e 64 (Nat.lt_succ_self _) hb hg r1
  rw [Bool.not_true,cond_false,Z2i hb hg hs,Option.bind_some]
  refine (congrArg (fun z=>Option.bind z _) (Z2h hb hg)).trans ?_
  rw [Option.bind_some,Ybg hb hg,Option.bind_some]
  simp only
  rw [Z6j (hb.nE hg),Z3j]
  rfl
end Go.Proofs.Ytocpndlnbmjpmaa
