/- Plain facts on this seat's mirrors (part SP3); each theorem bears its own conditions. -/
import Derived.Test.YtkbcdcffpefklaaGreatSP1
namespace Go.Proofs.YtkbcdcffpefklaaGreat
open Go.RowKit
set_option linter.unusedVariables false
set_option linter.unusedSimpArgs false
def Qh (l:List EO):Nat:=(l.map thN).sum
theorem Ycj {rE':Ed→Option Ed} {l:Int} {os:List EO} (hlen:os.length≤1048576) (hsum:Qh os≤1073741824) (hok:∀ o∈os,opk o) (hL:∀ o∈os,∀ t∈o.L,Bd t)
  (hE:∀ o∈os,o.Kind=3→rE' o.E=some (nE o.E)∧BE (nE o.E)) :
  ∃ w',Zs (Um rE' l os) (0,0,[],[],[])=some (w'.kept,w'.out,w'.gone,w'.come)∧WS w' ((Xj os).foldl (Ut l) s0N) os.length (Qh os):=by
 have key:∀ (ys:List EO) (i:Nat) (w:Wr) (s:NW) (S:Nat),os.drop i=ys→i≤os.length→S+Qh ys≤1073741824→WS w s i S →
   ∃ w',Zs (Um rE' l os) ((i:Int),w.kept,w.out,w.gone,w.come)=some (w'.kept,w'.out,w'.gone,w'.come)∧WS w' ((Xj ys).foldl (Ut l) s) os.length (S+Qh ys):=fun ys=>by
  induction ys with
  | nil =>
   intro i w s S hd hi hS hw
   have hil:i=os.length:=by
    have:=List.drop_eq_nil_iff.1 hd
    omega
   subst hil
   exact ⟨w,Y2 (by unfold Um;simp only;rw [Uo,cond_false]),hw⟩
  | cons x ys ih =>
   intro i w s S hd hi hS hw
   have hil:i < os.length:=by
    rcases Nat.lt_or_ge i os.length with h | h
    ·exact h
    rw [List.drop_eq_nil_of_le h] at hd;cases hd
   have hx:os[i]? = some x:=by
    rw [List.drop_eq_getElem_cons hil] at hd
    injection hd with h1 _
    rw [List.getElem?_eq_getElem hil,h1]
   have hd':os.drop (i+1)=ys:=by
    rw [List.drop_eq_getElem_cons hil] at hd
    injection hd
   have hm:=List.mem_of_getElem? hx
   have hsx:Qh (x::ys)=thN x+Qh ys:=by unfold Qh;simp
   rw [hsx] at hS ⊢
   have main:∃ w',(Um rE' l os) ((i:Int),w.kept,w.out,w.gone,w.come)=some (.inl (((i+1:Nat):Int),w'.kept,w'.out,w'.gone,w'.come))∧WS w' (Ut l s (x,nE x.E)) (i+1) (S+thN x):=by
    unfold Um
    simp only
    rw [Ua hil,cond_true,Yf hx,Option.bind_some,Kg (by omega) (by omega)]
    rcases hok x hm with ⟨k,hn⟩ | ⟨k,hn⟩ | ⟨k,hn⟩ | k
    ·have e0:(x.Kind == 0)=true:=by rw [k];rfl
     have ht:thN x=x.N.toNat:=by unfold thN;rw [if_pos k]
     have hst:Ut l s (x,nE x.E)=⟨Q1 s.flush x.N,[],[]⟩:=by
      unfold Ut
      simp only [k,show ¬ (0:Int)=1 from by decide,show ¬ (0:Int)=2 from by decide,if_false,if_true]
     rw [ht] at hS
     obtain ⟨w',h1,h2⟩:=Z74 hw (by omega) (by omega) hn (by omega)
     rw [e0,cond_true,Zlb,h1,ht,hst]
     exact ⟨w',rfl,h2⟩
    ·have e0:(x.Kind == 0)=false:=by rw [k];rfl
     have e1:(x.Kind == 1)=true:=by rw [k];rfl
     have ht:thN x=x.L.length:=by unfold thN;rw [if_neg (by omega),if_neg (by omega)]
     have hst:Ut l s (x,nE x.E)=⟨s.out,s.gone++x.L.map nrm,s.come⟩:=by
      unfold Ut
      simp only [k,if_true]
     rw [ht] at hS
     obtain ⟨w',h1,h2⟩:=Ydc hw (by omega) (by omega) hn (hL x hm)
     rw [e0,e1,cond_false,cond_true,Zlb,h1,ht,hst]
     exact ⟨w',rfl,h2⟩
    ·have e0:(x.Kind == 0)=false:=by rw [k];rfl
     have e1:(x.Kind == 1)=false:=by rw [k];rfl
     have e2:(x.Kind == 2)=true:=by rw [k];rfl
     have ht:thN x=x.L.length:=by unfold thN;rw [if_neg (by omega),if_neg (by omega)]
     have hst:Ut l s (x,nE x.E)=⟨s.out,s.gone,s.come++x.L.map nrm⟩:=by
      unfold Ut
      simp only [k,show ¬ (2:Int)=1 from by decide,if_false,if_true]
     rw [ht] at hS
     obtain ⟨w',h1,h2⟩:=Ydd hw (by omega) (by omega) hn (hL x hm)
     rw [e0,e1,e2,cond_false,cond_false,cond_true,Zlb,h1,ht,hst]
     exact ⟨w',rfl,h2⟩
    have e0:(x.Kind == 0)=false:=by rw [k];rfl
    have e1:(x.Kind == 1)=false:=by rw [k];rfl
    have e2:(x.Kind == 2)=false:=by rw [k];rfl
    have e3:(x.Kind == 3)=true:=by rw [k];rfl
    have ht:thN x=1:=by unfold thN;rw [if_neg (by omega),if_pos k]
    have hst:Ut l s (x,nE x.E)=if Zcj l (nE x.E)=true then ⟨Q1 s.flush 1,[],[]⟩ else ⟨s.flush++[⟨3,0,[],nE x.E⟩],[],[]⟩:=by
     unfold Ut
     simp only [k,show ¬ (3:Int)=1 from by decide,show ¬ (3:Int)=2 from by decide,show ¬ (3:Int)=0 from by decide,if_false]
    obtain ⟨r1,r2⟩:=hE x hm k
    rw [ht] at hS
    obtain ⟨w',h1,h2⟩:=Z6o hw (by omega) (by omega) (l:=l) r2
    rw [e0,e1,e2,e3,cond_false,cond_false,cond_false,cond_true,r1,Option.bind_some,Zlb,h1,ht,hst]
    exact ⟨w',rfl,h2⟩
   obtain ⟨w1,h1,h2⟩:=main
   rw [Y9 h1]
   obtain ⟨w',h3,h4⟩:=ih (i+1) w1 _ (S+thN x) hd' (by omega) (by omega) h2
   exact ⟨w',h3,by rw [← Nat.add_assoc];exact h4⟩
 have:=key os 0 ⟨[],0,[],[]⟩ s0N 0 (by simp) (by omega) (by omega) ⟨Int.le_refl _,fun _=>rfl,fun h=>by simp at h,fun _ o ho=>by simp at ho,by simp,by simp⟩
 simpa using this
theorem Yea {rE':Ed→Option Ed} {rO':Int→List EO→Option (List EO)} {l:Int} {os:List EO} (hlen:os.length≤1048576) (hsum:Qh os≤1073741824) (hok:∀ o∈os,opk o) (hL:∀ o∈os,∀ t∈o.L,Bd t)
  (hE:∀ o∈os,o.Kind=3→rE' o.E=some (nE o.E)∧BE (nE o.E)):Zet rE' rO' l os=some (Zcs l (Xj os)):=by
 obtain ⟨w',h1,h2⟩:=Ycj (l:=l) hlen hsum hok hL hE
 unfold Zet
 rw [h1,Option.bind_some]
 simp only
 rw [Zlb,h2.lay hlen]
 rfl
theorem Ydu {α:Type} {l:List α} {i:Nat} (h:i < l.length):∃ x,l[i]? = some x∧l.drop i=x::l.drop (i+1):=⟨l[i],List.getElem?_eq_getElem h,List.drop_eq_getElem_cons h⟩
theorem Yat {L:List Tr} (hL:∀ t∈L,Bd t) (hl:L.length * 56≤140737488355328):Gw L=some (L.map nrm):=by
 unfold Gw
 rw [Zgx L nrm _ [] (by omega) (fun i x out hi hx hm ho=>by
  unfold Zaa
  simp only
  rw [Ua hi,cond_true,Yf hx,Option.bind_some,Zz4 (hL x hm),Option.bind_some,U4 (by simp at ho ⊢;omega) (by simp at ho ⊢;omega),Option.bind_some]) (fun out=>by
  unfold Zaa
  simp only
  rw [Uo,cond_false])]
 rfl
def Zji (o:EO):Bool:=o.Kind == 1 || o.Kind == 2
def Zed:List EO→Nat
 | []=>0
 | o::os=>if Zji o=true then Zed os+1 else 0
def Zcg (kd:Int):List EO→List Tr
 | []=>[]
 | o::os=>if Zji o=true then (if o.Kind=kd then o.L.map nrm else [])++Zcg kd os else []
theorem Z7y:∀ os:List EO,Zed os≤os.length
 | []=>Nat.le_refl _
 | o::os=>by
  have:=Z7y os
  unfold Zed
  split <;> simp <;> omega
theorem Zy3 (kd:Int):∀ os:List EO,(Zcg kd os).length≤Qh os
 | []=>Nat.zero_le _
 | o::os=>by
  have ih:=Zy3 kd os
  have hs:Qh (o::os)=thN o+Qh os:=by unfold Qh;simp
  unfold Zcg
  by_cases hg:Zji o=true
  ·rw [if_pos hg,hs,List.length_append]
   refine Nat.add_le_add ?_ ih
   unfold Zji at hg
   rw [Bool.or_eq_true,beq_iff_eq,beq_iff_eq] at hg
   unfold thN
   rw [if_neg (by omega:¬ o.Kind=0),if_neg (by omega:¬ o.Kind=3)]
   split <;> simp
  rw [if_neg hg];simp
theorem Z12 {a:List EO} {kd:Int} {i:Nat} (hi:i≤a.length) (hlen:a.length≤1048576) (hsum:Qh a≤1073741824) (hL:∀ o∈a,∀ t∈o.L,Bd t) (hLl:∀ o∈a,o.L.length * 56≤140737488355328) :
  Gf a (i:Int) kd=some (Zcg kd (a.drop i),((i+Zed (a.drop i):Nat):Int)):=by
 have key:∀ (ys:List EO) (i:Nat) (acc:List Tr),a.drop i=ys→i≤a.length→acc.length+Qh ys≤1073741824 →
   Zs (Qn a kd) ((i:Int),acc)=some (((i+Zed ys:Nat):Int),acc++Zcg kd ys):=fun ys=>by
  induction ys with
  | nil =>
   intro i acc hd hi _
   have hil:i=a.length:=by have:=List.drop_eq_nil_iff.1 hd;omega
   subst hil
   refine Y2 ?_
   unfold Qn
   simp only
   rw [Uo,cond_false,Option.bind_some,cond_false]
   simp [Zed,Zcg]
  | cons x ys ih =>
   intro i acc hd hi hS
   have hil:i < a.length:=by
    rcases Nat.lt_or_ge i a.length with h | h
    ·exact h
    rw [List.drop_eq_nil_of_le h] at hd;cases hd
   have hx:a[i]? = some x:=by
    rw [List.drop_eq_getElem_cons hil] at hd
    injection hd with h1 _
    rw [List.getElem?_eq_getElem hil,h1]
   have hd':a.drop (i+1)=ys:=by
    rw [List.drop_eq_getElem_cons hil] at hd
    injection hd
   have hm:=List.mem_of_getElem? hx
   have hsx:Qh (x::ys)=thN x+Qh ys:=by unfold Qh;simp
   rw [hsx] at hS
   have hz:(cond (decide ((i:Int) < (a.length:Int))) ((Yx a (i:Int)).bind fun x10=>cond (x10.Kind == 1) (some (cond (decide ((i:Int) < (a.length:Int))) true false)) (some (cond (decide ((i:Int) < (a.length:Int))) (cond (x10.Kind == 1) true (x10.Kind == 2)) false))) (some false))=some (Zji x):=by
    rw [Ua hil,cond_true,Yf hx,Option.bind_some]
    unfold Zji
    cases x.Kind == 1 <;> cases x.Kind == 2 <;> rfl
   by_cases hg:Zji x=true
   ·have hth:thN x=x.L.length:=by
     unfold Zji at hg
     rw [Bool.or_eq_true,beq_iff_eq,beq_iff_eq] at hg
     unfold thN
     rw [if_neg (by omega),if_neg (by omega)]
    have hst:Qn a kd ((i:Int),acc)=some (.inl (((i+1:Nat):Int),acc++(if x.Kind=kd then x.L.map nrm else []))):=by
     unfold Qn
     simp only
     rw [hz,Option.bind_some,hg,cond_true,Yf hx,Option.bind_some,Option.bind_some,Yat (hL x hm) (hLl x hm),Option.bind_some,Kg (by omega) (by omega)]
     rw [U4 (by simp;omega) (by simp;omega)]
     by_cases hk:x.Kind=kd
     ·rw [if_pos hk,hk];simp
     rw [if_neg hk,beq_eq_false_iff_ne.2 hk];simp
    rw [Y9 hst]
    rw [ih (i+1) _ hd' (by omega) (by
     rw [List.length_append]
     have:(if x.Kind=kd then x.L.map nrm else ([]:List Tr)).length≤x.L.length:=by split <;> simp
     omega)]
    simp only [Zed,Zcg,if_pos hg,List.append_assoc]
    congr 2
    omega
   have hst:Qn a kd ((i:Int),acc)=some (.inr ((i:Int),acc)):=by
    unfold Qn
    simp only
    have:Zji x=false:=by simpa using hg
    rw [hz,Option.bind_some,this,cond_false]
   rw [Y2 hst]
   simp [Zed,Zcg,hg]
 unfold Gf
 rw [key _ i [] rfl hi (by
  have:Qh (a.drop i)≤Qh a:=by
   conv=>rhs;rw [← List.take_append_drop i a]
   unfold Qh
   rw [List.map_append,List.sum_append]
   omega
  simp;omega),Option.bind_some]
 simp
theorem Z4w (l:Int):∀ (ys:List EO) (s:NW),(Xj ys).foldl (Ut l) s=(Xj (ys.drop (Zed ys))).foldl (Ut l) ⟨s.out,s.gone++Zcg 1 ys,s.come++Zcg 2 ys⟩
 | [],s=>by simp [Zed,Zcg]
 | o::os,s=>by
  by_cases hg:Zji o=true
  ·have hg':=hg
   unfold Zji at hg'
   rw [Bool.or_eq_true,beq_iff_eq,beq_iff_eq] at hg'
   simp only [Zed,Zcg,if_pos hg,List.drop_succ_cons]
   show (Xj os).foldl (Ut l) (Ut l s (o,nE o.E))=_
   rw [Z4w l os]
   unfold Ut
   rcases hg' with h | h
   ·simp [h]
   simp [h]
  simp [Zed,Zcg,hg]
theorem Z7x:∀ {ys:List EO} {o:EO},(ys.drop (Zed ys))[0]? = some o→Zji o=false
 | [],o,h=>by simp [Zed] at h
 | x::ys,o,h=>by
  by_cases hg:Zji x=true
  ·simp only [Zed,if_pos hg,List.drop_succ_cons] at h
   exact Z7x h
  simp only [Zed,if_neg hg,List.drop_zero,List.getElem?_cons_zero,Option.some.injEq] at h
  subst h
  simpa using hg
theorem Z50 (l:Int) (e:Ed):Uh l e=some (Zcj l e):=by
 unfold Uh Zcj
 rw [Z2e,Z2e]
 cases e.Kind == 0 <;> cases l == 9 <;> cases e.Kind == 2 <;> cases e.Words.length == 0 <;> cases e.Kids.length == 0 <;> rfl
theorem Z1x (e:Ed):(⟨e.Kind,⟨e.Old.Kind,e.Old.Words,e.Old.Kids⟩,⟨e.New.Kind,e.New.Words,e.New.Kids⟩,e.Words,e.Kids,e.List_,e.Ops⟩:Ed)=e:=by
 obtain ⟨k,⟨a,b,c⟩,⟨d,f,g⟩,w,ks,li,os⟩:=e
 rfl
theorem Z8n {out:List EO} {n tt:Int} (hlen:(out.length+1) * 240≤140737488355328) (hn:0≤n∧n≤1073741824) (hN:∀ o,out.getLast? = some o→o.Kind=0→0≤o.N∧o.N≤1073741824) :
  (cond ((0:Int) == 0) (cond (decide (0 < (out.length:Int))) ((Yx out (IntKind.i64.wrap ((out.length:Int) - 1))).bind fun x36=>some (cond (cond ((0:Int) == 0) (decide (0 < (out.length:Int))) false) (x36.Kind == 0) false)) (some false)) (some false)).bind (fun (z33:Bool)=>cond z33 ((Yx out (IntKind.i64.wrap ((out.length:Int) - 1))).bind fun x40=>some (.inl (tt,Zlw out (IntKind.i64.wrap ((out.length:Int) - 1)) (⟨x40.Kind,(IntKind.i64.wrap (x40.N+n)),x40.L,x40.E⟩:EO)))) ((Vr 240 out [(⟨0,n,[],eS0⟩:EO)]).bind fun l44=>some (.inl (tt,l44))))=(some (.inl (tt,Q1 out n)):Option ((Int×List EO) ⊕ List EO)):=by
 rw [show ((0:Int) == 0)=true from rfl,cond_true]
 cases hl:out.getLast? with
 | none =>
  have:=List.getLast?_eq_none_iff.1 hl
  subst this
  rfl
 | some o =>
  obtain ⟨o',ho⟩:=List.getLast?_eq_some_iff.1 hl
  have hlen':out.length=o'.length+1:=by rw [ho];simp
  have hpos:decide (0 < (out.length:Int))=true:=by rw [decide_eq_true_eq];omega
  have hw:IntKind.i64.wrap ((out.length:Int) - 1)=(o'.length:Int):=by rw [Kg (by omega) (by omega)];omega
  have hg:Yx out (o'.length:Int)=some o:=Yf (by rw [ho];simp)
  rw [hpos,cond_true,hw,hg,Option.bind_some,Option.bind_some,Option.bind_some]
  unfold Q1
  rw [hl]
  simp only
  by_cases hk:o.Kind=0
  ·have hN':=hN o hl hk
   have e:(o.Kind == 0)=true:=by rw [hk];rfl
   rw [e,if_pos hk]
   simp only [cond_true]
   rw [Kg (by omega) (by omega),hk]
   unfold Zlw
   rw [ho,Int.toNat_natCast]
   simp
  rw [beq_eq_false_iff_ne.2 hk,if_neg hk]
  simp only [cond_true,cond_false]
  rw [U4 (by simp;omega) (by simp;omega),Option.bind_some]
theorem Zz0 {out:List EO} {n:Int} {S:Nat} (hn:0≤n) (hN:∀ o,out.getLast? = some o→o.Kind=0→0≤o.N∧o.N≤S):∀ o,(Q1 out n).getLast? = some o→o.Kind=0→0≤o.N∧o.N≤S+n:=fun o ho hk=>by
 unfold Q1 at ho
 cases hl:out.getLast? with
 | none=>rw [hl] at ho;simp at ho;subst ho;simp only;omega
 | some x =>
  rw [hl] at ho
  simp only at ho
  split at ho
  ·rename_i hx
   have:=hN x hl hx
   simp at ho;subst ho;simp only;omega
  simp at ho;subst ho;simp only;omega
theorem Zu8 (out:List EO) (n:Int):(Q1 out n).length≤out.length+1:=by
 unfold Q1
 split
 ·split <;> simp
 simp
theorem Z7g (ys:List EO) (k:Nat):Qh ys=Qh (ys.take k)+Qh (ys.drop k):=by
 conv=>lhs;rw [← List.take_append_drop k ys]
 unfold Qh
 rw [List.map_append,List.sum_append]
theorem Z1g {rE':Ed→Option Ed} {l:Int} {a:List EO} (hlen:a.length≤1048576) (hsum:Qh a≤1073741824) (hok:∀ o∈a,opk o) (hL:∀ o∈a,∀ t∈o.L,Bd t) (hLl:∀ o∈a,o.L.length * 56≤140737488355328)
  (hE:∀ o∈a,o.Kind=3→rE' o.E=some (nE o.E)) :
  ∀ (m i:Nat) (out:List EO) (S:Nat),a.length - i < m→i≤a.length→out.length≤3 * i→(∀ o,out.getLast? = some o→o.Kind=0→0≤o.N∧o.N≤S)→S+Qh (a.drop i)≤1073741824 →
  ∃ r:List EO ⊕ List EO,Zs (Xu rE' l a) ((i:Int),out)=some r∧Sum.elim id id r=((Xj (a.drop i)).foldl (Ut l) ⟨out,[],[]⟩).flush
 | 0,_,_,_,h,_,_,_,_=>by omega
 | m+1,i,out,S,hm,hi,hol,hN,hS=>by
  by_cases hil:i < a.length
  ·have hgn:=Z7y (a.drop i)
   rw [List.length_drop] at hgn
   have hg1:=Zy3 1 (a.drop i)
   have hg2:=Zy3 2 (a.drop i)
   have hFe:out++Un (Zcg 1 (a.drop i))++Zau (Zcg 2 (a.drop i))=(⟨out,Zcg 1 (a.drop i),Zcg 2 (a.drop i)⟩:NW).flush:=by unfold NW.flush;rw [List.append_assoc]
   have hd1:(Un (Zcg 1 (a.drop i))).length≤1:=by unfold Un;split <;> simp
   have hd2:(Zau (Zcg 2 (a.drop i))).length≤1:=by unfold Zau;split <;> simp
   have hFl:(⟨out,Zcg 1 (a.drop i),Zcg 2 (a.drop i)⟩:NW).flush.length≤3 * i+2:=by
    rw [← hFe,List.length_append,List.length_append];omega
   have hFN:∀ o,(⟨out,Zcg 1 (a.drop i),Zcg 2 (a.drop i)⟩:NW).flush.getLast? = some o→o.Kind=0→0≤o.N∧o.N≤S:=fun o ho hk=>by
    rcases Zl9 ho with h12 | ⟨_,_,g3⟩
    ·omega
    exact hN o g3 hk
   have z6:(cond (decide (0 < ((Zcg 1 (a.drop i)).length:Int))) ((Vr 240 out ([(⟨1,0,Zcg 1 (a.drop i),eS0⟩:EO)])).bind fun l7=>some l7) (some out))=some (out++Un (Zcg 1 (a.drop i))):=by
    by_cases h:Zcg 1 (a.drop i)=[]
    ·rw [h];simp [Un]
    have:decide (0 < ((Zcg 1 (a.drop i)).length:Int))=true:=by rw [decide_eq_true_eq];have:=List.length_pos_iff.2 h;omega
    rw [this,cond_true,U4 (by simp;omega) (by simp;omega),Zhy h];rfl
   have z9:(cond (decide (0 < ((Zcg 2 (a.drop i)).length:Int))) ((Vr 240 (out++Un (Zcg 1 (a.drop i))) ([(⟨2,0,Zcg 2 (a.drop i),eS0⟩:EO)])).bind fun l10=>some l10) (some (out++Un (Zcg 1 (a.drop i)))))=some (⟨out,Zcg 1 (a.drop i),Zcg 2 (a.drop i)⟩:NW).flush:=by
    rw [← hFe]
    by_cases h:Zcg 2 (a.drop i)=[]
    ·rw [h];simp [Zau]
    have:decide (0 < ((Zcg 2 (a.drop i)).length:Int))=true:=by rw [decide_eq_true_eq];have:=List.length_pos_iff.2 h;omega
    have hl':(out++Un (Zcg 1 (a.drop i))).length≤out.length+1:=by rw [List.length_append];omega
    rw [this,cond_true,U4 (by simp only [List.length_singleton];omega) (by simp only [List.length_singleton];omega),Zhz h];rfl
   have hfold:=Z4w l (a.drop i) ⟨out,[],[]⟩
   simp only [List.nil_append] at hfold
   rw [List.drop_drop] at hfold
   generalize hF:(⟨out,Zcg 1 (a.drop i),Zcg 2 (a.drop i)⟩:NW).flush=F at *
   by_cases hto:a.length≤i+Zed (a.drop i)
   ·refine ⟨.inl F,Y2 ?_,?_⟩
    ·unfold Xu
     simp only
     rw [Ua hil,cond_true,Z12 hi hlen hsum hL hLl,Z12 hi hlen hsum hL hLl]
     simp only [Option.bind_some]
     refine Option.bind_eq_some_iff.2 ⟨.inr F,?_,rfl⟩
     refine Option.bind_eq_some_iff.2 ⟨_,z6,?_⟩
     refine Option.bind_eq_some_iff.2 ⟨_,z9,?_⟩
     rw [decide_eq_true (by omega:(a.length:Int)≤((i+Zed (a.drop i):Nat):Int)),cond_true]
    rw [hfold,List.drop_eq_nil_of_le hto]
    exact hF.symm
   obtain ⟨o,ho,hod⟩:=Ydu (show i+Zed (a.drop i) < a.length by omega)
   have hom:=List.mem_of_getElem? ho
   have hng:Zji o=false:=Z7x (ys:=a.drop i) (by rw [List.drop_drop,hod];rfl)
   have hsp:=Z7g (a.drop i) (Zed (a.drop i))
   rw [List.drop_drop,hod] at hsp
   have hso:Qh (o::a.drop (i+Zed (a.drop i)+1))=thN o+Qh (a.drop (i+Zed (a.drop i)+1)):=by unfold Qh;simp
   rw [hso] at hsp
   have go:∀ (out':List EO) (n':Int),0≤n'→n'≤(thN o:Nat)→out'.length≤3 * (i+Zed (a.drop i)+1)→(∀ x,out'.getLast? = some x→x.Kind=0→0≤x.N∧x.N≤S+n')→Ut l ⟨out,Zcg 1 (a.drop i),Zcg 2 (a.drop i)⟩ (o,nE o.E)=⟨out',[],[]⟩ →
     Xu rE' l a ((i:Int),out)=some (.inl (((i+Zed (a.drop i)+1:Nat):Int),out')) →
     ∃ r:List EO ⊕ List EO,Zs (Xu rE' l a) ((i:Int),out)=some r∧Sum.elim id id r=((Xj (a.drop i)).foldl (Ut l) ⟨out,[],[]⟩).flush:=fun out' n' hn0 hn1 h1 h2 h3 h4=>by
    obtain ⟨r,hr1,hr2⟩:=Z1g hlen hsum hok hL hLl hE m (i+Zed (a.drop i)+1) out' (S+thN o) (by omega) (by omega) h1 (fun x hx hk=>by have:=h2 x hx hk;omega) (by omega)
    refine ⟨r,by rw [Y9 h4];exact hr1,?_⟩
    rw [hr2,hfold,hod]
    show _=((Xj _).foldl (Ut l) (Ut l _ (o,nE o.E))).flush
    rw [h3]
   have start:∀ (z1:Int×List EO),(((Yx a ((i+Zed (a.drop i):Nat):Int)).bind fun x19=>cond (x19.Kind == 3) ((Yx a ((i+Zed (a.drop i):Nat):Int)).bind fun x24=>(rE' x24.E).bind fun y26=>(Uh l y26).bind fun y28=>cond y28 (some ((0:Int),(1:Int),(0:Int),(0:Int),([]:(List Int)),([]:(List Zc)),(0:Int),([]:(List Int)),([]:(List Zc)),([]:(List Zu)),([]:(List Zj)),(0:Int),([]:(List Zg)))) (some (3,0,y26.Kind,y26.Old.Kind,y26.Old.Words,y26.Old.Kids,y26.New.Kind,y26.New.Words,y26.New.Kids,y26.Words,y26.Kids,y26.List_,y26.Ops))) (some (0,o.N,0,0,([]:(List Int)),([]:(List Zc)),0,([]:(List Int)),([]:(List Zc)),([]:(List Zu)),([]:(List Zj)),0,([]:(List Zg))))).bind fun (z16:(Int×Int×Int×Int×(List Int)×(List Zc)×Int×(List Int)×(List Zc)×(List Zu)×(List Zj)×Int×(List Zg)))=>(cond (z16.1 == 0) (cond (decide (0 < (F.length:Int))) ((Yx F (IntKind.i64.wrap ((F.length:Int) - 1))).bind fun x36=>some (cond (cond (z16.1 == 0) (decide (0 < (F.length:Int))) false) (x36.Kind == 0) false)) (some false)) (some false)).bind fun (z33:Bool)=>cond z33 ((Yx F (IntKind.i64.wrap ((F.length:Int) - 1))).bind fun x40=>some (.inl (((i+Zed (a.drop i):Nat):Int),(Zlw F (IntKind.i64.wrap ((F.length:Int) - 1)) (⟨x40.Kind,(IntKind.i64.wrap (x40.N+z16.2.1)),x40.L,x40.E⟩:Zg))))) ((Vr 240 F ([(⟨z16.1,z16.2.1,([]:(List Zc)),(⟨z16.2.2.1,(⟨z16.2.2.2.1,z16.2.2.2.2.1,z16.2.2.2.2.2.1⟩:Zc),(⟨z16.2.2.2.2.2.2.1,z16.2.2.2.2.2.2.2.1,z16.2.2.2.2.2.2.2.2.1⟩:Zc),z16.2.2.2.2.2.2.2.2.2.1,z16.2.2.2.2.2.2.2.2.2.2.1,z16.2.2.2.2.2.2.2.2.2.2.2.1,z16.2.2.2.2.2.2.2.2.2.2.2.2⟩:Zb)⟩:Zg)]:List Zg)).bind fun l44=>some (.inl (((i+Zed (a.drop i):Nat):Int),l44))))=(some (.inl z1):Option ((Int×List EO) ⊕ List EO)) →
     Xu rE' l a ((i:Int),out)=some (.inl (IntKind.i64.wrap (z1.1+1),z1.2)):=fun z1 hz=>by
    unfold Xu
    simp only
    rw [Ua hil,cond_true,Z12 hi hlen hsum hL hLl,Z12 hi hlen hsum hL hLl]
    simp only [Option.bind_some]
    refine Option.bind_eq_some_iff.2 ⟨.inl z1,?_,rfl⟩
    refine Option.bind_eq_some_iff.2 ⟨_,z6,?_⟩
    refine Option.bind_eq_some_iff.2 ⟨_,z9,?_⟩
    rw [decide_eq_false (by omega:¬ (a.length:Int)≤((i+Zed (a.drop i):Nat):Int)),cond_false,Yf ho,Option.bind_some]
    rw [Yf ho] at hz
    exact hz
   have hwr:IntKind.i64.wrap (((i+Zed (a.drop i):Nat):Int)+1)=((i+Zed (a.drop i)+1:Nat):Int):=by rw [Kg (by omega) (by omega)];omega
   unfold Zji at hng
   rw [Bool.or_eq_false_iff,beq_eq_false_iff_ne,beq_eq_false_iff_ne] at hng
   rcases hok o hom with ⟨k,hn⟩ | ⟨k,_⟩ | ⟨k,_⟩ | k
   ·have hth:thN o=o.N.toNat:=by unfold thN;rw [if_pos k]
    have hp:=Zu8 F o.N
    refine go (Q1 F o.N) o.N (by omega) (by omega) (by omega) (Zz0 (by omega) hFN) ?_ ?_
    ·unfold Ut
     simp only [k,show ¬ (0:Int)=1 from by decide,show ¬ (0:Int)=2 from by decide,if_false,if_true]
     rw [hF]
    have:=start (((i+Zed (a.drop i):Nat):Int),Q1 F o.N) (by
     rw [Yf ho,Option.bind_some,k]
     exact Z8n (n:=o.N) (by omega) (by omega) (fun x hx hk=>by have:=hFN x hx hk;omega))
    rw [this]
    simp only
    rw [hwr]
   ·omega
   ·omega
   have hth:thN o=1:=by unfold thN;rw [if_neg (by omega),if_pos k]
   have e3:(o.Kind == 3)=true:=by rw [k];rfl
   cases hid:Zcj l (nE o.E) with
   | true =>
    have hp:=Zu8 F 1
    refine go (Q1 F 1) 1 (by omega) (by omega) (by omega) (Zz0 (by omega) hFN) ?_ ?_
    ·unfold Ut
     simp only [k,show ¬ (3:Int)=1 from by decide,show ¬ (3:Int)=2 from by decide,show ¬ (3:Int)=0 from by decide,if_false,hid,if_true]
     rw [hF]
    have:=start (((i+Zed (a.drop i):Nat):Int),Q1 F 1) (by
     rw [Yf ho,Option.bind_some,e3,cond_true,Option.bind_some,hE o hom k,Option.bind_some,Z50,Option.bind_some,hid,cond_true]
     exact Z8n (n:=1) (by omega) (by omega) (fun x hx hk=>by have:=hFN x hx hk;omega))
    rw [this]
    simp only
    rw [hwr]
   | false =>
    refine go (F++[⟨3,0,[],nE o.E⟩]) 1 (by omega) (by omega) (by simp;omega) (fun x hx hk=>by simp at hx;subst hx;simp at hk) ?_ ?_
    ·unfold Ut
     simp only [k,show ¬ (3:Int)=1 from by decide,show ¬ (3:Int)=2 from by decide,show ¬ (3:Int)=0 from by decide,if_false,hid]
     rw [hF]
     simp
    have:=start (((i+Zed (a.drop i):Nat):Int),F++[⟨3,0,[],nE o.E⟩]) (by
     rw [Yf ho,Option.bind_some,e3,cond_true,Option.bind_some,hE o hom k,Option.bind_some,Z50,Option.bind_some,hid,cond_false,Option.bind_some]
     simp only [show ((3:Int) == 0)=false from rfl,cond_false,Option.bind_some]
     rw [Z1x,U4 (by simp;omega) (by simp;omega),Option.bind_some])
    rw [this]
    simp only
    rw [hwr]
  have hil':i=a.length:=by omega
  subst hil'
  refine ⟨.inr out,Y2 (by unfold Xu;simp only;rw [Uo,cond_false]),?_⟩
  rw [List.drop_length]
  unfold NW.flush
  simp [Xj,Un,Zau]
theorem Ycv {rE':Ed→Option Ed} {rO':Int→List EO→Option (List EO)} {l:Int} {a:List EO} (hlen:a.length≤1048576) (hsum:Qh a≤1073741824) (hok:∀ o∈a,opk o) (hL:∀ o∈a,∀ t∈o.L,Bd t) (hLl:∀ o∈a,o.L.length * 56≤140737488355328)
  (hE:∀ o∈a,o.Kind=3→rE' o.E=some (nE o.E)):Gd rE' rO' l a=some (Zcs l (Xj a)):=by
 obtain ⟨r,h1,h2⟩:=Z1g (l:=l) hlen hsum hok hL hLl hE (a.length+1) 0 [] 0 (by omega) (by omega) (by simp) (fun o ho=>by simp at ho) (by simpa using hsum)
 unfold Gd
 have h1':Zs (Xu rE' l a) (0,[])=some r:=h1
 rw [h1',Option.bind_some]
 rw [List.drop_zero] at h2
 unfold Zcs
 show _=some (((Xj a).foldl (Ut l) ⟨[],[],[]⟩).flush)
 rw [← h2]
 cases r <;> rfl
inductive GN:Ed→Prop
 | mk (e:Ed) (hw:e.Words.length≤1048576) (hk:e.Kids.length≤1048576) (ho:e.Ops.length≤1048576) (hs:Qh e.Ops≤1073741824) (hp:∀ o∈e.Ops,opk o) (ik:∀ k∈e.Kids,GN k.E) (io:∀ o∈e.Ops,GN o.E):GN e
theorem GN.w {e:Ed} (h:GN e):e.Words.length≤1048576:=by cases h;assumption
theorem GN.k {e:Ed} (h:GN e):e.Kids.length≤1048576:=by cases h;assumption
theorem GN.o {e:Ed} (h:GN e):e.Ops.length≤1048576:=by cases h;assumption
theorem GN.s {e:Ed} (h:GN e):Qh e.Ops≤1073741824:=by cases h;assumption
theorem GN.p {e:Ed} (h:GN e):∀ o∈e.Ops,opk o:=by cases h;assumption
theorem GN.ks {e:Ed} (h:GN e):∀ k∈e.Kids,GN k.E:=by cases h;assumption
theorem GN.os {e:Ed} (h:GN e):∀ o∈e.Ops,GN o.E:=by cases h;assumption
theorem Ydz {e:Ed} (h:Zcw e=true):GN e:=by
 unfold Zcw Zio Zib at h
 simp only [Bool.and_eq_true,beq_iff_eq] at h
 obtain ⟨_,_,⟨h1,h2⟩,_,h3⟩:=h
 have w:=List.eq_nil_of_length_eq_zero h1
 have k:=List.eq_nil_of_length_eq_zero h2
 have o:=List.eq_nil_of_length_eq_zero h3
 exact .mk _ (by rw [w];simp) (by rw [k];simp) (by rw [o];simp) (by rw [o];simp [Qh]) (by rw [o];simp) (by rw [k];simp) (by rw [o];simp)
theorem Zzb:GN eS0 := .mk _ (by simp [eS0]) (by simp [eS0]) (by simp [eS0]) (by simp [eS0,Qh]) (by simp [eS0]) (by simp [eS0]) (by simp [eS0])
theorem Zkb:Bd n0T := .mk _ (by simp [n0T]) (by simp [n0T]) (by simp [n0T]) (by simp [n0T])
theorem Zys:BE eS0 := .mk _ Zkb Zkb (by simp [eS0]) (by simp [eS0]) (by simp [eS0]) (by simp [eS0]) (by simp [eS0]) (by simp [eS0]) (by simp [eS0])
theorem Z9q {l:Int} {o:EO} {r:Bool} (h:okO l o r=true):((thN o:Nat):Int)=thr o:=by
 unfold okO at h
 unfold thN thr
 by_cases h0:o.Kind=0
 ·rw [if_pos h0] at h
  simp only [Bool.and_eq_true,decide_eq_true_eq] at h
  rw [if_pos h0,if_pos h0]
  split <;> split at * <;> omega
 rw [if_neg h0] at h ⊢
 rw [if_neg h0]
 by_cases h12:o.Kind=1∨o.Kind=2
 ·rw [if_pos h12,if_neg (by omega)]
 rw [if_neg h12] at h ⊢
 by_cases h3:o.Kind=3
 ·rw [if_pos h3,if_pos h3];rfl
 rw [if_neg h3] at h;cases h
theorem Yed {l:Int} {o:EO} {r:Bool} (h:okO l o r=true):opk o:=by
 unfold okO at h
 unfold opk
 by_cases h0:o.Kind=0
 ·rw [if_pos h0] at h
  simp only [Bool.and_eq_true,decide_eq_true_eq] at h
  exact .inl ⟨h0,h.1.1⟩
 rw [if_neg h0] at h
 by_cases h12:o.Kind=1∨o.Kind=2
 ·rw [if_pos h12] at h
  simp only [Bool.and_eq_true,decide_eq_true_eq] at h
  have hne:o.L≠[]:=by
   intro he
   rw [he] at h
   simp at h
  rcases h12 with h1 | h2
  ·exact .inr (.inl ⟨h1,hne⟩)
  exact .inr (.inr (.inl ⟨h2,hne⟩))
 rw [if_neg h12] at h
 by_cases h3:o.Kind=3
 ·exact .inr (.inr (.inr h3))
 rw [if_neg h3] at h;cases h
theorem Z56 {l:Int} (r:EO→Bool):∀ (os:List EO) (s:Int×Int),Sm s→(∀ o∈os,okO l o (r o)=true)→(∀ o∈os,o.L.length * 56≤140737488355328)→Zh6 (os.foldl stI s)=true→s.1+s.2+((Qh os:Nat):Int)≤(os.foldl stI s).1+(os.foldl stI s).2
 | [],s,_,_,_,_=>by simp [Qh]
 | o::os,s,hs,h,hl,hb=>by
  have hsm:=Zve hs (hl o (.head _))
  have hup:=Z10 os (stI s o) hsm (fun x hx=>hl x (.tail _ hx))
  have ih:=Z56 r os (stI s o) hsm (fun x hx=>h x (.tail _ hx)) (fun x hx=>hl x (.tail _ hx)) hb
  have hso:Qh (o::os)=thN o+Qh os:=by unfold Qh;simp
  have ht:=Z9q (h o (.head _))
  rw [List.foldl_cons] at hb ⊢
  unfold Zh6 at hb
  rw [Bool.and_eq_true,decide_eq_true_eq,decide_eq_true_eq] at hb
  have n1:(stI s o).1≠1048576:=fun he=>by have:=hup.1 he;omega
  have n2:(stI s o).2≠1048576:=fun he=>by have:=hup.2 he;omega
  have key:s.1+s.2+thr o≤(stI s o).1+(stI s o).2:=by
   have hth:0≤thr o:=by omega
   unfold stI Zfe at n1 n2 ⊢
   simp only at n1 n2 ⊢
   by_cases k2:o.Kind=2
   ·rw [if_neg (by omega:¬ o.Kind=1)] at n2 ⊢
    rw [if_pos k2]
    split at n2
    ·omega
    rename_i h5;rw [if_neg h5];omega
   rw [if_neg k2] at n1 ⊢
   split at n1
   ·omega
   rename_i h5
   rw [if_neg h5]
   by_cases k1:o.Kind=1
   ·rw [if_pos k1];omega
   rw [if_neg k1] at n2 ⊢
   split at n2
   ·omega
   rename_i h6;rw [if_neg h6];omega
  rw [hso]
  omega
theorem Zlm {α:Type} {f:α→Nat} {x:α}:∀ {l:List α},x∈l→f x≤(l.map f).sum
 | y::l,h=>by
  rw [List.map_cons,List.sum_cons]
  rcases List.mem_cons.1 h with rfl | h
  ·omega
  have:=Zlm (f:=f) h;omega
theorem Z5f {α:Type} {f:α→Nat}:∀ {l:List α},(∀ x∈l,1≤f x)→l.length≤(l.map f).sum
 | [],_=>Nat.le_refl _
 | y::l,h=>by
  rw [List.map_cons,List.sum_cons,List.length_cons]
  have:=Z5f (f:=f) (l:=l) fun x hx=>h x (by simp [hx])
  have:=h y (by simp)
  omega
theorem Z1u (e:Ed):1≤ce e:=by rw [Zit];omega
theorem Ybo:∀ (n:Nat) (e:Ed) (d:Nat),SizeOf.sizeOf e < n→BE e→ce e≤1000000→rE e d=true→GN e
 | 0,_,_,h,_,_,_=>by omega
 | n+1,e,d,hn,hb,hc,h=>by
  have hc':=hc
  rw [Zit] at hc'
  have hk1:e.Kids.length≤(e.Kids.map fun k=>ce k.E).sum:=Z5f fun x _=>Z1u _
  have hlens:=Yei hb h
  have hparts:(∀ k∈e.Kids,∃ d',rE k.E d'=true)∧(∀ o∈e.Ops,opk o∧(Zcw o.E=true∨∃ d',rE o.E d'=true))∧Qh e.Ops≤2097152:=by
   rw [Zgf] at h
   by_cases hd:d=0
   ·rw [if_pos hd] at h;cases h
   rw [if_neg hd] at h
   by_cases h0:e.Kind=0
   ·rw [if_pos h0] at h
    unfold Zcw Zio Zib at h
    simp only [Bool.and_eq_true,beq_iff_eq] at h
    obtain ⟨_,_,⟨h1,h2⟩,_,h3⟩:=h
    rw [List.eq_nil_of_length_eq_zero h2,List.eq_nil_of_length_eq_zero h3]
    simp [Qh]
   rw [if_neg h0] at h
   by_cases h1:e.Kind=1
   ·rw [if_pos h1] at h
    unfold Zio Zib at h
    simp only [Bool.and_eq_true,beq_iff_eq] at h
    rw [List.eq_nil_of_length_eq_zero h.1.1.2,List.eq_nil_of_length_eq_zero h.1.2.2]
    simp [Qh]
   rw [if_neg h1] at h
   by_cases h2:e.Kind=2
   ·rw [if_pos h2] at h
    unfold Zib at h
    simp only [Bool.and_eq_true,beq_iff_eq] at h
    rw [List.eq_nil_of_length_eq_zero h.1.2.2]
    refine ⟨fun k hk=>⟨d - 1,?_⟩,by simp,by simp [Qh]⟩
    exact Z1w (Q:=fun k:Zj=>rE k.E (d - 1)=true) (fun p x hx=>by
     unfold okK okP at hx
     simp only [Bool.and_eq_true] at hx
     exact hx.2.2) e.Kids (-1) h.2.2 k hk
   rw [if_neg h2] at h
   by_cases h3:e.Kind=3
   ·rw [if_pos h3] at h
    unfold Zio at h
    rw [Bool.and_eq_true,Bool.and_eq_true,Bool.and_eq_true,Bool.and_eq_true,Bool.and_eq_true,Bool.and_eq_true,beq_iff_eq,beq_iff_eq,List.all_eq_true] at h
    obtain ⟨⟨_,_,hk⟩,_,hall,hB⟩:=h
    rw [List.eq_nil_of_length_eq_zero hk]
    refine ⟨by simp,fun o ho=>⟨Yed (hall o ho),?_⟩,?_⟩
    ·have:=hall o ho
     unfold okO at this
     by_cases k0:o.Kind=0
     ·rw [if_pos k0] at this
      simp only [Bool.and_eq_true] at this
      exact .inl this.2.2
     rw [if_neg k0] at this
     by_cases k12:o.Kind=1∨o.Kind=2
     ·rw [if_pos k12] at this
      simp only [Bool.and_eq_true] at this
      exact .inl this.2.2.2
     rw [if_neg k12] at this
     by_cases k3:o.Kind=3
     ·rw [if_pos k3] at this
      simp only [Bool.and_eq_true] at this
      exact .inr ⟨d - 1,this.2.2.2.2⟩
     rw [if_neg k3] at this;cases this
    rw [hlens] at hB
    have:=Z56 (l:=e.List_) (fun o=>rE o.E (d - 1)) e.Ops (0,0) ⟨⟨by decide,by decide⟩,by decide,by decide⟩ hall (fun o ho=>(hb.l o ho).1) hB
    unfold Zh6 at hB
    rw [Bool.and_eq_true,decide_eq_true_eq,decide_eq_true_eq] at hB
    simp only at this
    omega
   rw [if_neg h3] at h;cases h
  refine .mk _ (by omega) (by omega) (by omega) (by omega) (fun o ho=>(hparts.2.1 o ho).1) (fun k hk => ?_) (fun o ho => ?_)
  ·obtain ⟨d',hd'⟩:=hparts.1 k hk
   have:=Zlm (f:=fun k:Zj=>ce k.E) hk
   exact Ybo n k.E d' (by have:=Q6 hk;omega) (hb.ks k hk) (by omega) hd'
  rcases (hparts.2.1 o ho).2 with hs | ⟨d',hd'⟩
  ·exact Ydz hs
  have:=Zlm (f:=fun o:Zg=>ce o.E) ho
  exact Ybo n o.E d' (by have:=Vp ho;omega) (hb.os o ho) (by omega) hd'
def OQ (S:Nat) (o:EO):Prop:=opk o∧o.L.length≤S∧(∀ t∈o.L,Bd t)∧BE o.E∧GN o.E
structure OB (s:NW) (i S:Nat):Prop where
 out:∀ o∈s.out,OQ S o
 gone:∀ t∈s.gone,Bd t
 come:∀ t∈s.come,Bd t
 cnt:s.flush.length≤i
 sum:Qh s.flush≤S
theorem OQ.mono {S S':Nat} {o:EO} (h:OQ S o) (hS:S≤S'):OQ S' o:=⟨h.1,Nat.le_trans h.2.1 hS,h.2.2⟩
theorem Zil (a b:List EO):Qh (a++b)=Qh a+Qh b:=by unfold Qh;rw [List.map_append,List.sum_append]
theorem Yc5 (g:List Tr):Qh (Un g)=g.length:=by
 by_cases h:g=[]
 ·subst h;rfl
 rw [Zhy h];simp [Qh,thN]
theorem Yc6 (g:List Tr):Qh (Zau g)=g.length:=by
 by_cases h:g=[]
 ·subst h;rfl
 rw [Zhz h];simp [Qh,thN]
theorem Zrr (s:NW):Qh s.flush=Qh s.out+(s.gone.length+s.come.length):=by
 unfold NW.flush
 rw [Zil,Zil,Yc5,Yc6]
theorem OB.fl {s:NW} {i S:Nat} (h:OB s i S):∀ o∈s.flush,OQ S o:=fun o ho=>by
 have hs:=h.sum
 rw [Zrr] at hs
 unfold NW.flush at ho
 rw [List.mem_append,List.mem_append] at ho
 rcases ho with ho | ho | ho
 ·exact h.out o ho
 ·by_cases hg:s.gone=[]
  ·rw [hg] at ho;simp [Un] at ho
  rw [Zhy hg,List.mem_singleton] at ho
  subst ho
  exact ⟨.inr (.inl ⟨rfl,hg⟩),by simp only;omega,h.gone,Zys,Zzb⟩
 by_cases hg:s.come=[]
 ·rw [hg] at ho;simp [Zau] at ho
 rw [Zhz hg,List.mem_singleton] at ho
 subst ho
 exact ⟨.inr (.inr (.inl ⟨rfl,hg⟩)),by simp only;omega,h.come,Zys,Zzb⟩
theorem Ycp {F:List EO} {S:Nat} {n:Int} (hn:1≤n) (hF:∀ o∈F,OQ S o):(∀ o∈Q1 F n,OQ S o)∧Qh (Q1 F n)=Qh F+n.toNat:=by
 have hq:OQ S (⟨0,n,[],eS0⟩:EO):=⟨.inl ⟨rfl,hn⟩,Nat.zero_le _,by simp,Zys,Zzb⟩
 by_cases hk:∃ o,F.getLast? = some o∧o.Kind=0
 ·obtain ⟨o,ho,hk0⟩:=hk
  obtain ⟨o',ho'⟩:=List.getLast?_eq_some_iff.1 ho
  subst ho'
  have hoq:=hF o (by simp)
  obtain ⟨k,N,L,E⟩:=o
  simp only at hk0
  subst hk0
  have hN:1≤N:=by
   rcases hoq.1 with ⟨_,h⟩ | ⟨h,_⟩ | ⟨h,_⟩ | h
   ·exact h
   ·simp at h
   ·simp at h
   simp at h
  rw [Us]
  refine ⟨fun x hx => ?_,?_⟩
  ·rcases List.mem_append.1 hx with hx | hx
   ·exact hF x (by simp [hx])
   rw [List.mem_singleton.1 hx]
   exact ⟨.inl ⟨rfl,by simp only;omega⟩,hoq.2⟩
  rw [Zil,Zil]
  simp only [Qh,List.map_cons,List.map_nil,List.sum_cons,List.sum_nil,thN,if_true]
  omega
 rw [Zdn fun o ho h0=>hk ⟨o,ho,h0⟩]
 refine ⟨fun x hx => ?_,?_⟩
 ·rcases List.mem_append.1 hx with hx | hx
  ·exact hF x hx
  rw [List.mem_singleton.1 hx];exact hq
 rw [Zil]
 simp [Qh,thN]
theorem Zct (out:List EO):(⟨out,[],[]⟩:NW).flush=out:=by unfold NW.flush;simp [Un,Zau]
theorem Ybf (g:List Tr):(Un g).length≤1:=by unfold Un;split <;> simp
theorem Ybs (g:List Tr):(Zau g).length≤1:=by unfold Zau;split <;> simp
theorem OB.step {s:NW} {i S:Nat} (h:OB s i S) {l:Int} {p:EO×Ed} (hp:opk p.1) (hL:∀ t∈p.1.L,Bd t) (hb:BE p.2) (hg:GN p.2):OB (Ut l s p) (i+1) (S+thN p.1):=by
 have hfs:=h.sum
 have hfc:=h.cnt
 have hpush:∀ n:Int,1≤n→n.toNat≤thN p.1→OB ⟨Q1 s.flush n,[],[]⟩ (i+1) (S+thN p.1):=fun n hn hnt=>by
  obtain ⟨q1,q2⟩:=Ycp hn h.fl
  have ql:=Zu8 s.flush n
  refine ⟨fun o ho=>(q1 o ho).mono (by omega),by simp,by simp,?_,?_⟩
  ·rw [Zct];omega
  rw [Zct,q2];omega
 unfold Ut
 by_cases k1:p.1.Kind=1
 ·have ht:thN p.1=p.1.L.length:=by unfold thN;rw [if_neg (by omega),if_neg (by omega)]
  rw [if_pos k1,ht]
  refine ⟨fun o ho=>(h.out o ho).mono (by omega),fun t ht => ?_,h.come,?_,?_⟩
  ·rcases List.mem_append.1 ht with ht | ht
   ·exact h.gone t ht
   obtain ⟨x,hx,rfl⟩:=List.mem_map.1 ht
   exact (hL x hx).nrm
  ·unfold NW.flush at hfc ⊢
   have:=Ybf (s.gone++p.1.L.map nrm)
   simp only [List.length_append] at hfc ⊢
   omega
  rw [Zrr] at hfs ⊢
  simp only [List.length_append,List.length_map]
  omega
 rw [if_neg k1]
 by_cases k2:p.1.Kind=2
 ·have ht:thN p.1=p.1.L.length:=by unfold thN;rw [if_neg (by omega),if_neg (by omega)]
  rw [if_pos k2,ht]
  refine ⟨fun o ho=>(h.out o ho).mono (by omega),h.gone,fun t ht => ?_,?_,?_⟩
  ·rcases List.mem_append.1 ht with ht | ht
   ·exact h.come t ht
   obtain ⟨x,hx,rfl⟩:=List.mem_map.1 ht
   exact (hL x hx).nrm
  ·unfold NW.flush at hfc ⊢
   have:=Ybs (s.come++p.1.L.map nrm)
   simp only [List.length_append] at hfc ⊢
   omega
  rw [Zrr] at hfs ⊢
  simp only [List.length_append,List.length_map]
  omega
 rw [if_neg k2]
 by_cases k0:p.1.Kind=0
 ·rw [if_pos k0]
  have hN:1≤p.1.N:=by
   rcases hp with ⟨_,h⟩ | ⟨h,_⟩ | ⟨h,_⟩ | h
   ·exact h
   ·omega
   ·omega
   omega
  exact hpush _ hN (by unfold thN;rw [if_pos k0];exact Nat.le_refl _)
 rw [if_neg k0]
 have k3:p.1.Kind=3:=by
  rcases hp with ⟨h,_⟩ | ⟨h,_⟩ | ⟨h,_⟩ | h
  ·omega
  ·omega
  ·omega
  exact h
 have ht:thN p.1=1:=by unfold thN;rw [if_neg k0,if_pos k3]
 split
 ·exact hpush 1 (by omega) (by omega)
 refine ⟨fun o ho => ?_,by simp,by simp,?_,?_⟩
 ·rcases List.mem_append.1 ho with ho | ho
  ·exact (h.fl o ho).mono (by omega)
  rw [List.mem_singleton.1 ho]
  exact ⟨.inr (.inr (.inr rfl)),Nat.zero_le _,by simp,hb,hg⟩
 ·rw [Zct,List.length_append];simp;omega
 rw [Zct,Zil,ht]
 have:Qh [(⟨3,0,[],p.2⟩:EO)]=1:=by simp [Qh,thN]
 omega
theorem Z2w {l:Int}:∀ (os:List EO) (s:NW) (i S:Nat),OB s i S→(∀ o∈os,opk o∧(∀ t∈o.L,Bd t)∧BE (nE o.E)∧GN (nE o.E))→OB ((Xj os).foldl (Ut l) s) (i+os.length) (S+Qh os)
 | [],s,i,S,h,_=>by simpa [Xj,Qh] using h
 | o::os,s,i,S,h,hq=>by
  obtain ⟨q1,q2,q3,q4⟩:=hq o (by simp)
  have:=Z2w (l:=l) os _ _ _ (h.step (l:=l) (p:=(o,nE o.E)) q1 q2 q3 q4) fun x hx=>hq x (by simp [hx])
  have e1:i+1+os.length=i+(o::os).length:=by simp;omega
  have e2:S+thN o+Qh os=S+Qh (o::os):=by unfold Qh;simp;omega
  rw [e1,e2] at this
  exact this
theorem Zw4:∀ (n:Nat) (e:Ed),SizeOf.sizeOf e < n→BE e→GN e→BE (nE e)∧GN (nE e)
 | 0,_,h,_,_=>by omega
 | n+1,e,hn,hb,hg=>by
  have ik:∀ k∈e.Kids,BE (nE k.E)∧GN (nE k.E):=fun k hk=>Zw4 n k.E (by have:=Q6 hk;omega) (hb.ks k hk) (hg.ks k hk)
  have io:∀ o∈e.Ops,BE (nE o.E)∧GN (nE o.E):=fun o ho=>Zw4 n o.E (by have:=Vp ho;omega) (hb.os o ho) (hg.os o ho)
  have hw:=hg.w
  have hk:=hg.k
  rw [Zd1]
  by_cases h1:e.Kind=1
  ·rw [if_pos h1]
   exact ⟨.mk _ hb.old.nrm hb.new.nrm (by simp) (by simp) (by simp) (by simp) (by simp) (by simp) (by simp),.mk _ (by simp) (by simp) (by simp) (by simp [Qh]) (by simp) (by simp) (by simp)⟩
  rw [if_neg h1]
  by_cases h2:e.Kind=2
  ·rw [if_pos h2]
   refine ⟨.mk _ Zkb Zkb hb.w hb.ws (by simp only [List.length_map];omega) (fun k hk => ?_) (by simp) (by simp) (by simp),.mk _ hg.w (by simp only [List.length_map];omega) (by simp) (by simp [Qh]) (by simp) (fun k hk => ?_) (by simp)⟩
   ·obtain ⟨x,hx,rfl⟩:=List.mem_map.1 hk
    exact (ik x hx).1
   obtain ⟨x,hx,rfl⟩:=List.mem_map.1 hk
   exact (ik x hx).2
  rw [if_neg h2]
  by_cases h3:e.Kind=3
  ·rw [if_pos h3]
   have hob:=Z2w (l:=e.List_) e.Ops s0N 0 0 ⟨by simp [s0N],by simp [s0N],by simp [s0N],Nat.le_refl _,Nat.le_refl _⟩ fun o ho=>⟨hg.p o ho,(hb.l o ho).2,(io o ho).1,(io o ho).2⟩
   have h5:=hob.cnt
   have h6:=hob.sum
   have h7:=hg.o
   have h8:=hg.s
   have hall:=hob.fl
   refine ⟨.mk _ Zkb Zkb (by simp) (by simp) (by simp) (by simp) ?_ (fun o ho => ?_) (fun o ho=>(hall o ho).2.2.2.1),.mk _ (by simp) (by simp) ?_ ?_ (fun o ho=>(hall o ho).1) (by simp) (fun o ho=>(hall o ho).2.2.2.2)⟩
   ·show ((Zcs e.List_ (Xj e.Ops)).length:Int)≤_
    unfold Zcs
    omega
   ·have:=(hall o ho).2.1
    exact ⟨by omega,(hall o ho).2.2.1⟩
   ·show (Zcs e.List_ (Xj e.Ops)).length≤_
    unfold Zcs
    omega
   show Qh (Zcs e.List_ (Xj e.Ops))≤_
   unfold Zcs
   omega
  rw [if_neg h3]
  exact ⟨Zys,Zzb⟩
theorem BE.nE {e:Ed} (hb:BE e) (hg:GN e):BE (nE e):=(Zw4 _ e (Nat.lt_succ_self _) hb hg).1
theorem GN.nE {e:Ed} (hb:BE e) (hg:GN e):GN (nE e):=(Zw4 _ e (Nat.lt_succ_self _) hb hg).2
theorem Yfj:∀ (k:Nat),(∀ e:Ed,BE e→GN e→2 * SizeOf.sizeOf e+1 < k→(Xw k).1 e=some (nE e)) ∧
  (∀ (l:Int) (os:List EO),os.length≤1048576→Qh os≤1073741824→(∀ o∈os,opk o)→(∀ o∈os,∀ t∈o.L,Bd t)→(∀ o∈os,BE o.E∧GN o.E∧2 * SizeOf.sizeOf o.E+2 < k)→0 < k→(Xw k).2 l os=some (Zcs l (Xj os)))
 | 0=>⟨fun e _ _ h=>by omega,fun l os _ _ _ _ _ h=>by omega⟩
 | k+1=>by
  obtain ⟨i1,i2⟩:=Yfj k
  refine ⟨fun e hb hg hk => ?_,fun l os hlen hsum hok hL hE _ => ?_⟩
  ·show Zfl (Xw k).1 (Xw k).2 e=_
   unfold Zfl
   rw [Zd1]
   by_cases h1:e.Kind=1
   ·have e1:(e.Kind == 1)=true:=by rw [h1];rfl
    rw [if_pos h1,e1,cond_true,Z2t hb.old,Option.bind_some,Z2t hb.new];rfl
   have e1:(e.Kind == 1)=false:=by rw [beq_eq_false_iff_ne];exact h1
   rw [if_neg h1,e1,cond_false]
   by_cases h2:e.Kind=2
   ·have e2:(e.Kind == 2)=true:=by rw [h2];rfl
    have hw:=hg.w
    have hkl:=hg.k
    have hloop:Zs (Zcd (Xw k).1 e) (0,([]:List Zj))=some ([]++e.Kids.map fun x=>(⟨x.At,nE x.E⟩:Zj)) :=
     Zgx e.Kids (fun x=>(⟨x.At,nE x.E⟩:Zj)) _ [] (by omega) (fun i x out hi hx hm ho=>by
      unfold Zcd
      simp only
      rw [Ua hi,cond_true,Yf hx,Option.bind_some,i1 x.E (hb.ks x hm) (hg.ks x hm) (by have:=Q6 hm;omega),Option.bind_some]
      simp only [List.length_nil] at ho
      rw [U4 (by simp only [List.length_singleton];omega) (by simp only [List.length_singleton];omega),Option.bind_some]) (fun out=>by
      unfold Zcd
      simp only
      rw [Uo,cond_false])
    unfold Qp
    rw [if_pos h2,e2,cond_true,U4 (by simp only [List.length_nil];omega) (by simp only [List.length_nil];omega),Option.bind_some,hloop,Option.bind_some]
    rfl
   have e2:(e.Kind == 2)=false:=by rw [beq_eq_false_iff_ne];exact h2
   rw [if_neg h2,e2,cond_false]
   by_cases h3:e.Kind=3
   ·have e3:(e.Kind == 3)=true:=by rw [h3];rfl
    rw [if_pos h3,e3,cond_true,i2 e.List_ e.Ops hg.o hg.s hg.p (fun o ho=>(hb.l o ho).2) (fun o ho=>⟨hb.os o ho,hg.os o ho,by have:=Vp ho;omega⟩) (by omega)]
    rfl
   have e3:(e.Kind == 3)=false:=by rw [beq_eq_false_iff_ne];exact h3
   rw [if_neg h3,e3,cond_false];rfl
  show Zet (Xw k).1 (Xw k).2 l os=_
  exact Yea hlen hsum hok hL fun o ho _=>⟨i1 o.E (hE o ho).1 (hE o ho).2.1 (by have:=(hE o ho).2.2;omega),(hE o ho).1.nE (hE o ho).2.1⟩
theorem Yb6 {e:Ed} (hb:BE e) (hg:GN e):Zdt e=some (nE e):=Zeh (2 * SizeOf.sizeOf e+2) fun k hk=>(Yfj k).1 e hb hg (by omega)
theorem Yct:∀ (k:Nat),(∀ e:Ed,BE e→GN e→2 * SizeOf.sizeOf e+1 < k→(Y7 k).1 e=some (nE e)) ∧
  (∀ (l:Int) (os:List EO),os.length≤1048576→Qh os≤1073741824→(∀ o∈os,opk o)→(∀ o∈os,o.L.length * 56≤140737488355328∧∀ t∈o.L,Bd t)→(∀ o∈os,BE o.E∧GN o.E∧2 * SizeOf.sizeOf o.E+2 < k)→0 < k→(Y7 k).2 l os=some (Zcs l (Xj os)))
 | 0=>⟨fun e _ _ h=>by omega,fun l os _ _ _ _ _ h=>by omega⟩
 | k+1=>by
  obtain ⟨i1,i2⟩:=Yct k
  refine ⟨fun e hb hg hk => ?_,fun l os hlen hsum hok hL hE _ => ?_⟩
  ·show Zaq (Y7 k).1 (Y7 k).2 e=_
   unfold Zaq
   rw [Zd1]
   by_cases h1:e.Kind=1
   ·have e1:(e.Kind == 1)=true:=by rw [h1];rfl
    rw [if_pos h1,e1,cond_true,Zz4 hb.old,Option.bind_some,Zz4 hb.new];rfl
   have e1:(e.Kind == 1)=false:=by rw [beq_eq_false_iff_ne];exact h1
   rw [if_neg h1,e1,cond_false]
   by_cases h2:e.Kind=2
   ·have e2:(e.Kind == 2)=true:=by rw [h2];rfl
    have hw:=hg.w
    have hkl:=hg.k
    have hloop:Zs (Vy (Y7 k).1 e) (0,([]:List Zj))=some ([]++e.Kids.map fun x=>(⟨x.At,nE x.E⟩:Zj)) :=
     Zgx e.Kids (fun x=>(⟨x.At,nE x.E⟩:Zj)) _ [] (by omega) (fun i x out hi hx hm ho=>by
      unfold Vy
      simp only
      rw [Ua hi,cond_true,Yf hx,Option.bind_some,i1 x.E (hb.ks x hm) (hg.ks x hm) (by have:=Q6 hm;omega),Option.bind_some]
      simp only [List.length_nil] at ho
      rw [U4 (by simp only [List.length_singleton];omega) (by simp only [List.length_singleton];omega),Option.bind_some]) (fun out=>by
      unfold Vy
      simp only
      rw [Uo,cond_false])
    rw [if_pos h2,e2,cond_true,U4 (by simp only [List.length_nil];omega) (by simp only [List.length_nil];omega),Option.bind_some,hloop,Option.bind_some]
    rfl
   have e2:(e.Kind == 2)=false:=by rw [beq_eq_false_iff_ne];exact h2
   rw [if_neg h2,e2,cond_false]
   by_cases h3:e.Kind=3
   ·have e3:(e.Kind == 3)=true:=by rw [h3];rfl
    rw [if_pos h3,e3,cond_true,i2 e.List_ e.Ops hg.o hg.s hg.p hb.l (fun o ho=>⟨hb.os o ho,hg.os o ho,by have:=Vp ho;omega⟩) (by omega)]
    rfl
   have e3:(e.Kind == 3)=false:=by rw [beq_eq_false_iff_ne];exact h3
   rw [if_neg h3,e3,cond_false];rfl
  show Gd (Y7 k).1 (Y7 k).2 l os=_
  exact Ycv hlen hsum hok (fun o ho=>(hL o ho).2) (fun o ho=>(hL o ho).1) fun o ho _=>i1 o.E (hE o ho).1 (hE o ho).2.1 (by have:=(hE o ho).2.2;omega)
theorem Ycu {e:Ed} (hb:BE e) (hg:GN e):Zdz e=some (nE e):=Zeh (2 * SizeOf.sizeOf e+2) fun k hk=>(Yct k).1 e hb hg (by omega)
theorem Zz6 {L:List Tr} (hl:(L.length:Int)≤140737488355328) (hL:∀ t∈L,Bd t):Kk L L=some true:=by
 unfold Kk
 have e:((L.length:Int) != (L.length:Int))=false:=by simp
 rw [e,cond_false,Zck L _ (fun _=>true) (Sum.inl ():Unit ⊕ Unit) (Sum.inr ()) hl (fun i x hi hx hm=>by
  unfold K5
  rw [Ua hi,cond_true,Yf hx,Option.bind_some,Option.bind_some,Z3d (hL x hm) (hL x hm),Zyx]
  rfl) (by unfold K5;rw [Uo];rfl)]
 simp
theorem Zyy:∀ (k:Nat) (e:Ed),BE e→SizeOf.sizeOf e < k→J4 k e e=some true
 | 0,_,_,h=>by omega
 | k+1,e,hb,hk=>by
  show Zar (J4 k) e e=_
  unfold Zar
  have ne:∀ x:Int,(x != x)=false:=fun x=>by simp
  have l0:Zs (Vz e e) 0=some (if (e.Words.all fun _=>true)=true then Sum.inr () else Sum.inl ()) :=
   Zck e.Words _ (fun _=>true) (Sum.inl ():Unit ⊕ Unit) (Sum.inr ()) hb.w (fun i x hi hx hm=>by
    unfold Vz
    rw [Ua hi,cond_true,Yf hx,Option.bind_some,Option.bind_some]
    simp) (by unfold Vz;rw [Uo];rfl)
  have l1:Zs (V0 (J4 k) e e) 0=some (if (e.Kids.all fun _=>true)=true then Sum.inr () else Sum.inl ()) :=
   Zck e.Kids _ (fun _=>true) (Sum.inl ():Unit ⊕ Unit) (Sum.inr ()) hb.k (fun i x hi hx hm=>by
    unfold V0
    rw [Ua hi,cond_true,Yf hx,Option.bind_some,Option.bind_some,ne,cond_false,Zyy k x.E (hb.ks x hm) (by have:=Q6 hm;omega)]
    simp) (by unfold V0;rw [Uo];rfl)
  have l2:Zs (V1 (J4 k) e e) 0=some (if (e.Ops.all fun _=>true)=true then Sum.inr () else Sum.inl ()) :=
   Zck e.Ops _ (fun _=>true) (Sum.inl ():Unit ⊕ Unit) (Sum.inr ()) hb.o (fun i x hi hx hm=>by
    have hL:=hb.l x hm
    unfold V1
    rw [Ua hi,cond_true,Yf hx,Option.bind_some,Option.bind_some,ne,ne,cond_false,cond_false,Zz6 (by omega) hL.2,Option.bind_some,cond_true,Zyy k x.E (hb.os x hm) (by have:=Vp hm;omega)]
    simp) (by unfold V1;rw [Uo];rfl)
  rw [ne,ne,Z3d hb.old hb.old,Z3d hb.new hb.new,Zyx,Zyx,l0,l1,l2]
  simp
theorem Z4u {e:Ed} (hb:BE e):Zd0 e e=some true:=Zeh (SizeOf.sizeOf e+1) fun k hk=>Zyy k e hb (by omega)
def lgt (e:Ed):Bool:=(!(decide (2000 < (e.Ops.foldl stR (0,0)).1) || decide (2000 < (e.Ops.foldl stR (0,0)).2))) && ((e.Kids.attach.map fun k=>lgt k.1.E).all id && (e.Ops.attach.map fun o=>lgt o.1.E).all id)
termination_by SizeOf.sizeOf e
decreasing_by
 ·exact Q6 k.2
 exact Vp o.2
theorem Z61 (e:Ed):lgt e=((!(decide (2000 < (e.Ops.foldl stR (0,0)).1) || decide (2000 < (e.Ops.foldl stR (0,0)).2))) && ((e.Kids.all fun k=>lgt k.E) && (e.Ops.all fun o=>lgt o.E))):=by
 have h1:(e.Kids.attach.map fun k=>lgt k.1.E)=e.Kids.map fun k=>lgt k.E:=List.attach_map_val (f:=fun k:Zj=>lgt k.E)
 have h2:(e.Ops.attach.map fun o=>lgt o.1.E)=e.Ops.map fun o=>lgt o.E:=List.attach_map_val (f:=fun o:EO=>lgt o.E)
 rw [lgt,h1,h2,List.all_map,List.all_map]
 rfl
theorem Zzg:∀ (k:Nat) (e:Ed),BE e→SizeOf.sizeOf e < k→Je k e=some (lgt e)
 | 0,_,_,h=>by omega
 | k+1,e,hb,hk=>by
  show Gk (Je k) e=_
  unfold Gk
  have l0:Zs (K9 (Je k) e) 0=some (if (e.Kids.all fun x=>lgt x.E)=true then Sum.inr () else Sum.inl ()) :=
   Zck e.Kids _ (fun x=>lgt x.E) (Sum.inl ():Unit ⊕ Unit) (Sum.inr ()) hb.k (fun i x hi hx hm=>by
    unfold K9
    rw [Ua hi,cond_true,Yf hx,Option.bind_some,Zzg k x.E (hb.ks x hm) (by have:=Q6 hm;omega),Option.bind_some]
    cases lgt x.E <;> rfl) (by unfold K9;rw [Uo];rfl)
  have l1:Zs (Va (Je k) e) 0=some (if (e.Ops.all fun x=>lgt x.E)=true then Sum.inr () else Sum.inl ()) :=
   Zck e.Ops _ (fun x=>lgt x.E) (Sum.inl ():Unit ⊕ Unit) (Sum.inr ()) hb.o (fun i x hi hx hm=>by
    unfold Va
    rw [Ua hi,cond_true,Yf hx,Option.bind_some,Zzg k x.E (hb.os x hm) (by have:=Vp hm;omega),Option.bind_some]
    cases lgt x.E <;> rfl) (by unfold Va;rw [Uo];rfl)
  rw [Z61,Z78 hb,Option.bind_some,l0,l1]
  generalize decide (2000 < (e.Ops.foldl stR (0,0)).1)=q1
  generalize decide (2000 < (e.Ops.foldl stR (0,0)).2)=q2
  generalize (e.Kids.all fun x=>lgt x.E)=q3
  generalize (e.Ops.all fun x=>lgt x.E)=q4
  cases q1 <;> cases q2 <;> cases q3 <;> cases q4 <;> rfl
theorem Ybx {e:Ed} (hb:BE e):Zfy e=some (lgt e):=Zeh (SizeOf.sizeOf e+1) fun k hk=>Zzg k e hb (by omega)
def swW (w:Zu):Zu:=⟨w.At,w.Mask,w.New,w.Old⟩
def tE (e:Ed):Ed :=
 ⟨e.Kind,e.New,e.Old,e.Words.map swW,e.Kids.attach.map (fun k=>⟨k.1.At,tE k.1.E⟩),e.List_,e.Ops.attach.map (fun o=>if o.1.Kind=1 then ⟨2,o.1.N,o.1.L,o.1.E⟩ else if o.1.Kind=2 then ⟨1,o.1.N,o.1.L,o.1.E⟩ else if o.1.Kind=3 then ⟨o.1.Kind,o.1.N,o.1.L,tE o.1.E⟩ else o.1)⟩
termination_by SizeOf.sizeOf e
decreasing_by
 ·exact Q6 k.2
 exact Vp o.2
def tO (o:EO):EO:=if o.Kind=1 then ⟨2,o.N,o.L,o.E⟩ else if o.Kind=2 then ⟨1,o.N,o.L,o.E⟩ else if o.Kind=3 then ⟨o.Kind,o.N,o.L,tE o.E⟩ else o
theorem Yic (e:Ed):tE e=⟨e.Kind,e.New,e.Old,e.Words.map swW,e.Kids.map (fun k=>⟨k.At,tE k.E⟩),e.List_,e.Ops.map tO⟩:=by
 have h1:(e.Kids.attach.map fun k=>(⟨k.1.At,tE k.1.E⟩:Zj))=e.Kids.map fun k=>⟨k.At,tE k.E⟩:=List.attach_map_val (f:=fun k:Zj=>(⟨k.At,tE k.E⟩:Zj))
 have h2:(e.Ops.attach.map fun o=>if o.1.Kind=1 then (⟨2,o.1.N,o.1.L,o.1.E⟩:EO) else if o.1.Kind=2 then ⟨1,o.1.N,o.1.L,o.1.E⟩ else if o.1.Kind=3 then ⟨o.1.Kind,o.1.N,o.1.L,tE o.1.E⟩ else o.1)=e.Ops.map tO:=List.attach_map_val (f:=tO)
 rw [tE,h1,h2]
theorem Yjf {o:EO} (h:o.Kind=1):tO o=⟨2,o.N,o.L,o.E⟩:=by unfold tO;rw [if_pos h]
theorem Yjg {o:EO} (h:o.Kind=2):tO o=⟨1,o.N,o.L,o.E⟩:=by unfold tO;rw [if_neg (by omega),if_pos h]
theorem Yie {o:EO} (h:o.Kind=3):tO o=⟨3,o.N,o.L,tE o.E⟩:=by unfold tO;rw [if_neg (by omega),if_neg (by omega),if_pos h,h]
theorem Yid {o:EO} (h:¬ o.Kind=1) (h2:¬ o.Kind=2) (h3:¬ o.Kind=3):tO o=o:=by unfold tO;rw [if_neg h,if_neg h2,if_neg h3]
theorem Z5v (F:List EO) (a b:Int):Q1 (Q1 F a) b=Q1 F (a+b):=by
 by_cases hk:∃ o,F.getLast? = some o∧o.Kind=0
 ·obtain ⟨o,ho,hk0⟩:=hk
  obtain ⟨o',ho'⟩:=List.getLast?_eq_some_iff.1 ho
  obtain ⟨k,N,L,E⟩:=o
  simp only at hk0
  subst hk0 ho'
  rw [Us,Us,Us,Int.add_assoc]
 have hn:∀ o,F.getLast? = some o→o.Kind≠0:=fun o ho h0=>hk ⟨o,ho,h0⟩
 rw [Zdn hn,Us,Zdn hn]
theorem Z73 (l:Int) (e:Ed):Zcj l (nE (tE e))=Zcj l (nE e):=by
 rw [Zd1,Zd1,Yic]
 simp only
 by_cases h1:e.Kind=1
 ·rw [if_pos h1,if_pos h1];simp [Zcj]
 rw [if_neg h1,if_neg h1]
 by_cases h2:e.Kind=2
 ·rw [if_pos h2,if_pos h2];simp [Zcj]
 rw [if_neg h2,if_neg h2]
 by_cases h3:e.Kind=3
 ·rw [if_pos h3,if_pos h3];simp [Zcj]
 rw [if_neg h3,if_neg h3]
def Zqs (l:List EO):List EO:=l.map tO
theorem Zoi (a b:List EO):Zqs (a++b)=Zqs a++Zqs b:=by simp [Zqs]
structure TR (l:Int) (s s':NW):Prop where
 out:(Xj (Zqs s.out)).foldl (Ut l) s0N=⟨s'.out,[],[]⟩
 gone:s'.gone=s.come
 come:s'.come=s.gone
theorem TR.flush {l:Int} {s s':NW} (h:TR l s s') (hn:NInv l s):(Xj (Zqs s.flush)).foldl (Ut l) s0N=s':=by
 unfold NW.flush
 rw [Zoi,Zdv,List.foldl_append,h.out,Zoi,Zdv,List.foldl_append]
 have e1:(Xj (Zqs (Un s.gone))).foldl (Ut l) ⟨s'.out,[],[]⟩=⟨s'.out,[],s.gone⟩:=by
  by_cases hg:s.gone=[]
  ·rw [hg];rfl
  rw [Zhy hg];simp [Zqs,tO,Xj,Ut,hn.gone]
 have e2:(Xj (Zqs (Zau s.come))).foldl (Ut l) ⟨s'.out,[],s.gone⟩=⟨s'.out,s.come,s.gone⟩:=by
  by_cases hg:s.come=[]
  ·rw [hg];rfl
  rw [Zhz hg];simp [Zqs,tO,Xj,Ut,hn.come]
 rw [e1,e2,← h.gone,← h.come]
theorem Z80 (N:Int) (L:List Tr) (E:Ed):tO ⟨0,N,L,E⟩=⟨0,N,L,E⟩:=Yid (by simp) (by simp) (by simp)
theorem TR.keep {l:Int} {s s':NW} (h:TR l s s') (hn:NInv l s) (n:Int):TR l ⟨Q1 s.flush n,[],[]⟩ ⟨Q1 s'.flush n,[],[]⟩:=by
 refine ⟨?_,rfl,rfl⟩
 have hfl:=h.flush hn
 by_cases hk:∃ o,s.flush.getLast? = some o∧o.Kind=0
 ·obtain ⟨o,ho,hk0⟩:=hk
  rcases Zl9 ho with h12 | ⟨g1,g2,g3⟩
  ·omega
  have hf:s.flush=s.out:=by unfold NW.flush;rw [g1,g2];simp [Un,Zau]
  obtain ⟨o',ho'⟩:=List.getLast?_eq_some_iff.1 g3
  obtain ⟨a1,a2,a3,_⟩:=hn.last o' o ho' hk0
  obtain ⟨k,N,L,E⟩:=o
  simp only at hk0 a1 a2
  subst hk0 a1 a2
  rw [hf,ho'] at hfl ⊢
  rw [Us]
  simp only
  rw [Zoi,Zdv,List.foldl_append] at hfl ⊢
  generalize (Xj (Zqs o')).foldl (Ut l) s0N=r at *
  have e:∀ M:Int,(Xj (Zqs [(⟨0,M,[],eS0⟩:EO)])).foldl (Ut l) r=⟨Q1 r.flush M,[],[]⟩:=fun M=>by
   unfold Zqs
   rw [List.map_cons,List.map_nil,Z80]
   exact Ztd (l:=l)
  rw [e] at hfl ⊢
  rw [← hfl,Zct,Z5v]
 have hk':∀ o,s.flush.getLast? = some o→o.Kind≠0:=fun o ho h0=>hk ⟨o,ho,h0⟩
 rw [Zdn hk']
 simp only
 rw [Zoi,Zdv,List.foldl_append,hfl]
 unfold Zqs
 rw [List.map_cons,List.map_nil,Z80]
 exact Ztd (l:=l)
theorem TR.step {l:Int} {s s':NW} (h:TR l s s') (hn:NInv l s) {o:EO} (ho:opk o) (hE:o.Kind=3→nE (tE (nE o.E))=nE (tE o.E)):TR l (Ut l s (o,nE o.E)) (Ut l s' (tO o,nE (tO o).E)):=by
 rcases ho with ⟨k,_⟩ | ⟨k,_⟩ | ⟨k,_⟩ | k
 ·rw [Yid (by omega) (by omega) (by omega)]
  have:=h.keep hn o.N
  unfold Ut
  simp only [k,show ¬ (0:Int)=1 from by decide,show ¬ (0:Int)=2 from by decide,if_false,if_true]
  exact this
 ·rw [Yjf k]
  unfold Ut
  simp only [k,show ¬ (2:Int)=1 from by decide,if_false,if_true]
  exact ⟨h.out,h.gone,by rw [h.come]⟩
 ·rw [Yjg k]
  unfold Ut
  simp only [k,show ¬ (2:Int)=1 from by decide,if_false,if_true]
  exact ⟨h.out,by rw [h.gone],h.come⟩
 rw [Yie k]
 have hi:=Z73 l o.E
 have hfl:=h.flush hn
 have hk:=h.keep hn 1
 unfold Ut
 simp only [k,show ¬ (3:Int)=1 from by decide,show ¬ (3:Int)=2 from by decide,show ¬ (3:Int)=0 from by decide,if_false,hi]
 cases hid:Zcj l (nE o.E) with
 | true=>simp only [if_true];exact hk
 | false =>
  simp only [Bool.false_eq_true,if_false]
  refine ⟨?_,rfl,rfl⟩
  simp only
  rw [Zoi,Zdv,List.foldl_append,hfl]
  unfold Zqs
  rw [List.map_cons,List.map_nil,Yie rfl]
  show Ut l s' (⟨3,0,[],tE (nE o.E)⟩,nE (tE (nE o.E)))=_
  have hi2:=Z73 l (nE o.E)
  rw [Yb5,hid] at hi2
  unfold Ut
  simp only [show ¬ (3:Int)=1 from by decide,show ¬ (3:Int)=2 from by decide,show ¬ (3:Int)=0 from by decide,if_false,hi2,Bool.false_eq_true]
  rw [hE k]
theorem TR.fold {l:Int}:∀ (os:List EO) (s s':NW),TR l s s'→NInv l s→(∀ o∈os,opk o∧(o.Kind=3→nE (tE (nE o.E))=nE (tE o.E)))→TR l ((Xj os).foldl (Ut l) s) ((Xj (Zqs os)).foldl (Ut l) s')∧NInv l ((Xj os).foldl (Ut l) s)
 | [],s,s',h,hn,_=>⟨h,hn⟩
 | o::os,s,s',h,hn,hq=>by
  obtain ⟨q1,q2⟩:=hq o (by simp)
  exact TR.fold os _ _ (h.step hn q1 q2) (hn.step (Yb5 _)) fun x hx=>hq x (by simp [hx])
theorem Z8k {k:Int} {t:Tr} (h:okk k t=true):okk k (nrm t)=true:=by
 unfold okk at h ⊢
 rw [Zfq]
 split
 ·rename_i hk
  rw [if_pos hk,Bool.and_eq_true,beq_iff_eq] at h
  rw [Zsn (by omega) (by omega),h.1]
  simp only [BEq.rfl,Bool.true_and]
  exact h.2
 rename_i hk
 rw [if_neg hk] at h
 exact h
theorem Ycx:∀ (n:Nat) (t:Tr) (d:Nat),SizeOf.sizeOf t < n→rt t d=true→rt (nrm t) d=true
 | 0,_,_,h,_=>by omega
 | n+1,t,d,hn,h=>by
  have hk:=Zfq t
  by_cases h0:t.Kind=0
  ·rw [Yb9 h0,Znv,if_pos rfl];rfl
  rw [Znv,if_neg h0] at h
  by_cases h10:t.Kind=10
  ·rw [if_pos h10] at h
   rw [Zsn h0 (by omega),Znv,if_neg h0,if_pos h10]
   simp only [List.length_map]
   exact h
  rw [if_neg h10] at h
  by_cases hc:t.Kind < 0∨10 < t.Kind∨d=0∨65536≤t.Words.length∨(t.Kind=1∧65536≤t.Kids.length)∨1048576≤t.Kids.length∨(1 < t.Kind∧0 < t.Words.length)
  ·rw [if_pos hc] at h;cases h
  rw [if_neg hc,List.all_eq_true] at h
  have hkid:∀ x∈t.Kids,(rt (nrm x) (d - 1) && okk t.Kind (nrm x))=true:=fun x hx=>by
   have:=h x hx
   rw [Bool.and_eq_true] at this ⊢
   exact ⟨Ycx n x (d - 1) (by have:=Zff hx;omega) this.1,Z8k this.2⟩
  by_cases h1:t.Kind=1
  ·obtain ⟨W,K,e1,lW,lK,mK⟩:∃ W K,nrm t=⟨1,W,K⟩∧W.length≤t.Words.length∧K.length≤t.Kids.length∧∀ x∈K,x∈t.Kids.map nrm :=
    ⟨_,_,Z64 h1,Zow _ _,by have h:=Zow (fun x:Tr=>x.Kind == 0) (t.Kids.map nrm);rw [List.length_map] at h;exact h,fun x hx=>Zvf hx⟩
   rw [e1,Znv]
   simp only
   rw [if_neg (by decide),if_neg (by decide),if_neg (by omega),List.all_eq_true]
   intro x hx
   obtain ⟨y,hy,rfl⟩:=List.mem_map.1 (mK x hx)
   rw [← h1]
   exact hkid y hy
  rw [Zsn h0 h1,Znv]
  simp only [List.length_map]
  rw [if_neg h0,if_neg h10,if_neg hc,List.all_eq_true]
  intro x hx
  obtain ⟨y,hy,rfl⟩:=List.mem_map.1 hx
  exact hkid y hy
theorem rtN {t:Tr} {d:Nat} (h:rt t d=true):rt (nrm t) d=true:=Ycx _ t d (Nat.lt_succ_self _) h
theorem Z8g {t:Tr} (h:Zbt t=true):t=⟨0,[],[]⟩:=by
 unfold Zbt at h
 simp only [Bool.and_eq_true,beq_iff_eq] at h
 obtain ⟨k,w,l⟩:=t
 simp only at h
 rw [h.1,List.eq_nil_of_length_eq_zero h.2.1,List.eq_nil_of_length_eq_zero h.2.2]
theorem Z8r {e:Ed} (h:Zcw e=true):e=eS0:=by
 unfold Zcw Zjl Zio Zib at h
 simp only [Bool.and_eq_true,beq_iff_eq] at h
 obtain ⟨k,a,b,w,ks,li,os⟩:=e
 simp only at h
 obtain ⟨h0,⟨h1,h2⟩,⟨h3,h4⟩,h5,h6⟩:=h
 rw [h0,Z8g h1,Z8g h2,List.eq_nil_of_length_eq_zero h3,List.eq_nil_of_length_eq_zero h4,h5,List.eq_nil_of_length_eq_zero h6]
 rfl
theorem Z8t:Zcw eS0=true:=rfl
theorem Yfq {d:Nat} (hd:¬ d=0):rE eS0 d=true:=by rw [Z8p rfl (by omega)];rfl
def okQ (l:Int) (d:Nat) (o:EO):Prop :=
 (o.Kind=0∧1≤o.N∧o.L=[]∧o.E=eS0)∨((o.Kind=1∨o.Kind=2)∧o.N=0∧o.L≠[]∧(∀ t∈o.L,rt t 63=true∧okk l t=true)∧o.E=eS0)∨(o.Kind=3∧o.N=0∧o.L=[]∧o.E.Kind≠0∧Zki l o.E=true∧rE o.E d=true)
theorem Yhk {l:Int} {d:Nat} {o:EO} (h:okO l o (rE o.E d)=true):okQ l d o∧(o.Kind=0→o.N≤1048576):=by
 unfold okO at h
 by_cases h0:o.Kind=0
 ·rw [if_pos h0] at h
  simp only [Bool.and_eq_true,decide_eq_true_eq,beq_iff_eq] at h
  exact ⟨.inl ⟨h0,h.1.1,List.eq_nil_of_length_eq_zero h.2.1,Z8r h.2.2⟩,fun _=>h.1.2⟩
 rw [if_neg h0] at h
 refine ⟨?_,fun hc=>absurd hc h0⟩
 by_cases h12:o.Kind=1∨o.Kind=2
 ·rw [if_pos h12] at h
  simp only [Bool.and_eq_true,decide_eq_true_eq,beq_iff_eq,List.all_eq_true] at h
  exact .inr (.inl ⟨h12,h.1,fun he=>by rw [he] at h;simp at h,h.2.2.1,Z8r h.2.2.2⟩)
 rw [if_neg h12] at h
 by_cases h3:o.Kind=3
 ·rw [if_pos h3] at h
  simp only [Bool.and_eq_true,beq_iff_eq,bne_iff_ne,ne_eq] at h
  exact .inr (.inr ⟨h3,h.1,List.eq_nil_of_length_eq_zero h.2.1,h.2.2.1,h.2.2.2.1,h.2.2.2.2⟩)
 rw [if_neg h3] at h;cases h
theorem Yhl {l:Int} {d:Nat} {o:EO} (h:okQ l d o) (hN:o.Kind=0→o.N≤1048576):okO l o (rE o.E d)=true:=by
 unfold okO
 rcases h with ⟨k,h1,h2,h3⟩ | ⟨k,h1,h2,h3,h4⟩ | ⟨k,h1,h2,h3,h4,h5⟩
 ·rw [if_pos k,h2,h3,Z8t,decide_eq_true h1,decide_eq_true (hN k)]
  rfl
 ·rw [if_neg (by omega),if_pos k,h1,h4,Z8t,decide_eq_true (List.length_pos_iff.2 h2)]
  have:(o.L.all fun t=>rt t 63 && okk l t)=true:=List.all_eq_true.2 fun t ht=>by rw [(h3 t ht).1,(h3 t ht).2];rfl
  rw [this]
  rfl
 rw [if_neg (by omega),if_neg (by omega),if_pos k,h1,h2,h4,h5,bne_iff_ne.2 h3]
 rfl
def oN (o:EO):Nat:=if o.Kind=2 then 0 else thN o
def wN (o:EO):Nat:=if o.Kind=1 then 0 else thN o
def oS (l:List EO):Nat:=(l.map oN).sum
def wS (l:List EO):Nat:=(l.map wN).sum
theorem Zk5 (a b:List EO):oS (a++b)=oS a+oS b:=by unfold oS;rw [List.map_append,List.sum_append]
theorem Zj7 (a b:List EO):wS (a++b)=wS a+wS b:=by unfold wS;rw [List.map_append,List.sum_append]
theorem Z7r {x y:Int} (h:0≤y):Zfe (Zfe x+y)=Zfe (x+y):=by
 unfold Zfe
 (repeat' split) <;> omega
theorem Zwa {l:Int} (r:EO→Bool):∀ (os:List EO) (s:Int×Int),Sm s→(∀ o∈os,okO l o (r o)=true)→(∀ o∈os,o.L.length * 56≤140737488355328)→os.foldl stI s=(Zfe (s.1+((oS os:Nat):Int)),Zfe (s.2+((wS os:Nat):Int)))
 | [],s,hs,_,_=>by
  obtain ⟨a,b⟩:=s
  unfold Sm at hs
  simp only at hs
  have e1:Zfe (a+((oS []:Nat):Int))=a:=by unfold Zfe oS;simp;omega
  have e2:Zfe (b+((wS []:Nat):Int))=b:=by unfold Zfe wS;simp;omega
  simp only [List.foldl_nil,e1,e2]
 | o::os,s,hs,hk,hl=>by
  have hL:=hl o (.head _)
  rw [List.foldl_cons,Zwa r os (stI s o) (Zve hs hL) (fun x hx=>hk x (.tail _ hx)) (fun x hx=>hl x (.tail _ hx))]
  have ht:=Z9q (hk o (.head _))
  obtain ⟨a,b⟩:=s
  have e1:oS (o::os)=oN o+oS os:=by simp [oS]
  have e2:wS (o::os)=wN o+wS os:=by simp [wS]
  have f1:Zfe ((stI (a,b) o).1+((oS os:Nat):Int))=Zfe (a+((oS (o::os):Nat):Int)):=by
   rw [e1]
   unfold stI oN
   simp only
   by_cases h2:o.Kind=2
   ·rw [if_pos h2,if_pos h2,Nat.zero_add]
   rw [if_neg h2,if_neg h2,← ht,Z7r (by omega),Int.add_assoc];rfl
  have f2:Zfe ((stI (a,b) o).2+((wS os:Nat):Int))=Zfe (b+((wS (o::os):Nat):Int)):=by
   rw [e2]
   unfold stI wN
   simp only
   by_cases h2:o.Kind=1
   ·rw [if_pos h2,if_pos h2,Nat.zero_add]
   rw [if_neg h2,if_neg h2,← ht,Z7r (by omega),Int.add_assoc];rfl
  rw [f1,f2]
theorem Zzf {l:Int} (r:EO→Bool) {os:List EO} (hk:∀ o∈os,okO l o (r o)=true) (hl:∀ o∈os,o.L.length * 56≤140737488355328):Zh6 (os.foldl stR (0,0))=true↔oS os < 1048576∧wS os < 1048576:=by
 have h0:Sm (0,0):=by unfold Sm;simp
 rw [(Zlg r os (0,0) h0 hk hl).1,Zwa r os (0,0) h0 hk hl]
 unfold Zh6 Zfe
 rw [Bool.and_eq_true,decide_eq_true_eq,decide_eq_true_eq]
 simp only [Int.zero_add]
 constructor
 ·intro h
  obtain ⟨h1,h2⟩:=h
  split at h1 <;> split at h2 <;> omega
 intro h
 rw [if_neg (by omega),if_neg (by omega)]
 omega
theorem Yhb {o:EO}:∀ {os:List EO},o∈os→oN o≤oS os:=fun h=>Zlm (f:=oN) h
theorem Ybt {os:List EO} {o:EO} (ho:o∈os) (hk:o.Kind=0) (h:oS os < 1048576):o.N≤1048576:=by
 have:=Yhb ho
 unfold oN thN at this
 rw [if_neg (by omega),if_pos hk] at this
 omega
structure RW (l:Int) (d:Nat) (s:NW):Prop where
 out:∀ o∈s.out,okQ l d o
 gone:∀ t∈s.gone,rt t 63=true∧okk l t=true
 come:∀ t∈s.come,rt t 63=true∧okk l t=true
theorem RW.fl {l:Int} {d:Nat} {s:NW} (h:RW l d s):∀ o∈s.flush,okQ l d o:=fun o ho=>by
 unfold NW.flush at ho
 rcases List.mem_append.1 ho with ho | ho
 ·exact h.out o ho
 rcases List.mem_append.1 ho with ho | ho
 ·by_cases hg:s.gone=[]
  ·rw [hg,Ybg] at ho;cases ho
  rw [Zhy hg] at ho
  rw [List.mem_singleton.1 ho]
  exact .inr (.inl ⟨.inl rfl,rfl,hg,h.gone,rfl⟩)
 by_cases hg:s.come=[]
 ·rw [hg,Z5b] at ho;cases ho
 rw [Zhz hg] at ho
 rw [List.mem_singleton.1 ho]
 exact .inr (.inl ⟨.inr rfl,rfl,hg,h.come,rfl⟩)
theorem Yhv (g:List Tr):oS (Un g)=g.length∧wS (Un g)=0:=by
 by_cases h:g=[]
 ·subst h;exact ⟨rfl,rfl⟩
 rw [Zhy h];simp [oS,wS,oN,wN,thN]
theorem Yhw (g:List Tr):oS (Zau g)=0∧wS (Zau g)=g.length:=by
 by_cases h:g=[]
 ·subst h;exact ⟨rfl,rfl⟩
 rw [Zhz h];simp [oS,wS,oN,wN,thN]
theorem sFl (s:NW):oS s.flush=oS s.out+s.gone.length∧wS s.flush=wS s.out+s.come.length:=by
 unfold NW.flush
 rw [Zk5,Zk5,Zj7,Zj7,(Yhv _).1,(Yhv _).2,(Yhw _).1,(Yhw _).2]
 omega
theorem Yeh {l:Int} {d:Nat} {F:List EO} {n:Int} (hn:1≤n) (hF:∀ o∈F,okQ l d o):(∀ o∈Q1 F n,okQ l d o)∧oS (Q1 F n)=oS F+n.toNat∧wS (Q1 F n)=wS F+n.toNat:=by
 have hq:okQ l d (⟨0,n,[],eS0⟩:EO) := .inl ⟨rfl,hn,rfl,rfl⟩
 by_cases hk:∃ o,F.getLast? = some o∧o.Kind=0
 ·obtain ⟨o,ho,hk0⟩:=hk
  obtain ⟨o',ho'⟩:=List.getLast?_eq_some_iff.1 ho
  subst ho'
  have hoq:=hF o (by simp)
  obtain ⟨k,N,L,E⟩:=o
  simp only at hk0
  subst hk0
  have hN:1≤N∧L=[]∧E=eS0:=by
   rcases hoq with ⟨_,h⟩ | ⟨h,_⟩ | ⟨h,_⟩
   ·exact h
   ·simp at h
   simp at h
  rw [Us]
  refine ⟨fun x hx => ?_,?_,?_⟩
  ·rcases List.mem_append.1 hx with hx | hx
   ·exact hF x (by simp [hx])
   rw [List.mem_singleton.1 hx]
   exact .inl ⟨rfl,by simp only;omega,hN.2⟩
  ·rw [Zk5,Zk5]
   simp [oS,oN,thN]
   omega
  rw [Zj7,Zj7]
  simp [wS,wN,thN]
  omega
 rw [Zdn fun o ho h0=>hk ⟨o,ho,h0⟩]
 refine ⟨fun x hx => ?_,?_,?_⟩
 ·rcases List.mem_append.1 hx with hx | hx
  ·exact hF x hx
  rw [List.mem_singleton.1 hx];exact hq
 ·rw [Zk5]
  simp [oS,oN,thN]
 rw [Zj7]
 simp [wS,wN,thN]
theorem Z2r {e:Ed} {d:Nat} (h:rE e d=true):(nE e).Kind=e.Kind:=by
 rw [Zgf] at h
 rw [Zd1]
 by_cases h1:e.Kind=1
 ·rw [if_pos h1,h1]
 rw [if_neg h1]
 by_cases h2:e.Kind=2
 ·rw [if_pos h2,h2]
 rw [if_neg h2]
 by_cases h3:e.Kind=3
 ·rw [if_pos h3,h3]
 rw [if_neg h3]
 by_cases h0:e.Kind=0
 ·rw [h0];rfl
 rw [if_neg h0,if_neg h1,if_neg h2,if_neg h3] at h
 split at h <;> cases h
theorem Yds {l:Int} {e:Ed} {d:Nat} (h:rE e d=true) (hd:Zki l e=true):Zki l (nE e)=true:=by
 have hk:=Z2r h
 unfold Zki at hd ⊢
 rw [hk]
 split
 ·rename_i h8;rw [if_pos h8] at hd;exact hd
 rename_i h8
 rw [if_neg h8] at hd
 split
 ·rename_i h9
  rw [if_pos h9] at hd
  rw [Bool.or_eq_true,beq_iff_eq,Bool.and_eq_true,Bool.and_eq_true,beq_iff_eq,beq_iff_eq,beq_iff_eq] at hd
  rcases hd with h2 | ⟨h1,ha,hb⟩
  ·rw [h2];rfl
  rw [Zd1,if_pos h1,h1]
  simp only
  rw [Zfq,Zfq,ha,hb]
  rfl
 rename_i h9;rw [if_neg h9] at hd;exact hd
theorem RW.step {l:Int} {d:Nat} {s:NW} (h:RW l d s) {o:EO} (ho:okQ l d o) (hE:o.Kind=3→rE (nE o.E) d=true):RW l d (Ut l s (o,nE o.E))∧oS (Ut l s (o,nE o.E)).flush=oS s.flush+oN o∧wS (Ut l s (o,nE o.E)).flush=wS s.flush+wN o:=by
 have hm:∀ t∈o.L.map nrm,(∀ t∈o.L,rt t 63=true∧okk l t=true)→rt t 63=true∧okk l t=true:=fun t ht hL=>by
  obtain ⟨x,hx,rfl⟩:=List.mem_map.1 ht
  exact ⟨rtN (hL x hx).1,Z8k (hL x hx).2⟩
 have hp:∀ n:Int,1≤n→RW l d ⟨Q1 s.flush n,[],[]⟩∧oS (⟨Q1 s.flush n,[],[]⟩:NW).flush=oS s.flush+n.toNat∧wS (⟨Q1 s.flush n,[],[]⟩:NW).flush=wS s.flush+n.toNat:=fun n hn=>by
  obtain ⟨p1,p2,p3⟩:=Yeh hn h.fl
  rw [Zct]
  exact ⟨⟨p1,by simp,by simp⟩,p2,p3⟩
 rcases ho with ⟨k,h1,h2,h3⟩ | ⟨k,h1,h2,h3,h4⟩ | ⟨k,h1,h2,h3,h4,h5⟩
 ·have e:Ut l s (o,nE o.E)=⟨Q1 s.flush o.N,[],[]⟩:=by
   unfold Ut
   simp only
   rw [if_neg (by omega),if_neg (by omega),if_pos k]
  have e1:oN o=o.N.toNat:=by unfold oN thN;rw [if_neg (by omega),if_pos k]
  have e2:wN o=o.N.toNat:=by unfold wN thN;rw [if_neg (by omega),if_pos k]
  rw [e,e1,e2]
  exact hp o.N h1
 ·by_cases k1:o.Kind=1
  ·have e:Ut l s (o,nE o.E)=⟨s.out,s.gone++o.L.map nrm,s.come⟩:=by
    unfold Ut
    simp only
    rw [if_pos k1]
   have e1:oN o=o.L.length:=by unfold oN thN;rw [if_neg (by omega),if_neg (by omega),if_neg (by omega)]
   have e2:wN o=0:=by unfold wN;rw [if_pos k1]
   rw [e,e1,e2,(sFl _).1,(sFl _).2,(sFl _).1,(sFl _).2]
   refine ⟨⟨h.out,fun t ht => ?_,h.come⟩,by simp only [List.length_append,List.length_map];omega,by simp only;omega⟩
   rcases List.mem_append.1 ht with ht | ht
   ·exact h.gone t ht
   exact hm t ht h3
  have k2:o.Kind=2:=by omega
  have e:Ut l s (o,nE o.E)=⟨s.out,s.gone,s.come++o.L.map nrm⟩:=by
   unfold Ut
   simp only
   rw [if_neg k1,if_pos k2]
  have e1:oN o=0:=by unfold oN;rw [if_pos k2]
  have e2:wN o=o.L.length:=by unfold wN thN;rw [if_neg (by omega),if_neg (by omega),if_neg (by omega)]
  rw [e,e1,e2,(sFl _).1,(sFl _).2,(sFl _).1,(sFl _).2]
  refine ⟨⟨h.out,h.gone,fun t ht => ?_⟩,by simp only;omega,by simp only [List.length_append,List.length_map];omega⟩
  rcases List.mem_append.1 ht with ht | ht
  ·exact h.come t ht
  exact hm t ht h3
 have e1:oN o=1:=by unfold oN thN;rw [if_neg (by omega),if_neg (by omega),if_pos k]
 have e2:wN o=1:=by unfold wN thN;rw [if_neg (by omega),if_neg (by omega),if_pos k]
 rw [e1,e2]
 by_cases hi:Zcj l (nE o.E)=true
 ·have e:Ut l s (o,nE o.E)=⟨Q1 s.flush 1,[],[]⟩:=by
   unfold Ut
   simp only
   rw [if_neg (by omega),if_neg (by omega),if_neg (by omega),if_pos hi]
  rw [e]
  exact hp 1 (by decide)
 have e:Ut l s (o,nE o.E)=⟨s.flush++[⟨3,0,[],nE o.E⟩],[],[]⟩:=by
  unfold Ut
  simp only
  rw [if_neg (by omega),if_neg (by omega),if_neg (by omega),if_neg hi]
 rw [e,Zct,Zk5,Zj7]
 refine ⟨⟨fun x hx => ?_,by simp,by simp⟩,by simp [oS,oN,thN],by simp [wS,wN,thN]⟩
 rcases List.mem_append.1 hx with hx | hx
 ·exact h.fl x hx
 rw [List.mem_singleton.1 hx]
 exact .inr (.inr ⟨rfl,rfl,rfl,by rw [Z2r h5];exact h3,Yds h5 h4,hE k⟩)
theorem RW.fold {l:Int} {d:Nat}:∀ (os:List EO) (s:NW),RW l d s→(∀ o∈os,okQ l d o∧(o.Kind=3→rE (nE o.E) d=true))→RW l d ((Xj os).foldl (Ut l) s)∧oS ((Xj os).foldl (Ut l) s).flush=oS s.flush+oS os∧wS ((Xj os).foldl (Ut l) s).flush=wS s.flush+wS os
 | [],s,h,_=>⟨h,rfl,rfl⟩
 | o::os,s,h,hq=>by
  obtain ⟨q1,q2⟩:=hq o (by simp)
  obtain ⟨s1,s2,s3⟩:=h.step q1 q2
  obtain ⟨f1,f2,f3⟩:=RW.fold os _ s1 fun x hx=>hq x (by simp [hx])
  refine ⟨f1,?_,?_⟩
  ·show oS ((Xj os).foldl (Ut l) (Ut l s (o,nE o.E))).flush=_
   rw [f2,s2]
   simp only [oS,List.map_cons,List.sum_cons]
   omega
  show wS ((Xj os).foldl (Ut l) (Ut l s (o,nE o.E))).flush=_
  rw [f3,s3]
  simp only [wS,List.map_cons,List.sum_cons]
  omega
theorem Z4r {α β:Type} {pl:α→Int} {pl':β→Int} {ok:Int→α→Bool} {ok':Int→β→Bool} {f:α→β} (hp:∀ x,pl' (f x)=pl x):∀ (xs:List α) (p:Int),(∀ p,∀ x∈xs,ok p x=true→ok' p (f x)=true)→chk pl ok p xs=true→chk pl' ok' p (xs.map f)=true
 | [],_,_,_=>rfl
 | x::xs,p,h,hc=>by
  rw [chk,Bool.and_eq_true] at hc
  rw [List.map_cons,chk,Bool.and_eq_true,hp]
  exact ⟨h p x (.head _) hc.1,Z4r hp xs (pl x) (fun p x hx=>h p x (.tail _ hx)) hc.2⟩
theorem Ych {l:Int} {d:Nat} {os:List EO} (hl:∀ o∈os,o.L.length * 56≤140737488355328):((os.all fun o=>okO l o (rE o.E d)) && Zh6 (os.foldl stR (0,0)))=true↔(∀ o∈os,okQ l d o)∧oS os < 1048576∧wS os < 1048576:=by
 rw [Bool.and_eq_true,List.all_eq_true]
 constructor
 ·intro h
  have:=(Zzf (fun o=>rE o.E d) h.1 hl).1 h.2
  exact ⟨fun o ho=>(Yhk (h.1 o ho)).1,this⟩
 intro h
 have hk:∀ o∈os,okO l o (rE o.E d)=true:=fun o ho=>Yhl (h.1 o ho) fun k=>Ybt ho k h.2.1
 exact ⟨hk,(Zzf (fun o=>rE o.E d) hk hl).2 h.2⟩
theorem Z8o:∀ (n:Nat) (e:Ed) (d:Nat),SizeOf.sizeOf e < n→BE e→GN e→rE e d=true→rE (nE e) d=true
 | 0,_,_,h,_,_,_=>by omega
 | n+1,e,d,hn,hb,hg,h=>by
  have hbn:=hb.nE hg
  rw [Zd1] at hbn ⊢
  rw [Zgf] at h
  by_cases hd:d=0
  ·rw [if_pos hd] at h;cases h
  rw [if_neg hd] at h
  by_cases h1:e.Kind=1
  ·rw [if_pos h1]
   rw [if_neg (by omega),if_pos h1] at h
   rw [Zgf,if_neg hd,if_neg (show ¬ (1:Int)=0 from by decide),if_pos rfl]
   simp only [Bool.and_eq_true,bne_iff_ne,ne_eq] at h ⊢
   refine ⟨⟨rfl,rfl⟩,⟨rtN h.2.1.1,by rw [Zfq];exact h.2.1.2⟩,rtN h.2.2.1,by rw [Zfq];exact h.2.2.2⟩
  rw [if_neg h1] at hbn ⊢
  by_cases h2:e.Kind=2
  ·rw [if_pos h2]
   rw [if_neg (by omega),if_neg h1,if_pos h2,Bool.and_eq_true,Bool.and_eq_true,Bool.and_eq_true] at h
   rw [Zgf,if_neg hd,if_neg (show ¬ (2:Int)=0 from by decide),if_neg (show ¬ (2:Int)=1 from by decide),if_pos rfl]
   simp only
   rw [h.2.1,Z4r (ok:=okK (d - 1)) (f:=fun k:Zj=>(⟨k.At,nE k.E⟩:Zj)) (fun _=>rfl) e.Kids (-1) (fun p x hx hk => ?_) h.2.2]
   ·rfl
   unfold okK okP at hk ⊢
   simp only [Bool.and_eq_true] at hk ⊢
   refine ⟨hk.1,?_,Z8o n x.E (d - 1) (by have:=Q6 hx;omega) (hb.ks x hx) (hg.ks x hx) hk.2.2⟩
   rw [Z2r hk.2.2];exact hk.2.1
  rw [if_neg h2] at hbn ⊢
  by_cases h3:e.Kind=3
  ·rw [if_pos h3] at hbn ⊢
   rw [if_neg (by omega),if_neg h1,if_neg h2,if_pos h3,Bool.and_eq_true,Bool.and_eq_true (_ && _),Ych (fun o ho=>(hb.l o ho).1)] at h
   rw [Zgf,if_neg hd,if_neg (show ¬ (3:Int)=0 from by decide),if_neg (show ¬ (3:Int)=1 from by decide),if_neg (show ¬ (3:Int)=2 from by decide),if_pos rfl]
   simp only
   obtain ⟨f1,f2,f3⟩:=RW.fold (l:=e.List_) (d:=d - 1) e.Ops s0N ⟨by simp [s0N],by simp [s0N],by simp [s0N]⟩ fun o ho=>⟨h.2.2.1 o ho,fun k=>by
    rcases h.2.2.1 o ho with ⟨k',_⟩ | ⟨k',_⟩ | ⟨_,_,_,_,_,h5⟩
    ·omega
    ·omega
    exact Z8o n o.E (d - 1) (by have:=Vp ho;omega) (hb.os o ho) (hg.os o ho) h5⟩
   rw [Bool.and_eq_true,Bool.and_eq_true (_ && _),Ych (fun o ho=>(hbn.l o ho).1)]
   have z:oS s0N.flush=0∧wS s0N.flush=0:=⟨rfl,rfl⟩
   refine ⟨rfl,h.2.1,f1.fl,?_⟩
   unfold Zcs
   rw [f2,f3]
   omega
  rw [if_neg h3]
  exact Yfq hd
end Go.Proofs.YtkbcdcffpefklaaGreat
