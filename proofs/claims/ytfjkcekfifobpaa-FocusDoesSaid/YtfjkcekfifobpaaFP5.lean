/- Plain facts on this seat's mirrors (part FP5); each theorem bears its own conditions. -/
import Derived.Test.YtfjkcekfifobpaaFP3
import Derived.IntWalk
namespace Go.Proofs.Ytfjkcekfifobpaa
open Go.RowKit
set_option linter.unusedVariables false
set_option linter.unusedSimpArgs false
theorem Zpt {α:Type} {pl:α→Int} {ok:Int→α→Bool} (h:∀ p x,ok p x=true→p < pl x∧pl x≤65534):∀ (xs:List α) (p:Int),chk pl ok p xs=true→(∀ x∈xs,p < pl x∧pl x≤65534)∧xs.Pairwise (fun a b=>pl a < pl b)
 | [],_,_=>⟨fun x hx=>(by cases hx),.nil⟩
 | x::xs,p,hc=>by
  rw [chk,Bool.and_eq_true] at hc
  have h1:=h p x hc.1
  obtain ⟨h2,h3⟩:=Zpt h xs (pl x) hc.2
  refine ⟨fun y hy => ?_,.cons (fun y hy=>(h2 y hy).1) h3⟩
  rcases List.mem_cons.1 hy with rfl | hy
  ·exact h1
  have:=h2 y hy;omega
theorem Z9t {α:Type} {pl:α→Int} {ok:Int→α→Bool} (h:∀ p x,ok p x=true→p < pl x∧pl x≤65534) {xs:List α} (hc:chk pl ok (-1) xs=true):(∀ x∈xs,0≤pl x∧pl x≤65534)∧xs.Pairwise (fun a b=>(pl a).toNat≠(pl b).toNat):=by
 obtain ⟨h1,h2⟩:=Zpt h xs (-1) hc
 refine ⟨fun x hx=>by have:=h1 x hx;omega,?_⟩
 exact h2.imp_of_mem fun {a b} ha hb hab=>by
  have:=h1 a ha
  have:=h1 b hb
  omega
theorem Z3q (p:Int) (w:Zs) (h:okW p w=true):p < w.At∧w.At≤65534:=by
 unfold okW at h
 simp only [Bool.not_eq_true',Bool.or_eq_false_iff,decide_eq_false_iff_not] at h
 omega
theorem Z3p (d:Nat) (p:Int) (k:Zl) (h:okK d p k=true):p < k.At∧k.At≤65534:=by
 unfold okK okP at h
 simp only [Bool.and_eq_true,Bool.not_eq_true',Bool.or_eq_false_iff,decide_eq_false_iff_not] at h
 omega
theorem Ya1:∀ (n:Nat) (e:Ed) (d:Nat),SizeOf.sizeOf e < n→rE e d=true→RX e
 | 0,_,_,h,_=>by omega
 | n+1,e,d,hn,h=>by
  rw [Zlk] at h
  by_cases hd:d=0
  ·rw [if_pos hd] at h;cases h
  rw [if_neg hd] at h
  by_cases h0:e.Kind=0
  ·exact .same e h0
  rw [if_neg h0] at h
  by_cases h1:e.Kind=1
  ·exact .repl e h1
  rw [if_neg h1] at h
  by_cases h2:e.Kind=2
  ·rw [if_pos h2] at h
   simp only [Bool.and_eq_true] at h
   obtain ⟨w1,w2⟩:=Z9t Z3q h.2.1
   obtain ⟨k1,k2⟩:=Z9t (Z3p (d - 1)) h.2.2
   refine .st e h2 w2 w1 k2 k1 fun k hk=>Ya1 n k.E (d - 1) (by have:=Jv hk;omega) ?_
   exact Zm3 (Q:=fun k:Zl=>rE k.E (d - 1)=true) (fun p x hx=>by
    unfold okK okP at hx
    simp only [Bool.and_eq_true] at hx
    exact hx.2.2) e.Kids (-1) h.2.2 k hk
  rw [if_neg h2] at h
  by_cases h3:e.Kind=3
  ·rw [if_pos h3] at h
   simp only [Bool.and_eq_true,decide_eq_true_eq,List.all_eq_true] at h
   have ho:=h.2.2.1
   refine .li e h3 h.2.1 (fun o hx=>Ztb (ho o hx)) (fun o hx k03 => ?_) fun o hx k3=>Ya1 n o.E (d - 1) (by have:=V4 hx;omega) ?_
   ·have:=ho o hx
    unfold okO at this
    rcases k03 with k0 | k3
    ·rw [if_pos k0] at this
     simp only [Bool.and_eq_true,beq_iff_eq] at this
     exact List.eq_nil_of_length_eq_zero this.2.1
    rw [if_neg (by omega),if_neg (by omega),if_pos k3] at this
    simp only [Bool.and_eq_true,beq_iff_eq] at this
    exact List.eq_nil_of_length_eq_zero this.2.1
   have:=ho o hx
   unfold okO at this
   rw [if_neg (by omega),if_neg (by omega),if_pos k3] at this
   simp only [Bool.and_eq_true] at this
   exact this.2.2.2.2
  rw [if_neg h3] at h;cases h
inductive TX:Tr→Prop
 | mk (t:Tr) (h1:2≤t.Kind∧t.Kind≤9→t.Words=[]) (h9:t.Kind=9→∀ k∈t.Kids,k.Kind=1) (ih:∀ k∈t.Kids,TX k):TX t
theorem TX.w {t:Tr} (h:TX t):2≤t.Kind∧t.Kind≤9→t.Words=[]:=by cases h;assumption
theorem TX.s {t:Tr} (h:TX t):t.Kind=9→∀ k∈t.Kids,k.Kind=1:=by cases h;assumption
theorem TX.all {t:Tr} (h:TX t):∀ k∈t.Kids,TX k:=by cases h;assumption
theorem TX.z:TX Kl := .mk _ (fun _=>rfl) (fun h=>by simp [Kl] at h) (by simp [Kl])
theorem Z34:∀ (n:Nat) (t:Tr) (d:Nat),SizeOf.sizeOf t < n→rt t d=true→TX t
 | 0,_,_,h,_=>by omega
 | n+1,t,d,hn,h=>by
  rw [Zjk] at h
  by_cases h0:t.Kind=0
  ·rw [if_pos h0] at h
   simp only [Bool.and_eq_true,beq_iff_eq] at h
   have hk:=List.eq_nil_of_length_eq_zero h.2
   exact .mk _ (fun h=>by omega) (fun h=>by omega) (by rw [hk];simp)
  rw [if_neg h0] at h
  by_cases h10:t.Kind=10
  ·rw [if_pos h10] at h
   simp only [Bool.and_eq_true,beq_iff_eq] at h
   have hk:=List.eq_nil_of_length_eq_zero h.2
   exact .mk _ (fun h=>by omega) (fun h=>by omega) (by rw [hk];simp)
  rw [if_neg h10] at h
  by_cases hc:t.Kind < 0∨10 < t.Kind∨d=0∨65536≤t.Words.length∨(t.Kind=1∧65536≤t.Kids.length)∨1048576≤t.Kids.length∨(1 < t.Kind∧0 < t.Words.length)
  ·rw [if_pos hc] at h;cases h
  rw [if_neg hc,List.all_eq_true] at h
  refine .mk _ (fun hk=>List.eq_nil_of_length_eq_zero (by omega)) (fun h9 k hk => ?_) fun k hk => ?_
  ·have:=h k hk
   rw [Bool.and_eq_true] at this
   have h2:=this.2
   unfold okk at h2
   rw [if_neg (by omega),h9] at h2
   simp only [Bool.and_eq_true,Bool.or_eq_true,bne_self_eq_false,Bool.false_eq_true,false_or,beq_iff_eq] at h2
   exact h2.2
  have:=h k hk
  rw [Bool.and_eq_true] at this
  exact Z34 n k (d - 1) (by have:=Ga hk;omega) this.1
theorem TX.nn:∀ (n:Nat) (t:Tr),SizeOf.sizeOf t < n→TX t→TX (nrm t)
 | 0,_,h,_=>by omega
 | n+1,t,hn,h=>by
  by_cases h0:t.Kind=0
  ·rw [Zif h0];exact TX.z
  by_cases h1:t.Kind=1
  ·rw [Vm h1]
   refine .mk _ (fun h=>by simp only at h;omega) (fun h=>by simp only at h;omega) fun k hk => ?_
   obtain ⟨y,hy,rfl⟩:=List.mem_map.1 (Zew hk)
   exact TX.nn n y (by have:=Ga hy;omega) (h.all y hy)
  rw [Za1 h0 h1]
  refine .mk _ h.w (fun h9 k hk => ?_) fun k hk => ?_
  ·obtain ⟨y,hy,rfl⟩:=List.mem_map.1 hk
   rw [Ka];exact h.s h9 y hy
  obtain ⟨y,hy,rfl⟩:=List.mem_map.1 hk
  exact TX.nn n y (by have:=Ga hy;omega) (h.all y hy)
theorem TX.n {t:Tr} (h:TX t):TX (nrm t):=TX.nn _ t (Nat.lt_succ_self _) h
theorem Zs4 {α:Type} {z:α} {l:List α} {i:Nat}:Km z l i∈l∨Km z l i=z:=by
 unfold Km
 cases h:l[i]? with
 | none=>exact .inr rfl
 | some x=>exact .inl (List.mem_of_getElem? h)
theorem Zne (o:List Tr) (Q:Tr→Prop) (hz:Q Kl):∀ (ws:List (Nat×(Tr→Option Tr))) (c c':List Tr),(∀ w∈ws,∀ u,w.2 (Km Kl o w.1)=some u→Q u)→(∀ x∈c,Q x)→rnK o ws c=some c'→∀ x∈c',Q x
 | [],c,c',_,hc,h=>by rw [rnK] at h;injection h with h;subst h;exact hc
 | (i,f)::ws,c,c',hw,hc,h=>by
  rw [rnK] at h
  cases hu:f (Km Kl o i) with
  | none=>rw [hu] at h;cases h
  | some u =>
   rw [hu] at h
   refine Zne o Q hz ws _ c' (fun w hx=>hw w (.tail _ hx)) (fun x hx => ?_) h
   rcases Z06 hx with hx | rfl | rfl
   ·exact hc x hx
   ·exact hw _ (.head _) x hu
   exact hz
theorem Z1b (o:List Int):∀ (ws:List Zs) (c c':List Int),(∀ x∈c,0≤x∧x < 18446744073709551616)→rnW o ws c=some c'→∀ x∈c',0≤x∧x < 18446744073709551616
 | [],c,c',hc,h=>by rw [rnW] at h;injection h with h;subst h;exact hc
 | w::ws,c,c',hc,h=>by
  rw [rnW] at h
  split at h
  ·refine Z1b o ws _ c' (fun x hx => ?_) h
   rcases Z06 hx with hx | rfl | rfl
   ·exact hc x hx
   ·exact Ydn _ _
   omega
  cases h
theorem Zmu {I:Tr→Prop}:∀ (os os':List (EO×(Tr→Option Tr))) (l out l' out':List Tr),(∀ x∈l,I x)→rnO os (l,out)=some (l',out') →
  os'.length=os.length→(∀ (j:Nat) o o',os[j]? = some o→os'[j]? = some o'→(o.1.Kind=0∧o'.1.Kind=0∧o'.1.N=o.1.N)∨(o.1.Kind=1∧o'.1.Kind=2∧o'.1.L=o.1.L)∨(o.1.Kind=2∧o'.1.Kind=1∧o'.1.L=o.1.L)∨(o.1.Kind=3∧o'.1.Kind=3∧∀ x u,I x→o.2 x=some u→o'.2 u=some x)) →
  ∃ c n,l=c++l'∧out'=out++n∧∀ x y,rnO os' (n++x,y)=some (x,y++c)
 | [],os',l,out,l',out',_,h,hl,_=>by
  obtain rfl:os'=[]:=List.eq_nil_of_length_eq_zero hl
  rw [rnO] at h
  injection h with h
  injection h with h1 h2
  exact ⟨[],[],h1,by rw [List.append_nil];exact h2.symm,fun x y=>by rw [rnO,List.append_nil,List.nil_append]⟩
 | (o,f)::os,os',l,out,l',out',hI,h,hl,hp=>by
  cases os' with
  | nil=>simp at hl
  | cons q os' =>
   obtain ⟨o',f'⟩:=q
   have h0:=hp 0 _ _ rfl rfl
   have hr:∀ (j:Nat) p p',os[j]? = some p→os'[j]? = some p'→_:=fun j p p' e1 e2=>hp (j+1) p p' (by simpa using e1) (by simpa using e2)
   rw [rnO] at h
   obtain ⟨⟨l1,out1⟩,hs,hrest⟩:=Option.bind_eq_some_iff.1 h
   have hl':os'.length=os.length:=by simpa using hl
   simp only at h0
   unfold stO at hs
   simp only at hs
   rcases h0 with ⟨k0,k0',hN⟩ | ⟨k1,k1',hL⟩ | ⟨k2,k2',hL⟩ | ⟨k3,k3',hf⟩
   ·rw [if_pos k0] at hs
    split at hs
    ·rename_i hc
     injection hs with hs
     injection hs with e1 e2
     subst e1 e2
     obtain ⟨c,n,a1,a2,a3⟩:=Zmu os os' _ _ l' out' (fun x hx=>hI x (List.mem_of_mem_drop hx)) hrest hl' hr
     refine ⟨l.take o.N.toNat++c,l.take o.N.toNat++n,by rw [List.append_assoc,← a1,List.take_append_drop],by rw [a2,List.append_assoc],fun x y => ?_⟩
     have ht:(l.take o.N.toNat).length=o.N.toNat:=by rw [List.length_take];omega
     rw [rnO]
     have:stO o' f' (l.take o.N.toNat++n++x,y)=some (n++x,y++l.take o.N.toNat):=by
      unfold stO
      simp only
      rw [if_pos k0',hN,if_pos ⟨hc.1,by simp only [List.length_append,ht];omega⟩,List.append_assoc,List.drop_left' ht,List.take_left' ht]
     rw [this,Option.bind_some,a3,List.append_assoc]
    cases hs
   ·rw [if_neg (by omega),if_pos k1] at hs
    split at hs
    ·rename_i hc
     injection hs with hs
     injection hs with e1 e2
     subst e1 e2
     obtain ⟨c,n,a1,a2,a3⟩:=Zmu os os' _ _ l' out' (fun x hx=>hI x (List.mem_of_mem_drop hx)) hrest hl' hr
     refine ⟨o.L.map nrm++c,n,by rw [List.append_assoc,← a1,← hc,List.take_append_drop],a2,fun x y => ?_⟩
     rw [rnO]
     have:stO o' f' (n++x,y)=some (n++x,y++o.L.map nrm):=by
      unfold stO
      simp only
      rw [if_neg (by omega),if_neg (by omega),if_pos k1',hL]
     rw [this,Option.bind_some,a3,List.append_assoc]
    cases hs
   ·rw [if_neg (by omega),if_neg (by omega),if_pos k2] at hs
    injection hs with hs
    injection hs with e1 e2
    subst e1 e2
    obtain ⟨c,n,a1,a2,a3⟩:=Zmu os os' _ _ l' out' hI hrest hl' hr
    refine ⟨c,o.L.map nrm++n,a1,by rw [a2,List.append_assoc],fun x y => ?_⟩
    rw [rnO]
    have ht:(o.L.map nrm).length=o.L.length:=List.length_map _
    have:stO o' f' (o.L.map nrm++n++x,y)=some (n++x,y):=by
     unfold stO
     simp only
     rw [if_neg (by omega),if_pos k2',hL,List.append_assoc,if_pos (List.take_left' ht),List.drop_left' ht]
    rw [this,Option.bind_some,a3]
   rw [if_neg (by omega),if_neg (by omega),if_neg (by omega),if_pos k3] at hs
   cases l with
   | nil=>cases hs
   | cons x0 l =>
    simp only at hs
    obtain ⟨u,hu,e⟩:=Option.map_eq_some_iff.1 hs
    injection e with e1 e2
    subst e1 e2
    obtain ⟨c,n,a1,a2,a3⟩:=Zmu os os' _ _ l' out' (fun x hx=>hI x (.tail _ hx)) hrest hl' hr
    refine ⟨x0::c,u::n,by rw [List.cons_append,← a1],by rw [a2,List.append_assoc];rfl,fun x y => ?_⟩
    rw [rnO]
    have:stO o' f' (u::n++x,y)=some (n++x,y++[x0]):=by
     unfold stO
     simp only [List.cons_append]
     rw [if_neg (by omega),if_neg (by omega),if_neg (by omega),if_pos k3',hf x0 u (hI x0 (.head _)) hu]
     rfl
    rw [this,Option.bind_some,a3,List.append_assoc]
    rfl
theorem Ycf (t:Tr):(⟨t.Kind,t.Words,t.Kids⟩:Tr)=t:=by cases t;rfl
theorem Z07 {α:Type} {f:α→Nat}:∀ {l:List α},l.Pairwise (fun a b=>f a≠f b)→∀ a∈l,∀ b∈l,f a=f b→a=b
 | [],_,a,ha,_,_,_=>by cases ha
 | x::l,h,a,ha,b,hb,hab=>by
  obtain ⟨h1,h2⟩:=List.pairwise_cons.1 h
  rcases List.mem_cons.1 ha with ha | ha
  ·rcases List.mem_cons.1 hb with hb | hb
   ·rw [ha,hb]
   exact absurd (by rw [← ha];exact hab) (h1 b hb)
  rcases List.mem_cons.1 hb with hb | hb
  ·exact absurd (by rw [← hb];exact hab.symm) (h1 a ha)
  exact Z07 h2 a ha b hb hab
theorem Zsc (o:List Int) (ws:List Zs) (f:Nat→Int) (j:Nat):(∃ w∈ws,w.At.toNat=j∧upW o ws f j=Zkf (Km 0 o j) w)∨((∀ w∈ws,w.At.toNat≠j)∧upW o ws f j=f j):=by
 unfold upW
 cases h:ws.find? (fun w=>w.At.toNat == j) with
 | some w=>exact .inl ⟨w,List.mem_of_find?_eq_some h,by have:=List.find?_some h;rwa [beq_iff_eq] at this,rfl⟩
 | none=>exact .inr ⟨fun w hw q=>by have:=List.find?_eq_none.1 h w hw;rw [beq_iff_eq] at this;exact this q,rfl⟩
theorem Zsb (o:List Tr) (ws:List (Nat×(Tr→Option Tr))) (f:Nat→Tr) (j:Nat):(∃ w∈ws,w.1=j∧upK o ws f j=(w.2 (Km Kl o j)).getD Kl)∨((∀ w∈ws,w.1≠j)∧upK o ws f j=f j):=by
 unfold upK
 cases h:ws.find? (fun w=>w.1 == j) with
 | some w=>exact .inl ⟨w,List.mem_of_find?_eq_some h,by have:=List.find?_some h;rwa [beq_iff_eq] at this,rfl⟩
 | none=>exact .inr ⟨fun w hw q=>by have:=List.find?_eq_none.1 h w hw;rw [beq_iff_eq] at this;exact this q,rfl⟩
theorem Z1a (P Q:Tr→Prop) (hPQ:∀ x,P x→Q x):∀ (os:List (EO×(Tr→Option Tr))) (l out l' out':List Tr),(∀ x∈l,P x)→(∀ x∈out,Q x)→(∀ o∈os,o.1.Kind=2→∀ x∈o.1.L,Q (nrm x))→(∀ o∈os,o.1.Kind=3→∀ x u,P x→o.2 x=some u→Q u)→rnO os (l,out)=some (l',out')→(∀ x∈l',P x)∧∀ x∈out',Q x
 | [],l,out,l',out',h1,h2,_,_,h=>by
  rw [rnO] at h
  injection h with h
  injection h with e1 e2
  subst e1 e2
  exact ⟨h1,h2⟩
 | (o,f)::os,l,out,l',out',h1,h2,h3,h4,h=>by
  rw [rnO] at h
  obtain ⟨⟨l1,out1⟩,hs,hrest⟩:=Option.bind_eq_some_iff.1 h
  have key:(∀ x∈l1,P x)∧∀ x∈out1,Q x:=by
   unfold stO at hs
   simp only at hs
   split at hs
   ·split at hs
    ·injection hs with hs
     injection hs with e1 e2
     subst e1 e2
     refine ⟨fun x hx=>h1 x (List.mem_of_mem_drop hx),fun x hx => ?_⟩
     rcases List.mem_append.1 hx with hx | hx
     ·exact h2 x hx
     exact hPQ x (h1 x (List.mem_of_mem_take hx))
    cases hs
   split at hs
   ·split at hs
    ·injection hs with hs
     injection hs with e1 e2
     subst e1 e2
     exact ⟨fun x hx=>h1 x (List.mem_of_mem_drop hx),h2⟩
    cases hs
   split at hs
   ·rename_i k2
    injection hs with hs
    injection hs with e1 e2
    subst e1 e2
    refine ⟨h1,fun x hx => ?_⟩
    rcases List.mem_append.1 hx with hx | hx
    ·exact h2 x hx
    obtain ⟨y,hy,rfl⟩:=List.mem_map.1 hx
    exact h3 _ (.head _) k2 y hy
   split at hs
   ·rename_i k3
    cases l with
    | nil=>cases hs
    | cons x0 l =>
     simp only at hs
     obtain ⟨u,hu,e⟩:=Option.map_eq_some_iff.1 hs
     injection e with e1 e2
     subst e1 e2
     refine ⟨fun x hx=>h1 x (.tail _ hx),fun x hx => ?_⟩
     rcases List.mem_append.1 hx with hx | hx
     ·exact h2 x hx
     rw [List.mem_singleton.1 hx]
     exact h4 _ (.head _) k3 x0 u (h1 x0 (.head _)) hu
   cases hs
  exact Z1a P Q hPQ os l1 out1 l' out' key.1 key.2 (fun o ho=>h3 o (.tail _ ho)) (fun o ho=>h4 o (.tail _ ho)) hrest
theorem Z2y {k:Int} {r:Option (List Tr×List Tr)} {u:Tr} (h:Z9w k r=some u):∃ out,r=some ([],out)∧u=⟨k,[],out⟩:=by
 unfold Z9w at h
 split at h
 ·injection h with h
  exact ⟨_,rfl,h.symm⟩
 cases h
theorem Ze4 {l:List Tr} {Q:Tr→Prop} (h:∀ x∈l,Q x) (hz:Q Kl) (i:Nat):Q (Km Kl l i):=by
 rcases Zs4 (z:=Kl) (l:=l) (i:=i) with q | q
 ·exact h _ q
 rw [q];exact hz
theorem Z4o {l:List Int} (h:∀ x∈l,0≤x∧x < 18446744073709551616) (i:Nat):0≤Km 0 l i∧Km 0 l i < 18446744073709551616:=by
 rcases Zs4 (z:=(0:Int)) (l:=l) (i:=i) with q | q
 ·exact h _ q
 rw [q];omega
theorem Yfh (x:Int) (w:Zs):cW (Zkf x w) (swW w)=true:=by
 unfold cW Zkf swW
 rw [decide_eq_true_eq]
 simp only [Int.toNat_natCast]
 exact Z7m _ _ _ _
theorem Yfg {x:Int} (hx:0≤x) {w:Zs} (h:cW x w=true):Zkf (Zkf x w) (swW w)=x:=by
 unfold cW at h
 rw [decide_eq_true_eq] at h
 unfold Zkf swW
 simp only [Int.toNat_natCast]
 rw [Z7m,h]
 omega
theorem Ych {t:Tr} (h:NT t) (h1:t.Kind=1) {ws:List Int} (hw:∀ i,Km 0 ws i=Km 0 t.Words i):tr p0 ws=t.Words:=by
 rw [← (h.words h1).1]
 exact Zw8 rfl ws t.Words (fun x _ hx=>Z0t hx) (fun x _ hx=>Z0t hx) hw
theorem Yd8 {t:Tr} (h:NT t) (h1:t.Kind=1) {ks:List Tr} (hn:∀ x∈ks,NT x) (hw:∀ i,Km Kl ks i=Km Kl t.Kids i):tr pT ks=t.Kids:=by
 rw [← (h.words h1).2]
 exact Zw8 rfl ks t.Kids (fun x hx hp=>(hn x hx).null hp) (fun x hx hp=>(h.kids x hx).null hp) hw
theorem Zyz:∀ (n:Nat) (e:Ed) (t u:Tr),SizeOf.sizeOf e < n→RX e→BE e→NT t→Rg t→TX t→ap e t=some u→NT u∧Rg u∧ap (tE e) u=some t
 | 0,_,_,_,h,_,_,_,_,_,_=>by omega
 | n+1,e,t,u,hn,hx,hb,nt,rg,tx,h=>by
  rw [Zbr] at h
  rw [Zbr (tE e),Yen]
  simp only
  cases hx with
  | same _ k0 =>
   rw [if_pos k0] at h ⊢
   injection h with h
   subst h
   exact ⟨nt,rg,rfl⟩
  | repl _ k1 =>
   rw [if_neg (by omega),if_pos k1] at h ⊢
   split at h
   ·rename_i ht
    injection h with h
    subst h
    exact ⟨NT.of _,hb.new.nrm.rg,by rw [if_pos rfl,ht]⟩
   cases h
  | st _ k2 hw hw2 hk hk2 ih =>
   rw [if_neg (by omega),if_neg (by omega),if_pos k2] at h ⊢
   split at h
   ·rename_i ht
    obtain ⟨ws,e1,h⟩:=Option.bind_eq_some_iff.1 h
    obtain ⟨ks,e2,h⟩:=Option.bind_eq_some_iff.1 h
    injection h with h
    subst h
    simp only
    rw [if_pos trivial]
    have ihk:∀ k∈e.Kids,∀ i v,ap k.E (Km Kl t.Kids i)=some v→NT v∧Rg v∧ap (tE k.E) v=some (Km Kl t.Kids i):=fun k hk i v hv =>
     Zyz n k.E _ v (by have:=Jv hk;omega) (ih k hk) (hb.ks k hk) (Ze4 nt.kids NT.z i) (Ze4 rg.all Rg.z i) (Ze4 tx.all TX.z i) hv
    have hpk:(apK e.Kids).Pairwise (fun a b=>a.1≠b.1):=List.pairwise_map.2 hk
    have hnk:∀ w∈apK e.Kids,∀ v,w.2 (Km Kl t.Kids w.1)=some v→NT v∧Rg v:=fun w hw v hv=>by
     obtain ⟨k,hkm,rfl⟩:=List.mem_map.1 hw
     have:=ihk k hkm _ v hv
     exact ⟨this.1,this.2.1⟩
    have hksm:=Zne t.Kids (fun x=>NT x∧Rg x) ⟨NT.z,Rg.z⟩ (apK e.Kids) t.Kids ks hnk (fun x hx=>⟨nt.kids x hx,rg.all x hx⟩) e2
    have hwsm:=Z1b t.Words e.Words t.Words ws rg.u e1
    obtain ⟨s1,s2⟩:=Zkk t.Words e.Words t.Words hw
    obtain ⟨q1,q2⟩:=Zqk t.Kids (apK e.Kids) t.Kids hpk fun w hw v hv=>(hnk w hw v hv).1
    have okw:Zxj t.Words e.Words:=Classical.byContradiction fun q=>by rw [s2 q] at e1;cases e1
    have okk:Z8z t.Kids (apK e.Kids):=Classical.byContradiction fun q=>by rw [q2 q] at e2;cases e2
    obtain ⟨ws',f1,f2⟩:=s1 okw
    rw [e1] at f1
    injection f1 with f1
    subst f1
    obtain ⟨ks',g1,g2⟩:=q1 okk
    rw [e2] at g1
    injection g1 with g1
    subst g1
    have aw:∀ j,Km 0 (tr p0 ws) j=upW t.Words e.Words (Km 0 t.Words) j:=fun j=>by rw [Zsr ws fun x _ hx=>Z0t hx,f2 j]
    have ak:∀ j,Km Kl (tr pT ks) j=upK t.Kids (apK e.Kids) (Km Kl t.Kids) j:=fun j=>by rw [Zsr ks fun x hx hp=>(hksm x hx).1.null hp,g2 j]
    refine ⟨NT.st fun k hk=>(hksm k hk).1,.mk _ (fun x hx=>hwsm x (Zew hx)) (fun x hx=>(hksm x (Zew hx)).2),?_⟩
    -- back: words
    have hw':(e.Words.map swW).Pairwise (fun a b=>a.At.toNat≠b.At.toNat):=List.pairwise_map.2 hw
    obtain ⟨b1,_⟩:=Zkk (tr p0 ws) (e.Words.map swW) (tr p0 ws) hw'
    have fw:∀ w∈e.Words,Km 0 (tr p0 ws) w.At.toNat=Zkf (Km 0 t.Words w.At.toNat) w:=fun w hwm=>by
     rw [aw]
     rcases Zsc t.Words e.Words (Km 0 t.Words) w.At.toNat with ⟨w',m1,m2,m3⟩ | ⟨m1,_⟩
     ·rw [m3,Z07 (f:=fun w:Zs=>w.At.toNat) hw w' m1 w hwm m2]
     exact absurd rfl (m1 w hwm)
    obtain ⟨ws2,c1,c2⟩:=b1 fun w hwm=>by
     obtain ⟨w0,hm,rfl⟩:=List.mem_map.1 hwm
     show cW (Km 0 (tr p0 ws) w0.At.toNat) (swW w0)=true
     rw [fw w0 hm]
     exact Yfh _ _
    rw [c1,Option.bind_some]
    have d1:tr p0 ws2=t.Words:=Ych nt ht fun j=>by
     rw [c2 j]
     rcases Zsc (tr p0 ws) (e.Words.map swW) (Km 0 (tr p0 ws)) j with ⟨w',m1,m2,m3⟩ | ⟨m1,m3⟩
     ·obtain ⟨w0,hm,rfl⟩:=List.mem_map.1 m1
      have m2':w0.At.toNat=j:=m2
      rw [m3,← m2',fw w0 hm,Yfg (Z4o rg.u _).1 (okw w0 hm)]
     rw [m3,aw]
     rcases Zsc t.Words e.Words (Km 0 t.Words) j with ⟨w',r1,r2,r3⟩ | ⟨r1,r3⟩
     ·exact absurd r2 (m1 (swW w') (List.mem_map.2 ⟨w',r1,rfl⟩))
     exact r3
    -- back: kids
    have fk:∀ k∈e.Kids,∃ v,ap k.E (Km Kl t.Kids k.At.toNat)=some v∧Km Kl (tr pT ks) k.At.toNat=v∧ap (tE k.E) v=some (Km Kl t.Kids k.At.toNat):=fun k hkm=>by
     have:=okk (k.At.toNat,ap k.E) (List.mem_map.2 ⟨k,hkm,rfl⟩)
     simp only at this
     obtain ⟨v,hv⟩:=Option.isSome_iff_exists.1 this
     refine ⟨v,hv,?_,(ihk k hkm _ v hv).2.2⟩
     rw [ak]
     rcases Zsb t.Kids (apK e.Kids) (Km Kl t.Kids) k.At.toNat with ⟨w',m1,m2,m3⟩ | ⟨m1,_⟩
     ·obtain ⟨k',hkm',rfl⟩:=List.mem_map.1 m1
      have hkk:=Z07 (f:=fun w:Zl=>w.At.toNat) hk k' hkm' k hkm m2
      subst hkk
      rw [m3]
      simp only
      rw [hv]
      rfl
     exact absurd rfl (m1 (k.At.toNat,ap k.E) (List.mem_map.2 ⟨k,hkm,rfl⟩))
    have hap:apK (e.Kids.map fun k=>(⟨k.At,tE k.E⟩:Zl))=e.Kids.map fun k=>(k.At.toNat,ap (tE k.E)):=by unfold apK;rw [List.map_map];rfl
    rw [hap]
    have hpk':(e.Kids.map fun k=>(k.At.toNat,ap (tE k.E))).Pairwise (fun a b=>a.1≠b.1):=List.pairwise_map.2 hk
    have hnk':∀ w∈(e.Kids.map fun k=>(k.At.toNat,ap (tE k.E))),∀ v,w.2 (Km Kl (tr pT ks) w.1)=some v→NT v:=fun w hwm v hv=>by
     obtain ⟨k,hkm,rfl⟩:=List.mem_map.1 hwm
     obtain ⟨v0,r1,r2,r3⟩:=fk k hkm
     simp only at hv
     rw [r2,r3] at hv
     injection hv with hv
     rw [← hv]
     exact Ze4 nt.kids NT.z _
    obtain ⟨b2,_⟩:=Zqk (tr pT ks) (e.Kids.map fun k=>(k.At.toNat,ap (tE k.E))) (tr pT ks) hpk' hnk'
    obtain ⟨ks2,k1,k2'⟩:=b2 fun w hwm=>by
     obtain ⟨k,hkm,rfl⟩:=List.mem_map.1 hwm
     obtain ⟨v0,r1,r2,r3⟩:=fk k hkm
     simp only
     rw [r2,r3]
     rfl
    rw [k1,Option.bind_some]
    have hm2:=Zne (tr pT ks) NT NT.z _ (tr pT ks) ks2 hnk' (fun x hx=>(hksm x (Zew hx)).1) k1
    have d2:tr pT ks2=t.Kids:=Yd8 nt ht hm2 fun j=>by
     rw [k2' j]
     rcases Zsb (tr pT ks) (e.Kids.map fun k=>(k.At.toNat,ap (tE k.E))) (Km Kl (tr pT ks)) j with ⟨w',m1,m2,m3⟩ | ⟨m1,m3⟩
     ·obtain ⟨k,hkm,rfl⟩:=List.mem_map.1 m1
      simp only at m2 m3
      obtain ⟨v0,r1,r2,r3⟩:=fk k hkm
      rw [m3,← m2,r2,r3]
      rfl
     rw [m3,ak]
     rcases Zsb t.Kids (apK e.Kids) (Km Kl t.Kids) j with ⟨w',r1,r2,r3⟩ | ⟨r1,r3⟩
     ·obtain ⟨k,hkm,rfl⟩:=List.mem_map.1 r1
      exact absurd r2 (m1 (k.At.toNat,ap (tE k.E)) (List.mem_map.2 ⟨k,hkm,rfl⟩))
     exact r3
    rw [d1,d2,← ht,Ycf]
   cases h
  | li _ k3 hl ho hN ih =>
   rw [if_neg (by omega),if_neg (by omega),if_neg (by omega),if_pos k3] at h ⊢
   split at h
   ·rename_i ht
    obtain ⟨out,e1,rfl⟩:=Z2y h
    simp only
    rw [if_pos ht]
    have I:∀ x∈t.Kids,NT x∧Rg x∧TX x:=fun x hx=>⟨nt.kids x hx,rg.all x hx,tx.all x hx⟩
    have hap:apO (e.Ops.map tO)=e.Ops.map fun o=>(tO o,ap (tO o).E):=by unfold apO;rw [List.map_map];rfl
    have hback:=Zmu (I:=fun x=>NT x∧Rg x∧TX x) (apO e.Ops) (apO (e.Ops.map tO)) t.Kids [] [] out I e1 (by simp [apO]) (fun j o o' h1 h2=>by
     rw [hap,List.getElem?_map] at h2
     unfold apO at h1
     rw [List.getElem?_map] at h1
     cases hj:e.Ops[j]? with
     | none=>rw [hj] at h1;cases h1
     | some q =>
      rw [hj] at h1 h2
      simp only [Option.map_some,Option.some.injEq] at h1 h2
      subst h1 h2
      have hq:=List.mem_of_getElem? hj
      rcases ho q hq with ⟨k,_⟩ | ⟨k,_⟩ | ⟨k,_⟩ | k
      ·refine .inl ⟨k,?_⟩
       rw [Yfq (by omega) (by omega) (by omega)]
       exact ⟨k,rfl⟩
      ·refine .inr (.inl ⟨k,?_⟩)
       rw [Ygr k]
       exact ⟨rfl,rfl⟩
      ·refine .inr (.inr (.inl ⟨k,?_⟩))
       rw [Ygs k]
       exact ⟨rfl,rfl⟩
      refine .inr (.inr (.inr ⟨k,?_⟩))
      rw [Yfr k]
      exact ⟨rfl,fun x v hx hv=>(Zyz n q.E x v (by have:=V4 hq;omega) (ih q hq k) (hb.os q hq) hx.1 hx.2.1 hx.2.2 hv).2.2⟩)
    obtain ⟨c,m,a1,a2,a3⟩:=hback
    rw [List.append_nil] at a1
    rw [List.nil_append] at a2
    subst a1 a2
    have:=a3 [] []
    rw [List.append_nil,List.nil_append] at this
    rw [this]
    have hm:=Z1a (fun x=>NT x∧Rg x∧TX x) (fun x=>NT x∧Rg x) (fun x h=>⟨h.1,h.2.1⟩) (apO e.Ops) t.Kids [] [] out I (fun x hx=>by cases hx) (fun o hom _ x hx=>by
     obtain ⟨q,hq,rfl⟩:=List.mem_map.1 hom
     exact ⟨NT.of x,((hb.l q hq).2 x hx).nrm.rg⟩) (fun o hom hk x v hx hv=>by
     obtain ⟨q,hq,rfl⟩:=List.mem_map.1 hom
     have:=Zyz n q.E x v (by have:=V4 hq;omega) (ih q hq hk) (hb.os q hq) hx.1 hx.2.1 hx.2.2 hv
     exact ⟨this.1,this.2.1⟩) e1
    refine ⟨NT.li (by omega) (by omega) fun x hx=>(hm.2 x hx).1,.mk _ (fun x hx=>by cases hx) (fun x hx=>(hm.2 x hx).2),?_⟩
    show some (⟨t.Kind,[],t.Kids⟩:Tr)=some t
    rw [← tx.w (by omega),Ycf]
   cases h
theorem Z37 {o:EO} (k:o.Kind=3) (f:Tr→Option Tr) (s:List Tr×List Tr):stO o f s=match s.1 with
  | []=>none
  | x::l=>(f x).map fun u=>(l,s.2++[u]):=by
 unfold stO
 rw [if_neg (by omega),if_neg (by omega),if_neg (by omega),if_pos k]
 try (obtain ⟨l,out⟩:=s;cases l <;> rfl)
theorem Zyn (o:EO) (r:List EO):Ke (o::r)=Uk o+Ke r:=by unfold Ke;rw [List.map_cons,List.sum_cons]
theorem Zj3 {α:Type} {a:List α} {i:Nat} {o:α} {ys:List α} (h:a.drop i=o::ys):i < a.length∧a[i]? = some o∧a.drop (i+1)=ys:=by
 have h1:i < a.length:=by
  rcases Nat.lt_or_ge i a.length with h1 | h1
  ·exact h1
  rw [List.drop_eq_nil_of_le h1] at h;cases h
 rw [List.drop_eq_getElem_cons h1] at h
 injection h with h2 h3
 exact ⟨h1,by rw [List.getElem?_eq_getElem h1,h2],h3⟩
theorem drop_nil {α:Type} {a:List α} {i:Nat} (h:a.drop i=[]) (hi:i≤a.length):i=a.length:=by
 have:=congrArg List.length h
 rw [List.length_drop,List.length_nil] at this
 omega
theorem Ye4 {l m:List Tr} (hl:∀ x∈l,Bd x) (hm:∀ x∈m,Bd x) (hn:(l.length:Int)≤140737488355328):Xi l m=some (eqL (l.map nrm) (m.map nrm)) :=
 Zcf (2 * SizeOf.sizeOf l+3) fun k hk=>(Zt7 k).2 l m (fun x hx=>⟨hl x hx,by have:=List.sizeOf_lt_of_mem hx;omega⟩) hm hn (by omega)
theorem Z68:∀ (a b:List Tr),eqL a b=true↔a=b
 | [],[]=>by simp [eqL]
 | [],y::b=>by simp [eqL]
 | x::a,[]=>by simp [eqL]
 | x::a,y::b=>by rw [Zt6,Bool.and_eq_true,eqT_iff,Z68 a b,List.cons.injEq]
theorem Z9o {α β:Type} {z:α} {p:α→Bool} {l:List α} {i j:Nat} {v:α} (f:α→β) (hv:p v=true→f v=f z):f (Km z (Zjv z p l i v) j)=if j=i then f v else f (Km z l j):=by
 unfold Km Zjv
 by_cases hi:i < l.length
 ·rw [if_pos hi,List.getElem?_set]
  by_cases e:i=j
  ·subst e;rw [if_pos rfl,if_pos hi,if_pos rfl];rfl
  rw [if_neg e,if_neg (fun q=>e q.symm)]
 rw [if_neg hi]
 cases hp:p v with
 | true =>
  rw [if_pos rfl]
  split
  ·rename_i e;subst e;rw [List.getElem?_eq_none (by omega),hv hp];rfl
  rfl
 | false =>
  rw [if_neg (by simp)]
  by_cases h1:j < l.length
  ·rw [List.append_assoc,List.getElem?_append_left h1,if_neg (by omega)]
  by_cases h2:j < i
  ·rw [List.getElem?_append_left (by simp only [List.length_append,List.length_replicate];omega),List.getElem?_append_right (by omega),List.getElem?_replicate,if_pos (by omega),if_neg (by omega),List.getElem?_eq_none (by omega)]
   rfl
  by_cases h3:j=i
  ·subst h3
   rw [if_pos rfl,List.getElem?_append_right (by simp only [List.length_append,List.length_replicate];omega)]
   simp only [List.length_append,List.length_replicate]
   rw [show j - (l.length+(j - l.length))=0 by omega]
   rfl
  rw [if_neg h3,List.getElem?_eq_none (by simp only [List.length_append,List.length_replicate,List.length_singleton];omega),List.getElem?_eq_none (by omega)]
theorem Z39 {t:Tr} {i:Int} (h0:0≤i):Zg9 t i=some (Km 0 t.Words i.toNat):=by
 unfold Zg9 Km
 rw [show decide (i < 0)=false from by rw [decide_eq_false_iff_not];omega,cond_false]
 obtain ⟨n,rfl⟩:∃ n:Nat,i=n:=⟨i.toNat,by omega⟩
 rw [Int.toNat_natCast]
 by_cases h:n < t.Words.length
 ·rw [show decide (((t.Words.length:Nat):Int)≤(n:Int))=false from by rw [decide_eq_false_iff_not];omega,cond_false,Yk (List.getElem?_eq_getElem h),List.getElem?_eq_getElem h]
  rfl
 rw [show decide (((t.Words.length:Nat):Int)≤(n:Int))=true from by rw [decide_eq_true_eq];omega,cond_true,List.getElem?_eq_none (by omega)]
 rfl
theorem Z78 {t:Tr} {i:Int} (h0:0≤i):Zgc t i=some (Km Kl t.Kids i.toNat):=by
 unfold Zgc Km
 rw [show decide (i < 0)=false from by rw [decide_eq_false_iff_not];omega,cond_false]
 obtain ⟨n,rfl⟩:∃ n:Nat,i=n:=⟨i.toNat,by omega⟩
 rw [Int.toNat_natCast]
 by_cases h:n < t.Kids.length
 ·rw [show decide (((t.Kids.length:Nat):Int)≤(n:Int))=false from by rw [decide_eq_false_iff_not];omega,cond_false,Yk (List.getElem?_eq_getElem h),List.getElem?_eq_getElem h]
  rfl
 rw [show decide (((t.Kids.length:Nat):Int)≤(n:Int))=true from by rw [decide_eq_true_eq];omega,cond_true,List.getElem?_eq_none (by omega)]
 rfl
theorem Z0s {i:Int} (h:0≤i∧i≤65534):Gm i=some false:=by
 unfold Gm
 rw [show decide (i < 0)=false from by rw [decide_eq_false_iff_not];omega,show decide (65534 < i)=false from by rw [decide_eq_false_iff_not];omega]
 rfl
theorem Z36 {α:Type} (l:List α) (z v:α) (n:Nat) (h:l.length≤n):(l++List.replicate (n+1 - l.length) z).set n v=l++List.replicate (n - l.length) z++[v]:=by
 rw [show n+1 - l.length=(n - l.length)+1 by omega,List.replicate_succ',← List.append_assoc,List.set_append,if_neg (by simp only [List.length_append,List.length_replicate];omega)]
 simp only [List.length_append,List.length_replicate]
 rw [show n - (l.length+(n - l.length))=0 by omega]
 rfl
theorem Ztg {α:Type} (l:List α) (n:Nat) (v:α):Zgm l (n:Int) v=l.set n v:=by unfold Zgm;rw [Int.toNat_natCast]
theorem Z5f {k:Int} {ws:List Int} {ks:List Tr} {i:Int} {v:Int} (hi:0≤i∧i≤65534) (hl:ws.length≤10000000):Zby ⟨k,ws,ks⟩ i v=some ⟨k,Zjv 0 p0 ws i.toNat v,ks⟩:=by
 obtain ⟨n,rfl⟩:∃ n:Nat,i=n:=⟨i.toNat,by omega⟩
 rw [Int.toNat_natCast]
 have hloop:Zx (Gb (n:Int) v) ws=some (if ws.length≤n∧v≠0 then ws++List.replicate (n+1 - ws.length) 0 else ws):=by
  by_cases hg:ws.length≤n∧v≠0
  ·rw [if_pos hg]
   refine Zvx (fun s=>∃ j,j≤n+1 - ws.length∧s=ws++List.replicate j 0) (fun s=>n+1 - s.length) ?_ _ ⟨0,Nat.zero_le _,by simp⟩
   rintro s ⟨j,hj,rfl⟩
   unfold Gb
   rw [show (v != 0)=true from bne_iff_ne.2 hg.2]
   by_cases hl2:j < n+1 - ws.length
   ·left
    refine ⟨ws++List.replicate (j+1) 0,?_,⟨j+1,by omega,rfl⟩,by simp only [List.length_append,List.length_replicate];omega⟩
    rw [show decide (((ws++List.replicate j (0:Int)).length:Int)≤(n:Int))=true from by rw [decide_eq_true_eq];simp only [List.length_append,List.length_replicate];omega,cond_true,cond_true,Gj (by simp only [List.length_append,List.length_replicate,List.length_singleton];omega) (by simp only [List.length_append,List.length_replicate,List.length_singleton];omega),Option.bind_some,List.append_assoc,← List.replicate_succ']
   right
   rw [show decide (((ws++List.replicate j (0:Int)).length:Int)≤(n:Int))=false from by rw [decide_eq_false_iff_not];simp only [List.length_append,List.length_replicate];omega,cond_false,cond_false,show j=n+1 - ws.length by omega]
  rw [if_neg hg]
  refine Yl ?_
  unfold Gb
  by_cases h1:ws.length≤n
  ·have hv:v=0:=Classical.byContradiction fun q=>hg ⟨h1,q⟩
   rw [hv]
   cases decide (((ws.length:Nat):Int)≤(n:Int)) <;> rfl
  rw [show decide (((ws.length:Nat):Int)≤(n:Int))=false from by rw [decide_eq_false_iff_not];omega]
  rfl
 unfold Zby
 simp only
 rw [hloop,Option.bind_some]
 unfold Zjv
 by_cases hn:n < ws.length
 ·rw [if_neg (by omega),if_pos hn,Zak hn,cond_true,Yk (List.getElem?_eq_getElem hn),Option.bind_some,Ztg]
 rw [if_neg hn]
 by_cases hv:v=0
 ·rw [if_neg (fun q=>q.2 hv),show decide ((n:Int) < ((ws.length:Nat):Int))=false from by rw [decide_eq_false_iff_not];omega,cond_false,if_pos (by unfold p0;rw [hv];rfl)]
 have hlen:n < (ws++List.replicate (n+1 - ws.length) (0:Int)).length:=by simp only [List.length_append,List.length_replicate];omega
 rw [if_pos ⟨by omega,hv⟩,Zak hlen,cond_true,Yk (List.getElem?_eq_getElem hlen),Option.bind_some,Ztg,if_neg (by unfold p0;rw [beq_iff_eq];exact hv),Z36 _ _ _ _ (by omega)]
theorem Z86 {k:Int} {ws:List Int} {ks:List Tr} {i:Int} {v:Tr} (hi:0≤i∧i≤65534) (hl:ks.length≤10000000):Zc4 ⟨k,ws,ks⟩ i v=some ⟨k,ws,Zjv Kl pT ks i.toNat v⟩:=by
 obtain ⟨n,rfl⟩:∃ n:Nat,i=n:=⟨i.toNat,by omega⟩
 rw [Int.toNat_natCast]
 have hloop:Zx (G4 (n:Int) v) ks=some (if ks.length≤n∧v.Kind≠0 then ks++List.replicate (n+1 - ks.length) Kl else ks):=by
  by_cases hg:ks.length≤n∧v.Kind≠0
  ·rw [if_pos hg]
   refine Zvx (fun s=>∃ j,j≤n+1 - ks.length∧s=ks++List.replicate j Kl) (fun s=>n+1 - s.length) ?_ _ ⟨0,Nat.zero_le _,by simp⟩
   rintro s ⟨j,hj,rfl⟩
   unfold G4
   rw [show (v.Kind != 0)=true from bne_iff_ne.2 hg.2]
   by_cases hl2:j < n+1 - ks.length
   ·left
    refine ⟨ks++List.replicate (j+1) Kl,?_,⟨j+1,by omega,rfl⟩,by simp only [List.length_append,List.length_replicate];omega⟩
    have hap:Zbe 56 (ks++List.replicate j Kl) ([(⟨0,([]:(List Int)),([]:(List Zb))⟩:Zb)]:List Zb)=some ((ks++List.replicate j Kl)++[Kl]):=Gj (by simp only [List.length_append,List.length_replicate,List.length_singleton];omega) (by simp only [List.length_append,List.length_replicate,List.length_singleton];omega)
    have hgt:Xp ((ks++List.replicate j Kl)++[Kl]) ((ks++List.replicate j Kl).length:Int)=some Kl:=Yk (by rw [List.getElem?_append_right (Nat.le_refl _),Nat.sub_self];rfl)
    rw [show decide (((ks++List.replicate j Kl).length:Int)≤(n:Int))=true from by rw [decide_eq_true_eq];simp only [List.length_append,List.length_replicate];omega,cond_true,cond_true,hap,Option.bind_some,hgt,Option.bind_some,List.replicate_succ',← List.append_assoc]
    rfl
   right
   rw [show decide (((ks++List.replicate j Kl).length:Int)≤(n:Int))=false from by rw [decide_eq_false_iff_not];simp only [List.length_append,List.length_replicate];omega,cond_false,cond_false,show j=n+1 - ks.length by omega]
  rw [if_neg hg]
  refine Yl ?_
  unfold G4
  by_cases h1:ks.length≤n
  ·have hv:v.Kind=0:=Classical.byContradiction fun q=>hg ⟨h1,q⟩
   rw [hv]
   cases decide (((ks.length:Nat):Int)≤(n:Int)) <;> rfl
  rw [show decide (((ks.length:Nat):Int)≤(n:Int))=false from by rw [decide_eq_false_iff_not];omega]
  rfl
 unfold Zc4
 simp only
 rw [hloop,Option.bind_some]
 unfold Zjv
 by_cases hn:n < ks.length
 ·rw [if_neg (by omega),if_pos hn,Zak hn,cond_true,Yk (List.getElem?_eq_getElem hn),Option.bind_some,Ztg]
 rw [if_neg hn]
 by_cases hv:v.Kind=0
 ·rw [if_neg (fun q=>q.2 hv),show decide ((n:Int) < ((ks.length:Nat):Int))=false from by rw [decide_eq_false_iff_not];omega,cond_false,if_pos (by unfold pT;rw [hv];rfl)]
 have hlen:n < (ks++List.replicate (n+1 - ks.length) Kl).length:=by simp only [List.length_append,List.length_replicate];omega
 rw [if_pos ⟨by omega,hv⟩,Zak hlen,cond_true,Yk (List.getElem?_eq_getElem hlen),Option.bind_some,Ztg,if_neg (by unfold pT;rw [beq_iff_eq];exact hv),Z36 _ _ _ _ (by omega)]
theorem Z61 {e:Ed} {t:Tr} {ks:List Tr} (hb:BE e) (hw2:∀ w∈e.Words,0≤w.At∧w.At≤65534) (ht:Bd t):∀ (ws:List Zs) (i:Nat) (cur:List Int),e.Words.drop i=ws→i≤e.Words.length→cur.length≤5000000 →
  Zx (Qz e t) ((i:Int),1,cur,ks)=some (match rnW t.Words ws cur with | none => .inl () | some c => .inr (1,c,ks))
 | [],i,cur,hd,hi,hc=>by
  obtain rfl:=drop_nil hd hi
  refine Yl ?_
  unfold Qz
  simp only
  rw [Zcu,cond_false]
  rfl
 | w::ws,i,cur,hd,hi,hc=>by
  obtain ⟨hi',hx,hd'⟩:=Zj3 hd
  have hm:=List.mem_of_getElem? hx
  have hA:=hw2 w hm
  obtain ⟨⟨m0,m1⟩,⟨o0,o1⟩,n0,n1⟩:=hb.ws w hm
  have hlen:=hb.w
  have hr:=Z4o ht.u w.At.toNat
  have hxn:((Km 0 t.Words w.At.toNat).toNat:Int)=Km 0 t.Words w.At.toNat:=by omega
  have hchk:(IntKind.u64.wrap (Zez .u64 (IntKind.u64.wrap (Zg8 .u64 (Km 0 t.Words w.At.toNat) w.Old)) ((Kk w.Mask.toNat 8:Nat):Int)) != 0) = !(cW (Km 0 t.Words w.At.toNat) w):=by
   have:=Yea (a:=(Km 0 t.Words w.At.toNat).toNat) (b:=w.Old.toNat) (m:=w.Mask.toNat) (by omega) (by omega)
   rw [hxn,show ((w.Old.toNat:Nat):Int)=w.Old by omega] at this
   exact this
  have hwide:Zad w.Mask=some ((Kk w.Mask.toNat 8:Nat):Int):=by
   have:=Z2h w.Mask.toNat (by omega)
   rwa [show ((w.Mask.toNat:Nat):Int)=w.Mask by omega] at this
  have hmix:Zgd (Km 0 t.Words w.At.toNat) w.New w.Mask=some (Zkf (Km 0 t.Words w.At.toNat) w):=by
   have:=Yeb (a:=(Km 0 t.Words w.At.toNat).toNat) (b:=w.New.toNat) (m:=w.Mask.toNat) (by omega) (by omega) (by omega)
   rw [hxn,show ((w.New.toNat:Nat):Int)=w.New by omega,show ((w.Mask.toNat:Nat):Int)=w.Mask by omega] at this
   exact this
  have hput:=Z5f (k:=1) (ws:=cur) (ks:=ks) (i:=w.At) (v:=Zkf (Km 0 t.Words w.At.toNat) w) hA (by omega)
  have hpl:=(Z05 (z:=(0:Int)) (p:=p0) (l:=cur) (i:=w.At.toNat) (v:=Zkf (Km 0 t.Words w.At.toNat) w)).2
  rw [rnW]
  cases hcw:cW (Km 0 t.Words w.At.toNat) w with
  | false =>
   rw [if_neg (by simp)]
   refine Yl ?_
   unfold Qz
   simp only
   rw [Zak hi',cond_true,Yk hx,Option.bind_some,Z39 hA.1,Option.bind_some,Z0s hA,Option.bind_some,cond_false,hwide,Option.bind_some,Option.bind_some,cond_false,hchk,hcw]
   rfl
  | true =>
   rw [if_pos rfl]
   have hstep:Qz e t ((i:Int),1,cur,ks)=some (.inl (((i+1:Nat):Int),1,Zjv 0 p0 cur w.At.toNat (Zkf (Km 0 t.Words w.At.toNat) w),ks)):=by
    unfold Qz
    simp only
    rw [Zak hi',cond_true,Yk hx,Option.bind_some,Z39 hA.1,Option.bind_some,Z0s hA,Option.bind_some,cond_false,hwide,Option.bind_some,Option.bind_some,cond_false,hchk,hcw,Bool.not_true,cond_false,hmix,Option.bind_some,hput,Option.bind_some,Ki (by omega) (by omega)]
    rfl
   rw [Xh hstep]
   exact Z61 hb hw2 ht ws (i+1) _ hd' (by omega) (by omega)
def RN (c cN:List Tr):Prop:=∀ j,nrm (Km Kl c j)=Km Kl cN j
theorem RN.put {c cN:List Tr} (h:RN c cN) {i:Nat} {v u:Tr} (hv:nrm v=u):RN (Zjv Kl pT c i v) (Zjv Kl pT cN i u):=fun j=>by
 have hnu:NT u:=by rw [← hv];exact NT.of v
 rw [Zpq (fun q=>hnu.null q),Z9o nrm (fun q=>by unfold pT at q;rw [beq_iff_eq] at q;rw [Zif q];exact NT.z.symm),hv,h j]
def AOk (f:Ed→Tr→Option (Tr×Bool)) (e:Ed) (t:Tr):Prop:=∃ v b,f e t=some (v,b)∧b=(ap e (nrm t)).isSome∧∀ u,ap e (nrm t)=some u→nrm v=u∧Bd v
theorem Yay:pt Kl=1:=by rw [Zji];rfl
theorem Z6z {f:Ed→Tr→Option (Tr×Bool)} {e:Ed} {t:Tr} {ws:List Int} (hb:BE e) (hk2:∀ k∈e.Kids,0≤k.At∧k.At≤65534) (ho:∀ i,Km Kl (nrm t).Kids i=nrm (Km Kl t.Kids i)) (ht:Bd t) (hp:pt t≤1000000) (ih:∀ k∈e.Kids,∀ x,Bd x→pt x≤1000000→AOk f k.E x):∀ (ks:List Zl) (i:Nat) (cur curN:List Tr),e.Kids.drop i=ks→i≤e.Kids.length→RN cur curN→(∀ x∈cur,Bd x)→cur.length≤5000000 →
  ∃ r,Zx (Qe f e t) ((i:Int),1,ws,cur)=some r∧(rnK (nrm t).Kids (apK ks) curN=none→r = .inl ())∧∀ cN,rnK (nrm t).Kids (apK ks) curN=some cN→∃ c,r = .inr (1,ws,c)∧RN c cN∧(∀ x∈c,Bd x)∧c.length≤5000000
 | [],i,cur,curN,hd,hi,hR,hB,hc=>by
  obtain rfl:=drop_nil hd hi
  refine ⟨.inr (1,ws,cur),Yl ?_,fun h=>(by cases h),fun cN h => ?_⟩
  ·unfold Qe
   simp only
   rw [Zcu,cond_false]
  injection h with h
  subst h
  exact ⟨cur,rfl,hR,hB,hc⟩
 | k::ks,i,cur,curN,hd,hi,hR,hB,hc=>by
  obtain ⟨hi',hx,hd'⟩:=Zj3 hd
  have hm:=List.mem_of_getElem? hx
  have hA:=hk2 k hm
  have hlen:=hb.k
  have hkb:Bd (Km Kl t.Kids k.At.toNat):=Ze4 ht.all Zj0 _
  have hkp:pt (Km Kl t.Kids k.At.toNat)≤1000000:=by
   rcases Zs4 (z:=Kl) (l:=t.Kids) (i:=k.At.toNat) with q | q
   ·have:=Zup q;omega
   rw [q,Yay];omega
  obtain ⟨v,b,h1,h2,h3⟩:=ih k hm _ hkb hkp
  show ∃ r,Zx (Qe f e t) ((i:Int),1,ws,cur)=some r∧(rnK (nrm t).Kids ((k.At.toNat,ap k.E)::apK ks) curN=none→r = .inl ())∧∀ cN,rnK (nrm t).Kids ((k.At.toNat,ap k.E)::apK ks) curN=some cN→_
  rw [rnK,ho]
  cases hu:ap k.E (nrm (Km Kl t.Kids k.At.toNat)) with
  | none =>
   rw [hu] at h2
   refine ⟨.inl (),Yl ?_,fun _=>rfl,fun cN h=>by cases h⟩
   unfold Qe
   simp only
   rw [Zak hi',cond_true,Yk hx,Option.bind_some,Z78 hA.1,Option.bind_some,h1,Option.bind_some,Z0s hA,Option.bind_some,cond_false,h2]
   rfl
  | some u =>
   rw [hu] at h2
   obtain ⟨h4,h5⟩:=h3 u hu
   have hput:=Z86 (k:=1) (ws:=ws) (ks:=cur) (i:=k.At) (v:=v) hA (by omega)
   have hpl:=(Z05 (z:=Kl) (p:=pT) (l:=cur) (i:=k.At.toNat) (v:=v)).2
   have hstep:Qe f e t ((i:Int),1,ws,cur)=some (.inl (((i+1:Nat):Int),1,ws,Zjv Kl pT cur k.At.toNat v)):=by
    unfold Qe
    simp only
    rw [Zak hi',cond_true,Yk hx,Option.bind_some,Z78 hA.1,Option.bind_some,h1,Option.bind_some,Z0s hA,Option.bind_some,cond_false,h2]
    simp only [Option.isSome_some,Bool.not_true,cond_false]
    rw [hput,Option.bind_some,Ki (by omega) (by omega)]
    rfl
   rw [Xh hstep]
   exact Z6z hb hk2 ho ht hp ih ks (i+1) _ _ hd' (by omega) (hR.put h4) (fun x hx=>by
    rcases Z06 hx with hx | rfl | rfl
    ·exact hB x hx
    ·exact h5
    exact Zj0) (by omega)
theorem Z4m {f1:Ed→Tr→Option (Tr×Bool)} {f2 f3:Ed→Tr→Option (Tr×Bool)} {f4:Zh→EO→Option (Bool×Zh)} {f5:Zh→Ed→Option (Bool×Zh)} {e:Ed} {t:Tr} (k2:e.Kind=2) (hb:BE e)
  (hw:e.Words.Pairwise (fun a b=>a.At.toNat≠b.At.toNat)) (hw2:∀ w∈e.Words,0≤w.At∧w.At≤65534) (hk:e.Kids.Pairwise (fun a b=>a.At.toNat≠b.At.toNat)) (hk2:∀ k∈e.Kids,0≤k.At∧k.At≤65534) (ht:Bd t) (hp:pt t≤1000000)
  (ih:∀ k∈e.Kids,∀ x,Bd x→pt x≤1000000→AOk f1 k.E x):AOk (V6 f1 f2 f3 f4 f5) e t:=by
 have hpt:=hp
 rw [Zji] at hpt
 have hkl:t.Kids.length≤(t.Kids.map pt).sum:=Zl8 fun x _=>by rw [Zji];omega
 unfold AOk V6
 rw [Zbr,if_neg (by omega),if_neg (by omega),if_pos k2,Ka]
 by_cases h1:t.Kind=1
 ·rw [if_pos h1,show (t.Kind != 1)=false from by rw [h1];rfl,cond_false]
  unfold Ug Kv
  rw [Gj (by simp only [List.length_nil];omega) (by simp only [List.length_nil];omega),Option.bind_some,Gj (by simp only [List.length_nil];omega) (by simp only [List.length_nil];omega),Option.bind_some,List.nil_append,List.nil_append]
  have hwl:=Z61 (ks:=t.Kids) hb hw2 ht e.Words 0 t.Words rfl (Nat.zero_le _) (by omega)
  rw [show (((0:Nat):Int))=0 from rfl] at hwl
  rw [hwl,Option.bind_some]
  have nw:(nrm t).Words=tr p0 t.Words:=by rw [Vm h1];rfl
  have nk:(nrm t).Kids=tr pT (t.Kids.map nrm):=by rw [Vm h1];rfl
  have hatw:∀ i,Km 0 (nrm t).Words i=Km 0 t.Words i:=fun i=>by rw [nw,Zsr t.Words fun x _ hx=>Z0t hx]
  have hatm:∀ (l:List Tr) i,Km Kl (l.map nrm) i=nrm (Km Kl l i):=fun l i=>by
   unfold Km
   rw [List.getElem?_map]
   cases l[i]? with
   | none=>exact NT.z.symm
   | some x=>rfl
  have hatk:∀ i,Km Kl (nrm t).Kids i=nrm (Km Kl t.Kids i):=fun i=>by
   rw [nk,Zsr (t.Kids.map nrm) (fun x hx hp=>by obtain ⟨y,_,rfl⟩:=List.mem_map.1 hx;exact (NT.of y).null hp),hatm]
  obtain ⟨s1,s2⟩:=Zkk t.Words e.Words t.Words hw
  obtain ⟨n1,n2⟩:=Zkk (nrm t).Words e.Words (nrm t).Words hw
  have hok:Zxj t.Words e.Words↔Zxj (nrm t).Words e.Words:=by
   unfold Zxj
   constructor
   ·intro h w hw;rw [hatw];exact h w hw
   intro h w hw;rw [← hatw];exact h w hw
  by_cases hO:Zxj t.Words e.Words
  ·obtain ⟨c,q1,q2⟩:=s1 hO
   obtain ⟨cN,q3,q4⟩:=n1 (hok.1 hO)
   rw [q1,q3]
   simp only [Option.bind_some]
   have hcN:tr p0 c=tr p0 cN:=Zw8 rfl c cN (fun x _ hx=>Z0t hx) (fun x _ hx=>Z0t hx) fun j=>by
    rw [q2,q4]
    unfold upW
    rw [hatw]
   have hcm:=Z1b t.Words e.Words t.Words c ht.u q1
   have hcl:c.length≤5000000:=by
    have:∀ (ws:List Zs) (cur c:List Int),(∀ w∈ws,0≤w.At∧w.At≤65534)→cur.length≤5000000→rnW t.Words ws cur=some c→c.length≤5000000:=fun ws=>by
     induction ws with
     | nil=>intro cur c _ hl h;rw [rnW] at h;injection h with h;subst h;exact hl
     | cons w ws ih2 =>
      intro cur c hA hl h
      rw [rnW] at h
      split at h
      ·have h1:=hA w (.head _)
       have:=(Z05 (z:=(0:Int)) (p:=p0) (l:=cur) (i:=w.At.toNat) (v:=Zkf (Km 0 t.Words w.At.toNat) w)).2
       exact ih2 _ c (fun x hx=>hA x (.tail _ hx)) (by omega) h
      cases h
    exact this e.Words t.Words c hw2 (by omega) q1
   obtain ⟨r,r1,r2,r3⟩:=Z6z (ws:=c) hb hk2 hatk ht hp ih e.Kids 0 t.Kids (nrm t).Kids rfl (Nat.zero_le _) (fun j=>(hatk j).symm) ht.all (by omega)
   rw [show (((0:Nat):Int))=0 from rfl] at r1
   rw [r1,Option.bind_some]
   cases hK:rnK (nrm t).Kids (apK e.Kids) (nrm t).Kids with
   | none =>
    rw [r2 hK]
    exact ⟨_,_,rfl,rfl,fun u h=>by cases h⟩
   | some kN =>
    obtain ⟨kc,g1,g2,g3,g4⟩:=r3 kN hK
    rw [g1]
    have hkN:∀ x∈kN,NT x:=Zne (nrm t).Kids NT NT.z (apK e.Kids) (nrm t).Kids kN (fun w hwm u hu=>by
     obtain ⟨k,hkm,rfl⟩:=List.mem_map.1 hwm
     simp only at hu
     rw [hatk] at hu
     have hkb:Bd (Km Kl t.Kids k.At.toNat):=Ze4 ht.all Zj0 _
     have hkp:pt (Km Kl t.Kids k.At.toNat)≤1000000:=by
      rcases Zs4 (z:=Kl) (l:=t.Kids) (i:=k.At.toNat) with q | q
      ·have:=Zup q;omega
      rw [q,Yay];omega
     obtain ⟨v,b,_,_,z3⟩:=ih k hkm _ hkb hkp
     rw [← (z3 u hu).1]
     exact NT.of v) (NT.of t).kids hK
    refine ⟨_,_,rfl,rfl,fun u h => ?_⟩
    injection h with h
    subst h
    refine ⟨?_,.mk _ (by simp only;omega) (by simp only;omega) hcm g3⟩
    rw [Vm rfl]
    simp only
    congr 1
    exact Zw8 rfl (kc.map nrm) kN (fun x hx hp=>by obtain ⟨y,_,rfl⟩:=List.mem_map.1 hx;exact (NT.of y).null hp) (fun x hx hp=>(hkN x hx).null hp) fun j=>by rw [hatm,g2 j]
  rw [s2 hO,n2 fun q=>hO (hok.2 q)]
  exact ⟨_,_,rfl,rfl,fun u h=>by cases h⟩
 rw [if_neg h1,show (t.Kind != 1)=true from bne_iff_ne.2 h1]
 exact ⟨_,_,rfl,rfl,fun u h=>by cases h⟩
def SOk (f:Zh→EO→Option (Bool×Zh)) (o:EO) (left out:List Tr):Prop:=∃ b st,f ⟨left,out⟩ o=some (b,st)∧(stO o (ap o.E) (left.map nrm,out.map nrm)=none→b=false) ∧
 ∀ s',stO o (ap o.E) (left.map nrm,out.map nrm)=some s'→b=true∧st.left.map nrm=s'.1∧st.out.map nrm=s'.2∧(∀ x∈st.left,x∈left)∧(∀ x∈st.out,Bd x)∧st.out.length≤out.length+Uk o∧st.left.length≤left.length
def Ycw (f:Zh→Ed→Option (Bool×Zh)) (E:Ed) (left out:List Tr):Prop:=∃ b st,f ⟨left,out⟩ E=some (b,st)∧(left=[]→b=false) ∧
 ∀ x l,left=x::l→b=(ap E (nrm x)).isSome∧∀ u,ap E (nrm x)=some u→∃ v,st=⟨l,out++[v]⟩∧nrm v=u∧Bd v
theorem Z9h {f1 f2 f3:Ed→Tr→Option (Tr×Bool)} {f4:Zh→EO→Option (Bool×Zh)} {f5:Zh→Ed→Option (Bool×Zh)} {E:Ed} {left out:List Tr} (hl:left.length≤5000000) (ho:out.length≤2000000000)
  (ih:∀ x∈left,AOk f1 E x):Ycw (Kr f1 f2 f3 f4 f5) E left out:=by
 unfold Ycw Kr
 cases left with
 | nil=>exact ⟨false,_,rfl,fun _=>rfl,fun x l h=>by cases h⟩
 | cons x l =>
  obtain ⟨v,b,h1,h2,h3⟩:=ih x (.head _)
  have e0:Xp (x::l) 0=some x:=Yk (i:=0) rfl
  have hap:Zbe 56 out ([(⟨0,([]:(List Int)),([]:(List Zb))⟩:Zb)]:List Zb)=some (out++[Kl]):=Gj (by simp only [List.length_singleton];omega) (by simp only [List.length_singleton];omega)
  have hgt:Xp (out++[Kl]) (out.length:Int)=some Kl:=Yk (by rw [List.getElem?_append_right (Nat.le_refl _),Nat.sub_self];rfl)
  have hsub:Zd1 (x::l) 1 ((x::l).length:Int)=some l:=by
   rw [Zk9 (by omega) (by rw [List.length_cons];omega) (Int.le_refl _)]
   simp
  simp only
  rw [show (((x::l).length:Int) == 0)=false from by rw [beq_eq_false_iff_ne,List.length_cons];omega,cond_false,e0,Option.bind_some,h1,Option.bind_some,hap,Option.bind_some,hgt,Option.bind_some,hsub,Option.bind_some]
  refine ⟨b,_,rfl,fun h=>(by cases h),fun x' l' h => ?_⟩
  injection h with e1 e2
  subst e1 e2
  exact ⟨h2,fun u hu=>⟨v,rfl,h3 u hu⟩⟩
theorem Z9j {f1 f2 f3:Ed→Tr→Option (Tr×Bool)} {f4:Zh→EO→Option (Bool×Zh)} {f5:Zh→Ed→Option (Bool×Zh)} {o:EO} {left out:List Tr} (hop:opk o) (hL:∀ t∈o.L,Bd t) (hLl:o.L.length≤1073741824) (hl:left.length≤5000000) (ho:out.length≤2000000000) (hlb:∀ x∈left,Bd x) (hob:∀ x∈out,Bd x)
  (ih:o.Kind=3→Ycw f5 o.E left out):SOk (Ul f1 f2 f3 f4 f5) o left out:=by
 unfold SOk Ul
 simp only
 rcases hop with ⟨k,h1⟩ | ⟨k,h1⟩ | ⟨k,h1⟩ | k
 ·have ht:Uk o=o.N.toNat:=if_pos k
  unfold stO
  rw [if_pos k,show (o.Kind == 0)=true from by rw [k];rfl,cond_true,show decide (o.N < 0)=false from by rw [decide_eq_false_iff_not];omega,cond_false,cond_false,Option.bind_some]
  simp only [List.length_map]
  by_cases hle:o.N.toNat≤left.length
  ·rw [if_pos ⟨by omega,hle⟩,show decide (((left.length:Nat):Int) < o.N)=false from by rw [decide_eq_false_iff_not];omega,cond_false,Zk9 (by omega) (by omega) (by omega),Option.bind_some]
   have e1:(left.drop (Int.toNat 0)).take (o.N - 0).toNat=left.take o.N.toNat:=by rw [show (o.N - 0).toNat=o.N.toNat by omega];rfl
   have hap:Zbe 56 out (left.take o.N.toNat)=some (out++left.take o.N.toNat):=Gj (by rw [List.length_take];omega) (by rw [List.length_take];omega)
   rw [e1,hap,Option.bind_some,Zk9 (by omega) (by omega) (by omega),Option.bind_some]
   have e2:(left.drop o.N.toNat).take (((left.length:Nat):Int) - o.N).toNat=left.drop o.N.toNat:=List.take_of_length_le (by rw [List.length_drop];omega)
   rw [e2]
   refine ⟨true,_,rfl,fun h=>(by cases h),fun s' h => ?_⟩
   injection h with h
   subst h
   exact ⟨rfl,by simp only [List.map_drop],by simp only [List.map_append,List.map_take],fun x hx=>List.mem_of_mem_drop hx,fun x hx=>(List.mem_append.1 hx).elim (hob x) fun hx=>hlb x (List.mem_of_mem_take hx),by simp only [List.length_append,List.length_take];omega,by simp only [List.length_drop];omega⟩
  rw [if_neg (fun q=>hle q.2),show decide (((left.length:Nat):Int) < o.N)=true from by rw [decide_eq_true_eq];omega,cond_true]
  exact ⟨false,_,rfl,fun _=>rfl,fun s' h=>by cases h⟩
 ·have ht:Uk o=o.L.length:=by unfold Uk;rw [if_neg (by omega),if_neg (by omega)]
  unfold stO
  rw [if_neg (by omega),if_pos k,show (o.Kind == 0)=false from by rw [k];rfl,show (o.Kind == 1)=true from by rw [k];rfl,cond_false,cond_true]
  simp only
  by_cases hle:o.L.length≤left.length
  ·have e1:(left.drop (Int.toNat 0)).take (((o.L.length:Nat):Int) - 0).toNat=left.take o.L.length:=by rw [show (((o.L.length:Nat):Int) - 0).toNat=o.L.length by omega];rfl
   rw [show decide (((left.length:Nat):Int) < ((o.L.length:Nat):Int))=false from by rw [decide_eq_false_iff_not];omega,cond_false,Zk9 (by omega) (by omega) (by omega),Option.bind_some,e1,Ye4 (fun x hx=>hlb x (List.mem_of_mem_take hx)) hL (by rw [List.length_take];omega),Option.bind_some,Option.bind_some,cond_false]
   have hq:=(Z68 ((left.take o.L.length).map nrm) (o.L.map nrm))
   rw [List.map_take] at hq ⊢
   by_cases he:(left.map nrm).take o.L.length=o.L.map nrm
   ·rw [hq.2 he,Bool.not_true,cond_false,Zk9 (by omega) (by omega) (by omega),Option.bind_some,if_pos he]
    have e2:(left.drop (((o.L.length:Nat):Int)).toNat).take (((left.length:Nat):Int) - ((o.L.length:Nat):Int)).toNat=left.drop o.L.length:=by
     rw [Int.toNat_natCast];exact List.take_of_length_le (by rw [List.length_drop];omega)
    rw [e2]
    refine ⟨true,_,rfl,fun h=>(by cases h),fun s' h => ?_⟩
    injection h with h
    subst h
    exact ⟨rfl,by simp only [List.map_drop],rfl,fun x hx=>List.mem_of_mem_drop hx,hob,by simp only;omega,by simp only [List.length_drop];omega⟩
   have:eqL ((left.map nrm).take o.L.length) (o.L.map nrm)=false:=by
    cases h:eqL ((left.map nrm).take o.L.length) (o.L.map nrm) with
    | false=>rfl
    | true=>exact absurd (hq.1 h) he
   rw [this,if_neg he]
   exact ⟨false,_,rfl,fun _=>rfl,fun s' h=>by cases h⟩
  have hne:¬ (left.map nrm).take o.L.length=o.L.map nrm:=fun q=>by
   have:=congrArg List.length q
   simp only [List.length_take,List.length_map] at this
   omega
  rw [if_neg hne,show decide (((left.length:Nat):Int) < ((o.L.length:Nat):Int))=true from by rw [decide_eq_true_eq];omega,cond_true,Option.bind_some,cond_true]
  exact ⟨false,_,rfl,fun _=>rfl,fun s' h=>by cases h⟩
 ·have ht:Uk o=o.L.length:=by unfold Uk;rw [if_neg (by omega),if_neg (by omega)]
  have hap:Zbe 56 out o.L=some (out++o.L):=Gj (by omega) (by omega)
  unfold stO
  rw [if_neg (by omega),if_neg (by omega),if_pos k,show (o.Kind == 0)=false from by rw [k];rfl,show (o.Kind == 1)=false from by rw [k];rfl,show (o.Kind == 2)=true from by rw [k];rfl,cond_false,cond_false,cond_true,hap,Option.bind_some]
  refine ⟨true,_,rfl,fun h=>(by cases h),fun s' h => ?_⟩
  injection h with h
  subst h
  exact ⟨rfl,rfl,by simp only [List.map_append],fun x hx=>hx,fun x hx=>(List.mem_append.1 hx).elim (hob x) (hL x),by simp only [List.length_append];omega,Nat.le_refl _⟩
 have ht:Uk o=1:=by unfold Uk;rw [if_neg (by omega),if_pos k]
 obtain ⟨b,st,d1,d2,d3⟩:=ih k
 rw [Z37 k,show (o.Kind == 0)=false from by rw [k];rfl,show (o.Kind == 1)=false from by rw [k];rfl,show (o.Kind == 2)=false from by rw [k];rfl,show (o.Kind == 3)=true from by rw [k];rfl,cond_false,cond_false,cond_false,cond_true,d1,Option.bind_some]
 cases left with
 | nil=>exact ⟨b,_,rfl,fun _=>d2 rfl,fun s' h=>by cases h⟩
 | cons x l =>
  obtain ⟨g1,g2⟩:=d3 x l rfl
  refine ⟨b,_,rfl,fun h => ?_,fun s' h => ?_⟩
  ·simp only [List.map_cons,Option.map_eq_none_iff] at h
   rw [g1,h]
   rfl
  simp only [List.map_cons] at h
  obtain ⟨u,hu,e⟩:=Option.map_eq_some_iff.1 h
  obtain ⟨v,r1,r2,r3⟩:=g2 u hu
  subst e r1
  refine ⟨by rw [g1,hu];rfl,rfl,by simp only [List.map_append,List.map_cons,List.map_nil,r2],fun y hy => .tail _ hy,fun y hy => ?_,by simp only [List.length_append,List.length_singleton];omega,by simp only [List.length_cons];omega⟩
  rcases List.mem_append.1 hy with hy | hy
  ·exact hob y hy
  rw [List.mem_singleton.1 hy];exact r3
theorem Z60 {f4:Zh→EO→Option (Bool×Zh)} {e:Ed} {K:List Tr} (hlen:e.Ops.length≤1048576) (ih:∀ o∈e.Ops,∀ left out,(∀ x∈left,x∈K)→left.length≤5000000→(∀ x∈out,Bd x)→out.length≤2000000000→SOk f4 o left out):∀ (os:List EO) (i:Nat) (left out:List Tr),e.Ops.drop i=os→i≤e.Ops.length→(∀ x∈left,x∈K)→left.length≤5000000→(∀ x∈out,Bd x)→out.length+Ke os≤2000000000 →
  ∃ r,Zx (K3 f4 e) ((i:Int),left,out)=some r∧(rnO (apO os) (left.map nrm,out.map nrm)=none→r = .inl ())∧∀ l' o',rnO (apO os) (left.map nrm,out.map nrm)=some (l',o')→∃ left' out',r = .inr (left',out')∧left'.map nrm=l'∧out'.map nrm=o'∧(∀ x∈out',Bd x)∧out'.length≤2000000000
 | [],i,left,out,hd,hi,hk,hl,hb,ho=>by
  obtain rfl:=drop_nil hd hi
  refine ⟨.inr (left,out),Yl ?_,fun h=>(by cases h),fun l' o' h => ?_⟩
  ·unfold K3
   simp only
   rw [Zcu,cond_false]
  injection h with h
  injection h with e1 e2
  have:Ke []=0:=rfl
  exact ⟨left,out,rfl,e1,e2,hb,by omega⟩
 | o::os,i,left,out,hd,hi,hk,hl,hb,ho=>by
  obtain ⟨hi',hx,hd'⟩:=Zj3 hd
  have hm:=List.mem_of_getElem? hx
  rw [Zyn] at ho
  obtain ⟨b,st,h1,h2,h3⟩:=ih o hm left out hk hl hb (by omega)
  show ∃ r,Zx (K3 f4 e) ((i:Int),left,out)=some r∧(rnO ((o,ap o.E)::apO os) (left.map nrm,out.map nrm)=none→r = .inl ())∧∀ l' o',rnO ((o,ap o.E)::apO os) (left.map nrm,out.map nrm)=some (l',o')→_
  rw [rnO]
  cases hs:stO o (ap o.E) (left.map nrm,out.map nrm) with
  | none =>
   refine ⟨.inl (),Yl ?_,fun _=>rfl,fun l' o' h=>by cases h⟩
   unfold K3
   simp only
   rw [Zak hi',cond_true,Yk hx,Option.bind_some,h1,Option.bind_some,h2 hs]
   rfl
  | some s' =>
   obtain ⟨g1,g2,g3,g4,g5,g6,g7⟩:=h3 s' hs
   have hstep:K3 f4 e ((i:Int),left,out)=some (.inl (((i+1:Nat):Int),st.left,st.out)):=by
    unfold K3
    simp only
    rw [Zak hi',cond_true,Yk hx,Option.bind_some,h1,Option.bind_some,g1,Bool.not_true,cond_false,Ki (by omega) (by omega)]
    rfl
   rw [Xh hstep,Option.bind_some]
   have:=Z60 hlen ih os (i+1) st.left st.out hd' (by omega) (fun x hx=>hk x (g4 x hx)) (by omega) g5 (by omega)
   rw [g2,g3] at this
   exact this
theorem Z9i {f1 f2 f3:Ed→Tr→Option (Tr×Bool)} {f4:Zh→EO→Option (Bool×Zh)} {f5:Zh→Ed→Option (Bool×Zh)} {e:Ed} {t:Tr} (k3:e.Kind=3) (hg:GN e) (hl:2≤e.List_∧e.List_≤9) (ht:Bd t) (hp:pt t≤1000000)
  (ih:∀ o∈e.Ops,∀ left out,(∀ x∈left,x∈t.Kids)→left.length≤5000000→(∀ x∈out,Bd x)→out.length≤2000000000→SOk f4 o left out):AOk (Zdu f1 f2 f3 f4 f5) e t:=by
 have hpt:=hp
 rw [Zji] at hpt
 have hkl:t.Kids.length≤(t.Kids.map pt).sum:=Zl8 fun x _=>by rw [Zji];omega
 unfold AOk Zdu
 rw [Zbr,if_neg (by omega),if_neg (by omega),if_neg (by omega),if_pos k3,Ka]
 by_cases h1:t.Kind=e.List_
 ·have e1:(t.Kind != e.List_)=false:=by rw [h1];exact bne_self_eq_false _
  rw [if_pos h1,e1,cond_false,Zz8,Option.bind_some,Option.bind_some,cond_false,show decide (2≤t.Kind)=true from by rw [decide_eq_true_eq];omega,show decide (t.Kind≤9)=true from by rw [decide_eq_true_eq];omega]
  simp only [Bool.and_self,Bool.not_true,cond_false]
  have hs:=hg.s
  obtain ⟨r,r1,r2,r3⟩:=Z60 (K:=t.Kids) hg.o ih e.Ops 0 t.Kids [] rfl (Nat.zero_le _) (fun x hx=>hx) (by omega) (fun x hx=>by cases hx) (by simp only [List.length_nil];omega)
  rw [show (((0:Nat):Int))=0 from rfl] at r1
  rw [r1,Option.bind_some]
  have nk:(nrm t).Kids=t.Kids.map nrm:=by rw [Za1 (by omega) (by omega)]
  rw [nk]
  rw [List.map_nil] at r2 r3
  cases hr:rnO (apO e.Ops) (t.Kids.map nrm,[]) with
  | none =>
   rw [r2 hr]
   exact ⟨_,_,rfl,rfl,fun u h=>by cases h⟩
  | some s' =>
   obtain ⟨l',o'⟩:=s'
   obtain ⟨left',out',q1,q2,q3,q4,q5⟩:=r3 l' o' hr
   rw [q1]
   cases left' with
   | nil =>
    rw [List.map_nil] at q2
    subst q2
    refine ⟨_,_,rfl,rfl,fun u h => ?_⟩
    have h2:(⟨t.Kind,[],o'⟩:Tr)=u:=by injection h
    subst h2
    refine ⟨?_,.mk _ (by simp) (by simp only;omega) (by simp) q4⟩
    rw [Za1 (by simp only;omega) (by simp only;omega)]
    simp only
    rw [q3]
   | cons x left' =>
    rw [List.map_cons] at q2
    subst q2
    refine ⟨_,_,rfl,?_,fun u h=>by cases h⟩
    show ((((x::left').length:Nat):Int) == 0)=false
    rw [beq_eq_false_iff_ne,List.length_cons]
    omega
 have e1:(t.Kind != e.List_)=true:=bne_iff_ne.2 h1
 rw [if_neg h1,e1,cond_true,Option.bind_some,cond_true]
 exact ⟨_,_,rfl,rfl,fun u h=>by cases h⟩
structure CA (e:Ed) (t:Tr):Prop where
 x:RX e
 b:BE e
 g:GN e
 p:pt t≤1000000
 t:Bd t
theorem Ztz:∀ (k:Nat),(∀ e t,CA e t→4 * SizeOf.sizeOf e < k→AOk (Zr k).1 e t)∧(∀ e t,CA e t→e.Kind=2→4 * SizeOf.sizeOf e≤k→AOk (Zr k).2.1 e t)∧(∀ e t,CA e t→e.Kind=3→4 * SizeOf.sizeOf e≤k→AOk (Zr k).2.2.1 e t) ∧
  (∀ o left out,opk o→(∀ t∈o.L,Bd t)→o.L.length≤1073741824→(o.Kind=3→(∀ x∈left,CA o.E x)∧4 * SizeOf.sizeOf o.E+3≤k)→(∀ x∈left,Bd x)→left.length≤5000000→(∀ x∈out,Bd x)→out.length≤2000000000→1≤k→SOk (Zr k).2.2.2.1 o left out) ∧
  (∀ E left out,(∀ x∈left,CA E x)→4 * SizeOf.sizeOf E+2≤k→left.length≤5000000→out.length≤2000000000→Ycw (Zr k).2.2.2.2 E left out)
 | 0=>⟨fun e t _ h=>by omega,fun e t _ _ h=>by have:=Zj4 e;omega,fun e t _ _ h=>by have:=Zj4 e;omega,fun o left out _ _ _ _ _ _ _ _ h=>by omega,fun E left out _ h=>by omega⟩
 | k+1=>by
  obtain ⟨i1,i2,i3,i4,i5⟩:=Ztz k
  refine ⟨fun e t h hk => ?_,fun e t h k2 hk => ?_,fun e t h k3 hk => ?_,fun o left out h1 h3 h4 h5 h6 h7 h8 h9 hk => ?_,fun E left out h hk hl ho => ?_⟩
  ·show AOk (Gv (Zr k).1 (Zr k).2.1 (Zr k).2.2.1 (Zr k).2.2.2.1 (Zr k).2.2.2.2) e t
   rcases h.x.kind with k0 | k1 | k2 | k3
   ·refine ⟨t,true,?_,?_,fun u hu => ?_⟩
    ·unfold Gv;rw [show (e.Kind == 0)=true from by rw [k0];rfl];rfl
    ·rw [Zbr,if_pos k0];rfl
    rw [Zbr,if_pos k0] at hu
    injection hu with hu
    exact ⟨hu,h.t⟩
   ·refine ⟨e.New,eqT (nrm t) (nrm e.Old),?_,?_,fun u hu => ?_⟩
    ·unfold Gv
     rw [show (e.Kind == 0)=false from by rw [k1];rfl,show (e.Kind == 1)=true from by rw [k1];rfl,cond_false,cond_true,Z9x h.t h.b.old,Option.bind_some]
    ·rw [Zbr,if_neg (by omega),if_pos k1]
     by_cases he:nrm t=nrm e.Old
     ·rw [if_pos he,eqT_iff.2 he];rfl
     rw [if_neg he]
     cases hq:eqT (nrm t) (nrm e.Old) with
     | false=>rfl
     | true=>exact absurd (eqT_iff.1 hq) he
    rw [Zbr,if_neg (by omega),if_pos k1] at hu
    split at hu
    ·injection hu with hu
     exact ⟨hu,h.b.new⟩
    cases hu
   ·obtain ⟨v,b,q1,q2,q3⟩:=i2 e t h k2 (by omega)
    refine ⟨v,b,?_,q2,q3⟩
    unfold Gv
    rw [show (e.Kind == 0)=false from by rw [k2];rfl,show (e.Kind == 1)=false from by rw [k2];rfl,show (e.Kind == 2)=true from by rw [k2];rfl,cond_false,cond_false,cond_true,q1,Option.bind_some]
   obtain ⟨v,b,q1,q2,q3⟩:=i3 e t h k3 (by omega)
   refine ⟨v,b,?_,q2,q3⟩
   unfold Gv
   rw [show (e.Kind == 0)=false from by rw [k3];rfl,show (e.Kind == 1)=false from by rw [k3];rfl,show (e.Kind == 2)=false from by rw [k3];rfl,show (e.Kind == 3)=true from by rw [k3];rfl,cond_false,cond_false,cond_false,cond_true,q1,Option.bind_some]
  ·show AOk (V6 (Zr k).1 (Zr k).2.1 (Zr k).2.2.1 (Zr k).2.2.2.1 (Zr k).2.2.2.2) e t
   cases h.x with
   | same _ q=>omega
   | repl _ q=>omega
   | li _ q=>omega
   | st _ q hw hw2 hkk hk2 ih =>
    exact Z4m k2 h.b hw hw2 hkk hk2 h.t h.p fun c hc x hx hpx=>i1 c.E x ⟨ih c hc,h.b.ks c hc,h.g.ks c hc,hpx,hx⟩ (by have:=Jv hc;omega)
  ·show AOk (Zdu (Zr k).1 (Zr k).2.1 (Zr k).2.2.1 (Zr k).2.2.2.1 (Zr k).2.2.2.2) e t
   cases h.x with
   | same _ q=>omega
   | repl _ q=>omega
   | st _ q=>omega
   | li _ q hl ho hN ih =>
    refine Z9i k3 h.g hl h.t h.p fun o hom left out hk2 hl2 hob hol => ?_
    have hsz:=V4 hom
    have hpos:=Zj4 o.E
    have hlen:o.L.length≤1073741824:=by
     have h1:Uk o≤Ke e.Ops:=Zkc (f:=Uk) hom
     have h2:=h.g.s
     by_cases kk:o.Kind=1∨o.Kind=2
     ·unfold Uk at h1;rw [if_neg (by omega),if_neg (by omega)] at h1;omega
     rw [hN o hom (by rcases ho o hom with ⟨q,_⟩ | ⟨q,_⟩ | ⟨q,_⟩ | q <;> omega)];simp
    exact i4 o left out (ho o hom) (h.b.l o hom).2 hlen (fun kk=>⟨fun x hx=>⟨ih o hom kk,h.b.os o hom,h.g.os o hom,by have:=Zup (hk2 x hx);have:=h.p;omega,h.t.all x (hk2 x hx)⟩,by omega⟩) (fun x hx=>h.t.all x (hk2 x hx)) hl2 hob hol (by omega)
  ·exact Z9j (f1:=(Zr k).1) (f2:=(Zr k).2.1) (f3:=(Zr k).2.2.1) (f4:=(Zr k).2.2.2.1) h1 h3 h4 h7 h9 h6 h8 fun kk=>i5 o.E left out (h5 kk).1 (by have:=(h5 kk).2;omega) h7 h9
  exact Z9h (f2:=(Zr k).2.1) (f3:=(Zr k).2.2.1) (f4:=(Zr k).2.2.2.1) (f5:=(Zr k).2.2.2.2) hl ho fun x hx=>i1 E x (h x hx) (by omega)
theorem Z3f {S R:Type} {s1 s2:S→Option (S ⊕ R)} (h:∀ s x,s1 s=some x→s2 s=some x):∀ (k:Nat) (s:S) (r:R),Zc3 s1 k s=some r→Zc3 s2 k s=some r
 | 0,s,r,q=>by simp [Zc3] at q
 | k+1,s,r,q=>by
  simp only [Zc3] at q ⊢
  cases hs:s1 s with
  | none=>rw [hs] at q;cases q
  | some x =>
   rw [hs] at q
   rw [h s x hs]
   cases x with
   | inl s'=>exact Z3f h k s' r q
   | inr r'=>exact q
theorem Zvy {S R:Type} {s1 s2:S→Option (S ⊕ R)} (h:∀ s x,s1 s=some x→s2 s=some x) {s:S} {r:R} (q:Zx s1 s=some r):Zx s2 s=some r:=by
 obtain ⟨k,hk⟩:=Zkm q
 exact Zk6 (Z3f h k s r hk)
theorem Zap {α β:Type} {o o':Option α} {f f':α→Option β} (h:∀ x,o=some x→o'=some x) (hf:∀ x y,f x=some y→f' x=some y) {r:β} (q:o.bind f=some r):o'.bind f'=some r:=by
 obtain ⟨x,h1,h2⟩:=Option.bind_eq_some_iff.1 q
 rw [h x h1]
 exact hf x r h2
theorem Zdw {α:Type} (c:Bool) {a a' b b':Option α} (h1:∀ r,a=some r→a'=some r) (h2:∀ r,b=some r→b'=some r) (r:α) (q:cond c a b=some r):cond c a' b'=some r:=by
 cases c with
 | true=>exact h1 r q
 | false=>exact h2 r q
theorem Yac {R:Type} {F:Nat→Option R} {r:R} (hm:∀ k r,F k=some r→F (k+1)=some r) {K:Nat} (h:F K=some r):lim F=some r:=by
 refine Zcf K fun k hk => ?_
 obtain ⟨d,rfl⟩:∃ d,k=K+d:=⟨k - K,by omega⟩
 clear hk
 induction d with
 | zero=>exact h
 | succ d ih=>exact hm _ _ ih
def LE2 {α β γ:Type} (f g:α→β→Option γ):Prop:=∀ x y r,f x y=some r→g x y=some r
theorem Zt0:∀ (k:Nat),LE2 (Zr k).1 (Zr (k+1)).1∧LE2 (Zr k).2.1 (Zr (k+1)).2.1∧LE2 (Zr k).2.2.1 (Zr (k+1)).2.2.1∧LE2 (Zr k).2.2.2.1 (Zr (k+1)).2.2.2.1∧LE2 (Zr k).2.2.2.2 (Zr (k+1)).2.2.2.2
 | 0=>⟨fun x y r h=>(by cases h),fun x y r h=>(by cases h),fun x y r h=>(by cases h),fun x y r h=>(by cases h),fun x y r h=>by cases h⟩
 | k+1=>by
  obtain ⟨i1,i2,i3,i4,i5⟩:=Zt0 k
  refine ⟨fun e t r h => ?_,fun e t r h => ?_,fun e t r h => ?_,fun s o r h => ?_,fun s e r h => ?_⟩
  ·refine Zdw _ (fun _ q=>q) (Zdw _ (fun _ q=>q) (Zdw _ (fun _ => ?_) (Zdw _ (fun _ => ?_) (fun _ q=>q)))) r h
   ·exact Zap (fun x q=>i2 _ _ x q) (fun _ _ q=>q)
   exact Zap (fun x q=>i3 _ _ x q) (fun _ _ q=>q)
  ·refine Zdw _ (fun _ q=>q) (fun _=>Zap (fun _ q=>q) fun w _=>Zap (fun _ q=>q) fun ks _=>Zap (fun _ q=>q) fun z r q => ?_) r h
   cases z with
   | inl z=>exact q
   | inr z =>
    refine Zap (fun x=>Zvy fun s y q => ?_) (fun _ _ q=>q) q
    exact Zdw _ (fun _=>Zap (fun _ q=>q) fun _ _=>Zap (fun _ q=>q) fun _ _=>Zap (fun x q=>i1 _ _ x q) fun _ _ q=>q) (fun _ q=>q) y q
  ·refine Zap (fun _ q=>q) (fun z=>Zdw _ (fun _ q=>q) (fun _=>Zap (fun x=>Zvy fun s y q => ?_) fun _ _ q=>q)) h
   exact Zdw _ (fun _=>Zap (fun _ q=>q) fun _ _=>Zap (fun x q=>i4 _ _ x q) fun _ _ q=>q) (fun _ q=>q) y q
  ·exact Zdw _ (fun _ q=>q) (Zdw _ (fun _ q=>q) (Zdw _ (fun _ q=>q) (Zdw _ (fun _=>Zap (fun x q=>i5 _ _ x q) fun _ _ q=>q) (fun _ q=>q)))) r h
  exact Zdw _ (fun _ q=>q) (fun _=>Zap (fun _ q=>q) fun _ _=>Zap (fun x q=>i1 _ _ x q) fun _ _ q=>q) r h
theorem Z2s {e:Ed} {t:Tr} (h:CA e t):G3 e t=some (match ap e (nrm t) with | some u=>(u,true) | none=>(Kl,false)):=by
 obtain ⟨v,b,h1,h2,h3⟩:=(Ztz (4 * SizeOf.sizeOf e+1)).1 e t h (by omega)
 have hd:Zkw e t=some (v,b):=Yac (fun k r=>(Zt0 k).1 e t r) h1
 unfold G3
 rw [hd,Option.bind_some,h2]
 cases hu:ap e (nrm t) with
 | none=>rfl
 | some u =>
  obtain ⟨g1,g2⟩:=h3 u hu
  simp only [Option.isSome_some,Bool.not_true,cond_false]
  rw [Zs9 g2,Option.bind_some,g1]
theorem Z75:∀ (a b:List (EO×(Tr→Option Tr))) (s:List Tr×List Tr),rnO (a++b) s=(rnO a s).bind (rnO b)
 | [],b,s=>rfl
 | (o,f)::a,b,s=>by
  rw [List.cons_append,rnO,rnO,Option.bind_assoc]
  congr 1
  funext x
  exact Z75 a b x
theorem Yc0 (a b:List EO):apO (a++b)=apO a++apO b:=by unfold apO;rw [List.map_append]
def RO (os:List EO) (s:List Tr×List Tr):Option (List Tr×List Tr):=rnO (apO os) s
theorem Zq0 (a b:List EO) (s:List Tr×List Tr):RO (a++b) s=(RO a s).bind (RO b):=by unfold RO;rw [Yc0,Z75]
theorem Zyw (o:EO) (s:List Tr×List Tr):RO [o] s=stO o (ap o.E) s:=by
 unfold RO apO
 rw [List.map_cons,List.map_nil,rnO]
 cases stO o (ap o.E) s <;> rfl
theorem Zyv (s:List Tr×List Tr):RO [] s=some s:=rfl
def Zj2 (g:List Tr) (s:List Tr×List Tr):Option (List Tr×List Tr):=if s.1.take g.length=g.map nrm then some (s.1.drop g.length,s.2) else none
def Zkb (g:List Tr) (s:List Tr×List Tr):Option (List Tr×List Tr):=some (s.1,s.2++g.map nrm)
def Zjd (n:Int) (s:List Tr×List Tr):Option (List Tr×List Tr):=if 0≤n∧n.toNat≤s.1.length then some (s.1.drop n.toNat,s.2++s.1.take n.toNat) else none
theorem Yes (g:List Tr) (s:List Tr×List Tr):RO (Zbw g) s=Zj2 g s:=by
 by_cases h:g=[]
 ·subst h;rw [Z2w,Zyv];unfold Zj2;simp
 rw [Zei h,Zyw];unfold stO Zj2;simp
theorem Yet (g:List Tr) (s:List Tr×List Tr):RO (Zc0 g) s=Zkb g s:=by
 by_cases h:g=[]
 ·subst h;rw [Zuo,Zyv];unfold Zkb;simp
 rw [Zej h,Zyw];unfold stO Zkb;simp
theorem Zyu (n:Int) (L:List Tr) (E:Ed) (s:List Tr×List Tr):RO [⟨0,n,L,E⟩] s=Zjd n s:=by rw [Zyw];unfold stO Zjd;simp
theorem Z8w {a b:Int} (ha:0≤a) (hb:0≤b) (s:List Tr×List Tr):Zjd (a+b) s=(Zjd a s).bind (Zjd b):=by
 have e:(a+b).toNat=a.toNat+b.toNat:=by omega
 unfold Zjd
 rw [e]
 by_cases h:a.toNat≤s.1.length
 ·rw [if_pos (c:=0≤a∧a.toNat≤s.1.length) ⟨ha,h⟩,Option.bind_some]
  simp only [List.length_drop]
  by_cases h2:a.toNat+b.toNat≤s.1.length
  ·rw [if_pos ⟨by omega,h2⟩,if_pos ⟨hb,by omega⟩,List.drop_drop,List.append_assoc,List.take_add]
  rw [if_neg (by omega),if_neg (by omega)]
 rw [if_neg (c:=0≤a∧a.toNat≤s.1.length) (by omega),if_neg (by omega)]
 rfl
theorem Z9v (g h:List Tr) (s:List Tr×List Tr):Zj2 (g++h) s=(Zj2 g s).bind (Zj2 h):=by
 unfold Zj2
 rw [List.length_append,List.map_append,List.take_add]
 by_cases h1:s.1.take g.length=g.map nrm
 ·rw [if_pos h1,Option.bind_some,h1]
  simp only [List.append_cancel_left_eq,List.drop_drop]
 rw [if_neg h1]
 have:¬ (s.1.take g.length++(s.1.drop g.length).take h.length=g.map nrm++h.map nrm):=fun q=>by
  have hl:=congrArg List.length q
  simp only [List.length_append,List.length_take,List.length_drop,List.length_map] at hl
  exact h1 (List.append_inj_left q (by rw [List.length_take,List.length_map];omega))
 rw [if_neg this]
 rfl
theorem Z99 (c h:List Tr) (s:List Tr×List Tr):(Zkb c s).bind (Zj2 h)=(Zj2 h s).bind (Zkb c):=by
 unfold Zkb Zj2
 rw [Option.bind_some]
 simp only
 split <;> rfl
theorem Z98 (c h:List Tr) (s:List Tr×List Tr):Zkb (c++h) s=(Zkb c s).bind (Zkb h):=by
 unfold Zkb
 rw [Option.bind_some,List.map_append,List.append_assoc]
theorem Yak (L:List Tr):(L.map nrm).map nrm=L.map nrm:=NT.map fun k hk=>by obtain ⟨y,_,rfl⟩:=List.mem_map.1 hk;exact NT.of y
theorem Ye3 (L:List Tr) (s:List Tr×List Tr):Zj2 (L.map nrm) s=Zj2 L s:=by unfold Zj2;rw [Yak,List.length_map]
theorem Ye9 (L:List Tr) (s:List Tr×List Tr):Zkb (L.map nrm) s=Zkb L s:=by unfold Zkb;rw [Yak]
theorem Zpo (s:NW) (x:List Tr×List Tr):RO s.flush x=((RO s.out x).bind (Zj2 s.gone)).bind (Zkb s.come):=by
 unfold NW.flush
 rw [Zq0,Option.bind_assoc]
 congr 1
 funext y
 rw [Zq0,Yes]
 congr 1
 funext z
 exact Yet _ _
def KP (os:List EO):Prop:=∀ o∈os,o.Kind=0→0≤o.N
theorem KP.push {F:List EO} {n:Int} (h:KP F) (hn:0≤n):KP (Ky F n)∧∀ s,RO (Ky F n) s=(RO F s).bind (Zjd n):=by
 by_cases hk:∃ o,F.getLast? = some o∧o.Kind=0
 ·obtain ⟨o,ho,hk0⟩:=hk
  obtain ⟨o',ho'⟩:=List.getLast?_eq_some_iff.1 ho
  subst ho'
  have hN:=h o (by simp) hk0
  obtain ⟨k,N,L,E⟩:=o
  simp only at hk0 hN
  subst hk0
  rw [Gi]
  refine ⟨fun x hx => ?_,fun s => ?_⟩
  ·rcases List.mem_append.1 hx with hx | hx
   ·exact h x (by simp [hx])
   rw [List.mem_singleton.1 hx];intro _;simp only;omega
  rw [Zq0,Zq0,Option.bind_assoc]
  congr 1
  funext y
  rw [Zyu,Zyu,Z8w hN hn]
 rw [Zdd fun o ho h0=>hk ⟨o,ho,h0⟩]
 refine ⟨fun x hx => ?_,fun s => ?_⟩
 ·rcases List.mem_append.1 hx with hx | hx
  ·exact h x hx
  rw [List.mem_singleton.1 hx];intro _;exact hn
 rw [Zq0]
 congr 1
 funext y
 exact Zyu _ _ _ _
theorem KP.fl {s:NW} (h:KP s.out):KP s.flush:=fun o ho hk=>by
 unfold NW.flush at ho
 rcases List.mem_append.1 ho with ho | ho
 ·exact h o ho hk
 unfold Zbw Zc0 at ho
 rcases List.mem_append.1 ho with ho | ho
 ·split at ho
  ·cases ho
  rw [List.mem_singleton.1 ho] at hk;simp at hk
 split at ho
 ·cases ho
 rw [List.mem_singleton.1 ho] at hk;simp at hk
theorem Zvv:∀ (os:List (EO×(Tr→Option Tr))) (s s':List Tr×List Tr),rnO os s=some s'→∀ x∈s'.1,x∈s.1
 | [],s,s',h=>by rw [rnO] at h;injection h with h;subst h;exact fun x hx=>hx
 | (o,f)::os,s,s',h=>by
  rw [rnO] at h
  obtain ⟨s1,hs,hr⟩:=Option.bind_eq_some_iff.1 h
  have ih:=Zvv os s1 s' hr
  have key:∀ x∈s1.1,x∈s.1:=by
   unfold stO at hs
   split at hs
   ·split at hs
    ·injection hs with hs;subst hs;exact fun x hx=>List.mem_of_mem_drop hx
    cases hs
   split at hs
   ·split at hs
    ·injection hs with hs;subst hs;exact fun x hx=>List.mem_of_mem_drop hx
    cases hs
   split at hs
   ·injection hs with hs;subst hs;exact fun x hx=>hx
   split at hs
   ·obtain ⟨l,out⟩:=s
    cases l with
    | nil=>cases hs
    | cons x0 l =>
     simp only at hs
     obtain ⟨u,_,e⟩:=Option.map_eq_some_iff.1 hs
     subst e
     exact fun x hx=>List.mem_cons_of_mem _ hx
   cases hs
  exact fun x hx=>key x (ih x hx)
def GL (l:Int) (s:List Tr×List Tr):Prop:=∀ x∈s.1,NT x∧TX x∧(l=9→x.Kind=1)
theorem Ydg {l:Int} {e:Ed} {x:Tr} (hi:Zg5 l e=true) (hx:NT x) (h9:l=9→x.Kind=1):ap e x=some x:=by
 unfold Zg5 at hi
 rw [Bool.or_eq_true,beq_iff_eq] at hi
 rw [Zbr]
 rcases hi with h0 | hi
 ·rw [if_pos h0]
 simp only [Bool.and_eq_true,beq_iff_eq] at hi
 obtain ⟨hl,h2,hw,hk⟩:=hi
 have h1:=h9 hl
 rw [if_neg (by omega),if_neg (by omega),if_pos h2,if_pos h1,List.eq_nil_of_length_eq_zero hw,List.eq_nil_of_length_eq_zero hk]
 show some (⟨1,tr p0 x.Words,tr pT x.Kids⟩:Tr)=some x
 rw [(hx.words h1).1,(hx.words h1).2,← h1,Ycf]
theorem Yd2 {l:Int} {s:NW} {o:EO} (hs:KP s.out) (ho:opk o) (x:List Tr×List Tr) (hx:GL l x) (hE:o.Kind=3→∀ y,NT y→TX y→ap (nE o.E) y=ap o.E y) :
  KP (stN l s (o,nE o.E)).out∧RO (stN l s (o,nE o.E)).flush x=(RO s.flush x).bind (stO o (ap o.E)):=by
 have hp:∀ n:Int,0≤n→KP (⟨Ky s.flush n,[],[]⟩:NW).out∧RO (⟨Ky s.flush n,[],[]⟩:NW).flush x=(RO s.flush x).bind (Zjd n):=fun n hn=>by
  obtain ⟨p1,p2⟩:=KP.push hs.fl hn
  rw [G0,p2]
  exact ⟨p1,rfl⟩
 rcases ho with ⟨k,h1⟩ | ⟨k,h1⟩ | ⟨k,h1⟩ | k
 ·have e:stN l s (o,nE o.E)=⟨Ky s.flush o.N,[],[]⟩:=by
   unfold stN
   simp only
   rw [if_neg (by omega),if_neg (by omega),if_pos k]
  obtain ⟨q1,q2⟩:=hp o.N (by omega)
  rw [e,q2]
  refine ⟨q1,?_⟩
  congr 1
  funext y
  unfold stO Zjd
  rw [if_pos k]
 ·have e:stN l s (o,nE o.E)=⟨s.out,s.gone++o.L.map nrm,s.come⟩:=by
   unfold stN
   simp only
   rw [if_pos k]
  have es:stO o (ap o.E)=Zj2 o.L:=by
   funext y
   unfold stO Zj2
   rw [if_neg (by omega),if_pos k]
  rw [e,Zpo,Zpo,es]
  refine ⟨hs,?_⟩
  simp only
  rw [Option.bind_assoc,Option.bind_assoc,Option.bind_assoc]
  congr 1
  funext y
  rw [Z9v,Option.bind_assoc]
  congr 1
  funext z
  rw [Ye3,Z99]
 ·have e:stN l s (o,nE o.E)=⟨s.out,s.gone,s.come++o.L.map nrm⟩:=by
   unfold stN
   simp only
   rw [if_neg (by omega),if_pos k]
  have es:stO o (ap o.E)=Zkb o.L:=by
   funext y
   unfold stO Zkb
   rw [if_neg (by omega),if_neg (by omega),if_pos k]
  rw [e,Zpo,Zpo,es]
  refine ⟨hs,?_⟩
  simp only
  rw [Option.bind_assoc,Option.bind_assoc,Option.bind_assoc]
  congr 1
  funext y
  congr 1
  funext z
  rw [Z98]
  congr 1
  funext v
  exact Ye9 _ _
 have hgl:∀ s',RO s.flush x=some s'→GL l s':=fun s' hs' y hy=>hx y (Zvv _ _ _ hs' y hy)
 by_cases hi:Zg5 l (nE o.E)=true
 ·have e:stN l s (o,nE o.E)=⟨Ky s.flush 1,[],[]⟩:=by
   unfold stN
   simp only
   rw [if_neg (by omega),if_neg (by omega),if_neg (by omega),if_pos hi]
  obtain ⟨q1,q2⟩:=hp 1 (by decide)
  rw [e,q2]
  refine ⟨q1,?_⟩
  cases hf:RO s.flush x with
  | none=>rfl
  | some s' =>
   rw [Option.bind_some,Option.bind_some]
   obtain ⟨l',out'⟩:=s'
   rw [Z37 k]
   unfold Zjd
   cases l' with
   | nil=>rfl
   | cons y l' =>
    have hy:=hgl _ hf y (.head _)
    simp only
    rw [if_pos ⟨by decide,by simp⟩,← hE k y hy.1 hy.2.1,Ydg hi hy.1 hy.2.2]
    rfl
 have e:stN l s (o,nE o.E)=⟨s.flush++[⟨3,0,[],nE o.E⟩],[],[]⟩:=by
  unfold stN
  simp only
  rw [if_neg (by omega),if_neg (by omega),if_neg (by omega),if_neg hi]
 rw [e,G0]
 refine ⟨fun y hy hk => ?_,?_⟩
 ·rcases List.mem_append.1 hy with hy | hy
  ·exact hs.fl y hy hk
  rw [List.mem_singleton.1 hy] at hk;simp at hk
 rw [Zq0]
 cases hf:RO s.flush x with
 | none=>rfl
 | some s' =>
  rw [Option.bind_some,Option.bind_some,Zyw]
  obtain ⟨l',out'⟩:=s'
  unfold stO
  rw [if_neg (by simp),if_neg (by simp),if_neg (by simp),if_pos rfl,if_neg (by omega),if_neg (by omega),if_neg (by omega),if_pos k]
  cases l' with
  | nil=>rfl
  | cons y l' =>
   have hy:=hgl _ hf y (.head _)
   simp only
   rw [hE k y hy.1 hy.2.1]
theorem Z7c {l:Int} (x:List Tr×List Tr) (hx:GL l x):∀ (os:List EO) (s:NW),KP s.out→(∀ o∈os,opk o∧(o.Kind=3→∀ y,NT y→TX y→ap (nE o.E) y=ap o.E y))→RO ((Ve os).foldl (stN l) s).flush x=(RO s.flush x).bind (RO os)
 | [],s,_,_=>by
  show RO s.flush x=_
  cases RO s.flush x <;> rfl
 | o::os,s,hs,h=>by
  obtain ⟨h1,h2⟩:=h o (.head _)
  obtain ⟨q1,q2⟩:=Yd2 hs h1 x hx h2
  show RO ((Ve os).foldl (stN l) (stN l s (o,nE o.E))).flush x=_
  rw [Z7c x hx os _ q1 fun y hy=>h y (.tail _ hy),q2,Option.bind_assoc]
  try rfl
theorem Zyi (o:List Tr):∀ (ks:List Zl) (c:List Tr),(∀ k∈ks,ap (nE k.E) (Km Kl o k.At.toNat)=ap k.E (Km Kl o k.At.toNat))→rnK o (apK (ks.map fun k=>(⟨k.At,nE k.E⟩:Zl))) c=rnK o (apK ks) c
 | [],c,_=>rfl
 | k::ks,c,h=>by
  have h0:=h k (.head _)
  show rnK o ((k.At.toNat,ap (nE k.E))::apK (ks.map _)) c=rnK o ((k.At.toNat,ap k.E)::apK ks) c
  rw [rnK,rnK,h0]
  cases ap k.E (Km Kl o k.At.toNat) with
  | none=>rfl
  | some u=>exact Zyi o ks _ fun x hx=>h x (.tail _ hx)
theorem Z9m:∀ (n:Nat) (e:Ed) (t:Tr),SizeOf.sizeOf e < n→RX e→NT t→TX t→ap (nE e) t=ap e t
 | 0,_,_,h,_,_,_=>by omega
 | n+1,e,t,hn,hx,nt,tx=>by
  cases hx with
  | same _ k0 =>
   have e1:nE e=eS0:=by rw [Zd2,if_neg (by omega),if_neg (by omega),if_neg (by omega)]
   rw [e1,Zbr e,if_pos k0,Zbr]
   rfl
  | repl _ k1 =>
   have e1:nE e=⟨1,nrm e.Old,nrm e.New,[],[],0,[]⟩:=by rw [Zd2,if_pos k1]
   rw [e1,Zbr e,if_neg (by omega),if_pos k1,Zbr]
   simp only
   rw [if_neg (by decide),if_pos trivial,Zk0,Zk0]
  | st _ k2 hw hw2 hk hk2 ih =>
   have e1:nE e=⟨2,Kl,Kl,e.Words,e.Kids.map fun k=>⟨k.At,nE k.E⟩,0,[]⟩:=by rw [Zd2,if_neg (by omega),if_pos k2]
   rw [e1,Zbr e,if_neg (by omega),if_neg (by omega),if_pos k2,Zbr]
   simp only
   rw [if_neg (by decide),if_neg (by decide),if_pos trivial]
   by_cases ht:t.Kind=1
   ·rw [if_pos ht,if_pos ht,Zyi t.Kids e.Kids t.Kids fun k hkm=>Z9m n k.E _ (by have:=Jv hkm;omega) (ih k hkm) (Ze4 nt.kids NT.z _) (Ze4 tx.all TX.z _)]
   rw [if_neg ht,if_neg ht]
  | li _ k3 hl ho hN ih =>
   have e1:nE e=⟨3,Kl,Kl,[],[],e.List_,Znl e.List_ (Ve e.Ops)⟩:=by rw [Zd2,if_neg (by omega),if_neg (by omega),if_pos k3]
   rw [e1,Zbr e,if_neg (by omega),if_neg (by omega),if_neg (by omega),if_pos k3,Zbr]
   simp only
   rw [if_neg (by decide),if_neg (by decide),if_neg (by decide),if_pos trivial]
   by_cases ht:t.Kind=e.List_
   ·rw [if_pos ht,if_pos ht]
    congr 1
    have hg:GL e.List_ (t.Kids,[]):=fun x hx=>⟨nt.kids x hx,tx.all x hx,fun h9=>tx.s (by omega) x hx⟩
    have:=Z7c (t.Kids,[]) hg e.Ops s0N (fun o ho=>by cases ho) fun o hom=>⟨ho o hom,fun k y hy ty=>Z9m n o.E y (by have:=V4 hom;omega) (ih o hom k) hy ty⟩
    exact this
   rw [if_neg ht,if_neg ht]
def OX (o:EO):Prop:=(o.Kind=0∨o.Kind=3→o.L=[])∧(o.Kind=3→RX o.E)
theorem Z3w {F:List EO} {n:Int} (hF:∀ o∈F,OX o):∀ o∈Ky F n,OX o:=by
 have hq:OX (⟨0,n,[],eS0⟩:EO):=⟨fun _=>rfl,fun h=>by cases h⟩
 by_cases hk:∃ o,F.getLast? = some o∧o.Kind=0
 ·obtain ⟨o,ho,hk0⟩:=hk
  obtain ⟨o',ho'⟩:=List.getLast?_eq_some_iff.1 ho
  subst ho'
  have hoq:=hF o (by simp)
  obtain ⟨k,N,L,E⟩:=o
  simp only at hk0
  subst hk0
  rw [Gi]
  intro x hx
  rcases List.mem_append.1 hx with hx | hx
  ·exact hF x (by simp [hx])
  rw [List.mem_singleton.1 hx]
  exact ⟨fun _=>hoq.1 (.inl rfl),fun h=>by cases h⟩
 rw [Zdd fun o ho h0=>hk ⟨o,ho,h0⟩]
 intro x hx
 rcases List.mem_append.1 hx with hx | hx
 ·exact hF x hx
 rw [List.mem_singleton.1 hx];exact hq
theorem Zpw {s:NW} (h:∀ o∈s.out,OX o):∀ o∈s.flush,OX o:=by
 intro o ho
 unfold NW.flush at ho
 rw [List.mem_append] at ho
 rcases ho with ho | ho
 ·exact h o ho
 have hk:o.Kind=1∨o.Kind=2:=by
  rw [List.mem_append] at ho
  rcases ho with ho | ho
  ·by_cases hg:s.gone=[]
   ·rw [hg] at ho;simp [Zbw] at ho
   rw [Zei hg,List.mem_singleton] at ho
   subst ho;exact .inl rfl
  by_cases hg:s.come=[]
  ·rw [hg] at ho;simp [Zc0] at ho
  rw [Zej hg,List.mem_singleton] at ho
  subst ho;exact .inr rfl
 exact ⟨fun h=>by omega,fun h=>by omega⟩
theorem Yfl {l:Int} {s:NW} {p:EO×Ed} (h:∀ o∈s.out,OX o) (hp:opk p.1) (hE:p.1.Kind=3→RX p.2):∀ o∈(stN l s p).out,OX o:=by
 unfold stN
 split
 ·exact h
 split
 ·exact h
 split
 ·exact Z3w (Zpw h)
 split
 ·exact Z3w (Zpw h)
 intro x hx
 rcases List.mem_append.1 hx with hx | hx
 ·exact Zpw h x hx
 rw [List.mem_singleton.1 hx]
 exact ⟨fun _=>rfl,fun _=>hE (by rcases hp with ⟨q,_⟩ | ⟨q,_⟩ | ⟨q,_⟩ | q <;> first | exact q | contradiction)⟩
theorem Z7b {l:Int}:∀ (os:List EO) (s:NW),(∀ o∈s.out,OX o)→(∀ o∈os,opk o∧(o.Kind=3→RX (nE o.E)))→∀ o∈((Ve os).foldl (stN l) s).out,OX o
 | [],_,h,_=>h
 | o::os,s,h,hq=>Z7b os _ (Yfl (l:=l) (p:=(o,nE o.E)) h (hq o (by simp)).1 (hq o (by simp)).2) fun x hx=>hq x (by simp [hx])
theorem RX.nE {e:Ed} (hx:RX e) (hb:BE e) (hg:GN e):RX (nE e):=by
 induction hx with
 | same e h=>rw [Zd2,if_neg (by omega),if_neg (by omega),if_neg (by omega)];exact .same _ rfl
 | repl e h=>rw [Zd2,if_pos h];exact .repl _ rfl
 | st e h hw hw2 hk hk2 ih ih2 =>
  rw [Zd2,if_neg (by omega),if_pos h]
  refine .st _ rfl hw hw2 ?_ (fun k hk' => ?_) (fun k hk' => ?_)
  ·rw [List.pairwise_map];exact hk
  ·obtain ⟨x,hx,rfl⟩:=List.mem_map.1 hk'
   exact hk2 x hx
  obtain ⟨x,hx,rfl⟩:=List.mem_map.1 hk'
  exact ih2 x hx (hb.ks x hx) (hg.ks x hx)
 | li e h hl ho hN ih ih2 =>
  have hp:=(GN.nE hb hg).p
  rw [Zd2,if_neg (by omega),if_neg (by omega),if_pos h] at hp
  rw [Zd2,if_neg (by omega),if_neg (by omega),if_pos h]
  have hf:=Zpw (Z7b (l:=e.List_) e.Ops s0N (by simp [s0N]) fun o hom=>⟨ho o hom,fun k=>ih2 o hom k (hb.os o hom) (hg.os o hom)⟩)
  exact .li _ rfl hl hp (fun o hom=>(hf o hom).1) (fun o hom=>(hf o hom).2)
theorem Z9n {e:Ed} {t u:Tr} (h:CA e t) (hu:ap e (nrm t)=some u):Bd u:=by
 obtain ⟨v,b,h1,h2,h3⟩:=(Ztz (4 * SizeOf.sizeOf e+1)).1 e t h (by omega)
 obtain ⟨g1,g2⟩:=h3 u hu
 rw [← g1];exact g2.nrm
theorem CA.of {e:Ed} {t:Tr} (hb:BE e) (hr:rE e 64=true) (hc:ce e≤3000) (ht:Bd t) (hp:pt t≤3000):CA e t :=
 ⟨Ya1 _ e 64 (Nat.lt_succ_self _) hr,hb,Z7f _ e 64 (Nat.lt_succ_self _) hb (by omega) hr,by omega,ht⟩
theorem Zyt (x:EO) (p:List EO) (s:List Tr×List Tr):RO (x::p) s=(stO x (ap x.E) s).bind (RO p):=rfl
theorem Z5k {o:EO} (k:o.Kind=0) (f:Tr→Option Tr) (s:List Tr×List Tr):stO o f s=Zjd o.N s:=by unfold stO Zjd;rw [if_pos k]
theorem Z5l {o:EO} (k:o.Kind=1) (f:Tr→Option Tr) (s:List Tr×List Tr):stO o f s=Zj2 o.L s:=by unfold stO Zj2;rw [if_neg (by omega),if_pos k]
theorem Z5m {o:EO} (k:o.Kind=2) (f:Tr→Option Tr) (s:List Tr×List Tr):stO o f s=Zkb o.L s:=by unfold stO Zkb;rw [if_neg (by omega),if_neg (by omega),if_pos k]
theorem Zvi {o:EO} (h:opk o):o.Kind=0∨o.Kind=1∨o.Kind=2∨o.Kind=3:=by
 rcases h with ⟨k,_⟩ | ⟨k,_⟩ | ⟨k,_⟩ | k
 ·exact .inl k
 ·exact .inr (.inl k)
 ·exact .inr (.inr (.inl k))
 exact .inr (.inr (.inr k))
theorem Ydy {x:EO} (hx:opk x) (f:Tr→Option Tr) (l o:List Tr):stO x f (l,o)=(stO x f (l,[])).map fun y=>(y.1,o++y.2):=by
 rcases Zvi hx with k | k | k | k
 ·rw [Z5k k,Z5k k]
  unfold Zjd
  simp only
  split <;> simp
 ·rw [Z5l k,Z5l k]
  unfold Zj2
  simp only
  split <;> simp
 ·rw [Z5m k,Z5m k]
  unfold Zkb
  simp
 rw [Z37 k,Z37 k]
 cases l with
 | nil=>rfl
 | cons y l =>
  simp only
  cases f y <;> simp
theorem Z9d:∀ (p:List EO),(∀ o∈p,opk o)→∀ (l o:List Tr),RO p (l,o)=(RO p (l,[])).map fun y=>(y.1,o++y.2)
 | [],_,l,o=>by rw [Zyv,Zyv];simp
 | x::p,hp,l,o=>by
  rw [Zyt,Zyt,Ydy (hp x (.head _))]
  cases h:stO x (ap x.E) (l,[]) with
  | none=>rfl
  | some y =>
   obtain ⟨l1,xs⟩:=y
   simp only [Option.map_some,Option.bind_some]
   have ih:=Z9d p fun z hz=>hp z (.tail _ hz)
   rw [ih l1 (o++xs),ih l1 xs,Option.map_map]
   congr 1
   funext y
   simp
inductive ST:Ed→Prop
 | mk (e:Ed) (ho:pt e.Old≤1000000) (hn:pt e.New≤1000000) (hl:∀ o∈e.Ops,∀ t∈o.L,pt t≤1000000) (ik:∀ k∈e.Kids,ST k.E) (io:∀ o∈e.Ops,ST o.E):ST e
theorem ST.old {e:Ed} (h:ST e):pt e.Old≤1000000:=by cases h;assumption
theorem ST.new {e:Ed} (h:ST e):pt e.New≤1000000:=by cases h;assumption
theorem ST.l {e:Ed} (h:ST e):∀ o∈e.Ops,∀ t∈o.L,pt t≤1000000:=by cases h;assumption
theorem ST.ks {e:Ed} (h:ST e):∀ k∈e.Kids,ST k.E:=by cases h;assumption
theorem ST.os {e:Ed} (h:ST e):∀ o∈e.Ops,ST o.E:=by cases h;assumption
theorem Zur:∀ (k:Nat) (e:Ed) (d left:Int),BE e→SizeOf.sizeOf e < k→0≤d→d≤100→0≤left→left≤1000000→∃ r,Z9 k e d left=some r∧-1≤r∧r≤1000000∧(0≤r→r+(ce e:Nat)≤left∧ST e)
 | 0,e,_,_,_,h,_,_,_,_=>by omega
 | k+1,e,d,left,hb,hk,hd0,hd1,hl0,hl1=>by
  have hw:=hb.w
  have ho:=hb.o
  show ∃ r,Qb (Z9 k) e d left=some r∧_
  unfold Qb
  rw [Ki (x:=left - 1) (by omega) (by omega),Ki (x:=left - 1 - (e.Words.length:Int)) (by omega) (by omega),Ki (by omega) (by omega),Z2v]
  cases hc:cond (d == 0) true (decide (left - 1 - (e.Words.length:Int) - (e.Ops.length:Int) < 0)) with
  | true=>exact ⟨-1,rfl,by omega,by omega,fun h=>by omega⟩
  | false =>
   rw [cond_false]
   have hd:¬ d=0∧0≤left - 1 - (e.Words.length:Int) - (e.Ops.length:Int):=by
    by_cases h:d=0
    ·simp [h] at hc
    have e:(d == 0)=false:=by simp [h]
    rw [e,cond_false,decide_eq_false_iff_not] at hc
    exact ⟨h,by omega⟩
   obtain ⟨r1,g1,g2,g3,g4⟩:=Zng hb.old hd.2 (by omega)
   have hz:∃ z,cond (decide (0≤r1)) ((X1 e.New 80 r1).bind fun y4=>some y4) (some r1)=some z∧-1≤z∧z≤1000000∧(0≤z→z≤left - 1 - (e.Words.length:Int) - (e.Ops.length:Int)∧pt e.Old≤1000000∧pt e.New≤1000000):=by
    by_cases h:0≤r1
    ·obtain ⟨r2,f1,f2,f3,f4⟩:=Zng hb.new h g3
     refine ⟨r2,by rw [decide_eq_true h,f1];rfl,f2,f3,fun h2 => ?_⟩
     have:=f4 h2
     have:=g4 h
     omega
    exact ⟨r1,by rw [decide_eq_false h];rfl,g2,g3,fun h2=>absurd h2 h⟩
   obtain ⟨z,z1,z2,z3,z4⟩:=hz
   rw [g1,Option.bind_some,z1,Option.bind_some]
   obtain ⟨r,h1,h2⟩:=Zag (step:=Xx (Z9 k) e d)
    (fun s=>∃ j:Nat,s.2=j∧j≤e.Kids.length∧-1≤s.1∧s.1≤1000000∧(0≤s.1→s.1+((((e.Kids.take j).map fun k=>ce k.E)).sum:Nat)≤left - 1 - (e.Words.length:Int) - (e.Ops.length:Int)∧(pt e.Old≤1000000∧pt e.New≤1000000)∧∀ k∈e.Kids.take j,ST k.E))
    (fun s=>e.Kids.length - s.2.toNat) (fun r=>-1≤r∧r≤1000000∧(0≤r→r+((e.Kids.map fun k=>ce k.E).sum:Nat)≤left - 1 - (e.Words.length:Int) - (e.Ops.length:Int)∧(pt e.Old≤1000000∧pt e.New≤1000000)∧∀ k∈e.Kids,ST k.E)) (fun s hI=>by
     obtain ⟨l,i⟩:=s
     obtain ⟨j,rfl,hj,g1,g2,g3⟩:=hI
     have hkl:=hb.k
     simp only at g1 g2 g3 ⊢
     unfold Xx
     simp only
     by_cases hji:j < e.Kids.length
     ·rw [Zak hji,cond_true]
      by_cases hl:0≤l
      ·have e1:decide (0≤l)=true:=by simp [hl]
       have hx:e.Kids[j]? = some e.Kids[j]:=List.getElem?_eq_getElem hji
       have hm:e.Kids[j]∈e.Kids:=List.getElem_mem hji
       obtain ⟨r,q1,q2,q3,q4⟩:=Zur k e.Kids[j].E (d - 1) l (hb.ks _ hm) (by have:=Jv hm;omega) (by omega) (by omega) hl g2
       rw [e1,cond_true,Yk hx,Option.bind_some,Ki (x:=d - 1) (by omega) (by omega),q1,Option.bind_some,Ki (by omega) (by omega)]
       refine .inl ⟨_,rfl,⟨j+1,by simp only;omega,by omega,q2,q3,fun hr => ?_⟩,by simp only;omega⟩
       obtain ⟨w1,w2⟩:=q4 hr
       obtain ⟨w3,w4,w5⟩:=g3 hl
       rw [List.take_add_one,hx]
       simp only [Option.toList_some,List.map_append,List.map_cons,List.map_nil,List.sum_append,List.sum_cons,List.sum_nil]
       simp only at hr
       refine ⟨by omega,w4,fun y hy => ?_⟩
       rcases List.mem_append.1 hy with hy | hy
       ·exact w5 y hy
       rw [List.mem_singleton] at hy;subst hy;exact w2
      have e1:decide (0≤l)=false:=by simp [hl]
      rw [e1,cond_false]
      exact .inr ⟨l,rfl,g1,g2,fun h=>absurd h hl⟩
     have hj':j=e.Kids.length:=by omega
     subst hj'
     rw [Zcu,cond_false]
     rw [List.take_length] at g3
     exact .inr ⟨l,rfl,g1,g2,g3⟩) (z,0) ⟨0,rfl,Nat.zero_le _,z2,z3,fun h=>⟨by simpa using (z4 h).1,(z4 h).2,by simp⟩⟩
   rw [h1,Option.bind_some]
   have inner:∀ (j:Nat) (hj:j < e.Ops.length) (l:Int),0≤l→l≤1000000→∃ r,Zx (Qg e (l,(j:Int))) (l,0)=some r∧-1≤r∧r≤1000000∧r≤l∧(0≤r→∀ t∈e.Ops[j].L,pt t≤1000000):=fun j hj l hl hl'=>by
    have hx:e.Ops[j]? = some e.Ops[j]:=List.getElem?_eq_getElem hj
    have hm:e.Ops[j]∈e.Ops:=List.getElem_mem hj
    have hL:=(hb.l _ hm).1
    obtain ⟨r,h1,h2⟩:=Zag (step:=Qg e (l,(j:Int)))
     (fun s=>∃ i:Nat,s.2=i∧i≤e.Ops[j].L.length∧-1≤s.1∧s.1≤1000000∧s.1≤l∧(0≤s.1→∀ t∈e.Ops[j].L.take i,pt t≤1000000))
     (fun s=>e.Ops[j].L.length - s.2.toNat) (fun r=>-1≤r∧r≤1000000∧r≤l∧(0≤r→∀ t∈e.Ops[j].L,pt t≤1000000)) (fun s hI=>by
      obtain ⟨l',i'⟩:=s
      obtain ⟨i,rfl,hi,g1,g2,g3,g4⟩:=hI
      simp only at g1 g2 g3 g4 ⊢
      unfold Qg
      simp only
      rw [Yk hx,Option.bind_some,Option.bind_some]
      by_cases hii:i < e.Ops[j].L.length
      ·rw [Zak hii,cond_true]
       by_cases hl2:0≤l'
       ·have e1:decide (0≤l')=true:=by simp [hl2]
        have hx2:e.Ops[j].L[i]? = some e.Ops[j].L[i]:=List.getElem?_eq_getElem hii
        have hm2:e.Ops[j].L[i]∈e.Ops[j].L:=List.getElem_mem hii
        obtain ⟨r,q1,q2,q3,q4⟩:=Zng ((hb.l _ hm).2 _ hm2) hl2 g2
        rw [e1,cond_true,Yk hx2,Option.bind_some,q1,Option.bind_some,Ki (by omega) (by omega)]
        refine .inl ⟨_,rfl,⟨i+1,by simp only;omega,by omega,q2,q3,?_⟩,by simp only;omega⟩
        simp only
        refine ⟨?_,fun hr t ht => ?_⟩
        ·by_cases hr:0≤r
         ·have:=q4 hr;omega
         omega
        rw [List.take_add_one,hx2] at ht
        rcases List.mem_append.1 ht with ht | ht
        ·exact g4 hl2 t ht
        simp only [Option.toList_some,List.mem_singleton] at ht
        subst ht
        have:=q4 hr
        omega
       have e1:decide (0≤l')=false:=by simp [hl2]
       rw [e1,cond_false]
       exact .inr ⟨l',rfl,g1,g2,g3,fun h=>absurd h hl2⟩
      have hi':i=e.Ops[j].L.length:=by omega
      subst hi'
      rw [Zcu,cond_false]
      rw [List.take_length] at g4
      exact .inr ⟨l',rfl,g1,g2,g3,g4⟩) (l,0) ⟨0,rfl,Nat.zero_le _,by simp only;omega,by simp only;omega,by simp only;omega,fun _=>by simp⟩
    exact ⟨r,h1,h2⟩
   obtain ⟨r',h1',h2'⟩:=Zag (step:=Xy (Z9 k) e d)
    (fun s=>∃ j:Nat,s.2=j∧j≤e.Ops.length∧-1≤s.1∧s.1≤1000000∧(0≤s.1→0≤r∧s.1+((((e.Ops.take j).map fun o=>ce o.E)).sum:Nat)≤r∧∀ o∈e.Ops.take j,ST o.E∧∀ t∈o.L,pt t≤1000000))
    (fun s=>e.Ops.length - s.2.toNat) (fun q=>-1≤q∧q≤1000000∧(0≤q→0≤r∧q+((e.Ops.map fun o=>ce o.E).sum:Nat)≤r∧∀ o∈e.Ops,ST o.E∧∀ t∈o.L,pt t≤1000000)) (fun s hI=>by
     obtain ⟨l,i⟩:=s
     obtain ⟨j,rfl,hj,g1,g2,g3⟩:=hI
     simp only at g1 g2 g3 ⊢
     unfold Xy
     simp only
     by_cases hji:j < e.Ops.length
     ·rw [Zak hji,cond_true]
      by_cases hl:0≤l
      ·have e1:decide (0≤l)=true:=by simp [hl]
       have hx:e.Ops[j]? = some e.Ops[j]:=List.getElem?_eq_getElem hji
       have hm:e.Ops[j]∈e.Ops:=List.getElem_mem hji
       obtain ⟨t,t1,t2,t3,t4,t5⟩:=inner j hji l hl g2
       rw [e1,cond_true,t1,Option.bind_some,Ki (x:=(j:Int)+1) (by omega) (by omega)]
       by_cases ht:0≤t
       ·obtain ⟨r,q1,q2,q3,q4⟩:=Zur k e.Ops[j].E (d - 1) t (hb.os _ hm) (by have:=V4 hm;omega) (by omega) (by omega) ht t3
        rw [decide_eq_true ht,cond_true,Yk hx,Option.bind_some,Ki (x:=d - 1) (by omega) (by omega),q1]
        refine .inl ⟨_,rfl,⟨j+1,by simp only;omega,by omega,q2,q3,fun hr => ?_⟩,by simp only;omega⟩
        obtain ⟨w1,w2⟩:=q4 hr
        obtain ⟨w3,w4,w5⟩:=g3 hl
        rw [List.take_add_one,hx]
        simp only [Option.toList_some,List.map_append,List.map_cons,List.map_nil,List.sum_append,List.sum_cons,List.sum_nil]
        simp only at hr
        refine ⟨w3,by omega,fun y hy => ?_⟩
        rcases List.mem_append.1 hy with hy | hy
        ·exact w5 y hy
        rw [List.mem_singleton] at hy;subst hy;exact ⟨w2,t5 ht⟩
       rw [decide_eq_false ht]
       exact .inl ⟨_,rfl,⟨j+1,by simp only;omega,by omega,t2,t3,fun hr=>absurd hr ht⟩,by simp only;omega⟩
      have e1:decide (0≤l)=false:=by simp [hl]
      rw [e1,cond_false]
      exact .inr ⟨l,rfl,g1,g2,fun h=>absurd h hl⟩
     have hj':j=e.Ops.length:=by omega
     subst hj'
     rw [Zcu,cond_false]
     rw [List.take_length] at g3
     exact .inr ⟨l,rfl,g1,g2,g3⟩) (r,0) ⟨0,rfl,Nat.zero_le _,h2.1,h2.2.1,fun h=>⟨h,by simp,by simp⟩⟩
   rw [h1']
   refine ⟨r',rfl,h2'.1,h2'.2.1,fun hr => ?_⟩
   obtain ⟨p1,p2,p3⟩:=h2'.2.2 hr
   obtain ⟨p4,p5,p6⟩:=h2.2.2 p1
   exact ⟨by omega,.mk e p5.1 p5.2 (fun o ho=>(p3 o ho).2) p6 fun o ho=>(p3 o ho).1⟩
theorem Ye5 {e:Ed} (h:BE e) (hq:Vk e=some true):ce e≤3000∧ST e:=by
 obtain ⟨r,h1,h2,h3,h4⟩:=Zur (SizeOf.sizeOf e+1) e 80 3000 h (by omega) (by omega) (by omega) (by omega) (by omega)
 have hr:Zct e 80 3000=some r:=Zcf (SizeOf.sizeOf e+1) fun k hk=>by rw [Zm8 k (SizeOf.sizeOf e+1) e 80 3000 (by omega) (by omega)];exact h1
 unfold Vk at hq
 rw [hr,Option.bind_some] at hq
 have hp:0≤r:=by simpa using hq
 have:=h4 hp
 exact ⟨by omega,this.2⟩
structure GT (t:Tr):Prop where
 n:NT t
 g:Rg t
 x:TX t
theorem GT.z:GT Kl:=⟨NT.z,Rg.z,TX.z⟩
theorem GT.all {t:Tr} (h:GT t):∀ k∈t.Kids,GT k:=fun k hk=>⟨h.n.kids k hk,h.g.all k hk,h.x.all k hk⟩
theorem GT.at_ {t:Tr} (h:GT t) (i:Nat):GT (Km Kl t.Kids i):=⟨Ze4 h.n.kids NT.z i,Ze4 h.g.all Rg.z i,Ze4 h.x.all TX.z i⟩
theorem GT.of {t:Tr} (hb:Bd t) (hx:TX t):GT (nrm t):=⟨NT.of t,hb.nrm.rg,hx.n⟩
def D9 (e:Ed):Prop:=e.Kind=2∨(e.Kind=1∧e.Old.Kind=1∧e.New.Kind=1)
inductive RZ:Ed→Prop
 | same (e:Ed) (h:e.Kind=0):RZ e
 | repl (e:Ed) (h:e.Kind=1) (ho:TX e.Old) (hn:TX e.New):RZ e
 | st (e:Ed) (h:e.Kind=2) (hw:e.Words.Pairwise (fun a b=>a.At < b.At)) (hw2:∀ w∈e.Words,0≤w.At∧w.At≤65534) (hk:e.Kids.Pairwise (fun a b=>a.At < b.At)) (hk2:∀ k∈e.Kids,0≤k.At∧k.At≤65534) (ih:∀ k∈e.Kids,RZ k.E):RZ e
 | li (e:Ed) (h:e.Kind=3) (hl:2≤e.List_∧e.List_≤9) (ho:∀ o∈e.Ops,opk o) (hN:∀ o∈e.Ops,o.Kind=0∨o.Kind=3→o.L=[]) (hT:∀ o∈e.Ops,∀ t∈o.L,TX t∧(e.List_=9→t.Kind=1)) (h9:∀ o∈e.Ops,o.Kind=3→e.List_=9→D9 o.E) (ih:∀ o∈e.Ops,o.Kind=3→RZ o.E):RZ e
theorem Zqj {α:Type} {f:α→Int} {l:List α} (h:l.Pairwise (fun a b=>f a < f b)) (h2:∀ x∈l,0≤f x∧f x≤65534):l.Pairwise (fun a b=>(f a).toNat≠(f b).toNat) :=
 h.imp_of_mem fun {a b} ha hb hab=>by have:=h2 a ha;have:=h2 b hb;omega
theorem RZ.rx {e:Ed} (h:RZ e):RX e:=by
 induction h with
 | same e h=>exact .same e h
 | repl e h _ _=>exact .repl e h
 | st e h hw hw2 hk hk2 _ ih=>exact .st e h (Zqj hw hw2) hw2 (Zqj hk hk2) hk2 ih
 | li e h hl ho hN hT h9 _ ih=>exact .li e h hl ho hN ih
theorem Z7z:∀ (n:Nat) (e:Ed) (d:Nat),SizeOf.sizeOf e < n→rE e d=true→RZ e
 | 0,_,_,h,_=>by omega
 | n+1,e,d,hn,h=>by
  rw [Zlk] at h
  by_cases hd:d=0
  ·rw [if_pos hd] at h;cases h
  rw [if_neg hd] at h
  by_cases h0:e.Kind=0
  ·exact .same e h0
  rw [if_neg h0] at h
  by_cases h1:e.Kind=1
  ·rw [if_pos h1] at h
   simp only [Bool.and_eq_true] at h
   exact .repl e h1 (Z34 _ _ 64 (Nat.lt_succ_self _) h.2.1.1) (Z34 _ _ 64 (Nat.lt_succ_self _) h.2.2.1)
  rw [if_neg h1] at h
  by_cases h2:e.Kind=2
  ·rw [if_pos h2] at h
   simp only [Bool.and_eq_true] at h
   obtain ⟨w1,w2⟩:=Zpt Z3q e.Words (-1) h.2.1
   obtain ⟨k1,k2⟩:=Zpt (Z3p (d - 1)) e.Kids (-1) h.2.2
   refine .st e h2 w2 (fun w hw=>by have:=w1 w hw;omega) k2 (fun k hk=>by have:=k1 k hk;omega) fun k hk=>Z7z n k.E (d - 1) (by have:=Jv hk;omega) ?_
   exact Zm3 (Q:=fun k:Zl=>rE k.E (d - 1)=true) (fun p x hx=>by
    unfold okK okP at hx
    simp only [Bool.and_eq_true] at hx
    exact hx.2.2) e.Kids (-1) h.2.2 k hk
  rw [if_neg h2] at h
  by_cases h3:e.Kind=3
  ·rw [if_pos h3] at h
   simp only [Bool.and_eq_true,decide_eq_true_eq,List.all_eq_true] at h
   have ho:=h.2.2.1
   have hL:∀ o∈e.Ops,o.Kind=0∨o.Kind=3→o.L=[]:=fun o hx k03=>by
    have:=ho o hx
    unfold okO at this
    rcases k03 with k0 | k3
    ·rw [if_pos k0] at this
     simp only [Bool.and_eq_true,beq_iff_eq] at this
     exact List.eq_nil_of_length_eq_zero this.2.1
    rw [if_neg (by omega),if_neg (by omega),if_pos k3] at this
    simp only [Bool.and_eq_true,beq_iff_eq] at this
    exact List.eq_nil_of_length_eq_zero this.2.1
   refine .li e h3 h.2.1 (fun o hx=>Ztb (ho o hx)) hL (fun o hx t ht => ?_) (fun o hx k3 h9 => ?_) fun o hx k3=>Z7z n o.E (d - 1) (by have:=V4 hx;omega) ?_
   ·have hk:=Zvi (Ztb (ho o hx))
    by_cases k12:o.Kind=1∨o.Kind=2
    ·have:=ho o hx
     unfold okO at this
     rw [if_neg (by omega),if_pos k12] at this
     simp only [Bool.and_eq_true,List.all_eq_true] at this
     obtain ⟨q1,q2⟩:=this.2.2.1 t ht
     refine ⟨Z34 _ t 63 (Nat.lt_succ_self _) q1,fun h9 => ?_⟩
     unfold okk at q2
     rw [if_neg (by omega),h9] at q2
     simp only [Bool.and_eq_true,Bool.or_eq_true,bne_self_eq_false,Bool.false_eq_true,false_or,beq_iff_eq] at q2
     exact q2.2
    rw [hL o hx (by omega)] at ht
    cases ht
   ·have:=ho o hx
    unfold okO at this
    rw [if_neg (by omega),if_neg (by omega),if_pos k3] at this
    simp only [Bool.and_eq_true] at this
    have q:=this.2.2.2.1
    unfold Zld at q
    rw [if_neg (by omega),if_pos h9] at q
    simp only [Bool.or_eq_true,Bool.and_eq_true,beq_iff_eq] at q
    exact q
   have:=ho o hx
   unfold okO at this
   rw [if_neg (by omega),if_neg (by omega),if_pos k3] at this
   simp only [Bool.and_eq_true] at this
   exact this.2.2.2.2
  rw [if_neg h3] at h;cases h
theorem Zxw:∀ (n:Nat) (e:Ed) (t u:Tr),SizeOf.sizeOf e < n→RZ e→BE e→GT t→ap e t=some u→GT u∧(D9 e→u.Kind=1)
 | 0,_,_,_,h,_,_,_,_=>by omega
 | n+1,e,t,u,hn,hz,hb,gt,h=>by
  obtain ⟨q1,q2,_⟩:=Zyz _ e t u (Nat.lt_succ_self _) hz.rx hb gt.n gt.g gt.x h
  have key:TX u∧(D9 e→u.Kind=1)→GT u∧(D9 e→u.Kind=1):=fun k=>⟨⟨q1,q2,k.1⟩,k.2⟩
  refine key ?_
  rw [Zbr] at h
  cases hz with
  | same _ k0 =>
   rw [if_pos k0] at h
   injection h with h
   subst h
   exact ⟨gt.x,fun d=>by unfold D9 at d;omega⟩
  | repl _ k1 ho hn' =>
   rw [if_neg (by omega),if_pos k1] at h
   split at h
   ·injection h with h
    subst h
    exact ⟨hn'.n,fun d=>by rw [Ka];unfold D9 at d;omega⟩
   cases h
  | st _ k2 hw hw2 hk hk2 ih =>
   rw [if_neg (by omega),if_neg (by omega),if_pos k2] at h
   split at h
   ·obtain ⟨ws,e1,h⟩:=Option.bind_eq_some_iff.1 h
    obtain ⟨ks,e2,h⟩:=Option.bind_eq_some_iff.1 h
    injection h with h
    subst h
    have hm:=Zne t.Kids TX TX.z (apK e.Kids) t.Kids ks (fun w hw v hv=>by
     obtain ⟨k,hkm,rfl⟩:=List.mem_map.1 hw
     exact (Zxw n k.E _ v (by have:=Jv hkm;omega) (ih k hkm) (hb.ks k hkm) (gt.at_ _) hv).1.x) gt.x.all e2
    exact ⟨.mk _ (fun q=>by simp only at q;omega) (fun q=>by simp at q) fun k hk=>hm k (Zew hk),fun _=>rfl⟩
   cases h
  | li _ k3 hl ho hN hT h9 ih =>
   rw [if_neg (by omega),if_neg (by omega),if_neg (by omega),if_pos k3] at h
   split at h
   ·rename_i ht
    obtain ⟨out,e1,rfl⟩:=Z2y h
    have hm:=Z1a (fun x=>GT x∧(e.List_=9→x.Kind=1)) (fun x=>TX x∧(e.List_=9→x.Kind=1)) (fun x q=>⟨q.1.x,q.2⟩) (apO e.Ops) t.Kids [] [] out (fun x hx=>⟨gt.all x hx,fun q=>gt.x.s (by omega) x hx⟩) (fun x hx=>by cases hx) (fun o hom hk x hx=>by
     obtain ⟨q,hq,rfl⟩:=List.mem_map.1 hom
     obtain ⟨r1,r2⟩:=hT q hq x hx
     exact ⟨r1.n,fun q9=>by rw [Ka];exact r2 q9⟩) (fun o hom hk x v hx hv=>by
     obtain ⟨q,hq,rfl⟩:=List.mem_map.1 hom
     obtain ⟨r1,r2⟩:=Zxw n q.E x v (by have:=V4 hq;omega) (ih q hq hk) (hb.os q hq) hx.1 hv
     exact ⟨r1.x,fun q9=>r2 (h9 q hq hk q9)⟩) e1
    refine ⟨.mk _ (fun _=>rfl) (fun q9 k hk=>(hm.2 k hk).2 (by simp only at q9;omega)) fun k hk=>(hm.2 k hk).1,fun d=>by unfold D9 at d;omega⟩
   cases h
abbrev WE:=Zs
def fd {α:Type} (pl:α→Int) (l:List α) (j:Nat):Option α:=l.find? fun w=>(pl w).toNat == j
theorem Yc9 {α:Type} {pl:α→Int} {l:List α} {j:Nat} (h:∀ x∈l,(pl x).toNat≠j):fd pl l j=none:=by
 unfold fd
 rw [List.find?_eq_none]
 intro x hx
 rw [beq_iff_eq]
 exact h x hx
theorem Z9y {α:Type} {pl:α→Int} {l:List α} {j:Nat} {x:α} (h:fd pl l j=some x):x∈l∧(pl x).toNat=j:=by
 unfold fd at h
 exact ⟨List.mem_of_find?_eq_some h,by have:=List.find?_some h;simpa using this⟩
def Yi9 {α:Type} (f:α→α→Option α):Option α→Option α→Option α
 | some x,some y=>f x y
 | some x,none=>some x
 | none,y=>y
def Rise {α:Type} (pl:α→Int) (l:List α):Prop:=l.Pairwise (fun a b=>pl a < pl b)∧∀ x∈l,0≤pl x
theorem Rise.tail {α:Type} {pl:α→Int} {x:α} {l:List α} (h:Rise pl (x::l)):Rise pl l:=⟨(List.pairwise_cons.1 h.1).2,fun y hy=>h.2 y (.tail _ hy)⟩
abbrev KE:=Zl
def stW (ws:List WE) (j:Nat) (x:Int):Option Int:=match fd (·.At) ws j with
 | none=>some x
 | some w=>if cW x w=true then some (Zkf x w) else none
def stK (ks:List KE) (j:Nat) (x:Tr):Option Tr:=match fd (·.At) ks j with
 | none=>some x
 | some k=>ap k.E x
theorem Zy4 {α:Type} {pl:α→Int} {l:List α} (h:l.Pairwise (fun a b=>(pl a).toNat≠(pl b).toNat)) {w:α} (hw:w∈l):fd pl l (pl w).toNat=some w:=by
 cases hf:fd pl l (pl w).toNat with
 | none =>
  unfold fd at hf
  have:=List.find?_eq_none.1 hf w hw
  simp at this
 | some x =>
  obtain ⟨h1,h2⟩:=Z9y hf
  rw [Z07 (f:=fun a=>(pl a).toNat) h x h1 w hw h2]
theorem Ydr {o:List Int} {ws:List WE} (h:ws.Pairwise (fun a b=>a.At.toNat≠b.At.toNat)) (q:∀ j,stW ws j (Km 0 o j)≠none):Zxj o ws:=fun w hw=>by
 have:=q w.At.toNat
 unfold stW at this
 rw [Zy4 (pl:=fun w:WE=>w.At) h hw] at this
 simp only at this
 exact Classical.byContradiction fun c=>this (by rw [if_neg c])
theorem Yfm {o:List Int} {ws:List WE} (q:Zxj o ws) (j:Nat):stW ws j (Km 0 o j)=some (upW o ws (Km 0 o) j):=by
 unfold stW upW fd
 cases hf:ws.find? (fun w=>w.At.toNat == j) with
 | none=>rfl
 | some w =>
  have h2:=List.find?_some hf
  rw [beq_iff_eq] at h2
  have:=q w (List.mem_of_find?_eq_some hf)
  rw [h2] at this
  simp only
  rw [if_pos this]
theorem Yev (ks:List KE) (j:Nat):(apK ks).find? (fun k=>k.1 == j)=(fd (·.At) ks j).map fun k=>(k.At.toNat,ap k.E):=by
 unfold apK fd
 rw [List.find?_map]
 rfl
theorem Ydq {o:List Tr} {ks:List KE} (h:ks.Pairwise (fun a b=>a.At.toNat≠b.At.toNat)) (q:∀ j,stK ks j (Km Kl o j)≠none):Z8z o (apK ks):=fun w hw=>by
 obtain ⟨k,hk,rfl⟩:=List.mem_map.1 hw
 have:=q k.At.toNat
 unfold stK at this
 rw [Zy4 (pl:=fun w:KE=>w.At) h hk] at this
 simp only at this ⊢
 exact Option.isSome_iff_ne_none.2 this
theorem Yfk {o:List Tr} {ks:List KE} (q:Z8z o (apK ks)) (j:Nat):stK ks j (Km Kl o j)=some (upK o (apK ks) (Km Kl o) j):=by
 unfold stK upK
 rw [Yev]
 cases hf:fd (fun k:KE=>k.At) ks j with
 | none=>rfl
 | some k =>
  obtain ⟨h1,h2⟩:=Z9y hf
  have:=q (k.At.toNat,ap k.E) (List.mem_map.2 ⟨k,h1,rfl⟩)
  simp only at this
  rw [h2] at this
  obtain ⟨u,hu⟩:=Option.isSome_iff_exists.1 this
  simp only [Option.map_some]
  rw [hu]
  rfl
theorem Yd1 {e:Ed} {t:Tr} (k2:e.Kind=2) (hz:RZ e) (hb:BE e) (gt:GT t) (k1:t.Kind=1) :
  (∃ u,ap e t=some u∧GT u∧u.Kind=1∧(∀ j,stW e.Words j (Km 0 t.Words j)=some (Km 0 u.Words j))∧∀ j,stK e.Kids j (Km Kl t.Kids j)=some (Km Kl u.Kids j)) ∨
  (ap e t=none∧((∃ j,stW e.Words j (Km 0 t.Words j)=none)∨∃ j,stK e.Kids j (Km Kl t.Kids j)=none)):=by
 have hz':=hz
 cases hz with
 | same _ k=>omega
 | repl _ k=>omega
 | li _ k=>omega
 | st _ _ hw hw2 hk hk2 ih =>
  have nw:=Zqj hw hw2
  have nk:=Zqj hk hk2
  have e0:ap e t=(rnW t.Words e.Words t.Words).bind fun ws=>(rnK t.Kids (apK e.Kids) t.Kids).bind fun ks=>some ⟨1,tr p0 ws,tr pT ks⟩:=by
   rw [Zbr,if_neg (by omega),if_neg (by omega),if_pos k2,if_pos k1]
  have hnt:∀ w∈apK e.Kids,∀ v,w.2 (Km Kl t.Kids w.1)=some v→NT v:=fun w hwm v hv=>by
   obtain ⟨k,hkm,rfl⟩:=List.mem_map.1 hwm
   exact (Zxw _ k.E _ v (Nat.lt_succ_self _) (ih k hkm) (hb.ks k hkm) (gt.at_ _) hv).1.n
  obtain ⟨s1,s2⟩:=Zkk t.Words e.Words t.Words nw
  obtain ⟨r1,r2⟩:=Zqk t.Kids (apK e.Kids) t.Kids (List.pairwise_map.2 nk) hnt
  by_cases okw:Zxj t.Words e.Words
  ·by_cases okk:Z8z t.Kids (apK e.Kids)
   ·obtain ⟨ws,f1,f2⟩:=s1 okw
    obtain ⟨ks,g1,g2⟩:=r1 okk
    have hm:=Zne t.Kids NT NT.z (apK e.Kids) t.Kids ks hnt gt.n.kids g1
    rw [f1,Option.bind_some,g1,Option.bind_some] at e0
    refine .inl ⟨_,e0,(Zxw _ e t _ (Nat.lt_succ_self _) hz' hb gt e0).1,rfl,fun j => ?_,fun j => ?_⟩
    ·rw [Yfm okw]
     simp only
     rw [Zsr ws fun x _ hx=>Z0t hx,f2 j]
    rw [Yfk okk]
    simp only
    rw [Zsr ks fun x hx hp=>(hm x hx).null hp,g2 j]
   refine .inr ⟨?_,.inr (Classical.byContradiction fun c=>okk (Ydq nk fun j h=>c ⟨j,h⟩))⟩
   rw [e0,r2 okk]
   cases rnW t.Words e.Words t.Words <;> rfl
  refine .inr ⟨?_,.inl (Classical.byContradiction fun c=>okw (Ydr nw fun j h=>c ⟨j,h⟩))⟩
  rw [e0,s2 okw]
  rfl
theorem Yd0 {e:Ed} {t:Tr} (k2:e.Kind=2) (k1:¬ t.Kind=1):ap e t=none:=by rw [Zbr,if_neg (by omega),if_neg (by omega),if_pos k2,if_neg k1]
theorem GT.w {t:Tr} (h:GT t) (j:Nat):0≤Km 0 t.Words j∧Km 0 t.Words j < 18446744073709551616:=Z4o h.g.u j
inductive LM:Ed→Prop
 | mk (e:Ed) (hw:e.Words.length≤250000) (hk:e.Kids.length≤250000) (ho:e.Ops.length≤250000) (hs:Ke e.Ops≤4000000) (ik:∀ k∈e.Kids,LM k.E) (io:∀ o∈e.Ops,LM o.E):LM e
theorem LM.w {e:Ed} (h:LM e):e.Words.length≤250000:=by cases h;assumption
theorem LM.k {e:Ed} (h:LM e):e.Kids.length≤250000:=by cases h;assumption
theorem LM.o {e:Ed} (h:LM e):e.Ops.length≤250000:=by cases h;assumption
theorem LM.s {e:Ed} (h:LM e):Ke e.Ops≤4000000:=by cases h;assumption
theorem LM.ks {e:Ed} (h:LM e):∀ k∈e.Kids,LM k.E:=by cases h;assumption
theorem LM.os {e:Ed} (h:LM e):∀ o∈e.Ops,LM o.E:=by cases h;assumption
structure MC (e:Ed):Prop where
 z:RZ e
 b:BE e
 g:GN e
 s:ST e
 m:LM e
theorem MC.ca {e:Ed} (h:MC e) {t:Tr} (ht:Bd t) (hp:pt t≤1000000):CA e t:=⟨h.z.rx,h.b,h.g,hp,ht⟩
theorem Yew {e:Ed} (h:MC e) {t:Tr} (ht:Bd t) (hx:TX t) (hp:pt t≤1000000) :
  (∃ u,G3 e t=some (u,true)∧ap e (nrm t)=some u∧GT u∧Bd u∧(D9 e→u.Kind=1))∨(G3 e t=some (Kl,false)∧ap e (nrm t)=none):=by
 have ca:=h.ca ht hp
 rw [Z2s ca]
 cases hu:ap e (nrm t) with
 | none=>exact .inr ⟨rfl,rfl⟩
 | some u =>
  obtain ⟨g1,g2⟩:=Zxw _ e _ u (Nat.lt_succ_self _) h.z h.b (GT.of ht hx) hu
  exact .inl ⟨u,rfl,rfl,g1,Z9n ca hu,g2⟩
def QS (Q:Ed→Prop) (o:EO):Prop:=(∀ t∈o.L,pt t≤1000000)∧Q o.E
structure SI (Q:Ed→Prop) (s:NW):Prop where
 out:∀ o∈s.out,QS Q o
 gone:∀ t∈s.gone,pt t≤1000000
 come:∀ t∈s.come,pt t≤1000000
theorem SI.fl {Q:Ed→Prop} (q0:Q eS0) {s:NW} (h:SI Q s):∀ o∈s.flush,QS Q o:=fun o ho=>by
 unfold NW.flush at ho
 rcases List.mem_append.1 ho with ho | ho
 ·exact h.out o ho
 rcases List.mem_append.1 ho with ho | ho
 ·by_cases hg:s.gone=[]
  ·rw [hg] at ho;simp [Zbw] at ho
  rw [Zei hg,List.mem_singleton] at ho
  subst ho;exact ⟨h.gone,q0⟩
 by_cases hg:s.come=[]
 ·rw [hg] at ho;simp [Zc0] at ho
 rw [Zej hg,List.mem_singleton] at ho
 subst ho;exact ⟨h.come,q0⟩
theorem Yga:LM eS0 := .mk _ (by simp [eS0]) (by simp [eS0]) (by simp [eS0]) (by simp [eS0,Ke]) (by simp [eS0]) (by simp [eS0])
theorem Z0f {e:Ed} (h:Zba e=true):LM e:=by rw [Ztf h];exact Yga
theorem Yad:∀ (n:Nat) (e:Ed) (d:Nat),SizeOf.sizeOf e < n→BE e→GN e→ce e≤3000→rE e d=true→LM e
 | 0,_,_,h,_,_,_,_=>by omega
 | n+1,e,d,hn,hb,hg,hc,h=>by
  have hc':=hc
  rw [Z2v] at hc'
  have hk1:e.Kids.length≤(e.Kids.map fun k=>ce k.E).sum:=Zl8 fun x _=>Z9s _
  have kk:∀ k∈e.Kids,∀ d',rE k.E d'=true→LM k.E:=fun k hk d' hd'=>by
   have:=Zkc (f:=fun k:Zl=>ce k.E) hk
   exact Yad n k.E d' (by have:=Jv hk;omega) (hb.ks k hk) (hg.ks k hk) (by omega) hd'
  have oo:∀ o∈e.Ops,∀ d',rE o.E d'=true→LM o.E:=fun o ho d' hd'=>by
   have:=Zkc (f:=fun o:Zj=>ce o.E) ho
   exact Yad n o.E d' (by have:=V4 ho;omega) (hb.os o ho) (hg.os o ho) (by omega) hd'
  have hlens:=Z70 hb h
  rw [Zlk] at h
  by_cases hd:d=0
  ·rw [if_pos hd] at h;cases h
  rw [if_neg hd] at h
  by_cases h0:e.Kind=0
  ·rw [if_pos h0] at h
   exact Z0f h
  rw [if_neg h0] at h
  by_cases h1:e.Kind=1
  ·rw [if_pos h1] at h
   unfold Zfk Ze2 at h
   simp only [Bool.and_eq_true,beq_iff_eq] at h
   have e1:=List.eq_nil_of_length_eq_zero h.1.1.2
   have e2:=List.eq_nil_of_length_eq_zero h.1.2.2
   exact .mk _ (by omega) (by omega) (by omega) (by rw [e2];simp [Ke]) (by rw [e1];simp) (by rw [e2];simp)
  rw [if_neg h1] at h
  by_cases h2:e.Kind=2
  ·rw [if_pos h2] at h
   unfold Ze2 at h
   simp only [Bool.and_eq_true,beq_iff_eq] at h
   have e2:=List.eq_nil_of_length_eq_zero h.1.2.2
   refine .mk _ (by omega) (by omega) (by omega) (by rw [e2];simp [Ke]) (fun k hk=>kk k hk (d - 1) ?_) (by rw [e2];simp)
   exact Zm3 (Q:=fun k:Zl=>rE k.E (d - 1)=true) (fun p x hx=>by
    unfold okK okP at hx
    simp only [Bool.and_eq_true] at hx
    exact hx.2.2) e.Kids (-1) h.2.2 k hk
  rw [if_neg h2] at h
  by_cases h3:e.Kind=3
  ·rw [if_pos h3] at h
   unfold Zfk at h
   rw [Bool.and_eq_true,Bool.and_eq_true,Bool.and_eq_true,Bool.and_eq_true,Bool.and_eq_true,Bool.and_eq_true,beq_iff_eq,beq_iff_eq,List.all_eq_true] at h
   obtain ⟨⟨_,_,hk⟩,_,hall,hB⟩:=h
   have e1:=List.eq_nil_of_length_eq_zero hk
   refine .mk _ (by omega) (by omega) (by omega) ?_ (by rw [e1];simp) fun o ho => ?_
   ·rw [hlens] at hB
    have:=Zwc (l:=e.List_) (fun o=>rE o.E (d - 1)) e.Ops (0,0) ⟨⟨by decide,by decide⟩,by decide,by decide⟩ hall (fun o ho=>(hb.l o ho).1) hB
    unfold Zid at hB
    rw [Bool.and_eq_true,decide_eq_true_eq,decide_eq_true_eq] at hB
    simp only at this
    omega
   have:=hall o ho
   unfold okO at this
   by_cases k0:o.Kind=0
   ·rw [if_pos k0] at this
    simp only [Bool.and_eq_true] at this
    exact Z0f this.2.2
   rw [if_neg k0] at this
   by_cases k12:o.Kind=1∨o.Kind=2
   ·rw [if_pos k12] at this
    simp only [Bool.and_eq_true] at this
    exact Z0f this.2.2.2
   rw [if_neg k12] at this
   by_cases k3:o.Kind=3
   ·rw [if_pos k3] at this
    simp only [Bool.and_eq_true] at this
    exact oo o ho (d - 1) this.2.2.2.2
   rw [if_neg k3] at this;cases this
  rw [if_neg h3] at h;cases h
theorem Yde {e:Ed} (hb:BE e):∃ b,G8 e=some b∧(b=true→MC e∧rE e 64=true):=by
 obtain ⟨b,h1,h2⟩:=Yf7 hb
 have h3:=Yc7 hb (d:=64) (by decide)
 rw [show ((64:Nat):Int)=64 from rfl] at h3
 unfold G8
 rw [h1,Option.bind_some,h3,Yab hb]
 refine ⟨b && (rE e 64 && lgt e),?_,fun h => ?_⟩
 ·cases b <;> cases rE e 64 <;> cases lgt e <;> rfl
 simp only [Bool.and_eq_true] at h
 rw [h.1] at h1
 obtain ⟨hc,hs⟩:=Ye5 hb h1
 have hr:=h.2.1
 have hg:=Z7f _ e 64 (Nat.lt_succ_self _) hb (by omega) hr
 exact ⟨⟨Z7z _ e 64 (Nat.lt_succ_self _) hr,hb,hg,hs,Yad _ e 64 (Nat.lt_succ_self _) hb hg hc hr⟩,hr⟩
abbrev St:=Zy
def c1 (x y:St):Int:=if x.Kind < y.Kind then -1 else if y.Kind < x.Kind then 1 else if x.At < y.At then -1 else if y.At < x.At then 1 else 0
def stp (t:Tr) (s:St):Option Tr :=
 if s.Kind=0∧t.Kind=1∧0≤s.At∧s.At≤65534 then some ((t.Kids[s.At.toNat]?).getD ⟨0,[],[]⟩)
 else if s.Kind=0∧(2≤t.Kind∧t.Kind≤9)∧0≤s.At∧s.At < t.Kids.length then t.Kids[s.At.toNat]?
 else if s.Kind=1∧t.Kind=1∧0≤s.At∧s.At≤65534 then some ⟨1,[(t.Words[s.At.toNat]?).getD 0],[]⟩
 else if s.Kind=2∧(2≤t.Kind∧t.Kind≤9)∧0≤s.At∧s.At≤t.Kids.length then some ⟨t.Kind,[],[]⟩
 else none
def Zjm:Tr→List St→Option Tr
 | t,[]=>some t
 | t,s::l=>match stp t s with
  | none=>none
  | some u=>if s.Kind≠0∧l≠[] then none else Zjm u l
def Z25 (o:Option Tr):Tr×Bool:=match o with
 | none=>(⟨0,[],[]⟩,false)
 | some u=>(nrm u,true)
theorem Zud {α:Type} {xs:List α} {i:Int} (h0:0≤i) (h:i < xs.length):∃ x,Xp xs i=some x∧xs[i.toNat]? = some x:=by
 have hx:xs[i.toNat]? = some xs[i.toNat]:=List.getElem?_eq_getElem (by omega)
 have hg:=Yk hx
 rw [Int.toNat_of_nonneg h0] at hg
 exact ⟨_,hg,hx⟩
theorem Z6q (t:Tr):(⟨t.Kind,t.Words,t.Kids⟩:Tr)=t:=by cases t;rfl
theorem Yfo {t u:Tr} {s:St} (ht:Bd t) (h:stp t s=some u):Bd u:=by
 have b0:Bd ⟨0,[],[]⟩:=Zs5 0 [] (by simp) (fun x h=>by simp at h)
 unfold stp at h
 split at h
 ·injection h with h
  cases hq:t.Kids[s.At.toNat]? with
  | none=>rw [hq] at h;subst h;exact b0
  | some v=>rw [hq] at h;subst h;exact ht.all _ (List.mem_of_getElem? hq)
 split at h
 ·exact ht.all _ (List.mem_of_getElem? h)
 split at h
 ·injection h with h
  subst h
  refine Zs5 1 _ (by simp) fun x hx => ?_
  rw [List.mem_singleton.1 hx]
  cases hq:t.Words[s.At.toNat]? with
  | none=>simp
  | some v=>exact ht.u _ (List.mem_of_getElem? hq)
 split at h
 ·injection h with h
  subst h
  exact Zs5 _ [] (by simp) (fun x h=>by simp at h)
 cases h
theorem Zzn:∀ {l:List St} {t u:Tr},Bd t→Zjm t l=some u→Bd u
 | [],t,u,ht,h=>by rw [Zjm] at h;injection h with h;subst h;exact ht
 | s::l,t,u,ht,h=>by
  rw [Zjm] at h
  cases hq:stp t s with
  | none=>rw [hq] at h;cases h
  | some v =>
   rw [hq] at h
   simp only at h
   split at h
   ·cases h
   exact Zzn (Yfo ht hq) h
inductive Zyx:Tr→Prop
 | mk (t:Tr) (h:¬ t.Kind=1→¬ (2≤t.Kind∧t.Kind≤9)→t.Kids=[]) (hk:∀ k∈t.Kids,Zyx k):Zyx t
theorem Z8a:∀ (n:Nat) (t:Tr) (d:Nat),SizeOf.sizeOf t < n→rt t d=true→Zyx t
 | 0,_,_,h,_=>by omega
 | n+1,t,d,hn,h=>by
  rw [Zjk] at h
  by_cases h0:t.Kind=0
  ·rw [if_pos h0,Bool.and_eq_true,beq_iff_eq,beq_iff_eq] at h
   have hk:=List.eq_nil_of_length_eq_zero h.2
   exact .mk _ (fun _ _=>hk) (by rw [hk];simp)
  rw [if_neg h0] at h
  by_cases h10:t.Kind=10
  ·rw [if_pos h10,Bool.and_eq_true,beq_iff_eq,beq_iff_eq] at h
   have hk:=List.eq_nil_of_length_eq_zero h.2
   exact .mk _ (fun _ _=>hk) (by rw [hk];simp)
  rw [if_neg h10] at h
  split at h
  ·cases h
  rename_i hc
  rw [List.all_eq_true] at h
  refine .mk _ (fun h1 h2=>by omega) fun k hk => ?_
  have:=h k hk
  rw [Bool.and_eq_true] at this
  exact Z8a n k (d - 1) (by have:=Ga hk;omega) this.1
theorem Zr8 {α:Type} (x:α) (l:List α):Zd1 (x::l) 1 ((x::l).length:Int)=some l:=by
 rw [Zk9 (by omega) (by simp;omega) (by omega)]
 simp
theorem Ydp (w:Int):nrm ⟨1,[w],[]⟩=⟨1,if w=0 then [] else [w],[]⟩:=by
 rw [Vm rfl]
 by_cases h:w=0 <;> simp [tr,h]
theorem Z8y {k:Int} (h:2≤k∧k≤9):nrm ⟨k,[],[]⟩=⟨k,[],[]⟩:=by
 rw [Za1 (by simp only;omega) (by simp only;omega)];rfl
theorem Z73:∀ (l:List St) (k:Nat) (t:Tr),l.length < k→Bd t→Zyx t→Ku k t l=some (Z25 (Zjm t l))
 | _,0,_,h,_,_=>by omega
 | [],k+1,t,_,hb,_=>by
  show Vg (Ku k) t []=_
  unfold Vg
  rw [Ya7 hb]
  rfl
 | s::l,k+1,t,hk,hb,htm=>by
  have htk:∀ x∈t.Kids,Zyx x:=by cases htm;assumption
  have hte:¬ t.Kind=1→¬ (2≤t.Kind∧t.Kind≤9)→t.Kids=[]:=by cases htm;assumption
  have ih:∀ x,Bd x→Zyx x→Ku k x l=some (Z25 (Zjm x l)):=fun x=>Z73 l k x (by simp at hk;omega)
  have b0:Bd ⟨0,[],[]⟩:=Zs5 0 [] (by simp) (fun x h=>by simp at h)
  have t0:Zyx ⟨0,[],[]⟩ := .mk _ (fun _ _=>rfl) (by simp)
  show Vg (Ku k) t (s::l)=_
  unfold Vg
  have e0:(((s::l).length:Int) == 0)=false:=by rw [beq_eq_false_iff_ne];simp;omega
  rw [e0,cond_false,show Xp (s::l) 0=some s from rfl,Option.bind_some,Zjm]
  by_cases hA:s.At < 0
  ·rw [decide_eq_true hA,cond_true,cond_true]
   have:stp t s=none:=by unfold stp;rw [if_neg (by omega),if_neg (by omega),if_neg (by omega),if_neg (by omega)]
   rw [this];rfl
  rw [decide_eq_false hA,cond_false]
  by_cases hS:t.Kind=1
  ·have f1:(t.Kind == 1)=true:=by rw [hS];rfl
   rw [f1]
   by_cases hB:65535≤s.At
   ·rw [decide_eq_true hB]
    have:stp t s=none:=by unfold stp;rw [if_neg (by omega),if_neg (by omega),if_neg (by omega),if_neg (by omega)]
    rw [this];rfl
   rw [decide_eq_false hB]
   simp only [cond_true,cond_false]
   by_cases k0:s.Kind=0
   ·have g0:(s.Kind == 0)=true:=by rw [k0];rfl
    have hstp:stp t s=some ((t.Kids[s.At.toNat]?).getD ⟨0,[],[]⟩):=by unfold stp;rw [if_pos ⟨k0,hS,by omega,by omega⟩]
    rw [g0,cond_true,hstp]
    simp only
    rw [if_neg (by omega)]
    by_cases hlt:s.At < (t.Kids.length:Int)
    ·obtain ⟨x,h1,h2⟩:=Zud (xs:=t.Kids) (by omega) hlt
     have hm:=List.mem_of_getElem? h2
     rw [decide_eq_true hlt,cond_true,h1,h2,Option.bind_some,Zr8,Option.bind_some,ih x (hb.all x hm) (htk x hm)]
     simp only [Option.bind_some,Option.getD_some,Z6q]
    rw [decide_eq_false hlt,cond_false,Zr8,Option.bind_some,ih _ b0 t0,List.getElem?_eq_none (by omega)]
    simp only [Option.bind_some,Option.getD_none,Z6q]
   have g0:(s.Kind == 0)=false:=by rw [beq_eq_false_iff_ne];exact k0
   rw [g0,cond_false]
   by_cases k1:s.Kind=1
   ·have g1:(s.Kind == 1)=true:=by rw [k1];rfl
    have hstp:stp t s=some ⟨1,[(t.Words[s.At.toNat]?).getD 0],[]⟩:=by unfold stp;rw [if_neg (by omega),if_neg (by omega),if_pos ⟨k1,hS,by omega,by omega⟩]
    rw [g1,cond_true,hstp]
    cases l with
    | nil =>
     simp only [Zjm,ne_eq,not_true_eq_false,and_false,if_false]
     rw [show ((([s]:List St).length:Int) == 1)=true from rfl]
     simp only [cond_true]
     unfold Z25
     simp only
     rw [Ydp]
     by_cases hlt:s.At < (t.Words.length:Int)
     ·obtain ⟨x,h1,h2⟩:=Zud (xs:=t.Words) (by omega) hlt
      rw [decide_eq_true hlt,h1,h2]
      by_cases hx:x=0
      ·subst hx;rfl
      simp only [cond_true,Option.bind_some,Option.getD_some,if_neg hx,(bne_iff_ne (a:=x) (b:=0)).2 hx]
     rw [decide_eq_false hlt,List.getElem?_eq_none (by omega)];rfl
    | cons s' l' =>
     simp only
     rw [if_pos ⟨k0,by simp⟩]
     have e1:(((s::s'::l').length:Int) == 1)=false:=by rw [beq_eq_false_iff_ne];simp;omega
     rw [e1];rfl
   have hstp:stp t s=none:=by unfold stp;rw [if_neg (by omega),if_neg (by omega),if_neg (by omega),if_neg (by omega)]
   have e2:(decide (2≤t.Kind))=false:=by rw [hS];rfl
   rw [beq_eq_false_iff_ne.2 k1,cond_false,hstp,e2]
   cases s.Kind == 2 <;> cases (((s::l).length:Int) == 1) <;> rfl
  have f1:(t.Kind == 1)=false:=by rw [beq_eq_false_iff_ne];exact hS
  rw [f1]
  simp only [cond_false]
  by_cases k0:s.Kind=0
  ·have g0:(s.Kind == 0)=true:=by rw [k0];rfl
   rw [g0,cond_true]
   by_cases hlt:s.At < (t.Kids.length:Int)
   ·obtain ⟨x,h1,h2⟩:=Zud (xs:=t.Kids) (by omega) hlt
    have hm:=List.mem_of_getElem? h2
    have hL:2≤t.Kind∧t.Kind≤9:=by
     refine Classical.byContradiction fun hn => ?_
     rw [hte hS hn] at hlt
     simp at hlt;omega
    have hstp:stp t s=some x:=by unfold stp;rw [if_neg (by omega),if_pos ⟨k0,hL,by omega,hlt⟩,h2]
    rw [decide_eq_true hlt,cond_true,h1,Option.bind_some,Zr8,Option.bind_some,ih x (hb.all x hm) (htk x hm),hstp]
    simp only
    rw [if_neg (by omega)]
    simp only [Option.bind_some,Z6q]
   have hstp:stp t s=none:=by unfold stp;rw [if_neg (by omega),if_neg (by omega),if_neg (by omega),if_neg (by omega)]
   rw [decide_eq_false hlt,hstp];rfl
  have g0:(s.Kind == 0)=false:=by rw [beq_eq_false_iff_ne];exact k0
  rw [g0,cond_false]
  by_cases k1:s.Kind=1
  ·have hstp:stp t s=none:=by unfold stp;rw [if_neg (by omega),if_neg (by omega),if_neg (by omega),if_neg (by omega)]
   have g1:(s.Kind == 1)=true:=by rw [k1];rfl
   rw [hstp,g1]
   cases (((s::l).length:Int) == 1) <;> rfl
  rw [beq_eq_false_iff_ne.2 k1,cond_false]
  by_cases k2:s.Kind=2
  ·have g2:(s.Kind == 2)=true:=by rw [k2];rfl
   rw [g2,cond_true]
   by_cases hC:(2≤t.Kind∧t.Kind≤9)∧s.At≤(t.Kids.length:Int)
   ·have hstp:stp t s=some ⟨t.Kind,[],[]⟩:=by unfold stp;rw [if_neg (by omega),if_neg (by omega),if_neg (by omega),if_pos ⟨k2,hC.1,by omega,hC.2⟩]
    rw [hstp,decide_eq_true hC.1.1,decide_eq_true hC.1.2,decide_eq_true hC.2]
    cases l with
    | nil =>
     simp only [Zjm,ne_eq,not_true_eq_false,and_false,if_false]
     rw [show ((([s]:List St).length:Int) == 1)=true from rfl]
     unfold Z25
     simp only
     rw [Z8y hC.1]
     rfl
    | cons s' l' =>
     simp only
     rw [if_pos ⟨k0,by simp⟩]
     have e1:(((s::s'::l').length:Int) == 1)=false:=by rw [beq_eq_false_iff_ne];simp;omega
     rw [e1];rfl
   have hstp:stp t s=none:=by unfold stp;rw [if_neg (by omega),if_neg (by omega),if_neg (by omega),if_neg (by omega)]
   rw [hstp]
   have:(cond (cond (cond (((s::l).length:Int) == 1) (cond (decide (2≤t.Kind)) (decide (t.Kind≤9)) false) false) (decide (s.At≤(t.Kids.length:Int))) false) (some (Sum.inr (true,t.Kind,([]:List Int),([]:List Zb)))) (some (Sum.inl ())):Option (Unit ⊕ (Bool×Int×(List Int)×(List Zb))))=some (Sum.inl ()):=by
    by_cases h1:2≤t.Kind
    ·by_cases h2:t.Kind≤9
     ·rw [decide_eq_false (by omega:¬ s.At≤(t.Kids.length:Int))]
      cases (((s::l).length:Int) == 1) <;> cases decide (2≤t.Kind) <;> cases decide (t.Kind≤9) <;> rfl
     rw [decide_eq_false h2]
     cases (((s::l).length:Int) == 1) <;> cases decide (2≤t.Kind) <;> rfl
    rw [decide_eq_false h1]
    cases (((s::l).length:Int) == 1) <;> rfl
   rw [this];rfl
  have hstp:stp t s=none:=by unfold stp;rw [if_neg (by omega),if_neg (by omega),if_neg (by omega),if_neg (by omega)]
  rw [beq_eq_false_iff_ne.2 k2,hstp];rfl
theorem Z74 {t:Tr} {l:List St} (hb:Bd t) (ht:Zyx t):Zdy t l=some (Z25 (Zjm t l)):=Zcf (l.length+1) fun k hk=>Z73 l k t (by omega) hb ht
inductive N1:Ed→Prop
 | mk (e:Ed) (h:∀ o∈e.Ops,(o.Kind=0∧o.E=eS0)∨(o.Kind≠0∧o.N≤1)) (ik:∀ k∈e.Kids,N1 k.E) (io:∀ o∈e.Ops,N1 o.E):N1 e
theorem N1.ops {e:Ed} (h:N1 e):∀ o∈e.Ops,(o.Kind=0∧o.E=eS0)∨(o.Kind≠0∧o.N≤1):=by cases h;assumption
theorem N1.ks {e:Ed} (h:N1 e):∀ k∈e.Kids,N1 k.E:=by cases h;assumption
theorem N1.os {e:Ed} (h:N1 e):∀ o∈e.Ops,N1 o.E:=by cases h;assumption
theorem N1.z:N1 eS0 := .mk _ (by simp [eS0]) (by simp [eS0]) (by simp [eS0])
theorem N1.of:∀ (n:Nat) (e:Ed) (d:Nat),SizeOf.sizeOf e < n→rE e d=true→N1 e
 | 0,_,_,h,_=>by omega
 | n+1,e,d,hn,h=>by
  rw [Zlk] at h
  by_cases hd:d=0
  ·rw [if_pos hd] at h;cases h
  rw [if_neg hd] at h
  by_cases h0:e.Kind=0
  ·rw [if_pos h0] at h
   rw [Ztf h]
   exact .z
  rw [if_neg h0] at h
  by_cases h1:e.Kind=1
  ·rw [if_pos h1] at h
   unfold Zfk Ze2 at h
   simp only [Bool.and_eq_true,beq_iff_eq] at h
   have e1:=List.eq_nil_of_length_eq_zero h.1.1.2
   have e2:=List.eq_nil_of_length_eq_zero h.1.2.2
   exact .mk _ (by rw [e2];simp) (by rw [e1];simp) (by rw [e2];simp)
  rw [if_neg h1] at h
  by_cases h2:e.Kind=2
  ·rw [if_pos h2] at h
   unfold Ze2 at h
   simp only [Bool.and_eq_true,beq_iff_eq] at h
   have e2:=List.eq_nil_of_length_eq_zero h.1.2.2
   refine .mk _ (by rw [e2];simp) (fun k hk=>N1.of n k.E (d - 1) (by have:=Jv hk;omega) ?_) (by rw [e2];simp)
   exact Zm3 (Q:=fun k:Zl=>rE k.E (d - 1)=true) (fun p x hx=>by
    unfold okK okP at hx
    simp only [Bool.and_eq_true] at hx
    exact hx.2.2) e.Kids (-1) h.2.2 k hk
  rw [if_neg h2] at h
  by_cases h3:e.Kind=3
  ·rw [if_pos h3] at h
   unfold Zfk at h
   rw [Bool.and_eq_true,Bool.and_eq_true,Bool.and_eq_true,Bool.and_eq_true,Bool.and_eq_true,Bool.and_eq_true,beq_iff_eq,beq_iff_eq,List.all_eq_true] at h
   obtain ⟨⟨_,_,hk⟩,_,hall,hB⟩:=h
   have e1:=List.eq_nil_of_length_eq_zero hk
   have key:∀ o∈e.Ops,((o.Kind=0∧o.E=eS0)∨(o.Kind≠0∧o.N≤1))∧N1 o.E:=fun o ho=>by
    have:=hall o ho
    unfold okO at this
    by_cases k0:o.Kind=0
    ·rw [if_pos k0] at this
     simp only [Bool.and_eq_true] at this
     have q:=Ztf this.2.2
     exact ⟨.inl ⟨k0,q⟩,by rw [q];exact .z⟩
    rw [if_neg k0] at this
    by_cases k12:o.Kind=1∨o.Kind=2
    ·rw [if_pos k12] at this
     simp only [Bool.and_eq_true,beq_iff_eq] at this
     exact ⟨.inr ⟨k0,by omega⟩,by rw [Ztf this.2.2.2];exact .z⟩
    rw [if_neg k12] at this
    by_cases k3:o.Kind=3
    ·rw [if_pos k3] at this
     simp only [Bool.and_eq_true,beq_iff_eq] at this
     exact ⟨.inr ⟨k0,by omega⟩,N1.of n o.E (d - 1) (by have:=V4 ho;omega) this.2.2.2.2⟩
    rw [if_neg k3] at this;cases this
   exact .mk _ (fun o ho=>(key o ho).1) (by rw [e1];simp) fun o ho=>(key o ho).2
  rw [if_neg h3] at h;cases h
def thF (o:EO):Int:=if (if 1 < o.N then o.N else 1) < (o.L.length:Int) then (o.L.length:Int) else (if 1 < o.N then o.N else 1)
theorem Yfy {o:EO} (hp:opk o) (hL:o.Kind=0∨o.Kind=3→o.L=[]) (h1:(o.Kind=0∧o.E=eS0)∨(o.Kind≠0∧o.N≤1)):thF o=(Uk o:Int):=by
 have key:∀ n:Int,(o.Kind=0→o.L.length=0∧1≤o.N∧n=o.N)→(o.Kind≠0→o.N≤1∧(n=o.L.length∧1≤o.L.length∨n=1∧o.L.length=0))→thF o=n:=fun n q0 q1=>by
  unfold thF
  by_cases k:o.Kind=0
  ·obtain ⟨a1,a2,a3⟩:=q0 k
   rw [a1]
   split <;> split <;> omega
  obtain ⟨a1,a2⟩:=q1 k
  rw [if_neg (show ¬ 1 < o.N by omega)]
  split <;> omega
 refine key _ (fun k => ?_) fun k => ?_
 ·have ht:Uk o=o.N.toNat:=by unfold Uk;rw [if_pos k]
  rcases hp with ⟨_,hk⟩ | ⟨q,_⟩ | ⟨q,_⟩ | q
  ·exact ⟨by rw [hL (.inl k)];rfl,hk,by omega⟩
  ·omega
  ·omega
  omega
 refine ⟨by rcases h1 with h1 | h1 <;> omega,?_⟩
 rcases hp with ⟨q,_⟩ | ⟨q,hk⟩ | ⟨q,hk⟩ | q
 ·omega
 ·have ht:Uk o=o.L.length:=by unfold Uk;rw [if_neg (by omega),if_neg (by omega)]
  have:o.L.length≠0:=fun q=>hk (List.eq_nil_of_length_eq_zero q)
  exact .inl ⟨by omega,by omega⟩
 ·have ht:Uk o=o.L.length:=by unfold Uk;rw [if_neg (by omega),if_neg (by omega)]
  have:o.L.length≠0:=fun q=>hk (List.eq_nil_of_length_eq_zero q)
  exact .inl ⟨by omega,by omega⟩
 have ht:Uk o=1:=by unfold Uk;rw [if_neg (by omega),if_pos q]
 exact .inr ⟨by omega,by rw [hL (.inr q)];rfl⟩
def inl (a:Nat):List EO→Nat→Nat→Option (Ed×Nat)
 | [],_,_=>none
 | o::os,gone,now =>
  if o.Kind=2 then inl a os gone (now+Uk o)
  else if a < gone+Uk o then (if o.Kind=1 then none else some (o.E,now+a - gone))
  else inl a os (gone+Uk o) (if o.Kind=1 then now else now+Uk o)
theorem Z9e {os:List EO} (hp:∀ o∈os,opk o) {l out:List Tr} {s':List Tr×List Tr} (h:RO os (l,out)=some s'):∃ m,s'.2=out++m:=by
 rw [Z9d os hp] at h
 obtain ⟨y,h1,rfl⟩:=Option.map_eq_some_iff.1 h
 exact ⟨y.2,rfl⟩
theorem Zun {a:Nat}:∀ (os:List EO) (gone now:Nat) (left out:List Tr) (s':List Tr×List Tr) (e:Ed) (b:Nat) (w:Tr),
  (∀ o∈os,opk o)→(∀ o∈os,(o.Kind=0∧o.E=eS0)∨(o.Kind≠0∧o.N≤1))→RO os (left,out)=some s'→out.length=now→gone≤a→left[a - gone]? = some w→inl a os gone now=some (e,b)→∃ w',s'.2[b]? = some w'∧ap e w=some w'
 | [],_,_,_,_,_,_,_,_,_,_,_,_,_,_,h=>by cases h
 | o::os,gone,now,left,out,s',e,b,w,hp,hn,hr,ho,hg,hw,h=>by
  have hpo:=hp o (.head _)
  have hp':∀ o∈os,opk o:=fun x hx=>hp x (.tail _ hx)
  have hn':∀ o∈os,(o.Kind=0∧o.E=eS0)∨(o.Kind≠0∧o.N≤1):=fun x hx=>hn x (.tail _ hx)
  rw [Zyt] at hr
  obtain ⟨s1,h1,h2⟩:=Option.bind_eq_some_iff.1 hr
  unfold inl at h
  rcases hpo with ⟨k,hk⟩ | ⟨k,hk⟩ | ⟨k,hk⟩ | k
  ·have ht:Uk o=o.N.toNat:=by unfold Uk;rw [if_pos k]
   rw [if_neg (by omega)] at h
   rw [Z5k k] at h1
   unfold Zjd at h1
   split at h1
   ·rename_i hb
    simp only at hb
    cases h1
    split at h
    ·rename_i hlt
     rw [if_neg (by omega)] at h
     cases h
     obtain ⟨m,hm⟩:=Z9e hp' h2
     refine ⟨w,?_,?_⟩
     ·have hl:a - gone < (left.take o.N.toNat).length:=by
       have:a - gone < left.length:=by
        rcases Nat.lt_or_ge (a - gone) left.length with q | q
        ·exact q
        rw [List.getElem?_eq_none q] at hw;cases hw
       rw [List.length_take]
       omega
      have hi:a - gone < o.N.toNat:=by omega
      rw [hm,List.append_assoc,show now+a - gone=out.length+(a - gone) by omega,List.getElem?_append_right (Nat.le_add_right _ _),Nat.add_sub_cancel_left,List.getElem?_append_left hl,List.getElem?_take,if_pos hi,hw]
     rcases hn o (.head _) with q | q
     ·rw [q.2,Zbr];exact if_pos rfl
     omega
    rename_i hlt
    rw [if_neg (by omega)] at h
    have hl:(out++left.take o.N.toNat).length=now+Uk o:=by rw [List.length_append,List.length_take];omega
    refine Zun os (gone+Uk o) (now+Uk o) _ _ s' e b w hp' hn' h2 hl (by omega) ?_ h
    rw [List.getElem?_drop,← hw]
    congr 1
    omega
   cases h1
  ·have ht:Uk o=o.L.length:=by unfold Uk;rw [if_neg (by omega),if_neg (by omega)]
   rw [if_neg (by omega)] at h
   rw [Z5l k] at h1
   unfold Zj2 at h1
   split at h1
   ·cases h1
    split at h
    ·cases h
    rename_i hlt
    refine Zun os (gone+Uk o) now _ _ s' e b w hp' hn' h2 ho (by omega) ?_ h
    rw [List.getElem?_drop,← hw]
    congr 1
    omega
   cases h1
  ·have ht:Uk o=o.L.length:=by unfold Uk;rw [if_neg (by omega),if_neg (by omega)]
   rw [if_pos k] at h
   rw [Z5m k] at h1
   unfold Zkb at h1
   cases h1
   have hl:(out++o.L.map nrm).length=now+Uk o:=by rw [List.length_append,List.length_map];omega
   exact Zun os gone (now+Uk o) _ _ s' e b w hp' hn' h2 hl hg hw h
  have ht:Uk o=1:=by unfold Uk;rw [if_neg (by omega),if_pos k]
  rw [if_neg (by omega)] at h
  rw [Z37 k] at h1
  cases left with
  | nil=>simp at hw
  | cons y left =>
   simp only at h1
   obtain ⟨u,hu,h1⟩:=Option.map_eq_some_iff.1 h1
   subst h1
   split at h
   ·rename_i hlt
    rw [if_neg (by omega)] at h
    cases h
    obtain ⟨m,hm⟩:=Z9e hp' h2
    have e0:a - gone=0:=by omega
    rw [e0] at hw
    simp only [List.getElem?_cons_zero,Option.some.injEq] at hw
    subst hw
    refine ⟨u,?_,hu⟩
    rw [hm,List.append_assoc,show now+a - gone=out.length+0 by omega,List.getElem?_append_right (Nat.le_add_right _ _),Nat.add_sub_cancel_left]
    rfl
   rename_i hlt
   rw [if_neg (by omega)] at h
   have hl:(out++[u]).length=now+Uk o:=by rw [List.length_append,List.length_singleton];omega
   refine Zun os (gone+Uk o) (now+Uk o) _ _ s' e b w hp' hn' h2 hl (by omega) ?_ h
   rw [← hw,show a - gone=(a - (gone+Uk o))+1 by omega,List.getElem?_cons_succ]
theorem Yf4 {e:Ed} (k:e.Kind=3) (t:Tr):ap e t=if t.Kind=e.List_ then Z9w t.Kind (RO e.Ops (t.Kids,[])) else none:=by
 rw [Zbr,if_neg (by omega),if_neg (by omega),if_neg (by omega),if_pos k]
 rfl
structure FQ (e:Ed):Prop where
 z:RZ e
 b:BE e
 g:GN e
 n:N1 e
theorem FQ.s0:FQ eS0:=⟨.same _ rfl,Zt1,Zuf,.z⟩
theorem fqK {e:Ed} (h:FQ e) (k2:e.Kind=2):∀ k∈e.Kids,FQ k.E:=fun k hk=>by
 refine ⟨?_,h.b.ks k hk,h.g.ks k hk,h.n.ks k hk⟩
 cases h.z with
 | same _ q=>omega
 | repl _ q=>omega
 | li _ q=>omega
 | st _ _ _ _ _ _ ih=>exact ih k hk
theorem fqO {e:Ed} (h:FQ e) (k3:e.Kind=3):∀ o∈e.Ops,o.Kind=0∨o.Kind=3→FQ o.E:=fun o ho k=>by
 rcases k with k | k
 ·rcases h.n.ops o ho with q | q
  ·rw [q.2];exact .s0
  exact absurd k q.1
 refine ⟨?_,h.b.os o ho,h.g.os o ho,h.n.os o ho⟩
 cases h.z with
 | same _ q=>omega
 | repl _ q=>omega
 | st _ q=>omega
 | li _ _ _ _ _ _ _ ih=>exact ih o ho k
def nrw (e:Ed) (s:St):Option (Ed×Int) :=
 if s.Kind≠0∨s.At < 0 then none
 else if e.Kind=0 then some (eS0,s.At)
 else if e.Kind=2 then (match fd (·.At) e.Kids s.At.toNat with
  | none=>some (eS0,s.At)
  | some k=>some (k.E,s.At))
 else if e.Kind=3 then (inl s.At.toNat e.Ops 0 0).map fun x=>(x.1,(x.2:Int))
 else none
def Znm:Ed→List St→List St→Option (Ed×List St)
 | e,[],m=>some (e,m)
 | e,s::l,m=>match nrw e s with
  | none=>none
  | some x=>Znm x.1 l (m++[⟨0,x.2⟩])
theorem Zz0 {a:Nat}:∀ (os:List EO) (g n:Nat) (e:Ed) (b:Nat),inl a os g n=some (e,b)→(∀ o∈os,opk o)→∃ o∈os,o.E=e∧(o.Kind=0∨o.Kind=3)
 | [],_,_,_,_,h,_=>by cases h
 | o::os,g,n,e,b,h,hp=>by
  have hpo:=Zvi (hp o (.head _))
  unfold inl at h
  split at h
  ·obtain ⟨x,h1,h2⟩:=Zz0 os _ _ e b h fun x hx=>hp x (.tail _ hx)
   exact ⟨x,.tail _ h1,h2⟩
  split at h
  ·split at h
   ·cases h
   cases h
   exact ⟨o,.head _,rfl,by omega⟩
  obtain ⟨x,h1,h2⟩:=Zz0 os _ _ e b h fun x hx=>hp x (.tail _ hx)
  exact ⟨x,.tail _ h1,h2⟩
theorem Yc8 {α:Type} {pl:α→Int} {l:List α} {j:Nat} {x:α} (h:fd pl l j=some x):x∈l∧(pl x).toNat=j:=by
 unfold fd at h
 exact ⟨List.mem_of_find?_eq_some h,by have:=List.find?_some h;simpa using this⟩
theorem Z48 {e:Ed} (h:FQ e) {s:St} {x:Ed×Int} (q:nrw e s=some x):FQ x.1:=by
 unfold nrw at q
 split at q
 ·cases q
 split at q
 ·cases q;exact .s0
 split at q
 ·rename_i k2
  split at q
  ·cases q;exact .s0
  rename_i k hk
  cases q
  exact fqK h k2 k (Yc8 hk).1
 split at q
 ·rename_i k3
  obtain ⟨y,h1,h2⟩:=Option.map_eq_some_iff.1 q
  subst h2
  obtain ⟨o,ho,h3,h4⟩:=Zz0 e.Ops 0 0 y.1 y.2 h1 h.g.p
  simp only
  rw [← h3]
  exact fqO h k3 o ho h4
 cases q
theorem Yfp {t w:Tr} (gt:GT t) {s:St} (k0:s.Kind=0) (h:stp t s=some w):GT w:=by
 unfold stp at h
 split at h
 ·cases h;exact gt.at_ _
 split at h
 ·exact gt.all w (List.mem_of_getElem? h)
 rw [if_neg (by omega),if_neg (by omega)] at h
 cases h
theorem Yfn {s:St} (k0:s.Kind=0):(⟨0,s.At⟩:St)=s:=by cases s;simp_all
theorem Yan {e:Ed} (hq:FQ e) {t u w:Tr} (gt:GT t) (ha:ap e t=some u) {s:St} {e':Ed} {i:Int} (hn:nrw e s=some (e',i)) (hw:stp t s=some w):∃ w',stp u ⟨0,i⟩=some w'∧ap e' w=some w':=by
 unfold nrw at hn
 split at hn
 ·cases hn
 rename_i hs
 have k0:s.Kind=0:=by omega
 have hA:0≤s.At:=by omega
 split at hn
 ·rename_i e0
  cases hn
  rw [Zbr,if_pos e0] at ha
  cases ha
  exact ⟨w,by rw [Yfn k0];exact hw,by rw [Zbr];exact if_pos rfl⟩
 split at hn
 ·rename_i _ k2
  have k1:t.Kind=1:=by
   apply Classical.byContradiction
   intro c
   rw [Yd0 k2 c] at ha
   cases ha
  have hw':s.At≤65534∧w=Km Kl t.Kids s.At.toNat:=by
   unfold stp at hw
   split at hw
   ·rename_i q
    cases hw
    exact ⟨q.2.2.2,rfl⟩
   rw [if_neg (by omega),if_neg (by omega),if_neg (by omega)] at hw
   cases hw
  rcases Yd1 k2 hq.z hq.b gt k1 with ⟨u',h1,h2,h3,_,h5⟩ | ⟨h1,_⟩
  ·rw [ha] at h1
   cases h1
   have hj:=h5 s.At.toNat
   rw [← hw'.2] at hj
   have hu:stp u ⟨0,s.At⟩=some (Km Kl u.Kids s.At.toNat):=by
    unfold stp
    rw [if_pos ⟨rfl,h3,hA,hw'.1⟩]
    rfl
   unfold stK at hj
   split at hn
   ·rename_i hf
    cases hn
    rw [hf] at hj
    cases hj
    exact ⟨_,hu,by rw [Zbr];exact if_pos rfl⟩
   rename_i k hf
   cases hn
   rw [hf] at hj
   exact ⟨_,hu,hj⟩
  rw [ha] at h1;cases h1
 split at hn
 ·rename_i _ _ k3
  obtain ⟨y,h1,h2⟩:=Option.map_eq_some_iff.1 hn
  cases h2
  rw [Yf4 k3] at ha
  split at ha
  ·rename_i hk
   cases hr:RO e.Ops (t.Kids,[]) with
   | none=>rw [hr] at ha;cases ha
   | some s' =>
    rw [hr] at ha
    obtain ⟨l1,l2⟩:=s'
    cases l1 with
    | cons _ _=>cases ha
    | nil =>
     cases ha
     have hL:2≤t.Kind∧t.Kind≤9:=by
      cases hq.z with
      | same _ q=>omega
      | repl _ q=>omega
      | st _ q=>omega
      | li _ _ hl=>omega
     have hw':t.Kids[s.At.toNat]? = some w:=by
      unfold stp at hw
      rw [if_neg (by omega)] at hw
      split at hw
      ·exact hw
      rw [if_neg (by omega),if_neg (by omega)] at hw
      cases hw
     obtain ⟨w',q1,q2⟩:=Zun e.Ops 0 0 t.Kids [] ([],l2) y.1 y.2 w hq.g.p hq.n.ops hr rfl (Nat.zero_le _) (by rw [Nat.sub_zero];exact hw') h1
     have hlt:y.2 < l2.length:=by
      rcases Nat.lt_or_ge y.2 l2.length with q | q
      ·exact q
      simp only at q1
      rw [List.getElem?_eq_none q] at q1;cases q1
     refine ⟨w',?_,q2⟩
     unfold stp
     rw [if_neg (by simp only;omega),if_pos ⟨rfl,hL,by simp only;omega,by simp only;omega⟩]
     simp only [Int.toNat_natCast]
     exact q1
  cases ha
 cases hn
theorem Z7s:∀ (l:List St) (e:Ed) (m0:List St) (t u w:Tr) (ef:Ed) (m:List St),FQ e→GT t→ap e t=some u→Znm e l m0=some (ef,m)→Zjm t l=some w →
  ∃ m',m=m0++m'∧(∀ s∈l,s.Kind=0)∧FQ ef∧GT w∧∃ w',Zjm u m'=some w'∧ap ef w=some w'
 | [],e,m0,t,u,w,ef,m,hq,gt,ha,hn,hg=>by
  cases hn
  cases hg
  exact ⟨[],by simp,by simp,hq,gt,u,rfl,ha⟩
 | s::l,e,m0,t,u,w,ef,m,hq,gt,ha,hn,hg=>by
  unfold Znm at hn
  cases hx:nrw e s with
  | none=>rw [hx] at hn;cases hn
  | some x =>
   rw [hx] at hn
   simp only at hn
   have k0:s.Kind=0:=by
    unfold nrw at hx
    split at hx
    ·cases hx
    omega
   unfold Zjm at hg
   cases hs:stp t s with
   | none=>rw [hs] at hg;cases hg
   | some v =>
    rw [hs] at hg
    simp only at hg
    rw [if_neg (by omega)] at hg
    obtain ⟨v',h1,h2⟩:=Yan hq gt ha (e':=x.1) (i:=x.2) hx hs
    obtain ⟨m',q1,q2,q3,q4,w',q5,q6⟩:=Z7s l x.1 (m0++[⟨0,x.2⟩]) v v' w ef m (Z48 hq hx) (Yfp gt k0 hs) h2 hn hg
    refine ⟨⟨0,x.2⟩::m',by rw [q1,List.append_assoc];rfl,fun y hy => ?_,q3,q4,w',?_,q6⟩
    ·rcases List.mem_cons.1 hy with rfl | hy
     ·exact k0
     exact q2 y hy
    unfold Zjm
    rw [h1]
    simp only
    rw [if_neg (by simp)]
    exact q5
theorem Yd3 {t:Tr} {s:St} (k0:s.Kind=0):stp (nrm t) s=(stp t s).map nrm:=by
 have nz:nrm Kl=Kl:=Zes _
 by_cases h1:t.Kind=1
 ·have hk:(nrm t).Kids=tr pT (t.Kids.map nrm):=by rw [Vm h1];rfl
  have e1:Km Kl (nrm t).Kids s.At.toNat=nrm (Km Kl t.Kids s.At.toNat):=by
   rw [hk,Zsr _ (fun x hx hp => ?_)]
   ·unfold Km
    rw [List.getElem?_map]
    cases t.Kids[s.At.toNat]? with
    | none=>exact nz.symm
    | some x=>rfl
   obtain ⟨y,hy,rfl⟩:=List.mem_map.1 hx
   have:(nrm y).Kind=0:=by unfold pT at hp;rwa [beq_iff_eq] at hp
   rw [Ka] at this
   rw [Zes,if_pos this]
   rfl
  unfold stp
  rw [Ka]
  by_cases hc:0≤s.At∧s.At≤65534
  ·rw [if_pos ⟨k0,h1,hc⟩,if_pos ⟨k0,h1,hc⟩]
   exact congrArg some e1
  rw [if_neg (by omega),if_neg (by omega),if_neg (by omega),if_neg (by omega),if_neg (by omega),if_neg (by omega),if_neg (by omega),if_neg (by omega)]
  rfl
 by_cases h2:2≤t.Kind∧t.Kind≤9
 ·have hk:(nrm t).Kids=t.Kids.map nrm:=by rw [Za1 (by omega) h1]
  have A:∀ x:Tr,x.Kind=t.Kind→stp x s=if 0≤s.At∧s.At < x.Kids.length then x.Kids[s.At.toNat]? else none:=fun x hx=>by
   unfold stp
   rw [if_neg (by omega)]
   by_cases hc:0≤s.At∧s.At < x.Kids.length
   ·rw [if_pos ⟨k0,by omega,hc⟩,if_pos hc]
   rw [if_neg (by omega),if_neg (by omega),if_neg (by omega),if_neg hc]
  rw [A _ (Ka t),A t rfl,hk,List.length_map,List.getElem?_map]
  split <;> rfl
 have B:∀ x:Tr,x.Kind=t.Kind→stp x s=none:=fun x hx=>by
  unfold stp
  rw [if_neg (by omega),if_neg (by omega),if_neg (by omega),if_neg (by omega)]
 rw [B _ (Ka t),B t rfl]
 rfl
theorem Z26:∀ (l:List St) (t:Tr),(∀ s∈l,s.Kind=0)→Zjm (nrm t) l=(Zjm t l).map nrm
 | [],t,_=>rfl
 | s::l,t,h=>by
  have k0:=h s (.head _)
  unfold Zjm
  rw [Yd3 k0]
  cases stp t s with
  | none=>rfl
  | some v =>
   simp only [Option.map_some]
   rw [if_neg (by omega),if_neg (by omega)]
   exact Z26 l v fun x hx=>h x (.tail _ hx)
theorem Z7e:∀ (l:List St) (t w:Tr),(∀ s∈l,s.Kind=0)→Zjm t l=some w→pt w≤pt t
 | [],t,w,_,h=>by cases h;exact Nat.le_refl _
 | s::l,t,w,hl,h=>by
  have k0:=hl s (.head _)
  unfold Zjm at h
  cases hs:stp t s with
  | none=>rw [hs] at h;cases h
  | some v =>
   rw [hs] at h
   simp only at h
   rw [if_neg (by omega)] at h
   refine Nat.le_trans (Z7e l v w (fun x hx=>hl x (.tail _ hx)) h) ?_
   have p1:1≤pt t:=by rw [Zji];omega
   unfold stp at hs
   split at hs
   ·cases hs
    cases hq:t.Kids[s.At.toNat]? with
    | none=>exact Nat.le_trans (Nat.le_of_eq Yay) p1
    | some x=>exact Zup (List.mem_of_getElem? hq)
   split at hs
   ·exact Zup (List.mem_of_getElem? hs)
   rw [if_neg (by omega),if_neg (by omega)] at hs
   cases hs
theorem Yfa (ks:List KE) (s:St) (hl:ks.length≤1048576):∃ r,Y0 ks s=some r∧((r=-1∧∀ k∈ks,k.At≠s.At)∨∃ (i:Nat) (x:KE),r=(i:Int)∧ks[i]? = some x∧x.At=s.At):=by
 have key:∀ (ys:List KE) (i:Nat),ks.drop i=ys→i≤ks.length→∃ z,Zx (Yb ks s) (i:Int)=some z∧(match z with
   | .inl r=>∃ (j:Nat) (x:KE),r=(j:Int)∧ks[j]? = some x∧x.At=s.At
   | .inr _=>∀ k∈ys,k.At≠s.At):=fun ys=>by
  induction ys with
  | nil =>
   intro i h hi
   have:ks.length≤i:=by
    have:=congrArg List.length h
    rw [List.length_drop,List.length_nil] at this
    omega
   refine ⟨.inr (),Yl ?_,by simp⟩
   unfold Yb
   rw [decide_eq_false (by omega),cond_false]
  | cons x ys ih =>
   intro i h hi
   obtain ⟨d1,d2,d3⟩:=Zj3 h
   have hs:Yb ks s (i:Int)=if x.At=s.At then some (.inr (.inl (i:Int))) else some (.inl ((i+1:Nat):Int)):=by
    unfold Yb Zbj
    rw [decide_eq_true (by omega),cond_true,Yk d2,Option.bind_some,Option.bind_some,Zcx,Ki (by omega) (by omega)]
    rfl
   by_cases hx:x.At=s.At
   ·rw [if_pos hx] at hs
    exact ⟨.inl (i:Int),Yl hs,i,x,rfl,d2,hx⟩
   rw [if_neg hx] at hs
   obtain ⟨z,z1,z2⟩:=ih (i+1) d3 (by omega)
   refine ⟨z,by rw [Xh hs];exact z1,?_⟩
   cases z with
   | inl r=>exact z2
   | inr q =>
    intro k hk
    rcases List.mem_cons.1 hk with rfl | hk
    ·exact hx
    exact z2 k hk
 obtain ⟨z,z1,z2⟩:=key ks 0 rfl (Nat.zero_le _)
 unfold Y0
 rw [show (0:Int)=((0:Nat):Int) from rfl,z1,Option.bind_some]
 cases z with
 | inl r=>exact ⟨r,rfl,.inr z2⟩
 | inr q=>exact ⟨-1,rfl,.inl ⟨rfl,z2⟩⟩
theorem Ygn {ks:List KE} (h:ks.Pairwise (fun a b=>(a.At).toNat≠(b.At).toNat)) {i:Nat} {x:KE} (hx:ks[i]? = some x):fd (·.At) ks x.At.toNat=some x:=Zy4 h (List.mem_of_getElem? hx)
theorem Ydi (ops:List EO) (a:Nat) (hp:∀ o∈ops,opk o) (hn:∀ o∈ops,(o.Kind=0∧o.E=eS0)∨(o.Kind≠0∧o.N≤1)) (hL:∀ o∈ops,o.Kind=0∨o.Kind=3→o.L=[]) (hl:ops.length≤1048576) :
  ∀ (os:List EO) (i gone now:Nat),ops.drop i=os→i≤ops.length→gone≤a→gone+Ke os≤1073741824→now+Ke os≤1073741824 →
  ∃ z,Zx (Ub ops (a:Int)) ((gone:Int),(now:Int),(i:Int))=some z∧(match z with
   | .inl z=>(z.2.1=true→0≤z.1∧inl a os gone now=some (⟨z.2.2.1,⟨z.2.2.2.1,z.2.2.2.2.1,z.2.2.2.2.2.1⟩,⟨z.2.2.2.2.2.2.1,z.2.2.2.2.2.2.2.1,z.2.2.2.2.2.2.2.2.1⟩,z.2.2.2.2.2.2.2.2.2.1,z.2.2.2.2.2.2.2.2.2.2.1,z.2.2.2.2.2.2.2.2.2.2.2.1,z.2.2.2.2.2.2.2.2.2.2.2.2⟩,z.1.toNat))∧(z.2.1=false→inl a os gone now=none)
   | .inr _=>inl a os gone now=none):=fun os=>by
 induction os with
 | nil =>
  intro i gone now h hi _ _ _
  have:ops.length≤i:=by
   have:=congrArg List.length h
   rw [List.length_drop,List.length_nil] at this
   omega
  refine ⟨.inr (),Yl ?_,rfl⟩
  unfold Ub
  simp only
  rw [decide_eq_false (by omega),cond_false]
 | cons o os ih =>
  intro i gone now h hi hga hg hw
  obtain ⟨d1,d2,d3⟩:=Zj3 h
  have ho:o∈ops:=List.mem_of_getElem? d2
  have hth:(if (if 1 < o.N then o.N else 1) < (o.L.length:Int) then (o.L.length:Int) else (if 1 < o.N then o.N else 1))=((Uk o:Nat):Int):=Yfy (hp o ho) (hL o ho) (hn o ho)
  rw [Zyn] at hg hw
  have e1:Ub ops (a:Int) ((gone:Int),(now:Int),(i:Int))=if o.Kind=2 then some (.inl ((gone:Int),((now+Uk o:Nat):Int),((i+1:Nat):Int))) else if a < gone+Uk o then some (.inr (.inl ((now:Int)+a - gone,(o.Kind != 1),o.E.Kind,o.E.Old.Kind,o.E.Old.Words,o.E.Old.Kids,o.E.New.Kind,o.E.New.Words,o.E.New.Kids,o.E.Words,o.E.Kids,o.E.List_,o.E.Ops))) else some (.inl (((gone+Uk o:Nat):Int),(((if o.Kind=1 then now else now+Uk o):Nat):Int),((i+1:Nat):Int))):=by
   unfold Ub
   simp only
   rw [decide_eq_true (by omega),cond_true,Yk d2]
   simp only [Option.bind_some,hth]
   rw [Ki (x:=(gone:Int)+(Uk o:Nat)) (by omega) (by omega),Ki (x:=(now:Int)+(Uk o:Nat)) (by omega) (by omega),Ki (x:=(i:Int)+1) (by omega) (by omega)]
   by_cases k2:o.Kind=2
   ·rw [if_pos k2,beq_iff_eq.2 k2]
    rfl
   have k2':(o.Kind == 2)=false:=beq_eq_false_iff_ne.2 k2
   rw [if_neg k2,k2']
   simp only [cond_false]
   by_cases hlt:a < gone+Uk o
   ·rw [if_pos hlt,decide_eq_true (by omega)]
    simp only [cond_true,Option.bind_some]
    rw [Ki (x:=(now:Int)+(a:Nat)) (by omega) (by omega),Ki (x:=(now:Int)+(a:Nat) - (gone:Nat)) (by omega) (by omega)]
   rw [if_neg hlt,decide_eq_false (by omega)]
   by_cases k1:o.Kind=1
   ·have k1':(o.Kind != 1)=false:=by rw [k1];rfl
    rw [k1',if_pos k1]
    rfl
   have k1':(o.Kind != 1)=true:=by rw [bne_iff_ne];exact k1
   rw [k1',if_neg k1]
   rfl
  unfold inl
  by_cases k2:o.Kind=2
  ·rw [if_pos k2] at e1 ⊢
   obtain ⟨z,z1,z2⟩:=ih (i+1) gone (now+Uk o) d3 (by omega) hga (by omega) (by omega)
   exact ⟨z,by rw [Xh e1];exact z1,z2⟩
  rw [if_neg k2] at e1 ⊢
  by_cases hlt:a < gone+Uk o
  ·rw [if_pos hlt] at e1 ⊢
   refine ⟨_,Yl e1,fun hb => ?_,fun hb => ?_⟩
   ·simp only [bne_iff_ne] at hb
    rw [if_neg hb]
    simp only
    refine ⟨by omega,?_⟩
    rw [Z4r]
    congr 2
    omega
   simp only [bne_eq_false_iff_eq] at hb
   rw [if_pos hb]
  rw [if_neg hlt] at e1 ⊢
  obtain ⟨z,z1,z2⟩:=ih (i+1) (gone+Uk o) (if o.Kind=1 then now else now+Uk o) d3 (by omega) (by omega) (by omega) (by split <;> omega)
  exact ⟨z,by rw [Xh e1];exact z1,z2⟩
theorem Yda {e:Ed} (hq:FQ e) (k3:e.Kind=3):∀ o∈e.Ops,o.Kind=0∨o.Kind=3→o.L=[]:=by
 cases hq.z with
 | same _ q=>omega
 | repl _ q=>omega
 | st _ q=>omega
 | li _ _ _ _ hN=>exact hN
theorem Z8v {e:Ed} (hq:FQ e) (k3:e.Kind=3) {a:Int} (h0:0≤a):∃ f i b,Zc6 e.Ops a=some (f,i,b)∧(b=true→0≤i∧inl a.toNat e.Ops 0 0=some (f,i.toNat))∧(b=false→inl a.toNat e.Ops 0 0=none):=by
 have hs:=hq.g.s
 obtain ⟨z,z1,z2⟩:=Ydi e.Ops a.toNat hq.g.p hq.n.ops (Yda hq k3) hq.g.o e.Ops 0 0 0 rfl (Nat.zero_le _) (Nat.zero_le _) (by omega) (by omega)
 rw [Int.toNat_of_nonneg h0] at z1
 unfold Zc6
 rw [show ((0:Int),(0:Int),(0:Int))=(((0:Nat):Int),((0:Nat):Int),((0:Nat):Int)) from rfl,z1,Option.bind_some]
 cases z with
 | inl z=>exact ⟨_,z.1,z.2.1,rfl,z2.1,z2.2⟩
 | inr q=>exact ⟨_,_,false,rfl,(fun h=>by cases h),fun _=>z2⟩
theorem Z3o {e:Ed} (hq:FQ e) (s:St):∃ f i b,Za0 e s=some (f,i,b)∧(b=true→nrw e s=some (f,i))∧(b=false→nrw e s=none):=by
 unfold Za0 nrw
 by_cases hs:s.Kind≠0∨s.At < 0
 ·have:cond (s.Kind != 0) true (decide (s.At < 0))=true:=by
   by_cases h:s.Kind=0
   ·rw [show (s.Kind != 0)=false by rw [h];rfl,cond_false,decide_eq_true (by omega)]
   rw [show (s.Kind != 0)=true by rw [bne_iff_ne];exact h]
   rfl
  rw [this,if_pos hs]
  exact ⟨_,_,false,rfl,(fun h=>by cases h),fun _=>rfl⟩
 have:cond (s.Kind != 0) true (decide (s.At < 0))=false:=by
  rw [show (s.Kind != 0)=false by rw [show s.Kind=0 by omega];rfl,cond_false,decide_eq_false (by omega)]
 rw [this,if_neg hs,cond_false]
 simp only [Zcx]
 by_cases k0:e.Kind=0
 ·rw [if_pos k0,if_pos k0]
  exact ⟨_,_,true,rfl,(fun _=>rfl),fun h=>by cases h⟩
 rw [if_neg k0,if_neg k0]
 by_cases k2:e.Kind=2
 ·rw [if_pos k2,if_pos k2]
  obtain ⟨r,r1,r2⟩:=Yfa e.Kids s hq.g.k
  rw [r1,Option.bind_some]
  have hz:=hq.z
  cases hz with
  | same _ q=>omega
  | repl _ q=>omega
  | li _ q=>omega
  | st _ _ _ _ hk hk2 _ =>
   rcases r2 with ⟨rfl,h2⟩ | ⟨j,x,rfl,h2,h3⟩
   ·rw [decide_eq_true (by omega),cond_true,Yc9 (fun x hx=>by have:=h2 x hx;have:=hk2 x hx;omega)]
    exact ⟨_,_,true,rfl,(fun _=>rfl),fun h=>by cases h⟩
   rw [decide_eq_false (by omega),cond_false,Yk h2,Option.bind_some,← h3,Ygn (Zqj hk hk2) h2]
   exact ⟨_,_,true,rfl,(fun _=>rfl),fun h=>by cases h⟩
 rw [if_neg k2,if_neg k2]
 by_cases k3:e.Kind=3
 ·rw [if_pos k3,if_pos k3]
  obtain ⟨f,i,b,h1,h2,h3⟩:=Z8v hq k3 (a:=s.At) (by omega)
  rw [h1,Option.bind_some]
  refine ⟨f,i,b,rfl,fun hb => ?_,fun hb => ?_⟩
  ·obtain ⟨q1,q2⟩:=h2 hb
   rw [q2,Option.map_some,Int.toNat_of_nonneg q1]
  rw [h3 hb]
  rfl
 rw [if_neg k3,if_neg k3]
 exact ⟨_,_,false,rfl,(fun h=>by cases h),fun _=>rfl⟩
theorem Z3n (l:List St) (hl:l.length≤70):∀ (ys:List St) (i:Nat) (e:Ed) (m:List St),l.drop i=ys→i≤l.length→m.length=i→FQ e →
  Zx (Ua l) ((i:Int),e.Kind,e.Old.Kind,e.Old.Words,e.Old.Kids,e.New.Kind,e.New.Words,e.New.Kids,e.Words,e.Kids,e.List_,e.Ops,m) =
   some (match Znm e ys m with
    | none => .inl ()
    | some x => .inr (x.1.Kind,x.1.Old.Kind,x.1.Old.Words,x.1.Old.Kids,x.1.New.Kind,x.1.New.Words,x.1.New.Kids,x.1.Words,x.1.Kids,x.1.List_,x.1.Ops,x.2)):=fun ys=>by
 induction ys with
 | nil =>
  intro i e m h hi hm hq
  have:l.length≤i:=by
   have:=congrArg List.length h
   rw [List.length_drop,List.length_nil] at this
   omega
  rw [Yl (r := .inr (e.Kind,e.Old.Kind,e.Old.Words,e.Old.Kids,e.New.Kind,e.New.Words,e.New.Kids,e.Words,e.Kids,e.List_,e.Ops,m))]
  ·rfl
  unfold Ua
  simp only
  rw [decide_eq_false (by omega),cond_false]
 | cons s ys ih =>
  intro i e m h hi hm hq
  obtain ⟨d1,d2,d3⟩:=Zj3 h
  obtain ⟨f,j,b,n1,n2,n3⟩:=Z3o hq s
  have hs:Ua l ((i:Int),e.Kind,e.Old.Kind,e.Old.Words,e.Old.Kids,e.New.Kind,e.New.Words,e.New.Kids,e.Words,e.Kids,e.List_,e.Ops,m)=if b=true then some (.inl (((i+1:Nat):Int),f.Kind,f.Old.Kind,f.Old.Words,f.Old.Kids,f.New.Kind,f.New.Words,f.New.Kids,f.Words,f.Kids,f.List_,f.Ops,m++[⟨0,j⟩])) else some (.inr (.inl ())):=by
   unfold Ua
   simp only
   rw [decide_eq_true (by omega),cond_true,Yk d2,Option.bind_some,Z4r,n1,Option.bind_some]
   simp only
   cases b with
   | false=>rfl
   | true =>
    rw [Bool.not_true,cond_false,Gj (by simp only [List.length_singleton];omega) (by simp only [List.length_singleton];omega),Option.bind_some,Ki (by omega) (by omega)]
    rfl
  cases b with
  | false =>
   rw [if_neg (by decide)] at hs
   rw [Yl hs]
   unfold Znm
   rw [n3 rfl]
  | true =>
   rw [if_pos rfl] at hs
   have hn:=n2 rfl
   rw [Xh hs,ih (i+1) f (m++([⟨0,j⟩]:List St)) d3 (by omega) (by rw [List.length_append,List.length_singleton];omega) (Z48 hq hn)]
   have e2:Znm e (s::ys) m=Znm f ys (m++[⟨0,j⟩]):=by
    rw [Znm,hn]
   rw [e2]
theorem Z7r:∀ (l:List St) (e:Ed) (m:List St) (x:Ed×List St),FQ e→Znm e l m=some x→FQ x.1
 | [],e,m,x,hq,h=>by cases h;exact hq
 | s::l,e,m,x,hq,h=>by
  rw [Znm] at h
  cases hx:nrw e s with
  | none=>rw [hx] at h;cases h
  | some y =>
   rw [hx] at h
   exact Z7r l y.1 _ x (Z48 hq hx) h
theorem Zyb {e:Ed} (hq:FQ e) {l:List St} (hl:l.length≤70):Zaz e l=some (match Znm e l [] with
  | none=>(eS0,[],false)
  | some x=>(nE x.1,x.2,true)):=by
 unfold Zaz
 have h:=Z3n l hl l 0 e [] rfl (Nat.zero_le _) rfl hq
 rw [show ((0:Nat):Int)=0 from rfl] at h
 rw [h,Option.bind_some]
 cases hx:Znm e l [] with
 | none=>rfl
 | some x =>
  have fx:=Z7r l e [] x hq hx
  simp only
  rw [Z4r,Yel fx.b fx.g,Option.bind_some]
def aw40e:Ed:=⟨2,Kl,Kl,[⟨0,1,1,2⟩],[],0,[]⟩
def aw40x:Ed:=⟨3,Kl,Kl,[],[],8,[⟨0,1,[],eS0⟩,⟨3,0,[],aw40e⟩,⟨0,1,[],eS0⟩]⟩
def Yeg:Tr:=⟨8,[],[⟨0,[],[]⟩,⟨1,[1],[]⟩,⟨0,[],[]⟩]⟩
set_option maxRecDepth 20000 in
theorem Zy1:Zhj Yeg [⟨0,1⟩] aw40e=some (aw40x,true):=by
 refine Zcf 2 fun k hk => ?_
 obtain ⟨j,rfl⟩:∃ j,k=j+2:=⟨k - 2,by omega⟩
 rfl
theorem Yc3 {d:Nat} (h:1≤d):rE aw40e d=true:=by
 rw [Zlk,if_neg (by omega),if_neg (by decide),if_neg (by decide),if_pos (show aw40e.Kind=2 from rfl)]
 rfl
theorem Zy0:rE aw40x 64=true:=by
 rw [Zlk,if_neg (by omega),if_neg (by decide),if_neg (by decide),if_neg (by decide),if_pos (show aw40x.Kind=3 from rfl)]
 simp only [aw40x,List.all_cons,List.all_nil,Ygo (d:=63) (by omega),Yc3 (d:=63) (by omega)]
 rfl
theorem aw40_be:BE aw40x∧BE aw40e:=by
 have h:BE aw40e := .mk _ Zj0 Zj0 (by simp [aw40e]) (by simp [aw40e]) (by simp [aw40e]) (by simp [aw40e]) (by simp [aw40e]) (by simp [aw40e]) (by simp [aw40e])
 refine ⟨.mk _ Zj0 Zj0 (by simp [aw40x]) (by simp [aw40x]) (by simp [aw40x]) (by simp [aw40x]) (by simp [aw40x]) (by simp [aw40x]) fun o ho => ?_,h⟩
 simp only [aw40x,List.mem_cons,List.not_mem_nil,or_false] at ho
 rcases ho with rfl | rfl | rfl
 ·exact Zt1
 ·exact h
 exact Zt1
theorem aw40_gn:GN aw40x∧GN aw40e:=by
 have h:GN aw40e := .mk _ (by simp [aw40e]) (by simp [aw40e]) (by simp [aw40e]) (by simp [aw40e,Ke]) (by simp [aw40e]) (by simp [aw40e]) (by simp [aw40e])
 refine ⟨.mk _ (by simp [aw40x]) (by simp [aw40x]) (by simp [aw40x]) (by simp [aw40x,Ke,Uk]) (by simp [aw40x,opk]) (by simp [aw40x]) fun o ho => ?_,h⟩
 simp only [aw40x,List.mem_cons,List.not_mem_nil,or_false] at ho
 rcases ho with rfl | rfl | rfl
 ·exact Zuf
 ·exact h
 exact Zuf
theorem Z65:nE aw40e=aw40e:=by
 rw [Zd2]
 simp [aw40e]
theorem Yc2:nE aw40x=aw40x:=by
 have hi:Zg5 8 aw40e=false:=rfl
 rw [Zd2]
 simp [hi,aw40x,Znl,Ve,stN,s0N,NW.flush,Zbw,Zc0,Ky,Z65]
theorem Zhy:J4=some true:=by
 have hW:Zfj Yeg [⟨0,1⟩] aw40e=some (aw40x,true):=by
  unfold Zfj
  rw [Zy1,Option.bind_some]
  simp only
  rw [Bool.not_true,cond_false,Yel aw40_be.1 aw40_gn.1,Option.bind_some,Yc2,Z8m aw40_be.1,Option.bind_some,Zy0]
  rfl
 have fq:FQ aw40x:=⟨Z7z _ _ 64 (Nat.lt_succ_self _) Zy0,aw40_be.1,aw40_gn.1,N1.of _ _ 64 (Nat.lt_succ_self _) Zy0⟩
 have hN:=Zyb fq (l:=[⟨0,1⟩]) (by simp)
 have hL:Znm aw40x [⟨0,1⟩] []=some (aw40e,[⟨0,1⟩]):=rfl
 rw [hL] at hN
 simp only at hN
 rw [Z65] at hN
 unfold J4
 refine Option.bind_eq_some_iff.2 ⟨_,hW,Option.bind_eq_some_iff.2 ⟨_,hN,?_⟩⟩
 rfl
theorem Z93 {t:Tr} (h:Bd t):∃ b,V7 t=some b∧(b=true→TX t∧pt t≤3000∧Zyx t):=by
 obtain ⟨b,h1,h2⟩:=Ye6 h
 have h3:=Znf h (d:=64) (by decide)
 rw [show ((64:Nat):Int)=64 from rfl] at h3
 unfold V7
 rw [h1,Option.bind_some,h3]
 refine ⟨b && (rt t 64 && (t.Kind != 10)),?_,fun q => ?_⟩
 ·cases b <;> cases rt t 64 <;> cases (t.Kind != 10) <;> rfl
 simp only [Bool.and_eq_true] at q
 exact ⟨Z34 _ t 64 (Nat.lt_succ_self _) q.2.1,h2 q.1,Z8a _ t 64 (Nat.lt_succ_self _) q.2.1⟩
theorem Z21 {e:Ed} {t:Tr} {l:List St} (be:BE e) (bt:Bd t):Us e t l=some true:=by
 obtain ⟨b1,g1,g2⟩:=Z93 bt
 obtain ⟨b2,g3,g4⟩:=Yde be
 unfold Us
 rw [g1,Option.bind_some]
 cases b1 with
 | false=>rw [cond_false,Option.bind_some,cond_true,Zhy];rfl
 | true =>
 rw [cond_true,g3,Option.bind_some,Option.bind_some]
 cases b2 with
 | false=>rw [Zhy];rfl
 | true =>
 simp only [Bool.not_true,cond_false]
 by_cases hl:70 < (l.length:Int)
 ·rw [decide_eq_true hl,cond_true,Zhy];rfl
 rw [decide_eq_false hl,cond_false]
 obtain ⟨tx,pu,tame⟩:=g2 rfl
 obtain ⟨mc,re⟩:=g4 rfl
 have fq:FQ e:=⟨mc.z,mc.b,mc.g,N1.of _ _ 64 (Nat.lt_succ_self _) re⟩
 have gT:=GT.of bt tx
 have hN:=Zyb fq (l:=l) (by omega)
 have hG:=Z74 (l:=l) bt tame
 rcases Yew mc bt tx (by omega) with ⟨u,a1,a2,a3,a4,_⟩ | ⟨a1,a2⟩
 rotate_left
 ·rw [a1,Option.bind_some,hN,Option.bind_some,hG,Option.bind_some]
  simp only [cond_false,Option.bind_some,cond_true]
  rw [Zhy]
  rfl
 rw [a1,Option.bind_some,hN,Option.bind_some,hG,Option.bind_some]
 cases hx:Znm e l [] with
 | none =>
  simp only [cond_false,Option.bind_some,cond_true]
  rw [Zhy]
  rfl
 | some x =>
 cases hg:Zjm t l with
 | none =>
  simp only [Z25,cond_false,Option.bind_some,cond_true]
  rw [Zhy]
  rfl
 | some w =>
 obtain ⟨ef,m⟩:=x
 have kids:∀ (l:List St) (e:Ed) (m0:List St) (y:Ed×List St),Znm e l m0=some y→∀ s∈l,s.Kind=0:=fun l=>by
  induction l with
  | nil=>intro e m0 y _ s hs;cases hs
  | cons s l ih =>
   intro e m0 y h q hq
   rw [Znm] at h
   cases hx:nrw e s with
   | none=>rw [hx] at h;cases h
   | some z =>
    rw [hx] at h
    rcases List.mem_cons.1 hq with rfl | hq
    ·unfold nrw at hx
     split at hx
     ·cases hx
     omega
    exact ih _ _ _ h q hq
 have hk:=kids l e [] _ hx
 have hgn:Zjm (nrm t) l=some (nrm w):=by rw [Z26 l t hk,hg];rfl
 obtain ⟨m',q1,_,q3,q4,w',q5,q6⟩:=Z7s l e [] (nrm t) u (nrm w) ef m fq gT a2 hx hgn
 rw [List.nil_append] at q1
 subst q1
 obtain ⟨b5,k1,k2⟩:=Z93 a4
 simp only [Z25,cond_true,Option.bind_some]
 rw [k1,Option.bind_some,Option.bind_some]
 cases b5 with
 | false =>
  simp only [Bool.not_true,Bool.not_false,cond_false,cond_true]
  rw [Zhy]
  rfl
 | true =>
 simp only [Bool.not_true,cond_false]
 by_cases k10:((nrm w).Kind == 10)=true
 ·rw [k10,cond_true,Zhy];rfl
 have k10':((nrm w).Kind == 10)=false:=by simpa using k10
 rw [k10',cond_false]
 obtain ⟨_,_,tame2⟩:=k2 rfl
 have hbw:=Zzn bt hg
 have hG2:=Z74 (l:=m) a4 tame2
 rw [q5] at hG2
 have hbw':=Zzn a4 q5
 have pw:=Z7e l t w hk hg
 have ca:CA (nE ef) (nrm w):=⟨q3.z.rx.nE q3.b q3.g,q3.b.nE q3.g,GN.nE q3.b q3.g,Nat.le_trans (Yaz _ w (Nat.lt_succ_self _)) (by omega),hbw.nrm⟩
 have hap:=Z2s ca
 rw [Zk0,Z9m _ ef (nrm w) (Nat.lt_succ_self _) q3.z.rx q4.n q4.x,q6] at hap
 have gw':=(Zxw _ ef _ w' (Nat.lt_succ_self _) q3.z q3.b q4 q6).1
 have hw':nrm w'=w':=gw'.n
 rw [hG2,Option.bind_some,hap,Option.bind_some]
 simp only [Z25,hw',cond_true]
 rw [Ydx hbw' hbw',Option.bind_some,eqT_iff.2 rfl,cond_true,Zhy]
 rfl
end Go.Proofs.Ytfjkcekfifobpaa
