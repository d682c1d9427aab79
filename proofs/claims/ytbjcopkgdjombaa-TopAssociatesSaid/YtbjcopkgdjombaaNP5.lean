/- Plain facts on this seat's mirrors (part NP5); each theorem bears its own conditions. -/
import Derived.Test.YtbjcopkgdjombaaNP3
import Derived.IntWalk
namespace Go.Proofs.Ytbjcopkgdjombaa
open Go.RowKit
set_option linter.unusedVariables false
set_option linter.unusedSimpArgs false
theorem Ybw {x y:EO} (hx:opk x) (hy:opk y) (k1:x.Kind≠1) (k2:y.Kind≠2) (hxy:Xm x=Xm y) {p q:List EO} (hp:∀ o∈p,opk o) (s:List Tr×List Tr):CC (x::p) (y::q) s=(CC [x] [y] s).bind (CC p q):=by
 unfold CC
 rw [Zao,Zao]
 cases h:stO x (ap x.E) (s.1,[]) with
 | none=>rfl
 | some z =>
  obtain ⟨l1,xs⟩:=z
  have hn:=Yas hx k1 h
  rw [Option.bind_some,Option.bind_some,Z5m p hp,Zp2,Option.bind_some]
  simp only
  rw [Zao]
  have e0:=(Z6t hy k2 (ap y.E) (xs:=xs) (by omega) [] s.2).2
  cases hy':stO y (ap y.E) (xs,s.2) with
  | none =>
   simp only [Option.bind_none]
   cases RO p (l1,[]) with
   | none=>rfl
   | some w =>
    simp only [Option.map_some,Option.bind_some]
    rw [Zao,(Z6t hy k2 (ap y.E) (by omega) w.2 s.2).1,hy']
    rfl
  | some z =>
   have ez:=e0 z hy'
   rw [Option.bind_some,Zp2,Option.bind_some,ez]
   simp only [List.length_nil,if_true,Option.bind_some]
   cases RO p (l1,[]) with
   | none=>rfl
   | some w =>
    simp only [Option.map_some,Option.bind_some]
    rw [Zao,(Z6t hy k2 (ap y.E) (by omega) w.2 s.2).1,hy',Option.map_some,Option.bind_some,ez,List.nil_append]
def ctO (o:EO) (g:Nat):EO:=if o.Kind=0 then ⟨o.Kind,o.N - (g:Int),o.L,o.E⟩ else if o.Kind=3 then o else ⟨o.Kind,o.N,o.L.drop g,o.E⟩
def tkO (o:EO) (g n:Nat):EO:=if o.Kind=0 then ⟨o.Kind,(n:Int),o.L,o.E⟩ else if o.Kind=3 then o else ⟨o.Kind,o.N,(o.L.drop g).take n,o.E⟩
theorem Zsz (o:EO) (g n:Nat):(tkO o g n).Kind=o.Kind∧(tkO o g n).E=o.E∧(∀ t∈(tkO o g n).L,t∈o.L):=by
 unfold tkO
 split
 ·exact ⟨rfl,rfl,fun t h=>h⟩
 split
 ·exact ⟨rfl,rfl,fun t h=>h⟩
 exact ⟨rfl,rfl,fun t h=>List.mem_of_mem_drop (List.mem_of_mem_take h)⟩
theorem Ydf (o:EO) (g:Nat):(ctO o g).Kind=o.Kind∧(ctO o g).E=o.E∧(∀ t∈(ctO o g).L,t∈o.L):=by
 unfold ctO
 split
 ·exact ⟨rfl,rfl,fun t h=>h⟩
 split
 ·exact ⟨rfl,rfl,fun t h=>h⟩
 exact ⟨rfl,rfl,fun t h=>List.mem_of_mem_drop h⟩
theorem Zuy {o:EO} (ho:opk o) {g n:Nat} (hn:1≤n) (h:g+n≤Xm o):Xm (tkO o g n)=n∧opk (tkO o g n):=by
 unfold Xm at h
 rcases ho with ⟨k,h1⟩ | ⟨k,h1⟩ | ⟨k,h1⟩ | k
 ·have e:tkO o g n=⟨o.Kind,(n:Int),o.L,o.E⟩:=by unfold tkO;rw [if_pos k]
  rw [e]
  unfold Xm
  rw [if_pos k]
  exact ⟨by simp,.inl ⟨k,by simp only;omega⟩⟩
 ·have e:tkO o g n=⟨o.Kind,o.N,(o.L.drop g).take n,o.E⟩:=by unfold tkO;rw [if_neg (by omega),if_neg (by omega)]
  rw [if_neg (by omega),if_neg (by omega)] at h
  have hl:((o.L.drop g).take n).length=n:=by rw [List.length_take,List.length_drop];omega
  rw [e]
  unfold Xm
  rw [if_neg (by simp only;omega),if_neg (by simp only;omega)]
  exact ⟨hl,.inr (.inl ⟨k,fun q=>by simp only at q;rw [q] at hl;simp at hl;omega⟩)⟩
 ·have e:tkO o g n=⟨o.Kind,o.N,(o.L.drop g).take n,o.E⟩:=by unfold tkO;rw [if_neg (by omega),if_neg (by omega)]
  rw [if_neg (by omega),if_neg (by omega)] at h
  have hl:((o.L.drop g).take n).length=n:=by rw [List.length_take,List.length_drop];omega
  rw [e]
  unfold Xm
  rw [if_neg (by simp only;omega),if_neg (by simp only;omega)]
  exact ⟨hl,.inr (.inr (.inl ⟨k,fun q=>by simp only at q;rw [q] at hl;simp at hl;omega⟩))⟩
 have e:tkO o g n=o:=by unfold tkO;rw [if_neg (by omega),if_pos k]
 rw [if_neg (by omega),if_pos k] at h
 rw [e]
 unfold Xm
 rw [if_neg (by omega),if_pos k]
 exact ⟨by omega,.inr (.inr (.inr k))⟩
theorem Zzk {o:EO} (ho:opk o) {g:Nat} (h:g < Xm o):Xm (ctO o g)=Xm o - g∧opk (ctO o g):=by
 have e:ctO o g=tkO o g (Xm o - g):=by
  unfold Xm at h ⊢
  unfold ctO tkO
  rcases Zip ho with k | k | k | k
  ·rw [if_pos k,if_pos k]
   rw [if_pos k] at h
   rw [if_pos k]
   congr 1
   omega
  ·rw [if_neg (by omega),if_neg (by omega),if_neg (by omega),if_neg (by omega),if_neg (by omega),if_neg (by omega),List.take_of_length_le (by rw [List.length_drop];omega)]
  ·rw [if_neg (by omega),if_neg (by omega),if_neg (by omega),if_neg (by omega),if_neg (by omega),if_neg (by omega),List.take_of_length_le (by rw [List.length_drop];omega)]
  rw [if_neg (by omega),if_pos k,if_neg (by omega),if_pos k]
 rw [e]
 exact Zuy ho (by omega) (by omega)
def Zfo (a:List EO) (g:Nat):List EO:=match a with
 | []=>[]
 | o::r=>if g < Xm o then ctO o g::r else r
theorem Ycy {a:List EO} {g:Nat} (hp:∀ o∈a,opk o):∀ o∈Zfo a g,opk o:=fun o ho=>by
 cases a with
 | nil=>cases ho
 | cons x r =>
  unfold Zfo at ho
  simp only at ho
  split at ho
  ·rename_i hg
   rcases List.mem_cons.1 ho with rfl | ho
   ·exact (Zzk (hp x (.head _)) hg).2
   exact hp o (.tail _ ho)
  exact hp o (.tail _ ho)
theorem Z7v {a:List EO} (hp:∀ o∈a,opk o) (g:Nat):Zfo (nxA a g) (nxG a g)=Zfo a g:=by
 cases a with
 | nil=>rfl
 | cons o r =>
  by_cases hg:g < Xm o
  ·rw [show nxA (o::r) g=o::r from if_pos hg,show nxG (o::r) g=g from if_pos hg]
  rw [show nxA (o::r) g=r from if_neg hg,show nxG (o::r) g=0 from if_neg hg,show Zfo (o::r) g=r from if_neg hg]
  cases r with
  | nil=>rfl
  | cons x r =>
   have:=(Zp9 (hp x (by simp))).2
   show (if 0 < Xm x then ctO x 0::r else r)=x::r
   rw [if_pos (by omega)]
   congr 1
   unfold ctO
   split
   ·cases x;simp
   split
   ·rfl
   cases x;simp
theorem Zr3 {o:EO} {r:List EO} (ho:opk o) {g n:Nat} (hn:1≤n) (h:g+n≤Xm o) (s:List Tr×List Tr):RO (Zfo (o::r) g) s=RO (tkO o g n::Zfo (o::r) (g+n)) s:=by
 have e1:Zfo (o::r) g=ctO o g::r:=if_pos (by omega)
 rw [e1,Zao,Zao]
 unfold Zfo
 simp only
 rcases ho with ⟨k,h1⟩ | ⟨k,h1⟩ | ⟨k,h1⟩ | k
 ·have et:Xm o=o.N.toNat:=if_pos k
  rw [et] at h ⊢
  have c1:∀ g:Nat,ctO o g=⟨o.Kind,o.N - (g:Int),o.L,o.E⟩:=fun g=>by unfold ctO;rw [if_pos k]
  have c2:tkO o g n=⟨o.Kind,(n:Int),o.L,o.E⟩:=by unfold tkO;rw [if_pos k]
  rw [c1,c2,Zje (o:=⟨o.Kind,o.N - (g:Int),o.L,o.E⟩) k,Zje (o:=⟨o.Kind,(n:Int),o.L,o.E⟩) k]
  simp only
  by_cases hq:g+n < o.N.toNat
  ·rw [if_pos hq,c1,show o.N - (g:Int)=(n:Int)+(o.N - ((g+n:Nat):Int)) by omega,Z1s (by omega) (by omega),Option.bind_assoc]
   congr 1
   funext x
   rw [Zao,Zje (o:=⟨o.Kind,o.N - ((g+n:Nat):Int),o.L,o.E⟩) k]
  rw [if_neg hq,show o.N - (g:Int)=(n:Int) by omega]
 ·have et:Xm o=o.L.length:=by unfold Xm;rw [if_neg (by omega),if_neg (by omega)]
  rw [et] at h ⊢
  have c1:∀ g:Nat,ctO o g=⟨o.Kind,o.N,o.L.drop g,o.E⟩:=fun g=>by unfold ctO;rw [if_neg (by omega),if_neg (by omega)]
  have c2:tkO o g n=⟨o.Kind,o.N,(o.L.drop g).take n,o.E⟩:=by unfold tkO;rw [if_neg (by omega),if_neg (by omega)]
  rw [c1,c2,Zg7 (o:=⟨o.Kind,o.N,o.L.drop g,o.E⟩) k,Zg7 (o:=⟨o.Kind,o.N,(o.L.drop g).take n,o.E⟩) k]
  simp only
  have es:o.L.drop g=(o.L.drop g).take n++o.L.drop (g+n):=by rw [← List.drop_drop,List.take_append_drop]
  by_cases hq:g+n < o.L.length
  ·rw [if_pos hq,c1]
   conv=>lhs;rw [es]
   rw [Z32,Option.bind_assoc]
   congr 1
   funext x
   rw [Zao,Zg7 (o:=⟨o.Kind,o.N,o.L.drop (g+n),o.E⟩) k]
  rw [if_neg hq,List.take_of_length_le (by rw [List.length_drop];omega)]
 ·have et:Xm o=o.L.length:=by unfold Xm;rw [if_neg (by omega),if_neg (by omega)]
  rw [et] at h ⊢
  have c1:∀ g:Nat,ctO o g=⟨o.Kind,o.N,o.L.drop g,o.E⟩:=fun g=>by unfold ctO;rw [if_neg (by omega),if_neg (by omega)]
  have c2:tkO o g n=⟨o.Kind,o.N,(o.L.drop g).take n,o.E⟩:=by unfold tkO;rw [if_neg (by omega),if_neg (by omega)]
  rw [c1,c2,Zlw (o:=⟨o.Kind,o.N,o.L.drop g,o.E⟩) k,Zlw (o:=⟨o.Kind,o.N,(o.L.drop g).take n,o.E⟩) k]
  simp only
  have es:o.L.drop g=(o.L.drop g).take n++o.L.drop (g+n):=by rw [← List.drop_drop,List.take_append_drop]
  by_cases hq:g+n < o.L.length
  ·rw [if_pos hq,c1]
   conv=>lhs;rw [es]
   rw [Z4d,Option.bind_assoc]
   congr 1
   funext x
   rw [Zao,Zlw (o:=⟨o.Kind,o.N,o.L.drop (g+n),o.E⟩) k]
  rw [if_neg hq,List.take_of_length_le (by rw [List.length_drop];omega)]
 have et:Xm o=1:=by unfold Xm;rw [if_neg (by omega),if_pos k]
 rw [et] at h ⊢
 have c1:ctO o g=o:=by unfold ctO;rw [if_neg (by omega),if_pos k]
 have c2:tkO o g n=o:=by unfold tkO;rw [if_neg (by omega),if_pos k]
 rw [c1,c2,if_neg (by omega)]
theorem Zv1 {o:EO} {r:List EO} (ho:opk o) {g n:Nat} (hn:1≤n) (h:g+n≤Xm o):n+Qb (Zfo (o::r) (g+n))=Qb (Zfo (o::r) g):=by
 have e1:Zfo (o::r) g=ctO o g::r:=if_pos (by omega)
 rw [e1,Zgd,(Zzk ho (by omega)).1]
 by_cases hq:g+n < Xm o
 ·rw [show Zfo (o::r) (g+n)=ctO o (g+n)::r from if_pos hq,Zgd,(Zzk ho hq).1]
  omega
 rw [show Zfo (o::r) (g+n)=r from if_neg hq]
 omega
theorem Zsy {o:EO} {r:List EO} {g n:Nat} (ho:opk o) (hs:Xm o≤1073741824) (hn:1≤n) (h:g+n≤Xm o):Kl ⟨o::r,((g:Nat):Int)⟩ ((n:Nat):Int)=some (tkO o g n,⟨o::r,((g+n:Nat):Int)⟩):=by
 unfold Kl tkO
 have e0:Xk (o::r) 0=some o:=Yr (i:=0) rfl
 have e2:IntKind.i64.wrap (((g:Nat):Int)+((n:Nat):Int))=((g+n:Nat):Int):=by rw [Za7 (by omega) (by omega)];omega
 simp only
 rw [e0,Option.bind_some,e2]
 rcases Zip ho with k | k | k | k
 ·rw [if_pos k,show (o.Kind == 0)=true from by rw [k];rfl,cond_true,Option.bind_some]
 ·have et:Xm o=o.L.length:=by unfold Xm;rw [if_neg (by omega),if_neg (by omega)]
  rw [et] at h
  rw [if_neg (by omega),if_neg (by omega),show (o.Kind == 0)=false from by rw [k];rfl,show (o.Kind == 1)=true from by rw [k];rfl,cond_false,cond_true,Option.bind_some,cond_true,Zjh (by omega) (by omega) (by omega),Option.bind_some,Option.bind_some,Int.toNat_natCast,show (((g+n:Nat):Int) - ((g:Nat):Int)).toNat=n by omega]
 ·have et:Xm o=o.L.length:=by unfold Xm;rw [if_neg (by omega),if_neg (by omega)]
  rw [et] at h
  rw [if_neg (by omega),if_neg (by omega),show (o.Kind == 0)=false from by rw [k];rfl,show (o.Kind == 1)=false from by rw [k];rfl,show (o.Kind == 2)=true from by rw [k];rfl,cond_false,cond_false,Option.bind_some,cond_true,Zjh (by omega) (by omega) (by omega),Option.bind_some,Option.bind_some,Int.toNat_natCast,show (((g+n:Nat):Int) - ((g:Nat):Int)).toNat=n by omega]
 rw [if_neg (by omega),if_pos k,show (o.Kind == 0)=false from by rw [k];rfl,show (o.Kind == 1)=false from by rw [k];rfl,show (o.Kind == 2)=false from by rw [k];rfl,cond_false,cond_false,Option.bind_some,cond_false,Option.bind_some]
 cases o
 rfl
abbrev Pc:=Zr
def PM (c:Pc) (s:List Tr×List Tr):Option (List Tr×List Tr):=if c.Of=1 then stO c.P (ap c.P.E) s else if c.Of=2 then stO c.Q (ap c.Q.E) s else CC [c.P] [c.Q] s
def PMs:List Pc→List Tr×List Tr→Option (List Tr×List Tr)
 | [],s=>some s
 | c::r,s=>(PM c s).bind (PMs r)
def thP (c:Pc):Nat:=if c.Of=2 then Xm c.Q else Xm c.P
structure Fr (a:List EO) (x:EO):Prop where
 k:opk x
 o:∃ y∈a,x.Kind=y.Kind∧x.E=y.E∧∀ t∈x.L,t∈y.L
theorem Fr.tk {a:List EO} {o:EO} (hm:o∈a) (ho:opk o) {g n:Nat} (hn:1≤n) (h:g+n≤Xm o):Fr a (tkO o g n):=⟨(Zuy ho hn h).2,o,hm,Zsz o g n⟩
theorem Fr.sub {a b:List EO} {x:EO} (h:Fr a x) (hs:∀ o∈a,o∈b):Fr b x:=⟨h.k,by obtain ⟨y,h1,h2⟩:=h.o;exact ⟨y,hs y h1,h2⟩⟩
def PG (a b:List EO) (c:Pc):Prop:=(c.Of=1∧c.P.Kind=1∧Fr a c.P)∨(c.Of=2∧c.Q.Kind=2∧Fr b c.Q)∨(c.Of=0∧c.P.Kind≠1∧c.Q.Kind≠2∧Xm c.P=Xm c.Q∧Fr a c.P∧Fr b c.Q)
theorem PG.sub {a a' b b':List EO} {c:Pc} (h:PG a b c) (ha:∀ o∈a,o∈a') (hb:∀ o∈b,o∈b'):PG a' b' c:=by
 rcases h with ⟨h1,h2,h3⟩ | ⟨h1,h2,h3⟩ | ⟨h1,h2,h3,h4,h5,h6⟩
 ·exact .inl ⟨h1,h2,h3.sub ha⟩
 ·exact .inr (.inl ⟨h1,h2,h3.sub hb⟩)
 exact .inr (.inr ⟨h1,h2,h3,h4,h5.sub ha,h6.sub hb⟩)
theorem Z7m (a:List EO) (g:Nat):∀ o∈nxA a g,o∈a:=fun o ho=>by
 cases a with
 | nil=>exact ho
 | cons x r =>
  unfold nxA at ho
  simp only at ho
  split at ho
  ·exact ho
  exact .tail _ ho
def Rnd (a:List EO) (g:Nat) (b:List EO) (h:Nat) (out:List Pc) (r:((List S_api_Op)×Int×(List S_api_Op)×Int×(List Zr)) ⊕ ((List Zr)×Bool)):Prop :=
 (r = .inr (out,true)∧∀ s,CC (Zfo a g) (Zfo b h) s=some s)∨(r = .inr ([],false)∧∀ s,CC (Zfo a g) (Zfo b h) s=none) ∨
  ∃ a' g' b' h' c,r = .inl (a',((g':Nat):Int),b',((h':Nat):Int),out++[c])∧CI a' g'∧CI b' h'∧mu a' g'+mu b' h'+1≤mu a g+mu b h∧(∀ o∈a',o∈a)∧(∀ o∈b',o∈b)∧PG a b c ∧
   (∀ s,CC (Zfo a g) (Zfo b h) s=(PM c s).bind (CC (Zfo a' g') (Zfo b' h')))∧thP c+(Qb (Zfo a' g')+Qb (Zfo b' h'))≤Qb (Zfo a g)+Qb (Zfo b h)
theorem Ya0 {a:List EO} {g:Nat} {b:List EO} {h:Nat} {out:List Zr} (ha:CI a g) (hb:CI b h) (ho:out.length≤4194304):∃ r,Jf 1 2 (a,((g:Nat):Int),b,((h:Nat):Int),out)=some r∧Rnd a g b h out r:=by
 obtain ⟨a1,a2,a3⟩:=Ydn ha
 obtain ⟨b1,b2,b3⟩:=Ydn hb
 have ea:=Z7i ha
 have eb:=Z7i hb
 have sa:=Z7m a g
 have sb:=Z7m b h
 unfold Jf
 simp only
 unfold Rnd
 rw [← a3,← b3,← Z7v ha.p g,← Z7v hb.p h]
 generalize nxA a g=a' at *
 generalize nxG a g=g' at *
 generalize nxA b h=b' at *
 generalize nxG b h=h' at *
 have ap:∀ x:Zr,Zam 488 out [x]=some (out++[x]):=fun x=>G5 (by simp only [List.length_singleton];omega) (by simp only [List.length_singleton];omega)
 cases a' with
 | nil =>
  have hg':g'=0:=a1.g
  subst hg'
  have ea':Ym ⟨a,((g:Nat):Int)⟩=some (0,0,⟨[],((0:Nat):Int)⟩):=ea
  cases b' with
  | nil =>
   have hh':h'=0:=b1.g
   subst hh'
   have eb':Ym ⟨b,((h:Nat):Int)⟩=some (0,0,⟨[],((0:Nat):Int)⟩):=eb
   rw [ea',Option.bind_some,eb',Option.bind_some]
   refine ⟨.inr (out,true),?_,.inl ⟨rfl,fun s=>Ydq s⟩⟩
   rfl
  | cons o' r' =>
   have q:=b2 o' r' rfl
   have hs:=b1.s
   rw [Zgd] at hs
   have hop:=b1.p o' (by simp)
   have e3:decide (0 < ((Xm o' - h':Nat):Int))=true:=by rw [decide_eq_true_eq];omega
   have e4:(((Xm o' - h':Nat):Int) == 0)=false:=by rw [beq_eq_false_iff_ne];omega
   have hx:=Zsy (r:=r') (g:=h') (n:=Xm o' - h') hop (by omega) (by omega) (by omega)
   obtain ⟨t1,t2,t3⟩:=eat (n:=Xm o' - h') b1 (by omega)
   have eb':Ym ⟨b,((h:Nat):Int)⟩=some (o'.Kind,((Xm o' - h':Nat):Int),⟨o'::r',((h':Nat):Int)⟩):=eb
   rw [ea',Option.bind_some,eb',Option.bind_some]
   simp only
   rw [show decide ((0:Int) < 0)=false from rfl,cond_false,cond_false,e3,cond_true,show ((0:Int) == 0)=true from rfl,cond_true,e4,cond_false,cond_true,cond_true]
   cases hk:o'.Kind == 2 with
   | true =>
    have hk2:o'.Kind=2:=beq_iff_eq.1 hk
    rw [cond_true,hx,Option.bind_some,ap,Option.bind_some]
    refine ⟨_,rfl,.inr (.inr ⟨_,_,_,_,_,rfl,a1,t1,by have:=t3 q (by omega);(try simp only);omega,sa,sb,.inr (.inl ⟨rfl,(Zsz o' _ _).1.trans hk2,Fr.tk (sb _ (.head _)) hop (by omega) (by omega)⟩),fun s => ?_,?_⟩)⟩
    ·rw [Zu0 (fun _=>rfl) (Zr3 hop (r:=r') (g:=h') (n:=Xm o' - h') (by omega) (by omega)),Z1g (y:=tkO o' h' (Xm o' - h')) ((Zsz o' _ _).1.trans hk2)]
     rfl
    have:=Zv1 hop (r:=r') (g:=h') (n:=Xm o' - h') (by omega) (by omega)
    have:=(Zuy hop (g:=h') (n:=Xm o' - h') (by omega) (by omega)).1
    unfold thP
    simp only [if_true]
    omega
   | false =>
    have hk2:o'.Kind≠2:=beq_eq_false_iff_ne.1 hk
    refine ⟨_,rfl,.inr (.inl ⟨rfl,fun s => ?_⟩)⟩
    rw [show Zfo (o'::r') h'=ctO o' h'::r' from if_pos q]
    exact Ybu (Zzk hop q).2 (by rw [(Ydf o' h').1];exact hk2) r' s
 | cons o r =>
  have p:=a2 o r rfl
  have hs:=a1.s
  rw [Zgd] at hs
  have hop:=a1.p o (by simp)
  have e1:decide (0 < ((Xm o - g':Nat):Int))=true:=by rw [decide_eq_true_eq];omega
  have e2:(((Xm o - g':Nat):Int) == 0)=false:=by rw [beq_eq_false_iff_ne];omega
  have ea':Ym ⟨a,((g:Nat):Int)⟩=some (o.Kind,((Xm o - g':Nat):Int),⟨o::r,((g':Nat):Int)⟩):=ea
  rw [ea',Option.bind_some]
  simp only
  rw [e1,cond_true]
  cases hk:o.Kind == 1 with
  | true =>
   have hk1:o.Kind=1:=beq_iff_eq.1 hk
   have hx:=Zsy (r:=r) (g:=g') (n:=Xm o - g') hop (by omega) (by omega) (by omega)
   obtain ⟨t1,t2,t3⟩:=eat (n:=Xm o - g') a1 (by omega)
   have eb':Ym ⟨b,((h:Nat):Int)⟩=some (kdA b',lfA b' h',⟨b',((h':Nat):Int)⟩):=eb
   rw [eb',Option.bind_some,cond_true,hx,Option.bind_some]
   simp only
   rw [ap,Option.bind_some]
   refine ⟨_,rfl,.inr (.inr ⟨_,_,_,_,_,rfl,t1,b1,by have:=t3 p (by omega);(try simp only);omega,sa,sb,.inl ⟨rfl,(Zsz o _ _).1.trans hk1,Fr.tk (sa _ (.head _)) hop (by omega) (by omega)⟩,fun s => ?_,?_⟩)⟩
   ·rw [Zu0 (Zr3 hop (r:=r) (g:=g') (n:=Xm o - g') (by omega) (by omega)) (fun _=>rfl),Z84 (x:=tkO o g' (Xm o - g')) ((Zsz o _ _).1.trans hk1)]
    rfl
   have:=Zv1 hop (r:=r) (g:=g') (n:=Xm o - g') (by omega) (by omega)
   have:=(Zuy hop (g:=g') (n:=Xm o - g') (by omega) (by omega)).1
   unfold thP
   simp only [show ¬ (1:Int)=2 by decide,if_false]
   omega
  | false =>
   have hk1:o.Kind≠1:=beq_eq_false_iff_ne.1 hk
   cases b' with
   | nil =>
    have eb':Ym ⟨b,((h:Nat):Int)⟩=some (0,0,⟨[],((h':Nat):Int)⟩):=eb
    rw [eb',Option.bind_some]
    simp only
    rw [cond_false,e2,cond_false,cond_false]
    refine ⟨_,rfl,.inr (.inl ⟨rfl,fun s => ?_⟩)⟩
    rw [show Zfo (o::r) g'=ctO o g'::r from if_pos p]
    exact Ybv (Zzk hop p).2 (by rw [(Ydf o g').1];exact hk1) (fun x hx=>a1.p x (.tail _ hx)) s
   | cons o' r' =>
    have q:=b2 o' r' rfl
    have hs':=b1.s
    rw [Zgd] at hs'
    have hop':=b1.p o' (by simp)
    have e3:decide (0 < ((Xm o' - h':Nat):Int))=true:=by rw [decide_eq_true_eq];omega
    have e4:(((Xm o' - h':Nat):Int) == 0)=false:=by rw [beq_eq_false_iff_ne];omega
    have eb':Ym ⟨b,((h:Nat):Int)⟩=some (o'.Kind,((Xm o' - h':Nat):Int),⟨o'::r',((h':Nat):Int)⟩):=eb
    rw [eb',Option.bind_some]
    simp only
    rw [cond_false,e2,cond_false,cond_false,e3,cond_true]
    cases hk':o'.Kind == 2 with
    | true =>
     have hk2:o'.Kind=2:=beq_iff_eq.1 hk'
     have hx:=Zsy (r:=r') (g:=h') (n:=Xm o' - h') hop' (by omega) (by omega) (by omega)
     obtain ⟨t1,t2,t3⟩:=eat (n:=Xm o' - h') b1 (by omega)
     rw [cond_true,hx,Option.bind_some,ap,Option.bind_some]
     refine ⟨_,rfl,.inr (.inr ⟨_,_,_,_,_,rfl,a1,t1,by have:=t3 q (by omega);(try simp only);omega,sa,sb,.inr (.inl ⟨rfl,(Zsz o' _ _).1.trans hk2,Fr.tk (sb _ (.head _)) hop' (by omega) (by omega)⟩),fun s => ?_,?_⟩)⟩
     ·rw [Zu0 (fun _=>rfl) (Zr3 hop' (r:=r') (g:=h') (n:=Xm o' - h') (by omega) (by omega)),Z1g (y:=tkO o' h' (Xm o' - h')) ((Zsz o' _ _).1.trans hk2)]
      rfl
     have:=Zv1 hop' (r:=r') (g:=h') (n:=Xm o' - h') (by omega) (by omega)
     have:=(Zuy hop' (g:=h') (n:=Xm o' - h') (by omega) (by omega)).1
     unfold thP
     simp only [if_true]
     omega
    | false =>
     have hk2:o'.Kind≠2:=beq_eq_false_iff_ne.1 hk'
     have em:(if ((Xm o' - h':Nat):Int) < ((Xm o - g':Nat):Int) then ((Xm o' - h':Nat):Int) else ((Xm o - g':Nat):Int))=((min (Xm o - g') (Xm o' - h'):Nat):Int):=by split <;> omega
     have hx:=Zsy (r:=r) (g:=g') (n:=min (Xm o - g') (Xm o' - h')) hop (by omega) (by omega) (by omega)
     have hy:=Zsy (r:=r') (g:=h') (n:=min (Xm o - g') (Xm o' - h')) hop' (by omega) (by omega) (by omega)
     obtain ⟨t1,t2,t3⟩:=eat (n:=min (Xm o - g') (Xm o' - h')) a1 (by omega)
     obtain ⟨u1,u2,u3⟩:=eat (n:=min (Xm o - g') (Xm o' - h')) b1 (by omega)
     have x1:=Zuy hop (g:=g') (n:=min (Xm o - g') (Xm o' - h')) (by omega) (by omega)
     have y1:=Zuy hop' (g:=h') (n:=min (Xm o - g') (Xm o' - h')) (by omega) (by omega)
     rw [cond_false,e4,cond_false,em,hx,Option.bind_some,hy,Option.bind_some,ap,Option.bind_some]
     refine ⟨_,rfl,.inr (.inr ⟨_,_,_,_,_,rfl,t1,u1,?_,sa,sb,.inr (.inr ⟨rfl,by rw [(Zsz o _ _).1];exact hk1,by rw [(Zsz o' _ _).1];exact hk2,x1.1.trans y1.1.symm,Fr.tk (sa _ (.head _)) hop (by omega) (by omega),Fr.tk (sb _ (.head _)) hop' (by omega) (by omega)⟩),fun s => ?_,?_⟩)⟩
     ·try simp only
      by_cases hm:Xm o - g'≤Xm o' - h'
      ·have:=t3 p (by omega);omega
      have:=u3 q (by omega);omega
     ·rw [Zu0 (Zr3 hop (r:=r) (g:=g') (n:=min (Xm o - g') (Xm o' - h')) (by omega) (by omega)) (Zr3 hop' (r:=r') (g:=h') (n:=min (Xm o - g') (Xm o' - h')) (by omega) (by omega)),
       Ybw x1.2 y1.2 (by rw [(Zsz o _ _).1];exact hk1) (by rw [(Zsz o' _ _).1];exact hk2) (x1.1.trans y1.1.symm) (Ycy a1.p)]
      rfl
     have:=Zv1 hop (r:=r) (g:=g') (n:=min (Xm o - g') (Xm o' - h')) (by omega) (by omega)
     have:=Zv1 hop' (r:=r') (g:=h') (n:=min (Xm o - g') (Xm o' - h')) (by omega) (by omega)
     unfold thP
     simp only [show ¬ (0:Int)=2 by decide,if_false]
     omega
theorem Z4t:∀ (m:Nat) (a:List EO) (g:Nat) (b:List EO) (h:Nat) (out:List Zr),mu a g+mu b h≤m→CI a g→CI b h→out.length+m≤4194304 →
  (∃ L,Zt (Jf 1 2) (a,((g:Nat):Int),b,((h:Nat):Int),out)=some (out++L,true)∧L.length≤m∧(∀ c∈L,PG a b c)∧(∀ s,CC (Zfo a g) (Zfo b h) s=PMs L s)∧(L.map thP).sum≤Qb (Zfo a g)+Qb (Zfo b h)) ∨
  (Zt (Jf 1 2) (a,((g:Nat):Int),b,((h:Nat):Int),out)=some ([],false)∧∀ s,CC (Zfo a g) (Zfo b h) s=none)
 | m,a,g,b,h,out,hm,ha,hb,ho=>by
  obtain ⟨r,h1,h2⟩:=Ya0 ha hb (out:=out) (by omega)
  rcases h2 with ⟨rfl,h2⟩ | ⟨rfl,h2⟩ | ⟨a',g',b',h',c,rfl,c1,c2,c3,s1,s2,c4,c5,c6⟩
  ·exact .inl ⟨[],by rw [List.append_nil];exact Z3 h1,Nat.zero_le _,by simp,fun s=>by rw [h2 s];rfl,by simp⟩
  ·exact .inr ⟨Z3 h1,h2⟩
  cases m with
  | zero=>omega
  | succ m =>
   rw [Yo h1]
   rcases Z4t m a' g' b' h' (out++[c]) (by omega) c1 c2 (by rw [List.length_append,List.length_singleton];omega) with ⟨L,q1,q2,q3,q4,q5⟩ | ⟨q1,q2⟩
   ·refine .inl ⟨c::L,by rw [q1,List.append_assoc];rfl,by rw [List.length_cons];omega,fun d hd => ?_,fun s => ?_,?_⟩
    ·rcases List.mem_cons.1 hd with rfl | hd
     ·exact c4
     exact (q3 d hd).sub s1 s2
    ·rw [c5,PMs]
     congr 1
     funext x
     exact q4 x
    rw [List.map_cons,List.sum_cons]
    omega
   refine .inr ⟨q1,fun s => ?_⟩
   rw [c5]
   cases PM c s with
   | none=>rfl
   | some x=>exact q2 x
theorem Ydo {a:List EO} (hp:∀ o∈a,opk o):Zfo a 0=a:=by
 cases a with
 | nil=>rfl
 | cons x r =>
  have:=(Zp9 (hp x (by simp))).2
  show (if 0 < Xm x then ctO x 0::r else r)=x::r
  rw [if_pos (by omega)]
  congr 1
  unfold ctO
  split
  ·cases x;simp
  split
  ·rfl
  cases x;simp
theorem Z8h {a b:List EO} (ha:CI a 0) (hb:CI b 0) (h1:a.length≤2097152) (h2:b.length≤2097152) :
  (∃ L,Zbp a b=some (L,true)∧L.length≤a.length+b.length∧(∀ c∈L,PG a b c)∧(∀ s,CC a b s=PMs L s)∧(L.map thP).sum≤Qb a+Qb b)∨(Zbp a b=some ([],false)∧∀ s,CC a b s=none):=by
 have m1:=Ydl a 0
 have m2:=Ydl b 0
 have h:=Z4t (a.length+b.length) a 0 b 0 [] (by omega) ha hb (by simp only [List.length_nil];omega)
 rw [Ydo ha.p,Ydo hb.p,show (((0:Nat)):Int)=0 from rfl] at h
 unfold Zbp Zil
 rcases h with ⟨L,q1,q2,q3,q4,q5⟩ | ⟨q1,q2⟩
 ·exact .inl ⟨L,by rw [q1];rfl,q2,q3,q4,q5⟩
 exact .inr ⟨by rw [q1];rfl,q2⟩
inductive ST:Ed→Prop
 | mk (e:Ed) (ho:pt e.Old≤1000000) (hn:pt e.New≤1000000) (hl:∀ o∈e.Ops,∀ t∈o.L,pt t≤1000000) (ik:∀ k∈e.Kids,ST k.E) (io:∀ o∈e.Ops,ST o.E):ST e
theorem ST.old {e:Ed} (h:ST e):pt e.Old≤1000000:=by cases h;assumption
theorem ST.new {e:Ed} (h:ST e):pt e.New≤1000000:=by cases h;assumption
theorem ST.l {e:Ed} (h:ST e):∀ o∈e.Ops,∀ t∈o.L,pt t≤1000000:=by cases h;assumption
theorem ST.ks {e:Ed} (h:ST e):∀ k∈e.Kids,ST k.E:=by cases h;assumption
theorem ST.os {e:Ed} (h:ST e):∀ o∈e.Ops,ST o.E:=by cases h;assumption
theorem Zz3:∀ (k:Nat) (e:Ed) (d left:Int),BE e→SizeOf.sizeOf e < k→0≤d→d≤100→0≤left→left≤1000000→∃ r,Yd k e d left=some r∧-1≤r∧r≤1000000∧(0≤r→r+(ce e:Nat)≤left∧ST e)
 | 0,e,_,_,_,h,_,_,_,_=>by omega
 | k+1,e,d,left,hb,hk,hd0,hd1,hl0,hl1=>by
  have hw:=hb.w
  have ho:=hb.o
  show ∃ r,Je (Yd k) e d left=some r∧_
  unfold Je
  rw [Za7 (x:=left - 1) (by omega) (by omega),Za7 (x:=left - 1 - (e.Words.length:Int)) (by omega) (by omega),Za7 (by omega) (by omega),Z3z]
  cases hc:cond (d == 0) true (decide (left - 1 - (e.Words.length:Int) - (e.Ops.length:Int) < 0)) with
  | true=>exact ⟨-1,rfl,by omega,by omega,fun h=>by omega⟩
  | false =>
   rw [cond_false]
   have hd:¬ d=0∧0≤left - 1 - (e.Words.length:Int) - (e.Ops.length:Int):=by
    by_cases h:d=0
    ·simp [h] at hc
    have e:(d == 0)=false:=by simp [h]
    rw [e,cond_false,decide_eq_false_iff_not] at hc
    exact ⟨h,by omega⟩
   obtain ⟨r1,g1,g2,g3,g4⟩:=Ztt hb.old hd.2 (by omega)
   have hz:∃ z,cond (decide (0≤r1)) ((Qf e.New 80 r1).bind fun y4=>some y4) (some r1)=some z∧-1≤z∧z≤1000000∧(0≤z→z≤left - 1 - (e.Words.length:Int) - (e.Ops.length:Int)∧pt e.Old≤1000000∧pt e.New≤1000000):=by
    by_cases h:0≤r1
    ·obtain ⟨r2,f1,f2,f3,f4⟩:=Ztt hb.new h g3
     refine ⟨r2,by rw [decide_eq_true h,f1];rfl,f2,f3,fun h2 => ?_⟩
     have:=f4 h2
     have:=g4 h
     omega
    exact ⟨r1,by rw [decide_eq_false h];rfl,g2,g3,fun h2=>absurd h2 h⟩
   obtain ⟨z,z1,z2,z3,z4⟩:=hz
   rw [g1,Option.bind_some,z1,Option.bind_some]
   obtain ⟨r,h1,h2⟩:=Zcf (step:=Qc (Yd k) e d)
    (fun s=>∃ j:Nat,s.2=j∧j≤e.Kids.length∧-1≤s.1∧s.1≤1000000∧(0≤s.1→s.1+((((e.Kids.take j).map fun k=>ce k.E)).sum:Nat)≤left - 1 - (e.Words.length:Int) - (e.Ops.length:Int)∧(pt e.Old≤1000000∧pt e.New≤1000000)∧∀ k∈e.Kids.take j,ST k.E))
    (fun s=>e.Kids.length - s.2.toNat) (fun r=>-1≤r∧r≤1000000∧(0≤r→r+((e.Kids.map fun k=>ce k.E).sum:Nat)≤left - 1 - (e.Words.length:Int) - (e.Ops.length:Int)∧(pt e.Old≤1000000∧pt e.New≤1000000)∧∀ k∈e.Kids,ST k.E)) (fun s hI=>by
     obtain ⟨l,i⟩:=s
     obtain ⟨j,rfl,hj,g1,g2,g3⟩:=hI
     have hkl:=hb.k
     simp only at g1 g2 g3 ⊢
     unfold Qc
     simp only
     by_cases hji:j < e.Kids.length
     ·rw [Zcy hji,cond_true]
      by_cases hl:0≤l
      ·have e1:decide (0≤l)=true:=by simp [hl]
       have hx:e.Kids[j]? = some e.Kids[j]:=List.getElem?_eq_getElem hji
       have hm:e.Kids[j]∈e.Kids:=List.getElem_mem hji
       obtain ⟨r,q1,q2,q3,q4⟩:=Zz3 k e.Kids[j].E (d - 1) l (hb.ks _ hm) (by have:=K7 hm;omega) (by omega) (by omega) hl g2
       rw [e1,cond_true,Yr hx,Option.bind_some,Za7 (x:=d - 1) (by omega) (by omega),q1,Option.bind_some,Za7 (by omega) (by omega)]
       refine .inl ⟨_,rfl,⟨j+1,by simp only;omega,by omega,q2,q3,fun hr => ?_⟩,by simp only;omega⟩
       obtain ⟨w1,w2⟩:=q4 hr
       obtain ⟨w3,w4,w5⟩:=g3 hl
       rw [List.take_add_one,hx]
       simp only [Option.toList_some,List.map_append,List.map_cons,List.map_nil,List.sum_append,List.sum_cons,List.sum_nil]
       simp only at hr
       refine ⟨by omega,w4,fun y hy => ?_⟩
       rcases List.mem_append.1 hy with hy | hy
       ·exact w5 y hy
       rw [List.mem_singleton] at hy;subst hy;exact w2
      have e1:decide (0≤l)=false:=by simp [hl]
      rw [e1,cond_false]
      exact .inr ⟨l,rfl,g1,g2,fun h=>absurd h hl⟩
     have hj':j=e.Kids.length:=by omega
     subst hj'
     rw [Zgk,cond_false]
     rw [List.take_length] at g3
     exact .inr ⟨l,rfl,g1,g2,g3⟩) (z,0) ⟨0,rfl,Nat.zero_le _,z2,z3,fun h=>⟨by simpa using (z4 h).1,(z4 h).2,by simp⟩⟩
   rw [h1,Option.bind_some]
   have inner:∀ (j:Nat) (hj:j < e.Ops.length) (l:Int),0≤l→l≤1000000→∃ r,Zt (Jk e (l,(j:Int))) (l,0)=some r∧-1≤r∧r≤1000000∧r≤l∧(0≤r→∀ t∈e.Ops[j].L,pt t≤1000000):=fun j hj l hl hl'=>by
    have hx:e.Ops[j]? = some e.Ops[j]:=List.getElem?_eq_getElem hj
    have hm:e.Ops[j]∈e.Ops:=List.getElem_mem hj
    have hL:=(hb.l _ hm).1
    obtain ⟨r,h1,h2⟩:=Zcf (step:=Jk e (l,(j:Int)))
     (fun s=>∃ i:Nat,s.2=i∧i≤e.Ops[j].L.length∧-1≤s.1∧s.1≤1000000∧s.1≤l∧(0≤s.1→∀ t∈e.Ops[j].L.take i,pt t≤1000000))
     (fun s=>e.Ops[j].L.length - s.2.toNat) (fun r=>-1≤r∧r≤1000000∧r≤l∧(0≤r→∀ t∈e.Ops[j].L,pt t≤1000000)) (fun s hI=>by
      obtain ⟨l',i'⟩:=s
      obtain ⟨i,rfl,hi,g1,g2,g3,g4⟩:=hI
      simp only at g1 g2 g3 g4 ⊢
      unfold Jk
      simp only
      rw [Yr hx,Option.bind_some,Option.bind_some]
      by_cases hii:i < e.Ops[j].L.length
      ·rw [Zcy hii,cond_true]
       by_cases hl2:0≤l'
       ·have e1:decide (0≤l')=true:=by simp [hl2]
        have hx2:e.Ops[j].L[i]? = some e.Ops[j].L[i]:=List.getElem?_eq_getElem hii
        have hm2:e.Ops[j].L[i]∈e.Ops[j].L:=List.getElem_mem hii
        obtain ⟨r,q1,q2,q3,q4⟩:=Ztt ((hb.l _ hm).2 _ hm2) hl2 g2
        rw [e1,cond_true,Yr hx2,Option.bind_some,q1,Option.bind_some,Za7 (by omega) (by omega)]
        refine .inl ⟨_,rfl,⟨i+1,by simp only;omega,by omega,q2,q3,?_⟩,by simp only;omega⟩
        simp only
        refine ⟨?_,fun hr t ht => ?_⟩
        ·by_cases hr:0≤r
         ·have:=q4 hr;omega
         omega
        rw [List.take_add_one,hx2] at ht
        rcases List.mem_append.1 ht with ht | ht
        ·exact g4 hl2 t ht
        simp only [Option.toList_some,List.mem_singleton] at ht
        subst ht
        have:=q4 hr
        omega
       have e1:decide (0≤l')=false:=by simp [hl2]
       rw [e1,cond_false]
       exact .inr ⟨l',rfl,g1,g2,g3,fun h=>absurd h hl2⟩
      have hi':i=e.Ops[j].L.length:=by omega
      subst hi'
      rw [Zgk,cond_false]
      rw [List.take_length] at g4
      exact .inr ⟨l',rfl,g1,g2,g3,g4⟩) (l,0) ⟨0,rfl,Nat.zero_le _,by simp only;omega,by simp only;omega,by simp only;omega,fun _=>by simp⟩
    exact ⟨r,h1,h2⟩
   obtain ⟨r',h1',h2'⟩:=Zcf (step:=Qd (Yd k) e d)
    (fun s=>∃ j:Nat,s.2=j∧j≤e.Ops.length∧-1≤s.1∧s.1≤1000000∧(0≤s.1→0≤r∧s.1+((((e.Ops.take j).map fun o=>ce o.E)).sum:Nat)≤r∧∀ o∈e.Ops.take j,ST o.E∧∀ t∈o.L,pt t≤1000000))
    (fun s=>e.Ops.length - s.2.toNat) (fun q=>-1≤q∧q≤1000000∧(0≤q→0≤r∧q+((e.Ops.map fun o=>ce o.E).sum:Nat)≤r∧∀ o∈e.Ops,ST o.E∧∀ t∈o.L,pt t≤1000000)) (fun s hI=>by
     obtain ⟨l,i⟩:=s
     obtain ⟨j,rfl,hj,g1,g2,g3⟩:=hI
     simp only at g1 g2 g3 ⊢
     unfold Qd
     simp only
     by_cases hji:j < e.Ops.length
     ·rw [Zcy hji,cond_true]
      by_cases hl:0≤l
      ·have e1:decide (0≤l)=true:=by simp [hl]
       have hx:e.Ops[j]? = some e.Ops[j]:=List.getElem?_eq_getElem hji
       have hm:e.Ops[j]∈e.Ops:=List.getElem_mem hji
       obtain ⟨t,t1,t2,t3,t4,t5⟩:=inner j hji l hl g2
       rw [e1,cond_true,t1,Option.bind_some,Za7 (x:=(j:Int)+1) (by omega) (by omega)]
       by_cases ht:0≤t
       ·obtain ⟨r,q1,q2,q3,q4⟩:=Zz3 k e.Ops[j].E (d - 1) t (hb.os _ hm) (by have:=U6 hm;omega) (by omega) (by omega) ht t3
        rw [decide_eq_true ht,cond_true,Yr hx,Option.bind_some,Za7 (x:=d - 1) (by omega) (by omega),q1]
        refine .inl ⟨_,rfl,⟨j+1,by simp only;omega,by omega,q2,q3,fun hr => ?_⟩,by simp only;omega⟩
        obtain ⟨w1,w2⟩:=q4 hr
        obtain ⟨w3,w4,w5⟩:=g3 hl
        rw [List.take_add_one,hx]
        simp only [Option.toList_some,List.map_append,List.map_cons,List.map_nil,List.sum_append,List.sum_cons,List.sum_nil]
        simp only at hr
        refine ⟨w3,by omega,fun y hy => ?_⟩
        rcases List.mem_append.1 hy with hy | hy
        ·exact w5 y hy
        rw [List.mem_singleton] at hy;subst hy;exact ⟨w2,t5 ht⟩
       rw [decide_eq_false ht]
       exact .inl ⟨_,rfl,⟨j+1,by simp only;omega,by omega,t2,t3,fun hr=>absurd hr ht⟩,by simp only;omega⟩
      have e1:decide (0≤l)=false:=by simp [hl]
      rw [e1,cond_false]
      exact .inr ⟨l,rfl,g1,g2,fun h=>absurd h hl⟩
     have hj':j=e.Ops.length:=by omega
     subst hj'
     rw [Zgk,cond_false]
     rw [List.take_length] at g3
     exact .inr ⟨l,rfl,g1,g2,g3⟩) (r,0) ⟨0,rfl,Nat.zero_le _,h2.1,h2.2.1,fun h=>⟨h,by simp,by simp⟩⟩
   rw [h1']
   refine ⟨r',rfl,h2'.1,h2'.2.1,fun hr => ?_⟩
   obtain ⟨p1,p2,p3⟩:=h2'.2.2 hr
   obtain ⟨p4,p5,p6⟩:=h2.2.2 p1
   exact ⟨by omega,.mk e p5.1 p5.2 (fun o ho=>(p3 o ho).2) p6 fun o ho=>(p3 o ho).1⟩
theorem Yd2 {e:Ed} (h:BE e) (hq:Gx e=some true):ce e≤3000∧ST e:=by
 obtain ⟨r,h1,h2,h3,h4⟩:=Zz3 (SizeOf.sizeOf e+1) e 80 3000 h (by omega) (by omega) (by omega) (by omega) (by omega)
 have hr:Zel e 80 3000=some r:=Zij (SizeOf.sizeOf e+1) fun k hk=>by rw [Ztk k (SizeOf.sizeOf e+1) e 80 3000 (by omega) (by omega)];exact h1
 unfold Gx at hq
 rw [hr,Option.bind_some] at hq
 have hp:0≤r:=by simpa using hq
 have:=h4 hp
 exact ⟨by omega,this.2⟩
structure GT (t:Tr):Prop where
 n:NT t
 g:Rg t
 x:TX t
theorem GT.z:GT Jd:=⟨NT.z,Rg.z,TX.z⟩
theorem GT.all {t:Tr} (h:GT t):∀ k∈t.Kids,GT k:=fun k hk=>⟨h.n.kids k hk,h.g.all k hk,h.x.all k hk⟩
theorem GT.at_ {t:Tr} (h:GT t) (i:Nat):GT (V8 Jd t.Kids i):=⟨Zh8 h.n.kids NT.z i,Zh8 h.g.all Rg.z i,Zh8 h.x.all TX.z i⟩
theorem GT.of {t:Tr} (hb:Bd t) (hx:TX t):GT (nrm t):=⟨NT.of t,hb.nrm.rg,hx.n⟩
def D9 (e:Ed):Prop:=e.Kind=2∨(e.Kind=1∧e.Old.Kind=1∧e.New.Kind=1)
inductive RZ:Ed→Prop
 | same (e:Ed) (h:e.Kind=0):RZ e
 | repl (e:Ed) (h:e.Kind=1) (ho:TX e.Old) (hn:TX e.New):RZ e
 | st (e:Ed) (h:e.Kind=2) (hw:e.Words.Pairwise (fun a b=>a.At < b.At)) (hw2:∀ w∈e.Words,0≤w.At∧w.At≤65534) (hk:e.Kids.Pairwise (fun a b=>a.At < b.At)) (hk2:∀ k∈e.Kids,0≤k.At∧k.At≤65534) (ih:∀ k∈e.Kids,RZ k.E):RZ e
 | li (e:Ed) (h:e.Kind=3) (hl:2≤e.List_∧e.List_≤9) (ho:∀ o∈e.Ops,opk o) (hN:∀ o∈e.Ops,o.Kind=0∨o.Kind=3→o.L=[]) (hT:∀ o∈e.Ops,∀ t∈o.L,TX t∧(e.List_=9→t.Kind=1)) (h9:∀ o∈e.Ops,o.Kind=3→e.List_=9→D9 o.E) (ih:∀ o∈e.Ops,o.Kind=3→RZ o.E):RZ e
theorem Ztq {α:Type} {f:α→Int} {l:List α} (h:l.Pairwise (fun a b=>f a < f b)) (h2:∀ x∈l,0≤f x∧f x≤65534):l.Pairwise (fun a b=>(f a).toNat≠(f b).toNat) :=
 h.imp_of_mem fun {a b} ha hb hab=>by have:=h2 a ha;have:=h2 b hb;omega
theorem RZ.rx {e:Ed} (h:RZ e):RX e:=by
 induction h with
 | same e h=>exact .same e h
 | repl e h _ _=>exact .repl e h
 | st e h hw hw2 hk hk2 _ ih=>exact .st e h (Ztq hw hw2) hw2 (Ztq hk hk2) hk2 ih
 | li e h hl ho hN hT h9 _ ih=>exact .li e h hl ho hN ih
theorem Yaw:∀ (n:Nat) (e:Ed) (d:Nat),SizeOf.sizeOf e < n→rE e d=true→RZ e
 | 0,_,_,h,_=>by omega
 | n+1,e,d,hn,h=>by
  rw [Z0o] at h
  by_cases hd:d=0
  ·rw [if_pos hd] at h;cases h
  rw [if_neg hd] at h
  by_cases h0:e.Kind=0
  ·exact .same e h0
  rw [if_neg h0] at h
  by_cases h1:e.Kind=1
  ·rw [if_pos h1] at h
   simp only [Bool.and_eq_true] at h
   exact .repl e h1 (Z4u _ _ 64 (Nat.lt_succ_self _) h.2.1.1) (Z4u _ _ 64 (Nat.lt_succ_self _) h.2.2.1)
  rw [if_neg h1] at h
  by_cases h2:e.Kind=2
  ·rw [if_pos h2] at h
   simp only [Bool.and_eq_true] at h
   obtain ⟨w1,w2⟩:=Zu8 Z4l e.Words (-1) h.2.1
   obtain ⟨k1,k2⟩:=Zu8 (Z4k (d - 1)) e.Kids (-1) h.2.2
   refine .st e h2 w2 (fun w hw=>by have:=w1 w hw;omega) k2 (fun k hk=>by have:=k1 k hk;omega) fun k hk=>Yaw n k.E (d - 1) (by have:=K7 hk;omega) ?_
   exact Zu7 (Q:=fun k:S_api_KidEdit=>rE k.E (d - 1)=true) (fun p x hx=>by
    unfold okK okP at hx
    simp only [Bool.and_eq_true] at hx
    exact hx.2.2) e.Kids (-1) h.2.2 k hk
  rw [if_neg h2] at h
  by_cases h3:e.Kind=3
  ·rw [if_pos h3] at h
   simp only [Bool.and_eq_true,decide_eq_true_eq,List.all_eq_true] at h
   have ho:=h.2.2.1
   have hL:∀ o∈e.Ops,o.Kind=0∨o.Kind=3→o.L=[]:=fun o hx k03=>by
    have:=ho o hx
    unfold okO at this
    rcases k03 with k0 | k3
    ·rw [if_pos k0] at this
     simp only [Bool.and_eq_true,beq_iff_eq] at this
     exact List.eq_nil_of_length_eq_zero this.2.1
    rw [if_neg (by omega),if_neg (by omega),if_pos k3] at this
    simp only [Bool.and_eq_true,beq_iff_eq] at this
    exact List.eq_nil_of_length_eq_zero this.2.1
   refine .li e h3 h.2.1 (fun o hx=>Zy4 (ho o hx)) hL (fun o hx t ht => ?_) (fun o hx k3 h9 => ?_) fun o hx k3=>Yaw n o.E (d - 1) (by have:=U6 hx;omega) ?_
   ·have hk:=Zip (Zy4 (ho o hx))
    by_cases k12:o.Kind=1∨o.Kind=2
    ·have:=ho o hx
     unfold okO at this
     rw [if_neg (by omega),if_pos k12] at this
     simp only [Bool.and_eq_true,List.all_eq_true] at this
     obtain ⟨q1,q2⟩:=this.2.2.1 t ht
     refine ⟨Z4u _ t 63 (Nat.lt_succ_self _) q1,fun h9 => ?_⟩
     unfold okk at q2
     rw [if_neg (by omega),h9] at q2
     simp only [Bool.and_eq_true,Bool.or_eq_true,bne_self_eq_false,Bool.false_eq_true,false_or,beq_iff_eq] at q2
     exact q2.2
    rw [hL o hx (by omega)] at ht
    cases ht
   ·have:=ho o hx
    unfold okO at this
    rw [if_neg (by omega),if_neg (by omega),if_pos k3] at this
    simp only [Bool.and_eq_true] at this
    have q:=this.2.2.2.1
    unfold Zzl at q
    rw [if_neg (by omega),if_pos h9] at q
    simp only [Bool.or_eq_true,Bool.and_eq_true,beq_iff_eq] at q
    exact q
   have:=ho o hx
   unfold okO at this
   rw [if_neg (by omega),if_neg (by omega),if_pos k3] at this
   simp only [Bool.and_eq_true] at this
   exact this.2.2.2.2
  rw [if_neg h3] at h;cases h
theorem Zu3:∀ (n:Nat) (e:Ed) (t u:Tr),SizeOf.sizeOf e < n→RZ e→BE e→GT t→ap e t=some u→GT u∧(D9 e→u.Kind=1)
 | 0,_,_,_,h,_,_,_,_=>by omega
 | n+1,e,t,u,hn,hz,hb,gt,h=>by
  obtain ⟨q1,q2,_⟩:=Zwb _ e t u (Nat.lt_succ_self _) hz.rx hb gt.n gt.g gt.x h
  have key:TX u∧(D9 e→u.Kind=1)→GT u∧(D9 e→u.Kind=1):=fun k=>⟨⟨q1,q2,k.1⟩,k.2⟩
  refine key ?_
  rw [Zcj] at h
  cases hz with
  | same _ k0 =>
   rw [if_pos k0] at h
   injection h with h
   subst h
   exact ⟨gt.x,fun d=>by unfold D9 at d;omega⟩
  | repl _ k1 ho hn' =>
   rw [if_neg (by omega),if_pos k1] at h
   split at h
   ·injection h with h
    subst h
    exact ⟨hn'.n,fun d=>by rw [Za5];unfold D9 at d;omega⟩
   cases h
  | st _ k2 hw hw2 hk hk2 ih =>
   rw [if_neg (by omega),if_neg (by omega),if_pos k2] at h
   split at h
   ·obtain ⟨ws,e1,h⟩:=Option.bind_eq_some_iff.1 h
    obtain ⟨ks,e2,h⟩:=Option.bind_eq_some_iff.1 h
    injection h with h
    subst h
    have hm:=Ztr t.Kids TX TX.z (apK e.Kids) t.Kids ks (fun w hw v hv=>by
     obtain ⟨k,hkm,rfl⟩:=List.mem_map.1 hw
     exact (Zu3 n k.E _ v (by have:=K7 hkm;omega) (ih k hkm) (hb.ks k hkm) (gt.at_ _) hv).1.x) gt.x.all e2
    exact ⟨.mk _ (fun q=>by simp only at q;omega) (fun q=>by simp at q) fun k hk=>hm k (Zej hk),fun _=>rfl⟩
   cases h
  | li _ k3 hl ho hN hT h9 ih =>
   rw [if_neg (by omega),if_neg (by omega),if_neg (by omega),if_pos k3] at h
   split at h
   ·rename_i ht
    obtain ⟨out,e1,rfl⟩:=Zzn h
    have hm:=Z3c (fun x=>GT x∧(e.List_=9→x.Kind=1)) (fun x=>TX x∧(e.List_=9→x.Kind=1)) (fun x q=>⟨q.1.x,q.2⟩) (apO e.Ops) t.Kids [] [] out (fun x hx=>⟨gt.all x hx,fun q=>gt.x.s (by omega) x hx⟩) (fun x hx=>by cases hx) (fun o hom hk x hx=>by
     obtain ⟨q,hq,rfl⟩:=List.mem_map.1 hom
     obtain ⟨r1,r2⟩:=hT q hq x hx
     exact ⟨r1.n,fun q9=>by rw [Za5];exact r2 q9⟩) (fun o hom hk x v hx hv=>by
     obtain ⟨q,hq,rfl⟩:=List.mem_map.1 hom
     obtain ⟨r1,r2⟩:=Zu3 n q.E x v (by have:=U6 hq;omega) (ih q hq hk) (hb.os q hq) hx.1 hv
     exact ⟨r1.x,fun q9=>r2 (h9 q hq hk q9)⟩) e1
    refine ⟨.mk _ (fun _=>rfl) (fun q9 k hk=>(hm.2 k hk).2 (by simp only at q9;omega)) fun k hk=>(hm.2 k hk).1,fun d=>by unfold D9 at d;omega⟩
   cases h
theorem Z1j {α:Type} {z:α} (f:Nat→α) {n i:Nat} (h:i < n):V8 z ((List.range n).map f) i=f i:=by
 unfold V8
 rw [List.getElem?_map,List.getElem?_range h]
 rfl
theorem Z4x {L9:Bool} {e:Ed} (hb:BE e):∀ (os:List EO),(∀ o∈os,o∈e.Ops)→(∀ o∈os,opk o)→(∀ o∈os,∀ t∈o.L,TX t∧(L9=true→t.Kind=1))→(∀ o∈os,o.Kind=3→∃ w,GT w∧(ap o.E w).isSome=true∧(L9=true→w.Kind=1)) →
  ∃ l:List Tr,(∀ x∈l,GT x∧(L9=true→x.Kind=1))∧∀ rest out,∃ out',RO os (l++rest,out)=some (rest,out')
 | [],_,_,_,_=>⟨[],by simp,fun rest out=>⟨out,rfl⟩⟩
 | o::os,hs,hp,hT,hD=>by
  obtain ⟨l,h1,h2⟩:=Z4x hb os (fun x hx=>hs x (.tail _ hx)) (fun x hx=>hp x (.tail _ hx)) (fun x hx=>hT x (.tail _ hx)) fun x hx=>hD x (.tail _ hx)
  have ho:=hp o (.head _)
  rcases ho with ⟨k,hk⟩ | ⟨k,hk⟩ | ⟨k,hk⟩ | k
  ·have hd:∃ w,GT w∧(L9=true→w.Kind=1):=by
    refine ⟨⟨1,[],[]⟩,⟨?_,.mk _ (by simp) (by simp),.mk _ (fun _=>rfl) (fun _=>by simp) (by simp)⟩,fun _=>rfl⟩
    exact NT.st (ws:=[]) (ks:=[]) (by simp)
   obtain ⟨w,g1,g2⟩:=hd
   refine ⟨List.replicate o.N.toNat w++l,fun x hx => ?_,fun rest out => ?_⟩
   ·rcases List.mem_append.1 hx with hx | hx
    ·rw [List.eq_of_mem_replicate hx];exact ⟨g1,g2⟩
    exact h1 x hx
   rw [Zao,Zje k]
   unfold Zih
   rw [if_pos ⟨by omega,by simp only [List.length_append,List.length_replicate];omega⟩,Option.bind_some,List.append_assoc,List.drop_left' (by simp)]
   exact h2 rest _
  ·refine ⟨o.L.map nrm++l,fun x hx => ?_,fun rest out => ?_⟩
   ·rcases List.mem_append.1 hx with hx | hx
    ·obtain ⟨y,hy,rfl⟩:=List.mem_map.1 hx
     obtain ⟨q1,q2⟩:=hT o (.head _) y hy
     exact ⟨GT.of ((hb.l o (hs o (.head _))).2 y hy) q1,fun q=>by rw [Za5];exact q2 q⟩
    exact h1 x hx
   rw [Zao,Zg7 k]
   unfold Zi2
   rw [List.append_assoc,if_pos (by simp only;rw [List.take_left' (by simp)]),Option.bind_some,List.drop_left' (by simp)]
   exact h2 rest _
  ·refine ⟨l,h1,fun rest out => ?_⟩
   rw [Zao,Zlw k]
   unfold Zlp
   rw [Option.bind_some]
   exact h2 rest _
  obtain ⟨w,g1,g2,g3⟩:=hD o (.head _) k
  refine ⟨w::l,fun x hx => ?_,fun rest out => ?_⟩
  ·rcases List.mem_cons.1 hx with rfl | hx
   ·exact ⟨g1,g3⟩
   exact h1 x hx
  obtain ⟨u,hu⟩:=Option.isSome_iff_exists.1 g2
  rw [Zao,Zmy k]
  simp only [List.cons_append]
  rw [hu,Option.map_some,Option.bind_some]
  exact h2 rest _
theorem Z3f:∀ (n:Nat) (e:Ed),SizeOf.sizeOf e < n→RZ e→BE e→∃ t,GT t∧(ap e t).isSome=true∧(D9 e→t.Kind=1)
 | 0,_,h,_,_=>by omega
 | n+1,e,hn,hz,hb=>by
  cases hz with
  | same _ k0=>exact ⟨Jd,GT.z,by rw [Zcj,if_pos k0];rfl,fun d=>by unfold D9 at d;omega⟩
  | repl _ k1 ho hn' =>
   refine ⟨nrm e.Old,GT.of hb.old ho,?_,fun d=>by rw [Za5];unfold D9 at d;omega⟩
   rw [Zcj,if_neg (by omega),if_pos k1,if_pos rfl]
   rfl
  | st _ k2 hw hw2 hk hk2 ih =>
   have nw:=Ztq hw hw2
   have nk:=Ztq hk hk2
   have ew:∀ j:Nat,∃ x:Int,(0≤x∧x < 18446744073709551616)∧∀ w∈e.Words,w.At.toNat=j→cW x w=true:=fun j=>by
    by_cases q:∃ w∈e.Words,w.At.toNat=j
    ·obtain ⟨w,hm,hj⟩:=q
     obtain ⟨b1,b2,b3⟩:=hb.ws w hm
     refine ⟨w.Old,b2,fun w' hm' hj' => ?_⟩
     rw [Zwy (f:=fun w:Zf=>w.At.toNat) nw w' hm' w hm (by omega)]
     unfold cW
     rw [decide_eq_true_eq]
     exact Yag _ _ (by omega)
    exact ⟨0,by omega,fun w hm hj=>absurd ⟨w,hm,hj⟩ q⟩
   have ek:∀ j:Nat,∃ t:Tr,GT t∧∀ k∈e.Kids,k.At.toNat=j→(ap k.E t).isSome=true:=fun j=>by
    by_cases q:∃ k∈e.Kids,k.At.toNat=j
    ·obtain ⟨k,hm,hj⟩:=q
     obtain ⟨t,g1,g2,_⟩:=Z3f n k.E (by have:=K7 hm;omega) (ih k hm) (hb.ks k hm)
     refine ⟨t,g1,fun k' hm' hj' => ?_⟩
     rw [Zwy (f:=fun w:S_api_KidEdit=>w.At.toNat) nk k' hm' k hm (by omega)]
     exact g2
    exact ⟨Jd,GT.z,fun w hm hj=>absurd ⟨w,hm,hj⟩ q⟩
   obtain ⟨fw,hfw⟩:=Classical.skolem.1 ew
   obtain ⟨fk,hfk⟩:=Classical.skolem.1 ek
   obtain ⟨W,mw,aw0⟩:∃ W:List Int,(∀ x∈W,0≤x∧x < 18446744073709551616)∧∀ j,j < 65535→V8 0 W j=fw j:=⟨(List.range 65535).map fw,fun x hx=>by
    obtain ⟨j,_,rfl⟩:=List.mem_map.1 hx
    exact (hfw j).1,fun j hj=>Z1j fw hj⟩
   obtain ⟨K,mk,ak0⟩:∃ K:List Tr,(∀ x∈K,GT x)∧∀ j,j < 65535→V8 Jd K j=fk j:=⟨(List.range 65535).map fk,fun x hx=>by
    obtain ⟨j,_,rfl⟩:=List.mem_map.1 hx
    exact (hfk j).1,fun j hj=>Z1j fk hj⟩
   have gt:GT ⟨1,tr p0 W,tr pT K⟩:=⟨NT.st fun k hk=>(mk k hk).n,.mk _ (fun x hx=>mw x (Zej hx)) fun x hx=>(mk x (Zej hx)).g,.mk _ (fun q=>by simp only at q;omega) (fun q=>by simp at q) fun k hk=>(mk k (Zej hk)).x⟩
   refine ⟨_,gt,?_,fun _=>rfl⟩
   have aw:∀ j,j < 65535→V8 0 (tr p0 W) j=fw j:=fun j hj=>by rw [Zv8 _ fun x _ hx=>Z1d hx,aw0 j hj]
   have ak:∀ j,j < 65535→V8 Jd (tr pT K) j=fk j:=fun j hj=>by rw [Zv8 _ fun x hx hp=>(mk x hx).n.null hp,ak0 j hj]
   rw [Zcj,if_neg (by omega),if_neg (by omega),if_pos k2,if_pos rfl]
   obtain ⟨s1,_⟩:=Zmx (tr p0 W) e.Words (tr p0 W) nw
   obtain ⟨ws',c1,_⟩:=s1 fun w hm=>by
    rw [aw _ (by have:=hw2 w hm;omega)]
    exact (hfw _).2 w hm rfl
   obtain ⟨s2,_⟩:=Zr6 (tr pT K) (apK e.Kids) (tr pT K) (List.pairwise_map.2 nk) fun w hwm v hv=>by
    obtain ⟨k,hkm,rfl⟩:=List.mem_map.1 hwm
    exact (Zu3 _ k.E _ v (Nat.lt_succ_self _) (ih k hkm) (hb.ks k hkm) (gt.at_ _) hv).1.n
   obtain ⟨ks',c2,_⟩:=s2 fun w hwm=>by
    obtain ⟨k,hkm,rfl⟩:=List.mem_map.1 hwm
    simp only
    rw [ak _ (by have:=hk2 k hkm;omega)]
    exact (hfk _).2 k hkm rfl
   simp only
   rw [c1,Option.bind_some,c2]
   rfl
  | li _ k3 hl ho hN hT h9 ih =>
   obtain ⟨l,g1,g2⟩:=Z4x (L9:=e.List_ == 9) hb e.Ops (fun _ h=>h) ho (fun o hx t ht=>by
    obtain ⟨q1,q2⟩:=hT o hx t ht
    exact ⟨q1,fun q=>q2 (beq_iff_eq.1 q)⟩) (fun o hx k=>by
    obtain ⟨w,q1,q2,q3⟩:=Z3f n o.E (by have:=U6 hx;omega) (ih o hx k) (hb.os o hx)
    exact ⟨w,q1,q2,fun q=>q3 (h9 o hx k (beq_iff_eq.1 q))⟩)
   refine ⟨⟨e.List_,[],l⟩,⟨NT.li (by omega) (by omega) fun x hx=>(g1 x hx).1.n,.mk _ (by simp) fun x hx=>(g1 x hx).1.g,.mk _ (fun _=>rfl) (fun q x hx=>(g1 x hx).2 (beq_iff_eq.2 q)) fun x hx=>(g1 x hx).1.x⟩,?_,fun d=>by unfold D9 at d;omega⟩
   rw [Zcj,if_neg (by omega),if_neg (by omega),if_neg (by omega),if_pos k3,if_pos rfl]
   obtain ⟨out',q⟩:=g2 [] []
   rw [List.append_nil] at q
   have q':rnO (apO e.Ops) (l,[])=some ([],out'):=q
   simp only
   rw [q']
   rfl
theorem Zia (m i:Nat):Zra m i=Nat.testBit m i:=by unfold Zra;rw [Nat.testBit_eq_decide_div_mod_eq]
theorem Z22 (a:Nat) (h:a < 256):(BitVec.ofInt (IntKind.bits .u8) (a:Int)).toNat=a:=by
 show (BitVec.ofInt 8 (a:Int)).toNat=a
 rw [BitVec.ofInt_natCast,BitVec.toNat_ofNat]
 exact Nat.mod_eq_of_lt h
theorem Yex {a b:Nat} (ha:a < 256) (hb:b < 256):Zii .u8 (a:Int) (b:Int)=((a &&& b:Nat):Int):=by
 unfold Zii
 rw [BitVec.toNat_and,Z22 a ha,Z22 b hb]
theorem Ygh {a b:Nat} (ha:a < 256) (hb:b < 256):Zuk .u8 (a:Int) (b:Int)=((a ||| b:Nat):Int):=by
 unfold Zuk
 rw [BitVec.toNat_or,Z22 a ha,Z22 b hb]
abbrev WE:=Zf
def Zrq (w:WE):Prop:=(0≤w.Mask∧w.Mask < 256)∧(0≤w.Old∧w.Old < 18446744073709551616)∧(0≤w.New∧w.New < 18446744073709551616)
def agW (p q:WE):Bool:=decide (Zm4 p.New.toNat q.Old.toNat (p.Mask.toNat &&& q.Mask.toNat)=p.New.toNat)
def mkW (p q:WE):WE:=⟨p.At,((p.Mask.toNat ||| q.Mask.toNat:Nat):Int),((Zm4 q.Old.toNat p.Old.toNat p.Mask.toNat:Nat):Int),((Zm4 p.New.toNat q.New.toNat q.Mask.toNat:Nat):Int)⟩
theorem Yeg {p q:WE} (hp:Zrq p) (hq:Zrq q):Zrq (mkW p q):=by
 have h1:=Zgt q.Old.toNat p.Old.toNat p.Mask.toNat
 have h2:=Zgt p.New.toNat q.New.toNat q.Mask.toNat
 have h3:p.Mask.toNat ||| q.Mask.toNat < 2 ^ 8:=Nat.or_lt_two_pow (by have:=hp.1;omega) (by have:=hq.1;omega)
 unfold mkW Zrq
 simp only
 omega
theorem Yb4 {p q:WE} (hp:Zrq p) (hq:Zrq q):Ze7 p q=some (if agW p q=true then (mkW p q,true) else (⟨0,0,0,0⟩,false)):=by
 obtain ⟨a,m,o,n⟩:=p
 obtain ⟨a',m',o',n'⟩:=q
 obtain ⟨⟨p1,p2⟩,⟨p3,p4⟩,p5,p6⟩:=hp
 obtain ⟨⟨q1,q2⟩,⟨q3,q4⟩,q5,q6⟩:=hq
 simp only at p1 p2 p3 p4 p5 p6 q1 q2 q3 q4 q5 q6
 obtain ⟨m,rfl⟩:=Int.eq_ofNat_of_zero_le p1
 obtain ⟨o,rfl⟩:=Int.eq_ofNat_of_zero_le p3
 obtain ⟨n,rfl⟩:=Int.eq_ofNat_of_zero_le p5
 obtain ⟨m',rfl⟩:=Int.eq_ofNat_of_zero_le q1
 obtain ⟨o',rfl⟩:=Int.eq_ofNat_of_zero_le q3
 obtain ⟨n',rfl⟩:=Int.eq_ofNat_of_zero_le q5
 have ha:m &&& m' < 256:=Nat.lt_of_le_of_lt Nat.and_le_left (by omega)
 have ho:m ||| m' < 256:=Nat.or_lt_two_pow (n:=8) (by omega) (by omega)
 unfold Ze7 agW mkW
 simp only [Int.toNat_natCast]
 rw [Yex (by omega) (by omega),u8n _ ha,Z3n _ ha,Option.bind_some,Z75 (by omega) (by omega),Z3m (by omega) (by omega) (by omega),Option.bind_some,Z3m (by omega) (by omega) (by omega),Option.bind_some,Ygh (by omega) (by omega),u8n _ ho]
 cases decide (Zm4 n o' (m &&& m')=n) <;> rfl
theorem Z20 {a b m:Nat} (ha:a < 2 ^ 64):Zm4 a b m=a↔∀ i,i < 64→Nat.testBit m (i / 8)=true→Nat.testBit a i=Nat.testBit b i:=by
 refine ⟨fun h i hi hb => ?_,fun h=>Zvb (Zgt _ _ _) ha fun i hi => ?_⟩
 ·have:=Gq a b m i hi
  rw [h,Zia,hb,if_pos rfl] at this
  exact this
 rw [Gq a b m i hi,Zia]
 split
 ·rename_i q
  exact (h i hi q).symm
 rfl
theorem Z5i {p q:WE} (hp:Zrq p) (hq:Zrq q) {x:Int} (hx:0≤x∧x < 18446744073709551616):(cW x p=true∧cW (Zlr x p) q=true↔agW p q=true∧cW x (mkW p q)=true)∧Zlr x (mkW p q)=Zlr (Zlr x p) q:=by
 obtain ⟨X,rfl⟩:=Int.eq_ofNat_of_zero_le hx.1
 have hX:X < 2 ^ 64:=by omega
 have hN:p.New.toNat < 2 ^ 64:=by have:=hp.2.2;omega
 have hY:=Zgt X p.New.toNat p.Mask.toNat
 unfold cW agW Zlr mkW
 simp only [Int.toNat_natCast,decide_eq_true_eq]
 rw [Z20 hX,Z20 hY,Z20 hN,Z20 hX]
 refine ⟨⟨fun ⟨h1,h2⟩=>⟨fun i hi hb => ?_,fun i hi hb => ?_⟩,fun ⟨h1,h2⟩=>⟨fun i hi hb => ?_,fun i hi hb => ?_⟩⟩,?_⟩
 ·rw [Nat.testBit_and,Bool.and_eq_true] at hb
  have:=h2 i hi hb.2
  rw [Gq _ _ _ i hi,Zia,hb.1,if_pos rfl] at this
  exact this
 ·rw [Gq _ _ _ i hi,Zia]
  by_cases hP:Nat.testBit p.Mask.toNat (i / 8)=true
  ·rw [if_pos hP];exact h1 i hi hP
  rw [if_neg hP]
  rw [Nat.testBit_or,Bool.or_eq_true] at hb
  have:=h2 i hi (hb.resolve_left hP)
  rw [Gq _ _ _ i hi,Zia,if_neg hP] at this
  exact this
 ·have:=h2 i hi (by rw [Nat.testBit_or,hb];rfl)
  rw [Gq _ _ _ i hi,Zia,if_pos hb] at this
  exact this
 ·rw [Gq _ _ _ i hi,Zia]
  by_cases hP:Nat.testBit p.Mask.toNat (i / 8)=true
  ·rw [if_pos hP]
   exact h1 i hi (by rw [Nat.testBit_and,hP,hb];rfl)
  rw [if_neg hP]
  have:=h2 i hi (by rw [Nat.testBit_or,hb,Bool.or_true])
  rw [Gq _ _ _ i hi,Zia,if_neg hP] at this
  exact this
 congr 1
 refine Zvb (Zgt _ _ _) (Zgt _ _ _) fun i hi => ?_
 rw [Gq _ _ _ i hi,Gq _ _ _ i hi,Gq _ _ _ i hi,Gq _ _ _ i hi,Zia,Zia,Zia,Nat.testBit_or]
 cases Nat.testBit p.Mask.toNat (i / 8) <;> cases Nat.testBit q.Mask.toNat (i / 8) <;> rfl
def mg {α:Type} (pl:α→Int) (f:α→α→Option α):List α→List α→Option (List α)
 | [],q=>some q
 | x::p,[]=>some (x::p)
 | x::p,y::q=>if pl x < pl y then (mg pl f p (y::q)).map (x::·) else if pl y < pl x then (mg pl f (x::p) q).map (y::·) else match f x y with
  | none=>none
  | some z=>(mg pl f p q).map (z::·)
termination_by p q=>p.length+q.length
def fd {α:Type} (pl:α→Int) (l:List α) (j:Nat):Option α:=l.find? fun w=>(pl w).toNat == j
theorem Zf6 {α:Type} {pl:α→Int} (x:α) (l:List α) (j:Nat):fd pl (x::l) j=if (pl x).toNat=j then some x else fd pl l j:=by
 unfold fd
 rw [List.find?_cons]
 by_cases h:(pl x).toNat=j
 ·rw [if_pos h,show ((pl x).toNat == j)=true from beq_iff_eq.2 h]
 rw [if_neg h,show ((pl x).toNat == j)=false from beq_eq_false_iff_ne.2 h]
theorem Z6x {α:Type} {pl:α→Int} {l:List α} {j:Nat} (h:∀ x∈l,(pl x).toNat≠j):fd pl l j=none:=by
 unfold fd
 rw [List.find?_eq_none]
 intro x hx
 rw [beq_iff_eq]
 exact h x hx
theorem Zgx {α:Type} {pl:α→Int} {l:List α} {j:Nat} {x:α} (h:fd pl l j=some x):x∈l∧(pl x).toNat=j:=by
 unfold fd at h
 exact ⟨List.mem_of_find?_eq_some h,by have:=List.find?_some h;simpa using this⟩
def Z9l {α:Type} (f:α→α→Option α):Option α→Option α→Option α
 | some x,some y=>f x y
 | some x,none=>some x
 | none,y=>y
def Rise {α:Type} (pl:α→Int) (l:List α):Prop:=l.Pairwise (fun a b=>pl a < pl b)∧∀ x∈l,0≤pl x
theorem Rise.tail {α:Type} {pl:α→Int} {x:α} {l:List α} (h:Rise pl (x::l)):Rise pl l:=⟨(List.pairwise_cons.1 h.1).2,fun y hy=>h.2 y (.tail _ hy)⟩
theorem Zl3 {α:Type} {pl:α→Int} {f:α→α→Option α} (hf:∀ x y z,f x y=some z→pl z=pl x):∀ (n:Nat) (p q:List α),p.length+q.length≤n→Rise pl p→Rise pl q →
  (∀ l,mg pl f p q=some l→Rise pl l∧(∀ z∈l,(z∈p)∨(z∈q)∨∃ x∈p,∃ y∈q,f x y=some z)∧(∀ z∈l,(∃ x∈p,pl z=pl x)∨∃ y∈q,pl z=pl y)∧l.length≤p.length+q.length∧∀ j,fd pl l j=Z9l f (fd pl p j) (fd pl q j)) ∧
  (mg pl f p q=none→∃ j x y,fd pl p j=some x∧fd pl q j=some y∧f x y=none)
 | n,[],q,hn,hp,hq=>by
  refine ⟨fun l h => ?_,fun h => ?_⟩
  ·rw [mg] at h
   injection h with h
   subst h
   exact ⟨hq,fun z hz => .inr (.inl hz),fun z hz => .inr ⟨z,hz,rfl⟩,by simp,fun j=>rfl⟩
  rw [mg] at h;cases h
 | n,x::p,[],hn,hp,hq=>by
  refine ⟨fun l h => ?_,fun h => ?_⟩
  ·rw [mg] at h
   injection h with h
   subst h
   refine ⟨hp,fun z hz => .inl hz,fun z hz => .inl ⟨z,hz,rfl⟩,by simp,fun j => ?_⟩
   cases fd pl (x::p) j <;> rfl
  rw [mg] at h;cases h
 | 0,x::p,y::q,hn,hp,hq=>by simp at hn
 | n+1,x::p,y::q,hn,hp,hq=>by
  simp only [List.length_cons] at hn
  have hpx:=(List.pairwise_cons.1 hp.1).1
  have hqy:=(List.pairwise_cons.1 hq.1).1
  have x0:=hp.2 x (.head _)
  have y0:=hq.2 y (.head _)
  rw [mg]
  by_cases h1:pl x < pl y
  ·rw [if_pos h1]
   obtain ⟨i1,i2⟩:=Zl3 hf n p (y::q) (by simp only [List.length_cons];omega) hp.tail hq
   refine ⟨fun l h => ?_,fun h => ?_⟩
   ·obtain ⟨l',e,rfl⟩:=Option.map_eq_some_iff.1 h
    obtain ⟨a1,a2,a3,a4,a5⟩:=i1 l' e
    refine ⟨⟨List.pairwise_cons.2 ⟨fun z hz => ?_,a1.1⟩,fun z hz => ?_⟩,fun z hz => ?_,fun z hz => ?_,by simp only [List.length_cons] at a4 ⊢;omega,fun j => ?_⟩
    ·rcases a3 z hz with ⟨w,hw,e⟩ | ⟨w,hw,e⟩
     ·rw [e];exact hpx w hw
     rw [e]
     rcases List.mem_cons.1 hw with rfl | hw
     ·exact h1
     have:=hqy w hw;omega
    ·rcases List.mem_cons.1 hz with rfl | hz
     ·exact x0
     exact a1.2 z hz
    ·rcases List.mem_cons.1 hz with rfl | hz
     ·exact .inl (.head _)
     rcases a2 z hz with h | h | ⟨u,hu,v,hv,e⟩
     ·exact .inl (.tail _ h)
     ·exact .inr (.inl h)
     exact .inr (.inr ⟨u,.tail _ hu,v,hv,e⟩)
    ·rcases List.mem_cons.1 hz with rfl | hz
     ·exact .inl ⟨z,.head _,rfl⟩
     rcases a3 z hz with ⟨w,hw,e⟩ | h
     ·exact .inl ⟨w,.tail _ hw,e⟩
     exact .inr h
    rw [Zf6,Zf6]
    by_cases hj:(pl x).toNat=j
    ·rw [if_pos hj,if_pos hj,Z6x (l:=y::q) fun w hw=>by
      have:=hq.2 w hw
      rcases List.mem_cons.1 hw with rfl | hw
      ·omega
      have:=hqy w hw;omega]
     rfl
    rw [if_neg hj,if_neg hj]
    exact a5 j
   have e:mg pl f p (y::q)=none:=by
    cases hm:mg pl f p (y::q) with
    | none=>rfl
    | some l=>rw [hm] at h;cases h
   obtain ⟨j,u,v,e1,e2,e3⟩:=i2 e
   refine ⟨j,u,v,?_,e2,e3⟩
   rw [Zf6,if_neg,e1]
   have:=Zgx e1
   have:=hpx u this.1
   omega
  rw [if_neg h1]
  by_cases h2:pl y < pl x
  ·rw [if_pos h2]
   obtain ⟨i1,i2⟩:=Zl3 hf n (x::p) q (by simp only [List.length_cons];omega) hp hq.tail
   refine ⟨fun l h => ?_,fun h => ?_⟩
   ·obtain ⟨l',e,rfl⟩:=Option.map_eq_some_iff.1 h
    obtain ⟨a1,a2,a3,a4,a5⟩:=i1 l' e
    refine ⟨⟨List.pairwise_cons.2 ⟨fun z hz => ?_,a1.1⟩,fun z hz => ?_⟩,fun z hz => ?_,fun z hz => ?_,by simp only [List.length_cons] at a4 ⊢;omega,fun j => ?_⟩
    ·rcases a3 z hz with ⟨w,hw,e⟩ | ⟨w,hw,e⟩
     ·rw [e]
      rcases List.mem_cons.1 hw with rfl | hw
      ·exact h2
      have:=hpx w hw;omega
     rw [e];exact hqy w hw
    ·rcases List.mem_cons.1 hz with rfl | hz
     ·exact y0
     exact a1.2 z hz
    ·rcases List.mem_cons.1 hz with rfl | hz
     ·exact .inr (.inl (.head _))
     rcases a2 z hz with h | h | ⟨u,hu,v,hv,e⟩
     ·exact .inl h
     ·exact .inr (.inl (.tail _ h))
     exact .inr (.inr ⟨u,hu,v,.tail _ hv,e⟩)
    ·rcases List.mem_cons.1 hz with rfl | hz
     ·exact .inr ⟨z,.head _,rfl⟩
     rcases a3 z hz with h | ⟨w,hw,e⟩
     ·exact .inl h
     exact .inr ⟨w,.tail _ hw,e⟩
    rw [Zf6,Zf6 y]
    by_cases hj:(pl y).toNat=j
    ·rw [if_pos hj,if_pos hj,Z6x (l:=x::p) fun w hw=>by
      have:=hp.2 w hw
      rcases List.mem_cons.1 hw with rfl | hw
      ·omega
      have:=hpx w hw;omega]
     rfl
    rw [if_neg hj,if_neg hj]
    exact a5 j
   have e:mg pl f (x::p) q=none:=by
    cases hm:mg pl f (x::p) q with
    | none=>rfl
    | some l=>rw [hm] at h;cases h
   obtain ⟨j,u,v,e1,e2,e3⟩:=i2 e
   refine ⟨j,u,v,e1,?_,e3⟩
   rw [Zf6,if_neg,e2]
   have:=Zgx e2
   have:=hqy v this.1
   omega
  rw [if_neg h2]
  cases hz:f x y with
  | none =>
   refine ⟨fun l h=>(by cases h),fun _=>⟨(pl x).toNat,x,y,?_,?_,hz⟩⟩
   ·rw [Zf6,if_pos rfl]
   rw [Zf6,if_pos (by omega)]
  | some z =>
   have ez:=hf x y z hz
   obtain ⟨i1,i2⟩:=Zl3 hf n p q (by omega) hp.tail hq.tail
   simp only
   refine ⟨fun l h => ?_,fun h => ?_⟩
   ·obtain ⟨l',e,rfl⟩:=Option.map_eq_some_iff.1 h
    obtain ⟨a1,a2,a3,a4,a5⟩:=i1 l' e
    refine ⟨⟨List.pairwise_cons.2 ⟨fun w hw => ?_,a1.1⟩,fun w hw => ?_⟩,fun w hw => ?_,fun w hw => ?_,by simp only [List.length_cons] at a4 ⊢;omega,fun j => ?_⟩
    ·rcases a3 w hw with ⟨v,hv,e⟩ | ⟨v,hv,e⟩
     ·rw [e];have:=hpx v hv;omega
     rw [e];have:=hqy v hv;omega
    ·rcases List.mem_cons.1 hw with rfl | hw
     ·omega
     exact a1.2 w hw
    ·rcases List.mem_cons.1 hw with rfl | hw
     ·exact .inr (.inr ⟨x,.head _,y,.head _,hz⟩)
     rcases a2 w hw with h | h | ⟨u,hu,v,hv,e⟩
     ·exact .inl (.tail _ h)
     ·exact .inr (.inl (.tail _ h))
     exact .inr (.inr ⟨u,.tail _ hu,v,.tail _ hv,e⟩)
    ·rcases List.mem_cons.1 hw with rfl | hw
     ·exact .inl ⟨x,.head _,ez⟩
     rcases a3 w hw with ⟨v,hv,e⟩ | ⟨v,hv,e⟩
     ·exact .inl ⟨v,.tail _ hv,e⟩
     exact .inr ⟨v,.tail _ hv,e⟩
    rw [Zf6,Zf6,Zf6]
    by_cases hj:(pl x).toNat=j
    ·rw [if_pos (by omega),if_pos hj,if_pos (by omega)]
     exact hz.symm
    rw [if_neg (by omega),if_neg hj,if_neg (by omega)]
    exact a5 j
   have e:mg pl f p q=none:=by
    cases hm:mg pl f p q with
    | none=>rfl
    | some l=>rw [hm] at h;cases h
   obtain ⟨j,u,v,e1,e2,e3⟩:=i2 e
   have f1:=Zgx e1
   have:=hpx u f1.1
   refine ⟨j,u,v,?_,?_,e3⟩
   ·rw [Zf6,if_neg (by omega),e1]
   rw [Zf6,if_neg (by omega),e2]
theorem Zvm {α:Type} {pl:α→Int} {f:α→α→Option α} {P Q:List α} {step:List α×List α×List α→Option ((List α×List α×List α) ⊕ (Unit ⊕ (List α×List α×List α)))} (B:Nat)
  (H0:∀ p q out,p=[]∨q=[]→step (p,q,out)=some (.inr (.inr (p,q,out))))
  (H1:∀ x p y q out,pl x < pl y→out.length≤B→(x::p).length≤B→(y::q).length≤B→step (x::p,y::q,out)=some (.inl (p,y::q,out++[x])))
  (H2:∀ x p y q out,pl y < pl x→out.length≤B→(x::p).length≤B→(y::q).length≤B→step (x::p,y::q,out)=some (.inl (x::p,q,out++[y])))
  (H3:∀ x p y q out,x∈P→y∈Q→pl x=pl y→out.length≤B→(x::p).length≤B→(y::q).length≤B→step (x::p,y::q,out)=some (match f x y with | some z => .inl (p,q,out++[z]) | none => .inr (.inl ()))) :
  ∀ (n:Nat) (p q out:List α),p.length+q.length≤n→(∀ x∈p,x∈P)→(∀ y∈q,y∈Q)→out.length+n≤B →
   (∀ l,mg pl f p q=some l→∃ p' q' out',Zt step (p,q,out)=some (.inr (p',q',out'))∧out'++p'++q'=out++l)∧(mg pl f p q=none→Zt step (p,q,out)=some (.inl ()))
 | n,[],q,out,hn,hp,hq,hB=>by
  refine ⟨fun l h => ?_,fun h => ?_⟩
  ·rw [mg] at h
   injection h with h
   subst h
   exact ⟨_,_,_,Z3 (H0 _ _ _ (.inl rfl)),by rw [List.append_nil]⟩
  rw [mg] at h;cases h
 | n,x::p,[],out,hn,hp,hq,hB=>by
  refine ⟨fun l h => ?_,fun h => ?_⟩
  ·rw [mg] at h
   injection h with h
   subst h
   exact ⟨_,_,_,Z3 (H0 _ _ _ (.inr rfl)),by rw [List.append_nil]⟩
  rw [mg] at h;cases h
 | 0,x::p,y::q,out,hn,hp,hq,hB=>by simp at hn
 | n+1,x::p,y::q,out,hn,hp,hq,hB=>by
  simp only [List.length_cons] at hn
  have lx:(x::p).length≤B:=by simp only [List.length_cons];omega
  have ly:(y::q).length≤B:=by simp only [List.length_cons];omega
  rw [mg]
  by_cases h1:pl x < pl y
  ·rw [if_pos h1,Yo (H1 x p y q out h1 (by omega) lx ly)]
   obtain ⟨i1,i2⟩:=Zvm B H0 H1 H2 H3 n p (y::q) (out++[x]) (by simp only [List.length_cons];omega) (fun z hz=>hp z (.tail _ hz)) hq (by simp only [List.length_append,List.length_singleton];omega)
   refine ⟨fun l h => ?_,fun h => ?_⟩
   ·obtain ⟨l',e,rfl⟩:=Option.map_eq_some_iff.1 h
    obtain ⟨p',q',o',e1,e2⟩:=i1 l' e
    exact ⟨p',q',o',e1,by rw [e2,List.append_assoc];rfl⟩
   exact i2 (by cases hm:mg pl f p (y::q) with
    | none=>rfl
    | some l=>rw [hm] at h;cases h)
  rw [if_neg h1]
  by_cases h2:pl y < pl x
  ·rw [if_pos h2,Yo (H2 x p y q out h2 (by omega) lx ly)]
   obtain ⟨i1,i2⟩:=Zvm B H0 H1 H2 H3 n (x::p) q (out++[y]) (by simp only [List.length_cons];omega) hp (fun z hz=>hq z (.tail _ hz)) (by simp only [List.length_append,List.length_singleton];omega)
   refine ⟨fun l h => ?_,fun h => ?_⟩
   ·obtain ⟨l',e,rfl⟩:=Option.map_eq_some_iff.1 h
    obtain ⟨p',q',o',e1,e2⟩:=i1 l' e
    exact ⟨p',q',o',e1,by rw [e2,List.append_assoc];rfl⟩
   exact i2 (by cases hm:mg pl f (x::p) q with
    | none=>rfl
    | some l=>rw [hm] at h;cases h)
  rw [if_neg h2]
  have hs:=H3 x p y q out (hp x (.head _)) (hq y (.head _)) (by omega) (by omega) lx ly
  cases hz:f x y with
  | none =>
   rw [hz] at hs
   exact ⟨fun l h=>(by cases h),fun _=>Z3 hs⟩
  | some z =>
   rw [hz] at hs
   simp only at hs ⊢
   rw [Yo hs]
   obtain ⟨i1,i2⟩:=Zvm B H0 H1 H2 H3 n p q (out++[z]) (by omega) (fun z hz=>hp z (.tail _ hz)) (fun z hz=>hq z (.tail _ hz)) (by simp only [List.length_append,List.length_singleton];omega)
   refine ⟨fun l h => ?_,fun h => ?_⟩
   ·obtain ⟨l',e,rfl⟩:=Option.map_eq_some_iff.1 h
    obtain ⟨p',q',o',e1,e2⟩:=i1 l' e
    exact ⟨p',q',o',e1,by rw [e2,List.append_assoc];rfl⟩
   exact i2 (by cases hm:mg pl f p q with
    | none=>rfl
    | some l=>rw [hm] at h;cases h)
theorem Z0b {α:Type} {pl:α→Int} {f:α→α→Option α}:∀ (n:Nat) (p q l:List α),p.length+q.length≤n→mg pl f p q=some l→l.length≤p.length+q.length
 | n,[],q,l,hn,h=>by rw [mg] at h;injection h with h;subst h;simp
 | n,x::p,[],l,hn,h=>by rw [mg] at h;injection h with h;subst h;simp
 | 0,x::p,y::q,l,hn,h=>by simp at hn
 | n+1,x::p,y::q,l,hn,h=>by
  simp only [List.length_cons] at hn ⊢
  rw [mg] at h
  split at h
  ·obtain ⟨l',e,rfl⟩:=Option.map_eq_some_iff.1 h
   have:=Z0b n p (y::q) l' (by simp only [List.length_cons];omega) e
   simp only [List.length_cons] at this ⊢
   omega
  split at h
  ·obtain ⟨l',e,rfl⟩:=Option.map_eq_some_iff.1 h
   have:=Z0b n (x::p) q l' (by simp only [List.length_cons];omega) e
   simp only [List.length_cons] at this ⊢
   omega
  split at h
  ·cases h
  obtain ⟨l',e,rfl⟩:=Option.map_eq_some_iff.1 h
  have:=Z0b n p q l' (by omega) e
  simp only [List.length_cons]
  omega
theorem Zks {α:Type} {x:α} {p:List α} (h:((x::p).length:Int)≤140737488355328):Zcz (x::p) 1 ((x::p).length:Int)=some p:=by
 rw [Zjh (by omega) (by rw [List.length_cons];omega) (Int.le_refl _)]
 simp
def fW (x y:WE):Option WE:=if agW x y=true then some (mkW x y) else none
theorem Zgu {α:Type} (x:α) (p:List α):decide (0 < ((x::p).length:Int))=true:=by rw [decide_eq_true_eq,List.length_cons];omega
theorem Z8v {P Q:List WE} (hP:∀ w∈P,Zrq w) (hQ:∀ w∈Q,Zrq w) (lP:P.length≤1000000) (lQ:Q.length≤1000000) :
  Xs P Q=some (match mg (·.At) fW P Q with | some l=>(l,true) | none=>([],false)):=by
 have g0:∀ (x:WE) (p:List WE),Xk (x::p) 0=some x:=fun x p=>Yr (i:=0) rfl
 have ap:∀ (out l:List WE),out.length+l.length≤6000000→Zam 32 out l=some (out++l):=fun out l h=>G5 (by omega) (by omega)
 obtain ⟨h1,h2⟩:=Zvm (pl:=fun w:WE=>w.At) (f:=fW) (P:=P) (Q:=Q) (step:=Ys) 2000000
  (fun p q out h=>by
   unfold Ys
   simp only
   rcases h with rfl | rfl
   ·rfl
   cases p <;> simp)
  (fun x p y q out h b1 b2 b3=>by
   unfold Ys Xx
   simp only
   rw [Zgu,Zgu,cond_true,cond_true,g0,Option.bind_some,Option.bind_some,g0,Option.bind_some,Option.bind_some,decide_eq_true h,cond_true,Option.bind_some,Zks (by omega),Option.bind_some,ap _ _ (by simp only [List.length_singleton];omega)]
   rfl)
  (fun x p y q out h b1 b2 b3=>by
   unfold Ys Xx
   simp only
   rw [Zgu,Zgu,cond_true,cond_true,g0,Option.bind_some,Option.bind_some,g0,Option.bind_some,Option.bind_some,decide_eq_false (show ¬ x.At < y.At by omega),cond_false,Option.bind_some,Option.bind_some,Option.bind_some,Option.bind_some,decide_eq_true h,cond_true,Option.bind_some,Zks (by omega),Option.bind_some,ap _ _ (by simp only [List.length_singleton];omega)]
   rfl)
  (fun x p y q out hx hy h b1 b2 b3=>by
   unfold Ys Xx
   simp only
   rw [Zgu,Zgu,cond_true,cond_true,g0,Option.bind_some,Option.bind_some,g0,Option.bind_some,Option.bind_some,decide_eq_false (show ¬ x.At < y.At by omega),cond_false,Option.bind_some,Option.bind_some,Option.bind_some,Option.bind_some,decide_eq_false (show ¬ y.At < x.At by omega),cond_false,Option.bind_some,Option.bind_some,Yb4 (hP x hx) (hQ y hy),Option.bind_some]
   unfold fW
   by_cases q:agW x y=true
   ·rw [if_pos q,if_pos q]
    simp only [Bool.not_true,cond_false]
    rw [Zks (by omega),Option.bind_some,Zks (by omega),Option.bind_some,ap _ _ (by simp only [List.length_singleton];omega)]
    rfl
   rw [if_neg q,if_neg q]
   rfl)
  (P.length+Q.length) P Q [] (Nat.le_refl _) (fun _ h=>h) (fun _ h=>h) (by simp only [List.length_nil];omega)
 unfold Xs
 cases hm:mg (fun w:WE=>w.At) fW P Q with
 | none=>rw [h2 hm];rfl
 | some l =>
  obtain ⟨p',q',o',e1,e2⟩:=h1 l hm
  have hl:=Z0b _ P Q l (Nat.le_refl _) hm
  rw [List.nil_append] at e2
  have hle:=congrArg List.length e2
  simp only [List.length_append] at hle
  rw [e1,Option.bind_some]
  simp only
  rw [ap _ _ (by omega),Option.bind_some,ap _ _ (by simp only [List.length_append];omega),Option.bind_some,e2]
abbrev KE:=S_api_KidEdit
theorem Z8u {F:KE→KE→Option (KE×Bool)} {r1 r2 r3:Ed→Ed→Option (Ed×Bool)} {r4:List KE→List KE→Option (List KE×Bool)} {r6:Pc→Option (List EO×Bool)} {f:KE→KE→Option KE} {P Q:List KE} (hF:∀ x∈P,∀ y∈Q,x.At=y.At→∃ z b,F x y=some (z,b)∧f x y=if b=true then some z else none) (lP:P.length≤250000) (lQ:Q.length≤250000) :
  Xw r1 r2 r3 r4 F r6 P Q=some (match mg (·.At) f P Q with | some l=>(l,true) | none=>([],false)):=by
 have g0:∀ (x:KE) (p:List KE),Xk (x::p) 0=some x:=fun x p=>Yr (i:=0) rfl
 have ap:∀ (out l:List KE),out.length+l.length≤1500000→Zam 208 out l=some (out++l):=fun out l h=>G5 (by omega) (by omega)
 obtain ⟨h1,h2⟩:=Zvm (pl:=fun w:KE=>w.At) (f:=f) (P:=P) (Q:=Q) (step:=Yv F) 500000
  (fun p q out h=>by
   unfold Yv
   simp only
   rcases h with rfl | rfl
   ·rfl
   cases p <;> simp)
  (fun x p y q out h b1 b2 b3=>by
   unfold Yv Xy
   simp only
   rw [Zgu,Zgu,cond_true,cond_true,g0,Option.bind_some,Option.bind_some,g0,Option.bind_some,Option.bind_some,decide_eq_true h,cond_true,Option.bind_some,Zks (by omega),Option.bind_some,ap _ _ (by simp only [List.length_singleton];omega)]
   rfl)
  (fun x p y q out h b1 b2 b3=>by
   unfold Yv Xy
   simp only
   rw [Zgu,Zgu,cond_true,cond_true,g0,Option.bind_some,Option.bind_some,g0,Option.bind_some,Option.bind_some,decide_eq_false (show ¬ x.At < y.At by omega),cond_false,Option.bind_some,Option.bind_some,Option.bind_some,Option.bind_some,decide_eq_true h,cond_true,Option.bind_some,Zks (by omega),Option.bind_some,ap _ _ (by simp only [List.length_singleton];omega)]
   rfl)
  (fun x p y q out hx hy h b1 b2 b3=>by
   obtain ⟨z,b,e1,e2⟩:=hF x hx y hy h
   unfold Yv Xy
   simp only
   rw [Zgu,Zgu,cond_true,cond_true,g0,Option.bind_some,Option.bind_some,g0,Option.bind_some,Option.bind_some,decide_eq_false (show ¬ x.At < y.At by omega),cond_false,Option.bind_some,Option.bind_some,Option.bind_some,Option.bind_some,decide_eq_false (show ¬ y.At < x.At by omega),cond_false,Option.bind_some,Option.bind_some,e1,Option.bind_some,e2]
   cases b with
   | true =>
    simp only [Bool.not_true,cond_false,if_true]
    rw [Zks (by omega),Option.bind_some,Zks (by omega),Option.bind_some,ap _ _ (by simp only [List.length_singleton];omega)]
    rfl
   | false=>rfl)
  (P.length+Q.length) P Q [] (Nat.le_refl _) (fun _ h=>h) (fun _ h=>h) (by simp only [List.length_nil];omega)
 unfold Xw
 cases hm:mg (fun w:KE=>w.At) f P Q with
 | none=>rw [h2 hm];rfl
 | some l =>
  obtain ⟨p',q',o',e1,e2⟩:=h1 l hm
  have hl:=Z0b _ P Q l (Nat.le_refl _) hm
  rw [List.nil_append] at e2
  have hle:=congrArg List.length e2
  simp only [List.length_append] at hle
  rw [e1,Option.bind_some]
  simp only
  rw [ap _ _ (by omega),Option.bind_some,ap _ _ (by simp only [List.length_append];omega),Option.bind_some,e2]
def EF (e p q:Ed):Prop:=∀ t,GT t→ap e t=(ap p t).bind (ap q)
def NE (p q:Ed):Prop:=∀ t,GT t→(ap p t).bind (ap q)=none
def stW (ws:List WE) (j:Nat) (x:Int):Option Int:=match fd (·.At) ws j with
 | none=>some x
 | some w=>if cW x w=true then some (Zlr x w) else none
def stK (ks:List KE) (j:Nat) (x:Tr):Option Tr:=match fd (·.At) ks j with
 | none=>some x
 | some k=>ap k.E x
theorem Z6y {α:Type} {pl:α→Int} {l:List α} (h:l.Pairwise (fun a b=>(pl a).toNat≠(pl b).toNat)) {w:α} (hw:w∈l):fd pl l (pl w).toNat=some w:=by
 cases hf:fd pl l (pl w).toNat with
 | none =>
  unfold fd at hf
  have:=List.find?_eq_none.1 hf w hw
  simp at this
 | some x =>
  obtain ⟨h1,h2⟩:=Zgx hf
  rw [Zwy (f:=fun a=>(pl a).toNat) h x h1 w hw h2]
theorem Ycv {o:List Int} {ws:List WE} (h:ws.Pairwise (fun a b=>a.At.toNat≠b.At.toNat)) (q:∀ j,stW ws j (V8 0 o j)≠none):Z06 o ws:=fun w hw=>by
 have:=q w.At.toNat
 unfold stW at this
 rw [Z6y (pl:=fun w:WE=>w.At) h hw] at this
 simp only at this
 exact Classical.byContradiction fun c=>this (by rw [if_neg c])
theorem Yel {o:List Int} {ws:List WE} (q:Z06 o ws) (j:Nat):stW ws j (V8 0 o j)=some (upW o ws (V8 0 o) j):=by
 unfold stW upW fd
 cases hf:ws.find? (fun w=>w.At.toNat == j) with
 | none=>rfl
 | some w =>
  have h2:=List.find?_some hf
  rw [beq_iff_eq] at h2
  have:=q w (List.mem_of_find?_eq_some hf)
  rw [h2] at this
  simp only
  rw [if_pos this]
theorem Ydv (ks:List KE) (j:Nat):(apK ks).find? (fun k=>k.1 == j)=(fd (·.At) ks j).map fun k=>(k.At.toNat,ap k.E):=by
 unfold apK fd
 rw [List.find?_map]
 rfl
theorem Ycu {o:List Tr} {ks:List KE} (h:ks.Pairwise (fun a b=>a.At.toNat≠b.At.toNat)) (q:∀ j,stK ks j (V8 Jd o j)≠none):Z8w o (apK ks):=fun w hw=>by
 obtain ⟨k,hk,rfl⟩:=List.mem_map.1 hw
 have:=q k.At.toNat
 unfold stK at this
 rw [Z6y (pl:=fun w:KE=>w.At) h hk] at this
 simp only at this ⊢
 exact Option.isSome_iff_ne_none.2 this
theorem Yej {o:List Tr} {ks:List KE} (q:Z8w o (apK ks)) (j:Nat):stK ks j (V8 Jd o j)=some (upK o (apK ks) (V8 Jd o) j):=by
 unfold stK upK
 rw [Ydv]
 cases hf:fd (fun k:KE=>k.At) ks j with
 | none=>rfl
 | some k =>
  obtain ⟨h1,h2⟩:=Zgx hf
  have:=q (k.At.toNat,ap k.E) (List.mem_map.2 ⟨k,h1,rfl⟩)
  simp only at this
  rw [h2] at this
  obtain ⟨u,hu⟩:=Option.isSome_iff_exists.1 this
  simp only [Option.map_some]
  rw [hu]
  rfl
theorem Zqo {e:Ed} {t:Tr} (k2:e.Kind=2) (hz:RZ e) (hb:BE e) (gt:GT t) (k1:t.Kind=1) :
  (∃ u,ap e t=some u∧GT u∧u.Kind=1∧(∀ j,stW e.Words j (V8 0 t.Words j)=some (V8 0 u.Words j))∧∀ j,stK e.Kids j (V8 Jd t.Kids j)=some (V8 Jd u.Kids j)) ∨
  (ap e t=none∧((∃ j,stW e.Words j (V8 0 t.Words j)=none)∨∃ j,stK e.Kids j (V8 Jd t.Kids j)=none)):=by
 have hz':=hz
 cases hz with
 | same _ k=>omega
 | repl _ k=>omega
 | li _ k=>omega
 | st _ _ hw hw2 hk hk2 ih =>
  have nw:=Ztq hw hw2
  have nk:=Ztq hk hk2
  have e0:ap e t=(rnW t.Words e.Words t.Words).bind fun ws=>(rnK t.Kids (apK e.Kids) t.Kids).bind fun ks=>some ⟨1,tr p0 ws,tr pT ks⟩:=by
   rw [Zcj,if_neg (by omega),if_neg (by omega),if_pos k2,if_pos k1]
  have hnt:∀ w∈apK e.Kids,∀ v,w.2 (V8 Jd t.Kids w.1)=some v→NT v:=fun w hwm v hv=>by
   obtain ⟨k,hkm,rfl⟩:=List.mem_map.1 hwm
   exact (Zu3 _ k.E _ v (Nat.lt_succ_self _) (ih k hkm) (hb.ks k hkm) (gt.at_ _) hv).1.n
  obtain ⟨s1,s2⟩:=Zmx t.Words e.Words t.Words nw
  obtain ⟨r1,r2⟩:=Zr6 t.Kids (apK e.Kids) t.Kids (List.pairwise_map.2 nk) hnt
  by_cases okw:Z06 t.Words e.Words
  ·by_cases okk:Z8w t.Kids (apK e.Kids)
   ·obtain ⟨ws,f1,f2⟩:=s1 okw
    obtain ⟨ks,g1,g2⟩:=r1 okk
    have hm:=Ztr t.Kids NT NT.z (apK e.Kids) t.Kids ks hnt gt.n.kids g1
    rw [f1,Option.bind_some,g1,Option.bind_some] at e0
    refine .inl ⟨_,e0,(Zu3 _ e t _ (Nat.lt_succ_self _) hz' hb gt e0).1,rfl,fun j => ?_,fun j => ?_⟩
    ·rw [Yel okw]
     simp only
     rw [Zv8 ws fun x _ hx=>Z1d hx,f2 j]
    rw [Yej okk]
    simp only
    rw [Zv8 ks fun x hx hp=>(hm x hx).null hp,g2 j]
   refine .inr ⟨?_,.inr (Classical.byContradiction fun c=>okk (Ycu nk fun j h=>c ⟨j,h⟩))⟩
   rw [e0,r2 okk]
   cases rnW t.Words e.Words t.Words <;> rfl
  refine .inr ⟨?_,.inl (Classical.byContradiction fun c=>okw (Ycv nw fun j h=>c ⟨j,h⟩))⟩
  rw [e0,s2 okw]
  rfl
theorem Yem {t u:Tr} (ht:NT t) (hu:NT u) (k1:t.Kind=1) (k2:u.Kind=1) (hw:∀ j,V8 0 t.Words j=V8 0 u.Words j) (hk:∀ j,V8 Jd t.Kids j=V8 Jd u.Kids j):t=u:=by
 have h1:=Z5b hu k2 hw
 have h2:=Z74 hu k2 ht.kids hk
 rw [(ht.words k1).1] at h1
 rw [(ht.words k1).2] at h2
 obtain ⟨a,b,c⟩:=t
 obtain ⟨a',b',c'⟩:=u
 simp only at h1 h2 k1 k2
 rw [h1,h2,k1,k2]
theorem Zy8 {e:Ed} {t:Tr} (k2:e.Kind=2) (k1:¬ t.Kind=1):ap e t=none:=by rw [Zcj,if_neg (by omega),if_neg (by omega),if_pos k2,if_neg k1]
theorem GT.w {t:Tr} (h:GT t) (j:Nat):0≤V8 0 t.Words j∧V8 0 t.Words j < 18446744073709551616:=Z5r h.g.u j
theorem Z8k {e p q:Ed} (ke:e.Kind=2) (kp:p.Kind=2) (kq:q.Kind=2) (ze:RZ e) (zp:RZ p) (zq:RZ q) (be:BE e) (bp:BE p) (bq:BE q)
  (hW:∀ j x,0≤x∧x < 18446744073709551616→stW e.Words j x=(stW p.Words j x).bind (stW q.Words j)) (hK:∀ j x,GT x→stK e.Kids j x=(stK p.Kids j x).bind (stK q.Kids j)):EF e p q:=fun t gt=>by
 by_cases k1:t.Kind=1
 ·rcases Zqo kp zp bp gt k1 with ⟨v,p1,p2,p3,p4,p5⟩ | ⟨p1,p2⟩
  ·have W:∀ j,stW e.Words j (V8 0 t.Words j)=stW q.Words j (V8 0 v.Words j):=fun j=>by rw [hW j _ (gt.w j),p4 j];rfl
   have K:∀ j,stK e.Kids j (V8 Jd t.Kids j)=stK q.Kids j (V8 Jd v.Kids j):=fun j=>by rw [hK j _ (gt.at_ j),p5 j];rfl
   rw [p1,Option.bind_some]
   rcases Zqo ke ze be gt k1 with ⟨u,e1,e2,e3,e4,e5⟩ | ⟨e1,e2⟩
   ·rcases Zqo kq zq bq p2 p3 with ⟨w,q1,q2,q3,q4,q5⟩ | ⟨q1,q2⟩
    ·rw [e1,q1,Yem e2.n q2.n e3 q3 (fun j=>Option.some.inj (by rw [← e4 j,W j,q4 j])) fun j=>Option.some.inj (by rw [← e5 j,K j,q5 j])]
    rcases q2 with ⟨j,h⟩ | ⟨j,h⟩
    ·have:=e4 j
     rw [W j,h] at this
     cases this
    have:=e5 j
    rw [K j,h] at this
    cases this
   rcases Zqo kq zq bq p2 p3 with ⟨w,q1,q2,q3,q4,q5⟩ | ⟨q1,q2⟩
   ·rcases e2 with ⟨j,h⟩ | ⟨j,h⟩
    ·rw [W j,q4 j] at h
     cases h
    rw [K j,q5 j] at h
    cases h
   rw [e1,q1]
  rw [p1,Option.bind_none]
  rcases Zqo ke ze be gt k1 with ⟨u,e1,e2,e3,e4,e5⟩ | ⟨e1,e2⟩
  ·rcases p2 with ⟨j,h⟩ | ⟨j,h⟩
   ·have:=e4 j
    rw [hW j _ (gt.w j),h] at this
    cases this
   have:=e5 j
   rw [hK j _ (gt.at_ j),h] at this
   cases this
  exact e1
 rw [Zy8 ke k1,Zy8 kp k1]
 rfl
theorem Z1w {p q:Ed} (kp:p.Kind=2) (kq:q.Kind=2) (zp:RZ p) (zq:RZ q) (bp:BE p) (bq:BE q)
  (h:(∃ j,∀ x,0≤x∧x < 18446744073709551616→(stW p.Words j x).bind (stW q.Words j)=none)∨∃ j,∀ x,GT x→(stK p.Kids j x).bind (stK q.Kids j)=none):NE p q:=fun t gt=>by
 by_cases k1:t.Kind=1
 ·rcases Zqo kp zp bp gt k1 with ⟨v,p1,p2,p3,p4,p5⟩ | ⟨p1,p2⟩
  ·rw [p1,Option.bind_some]
   rcases Zqo kq zq bq p2 p3 with ⟨w,q1,q2,q3,q4,q5⟩ | ⟨q1,q2⟩
   ·rcases h with ⟨j,h⟩ | ⟨j,h⟩
    ·have:=h _ (gt.w j)
     rw [p4 j,Option.bind_some,q4 j] at this
     cases this
    have:=h _ (gt.at_ j)
    rw [p5 j,Option.bind_some,q5 j] at this
    cases this
   exact q1
  rw [p1];rfl
 rw [Zy8 kp k1]
 rfl
theorem Z0a {α:Type} {pl:α→Int} {f:α→α→Option α}:∀ (n:Nat) (p q l:List α),p.length+q.length≤n→Rise pl p→Rise pl q→mg pl f p q=some l→∀ x∈p,∀ y∈q,pl x=pl y→(f x y).isSome=true
 | n,[],q,l,hn,hp,hq,h=>fun x hx=>by cases hx
 | n,a::p,[],l,hn,hp,hq,h=>fun x hx y hy=>by cases hy
 | 0,a::p,b::q,l,hn,hp,hq,h=>by simp at hn
 | n+1,a::p,b::q,l,hn,hp,hq,h=>by
  simp only [List.length_cons] at hn
  have hpx:=(List.pairwise_cons.1 hp.1).1
  have hqy:=(List.pairwise_cons.1 hq.1).1
  rw [mg] at h
  intro x hx y hy hxy
  split at h
  ·obtain ⟨l',e,rfl⟩:=Option.map_eq_some_iff.1 h
   rcases List.mem_cons.1 hx with rfl | hx
   ·rcases List.mem_cons.1 hy with rfl | hy
    ·omega
    have:=hqy y hy;omega
   exact Z0a n p (b::q) l' (by simp only [List.length_cons];omega) hp.tail hq e x hx y hy hxy
  split at h
  ·obtain ⟨l',e,rfl⟩:=Option.map_eq_some_iff.1 h
   rcases List.mem_cons.1 hy with rfl | hy
   ·rcases List.mem_cons.1 hx with rfl | hx
    ·omega
    have:=hpx x hx;omega
   exact Z0a n (a::p) q l' (by simp only [List.length_cons];omega) hp hq.tail e x hx y hy hxy
  split at h
  ·cases h
  rename_i z hz
  obtain ⟨l',e,rfl⟩:=Option.map_eq_some_iff.1 h
  rcases List.mem_cons.1 hx with rfl | hx
  ·rcases List.mem_cons.1 hy with rfl | hy
   ·rw [hz];rfl
   have:=hqy y hy;omega
  rcases List.mem_cons.1 hy with rfl | hy
  ·have:=hpx x hx;omega
  exact Z0a n p q l' (by omega) hp.tail hq.tail e x hx y hy hxy
theorem Z9t (x y z:WE) (h:fW x y=some z):z.At=x.At:=by
 unfold fW at h
 split at h
 ·injection h with h
  rw [← h]
  rfl
 cases h
theorem Z9u {α:Type} {pl:α→Int} {p q:List α} (hp:Rise pl p) (hq:Rise pl q) {j:Nat} {x y:α} (h1:fd pl p j=some x) (h2:fd pl q j=some y):pl x=pl y:=by
 have a:=Zgx h1
 have b:=Zgx h2
 have:=hp.2 x a.1
 have:=hq.2 y b.1
 omega
theorem Ybo {p q l:List WE} (hP:∀ w∈p,Zrq w) (hQ:∀ w∈q,Zrq w) (rp:Rise (·.At) p) (rq:Rise (·.At) q) (h:mg (·.At) fW p q=some l) (j:Nat) (x:Int) (hx:0≤x∧x < 18446744073709551616):stW l j x=(stW p j x).bind (stW q j):=by
 have hs:=((Zl3 (pl:=fun w:WE=>w.At) Z9t _ p q (Nat.le_refl _) rp rq).1 l h).2.2.2.2 j
 unfold stW
 rw [hs]
 cases h1:fd (fun w:WE=>w.At) p j with
 | none=>rfl
 | some w =>
  cases h2:fd (fun w:WE=>w.At) q j with
  | none =>
   simp only [Z9l]
   cases cW x w <;> rfl
  | some w' =>
   have m1:=Zgx h1
   have m2:=Zgx h2
   have:=Z0a _ p q l (Nat.le_refl _) rp rq h w m1.1 w' m2.1 (Z9u rp rq h1 h2)
   simp only [Z9l]
   obtain ⟨t1,t2⟩:=Z5i (hP w m1.1) (hQ w' m2.1) hx
   have ag:agW w w'=true:=by
    unfold fW at this
    split at this
    ·assumption
    cases this
   unfold fW
   rw [if_pos ag]
   simp only
   by_cases c:cW x (mkW w w')=true
   ·obtain ⟨c1,c2⟩:=t1.2 ⟨ag,c⟩
    rw [if_pos c,if_pos c1,Option.bind_some,if_pos c2,t2]
   rw [if_neg c]
   by_cases c1:cW x w=true
   ·rw [if_pos c1,Option.bind_some,if_neg fun c2=>c (t1.1 ⟨c1,c2⟩).2]
   rw [if_neg c1]
   rfl
theorem Ybp {p q:List WE} (hP:∀ w∈p,Zrq w) (hQ:∀ w∈q,Zrq w) (rp:Rise (·.At) p) (rq:Rise (·.At) q) (h:mg (·.At) fW p q=none):∃ j,∀ x,0≤x∧x < 18446744073709551616→(stW p j x).bind (stW q j)=none:=by
 obtain ⟨j,w,w',h1,h2,h3⟩:=(Zl3 (pl:=fun w:WE=>w.At) Z9t _ p q (Nat.le_refl _) rp rq).2 h
 refine ⟨j,fun x hx => ?_⟩
 have m1:=Zgx h1
 have m2:=Zgx h2
 obtain ⟨t1,_⟩:=Z5i (hP w m1.1) (hQ w' m2.1) hx
 unfold stW
 rw [h1,h2]
 simp only
 by_cases c1:cW x w=true
 ·rw [if_pos c1,Option.bind_some,if_neg fun c2 => ?_]
  have:=(t1.1 ⟨c1,c2⟩).1
  unfold fW at h3
  rw [if_pos this] at h3
  cases h3
 rw [if_neg c1]
 rfl
theorem Yce {f:KE→KE→Option KE} {p q l:List KE} (hf:∀ x y z,f x y=some z→z.At=x.At) (rp:Rise (·.At) p) (rq:Rise (·.At) q) (hd:∀ x∈p,∀ y∈q,x.At=y.At→∀ z,f x y=some z→EF z.E x.E y.E) (h:mg (·.At) f p q=some l) (j:Nat) (x:Tr) (hx:GT x):stK l j x=(stK p j x).bind (stK q j):=by
 have hs:=((Zl3 (pl:=fun w:KE=>w.At) hf _ p q (Nat.le_refl _) rp rq).1 l h).2.2.2.2 j
 unfold stK
 rw [hs]
 cases h1:fd (fun w:KE=>w.At) p j with
 | none=>rfl
 | some w =>
  cases h2:fd (fun w:KE=>w.At) q j with
  | none =>
   simp only [Z9l]
   cases ap w.E x <;> rfl
  | some w' =>
   have m1:=Zgx h1
   have m2:=Zgx h2
   have ht:=Z9u rp rq h1 h2
   have:=Z0a _ p q l (Nat.le_refl _) rp rq h w m1.1 w' m2.1 ht
   obtain ⟨z,hz⟩:=Option.isSome_iff_exists.1 this
   simp only [Z9l]
   rw [hz]
   exact hd w m1.1 w' m2.1 ht z hz x hx
theorem Ycf {f:KE→KE→Option KE} {p q:List KE} (hf:∀ x y z,f x y=some z→z.At=x.At) (rp:Rise (·.At) p) (rq:Rise (·.At) q) (hd:∀ x∈p,∀ y∈q,x.At=y.At→f x y=none→NE x.E y.E) (h:mg (·.At) f p q=none):∃ j,∀ x,GT x→(stK p j x).bind (stK q j)=none:=by
 obtain ⟨j,w,w',h1,h2,h3⟩:=(Zl3 (pl:=fun w:KE=>w.At) hf _ p q (Nat.le_refl _) rp rq).2 h
 refine ⟨j,fun x hx => ?_⟩
 unfold stK
 rw [h1,h2]
 exact hd w (Zgx h1).1 w' (Zgx h2).1 (Z9u rp rq h1 h2) h3 x hx
theorem D9.tE {e:Ed} (h:D9 e):D9 (tE e):=by
 rw [Zi0]
 rcases h with h | ⟨h,h1,h2⟩
 ·exact .inl h
 exact .inr ⟨h,h2,h1⟩
theorem RZ.tE {e:Ed} (hx:RZ e):RZ (tE e):=by
 induction hx with
 | same e h=>rw [Zi0];exact .same _ h
 | repl e h ho hn=>rw [Zi0];exact .repl _ h hn ho
 | st e h hw hw2 hk hk2 ih ih2 =>
  rw [Zi0]
  refine .st _ h ?_ (fun w hw' => ?_) ?_ (fun k hk' => ?_) (fun k hk' => ?_)
  ·rw [List.pairwise_map];exact hw
  ·obtain ⟨x,hx,rfl⟩:=List.mem_map.1 hw'
   exact hw2 x hx
  ·rw [List.pairwise_map];exact hk
  ·obtain ⟨x,hx,rfl⟩:=List.mem_map.1 hk'
   exact hk2 x hx
  obtain ⟨x,hx,rfl⟩:=List.mem_map.1 hk'
  exact ih2 x hx
 | li e h hl ho hN hT h9 ih ih2 =>
  rw [Zi0]
  refine .li _ h hl (fun o hom => ?_) (fun o hom => ?_) (fun o hom => ?_) (fun o hom => ?_) (fun o hom => ?_) <;> obtain ⟨x,hx,rfl⟩:=List.mem_map.1 hom
  ·exact Z57 (ho x hx)
  ·intro q;rw [Ybc];exact hN x hx ((Zv6 (ho x hx)).1 q)
  ·rw [Ybc];exact hT x hx
  ·intro q q9
   have k3:=(Zv6 (ho x hx)).2 q
   rw [Z0x k3]
   exact (h9 x hx k3 q9).tE
  intro q
  have k3:=(Zv6 (ho x hx)).2 q
  rw [Z0x k3]
  exact ih2 x hx k3
inductive LM:Ed→Prop
 | mk (e:Ed) (hw:e.Words.length≤250000) (hk:e.Kids.length≤250000) (ho:e.Ops.length≤250000) (hs:Qb e.Ops≤4000000) (ik:∀ k∈e.Kids,LM k.E) (io:∀ o∈e.Ops,LM o.E):LM e
theorem LM.w {e:Ed} (h:LM e):e.Words.length≤250000:=by cases h;assumption
theorem LM.k {e:Ed} (h:LM e):e.Kids.length≤250000:=by cases h;assumption
theorem LM.o {e:Ed} (h:LM e):e.Ops.length≤250000:=by cases h;assumption
theorem LM.s {e:Ed} (h:LM e):Qb e.Ops≤4000000:=by cases h;assumption
theorem LM.ks {e:Ed} (h:LM e):∀ k∈e.Kids,LM k.E:=by cases h;assumption
theorem LM.os {e:Ed} (h:LM e):∀ o∈e.Ops,LM o.E:=by cases h;assumption
structure MC (e:Ed):Prop where
 z:RZ e
 b:BE e
 g:GN e
 s:ST e
 m:LM e
theorem MC.ca {e:Ed} (h:MC e) {t:Tr} (ht:Bd t) (hp:pt t≤1000000):CA e t:=⟨h.z.rx,h.b,h.g,hp,ht⟩
theorem RZ.kid {e:Ed} (h:RZ e) (k2:e.Kind=2):∀ k∈e.Kids,RZ k.E:=by
 cases h with
 | st _ _ _ _ _ _ ih=>exact ih
 | same _ k=>omega
 | repl _ k=>omega
 | li _ k=>omega
theorem RZ.op {e:Ed} (h:RZ e) (k3:e.Kind=3):∀ o∈e.Ops,o.Kind=3→RZ o.E:=by
 cases h with
 | li _ _ _ _ _ _ _ ih=>exact ih
 | same _ k=>omega
 | repl _ k=>omega
 | st _ k=>omega
theorem MC.kid {e:Ed} (h:MC e) (k2:e.Kind=2):∀ k∈e.Kids,MC k.E:=fun k hk=>⟨h.z.kid k2 k hk,h.b.ks k hk,h.g.ks k hk,h.s.ks k hk,h.m.ks k hk⟩
theorem MC.op {e:Ed} (h:MC e) (k3:e.Kind=3):∀ o∈e.Ops,o.Kind=3→MC o.E:=fun o ho k=>⟨h.z.op k3 o ho k,h.b.os o ho,h.g.os o ho,h.s.os o ho,h.m.os o ho⟩
structure RS (e p q:Ed):Prop where
 z:RZ e
 b:BE e
 g:GN e
 d:D9 p→D9 q→D9 e
 f:EF e p q
def CMP (p q:Ed) (r:Option (Ed×Bool)):Prop:=∃ e b,r=some (e,b)∧(b=true→RS e p q)∧(b=false→NE p q)
theorem Yde {e:Ed} (k:e.Kind=0) (t:Tr):ap e t=some t:=by rw [Zcj,if_pos k]
theorem Zzd {e:Ed} (k:e.Kind=1) (t:Tr):ap e t=if t=nrm e.Old then some (nrm e.New) else none:=by rw [Zcj,if_neg (by omega),if_pos k]
theorem Z6p {a b:Tr} (ha:Bd a) (hb:Bd b):BE ⟨1,a,b,[],[],0,[]⟩ := .mk _ ha hb (by simp) (by simp) (by simp) (by simp) (by simp) (by simp) (by simp)
theorem Z66 {a b:Tr}:GN ⟨1,a,b,[],[],0,[]⟩ := .mk _ (by simp) (by simp) (by simp) (by simp [Qb]) (by simp) (by simp) (by simp)
theorem RZ.tr {e:Ed} (h:RZ e) (k1:e.Kind=1):TX e.Old∧TX e.New:=by
 cases h with
 | repl _ _ ho hn=>exact ⟨ho,hn⟩
 | same _ k=>omega
 | st _ k=>omega
 | li _ k=>omega
theorem Z9g {e:Ed} (h:MC e) {t:Tr} (ht:Bd t) (hx:TX t) (hp:pt t≤1000000) :
  (∃ u,Xq e t=some (u,true)∧ap e (nrm t)=some u∧GT u∧Bd u∧(D9 e→u.Kind=1))∨(Xq e t=some (Jd,false)∧ap e (nrm t)=none):=by
 have ca:=h.ca ht hp
 rw [Zq9 ca]
 cases hu:ap e (nrm t) with
 | none=>exact .inr ⟨rfl,rfl⟩
 | some u =>
  obtain ⟨g1,g2⟩:=Zu3 _ e _ u (Nat.lt_succ_self _) h.z h.b (GT.of ht hx) hu
  exact .inl ⟨u,rfl,rfl,g1,Zzf ca hu,g2⟩
theorem Z3t {e:Ed} (h:MC e) {t:Tr} (ht:Bd t) (hx:TX t) (hp:pt t≤1000000) :
  (∃ u,((Jg e).bind fun y=>Xq y t)=some (u,true)∧GT u∧Bd u∧(D9 e→u.Kind=1)∧∀ x,GT x→(ap e x=some (nrm t)↔x=u))∨(((Jg e).bind fun y=>Xq y t)=some (Jd,false)∧∀ x,GT x→ap e x≠some (nrm t)):=by
 have bT:=h.b.tE h.g
 have gT:=GN.tE h.b h.g
 have zT:=h.z.tE
 have hg:=GT.of ht hx
 have ca:CA (nE (tE e)) t:=⟨zT.rx.nE bT gT,bT.nE gT,GN.nE bT gT,hp,ht⟩
 have hn:=Z6n _ (tE e) (nrm t) (Nat.lt_succ_self _) zT.rx hg.n hg.x
 rw [Z1r h.b h.g,Option.bind_some,Zq9 ca]
 have back:∀ x,GT x→ap e x=some (nrm t)→ap (tE e) (nrm t)=some x:=fun x gx hx=>(Zwb _ e x _ (Nat.lt_succ_self _) h.z.rx h.b gx.n gx.g gx.x hx).2.2
 rw [hn]
 cases hu:ap (tE e) (nrm t) with
 | none=>exact .inr ⟨rfl,fun x gx q=>by rw [back x gx q] at hu;cases hu⟩
 | some u =>
  obtain ⟨g1,g2⟩:=Zu3 _ (tE e) _ u (Nat.lt_succ_self _) zT bT hg hu
  refine .inl ⟨u,rfl,g1,Zzf ca (by rw [hn];exact hu),fun d=>g2 d.tE,fun x gx=>⟨fun q => ?_,fun q => ?_⟩⟩
  ·have:=back x gx q
   rw [hu] at this
   injection this with this
   exact this.symm
  have:=(Zwb _ (tE e) (nrm t) u (Nat.lt_succ_self _) zT.rx bT hg.n hg.g hg.x hu).2.2
  rw [Yfd] at this
  rw [q]
  exact this
theorem Yco {p q:Ed} (hp:MC p) (hq:MC q) (k:p.Kind=1):CMP p q ((Xq q p.New).bind fun y2=>some ((⟨1,p.Old,y2.1,[],[],0,[]⟩:S_api_Edit),y2.2)):=by
 obtain ⟨xo,xn⟩:=hp.z.tr k
 rcases Z9g hq hp.b.new xn hp.s.new with ⟨u,h1,h2,h3,h4,h5⟩ | ⟨h1,h2⟩
 ·rw [h1]
  refine ⟨_,_,rfl,fun _=>⟨.repl _ rfl xo h3.x,Z6p hp.b.old h4,Z66,fun d1 d2 => .inr ⟨rfl,?_,h5 d2⟩,fun t gt => ?_⟩,fun h=>by cases h⟩
  ·rcases d1 with d | ⟨_,d,_⟩
   ·omega
   exact d
  rw [Zzd rfl,Zzd k]
  simp only
  split
  ·rw [Option.bind_some,h2,show nrm u=u from h3.n]
  rfl
 rw [h1]
 refine ⟨_,_,rfl,fun h=>(by cases h),fun _ t gt => ?_⟩
 rw [Zzd k]
 split
 ·rw [Option.bind_some,h2]
 rfl
theorem Ycp {p q:Ed} (hp:MC p) (hq:MC q) (k:q.Kind=1):CMP p q ((Jg p).bind fun y5=>(Xq y5 q.Old).bind fun y6=>some ((⟨1,y6.1,q.New,[],[],0,[]⟩:S_api_Edit),y6.2)):=by
 obtain ⟨xo,xn⟩:=hq.z.tr k
 have e0:((Jg p).bind fun y5=>(Xq y5 q.Old).bind fun y6=>some ((⟨1,y6.1,q.New,[],[],0,[]⟩:S_api_Edit),y6.2))=((Jg p).bind fun y=>Xq y q.Old).bind fun y6=>some ((⟨1,y6.1,q.New,[],[],0,[]⟩:S_api_Edit),y6.2):=by rw [Option.bind_assoc]
 rw [e0]
 rcases Z3t hp hq.b.old xo hq.s.old with ⟨u,h1,h3,h4,h5,h6⟩ | ⟨h1,h2⟩
 ·rw [h1]
  refine ⟨_,_,rfl,fun _=>⟨.repl _ rfl h3.x xn,Z6p h4 hq.b.new,Z66,fun d1 d2 => .inr ⟨rfl,h5 d1,?_⟩,fun t gt => ?_⟩,fun h=>by cases h⟩
  ·rcases d2 with d | ⟨_,_,d⟩
   ·omega
   exact d
  rw [Zzd rfl]
  simp only
  rw [show nrm u=u from h3.n]
  by_cases ht:t=u
  ·rw [if_pos ht,(h6 t gt).2 ht,Option.bind_some,Zzd k,if_pos rfl]
  rw [if_neg ht]
  cases hv:ap p t with
  | none=>rfl
  | some v =>
   rw [Option.bind_some,Zzd k,if_neg fun q=>ht ((h6 t gt).1 (by rw [hv,q]))]
 rw [h1]
 refine ⟨_,_,rfl,fun h=>(by cases h),fun _ t gt => ?_⟩
 cases hv:ap p t with
 | none=>rfl
 | some v =>
  rw [Option.bind_some,Zzd k,if_neg fun q=>h2 t gt (by rw [hv,q])]
theorem Yeb {p q:Ed} (hq:MC q) (k:p.Kind=0):CMP p q (some (q,true)):=⟨q,true,rfl,fun _=>⟨hq.z,hq.b,hq.g,fun _ d=>d,fun t _=>by rw [Yde k];rfl⟩,fun h=>by cases h⟩
theorem Yec {p q:Ed} (hp:MC p) (k:q.Kind=0):CMP p q (some (p,true)):=⟨p,true,rfl,fun _=>⟨hp.z,hp.b,hp.g,fun d _=>d,fun t _=>by
 cases ap p t with
 | none=>rfl
 | some u=>rw [Option.bind_some,Yde k]⟩,fun h=>by cases h⟩
def fK (F:Ed→Ed→Option (Ed×Bool)) (x y:KE):Option KE:=match F x.E y.E with
 | some (e,true)=>some ⟨x.At,e⟩
 | _=>none
theorem Z9s {F:Ed→Ed→Option (Ed×Bool)} (x y z:KE) (h:fK F x y=some z):z.At=x.At:=by
 unfold fK at h
 split at h
 ·injection h with h
  rw [← h]
 cases h
theorem Z6w {F:Ed→Ed→Option (Ed×Bool)} {x y z:KE} (hc:CMP x.E y.E (F x.E y.E)) (h:fK F x y=some z):RS z.E x.E y.E:=by
 obtain ⟨e,b,h1,h2,h3⟩:=hc
 unfold fK at h
 rw [h1] at h
 cases b with
 | true =>
  injection h with h
  rw [← h]
  exact h2 rfl
 | false=>cases h
theorem Yb7 {F:Ed→Ed→Option (Ed×Bool)} {x y:KE} (hc:CMP x.E y.E (F x.E y.E)) (h:fK F x y=none):NE x.E y.E:=by
 obtain ⟨e,b,h1,h2,h3⟩:=hc
 unfold fK at h
 rw [h1] at h
 cases b with
 | true=>cases h
 | false=>exact h3 rfl
theorem RZ.rise {e:Ed} (h:RZ e) (k2:e.Kind=2):(Rise (·.At) e.Words∧∀ w∈e.Words,w.At≤65534)∧Rise (·.At) e.Kids∧∀ w∈e.Kids,w.At≤65534:=by
 cases h with
 | st _ _ hw hw2 hk hk2 ih=>exact ⟨⟨⟨hw,fun w h=>(hw2 w h).1⟩,fun w h=>(hw2 w h).2⟩,⟨hk,fun w h=>(hk2 w h).1⟩,fun w h=>(hk2 w h).2⟩
 | same _ k=>omega
 | repl _ k=>omega
 | li _ k=>omega
theorem Ycq {r1 r2 r3:Ed→Ed→Option (Ed×Bool)} {r4:List KE→List KE→Option (List KE×Bool)} {r5:KE→KE→Option (KE×Bool)} {r6:Pc→Option (List EO×Bool)} {F:Ed→Ed→Option (Ed×Bool)} {p q:Ed} (hp:MC p) (hq:MC q) (kp:p.Kind=2) (kq:q.Kind=2)
  (h4:r4 p.Kids q.Kids=some (match mg (·.At) (fK F) p.Kids q.Kids with | some l=>(l,true) | none=>([],false))) (hF:∀ x∈p.Kids,∀ y∈q.Kids,CMP x.E y.E (F x.E y.E)):CMP p q (Zab r1 r2 r3 r4 r5 r6 p q):=by
 have oP:∀ w∈p.Words,Zrq w:=hp.b.ws
 have oQ:∀ w∈q.Words,Zrq w:=hq.b.ws
 obtain ⟨⟨rwp,lwp⟩,rkp,lkp⟩:=hp.z.rise kp
 obtain ⟨⟨rwq,lwq⟩,rkq,lkq⟩:=hq.z.rise kq
 unfold Zab
 rw [Z8v oP oQ (by have:=hp.m.w;omega) (by have:=hq.m.w;omega),Option.bind_some,h4,Option.bind_some]
 cases hw:mg (fun w:WE=>w.At) fW p.Words q.Words with
 | none=>exact ⟨_,_,rfl,fun h=>(by cases h),fun _=>Z1w kp kq hp.z hq.z hp.b hq.b (.inl (Ybp oP oQ rwp rwq hw))⟩
 | some W =>
  cases hk:mg (fun w:KE=>w.At) (fK F) p.Kids q.Kids with
  | none=>exact ⟨_,_,rfl,fun h=>(by cases h),fun _=>Z1w kp kq hp.z hq.z hp.b hq.b (.inr (Ycf Z9s rkp rkq (fun x hx y hy _ h=>Yb7 (hF x hx y hy) h) hk))⟩
  | some K =>
   obtain ⟨w1,w2,w3,w4,_⟩:=(Zl3 (pl:=fun w:WE=>w.At) Z9t _ p.Words q.Words (Nat.le_refl _) rwp rwq).1 W hw
   obtain ⟨k1,k2,k3,k4,_⟩:=(Zl3 (pl:=fun w:KE=>w.At) Z9s _ p.Kids q.Kids (Nat.le_refl _) rkp rkq).1 K hk
   have lm:=hp.m
   have lm':=hq.m
   have oW:∀ w∈W,Zrq w:=fun w hw=>by
    rcases w2 w hw with h | h | ⟨x,hx,y,hy,h⟩
    ·exact oP w h
    ·exact oQ w h
    unfold fW at h
    split at h
    ·injection h with h
     rw [← h]
     exact Yeg (oP x hx) (oQ y hy)
    cases h
   have hK:∀ k∈K,RZ k.E∧BE k.E∧GN k.E:=fun k hk=>by
    rcases k2 k hk with h | h | ⟨x,hx,y,hy,h⟩
    ·have:=hp.kid kp k h
     exact ⟨this.z,this.b,this.g⟩
    ·have:=hq.kid kq k h
     exact ⟨this.z,this.b,this.g⟩
    have:=Z6w (hF x hx y hy) h
    exact ⟨this.z,this.b,this.g⟩
   have ze:RZ ⟨2,⟨0,[],[]⟩,⟨0,[],[]⟩,W,K,0,[]⟩ := .st _ rfl w1.1 (fun w hw=>⟨w1.2 w hw,by
     rcases w3 w hw with ⟨x,hx,h⟩ | ⟨x,hx,h⟩
     ·have:=lwp x hx;omega
     ·have:=lwq x hx;omega⟩) k1.1 (fun w hw=>⟨k1.2 w hw,by
     rcases k3 w hw with ⟨x,hx,h⟩ | ⟨x,hx,h⟩
     ·have:=lkp x hx;omega
     have:=lkq x hx;omega⟩) fun k hk=>(hK k hk).1
   have be:BE ⟨2,⟨0,[],[]⟩,⟨0,[],[]⟩,W,K,0,[]⟩ := .mk _ Zgh Zgh (by have:=lm.w;have:=lm'.w;simp only;omega) oW (by have:=lm.k;have:=lm'.k;simp only;omega) (fun k hk=>(hK k hk).2.1) (by simp) (by simp) (by simp)
   refine ⟨_,_,rfl,fun _=>⟨ze,be,.mk _ (by have:=lm.w;have:=lm'.w;simp only;omega) (by have:=lm.k;have:=lm'.k;simp only;omega) (by simp) (by simp [Qb]) (by simp) (fun k hk=>(hK k hk).2.2) (by simp),fun _ _ => .inl rfl,
    Z8k rfl kp kq ze hp.z hq.z be hp.b hq.b (fun j x hx=>Ybo oP oQ rwp rwq hw j x hx) fun j x hx=>Yce Z9s rkp rkq (fun x hx y hy _ z h=>(Z6w (hF x hx y hy) h).f) hk j x hx⟩,fun h=>by cases h⟩
structure OO (l:Int) (o:EO):Prop where
 k:opk o
 n:o.Kind=0∨o.Kind=3→o.L=[]
 t:∀ t∈o.L,TX t∧(l=9→t.Kind=1)
 d:o.Kind=3→l=9→D9 o.E
 z:o.Kind=3→RZ o.E
 l:o.L.length * 56≤140737488355328∧∀ t∈o.L,Bd t
 b:BE o.E
 g:GN o.E
def GL9 (l:Int) (s:List Tr×List Tr):Prop:=∀ x∈s.1,GT x∧(l=9→x.Kind=1)
structure LI (l:Int) (p:Ed):Prop where
 m:MC p
 k:p.Kind=3
 l:p.List_=l
theorem LI.rz {l:Int} {p:Ed} (h:LI l p):(∀ o∈p.Ops,opk o)∧(∀ o∈p.Ops,o.Kind=0∨o.Kind=3→o.L=[])∧(∀ o∈p.Ops,∀ t∈o.L,TX t∧(l=9→t.Kind=1))∧(∀ o∈p.Ops,o.Kind=3→l=9→D9 o.E)∧2≤l∧l≤9:=by
 have hk:=h.k
 have hl:=h.l
 cases h.m.z with
 | li _ _ hl' ho hN hT h9 ih=>rw [hl] at hl' hT h9;exact ⟨ho,hN,hT,h9,hl'⟩
 | same _ k=>omega
 | repl _ k=>omega
 | st _ k=>omega
theorem Z7j {α:Type} {l m:List α} (h:∀ x∈l,x∈m) (hm:m=[]):l=[]:=by
 cases l with
 | nil=>rfl
 | cons x l =>
  have:=h x (.head _)
  rw [hm] at this
  cases this
theorem LI.oo {l:Int} {p:Ed} (h:LI l p) {x:EO} (hx:Fr p.Ops x) (hn:Xm x≤1000000000):OO l x:=by
 obtain ⟨hk,y,hy,h1,h2,h3⟩:=hx
 obtain ⟨a1,a2,a3,a4,_⟩:=h.rz
 have hb:=h.m.b
 refine ⟨hk,fun k=>Z7j h3 (a2 y hy (by omega)),fun t ht=>a3 y hy t (h3 t ht),fun k h9 => ?_,fun k => ?_,⟨?_,fun t ht=>(hb.l y hy).2 t (h3 t ht)⟩,?_,?_⟩
 ·rw [h2];exact a4 y hy (by omega) h9
 ·rw [h2];exact h.m.z.op h.k y hy (by omega)
 ·by_cases k03:x.Kind=0∨x.Kind=3
  ·rw [Z7j h3 (a2 y hy (by omega))];simp
  unfold Xm at hn
  rw [if_neg (by omega),if_neg (by omega)] at hn
  omega
 ·rw [h2];exact hb.os y hy
 rw [h2];exact h.m.g.os y hy
theorem LI.mc {l:Int} {p:Ed} (h:LI l p) {x:EO} (hx:Fr p.Ops x) (k:x.Kind=3):MC x.E:=by
 obtain ⟨hk,y,hy,h1,h2,h3⟩:=hx
 rw [h2]
 exact h.m.op h.k y hy (by omega)
theorem LI.tl {l:Int} {p:Ed} (h:LI l p) {x:EO} (hx:Fr p.Ops x):∀ t∈x.L,TX t∧Bd t∧pt t≤1000000∧(l=9→t.Kind=1):=fun t ht=>by
 obtain ⟨hk,y,hy,h1,h2,h3⟩:=hx
 obtain ⟨a1,a2,a3,a4,_⟩:=h.rz
 have:=a3 y hy t (h3 t ht)
 exact ⟨this.1,(h.m.b.l y hy).2 t (h3 t ht),h.m.s.l y hy t (h3 t ht),this.2⟩
def SO (l:Int) (c:Pc) (r:Option (List EO×Bool)):Prop:=∃ ops b,r=some (ops,b)∧(b=true→(∀ o∈ops,OO l o)∧Qb ops≤thP c∧ops.length≤1∧∀ s,GL9 l s→RO ops s=PM c s)∧(b=false→∀ s,GL9 l s→PM c s=none)
theorem Zv9 (x y:EO) (s:List Tr×List Tr):CC [x] [y] s=(stO x (ap x.E) (s.1,[])).bind fun z=>(stO y (ap y.E) (z.2,s.2)).bind fun w=>if w.1.length=0 then some (z.1,w.2) else none:=by
 unfold CC
 rw [Zh7]
 congr 1
 funext z
 rw [Zh7]
theorem Z86 {x y:EO} (hx:opk x) (k1:x.Kind≠1) (ky:y.Kind=0) (hy:opk y) (hn:Xm x=Xm y) (s:List Tr×List Tr):CC [x] [y] s=stO x (ap x.E) s:=by
 obtain ⟨l,o⟩:=s
 rw [Zv9,Z70 hx (ap x.E) l o]
 simp only
 cases h:stO x (ap x.E) (l,[]) with
 | none=>rfl
 | some z =>
  obtain ⟨l1,xs⟩:=z
  have e:=Yas hx k1 h
  have en:Xm y=y.N.toNat:=if_pos ky
  have hN:1≤y.N:=by
   rcases hy with ⟨_,h⟩ | ⟨k,_⟩ | ⟨k,_⟩ | k <;> omega
  rw [Option.bind_some,Zje ky]
  unfold Zih
  simp only
  rw [if_pos ⟨by omega,by omega⟩,Option.bind_some,List.drop_of_length_le (by omega),List.take_of_length_le (by omega)]
  rfl
theorem Z85 {x y:EO} (hx:opk x) (kx:x.Kind=0) (k2:y.Kind≠2) (k0:y.Kind≠0) (hy:opk y) (hn:Xm x=Xm y) (s:List Tr×List Tr):CC [x] [y] s=stO y (ap y.E) s:=by
 obtain ⟨l,o⟩:=s
 have en:Xm x=x.N.toNat:=if_pos kx
 have hN:1≤x.N:=by
  rcases hx with ⟨_,h⟩ | ⟨k,_⟩ | ⟨k,_⟩ | k <;> omega
 rw [Zv9,Zje kx]
 unfold Zih
 simp only
 by_cases h:x.N.toNat≤l.length
 ·rw [if_pos ⟨by omega,h⟩,Option.bind_some]
  simp only [List.nil_append]
  obtain ⟨e1,e2⟩:=Z6t hy k2 (ap y.E) (xs:=l.take x.N.toNat) (by rw [List.length_take];omega) (l.drop x.N.toNat) o
  rw [List.take_append_drop] at e1
  rw [e1]
  cases hs:stO y (ap y.E) (l.take x.N.toNat,o) with
  | none=>rfl
  | some z =>
   have:=e2 z hs
   obtain ⟨z1,z2⟩:=z
   simp only at this
   subst this
   rfl
 rw [if_neg (fun q=>h q.2),Option.bind_none]
 have e1:y.Kind=1∨y.Kind=3:=by have:=Zip hy;omega
 rcases e1 with k | k
 ·rw [Zg7 k]
  unfold Zi2
  rw [if_neg]
  intro q
  have:=congrArg List.length q
  unfold Xm at hn
  rw [if_pos kx,if_neg (by omega),if_neg (by omega)] at hn
  rw [List.length_map,List.length_take] at this
  simp only at this
  omega
 unfold Xm at hn
 rw [if_pos kx,if_neg (by omega),if_pos k] at hn
 have:l=[]:=List.eq_nil_of_length_eq_zero (by omega)
 subst this
 rw [Zmy k]
theorem Yge {c:Pc} (h:c.Of=1) (s:List Tr×List Tr):PM c s=stO c.P (ap c.P.E) s:=if_pos h
theorem Ygf {c:Pc} (h:c.Of=2) (s:List Tr×List Tr):PM c s=stO c.Q (ap c.Q.E) s:=by unfold PM;rw [if_neg (by omega),if_pos h]
theorem Z8c {c:Pc} (h:c.Of=0) (s:List Tr×List Tr):PM c s=CC [c.P] [c.Q] s:=by unfold PM;rw [if_neg (by omega),if_neg (by omega)]
theorem Zuw (o:EO):Qb [o]=Xm o:=by unfold Qb;simp
theorem bq {a b:Int} (h:a=b):(a == b)=true:=beq_iff_eq.2 h
theorem bn {a b:Int} (h:¬ a=b):(a == b)=false:=beq_eq_false_iff_ne.2 h
theorem Ycw {t:Tr} {k:Int} (h:k=1∨k=2):opk ⟨k,0,[t],eS0⟩:=by
 rcases h with rfl | rfl
 ·exact .inr (.inl ⟨rfl,by simp⟩)
 exact .inr (.inr (.inl ⟨rfl,by simp⟩))
theorem OO.ins {l:Int} {u:Tr} {k:Int} (h:k=1∨k=2) (hu:GT u) (hb:Bd u) (h9:l=9→u.Kind=1):OO l ⟨k,0,[u],eS0⟩ :=
 ⟨Ycw h,fun q=>by simp only at q;omega,fun t ht=>by rw [List.mem_singleton.1 ht];exact ⟨hu.x,h9⟩,fun q=>by simp only at q;omega,fun q=>by simp only at q;omega,⟨by simp,fun t ht=>by rw [List.mem_singleton.1 ht];exact hb⟩,Zt3,Zvj⟩
theorem Ybf {u:Tr} {k:Int} (h:k=1∨k=2):Xm ⟨k,0,[u],eS0⟩=1:=by
 unfold Xm
 rw [if_neg (by simp only;omega),if_neg (by simp only;omega)]
 rfl
theorem Z8i {r1 r2 r3:Ed→Ed→Option (Ed×Bool)} {r4:List KE→List KE→Option (List KE×Bool)} {r5:KE→KE→Option (KE×Bool)} {r6:Pc→Option (List EO×Bool)} {l:Int} {p q:Ed} (hp:LI l p) (hq:LI l q) {c:Pc} (hc:PG p.Ops q.Ops c) (hn:thP c≤1000000000)
  (hM:c.P.Kind=3→c.Q.Kind=3→MC c.P.E→MC c.Q.E→Fr p.Ops c.P→Fr q.Ops c.Q→CMP c.P.E c.Q.E (r1 c.P.E c.Q.E)):SO l c (Zdy r1 r2 r3 r4 r5 r6 c):=by
 unfold Zdy
 rcases hc with ⟨h1,h2,h3⟩ | ⟨h1,h2,h3⟩ | ⟨h1,h2,h3,h4,h5,h6⟩
 ·rw [bq h1,cond_true,cond_true]
  have e:thP c=Xm c.P:=if_neg (by omega)
  exact ⟨_,_,rfl,fun _=>⟨fun o ho=>by rw [List.mem_singleton.1 ho];exact hp.oo h3 (by omega),by rw [Zuw];omega,Nat.le_refl _,fun s _=>by rw [Zh7,Yge h1]⟩,fun h=>by cases h⟩
 ·rw [bn (by omega),bn (by omega),bq h1,cond_false,cond_false,cond_false,cond_true,cond_true]
  have e:thP c=Xm c.Q:=if_pos h1
  exact ⟨_,_,rfl,fun _=>⟨fun o ho=>by rw [List.mem_singleton.1 ho];exact hq.oo h3 (by omega),by rw [Zuw];omega,Nat.le_refl _,fun s _=>by rw [Zh7,Ygf h1]⟩,fun h=>by cases h⟩
 have e:thP c=Xm c.P:=if_neg (by omega)
 have kP:=Zip h5.k
 have kQ:=Zip h6.k
 rw [bn (show ¬ c.Of=1 by omega),bq h1,cond_false,cond_true]
 by_cases q0:c.Q.Kind=0
 ·rw [bq q0,cond_true]
  exact ⟨_,_,rfl,fun _=>⟨fun o ho=>by rw [List.mem_singleton.1 ho];exact hp.oo h5 (by omega),by rw [Zuw];omega,Nat.le_refl _,fun s _=>by rw [Zh7,Z8c h1,Z86 h5.k h2 q0 h6.k h4]⟩,fun h=>by cases h⟩
 rw [bn q0,cond_false,bn (show ¬ c.Of=2 by omega),cond_false]
 by_cases p0:c.P.Kind=0
 ·rw [bq p0,cond_true]
  exact ⟨_,_,rfl,fun _=>⟨fun o ho=>by rw [List.mem_singleton.1 ho];exact hq.oo h6 (by omega),by rw [Zuw];omega,Nat.le_refl _,fun s _=>by rw [Zh7,Z8c h1,Z85 h5.k p0 h3 q0 h6.k h4]⟩,fun h=>by cases h⟩
 rw [bn p0,cond_false]
 by_cases p2:c.P.Kind=2
 ·have tP:Xm c.P=c.P.L.length:=by unfold Xm;rw [if_neg (by omega),if_neg (by omega)]
  rw [bq p2,cond_true,cond_true]
  by_cases q1:c.Q.Kind=1
  ·have tQ:Xm c.Q=c.Q.L.length:=by unfold Xm;rw [if_neg (by omega),if_neg (by omega)]
   rw [bq q1,cond_true,Z5v (fun t ht=>(hp.tl h5 t ht).2.1) (fun t ht=>(hq.tl h6 t ht).2.1) (by omega),Option.bind_some]
   have eP:∀ s,PM c s=if c.P.L.map nrm=c.Q.L.map nrm then some s else none:=fun s=>by
    obtain ⟨l1,o1⟩:=s
    rw [Z8c h1,Zv9,Zlw p2]
    unfold Zlp
    rw [Option.bind_some,Zg7 q1]
    unfold Zi2
    simp only [List.nil_append]
    rw [List.take_of_length_le (by rw [List.length_map];omega)]
    split
    ·rw [Option.bind_some,List.drop_of_length_le (by rw [List.length_map];omega)]
     rfl
    rfl
   refine ⟨_,_,rfl,fun h=>⟨fun o ho=>(by cases ho),by unfold Qb;simp,Nat.zero_le _,fun s _ => ?_⟩,fun h s _ => ?_⟩
   ·rw [Zva] at h
    rw [eP,if_pos h,Zp2]
   rw [eP,if_neg]
   intro q
   rw [(Zva _ _).2 q] at h
   cases h
  have q3:c.Q.Kind=3:=by omega
  have tQ:Xm c.Q=1:=by unfold Xm;rw [if_neg (by omega),if_pos q3]
  obtain ⟨x,hx⟩:=List.length_eq_one_iff.1 (show c.P.L.length=1 by omega)
  obtain ⟨x1,x2,x3,x4⟩:=hp.tl h5 x (by rw [hx];exact .head _)
  have g0:Xk [x] 0=some x:=Yr (i:=0) rfl
  rw [bn q1,cond_false,hx,g0,Option.bind_some]
  have eP:∀ s:List Tr×List Tr,PM c s=(ap c.Q.E (nrm x)).map fun u=>(s.1,s.2++[u]):=fun s=>by
   obtain ⟨l1,o1⟩:=s
   rw [Z8c h1,Zv9,Zlw p2]
   unfold Zlp
   rw [Option.bind_some,Zmy q3,hx]
   simp only [List.nil_append,List.map_cons,List.map_nil]
   cases ap c.Q.E (nrm x) <;> rfl
  rcases Z9g (hq.mc h6 q3) x2 x1 x3 with ⟨u,u1,u2,u3,u4,u5⟩ | ⟨u1,u2⟩
  ·rw [u1]
   refine ⟨_,_,rfl,fun _=>⟨fun o ho => ?_,?_,Nat.le_refl _,fun s _ => ?_⟩,fun h=>by cases h⟩
   ·rw [List.mem_singleton.1 ho]
    exact .ins (.inr rfl) u3 u4 fun h9=>u5 ((hq.oo h6 (by omega)).d q3 h9)
   ·rw [Zuw,show (⟨2,0,[u],⟨0,⟨0,[],[]⟩,⟨0,[],[]⟩,[],[],0,[]⟩⟩:EO)=⟨2,0,[u],eS0⟩ from rfl,Ybf (.inr rfl)]
    omega
   rw [eP,u2,Zh7,Zlw rfl]
   unfold Zlp
   simp only [List.map_cons,List.map_nil,Option.map_some]
   rw [show nrm u=u from u3.n]
  rw [u1]
  exact ⟨_,_,rfl,fun h=>(by cases h),fun _ s _=>by rw [eP,u2];rfl⟩
 have p3:c.P.Kind=3:=by omega
 have tP:Xm c.P=1:=by unfold Xm;rw [if_neg (by omega),if_pos p3]
 rw [bn p2,cond_false,cond_false,cond_false]
 have mP:=hp.mc h5 p3
 by_cases q1:c.Q.Kind=1
 ·have tQ:Xm c.Q=c.Q.L.length:=by unfold Xm;rw [if_neg (by omega),if_neg (by omega)]
  obtain ⟨x,hx⟩:=List.length_eq_one_iff.1 (show c.Q.L.length=1 by omega)
  obtain ⟨x1,x2,x3,x4⟩:=hq.tl h6 x (by rw [hx];exact .head _)
  have g0:Xk [x] 0=some x:=Yr (i:=0) rfl
  rw [bq q1,cond_true,hx,g0]
  simp only [Option.bind_some]
  have e0:((Jg c.P.E).bind fun y10=>(Xq y10 x).bind fun y12=>some (([(⟨1,0,([y12.1]:List S_api_Tree),⟨0,⟨0,[],[]⟩,⟨0,[],[]⟩,[],[],0,[]⟩⟩:S_api_Op)]:List S_api_Op),y12.2))=((Jg c.P.E).bind fun y=>Xq y x).bind fun y12=>some (([(⟨1,0,([y12.1]:List S_api_Tree),eS0⟩:S_api_Op)]:List S_api_Op),y12.2):=by rw [Option.bind_assoc];rfl
  rw [e0]
  have eP:∀ s:List Tr×List Tr,PM c s=match s.1 with | []=>none | y::m=>if ap c.P.E y=some (nrm x) then some (m,s.2) else none:=fun s=>by
   obtain ⟨l1,o1⟩:=s
   rw [Z8c h1,Zv9,Zmy p3]
   cases l1 with
   | nil=>rfl
   | cons y m =>
    simp only
    cases hy:ap c.P.E y with
    | none=>rfl
    | some v =>
     rw [Option.map_some,Option.bind_some,Zg7 q1,hx]
     unfold Zi2
     simp only [List.nil_append,List.length_singleton,List.map_cons,List.map_nil,List.take_succ_cons,List.take_zero,Option.some.injEq,List.cons.injEq,and_true]
     split <;> rfl
  rcases Z3t mP x2 x1 x3 with ⟨u,u1,u3,u4,u5,u6⟩ | ⟨u1,u2⟩
  ·rw [u1]
   refine ⟨_,_,rfl,fun _=>⟨fun o ho => ?_,?_,Nat.le_refl _,fun s hs => ?_⟩,fun h=>by cases h⟩
   ·rw [List.mem_singleton.1 ho]
    exact .ins (.inl rfl) u3 u4 fun h9=>u5 ((hp.oo h5 (by omega)).d p3 h9)
   ·rw [Zuw,Ybf (.inl rfl)]
    omega
   obtain ⟨l1,o1⟩:=s
   rw [eP,Zh7,Zg7 rfl]
   unfold Zi2
   simp only [List.map_cons,List.map_nil,List.length_singleton]
   rw [show nrm u=u from u3.n]
   cases l1 with
   | nil=>rfl
   | cons y m =>
    simp only [List.take_succ_cons,List.take_zero,List.cons.injEq,and_true,List.drop_succ_cons,List.drop_zero]
    by_cases hy:y=u
    ·rw [if_pos hy,if_pos ((u6 y (hs y (.head _)).1).2 hy)]
    rw [if_neg hy,if_neg fun q=>hy ((u6 y (hs y (.head _)).1).1 q)]
  rw [u1]
  refine ⟨_,_,rfl,fun h=>(by cases h),fun _ s hs => ?_⟩
  rw [eP]
  obtain ⟨l1,o1⟩:=s
  cases l1 with
  | nil=>rfl
  | cons y m =>
   simp only
   rw [if_neg (u2 y (hs y (.head _)).1)]
 have q3:c.Q.Kind=3:=by omega
 have mQ:=hq.mc h6 q3
 rw [bn q1,cond_false]
 obtain ⟨e',b,g1,g2,g3⟩:=hM p3 q3 mP mQ h5 h6
 rw [g1]
 have eP:∀ s:List Tr×List Tr,PM c s=match s.1 with | []=>none | y::m=>((ap c.P.E y).bind (ap c.Q.E)).map fun u=>(m,s.2++[u]):=fun s=>by
  obtain ⟨l1,o1⟩:=s
  rw [Z8c h1,Zv9,Zmy p3]
  cases l1 with
  | nil=>rfl
  | cons y m =>
   simp only
   cases hy:ap c.P.E y with
   | none=>rfl
   | some v =>
    rw [Option.map_some,Option.bind_some,Zmy q3]
    simp only [List.nil_append,Option.bind_some]
    cases ap c.Q.E v <;> rfl
 refine ⟨_,_,rfl,fun h => ?_,fun h s hs => ?_⟩
 ·have rs:=g2 h
  refine ⟨fun o ho => ?_,?_,Nat.le_refl _,fun s hs => ?_⟩
  ·rw [List.mem_singleton.1 ho]
   exact ⟨.inr (.inr (.inr rfl)),fun _=>rfl,fun t ht=>(by cases ht),fun _ h9=>rs.d ((hp.oo h5 (by omega)).d p3 h9) ((hq.oo h6 (by omega)).d q3 h9),fun _=>rs.z,⟨by simp,fun t ht=>by cases ht⟩,rs.b,rs.g⟩
  ·rw [Zuw]
   unfold Xm
   rw [if_neg (by simp only;omega),if_pos rfl]
   omega
  obtain ⟨l1,o1⟩:=s
  rw [eP,Zh7,Zmy rfl]
  cases l1 with
  | nil=>rfl
  | cons y m =>
   simp only
   rw [rs.f y (hs y (.head _)).1]
 obtain ⟨l1,o1⟩:=s
 rw [eP]
 cases l1 with
 | nil=>rfl
 | cons y m =>
  simp only
  rw [g3 h y (hs y (.head _)).1]
  rfl
theorem Z87 {os:List EO} {s s':List Tr×List Tr} (h:RO os s=some s'):∀ x∈s'.1,x∈s.1:=Zus _ s s' h
theorem Z7c {l:Int} {S:Pc→Option (List EO×Bool)} {L:List Pc} (hL:L.length≤500000) (hS:∀ c∈L,SO l c (S c)):∀ (rest:List Pc) (i:Nat) (out:List EO),L.drop i=rest→i≤L.length→out.length≤i →
  (∃ E,Zt (Xu S (L,true)) ((i:Int),out)=some (.inr (out++E))∧(∀ o∈E,OO l o)∧Qb E≤(rest.map thP).sum∧E.length≤rest.length∧∀ s,GL9 l s→RO E s=PMs rest s) ∨
  (Zt (Xu S (L,true)) ((i:Int),out)=some (.inl ())∧∀ s,GL9 l s→PMs rest s=none)
 | [],i,out,hd,hi,ho=>by
  have e:=drop_nil hd hi
  refine .inl ⟨[],?_,fun o h=>(by cases h),by simp [Qb],Nat.le_refl _,fun s _=>rfl⟩
  rw [List.append_nil]
  refine Z3 ?_
  unfold Xu
  simp only
  rw [e,Zgk,cond_false]
 | c::rest,i,out,hd,hi,ho=>by
  obtain ⟨hi',hg,hd'⟩:=Zu9 hd
  obtain ⟨ops,b,h1,h2,h3⟩:=hS c (List.mem_of_getElem? hg)
  cases b with
  | false =>
   refine .inr ⟨Z3 ?_,fun s hs => ?_⟩
   ·unfold Xu
    simp only
    rw [Zcy hi',cond_true,Yr hg,Option.bind_some,h1]
    rfl
   rw [PMs,h3 rfl s hs]
   rfl
  | true =>
   obtain ⟨a1,a2,a3,a4⟩:=h2 rfl
   have st:Xu S (L,true) ((i:Int),out)=some (.inl (((i+1:Nat):Int),out++ops)):=by
    unfold Xu
    simp only
    rw [Zcy hi',cond_true,Yr hg,Option.bind_some,h1,Option.bind_some]
    simp only [Bool.not_true,cond_false]
    rw [G5 (by omega) (by omega),Option.bind_some,Za7 (by omega) (by omega)]
    rfl
   rw [Yo st]
   rcases Z7c hL hS rest (i+1) (out++ops) hd' (by omega) (by rw [List.length_append];omega) with ⟨E,q1,q2,q3,q4,q5⟩ | ⟨q1,q2⟩
   ·refine .inl ⟨ops++E,by rw [q1,List.append_assoc],fun o h => ?_,?_,by rw [List.length_append,List.length_cons];omega,fun s hs => ?_⟩
    ·rcases List.mem_append.1 h with h | h
     ·exact a1 o h
     exact q2 o h
    ·unfold Qb at a2 q3 ⊢
     rw [List.map_append,List.sum_append,List.map_cons,List.sum_cons]
     omega
    rw [Zub,PMs,a4 s hs]
    cases hp:PM c s with
    | none=>rfl
    | some s' =>
     rw [Option.bind_some,Option.bind_some]
     exact q5 s' fun x hx=>hs x (Z87 (by rw [a4 s hs];exact hp) x hx)
   refine .inr ⟨q1,fun s hs => ?_⟩
   rw [PMs]
   cases hp:PM c s with
   | none=>rfl
   | some s' =>
    rw [Option.bind_some]
    exact q2 s' fun x hx=>hs x (Z87 (by rw [a4 s hs];exact hp) x hx)
theorem Zxb {e:Ed} (k:e.Kind=3) (t:Tr):ap e t=if t.Kind=e.List_ then Z34 t.Kind (RO e.Ops (t.Kids,[])) else none:=by
 rw [Zcj,if_neg (by omega),if_neg (by omega),if_neg (by omega),if_pos k]
 rfl
theorem Z6h {p q:Ed} (kp:p.Kind=3) (kq:q.Kind=3) (hl:p.List_=q.List_) {t:Tr} (ht:t.Kind=p.List_):(ap p t).bind (ap q)=Z34 t.Kind (CC p.Ops q.Ops (t.Kids,[])):=by
 rw [Zxb kp,if_pos ht]
 unfold CC
 cases h:RO p.Ops (t.Kids,[]) with
 | none=>rfl
 | some x =>
  obtain ⟨x1,x2⟩:=x
  rw [Option.bind_some]
  cases x1 with
  | nil =>
   simp only [Z34,Option.bind_some]
   rw [Zxb kq]
   simp only
   rw [if_pos (by omega)]
   cases h2:RO q.Ops (x2,[]) with
   | none=>rfl
   | some y =>
    obtain ⟨y1,y2⟩:=y
    cases y1 with
    | nil=>rfl
    | cons z y1=>rfl
  | cons a x1 =>
   simp only [Z34,Option.bind_none]
   cases h2:RO q.Ops (x2,[]) with
   | none=>rfl
   | some y =>
    obtain ⟨y1,y2⟩:=y
    cases y1 with
    | nil=>rfl
    | cons z y1=>rfl
theorem CI.of {a:List EO} (hp:∀ o∈a,opk o) (hs:Qb a≤1073741824):CI a 0:=⟨hp,hs,by unfold Z9i;split <;> omega⟩
theorem Ycm {r1 r2 r3:Ed→Ed→Option (Ed×Bool)} {r4:List KE→List KE→Option (List KE×Bool)} {r5:KE→KE→Option (KE×Bool)} {r6:Pc→Option (List EO×Bool)} {l:Int} {p q:Ed} (hp:LI l p) (hq:LI l q) (hS:∀ c,PG p.Ops q.Ops c→thP c≤1000000000→SO l c (r6 c)):CMP p q (Zdx r1 r2 r3 r4 r5 r6 p q):=by
 have mp:=hp.m.m
 have mq:=hq.m.m
 have o1:=mp.o
 have o2:=mq.o
 have s1:=mp.s
 have s2:=mq.s
 have hl:p.List_=q.List_:=by rw [hp.l,hq.l]
 have gl:∀ t,GT t→t.Kind=p.List_→GL9 l (t.Kids,[]):=fun t gt ht x hx=>⟨gt.all x hx,fun h9=>gt.x.s (by have:=hp.l;omega) x hx⟩
 have no:∀ t:Tr,¬ t.Kind=p.List_→ap p t=none:=fun t ht=>by rw [Zxb hp.k,if_neg ht]
 unfold Zdx
 rcases Z8h (CI.of hp.rz.1 (by omega)) (CI.of hq.rz.1 (by omega)) (by omega) (by omega) with ⟨L,a1,a2,a3,a4,a5⟩ | ⟨a1,a2⟩
 ·rw [a1,Option.bind_some]
  simp only [Bool.not_true,cond_false]
  rcases Z7c (l:=l) (S:=r6) (L:=L) (by omega) (fun c hc=>hS c (a3 c hc) (by have:=Zmj (f:=thP) hc;omega)) L 0 [] rfl (Nat.zero_le _) (Nat.le_refl _) with ⟨E,q1,q2,q3,q4,q5⟩ | ⟨q1,q2⟩
  ·rw [show ((0:Nat):Int)=0 from rfl] at q1
   rw [q1,Option.bind_some,List.nil_append]
   refine ⟨_,_,rfl,fun _=>⟨.li _ rfl (by have:=hp.rz.2.2.2.2;have:=hp.l;simp only;omega) (fun o ho=>(q2 o ho).k) (fun o ho=>(q2 o ho).n) (fun o ho t ht=>by rw [show (⟨3,⟨0,[],[]⟩,⟨0,[],[]⟩,[],[],p.List_,E⟩:Ed).List_=l from hp.l];exact (q2 o ho).t t ht) (fun o ho k h9=>(q2 o ho).d k (by rw [← hp.l];exact h9)) (fun o ho=>(q2 o ho).z),
    .mk _ Zgh Zgh (by simp) (by simp) (by simp) (by simp) (by simp only;omega) (fun o ho=>(q2 o ho).l) (fun o ho=>(q2 o ho).b),.mk _ (by simp) (by simp) (by simp only;omega) (by simp only;omega) (fun o ho=>(q2 o ho).k) (by simp) (fun o ho=>(q2 o ho).g),fun d=>by unfold D9 at d;have:=hp.k;omega,fun t gt => ?_⟩,fun h=>by cases h⟩
   rw [Zxb rfl]
   simp only
   by_cases ht:t.Kind=p.List_
   ·rw [if_pos ht,q5 _ (gl t gt ht),← a4,Z6h hp.k hq.k hl ht]
   rw [if_neg ht,no t ht]
   rfl
  rw [show ((0:Nat):Int)=0 from rfl] at q1
  rw [q1]
  refine ⟨_,_,rfl,fun h=>(by cases h),fun _ t gt => ?_⟩
  by_cases ht:t.Kind=p.List_
  ·rw [Z6h hp.k hq.k hl ht,a4,q2 _ (gl t gt ht)]
   rfl
  rw [no t ht]
  rfl
 rw [a1]
 refine ⟨_,_,rfl,fun h=>(by cases h),fun _ t gt => ?_⟩
 by_cases ht:t.Kind=p.List_
 ·rw [Z6h hp.k hq.k hl ht,a2]
  rfl
 rw [no t ht]
 rfl
theorem Z1z {α β:Type} (r:Option (α×β)):(r.bind fun y=>some (y.1,y.2))=r:=by cases r <;> rfl
theorem RZ.kinds {e:Ed} (h:RZ e):e.Kind=0∨e.Kind=1∨e.Kind=2∨e.Kind=3:=h.rx.kind
theorem RZ.list {e:Ed} (h:RZ e) (k:e.Kind=3):2≤e.List_:=by
 cases h with
 | li _ _ hl=>exact hl.1
 | same _ k=>omega
 | repl _ k=>omega
 | st _ k=>omega
theorem Yb3 {e:Ed} {t u:Tr} (h:ap e t=some u):(e.Kind=2→u.Kind=1)∧(e.Kind=3→u.Kind=e.List_):=by
 refine ⟨fun k => ?_,fun k => ?_⟩
 ·rw [Zcj,if_neg (by omega),if_neg (by omega),if_pos k] at h
  split at h
  ·obtain ⟨ws,e1,h⟩:=Option.bind_eq_some_iff.1 h
   obtain ⟨ks,e2,h⟩:=Option.bind_eq_some_iff.1 h
   injection h with h
   rw [← h]
  cases h
 rw [Zxb k] at h
 split at h
 ·rename_i ht
  obtain ⟨out,e1,rfl⟩:=Zzn h
  exact ht
 cases h
theorem Z2y {p q:Ed} (hp:RZ p) (hq:RZ q) (h:(p.Kind=2∧q.Kind=3)∨(p.Kind=3∧q.Kind=2)∨(p.Kind=3∧q.Kind=3∧¬ p.List_=q.List_)):NE p q:=fun t _=>by
 cases hv:ap p t with
 | none=>rfl
 | some v =>
  obtain ⟨v2,v3⟩:=Yb3 hv
  rw [Option.bind_some]
  rcases h with ⟨h1,h2⟩ | ⟨h1,h2⟩ | ⟨h1,h2,h3⟩
  ·have:=v2 h1
   have:=hq.list h2
   rw [Zxb h2,if_neg (by omega)]
  ·have:=v3 h1
   have:=hp.list h1
   exact Zy8 h2 (by omega)
  have:=v3 h1
  rw [Zxb h2,if_neg (by omega)]
theorem Ycn (k:Nat):∀ p q,MC p→MC q→4 * SizeOf.sizeOf p < k→CMP p q ((Zh k).1 p q):=by
 induction k using Nat.strongRecOn with
 | ind k ih =>
  intro p q hp hq hk
  have:1≤SizeOf.sizeOf p:=by cases p;simp only [S_api_Edit.mk.sizeOf_spec];omega
  obtain ⟨m,rfl⟩:∃ m,k=m+4:=⟨k - 4,by omega⟩
  show CMP p q (Zer (Zh (m+3)).1 (Zh (m+3)).2.1 (Zh (m+3)).2.2.1 (Zh (m+3)).2.2.2.1 (Zh (m+3)).2.2.2.2.1 (Zh (m+3)).2.2.2.2.2 p q)
  unfold Zer
  by_cases p0:p.Kind=0
  ·rw [bq p0];exact Yeb hq p0
  rw [bn p0,cond_false]
  by_cases q0:q.Kind=0
  ·rw [bq q0];exact Yec hp q0
  rw [bn q0,cond_false]
  by_cases p1:p.Kind=1
  ·rw [bq p1];exact Yco hp hq p1
  rw [bn p1,cond_false]
  by_cases q1:q.Kind=1
  ·rw [bq q1];exact Ycp hp hq q1
  rw [bn q1,cond_false,Z1z,Z1z]
  have pk:=hp.z.kinds
  have qk:=hq.z.kinds
  by_cases p2:p.Kind=2
  ·rw [bq p2,cond_true]
   by_cases q2:q.Kind=2
   ·rw [bq q2,cond_true]
    have hF:∀ x∈p.Kids,∀ y∈q.Kids,CMP x.E y.E ((Zh m).1 x.E y.E):=fun x hx y hy=>ih m (by omega) x.E y.E (hp.kid p2 x hx) (hq.kid q2 y hy) (by have:=K7 hx;omega)
    refine Ycq (r1:=(Zh (m+2)).1) (r2:=(Zh (m+2)).2.1) (r3:=(Zh (m+2)).2.2.1) (r4:=(Zh (m+2)).2.2.2.1) (r5:=(Zh (m+2)).2.2.2.2.1) (r6:=(Zh (m+2)).2.2.2.2.2) (F:=(Zh m).1) hp hq p2 q2 ?_ hF
    refine Z8u (r1:=(Zh (m+1)).1) (r2:=(Zh (m+1)).2.1) (r3:=(Zh (m+1)).2.2.1) (r4:=(Zh (m+1)).2.2.2.1) (r6:=(Zh (m+1)).2.2.2.2.2) (F:=(Zh (m+1)).2.2.2.2.1) (fun x hx y hy _ => ?_) hp.m.k hq.m.k
    obtain ⟨e,b,h1,_,_⟩:=hF x hx y hy
    refine ⟨⟨x.At,e⟩,b,?_,?_⟩
    ·show ((Zh m).1 x.E y.E).bind _=_
     rw [h1]
     rfl
    unfold fK
    rw [h1]
    cases b <;> rfl
   rw [bn q2,cond_false,bn (show ¬ p.Kind=3 by omega),cond_false,cond_false,cond_false]
   exact ⟨_,_,rfl,fun h=>(by cases h),fun _=>Z2y hp.z hq.z (.inl ⟨p2,by omega⟩)⟩
  have p3:p.Kind=3:=by omega
  rw [bn p2,cond_false,cond_false,bq p3,cond_true]
  by_cases q3:q.Kind=3
  ·rw [bq q3,cond_true]
   by_cases hl:p.List_=q.List_
   ·rw [bq hl,cond_true]
    have lp:LI q.List_ p:=⟨hp,p3,hl⟩
    have lq:LI q.List_ q:=⟨hq,q3,rfl⟩
    refine Ycm (r1:=(Zh (m+2)).1) (r2:=(Zh (m+2)).2.1) (r3:=(Zh (m+2)).2.2.1) (r4:=(Zh (m+2)).2.2.2.1) (r5:=(Zh (m+2)).2.2.2.2.1) (r6:=(Zh (m+2)).2.2.2.2.2) lp lq fun c hc hn=>Z8i (r1:=(Zh (m+1)).1) (r2:=(Zh (m+1)).2.1) (r3:=(Zh (m+1)).2.2.1) (r4:=(Zh (m+1)).2.2.2.1) (r5:=(Zh (m+1)).2.2.2.2.1) (r6:=(Zh (m+1)).2.2.2.2.2) lp lq hc hn fun _ _ m1 m2 f1 _=>ih (m+1) (by omega) c.P.E c.Q.E m1 m2 ?_
    obtain ⟨_,y,hy,_,h2,_⟩:=f1
    rw [h2]
    have:=U6 hy
    omega
   rw [bn hl]
   exact ⟨_,_,rfl,fun h=>(by cases h),fun _=>Z2y hp.z hq.z (.inr (.inr ⟨p3,q3,hl⟩))⟩
  rw [bn q3]
  exact ⟨_,_,rfl,fun h=>(by cases h),fun _=>Z2y hp.z hq.z (.inr (.inl ⟨p3,by omega⟩))⟩
theorem Zwo:∀ (k:Nat),LE2 (Zh k).1 (Zh (k+1)).1∧LE2 (Zh k).2.1 (Zh (k+1)).2.1∧LE2 (Zh k).2.2.1 (Zh (k+1)).2.2.1∧LE2 (Zh k).2.2.2.1 (Zh (k+1)).2.2.2.1∧LE2 (Zh k).2.2.2.2.1 (Zh (k+1)).2.2.2.2.1∧∀ c r,(Zh k).2.2.2.2.2 c=some r→(Zh (k+1)).2.2.2.2.2 c=some r
 | 0=>⟨fun x y r h=>(by cases h),fun x y r h=>(by cases h),fun x y r h=>(by cases h),fun x y r h=>(by cases h),fun x y r h=>(by cases h),fun c r h=>by cases h⟩
 | k+1=>by
  obtain ⟨i1,i2,i3,i4,i5,i6⟩:=Zwo k
  have I:∀ {α:Type} {o:Option α} (r:α),o=some r→o=some r:=fun _ q=>q
  refine ⟨fun e t r h => ?_,fun e t r h => ?_,fun e t r h => ?_,fun s o r h => ?_,fun s e r h => ?_,fun c r h => ?_⟩
  ·refine K0 _ I (K0 _ I (K0 _ I (K0 _ I (K0 _ (fun _ => ?_) (K0 _ (fun _ => ?_) I))))) r h
   ·exact X0 (fun x q=>i2 _ _ x q) (fun _ _ q=>q)
   exact X0 (fun x q=>i3 _ _ x q) (fun _ _ q=>q)
  ·exact X0 (fun _ q=>q) (fun _ _=>X0 (fun x q=>i4 _ _ x q) fun _ _ q=>q) h
  ·refine X0 (fun _ q=>q) (fun z=>K0 _ I (fun _=>X0 (fun x=>Zql fun s y q => ?_) fun _ _ q=>q)) h
   exact K0 _ (fun _=>X0 (fun _ q=>q) fun _ _=>X0 (fun x q=>i6 _ x q) fun _ _ q=>q) I y q
  ·refine X0 (fun x=>Zql fun s y q => ?_) (fun _ _ q=>q) h
   exact K0 _ (fun _=>X0 (fun _ q=>q) fun _ _=>X0 (fun _ q=>q) fun _ _=>X0 (fun _ q=>q) fun _ _=>X0 (fun _ q=>q) fun _=>K0 _ I (fun _=>X0 (fun _ q=>q) fun _ _=>X0 (fun _ q=>q) fun _ _=>X0 (fun _ q=>q) fun _ _=>X0 (fun _ q=>q) fun _=>K0 _ I (fun _=>X0 (fun _ q=>q) fun _ _=>X0 (fun _ q=>q) fun _ _=>X0 (fun x q=>i5 _ _ x q) fun _ _ q=>q))) I y q
  ·exact X0 (fun x q=>i1 _ _ x q) (fun _ _ q=>q) h
  exact K0 _ I (K0 _ I (K0 _ I (K0 _ I (K0 _ I (fun _=>X0 (fun x q=>i1 _ _ x q) fun _ _ q=>q))))) r h
theorem Z5t {p q:Ed} (hp:MC p) (hq:MC q):(∃ e,Kh p q=some (nE e,true)∧RS e p q)∨(Kh p q=some (eS0,false)∧NE p q):=by
 obtain ⟨e,b,h1,h2,h3⟩:=Ycn (4 * SizeOf.sizeOf p+1) p q hp hq (by omega)
 have hm:Zin p q=some (e,b):=Zz6 (fun k r=>(Zwo k).1 p q r) h1
 unfold Kh
 rw [hm,Option.bind_some]
 cases b with
 | true =>
  have rs:=h2 rfl
  refine .inl ⟨e,?_,rs⟩
  simp only [Bool.not_true,cond_false]
  rw [Yai rs.b rs.g]
  rfl
 | false=>exact .inr ⟨rfl,h3 rfl⟩
def QS (Q:Ed→Prop) (o:EO):Prop:=(∀ t∈o.L,pt t≤1000000)∧Q o.E
structure SI (Q:Ed→Prop) (s:NW):Prop where
 out:∀ o∈s.out,QS Q o
 gone:∀ t∈s.gone,pt t≤1000000
 come:∀ t∈s.come,pt t≤1000000
theorem SI.fl {Q:Ed→Prop} (q0:Q eS0) {s:NW} (h:SI Q s):∀ o∈s.flush,QS Q o:=fun o ho=>by
 unfold NW.flush at ho
 rcases List.mem_append.1 ho with ho | ho
 ·exact h.out o ho
 rcases List.mem_append.1 ho with ho | ho
 ·by_cases hg:s.gone=[]
  ·rw [hg] at ho;simp [Zdm] at ho
  rw [Zgq hg,List.mem_singleton] at ho
  subst ho;exact ⟨h.gone,q0⟩
 by_cases hg:s.come=[]
 ·rw [hg] at ho;simp [Zep] at ho
 rw [Zgr hg,List.mem_singleton] at ho
 subst ho;exact ⟨h.come,q0⟩
theorem Yfc:ST eS0 := .mk _ (by show pt Jd≤_;rw [Z7t];omega) (by show pt Jd≤_;rw [Z7t];omega) (by simp [eS0]) (by simp [eS0]) (by simp [eS0])
theorem Ydk:LM eS0 := .mk _ (by simp [eS0]) (by simp [eS0]) (by simp [eS0]) (by simp [eS0,Qb]) (by simp [eS0]) (by simp [eS0])
theorem Yc5 (os:List EO):Qb (os.map tO)=Qb os:=by
 unfold Qb
 rw [List.map_map]
 congr 1
 exact List.map_congr_left fun o _=>Ybe o
theorem Yfe (o:EO):(tO o).E=o.E∨(tO o).E=tE o.E:=by
 unfold tO
 split
 ·exact .inl rfl
 split
 ·exact .inl rfl
 split
 ·exact .inr rfl
 exact .inl rfl
theorem ST.tE {e:Ed} (h:ST e):ST (tE e):=by
 induction h with
 | mk e ho hn hl ik io jk jo =>
  rw [Zi0]
  refine .mk _ hn ho (fun o hm => ?_) (fun k hk => ?_) (fun o hm => ?_)
  ·obtain ⟨x,hx,rfl⟩:=List.mem_map.1 hm
   rw [Ybc]
   exact hl x hx
  ·obtain ⟨x,hx,rfl⟩:=List.mem_map.1 hk
   exact jk x hx
  obtain ⟨x,hx,rfl⟩:=List.mem_map.1 hm
  rcases Yfe x with h | h
  ·rw [h];exact io x hx
  rw [h];exact jo x hx
theorem LM.tE {e:Ed} (h:LM e):LM (tE e):=by
 induction h with
 | mk e hw hk ho hs ik io jk jo =>
  rw [Zi0]
  refine .mk _ (by simp only [List.length_map];exact hw) (by simp only [List.length_map];exact hk) (by simp only [List.length_map];exact ho) (by rw [show (Qb (e.Ops.map tO))=Qb e.Ops from Yc5 _];exact hs) (fun k hm => ?_) (fun o hm => ?_)
  ·obtain ⟨x,hx,rfl⟩:=List.mem_map.1 hm
   exact jk x hx
  obtain ⟨x,hx,rfl⟩:=List.mem_map.1 hm
  rcases Yfe x with h | h
  ·rw [h];exact io x hx
  rw [h];exact jo x hx
theorem Z2x {e:Ed} (h:Zkk e=true):LM e:=by rw [Yc1 h];exact Ydk
theorem Yaa:∀ (n:Nat) (e:Ed) (d:Nat),SizeOf.sizeOf e < n→BE e→GN e→ce e≤3000→rE e d=true→LM e
 | 0,_,_,h,_,_,_,_=>by omega
 | n+1,e,d,hn,hb,hg,hc,h=>by
  have hc':=hc
  rw [Z3z] at hc'
  have hk1:e.Kids.length≤(e.Kids.map fun k=>ce k.E).sum:=Zrf fun x _=>Z9n _
  have kk:∀ k∈e.Kids,∀ d',rE k.E d'=true→LM k.E:=fun k hk d' hd'=>by
   have:=Zmj (f:=fun k:S_api_KidEdit=>ce k.E) hk
   exact Yaa n k.E d' (by have:=K7 hk;omega) (hb.ks k hk) (hg.ks k hk) (by omega) hd'
  have oo:∀ o∈e.Ops,∀ d',rE o.E d'=true→LM o.E:=fun o ho d' hd'=>by
   have:=Zmj (f:=fun o:S_api_Op=>ce o.E) ho
   exact Yaa n o.E d' (by have:=U6 ho;omega) (hb.os o ho) (hg.os o ho) (by omega) hd'
  have hlens:=Z7u hb h
  rw [Z0o] at h
  by_cases hd:d=0
  ·rw [if_pos hd] at h;cases h
  rw [if_neg hd] at h
  by_cases h0:e.Kind=0
  ·rw [if_pos h0] at h
   exact Z2x h
  rw [if_neg h0] at h
  by_cases h1:e.Kind=1
  ·rw [if_pos h1] at h
   unfold Zm5 Zml at h
   simp only [Bool.and_eq_true,beq_iff_eq] at h
   have e1:=List.eq_nil_of_length_eq_zero h.1.1.2
   have e2:=List.eq_nil_of_length_eq_zero h.1.2.2
   exact .mk _ (by omega) (by omega) (by omega) (by rw [e2];simp [Qb]) (by rw [e1];simp) (by rw [e2];simp)
  rw [if_neg h1] at h
  by_cases h2:e.Kind=2
  ·rw [if_pos h2] at h
   unfold Zml at h
   simp only [Bool.and_eq_true,beq_iff_eq] at h
   have e2:=List.eq_nil_of_length_eq_zero h.1.2.2
   refine .mk _ (by omega) (by omega) (by omega) (by rw [e2];simp [Qb]) (fun k hk=>kk k hk (d - 1) ?_) (by rw [e2];simp)
   exact Zu7 (Q:=fun k:S_api_KidEdit=>rE k.E (d - 1)=true) (fun p x hx=>by
    unfold okK okP at hx
    simp only [Bool.and_eq_true] at hx
    exact hx.2.2) e.Kids (-1) h.2.2 k hk
  rw [if_neg h2] at h
  by_cases h3:e.Kind=3
  ·rw [if_pos h3] at h
   unfold Zm5 at h
   rw [Bool.and_eq_true,Bool.and_eq_true,Bool.and_eq_true,Bool.and_eq_true,Bool.and_eq_true,Bool.and_eq_true,beq_iff_eq,beq_iff_eq,List.all_eq_true] at h
   obtain ⟨⟨_,_,hk⟩,_,hall,hB⟩:=h
   have e1:=List.eq_nil_of_length_eq_zero hk
   refine .mk _ (by omega) (by omega) (by omega) ?_ (by rw [e1];simp) fun o ho => ?_
   ·rw [hlens] at hB
    have:=Z0w (l:=e.List_) (fun o=>rE o.E (d - 1)) e.Ops (0,0) ⟨⟨by decide,by decide⟩,by decide,by decide⟩ hall (fun o ho=>(hb.l o ho).1) hB
    unfold Zz4 at hB
    rw [Bool.and_eq_true,decide_eq_true_eq,decide_eq_true_eq] at hB
    simp only at this
    omega
   have:=hall o ho
   unfold okO at this
   by_cases k0:o.Kind=0
   ·rw [if_pos k0] at this
    simp only [Bool.and_eq_true] at this
    exact Z2x this.2.2
   rw [if_neg k0] at this
   by_cases k12:o.Kind=1∨o.Kind=2
   ·rw [if_pos k12] at this
    simp only [Bool.and_eq_true] at this
    exact Z2x this.2.2.2
   rw [if_neg k12] at this
   by_cases k3:o.Kind=3
   ·rw [if_pos k3] at this
    simp only [Bool.and_eq_true] at this
    exact oo o ho (d - 1) this.2.2.2.2
   rw [if_neg k3] at this;cases this
  rw [if_neg h3] at h;cases h
theorem Zyx {e:Ed} (hb:BE e):∃ b,Qg e=some b∧(b=true→MC e∧rE e 64=true):=by
 obtain ⟨b,h1,h2⟩:=Ydg hb
 have h3:=Z6v hb (d:=64) (by decide)
 rw [show ((64:Nat):Int)=64 from rfl] at h3
 unfold Qg
 rw [h1,Option.bind_some,h3,Z4e hb]
 refine ⟨b && (rE e 64 && lgt e),?_,fun h => ?_⟩
 ·cases b <;> cases rE e 64 <;> cases lgt e <;> rfl
 simp only [Bool.and_eq_true] at h
 rw [h.1] at h1
 obtain ⟨hc,hs⟩:=Yd2 hb h1
 have hr:=h.2.1
 have hg:=Z65 _ e 64 (Nat.lt_succ_self _) hb (by omega) hr
 exact ⟨⟨Yaw _ e 64 (Nat.lt_succ_self _) hr,hb,hg,hs,Yaa _ e 64 (Nat.lt_succ_self _) hb hg hc hr⟩,hr⟩
theorem RS.wit {e p q:Ed} (h:RS e p q):∃ t u,GT t∧GT u∧(ap p t).bind (ap q)=some u:=by
 obtain ⟨t,g1,g2,_⟩:=Z3f _ e (Nat.lt_succ_self _) h.z h.b
 obtain ⟨u,hu⟩:=Option.isSome_iff_exists.1 g2
 exact ⟨t,u,g1,(Zu3 _ e t u (Nat.lt_succ_self _) h.z h.b g1 hu).1,by rw [← h.f t g1];exact hu⟩
theorem RS.ca {e p q:Ed} (h:RS e p q) {t:Tr} (ht:Bd t) (hp:pt t≤1000000):CA (nE e) t:=⟨h.z.rx.nE h.b h.g,h.b.nE h.g,GN.nE h.b h.g,hp,ht⟩
theorem RS.on {e p q:Ed} (h:RS e p q) {t:Tr} (gt:GT t):ap (nE e) t=(ap p t).bind (ap q):=by rw [Z6n _ e t (Nat.lt_succ_self _) h.z.rx gt.n gt.x,h.f t gt]
def awP:List EO:=[⟨2,0,[⟨10,[1],[]⟩],eS0⟩,⟨0,1,[],eS0⟩]
def awQ:List EO:=[⟨1,0,[⟨10,[1],[]⟩],eS0⟩,⟨0,1,[],eS0⟩]
theorem Z6o:Bd ⟨10,[1],[]⟩ := .mk _ (by simp) (by simp) (by simp) (fun k h=>by simp at h)
theorem Yak:nrm ⟨10,[1],[]⟩=⟨10,[1],[]⟩:=by rw [Zd3 (by simp) (by simp)];rfl
set_option maxRecDepth 20000 in
theorem Ydw:Kh ⟨3,Jd,Jd,[],[],4,awP⟩ ⟨3,Jd,Jd,[],[],4,awQ⟩=some (⟨3,Jd,Jd,[],[],4,[⟨0,1,[],eS0⟩]⟩,true):=by
 let k1:List EO:=[⟨0,1,[],eS0⟩]
 have a1:Ym ⟨awP,0⟩=some (2,1,⟨awP,0⟩):=Option.bind_eq_some_iff.2 ⟨.inl (2,1,awP,0),Z3 rfl,rfl⟩
 have a2:Ym ⟨awP,1⟩=some (0,1,⟨k1,0⟩):=Option.bind_eq_some_iff.2 ⟨.inl (0,1,k1,0),(Yo (s':=(k1,0)) rfl).trans (Z3 rfl),rfl⟩
 have a3:Ym ⟨k1,1⟩=some (0,0,⟨[],0⟩):=Option.bind_eq_some_iff.2 ⟨.inr ([],0),(Yo (s':=([],0)) rfl).trans (Z3 rfl),rfl⟩
 have b1:Ym ⟨awQ,0⟩=some (1,1,⟨awQ,0⟩):=Option.bind_eq_some_iff.2 ⟨.inl (1,1,awQ,0),Z3 rfl,rfl⟩
 have b2:Ym ⟨awQ,1⟩=some (0,1,⟨k1,0⟩):=Option.bind_eq_some_iff.2 ⟨.inl (0,1,k1,0),(Yo (s':=(k1,0)) rfl).trans (Z3 rfl),rfl⟩
 let x1:Pc:=⟨0,⟨2,0,[⟨10,[1],[]⟩],eS0⟩,⟨1,0,[⟨10,[1],[]⟩],eS0⟩⟩
 let x2:Pc:=⟨0,⟨0,1,[],eS0⟩,⟨0,1,[],eS0⟩⟩
 have s1:Jf 1 2 (awP,0,awQ,0,[])=some (.inl (awP,1,awQ,1,[x1])):=Option.bind_eq_some_iff.2 ⟨_,a1,Option.bind_eq_some_iff.2 ⟨_,b1,rfl⟩⟩
 have s2:Jf 1 2 (awP,1,awQ,1,[x1])=some (.inl (k1,1,k1,1,[x1,x2])):=Option.bind_eq_some_iff.2 ⟨_,a2,Option.bind_eq_some_iff.2 ⟨_,b2,rfl⟩⟩
 have s3:Jf 1 2 (k1,1,k1,1,[x1,x2])=some (.inr ([x1,x2],true)):=Option.bind_eq_some_iff.2 ⟨_,a3,Option.bind_eq_some_iff.2 ⟨_,a3,rfl⟩⟩
 have hl:Zt (Jf 1 2) (awP,0,awQ,0,[])=some ([x1,x2],true):=by rw [Yo s1,Yo s2,Z3 s3]
 have hB:Zbp awP awQ=some ([x1,x2],true):=Option.bind_eq_some_iff.2 ⟨_,Option.bind_eq_some_iff.2 ⟨_,hl,rfl⟩,rfl⟩
 have hE:=Z5v (l:=[⟨10,[1],[]⟩]) (m:=[⟨10,[1],[]⟩]) (by simpa using Z6o) (by simpa using Z6o) (by simp)
 rw [(Zva _ _).2 rfl] at hE
 have c1:(Zh 1).2.2.2.2.2 x1=some ([],true):=Option.bind_eq_some_iff.2 ⟨_,hE,rfl⟩
 have d1:Xu (Zh 1).2.2.2.2.2 ([x1,x2],true) (0,[])=some (.inl (1,[])):=Option.bind_eq_some_iff.2 ⟨_,c1,rfl⟩
 have d2:Xu (Zh 1).2.2.2.2.2 ([x1,x2],true) (1,[])=some (.inl (2,k1)):=rfl
 have d3:Xu (Zh 1).2.2.2.2.2 ([x1,x2],true) (2,k1)=some (.inr (.inr k1)):=rfl
 have d:Zt (Xu (Zh 1).2.2.2.2.2 ([x1,x2],true)) (0,[])=some (.inr k1):=by rw [Yo d1,Yo d2,Z3 d3]
 have f:(Zh 2).2.2.1 ⟨3,Jd,Jd,[],[],4,awP⟩ ⟨3,Jd,Jd,[],[],4,awQ⟩=some (⟨3,Jd,Jd,[],[],4,k1⟩,true):=Option.bind_eq_some_iff.2 ⟨_,hB,Option.bind_eq_some_iff.2 ⟨_,d,rfl⟩⟩
 have f2:(Zh 3).1 ⟨3,Jd,Jd,[],[],4,awP⟩ ⟨3,Jd,Jd,[],[],4,awQ⟩=some (⟨3,Jd,Jd,[],[],4,k1⟩,true):=Option.bind_eq_some_iff.2 ⟨_,f,rfl⟩
 have hm:Zin ⟨3,Jd,Jd,[],[],4,awP⟩ ⟨3,Jd,Jd,[],[],4,awQ⟩=some (⟨3,Jd,Jd,[],[],4,k1⟩,true):=Zz6 (fun k r=>(Zwo k).1 _ _ r) f2
 have bk:BE ⟨3,Jd,Jd,[],[],4,k1⟩ := .mk _ Zgh Zgh (by simp) (by simp) (by simp) (by simp) (by simp [k1]) (by simp [k1]) (by simp [k1,Zt3])
 have gk:GN ⟨3,Jd,Jd,[],[],4,k1⟩ := .mk _ (by simp) (by simp) (by simp [k1]) (by simp [k1,Qb,Xm]) (by simp [k1,opk]) (by simp) (by simp [k1,Zvj])
 have hn:nE ⟨3,Jd,Jd,[],[],4,k1⟩=⟨3,Jd,Jd,[],[],4,k1⟩:=by
  rw [Zge]
  simp [k1,Zro,Gh,stN,s0N,NW.flush,Zdm,Zep,Uv]
 have hq:=Yai bk gk
 rw [hn] at hq
 exact Option.bind_eq_some_iff.2 ⟨_,hm,Option.bind_eq_some_iff.2 ⟨_,hq,rfl⟩⟩
theorem Zma:Vi=some true:=by
 have hb:BE ⟨3,Jd,Jd,[],[],4,awP⟩ := .mk _ Zgh Zgh (by simp) (by simp) (by simp) (by simp) (by simp [awP]) (fun o ho=>by
   simp only [awP,List.mem_cons,List.not_mem_nil,or_false] at ho
   rcases ho with h | h <;> subst h <;> simp
   exact Z6o) (fun o ho=>by
   simp only [awP,List.mem_cons,List.not_mem_nil,or_false] at ho
   rcases ho with h | h <;> subst h <;> exact Zt3)
 have hg:GN ⟨3,Jd,Jd,[],[],4,awP⟩ := .mk _ (by simp) (by simp) (by simp [awP]) (by simp [awP,Qb,Xm]) (by simp [awP,opk]) (by simp) (fun o ho=>by
   simp only [awP,List.mem_cons,List.not_mem_nil,or_false] at ho
   rcases ho with h | h <;> subst h <;> exact Zvj)
 have hv:nE (tE ⟨3,Jd,Jd,[],[],4,awP⟩)=⟨3,Jd,Jd,[],[],4,awQ⟩:=by
  rw [Zi0,Zge]
  simp [awP,awQ,tO,Zro,Gh,stN,s0N,Yak,NW.flush,Zdm,Zep,Uv]
 have h:=Z1r hb hg
 rw [hv] at h
 have bt:Bd ⟨4,[],[⟨10,[1],[]⟩]⟩ := .mk _ (by simp) (by simp) (by simp) (fun k h=>by rw [List.mem_singleton.1 h];exact Z6o)
 have ca:CA ⟨3,Jd,Jd,[],[],4,[⟨0,1,[],eS0⟩]⟩ ⟨4,[],[⟨10,[1],[]⟩]⟩:=⟨.li _ rfl (by simp) (by simp [opk]) (by simp) (by simp),.mk _ Zgh Zgh (by simp) (by simp) (by simp) (by simp) (by simp) (by simp) (by simp [Zt3]),.mk _ (by simp) (by simp) (by simp) (by simp [Qb,Xm]) (by simp [opk]) (by simp) (by simp [Zvj]),by simp [Zxj],bt⟩
 have hA:=Zq9 ca
 have hN:nrm ⟨4,[],[⟨10,[1],[]⟩]⟩=⟨4,[],[⟨10,[1],[]⟩]⟩:=by rw [Zd3 (by simp) (by simp)];simp [Yak]
 have hv2:ap ⟨3,Jd,Jd,[],[],4,[⟨0,1,[],eS0⟩]⟩ ⟨4,[],[⟨10,[1],[]⟩]⟩=some ⟨4,[],[⟨10,[1],[]⟩]⟩:=by
  rw [Zxb rfl,if_pos rfl]
  simp only
  rw [Zh7,Zje rfl]
  rfl
 rw [hN,hv2] at hA
 unfold Vi
 refine Option.bind_eq_some_iff.2 ⟨_,h,Option.bind_eq_some_iff.2 ⟨_,Ydw,Option.bind_eq_some_iff.2 ⟨_,hA,?_⟩⟩⟩
 rfl
theorem Z6z {e:Ed} (hb:BE e):∃ b,Vf e true=some b∧Qg e=some b:=by
 obtain ⟨b,h,_⟩:=Yd5 hb
 unfold Vf
 rw [h]
 exact ⟨b,by cases b <;> rfl,rfl⟩
theorem Z9z {t:Tr} (h:Bd t):∃ b,Zd2 t=some b∧(b=true→TX t∧pt t≤3000):=by
 obtain ⟨b,h1,h2⟩:=Yd3 h
 have h3:=Zts h (d:=64) (by decide)
 rw [show ((64:Nat):Int)=64 from rfl] at h3
 unfold Zd2
 rw [h1,Option.bind_some,h3]
 refine ⟨b && (rt t 64 && (t.Kind != 10)),?_,fun q => ?_⟩
 ·cases b <;> cases rt t 64 <;> cases (t.Kind != 10) <;> rfl
 simp only [Bool.and_eq_true] at q
 exact ⟨Z4u _ t 64 (Nat.lt_succ_self _) q.2.1,h2 q.1⟩
theorem Ye1:MC eS0:=⟨.same _ rfl,Zt3,Zvj,Yfc,Ydk⟩
theorem Z6s {p q:Ed} (hp:MC p) (hq:MC q):∃ X b,Kh p q=some (X,b)∧BE X∧(b=true→∃ e,X=nE e∧RS e p q)∧(b=false→X=eS0∧NE p q):=by
 rcases Z5t hp hq with ⟨e,c1,c2⟩ | ⟨c1,c2⟩
 ·exact ⟨_,_,c1,c2.b.nE c2.g,fun _=>⟨e,rfl,c2⟩,fun h=>by cases h⟩
 exact ⟨_,_,c1,Zt3,fun h=>(by cases h),fun _=>⟨rfl,c2⟩⟩
theorem Ydh {X:Ed} (hb:BE X) (b:Bool) (h0:b=false→X=eS0):∃ c,Vf X b=some c∧(c=true→MC X):=by
 cases b with
 | false=>exact ⟨true,rfl,fun _=>by rw [h0 rfl];exact Ye1⟩
 | true =>
  obtain ⟨c,h1,h2⟩:=Zyx hb
  unfold Vf
  rw [h1]
  exact ⟨c,by cases c <;> rfl,fun h=>(h2 h).1⟩
theorem Zys {p q r:Ed} {t:Tr} (bp:BE p) (bq:BE q) (br:BE r) (bt:Bd t):G7 p q r t=some true:=by
 obtain ⟨b1,g1,g2⟩:=Zyx bp
 obtain ⟨b2,g3,g4⟩:=Zyx bq
 obtain ⟨b3,g7,g8⟩:=Zyx br
 obtain ⟨b4,g5,g6⟩:=Z9z bt
 unfold G7
 rw [g1,Option.bind_some]
 cases b1 with
 | false=>rw [cond_false,Option.bind_some,cond_true,Zma];rfl
 | true =>
 rw [cond_true,g3,Option.bind_some]
 cases b2 with
 | false=>rw [cond_false,Option.bind_some,cond_true,Zma];rfl
 | true =>
 rw [cond_true,g7,Option.bind_some]
 cases b3 with
 | false=>rw [cond_false,Option.bind_some,cond_true,Zma];rfl
 | true =>
 rw [cond_true,g5,Option.bind_some,Option.bind_some]
 cases b4 with
 | false=>rw [Zma];rfl
 | true =>
  obtain ⟨mp,rp⟩:=g2 rfl
  obtain ⟨mq,rq⟩:=g4 rfl
  obtain ⟨mr,rr⟩:=g8 rfl
  obtain ⟨tx,pu⟩:=g6 rfl
  have gT:=GT.of bt tx
  obtain ⟨X,d1,x1,x2,x3,x4⟩:=Z6s mp mq
  obtain ⟨Y,d2,y1,y2,y3,y4⟩:=Z6s mq mr
  obtain ⟨c1,e1,e2⟩:=Ydh x2 d1 fun h=>(x4 h).1
  obtain ⟨c2,e3,e4⟩:=Ydh y2 d2 fun h=>(y4 h).1
  simp only [Bool.not_true,cond_false]
  rw [x1,Option.bind_some,y1,Option.bind_some]
  simp only
  rw [e1,Option.bind_some]
  cases c1 with
  | false=>rw [cond_false,Option.bind_some,cond_true,Zma];rfl
  | true =>
  rw [cond_true,e3,Option.bind_some,Option.bind_some]
  cases c2 with
  | false=>rw [Zma];rfl
  | true =>
   have mX:=e2 rfl
   have mY:=e4 rfl
   obtain ⟨U,d3,u1,u2,u3,u4⟩:=Z6s mX mr
   obtain ⟨V,d4,v1,v2,v3,v4⟩:=Z6s mp mY
   simp only [Bool.not_true,cond_false]
   rw [u1,Option.bind_some,v1,Option.bind_some]
   simp only
   have gq:∀ t v,GT t→ap p t=some v→GT v:=fun t v gt h=>(Zu3 _ p t v (Nat.lt_succ_self _) mp.z mp.b gt h).1
   -- three, one behind the other
   have two1:d1=true→∀ t,GT t→(ap X t).bind (ap r)=((ap p t).bind (ap q)).bind (ap r):=fun h t gt=>by
    obtain ⟨e,rfl,rs⟩:=x3 h
    rw [rs.on gt]
   have two2:d2=true→∀ t,GT t→(ap p t).bind (ap Y)=((ap p t).bind (ap q)).bind (ap r):=fun h t gt=>by
    obtain ⟨e,rfl,rs⟩:=y3 h
    cases hv:ap p t with
    | none=>rfl
    | some v=>rw [Option.bind_some,Option.bind_some,rs.on (gq t v gt hv)]
   have no1:d1=false∨d3=false→∀ t,GT t→((ap p t).bind (ap q)).bind (ap r)=none:=fun h t gt=>by
    cases d1 with
    | false=>rw [(x4 rfl).2 t gt];rfl
    | true=>rw [← two1 rfl t gt];exact (u4 (h.resolve_left (by simp))).2 t gt
   have no2:d2=false∨d4=false→∀ t,GT t→((ap p t).bind (ap q)).bind (ap r)=none:=fun h t gt=>by
    cases d2 with
    | false =>
     rw [Option.bind_assoc]
     cases hv:ap p t with
     | none=>rfl
     | some v=>exact (y4 rfl).2 v (gq t v gt hv)
    | true=>rw [← two2 rfl t gt];exact (v4 (h.resolve_left (by simp))).2 t gt
   have yes1:d1=true→d3=true→∃ t u,GT t∧((ap p t).bind (ap q)).bind (ap r)=some u:=fun h h3=>by
    obtain ⟨f,_,rs⟩:=u3 h3
    obtain ⟨t,u,w1,_,w3⟩:=rs.wit
    exact ⟨t,u,w1,by rw [← two1 h t w1];exact w3⟩
   have yes2:d2=true→d4=true→∃ t u,GT t∧((ap p t).bind (ap q)).bind (ap r)=some u:=fun h h3=>by
    obtain ⟨f,_,rs⟩:=v3 h3
    obtain ⟨t,u,w1,_,w3⟩:=rs.wit
    exact ⟨t,u,w1,by rw [← two2 h t w1];exact w3⟩
   have AB:(d3 && d1)=(d4 && d2):=by
    by_cases h1:d1=true∧d3=true
    ·obtain ⟨t,u,w1,w2⟩:=yes1 h1.1 h1.2
     by_cases h2:d2=true∧d4=true
     ·rw [h1.1,h1.2,h2.1,h2.2]
     rw [no2 (by cases d2 <;> cases d4 <;> simp at h2 ⊢) t w1] at w2
     cases w2
    by_cases h2:d2=true∧d4=true
    ·obtain ⟨t,u,w1,w2⟩:=yes2 h2.1 h2.2
     rw [no1 (by cases d1 <;> cases d3 <;> simp at h1 ⊢) t w1] at w2
     cases w2
    revert h1 h2
    cases d1 <;> cases d2 <;> cases d3 <;> cases d4 <;> simp
   have idle:(d3 && d1)=false→(d4 && d2)=false→∀ Z:Option Bool,∀ W:Option Bool,(cond ((cond d3 d1 false) != (cond d4 d2 false)) (some true) (cond d3 (cond d1 W (some (cond ((cond d3 d1 false) != (cond d4 d2 false)) true false))) (some (cond ((cond d3 d1 false) != (cond d4 d2 false)) true false))))=some false:=fun h1 h2 _ W=>by
    revert h1 h2
    cases d1 <;> cases d2 <;> cases d3 <;> cases d4 <;> simp
   cases hA:(d3 && d1) with
   | false =>
    have hB:=hA
    rw [AB] at hB
    rw [Zma]
    revert hA hB
    cases d1 <;> cases d2 <;> cases d3 <;> cases d4 <;> simp
   | true =>
    have hB:=hA
    rw [AB] at hB
    rw [Bool.and_eq_true] at hA hB
    obtain ⟨rfl,rfl⟩:=hA
    obtain ⟨rfl,rfl⟩:=hB
    obtain ⟨f,rfl,rs⟩:=u3 rfl
    obtain ⟨f',rfl,rs'⟩:=v3 rfl
    obtain ⟨z1,z2,_⟩:=Z6z u2
    obtain ⟨z3,z4,_⟩:=Z6z v2
    have key:ap (nE f) (nrm t)=ap (nE f') (nrm t):=by rw [rs.on gT,rs'.on gT,two1 rfl _ gT,two2 rfl _ gT]
    simp only [bne_self_eq_false,cond_false,cond_true]
    rw [z2,Option.bind_some]
    cases z1 with
    | false=>rw [Zma];rfl
    | true =>
    rw [cond_true,z4,Option.bind_some,Option.bind_some]
    cases z3 with
    | false=>rw [Zma];rfl
    | true =>
     simp only [Bool.not_true,cond_false,cond_true]
     rw [Zq9 (rs.ca bt (by omega)),Option.bind_some,Zq9 (rs'.ca bt (by omega)),Option.bind_some]
     have bz:∀ u,ap (nE f') (nrm t)=some u→Bd u:=fun u hu=>Zzf (rs'.ca bt (by omega)) hu
     rw [key]
     cases hu:ap (nE f') (nrm t) with
     | none=>simp only [BEq.rfl,cond_true];rw [Z7z Zgh Zgh,eqT_iff.2 rfl,Option.bind_some,cond_true,Zma];rfl
     | some u=>have bu:=bz u hu;simp only [BEq.rfl,cond_true];rw [Z7z bu bu,eqT_iff.2 rfl,Option.bind_some,cond_true,Zma];rfl
end Go.Proofs.Ytbjcopkgdjombaa
