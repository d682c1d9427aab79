/- Part H27 of the ghost memory: lemmas and contracts used by the proofs of this seat's laws; each theorem bears its own conditions. -/
import Derived.Test.YtocpndlnbmjpmaaH26
namespace Go.Proofs.Ytocpndlnbmjpmaa
open Go.RowKit
set_option linter.unusedVariables false
set_option linter.unusedSimpArgs false
theorem Z3 {X:Objs} {i j:Nat} {b c:Option GObj} (h:i≠j):(X.upd j b).upd i c=(X.upd i c).upd j b:=by
 funext k
 unfold Objs.upd
 by_cases h1:k=j
 ·subst h1;simp [Ne.symm h]
 simp [h1]
theorem Xs {O:Objs} {n k j:Nat} {a b:Option GObj} {l1 l2:List (Option GObj)} (h:l1.take k=l2.take k):agree (fun i=>i < n+k∧¬ i=j) (Yn (O.upd j a) n l1) (Yn (O.upd j b) n l2):=fun i hi=>by
 unfold Yn
 split
 ·rw [Xe _ _ hi.2,Xe _ _ hi.2]
 have e1:=congrArg (fun l=>l[i - n]?) h
 simp only [List.getElem?_take,if_pos (show i - n < k by omega)] at e1
 rw [e1]
theorem Xj {O:Objs} {n j:Nat} {a b:Option GObj} {l1 l2:List (Option GObj)}:agree (fun i=>i < n∧¬ i=j) (Yn (O.upd j a) n l1) (Yn (O.upd j b) n l2):=Xs (k:=0) rfl
section
variable {P:Program} {T:gZ} {O O' X X':Objs} {n n' k ba:Nat} {E E':Env}
theorem Kl {i j u:Nat} {q q' p p' s s':GObj} {l l':List (Option GObj)} (hU:Und X n) (hk:l'.length=k) (hn:E'.n=E.n)
  (h:yK q q'∧bV (Yn (((X.upd i (some q)).upd j (some p)).upd u (some s)) n l) (Yn (((X.upd i (some q')).upd j (some p')).upd u (some s')) n l') (n+k) q.cells q'.cells∧yK p p'∧bV (Yn (((X.upd i (some q)).upd j (some p)).upd u (some s)) n l) (Yn (((X.upd i (some q')).upd j (some p')).upd u (some s')) n l') (n+k) p.cells p'.cells∧yK s s'∧bV (Yn (((X.upd i (some q)).upd j (some p)).upd u (some s)) n l) (Yn (((X.upd i (some q')).upd j (some p')).upd u (some s')) n l') (n+k) s.cells s'.cells∧fM (Yn (((X.upd i (some q)).upd j (some p)).upd u (some s)) n l) (Yn (((X.upd i (some q')).upd j (some p')).upd u (some s')) n l') (n+k) l l'∧Za4 (Yn (((X.upd i (some q)).upd j (some p)).upd u (some s)) n l) (Yn (((X.upd i (some q')).upd j (some p')).upd u (some s')) n l') (n+k) E.l E'.l) :
  Fit E (Yn (((X.upd i (some q)).upd j (some p)).upd u (some s)) n l) E' (Yn (((X.upd i (some q')).upd j (some p')).upd u (some s')) n l') (n+k) :=
 ⟨hn,eD hk (OutLe.upd2 (OutLe.upd2 (OutLe.upd hU (Nat.le_add_right _ _) h.1 h.2.1) h.2.2.1 h.2.2.2.1) h.2.2.2.2.1 h.2.2.2.2.2.1) h.2.2.2.2.2.2.1,h.2.2.2.2.2.2.2⟩
theorem Zoi {l l':List (Option GObj)} {k k' i j u:Nat} {q q' p p' s s':GObj} (hU:Und X ba) (pi ta:List Nat) (hk:l.length=k) (hk':l'.length=k') (hp:pi.length=k) (hc:Zlu pi ta (l'.map Option.isSome)=true)
  (hn:E'.n=E.n∧E'.keep=E.keep) (h:qC (xH ba pi) q q'∧qC (xH ba pi) p p'∧qC (xH ba pi) s s'∧tW (xH ba pi) l l' ta∧mR (xH ba pi) E.l=E'.l):Fit2 ba E (Yn (((X.upd i (some q)).upd j (some p)).upd u (some s)) ba l) (ba+k) E' (Yn (((X.upd i (some q')).upd j (some p')).upd u (some s')) ba l') (ba+k') :=
 Zlw pi ta ((((OutRen.refl hU).upd h.1).upd h.2.1).upd h.2.2.1) hk hk' hp hc hn h.2.2.2
theorem Zcs {r:G} {rs:List ResultVar} {i j u n1 n3:Nat} {q1 q' p1 p' s1 s':GObj} {L2 L3:List (Option GObj)} {e:Exit} {E2:Env} {O1:Objs} (he:e = .normal∨e = .ret) (hU:Und X n) (hk:L2.length=k) (gs:List G)
  (hF:Fit2 n E O1 n1 E2 (Yn (((X.upd i (some q1)).upd j (some p1)).upd u (some s1)) n L3) n3)
  (h:xS T (Yn (((X.upd i (some q1)).upd j (some p1)).upd u (some s1)) n L3) E2 rs=some gs∧yK q1 q'∧bV (Yn (((X.upd i (some q1)).upd j (some p1)).upd u (some s1)) n L3) (Yn (((X.upd i (some q')).upd j (some p')).upd u (some s')) n L2) (n+k) q1.cells q'.cells∧yK p1 p'∧bV (Yn (((X.upd i (some q1)).upd j (some p1)).upd u (some s1)) n L3) (Yn (((X.upd i (some q')).upd j (some p')).upd u (some s')) n L2) (n+k) p1.cells p'.cells∧yK s1 s'∧bV (Yn (((X.upd i (some q1)).upd j (some p1)).upd u (some s1)) n L3) (Yn (((X.upd i (some q')).upd j (some p')).upd u (some s')) n L2) (n+k) s1.cells s'.cells∧fM (Yn (((X.upd i (some q1)).upd j (some p1)).upd u (some s1)) n L3) (Yn (((X.upd i (some q')).upd j (some p')).upd u (some s')) n L2) (n+k) L3 L2∧wk (Yn (((X.upd i (some q1)).upd j (some p1)).upd u (some s1)) n L3) (Yn (((X.upd i (some q')).upd j (some p')).upd u (some s')) n L2) (n+k) (gone gs) r) :
  Fin T rs r n (Yn (((X.upd i (some q')).upd j (some p')).upd u (some s')) n L2) (n+k) e E O1 n1 :=
 ⟨he,E2,_,n3,gs,hF,h.1,eD hk (OutLe.upd2 (OutLe.upd2 (OutLe.upd hU (Nat.le_add_right _ _) h.2.1 h.2.2.1) h.2.2.2.1 h.2.2.2.2.1) h.2.2.2.2.2.1 h.2.2.2.2.2.2.1) h.2.2.2.2.2.2.2.1,h.2.2.2.2.2.2.2.2⟩
end
theorem Zww (X:Objs) (n:Nat) (x0 x1 x2 x3 x4 x5 x6 x7 x8 x9 dB sH gR kM yH kO x16 x17 x18 nT x20 x21 x22:Option GObj) (l':List (Option GObj)):Yn (Yn X n [x0,x1,x2,x3,x4,x5,x6,x7,x8,x9,dB,sH,gR,kM,yH,kO,x16,x17,x18,nT,x20,x21,x22]) (n+23) l'=Yn X n (x0::x1::x2::x3::x4::x5::x6::x7::x8::x9::dB::sH::gR::kM::yH::kO::x16::x17::x18::nT::x20::x21::x22::l'):=G0 X n [x0,x1,x2,x3,x4,x5,x6,x7,x8,x9,dB,sH,gR,kM,yH,kO,x16,x17,x18,nT,x20,x21,x22] l' rfl
theorem Zwx (X:Objs) (n:Nat) (x0 x1 x2 x3 x4 x5 x6 x7 x8 x9 dB sH gR kM yH kO x16 x17 x18 nT x20 x21 x22 x23:Option GObj) (l':List (Option GObj)):Yn (Yn X n [x0,x1,x2,x3,x4,x5,x6,x7,x8,x9,dB,sH,gR,kM,yH,kO,x16,x17,x18,nT,x20,x21,x22,x23]) (n+24) l'=Yn X n (x0::x1::x2::x3::x4::x5::x6::x7::x8::x9::dB::sH::gR::kM::yH::kO::x16::x17::x18::nT::x20::x21::x22::x23::l'):=G0 X n [x0,x1,x2,x3,x4,x5,x6,x7,x8,x9,dB,sH,gR,kM,yH,kO,x16,x17,x18,nT,x20,x21,x22,x23] l' rfl
theorem Zwy (X:Objs) (n:Nat) (x0 x1 x2 x3 x4 x5 x6 x7 x8 x9 dB sH gR kM yH kO x16 x17 x18 nT x20 x21 x22 x23 x24 x25 x26 x27 x28 x29:Option GObj) (l':List (Option GObj)):Yn (Yn X n [x0,x1,x2,x3,x4,x5,x6,x7,x8,x9,dB,sH,gR,kM,yH,kO,x16,x17,x18,nT,x20,x21,x22,x23,x24,x25,x26,x27,x28,x29]) (n+30) l'=Yn X n (x0::x1::x2::x3::x4::x5::x6::x7::x8::x9::dB::sH::gR::kM::yH::kO::x16::x17::x18::nT::x20::x21::x22::x23::x24::x25::x26::x27::x28::x29::l'):=G0 X n [x0,x1,x2,x3,x4,x5,x6,x7,x8,x9,dB,sH,gR,kM,yH,kO,x16,x17,x18,nT,x20,x21,x22,x23,x24,x25,x26,x27,x28,x29] l' rfl
theorem Zwz (X:Objs) (n:Nat) (x0 x1 x2 x3 x4 x5 x6 x7 x8 x9 dB sH gR kM yH kO x16 x17 x18 nT x20 x21 x22 x23 x24 x25 x26 x27 x28 x29 x30:Option GObj) (l':List (Option GObj)):Yn (Yn X n [x0,x1,x2,x3,x4,x5,x6,x7,x8,x9,dB,sH,gR,kM,yH,kO,x16,x17,x18,nT,x20,x21,x22,x23,x24,x25,x26,x27,x28,x29,x30]) (n+31) l'=Yn X n (x0::x1::x2::x3::x4::x5::x6::x7::x8::x9::dB::sH::gR::kM::yH::kO::x16::x17::x18::nT::x20::x21::x22::x23::x24::x25::x26::x27::x28::x29::x30::l'):=G0 X n [x0,x1,x2,x3,x4,x5,x6,x7,x8,x9,dB,sH,gR,kM,yH,kO,x16,x17,x18,nT,x20,x21,x22,x23,x24,x25,x26,x27,x28,x29,x30] l' rfl
theorem Zw0 (X:Objs) (n:Nat) (x0 x1 x2 x3 x4 x5 x6 x7 x8 x9 dB sH gR kM yH kO x16 x17 x18 nT x20 x21 x22 x23 x24 x25 x26 x27 x28 x29 x30 x31:Option GObj) (l':List (Option GObj)):Yn (Yn X n [x0,x1,x2,x3,x4,x5,x6,x7,x8,x9,dB,sH,gR,kM,yH,kO,x16,x17,x18,nT,x20,x21,x22,x23,x24,x25,x26,x27,x28,x29,x30,x31]) (n+32) l'=Yn X n (x0::x1::x2::x3::x4::x5::x6::x7::x8::x9::dB::sH::gR::kM::yH::kO::x16::x17::x18::nT::x20::x21::x22::x23::x24::x25::x26::x27::x28::x29::x30::x31::l'):=G0 X n [x0,x1,x2,x3,x4,x5,x6,x7,x8,x9,dB,sH,gR,kM,yH,kO,x16,x17,x18,nT,x20,x21,x22,x23,x24,x25,x26,x27,x28,x29,x30,x31] l' rfl
end Go.Proofs.Ytocpndlnbmjpmaa
