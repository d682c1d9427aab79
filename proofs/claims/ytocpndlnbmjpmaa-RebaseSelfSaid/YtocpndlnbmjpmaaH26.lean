/- Part H26 of the ghost memory: lemmas and contracts used by the proofs of this seat's laws; each theorem bears its own conditions. -/
import Derived.Test.YtocpndlnbmjpmaaH25
namespace Go.Proofs.Ytocpndlnbmjpmaa
open Go.RowKit
set_option linter.unusedVariables false
set_option linter.unusedSimpArgs false
theorem Zn {X:Objs} {i j:Nat} (h:i≠j) (b:Option GObj):(X.upd j b) i=X i:=Yn _ _ h
section
variable {P:Program} {T:V3} {O O' X X':Objs} {n n' k ba:Nat} {E E':Env} {ρ:Nat→Nat}
theorem OutLe.upd2 (hX:OutLe O O' n' X X' n) {i:Nat} {q q':GObj} (h1:Zee q q') (h2:wkl O O' n' q.cells q'.cells):OutLe O O' n' (X.upd i (some q)) (X'.upd i (some q')) n:=fun j p' hj h=>by
 by_cases e:j=i
 ·subst e
  rw [Z8] at h
  injection h with h
  subst h
  exact ⟨q,Z8 _ _ _,h1,h2⟩
 rw [Yn _ _ e] at h
 obtain ⟨p,g1,g2⟩:=hX j p' hj h
 exact ⟨p,by rw [Yn _ _ e];exact g1,g2⟩
theorem Xp {i j:Nat} {q q' p p':GObj} {l l':List (Option GObj)} (hU:Und X n) (hk:l'.length=k) (hn:E'.n=E.n)
  (h:Zee q q'∧wkl (Zx ((X.upd i (some q)).upd j (some p)) n l) (Zx ((X.upd i (some q')).upd j (some p')) n l') (n+k) q.cells q'.cells∧Zee p p'∧wkl (Zx ((X.upd i (some q)).upd j (some p)) n l) (Zx ((X.upd i (some q')).upd j (some p')) n l') (n+k) p.cells p'.cells∧Zku (Zx ((X.upd i (some q)).upd j (some p)) n l) (Zx ((X.upd i (some q')).upd j (some p')) n l') (n+k) l l'∧Zs3 (Zx ((X.upd i (some q)).upd j (some p)) n l) (Zx ((X.upd i (some q')).upd j (some p')) n l') (n+k) E.l E'.l) :
  Fit E (Zx ((X.upd i (some q)).upd j (some p)) n l) E' (Zx ((X.upd i (some q')).upd j (some p')) n l') (n+k) :=
 ⟨hn,Zfq hk (OutLe.upd2 (OutLe.upd hU (Nat.le_add_right _ _) h.1 h.2.1) h.2.2.1 h.2.2.2.1) h.2.2.2.2.1,h.2.2.2.2.2⟩
theorem Jb {l l':List (Option GObj)} {k k' i j:Nat} {q q' p p':GObj} (hU:Und X ba) (pi ta:List Nat) (hk:l.length=k) (hk':l'.length=k') (hp:pi.length=k) (hc:Z24 pi ta (l'.map Option.isSome)=true)
  (hn:E'.n=E.n∧E'.keep=E.keep) (h:Zka (rho ba pi) q q'∧Zka (rho ba pi) p p'∧Zo7 (rho ba pi) l l' ta∧Zrq (rho ba pi) E.l=E'.l):Fit2 ba E (Zx ((X.upd i (some q)).upd j (some p)) ba l) (ba+k) E' (Zx ((X.upd i (some q')).upd j (some p')) ba l') (ba+k') :=
 Zvy pi ta (((OutRen.refl hU).upd h.1).upd h.2.1) hk hk' hp hc hn h.2.2
theorem K5 {r:G} {rs:List ResultVar} {i j n1 n3:Nat} {q1 q' p1 p':GObj} {L2 L3:List (Option GObj)} {e:Exit} {E2:Env} {O1:Objs} (he:e = .normal∨e = .ret) (hU:Und X n) (hk:L2.length=k) (gs:List G)
  (hF:Fit2 n E O1 n1 E2 (Zx ((X.upd i (some q1)).upd j (some p1)) n L3) n3)
  (h:Zkh T (Zx ((X.upd i (some q1)).upd j (some p1)) n L3) E2 rs=some gs∧Zee q1 q'∧wkl (Zx ((X.upd i (some q1)).upd j (some p1)) n L3) (Zx ((X.upd i (some q')).upd j (some p')) n L2) (n+k) q1.cells q'.cells∧Zee p1 p'∧wkl (Zx ((X.upd i (some q1)).upd j (some p1)) n L3) (Zx ((X.upd i (some q')).upd j (some p')) n L2) (n+k) p1.cells p'.cells∧Zku (Zx ((X.upd i (some q1)).upd j (some p1)) n L3) (Zx ((X.upd i (some q')).upd j (some p')) n L2) (n+k) L3 L2∧wk (Zx ((X.upd i (some q1)).upd j (some p1)) n L3) (Zx ((X.upd i (some q')).upd j (some p')) n L2) (n+k) (gone gs) r) :
  Fin T rs r n (Zx ((X.upd i (some q')).upd j (some p')) n L2) (n+k) e E O1 n1 :=
 ⟨he,E2,_,n3,gs,hF,h.1,Zfq hk (OutLe.upd2 (OutLe.upd hU (Nat.le_add_right _ _) h.2.1 h.2.2.1) h.2.2.2.1 h.2.2.2.2.1) h.2.2.2.2.2.1,h.2.2.2.2.2.2⟩
end
end Go.Proofs.Ytocpndlnbmjpmaa
