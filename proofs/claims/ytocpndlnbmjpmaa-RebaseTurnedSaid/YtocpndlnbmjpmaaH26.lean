/- Part H26 of the ghost memory: lemmas and contracts used by the proofs of this seat's laws; each theorem bears its own conditions. -/
import Derived.Test.YtocpndlnbmjpmaaH25
namespace Go.Proofs.Ytocpndlnbmjpmaa
open Go.RowKit
set_option linter.unusedVariables false
set_option linter.unusedSimpArgs false
theorem Zn {X:Objs} {i j:Nat} (h:i≠j) (b:Option GObj):(X.upd j b) i=X i:=Xe _ _ h
section
variable {P:Program} {T:gZ} {O O' X X':Objs} {n n' k ba:Nat} {E E':Env} {ρ:Nat→Nat}
theorem OutLe.upd2 (hX:OutLe O O' n' X X' n) {i:Nat} {q q':GObj} (h1:yK q q') (h2:bV O O' n' q.cells q'.cells):OutLe O O' n' (X.upd i (some q)) (X'.upd i (some q')) n:=fun j p' hj h=>by
 by_cases e:j=i
 ·subst e
  rw [Yo] at h
  injection h with h
  subst h
  exact ⟨q,Yo _ _ _,h1,h2⟩
 rw [Xe _ _ e] at h
 obtain ⟨p,g1,g2⟩:=hX j p' hj h
 exact ⟨p,by rw [Xe _ _ e];exact g1,g2⟩
theorem bK {i j:Nat} {q q' p p':GObj} {l l':List (Option GObj)} (hU:Und X n) (hk:l'.length=k) (hn:E'.n=E.n)
  (h:yK q q'∧bV (Yn ((X.upd i (some q)).upd j (some p)) n l) (Yn ((X.upd i (some q')).upd j (some p')) n l') (n+k) q.cells q'.cells∧yK p p'∧bV (Yn ((X.upd i (some q)).upd j (some p)) n l) (Yn ((X.upd i (some q')).upd j (some p')) n l') (n+k) p.cells p'.cells∧fM (Yn ((X.upd i (some q)).upd j (some p)) n l) (Yn ((X.upd i (some q')).upd j (some p')) n l') (n+k) l l'∧Za4 (Yn ((X.upd i (some q)).upd j (some p)) n l) (Yn ((X.upd i (some q')).upd j (some p')) n l') (n+k) E.l E'.l) :
  Fit E (Yn ((X.upd i (some q)).upd j (some p)) n l) E' (Yn ((X.upd i (some q')).upd j (some p')) n l') (n+k) :=
 ⟨hn,eD hk (OutLe.upd2 (OutLe.upd hU (Nat.le_add_right _ _) h.1 h.2.1) h.2.2.1 h.2.2.2.1) h.2.2.2.2.1,h.2.2.2.2.2⟩
theorem Zx6 {l l':List (Option GObj)} {k k' i j:Nat} {q q' p p':GObj} (hU:Und X ba) (pi ta:List Nat) (hk:l.length=k) (hk':l'.length=k') (hp:pi.length=k) (hc:Zlu pi ta (l'.map Option.isSome)=true)
  (hn:E'.n=E.n∧E'.keep=E.keep) (h:qC (xH ba pi) q q'∧qC (xH ba pi) p p'∧tW (xH ba pi) l l' ta∧mR (xH ba pi) E.l=E'.l):Fit2 ba E (Yn ((X.upd i (some q)).upd j (some p)) ba l) (ba+k) E' (Yn ((X.upd i (some q')).upd j (some p')) ba l') (ba+k') :=
 Zlw pi ta (((OutRen.refl hU).upd h.1).upd h.2.1) hk hk' hp hc hn h.2.2
theorem Kk {r:G} {rs:List ResultVar} {i j n1 n3:Nat} {q1 q' p1 p':GObj} {L2 L3:List (Option GObj)} {e:Exit} {E2:Env} {O1:Objs} (he:e = .normal∨e = .ret) (hU:Und X n) (hk:L2.length=k) (gs:List G)
  (hF:Fit2 n E O1 n1 E2 (Yn ((X.upd i (some q1)).upd j (some p1)) n L3) n3)
  (h:xS T (Yn ((X.upd i (some q1)).upd j (some p1)) n L3) E2 rs=some gs∧yK q1 q'∧bV (Yn ((X.upd i (some q1)).upd j (some p1)) n L3) (Yn ((X.upd i (some q')).upd j (some p')) n L2) (n+k) q1.cells q'.cells∧yK p1 p'∧bV (Yn ((X.upd i (some q1)).upd j (some p1)) n L3) (Yn ((X.upd i (some q')).upd j (some p')) n L2) (n+k) p1.cells p'.cells∧fM (Yn ((X.upd i (some q1)).upd j (some p1)) n L3) (Yn ((X.upd i (some q')).upd j (some p')) n L2) (n+k) L3 L2∧wk (Yn ((X.upd i (some q1)).upd j (some p1)) n L3) (Yn ((X.upd i (some q')).upd j (some p')) n L2) (n+k) (gone gs) r) :
  Fin T rs r n (Yn ((X.upd i (some q')).upd j (some p')) n L2) (n+k) e E O1 n1 :=
 ⟨he,E2,_,n3,gs,hF,h.1,eD hk (OutLe.upd2 (OutLe.upd hU (Nat.le_add_right _ _) h.2.1 h.2.2.1) h.2.2.2.1 h.2.2.2.2.1) h.2.2.2.2.2.1,h.2.2.2.2.2.2⟩
end
theorem Zqk {X:Objs} {i n:Nat} {a a':Option GObj} {L:List (Option GObj)}:agree (fun k=>¬ k=i) (Yn (X.upd i a) n L) (Yn (X.upd i a') n L):=fun k hk=>by
 unfold Yn
 rw [Xe _ _ hk,Xe _ _ hk]
theorem Zyj {X:Objs} {i j n:Nat} {a a' b:Option GObj} {L:List (Option GObj)}:agree (fun k=>¬ k=i) (Yn ((X.upd i a).upd j b) n L) (Yn ((X.upd i a').upd j b) n L):=fun k hk=>by
 unfold Yn
 by_cases e:k=j
 ·subst e;rw [Yo,Yo]
 rw [Xe _ _ e,Xe _ _ e,Xe _ _ hk,Xe _ _ hk]
theorem Zyk {X:Objs} {i j n:Nat} {a b b':Option GObj} {L:List (Option GObj)}:agree (fun k=>¬ k=j) (Yn ((X.upd i a).upd j b) n L) (Yn ((X.upd i a).upd j b') n L):=Zqk
end Go.Proofs.Ytocpndlnbmjpmaa
