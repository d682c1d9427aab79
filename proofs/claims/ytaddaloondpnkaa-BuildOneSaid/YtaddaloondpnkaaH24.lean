/- Part H24 of the ghost memory: lemmas and contracts used by the proofs of this seat's laws; each theorem bears its own conditions. -/
import Derived.Test.YtaddaloondpnkaaH23
namespace Go.Proofs.Ytaddaloondpnkaa
open Go.RowKit
set_option linter.unusedVariables false
set_option linter.unusedSimpArgs false
def Zbi:List Bool→List (Option GObj)→List (Option GObj)
 | b::ms,o::l=>(bif b then o else none)::Zbi ms l
 | _,l=>l
theorem Zwj:∀ (ms:List Bool) (l:List (Option GObj)) (k:Nat) (o:GObj),((Zbi ms l)[k]?).join=some o→(l[k]?).join=some o
 | [],l,k,o,h=>by simpa [Zbi] using h
 | b::ms,[],k,o,h=>by simp [Zbi] at h
 | b::ms,x::l,0,o,h=>by
  cases b with
  | true=>simpa [Zbi] using h
  | false=>simp [Zbi] at h
 | b::ms,x::l,k+1,o,h=>by
  simp only [Zbi,List.getElem?_cons_succ] at h ⊢
  exact Zwj ms l k o h
section
variable {P:Program} {X:Objs} {n n' ba:Nat} {E:Env} {Q:GQ} {c:Code}
theorem Zm (ks:List Nat) (ms:List Bool) {l:List (Option GObj)} (k:W P ba c Q ⟨E.n,E.keep,Zgh E.l ks⟩ (Zu X n (Zbi ms l)) n'):W P ba c Q E (Zu X n l) n':=fun hb w m a hM hE=>by
 have hO:∀ i o',Zu X n (Zbi ms l) i=some o'→Zu X n l i=some o':=fun i o' h=>by
  unfold Zu at h ⊢
  split
  ·rename_i hi;rw [if_pos hi] at h;exact h
  rename_i hi;rw [if_neg hi] at h;exact Zwj ms l _ o' h
 have hf:∀ i,n'≤i→Zu X n (Zbi ms l) i=none:=fun i hi=>by
  cases h:Zu X n (Zbi ms l) i with
  | none=>rfl
  | some o' =>
   have h2:=hM.fresh i hi
   rw [hO i o' h] at h2
   cases h2
 have hL:LessO (Zu X n l) (Zu X n (Zbi ms l)) n':=⟨hf,fun i o' h=>by
   obtain ⟨vs,hr,_⟩:=hM.obj i o' (hO i o' h)
   exact ⟨o',hO i o' h,rfl,rfl,rfl,rfl,Ks _ (Qw _ _ hr)⟩⟩
 have hE2:Holds w (Zu X n l) m n' ⟨E.n,E.keep,Zgh E.l ks⟩ a:=hE.le ⟨rfl,Zve _ _⟩
 refine k.then (hM.weak hL) ⟨hE2.size,fun t v hv => ?_,hE2.out,hE2.defers⟩ ((Ext.refl w _ m ba).weak hL hb)
 have:=hE2.at_ t v hv
 exact Zl7 hL.mini _ _ this (Ztm _ _ this)
end
end Go.Proofs.Ytaddaloondpnkaa
