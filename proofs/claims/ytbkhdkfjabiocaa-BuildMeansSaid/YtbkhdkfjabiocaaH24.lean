/- Part H24 of the ghost memory: lemmas and contracts used by the proofs of this seat's laws; each theorem bears its own conditions. -/
import Derived.Test.YtbkhdkfjabiocaaH23
namespace Go.Proofs.Ytbkhdkfjabiocaa
open Go.RowKit
set_option linter.unusedVariables false
set_option linter.unusedSimpArgs false
def Zdo:List Bool→List (Option GObj)→List (Option GObj)
 | b::ms,o::l=>(bif b then o else none)::Zdo ms l
 | _,l=>l
theorem Z0p:∀ (ms:List Bool) (l:List (Option GObj)) (k:Nat) (o:GObj),((Zdo ms l)[k]?).join=some o→(l[k]?).join=some o
 | [],l,k,o,h=>by simpa [Zdo] using h
 | b::ms,[],k,o,h=>by simp [Zdo] at h
 | b::ms,x::l,0,o,h=>by
  cases b with
  | true=>simpa [Zdo] using h
  | false=>simp [Zdo] at h
 | b::ms,x::l,k+1,o,h=>by
  simp only [Zdo,List.getElem?_cons_succ] at h ⊢
  exact Z0p ms l k o h
section
variable {P:Program} {X:Objs} {n n' ba:Nat} {E:Env} {Q:GQ} {c:Code}
theorem Zl (ks:List Nat) (ms:List Bool) {l:List (Option GObj)} (k:W P ba c Q ⟨E.n,E.keep,Ziv E.l ks⟩ (Zy X n (Zdo ms l)) n'):W P ba c Q E (Zy X n l) n':=fun hb w m a hM hE=>by
 have hO:∀ i o',Zy X n (Zdo ms l) i=some o'→Zy X n l i=some o':=fun i o' h=>by
  unfold Zy at h ⊢
  split
  ·rename_i hi;rw [if_pos hi] at h;exact h
  rename_i hi;rw [if_neg hi] at h;exact Z0p ms l _ o' h
 have hf:∀ i,n'≤i→Zy X n (Zdo ms l) i=none:=fun i hi=>by
  cases h:Zy X n (Zdo ms l) i with
  | none=>rfl
  | some o' =>
   have h2:=hM.fresh i hi
   rw [hO i o' h] at h2
   cases h2
 have hL:LessO (Zy X n l) (Zy X n (Zdo ms l)) n':=⟨hf,fun i o' h=>by
   obtain ⟨vs,hr,_⟩:=hM.obj i o' (hO i o' h)
   exact ⟨o',hO i o' h,rfl,rfl,rfl,rfl,Gk _ (Kh _ _ hr)⟩⟩
 have hE2:Holds w (Zy X n l) m n' ⟨E.n,E.keep,Ziv E.l ks⟩ a:=hE.le ⟨rfl,Zzb _ _⟩
 refine k.then (hM.weak hL) ⟨hE2.size,fun t v hv => ?_,hE2.out,hE2.defers⟩ ((Ext.refl w _ m ba).weak hL hb)
 have:=hE2.at_ t v hv
 exact Zno hL.mini _ _ this (Zvy _ _ this)
end
end Go.Proofs.Ytbkhdkfjabiocaa
