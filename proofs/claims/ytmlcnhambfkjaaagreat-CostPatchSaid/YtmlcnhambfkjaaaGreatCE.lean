/- Part CE of this seat's mirrors: functions of the seat's program, and the plain functions that they are; each theorem bears its own conditions. -/
import Derived.Test.YtmlcnhambfkjaaaGreatTy
import Derived.Test.YtmlcnhambfkjaaaGreatCD
namespace Go.Proofs.YtmlcnhambfkjaaaGreat
open Go.RowKit
set_option linter.unusedVariables false
set_option linter.unusedSimpArgs false
set_option maxRecDepth 100000
set_option maxHeartbeats 4000000
mutual
def Zbs:Za→List G
 | ⟨f0,f1,f2⟩=>[.val (.int .i64 f0),.sl f1.length (fl (eI .u64) f1),.sl f2.length (Zbt f2)]
def Zbt:List Za→List G
 | []=>[]
 | x::xs=>Zbs x++Zbt xs
end
theorem Zm4:∀ xs,Zbt xs=fl Zbs xs
 | []=>by simp [Zbt,fl]
 | x::xs=>by rw [Zbt,Gd,Zm4 xs]
def Zc (x:Za):List G:=[.val (.int .i64 x.Kind),.sl x.Words.length (fl (eI .u64) x.Words),.sl x.Kids.length (fl Zbs x.Kids)]
theorem Yz:Zbs=Zc:=by
 funext x
 obtain ⟨_,_,_⟩:=x
 simp only [Zbs,Zm4,Zc,List.cons_append,List.nil_append,List.append_nil]
mutual
theorem Zlf:∀ x,G.pures (Zbs x)=true
 | ⟨f0,f1,f2⟩=>by simp [Zbs,eP,K8,eI,eB,eS,eL,G.pures,G.pure,Zef,Yi,Zpr f2]
theorem Zpr:∀ xs,G.pures (Zbt xs)=true
 | []=>rfl
 | x::xs=>by simp [Zbt,Zef,Zlf x,Zpr xs]
end
theorem Zlg:∀ x,G.pures (Zc x)=true:=fun x=>by rw [← Yz];exact Zlf x
theorem Ke:∀ x,G.pures ((eI .u64) x)=true:=fun x=>by simp [eI,eB,eS,eL,eP,G.pures,G.pure,Yi,K8,Yz]
theorem Zpj {O O':Objs} {n:Nat} (xs:List Int):wkl O O' n (fl (eI .u64) xs) (fl (eI .u64) xs):=Zfg (Yi Ke xs)
theorem Zph {O O':Objs} {n:Nat} (xs:List Int) (b b':List G):wkl O O' n (fl (eI .u64) xs++b) (fl (eI .u64) xs++b')=wkl O O' n b b':=Zea b b' _ (Yi Ke xs)
theorem Zoj (xs:List Int):(fl (eI .u64) xs).length=xs.length * 1:=Jp (f:=(eI .u64)) (k:=1) (fun _=>rfl) xs
theorem Zov (xs:List Int):(fl (eI .u64) xs).all G.one=true:=U2 (fun x=>by simp [eI,eB,eS,eL,eP,Zgz,G.one,Value.oneCell']) xs
theorem Zpl {O O':Objs} {n:Nat} (x:Option Int):wk O O' n (gP (eI .u64) x) (gP (eI .u64) x)=True:=Zqo Ke x
theorem Zml {k:Nat} (x:Option Int):(gP (eI .u64) x).under k=true:=Zd9 Ke k x
theorem Zmi {ρ:Nat→Nat} (xs:List Int):G.rens ρ (fl (eI .u64) xs)=fl (eI .u64) xs:=K7 ρ _ (Yi Ke xs)
theorem Zmg {ρ:Nat→Nat} (x:Option Int):(gP (eI .u64) x).ren ρ=gP (eI .u64) x:=Zc3 ρ _ (K8 Ke x)
theorem Zpe {k:Nat} (xs:List Int):G.unders k (fl (eI .u64) xs)=true:=X5 _ _ (Yi Ke xs)
theorem Xh:∀ x,G.pures (Zc x)=true:=fun x=>by rw [← Yz];exact Zlf x
theorem Zfv {O O':Objs} {n:Nat} (xs:List Za):wkl O O' n (fl Zc xs) (fl Zc xs):=Zfg (Yi Xh xs)
theorem Zfu {O O':Objs} {n:Nat} (xs:List Za) (b b':List G):wkl O O' n (fl Zc xs++b) (fl Zc xs++b')=wkl O O' n b b':=Zea b b' _ (Yi Xh xs)
theorem Zfj (xs:List Za):(fl Zc xs).length=xs.length * 3:=Jp (f:=Zc) (k:=3) (fun _=>rfl) xs
theorem Zfq (xs:List Za):(fl Zc xs).all G.one=true:=U2 (fun x=>by simp [eI,eB,eS,eL,eP,Zgz,G.one,Value.oneCell',Zc]) xs
theorem Zfw {O O':Objs} {n:Nat} (x:Option Za):wk O O' n (gP Zc x) (gP Zc x)=True:=Zqo Xh x
theorem Zeu {k:Nat} (x:Option Za):(gP Zc x).under k=true:=Zd9 Xh k x
theorem Zes {ρ:Nat→Nat} (xs:List Za):G.rens ρ (fl Zc xs)=fl Zc xs:=K7 ρ _ (Yi Xh xs)
theorem Zer {ρ:Nat→Nat} (x:Option Za):(gP Zc x).ren ρ=gP Zc x:=Zc3 ρ _ (K8 Xh x)
theorem Zft {k:Nat} (xs:List Za):G.unders k (fl Zc xs)=true:=X5 _ _ (Yi Xh xs)
def Zp (x:Z6):List G:=[.val (.int .i64 x.At),.val (.int .u8 x.Mask),.val (.int .u64 x.Old),.val (.int .u64 x.New)]
mutual
def K9:Zh→List G
 | ⟨f0,f1,f2,f3,f4,f5,f6⟩=>[.val (.int .i64 f0),.val (.int .i64 f1.Kind),.sl f1.Words.length (fl (eI .u64) f1.Words),.sl f1.Kids.length (fl Zc f1.Kids),.val (.int .i64 f2.Kind),.sl f2.Words.length (fl (eI .u64) f2.Words),.sl f2.Kids.length (fl Zc f2.Kids),.sl f3.length (fl Zp f3),.sl f4.length (V2 f4),.val (.int .i64 f5),.sl f6.length (Zez f6)]
def Zed:List Zh→List G
 | []=>[]
 | x::xs=>K9 x++Zed xs
def Ql:Zn→List G
 | ⟨f0,f1⟩=>[.val (.int .i64 f0)]++K9 f1
def V2:List Zn→List G
 | []=>[]
 | x::xs=>Ql x++V2 xs
def Um:Zt→List G
 | ⟨f0,f1,f2,f3⟩=>[.val (.int .i64 f0),.val (.int .i64 f1),.sl f2.length (fl Zc f2)]++K9 f3
def Zez:List Zt→List G
 | []=>[]
 | x::xs=>Um x++Zez xs
end
theorem Zfi:∀ xs,Zed xs=fl K9 xs
 | []=>by simp [Zed,fl]
 | x::xs=>by rw [Zed,Gd,Zfi xs]
theorem Zb5:∀ xs,V2 xs=fl Ql xs
 | []=>by simp [V2,fl]
 | x::xs=>by rw [V2,Gd,Zb5 xs]
theorem Zhx:∀ xs,Zez xs=fl Um xs
 | []=>by simp [Zez,fl]
 | x::xs=>by rw [Zez,Gd,Zhx xs]
def Qx (x:Zh):List G:=[.val (.int .i64 x.Kind),.val (.int .i64 x.Old.Kind),.sl x.Old.Words.length (fl (eI .u64) x.Old.Words),.sl x.Old.Kids.length (fl Zc x.Old.Kids),.val (.int .i64 x.New.Kind),.sl x.New.Words.length (fl (eI .u64) x.New.Words),.sl x.New.Kids.length (fl Zc x.New.Kids),.sl x.Words.length (fl Zp x.Words),.sl x.Kids.length (fl Ql x.Kids),.val (.int .i64 x.List_),.sl x.Ops.length (fl Um x.Ops)]
def Zo (x:Zn):List G:=[.val (.int .i64 x.At),.val (.int .i64 x.E.Kind),.val (.int .i64 x.E.Old.Kind),.sl x.E.Old.Words.length (fl (eI .u64) x.E.Old.Words),.sl x.E.Old.Kids.length (fl Zc x.E.Old.Kids),.val (.int .i64 x.E.New.Kind),.sl x.E.New.Words.length (fl (eI .u64) x.E.New.Words),.sl x.E.New.Kids.length (fl Zc x.E.New.Kids),.sl x.E.Words.length (fl Zp x.E.Words),.sl x.E.Kids.length (fl Ql x.E.Kids),.val (.int .i64 x.E.List_),.sl x.E.Ops.length (fl Um x.E.Ops)]
def Zz (x:Zt):List G:=[.val (.int .i64 x.Kind),.val (.int .i64 x.N),.sl x.L.length (fl Zc x.L),.val (.int .i64 x.E.Kind),.val (.int .i64 x.E.Old.Kind),.sl x.E.Old.Words.length (fl (eI .u64) x.E.Old.Words),.sl x.E.Old.Kids.length (fl Zc x.E.Old.Kids),.val (.int .i64 x.E.New.Kind),.sl x.E.New.Words.length (fl (eI .u64) x.E.New.Words),.sl x.E.New.Kids.length (fl Zc x.E.New.Kids),.sl x.E.Words.length (fl Zp x.E.Words),.sl x.E.Kids.length (fl Ql x.E.Kids),.val (.int .i64 x.E.List_),.sl x.E.Ops.length (fl Um x.E.Ops)]
theorem Xi:K9=Qx:=by
 funext x
 obtain ⟨_,_,_,_,_,_,_⟩:=x
 simp only [K9,Zfi,Ql,Zb5,Um,Zhx,Qx,List.cons_append,List.nil_append,List.append_nil]
theorem Y2:Ql=Zo:=by
 funext x
 obtain ⟨_,⟨_,_,_,_,_,_,_⟩⟩:=x
 simp only [K9,Zfi,Ql,Zb5,Um,Zhx,Zo,List.cons_append,List.nil_append,List.append_nil]
theorem Xx:Um=Zz:=by
 funext x
 obtain ⟨_,_,_,⟨_,_,_,_,_,_,_⟩⟩:=x
 simp only [K9,Zfi,Ql,Zb5,Um,Zhx,Zz,List.cons_append,List.nil_append,List.append_nil]
mutual
theorem Zle:∀ x,G.pures (K9 x)=true
 | ⟨f0,f1,f2,f3,f4,f5,f6⟩=>by simp [K9,eP,K8,eI,eB,eS,eL,G.pures,G.pure,Zef,Yi,Zlh f4,Zsb f6,Ke,Xh,Zlg,Zp]
theorem Zyp:∀ xs,G.pures (Zed xs)=true
 | []=>rfl
 | x::xs=>by simp [Zed,Zef,Zle x,Zyp xs]
theorem Zme:∀ x,G.pures (Ql x)=true
 | ⟨f0,f1⟩=>by simp [Ql,eP,K8,eI,eB,eS,eL,G.pures,G.pure,Zef,Yi,Zle f1,Ke,Xh,Zlg,Zp]
theorem Zlh:∀ xs,G.pures (V2 xs)=true
 | []=>rfl
 | x::xs=>by simp [V2,Zef,Zme x,Zlh xs]
theorem Zur:∀ x,G.pures (Um x)=true
 | ⟨f0,f1,f2,f3⟩=>by simp [Um,eP,K8,eI,eB,eS,eL,G.pures,G.pure,Zef,Yi,Zle f3,Ke,Xh,Zlg,Zp]
theorem Zsb:∀ xs,G.pures (Zez xs)=true
 | []=>rfl
 | x::xs=>by simp [Zez,Zef,Zur x,Zsb xs]
end
theorem Xg:∀ x,G.pures (Zp x)=true:=fun x=>by simp [eI,eB,eS,eL,eP,G.pures,G.pure,Yi,K8,Zp,Ke,Xh,Yz,Xi,Y2,Xx]
theorem Zbq {O O':Objs} {n:Nat} (xs:List Z6):wkl O O' n (fl Zp xs) (fl Zp xs):=Zfg (Yi Xg xs)
theorem Zbp {O O':Objs} {n:Nat} (xs:List Z6) (b b':List G):wkl O O' n (fl Zp xs++b) (fl Zp xs++b')=wkl O O' n b b':=Zea b b' _ (Yi Xg xs)
theorem Za8 (xs:List Z6):(fl Zp xs).length=xs.length * 4:=Jp (f:=Zp) (k:=4) (fun _=>rfl) xs
theorem Zbg (xs:List Z6):(fl Zp xs).all G.one=true:=U2 (fun x=>by simp [eI,eB,eS,eL,eP,Zgz,G.one,Value.oneCell',Zp]) xs
theorem Zbr {O O':Objs} {n:Nat} (x:Option Z6):wk O O' n (gP Zp x) (gP Zp x)=True:=Zqo Xg x
theorem Zas {k:Nat} (x:Option Z6):(gP Zp x).under k=true:=Zd9 Xg k x
theorem Zaq {ρ:Nat→Nat} (xs:List Z6):G.rens ρ (fl Zp xs)=fl Zp xs:=K7 ρ _ (Yi Xg xs)
theorem Zap {ρ:Nat→Nat} (x:Option Z6):(gP Zp x).ren ρ=gP Zp x:=Zc3 ρ _ (K8 Xg x)
theorem Zbm {k:Nat} (xs:List Z6):G.unders k (fl Zp xs)=true:=X5 _ _ (Yi Xg xs)
theorem Xj:∀ x,G.pures (Zo x)=true:=fun x=>by rw [← Y2];exact Zme x
theorem Zcj {O O':Objs} {n:Nat} (xs:List Zn):wkl O O' n (fl Zo xs) (fl Zo xs):=Zfg (Yi Xj xs)
theorem Zch {O O':Objs} {n:Nat} (xs:List Zn) (b b':List G):wkl O O' n (fl Zo xs++b) (fl Zo xs++b')=wkl O O' n b b':=Zea b b' _ (Yi Xj xs)
theorem Zb6 (xs:List Zn):(fl Zo xs).length=xs.length * 12:=Jp (f:=Zo) (k:=12) (fun _=>rfl) xs
theorem Zcd (xs:List Zn):(fl Zo xs).all G.one=true:=U2 (fun x=>by simp [eI,eB,eS,eL,eP,Zgz,G.one,Value.oneCell',Zo]) xs
theorem Zcl {O O':Objs} {n:Nat} (x:Option Zn):wk O O' n (gP Zo x) (gP Zo x)=True:=Zqo Xj x
theorem Zbn {k:Nat} (x:Option Zn):(gP Zo x).under k=true:=Zd9 Xj k x
theorem Zbj {ρ:Nat→Nat} (xs:List Zn):G.rens ρ (fl Zo xs)=fl Zo xs:=K7 ρ _ (Yi Xj xs)
theorem Zbh {ρ:Nat→Nat} (x:Option Zn):(gP Zo x).ren ρ=gP Zo x:=Zc3 ρ _ (K8 Xj x)
theorem Zcf {k:Nat} (xs:List Zn):G.unders k (fl Zo xs)=true:=X5 _ _ (Yi Xj xs)
theorem Q3:∀ x,G.pures (Zz x)=true:=fun x=>by rw [← Xx];exact Zur x
theorem Ziv {O O':Objs} {n:Nat} (xs:List Zt):wkl O O' n (fl Zz xs) (fl Zz xs):=Zfg (Yi Q3 xs)
theorem Ziu {O O':Objs} {n:Nat} (xs:List Zt) (b b':List G):wkl O O' n (fl Zz xs++b) (fl Zz xs++b')=wkl O O' n b b':=Zea b b' _ (Yi Q3 xs)
theorem Zh6 (xs:List Zt):(fl Zz xs).length=xs.length * 14:=Jp (f:=Zz) (k:=14) (fun _=>rfl) xs
theorem Zil (xs:List Zt):(fl Zz xs).all G.one=true:=U2 (fun x=>by simp [eI,eB,eS,eL,eP,Zgz,G.one,Value.oneCell',Zz]) xs
theorem Ziw {O O':Objs} {n:Nat} (x:Option Zt):wk O O' n (gP Zz x) (gP Zz x)=True:=Zqo Q3 x
theorem Zgp {k:Nat} (x:Option Zt):(gP Zz x).under k=true:=Zd9 Q3 k x
theorem Zgo {ρ:Nat→Nat} (xs:List Zt):G.rens ρ (fl Zz xs)=fl Zz xs:=K7 ρ _ (Yi Q3 xs)
theorem Zgn {ρ:Nat→Nat} (x:Option Zt):(gP Zz x).ren ρ=gP Zz x:=Zc3 ρ _ (K8 Q3 x)
theorem Zis {k:Nat} (xs:List Zt):G.unders k (fl Zz xs)=true:=X5 _ _ (Yi Q3 xs)
theorem Zd8:∀ x,G.pures ((eI .u8) x)=true:=fun x=>by simp [eI,eB,eS,eL,eP,G.pures,G.pure,Yi,K8,Ke,Xh,Xg,Xj,Q3,Yz,Xi,Y2,Xx]
theorem Zrv {O O':Objs} {n:Nat} (xs:List Int):wkl O O' n (fl (eI .u8) xs) (fl (eI .u8) xs):=Zfg (Yi Zd8 xs)
theorem Zru {O O':Objs} {n:Nat} (xs:List Int) (b b':List G):wkl O O' n (fl (eI .u8) xs++b) (fl (eI .u8) xs++b')=wkl O O' n b b':=Zea b b' _ (Yi Zd8 xs)
theorem Zq4 (xs:List Int):(fl (eI .u8) xs).length=xs.length * 1:=Jp (f:=(eI .u8)) (k:=1) (fun _=>rfl) xs
theorem Zq9 (xs:List Int):(fl (eI .u8) xs).all G.one=true:=U2 (fun x=>by simp [eI,eB,eS,eL,eP,Zgz,G.one,Value.oneCell']) xs
theorem Zrw {O O':Objs} {n:Nat} (x:Option Int):wk O O' n (gP (eI .u8) x) (gP (eI .u8) x)=True:=Zqo Zd8 x
theorem Zpf {k:Nat} (x:Option Int):(gP (eI .u8) x).under k=true:=Zd9 Zd8 k x
theorem Zo5 {ρ:Nat→Nat} (xs:List Int):G.rens ρ (fl (eI .u8) xs)=fl (eI .u8) xs:=K7 ρ _ (Yi Zd8 xs)
theorem Zo4 {ρ:Nat→Nat} (x:Option Int):(gP (eI .u8) x).ren ρ=gP (eI .u8) x:=Zc3 ρ _ (K8 Zd8 x)
theorem Zrt {k:Nat} (xs:List Int):G.unders k (fl (eI .u8) xs)=true:=X5 _ _ (Yi Zd8 xs)
theorem Zc2:∀ x,G.pures ((eI .i64) x)=true:=fun x=>by simp [eI,eB,eS,eL,eP,G.pures,G.pure,Yi,K8,Ke,Xh,Xg,Xj,Q3,Zd8,Yz,Xi,Y2,Xx]
theorem Zpi {O O':Objs} {n:Nat} (xs:List Int):wkl O O' n (fl (eI .i64) xs) (fl (eI .i64) xs):=Zfg (Yi Zc2 xs)
theorem Zpg {O O':Objs} {n:Nat} (xs:List Int) (b b':List G):wkl O O' n (fl (eI .i64) xs++b) (fl (eI .i64) xs++b')=wkl O O' n b b':=Zea b b' _ (Yi Zc2 xs)
theorem Zoi (xs:List Int):(fl (eI .i64) xs).length=xs.length * 1:=Jp (f:=(eI .i64)) (k:=1) (fun _=>rfl) xs
theorem Zou (xs:List Int):(fl (eI .i64) xs).all G.one=true:=U2 (fun x=>by simp [eI,eB,eS,eL,eP,Zgz,G.one,Value.oneCell']) xs
theorem Zpk {O O':Objs} {n:Nat} (x:Option Int):wk O O' n (gP (eI .i64) x) (gP (eI .i64) x)=True:=Zqo Zc2 x
theorem Zmk {k:Nat} (x:Option Int):(gP (eI .i64) x).under k=true:=Zd9 Zc2 k x
theorem Zmh {ρ:Nat→Nat} (xs:List Int):G.rens ρ (fl (eI .i64) xs)=fl (eI .i64) xs:=K7 ρ _ (Yi Zc2 xs)
theorem Zmf {ρ:Nat→Nat} (x:Option Int):(gP (eI .i64) x).ren ρ=gP (eI .i64) x:=Zc3 ρ _ (K8 Zc2 x)
theorem Zpd {k:Nat} (xs:List Int):G.unders k (fl (eI .i64) xs)=true:=X5 _ _ (Yi Zc2 xs)
def Yu (x:Z3):List G:=[.val (.bool x.something),.val (.int .i64 x.size)]
theorem Q4:∀ x,G.pures (Yu x)=true:=fun x=>by simp [eI,eB,eS,eL,eP,G.pures,G.pure,Yi,K8,Yu,Ke,Xh,Xg,Xj,Q3,Zd8,Zc2,Yz,Xi,Y2,Xx]
theorem Zew {O O':Objs} {n:Nat} (xs:List Z3):wkl O O' n (fl Yu xs) (fl Yu xs):=Zfg (Yi Q4 xs)
theorem Zev {O O':Objs} {n:Nat} (xs:List Z3) (b b':List G):wkl O O' n (fl Yu xs++b) (fl Yu xs++b')=wkl O O' n b b':=Zea b b' _ (Yi Q4 xs)
theorem Zen (xs:List Z3):(fl Yu xs).length=xs.length * 2:=Jp (f:=Yu) (k:=2) (fun _=>rfl) xs
theorem Zeq (xs:List Z3):(fl Yu xs).all G.one=true:=U2 (fun x=>by simp [eI,eB,eS,eL,eP,Zgz,G.one,Value.oneCell',Yu]) xs
theorem Zex {O O':Objs} {n:Nat} (x:Option Z3):wk O O' n (gP Yu x) (gP Yu x)=True:=Zqo Q4 x
theorem Zdo {k:Nat} (x:Option Z3):(gP Yu x).under k=true:=Zd9 Q4 k x
theorem Zdm {ρ:Nat→Nat} (xs:List Z3):G.rens ρ (fl Yu xs)=fl Yu xs:=K7 ρ _ (Yi Q4 xs)
theorem Zdl {ρ:Nat→Nat} (x:Option Z3):(gP Yu x).ren ρ=gP Yu x:=Zc3 ρ _ (K8 Q4 x)
theorem Zet {k:Nat} (xs:List Z3):G.unders k (fl Yu xs)=true:=X5 _ _ (Yi Q4 xs)
def Zl2 (x:Ye):List G:=[.val (.int .i64 x.Kind),.val (.int .i64 x.Off),.val (.int .i64 x.Data),.val (.int .i64 x.Ptrs),.val (.int .i64 x.Code),.val (.int .i64 x.Count),.val (.int .i64 x.Segment),.val (.bool x.Double)]
def Zgi (x:Ze):List G:=[.sl x.words.length (fl (eI .u64) x.words),.val (.int .i64 x.next)]
theorem Gj:∀ x,G.pures ((eL (eI .u64)) x)=true:=fun x=>by simp [eI,eB,eS,eL,eP,G.pures,G.pure,Yi,K8,Ke,Xh,Xg,Xj,Q3,Zd8,Zc2,Q4,Yz,Xi,Y2,Xx]
theorem Zjk {O O':Objs} {n:Nat} (xs:List (List Int)):wkl O O' n (fl (eL (eI .u64)) xs) (fl (eL (eI .u64)) xs):=Zfg (Yi Gj xs)
theorem Zjj {O O':Objs} {n:Nat} (xs:List (List Int)) (b b':List G):wkl O O' n (fl (eL (eI .u64)) xs++b) (fl (eL (eI .u64)) xs++b')=wkl O O' n b b':=Zea b b' _ (Yi Gj xs)
theorem Zje (xs:List (List Int)):(fl (eL (eI .u64)) xs).length=xs.length * 1:=Jp (f:=(eL (eI .u64))) (k:=1) (fun _=>rfl) xs
theorem Zjf (xs:List (List Int)):(fl (eL (eI .u64)) xs).all G.one=true:=U2 (fun x=>by simp [eI,eB,eS,eL,eP,Zgz,G.one,Value.oneCell']) xs
theorem Zjl {O O':Objs} {n:Nat} (x:Option (List Int)):wk O O' n (gP (eL (eI .u64)) x) (gP (eL (eI .u64)) x)=True:=Zqo Gj x
theorem Zit {k:Nat} (x:Option (List Int)):(gP (eL (eI .u64)) x).under k=true:=Zd9 Gj k x
theorem Ziq {ρ:Nat→Nat} (xs:List (List Int)):G.rens ρ (fl (eL (eI .u64)) xs)=fl (eL (eI .u64)) xs:=K7 ρ _ (Yi Gj xs)
theorem Zip {ρ:Nat→Nat} (x:Option (List Int)):(gP (eL (eI .u64)) x).ren ρ=gP (eL (eI .u64)) x:=Zc3 ρ _ (K8 Gj x)
theorem Zji {k:Nat} (xs:List (List Int)):G.unders k (fl (eL (eI .u64)) xs)=true:=X5 _ _ (Yi Gj xs)
def Zu (x:Zw):List G:=[.sl x.segments.length (fl (eL (eI .u64)) x.segments),.val (.int .i64 x.size),.val (.int .i64 x.left)]
theorem Jl:∀ x,G.pures (Zu x)=true:=fun x=>by simp [eI,eB,eS,eL,eP,G.pures,G.pure,Yi,K8,Zu,Ke,Xh,Xg,Xj,Q3,Zd8,Zc2,Q4,Gj,Yz,Xi,Y2,Xx]
theorem Zck {O O':Objs} {n:Nat} (xs:List Zw):wkl O O' n (fl Zu xs) (fl Zu xs):=Zfg (Yi Jl xs)
theorem Zci {O O':Objs} {n:Nat} (xs:List Zw) (b b':List G):wkl O O' n (fl Zu xs++b) (fl Zu xs++b')=wkl O O' n b b':=Zea b b' _ (Yi Jl xs)
theorem Zb7 (xs:List Zw):(fl Zu xs).length=xs.length * 3:=Jp (f:=Zu) (k:=3) (fun _=>rfl) xs
theorem Zce (xs:List Zw):(fl Zu xs).all G.one=true:=U2 (fun x=>by simp [eI,eB,eS,eL,eP,Zgz,G.one,Value.oneCell',Zu]) xs
theorem Zcm {O O':Objs} {n:Nat} (x:Option Zw):wk O O' n (gP Zu x) (gP Zu x)=True:=Zqo Jl x
theorem Zbo {k:Nat} (x:Option Zw):(gP Zu x).under k=true:=Zd9 Jl k x
theorem Zbk {ρ:Nat→Nat} (xs:List Zw):G.rens ρ (fl Zu xs)=fl Zu xs:=K7 ρ _ (Yi Jl xs)
theorem Zbi {ρ:Nat→Nat} (x:Option Zw):(gP Zu x).ren ρ=gP Zu x:=Zc3 ρ _ (K8 Jl x)
theorem Zcg {k:Nat} (xs:List Zw):G.unders k (fl Zu xs)=true:=X5 _ _ (Yi Jl xs)
def Zhv (x:X4):List G:=[.val (.int .i64 x.Depth),.val (.int .i64 x.Weight),.val (.int .i64 x.MaxD),.val (.int .i64 x.MaxOut)]
def Zl1 (x:Qi):List G:=[.val (.int .i64 x.P.Kind),.val (.int .i64 x.P.Off),.val (.int .i64 x.P.Data),.val (.int .i64 x.P.Ptrs),.val (.int .i64 x.P.Code),.val (.int .i64 x.P.Count),.val (.int .i64 x.P.Segment),.val (.bool x.P.Double),.val (.int .i64 x.Segment),.val (.int .i64 x.At)]
def Zhw (x:Zf):List G:=[(gP Zu x.a),.val (.int .i64 x.kind),.val (.int .i64 x.segment),.val (.int .i64 x.at_),.val (.int .i64 x.words),.val (.int .i64 x.ptrs),.val (.int .i64 x.count),.val (.int .i64 x.code),.val (.int .i64 x.index)]
def Yl (x:Zg):List G:=[.val (.int .i64 x.left)]
theorem Jm:∀ x,G.pures (Yl x)=true:=fun x=>by simp [eI,eB,eS,eL,eP,G.pures,G.pure,Yi,K8,Yl,Ke,Xh,Xg,Xj,Q3,Zd8,Zc2,Q4,Gj,Jl,Yz,Xi,Y2,Xx]
theorem Zau {O O':Objs} {n:Nat} (xs:List Zg):wkl O O' n (fl Yl xs) (fl Yl xs):=Zfg (Yi Jm xs)
theorem Zat {O O':Objs} {n:Nat} (xs:List Zg) (b b':List G):wkl O O' n (fl Yl xs++b) (fl Yl xs++b')=wkl O O' n b b':=Zea b b' _ (Yi Jm xs)
theorem Zal (xs:List Zg):(fl Yl xs).length=xs.length * 1:=Jp (f:=Yl) (k:=1) (fun _=>rfl) xs
theorem Zao (xs:List Zg):(fl Yl xs).all G.one=true:=U2 (fun x=>by simp [eI,eB,eS,eL,eP,Zgz,G.one,Value.oneCell',Yl]) xs
theorem Zav {O O':Objs} {n:Nat} (x:Option Zg):wk O O' n (gP Yl x) (gP Yl x)=True:=Zqo Jm x
theorem Gn {k:Nat} (x:Option Zg):(gP Yl x).under k=true:=Zd9 Jm k x
theorem Gl {ρ:Nat→Nat} (xs:List Zg):G.rens ρ (fl Yl xs)=fl Yl xs:=K7 ρ _ (Yi Jm xs)
theorem Gk {ρ:Nat→Nat} (x:Option Zg):(gP Yl x).ren ρ=gP Yl x:=Zc3 ρ _ (K8 Jm x)
theorem Zar {k:Nat} (xs:List Zg):G.unders k (fl Yl xs)=true:=X5 _ _ (Yi Jm xs)
def Y4 (x:Zt):List G:=[.val (.int .i64 x.Kind),.val (.int .i64 x.N),.sl x.L.length (fl Zc x.L),.val (.int .i64 x.E.Kind),.val (.int .i64 x.E.Old.Kind),.sl x.E.Old.Words.length (fl (eI .u64) x.E.Old.Words),.sl x.E.Old.Kids.length (fl Zc x.E.Old.Kids),.val (.int .i64 x.E.New.Kind),.sl x.E.New.Words.length (fl (eI .u64) x.E.New.Words),.sl x.E.New.Kids.length (fl Zc x.E.New.Kids),.sl x.E.Words.length (fl Zp x.E.Words),.sl x.E.Kids.length (fl Zo x.E.Kids),.val (.int .i64 x.E.List_),.sl x.E.Ops.length (fl Zz x.E.Ops)]
def Kp (x:Zn):List G:=[.val (.int .i64 x.At),.val (.int .i64 x.E.Kind),.val (.int .i64 x.E.Old.Kind),.sl x.E.Old.Words.length (fl (eI .u64) x.E.Old.Words),.sl x.E.Old.Kids.length (fl Zc x.E.Old.Kids),.val (.int .i64 x.E.New.Kind),.sl x.E.New.Words.length (fl (eI .u64) x.E.New.Words),.sl x.E.New.Kids.length (fl Zc x.E.New.Kids),.sl x.E.Words.length (fl Zp x.E.Words),.sl x.E.Kids.length (fl Zo x.E.Kids),.val (.int .i64 x.E.List_),.sl x.E.Ops.length (fl Zz x.E.Ops)]
def Zm (x:Zh):List G:=[.val (.int .i64 x.Kind),.val (.int .i64 x.Old.Kind),.sl x.Old.Words.length (fl (eI .u64) x.Old.Words),.sl x.Old.Kids.length (fl Zc x.Old.Kids),.val (.int .i64 x.New.Kind),.sl x.New.Words.length (fl (eI .u64) x.New.Words),.sl x.New.Kids.length (fl Zc x.New.Kids),.sl x.Words.length (fl Zp x.Words),.sl x.Kids.length (fl Zo x.Kids),.val (.int .i64 x.List_),.sl x.Ops.length (fl Zz x.Ops)]
def Kz (x:Qi):List G:=[.val (.int .i64 x.P.Kind),.val (.int .i64 x.P.Off),.val (.int .i64 x.P.Data),.val (.int .i64 x.P.Ptrs),.val (.int .i64 x.P.Code),.val (.int .i64 x.P.Count),.val (.int .i64 x.P.Segment),.val (.bool x.P.Double),.val (.int .i64 x.Segment),.val (.int .i64 x.At)]
def Z4 (x:Zf):List G:=[(gP Zu x.a),.val (.int .i64 x.kind),.val (.int .i64 x.segment),.val (.int .i64 x.at_),.val (.int .i64 x.words),.val (.int .i64 x.ptrs),.val (.int .i64 x.count),.val (.int .i64 x.code),.val (.int .i64 x.index)]
def Qe (x:Ye):List G:=[.val (.int .i64 x.Kind),.val (.int .i64 x.Off),.val (.int .i64 x.Data),.val (.int .i64 x.Ptrs),.val (.int .i64 x.Code),.val (.int .i64 x.Count),.val (.int .i64 x.Segment),.val (.bool x.Double)]
def Zj (x:Za):List G:=[.val (.int .i64 x.Kind),.sl x.Words.length (fl (eI .u64) x.Words),.sl x.Kids.length (fl Zc x.Kids)]
def Kh (x:X4):List G:=[.val (.int .i64 x.Depth),.val (.int .i64 x.Weight),.val (.int .i64 x.MaxD),.val (.int .i64 x.MaxOut)]
def Gt (x:Z6):List G:=[.val (.int .i64 x.At),.val (.int .u8 x.Mask),.val (.int .u64 x.Old),.val (.int .u64 x.New)]
abbrev vI (x:Int):G := .val (.int .i64 x)
abbrev vB (x:Bool):G := .val (.bool x)
abbrev nV:G := .val (.slice none 0 0)
abbrev sL {α:Type} (e:α→List G) (x:List α):G := .sl x.length (fl e x)
abbrev oR {α:Type} (t s:Nat) (e:α→List G) (x:List α):GObj:=⟨true,t,s,x.length,fl e x⟩
structure Hid (p:Prop):Prop where
 get:p
structure Ar {α:Type} (a:α):Prop where
def Ar.v {α:Type} {a:α} (_:Ar a):α:=a
theorem zQ {A B:Prop} (l0:List Nat) (b:B) (e:Ar l0→Hid B→A:=by intro x0 bZ;refine Zlp x0.v (Yx Zv [] ?_);simp only [push_cast,seval,↓reduceIte,Zb,Ar.v,hN0,hN];exact bZ.get):A:=e ⟨⟩ ⟨b⟩
theorem zW {A B:Prop} (b:B) (e:Hid B→A:=by intro bZ;refine Yl0 ?_;(try simp only [Xc,Yp]);exact bZ.get):A:=e ⟨b⟩
theorem Jh {A B:Prop} (l0:List Nat) (l1:List Bool) (b:B) (e:Ar l0→Ar l1→Hid B→A:=by intro x0 x1 bZ;refine Yfo ?_;(try simp only [Xc,Yp]);refine Zwy x0.v x1.v ?_;simp only [push_cast,seval,↓reduceIte,Ar.v];exact bZ.get):A:=e ⟨⟩ ⟨⟩ ⟨b⟩
theorem zCd {A B:Prop} {P0:Prop} (p0:P0) (l1:List Nat) (l2:List Bool) (b:B) (e:P0→Ar l1→Ar l2→Hid B→A:=by intro x0 x1 x2 bZ;refine Yx Zv [] ?_;simp only [push_cast,seval,↓reduceIte,Zb,hN0,hN];refine x0.then ?_;simp only [push_cast,seval,↓reduceIte,Zb,hN0,hN];refine Zwy x1.v x2.v ?_;simp only [push_cast,seval,↓reduceIte,Ar.v];exact bZ.get):A:=e p0 ⟨⟩ ⟨⟩ ⟨b⟩
theorem zQd {A B:Prop} (l0:List Nat) (l1:List Nat) (l2:List Bool) (b:B) (e:Ar l0→Ar l1→Ar l2→Hid B→A:=by intro x0 x1 x2 bZ;refine Zlp x0.v (Yx Zv [] ?_);simp only [push_cast,seval,↓reduceIte,Zb,Ar.v,hN0,hN];refine Zwy x1.v x2.v ?_;simp only [push_cast,seval,↓reduceIte,Ar.v];exact bZ.get):A:=e ⟨⟩ ⟨⟩ ⟨⟩ ⟨b⟩
theorem zRd {A B:Prop} (l0:List Nat) (l1:List Bool) (b:B) (e:Ar l0→Ar l1→Hid B→A:=by intro x0 x1 bZ;refine Yx Zv [] ?_;simp only [push_cast,seval,↓reduceIte,Zb,hN0,hN];refine Zwy x0.v x1.v ?_;simp only [push_cast,seval,↓reduceIte,Ar.v];exact bZ.get):A:=e ⟨⟩ ⟨⟩ ⟨b⟩
theorem zR {A B:Prop} (b:B) (e:Hid B→A:=by intro bZ;refine Yx Zv [] ?_;simp only [push_cast,seval,↓reduceIte,Zb,hN0,hN];exact bZ.get):A:=e ⟨b⟩
theorem zEn {A:Prop} {P0:Prop} (p0:P0) (e:P0→A:=by intro x0;have h9:=Option.some.inj x0;subst h9;refine And.intro rfl (Fit2.of (Y1 hU rfl rfl ?_) (by omega));simp only [push_cast,seval,↓reduceIte,Zb,hN0,hN]):A:=e p0
theorem zEx {A:Prop} {P0:Prop} (p0:P0) (e:P0→A:=by intro x0;refine Yfm ?_;(try simp only [Xc,Yp,↓reduceIte,Nat.reduceEqDiff]);have h9:=Option.some.inj x0;subst h9;refine And.intro (fun h=>by cases h) (And.intro rfl (Fit2.of (Y1 hU rfl rfl ?_) (by omega)));simp only [push_cast,seval,↓reduceIte,Zb,hN0,hN]):A:=e p0
theorem zD {A B:Prop} (l0:List Nat) (l1:List Bool) (b:B) (e:Ar l0→Ar l1→Hid B→A:=by intro x0 x1 bZ;refine Zwy x0.v x1.v ?_;simp only [push_cast,seval,↓reduceIte,Ar.v];exact bZ.get):A:=e ⟨⟩ ⟨⟩ ⟨b⟩
theorem zQD {A B:Prop} (l0:List Nat) (l1:List (Option Bool)) (b:B) (e:Ar l0→Ar l1→Hid B→A:=by intro x0 x1 bZ;refine Zlp x0.v (Yx Zv x1.v ?_);simp only [push_cast,seval,↓reduceIte,Zb,Ar.v,hN0,hN];(repeat (with_reducible refine And.intro (by first | (intro h0;simp only [h0,and_self];done) | (intro h0;simp only [h0,Bool.not_false,Bool.not_true,Bool.true_and,Bool.and_true,true_and,and_true,and_self,imp_self,implies_true,bne_iff_ne,ne_eq,beq_iff_eq];done) | (intros;simp_all;done) | exact True.intro) ?_));exact bZ.get):A:=e ⟨⟩ ⟨⟩ ⟨b⟩
theorem Zec {A B:Prop} (l0:List (Option Bool)) {P1:Prop} (p1:P1) {P2:Prop} (p2:P2) {P3:Prop} (p3:P3) (b:B) (e:Ar l0→P1→P2→P3→Hid B→A:=by intro x0 x1 x2 x3 bZ;refine Yx Zv x0.v ?_;simp only [push_cast,Nat.reduceAdd,Nat.reduceSub,Nat.reduceMul,Nat.reduceLeDiff,Nat.reduceLT,Nat.reduceEqDiff,↓reduceIte,reduceCtorEq,Int.reduceBEq,Int.reduceBNe,Nat.reduceBEq,Int.reduceLE,Int.reduceLT,Int.reduceEq,Int.reduceNe,Int.reduceNeg,Nat.reduceDiv,Nat.reduceMod,Nat.reducePow,Zb,Ar.v,x1,x2,x3,hN0,hN];exact bZ.get):A:=e ⟨⟩ p1 p2 p3 ⟨b⟩
theorem zDs {A B:Prop} (l0:List Nat) (l1:List Bool) (b:B) (e:Ar l0→Ar l1→Hid B→A:=by intro x0 x1 bZ;refine Zwy x0.v x1.v ?_;simp only [push_cast,seval,↓reduceIte,Ar.v];refine Zd ?_;exact bZ.get):A:=e ⟨⟩ ⟨⟩ ⟨b⟩
theorem zEy {A:Prop} {P0:Prop} (p0:P0) (e:P0→A:=by intro x0;have h9:=Option.some.inj x0;subst h9;refine And.intro (fun h=>by cases h) (And.intro rfl (Fit2.of (Y1 hU rfl rfl ?_) (by omega)));simp only [push_cast,seval,↓reduceIte,Zb,hN0,hN]):A:=e p0
theorem zX1 {A B:Prop} {P0:Prop} (p0:P0) (b:B) (e:P0→Hid B→A:=by intro x0 bZ;simp only [push_cast,seval,↓reduceIte,Zb,x0,hN0,hN];exact bZ.get):A:=e p0 ⟨b⟩
theorem zG {A B:Prop} (b:B) (e:Hid B→A:=by intro bZ;(repeat (with_reducible refine And.intro (by first | (intro h0;simp only [h0,and_self];done) | (intro h0;simp only [h0,Bool.not_false,Bool.not_true,Bool.true_and,Bool.and_true,true_and,and_true,and_self,imp_self,implies_true,bne_iff_ne,ne_eq,beq_iff_eq];done) | (intros;simp_all;done) | exact True.intro) ?_));exact bZ.get):A:=e ⟨b⟩
theorem J7 {A:Prop} {P0:Prop} (p0:P0) {P1:Prop} (p1:P1) (e:P0→P1→A:=by intro x0 x1;have h9:=Option.some.inj x0;subst h9;refine And.intro rfl (Fit2.of (Y1 hU rfl rfl ?_) (by omega));simp only [push_cast,seval,↓reduceIte,Zb,x1,hN0,hN]):A:=e p0 p1
theorem zX3 {A B:Prop} {P0:Prop} (p0:P0) {P1:Prop} (p1:P1) {P2:Prop} (p2:P2) (b:B) (e:P0→P1→P2→Hid B→A:=by intro x0 x1 x2 bZ;simp only [push_cast,seval,↓reduceIte,Zb,x0,x1,x2,hN0,hN];exact bZ.get):A:=e p0 p1 p2 ⟨b⟩
theorem Zj3 {A:Prop} {P0:Prop} (p0:P0) {P1:Prop} (p1:P1) {P2:Prop} (p2:P2) {P3:Prop} (p3:P3) (e:P0→P1→P2→P3→A:=by intro x0 x1 x2 x3;have h9:=Option.some.inj x0;subst h9;refine And.intro rfl (Fit2.of (Y1 hU rfl rfl ?_) (by omega));simp only [push_cast,seval,↓reduceIte,Zb,x1,x2,x3,hN0,hN]):A:=e p0 p1 p2 p3
theorem zF8 {A B:Prop} {P0:Prop} (p0:P0) {P1:Prop} (p1:P1) {P2:Prop} (p2:P2) {P3:Prop} (p3:P3) {P4:Prop} (p4:P4) {P5:Prop} (p5:P5) {P6:Prop} (p6:P6) {P7:Prop} (p7:P7) (b:B) (e:P0→P1→P2→P3→P4→P5→P6→P7→Hid B→A:=by intro x0 x1 x2 x3 x4 x5 x6 x7 bZ;simp only [push_cast,Nat.reduceAdd,Nat.reduceSub,Nat.reduceMul,Nat.reduceLeDiff,Nat.reduceLT,Nat.reduceEqDiff,↓reduceIte,reduceCtorEq,Int.reduceBEq,Int.reduceBNe,Nat.reduceBEq,Int.reduceLE,Int.reduceLT,Int.reduceEq,Int.reduceNe,Int.reduceNeg,Nat.reduceDiv,Nat.reduceMod,Nat.reducePow,Zb,x0,x1,x2,x3,x4,x5,x6,x7,hN0,hN];exact bZ.get):A:=e p0 p1 p2 p3 p4 p5 p6 p7 ⟨b⟩
theorem Ypo {A:Prop} {P0:Prop} (p0:P0) {P1:Prop} (p1:P1) {P2:Prop} (p2:P2) {P3:Prop} (p3:P3) {P4:Prop} (p4:P4) {P5:Prop} (p5:P5) {P6:Prop} (p6:P6) {P7:Prop} (p7:P7) {P8:Prop} (p8:P8) (e:P0→P1→P2→P3→P4→P5→P6→P7→P8→A:=by intro x0 x1 x2 x3 x4 x5 x6 x7 x8;have h9:=Option.some.inj x0;subst h9;refine And.intro rfl (Fit2.of (Y1 hU rfl rfl ?_) (by omega));simp only [push_cast,Nat.reduceAdd,Nat.reduceSub,Nat.reduceMul,Nat.reduceLeDiff,Nat.reduceLT,Nat.reduceEqDiff,↓reduceIte,reduceCtorEq,Int.reduceBEq,Int.reduceBNe,Nat.reduceBEq,Int.reduceLE,Int.reduceLT,Int.reduceEq,Int.reduceNe,Int.reduceNeg,Nat.reduceDiv,Nat.reduceMod,Nat.reducePow,Zb,x1,x2,x3,x4,x5,x6,x7,x8,hN0,hN]):A:=e p0 p1 p2 p3 p4 p5 p6 p7 p8
theorem zX5 {A B:Prop} {P0:Prop} (p0:P0) {P1:Prop} (p1:P1) {P2:Prop} (p2:P2) {P3:Prop} (p3:P3) {P4:Prop} (p4:P4) (b:B) (e:P0→P1→P2→P3→P4→Hid B→A:=by intro x0 x1 x2 x3 x4 bZ;simp only [push_cast,seval,↓reduceIte,Zb,x0,x1,x2,x3,x4,hN0,hN];exact bZ.get):A:=e p0 p1 p2 p3 p4 ⟨b⟩
theorem Z4q {A:Prop} {P0:Prop} (p0:P0) {P1:Prop} (p1:P1) {P2:Prop} (p2:P2) {P3:Prop} (p3:P3) {P4:Prop} (p4:P4) {P5:Prop} (p5:P5) (e:P0→P1→P2→P3→P4→P5→A:=by intro x0 x1 x2 x3 x4 x5;have h9:=Option.some.inj x0;subst h9;refine And.intro rfl (Fit2.of (Y1 hU rfl rfl ?_) (by omega));simp only [push_cast,seval,↓reduceIte,Zb,x1,x2,x3,x4,x5,hN0,hN]):A:=e p0 p1 p2 p3 p4 p5
theorem zX4 {A B:Prop} {P0:Prop} (p0:P0) {P1:Prop} (p1:P1) {P2:Prop} (p2:P2) {P3:Prop} (p3:P3) (b:B) (e:P0→P1→P2→P3→Hid B→A:=by intro x0 x1 x2 x3 bZ;simp only [push_cast,seval,↓reduceIte,Zb,x0,x1,x2,x3,hN0,hN];exact bZ.get):A:=e p0 p1 p2 p3 ⟨b⟩
theorem Zqq {A:Prop} {P0:Prop} (p0:P0) {P1:Prop} (p1:P1) {P2:Prop} (p2:P2) {P3:Prop} (p3:P3) {P4:Prop} (p4:P4) (e:P0→P1→P2→P3→P4→A:=by intro x0 x1 x2 x3 x4;have h9:=Option.some.inj x0;subst h9;refine And.intro rfl (Fit2.of (Y1 hU rfl rfl ?_) (by omega));simp only [push_cast,seval,↓reduceIte,Zb,x1,x2,x3,x4,hN0,hN]):A:=e p0 p1 p2 p3 p4
theorem zF7 {A B:Prop} {P0:Prop} (p0:P0) {P1:Prop} (p1:P1) {P2:Prop} (p2:P2) {P3:Prop} (p3:P3) {P4:Prop} (p4:P4) {P5:Prop} (p5:P5) {P6:Prop} (p6:P6) (b:B) (e:P0→P1→P2→P3→P4→P5→P6→Hid B→A:=by intro x0 x1 x2 x3 x4 x5 x6 bZ;simp only [push_cast,Nat.reduceAdd,Nat.reduceSub,Nat.reduceMul,Nat.reduceLeDiff,Nat.reduceLT,Nat.reduceEqDiff,↓reduceIte,reduceCtorEq,Int.reduceBEq,Int.reduceBNe,Nat.reduceBEq,Int.reduceLE,Int.reduceLT,Int.reduceEq,Int.reduceNe,Int.reduceNeg,Nat.reduceDiv,Nat.reduceMod,Nat.reducePow,Zb,x0,x1,x2,x3,x4,x5,x6,hN0,hN];exact bZ.get):A:=e p0 p1 p2 p3 p4 p5 p6 ⟨b⟩
theorem Ykr {A:Prop} {P0:Prop} (p0:P0) {P1:Prop} (p1:P1) {P2:Prop} (p2:P2) {P3:Prop} (p3:P3) {P4:Prop} (p4:P4) {P5:Prop} (p5:P5) {P6:Prop} (p6:P6) {P7:Prop} (p7:P7) (e:P0→P1→P2→P3→P4→P5→P6→P7→A:=by intro x0 x1 x2 x3 x4 x5 x6 x7;have h9:=Option.some.inj x0;subst h9;refine And.intro rfl (Fit2.of (Y1 hU rfl rfl ?_) (by omega));simp only [push_cast,Nat.reduceAdd,Nat.reduceSub,Nat.reduceMul,Nat.reduceLeDiff,Nat.reduceLT,Nat.reduceEqDiff,↓reduceIte,reduceCtorEq,Int.reduceBEq,Int.reduceBNe,Nat.reduceBEq,Int.reduceLE,Int.reduceLT,Int.reduceEq,Int.reduceNe,Int.reduceNeg,Nat.reduceDiv,Nat.reduceMod,Nat.reducePow,Zb,x1,x2,x3,x4,x5,x6,x7,hN0,hN]):A:=e p0 p1 p2 p3 p4 p5 p6 p7
theorem Z3g {A B:Prop} (l0:List (Option Bool)) {P1:Prop} (p1:P1) {P2:Prop} (p2:P2) {P3:Prop} (p3:P3) {P4:Prop} (p4:P4) (b:B) (e:Ar l0→P1→P2→P3→P4→Hid B→A:=by intro x0 x1 x2 x3 x4 bZ;refine Yx Zv x0.v ?_;simp only [push_cast,Nat.reduceAdd,Nat.reduceSub,Nat.reduceMul,Nat.reduceLeDiff,Nat.reduceLT,Nat.reduceEqDiff,↓reduceIte,reduceCtorEq,Int.reduceBEq,Int.reduceBNe,Nat.reduceBEq,Int.reduceLE,Int.reduceLT,Int.reduceEq,Int.reduceNe,Int.reduceNeg,Nat.reduceDiv,Nat.reduceMod,Nat.reducePow,Zb,Ar.v,x1,x2,x3,x4,hN0,hN];exact bZ.get):A:=e ⟨⟩ p1 p2 p3 p4 ⟨b⟩
theorem Ykp {A:Prop} {P0:Prop} (p0:P0) {P1:Prop} (p1:P1) {P2:Prop} (p2:P2) {P3:Prop} (p3:P3) {P4:Prop} (p4:P4) (e:P0→P1→P2→P3→P4→A:=by intro x0 x1 x2 x3 x4;have h9:=Option.some.inj x0;subst h9;refine And.intro rfl (Fit2.of (Y1 hU rfl rfl ?_) (by omega));simp only [push_cast,Nat.reduceAdd,Nat.reduceSub,Nat.reduceMul,Nat.reduceLeDiff,Nat.reduceLT,Nat.reduceEqDiff,↓reduceIte,reduceCtorEq,Int.reduceBEq,Int.reduceBNe,Nat.reduceBEq,Int.reduceLE,Int.reduceLT,Int.reduceEq,Int.reduceNe,Int.reduceNeg,Nat.reduceDiv,Nat.reduceMod,Nat.reducePow,Zb,x1,x2,x3,x4,hN0,hN]):A:=e p0 p1 p2 p3 p4
theorem Ks {A B:Prop} (l0:List (Option Bool)) {P1:Prop} (p1:P1) (b:B) (e:Ar l0→P1→Hid B→A:=by intro x0 x1 bZ;refine Yx Zv x0.v ?_;simp only [push_cast,seval,↓reduceIte,Zb,Ar.v,x1,hN0,hN];exact bZ.get):A:=e ⟨⟩ p1 ⟨b⟩
theorem zSe {A:Prop} (e:A:=by simp only [push_cast,seval,↓reduceIte,Zb,hN0,hN]):A:=e
theorem zF3 {A B:Prop} {P0:Prop} (p0:P0) {P1:Prop} (p1:P1) {P2:Prop} (p2:P2) (b:B) (e:P0→P1→P2→Hid B→A:=by intro x0 x1 x2 bZ;simp only [push_cast,Nat.reduceAdd,Nat.reduceSub,Nat.reduceMul,Nat.reduceLeDiff,Nat.reduceLT,Nat.reduceEqDiff,↓reduceIte,reduceCtorEq,Int.reduceBEq,Int.reduceBNe,Nat.reduceBEq,Int.reduceLE,Int.reduceLT,Int.reduceEq,Int.reduceNe,Int.reduceNeg,Nat.reduceDiv,Nat.reduceMod,Nat.reducePow,Zb,x0,x1,x2,hN0,hN];exact bZ.get):A:=e p0 p1 p2 ⟨b⟩
theorem Zhd {A B:Prop} (l0:List (Option Bool)) {P1:Prop} (p1:P1) {P2:Prop} (p2:P2) {P3:Prop} (p3:P3) (b:B) (e:Ar l0→P1→P2→P3→Hid B→A:=by intro x0 x1 x2 x3 bZ;refine Yx Zv x0.v ?_;simp only [push_cast,seval,↓reduceIte,Zb,Ar.v,x1,x2,x3,hN0,hN];exact bZ.get):A:=e ⟨⟩ p1 p2 p3 ⟨b⟩
theorem Zyq {A:Prop} {P0:Prop} (p0:P0) {P1:Prop} (p1:P1) {P2:Prop} (p2:P2) (e:P0→P1→P2→A:=by intro x0 x1 x2;simp only [push_cast,seval,↓reduceIte,Zb,x0,x1,x2,hN0,hN]):A:=e p0 p1 p2
theorem zK {A B:Prop} (b:B) (e:Hid B→A:=by intro bZ;refine Yfo ?_;(try simp only [Xc,Yp]);exact bZ.get):A:=e ⟨b⟩
theorem zRo {A B:Prop} (l0:List (Option Bool)) (b:B) (e:Ar l0→Hid B→A:=by intro x0 bZ;refine Yx Zv x0.v ?_;simp only [push_cast,seval,↓reduceIte,Zb,Ar.v,hN0,hN];exact bZ.get):A:=e ⟨⟩ ⟨b⟩
theorem zTs {A B:Prop} {P0:Prop} (p0:P0) (b:B) (e:P0→Hid B→A:=by intro x0 bZ;refine x0.then ?_;simp only [push_cast,seval,↓reduceIte,Zb,hN0,hN];exact bZ.get):A:=e p0 ⟨b⟩
theorem zF4 {A B:Prop} {P0:Prop} (p0:P0) {P1:Prop} (p1:P1) {P2:Prop} (p2:P2) {P3:Prop} (p3:P3) (b:B) (e:P0→P1→P2→P3→Hid B→A:=by intro x0 x1 x2 x3 bZ;simp only [push_cast,Nat.reduceAdd,Nat.reduceSub,Nat.reduceMul,Nat.reduceLeDiff,Nat.reduceLT,Nat.reduceEqDiff,↓reduceIte,reduceCtorEq,Int.reduceBEq,Int.reduceBNe,Nat.reduceBEq,Int.reduceLE,Int.reduceLT,Int.reduceEq,Int.reduceNe,Int.reduceNeg,Nat.reduceDiv,Nat.reduceMod,Nat.reducePow,Zb,x0,x1,x2,x3,hN0,hN];exact bZ.get):A:=e p0 p1 p2 p3 ⟨b⟩
theorem Ykt {A B:Prop} (l0:List (Option Bool)) {P1:Prop} (p1:P1) {P2:Prop} (p2:P2) {P3:Prop} (p3:P3) {P4:Prop} (p4:P4) {P5:Prop} (p5:P5) {P6:Prop} (p6:P6) {P7:Prop} (p7:P7) (b:B) (e:Ar l0→P1→P2→P3→P4→P5→P6→P7→Hid B→A:=by intro x0 x1 x2 x3 x4 x5 x6 x7 bZ;refine Yx Zv x0.v ?_;simp only [push_cast,Nat.reduceAdd,Nat.reduceSub,Nat.reduceMul,Nat.reduceLeDiff,Nat.reduceLT,Nat.reduceEqDiff,↓reduceIte,reduceCtorEq,Int.reduceBEq,Int.reduceBNe,Nat.reduceBEq,Int.reduceLE,Int.reduceLT,Int.reduceEq,Int.reduceNe,Int.reduceNeg,Nat.reduceDiv,Nat.reduceMod,Nat.reducePow,Zb,Ar.v,x1,x2,x3,x4,x5,x6,x7,hN0,hN];exact bZ.get):A:=e ⟨⟩ p1 p2 p3 p4 p5 p6 p7 ⟨b⟩
theorem zS {A B:Prop} (b:B) (e:Hid B→A:=by intro bZ;simp only [push_cast,seval,↓reduceIte,Zb,hN0,hN];exact bZ.get):A:=e ⟨b⟩
theorem zC {A B:Prop} {P0:Prop} (p0:P0) (b:B) (e:P0→Hid B→A:=by intro x0 bZ;refine Yx Zv [] ?_;simp only [push_cast,seval,↓reduceIte,Zb,hN0,hN];refine x0.then ?_;simp only [push_cast,seval,↓reduceIte,Zb,hN0,hN];exact bZ.get):A:=e p0 ⟨b⟩
theorem Ypq {A B:Prop} (l0:List Nat) {P1:Prop} (p1:P1) (b:B) (e:Ar l0→P1→Hid B→A:=by intro x0 x1 bZ;refine Zlp x0.v (Yx Zv [] ?_);simp only [push_cast,seval,↓reduceIte,Zb,Ar.v,x1,hN0,hN];exact bZ.get):A:=e ⟨⟩ p1 ⟨b⟩
theorem Qf {A B:Prop} (l0:List (Option Bool)) {P1:Prop} (p1:P1) {P2:Prop} (p2:P2) (b:B) (e:Ar l0→P1→P2→Hid B→A:=by intro x0 x1 x2 bZ;refine Yx Zv x0.v ?_;simp only [push_cast,seval,↓reduceIte,Zb,Ar.v,x1,x2,hN0,hN];exact bZ.get):A:=e ⟨⟩ p1 p2 ⟨b⟩
theorem Zqr {A B:Prop} (l0:List (Option Bool)) {P1:Prop} (p1:P1) {P2:Prop} (p2:P2) {P3:Prop} (p3:P3) {P4:Prop} (p4:P4) (b:B) (e:Ar l0→P1→P2→P3→P4→Hid B→A:=by intro x0 x1 x2 x3 x4 bZ;refine Yx Zv x0.v ?_;simp only [push_cast,seval,↓reduceIte,Zb,Ar.v,x1,x2,x3,x4,hN0,hN];exact bZ.get):A:=e ⟨⟩ p1 p2 p3 p4 ⟨b⟩
theorem Ko {A:Prop} {P0:Prop} (p0:P0) {P1:Prop} (p1:P1) (e:P0→P1→A:=by intro x0 x1;simp only [push_cast,seval,↓reduceIte,Zb,x0,x1,hN0,hN]):A:=e p0 p1
theorem zX2 {A B:Prop} {P0:Prop} (p0:P0) {P1:Prop} (p1:P1) (b:B) (e:P0→P1→Hid B→A:=by intro x0 x1 bZ;simp only [push_cast,seval,↓reduceIte,Zb,x0,x1,hN0,hN];exact bZ.get):A:=e p0 p1 ⟨b⟩
theorem Zbz {A:Prop} {P0:Prop} (p0:P0) {P1:Prop} (p1:P1) {P2:Prop} (p2:P2) (e:P0→P1→P2→A:=by intro x0 x1 x2;have h9:=Option.some.inj x0;subst h9;refine And.intro rfl (Fit2.of (Y1 hU rfl rfl ?_) (by omega));simp only [push_cast,seval,↓reduceIte,Zb,x1,x2,hN0,hN]):A:=e p0 p1 p2
theorem Yq1 {A:Prop} {P0:Prop} (p0:P0) {P1:Prop} (p1:P1) {P2:Prop} (p2:P2) {P3:Prop} (p3:P3) (e:P0→P1→P2→P3→A:=by intro x0 x1 x2 x3;simp only [push_cast,seval,↓reduceIte,Zb,x0,x1,x2,x3,hN0,hN]):A:=e p0 p1 p2 p3
theorem Ypr {A B:Prop} (l0:List Nat) {P1:Prop} (p1:P1) {P2:Prop} (p2:P2) {P3:Prop} (p3:P3) {P4:Prop} (p4:P4) (b:B) (e:Ar l0→P1→P2→P3→P4→Hid B→A:=by intro x0 x1 x2 x3 x4 bZ;refine Zlp x0.v (Yx Zv [] ?_);simp only [push_cast,seval,↓reduceIte,Zb,Ar.v,x1,x2,x3,x4,hN0,hN];exact bZ.get):A:=e ⟨⟩ p1 p2 p3 p4 ⟨b⟩
theorem Yat {A B:Prop} (l0:List (Option Bool)) {P1:Prop} (p1:P1) {P2:Prop} (p2:P2) {P3:Prop} (p3:P3) {P4:Prop} (p4:P4) {P5:Prop} (p5:P5) (b:B) (e:Ar l0→P1→P2→P3→P4→P5→Hid B→A:=by intro x0 x1 x2 x3 x4 x5 bZ;refine Yx Zv x0.v ?_;simp only [push_cast,Nat.reduceAdd,Nat.reduceSub,Nat.reduceMul,Nat.reduceLeDiff,Nat.reduceLT,Nat.reduceEqDiff,↓reduceIte,reduceCtorEq,Int.reduceBEq,Int.reduceBNe,Nat.reduceBEq,Int.reduceLE,Int.reduceLT,Int.reduceEq,Int.reduceNe,Int.reduceNeg,Nat.reduceDiv,Nat.reduceMod,Nat.reducePow,Zb,Ar.v,x1,x2,x3,x4,x5,hN0,hN];exact bZ.get):A:=e ⟨⟩ p1 p2 p3 p4 p5 ⟨b⟩
theorem Ykq {A:Prop} {P0:Prop} (p0:P0) {P1:Prop} (p1:P1) {P2:Prop} (p2:P2) {P3:Prop} (p3:P3) {P4:Prop} (p4:P4) {P5:Prop} (p5:P5) (e:P0→P1→P2→P3→P4→P5→A:=by intro x0 x1 x2 x3 x4 x5;have h9:=Option.some.inj x0;subst h9;refine And.intro rfl (Fit2.of (Y1 hU rfl rfl ?_) (by omega));simp only [push_cast,Nat.reduceAdd,Nat.reduceSub,Nat.reduceMul,Nat.reduceLeDiff,Nat.reduceLT,Nat.reduceEqDiff,↓reduceIte,reduceCtorEq,Int.reduceBEq,Int.reduceBNe,Nat.reduceBEq,Int.reduceLE,Int.reduceLT,Int.reduceEq,Int.reduceNe,Int.reduceNeg,Nat.reduceDiv,Nat.reduceMod,Nat.reducePow,Zb,x1,x2,x3,x4,x5,hN0,hN]):A:=e p0 p1 p2 p3 p4 p5
theorem Z8o {A:Prop} {P0:Prop} (p0:P0) (e:P0→A:=by intro x0;simp only [push_cast,seval,↓reduceIte,Zb,x0,hN0,hN]):A:=e p0
theorem zF5 {A B:Prop} {P0:Prop} (p0:P0) {P1:Prop} (p1:P1) {P2:Prop} (p2:P2) {P3:Prop} (p3:P3) {P4:Prop} (p4:P4) (b:B) (e:P0→P1→P2→P3→P4→Hid B→A:=by intro x0 x1 x2 x3 x4 bZ;simp only [push_cast,Nat.reduceAdd,Nat.reduceSub,Nat.reduceMul,Nat.reduceLeDiff,Nat.reduceLT,Nat.reduceEqDiff,↓reduceIte,reduceCtorEq,Int.reduceBEq,Int.reduceBNe,Nat.reduceBEq,Int.reduceLE,Int.reduceLT,Int.reduceEq,Int.reduceNe,Int.reduceNeg,Nat.reduceDiv,Nat.reduceMod,Nat.reducePow,Zb,x0,x1,x2,x3,x4,hN0,hN];exact bZ.get):A:=e p0 p1 p2 p3 p4 ⟨b⟩
theorem zXt {A B:Prop} (b:B) (e:Hid B→A:=by intro bZ;refine Yfm ?_;(try simp only [Xc,Yp,↓reduceIte,Nat.reduceEqDiff]);exact bZ.get):A:=e ⟨b⟩
theorem Yku {A B:Prop} (l0:List (Option Bool)) {P1:Prop} (p1:P1) {P2:Prop} (p2:P2) {P3:Prop} (p3:P3) {P4:Prop} (p4:P4) {P5:Prop} (p5:P5) {P6:Prop} (p6:P6) (b:B) (e:Ar l0→P1→P2→P3→P4→P5→P6→Hid B→A:=by intro x0 x1 x2 x3 x4 x5 x6 bZ;refine Yx Zv x0.v ?_;simp only [push_cast,seval,↓reduceIte,Zb,Ar.v,x1,x2,x3,x4,x5,x6,hN0,hN];exact bZ.get):A:=e ⟨⟩ p1 p2 p3 p4 p5 p6 ⟨b⟩
theorem Yks {A:Prop} {P0:Prop} (p0:P0) {P1:Prop} (p1:P1) {P2:Prop} (p2:P2) {P3:Prop} (p3:P3) {P4:Prop} (p4:P4) {P5:Prop} (p5:P5) {P6:Prop} (p6:P6) (e:P0→P1→P2→P3→P4→P5→P6→A:=by intro x0 x1 x2 x3 x4 x5 x6;have h9:=Option.some.inj x0;subst h9;refine And.intro rfl (Fit2.of (Y1 hU rfl rfl ?_) (by omega));simp only [push_cast,seval,↓reduceIte,Zb,x1,x2,x3,x4,x5,x6,hN0,hN]):A:=e p0 p1 p2 p3 p4 p5 p6
theorem zX6 {A B:Prop} {P0:Prop} (p0:P0) {P1:Prop} (p1:P1) {P2:Prop} (p2:P2) {P3:Prop} (p3:P3) {P4:Prop} (p4:P4) {P5:Prop} (p5:P5) (b:B) (e:P0→P1→P2→P3→P4→P5→Hid B→A:=by intro x0 x1 x2 x3 x4 x5 bZ;simp only [push_cast,seval,↓reduceIte,Zb,x0,x1,x2,x3,x4,x5,hN0,hN];exact bZ.get):A:=e p0 p1 p2 p3 p4 p5 ⟨b⟩
theorem Yau {A B:Prop} (l0:List (Option Bool)) {P1:Prop} (p1:P1) {P2:Prop} (p2:P2) {P3:Prop} (p3:P3) {P4:Prop} (p4:P4) {P5:Prop} (p5:P5) (b:B) (e:Ar l0→P1→P2→P3→P4→P5→Hid B→A:=by intro x0 x1 x2 x3 x4 x5 bZ;refine Yx Zv x0.v ?_;simp only [push_cast,seval,↓reduceIte,Zb,Ar.v,x1,x2,x3,x4,x5,hN0,hN];exact bZ.get):A:=e ⟨⟩ p1 p2 p3 p4 p5 ⟨b⟩
theorem zEf {A:Prop} (e:A:=by refine And.intro rfl (Fit2.of (Y1 hU rfl rfl ?_) (by omega));simp only [push_cast,seval,↓reduceIte,Zb,hN0,hN]):A:=e
theorem Ypn {A:Prop} {P0:Prop} (p0:P0) {P1:Prop} (p1:P1) {P2:Prop} (p2:P2) (e:P0→P1→P2→A:=by intro x0 x1 x2;refine And.intro rfl (Fit2.of (Y1 hU rfl rfl ?_) (by omega));simp only [push_cast,seval,↓reduceIte,Zb,x0,x1,x2,hN0,hN]):A:=e p0 p1 p2
theorem Zeb {A B:Prop} (l0:List Nat) {P1:Prop} (p1:P1) {P2:Prop} (p2:P2) (b:B) (e:Ar l0→P1→P2→Hid B→A:=by intro x0 x1 x2 bZ;refine Zlp x0.v (Yx Zv [] ?_);simp only [push_cast,seval,↓reduceIte,Zb,Ar.v,x1,x2,hN0,hN];exact bZ.get):A:=e ⟨⟩ p1 p2 ⟨b⟩
theorem zF6 {A B:Prop} {P0:Prop} (p0:P0) {P1:Prop} (p1:P1) {P2:Prop} (p2:P2) {P3:Prop} (p3:P3) {P4:Prop} (p4:P4) {P5:Prop} (p5:P5) (b:B) (e:P0→P1→P2→P3→P4→P5→Hid B→A:=by intro x0 x1 x2 x3 x4 x5 bZ;simp only [push_cast,Nat.reduceAdd,Nat.reduceSub,Nat.reduceMul,Nat.reduceLeDiff,Nat.reduceLT,Nat.reduceEqDiff,↓reduceIte,reduceCtorEq,Int.reduceBEq,Int.reduceBNe,Nat.reduceBEq,Int.reduceLE,Int.reduceLT,Int.reduceEq,Int.reduceNe,Int.reduceNeg,Nat.reduceDiv,Nat.reduceMod,Nat.reducePow,Zb,x0,x1,x2,x3,x4,x5,hN0,hN];exact bZ.get):A:=e p0 p1 p2 p3 p4 p5 ⟨b⟩
theorem zO {A B:Prop} (b:B) (e:Hid B→A:=by intro bZ;(repeat (with_reducible refine And.intro (by first | omega | exact Q1 rfl | exact Qb | exact Yei rfl | exact Z8r rfl rfl | exact Qj rfl | exact X8 rfl) ?_));exact bZ.get):A:=e ⟨b⟩
theorem Ypp {A:Prop} {P0:Prop} (p0:P0) {P1:Prop} (p1:P1) {P2:Prop} (p2:P2) {P3:Prop} (p3:P3) {P4:Prop} (p4:P4) {P5:Prop} (p5:P5) (e:P0→P1→P2→P3→P4→P5→A:=by intro x0 x1 x2 x3 x4 x5;simp only [push_cast,Nat.reduceAdd,Nat.reduceSub,Nat.reduceMul,Nat.reduceLeDiff,Nat.reduceLT,Nat.reduceEqDiff,↓reduceIte,reduceCtorEq,Int.reduceBEq,Int.reduceBNe,Nat.reduceBEq,Int.reduceLE,Int.reduceLT,Int.reduceEq,Int.reduceNe,Int.reduceNeg,Nat.reduceDiv,Nat.reduceMod,Nat.reducePow,Zb,x0,x1,x2,x3,x4,x5,hN0,hN]):A:=e p0 p1 p2 p3 p4 p5
theorem Yps {A B:Prop} (l0:List (Option Bool)) {P1:Prop} (p1:P1) {P2:Prop} (p2:P2) {P3:Prop} (p3:P3) {P4:Prop} (p4:P4) {P5:Prop} (p5:P5) {P6:Prop} (p6:P6) {P7:Prop} (p7:P7) {P8:Prop} (p8:P8) (b:B) (e:Ar l0→P1→P2→P3→P4→P5→P6→P7→P8→Hid B→A:=by intro x0 x1 x2 x3 x4 x5 x6 x7 x8 bZ;refine Yx Zv x0.v ?_;simp only [push_cast,Nat.reduceAdd,Nat.reduceSub,Nat.reduceMul,Nat.reduceLeDiff,Nat.reduceLT,Nat.reduceEqDiff,↓reduceIte,reduceCtorEq,Int.reduceBEq,Int.reduceBNe,Nat.reduceBEq,Int.reduceLE,Int.reduceLT,Int.reduceEq,Int.reduceNe,Int.reduceNeg,Nat.reduceDiv,Nat.reduceMod,Nat.reducePow,Zb,Ar.v,x1,x2,x3,x4,x5,x6,x7,x8,hN0,hN];exact bZ.get):A:=e ⟨⟩ p1 p2 p3 p4 p5 p6 p7 p8 ⟨b⟩
theorem Ypm {A:Prop} {P0:Prop} (p0:P0) {P1:Prop} (p1:P1) {P2:Prop} (p2:P2) {P3:Prop} (p3:P3) {P4:Prop} (p4:P4) {P5:Prop} (p5:P5) (e:P0→P1→P2→P3→P4→P5→A:=by intro x0 x1 x2 x3 x4 x5;refine And.intro rfl (Fit2.of (Y1 hU rfl rfl ?_) (by omega));simp only [push_cast,Nat.reduceAdd,Nat.reduceSub,Nat.reduceMul,Nat.reduceLeDiff,Nat.reduceLT,Nat.reduceEqDiff,↓reduceIte,reduceCtorEq,Int.reduceBEq,Int.reduceBNe,Nat.reduceBEq,Int.reduceLE,Int.reduceLT,Int.reduceEq,Int.reduceNe,Int.reduceNeg,Nat.reduceDiv,Nat.reduceMod,Nat.reducePow,Zb,x0,x1,x2,x3,x4,x5,hN0,hN]):A:=e p0 p1 p2 p3 p4 p5
end Go.Proofs.YtmlcnhambfkjaaaGreat
