/- Part ZE of this seat's mirrors: functions of the seat's program, and the plain functions that they are; each theorem bears its own conditions. -/
import Derived.Test.YtbcgiaijjaocdaaTy
import Derived.Test.YtbcgiaijjaocdaaZD
namespace Go.Proofs.Ytbcgiaijjaocdaa
open Go.RowKit
set_option linter.unusedVariables false
set_option linter.unusedSimpArgs false
set_option maxRecDepth 100000
set_option maxHeartbeats 1000000
mutual
def Ur:S_api_Tree→List G
 | ⟨f0,f1,f2⟩=>[.val (.int .i64 f0),.sl f1.length (fl (eI .u64) f1),.sl f2.length (Us f2)]
def Us:List S_api_Tree→List G
 | []=>[]
 | x::xs=>Ur x++Us xs
end
theorem Zgu:∀ xs,Us xs=fl Ur xs
 | []=>by simp [Us,fl]
 | x::xs=>by rw [Us,Ud,Zgu xs]
def Zb (x:S_api_Tree):List G:=[.val (.int .i64 x.Kind),.sl x.Words.length (fl (eI .u64) x.Words),.sl x.Kids.length (fl Ur x.Kids)]
theorem Yo:Ur=Zb:=by
 funext x
 obtain ⟨_,_,_⟩:=x
 simp only [Ur,Zgu,Zb,List.cons_append,List.nil_append,List.append_nil]
mutual
theorem Zfu:∀ x,G.pures (Ur x)=true
 | ⟨f0,f1,f2⟩=>by simp [Ur,eP,V0,eI,eB,eS,eL,G.pures,G.pure,Zam,Ym,Zh2 f2]
theorem Zh2:∀ xs,G.pures (Us xs)=true
 | []=>rfl
 | x::xs=>by simp [Us,Zam,Zfu x,Zh2 xs]
end
theorem Zfv:∀ x,G.pures (Zb x)=true:=fun x=>by rw [← Yo];exact Zfu x
theorem Ky:∀ x,G.pures ((eI .u64) x)=true:=fun x=>by simp [eI,eB,eS,eL,eP,G.pures,G.pure,Ym,V0,Yo]
theorem Zlh {O O':Objs} {n:Nat} (xs:List Int):wkl O O' n (fl (eI .u64) xs) (fl (eI .u64) xs):=Zeq (Ym Ky xs)
theorem Zlf {O O':Objs} {n:Nat} (xs:List Int) (b b':List G):wkl O O' n (fl (eI .u64) xs++b) (fl (eI .u64) xs++b')=wkl O O' n b b':=Zdr b b' _ (Ym Ky xs)
theorem Zkm (xs:List Int):(fl (eI .u64) xs).length=xs.length * 1:=Q1 (f:=(eI .u64)) (k:=1) (fun _=>rfl) xs
theorem Zky (xs:List Int):(fl (eI .u64) xs).all G.one=true:=Gg (fun x=>by simp [eI,eB,eS,eL,eP,Zfr,G.one,Value.oneCell']) xs
theorem Zlj {O O':Objs} {n:Nat} (x:Option Int):wk O O' n (gP (eI .u64) x) (gP (eI .u64) x)=True:=Zn9 Ky x
theorem Zjb {k:Nat} (x:Option Int):(gP (eI .u64) x).under k=true:=Zdp Ky k x
theorem Zi6 {ρ:Nat→Nat} (xs:List Int):G.rens ρ (fl (eI .u64) xs)=fl (eI .u64) xs:=K1 ρ _ (Ym Ky xs)
theorem Zi4 {ρ:Nat→Nat} (x:Option Int):(gP (eI .u64) x).ren ρ=gP (eI .u64) x:=Zca ρ _ (V0 Ky x)
theorem Zlb {k:Nat} (xs:List Int):G.unders k (fl (eI .u64) xs)=true:=Xu _ _ (Ym Ky xs)
theorem Y7:∀ x,G.pures (Zb x)=true:=fun x=>by rw [← Yo];exact Zfu x
theorem Zd9 {O O':Objs} {n:Nat} (xs:List S_api_Tree):wkl O O' n (fl Zb xs) (fl Zb xs):=Zeq (Ym Y7 xs)
theorem Zd8 {O O':Objs} {n:Nat} (xs:List S_api_Tree) (b b':List G):wkl O O' n (fl Zb xs++b) (fl Zb xs++b')=wkl O O' n b b':=Zdr b b' _ (Ym Y7 xs)
theorem Zd0 (xs:List S_api_Tree):(fl Zb xs).length=xs.length * 3:=Q1 (f:=Zb) (k:=3) (fun _=>rfl) xs
theorem Zd1 (xs:List S_api_Tree):(fl Zb xs).all G.one=true:=Gg (fun x=>by simp [eI,eB,eS,eL,eP,Zfr,G.one,Value.oneCell',Zb]) xs
theorem Zea {O O':Objs} {n:Nat} (x:Option S_api_Tree):wk O O' n (gP Zb x) (gP Zb x)=True:=Zn9 Y7 x
theorem Zdq {k:Nat} (x:Option S_api_Tree):(gP Zb x).under k=true:=Zdp Y7 k x
theorem Zdl {ρ:Nat→Nat} (xs:List S_api_Tree):G.rens ρ (fl Zb xs)=fl Zb xs:=K1 ρ _ (Ym Y7 xs)
theorem Zdk {ρ:Nat→Nat} (x:Option S_api_Tree):(gP Zb x).ren ρ=gP Zb x:=Zca ρ _ (V0 Y7 x)
theorem Zd7 {k:Nat} (xs:List S_api_Tree):G.unders k (fl Zb xs)=true:=Xu _ _ (Ym Y7 xs)
def Zg (x:Zp):List G:=[.val (.int .i64 x.At),.val (.int .u8 x.Mask),.val (.int .u64 x.Old),.val (.int .u64 x.New)]
mutual
def Jf:S_api_Edit→List G
 | ⟨f0,f1,f2,f3,f4,f5,f6⟩=>[.val (.int .i64 f0),.val (.int .i64 f1.Kind),.sl f1.Words.length (fl (eI .u64) f1.Words),.sl f1.Kids.length (fl Zb f1.Kids),.val (.int .i64 f2.Kind),.sl f2.Words.length (fl (eI .u64) f2.Words),.sl f2.Kids.length (fl Zb f2.Kids),.sl f3.length (fl Zg f3),.sl f4.length (J0 f4),.val (.int .i64 f5),.sl f6.length (Za4 f6)]
def Zaj:List S_api_Edit→List G
 | []=>[]
 | x::xs=>Jf x++Zaj xs
def Km:S_api_Op→List G
 | ⟨f0,f1,f2,f3⟩=>[.val (.int .i64 f0),.val (.int .i64 f1),.sl f2.length (fl Zb f2)]++Jf f3
def Za4:List S_api_Op→List G
 | []=>[]
 | x::xs=>Km x++Za4 xs
def Xm:S_api_KidEdit→List G
 | ⟨f0,f1⟩=>[.val (.int .i64 f0)]++Jf f1
def J0:List S_api_KidEdit→List G
 | []=>[]
 | x::xs=>Xm x++J0 xs
end
theorem Zbs:∀ xs,Zaj xs=fl Jf xs
 | []=>by simp [Zaj,fl]
 | x::xs=>by rw [Zaj,Ud,Zbs xs]
theorem Zc6:∀ xs,Za4 xs=fl Km xs
 | []=>by simp [Za4,fl]
 | x::xs=>by rw [Za4,Ud,Zc6 xs]
theorem Uy:∀ xs,J0 xs=fl Xm xs
 | []=>by simp [J0,fl]
 | x::xs=>by rw [J0,Ud,Uy xs]
def Xt (x:S_api_Edit):List G:=[.val (.int .i64 x.Kind),.val (.int .i64 x.Old.Kind),.sl x.Old.Words.length (fl (eI .u64) x.Old.Words),.sl x.Old.Kids.length (fl Zb x.Old.Kids),.val (.int .i64 x.New.Kind),.sl x.New.Words.length (fl (eI .u64) x.New.Words),.sl x.New.Kids.length (fl Zb x.New.Kids),.sl x.Words.length (fl Zg x.Words),.sl x.Kids.length (fl Xm x.Kids),.val (.int .i64 x.List_),.sl x.Ops.length (fl Km x.Ops)]
def Zf (x:S_api_Op):List G:=[.val (.int .i64 x.Kind),.val (.int .i64 x.N),.sl x.L.length (fl Zb x.L),.val (.int .i64 x.E.Kind),.val (.int .i64 x.E.Old.Kind),.sl x.E.Old.Words.length (fl (eI .u64) x.E.Old.Words),.sl x.E.Old.Kids.length (fl Zb x.E.Old.Kids),.val (.int .i64 x.E.New.Kind),.sl x.E.New.Words.length (fl (eI .u64) x.E.New.Words),.sl x.E.New.Kids.length (fl Zb x.E.New.Kids),.sl x.E.Words.length (fl Zg x.E.Words),.sl x.E.Kids.length (fl Xm x.E.Kids),.val (.int .i64 x.E.List_),.sl x.E.Ops.length (fl Km x.E.Ops)]
def Zh (x:S_api_KidEdit):List G:=[.val (.int .i64 x.At),.val (.int .i64 x.E.Kind),.val (.int .i64 x.E.Old.Kind),.sl x.E.Old.Words.length (fl (eI .u64) x.E.Old.Words),.sl x.E.Old.Kids.length (fl Zb x.E.Old.Kids),.val (.int .i64 x.E.New.Kind),.sl x.E.New.Words.length (fl (eI .u64) x.E.New.Words),.sl x.E.New.Kids.length (fl Zb x.E.New.Kids),.sl x.E.Words.length (fl Zg x.E.Words),.sl x.E.Kids.length (fl Xm x.E.Kids),.val (.int .i64 x.E.List_),.sl x.E.Ops.length (fl Km x.E.Ops)]
theorem Xd:Jf=Xt:=by
 funext x
 obtain ⟨_,_,_,_,_,_,_⟩:=x
 simp only [Jf,Zbs,Km,Zc6,Xm,Uy,Xt,List.cons_append,List.nil_append,List.append_nil]
theorem Xn:Km=Zf:=by
 funext x
 obtain ⟨_,_,_,⟨_,_,_,_,_,_,_⟩⟩:=x
 simp only [Jf,Zbs,Km,Zc6,Xm,Uy,Zf,List.cons_append,List.nil_append,List.append_nil]
theorem Yt:Xm=Zh:=by
 funext x
 obtain ⟨_,⟨_,_,_,_,_,_,_⟩⟩:=x
 simp only [Jf,Zbs,Km,Zc6,Xm,Uy,Zh,List.cons_append,List.nil_append,List.append_nil]
mutual
theorem Zft:∀ x,G.pures (Jf x)=true
 | ⟨f0,f1,f2,f3,f4,f5,f6⟩=>by simp [Jf,eP,V0,eI,eB,eS,eL,G.pures,G.pure,Zam,Ym,Zfw f4,Zj9 f6,Ky,Y7,Zfv,Zg]
theorem Zoe:∀ xs,G.pures (Zaj xs)=true
 | []=>rfl
 | x::xs=>by simp [Zaj,Zam,Zft x,Zoe xs]
theorem Zl8:∀ x,G.pures (Km x)=true
 | ⟨f0,f1,f2,f3⟩=>by simp [Km,eP,V0,eI,eB,eS,eL,G.pures,G.pure,Zam,Ym,Zft f3,Ky,Y7,Zfv,Zg]
theorem Zj9:∀ xs,G.pures (Za4 xs)=true
 | []=>rfl
 | x::xs=>by simp [Za4,Zam,Zl8 x,Zj9 xs]
theorem Zgh:∀ x,G.pures (Xm x)=true
 | ⟨f0,f1⟩=>by simp [Xm,eP,V0,eI,eB,eS,eL,G.pures,G.pure,Zam,Ym,Zft f1,Ky,Y7,Zfv,Zg]
theorem Zfw:∀ xs,G.pures (J0 xs)=true
 | []=>rfl
 | x::xs=>by simp [J0,Zam,Zgh x,Zfw xs]
end
theorem Y5:∀ x,G.pures (Zg x)=true:=fun x=>by simp [eI,eB,eS,eL,eP,G.pures,G.pure,Ym,V0,Zg,Ky,Y7,Yo,Xd,Xn,Yt]
theorem Zbn {O O':Objs} {n:Nat} (xs:List Zp):wkl O O' n (fl Zg xs) (fl Zg xs):=Zeq (Ym Y5 xs)
theorem Zbm {O O':Objs} {n:Nat} (xs:List Zp) (b b':List G):wkl O O' n (fl Zg xs++b) (fl Zg xs++b')=wkl O O' n b b':=Zdr b b' _ (Ym Y5 xs)
theorem Za9 (xs:List Zp):(fl Zg xs).length=xs.length * 4:=Q1 (f:=Zg) (k:=4) (fun _=>rfl) xs
theorem Zbf (xs:List Zp):(fl Zg xs).all G.one=true:=Gg (fun x=>by simp [eI,eB,eS,eL,eP,Zfr,G.one,Value.oneCell',Zg]) xs
theorem Zbp {O O':Objs} {n:Nat} (x:Option Zp):wk O O' n (gP Zg x) (gP Zg x)=True:=Zn9 Y5 x
theorem Zax {k:Nat} (x:Option Zp):(gP Zg x).under k=true:=Zdp Y5 k x
theorem Zav {ρ:Nat→Nat} (xs:List Zp):G.rens ρ (fl Zg xs)=fl Zg xs:=K1 ρ _ (Ym Y5 xs)
theorem Zau {ρ:Nat→Nat} (x:Option Zp):(gP Zg x).ren ρ=gP Zg x:=Zca ρ _ (V0 Y5 x)
theorem Zbk {k:Nat} (xs:List Zp):G.unders k (fl Zg xs)=true:=Xu _ _ (Ym Y5 xs)
theorem Xi:∀ x,G.pures (Zh x)=true:=fun x=>by rw [← Yt];exact Zgh x
theorem Zb1 {O O':Objs} {n:Nat} (xs:List S_api_KidEdit):wkl O O' n (fl Zh xs) (fl Zh xs):=Zeq (Ym Xi xs)
theorem Zb0 {O O':Objs} {n:Nat} (xs:List S_api_KidEdit) (b b':List G):wkl O O' n (fl Zh xs++b) (fl Zh xs++b')=wkl O O' n b b':=Zdr b b' _ (Ym Xi xs)
theorem Zbx (xs:List S_api_KidEdit):(fl Zh xs).length=xs.length * 12:=Q1 (f:=Zh) (k:=12) (fun _=>rfl) xs
theorem Zby (xs:List S_api_KidEdit):(fl Zh xs).all G.one=true:=Gg (fun x=>by simp [eI,eB,eS,eL,eP,Zfr,G.one,Value.oneCell',Zh]) xs
theorem Zb2 {O O':Objs} {n:Nat} (x:Option S_api_KidEdit):wk O O' n (gP Zh x) (gP Zh x)=True:=Zn9 Xi x
theorem Zbl {k:Nat} (x:Option S_api_KidEdit):(gP Zh x).under k=true:=Zdp Xi k x
theorem Zbi {ρ:Nat→Nat} (xs:List S_api_KidEdit):G.rens ρ (fl Zh xs)=fl Zh xs:=K1 ρ _ (Ym Xi xs)
theorem Zbh {ρ:Nat→Nat} (x:Option S_api_KidEdit):(gP Zh x).ren ρ=gP Zh x:=Zca ρ _ (V0 Xi x)
theorem Zbz {k:Nat} (xs:List S_api_KidEdit):G.unders k (fl Zh xs)=true:=Xu _ _ (Ym Xi xs)
theorem Jg:∀ x,G.pures (Zf x)=true:=fun x=>by rw [← Xn];exact Zl8 x
theorem Zf3 {O O':Objs} {n:Nat} (xs:List S_api_Op):wkl O O' n (fl Zf xs) (fl Zf xs):=Zeq (Ym Jg xs)
theorem Zf2 {O O':Objs} {n:Nat} (xs:List S_api_Op) (b b':List G):wkl O O' n (fl Zf xs++b) (fl Zf xs++b')=wkl O O' n b b':=Zdr b b' _ (Ym Jg xs)
theorem Zfj (xs:List S_api_Op):(fl Zf xs).length=xs.length * 14:=Q1 (f:=Zf) (k:=14) (fun _=>rfl) xs
theorem Zfq (xs:List S_api_Op):(fl Zf xs).all G.one=true:=Gg (fun x=>by simp [eI,eB,eS,eL,eP,Zfr,G.one,Value.oneCell',Zf]) xs
theorem Zf4 {O O':Objs} {n:Nat} (x:Option S_api_Op):wk O O' n (gP Zf x) (gP Zf x)=True:=Zn9 Jg x
theorem Zex {k:Nat} (x:Option S_api_Op):(gP Zf x).under k=true:=Zdp Jg k x
theorem Zev {ρ:Nat→Nat} (xs:List S_api_Op):G.rens ρ (fl Zf xs)=fl Zf xs:=K1 ρ _ (Ym Jg xs)
theorem Zeu {ρ:Nat→Nat} (x:Option S_api_Op):(gP Zf x).ren ρ=gP Zf x:=Zca ρ _ (V0 Jg x)
theorem Zf1 {k:Nat} (xs:List S_api_Op):G.unders k (fl Zf xs)=true:=Xu _ _ (Ym Jg xs)
theorem Zdi:∀ x,G.pures ((eI .u8) x)=true:=fun x=>by simp [eI,eB,eS,eL,eP,G.pures,G.pure,Ym,V0,Ky,Y7,Y5,Xi,Jg,Yo,Xd,Xn,Yt]
theorem Zny {O O':Objs} {n:Nat} (xs:List Int):wkl O O' n (fl (eI .u8) xs) (fl (eI .u8) xs):=Zeq (Ym Zdi xs)
theorem Znx {O O':Objs} {n:Nat} (xs:List Int) (b b':List G):wkl O O' n (fl (eI .u8) xs++b) (fl (eI .u8) xs++b')=wkl O O' n b b':=Zdr b b' _ (Ym Zdi xs)
theorem Zm5 (xs:List Int):(fl (eI .u8) xs).length=xs.length * 1:=Q1 (f:=(eI .u8)) (k:=1) (fun _=>rfl) xs
theorem Zne (xs:List Int):(fl (eI .u8) xs).all G.one=true:=Gg (fun x=>by simp [eI,eB,eS,eL,eP,Zfr,G.one,Value.oneCell']) xs
theorem Znz {O O':Objs} {n:Nat} (x:Option Int):wk O O' n (gP (eI .u8) x) (gP (eI .u8) x)=True:=Zn9 Zdi x
theorem Zlc {k:Nat} (x:Option Int):(gP (eI .u8) x).under k=true:=Zdp Zdi k x
theorem Zk5 {ρ:Nat→Nat} (xs:List Int):G.rens ρ (fl (eI .u8) xs)=fl (eI .u8) xs:=K1 ρ _ (Ym Zdi xs)
theorem Zk4 {ρ:Nat→Nat} (x:Option Int):(gP (eI .u8) x).ren ρ=gP (eI .u8) x:=Zca ρ _ (V0 Zdi x)
theorem Znu {k:Nat} (xs:List Int):G.unders k (fl (eI .u8) xs)=true:=Xu _ _ (Ym Zdi xs)
def Z7 (x:Zw):List G:=[.sl x.out.length (fl Zf x.out),.val (.int .i64 x.kept),.sl x.gone.length (fl Zb x.gone),.sl x.come.length (fl Zb x.come)]
theorem Xs:∀ x,G.pures (Z7 x)=true:=fun x=>by simp [eI,eB,eS,eL,eP,G.pures,G.pure,Ym,V0,Z7,Ky,Y7,Y5,Xi,Jg,Zdi,Yo,Xd,Xn,Yt]
theorem Zaz {O O':Objs} {n:Nat} (xs:List Zw):wkl O O' n (fl Z7 xs) (fl Z7 xs):=Zeq (Ym Xs xs)
theorem Zay {O O':Objs} {n:Nat} (xs:List Zw) (b b':List G):wkl O O' n (fl Z7 xs++b) (fl Z7 xs++b')=wkl O O' n b b':=Zdr b b' _ (Ym Xs xs)
theorem Zap (xs:List Zw):(fl Z7 xs).length=xs.length * 4:=Q1 (f:=Z7) (k:=4) (fun _=>rfl) xs
theorem Zat (xs:List Zw):(fl Z7 xs).all G.one=true:=Gg (fun x=>by simp [eI,eB,eS,eL,eP,Zfr,G.one,Value.oneCell',Z7]) xs
theorem Za0 {O O':Objs} {n:Nat} (x:Option Zw):wk O O' n (gP Z7 x) (gP Z7 x)=True:=Zn9 Xs x
theorem Gu {k:Nat} (x:Option Zw):(gP Z7 x).under k=true:=Zdp Xs k x
theorem Gt {ρ:Nat→Nat} (xs:List Zw):G.rens ρ (fl Z7 xs)=fl Z7 xs:=K1 ρ _ (Ym Xs xs)
theorem Gs {ρ:Nat→Nat} (x:Option Zw):(gP Z7 x).ren ρ=gP Z7 x:=Zca ρ _ (V0 Xs x)
theorem Zaw {k:Nat} (xs:List Zw):G.unders k (fl Z7 xs)=true:=Xu _ _ (Ym Xs xs)
theorem Zd2:∀ x,G.pures ((eI .i64) x)=true:=fun x=>by simp [eI,eB,eS,eL,eP,G.pures,G.pure,Ym,V0,Ky,Y7,Y5,Xi,Jg,Zdi,Xs,Yo,Xd,Xn,Yt]
theorem Zlg {O O':Objs} {n:Nat} (xs:List Int):wkl O O' n (fl (eI .i64) xs) (fl (eI .i64) xs):=Zeq (Ym Zd2 xs)
theorem Zle {O O':Objs} {n:Nat} (xs:List Int) (b b':List G):wkl O O' n (fl (eI .i64) xs++b) (fl (eI .i64) xs++b')=wkl O O' n b b':=Zdr b b' _ (Ym Zd2 xs)
theorem Zkl (xs:List Int):(fl (eI .i64) xs).length=xs.length * 1:=Q1 (f:=(eI .i64)) (k:=1) (fun _=>rfl) xs
theorem Zkx (xs:List Int):(fl (eI .i64) xs).all G.one=true:=Gg (fun x=>by simp [eI,eB,eS,eL,eP,Zfr,G.one,Value.oneCell']) xs
theorem Zli {O O':Objs} {n:Nat} (x:Option Int):wk O O' n (gP (eI .i64) x) (gP (eI .i64) x)=True:=Zn9 Zd2 x
theorem Zja {k:Nat} (x:Option Int):(gP (eI .i64) x).under k=true:=Zdp Zd2 k x
theorem Zi5 {ρ:Nat→Nat} (xs:List Int):G.rens ρ (fl (eI .i64) xs)=fl (eI .i64) xs:=K1 ρ _ (Ym Zd2 xs)
theorem Zi3 {ρ:Nat→Nat} (x:Option Int):(gP (eI .i64) x).ren ρ=gP (eI .i64) x:=Zca ρ _ (V0 Zd2 x)
theorem Zla {k:Nat} (xs:List Int):G.unders k (fl (eI .i64) xs)=true:=Xu _ _ (Ym Zd2 xs)
def Z3 (x:S_api_Op):List G:=[.val (.int .i64 x.Kind),.val (.int .i64 x.N),.sl x.L.length (fl Zb x.L),.val (.int .i64 x.E.Kind),.val (.int .i64 x.E.Old.Kind),.sl x.E.Old.Words.length (fl (eI .u64) x.E.Old.Words),.sl x.E.Old.Kids.length (fl Zb x.E.Old.Kids),.val (.int .i64 x.E.New.Kind),.sl x.E.New.Words.length (fl (eI .u64) x.E.New.Words),.sl x.E.New.Kids.length (fl Zb x.E.New.Kids),.sl x.E.Words.length (fl Zg x.E.Words),.sl x.E.Kids.length (fl Zh x.E.Kids),.val (.int .i64 x.E.List_),.sl x.E.Ops.length (fl Zf x.E.Ops)]
def G0 (x:S_api_KidEdit):List G:=[.val (.int .i64 x.At),.val (.int .i64 x.E.Kind),.val (.int .i64 x.E.Old.Kind),.sl x.E.Old.Words.length (fl (eI .u64) x.E.Old.Words),.sl x.E.Old.Kids.length (fl Zb x.E.Old.Kids),.val (.int .i64 x.E.New.Kind),.sl x.E.New.Words.length (fl (eI .u64) x.E.New.Words),.sl x.E.New.Kids.length (fl Zb x.E.New.Kids),.sl x.E.Words.length (fl Zg x.E.Words),.sl x.E.Kids.length (fl Zh x.E.Kids),.val (.int .i64 x.E.List_),.sl x.E.Ops.length (fl Zf x.E.Ops)]
def Ze (x:S_api_Edit):List G:=[.val (.int .i64 x.Kind),.val (.int .i64 x.Old.Kind),.sl x.Old.Words.length (fl (eI .u64) x.Old.Words),.sl x.Old.Kids.length (fl Zb x.Old.Kids),.val (.int .i64 x.New.Kind),.sl x.New.Words.length (fl (eI .u64) x.New.Words),.sl x.New.Kids.length (fl Zb x.New.Kids),.sl x.Words.length (fl Zg x.Words),.sl x.Kids.length (fl Zh x.Kids),.val (.int .i64 x.List_),.sl x.Ops.length (fl Zf x.Ops)]
def Zo (x:S_api_Tree):List G:=[.val (.int .i64 x.Kind),.sl x.Words.length (fl (eI .u64) x.Words),.sl x.Kids.length (fl Zb x.Kids)]
def Zbr (x:Zp):List G:=[.val (.int .i64 x.At),.val (.int .u8 x.Mask),.val (.int .u64 x.Old),.val (.int .u64 x.New)]
end Go.Proofs.Ytbcgiaijjaocdaa
