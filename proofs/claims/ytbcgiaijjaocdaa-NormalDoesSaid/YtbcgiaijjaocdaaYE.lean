/- Part YE of this seat's mirrors: functions of the seat's program, and the plain functions that they are; each theorem bears its own conditions. -/
import Derived.Test.YtbcgiaijjaocdaaTy
import Derived.Test.YtbcgiaijjaocdaaYD
namespace Go.Proofs.Ytbcgiaijjaocdaa
open Go.RowKit
set_option linter.unusedVariables false
set_option linter.unusedSimpArgs false
set_option maxRecDepth 100000
set_option maxHeartbeats 1000000
mutual
def Uu:S_api_Tree→List G
 | ⟨f0,f1,f2⟩=>[.val (.int .i64 f0),.sl f1.length (fl (eI .u64) f1),.sl f2.length (Uv f2)]
def Uv:List S_api_Tree→List G
 | []=>[]
 | x::xs=>Uu x++Uv xs
end
theorem Zhj:∀ xs,Uv xs=fl Uu xs
 | []=>by simp [Uv,fl]
 | x::xs=>by rw [Uv,Ue,Zhj xs]
def Zb (x:S_api_Tree):List G:=[.val (.int .i64 x.Kind),.sl x.Words.length (fl (eI .u64) x.Words),.sl x.Kids.length (fl Uu x.Kids)]
theorem Ys:Uu=Zb:=by
 funext x
 obtain ⟨_,_,_⟩:=x
 simp only [Uu,Zhj,Zb,List.cons_append,List.nil_append,List.append_nil]
mutual
theorem Zgc:∀ x,G.pures (Uu x)=true
 | ⟨f0,f1,f2⟩=>by simp [Uu,eP,K9,eI,eB,eS,eL,G.pures,G.pure,Zao,Yl,Zit f2]
theorem Zit:∀ xs,G.pures (Uv xs)=true
 | []=>rfl
 | x::xs=>by simp [Uv,Zao,Zgc x,Zit xs]
end
theorem Zgd:∀ x,G.pures (Zb x)=true:=fun x=>by rw [← Ys];exact Zgc x
theorem Jz:∀ x,G.pures ((eI .u64) x)=true:=fun x=>by simp [eI,eB,eS,eL,eP,G.pures,G.pure,Yl,K9,Ys]
theorem Zlw {O O':Objs} {n:Nat} (xs:List Int):Gn O O' n (fl (eI .u64) xs) (fl (eI .u64) xs):=Zd3 (Yl Jz xs)
theorem Zlu {O O':Objs} {n:Nat} (xs:List Int) (b b':List G):Gn O O' n (fl (eI .u64) xs++b) (fl (eI .u64) xs++b')=Gn O O' n b b':=Zcq b b' _ (Yl Jz xs)
theorem Zk5 (xs:List Int):(fl (eI .u64) xs).length=xs.length * 1:=Jd (f:=(eI .u64)) (k:=1) (fun _=>rfl) xs
theorem Zlc (xs:List Int):(fl (eI .u64) xs).all G.one=true:=Ut (fun x=>by simp [eI,eB,eS,eL,eP,Zfb,G.one,Value.oneCell']) xs
theorem Zly {O O':Objs} {n:Nat} (x:Option Int):wk O O' n (gP (eI .u64) x) (gP (eI .u64) x)=True:=Zmw Jz x
theorem Zjw {k:Nat} (x:Option Int):(gP (eI .u64) x).under k=true:=Zcp Jz k x
theorem Zjq {ρ:Nat→Nat} (xs:List Int):G.rens ρ (fl (eI .u64) xs)=fl (eI .u64) xs:=Ko ρ _ (Yl Jz xs)
theorem Zjo {ρ:Nat→Nat} (x:Option Int):(gP (eI .u64) x).ren ρ=gP (eI .u64) x:=Zbo ρ _ (K9 Jz x)
theorem Zlr {k:Nat} (xs:List Int):G.unders k (fl (eI .u64) xs)=true:=Xy _ _ (Yl Jz xs)
theorem Xb:∀ x,G.pures (Zb x)=true:=fun x=>by rw [← Ys];exact Zgc x
theorem Zeo {O O':Objs} {n:Nat} (xs:List S_api_Tree):Gn O O' n (fl Zb xs) (fl Zb xs):=Zd3 (Yl Xb xs)
theorem Zen {O O':Objs} {n:Nat} (xs:List S_api_Tree) (b b':List G):Gn O O' n (fl Zb xs++b) (fl Zb xs++b')=Gn O O' n b b':=Zcq b b' _ (Yl Xb xs)
theorem Zec (xs:List S_api_Tree):(fl Zb xs).length=xs.length * 3:=Jd (f:=Zb) (k:=3) (fun _=>rfl) xs
theorem Zeg (xs:List S_api_Tree):(fl Zb xs).all G.one=true:=Ut (fun x=>by simp [eI,eB,eS,eL,eP,Zfb,G.one,Value.oneCell',Zb]) xs
theorem Zep {O O':Objs} {n:Nat} (x:Option S_api_Tree):wk O O' n (gP Zb x) (gP Zb x)=True:=Zmw Xb x
theorem Zd2 {k:Nat} (x:Option S_api_Tree):(gP Zb x).under k=true:=Zcp Xb k x
theorem Zdx {ρ:Nat→Nat} (xs:List S_api_Tree):G.rens ρ (fl Zb xs)=fl Zb xs:=Ko ρ _ (Yl Xb xs)
theorem Zdw {ρ:Nat→Nat} (x:Option S_api_Tree):(gP Zb x).ren ρ=gP Zb x:=Zbo ρ _ (K9 Xb x)
theorem Zel {k:Nat} (xs:List S_api_Tree):G.unders k (fl Zb xs)=true:=Xy _ _ (Yl Xb xs)
def Zo (x:Z3):List G:=[.val (.int .i64 x.At),.val (.int .u8 x.Mask),.val (.int .u64 x.Old),.val (.int .u64 x.New)]
mutual
def Jp:S_api_Edit→List G
 | ⟨f0,f1,f2,f3,f4,f5,f6⟩=>[.val (.int .i64 f0),.val (.int .i64 f1.Kind),.sl f1.Words.length (fl (eI .u64) f1.Words),.sl f1.Kids.length (fl Zb f1.Kids),.val (.int .i64 f2.Kind),.sl f2.Words.length (fl (eI .u64) f2.Words),.sl f2.Kids.length (fl Zb f2.Kids),.sl f3.length (fl Zo f3),.sl f4.length (Ke f4),.val (.int .i64 f5),.sl f6.length (Za9 f6)]
def Zam:List S_api_Edit→List G
 | []=>[]
 | x::xs=>Jp x++Zam xs
def Kx:S_api_Op→List G
 | ⟨f0,f1,f2,f3⟩=>[.val (.int .i64 f0),.val (.int .i64 f1),.sl f2.length (fl Zb f2)]++Jp f3
def Za9:List S_api_Op→List G
 | []=>[]
 | x::xs=>Kx x++Za9 xs
def X0:S_api_KidEdit→List G
 | ⟨f0,f1⟩=>[.val (.int .i64 f0)]++Jp f1
def Ke:List S_api_KidEdit→List G
 | []=>[]
 | x::xs=>X0 x++Ke xs
end
theorem Zb5:∀ xs,Zam xs=fl Jp xs
 | []=>by simp [Zam,fl]
 | x::xs=>by rw [Zam,Ue,Zb5 xs]
theorem Zdm:∀ xs,Za9 xs=fl Kx xs
 | []=>by simp [Za9,fl]
 | x::xs=>by rw [Za9,Ue,Zdm xs]
theorem U2:∀ xs,Ke xs=fl X0 xs
 | []=>by simp [Ke,fl]
 | x::xs=>by rw [Ke,Ue,U2 xs]
def Qf (x:S_api_Edit):List G:=[.val (.int .i64 x.Kind),.val (.int .i64 x.Old.Kind),.sl x.Old.Words.length (fl (eI .u64) x.Old.Words),.sl x.Old.Kids.length (fl Zb x.Old.Kids),.val (.int .i64 x.New.Kind),.sl x.New.Words.length (fl (eI .u64) x.New.Words),.sl x.New.Kids.length (fl Zb x.New.Kids),.sl x.Words.length (fl Zo x.Words),.sl x.Kids.length (fl X0 x.Kids),.val (.int .i64 x.List_),.sl x.Ops.length (fl Kx x.Ops)]
def Zg (x:S_api_Op):List G:=[.val (.int .i64 x.Kind),.val (.int .i64 x.N),.sl x.L.length (fl Zb x.L),.val (.int .i64 x.E.Kind),.val (.int .i64 x.E.Old.Kind),.sl x.E.Old.Words.length (fl (eI .u64) x.E.Old.Words),.sl x.E.Old.Kids.length (fl Zb x.E.Old.Kids),.val (.int .i64 x.E.New.Kind),.sl x.E.New.Words.length (fl (eI .u64) x.E.New.Words),.sl x.E.New.Kids.length (fl Zb x.E.New.Kids),.sl x.E.Words.length (fl Zo x.E.Words),.sl x.E.Kids.length (fl X0 x.E.Kids),.val (.int .i64 x.E.List_),.sl x.E.Ops.length (fl Kx x.E.Ops)]
def Zn (x:S_api_KidEdit):List G:=[.val (.int .i64 x.At),.val (.int .i64 x.E.Kind),.val (.int .i64 x.E.Old.Kind),.sl x.E.Old.Words.length (fl (eI .u64) x.E.Old.Words),.sl x.E.Old.Kids.length (fl Zb x.E.Old.Kids),.val (.int .i64 x.E.New.Kind),.sl x.E.New.Words.length (fl (eI .u64) x.E.New.Words),.sl x.E.New.Kids.length (fl Zb x.E.New.Kids),.sl x.E.Words.length (fl Zo x.E.Words),.sl x.E.Kids.length (fl X0 x.E.Kids),.val (.int .i64 x.E.List_),.sl x.E.Ops.length (fl Kx x.E.Ops)]
theorem Xs:Jp=Qf:=by
 funext x
 obtain ⟨_,_,_,_,_,_,_⟩:=x
 simp only [Jp,Zb5,Kx,Zdm,X0,U2,Qf,List.cons_append,List.nil_append,List.append_nil]
theorem X1:Kx=Zg:=by
 funext x
 obtain ⟨_,_,_,⟨_,_,_,_,_,_,_⟩⟩:=x
 simp only [Jp,Zb5,Kx,Zdm,X0,U2,Zg,List.cons_append,List.nil_append,List.append_nil]
theorem Y5:X0=Zn:=by
 funext x
 obtain ⟨_,⟨_,_,_,_,_,_,_⟩⟩:=x
 simp only [Jp,Zb5,Kx,Zdm,X0,U2,Zn,List.cons_append,List.nil_append,List.append_nil]
mutual
theorem Zgb:∀ x,G.pures (Jp x)=true
 | ⟨f0,f1,f2,f3,f4,f5,f6⟩=>by simp [Jp,eP,K9,eI,eB,eS,eL,G.pures,G.pure,Zao,Yl,Zge f4,Zkr f6,Jz,Xb,Zgd,Zo]
theorem Zor:∀ xs,G.pures (Zam xs)=true
 | []=>rfl
 | x::xs=>by simp [Zam,Zao,Zgb x,Zor xs]
theorem Zmn:∀ x,G.pures (Kx x)=true
 | ⟨f0,f1,f2,f3⟩=>by simp [Kx,eP,K9,eI,eB,eS,eL,G.pures,G.pure,Zao,Yl,Zgb f3,Jz,Xb,Zgd,Zo]
theorem Zkr:∀ xs,G.pures (Za9 xs)=true
 | []=>rfl
 | x::xs=>by simp [Za9,Zao,Zmn x,Zkr xs]
theorem Zg0:∀ x,G.pures (X0 x)=true
 | ⟨f0,f1⟩=>by simp [X0,eP,K9,eI,eB,eS,eL,G.pures,G.pure,Zao,Yl,Zgb f1,Jz,Xb,Zgd,Zo]
theorem Zge:∀ xs,G.pures (Ke xs)=true
 | []=>rfl
 | x::xs=>by simp [Ke,Zao,Zg0 x,Zge xs]
end
theorem Xc:∀ x,G.pures (Zo x)=true:=fun x=>by simp [eI,eB,eS,eL,eP,G.pures,G.pure,Yl,K9,Zo,Jz,Xb,Ys,Xs,X1,Y5]
theorem Zbx {O O':Objs} {n:Nat} (xs:List Z3):Gn O O' n (fl Zo xs) (fl Zo xs):=Zd3 (Yl Xc xs)
theorem Zbv {O O':Objs} {n:Nat} (xs:List Z3) (b b':List G):Gn O O' n (fl Zo xs++b) (fl Zo xs++b')=Gn O O' n b b':=Zcq b b' _ (Yl Xc xs)
theorem Zbb (xs:List Z3):(fl Zo xs).length=xs.length * 4:=Jd (f:=Zo) (k:=4) (fun _=>rfl) xs
theorem Zbk (xs:List Z3):(fl Zo xs).all G.one=true:=Ut (fun x=>by simp [eI,eB,eS,eL,eP,Zfb,G.one,Value.oneCell',Zo]) xs
theorem Zb0 {O O':Objs} {n:Nat} (x:Option Z3):wk O O' n (gP Zo x) (gP Zo x)=True:=Zmw Xc x
theorem Zaz {k:Nat} (x:Option Z3):(gP Zo x).under k=true:=Zcp Xc k x
theorem Zaw {ρ:Nat→Nat} (xs:List Z3):G.rens ρ (fl Zo xs)=fl Zo xs:=Ko ρ _ (Yl Xc xs)
theorem Zau {ρ:Nat→Nat} (x:Option Z3):(gP Zo x).ren ρ=gP Zo x:=Zbo ρ _ (K9 Xc x)
theorem Zbs {k:Nat} (xs:List Z3):G.unders k (fl Zo xs)=true:=Xy _ _ (Yl Xc xs)
theorem Xl:∀ x,G.pures (Zn x)=true:=fun x=>by rw [← Y5];exact Zg0 x
theorem Zce {O O':Objs} {n:Nat} (xs:List S_api_KidEdit):Gn O O' n (fl Zn xs) (fl Zn xs):=Zd3 (Yl Xl xs)
theorem Zcd {O O':Objs} {n:Nat} (xs:List S_api_KidEdit) (b b':List G):Gn O O' n (fl Zn xs++b) (fl Zn xs++b')=Gn O O' n b b':=Zcq b b' _ (Yl Xl xs)
theorem Zca (xs:List S_api_KidEdit):(fl Zn xs).length=xs.length * 12:=Jd (f:=Zn) (k:=12) (fun _=>rfl) xs
theorem Zcb (xs:List S_api_KidEdit):(fl Zn xs).all G.one=true:=Ut (fun x=>by simp [eI,eB,eS,eL,eP,Zfb,G.one,Value.oneCell',Zn]) xs
theorem Zcf {O O':Objs} {n:Nat} (x:Option S_api_KidEdit):wk O O' n (gP Zn x) (gP Zn x)=True:=Zmw Xl x
theorem Zbu {k:Nat} (x:Option S_api_KidEdit):(gP Zn x).under k=true:=Zcp Xl k x
theorem Zbq {ρ:Nat→Nat} (xs:List S_api_KidEdit):G.rens ρ (fl Zn xs)=fl Zn xs:=Ko ρ _ (Yl Xl xs)
theorem Zbp {ρ:Nat→Nat} (x:Option S_api_KidEdit):(gP Zn x).ren ρ=gP Zn x:=Zbo ρ _ (K9 Xl x)
theorem Zcc {k:Nat} (xs:List S_api_KidEdit):G.unders k (fl Zn xs)=true:=Xy _ _ (Yl Xl xs)
theorem Q7:∀ x,G.pures (Zg x)=true:=fun x=>by rw [← X1];exact Zmn x
theorem Zgo {O O':Objs} {n:Nat} (xs:List S_api_Op):Gn O O' n (fl Zg xs) (fl Zg xs):=Zd3 (Yl Q7 xs)
theorem Zgn {O O':Objs} {n:Nat} (xs:List S_api_Op) (b b':List G):Gn O O' n (fl Zg xs++b) (fl Zg xs++b')=Gn O O' n b b':=Zcq b b' _ (Yl Q7 xs)
theorem Zfz (xs:List S_api_Op):(fl Zg xs).length=xs.length * 14:=Jd (f:=Zg) (k:=14) (fun _=>rfl) xs
theorem Zf8 (xs:List S_api_Op):(fl Zg xs).all G.one=true:=Ut (fun x=>by simp [eI,eB,eS,eL,eP,Zfb,G.one,Value.oneCell',Zg]) xs
theorem Zgp {O O':Objs} {n:Nat} (x:Option S_api_Op):wk O O' n (gP Zg x) (gP Zg x)=True:=Zmw Q7 x
theorem Zff {k:Nat} (x:Option S_api_Op):(gP Zg x).under k=true:=Zcp Q7 k x
theorem Zfd {ρ:Nat→Nat} (xs:List S_api_Op):G.rens ρ (fl Zg xs)=fl Zg xs:=Ko ρ _ (Yl Q7 xs)
theorem Zfc {ρ:Nat→Nat} (x:Option S_api_Op):(gP Zg x).ren ρ=gP Zg x:=Zbo ρ _ (K9 Q7 x)
theorem Zgm {k:Nat} (xs:List S_api_Op):G.unders k (fl Zg xs)=true:=Xy _ _ (Yl Q7 xs)
theorem Zco:∀ x,G.pures ((eI .u8) x)=true:=fun x=>by simp [eI,eB,eS,eL,eP,G.pures,G.pure,Yl,K9,Jz,Xb,Xc,Xl,Q7,Ys,Xs,X1,Y5]
theorem Zoa {O O':Objs} {n:Nat} (xs:List Int):Gn O O' n (fl (eI .u8) xs) (fl (eI .u8) xs):=Zd3 (Yl Zco xs)
theorem Zn9 {O O':Objs} {n:Nat} (xs:List Int) (b b':List G):Gn O O' n (fl (eI .u8) xs++b) (fl (eI .u8) xs++b')=Gn O O' n b b':=Zcq b b' _ (Yl Zco xs)
theorem Znh (xs:List Int):(fl (eI .u8) xs).length=xs.length * 1:=Jd (f:=(eI .u8)) (k:=1) (fun _=>rfl) xs
theorem Znr (xs:List Int):(fl (eI .u8) xs).all G.one=true:=Ut (fun x=>by simp [eI,eB,eS,eL,eP,Zfb,G.one,Value.oneCell']) xs
theorem Zob {O O':Objs} {n:Nat} (x:Option Int):wk O O' n (gP (eI .u8) x) (gP (eI .u8) x)=True:=Zmw Zco x
theorem Zls {k:Nat} (x:Option Int):(gP (eI .u8) x).under k=true:=Zcp Zco k x
theorem Zlk {ρ:Nat→Nat} (xs:List Int):G.rens ρ (fl (eI .u8) xs)=fl (eI .u8) xs:=Ko ρ _ (Yl Zco xs)
theorem Zlj {ρ:Nat→Nat} (x:Option Int):(gP (eI .u8) x).ren ρ=gP (eI .u8) x:=Zbo ρ _ (K9 Zco x)
theorem Zn5 {k:Nat} (xs:List Int):G.unders k (fl (eI .u8) xs)=true:=Xy _ _ (Yl Zco xs)
def Yd (x:Zw):List G:=[.sl x.out.length (fl Zg x.out),.val (.int .i64 x.kept),.sl x.gone.length (fl Zb x.gone),.sl x.come.length (fl Zb x.come)]
theorem Xu:∀ x,G.pures (Yd x)=true:=fun x=>by simp [eI,eB,eS,eL,eP,G.pures,G.pure,Yl,K9,Yd,Jz,Xb,Xc,Xl,Q7,Zco,Ys,Xs,X1,Y5]
theorem Za2 {O O':Objs} {n:Nat} (xs:List Zw):Gn O O' n (fl Yd xs) (fl Yd xs):=Zd3 (Yl Xu xs)
theorem Za1 {O O':Objs} {n:Nat} (xs:List Zw) (b b':List G):Gn O O' n (fl Yd xs++b) (fl Yd xs++b')=Gn O O' n b b':=Zcq b b' _ (Yl Xu xs)
theorem Zar (xs:List Zw):(fl Yd xs).length=xs.length * 4:=Jd (f:=Yd) (k:=4) (fun _=>rfl) xs
theorem Zat (xs:List Zw):(fl Yd xs).all G.one=true:=Ut (fun x=>by simp [eI,eB,eS,eL,eP,Zfb,G.one,Value.oneCell',Yd]) xs
theorem Za3 {O O':Objs} {n:Nat} (x:Option Zw):wk O O' n (gP Yd x) (gP Yd x)=True:=Zmw Xu x
theorem Gz {k:Nat} (x:Option Zw):(gP Yd x).under k=true:=Zcp Xu k x
theorem Gy {ρ:Nat→Nat} (xs:List Zw):G.rens ρ (fl Yd xs)=fl Yd xs:=Ko ρ _ (Yl Xu xs)
theorem Gx {ρ:Nat→Nat} (x:Option Zw):(gP Yd x).ren ρ=gP Yd x:=Zbo ρ _ (K9 Xu x)
theorem Zay {k:Nat} (xs:List Zw):G.unders k (fl Yd xs)=true:=Xy _ _ (Yl Xu xs)
def Yj (x:Zi):List G:=[.sl x.left.length (fl Zb x.left),.sl x.out.length (fl Zb x.out)]
theorem Qc:∀ x,G.pures (Yj x)=true:=fun x=>by simp [eI,eB,eS,eL,eP,G.pures,G.pure,Yl,K9,Yj,Jz,Xb,Xc,Xl,Q7,Zco,Xu,Ys,Xs,X1,Y5]
theorem Zby {O O':Objs} {n:Nat} (xs:List Zi):Gn O O' n (fl Yj xs) (fl Yj xs):=Zd3 (Yl Qc xs)
theorem Zbw {O O':Objs} {n:Nat} (xs:List Zi) (b b':List G):Gn O O' n (fl Yj xs++b) (fl Yj xs++b')=Gn O O' n b b':=Zcq b b' _ (Yl Qc xs)
theorem Zbc (xs:List Zi):(fl Yj xs).length=xs.length * 2:=Jd (f:=Yj) (k:=2) (fun _=>rfl) xs
theorem Zbl (xs:List Zi):(fl Yj xs).all G.one=true:=Ut (fun x=>by simp [eI,eB,eS,eL,eP,Zfb,G.one,Value.oneCell',Yj]) xs
theorem Zb1 {O O':Objs} {n:Nat} (x:Option Zi):wk O O' n (gP Yj x) (gP Yj x)=True:=Zmw Qc x
theorem Za0 {k:Nat} (x:Option Zi):(gP Yj x).under k=true:=Zcp Qc k x
theorem Zax {ρ:Nat→Nat} (xs:List Zi):G.rens ρ (fl Yj xs)=fl Yj xs:=Ko ρ _ (Yl Qc xs)
theorem Zav {ρ:Nat→Nat} (x:Option Zi):(gP Yj x).ren ρ=gP Yj x:=Zbo ρ _ (K9 Qc x)
theorem Zbt {k:Nat} (xs:List Zi):G.unders k (fl Yj xs)=true:=Xy _ _ (Yl Qc xs)
theorem Zei:∀ x,G.pures ((eI .i64) x)=true:=fun x=>by simp [eI,eB,eS,eL,eP,G.pures,G.pure,Yl,K9,Jz,Xb,Xc,Xl,Q7,Zco,Xu,Qc,Ys,Xs,X1,Y5]
theorem Zlv {O O':Objs} {n:Nat} (xs:List Int):Gn O O' n (fl (eI .i64) xs) (fl (eI .i64) xs):=Zd3 (Yl Zei xs)
theorem Zlt {O O':Objs} {n:Nat} (xs:List Int) (b b':List G):Gn O O' n (fl (eI .i64) xs++b) (fl (eI .i64) xs++b')=Gn O O' n b b':=Zcq b b' _ (Yl Zei xs)
theorem Zk4 (xs:List Int):(fl (eI .i64) xs).length=xs.length * 1:=Jd (f:=(eI .i64)) (k:=1) (fun _=>rfl) xs
theorem Zlb (xs:List Int):(fl (eI .i64) xs).all G.one=true:=Ut (fun x=>by simp [eI,eB,eS,eL,eP,Zfb,G.one,Value.oneCell']) xs
theorem Zlx {O O':Objs} {n:Nat} (x:Option Int):wk O O' n (gP (eI .i64) x) (gP (eI .i64) x)=True:=Zmw Zei x
theorem Zjv {k:Nat} (x:Option Int):(gP (eI .i64) x).under k=true:=Zcp Zei k x
theorem Zjp {ρ:Nat→Nat} (xs:List Int):G.rens ρ (fl (eI .i64) xs)=fl (eI .i64) xs:=Ko ρ _ (Yl Zei xs)
theorem Zjn {ρ:Nat→Nat} (x:Option Int):(gP (eI .i64) x).ren ρ=gP (eI .i64) x:=Zbo ρ _ (K9 Zei x)
theorem Zlq {k:Nat} (xs:List Int):G.unders k (fl (eI .i64) xs)=true:=Xy _ _ (Yl Zei xs)
def Z7 (x:S_api_Op):List G:=[.val (.int .i64 x.Kind),.val (.int .i64 x.N),.sl x.L.length (fl Zb x.L),.val (.int .i64 x.E.Kind),.val (.int .i64 x.E.Old.Kind),.sl x.E.Old.Words.length (fl (eI .u64) x.E.Old.Words),.sl x.E.Old.Kids.length (fl Zb x.E.Old.Kids),.val (.int .i64 x.E.New.Kind),.sl x.E.New.Words.length (fl (eI .u64) x.E.New.Words),.sl x.E.New.Kids.length (fl Zb x.E.New.Kids),.sl x.E.Words.length (fl Zo x.E.Words),.sl x.E.Kids.length (fl Zn x.E.Kids),.val (.int .i64 x.E.List_),.sl x.E.Ops.length (fl Zg x.E.Ops)]
def Zad (x:S_api_KidEdit):List G:=[.val (.int .i64 x.At),.val (.int .i64 x.E.Kind),.val (.int .i64 x.E.Old.Kind),.sl x.E.Old.Words.length (fl (eI .u64) x.E.Old.Words),.sl x.E.Old.Kids.length (fl Zb x.E.Old.Kids),.val (.int .i64 x.E.New.Kind),.sl x.E.New.Words.length (fl (eI .u64) x.E.New.Words),.sl x.E.New.Kids.length (fl Zb x.E.New.Kids),.sl x.E.Words.length (fl Zo x.E.Words),.sl x.E.Kids.length (fl Zn x.E.Kids),.val (.int .i64 x.E.List_),.sl x.E.Ops.length (fl Zg x.E.Ops)]
def Zh (x:S_api_Edit):List G:=[.val (.int .i64 x.Kind),.val (.int .i64 x.Old.Kind),.sl x.Old.Words.length (fl (eI .u64) x.Old.Words),.sl x.Old.Kids.length (fl Zb x.Old.Kids),.val (.int .i64 x.New.Kind),.sl x.New.Words.length (fl (eI .u64) x.New.Words),.sl x.New.Kids.length (fl Zb x.New.Kids),.sl x.Words.length (fl Zo x.Words),.sl x.Kids.length (fl Zn x.Kids),.val (.int .i64 x.List_),.sl x.Ops.length (fl Zg x.Ops)]
def Zf (x:S_api_Tree):List G:=[.val (.int .i64 x.Kind),.sl x.Words.length (fl (eI .u64) x.Words),.sl x.Kids.length (fl Zb x.Kids)]
def U9 (x:Z3):List G:=[.val (.int .i64 x.At),.val (.int .u8 x.Mask),.val (.int .u64 x.Old),.val (.int .u64 x.New)]
end Go.Proofs.Ytbcgiaijjaocdaa
