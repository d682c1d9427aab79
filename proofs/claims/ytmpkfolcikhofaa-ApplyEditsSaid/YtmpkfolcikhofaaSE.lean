/- Part SE of this seat's mirrors: functions of the seat's program, and the plain functions that they are; each theorem bears its own conditions. -/
import Derived.Test.YtmpkfolcikhofaaTy
import Derived.Test.YtmpkfolcikhofaaSD
namespace Go.Proofs.Ytmpkfolcikhofaa
open Go.RowKit
set_option linter.unusedVariables false
set_option linter.unusedSimpArgs false
set_option maxRecDepth 100000
set_option maxHeartbeats 1000000
mutual
def Ur:S_api_Tree→List G
 | ⟨f0,f1,f2⟩=>[.val (.int .i64 f0),.sl f1.length (fl (eI .u64) f1),.sl f2.length (Us f2)]
def Us:List S_api_Tree→List G
 | []=>[]
 | x::xs=>Ur x++Us xs
end
theorem Zge:∀ xs,Us xs=fl Ur xs
 | []=>by simp [Us,fl]
 | x::xs=>by rw [Us,Vg,Zge xs]
def Zb (x:S_api_Tree):List G:=[.val (.int .i64 x.Kind),.sl x.Words.length (fl (eI .u64) x.Words),.sl x.Kids.length (fl Ur x.Kids)]
theorem Yi:Ur=Zb:=by
 funext x
 obtain ⟨_,_,_⟩:=x
 simp only [Ur,Zge,Zb,List.cons_append,List.nil_append,List.append_nil]
mutual
theorem Zer:∀ x,G.pures (Ur x)=true
 | ⟨f0,f1,f2⟩=>by simp [Ur,eP,Uw,eI,eB,eS,eL,G.pures,G.pure,Gw,Yr,Zh3 f2]
theorem Zh3:∀ xs,G.pures (Us xs)=true
 | []=>rfl
 | x::xs=>by simp [Us,Gw,Zer x,Zh3 xs]
end
theorem Zet:∀ x,G.pures (Zb x)=true:=fun x=>by rw [← Yi];exact Zer x
theorem Ky:∀ x,G.pures ((eI .u64) x)=true:=fun x=>by simp [eI,eB,eS,eL,eP,G.pures,G.pure,Yr,Uw,Yi]
theorem Ze9 {O O':Objs} {n:Nat} (xs:List Int):wkl O O' n (fl (eI .u64) xs) (fl (eI .u64) xs):=Zfa (Yr Ky xs)
theorem Ze8 {O O':Objs} {n:Nat} (xs:List Int) (b b':List G):wkl O O' n (fl (eI .u64) xs++b) (fl (eI .u64) xs++b')=wkl O O' n b b':=Zdi b b' _ (Yr Ky xs)
theorem Zeb (xs:List Int):(fl (eI .u64) xs).length=xs.length * 1:=Jp (f:=(eI .u64)) (k:=1) (fun _=>rfl) xs
theorem Zei (xs:List Int):(fl (eI .u64) xs).all G.one=true:=Zac (fun x=>by simp [eI,eB,eS,eL,eP,Zdm,G.one,Value.oneCell']) xs
theorem Zfb {O O':Objs} {n:Nat} (x:Option Int):wk O O' n (gP (eI .u64) x) (gP (eI .u64) x)=True:=Zr5 Ky x
theorem Zdh {k:Nat} (x:Option Int):(gP (eI .u64) x).under k=true:=Zdg Ky k x
theorem Zdd {ρ:Nat→Nat} (xs:List Int):G.rens ρ (fl (eI .u64) xs)=fl (eI .u64) xs:=Vk ρ _ (Yr Ky xs)
theorem Zdc {ρ:Nat→Nat} (x:Option Int):(gP (eI .u64) x).ren ρ=gP (eI .u64) x:=Zb6 ρ _ (Uw Ky x)
theorem Ze5 {k:Nat} (xs:List Int):G.unders k (fl (eI .u64) xs)=true:=Xz _ _ (Yr Ky xs)
theorem Y3:∀ x,G.pures (Zb x)=true:=fun x=>by rw [← Yi];exact Zer x
theorem Ga {O O':Objs} {n:Nat} (xs:List S_api_Tree):wkl O O' n (fl Zb xs) (fl Zb xs):=Zfa (Yr Y3 xs)
theorem U9 {O O':Objs} {n:Nat} (xs:List S_api_Tree) (b b':List G):wkl O O' n (fl Zb xs++b) (fl Zb xs++b')=wkl O O' n b b':=Zdi b b' _ (Yr Y3 xs)
theorem U0 (xs:List S_api_Tree):(fl Zb xs).length=xs.length * 3:=Jp (f:=Zb) (k:=3) (fun _=>rfl) xs
theorem U4 (xs:List S_api_Tree):(fl Zb xs).all G.one=true:=Zac (fun x=>by simp [eI,eB,eS,eL,eP,Zdm,G.one,Value.oneCell',Zb]) xs
theorem Gb {O O':Objs} {n:Nat} (x:Option S_api_Tree):wk O O' n (gP Zb x) (gP Zb x)=True:=Zr5 Y3 x
theorem Uq {k:Nat} (x:Option S_api_Tree):(gP Zb x).under k=true:=Zdg Y3 k x
theorem Uo {ρ:Nat→Nat} (xs:List S_api_Tree):G.rens ρ (fl Zb xs)=fl Zb xs:=Vk ρ _ (Yr Y3 xs)
theorem Un {ρ:Nat→Nat} (x:Option S_api_Tree):(gP Zb x).ren ρ=gP Zb x:=Zb6 ρ _ (Uw Y3 x)
theorem U7 {k:Nat} (xs:List S_api_Tree):G.unders k (fl Zb xs)=true:=Xz _ _ (Yr Y3 xs)
def Zm (x:Zn):List G:=[.val (.int .i64 x.At),.val (.int .u8 x.Mask),.val (.int .u64 x.Old),.val (.int .u64 x.New)]
mutual
def Q1:S_api_Edit→List G
 | ⟨f0,f1,f2,f3,f4,f5,f6⟩=>[.val (.int .i64 f0),.val (.int .i64 f1.Kind),.sl f1.Words.length (fl (eI .u64) f1.Words),.sl f1.Kids.length (fl Zb f1.Kids),.val (.int .i64 f2.Kind),.sl f2.Words.length (fl (eI .u64) f2.Words),.sl f2.Kids.length (fl Zb f2.Kids),.sl f3.length (fl Zm f3),.sl f4.length (Jo f4),.val (.int .i64 f5),.sl f6.length (Zad f6)]
def Gu:List S_api_Edit→List G
 | []=>[]
 | x::xs=>Q1 x++Gu xs
def Xj:S_api_KidEdit→List G
 | ⟨f0,f1⟩=>[.val (.int .i64 f0)]++Q1 f1
def Jo:List S_api_KidEdit→List G
 | []=>[]
 | x::xs=>Xj x++Jo xs
def J7:S_api_Op→List G
 | ⟨f0,f1,f2,f3⟩=>[.val (.int .i64 f0),.val (.int .i64 f1),.sl f2.length (fl Zb f2)]++Q1 f3
def Zad:List S_api_Op→List G
 | []=>[]
 | x::xs=>J7 x++Zad xs
end
theorem Zaw:∀ xs,Gu xs=fl Q1 xs
 | []=>by simp [Gu,fl]
 | x::xs=>by rw [Gu,Vg,Zaw xs]
theorem Uv:∀ xs,Jo xs=fl Xj xs
 | []=>by simp [Jo,fl]
 | x::xs=>by rw [Jo,Vg,Uv xs]
theorem Zbv:∀ xs,Zad xs=fl J7 xs
 | []=>by simp [Zad,fl]
 | x::xs=>by rw [Zad,Vg,Zbv xs]
def Xg (x:S_api_Edit):List G:=[.val (.int .i64 x.Kind),.val (.int .i64 x.Old.Kind),.sl x.Old.Words.length (fl (eI .u64) x.Old.Words),.sl x.Old.Kids.length (fl Zb x.Old.Kids),.val (.int .i64 x.New.Kind),.sl x.New.Words.length (fl (eI .u64) x.New.Words),.sl x.New.Kids.length (fl Zb x.New.Kids),.sl x.Words.length (fl Zm x.Words),.sl x.Kids.length (fl Xj x.Kids),.val (.int .i64 x.List_),.sl x.Ops.length (fl J7 x.Ops)]
def Zo (x:S_api_KidEdit):List G:=[.val (.int .i64 x.At),.val (.int .i64 x.E.Kind),.val (.int .i64 x.E.Old.Kind),.sl x.E.Old.Words.length (fl (eI .u64) x.E.Old.Words),.sl x.E.Old.Kids.length (fl Zb x.E.Old.Kids),.val (.int .i64 x.E.New.Kind),.sl x.E.New.Words.length (fl (eI .u64) x.E.New.Words),.sl x.E.New.Kids.length (fl Zb x.E.New.Kids),.sl x.E.Words.length (fl Zm x.E.Words),.sl x.E.Kids.length (fl Xj x.E.Kids),.val (.int .i64 x.E.List_),.sl x.E.Ops.length (fl J7 x.E.Ops)]
def Zy (x:S_api_Op):List G:=[.val (.int .i64 x.Kind),.val (.int .i64 x.N),.sl x.L.length (fl Zb x.L),.val (.int .i64 x.E.Kind),.val (.int .i64 x.E.Old.Kind),.sl x.E.Old.Words.length (fl (eI .u64) x.E.Old.Words),.sl x.E.Old.Kids.length (fl Zb x.E.Old.Kids),.val (.int .i64 x.E.New.Kind),.sl x.E.New.Words.length (fl (eI .u64) x.E.New.Words),.sl x.E.New.Kids.length (fl Zb x.E.New.Kids),.sl x.E.Words.length (fl Zm x.E.Words),.sl x.E.Kids.length (fl Xj x.E.Kids),.val (.int .i64 x.E.List_),.sl x.E.Ops.length (fl J7 x.E.Ops)]
theorem Y8:Q1=Xg:=by
 funext x
 obtain ⟨_,_,_,_,_,_,_⟩:=x
 simp only [Q1,Zaw,Xj,Uv,J7,Zbv,Xg,List.cons_append,List.nil_append,List.append_nil]
theorem Yt:Xj=Zo:=by
 funext x
 obtain ⟨_,⟨_,_,_,_,_,_,_⟩⟩:=x
 simp only [Q1,Zaw,Xj,Uv,J7,Zbv,Zo,List.cons_append,List.nil_append,List.append_nil]
theorem Xk:J7=Zy:=by
 funext x
 obtain ⟨_,_,_,⟨_,_,_,_,_,_,_⟩⟩:=x
 simp only [Q1,Zaw,Xj,Uv,J7,Zbv,Zy,List.cons_append,List.nil_append,List.append_nil]
mutual
theorem Zeq:∀ x,G.pures (Q1 x)=true
 | ⟨f0,f1,f2,f3,f4,f5,f6⟩=>by simp [Q1,eP,Uw,eI,eB,eS,eL,G.pures,G.pure,Gw,Yr,Zeu f4,Zku f6,Ky,Y3,Zet,Zm]
theorem Zo1:∀ xs,G.pures (Gu xs)=true
 | []=>rfl
 | x::xs=>by simp [Gu,Gw,Zeq x,Zo1 xs]
theorem Zfo:∀ x,G.pures (Xj x)=true
 | ⟨f0,f1⟩=>by simp [Xj,eP,Uw,eI,eB,eS,eL,G.pures,G.pure,Gw,Yr,Zeq f1,Ky,Y3,Zet,Zm]
theorem Zeu:∀ xs,G.pures (Jo xs)=true
 | []=>rfl
 | x::xs=>by simp [Jo,Gw,Zfo x,Zeu xs]
theorem Zmj:∀ x,G.pures (J7 x)=true
 | ⟨f0,f1,f2,f3⟩=>by simp [J7,eP,Uw,eI,eB,eS,eL,G.pures,G.pure,Gw,Yr,Zeq f3,Ky,Y3,Zet,Zm]
theorem Zku:∀ xs,G.pures (Zad xs)=true
 | []=>rfl
 | x::xs=>by simp [Zad,Gw,Zmj x,Zku xs]
end
def Z9 (x:Zg):List G:=[.sl x.left.length (fl Zb x.left),.sl x.out.length (fl Zb x.out)]
theorem Xh:∀ x,G.pures (Zm x)=true:=fun x=>by simp [eI,eB,eS,eL,eP,G.pures,G.pure,Yr,Uw,Zm,Ky,Y3,Yi,Y8,Yt,Xk]
theorem Kp {O O':Objs} {n:Nat} (xs:List Zn):wkl O O' n (fl Zm xs) (fl Zm xs):=Zfa (Yr Xh xs)
theorem Km {O O':Objs} {n:Nat} (xs:List Zn) (b b':List G):wkl O O' n (fl Zm xs++b) (fl Zm xs++b')=wkl O O' n b b':=Zdi b b' _ (Yr Xh xs)
theorem J8 (xs:List Zn):(fl Zm xs).length=xs.length * 4:=Jp (f:=Zm) (k:=4) (fun _=>rfl) xs
theorem Ke (xs:List Zn):(fl Zm xs).all G.one=true:=Zac (fun x=>by simp [eI,eB,eS,eL,eP,Zdm,G.one,Value.oneCell',Zm]) xs
theorem Kr {O O':Objs} {n:Nat} (x:Option Zn):wk O O' n (gP Zm x) (gP Zm x)=True:=Zr5 Xh x
theorem Jl {k:Nat} (x:Option Zn):(gP Zm x).under k=true:=Zdg Xh k x
theorem Jj {ρ:Nat→Nat} (xs:List Zn):G.rens ρ (fl Zm xs)=fl Zm xs:=Vk ρ _ (Yr Xh xs)
theorem Jh {ρ:Nat→Nat} (x:Option Zn):(gP Zm x).ren ρ=gP Zm x:=Zb6 ρ _ (Uw Xh x)
theorem Kj {k:Nat} (xs:List Zn):G.unders k (fl Zm xs)=true:=Xz _ _ (Yr Xh xs)
theorem Xr:∀ x,G.pures (Zo x)=true:=fun x=>by rw [← Yt];exact Zfo x
theorem Vd {O O':Objs} {n:Nat} (xs:List S_api_KidEdit):wkl O O' n (fl Zo xs) (fl Zo xs):=Zfa (Yr Xr xs)
theorem Vc {O O':Objs} {n:Nat} (xs:List S_api_KidEdit) (b b':List G):wkl O O' n (fl Zo xs++b) (fl Zo xs++b')=wkl O O' n b b':=Zdi b b' _ (Yr Xr xs)
theorem K6 (xs:List S_api_KidEdit):(fl Zo xs).length=xs.length * 12:=Jp (f:=Zo) (k:=12) (fun _=>rfl) xs
theorem Va (xs:List S_api_KidEdit):(fl Zo xs).all G.one=true:=Zac (fun x=>by simp [eI,eB,eS,eL,eP,Zdm,G.one,Value.oneCell',Zo]) xs
theorem Ve {O O':Objs} {n:Nat} (x:Option S_api_KidEdit):wk O O' n (gP Zo x) (gP Zo x)=True:=Zr5 Xr x
theorem Kl {k:Nat} (x:Option S_api_KidEdit):(gP Zo x).under k=true:=Zdg Xr k x
theorem Kh {ρ:Nat→Nat} (xs:List S_api_KidEdit):G.rens ρ (fl Zo xs)=fl Zo xs:=Vk ρ _ (Yr Xr xs)
theorem Kg {ρ:Nat→Nat} (x:Option S_api_KidEdit):(gP Zo x).ren ρ=gP Zo x:=Zb6 ρ _ (Uw Xr x)
theorem Vb {k:Nat} (xs:List S_api_KidEdit):G.unders k (fl Zo xs)=true:=Xz _ _ (Yr Xr xs)
theorem Jz:∀ x,G.pures (Zy x)=true:=fun x=>by rw [← Xk];exact Zmj x
theorem Zar {O O':Objs} {n:Nat} (xs:List S_api_Op):wkl O O' n (fl Zy xs) (fl Zy xs):=Zfa (Yr Jz xs)
theorem Zaq {O O':Objs} {n:Nat} (xs:List S_api_Op) (b b':List G):wkl O O' n (fl Zy xs++b) (fl Zy xs++b')=wkl O O' n b b':=Zdi b b' _ (Yr Jz xs)
theorem Zaf (xs:List S_api_Op):(fl Zy xs).length=xs.length * 14:=Jp (f:=Zy) (k:=14) (fun _=>rfl) xs
theorem Zam (xs:List S_api_Op):(fl Zy xs).all G.one=true:=Zac (fun x=>by simp [eI,eB,eS,eL,eP,Zdm,G.one,Value.oneCell',Zy]) xs
theorem Zat {O O':Objs} {n:Nat} (x:Option S_api_Op):wk O O' n (gP Zy x) (gP Zy x)=True:=Zr5 Jz x
theorem Gt {k:Nat} (x:Option S_api_Op):(gP Zy x).under k=true:=Zdg Jz k x
theorem Gs {ρ:Nat→Nat} (xs:List S_api_Op):G.rens ρ (fl Zy xs)=fl Zy xs:=Vk ρ _ (Yr Jz xs)
theorem Gr {ρ:Nat→Nat} (x:Option S_api_Op):(gP Zy x).ren ρ=gP Zy x:=Zb6 ρ _ (Uw Jz x)
theorem Zap {k:Nat} (xs:List S_api_Op):G.unders k (fl Zy xs)=true:=Xz _ _ (Yr Jz xs)
theorem Xv:∀ x,G.pures (Z9 x)=true:=fun x=>by simp [eI,eB,eS,eL,eP,G.pures,G.pure,Yr,Uw,Z9,Ky,Y3,Xh,Xr,Jz,Yi,Y8,Yt,Xk]
theorem Kq {O O':Objs} {n:Nat} (xs:List Zg):wkl O O' n (fl Z9 xs) (fl Z9 xs):=Zfa (Yr Xv xs)
theorem Ko {O O':Objs} {n:Nat} (xs:List Zg) (b b':List G):wkl O O' n (fl Z9 xs++b) (fl Z9 xs++b')=wkl O O' n b b':=Zdi b b' _ (Yr Xv xs)
theorem J9 (xs:List Zg):(fl Z9 xs).length=xs.length * 2:=Jp (f:=Z9) (k:=2) (fun _=>rfl) xs
theorem Kf (xs:List Zg):(fl Z9 xs).all G.one=true:=Zac (fun x=>by simp [eI,eB,eS,eL,eP,Zdm,G.one,Value.oneCell',Z9]) xs
theorem Ks {O O':Objs} {n:Nat} (x:Option Zg):wk O O' n (gP Z9 x) (gP Z9 x)=True:=Zr5 Xv x
theorem Jm {k:Nat} (x:Option Zg):(gP Z9 x).under k=true:=Zdg Xv k x
theorem Jk {ρ:Nat→Nat} (xs:List Zg):G.rens ρ (fl Z9 xs)=fl Z9 xs:=Vk ρ _ (Yr Xv xs)
theorem Ji {ρ:Nat→Nat} (x:Option Zg):(gP Z9 x).ren ρ=gP Z9 x:=Zb6 ρ _ (Uw Xv x)
theorem Kk {k:Nat} (xs:List Zg):G.unders k (fl Z9 xs)=true:=Xz _ _ (Yr Xv xs)
theorem Zes:∀ x,G.pures ((eI .u8) x)=true:=fun x=>by simp [eI,eB,eS,eL,eP,G.pures,G.pure,Yr,Uw,Ky,Y3,Xh,Xr,Jz,Xv,Yi,Y8,Yt,Xk]
theorem Zg9 {O O':Objs} {n:Nat} (xs:List Int):wkl O O' n (fl (eI .u8) xs) (fl (eI .u8) xs):=Zfa (Yr Zes xs)
theorem Zg7 {O O':Objs} {n:Nat} (xs:List Int) (b b':List G):wkl O O' n (fl (eI .u8) xs++b) (fl (eI .u8) xs++b')=wkl O O' n b b':=Zdi b b' _ (Yr Zes xs)
theorem Zgj (xs:List Int):(fl (eI .u8) xs).length=xs.length * 1:=Jp (f:=(eI .u8)) (k:=1) (fun _=>rfl) xs
theorem Zgq (xs:List Int):(fl (eI .u8) xs).all G.one=true:=Zac (fun x=>by simp [eI,eB,eS,eL,eP,Zdm,G.one,Value.oneCell']) xs
theorem Zha {O O':Objs} {n:Nat} (x:Option Int):wk O O' n (gP (eI .u8) x) (gP (eI .u8) x)=True:=Zr5 Zes x
theorem Ze6 {k:Nat} (x:Option Int):(gP (eI .u8) x).under k=true:=Zdg Zes k x
theorem Zey {ρ:Nat→Nat} (xs:List Int):G.rens ρ (fl (eI .u8) xs)=fl (eI .u8) xs:=Vk ρ _ (Yr Zes xs)
theorem Zex {ρ:Nat→Nat} (x:Option Int):(gP (eI .u8) x).ren ρ=gP (eI .u8) x:=Zb6 ρ _ (Uw Zes x)
theorem Zg6 {k:Nat} (xs:List Int):G.unders k (fl (eI .u8) xs)=true:=Xz _ _ (Yr Zes xs)
def Ye (x:S_api_Op):List G:=[.val (.int .i64 x.Kind),.val (.int .i64 x.N),.sl x.L.length (fl Zb x.L),.val (.int .i64 x.E.Kind),.val (.int .i64 x.E.Old.Kind),.sl x.E.Old.Words.length (fl (eI .u64) x.E.Old.Words),.sl x.E.Old.Kids.length (fl Zb x.E.Old.Kids),.val (.int .i64 x.E.New.Kind),.sl x.E.New.Words.length (fl (eI .u64) x.E.New.Words),.sl x.E.New.Kids.length (fl Zb x.E.New.Kids),.sl x.E.Words.length (fl Zm x.E.Words),.sl x.E.Kids.length (fl Zo x.E.Kids),.val (.int .i64 x.E.List_),.sl x.E.Ops.length (fl Zy x.E.Ops)]
def V2 (x:S_api_KidEdit):List G:=[.val (.int .i64 x.At),.val (.int .i64 x.E.Kind),.val (.int .i64 x.E.Old.Kind),.sl x.E.Old.Words.length (fl (eI .u64) x.E.Old.Words),.sl x.E.Old.Kids.length (fl Zb x.E.Old.Kids),.val (.int .i64 x.E.New.Kind),.sl x.E.New.Words.length (fl (eI .u64) x.E.New.Words),.sl x.E.New.Kids.length (fl Zb x.E.New.Kids),.sl x.E.Words.length (fl Zm x.E.Words),.sl x.E.Kids.length (fl Zo x.E.Kids),.val (.int .i64 x.E.List_),.sl x.E.Ops.length (fl Zy x.E.Ops)]
def Zf (x:S_api_Edit):List G:=[.val (.int .i64 x.Kind),.val (.int .i64 x.Old.Kind),.sl x.Old.Words.length (fl (eI .u64) x.Old.Words),.sl x.Old.Kids.length (fl Zb x.Old.Kids),.val (.int .i64 x.New.Kind),.sl x.New.Words.length (fl (eI .u64) x.New.Words),.sl x.New.Kids.length (fl Zb x.New.Kids),.sl x.Words.length (fl Zm x.Words),.sl x.Kids.length (fl Zo x.Kids),.val (.int .i64 x.List_),.sl x.Ops.length (fl Zy x.Ops)]
def Zd (x:S_api_Tree):List G:=[.val (.int .i64 x.Kind),.sl x.Words.length (fl (eI .u64) x.Words),.sl x.Kids.length (fl Zb x.Kids)]
def Jn (x:Zn):List G:=[.val (.int .i64 x.At),.val (.int .u8 x.Mask),.val (.int .u64 x.Old),.val (.int .u64 x.New)]
end Go.Proofs.Ytmpkfolcikhofaa
