/- Part AE of this seat's mirrors: functions of the seat's program, and the plain functions that they are; each theorem bears its own conditions. -/
import Derived.Test.YtmlcnhambfkjaaaGreatTy
import Derived.Test.YtmlcnhambfkjaaaGreatAD
namespace Go.Proofs.YtmlcnhambfkjaaaGreat
open Go.RowKit
set_option linter.unusedVariables false
set_option linter.unusedSimpArgs false
set_option maxRecDepth 100000
set_option maxHeartbeats 4000000
mutual
def Zda:Za→List G
 | ⟨f0,f1,f2⟩=>[.val (.int .i64 f0),.sl f1.length (fl (eI .u64) f1),.sl f2.length (Zdb f2)]
def Zdb:List Za→List G
 | []=>[]
 | x::xs=>Zda x++Zdb xs
end
theorem Zo3:∀ xs,Zdb xs=fl Zda xs
 | []=>by simp [Zdb,fl]
 | x::xs=>by rw [Zdb,Zae,Zo3 xs]
def Zb (x:Za):List G:=[.val (.int .i64 x.Kind),.sl x.Words.length (fl (eI .u64) x.Words),.sl x.Kids.length (fl Zda x.Kids)]
theorem Y4:Zda=Zb:=by
 funext x
 obtain ⟨_,_,_⟩:=x
 simp only [Zda,Zo3,Zb,List.cons_append,List.nil_append,List.append_nil]
mutual
theorem Zm7:∀ x,G.pures (Zda x)=true
 | ⟨f0,f1,f2⟩=>by simp [Zda,eP,Vo,eI,eB,eS,eL,G.pures,G.pure,Zfl,Yo,Zrh f2]
theorem Zrh:∀ xs,G.pures (Zdb xs)=true
 | []=>rfl
 | x::xs=>by simp [Zdb,Zfl,Zm7 x,Zrh xs]
end
theorem Zm8:∀ x,G.pures (Zb x)=true:=fun x=>by rw [← Y4];exact Zm7 x
theorem Kr:∀ x,G.pures ((eI .u64) x)=true:=fun x=>by simp [eI,eB,eS,eL,eP,G.pures,G.pure,Yo,Vo,Y4]
theorem Znq {O O':Objs} {n:Nat} (xs:List Int):wkl O O' n (fl (eI .u64) xs) (fl (eI .u64) xs):=Zgs (Yo Kr xs)
theorem Znn {O O':Objs} {n:Nat} (xs:List Int) (b b':List G):wkl O O' n (fl (eI .u64) xs++b) (fl (eI .u64) xs++b')=wkl O O' n b b':=Zfg b b' _ (Yo Kr xs)
theorem Zmj (xs:List Int):(fl (eI .u64) xs).length=xs.length * 1:=J3 (f:=(eI .u64)) (k:=1) (fun _=>rfl) xs
theorem Zmy (xs:List Int):(fl (eI .u64) xs).all G.one=true:=Zaq (fun x=>by simp [eI,eB,eS,eL,eP,Zhb,G.one,Value.oneCell']) xs
theorem Zns {O O':Objs} {n:Nat} (x:Option Int):wk O O' n (gP (eI .u64) x) (gP (eI .u64) x)=True:=Zu0 Kr x
theorem Zlb {k:Nat} (x:Option Int):(gP (eI .u64) x).under k=true:=Zfe Kr k x
theorem Zk6 {ρ:Nat→Nat} (xs:List Int):G.rens ρ (fl (eI .u64) xs)=fl (eI .u64) xs:=Vi ρ _ (Yo Kr xs)
theorem Zk4 {ρ:Nat→Nat} (x:Option Int):(gP (eI .u64) x).ren ρ=gP (eI .u64) x:=Zd5 ρ _ (Vo Kr x)
theorem Znk {k:Nat} (xs:List Int):G.unders k (fl (eI .u64) xs)=true:=Qg _ _ (Yo Kr xs)
theorem Xl:∀ x,G.pures (Zb x)=true:=fun x=>by rw [← Y4];exact Zm7 x
theorem Zd9 {O O':Objs} {n:Nat} (xs:List Za):wkl O O' n (fl Zb xs) (fl Zb xs):=Zgs (Yo Xl xs)
theorem Zd8 {O O':Objs} {n:Nat} (xs:List Za) (b b':List G):wkl O O' n (fl Zb xs++b) (fl Zb xs++b')=wkl O O' n b b':=Zfg b b' _ (Yo Xl xs)
theorem Zdw (xs:List Za):(fl Zb xs).length=xs.length * 3:=J3 (f:=Zb) (k:=3) (fun _=>rfl) xs
theorem Zd3 (xs:List Za):(fl Zb xs).all G.one=true:=Zaq (fun x=>by simp [eI,eB,eS,eL,eP,Zhb,G.one,Value.oneCell',Zb]) xs
theorem Zea {O O':Objs} {n:Nat} (x:Option Za):wk O O' n (gP Zb x) (gP Zb x)=True:=Zu0 Xl x
theorem Zc9 {k:Nat} (x:Option Za):(gP Zb x).under k=true:=Zfe Xl k x
theorem Zc8 {ρ:Nat→Nat} (xs:List Za):G.rens ρ (fl Zb xs)=fl Zb xs:=Vi ρ _ (Yo Xl xs)
theorem Zc7 {ρ:Nat→Nat} (x:Option Za):(gP Zb x).ren ρ=gP Zb x:=Zd5 ρ _ (Vo Xl x)
theorem Zd7 {k:Nat} (xs:List Za):G.unders k (fl Zb xs)=true:=Qg _ _ (Yo Xl xs)
def Zq (x:Zz):List G:=[.val (.int .i64 x.At),.val (.int .u8 x.Mask),.val (.int .u64 x.Old),.val (.int .u64 x.New)]
mutual
def Vr:Zf→List G
 | ⟨f0,f1,f2,f3,f4,f5,f6⟩=>[.val (.int .i64 f0),.val (.int .i64 f1.Kind),.sl f1.Words.length (fl (eI .u64) f1.Words),.sl f1.Kids.length (fl Zb f1.Kids),.val (.int .i64 f2.Kind),.sl f2.Words.length (fl (eI .u64) f2.Words),.sl f2.Kids.length (fl Zb f2.Kids),.sl f3.length (fl Zq f3),.sl f4.length (U0 f4),.val (.int .i64 f5),.sl f6.length (Zf2 f6)]
def Zfi:List Zf→List G
 | []=>[]
 | x::xs=>Vr x++Zfi xs
def Q2:Zl→List G
 | ⟨f0,f1⟩=>[.val (.int .i64 f0)]++Vr f1
def U0:List Zl→List G
 | []=>[]
 | x::xs=>Q2 x++U0 xs
def Gn:Zt→List G
 | ⟨f0,f1,f2,f3⟩=>[.val (.int .i64 f0),.val (.int .i64 f1),.sl f2.length (fl Zb f2)]++Vr f3
def Zf2:List Zt→List G
 | []=>[]
 | x::xs=>Gn x++Zf2 xs
end
theorem Zgv:∀ xs,Zfi xs=fl Vr xs
 | []=>by simp [Zfi,fl]
 | x::xs=>by rw [Zfi,Zae,Zgv xs]
theorem Zdf:∀ xs,U0 xs=fl Q2 xs
 | []=>by simp [U0,fl]
 | x::xs=>by rw [U0,Zae,Zdf xs]
theorem Zi4:∀ xs,Zf2 xs=fl Gn xs
 | []=>by simp [Zf2,fl]
 | x::xs=>by rw [Zf2,Zae,Zi4 xs]
def Qy (x:Zf):List G:=[.val (.int .i64 x.Kind),.val (.int .i64 x.Old.Kind),.sl x.Old.Words.length (fl (eI .u64) x.Old.Words),.sl x.Old.Kids.length (fl Zb x.Old.Kids),.val (.int .i64 x.New.Kind),.sl x.New.Words.length (fl (eI .u64) x.New.Words),.sl x.New.Kids.length (fl Zb x.New.Kids),.sl x.Words.length (fl Zq x.Words),.sl x.Kids.length (fl Q2 x.Kids),.val (.int .i64 x.List_),.sl x.Ops.length (fl Gn x.Ops)]
def Zp (x:Zl):List G:=[.val (.int .i64 x.At),.val (.int .i64 x.E.Kind),.val (.int .i64 x.E.Old.Kind),.sl x.E.Old.Words.length (fl (eI .u64) x.E.Old.Words),.sl x.E.Old.Kids.length (fl Zb x.E.Old.Kids),.val (.int .i64 x.E.New.Kind),.sl x.E.New.Words.length (fl (eI .u64) x.E.New.Words),.sl x.E.New.Kids.length (fl Zb x.E.New.Kids),.sl x.E.Words.length (fl Zq x.E.Words),.sl x.E.Kids.length (fl Q2 x.E.Kids),.val (.int .i64 x.E.List_),.sl x.E.Ops.length (fl Gn x.E.Ops)]
def Zx (x:Zt):List G:=[.val (.int .i64 x.Kind),.val (.int .i64 x.N),.sl x.L.length (fl Zb x.L),.val (.int .i64 x.E.Kind),.val (.int .i64 x.E.Old.Kind),.sl x.E.Old.Words.length (fl (eI .u64) x.E.Old.Words),.sl x.E.Old.Kids.length (fl Zb x.E.Old.Kids),.val (.int .i64 x.E.New.Kind),.sl x.E.New.Words.length (fl (eI .u64) x.E.New.Words),.sl x.E.New.Kids.length (fl Zb x.E.New.Kids),.sl x.E.Words.length (fl Zq x.E.Words),.sl x.E.Kids.length (fl Q2 x.E.Kids),.val (.int .i64 x.E.List_),.sl x.E.Ops.length (fl Gn x.E.Ops)]
theorem Xh:Vr=Qy:=by
 funext x
 obtain ⟨_,_,_,_,_,_,_⟩:=x
 simp only [Vr,Zgv,Q2,Zdf,Gn,Zi4,Qy,List.cons_append,List.nil_append,List.append_nil]
theorem Y6:Q2=Zp:=by
 funext x
 obtain ⟨_,⟨_,_,_,_,_,_,_⟩⟩:=x
 simp only [Vr,Zgv,Q2,Zdf,Gn,Zi4,Zp,List.cons_append,List.nil_append,List.append_nil]
theorem Xv:Gn=Zx:=by
 funext x
 obtain ⟨_,_,_,⟨_,_,_,_,_,_,_⟩⟩:=x
 simp only [Vr,Zgv,Q2,Zdf,Gn,Zi4,Zx,List.cons_append,List.nil_append,List.append_nil]
mutual
theorem Zm6:∀ x,G.pures (Vr x)=true
 | ⟨f0,f1,f2,f3,f4,f5,f6⟩=>by simp [Vr,eP,Vo,eI,eB,eS,eL,G.pures,G.pure,Zfl,Yo,Zm9 f4,Zvz f6,Kr,Xl,Zm8,Zq]
theorem Z1x:∀ xs,G.pures (Zfi xs)=true
 | []=>rfl
 | x::xs=>by simp [Zfi,Zfl,Zm6 x,Z1x xs]
theorem Zn8:∀ x,G.pures (Q2 x)=true
 | ⟨f0,f1⟩=>by simp [Q2,eP,Vo,eI,eB,eS,eL,G.pures,G.pure,Zfl,Yo,Zm6 f1,Kr,Xl,Zm8,Zq]
theorem Zm9:∀ xs,G.pures (U0 xs)=true
 | []=>rfl
 | x::xs=>by simp [U0,Zfl,Zn8 x,Zm9 xs]
theorem Zys:∀ x,G.pures (Gn x)=true
 | ⟨f0,f1,f2,f3⟩=>by simp [Gn,eP,Vo,eI,eB,eS,eL,G.pures,G.pure,Zfl,Yo,Zm6 f3,Kr,Xl,Zm8,Zq]
theorem Zvz:∀ xs,G.pures (Zf2 xs)=true
 | []=>rfl
 | x::xs=>by simp [Zf2,Zfl,Zys x,Zvz xs]
end
theorem Xi:∀ x,G.pures (Zq x)=true:=fun x=>by simp [eI,eB,eS,eL,eP,G.pures,G.pure,Yo,Vo,Zq,Kr,Xl,Y4,Xh,Y6,Xv]
theorem Zac {O O':Objs} {n:Nat} (xs:List Zz):wkl O O' n (fl Zq xs) (fl Zq xs):=Zgs (Yo Xi xs)
theorem Zab {O O':Objs} {n:Nat} (xs:List Zz) (b b':List G):wkl O O' n (fl Zq xs++b) (fl Zq xs++b')=wkl O O' n b b':=Zfg b b' _ (Yo Xi xs)
theorem Gp (xs:List Zz):(fl Zq xs).length=xs.length * 4:=J3 (f:=Zq) (k:=4) (fun _=>rfl) xs
theorem Gz (xs:List Zz):(fl Zq xs).all G.one=true:=Zaq (fun x=>by simp [eI,eB,eS,eL,eP,Zhb,G.one,Value.oneCell',Zq]) xs
theorem Zad {O O':Objs} {n:Nat} (x:Option Zz):wk O O' n (gP Zq x) (gP Zq x)=True:=Zu0 Xi x
theorem Uu {k:Nat} (x:Option Zz):(gP Zq x).under k=true:=Zfe Xi k x
theorem Us {ρ:Nat→Nat} (xs:List Zz):G.rens ρ (fl Zq xs)=fl Zq xs:=Vi ρ _ (Yo Xi xs)
theorem Ur {ρ:Nat→Nat} (x:Option Zz):(gP Zq x).ren ρ=gP Zq x:=Zd5 ρ _ (Vo Xi x)
theorem G8 {k:Nat} (xs:List Zz):G.unders k (fl Zq xs)=true:=Qg _ _ (Yo Xi xs)
theorem Xq:∀ x,G.pures (Zp x)=true:=fun x=>by rw [← Y6];exact Zn8 x
theorem Zba {O O':Objs} {n:Nat} (xs:List Zl):wkl O O' n (fl Zp xs) (fl Zp xs):=Zgs (Yo Xq xs)
theorem Za8 {O O':Objs} {n:Nat} (xs:List Zl) (b b':List G):wkl O O' n (fl Zp xs++b) (fl Zp xs++b')=wkl O O' n b b':=Zfg b b' _ (Yo Xq xs)
theorem Za0 (xs:List Zl):(fl Zp xs).length=xs.length * 12:=J3 (f:=Zp) (k:=12) (fun _=>rfl) xs
theorem Za4 (xs:List Zl):(fl Zp xs).all G.one=true:=Zaq (fun x=>by simp [eI,eB,eS,eL,eP,Zhb,G.one,Value.oneCell',Zp]) xs
theorem Zbc {O O':Objs} {n:Nat} (x:Option Zl):wk O O' n (gP Zp x) (gP Zp x)=True:=Zu0 Xq x
theorem G9 {k:Nat} (x:Option Zl):(gP Zp x).under k=true:=Zfe Xq k x
theorem G4 {ρ:Nat→Nat} (xs:List Zl):G.rens ρ (fl Zp xs)=fl Zp xs:=Vi ρ _ (Yo Xq xs)
theorem G0 {ρ:Nat→Nat} (x:Option Zl):(gP Zp x).ren ρ=gP Zp x:=Zd5 ρ _ (Vo Xq x)
theorem Za6 {k:Nat} (xs:List Zl):G.unders k (fl Zp xs)=true:=Qg _ _ (Yo Xq xs)
theorem Jl:∀ x,G.pures (Zx x)=true:=fun x=>by rw [← Xv];exact Zys x
theorem Zgr {O O':Objs} {n:Nat} (xs:List Zt):wkl O O' n (fl Zx xs) (fl Zx xs):=Zgs (Yo Jl xs)
theorem Zgq {O O':Objs} {n:Nat} (xs:List Zt) (b b':List G):wkl O O' n (fl Zx xs++b) (fl Zx xs++b')=wkl O O' n b b':=Zfg b b' _ (Yo Jl xs)
theorem Zf4 (xs:List Zt):(fl Zx xs).length=xs.length * 14:=J3 (f:=Zx) (k:=14) (fun _=>rfl) xs
theorem Zgg (xs:List Zt):(fl Zx xs).all G.one=true:=Zaq (fun x=>by simp [eI,eB,eS,eL,eP,Zhb,G.one,Value.oneCell',Zx]) xs
theorem Zgu {O O':Objs} {n:Nat} (x:Option Zt):wk O O' n (gP Zx x) (gP Zx x)=True:=Zu0 Jl x
theorem Zff {k:Nat} (x:Option Zt):(gP Zx x).under k=true:=Zfe Jl k x
theorem Zfd {ρ:Nat→Nat} (xs:List Zt):G.rens ρ (fl Zx xs)=fl Zx xs:=Vi ρ _ (Yo Jl xs)
theorem Zfc {ρ:Nat→Nat} (x:Option Zt):(gP Zx x).ren ρ=gP Zx x:=Zd5 ρ _ (Vo Jl x)
theorem Zgn {k:Nat} (xs:List Zt):G.unders k (fl Zx xs)=true:=Qg _ _ (Yo Jl xs)
theorem Zfb:∀ x,G.pures ((eI .u8) x)=true:=fun x=>by simp [eI,eB,eS,eL,eP,G.pures,G.pure,Yo,Vo,Kr,Xl,Xi,Xq,Jl,Y4,Xh,Y6,Xv]
theorem Zp7 {O O':Objs} {n:Nat} (xs:List Int):wkl O O' n (fl (eI .u8) xs) (fl (eI .u8) xs):=Zgs (Yo Zfb xs)
theorem Zp6 {O O':Objs} {n:Nat} (xs:List Int) (b b':List G):wkl O O' n (fl (eI .u8) xs++b) (fl (eI .u8) xs++b')=wkl O O' n b b':=Zfg b b' _ (Yo Zfb xs)
theorem Zo6 (xs:List Int):(fl (eI .u8) xs).length=xs.length * 1:=J3 (f:=(eI .u8)) (k:=1) (fun _=>rfl) xs
theorem Zpk (xs:List Int):(fl (eI .u8) xs).all G.one=true:=Zaq (fun x=>by simp [eI,eB,eS,eL,eP,Zhb,G.one,Value.oneCell']) xs
theorem Zp8 {O O':Objs} {n:Nat} (x:Option Int):wk O O' n (gP (eI .u8) x) (gP (eI .u8) x)=True:=Zu0 Zfb x
theorem Znl {k:Nat} (x:Option Int):(gP (eI .u8) x).under k=true:=Zfe Zfb k x
theorem Znb {ρ:Nat→Nat} (xs:List Int):G.rens ρ (fl (eI .u8) xs)=fl (eI .u8) xs:=Vi ρ _ (Yo Zfb xs)
theorem Zna {ρ:Nat→Nat} (x:Option Int):(gP (eI .u8) x).ren ρ=gP (eI .u8) x:=Zd5 ρ _ (Vo Zfb x)
theorem Zp4 {k:Nat} (xs:List Int):G.unders k (fl (eI .u8) xs)=true:=Qg _ _ (Yo Zfb xs)
theorem Zd4:∀ x,G.pures ((eI .i64) x)=true:=fun x=>by simp [eI,eB,eS,eL,eP,G.pures,G.pure,Yo,Vo,Kr,Xl,Xi,Xq,Jl,Zfb,Y4,Xh,Y6,Xv]
theorem Znp {O O':Objs} {n:Nat} (xs:List Int):wkl O O' n (fl (eI .i64) xs) (fl (eI .i64) xs):=Zgs (Yo Zd4 xs)
theorem Znm {O O':Objs} {n:Nat} (xs:List Int) (b b':List G):wkl O O' n (fl (eI .i64) xs++b) (fl (eI .i64) xs++b')=wkl O O' n b b':=Zfg b b' _ (Yo Zd4 xs)
theorem Zmi (xs:List Int):(fl (eI .i64) xs).length=xs.length * 1:=J3 (f:=(eI .i64)) (k:=1) (fun _=>rfl) xs
theorem Zmx (xs:List Int):(fl (eI .i64) xs).all G.one=true:=Zaq (fun x=>by simp [eI,eB,eS,eL,eP,Zhb,G.one,Value.oneCell']) xs
theorem Znr {O O':Objs} {n:Nat} (x:Option Int):wk O O' n (gP (eI .i64) x) (gP (eI .i64) x)=True:=Zu0 Zd4 x
theorem Zla {k:Nat} (x:Option Int):(gP (eI .i64) x).under k=true:=Zfe Zd4 k x
theorem Zk5 {ρ:Nat→Nat} (xs:List Int):G.rens ρ (fl (eI .i64) xs)=fl (eI .i64) xs:=Vi ρ _ (Yo Zd4 xs)
theorem Zk3 {ρ:Nat→Nat} (x:Option Int):(gP (eI .i64) x).ren ρ=gP (eI .i64) x:=Zd5 ρ _ (Vo Zd4 x)
theorem Znj {k:Nat} (xs:List Int):G.unders k (fl (eI .i64) xs)=true:=Qg _ _ (Yo Zd4 xs)
def Zkm (x:Xo):List G:=[.val (.int .i64 x.Kind),.val (.int .i64 x.Off),.val (.int .i64 x.Data),.val (.int .i64 x.Ptrs),.val (.int .i64 x.Code),.val (.int .i64 x.Count),.val (.int .i64 x.Segment),.val (.bool x.Double)]
def Zez (x:Zi):List G:=[.sl x.words.length (fl (eI .u64) x.words),.val (.int .i64 x.next)]
theorem Gg:∀ x,G.pures ((eL (eI .u64)) x)=true:=fun x=>by simp [eI,eB,eS,eL,eP,G.pures,G.pure,Yo,Vo,Kr,Xl,Xi,Xq,Jl,Zfb,Zd4,Y4,Xh,Y6,Xv]
theorem Zhu {O O':Objs} {n:Nat} (xs:List (List Int)):wkl O O' n (fl (eL (eI .u64)) xs) (fl (eL (eI .u64)) xs):=Zgs (Yo Gg xs)
theorem Zht {O O':Objs} {n:Nat} (xs:List (List Int)) (b b':List G):wkl O O' n (fl (eL (eI .u64)) xs++b) (fl (eL (eI .u64)) xs++b')=wkl O O' n b b':=Zfg b b' _ (Yo Gg xs)
theorem Zhj (xs:List (List Int)):(fl (eL (eI .u64)) xs).length=xs.length * 1:=J3 (f:=(eL (eI .u64))) (k:=1) (fun _=>rfl) xs
theorem Zhq (xs:List (List Int)):(fl (eL (eI .u64)) xs).all G.one=true:=Zaq (fun x=>by simp [eI,eB,eS,eL,eP,Zhb,G.one,Value.oneCell']) xs
theorem Zhv {O O':Objs} {n:Nat} (x:Option (List Int)):wk O O' n (gP (eL (eI .u64)) x) (gP (eL (eI .u64)) x)=True:=Zu0 Gg x
theorem Zgo {k:Nat} (x:Option (List Int)):(gP (eL (eI .u64)) x).under k=true:=Zfe Gg k x
theorem Zgj {ρ:Nat→Nat} (xs:List (List Int)):G.rens ρ (fl (eL (eI .u64)) xs)=fl (eL (eI .u64)) xs:=Vi ρ _ (Yo Gg xs)
theorem Zgi {ρ:Nat→Nat} (x:Option (List Int)):(gP (eL (eI .u64)) x).ren ρ=gP (eL (eI .u64)) x:=Zd5 ρ _ (Vo Gg x)
theorem Zhs {k:Nat} (xs:List (List Int)):G.unders k (fl (eL (eI .u64)) xs)=true:=Qg _ _ (Yo Gg xs)
def Zv (x:Z0):List G:=[.sl x.segments.length (fl (eL (eI .u64)) x.segments),.val (.int .i64 x.size),.val (.int .i64 x.left)]
theorem Jh:∀ x,G.pures (Zv x)=true:=fun x=>by simp [eI,eB,eS,eL,eP,G.pures,G.pure,Yo,Vo,Zv,Kr,Xl,Xi,Xq,Jl,Zfb,Zd4,Gg,Y4,Xh,Y6,Xv]
theorem Zbb {O O':Objs} {n:Nat} (xs:List Z0):wkl O O' n (fl Zv xs) (fl Zv xs):=Zgs (Yo Jh xs)
theorem Za9 {O O':Objs} {n:Nat} (xs:List Z0) (b b':List G):wkl O O' n (fl Zv xs++b) (fl Zv xs++b')=wkl O O' n b b':=Zfg b b' _ (Yo Jh xs)
theorem Za1 (xs:List Z0):(fl Zv xs).length=xs.length * 3:=J3 (f:=Zv) (k:=3) (fun _=>rfl) xs
theorem Za5 (xs:List Z0):(fl Zv xs).all G.one=true:=Zaq (fun x=>by simp [eI,eB,eS,eL,eP,Zhb,G.one,Value.oneCell',Zv]) xs
theorem Zbd {O O':Objs} {n:Nat} (x:Option Z0):wk O O' n (gP Zv x) (gP Zv x)=True:=Zu0 Jh x
theorem Zaa {k:Nat} (x:Option Z0):(gP Zv x).under k=true:=Zfe Jh k x
theorem G5 {ρ:Nat→Nat} (xs:List Z0):G.rens ρ (fl Zv xs)=fl Zv xs:=Vi ρ _ (Yo Jh xs)
theorem G3 {ρ:Nat→Nat} (x:Option Z0):(gP Zv x).ren ρ=gP Zv x:=Zd5 ρ _ (Vo Jh x)
theorem Za7 {k:Nat} (xs:List Z0):G.unders k (fl Zv xs)=true:=Qg _ _ (Yo Jh xs)
def Zf0 (x:X4):List G:=[.val (.int .i64 x.Depth),.val (.int .i64 x.Weight),.val (.int .i64 x.MaxD),.val (.int .i64 x.MaxOut)]
def Zkl (x:Q0):List G:=[.val (.int .i64 x.P.Kind),.val (.int .i64 x.P.Off),.val (.int .i64 x.P.Data),.val (.int .i64 x.P.Ptrs),.val (.int .i64 x.P.Code),.val (.int .i64 x.P.Count),.val (.int .i64 x.P.Segment),.val (.bool x.P.Double),.val (.int .i64 x.Segment),.val (.int .i64 x.At)]
def Zf1 (x:Zj):List G:=[(gP Zv x.a),.val (.int .i64 x.kind),.val (.int .i64 x.segment),.val (.int .i64 x.at_),.val (.int .i64 x.words),.val (.int .i64 x.ptrs),.val (.int .i64 x.count),.val (.int .i64 x.code),.val (.int .i64 x.index)]
def Yl (x:Zk):List G:=[.val (.int .i64 x.left)]
theorem Je:∀ x,G.pures (Yl x)=true:=fun x=>by simp [eI,eB,eS,eL,eP,G.pures,G.pure,Yo,Vo,Yl,Kr,Xl,Xi,Xq,Jl,Zfb,Zd4,Gg,Jh,Y4,Xh,Y6,Xv]
theorem Uw {O O':Objs} {n:Nat} (xs:List Zk):wkl O O' n (fl Yl xs) (fl Yl xs):=Zgs (Yo Je xs)
theorem Uv {O O':Objs} {n:Nat} (xs:List Zk) (b b':List G):wkl O O' n (fl Yl xs++b) (fl Yl xs++b')=wkl O O' n b b':=Zfg b b' _ (Yo Je xs)
theorem Uo (xs:List Zk):(fl Yl xs).length=xs.length * 1:=J3 (f:=Yl) (k:=1) (fun _=>rfl) xs
theorem Uq (xs:List Zk):(fl Yl xs).all G.one=true:=Zaq (fun x=>by simp [eI,eB,eS,eL,eP,Zhb,G.one,Value.oneCell',Yl]) xs
theorem Ux {O O':Objs} {n:Nat} (x:Option Zk):wk O O' n (gP Yl x) (gP Yl x)=True:=Zu0 Je x
theorem V6 {k:Nat} (x:Option Zk):(gP Yl x).under k=true:=Zfe Je k x
theorem V5 {ρ:Nat→Nat} (xs:List Zk):G.rens ρ (fl Yl xs)=fl Yl xs:=Vi ρ _ (Yo Je xs)
theorem V4 {ρ:Nat→Nat} (x:Option Zk):(gP Yl x).ren ρ=gP Yl x:=Zd5 ρ _ (Vo Je x)
theorem Ut {k:Nat} (xs:List Zk):G.unders k (fl Yl xs)=true:=Qg _ _ (Yo Je xs)
def Yd (x:Z5):List G:=[.val (.int .i64 x.left)]
theorem Ji:∀ x,G.pures (Yd x)=true:=fun x=>by simp [eI,eB,eS,eL,eP,G.pures,G.pure,Yo,Vo,Yd,Kr,Xl,Xi,Xq,Jl,Zfb,Zd4,Gg,Jh,Je,Y4,Xh,Y6,Xv]
theorem Vl {O O':Objs} {n:Nat} (xs:List Z5):wkl O O' n (fl Yd xs) (fl Yd xs):=Zgs (Yo Ji xs)
theorem Vk {O O':Objs} {n:Nat} (xs:List Z5) (b b':List G):wkl O O' n (fl Yd xs++b) (fl Yd xs++b')=wkl O O' n b b':=Zfg b b' _ (Yo Ji xs)
theorem Vd (xs:List Z5):(fl Yd xs).length=xs.length * 1:=J3 (f:=Yd) (k:=1) (fun _=>rfl) xs
theorem Vh (xs:List Z5):(fl Yd xs).all G.one=true:=Zaq (fun x=>by simp [eI,eB,eS,eL,eP,Zhb,G.one,Value.oneCell',Yd]) xs
theorem Vm {O O':Objs} {n:Nat} (x:Option Z5):wk O O' n (gP Yd x) (gP Yd x)=True:=Zu0 Ji x
theorem Ky {k:Nat} (x:Option Z5):(gP Yd x).under k=true:=Zfe Ji k x
theorem Kw {ρ:Nat→Nat} (xs:List Z5):G.rens ρ (fl Yd xs)=fl Yd xs:=Vi ρ _ (Yo Ji xs)
theorem Kv {ρ:Nat→Nat} (x:Option Z5):(gP Yd x).ren ρ=gP Yd x:=Zd5 ρ _ (Vo Ji x)
theorem Vj {k:Nat} (xs:List Z5):G.unders k (fl Yd xs)=true:=Qg _ _ (Yo Ji xs)
def Yw (x:Zt):List G:=[.val (.int .i64 x.Kind),.val (.int .i64 x.N),.sl x.L.length (fl Zb x.L),.val (.int .i64 x.E.Kind),.val (.int .i64 x.E.Old.Kind),.sl x.E.Old.Words.length (fl (eI .u64) x.E.Old.Words),.sl x.E.Old.Kids.length (fl Zb x.E.Old.Kids),.val (.int .i64 x.E.New.Kind),.sl x.E.New.Words.length (fl (eI .u64) x.E.New.Words),.sl x.E.New.Kids.length (fl Zb x.E.New.Kids),.sl x.E.Words.length (fl Zq x.E.Words),.sl x.E.Kids.length (fl Zp x.E.Kids),.val (.int .i64 x.E.List_),.sl x.E.Ops.length (fl Zx x.E.Ops)]
def Kz (x:Zl):List G:=[.val (.int .i64 x.At),.val (.int .i64 x.E.Kind),.val (.int .i64 x.E.Old.Kind),.sl x.E.Old.Words.length (fl (eI .u64) x.E.Old.Words),.sl x.E.Old.Kids.length (fl Zb x.E.Old.Kids),.val (.int .i64 x.E.New.Kind),.sl x.E.New.Words.length (fl (eI .u64) x.E.New.Words),.sl x.E.New.Kids.length (fl Zb x.E.New.Kids),.sl x.E.Words.length (fl Zq x.E.Words),.sl x.E.Kids.length (fl Zp x.E.Kids),.val (.int .i64 x.E.List_),.sl x.E.Ops.length (fl Zx x.E.Ops)]
def Zg (x:Zf):List G:=[.val (.int .i64 x.Kind),.val (.int .i64 x.Old.Kind),.sl x.Old.Words.length (fl (eI .u64) x.Old.Words),.sl x.Old.Kids.length (fl Zb x.Old.Kids),.val (.int .i64 x.New.Kind),.sl x.New.Words.length (fl (eI .u64) x.New.Words),.sl x.New.Kids.length (fl Zb x.New.Kids),.sl x.Words.length (fl Zq x.Words),.sl x.Kids.length (fl Zp x.Kids),.val (.int .i64 x.List_),.sl x.Ops.length (fl Zx x.Ops)]
def Kf (x:Q0):List G:=[.val (.int .i64 x.P.Kind),.val (.int .i64 x.P.Off),.val (.int .i64 x.P.Data),.val (.int .i64 x.P.Ptrs),.val (.int .i64 x.P.Code),.val (.int .i64 x.P.Count),.val (.int .i64 x.P.Segment),.val (.bool x.P.Double),.val (.int .i64 x.Segment),.val (.int .i64 x.At)]
def Zu (x:Zj):List G:=[(gP Zv x.a),.val (.int .i64 x.kind),.val (.int .i64 x.segment),.val (.int .i64 x.at_),.val (.int .i64 x.words),.val (.int .i64 x.ptrs),.val (.int .i64 x.count),.val (.int .i64 x.code),.val (.int .i64 x.index)]
def Qp (x:Xo):List G:=[.val (.int .i64 x.Kind),.val (.int .i64 x.Off),.val (.int .i64 x.Data),.val (.int .i64 x.Ptrs),.val (.int .i64 x.Code),.val (.int .i64 x.Count),.val (.int .i64 x.Segment),.val (.bool x.Double)]
def Ze (x:Za):List G:=[.val (.int .i64 x.Kind),.sl x.Words.length (fl (eI .u64) x.Words),.sl x.Kids.length (fl Zb x.Kids)]
def Xm (x:X4):List G:=[.val (.int .i64 x.Depth),.val (.int .i64 x.Weight),.val (.int .i64 x.MaxD),.val (.int .i64 x.MaxOut)]
def Uz (x:Zz):List G:=[.val (.int .i64 x.At),.val (.int .u8 x.Mask),.val (.int .u64 x.Old),.val (.int .u64 x.New)]
abbrev vI (x:Int):G := .val (.int .i64 x)
abbrev vB (x:Bool):G := .val (.bool x)
abbrev nV:G := .val (.slice none 0 0)
abbrev sL {α:Type} (e:α→List G) (x:List α):G := .sl x.length (fl e x)
abbrev oR {α:Type} (t s:Nat) (e:α→List G) (x:List α):GObj:=⟨true,t,s,x.length,fl e x⟩
structure Hid (p:Prop):Prop where
 get:p
structure Ar {α:Type} (a:α):Prop where
def Ar.v {α:Type} {a:α} (_:Ar a):α:=a
theorem zQ {A B:Prop} (l0:List Nat) (b:B) (e:Ar l0→Hid B→A:=by intro x0 bZ;refine Zis x0.v (Yu Zs [] ?_);simp only [push_cast,seval,↓reduceIte,Zc,Ar.v,hN0,hN];exact bZ.get):A:=e ⟨⟩ ⟨b⟩
theorem zW {A B:Prop} (b:B) (e:Hid B→A:=by intro bZ;refine Yi4 ?_;(try simp only [Yx,Ya]);exact bZ.get):A:=e ⟨b⟩
theorem X9 {A B:Prop} (l0:List Nat) (l1:List Bool) (b:B) (e:Ar l0→Ar l1→Hid B→A:=by intro x0 x1 bZ;refine Yd1 ?_;(try simp only [Yx,Ya]);refine Zz6 x0.v x1.v ?_;simp only [push_cast,seval,↓reduceIte,Ar.v];exact bZ.get):A:=e ⟨⟩ ⟨⟩ ⟨b⟩
theorem zCd {A B:Prop} {P0:Prop} (p0:P0) (l1:List Nat) (l2:List Bool) (b:B) (e:P0→Ar l1→Ar l2→Hid B→A:=by intro x0 x1 x2 bZ;refine Yu Zs [] ?_;simp only [push_cast,seval,↓reduceIte,Zc,hN0,hN];refine x0.then ?_;simp only [push_cast,seval,↓reduceIte,Zc,hN0,hN];refine Zz6 x1.v x2.v ?_;simp only [push_cast,seval,↓reduceIte,Ar.v];exact bZ.get):A:=e p0 ⟨⟩ ⟨⟩ ⟨b⟩
theorem zQd {A B:Prop} (l0:List Nat) (l1:List Nat) (l2:List Bool) (b:B) (e:Ar l0→Ar l1→Ar l2→Hid B→A:=by intro x0 x1 x2 bZ;refine Zis x0.v (Yu Zs [] ?_);simp only [push_cast,seval,↓reduceIte,Zc,Ar.v,hN0,hN];refine Zz6 x1.v x2.v ?_;simp only [push_cast,seval,↓reduceIte,Ar.v];exact bZ.get):A:=e ⟨⟩ ⟨⟩ ⟨⟩ ⟨b⟩
theorem zRd {A B:Prop} (l0:List Nat) (l1:List Bool) (b:B) (e:Ar l0→Ar l1→Hid B→A:=by intro x0 x1 bZ;refine Yu Zs [] ?_;simp only [push_cast,seval,↓reduceIte,Zc,hN0,hN];refine Zz6 x0.v x1.v ?_;simp only [push_cast,seval,↓reduceIte,Ar.v];exact bZ.get):A:=e ⟨⟩ ⟨⟩ ⟨b⟩
theorem zR {A B:Prop} (b:B) (e:Hid B→A:=by intro bZ;refine Yu Zs [] ?_;simp only [push_cast,seval,↓reduceIte,Zc,hN0,hN];exact bZ.get):A:=e ⟨b⟩
theorem zEn {A:Prop} {P0:Prop} (p0:P0) (e:P0→A:=by intro x0;have h9:=Option.some.inj x0;subst h9;refine And.intro rfl (Fit2.of (Z6 hU rfl rfl ?_) (by omega));simp only [push_cast,seval,↓reduceIte,Zc,hN0,hN]):A:=e p0
theorem zEx {A:Prop} {P0:Prop} (p0:P0) (e:P0→A:=by intro x0;refine Ydy ?_;(try simp only [Yx,Ya,↓reduceIte,Nat.reduceEqDiff]);have h9:=Option.some.inj x0;subst h9;refine And.intro (fun h=>by cases h) (And.intro rfl (Fit2.of (Z6 hU rfl rfl ?_) (by omega)));simp only [push_cast,seval,↓reduceIte,Zc,hN0,hN]):A:=e p0
theorem zD {A B:Prop} (l0:List Nat) (l1:List Bool) (b:B) (e:Ar l0→Ar l1→Hid B→A:=by intro x0 x1 bZ;refine Zz6 x0.v x1.v ?_;simp only [push_cast,seval,↓reduceIte,Ar.v];exact bZ.get):A:=e ⟨⟩ ⟨⟩ ⟨b⟩
theorem zQD {A B:Prop} (l0:List Nat) (l1:List (Option Bool)) (b:B) (e:Ar l0→Ar l1→Hid B→A:=by intro x0 x1 bZ;refine Zis x0.v (Yu Zs x1.v ?_);simp only [push_cast,seval,↓reduceIte,Zc,Ar.v,hN0,hN];(repeat (with_reducible refine And.intro (by first | (intro h0;simp only [h0,and_self];done) | (intro h0;simp only [h0,Bool.not_false,Bool.not_true,Bool.true_and,Bool.and_true,true_and,and_true,and_self,imp_self,implies_true,bne_iff_ne,ne_eq,beq_iff_eq];done) | (intros;simp_all;done) | exact True.intro) ?_));exact bZ.get):A:=e ⟨⟩ ⟨⟩ ⟨b⟩
theorem Zck {A B:Prop} (l0:List (Option Bool)) {P1:Prop} (p1:P1) {P2:Prop} (p2:P2) {P3:Prop} (p3:P3) (b:B) (e:Ar l0→P1→P2→P3→Hid B→A:=by intro x0 x1 x2 x3 bZ;refine Yu Zs x0.v ?_;simp only [push_cast,Nat.reduceAdd,Nat.reduceSub,Nat.reduceMul,Nat.reduceLeDiff,Nat.reduceLT,Nat.reduceEqDiff,↓reduceIte,reduceCtorEq,Int.reduceBEq,Int.reduceBNe,Nat.reduceBEq,Int.reduceLE,Int.reduceLT,Int.reduceEq,Int.reduceNe,Int.reduceNeg,Nat.reduceDiv,Nat.reduceMod,Nat.reducePow,Zc,Ar.v,x1,x2,x3,hN0,hN];exact bZ.get):A:=e ⟨⟩ p1 p2 p3 ⟨b⟩
theorem zDs {A B:Prop} (l0:List Nat) (l1:List Bool) (b:B) (e:Ar l0→Ar l1→Hid B→A:=by intro x0 x1 bZ;refine Zz6 x0.v x1.v ?_;simp only [push_cast,seval,↓reduceIte,Ar.v];refine Zd ?_;exact bZ.get):A:=e ⟨⟩ ⟨⟩ ⟨b⟩
theorem zEy {A:Prop} {P0:Prop} (p0:P0) (e:P0→A:=by intro x0;have h9:=Option.some.inj x0;subst h9;refine And.intro (fun h=>by cases h) (And.intro rfl (Fit2.of (Z6 hU rfl rfl ?_) (by omega)));simp only [push_cast,seval,↓reduceIte,Zc,hN0,hN]):A:=e p0
theorem zX1 {A B:Prop} {P0:Prop} (p0:P0) (b:B) (e:P0→Hid B→A:=by intro x0 bZ;simp only [push_cast,seval,↓reduceIte,Zc,x0,hN0,hN];exact bZ.get):A:=e p0 ⟨b⟩
theorem zG {A B:Prop} (b:B) (e:Hid B→A:=by intro bZ;(repeat (with_reducible refine And.intro (by first | (intro h0;simp only [h0,and_self];done) | (intro h0;simp only [h0,Bool.not_false,Bool.not_true,Bool.true_and,Bool.and_true,true_and,and_true,and_self,imp_self,implies_true,bne_iff_ne,ne_eq,beq_iff_eq];done) | (intros;simp_all;done) | exact True.intro) ?_));exact bZ.get):A:=e ⟨b⟩
theorem Qk {A:Prop} {P0:Prop} (p0:P0) {P1:Prop} (p1:P1) (e:P0→P1→A:=by intro x0 x1;have h9:=Option.some.inj x0;subst h9;refine And.intro rfl (Fit2.of (Z6 hU rfl rfl ?_) (by omega));simp only [push_cast,seval,↓reduceIte,Zc,x1,hN0,hN]):A:=e p0 p1
theorem zX3 {A B:Prop} {P0:Prop} (p0:P0) {P1:Prop} (p1:P1) {P2:Prop} (p2:P2) (b:B) (e:P0→P1→P2→Hid B→A:=by intro x0 x1 x2 bZ;simp only [push_cast,seval,↓reduceIte,Zc,x0,x1,x2,hN0,hN];exact bZ.get):A:=e p0 p1 p2 ⟨b⟩
theorem Zfh {A:Prop} {P0:Prop} (p0:P0) {P1:Prop} (p1:P1) {P2:Prop} (p2:P2) {P3:Prop} (p3:P3) (e:P0→P1→P2→P3→A:=by intro x0 x1 x2 x3;have h9:=Option.some.inj x0;subst h9;refine And.intro rfl (Fit2.of (Z6 hU rfl rfl ?_) (by omega));simp only [push_cast,seval,↓reduceIte,Zc,x1,x2,x3,hN0,hN]):A:=e p0 p1 p2 p3
theorem zF8 {A B:Prop} {P0:Prop} (p0:P0) {P1:Prop} (p1:P1) {P2:Prop} (p2:P2) {P3:Prop} (p3:P3) {P4:Prop} (p4:P4) {P5:Prop} (p5:P5) {P6:Prop} (p6:P6) {P7:Prop} (p7:P7) (b:B) (e:P0→P1→P2→P3→P4→P5→P6→P7→Hid B→A:=by intro x0 x1 x2 x3 x4 x5 x6 x7 bZ;simp only [push_cast,Nat.reduceAdd,Nat.reduceSub,Nat.reduceMul,Nat.reduceLeDiff,Nat.reduceLT,Nat.reduceEqDiff,↓reduceIte,reduceCtorEq,Int.reduceBEq,Int.reduceBNe,Nat.reduceBEq,Int.reduceLE,Int.reduceLT,Int.reduceEq,Int.reduceNe,Int.reduceNeg,Nat.reduceDiv,Nat.reduceMod,Nat.reducePow,Zc,x0,x1,x2,x3,x4,x5,x6,x7,hN0,hN];exact bZ.get):A:=e p0 p1 p2 p3 p4 p5 p6 p7 ⟨b⟩
theorem Ymw {A:Prop} {P0:Prop} (p0:P0) {P1:Prop} (p1:P1) {P2:Prop} (p2:P2) {P3:Prop} (p3:P3) {P4:Prop} (p4:P4) {P5:Prop} (p5:P5) {P6:Prop} (p6:P6) {P7:Prop} (p7:P7) {P8:Prop} (p8:P8) (e:P0→P1→P2→P3→P4→P5→P6→P7→P8→A:=by intro x0 x1 x2 x3 x4 x5 x6 x7 x8;have h9:=Option.some.inj x0;subst h9;refine And.intro rfl (Fit2.of (Z6 hU rfl rfl ?_) (by omega));simp only [push_cast,Nat.reduceAdd,Nat.reduceSub,Nat.reduceMul,Nat.reduceLeDiff,Nat.reduceLT,Nat.reduceEqDiff,↓reduceIte,reduceCtorEq,Int.reduceBEq,Int.reduceBNe,Nat.reduceBEq,Int.reduceLE,Int.reduceLT,Int.reduceEq,Int.reduceNe,Int.reduceNeg,Nat.reduceDiv,Nat.reduceMod,Nat.reducePow,Zc,x1,x2,x3,x4,x5,x6,x7,x8,hN0,hN]):A:=e p0 p1 p2 p3 p4 p5 p6 p7 p8
theorem zX5 {A B:Prop} {P0:Prop} (p0:P0) {P1:Prop} (p1:P1) {P2:Prop} (p2:P2) {P3:Prop} (p3:P3) {P4:Prop} (p4:P4) (b:B) (e:P0→P1→P2→P3→P4→Hid B→A:=by intro x0 x1 x2 x3 x4 bZ;simp only [push_cast,seval,↓reduceIte,Zc,x0,x1,x2,x3,x4,hN0,hN];exact bZ.get):A:=e p0 p1 p2 p3 p4 ⟨b⟩
theorem Z7e {A:Prop} {P0:Prop} (p0:P0) {P1:Prop} (p1:P1) {P2:Prop} (p2:P2) {P3:Prop} (p3:P3) {P4:Prop} (p4:P4) {P5:Prop} (p5:P5) (e:P0→P1→P2→P3→P4→P5→A:=by intro x0 x1 x2 x3 x4 x5;have h9:=Option.some.inj x0;subst h9;refine And.intro rfl (Fit2.of (Z6 hU rfl rfl ?_) (by omega));simp only [push_cast,seval,↓reduceIte,Zc,x1,x2,x3,x4,x5,hN0,hN]):A:=e p0 p1 p2 p3 p4 p5
theorem zX4 {A B:Prop} {P0:Prop} (p0:P0) {P1:Prop} (p1:P1) {P2:Prop} (p2:P2) {P3:Prop} (p3:P3) (b:B) (e:P0→P1→P2→P3→Hid B→A:=by intro x0 x1 x2 x3 bZ;simp only [push_cast,seval,↓reduceIte,Zc,x0,x1,x2,x3,hN0,hN];exact bZ.get):A:=e p0 p1 p2 p3 ⟨b⟩
theorem Zu3 {A:Prop} {P0:Prop} (p0:P0) {P1:Prop} (p1:P1) {P2:Prop} (p2:P2) {P3:Prop} (p3:P3) {P4:Prop} (p4:P4) (e:P0→P1→P2→P3→P4→A:=by intro x0 x1 x2 x3 x4;have h9:=Option.some.inj x0;subst h9;refine And.intro rfl (Fit2.of (Z6 hU rfl rfl ?_) (by omega));simp only [push_cast,seval,↓reduceIte,Zc,x1,x2,x3,x4,hN0,hN]):A:=e p0 p1 p2 p3 p4
theorem zF7 {A B:Prop} {P0:Prop} (p0:P0) {P1:Prop} (p1:P1) {P2:Prop} (p2:P2) {P3:Prop} (p3:P3) {P4:Prop} (p4:P4) {P5:Prop} (p5:P5) {P6:Prop} (p6:P6) (b:B) (e:P0→P1→P2→P3→P4→P5→P6→Hid B→A:=by intro x0 x1 x2 x3 x4 x5 x6 bZ;simp only [push_cast,Nat.reduceAdd,Nat.reduceSub,Nat.reduceMul,Nat.reduceLeDiff,Nat.reduceLT,Nat.reduceEqDiff,↓reduceIte,reduceCtorEq,Int.reduceBEq,Int.reduceBNe,Nat.reduceBEq,Int.reduceLE,Int.reduceLT,Int.reduceEq,Int.reduceNe,Int.reduceNeg,Nat.reduceDiv,Nat.reduceMod,Nat.reducePow,Zc,x0,x1,x2,x3,x4,x5,x6,hN0,hN];exact bZ.get):A:=e p0 p1 p2 p3 p4 p5 p6 ⟨b⟩
theorem Yhz {A:Prop} {P0:Prop} (p0:P0) {P1:Prop} (p1:P1) {P2:Prop} (p2:P2) {P3:Prop} (p3:P3) {P4:Prop} (p4:P4) {P5:Prop} (p5:P5) {P6:Prop} (p6:P6) {P7:Prop} (p7:P7) (e:P0→P1→P2→P3→P4→P5→P6→P7→A:=by intro x0 x1 x2 x3 x4 x5 x6 x7;have h9:=Option.some.inj x0;subst h9;refine And.intro rfl (Fit2.of (Z6 hU rfl rfl ?_) (by omega));simp only [push_cast,Nat.reduceAdd,Nat.reduceSub,Nat.reduceMul,Nat.reduceLeDiff,Nat.reduceLT,Nat.reduceEqDiff,↓reduceIte,reduceCtorEq,Int.reduceBEq,Int.reduceBNe,Nat.reduceBEq,Int.reduceLE,Int.reduceLT,Int.reduceEq,Int.reduceNe,Int.reduceNeg,Nat.reduceDiv,Nat.reduceMod,Nat.reducePow,Zc,x1,x2,x3,x4,x5,x6,x7,hN0,hN]):A:=e p0 p1 p2 p3 p4 p5 p6 p7
theorem Z1m {A B:Prop} (l0:List (Option Bool)) {P1:Prop} (p1:P1) {P2:Prop} (p2:P2) {P3:Prop} (p3:P3) {P4:Prop} (p4:P4) (b:B) (e:Ar l0→P1→P2→P3→P4→Hid B→A:=by intro x0 x1 x2 x3 x4 bZ;refine Yu Zs x0.v ?_;simp only [push_cast,Nat.reduceAdd,Nat.reduceSub,Nat.reduceMul,Nat.reduceLeDiff,Nat.reduceLT,Nat.reduceEqDiff,↓reduceIte,reduceCtorEq,Int.reduceBEq,Int.reduceBNe,Nat.reduceBEq,Int.reduceLE,Int.reduceLT,Int.reduceEq,Int.reduceNe,Int.reduceNeg,Nat.reduceDiv,Nat.reduceMod,Nat.reducePow,Zc,Ar.v,x1,x2,x3,x4,hN0,hN];exact bZ.get):A:=e ⟨⟩ p1 p2 p3 p4 ⟨b⟩
theorem Ygd {A:Prop} {P0:Prop} (p0:P0) {P1:Prop} (p1:P1) {P2:Prop} (p2:P2) {P3:Prop} (p3:P3) {P4:Prop} (p4:P4) (e:P0→P1→P2→P3→P4→A:=by intro x0 x1 x2 x3 x4;have h9:=Option.some.inj x0;subst h9;refine And.intro rfl (Fit2.of (Z6 hU rfl rfl ?_) (by omega));simp only [push_cast,Nat.reduceAdd,Nat.reduceSub,Nat.reduceMul,Nat.reduceLeDiff,Nat.reduceLT,Nat.reduceEqDiff,↓reduceIte,reduceCtorEq,Int.reduceBEq,Int.reduceBNe,Nat.reduceBEq,Int.reduceLE,Int.reduceLT,Int.reduceEq,Int.reduceNe,Int.reduceNeg,Nat.reduceDiv,Nat.reduceMod,Nat.reducePow,Zc,x1,x2,x3,x4,hN0,hN]):A:=e p0 p1 p2 p3 p4
theorem Q7 {A B:Prop} (l0:List (Option Bool)) {P1:Prop} (p1:P1) (b:B) (e:Ar l0→P1→Hid B→A:=by intro x0 x1 bZ;refine Yu Zs x0.v ?_;simp only [push_cast,seval,↓reduceIte,Zc,Ar.v,x1,hN0,hN];exact bZ.get):A:=e ⟨⟩ p1 ⟨b⟩
theorem Ym3 {A B:Prop} (l0:List (Option Bool)) {P1:Prop} (p1:P1) {P2:Prop} (p2:P2) {P3:Prop} (p3:P3) {P4:Prop} (p4:P4) {P5:Prop} (p5:P5) {P6:Prop} (p6:P6) {P7:Prop} (p7:P7) (b:B) (e:Ar l0→P1→P2→P3→P4→P5→P6→P7→Hid B→A:=by intro x0 x1 x2 x3 x4 x5 x6 x7 bZ;refine Yu Zs x0.v ?_;simp only [push_cast,seval,↓reduceIte,Zc,Ar.v,x1,x2,x3,x4,x5,x6,x7,hN0,hN];exact bZ.get):A:=e ⟨⟩ p1 p2 p3 p4 p5 p6 p7 ⟨b⟩
theorem zSe {A:Prop} (e:A:=by simp only [push_cast,seval,↓reduceIte,Zc,hN0,hN]):A:=e
theorem zF3 {A B:Prop} {P0:Prop} (p0:P0) {P1:Prop} (p1:P1) {P2:Prop} (p2:P2) (b:B) (e:P0→P1→P2→Hid B→A:=by intro x0 x1 x2 bZ;simp only [push_cast,Nat.reduceAdd,Nat.reduceSub,Nat.reduceMul,Nat.reduceLeDiff,Nat.reduceLT,Nat.reduceEqDiff,↓reduceIte,reduceCtorEq,Int.reduceBEq,Int.reduceBNe,Nat.reduceBEq,Int.reduceLE,Int.reduceLT,Int.reduceEq,Int.reduceNe,Int.reduceNeg,Nat.reduceDiv,Nat.reduceMod,Nat.reducePow,Zc,x0,x1,x2,hN0,hN];exact bZ.get):A:=e p0 p1 p2 ⟨b⟩
theorem Zap {A B:Prop} (l0:List (Option Bool)) {P1:Prop} (p1:P1) {P2:Prop} (p2:P2) {P3:Prop} (p3:P3) (b:B) (e:Ar l0→P1→P2→P3→Hid B→A:=by intro x0 x1 x2 x3 bZ;refine Yu Zs x0.v ?_;simp only [push_cast,seval,↓reduceIte,Zc,Ar.v,x1,x2,x3,hN0,hN];exact bZ.get):A:=e ⟨⟩ p1 p2 p3 ⟨b⟩
theorem Znt {A:Prop} {P0:Prop} (p0:P0) {P1:Prop} (p1:P1) {P2:Prop} (p2:P2) (e:P0→P1→P2→A:=by intro x0 x1 x2;simp only [push_cast,seval,↓reduceIte,Zc,x0,x1,x2,hN0,hN]):A:=e p0 p1 p2
theorem zK {A B:Prop} (b:B) (e:Hid B→A:=by intro bZ;refine Yd1 ?_;(try simp only [Yx,Ya]);exact bZ.get):A:=e ⟨b⟩
theorem zRo {A B:Prop} (l0:List (Option Bool)) (b:B) (e:Ar l0→Hid B→A:=by intro x0 bZ;refine Yu Zs x0.v ?_;simp only [push_cast,seval,↓reduceIte,Zc,Ar.v,hN0,hN];exact bZ.get):A:=e ⟨⟩ ⟨b⟩
theorem zTs {A B:Prop} {P0:Prop} (p0:P0) (b:B) (e:P0→Hid B→A:=by intro x0 bZ;refine x0.then ?_;simp only [push_cast,seval,↓reduceIte,Zc,hN0,hN];exact bZ.get):A:=e p0 ⟨b⟩
theorem zF4 {A B:Prop} {P0:Prop} (p0:P0) {P1:Prop} (p1:P1) {P2:Prop} (p2:P2) {P3:Prop} (p3:P3) (b:B) (e:P0→P1→P2→P3→Hid B→A:=by intro x0 x1 x2 x3 bZ;simp only [push_cast,Nat.reduceAdd,Nat.reduceSub,Nat.reduceMul,Nat.reduceLeDiff,Nat.reduceLT,Nat.reduceEqDiff,↓reduceIte,reduceCtorEq,Int.reduceBEq,Int.reduceBNe,Nat.reduceBEq,Int.reduceLE,Int.reduceLT,Int.reduceEq,Int.reduceNe,Int.reduceNeg,Nat.reduceDiv,Nat.reduceMod,Nat.reducePow,Zc,x0,x1,x2,x3,hN0,hN];exact bZ.get):A:=e p0 p1 p2 p3 ⟨b⟩
theorem Yh1 {A B:Prop} (l0:List (Option Bool)) {P1:Prop} (p1:P1) {P2:Prop} (p2:P2) {P3:Prop} (p3:P3) {P4:Prop} (p4:P4) {P5:Prop} (p5:P5) {P6:Prop} (p6:P6) {P7:Prop} (p7:P7) (b:B) (e:Ar l0→P1→P2→P3→P4→P5→P6→P7→Hid B→A:=by intro x0 x1 x2 x3 x4 x5 x6 x7 bZ;refine Yu Zs x0.v ?_;simp only [push_cast,Nat.reduceAdd,Nat.reduceSub,Nat.reduceMul,Nat.reduceLeDiff,Nat.reduceLT,Nat.reduceEqDiff,↓reduceIte,reduceCtorEq,Int.reduceBEq,Int.reduceBNe,Nat.reduceBEq,Int.reduceLE,Int.reduceLT,Int.reduceEq,Int.reduceNe,Int.reduceNeg,Nat.reduceDiv,Nat.reduceMod,Nat.reducePow,Zc,Ar.v,x1,x2,x3,x4,x5,x6,x7,hN0,hN];exact bZ.get):A:=e ⟨⟩ p1 p2 p3 p4 p5 p6 p7 ⟨b⟩
theorem zS {A B:Prop} (b:B) (e:Hid B→A:=by intro bZ;simp only [push_cast,seval,↓reduceIte,Zc,hN0,hN];exact bZ.get):A:=e ⟨b⟩
theorem zC {A B:Prop} {P0:Prop} (p0:P0) (b:B) (e:P0→Hid B→A:=by intro x0 bZ;refine Yu Zs [] ?_;simp only [push_cast,seval,↓reduceIte,Zc,hN0,hN];refine x0.then ?_;simp only [push_cast,seval,↓reduceIte,Zc,hN0,hN];exact bZ.get):A:=e p0 ⟨b⟩
theorem Ym0 {A B:Prop} (l0:List Nat) {P1:Prop} (p1:P1) (b:B) (e:Ar l0→P1→Hid B→A:=by intro x0 x1 bZ;refine Zis x0.v (Yu Zs [] ?_);simp only [push_cast,seval,↓reduceIte,Zc,Ar.v,x1,hN0,hN];exact bZ.get):A:=e ⟨⟩ p1 ⟨b⟩
theorem X2 {A B:Prop} (l0:List (Option Bool)) {P1:Prop} (p1:P1) {P2:Prop} (p2:P2) (b:B) (e:Ar l0→P1→P2→Hid B→A:=by intro x0 x1 x2 bZ;refine Yu Zs x0.v ?_;simp only [push_cast,seval,↓reduceIte,Zc,Ar.v,x1,x2,hN0,hN];exact bZ.get):A:=e ⟨⟩ p1 p2 ⟨b⟩
theorem Zp9 {A B:Prop} (l0:List (Option Bool)) {P1:Prop} (p1:P1) {P2:Prop} (p2:P2) {P3:Prop} (p3:P3) {P4:Prop} (p4:P4) (b:B) (e:Ar l0→P1→P2→P3→P4→Hid B→A:=by intro x0 x1 x2 x3 x4 bZ;refine Yu Zs x0.v ?_;simp only [push_cast,seval,↓reduceIte,Zc,Ar.v,x1,x2,x3,x4,hN0,hN];exact bZ.get):A:=e ⟨⟩ p1 p2 p3 p4 ⟨b⟩
theorem Q9 {A:Prop} {P0:Prop} (p0:P0) {P1:Prop} (p1:P1) (e:P0→P1→A:=by intro x0 x1;simp only [push_cast,seval,↓reduceIte,Zc,x0,x1,hN0,hN]):A:=e p0 p1
theorem zX2 {A B:Prop} {P0:Prop} (p0:P0) {P1:Prop} (p1:P1) (b:B) (e:P0→P1→Hid B→A:=by intro x0 x1 bZ;simp only [push_cast,seval,↓reduceIte,Zc,x0,x1,hN0,hN];exact bZ.get):A:=e p0 p1 ⟨b⟩
theorem Zcj {A:Prop} {P0:Prop} (p0:P0) {P1:Prop} (p1:P1) {P2:Prop} (p2:P2) (e:P0→P1→P2→A:=by intro x0 x1 x2;have h9:=Option.some.inj x0;subst h9;refine And.intro rfl (Fit2.of (Z6 hU rfl rfl ?_) (by omega));simp only [push_cast,seval,↓reduceIte,Zc,x1,x2,hN0,hN]):A:=e p0 p1 p2
theorem Yiz {A:Prop} {P0:Prop} (p0:P0) {P1:Prop} (p1:P1) {P2:Prop} (p2:P2) {P3:Prop} (p3:P3) (e:P0→P1→P2→P3→A:=by intro x0 x1 x2 x3;simp only [push_cast,seval,↓reduceIte,Zc,x0,x1,x2,x3,hN0,hN]):A:=e p0 p1 p2 p3
theorem Ya9 {A B:Prop} (l0:List (Option Bool)) {P1:Prop} (p1:P1) {P2:Prop} (p2:P2) {P3:Prop} (p3:P3) {P4:Prop} (p4:P4) {P5:Prop} (p5:P5) (b:B) (e:Ar l0→P1→P2→P3→P4→P5→Hid B→A:=by intro x0 x1 x2 x3 x4 x5 bZ;refine Yu Zs x0.v ?_;simp only [push_cast,Nat.reduceAdd,Nat.reduceSub,Nat.reduceMul,Nat.reduceLeDiff,Nat.reduceLT,Nat.reduceEqDiff,↓reduceIte,reduceCtorEq,Int.reduceBEq,Int.reduceBNe,Nat.reduceBEq,Int.reduceLE,Int.reduceLT,Int.reduceEq,Int.reduceNe,Int.reduceNeg,Nat.reduceDiv,Nat.reduceMod,Nat.reducePow,Zc,Ar.v,x1,x2,x3,x4,x5,hN0,hN];exact bZ.get):A:=e ⟨⟩ p1 p2 p3 p4 p5 ⟨b⟩
theorem zF5 {A B:Prop} {P0:Prop} (p0:P0) {P1:Prop} (p1:P1) {P2:Prop} (p2:P2) {P3:Prop} (p3:P3) {P4:Prop} (p4:P4) (b:B) (e:P0→P1→P2→P3→P4→Hid B→A:=by intro x0 x1 x2 x3 x4 bZ;simp only [push_cast,Nat.reduceAdd,Nat.reduceSub,Nat.reduceMul,Nat.reduceLeDiff,Nat.reduceLT,Nat.reduceEqDiff,↓reduceIte,reduceCtorEq,Int.reduceBEq,Int.reduceBNe,Nat.reduceBEq,Int.reduceLE,Int.reduceLT,Int.reduceEq,Int.reduceNe,Int.reduceNeg,Nat.reduceDiv,Nat.reduceMod,Nat.reducePow,Zc,x0,x1,x2,x3,x4,hN0,hN];exact bZ.get):A:=e p0 p1 p2 p3 p4 ⟨b⟩
theorem Yhy {A:Prop} {P0:Prop} (p0:P0) {P1:Prop} (p1:P1) {P2:Prop} (p2:P2) {P3:Prop} (p3:P3) {P4:Prop} (p4:P4) {P5:Prop} (p5:P5) (e:P0→P1→P2→P3→P4→P5→A:=by intro x0 x1 x2 x3 x4 x5;have h9:=Option.some.inj x0;subst h9;refine And.intro rfl (Fit2.of (Z6 hU rfl rfl ?_) (by omega));simp only [push_cast,Nat.reduceAdd,Nat.reduceSub,Nat.reduceMul,Nat.reduceLeDiff,Nat.reduceLT,Nat.reduceEqDiff,↓reduceIte,reduceCtorEq,Int.reduceBEq,Int.reduceBNe,Nat.reduceBEq,Int.reduceLE,Int.reduceLT,Int.reduceEq,Int.reduceNe,Int.reduceNeg,Nat.reduceDiv,Nat.reduceMod,Nat.reducePow,Zc,x1,x2,x3,x4,x5,hN0,hN]):A:=e p0 p1 p2 p3 p4 p5
theorem Ydx {A:Prop} {P0:Prop} (p0:P0) (e:P0→A:=by intro x0;simp only [push_cast,seval,↓reduceIte,Zc,x0,hN0,hN]):A:=e p0
theorem zXt {A B:Prop} (b:B) (e:Hid B→A:=by intro bZ;refine Ydy ?_;(try simp only [Yx,Ya,↓reduceIte,Nat.reduceEqDiff]);exact bZ.get):A:=e ⟨b⟩
theorem Yh2 {A B:Prop} (l0:List (Option Bool)) {P1:Prop} (p1:P1) {P2:Prop} (p2:P2) {P3:Prop} (p3:P3) {P4:Prop} (p4:P4) {P5:Prop} (p5:P5) {P6:Prop} (p6:P6) (b:B) (e:Ar l0→P1→P2→P3→P4→P5→P6→Hid B→A:=by intro x0 x1 x2 x3 x4 x5 x6 bZ;refine Yu Zs x0.v ?_;simp only [push_cast,seval,↓reduceIte,Zc,Ar.v,x1,x2,x3,x4,x5,x6,hN0,hN];exact bZ.get):A:=e ⟨⟩ p1 p2 p3 p4 p5 p6 ⟨b⟩
theorem Yh0 {A:Prop} {P0:Prop} (p0:P0) {P1:Prop} (p1:P1) {P2:Prop} (p2:P2) {P3:Prop} (p3:P3) {P4:Prop} (p4:P4) {P5:Prop} (p5:P5) {P6:Prop} (p6:P6) (e:P0→P1→P2→P3→P4→P5→P6→A:=by intro x0 x1 x2 x3 x4 x5 x6;have h9:=Option.some.inj x0;subst h9;refine And.intro rfl (Fit2.of (Z6 hU rfl rfl ?_) (by omega));simp only [push_cast,seval,↓reduceIte,Zc,x1,x2,x3,x4,x5,x6,hN0,hN]):A:=e p0 p1 p2 p3 p4 p5 p6
theorem zX6 {A B:Prop} {P0:Prop} (p0:P0) {P1:Prop} (p1:P1) {P2:Prop} (p2:P2) {P3:Prop} (p3:P3) {P4:Prop} (p4:P4) {P5:Prop} (p5:P5) (b:B) (e:P0→P1→P2→P3→P4→P5→Hid B→A:=by intro x0 x1 x2 x3 x4 x5 bZ;simp only [push_cast,seval,↓reduceIte,Zc,x0,x1,x2,x3,x4,x5,hN0,hN];exact bZ.get):A:=e p0 p1 p2 p3 p4 p5 ⟨b⟩
theorem Z7f {A B:Prop} (l0:List (Option Bool)) {P1:Prop} (p1:P1) {P2:Prop} (p2:P2) {P3:Prop} (p3:P3) {P4:Prop} (p4:P4) {P5:Prop} (p5:P5) (b:B) (e:Ar l0→P1→P2→P3→P4→P5→Hid B→A:=by intro x0 x1 x2 x3 x4 x5 bZ;refine Yu Zs x0.v ?_;simp only [push_cast,seval,↓reduceIte,Zc,Ar.v,x1,x2,x3,x4,x5,hN0,hN];exact bZ.get):A:=e ⟨⟩ p1 p2 p3 p4 p5 ⟨b⟩
theorem zEf {A:Prop} (e:A:=by refine And.intro rfl (Fit2.of (Z6 hU rfl rfl ?_) (by omega));simp only [push_cast,seval,↓reduceIte,Zc,hN0,hN]):A:=e
theorem Ymv {A:Prop} {P0:Prop} (p0:P0) {P1:Prop} (p1:P1) {P2:Prop} (p2:P2) (e:P0→P1→P2→A:=by intro x0 x1 x2;refine And.intro rfl (Fit2.of (Z6 hU rfl rfl ?_) (by omega));simp only [push_cast,seval,↓reduceIte,Zc,x0,x1,x2,hN0,hN]):A:=e p0 p1 p2
theorem Ym1 {A B:Prop} (l0:List Nat) {P1:Prop} (p1:P1) {P2:Prop} (p2:P2) {P3:Prop} (p3:P3) {P4:Prop} (p4:P4) (b:B) (e:Ar l0→P1→P2→P3→P4→Hid B→A:=by intro x0 x1 x2 x3 x4 bZ;refine Zis x0.v (Yu Zs [] ?_);simp only [push_cast,seval,↓reduceIte,Zc,Ar.v,x1,x2,x3,x4,hN0,hN];exact bZ.get):A:=e ⟨⟩ p1 p2 p3 p4 ⟨b⟩
theorem Zcl {A B:Prop} (l0:List Nat) {P1:Prop} (p1:P1) {P2:Prop} (p2:P2) (b:B) (e:Ar l0→P1→P2→Hid B→A:=by intro x0 x1 x2 bZ;refine Zis x0.v (Yu Zs [] ?_);simp only [push_cast,seval,↓reduceIte,Zc,Ar.v,x1,x2,hN0,hN];exact bZ.get):A:=e ⟨⟩ p1 p2 ⟨b⟩
theorem zF6 {A B:Prop} {P0:Prop} (p0:P0) {P1:Prop} (p1:P1) {P2:Prop} (p2:P2) {P3:Prop} (p3:P3) {P4:Prop} (p4:P4) {P5:Prop} (p5:P5) (b:B) (e:P0→P1→P2→P3→P4→P5→Hid B→A:=by intro x0 x1 x2 x3 x4 x5 bZ;simp only [push_cast,Nat.reduceAdd,Nat.reduceSub,Nat.reduceMul,Nat.reduceLeDiff,Nat.reduceLT,Nat.reduceEqDiff,↓reduceIte,reduceCtorEq,Int.reduceBEq,Int.reduceBNe,Nat.reduceBEq,Int.reduceLE,Int.reduceLT,Int.reduceEq,Int.reduceNe,Int.reduceNeg,Nat.reduceDiv,Nat.reduceMod,Nat.reducePow,Zc,x0,x1,x2,x3,x4,x5,hN0,hN];exact bZ.get):A:=e p0 p1 p2 p3 p4 p5 ⟨b⟩
theorem zO {A B:Prop} (b:B) (e:Hid B→A:=by intro bZ;(repeat (with_reducible refine And.intro (by first | omega | exact Xb rfl | exact Yv | exact Yc8 rfl | exact Z8s rfl rfl | exact X5 rfl | exact Xu rfl) ?_));exact bZ.get):A:=e ⟨b⟩
theorem Yiy {A:Prop} {P0:Prop} (p0:P0) {P1:Prop} (p1:P1) {P2:Prop} (p2:P2) {P3:Prop} (p3:P3) {P4:Prop} (p4:P4) {P5:Prop} (p5:P5) (e:P0→P1→P2→P3→P4→P5→A:=by intro x0 x1 x2 x3 x4 x5;simp only [push_cast,Nat.reduceAdd,Nat.reduceSub,Nat.reduceMul,Nat.reduceLeDiff,Nat.reduceLT,Nat.reduceEqDiff,↓reduceIte,reduceCtorEq,Int.reduceBEq,Int.reduceBNe,Nat.reduceBEq,Int.reduceLE,Int.reduceLT,Int.reduceEq,Int.reduceNe,Int.reduceNeg,Nat.reduceDiv,Nat.reduceMod,Nat.reducePow,Zc,x0,x1,x2,x3,x4,x5,hN0,hN]):A:=e p0 p1 p2 p3 p4 p5
theorem Ym2 {A B:Prop} (l0:List (Option Bool)) {P1:Prop} (p1:P1) {P2:Prop} (p2:P2) {P3:Prop} (p3:P3) {P4:Prop} (p4:P4) {P5:Prop} (p5:P5) {P6:Prop} (p6:P6) {P7:Prop} (p7:P7) {P8:Prop} (p8:P8) (b:B) (e:Ar l0→P1→P2→P3→P4→P5→P6→P7→P8→Hid B→A:=by intro x0 x1 x2 x3 x4 x5 x6 x7 x8 bZ;refine Yu Zs x0.v ?_;simp only [push_cast,Nat.reduceAdd,Nat.reduceSub,Nat.reduceMul,Nat.reduceLeDiff,Nat.reduceLT,Nat.reduceEqDiff,↓reduceIte,reduceCtorEq,Int.reduceBEq,Int.reduceBNe,Nat.reduceBEq,Int.reduceLE,Int.reduceLT,Int.reduceEq,Int.reduceNe,Int.reduceNeg,Nat.reduceDiv,Nat.reduceMod,Nat.reducePow,Zc,Ar.v,x1,x2,x3,x4,x5,x6,x7,x8,hN0,hN];exact bZ.get):A:=e ⟨⟩ p1 p2 p3 p4 p5 p6 p7 p8 ⟨b⟩
theorem Yhx {A:Prop} {P0:Prop} (p0:P0) {P1:Prop} (p1:P1) {P2:Prop} (p2:P2) {P3:Prop} (p3:P3) {P4:Prop} (p4:P4) {P5:Prop} (p5:P5) (e:P0→P1→P2→P3→P4→P5→A:=by intro x0 x1 x2 x3 x4 x5;refine And.intro rfl (Fit2.of (Z6 hU rfl rfl ?_) (by omega));simp only [push_cast,Nat.reduceAdd,Nat.reduceSub,Nat.reduceMul,Nat.reduceLeDiff,Nat.reduceLT,Nat.reduceEqDiff,↓reduceIte,reduceCtorEq,Int.reduceBEq,Int.reduceBNe,Nat.reduceBEq,Int.reduceLE,Int.reduceLT,Int.reduceEq,Int.reduceNe,Int.reduceNeg,Nat.reduceDiv,Nat.reduceMod,Nat.reducePow,Zc,x0,x1,x2,x3,x4,x5,hN0,hN]):A:=e p0 p1 p2 p3 p4 p5
theorem Ym4 {A:Prop} {P0:Prop} (p0:P0) {P1:Prop} (p1:P1) {P2:Prop} (p2:P2) {P3:Prop} (p3:P3) {P4:Prop} (p4:P4) (e:P0→P1→P2→P3→P4→A:=by intro x0 x1 x2 x3 x4;simp only [push_cast,seval,↓reduceIte,Zc,x0,x1,x2,x3,x4,hN0,hN]):A:=e p0 p1 p2 p3 p4
theorem Ymu {A:Prop} {P0:Prop} (p0:P0) {P1:Prop} (p1:P1) {P2:Prop} (p2:P2) {P3:Prop} (p3:P3) {P4:Prop} (p4:P4) {P5:Prop} (p5:P5) {P6:Prop} (p6:P6) {P7:Prop} (p7:P7) (e:P0→P1→P2→P3→P4→P5→P6→P7→A:=by intro x0 x1 x2 x3 x4 x5 x6 x7;refine And.intro rfl (Fit2.of (Z6 hU rfl rfl ?_) (by omega));simp only [push_cast,Nat.reduceAdd,Nat.reduceSub,Nat.reduceMul,Nat.reduceLeDiff,Nat.reduceLT,Nat.reduceEqDiff,↓reduceIte,reduceCtorEq,Int.reduceBEq,Int.reduceBNe,Nat.reduceBEq,Int.reduceLE,Int.reduceLT,Int.reduceEq,Int.reduceNe,Int.reduceNeg,Nat.reduceDiv,Nat.reduceMod,Nat.reducePow,Zc,x0,x1,x2,x3,x4,x5,x6,x7,hN0,hN]):A:=e p0 p1 p2 p3 p4 p5 p6 p7
theorem Ymz {A:Prop} {P0:Prop} (p0:P0) {P1:Prop} (p1:P1) {P2:Prop} (p2:P2) {P3:Prop} (p3:P3) {P4:Prop} (p4:P4) {P5:Prop} (p5:P5) {P6:Prop} (p6:P6) {P7:Prop} (p7:P7) (e:P0→P1→P2→P3→P4→P5→P6→P7→A:=by intro x0 x1 x2 x3 x4 x5 x6 x7;simp only [push_cast,Nat.reduceAdd,Nat.reduceSub,Nat.reduceMul,Nat.reduceLeDiff,Nat.reduceLT,Nat.reduceEqDiff,↓reduceIte,reduceCtorEq,Int.reduceBEq,Int.reduceBNe,Nat.reduceBEq,Int.reduceLE,Int.reduceLT,Int.reduceEq,Int.reduceNe,Int.reduceNeg,Nat.reduceDiv,Nat.reduceMod,Nat.reducePow,Zc,x0,x1,x2,x3,x4,x5,x6,x7,hN0,hN]):A:=e p0 p1 p2 p3 p4 p5 p6 p7
theorem zF9 {A B:Prop} {P0:Prop} (p0:P0) {P1:Prop} (p1:P1) {P2:Prop} (p2:P2) {P3:Prop} (p3:P3) {P4:Prop} (p4:P4) {P5:Prop} (p5:P5) {P6:Prop} (p6:P6) {P7:Prop} (p7:P7) {P8:Prop} (p8:P8) (b:B) (e:P0→P1→P2→P3→P4→P5→P6→P7→P8→Hid B→A:=by intro x0 x1 x2 x3 x4 x5 x6 x7 x8 bZ;simp only [push_cast,Nat.reduceAdd,Nat.reduceSub,Nat.reduceMul,Nat.reduceLeDiff,Nat.reduceLT,Nat.reduceEqDiff,↓reduceIte,reduceCtorEq,Int.reduceBEq,Int.reduceBNe,Nat.reduceBEq,Int.reduceLE,Int.reduceLT,Int.reduceEq,Int.reduceNe,Int.reduceNeg,Nat.reduceDiv,Nat.reduceMod,Nat.reducePow,Zc,x0,x1,x2,x3,x4,x5,x6,x7,x8,hN0,hN];exact bZ.get):A:=e p0 p1 p2 p3 p4 p5 p6 p7 p8 ⟨b⟩
theorem Yor {A:Prop} {P0:Prop} (p0:P0) {P1:Prop} (p1:P1) {P2:Prop} (p2:P2) {P3:Prop} (p3:P3) {P4:Prop} (p4:P4) {P5:Prop} (p5:P5) {P6:Prop} (p6:P6) {P7:Prop} (p7:P7) {P8:Prop} (p8:P8) (e:P0→P1→P2→P3→P4→P5→P6→P7→P8→A:=by intro x0 x1 x2 x3 x4 x5 x6 x7 x8;simp only [push_cast,Nat.reduceAdd,Nat.reduceSub,Nat.reduceMul,Nat.reduceLeDiff,Nat.reduceLT,Nat.reduceEqDiff,↓reduceIte,reduceCtorEq,Int.reduceBEq,Int.reduceBNe,Nat.reduceBEq,Int.reduceLE,Int.reduceLT,Int.reduceEq,Int.reduceNe,Int.reduceNeg,Nat.reduceDiv,Nat.reduceMod,Nat.reducePow,Zc,x0,x1,x2,x3,x4,x5,x6,x7,x8,hN0,hN]):A:=e p0 p1 p2 p3 p4 p5 p6 p7 p8
theorem Ymx {A B:Prop} {P0:Prop} (p0:P0) {P1:Prop} (p1:P1) {P2:Prop} (p2:P2) {P3:Prop} (p3:P3) {P4:Prop} (p4:P4) {P5:Prop} (p5:P5) {P6:Prop} (p6:P6) {P7:Prop} (p7:P7) {P8:Prop} (p8:P8) {P9:Prop} (p9:P9) {P10:Prop} (p10:P10) (b:B) (e:P0→P1→P2→P3→P4→P5→P6→P7→P8→P9→P10→Hid B→A:=by intro x0 x1 x2 x3 x4 x5 x6 x7 x8 x9 x10 bZ;simp only [push_cast,Nat.reduceAdd,Nat.reduceSub,Nat.reduceMul,Nat.reduceLeDiff,Nat.reduceLT,Nat.reduceEqDiff,↓reduceIte,reduceCtorEq,Int.reduceBEq,Int.reduceBNe,Nat.reduceBEq,Int.reduceLE,Int.reduceLT,Int.reduceEq,Int.reduceNe,Int.reduceNeg,Nat.reduceDiv,Nat.reduceMod,Nat.reducePow,Zc,x0,x1,x2,x3,x4,x5,x6,x7,x8,x9,x10,hN0,hN];exact bZ.get):A:=e p0 p1 p2 p3 p4 p5 p6 p7 p8 p9 p10 ⟨b⟩
theorem Ymy {A:Prop} {P0:Prop} (p0:P0) {P1:Prop} (p1:P1) {P2:Prop} (p2:P2) {P3:Prop} (p3:P3) {P4:Prop} (p4:P4) {P5:Prop} (p5:P5) {P6:Prop} (p6:P6) {P7:Prop} (p7:P7) {P8:Prop} (p8:P8) {P9:Prop} (p9:P9) {P10:Prop} (p10:P10) (e:P0→P1→P2→P3→P4→P5→P6→P7→P8→P9→P10→A:=by intro x0 x1 x2 x3 x4 x5 x6 x7 x8 x9 x10;simp only [push_cast,Nat.reduceAdd,Nat.reduceSub,Nat.reduceMul,Nat.reduceLeDiff,Nat.reduceLT,Nat.reduceEqDiff,↓reduceIte,reduceCtorEq,Int.reduceBEq,Int.reduceBNe,Nat.reduceBEq,Int.reduceLE,Int.reduceLT,Int.reduceEq,Int.reduceNe,Int.reduceNeg,Nat.reduceDiv,Nat.reduceMod,Nat.reducePow,Zc,x0,x1,x2,x3,x4,x5,x6,x7,x8,x9,x10,hN0,hN]):A:=e p0 p1 p2 p3 p4 p5 p6 p7 p8 p9 p10
end Go.Proofs.YtmlcnhambfkjaaaGreat
