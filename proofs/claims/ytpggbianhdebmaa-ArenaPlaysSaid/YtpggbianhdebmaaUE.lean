/- Part UE of this seat's mirrors: functions of the seat's program, and the plain functions that they are; each theorem bears its own conditions. -/
import Derived.Test.YtpggbianhdebmaaTy
import Derived.Test.YtpggbianhdebmaaUD
namespace Go.Proofs.Ytpggbianhdebmaa
open Go.RowKit
set_option linter.unusedVariables false
set_option linter.unusedSimpArgs false
set_option maxRecDepth 100000
set_option maxHeartbeats 4000000
def Zd (x:Zq):List G:=[.val (.int .i64 x.Kind),.val (.int .i64 x.S),.val (.int .i64 x.At),.val (.int .i64 x.N),.val (.int .u64 x.W)]
theorem Zx:∀ x,G.pures (Zd x)=true:=fun x=>by simp [eI,eB,eS,eL,eP,G.pures,G.pure,Z8,Uq,Zd]
theorem Yp {O O':Objs} {n:Nat} (xs:List Zq):Q4 O O' n (fl Zd xs) (fl Zd xs):=Y7 (Z8 Zx xs)
theorem Yo {O O':Objs} {n:Nat} (xs:List Zq) (b b':List G):Q4 O O' n (fl Zd xs++b) (fl Zd xs++b')=Q4 O O' n b b':=Zeb b b' _ (Z8 Zx xs)
theorem Yl (xs:List Zq):(fl Zd xs).length=xs.length * 5:=Qw (f:=Zd) (k:=5) (fun _=>rfl) xs
theorem Ym (xs:List Zq):(fl Zd xs).all G.one=true:=Kb (fun x=>by simp [eI,eB,eS,eL,eP,U6,G.one,Value.oneCell',Zd]) xs
theorem Yq {O O':Objs} {n:Nat} (x:Option Zq):wk O O' n (gP Zd x) (gP Zd x)=True:=Znn Zx x
theorem Ye {k:Nat} (x:Option Zq):(gP Zd x).under k=true:=Zea Zx k x
theorem Zz {ρ:Nat→Nat} (xs:List Zq):G.rens ρ (fl Zd xs)=fl Zd xs:=Qs ρ _ (Z8 Zx xs)
theorem Yc {ρ:Nat→Nat} (x:Option Zq):(gP Zd x).ren ρ=gP Zd x:=Zbh ρ _ (Uq Zx x)
theorem Yn {k:Nat} (xs:List Zq):G.unders k (fl Zd xs)=true:=Z9 _ _ (Z8 Zx xs)
def Zf (x:Zl):List G:=[.sl x.segments.length (fl (eL (eI .u64)) x.segments),.val (.int .i64 x.size),.val (.int .i64 x.left)]
theorem Xw:∀ x,G.pures ((eI .u64) x)=true:=fun x=>by simp [eI,eB,eS,eL,eP,G.pures,G.pure,Z8,Uq,Zx]
theorem Jv {O O':Objs} {n:Nat} (xs:List Int):Q4 O O' n (fl (eI .u64) xs) (fl (eI .u64) xs):=Y7 (Z8 Xw xs)
theorem Kz {O O':Objs} {n:Nat} (xs:List Int) (b b':List G):Q4 O O' n (fl (eI .u64) xs++b) (fl (eI .u64) xs++b')=Q4 O O' n b b':=Zeb b b' _ (Z8 Xw xs)
theorem Kr (xs:List Int):(fl (eI .u64) xs).length=xs.length * 1:=Qw (f:=(eI .u64)) (k:=1) (fun _=>rfl) xs
theorem Ks (xs:List Int):(fl (eI .u64) xs).all G.one=true:=Kb (fun x=>by simp [eI,eB,eS,eL,eP,U6,G.one,Value.oneCell']) xs
theorem K0 {O O':Objs} {n:Nat} (x:Option Int):wk O O' n (gP (eI .u64) x) (gP (eI .u64) x)=True:=Znn Xw x
theorem Js {k:Nat} (x:Option Int):(gP (eI .u64) x).under k=true:=Zea Xw k x
theorem Xk {ρ:Nat→Nat} (xs:List Int):G.rens ρ (fl (eI .u64) xs)=fl (eI .u64) xs:=Qs ρ _ (Z8 Xw xs)
theorem Jq {ρ:Nat→Nat} (x:Option Int):(gP (eI .u64) x).ren ρ=gP (eI .u64) x:=Zbh ρ _ (Uq Xw x)
theorem Yj {k:Nat} (xs:List Int):G.unders k (fl (eI .u64) xs)=true:=Z9 _ _ (Z8 Xw xs)
theorem X3:∀ x,G.pures ((eL (eI .u64)) x)=true:=fun x=>by simp [eI,eB,eS,eL,eP,G.pures,G.pure,Z8,Uq,Zx,Xw]
theorem Qq {O O':Objs} {n:Nat} (xs:List (List Int)):Q4 O O' n (fl (eL (eI .u64)) xs) (fl (eL (eI .u64)) xs):=Y7 (Z8 X3 xs)
theorem Qp {O O':Objs} {n:Nat} (xs:List (List Int)) (b b':List G):Q4 O O' n (fl (eL (eI .u64)) xs++b) (fl (eL (eI .u64)) xs++b')=Q4 O O' n b b':=Zeb b b' _ (Z8 X3 xs)
theorem Ql (xs:List (List Int)):(fl (eL (eI .u64)) xs).length=xs.length * 1:=Qw (f:=(eL (eI .u64))) (k:=1) (fun _=>rfl) xs
theorem Qm (xs:List (List Int)):(fl (eL (eI .u64)) xs).all G.one=true:=Kb (fun x=>by simp [eI,eB,eS,eL,eP,U6,G.one,Value.oneCell']) xs
theorem Qr {O O':Objs} {n:Nat} (x:Option (List Int)):wk O O' n (gP (eL (eI .u64)) x) (gP (eL (eI .u64)) x)=True:=Znn X3 x
theorem X8 {k:Nat} (x:Option (List Int)):(gP (eL (eI .u64)) x).under k=true:=Zea X3 k x
theorem X6 {ρ:Nat→Nat} (xs:List (List Int)):G.rens ρ (fl (eL (eI .u64)) xs)=fl (eL (eI .u64)) xs:=Qs ρ _ (Z8 X3 xs)
theorem X5 {ρ:Nat→Nat} (x:Option (List Int)):(gP (eL (eI .u64)) x).ren ρ=gP (eL (eI .u64)) x:=Zbh ρ _ (Uq X3 x)
theorem Qo {k:Nat} (xs:List (List Int)):G.unders k (fl (eL (eI .u64)) xs)=true:=Z9 _ _ (Z8 X3 xs)
def Ze (x:Zo):List G:=[.sl x.L.length (fl (eL (eI .u64)) x.L),.val (.int .i64 x.Size),.val (.int .i64 x.Most),.val (.int .i64 x.Used)]
theorem Xj:∀ x,G.pures (Zf x)=true:=fun x=>by simp [eI,eB,eS,eL,eP,G.pures,G.pure,Z8,Uq,Zf,Zx,Xw,X3]
theorem Xc {O O':Objs} {n:Nat} (xs:List Zl):Q4 O O' n (fl Zf xs) (fl Zf xs):=Y7 (Z8 Xj xs)
theorem Xb {O O':Objs} {n:Nat} (xs:List Zl) (b b':List G):Q4 O O' n (fl Zf xs++b) (fl Zf xs++b')=Q4 O O' n b b':=Zeb b b' _ (Z8 Xj xs)
theorem Y8 (xs:List Zl):(fl Zf xs).length=xs.length * 3:=Qw (f:=Zf) (k:=3) (fun _=>rfl) xs
theorem Y9 (xs:List Zl):(fl Zf xs).all G.one=true:=Kb (fun x=>by simp [eI,eB,eS,eL,eP,U6,G.one,Value.oneCell',Zf]) xs
theorem Xd {O O':Objs} {n:Nat} (x:Option Zl):wk O O' n (gP Zf x) (gP Zf x)=True:=Znn Xj x
theorem Y5 {k:Nat} (x:Option Zl):(gP Zf x).under k=true:=Zea Xj k x
theorem Y4 {ρ:Nat→Nat} (xs:List Zl):G.rens ρ (fl Zf xs)=fl Zf xs:=Qs ρ _ (Z8 Xj xs)
theorem Y3 {ρ:Nat→Nat} (x:Option Zl):(gP Zf x).ren ρ=gP Zf x:=Zbh ρ _ (Uq Xj x)
theorem Xa {k:Nat} (xs:List Zl):G.unders k (fl Zf xs)=true:=Z9 _ _ (Z8 Xj xs)
theorem Yz:∀ x,G.pures (Ze x)=true:=fun x=>by simp [eI,eB,eS,eL,eP,G.pures,G.pure,Z8,Uq,Ze,Zx,Xw,X3,Xj]
theorem Yg {O O':Objs} {n:Nat} (xs:List Zo):Q4 O O' n (fl Ze xs) (fl Ze xs):=Y7 (Z8 Yz xs)
theorem Yf {O O':Objs} {n:Nat} (xs:List Zo) (b b':List G):Q4 O O' n (fl Ze xs++b) (fl Ze xs++b')=Q4 O O' n b b':=Zeb b b' _ (Z8 Yz xs)
theorem Ya (xs:List Zo):(fl Ze xs).length=xs.length * 4:=Qw (f:=Ze) (k:=4) (fun _=>rfl) xs
theorem Yb (xs:List Zo):(fl Ze xs).all G.one=true:=Kb (fun x=>by simp [eI,eB,eS,eL,eP,U6,G.one,Value.oneCell',Ze]) xs
theorem Yh {O O':Objs} {n:Nat} (x:Option Zo):wk O O' n (gP Ze x) (gP Ze x)=True:=Znn Yz x
theorem Z7 {k:Nat} (x:Option Zo):(gP Ze x).under k=true:=Zea Yz k x
theorem Z6 {ρ:Nat→Nat} (xs:List Zo):G.rens ρ (fl Ze xs)=fl Ze xs:=Qs ρ _ (Z8 Yz xs)
theorem Z5 {ρ:Nat→Nat} (x:Option Zo):(gP Ze x).ren ρ=gP Ze x:=Zbh ρ _ (Uq Yz x)
theorem Yd {k:Nat} (xs:List Zo):G.unders k (fl Ze xs)=true:=Z9 _ _ (Z8 Yz xs)
end Go.Proofs.Ytpggbianhdebmaa
