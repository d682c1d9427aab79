/- Part DE of this seat's mirrors: functions of the seat's program, and the plain functions that they are; each theorem bears its own conditions. -/
import Derived.Test.YtpfbdlcnfekdkaaGreatTy
import Derived.Test.YtpfbdlcnfekdkaaGreatDD
namespace Go.Proofs.YtpfbdlcnfekdkaaGreat
open Go.RowKit
set_option linter.unusedVariables false
set_option linter.unusedSimpArgs false
set_option maxRecDepth 100000
set_option maxHeartbeats 4000000
def J7 (x:Z0):List G:=[.val (.int .i64 x.Depth),.val (.int .i64 x.Weight),.val (.int .i64 x.MaxD),.val (.int .i64 x.MaxOut)]
theorem Uq:∀ x,G.pures ((eI .u64) x)=true:=fun x=>by simp [eI,eB,eS,eL,eP,G.pures,G.pure,Y4,Zcc]
theorem Zhg {O O':Objs} {n:Nat} (xs:List Int):wkl O O' n (fl (eI .u64) xs) (fl (eI .u64) xs):=Zke (Y4 Uq xs)
theorem Zhe {O O':Objs} {n:Nat} (xs:List Int) (b b':List G):wkl O O' n (fl (eI .u64) xs++b) (fl (eI .u64) xs++b')=wkl O O' n b b':=Zh6 b b' _ (Y4 Uq xs)
theorem Zgq (xs:List Int):(fl (eI .u64) xs).length=xs.length * 1:=V2 (f:=(eI .u64)) (k:=1) (fun _=>rfl) xs
theorem Zgy (xs:List Int):(fl (eI .u64) xs).all G.one=true:=Zdc (fun x=>by simp [eI,eB,eS,eL,eP,Zgz,G.one,Value.oneCell']) xs
theorem Zhi {O O':Objs} {n:Nat} (x:Option Int):wk O O' n (gP (eI .u64) x) (gP (eI .u64) x)=True:=Zx5 Uq x
theorem Zff {k:Nat} (x:Option Int):(gP (eI .u64) x).under k=true:=Zh4 Uq k x
theorem Zfc {ρ:Nat→Nat} (xs:List Int):G.rens ρ (fl (eI .u64) xs)=fl (eI .u64) xs:=Gg ρ _ (Y4 Uq xs)
theorem Zfa {ρ:Nat→Nat} (x:Option Int):(gP (eI .u64) x).ren ρ=gP (eI .u64) x:=Zf3 ρ _ (Zcc Uq x)
theorem Zhc {k:Nat} (xs:List Int):G.unders k (fl (eI .u64) xs)=true:=Qw _ _ (Y4 Uq xs)
theorem Kg:∀ x,G.pures ((eL (eI .u64)) x)=true:=fun x=>by simp [eI,eB,eS,eL,eP,G.pures,G.pure,Y4,Zcc,Uq]
theorem Zc0 {O O':Objs} {n:Nat} (xs:List (List Int)):wkl O O' n (fl (eL (eI .u64)) xs) (fl (eL (eI .u64)) xs):=Zke (Y4 Kg xs)
theorem Zcz {O O':Objs} {n:Nat} (xs:List (List Int)) (b b':List G):wkl O O' n (fl (eL (eI .u64)) xs++b) (fl (eL (eI .u64)) xs++b')=wkl O O' n b b':=Zh6 b b' _ (Y4 Kg xs)
theorem Zct (xs:List (List Int)):(fl (eL (eI .u64)) xs).length=xs.length * 1:=V2 (f:=(eL (eI .u64))) (k:=1) (fun _=>rfl) xs
theorem Zcw (xs:List (List Int)):(fl (eL (eI .u64)) xs).all G.one=true:=Zdc (fun x=>by simp [eI,eB,eS,eL,eP,Zgz,G.one,Value.oneCell']) xs
theorem Zc1 {O O':Objs} {n:Nat} (x:Option (List Int)):wk O O' n (gP (eL (eI .u64)) x) (gP (eL (eI .u64)) x)=True:=Zx5 Kg x
theorem Zbz {k:Nat} (x:Option (List Int)):(gP (eL (eI .u64)) x).under k=true:=Zh4 Kg k x
theorem Zbx {ρ:Nat→Nat} (xs:List (List Int)):G.rens ρ (fl (eL (eI .u64)) xs)=fl (eL (eI .u64)) xs:=Gg ρ _ (Y4 Kg xs)
theorem Zbw {ρ:Nat→Nat} (x:Option (List Int)):(gP (eL (eI .u64)) x).ren ρ=gP (eL (eI .u64)) x:=Zf3 ρ _ (Zcc Kg x)
theorem Zcy {k:Nat} (xs:List (List Int)):G.unders k (fl (eL (eI .u64)) xs)=true:=Qw _ _ (Y4 Kg xs)
def Zq (x:Zl):List G:=[.sl x.segments.length (fl (eL (eI .u64)) x.segments),.val (.int .i64 x.size),.val (.int .i64 x.left)]
theorem Xm:∀ x,G.pures (Zq x)=true:=fun x=>by simp [eI,eB,eS,eL,eP,G.pures,G.pure,Y4,Zcc,Zq,Uq,Kg]
theorem Vo {O O':Objs} {n:Nat} (xs:List Zl):wkl O O' n (fl Zq xs) (fl Zq xs):=Zke (Y4 Xm xs)
theorem Vn {O O':Objs} {n:Nat} (xs:List Zl) (b b':List G):wkl O O' n (fl Zq xs++b) (fl Zq xs++b')=wkl O O' n b b':=Zh6 b b' _ (Y4 Xm xs)
theorem Ve (xs:List Zl):(fl Zq xs).length=xs.length * 3:=V2 (f:=Zq) (k:=3) (fun _=>rfl) xs
theorem Vk (xs:List Zl):(fl Zq xs).all G.one=true:=Zdc (fun x=>by simp [eI,eB,eS,eL,eP,Zgz,G.one,Value.oneCell',Zq]) xs
theorem Vp {O O':Objs} {n:Nat} (x:Option Zl):wk O O' n (gP Zq x) (gP Zq x)=True:=Zx5 Xm x
theorem K1 {k:Nat} (x:Option Zl):(gP Zq x).under k=true:=Zh4 Xm k x
theorem Kz {ρ:Nat→Nat} (xs:List Zl):G.rens ρ (fl Zq xs)=fl Zq xs:=Gg ρ _ (Y4 Xm xs)
theorem Ky {ρ:Nat→Nat} (x:Option Zl):(gP Zq x).ren ρ=gP Zq x:=Zf3 ρ _ (Zcc Xm x)
theorem Vl {k:Nat} (xs:List Zl):G.unders k (fl Zq xs)=true:=Qw _ _ (Y4 Xm xs)
def Ze0 (x:Zx):List G:=[.val (.int .i64 x.Kind),.val (.int .i64 x.Off),.val (.int .i64 x.Data),.val (.int .i64 x.Ptrs),.val (.int .i64 x.Code),.val (.int .i64 x.Count),.val (.int .i64 x.Segment),.val (.bool x.Double)]
theorem Zcx:∀ x,G.pures ((eI .i64) x)=true:=fun x=>by simp [eI,eB,eS,eL,eP,G.pures,G.pure,Y4,Zcc,Uq,Kg,Xm]
theorem Zhf {O O':Objs} {n:Nat} (xs:List Int):wkl O O' n (fl (eI .i64) xs) (fl (eI .i64) xs):=Zke (Y4 Zcx xs)
theorem Zhd {O O':Objs} {n:Nat} (xs:List Int) (b b':List G):wkl O O' n (fl (eI .i64) xs++b) (fl (eI .i64) xs++b')=wkl O O' n b b':=Zh6 b b' _ (Y4 Zcx xs)
theorem Zgp (xs:List Int):(fl (eI .i64) xs).length=xs.length * 1:=V2 (f:=(eI .i64)) (k:=1) (fun _=>rfl) xs
theorem Zgx (xs:List Int):(fl (eI .i64) xs).all G.one=true:=Zdc (fun x=>by simp [eI,eB,eS,eL,eP,Zgz,G.one,Value.oneCell']) xs
theorem Zhh {O O':Objs} {n:Nat} (x:Option Int):wk O O' n (gP (eI .i64) x) (gP (eI .i64) x)=True:=Zx5 Zcx x
theorem Zfe {k:Nat} (x:Option Int):(gP (eI .i64) x).under k=true:=Zh4 Zcx k x
theorem Zfb {ρ:Nat→Nat} (xs:List Int):G.rens ρ (fl (eI .i64) xs)=fl (eI .i64) xs:=Gg ρ _ (Y4 Zcx xs)
theorem Ze9 {ρ:Nat→Nat} (x:Option Int):(gP (eI .i64) x).ren ρ=gP (eI .i64) x:=Zf3 ρ _ (Zcc Zcx x)
theorem Zhb {k:Nat} (xs:List Int):G.unders k (fl (eI .i64) xs)=true:=Qw _ _ (Y4 Zcx xs)
def Zez (x:Xy):List G:=[.val (.int .i64 x.P.Kind),.val (.int .i64 x.P.Off),.val (.int .i64 x.P.Data),.val (.int .i64 x.P.Ptrs),.val (.int .i64 x.P.Code),.val (.int .i64 x.P.Count),.val (.int .i64 x.P.Segment),.val (.bool x.P.Double),.val (.int .i64 x.Segment),.val (.int .i64 x.At)]
def Zbi (x:Zc):List G:=[(gP Zq x.a),.val (.int .i64 x.kind),.val (.int .i64 x.segment),.val (.int .i64 x.at_),.val (.int .i64 x.words),.val (.int .i64 x.ptrs),.val (.int .i64 x.count),.val (.int .i64 x.code),.val (.int .i64 x.index)]
def Z7 (x:Zh):List G:=[.val (.int .i64 x.left)]
theorem Xu:∀ x,G.pures (Z7 x)=true:=fun x=>by simp [eI,eB,eS,eL,eP,G.pures,G.pure,Y4,Zcc,Z7,Uq,Kg,Xm,Zcx]
theorem J0 {O O':Objs} {n:Nat} (xs:List Zh):wkl O O' n (fl Z7 xs) (fl Z7 xs):=Zke (Y4 Xu xs)
theorem Jz {O O':Objs} {n:Nat} (xs:List Zh) (b b':List G):wkl O O' n (fl Z7 xs++b) (fl Z7 xs++b')=wkl O O' n b b':=Zh6 b b' _ (Y4 Xu xs)
theorem Jw (xs:List Zh):(fl Z7 xs).length=xs.length * 1:=V2 (f:=Z7) (k:=1) (fun _=>rfl) xs
theorem Jx (xs:List Zh):(fl Z7 xs).all G.one=true:=Zdc (fun x=>by simp [eI,eB,eS,eL,eP,Zgz,G.one,Value.oneCell',Z7]) xs
theorem J3 {O O':Objs} {n:Nat} (x:Option Zh):wk O O' n (gP Z7 x) (gP Z7 x)=True:=Zx5 Xu x
theorem Jk {k:Nat} (x:Option Zh):(gP Z7 x).under k=true:=Zh4 Xu k x
theorem Jj {ρ:Nat→Nat} (xs:List Zh):G.rens ρ (fl Z7 xs)=fl Z7 xs:=Gg ρ _ (Y4 Xu xs)
theorem Ji {ρ:Nat→Nat} (x:Option Zh):(gP Z7 x).ren ρ=gP Z7 x:=Zf3 ρ _ (Zcc Xu x)
theorem Jy {k:Nat} (xs:List Zh):G.unders k (fl Z7 xs)=true:=Qw _ _ (Y4 Xu xs)
def Z4 (x:Zu):List G:=[.val (.int .i64 x.left)]
mutual
def Za1:Za→List G
 | ⟨f0,f1,f2⟩=>[.val (.int .i64 f0),.sl f1.length (fl (eI .u64) f1),.sl f2.length (Za2 f2)]
def Za2:List Za→List G
 | []=>[]
 | x::xs=>Za1 x++Za2 xs
end
theorem Zlj:∀ xs,Za2 xs=fl Za1 xs
 | []=>by simp [Za2,fl]
 | x::xs=>by rw [Za2,Zad,Zlj xs]
def Zf (x:Za):List G:=[.val (.int .i64 x.Kind),.sl x.Words.length (fl (eI .u64) x.Words),.sl x.Kids.length (fl Za1 x.Kids)]
theorem Jf:Za1=Zf:=by
 funext x
 obtain ⟨_,_,_⟩:=x
 simp only [Za1,Zlj,Zf,List.cons_append,List.nil_append,List.append_nil]
mutual
theorem Zoz:∀ x,G.pures (Za1 x)=true
 | ⟨f0,f1,f2⟩=>by simp [Za1,eP,Zcc,eI,eB,eS,eL,G.pures,G.pure,Zqa,Y4,Znv f2,Uq,Kg,Xm,Zcx,Xu]
theorem Znv:∀ xs,G.pures (Za2 xs)=true
 | []=>rfl
 | x::xs=>by simp [Za2,Zqa,Zoz x,Znv xs]
end
theorem Vq:∀ x,G.pures (Zf x)=true:=fun x=>by rw [← Jf];exact Zoz x
theorem Gl {O O':Objs} {n:Nat} (xs:List Za):wkl O O' n (fl Zf xs) (fl Zf xs):=Zke (Y4 Vq xs)
theorem Gk {O O':Objs} {n:Nat} (xs:List Za) (b b':List G):wkl O O' n (fl Zf xs++b) (fl Zf xs++b')=wkl O O' n b b':=Zh6 b b' _ (Y4 Vq xs)
theorem Gd (xs:List Za):(fl Zf xs).length=xs.length * 3:=V2 (f:=Zf) (k:=3) (fun _=>rfl) xs
theorem Gf (xs:List Za):(fl Zf xs).all G.one=true:=Zdc (fun x=>by simp [eI,eB,eS,eL,eP,Zgz,G.one,Value.oneCell',Zf]) xs
theorem Gm {O O':Objs} {n:Nat} (x:Option Za):wk O O' n (gP Zf x) (gP Zf x)=True:=Zx5 Vq x
theorem Uu {k:Nat} (x:Option Za):(gP Zf x).under k=true:=Zh4 Vq k x
theorem Us {ρ:Nat→Nat} (xs:List Za):G.rens ρ (fl Zf xs)=fl Zf xs:=Gg ρ _ (Y4 Vq xs)
theorem Ur {ρ:Nat→Nat} (x:Option Za):(gP Zf x).ren ρ=gP Zf x:=Zf3 ρ _ (Zcc Vq x)
theorem Gj {k:Nat} (xs:List Za):G.unders k (fl Zf xs)=true:=Qw _ _ (Y4 Vq xs)
theorem Qd:∀ x,G.pures (Z4 x)=true:=fun x=>by simp [eI,eB,eS,eL,eP,G.pures,G.pure,Y4,Zcc,Z4,Uq,Kg,Xm,Zcx,Xu,Vq,Jf]
theorem Q3 {O O':Objs} {n:Nat} (xs:List Zu):wkl O O' n (fl Z4 xs) (fl Z4 xs):=Zke (Y4 Qd xs)
theorem Q2 {O O':Objs} {n:Nat} (xs:List Zu) (b b':List G):wkl O O' n (fl Z4 xs++b) (fl Z4 xs++b')=wkl O O' n b b':=Zh6 b b' _ (Y4 Qd xs)
theorem Qz (xs:List Zu):(fl Z4 xs).length=xs.length * 1:=V2 (f:=Z4) (k:=1) (fun _=>rfl) xs
theorem Q0 (xs:List Zu):(fl Z4 xs).all G.one=true:=Zdc (fun x=>by simp [eI,eB,eS,eL,eP,Zgz,G.one,Value.oneCell',Z4]) xs
theorem Q4 {O O':Objs} {n:Nat} (x:Option Zu):wk O O' n (gP Z4 x) (gP Z4 x)=True:=Zx5 Qd x
theorem Qk {k:Nat} (x:Option Zu):(gP Z4 x).under k=true:=Zh4 Qd k x
theorem Qj {ρ:Nat→Nat} (xs:List Zu):G.rens ρ (fl Z4 xs)=fl Z4 xs:=Gg ρ _ (Y4 Qd xs)
theorem Qi {ρ:Nat→Nat} (x:Option Zu):(gP Z4 x).ren ρ=gP Z4 x:=Zf3 ρ _ (Zcc Qd x)
theorem Q1 {k:Nat} (xs:List Zu):G.unders k (fl Z4 xs)=true:=Qw _ _ (Y4 Qd xs)
def Zak (x:Zg):List G:=[.sl x.words.length (fl (eI .u64) x.words),.val (.int .i64 x.next)]
def V0 (x:Yf):List G:=[.val (.int .i64 x.P.Kind),.val (.int .i64 x.P.Off),.val (.int .i64 x.P.Data),.val (.int .i64 x.P.Ptrs),.val (.int .i64 x.P.Code),.val (.int .i64 x.P.Count),.val (.int .i64 x.P.Segment),.val (.bool x.P.Double),.val (.int .i64 x.Segment),.val (.int .i64 x.At)]
def V1 (x:Zr):List G:=[.val (.int .i64 x.Kind),.val (.int .i64 x.S),.val (.int .i64 x.At),.val (.int .i64 x.Data),.val (.int .i64 x.Ptrs),.val (.int .i64 x.Count),.val (.int .u64 x.N)]
def Zp (x:Zc):List G:=[(gP Zq x.a),.val (.int .i64 x.kind),.val (.int .i64 x.segment),.val (.int .i64 x.at_),.val (.int .i64 x.words),.val (.int .i64 x.ptrs),.val (.int .i64 x.count),.val (.int .i64 x.code),.val (.int .i64 x.index)]
def Yq (x:Zx):List G:=[.val (.int .i64 x.Kind),.val (.int .i64 x.Off),.val (.int .i64 x.Data),.val (.int .i64 x.Ptrs),.val (.int .i64 x.Code),.val (.int .i64 x.Count),.val (.int .i64 x.Segment),.val (.bool x.Double)]
def Zv (x:Zr):List G:=[.val (.int .i64 x.Kind),.val (.int .i64 x.S),.val (.int .i64 x.At),.val (.int .i64 x.Data),.val (.int .i64 x.Ptrs),.val (.int .i64 x.Count),.val (.int .u64 x.N)]
def Ze (x:Za):List G:=[.val (.int .i64 x.Kind),.sl x.Words.length (fl (eI .u64) x.Words),.sl x.Kids.length (fl Zf x.Kids)]
def Yd (x:Z0):List G:=[.val (.int .i64 x.Depth),.val (.int .i64 x.Weight),.val (.int .i64 x.MaxD),.val (.int .i64 x.MaxOut)]
abbrev vI (x:Int):G := .val (.int .i64 x)
abbrev vB (x:Bool):G := .val (.bool x)
abbrev nV:G := .val (.slice none 0 0)
abbrev sL {α:Type} (e:α→List G) (x:List α):G := .sl x.length (fl e x)
abbrev oR {α:Type} (t s:Nat) (e:α→List G) (x:List α):GObj:=⟨true,t,s,x.length,fl e x⟩
structure Hid (p:Prop):Prop where
 get:p
structure Ar {α:Type} (a:α):Prop where
def Ar.v {α:Type} {a:α} (_:Ar a):α:=a
theorem zQ {A B:Prop} (l0:List Nat) (b:B) (e:Ar l0→Hid B→A:=by intro x0 bZ;refine Zb4 x0.v (Z5 Zo [] ?_);simp only [push_cast,seval,↓reduceIte,Zb,Ar.v,hN0,hN];exact bZ.get):A:=e ⟨⟩ ⟨b⟩
theorem zR {A B:Prop} (b:B) (e:Hid B→A:=by intro bZ;refine Z5 Zo [] ?_;simp only [push_cast,seval,↓reduceIte,Zb,hN0,hN];exact bZ.get):A:=e ⟨b⟩
theorem zEn {A:Prop} {P0:Prop} (p0:P0) (e:P0→A:=by intro x0;have h9:=Option.some.inj x0;subst h9;refine And.intro rfl (Fit2.of (Z8 hU rfl rfl ?_) (by omega));simp only [push_cast,seval,↓reduceIte,Zb,hN0,hN]):A:=e p0
theorem zK {A B:Prop} (b:B) (e:Hid B→A:=by intro bZ;refine Z76 ?_;(try simp only [Y0,Ym]);exact bZ.get):A:=e ⟨b⟩
theorem zRd {A B:Prop} (l0:List Nat) (l1:List Bool) (b:B) (e:Ar l0→Ar l1→Hid B→A:=by intro x0 x1 bZ;refine Z5 Zo [] ?_;simp only [push_cast,seval,↓reduceIte,Zb,hN0,hN];refine Ztv x0.v x1.v ?_;simp only [push_cast,seval,↓reduceIte,Ar.v];exact bZ.get):A:=e ⟨⟩ ⟨⟩ ⟨b⟩
theorem zW {A B:Prop} (b:B) (e:Hid B→A:=by intro bZ;refine Ycs ?_;(try simp only [Y0,Ym]);exact bZ.get):A:=e ⟨b⟩
theorem zSe {A:Prop} (e:A:=by simp only [push_cast,seval,↓reduceIte,Zb,hN0,hN]):A:=e
theorem zQd {A B:Prop} (l0:List Nat) (l1:List Nat) (l2:List Bool) (b:B) (e:Ar l0→Ar l1→Ar l2→Hid B→A:=by intro x0 x1 x2 bZ;refine Zb4 x0.v (Z5 Zo [] ?_);simp only [push_cast,seval,↓reduceIte,Zb,Ar.v,hN0,hN];refine Ztv x1.v x2.v ?_;simp only [push_cast,seval,↓reduceIte,Ar.v];exact bZ.get):A:=e ⟨⟩ ⟨⟩ ⟨⟩ ⟨b⟩
theorem Xs {A B:Prop} (l0:List Nat) (l1:List Bool) (b:B) (e:Ar l0→Ar l1→Hid B→A:=by intro x0 x1 bZ;refine Z76 ?_;(try simp only [Y0,Ym]);refine Ztv x0.v x1.v ?_;simp only [push_cast,seval,↓reduceIte,Ar.v];exact bZ.get):A:=e ⟨⟩ ⟨⟩ ⟨b⟩
theorem zF3 {A B:Prop} {P0:Prop} (p0:P0) {P1:Prop} (p1:P1) {P2:Prop} (p2:P2) (b:B) (e:P0→P1→P2→Hid B→A:=by intro x0 x1 x2 bZ;simp only [push_cast,Nat.reduceAdd,Nat.reduceSub,Nat.reduceMul,Nat.reduceLeDiff,Nat.reduceLT,Nat.reduceEqDiff,↓reduceIte,reduceCtorEq,Int.reduceBEq,Int.reduceBNe,Nat.reduceBEq,Int.reduceLE,Int.reduceLT,Int.reduceEq,Int.reduceNe,Int.reduceNeg,Nat.reduceDiv,Nat.reduceMod,Nat.reducePow,Zb,x0,x1,x2,hN0,hN];exact bZ.get):A:=e p0 p1 p2 ⟨b⟩
theorem Zo4 {A B:Prop} (l0:List (Option Bool)) {P1:Prop} (p1:P1) {P2:Prop} (p2:P2) {P3:Prop} (p3:P3) {P4:Prop} (p4:P4) (b:B) (e:Ar l0→P1→P2→P3→P4→Hid B→A:=by intro x0 x1 x2 x3 x4 bZ;refine Z5 Zo x0.v ?_;simp only [push_cast,Nat.reduceAdd,Nat.reduceSub,Nat.reduceMul,Nat.reduceLeDiff,Nat.reduceLT,Nat.reduceEqDiff,↓reduceIte,reduceCtorEq,Int.reduceBEq,Int.reduceBNe,Nat.reduceBEq,Int.reduceLE,Int.reduceLT,Int.reduceEq,Int.reduceNe,Int.reduceNeg,Nat.reduceDiv,Nat.reduceMod,Nat.reducePow,Zb,Ar.v,x1,x2,x3,x4,hN0,hN];exact bZ.get):A:=e ⟨⟩ p1 p2 p3 p4 ⟨b⟩
theorem zF4 {A B:Prop} {P0:Prop} (p0:P0) {P1:Prop} (p1:P1) {P2:Prop} (p2:P2) {P3:Prop} (p3:P3) (b:B) (e:P0→P1→P2→P3→Hid B→A:=by intro x0 x1 x2 x3 bZ;simp only [push_cast,Nat.reduceAdd,Nat.reduceSub,Nat.reduceMul,Nat.reduceLeDiff,Nat.reduceLT,Nat.reduceEqDiff,↓reduceIte,reduceCtorEq,Int.reduceBEq,Int.reduceBNe,Nat.reduceBEq,Int.reduceLE,Int.reduceLT,Int.reduceEq,Int.reduceNe,Int.reduceNeg,Nat.reduceDiv,Nat.reduceMod,Nat.reducePow,Zb,x0,x1,x2,x3,hN0,hN];exact bZ.get):A:=e p0 p1 p2 p3 ⟨b⟩
theorem zD {A B:Prop} (l0:List Nat) (l1:List Bool) (b:B) (e:Ar l0→Ar l1→Hid B→A:=by intro x0 x1 bZ;refine Ztv x0.v x1.v ?_;simp only [push_cast,seval,↓reduceIte,Ar.v];exact bZ.get):A:=e ⟨⟩ ⟨⟩ ⟨b⟩
theorem zEx {A:Prop} {P0:Prop} (p0:P0) (e:P0→A:=by intro x0;refine Z75 ?_;(try simp only [Y0,Ym,↓reduceIte,Nat.reduceEqDiff]);have h9:=Option.some.inj x0;subst h9;refine And.intro (fun h=>by cases h) (And.intro rfl (Fit2.of (Z8 hU rfl rfl ?_) (by omega)));simp only [push_cast,seval,↓reduceIte,Zb,hN0,hN]):A:=e p0
theorem zCd {A B:Prop} {P0:Prop} (p0:P0) (l1:List Nat) (l2:List Bool) (b:B) (e:P0→Ar l1→Ar l2→Hid B→A:=by intro x0 x1 x2 bZ;refine Z5 Zo [] ?_;simp only [push_cast,seval,↓reduceIte,Zb,hN0,hN];refine x0.then ?_;simp only [push_cast,seval,↓reduceIte,Zb,hN0,hN];refine Ztv x1.v x2.v ?_;simp only [push_cast,seval,↓reduceIte,Ar.v];exact bZ.get):A:=e p0 ⟨⟩ ⟨⟩ ⟨b⟩
theorem zS {A B:Prop} (b:B) (e:Hid B→A:=by intro bZ;simp only [push_cast,seval,↓reduceIte,Zb,hN0,hN];exact bZ.get):A:=e ⟨b⟩
theorem Yfd {A B:Prop} (l0:List Nat) {P1:Prop} (p1:P1) (b:B) (e:Ar l0→P1→Hid B→A:=by intro x0 x1 bZ;refine Zb4 x0.v (Z5 Zo [] ?_);simp only [push_cast,seval,↓reduceIte,Zb,Ar.v,x1,hN0,hN];exact bZ.get):A:=e ⟨⟩ p1 ⟨b⟩
theorem Vc {A B:Prop} (l0:List (Option Bool)) {P1:Prop} (p1:P1) (b:B) (e:Ar l0→P1→Hid B→A:=by intro x0 x1 bZ;refine Z5 Zo x0.v ?_;simp only [push_cast,seval,↓reduceIte,Zb,Ar.v,x1,hN0,hN];exact bZ.get):A:=e ⟨⟩ p1 ⟨b⟩
theorem zX1 {A B:Prop} {P0:Prop} (p0:P0) (b:B) (e:P0→Hid B→A:=by intro x0 bZ;simp only [push_cast,seval,↓reduceIte,Zb,x0,hN0,hN];exact bZ.get):A:=e p0 ⟨b⟩
theorem Ki {A:Prop} {P0:Prop} (p0:P0) {P1:Prop} (p1:P1) (e:P0→P1→A:=by intro x0 x1;have h9:=Option.some.inj x0;subst h9;refine And.intro rfl (Fit2.of (Z8 hU rfl rfl ?_) (by omega));simp only [push_cast,seval,↓reduceIte,Zb,x1,hN0,hN]):A:=e p0 p1
theorem Z6o {A B:Prop} (l0:List (Option Bool)) {P1:Prop} (p1:P1) {P2:Prop} (p2:P2) {P3:Prop} (p3:P3) {P4:Prop} (p4:P4) (b:B) (e:Ar l0→P1→P2→P3→P4→Hid B→A:=by intro x0 x1 x2 x3 x4 bZ;refine Z5 Zo x0.v ?_;simp only [push_cast,seval,↓reduceIte,Zb,Ar.v,x1,x2,x3,x4,hN0,hN];exact bZ.get):A:=e ⟨⟩ p1 p2 p3 p4 ⟨b⟩
theorem zG {A B:Prop} (b:B) (e:Hid B→A:=by intro bZ;(repeat (with_reducible refine And.intro (by first | (intro h0;simp only [h0,and_self];done) | (intro h0;simp only [h0,Bool.not_false,Bool.not_true,Bool.true_and,Bool.and_true,true_and,and_true,and_self,imp_self,implies_true,bne_iff_ne,ne_eq,beq_iff_eq];done) | (intros;simp_all;done) | exact True.intro) ?_));exact bZ.get):A:=e ⟨b⟩
theorem zX4 {A B:Prop} {P0:Prop} (p0:P0) {P1:Prop} (p1:P1) {P2:Prop} (p2:P2) {P3:Prop} (p3:P3) (b:B) (e:P0→P1→P2→P3→Hid B→A:=by intro x0 x1 x2 x3 bZ;simp only [push_cast,seval,↓reduceIte,Zb,x0,x1,x2,x3,hN0,hN];exact bZ.get):A:=e p0 p1 p2 p3 ⟨b⟩
theorem Z6n {A:Prop} {P0:Prop} (p0:P0) {P1:Prop} (p1:P1) {P2:Prop} (p2:P2) {P3:Prop} (p3:P3) {P4:Prop} (p4:P4) (e:P0→P1→P2→P3→P4→A:=by intro x0 x1 x2 x3 x4;have h9:=Option.some.inj x0;subst h9;refine And.intro rfl (Fit2.of (Z8 hU rfl rfl ?_) (by omega));simp only [push_cast,seval,↓reduceIte,Zb,x1,x2,x3,x4,hN0,hN]):A:=e p0 p1 p2 p3 p4
theorem Zku {A B:Prop} (l0:List (Option Bool)) {P1:Prop} (p1:P1) {P2:Prop} (p2:P2) {P3:Prop} (p3:P3) (b:B) (e:Ar l0→P1→P2→P3→Hid B→A:=by intro x0 x1 x2 x3 bZ;refine Z5 Zo x0.v ?_;simp only [push_cast,seval,↓reduceIte,Zb,Ar.v,x1,x2,x3,hN0,hN];exact bZ.get):A:=e ⟨⟩ p1 p2 p3 ⟨b⟩
theorem zX3 {A B:Prop} {P0:Prop} (p0:P0) {P1:Prop} (p1:P1) {P2:Prop} (p2:P2) (b:B) (e:P0→P1→P2→Hid B→A:=by intro x0 x1 x2 bZ;simp only [push_cast,seval,↓reduceIte,Zb,x0,x1,x2,hN0,hN];exact bZ.get):A:=e p0 p1 p2 ⟨b⟩
theorem Z32 {A:Prop} {P0:Prop} (p0:P0) {P1:Prop} (p1:P1) {P2:Prop} (p2:P2) {P3:Prop} (p3:P3) (e:P0→P1→P2→P3→A:=by intro x0 x1 x2 x3;have h9:=Option.some.inj x0;subst h9;refine And.intro rfl (Fit2.of (Z8 hU rfl rfl ?_) (by omega));simp only [push_cast,seval,↓reduceIte,Zb,x1,x2,x3,hN0,hN]):A:=e p0 p1 p2 p3
theorem Q5 {A B:Prop} (l0:List (Option Bool)) {P1:Prop} (p1:P1) {P2:Prop} (p2:P2) (b:B) (e:Ar l0→P1→P2→Hid B→A:=by intro x0 x1 x2 bZ;refine Z5 Zo x0.v ?_;simp only [push_cast,seval,↓reduceIte,Zb,Ar.v,x1,x2,hN0,hN];exact bZ.get):A:=e ⟨⟩ p1 p2 ⟨b⟩
theorem zX2 {A B:Prop} {P0:Prop} (p0:P0) {P1:Prop} (p1:P1) (b:B) (e:P0→P1→Hid B→A:=by intro x0 x1 bZ;simp only [push_cast,seval,↓reduceIte,Zb,x0,x1,hN0,hN];exact bZ.get):A:=e p0 p1 ⟨b⟩
theorem Zn0 {A:Prop} {P0:Prop} (p0:P0) {P1:Prop} (p1:P1) {P2:Prop} (p2:P2) (e:P0→P1→P2→A:=by intro x0 x1 x2;have h9:=Option.some.inj x0;subst h9;refine And.intro rfl (Fit2.of (Z8 hU rfl rfl ?_) (by omega));simp only [push_cast,seval,↓reduceIte,Zb,x1,x2,hN0,hN]):A:=e p0 p1 p2
theorem zF7 {A B:Prop} {P0:Prop} (p0:P0) {P1:Prop} (p1:P1) {P2:Prop} (p2:P2) {P3:Prop} (p3:P3) {P4:Prop} (p4:P4) {P5:Prop} (p5:P5) {P6:Prop} (p6:P6) (b:B) (e:P0→P1→P2→P3→P4→P5→P6→Hid B→A:=by intro x0 x1 x2 x3 x4 x5 x6 bZ;simp only [push_cast,Nat.reduceAdd,Nat.reduceSub,Nat.reduceMul,Nat.reduceLeDiff,Nat.reduceLT,Nat.reduceEqDiff,↓reduceIte,reduceCtorEq,Int.reduceBEq,Int.reduceBNe,Nat.reduceBEq,Int.reduceLE,Int.reduceLT,Int.reduceEq,Int.reduceNe,Int.reduceNeg,Nat.reduceDiv,Nat.reduceMod,Nat.reducePow,Zb,x0,x1,x2,x3,x4,x5,x6,hN0,hN];exact bZ.get):A:=e p0 p1 p2 p3 p4 p5 p6 ⟨b⟩
theorem zC {A B:Prop} {P0:Prop} (p0:P0) (b:B) (e:P0→Hid B→A:=by intro x0 bZ;refine Z5 Zo [] ?_;simp only [push_cast,seval,↓reduceIte,Zb,hN0,hN];refine x0.then ?_;simp only [push_cast,seval,↓reduceIte,Zb,hN0,hN];exact bZ.get):A:=e p0 ⟨b⟩
theorem zTs {A B:Prop} {P0:Prop} (p0:P0) (b:B) (e:P0→Hid B→A:=by intro x0 bZ;refine x0.then ?_;simp only [push_cast,seval,↓reduceIte,Zb,hN0,hN];exact bZ.get):A:=e p0 ⟨b⟩
theorem Ydx {A B:Prop} (l0:List (Option Bool)) {P1:Prop} (p1:P1) {P2:Prop} (p2:P2) {P3:Prop} (p3:P3) {P4:Prop} (p4:P4) {P5:Prop} (p5:P5) {P6:Prop} (p6:P6) {P7:Prop} (p7:P7) {P8:Prop} (p8:P8) (b:B) (e:Ar l0→P1→P2→P3→P4→P5→P6→P7→P8→Hid B→A:=by intro x0 x1 x2 x3 x4 x5 x6 x7 x8 bZ;refine Z5 Zo x0.v ?_;simp only [push_cast,Nat.reduceAdd,Nat.reduceSub,Nat.reduceMul,Nat.reduceLeDiff,Nat.reduceLT,Nat.reduceEqDiff,↓reduceIte,reduceCtorEq,Int.reduceBEq,Int.reduceBNe,Nat.reduceBEq,Int.reduceLE,Int.reduceLT,Int.reduceEq,Int.reduceNe,Int.reduceNeg,Nat.reduceDiv,Nat.reduceMod,Nat.reducePow,Zb,Ar.v,x1,x2,x3,x4,x5,x6,x7,x8,hN0,hN];exact bZ.get):A:=e ⟨⟩ p1 p2 p3 p4 p5 p6 p7 p8 ⟨b⟩
theorem zF8 {A B:Prop} {P0:Prop} (p0:P0) {P1:Prop} (p1:P1) {P2:Prop} (p2:P2) {P3:Prop} (p3:P3) {P4:Prop} (p4:P4) {P5:Prop} (p5:P5) {P6:Prop} (p6:P6) {P7:Prop} (p7:P7) (b:B) (e:P0→P1→P2→P3→P4→P5→P6→P7→Hid B→A:=by intro x0 x1 x2 x3 x4 x5 x6 x7 bZ;simp only [push_cast,Nat.reduceAdd,Nat.reduceSub,Nat.reduceMul,Nat.reduceLeDiff,Nat.reduceLT,Nat.reduceEqDiff,↓reduceIte,reduceCtorEq,Int.reduceBEq,Int.reduceBNe,Nat.reduceBEq,Int.reduceLE,Int.reduceLT,Int.reduceEq,Int.reduceNe,Int.reduceNeg,Nat.reduceDiv,Nat.reduceMod,Nat.reducePow,Zb,x0,x1,x2,x3,x4,x5,x6,x7,hN0,hN];exact bZ.get):A:=e p0 p1 p2 p3 p4 p5 p6 p7 ⟨b⟩
theorem zQD {A B:Prop} (l0:List Nat) (l1:List (Option Bool)) (b:B) (e:Ar l0→Ar l1→Hid B→A:=by intro x0 x1 bZ;refine Zb4 x0.v (Z5 Zo x1.v ?_);simp only [push_cast,seval,↓reduceIte,Zb,Ar.v,hN0,hN];(repeat (with_reducible refine And.intro (by first | (intro h0;simp only [h0,and_self];done) | (intro h0;simp only [h0,Bool.not_false,Bool.not_true,Bool.true_and,Bool.and_true,true_and,and_true,and_self,imp_self,implies_true,bne_iff_ne,ne_eq,beq_iff_eq];done) | (intros;simp_all;done) | exact True.intro) ?_));exact bZ.get):A:=e ⟨⟩ ⟨⟩ ⟨b⟩
theorem zF6 {A B:Prop} {P0:Prop} (p0:P0) {P1:Prop} (p1:P1) {P2:Prop} (p2:P2) {P3:Prop} (p3:P3) {P4:Prop} (p4:P4) {P5:Prop} (p5:P5) (b:B) (e:P0→P1→P2→P3→P4→P5→Hid B→A:=by intro x0 x1 x2 x3 x4 x5 bZ;simp only [push_cast,Nat.reduceAdd,Nat.reduceSub,Nat.reduceMul,Nat.reduceLeDiff,Nat.reduceLT,Nat.reduceEqDiff,↓reduceIte,reduceCtorEq,Int.reduceBEq,Int.reduceBNe,Nat.reduceBEq,Int.reduceLE,Int.reduceLT,Int.reduceEq,Int.reduceNe,Int.reduceNeg,Nat.reduceDiv,Nat.reduceMod,Nat.reducePow,Zb,x0,x1,x2,x3,x4,x5,hN0,hN];exact bZ.get):A:=e p0 p1 p2 p3 p4 p5 ⟨b⟩
theorem Ydq {A:Prop} {P0:Prop} (p0:P0) {P1:Prop} (p1:P1) {P2:Prop} (p2:P2) {P3:Prop} (p3:P3) {P4:Prop} (p4:P4) {P5:Prop} (p5:P5) (e:P0→P1→P2→P3→P4→P5→A:=by intro x0 x1 x2 x3 x4 x5;refine And.intro rfl (Fit2.of (Z8 hU rfl rfl ?_) (by omega));simp only [push_cast,Nat.reduceAdd,Nat.reduceSub,Nat.reduceMul,Nat.reduceLeDiff,Nat.reduceLT,Nat.reduceEqDiff,↓reduceIte,reduceCtorEq,Int.reduceBEq,Int.reduceBNe,Nat.reduceBEq,Int.reduceLE,Int.reduceLT,Int.reduceEq,Int.reduceNe,Int.reduceNeg,Nat.reduceDiv,Nat.reduceMod,Nat.reducePow,Zb,x0,x1,x2,x3,x4,x5,hN0,hN]):A:=e p0 p1 p2 p3 p4 p5
theorem Ydt {A:Prop} {P0:Prop} (p0:P0) {P1:Prop} (p1:P1) {P2:Prop} (p2:P2) {P3:Prop} (p3:P3) {P4:Prop} (p4:P4) {P5:Prop} (p5:P5) (e:P0→P1→P2→P3→P4→P5→A:=by intro x0 x1 x2 x3 x4 x5;simp only [push_cast,Nat.reduceAdd,Nat.reduceSub,Nat.reduceMul,Nat.reduceLeDiff,Nat.reduceLT,Nat.reduceEqDiff,↓reduceIte,reduceCtorEq,Int.reduceBEq,Int.reduceBNe,Nat.reduceBEq,Int.reduceLE,Int.reduceLT,Int.reduceEq,Int.reduceNe,Int.reduceNeg,Nat.reduceDiv,Nat.reduceMod,Nat.reducePow,Zb,x0,x1,x2,x3,x4,x5,hN0,hN]):A:=e p0 p1 p2 p3 p4 p5
theorem zO {A B:Prop} (b:B) (e:Hid B→A:=by intro bZ;(repeat (with_reducible refine And.intro (by first | omega | exact Ju rfl | exact Qp | exact Z6t rfl | exact Z14 rfl rfl | exact Zwl rfl | exact Z13 rfl) ?_));exact bZ.get):A:=e ⟨b⟩
theorem zDs {A B:Prop} (l0:List Nat) (l1:List Bool) (b:B) (e:Ar l0→Ar l1→Hid B→A:=by intro x0 x1 bZ;refine Ztv x0.v x1.v ?_;simp only [push_cast,seval,↓reduceIte,Ar.v];refine Zd ?_;exact bZ.get):A:=e ⟨⟩ ⟨⟩ ⟨b⟩
theorem Zai {A B:Prop} (l0:List Nat) {P1:Prop} (p1:P1) {P2:Prop} (p2:P2) (b:B) (e:Ar l0→P1→P2→Hid B→A:=by intro x0 x1 x2 bZ;refine Zb4 x0.v (Z5 Zo [] ?_);simp only [push_cast,seval,↓reduceIte,Zb,Ar.v,x1,x2,hN0,hN];exact bZ.get):A:=e ⟨⟩ p1 p2 ⟨b⟩
theorem Zv9 {A:Prop} {P0:Prop} (p0:P0) {P1:Prop} (p1:P1) {P2:Prop} (p2:P2) (e:P0→P1→P2→A:=by intro x0 x1 x2;simp only [push_cast,seval,↓reduceIte,Zb,x0,x1,x2,hN0,hN]):A:=e p0 p1 p2
theorem Qr {A:Prop} {P0:Prop} (p0:P0) {P1:Prop} (p1:P1) (e:P0→P1→A:=by intro x0 x1;simp only [push_cast,seval,↓reduceIte,Zb,x0,x1,hN0,hN]):A:=e p0 p1
theorem zXt {A B:Prop} (b:B) (e:Hid B→A:=by intro bZ;refine Z75 ?_;(try simp only [Y0,Ym,↓reduceIte,Nat.reduceEqDiff]);exact bZ.get):A:=e ⟨b⟩
theorem Yd0 {A:Prop} {P0:Prop} (p0:P0) {P1:Prop} (p1:P1) {P2:Prop} (p2:P2) {P3:Prop} (p3:P3) (e:P0→P1→P2→P3→A:=by intro x0 x1 x2 x3;simp only [push_cast,seval,↓reduceIte,Zb,x0,x1,x2,x3,hN0,hN]):A:=e p0 p1 p2 p3
theorem zX5 {A B:Prop} {P0:Prop} (p0:P0) {P1:Prop} (p1:P1) {P2:Prop} (p2:P2) {P3:Prop} (p3:P3) {P4:Prop} (p4:P4) (b:B) (e:P0→P1→P2→P3→P4→Hid B→A:=by intro x0 x1 x2 x3 x4 bZ;simp only [push_cast,seval,↓reduceIte,Zb,x0,x1,x2,x3,x4,hN0,hN];exact bZ.get):A:=e p0 p1 p2 p3 p4 ⟨b⟩
theorem Yd1 {A:Prop} {P0:Prop} (p0:P0) {P1:Prop} (p1:P1) {P2:Prop} (p2:P2) {P3:Prop} (p3:P3) {P4:Prop} (p4:P4) (e:P0→P1→P2→P3→P4→A:=by intro x0 x1 x2 x3 x4;simp only [push_cast,seval,↓reduceIte,Zb,x0,x1,x2,x3,x4,hN0,hN]):A:=e p0 p1 p2 p3 p4
theorem Ydy {A B:Prop} (l0:List (Option Bool)) {P1:Prop} (p1:P1) {P2:Prop} (p2:P2) {P3:Prop} (p3:P3) {P4:Prop} (p4:P4) {P5:Prop} (p5:P5) (b:B) (e:Ar l0→P1→P2→P3→P4→P5→Hid B→A:=by intro x0 x1 x2 x3 x4 x5 bZ;refine Z5 Zo x0.v ?_;simp only [push_cast,seval,↓reduceIte,Zb,Ar.v,x1,x2,x3,x4,x5,hN0,hN];exact bZ.get):A:=e ⟨⟩ p1 p2 p3 p4 p5 ⟨b⟩
theorem Z31 {A:Prop} {P0:Prop} (p0:P0) {P1:Prop} (p1:P1) {P2:Prop} (p2:P2) {P3:Prop} (p3:P3) {P4:Prop} (p4:P4) (e:P0→P1→P2→P3→P4→A:=by intro x0 x1 x2 x3 x4;have h9:=Option.some.inj x0;subst h9;refine And.intro rfl (Fit2.of (Z8 hU rfl rfl ?_) (by omega));simp only [push_cast,Nat.reduceAdd,Nat.reduceSub,Nat.reduceMul,Nat.reduceLeDiff,Nat.reduceLT,Nat.reduceEqDiff,↓reduceIte,reduceCtorEq,Int.reduceBEq,Int.reduceBNe,Nat.reduceBEq,Int.reduceLE,Int.reduceLT,Int.reduceEq,Int.reduceNe,Int.reduceNeg,Nat.reduceDiv,Nat.reduceMod,Nat.reducePow,Zb,x1,x2,x3,x4,hN0,hN]):A:=e p0 p1 p2 p3 p4
theorem Ydv {A B:Prop} (l0:List Nat) {P1:Prop} (p1:P1) {P2:Prop} (p2:P2) {P3:Prop} (p3:P3) {P4:Prop} (p4:P4) (b:B) (e:Ar l0→P1→P2→P3→P4→Hid B→A:=by intro x0 x1 x2 x3 x4 bZ;refine Zb4 x0.v (Z5 Zo [] ?_);simp only [push_cast,seval,↓reduceIte,Zb,Ar.v,x1,x2,x3,x4,hN0,hN];exact bZ.get):A:=e ⟨⟩ p1 p2 p3 p4 ⟨b⟩
theorem Z33 {A B:Prop} (l0:List (Option Bool)) {P1:Prop} (p1:P1) {P2:Prop} (p2:P2) {P3:Prop} (p3:P3) {P4:Prop} (p4:P4) {P5:Prop} (p5:P5) (b:B) (e:Ar l0→P1→P2→P3→P4→P5→Hid B→A:=by intro x0 x1 x2 x3 x4 x5 bZ;refine Z5 Zo x0.v ?_;simp only [push_cast,Nat.reduceAdd,Nat.reduceSub,Nat.reduceMul,Nat.reduceLeDiff,Nat.reduceLT,Nat.reduceEqDiff,↓reduceIte,reduceCtorEq,Int.reduceBEq,Int.reduceBNe,Nat.reduceBEq,Int.reduceLE,Int.reduceLT,Int.reduceEq,Int.reduceNe,Int.reduceNeg,Nat.reduceDiv,Nat.reduceMod,Nat.reducePow,Zb,Ar.v,x1,x2,x3,x4,x5,hN0,hN];exact bZ.get):A:=e ⟨⟩ p1 p2 p3 p4 p5 ⟨b⟩
theorem Ybz {A:Prop} {P0:Prop} (p0:P0) {P1:Prop} (p1:P1) {P2:Prop} (p2:P2) {P3:Prop} (p3:P3) {P4:Prop} (p4:P4) {P5:Prop} (p5:P5) (e:P0→P1→P2→P3→P4→P5→A:=by intro x0 x1 x2 x3 x4 x5;have h9:=Option.some.inj x0;subst h9;refine And.intro rfl (Fit2.of (Z8 hU rfl rfl ?_) (by omega));simp only [push_cast,Nat.reduceAdd,Nat.reduceSub,Nat.reduceMul,Nat.reduceLeDiff,Nat.reduceLT,Nat.reduceEqDiff,↓reduceIte,reduceCtorEq,Int.reduceBEq,Int.reduceBNe,Nat.reduceBEq,Int.reduceLE,Int.reduceLT,Int.reduceEq,Int.reduceNe,Int.reduceNeg,Nat.reduceDiv,Nat.reduceMod,Nat.reducePow,Zb,x1,x2,x3,x4,x5,hN0,hN]):A:=e p0 p1 p2 p3 p4 p5
theorem Zn1 {A B:Prop} (l0:List (Option Bool)) {P1:Prop} (p1:P1) {P2:Prop} (p2:P2) {P3:Prop} (p3:P3) (b:B) (e:Ar l0→P1→P2→P3→Hid B→A:=by intro x0 x1 x2 x3 bZ;refine Z5 Zo x0.v ?_;simp only [push_cast,Nat.reduceAdd,Nat.reduceSub,Nat.reduceMul,Nat.reduceLeDiff,Nat.reduceLT,Nat.reduceEqDiff,↓reduceIte,reduceCtorEq,Int.reduceBEq,Int.reduceBNe,Nat.reduceBEq,Int.reduceLE,Int.reduceLT,Int.reduceEq,Int.reduceNe,Int.reduceNeg,Nat.reduceDiv,Nat.reduceMod,Nat.reducePow,Zb,Ar.v,x1,x2,x3,hN0,hN];exact bZ.get):A:=e ⟨⟩ p1 p2 p3 ⟨b⟩
theorem zEy {A:Prop} {P0:Prop} (p0:P0) (e:P0→A:=by intro x0;have h9:=Option.some.inj x0;subst h9;refine And.intro (fun h=>by cases h) (And.intro rfl (Fit2.of (Z8 hU rfl rfl ?_) (by omega)));simp only [push_cast,seval,↓reduceIte,Zb,hN0,hN]):A:=e p0
theorem zRo {A B:Prop} (l0:List (Option Bool)) (b:B) (e:Ar l0→Hid B→A:=by intro x0 bZ;refine Z5 Zo x0.v ?_;simp only [push_cast,seval,↓reduceIte,Zb,Ar.v,hN0,hN];exact bZ.get):A:=e ⟨⟩ ⟨b⟩
theorem zF5 {A B:Prop} {P0:Prop} (p0:P0) {P1:Prop} (p1:P1) {P2:Prop} (p2:P2) {P3:Prop} (p3:P3) {P4:Prop} (p4:P4) (b:B) (e:P0→P1→P2→P3→P4→Hid B→A:=by intro x0 x1 x2 x3 x4 bZ;simp only [push_cast,Nat.reduceAdd,Nat.reduceSub,Nat.reduceMul,Nat.reduceLeDiff,Nat.reduceLT,Nat.reduceEqDiff,↓reduceIte,reduceCtorEq,Int.reduceBEq,Int.reduceBNe,Nat.reduceBEq,Int.reduceLE,Int.reduceLT,Int.reduceEq,Int.reduceNe,Int.reduceNeg,Nat.reduceDiv,Nat.reduceMod,Nat.reducePow,Zb,x0,x1,x2,x3,x4,hN0,hN];exact bZ.get):A:=e p0 p1 p2 p3 p4 ⟨b⟩
theorem zEf {A:Prop} (e:A:=by refine And.intro rfl (Fit2.of (Z8 hU rfl rfl ?_) (by omega));simp only [push_cast,seval,↓reduceIte,Zb,hN0,hN]):A:=e
theorem Yag {A B:Prop} (l0:List (Option Bool)) {P1:Prop} (p1:P1) {P2:Prop} (p2:P2) {P3:Prop} (p3:P3) {P4:Prop} (p4:P4) {P5:Prop} (p5:P5) {P6:Prop} (p6:P6) (b:B) (e:Ar l0→P1→P2→P3→P4→P5→P6→Hid B→A:=by intro x0 x1 x2 x3 x4 x5 x6 bZ;refine Z5 Zo x0.v ?_;simp only [push_cast,Nat.reduceAdd,Nat.reduceSub,Nat.reduceMul,Nat.reduceLeDiff,Nat.reduceLT,Nat.reduceEqDiff,↓reduceIte,reduceCtorEq,Int.reduceBEq,Int.reduceBNe,Nat.reduceBEq,Int.reduceLE,Int.reduceLT,Int.reduceEq,Int.reduceNe,Int.reduceNeg,Nat.reduceDiv,Nat.reduceMod,Nat.reducePow,Zb,Ar.v,x1,x2,x3,x4,x5,x6,hN0,hN];exact bZ.get):A:=e ⟨⟩ p1 p2 p3 p4 p5 p6 ⟨b⟩
theorem Yb0 {A:Prop} {P0:Prop} (p0:P0) {P1:Prop} (p1:P1) {P2:Prop} (p2:P2) {P3:Prop} (p3:P3) {P4:Prop} (p4:P4) {P5:Prop} (p5:P5) {P6:Prop} (p6:P6) (e:P0→P1→P2→P3→P4→P5→P6→A:=by intro x0 x1 x2 x3 x4 x5 x6;have h9:=Option.some.inj x0;subst h9;refine And.intro rfl (Fit2.of (Z8 hU rfl rfl ?_) (by omega));simp only [push_cast,Nat.reduceAdd,Nat.reduceSub,Nat.reduceMul,Nat.reduceLeDiff,Nat.reduceLT,Nat.reduceEqDiff,↓reduceIte,reduceCtorEq,Int.reduceBEq,Int.reduceBNe,Nat.reduceBEq,Int.reduceLE,Int.reduceLT,Int.reduceEq,Int.reduceNe,Int.reduceNeg,Nat.reduceDiv,Nat.reduceMod,Nat.reducePow,Zb,x1,x2,x3,x4,x5,x6,hN0,hN]):A:=e p0 p1 p2 p3 p4 p5 p6
theorem Yaf {A:Prop} {P0:Prop} (p0:P0) {P1:Prop} (p1:P1) {P2:Prop} (p2:P2) {P3:Prop} (p3:P3) {P4:Prop} (p4:P4) {P5:Prop} (p5:P5) {P6:Prop} (p6:P6) {P7:Prop} (p7:P7) (e:P0→P1→P2→P3→P4→P5→P6→P7→A:=by intro x0 x1 x2 x3 x4 x5 x6 x7;have h9:=Option.some.inj x0;subst h9;refine And.intro rfl (Fit2.of (Z8 hU rfl rfl ?_) (by omega));simp only [push_cast,Nat.reduceAdd,Nat.reduceSub,Nat.reduceMul,Nat.reduceLeDiff,Nat.reduceLT,Nat.reduceEqDiff,↓reduceIte,reduceCtorEq,Int.reduceBEq,Int.reduceBNe,Nat.reduceBEq,Int.reduceLE,Int.reduceLT,Int.reduceEq,Int.reduceNe,Int.reduceNeg,Nat.reduceDiv,Nat.reduceMod,Nat.reducePow,Zb,x1,x2,x3,x4,x5,x6,x7,hN0,hN]):A:=e p0 p1 p2 p3 p4 p5 p6 p7
theorem zF9 {A B:Prop} {P0:Prop} (p0:P0) {P1:Prop} (p1:P1) {P2:Prop} (p2:P2) {P3:Prop} (p3:P3) {P4:Prop} (p4:P4) {P5:Prop} (p5:P5) {P6:Prop} (p6:P6) {P7:Prop} (p7:P7) {P8:Prop} (p8:P8) (b:B) (e:P0→P1→P2→P3→P4→P5→P6→P7→P8→Hid B→A:=by intro x0 x1 x2 x3 x4 x5 x6 x7 x8 bZ;simp only [push_cast,Nat.reduceAdd,Nat.reduceSub,Nat.reduceMul,Nat.reduceLeDiff,Nat.reduceLT,Nat.reduceEqDiff,↓reduceIte,reduceCtorEq,Int.reduceBEq,Int.reduceBNe,Nat.reduceBEq,Int.reduceLE,Int.reduceLT,Int.reduceEq,Int.reduceNe,Int.reduceNeg,Nat.reduceDiv,Nat.reduceMod,Nat.reducePow,Zb,x0,x1,x2,x3,x4,x5,x6,x7,x8,hN0,hN];exact bZ.get):A:=e p0 p1 p2 p3 p4 p5 p6 p7 p8 ⟨b⟩
theorem Ydu {A:Prop} {P0:Prop} (p0:P0) {P1:Prop} (p1:P1) {P2:Prop} (p2:P2) {P3:Prop} (p3:P3) {P4:Prop} (p4:P4) {P5:Prop} (p5:P5) {P6:Prop} (p6:P6) {P7:Prop} (p7:P7) {P8:Prop} (p8:P8) (e:P0→P1→P2→P3→P4→P5→P6→P7→P8→A:=by intro x0 x1 x2 x3 x4 x5 x6 x7 x8;simp only [push_cast,Nat.reduceAdd,Nat.reduceSub,Nat.reduceMul,Nat.reduceLeDiff,Nat.reduceLT,Nat.reduceEqDiff,↓reduceIte,reduceCtorEq,Int.reduceBEq,Int.reduceBNe,Nat.reduceBEq,Int.reduceLE,Int.reduceLT,Int.reduceEq,Int.reduceNe,Int.reduceNeg,Nat.reduceDiv,Nat.reduceMod,Nat.reducePow,Zb,x0,x1,x2,x3,x4,x5,x6,x7,x8,hN0,hN]):A:=e p0 p1 p2 p3 p4 p5 p6 p7 p8
theorem Yfb {A B:Prop} {P0:Prop} (p0:P0) {P1:Prop} (p1:P1) {P2:Prop} (p2:P2) {P3:Prop} (p3:P3) {P4:Prop} (p4:P4) {P5:Prop} (p5:P5) {P6:Prop} (p6:P6) {P7:Prop} (p7:P7) {P8:Prop} (p8:P8) {P9:Prop} (p9:P9) (b:B) (e:P0→P1→P2→P3→P4→P5→P6→P7→P8→P9→Hid B→A:=by intro x0 x1 x2 x3 x4 x5 x6 x7 x8 x9 bZ;simp only [push_cast,Nat.reduceAdd,Nat.reduceSub,Nat.reduceMul,Nat.reduceLeDiff,Nat.reduceLT,Nat.reduceEqDiff,↓reduceIte,reduceCtorEq,Int.reduceBEq,Int.reduceBNe,Nat.reduceBEq,Int.reduceLE,Int.reduceLT,Int.reduceEq,Int.reduceNe,Int.reduceNeg,Nat.reduceDiv,Nat.reduceMod,Nat.reducePow,Zb,x0,x1,x2,x3,x4,x5,x6,x7,x8,x9,hN0,hN];exact bZ.get):A:=e p0 p1 p2 p3 p4 p5 p6 p7 p8 p9 ⟨b⟩
theorem Yb1 {A:Prop} {P0:Prop} (p0:P0) {P1:Prop} (p1:P1) {P2:Prop} (p2:P2) {P3:Prop} (p3:P3) {P4:Prop} (p4:P4) {P5:Prop} (p5:P5) {P6:Prop} (p6:P6) {P7:Prop} (p7:P7) {P8:Prop} (p8:P8) {P9:Prop} (p9:P9) (e:P0→P1→P2→P3→P4→P5→P6→P7→P8→P9→A:=by intro x0 x1 x2 x3 x4 x5 x6 x7 x8 x9;simp only [push_cast,Nat.reduceAdd,Nat.reduceSub,Nat.reduceMul,Nat.reduceLeDiff,Nat.reduceLT,Nat.reduceEqDiff,↓reduceIte,reduceCtorEq,Int.reduceBEq,Int.reduceBNe,Nat.reduceBEq,Int.reduceLE,Int.reduceLT,Int.reduceEq,Int.reduceNe,Int.reduceNeg,Nat.reduceDiv,Nat.reduceMod,Nat.reducePow,Zb,x0,x1,x2,x3,x4,x5,x6,x7,x8,x9,hN0,hN]):A:=e p0 p1 p2 p3 p4 p5 p6 p7 p8 p9
theorem Yfe {A:Prop} {P0:Prop} (p0:P0) (e:P0→A:=by intro x0;simp only [push_cast,seval,↓reduceIte,Zb,x0,hN0,hN]):A:=e p0
theorem Ydz {A B:Prop} (l0:List (Option Bool)) {P1:Prop} (p1:P1) {P2:Prop} (p2:P2) {P3:Prop} (p3:P3) {P4:Prop} (p4:P4) {P5:Prop} (p5:P5) {P6:Prop} (p6:P6) {P7:Prop} (p7:P7) (b:B) (e:Ar l0→P1→P2→P3→P4→P5→P6→P7→Hid B→A:=by intro x0 x1 x2 x3 x4 x5 x6 x7 bZ;refine Z5 Zo x0.v ?_;simp only [push_cast,seval,↓reduceIte,Zb,Ar.v,x1,x2,x3,x4,x5,x6,x7,hN0,hN];exact bZ.get):A:=e ⟨⟩ p1 p2 p3 p4 p5 p6 p7 ⟨b⟩
theorem Ydr {A:Prop} {P0:Prop} (p0:P0) {P1:Prop} (p1:P1) {P2:Prop} (p2:P2) {P3:Prop} (p3:P3) {P4:Prop} (p4:P4) {P5:Prop} (p5:P5) {P6:Prop} (p6:P6) {P7:Prop} (p7:P7) {P8:Prop} (p8:P8) (e:P0→P1→P2→P3→P4→P5→P6→P7→P8→A:=by intro x0 x1 x2 x3 x4 x5 x6 x7 x8;have h9:=Option.some.inj x0;subst h9;refine And.intro rfl (Fit2.of (Z8 hU rfl rfl ?_) (by omega));simp only [push_cast,Nat.reduceAdd,Nat.reduceSub,Nat.reduceMul,Nat.reduceLeDiff,Nat.reduceLT,Nat.reduceEqDiff,↓reduceIte,reduceCtorEq,Int.reduceBEq,Int.reduceBNe,Nat.reduceBEq,Int.reduceLE,Int.reduceLT,Int.reduceEq,Int.reduceNe,Int.reduceNeg,Nat.reduceDiv,Nat.reduceMod,Nat.reducePow,Zb,x1,x2,x3,x4,x5,x6,x7,x8,hN0,hN]):A:=e p0 p1 p2 p3 p4 p5 p6 p7 p8
theorem Yds {A:Prop} {P0:Prop} (p0:P0) {P1:Prop} (p1:P1) {P2:Prop} (p2:P2) {P3:Prop} (p3:P3) {P4:Prop} (p4:P4) {P5:Prop} (p5:P5) (e:P0→P1→P2→P3→P4→P5→A:=by intro x0 x1 x2 x3 x4 x5;have h9:=Option.some.inj x0;subst h9;refine And.intro rfl (Fit2.of (Z8 hU rfl rfl ?_) (by omega));simp only [push_cast,seval,↓reduceIte,Zb,x1,x2,x3,x4,x5,hN0,hN]):A:=e p0 p1 p2 p3 p4 p5
theorem Yah {A B:Prop} (l0:List (Option Bool)) {P1:Prop} (p1:P1) {P2:Prop} (p2:P2) {P3:Prop} (p3:P3) {P4:Prop} (p4:P4) {P5:Prop} (p5:P5) {P6:Prop} (p6:P6) {P7:Prop} (p7:P7) (b:B) (e:Ar l0→P1→P2→P3→P4→P5→P6→P7→Hid B→A:=by intro x0 x1 x2 x3 x4 x5 x6 x7 bZ;refine Z5 Zo x0.v ?_;simp only [push_cast,Nat.reduceAdd,Nat.reduceSub,Nat.reduceMul,Nat.reduceLeDiff,Nat.reduceLT,Nat.reduceEqDiff,↓reduceIte,reduceCtorEq,Int.reduceBEq,Int.reduceBNe,Nat.reduceBEq,Int.reduceLE,Int.reduceLT,Int.reduceEq,Int.reduceNe,Int.reduceNeg,Nat.reduceDiv,Nat.reduceMod,Nat.reducePow,Zb,Ar.v,x1,x2,x3,x4,x5,x6,x7,hN0,hN];exact bZ.get):A:=e ⟨⟩ p1 p2 p3 p4 p5 p6 p7 ⟨b⟩
theorem Ydw {A B:Prop} {P0:Prop} (p0:P0) {P1:Prop} (p1:P1) {P2:Prop} (p2:P2) {P3:Prop} (p3:P3) {P4:Prop} (p4:P4) {P5:Prop} (p5:P5) {P6:Prop} (p6:P6) {P7:Prop} (p7:P7) {P8:Prop} (p8:P8) {P9:Prop} (p9:P9) (b:B) (e:P0→P1→P2→P3→P4→P5→P6→P7→P8→P9→Hid B→A:=by intro x0 x1 x2 x3 x4 x5 x6 x7 x8 x9 bZ;refine Z5 Zo [] ?_;simp only [push_cast,Nat.reduceAdd,Nat.reduceSub,Nat.reduceMul,Nat.reduceLeDiff,Nat.reduceLT,Nat.reduceEqDiff,↓reduceIte,reduceCtorEq,Int.reduceBEq,Int.reduceBNe,Nat.reduceBEq,Int.reduceLE,Int.reduceLT,Int.reduceEq,Int.reduceNe,Int.reduceNeg,Nat.reduceDiv,Nat.reduceMod,Nat.reducePow,Zb,x0,x1,x2,x3,x4,x5,x6,x7,x8,x9,hN0,hN];exact bZ.get):A:=e p0 p1 p2 p3 p4 p5 p6 p7 p8 p9 ⟨b⟩
theorem Yfc {A:Prop} {P0:Prop} (p0:P0) {P1:Prop} (p1:P1) {P2:Prop} (p2:P2) {P3:Prop} (p3:P3) {P4:Prop} (p4:P4) {P5:Prop} (p5:P5) {P6:Prop} (p6:P6) (e:P0→P1→P2→P3→P4→P5→P6→A:=by intro x0 x1 x2 x3 x4 x5 x6;simp only [push_cast,Nat.reduceAdd,Nat.reduceSub,Nat.reduceMul,Nat.reduceLeDiff,Nat.reduceLT,Nat.reduceEqDiff,↓reduceIte,reduceCtorEq,Int.reduceBEq,Int.reduceBNe,Nat.reduceBEq,Int.reduceLE,Int.reduceLT,Int.reduceEq,Int.reduceNe,Int.reduceNeg,Nat.reduceDiv,Nat.reduceMod,Nat.reducePow,Zb,x0,x1,x2,x3,x4,x5,x6,hN0,hN]):A:=e p0 p1 p2 p3 p4 p5 p6
end Go.Proofs.YtpfbdlcnfekdkaaGreat
