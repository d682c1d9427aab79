/- Part RE of this seat's mirrors: functions of the seat's program, and the plain functions that they are; each theorem bears its own conditions. -/
import Derived.Test.YtmlcnhambfkjaaaGreatTy
import Derived.Test.YtmlcnhambfkjaaaGreatRD
namespace Go.Proofs.YtmlcnhambfkjaaaGreat
open Go.RowKit
set_option linter.unusedVariables false
set_option linter.unusedSimpArgs false
set_option maxRecDepth 100000
set_option maxHeartbeats 4000000
mutual
def Zbp:Za→List G
 | ⟨f0,f1,f2⟩=>[.val (.int .i64 f0),.sl f1.length (fl (eI .u64) f1),.sl f2.length (Zbq f2)]
def Zbq:List Za→List G
 | []=>[]
 | x::xs=>Zbp x++Zbq xs
end
theorem Zmo:∀ xs,Zbq xs=fl Zbp xs
 | []=>by simp [Zbq,fl]
 | x::xs=>by rw [Zbq,Zau,Zmo xs]
def Zb (x:Za):List G:=[.val (.int .i64 x.Kind),.sl x.Words.length (fl (eI .u64) x.Words),.sl x.Kids.length (fl Zbp x.Kids)]
theorem Xe:Zbp=Zb:=by
 funext x
 obtain ⟨_,_,_⟩:=x
 simp only [Zbp,Zmo,Zb,List.cons_append,List.nil_append,List.append_nil]
mutual
theorem Zk6:∀ x,G.pures (Zbp x)=true
 | ⟨f0,f1,f2⟩=>by simp [Zbp,eP,K7,eI,eB,eS,eL,G.pures,G.pure,Zd3,Ym,Zoa f2]
theorem Zoa:∀ xs,G.pures (Zbq xs)=true
 | []=>rfl
 | x::xs=>by simp [Zbq,Zd3,Zk6 x,Zoa xs]
end
theorem Zk8:∀ x,G.pures (Zb x)=true:=fun x=>by rw [← Xe];exact Zk6 x
theorem Kg:∀ x,G.pures ((eI .u64) x)=true:=fun x=>by simp [eI,eB,eS,eL,eP,G.pures,G.pure,Ym,K7,Xe]
theorem Zsw {O O':Objs} {n:Nat} (xs:List Int):wkl O O' n (fl (eI .u64) xs) (fl (eI .u64) xs):=Zfh (Ym Kg xs)
theorem Zsu {O O':Objs} {n:Nat} (xs:List Int) (b b':List G):wkl O O' n (fl (eI .u64) xs++b) (fl (eI .u64) xs++b')=wkl O O' n b b':=Zd0 b b' _ (Ym Kg xs)
theorem Zrw (xs:List Int):(fl (eI .u64) xs).length=xs.length * 1:=Jt (f:=(eI .u64)) (k:=1) (fun _=>rfl) xs
theorem Zsa (xs:List Int):(fl (eI .u64) xs).all G.one=true:=Gd (fun x=>by simp [eI,eB,eS,eL,eP,Zh8,G.one,Value.oneCell']) xs
theorem Zsy {O O':Objs} {n:Nat} (x:Option Int):wk O O' n (gP (eI .u64) x) (gP (eI .u64) x)=True:=Zpx Kg x
theorem Zpw {k:Nat} (x:Option Int):(gP (eI .u64) x).under k=true:=Zdz Kg k x
theorem Zpp {ρ:Nat→Nat} (xs:List Int):G.rens ρ (fl (eI .u64) xs)=fl (eI .u64) xs:=K5 ρ _ (Ym Kg xs)
theorem Zpn {ρ:Nat→Nat} (x:Option Int):(gP (eI .u64) x).ren ρ=gP (eI .u64) x:=Zcr ρ _ (K7 Kg x)
theorem Zsq {k:Nat} (xs:List Int):G.unders k (fl (eI .u64) xs)=true:=Qg _ _ (Ym Kg xs)
theorem Xi:∀ x,G.pures (Zb x)=true:=fun x=>by rw [← Xe];exact Zk6 x
theorem Ziz {O O':Objs} {n:Nat} (xs:List Za):wkl O O' n (fl Zb xs) (fl Zb xs):=Zfh (Ym Xi xs)
theorem Ziy {O O':Objs} {n:Nat} (xs:List Za) (b b':List G):wkl O O' n (fl Zb xs++b) (fl Zb xs++b')=wkl O O' n b b':=Zd0 b b' _ (Ym Xi xs)
theorem Zip (xs:List Za):(fl Zb xs).length=xs.length * 3:=Jt (f:=Zb) (k:=3) (fun _=>rfl) xs
theorem Ziu (xs:List Za):(fl Zb xs).all G.one=true:=Gd (fun x=>by simp [eI,eB,eS,eL,eP,Zh8,G.one,Value.oneCell',Zb]) xs
theorem Zi0 {O O':Objs} {n:Nat} (x:Option Za):wk O O' n (gP Zb x) (gP Zb x)=True:=Zpx Xi x
theorem Zie {k:Nat} (x:Option Za):(gP Zb x).under k=true:=Zdz Xi k x
theorem Zic {ρ:Nat→Nat} (xs:List Za):G.rens ρ (fl Zb xs)=fl Zb xs:=K5 ρ _ (Ym Xi xs)
theorem Zib {ρ:Nat→Nat} (x:Option Za):(gP Zb x).ren ρ=gP Zb x:=Zcr ρ _ (K7 Xi x)
theorem Zix {k:Nat} (xs:List Za):G.unders k (fl Zb xs)=true:=Qg _ _ (Ym Xi xs)
def Zp (x:Zx):List G:=[.val (.int .i64 x.At),.val (.int .u8 x.Mask),.val (.int .u64 x.Old),.val (.int .u64 x.New)]
mutual
def Va:Zf→List G
 | ⟨f0,f1,f2,f3,f4,f5,f6⟩=>[.val (.int .i64 f0),.val (.int .i64 f1.Kind),.sl f1.Words.length (fl (eI .u64) f1.Words),.sl f1.Kids.length (fl Zb f1.Kids),.val (.int .i64 f2.Kind),.sl f2.Words.length (fl (eI .u64) f2.Words),.sl f2.Kids.length (fl Zb f2.Kids),.sl f3.length (fl Zp f3),.sl f4.length (V3 f4),.val (.int .i64 f5),.sl f6.length (Zen f6)]
def Zd1:List Zf→List G
 | []=>[]
 | x::xs=>Va x++Zd1 xs
def Q0:Zl→List G
 | ⟨f0,f1⟩=>[.val (.int .i64 f0)]++Va f1
def V3:List Zl→List G
 | []=>[]
 | x::xs=>Q0 x++V3 xs
def Uq:Zt→List G
 | ⟨f0,f1,f2,f3⟩=>[.val (.int .i64 f0),.val (.int .i64 f1),.sl f2.length (fl Zb f2)]++Va f3
def Zen:List Zt→List G
 | []=>[]
 | x::xs=>Uq x++Zen xs
end
theorem Zfl:∀ xs,Zd1 xs=fl Va xs
 | []=>by simp [Zd1,fl]
 | x::xs=>by rw [Zd1,Zau,Zfl xs]
theorem Zb0:∀ xs,V3 xs=fl Q0 xs
 | []=>by simp [V3,fl]
 | x::xs=>by rw [V3,Zau,Zb0 xs]
theorem Zhn:∀ xs,Zen xs=fl Uq xs
 | []=>by simp [Zen,fl]
 | x::xs=>by rw [Zen,Zau,Zhn xs]
def Zhm (x:Zf):List G:=[.val (.int .i64 x.Kind),.val (.int .i64 x.Old.Kind),.sl x.Old.Words.length (fl (eI .u64) x.Old.Words),.sl x.Old.Kids.length (fl Zb x.Old.Kids),.val (.int .i64 x.New.Kind),.sl x.New.Words.length (fl (eI .u64) x.New.Words),.sl x.New.Kids.length (fl Zb x.New.Kids),.sl x.Words.length (fl Zp x.Words),.sl x.Kids.length (fl Q0 x.Kids),.val (.int .i64 x.List_),.sl x.Ops.length (fl Uq x.Ops)]
def Zr (x:Zl):List G:=[.val (.int .i64 x.At),.val (.int .i64 x.E.Kind),.val (.int .i64 x.E.Old.Kind),.sl x.E.Old.Words.length (fl (eI .u64) x.E.Old.Words),.sl x.E.Old.Kids.length (fl Zb x.E.Old.Kids),.val (.int .i64 x.E.New.Kind),.sl x.E.New.Words.length (fl (eI .u64) x.E.New.Words),.sl x.E.New.Kids.length (fl Zb x.E.New.Kids),.sl x.E.Words.length (fl Zp x.E.Words),.sl x.E.Kids.length (fl Q0 x.E.Kids),.val (.int .i64 x.E.List_),.sl x.E.Ops.length (fl Uq x.E.Ops)]
def Z4 (x:Zt):List G:=[.val (.int .i64 x.Kind),.val (.int .i64 x.N),.sl x.L.length (fl Zb x.L),.val (.int .i64 x.E.Kind),.val (.int .i64 x.E.Old.Kind),.sl x.E.Old.Words.length (fl (eI .u64) x.E.Old.Words),.sl x.E.Old.Kids.length (fl Zb x.E.Old.Kids),.val (.int .i64 x.E.New.Kind),.sl x.E.New.Words.length (fl (eI .u64) x.E.New.Words),.sl x.E.New.Kids.length (fl Zb x.E.New.Kids),.sl x.E.Words.length (fl Zp x.E.Words),.sl x.E.Kids.length (fl Q0 x.E.Kids),.val (.int .i64 x.E.List_),.sl x.E.Ops.length (fl Uq x.E.Ops)]
theorem Jh:Va=Zhm:=by
 funext x
 obtain ⟨_,_,_,_,_,_,_⟩:=x
 simp only [Va,Zfl,Q0,Zb0,Uq,Zhn,Zhm,List.cons_append,List.nil_append,List.append_nil]
theorem X0:Q0=Zr:=by
 funext x
 obtain ⟨_,⟨_,_,_,_,_,_,_⟩⟩:=x
 simp only [Va,Zfl,Q0,Zb0,Uq,Zhn,Zr,List.cons_append,List.nil_append,List.append_nil]
theorem Jq:Uq=Z4:=by
 funext x
 obtain ⟨_,_,_,⟨_,_,_,_,_,_,_⟩⟩:=x
 simp only [Va,Zfl,Q0,Zb0,Uq,Zhn,Z4,List.cons_append,List.nil_append,List.append_nil]
mutual
theorem Zk5:∀ x,G.pures (Va x)=true
 | ⟨f0,f1,f2,f3,f4,f5,f6⟩=>by simp [Va,eP,K7,eI,eB,eS,eL,G.pures,G.pure,Zd3,Ym,Zk9 f4,Zra f6,Kg,Xi,Zk8,Zp]
theorem Zwn:∀ xs,G.pures (Zd1 xs)=true
 | []=>rfl
 | x::xs=>by simp [Zd1,Zd3,Zk5 x,Zwn xs]
theorem Zl0:∀ x,G.pures (Q0 x)=true
 | ⟨f0,f1⟩=>by simp [Q0,eP,K7,eI,eB,eS,eL,G.pures,G.pure,Zd3,Ym,Zk5 f1,Kg,Xi,Zk8,Zp]
theorem Zk9:∀ xs,G.pures (V3 xs)=true
 | []=>rfl
 | x::xs=>by simp [V3,Zd3,Zl0 x,Zk9 xs]
theorem Ztr:∀ x,G.pures (Uq x)=true
 | ⟨f0,f1,f2,f3⟩=>by simp [Uq,eP,K7,eI,eB,eS,eL,G.pures,G.pure,Zd3,Ym,Zk5 f3,Kg,Xi,Zk8,Zp]
theorem Zra:∀ xs,G.pures (Zen xs)=true
 | []=>rfl
 | x::xs=>by simp [Zen,Zd3,Ztr x,Zra xs]
end
theorem Xf:∀ x,G.pures (Zp x)=true:=fun x=>by simp [eI,eB,eS,eL,eP,G.pures,G.pure,Ym,K7,Zp,Kg,Xi,Xe,Jh,X0,Jq]
theorem Zfg {O O':Objs} {n:Nat} (xs:List Zx):wkl O O' n (fl Zp xs) (fl Zp xs):=Zfh (Ym Xf xs)
theorem Zff {O O':Objs} {n:Nat} (xs:List Zx) (b b':List G):wkl O O' n (fl Zp xs++b) (fl Zp xs++b')=wkl O O' n b b':=Zd0 b b' _ (Ym Xf xs)
theorem Zeq (xs:List Zx):(fl Zp xs).length=xs.length * 4:=Jt (f:=Zp) (k:=4) (fun _=>rfl) xs
theorem Ze4 (xs:List Zx):(fl Zp xs).all G.one=true:=Gd (fun x=>by simp [eI,eB,eS,eL,eP,Zh8,G.one,Value.oneCell',Zp]) xs
theorem Zfj {O O':Objs} {n:Nat} (x:Option Zx):wk O O' n (gP Zp x) (gP Zp x)=True:=Zpx Xf x
theorem Zee {k:Nat} (x:Option Zx):(gP Zp x).under k=true:=Zdz Xf k x
theorem Zec {ρ:Nat→Nat} (xs:List Zx):G.rens ρ (fl Zp xs)=fl Zp xs:=K5 ρ _ (Ym Xf xs)
theorem Zeb {ρ:Nat→Nat} (x:Option Zx):(gP Zp x).ren ρ=gP Zp x:=Zcr ρ _ (K7 Xf x)
theorem Zfc {k:Nat} (xs:List Zx):G.unders k (fl Zp xs)=true:=Qg _ _ (Ym Xf xs)
theorem Xm:∀ x,G.pures (Zr x)=true:=fun x=>by rw [← X0];exact Zl0 x
theorem Zf5 {O O':Objs} {n:Nat} (xs:List Zl):wkl O O' n (fl Zr xs) (fl Zr xs):=Zfh (Ym Xm xs)
theorem Zf3 {O O':Objs} {n:Nat} (xs:List Zl) (b b':List G):wkl O O' n (fl Zr xs++b) (fl Zr xs++b')=wkl O O' n b b':=Zd0 b b' _ (Ym Xm xs)
theorem Zft (xs:List Zl):(fl Zr xs).length=xs.length * 12:=Jt (f:=Zr) (k:=12) (fun _=>rfl) xs
theorem Zfz (xs:List Zl):(fl Zr xs).all G.one=true:=Gd (fun x=>by simp [eI,eB,eS,eL,eP,Zh8,G.one,Value.oneCell',Zr]) xs
theorem Zf7 {O O':Objs} {n:Nat} (x:Option Zl):wk O O' n (gP Zr x) (gP Zr x)=True:=Zpx Xm x
theorem Zfd {k:Nat} (x:Option Zl):(gP Zr x).under k=true:=Zdz Xm k x
theorem Ze7 {ρ:Nat→Nat} (xs:List Zl):G.rens ρ (fl Zr xs)=fl Zr xs:=K5 ρ _ (Ym Xm xs)
theorem Ze5 {ρ:Nat→Nat} (x:Option Zl):(gP Zr x).ren ρ=gP Zr x:=Zcr ρ _ (K7 Xm x)
theorem Zf1 {k:Nat} (xs:List Zl):G.unders k (fl Zr xs)=true:=Qg _ _ (Ym Xm xs)
theorem Ji:∀ x,G.pures (Z4 x)=true:=fun x=>by rw [← Jq];exact Ztr x
theorem Zll {O O':Objs} {n:Nat} (xs:List Zt):wkl O O' n (fl Z4 xs) (fl Z4 xs):=Zfh (Ym Ji xs)
theorem Zlk {O O':Objs} {n:Nat} (xs:List Zt) (b b':List G):wkl O O' n (fl Z4 xs++b) (fl Z4 xs++b')=wkl O O' n b b':=Zd0 b b' _ (Ym Ji xs)
theorem Zkn (xs:List Zt):(fl Z4 xs).length=xs.length * 14:=Jt (f:=Z4) (k:=14) (fun _=>rfl) xs
theorem Zk1 (xs:List Zt):(fl Z4 xs).all G.one=true:=Gd (fun x=>by simp [eI,eB,eS,eL,eP,Zh8,G.one,Value.oneCell',Z4]) xs
theorem Zlm {O O':Objs} {n:Nat} (x:Option Zt):wk O O' n (gP Z4 x) (gP Z4 x)=True:=Zpx Ji x
theorem Zjy {k:Nat} (x:Option Zt):(gP Z4 x).under k=true:=Zdz Ji k x
theorem Zju {ρ:Nat→Nat} (xs:List Zt):G.rens ρ (fl Z4 xs)=fl Z4 xs:=K5 ρ _ (Ym Ji xs)
theorem Zjt {ρ:Nat→Nat} (x:Option Zt):(gP Z4 x).ren ρ=gP Z4 x:=Zcr ρ _ (K7 Ji x)
theorem Zli {k:Nat} (xs:List Zt):G.unders k (fl Z4 xs)=true:=Qg _ _ (Ym Ji xs)
theorem Za2:∀ x,G.pures ((eI .i64) x)=true:=fun x=>by simp [eI,eB,eS,eL,eP,G.pures,G.pure,Ym,K7,Kg,Xi,Xf,Xm,Ji,Xe,Jh,X0,Jq]
theorem Zsv {O O':Objs} {n:Nat} (xs:List Int):wkl O O' n (fl (eI .i64) xs) (fl (eI .i64) xs):=Zfh (Ym Za2 xs)
theorem Zst {O O':Objs} {n:Nat} (xs:List Int) (b b':List G):wkl O O' n (fl (eI .i64) xs++b) (fl (eI .i64) xs++b')=wkl O O' n b b':=Zd0 b b' _ (Ym Za2 xs)
theorem Zrv (xs:List Int):(fl (eI .i64) xs).length=xs.length * 1:=Jt (f:=(eI .i64)) (k:=1) (fun _=>rfl) xs
theorem Zr9 (xs:List Int):(fl (eI .i64) xs).all G.one=true:=Gd (fun x=>by simp [eI,eB,eS,eL,eP,Zh8,G.one,Value.oneCell']) xs
theorem Zsx {O O':Objs} {n:Nat} (x:Option Int):wk O O' n (gP (eI .i64) x) (gP (eI .i64) x)=True:=Zpx Za2 x
theorem Zpv {k:Nat} (x:Option Int):(gP (eI .i64) x).under k=true:=Zdz Za2 k x
theorem Zpo {ρ:Nat→Nat} (xs:List Int):G.rens ρ (fl (eI .i64) xs)=fl (eI .i64) xs:=K5 ρ _ (Ym Za2 xs)
theorem Zpm {ρ:Nat→Nat} (x:Option Int):(gP (eI .i64) x).ren ρ=gP (eI .i64) x:=Zcr ρ _ (K7 Za2 x)
theorem Zsp {k:Nat} (xs:List Int):G.unders k (fl (eI .i64) xs)=true:=Qg _ _ (Ym Za2 xs)
def Zov (x:Xk):List G:=[.val (.int .i64 x.Kind),.val (.int .i64 x.Off),.val (.int .i64 x.Data),.val (.int .i64 x.Ptrs),.val (.int .i64 x.Code),.val (.int .i64 x.Count),.val (.int .i64 x.Segment),.val (.bool x.Double)]
def Zjo (x:Zh):List G:=[.sl x.words.length (fl (eI .u64) x.words),.val (.int .i64 x.next)]
theorem Vj:∀ x,G.pures ((eL (eI .u64)) x)=true:=fun x=>by simp [eI,eB,eS,eL,eP,G.pures,G.pure,Ym,K7,Kg,Xi,Xf,Xm,Ji,Za2,Xe,Jh,X0,Jq]
theorem Zmk {O O':Objs} {n:Nat} (xs:List (List Int)):wkl O O' n (fl (eL (eI .u64)) xs) (fl (eL (eI .u64)) xs):=Zfh (Ym Vj xs)
theorem Zmj {O O':Objs} {n:Nat} (xs:List (List Int)) (b b':List G):wkl O O' n (fl (eL (eI .u64)) xs++b) (fl (eL (eI .u64)) xs++b')=wkl O O' n b b':=Zd0 b b' _ (Ym Vj xs)
theorem Zl4 (xs:List (List Int)):(fl (eL (eI .u64)) xs).length=xs.length * 1:=Jt (f:=(eL (eI .u64))) (k:=1) (fun _=>rfl) xs
theorem Zme (xs:List (List Int)):(fl (eL (eI .u64)) xs).all G.one=true:=Gd (fun x=>by simp [eI,eB,eS,eL,eP,Zh8,G.one,Value.oneCell']) xs
theorem Zml {O O':Objs} {n:Nat} (x:Option (List Int)):wk O O' n (gP (eL (eI .u64)) x) (gP (eL (eI .u64)) x)=True:=Zpx Vj x
theorem Zlj {k:Nat} (x:Option (List Int)):(gP (eL (eI .u64)) x).under k=true:=Zdz Vj k x
theorem Zlb {ρ:Nat→Nat} (xs:List (List Int)):G.rens ρ (fl (eL (eI .u64)) xs)=fl (eL (eI .u64)) xs:=K5 ρ _ (Ym Vj xs)
theorem Zla {ρ:Nat→Nat} (x:Option (List Int)):(gP (eL (eI .u64)) x).ren ρ=gP (eL (eI .u64)) x:=Zcr ρ _ (K7 Vj x)
theorem Zmi {k:Nat} (xs:List (List Int)):G.unders k (fl (eL (eI .u64)) xs)=true:=Qg _ _ (Ym Vj xs)
def Zv (x:Zz):List G:=[.sl x.segments.length (fl (eL (eI .u64)) x.segments),.val (.int .i64 x.size),.val (.int .i64 x.left)]
theorem Qv:∀ x,G.pures (Zv x)=true:=fun x=>by simp [eI,eB,eS,eL,eP,G.pures,G.pure,Ym,K7,Zv,Kg,Xi,Xf,Xm,Ji,Za2,Vj,Xe,Jh,X0,Jq]
theorem Zf6 {O O':Objs} {n:Nat} (xs:List Zz):wkl O O' n (fl Zv xs) (fl Zv xs):=Zfh (Ym Qv xs)
theorem Zf4 {O O':Objs} {n:Nat} (xs:List Zz) (b b':List G):wkl O O' n (fl Zv xs++b) (fl Zv xs++b')=wkl O O' n b b':=Zd0 b b' _ (Ym Qv xs)
theorem Zfu (xs:List Zz):(fl Zv xs).length=xs.length * 3:=Jt (f:=Zv) (k:=3) (fun _=>rfl) xs
theorem Zf0 (xs:List Zz):(fl Zv xs).all G.one=true:=Gd (fun x=>by simp [eI,eB,eS,eL,eP,Zh8,G.one,Value.oneCell',Zv]) xs
theorem Zf8 {O O':Objs} {n:Nat} (x:Option Zz):wk O O' n (gP Zv x) (gP Zv x)=True:=Zpx Qv x
theorem Zfe {k:Nat} (x:Option Zz):(gP Zv x).under k=true:=Zdz Qv k x
theorem Ze8 {ρ:Nat→Nat} (xs:List Zz):G.rens ρ (fl Zv xs)=fl Zv xs:=K5 ρ _ (Ym Qv xs)
theorem Ze6 {ρ:Nat→Nat} (x:Option Zz):(gP Zv x).ren ρ=gP Zv x:=Zcr ρ _ (K7 Qv x)
theorem Zf2 {k:Nat} (xs:List Zz):G.unders k (fl Zv xs)=true:=Qg _ _ (Ym Qv xs)
def Zki (x:X2):List G:=[.val (.int .i64 x.Depth),.val (.int .i64 x.Weight),.val (.int .i64 x.MaxD),.val (.int .i64 x.MaxOut)]
def Zou (x:Qy):List G:=[.val (.int .i64 x.P.Kind),.val (.int .i64 x.P.Off),.val (.int .i64 x.P.Data),.val (.int .i64 x.P.Ptrs),.val (.int .i64 x.P.Code),.val (.int .i64 x.P.Count),.val (.int .i64 x.P.Segment),.val (.bool x.P.Double),.val (.int .i64 x.Segment),.val (.int .i64 x.At)]
def Zkj (x:Zj):List G:=[(gP Zv x.a),.val (.int .i64 x.kind),.val (.int .i64 x.segment),.val (.int .i64 x.at_),.val (.int .i64 x.words),.val (.int .i64 x.ptrs),.val (.int .i64 x.count),.val (.int .i64 x.code),.val (.int .i64 x.index)]
def Ys (x:Zk):List G:=[.val (.int .i64 x.left)]
theorem Qn:∀ x,G.pures (Ys x)=true:=fun x=>by simp [eI,eB,eS,eL,eP,G.pures,G.pure,Ym,K7,Ys,Kg,Xi,Xf,Xm,Ji,Za2,Vj,Qv,Xe,Jh,X0,Jq]
theorem Zeg {O O':Objs} {n:Nat} (xs:List Zk):wkl O O' n (fl Ys xs) (fl Ys xs):=Zfh (Ym Qn xs)
theorem Zef {O O':Objs} {n:Nat} (xs:List Zk) (b b':List G):wkl O O' n (fl Ys xs++b) (fl Ys xs++b')=wkl O O' n b b':=Zd0 b b' _ (Ym Qn xs)
theorem Zd5 (xs:List Zk):(fl Ys xs).length=xs.length * 1:=Jt (f:=Ys) (k:=1) (fun _=>rfl) xs
theorem Zd9 (xs:List Zk):(fl Ys xs).all G.one=true:=Gd (fun x=>by simp [eI,eB,eS,eL,eP,Zh8,G.one,Value.oneCell',Ys]) xs
theorem Zeh {O O':Objs} {n:Nat} (x:Option Zk):wk O O' n (gP Ys x) (gP Ys x)=True:=Zpx Qn x
theorem Zde {k:Nat} (x:Option Zk):(gP Ys x).under k=true:=Zdz Qn k x
theorem Zdd {ρ:Nat→Nat} (xs:List Zk):G.rens ρ (fl Ys xs)=fl Ys xs:=K5 ρ _ (Ym Qn xs)
theorem Zdc {ρ:Nat→Nat} (x:Option Zk):(gP Ys x).ren ρ=gP Ys x:=Zcr ρ _ (K7 Qn x)
theorem Zed {k:Nat} (xs:List Zk):G.unders k (fl Ys xs)=true:=Qg _ _ (Ym Qn xs)
def Yg (x:Z5):List G:=[.val (.int .i64 x.left)]
theorem Qm:∀ x,G.pures (Yg x)=true:=fun x=>by simp [eI,eB,eS,eL,eP,G.pures,G.pure,Ym,K7,Yg,Kg,Xi,Xf,Xm,Ji,Za2,Vj,Qv,Qn,Xe,Jh,X0,Jq]
theorem Zcv {O O':Objs} {n:Nat} (xs:List Z5):wkl O O' n (fl Yg xs) (fl Yg xs):=Zfh (Ym Qm xs)
theorem Zcu {O O':Objs} {n:Nat} (xs:List Z5) (b b':List G):wkl O O' n (fl Yg xs++b) (fl Yg xs++b')=wkl O O' n b b':=Zd0 b b' _ (Ym Qm xs)
theorem Zch (xs:List Z5):(fl Yg xs).length=xs.length * 1:=Jt (f:=Yg) (k:=1) (fun _=>rfl) xs
theorem Zcq (xs:List Z5):(fl Yg xs).all G.one=true:=Gd (fun x=>by simp [eI,eB,eS,eL,eP,Zh8,G.one,Value.oneCell',Yg]) xs
theorem Zcw {O O':Objs} {n:Nat} (x:Option Z5):wk O O' n (gP Yg x) (gP Yg x)=True:=Zpx Qm x
theorem Zbw {k:Nat} (x:Option Z5):(gP Yg x).under k=true:=Zdz Qm k x
theorem Zbv {ρ:Nat→Nat} (xs:List Z5):G.rens ρ (fl Yg xs)=fl Yg xs:=K5 ρ _ (Ym Qm xs)
theorem Zbu {ρ:Nat→Nat} (x:Option Z5):(gP Yg x).ren ρ=gP Yg x:=Zcr ρ _ (K7 Qm x)
theorem Zct {k:Nat} (xs:List Z5):G.unders k (fl Yg xs)=true:=Qg _ _ (Ym Qm xs)
theorem Zk7:∀ x,G.pures ((eI .u8) x)=true:=fun x=>by simp [eI,eB,eS,eL,eP,G.pures,G.pure,Ym,K7,Kg,Xi,Xf,Xm,Ji,Za2,Vj,Qv,Qn,Qm,Xe,Jh,X0,Jq]
theorem Zvy {O O':Objs} {n:Nat} (xs:List Int):wkl O O' n (fl (eI .u8) xs) (fl (eI .u8) xs):=Zfh (Ym Zk7 xs)
theorem Zvx {O O':Objs} {n:Nat} (xs:List Int) (b b':List G):wkl O O' n (fl (eI .u8) xs++b) (fl (eI .u8) xs++b')=wkl O O' n b b':=Zd0 b b' _ (Ym Zk7 xs)
theorem Zuy (xs:List Int):(fl (eI .u8) xs).length=xs.length * 1:=Jt (f:=(eI .u8)) (k:=1) (fun _=>rfl) xs
theorem Zvc (xs:List Int):(fl (eI .u8) xs).all G.one=true:=Gd (fun x=>by simp [eI,eB,eS,eL,eP,Zh8,G.one,Value.oneCell']) xs
theorem Zvz {O O':Objs} {n:Nat} (x:Option Int):wk O O' n (gP (eI .u8) x) (gP (eI .u8) x)=True:=Zpx Zk7 x
theorem Zsr {k:Nat} (x:Option Int):(gP (eI .u8) x).under k=true:=Zdz Zk7 k x
theorem Zsk {ρ:Nat→Nat} (xs:List Int):G.rens ρ (fl (eI .u8) xs)=fl (eI .u8) xs:=K5 ρ _ (Ym Zk7 xs)
theorem Zsj {ρ:Nat→Nat} (x:Option Int):(gP (eI .u8) x).ren ρ=gP (eI .u8) x:=Zcr ρ _ (K7 Zk7 x)
theorem Zvv {k:Nat} (xs:List Int):G.unders k (fl (eI .u8) xs)=true:=Qg _ _ (Ym Zk7 xs)
def Yy (x:Zt):List G:=[.val (.int .i64 x.Kind),.val (.int .i64 x.N),.sl x.L.length (fl Zb x.L),.val (.int .i64 x.E.Kind),.val (.int .i64 x.E.Old.Kind),.sl x.E.Old.Words.length (fl (eI .u64) x.E.Old.Words),.sl x.E.Old.Kids.length (fl Zb x.E.Old.Kids),.val (.int .i64 x.E.New.Kind),.sl x.E.New.Words.length (fl (eI .u64) x.E.New.Words),.sl x.E.New.Kids.length (fl Zb x.E.New.Kids),.sl x.E.Words.length (fl Zp x.E.Words),.sl x.E.Kids.length (fl Zr x.E.Kids),.val (.int .i64 x.E.List_),.sl x.E.Ops.length (fl Z4 x.E.Ops)]
def Ge (x:Zl):List G:=[.val (.int .i64 x.At),.val (.int .i64 x.E.Kind),.val (.int .i64 x.E.Old.Kind),.sl x.E.Old.Words.length (fl (eI .u64) x.E.Old.Words),.sl x.E.Old.Kids.length (fl Zb x.E.Old.Kids),.val (.int .i64 x.E.New.Kind),.sl x.E.New.Words.length (fl (eI .u64) x.E.New.Words),.sl x.E.New.Kids.length (fl Zb x.E.New.Kids),.sl x.E.Words.length (fl Zp x.E.Words),.sl x.E.Kids.length (fl Zr x.E.Kids),.val (.int .i64 x.E.List_),.sl x.E.Ops.length (fl Z4 x.E.Ops)]
def Zi (x:Zf):List G:=[.val (.int .i64 x.Kind),.val (.int .i64 x.Old.Kind),.sl x.Old.Words.length (fl (eI .u64) x.Old.Words),.sl x.Old.Kids.length (fl Zb x.Old.Kids),.val (.int .i64 x.New.Kind),.sl x.New.Words.length (fl (eI .u64) x.New.Words),.sl x.New.Kids.length (fl Zb x.New.Kids),.sl x.Words.length (fl Zp x.Words),.sl x.Kids.length (fl Zr x.Kids),.val (.int .i64 x.List_),.sl x.Ops.length (fl Z4 x.Ops)]
def Vn (x:Qy):List G:=[.val (.int .i64 x.P.Kind),.val (.int .i64 x.P.Off),.val (.int .i64 x.P.Data),.val (.int .i64 x.P.Ptrs),.val (.int .i64 x.P.Code),.val (.int .i64 x.P.Count),.val (.int .i64 x.P.Segment),.val (.bool x.P.Double),.val (.int .i64 x.Segment),.val (.int .i64 x.At)]
def Zu (x:Zj):List G:=[(gP Zv x.a),.val (.int .i64 x.kind),.val (.int .i64 x.segment),.val (.int .i64 x.at_),.val (.int .i64 x.words),.val (.int .i64 x.ptrs),.val (.int .i64 x.count),.val (.int .i64 x.code),.val (.int .i64 x.index)]
def Q7 (x:Xk):List G:=[.val (.int .i64 x.Kind),.val (.int .i64 x.Off),.val (.int .i64 x.Data),.val (.int .i64 x.Ptrs),.val (.int .i64 x.Code),.val (.int .i64 x.Count),.val (.int .i64 x.Segment),.val (.bool x.Double)]
def Zd (x:Za):List G:=[.val (.int .i64 x.Kind),.sl x.Words.length (fl (eI .u64) x.Words),.sl x.Kids.length (fl Zb x.Kids)]
def Xz (x:X2):List G:=[.val (.int .i64 x.Depth),.val (.int .i64 x.Weight),.val (.int .i64 x.MaxD),.val (.int .i64 x.MaxOut)]
def Zce (x:Zx):List G:=[.val (.int .i64 x.At),.val (.int .u8 x.Mask),.val (.int .u64 x.Old),.val (.int .u64 x.New)]
abbrev vI (x:Int):G := .val (.int .i64 x)
abbrev vB (x:Bool):G := .val (.bool x)
abbrev nV:G := .val (.slice none 0 0)
abbrev sL {α:Type} (e:α→List G) (x:List α):G := .sl x.length (fl e x)
abbrev oR {α:Type} (t s:Nat) (e:α→List G) (x:List α):GObj:=⟨true,t,s,x.length,fl e x⟩
structure Hid (p:Prop):Prop where
 get:p
structure Ar {α:Type} (a:α):Prop where
def Ar.v {α:Type} {a:α} (_:Ar a):α:=a
theorem zQ {A B:Prop} (l0:List Nat) (b:B) (e:Ar l0→Hid B→A:=by intro x0 bZ;refine Zhc x0.v (Yt Zq [] ?_);simp only [push_cast,seval,↓reduceIte,Zc,Ar.v,hN0,hN];exact bZ.get):A:=e ⟨⟩ ⟨b⟩
theorem zQD {A B:Prop} (l0:List Nat) (l1:List (Option Bool)) (b:B) (e:Ar l0→Ar l1→Hid B→A:=by intro x0 x1 bZ;refine Zhc x0.v (Yt Zq x1.v ?_);simp only [push_cast,seval,↓reduceIte,Zc,Ar.v,hN0,hN];(repeat (with_reducible refine And.intro (by first | (intro h0;simp only [h0,and_self];done) | (intro h0;simp only [h0,Bool.not_false,Bool.not_true,Bool.true_and,Bool.and_true,true_and,and_true,and_self,imp_self,implies_true,bne_iff_ne,ne_eq,beq_iff_eq];done) | (intros;simp_all;done) | exact True.intro) ?_));exact bZ.get):A:=e ⟨⟩ ⟨⟩ ⟨b⟩
theorem zW {A B:Prop} (b:B) (e:Hid B→A:=by intro bZ;refine Ykw ?_;(try simp only [Y1,Yc]);exact bZ.get):A:=e ⟨b⟩
theorem Qd {A B:Prop} (l0:List Nat) (l1:List Bool) (b:B) (e:Ar l0→Ar l1→Hid B→A:=by intro x0 x1 bZ;refine Yc8 ?_;(try simp only [Y1,Yc]);refine Zug x0.v x1.v ?_;simp only [push_cast,seval,↓reduceIte,Ar.v];exact bZ.get):A:=e ⟨⟩ ⟨⟩ ⟨b⟩
theorem zQd {A B:Prop} (l0:List Nat) (l1:List Nat) (l2:List Bool) (b:B) (e:Ar l0→Ar l1→Ar l2→Hid B→A:=by intro x0 x1 x2 bZ;refine Zhc x0.v (Yt Zq [] ?_);simp only [push_cast,seval,↓reduceIte,Zc,Ar.v,hN0,hN];refine Zug x1.v x2.v ?_;simp only [push_cast,seval,↓reduceIte,Ar.v];exact bZ.get):A:=e ⟨⟩ ⟨⟩ ⟨⟩ ⟨b⟩
theorem Gc {A B:Prop} (l0:List (Option Bool)) {P1:Prop} (p1:P1) {P2:Prop} (p2:P2) {P3:Prop} (p3:P3) (b:B) (e:Ar l0→P1→P2→P3→Hid B→A:=by intro x0 x1 x2 x3 bZ;refine Yt Zq x0.v ?_;simp only [push_cast,Nat.reduceAdd,Nat.reduceSub,Nat.reduceMul,Nat.reduceLeDiff,Nat.reduceLT,Nat.reduceEqDiff,↓reduceIte,reduceCtorEq,Int.reduceBEq,Int.reduceBNe,Nat.reduceBEq,Int.reduceLE,Int.reduceLT,Int.reduceEq,Int.reduceNe,Int.reduceNeg,Nat.reduceDiv,Nat.reduceMod,Nat.reducePow,Zc,Ar.v,x1,x2,x3,hN0,hN];exact bZ.get):A:=e ⟨⟩ p1 p2 p3 ⟨b⟩
theorem zF3 {A B:Prop} {P0:Prop} (p0:P0) {P1:Prop} (p1:P1) {P2:Prop} (p2:P2) (b:B) (e:P0→P1→P2→Hid B→A:=by intro x0 x1 x2 bZ;simp only [push_cast,Nat.reduceAdd,Nat.reduceSub,Nat.reduceMul,Nat.reduceLeDiff,Nat.reduceLT,Nat.reduceEqDiff,↓reduceIte,reduceCtorEq,Int.reduceBEq,Int.reduceBNe,Nat.reduceBEq,Int.reduceLE,Int.reduceLT,Int.reduceEq,Int.reduceNe,Int.reduceNeg,Nat.reduceDiv,Nat.reduceMod,Nat.reducePow,Zc,x0,x1,x2,hN0,hN];exact bZ.get):A:=e p0 p1 p2 ⟨b⟩
theorem zD {A B:Prop} (l0:List Nat) (l1:List Bool) (b:B) (e:Ar l0→Ar l1→Hid B→A:=by intro x0 x1 bZ;refine Zug x0.v x1.v ?_;simp only [push_cast,seval,↓reduceIte,Ar.v];exact bZ.get):A:=e ⟨⟩ ⟨⟩ ⟨b⟩
theorem zR {A B:Prop} (b:B) (e:Hid B→A:=by intro bZ;refine Yt Zq [] ?_;simp only [push_cast,seval,↓reduceIte,Zc,hN0,hN];exact bZ.get):A:=e ⟨b⟩
theorem Gv {A:Prop} {P0:Prop} (p0:P0) (e:P0→A:=by intro x0;have h9:=Option.some.inj x0;subst h9;refine And.intro rfl (Fit2.of (Z6 hU rfl rfl ?_) (by omega));simp only [push_cast,seval,↓reduceIte,Zc,hN0,hN]):A:=e p0
theorem zEx {A:Prop} {P0:Prop} (p0:P0) (e:P0→A:=by intro x0;refine Yc5 ?_;(try simp only [Y1,Yc,↓reduceIte,Nat.reduceEqDiff]);have h9:=Option.some.inj x0;subst h9;refine And.intro (fun h=>by cases h) (And.intro rfl (Fit2.of (Z6 hU rfl rfl ?_) (by omega)));simp only [push_cast,seval,↓reduceIte,Zc,hN0,hN]):A:=e p0
theorem zCd {A B:Prop} {P0:Prop} (p0:P0) (l1:List Nat) (l2:List Bool) (b:B) (e:P0→Ar l1→Ar l2→Hid B→A:=by intro x0 x1 x2 bZ;refine Yt Zq [] ?_;simp only [push_cast,seval,↓reduceIte,Zc,hN0,hN];refine x0.then ?_;simp only [push_cast,seval,↓reduceIte,Zc,hN0,hN];refine Zug x1.v x2.v ?_;simp only [push_cast,seval,↓reduceIte,Ar.v];exact bZ.get):A:=e p0 ⟨⟩ ⟨⟩ ⟨b⟩
theorem zRd {A B:Prop} (l0:List Nat) (l1:List Bool) (b:B) (e:Ar l0→Ar l1→Hid B→A:=by intro x0 x1 bZ;refine Yt Zq [] ?_;simp only [push_cast,seval,↓reduceIte,Zc,hN0,hN];refine Zug x0.v x1.v ?_;simp only [push_cast,seval,↓reduceIte,Ar.v];exact bZ.get):A:=e ⟨⟩ ⟨⟩ ⟨b⟩
theorem zDs {A B:Prop} (l0:List Nat) (l1:List Bool) (b:B) (e:Ar l0→Ar l1→Hid B→A:=by intro x0 x1 bZ;refine Zug x0.v x1.v ?_;simp only [push_cast,seval,↓reduceIte,Ar.v];refine Ze ?_;exact bZ.get):A:=e ⟨⟩ ⟨⟩ ⟨b⟩
theorem zEy {A:Prop} {P0:Prop} (p0:P0) (e:P0→A:=by intro x0;have h9:=Option.some.inj x0;subst h9;refine And.intro (fun h=>by cases h) (And.intro rfl (Fit2.of (Z6 hU rfl rfl ?_) (by omega)));simp only [push_cast,seval,↓reduceIte,Zc,hN0,hN]):A:=e p0
theorem zX1 {A B:Prop} {P0:Prop} (p0:P0) (b:B) (e:P0→Hid B→A:=by intro x0 bZ;simp only [push_cast,seval,↓reduceIte,Zc,x0,hN0,hN];exact bZ.get):A:=e p0 ⟨b⟩
theorem zG {A B:Prop} (b:B) (e:Hid B→A:=by intro bZ;(repeat (with_reducible refine And.intro (by first | (intro h0;simp only [h0,and_self];done) | (intro h0;simp only [h0,Bool.not_false,Bool.not_true,Bool.true_and,Bool.and_true,true_and,and_true,and_self,imp_self,implies_true,bne_iff_ne,ne_eq,beq_iff_eq];done) | (intros;simp_all;done) | exact True.intro) ?_));exact bZ.get):A:=e ⟨b⟩
theorem Qf {A:Prop} {P0:Prop} (p0:P0) {P1:Prop} (p1:P1) (e:P0→P1→A:=by intro x0 x1;have h9:=Option.some.inj x0;subst h9;refine And.intro rfl (Fit2.of (Z6 hU rfl rfl ?_) (by omega));simp only [push_cast,seval,↓reduceIte,Zc,x1,hN0,hN]):A:=e p0 p1
theorem zX3 {A B:Prop} {P0:Prop} (p0:P0) {P1:Prop} (p1:P1) {P2:Prop} (p2:P2) (b:B) (e:P0→P1→P2→Hid B→A:=by intro x0 x1 x2 bZ;simp only [push_cast,seval,↓reduceIte,Zc,x0,x1,x2,hN0,hN];exact bZ.get):A:=e p0 p1 p2 ⟨b⟩
theorem Zfk {A:Prop} {P0:Prop} (p0:P0) {P1:Prop} (p1:P1) {P2:Prop} (p2:P2) {P3:Prop} (p3:P3) (e:P0→P1→P2→P3→A:=by intro x0 x1 x2 x3;have h9:=Option.some.inj x0;subst h9;refine And.intro rfl (Fit2.of (Z6 hU rfl rfl ?_) (by omega));simp only [push_cast,seval,↓reduceIte,Zc,x1,x2,x3,hN0,hN]):A:=e p0 p1 p2 p3
theorem zF8 {A B:Prop} {P0:Prop} (p0:P0) {P1:Prop} (p1:P1) {P2:Prop} (p2:P2) {P3:Prop} (p3:P3) {P4:Prop} (p4:P4) {P5:Prop} (p5:P5) {P6:Prop} (p6:P6) {P7:Prop} (p7:P7) (b:B) (e:P0→P1→P2→P3→P4→P5→P6→P7→Hid B→A:=by intro x0 x1 x2 x3 x4 x5 x6 x7 bZ;simp only [push_cast,Nat.reduceAdd,Nat.reduceSub,Nat.reduceMul,Nat.reduceLeDiff,Nat.reduceLT,Nat.reduceEqDiff,↓reduceIte,reduceCtorEq,Int.reduceBEq,Int.reduceBNe,Nat.reduceBEq,Int.reduceLE,Int.reduceLT,Int.reduceEq,Int.reduceNe,Int.reduceNeg,Nat.reduceDiv,Nat.reduceMod,Nat.reducePow,Zc,x0,x1,x2,x3,x4,x5,x6,x7,hN0,hN];exact bZ.get):A:=e p0 p1 p2 p3 p4 p5 p6 p7 ⟨b⟩
theorem Yoy {A:Prop} {P0:Prop} (p0:P0) {P1:Prop} (p1:P1) {P2:Prop} (p2:P2) {P3:Prop} (p3:P3) {P4:Prop} (p4:P4) {P5:Prop} (p5:P5) {P6:Prop} (p6:P6) {P7:Prop} (p7:P7) {P8:Prop} (p8:P8) (e:P0→P1→P2→P3→P4→P5→P6→P7→P8→A:=by intro x0 x1 x2 x3 x4 x5 x6 x7 x8;have h9:=Option.some.inj x0;subst h9;refine And.intro rfl (Fit2.of (Z6 hU rfl rfl ?_) (by omega));simp only [push_cast,Nat.reduceAdd,Nat.reduceSub,Nat.reduceMul,Nat.reduceLeDiff,Nat.reduceLT,Nat.reduceEqDiff,↓reduceIte,reduceCtorEq,Int.reduceBEq,Int.reduceBNe,Nat.reduceBEq,Int.reduceLE,Int.reduceLT,Int.reduceEq,Int.reduceNe,Int.reduceNeg,Nat.reduceDiv,Nat.reduceMod,Nat.reducePow,Zc,x1,x2,x3,x4,x5,x6,x7,x8,hN0,hN]):A:=e p0 p1 p2 p3 p4 p5 p6 p7 p8
theorem zX5 {A B:Prop} {P0:Prop} (p0:P0) {P1:Prop} (p1:P1) {P2:Prop} (p2:P2) {P3:Prop} (p3:P3) {P4:Prop} (p4:P4) (b:B) (e:P0→P1→P2→P3→P4→Hid B→A:=by intro x0 x1 x2 x3 x4 bZ;simp only [push_cast,seval,↓reduceIte,Zc,x0,x1,x2,x3,x4,hN0,hN];exact bZ.get):A:=e p0 p1 p2 p3 p4 ⟨b⟩
theorem Z2b {A:Prop} {P0:Prop} (p0:P0) {P1:Prop} (p1:P1) {P2:Prop} (p2:P2) {P3:Prop} (p3:P3) {P4:Prop} (p4:P4) {P5:Prop} (p5:P5) (e:P0→P1→P2→P3→P4→P5→A:=by intro x0 x1 x2 x3 x4 x5;have h9:=Option.some.inj x0;subst h9;refine And.intro rfl (Fit2.of (Z6 hU rfl rfl ?_) (by omega));simp only [push_cast,seval,↓reduceIte,Zc,x1,x2,x3,x4,x5,hN0,hN]):A:=e p0 p1 p2 p3 p4 p5
theorem zX4 {A B:Prop} {P0:Prop} (p0:P0) {P1:Prop} (p1:P1) {P2:Prop} (p2:P2) {P3:Prop} (p3:P3) (b:B) (e:P0→P1→P2→P3→Hid B→A:=by intro x0 x1 x2 x3 bZ;simp only [push_cast,seval,↓reduceIte,Zc,x0,x1,x2,x3,hN0,hN];exact bZ.get):A:=e p0 p1 p2 p3 ⟨b⟩
theorem Zpz {A:Prop} {P0:Prop} (p0:P0) {P1:Prop} (p1:P1) {P2:Prop} (p2:P2) {P3:Prop} (p3:P3) {P4:Prop} (p4:P4) (e:P0→P1→P2→P3→P4→A:=by intro x0 x1 x2 x3 x4;have h9:=Option.some.inj x0;subst h9;refine And.intro rfl (Fit2.of (Z6 hU rfl rfl ?_) (by omega));simp only [push_cast,seval,↓reduceIte,Zc,x1,x2,x3,x4,hN0,hN]):A:=e p0 p1 p2 p3 p4
theorem zF7 {A B:Prop} {P0:Prop} (p0:P0) {P1:Prop} (p1:P1) {P2:Prop} (p2:P2) {P3:Prop} (p3:P3) {P4:Prop} (p4:P4) {P5:Prop} (p5:P5) {P6:Prop} (p6:P6) (b:B) (e:P0→P1→P2→P3→P4→P5→P6→Hid B→A:=by intro x0 x1 x2 x3 x4 x5 x6 bZ;simp only [push_cast,Nat.reduceAdd,Nat.reduceSub,Nat.reduceMul,Nat.reduceLeDiff,Nat.reduceLT,Nat.reduceEqDiff,↓reduceIte,reduceCtorEq,Int.reduceBEq,Int.reduceBNe,Nat.reduceBEq,Int.reduceLE,Int.reduceLT,Int.reduceEq,Int.reduceNe,Int.reduceNeg,Nat.reduceDiv,Nat.reduceMod,Nat.reducePow,Zc,x0,x1,x2,x3,x4,x5,x6,hN0,hN];exact bZ.get):A:=e p0 p1 p2 p3 p4 p5 p6 ⟨b⟩
theorem Yjh {A:Prop} {P0:Prop} (p0:P0) {P1:Prop} (p1:P1) {P2:Prop} (p2:P2) {P3:Prop} (p3:P3) {P4:Prop} (p4:P4) {P5:Prop} (p5:P5) {P6:Prop} (p6:P6) {P7:Prop} (p7:P7) (e:P0→P1→P2→P3→P4→P5→P6→P7→A:=by intro x0 x1 x2 x3 x4 x5 x6 x7;have h9:=Option.some.inj x0;subst h9;refine And.intro rfl (Fit2.of (Z6 hU rfl rfl ?_) (by omega));simp only [push_cast,Nat.reduceAdd,Nat.reduceSub,Nat.reduceMul,Nat.reduceLeDiff,Nat.reduceLT,Nat.reduceEqDiff,↓reduceIte,reduceCtorEq,Int.reduceBEq,Int.reduceBNe,Nat.reduceBEq,Int.reduceLE,Int.reduceLT,Int.reduceEq,Int.reduceNe,Int.reduceNeg,Nat.reduceDiv,Nat.reduceMod,Nat.reducePow,Zc,x1,x2,x3,x4,x5,x6,x7,hN0,hN]):A:=e p0 p1 p2 p3 p4 p5 p6 p7
theorem Xy {A B:Prop} (l0:List (Option Bool)) {P1:Prop} (p1:P1) {P2:Prop} (p2:P2) (b:B) (e:Ar l0→P1→P2→Hid B→A:=by intro x0 x1 x2 bZ;refine Yt Zq x0.v ?_;simp only [push_cast,seval,↓reduceIte,Zc,Ar.v,x1,x2,hN0,hN];exact bZ.get):A:=e ⟨⟩ p1 p2 ⟨b⟩
theorem zX2 {A B:Prop} {P0:Prop} (p0:P0) {P1:Prop} (p1:P1) (b:B) (e:P0→P1→Hid B→A:=by intro x0 x1 bZ;simp only [push_cast,seval,↓reduceIte,Zc,x0,x1,hN0,hN];exact bZ.get):A:=e p0 p1 ⟨b⟩
theorem Zbo {A:Prop} {P0:Prop} (p0:P0) {P1:Prop} (p1:P1) {P2:Prop} (p2:P2) (e:P0→P1→P2→A:=by intro x0 x1 x2;have h9:=Option.some.inj x0;subst h9;refine And.intro rfl (Fit2.of (Z6 hU rfl rfl ?_) (by omega));simp only [push_cast,seval,↓reduceIte,Zc,x1,x2,hN0,hN]):A:=e p0 p1 p2
theorem Q2 {A B:Prop} (l0:List (Option Bool)) {P1:Prop} (p1:P1) (b:B) (e:Ar l0→P1→Hid B→A:=by intro x0 x1 bZ;refine Yt Zq x0.v ?_;simp only [push_cast,seval,↓reduceIte,Zc,Ar.v,x1,hN0,hN];exact bZ.get):A:=e ⟨⟩ p1 ⟨b⟩
theorem Gu {A B:Prop} (l0:List (Option Bool)) {P1:Prop} (p1:P1) {P2:Prop} (p2:P2) {P3:Prop} (p3:P3) (b:B) (e:Ar l0→P1→P2→P3→Hid B→A:=by intro x0 x1 x2 x3 bZ;refine Yt Zq x0.v ?_;simp only [push_cast,seval,↓reduceIte,Zc,Ar.v,x1,x2,x3,hN0,hN];exact bZ.get):A:=e ⟨⟩ p1 p2 p3 ⟨b⟩
theorem zRo {A B:Prop} (l0:List (Option Bool)) (b:B) (e:Ar l0→Hid B→A:=by intro x0 bZ;refine Yt Zq x0.v ?_;simp only [push_cast,seval,↓reduceIte,Zc,Ar.v,hN0,hN];exact bZ.get):A:=e ⟨⟩ ⟨b⟩
theorem zTs {A B:Prop} {P0:Prop} (p0:P0) (b:B) (e:P0→Hid B→A:=by intro x0 bZ;refine x0.then ?_;simp only [push_cast,seval,↓reduceIte,Zc,hN0,hN];exact bZ.get):A:=e p0 ⟨b⟩
theorem Z7p {A B:Prop} (l0:List (Option Bool)) {P1:Prop} (p1:P1) {P2:Prop} (p2:P2) {P3:Prop} (p3:P3) {P4:Prop} (p4:P4) {P5:Prop} (p5:P5) (b:B) (e:Ar l0→P1→P2→P3→P4→P5→Hid B→A:=by intro x0 x1 x2 x3 x4 x5 bZ;refine Yt Zq x0.v ?_;simp only [push_cast,Nat.reduceAdd,Nat.reduceSub,Nat.reduceMul,Nat.reduceLeDiff,Nat.reduceLT,Nat.reduceEqDiff,↓reduceIte,reduceCtorEq,Int.reduceBEq,Int.reduceBNe,Nat.reduceBEq,Int.reduceLE,Int.reduceLT,Int.reduceEq,Int.reduceNe,Int.reduceNeg,Nat.reduceDiv,Nat.reduceMod,Nat.reducePow,Zc,Ar.v,x1,x2,x3,x4,x5,hN0,hN];exact bZ.get):A:=e ⟨⟩ p1 p2 p3 p4 p5 ⟨b⟩
theorem zF5 {A B:Prop} {P0:Prop} (p0:P0) {P1:Prop} (p1:P1) {P2:Prop} (p2:P2) {P3:Prop} (p3:P3) {P4:Prop} (p4:P4) (b:B) (e:P0→P1→P2→P3→P4→Hid B→A:=by intro x0 x1 x2 x3 x4 bZ;simp only [push_cast,Nat.reduceAdd,Nat.reduceSub,Nat.reduceMul,Nat.reduceLeDiff,Nat.reduceLT,Nat.reduceEqDiff,↓reduceIte,reduceCtorEq,Int.reduceBEq,Int.reduceBNe,Nat.reduceBEq,Int.reduceLE,Int.reduceLT,Int.reduceEq,Int.reduceNe,Int.reduceNeg,Nat.reduceDiv,Nat.reduceMod,Nat.reducePow,Zc,x0,x1,x2,x3,x4,hN0,hN];exact bZ.get):A:=e p0 p1 p2 p3 p4 ⟨b⟩
theorem Yjg {A:Prop} {P0:Prop} (p0:P0) {P1:Prop} (p1:P1) {P2:Prop} (p2:P2) {P3:Prop} (p3:P3) {P4:Prop} (p4:P4) {P5:Prop} (p5:P5) (e:P0→P1→P2→P3→P4→P5→A:=by intro x0 x1 x2 x3 x4 x5;have h9:=Option.some.inj x0;subst h9;refine And.intro rfl (Fit2.of (Z6 hU rfl rfl ?_) (by omega));simp only [push_cast,Nat.reduceAdd,Nat.reduceSub,Nat.reduceMul,Nat.reduceLeDiff,Nat.reduceLT,Nat.reduceEqDiff,↓reduceIte,reduceCtorEq,Int.reduceBEq,Int.reduceBNe,Nat.reduceBEq,Int.reduceLE,Int.reduceLT,Int.reduceEq,Int.reduceNe,Int.reduceNeg,Nat.reduceDiv,Nat.reduceMod,Nat.reducePow,Zc,x1,x2,x3,x4,x5,hN0,hN]):A:=e p0 p1 p2 p3 p4 p5
theorem zK {A B:Prop} (b:B) (e:Hid B→A:=by intro bZ;refine Yc8 ?_;(try simp only [Y1,Yc]);exact bZ.get):A:=e ⟨b⟩
theorem zC {A B:Prop} {P0:Prop} (p0:P0) (b:B) (e:P0→Hid B→A:=by intro x0 bZ;refine Yt Zq [] ?_;simp only [push_cast,seval,↓reduceIte,Zc,hN0,hN];refine x0.then ?_;simp only [push_cast,seval,↓reduceIte,Zc,hN0,hN];exact bZ.get):A:=e p0 ⟨b⟩
theorem Gl {A:Prop} (e:A:=by simp only [push_cast,seval,↓reduceIte,Zc,hN0,hN]):A:=e
theorem zS {A B:Prop} (b:B) (e:Hid B→A:=by intro bZ;simp only [push_cast,seval,↓reduceIte,Zc,hN0,hN];exact bZ.get):A:=e ⟨b⟩
theorem Q4 {A:Prop} {P0:Prop} (p0:P0) {P1:Prop} (p1:P1) (e:P0→P1→A:=by intro x0 x1;simp only [push_cast,seval,↓reduceIte,Zc,x0,x1,hN0,hN]):A:=e p0 p1
theorem Yc4 {A:Prop} {P0:Prop} (p0:P0) (e:P0→A:=by intro x0;simp only [push_cast,seval,↓reduceIte,Zc,x0,hN0,hN]):A:=e p0
theorem zXt {A B:Prop} (b:B) (e:Hid B→A:=by intro bZ;refine Yc5 ?_;(try simp only [Y1,Yc,↓reduceIte,Nat.reduceEqDiff]);exact bZ.get):A:=e ⟨b⟩
theorem Zm7 {A B:Prop} (l0:List (Option Bool)) {P1:Prop} (p1:P1) {P2:Prop} (p2:P2) {P3:Prop} (p3:P3) {P4:Prop} (p4:P4) (b:B) (e:Ar l0→P1→P2→P3→P4→Hid B→A:=by intro x0 x1 x2 x3 x4 bZ;refine Yt Zq x0.v ?_;simp only [push_cast,seval,↓reduceIte,Zc,Ar.v,x1,x2,x3,x4,hN0,hN];exact bZ.get):A:=e ⟨⟩ p1 p2 p3 p4 ⟨b⟩
theorem Yjj {A B:Prop} (l0:List (Option Bool)) {P1:Prop} (p1:P1) {P2:Prop} (p2:P2) {P3:Prop} (p3:P3) {P4:Prop} (p4:P4) {P5:Prop} (p5:P5) {P6:Prop} (p6:P6) (b:B) (e:Ar l0→P1→P2→P3→P4→P5→P6→Hid B→A:=by intro x0 x1 x2 x3 x4 x5 x6 bZ;refine Yt Zq x0.v ?_;simp only [push_cast,seval,↓reduceIte,Zc,Ar.v,x1,x2,x3,x4,x5,x6,hN0,hN];exact bZ.get):A:=e ⟨⟩ p1 p2 p3 p4 p5 p6 ⟨b⟩
theorem Yji {A:Prop} {P0:Prop} (p0:P0) {P1:Prop} (p1:P1) {P2:Prop} (p2:P2) {P3:Prop} (p3:P3) {P4:Prop} (p4:P4) {P5:Prop} (p5:P5) {P6:Prop} (p6:P6) (e:P0→P1→P2→P3→P4→P5→P6→A:=by intro x0 x1 x2 x3 x4 x5 x6;have h9:=Option.some.inj x0;subst h9;refine And.intro rfl (Fit2.of (Z6 hU rfl rfl ?_) (by omega));simp only [push_cast,seval,↓reduceIte,Zc,x1,x2,x3,x4,x5,x6,hN0,hN]):A:=e p0 p1 p2 p3 p4 p5 p6
theorem zX6 {A B:Prop} {P0:Prop} (p0:P0) {P1:Prop} (p1:P1) {P2:Prop} (p2:P2) {P3:Prop} (p3:P3) {P4:Prop} (p4:P4) {P5:Prop} (p5:P5) (b:B) (e:P0→P1→P2→P3→P4→P5→Hid B→A:=by intro x0 x1 x2 x3 x4 x5 bZ;simp only [push_cast,seval,↓reduceIte,Zc,x0,x1,x2,x3,x4,x5,hN0,hN];exact bZ.get):A:=e p0 p1 p2 p3 p4 p5 ⟨b⟩
theorem Z2c {A B:Prop} (l0:List (Option Bool)) {P1:Prop} (p1:P1) {P2:Prop} (p2:P2) {P3:Prop} (p3:P3) {P4:Prop} (p4:P4) {P5:Prop} (p5:P5) (b:B) (e:Ar l0→P1→P2→P3→P4→P5→Hid B→A:=by intro x0 x1 x2 x3 x4 x5 bZ;refine Yt Zq x0.v ?_;simp only [push_cast,seval,↓reduceIte,Zc,Ar.v,x1,x2,x3,x4,x5,hN0,hN];exact bZ.get):A:=e ⟨⟩ p1 p2 p3 p4 p5 ⟨b⟩
theorem Zjn {A:Prop} {P0:Prop} (p0:P0) {P1:Prop} (p1:P1) {P2:Prop} (p2:P2) (e:P0→P1→P2→A:=by intro x0 x1 x2;simp only [push_cast,seval,↓reduceIte,Zc,x0,x1,x2,hN0,hN]):A:=e p0 p1 p2
theorem zEf {A:Prop} (e:A:=by refine And.intro rfl (Fit2.of (Z6 hU rfl rfl ?_) (by omega));simp only [push_cast,seval,↓reduceIte,Zc,hN0,hN]):A:=e
theorem Yox {A:Prop} {P0:Prop} (p0:P0) {P1:Prop} (p1:P1) {P2:Prop} (p2:P2) (e:P0→P1→P2→A:=by intro x0 x1 x2;refine And.intro rfl (Fit2.of (Z6 hU rfl rfl ?_) (by omega));simp only [push_cast,seval,↓reduceIte,Zc,x0,x1,x2,hN0,hN]):A:=e p0 p1 p2
theorem Yb5 {A B:Prop} (l0:List (Option Bool)) {P1:Prop} (p1:P1) {P2:Prop} (p2:P2) {P3:Prop} (p3:P3) {P4:Prop} (p4:P4) (b:B) (e:Ar l0→P1→P2→P3→P4→Hid B→A:=by intro x0 x1 x2 x3 x4 bZ;refine Yt Zq x0.v ?_;simp only [push_cast,Nat.reduceAdd,Nat.reduceSub,Nat.reduceMul,Nat.reduceLeDiff,Nat.reduceLT,Nat.reduceEqDiff,↓reduceIte,reduceCtorEq,Int.reduceBEq,Int.reduceBNe,Nat.reduceBEq,Int.reduceLE,Int.reduceLT,Int.reduceEq,Int.reduceNe,Int.reduceNeg,Nat.reduceDiv,Nat.reduceMod,Nat.reducePow,Zc,Ar.v,x1,x2,x3,x4,hN0,hN];exact bZ.get):A:=e ⟨⟩ p1 p2 p3 p4 ⟨b⟩
theorem Yjf {A:Prop} {P0:Prop} (p0:P0) {P1:Prop} (p1:P1) {P2:Prop} (p2:P2) {P3:Prop} (p3:P3) {P4:Prop} (p4:P4) (e:P0→P1→P2→P3→P4→A:=by intro x0 x1 x2 x3 x4;have h9:=Option.some.inj x0;subst h9;refine And.intro rfl (Fit2.of (Z6 hU rfl rfl ?_) (by omega));simp only [push_cast,Nat.reduceAdd,Nat.reduceSub,Nat.reduceMul,Nat.reduceLeDiff,Nat.reduceLT,Nat.reduceEqDiff,↓reduceIte,reduceCtorEq,Int.reduceBEq,Int.reduceBNe,Nat.reduceBEq,Int.reduceLE,Int.reduceLT,Int.reduceEq,Int.reduceNe,Int.reduceNeg,Nat.reduceDiv,Nat.reduceMod,Nat.reducePow,Zc,x1,x2,x3,x4,hN0,hN]):A:=e p0 p1 p2 p3 p4
theorem Yo3 {A B:Prop} (l0:List Nat) {P1:Prop} (p1:P1) {P2:Prop} (p2:P2) {P3:Prop} (p3:P3) {P4:Prop} (p4:P4) (b:B) (e:Ar l0→P1→P2→P3→P4→Hid B→A:=by intro x0 x1 x2 x3 x4 bZ;refine Zhc x0.v (Yt Zq [] ?_);simp only [push_cast,seval,↓reduceIte,Zc,Ar.v,x1,x2,x3,x4,hN0,hN];exact bZ.get):A:=e ⟨⟩ p1 p2 p3 p4 ⟨b⟩
theorem zF4 {A B:Prop} {P0:Prop} (p0:P0) {P1:Prop} (p1:P1) {P2:Prop} (p2:P2) {P3:Prop} (p3:P3) (b:B) (e:P0→P1→P2→P3→Hid B→A:=by intro x0 x1 x2 x3 bZ;simp only [push_cast,Nat.reduceAdd,Nat.reduceSub,Nat.reduceMul,Nat.reduceLeDiff,Nat.reduceLT,Nat.reduceEqDiff,↓reduceIte,reduceCtorEq,Int.reduceBEq,Int.reduceBNe,Nat.reduceBEq,Int.reduceLE,Int.reduceLT,Int.reduceEq,Int.reduceNe,Int.reduceNeg,Nat.reduceDiv,Nat.reduceMod,Nat.reducePow,Zc,x0,x1,x2,x3,hN0,hN];exact bZ.get):A:=e p0 p1 p2 p3 ⟨b⟩
theorem Zax {A B:Prop} (l0:List Nat) {P1:Prop} (p1:P1) {P2:Prop} (p2:P2) (b:B) (e:Ar l0→P1→P2→Hid B→A:=by intro x0 x1 x2 bZ;refine Zhc x0.v (Yt Zq [] ?_);simp only [push_cast,seval,↓reduceIte,Zc,Ar.v,x1,x2,hN0,hN];exact bZ.get):A:=e ⟨⟩ p1 p2 ⟨b⟩
theorem zF6 {A B:Prop} {P0:Prop} (p0:P0) {P1:Prop} (p1:P1) {P2:Prop} (p2:P2) {P3:Prop} (p3:P3) {P4:Prop} (p4:P4) {P5:Prop} (p5:P5) (b:B) (e:P0→P1→P2→P3→P4→P5→Hid B→A:=by intro x0 x1 x2 x3 x4 x5 bZ;simp only [push_cast,Nat.reduceAdd,Nat.reduceSub,Nat.reduceMul,Nat.reduceLeDiff,Nat.reduceLT,Nat.reduceEqDiff,↓reduceIte,reduceCtorEq,Int.reduceBEq,Int.reduceBNe,Nat.reduceBEq,Int.reduceLE,Int.reduceLT,Int.reduceEq,Int.reduceNe,Int.reduceNeg,Nat.reduceDiv,Nat.reduceMod,Nat.reducePow,Zc,x0,x1,x2,x3,x4,x5,hN0,hN];exact bZ.get):A:=e p0 p1 p2 p3 p4 p5 ⟨b⟩
theorem zO {A B:Prop} (b:B) (e:Hid B→A:=by intro bZ;(repeat (with_reducible refine And.intro (by first | omega | exact Y3 rfl | exact Yp | exact Yca rfl | exact Z5u rfl rfl | exact X3 rfl | exact Xr rfl) ?_));exact bZ.get):A:=e ⟨b⟩
theorem Ykq {A:Prop} {P0:Prop} (p0:P0) {P1:Prop} (p1:P1) {P2:Prop} (p2:P2) {P3:Prop} (p3:P3) {P4:Prop} (p4:P4) {P5:Prop} (p5:P5) (e:P0→P1→P2→P3→P4→P5→A:=by intro x0 x1 x2 x3 x4 x5;simp only [push_cast,Nat.reduceAdd,Nat.reduceSub,Nat.reduceMul,Nat.reduceLeDiff,Nat.reduceLT,Nat.reduceEqDiff,↓reduceIte,reduceCtorEq,Int.reduceBEq,Int.reduceBNe,Nat.reduceBEq,Int.reduceLE,Int.reduceLT,Int.reduceEq,Int.reduceNe,Int.reduceNeg,Nat.reduceDiv,Nat.reduceMod,Nat.reducePow,Zc,x0,x1,x2,x3,x4,x5,hN0,hN]):A:=e p0 p1 p2 p3 p4 p5
theorem Yo2 {A B:Prop} (l0:List Nat) {P1:Prop} (p1:P1) (b:B) (e:Ar l0→P1→Hid B→A:=by intro x0 x1 bZ;refine Zhc x0.v (Yt Zq [] ?_);simp only [push_cast,seval,↓reduceIte,Zc,Ar.v,x1,hN0,hN];exact bZ.get):A:=e ⟨⟩ p1 ⟨b⟩
theorem Yo5 {A B:Prop} (l0:List (Option Bool)) {P1:Prop} (p1:P1) {P2:Prop} (p2:P2) {P3:Prop} (p3:P3) {P4:Prop} (p4:P4) {P5:Prop} (p5:P5) {P6:Prop} (p6:P6) {P7:Prop} (p7:P7) {P8:Prop} (p8:P8) (b:B) (e:Ar l0→P1→P2→P3→P4→P5→P6→P7→P8→Hid B→A:=by intro x0 x1 x2 x3 x4 x5 x6 x7 x8 bZ;refine Yt Zq x0.v ?_;simp only [push_cast,Nat.reduceAdd,Nat.reduceSub,Nat.reduceMul,Nat.reduceLeDiff,Nat.reduceLT,Nat.reduceEqDiff,↓reduceIte,reduceCtorEq,Int.reduceBEq,Int.reduceBNe,Nat.reduceBEq,Int.reduceLE,Int.reduceLT,Int.reduceEq,Int.reduceNe,Int.reduceNeg,Nat.reduceDiv,Nat.reduceMod,Nat.reducePow,Zc,Ar.v,x1,x2,x3,x4,x5,x6,x7,x8,hN0,hN];exact bZ.get):A:=e ⟨⟩ p1 p2 p3 p4 p5 p6 p7 p8 ⟨b⟩
theorem Yje {A:Prop} {P0:Prop} (p0:P0) {P1:Prop} (p1:P1) {P2:Prop} (p2:P2) {P3:Prop} (p3:P3) {P4:Prop} (p4:P4) {P5:Prop} (p5:P5) (e:P0→P1→P2→P3→P4→P5→A:=by intro x0 x1 x2 x3 x4 x5;refine And.intro rfl (Fit2.of (Z6 hU rfl rfl ?_) (by omega));simp only [push_cast,Nat.reduceAdd,Nat.reduceSub,Nat.reduceMul,Nat.reduceLeDiff,Nat.reduceLT,Nat.reduceEqDiff,↓reduceIte,reduceCtorEq,Int.reduceBEq,Int.reduceBNe,Nat.reduceBEq,Int.reduceLE,Int.reduceLT,Int.reduceEq,Int.reduceNe,Int.reduceNeg,Nat.reduceDiv,Nat.reduceMod,Nat.reducePow,Zc,x0,x1,x2,x3,x4,x5,hN0,hN]):A:=e p0 p1 p2 p3 p4 p5
theorem Ykr {A:Prop} {P0:Prop} (p0:P0) {P1:Prop} (p1:P1) {P2:Prop} (p2:P2) {P3:Prop} (p3:P3) (e:P0→P1→P2→P3→A:=by intro x0 x1 x2 x3;simp only [push_cast,seval,↓reduceIte,Zc,x0,x1,x2,x3,hN0,hN]):A:=e p0 p1 p2 p3
theorem Yo7 {A:Prop} {P0:Prop} (p0:P0) {P1:Prop} (p1:P1) {P2:Prop} (p2:P2) {P3:Prop} (p3:P3) {P4:Prop} (p4:P4) (e:P0→P1→P2→P3→P4→A:=by intro x0 x1 x2 x3 x4;simp only [push_cast,seval,↓reduceIte,Zc,x0,x1,x2,x3,x4,hN0,hN]):A:=e p0 p1 p2 p3 p4
theorem Yo4 {A B:Prop} (l0:List (Option Bool)) {P1:Prop} (p1:P1) {P2:Prop} (p2:P2) {P3:Prop} (p3:P3) {P4:Prop} (p4:P4) {P5:Prop} (p5:P5) {P6:Prop} (p6:P6) {P7:Prop} (p7:P7) (b:B) (e:Ar l0→P1→P2→P3→P4→P5→P6→P7→Hid B→A:=by intro x0 x1 x2 x3 x4 x5 x6 x7 bZ;refine Yt Zq x0.v ?_;simp only [push_cast,Nat.reduceAdd,Nat.reduceSub,Nat.reduceMul,Nat.reduceLeDiff,Nat.reduceLT,Nat.reduceEqDiff,↓reduceIte,reduceCtorEq,Int.reduceBEq,Int.reduceBNe,Nat.reduceBEq,Int.reduceLE,Int.reduceLT,Int.reduceEq,Int.reduceNe,Int.reduceNeg,Nat.reduceDiv,Nat.reduceMod,Nat.reducePow,Zc,Ar.v,x1,x2,x3,x4,x5,x6,x7,hN0,hN];exact bZ.get):A:=e ⟨⟩ p1 p2 p3 p4 p5 p6 p7 ⟨b⟩
theorem Yow {A:Prop} {P0:Prop} (p0:P0) {P1:Prop} (p1:P1) {P2:Prop} (p2:P2) {P3:Prop} (p3:P3) {P4:Prop} (p4:P4) {P5:Prop} (p5:P5) {P6:Prop} (p6:P6) {P7:Prop} (p7:P7) (e:P0→P1→P2→P3→P4→P5→P6→P7→A:=by intro x0 x1 x2 x3 x4 x5 x6 x7;refine And.intro rfl (Fit2.of (Z6 hU rfl rfl ?_) (by omega));simp only [push_cast,Nat.reduceAdd,Nat.reduceSub,Nat.reduceMul,Nat.reduceLeDiff,Nat.reduceLT,Nat.reduceEqDiff,↓reduceIte,reduceCtorEq,Int.reduceBEq,Int.reduceBNe,Nat.reduceBEq,Int.reduceLE,Int.reduceLT,Int.reduceEq,Int.reduceNe,Int.reduceNeg,Nat.reduceDiv,Nat.reduceMod,Nat.reducePow,Zc,x0,x1,x2,x3,x4,x5,x6,x7,hN0,hN]):A:=e p0 p1 p2 p3 p4 p5 p6 p7
theorem Yo1 {A:Prop} {P0:Prop} (p0:P0) {P1:Prop} (p1:P1) {P2:Prop} (p2:P2) {P3:Prop} (p3:P3) {P4:Prop} (p4:P4) {P5:Prop} (p5:P5) {P6:Prop} (p6:P6) {P7:Prop} (p7:P7) (e:P0→P1→P2→P3→P4→P5→P6→P7→A:=by intro x0 x1 x2 x3 x4 x5 x6 x7;simp only [push_cast,Nat.reduceAdd,Nat.reduceSub,Nat.reduceMul,Nat.reduceLeDiff,Nat.reduceLT,Nat.reduceEqDiff,↓reduceIte,reduceCtorEq,Int.reduceBEq,Int.reduceBNe,Nat.reduceBEq,Int.reduceLE,Int.reduceLT,Int.reduceEq,Int.reduceNe,Int.reduceNeg,Nat.reduceDiv,Nat.reduceMod,Nat.reducePow,Zc,x0,x1,x2,x3,x4,x5,x6,x7,hN0,hN]):A:=e p0 p1 p2 p3 p4 p5 p6 p7
theorem Yo6 {A B:Prop} (l0:List (Option Bool)) {P1:Prop} (p1:P1) {P2:Prop} (p2:P2) {P3:Prop} (p3:P3) {P4:Prop} (p4:P4) {P5:Prop} (p5:P5) {P6:Prop} (p6:P6) {P7:Prop} (p7:P7) (b:B) (e:Ar l0→P1→P2→P3→P4→P5→P6→P7→Hid B→A:=by intro x0 x1 x2 x3 x4 x5 x6 x7 bZ;refine Yt Zq x0.v ?_;simp only [push_cast,seval,↓reduceIte,Zc,Ar.v,x1,x2,x3,x4,x5,x6,x7,hN0,hN];exact bZ.get):A:=e ⟨⟩ p1 p2 p3 p4 p5 p6 p7 ⟨b⟩
theorem zF9 {A B:Prop} {P0:Prop} (p0:P0) {P1:Prop} (p1:P1) {P2:Prop} (p2:P2) {P3:Prop} (p3:P3) {P4:Prop} (p4:P4) {P5:Prop} (p5:P5) {P6:Prop} (p6:P6) {P7:Prop} (p7:P7) {P8:Prop} (p8:P8) (b:B) (e:P0→P1→P2→P3→P4→P5→P6→P7→P8→Hid B→A:=by intro x0 x1 x2 x3 x4 x5 x6 x7 x8 bZ;simp only [push_cast,Nat.reduceAdd,Nat.reduceSub,Nat.reduceMul,Nat.reduceLeDiff,Nat.reduceLT,Nat.reduceEqDiff,↓reduceIte,reduceCtorEq,Int.reduceBEq,Int.reduceBNe,Nat.reduceBEq,Int.reduceLE,Int.reduceLT,Int.reduceEq,Int.reduceNe,Int.reduceNeg,Nat.reduceDiv,Nat.reduceMod,Nat.reducePow,Zc,x0,x1,x2,x3,x4,x5,x6,x7,x8,hN0,hN];exact bZ.get):A:=e p0 p1 p2 p3 p4 p5 p6 p7 p8 ⟨b⟩
theorem Yqt {A:Prop} {P0:Prop} (p0:P0) {P1:Prop} (p1:P1) {P2:Prop} (p2:P2) {P3:Prop} (p3:P3) {P4:Prop} (p4:P4) {P5:Prop} (p5:P5) {P6:Prop} (p6:P6) {P7:Prop} (p7:P7) {P8:Prop} (p8:P8) (e:P0→P1→P2→P3→P4→P5→P6→P7→P8→A:=by intro x0 x1 x2 x3 x4 x5 x6 x7 x8;simp only [push_cast,Nat.reduceAdd,Nat.reduceSub,Nat.reduceMul,Nat.reduceLeDiff,Nat.reduceLT,Nat.reduceEqDiff,↓reduceIte,reduceCtorEq,Int.reduceBEq,Int.reduceBNe,Nat.reduceBEq,Int.reduceLE,Int.reduceLT,Int.reduceEq,Int.reduceNe,Int.reduceNeg,Nat.reduceDiv,Nat.reduceMod,Nat.reducePow,Zc,x0,x1,x2,x3,x4,x5,x6,x7,x8,hN0,hN]):A:=e p0 p1 p2 p3 p4 p5 p6 p7 p8
theorem Yoz {A B:Prop} {P0:Prop} (p0:P0) {P1:Prop} (p1:P1) {P2:Prop} (p2:P2) {P3:Prop} (p3:P3) {P4:Prop} (p4:P4) {P5:Prop} (p5:P5) {P6:Prop} (p6:P6) {P7:Prop} (p7:P7) {P8:Prop} (p8:P8) {P9:Prop} (p9:P9) {P10:Prop} (p10:P10) (b:B) (e:P0→P1→P2→P3→P4→P5→P6→P7→P8→P9→P10→Hid B→A:=by intro x0 x1 x2 x3 x4 x5 x6 x7 x8 x9 x10 bZ;simp only [push_cast,Nat.reduceAdd,Nat.reduceSub,Nat.reduceMul,Nat.reduceLeDiff,Nat.reduceLT,Nat.reduceEqDiff,↓reduceIte,reduceCtorEq,Int.reduceBEq,Int.reduceBNe,Nat.reduceBEq,Int.reduceLE,Int.reduceLT,Int.reduceEq,Int.reduceNe,Int.reduceNeg,Nat.reduceDiv,Nat.reduceMod,Nat.reducePow,Zc,x0,x1,x2,x3,x4,x5,x6,x7,x8,x9,x10,hN0,hN];exact bZ.get):A:=e p0 p1 p2 p3 p4 p5 p6 p7 p8 p9 p10 ⟨b⟩
theorem Yo0 {A:Prop} {P0:Prop} (p0:P0) {P1:Prop} (p1:P1) {P2:Prop} (p2:P2) {P3:Prop} (p3:P3) {P4:Prop} (p4:P4) {P5:Prop} (p5:P5) {P6:Prop} (p6:P6) {P7:Prop} (p7:P7) {P8:Prop} (p8:P8) {P9:Prop} (p9:P9) {P10:Prop} (p10:P10) (e:P0→P1→P2→P3→P4→P5→P6→P7→P8→P9→P10→A:=by intro x0 x1 x2 x3 x4 x5 x6 x7 x8 x9 x10;simp only [push_cast,Nat.reduceAdd,Nat.reduceSub,Nat.reduceMul,Nat.reduceLeDiff,Nat.reduceLT,Nat.reduceEqDiff,↓reduceIte,reduceCtorEq,Int.reduceBEq,Int.reduceBNe,Nat.reduceBEq,Int.reduceLE,Int.reduceLT,Int.reduceEq,Int.reduceNe,Int.reduceNeg,Nat.reduceDiv,Nat.reduceMod,Nat.reducePow,Zc,x0,x1,x2,x3,x4,x5,x6,x7,x8,x9,x10,hN0,hN]):A:=e p0 p1 p2 p3 p4 p5 p6 p7 p8 p9 p10
end Go.Proofs.YtmlcnhambfkjaaaGreat
