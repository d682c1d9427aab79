/- Part UE of this seat's mirrors: functions of the seat's program, and the plain functions that they are; each theorem bears its own conditions. -/
import Derived.Test.YtaddaloondpnkaaTy
import Derived.Test.YtaddaloondpnkaaUD
namespace Go.Proofs.Ytaddaloondpnkaa
open Go.RowKit
set_option linter.unusedVariables false
set_option linter.unusedSimpArgs false
set_option maxRecDepth 100000
set_option maxHeartbeats 4000000
def Zo (x:Yg):List G:=[.sl x.segments.length (fl (eL (eI .u64)) x.segments),.val (.int .i64 x.size),.val (.int .i64 x.left)]
theorem Kh:∀ x,G.pures ((eI .u64) x)=true:=fun x=>by simp [eI,eB,eS,eL,eP,G.pures,G.pure,Yr,Zbt]
theorem Gc {O O':Objs} {n:Nat} (xs:List Int):Kt O O' n (fl (eI .u64) xs) (fl (eI .u64) xs):=J9 (Yr Kh xs)
theorem Zaz {O O':Objs} {n:Nat} (xs:List Int) (b b':List G):Kt O O' n (fl (eI .u64) xs++b) (fl (eI .u64) xs++b')=Kt O O' n b b':=Zhl b b' _ (Yr Kh xs)
theorem Zal (xs:List Int):(fl (eI .u64) xs).length=xs.length * 1:=Qq (f:=(eI .u64)) (k:=1) (fun _=>rfl) xs
theorem Zap (xs:List Int):(fl (eI .u64) xs).all G.one=true:=Uj (fun x=>by simp [eI,eB,eS,eL,eP,Zdt,G.one,Value.oneCell']) xs
theorem Za2 {O O':Objs} {n:Nat} (x:Option Int):wk O O' n (gP (eI .u64) x) (gP (eI .u64) x)=True:=Zxu Kh x
theorem Ga {k:Nat} (x:Option Int):(gP (eI .u64) x).under k=true:=Zhk Kh k x
theorem U6 {ρ:Nat→Nat} (xs:List Int):G.rens ρ (fl (eI .u64) xs)=fl (eI .u64) xs:=Vm ρ _ (Yr Kh xs)
theorem U4 {ρ:Nat→Nat} (x:Option Int):(gP (eI .u64) x).ren ρ=gP (eI .u64) x:=Zfa ρ _ (Zbt Kh x)
theorem Jj {k:Nat} (xs:List Int):G.unders k (fl (eI .u64) xs)=true:=Y7 _ _ (Yr Kh xs)
theorem Xs:∀ x,G.pures ((eL (eI .u64)) x)=true:=fun x=>by simp [eI,eB,eS,eL,eP,G.pures,G.pure,Yr,Zbt,Kh]
theorem K2 {O O':Objs} {n:Nat} (xs:List (List Int)):Kt O O' n (fl (eL (eI .u64)) xs) (fl (eL (eI .u64)) xs):=J9 (Yr Xs xs)
theorem K1 {O O':Objs} {n:Nat} (xs:List (List Int)) (b b':List G):Kt O O' n (fl (eL (eI .u64)) xs++b) (fl (eL (eI .u64)) xs++b')=Kt O O' n b b':=Zhl b b' _ (Yr Xs xs)
theorem Kx (xs:List (List Int)):(fl (eL (eI .u64)) xs).length=xs.length * 1:=Qq (f:=(eL (eI .u64))) (k:=1) (fun _=>rfl) xs
theorem Kz (xs:List (List Int)):(fl (eL (eI .u64)) xs).all G.one=true:=Uj (fun x=>by simp [eI,eB,eS,eL,eP,Zdt,G.one,Value.oneCell']) xs
theorem K3 {O O':Objs} {n:Nat} (x:Option (List Int)):wk O O' n (gP (eL (eI .u64)) x) (gP (eL (eI .u64)) x)=True:=Zxu Xs x
theorem J8 {k:Nat} (x:Option (List Int)):(gP (eL (eI .u64)) x).under k=true:=Zhk Xs k x
theorem J6 {ρ:Nat→Nat} (xs:List (List Int)):G.rens ρ (fl (eL (eI .u64)) xs)=fl (eL (eI .u64)) xs:=Vm ρ _ (Yr Xs xs)
theorem J5 {ρ:Nat→Nat} (x:Option (List Int)):(gP (eL (eI .u64)) x).ren ρ=gP (eL (eI .u64)) x:=Zfa ρ _ (Zbt Xs x)
theorem K0 {k:Nat} (xs:List (List Int)):G.unders k (fl (eL (eI .u64)) xs)=true:=Y7 _ _ (Yr Xs xs)
def Xk (x:Zmk):List G:=[.sl x.L.length (fl (eL (eI .u64)) x.L),.val (.int .i64 x.Size),.val (.int .i64 x.Most),.val (.int .i64 x.Used)]
theorem Y6:∀ x,G.pures (Zo x)=true:=fun x=>by simp [eI,eB,eS,eL,eP,G.pures,G.pure,Yr,Zbt,Zo,Kh,Xs]
theorem X0 {O O':Objs} {n:Nat} (xs:List Yg):Kt O O' n (fl Zo xs) (fl Zo xs):=J9 (Yr Y6 xs)
theorem Xz {O O':Objs} {n:Nat} (xs:List Yg) (b b':List G):Kt O O' n (fl Zo xs++b) (fl Zo xs++b')=Kt O O' n b b':=Zhl b b' _ (Yr Y6 xs)
theorem Xw (xs:List Yg):(fl Zo xs).length=xs.length * 3:=Qq (f:=Zo) (k:=3) (fun _=>rfl) xs
theorem Xx (xs:List Yg):(fl Zo xs).all G.one=true:=Uj (fun x=>by simp [eI,eB,eS,eL,eP,Zdt,G.one,Value.oneCell',Zo]) xs
theorem X1 {O O':Objs} {n:Nat} (x:Option Yg):wk O O' n (gP Zo x) (gP Zo x)=True:=Zxu Y6 x
theorem Xp {k:Nat} (x:Option Yg):(gP Zo x).under k=true:=Zhk Y6 k x
theorem Xo {ρ:Nat→Nat} (xs:List Yg):G.rens ρ (fl Zo xs)=fl Zo xs:=Vm ρ _ (Yr Y6 xs)
theorem Xn {ρ:Nat→Nat} (x:Option Yg):(gP Zo x).ren ρ=gP Zo x:=Zfa ρ _ (Zbt Y6 x)
theorem Xy {k:Nat} (xs:List Yg):G.unders k (fl Zo xs)=true:=Y7 _ _ (Yr Y6 xs)
mutual
def Ku:Zc→List G
 | ⟨f0,f1,f2⟩=>[.val (.int .i64 f0),.sl f1.length (fl (eI .u64) f1),.sl f2.length (Kv f2)]
def Kv:List Zc→List G
 | []=>[]
 | x::xs=>Ku x++Kv xs
end
theorem Zg0:∀ xs,Kv xs=fl Ku xs
 | []=>by simp [Kv,fl]
 | x::xs=>by rw [Kv,Jn,Zg0 xs]
def Zg (x:Zc):List G:=[.val (.int .i64 x.Kind),.sl x.Words.length (fl (eI .u64) x.Words),.sl x.Kids.length (fl Ku x.Kids)]
theorem Ys:Ku=Zg:=by
 funext x
 obtain ⟨_,_,_⟩:=x
 simp only [Ku,Zg0,Zg,List.cons_append,List.nil_append,List.append_nil]
mutual
theorem Zll:∀ x,G.pures (Ku x)=true
 | ⟨f0,f1,f2⟩=>by simp [Ku,eP,Zbt,eI,eB,eS,eL,G.pures,G.pure,Zl4,Yr,Zkm f2,Kh,Xs,Y6]
theorem Zkm:∀ xs,G.pures (Kv xs)=true
 | []=>rfl
 | x::xs=>by simp [Kv,Zl4,Zll x,Zkm xs]
end
theorem Qn:∀ x,G.pures (Zg x)=true:=fun x=>by rw [← Ys];exact Zll x
theorem Qy {O O':Objs} {n:Nat} (xs:List Zc):Kt O O' n (fl Zg xs) (fl Zg xs):=J9 (Yr Qn xs)
theorem Qx {O O':Objs} {n:Nat} (xs:List Zc) (b b':List G):Kt O O' n (fl Zg xs++b) (fl Zg xs++b')=Kt O O' n b b':=Zhl b b' _ (Yr Qn xs)
theorem Qr (xs:List Zc):(fl Zg xs).length=xs.length * 3:=Qq (f:=Zg) (k:=3) (fun _=>rfl) xs
theorem Qu (xs:List Zc):(fl Zg xs).all G.one=true:=Uj (fun x=>by simp [eI,eB,eS,eL,eP,Zdt,G.one,Value.oneCell',Zg]) xs
theorem Q0 {O O':Objs} {n:Nat} (x:Option Zc):wk O O' n (gP Zg x) (gP Zg x)=True:=Zxu Qn x
theorem Qk {k:Nat} (x:Option Zc):(gP Zg x).under k=true:=Zhk Qn k x
theorem Qj {ρ:Nat→Nat} (xs:List Zc):G.rens ρ (fl Zg xs)=fl Zg xs:=Vm ρ _ (Yr Qn xs)
theorem Qi {ρ:Nat→Nat} (x:Option Zc):(gP Zg x).ren ρ=gP Zg x:=Zfa ρ _ (Zbt Qn x)
theorem Qv {k:Nat} (xs:List Zc):G.unders k (fl Zg xs)=true:=Y7 _ _ (Yr Qn xs)
theorem Zct:∀ x,G.pures ((eI .i64) x)=true:=fun x=>by simp [eI,eB,eS,eL,eP,G.pures,G.pure,Yr,Zbt,Kh,Xs,Y6,Qn,Ys]
theorem Za0 {O O':Objs} {n:Nat} (xs:List Int):Kt O O' n (fl (eI .i64) xs) (fl (eI .i64) xs):=J9 (Yr Zct xs)
theorem Zay {O O':Objs} {n:Nat} (xs:List Int) (b b':List G):Kt O O' n (fl (eI .i64) xs++b) (fl (eI .i64) xs++b')=Kt O O' n b b':=Zhl b b' _ (Yr Zct xs)
theorem Zak (xs:List Int):(fl (eI .i64) xs).length=xs.length * 1:=Qq (f:=(eI .i64)) (k:=1) (fun _=>rfl) xs
theorem Zao (xs:List Int):(fl (eI .i64) xs).all G.one=true:=Uj (fun x=>by simp [eI,eB,eS,eL,eP,Zdt,G.one,Value.oneCell']) xs
theorem Za1 {O O':Objs} {n:Nat} (x:Option Int):wk O O' n (gP (eI .i64) x) (gP (eI .i64) x)=True:=Zxu Zct x
theorem U9 {k:Nat} (x:Option Int):(gP (eI .i64) x).under k=true:=Zhk Zct k x
theorem U5 {ρ:Nat→Nat} (xs:List Int):G.rens ρ (fl (eI .i64) xs)=fl (eI .i64) xs:=Vm ρ _ (Yr Zct xs)
theorem U3 {ρ:Nat→Nat} (x:Option Int):(gP (eI .i64) x).ren ρ=gP (eI .i64) x:=Zfa ρ _ (Zbt Zct x)
theorem Zax {k:Nat} (xs:List Int):G.unders k (fl (eI .i64) xs)=true:=Y7 _ _ (Yr Zct xs)
def Ur (x:Zw):List G:=[.val (.int .i64 x.Kind),.val (.int .i64 x.Off),.val (.int .i64 x.Data),.val (.int .i64 x.Ptrs),.val (.int .i64 x.Code),.val (.int .i64 x.Count),.val (.int .i64 x.Segment),.val (.bool x.Double)]
def Jg (x:Ze):List G:=[.sl x.words.length (fl (eI .u64) x.words),.val (.int .i64 x.next)]
def Z3 (x:Zw):List G:=[.val (.int .i64 x.Kind),.val (.int .i64 x.Off),.val (.int .i64 x.Data),.val (.int .i64 x.Ptrs),.val (.int .i64 x.Code),.val (.int .i64 x.Count),.val (.int .i64 x.Segment),.val (.bool x.Double)]
def Zf (x:Zc):List G:=[.val (.int .i64 x.Kind),.sl x.Words.length (fl (eI .u64) x.Words),.sl x.Kids.length (fl Zg x.Kids)]
end Go.Proofs.Ytaddaloondpnkaa
