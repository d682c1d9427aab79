/- Part UE of this seat's mirrors: functions of the seat's program, and the plain functions that they are; each theorem bears its own conditions. -/
import Derived.Test.YtaddaloondpnkaaTy
import Derived.Test.YtaddaloondpnkaaUD
namespace Go.Proofs.Ytaddaloondpnkaa
open Go.RowKit
set_option linter.unusedVariables false
set_option linter.unusedSimpArgs false
set_option maxRecDepth 100000
set_option maxHeartbeats 4000000
def Zt (x:Z8):List G:=[.sl x.segments.length (fl (eL (eI .u64)) x.segments),.val (.int .i64 x.size),.val (.int .i64 x.left)]
theorem J4:∀ x,G.pures ((eI .u64) x)=true:=fun x=>by simp [eI,eB,eS,eL,eP,G.pures,G.pure,Yt,Zaz]
theorem Uo {O O':Objs} {n:Nat} (xs:List Int):Kt O O' n (fl (eI .u64) xs) (fl (eI .u64) xs):=Kg (Yt J4 xs)
theorem G5 {O O':Objs} {n:Nat} (xs:List Int) (b b':List G):Kt O O' n (fl (eI .u64) xs++b) (fl (eI .u64) xs++b')=Kt O O' n b b':=Zgm b b' _ (Yt J4 xs)
theorem Gn (xs:List Int):(fl (eI .u64) xs).length=xs.length * 1:=Q6 (f:=(eI .u64)) (k:=1) (fun _=>rfl) xs
theorem Gs (xs:List Int):(fl (eI .u64) xs).all G.one=true:=Vz (fun x=>by simp [eI,eB,eS,eL,eP,Zc0,G.one,Value.oneCell']) xs
theorem Zac {O O':Objs} {n:Nat} (x:Option Int):wk O O' n (gP (eI .u64) x) (gP (eI .u64) x)=True:=Zwo J4 x
theorem Un {k:Nat} (x:Option Int):(gP (eI .u64) x).under k=true:=Zgl J4 k x
theorem Uk {ρ:Nat→Nat} (xs:List Int):G.rens ρ (fl (eI .u64) xs)=fl (eI .u64) xs:=K3 ρ _ (Yt J4 xs)
theorem Ui {ρ:Nat→Nat} (x:Option Int):(gP (eI .u64) x).ren ρ=gP (eI .u64) x:=Zek ρ _ (Zaz J4 x)
theorem Y7 {k:Nat} (xs:List Int):G.unders k (fl (eI .u64) xs)=true:=Xn _ _ (Yt J4 xs)
theorem Qc:∀ x,G.pures ((eL (eI .u64)) x)=true:=fun x=>by simp [eI,eB,eS,eL,eP,G.pures,G.pure,Yt,Zaz,J4]
theorem Kp {O O':Objs} {n:Nat} (xs:List (List Int)):Kt O O' n (fl (eL (eI .u64)) xs) (fl (eL (eI .u64)) xs):=Kg (Yt Qc xs)
theorem Ko {O O':Objs} {n:Nat} (xs:List (List Int)) (b b':List G):Kt O O' n (fl (eL (eI .u64)) xs++b) (fl (eL (eI .u64)) xs++b')=Kt O O' n b b':=Zgm b b' _ (Yt Qc xs)
theorem Kj (xs:List (List Int)):(fl (eL (eI .u64)) xs).length=xs.length * 1:=Q6 (f:=(eL (eI .u64))) (k:=1) (fun _=>rfl) xs
theorem Kl (xs:List (List Int)):(fl (eL (eI .u64)) xs).all G.one=true:=Vz (fun x=>by simp [eI,eB,eS,eL,eP,Zc0,G.one,Value.oneCell']) xs
theorem Kq {O O':Objs} {n:Nat} (x:Option (List Int)):wk O O' n (gP (eL (eI .u64)) x) (gP (eL (eI .u64)) x)=True:=Zwo Qc x
theorem Jy {k:Nat} (x:Option (List Int)):(gP (eL (eI .u64)) x).under k=true:=Zgl Qc k x
theorem Jw {ρ:Nat→Nat} (xs:List (List Int)):G.rens ρ (fl (eL (eI .u64)) xs)=fl (eL (eI .u64)) xs:=K3 ρ _ (Yt Qc xs)
theorem Jv {ρ:Nat→Nat} (x:Option (List Int)):(gP (eL (eI .u64)) x).ren ρ=gP (eL (eI .u64)) x:=Zek ρ _ (Zaz Qc x)
theorem Km {k:Nat} (xs:List (List Int)):G.unders k (fl (eL (eI .u64)) xs)=true:=Xn _ _ (Yt Qc xs)
def Xe (x:K7):List G:=[.sl x.L.length (fl (eL (eI .u64)) x.L),.val (.int .i64 x.Size),.val (.int .i64 x.Most),.val (.int .i64 x.Used)]
theorem Y3:∀ x,G.pures (Zt x)=true:=fun x=>by simp [eI,eB,eS,eL,eP,G.pures,G.pure,Yt,Zaz,Zt,J4,Qc]
theorem Xw {O O':Objs} {n:Nat} (xs:List Z8):Kt O O' n (fl Zt xs) (fl Zt xs):=Kg (Yt Y3 xs)
theorem Xv {O O':Objs} {n:Nat} (xs:List Z8) (b b':List G):Kt O O' n (fl Zt xs++b) (fl Zt xs++b')=Kt O O' n b b':=Zgm b b' _ (Yt Y3 xs)
theorem Xq (xs:List Z8):(fl Zt xs).length=xs.length * 3:=Q6 (f:=Zt) (k:=3) (fun _=>rfl) xs
theorem Xs (xs:List Z8):(fl Zt xs).all G.one=true:=Vz (fun x=>by simp [eI,eB,eS,eL,eP,Zc0,G.one,Value.oneCell',Zt]) xs
theorem Xx {O O':Objs} {n:Nat} (x:Option Z8):wk O O' n (gP Zt x) (gP Zt x)=True:=Zwo Y3 x
theorem Xk {k:Nat} (x:Option Z8):(gP Zt x).under k=true:=Zgl Y3 k x
theorem Xi {ρ:Nat→Nat} (xs:List Z8):G.rens ρ (fl Zt xs)=fl Zt xs:=K3 ρ _ (Yt Y3 xs)
theorem Xh {ρ:Nat→Nat} (x:Option Z8):(gP Zt x).ren ρ=gP Zt x:=Zek ρ _ (Zaz Y3 x)
theorem Xu {k:Nat} (xs:List Z8):G.unders k (fl Zt xs)=true:=Xn _ _ (Yt Y3 xs)
mutual
def Kh:Zd→List G
 | ⟨f0,f1,f2⟩=>[.val (.int .i64 f0),.sl f1.length (fl (eI .u64) f1),.sl f2.length (Ki f2)]
def Ki:List Zd→List G
 | []=>[]
 | x::xs=>Kh x++Ki xs
end
theorem Zf6:∀ xs,Ki xs=fl Kh xs
 | []=>by simp [Ki,fl]
 | x::xs=>by rw [Ki,Jd,Zf6 xs]
def Zg (x:Zd):List G:=[.val (.int .i64 x.Kind),.sl x.Words.length (fl (eI .u64) x.Words),.sl x.Kids.length (fl Kh x.Kids)]
theorem Yr:Kh=Zg:=by
 funext x
 obtain ⟨_,_,_⟩:=x
 simp only [Kh,Zf6,Zg,List.cons_append,List.nil_append,List.append_nil]
mutual
theorem Zka:∀ x,G.pures (Kh x)=true
 | ⟨f0,f1,f2⟩=>by simp [Kh,eP,Zaz,eI,eB,eS,eL,G.pures,G.pure,Zkq,Yt,Zjk f2,J4,Qc,Y3]
theorem Zjk:∀ xs,G.pures (Ki xs)=true
 | []=>rfl
 | x::xs=>by simp [Ki,Zkq,Zka x,Zjk xs]
end
theorem Qj:∀ x,G.pures (Zg x)=true:=fun x=>by rw [← Yr];exact Zka x
theorem Qw {O O':Objs} {n:Nat} (xs:List Zd):Kt O O' n (fl Zg xs) (fl Zg xs):=Kg (Yt Qj xs)
theorem Qv {O O':Objs} {n:Nat} (xs:List Zd) (b b':List G):Kt O O' n (fl Zg xs++b) (fl Zg xs++b')=Kt O O' n b b':=Zgm b b' _ (Yt Qj xs)
theorem Qo (xs:List Zd):(fl Zg xs).length=xs.length * 3:=Q6 (f:=Zg) (k:=3) (fun _=>rfl) xs
theorem Qr (xs:List Zd):(fl Zg xs).all G.one=true:=Vz (fun x=>by simp [eI,eB,eS,eL,eP,Zc0,G.one,Value.oneCell',Zg]) xs
theorem Qy {O O':Objs} {n:Nat} (x:Option Zd):wk O O' n (gP Zg x) (gP Zg x)=True:=Zwo Qj x
theorem Qf {k:Nat} (x:Option Zd):(gP Zg x).under k=true:=Zgl Qj k x
theorem Qe {ρ:Nat→Nat} (xs:List Zd):G.rens ρ (fl Zg xs)=fl Zg xs:=K3 ρ _ (Yt Qj xs)
theorem Qd {ρ:Nat→Nat} (x:Option Zd):(gP Zg x).ren ρ=gP Zg x:=Zek ρ _ (Zaz Qj x)
theorem Qt {k:Nat} (xs:List Zd):G.unders k (fl Zg xs)=true:=Xn _ _ (Yt Qj xs)
theorem Zb1:∀ x,G.pures ((eI .i64) x)=true:=fun x=>by simp [eI,eB,eS,eL,eP,G.pures,G.pure,Yt,Zaz,J4,Qc,Y3,Qj,Yr]
theorem Zaa {O O':Objs} {n:Nat} (xs:List Int):Kt O O' n (fl (eI .i64) xs) (fl (eI .i64) xs):=Kg (Yt Zb1 xs)
theorem G4 {O O':Objs} {n:Nat} (xs:List Int) (b b':List G):Kt O O' n (fl (eI .i64) xs++b) (fl (eI .i64) xs++b')=Kt O O' n b b':=Zgm b b' _ (Yt Zb1 xs)
theorem Gm (xs:List Int):(fl (eI .i64) xs).length=xs.length * 1:=Q6 (f:=(eI .i64)) (k:=1) (fun _=>rfl) xs
theorem Gr (xs:List Int):(fl (eI .i64) xs).all G.one=true:=Vz (fun x=>by simp [eI,eB,eS,eL,eP,Zc0,G.one,Value.oneCell']) xs
theorem Zab {O O':Objs} {n:Nat} (x:Option Int):wk O O' n (gP (eI .i64) x) (gP (eI .i64) x)=True:=Zwo Zb1 x
theorem Um {k:Nat} (x:Option Int):(gP (eI .i64) x).under k=true:=Zgl Zb1 k x
theorem Uj {ρ:Nat→Nat} (xs:List Int):G.rens ρ (fl (eI .i64) xs)=fl (eI .i64) xs:=K3 ρ _ (Yt Zb1 xs)
theorem Uh {ρ:Nat→Nat} (x:Option Int):(gP (eI .i64) x).ren ρ=gP (eI .i64) x:=Zek ρ _ (Zaz Zb1 x)
theorem G0 {k:Nat} (xs:List Int):G.unders k (fl (eI .i64) xs)=true:=Xn _ _ (Yt Zb1 xs)
def V6 (x:Z3):List G:=[.val (.int .i64 x.Kind),.val (.int .i64 x.Off),.val (.int .i64 x.Data),.val (.int .i64 x.Ptrs),.val (.int .i64 x.Code),.val (.int .i64 x.Count),.val (.int .i64 x.Segment),.val (.bool x.Double)]
def Z4 (x:Z3):List G:=[.val (.int .i64 x.Kind),.val (.int .i64 x.Off),.val (.int .i64 x.Data),.val (.int .i64 x.Ptrs),.val (.int .i64 x.Code),.val (.int .i64 x.Count),.val (.int .i64 x.Segment),.val (.bool x.Double)]
def Ze (x:Zd):List G:=[.val (.int .i64 x.Kind),.sl x.Words.length (fl (eI .u64) x.Words),.sl x.Kids.length (fl Zg x.Kids)]
end Go.Proofs.Ytaddaloondpnkaa
