/- Part WE of this seat's mirrors: functions of the seat's program, and the plain functions that they are; each theorem bears its own conditions. -/
import Derived.Test.YtnapihlnlajlpaaTy
import Derived.Test.YtnapihlnlajlpaaWD
namespace Go.Proofs.Ytnapihlnlajlpaa
open Go.RowKit
set_option linter.unusedVariables false
set_option linter.unusedSimpArgs false
set_option maxRecDepth 100000
set_option maxHeartbeats 4000000
mutual
def Zan:Zb→List G
 | ⟨f0,f1,f2⟩=>[.val (.int .i64 f0),.sl f1.length (fl (eI .u64) f1),.sl f2.length (Zao f2)]
def Zao:List Zb→List G
 | []=>[]
 | x::xs=>Zan x++Zao xs
end
theorem Zkd:∀ xs,Zao xs=fl Zan xs
 | []=>by simp [Zao,fl]
 | x::xs=>by rw [Zao,Zac,Zkd xs]
def Zn (x:Zb):List G:=[.val (.int .i64 x.Kind),.sl x.Words.length (fl (eI .u64) x.Words),.sl x.Kids.length (fl Zan x.Kids)]
theorem Xd:Zan=Zn:=by
 funext x
 obtain ⟨_,_,_⟩:=x
 simp only [Zan,Zkd,Zn,List.cons_append,List.nil_append,List.append_nil]
mutual
theorem Zn4:∀ x,G.pures (Zan x)=true
 | ⟨f0,f1,f2⟩=>by simp [Zan,eP,Zb0,eI,eB,eS,eL,G.pures,G.pure,Zpf,Y3,Zmv f2]
theorem Zmv:∀ xs,G.pures (Zao xs)=true
 | []=>rfl
 | x::xs=>by simp [Zao,Zpf,Zn4 x,Zmv xs]
end
theorem U1:∀ x,G.pures ((eI .u64) x)=true:=fun x=>by simp [eI,eB,eS,eL,eP,G.pures,G.pure,Y3,Zb0,Xd]
theorem Zgw {O O':Objs} {n:Nat} (xs:List Int):wkl O O' n (fl (eI .u64) xs) (fl (eI .u64) xs):=Zje (Y3 U1 xs)
theorem Zgu {O O':Objs} {n:Nat} (xs:List Int) (b b':List G):wkl O O' n (fl (eI .u64) xs++b) (fl (eI .u64) xs++b')=wkl O O' n b b':=Zhc b b' _ (Y3 U1 xs)
theorem Zf4 (xs:List Int):(fl (eI .u64) xs).length=xs.length * 1:=K9 (f:=(eI .u64)) (k:=1) (fun _=>rfl) xs
theorem Zgd (xs:List Int):(fl (eI .u64) xs).all G.one=true:=Zcu (fun x=>by simp [eI,eB,eS,eL,eP,Zge,G.one,Value.oneCell']) xs
theorem Zgy {O O':Objs} {n:Nat} (x:Option Int):wk O O' n (gP (eI .u64) x) (gP (eI .u64) x)=True:=Zxa U1 x
theorem Zes {k:Nat} (x:Option Int):(gP (eI .u64) x).under k=true:=Zha U1 k x
theorem Zeq {ρ:Nat→Nat} (xs:List Int):G.rens ρ (fl (eI .u64) xs)=fl (eI .u64) xs:=U2 ρ _ (Y3 U1 xs)
theorem Zeo {ρ:Nat→Nat} (x:Option Int):(gP (eI .u64) x).ren ρ=gP (eI .u64) x:=Zfc ρ _ (Zb0 U1 x)
theorem Zgs {k:Nat} (xs:List Int):G.unders k (fl (eI .u64) xs)=true:=Qr _ _ (Y3 U1 xs)
theorem X0:∀ x,G.pures (Zn x)=true:=fun x=>by rw [← Xd];exact Zn4 x
theorem U7 {O O':Objs} {n:Nat} (xs:List Zb):wkl O O' n (fl Zn xs) (fl Zn xs):=Zje (Y3 X0 xs)
theorem U6 {O O':Objs} {n:Nat} (xs:List Zb) (b b':List G):wkl O O' n (fl Zn xs++b) (fl Zn xs++b')=wkl O O' n b b':=Zhc b b' _ (Y3 X0 xs)
theorem Uy (xs:List Zb):(fl Zn xs).length=xs.length * 3:=K9 (f:=Zn) (k:=3) (fun _=>rfl) xs
theorem U0 (xs:List Zb):(fl Zn xs).all G.one=true:=Zcu (fun x=>by simp [eI,eB,eS,eL,eP,Zge,G.one,Value.oneCell',Zn]) xs
theorem U8 {O O':Objs} {n:Nat} (x:Option Zb):wk O O' n (gP Zn x) (gP Zn x)=True:=Zxa X0 x
theorem Ue {k:Nat} (x:Option Zb):(gP Zn x).under k=true:=Zha X0 k x
theorem Ud {ρ:Nat→Nat} (xs:List Zb):G.rens ρ (fl Zn xs)=fl Zn xs:=U2 ρ _ (Y3 X0 xs)
theorem Uc {ρ:Nat→Nat} (x:Option Zb):(gP Zn x).ren ρ=gP Zn x:=Zfc ρ _ (Zb0 X0 x)
theorem U5 {k:Nat} (xs:List Zb):G.unders k (fl Zn xs)=true:=Qr _ _ (Y3 X0 xs)
theorem Zbc:∀ x,G.pures ((eI .i64) x)=true:=fun x=>by simp [eI,eB,eS,eL,eP,G.pures,G.pure,Y3,Zb0,U1,X0,Xd]
theorem Zgv {O O':Objs} {n:Nat} (xs:List Int):wkl O O' n (fl (eI .i64) xs) (fl (eI .i64) xs):=Zje (Y3 Zbc xs)
theorem Zgt {O O':Objs} {n:Nat} (xs:List Int) (b b':List G):wkl O O' n (fl (eI .i64) xs++b) (fl (eI .i64) xs++b')=wkl O O' n b b':=Zhc b b' _ (Y3 Zbc xs)
theorem Zf3 (xs:List Int):(fl (eI .i64) xs).length=xs.length * 1:=K9 (f:=(eI .i64)) (k:=1) (fun _=>rfl) xs
theorem Zgc (xs:List Int):(fl (eI .i64) xs).all G.one=true:=Zcu (fun x=>by simp [eI,eB,eS,eL,eP,Zge,G.one,Value.oneCell']) xs
theorem Zgx {O O':Objs} {n:Nat} (x:Option Int):wk O O' n (gP (eI .i64) x) (gP (eI .i64) x)=True:=Zxa Zbc x
theorem Zer {k:Nat} (x:Option Int):(gP (eI .i64) x).under k=true:=Zha Zbc k x
theorem Zep {ρ:Nat→Nat} (xs:List Int):G.rens ρ (fl (eI .i64) xs)=fl (eI .i64) xs:=U2 ρ _ (Y3 Zbc xs)
theorem Zen {ρ:Nat→Nat} (x:Option Int):(gP (eI .i64) x).ren ρ=gP (eI .i64) x:=Zfc ρ _ (Zb0 Zbc x)
theorem Zgr {k:Nat} (xs:List Int):G.unders k (fl (eI .i64) xs)=true:=Qr _ _ (Y3 Zbc xs)
def Zef (x:Zs):List G:=[.val (.int .i64 x.Kind),.val (.int .i64 x.Off),.val (.int .i64 x.Data),.val (.int .i64 x.Ptrs),.val (.int .i64 x.Code),.val (.int .i64 x.Count),.val (.int .i64 x.Segment),.val (.bool x.Double)]
def Gw (x:Zp):List G:=[.sl x.words.length (fl (eI .u64) x.words),.val (.int .i64 x.next)]
def Jf (x:Ya):List G:=[.val (.int .i64 x.Depth),.val (.int .i64 x.Weight),.val (.int .i64 x.MaxD),.val (.int .i64 x.MaxOut)]
theorem Vw:∀ x,G.pures ((eL (eI .u64)) x)=true:=fun x=>by simp [eI,eB,eS,eL,eP,G.pures,G.pure,Y3,Zb0,U1,X0,Zbc,Xd]
theorem Zch {O O':Objs} {n:Nat} (xs:List (List Int)):wkl O O' n (fl (eL (eI .u64)) xs) (fl (eL (eI .u64)) xs):=Zje (Y3 Vw xs)
theorem Zcg {O O':Objs} {n:Nat} (xs:List (List Int)) (b b':List G):wkl O O' n (fl (eL (eI .u64)) xs++b) (fl (eL (eI .u64)) xs++b')=wkl O O' n b b':=Zhc b b' _ (Y3 Vw xs)
theorem Zcc (xs:List (List Int)):(fl (eL (eI .u64)) xs).length=xs.length * 1:=K9 (f:=(eL (eI .u64))) (k:=1) (fun _=>rfl) xs
theorem Zce (xs:List (List Int)):(fl (eL (eI .u64)) xs).all G.one=true:=Zcu (fun x=>by simp [eI,eB,eS,eL,eP,Zge,G.one,Value.oneCell']) xs
theorem Zci {O O':Objs} {n:Nat} (x:Option (List Int)):wk O O' n (gP (eL (eI .u64)) x) (gP (eL (eI .u64)) x)=True:=Zxa Vw x
theorem Zbh {k:Nat} (x:Option (List Int)):(gP (eL (eI .u64)) x).under k=true:=Zha Vw k x
theorem Zbe {ρ:Nat→Nat} (xs:List (List Int)):G.rens ρ (fl (eL (eI .u64)) xs)=fl (eL (eI .u64)) xs:=U2 ρ _ (Y3 Vw xs)
theorem Zbd {ρ:Nat→Nat} (x:Option (List Int)):(gP (eL (eI .u64)) x).ren ρ=gP (eL (eI .u64)) x:=Zfc ρ _ (Zb0 Vw x)
theorem Zcf {k:Nat} (xs:List (List Int)):G.unders k (fl (eL (eI .u64)) xs)=true:=Qr _ _ (Y3 Vw xs)
def K7 (x:Z7):List G:=[.val (.int .i64 x.P.Kind),.val (.int .i64 x.P.Off),.val (.int .i64 x.P.Data),.val (.int .i64 x.P.Ptrs),.val (.int .i64 x.P.Code),.val (.int .i64 x.P.Count),.val (.int .i64 x.P.Segment),.val (.bool x.P.Double),.val (.int .i64 x.Segment),.val (.int .i64 x.At)]
def K8 (x:Zt):List G:=[.val (.int .i64 x.Kind),.val (.int .i64 x.S),.val (.int .i64 x.At),.val (.int .i64 x.Data),.val (.int .i64 x.Ptrs),.val (.int .i64 x.Count),.val (.int .u64 x.N)]
def Zo (x:Zj):List G:=[.sl x.segments.length (fl (eL (eI .u64)) x.segments),.val (.int .i64 x.size),.val (.int .i64 x.left)]
theorem Qf:∀ x,G.pures (Zo x)=true:=fun x=>by simp [eI,eB,eS,eL,eP,G.pures,G.pure,Y3,Zb0,Zo,U1,X0,Zbc,Vw,Xd]
theorem Ky {O O':Objs} {n:Nat} (xs:List Zj):wkl O O' n (fl Zo xs) (fl Zo xs):=Zje (Y3 Qf xs)
theorem Kx {O O':Objs} {n:Nat} (xs:List Zj) (b b':List G):wkl O O' n (fl Zo xs++b) (fl Zo xs++b')=wkl O O' n b b':=Zhc b b' _ (Y3 Qf xs)
theorem Kh (xs:List Zj):(fl Zo xs).length=xs.length * 3:=K9 (f:=Zo) (k:=3) (fun _=>rfl) xs
theorem Ko (xs:List Zj):(fl Zo xs).all G.one=true:=Zcu (fun x=>by simp [eI,eB,eS,eL,eP,Zge,G.one,Value.oneCell',Zo]) xs
theorem Kz {O O':Objs} {n:Nat} (x:Option Zj):wk O O' n (gP Zo x) (gP Zo x)=True:=Zxa Qf x
theorem J7 {k:Nat} (x:Option Zj):(gP Zo x).under k=true:=Zha Qf k x
theorem J6 {ρ:Nat→Nat} (xs:List Zj):G.rens ρ (fl Zo xs)=fl Zo xs:=U2 ρ _ (Y3 Qf xs)
theorem J5 {ρ:Nat→Nat} (x:Option Zj):(gP Zo x).ren ρ=gP Zo x:=Zfc ρ _ (Zb0 Qf x)
theorem Ku {k:Nat} (xs:List Zj):G.unders k (fl Zo xs)=true:=Qr _ _ (Y3 Qf xs)
def Zee (x:Xw):List G:=[.val (.int .i64 x.P.Kind),.val (.int .i64 x.P.Off),.val (.int .i64 x.P.Data),.val (.int .i64 x.P.Ptrs),.val (.int .i64 x.P.Code),.val (.int .i64 x.P.Count),.val (.int .i64 x.P.Segment),.val (.bool x.P.Double),.val (.int .i64 x.Segment),.val (.int .i64 x.At)]
def Za1 (x:Za):List G:=[(gP Zo x.a),.val (.int .i64 x.kind),.val (.int .i64 x.segment),.val (.int .i64 x.at_),.val (.int .i64 x.words),.val (.int .i64 x.ptrs),.val (.int .i64 x.count),.val (.int .i64 x.code),.val (.int .i64 x.index)]
def Yh (x:Ze):List G:=[.val (.int .i64 x.left)]
theorem Jb:∀ x,G.pures (Yh x)=true:=fun x=>by simp [eI,eB,eS,eL,eP,G.pures,G.pure,Y3,Zb0,Yh,U1,X0,Zbc,Vw,Qf,Xd]
theorem Vp {O O':Objs} {n:Nat} (xs:List Ze):wkl O O' n (fl Yh xs) (fl Yh xs):=Zje (Y3 Jb xs)
theorem Vn {O O':Objs} {n:Nat} (xs:List Ze) (b b':List G):wkl O O' n (fl Yh xs++b) (fl Yh xs++b')=wkl O O' n b b':=Zhc b b' _ (Y3 Jb xs)
theorem Vc (xs:List Ze):(fl Yh xs).length=xs.length * 1:=K9 (f:=Yh) (k:=1) (fun _=>rfl) xs
theorem Vj (xs:List Ze):(fl Yh xs).all G.one=true:=Zcu (fun x=>by simp [eI,eB,eS,eL,eP,Zge,G.one,Value.oneCell',Yh]) xs
theorem Vr {O O':Objs} {n:Nat} (x:Option Ze):wk O O' n (gP Yh x) (gP Yh x)=True:=Zxa Jb x
theorem Kw {k:Nat} (x:Option Ze):(gP Yh x).under k=true:=Zha Jb k x
theorem Kt {ρ:Nat→Nat} (xs:List Ze):G.rens ρ (fl Yh xs)=fl Yh xs:=U2 ρ _ (Y3 Jb xs)
theorem Kr {ρ:Nat→Nat} (x:Option Ze):(gP Yh x).ren ρ=gP Yh x:=Zfc ρ _ (Zb0 Jb x)
theorem Vl {k:Nat} (xs:List Ze):G.unders k (fl Yh xs)=true:=Qr _ _ (Y3 Jb xs)
def Yg (x:Zd):List G:=[.sl x.words.length (fl (eI .u64) x.words),.val (.int .i64 x.next)]
theorem Kc:∀ x,G.pures (Yg x)=true:=fun x=>by simp [eI,eB,eS,eL,eP,G.pures,G.pure,Y3,Zb0,Yg,U1,X0,Zbc,Vw,Qf,Jb,Xd]
theorem Vo {O O':Objs} {n:Nat} (xs:List Zd):wkl O O' n (fl Yg xs) (fl Yg xs):=Zje (Y3 Kc xs)
theorem Vm {O O':Objs} {n:Nat} (xs:List Zd) (b b':List G):wkl O O' n (fl Yg xs++b) (fl Yg xs++b')=wkl O O' n b b':=Zhc b b' _ (Y3 Kc xs)
theorem Vb (xs:List Zd):(fl Yg xs).length=xs.length * 2:=K9 (f:=Yg) (k:=2) (fun _=>rfl) xs
theorem Vi (xs:List Zd):(fl Yg xs).all G.one=true:=Zcu (fun x=>by simp [eI,eB,eS,eL,eP,Zge,G.one,Value.oneCell',Yg]) xs
theorem Vq {O O':Objs} {n:Nat} (x:Option Zd):wk O O' n (gP Yg x) (gP Yg x)=True:=Zxa Kc x
theorem Kv {k:Nat} (x:Option Zd):(gP Yg x).under k=true:=Zha Kc k x
theorem Ks {ρ:Nat→Nat} (xs:List Zd):G.rens ρ (fl Yg xs)=fl Yg xs:=U2 ρ _ (Y3 Kc xs)
theorem Kq {ρ:Nat→Nat} (x:Option Zd):(gP Yg x).ren ρ=gP Yg x:=Zfc ρ _ (Zb0 Kc x)
theorem Vk {k:Nat} (xs:List Zd):G.unders k (fl Yg xs)=true:=Qr _ _ (Y3 Kc xs)
def Zf (x:Za):List G:=[(gP Zo x.a),.val (.int .i64 x.kind),.val (.int .i64 x.segment),.val (.int .i64 x.at_),.val (.int .i64 x.words),.val (.int .i64 x.ptrs),.val (.int .i64 x.count),.val (.int .i64 x.code),.val (.int .i64 x.index)]
def Yd (x:Zs):List G:=[.val (.int .i64 x.Kind),.val (.int .i64 x.Off),.val (.int .i64 x.Data),.val (.int .i64 x.Ptrs),.val (.int .i64 x.Code),.val (.int .i64 x.Count),.val (.int .i64 x.Segment),.val (.bool x.Double)]
def Zv (x:Zt):List G:=[.val (.int .i64 x.Kind),.val (.int .i64 x.S),.val (.int .i64 x.At),.val (.int .i64 x.Data),.val (.int .i64 x.Ptrs),.val (.int .i64 x.Count),.val (.int .u64 x.N)]
def Zi (x:Zb):List G:=[.val (.int .i64 x.Kind),.sl x.Words.length (fl (eI .u64) x.Words),.sl x.Kids.length (fl Zn x.Kids)]
def Xa (x:Ya):List G:=[.val (.int .i64 x.Depth),.val (.int .i64 x.Weight),.val (.int .i64 x.MaxD),.val (.int .i64 x.MaxOut)]
abbrev vI (x:Int):G := .val (.int .i64 x)
abbrev vB (x:Bool):G := .val (.bool x)
abbrev nV:G := .val (.slice none 0 0)
abbrev sL {α:Type} (e:α→List G) (x:List α):G := .sl x.length (fl e x)
abbrev oR {α:Type} (t s:Nat) (e:α→List G) (x:List α):GObj:=⟨true,t,s,x.length,fl e x⟩
theorem zFn {f:FuncId} {gs:List G} {O O2:Objs} {n n2:Nat} {r:G} {fn:Func} {c:Code} (hc:∀ args w,(callFunc f args).run Try.prog w = .ok (.enter f args) w) (hf:Try.prog.funcs[f]? = some fn) (h:Und O n→O n=none→(∀ k,O (n+k)=none)→W Try.prog n c (Fin Jm fn.results.toList r n O2 n2) ⟨fn.ntmps,[],Zm1 0 gs⟩ (Zu O n []) n) (hb:fn.body=some c:=by exact rfl) (hn:gs.length≤fn.ntmps:=by exact Nat.le_of_ble_eq_true rfl) (h2:n≤n2:=by first | exact Nat.le_refl _ | omega):GTo Try.prog f gs O n r O2 n2:=Zkf Zx hc hf hb hn h2 fun hU=>h hU (hU.fresh _ (Nat.le_refl _)) fun k=>hU.fresh _ (Nat.le_add_right _ _)
structure Hid (p:Prop):Prop where
 get:p
structure Ar {α:Type} (a:α):Prop where
def Ar.v {α:Type} {a:α} (_:Ar a):α:=a
theorem zQ {A B:Prop} (l0:List Nat) (b:B) (e:Ar l0→Hid B→A:=by intro x0 bZ;refine Zcp x0.v (Z3 Zx [] ?_);simp only [push_cast,seval,↓reduceIte,Zh,Ar.v,hN0,hN];exact bZ.get):A:=e ⟨⟩ ⟨b⟩
theorem zQD {A B:Prop} (l0:List Nat) (l1:List (Option Bool)) (b:B) (e:Ar l0→Ar l1→Hid B→A:=by intro x0 x1 bZ;refine Zcp x0.v (Z3 Zx x1.v ?_);simp only [push_cast,seval,↓reduceIte,Zh,Ar.v,hN0,hN];(repeat (with_reducible refine And.intro (by first | (intro h0;simp only [h0,and_self];done) | (intro h0;simp only [h0,Bool.not_false,Bool.not_true,Bool.true_and,Bool.and_true,true_and,and_true,and_self,imp_self,implies_true,bne_iff_ne,ne_eq,beq_iff_eq];done) | (intros;simp_all;done) | exact True.intro) ?_));exact bZ.get):A:=e ⟨⟩ ⟨⟩ ⟨b⟩
theorem Z5 {A:Prop} (l0:List G) (e:Ar l0→A:=by intro x0;refine Ya1 ?_;(try simp only [Y9,Yp]);have h:=Option.some.inj h;subst h;refine Z4j (.inr rfl) hU x0.v (by omega) ?_;simp only [push_cast,seval,↓reduceIte,Zh,Ar.v,hN0,hN]):A:=e ⟨⟩
theorem Qo {A B:Prop} (l0:List Nat) (l1:List Bool) (b:B) (e:Ar l0→Ar l1→Hid B→A:=by intro x0 x1 bZ;refine Z65 ?_;(try simp only [Y9,Yp]);refine Zs5 x0.v x1.v ?_;simp only [push_cast,seval,↓reduceIte,Ar.v];exact bZ.get):A:=e ⟨⟩ ⟨⟩ ⟨b⟩
theorem zQd {A B:Prop} (l0:List Nat) (l1:List Nat) (l2:List Bool) (b:B) (e:Ar l0→Ar l1→Ar l2→Hid B→A:=by intro x0 x1 x2 bZ;refine Zcp x0.v (Z3 Zx [] ?_);simp only [push_cast,seval,↓reduceIte,Zh,Ar.v,hN0,hN];refine Zs5 x1.v x2.v ?_;simp only [push_cast,seval,↓reduceIte,Ar.v];exact bZ.get):A:=e ⟨⟩ ⟨⟩ ⟨⟩ ⟨b⟩
theorem Z5p {A B:Prop} (l0:List (Option Bool)) {P1:Prop} (p1:P1) {P2:Prop} (p2:P2) {P3:Prop} (p3:P3) (b:B) (e:Ar l0→P1→P2→P3→Hid B→A:=by intro x0 x1 x2 x3 bZ;refine Z3 Zx x0.v ?_;simp only [push_cast,Nat.reduceAdd,Nat.reduceSub,Nat.reduceMul,Nat.reduceLeDiff,Nat.reduceLT,Nat.reduceEqDiff,↓reduceIte,reduceCtorEq,Int.reduceBEq,Int.reduceBNe,Nat.reduceBEq,Int.reduceLE,Int.reduceLT,Int.reduceEq,Int.reduceNe,Int.reduceNeg,Nat.reduceDiv,Nat.reduceMod,Nat.reducePow,Zh,Ar.v,x1,x2,x3,hN0,hN];exact bZ.get):A:=e ⟨⟩ p1 p2 p3 ⟨b⟩
theorem zF3 {A B:Prop} {P0:Prop} (p0:P0) {P1:Prop} (p1:P1) {P2:Prop} (p2:P2) (b:B) (e:P0→P1→P2→Hid B→A:=by intro x0 x1 x2 bZ;simp only [push_cast,Nat.reduceAdd,Nat.reduceSub,Nat.reduceMul,Nat.reduceLeDiff,Nat.reduceLT,Nat.reduceEqDiff,↓reduceIte,reduceCtorEq,Int.reduceBEq,Int.reduceBNe,Nat.reduceBEq,Int.reduceLE,Int.reduceLT,Int.reduceEq,Int.reduceNe,Int.reduceNeg,Nat.reduceDiv,Nat.reduceMod,Nat.reducePow,Zh,x0,x1,x2,hN0,hN];exact bZ.get):A:=e p0 p1 p2 ⟨b⟩
theorem zD {A B:Prop} (l0:List Nat) (l1:List Bool) (b:B) (e:Ar l0→Ar l1→Hid B→A:=by intro x0 x1 bZ;refine Zs5 x0.v x1.v ?_;simp only [push_cast,seval,↓reduceIte,Ar.v];exact bZ.get):A:=e ⟨⟩ ⟨⟩ ⟨b⟩
theorem zR {A B:Prop} (b:B) (e:Hid B→A:=by intro bZ;refine Z3 Zx [] ?_;simp only [push_cast,seval,↓reduceIte,Zh,hN0,hN];exact bZ.get):A:=e ⟨b⟩
theorem zEn {A:Prop} {P0:Prop} (p0:P0) (e:P0→A:=by intro x0;have h9:=Option.some.inj x0;subst h9;refine And.intro rfl (Fit2.of (Ye hU rfl rfl ?_) (by omega));simp only [push_cast,seval,↓reduceIte,Zh,hN0,hN]):A:=e p0
theorem zEx {A:Prop} {P0:Prop} (p0:P0) (e:P0→A:=by intro x0;refine Z64 ?_;(try simp only [Y9,Yp,↓reduceIte,Nat.reduceEqDiff]);have h9:=Option.some.inj x0;subst h9;refine And.intro (fun h=>by cases h) (And.intro rfl (Fit2.of (Ye hU rfl rfl ?_) (by omega)));simp only [push_cast,seval,↓reduceIte,Zh,hN0,hN]):A:=e p0
theorem zCd {A B:Prop} {P0:Prop} (p0:P0) (l1:List Nat) (l2:List Bool) (b:B) (e:P0→Ar l1→Ar l2→Hid B→A:=by intro x0 x1 x2 bZ;refine Z3 Zx [] ?_;simp only [push_cast,seval,↓reduceIte,Zh,hN0,hN];refine x0.then ?_;simp only [push_cast,seval,↓reduceIte,Zh,hN0,hN];refine Zs5 x1.v x2.v ?_;simp only [push_cast,seval,↓reduceIte,Ar.v];exact bZ.get):A:=e p0 ⟨⟩ ⟨⟩ ⟨b⟩
theorem zW {A B:Prop} (b:B) (e:Hid B→A:=by intro bZ;refine Ya1 ?_;(try simp only [Y9,Yp]);exact bZ.get):A:=e ⟨b⟩
theorem zEy {A:Prop} {P0:Prop} (p0:P0) (e:P0→A:=by intro x0;have h9:=Option.some.inj x0;subst h9;refine And.intro (fun h=>by cases h) (And.intro rfl (Fit2.of (Ye hU rfl rfl ?_) (by omega)));simp only [push_cast,seval,↓reduceIte,Zh,hN0,hN]):A:=e p0
theorem Zxu {A:Prop} (l0:List G) (e:Ar l0→A:=by intro x0;have h:=Option.some.inj h;subst h;refine Z4j (.inr rfl) hU x0.v (by omega) ?_;simp only [push_cast,seval,↓reduceIte,Zh,Ar.v,hN0,hN]):A:=e ⟨⟩
theorem Zjr {A B:Prop} (l0:List (Option Bool)) {P1:Prop} (p1:P1) {P2:Prop} (p2:P2) {P3:Prop} (p3:P3) (b:B) (e:Ar l0→P1→P2→P3→Hid B→A:=by intro x0 x1 x2 x3 bZ;refine Z3 Zx x0.v ?_;simp only [push_cast,seval,↓reduceIte,Zh,Ar.v,x1,x2,x3,hN0,hN];exact bZ.get):A:=e ⟨⟩ p1 p2 p3 ⟨b⟩
theorem zDs {A B:Prop} (l0:List Nat) (l1:List Bool) (b:B) (e:Ar l0→Ar l1→Hid B→A:=by intro x0 x1 bZ;refine Zs5 x0.v x1.v ?_;simp only [push_cast,seval,↓reduceIte,Ar.v];refine Zc ?_;exact bZ.get):A:=e ⟨⟩ ⟨⟩ ⟨b⟩
theorem Zb9 {A B:Prop} (l0:List (Option Bool)) {P1:Prop} (p1:P1) (b:B) (e:Ar l0→P1→Hid B→A:=by intro x0 x1 bZ;refine Z3 Zx x0.v ?_;simp only [push_cast,seval,↓reduceIte,Zh,Ar.v,x1,hN0,hN];exact bZ.get):A:=e ⟨⟩ p1 ⟨b⟩
theorem Zaw {A:Prop} {P0:Prop} (p0:P0) {P1:Prop} (p1:P1) (e:P0→P1→A:=by intro x0 x1;have h9:=Option.some.inj x0;subst h9;refine And.intro rfl (Fit2.of (Ye hU rfl rfl ?_) (by omega));simp only [push_cast,seval,↓reduceIte,Zh,x1,hN0,hN]):A:=e p0 p1
theorem Q0 {A B:Prop} (l0:List (Option Bool)) {P1:Prop} (p1:P1) {P2:Prop} (p2:P2) (b:B) (e:Ar l0→P1→P2→Hid B→A:=by intro x0 x1 x2 bZ;refine Z3 Zx x0.v ?_;simp only [push_cast,seval,↓reduceIte,Zh,Ar.v,x1,x2,hN0,hN];exact bZ.get):A:=e ⟨⟩ p1 p2 ⟨b⟩
theorem zG {A B:Prop} (b:B) (e:Hid B→A:=by intro bZ;(repeat (with_reducible refine And.intro (by first | (intro h0;simp only [h0,and_self];done) | (intro h0;simp only [h0,Bool.not_false,Bool.not_true,Bool.true_and,Bool.and_true,true_and,and_true,and_self,imp_self,implies_true,bne_iff_ne,ne_eq,beq_iff_eq];done) | (intros;simp_all;done) | exact True.intro) ?_));exact bZ.get):A:=e ⟨b⟩
theorem zX2 {A B:Prop} {P0:Prop} (p0:P0) {P1:Prop} (p1:P1) (b:B) (e:P0→P1→Hid B→A:=by intro x0 x1 bZ;simp only [push_cast,seval,↓reduceIte,Zh,x0,x1,hN0,hN];exact bZ.get):A:=e p0 p1 ⟨b⟩
theorem Z5n {A:Prop} {P0:Prop} (p0:P0) {P1:Prop} (p1:P1) {P2:Prop} (p2:P2) (e:P0→P1→P2→A:=by intro x0 x1 x2;have h9:=Option.some.inj x0;subst h9;refine And.intro rfl (Fit2.of (Ye hU rfl rfl ?_) (by omega));simp only [push_cast,seval,↓reduceIte,Zh,x1,x2,hN0,hN]):A:=e p0 p1 p2
theorem zRo {A B:Prop} (l0:List (Option Bool)) (b:B) (e:Ar l0→Hid B→A:=by intro x0 bZ;refine Z3 Zx x0.v ?_;simp only [push_cast,seval,↓reduceIte,Zh,Ar.v,hN0,hN];exact bZ.get):A:=e ⟨⟩ ⟨b⟩
theorem zTs {A B:Prop} {P0:Prop} (p0:P0) (b:B) (e:P0→Hid B→A:=by intro x0 bZ;refine x0.then ?_;simp only [push_cast,seval,↓reduceIte,Zh,hN0,hN];exact bZ.get):A:=e p0 ⟨b⟩
theorem zX1 {A B:Prop} {P0:Prop} (p0:P0) (b:B) (e:P0→Hid B→A:=by intro x0 bZ;simp only [push_cast,seval,↓reduceIte,Zh,x0,hN0,hN];exact bZ.get):A:=e p0 ⟨b⟩
theorem Zrc {A B:Prop} (l0:List (Option Bool)) {P1:Prop} (p1:P1) {P2:Prop} (p2:P2) {P3:Prop} (p3:P3) {P4:Prop} (p4:P4) (b:B) (e:Ar l0→P1→P2→P3→P4→Hid B→A:=by intro x0 x1 x2 x3 x4 bZ;refine Z3 Zx x0.v ?_;simp only [push_cast,Nat.reduceAdd,Nat.reduceSub,Nat.reduceMul,Nat.reduceLeDiff,Nat.reduceLT,Nat.reduceEqDiff,↓reduceIte,reduceCtorEq,Int.reduceBEq,Int.reduceBNe,Nat.reduceBEq,Int.reduceLE,Int.reduceLT,Int.reduceEq,Int.reduceNe,Int.reduceNeg,Nat.reduceDiv,Nat.reduceMod,Nat.reducePow,Zh,Ar.v,x1,x2,x3,x4,hN0,hN];exact bZ.get):A:=e ⟨⟩ p1 p2 p3 p4 ⟨b⟩
theorem Z5m {A:Prop} {P0:Prop} (p0:P0) {P1:Prop} (p1:P1) {P2:Prop} (p2:P2) {P3:Prop} (p3:P3) {P4:Prop} (p4:P4) (e:P0→P1→P2→P3→P4→A:=by intro x0 x1 x2 x3 x4;have h9:=Option.some.inj x0;subst h9;refine And.intro rfl (Fit2.of (Ye hU rfl rfl ?_) (by omega));simp only [push_cast,Nat.reduceAdd,Nat.reduceSub,Nat.reduceMul,Nat.reduceLeDiff,Nat.reduceLT,Nat.reduceEqDiff,↓reduceIte,reduceCtorEq,Int.reduceBEq,Int.reduceBNe,Nat.reduceBEq,Int.reduceLE,Int.reduceLT,Int.reduceEq,Int.reduceNe,Int.reduceNeg,Nat.reduceDiv,Nat.reduceMod,Nat.reducePow,Zh,x1,x2,x3,x4,hN0,hN]):A:=e p0 p1 p2 p3 p4
theorem zRd {A B:Prop} (l0:List Nat) (l1:List Bool) (b:B) (e:Ar l0→Ar l1→Hid B→A:=by intro x0 x1 bZ;refine Z3 Zx [] ?_;simp only [push_cast,seval,↓reduceIte,Zh,hN0,hN];refine Zs5 x0.v x1.v ?_;simp only [push_cast,seval,↓reduceIte,Ar.v];exact bZ.get):A:=e ⟨⟩ ⟨⟩ ⟨b⟩
theorem zS {A B:Prop} (b:B) (e:Hid B→A:=by intro bZ;simp only [push_cast,seval,↓reduceIte,Zh,hN0,hN];exact bZ.get):A:=e ⟨b⟩
theorem zC {A B:Prop} {P0:Prop} (p0:P0) (b:B) (e:P0→Hid B→A:=by intro x0 bZ;refine Z3 Zx [] ?_;simp only [push_cast,seval,↓reduceIte,Zh,hN0,hN];refine x0.then ?_;simp only [push_cast,seval,↓reduceIte,Zh,hN0,hN];exact bZ.get):A:=e p0 ⟨b⟩
theorem zK {A B:Prop} (b:B) (e:Hid B→A:=by intro bZ;refine Z65 ?_;(try simp only [Y9,Yp]);exact bZ.get):A:=e ⟨b⟩
theorem zSe {A:Prop} (e:A:=by simp only [push_cast,seval,↓reduceIte,Zh,hN0,hN]):A:=e
theorem zF4 {A B:Prop} {P0:Prop} (p0:P0) {P1:Prop} (p1:P1) {P2:Prop} (p2:P2) {P3:Prop} (p3:P3) (b:B) (e:P0→P1→P2→P3→Hid B→A:=by intro x0 x1 x2 x3 bZ;simp only [push_cast,Nat.reduceAdd,Nat.reduceSub,Nat.reduceMul,Nat.reduceLeDiff,Nat.reduceLT,Nat.reduceEqDiff,↓reduceIte,reduceCtorEq,Int.reduceBEq,Int.reduceBNe,Nat.reduceBEq,Int.reduceLE,Int.reduceLT,Int.reduceEq,Int.reduceNe,Int.reduceNeg,Nat.reduceDiv,Nat.reduceMod,Nat.reducePow,Zh,x0,x1,x2,x3,hN0,hN];exact bZ.get):A:=e p0 p1 p2 p3 ⟨b⟩
theorem zF7 {A B:Prop} {P0:Prop} (p0:P0) {P1:Prop} (p1:P1) {P2:Prop} (p2:P2) {P3:Prop} (p3:P3) {P4:Prop} (p4:P4) {P5:Prop} (p5:P5) {P6:Prop} (p6:P6) (b:B) (e:P0→P1→P2→P3→P4→P5→P6→Hid B→A:=by intro x0 x1 x2 x3 x4 x5 x6 bZ;simp only [push_cast,Nat.reduceAdd,Nat.reduceSub,Nat.reduceMul,Nat.reduceLeDiff,Nat.reduceLT,Nat.reduceEqDiff,↓reduceIte,reduceCtorEq,Int.reduceBEq,Int.reduceBNe,Nat.reduceBEq,Int.reduceLE,Int.reduceLT,Int.reduceEq,Int.reduceNe,Int.reduceNeg,Nat.reduceDiv,Nat.reduceMod,Nat.reducePow,Zh,x0,x1,x2,x3,x4,x5,x6,hN0,hN];exact bZ.get):A:=e p0 p1 p2 p3 p4 p5 p6 ⟨b⟩
theorem zX3 {A B:Prop} {P0:Prop} (p0:P0) {P1:Prop} (p1:P1) {P2:Prop} (p2:P2) (b:B) (e:P0→P1→P2→Hid B→A:=by intro x0 x1 x2 bZ;simp only [push_cast,seval,↓reduceIte,Zh,x0,x1,x2,hN0,hN];exact bZ.get):A:=e p0 p1 p2 ⟨b⟩
theorem Zxv {A:Prop} {P0:Prop} (p0:P0) {P1:Prop} (p1:P1) {P2:Prop} (p2:P2) (e:P0→P1→P2→A:=by intro x0 x1 x2;simp only [push_cast,seval,↓reduceIte,Zh,x0,x1,x2,hN0,hN]):A:=e p0 p1 p2
theorem Kf {A B:Prop} (l0:List Nat) {P1:Prop} (p1:P1) {P2:Prop} (p2:P2) (b:B) (e:Ar l0→P1→P2→Hid B→A:=by intro x0 x1 x2 bZ;refine Zcp x0.v (Z3 Zx [] ?_);simp only [push_cast,seval,↓reduceIte,Zh,Ar.v,x1,x2,hN0,hN];exact bZ.get):A:=e ⟨⟩ p1 p2 ⟨b⟩
theorem Xx {A:Prop} {P0:Prop} (p0:P0) {P1:Prop} (p1:P1) (e:P0→P1→A:=by intro x0 x1;simp only [push_cast,seval,↓reduceIte,Zh,x0,x1,hN0,hN]):A:=e p0 p1
theorem zF6 {A B:Prop} {P0:Prop} (p0:P0) {P1:Prop} (p1:P1) {P2:Prop} (p2:P2) {P3:Prop} (p3:P3) {P4:Prop} (p4:P4) {P5:Prop} (p5:P5) (b:B) (e:P0→P1→P2→P3→P4→P5→Hid B→A:=by intro x0 x1 x2 x3 x4 x5 bZ;simp only [push_cast,Nat.reduceAdd,Nat.reduceSub,Nat.reduceMul,Nat.reduceLeDiff,Nat.reduceLT,Nat.reduceEqDiff,↓reduceIte,reduceCtorEq,Int.reduceBEq,Int.reduceBNe,Nat.reduceBEq,Int.reduceLE,Int.reduceLT,Int.reduceEq,Int.reduceNe,Int.reduceNeg,Nat.reduceDiv,Nat.reduceMod,Nat.reducePow,Zh,x0,x1,x2,x3,x4,x5,hN0,hN];exact bZ.get):A:=e p0 p1 p2 p3 p4 p5 ⟨b⟩
theorem zO {A B:Prop} (b:B) (e:Hid B→A:=by intro bZ;(repeat (with_reducible refine And.intro (by first | omega | exact Zkb rfl | exact Zim | exact Z5u rfl | exact Z1e rfl rfl | exact Zvv rfl | exact Z1d rfl) ?_));exact bZ.get):A:=e ⟨b⟩
theorem zXt {A B:Prop} (b:B) (e:Hid B→A:=by intro bZ;refine Z64 ?_;(try simp only [Y9,Yp,↓reduceIte,Nat.reduceEqDiff]);exact bZ.get):A:=e ⟨b⟩
theorem Yc4 {A:Prop} {P0:Prop} (p0:P0) {P1:Prop} (p1:P1) {P2:Prop} (p2:P2) {P3:Prop} (p3:P3) {P4:Prop} (p4:P4) {P5:Prop} (p5:P5) (e:P0→P1→P2→P3→P4→P5→A:=by intro x0 x1 x2 x3 x4 x5;simp only [push_cast,Nat.reduceAdd,Nat.reduceSub,Nat.reduceMul,Nat.reduceLeDiff,Nat.reduceLT,Nat.reduceEqDiff,↓reduceIte,reduceCtorEq,Int.reduceBEq,Int.reduceBNe,Nat.reduceBEq,Int.reduceLE,Int.reduceLT,Int.reduceEq,Int.reduceNe,Int.reduceNeg,Nat.reduceDiv,Nat.reduceMod,Nat.reducePow,Zh,x0,x1,x2,x3,x4,x5,hN0,hN]):A:=e p0 p1 p2 p3 p4 p5
theorem Zxe {A:Prop} {P0:Prop} (p0:P0) {P1:Prop} (p1:P1) {P2:Prop} (p2:P2) {P3:Prop} (p3:P3) (e:P0→P1→P2→P3→A:=by intro x0 x1 x2 x3;have h9:=Option.some.inj x0;subst h9;refine And.intro rfl (Fit2.of (Ye hU rfl rfl ?_) (by omega));simp only [push_cast,seval,↓reduceIte,Zh,x1,x2,x3,hN0,hN]):A:=e p0 p1 p2 p3
theorem zF8 {A B:Prop} {P0:Prop} (p0:P0) {P1:Prop} (p1:P1) {P2:Prop} (p2:P2) {P3:Prop} (p3:P3) {P4:Prop} (p4:P4) {P5:Prop} (p5:P5) {P6:Prop} (p6:P6) {P7:Prop} (p7:P7) (b:B) (e:P0→P1→P2→P3→P4→P5→P6→P7→Hid B→A:=by intro x0 x1 x2 x3 x4 x5 x6 x7 bZ;simp only [push_cast,Nat.reduceAdd,Nat.reduceSub,Nat.reduceMul,Nat.reduceLeDiff,Nat.reduceLT,Nat.reduceEqDiff,↓reduceIte,reduceCtorEq,Int.reduceBEq,Int.reduceBNe,Nat.reduceBEq,Int.reduceLE,Int.reduceLT,Int.reduceEq,Int.reduceNe,Int.reduceNeg,Nat.reduceDiv,Nat.reduceMod,Nat.reducePow,Zh,x0,x1,x2,x3,x4,x5,x6,x7,hN0,hN];exact bZ.get):A:=e p0 p1 p2 p3 p4 p5 p6 p7 ⟨b⟩
theorem Yc2 {A:Prop} {P0:Prop} (p0:P0) {P1:Prop} (p1:P1) {P2:Prop} (p2:P2) {P3:Prop} (p3:P3) {P4:Prop} (p4:P4) {P5:Prop} (p5:P5) {P6:Prop} (p6:P6) {P7:Prop} (p7:P7) {P8:Prop} (p8:P8) (e:P0→P1→P2→P3→P4→P5→P6→P7→P8→A:=by intro x0 x1 x2 x3 x4 x5 x6 x7 x8;have h9:=Option.some.inj x0;subst h9;refine And.intro rfl (Fit2.of (Ye hU rfl rfl ?_) (by omega));simp only [push_cast,Nat.reduceAdd,Nat.reduceSub,Nat.reduceMul,Nat.reduceLeDiff,Nat.reduceLT,Nat.reduceEqDiff,↓reduceIte,reduceCtorEq,Int.reduceBEq,Int.reduceBNe,Nat.reduceBEq,Int.reduceLE,Int.reduceLT,Int.reduceEq,Int.reduceNe,Int.reduceNeg,Nat.reduceDiv,Nat.reduceMod,Nat.reducePow,Zh,x1,x2,x3,x4,x5,x6,x7,x8,hN0,hN]):A:=e p0 p1 p2 p3 p4 p5 p6 p7 p8
theorem zX5 {A B:Prop} {P0:Prop} (p0:P0) {P1:Prop} (p1:P1) {P2:Prop} (p2:P2) {P3:Prop} (p3:P3) {P4:Prop} (p4:P4) (b:B) (e:P0→P1→P2→P3→P4→Hid B→A:=by intro x0 x1 x2 x3 x4 bZ;simp only [push_cast,seval,↓reduceIte,Zh,x0,x1,x2,x3,x4,hN0,hN];exact bZ.get):A:=e p0 p1 p2 p3 p4 ⟨b⟩
theorem Yc3 {A:Prop} {P0:Prop} (p0:P0) {P1:Prop} (p1:P1) {P2:Prop} (p2:P2) {P3:Prop} (p3:P3) {P4:Prop} (p4:P4) {P5:Prop} (p5:P5) (e:P0→P1→P2→P3→P4→P5→A:=by intro x0 x1 x2 x3 x4 x5;have h9:=Option.some.inj x0;subst h9;refine And.intro rfl (Fit2.of (Ye hU rfl rfl ?_) (by omega));simp only [push_cast,seval,↓reduceIte,Zh,x1,x2,x3,x4,x5,hN0,hN]):A:=e p0 p1 p2 p3 p4 p5
theorem zX4 {A B:Prop} {P0:Prop} (p0:P0) {P1:Prop} (p1:P1) {P2:Prop} (p2:P2) {P3:Prop} (p3:P3) (b:B) (e:P0→P1→P2→P3→Hid B→A:=by intro x0 x1 x2 x3 bZ;simp only [push_cast,seval,↓reduceIte,Zh,x0,x1,x2,x3,hN0,hN];exact bZ.get):A:=e p0 p1 p2 p3 ⟨b⟩
theorem Z5o {A:Prop} {P0:Prop} (p0:P0) {P1:Prop} (p1:P1) {P2:Prop} (p2:P2) {P3:Prop} (p3:P3) {P4:Prop} (p4:P4) (e:P0→P1→P2→P3→P4→A:=by intro x0 x1 x2 x3 x4;have h9:=Option.some.inj x0;subst h9;refine And.intro rfl (Fit2.of (Ye hU rfl rfl ?_) (by omega));simp only [push_cast,seval,↓reduceIte,Zh,x1,x2,x3,x4,hN0,hN]):A:=e p0 p1 p2 p3 p4
theorem Z9e {A:Prop} {P0:Prop} (p0:P0) {P1:Prop} (p1:P1) {P2:Prop} (p2:P2) {P3:Prop} (p3:P3) {P4:Prop} (p4:P4) {P5:Prop} (p5:P5) {P6:Prop} (p6:P6) {P7:Prop} (p7:P7) (e:P0→P1→P2→P3→P4→P5→P6→P7→A:=by intro x0 x1 x2 x3 x4 x5 x6 x7;have h9:=Option.some.inj x0;subst h9;refine And.intro rfl (Fit2.of (Ye hU rfl rfl ?_) (by omega));simp only [push_cast,Nat.reduceAdd,Nat.reduceSub,Nat.reduceMul,Nat.reduceLeDiff,Nat.reduceLT,Nat.reduceEqDiff,↓reduceIte,reduceCtorEq,Int.reduceBEq,Int.reduceBNe,Nat.reduceBEq,Int.reduceLE,Int.reduceLT,Int.reduceEq,Int.reduceNe,Int.reduceNeg,Nat.reduceDiv,Nat.reduceMod,Nat.reducePow,Zh,x1,x2,x3,x4,x5,x6,x7,hN0,hN]):A:=e p0 p1 p2 p3 p4 p5 p6 p7
theorem Yc9 {A B:Prop} (l0:List (Option Bool)) {P1:Prop} (p1:P1) {P2:Prop} (p2:P2) {P3:Prop} (p3:P3) {P4:Prop} (p4:P4) {P5:Prop} (p5:P5) {P6:Prop} (p6:P6) {P7:Prop} (p7:P7) (b:B) (e:Ar l0→P1→P2→P3→P4→P5→P6→P7→Hid B→A:=by intro x0 x1 x2 x3 x4 x5 x6 x7 bZ;refine Z3 Zx x0.v ?_;simp only [push_cast,seval,↓reduceIte,Zh,Ar.v,x1,x2,x3,x4,x5,x6,x7,hN0,hN];exact bZ.get):A:=e ⟨⟩ p1 p2 p3 p4 p5 p6 p7 ⟨b⟩
theorem Z9g {A B:Prop} (l0:List (Option Bool)) {P1:Prop} (p1:P1) {P2:Prop} (p2:P2) {P3:Prop} (p3:P3) {P4:Prop} (p4:P4) {P5:Prop} (p5:P5) {P6:Prop} (p6:P6) {P7:Prop} (p7:P7) (b:B) (e:Ar l0→P1→P2→P3→P4→P5→P6→P7→Hid B→A:=by intro x0 x1 x2 x3 x4 x5 x6 x7 bZ;refine Z3 Zx x0.v ?_;simp only [push_cast,Nat.reduceAdd,Nat.reduceSub,Nat.reduceMul,Nat.reduceLeDiff,Nat.reduceLT,Nat.reduceEqDiff,↓reduceIte,reduceCtorEq,Int.reduceBEq,Int.reduceBNe,Nat.reduceBEq,Int.reduceLE,Int.reduceLT,Int.reduceEq,Int.reduceNe,Int.reduceNeg,Nat.reduceDiv,Nat.reduceMod,Nat.reducePow,Zh,Ar.v,x1,x2,x3,x4,x5,x6,x7,hN0,hN];exact bZ.get):A:=e ⟨⟩ p1 p2 p3 p4 p5 p6 p7 ⟨b⟩
theorem Yc6 {A B:Prop} {P0:Prop} (p0:P0) {P1:Prop} (p1:P1) {P2:Prop} (p2:P2) {P3:Prop} (p3:P3) {P4:Prop} (p4:P4) {P5:Prop} (p5:P5) {P6:Prop} (p6:P6) {P7:Prop} (p7:P7) {P8:Prop} (p8:P8) {P9:Prop} (p9:P9) (b:B) (e:P0→P1→P2→P3→P4→P5→P6→P7→P8→P9→Hid B→A:=by intro x0 x1 x2 x3 x4 x5 x6 x7 x8 x9 bZ;refine Z3 Zx [] ?_;simp only [push_cast,Nat.reduceAdd,Nat.reduceSub,Nat.reduceMul,Nat.reduceLeDiff,Nat.reduceLT,Nat.reduceEqDiff,↓reduceIte,reduceCtorEq,Int.reduceBEq,Int.reduceBNe,Nat.reduceBEq,Int.reduceLE,Int.reduceLT,Int.reduceEq,Int.reduceNe,Int.reduceNeg,Nat.reduceDiv,Nat.reduceMod,Nat.reducePow,Zh,x0,x1,x2,x3,x4,x5,x6,x7,x8,x9,hN0,hN];exact bZ.get):A:=e p0 p1 p2 p3 p4 p5 p6 p7 p8 p9 ⟨b⟩
theorem Ybb {A:Prop} {P0:Prop} (p0:P0) {P1:Prop} (p1:P1) {P2:Prop} (p2:P2) {P3:Prop} (p3:P3) {P4:Prop} (p4:P4) {P5:Prop} (p5:P5) {P6:Prop} (p6:P6) {P7:Prop} (p7:P7) {P8:Prop} (p8:P8) {P9:Prop} (p9:P9) (e:P0→P1→P2→P3→P4→P5→P6→P7→P8→P9→A:=by intro x0 x1 x2 x3 x4 x5 x6 x7 x8 x9;simp only [push_cast,Nat.reduceAdd,Nat.reduceSub,Nat.reduceMul,Nat.reduceLeDiff,Nat.reduceLT,Nat.reduceEqDiff,↓reduceIte,reduceCtorEq,Int.reduceBEq,Int.reduceBNe,Nat.reduceBEq,Int.reduceLE,Int.reduceLT,Int.reduceEq,Int.reduceNe,Int.reduceNeg,Nat.reduceDiv,Nat.reduceMod,Nat.reducePow,Zh,x0,x1,x2,x3,x4,x5,x6,x7,x8,x9,hN0,hN]):A:=e p0 p1 p2 p3 p4 p5 p6 p7 p8 p9
theorem Yep {A:Prop} {P0:Prop} (p0:P0) {P1:Prop} (p1:P1) {P2:Prop} (p2:P2) {P3:Prop} (p3:P3) {P4:Prop} (p4:P4) {P5:Prop} (p5:P5) {P6:Prop} (p6:P6) (e:P0→P1→P2→P3→P4→P5→P6→A:=by intro x0 x1 x2 x3 x4 x5 x6;simp only [push_cast,Nat.reduceAdd,Nat.reduceSub,Nat.reduceMul,Nat.reduceLeDiff,Nat.reduceLT,Nat.reduceEqDiff,↓reduceIte,reduceCtorEq,Int.reduceBEq,Int.reduceBNe,Nat.reduceBEq,Int.reduceLE,Int.reduceLT,Int.reduceEq,Int.reduceNe,Int.reduceNeg,Nat.reduceDiv,Nat.reduceMod,Nat.reducePow,Zh,x0,x1,x2,x3,x4,x5,x6,hN0,hN]):A:=e p0 p1 p2 p3 p4 p5 p6
theorem Z9f {A B:Prop} (l0:List (Option Bool)) {P1:Prop} (p1:P1) {P2:Prop} (p2:P2) {P3:Prop} (p3:P3) {P4:Prop} (p4:P4) {P5:Prop} (p5:P5) {P6:Prop} (p6:P6) (b:B) (e:Ar l0→P1→P2→P3→P4→P5→P6→Hid B→A:=by intro x0 x1 x2 x3 x4 x5 x6 bZ;refine Z3 Zx x0.v ?_;simp only [push_cast,Nat.reduceAdd,Nat.reduceSub,Nat.reduceMul,Nat.reduceLeDiff,Nat.reduceLT,Nat.reduceEqDiff,↓reduceIte,reduceCtorEq,Int.reduceBEq,Int.reduceBNe,Nat.reduceBEq,Int.reduceLE,Int.reduceLT,Int.reduceEq,Int.reduceNe,Int.reduceNeg,Nat.reduceDiv,Nat.reduceMod,Nat.reducePow,Zh,Ar.v,x1,x2,x3,x4,x5,x6,hN0,hN];exact bZ.get):A:=e ⟨⟩ p1 p2 p3 p4 p5 p6 ⟨b⟩
theorem Yba {A:Prop} {P0:Prop} (p0:P0) {P1:Prop} (p1:P1) {P2:Prop} (p2:P2) {P3:Prop} (p3:P3) {P4:Prop} (p4:P4) {P5:Prop} (p5:P5) {P6:Prop} (p6:P6) (e:P0→P1→P2→P3→P4→P5→P6→A:=by intro x0 x1 x2 x3 x4 x5 x6;have h9:=Option.some.inj x0;subst h9;refine And.intro rfl (Fit2.of (Ye hU rfl rfl ?_) (by omega));simp only [push_cast,Nat.reduceAdd,Nat.reduceSub,Nat.reduceMul,Nat.reduceLeDiff,Nat.reduceLT,Nat.reduceEqDiff,↓reduceIte,reduceCtorEq,Int.reduceBEq,Int.reduceBNe,Nat.reduceBEq,Int.reduceLE,Int.reduceLT,Int.reduceEq,Int.reduceNe,Int.reduceNeg,Nat.reduceDiv,Nat.reduceMod,Nat.reducePow,Zh,x1,x2,x3,x4,x5,x6,hN0,hN]):A:=e p0 p1 p2 p3 p4 p5 p6
theorem zF9 {A B:Prop} {P0:Prop} (p0:P0) {P1:Prop} (p1:P1) {P2:Prop} (p2:P2) {P3:Prop} (p3:P3) {P4:Prop} (p4:P4) {P5:Prop} (p5:P5) {P6:Prop} (p6:P6) {P7:Prop} (p7:P7) {P8:Prop} (p8:P8) (b:B) (e:P0→P1→P2→P3→P4→P5→P6→P7→P8→Hid B→A:=by intro x0 x1 x2 x3 x4 x5 x6 x7 x8 bZ;simp only [push_cast,Nat.reduceAdd,Nat.reduceSub,Nat.reduceMul,Nat.reduceLeDiff,Nat.reduceLT,Nat.reduceEqDiff,↓reduceIte,reduceCtorEq,Int.reduceBEq,Int.reduceBNe,Nat.reduceBEq,Int.reduceLE,Int.reduceLT,Int.reduceEq,Int.reduceNe,Int.reduceNeg,Nat.reduceDiv,Nat.reduceMod,Nat.reducePow,Zh,x0,x1,x2,x3,x4,x5,x6,x7,x8,hN0,hN];exact bZ.get):A:=e p0 p1 p2 p3 p4 p5 p6 p7 p8 ⟨b⟩
theorem Yc5 {A:Prop} {P0:Prop} (p0:P0) {P1:Prop} (p1:P1) {P2:Prop} (p2:P2) {P3:Prop} (p3:P3) {P4:Prop} (p4:P4) {P5:Prop} (p5:P5) {P6:Prop} (p6:P6) {P7:Prop} (p7:P7) {P8:Prop} (p8:P8) (e:P0→P1→P2→P3→P4→P5→P6→P7→P8→A:=by intro x0 x1 x2 x3 x4 x5 x6 x7 x8;simp only [push_cast,Nat.reduceAdd,Nat.reduceSub,Nat.reduceMul,Nat.reduceLeDiff,Nat.reduceLT,Nat.reduceEqDiff,↓reduceIte,reduceCtorEq,Int.reduceBEq,Int.reduceBNe,Nat.reduceBEq,Int.reduceLE,Int.reduceLT,Int.reduceEq,Int.reduceNe,Int.reduceNeg,Nat.reduceDiv,Nat.reduceMod,Nat.reducePow,Zh,x0,x1,x2,x3,x4,x5,x6,x7,x8,hN0,hN]):A:=e p0 p1 p2 p3 p4 p5 p6 p7 p8
theorem Yeo {A B:Prop} {P0:Prop} (p0:P0) {P1:Prop} (p1:P1) {P2:Prop} (p2:P2) {P3:Prop} (p3:P3) {P4:Prop} (p4:P4) {P5:Prop} (p5:P5) {P6:Prop} (p6:P6) {P7:Prop} (p7:P7) {P8:Prop} (p8:P8) {P9:Prop} (p9:P9) (b:B) (e:P0→P1→P2→P3→P4→P5→P6→P7→P8→P9→Hid B→A:=by intro x0 x1 x2 x3 x4 x5 x6 x7 x8 x9 bZ;simp only [push_cast,Nat.reduceAdd,Nat.reduceSub,Nat.reduceMul,Nat.reduceLeDiff,Nat.reduceLT,Nat.reduceEqDiff,↓reduceIte,reduceCtorEq,Int.reduceBEq,Int.reduceBNe,Nat.reduceBEq,Int.reduceLE,Int.reduceLT,Int.reduceEq,Int.reduceNe,Int.reduceNeg,Nat.reduceDiv,Nat.reduceMod,Nat.reducePow,Zh,x0,x1,x2,x3,x4,x5,x6,x7,x8,x9,hN0,hN];exact bZ.get):A:=e p0 p1 p2 p3 p4 p5 p6 p7 p8 p9 ⟨b⟩
theorem Yeq {A B:Prop} (l0:List Nat) {P1:Prop} (p1:P1) (b:B) (e:Ar l0→P1→Hid B→A:=by intro x0 x1 bZ;refine Zcp x0.v (Z3 Zx [] ?_);simp only [push_cast,seval,↓reduceIte,Zh,Ar.v,x1,hN0,hN];exact bZ.get):A:=e ⟨⟩ p1 ⟨b⟩
theorem Ybc {A B:Prop} (l0:List (Option Bool)) {P1:Prop} (p1:P1) {P2:Prop} (p2:P2) {P3:Prop} (p3:P3) {P4:Prop} (p4:P4) (b:B) (e:Ar l0→P1→P2→P3→P4→Hid B→A:=by intro x0 x1 x2 x3 x4 bZ;refine Z3 Zx x0.v ?_;simp only [push_cast,seval,↓reduceIte,Zh,Ar.v,x1,x2,x3,x4,hN0,hN];exact bZ.get):A:=e ⟨⟩ p1 p2 p3 p4 ⟨b⟩
theorem Yc7 {A B:Prop} (l0:List (Option Bool)) {P1:Prop} (p1:P1) {P2:Prop} (p2:P2) {P3:Prop} (p3:P3) {P4:Prop} (p4:P4) {P5:Prop} (p5:P5) {P6:Prop} (p6:P6) {P7:Prop} (p7:P7) {P8:Prop} (p8:P8) (b:B) (e:Ar l0→P1→P2→P3→P4→P5→P6→P7→P8→Hid B→A:=by intro x0 x1 x2 x3 x4 x5 x6 x7 x8 bZ;refine Z3 Zx x0.v ?_;simp only [push_cast,Nat.reduceAdd,Nat.reduceSub,Nat.reduceMul,Nat.reduceLeDiff,Nat.reduceLT,Nat.reduceEqDiff,↓reduceIte,reduceCtorEq,Int.reduceBEq,Int.reduceBNe,Nat.reduceBEq,Int.reduceLE,Int.reduceLT,Int.reduceEq,Int.reduceNe,Int.reduceNeg,Nat.reduceDiv,Nat.reduceMod,Nat.reducePow,Zh,Ar.v,x1,x2,x3,x4,x5,x6,x7,x8,hN0,hN];exact bZ.get):A:=e ⟨⟩ p1 p2 p3 p4 p5 p6 p7 p8 ⟨b⟩
theorem Yc1 {A:Prop} {P0:Prop} (p0:P0) {P1:Prop} (p1:P1) {P2:Prop} (p2:P2) {P3:Prop} (p3:P3) {P4:Prop} (p4:P4) {P5:Prop} (p5:P5) (e:P0→P1→P2→P3→P4→P5→A:=by intro x0 x1 x2 x3 x4 x5;refine And.intro rfl (Fit2.of (Ye hU rfl rfl ?_) (by omega));simp only [push_cast,Nat.reduceAdd,Nat.reduceSub,Nat.reduceMul,Nat.reduceLeDiff,Nat.reduceLT,Nat.reduceEqDiff,↓reduceIte,reduceCtorEq,Int.reduceBEq,Int.reduceBNe,Nat.reduceBEq,Int.reduceLE,Int.reduceLT,Int.reduceEq,Int.reduceNe,Int.reduceNeg,Nat.reduceDiv,Nat.reduceMod,Nat.reducePow,Zh,x0,x1,x2,x3,x4,x5,hN0,hN]):A:=e p0 p1 p2 p3 p4 p5
theorem Yc8 {A B:Prop} (l0:List (Option Bool)) {P1:Prop} (p1:P1) {P2:Prop} (p2:P2) {P3:Prop} (p3:P3) {P4:Prop} (p4:P4) {P5:Prop} (p5:P5) (b:B) (e:Ar l0→P1→P2→P3→P4→P5→Hid B→A:=by intro x0 x1 x2 x3 x4 x5 bZ;refine Z3 Zx x0.v ?_;simp only [push_cast,seval,↓reduceIte,Zh,Ar.v,x1,x2,x3,x4,x5,hN0,hN];exact bZ.get):A:=e ⟨⟩ p1 p2 p3 p4 p5 ⟨b⟩
theorem Yer {A:Prop} {P0:Prop} (p0:P0) {P1:Prop} (p1:P1) {P2:Prop} (p2:P2) {P3:Prop} (p3:P3) {P4:Prop} (p4:P4) (e:P0→P1→P2→P3→P4→A:=by intro x0 x1 x2 x3 x4;simp only [push_cast,seval,↓reduceIte,Zh,x0,x1,x2,x3,x4,hN0,hN]):A:=e p0 p1 p2 p3 p4
end Go.Proofs.Ytnapihlnlajlpaa
