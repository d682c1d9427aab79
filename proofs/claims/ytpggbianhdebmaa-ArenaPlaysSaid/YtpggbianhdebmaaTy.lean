/- The types of this seat's program, as its dump has them, in the ghost memory's words; no condition. -/
import Derived.Test.YtpggbianhdebmaaRows
import Derived.Test.YtpggbianhdebmaaG13
namespace Go.Proofs.Ytpggbianhdebmaa
open Go.RowKit
set_option linter.unusedVariables false
set_option linter.unusedSimpArgs false
theorem TyOk.of {P:Program} {t:TypeId} (k:TK) (size bytes:Nat) (zero:List Value) (z:Value) (h:(P.info? t).map (fun i=>(i.zero,i.size,i.bytes))=some (some z,size,bytes)) (hz:z.cells.toList=zero) (hu:k.ok P t) (hl:zero.length=size) (h1:zero.all Value.oneCell'=true) (eq:Bool) (he:eq=true→EqTy P t):TyOk P t ⟨k,size,bytes,zero,eq⟩:=by
 refine ⟨?_,hu,hl,fun v hv=>List.all_eq_true.1 h1 v hv,he⟩
 cases hi:P.info? t with
 | none=>rw [hi] at h;cases h
 | some i =>
  rw [hi] at h
  simp only [Option.map_some,Option.some.injEq,Prod.mk.injEq] at h
  exact ⟨i,z,rfl,h.2.1,h.2.2,h.1,hz⟩
theorem TyOk.g {P:Program} {t:TypeId} {k:TK} {size bytes:Nat} {zero:List Value} {eq:Bool} (h:(P.info? t).map (fun i=>(i.zero,i.size,i.bytes))=some (some (.agg zero.toArray),size,bytes)) (hu:k.ok P t) (he:eq=true→EqTy P t:=by intro h;cases h) (hz:(Value.agg zero.toArray).cells.toList=zero:=by rfl) (hl:zero.length=size:=by rfl) (h1:zero.all Value.oneCell'=true:=by rfl):TyOk P t ⟨k,size,bytes,zero,eq⟩ := .of k size bytes zero _ h hz hu hl h1 eq he
theorem TyOk.s {P:Program} {t:TypeId} {k:TK} {size bytes:Nat} {z:Value} {eq:Bool} (h:(P.info? t).map (fun i=>(i.zero,i.size,i.bytes))=some (some z,size,bytes)) (hu:k.ok P t) (he:eq=true→EqTy P t:=by intro h;cases h) (hz:z.cells.toList=[z]:=by rfl) (hl:[z].length=size:=by rfl) (h1:[z].all Value.oneCell'=true:=by rfl):TyOk P t ⟨k,size,bytes,[z],eq⟩ := .of k size bytes [z] _ h hz hu hl h1 eq he
theorem EqTy.m {P:Program} {t:TypeId} (h:EqTy P t):true=true→EqTy P t:=fun _=>h
theorem Zkg {α:Type} {t:Nat} {i:α}:∀ (l:List (Nat×α)),l.lookup t=some i→(t,i)∈l
 | [],h=>by simp at h
 | (a,b)::l,h=>by
  rw [List.lookup_cons] at h
  split at h
  ·rename_i he
   injection h with h
   have:t=a:=by simpa using he
   subst h this
   exact .head _
  exact .tail _ (Zkg l h)
def tE2:TyI:=⟨.int .i64,1,8,[.int .i64 0],false⟩
theorem ty2:TyOk Try.prog 2 tE2 := .s (by kernel_rfl) Try.underlying2
theorem ty3:TyOk Try.prog 3 tE2 := .s (by kernel_rfl) Try.underlying3
def tE4:TyI:=⟨.bool,1,1,[.bool false],false⟩
theorem ty4:TyOk Try.prog 4 tE4 := .s (by kernel_rfl) Try.underlying4
def tE5:TyI:=⟨.int .u8,1,1,[.int .u8 0],false⟩
theorem ty5:TyOk Try.prog 5 tE5 := .s (by kernel_rfl) Try.underlying5
theorem ty6:TyOk Try.prog 6 tE5 := .s (by kernel_rfl) Try.underlying6
def tE7:TyI:=⟨.struct [(0,2),(1,3),(2,4),(3,6)],4,24,[.int .i64 0,.int .i64 0,.bool false,.int .u8 0],false⟩
theorem ty7:TyOk Try.prog 7 tE7 := .g (by kernel_rfl) ⟨_,Try.underlying7,rfl⟩
theorem ty8:TyOk Try.prog 8 tE7 := .g (by kernel_rfl) ⟨_,Try.underlying8,rfl⟩
def tE9:TyI:=⟨.str,1,16,[.string ByteArray.empty],false⟩
theorem ty9:TyOk Try.prog 9 tE9 := .s (by kernel_rfl) Try.underlying9
theorem Zt2:TyOk Try.prog 10 tE9 := .s (by kernel_rfl) Try.underlying10
theorem Zt3:TyOk Try.prog 11 tE9 := .s (by kernel_rfl) Try.underlying11
def Zq9:TyI:=⟨.int .u64,1,8,[.int .u64 0],false⟩
theorem Zt4:TyOk Try.prog 12 Zq9 := .s (by kernel_rfl) Try.underlying12
def Zra:TyI:=⟨.struct [(0,9),(1,12)],2,24,[.string ByteArray.empty,.int .u64 0],false⟩
theorem Zt5:TyOk Try.prog 13 Zra := .g (by kernel_rfl) ⟨_,Try.underlying13,rfl⟩
theorem Zt6:TyOk Try.prog 14 Zra := .g (by kernel_rfl) ⟨_,Try.underlying14,rfl⟩
def Zs5:TyI:=⟨.ptr 70,1,8,[.pointer none],false⟩
theorem Zt7:TyOk Try.prog 15 Zs5 := .s (by kernel_rfl) Try.underlying15
def Zs6:TyI:=⟨.ptr 73,1,8,[.pointer none],false⟩
theorem Zt8:TyOk Try.prog 16 Zs6 := .s (by kernel_rfl) Try.underlying16
def Zs7:TyI:=⟨.ptr 82,1,8,[.pointer none],false⟩
theorem Zt9:TyOk Try.prog 17 Zs7 := .s (by kernel_rfl) Try.underlying17
def Zrb:TyI:=⟨.struct [(0,17)],1,8,[.pointer none],false⟩
theorem Zua:TyOk Try.prog 18 Zrb := .g (by kernel_rfl) ⟨_,Try.underlying18,rfl⟩
theorem Zub:TyOk Try.prog 19 Zrb := .g (by kernel_rfl) ⟨_,Try.underlying19,rfl⟩
def Zpg:TyI:=⟨.int .i32,1,4,[.int .i32 0],false⟩
theorem Zuc:TyOk Try.prog 21 Zpg := .s (by kernel_rfl) Try.underlying21
def Zs8:TyI:=⟨.slice 29,1,24,[.slice none 0 0],false⟩
theorem Zud:TyOk Try.prog 22 Zs8 := .s (by kernel_rfl) Try.underlying22
def Zs9:TyI:=⟨.ptr 59,1,8,[.pointer none],false⟩
theorem Zue:TyOk Try.prog 23 Zs9 := .s (by kernel_rfl) Try.underlying23
def Zta:TyI:=⟨.ptr 34,1,8,[.pointer none],false⟩
theorem Zuf:TyOk Try.prog 25 Zta := .s (by kernel_rfl) Try.underlying25
theorem Zug:TyOk Try.prog 27 Zq9 := .s (by kernel_rfl) Try.underlying27
def Ztb:TyI:=⟨.struct [(0,3),(1,3),(2,3),(3,3),(4,27)],5,40,[.int .i64 0,.int .i64 0,.int .i64 0,.int .i64 0,.int .u64 0],false⟩
theorem Zuh:TyOk Try.prog 28 Ztb := .g (by kernel_rfl) ⟨_,Try.underlying28,rfl⟩
def Ztc:TyI:=⟨.struct [(0,3),(1,3),(2,3),(3,3),(4,27)],5,40,[.int .i64 0,.int .i64 0,.int .i64 0,.int .i64 0,.int .u64 0],true⟩
theorem Zui:TyOk Try.prog 29 Ztc := .g (by kernel_rfl) ⟨_,Try.underlying29,rfl⟩ (fun _=>by unfold EqTy;exact ⟨by kernel_rfl,by kernel_rfl,by kernel_rfl⟩)
def Ztd:TyI:=⟨.slice 40,1,24,[.slice none 0 0],false⟩
theorem Zuj:TyOk Try.prog 32 Ztd := .s (by kernel_rfl) Try.underlying32
def Zrc:TyI:=⟨.struct [(0,32),(1,3),(2,3),(3,3)],4,48,[.slice none 0 0,.int .i64 0,.int .i64 0,.int .i64 0],false⟩
theorem Zuk:TyOk Try.prog 33 Zrc := .g (by kernel_rfl) ⟨_,Try.underlying33,rfl⟩
theorem Zul:TyOk Try.prog 34 Zrc := .g (by kernel_rfl) ⟨_,Try.underlying34,rfl⟩
def Zte:TyI:=⟨.slice 27,1,24,[.slice none 0 0],false⟩
theorem Zum:TyOk Try.prog 40 Zte := .s (by kernel_rfl) Try.underlying40
def Ztf:TyI:=⟨.slice 3,1,24,[.slice none 0 0],false⟩
theorem Zun:TyOk Try.prog 45 Ztf := .s (by kernel_rfl) Try.underlying45
def Ztg:TyI:=⟨.slice 49,1,24,[.slice none 0 0],false⟩
theorem Zuo:TyOk Try.prog 46 Ztg := .s (by kernel_rfl) Try.underlying46
def Zth:TyI:=⟨.arr 3 3,3,24,[.int .i64 0,.int .i64 0,.int .i64 0],true⟩
theorem Zup:TyOk Try.prog 49 Zth := .g (by kernel_rfl) Try.underlying49 (fun _=>by unfold EqTy;exact ⟨by kernel_rfl,by kernel_rfl,by kernel_rfl⟩)
def Zrd:TyI:=⟨.struct [(0,32),(1,3),(2,3)],3,40,[.slice none 0 0,.int .i64 0,.int .i64 0],false⟩
theorem Zuq:TyOk Try.prog 58 Zrd := .g (by kernel_rfl) ⟨_,Try.underlying58,rfl⟩
theorem Zur:TyOk Try.prog 59 Zrd := .g (by kernel_rfl) ⟨_,Try.underlying59,rfl⟩
def Zre:TyI:=⟨.struct [(0,17),(1,17),(2,17),(3,9)],4,40,[.pointer none,.pointer none,.pointer none,.string ByteArray.empty],false⟩
theorem Zus:TyOk Try.prog 69 Zre := .g (by kernel_rfl) ⟨_,Try.underlying69,rfl⟩
theorem Zut:TyOk Try.prog 70 Zre := .g (by kernel_rfl) ⟨_,Try.underlying70,rfl⟩
def Zti:TyI:=⟨.int .u32,1,4,[.int .u32 0],false⟩
theorem Zuu:TyOk Try.prog 74 Zti := .s (by kernel_rfl) Try.underlying74
theorem Zuv:TyOk Try.prog 75 tE5 := .s (by kernel_rfl) Try.underlying75
theorem Zuw:TyOk Try.prog 76 tE5 := .s (by kernel_rfl) Try.underlying76
def Ztj:TyI:=⟨.ptr 5,1,8,[.pointer none],false⟩
theorem Zux:TyOk Try.prog 78 Ztj := .s (by kernel_rfl) Try.underlying78
theorem Zuy:TyOk Try.prog 79 Zpg := .s (by kernel_rfl) Try.underlying79
theorem Zuz:TyOk Try.prog 80 Zpg := .s (by kernel_rfl) Try.underlying80
def tabL:List (Nat×TyI):=[(2,tE2),(3,tE2),(4,tE4),(5,tE5),(6,tE5),(7,tE7),(8,tE7),(9,tE9),(10,tE9),(11,tE9),(12,Zq9),(13,Zra),(14,Zra),(15,Zs5),(16,Zs6),(17,Zs7),(18,Zrb),(19,Zrb),(21,Zpg),(22,Zs8),(23,Zs9),(25,Zta),(27,Zq9),(28,Ztb),(29,Ztc),(32,Ztd),(33,Zrc),(34,Zrc),(40,Zte),(45,Ztf),(46,Ztg),(49,Zth),(58,Zrd),(59,Zrd),(69,Zre),(70,Zre),(74,Zti),(75,tE5),(76,tE5),(78,Ztj),(79,Zpg),(80,Zpg)]
def Jd:X0:=fun t=>tabL.lookup t
theorem Zc:Xn Try.prog Jd:=fun t i h=>by
 have hm:=Zkg _ h
 unfold tabL at hm
 simp only [List.mem_cons,Prod.mk.injEq,List.not_mem_nil,or_false] at hm
 rcases hm with ⟨rfl,rfl⟩ | ⟨rfl,rfl⟩ | ⟨rfl,rfl⟩ | ⟨rfl,rfl⟩ | ⟨rfl,rfl⟩ | ⟨rfl,rfl⟩ | ⟨rfl,rfl⟩ | ⟨rfl,rfl⟩ | ⟨rfl,rfl⟩ | ⟨rfl,rfl⟩ | ⟨rfl,rfl⟩ | ⟨rfl,rfl⟩ | ⟨rfl,rfl⟩ | ⟨rfl,rfl⟩ | ⟨rfl,rfl⟩ | ⟨rfl,rfl⟩ | ⟨rfl,rfl⟩ | ⟨rfl,rfl⟩ | ⟨rfl,rfl⟩ | ⟨rfl,rfl⟩ | ⟨rfl,rfl⟩ | ⟨rfl,rfl⟩ | ⟨rfl,rfl⟩ | ⟨rfl,rfl⟩ | ⟨rfl,rfl⟩ | ⟨rfl,rfl⟩ | ⟨rfl,rfl⟩ | ⟨rfl,rfl⟩ | ⟨rfl,rfl⟩ | ⟨rfl,rfl⟩ | ⟨rfl,rfl⟩ | ⟨rfl,rfl⟩ | ⟨rfl,rfl⟩ | ⟨rfl,rfl⟩ | ⟨rfl,rfl⟩ | ⟨rfl,rfl⟩ | ⟨rfl,rfl⟩ | ⟨rfl,rfl⟩ | ⟨rfl,rfl⟩ | ⟨rfl,rfl⟩ | ⟨rfl,rfl⟩ | ⟨rfl,rfl⟩
 ·exact ty2
 ·exact ty3
 ·exact ty4
 ·exact ty5
 ·exact ty6
 ·exact ty7
 ·exact ty8
 ·exact ty9
 ·exact Zt2
 ·exact Zt3
 ·exact Zt4
 ·exact Zt5
 ·exact Zt6
 ·exact Zt7
 ·exact Zt8
 ·exact Zt9
 ·exact Zua
 ·exact Zub
 ·exact Zuc
 ·exact Zud
 ·exact Zue
 ·exact Zuf
 ·exact Zug
 ·exact Zuh
 ·exact Zui
 ·exact Zuj
 ·exact Zuk
 ·exact Zul
 ·exact Zum
 ·exact Zun
 ·exact Zuo
 ·exact Zup
 ·exact Zuq
 ·exact Zur
 ·exact Zus
 ·exact Zut
 ·exact Zuu
 ·exact Zuv
 ·exact Zuw
 ·exact Zux
 ·exact Zuy
 exact Zuz
theorem Zne:Jd 2=some ⟨.int .i64,1,8,[.int .i64 0],false⟩:=rfl
theorem Znf:Jd 3=some ⟨.int .i64,1,8,[.int .i64 0],false⟩:=rfl
theorem Zng:Jd 4=some ⟨.bool,1,1,[.bool false],false⟩:=rfl
theorem Znh:Jd 5=some ⟨.int .u8,1,1,[.int .u8 0],false⟩:=rfl
theorem Zni:Jd 6=some ⟨.int .u8,1,1,[.int .u8 0],false⟩:=rfl
theorem Znj:Jd 7=some ⟨.struct [(0,2),(1,3),(2,4),(3,6)],4,24,[.int .i64 0,.int .i64 0,.bool false,.int .u8 0],false⟩:=rfl
theorem Znk:Jd 8=some ⟨.struct [(0,2),(1,3),(2,4),(3,6)],4,24,[.int .i64 0,.int .i64 0,.bool false,.int .u8 0],false⟩:=rfl
theorem Znl:Jd 9=some ⟨.str,1,16,[.string ByteArray.empty],false⟩:=rfl
theorem Zin:Jd 10=some ⟨.str,1,16,[.string ByteArray.empty],false⟩:=rfl
theorem Zio:Jd 11=some ⟨.str,1,16,[.string ByteArray.empty],false⟩:=rfl
theorem Zip:Jd 12=some ⟨.int .u64,1,8,[.int .u64 0],false⟩:=rfl
theorem Ziq:Jd 13=some ⟨.struct [(0,9),(1,12)],2,24,[.string ByteArray.empty,.int .u64 0],false⟩:=rfl
theorem Zir:Jd 14=some ⟨.struct [(0,9),(1,12)],2,24,[.string ByteArray.empty,.int .u64 0],false⟩:=rfl
theorem Zis:Jd 15=some ⟨.ptr 70,1,8,[.pointer none],false⟩:=rfl
theorem Zit:Jd 16=some ⟨.ptr 73,1,8,[.pointer none],false⟩:=rfl
theorem Ziu:Jd 17=some ⟨.ptr 82,1,8,[.pointer none],false⟩:=rfl
theorem Ziv:Jd 18=some ⟨.struct [(0,17)],1,8,[.pointer none],false⟩:=rfl
theorem Ziw:Jd 19=some ⟨.struct [(0,17)],1,8,[.pointer none],false⟩:=rfl
theorem Zix:Jd 21=some ⟨.int .i32,1,4,[.int .i32 0],false⟩:=rfl
theorem Ziy:Jd 22=some ⟨.slice 29,1,24,[.slice none 0 0],false⟩:=rfl
theorem Ziz:Jd 23=some ⟨.ptr 59,1,8,[.pointer none],false⟩:=rfl
theorem Zi0:Jd 25=some ⟨.ptr 34,1,8,[.pointer none],false⟩:=rfl
theorem Zbn:Jd 27=some ⟨.int .u64,1,8,[.int .u64 0],false⟩:=rfl
theorem Zi1:Jd 28=some ⟨.struct [(0,3),(1,3),(2,3),(3,3),(4,27)],5,40,[.int .i64 0,.int .i64 0,.int .i64 0,.int .i64 0,.int .u64 0],false⟩:=rfl
theorem Zhp:Jd 29=some ⟨.struct [(0,3),(1,3),(2,3),(3,3),(4,27)],5,40,[.int .i64 0,.int .i64 0,.int .i64 0,.int .i64 0,.int .u64 0],true⟩:=rfl
theorem Zi2:Jd 32=some ⟨.slice 40,1,24,[.slice none 0 0],false⟩:=rfl
theorem Zi3:Jd 33=some ⟨.struct [(0,32),(1,3),(2,3),(3,3)],4,48,[.slice none 0 0,.int .i64 0,.int .i64 0,.int .i64 0],false⟩:=rfl
theorem Zi4:Jd 34=some ⟨.struct [(0,32),(1,3),(2,3),(3,3)],4,48,[.slice none 0 0,.int .i64 0,.int .i64 0,.int .i64 0],false⟩:=rfl
theorem Jr:Jd 40=some ⟨.slice 27,1,24,[.slice none 0 0],false⟩:=rfl
theorem Zi5:Jd 45=some ⟨.slice 3,1,24,[.slice none 0 0],false⟩:=rfl
theorem Zi6:Jd 46=some ⟨.slice 49,1,24,[.slice none 0 0],false⟩:=rfl
theorem Zi7:Jd 49=some ⟨.arr 3 3,3,24,[.int .i64 0,.int .i64 0,.int .i64 0],true⟩:=rfl
theorem Zi8:Jd 59=some ⟨.struct [(0,32),(1,3),(2,3)],3,40,[.slice none 0 0,.int .i64 0,.int .i64 0],false⟩:=rfl
theorem Zi9:Jd 70=some ⟨.struct [(0,17),(1,17),(2,17),(3,9)],4,40,[.pointer none,.pointer none,.pointer none,.string ByteArray.empty],false⟩:=rfl
theorem Zja:Jd 74=some ⟨.int .u32,1,4,[.int .u32 0],false⟩:=rfl
theorem Zjb:Jd 75=some ⟨.int .u8,1,1,[.int .u8 0],false⟩:=rfl
theorem Zjc:Jd 76=some ⟨.int .u8,1,1,[.int .u8 0],false⟩:=rfl
theorem Zjd:Jd 78=some ⟨.ptr 5,1,8,[.pointer none],false⟩:=rfl
theorem Zje:Jd 79=some ⟨.int .i32,1,4,[.int .i32 0],false⟩:=rfl
theorem Zfi:Z4 Jd 2=some (.int .i64):=rfl
theorem Zfj:Z4 Jd 3=some (.int .i64):=rfl
theorem Zfk:Z4 Jd 4=some (.bool):=rfl
theorem Zfl:Z4 Jd 5=some (.int .u8):=rfl
theorem Zfm:Z4 Jd 6=some (.int .u8):=rfl
theorem Zfn:Z4 Jd 7=some (.struct [(0,2),(1,3),(2,4),(3,6)]):=rfl
theorem Zfo:Z4 Jd 8=some (.struct [(0,2),(1,3),(2,4),(3,6)]):=rfl
theorem Zfp:Z4 Jd 9=some (.str):=rfl
theorem Zc1:Z4 Jd 10=some (.str):=rfl
theorem Zc2:Z4 Jd 11=some (.str):=rfl
theorem Zc3:Z4 Jd 12=some (.int .u64):=rfl
theorem Zc4:Z4 Jd 13=some (.struct [(0,9),(1,12)]):=rfl
theorem Zc5:Z4 Jd 14=some (.struct [(0,9),(1,12)]):=rfl
theorem Zc6:Z4 Jd 15=some (.ptr 70):=rfl
theorem Zc7:Z4 Jd 16=some (.ptr 73):=rfl
theorem Zc8:Z4 Jd 17=some (.ptr 82):=rfl
theorem Zc9:Z4 Jd 18=some (.struct [(0,17)]):=rfl
theorem Zda:Z4 Jd 19=some (.struct [(0,17)]):=rfl
theorem Zdb:Z4 Jd 21=some (.int .i32):=rfl
theorem Zdc:Z4 Jd 22=some (.slice 29):=rfl
theorem Gd:Z4 Jd 23=some (.ptr 59):=rfl
theorem Zdd:Z4 Jd 25=some (.ptr 34):=rfl
theorem Zde:Z4 Jd 27=some (.int .u64):=rfl
theorem Zdf:Z4 Jd 28=some (.struct [(0,3),(1,3),(2,3),(3,3),(4,27)]):=rfl
theorem Zdg:Z4 Jd 29=some (.struct [(0,3),(1,3),(2,3),(3,3),(4,27)]):=rfl
theorem Zdh:Z4 Jd 32=some (.slice 40):=rfl
theorem Zdi:Z4 Jd 33=some (.struct [(0,32),(1,3),(2,3),(3,3)]):=rfl
theorem Zdj:Z4 Jd 34=some (.struct [(0,32),(1,3),(2,3),(3,3)]):=rfl
theorem Uw:Z4 Jd 40=some (.slice 27):=rfl
theorem Zdk:Z4 Jd 45=some (.slice 3):=rfl
theorem Zdl:Z4 Jd 46=some (.slice 49):=rfl
theorem Zdm:Z4 Jd 49=some (.arr 3 3):=rfl
theorem Zdn:Z4 Jd 59=some (.struct [(0,32),(1,3),(2,3)]):=rfl
theorem Zdo:Z4 Jd 70=some (.struct [(0,17),(1,17),(2,17),(3,9)]):=rfl
theorem Zdp:Z4 Jd 74=some (.int .u32):=rfl
theorem Zdq:Z4 Jd 75=some (.int .u8):=rfl
theorem Zdr:Z4 Jd 76=some (.int .u8):=rfl
theorem Zds:Z4 Jd 78=some (.ptr 5):=rfl
theorem Zdt:Z4 Jd 79=some (.int .i32):=rfl
end Go.Proofs.Ytpggbianhdebmaa
