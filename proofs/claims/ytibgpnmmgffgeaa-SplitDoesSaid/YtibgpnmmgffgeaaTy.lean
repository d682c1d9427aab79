/- The types of this seat's program, as its dump has them, in the ghost memory's words; no condition. -/
import Derived.Test.YtibgpnmmgffgeaaRows
import Derived.Test.YtibgpnmmgffgeaaG13
namespace Go.Proofs.Ytibgpnmmgffgeaa
open Go.RowKit
set_option linter.unusedVariables false
set_option linter.unusedSimpArgs false
theorem TyOk.of {P:Program} {t:TypeId} (k:TK) (size bytes:Nat) (zero:List Value) (z:Value) (h:(P.info? t).map (fun i=>(i.zero,i.size,i.bytes))=some (some z,size,bytes)) (hz:z.cells.toList=zero) (hu:k.ok P t) (hl:zero.length=size) (h1:zero.all Value.oneCell'=true) (eq:Bool) (he:eq=true→EqTy P t):TyOk P t ⟨k,size,bytes,zero,eq⟩:=by
 refine ⟨?_,hu,hl,fun v hv=>List.all_eq_true.1 h1 v hv,he⟩
 cases hi:P.info? t with
 | none=>rw [hi] at h;cases h
 | some i =>
  rw [hi] at h
  simp only [Option.map_some,Option.some.injEq,Prod.mk.injEq] at h
  exact ⟨i,z,rfl,h.2.1,h.2.2,h.1,hz⟩
theorem TyOk.g {P:Program} {t:TypeId} {k:TK} {size bytes:Nat} {zero:List Value} {eq:Bool} (h:(P.info? t).map (fun i=>(i.zero,i.size,i.bytes))=some (some (.agg zero.toArray),size,bytes)) (hu:k.ok P t) (he:eq=true→EqTy P t:=by intro h;cases h) (hz:(Value.agg zero.toArray).cells.toList=zero:=by rfl) (hl:zero.length=size:=by rfl) (h1:zero.all Value.oneCell'=true:=by rfl):TyOk P t ⟨k,size,bytes,zero,eq⟩ := .of k size bytes zero _ h hz hu hl h1 eq he
theorem TyOk.s {P:Program} {t:TypeId} {k:TK} {size bytes:Nat} {z:Value} {eq:Bool} (h:(P.info? t).map (fun i=>(i.zero,i.size,i.bytes))=some (some z,size,bytes)) (hu:k.ok P t) (he:eq=true→EqTy P t:=by intro h;cases h) (hz:z.cells.toList=[z]:=by rfl) (hl:[z].length=size:=by rfl) (h1:[z].all Value.oneCell'=true:=by rfl):TyOk P t ⟨k,size,bytes,[z],eq⟩ := .of k size bytes [z] _ h hz hu hl h1 eq he
theorem EqTy.m {P:Program} {t:TypeId} (h:EqTy P t):true=true→EqTy P t:=fun _=>h
theorem Zva {α:Type} {t:Nat} {i:α}:∀ (l:List (Nat×α)),l.lookup t=some i→(t,i)∈l
 | [],h=>by simp at h
 | (a,b)::l,h=>by
  rw [List.lookup_cons] at h
  split at h
  ·rename_i he
   injection h with h
   have:t=a:=by simpa using he
   subst h this
   exact .head _
  exact .tail _ (Zva l h)
def tE2:TyI:=⟨.int .i64,1,8,[.int .i64 0],false⟩
theorem ty2:TyOk Try.prog 2 tE2 := .s (by kernel_rfl) Try.underlying2
theorem ty3:TyOk Try.prog 3 tE2 := .s (by kernel_rfl) Try.underlying3
def tE4:TyI:=⟨.bool,1,1,[.bool false],false⟩
theorem ty4:TyOk Try.prog 4 tE4 := .s (by kernel_rfl) Try.underlying4
def tE5:TyI:=⟨.int .u8,1,1,[.int .u8 0],false⟩
theorem ty5:TyOk Try.prog 5 tE5 := .s (by kernel_rfl) Try.underlying5
theorem ty6:TyOk Try.prog 6 tE5 := .s (by kernel_rfl) Try.underlying6
def tE7:TyI:=⟨.struct [(0,2),(1,3),(2,4),(3,6)],4,24,[.int .i64 0,.int .i64 0,.bool false,.int .u8 0],false⟩
theorem ty7:TyOk Try.prog 7 tE7 := .g (by kernel_rfl) ⟨_,Try.underlying7,rfl⟩
theorem ty8:TyOk Try.prog 8 tE7 := .g (by kernel_rfl) ⟨_,Try.underlying8,rfl⟩
def tE9:TyI:=⟨.str,1,16,[.string ByteArray.empty],false⟩
theorem ty9:TyOk Try.prog 9 tE9 := .s (by kernel_rfl) Try.underlying9
theorem Yjz:TyOk Try.prog 10 tE9 := .s (by kernel_rfl) Try.underlying10
theorem Yj0:TyOk Try.prog 11 tE9 := .s (by kernel_rfl) Try.underlying11
def Yeh:TyI:=⟨.int .u64,1,8,[.int .u64 0],false⟩
theorem Yj1:TyOk Try.prog 12 Yeh := .s (by kernel_rfl) Try.underlying12
def Yei:TyI:=⟨.struct [(0,9),(1,12)],2,24,[.string ByteArray.empty,.int .u64 0],false⟩
theorem Yj2:TyOk Try.prog 13 Yei := .g (by kernel_rfl) ⟨_,Try.underlying13,rfl⟩
theorem Yj3:TyOk Try.prog 14 Yei := .g (by kernel_rfl) ⟨_,Try.underlying14,rfl⟩
def Yid:TyI:=⟨.ptr 124,1,8,[.pointer none],false⟩
theorem Yj4:TyOk Try.prog 15 Yid := .s (by kernel_rfl) Try.underlying15
def Yie:TyI:=⟨.ptr 127,1,8,[.pointer none],false⟩
theorem Yj5:TyOk Try.prog 16 Yie := .s (by kernel_rfl) Try.underlying16
def Yif:TyI:=⟨.ptr 137,1,8,[.pointer none],false⟩
theorem Yj6:TyOk Try.prog 17 Yif := .s (by kernel_rfl) Try.underlying17
def Yej:TyI:=⟨.struct [(0,17)],1,8,[.pointer none],false⟩
theorem Yj7:TyOk Try.prog 18 Yej := .g (by kernel_rfl) ⟨_,Try.underlying18,rfl⟩
theorem Yj8:TyOk Try.prog 19 Yej := .g (by kernel_rfl) ⟨_,Try.underlying19,rfl⟩
def Z84:TyI:=⟨.int .i32,1,4,[.int .i32 0],false⟩
theorem Yj9:TyOk Try.prog 21 Z84 := .s (by kernel_rfl) Try.underlying21
def Yig:TyI:=⟨.slice 48,1,24,[.slice none 0 0],false⟩
theorem Yka:TyOk Try.prog 22 Yig := .s (by kernel_rfl) Try.underlying22
def Yih:TyI:=⟨.slice 25,1,24,[.slice none 0 0],false⟩
theorem Ykb:TyOk Try.prog 23 Yih := .s (by kernel_rfl) Try.underlying23
def Yek:TyI:=⟨.struct [(0,3),(1,22),(2,23)],3,56,[.int .i64 0,.slice none 0 0,.slice none 0 0],false⟩
theorem Ykc:TyOk Try.prog 24 Yek := .g (by kernel_rfl) ⟨_,Try.underlying24,rfl⟩
theorem Ykd:TyOk Try.prog 25 Yek := .g (by kernel_rfl) ⟨_,Try.underlying25,rfl⟩
def Yii:TyI:=⟨.slice 57,1,24,[.slice none 0 0],false⟩
theorem Yke:TyOk Try.prog 26 Yii := .s (by kernel_rfl) Try.underlying26
def Yij:TyI:=⟨.slice 44,1,24,[.slice none 0 0],false⟩
theorem Ykf:TyOk Try.prog 27 Yij := .s (by kernel_rfl) Try.underlying27
def Yik:TyI:=⟨.slice 46,1,24,[.slice none 0 0],false⟩
theorem Ykg:TyOk Try.prog 28 Yik := .s (by kernel_rfl) Try.underlying28
def Yel:TyI:=⟨.struct [(0,3),(1,25),(4,25),(7,26),(8,27),(9,3),(10,28)],11,200,[.int .i64 0,.int .i64 0,.slice none 0 0,.slice none 0 0,.int .i64 0,.slice none 0 0,.slice none 0 0,.slice none 0 0,.slice none 0 0,.int .i64 0,.slice none 0 0],false⟩
theorem Ykh:TyOk Try.prog 29 Yel := .g (by kernel_rfl) ⟨_,Try.underlying29,rfl⟩
theorem Yki:TyOk Try.prog 30 Yel := .g (by kernel_rfl) ⟨_,Try.underlying30,rfl⟩
def Yil:TyI:=⟨.slice 30,1,24,[.slice none 0 0],false⟩
theorem Ykj:TyOk Try.prog 35 Yil := .s (by kernel_rfl) Try.underlying35
def Yem:TyI:=⟨.struct [(0,3),(1,30)],12,208,[.int .i64 0,.int .i64 0,.int .i64 0,.slice none 0 0,.slice none 0 0,.int .i64 0,.slice none 0 0,.slice none 0 0,.slice none 0 0,.slice none 0 0,.int .i64 0,.slice none 0 0],false⟩
theorem Ykk:TyOk Try.prog 43 Yem := .g (by kernel_rfl) ⟨_,Try.underlying43,rfl⟩
theorem Ykl:TyOk Try.prog 44 Yem := .g (by kernel_rfl) ⟨_,Try.underlying44,rfl⟩
def Yen:TyI:=⟨.struct [(0,3),(1,3),(2,23),(3,30)],14,240,[.int .i64 0,.int .i64 0,.slice none 0 0,.int .i64 0,.int .i64 0,.slice none 0 0,.slice none 0 0,.int .i64 0,.slice none 0 0,.slice none 0 0,.slice none 0 0,.slice none 0 0,.int .i64 0,.slice none 0 0],false⟩
theorem Ykm:TyOk Try.prog 45 Yen := .g (by kernel_rfl) ⟨_,Try.underlying45,rfl⟩
theorem Ykn:TyOk Try.prog 46 Yen := .g (by kernel_rfl) ⟨_,Try.underlying46,rfl⟩
theorem Yko:TyOk Try.prog 48 Yeh := .s (by kernel_rfl) Try.underlying48
def Yim:TyI:=⟨.struct [(0,3),(1,5),(2,48),(3,48)],4,32,[.int .i64 0,.int .u8 0,.int .u64 0,.int .u64 0],false⟩
theorem Ykp:TyOk Try.prog 56 Yim := .g (by kernel_rfl) ⟨_,Try.underlying56,rfl⟩
def Yin:TyI:=⟨.struct [(0,3),(1,5),(2,48),(3,48)],4,32,[.int .i64 0,.int .u8 0,.int .u64 0,.int .u64 0],true⟩
theorem Ykq:TyOk Try.prog 57 Yin := .g (by kernel_rfl) ⟨_,Try.underlying57,rfl⟩ (fun _=>by unfold EqTy;exact ⟨by kernel_rfl,by kernel_rfl,by kernel_rfl⟩)
def Yeo:TyI:=⟨.struct [(0,28),(1,3),(2,23),(3,23)],4,80,[.slice none 0 0,.int .i64 0,.slice none 0 0,.slice none 0 0],false⟩
theorem Ykr:TyOk Try.prog 72 Yeo := .g (by kernel_rfl) ⟨_,Try.underlying72,rfl⟩
theorem Yks:TyOk Try.prog 73 Yeo := .g (by kernel_rfl) ⟨_,Try.underlying73,rfl⟩
def Yio:TyI:=⟨.ptr 23,1,8,[.pointer none],false⟩
theorem Ykt:TyOk Try.prog 76 Yio := .s (by kernel_rfl) Try.underlying76
def Yip:TyI:=⟨.ptr 25,1,8,[.pointer none],false⟩
theorem Yku:TyOk Try.prog 83 Yip := .s (by kernel_rfl) Try.underlying83
def Yep:TyI:=⟨.struct [(0,23),(1,23)],2,48,[.slice none 0 0,.slice none 0 0],false⟩
theorem Ykv:TyOk Try.prog 86 Yep := .g (by kernel_rfl) ⟨_,Try.underlying86,rfl⟩
theorem Ykw:TyOk Try.prog 87 Yep := .g (by kernel_rfl) ⟨_,Try.underlying87,rfl⟩
def Yiq:TyI:=⟨.arr 8 5,8,8,[.int .u8 0,.int .u8 0,.int .u8 0,.int .u8 0,.int .u8 0,.int .u8 0,.int .u8 0,.int .u8 0],true⟩
theorem Ykx:TyOk Try.prog 89 Yiq := .g (by kernel_rfl) Try.underlying89 (fun _=>by unfold EqTy;exact ⟨by kernel_rfl,by kernel_rfl,by kernel_rfl⟩)
def Yir:TyI:=⟨.slice 5,1,24,[.slice none 0 0],false⟩
theorem Yky:TyOk Try.prog 93 Yir := .s (by kernel_rfl) Try.underlying93
def Yis:TyI:=⟨.ptr 73,1,8,[.pointer none],false⟩
theorem Ykz:TyOk Try.prog 95 Yis := .s (by kernel_rfl) Try.underlying95
def Yit:TyI:=⟨.ptr 87,1,8,[.pointer none],false⟩
theorem Yk0:TyOk Try.prog 97 Yit := .s (by kernel_rfl) Try.underlying97
def Yfh:TyI:=⟨.slice 110,1,24,[.slice none 0 0],false⟩
theorem Yiy:TyOk Try.prog 106 Yfh := .s (by kernel_rfl) Try.underlying106
def Z7t:TyI:=⟨.struct [(0,3),(1,46),(15,46)],29,488,[.int .i64 0,.int .i64 0,.int .i64 0,.slice none 0 0,.int .i64 0,.int .i64 0,.slice none 0 0,.slice none 0 0,.int .i64 0,.slice none 0 0,.slice none 0 0,.slice none 0 0,.slice none 0 0,.int .i64 0,.slice none 0 0,.int .i64 0,.int .i64 0,.slice none 0 0,.int .i64 0,.int .i64 0,.slice none 0 0,.slice none 0 0,.int .i64 0,.slice none 0 0,.slice none 0 0,.slice none 0 0,.slice none 0 0,.int .i64 0,.slice none 0 0],false⟩
theorem Yiz:TyOk Try.prog 109 Z7t := .g (by kernel_rfl) ⟨_,Try.underlying109,rfl⟩
theorem Yi0:TyOk Try.prog 110 Z7t := .g (by kernel_rfl) ⟨_,Try.underlying110,rfl⟩
def Z7u:TyI:=⟨.struct [(0,28),(1,3)],2,32,[.slice none 0 0,.int .i64 0],false⟩
theorem Yi1:TyOk Try.prog 117 Z7u := .g (by kernel_rfl) ⟨_,Try.underlying117,rfl⟩
theorem Yi2:TyOk Try.prog 118 Z7u := .g (by kernel_rfl) ⟨_,Try.underlying118,rfl⟩
def Yfi:TyI:=⟨.ptr 118,1,8,[.pointer none],false⟩
theorem Yi3:TyOk Try.prog 121 Yfi := .s (by kernel_rfl) Try.underlying121
def Z7v:TyI:=⟨.struct [(0,17),(1,17),(2,17),(3,9)],4,40,[.pointer none,.pointer none,.pointer none,.string ByteArray.empty],false⟩
theorem Yi4:TyOk Try.prog 123 Z7v := .g (by kernel_rfl) ⟨_,Try.underlying123,rfl⟩
theorem Yi5:TyOk Try.prog 124 Z7v := .g (by kernel_rfl) ⟨_,Try.underlying124,rfl⟩
def Yfj:TyI:=⟨.int .u32,1,4,[.int .u32 0],false⟩
theorem Yi6:TyOk Try.prog 129 Yfj := .s (by kernel_rfl) Try.underlying129
theorem Yi7:TyOk Try.prog 130 tE5 := .s (by kernel_rfl) Try.underlying130
theorem Yi8:TyOk Try.prog 131 tE5 := .s (by kernel_rfl) Try.underlying131
def Yfk:TyI:=⟨.ptr 5,1,8,[.pointer none],false⟩
theorem Yi9:TyOk Try.prog 133 Yfk := .s (by kernel_rfl) Try.underlying133
theorem Yja:TyOk Try.prog 134 Z84 := .s (by kernel_rfl) Try.underlying134
theorem Yjb:TyOk Try.prog 135 Z84 := .s (by kernel_rfl) Try.underlying135
def tabL:List (Nat×TyI):=[(2,tE2),(3,tE2),(4,tE4),(5,tE5),(6,tE5),(7,tE7),(8,tE7),(9,tE9),(10,tE9),(11,tE9),(12,Yeh),(13,Yei),(14,Yei),(15,Yid),(16,Yie),(17,Yif),(18,Yej),(19,Yej),(21,Z84),(22,Yig),(23,Yih),(24,Yek),(25,Yek),(26,Yii),(27,Yij),(28,Yik),(29,Yel),(30,Yel),(35,Yil),(43,Yem),(44,Yem),(45,Yen),(46,Yen),(48,Yeh),(56,Yim),(57,Yin),(72,Yeo),(73,Yeo),(76,Yio),(83,Yip),(86,Yep),(87,Yep),(89,Yiq),(93,Yir),(95,Yis),(97,Yit),(106,Yfh),(109,Z7t),(110,Z7t),(117,Z7u),(118,Z7u),(121,Yfi),(123,Z7v),(124,Z7v),(129,Yfj),(130,tE5),(131,tE5),(133,Yfk),(134,Z84),(135,Z84)]
def Ke:Kv:=fun t=>tabL.lookup t
theorem Z0:Qo Try.prog Ke:=fun t i h=>by
 have hm:=Zva _ h
 unfold tabL at hm
 simp only [List.mem_cons,Prod.mk.injEq,List.not_mem_nil,or_false] at hm
 rcases hm with ⟨rfl,rfl⟩ | ⟨rfl,rfl⟩ | ⟨rfl,rfl⟩ | ⟨rfl,rfl⟩ | ⟨rfl,rfl⟩ | ⟨rfl,rfl⟩ | ⟨rfl,rfl⟩ | ⟨rfl,rfl⟩ | ⟨rfl,rfl⟩ | ⟨rfl,rfl⟩ | ⟨rfl,rfl⟩ | ⟨rfl,rfl⟩ | ⟨rfl,rfl⟩ | ⟨rfl,rfl⟩ | ⟨rfl,rfl⟩ | ⟨rfl,rfl⟩ | ⟨rfl,rfl⟩ | ⟨rfl,rfl⟩ | ⟨rfl,rfl⟩ | ⟨rfl,rfl⟩ | ⟨rfl,rfl⟩ | ⟨rfl,rfl⟩ | ⟨rfl,rfl⟩ | ⟨rfl,rfl⟩ | ⟨rfl,rfl⟩ | ⟨rfl,rfl⟩ | ⟨rfl,rfl⟩ | ⟨rfl,rfl⟩ | ⟨rfl,rfl⟩ | ⟨rfl,rfl⟩ | ⟨rfl,rfl⟩ | ⟨rfl,rfl⟩ | ⟨rfl,rfl⟩ | ⟨rfl,rfl⟩ | ⟨rfl,rfl⟩ | ⟨rfl,rfl⟩ | ⟨rfl,rfl⟩ | ⟨rfl,rfl⟩ | ⟨rfl,rfl⟩ | ⟨rfl,rfl⟩ | ⟨rfl,rfl⟩ | ⟨rfl,rfl⟩ | ⟨rfl,rfl⟩ | ⟨rfl,rfl⟩ | ⟨rfl,rfl⟩ | ⟨rfl,rfl⟩ | ⟨rfl,rfl⟩ | ⟨rfl,rfl⟩ | ⟨rfl,rfl⟩ | ⟨rfl,rfl⟩ | ⟨rfl,rfl⟩ | ⟨rfl,rfl⟩ | ⟨rfl,rfl⟩ | ⟨rfl,rfl⟩ | ⟨rfl,rfl⟩ | ⟨rfl,rfl⟩ | ⟨rfl,rfl⟩ | ⟨rfl,rfl⟩ | ⟨rfl,rfl⟩ | ⟨rfl,rfl⟩
 ·exact ty2
 ·exact ty3
 ·exact ty4
 ·exact ty5
 ·exact ty6
 ·exact ty7
 ·exact ty8
 ·exact ty9
 ·exact Yjz
 ·exact Yj0
 ·exact Yj1
 ·exact Yj2
 ·exact Yj3
 ·exact Yj4
 ·exact Yj5
 ·exact Yj6
 ·exact Yj7
 ·exact Yj8
 ·exact Yj9
 ·exact Yka
 ·exact Ykb
 ·exact Ykc
 ·exact Ykd
 ·exact Yke
 ·exact Ykf
 ·exact Ykg
 ·exact Ykh
 ·exact Yki
 ·exact Ykj
 ·exact Ykk
 ·exact Ykl
 ·exact Ykm
 ·exact Ykn
 ·exact Yko
 ·exact Ykp
 ·exact Ykq
 ·exact Ykr
 ·exact Yks
 ·exact Ykt
 ·exact Yku
 ·exact Ykv
 ·exact Ykw
 ·exact Ykx
 ·exact Yky
 ·exact Ykz
 ·exact Yk0
 ·exact Yiy
 ·exact Yiz
 ·exact Yi0
 ·exact Yi1
 ·exact Yi2
 ·exact Yi3
 ·exact Yi4
 ·exact Yi5
 ·exact Yi6
 ·exact Yi7
 ·exact Yi8
 ·exact Yi9
 ·exact Yja
 exact Yjb
theorem Ygp:Ke 2=some ⟨.int .i64,1,8,[.int .i64 0],false⟩:=rfl
theorem Z3r:Ke 3=some ⟨.int .i64,1,8,[.int .i64 0],false⟩:=rfl
theorem Ygq:Ke 4=some ⟨.bool,1,1,[.bool false],false⟩:=rfl
theorem Z3s:Ke 5=some ⟨.int .u8,1,1,[.int .u8 0],false⟩:=rfl
theorem Ygr:Ke 6=some ⟨.int .u8,1,1,[.int .u8 0],false⟩:=rfl
theorem Ygs:Ke 7=some ⟨.struct [(0,2),(1,3),(2,4),(3,6)],4,24,[.int .i64 0,.int .i64 0,.bool false,.int .u8 0],false⟩:=rfl
theorem Ygt:Ke 8=some ⟨.struct [(0,2),(1,3),(2,4),(3,6)],4,24,[.int .i64 0,.int .i64 0,.bool false,.int .u8 0],false⟩:=rfl
theorem Ygu:Ke 9=some ⟨.str,1,16,[.string ByteArray.empty],false⟩:=rfl
theorem Ybu:Ke 10=some ⟨.str,1,16,[.string ByteArray.empty],false⟩:=rfl
theorem Ybv:Ke 11=some ⟨.str,1,16,[.string ByteArray.empty],false⟩:=rfl
theorem Ybw:Ke 12=some ⟨.int .u64,1,8,[.int .u64 0],false⟩:=rfl
theorem Ybx:Ke 13=some ⟨.struct [(0,9),(1,12)],2,24,[.string ByteArray.empty,.int .u64 0],false⟩:=rfl
theorem Yby:Ke 14=some ⟨.struct [(0,9),(1,12)],2,24,[.string ByteArray.empty,.int .u64 0],false⟩:=rfl
theorem Ybz:Ke 15=some ⟨.ptr 124,1,8,[.pointer none],false⟩:=rfl
theorem Yb0:Ke 16=some ⟨.ptr 127,1,8,[.pointer none],false⟩:=rfl
theorem Yb1:Ke 17=some ⟨.ptr 137,1,8,[.pointer none],false⟩:=rfl
theorem Yb2:Ke 18=some ⟨.struct [(0,17)],1,8,[.pointer none],false⟩:=rfl
theorem Yb3:Ke 19=some ⟨.struct [(0,17)],1,8,[.pointer none],false⟩:=rfl
theorem Yb4:Ke 21=some ⟨.int .i32,1,4,[.int .i32 0],false⟩:=rfl
theorem Yb5:Ke 22=some ⟨.slice 48,1,24,[.slice none 0 0],false⟩:=rfl
theorem Z3p:Ke 23=some ⟨.slice 25,1,24,[.slice none 0 0],false⟩:=rfl
theorem Yb6:Ke 24=some ⟨.struct [(0,3),(1,22),(2,23)],3,56,[.int .i64 0,.slice none 0 0,.slice none 0 0],false⟩:=rfl
theorem Ug:Ke 25=some ⟨.struct [(0,3),(1,22),(2,23)],3,56,[.int .i64 0,.slice none 0 0,.slice none 0 0],false⟩:=rfl
theorem Yb7:Ke 26=some ⟨.slice 57,1,24,[.slice none 0 0],false⟩:=rfl
theorem Yb8:Ke 27=some ⟨.slice 44,1,24,[.slice none 0 0],false⟩:=rfl
theorem Z3q:Ke 28=some ⟨.slice 46,1,24,[.slice none 0 0],false⟩:=rfl
theorem Yb9:Ke 29=some ⟨.struct [(0,3),(1,25),(4,25),(7,26),(8,27),(9,3),(10,28)],11,200,[.int .i64 0,.int .i64 0,.slice none 0 0,.slice none 0 0,.int .i64 0,.slice none 0 0,.slice none 0 0,.slice none 0 0,.slice none 0 0,.int .i64 0,.slice none 0 0],false⟩:=rfl
theorem Ziy:Ke 30=some ⟨.struct [(0,3),(1,25),(4,25),(7,26),(8,27),(9,3),(10,28)],11,200,[.int .i64 0,.int .i64 0,.slice none 0 0,.slice none 0 0,.int .i64 0,.slice none 0 0,.slice none 0 0,.slice none 0 0,.slice none 0 0,.int .i64 0,.slice none 0 0],false⟩:=rfl
theorem Yca:Ke 35=some ⟨.slice 30,1,24,[.slice none 0 0],false⟩:=rfl
theorem Ycb:Ke 43=some ⟨.struct [(0,3),(1,30)],12,208,[.int .i64 0,.int .i64 0,.int .i64 0,.slice none 0 0,.slice none 0 0,.int .i64 0,.slice none 0 0,.slice none 0 0,.slice none 0 0,.slice none 0 0,.int .i64 0,.slice none 0 0],false⟩:=rfl
theorem Znt:Ke 44=some ⟨.struct [(0,3),(1,30)],12,208,[.int .i64 0,.int .i64 0,.int .i64 0,.slice none 0 0,.slice none 0 0,.int .i64 0,.slice none 0 0,.slice none 0 0,.slice none 0 0,.slice none 0 0,.int .i64 0,.slice none 0 0],false⟩:=rfl
theorem Ycc:Ke 45=some ⟨.struct [(0,3),(1,3),(2,23),(3,30)],14,240,[.int .i64 0,.int .i64 0,.slice none 0 0,.int .i64 0,.int .i64 0,.slice none 0 0,.slice none 0 0,.int .i64 0,.slice none 0 0,.slice none 0 0,.slice none 0 0,.slice none 0 0,.int .i64 0,.slice none 0 0],false⟩:=rfl
theorem Zbm:Ke 46=some ⟨.struct [(0,3),(1,3),(2,23),(3,30)],14,240,[.int .i64 0,.int .i64 0,.slice none 0 0,.int .i64 0,.int .i64 0,.slice none 0 0,.slice none 0 0,.int .i64 0,.slice none 0 0,.slice none 0 0,.slice none 0 0,.slice none 0 0,.int .i64 0,.slice none 0 0],false⟩:=rfl
theorem Ziz:Ke 48=some ⟨.int .u64,1,8,[.int .u64 0],false⟩:=rfl
theorem Ycd:Ke 56=some ⟨.struct [(0,3),(1,5),(2,48),(3,48)],4,32,[.int .i64 0,.int .u8 0,.int .u64 0,.int .u64 0],false⟩:=rfl
theorem Zx9:Ke 57=some ⟨.struct [(0,3),(1,5),(2,48),(3,48)],4,32,[.int .i64 0,.int .u8 0,.int .u64 0,.int .u64 0],true⟩:=rfl
theorem Yce:Ke 72=some ⟨.struct [(0,28),(1,3),(2,23),(3,23)],4,80,[.slice none 0 0,.int .i64 0,.slice none 0 0,.slice none 0 0],false⟩:=rfl
theorem Ycf:Ke 73=some ⟨.struct [(0,28),(1,3),(2,23),(3,23)],4,80,[.slice none 0 0,.int .i64 0,.slice none 0 0,.slice none 0 0],false⟩:=rfl
theorem Ycg:Ke 76=some ⟨.ptr 23,1,8,[.pointer none],false⟩:=rfl
theorem Ych:Ke 83=some ⟨.ptr 25,1,8,[.pointer none],false⟩:=rfl
theorem Yci:Ke 86=some ⟨.struct [(0,23),(1,23)],2,48,[.slice none 0 0,.slice none 0 0],false⟩:=rfl
theorem Ycj:Ke 87=some ⟨.struct [(0,23),(1,23)],2,48,[.slice none 0 0,.slice none 0 0],false⟩:=rfl
theorem Z3t:Ke 89=some ⟨.arr 8 5,8,8,[.int .u8 0,.int .u8 0,.int .u8 0,.int .u8 0,.int .u8 0,.int .u8 0,.int .u8 0,.int .u8 0],true⟩:=rfl
theorem Yck:Ke 93=some ⟨.slice 5,1,24,[.slice none 0 0],false⟩:=rfl
theorem Ycl:Ke 95=some ⟨.ptr 73,1,8,[.pointer none],false⟩:=rfl
theorem Ycm:Ke 97=some ⟨.ptr 87,1,8,[.pointer none],false⟩:=rfl
theorem Z5g:Ke 106=some ⟨.slice 110,1,24,[.slice none 0 0],false⟩:=rfl
theorem Z5h:Ke 109=some ⟨.struct [(0,3),(1,46),(15,46)],29,488,[.int .i64 0,.int .i64 0,.int .i64 0,.slice none 0 0,.int .i64 0,.int .i64 0,.slice none 0 0,.slice none 0 0,.int .i64 0,.slice none 0 0,.slice none 0 0,.slice none 0 0,.slice none 0 0,.int .i64 0,.slice none 0 0,.int .i64 0,.int .i64 0,.slice none 0 0,.int .i64 0,.int .i64 0,.slice none 0 0,.slice none 0 0,.int .i64 0,.slice none 0 0,.slice none 0 0,.slice none 0 0,.slice none 0 0,.int .i64 0,.slice none 0 0],false⟩:=rfl
theorem Z0y:Ke 110=some ⟨.struct [(0,3),(1,46),(15,46)],29,488,[.int .i64 0,.int .i64 0,.int .i64 0,.slice none 0 0,.int .i64 0,.int .i64 0,.slice none 0 0,.slice none 0 0,.int .i64 0,.slice none 0 0,.slice none 0 0,.slice none 0 0,.slice none 0 0,.int .i64 0,.slice none 0 0,.int .i64 0,.int .i64 0,.slice none 0 0,.int .i64 0,.int .i64 0,.slice none 0 0,.slice none 0 0,.int .i64 0,.slice none 0 0,.slice none 0 0,.slice none 0 0,.slice none 0 0,.int .i64 0,.slice none 0 0],false⟩:=rfl
theorem Z5i:Ke 117=some ⟨.struct [(0,28),(1,3)],2,32,[.slice none 0 0,.int .i64 0],false⟩:=rfl
theorem Z5j:Ke 118=some ⟨.struct [(0,28),(1,3)],2,32,[.slice none 0 0,.int .i64 0],false⟩:=rfl
theorem Z5k:Ke 121=some ⟨.ptr 118,1,8,[.pointer none],false⟩:=rfl
theorem Z5l:Ke 123=some ⟨.struct [(0,17),(1,17),(2,17),(3,9)],4,40,[.pointer none,.pointer none,.pointer none,.string ByteArray.empty],false⟩:=rfl
theorem Z5m:Ke 124=some ⟨.struct [(0,17),(1,17),(2,17),(3,9)],4,40,[.pointer none,.pointer none,.pointer none,.string ByteArray.empty],false⟩:=rfl
theorem Z5n:Ke 129=some ⟨.int .u32,1,4,[.int .u32 0],false⟩:=rfl
theorem Z5o:Ke 130=some ⟨.int .u8,1,1,[.int .u8 0],false⟩:=rfl
theorem Z5p:Ke 131=some ⟨.int .u8,1,1,[.int .u8 0],false⟩:=rfl
theorem Z5q:Ke 133=some ⟨.ptr 5,1,8,[.pointer none],false⟩:=rfl
theorem Z5r:Ke 134=some ⟨.int .i32,1,4,[.int .i32 0],false⟩:=rfl
theorem Z5s:Ke 135=some ⟨.int .i32,1,4,[.int .i32 0],false⟩:=rfl
theorem Z5t:Yu Ke 2=some (.int .i64):=rfl
theorem Z5u:Yu Ke 3=some (.int .i64):=rfl
theorem Z5v:Yu Ke 4=some (.bool):=rfl
theorem Z5w:Yu Ke 5=some (.int .u8):=rfl
theorem Z5x:Yu Ke 6=some (.int .u8):=rfl
theorem Z5y:Yu Ke 7=some (.struct [(0,2),(1,3),(2,4),(3,6)]):=rfl
theorem Z5z:Yu Ke 8=some (.struct [(0,2),(1,3),(2,4),(3,6)]):=rfl
theorem Z50:Yu Ke 9=some (.str):=rfl
theorem Z00:Yu Ke 10=some (.str):=rfl
theorem Z01:Yu Ke 11=some (.str):=rfl
theorem Z02:Yu Ke 12=some (.int .u64):=rfl
theorem Z03:Yu Ke 13=some (.struct [(0,9),(1,12)]):=rfl
theorem Z04:Yu Ke 14=some (.struct [(0,9),(1,12)]):=rfl
theorem Z05:Yu Ke 15=some (.ptr 124):=rfl
theorem Z06:Yu Ke 16=some (.ptr 127):=rfl
theorem Z07:Yu Ke 17=some (.ptr 137):=rfl
theorem Z08:Yu Ke 18=some (.struct [(0,17)]):=rfl
theorem Z09:Yu Ke 19=some (.struct [(0,17)]):=rfl
theorem Z1a:Yu Ke 21=some (.int .i32):=rfl
theorem Zp9:Yu Ke 22=some (.slice 48):=rfl
theorem Zeq:Yu Ke 23=some (.slice 25):=rfl
theorem Z1b:Yu Ke 24=some (.struct [(0,3),(1,22),(2,23)]):=rfl
theorem Z1c:Yu Ke 25=some (.struct [(0,3),(1,22),(2,23)]):=rfl
theorem Z1d:Yu Ke 26=some (.slice 57):=rfl
theorem Z1e:Yu Ke 27=some (.slice 44):=rfl
theorem Ztt:Yu Ke 28=some (.slice 46):=rfl
theorem Z1f:Yu Ke 29=some (.struct [(0,3),(1,25),(4,25),(7,26),(8,27),(9,3),(10,28)]):=rfl
theorem Z1g:Yu Ke 30=some (.struct [(0,3),(1,25),(4,25),(7,26),(8,27),(9,3),(10,28)]):=rfl
theorem Z1h:Yu Ke 35=some (.slice 30):=rfl
theorem Z1i:Yu Ke 43=some (.struct [(0,3),(1,30)]):=rfl
theorem Z1j:Yu Ke 44=some (.struct [(0,3),(1,30)]):=rfl
theorem Z1k:Yu Ke 45=some (.struct [(0,3),(1,3),(2,23),(3,30)]):=rfl
theorem Z1l:Yu Ke 46=some (.struct [(0,3),(1,3),(2,23),(3,30)]):=rfl
theorem Z1m:Yu Ke 48=some (.int .u64):=rfl
theorem Z1n:Yu Ke 56=some (.struct [(0,3),(1,5),(2,48),(3,48)]):=rfl
theorem Z1o:Yu Ke 57=some (.struct [(0,3),(1,5),(2,48),(3,48)]):=rfl
theorem Z1p:Yu Ke 72=some (.struct [(0,28),(1,3),(2,23),(3,23)]):=rfl
theorem Z1q:Yu Ke 73=some (.struct [(0,28),(1,3),(2,23),(3,23)]):=rfl
theorem Z1r:Yu Ke 76=some (.ptr 23):=rfl
theorem Z1s:Yu Ke 83=some (.ptr 25):=rfl
theorem Z1t:Yu Ke 86=some (.struct [(0,23),(1,23)]):=rfl
theorem Z1u:Yu Ke 87=some (.struct [(0,23),(1,23)]):=rfl
theorem Ztu:Yu Ke 89=some (.arr 8 5):=rfl
theorem Z1v:Yu Ke 93=some (.slice 5):=rfl
theorem Z1w:Yu Ke 95=some (.ptr 73):=rfl
theorem Z1x:Yu Ke 97=some (.ptr 87):=rfl
theorem Zwh:Yu Ke 106=some (.slice 110):=rfl
theorem Zwi:Yu Ke 109=some (.struct [(0,3),(1,46),(15,46)]):=rfl
theorem Zwj:Yu Ke 110=some (.struct [(0,3),(1,46),(15,46)]):=rfl
theorem Zwk:Yu Ke 117=some (.struct [(0,28),(1,3)]):=rfl
theorem Zwl:Yu Ke 118=some (.struct [(0,28),(1,3)]):=rfl
theorem Zwm:Yu Ke 121=some (.ptr 118):=rfl
theorem Zwn:Yu Ke 123=some (.struct [(0,17),(1,17),(2,17),(3,9)]):=rfl
theorem Zwo:Yu Ke 124=some (.struct [(0,17),(1,17),(2,17),(3,9)]):=rfl
theorem Zwp:Yu Ke 129=some (.int .u32):=rfl
theorem Zwq:Yu Ke 130=some (.int .u8):=rfl
theorem Zwr:Yu Ke 131=some (.int .u8):=rfl
theorem Zws:Yu Ke 133=some (.ptr 5):=rfl
theorem Zwt:Yu Ke 134=some (.int .i32):=rfl
theorem Zwu:Yu Ke 135=some (.int .i32):=rfl
end Go.Proofs.Ytibgpnmmgffgeaa
