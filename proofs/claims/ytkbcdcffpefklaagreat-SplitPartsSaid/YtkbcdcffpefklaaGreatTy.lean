/- The types of this seat's program, as its dump has them, in the ghost memory's words; no condition. -/
import Derived.Test.YtkbcdcffpefklaaGreatRows
import Derived.Test.YtkbcdcffpefklaaGreatG13
namespace Go.Proofs.YtkbcdcffpefklaaGreat
open Go.RowKit
set_option linter.unusedVariables false
set_option linter.unusedSimpArgs false
theorem TyOk.of {P:Program} {t:TypeId} (k:TK) (size bytes:Nat) (zero:List Value) (z:Value) (h:(P.info? t).map (fun i=>(i.zero,i.size,i.bytes))=some (some z,size,bytes)) (hz:z.cells.toList=zero) (hu:k.ok P t) (hl:zero.length=size) (h1:zero.all Value.oneCell'=true) (eq:Bool) (he:eq=true→EqTy P t):TyOk P t ⟨k,size,bytes,zero,eq⟩:=by
 refine ⟨?_,hu,hl,fun v hv=>List.all_eq_true.1 h1 v hv,he⟩
 cases hi:P.info? t with
 | none=>rw [hi] at h;cases h
 | some i =>
  rw [hi] at h
  simp only [Option.map_some,Option.some.injEq,Prod.mk.injEq] at h
  exact ⟨i,z,rfl,h.2.1,h.2.2,h.1,hz⟩
theorem TyOk.g {P:Program} {t:TypeId} {k:TK} {size bytes:Nat} {zero:List Value} {eq:Bool} (h:(P.info? t).map (fun i=>(i.zero,i.size,i.bytes))=some (some (.agg zero.toArray),size,bytes)) (hu:k.ok P t) (he:eq=true→EqTy P t:=by intro h;cases h) (hz:(Value.agg zero.toArray).cells.toList=zero:=by rfl) (hl:zero.length=size:=by rfl) (h1:zero.all Value.oneCell'=true:=by rfl):TyOk P t ⟨k,size,bytes,zero,eq⟩ := .of k size bytes zero _ h hz hu hl h1 eq he
theorem TyOk.s {P:Program} {t:TypeId} {k:TK} {size bytes:Nat} {z:Value} {eq:Bool} (h:(P.info? t).map (fun i=>(i.zero,i.size,i.bytes))=some (some z,size,bytes)) (hu:k.ok P t) (he:eq=true→EqTy P t:=by intro h;cases h) (hz:z.cells.toList=[z]:=by rfl) (hl:[z].length=size:=by rfl) (h1:[z].all Value.oneCell'=true:=by rfl):TyOk P t ⟨k,size,bytes,[z],eq⟩ := .of k size bytes [z] _ h hz hu hl h1 eq he
theorem EqTy.m {P:Program} {t:TypeId} (h:EqTy P t):true=true→EqTy P t:=fun _=>h
theorem Zzi {α:Type} {t:Nat} {i:α}:∀ (l:List (Nat×α)),l.lookup t=some i→(t,i)∈l
 | [],h=>by simp at h
 | (a,b)::l,h=>by
  rw [List.lookup_cons] at h
  split at h
  ·rename_i he
   injection h with h
   have:t=a:=by simpa using he
   subst h this
   exact .head _
  exact .tail _ (Zzi l h)
def tE2:TyI:=⟨.int .i64,1,8,[.int .i64 0],false⟩
theorem ty2:TyOk Tryz.prog 2 tE2 := .s (by kernel_rfl) Tryz.underlying2
theorem ty3:TyOk Tryz.prog 3 tE2 := .s (by kernel_rfl) Tryz.underlying3
def tE4:TyI:=⟨.bool,1,1,[.bool false],false⟩
theorem ty4:TyOk Tryz.prog 4 tE4 := .s (by kernel_rfl) Tryz.underlying4
def tE5:TyI:=⟨.int .u8,1,1,[.int .u8 0],false⟩
theorem ty5:TyOk Tryz.prog 5 tE5 := .s (by kernel_rfl) Tryz.underlying5
theorem ty6:TyOk Tryz.prog 6 tE5 := .s (by kernel_rfl) Tryz.underlying6
def tE7:TyI:=⟨.struct [(0,2),(1,3),(2,4),(3,6)],4,24,[.int .i64 0,.int .i64 0,.bool false,.int .u8 0],false⟩
theorem ty7:TyOk Tryz.prog 7 tE7 := .g (by kernel_rfl) ⟨_,Tryz.underlying7,rfl⟩
theorem ty8:TyOk Tryz.prog 8 tE7 := .g (by kernel_rfl) ⟨_,Tryz.underlying8,rfl⟩
def tE9:TyI:=⟨.str,1,16,[.string ByteArray.empty],false⟩
theorem ty9:TyOk Tryz.prog 9 tE9 := .s (by kernel_rfl) Tryz.underlying9
theorem Yjh:TyOk Tryz.prog 10 tE9 := .s (by kernel_rfl) Tryz.underlying10
theorem Yji:TyOk Tryz.prog 11 tE9 := .s (by kernel_rfl) Tryz.underlying11
def Yep:TyI:=⟨.int .u64,1,8,[.int .u64 0],false⟩
theorem Yjj:TyOk Tryz.prog 12 Yep := .s (by kernel_rfl) Tryz.underlying12
def Yeq:TyI:=⟨.struct [(0,9),(1,12)],2,24,[.string ByteArray.empty,.int .u64 0],false⟩
theorem Yjk:TyOk Tryz.prog 13 Yeq := .g (by kernel_rfl) ⟨_,Tryz.underlying13,rfl⟩
theorem Yjl:TyOk Tryz.prog 14 Yeq := .g (by kernel_rfl) ⟨_,Tryz.underlying14,rfl⟩
def Yhx:TyI:=⟨.ptr 137,1,8,[.pointer none],false⟩
theorem Yjm:TyOk Tryz.prog 15 Yhx := .s (by kernel_rfl) Tryz.underlying15
def Yhy:TyI:=⟨.ptr 140,1,8,[.pointer none],false⟩
theorem Yjn:TyOk Tryz.prog 16 Yhy := .s (by kernel_rfl) Tryz.underlying16
def Yhz:TyI:=⟨.ptr 150,1,8,[.pointer none],false⟩
theorem Yjo:TyOk Tryz.prog 17 Yhz := .s (by kernel_rfl) Tryz.underlying17
def Yer:TyI:=⟨.struct [(0,17)],1,8,[.pointer none],false⟩
theorem Yjp:TyOk Tryz.prog 18 Yer := .g (by kernel_rfl) ⟨_,Tryz.underlying18,rfl⟩
theorem Yjq:TyOk Tryz.prog 19 Yer := .g (by kernel_rfl) ⟨_,Tryz.underlying19,rfl⟩
def Yaw:TyI:=⟨.int .i32,1,4,[.int .i32 0],false⟩
theorem Yjr:TyOk Tryz.prog 21 Yaw := .s (by kernel_rfl) Tryz.underlying21
def Yh0:TyI:=⟨.slice 43,1,24,[.slice none 0 0],false⟩
theorem Yjs:TyOk Tryz.prog 22 Yh0 := .s (by kernel_rfl) Tryz.underlying22
def Yh1:TyI:=⟨.slice 25,1,24,[.slice none 0 0],false⟩
theorem Yjt:TyOk Tryz.prog 23 Yh1 := .s (by kernel_rfl) Tryz.underlying23
def Yes:TyI:=⟨.struct [(0,3),(1,22),(2,23)],3,56,[.int .i64 0,.slice none 0 0,.slice none 0 0],false⟩
theorem Yju:TyOk Tryz.prog 24 Yes := .g (by kernel_rfl) ⟨_,Tryz.underlying24,rfl⟩
theorem Yjv:TyOk Tryz.prog 25 Yes := .g (by kernel_rfl) ⟨_,Tryz.underlying25,rfl⟩
def Yh2:TyI:=⟨.slice 49,1,24,[.slice none 0 0],false⟩
theorem Yjw:TyOk Tryz.prog 26 Yh2 := .s (by kernel_rfl) Tryz.underlying26
def Yh3:TyI:=⟨.slice 40,1,24,[.slice none 0 0],false⟩
theorem Yjx:TyOk Tryz.prog 27 Yh3 := .s (by kernel_rfl) Tryz.underlying27
def Yh4:TyI:=⟨.slice 42,1,24,[.slice none 0 0],false⟩
theorem Yjy:TyOk Tryz.prog 28 Yh4 := .s (by kernel_rfl) Tryz.underlying28
def Yet:TyI:=⟨.struct [(0,3),(1,25),(4,25),(7,26),(8,27),(9,3),(10,28)],11,200,[.int .i64 0,.int .i64 0,.slice none 0 0,.slice none 0 0,.int .i64 0,.slice none 0 0,.slice none 0 0,.slice none 0 0,.slice none 0 0,.int .i64 0,.slice none 0 0],false⟩
theorem Yjz:TyOk Tryz.prog 29 Yet := .g (by kernel_rfl) ⟨_,Tryz.underlying29,rfl⟩
theorem Yj0:TyOk Tryz.prog 30 Yet := .g (by kernel_rfl) ⟨_,Tryz.underlying30,rfl⟩
def Yh5:TyI:=⟨.slice 30,1,24,[.slice none 0 0],false⟩
theorem Yj1:TyOk Tryz.prog 34 Yh5 := .s (by kernel_rfl) Tryz.underlying34
def Yeu:TyI:=⟨.struct [(0,3),(1,30)],12,208,[.int .i64 0,.int .i64 0,.int .i64 0,.slice none 0 0,.slice none 0 0,.int .i64 0,.slice none 0 0,.slice none 0 0,.slice none 0 0,.slice none 0 0,.int .i64 0,.slice none 0 0],false⟩
theorem Yj2:TyOk Tryz.prog 39 Yeu := .g (by kernel_rfl) ⟨_,Tryz.underlying39,rfl⟩
theorem Yj3:TyOk Tryz.prog 40 Yeu := .g (by kernel_rfl) ⟨_,Tryz.underlying40,rfl⟩
def Yev:TyI:=⟨.struct [(0,3),(1,3),(2,23),(3,30)],14,240,[.int .i64 0,.int .i64 0,.slice none 0 0,.int .i64 0,.int .i64 0,.slice none 0 0,.slice none 0 0,.int .i64 0,.slice none 0 0,.slice none 0 0,.slice none 0 0,.slice none 0 0,.int .i64 0,.slice none 0 0],false⟩
theorem Yj4:TyOk Tryz.prog 41 Yev := .g (by kernel_rfl) ⟨_,Tryz.underlying41,rfl⟩
theorem Yj5:TyOk Tryz.prog 42 Yev := .g (by kernel_rfl) ⟨_,Tryz.underlying42,rfl⟩
theorem Yj6:TyOk Tryz.prog 43 Yep := .s (by kernel_rfl) Tryz.underlying43
def Yh6:TyI:=⟨.struct [(0,3),(1,5),(2,43),(3,43)],4,32,[.int .i64 0,.int .u8 0,.int .u64 0,.int .u64 0],false⟩
theorem Yj7:TyOk Tryz.prog 48 Yh6 := .g (by kernel_rfl) ⟨_,Tryz.underlying48,rfl⟩
def Yh7:TyI:=⟨.struct [(0,3),(1,5),(2,43),(3,43)],4,32,[.int .i64 0,.int .u8 0,.int .u64 0,.int .u64 0],true⟩
theorem Yj8:TyOk Tryz.prog 49 Yh7 := .g (by kernel_rfl) ⟨_,Tryz.underlying49,rfl⟩ (fun _=>by unfold EqTy;exact ⟨by kernel_rfl,by kernel_rfl,by kernel_rfl⟩)
def Yew:TyI:=⟨.struct [(0,28),(1,3),(2,23),(3,23)],4,80,[.slice none 0 0,.int .i64 0,.slice none 0 0,.slice none 0 0],false⟩
theorem Yj9:TyOk Tryz.prog 78 Yew := .g (by kernel_rfl) ⟨_,Tryz.underlying78,rfl⟩
theorem Yka:TyOk Tryz.prog 79 Yew := .g (by kernel_rfl) ⟨_,Tryz.underlying79,rfl⟩
def Yh8:TyI:=⟨.ptr 23,1,8,[.pointer none],false⟩
theorem Ykb:TyOk Tryz.prog 82 Yh8 := .s (by kernel_rfl) Tryz.underlying82
def Yh9:TyI:=⟨.arr 8 5,8,8,[.int .u8 0,.int .u8 0,.int .u8 0,.int .u8 0,.int .u8 0,.int .u8 0,.int .u8 0,.int .u8 0],true⟩
theorem Ykc:TyOk Tryz.prog 87 Yh9 := .g (by kernel_rfl) Tryz.underlying87 (fun _=>by unfold EqTy;exact ⟨by kernel_rfl,by kernel_rfl,by kernel_rfl⟩)
def Yia:TyI:=⟨.slice 5,1,24,[.slice none 0 0],false⟩
theorem Ykd:TyOk Tryz.prog 91 Yia := .s (by kernel_rfl) Tryz.underlying91
def Yib:TyI:=⟨.ptr 79,1,8,[.pointer none],false⟩
theorem Yke:TyOk Tryz.prog 95 Yib := .s (by kernel_rfl) Tryz.underlying95
def Yfs:TyI:=⟨.slice 108,1,24,[.slice none 0 0],false⟩
theorem Yig:TyOk Tryz.prog 104 Yfs := .s (by kernel_rfl) Tryz.underlying104
def Z8w:TyI:=⟨.struct [(0,3),(1,42),(15,42)],29,488,[.int .i64 0,.int .i64 0,.int .i64 0,.slice none 0 0,.int .i64 0,.int .i64 0,.slice none 0 0,.slice none 0 0,.int .i64 0,.slice none 0 0,.slice none 0 0,.slice none 0 0,.slice none 0 0,.int .i64 0,.slice none 0 0,.int .i64 0,.int .i64 0,.slice none 0 0,.int .i64 0,.int .i64 0,.slice none 0 0,.slice none 0 0,.int .i64 0,.slice none 0 0,.slice none 0 0,.slice none 0 0,.slice none 0 0,.int .i64 0,.slice none 0 0],false⟩
theorem Yih:TyOk Tryz.prog 107 Z8w := .g (by kernel_rfl) ⟨_,Tryz.underlying107,rfl⟩
theorem Yii:TyOk Tryz.prog 108 Z8w := .g (by kernel_rfl) ⟨_,Tryz.underlying108,rfl⟩
def Yft:TyI:=⟨.ptr 25,1,8,[.pointer none],false⟩
theorem Yij:TyOk Tryz.prog 120 Yft := .s (by kernel_rfl) Tryz.underlying120
def Z8x:TyI:=⟨.struct [(0,23),(1,23)],2,48,[.slice none 0 0,.slice none 0 0],false⟩
theorem Yik:TyOk Tryz.prog 123 Z8x := .g (by kernel_rfl) ⟨_,Tryz.underlying123,rfl⟩
theorem Yil:TyOk Tryz.prog 124 Z8x := .g (by kernel_rfl) ⟨_,Tryz.underlying124,rfl⟩
def Z8y:TyI:=⟨.struct [(0,28),(1,3)],2,32,[.slice none 0 0,.int .i64 0],false⟩
theorem Yim:TyOk Tryz.prog 126 Z8y := .g (by kernel_rfl) ⟨_,Tryz.underlying126,rfl⟩
theorem Yin:TyOk Tryz.prog 127 Z8y := .g (by kernel_rfl) ⟨_,Tryz.underlying127,rfl⟩
def Yfu:TyI:=⟨.ptr 124,1,8,[.pointer none],false⟩
theorem Yio:TyOk Tryz.prog 132 Yfu := .s (by kernel_rfl) Tryz.underlying132
def Yfv:TyI:=⟨.ptr 127,1,8,[.pointer none],false⟩
theorem Yip:TyOk Tryz.prog 133 Yfv := .s (by kernel_rfl) Tryz.underlying133
def Yfw:TyI:=⟨.arr 6 3,6,48,[.int .i64 0,.int .i64 0,.int .i64 0,.int .i64 0,.int .i64 0,.int .i64 0],true⟩
theorem Yiq:TyOk Tryz.prog 134 Yfw := .g (by kernel_rfl) Tryz.underlying134 (fun _=>by unfold EqTy;exact ⟨by kernel_rfl,by kernel_rfl,by kernel_rfl⟩)
def Z8z:TyI:=⟨.struct [(0,17),(1,17),(2,17),(3,9)],4,40,[.pointer none,.pointer none,.pointer none,.string ByteArray.empty],false⟩
theorem Yir:TyOk Tryz.prog 136 Z8z := .g (by kernel_rfl) ⟨_,Tryz.underlying136,rfl⟩
theorem Yis:TyOk Tryz.prog 137 Z8z := .g (by kernel_rfl) ⟨_,Tryz.underlying137,rfl⟩
def Yfx:TyI:=⟨.int .u32,1,4,[.int .u32 0],false⟩
theorem Yit:TyOk Tryz.prog 142 Yfx := .s (by kernel_rfl) Tryz.underlying142
theorem Yiu:TyOk Tryz.prog 143 tE5 := .s (by kernel_rfl) Tryz.underlying143
theorem Yiv:TyOk Tryz.prog 144 tE5 := .s (by kernel_rfl) Tryz.underlying144
def Yfy:TyI:=⟨.ptr 5,1,8,[.pointer none],false⟩
theorem Yiw:TyOk Tryz.prog 146 Yfy := .s (by kernel_rfl) Tryz.underlying146
theorem Yix:TyOk Tryz.prog 147 Yaw := .s (by kernel_rfl) Tryz.underlying147
theorem Yiy:TyOk Tryz.prog 148 Yaw := .s (by kernel_rfl) Tryz.underlying148
def tabL:List (Nat×TyI):=[(2,tE2),(3,tE2),(4,tE4),(5,tE5),(6,tE5),(7,tE7),(8,tE7),(9,tE9),(10,tE9),(11,tE9),(12,Yep),(13,Yeq),(14,Yeq),(15,Yhx),(16,Yhy),(17,Yhz),(18,Yer),(19,Yer),(21,Yaw),(22,Yh0),(23,Yh1),(24,Yes),(25,Yes),(26,Yh2),(27,Yh3),(28,Yh4),(29,Yet),(30,Yet),(34,Yh5),(39,Yeu),(40,Yeu),(41,Yev),(42,Yev),(43,Yep),(48,Yh6),(49,Yh7),(78,Yew),(79,Yew),(82,Yh8),(87,Yh9),(91,Yia),(95,Yib),(104,Yfs),(107,Z8w),(108,Z8w),(120,Yft),(123,Z8x),(124,Z8x),(126,Z8y),(127,Z8y),(132,Yfu),(133,Yfv),(134,Yfw),(136,Z8z),(137,Z8z),(142,Yfx),(143,tE5),(144,tE5),(146,Yfy),(147,Yaw),(148,Yaw)]
def Kf:K4:=fun t=>tabL.lookup t
theorem Zt:Qt Tryz.prog Kf:=fun t i h=>by
 have hm:=Zzi _ h
 unfold tabL at hm
 simp only [List.mem_cons,Prod.mk.injEq,List.not_mem_nil,or_false] at hm
 rcases hm with ⟨rfl,rfl⟩ | ⟨rfl,rfl⟩ | ⟨rfl,rfl⟩ | ⟨rfl,rfl⟩ | ⟨rfl,rfl⟩ | ⟨rfl,rfl⟩ | ⟨rfl,rfl⟩ | ⟨rfl,rfl⟩ | ⟨rfl,rfl⟩ | ⟨rfl,rfl⟩ | ⟨rfl,rfl⟩ | ⟨rfl,rfl⟩ | ⟨rfl,rfl⟩ | ⟨rfl,rfl⟩ | ⟨rfl,rfl⟩ | ⟨rfl,rfl⟩ | ⟨rfl,rfl⟩ | ⟨rfl,rfl⟩ | ⟨rfl,rfl⟩ | ⟨rfl,rfl⟩ | ⟨rfl,rfl⟩ | ⟨rfl,rfl⟩ | ⟨rfl,rfl⟩ | ⟨rfl,rfl⟩ | ⟨rfl,rfl⟩ | ⟨rfl,rfl⟩ | ⟨rfl,rfl⟩ | ⟨rfl,rfl⟩ | ⟨rfl,rfl⟩ | ⟨rfl,rfl⟩ | ⟨rfl,rfl⟩ | ⟨rfl,rfl⟩ | ⟨rfl,rfl⟩ | ⟨rfl,rfl⟩ | ⟨rfl,rfl⟩ | ⟨rfl,rfl⟩ | ⟨rfl,rfl⟩ | ⟨rfl,rfl⟩ | ⟨rfl,rfl⟩ | ⟨rfl,rfl⟩ | ⟨rfl,rfl⟩ | ⟨rfl,rfl⟩ | ⟨rfl,rfl⟩ | ⟨rfl,rfl⟩ | ⟨rfl,rfl⟩ | ⟨rfl,rfl⟩ | ⟨rfl,rfl⟩ | ⟨rfl,rfl⟩ | ⟨rfl,rfl⟩ | ⟨rfl,rfl⟩ | ⟨rfl,rfl⟩ | ⟨rfl,rfl⟩ | ⟨rfl,rfl⟩ | ⟨rfl,rfl⟩ | ⟨rfl,rfl⟩ | ⟨rfl,rfl⟩ | ⟨rfl,rfl⟩ | ⟨rfl,rfl⟩ | ⟨rfl,rfl⟩ | ⟨rfl,rfl⟩ | ⟨rfl,rfl⟩
 ·exact ty2
 ·exact ty3
 ·exact ty4
 ·exact ty5
 ·exact ty6
 ·exact ty7
 ·exact ty8
 ·exact ty9
 ·exact Yjh
 ·exact Yji
 ·exact Yjj
 ·exact Yjk
 ·exact Yjl
 ·exact Yjm
 ·exact Yjn
 ·exact Yjo
 ·exact Yjp
 ·exact Yjq
 ·exact Yjr
 ·exact Yjs
 ·exact Yjt
 ·exact Yju
 ·exact Yjv
 ·exact Yjw
 ·exact Yjx
 ·exact Yjy
 ·exact Yjz
 ·exact Yj0
 ·exact Yj1
 ·exact Yj2
 ·exact Yj3
 ·exact Yj4
 ·exact Yj5
 ·exact Yj6
 ·exact Yj7
 ·exact Yj8
 ·exact Yj9
 ·exact Yka
 ·exact Ykb
 ·exact Ykc
 ·exact Ykd
 ·exact Yke
 ·exact Yig
 ·exact Yih
 ·exact Yii
 ·exact Yij
 ·exact Yik
 ·exact Yil
 ·exact Yim
 ·exact Yin
 ·exact Yio
 ·exact Yip
 ·exact Yiq
 ·exact Yir
 ·exact Yis
 ·exact Yit
 ·exact Yiu
 ·exact Yiv
 ·exact Yiw
 ·exact Yix
 exact Yiy
theorem Yex:Kf 2=some ⟨.int .i64,1,8,[.int .i64 0],false⟩:=rfl
theorem Zis:Kf 3=some ⟨.int .i64,1,8,[.int .i64 0],false⟩:=rfl
theorem Yey:Kf 4=some ⟨.bool,1,1,[.bool false],false⟩:=rfl
theorem Z31:Kf 5=some ⟨.int .u8,1,1,[.int .u8 0],false⟩:=rfl
theorem Yez:Kf 6=some ⟨.int .u8,1,1,[.int .u8 0],false⟩:=rfl
theorem Ye0:Kf 7=some ⟨.struct [(0,2),(1,3),(2,4),(3,6)],4,24,[.int .i64 0,.int .i64 0,.bool false,.int .u8 0],false⟩:=rfl
theorem Ye1:Kf 8=some ⟨.struct [(0,2),(1,3),(2,4),(3,6)],4,24,[.int .i64 0,.int .i64 0,.bool false,.int .u8 0],false⟩:=rfl
theorem Ye2:Kf 9=some ⟨.str,1,16,[.string ByteArray.empty],false⟩:=rfl
theorem Z81:Kf 10=some ⟨.str,1,16,[.string ByteArray.empty],false⟩:=rfl
theorem Z82:Kf 11=some ⟨.str,1,16,[.string ByteArray.empty],false⟩:=rfl
theorem Z83:Kf 12=some ⟨.int .u64,1,8,[.int .u64 0],false⟩:=rfl
theorem Z84:Kf 13=some ⟨.struct [(0,9),(1,12)],2,24,[.string ByteArray.empty,.int .u64 0],false⟩:=rfl
theorem Z85:Kf 14=some ⟨.struct [(0,9),(1,12)],2,24,[.string ByteArray.empty,.int .u64 0],false⟩:=rfl
theorem Z86:Kf 15=some ⟨.ptr 137,1,8,[.pointer none],false⟩:=rfl
theorem Z87:Kf 16=some ⟨.ptr 140,1,8,[.pointer none],false⟩:=rfl
theorem Z88:Kf 17=some ⟨.ptr 150,1,8,[.pointer none],false⟩:=rfl
theorem Z89:Kf 18=some ⟨.struct [(0,17)],1,8,[.pointer none],false⟩:=rfl
theorem Z9a:Kf 19=some ⟨.struct [(0,17)],1,8,[.pointer none],false⟩:=rfl
theorem Z9b:Kf 21=some ⟨.int .i32,1,4,[.int .i32 0],false⟩:=rfl
theorem Z9c:Kf 22=some ⟨.slice 43,1,24,[.slice none 0 0],false⟩:=rfl
theorem Ztn:Kf 23=some ⟨.slice 25,1,24,[.slice none 0 0],false⟩:=rfl
theorem Z9d:Kf 24=some ⟨.struct [(0,3),(1,22),(2,23)],3,56,[.int .i64 0,.slice none 0 0,.slice none 0 0],false⟩:=rfl
theorem Zbu:Kf 25=some ⟨.struct [(0,3),(1,22),(2,23)],3,56,[.int .i64 0,.slice none 0 0,.slice none 0 0],false⟩:=rfl
theorem Z9e:Kf 26=some ⟨.slice 49,1,24,[.slice none 0 0],false⟩:=rfl
theorem Z9f:Kf 27=some ⟨.slice 40,1,24,[.slice none 0 0],false⟩:=rfl
theorem Z1m:Kf 28=some ⟨.slice 42,1,24,[.slice none 0 0],false⟩:=rfl
theorem Z9g:Kf 29=some ⟨.struct [(0,3),(1,25),(4,25),(7,26),(8,27),(9,3),(10,28)],11,200,[.int .i64 0,.int .i64 0,.slice none 0 0,.slice none 0 0,.int .i64 0,.slice none 0 0,.slice none 0 0,.slice none 0 0,.slice none 0 0,.int .i64 0,.slice none 0 0],false⟩:=rfl
theorem Zd7:Kf 30=some ⟨.struct [(0,3),(1,25),(4,25),(7,26),(8,27),(9,3),(10,28)],11,200,[.int .i64 0,.int .i64 0,.slice none 0 0,.slice none 0 0,.int .i64 0,.slice none 0 0,.slice none 0 0,.slice none 0 0,.slice none 0 0,.int .i64 0,.slice none 0 0],false⟩:=rfl
theorem Z9h:Kf 34=some ⟨.slice 30,1,24,[.slice none 0 0],false⟩:=rfl
theorem Z9i:Kf 39=some ⟨.struct [(0,3),(1,30)],12,208,[.int .i64 0,.int .i64 0,.int .i64 0,.slice none 0 0,.slice none 0 0,.int .i64 0,.slice none 0 0,.slice none 0 0,.slice none 0 0,.slice none 0 0,.int .i64 0,.slice none 0 0],false⟩:=rfl
theorem Zi1:Kf 40=some ⟨.struct [(0,3),(1,30)],12,208,[.int .i64 0,.int .i64 0,.int .i64 0,.slice none 0 0,.slice none 0 0,.int .i64 0,.slice none 0 0,.slice none 0 0,.slice none 0 0,.slice none 0 0,.int .i64 0,.slice none 0 0],false⟩:=rfl
theorem Z9j:Kf 41=some ⟨.struct [(0,3),(1,3),(2,23),(3,30)],14,240,[.int .i64 0,.int .i64 0,.slice none 0 0,.int .i64 0,.int .i64 0,.slice none 0 0,.slice none 0 0,.int .i64 0,.slice none 0 0,.slice none 0 0,.slice none 0 0,.slice none 0 0,.int .i64 0,.slice none 0 0],false⟩:=rfl
theorem Jw:Kf 42=some ⟨.struct [(0,3),(1,3),(2,23),(3,30)],14,240,[.int .i64 0,.int .i64 0,.slice none 0 0,.int .i64 0,.int .i64 0,.slice none 0 0,.slice none 0 0,.int .i64 0,.slice none 0 0,.slice none 0 0,.slice none 0 0,.slice none 0 0,.int .i64 0,.slice none 0 0],false⟩:=rfl
theorem Zly:Kf 43=some ⟨.int .u64,1,8,[.int .u64 0],false⟩:=rfl
theorem Z9k:Kf 48=some ⟨.struct [(0,3),(1,5),(2,43),(3,43)],4,32,[.int .i64 0,.int .u8 0,.int .u64 0,.int .u64 0],false⟩:=rfl
theorem Zq9:Kf 49=some ⟨.struct [(0,3),(1,5),(2,43),(3,43)],4,32,[.int .i64 0,.int .u8 0,.int .u64 0,.int .u64 0],true⟩:=rfl
theorem Z9l:Kf 78=some ⟨.struct [(0,28),(1,3),(2,23),(3,23)],4,80,[.slice none 0 0,.int .i64 0,.slice none 0 0,.slice none 0 0],false⟩:=rfl
theorem Z9m:Kf 79=some ⟨.struct [(0,28),(1,3),(2,23),(3,23)],4,80,[.slice none 0 0,.int .i64 0,.slice none 0 0,.slice none 0 0],false⟩:=rfl
theorem Z9n:Kf 82=some ⟨.ptr 23,1,8,[.pointer none],false⟩:=rfl
theorem Z1n:Kf 87=some ⟨.arr 8 5,8,8,[.int .u8 0,.int .u8 0,.int .u8 0,.int .u8 0,.int .u8 0,.int .u8 0,.int .u8 0,.int .u8 0],true⟩:=rfl
theorem Z9o:Kf 91=some ⟨.slice 5,1,24,[.slice none 0 0],false⟩:=rfl
theorem Z9p:Kf 95=some ⟨.ptr 79,1,8,[.pointer none],false⟩:=rfl
theorem Z3j:Kf 104=some ⟨.slice 108,1,24,[.slice none 0 0],false⟩:=rfl
theorem Z3k:Kf 107=some ⟨.struct [(0,3),(1,42),(15,42)],29,488,[.int .i64 0,.int .i64 0,.int .i64 0,.slice none 0 0,.int .i64 0,.int .i64 0,.slice none 0 0,.slice none 0 0,.int .i64 0,.slice none 0 0,.slice none 0 0,.slice none 0 0,.slice none 0 0,.int .i64 0,.slice none 0 0,.int .i64 0,.int .i64 0,.slice none 0 0,.int .i64 0,.int .i64 0,.slice none 0 0,.slice none 0 0,.int .i64 0,.slice none 0 0,.slice none 0 0,.slice none 0 0,.slice none 0 0,.int .i64 0,.slice none 0 0],false⟩:=rfl
theorem Z0a:Kf 108=some ⟨.struct [(0,3),(1,42),(15,42)],29,488,[.int .i64 0,.int .i64 0,.int .i64 0,.slice none 0 0,.int .i64 0,.int .i64 0,.slice none 0 0,.slice none 0 0,.int .i64 0,.slice none 0 0,.slice none 0 0,.slice none 0 0,.slice none 0 0,.int .i64 0,.slice none 0 0,.int .i64 0,.int .i64 0,.slice none 0 0,.int .i64 0,.int .i64 0,.slice none 0 0,.slice none 0 0,.int .i64 0,.slice none 0 0,.slice none 0 0,.slice none 0 0,.slice none 0 0,.int .i64 0,.slice none 0 0],false⟩:=rfl
theorem Z3l:Kf 120=some ⟨.ptr 25,1,8,[.pointer none],false⟩:=rfl
theorem Z3m:Kf 123=some ⟨.struct [(0,23),(1,23)],2,48,[.slice none 0 0,.slice none 0 0],false⟩:=rfl
theorem Z3n:Kf 124=some ⟨.struct [(0,23),(1,23)],2,48,[.slice none 0 0,.slice none 0 0],false⟩:=rfl
theorem Z3o:Kf 126=some ⟨.struct [(0,28),(1,3)],2,32,[.slice none 0 0,.int .i64 0],false⟩:=rfl
theorem Z3p:Kf 127=some ⟨.struct [(0,28),(1,3)],2,32,[.slice none 0 0,.int .i64 0],false⟩:=rfl
theorem Z3q:Kf 132=some ⟨.ptr 124,1,8,[.pointer none],false⟩:=rfl
theorem Z3r:Kf 133=some ⟨.ptr 127,1,8,[.pointer none],false⟩:=rfl
theorem Z3s:Kf 134=some ⟨.arr 6 3,6,48,[.int .i64 0,.int .i64 0,.int .i64 0,.int .i64 0,.int .i64 0,.int .i64 0],true⟩:=rfl
theorem Z3t:Kf 136=some ⟨.struct [(0,17),(1,17),(2,17),(3,9)],4,40,[.pointer none,.pointer none,.pointer none,.string ByteArray.empty],false⟩:=rfl
theorem Z3u:Kf 137=some ⟨.struct [(0,17),(1,17),(2,17),(3,9)],4,40,[.pointer none,.pointer none,.pointer none,.string ByteArray.empty],false⟩:=rfl
theorem Z3v:Kf 142=some ⟨.int .u32,1,4,[.int .u32 0],false⟩:=rfl
theorem Z3w:Kf 143=some ⟨.int .u8,1,1,[.int .u8 0],false⟩:=rfl
theorem Z3x:Kf 144=some ⟨.int .u8,1,1,[.int .u8 0],false⟩:=rfl
theorem Z3y:Kf 146=some ⟨.ptr 5,1,8,[.pointer none],false⟩:=rfl
theorem Z3z:Kf 147=some ⟨.int .i32,1,4,[.int .i32 0],false⟩:=rfl
theorem Z30:Kf 148=some ⟨.int .i32,1,4,[.int .i32 0],false⟩:=rfl
theorem Z32:Yu Kf 2=some (.int .i64):=rfl
theorem Z33:Yu Kf 3=some (.int .i64):=rfl
theorem Z34:Yu Kf 4=some (.bool):=rfl
theorem Z35:Yu Kf 5=some (.int .u8):=rfl
theorem Z36:Yu Kf 6=some (.int .u8):=rfl
theorem Z37:Yu Kf 7=some (.struct [(0,2),(1,3),(2,4),(3,6)]):=rfl
theorem Z38:Yu Kf 8=some (.struct [(0,2),(1,3),(2,4),(3,6)]):=rfl
theorem Z39:Yu Kf 9=some (.str):=rfl
theorem Zxq:Yu Kf 10=some (.str):=rfl
theorem Zxr:Yu Kf 11=some (.str):=rfl
theorem Zxs:Yu Kf 12=some (.int .u64):=rfl
theorem Zxt:Yu Kf 13=some (.struct [(0,9),(1,12)]):=rfl
theorem Zxu:Yu Kf 14=some (.struct [(0,9),(1,12)]):=rfl
theorem Zxv:Yu Kf 15=some (.ptr 137):=rfl
theorem Zxw:Yu Kf 16=some (.ptr 140):=rfl
theorem Zxx:Yu Kf 17=some (.ptr 150):=rfl
theorem Zxy:Yu Kf 18=some (.struct [(0,17)]):=rfl
theorem Zxz:Yu Kf 19=some (.struct [(0,17)]):=rfl
theorem Zx0:Yu Kf 21=some (.int .i32):=rfl
theorem Zqn:Yu Kf 22=some (.slice 43):=rfl
theorem Zk0:Yu Kf 23=some (.slice 25):=rfl
theorem Zx1:Yu Kf 24=some (.struct [(0,3),(1,22),(2,23)]):=rfl
theorem Zx2:Yu Kf 25=some (.struct [(0,3),(1,22),(2,23)]):=rfl
theorem Zx3:Yu Kf 26=some (.slice 49):=rfl
theorem Zx4:Yu Kf 27=some (.slice 40):=rfl
theorem Zt7:Yu Kf 28=some (.slice 42):=rfl
theorem Zx5:Yu Kf 29=some (.struct [(0,3),(1,25),(4,25),(7,26),(8,27),(9,3),(10,28)]):=rfl
theorem Zx6:Yu Kf 30=some (.struct [(0,3),(1,25),(4,25),(7,26),(8,27),(9,3),(10,28)]):=rfl
theorem Zx7:Yu Kf 34=some (.slice 30):=rfl
theorem Zx8:Yu Kf 39=some (.struct [(0,3),(1,30)]):=rfl
theorem Zx9:Yu Kf 40=some (.struct [(0,3),(1,30)]):=rfl
theorem Zya:Yu Kf 41=some (.struct [(0,3),(1,3),(2,23),(3,30)]):=rfl
theorem Zyb:Yu Kf 42=some (.struct [(0,3),(1,3),(2,23),(3,30)]):=rfl
theorem Zyc:Yu Kf 43=some (.int .u64):=rfl
theorem Zyd:Yu Kf 48=some (.struct [(0,3),(1,5),(2,43),(3,43)]):=rfl
theorem Zye:Yu Kf 49=some (.struct [(0,3),(1,5),(2,43),(3,43)]):=rfl
theorem Zyf:Yu Kf 78=some (.struct [(0,28),(1,3),(2,23),(3,23)]):=rfl
theorem Zyg:Yu Kf 79=some (.struct [(0,28),(1,3),(2,23),(3,23)]):=rfl
theorem Zyh:Yu Kf 82=some (.ptr 23):=rfl
theorem Zt8:Yu Kf 87=some (.arr 8 5):=rfl
theorem Zyi:Yu Kf 91=some (.slice 5):=rfl
theorem Zyj:Yu Kf 95=some (.ptr 79):=rfl
theorem Zto:Yu Kf 104=some (.slice 108):=rfl
theorem Ztp:Yu Kf 107=some (.struct [(0,3),(1,42),(15,42)]):=rfl
theorem Ztq:Yu Kf 108=some (.struct [(0,3),(1,42),(15,42)]):=rfl
theorem Ztr:Yu Kf 120=some (.ptr 25):=rfl
theorem Zts:Yu Kf 123=some (.struct [(0,23),(1,23)]):=rfl
theorem Ztt:Yu Kf 124=some (.struct [(0,23),(1,23)]):=rfl
theorem Ztu:Yu Kf 126=some (.struct [(0,28),(1,3)]):=rfl
theorem Ztv:Yu Kf 127=some (.struct [(0,28),(1,3)]):=rfl
theorem Ztw:Yu Kf 132=some (.ptr 124):=rfl
theorem Ztx:Yu Kf 133=some (.ptr 127):=rfl
theorem Zty:Yu Kf 134=some (.arr 6 3):=rfl
theorem Ztz:Yu Kf 136=some (.struct [(0,17),(1,17),(2,17),(3,9)]):=rfl
theorem Zt0:Yu Kf 137=some (.struct [(0,17),(1,17),(2,17),(3,9)]):=rfl
theorem Zt1:Yu Kf 142=some (.int .u32):=rfl
theorem Zt2:Yu Kf 143=some (.int .u8):=rfl
theorem Zt3:Yu Kf 144=some (.int .u8):=rfl
theorem Zt4:Yu Kf 146=some (.ptr 5):=rfl
theorem Zt5:Yu Kf 147=some (.int .i32):=rfl
theorem Zt6:Yu Kf 148=some (.int .i32):=rfl
end Go.Proofs.YtkbcdcffpefklaaGreat
