/- The types of this seat's program, as its dump has them, in the ghost memory's words; no condition. -/
import Derived.Test.YtbkhdkfjabiocaaRows
import Derived.Test.YtbkhdkfjabiocaaG16
namespace Go.Proofs.Ytbkhdkfjabiocaa
open Go.RowKit
set_option linter.unusedVariables false
set_option linter.unusedSimpArgs false
theorem TyOk.of {P:Program} {t:TypeId} (k:TK) (size bytes:Nat) (zero:List Value) (z:Value) (h:(P.info? t).map (fun i=>(i.zero,i.size,i.bytes))=some (some z,size,bytes)) (hz:z.cells.toList=zero) (hu:k.ok P t) (hl:zero.length=size) (h1:zero.all Value.oneCell'=true) (eq:Bool) (he:eq=true→EqTy P t):TyOk P t ⟨k,size,bytes,zero,eq⟩:=by
 refine ⟨?_,hu,hl,fun v hv=>List.all_eq_true.1 h1 v hv,he⟩
 cases hi:P.info? t with
 | none=>rw [hi] at h;cases h
 | some i =>
  rw [hi] at h
  simp only [Option.map_some,Option.some.injEq,Prod.mk.injEq] at h
  exact ⟨i,z,rfl,h.2.1,h.2.2,h.1,hz⟩
theorem TyOk.g {P:Program} {t:TypeId} {k:TK} {size bytes:Nat} {zero:List Value} {eq:Bool} (h:(P.info? t).map (fun i=>(i.zero,i.size,i.bytes))=some (some (.agg zero.toArray),size,bytes)) (hu:k.ok P t) (he:eq=true→EqTy P t:=by intro h;cases h) (hz:(Value.agg zero.toArray).cells.toList=zero:=by rfl) (hl:zero.length=size:=by rfl) (h1:zero.all Value.oneCell'=true:=by rfl):TyOk P t ⟨k,size,bytes,zero,eq⟩ := .of k size bytes zero _ h hz hu hl h1 eq he
theorem TyOk.s {P:Program} {t:TypeId} {k:TK} {size bytes:Nat} {z:Value} {eq:Bool} (h:(P.info? t).map (fun i=>(i.zero,i.size,i.bytes))=some (some z,size,bytes)) (hu:k.ok P t) (he:eq=true→EqTy P t:=by intro h;cases h) (hz:z.cells.toList=[z]:=by rfl) (hl:[z].length=size:=by rfl) (h1:[z].all Value.oneCell'=true:=by rfl):TyOk P t ⟨k,size,bytes,[z],eq⟩ := .of k size bytes [z] _ h hz hu hl h1 eq he
theorem EqTy.m {P:Program} {t:TypeId} (h:EqTy P t):true=true→EqTy P t:=fun _=>h
theorem Zu1 {α:Type} {t:Nat} {i:α}:∀ (l:List (Nat×α)),l.lookup t=some i→(t,i)∈l
 | [],h=>by simp at h
 | (a,b)::l,h=>by
  rw [List.lookup_cons] at h
  split at h
  ·rename_i he
   injection h with h
   have:t=a:=by simpa using he
   subst h this
   exact .head _
  exact .tail _ (Zu1 l h)
def tE2:TyI:=⟨.int .i64,1,8,[.int .i64 0],false⟩
theorem ty2:TyOk Try.prog 2 tE2 := .s (by kernel_rfl) Try.underlying2
theorem ty3:TyOk Try.prog 3 tE2 := .s (by kernel_rfl) Try.underlying3
def tE4:TyI:=⟨.bool,1,1,[.bool false],false⟩
theorem ty4:TyOk Try.prog 4 tE4 := .s (by kernel_rfl) Try.underlying4
def tE5:TyI:=⟨.int .u8,1,1,[.int .u8 0],false⟩
theorem ty5:TyOk Try.prog 5 tE5 := .s (by kernel_rfl) Try.underlying5
theorem ty6:TyOk Try.prog 6 tE5 := .s (by kernel_rfl) Try.underlying6
def tE7:TyI:=⟨.struct [(0,2),(1,3),(2,4),(3,6)],4,24,[.int .i64 0,.int .i64 0,.bool false,.int .u8 0],false⟩
theorem ty7:TyOk Try.prog 7 tE7 := .g (by kernel_rfl) ⟨_,Try.underlying7,rfl⟩
theorem ty8:TyOk Try.prog 8 tE7 := .g (by kernel_rfl) ⟨_,Try.underlying8,rfl⟩
def tE9:TyI:=⟨.str,1,16,[.string ByteArray.empty],false⟩
theorem ty9:TyOk Try.prog 9 tE9 := .s (by kernel_rfl) Try.underlying9
theorem Yej:TyOk Try.prog 10 tE9 := .s (by kernel_rfl) Try.underlying10
theorem Yek:TyOk Try.prog 11 tE9 := .s (by kernel_rfl) Try.underlying11
def Z54:TyI:=⟨.int .u64,1,8,[.int .u64 0],false⟩
theorem Yel:TyOk Try.prog 12 Z54 := .s (by kernel_rfl) Try.underlying12
def Yan:TyI:=⟨.struct [(0,9),(1,12)],2,24,[.string ByteArray.empty,.int .u64 0],false⟩
theorem Yem:TyOk Try.prog 13 Yan := .g (by kernel_rfl) ⟨_,Try.underlying13,rfl⟩
theorem Yen:TyOk Try.prog 14 Yan := .g (by kernel_rfl) ⟨_,Try.underlying14,rfl⟩
def Yda:TyI:=⟨.ptr 128,1,8,[.pointer none],false⟩
theorem Yeo:TyOk Try.prog 15 Yda := .s (by kernel_rfl) Try.underlying15
def Ydb:TyI:=⟨.ptr 131,1,8,[.pointer none],false⟩
theorem Yep:TyOk Try.prog 16 Ydb := .s (by kernel_rfl) Try.underlying16
def Ydc:TyI:=⟨.ptr 139,1,8,[.pointer none],false⟩
theorem Yeq:TyOk Try.prog 17 Ydc := .s (by kernel_rfl) Try.underlying17
def Yao:TyI:=⟨.struct [(0,17)],1,8,[.pointer none],false⟩
theorem Yer:TyOk Try.prog 18 Yao := .g (by kernel_rfl) ⟨_,Try.underlying18,rfl⟩
theorem Yes:TyOk Try.prog 19 Yao := .g (by kernel_rfl) ⟨_,Try.underlying19,rfl⟩
def Z55:TyI:=⟨.int .i32,1,4,[.int .i32 0],false⟩
theorem Yet:TyOk Try.prog 21 Z55 := .s (by kernel_rfl) Try.underlying21
def Ydd:TyI:=⟨.slice 44,1,24,[.slice none 0 0],false⟩
theorem Yeu:TyOk Try.prog 22 Ydd := .s (by kernel_rfl) Try.underlying22
def Yde:TyI:=⟨.slice 25,1,24,[.slice none 0 0],false⟩
theorem Yev:TyOk Try.prog 23 Yde := .s (by kernel_rfl) Try.underlying23
def Yap:TyI:=⟨.struct [(0,3),(1,22),(2,23)],3,56,[.int .i64 0,.slice none 0 0,.slice none 0 0],false⟩
theorem Yew:TyOk Try.prog 24 Yap := .g (by kernel_rfl) ⟨_,Try.underlying24,rfl⟩
theorem Yex:TyOk Try.prog 25 Yap := .g (by kernel_rfl) ⟨_,Try.underlying25,rfl⟩
def Ydf:TyI:=⟨.ptr 62,1,8,[.pointer none],false⟩
theorem Yey:TyOk Try.prog 28 Ydf := .s (by kernel_rfl) Try.underlying28
theorem Yez:TyOk Try.prog 32 tE2 := .s (by kernel_rfl) Try.underlying32
def Ydg:TyI:=⟨.slice 22,1,24,[.slice none 0 0],false⟩
theorem Ye0:TyOk Try.prog 36 Ydg := .s (by kernel_rfl) Try.underlying36
def Ydh:TyI:=⟨.struct [(0,3),(1,3),(2,3),(3,3)],4,32,[.int .i64 0,.int .i64 0,.int .i64 0,.int .i64 0],false⟩
theorem Ye1:TyOk Try.prog 38 Ydh := .g (by kernel_rfl) ⟨_,Try.underlying38,rfl⟩
def Ydi:TyI:=⟨.struct [(0,3),(1,3),(2,3),(3,3)],4,32,[.int .i64 0,.int .i64 0,.int .i64 0,.int .i64 0],true⟩
theorem Ye2:TyOk Try.prog 39 Ydi := .g (by kernel_rfl) ⟨_,Try.underlying39,rfl⟩ (fun _=>by unfold EqTy;exact ⟨by kernel_rfl,by kernel_rfl,by kernel_rfl⟩)
theorem Ye3:TyOk Try.prog 44 Z54 := .s (by kernel_rfl) Try.underlying44
def Yaq:TyI:=⟨.struct [(0,28)],1,8,[.pointer none],false⟩
theorem Ye4:TyOk Try.prog 47 Yaq := .g (by kernel_rfl) ⟨_,Try.underlying47,rfl⟩
theorem Ye5:TyOk Try.prog 48 Yaq := .g (by kernel_rfl) ⟨_,Try.underlying48,rfl⟩
def Yar:TyI:=⟨.struct [(0,28),(1,3),(2,3),(3,3),(4,3),(5,3),(6,3),(7,3),(8,3)],9,72,[.pointer none,.int .i64 0,.int .i64 0,.int .i64 0,.int .i64 0,.int .i64 0,.int .i64 0,.int .i64 0,.int .i64 0],false⟩
theorem Ye6:TyOk Try.prog 55 Yar := .g (by kernel_rfl) ⟨_,Try.underlying55,rfl⟩
theorem Ye7:TyOk Try.prog 56 Yar := .g (by kernel_rfl) ⟨_,Try.underlying56,rfl⟩
def Yas:TyI:=⟨.struct [(0,36),(1,3),(2,3)],3,40,[.slice none 0 0,.int .i64 0,.int .i64 0],false⟩
theorem Ye8:TyOk Try.prog 61 Yas := .g (by kernel_rfl) ⟨_,Try.underlying61,rfl⟩
theorem Ye9:TyOk Try.prog 62 Yas := .g (by kernel_rfl) ⟨_,Try.underlying62,rfl⟩
def Ydj:TyI:=⟨.struct [(0,3),(1,3),(2,3),(3,3),(4,3),(5,3),(6,3),(7,4)],8,64,[.int .i64 0,.int .i64 0,.int .i64 0,.int .i64 0,.int .i64 0,.int .i64 0,.int .i64 0,.bool false],false⟩
theorem Yfa:TyOk Try.prog 68 Ydj := .g (by kernel_rfl) ⟨_,Try.underlying68,rfl⟩
def Ydk:TyI:=⟨.struct [(0,3),(1,3),(2,3),(3,3),(4,3),(5,3),(6,3),(7,4)],8,64,[.int .i64 0,.int .i64 0,.int .i64 0,.int .i64 0,.int .i64 0,.int .i64 0,.int .i64 0,.bool false],true⟩
theorem Yfb:TyOk Try.prog 69 Ydk := .g (by kernel_rfl) ⟨_,Try.underlying69,rfl⟩ (fun _=>by unfold EqTy;exact ⟨by kernel_rfl,by kernel_rfl,by kernel_rfl⟩)
def Yat:TyI:=⟨.struct [(0,3)],1,8,[.int .i64 0],false⟩
theorem Yfc:TyOk Try.prog 76 Yat := .g (by kernel_rfl) ⟨_,Try.underlying76,rfl⟩
def Yau:TyI:=⟨.struct [(0,3)],1,8,[.int .i64 0],true⟩
theorem Yfd:TyOk Try.prog 77 Yau := .g (by kernel_rfl) ⟨_,Try.underlying77,rfl⟩ (fun _=>by unfold EqTy;exact ⟨by kernel_rfl,by kernel_rfl,by kernel_rfl⟩)
theorem Yfe:TyOk Try.prog 80 Yat := .g (by kernel_rfl) ⟨_,Try.underlying80,rfl⟩
theorem Yff:TyOk Try.prog 81 Yau := .g (by kernel_rfl) ⟨_,Try.underlying81,rfl⟩ (fun _=>by unfold EqTy;exact ⟨by kernel_rfl,by kernel_rfl,by kernel_rfl⟩)
def Ydl:TyI:=⟨.ptr 77,1,8,[.pointer none],false⟩
theorem Yfg:TyOk Try.prog 92 Ydl := .s (by kernel_rfl) Try.underlying92
def Ydm:TyI:=⟨.struct [(0,69),(8,3),(9,3)],10,80,[.int .i64 0,.int .i64 0,.int .i64 0,.int .i64 0,.int .i64 0,.int .i64 0,.int .i64 0,.bool false,.int .i64 0,.int .i64 0],false⟩
theorem Yfh:TyOk Try.prog 95 Ydm := .g (by kernel_rfl) ⟨_,Try.underlying95,rfl⟩
def Ydn:TyI:=⟨.struct [(0,69),(8,3),(9,3)],10,80,[.int .i64 0,.int .i64 0,.int .i64 0,.int .i64 0,.int .i64 0,.int .i64 0,.int .i64 0,.bool false,.int .i64 0,.int .i64 0],true⟩
theorem Yfi:TyOk Try.prog 96 Ydn := .g (by kernel_rfl) ⟨_,Try.underlying96,rfl⟩ (fun _=>by unfold EqTy;exact ⟨by kernel_rfl,by kernel_rfl,by kernel_rfl⟩)
def Ybf:TyI:=⟨.ptr 81,1,8,[.pointer none],false⟩
theorem Ydq:TyOk Try.prog 100 Ybf := .s (by kernel_rfl) Try.underlying100
def Ybg:TyI:=⟨.arr 7 3,7,56,[.int .i64 0,.int .i64 0,.int .i64 0,.int .i64 0,.int .i64 0,.int .i64 0,.int .i64 0],true⟩
theorem Ydr:TyOk Try.prog 105 Ybg := .g (by kernel_rfl) Try.underlying105 (fun _=>by unfold EqTy;exact ⟨by kernel_rfl,by kernel_rfl,by kernel_rfl⟩)
theorem Yds:TyOk Try.prog 121 Z54 := .s (by kernel_rfl) Try.underlying121
def Ybh:TyI:=⟨.arr 6 3,6,48,[.int .i64 0,.int .i64 0,.int .i64 0,.int .i64 0,.int .i64 0,.int .i64 0],true⟩
theorem Ydt:TyOk Try.prog 124 Ybh := .g (by kernel_rfl) Try.underlying124 (fun _=>by unfold EqTy;exact ⟨by kernel_rfl,by kernel_rfl,by kernel_rfl⟩)
def Ybi:TyI:=⟨.int .u32,1,4,[.int .u32 0],false⟩
theorem Ydu:TyOk Try.prog 125 Ybi := .s (by kernel_rfl) Try.underlying125
def Z4u:TyI:=⟨.struct [(0,17),(1,17),(2,17),(3,9)],4,40,[.pointer none,.pointer none,.pointer none,.string ByteArray.empty],false⟩
theorem Ydv:TyOk Try.prog 127 Z4u := .g (by kernel_rfl) ⟨_,Try.underlying127,rfl⟩
theorem Ydw:TyOk Try.prog 128 Z4u := .g (by kernel_rfl) ⟨_,Try.underlying128,rfl⟩
theorem Ydx:TyOk Try.prog 132 tE5 := .s (by kernel_rfl) Try.underlying132
theorem Ydy:TyOk Try.prog 133 tE5 := .s (by kernel_rfl) Try.underlying133
def Ybj:TyI:=⟨.ptr 5,1,8,[.pointer none],false⟩
theorem Ydz:TyOk Try.prog 135 Ybj := .s (by kernel_rfl) Try.underlying135
theorem Yd0:TyOk Try.prog 136 Z55 := .s (by kernel_rfl) Try.underlying136
theorem Yd1:TyOk Try.prog 137 Z55 := .s (by kernel_rfl) Try.underlying137
def tabL:List (Nat×TyI):=[(2,tE2),(3,tE2),(4,tE4),(5,tE5),(6,tE5),(7,tE7),(8,tE7),(9,tE9),(10,tE9),(11,tE9),(12,Z54),(13,Yan),(14,Yan),(15,Yda),(16,Ydb),(17,Ydc),(18,Yao),(19,Yao),(21,Z55),(22,Ydd),(23,Yde),(24,Yap),(25,Yap),(28,Ydf),(32,tE2),(36,Ydg),(38,Ydh),(39,Ydi),(44,Z54),(47,Yaq),(48,Yaq),(55,Yar),(56,Yar),(61,Yas),(62,Yas),(68,Ydj),(69,Ydk),(76,Yat),(77,Yau),(80,Yat),(81,Yau),(92,Ydl),(95,Ydm),(96,Ydn),(100,Ybf),(105,Ybg),(121,Z54),(124,Ybh),(125,Ybi),(127,Z4u),(128,Z4u),(132,tE5),(133,tE5),(135,Ybj),(136,Z55),(137,Z55)]
def Kc:J9:=fun t=>tabL.lookup t
theorem Zc:X6 Try.prog Kc:=fun t i h=>by
 have hm:=Zu1 _ h
 unfold tabL at hm
 simp only [List.mem_cons,Prod.mk.injEq,List.not_mem_nil,or_false] at hm
 rcases hm with ⟨rfl,rfl⟩ | ⟨rfl,rfl⟩ | ⟨rfl,rfl⟩ | ⟨rfl,rfl⟩ | ⟨rfl,rfl⟩ | ⟨rfl,rfl⟩ | ⟨rfl,rfl⟩ | ⟨rfl,rfl⟩ | ⟨rfl,rfl⟩ | ⟨rfl,rfl⟩ | ⟨rfl,rfl⟩ | ⟨rfl,rfl⟩ | ⟨rfl,rfl⟩ | ⟨rfl,rfl⟩ | ⟨rfl,rfl⟩ | ⟨rfl,rfl⟩ | ⟨rfl,rfl⟩ | ⟨rfl,rfl⟩ | ⟨rfl,rfl⟩ | ⟨rfl,rfl⟩ | ⟨rfl,rfl⟩ | ⟨rfl,rfl⟩ | ⟨rfl,rfl⟩ | ⟨rfl,rfl⟩ | ⟨rfl,rfl⟩ | ⟨rfl,rfl⟩ | ⟨rfl,rfl⟩ | ⟨rfl,rfl⟩ | ⟨rfl,rfl⟩ | ⟨rfl,rfl⟩ | ⟨rfl,rfl⟩ | ⟨rfl,rfl⟩ | ⟨rfl,rfl⟩ | ⟨rfl,rfl⟩ | ⟨rfl,rfl⟩ | ⟨rfl,rfl⟩ | ⟨rfl,rfl⟩ | ⟨rfl,rfl⟩ | ⟨rfl,rfl⟩ | ⟨rfl,rfl⟩ | ⟨rfl,rfl⟩ | ⟨rfl,rfl⟩ | ⟨rfl,rfl⟩ | ⟨rfl,rfl⟩ | ⟨rfl,rfl⟩ | ⟨rfl,rfl⟩ | ⟨rfl,rfl⟩ | ⟨rfl,rfl⟩ | ⟨rfl,rfl⟩ | ⟨rfl,rfl⟩ | ⟨rfl,rfl⟩ | ⟨rfl,rfl⟩ | ⟨rfl,rfl⟩ | ⟨rfl,rfl⟩ | ⟨rfl,rfl⟩ | ⟨rfl,rfl⟩
 ·exact ty2
 ·exact ty3
 ·exact ty4
 ·exact ty5
 ·exact ty6
 ·exact ty7
 ·exact ty8
 ·exact ty9
 ·exact Yej
 ·exact Yek
 ·exact Yel
 ·exact Yem
 ·exact Yen
 ·exact Yeo
 ·exact Yep
 ·exact Yeq
 ·exact Yer
 ·exact Yes
 ·exact Yet
 ·exact Yeu
 ·exact Yev
 ·exact Yew
 ·exact Yex
 ·exact Yey
 ·exact Yez
 ·exact Ye0
 ·exact Ye1
 ·exact Ye2
 ·exact Ye3
 ·exact Ye4
 ·exact Ye5
 ·exact Ye6
 ·exact Ye7
 ·exact Ye8
 ·exact Ye9
 ·exact Yfa
 ·exact Yfb
 ·exact Yfc
 ·exact Yfd
 ·exact Yfe
 ·exact Yff
 ·exact Yfg
 ·exact Yfh
 ·exact Yfi
 ·exact Ydq
 ·exact Ydr
 ·exact Yds
 ·exact Ydt
 ·exact Ydu
 ·exact Ydv
 ·exact Ydw
 ·exact Ydx
 ·exact Ydy
 ·exact Ydz
 ·exact Yd0
 exact Yd1
theorem Z56:Kc 2=some ⟨.int .i64,1,8,[.int .i64 0],false⟩:=rfl
theorem Zz4:Kc 3=some ⟨.int .i64,1,8,[.int .i64 0],false⟩:=rfl
theorem Z57:Kc 4=some ⟨.bool,1,1,[.bool false],false⟩:=rfl
theorem Z58:Kc 5=some ⟨.int .u8,1,1,[.int .u8 0],false⟩:=rfl
theorem Z59:Kc 6=some ⟨.int .u8,1,1,[.int .u8 0],false⟩:=rfl
theorem Z6a:Kc 7=some ⟨.struct [(0,2),(1,3),(2,4),(3,6)],4,24,[.int .i64 0,.int .i64 0,.bool false,.int .u8 0],false⟩:=rfl
theorem Z6b:Kc 8=some ⟨.struct [(0,2),(1,3),(2,4),(3,6)],4,24,[.int .i64 0,.int .i64 0,.bool false,.int .u8 0],false⟩:=rfl
theorem Z6c:Kc 9=some ⟨.str,1,16,[.string ByteArray.empty],false⟩:=rfl
theorem Zxk:Kc 10=some ⟨.str,1,16,[.string ByteArray.empty],false⟩:=rfl
theorem Zxl:Kc 11=some ⟨.str,1,16,[.string ByteArray.empty],false⟩:=rfl
theorem Zxm:Kc 12=some ⟨.int .u64,1,8,[.int .u64 0],false⟩:=rfl
theorem Zxn:Kc 13=some ⟨.struct [(0,9),(1,12)],2,24,[.string ByteArray.empty,.int .u64 0],false⟩:=rfl
theorem Zxo:Kc 14=some ⟨.struct [(0,9),(1,12)],2,24,[.string ByteArray.empty,.int .u64 0],false⟩:=rfl
theorem Zxp:Kc 15=some ⟨.ptr 128,1,8,[.pointer none],false⟩:=rfl
theorem Zxq:Kc 16=some ⟨.ptr 131,1,8,[.pointer none],false⟩:=rfl
theorem Zxr:Kc 17=some ⟨.ptr 139,1,8,[.pointer none],false⟩:=rfl
theorem Zxs:Kc 18=some ⟨.struct [(0,17)],1,8,[.pointer none],false⟩:=rfl
theorem Zxt:Kc 19=some ⟨.struct [(0,17)],1,8,[.pointer none],false⟩:=rfl
theorem Zxu:Kc 21=some ⟨.int .i32,1,4,[.int .i32 0],false⟩:=rfl
theorem Zdq:Kc 22=some ⟨.slice 44,1,24,[.slice none 0 0],false⟩:=rfl
theorem Ztt:Kc 23=some ⟨.slice 25,1,24,[.slice none 0 0],false⟩:=rfl
theorem Zxv:Kc 24=some ⟨.struct [(0,3),(1,22),(2,23)],3,56,[.int .i64 0,.slice none 0 0,.slice none 0 0],false⟩:=rfl
theorem Uo:Kc 25=some ⟨.struct [(0,3),(1,22),(2,23)],3,56,[.int .i64 0,.slice none 0 0,.slice none 0 0],false⟩:=rfl
theorem Zxw:Kc 28=some ⟨.ptr 62,1,8,[.pointer none],false⟩:=rfl
theorem Zxx:Kc 32=some ⟨.int .i64,1,8,[.int .i64 0],false⟩:=rfl
theorem Zxy:Kc 36=some ⟨.slice 22,1,24,[.slice none 0 0],false⟩:=rfl
theorem Zxz:Kc 38=some ⟨.struct [(0,3),(1,3),(2,3),(3,3)],4,32,[.int .i64 0,.int .i64 0,.int .i64 0,.int .i64 0],false⟩:=rfl
theorem Zx0:Kc 39=some ⟨.struct [(0,3),(1,3),(2,3),(3,3)],4,32,[.int .i64 0,.int .i64 0,.int .i64 0,.int .i64 0],true⟩:=rfl
theorem Zap:Kc 44=some ⟨.int .u64,1,8,[.int .u64 0],false⟩:=rfl
theorem Zx1:Kc 47=some ⟨.struct [(0,28)],1,8,[.pointer none],false⟩:=rfl
theorem Zx2:Kc 48=some ⟨.struct [(0,28)],1,8,[.pointer none],false⟩:=rfl
theorem Zx3:Kc 55=some ⟨.struct [(0,28),(1,3),(2,3),(3,3),(4,3),(5,3),(6,3),(7,3),(8,3)],9,72,[.pointer none,.int .i64 0,.int .i64 0,.int .i64 0,.int .i64 0,.int .i64 0,.int .i64 0,.int .i64 0,.int .i64 0],false⟩:=rfl
theorem Zx4:Kc 56=some ⟨.struct [(0,28),(1,3),(2,3),(3,3),(4,3),(5,3),(6,3),(7,3),(8,3)],9,72,[.pointer none,.int .i64 0,.int .i64 0,.int .i64 0,.int .i64 0,.int .i64 0,.int .i64 0,.int .i64 0,.int .i64 0],false⟩:=rfl
theorem Zx5:Kc 61=some ⟨.struct [(0,36),(1,3),(2,3)],3,40,[.slice none 0 0,.int .i64 0,.int .i64 0],false⟩:=rfl
theorem Zx6:Kc 62=some ⟨.struct [(0,36),(1,3),(2,3)],3,40,[.slice none 0 0,.int .i64 0,.int .i64 0],false⟩:=rfl
theorem Zx7:Kc 68=some ⟨.struct [(0,3),(1,3),(2,3),(3,3),(4,3),(5,3),(6,3),(7,4)],8,64,[.int .i64 0,.int .i64 0,.int .i64 0,.int .i64 0,.int .i64 0,.int .i64 0,.int .i64 0,.bool false],false⟩:=rfl
theorem Zx8:Kc 69=some ⟨.struct [(0,3),(1,3),(2,3),(3,3),(4,3),(5,3),(6,3),(7,4)],8,64,[.int .i64 0,.int .i64 0,.int .i64 0,.int .i64 0,.int .i64 0,.int .i64 0,.int .i64 0,.bool false],true⟩:=rfl
theorem Zx9:Kc 76=some ⟨.struct [(0,3)],1,8,[.int .i64 0],false⟩:=rfl
theorem Zya:Kc 77=some ⟨.struct [(0,3)],1,8,[.int .i64 0],true⟩:=rfl
theorem Zyb:Kc 80=some ⟨.struct [(0,3)],1,8,[.int .i64 0],false⟩:=rfl
theorem Zyc:Kc 81=some ⟨.struct [(0,3)],1,8,[.int .i64 0],true⟩:=rfl
theorem Zyd:Kc 92=some ⟨.ptr 77,1,8,[.pointer none],false⟩:=rfl
theorem Zye:Kc 95=some ⟨.struct [(0,69),(8,3),(9,3)],10,80,[.int .i64 0,.int .i64 0,.int .i64 0,.int .i64 0,.int .i64 0,.int .i64 0,.int .i64 0,.bool false,.int .i64 0,.int .i64 0],false⟩:=rfl
theorem Zyf:Kc 96=some ⟨.struct [(0,69),(8,3),(9,3)],10,80,[.int .i64 0,.int .i64 0,.int .i64 0,.int .i64 0,.int .i64 0,.int .i64 0,.int .i64 0,.bool false,.int .i64 0,.int .i64 0],true⟩:=rfl
theorem Zsn:Kc 100=some ⟨.ptr 81,1,8,[.pointer none],false⟩:=rfl
theorem Zso:Kc 105=some ⟨.arr 7 3,7,56,[.int .i64 0,.int .i64 0,.int .i64 0,.int .i64 0,.int .i64 0,.int .i64 0,.int .i64 0],true⟩:=rfl
theorem Zsp:Kc 121=some ⟨.int .u64,1,8,[.int .u64 0],false⟩:=rfl
theorem Zsq:Kc 124=some ⟨.arr 6 3,6,48,[.int .i64 0,.int .i64 0,.int .i64 0,.int .i64 0,.int .i64 0,.int .i64 0],true⟩:=rfl
theorem Zsr:Kc 125=some ⟨.int .u32,1,4,[.int .u32 0],false⟩:=rfl
theorem Zss:Kc 127=some ⟨.struct [(0,17),(1,17),(2,17),(3,9)],4,40,[.pointer none,.pointer none,.pointer none,.string ByteArray.empty],false⟩:=rfl
theorem Zst:Kc 128=some ⟨.struct [(0,17),(1,17),(2,17),(3,9)],4,40,[.pointer none,.pointer none,.pointer none,.string ByteArray.empty],false⟩:=rfl
theorem Zsu:Kc 132=some ⟨.int .u8,1,1,[.int .u8 0],false⟩:=rfl
theorem Zsv:Kc 133=some ⟨.int .u8,1,1,[.int .u8 0],false⟩:=rfl
theorem Zsw:Kc 135=some ⟨.ptr 5,1,8,[.pointer none],false⟩:=rfl
theorem Zsx:Kc 136=some ⟨.int .i32,1,4,[.int .i32 0],false⟩:=rfl
theorem Zsy:Kc 137=some ⟨.int .i32,1,4,[.int .i32 0],false⟩:=rfl
theorem Zs0:Yh Kc 2=some (.int .i64):=rfl
theorem Zs1:Yh Kc 3=some (.int .i64):=rfl
theorem Zs2:Yh Kc 4=some (.bool):=rfl
theorem Zs3:Yh Kc 5=some (.int .u8):=rfl
theorem Zs4:Yh Kc 6=some (.int .u8):=rfl
theorem Zs5:Yh Kc 7=some (.struct [(0,2),(1,3),(2,4),(3,6)]):=rfl
theorem Zs6:Yh Kc 8=some (.struct [(0,2),(1,3),(2,4),(3,6)]):=rfl
theorem Zs7:Yh Kc 9=some (.str):=rfl
theorem Zns:Yh Kc 10=some (.str):=rfl
theorem Znt:Yh Kc 11=some (.str):=rfl
theorem Znu:Yh Kc 12=some (.int .u64):=rfl
theorem Znv:Yh Kc 13=some (.struct [(0,9),(1,12)]):=rfl
theorem Znw:Yh Kc 14=some (.struct [(0,9),(1,12)]):=rfl
theorem Znx:Yh Kc 15=some (.ptr 128):=rfl
theorem Zny:Yh Kc 16=some (.ptr 131):=rfl
theorem Znz:Yh Kc 17=some (.ptr 139):=rfl
theorem Zn0:Yh Kc 18=some (.struct [(0,17)]):=rfl
theorem Zn1:Yh Kc 19=some (.struct [(0,17)]):=rfl
theorem Zn2:Yh Kc 21=some (.int .i32):=rfl
theorem Zfr:Yh Kc 22=some (.slice 44):=rfl
theorem Zhw:Yh Kc 23=some (.slice 25):=rfl
theorem Zn3:Yh Kc 24=some (.struct [(0,3),(1,22),(2,23)]):=rfl
theorem Zn4:Yh Kc 25=some (.struct [(0,3),(1,22),(2,23)]):=rfl
theorem Zhx:Yh Kc 28=some (.ptr 62):=rfl
theorem Zn5:Yh Kc 32=some (.int .i64):=rfl
theorem Zn6:Yh Kc 36=some (.slice 22):=rfl
theorem Zn7:Yh Kc 38=some (.struct [(0,3),(1,3),(2,3),(3,3)]):=rfl
theorem Zn8:Yh Kc 39=some (.struct [(0,3),(1,3),(2,3),(3,3)]):=rfl
theorem Zn9:Yh Kc 44=some (.int .u64):=rfl
theorem Zoa:Yh Kc 47=some (.struct [(0,28)]):=rfl
theorem Zob:Yh Kc 48=some (.struct [(0,28)]):=rfl
theorem Zoc:Yh Kc 55=some (.struct [(0,28),(1,3),(2,3),(3,3),(4,3),(5,3),(6,3),(7,3),(8,3)]):=rfl
theorem Zod:Yh Kc 56=some (.struct [(0,28),(1,3),(2,3),(3,3),(4,3),(5,3),(6,3),(7,3),(8,3)]):=rfl
theorem Zoe:Yh Kc 61=some (.struct [(0,36),(1,3),(2,3)]):=rfl
theorem Zof:Yh Kc 62=some (.struct [(0,36),(1,3),(2,3)]):=rfl
theorem Zog:Yh Kc 68=some (.struct [(0,3),(1,3),(2,3),(3,3),(4,3),(5,3),(6,3),(7,4)]):=rfl
theorem Zoh:Yh Kc 69=some (.struct [(0,3),(1,3),(2,3),(3,3),(4,3),(5,3),(6,3),(7,4)]):=rfl
theorem Zoi:Yh Kc 76=some (.struct [(0,3)]):=rfl
theorem Zoj:Yh Kc 77=some (.struct [(0,3)]):=rfl
theorem Zok:Yh Kc 80=some (.struct [(0,3)]):=rfl
theorem Zol:Yh Kc 81=some (.struct [(0,3)]):=rfl
theorem Zom:Yh Kc 92=some (.ptr 77):=rfl
theorem Zon:Yh Kc 95=some (.struct [(0,69),(8,3),(9,3)]):=rfl
theorem Zoo:Yh Kc 96=some (.struct [(0,69),(8,3),(9,3)]):=rfl
theorem Zjx:Yh Kc 100=some (.ptr 81):=rfl
theorem Zjy:Yh Kc 105=some (.arr 7 3):=rfl
theorem Zjz:Yh Kc 121=some (.int .u64):=rfl
theorem Zj0:Yh Kc 124=some (.arr 6 3):=rfl
theorem Zj1:Yh Kc 125=some (.int .u32):=rfl
theorem Zj2:Yh Kc 127=some (.struct [(0,17),(1,17),(2,17),(3,9)]):=rfl
theorem Zj3:Yh Kc 128=some (.struct [(0,17),(1,17),(2,17),(3,9)]):=rfl
theorem Zj4:Yh Kc 132=some (.int .u8):=rfl
theorem Zj5:Yh Kc 133=some (.int .u8):=rfl
theorem Zj6:Yh Kc 135=some (.ptr 5):=rfl
theorem Zj7:Yh Kc 136=some (.int .i32):=rfl
theorem Zj8:Yh Kc 137=some (.int .i32):=rfl
end Go.Proofs.Ytbkhdkfjabiocaa
