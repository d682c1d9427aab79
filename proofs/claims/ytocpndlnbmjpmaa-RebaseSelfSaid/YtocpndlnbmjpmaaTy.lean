/- The types of this seat's program, as its dump has them, in the ghost memory's words; no condition. -/
import Derived.Test.YtocpndlnbmjpmaaRows
import Derived.Test.YtocpndlnbmjpmaaG13
namespace Go.Proofs.Ytocpndlnbmjpmaa
open Go.RowKit
set_option linter.unusedVariables false
set_option linter.unusedSimpArgs false
theorem TyOk.of {P:Program} {t:TypeId} (k:TK) (size bytes:Nat) (zero:List Value) (z:Value) (h:(P.info? t).map (fun i=>(i.zero,i.size,i.bytes))=some (some z,size,bytes)) (hz:z.cells.toList=zero) (hu:k.ok P t) (hl:zero.length=size) (h1:zero.all Value.oneCell'=true) (eq:Bool) (he:eq=true→EqTy P t):TyOk P t ⟨k,size,bytes,zero,eq⟩:=by
 refine ⟨?_,hu,hl,fun v hv=>List.all_eq_true.1 h1 v hv,he⟩
 cases hi:P.info? t with
 | none=>rw [hi] at h;cases h
 | some i =>
  rw [hi] at h
  simp only [Option.map_some,Option.some.injEq,Prod.mk.injEq] at h
  exact ⟨i,z,rfl,h.2.1,h.2.2,h.1,hz⟩
theorem TyOk.g {P:Program} {t:TypeId} {k:TK} {size bytes:Nat} {zero:List Value} {eq:Bool} (h:(P.info? t).map (fun i=>(i.zero,i.size,i.bytes))=some (some (.agg zero.toArray),size,bytes)) (hu:k.ok P t) (he:eq=true→EqTy P t:=by intro h;cases h) (hz:(Value.agg zero.toArray).cells.toList=zero:=by rfl) (hl:zero.length=size:=by rfl) (h1:zero.all Value.oneCell'=true:=by rfl):TyOk P t ⟨k,size,bytes,zero,eq⟩ := .of k size bytes zero _ h hz hu hl h1 eq he
theorem TyOk.s {P:Program} {t:TypeId} {k:TK} {size bytes:Nat} {z:Value} {eq:Bool} (h:(P.info? t).map (fun i=>(i.zero,i.size,i.bytes))=some (some z,size,bytes)) (hu:k.ok P t) (he:eq=true→EqTy P t:=by intro h;cases h) (hz:z.cells.toList=[z]:=by rfl) (hl:[z].length=size:=by rfl) (h1:[z].all Value.oneCell'=true:=by rfl):TyOk P t ⟨k,size,bytes,[z],eq⟩ := .of k size bytes [z] _ h hz hu hl h1 eq he
theorem EqTy.m {P:Program} {t:TypeId} (h:EqTy P t):true=true→EqTy P t:=fun _=>h
theorem Zva {α:Type} {t:Nat} {i:α}:∀ (l:List (Nat×α)),l.lookup t=some i→(t,i)∈l
 | [],h=>by simp at h
 | (a,b)::l,h=>by
  rw [List.lookup_cons] at h
  split at h
  ·rename_i he
   injection h with h
   have:t=a:=by simpa using he
   subst h this
   exact .head _
  exact .tail _ (Zva l h)
def tE2:TyI:=⟨.int .i64,1,8,[.int .i64 0],false⟩
theorem ty2:TyOk Try.prog 2 tE2 := .s (by kernel_rfl) Try.underlying2
theorem ty3:TyOk Try.prog 3 tE2 := .s (by kernel_rfl) Try.underlying3
def tE4:TyI:=⟨.bool,1,1,[.bool false],false⟩
theorem ty4:TyOk Try.prog 4 tE4 := .s (by kernel_rfl) Try.underlying4
def tE5:TyI:=⟨.int .u8,1,1,[.int .u8 0],false⟩
theorem ty5:TyOk Try.prog 5 tE5 := .s (by kernel_rfl) Try.underlying5
theorem ty6:TyOk Try.prog 6 tE5 := .s (by kernel_rfl) Try.underlying6
def tE7:TyI:=⟨.struct [(0,2),(1,3),(2,4),(3,6)],4,24,[.int .i64 0,.int .i64 0,.bool false,.int .u8 0],false⟩
theorem ty7:TyOk Try.prog 7 tE7 := .g (by kernel_rfl) ⟨_,Try.underlying7,rfl⟩
theorem ty8:TyOk Try.prog 8 tE7 := .g (by kernel_rfl) ⟨_,Try.underlying8,rfl⟩
def tE9:TyI:=⟨.str,1,16,[.string ByteArray.empty],false⟩
theorem ty9:TyOk Try.prog 9 tE9 := .s (by kernel_rfl) Try.underlying9
theorem Yef:TyOk Try.prog 10 tE9 := .s (by kernel_rfl) Try.underlying10
theorem Yeg:TyOk Try.prog 11 tE9 := .s (by kernel_rfl) Try.underlying11
def Z9q:TyI:=⟨.int .u64,1,8,[.int .u64 0],false⟩
theorem Yeh:TyOk Try.prog 12 Z9q := .s (by kernel_rfl) Try.underlying12
def Z9r:TyI:=⟨.struct [(0,9),(1,12)],2,24,[.string ByteArray.empty,.int .u64 0],false⟩
theorem Yei:TyOk Try.prog 13 Z9r := .g (by kernel_rfl) ⟨_,Try.underlying13,rfl⟩
theorem Yej:TyOk Try.prog 14 Z9r := .g (by kernel_rfl) ⟨_,Try.underlying14,rfl⟩
def Ycu:TyI:=⟨.ptr 130,1,8,[.pointer none],false⟩
theorem Yek:TyOk Try.prog 15 Ycu := .s (by kernel_rfl) Try.underlying15
def Ycv:TyI:=⟨.ptr 133,1,8,[.pointer none],false⟩
theorem Yel:TyOk Try.prog 16 Ycv := .s (by kernel_rfl) Try.underlying16
def Ycw:TyI:=⟨.ptr 143,1,8,[.pointer none],false⟩
theorem Yem:TyOk Try.prog 17 Ycw := .s (by kernel_rfl) Try.underlying17
def Z9s:TyI:=⟨.struct [(0,17)],1,8,[.pointer none],false⟩
theorem Yen:TyOk Try.prog 18 Z9s := .g (by kernel_rfl) ⟨_,Try.underlying18,rfl⟩
theorem Yeo:TyOk Try.prog 19 Z9s := .g (by kernel_rfl) ⟨_,Try.underlying19,rfl⟩
def Z5v:TyI:=⟨.int .i32,1,4,[.int .i32 0],false⟩
theorem Yep:TyOk Try.prog 21 Z5v := .s (by kernel_rfl) Try.underlying21
def Ycx:TyI:=⟨.slice 39,1,24,[.slice none 0 0],false⟩
theorem Yeq:TyOk Try.prog 22 Ycx := .s (by kernel_rfl) Try.underlying22
def Ycy:TyI:=⟨.slice 25,1,24,[.slice none 0 0],false⟩
theorem Yer:TyOk Try.prog 23 Ycy := .s (by kernel_rfl) Try.underlying23
def Z9t:TyI:=⟨.struct [(0,3),(1,22),(2,23)],3,56,[.int .i64 0,.slice none 0 0,.slice none 0 0],false⟩
theorem Yes:TyOk Try.prog 24 Z9t := .g (by kernel_rfl) ⟨_,Try.underlying24,rfl⟩
theorem Yet:TyOk Try.prog 25 Z9t := .g (by kernel_rfl) ⟨_,Try.underlying25,rfl⟩
def Ycz:TyI:=⟨.slice 48,1,24,[.slice none 0 0],false⟩
theorem Yeu:TyOk Try.prog 26 Ycz := .s (by kernel_rfl) Try.underlying26
def Yc0:TyI:=⟨.slice 50,1,24,[.slice none 0 0],false⟩
theorem Yev:TyOk Try.prog 27 Yc0 := .s (by kernel_rfl) Try.underlying27
def Yc1:TyI:=⟨.slice 41,1,24,[.slice none 0 0],false⟩
theorem Yew:TyOk Try.prog 28 Yc1 := .s (by kernel_rfl) Try.underlying28
def Z9u:TyI:=⟨.struct [(0,3),(1,25),(4,25),(7,26),(8,27),(9,3),(10,28)],11,200,[.int .i64 0,.int .i64 0,.slice none 0 0,.slice none 0 0,.int .i64 0,.slice none 0 0,.slice none 0 0,.slice none 0 0,.slice none 0 0,.int .i64 0,.slice none 0 0],false⟩
theorem Yex:TyOk Try.prog 29 Z9u := .g (by kernel_rfl) ⟨_,Try.underlying29,rfl⟩
theorem Yey:TyOk Try.prog 30 Z9u := .g (by kernel_rfl) ⟨_,Try.underlying30,rfl⟩
theorem Yez:TyOk Try.prog 33 tE2 := .s (by kernel_rfl) Try.underlying33
theorem Ye0:TyOk Try.prog 39 Z9q := .s (by kernel_rfl) Try.underlying39
def Z9v:TyI:=⟨.struct [(0,3),(1,3),(2,23),(3,30)],14,240,[.int .i64 0,.int .i64 0,.slice none 0 0,.int .i64 0,.int .i64 0,.slice none 0 0,.slice none 0 0,.int .i64 0,.slice none 0 0,.slice none 0 0,.slice none 0 0,.slice none 0 0,.int .i64 0,.slice none 0 0],false⟩
theorem Ye1:TyOk Try.prog 40 Z9v := .g (by kernel_rfl) ⟨_,Try.underlying40,rfl⟩
theorem Ye2:TyOk Try.prog 41 Z9v := .g (by kernel_rfl) ⟨_,Try.underlying41,rfl⟩
def Yc2:TyI:=⟨.struct [(0,4),(1,4)],2,2,[.bool false,.bool false],false⟩
theorem Ye3:TyOk Try.prog 42 Yc2 := .g (by kernel_rfl) ⟨_,Try.underlying42,rfl⟩
def Yc3:TyI:=⟨.struct [(0,4),(1,4)],2,2,[.bool false,.bool false],true⟩
theorem Ye4:TyOk Try.prog 43 Yc3 := .g (by kernel_rfl) ⟨_,Try.underlying43,rfl⟩ (fun _=>by unfold EqTy;exact ⟨by kernel_rfl,by kernel_rfl,by kernel_rfl⟩)
def Yc4:TyI:=⟨.struct [(0,3),(1,5),(2,39),(3,39)],4,32,[.int .i64 0,.int .u8 0,.int .u64 0,.int .u64 0],false⟩
theorem Ye5:TyOk Try.prog 47 Yc4 := .g (by kernel_rfl) ⟨_,Try.underlying47,rfl⟩
def Yc5:TyI:=⟨.struct [(0,3),(1,5),(2,39),(3,39)],4,32,[.int .i64 0,.int .u8 0,.int .u64 0,.int .u64 0],true⟩
theorem Ye6:TyOk Try.prog 48 Yc5 := .g (by kernel_rfl) ⟨_,Try.underlying48,rfl⟩ (fun _=>by unfold EqTy;exact ⟨by kernel_rfl,by kernel_rfl,by kernel_rfl⟩)
def Z9w:TyI:=⟨.struct [(0,3),(1,30)],12,208,[.int .i64 0,.int .i64 0,.int .i64 0,.slice none 0 0,.slice none 0 0,.int .i64 0,.slice none 0 0,.slice none 0 0,.slice none 0 0,.slice none 0 0,.int .i64 0,.slice none 0 0],false⟩
theorem Ye7:TyOk Try.prog 49 Z9w := .g (by kernel_rfl) ⟨_,Try.underlying49,rfl⟩
theorem Ye8:TyOk Try.prog 50 Z9w := .g (by kernel_rfl) ⟨_,Try.underlying50,rfl⟩
def Yc6:TyI:=⟨.ptr 43,1,8,[.pointer none],false⟩
theorem Ye9:TyOk Try.prog 61 Yc6 := .s (by kernel_rfl) Try.underlying61
def Yc7:TyI:=⟨.ptr 85,1,8,[.pointer none],false⟩
theorem Yfa:TyOk Try.prog 74 Yc7 := .s (by kernel_rfl) Try.underlying74
def Yc8:TyI:=⟨.slice 83,1,24,[.slice none 0 0],false⟩
theorem Yfb:TyOk Try.prog 79 Yc8 := .s (by kernel_rfl) Try.underlying79
def Z9x:TyI:=⟨.struct [(0,3),(1,41),(15,41)],29,488,[.int .i64 0,.int .i64 0,.int .i64 0,.slice none 0 0,.int .i64 0,.int .i64 0,.slice none 0 0,.slice none 0 0,.int .i64 0,.slice none 0 0,.slice none 0 0,.slice none 0 0,.slice none 0 0,.int .i64 0,.slice none 0 0,.int .i64 0,.int .i64 0,.slice none 0 0,.int .i64 0,.int .i64 0,.slice none 0 0,.slice none 0 0,.int .i64 0,.slice none 0 0,.slice none 0 0,.slice none 0 0,.slice none 0 0,.int .i64 0,.slice none 0 0],false⟩
theorem Yfc:TyOk Try.prog 82 Z9x := .g (by kernel_rfl) ⟨_,Try.underlying82,rfl⟩
theorem Yfd:TyOk Try.prog 83 Z9x := .g (by kernel_rfl) ⟨_,Try.underlying83,rfl⟩
def Z9y:TyI:=⟨.struct [(0,61),(1,30),(12,23)],13,232,[.pointer none,.int .i64 0,.int .i64 0,.slice none 0 0,.slice none 0 0,.int .i64 0,.slice none 0 0,.slice none 0 0,.slice none 0 0,.slice none 0 0,.int .i64 0,.slice none 0 0,.slice none 0 0],false⟩
theorem Yfe:TyOk Try.prog 84 Z9y := .g (by kernel_rfl) ⟨_,Try.underlying84,rfl⟩
theorem Yff:TyOk Try.prog 85 Z9y := .g (by kernel_rfl) ⟨_,Try.underlying85,rfl⟩
def Z9z:TyI:=⟨.struct [(0,28),(1,3),(2,23),(3,23)],4,80,[.slice none 0 0,.int .i64 0,.slice none 0 0,.slice none 0 0],false⟩
theorem Yfg:TyOk Try.prog 89 Z9z := .g (by kernel_rfl) ⟨_,Try.underlying89,rfl⟩
theorem Yfh:TyOk Try.prog 90 Z9z := .g (by kernel_rfl) ⟨_,Try.underlying90,rfl⟩
def Yc9:TyI:=⟨.ptr 23,1,8,[.pointer none],false⟩
theorem Yfi:TyOk Try.prog 93 Yc9 := .s (by kernel_rfl) Try.underlying93
def Yda:TyI:=⟨.arr 8 5,8,8,[.int .u8 0,.int .u8 0,.int .u8 0,.int .u8 0,.int .u8 0,.int .u8 0,.int .u8 0,.int .u8 0],true⟩
theorem Yfj:TyOk Try.prog 96 Yda := .g (by kernel_rfl) Try.underlying96 (fun _=>by unfold EqTy;exact ⟨by kernel_rfl,by kernel_rfl,by kernel_rfl⟩)
def Yak:TyI:=⟨.slice 5,1,24,[.slice none 0 0],false⟩
theorem Ydc:TyOk Try.prog 100 Yak := .s (by kernel_rfl) Try.underlying100
def Yal:TyI:=⟨.ptr 90,1,8,[.pointer none],false⟩
theorem Ydd:TyOk Try.prog 109 Yal := .s (by kernel_rfl) Try.underlying109
def Z4f:TyI:=⟨.struct [(0,28),(1,3)],2,32,[.slice none 0 0,.int .i64 0],false⟩
theorem Yde:TyOk Try.prog 112 Z4f := .g (by kernel_rfl) ⟨_,Try.underlying112,rfl⟩
theorem Ydf:TyOk Try.prog 113 Z4f := .g (by kernel_rfl) ⟨_,Try.underlying113,rfl⟩
def Yam:TyI:=⟨.ptr 25,1,8,[.pointer none],false⟩
theorem Ydg:TyOk Try.prog 120 Yam := .s (by kernel_rfl) Try.underlying120
def Z4g:TyI:=⟨.struct [(0,23),(1,23)],2,48,[.slice none 0 0,.slice none 0 0],false⟩
theorem Ydh:TyOk Try.prog 123 Z4g := .g (by kernel_rfl) ⟨_,Try.underlying123,rfl⟩
theorem Ydi:TyOk Try.prog 124 Z4g := .g (by kernel_rfl) ⟨_,Try.underlying124,rfl⟩
def Yan:TyI:=⟨.ptr 113,1,8,[.pointer none],false⟩
theorem Ydj:TyOk Try.prog 125 Yan := .s (by kernel_rfl) Try.underlying125
def Yao:TyI:=⟨.ptr 124,1,8,[.pointer none],false⟩
theorem Ydk:TyOk Try.prog 127 Yao := .s (by kernel_rfl) Try.underlying127
def Z4h:TyI:=⟨.struct [(0,17),(1,17),(2,17),(3,9)],4,40,[.pointer none,.pointer none,.pointer none,.string ByteArray.empty],false⟩
theorem Ydl:TyOk Try.prog 129 Z4h := .g (by kernel_rfl) ⟨_,Try.underlying129,rfl⟩
theorem Ydm:TyOk Try.prog 130 Z4h := .g (by kernel_rfl) ⟨_,Try.underlying130,rfl⟩
def Yap:TyI:=⟨.int .u32,1,4,[.int .u32 0],false⟩
theorem Ydn:TyOk Try.prog 135 Yap := .s (by kernel_rfl) Try.underlying135
theorem Ydo:TyOk Try.prog 136 tE5 := .s (by kernel_rfl) Try.underlying136
theorem Ydp:TyOk Try.prog 137 tE5 := .s (by kernel_rfl) Try.underlying137
def Yaq:TyI:=⟨.ptr 5,1,8,[.pointer none],false⟩
theorem Ydq:TyOk Try.prog 139 Yaq := .s (by kernel_rfl) Try.underlying139
theorem Ydr:TyOk Try.prog 140 Z5v := .s (by kernel_rfl) Try.underlying140
theorem Yds:TyOk Try.prog 141 Z5v := .s (by kernel_rfl) Try.underlying141
def tabL:List (Nat×TyI):=[(2,tE2),(3,tE2),(4,tE4),(5,tE5),(6,tE5),(7,tE7),(8,tE7),(9,tE9),(10,tE9),(11,tE9),(12,Z9q),(13,Z9r),(14,Z9r),(15,Ycu),(16,Ycv),(17,Ycw),(18,Z9s),(19,Z9s),(21,Z5v),(22,Ycx),(23,Ycy),(24,Z9t),(25,Z9t),(26,Ycz),(27,Yc0),(28,Yc1),(29,Z9u),(30,Z9u),(33,tE2),(39,Z9q),(40,Z9v),(41,Z9v),(42,Yc2),(43,Yc3),(47,Yc4),(48,Yc5),(49,Z9w),(50,Z9w),(61,Yc6),(74,Yc7),(79,Yc8),(82,Z9x),(83,Z9x),(84,Z9y),(85,Z9y),(89,Z9z),(90,Z9z),(93,Yc9),(96,Yda),(100,Yak),(109,Yal),(112,Z4f),(113,Z4f),(120,Yam),(123,Z4g),(124,Z4g),(125,Yan),(127,Yao),(129,Z4h),(130,Z4h),(135,Yap),(136,tE5),(137,tE5),(139,Yaq),(140,Z5v),(141,Z5v)]
def Ko:V3:=fun t=>tabL.lookup t
theorem Z0:Jk Try.prog Ko:=fun t i h=>by
 have hm:=Zva _ h
 unfold tabL at hm
 simp only [List.mem_cons,Prod.mk.injEq,List.not_mem_nil,or_false] at hm
 rcases hm with ⟨rfl,rfl⟩ | ⟨rfl,rfl⟩ | ⟨rfl,rfl⟩ | ⟨rfl,rfl⟩ | ⟨rfl,rfl⟩ | ⟨rfl,rfl⟩ | ⟨rfl,rfl⟩ | ⟨rfl,rfl⟩ | ⟨rfl,rfl⟩ | ⟨rfl,rfl⟩ | ⟨rfl,rfl⟩ | ⟨rfl,rfl⟩ | ⟨rfl,rfl⟩ | ⟨rfl,rfl⟩ | ⟨rfl,rfl⟩ | ⟨rfl,rfl⟩ | ⟨rfl,rfl⟩ | ⟨rfl,rfl⟩ | ⟨rfl,rfl⟩ | ⟨rfl,rfl⟩ | ⟨rfl,rfl⟩ | ⟨rfl,rfl⟩ | ⟨rfl,rfl⟩ | ⟨rfl,rfl⟩ | ⟨rfl,rfl⟩ | ⟨rfl,rfl⟩ | ⟨rfl,rfl⟩ | ⟨rfl,rfl⟩ | ⟨rfl,rfl⟩ | ⟨rfl,rfl⟩ | ⟨rfl,rfl⟩ | ⟨rfl,rfl⟩ | ⟨rfl,rfl⟩ | ⟨rfl,rfl⟩ | ⟨rfl,rfl⟩ | ⟨rfl,rfl⟩ | ⟨rfl,rfl⟩ | ⟨rfl,rfl⟩ | ⟨rfl,rfl⟩ | ⟨rfl,rfl⟩ | ⟨rfl,rfl⟩ | ⟨rfl,rfl⟩ | ⟨rfl,rfl⟩ | ⟨rfl,rfl⟩ | ⟨rfl,rfl⟩ | ⟨rfl,rfl⟩ | ⟨rfl,rfl⟩ | ⟨rfl,rfl⟩ | ⟨rfl,rfl⟩ | ⟨rfl,rfl⟩ | ⟨rfl,rfl⟩ | ⟨rfl,rfl⟩ | ⟨rfl,rfl⟩ | ⟨rfl,rfl⟩ | ⟨rfl,rfl⟩ | ⟨rfl,rfl⟩ | ⟨rfl,rfl⟩ | ⟨rfl,rfl⟩ | ⟨rfl,rfl⟩ | ⟨rfl,rfl⟩ | ⟨rfl,rfl⟩ | ⟨rfl,rfl⟩ | ⟨rfl,rfl⟩ | ⟨rfl,rfl⟩ | ⟨rfl,rfl⟩ | ⟨rfl,rfl⟩
 ·exact ty2
 ·exact ty3
 ·exact ty4
 ·exact ty5
 ·exact ty6
 ·exact ty7
 ·exact ty8
 ·exact ty9
 ·exact Yef
 ·exact Yeg
 ·exact Yeh
 ·exact Yei
 ·exact Yej
 ·exact Yek
 ·exact Yel
 ·exact Yem
 ·exact Yen
 ·exact Yeo
 ·exact Yep
 ·exact Yeq
 ·exact Yer
 ·exact Yes
 ·exact Yet
 ·exact Yeu
 ·exact Yev
 ·exact Yew
 ·exact Yex
 ·exact Yey
 ·exact Yez
 ·exact Ye0
 ·exact Ye1
 ·exact Ye2
 ·exact Ye3
 ·exact Ye4
 ·exact Ye5
 ·exact Ye6
 ·exact Ye7
 ·exact Ye8
 ·exact Ye9
 ·exact Yfa
 ·exact Yfb
 ·exact Yfc
 ·exact Yfd
 ·exact Yfe
 ·exact Yff
 ·exact Yfg
 ·exact Yfh
 ·exact Yfi
 ·exact Yfj
 ·exact Ydc
 ·exact Ydd
 ·exact Yde
 ·exact Ydf
 ·exact Ydg
 ·exact Ydh
 ·exact Ydi
 ·exact Ydj
 ·exact Ydk
 ·exact Ydl
 ·exact Ydm
 ·exact Ydn
 ·exact Ydo
 ·exact Ydp
 ·exact Ydq
 ·exact Ydr
 exact Yds
theorem Z8a:Ko 2=some ⟨.int .i64,1,8,[.int .i64 0],false⟩:=rfl
theorem Zfa:Ko 3=some ⟨.int .i64,1,8,[.int .i64 0],false⟩:=rfl
theorem Z8b:Ko 4=some ⟨.bool,1,1,[.bool false],false⟩:=rfl
theorem Zxn:Ko 5=some ⟨.int .u8,1,1,[.int .u8 0],false⟩:=rfl
theorem Z8c:Ko 6=some ⟨.int .u8,1,1,[.int .u8 0],false⟩:=rfl
theorem Z8d:Ko 7=some ⟨.struct [(0,2),(1,3),(2,4),(3,6)],4,24,[.int .i64 0,.int .i64 0,.bool false,.int .u8 0],false⟩:=rfl
theorem Z8e:Ko 8=some ⟨.struct [(0,2),(1,3),(2,4),(3,6)],4,24,[.int .i64 0,.int .i64 0,.bool false,.int .u8 0],false⟩:=rfl
theorem Z8f:Ko 9=some ⟨.str,1,16,[.string ByteArray.empty],false⟩:=rfl
theorem Z02:Ko 10=some ⟨.str,1,16,[.string ByteArray.empty],false⟩:=rfl
theorem Z03:Ko 11=some ⟨.str,1,16,[.string ByteArray.empty],false⟩:=rfl
theorem Z04:Ko 12=some ⟨.int .u64,1,8,[.int .u64 0],false⟩:=rfl
theorem Z05:Ko 13=some ⟨.struct [(0,9),(1,12)],2,24,[.string ByteArray.empty,.int .u64 0],false⟩:=rfl
theorem Z06:Ko 14=some ⟨.struct [(0,9),(1,12)],2,24,[.string ByteArray.empty,.int .u64 0],false⟩:=rfl
theorem Z07:Ko 15=some ⟨.ptr 130,1,8,[.pointer none],false⟩:=rfl
theorem Z08:Ko 16=some ⟨.ptr 133,1,8,[.pointer none],false⟩:=rfl
theorem Z09:Ko 17=some ⟨.ptr 143,1,8,[.pointer none],false⟩:=rfl
theorem Z1a:Ko 18=some ⟨.struct [(0,17)],1,8,[.pointer none],false⟩:=rfl
theorem Z1b:Ko 19=some ⟨.struct [(0,17)],1,8,[.pointer none],false⟩:=rfl
theorem Z1c:Ko 21=some ⟨.int .i32,1,4,[.int .i32 0],false⟩:=rfl
theorem Z1d:Ko 22=some ⟨.slice 39,1,24,[.slice none 0 0],false⟩:=rfl
theorem Ztw:Ko 23=some ⟨.slice 25,1,24,[.slice none 0 0],false⟩:=rfl
theorem Z1e:Ko 24=some ⟨.struct [(0,3),(1,22),(2,23)],3,56,[.int .i64 0,.slice none 0 0,.slice none 0 0],false⟩:=rfl
theorem Zb9:Ko 25=some ⟨.struct [(0,3),(1,22),(2,23)],3,56,[.int .i64 0,.slice none 0 0,.slice none 0 0],false⟩:=rfl
theorem Z1f:Ko 26=some ⟨.slice 48,1,24,[.slice none 0 0],false⟩:=rfl
theorem Z1g:Ko 27=some ⟨.slice 50,1,24,[.slice none 0 0],false⟩:=rfl
theorem Z1h:Ko 28=some ⟨.slice 41,1,24,[.slice none 0 0],false⟩:=rfl
theorem Z1i:Ko 29=some ⟨.struct [(0,3),(1,25),(4,25),(7,26),(8,27),(9,3),(10,28)],11,200,[.int .i64 0,.int .i64 0,.slice none 0 0,.slice none 0 0,.int .i64 0,.slice none 0 0,.slice none 0 0,.slice none 0 0,.slice none 0 0,.int .i64 0,.slice none 0 0],false⟩:=rfl
theorem Zhj:Ko 30=some ⟨.struct [(0,3),(1,25),(4,25),(7,26),(8,27),(9,3),(10,28)],11,200,[.int .i64 0,.int .i64 0,.slice none 0 0,.slice none 0 0,.int .i64 0,.slice none 0 0,.slice none 0 0,.slice none 0 0,.slice none 0 0,.int .i64 0,.slice none 0 0],false⟩:=rfl
theorem Z1j:Ko 33=some ⟨.int .i64,1,8,[.int .i64 0],false⟩:=rfl
theorem Zjl:Ko 39=some ⟨.int .u64,1,8,[.int .u64 0],false⟩:=rfl
theorem Z1k:Ko 40=some ⟨.struct [(0,3),(1,3),(2,23),(3,30)],14,240,[.int .i64 0,.int .i64 0,.slice none 0 0,.int .i64 0,.int .i64 0,.slice none 0 0,.slice none 0 0,.int .i64 0,.slice none 0 0,.slice none 0 0,.slice none 0 0,.slice none 0 0,.int .i64 0,.slice none 0 0],false⟩:=rfl
theorem V2:Ko 41=some ⟨.struct [(0,3),(1,3),(2,23),(3,30)],14,240,[.int .i64 0,.int .i64 0,.slice none 0 0,.int .i64 0,.int .i64 0,.slice none 0 0,.slice none 0 0,.int .i64 0,.slice none 0 0,.slice none 0 0,.slice none 0 0,.slice none 0 0,.int .i64 0,.slice none 0 0],false⟩:=rfl
theorem Z1l:Ko 42=some ⟨.struct [(0,4),(1,4)],2,2,[.bool false,.bool false],false⟩:=rfl
theorem Z1m:Ko 43=some ⟨.struct [(0,4),(1,4)],2,2,[.bool false,.bool false],true⟩:=rfl
theorem Z1n:Ko 47=some ⟨.struct [(0,3),(1,5),(2,39),(3,39)],4,32,[.int .i64 0,.int .u8 0,.int .u64 0,.int .u64 0],false⟩:=rfl
theorem Zlm:Ko 48=some ⟨.struct [(0,3),(1,5),(2,39),(3,39)],4,32,[.int .i64 0,.int .u8 0,.int .u64 0,.int .u64 0],true⟩:=rfl
theorem Z1o:Ko 49=some ⟨.struct [(0,3),(1,30)],12,208,[.int .i64 0,.int .i64 0,.int .i64 0,.slice none 0 0,.slice none 0 0,.int .i64 0,.slice none 0 0,.slice none 0 0,.slice none 0 0,.slice none 0 0,.int .i64 0,.slice none 0 0],false⟩:=rfl
theorem Zc9:Ko 50=some ⟨.struct [(0,3),(1,30)],12,208,[.int .i64 0,.int .i64 0,.int .i64 0,.slice none 0 0,.slice none 0 0,.int .i64 0,.slice none 0 0,.slice none 0 0,.slice none 0 0,.slice none 0 0,.int .i64 0,.slice none 0 0],false⟩:=rfl
theorem Z1p:Ko 61=some ⟨.ptr 43,1,8,[.pointer none],false⟩:=rfl
theorem Z1q:Ko 74=some ⟨.ptr 85,1,8,[.pointer none],false⟩:=rfl
theorem Z1r:Ko 79=some ⟨.slice 83,1,24,[.slice none 0 0],false⟩:=rfl
theorem Z1s:Ko 82=some ⟨.struct [(0,3),(1,41),(15,41)],29,488,[.int .i64 0,.int .i64 0,.int .i64 0,.slice none 0 0,.int .i64 0,.int .i64 0,.slice none 0 0,.slice none 0 0,.int .i64 0,.slice none 0 0,.slice none 0 0,.slice none 0 0,.slice none 0 0,.int .i64 0,.slice none 0 0,.int .i64 0,.int .i64 0,.slice none 0 0,.int .i64 0,.int .i64 0,.slice none 0 0,.slice none 0 0,.int .i64 0,.slice none 0 0,.slice none 0 0,.slice none 0 0,.slice none 0 0,.int .i64 0,.slice none 0 0],false⟩:=rfl
theorem Zyc:Ko 83=some ⟨.struct [(0,3),(1,41),(15,41)],29,488,[.int .i64 0,.int .i64 0,.int .i64 0,.slice none 0 0,.int .i64 0,.int .i64 0,.slice none 0 0,.slice none 0 0,.int .i64 0,.slice none 0 0,.slice none 0 0,.slice none 0 0,.slice none 0 0,.int .i64 0,.slice none 0 0,.int .i64 0,.int .i64 0,.slice none 0 0,.int .i64 0,.int .i64 0,.slice none 0 0,.slice none 0 0,.int .i64 0,.slice none 0 0,.slice none 0 0,.slice none 0 0,.slice none 0 0,.int .i64 0,.slice none 0 0],false⟩:=rfl
theorem Z1t:Ko 84=some ⟨.struct [(0,61),(1,30),(12,23)],13,232,[.pointer none,.int .i64 0,.int .i64 0,.slice none 0 0,.slice none 0 0,.int .i64 0,.slice none 0 0,.slice none 0 0,.slice none 0 0,.slice none 0 0,.int .i64 0,.slice none 0 0,.slice none 0 0],false⟩:=rfl
theorem Z1u:Ko 85=some ⟨.struct [(0,61),(1,30),(12,23)],13,232,[.pointer none,.int .i64 0,.int .i64 0,.slice none 0 0,.slice none 0 0,.int .i64 0,.slice none 0 0,.slice none 0 0,.slice none 0 0,.slice none 0 0,.int .i64 0,.slice none 0 0,.slice none 0 0],false⟩:=rfl
theorem Z1v:Ko 89=some ⟨.struct [(0,28),(1,3),(2,23),(3,23)],4,80,[.slice none 0 0,.int .i64 0,.slice none 0 0,.slice none 0 0],false⟩:=rfl
theorem Z1w:Ko 90=some ⟨.struct [(0,28),(1,3),(2,23),(3,23)],4,80,[.slice none 0 0,.int .i64 0,.slice none 0 0,.slice none 0 0],false⟩:=rfl
theorem Z1x:Ko 93=some ⟨.ptr 23,1,8,[.pointer none],false⟩:=rfl
theorem Zwq:Ko 96=some ⟨.arr 8 5,8,8,[.int .u8 0,.int .u8 0,.int .u8 0,.int .u8 0,.int .u8 0,.int .u8 0,.int .u8 0,.int .u8 0],true⟩:=rfl
theorem Zv9:Ko 100=some ⟨.slice 5,1,24,[.slice none 0 0],false⟩:=rfl
theorem Zwa:Ko 109=some ⟨.ptr 90,1,8,[.pointer none],false⟩:=rfl
theorem Zwb:Ko 112=some ⟨.struct [(0,28),(1,3)],2,32,[.slice none 0 0,.int .i64 0],false⟩:=rfl
theorem Zwc:Ko 113=some ⟨.struct [(0,28),(1,3)],2,32,[.slice none 0 0,.int .i64 0],false⟩:=rfl
theorem Zwd:Ko 120=some ⟨.ptr 25,1,8,[.pointer none],false⟩:=rfl
theorem Zwe:Ko 123=some ⟨.struct [(0,23),(1,23)],2,48,[.slice none 0 0,.slice none 0 0],false⟩:=rfl
theorem Zwf:Ko 124=some ⟨.struct [(0,23),(1,23)],2,48,[.slice none 0 0,.slice none 0 0],false⟩:=rfl
theorem Zwg:Ko 125=some ⟨.ptr 113,1,8,[.pointer none],false⟩:=rfl
theorem Zwh:Ko 127=some ⟨.ptr 124,1,8,[.pointer none],false⟩:=rfl
theorem Zwi:Ko 129=some ⟨.struct [(0,17),(1,17),(2,17),(3,9)],4,40,[.pointer none,.pointer none,.pointer none,.string ByteArray.empty],false⟩:=rfl
theorem Zwj:Ko 130=some ⟨.struct [(0,17),(1,17),(2,17),(3,9)],4,40,[.pointer none,.pointer none,.pointer none,.string ByteArray.empty],false⟩:=rfl
theorem Zwk:Ko 135=some ⟨.int .u32,1,4,[.int .u32 0],false⟩:=rfl
theorem Zwl:Ko 136=some ⟨.int .u8,1,1,[.int .u8 0],false⟩:=rfl
theorem Zwm:Ko 137=some ⟨.int .u8,1,1,[.int .u8 0],false⟩:=rfl
theorem Zwn:Ko 139=some ⟨.ptr 5,1,8,[.pointer none],false⟩:=rfl
theorem Zwo:Ko 140=some ⟨.int .i32,1,4,[.int .i32 0],false⟩:=rfl
theorem Zwp:Ko 141=some ⟨.int .i32,1,4,[.int .i32 0],false⟩:=rfl
theorem Zwr:Y2 Ko 2=some (.int .i64):=rfl
theorem Zws:Y2 Ko 3=some (.int .i64):=rfl
theorem Zwt:Y2 Ko 4=some (.bool):=rfl
theorem Zwu:Y2 Ko 5=some (.int .u8):=rfl
theorem Zwv:Y2 Ko 6=some (.int .u8):=rfl
theorem Zww:Y2 Ko 7=some (.struct [(0,2),(1,3),(2,4),(3,6)]):=rfl
theorem Zwx:Y2 Ko 8=some (.struct [(0,2),(1,3),(2,4),(3,6)]):=rfl
theorem Zwy:Y2 Ko 9=some (.str):=rfl
theorem Zrw:Y2 Ko 10=some (.str):=rfl
theorem Zrx:Y2 Ko 11=some (.str):=rfl
theorem Zry:Y2 Ko 12=some (.int .u64):=rfl
theorem Zrz:Y2 Ko 13=some (.struct [(0,9),(1,12)]):=rfl
theorem Zr0:Y2 Ko 14=some (.struct [(0,9),(1,12)]):=rfl
theorem Zr1:Y2 Ko 15=some (.ptr 130):=rfl
theorem Zr2:Y2 Ko 16=some (.ptr 133):=rfl
theorem Zr3:Y2 Ko 17=some (.ptr 143):=rfl
theorem Zr4:Y2 Ko 18=some (.struct [(0,17)]):=rfl
theorem Zr5:Y2 Ko 19=some (.struct [(0,17)]):=rfl
theorem Zr6:Y2 Ko 21=some (.int .i32):=rfl
theorem Zma:Y2 Ko 22=some (.slice 39):=rfl
theorem Zh7:Y2 Ko 23=some (.slice 25):=rfl
theorem Zr7:Y2 Ko 24=some (.struct [(0,3),(1,22),(2,23)]):=rfl
theorem Zr8:Y2 Ko 25=some (.struct [(0,3),(1,22),(2,23)]):=rfl
theorem Zou:Y2 Ko 26=some (.slice 48):=rfl
theorem Zmb:Y2 Ko 27=some (.slice 50):=rfl
theorem Zov:Y2 Ko 28=some (.slice 41):=rfl
theorem Zr9:Y2 Ko 29=some (.struct [(0,3),(1,25),(4,25),(7,26),(8,27),(9,3),(10,28)]):=rfl
theorem Zsa:Y2 Ko 30=some (.struct [(0,3),(1,25),(4,25),(7,26),(8,27),(9,3),(10,28)]):=rfl
theorem Zsb:Y2 Ko 33=some (.int .i64):=rfl
theorem Zsc:Y2 Ko 39=some (.int .u64):=rfl
theorem Zsd:Y2 Ko 40=some (.struct [(0,3),(1,3),(2,23),(3,30)]):=rfl
theorem Zse:Y2 Ko 41=some (.struct [(0,3),(1,3),(2,23),(3,30)]):=rfl
theorem Zsf:Y2 Ko 42=some (.struct [(0,4),(1,4)]):=rfl
theorem Zsg:Y2 Ko 43=some (.struct [(0,4),(1,4)]):=rfl
theorem Zsh:Y2 Ko 47=some (.struct [(0,3),(1,5),(2,39),(3,39)]):=rfl
theorem Zsi:Y2 Ko 48=some (.struct [(0,3),(1,5),(2,39),(3,39)]):=rfl
theorem Zsj:Y2 Ko 49=some (.struct [(0,3),(1,30)]):=rfl
theorem Zsk:Y2 Ko 50=some (.struct [(0,3),(1,30)]):=rfl
theorem Zsl:Y2 Ko 61=some (.ptr 43):=rfl
theorem Zsm:Y2 Ko 74=some (.ptr 85):=rfl
theorem Zsn:Y2 Ko 79=some (.slice 83):=rfl
theorem Zso:Y2 Ko 82=some (.struct [(0,3),(1,41),(15,41)]):=rfl
theorem Zsp:Y2 Ko 83=some (.struct [(0,3),(1,41),(15,41)]):=rfl
theorem Zsq:Y2 Ko 84=some (.struct [(0,61),(1,30),(12,23)]):=rfl
theorem Zsr:Y2 Ko 85=some (.struct [(0,61),(1,30),(12,23)]):=rfl
theorem Zss:Y2 Ko 89=some (.struct [(0,28),(1,3),(2,23),(3,23)]):=rfl
theorem Zst:Y2 Ko 90=some (.struct [(0,28),(1,3),(2,23),(3,23)]):=rfl
theorem Zsu:Y2 Ko 93=some (.ptr 23):=rfl
theorem Zow:Y2 Ko 96=some (.arr 8 5):=rfl
theorem Znv:Y2 Ko 100=some (.slice 5):=rfl
theorem Znw:Y2 Ko 109=some (.ptr 90):=rfl
theorem Znx:Y2 Ko 112=some (.struct [(0,28),(1,3)]):=rfl
theorem Zny:Y2 Ko 113=some (.struct [(0,28),(1,3)]):=rfl
theorem Znz:Y2 Ko 120=some (.ptr 25):=rfl
theorem Zn0:Y2 Ko 123=some (.struct [(0,23),(1,23)]):=rfl
theorem Zn1:Y2 Ko 124=some (.struct [(0,23),(1,23)]):=rfl
theorem Zn2:Y2 Ko 125=some (.ptr 113):=rfl
theorem Zn3:Y2 Ko 127=some (.ptr 124):=rfl
theorem Zn4:Y2 Ko 129=some (.struct [(0,17),(1,17),(2,17),(3,9)]):=rfl
theorem Zn5:Y2 Ko 130=some (.struct [(0,17),(1,17),(2,17),(3,9)]):=rfl
theorem Zn6:Y2 Ko 135=some (.int .u32):=rfl
theorem Zn7:Y2 Ko 136=some (.int .u8):=rfl
theorem Zn8:Y2 Ko 137=some (.int .u8):=rfl
theorem Zn9:Y2 Ko 139=some (.ptr 5):=rfl
theorem Zoa:Y2 Ko 140=some (.int .i32):=rfl
theorem Zob:Y2 Ko 141=some (.int .i32):=rfl
end Go.Proofs.Ytocpndlnbmjpmaa
