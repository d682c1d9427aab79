/- The types of this seat's program, as its dump has them, in the ghost memory's words; no condition. -/
import Derived.Test.YtaddaloondpnkaaRows
import Derived.Test.YtaddaloondpnkaaG16
namespace Go.Proofs.Ytaddaloondpnkaa
open Go.RowKit
set_option linter.unusedVariables false
set_option linter.unusedSimpArgs false
theorem TyOk.of {P:Program} {t:TypeId} (k:TK) (size bytes:Nat) (zero:List Value) (z:Value) (h:(P.info? t).map (fun i=>(i.zero,i.size,i.bytes))=some (some z,size,bytes)) (hz:z.cells.toList=zero) (hu:k.ok P t) (hl:zero.length=size) (h1:zero.all Value.oneCell'=true) (eq:Bool) (he:eq=true→EqTy P t):TyOk P t ⟨k,size,bytes,zero,eq⟩:=by
 refine ⟨?_,hu,hl,fun v hv=>List.all_eq_true.1 h1 v hv,he⟩
 cases hi:P.info? t with
 | none=>rw [hi] at h;cases h
 | some i =>
  rw [hi] at h
  simp only [Option.map_some,Option.some.injEq,Prod.mk.injEq] at h
  exact ⟨i,z,rfl,h.2.1,h.2.2,h.1,hz⟩
theorem TyOk.g {P:Program} {t:TypeId} {k:TK} {size bytes:Nat} {zero:List Value} {eq:Bool} (h:(P.info? t).map (fun i=>(i.zero,i.size,i.bytes))=some (some (.agg zero.toArray),size,bytes)) (hu:k.ok P t) (he:eq=true→EqTy P t:=by intro h;cases h) (hz:(Value.agg zero.toArray).cells.toList=zero:=by rfl) (hl:zero.length=size:=by rfl) (h1:zero.all Value.oneCell'=true:=by rfl):TyOk P t ⟨k,size,bytes,zero,eq⟩ := .of k size bytes zero _ h hz hu hl h1 eq he
theorem TyOk.s {P:Program} {t:TypeId} {k:TK} {size bytes:Nat} {z:Value} {eq:Bool} (h:(P.info? t).map (fun i=>(i.zero,i.size,i.bytes))=some (some z,size,bytes)) (hu:k.ok P t) (he:eq=true→EqTy P t:=by intro h;cases h) (hz:z.cells.toList=[z]:=by rfl) (hl:[z].length=size:=by rfl) (h1:[z].all Value.oneCell'=true:=by rfl):TyOk P t ⟨k,size,bytes,[z],eq⟩ := .of k size bytes [z] _ h hz hu hl h1 eq he
theorem EqTy.m {P:Program} {t:TypeId} (h:EqTy P t):true=true→EqTy P t:=fun _=>h
theorem Zrr {α:Type} {t:Nat} {i:α}:∀ (l:List (Nat×α)),l.lookup t=some i→(t,i)∈l
 | [],h=>by simp at h
 | (a,b)::l,h=>by
  rw [List.lookup_cons] at h
  split at h
  ·rename_i he
   injection h with h
   have:t=a:=by simpa using he
   subst h this
   exact .head _
  exact .tail _ (Zrr l h)
def tE2:TyI:=⟨.int .i64,1,8,[.int .i64 0],false⟩
theorem ty2:TyOk Try.prog 2 tE2 := .s (by kernel_rfl) Try.underlying2
theorem ty3:TyOk Try.prog 3 tE2 := .s (by kernel_rfl) Try.underlying3
def tE4:TyI:=⟨.bool,1,1,[.bool false],false⟩
theorem ty4:TyOk Try.prog 4 tE4 := .s (by kernel_rfl) Try.underlying4
def tE5:TyI:=⟨.int .u8,1,1,[.int .u8 0],false⟩
theorem ty5:TyOk Try.prog 5 tE5 := .s (by kernel_rfl) Try.underlying5
theorem ty6:TyOk Try.prog 6 tE5 := .s (by kernel_rfl) Try.underlying6
def tE7:TyI:=⟨.struct [(0,2),(1,3),(2,4),(3,6)],4,24,[.int .i64 0,.int .i64 0,.bool false,.int .u8 0],false⟩
theorem ty7:TyOk Try.prog 7 tE7 := .g (by kernel_rfl) ⟨_,Try.underlying7,rfl⟩
theorem ty8:TyOk Try.prog 8 tE7 := .g (by kernel_rfl) ⟨_,Try.underlying8,rfl⟩
def tE9:TyI:=⟨.str,1,16,[.string ByteArray.empty],false⟩
theorem ty9:TyOk Try.prog 9 tE9 := .s (by kernel_rfl) Try.underlying9
theorem Z8l:TyOk Try.prog 10 tE9 := .s (by kernel_rfl) Try.underlying10
theorem Z8m:TyOk Try.prog 11 tE9 := .s (by kernel_rfl) Try.underlying11
def Z04:TyI:=⟨.int .u64,1,8,[.int .u64 0],false⟩
theorem Z8n:TyOk Try.prog 12 Z04 := .s (by kernel_rfl) Try.underlying12
def Z4b:TyI:=⟨.struct [(0,9),(1,12)],2,24,[.string ByteArray.empty,.int .u64 0],false⟩
theorem Z8o:TyOk Try.prog 13 Z4b := .g (by kernel_rfl) ⟨_,Try.underlying13,rfl⟩
theorem Z8p:TyOk Try.prog 14 Z4b := .g (by kernel_rfl) ⟨_,Try.underlying14,rfl⟩
def Z61:TyI:=⟨.ptr 192,1,8,[.pointer none],false⟩
theorem Z8q:TyOk Try.prog 15 Z61 := .s (by kernel_rfl) Try.underlying15
def Z62:TyI:=⟨.ptr 195,1,8,[.pointer none],false⟩
theorem Z8r:TyOk Try.prog 16 Z62 := .s (by kernel_rfl) Try.underlying16
def Z63:TyI:=⟨.ptr 203,1,8,[.pointer none],false⟩
theorem Z8s:TyOk Try.prog 17 Z63 := .s (by kernel_rfl) Try.underlying17
def Z4c:TyI:=⟨.struct [(0,17)],1,8,[.pointer none],false⟩
theorem Z8t:TyOk Try.prog 18 Z4c := .g (by kernel_rfl) ⟨_,Try.underlying18,rfl⟩
theorem Z8u:TyOk Try.prog 19 Z4c := .g (by kernel_rfl) ⟨_,Try.underlying19,rfl⟩
def Z05:TyI:=⟨.int .i32,1,4,[.int .i32 0],false⟩
theorem Z8v:TyOk Try.prog 21 Z05 := .s (by kernel_rfl) Try.underlying21
def Z64:TyI:=⟨.slice 58,1,24,[.slice none 0 0],false⟩
theorem Z8w:TyOk Try.prog 22 Z64 := .s (by kernel_rfl) Try.underlying22
def Z65:TyI:=⟨.slice 25,1,24,[.slice none 0 0],false⟩
theorem Z8x:TyOk Try.prog 23 Z65 := .s (by kernel_rfl) Try.underlying23
def Z4d:TyI:=⟨.struct [(0,3),(1,22),(2,23)],3,56,[.int .i64 0,.slice none 0 0,.slice none 0 0],false⟩
theorem Z8y:TyOk Try.prog 24 Z4d := .g (by kernel_rfl) ⟨_,Try.underlying24,rfl⟩
theorem Z8z:TyOk Try.prog 25 Z4d := .g (by kernel_rfl) ⟨_,Try.underlying25,rfl⟩
def Z66:TyI:=⟨.ptr 80,1,8,[.pointer none],false⟩
theorem Z80:TyOk Try.prog 28 Z66 := .s (by kernel_rfl) Try.underlying28
def Z67:TyI:=⟨.slice 22,1,24,[.slice none 0 0],false⟩
theorem Z81:TyOk Try.prog 31 Z67 := .s (by kernel_rfl) Try.underlying31
def Z68:TyI:=⟨.struct [(0,3),(1,3),(2,3),(3,3)],4,32,[.int .i64 0,.int .i64 0,.int .i64 0,.int .i64 0],false⟩
theorem Z82:TyOk Try.prog 41 Z68 := .g (by kernel_rfl) ⟨_,Try.underlying41,rfl⟩
def Z69:TyI:=⟨.struct [(0,3),(1,3),(2,3),(3,3)],4,32,[.int .i64 0,.int .i64 0,.int .i64 0,.int .i64 0],true⟩
theorem Z83:TyOk Try.prog 42 Z69 := .g (by kernel_rfl) ⟨_,Try.underlying42,rfl⟩ (fun _=>by unfold EqTy;exact ⟨by kernel_rfl,by kernel_rfl,by kernel_rfl⟩)
def Z7a:TyI:=⟨.ptr 93,1,8,[.pointer none],false⟩
theorem Z84:TyOk Try.prog 43 Z7a := .s (by kernel_rfl) Try.underlying43
def Z7b:TyI:=⟨.slice 3,1,24,[.slice none 0 0],false⟩
theorem Z85:TyOk Try.prog 45 Z7b := .s (by kernel_rfl) Try.underlying45
theorem Z86:TyOk Try.prog 46 tE2 := .s (by kernel_rfl) Try.underlying46
def Z4e:TyI:=⟨.struct [(0,28),(1,3),(2,3),(3,3),(4,3),(5,3),(6,3),(7,3),(8,3)],9,72,[.pointer none,.int .i64 0,.int .i64 0,.int .i64 0,.int .i64 0,.int .i64 0,.int .i64 0,.int .i64 0,.int .i64 0],false⟩
theorem Z87:TyOk Try.prog 49 Z4e := .g (by kernel_rfl) ⟨_,Try.underlying49,rfl⟩
theorem Z88:TyOk Try.prog 50 Z4e := .g (by kernel_rfl) ⟨_,Try.underlying50,rfl⟩
theorem Z89:TyOk Try.prog 58 Z04 := .s (by kernel_rfl) Try.underlying58
def Z4f:TyI:=⟨.struct [(0,28)],1,8,[.pointer none],false⟩
theorem Z9a:TyOk Try.prog 60 Z4f := .g (by kernel_rfl) ⟨_,Try.underlying60,rfl⟩
theorem Z9b:TyOk Try.prog 61 Z4f := .g (by kernel_rfl) ⟨_,Try.underlying61,rfl⟩
def Z7c:TyI:=⟨.ptr 71,1,8,[.pointer none],false⟩
theorem Z9c:TyOk Try.prog 67 Z7c := .s (by kernel_rfl) Try.underlying67
def Z7d:TyI:=⟨.ptr 76,1,8,[.pointer none],false⟩
theorem Z9d:TyOk Try.prog 68 Z7d := .s (by kernel_rfl) Try.underlying68
def Z4g:TyI:=⟨.struct [(0,68),(1,4)],2,16,[.pointer none,.bool false],false⟩
theorem Z9e:TyOk Try.prog 70 Z4g := .g (by kernel_rfl) ⟨_,Try.underlying70,rfl⟩
theorem Z9f:TyOk Try.prog 71 Z4g := .g (by kernel_rfl) ⟨_,Try.underlying71,rfl⟩
def Z4h:TyI:=⟨.struct [(0,31),(1,3),(2,3),(3,3)],4,48,[.slice none 0 0,.int .i64 0,.int .i64 0,.int .i64 0],false⟩
theorem Z9g:TyOk Try.prog 75 Z4h := .g (by kernel_rfl) ⟨_,Try.underlying75,rfl⟩
theorem Z9h:TyOk Try.prog 76 Z4h := .g (by kernel_rfl) ⟨_,Try.underlying76,rfl⟩
def Z4i:TyI:=⟨.struct [(0,31),(1,3),(2,3)],3,40,[.slice none 0 0,.int .i64 0,.int .i64 0],false⟩
theorem Z9i:TyOk Try.prog 79 Z4i := .g (by kernel_rfl) ⟨_,Try.underlying79,rfl⟩
theorem Z9j:TyOk Try.prog 80 Z4i := .g (by kernel_rfl) ⟨_,Try.underlying80,rfl⟩
def Z4j:TyI:=⟨.struct [(0,22),(1,3)],2,32,[.slice none 0 0,.int .i64 0],false⟩
theorem Z9k:TyOk Try.prog 82 Z4j := .g (by kernel_rfl) ⟨_,Try.underlying82,rfl⟩
theorem Z9l:TyOk Try.prog 83 Z4j := .g (by kernel_rfl) ⟨_,Try.underlying83,rfl⟩
def Z7e:TyI:=⟨.struct [(0,3),(1,3),(2,3),(3,3),(4,3),(5,3),(6,58)],7,56,[.int .i64 0,.int .i64 0,.int .i64 0,.int .i64 0,.int .i64 0,.int .i64 0,.int .u64 0],false⟩
theorem Z9m:TyOk Try.prog 86 Z7e := .g (by kernel_rfl) ⟨_,Try.underlying86,rfl⟩
def Z7f:TyI:=⟨.struct [(0,3),(1,3),(2,3),(3,3),(4,3),(5,3),(6,58)],7,56,[.int .i64 0,.int .i64 0,.int .i64 0,.int .i64 0,.int .i64 0,.int .i64 0,.int .u64 0],true⟩
theorem Z9n:TyOk Try.prog 87 Z7f := .g (by kernel_rfl) ⟨_,Try.underlying87,rfl⟩ (fun _=>by unfold EqTy;exact ⟨by kernel_rfl,by kernel_rfl,by kernel_rfl⟩)
def Z7g:TyI:=⟨.slice 99,1,24,[.slice none 0 0],false⟩
theorem Z9o:TyOk Try.prog 91 Z7g := .s (by kernel_rfl) Try.underlying91
def Z4k:TyI:=⟨.struct [(0,91),(1,45)],2,48,[.slice none 0 0,.slice none 0 0],false⟩
theorem Z9p:TyOk Try.prog 92 Z4k := .g (by kernel_rfl) ⟨_,Try.underlying92,rfl⟩
theorem Z9q:TyOk Try.prog 93 Z4k := .g (by kernel_rfl) ⟨_,Try.underlying93,rfl⟩
def Z4l:TyI:=⟨.struct [(0,58),(1,50)],10,80,[.int .u64 0,.pointer none,.int .i64 0,.int .i64 0,.int .i64 0,.int .i64 0,.int .i64 0,.int .i64 0,.int .i64 0,.int .i64 0],false⟩
theorem Z9r:TyOk Try.prog 98 Z4l := .g (by kernel_rfl) ⟨_,Try.underlying98,rfl⟩
theorem Z9s:TyOk Try.prog 99 Z4l := .g (by kernel_rfl) ⟨_,Try.underlying99,rfl⟩
def Z4v:TyI:=⟨.struct [(0,3),(1,3),(2,3),(3,3),(4,3),(5,3),(6,3),(7,4)],8,64,[.int .i64 0,.int .i64 0,.int .i64 0,.int .i64 0,.int .i64 0,.int .i64 0,.int .i64 0,.bool false],false⟩
theorem Z7h:TyOk Try.prog 108 Z4v := .g (by kernel_rfl) ⟨_,Try.underlying108,rfl⟩
def Zz9:TyI:=⟨.struct [(0,3),(1,3),(2,3),(3,3),(4,3),(5,3),(6,3),(7,4)],8,64,[.int .i64 0,.int .i64 0,.int .i64 0,.int .i64 0,.int .i64 0,.int .i64 0,.int .i64 0,.bool false],true⟩
theorem Z7i:TyOk Try.prog 109 Zz9 := .g (by kernel_rfl) ⟨_,Try.underlying109,rfl⟩ (fun _=>by unfold EqTy;exact ⟨by kernel_rfl,by kernel_rfl,by kernel_rfl⟩)
def Z4w:TyI:=⟨.ptr 83,1,8,[.pointer none],false⟩
theorem Z7j:TyOk Try.prog 122 Z4w := .s (by kernel_rfl) Try.underlying122
theorem Z7k:TyOk Try.prog 125 Zz9 := .g (by kernel_rfl) ⟨_,Try.underlying125,rfl⟩ (fun _=>by unfold EqTy;exact ⟨by kernel_rfl,by kernel_rfl,by kernel_rfl⟩)
def Z4x:TyI:=⟨.struct [(0,125),(8,3),(9,3)],10,80,[.int .i64 0,.int .i64 0,.int .i64 0,.int .i64 0,.int .i64 0,.int .i64 0,.int .i64 0,.bool false,.int .i64 0,.int .i64 0],false⟩
theorem Z7l:TyOk Try.prog 126 Z4x := .g (by kernel_rfl) ⟨_,Try.underlying126,rfl⟩
def Z4y:TyI:=⟨.struct [(0,125),(8,3),(9,3)],10,80,[.int .i64 0,.int .i64 0,.int .i64 0,.int .i64 0,.int .i64 0,.int .i64 0,.int .i64 0,.bool false,.int .i64 0,.int .i64 0],true⟩
theorem Z7m:TyOk Try.prog 127 Z4y := .g (by kernel_rfl) ⟨_,Try.underlying127,rfl⟩ (fun _=>by unfold EqTy;exact ⟨by kernel_rfl,by kernel_rfl,by kernel_rfl⟩)
def Z4z:TyI:=⟨.struct [(0,58),(1,3)],2,16,[.int .u64 0,.int .i64 0],false⟩
theorem Z7n:TyOk Try.prog 134 Z4z := .g (by kernel_rfl) ⟨_,Try.underlying134,rfl⟩
def Z40:TyI:=⟨.struct [(0,58),(1,3)],2,16,[.int .u64 0,.int .i64 0],true⟩
theorem Z7o:TyOk Try.prog 135 Z40 := .g (by kernel_rfl) ⟨_,Try.underlying135,rfl⟩ (fun _=>by unfold EqTy;exact ⟨by kernel_rfl,by kernel_rfl,by kernel_rfl⟩)
def Z41:TyI:=⟨.struct [(0,109),(8,3),(9,3)],10,80,[.int .i64 0,.int .i64 0,.int .i64 0,.int .i64 0,.int .i64 0,.int .i64 0,.int .i64 0,.bool false,.int .i64 0,.int .i64 0],false⟩
theorem Z7p:TyOk Try.prog 159 Z41 := .g (by kernel_rfl) ⟨_,Try.underlying159,rfl⟩
def Z42:TyI:=⟨.struct [(0,109),(8,3),(9,3)],10,80,[.int .i64 0,.int .i64 0,.int .i64 0,.int .i64 0,.int .i64 0,.int .i64 0,.int .i64 0,.bool false,.int .i64 0,.int .i64 0],true⟩
theorem Z7q:TyOk Try.prog 160 Z42 := .g (by kernel_rfl) ⟨_,Try.underlying160,rfl⟩ (fun _=>by unfold EqTy;exact ⟨by kernel_rfl,by kernel_rfl,by kernel_rfl⟩)
def Z43:TyI:=⟨.ptr 135,1,8,[.pointer none],false⟩
theorem Z7r:TyOk Try.prog 164 Z43 := .s (by kernel_rfl) Try.underlying164
def Z44:TyI:=⟨.arr 7 3,7,56,[.int .i64 0,.int .i64 0,.int .i64 0,.int .i64 0,.int .i64 0,.int .i64 0,.int .i64 0],true⟩
theorem Z7s:TyOk Try.prog 171 Z44 := .g (by kernel_rfl) Try.underlying171 (fun _=>by unfold EqTy;exact ⟨by kernel_rfl,by kernel_rfl,by kernel_rfl⟩)
def Z45:TyI:=⟨.int .u32,1,4,[.int .u32 0],false⟩
theorem Z7t:TyOk Try.prog 175 Z45 := .s (by kernel_rfl) Try.underlying175
theorem Z7u:TyOk Try.prog 176 Z04 := .s (by kernel_rfl) Try.underlying176
def Z46:TyI:=⟨.struct [(0,3)],1,8,[.int .i64 0],false⟩
theorem Z7v:TyOk Try.prog 182 Z46 := .g (by kernel_rfl) ⟨_,Try.underlying182,rfl⟩
def Z47:TyI:=⟨.struct [(0,3)],1,8,[.int .i64 0],true⟩
theorem Z7w:TyOk Try.prog 183 Z47 := .g (by kernel_rfl) ⟨_,Try.underlying183,rfl⟩ (fun _=>by unfold EqTy;exact ⟨by kernel_rfl,by kernel_rfl,by kernel_rfl⟩)
def Z48:TyI:=⟨.arr 6 3,6,48,[.int .i64 0,.int .i64 0,.int .i64 0,.int .i64 0,.int .i64 0,.int .i64 0],true⟩
theorem Z7x:TyOk Try.prog 185 Z48 := .g (by kernel_rfl) Try.underlying185 (fun _=>by unfold EqTy;exact ⟨by kernel_rfl,by kernel_rfl,by kernel_rfl⟩)
def Z49:TyI:=⟨.ptr 183,1,8,[.pointer none],false⟩
theorem Z7y:TyOk Try.prog 187 Z49 := .s (by kernel_rfl) Try.underlying187
def Z0a:TyI:=⟨.struct [(0,17),(1,17),(2,17),(3,9)],4,40,[.pointer none,.pointer none,.pointer none,.string ByteArray.empty],false⟩
theorem Z7z:TyOk Try.prog 191 Z0a := .g (by kernel_rfl) ⟨_,Try.underlying191,rfl⟩
theorem Z70:TyOk Try.prog 192 Z0a := .g (by kernel_rfl) ⟨_,Try.underlying192,rfl⟩
theorem Z71:TyOk Try.prog 196 tE5 := .s (by kernel_rfl) Try.underlying196
theorem Z72:TyOk Try.prog 197 tE5 := .s (by kernel_rfl) Try.underlying197
def Z5a:TyI:=⟨.ptr 5,1,8,[.pointer none],false⟩
theorem Z73:TyOk Try.prog 199 Z5a := .s (by kernel_rfl) Try.underlying199
theorem Z74:TyOk Try.prog 200 Z05 := .s (by kernel_rfl) Try.underlying200
theorem Z75:TyOk Try.prog 201 Z05 := .s (by kernel_rfl) Try.underlying201
def tabL:List (Nat×TyI):=[(2,tE2),(3,tE2),(4,tE4),(5,tE5),(6,tE5),(7,tE7),(8,tE7),(9,tE9),(10,tE9),(11,tE9),(12,Z04),(13,Z4b),(14,Z4b),(15,Z61),(16,Z62),(17,Z63),(18,Z4c),(19,Z4c),(21,Z05),(22,Z64),(23,Z65),(24,Z4d),(25,Z4d),(28,Z66),(31,Z67),(41,Z68),(42,Z69),(43,Z7a),(45,Z7b),(46,tE2),(49,Z4e),(50,Z4e),(58,Z04),(60,Z4f),(61,Z4f),(67,Z7c),(68,Z7d),(70,Z4g),(71,Z4g),(75,Z4h),(76,Z4h),(79,Z4i),(80,Z4i),(82,Z4j),(83,Z4j),(86,Z7e),(87,Z7f),(91,Z7g),(92,Z4k),(93,Z4k),(98,Z4l),(99,Z4l),(108,Z4v),(109,Zz9),(122,Z4w),(125,Zz9),(126,Z4x),(127,Z4y),(134,Z4z),(135,Z40),(159,Z41),(160,Z42),(164,Z43),(171,Z44),(175,Z45),(176,Z04),(182,Z46),(183,Z47),(185,Z48),(187,Z49),(191,Z0a),(192,Z0a),(196,tE5),(197,tE5),(199,Z5a),(200,Z05),(201,Z05)]
def Xf:Ql:=fun t=>tabL.lookup t
theorem Zd:Xt Try.prog Xf:=fun t i h=>by
 have hm:=Zrr _ h
 unfold tabL at hm
 simp only [List.mem_cons,Prod.mk.injEq,List.not_mem_nil,or_false] at hm
 rcases hm with ⟨rfl,rfl⟩ | ⟨rfl,rfl⟩ | ⟨rfl,rfl⟩ | ⟨rfl,rfl⟩ | ⟨rfl,rfl⟩ | ⟨rfl,rfl⟩ | ⟨rfl,rfl⟩ | ⟨rfl,rfl⟩ | ⟨rfl,rfl⟩ | ⟨rfl,rfl⟩ | ⟨rfl,rfl⟩ | ⟨rfl,rfl⟩ | ⟨rfl,rfl⟩ | ⟨rfl,rfl⟩ | ⟨rfl,rfl⟩ | ⟨rfl,rfl⟩ | ⟨rfl,rfl⟩ | ⟨rfl,rfl⟩ | ⟨rfl,rfl⟩ | ⟨rfl,rfl⟩ | ⟨rfl,rfl⟩ | ⟨rfl,rfl⟩ | ⟨rfl,rfl⟩ | ⟨rfl,rfl⟩ | ⟨rfl,rfl⟩ | ⟨rfl,rfl⟩ | ⟨rfl,rfl⟩ | ⟨rfl,rfl⟩ | ⟨rfl,rfl⟩ | ⟨rfl,rfl⟩ | ⟨rfl,rfl⟩ | ⟨rfl,rfl⟩ | ⟨rfl,rfl⟩ | ⟨rfl,rfl⟩ | ⟨rfl,rfl⟩ | ⟨rfl,rfl⟩ | ⟨rfl,rfl⟩ | ⟨rfl,rfl⟩ | ⟨rfl,rfl⟩ | ⟨rfl,rfl⟩ | ⟨rfl,rfl⟩ | ⟨rfl,rfl⟩ | ⟨rfl,rfl⟩ | ⟨rfl,rfl⟩ | ⟨rfl,rfl⟩ | ⟨rfl,rfl⟩ | ⟨rfl,rfl⟩ | ⟨rfl,rfl⟩ | ⟨rfl,rfl⟩ | ⟨rfl,rfl⟩ | ⟨rfl,rfl⟩ | ⟨rfl,rfl⟩ | ⟨rfl,rfl⟩ | ⟨rfl,rfl⟩ | ⟨rfl,rfl⟩ | ⟨rfl,rfl⟩ | ⟨rfl,rfl⟩ | ⟨rfl,rfl⟩ | ⟨rfl,rfl⟩ | ⟨rfl,rfl⟩ | ⟨rfl,rfl⟩ | ⟨rfl,rfl⟩ | ⟨rfl,rfl⟩ | ⟨rfl,rfl⟩ | ⟨rfl,rfl⟩ | ⟨rfl,rfl⟩ | ⟨rfl,rfl⟩ | ⟨rfl,rfl⟩ | ⟨rfl,rfl⟩ | ⟨rfl,rfl⟩ | ⟨rfl,rfl⟩ | ⟨rfl,rfl⟩ | ⟨rfl,rfl⟩ | ⟨rfl,rfl⟩ | ⟨rfl,rfl⟩ | ⟨rfl,rfl⟩ | ⟨rfl,rfl⟩
 ·exact ty2
 ·exact ty3
 ·exact ty4
 ·exact ty5
 ·exact ty6
 ·exact ty7
 ·exact ty8
 ·exact ty9
 ·exact Z8l
 ·exact Z8m
 ·exact Z8n
 ·exact Z8o
 ·exact Z8p
 ·exact Z8q
 ·exact Z8r
 ·exact Z8s
 ·exact Z8t
 ·exact Z8u
 ·exact Z8v
 ·exact Z8w
 ·exact Z8x
 ·exact Z8y
 ·exact Z8z
 ·exact Z80
 ·exact Z81
 ·exact Z82
 ·exact Z83
 ·exact Z84
 ·exact Z85
 ·exact Z86
 ·exact Z87
 ·exact Z88
 ·exact Z89
 ·exact Z9a
 ·exact Z9b
 ·exact Z9c
 ·exact Z9d
 ·exact Z9e
 ·exact Z9f
 ·exact Z9g
 ·exact Z9h
 ·exact Z9i
 ·exact Z9j
 ·exact Z9k
 ·exact Z9l
 ·exact Z9m
 ·exact Z9n
 ·exact Z9o
 ·exact Z9p
 ·exact Z9q
 ·exact Z9r
 ·exact Z9s
 ·exact Z7h
 ·exact Z7i
 ·exact Z7j
 ·exact Z7k
 ·exact Z7l
 ·exact Z7m
 ·exact Z7n
 ·exact Z7o
 ·exact Z7p
 ·exact Z7q
 ·exact Z7r
 ·exact Z7s
 ·exact Z7t
 ·exact Z7u
 ·exact Z7v
 ·exact Z7w
 ·exact Z7x
 ·exact Z7y
 ·exact Z7z
 ·exact Z70
 ·exact Z71
 ·exact Z72
 ·exact Z73
 ·exact Z74
 exact Z75
theorem Zyz:Xf 2=some ⟨.int .i64,1,8,[.int .i64 0],false⟩:=rfl
theorem Zt7:Xf 3=some ⟨.int .i64,1,8,[.int .i64 0],false⟩:=rfl
theorem Zy0:Xf 4=some ⟨.bool,1,1,[.bool false],false⟩:=rfl
theorem Zy1:Xf 5=some ⟨.int .u8,1,1,[.int .u8 0],false⟩:=rfl
theorem Zy2:Xf 6=some ⟨.int .u8,1,1,[.int .u8 0],false⟩:=rfl
theorem Zy3:Xf 7=some ⟨.struct [(0,2),(1,3),(2,4),(3,6)],4,24,[.int .i64 0,.int .i64 0,.bool false,.int .u8 0],false⟩:=rfl
theorem Zy4:Xf 8=some ⟨.struct [(0,2),(1,3),(2,4),(3,6)],4,24,[.int .i64 0,.int .i64 0,.bool false,.int .u8 0],false⟩:=rfl
theorem Zy5:Xf 9=some ⟨.str,1,16,[.string ByteArray.empty],false⟩:=rfl
theorem Zsg:Xf 10=some ⟨.str,1,16,[.string ByteArray.empty],false⟩:=rfl
theorem Zsh:Xf 11=some ⟨.str,1,16,[.string ByteArray.empty],false⟩:=rfl
theorem Zsi:Xf 12=some ⟨.int .u64,1,8,[.int .u64 0],false⟩:=rfl
theorem Zsj:Xf 13=some ⟨.struct [(0,9),(1,12)],2,24,[.string ByteArray.empty,.int .u64 0],false⟩:=rfl
theorem Zsk:Xf 14=some ⟨.struct [(0,9),(1,12)],2,24,[.string ByteArray.empty,.int .u64 0],false⟩:=rfl
theorem Zsl:Xf 15=some ⟨.ptr 192,1,8,[.pointer none],false⟩:=rfl
theorem Zsm:Xf 16=some ⟨.ptr 195,1,8,[.pointer none],false⟩:=rfl
theorem Zsn:Xf 17=some ⟨.ptr 203,1,8,[.pointer none],false⟩:=rfl
theorem Zso:Xf 18=some ⟨.struct [(0,17)],1,8,[.pointer none],false⟩:=rfl
theorem Zsp:Xf 19=some ⟨.struct [(0,17)],1,8,[.pointer none],false⟩:=rfl
theorem Zsq:Xf 21=some ⟨.int .i32,1,4,[.int .i32 0],false⟩:=rfl
theorem Zdx:Xf 22=some ⟨.slice 58,1,24,[.slice none 0 0],false⟩:=rfl
theorem Zsr:Xf 23=some ⟨.slice 25,1,24,[.slice none 0 0],false⟩:=rfl
theorem Zss:Xf 24=some ⟨.struct [(0,3),(1,22),(2,23)],3,56,[.int .i64 0,.slice none 0 0,.slice none 0 0],false⟩:=rfl
theorem Vo:Xf 25=some ⟨.struct [(0,3),(1,22),(2,23)],3,56,[.int .i64 0,.slice none 0 0,.slice none 0 0],false⟩:=rfl
theorem Zst:Xf 28=some ⟨.ptr 80,1,8,[.pointer none],false⟩:=rfl
theorem Zsu:Xf 31=some ⟨.slice 22,1,24,[.slice none 0 0],false⟩:=rfl
theorem Zsv:Xf 41=some ⟨.struct [(0,3),(1,3),(2,3),(3,3)],4,32,[.int .i64 0,.int .i64 0,.int .i64 0,.int .i64 0],false⟩:=rfl
theorem Zsw:Xf 42=some ⟨.struct [(0,3),(1,3),(2,3),(3,3)],4,32,[.int .i64 0,.int .i64 0,.int .i64 0,.int .i64 0],true⟩:=rfl
theorem Zsx:Xf 43=some ⟨.ptr 93,1,8,[.pointer none],false⟩:=rfl
theorem Zsy:Xf 45=some ⟨.slice 3,1,24,[.slice none 0 0],false⟩:=rfl
theorem Zsz:Xf 46=some ⟨.int .i64,1,8,[.int .i64 0],false⟩:=rfl
theorem Zs0:Xf 49=some ⟨.struct [(0,28),(1,3),(2,3),(3,3),(4,3),(5,3),(6,3),(7,3),(8,3)],9,72,[.pointer none,.int .i64 0,.int .i64 0,.int .i64 0,.int .i64 0,.int .i64 0,.int .i64 0,.int .i64 0,.int .i64 0],false⟩:=rfl
theorem Zs1:Xf 50=some ⟨.struct [(0,28),(1,3),(2,3),(3,3),(4,3),(5,3),(6,3),(7,3),(8,3)],9,72,[.pointer none,.int .i64 0,.int .i64 0,.int .i64 0,.int .i64 0,.int .i64 0,.int .i64 0,.int .i64 0,.int .i64 0],false⟩:=rfl
theorem U8:Xf 58=some ⟨.int .u64,1,8,[.int .u64 0],false⟩:=rfl
theorem Zs2:Xf 60=some ⟨.struct [(0,28)],1,8,[.pointer none],false⟩:=rfl
theorem Zs3:Xf 61=some ⟨.struct [(0,28)],1,8,[.pointer none],false⟩:=rfl
theorem Zs4:Xf 67=some ⟨.ptr 71,1,8,[.pointer none],false⟩:=rfl
theorem Zs5:Xf 68=some ⟨.ptr 76,1,8,[.pointer none],false⟩:=rfl
theorem Zs6:Xf 70=some ⟨.struct [(0,68),(1,4)],2,16,[.pointer none,.bool false],false⟩:=rfl
theorem Zs7:Xf 71=some ⟨.struct [(0,68),(1,4)],2,16,[.pointer none,.bool false],false⟩:=rfl
theorem Zs8:Xf 75=some ⟨.struct [(0,31),(1,3),(2,3),(3,3)],4,48,[.slice none 0 0,.int .i64 0,.int .i64 0,.int .i64 0],false⟩:=rfl
theorem Zs9:Xf 76=some ⟨.struct [(0,31),(1,3),(2,3),(3,3)],4,48,[.slice none 0 0,.int .i64 0,.int .i64 0,.int .i64 0],false⟩:=rfl
theorem Zta:Xf 79=some ⟨.struct [(0,31),(1,3),(2,3)],3,40,[.slice none 0 0,.int .i64 0,.int .i64 0],false⟩:=rfl
theorem Ztb:Xf 80=some ⟨.struct [(0,31),(1,3),(2,3)],3,40,[.slice none 0 0,.int .i64 0,.int .i64 0],false⟩:=rfl
theorem Ztc:Xf 82=some ⟨.struct [(0,22),(1,3)],2,32,[.slice none 0 0,.int .i64 0],false⟩:=rfl
theorem Ztd:Xf 83=some ⟨.struct [(0,22),(1,3)],2,32,[.slice none 0 0,.int .i64 0],false⟩:=rfl
theorem Zte:Xf 86=some ⟨.struct [(0,3),(1,3),(2,3),(3,3),(4,3),(5,3),(6,58)],7,56,[.int .i64 0,.int .i64 0,.int .i64 0,.int .i64 0,.int .i64 0,.int .i64 0,.int .u64 0],false⟩:=rfl
theorem Ztf:Xf 87=some ⟨.struct [(0,3),(1,3),(2,3),(3,3),(4,3),(5,3),(6,58)],7,56,[.int .i64 0,.int .i64 0,.int .i64 0,.int .i64 0,.int .i64 0,.int .i64 0,.int .u64 0],true⟩:=rfl
theorem Ztg:Xf 91=some ⟨.slice 99,1,24,[.slice none 0 0],false⟩:=rfl
theorem Zth:Xf 92=some ⟨.struct [(0,91),(1,45)],2,48,[.slice none 0 0,.slice none 0 0],false⟩:=rfl
theorem Zti:Xf 93=some ⟨.struct [(0,91),(1,45)],2,48,[.slice none 0 0,.slice none 0 0],false⟩:=rfl
theorem Ztj:Xf 98=some ⟨.struct [(0,58),(1,50)],10,80,[.int .u64 0,.pointer none,.int .i64 0,.int .i64 0,.int .i64 0,.int .i64 0,.int .i64 0,.int .i64 0,.int .i64 0,.int .i64 0],false⟩:=rfl
theorem Ztk:Xf 99=some ⟨.struct [(0,58),(1,50)],10,80,[.int .u64 0,.pointer none,.int .i64 0,.int .i64 0,.int .i64 0,.int .i64 0,.int .i64 0,.int .i64 0,.int .i64 0,.int .i64 0],false⟩:=rfl
theorem Zni:Xf 108=some ⟨.struct [(0,3),(1,3),(2,3),(3,3),(4,3),(5,3),(6,3),(7,4)],8,64,[.int .i64 0,.int .i64 0,.int .i64 0,.int .i64 0,.int .i64 0,.int .i64 0,.int .i64 0,.bool false],false⟩:=rfl
theorem Znj:Xf 109=some ⟨.struct [(0,3),(1,3),(2,3),(3,3),(4,3),(5,3),(6,3),(7,4)],8,64,[.int .i64 0,.int .i64 0,.int .i64 0,.int .i64 0,.int .i64 0,.int .i64 0,.int .i64 0,.bool false],true⟩:=rfl
theorem Znk:Xf 122=some ⟨.ptr 83,1,8,[.pointer none],false⟩:=rfl
theorem Znl:Xf 125=some ⟨.struct [(0,3),(1,3),(2,3),(3,3),(4,3),(5,3),(6,3),(7,4)],8,64,[.int .i64 0,.int .i64 0,.int .i64 0,.int .i64 0,.int .i64 0,.int .i64 0,.int .i64 0,.bool false],true⟩:=rfl
theorem Znm:Xf 126=some ⟨.struct [(0,125),(8,3),(9,3)],10,80,[.int .i64 0,.int .i64 0,.int .i64 0,.int .i64 0,.int .i64 0,.int .i64 0,.int .i64 0,.bool false,.int .i64 0,.int .i64 0],false⟩:=rfl
theorem Znn:Xf 127=some ⟨.struct [(0,125),(8,3),(9,3)],10,80,[.int .i64 0,.int .i64 0,.int .i64 0,.int .i64 0,.int .i64 0,.int .i64 0,.int .i64 0,.bool false,.int .i64 0,.int .i64 0],true⟩:=rfl
theorem Zno:Xf 134=some ⟨.struct [(0,58),(1,3)],2,16,[.int .u64 0,.int .i64 0],false⟩:=rfl
theorem Znp:Xf 159=some ⟨.struct [(0,109),(8,3),(9,3)],10,80,[.int .i64 0,.int .i64 0,.int .i64 0,.int .i64 0,.int .i64 0,.int .i64 0,.int .i64 0,.bool false,.int .i64 0,.int .i64 0],false⟩:=rfl
theorem Znq:Xf 160=some ⟨.struct [(0,109),(8,3),(9,3)],10,80,[.int .i64 0,.int .i64 0,.int .i64 0,.int .i64 0,.int .i64 0,.int .i64 0,.int .i64 0,.bool false,.int .i64 0,.int .i64 0],true⟩:=rfl
theorem Znr:Xf 164=some ⟨.ptr 135,1,8,[.pointer none],false⟩:=rfl
theorem Zns:Xf 171=some ⟨.arr 7 3,7,56,[.int .i64 0,.int .i64 0,.int .i64 0,.int .i64 0,.int .i64 0,.int .i64 0,.int .i64 0],true⟩:=rfl
theorem Znt:Xf 175=some ⟨.int .u32,1,4,[.int .u32 0],false⟩:=rfl
theorem Znu:Xf 176=some ⟨.int .u64,1,8,[.int .u64 0],false⟩:=rfl
theorem Znv:Xf 185=some ⟨.arr 6 3,6,48,[.int .i64 0,.int .i64 0,.int .i64 0,.int .i64 0,.int .i64 0,.int .i64 0],true⟩:=rfl
theorem Znw:Xf 191=some ⟨.struct [(0,17),(1,17),(2,17),(3,9)],4,40,[.pointer none,.pointer none,.pointer none,.string ByteArray.empty],false⟩:=rfl
theorem Znx:Xf 192=some ⟨.struct [(0,17),(1,17),(2,17),(3,9)],4,40,[.pointer none,.pointer none,.pointer none,.string ByteArray.empty],false⟩:=rfl
theorem Zny:Xf 196=some ⟨.int .u8,1,1,[.int .u8 0],false⟩:=rfl
theorem Znz:Xf 197=some ⟨.int .u8,1,1,[.int .u8 0],false⟩:=rfl
theorem Zn0:Xf 199=some ⟨.ptr 5,1,8,[.pointer none],false⟩:=rfl
theorem Zn1:Xf 200=some ⟨.int .i32,1,4,[.int .i32 0],false⟩:=rfl
theorem Zn2:Xf 201=some ⟨.int .i32,1,4,[.int .i32 0],false⟩:=rfl
theorem Zn3:Z7 Xf 2=some (.int .i64):=rfl
theorem Zn4:Z7 Xf 3=some (.int .i64):=rfl
theorem Zn5:Z7 Xf 4=some (.bool):=rfl
theorem Zn6:Z7 Xf 5=some (.int .u8):=rfl
theorem Zn7:Z7 Xf 6=some (.int .u8):=rfl
theorem Zn8:Z7 Xf 7=some (.struct [(0,2),(1,3),(2,4),(3,6)]):=rfl
theorem Zn9:Z7 Xf 8=some (.struct [(0,2),(1,3),(2,4),(3,6)]):=rfl
theorem Zoa:Z7 Xf 9=some (.str):=rfl
theorem Zjc:Z7 Xf 10=some (.str):=rfl
theorem Zjd:Z7 Xf 11=some (.str):=rfl
theorem Zje:Z7 Xf 12=some (.int .u64):=rfl
theorem Zjf:Z7 Xf 13=some (.struct [(0,9),(1,12)]):=rfl
theorem Zjg:Z7 Xf 14=some (.struct [(0,9),(1,12)]):=rfl
theorem Zjh:Z7 Xf 15=some (.ptr 192):=rfl
theorem Zji:Z7 Xf 16=some (.ptr 195):=rfl
theorem Zjj:Z7 Xf 17=some (.ptr 203):=rfl
theorem Zjk:Z7 Xf 18=some (.struct [(0,17)]):=rfl
theorem Zjl:Z7 Xf 19=some (.struct [(0,17)]):=rfl
theorem Zjm:Z7 Xf 21=some (.int .i32):=rfl
theorem Zbw:Z7 Xf 22=some (.slice 58):=rfl
theorem Zgm:Z7 Xf 23=some (.slice 25):=rfl
theorem Zjn:Z7 Xf 24=some (.struct [(0,3),(1,22),(2,23)]):=rfl
theorem Zjo:Z7 Xf 25=some (.struct [(0,3),(1,22),(2,23)]):=rfl
theorem Zgn:Z7 Xf 28=some (.ptr 80):=rfl
theorem Zjp:Z7 Xf 31=some (.slice 22):=rfl
theorem Zjq:Z7 Xf 41=some (.struct [(0,3),(1,3),(2,3),(3,3)]):=rfl
theorem Zjr:Z7 Xf 42=some (.struct [(0,3),(1,3),(2,3),(3,3)]):=rfl
theorem Zjs:Z7 Xf 43=some (.ptr 93):=rfl
theorem Zjt:Z7 Xf 45=some (.slice 3):=rfl
theorem Zju:Z7 Xf 46=some (.int .i64):=rfl
theorem Zjv:Z7 Xf 49=some (.struct [(0,28),(1,3),(2,3),(3,3),(4,3),(5,3),(6,3),(7,3),(8,3)]):=rfl
theorem Zjw:Z7 Xf 50=some (.struct [(0,28),(1,3),(2,3),(3,3),(4,3),(5,3),(6,3),(7,3),(8,3)]):=rfl
theorem Zjx:Z7 Xf 58=some (.int .u64):=rfl
theorem Zjy:Z7 Xf 60=some (.struct [(0,28)]):=rfl
theorem Zjz:Z7 Xf 61=some (.struct [(0,28)]):=rfl
theorem Zj0:Z7 Xf 67=some (.ptr 71):=rfl
theorem Zj1:Z7 Xf 68=some (.ptr 76):=rfl
theorem Zj2:Z7 Xf 70=some (.struct [(0,68),(1,4)]):=rfl
theorem Zj3:Z7 Xf 71=some (.struct [(0,68),(1,4)]):=rfl
theorem Zj4:Z7 Xf 75=some (.struct [(0,31),(1,3),(2,3),(3,3)]):=rfl
theorem Zj5:Z7 Xf 76=some (.struct [(0,31),(1,3),(2,3),(3,3)]):=rfl
theorem Zj6:Z7 Xf 79=some (.struct [(0,31),(1,3),(2,3)]):=rfl
theorem Zj7:Z7 Xf 80=some (.struct [(0,31),(1,3),(2,3)]):=rfl
theorem Zj8:Z7 Xf 82=some (.struct [(0,22),(1,3)]):=rfl
theorem Zj9:Z7 Xf 83=some (.struct [(0,22),(1,3)]):=rfl
theorem Zka:Z7 Xf 86=some (.struct [(0,3),(1,3),(2,3),(3,3),(4,3),(5,3),(6,58)]):=rfl
theorem Zkb:Z7 Xf 87=some (.struct [(0,3),(1,3),(2,3),(3,3),(4,3),(5,3),(6,58)]):=rfl
theorem Zkc:Z7 Xf 91=some (.slice 99):=rfl
theorem Zkd:Z7 Xf 92=some (.struct [(0,91),(1,45)]):=rfl
theorem Zke:Z7 Xf 93=some (.struct [(0,91),(1,45)]):=rfl
theorem Zkf:Z7 Xf 98=some (.struct [(0,58),(1,50)]):=rfl
theorem Zkg:Z7 Xf 99=some (.struct [(0,58),(1,50)]):=rfl
theorem Zfn:Z7 Xf 108=some (.struct [(0,3),(1,3),(2,3),(3,3),(4,3),(5,3),(6,3),(7,4)]):=rfl
theorem Zfo:Z7 Xf 109=some (.struct [(0,3),(1,3),(2,3),(3,3),(4,3),(5,3),(6,3),(7,4)]):=rfl
theorem Zfp:Z7 Xf 122=some (.ptr 83):=rfl
theorem Zfq:Z7 Xf 125=some (.struct [(0,3),(1,3),(2,3),(3,3),(4,3),(5,3),(6,3),(7,4)]):=rfl
theorem Zfr:Z7 Xf 126=some (.struct [(0,125),(8,3),(9,3)]):=rfl
theorem Zfs:Z7 Xf 127=some (.struct [(0,125),(8,3),(9,3)]):=rfl
theorem Zft:Z7 Xf 134=some (.struct [(0,58),(1,3)]):=rfl
theorem Zfu:Z7 Xf 159=some (.struct [(0,109),(8,3),(9,3)]):=rfl
theorem Zfv:Z7 Xf 160=some (.struct [(0,109),(8,3),(9,3)]):=rfl
theorem Zfw:Z7 Xf 164=some (.ptr 135):=rfl
theorem Zfx:Z7 Xf 171=some (.arr 7 3):=rfl
theorem Zfy:Z7 Xf 175=some (.int .u32):=rfl
theorem Zfz:Z7 Xf 176=some (.int .u64):=rfl
theorem Zf0:Z7 Xf 185=some (.arr 6 3):=rfl
theorem Zf1:Z7 Xf 191=some (.struct [(0,17),(1,17),(2,17),(3,9)]):=rfl
theorem Zf2:Z7 Xf 192=some (.struct [(0,17),(1,17),(2,17),(3,9)]):=rfl
theorem Zf3:Z7 Xf 196=some (.int .u8):=rfl
theorem Zf4:Z7 Xf 197=some (.int .u8):=rfl
theorem Zf5:Z7 Xf 199=some (.ptr 5):=rfl
theorem Zf6:Z7 Xf 200=some (.int .i32):=rfl
theorem Zf7:Z7 Xf 201=some (.int .i32):=rfl
end Go.Proofs.Ytaddaloondpnkaa
