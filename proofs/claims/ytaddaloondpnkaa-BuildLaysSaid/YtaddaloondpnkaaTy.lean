/- The types of this seat's program, as its dump has them, in the ghost memory's words; no condition. -/
import Derived.Test.YtaddaloondpnkaaRows
import Derived.Test.YtaddaloondpnkaaG16
namespace Go.Proofs.Ytaddaloondpnkaa
open Go.RowKit
set_option linter.unusedVariables false
set_option linter.unusedSimpArgs false
theorem TyOk.of {P:Program} {t:TypeId} (k:TK) (size bytes:Nat) (zero:List Value) (z:Value) (h:(P.info? t).map (fun i=>(i.zero,i.size,i.bytes))=some (some z,size,bytes)) (hz:z.cells.toList=zero) (hu:k.ok P t) (hl:zero.length=size) (h1:zero.all Value.oneCell'=true) (eq:Bool) (he:eq=true→EqTy P t):TyOk P t ⟨k,size,bytes,zero,eq⟩:=by
 refine ⟨?_,hu,hl,fun v hv=>List.all_eq_true.1 h1 v hv,he⟩
 cases hi:P.info? t with
 | none=>rw [hi] at h;cases h
 | some i =>
  rw [hi] at h
  simp only [Option.map_some,Option.some.injEq,Prod.mk.injEq] at h
  exact ⟨i,z,rfl,h.2.1,h.2.2,h.1,hz⟩
theorem TyOk.g {P:Program} {t:TypeId} {k:TK} {size bytes:Nat} {zero:List Value} {eq:Bool} (h:(P.info? t).map (fun i=>(i.zero,i.size,i.bytes))=some (some (.agg zero.toArray),size,bytes)) (hu:k.ok P t) (he:eq=true→EqTy P t:=by intro h;cases h) (hz:(Value.agg zero.toArray).cells.toList=zero:=by rfl) (hl:zero.length=size:=by rfl) (h1:zero.all Value.oneCell'=true:=by rfl):TyOk P t ⟨k,size,bytes,zero,eq⟩ := .of k size bytes zero _ h hz hu hl h1 eq he
theorem TyOk.s {P:Program} {t:TypeId} {k:TK} {size bytes:Nat} {z:Value} {eq:Bool} (h:(P.info? t).map (fun i=>(i.zero,i.size,i.bytes))=some (some z,size,bytes)) (hu:k.ok P t) (he:eq=true→EqTy P t:=by intro h;cases h) (hz:z.cells.toList=[z]:=by rfl) (hl:[z].length=size:=by rfl) (h1:[z].all Value.oneCell'=true:=by rfl):TyOk P t ⟨k,size,bytes,[z],eq⟩ := .of k size bytes [z] _ h hz hu hl h1 eq he
theorem EqTy.m {P:Program} {t:TypeId} (h:EqTy P t):true=true→EqTy P t:=fun _=>h
theorem Zqg {α:Type} {t:Nat} {i:α}:∀ (l:List (Nat×α)),l.lookup t=some i→(t,i)∈l
 | [],h=>by simp at h
 | (a,b)::l,h=>by
  rw [List.lookup_cons] at h
  split at h
  ·rename_i he
   injection h with h
   have:t=a:=by simpa using he
   subst h this
   exact .head _
  exact .tail _ (Zqg l h)
def tE2:TyI:=⟨.int .i64,1,8,[.int .i64 0],false⟩
theorem ty2:TyOk Try.prog 2 tE2 := .s (by kernel_rfl) Try.underlying2
theorem ty3:TyOk Try.prog 3 tE2 := .s (by kernel_rfl) Try.underlying3
def tE4:TyI:=⟨.bool,1,1,[.bool false],false⟩
theorem ty4:TyOk Try.prog 4 tE4 := .s (by kernel_rfl) Try.underlying4
def tE5:TyI:=⟨.int .u8,1,1,[.int .u8 0],false⟩
theorem ty5:TyOk Try.prog 5 tE5 := .s (by kernel_rfl) Try.underlying5
theorem ty6:TyOk Try.prog 6 tE5 := .s (by kernel_rfl) Try.underlying6
def tE7:TyI:=⟨.struct [(0,2),(1,3),(2,4),(3,6)],4,24,[.int .i64 0,.int .i64 0,.bool false,.int .u8 0],false⟩
theorem ty7:TyOk Try.prog 7 tE7 := .g (by kernel_rfl) ⟨_,Try.underlying7,rfl⟩
theorem ty8:TyOk Try.prog 8 tE7 := .g (by kernel_rfl) ⟨_,Try.underlying8,rfl⟩
def tE9:TyI:=⟨.str,1,16,[.string ByteArray.empty],false⟩
theorem ty9:TyOk Try.prog 9 tE9 := .s (by kernel_rfl) Try.underlying9
theorem Z7b:TyOk Try.prog 10 tE9 := .s (by kernel_rfl) Try.underlying10
theorem Z7c:TyOk Try.prog 11 tE9 := .s (by kernel_rfl) Try.underlying11
def Zz2:TyI:=⟨.int .u64,1,8,[.int .u64 0],false⟩
theorem Z7d:TyOk Try.prog 12 Zz2 := .s (by kernel_rfl) Try.underlying12
def Z20:TyI:=⟨.struct [(0,9),(1,12)],2,24,[.string ByteArray.empty,.int .u64 0],false⟩
theorem Z7e:TyOk Try.prog 13 Z20 := .g (by kernel_rfl) ⟨_,Try.underlying13,rfl⟩
theorem Z7f:TyOk Try.prog 14 Z20 := .g (by kernel_rfl) ⟨_,Try.underlying14,rfl⟩
def Z5s:TyI:=⟨.ptr 192,1,8,[.pointer none],false⟩
theorem Z7g:TyOk Try.prog 15 Z5s := .s (by kernel_rfl) Try.underlying15
def Z5t:TyI:=⟨.ptr 195,1,8,[.pointer none],false⟩
theorem Z7h:TyOk Try.prog 16 Z5t := .s (by kernel_rfl) Try.underlying16
def Z5u:TyI:=⟨.ptr 203,1,8,[.pointer none],false⟩
theorem Z7i:TyOk Try.prog 17 Z5u := .s (by kernel_rfl) Try.underlying17
def Z21:TyI:=⟨.struct [(0,17)],1,8,[.pointer none],false⟩
theorem Z7j:TyOk Try.prog 18 Z21 := .g (by kernel_rfl) ⟨_,Try.underlying18,rfl⟩
theorem Z7k:TyOk Try.prog 19 Z21 := .g (by kernel_rfl) ⟨_,Try.underlying19,rfl⟩
def Zz3:TyI:=⟨.int .i32,1,4,[.int .i32 0],false⟩
theorem Z7l:TyOk Try.prog 21 Zz3 := .s (by kernel_rfl) Try.underlying21
def Z5v:TyI:=⟨.slice 58,1,24,[.slice none 0 0],false⟩
theorem Z7m:TyOk Try.prog 22 Z5v := .s (by kernel_rfl) Try.underlying22
def Z5w:TyI:=⟨.slice 25,1,24,[.slice none 0 0],false⟩
theorem Z7n:TyOk Try.prog 23 Z5w := .s (by kernel_rfl) Try.underlying23
def Z22:TyI:=⟨.struct [(0,3),(1,22),(2,23)],3,56,[.int .i64 0,.slice none 0 0,.slice none 0 0],false⟩
theorem Z7o:TyOk Try.prog 24 Z22 := .g (by kernel_rfl) ⟨_,Try.underlying24,rfl⟩
theorem Z7p:TyOk Try.prog 25 Z22 := .g (by kernel_rfl) ⟨_,Try.underlying25,rfl⟩
def Z5x:TyI:=⟨.ptr 80,1,8,[.pointer none],false⟩
theorem Z7q:TyOk Try.prog 28 Z5x := .s (by kernel_rfl) Try.underlying28
def Z5y:TyI:=⟨.slice 22,1,24,[.slice none 0 0],false⟩
theorem Z7r:TyOk Try.prog 31 Z5y := .s (by kernel_rfl) Try.underlying31
def Z5z:TyI:=⟨.struct [(0,3),(1,3),(2,3),(3,3)],4,32,[.int .i64 0,.int .i64 0,.int .i64 0,.int .i64 0],false⟩
theorem Z7s:TyOk Try.prog 41 Z5z := .g (by kernel_rfl) ⟨_,Try.underlying41,rfl⟩
def Z50:TyI:=⟨.struct [(0,3),(1,3),(2,3),(3,3)],4,32,[.int .i64 0,.int .i64 0,.int .i64 0,.int .i64 0],true⟩
theorem Z7t:TyOk Try.prog 42 Z50 := .g (by kernel_rfl) ⟨_,Try.underlying42,rfl⟩ (fun _=>by unfold EqTy;exact ⟨by kernel_rfl,by kernel_rfl,by kernel_rfl⟩)
def Z51:TyI:=⟨.ptr 93,1,8,[.pointer none],false⟩
theorem Z7u:TyOk Try.prog 43 Z51 := .s (by kernel_rfl) Try.underlying43
def Z52:TyI:=⟨.slice 3,1,24,[.slice none 0 0],false⟩
theorem Z7v:TyOk Try.prog 45 Z52 := .s (by kernel_rfl) Try.underlying45
theorem Z7w:TyOk Try.prog 46 tE2 := .s (by kernel_rfl) Try.underlying46
def Z23:TyI:=⟨.struct [(0,28),(1,3),(2,3),(3,3),(4,3),(5,3),(6,3),(7,3),(8,3)],9,72,[.pointer none,.int .i64 0,.int .i64 0,.int .i64 0,.int .i64 0,.int .i64 0,.int .i64 0,.int .i64 0,.int .i64 0],false⟩
theorem Z7x:TyOk Try.prog 49 Z23 := .g (by kernel_rfl) ⟨_,Try.underlying49,rfl⟩
theorem Z7y:TyOk Try.prog 50 Z23 := .g (by kernel_rfl) ⟨_,Try.underlying50,rfl⟩
theorem Z7z:TyOk Try.prog 58 Zz2 := .s (by kernel_rfl) Try.underlying58
def Z24:TyI:=⟨.struct [(0,28)],1,8,[.pointer none],false⟩
theorem Z70:TyOk Try.prog 60 Z24 := .g (by kernel_rfl) ⟨_,Try.underlying60,rfl⟩
theorem Z71:TyOk Try.prog 61 Z24 := .g (by kernel_rfl) ⟨_,Try.underlying61,rfl⟩
def Z53:TyI:=⟨.ptr 71,1,8,[.pointer none],false⟩
theorem Z72:TyOk Try.prog 67 Z53 := .s (by kernel_rfl) Try.underlying67
def Z54:TyI:=⟨.ptr 76,1,8,[.pointer none],false⟩
theorem Z73:TyOk Try.prog 68 Z54 := .s (by kernel_rfl) Try.underlying68
def Z25:TyI:=⟨.struct [(0,68),(1,4)],2,16,[.pointer none,.bool false],false⟩
theorem Z74:TyOk Try.prog 70 Z25 := .g (by kernel_rfl) ⟨_,Try.underlying70,rfl⟩
theorem Z75:TyOk Try.prog 71 Z25 := .g (by kernel_rfl) ⟨_,Try.underlying71,rfl⟩
def Z26:TyI:=⟨.struct [(0,31),(1,3),(2,3),(3,3)],4,48,[.slice none 0 0,.int .i64 0,.int .i64 0,.int .i64 0],false⟩
theorem Z76:TyOk Try.prog 75 Z26 := .g (by kernel_rfl) ⟨_,Try.underlying75,rfl⟩
theorem Z77:TyOk Try.prog 76 Z26 := .g (by kernel_rfl) ⟨_,Try.underlying76,rfl⟩
def Z27:TyI:=⟨.struct [(0,31),(1,3),(2,3)],3,40,[.slice none 0 0,.int .i64 0,.int .i64 0],false⟩
theorem Z78:TyOk Try.prog 79 Z27 := .g (by kernel_rfl) ⟨_,Try.underlying79,rfl⟩
theorem Z79:TyOk Try.prog 80 Z27 := .g (by kernel_rfl) ⟨_,Try.underlying80,rfl⟩
def Z28:TyI:=⟨.struct [(0,22),(1,3)],2,32,[.slice none 0 0,.int .i64 0],false⟩
theorem Z8a:TyOk Try.prog 82 Z28 := .g (by kernel_rfl) ⟨_,Try.underlying82,rfl⟩
theorem Z8b:TyOk Try.prog 83 Z28 := .g (by kernel_rfl) ⟨_,Try.underlying83,rfl⟩
def Z55:TyI:=⟨.struct [(0,3),(1,3),(2,3),(3,3),(4,3),(5,3),(6,58)],7,56,[.int .i64 0,.int .i64 0,.int .i64 0,.int .i64 0,.int .i64 0,.int .i64 0,.int .u64 0],false⟩
theorem Z8c:TyOk Try.prog 86 Z55 := .g (by kernel_rfl) ⟨_,Try.underlying86,rfl⟩
def Z56:TyI:=⟨.struct [(0,3),(1,3),(2,3),(3,3),(4,3),(5,3),(6,58)],7,56,[.int .i64 0,.int .i64 0,.int .i64 0,.int .i64 0,.int .i64 0,.int .i64 0,.int .u64 0],true⟩
theorem Z8d:TyOk Try.prog 87 Z56 := .g (by kernel_rfl) ⟨_,Try.underlying87,rfl⟩ (fun _=>by unfold EqTy;exact ⟨by kernel_rfl,by kernel_rfl,by kernel_rfl⟩)
def Z57:TyI:=⟨.slice 99,1,24,[.slice none 0 0],false⟩
theorem Z8e:TyOk Try.prog 91 Z57 := .s (by kernel_rfl) Try.underlying91
def Z29:TyI:=⟨.struct [(0,91),(1,45)],2,48,[.slice none 0 0,.slice none 0 0],false⟩
theorem Z8f:TyOk Try.prog 92 Z29 := .g (by kernel_rfl) ⟨_,Try.underlying92,rfl⟩
theorem Z8g:TyOk Try.prog 93 Z29 := .g (by kernel_rfl) ⟨_,Try.underlying93,rfl⟩
def Z3a:TyI:=⟨.struct [(0,58),(1,50)],10,80,[.int .u64 0,.pointer none,.int .i64 0,.int .i64 0,.int .i64 0,.int .i64 0,.int .i64 0,.int .i64 0,.int .i64 0,.int .i64 0],false⟩
theorem Z8h:TyOk Try.prog 98 Z3a := .g (by kernel_rfl) ⟨_,Try.underlying98,rfl⟩
theorem Z8i:TyOk Try.prog 99 Z3a := .g (by kernel_rfl) ⟨_,Try.underlying99,rfl⟩
def Z3o:TyI:=⟨.struct [(0,3),(1,3),(2,3),(3,3),(4,3),(5,3),(6,3),(7,4)],8,64,[.int .i64 0,.int .i64 0,.int .i64 0,.int .i64 0,.int .i64 0,.int .i64 0,.int .i64 0,.bool false],false⟩
theorem Z58:TyOk Try.prog 108 Z3o := .g (by kernel_rfl) ⟨_,Try.underlying108,rfl⟩
def Zyz:TyI:=⟨.struct [(0,3),(1,3),(2,3),(3,3),(4,3),(5,3),(6,3),(7,4)],8,64,[.int .i64 0,.int .i64 0,.int .i64 0,.int .i64 0,.int .i64 0,.int .i64 0,.int .i64 0,.bool false],true⟩
theorem Z59:TyOk Try.prog 109 Zyz := .g (by kernel_rfl) ⟨_,Try.underlying109,rfl⟩ (fun _=>by unfold EqTy;exact ⟨by kernel_rfl,by kernel_rfl,by kernel_rfl⟩)
def Z3p:TyI:=⟨.ptr 83,1,8,[.pointer none],false⟩
theorem Z6a:TyOk Try.prog 122 Z3p := .s (by kernel_rfl) Try.underlying122
theorem Z6b:TyOk Try.prog 125 Zyz := .g (by kernel_rfl) ⟨_,Try.underlying125,rfl⟩ (fun _=>by unfold EqTy;exact ⟨by kernel_rfl,by kernel_rfl,by kernel_rfl⟩)
def Z3q:TyI:=⟨.struct [(0,125),(8,3),(9,3)],10,80,[.int .i64 0,.int .i64 0,.int .i64 0,.int .i64 0,.int .i64 0,.int .i64 0,.int .i64 0,.bool false,.int .i64 0,.int .i64 0],false⟩
theorem Z6c:TyOk Try.prog 126 Z3q := .g (by kernel_rfl) ⟨_,Try.underlying126,rfl⟩
def Z3r:TyI:=⟨.struct [(0,125),(8,3),(9,3)],10,80,[.int .i64 0,.int .i64 0,.int .i64 0,.int .i64 0,.int .i64 0,.int .i64 0,.int .i64 0,.bool false,.int .i64 0,.int .i64 0],true⟩
theorem Z6d:TyOk Try.prog 127 Z3r := .g (by kernel_rfl) ⟨_,Try.underlying127,rfl⟩ (fun _=>by unfold EqTy;exact ⟨by kernel_rfl,by kernel_rfl,by kernel_rfl⟩)
def Z3s:TyI:=⟨.struct [(0,58),(1,3)],2,16,[.int .u64 0,.int .i64 0],false⟩
theorem Z6e:TyOk Try.prog 134 Z3s := .g (by kernel_rfl) ⟨_,Try.underlying134,rfl⟩
def Z3t:TyI:=⟨.struct [(0,58),(1,3)],2,16,[.int .u64 0,.int .i64 0],true⟩
theorem Z6f:TyOk Try.prog 135 Z3t := .g (by kernel_rfl) ⟨_,Try.underlying135,rfl⟩ (fun _=>by unfold EqTy;exact ⟨by kernel_rfl,by kernel_rfl,by kernel_rfl⟩)
def Z3u:TyI:=⟨.struct [(0,109),(8,3),(9,3)],10,80,[.int .i64 0,.int .i64 0,.int .i64 0,.int .i64 0,.int .i64 0,.int .i64 0,.int .i64 0,.bool false,.int .i64 0,.int .i64 0],false⟩
theorem Z6g:TyOk Try.prog 159 Z3u := .g (by kernel_rfl) ⟨_,Try.underlying159,rfl⟩
def Z3v:TyI:=⟨.struct [(0,109),(8,3),(9,3)],10,80,[.int .i64 0,.int .i64 0,.int .i64 0,.int .i64 0,.int .i64 0,.int .i64 0,.int .i64 0,.bool false,.int .i64 0,.int .i64 0],true⟩
theorem Z6h:TyOk Try.prog 160 Z3v := .g (by kernel_rfl) ⟨_,Try.underlying160,rfl⟩ (fun _=>by unfold EqTy;exact ⟨by kernel_rfl,by kernel_rfl,by kernel_rfl⟩)
def Z3w:TyI:=⟨.ptr 135,1,8,[.pointer none],false⟩
theorem Z6i:TyOk Try.prog 164 Z3w := .s (by kernel_rfl) Try.underlying164
def Z3x:TyI:=⟨.arr 7 3,7,56,[.int .i64 0,.int .i64 0,.int .i64 0,.int .i64 0,.int .i64 0,.int .i64 0,.int .i64 0],true⟩
theorem Z6j:TyOk Try.prog 171 Z3x := .g (by kernel_rfl) Try.underlying171 (fun _=>by unfold EqTy;exact ⟨by kernel_rfl,by kernel_rfl,by kernel_rfl⟩)
def Z3y:TyI:=⟨.int .u32,1,4,[.int .u32 0],false⟩
theorem Z6k:TyOk Try.prog 175 Z3y := .s (by kernel_rfl) Try.underlying175
theorem Z6l:TyOk Try.prog 176 Zz2 := .s (by kernel_rfl) Try.underlying176
def Z3z:TyI:=⟨.struct [(0,3)],1,8,[.int .i64 0],false⟩
theorem Z6m:TyOk Try.prog 182 Z3z := .g (by kernel_rfl) ⟨_,Try.underlying182,rfl⟩
def Z30:TyI:=⟨.struct [(0,3)],1,8,[.int .i64 0],true⟩
theorem Z6n:TyOk Try.prog 183 Z30 := .g (by kernel_rfl) ⟨_,Try.underlying183,rfl⟩ (fun _=>by unfold EqTy;exact ⟨by kernel_rfl,by kernel_rfl,by kernel_rfl⟩)
def Z31:TyI:=⟨.arr 6 3,6,48,[.int .i64 0,.int .i64 0,.int .i64 0,.int .i64 0,.int .i64 0,.int .i64 0],true⟩
theorem Z6o:TyOk Try.prog 185 Z31 := .g (by kernel_rfl) Try.underlying185 (fun _=>by unfold EqTy;exact ⟨by kernel_rfl,by kernel_rfl,by kernel_rfl⟩)
def Z32:TyI:=⟨.ptr 183,1,8,[.pointer none],false⟩
theorem Z6p:TyOk Try.prog 187 Z32 := .s (by kernel_rfl) Try.underlying187
def Zy0:TyI:=⟨.struct [(0,17),(1,17),(2,17),(3,9)],4,40,[.pointer none,.pointer none,.pointer none,.string ByteArray.empty],false⟩
theorem Z6q:TyOk Try.prog 191 Zy0 := .g (by kernel_rfl) ⟨_,Try.underlying191,rfl⟩
theorem Z6r:TyOk Try.prog 192 Zy0 := .g (by kernel_rfl) ⟨_,Try.underlying192,rfl⟩
theorem Z6s:TyOk Try.prog 196 tE5 := .s (by kernel_rfl) Try.underlying196
theorem Z6t:TyOk Try.prog 197 tE5 := .s (by kernel_rfl) Try.underlying197
def Z33:TyI:=⟨.ptr 5,1,8,[.pointer none],false⟩
theorem Z6u:TyOk Try.prog 199 Z33 := .s (by kernel_rfl) Try.underlying199
theorem Z6v:TyOk Try.prog 200 Zz3 := .s (by kernel_rfl) Try.underlying200
theorem Z6w:TyOk Try.prog 201 Zz3 := .s (by kernel_rfl) Try.underlying201
def tabL:List (Nat×TyI):=[(2,tE2),(3,tE2),(4,tE4),(5,tE5),(6,tE5),(7,tE7),(8,tE7),(9,tE9),(10,tE9),(11,tE9),(12,Zz2),(13,Z20),(14,Z20),(15,Z5s),(16,Z5t),(17,Z5u),(18,Z21),(19,Z21),(21,Zz3),(22,Z5v),(23,Z5w),(24,Z22),(25,Z22),(28,Z5x),(31,Z5y),(41,Z5z),(42,Z50),(43,Z51),(45,Z52),(46,tE2),(49,Z23),(50,Z23),(58,Zz2),(60,Z24),(61,Z24),(67,Z53),(68,Z54),(70,Z25),(71,Z25),(75,Z26),(76,Z26),(79,Z27),(80,Z27),(82,Z28),(83,Z28),(86,Z55),(87,Z56),(91,Z57),(92,Z29),(93,Z29),(98,Z3a),(99,Z3a),(108,Z3o),(109,Zyz),(122,Z3p),(125,Zyz),(126,Z3q),(127,Z3r),(134,Z3s),(135,Z3t),(159,Z3u),(160,Z3v),(164,Z3w),(171,Z3x),(175,Z3y),(176,Zz2),(182,Z3z),(183,Z30),(185,Z31),(187,Z32),(191,Zy0),(192,Zy0),(196,tE5),(197,tE5),(199,Z33),(200,Zz3),(201,Zz3)]
def Xt:Qi:=fun t=>tabL.lookup t
theorem Zc:Xo Try.prog Xt:=fun t i h=>by
 have hm:=Zqg _ h
 unfold tabL at hm
 simp only [List.mem_cons,Prod.mk.injEq,List.not_mem_nil,or_false] at hm
 rcases hm with ⟨rfl,rfl⟩ | ⟨rfl,rfl⟩ | ⟨rfl,rfl⟩ | ⟨rfl,rfl⟩ | ⟨rfl,rfl⟩ | ⟨rfl,rfl⟩ | ⟨rfl,rfl⟩ | ⟨rfl,rfl⟩ | ⟨rfl,rfl⟩ | ⟨rfl,rfl⟩ | ⟨rfl,rfl⟩ | ⟨rfl,rfl⟩ | ⟨rfl,rfl⟩ | ⟨rfl,rfl⟩ | ⟨rfl,rfl⟩ | ⟨rfl,rfl⟩ | ⟨rfl,rfl⟩ | ⟨rfl,rfl⟩ | ⟨rfl,rfl⟩ | ⟨rfl,rfl⟩ | ⟨rfl,rfl⟩ | ⟨rfl,rfl⟩ | ⟨rfl,rfl⟩ | ⟨rfl,rfl⟩ | ⟨rfl,rfl⟩ | ⟨rfl,rfl⟩ | ⟨rfl,rfl⟩ | ⟨rfl,rfl⟩ | ⟨rfl,rfl⟩ | ⟨rfl,rfl⟩ | ⟨rfl,rfl⟩ | ⟨rfl,rfl⟩ | ⟨rfl,rfl⟩ | ⟨rfl,rfl⟩ | ⟨rfl,rfl⟩ | ⟨rfl,rfl⟩ | ⟨rfl,rfl⟩ | ⟨rfl,rfl⟩ | ⟨rfl,rfl⟩ | ⟨rfl,rfl⟩ | ⟨rfl,rfl⟩ | ⟨rfl,rfl⟩ | ⟨rfl,rfl⟩ | ⟨rfl,rfl⟩ | ⟨rfl,rfl⟩ | ⟨rfl,rfl⟩ | ⟨rfl,rfl⟩ | ⟨rfl,rfl⟩ | ⟨rfl,rfl⟩ | ⟨rfl,rfl⟩ | ⟨rfl,rfl⟩ | ⟨rfl,rfl⟩ | ⟨rfl,rfl⟩ | ⟨rfl,rfl⟩ | ⟨rfl,rfl⟩ | ⟨rfl,rfl⟩ | ⟨rfl,rfl⟩ | ⟨rfl,rfl⟩ | ⟨rfl,rfl⟩ | ⟨rfl,rfl⟩ | ⟨rfl,rfl⟩ | ⟨rfl,rfl⟩ | ⟨rfl,rfl⟩ | ⟨rfl,rfl⟩ | ⟨rfl,rfl⟩ | ⟨rfl,rfl⟩ | ⟨rfl,rfl⟩ | ⟨rfl,rfl⟩ | ⟨rfl,rfl⟩ | ⟨rfl,rfl⟩ | ⟨rfl,rfl⟩ | ⟨rfl,rfl⟩ | ⟨rfl,rfl⟩ | ⟨rfl,rfl⟩ | ⟨rfl,rfl⟩ | ⟨rfl,rfl⟩ | ⟨rfl,rfl⟩
 ·exact ty2
 ·exact ty3
 ·exact ty4
 ·exact ty5
 ·exact ty6
 ·exact ty7
 ·exact ty8
 ·exact ty9
 ·exact Z7b
 ·exact Z7c
 ·exact Z7d
 ·exact Z7e
 ·exact Z7f
 ·exact Z7g
 ·exact Z7h
 ·exact Z7i
 ·exact Z7j
 ·exact Z7k
 ·exact Z7l
 ·exact Z7m
 ·exact Z7n
 ·exact Z7o
 ·exact Z7p
 ·exact Z7q
 ·exact Z7r
 ·exact Z7s
 ·exact Z7t
 ·exact Z7u
 ·exact Z7v
 ·exact Z7w
 ·exact Z7x
 ·exact Z7y
 ·exact Z7z
 ·exact Z70
 ·exact Z71
 ·exact Z72
 ·exact Z73
 ·exact Z74
 ·exact Z75
 ·exact Z76
 ·exact Z77
 ·exact Z78
 ·exact Z79
 ·exact Z8a
 ·exact Z8b
 ·exact Z8c
 ·exact Z8d
 ·exact Z8e
 ·exact Z8f
 ·exact Z8g
 ·exact Z8h
 ·exact Z8i
 ·exact Z58
 ·exact Z59
 ·exact Z6a
 ·exact Z6b
 ·exact Z6c
 ·exact Z6d
 ·exact Z6e
 ·exact Z6f
 ·exact Z6g
 ·exact Z6h
 ·exact Z6i
 ·exact Z6j
 ·exact Z6k
 ·exact Z6l
 ·exact Z6m
 ·exact Z6n
 ·exact Z6o
 ·exact Z6p
 ·exact Z6q
 ·exact Z6r
 ·exact Z6s
 ·exact Z6t
 ·exact Z6u
 ·exact Z6v
 exact Z6w
theorem Zxy:Xt 2=some ⟨.int .i64,1,8,[.int .i64 0],false⟩:=rfl
theorem Zso:Xt 3=some ⟨.int .i64,1,8,[.int .i64 0],false⟩:=rfl
theorem Zxz:Xt 4=some ⟨.bool,1,1,[.bool false],false⟩:=rfl
theorem Zx0:Xt 5=some ⟨.int .u8,1,1,[.int .u8 0],false⟩:=rfl
theorem Zx1:Xt 6=some ⟨.int .u8,1,1,[.int .u8 0],false⟩:=rfl
theorem Zx2:Xt 7=some ⟨.struct [(0,2),(1,3),(2,4),(3,6)],4,24,[.int .i64 0,.int .i64 0,.bool false,.int .u8 0],false⟩:=rfl
theorem Zx3:Xt 8=some ⟨.struct [(0,2),(1,3),(2,4),(3,6)],4,24,[.int .i64 0,.int .i64 0,.bool false,.int .u8 0],false⟩:=rfl
theorem Zx4:Xt 9=some ⟨.str,1,16,[.string ByteArray.empty],false⟩:=rfl
theorem Zqw:Xt 10=some ⟨.str,1,16,[.string ByteArray.empty],false⟩:=rfl
theorem Zqx:Xt 11=some ⟨.str,1,16,[.string ByteArray.empty],false⟩:=rfl
theorem Zqy:Xt 12=some ⟨.int .u64,1,8,[.int .u64 0],false⟩:=rfl
theorem Zqz:Xt 13=some ⟨.struct [(0,9),(1,12)],2,24,[.string ByteArray.empty,.int .u64 0],false⟩:=rfl
theorem Zq0:Xt 14=some ⟨.struct [(0,9),(1,12)],2,24,[.string ByteArray.empty,.int .u64 0],false⟩:=rfl
theorem Zq1:Xt 15=some ⟨.ptr 192,1,8,[.pointer none],false⟩:=rfl
theorem Zq2:Xt 16=some ⟨.ptr 195,1,8,[.pointer none],false⟩:=rfl
theorem Zq3:Xt 17=some ⟨.ptr 203,1,8,[.pointer none],false⟩:=rfl
theorem Zq4:Xt 18=some ⟨.struct [(0,17)],1,8,[.pointer none],false⟩:=rfl
theorem Zq5:Xt 19=some ⟨.struct [(0,17)],1,8,[.pointer none],false⟩:=rfl
theorem Zq6:Xt 21=some ⟨.int .i32,1,4,[.int .i32 0],false⟩:=rfl
theorem Vx:Xt 22=some ⟨.slice 58,1,24,[.slice none 0 0],false⟩:=rfl
theorem Zob:Xt 23=some ⟨.slice 25,1,24,[.slice none 0 0],false⟩:=rfl
theorem Zq7:Xt 24=some ⟨.struct [(0,3),(1,22),(2,23)],3,56,[.int .i64 0,.slice none 0 0,.slice none 0 0],false⟩:=rfl
theorem J3:Xt 25=some ⟨.struct [(0,3),(1,22),(2,23)],3,56,[.int .i64 0,.slice none 0 0,.slice none 0 0],false⟩:=rfl
theorem Zq8:Xt 28=some ⟨.ptr 80,1,8,[.pointer none],false⟩:=rfl
theorem Zq9:Xt 31=some ⟨.slice 22,1,24,[.slice none 0 0],false⟩:=rfl
theorem Zra:Xt 41=some ⟨.struct [(0,3),(1,3),(2,3),(3,3)],4,32,[.int .i64 0,.int .i64 0,.int .i64 0,.int .i64 0],false⟩:=rfl
theorem Zrb:Xt 42=some ⟨.struct [(0,3),(1,3),(2,3),(3,3)],4,32,[.int .i64 0,.int .i64 0,.int .i64 0,.int .i64 0],true⟩:=rfl
theorem Zrc:Xt 43=some ⟨.ptr 93,1,8,[.pointer none],false⟩:=rfl
theorem Zrd:Xt 45=some ⟨.slice 3,1,24,[.slice none 0 0],false⟩:=rfl
theorem Zre:Xt 46=some ⟨.int .i64,1,8,[.int .i64 0],false⟩:=rfl
theorem Zrf:Xt 49=some ⟨.struct [(0,28),(1,3),(2,3),(3,3),(4,3),(5,3),(6,3),(7,3),(8,3)],9,72,[.pointer none,.int .i64 0,.int .i64 0,.int .i64 0,.int .i64 0,.int .i64 0,.int .i64 0,.int .i64 0,.int .i64 0],false⟩:=rfl
theorem Zrg:Xt 50=some ⟨.struct [(0,28),(1,3),(2,3),(3,3),(4,3),(5,3),(6,3),(7,3),(8,3)],9,72,[.pointer none,.int .i64 0,.int .i64 0,.int .i64 0,.int .i64 0,.int .i64 0,.int .i64 0,.int .i64 0,.int .i64 0],false⟩:=rfl
theorem K4:Xt 58=some ⟨.int .u64,1,8,[.int .u64 0],false⟩:=rfl
theorem Zrh:Xt 60=some ⟨.struct [(0,28)],1,8,[.pointer none],false⟩:=rfl
theorem Zri:Xt 61=some ⟨.struct [(0,28)],1,8,[.pointer none],false⟩:=rfl
theorem Zrj:Xt 67=some ⟨.ptr 71,1,8,[.pointer none],false⟩:=rfl
theorem Zrk:Xt 68=some ⟨.ptr 76,1,8,[.pointer none],false⟩:=rfl
theorem Zrl:Xt 70=some ⟨.struct [(0,68),(1,4)],2,16,[.pointer none,.bool false],false⟩:=rfl
theorem Zrm:Xt 71=some ⟨.struct [(0,68),(1,4)],2,16,[.pointer none,.bool false],false⟩:=rfl
theorem Zrn:Xt 75=some ⟨.struct [(0,31),(1,3),(2,3),(3,3)],4,48,[.slice none 0 0,.int .i64 0,.int .i64 0,.int .i64 0],false⟩:=rfl
theorem Zro:Xt 76=some ⟨.struct [(0,31),(1,3),(2,3),(3,3)],4,48,[.slice none 0 0,.int .i64 0,.int .i64 0,.int .i64 0],false⟩:=rfl
theorem Zrp:Xt 79=some ⟨.struct [(0,31),(1,3),(2,3)],3,40,[.slice none 0 0,.int .i64 0,.int .i64 0],false⟩:=rfl
theorem Zrq:Xt 80=some ⟨.struct [(0,31),(1,3),(2,3)],3,40,[.slice none 0 0,.int .i64 0,.int .i64 0],false⟩:=rfl
theorem Zrr:Xt 82=some ⟨.struct [(0,22),(1,3)],2,32,[.slice none 0 0,.int .i64 0],false⟩:=rfl
theorem Zrs:Xt 83=some ⟨.struct [(0,22),(1,3)],2,32,[.slice none 0 0,.int .i64 0],false⟩:=rfl
theorem Zrt:Xt 86=some ⟨.struct [(0,3),(1,3),(2,3),(3,3),(4,3),(5,3),(6,58)],7,56,[.int .i64 0,.int .i64 0,.int .i64 0,.int .i64 0,.int .i64 0,.int .i64 0,.int .u64 0],false⟩:=rfl
theorem Zru:Xt 87=some ⟨.struct [(0,3),(1,3),(2,3),(3,3),(4,3),(5,3),(6,58)],7,56,[.int .i64 0,.int .i64 0,.int .i64 0,.int .i64 0,.int .i64 0,.int .i64 0,.int .u64 0],true⟩:=rfl
theorem Zrv:Xt 91=some ⟨.slice 99,1,24,[.slice none 0 0],false⟩:=rfl
theorem Zrw:Xt 92=some ⟨.struct [(0,91),(1,45)],2,48,[.slice none 0 0,.slice none 0 0],false⟩:=rfl
theorem Zrx:Xt 93=some ⟨.struct [(0,91),(1,45)],2,48,[.slice none 0 0,.slice none 0 0],false⟩:=rfl
theorem Zry:Xt 98=some ⟨.struct [(0,58),(1,50)],10,80,[.int .u64 0,.pointer none,.int .i64 0,.int .i64 0,.int .i64 0,.int .i64 0,.int .i64 0,.int .i64 0,.int .i64 0,.int .i64 0],false⟩:=rfl
theorem Zrz:Xt 99=some ⟨.struct [(0,58),(1,50)],10,80,[.int .u64 0,.pointer none,.int .i64 0,.int .i64 0,.int .i64 0,.int .i64 0,.int .i64 0,.int .i64 0,.int .i64 0,.int .i64 0],false⟩:=rfl
theorem Zmb:Xt 108=some ⟨.struct [(0,3),(1,3),(2,3),(3,3),(4,3),(5,3),(6,3),(7,4)],8,64,[.int .i64 0,.int .i64 0,.int .i64 0,.int .i64 0,.int .i64 0,.int .i64 0,.int .i64 0,.bool false],false⟩:=rfl
theorem Zmc:Xt 109=some ⟨.struct [(0,3),(1,3),(2,3),(3,3),(4,3),(5,3),(6,3),(7,4)],8,64,[.int .i64 0,.int .i64 0,.int .i64 0,.int .i64 0,.int .i64 0,.int .i64 0,.int .i64 0,.bool false],true⟩:=rfl
theorem Zmd:Xt 122=some ⟨.ptr 83,1,8,[.pointer none],false⟩:=rfl
theorem Zme:Xt 125=some ⟨.struct [(0,3),(1,3),(2,3),(3,3),(4,3),(5,3),(6,3),(7,4)],8,64,[.int .i64 0,.int .i64 0,.int .i64 0,.int .i64 0,.int .i64 0,.int .i64 0,.int .i64 0,.bool false],true⟩:=rfl
theorem Zmf:Xt 126=some ⟨.struct [(0,125),(8,3),(9,3)],10,80,[.int .i64 0,.int .i64 0,.int .i64 0,.int .i64 0,.int .i64 0,.int .i64 0,.int .i64 0,.bool false,.int .i64 0,.int .i64 0],false⟩:=rfl
theorem Zmg:Xt 127=some ⟨.struct [(0,125),(8,3),(9,3)],10,80,[.int .i64 0,.int .i64 0,.int .i64 0,.int .i64 0,.int .i64 0,.int .i64 0,.int .i64 0,.bool false,.int .i64 0,.int .i64 0],true⟩:=rfl
theorem Zmh:Xt 134=some ⟨.struct [(0,58),(1,3)],2,16,[.int .u64 0,.int .i64 0],false⟩:=rfl
theorem Zmi:Xt 159=some ⟨.struct [(0,109),(8,3),(9,3)],10,80,[.int .i64 0,.int .i64 0,.int .i64 0,.int .i64 0,.int .i64 0,.int .i64 0,.int .i64 0,.bool false,.int .i64 0,.int .i64 0],false⟩:=rfl
theorem Zmj:Xt 160=some ⟨.struct [(0,109),(8,3),(9,3)],10,80,[.int .i64 0,.int .i64 0,.int .i64 0,.int .i64 0,.int .i64 0,.int .i64 0,.int .i64 0,.bool false,.int .i64 0,.int .i64 0],true⟩:=rfl
theorem Zmk:Xt 164=some ⟨.ptr 135,1,8,[.pointer none],false⟩:=rfl
theorem Zml:Xt 171=some ⟨.arr 7 3,7,56,[.int .i64 0,.int .i64 0,.int .i64 0,.int .i64 0,.int .i64 0,.int .i64 0,.int .i64 0],true⟩:=rfl
theorem Zmm:Xt 175=some ⟨.int .u32,1,4,[.int .u32 0],false⟩:=rfl
theorem Zmn:Xt 176=some ⟨.int .u64,1,8,[.int .u64 0],false⟩:=rfl
theorem Zmo:Xt 185=some ⟨.arr 6 3,6,48,[.int .i64 0,.int .i64 0,.int .i64 0,.int .i64 0,.int .i64 0,.int .i64 0],true⟩:=rfl
theorem Zmp:Z6 Xt 2=some (.int .i64):=rfl
theorem Zmq:Z6 Xt 3=some (.int .i64):=rfl
theorem Zmr:Z6 Xt 4=some (.bool):=rfl
theorem Zms:Z6 Xt 5=some (.int .u8):=rfl
theorem Zmt:Z6 Xt 6=some (.int .u8):=rfl
theorem Zmu:Z6 Xt 7=some (.struct [(0,2),(1,3),(2,4),(3,6)]):=rfl
theorem Zmv:Z6 Xt 8=some (.struct [(0,2),(1,3),(2,4),(3,6)]):=rfl
theorem Zmw:Z6 Xt 9=some (.str):=rfl
theorem Zib:Z6 Xt 10=some (.str):=rfl
theorem Zic:Z6 Xt 11=some (.str):=rfl
theorem Zid:Z6 Xt 12=some (.int .u64):=rfl
theorem Zie:Z6 Xt 13=some (.struct [(0,9),(1,12)]):=rfl
theorem Zif:Z6 Xt 14=some (.struct [(0,9),(1,12)]):=rfl
theorem Zig:Z6 Xt 15=some (.ptr 192):=rfl
theorem Zih:Z6 Xt 16=some (.ptr 195):=rfl
theorem Zii:Z6 Xt 17=some (.ptr 203):=rfl
theorem Zij:Z6 Xt 18=some (.struct [(0,17)]):=rfl
theorem Zik:Z6 Xt 19=some (.struct [(0,17)]):=rfl
theorem Zil:Z6 Xt 21=some (.int .i32):=rfl
theorem Zc9:Z6 Xt 22=some (.slice 58):=rfl
theorem Zda:Z6 Xt 23=some (.slice 25):=rfl
theorem Zim:Z6 Xt 24=some (.struct [(0,3),(1,22),(2,23)]):=rfl
theorem Zin:Z6 Xt 25=some (.struct [(0,3),(1,22),(2,23)]):=rfl
theorem Zfu:Z6 Xt 28=some (.ptr 80):=rfl
theorem Zio:Z6 Xt 31=some (.slice 22):=rfl
theorem Zip:Z6 Xt 41=some (.struct [(0,3),(1,3),(2,3),(3,3)]):=rfl
theorem Ziq:Z6 Xt 42=some (.struct [(0,3),(1,3),(2,3),(3,3)]):=rfl
theorem Zir:Z6 Xt 43=some (.ptr 93):=rfl
theorem Zis:Z6 Xt 45=some (.slice 3):=rfl
theorem Zit:Z6 Xt 46=some (.int .i64):=rfl
theorem Ziu:Z6 Xt 49=some (.struct [(0,28),(1,3),(2,3),(3,3),(4,3),(5,3),(6,3),(7,3),(8,3)]):=rfl
theorem Ziv:Z6 Xt 50=some (.struct [(0,28),(1,3),(2,3),(3,3),(4,3),(5,3),(6,3),(7,3),(8,3)]):=rfl
theorem Ziw:Z6 Xt 58=some (.int .u64):=rfl
theorem Zix:Z6 Xt 60=some (.struct [(0,28)]):=rfl
theorem Ziy:Z6 Xt 61=some (.struct [(0,28)]):=rfl
theorem Ziz:Z6 Xt 67=some (.ptr 71):=rfl
theorem Zi0:Z6 Xt 68=some (.ptr 76):=rfl
theorem Zi1:Z6 Xt 70=some (.struct [(0,68),(1,4)]):=rfl
theorem Zi2:Z6 Xt 71=some (.struct [(0,68),(1,4)]):=rfl
theorem Zi3:Z6 Xt 75=some (.struct [(0,31),(1,3),(2,3),(3,3)]):=rfl
theorem Zi4:Z6 Xt 76=some (.struct [(0,31),(1,3),(2,3),(3,3)]):=rfl
theorem Zi5:Z6 Xt 79=some (.struct [(0,31),(1,3),(2,3)]):=rfl
theorem Zi6:Z6 Xt 80=some (.struct [(0,31),(1,3),(2,3)]):=rfl
theorem Zi7:Z6 Xt 82=some (.struct [(0,22),(1,3)]):=rfl
theorem Zi8:Z6 Xt 83=some (.struct [(0,22),(1,3)]):=rfl
theorem Zi9:Z6 Xt 86=some (.struct [(0,3),(1,3),(2,3),(3,3),(4,3),(5,3),(6,58)]):=rfl
theorem Zja:Z6 Xt 87=some (.struct [(0,3),(1,3),(2,3),(3,3),(4,3),(5,3),(6,58)]):=rfl
theorem Zjb:Z6 Xt 91=some (.slice 99):=rfl
theorem Zjc:Z6 Xt 92=some (.struct [(0,91),(1,45)]):=rfl
theorem Zjd:Z6 Xt 93=some (.struct [(0,91),(1,45)]):=rfl
theorem Zje:Z6 Xt 98=some (.struct [(0,58),(1,50)]):=rfl
theorem Zjf:Z6 Xt 99=some (.struct [(0,58),(1,50)]):=rfl
theorem Ze0:Z6 Xt 108=some (.struct [(0,3),(1,3),(2,3),(3,3),(4,3),(5,3),(6,3),(7,4)]):=rfl
theorem Ze1:Z6 Xt 109=some (.struct [(0,3),(1,3),(2,3),(3,3),(4,3),(5,3),(6,3),(7,4)]):=rfl
theorem Ze2:Z6 Xt 122=some (.ptr 83):=rfl
theorem Ze3:Z6 Xt 125=some (.struct [(0,3),(1,3),(2,3),(3,3),(4,3),(5,3),(6,3),(7,4)]):=rfl
theorem Ze4:Z6 Xt 126=some (.struct [(0,125),(8,3),(9,3)]):=rfl
theorem Ze5:Z6 Xt 127=some (.struct [(0,125),(8,3),(9,3)]):=rfl
theorem Ze6:Z6 Xt 134=some (.struct [(0,58),(1,3)]):=rfl
theorem Ze7:Z6 Xt 159=some (.struct [(0,109),(8,3),(9,3)]):=rfl
theorem Ze8:Z6 Xt 160=some (.struct [(0,109),(8,3),(9,3)]):=rfl
theorem Ze9:Z6 Xt 164=some (.ptr 135):=rfl
theorem Zfa:Z6 Xt 171=some (.arr 7 3):=rfl
theorem Zfb:Z6 Xt 175=some (.int .u32):=rfl
theorem Zfc:Z6 Xt 176=some (.int .u64):=rfl
theorem Zfd:Z6 Xt 185=some (.arr 6 3):=rfl
end Go.Proofs.Ytaddaloondpnkaa
