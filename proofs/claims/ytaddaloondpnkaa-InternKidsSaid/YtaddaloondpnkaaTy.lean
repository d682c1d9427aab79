/- The types of this seat's program, as its dump has them, in the ghost memory's words; no condition. -/
import Derived.Test.YtaddaloondpnkaaRows
import Derived.Test.YtaddaloondpnkaaG13
namespace Go.Proofs.Ytaddaloondpnkaa
open Go.RowKit
set_option linter.unusedVariables false
set_option linter.unusedSimpArgs false
theorem TyOk.of {P:Program} {t:TypeId} (k:TK) (size bytes:Nat) (zero:List Value) (z:Value) (h:(P.info? t).map (fun i=>(i.zero,i.size,i.bytes))=some (some z,size,bytes)) (hz:z.cells.toList=zero) (hu:k.ok P t) (hl:zero.length=size) (h1:zero.all Value.oneCell'=true) (eq:Bool) (he:eq=true→EqTy P t):TyOk P t ⟨k,size,bytes,zero,eq⟩:=by
 refine ⟨?_,hu,hl,fun v hv=>List.all_eq_true.1 h1 v hv,he⟩
 cases hi:P.info? t with
 | none=>rw [hi] at h;cases h
 | some i =>
  rw [hi] at h
  simp only [Option.map_some,Option.some.injEq,Prod.mk.injEq] at h
  exact ⟨i,z,rfl,h.2.1,h.2.2,h.1,hz⟩
theorem TyOk.g {P:Program} {t:TypeId} {k:TK} {size bytes:Nat} {zero:List Value} {eq:Bool} (h:(P.info? t).map (fun i=>(i.zero,i.size,i.bytes))=some (some (.agg zero.toArray),size,bytes)) (hu:k.ok P t) (he:eq=true→EqTy P t:=by intro h;cases h) (hz:(Value.agg zero.toArray).cells.toList=zero:=by rfl) (hl:zero.length=size:=by rfl) (h1:zero.all Value.oneCell'=true:=by rfl):TyOk P t ⟨k,size,bytes,zero,eq⟩ := .of k size bytes zero _ h hz hu hl h1 eq he
theorem TyOk.s {P:Program} {t:TypeId} {k:TK} {size bytes:Nat} {z:Value} {eq:Bool} (h:(P.info? t).map (fun i=>(i.zero,i.size,i.bytes))=some (some z,size,bytes)) (hu:k.ok P t) (he:eq=true→EqTy P t:=by intro h;cases h) (hz:z.cells.toList=[z]:=by rfl) (hl:[z].length=size:=by rfl) (h1:[z].all Value.oneCell'=true:=by rfl):TyOk P t ⟨k,size,bytes,[z],eq⟩ := .of k size bytes [z] _ h hz hu hl h1 eq he
theorem EqTy.m {P:Program} {t:TypeId} (h:EqTy P t):true=true→EqTy P t:=fun _=>h
theorem Zt0 {α:Type} {t:Nat} {i:α}:∀ (l:List (Nat×α)),l.lookup t=some i→(t,i)∈l
 | [],h=>by simp at h
 | (a,b)::l,h=>by
  rw [List.lookup_cons] at h
  split at h
  ·rename_i he
   injection h with h
   have:t=a:=by simpa using he
   subst h this
   exact .head _
  exact .tail _ (Zt0 l h)
def tE2:TyI:=⟨.int .i64,1,8,[.int .i64 0],false⟩
theorem ty2:TyOk Try.prog 2 tE2 := .s (by kernel_rfl) Try.underlying2
theorem ty3:TyOk Try.prog 3 tE2 := .s (by kernel_rfl) Try.underlying3
def tE4:TyI:=⟨.bool,1,1,[.bool false],false⟩
theorem ty4:TyOk Try.prog 4 tE4 := .s (by kernel_rfl) Try.underlying4
def tE5:TyI:=⟨.int .u8,1,1,[.int .u8 0],false⟩
theorem ty5:TyOk Try.prog 5 tE5 := .s (by kernel_rfl) Try.underlying5
theorem ty6:TyOk Try.prog 6 tE5 := .s (by kernel_rfl) Try.underlying6
def tE7:TyI:=⟨.struct [(0,2),(1,3),(2,4),(3,6)],4,24,[.int .i64 0,.int .i64 0,.bool false,.int .u8 0],false⟩
theorem ty7:TyOk Try.prog 7 tE7 := .g (by kernel_rfl) ⟨_,Try.underlying7,rfl⟩
theorem ty8:TyOk Try.prog 8 tE7 := .g (by kernel_rfl) ⟨_,Try.underlying8,rfl⟩
def tE9:TyI:=⟨.str,1,16,[.string ByteArray.empty],false⟩
theorem ty9:TyOk Try.prog 9 tE9 := .s (by kernel_rfl) Try.underlying9
theorem Yeh:TyOk Try.prog 10 tE9 := .s (by kernel_rfl) Try.underlying10
theorem Yei:TyOk Try.prog 11 tE9 := .s (by kernel_rfl) Try.underlying11
def Z4z:TyI:=⟨.int .u64,1,8,[.int .u64 0],false⟩
theorem Yej:TyOk Try.prog 12 Z4z := .s (by kernel_rfl) Try.underlying12
def Z9n:TyI:=⟨.struct [(0,9),(1,12)],2,24,[.string ByteArray.empty,.int .u64 0],false⟩
theorem Yek:TyOk Try.prog 13 Z9n := .g (by kernel_rfl) ⟨_,Try.underlying13,rfl⟩
theorem Yel:TyOk Try.prog 14 Z9n := .g (by kernel_rfl) ⟨_,Try.underlying14,rfl⟩
def Ycu:TyI:=⟨.ptr 192,1,8,[.pointer none],false⟩
theorem Yem:TyOk Try.prog 15 Ycu := .s (by kernel_rfl) Try.underlying15
def Ycv:TyI:=⟨.ptr 195,1,8,[.pointer none],false⟩
theorem Yen:TyOk Try.prog 16 Ycv := .s (by kernel_rfl) Try.underlying16
def Ycw:TyI:=⟨.ptr 203,1,8,[.pointer none],false⟩
theorem Yeo:TyOk Try.prog 17 Ycw := .s (by kernel_rfl) Try.underlying17
def Z9o:TyI:=⟨.struct [(0,17)],1,8,[.pointer none],false⟩
theorem Yep:TyOk Try.prog 18 Z9o := .g (by kernel_rfl) ⟨_,Try.underlying18,rfl⟩
theorem Yeq:TyOk Try.prog 19 Z9o := .g (by kernel_rfl) ⟨_,Try.underlying19,rfl⟩
def Z40:TyI:=⟨.int .i32,1,4,[.int .i32 0],false⟩
theorem Yer:TyOk Try.prog 21 Z40 := .s (by kernel_rfl) Try.underlying21
def Ycx:TyI:=⟨.slice 58,1,24,[.slice none 0 0],false⟩
theorem Yes:TyOk Try.prog 22 Ycx := .s (by kernel_rfl) Try.underlying22
def Ycy:TyI:=⟨.slice 25,1,24,[.slice none 0 0],false⟩
theorem Yet:TyOk Try.prog 23 Ycy := .s (by kernel_rfl) Try.underlying23
def Z9p:TyI:=⟨.struct [(0,3),(1,22),(2,23)],3,56,[.int .i64 0,.slice none 0 0,.slice none 0 0],false⟩
theorem Yeu:TyOk Try.prog 24 Z9p := .g (by kernel_rfl) ⟨_,Try.underlying24,rfl⟩
theorem Yev:TyOk Try.prog 25 Z9p := .g (by kernel_rfl) ⟨_,Try.underlying25,rfl⟩
def Ycz:TyI:=⟨.ptr 80,1,8,[.pointer none],false⟩
theorem Yew:TyOk Try.prog 28 Ycz := .s (by kernel_rfl) Try.underlying28
def Yc0:TyI:=⟨.slice 22,1,24,[.slice none 0 0],false⟩
theorem Yex:TyOk Try.prog 31 Yc0 := .s (by kernel_rfl) Try.underlying31
def Yc1:TyI:=⟨.struct [(0,3),(1,3),(2,3),(3,3)],4,32,[.int .i64 0,.int .i64 0,.int .i64 0,.int .i64 0],false⟩
theorem Yey:TyOk Try.prog 41 Yc1 := .g (by kernel_rfl) ⟨_,Try.underlying41,rfl⟩
def Yc2:TyI:=⟨.struct [(0,3),(1,3),(2,3),(3,3)],4,32,[.int .i64 0,.int .i64 0,.int .i64 0,.int .i64 0],true⟩
theorem Yez:TyOk Try.prog 42 Yc2 := .g (by kernel_rfl) ⟨_,Try.underlying42,rfl⟩ (fun _=>by unfold EqTy;exact ⟨by kernel_rfl,by kernel_rfl,by kernel_rfl⟩)
def Yc3:TyI:=⟨.ptr 93,1,8,[.pointer none],false⟩
theorem Ye0:TyOk Try.prog 43 Yc3 := .s (by kernel_rfl) Try.underlying43
def Yc4:TyI:=⟨.slice 3,1,24,[.slice none 0 0],false⟩
theorem Ye1:TyOk Try.prog 45 Yc4 := .s (by kernel_rfl) Try.underlying45
theorem Ye2:TyOk Try.prog 46 tE2 := .s (by kernel_rfl) Try.underlying46
def Z9q:TyI:=⟨.struct [(0,28),(1,3),(2,3),(3,3),(4,3),(5,3),(6,3),(7,3),(8,3)],9,72,[.pointer none,.int .i64 0,.int .i64 0,.int .i64 0,.int .i64 0,.int .i64 0,.int .i64 0,.int .i64 0,.int .i64 0],false⟩
theorem Ye3:TyOk Try.prog 49 Z9q := .g (by kernel_rfl) ⟨_,Try.underlying49,rfl⟩
theorem Ye4:TyOk Try.prog 50 Z9q := .g (by kernel_rfl) ⟨_,Try.underlying50,rfl⟩
theorem Ye5:TyOk Try.prog 58 Z4z := .s (by kernel_rfl) Try.underlying58
def Z9r:TyI:=⟨.struct [(0,28)],1,8,[.pointer none],false⟩
theorem Ye6:TyOk Try.prog 60 Z9r := .g (by kernel_rfl) ⟨_,Try.underlying60,rfl⟩
theorem Ye7:TyOk Try.prog 61 Z9r := .g (by kernel_rfl) ⟨_,Try.underlying61,rfl⟩
def Yc5:TyI:=⟨.ptr 71,1,8,[.pointer none],false⟩
theorem Ye8:TyOk Try.prog 67 Yc5 := .s (by kernel_rfl) Try.underlying67
def Yc6:TyI:=⟨.ptr 76,1,8,[.pointer none],false⟩
theorem Ye9:TyOk Try.prog 68 Yc6 := .s (by kernel_rfl) Try.underlying68
def Z9s:TyI:=⟨.struct [(0,68),(1,4)],2,16,[.pointer none,.bool false],false⟩
theorem Yfa:TyOk Try.prog 70 Z9s := .g (by kernel_rfl) ⟨_,Try.underlying70,rfl⟩
theorem Yfb:TyOk Try.prog 71 Z9s := .g (by kernel_rfl) ⟨_,Try.underlying71,rfl⟩
def Z9t:TyI:=⟨.struct [(0,31),(1,3),(2,3),(3,3)],4,48,[.slice none 0 0,.int .i64 0,.int .i64 0,.int .i64 0],false⟩
theorem Yfc:TyOk Try.prog 75 Z9t := .g (by kernel_rfl) ⟨_,Try.underlying75,rfl⟩
theorem Yfd:TyOk Try.prog 76 Z9t := .g (by kernel_rfl) ⟨_,Try.underlying76,rfl⟩
def Z9u:TyI:=⟨.struct [(0,31),(1,3),(2,3)],3,40,[.slice none 0 0,.int .i64 0,.int .i64 0],false⟩
theorem Yfe:TyOk Try.prog 79 Z9u := .g (by kernel_rfl) ⟨_,Try.underlying79,rfl⟩
theorem Yff:TyOk Try.prog 80 Z9u := .g (by kernel_rfl) ⟨_,Try.underlying80,rfl⟩
def Z9v:TyI:=⟨.struct [(0,22),(1,3)],2,32,[.slice none 0 0,.int .i64 0],false⟩
theorem Yfg:TyOk Try.prog 82 Z9v := .g (by kernel_rfl) ⟨_,Try.underlying82,rfl⟩
theorem Yfh:TyOk Try.prog 83 Z9v := .g (by kernel_rfl) ⟨_,Try.underlying83,rfl⟩
def Yc7:TyI:=⟨.struct [(0,3),(1,3),(2,3),(3,3),(4,3),(5,3),(6,58)],7,56,[.int .i64 0,.int .i64 0,.int .i64 0,.int .i64 0,.int .i64 0,.int .i64 0,.int .u64 0],false⟩
theorem Yfi:TyOk Try.prog 86 Yc7 := .g (by kernel_rfl) ⟨_,Try.underlying86,rfl⟩
def Yc8:TyI:=⟨.struct [(0,3),(1,3),(2,3),(3,3),(4,3),(5,3),(6,58)],7,56,[.int .i64 0,.int .i64 0,.int .i64 0,.int .i64 0,.int .i64 0,.int .i64 0,.int .u64 0],true⟩
theorem Yfj:TyOk Try.prog 87 Yc8 := .g (by kernel_rfl) ⟨_,Try.underlying87,rfl⟩ (fun _=>by unfold EqTy;exact ⟨by kernel_rfl,by kernel_rfl,by kernel_rfl⟩)
def Yc9:TyI:=⟨.slice 99,1,24,[.slice none 0 0],false⟩
theorem Yfk:TyOk Try.prog 91 Yc9 := .s (by kernel_rfl) Try.underlying91
def Z9w:TyI:=⟨.struct [(0,91),(1,45)],2,48,[.slice none 0 0,.slice none 0 0],false⟩
theorem Yfl:TyOk Try.prog 92 Z9w := .g (by kernel_rfl) ⟨_,Try.underlying92,rfl⟩
theorem Yfm:TyOk Try.prog 93 Z9w := .g (by kernel_rfl) ⟨_,Try.underlying93,rfl⟩
def Z9x:TyI:=⟨.struct [(0,58),(1,50)],10,80,[.int .u64 0,.pointer none,.int .i64 0,.int .i64 0,.int .i64 0,.int .i64 0,.int .i64 0,.int .i64 0,.int .i64 0,.int .i64 0],false⟩
theorem Yfn:TyOk Try.prog 98 Z9x := .g (by kernel_rfl) ⟨_,Try.underlying98,rfl⟩
theorem Yfo:TyOk Try.prog 99 Z9x := .g (by kernel_rfl) ⟨_,Try.underlying99,rfl⟩
def Yaj:TyI:=⟨.struct [(0,3),(1,3),(2,3),(3,3),(4,3),(5,3),(6,3),(7,4)],8,64,[.int .i64 0,.int .i64 0,.int .i64 0,.int .i64 0,.int .i64 0,.int .i64 0,.int .i64 0,.bool false],false⟩
theorem Ydc:TyOk Try.prog 108 Yaj := .g (by kernel_rfl) ⟨_,Try.underlying108,rfl⟩
def Z3l:TyI:=⟨.struct [(0,3),(1,3),(2,3),(3,3),(4,3),(5,3),(6,3),(7,4)],8,64,[.int .i64 0,.int .i64 0,.int .i64 0,.int .i64 0,.int .i64 0,.int .i64 0,.int .i64 0,.bool false],true⟩
theorem Ydd:TyOk Try.prog 109 Z3l := .g (by kernel_rfl) ⟨_,Try.underlying109,rfl⟩ (fun _=>by unfold EqTy;exact ⟨by kernel_rfl,by kernel_rfl,by kernel_rfl⟩)
def Yak:TyI:=⟨.ptr 83,1,8,[.pointer none],false⟩
theorem Yde:TyOk Try.prog 122 Yak := .s (by kernel_rfl) Try.underlying122
theorem Ydf:TyOk Try.prog 125 Z3l := .g (by kernel_rfl) ⟨_,Try.underlying125,rfl⟩ (fun _=>by unfold EqTy;exact ⟨by kernel_rfl,by kernel_rfl,by kernel_rfl⟩)
def Yal:TyI:=⟨.struct [(0,125),(8,3),(9,3)],10,80,[.int .i64 0,.int .i64 0,.int .i64 0,.int .i64 0,.int .i64 0,.int .i64 0,.int .i64 0,.bool false,.int .i64 0,.int .i64 0],false⟩
theorem Ydg:TyOk Try.prog 126 Yal := .g (by kernel_rfl) ⟨_,Try.underlying126,rfl⟩
def Yam:TyI:=⟨.struct [(0,125),(8,3),(9,3)],10,80,[.int .i64 0,.int .i64 0,.int .i64 0,.int .i64 0,.int .i64 0,.int .i64 0,.int .i64 0,.bool false,.int .i64 0,.int .i64 0],true⟩
theorem Ydh:TyOk Try.prog 127 Yam := .g (by kernel_rfl) ⟨_,Try.underlying127,rfl⟩ (fun _=>by unfold EqTy;exact ⟨by kernel_rfl,by kernel_rfl,by kernel_rfl⟩)
def Yan:TyI:=⟨.struct [(0,58),(1,3)],2,16,[.int .u64 0,.int .i64 0],false⟩
theorem Ydi:TyOk Try.prog 134 Yan := .g (by kernel_rfl) ⟨_,Try.underlying134,rfl⟩
def Yao:TyI:=⟨.struct [(0,58),(1,3)],2,16,[.int .u64 0,.int .i64 0],true⟩
theorem Ydj:TyOk Try.prog 135 Yao := .g (by kernel_rfl) ⟨_,Try.underlying135,rfl⟩ (fun _=>by unfold EqTy;exact ⟨by kernel_rfl,by kernel_rfl,by kernel_rfl⟩)
def Yap:TyI:=⟨.struct [(0,109),(8,3),(9,3)],10,80,[.int .i64 0,.int .i64 0,.int .i64 0,.int .i64 0,.int .i64 0,.int .i64 0,.int .i64 0,.bool false,.int .i64 0,.int .i64 0],false⟩
theorem Ydk:TyOk Try.prog 159 Yap := .g (by kernel_rfl) ⟨_,Try.underlying159,rfl⟩
def Yaq:TyI:=⟨.struct [(0,109),(8,3),(9,3)],10,80,[.int .i64 0,.int .i64 0,.int .i64 0,.int .i64 0,.int .i64 0,.int .i64 0,.int .i64 0,.bool false,.int .i64 0,.int .i64 0],true⟩
theorem Ydl:TyOk Try.prog 160 Yaq := .g (by kernel_rfl) ⟨_,Try.underlying160,rfl⟩ (fun _=>by unfold EqTy;exact ⟨by kernel_rfl,by kernel_rfl,by kernel_rfl⟩)
def Yar:TyI:=⟨.ptr 135,1,8,[.pointer none],false⟩
theorem Ydm:TyOk Try.prog 164 Yar := .s (by kernel_rfl) Try.underlying164
def Yas:TyI:=⟨.arr 7 3,7,56,[.int .i64 0,.int .i64 0,.int .i64 0,.int .i64 0,.int .i64 0,.int .i64 0,.int .i64 0],true⟩
theorem Ydn:TyOk Try.prog 171 Yas := .g (by kernel_rfl) Try.underlying171 (fun _=>by unfold EqTy;exact ⟨by kernel_rfl,by kernel_rfl,by kernel_rfl⟩)
def Yat:TyI:=⟨.int .u32,1,4,[.int .u32 0],false⟩
theorem Ydo:TyOk Try.prog 175 Yat := .s (by kernel_rfl) Try.underlying175
theorem Ydp:TyOk Try.prog 176 Z4z := .s (by kernel_rfl) Try.underlying176
def Yau:TyI:=⟨.struct [(0,3)],1,8,[.int .i64 0],false⟩
theorem Ydq:TyOk Try.prog 182 Yau := .g (by kernel_rfl) ⟨_,Try.underlying182,rfl⟩
def Yav:TyI:=⟨.struct [(0,3)],1,8,[.int .i64 0],true⟩
theorem Ydr:TyOk Try.prog 183 Yav := .g (by kernel_rfl) ⟨_,Try.underlying183,rfl⟩ (fun _=>by unfold EqTy;exact ⟨by kernel_rfl,by kernel_rfl,by kernel_rfl⟩)
def Yaw:TyI:=⟨.arr 6 3,6,48,[.int .i64 0,.int .i64 0,.int .i64 0,.int .i64 0,.int .i64 0,.int .i64 0],true⟩
theorem Yds:TyOk Try.prog 185 Yaw := .g (by kernel_rfl) Try.underlying185 (fun _=>by unfold EqTy;exact ⟨by kernel_rfl,by kernel_rfl,by kernel_rfl⟩)
def Yax:TyI:=⟨.ptr 183,1,8,[.pointer none],false⟩
theorem Ydt:TyOk Try.prog 187 Yax := .s (by kernel_rfl) Try.underlying187
def Z3m:TyI:=⟨.struct [(0,17),(1,17),(2,17),(3,9)],4,40,[.pointer none,.pointer none,.pointer none,.string ByteArray.empty],false⟩
theorem Ydu:TyOk Try.prog 191 Z3m := .g (by kernel_rfl) ⟨_,Try.underlying191,rfl⟩
theorem Ydv:TyOk Try.prog 192 Z3m := .g (by kernel_rfl) ⟨_,Try.underlying192,rfl⟩
theorem Ydw:TyOk Try.prog 196 tE5 := .s (by kernel_rfl) Try.underlying196
theorem Ydx:TyOk Try.prog 197 tE5 := .s (by kernel_rfl) Try.underlying197
def Yay:TyI:=⟨.ptr 5,1,8,[.pointer none],false⟩
theorem Ydy:TyOk Try.prog 199 Yay := .s (by kernel_rfl) Try.underlying199
theorem Ydz:TyOk Try.prog 200 Z40 := .s (by kernel_rfl) Try.underlying200
theorem Yd0:TyOk Try.prog 201 Z40 := .s (by kernel_rfl) Try.underlying201
def tabL:List (Nat×TyI):=[(2,tE2),(3,tE2),(4,tE4),(5,tE5),(6,tE5),(7,tE7),(8,tE7),(9,tE9),(10,tE9),(11,tE9),(12,Z4z),(13,Z9n),(14,Z9n),(15,Ycu),(16,Ycv),(17,Ycw),(18,Z9o),(19,Z9o),(21,Z40),(22,Ycx),(23,Ycy),(24,Z9p),(25,Z9p),(28,Ycz),(31,Yc0),(41,Yc1),(42,Yc2),(43,Yc3),(45,Yc4),(46,tE2),(49,Z9q),(50,Z9q),(58,Z4z),(60,Z9r),(61,Z9r),(67,Yc5),(68,Yc6),(70,Z9s),(71,Z9s),(75,Z9t),(76,Z9t),(79,Z9u),(80,Z9u),(82,Z9v),(83,Z9v),(86,Yc7),(87,Yc8),(91,Yc9),(92,Z9w),(93,Z9w),(98,Z9x),(99,Z9x),(108,Yaj),(109,Z3l),(122,Yak),(125,Z3l),(126,Yal),(127,Yam),(134,Yan),(135,Yao),(159,Yap),(160,Yaq),(164,Yar),(171,Yas),(175,Yat),(176,Z4z),(182,Yau),(183,Yav),(185,Yaw),(187,Yax),(191,Z3m),(192,Z3m),(196,tE5),(197,tE5),(199,Yay),(200,Z40),(201,Z40)]
def Qt:Kf:=fun t=>tabL.lookup t
theorem Zc:Qf Try.prog Qt:=fun t i h=>by
 have hm:=Zt0 _ h
 unfold tabL at hm
 simp only [List.mem_cons,Prod.mk.injEq,List.not_mem_nil,or_false] at hm
 rcases hm with ⟨rfl,rfl⟩ | ⟨rfl,rfl⟩ | ⟨rfl,rfl⟩ | ⟨rfl,rfl⟩ | ⟨rfl,rfl⟩ | ⟨rfl,rfl⟩ | ⟨rfl,rfl⟩ | ⟨rfl,rfl⟩ | ⟨rfl,rfl⟩ | ⟨rfl,rfl⟩ | ⟨rfl,rfl⟩ | ⟨rfl,rfl⟩ | ⟨rfl,rfl⟩ | ⟨rfl,rfl⟩ | ⟨rfl,rfl⟩ | ⟨rfl,rfl⟩ | ⟨rfl,rfl⟩ | ⟨rfl,rfl⟩ | ⟨rfl,rfl⟩ | ⟨rfl,rfl⟩ | ⟨rfl,rfl⟩ | ⟨rfl,rfl⟩ | ⟨rfl,rfl⟩ | ⟨rfl,rfl⟩ | ⟨rfl,rfl⟩ | ⟨rfl,rfl⟩ | ⟨rfl,rfl⟩ | ⟨rfl,rfl⟩ | ⟨rfl,rfl⟩ | ⟨rfl,rfl⟩ | ⟨rfl,rfl⟩ | ⟨rfl,rfl⟩ | ⟨rfl,rfl⟩ | ⟨rfl,rfl⟩ | ⟨rfl,rfl⟩ | ⟨rfl,rfl⟩ | ⟨rfl,rfl⟩ | ⟨rfl,rfl⟩ | ⟨rfl,rfl⟩ | ⟨rfl,rfl⟩ | ⟨rfl,rfl⟩ | ⟨rfl,rfl⟩ | ⟨rfl,rfl⟩ | ⟨rfl,rfl⟩ | ⟨rfl,rfl⟩ | ⟨rfl,rfl⟩ | ⟨rfl,rfl⟩ | ⟨rfl,rfl⟩ | ⟨rfl,rfl⟩ | ⟨rfl,rfl⟩ | ⟨rfl,rfl⟩ | ⟨rfl,rfl⟩ | ⟨rfl,rfl⟩ | ⟨rfl,rfl⟩ | ⟨rfl,rfl⟩ | ⟨rfl,rfl⟩ | ⟨rfl,rfl⟩ | ⟨rfl,rfl⟩ | ⟨rfl,rfl⟩ | ⟨rfl,rfl⟩ | ⟨rfl,rfl⟩ | ⟨rfl,rfl⟩ | ⟨rfl,rfl⟩ | ⟨rfl,rfl⟩ | ⟨rfl,rfl⟩ | ⟨rfl,rfl⟩ | ⟨rfl,rfl⟩ | ⟨rfl,rfl⟩ | ⟨rfl,rfl⟩ | ⟨rfl,rfl⟩ | ⟨rfl,rfl⟩ | ⟨rfl,rfl⟩ | ⟨rfl,rfl⟩ | ⟨rfl,rfl⟩ | ⟨rfl,rfl⟩ | ⟨rfl,rfl⟩ | ⟨rfl,rfl⟩
 ·exact ty2
 ·exact ty3
 ·exact ty4
 ·exact ty5
 ·exact ty6
 ·exact ty7
 ·exact ty8
 ·exact ty9
 ·exact Yeh
 ·exact Yei
 ·exact Yej
 ·exact Yek
 ·exact Yel
 ·exact Yem
 ·exact Yen
 ·exact Yeo
 ·exact Yep
 ·exact Yeq
 ·exact Yer
 ·exact Yes
 ·exact Yet
 ·exact Yeu
 ·exact Yev
 ·exact Yew
 ·exact Yex
 ·exact Yey
 ·exact Yez
 ·exact Ye0
 ·exact Ye1
 ·exact Ye2
 ·exact Ye3
 ·exact Ye4
 ·exact Ye5
 ·exact Ye6
 ·exact Ye7
 ·exact Ye8
 ·exact Ye9
 ·exact Yfa
 ·exact Yfb
 ·exact Yfc
 ·exact Yfd
 ·exact Yfe
 ·exact Yff
 ·exact Yfg
 ·exact Yfh
 ·exact Yfi
 ·exact Yfj
 ·exact Yfk
 ·exact Yfl
 ·exact Yfm
 ·exact Yfn
 ·exact Yfo
 ·exact Ydc
 ·exact Ydd
 ·exact Yde
 ·exact Ydf
 ·exact Ydg
 ·exact Ydh
 ·exact Ydi
 ·exact Ydj
 ·exact Ydk
 ·exact Ydl
 ·exact Ydm
 ·exact Ydn
 ·exact Ydo
 ·exact Ydp
 ·exact Ydq
 ·exact Ydr
 ·exact Yds
 ·exact Ydt
 ·exact Ydu
 ·exact Ydv
 ·exact Ydw
 ·exact Ydx
 ·exact Ydy
 ·exact Ydz
 exact Yd0
theorem Z41:Qt 2=some ⟨.int .i64,1,8,[.int .i64 0],false⟩:=rfl
theorem Zok:Qt 3=some ⟨.int .i64,1,8,[.int .i64 0],false⟩:=rfl
theorem Z42:Qt 4=some ⟨.bool,1,1,[.bool false],false⟩:=rfl
theorem Z43:Qt 5=some ⟨.int .u8,1,1,[.int .u8 0],false⟩:=rfl
theorem Z44:Qt 6=some ⟨.int .u8,1,1,[.int .u8 0],false⟩:=rfl
theorem Z45:Qt 7=some ⟨.struct [(0,2),(1,3),(2,4),(3,6)],4,24,[.int .i64 0,.int .i64 0,.bool false,.int .u8 0],false⟩:=rfl
theorem Z46:Qt 8=some ⟨.struct [(0,2),(1,3),(2,4),(3,6)],4,24,[.int .i64 0,.int .i64 0,.bool false,.int .u8 0],false⟩:=rfl
theorem Z47:Qt 9=some ⟨.str,1,16,[.string ByteArray.empty],false⟩:=rfl
theorem Zv2:Qt 10=some ⟨.str,1,16,[.string ByteArray.empty],false⟩:=rfl
theorem Zv3:Qt 11=some ⟨.str,1,16,[.string ByteArray.empty],false⟩:=rfl
theorem Zv4:Qt 12=some ⟨.int .u64,1,8,[.int .u64 0],false⟩:=rfl
theorem Zv5:Qt 13=some ⟨.struct [(0,9),(1,12)],2,24,[.string ByteArray.empty,.int .u64 0],false⟩:=rfl
theorem Zv6:Qt 14=some ⟨.struct [(0,9),(1,12)],2,24,[.string ByteArray.empty,.int .u64 0],false⟩:=rfl
theorem Zv7:Qt 15=some ⟨.ptr 192,1,8,[.pointer none],false⟩:=rfl
theorem Zv8:Qt 16=some ⟨.ptr 195,1,8,[.pointer none],false⟩:=rfl
theorem Zv9:Qt 17=some ⟨.ptr 203,1,8,[.pointer none],false⟩:=rfl
theorem Zwa:Qt 18=some ⟨.struct [(0,17)],1,8,[.pointer none],false⟩:=rfl
theorem Zwb:Qt 19=some ⟨.struct [(0,17)],1,8,[.pointer none],false⟩:=rfl
theorem Zwc:Qt 21=some ⟨.int .i32,1,4,[.int .i32 0],false⟩:=rfl
theorem U1:Qt 22=some ⟨.slice 58,1,24,[.slice none 0 0],false⟩:=rfl
theorem Zr8:Qt 23=some ⟨.slice 25,1,24,[.slice none 0 0],false⟩:=rfl
theorem Zwd:Qt 24=some ⟨.struct [(0,3),(1,22),(2,23)],3,56,[.int .i64 0,.slice none 0 0,.slice none 0 0],false⟩:=rfl
theorem Za3:Qt 25=some ⟨.struct [(0,3),(1,22),(2,23)],3,56,[.int .i64 0,.slice none 0 0,.slice none 0 0],false⟩:=rfl
theorem Zwe:Qt 28=some ⟨.ptr 80,1,8,[.pointer none],false⟩:=rfl
theorem Zwf:Qt 31=some ⟨.slice 22,1,24,[.slice none 0 0],false⟩:=rfl
theorem Zwg:Qt 41=some ⟨.struct [(0,3),(1,3),(2,3),(3,3)],4,32,[.int .i64 0,.int .i64 0,.int .i64 0,.int .i64 0],false⟩:=rfl
theorem Zwh:Qt 42=some ⟨.struct [(0,3),(1,3),(2,3),(3,3)],4,32,[.int .i64 0,.int .i64 0,.int .i64 0,.int .i64 0],true⟩:=rfl
theorem Zwi:Qt 43=some ⟨.ptr 93,1,8,[.pointer none],false⟩:=rfl
theorem Zwj:Qt 45=some ⟨.slice 3,1,24,[.slice none 0 0],false⟩:=rfl
theorem Zwk:Qt 46=some ⟨.int .i64,1,8,[.int .i64 0],false⟩:=rfl
theorem Zwl:Qt 49=some ⟨.struct [(0,28),(1,3),(2,3),(3,3),(4,3),(5,3),(6,3),(7,3),(8,3)],9,72,[.pointer none,.int .i64 0,.int .i64 0,.int .i64 0,.int .i64 0,.int .i64 0,.int .i64 0,.int .i64 0,.int .i64 0],false⟩:=rfl
theorem Zwm:Qt 50=some ⟨.struct [(0,28),(1,3),(2,3),(3,3),(4,3),(5,3),(6,3),(7,3),(8,3)],9,72,[.pointer none,.int .i64 0,.int .i64 0,.int .i64 0,.int .i64 0,.int .i64 0,.int .i64 0,.int .i64 0,.int .i64 0],false⟩:=rfl
theorem Vz:Qt 58=some ⟨.int .u64,1,8,[.int .u64 0],false⟩:=rfl
theorem Zwn:Qt 60=some ⟨.struct [(0,28)],1,8,[.pointer none],false⟩:=rfl
theorem Zwo:Qt 61=some ⟨.struct [(0,28)],1,8,[.pointer none],false⟩:=rfl
theorem Zwp:Qt 67=some ⟨.ptr 71,1,8,[.pointer none],false⟩:=rfl
theorem Zwq:Qt 68=some ⟨.ptr 76,1,8,[.pointer none],false⟩:=rfl
theorem Zwr:Qt 70=some ⟨.struct [(0,68),(1,4)],2,16,[.pointer none,.bool false],false⟩:=rfl
theorem Zws:Qt 71=some ⟨.struct [(0,68),(1,4)],2,16,[.pointer none,.bool false],false⟩:=rfl
theorem Zwt:Qt 75=some ⟨.struct [(0,31),(1,3),(2,3),(3,3)],4,48,[.slice none 0 0,.int .i64 0,.int .i64 0,.int .i64 0],false⟩:=rfl
theorem Zwu:Qt 76=some ⟨.struct [(0,31),(1,3),(2,3),(3,3)],4,48,[.slice none 0 0,.int .i64 0,.int .i64 0,.int .i64 0],false⟩:=rfl
theorem Zwv:Qt 79=some ⟨.struct [(0,31),(1,3),(2,3)],3,40,[.slice none 0 0,.int .i64 0,.int .i64 0],false⟩:=rfl
theorem Zww:Qt 80=some ⟨.struct [(0,31),(1,3),(2,3)],3,40,[.slice none 0 0,.int .i64 0,.int .i64 0],false⟩:=rfl
theorem Zwx:Qt 82=some ⟨.struct [(0,22),(1,3)],2,32,[.slice none 0 0,.int .i64 0],false⟩:=rfl
theorem Zwy:Qt 83=some ⟨.struct [(0,22),(1,3)],2,32,[.slice none 0 0,.int .i64 0],false⟩:=rfl
theorem Zwz:Qt 86=some ⟨.struct [(0,3),(1,3),(2,3),(3,3),(4,3),(5,3),(6,58)],7,56,[.int .i64 0,.int .i64 0,.int .i64 0,.int .i64 0,.int .i64 0,.int .i64 0,.int .u64 0],false⟩:=rfl
theorem Zw0:Qt 87=some ⟨.struct [(0,3),(1,3),(2,3),(3,3),(4,3),(5,3),(6,58)],7,56,[.int .i64 0,.int .i64 0,.int .i64 0,.int .i64 0,.int .i64 0,.int .i64 0,.int .u64 0],true⟩:=rfl
theorem Zw1:Qt 91=some ⟨.slice 99,1,24,[.slice none 0 0],false⟩:=rfl
theorem Zw2:Qt 92=some ⟨.struct [(0,91),(1,45)],2,48,[.slice none 0 0,.slice none 0 0],false⟩:=rfl
theorem Zw3:Qt 93=some ⟨.struct [(0,91),(1,45)],2,48,[.slice none 0 0,.slice none 0 0],false⟩:=rfl
theorem Zw4:Qt 98=some ⟨.struct [(0,58),(1,50)],10,80,[.int .u64 0,.pointer none,.int .i64 0,.int .i64 0,.int .i64 0,.int .i64 0,.int .i64 0,.int .i64 0,.int .i64 0,.int .i64 0],false⟩:=rfl
theorem Zps:Qt 99=some ⟨.struct [(0,58),(1,50)],10,80,[.int .u64 0,.pointer none,.int .i64 0,.int .i64 0,.int .i64 0,.int .i64 0,.int .i64 0,.int .i64 0,.int .i64 0,.int .i64 0],false⟩:=rfl
theorem Zqy:Qt 108=some ⟨.struct [(0,3),(1,3),(2,3),(3,3),(4,3),(5,3),(6,3),(7,4)],8,64,[.int .i64 0,.int .i64 0,.int .i64 0,.int .i64 0,.int .i64 0,.int .i64 0,.int .i64 0,.bool false],false⟩:=rfl
theorem Zqz:Qt 109=some ⟨.struct [(0,3),(1,3),(2,3),(3,3),(4,3),(5,3),(6,3),(7,4)],8,64,[.int .i64 0,.int .i64 0,.int .i64 0,.int .i64 0,.int .i64 0,.int .i64 0,.int .i64 0,.bool false],true⟩:=rfl
theorem Zq0:Qt 122=some ⟨.ptr 83,1,8,[.pointer none],false⟩:=rfl
theorem Zq1:Qt 125=some ⟨.struct [(0,3),(1,3),(2,3),(3,3),(4,3),(5,3),(6,3),(7,4)],8,64,[.int .i64 0,.int .i64 0,.int .i64 0,.int .i64 0,.int .i64 0,.int .i64 0,.int .i64 0,.bool false],true⟩:=rfl
theorem Zq2:Qt 126=some ⟨.struct [(0,125),(8,3),(9,3)],10,80,[.int .i64 0,.int .i64 0,.int .i64 0,.int .i64 0,.int .i64 0,.int .i64 0,.int .i64 0,.bool false,.int .i64 0,.int .i64 0],false⟩:=rfl
theorem Zq3:Qt 127=some ⟨.struct [(0,125),(8,3),(9,3)],10,80,[.int .i64 0,.int .i64 0,.int .i64 0,.int .i64 0,.int .i64 0,.int .i64 0,.int .i64 0,.bool false,.int .i64 0,.int .i64 0],true⟩:=rfl
theorem Zq4:Qt 134=some ⟨.struct [(0,58),(1,3)],2,16,[.int .u64 0,.int .i64 0],false⟩:=rfl
theorem Zq5:Qt 135=some ⟨.struct [(0,58),(1,3)],2,16,[.int .u64 0,.int .i64 0],true⟩:=rfl
theorem Zq6:Qt 159=some ⟨.struct [(0,109),(8,3),(9,3)],10,80,[.int .i64 0,.int .i64 0,.int .i64 0,.int .i64 0,.int .i64 0,.int .i64 0,.int .i64 0,.bool false,.int .i64 0,.int .i64 0],false⟩:=rfl
theorem Zq7:Qt 160=some ⟨.struct [(0,109),(8,3),(9,3)],10,80,[.int .i64 0,.int .i64 0,.int .i64 0,.int .i64 0,.int .i64 0,.int .i64 0,.int .i64 0,.bool false,.int .i64 0,.int .i64 0],true⟩:=rfl
theorem Zq8:Qt 164=some ⟨.ptr 135,1,8,[.pointer none],false⟩:=rfl
theorem Zq9:Qt 171=some ⟨.arr 7 3,7,56,[.int .i64 0,.int .i64 0,.int .i64 0,.int .i64 0,.int .i64 0,.int .i64 0,.int .i64 0],true⟩:=rfl
theorem Zra:Qt 175=some ⟨.int .u32,1,4,[.int .u32 0],false⟩:=rfl
theorem Zrb:Qt 176=some ⟨.int .u64,1,8,[.int .u64 0],false⟩:=rfl
theorem Zrc:Qt 183=some ⟨.struct [(0,3)],1,8,[.int .i64 0],true⟩:=rfl
theorem Zrd:Qt 185=some ⟨.arr 6 3,6,48,[.int .i64 0,.int .i64 0,.int .i64 0,.int .i64 0,.int .i64 0,.int .i64 0],true⟩:=rfl
theorem Zre:Qt 187=some ⟨.ptr 183,1,8,[.pointer none],false⟩:=rfl
theorem Zrf:Yf Qt 2=some (.int .i64):=rfl
theorem Zrg:Yf Qt 3=some (.int .i64):=rfl
theorem Zrh:Yf Qt 4=some (.bool):=rfl
theorem Zri:Yf Qt 5=some (.int .u8):=rfl
theorem Zrj:Yf Qt 6=some (.int .u8):=rfl
theorem Zrk:Yf Qt 7=some (.struct [(0,2),(1,3),(2,4),(3,6)]):=rfl
theorem Zrl:Yf Qt 8=some (.struct [(0,2),(1,3),(2,4),(3,6)]):=rfl
theorem Zrm:Yf Qt 9=some (.str):=rfl
theorem Zlv:Yf Qt 10=some (.str):=rfl
theorem Zlw:Yf Qt 11=some (.str):=rfl
theorem Zlx:Yf Qt 12=some (.int .u64):=rfl
theorem Zly:Yf Qt 13=some (.struct [(0,9),(1,12)]):=rfl
theorem Zlz:Yf Qt 14=some (.struct [(0,9),(1,12)]):=rfl
theorem Zl0:Yf Qt 15=some (.ptr 192):=rfl
theorem Zl1:Yf Qt 16=some (.ptr 195):=rfl
theorem Zl2:Yf Qt 17=some (.ptr 203):=rfl
theorem Zl3:Yf Qt 18=some (.struct [(0,17)]):=rfl
theorem Zl4:Yf Qt 19=some (.struct [(0,17)]):=rfl
theorem Zl5:Yf Qt 21=some (.int .i32):=rfl
theorem Zdd:Yf Qt 22=some (.slice 58):=rfl
theorem Ziu:Yf Qt 23=some (.slice 25):=rfl
theorem Zl6:Yf Qt 24=some (.struct [(0,3),(1,22),(2,23)]):=rfl
theorem Zl7:Yf Qt 25=some (.struct [(0,3),(1,22),(2,23)]):=rfl
theorem Ziv:Yf Qt 28=some (.ptr 80):=rfl
theorem Zl8:Yf Qt 31=some (.slice 22):=rfl
theorem Zl9:Yf Qt 41=some (.struct [(0,3),(1,3),(2,3),(3,3)]):=rfl
theorem Zma:Yf Qt 42=some (.struct [(0,3),(1,3),(2,3),(3,3)]):=rfl
theorem Ziw:Yf Qt 43=some (.ptr 93):=rfl
theorem Zmb:Yf Qt 45=some (.slice 3):=rfl
theorem Zmc:Yf Qt 46=some (.int .i64):=rfl
theorem Zmd:Yf Qt 49=some (.struct [(0,28),(1,3),(2,3),(3,3),(4,3),(5,3),(6,3),(7,3),(8,3)]):=rfl
theorem Zme:Yf Qt 50=some (.struct [(0,28),(1,3),(2,3),(3,3),(4,3),(5,3),(6,3),(7,3),(8,3)]):=rfl
theorem Zmf:Yf Qt 58=some (.int .u64):=rfl
theorem Zmg:Yf Qt 60=some (.struct [(0,28)]):=rfl
theorem Zmh:Yf Qt 61=some (.struct [(0,28)]):=rfl
theorem Zmi:Yf Qt 67=some (.ptr 71):=rfl
theorem Zmj:Yf Qt 68=some (.ptr 76):=rfl
theorem Zmk:Yf Qt 70=some (.struct [(0,68),(1,4)]):=rfl
theorem Zml:Yf Qt 71=some (.struct [(0,68),(1,4)]):=rfl
theorem Zmm:Yf Qt 75=some (.struct [(0,31),(1,3),(2,3),(3,3)]):=rfl
theorem Zmn:Yf Qt 76=some (.struct [(0,31),(1,3),(2,3),(3,3)]):=rfl
theorem Zmo:Yf Qt 79=some (.struct [(0,31),(1,3),(2,3)]):=rfl
theorem Zmp:Yf Qt 80=some (.struct [(0,31),(1,3),(2,3)]):=rfl
theorem Zmq:Yf Qt 82=some (.struct [(0,22),(1,3)]):=rfl
theorem Zmr:Yf Qt 83=some (.struct [(0,22),(1,3)]):=rfl
theorem Zms:Yf Qt 86=some (.struct [(0,3),(1,3),(2,3),(3,3),(4,3),(5,3),(6,58)]):=rfl
theorem Zmt:Yf Qt 87=some (.struct [(0,3),(1,3),(2,3),(3,3),(4,3),(5,3),(6,58)]):=rfl
theorem Zmu:Yf Qt 91=some (.slice 99):=rfl
theorem Zmv:Yf Qt 92=some (.struct [(0,91),(1,45)]):=rfl
theorem Zmw:Yf Qt 93=some (.struct [(0,91),(1,45)]):=rfl
theorem Zmx:Yf Qt 98=some (.struct [(0,58),(1,50)]):=rfl
theorem Zmy:Yf Qt 99=some (.struct [(0,58),(1,50)]):=rfl
theorem Zhl:Yf Qt 108=some (.struct [(0,3),(1,3),(2,3),(3,3),(4,3),(5,3),(6,3),(7,4)]):=rfl
theorem Zhm:Yf Qt 109=some (.struct [(0,3),(1,3),(2,3),(3,3),(4,3),(5,3),(6,3),(7,4)]):=rfl
theorem Zhn:Yf Qt 122=some (.ptr 83):=rfl
theorem Zho:Yf Qt 125=some (.struct [(0,3),(1,3),(2,3),(3,3),(4,3),(5,3),(6,3),(7,4)]):=rfl
theorem Zhp:Yf Qt 126=some (.struct [(0,125),(8,3),(9,3)]):=rfl
theorem Zhq:Yf Qt 127=some (.struct [(0,125),(8,3),(9,3)]):=rfl
theorem Zhr:Yf Qt 134=some (.struct [(0,58),(1,3)]):=rfl
theorem Zhs:Yf Qt 135=some (.struct [(0,58),(1,3)]):=rfl
theorem Zht:Yf Qt 159=some (.struct [(0,109),(8,3),(9,3)]):=rfl
theorem Zhu:Yf Qt 160=some (.struct [(0,109),(8,3),(9,3)]):=rfl
theorem Zhv:Yf Qt 164=some (.ptr 135):=rfl
theorem Zhw:Yf Qt 171=some (.arr 7 3):=rfl
theorem Zhx:Yf Qt 175=some (.int .u32):=rfl
theorem Zhy:Yf Qt 176=some (.int .u64):=rfl
theorem Zhz:Yf Qt 183=some (.struct [(0,3)]):=rfl
theorem Zh0:Yf Qt 185=some (.arr 6 3):=rfl
theorem Zh1:Yf Qt 187=some (.ptr 183):=rfl
end Go.Proofs.Ytaddaloondpnkaa
