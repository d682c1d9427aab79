/- The types of this seat's program, as its dump has them, in the ghost memory's words; no condition. -/
import Derived.Test.YtmjjjfamipncdaaGreatRows
import Derived.Test.YtmjjjfamipncdaaGreatG13
namespace Go.Proofs.YtmjjjfamipncdaaGreat
open Go.RowKit
set_option linter.unusedVariables false
set_option linter.unusedSimpArgs false
theorem TyOk.of {P:Program} {t:TypeId} (k:TK) (size bytes:Nat) (zero:List Value) (z:Value) (h:(P.info? t).map (fun i=>(i.zero,i.size,i.bytes))=some (some z,size,bytes)) (hz:z.cells.toList=zero) (hu:k.ok P t) (hl:zero.length=size) (h1:zero.all Value.oneCell'=true) (eq:Bool) (he:eq=true→EqTy P t):TyOk P t ⟨k,size,bytes,zero,eq⟩:=by
 refine ⟨?_,hu,hl,fun v hv=>List.all_eq_true.1 h1 v hv,he⟩
 cases hi:P.info? t with
 | none=>rw [hi] at h;cases h
 | some i =>
  rw [hi] at h
  simp only [Option.map_some,Option.some.injEq,Prod.mk.injEq] at h
  exact ⟨i,z,rfl,h.2.1,h.2.2,h.1,hz⟩
theorem TyOk.g {P:Program} {t:TypeId} {k:TK} {size bytes:Nat} {zero:List Value} {eq:Bool} (h:(P.info? t).map (fun i=>(i.zero,i.size,i.bytes))=some (some (.agg zero.toArray),size,bytes)) (hu:k.ok P t) (he:eq=true→EqTy P t:=by intro h;cases h) (hz:(Value.agg zero.toArray).cells.toList=zero:=by rfl) (hl:zero.length=size:=by rfl) (h1:zero.all Value.oneCell'=true:=by rfl):TyOk P t ⟨k,size,bytes,zero,eq⟩ := .of k size bytes zero _ h hz hu hl h1 eq he
theorem TyOk.s {P:Program} {t:TypeId} {k:TK} {size bytes:Nat} {z:Value} {eq:Bool} (h:(P.info? t).map (fun i=>(i.zero,i.size,i.bytes))=some (some z,size,bytes)) (hu:k.ok P t) (he:eq=true→EqTy P t:=by intro h;cases h) (hz:z.cells.toList=[z]:=by rfl) (hl:[z].length=size:=by rfl) (h1:[z].all Value.oneCell'=true:=by rfl):TyOk P t ⟨k,size,bytes,[z],eq⟩ := .of k size bytes [z] _ h hz hu hl h1 eq he
theorem EqTy.m {P:Program} {t:TypeId} (h:EqTy P t):true=true→EqTy P t:=fun _=>h
theorem Zt1 {α:Type} {t:Nat} {i:α}:∀ (l:List (Nat×α)),l.lookup t=some i→(t,i)∈l
 | [],h=>by simp at h
 | (a,b)::l,h=>by
  rw [List.lookup_cons] at h
  split at h
  ·rename_i he
   injection h with h
   have:t=a:=by simpa using he
   subst h this
   exact .head _
  exact .tail _ (Zt1 l h)
def tE2:TyI:=⟨.int .i64,1,8,[.int .i64 0],false⟩
theorem ty2:TyOk Tryz.prog 2 tE2 := .s (by kernel_rfl) Tryz.underlying2
theorem ty3:TyOk Tryz.prog 3 tE2 := .s (by kernel_rfl) Tryz.underlying3
def tE4:TyI:=⟨.bool,1,1,[.bool false],false⟩
theorem ty4:TyOk Tryz.prog 4 tE4 := .s (by kernel_rfl) Tryz.underlying4
def tE5:TyI:=⟨.int .u8,1,1,[.int .u8 0],false⟩
theorem ty5:TyOk Tryz.prog 5 tE5 := .s (by kernel_rfl) Tryz.underlying5
theorem ty6:TyOk Tryz.prog 6 tE5 := .s (by kernel_rfl) Tryz.underlying6
def tE7:TyI:=⟨.struct [(0,2),(1,3),(2,4),(3,6)],4,24,[.int .i64 0,.int .i64 0,.bool false,.int .u8 0],false⟩
theorem ty7:TyOk Tryz.prog 7 tE7 := .g (by kernel_rfl) ⟨_,Tryz.underlying7,rfl⟩
theorem ty8:TyOk Tryz.prog 8 tE7 := .g (by kernel_rfl) ⟨_,Tryz.underlying8,rfl⟩
def tE9:TyI:=⟨.str,1,16,[.string ByteArray.empty],false⟩
theorem ty9:TyOk Tryz.prog 9 tE9 := .s (by kernel_rfl) Tryz.underlying9
theorem Yi7:TyOk Tryz.prog 10 tE9 := .s (by kernel_rfl) Tryz.underlying10
theorem Yi8:TyOk Tryz.prog 11 tE9 := .s (by kernel_rfl) Tryz.underlying11
def Z1o:TyI:=⟨.int .u64,1,8,[.int .u64 0],false⟩
theorem Yi9:TyOk Tryz.prog 12 Z1o := .s (by kernel_rfl) Tryz.underlying12
def Yb5:TyI:=⟨.struct [(0,9),(1,12)],2,24,[.string ByteArray.empty,.int .u64 0],false⟩
theorem Yja:TyOk Tryz.prog 13 Yb5 := .g (by kernel_rfl) ⟨_,Tryz.underlying13,rfl⟩
theorem Yjb:TyOk Tryz.prog 14 Yb5 := .g (by kernel_rfl) ⟨_,Tryz.underlying14,rfl⟩
def Yf1:TyI:=⟨.ptr 284,1,8,[.pointer none],false⟩
theorem Yjc:TyOk Tryz.prog 15 Yf1 := .s (by kernel_rfl) Tryz.underlying15
def Yf2:TyI:=⟨.ptr 287,1,8,[.pointer none],false⟩
theorem Yjd:TyOk Tryz.prog 16 Yf2 := .s (by kernel_rfl) Tryz.underlying16
def Yf3:TyI:=⟨.ptr 295,1,8,[.pointer none],false⟩
theorem Yje:TyOk Tryz.prog 17 Yf3 := .s (by kernel_rfl) Tryz.underlying17
def Yb6:TyI:=⟨.struct [(0,17)],1,8,[.pointer none],false⟩
theorem Yjf:TyOk Tryz.prog 18 Yb6 := .g (by kernel_rfl) ⟨_,Tryz.underlying18,rfl⟩
theorem Yjg:TyOk Tryz.prog 19 Yb6 := .g (by kernel_rfl) ⟨_,Tryz.underlying19,rfl⟩
def Z6s:TyI:=⟨.int .i32,1,4,[.int .i32 0],false⟩
theorem Yjh:TyOk Tryz.prog 21 Z6s := .s (by kernel_rfl) Tryz.underlying21
def Yf4:TyI:=⟨.slice 26,1,24,[.slice none 0 0],false⟩
theorem Yji:TyOk Tryz.prog 22 Yf4 := .s (by kernel_rfl) Tryz.underlying22
def Yf5:TyI:=⟨.struct [(0,3),(1,3),(2,3),(3,3)],4,32,[.int .i64 0,.int .i64 0,.int .i64 0,.int .i64 0],false⟩
theorem Yjj:TyOk Tryz.prog 23 Yf5 := .g (by kernel_rfl) ⟨_,Tryz.underlying23,rfl⟩
def Yf6:TyI:=⟨.struct [(0,3),(1,3),(2,3),(3,3)],4,32,[.int .i64 0,.int .i64 0,.int .i64 0,.int .i64 0],true⟩
theorem Yjk:TyOk Tryz.prog 24 Yf6 := .g (by kernel_rfl) ⟨_,Tryz.underlying24,rfl⟩ (fun _=>by unfold EqTy;exact ⟨by kernel_rfl,by kernel_rfl,by kernel_rfl⟩)
def Yf7:TyI:=⟨.slice 49,1,24,[.slice none 0 0],false⟩
theorem Yjl:TyOk Tryz.prog 26 Yf7 := .s (by kernel_rfl) Tryz.underlying26
def Yf8:TyI:=⟨.slice 29,1,24,[.slice none 0 0],false⟩
theorem Yjm:TyOk Tryz.prog 27 Yf8 := .s (by kernel_rfl) Tryz.underlying27
def Yb7:TyI:=⟨.struct [(0,3),(1,26),(2,27)],3,56,[.int .i64 0,.slice none 0 0,.slice none 0 0],false⟩
theorem Yjn:TyOk Tryz.prog 28 Yb7 := .g (by kernel_rfl) ⟨_,Tryz.underlying28,rfl⟩
theorem Yjo:TyOk Tryz.prog 29 Yb7 := .g (by kernel_rfl) ⟨_,Tryz.underlying29,rfl⟩
def Yf9:TyI:=⟨.slice 57,1,24,[.slice none 0 0],false⟩
theorem Yjp:TyOk Tryz.prog 36 Yf9 := .s (by kernel_rfl) Tryz.underlying36
def Yga:TyI:=⟨.slice 102,1,24,[.slice none 0 0],false⟩
theorem Yjq:TyOk Tryz.prog 37 Yga := .s (by kernel_rfl) Tryz.underlying37
def Ygb:TyI:=⟨.slice 136,1,24,[.slice none 0 0],false⟩
theorem Yjr:TyOk Tryz.prog 38 Ygb := .s (by kernel_rfl) Tryz.underlying38
def Yb8:TyI:=⟨.struct [(0,3),(1,29),(4,29),(7,36),(8,37),(9,3),(10,38)],11,200,[.int .i64 0,.int .i64 0,.slice none 0 0,.slice none 0 0,.int .i64 0,.slice none 0 0,.slice none 0 0,.slice none 0 0,.slice none 0 0,.int .i64 0,.slice none 0 0],false⟩
theorem Yjs:TyOk Tryz.prog 39 Yb8 := .g (by kernel_rfl) ⟨_,Tryz.underlying39,rfl⟩
theorem Yjt:TyOk Tryz.prog 40 Yb8 := .g (by kernel_rfl) ⟨_,Tryz.underlying40,rfl⟩
theorem Yju:TyOk Tryz.prog 41 tE2 := .s (by kernel_rfl) Tryz.underlying41
def Ygc:TyI:=⟨.ptr 107,1,8,[.pointer none],false⟩
theorem Yjv:TyOk Tryz.prog 44 Ygc := .s (by kernel_rfl) Tryz.underlying44
def Yb9:TyI:=⟨.struct [(0,44),(1,3),(2,3),(3,3),(4,3),(5,3),(6,3),(7,3),(8,3)],9,72,[.pointer none,.int .i64 0,.int .i64 0,.int .i64 0,.int .i64 0,.int .i64 0,.int .i64 0,.int .i64 0,.int .i64 0],false⟩
theorem Yjw:TyOk Tryz.prog 45 Yb9 := .g (by kernel_rfl) ⟨_,Tryz.underlying45,rfl⟩
theorem Yjx:TyOk Tryz.prog 46 Yb9 := .g (by kernel_rfl) ⟨_,Tryz.underlying46,rfl⟩
theorem Yjy:TyOk Tryz.prog 49 Z1o := .s (by kernel_rfl) Tryz.underlying49
def Ygd:TyI:=⟨.struct [(0,3),(1,3),(2,3),(3,3),(4,3),(5,3),(6,49)],7,56,[.int .i64 0,.int .i64 0,.int .i64 0,.int .i64 0,.int .i64 0,.int .i64 0,.int .u64 0],false⟩
theorem Yjz:TyOk Tryz.prog 50 Ygd := .g (by kernel_rfl) ⟨_,Tryz.underlying50,rfl⟩
def Yge:TyI:=⟨.struct [(0,3),(1,3),(2,3),(3,3),(4,3),(5,3),(6,49)],7,56,[.int .i64 0,.int .i64 0,.int .i64 0,.int .i64 0,.int .i64 0,.int .i64 0,.int .u64 0],true⟩
theorem Yj0:TyOk Tryz.prog 51 Yge := .g (by kernel_rfl) ⟨_,Tryz.underlying51,rfl⟩ (fun _=>by unfold EqTy;exact ⟨by kernel_rfl,by kernel_rfl,by kernel_rfl⟩)
def Ygf:TyI:=⟨.struct [(0,3),(1,5),(2,49),(3,49)],4,32,[.int .i64 0,.int .u8 0,.int .u64 0,.int .u64 0],false⟩
theorem Yj1:TyOk Tryz.prog 56 Ygf := .g (by kernel_rfl) ⟨_,Tryz.underlying56,rfl⟩
def Ygg:TyI:=⟨.struct [(0,3),(1,5),(2,49),(3,49)],4,32,[.int .i64 0,.int .u8 0,.int .u64 0,.int .u64 0],true⟩
theorem Yj2:TyOk Tryz.prog 57 Ygg := .g (by kernel_rfl) ⟨_,Tryz.underlying57,rfl⟩ (fun _=>by unfold EqTy;exact ⟨by kernel_rfl,by kernel_rfl,by kernel_rfl⟩)
def Ygh:TyI:=⟨.ptr 63,1,8,[.pointer none],false⟩
theorem Yj3:TyOk Tryz.prog 59 Ygh := .s (by kernel_rfl) Tryz.underlying59
def Ygi:TyI:=⟨.ptr 69,1,8,[.pointer none],false⟩
theorem Yj4:TyOk Tryz.prog 60 Ygi := .s (by kernel_rfl) Tryz.underlying60
def Yca:TyI:=⟨.struct [(0,60),(1,4)],2,16,[.pointer none,.bool false],false⟩
theorem Yj5:TyOk Tryz.prog 62 Yca := .g (by kernel_rfl) ⟨_,Tryz.underlying62,rfl⟩
theorem Yj6:TyOk Tryz.prog 63 Yca := .g (by kernel_rfl) ⟨_,Tryz.underlying63,rfl⟩
def Ycb:TyI:=⟨.struct [(0,22),(1,3),(2,3),(3,3)],4,48,[.slice none 0 0,.int .i64 0,.int .i64 0,.int .i64 0],false⟩
theorem Yj7:TyOk Tryz.prog 68 Ycb := .g (by kernel_rfl) ⟨_,Tryz.underlying68,rfl⟩
theorem Yj8:TyOk Tryz.prog 69 Ycb := .g (by kernel_rfl) ⟨_,Tryz.underlying69,rfl⟩
def Z1p:TyI:=⟨.struct [(0,3),(1,3)],2,16,[.int .i64 0,.int .i64 0],false⟩
theorem Yj9:TyOk Tryz.prog 70 Z1p := .g (by kernel_rfl) ⟨_,Tryz.underlying70,rfl⟩
def Z1q:TyI:=⟨.struct [(0,3),(1,3)],2,16,[.int .i64 0,.int .i64 0],true⟩
theorem Yka:TyOk Tryz.prog 71 Z1q := .g (by kernel_rfl) ⟨_,Tryz.underlying71,rfl⟩ (fun _=>by unfold EqTy;exact ⟨by kernel_rfl,by kernel_rfl,by kernel_rfl⟩)
def Ygj:TyI:=⟨.struct [(0,3),(1,3),(2,3),(3,3),(4,3),(5,3),(6,3),(7,4)],8,64,[.int .i64 0,.int .i64 0,.int .i64 0,.int .i64 0,.int .i64 0,.int .i64 0,.int .i64 0,.bool false],false⟩
theorem Ykb:TyOk Tryz.prog 78 Ygj := .g (by kernel_rfl) ⟨_,Tryz.underlying78,rfl⟩
def Ycc:TyI:=⟨.struct [(0,3),(1,3),(2,3),(3,3),(4,3),(5,3),(6,3),(7,4)],8,64,[.int .i64 0,.int .i64 0,.int .i64 0,.int .i64 0,.int .i64 0,.int .i64 0,.int .i64 0,.bool false],true⟩
theorem Ykc:TyOk Tryz.prog 79 Ycc := .g (by kernel_rfl) ⟨_,Tryz.underlying79,rfl⟩ (fun _=>by unfold EqTy;exact ⟨by kernel_rfl,by kernel_rfl,by kernel_rfl⟩)
def Ygk:TyI:=⟨.struct [(0,79),(8,3),(9,3)],10,80,[.int .i64 0,.int .i64 0,.int .i64 0,.int .i64 0,.int .i64 0,.int .i64 0,.int .i64 0,.bool false,.int .i64 0,.int .i64 0],false⟩
theorem Ykd:TyOk Tryz.prog 80 Ygk := .g (by kernel_rfl) ⟨_,Tryz.underlying80,rfl⟩
def Ygl:TyI:=⟨.struct [(0,79),(8,3),(9,3)],10,80,[.int .i64 0,.int .i64 0,.int .i64 0,.int .i64 0,.int .i64 0,.int .i64 0,.int .i64 0,.bool false,.int .i64 0,.int .i64 0],true⟩
theorem Yke:TyOk Tryz.prog 81 Ygl := .g (by kernel_rfl) ⟨_,Tryz.underlying81,rfl⟩ (fun _=>by unfold EqTy;exact ⟨by kernel_rfl,by kernel_rfl,by kernel_rfl⟩)
def Ygm:TyI:=⟨.ptr 71,1,8,[.pointer none],false⟩
theorem Ykf:TyOk Tryz.prog 96 Ygm := .s (by kernel_rfl) Tryz.underlying96
def Z4w:TyI:=⟨.struct [(0,3),(1,40)],12,208,[.int .i64 0,.int .i64 0,.int .i64 0,.slice none 0 0,.slice none 0 0,.int .i64 0,.slice none 0 0,.slice none 0 0,.slice none 0 0,.slice none 0 0,.int .i64 0,.slice none 0 0],false⟩
theorem Ygp:TyOk Tryz.prog 101 Z4w := .g (by kernel_rfl) ⟨_,Tryz.underlying101,rfl⟩
theorem Ygq:TyOk Tryz.prog 102 Z4w := .g (by kernel_rfl) ⟨_,Tryz.underlying102,rfl⟩
def Z4x:TyI:=⟨.struct [(0,22),(1,3),(2,3)],3,40,[.slice none 0 0,.int .i64 0,.int .i64 0],false⟩
theorem Ygr:TyOk Tryz.prog 106 Z4x := .g (by kernel_rfl) ⟨_,Tryz.underlying106,rfl⟩
theorem Ygs:TyOk Tryz.prog 107 Z4x := .g (by kernel_rfl) ⟨_,Tryz.underlying107,rfl⟩
def Z4y:TyI:=⟨.struct [(0,3)],1,8,[.int .i64 0],false⟩
theorem Ygt:TyOk Tryz.prog 115 Z4y := .g (by kernel_rfl) ⟨_,Tryz.underlying115,rfl⟩
def Z4z:TyI:=⟨.struct [(0,3)],1,8,[.int .i64 0],true⟩
theorem Ygu:TyOk Tryz.prog 116 Z4z := .g (by kernel_rfl) ⟨_,Tryz.underlying116,rfl⟩ (fun _=>by unfold EqTy;exact ⟨by kernel_rfl,by kernel_rfl,by kernel_rfl⟩)
def Yc5:TyI:=⟨.slice 127,1,24,[.slice none 0 0],false⟩
theorem Ygv:TyOk Tryz.prog 121 Yc5 := .s (by kernel_rfl) Tryz.underlying121
def Z40:TyI:=⟨.struct [(0,46),(9,46),(18,3),(19,3),(20,3),(21,3),(22,3),(23,38)],24,208,[.pointer none,.int .i64 0,.int .i64 0,.int .i64 0,.int .i64 0,.int .i64 0,.int .i64 0,.int .i64 0,.int .i64 0,.pointer none,.int .i64 0,.int .i64 0,.int .i64 0,.int .i64 0,.int .i64 0,.int .i64 0,.int .i64 0,.int .i64 0,.int .i64 0,.int .i64 0,.int .i64 0,.int .i64 0,.int .i64 0,.slice none 0 0],false⟩
theorem Ygw:TyOk Tryz.prog 124 Z40 := .g (by kernel_rfl) ⟨_,Tryz.underlying124,rfl⟩
theorem Ygx:TyOk Tryz.prog 125 Z40 := .g (by kernel_rfl) ⟨_,Tryz.underlying125,rfl⟩
theorem Ygy:TyOk Tryz.prog 126 Z1p := .g (by kernel_rfl) ⟨_,Tryz.underlying126,rfl⟩
theorem Ygz:TyOk Tryz.prog 127 Z1q := .g (by kernel_rfl) ⟨_,Tryz.underlying127,rfl⟩ (fun _=>by unfold EqTy;exact ⟨by kernel_rfl,by kernel_rfl,by kernel_rfl⟩)
def Z41:TyI:=⟨.struct [(0,38),(1,3),(2,27),(3,27)],4,80,[.slice none 0 0,.int .i64 0,.slice none 0 0,.slice none 0 0],false⟩
theorem Yg0:TyOk Tryz.prog 133 Z41 := .g (by kernel_rfl) ⟨_,Tryz.underlying133,rfl⟩
theorem Yg1:TyOk Tryz.prog 134 Z41 := .g (by kernel_rfl) ⟨_,Tryz.underlying134,rfl⟩
def Z42:TyI:=⟨.struct [(0,3),(1,3),(2,27),(3,40)],14,240,[.int .i64 0,.int .i64 0,.slice none 0 0,.int .i64 0,.int .i64 0,.slice none 0 0,.slice none 0 0,.int .i64 0,.slice none 0 0,.slice none 0 0,.slice none 0 0,.slice none 0 0,.int .i64 0,.slice none 0 0],false⟩
theorem Yg2:TyOk Tryz.prog 135 Z42 := .g (by kernel_rfl) ⟨_,Tryz.underlying135,rfl⟩
theorem Yg3:TyOk Tryz.prog 136 Z42 := .g (by kernel_rfl) ⟨_,Tryz.underlying136,rfl⟩
def Yc6:TyI:=⟨.ptr 27,1,8,[.pointer none],false⟩
theorem Yg4:TyOk Tryz.prog 138 Yc6 := .s (by kernel_rfl) Tryz.underlying138
theorem Yg5:TyOk Tryz.prog 140 Ycc := .g (by kernel_rfl) ⟨_,Tryz.underlying140,rfl⟩ (fun _=>by unfold EqTy;exact ⟨by kernel_rfl,by kernel_rfl,by kernel_rfl⟩)
def Yc7:TyI:=⟨.struct [(0,140),(8,3),(9,3)],10,80,[.int .i64 0,.int .i64 0,.int .i64 0,.int .i64 0,.int .i64 0,.int .i64 0,.int .i64 0,.bool false,.int .i64 0,.int .i64 0],false⟩
theorem Yg6:TyOk Tryz.prog 141 Yc7 := .g (by kernel_rfl) ⟨_,Tryz.underlying141,rfl⟩
def Yc8:TyI:=⟨.struct [(0,140),(8,3),(9,3)],10,80,[.int .i64 0,.int .i64 0,.int .i64 0,.int .i64 0,.int .i64 0,.int .i64 0,.int .i64 0,.bool false,.int .i64 0,.int .i64 0],true⟩
theorem Yg7:TyOk Tryz.prog 142 Yc8 := .g (by kernel_rfl) ⟨_,Tryz.underlying142,rfl⟩ (fun _=>by unfold EqTy;exact ⟨by kernel_rfl,by kernel_rfl,by kernel_rfl⟩)
def Yc9:TyI:=⟨.ptr 116,1,8,[.pointer none],false⟩
theorem Yg8:TyOk Tryz.prog 147 Yc9 := .s (by kernel_rfl) Tryz.underlying147
def Yda:TyI:=⟨.ptr 184,1,8,[.pointer none],false⟩
theorem Yg9:TyOk Tryz.prog 158 Yda := .s (by kernel_rfl) Tryz.underlying158
def Ydb:TyI:=⟨.slice 3,1,24,[.slice none 0 0],false⟩
theorem Yha:TyOk Tryz.prog 160 Ydb := .s (by kernel_rfl) Tryz.underlying160
def Ydc:TyI:=⟨.ptr 125,1,8,[.pointer none],false⟩
theorem Yhb:TyOk Tryz.prog 166 Ydc := .s (by kernel_rfl) Tryz.underlying166
theorem Yhc:TyOk Tryz.prog 170 Z4y := .g (by kernel_rfl) ⟨_,Tryz.underlying170,rfl⟩
theorem Yhd:TyOk Tryz.prog 171 Z4z := .g (by kernel_rfl) ⟨_,Tryz.underlying171,rfl⟩ (fun _=>by unfold EqTy;exact ⟨by kernel_rfl,by kernel_rfl,by kernel_rfl⟩)
def Ydd:TyI:=⟨.ptr 134,1,8,[.pointer none],false⟩
theorem Yhe:TyOk Tryz.prog 173 Ydd := .s (by kernel_rfl) Tryz.underlying173
def Yde:TyI:=⟨.arr 8 5,8,8,[.int .u8 0,.int .u8 0,.int .u8 0,.int .u8 0,.int .u8 0,.int .u8 0,.int .u8 0,.int .u8 0],true⟩
theorem Yhf:TyOk Tryz.prog 177 Yde := .g (by kernel_rfl) Tryz.underlying177 (fun _=>by unfold EqTy;exact ⟨by kernel_rfl,by kernel_rfl,by kernel_rfl⟩)
def Ydf:TyI:=⟨.slice 188,1,24,[.slice none 0 0],false⟩
theorem Yhg:TyOk Tryz.prog 182 Ydf := .s (by kernel_rfl) Tryz.underlying182
def Z43:TyI:=⟨.struct [(0,182),(1,160)],2,48,[.slice none 0 0,.slice none 0 0],false⟩
theorem Yhh:TyOk Tryz.prog 183 Z43 := .g (by kernel_rfl) ⟨_,Tryz.underlying183,rfl⟩
theorem Yhi:TyOk Tryz.prog 184 Z43 := .g (by kernel_rfl) ⟨_,Tryz.underlying184,rfl⟩
def Z44:TyI:=⟨.struct [(0,49),(1,46)],10,80,[.int .u64 0,.pointer none,.int .i64 0,.int .i64 0,.int .i64 0,.int .i64 0,.int .i64 0,.int .i64 0,.int .i64 0,.int .i64 0],false⟩
theorem Yhj:TyOk Tryz.prog 187 Z44 := .g (by kernel_rfl) ⟨_,Tryz.underlying187,rfl⟩
theorem Yhk:TyOk Tryz.prog 188 Z44 := .g (by kernel_rfl) ⟨_,Tryz.underlying188,rfl⟩
def Ydg:TyI:=⟨.ptr 220,1,8,[.pointer none],false⟩
theorem Yhl:TyOk Tryz.prog 191 Ydg := .s (by kernel_rfl) Tryz.underlying191
def Ydh:TyI:=⟨.slice 196,1,24,[.slice none 0 0],false⟩
theorem Yhm:TyOk Tryz.prog 193 Ydh := .s (by kernel_rfl) Tryz.underlying193
theorem Yhn:TyOk Tryz.prog 195 Z1p := .g (by kernel_rfl) ⟨_,Tryz.underlying195,rfl⟩
theorem Yho:TyOk Tryz.prog 196 Z1q := .g (by kernel_rfl) ⟨_,Tryz.underlying196,rfl⟩ (fun _=>by unfold EqTy;exact ⟨by kernel_rfl,by kernel_rfl,by kernel_rfl⟩)
def Ydi:TyI:=⟨.arr 3 3,3,24,[.int .i64 0,.int .i64 0,.int .i64 0],true⟩
theorem Yhp:TyOk Tryz.prog 198 Ydi := .g (by kernel_rfl) Tryz.underlying198 (fun _=>by unfold EqTy;exact ⟨by kernel_rfl,by kernel_rfl,by kernel_rfl⟩)
def Ydj:TyI:=⟨.slice 203,1,24,[.slice none 0 0],false⟩
theorem Yhq:TyOk Tryz.prog 200 Ydj := .s (by kernel_rfl) Tryz.underlying200
theorem Yhr:TyOk Tryz.prog 202 Z1p := .g (by kernel_rfl) ⟨_,Tryz.underlying202,rfl⟩
theorem Yhs:TyOk Tryz.prog 203 Z1q := .g (by kernel_rfl) ⟨_,Tryz.underlying203,rfl⟩ (fun _=>by unfold EqTy;exact ⟨by kernel_rfl,by kernel_rfl,by kernel_rfl⟩)
def Ydk:TyI:=⟨.ptr 171,1,8,[.pointer none],false⟩
theorem Yht:TyOk Tryz.prog 206 Ydk := .s (by kernel_rfl) Tryz.underlying206
theorem Yhu:TyOk Tryz.prog 209 Z1o := .s (by kernel_rfl) Tryz.underlying209
def Ydl:TyI:=⟨.arr 6 3,6,48,[.int .i64 0,.int .i64 0,.int .i64 0,.int .i64 0,.int .i64 0,.int .i64 0],true⟩
theorem Yhv:TyOk Tryz.prog 212 Ydl := .g (by kernel_rfl) Tryz.underlying212 (fun _=>by unfold EqTy;exact ⟨by kernel_rfl,by kernel_rfl,by kernel_rfl⟩)
def Ydm:TyI:=⟨.struct [(0,49),(1,3)],2,16,[.int .u64 0,.int .i64 0],false⟩
theorem Yhw:TyOk Tryz.prog 213 Ydm := .g (by kernel_rfl) ⟨_,Tryz.underlying213,rfl⟩
def Ydn:TyI:=⟨.struct [(0,49),(1,3)],2,16,[.int .u64 0,.int .i64 0],true⟩
theorem Yhx:TyOk Tryz.prog 214 Ydn := .g (by kernel_rfl) ⟨_,Tryz.underlying214,rfl⟩ (fun _=>by unfold EqTy;exact ⟨by kernel_rfl,by kernel_rfl,by kernel_rfl⟩)
def Ydo:TyI:=⟨.slice 160,1,24,[.slice none 0 0],false⟩
theorem Yhy:TyOk Tryz.prog 218 Ydo := .s (by kernel_rfl) Tryz.underlying218
def Z45:TyI:=⟨.struct [(0,160),(1,160),(2,3),(3,218),(4,218),(5,3)],6,112,[.slice none 0 0,.slice none 0 0,.int .i64 0,.slice none 0 0,.slice none 0 0,.int .i64 0],false⟩
theorem Yhz:TyOk Tryz.prog 219 Z45 := .g (by kernel_rfl) ⟨_,Tryz.underlying219,rfl⟩
theorem Yh0:TyOk Tryz.prog 220 Z45 := .g (by kernel_rfl) ⟨_,Tryz.underlying220,rfl⟩
def Ydp:TyI:=⟨.int .u32,1,4,[.int .u32 0],false⟩
theorem Yh1:TyOk Tryz.prog 224 Ydp := .s (by kernel_rfl) Tryz.underlying224
def Ydq:TyI:=⟨.ptr 214,1,8,[.pointer none],false⟩
theorem Yh2:TyOk Tryz.prog 225 Ydq := .s (by kernel_rfl) Tryz.underlying225
def Z46:TyI:=⟨.slice 237,1,24,[.slice none 0 0],false⟩
theorem Yh3:TyOk Tryz.prog 231 Z46 := .s (by kernel_rfl) Tryz.underlying231
theorem Yh4:TyOk Tryz.prog 232 Z46 := .s (by kernel_rfl) Tryz.underlying232
def Ydr:TyI:=⟨.ptr 232,1,8,[.pointer none],false⟩
theorem Yh5:TyOk Tryz.prog 235 Ydr := .s (by kernel_rfl) Tryz.underlying235
def Yds:TyI:=⟨.struct [(0,203),(2,3)],3,24,[.int .i64 0,.int .i64 0,.int .i64 0],false⟩
theorem Yh6:TyOk Tryz.prog 236 Yds := .g (by kernel_rfl) ⟨_,Tryz.underlying236,rfl⟩
def Ydt:TyI:=⟨.struct [(0,203),(2,3)],3,24,[.int .i64 0,.int .i64 0,.int .i64 0],true⟩
theorem Yh7:TyOk Tryz.prog 237 Ydt := .g (by kernel_rfl) ⟨_,Tryz.underlying237,rfl⟩ (fun _=>by unfold EqTy;exact ⟨by kernel_rfl,by kernel_rfl,by kernel_rfl⟩)
def Ydu:TyI:=⟨.arr 7 3,7,56,[.int .i64 0,.int .i64 0,.int .i64 0,.int .i64 0,.int .i64 0,.int .i64 0,.int .i64 0],true⟩
theorem Yh8:TyOk Tryz.prog 243 Ydu := .g (by kernel_rfl) Tryz.underlying243 (fun _=>by unfold EqTy;exact ⟨by kernel_rfl,by kernel_rfl,by kernel_rfl⟩)
def Z47:TyI:=⟨.struct [(0,3),(1,3),(2,27),(3,27),(4,38)],5,88,[.int .i64 0,.int .i64 0,.slice none 0 0,.slice none 0 0,.slice none 0 0],false⟩
theorem Yh9:TyOk Tryz.prog 256 Z47 := .g (by kernel_rfl) ⟨_,Tryz.underlying256,rfl⟩
theorem Yia:TyOk Tryz.prog 257 Z47 := .g (by kernel_rfl) ⟨_,Tryz.underlying257,rfl⟩
theorem Yib:TyOk Tryz.prog 261 tE2 := .s (by kernel_rfl) Tryz.underlying261
def Ydv:TyI:=⟨.ptr 257,1,8,[.pointer none],false⟩
theorem Yic:TyOk Tryz.prog 272 Ydv := .s (by kernel_rfl) Tryz.underlying272
theorem Yid:TyOk Tryz.prog 273 Z1o := .s (by kernel_rfl) Tryz.underlying273
def Ydw:TyI:=⟨.ptr 3,1,8,[.pointer none],false⟩
theorem Yie:TyOk Tryz.prog 276 Ydw := .s (by kernel_rfl) Tryz.underlying276
def Ydx:TyI:=⟨.ptr 270,1,8,[.pointer none],false⟩
theorem Yif:TyOk Tryz.prog 278 Ydx := .s (by kernel_rfl) Tryz.underlying278
def Ydy:TyI:=⟨.ptr 273,1,8,[.pointer none],false⟩
theorem Yig:TyOk Tryz.prog 280 Ydy := .s (by kernel_rfl) Tryz.underlying280
def Z48:TyI:=⟨.struct [(0,17),(1,17),(2,17),(3,9)],4,40,[.pointer none,.pointer none,.pointer none,.string ByteArray.empty],false⟩
theorem Yih:TyOk Tryz.prog 283 Z48 := .g (by kernel_rfl) ⟨_,Tryz.underlying283,rfl⟩
theorem Yii:TyOk Tryz.prog 284 Z48 := .g (by kernel_rfl) ⟨_,Tryz.underlying284,rfl⟩
theorem Yij:TyOk Tryz.prog 288 tE5 := .s (by kernel_rfl) Tryz.underlying288
theorem Yik:TyOk Tryz.prog 289 tE5 := .s (by kernel_rfl) Tryz.underlying289
def Ydz:TyI:=⟨.ptr 5,1,8,[.pointer none],false⟩
theorem Yil:TyOk Tryz.prog 291 Ydz := .s (by kernel_rfl) Tryz.underlying291
theorem Yim:TyOk Tryz.prog 292 Z6s := .s (by kernel_rfl) Tryz.underlying292
theorem Yin:TyOk Tryz.prog 293 Z6s := .s (by kernel_rfl) Tryz.underlying293
def tabL:List (Nat×TyI):=[(2,tE2),(3,tE2),(4,tE4),(5,tE5),(6,tE5),(7,tE7),(8,tE7),(9,tE9),(10,tE9),(11,tE9),(12,Z1o),(13,Yb5),(14,Yb5),(15,Yf1),(16,Yf2),(17,Yf3),(18,Yb6),(19,Yb6),(21,Z6s),(22,Yf4),(23,Yf5),(24,Yf6),(26,Yf7),(27,Yf8),(28,Yb7),(29,Yb7),(36,Yf9),(37,Yga),(38,Ygb),(39,Yb8),(40,Yb8),(41,tE2),(44,Ygc),(45,Yb9),(46,Yb9),(49,Z1o),(50,Ygd),(51,Yge),(56,Ygf),(57,Ygg),(59,Ygh),(60,Ygi),(62,Yca),(63,Yca),(68,Ycb),(69,Ycb),(70,Z1p),(71,Z1q),(78,Ygj),(79,Ycc),(80,Ygk),(81,Ygl),(96,Ygm),(101,Z4w),(102,Z4w),(106,Z4x),(107,Z4x),(115,Z4y),(116,Z4z),(121,Yc5),(124,Z40),(125,Z40),(126,Z1p),(127,Z1q),(133,Z41),(134,Z41),(135,Z42),(136,Z42),(138,Yc6),(140,Ycc),(141,Yc7),(142,Yc8),(147,Yc9),(158,Yda),(160,Ydb),(166,Ydc),(170,Z4y),(171,Z4z),(173,Ydd),(177,Yde),(182,Ydf),(183,Z43),(184,Z43),(187,Z44),(188,Z44),(191,Ydg),(193,Ydh),(195,Z1p),(196,Z1q),(198,Ydi),(200,Ydj),(202,Z1p),(203,Z1q),(206,Ydk),(209,Z1o),(212,Ydl),(213,Ydm),(214,Ydn),(218,Ydo),(219,Z45),(220,Z45),(224,Ydp),(225,Ydq),(231,Z46),(232,Z46),(235,Ydr),(236,Yds),(237,Ydt),(243,Ydu),(256,Z47),(257,Z47),(261,tE2),(272,Ydv),(273,Z1o),(276,Ydw),(278,Ydx),(280,Ydy),(283,Z48),(284,Z48),(288,tE5),(289,tE5),(291,Ydz),(292,Z6s),(293,Z6s)]
def X0:J0:=fun t=>tabL.lookup t
theorem Zc:Ql Tryz.prog X0:=fun t i h=>by
 have hm:=Zt1 _ h
 unfold tabL at hm
 simp only [List.mem_cons,Prod.mk.injEq,List.not_mem_nil,or_false] at hm
 rcases hm with ⟨rfl,rfl⟩ | ⟨rfl,rfl⟩ | ⟨rfl,rfl⟩ | ⟨rfl,rfl⟩ | ⟨rfl,rfl⟩ | ⟨rfl,rfl⟩ | ⟨rfl,rfl⟩ | ⟨rfl,rfl⟩ | ⟨rfl,rfl⟩ | ⟨rfl,rfl⟩ | ⟨rfl,rfl⟩ | ⟨rfl,rfl⟩ | ⟨rfl,rfl⟩ | ⟨rfl,rfl⟩ | ⟨rfl,rfl⟩ | ⟨rfl,rfl⟩ | ⟨rfl,rfl⟩ | ⟨rfl,rfl⟩ | ⟨rfl,rfl⟩ | ⟨rfl,rfl⟩ | ⟨rfl,rfl⟩ | ⟨rfl,rfl⟩ | ⟨rfl,rfl⟩ | ⟨rfl,rfl⟩ | ⟨rfl,rfl⟩ | ⟨rfl,rfl⟩ | ⟨rfl,rfl⟩ | ⟨rfl,rfl⟩ | ⟨rfl,rfl⟩ | ⟨rfl,rfl⟩ | ⟨rfl,rfl⟩ | ⟨rfl,rfl⟩ | ⟨rfl,rfl⟩ | ⟨rfl,rfl⟩ | ⟨rfl,rfl⟩ | ⟨rfl,rfl⟩ | ⟨rfl,rfl⟩ | ⟨rfl,rfl⟩ | ⟨rfl,rfl⟩ | ⟨rfl,rfl⟩ | ⟨rfl,rfl⟩ | ⟨rfl,rfl⟩ | ⟨rfl,rfl⟩ | ⟨rfl,rfl⟩ | ⟨rfl,rfl⟩ | ⟨rfl,rfl⟩ | ⟨rfl,rfl⟩ | ⟨rfl,rfl⟩ | ⟨rfl,rfl⟩ | ⟨rfl,rfl⟩ | ⟨rfl,rfl⟩ | ⟨rfl,rfl⟩ | ⟨rfl,rfl⟩ | ⟨rfl,rfl⟩ | ⟨rfl,rfl⟩ | ⟨rfl,rfl⟩ | ⟨rfl,rfl⟩ | ⟨rfl,rfl⟩ | ⟨rfl,rfl⟩ | ⟨rfl,rfl⟩ | ⟨rfl,rfl⟩ | ⟨rfl,rfl⟩ | ⟨rfl,rfl⟩ | ⟨rfl,rfl⟩ | ⟨rfl,rfl⟩ | ⟨rfl,rfl⟩ | ⟨rfl,rfl⟩ | ⟨rfl,rfl⟩ | ⟨rfl,rfl⟩ | ⟨rfl,rfl⟩ | ⟨rfl,rfl⟩ | ⟨rfl,rfl⟩ | ⟨rfl,rfl⟩ | ⟨rfl,rfl⟩ | ⟨rfl,rfl⟩ | ⟨rfl,rfl⟩ | ⟨rfl,rfl⟩ | ⟨rfl,rfl⟩ | ⟨rfl,rfl⟩ | ⟨rfl,rfl⟩ | ⟨rfl,rfl⟩ | ⟨rfl,rfl⟩ | ⟨rfl,rfl⟩ | ⟨rfl,rfl⟩ | ⟨rfl,rfl⟩ | ⟨rfl,rfl⟩ | ⟨rfl,rfl⟩ | ⟨rfl,rfl⟩ | ⟨rfl,rfl⟩ | ⟨rfl,rfl⟩ | ⟨rfl,rfl⟩ | ⟨rfl,rfl⟩ | ⟨rfl,rfl⟩ | ⟨rfl,rfl⟩ | ⟨rfl,rfl⟩ | ⟨rfl,rfl⟩ | ⟨rfl,rfl⟩ | ⟨rfl,rfl⟩ | ⟨rfl,rfl⟩ | ⟨rfl,rfl⟩ | ⟨rfl,rfl⟩ | ⟨rfl,rfl⟩ | ⟨rfl,rfl⟩ | ⟨rfl,rfl⟩ | ⟨rfl,rfl⟩ | ⟨rfl,rfl⟩ | ⟨rfl,rfl⟩ | ⟨rfl,rfl⟩ | ⟨rfl,rfl⟩ | ⟨rfl,rfl⟩ | ⟨rfl,rfl⟩ | ⟨rfl,rfl⟩ | ⟨rfl,rfl⟩ | ⟨rfl,rfl⟩ | ⟨rfl,rfl⟩ | ⟨rfl,rfl⟩ | ⟨rfl,rfl⟩ | ⟨rfl,rfl⟩ | ⟨rfl,rfl⟩ | ⟨rfl,rfl⟩ | ⟨rfl,rfl⟩ | ⟨rfl,rfl⟩ | ⟨rfl,rfl⟩ | ⟨rfl,rfl⟩
 ·exact ty2
 ·exact ty3
 ·exact ty4
 ·exact ty5
 ·exact ty6
 ·exact ty7
 ·exact ty8
 ·exact ty9
 ·exact Yi7
 ·exact Yi8
 ·exact Yi9
 ·exact Yja
 ·exact Yjb
 ·exact Yjc
 ·exact Yjd
 ·exact Yje
 ·exact Yjf
 ·exact Yjg
 ·exact Yjh
 ·exact Yji
 ·exact Yjj
 ·exact Yjk
 ·exact Yjl
 ·exact Yjm
 ·exact Yjn
 ·exact Yjo
 ·exact Yjp
 ·exact Yjq
 ·exact Yjr
 ·exact Yjs
 ·exact Yjt
 ·exact Yju
 ·exact Yjv
 ·exact Yjw
 ·exact Yjx
 ·exact Yjy
 ·exact Yjz
 ·exact Yj0
 ·exact Yj1
 ·exact Yj2
 ·exact Yj3
 ·exact Yj4
 ·exact Yj5
 ·exact Yj6
 ·exact Yj7
 ·exact Yj8
 ·exact Yj9
 ·exact Yka
 ·exact Ykb
 ·exact Ykc
 ·exact Ykd
 ·exact Yke
 ·exact Ykf
 ·exact Ygp
 ·exact Ygq
 ·exact Ygr
 ·exact Ygs
 ·exact Ygt
 ·exact Ygu
 ·exact Ygv
 ·exact Ygw
 ·exact Ygx
 ·exact Ygy
 ·exact Ygz
 ·exact Yg0
 ·exact Yg1
 ·exact Yg2
 ·exact Yg3
 ·exact Yg4
 ·exact Yg5
 ·exact Yg6
 ·exact Yg7
 ·exact Yg8
 ·exact Yg9
 ·exact Yha
 ·exact Yhb
 ·exact Yhc
 ·exact Yhd
 ·exact Yhe
 ·exact Yhf
 ·exact Yhg
 ·exact Yhh
 ·exact Yhi
 ·exact Yhj
 ·exact Yhk
 ·exact Yhl
 ·exact Yhm
 ·exact Yhn
 ·exact Yho
 ·exact Yhp
 ·exact Yhq
 ·exact Yhr
 ·exact Yhs
 ·exact Yht
 ·exact Yhu
 ·exact Yhv
 ·exact Yhw
 ·exact Yhx
 ·exact Yhy
 ·exact Yhz
 ·exact Yh0
 ·exact Yh1
 ·exact Yh2
 ·exact Yh3
 ·exact Yh4
 ·exact Yh5
 ·exact Yh6
 ·exact Yh7
 ·exact Yh8
 ·exact Yh9
 ·exact Yia
 ·exact Yib
 ·exact Yic
 ·exact Yid
 ·exact Yie
 ·exact Yif
 ·exact Yig
 ·exact Yih
 ·exact Yii
 ·exact Yij
 ·exact Yik
 ·exact Yil
 ·exact Yim
 exact Yin
theorem Z6t:X0 2=some ⟨.int .i64,1,8,[.int .i64 0],false⟩:=rfl
theorem Z1r:X0 3=some ⟨.int .i64,1,8,[.int .i64 0],false⟩:=rfl
theorem Z6u:X0 4=some ⟨.bool,1,1,[.bool false],false⟩:=rfl
theorem Z1s:X0 5=some ⟨.int .u8,1,1,[.int .u8 0],false⟩:=rfl
theorem Z6v:X0 6=some ⟨.int .u8,1,1,[.int .u8 0],false⟩:=rfl
theorem Z6w:X0 7=some ⟨.struct [(0,2),(1,3),(2,4),(3,6)],4,24,[.int .i64 0,.int .i64 0,.bool false,.int .u8 0],false⟩:=rfl
theorem Z6x:X0 8=some ⟨.struct [(0,2),(1,3),(2,4),(3,6)],4,24,[.int .i64 0,.int .i64 0,.bool false,.int .u8 0],false⟩:=rfl
theorem Z6y:X0 9=some ⟨.str,1,16,[.string ByteArray.empty],false⟩:=rfl
theorem Zwh:X0 10=some ⟨.str,1,16,[.string ByteArray.empty],false⟩:=rfl
theorem Zwi:X0 11=some ⟨.str,1,16,[.string ByteArray.empty],false⟩:=rfl
theorem Zwj:X0 12=some ⟨.int .u64,1,8,[.int .u64 0],false⟩:=rfl
theorem Zwk:X0 13=some ⟨.struct [(0,9),(1,12)],2,24,[.string ByteArray.empty,.int .u64 0],false⟩:=rfl
theorem Zwl:X0 14=some ⟨.struct [(0,9),(1,12)],2,24,[.string ByteArray.empty,.int .u64 0],false⟩:=rfl
theorem Zwm:X0 15=some ⟨.ptr 284,1,8,[.pointer none],false⟩:=rfl
theorem Zwn:X0 16=some ⟨.ptr 287,1,8,[.pointer none],false⟩:=rfl
theorem Zwo:X0 17=some ⟨.ptr 295,1,8,[.pointer none],false⟩:=rfl
theorem Zwp:X0 18=some ⟨.struct [(0,17)],1,8,[.pointer none],false⟩:=rfl
theorem Zwq:X0 19=some ⟨.struct [(0,17)],1,8,[.pointer none],false⟩:=rfl
theorem Zwr:X0 21=some ⟨.int .i32,1,4,[.int .i32 0],false⟩:=rfl
theorem Zws:X0 22=some ⟨.slice 26,1,24,[.slice none 0 0],false⟩:=rfl
theorem Zwt:X0 23=some ⟨.struct [(0,3),(1,3),(2,3),(3,3)],4,32,[.int .i64 0,.int .i64 0,.int .i64 0,.int .i64 0],false⟩:=rfl
theorem Zwu:X0 24=some ⟨.struct [(0,3),(1,3),(2,3),(3,3)],4,32,[.int .i64 0,.int .i64 0,.int .i64 0,.int .i64 0],true⟩:=rfl
theorem Uv:X0 26=some ⟨.slice 49,1,24,[.slice none 0 0],false⟩:=rfl
theorem Zsh:X0 27=some ⟨.slice 29,1,24,[.slice none 0 0],false⟩:=rfl
theorem Zwv:X0 28=some ⟨.struct [(0,3),(1,26),(2,27)],3,56,[.int .i64 0,.slice none 0 0,.slice none 0 0],false⟩:=rfl
theorem Zdb:X0 29=some ⟨.struct [(0,3),(1,26),(2,27)],3,56,[.int .i64 0,.slice none 0 0,.slice none 0 0],false⟩:=rfl
theorem Zww:X0 36=some ⟨.slice 57,1,24,[.slice none 0 0],false⟩:=rfl
theorem Zwx:X0 37=some ⟨.slice 102,1,24,[.slice none 0 0],false⟩:=rfl
theorem Zwy:X0 38=some ⟨.slice 136,1,24,[.slice none 0 0],false⟩:=rfl
theorem Zwz:X0 39=some ⟨.struct [(0,3),(1,29),(4,29),(7,36),(8,37),(9,3),(10,38)],11,200,[.int .i64 0,.int .i64 0,.slice none 0 0,.slice none 0 0,.int .i64 0,.slice none 0 0,.slice none 0 0,.slice none 0 0,.slice none 0 0,.int .i64 0,.slice none 0 0],false⟩:=rfl
theorem Zw0:X0 40=some ⟨.struct [(0,3),(1,29),(4,29),(7,36),(8,37),(9,3),(10,38)],11,200,[.int .i64 0,.int .i64 0,.slice none 0 0,.slice none 0 0,.int .i64 0,.slice none 0 0,.slice none 0 0,.slice none 0 0,.slice none 0 0,.int .i64 0,.slice none 0 0],false⟩:=rfl
theorem Zw1:X0 41=some ⟨.int .i64,1,8,[.int .i64 0],false⟩:=rfl
theorem Zw2:X0 44=some ⟨.ptr 107,1,8,[.pointer none],false⟩:=rfl
theorem Zw3:X0 45=some ⟨.struct [(0,44),(1,3),(2,3),(3,3),(4,3),(5,3),(6,3),(7,3),(8,3)],9,72,[.pointer none,.int .i64 0,.int .i64 0,.int .i64 0,.int .i64 0,.int .i64 0,.int .i64 0,.int .i64 0,.int .i64 0],false⟩:=rfl
theorem Zw4:X0 46=some ⟨.struct [(0,44),(1,3),(2,3),(3,3),(4,3),(5,3),(6,3),(7,3),(8,3)],9,72,[.pointer none,.int .i64 0,.int .i64 0,.int .i64 0,.int .i64 0,.int .i64 0,.int .i64 0,.int .i64 0,.int .i64 0],false⟩:=rfl
theorem Ug:X0 49=some ⟨.int .u64,1,8,[.int .u64 0],false⟩:=rfl
theorem Zw5:X0 50=some ⟨.struct [(0,3),(1,3),(2,3),(3,3),(4,3),(5,3),(6,49)],7,56,[.int .i64 0,.int .i64 0,.int .i64 0,.int .i64 0,.int .i64 0,.int .i64 0,.int .u64 0],false⟩:=rfl
theorem Zw6:X0 51=some ⟨.struct [(0,3),(1,3),(2,3),(3,3),(4,3),(5,3),(6,49)],7,56,[.int .i64 0,.int .i64 0,.int .i64 0,.int .i64 0,.int .i64 0,.int .i64 0,.int .u64 0],true⟩:=rfl
theorem Zw7:X0 56=some ⟨.struct [(0,3),(1,5),(2,49),(3,49)],4,32,[.int .i64 0,.int .u8 0,.int .u64 0,.int .u64 0],false⟩:=rfl
theorem Zuq:X0 57=some ⟨.struct [(0,3),(1,5),(2,49),(3,49)],4,32,[.int .i64 0,.int .u8 0,.int .u64 0,.int .u64 0],true⟩:=rfl
theorem Zw8:X0 59=some ⟨.ptr 63,1,8,[.pointer none],false⟩:=rfl
theorem Zw9:X0 60=some ⟨.ptr 69,1,8,[.pointer none],false⟩:=rfl
theorem Zxa:X0 62=some ⟨.struct [(0,60),(1,4)],2,16,[.pointer none,.bool false],false⟩:=rfl
theorem Zxb:X0 63=some ⟨.struct [(0,60),(1,4)],2,16,[.pointer none,.bool false],false⟩:=rfl
theorem Zxc:X0 68=some ⟨.struct [(0,22),(1,3),(2,3),(3,3)],4,48,[.slice none 0 0,.int .i64 0,.int .i64 0,.int .i64 0],false⟩:=rfl
theorem Zxd:X0 69=some ⟨.struct [(0,22),(1,3),(2,3),(3,3)],4,48,[.slice none 0 0,.int .i64 0,.int .i64 0,.int .i64 0],false⟩:=rfl
theorem Zxe:X0 70=some ⟨.struct [(0,3),(1,3)],2,16,[.int .i64 0,.int .i64 0],false⟩:=rfl
theorem Zxf:X0 71=some ⟨.struct [(0,3),(1,3)],2,16,[.int .i64 0,.int .i64 0],true⟩:=rfl
theorem Zxg:X0 78=some ⟨.struct [(0,3),(1,3),(2,3),(3,3),(4,3),(5,3),(6,3),(7,4)],8,64,[.int .i64 0,.int .i64 0,.int .i64 0,.int .i64 0,.int .i64 0,.int .i64 0,.int .i64 0,.bool false],false⟩:=rfl
theorem Zxh:X0 79=some ⟨.struct [(0,3),(1,3),(2,3),(3,3),(4,3),(5,3),(6,3),(7,4)],8,64,[.int .i64 0,.int .i64 0,.int .i64 0,.int .i64 0,.int .i64 0,.int .i64 0,.int .i64 0,.bool false],true⟩:=rfl
theorem Zxi:X0 80=some ⟨.struct [(0,79),(8,3),(9,3)],10,80,[.int .i64 0,.int .i64 0,.int .i64 0,.int .i64 0,.int .i64 0,.int .i64 0,.int .i64 0,.bool false,.int .i64 0,.int .i64 0],false⟩:=rfl
theorem Zxj:X0 81=some ⟨.struct [(0,79),(8,3),(9,3)],10,80,[.int .i64 0,.int .i64 0,.int .i64 0,.int .i64 0,.int .i64 0,.int .i64 0,.int .i64 0,.bool false,.int .i64 0,.int .i64 0],true⟩:=rfl
theorem Zxk:X0 96=some ⟨.ptr 71,1,8,[.pointer none],false⟩:=rfl
theorem Zq0:X0 101=some ⟨.struct [(0,3),(1,40)],12,208,[.int .i64 0,.int .i64 0,.int .i64 0,.slice none 0 0,.slice none 0 0,.int .i64 0,.slice none 0 0,.slice none 0 0,.slice none 0 0,.slice none 0 0,.int .i64 0,.slice none 0 0],false⟩:=rfl
theorem Zoe:X0 102=some ⟨.struct [(0,3),(1,40)],12,208,[.int .i64 0,.int .i64 0,.int .i64 0,.slice none 0 0,.slice none 0 0,.int .i64 0,.slice none 0 0,.slice none 0 0,.slice none 0 0,.slice none 0 0,.int .i64 0,.slice none 0 0],false⟩:=rfl
theorem Zq1:X0 106=some ⟨.struct [(0,22),(1,3),(2,3)],3,40,[.slice none 0 0,.int .i64 0,.int .i64 0],false⟩:=rfl
theorem Zq2:X0 107=some ⟨.struct [(0,22),(1,3),(2,3)],3,40,[.slice none 0 0,.int .i64 0,.int .i64 0],false⟩:=rfl
theorem Zq3:X0 115=some ⟨.struct [(0,3)],1,8,[.int .i64 0],false⟩:=rfl
theorem Zq4:X0 116=some ⟨.struct [(0,3)],1,8,[.int .i64 0],true⟩:=rfl
theorem Zq5:X0 121=some ⟨.slice 127,1,24,[.slice none 0 0],false⟩:=rfl
theorem Zq6:X0 124=some ⟨.struct [(0,46),(9,46),(18,3),(19,3),(20,3),(21,3),(22,3),(23,38)],24,208,[.pointer none,.int .i64 0,.int .i64 0,.int .i64 0,.int .i64 0,.int .i64 0,.int .i64 0,.int .i64 0,.int .i64 0,.pointer none,.int .i64 0,.int .i64 0,.int .i64 0,.int .i64 0,.int .i64 0,.int .i64 0,.int .i64 0,.int .i64 0,.int .i64 0,.int .i64 0,.int .i64 0,.int .i64 0,.int .i64 0,.slice none 0 0],false⟩:=rfl
theorem Zq7:X0 125=some ⟨.struct [(0,46),(9,46),(18,3),(19,3),(20,3),(21,3),(22,3),(23,38)],24,208,[.pointer none,.int .i64 0,.int .i64 0,.int .i64 0,.int .i64 0,.int .i64 0,.int .i64 0,.int .i64 0,.int .i64 0,.pointer none,.int .i64 0,.int .i64 0,.int .i64 0,.int .i64 0,.int .i64 0,.int .i64 0,.int .i64 0,.int .i64 0,.int .i64 0,.int .i64 0,.int .i64 0,.int .i64 0,.int .i64 0,.slice none 0 0],false⟩:=rfl
theorem Zq8:X0 126=some ⟨.struct [(0,3),(1,3)],2,16,[.int .i64 0,.int .i64 0],false⟩:=rfl
theorem Zq9:X0 127=some ⟨.struct [(0,3),(1,3)],2,16,[.int .i64 0,.int .i64 0],true⟩:=rfl
theorem Zra:X0 133=some ⟨.struct [(0,38),(1,3),(2,27),(3,27)],4,80,[.slice none 0 0,.int .i64 0,.slice none 0 0,.slice none 0 0],false⟩:=rfl
theorem Zrb:X0 134=some ⟨.struct [(0,38),(1,3),(2,27),(3,27)],4,80,[.slice none 0 0,.int .i64 0,.slice none 0 0,.slice none 0 0],false⟩:=rfl
theorem Zrc:X0 135=some ⟨.struct [(0,3),(1,3),(2,27),(3,40)],14,240,[.int .i64 0,.int .i64 0,.slice none 0 0,.int .i64 0,.int .i64 0,.slice none 0 0,.slice none 0 0,.int .i64 0,.slice none 0 0,.slice none 0 0,.slice none 0 0,.slice none 0 0,.int .i64 0,.slice none 0 0],false⟩:=rfl
theorem Zrd:X0 136=some ⟨.struct [(0,3),(1,3),(2,27),(3,40)],14,240,[.int .i64 0,.int .i64 0,.slice none 0 0,.int .i64 0,.int .i64 0,.slice none 0 0,.slice none 0 0,.int .i64 0,.slice none 0 0,.slice none 0 0,.slice none 0 0,.slice none 0 0,.int .i64 0,.slice none 0 0],false⟩:=rfl
theorem Zre:X0 138=some ⟨.ptr 27,1,8,[.pointer none],false⟩:=rfl
theorem Zrf:X0 140=some ⟨.struct [(0,3),(1,3),(2,3),(3,3),(4,3),(5,3),(6,3),(7,4)],8,64,[.int .i64 0,.int .i64 0,.int .i64 0,.int .i64 0,.int .i64 0,.int .i64 0,.int .i64 0,.bool false],true⟩:=rfl
theorem Zrg:X0 141=some ⟨.struct [(0,140),(8,3),(9,3)],10,80,[.int .i64 0,.int .i64 0,.int .i64 0,.int .i64 0,.int .i64 0,.int .i64 0,.int .i64 0,.bool false,.int .i64 0,.int .i64 0],false⟩:=rfl
theorem Zrh:X0 142=some ⟨.struct [(0,140),(8,3),(9,3)],10,80,[.int .i64 0,.int .i64 0,.int .i64 0,.int .i64 0,.int .i64 0,.int .i64 0,.int .i64 0,.bool false,.int .i64 0,.int .i64 0],true⟩:=rfl
theorem Zri:X0 147=some ⟨.ptr 116,1,8,[.pointer none],false⟩:=rfl
theorem Zrj:X0 158=some ⟨.ptr 184,1,8,[.pointer none],false⟩:=rfl
theorem Zrk:X0 160=some ⟨.slice 3,1,24,[.slice none 0 0],false⟩:=rfl
theorem Zrl:X0 166=some ⟨.ptr 125,1,8,[.pointer none],false⟩:=rfl
theorem Zjy:X0 177=some ⟨.arr 8 5,8,8,[.int .u8 0,.int .u8 0,.int .u8 0,.int .u8 0,.int .u8 0,.int .u8 0,.int .u8 0,.int .u8 0],true⟩:=rfl
theorem Zrm:X0 209=some ⟨.int .u64,1,8,[.int .u64 0],false⟩:=rfl
theorem Zrn:X0 212=some ⟨.arr 6 3,6,48,[.int .i64 0,.int .i64 0,.int .i64 0,.int .i64 0,.int .i64 0,.int .i64 0],true⟩:=rfl
theorem Zro:X0 224=some ⟨.int .u32,1,4,[.int .u32 0],false⟩:=rfl
theorem Zrp:X0 243=some ⟨.arr 7 3,7,56,[.int .i64 0,.int .i64 0,.int .i64 0,.int .i64 0,.int .i64 0,.int .i64 0,.int .i64 0],true⟩:=rfl
theorem Zrq:Z9 X0 2=some (.int .i64):=rfl
theorem Zrr:Z9 X0 3=some (.int .i64):=rfl
theorem Zrs:Z9 X0 4=some (.bool):=rfl
theorem Zrt:Z9 X0 5=some (.int .u8):=rfl
theorem Zru:Z9 X0 6=some (.int .u8):=rfl
theorem Zrv:Z9 X0 7=some (.struct [(0,2),(1,3),(2,4),(3,6)]):=rfl
theorem Zrw:Z9 X0 8=some (.struct [(0,2),(1,3),(2,4),(3,6)]):=rfl
theorem Zrx:Z9 X0 9=some (.str):=rfl
theorem Zlr:Z9 X0 10=some (.str):=rfl
theorem Zls:Z9 X0 11=some (.str):=rfl
theorem Zlt:Z9 X0 12=some (.int .u64):=rfl
theorem Zlu:Z9 X0 13=some (.struct [(0,9),(1,12)]):=rfl
theorem Zlv:Z9 X0 14=some (.struct [(0,9),(1,12)]):=rfl
theorem Zlw:Z9 X0 15=some (.ptr 284):=rfl
theorem Zlx:Z9 X0 16=some (.ptr 287):=rfl
theorem Zly:Z9 X0 17=some (.ptr 295):=rfl
theorem Zlz:Z9 X0 18=some (.struct [(0,17)]):=rfl
theorem Zl0:Z9 X0 19=some (.struct [(0,17)]):=rfl
theorem Zl1:Z9 X0 21=some (.int .i32):=rfl
theorem Zl2:Z9 X0 22=some (.slice 26):=rfl
theorem Zl3:Z9 X0 23=some (.struct [(0,3),(1,3),(2,3),(3,3)]):=rfl
theorem Zl4:Z9 X0 24=some (.struct [(0,3),(1,3),(2,3),(3,3)]):=rfl
theorem Zcz:Z9 X0 26=some (.slice 49):=rfl
theorem Zir:Z9 X0 27=some (.slice 29):=rfl
theorem Zl5:Z9 X0 28=some (.struct [(0,3),(1,26),(2,27)]):=rfl
theorem Zl6:Z9 X0 29=some (.struct [(0,3),(1,26),(2,27)]):=rfl
theorem Zl7:Z9 X0 36=some (.slice 57):=rfl
theorem Zl8:Z9 X0 37=some (.slice 102):=rfl
theorem Zl9:Z9 X0 38=some (.slice 136):=rfl
theorem Zma:Z9 X0 39=some (.struct [(0,3),(1,29),(4,29),(7,36),(8,37),(9,3),(10,38)]):=rfl
theorem Zmb:Z9 X0 40=some (.struct [(0,3),(1,29),(4,29),(7,36),(8,37),(9,3),(10,38)]):=rfl
theorem Zmc:Z9 X0 41=some (.int .i64):=rfl
theorem Zis:Z9 X0 44=some (.ptr 107):=rfl
theorem Zmd:Z9 X0 45=some (.struct [(0,44),(1,3),(2,3),(3,3),(4,3),(5,3),(6,3),(7,3),(8,3)]):=rfl
theorem Zme:Z9 X0 46=some (.struct [(0,44),(1,3),(2,3),(3,3),(4,3),(5,3),(6,3),(7,3),(8,3)]):=rfl
theorem Zmf:Z9 X0 49=some (.int .u64):=rfl
theorem Zmg:Z9 X0 50=some (.struct [(0,3),(1,3),(2,3),(3,3),(4,3),(5,3),(6,49)]):=rfl
theorem Zmh:Z9 X0 51=some (.struct [(0,3),(1,3),(2,3),(3,3),(4,3),(5,3),(6,49)]):=rfl
theorem Zmi:Z9 X0 56=some (.struct [(0,3),(1,5),(2,49),(3,49)]):=rfl
theorem Zmj:Z9 X0 57=some (.struct [(0,3),(1,5),(2,49),(3,49)]):=rfl
theorem Zmk:Z9 X0 59=some (.ptr 63):=rfl
theorem Zml:Z9 X0 60=some (.ptr 69):=rfl
theorem Zmm:Z9 X0 62=some (.struct [(0,60),(1,4)]):=rfl
theorem Zmn:Z9 X0 63=some (.struct [(0,60),(1,4)]):=rfl
theorem Zmo:Z9 X0 68=some (.struct [(0,22),(1,3),(2,3),(3,3)]):=rfl
theorem Zmp:Z9 X0 69=some (.struct [(0,22),(1,3),(2,3),(3,3)]):=rfl
theorem Zmq:Z9 X0 70=some (.struct [(0,3),(1,3)]):=rfl
theorem Zmr:Z9 X0 71=some (.struct [(0,3),(1,3)]):=rfl
theorem Zms:Z9 X0 78=some (.struct [(0,3),(1,3),(2,3),(3,3),(4,3),(5,3),(6,3),(7,4)]):=rfl
theorem Zmt:Z9 X0 79=some (.struct [(0,3),(1,3),(2,3),(3,3),(4,3),(5,3),(6,3),(7,4)]):=rfl
theorem Zmu:Z9 X0 80=some (.struct [(0,79),(8,3),(9,3)]):=rfl
theorem Zmv:Z9 X0 81=some (.struct [(0,79),(8,3),(9,3)]):=rfl
theorem Zmw:Z9 X0 96=some (.ptr 71):=rfl
theorem Zha:Z9 X0 101=some (.struct [(0,3),(1,40)]):=rfl
theorem Zhb:Z9 X0 102=some (.struct [(0,3),(1,40)]):=rfl
theorem Zhc:Z9 X0 106=some (.struct [(0,22),(1,3),(2,3)]):=rfl
theorem Zhd:Z9 X0 107=some (.struct [(0,22),(1,3),(2,3)]):=rfl
theorem Zhe:Z9 X0 115=some (.struct [(0,3)]):=rfl
theorem Zhf:Z9 X0 116=some (.struct [(0,3)]):=rfl
theorem Zhg:Z9 X0 121=some (.slice 127):=rfl
theorem Zhh:Z9 X0 124=some (.struct [(0,46),(9,46),(18,3),(19,3),(20,3),(21,3),(22,3),(23,38)]):=rfl
theorem Zhi:Z9 X0 125=some (.struct [(0,46),(9,46),(18,3),(19,3),(20,3),(21,3),(22,3),(23,38)]):=rfl
theorem Zhj:Z9 X0 126=some (.struct [(0,3),(1,3)]):=rfl
theorem Zhk:Z9 X0 127=some (.struct [(0,3),(1,3)]):=rfl
theorem Zhl:Z9 X0 133=some (.struct [(0,38),(1,3),(2,27),(3,27)]):=rfl
theorem Zhm:Z9 X0 134=some (.struct [(0,38),(1,3),(2,27),(3,27)]):=rfl
theorem Zhn:Z9 X0 135=some (.struct [(0,3),(1,3),(2,27),(3,40)]):=rfl
theorem Zho:Z9 X0 136=some (.struct [(0,3),(1,3),(2,27),(3,40)]):=rfl
theorem Zhp:Z9 X0 138=some (.ptr 27):=rfl
theorem Zhq:Z9 X0 140=some (.struct [(0,3),(1,3),(2,3),(3,3),(4,3),(5,3),(6,3),(7,4)]):=rfl
theorem Zhr:Z9 X0 141=some (.struct [(0,140),(8,3),(9,3)]):=rfl
theorem Zhs:Z9 X0 142=some (.struct [(0,140),(8,3),(9,3)]):=rfl
theorem Zht:Z9 X0 147=some (.ptr 116):=rfl
theorem Zhu:Z9 X0 158=some (.ptr 184):=rfl
theorem Zhv:Z9 X0 160=some (.slice 3):=rfl
theorem Zhw:Z9 X0 166=some (.ptr 125):=rfl
theorem Zhx:Z9 X0 177=some (.arr 8 5):=rfl
theorem Zhy:Z9 X0 209=some (.int .u64):=rfl
theorem Zhz:Z9 X0 212=some (.arr 6 3):=rfl
theorem Zh0:Z9 X0 224=some (.int .u32):=rfl
theorem Zh1:Z9 X0 243=some (.arr 7 3):=rfl
end Go.Proofs.YtmjjjfamipncdaaGreat
