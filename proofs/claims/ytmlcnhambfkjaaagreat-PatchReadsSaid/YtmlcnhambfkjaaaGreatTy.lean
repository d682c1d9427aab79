/- The types of this seat's program, as its dump has them, in the ghost memory's words; no condition. -/
import Derived.Test.YtmlcnhambfkjaaaGreatRows
import Derived.Test.YtmlcnhambfkjaaaGreatG16
namespace Go.Proofs.YtmlcnhambfkjaaaGreat
open Go.RowKit
set_option linter.unusedVariables false
set_option linter.unusedSimpArgs false
theorem TyOk.of {P:Program} {t:TypeId} (k:TK) (size bytes:Nat) (zero:List Value) (z:Value) (h:(P.info? t).map (fun i=>(i.zero,i.size,i.bytes))=some (some z,size,bytes)) (hz:z.cells.toList=zero) (hu:k.ok P t) (hl:zero.length=size) (h1:zero.all Value.oneCell'=true) (eq:Bool) (he:eq=true→EqTy P t):TyOk P t ⟨k,size,bytes,zero,eq⟩:=by
 refine ⟨?_,hu,hl,fun v hv=>List.all_eq_true.1 h1 v hv,he⟩
 cases hi:P.info? t with
 | none=>rw [hi] at h;cases h
 | some i =>
  rw [hi] at h
  simp only [Option.map_some,Option.some.injEq,Prod.mk.injEq] at h
  exact ⟨i,z,rfl,h.2.1,h.2.2,h.1,hz⟩
theorem TyOk.g {P:Program} {t:TypeId} {k:TK} {size bytes:Nat} {zero:List Value} {eq:Bool} (h:(P.info? t).map (fun i=>(i.zero,i.size,i.bytes))=some (some (.agg zero.toArray),size,bytes)) (hu:k.ok P t) (he:eq=true→EqTy P t:=by intro h;cases h) (hz:(Value.agg zero.toArray).cells.toList=zero:=by rfl) (hl:zero.length=size:=by rfl) (h1:zero.all Value.oneCell'=true:=by rfl):TyOk P t ⟨k,size,bytes,zero,eq⟩ := .of k size bytes zero _ h hz hu hl h1 eq he
theorem TyOk.s {P:Program} {t:TypeId} {k:TK} {size bytes:Nat} {z:Value} {eq:Bool} (h:(P.info? t).map (fun i=>(i.zero,i.size,i.bytes))=some (some z,size,bytes)) (hu:k.ok P t) (he:eq=true→EqTy P t:=by intro h;cases h) (hz:z.cells.toList=[z]:=by rfl) (hl:[z].length=size:=by rfl) (h1:[z].all Value.oneCell'=true:=by rfl):TyOk P t ⟨k,size,bytes,[z],eq⟩ := .of k size bytes [z] _ h hz hu hl h1 eq he
theorem EqTy.m {P:Program} {t:TypeId} (h:EqTy P t):true=true→EqTy P t:=fun _=>h
theorem Zx4 {α:Type} {t:Nat} {i:α}:∀ (l:List (Nat×α)),l.lookup t=some i→(t,i)∈l
 | [],h=>by simp at h
 | (a,b)::l,h=>by
  rw [List.lookup_cons] at h
  split at h
  ·rename_i he
   injection h with h
   have:t=a:=by simpa using he
   subst h this
   exact .head _
  exact .tail _ (Zx4 l h)
def tE2:TyI:=⟨.int .i64,1,8,[.int .i64 0],false⟩
theorem ty2:TyOk Tryz.prog 2 tE2 := .s (by kernel_rfl) Tryz.underlying2
theorem ty3:TyOk Tryz.prog 3 tE2 := .s (by kernel_rfl) Tryz.underlying3
def tE4:TyI:=⟨.bool,1,1,[.bool false],false⟩
theorem ty4:TyOk Tryz.prog 4 tE4 := .s (by kernel_rfl) Tryz.underlying4
def tE5:TyI:=⟨.int .u8,1,1,[.int .u8 0],false⟩
theorem ty5:TyOk Tryz.prog 5 tE5 := .s (by kernel_rfl) Tryz.underlying5
theorem ty6:TyOk Tryz.prog 6 tE5 := .s (by kernel_rfl) Tryz.underlying6
def tE7:TyI:=⟨.struct [(0,2),(1,3),(2,4),(3,6)],4,24,[.int .i64 0,.int .i64 0,.bool false,.int .u8 0],false⟩
theorem ty7:TyOk Tryz.prog 7 tE7 := .g (by kernel_rfl) ⟨_,Tryz.underlying7,rfl⟩
theorem ty8:TyOk Tryz.prog 8 tE7 := .g (by kernel_rfl) ⟨_,Tryz.underlying8,rfl⟩
def tE9:TyI:=⟨.str,1,16,[.string ByteArray.empty],false⟩
theorem ty9:TyOk Tryz.prog 9 tE9 := .s (by kernel_rfl) Tryz.underlying9
theorem Ypr:TyOk Tryz.prog 10 tE9 := .s (by kernel_rfl) Tryz.underlying10
theorem Yps:TyOk Tryz.prog 11 tE9 := .s (by kernel_rfl) Tryz.underlying11
def Z7g:TyI:=⟨.int .u64,1,8,[.int .u64 0],false⟩
theorem Ypt:TyOk Tryz.prog 12 Z7g := .s (by kernel_rfl) Tryz.underlying12
def Yg6:TyI:=⟨.struct [(0,9),(1,12)],2,24,[.string ByteArray.empty,.int .u64 0],false⟩
theorem Ypu:TyOk Tryz.prog 13 Yg6 := .g (by kernel_rfl) ⟨_,Tryz.underlying13,rfl⟩
theorem Ypv:TyOk Tryz.prog 14 Yg6 := .g (by kernel_rfl) ⟨_,Tryz.underlying14,rfl⟩
def Ylm:TyI:=⟨.ptr 399,1,8,[.pointer none],false⟩
theorem Ypw:TyOk Tryz.prog 15 Ylm := .s (by kernel_rfl) Tryz.underlying15
def Yln:TyI:=⟨.ptr 402,1,8,[.pointer none],false⟩
theorem Ypx:TyOk Tryz.prog 16 Yln := .s (by kernel_rfl) Tryz.underlying16
def Ylo:TyI:=⟨.ptr 410,1,8,[.pointer none],false⟩
theorem Ypy:TyOk Tryz.prog 17 Ylo := .s (by kernel_rfl) Tryz.underlying17
def Yg7:TyI:=⟨.struct [(0,17)],1,8,[.pointer none],false⟩
theorem Ypz:TyOk Tryz.prog 18 Yg7 := .g (by kernel_rfl) ⟨_,Tryz.underlying18,rfl⟩
theorem Yp0:TyOk Tryz.prog 19 Yg7 := .g (by kernel_rfl) ⟨_,Tryz.underlying19,rfl⟩
def Yc0:TyI:=⟨.int .i32,1,4,[.int .i32 0],false⟩
theorem Yp1:TyOk Tryz.prog 21 Yc0 := .s (by kernel_rfl) Tryz.underlying21
def Ylp:TyI:=⟨.slice 77,1,24,[.slice none 0 0],false⟩
theorem Yp2:TyOk Tryz.prog 22 Ylp := .s (by kernel_rfl) Tryz.underlying22
def Ylq:TyI:=⟨.slice 25,1,24,[.slice none 0 0],false⟩
theorem Yp3:TyOk Tryz.prog 23 Ylq := .s (by kernel_rfl) Tryz.underlying23
def Yg8:TyI:=⟨.struct [(0,3),(1,22),(2,23)],3,56,[.int .i64 0,.slice none 0 0,.slice none 0 0],false⟩
theorem Yp4:TyOk Tryz.prog 24 Yg8 := .g (by kernel_rfl) ⟨_,Tryz.underlying24,rfl⟩
theorem Yp5:TyOk Tryz.prog 25 Yg8 := .g (by kernel_rfl) ⟨_,Tryz.underlying25,rfl⟩
def Ylr:TyI:=⟨.slice 84,1,24,[.slice none 0 0],false⟩
theorem Yp6:TyOk Tryz.prog 26 Ylr := .s (by kernel_rfl) Tryz.underlying26
def Yls:TyI:=⟨.slice 86,1,24,[.slice none 0 0],false⟩
theorem Yp7:TyOk Tryz.prog 27 Yls := .s (by kernel_rfl) Tryz.underlying27
def Ylt:TyI:=⟨.slice 89,1,24,[.slice none 0 0],false⟩
theorem Yp8:TyOk Tryz.prog 28 Ylt := .s (by kernel_rfl) Tryz.underlying28
def Yg9:TyI:=⟨.struct [(0,3),(1,25),(4,25),(7,26),(8,27),(9,3),(10,28)],11,200,[.int .i64 0,.int .i64 0,.slice none 0 0,.slice none 0 0,.int .i64 0,.slice none 0 0,.slice none 0 0,.slice none 0 0,.slice none 0 0,.int .i64 0,.slice none 0 0],false⟩
theorem Yp9:TyOk Tryz.prog 29 Yg9 := .g (by kernel_rfl) ⟨_,Tryz.underlying29,rfl⟩
theorem Yqa:TyOk Tryz.prog 30 Yg9 := .g (by kernel_rfl) ⟨_,Tryz.underlying30,rfl⟩
theorem Yqb:TyOk Tryz.prog 44 tE2 := .s (by kernel_rfl) Tryz.underlying44
def Ylu:TyI:=⟨.slice 22,1,24,[.slice none 0 0],false⟩
theorem Yqc:TyOk Tryz.prog 53 Ylu := .s (by kernel_rfl) Tryz.underlying53
def Ylv:TyI:=⟨.struct [(0,3),(1,3),(2,3),(3,3)],4,32,[.int .i64 0,.int .i64 0,.int .i64 0,.int .i64 0],false⟩
theorem Yqd:TyOk Tryz.prog 54 Ylv := .g (by kernel_rfl) ⟨_,Tryz.underlying54,rfl⟩
def Ylw:TyI:=⟨.struct [(0,3),(1,3),(2,3),(3,3)],4,32,[.int .i64 0,.int .i64 0,.int .i64 0,.int .i64 0],true⟩
theorem Yqe:TyOk Tryz.prog 55 Ylw := .g (by kernel_rfl) ⟨_,Tryz.underlying55,rfl⟩ (fun _=>by unfold EqTy;exact ⟨by kernel_rfl,by kernel_rfl,by kernel_rfl⟩)
def Ylx:TyI:=⟨.ptr 147,1,8,[.pointer none],false⟩
theorem Yqf:TyOk Tryz.prog 60 Ylx := .s (by kernel_rfl) Tryz.underlying60
def Yha:TyI:=⟨.struct [(0,60),(1,3),(2,3),(3,3),(4,3),(5,3),(6,3),(7,3),(8,3)],9,72,[.pointer none,.int .i64 0,.int .i64 0,.int .i64 0,.int .i64 0,.int .i64 0,.int .i64 0,.int .i64 0,.int .i64 0],false⟩
theorem Yqg:TyOk Tryz.prog 61 Yha := .g (by kernel_rfl) ⟨_,Tryz.underlying61,rfl⟩
theorem Yqh:TyOk Tryz.prog 62 Yha := .g (by kernel_rfl) ⟨_,Tryz.underlying62,rfl⟩
theorem Yqi:TyOk Tryz.prog 77 Z7g := .s (by kernel_rfl) Tryz.underlying77
theorem Yqj:TyOk Tryz.prog 81 Z7g := .s (by kernel_rfl) Tryz.underlying81
def Yly:TyI:=⟨.struct [(0,3),(1,5),(2,77),(3,77)],4,32,[.int .i64 0,.int .u8 0,.int .u64 0,.int .u64 0],false⟩
theorem Yqk:TyOk Tryz.prog 83 Yly := .g (by kernel_rfl) ⟨_,Tryz.underlying83,rfl⟩
def Ylz:TyI:=⟨.struct [(0,3),(1,5),(2,77),(3,77)],4,32,[.int .i64 0,.int .u8 0,.int .u64 0,.int .u64 0],true⟩
theorem Yql:TyOk Tryz.prog 84 Ylz := .g (by kernel_rfl) ⟨_,Tryz.underlying84,rfl⟩ (fun _=>by unfold EqTy;exact ⟨by kernel_rfl,by kernel_rfl,by kernel_rfl⟩)
def Yhb:TyI:=⟨.struct [(0,3),(1,30)],12,208,[.int .i64 0,.int .i64 0,.int .i64 0,.slice none 0 0,.slice none 0 0,.int .i64 0,.slice none 0 0,.slice none 0 0,.slice none 0 0,.slice none 0 0,.int .i64 0,.slice none 0 0],false⟩
theorem Yqm:TyOk Tryz.prog 85 Yhb := .g (by kernel_rfl) ⟨_,Tryz.underlying85,rfl⟩
theorem Yqn:TyOk Tryz.prog 86 Yhb := .g (by kernel_rfl) ⟨_,Tryz.underlying86,rfl⟩
def Yhc:TyI:=⟨.struct [(0,3),(1,3),(2,23),(3,30)],14,240,[.int .i64 0,.int .i64 0,.slice none 0 0,.int .i64 0,.int .i64 0,.slice none 0 0,.slice none 0 0,.int .i64 0,.slice none 0 0,.slice none 0 0,.slice none 0 0,.slice none 0 0,.int .i64 0,.slice none 0 0],false⟩
theorem Yqo:TyOk Tryz.prog 88 Yhc := .g (by kernel_rfl) ⟨_,Tryz.underlying88,rfl⟩
theorem Yqp:TyOk Tryz.prog 89 Yhc := .g (by kernel_rfl) ⟨_,Tryz.underlying89,rfl⟩
def Yh2:TyI:=⟨.struct [(0,3),(1,3),(2,3),(3,3),(4,3),(5,3),(6,77)],7,56,[.int .i64 0,.int .i64 0,.int .i64 0,.int .i64 0,.int .i64 0,.int .i64 0,.int .u64 0],false⟩
theorem Yl3:TyOk Tryz.prog 106 Yh2 := .g (by kernel_rfl) ⟨_,Tryz.underlying106,rfl⟩
def Yh3:TyI:=⟨.struct [(0,3),(1,3),(2,3),(3,3),(4,3),(5,3),(6,77)],7,56,[.int .i64 0,.int .i64 0,.int .i64 0,.int .i64 0,.int .i64 0,.int .i64 0,.int .u64 0],true⟩
theorem Yl4:TyOk Tryz.prog 107 Yh3 := .g (by kernel_rfl) ⟨_,Tryz.underlying107,rfl⟩ (fun _=>by unfold EqTy;exact ⟨by kernel_rfl,by kernel_rfl,by kernel_rfl⟩)
def Zv8:TyI:=⟨.struct [(0,3),(1,3)],2,16,[.int .i64 0,.int .i64 0],false⟩
theorem Yl5:TyOk Tryz.prog 111 Zv8 := .g (by kernel_rfl) ⟨_,Tryz.underlying111,rfl⟩
def Zoc:TyI:=⟨.struct [(0,3),(1,3)],2,16,[.int .i64 0,.int .i64 0],true⟩
theorem Yl6:TyOk Tryz.prog 112 Zoc := .g (by kernel_rfl) ⟨_,Tryz.underlying112,rfl⟩ (fun _=>by unfold EqTy;exact ⟨by kernel_rfl,by kernel_rfl,by kernel_rfl⟩)
def Yh4:TyI:=⟨.ptr 120,1,8,[.pointer none],false⟩
theorem Yl7:TyOk Tryz.prog 116 Yh4 := .s (by kernel_rfl) Tryz.underlying116
def Yh5:TyI:=⟨.ptr 124,1,8,[.pointer none],false⟩
theorem Yl8:TyOk Tryz.prog 117 Yh5 := .s (by kernel_rfl) Tryz.underlying117
def Ybn:TyI:=⟨.struct [(0,117),(1,4)],2,16,[.pointer none,.bool false],false⟩
theorem Yl9:TyOk Tryz.prog 119 Ybn := .g (by kernel_rfl) ⟨_,Tryz.underlying119,rfl⟩
theorem Yma:TyOk Tryz.prog 120 Ybn := .g (by kernel_rfl) ⟨_,Tryz.underlying120,rfl⟩
def Ybo:TyI:=⟨.struct [(0,53),(1,3),(2,3),(3,3)],4,48,[.slice none 0 0,.int .i64 0,.int .i64 0,.int .i64 0],false⟩
theorem Ymb:TyOk Tryz.prog 123 Ybo := .g (by kernel_rfl) ⟨_,Tryz.underlying123,rfl⟩
theorem Ymc:TyOk Tryz.prog 124 Ybo := .g (by kernel_rfl) ⟨_,Tryz.underlying124,rfl⟩
def Yh6:TyI:=⟨.struct [(0,4),(1,3)],2,16,[.bool false,.int .i64 0],false⟩
theorem Ymd:TyOk Tryz.prog 125 Yh6 := .g (by kernel_rfl) ⟨_,Tryz.underlying125,rfl⟩
def Yh7:TyI:=⟨.struct [(0,4),(1,3)],2,16,[.bool false,.int .i64 0],true⟩
theorem Yme:TyOk Tryz.prog 126 Yh7 := .g (by kernel_rfl) ⟨_,Tryz.underlying126,rfl⟩ (fun _=>by unfold EqTy;exact ⟨by kernel_rfl,by kernel_rfl,by kernel_rfl⟩)
def Ybp:TyI:=⟨.struct [(0,22),(1,3)],2,32,[.slice none 0 0,.int .i64 0],false⟩
theorem Ymf:TyOk Tryz.prog 139 Ybp := .g (by kernel_rfl) ⟨_,Tryz.underlying139,rfl⟩
theorem Ymg:TyOk Tryz.prog 140 Ybp := .g (by kernel_rfl) ⟨_,Tryz.underlying140,rfl⟩
def Z15:TyI:=⟨.struct [(0,3)],1,8,[.int .i64 0],false⟩
theorem Ymh:TyOk Tryz.prog 142 Z15 := .g (by kernel_rfl) ⟨_,Tryz.underlying142,rfl⟩
def Z16:TyI:=⟨.struct [(0,3)],1,8,[.int .i64 0],true⟩
theorem Ymi:TyOk Tryz.prog 143 Z16 := .g (by kernel_rfl) ⟨_,Tryz.underlying143,rfl⟩ (fun _=>by unfold EqTy;exact ⟨by kernel_rfl,by kernel_rfl,by kernel_rfl⟩)
def Ybq:TyI:=⟨.struct [(0,53),(1,3),(2,3)],3,40,[.slice none 0 0,.int .i64 0,.int .i64 0],false⟩
theorem Ymj:TyOk Tryz.prog 146 Ybq := .g (by kernel_rfl) ⟨_,Tryz.underlying146,rfl⟩
theorem Ymk:TyOk Tryz.prog 147 Ybq := .g (by kernel_rfl) ⟨_,Tryz.underlying147,rfl⟩
def Yh8:TyI:=⟨.struct [(0,3),(1,3),(2,3),(3,3),(4,3),(5,3),(6,3),(7,4)],8,64,[.int .i64 0,.int .i64 0,.int .i64 0,.int .i64 0,.int .i64 0,.int .i64 0,.int .i64 0,.bool false],false⟩
theorem Yml:TyOk Tryz.prog 154 Yh8 := .g (by kernel_rfl) ⟨_,Tryz.underlying154,rfl⟩
def Ybr:TyI:=⟨.struct [(0,3),(1,3),(2,3),(3,3),(4,3),(5,3),(6,3),(7,4)],8,64,[.int .i64 0,.int .i64 0,.int .i64 0,.int .i64 0,.int .i64 0,.int .i64 0,.int .i64 0,.bool false],true⟩
theorem Ymm:TyOk Tryz.prog 155 Ybr := .g (by kernel_rfl) ⟨_,Tryz.underlying155,rfl⟩ (fun _=>by unfold EqTy;exact ⟨by kernel_rfl,by kernel_rfl,by kernel_rfl⟩)
def Yh9:TyI:=⟨.struct [(0,155),(8,3),(9,3)],10,80,[.int .i64 0,.int .i64 0,.int .i64 0,.int .i64 0,.int .i64 0,.int .i64 0,.int .i64 0,.bool false,.int .i64 0,.int .i64 0],false⟩
theorem Ymn:TyOk Tryz.prog 156 Yh9 := .g (by kernel_rfl) ⟨_,Tryz.underlying156,rfl⟩
def Yia:TyI:=⟨.struct [(0,155),(8,3),(9,3)],10,80,[.int .i64 0,.int .i64 0,.int .i64 0,.int .i64 0,.int .i64 0,.int .i64 0,.int .i64 0,.bool false,.int .i64 0,.int .i64 0],true⟩
theorem Ymo:TyOk Tryz.prog 157 Yia := .g (by kernel_rfl) ⟨_,Tryz.underlying157,rfl⟩ (fun _=>by unfold EqTy;exact ⟨by kernel_rfl,by kernel_rfl,by kernel_rfl⟩)
def Yib:TyI:=⟨.ptr 112,1,8,[.pointer none],false⟩
theorem Ymp:TyOk Tryz.prog 164 Yib := .s (by kernel_rfl) Tryz.underlying164
def Yic:TyI:=⟨.arr 8 5,8,8,[.int .u8 0,.int .u8 0,.int .u8 0,.int .u8 0,.int .u8 0,.int .u8 0,.int .u8 0,.int .u8 0],true⟩
theorem Ymq:TyOk Tryz.prog 185 Yic := .g (by kernel_rfl) Tryz.underlying185 (fun _=>by unfold EqTy;exact ⟨by kernel_rfl,by kernel_rfl,by kernel_rfl⟩)
def Yid:TyI:=⟨.slice 5,1,24,[.slice none 0 0],false⟩
theorem Ymr:TyOk Tryz.prog 189 Yid := .s (by kernel_rfl) Tryz.underlying189
def Yie:TyI:=⟨.ptr 140,1,8,[.pointer none],false⟩
theorem Yms:TyOk Tryz.prog 190 Yie := .s (by kernel_rfl) Tryz.underlying190
theorem Ymt:TyOk Tryz.prog 191 Ybr := .g (by kernel_rfl) ⟨_,Tryz.underlying191,rfl⟩ (fun _=>by unfold EqTy;exact ⟨by kernel_rfl,by kernel_rfl,by kernel_rfl⟩)
def Yif:TyI:=⟨.ptr 143,1,8,[.pointer none],false⟩
theorem Ymu:TyOk Tryz.prog 197 Yif := .s (by kernel_rfl) Tryz.underlying197
def Ybs:TyI:=⟨.struct [(0,28),(1,3),(2,23),(3,23)],4,80,[.slice none 0 0,.int .i64 0,.slice none 0 0,.slice none 0 0],false⟩
theorem Ymv:TyOk Tryz.prog 199 Ybs := .g (by kernel_rfl) ⟨_,Tryz.underlying199,rfl⟩
theorem Ymw:TyOk Tryz.prog 200 Ybs := .g (by kernel_rfl) ⟨_,Tryz.underlying200,rfl⟩
def Yig:TyI:=⟨.ptr 23,1,8,[.pointer none],false⟩
theorem Ymx:TyOk Tryz.prog 203 Yig := .s (by kernel_rfl) Tryz.underlying203
def Ybt:TyI:=⟨.struct [(0,3),(1,3),(2,23),(3,23),(4,28)],5,88,[.int .i64 0,.int .i64 0,.slice none 0 0,.slice none 0 0,.slice none 0 0],false⟩
theorem Ymy:TyOk Tryz.prog 207 Ybt := .g (by kernel_rfl) ⟨_,Tryz.underlying207,rfl⟩
theorem Ymz:TyOk Tryz.prog 208 Ybt := .g (by kernel_rfl) ⟨_,Tryz.underlying208,rfl⟩
def Yih:TyI:=⟨.slice 212,1,24,[.slice none 0 0],false⟩
theorem Ym0:TyOk Tryz.prog 209 Yih := .s (by kernel_rfl) Tryz.underlying209
theorem Ym1:TyOk Tryz.prog 211 Zv8 := .g (by kernel_rfl) ⟨_,Tryz.underlying211,rfl⟩
theorem Ym2:TyOk Tryz.prog 212 Zoc := .g (by kernel_rfl) ⟨_,Tryz.underlying212,rfl⟩ (fun _=>by unfold EqTy;exact ⟨by kernel_rfl,by kernel_rfl,by kernel_rfl⟩)
theorem Ym3:TyOk Tryz.prog 219 Z15 := .g (by kernel_rfl) ⟨_,Tryz.underlying219,rfl⟩
theorem Ym4:TyOk Tryz.prog 220 Z16 := .g (by kernel_rfl) ⟨_,Tryz.underlying220,rfl⟩ (fun _=>by unfold EqTy;exact ⟨by kernel_rfl,by kernel_rfl,by kernel_rfl⟩)
def Ybu:TyI:=⟨.struct [(0,62),(9,62),(18,3),(19,3),(20,3),(21,3),(22,3),(23,28)],24,208,[.pointer none,.int .i64 0,.int .i64 0,.int .i64 0,.int .i64 0,.int .i64 0,.int .i64 0,.int .i64 0,.int .i64 0,.pointer none,.int .i64 0,.int .i64 0,.int .i64 0,.int .i64 0,.int .i64 0,.int .i64 0,.int .i64 0,.int .i64 0,.int .i64 0,.int .i64 0,.int .i64 0,.int .i64 0,.int .i64 0,.slice none 0 0],false⟩
theorem Ym5:TyOk Tryz.prog 224 Ybu := .g (by kernel_rfl) ⟨_,Tryz.underlying224,rfl⟩
theorem Ym6:TyOk Tryz.prog 225 Ybu := .g (by kernel_rfl) ⟨_,Tryz.underlying225,rfl⟩
def Yii:TyI:=⟨.struct [(0,191),(8,3),(9,3)],10,80,[.int .i64 0,.int .i64 0,.int .i64 0,.int .i64 0,.int .i64 0,.int .i64 0,.int .i64 0,.bool false,.int .i64 0,.int .i64 0],false⟩
theorem Ym7:TyOk Tryz.prog 227 Yii := .g (by kernel_rfl) ⟨_,Tryz.underlying227,rfl⟩
def Yij:TyI:=⟨.struct [(0,191),(8,3),(9,3)],10,80,[.int .i64 0,.int .i64 0,.int .i64 0,.int .i64 0,.int .i64 0,.int .i64 0,.int .i64 0,.bool false,.int .i64 0,.int .i64 0],true⟩
theorem Ym8:TyOk Tryz.prog 228 Yij := .g (by kernel_rfl) ⟨_,Tryz.underlying228,rfl⟩ (fun _=>by unfold EqTy;exact ⟨by kernel_rfl,by kernel_rfl,by kernel_rfl⟩)
def Yik:TyI:=⟨.slice 3,1,24,[.slice none 0 0],false⟩
theorem Ym9:TyOk Tryz.prog 236 Yik := .s (by kernel_rfl) Tryz.underlying236
def Yil:TyI:=⟨.slice 242,1,24,[.slice none 0 0],false⟩
theorem Yna:TyOk Tryz.prog 239 Yil := .s (by kernel_rfl) Tryz.underlying239
theorem Ynb:TyOk Tryz.prog 242 Zoc := .g (by kernel_rfl) ⟨_,Tryz.underlying242,rfl⟩ (fun _=>by unfold EqTy;exact ⟨by kernel_rfl,by kernel_rfl,by kernel_rfl⟩)
theorem Ync:TyOk Tryz.prog 246 Z15 := .g (by kernel_rfl) ⟨_,Tryz.underlying246,rfl⟩
theorem Ynd:TyOk Tryz.prog 247 Z16 := .g (by kernel_rfl) ⟨_,Tryz.underlying247,rfl⟩ (fun _=>by unfold EqTy;exact ⟨by kernel_rfl,by kernel_rfl,by kernel_rfl⟩)
def Ybv:TyI:=⟨.struct [(0,62),(9,3),(10,23)],11,104,[.pointer none,.int .i64 0,.int .i64 0,.int .i64 0,.int .i64 0,.int .i64 0,.int .i64 0,.int .i64 0,.int .i64 0,.int .i64 0,.slice none 0 0],false⟩
theorem Yne:TyOk Tryz.prog 254 Ybv := .g (by kernel_rfl) ⟨_,Tryz.underlying254,rfl⟩
theorem Ynf:TyOk Tryz.prog 255 Ybv := .g (by kernel_rfl) ⟨_,Tryz.underlying255,rfl⟩
def Yim:TyI:=⟨.slice 126,1,24,[.slice none 0 0],false⟩
theorem Yng:TyOk Tryz.prog 257 Yim := .s (by kernel_rfl) Tryz.underlying257
def Yin:TyI:=⟨.ptr 200,1,8,[.pointer none],false⟩
theorem Ynh:TyOk Tryz.prog 267 Yin := .s (by kernel_rfl) Tryz.underlying267
def Yio:TyI:=⟨.ptr 208,1,8,[.pointer none],false⟩
theorem Yni:TyOk Tryz.prog 275 Yio := .s (by kernel_rfl) Tryz.underlying275
def Yip:TyI:=⟨.ptr 220,1,8,[.pointer none],false⟩
theorem Ynj:TyOk Tryz.prog 278 Yip := .s (by kernel_rfl) Tryz.underlying278
def Yiq:TyI:=⟨.ptr 330,1,8,[.pointer none],false⟩
theorem Ynk:TyOk Tryz.prog 284 Yiq := .s (by kernel_rfl) Tryz.underlying284
def Yir:TyI:=⟨.ptr 225,1,8,[.pointer none],false⟩
theorem Ynl:TyOk Tryz.prog 288 Yir := .s (by kernel_rfl) Tryz.underlying288
def Yis:TyI:=⟨.slice 236,1,24,[.slice none 0 0],false⟩
theorem Ynm:TyOk Tryz.prog 295 Yis := .s (by kernel_rfl) Tryz.underlying295
def Yit:TyI:=⟨.slice 300,1,24,[.slice none 0 0],false⟩
theorem Ynn:TyOk Tryz.prog 297 Yit := .s (by kernel_rfl) Tryz.underlying297
theorem Yno:TyOk Tryz.prog 299 Zv8 := .g (by kernel_rfl) ⟨_,Tryz.underlying299,rfl⟩
theorem Ynp:TyOk Tryz.prog 300 Zoc := .g (by kernel_rfl) ⟨_,Tryz.underlying300,rfl⟩ (fun _=>by unfold EqTy;exact ⟨by kernel_rfl,by kernel_rfl,by kernel_rfl⟩)
def Yiu:TyI:=⟨.ptr 247,1,8,[.pointer none],false⟩
theorem Ynq:TyOk Tryz.prog 301 Yiu := .s (by kernel_rfl) Tryz.underlying301
def Yiv:TyI:=⟨.ptr 255,1,8,[.pointer none],false⟩
theorem Ynr:TyOk Tryz.prog 304 Yiv := .s (by kernel_rfl) Tryz.underlying304
def Yiw:TyI:=⟨.arr 7 3,7,56,[.int .i64 0,.int .i64 0,.int .i64 0,.int .i64 0,.int .i64 0,.int .i64 0,.int .i64 0],true⟩
theorem Yns:TyOk Tryz.prog 309 Yiw := .g (by kernel_rfl) Tryz.underlying309 (fun _=>by unfold EqTy;exact ⟨by kernel_rfl,by kernel_rfl,by kernel_rfl⟩)
def Yix:TyI:=⟨.int .u32,1,4,[.int .u32 0],false⟩
theorem Ynt:TyOk Tryz.prog 310 Yix := .s (by kernel_rfl) Tryz.underlying310
def Yiy:TyI:=⟨.ptr 349,1,8,[.pointer none],false⟩
theorem Ynu:TyOk Tryz.prog 312 Yiy := .s (by kernel_rfl) Tryz.underlying312
def Yiz:TyI:=⟨.slice 317,1,24,[.slice none 0 0],false⟩
theorem Ynv:TyOk Tryz.prog 314 Yiz := .s (by kernel_rfl) Tryz.underlying314
theorem Ynw:TyOk Tryz.prog 316 Zv8 := .g (by kernel_rfl) ⟨_,Tryz.underlying316,rfl⟩
theorem Ynx:TyOk Tryz.prog 317 Zoc := .g (by kernel_rfl) ⟨_,Tryz.underlying317,rfl⟩ (fun _=>by unfold EqTy;exact ⟨by kernel_rfl,by kernel_rfl,by kernel_rfl⟩)
def Yi0:TyI:=⟨.ptr 270,1,8,[.pointer none],false⟩
theorem Yny:TyOk Tryz.prog 319 Yi0 := .s (by kernel_rfl) Tryz.underlying319
def Yi1:TyI:=⟨.arr 3 3,3,24,[.int .i64 0,.int .i64 0,.int .i64 0],true⟩
theorem Ynz:TyOk Tryz.prog 321 Yi1 := .g (by kernel_rfl) Tryz.underlying321 (fun _=>by unfold EqTy;exact ⟨by kernel_rfl,by kernel_rfl,by kernel_rfl⟩)
def Yi2:TyI:=⟨.slice 325,1,24,[.slice none 0 0],false⟩
theorem Yn0:TyOk Tryz.prog 323 Yi2 := .s (by kernel_rfl) Tryz.underlying323
theorem Yn1:TyOk Tryz.prog 325 Zoc := .g (by kernel_rfl) ⟨_,Tryz.underlying325,rfl⟩ (fun _=>by unfold EqTy;exact ⟨by kernel_rfl,by kernel_rfl,by kernel_rfl⟩)
def Yi3:TyI:=⟨.slice 334,1,24,[.slice none 0 0],false⟩
theorem Yn2:TyOk Tryz.prog 328 Yi3 := .s (by kernel_rfl) Tryz.underlying328
def Ybw:TyI:=⟨.struct [(0,328),(1,236)],2,48,[.slice none 0 0,.slice none 0 0],false⟩
theorem Yn3:TyOk Tryz.prog 329 Ybw := .g (by kernel_rfl) ⟨_,Tryz.underlying329,rfl⟩
theorem Yn4:TyOk Tryz.prog 330 Ybw := .g (by kernel_rfl) ⟨_,Tryz.underlying330,rfl⟩
def Ybx:TyI:=⟨.struct [(0,77),(1,62)],10,80,[.int .u64 0,.pointer none,.int .i64 0,.int .i64 0,.int .i64 0,.int .i64 0,.int .i64 0,.int .i64 0,.int .i64 0,.int .i64 0],false⟩
theorem Yn5:TyOk Tryz.prog 333 Ybx := .g (by kernel_rfl) ⟨_,Tryz.underlying333,rfl⟩
theorem Yn6:TyOk Tryz.prog 334 Ybx := .g (by kernel_rfl) ⟨_,Tryz.underlying334,rfl⟩
def Yi4:TyI:=⟨.arr 6 3,6,48,[.int .i64 0,.int .i64 0,.int .i64 0,.int .i64 0,.int .i64 0,.int .i64 0],true⟩
theorem Yn7:TyOk Tryz.prog 346 Yi4 := .g (by kernel_rfl) Tryz.underlying346 (fun _=>by unfold EqTy;exact ⟨by kernel_rfl,by kernel_rfl,by kernel_rfl⟩)
def Yby:TyI:=⟨.struct [(0,236),(1,236),(2,3),(3,295),(4,295),(5,3)],6,112,[.slice none 0 0,.slice none 0 0,.int .i64 0,.slice none 0 0,.slice none 0 0,.int .i64 0],false⟩
theorem Yn8:TyOk Tryz.prog 348 Yby := .g (by kernel_rfl) ⟨_,Tryz.underlying348,rfl⟩
theorem Yn9:TyOk Tryz.prog 349 Yby := .g (by kernel_rfl) ⟨_,Tryz.underlying349,rfl⟩
def Yi5:TyI:=⟨.struct [(0,77),(1,3)],2,16,[.int .u64 0,.int .i64 0],false⟩
theorem Yoa:TyOk Tryz.prog 352 Yi5 := .g (by kernel_rfl) ⟨_,Tryz.underlying352,rfl⟩
def Yi6:TyI:=⟨.struct [(0,77),(1,3)],2,16,[.int .u64 0,.int .i64 0],true⟩
theorem Yob:TyOk Tryz.prog 353 Yi6 := .g (by kernel_rfl) ⟨_,Tryz.underlying353,rfl⟩ (fun _=>by unfold EqTy;exact ⟨by kernel_rfl,by kernel_rfl,by kernel_rfl⟩)
def Ybz:TyI:=⟨.slice 364,1,24,[.slice none 0 0],false⟩
theorem Yoc:TyOk Tryz.prog 358 Ybz := .s (by kernel_rfl) Tryz.underlying358
theorem Yod:TyOk Tryz.prog 359 Ybz := .s (by kernel_rfl) Tryz.underlying359
def Yi7:TyI:=⟨.ptr 359,1,8,[.pointer none],false⟩
theorem Yoe:TyOk Tryz.prog 362 Yi7 := .s (by kernel_rfl) Tryz.underlying362
def Yi8:TyI:=⟨.struct [(0,325),(2,3)],3,24,[.int .i64 0,.int .i64 0,.int .i64 0],false⟩
theorem Yof:TyOk Tryz.prog 363 Yi8 := .g (by kernel_rfl) ⟨_,Tryz.underlying363,rfl⟩
def Yi9:TyI:=⟨.struct [(0,325),(2,3)],3,24,[.int .i64 0,.int .i64 0,.int .i64 0],true⟩
theorem Yog:TyOk Tryz.prog 364 Yi9 := .g (by kernel_rfl) ⟨_,Tryz.underlying364,rfl⟩ (fun _=>by unfold EqTy;exact ⟨by kernel_rfl,by kernel_rfl,by kernel_rfl⟩)
def Yja:TyI:=⟨.ptr 353,1,8,[.pointer none],false⟩
theorem Yoh:TyOk Tryz.prog 370 Yja := .s (by kernel_rfl) Tryz.underlying370
theorem Yoi:TyOk Tryz.prog 383 tE2 := .s (by kernel_rfl) Tryz.underlying383
theorem Yoj:TyOk Tryz.prog 390 Z7g := .s (by kernel_rfl) Tryz.underlying390
def Yjb:TyI:=⟨.ptr 3,1,8,[.pointer none],false⟩
theorem Yok:TyOk Tryz.prog 393 Yjb := .s (by kernel_rfl) Tryz.underlying393
def Yjc:TyI:=⟨.ptr 390,1,8,[.pointer none],false⟩
theorem Yol:TyOk Tryz.prog 395 Yjc := .s (by kernel_rfl) Tryz.underlying395
def Yb0:TyI:=⟨.struct [(0,17),(1,17),(2,17),(3,9)],4,40,[.pointer none,.pointer none,.pointer none,.string ByteArray.empty],false⟩
theorem Yom:TyOk Tryz.prog 398 Yb0 := .g (by kernel_rfl) ⟨_,Tryz.underlying398,rfl⟩
theorem Yon:TyOk Tryz.prog 399 Yb0 := .g (by kernel_rfl) ⟨_,Tryz.underlying399,rfl⟩
theorem Yoo:TyOk Tryz.prog 403 tE5 := .s (by kernel_rfl) Tryz.underlying403
theorem Yop:TyOk Tryz.prog 404 tE5 := .s (by kernel_rfl) Tryz.underlying404
def Yjd:TyI:=⟨.ptr 5,1,8,[.pointer none],false⟩
theorem Yoq:TyOk Tryz.prog 406 Yjd := .s (by kernel_rfl) Tryz.underlying406
theorem Yor:TyOk Tryz.prog 407 Yc0 := .s (by kernel_rfl) Tryz.underlying407
theorem Yos:TyOk Tryz.prog 408 Yc0 := .s (by kernel_rfl) Tryz.underlying408
def tabL:List (Nat×TyI):=[(2,tE2),(3,tE2),(4,tE4),(5,tE5),(6,tE5),(7,tE7),(8,tE7),(9,tE9),(10,tE9),(11,tE9),(12,Z7g),(13,Yg6),(14,Yg6),(15,Ylm),(16,Yln),(17,Ylo),(18,Yg7),(19,Yg7),(21,Yc0),(22,Ylp),(23,Ylq),(24,Yg8),(25,Yg8),(26,Ylr),(27,Yls),(28,Ylt),(29,Yg9),(30,Yg9),(44,tE2),(53,Ylu),(54,Ylv),(55,Ylw),(60,Ylx),(61,Yha),(62,Yha),(77,Z7g),(81,Z7g),(83,Yly),(84,Ylz),(85,Yhb),(86,Yhb),(88,Yhc),(89,Yhc),(106,Yh2),(107,Yh3),(111,Zv8),(112,Zoc),(116,Yh4),(117,Yh5),(119,Ybn),(120,Ybn),(123,Ybo),(124,Ybo),(125,Yh6),(126,Yh7),(139,Ybp),(140,Ybp),(142,Z15),(143,Z16),(146,Ybq),(147,Ybq),(154,Yh8),(155,Ybr),(156,Yh9),(157,Yia),(164,Yib),(185,Yic),(189,Yid),(190,Yie),(191,Ybr),(197,Yif),(199,Ybs),(200,Ybs),(203,Yig),(207,Ybt),(208,Ybt),(209,Yih),(211,Zv8),(212,Zoc),(219,Z15),(220,Z16),(224,Ybu),(225,Ybu),(227,Yii),(228,Yij),(236,Yik),(239,Yil),(242,Zoc),(246,Z15),(247,Z16),(254,Ybv),(255,Ybv),(257,Yim),(267,Yin),(275,Yio),(278,Yip),(284,Yiq),(288,Yir),(295,Yis),(297,Yit),(299,Zv8),(300,Zoc),(301,Yiu),(304,Yiv),(309,Yiw),(310,Yix),(312,Yiy),(314,Yiz),(316,Zv8),(317,Zoc),(319,Yi0),(321,Yi1),(323,Yi2),(325,Zoc),(328,Yi3),(329,Ybw),(330,Ybw),(333,Ybx),(334,Ybx),(346,Yi4),(348,Yby),(349,Yby),(352,Yi5),(353,Yi6),(358,Ybz),(359,Ybz),(362,Yi7),(363,Yi8),(364,Yi9),(370,Yja),(383,tE2),(390,Z7g),(393,Yjb),(395,Yjc),(398,Yb0),(399,Yb0),(403,tE5),(404,tE5),(406,Yjd),(407,Yc0),(408,Yc0)]
def X1:Vu:=fun t=>tabL.lookup t
theorem Zq:Jj Tryz.prog X1:=fun t i h=>by
 have hm:=Zx4 _ h
 unfold tabL at hm
 simp only [List.mem_cons,Prod.mk.injEq,List.not_mem_nil,or_false] at hm
 rcases hm with ⟨rfl,rfl⟩ | ⟨rfl,rfl⟩ | ⟨rfl,rfl⟩ | ⟨rfl,rfl⟩ | ⟨rfl,rfl⟩ | ⟨rfl,rfl⟩ | ⟨rfl,rfl⟩ | ⟨rfl,rfl⟩ | ⟨rfl,rfl⟩ | ⟨rfl,rfl⟩ | ⟨rfl,rfl⟩ | ⟨rfl,rfl⟩ | ⟨rfl,rfl⟩ | ⟨rfl,rfl⟩ | ⟨rfl,rfl⟩ | ⟨rfl,rfl⟩ | ⟨rfl,rfl⟩ | ⟨rfl,rfl⟩ | ⟨rfl,rfl⟩ | ⟨rfl,rfl⟩ | ⟨rfl,rfl⟩ | ⟨rfl,rfl⟩ | ⟨rfl,rfl⟩ | ⟨rfl,rfl⟩ | ⟨rfl,rfl⟩ | ⟨rfl,rfl⟩ | ⟨rfl,rfl⟩ | ⟨rfl,rfl⟩ | ⟨rfl,rfl⟩ | ⟨rfl,rfl⟩ | ⟨rfl,rfl⟩ | ⟨rfl,rfl⟩ | ⟨rfl,rfl⟩ | ⟨rfl,rfl⟩ | ⟨rfl,rfl⟩ | ⟨rfl,rfl⟩ | ⟨rfl,rfl⟩ | ⟨rfl,rfl⟩ | ⟨rfl,rfl⟩ | ⟨rfl,rfl⟩ | ⟨rfl,rfl⟩ | ⟨rfl,rfl⟩ | ⟨rfl,rfl⟩ | ⟨rfl,rfl⟩ | ⟨rfl,rfl⟩ | ⟨rfl,rfl⟩ | ⟨rfl,rfl⟩ | ⟨rfl,rfl⟩ | ⟨rfl,rfl⟩ | ⟨rfl,rfl⟩ | ⟨rfl,rfl⟩ | ⟨rfl,rfl⟩ | ⟨rfl,rfl⟩ | ⟨rfl,rfl⟩ | ⟨rfl,rfl⟩ | ⟨rfl,rfl⟩ | ⟨rfl,rfl⟩ | ⟨rfl,rfl⟩ | ⟨rfl,rfl⟩ | ⟨rfl,rfl⟩ | ⟨rfl,rfl⟩ | ⟨rfl,rfl⟩ | ⟨rfl,rfl⟩ | ⟨rfl,rfl⟩ | ⟨rfl,rfl⟩ | ⟨rfl,rfl⟩ | ⟨rfl,rfl⟩ | ⟨rfl,rfl⟩ | ⟨rfl,rfl⟩ | ⟨rfl,rfl⟩ | ⟨rfl,rfl⟩ | ⟨rfl,rfl⟩ | ⟨rfl,rfl⟩ | ⟨rfl,rfl⟩ | ⟨rfl,rfl⟩ | ⟨rfl,rfl⟩ | ⟨rfl,rfl⟩ | ⟨rfl,rfl⟩ | ⟨rfl,rfl⟩ | ⟨rfl,rfl⟩ | ⟨rfl,rfl⟩ | ⟨rfl,rfl⟩ | ⟨rfl,rfl⟩ | ⟨rfl,rfl⟩ | ⟨rfl,rfl⟩ | ⟨rfl,rfl⟩ | ⟨rfl,rfl⟩ | ⟨rfl,rfl⟩ | ⟨rfl,rfl⟩ | ⟨rfl,rfl⟩ | ⟨rfl,rfl⟩ | ⟨rfl,rfl⟩ | ⟨rfl,rfl⟩ | ⟨rfl,rfl⟩ | ⟨rfl,rfl⟩ | ⟨rfl,rfl⟩ | ⟨rfl,rfl⟩ | ⟨rfl,rfl⟩ | ⟨rfl,rfl⟩ | ⟨rfl,rfl⟩ | ⟨rfl,rfl⟩ | ⟨rfl,rfl⟩ | ⟨rfl,rfl⟩ | ⟨rfl,rfl⟩ | ⟨rfl,rfl⟩ | ⟨rfl,rfl⟩ | ⟨rfl,rfl⟩ | ⟨rfl,rfl⟩ | ⟨rfl,rfl⟩ | ⟨rfl,rfl⟩ | ⟨rfl,rfl⟩ | ⟨rfl,rfl⟩ | ⟨rfl,rfl⟩ | ⟨rfl,rfl⟩ | ⟨rfl,rfl⟩ | ⟨rfl,rfl⟩ | ⟨rfl,rfl⟩ | ⟨rfl,rfl⟩ | ⟨rfl,rfl⟩ | ⟨rfl,rfl⟩ | ⟨rfl,rfl⟩ | ⟨rfl,rfl⟩ | ⟨rfl,rfl⟩ | ⟨rfl,rfl⟩ | ⟨rfl,rfl⟩ | ⟨rfl,rfl⟩ | ⟨rfl,rfl⟩ | ⟨rfl,rfl⟩ | ⟨rfl,rfl⟩ | ⟨rfl,rfl⟩ | ⟨rfl,rfl⟩ | ⟨rfl,rfl⟩ | ⟨rfl,rfl⟩ | ⟨rfl,rfl⟩ | ⟨rfl,rfl⟩ | ⟨rfl,rfl⟩ | ⟨rfl,rfl⟩ | ⟨rfl,rfl⟩ | ⟨rfl,rfl⟩ | ⟨rfl,rfl⟩ | ⟨rfl,rfl⟩
 ·exact ty2
 ·exact ty3
 ·exact ty4
 ·exact ty5
 ·exact ty6
 ·exact ty7
 ·exact ty8
 ·exact ty9
 ·exact Ypr
 ·exact Yps
 ·exact Ypt
 ·exact Ypu
 ·exact Ypv
 ·exact Ypw
 ·exact Ypx
 ·exact Ypy
 ·exact Ypz
 ·exact Yp0
 ·exact Yp1
 ·exact Yp2
 ·exact Yp3
 ·exact Yp4
 ·exact Yp5
 ·exact Yp6
 ·exact Yp7
 ·exact Yp8
 ·exact Yp9
 ·exact Yqa
 ·exact Yqb
 ·exact Yqc
 ·exact Yqd
 ·exact Yqe
 ·exact Yqf
 ·exact Yqg
 ·exact Yqh
 ·exact Yqi
 ·exact Yqj
 ·exact Yqk
 ·exact Yql
 ·exact Yqm
 ·exact Yqn
 ·exact Yqo
 ·exact Yqp
 ·exact Yl3
 ·exact Yl4
 ·exact Yl5
 ·exact Yl6
 ·exact Yl7
 ·exact Yl8
 ·exact Yl9
 ·exact Yma
 ·exact Ymb
 ·exact Ymc
 ·exact Ymd
 ·exact Yme
 ·exact Ymf
 ·exact Ymg
 ·exact Ymh
 ·exact Ymi
 ·exact Ymj
 ·exact Ymk
 ·exact Yml
 ·exact Ymm
 ·exact Ymn
 ·exact Ymo
 ·exact Ymp
 ·exact Ymq
 ·exact Ymr
 ·exact Yms
 ·exact Ymt
 ·exact Ymu
 ·exact Ymv
 ·exact Ymw
 ·exact Ymx
 ·exact Ymy
 ·exact Ymz
 ·exact Ym0
 ·exact Ym1
 ·exact Ym2
 ·exact Ym3
 ·exact Ym4
 ·exact Ym5
 ·exact Ym6
 ·exact Ym7
 ·exact Ym8
 ·exact Ym9
 ·exact Yna
 ·exact Ynb
 ·exact Ync
 ·exact Ynd
 ·exact Yne
 ·exact Ynf
 ·exact Yng
 ·exact Ynh
 ·exact Yni
 ·exact Ynj
 ·exact Ynk
 ·exact Ynl
 ·exact Ynm
 ·exact Ynn
 ·exact Yno
 ·exact Ynp
 ·exact Ynq
 ·exact Ynr
 ·exact Yns
 ·exact Ynt
 ·exact Ynu
 ·exact Ynv
 ·exact Ynw
 ·exact Ynx
 ·exact Yny
 ·exact Ynz
 ·exact Yn0
 ·exact Yn1
 ·exact Yn2
 ·exact Yn3
 ·exact Yn4
 ·exact Yn5
 ·exact Yn6
 ·exact Yn7
 ·exact Yn8
 ·exact Yn9
 ·exact Yoa
 ·exact Yob
 ·exact Yoc
 ·exact Yod
 ·exact Yoe
 ·exact Yof
 ·exact Yog
 ·exact Yoh
 ·exact Yoi
 ·exact Yoj
 ·exact Yok
 ·exact Yol
 ·exact Yom
 ·exact Yon
 ·exact Yoo
 ·exact Yop
 ·exact Yoq
 ·exact Yor
 exact Yos
theorem Ykh:X1 2=some ⟨.int .i64,1,8,[.int .i64 0],false⟩:=rfl
theorem Z4q:X1 3=some ⟨.int .i64,1,8,[.int .i64 0],false⟩:=rfl
theorem Yki:X1 4=some ⟨.bool,1,1,[.bool false],false⟩:=rfl
theorem Z7h:X1 5=some ⟨.int .u8,1,1,[.int .u8 0],false⟩:=rfl
theorem Ykj:X1 6=some ⟨.int .u8,1,1,[.int .u8 0],false⟩:=rfl
theorem Ykk:X1 7=some ⟨.struct [(0,2),(1,3),(2,4),(3,6)],4,24,[.int .i64 0,.int .i64 0,.bool false,.int .u8 0],false⟩:=rfl
theorem Ykl:X1 8=some ⟨.struct [(0,2),(1,3),(2,4),(3,6)],4,24,[.int .i64 0,.int .i64 0,.bool false,.int .u8 0],false⟩:=rfl
theorem Ykm:X1 9=some ⟨.str,1,16,[.string ByteArray.empty],false⟩:=rfl
theorem Ye1:X1 10=some ⟨.str,1,16,[.string ByteArray.empty],false⟩:=rfl
theorem Ye2:X1 11=some ⟨.str,1,16,[.string ByteArray.empty],false⟩:=rfl
theorem Ye3:X1 12=some ⟨.int .u64,1,8,[.int .u64 0],false⟩:=rfl
theorem Ye4:X1 13=some ⟨.struct [(0,9),(1,12)],2,24,[.string ByteArray.empty,.int .u64 0],false⟩:=rfl
theorem Ye5:X1 14=some ⟨.struct [(0,9),(1,12)],2,24,[.string ByteArray.empty,.int .u64 0],false⟩:=rfl
theorem Ye6:X1 15=some ⟨.ptr 399,1,8,[.pointer none],false⟩:=rfl
theorem Ye7:X1 16=some ⟨.ptr 402,1,8,[.pointer none],false⟩:=rfl
theorem Ye8:X1 17=some ⟨.ptr 410,1,8,[.pointer none],false⟩:=rfl
theorem Ye9:X1 18=some ⟨.struct [(0,17)],1,8,[.pointer none],false⟩:=rfl
theorem Yfa:X1 19=some ⟨.struct [(0,17)],1,8,[.pointer none],false⟩:=rfl
theorem Yfb:X1 21=some ⟨.int .i32,1,4,[.int .i32 0],false⟩:=rfl
theorem Zv9:X1 22=some ⟨.slice 77,1,24,[.slice none 0 0],false⟩:=rfl
theorem Yfc:X1 23=some ⟨.slice 25,1,24,[.slice none 0 0],false⟩:=rfl
theorem Yfd:X1 24=some ⟨.struct [(0,3),(1,22),(2,23)],3,56,[.int .i64 0,.slice none 0 0,.slice none 0 0],false⟩:=rfl
theorem Uc:X1 25=some ⟨.struct [(0,3),(1,22),(2,23)],3,56,[.int .i64 0,.slice none 0 0,.slice none 0 0],false⟩:=rfl
theorem Yfe:X1 26=some ⟨.slice 84,1,24,[.slice none 0 0],false⟩:=rfl
theorem Yff:X1 27=some ⟨.slice 86,1,24,[.slice none 0 0],false⟩:=rfl
theorem Yfg:X1 28=some ⟨.slice 89,1,24,[.slice none 0 0],false⟩:=rfl
theorem Yfh:X1 29=some ⟨.struct [(0,3),(1,25),(4,25),(7,26),(8,27),(9,3),(10,28)],11,200,[.int .i64 0,.int .i64 0,.slice none 0 0,.slice none 0 0,.int .i64 0,.slice none 0 0,.slice none 0 0,.slice none 0 0,.slice none 0 0,.int .i64 0,.slice none 0 0],false⟩:=rfl
theorem Z17:X1 30=some ⟨.struct [(0,3),(1,25),(4,25),(7,26),(8,27),(9,3),(10,28)],11,200,[.int .i64 0,.int .i64 0,.slice none 0 0,.slice none 0 0,.int .i64 0,.slice none 0 0,.slice none 0 0,.slice none 0 0,.slice none 0 0,.int .i64 0,.slice none 0 0],false⟩:=rfl
theorem Yfi:X1 44=some ⟨.int .i64,1,8,[.int .i64 0],false⟩:=rfl
theorem Yfj:X1 53=some ⟨.slice 22,1,24,[.slice none 0 0],false⟩:=rfl
theorem Yfk:X1 54=some ⟨.struct [(0,3),(1,3),(2,3),(3,3)],4,32,[.int .i64 0,.int .i64 0,.int .i64 0,.int .i64 0],false⟩:=rfl
theorem Yfl:X1 55=some ⟨.struct [(0,3),(1,3),(2,3),(3,3)],4,32,[.int .i64 0,.int .i64 0,.int .i64 0,.int .i64 0],true⟩:=rfl
theorem Yfm:X1 60=some ⟨.ptr 147,1,8,[.pointer none],false⟩:=rfl
theorem Yfn:X1 61=some ⟨.struct [(0,60),(1,3),(2,3),(3,3),(4,3),(5,3),(6,3),(7,3),(8,3)],9,72,[.pointer none,.int .i64 0,.int .i64 0,.int .i64 0,.int .i64 0,.int .i64 0,.int .i64 0,.int .i64 0,.int .i64 0],false⟩:=rfl
theorem Yfo:X1 62=some ⟨.struct [(0,60),(1,3),(2,3),(3,3),(4,3),(5,3),(6,3),(7,3),(8,3)],9,72,[.pointer none,.int .i64 0,.int .i64 0,.int .i64 0,.int .i64 0,.int .i64 0,.int .i64 0,.int .i64 0,.int .i64 0],false⟩:=rfl
theorem Zbn:X1 77=some ⟨.int .u64,1,8,[.int .u64 0],false⟩:=rfl
theorem Yfp:X1 81=some ⟨.int .u64,1,8,[.int .u64 0],false⟩:=rfl
theorem Yfq:X1 83=some ⟨.struct [(0,3),(1,5),(2,77),(3,77)],4,32,[.int .i64 0,.int .u8 0,.int .u64 0,.int .u64 0],false⟩:=rfl
theorem Zt2:X1 84=some ⟨.struct [(0,3),(1,5),(2,77),(3,77)],4,32,[.int .i64 0,.int .u8 0,.int .u64 0,.int .u64 0],true⟩:=rfl
theorem Yfr:X1 85=some ⟨.struct [(0,3),(1,30)],12,208,[.int .i64 0,.int .i64 0,.int .i64 0,.slice none 0 0,.slice none 0 0,.int .i64 0,.slice none 0 0,.slice none 0 0,.slice none 0 0,.slice none 0 0,.int .i64 0,.slice none 0 0],false⟩:=rfl
theorem Zt3:X1 86=some ⟨.struct [(0,3),(1,30)],12,208,[.int .i64 0,.int .i64 0,.int .i64 0,.slice none 0 0,.slice none 0 0,.int .i64 0,.slice none 0 0,.slice none 0 0,.slice none 0 0,.slice none 0 0,.int .i64 0,.slice none 0 0],false⟩:=rfl
theorem Yfs:X1 88=some ⟨.struct [(0,3),(1,3),(2,23),(3,30)],14,240,[.int .i64 0,.int .i64 0,.slice none 0 0,.int .i64 0,.int .i64 0,.slice none 0 0,.slice none 0 0,.int .i64 0,.slice none 0 0,.slice none 0 0,.slice none 0 0,.slice none 0 0,.int .i64 0,.slice none 0 0],false⟩:=rfl
theorem Zps:X1 89=some ⟨.struct [(0,3),(1,3),(2,23),(3,30)],14,240,[.int .i64 0,.int .i64 0,.slice none 0 0,.int .i64 0,.int .i64 0,.slice none 0 0,.slice none 0 0,.int .i64 0,.slice none 0 0,.slice none 0 0,.slice none 0 0,.slice none 0 0,.int .i64 0,.slice none 0 0],false⟩:=rfl
theorem Z8v:X1 106=some ⟨.struct [(0,3),(1,3),(2,3),(3,3),(4,3),(5,3),(6,77)],7,56,[.int .i64 0,.int .i64 0,.int .i64 0,.int .i64 0,.int .i64 0,.int .i64 0,.int .u64 0],false⟩:=rfl
theorem Z8w:X1 107=some ⟨.struct [(0,3),(1,3),(2,3),(3,3),(4,3),(5,3),(6,77)],7,56,[.int .i64 0,.int .i64 0,.int .i64 0,.int .i64 0,.int .i64 0,.int .i64 0,.int .u64 0],true⟩:=rfl
theorem Z8x:X1 111=some ⟨.struct [(0,3),(1,3)],2,16,[.int .i64 0,.int .i64 0],false⟩:=rfl
theorem Z8y:X1 112=some ⟨.struct [(0,3),(1,3)],2,16,[.int .i64 0,.int .i64 0],true⟩:=rfl
theorem Z8z:X1 116=some ⟨.ptr 120,1,8,[.pointer none],false⟩:=rfl
theorem Z80:X1 117=some ⟨.ptr 124,1,8,[.pointer none],false⟩:=rfl
theorem Z81:X1 119=some ⟨.struct [(0,117),(1,4)],2,16,[.pointer none,.bool false],false⟩:=rfl
theorem Z82:X1 120=some ⟨.struct [(0,117),(1,4)],2,16,[.pointer none,.bool false],false⟩:=rfl
theorem Z83:X1 123=some ⟨.struct [(0,53),(1,3),(2,3),(3,3)],4,48,[.slice none 0 0,.int .i64 0,.int .i64 0,.int .i64 0],false⟩:=rfl
theorem Z84:X1 124=some ⟨.struct [(0,53),(1,3),(2,3),(3,3)],4,48,[.slice none 0 0,.int .i64 0,.int .i64 0,.int .i64 0],false⟩:=rfl
theorem Z85:X1 125=some ⟨.struct [(0,4),(1,3)],2,16,[.bool false,.int .i64 0],false⟩:=rfl
theorem Z86:X1 126=some ⟨.struct [(0,4),(1,3)],2,16,[.bool false,.int .i64 0],true⟩:=rfl
theorem Z87:X1 139=some ⟨.struct [(0,22),(1,3)],2,32,[.slice none 0 0,.int .i64 0],false⟩:=rfl
theorem Z88:X1 140=some ⟨.struct [(0,22),(1,3)],2,32,[.slice none 0 0,.int .i64 0],false⟩:=rfl
theorem Z89:X1 142=some ⟨.struct [(0,3)],1,8,[.int .i64 0],false⟩:=rfl
theorem Z9a:X1 143=some ⟨.struct [(0,3)],1,8,[.int .i64 0],true⟩:=rfl
theorem Z9b:X1 146=some ⟨.struct [(0,53),(1,3),(2,3)],3,40,[.slice none 0 0,.int .i64 0,.int .i64 0],false⟩:=rfl
theorem Z9c:X1 147=some ⟨.struct [(0,53),(1,3),(2,3)],3,40,[.slice none 0 0,.int .i64 0,.int .i64 0],false⟩:=rfl
theorem Z9d:X1 154=some ⟨.struct [(0,3),(1,3),(2,3),(3,3),(4,3),(5,3),(6,3),(7,4)],8,64,[.int .i64 0,.int .i64 0,.int .i64 0,.int .i64 0,.int .i64 0,.int .i64 0,.int .i64 0,.bool false],false⟩:=rfl
theorem Z9e:X1 155=some ⟨.struct [(0,3),(1,3),(2,3),(3,3),(4,3),(5,3),(6,3),(7,4)],8,64,[.int .i64 0,.int .i64 0,.int .i64 0,.int .i64 0,.int .i64 0,.int .i64 0,.int .i64 0,.bool false],true⟩:=rfl
theorem Z9f:X1 156=some ⟨.struct [(0,155),(8,3),(9,3)],10,80,[.int .i64 0,.int .i64 0,.int .i64 0,.int .i64 0,.int .i64 0,.int .i64 0,.int .i64 0,.bool false,.int .i64 0,.int .i64 0],false⟩:=rfl
theorem Z9g:X1 157=some ⟨.struct [(0,155),(8,3),(9,3)],10,80,[.int .i64 0,.int .i64 0,.int .i64 0,.int .i64 0,.int .i64 0,.int .i64 0,.int .i64 0,.bool false,.int .i64 0,.int .i64 0],true⟩:=rfl
theorem Z9h:X1 164=some ⟨.ptr 112,1,8,[.pointer none],false⟩:=rfl
theorem Zzb:X1 185=some ⟨.arr 8 5,8,8,[.int .u8 0,.int .u8 0,.int .u8 0,.int .u8 0,.int .u8 0,.int .u8 0,.int .u8 0,.int .u8 0],true⟩:=rfl
theorem Z9i:X1 189=some ⟨.slice 5,1,24,[.slice none 0 0],false⟩:=rfl
theorem Z9j:X1 190=some ⟨.ptr 140,1,8,[.pointer none],false⟩:=rfl
theorem Z9k:X1 191=some ⟨.struct [(0,3),(1,3),(2,3),(3,3),(4,3),(5,3),(6,3),(7,4)],8,64,[.int .i64 0,.int .i64 0,.int .i64 0,.int .i64 0,.int .i64 0,.int .i64 0,.int .i64 0,.bool false],true⟩:=rfl
theorem Z9l:X1 197=some ⟨.ptr 143,1,8,[.pointer none],false⟩:=rfl
theorem Z9m:X1 199=some ⟨.struct [(0,28),(1,3),(2,23),(3,23)],4,80,[.slice none 0 0,.int .i64 0,.slice none 0 0,.slice none 0 0],false⟩:=rfl
theorem Z9n:X1 200=some ⟨.struct [(0,28),(1,3),(2,23),(3,23)],4,80,[.slice none 0 0,.int .i64 0,.slice none 0 0,.slice none 0 0],false⟩:=rfl
theorem Z9o:X1 203=some ⟨.ptr 23,1,8,[.pointer none],false⟩:=rfl
theorem Z9p:X1 207=some ⟨.struct [(0,3),(1,3),(2,23),(3,23),(4,28)],5,88,[.int .i64 0,.int .i64 0,.slice none 0 0,.slice none 0 0,.slice none 0 0],false⟩:=rfl
theorem Z9q:X1 208=some ⟨.struct [(0,3),(1,3),(2,23),(3,23),(4,28)],5,88,[.int .i64 0,.int .i64 0,.slice none 0 0,.slice none 0 0,.slice none 0 0],false⟩:=rfl
theorem Z9r:X1 209=some ⟨.slice 212,1,24,[.slice none 0 0],false⟩:=rfl
theorem Z9s:X1 211=some ⟨.struct [(0,3),(1,3)],2,16,[.int .i64 0,.int .i64 0],false⟩:=rfl
theorem Z9t:X1 212=some ⟨.struct [(0,3),(1,3)],2,16,[.int .i64 0,.int .i64 0],true⟩:=rfl
theorem Z9u:X1 224=some ⟨.struct [(0,62),(9,62),(18,3),(19,3),(20,3),(21,3),(22,3),(23,28)],24,208,[.pointer none,.int .i64 0,.int .i64 0,.int .i64 0,.int .i64 0,.int .i64 0,.int .i64 0,.int .i64 0,.int .i64 0,.pointer none,.int .i64 0,.int .i64 0,.int .i64 0,.int .i64 0,.int .i64 0,.int .i64 0,.int .i64 0,.int .i64 0,.int .i64 0,.int .i64 0,.int .i64 0,.int .i64 0,.int .i64 0,.slice none 0 0],false⟩:=rfl
theorem Z9v:X1 228=some ⟨.struct [(0,191),(8,3),(9,3)],10,80,[.int .i64 0,.int .i64 0,.int .i64 0,.int .i64 0,.int .i64 0,.int .i64 0,.int .i64 0,.bool false,.int .i64 0,.int .i64 0],true⟩:=rfl
theorem Z9w:X1 236=some ⟨.slice 3,1,24,[.slice none 0 0],false⟩:=rfl
theorem Z9x:X1 239=some ⟨.slice 242,1,24,[.slice none 0 0],false⟩:=rfl
theorem Z9y:X1 242=some ⟨.struct [(0,3),(1,3)],2,16,[.int .i64 0,.int .i64 0],true⟩:=rfl
theorem Z9z:X1 247=some ⟨.struct [(0,3)],1,8,[.int .i64 0],true⟩:=rfl
theorem Z90:X1 255=some ⟨.struct [(0,62),(9,3),(10,23)],11,104,[.pointer none,.int .i64 0,.int .i64 0,.int .i64 0,.int .i64 0,.int .i64 0,.int .i64 0,.int .i64 0,.int .i64 0,.int .i64 0,.slice none 0 0],false⟩:=rfl
theorem Z91:X1 257=some ⟨.slice 126,1,24,[.slice none 0 0],false⟩:=rfl
theorem Z92:X1 278=some ⟨.ptr 220,1,8,[.pointer none],false⟩:=rfl
theorem Z93:X1 284=some ⟨.ptr 330,1,8,[.pointer none],false⟩:=rfl
theorem Z94:X1 299=some ⟨.struct [(0,3),(1,3)],2,16,[.int .i64 0,.int .i64 0],false⟩:=rfl
theorem Z95:X1 301=some ⟨.ptr 247,1,8,[.pointer none],false⟩:=rfl
theorem Z96:X1 309=some ⟨.arr 7 3,7,56,[.int .i64 0,.int .i64 0,.int .i64 0,.int .i64 0,.int .i64 0,.int .i64 0,.int .i64 0],true⟩:=rfl
theorem Z97:X1 310=some ⟨.int .u32,1,4,[.int .u32 0],false⟩:=rfl
theorem Z98:X1 321=some ⟨.arr 3 3,3,24,[.int .i64 0,.int .i64 0,.int .i64 0],true⟩:=rfl
theorem Z99:X1 346=some ⟨.arr 6 3,6,48,[.int .i64 0,.int .i64 0,.int .i64 0,.int .i64 0,.int .i64 0,.int .i64 0],true⟩:=rfl
theorem Yaa:X1 358=some ⟨.slice 364,1,24,[.slice none 0 0],false⟩:=rfl
theorem Yab:X1 362=some ⟨.ptr 359,1,8,[.pointer none],false⟩:=rfl
theorem Yac:X1 363=some ⟨.struct [(0,325),(2,3)],3,24,[.int .i64 0,.int .i64 0,.int .i64 0],false⟩:=rfl
theorem Yad:Yd X1 2=some (.int .i64):=rfl
theorem Yae:Yd X1 3=some (.int .i64):=rfl
theorem Yaf:Yd X1 4=some (.bool):=rfl
theorem Yag:Yd X1 5=some (.int .u8):=rfl
theorem Yah:Yd X1 6=some (.int .u8):=rfl
theorem Yai:Yd X1 7=some (.struct [(0,2),(1,3),(2,4),(3,6)]):=rfl
theorem Yaj:Yd X1 8=some (.struct [(0,2),(1,3),(2,4),(3,6)]):=rfl
theorem Yak:Yd X1 9=some (.str):=rfl
theorem Z4r:Yd X1 10=some (.str):=rfl
theorem Z4s:Yd X1 11=some (.str):=rfl
theorem Z4t:Yd X1 12=some (.int .u64):=rfl
theorem Z4u:Yd X1 13=some (.struct [(0,9),(1,12)]):=rfl
theorem Z4v:Yd X1 14=some (.struct [(0,9),(1,12)]):=rfl
theorem Z4w:Yd X1 15=some (.ptr 399):=rfl
theorem Z4x:Yd X1 16=some (.ptr 402):=rfl
theorem Z4y:Yd X1 17=some (.ptr 410):=rfl
theorem Z4z:Yd X1 18=some (.struct [(0,17)]):=rfl
theorem Z40:Yd X1 19=some (.struct [(0,17)]):=rfl
theorem Z41:Yd X1 21=some (.int .i32):=rfl
theorem Zkc:Yd X1 22=some (.slice 77):=rfl
theorem Zql:Yd X1 23=some (.slice 25):=rfl
theorem Z42:Yd X1 24=some (.struct [(0,3),(1,22),(2,23)]):=rfl
theorem Z43:Yd X1 25=some (.struct [(0,3),(1,22),(2,23)]):=rfl
theorem Z44:Yd X1 26=some (.slice 84):=rfl
theorem Z45:Yd X1 27=some (.slice 86):=rfl
theorem Z46:Yd X1 28=some (.slice 89):=rfl
theorem Z47:Yd X1 29=some (.struct [(0,3),(1,25),(4,25),(7,26),(8,27),(9,3),(10,28)]):=rfl
theorem Z48:Yd X1 30=some (.struct [(0,3),(1,25),(4,25),(7,26),(8,27),(9,3),(10,28)]):=rfl
theorem Z49:Yd X1 44=some (.int .i64):=rfl
theorem Z5a:Yd X1 53=some (.slice 22):=rfl
theorem Z5b:Yd X1 54=some (.struct [(0,3),(1,3),(2,3),(3,3)]):=rfl
theorem Z5c:Yd X1 55=some (.struct [(0,3),(1,3),(2,3),(3,3)]):=rfl
theorem Zwy:Yd X1 60=some (.ptr 147):=rfl
theorem Z5d:Yd X1 61=some (.struct [(0,60),(1,3),(2,3),(3,3),(4,3),(5,3),(6,3),(7,3),(8,3)]):=rfl
theorem Z5e:Yd X1 62=some (.struct [(0,60),(1,3),(2,3),(3,3),(4,3),(5,3),(6,3),(7,3),(8,3)]):=rfl
theorem Z5f:Yd X1 77=some (.int .u64):=rfl
theorem Z5g:Yd X1 81=some (.int .u64):=rfl
theorem Z5h:Yd X1 83=some (.struct [(0,3),(1,5),(2,77),(3,77)]):=rfl
theorem Z5i:Yd X1 84=some (.struct [(0,3),(1,5),(2,77),(3,77)]):=rfl
theorem Z5j:Yd X1 85=some (.struct [(0,3),(1,30)]):=rfl
theorem Z5k:Yd X1 86=some (.struct [(0,3),(1,30)]):=rfl
theorem Z5l:Yd X1 88=some (.struct [(0,3),(1,3),(2,23),(3,30)]):=rfl
theorem Z5m:Yd X1 89=some (.struct [(0,3),(1,3),(2,23),(3,30)]):=rfl
theorem Zzd:Yd X1 106=some (.struct [(0,3),(1,3),(2,3),(3,3),(4,3),(5,3),(6,77)]):=rfl
theorem Zze:Yd X1 107=some (.struct [(0,3),(1,3),(2,3),(3,3),(4,3),(5,3),(6,77)]):=rfl
theorem Zzf:Yd X1 111=some (.struct [(0,3),(1,3)]):=rfl
theorem Zzg:Yd X1 112=some (.struct [(0,3),(1,3)]):=rfl
theorem Zzh:Yd X1 116=some (.ptr 120):=rfl
theorem Zzi:Yd X1 117=some (.ptr 124):=rfl
theorem Zzj:Yd X1 119=some (.struct [(0,117),(1,4)]):=rfl
theorem Zzk:Yd X1 120=some (.struct [(0,117),(1,4)]):=rfl
theorem Zzl:Yd X1 123=some (.struct [(0,53),(1,3),(2,3),(3,3)]):=rfl
theorem Zzm:Yd X1 124=some (.struct [(0,53),(1,3),(2,3),(3,3)]):=rfl
theorem Zzn:Yd X1 125=some (.struct [(0,4),(1,3)]):=rfl
theorem Zzo:Yd X1 126=some (.struct [(0,4),(1,3)]):=rfl
theorem Zzp:Yd X1 139=some (.struct [(0,22),(1,3)]):=rfl
theorem Zzq:Yd X1 140=some (.struct [(0,22),(1,3)]):=rfl
theorem Zzr:Yd X1 142=some (.struct [(0,3)]):=rfl
theorem Zzs:Yd X1 143=some (.struct [(0,3)]):=rfl
theorem Zzt:Yd X1 146=some (.struct [(0,53),(1,3),(2,3)]):=rfl
theorem Zzu:Yd X1 147=some (.struct [(0,53),(1,3),(2,3)]):=rfl
theorem Zzv:Yd X1 154=some (.struct [(0,3),(1,3),(2,3),(3,3),(4,3),(5,3),(6,3),(7,4)]):=rfl
theorem Zzw:Yd X1 155=some (.struct [(0,3),(1,3),(2,3),(3,3),(4,3),(5,3),(6,3),(7,4)]):=rfl
theorem Zzx:Yd X1 156=some (.struct [(0,155),(8,3),(9,3)]):=rfl
theorem Zzy:Yd X1 157=some (.struct [(0,155),(8,3),(9,3)]):=rfl
theorem Zzz:Yd X1 164=some (.ptr 112):=rfl
theorem Zt5:Yd X1 185=some (.arr 8 5):=rfl
theorem Zz0:Yd X1 189=some (.slice 5):=rfl
theorem Zz1:Yd X1 190=some (.ptr 140):=rfl
theorem Zz2:Yd X1 191=some (.struct [(0,3),(1,3),(2,3),(3,3),(4,3),(5,3),(6,3),(7,4)]):=rfl
theorem Zz3:Yd X1 197=some (.ptr 143):=rfl
theorem Zz4:Yd X1 199=some (.struct [(0,28),(1,3),(2,23),(3,23)]):=rfl
theorem Zz5:Yd X1 200=some (.struct [(0,28),(1,3),(2,23),(3,23)]):=rfl
theorem Zz6:Yd X1 203=some (.ptr 23):=rfl
theorem Zz7:Yd X1 207=some (.struct [(0,3),(1,3),(2,23),(3,23),(4,28)]):=rfl
theorem Zz8:Yd X1 208=some (.struct [(0,3),(1,3),(2,23),(3,23),(4,28)]):=rfl
theorem Zz9:Yd X1 209=some (.slice 212):=rfl
theorem Z0a:Yd X1 211=some (.struct [(0,3),(1,3)]):=rfl
theorem Z0b:Yd X1 212=some (.struct [(0,3),(1,3)]):=rfl
theorem Z0c:Yd X1 224=some (.struct [(0,62),(9,62),(18,3),(19,3),(20,3),(21,3),(22,3),(23,28)]):=rfl
theorem Z0d:Yd X1 228=some (.struct [(0,191),(8,3),(9,3)]):=rfl
theorem Z0e:Yd X1 236=some (.slice 3):=rfl
theorem Z0f:Yd X1 239=some (.slice 242):=rfl
theorem Z0g:Yd X1 242=some (.struct [(0,3),(1,3)]):=rfl
theorem Z0h:Yd X1 247=some (.struct [(0,3)]):=rfl
theorem Z0i:Yd X1 255=some (.struct [(0,62),(9,3),(10,23)]):=rfl
theorem Z0j:Yd X1 257=some (.slice 126):=rfl
theorem Z0k:Yd X1 278=some (.ptr 220):=rfl
theorem Z0l:Yd X1 284=some (.ptr 330):=rfl
theorem Z0m:Yd X1 299=some (.struct [(0,3),(1,3)]):=rfl
theorem Z0n:Yd X1 301=some (.ptr 247):=rfl
theorem Z0o:Yd X1 309=some (.arr 7 3):=rfl
theorem Z0p:Yd X1 310=some (.int .u32):=rfl
theorem Z0q:Yd X1 321=some (.arr 3 3):=rfl
theorem Z0r:Yd X1 346=some (.arr 6 3):=rfl
theorem Z0s:Yd X1 358=some (.slice 364):=rfl
theorem Z0t:Yd X1 362=some (.ptr 359):=rfl
theorem Z0u:Yd X1 363=some (.struct [(0,325),(2,3)]):=rfl
end Go.Proofs.YtmlcnhambfkjaaaGreat
