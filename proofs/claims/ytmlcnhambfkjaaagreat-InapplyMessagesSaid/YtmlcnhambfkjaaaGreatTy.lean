/- The types of this seat's program, as its dump has them, in the ghost memory's words; no condition. -/
import Derived.Test.YtmlcnhambfkjaaaGreatRows
import Derived.Test.YtmlcnhambfkjaaaGreatG13
namespace Go.Proofs.YtmlcnhambfkjaaaGreat
open Go.RowKit
set_option linter.unusedVariables false
set_option linter.unusedSimpArgs false
theorem TyOk.of {P:Program} {t:TypeId} (k:TK) (size bytes:Nat) (zero:List Value) (z:Value) (h:(P.info? t).map (fun i=>(i.zero,i.size,i.bytes))=some (some z,size,bytes)) (hz:z.cells.toList=zero) (hu:k.ok P t) (hl:zero.length=size) (h1:zero.all Value.oneCell'=true) (eq:Bool) (he:eq=true→EqTy P t):TyOk P t ⟨k,size,bytes,zero,eq⟩:=by
 refine ⟨?_,hu,hl,fun v hv=>List.all_eq_true.1 h1 v hv,he⟩
 cases hi:P.info? t with
 | none=>rw [hi] at h;cases h
 | some i =>
  rw [hi] at h
  simp only [Option.map_some,Option.some.injEq,Prod.mk.injEq] at h
  exact ⟨i,z,rfl,h.2.1,h.2.2,h.1,hz⟩
theorem TyOk.g {P:Program} {t:TypeId} {k:TK} {size bytes:Nat} {zero:List Value} {eq:Bool} (h:(P.info? t).map (fun i=>(i.zero,i.size,i.bytes))=some (some (.agg zero.toArray),size,bytes)) (hu:k.ok P t) (he:eq=true→EqTy P t:=by intro h;cases h) (hz:(Value.agg zero.toArray).cells.toList=zero:=by rfl) (hl:zero.length=size:=by rfl) (h1:zero.all Value.oneCell'=true:=by rfl):TyOk P t ⟨k,size,bytes,zero,eq⟩ := .of k size bytes zero _ h hz hu hl h1 eq he
theorem TyOk.s {P:Program} {t:TypeId} {k:TK} {size bytes:Nat} {z:Value} {eq:Bool} (h:(P.info? t).map (fun i=>(i.zero,i.size,i.bytes))=some (some z,size,bytes)) (hu:k.ok P t) (he:eq=true→EqTy P t:=by intro h;cases h) (hz:z.cells.toList=[z]:=by rfl) (hl:[z].length=size:=by rfl) (h1:[z].all Value.oneCell'=true:=by rfl):TyOk P t ⟨k,size,bytes,[z],eq⟩ := .of k size bytes [z] _ h hz hu hl h1 eq he
theorem EqTy.m {P:Program} {t:TypeId} (h:EqTy P t):true=true→EqTy P t:=fun _=>h
theorem Zxa {α:Type} {t:Nat} {i:α}:∀ (l:List (Nat×α)),l.lookup t=some i→(t,i)∈l
 | [],h=>by simp at h
 | (a,b)::l,h=>by
  rw [List.lookup_cons] at h
  split at h
  ·rename_i he
   injection h with h
   have:t=a:=by simpa using he
   subst h this
   exact .head _
  exact .tail _ (Zxa l h)
def tE2:TyI:=⟨.int .i64,1,8,[.int .i64 0],false⟩
theorem ty2:TyOk Tryz.prog 2 tE2 := .s (by kernel_rfl) Tryz.underlying2
theorem ty3:TyOk Tryz.prog 3 tE2 := .s (by kernel_rfl) Tryz.underlying3
def tE4:TyI:=⟨.bool,1,1,[.bool false],false⟩
theorem ty4:TyOk Tryz.prog 4 tE4 := .s (by kernel_rfl) Tryz.underlying4
def tE5:TyI:=⟨.int .u8,1,1,[.int .u8 0],false⟩
theorem ty5:TyOk Tryz.prog 5 tE5 := .s (by kernel_rfl) Tryz.underlying5
theorem ty6:TyOk Tryz.prog 6 tE5 := .s (by kernel_rfl) Tryz.underlying6
def tE7:TyI:=⟨.struct [(0,2),(1,3),(2,4),(3,6)],4,24,[.int .i64 0,.int .i64 0,.bool false,.int .u8 0],false⟩
theorem ty7:TyOk Tryz.prog 7 tE7 := .g (by kernel_rfl) ⟨_,Tryz.underlying7,rfl⟩
theorem ty8:TyOk Tryz.prog 8 tE7 := .g (by kernel_rfl) ⟨_,Tryz.underlying8,rfl⟩
def tE9:TyI:=⟨.str,1,16,[.string ByteArray.empty],false⟩
theorem ty9:TyOk Tryz.prog 9 tE9 := .s (by kernel_rfl) Tryz.underlying9
theorem Ypi:TyOk Tryz.prog 10 tE9 := .s (by kernel_rfl) Tryz.underlying10
theorem Ypj:TyOk Tryz.prog 11 tE9 := .s (by kernel_rfl) Tryz.underlying11
def Z5o:TyI:=⟨.int .u64,1,8,[.int .u64 0],false⟩
theorem Ypk:TyOk Tryz.prog 12 Z5o := .s (by kernel_rfl) Tryz.underlying12
def Ygm:TyI:=⟨.struct [(0,9),(1,12)],2,24,[.string ByteArray.empty,.int .u64 0],false⟩
theorem Ypl:TyOk Tryz.prog 13 Ygm := .g (by kernel_rfl) ⟨_,Tryz.underlying13,rfl⟩
theorem Ypm:TyOk Tryz.prog 14 Ygm := .g (by kernel_rfl) ⟨_,Tryz.underlying14,rfl⟩
def Ylk:TyI:=⟨.ptr 399,1,8,[.pointer none],false⟩
theorem Ypn:TyOk Tryz.prog 15 Ylk := .s (by kernel_rfl) Tryz.underlying15
def Yll:TyI:=⟨.ptr 402,1,8,[.pointer none],false⟩
theorem Ypo:TyOk Tryz.prog 16 Yll := .s (by kernel_rfl) Tryz.underlying16
def Ylm:TyI:=⟨.ptr 410,1,8,[.pointer none],false⟩
theorem Ypp:TyOk Tryz.prog 17 Ylm := .s (by kernel_rfl) Tryz.underlying17
def Ygn:TyI:=⟨.struct [(0,17)],1,8,[.pointer none],false⟩
theorem Ypq:TyOk Tryz.prog 18 Ygn := .g (by kernel_rfl) ⟨_,Tryz.underlying18,rfl⟩
theorem Ypr:TyOk Tryz.prog 19 Ygn := .g (by kernel_rfl) ⟨_,Tryz.underlying19,rfl⟩
def Ybk:TyI:=⟨.int .i32,1,4,[.int .i32 0],false⟩
theorem Yps:TyOk Tryz.prog 21 Ybk := .s (by kernel_rfl) Tryz.underlying21
def Yln:TyI:=⟨.slice 77,1,24,[.slice none 0 0],false⟩
theorem Ypt:TyOk Tryz.prog 22 Yln := .s (by kernel_rfl) Tryz.underlying22
def Ylo:TyI:=⟨.slice 25,1,24,[.slice none 0 0],false⟩
theorem Ypu:TyOk Tryz.prog 23 Ylo := .s (by kernel_rfl) Tryz.underlying23
def Ygo:TyI:=⟨.struct [(0,3),(1,22),(2,23)],3,56,[.int .i64 0,.slice none 0 0,.slice none 0 0],false⟩
theorem Ypv:TyOk Tryz.prog 24 Ygo := .g (by kernel_rfl) ⟨_,Tryz.underlying24,rfl⟩
theorem Ypw:TyOk Tryz.prog 25 Ygo := .g (by kernel_rfl) ⟨_,Tryz.underlying25,rfl⟩
def Ylp:TyI:=⟨.slice 84,1,24,[.slice none 0 0],false⟩
theorem Ypx:TyOk Tryz.prog 26 Ylp := .s (by kernel_rfl) Tryz.underlying26
def Ylq:TyI:=⟨.slice 86,1,24,[.slice none 0 0],false⟩
theorem Ypy:TyOk Tryz.prog 27 Ylq := .s (by kernel_rfl) Tryz.underlying27
def Ylr:TyI:=⟨.slice 89,1,24,[.slice none 0 0],false⟩
theorem Ypz:TyOk Tryz.prog 28 Ylr := .s (by kernel_rfl) Tryz.underlying28
def Ygp:TyI:=⟨.struct [(0,3),(1,25),(4,25),(7,26),(8,27),(9,3),(10,28)],11,200,[.int .i64 0,.int .i64 0,.slice none 0 0,.slice none 0 0,.int .i64 0,.slice none 0 0,.slice none 0 0,.slice none 0 0,.slice none 0 0,.int .i64 0,.slice none 0 0],false⟩
theorem Yp0:TyOk Tryz.prog 29 Ygp := .g (by kernel_rfl) ⟨_,Tryz.underlying29,rfl⟩
theorem Yp1:TyOk Tryz.prog 30 Ygp := .g (by kernel_rfl) ⟨_,Tryz.underlying30,rfl⟩
theorem Yp2:TyOk Tryz.prog 44 tE2 := .s (by kernel_rfl) Tryz.underlying44
def Yls:TyI:=⟨.slice 22,1,24,[.slice none 0 0],false⟩
theorem Yp3:TyOk Tryz.prog 53 Yls := .s (by kernel_rfl) Tryz.underlying53
def Ylt:TyI:=⟨.struct [(0,3),(1,3),(2,3),(3,3)],4,32,[.int .i64 0,.int .i64 0,.int .i64 0,.int .i64 0],false⟩
theorem Yp4:TyOk Tryz.prog 54 Ylt := .g (by kernel_rfl) ⟨_,Tryz.underlying54,rfl⟩
def Ylu:TyI:=⟨.struct [(0,3),(1,3),(2,3),(3,3)],4,32,[.int .i64 0,.int .i64 0,.int .i64 0,.int .i64 0],true⟩
theorem Yp5:TyOk Tryz.prog 55 Ylu := .g (by kernel_rfl) ⟨_,Tryz.underlying55,rfl⟩ (fun _=>by unfold EqTy;exact ⟨by kernel_rfl,by kernel_rfl,by kernel_rfl⟩)
def Ylv:TyI:=⟨.ptr 147,1,8,[.pointer none],false⟩
theorem Yp6:TyOk Tryz.prog 60 Ylv := .s (by kernel_rfl) Tryz.underlying60
def Ygq:TyI:=⟨.struct [(0,60),(1,3),(2,3),(3,3),(4,3),(5,3),(6,3),(7,3),(8,3)],9,72,[.pointer none,.int .i64 0,.int .i64 0,.int .i64 0,.int .i64 0,.int .i64 0,.int .i64 0,.int .i64 0,.int .i64 0],false⟩
theorem Yp7:TyOk Tryz.prog 61 Ygq := .g (by kernel_rfl) ⟨_,Tryz.underlying61,rfl⟩
theorem Yp8:TyOk Tryz.prog 62 Ygq := .g (by kernel_rfl) ⟨_,Tryz.underlying62,rfl⟩
theorem Yp9:TyOk Tryz.prog 77 Z5o := .s (by kernel_rfl) Tryz.underlying77
theorem Yqa:TyOk Tryz.prog 81 Z5o := .s (by kernel_rfl) Tryz.underlying81
def Ylw:TyI:=⟨.struct [(0,3),(1,5),(2,77),(3,77)],4,32,[.int .i64 0,.int .u8 0,.int .u64 0,.int .u64 0],false⟩
theorem Yqb:TyOk Tryz.prog 83 Ylw := .g (by kernel_rfl) ⟨_,Tryz.underlying83,rfl⟩
def Ylx:TyI:=⟨.struct [(0,3),(1,5),(2,77),(3,77)],4,32,[.int .i64 0,.int .u8 0,.int .u64 0,.int .u64 0],true⟩
theorem Yqc:TyOk Tryz.prog 84 Ylx := .g (by kernel_rfl) ⟨_,Tryz.underlying84,rfl⟩ (fun _=>by unfold EqTy;exact ⟨by kernel_rfl,by kernel_rfl,by kernel_rfl⟩)
def Ygr:TyI:=⟨.struct [(0,3),(1,30)],12,208,[.int .i64 0,.int .i64 0,.int .i64 0,.slice none 0 0,.slice none 0 0,.int .i64 0,.slice none 0 0,.slice none 0 0,.slice none 0 0,.slice none 0 0,.int .i64 0,.slice none 0 0],false⟩
theorem Yqd:TyOk Tryz.prog 85 Ygr := .g (by kernel_rfl) ⟨_,Tryz.underlying85,rfl⟩
theorem Yqe:TyOk Tryz.prog 86 Ygr := .g (by kernel_rfl) ⟨_,Tryz.underlying86,rfl⟩
def Ygs:TyI:=⟨.struct [(0,3),(1,3),(2,23),(3,30)],14,240,[.int .i64 0,.int .i64 0,.slice none 0 0,.int .i64 0,.int .i64 0,.slice none 0 0,.slice none 0 0,.int .i64 0,.slice none 0 0,.slice none 0 0,.slice none 0 0,.slice none 0 0,.int .i64 0,.slice none 0 0],false⟩
theorem Yqf:TyOk Tryz.prog 88 Ygs := .g (by kernel_rfl) ⟨_,Tryz.underlying88,rfl⟩
theorem Yqg:TyOk Tryz.prog 89 Ygs := .g (by kernel_rfl) ⟨_,Tryz.underlying89,rfl⟩
def Yht:TyI:=⟨.struct [(0,3),(1,3),(2,3),(3,3),(4,3),(5,3),(6,77)],7,56,[.int .i64 0,.int .i64 0,.int .i64 0,.int .i64 0,.int .i64 0,.int .i64 0,.int .u64 0],false⟩
theorem Yl0:TyOk Tryz.prog 106 Yht := .g (by kernel_rfl) ⟨_,Tryz.underlying106,rfl⟩
def Yhu:TyI:=⟨.struct [(0,3),(1,3),(2,3),(3,3),(4,3),(5,3),(6,77)],7,56,[.int .i64 0,.int .i64 0,.int .i64 0,.int .i64 0,.int .i64 0,.int .i64 0,.int .u64 0],true⟩
theorem Yl1:TyOk Tryz.prog 107 Yhu := .g (by kernel_rfl) ⟨_,Tryz.underlying107,rfl⟩ (fun _=>by unfold EqTy;exact ⟨by kernel_rfl,by kernel_rfl,by kernel_rfl⟩)
def Ztv:TyI:=⟨.struct [(0,3),(1,3)],2,16,[.int .i64 0,.int .i64 0],false⟩
theorem Yl2:TyOk Tryz.prog 111 Ztv := .g (by kernel_rfl) ⟨_,Tryz.underlying111,rfl⟩
def Zlf:TyI:=⟨.struct [(0,3),(1,3)],2,16,[.int .i64 0,.int .i64 0],true⟩
theorem Yl3:TyOk Tryz.prog 112 Zlf := .g (by kernel_rfl) ⟨_,Tryz.underlying112,rfl⟩ (fun _=>by unfold EqTy;exact ⟨by kernel_rfl,by kernel_rfl,by kernel_rfl⟩)
def Yhv:TyI:=⟨.ptr 120,1,8,[.pointer none],false⟩
theorem Yl4:TyOk Tryz.prog 116 Yhv := .s (by kernel_rfl) Tryz.underlying116
def Yhw:TyI:=⟨.ptr 124,1,8,[.pointer none],false⟩
theorem Yl5:TyOk Tryz.prog 117 Yhw := .s (by kernel_rfl) Tryz.underlying117
def Z83:TyI:=⟨.struct [(0,117),(1,4)],2,16,[.pointer none,.bool false],false⟩
theorem Yl6:TyOk Tryz.prog 119 Z83 := .g (by kernel_rfl) ⟨_,Tryz.underlying119,rfl⟩
theorem Yl7:TyOk Tryz.prog 120 Z83 := .g (by kernel_rfl) ⟨_,Tryz.underlying120,rfl⟩
def Z84:TyI:=⟨.struct [(0,53),(1,3),(2,3),(3,3)],4,48,[.slice none 0 0,.int .i64 0,.int .i64 0,.int .i64 0],false⟩
theorem Yl8:TyOk Tryz.prog 123 Z84 := .g (by kernel_rfl) ⟨_,Tryz.underlying123,rfl⟩
theorem Yl9:TyOk Tryz.prog 124 Z84 := .g (by kernel_rfl) ⟨_,Tryz.underlying124,rfl⟩
def Yhx:TyI:=⟨.struct [(0,4),(1,3)],2,16,[.bool false,.int .i64 0],false⟩
theorem Yma:TyOk Tryz.prog 125 Yhx := .g (by kernel_rfl) ⟨_,Tryz.underlying125,rfl⟩
def Yhy:TyI:=⟨.struct [(0,4),(1,3)],2,16,[.bool false,.int .i64 0],true⟩
theorem Ymb:TyOk Tryz.prog 126 Yhy := .g (by kernel_rfl) ⟨_,Tryz.underlying126,rfl⟩ (fun _=>by unfold EqTy;exact ⟨by kernel_rfl,by kernel_rfl,by kernel_rfl⟩)
def Z85:TyI:=⟨.struct [(0,22),(1,3)],2,32,[.slice none 0 0,.int .i64 0],false⟩
theorem Ymc:TyOk Tryz.prog 139 Z85 := .g (by kernel_rfl) ⟨_,Tryz.underlying139,rfl⟩
theorem Ymd:TyOk Tryz.prog 140 Z85 := .g (by kernel_rfl) ⟨_,Tryz.underlying140,rfl⟩
def Zzg:TyI:=⟨.struct [(0,3)],1,8,[.int .i64 0],false⟩
theorem Yme:TyOk Tryz.prog 142 Zzg := .g (by kernel_rfl) ⟨_,Tryz.underlying142,rfl⟩
def Zzh:TyI:=⟨.struct [(0,3)],1,8,[.int .i64 0],true⟩
theorem Ymf:TyOk Tryz.prog 143 Zzh := .g (by kernel_rfl) ⟨_,Tryz.underlying143,rfl⟩ (fun _=>by unfold EqTy;exact ⟨by kernel_rfl,by kernel_rfl,by kernel_rfl⟩)
def Z86:TyI:=⟨.struct [(0,53),(1,3),(2,3)],3,40,[.slice none 0 0,.int .i64 0,.int .i64 0],false⟩
theorem Ymg:TyOk Tryz.prog 146 Z86 := .g (by kernel_rfl) ⟨_,Tryz.underlying146,rfl⟩
theorem Ymh:TyOk Tryz.prog 147 Z86 := .g (by kernel_rfl) ⟨_,Tryz.underlying147,rfl⟩
def Yhz:TyI:=⟨.struct [(0,3),(1,3),(2,3),(3,3),(4,3),(5,3),(6,3),(7,4)],8,64,[.int .i64 0,.int .i64 0,.int .i64 0,.int .i64 0,.int .i64 0,.int .i64 0,.int .i64 0,.bool false],false⟩
theorem Ymi:TyOk Tryz.prog 154 Yhz := .g (by kernel_rfl) ⟨_,Tryz.underlying154,rfl⟩
def Z87:TyI:=⟨.struct [(0,3),(1,3),(2,3),(3,3),(4,3),(5,3),(6,3),(7,4)],8,64,[.int .i64 0,.int .i64 0,.int .i64 0,.int .i64 0,.int .i64 0,.int .i64 0,.int .i64 0,.bool false],true⟩
theorem Ymj:TyOk Tryz.prog 155 Z87 := .g (by kernel_rfl) ⟨_,Tryz.underlying155,rfl⟩ (fun _=>by unfold EqTy;exact ⟨by kernel_rfl,by kernel_rfl,by kernel_rfl⟩)
def Yh0:TyI:=⟨.struct [(0,155),(8,3),(9,3)],10,80,[.int .i64 0,.int .i64 0,.int .i64 0,.int .i64 0,.int .i64 0,.int .i64 0,.int .i64 0,.bool false,.int .i64 0,.int .i64 0],false⟩
theorem Ymk:TyOk Tryz.prog 156 Yh0 := .g (by kernel_rfl) ⟨_,Tryz.underlying156,rfl⟩
def Yh1:TyI:=⟨.struct [(0,155),(8,3),(9,3)],10,80,[.int .i64 0,.int .i64 0,.int .i64 0,.int .i64 0,.int .i64 0,.int .i64 0,.int .i64 0,.bool false,.int .i64 0,.int .i64 0],true⟩
theorem Yml:TyOk Tryz.prog 157 Yh1 := .g (by kernel_rfl) ⟨_,Tryz.underlying157,rfl⟩ (fun _=>by unfold EqTy;exact ⟨by kernel_rfl,by kernel_rfl,by kernel_rfl⟩)
def Yh2:TyI:=⟨.ptr 112,1,8,[.pointer none],false⟩
theorem Ymm:TyOk Tryz.prog 164 Yh2 := .s (by kernel_rfl) Tryz.underlying164
def Yh3:TyI:=⟨.arr 8 5,8,8,[.int .u8 0,.int .u8 0,.int .u8 0,.int .u8 0,.int .u8 0,.int .u8 0,.int .u8 0,.int .u8 0],true⟩
theorem Ymn:TyOk Tryz.prog 185 Yh3 := .g (by kernel_rfl) Tryz.underlying185 (fun _=>by unfold EqTy;exact ⟨by kernel_rfl,by kernel_rfl,by kernel_rfl⟩)
def Yh4:TyI:=⟨.slice 5,1,24,[.slice none 0 0],false⟩
theorem Ymo:TyOk Tryz.prog 189 Yh4 := .s (by kernel_rfl) Tryz.underlying189
def Yh5:TyI:=⟨.ptr 140,1,8,[.pointer none],false⟩
theorem Ymp:TyOk Tryz.prog 190 Yh5 := .s (by kernel_rfl) Tryz.underlying190
theorem Ymq:TyOk Tryz.prog 191 Z87 := .g (by kernel_rfl) ⟨_,Tryz.underlying191,rfl⟩ (fun _=>by unfold EqTy;exact ⟨by kernel_rfl,by kernel_rfl,by kernel_rfl⟩)
def Yh6:TyI:=⟨.ptr 143,1,8,[.pointer none],false⟩
theorem Ymr:TyOk Tryz.prog 197 Yh6 := .s (by kernel_rfl) Tryz.underlying197
def Z88:TyI:=⟨.struct [(0,28),(1,3),(2,23),(3,23)],4,80,[.slice none 0 0,.int .i64 0,.slice none 0 0,.slice none 0 0],false⟩
theorem Yms:TyOk Tryz.prog 199 Z88 := .g (by kernel_rfl) ⟨_,Tryz.underlying199,rfl⟩
theorem Ymt:TyOk Tryz.prog 200 Z88 := .g (by kernel_rfl) ⟨_,Tryz.underlying200,rfl⟩
def Yh7:TyI:=⟨.ptr 23,1,8,[.pointer none],false⟩
theorem Ymu:TyOk Tryz.prog 203 Yh7 := .s (by kernel_rfl) Tryz.underlying203
def Z89:TyI:=⟨.struct [(0,3),(1,3),(2,23),(3,23),(4,28)],5,88,[.int .i64 0,.int .i64 0,.slice none 0 0,.slice none 0 0,.slice none 0 0],false⟩
theorem Ymv:TyOk Tryz.prog 207 Z89 := .g (by kernel_rfl) ⟨_,Tryz.underlying207,rfl⟩
theorem Ymw:TyOk Tryz.prog 208 Z89 := .g (by kernel_rfl) ⟨_,Tryz.underlying208,rfl⟩
def Yh8:TyI:=⟨.slice 212,1,24,[.slice none 0 0],false⟩
theorem Ymx:TyOk Tryz.prog 209 Yh8 := .s (by kernel_rfl) Tryz.underlying209
theorem Ymy:TyOk Tryz.prog 211 Ztv := .g (by kernel_rfl) ⟨_,Tryz.underlying211,rfl⟩
theorem Ymz:TyOk Tryz.prog 212 Zlf := .g (by kernel_rfl) ⟨_,Tryz.underlying212,rfl⟩ (fun _=>by unfold EqTy;exact ⟨by kernel_rfl,by kernel_rfl,by kernel_rfl⟩)
theorem Ym0:TyOk Tryz.prog 219 Zzg := .g (by kernel_rfl) ⟨_,Tryz.underlying219,rfl⟩
theorem Ym1:TyOk Tryz.prog 220 Zzh := .g (by kernel_rfl) ⟨_,Tryz.underlying220,rfl⟩ (fun _=>by unfold EqTy;exact ⟨by kernel_rfl,by kernel_rfl,by kernel_rfl⟩)
def Z9a:TyI:=⟨.struct [(0,62),(9,62),(18,3),(19,3),(20,3),(21,3),(22,3),(23,28)],24,208,[.pointer none,.int .i64 0,.int .i64 0,.int .i64 0,.int .i64 0,.int .i64 0,.int .i64 0,.int .i64 0,.int .i64 0,.pointer none,.int .i64 0,.int .i64 0,.int .i64 0,.int .i64 0,.int .i64 0,.int .i64 0,.int .i64 0,.int .i64 0,.int .i64 0,.int .i64 0,.int .i64 0,.int .i64 0,.int .i64 0,.slice none 0 0],false⟩
theorem Ym2:TyOk Tryz.prog 224 Z9a := .g (by kernel_rfl) ⟨_,Tryz.underlying224,rfl⟩
theorem Ym3:TyOk Tryz.prog 225 Z9a := .g (by kernel_rfl) ⟨_,Tryz.underlying225,rfl⟩
def Yh9:TyI:=⟨.struct [(0,191),(8,3),(9,3)],10,80,[.int .i64 0,.int .i64 0,.int .i64 0,.int .i64 0,.int .i64 0,.int .i64 0,.int .i64 0,.bool false,.int .i64 0,.int .i64 0],false⟩
theorem Ym4:TyOk Tryz.prog 227 Yh9 := .g (by kernel_rfl) ⟨_,Tryz.underlying227,rfl⟩
def Yia:TyI:=⟨.struct [(0,191),(8,3),(9,3)],10,80,[.int .i64 0,.int .i64 0,.int .i64 0,.int .i64 0,.int .i64 0,.int .i64 0,.int .i64 0,.bool false,.int .i64 0,.int .i64 0],true⟩
theorem Ym5:TyOk Tryz.prog 228 Yia := .g (by kernel_rfl) ⟨_,Tryz.underlying228,rfl⟩ (fun _=>by unfold EqTy;exact ⟨by kernel_rfl,by kernel_rfl,by kernel_rfl⟩)
def Yib:TyI:=⟨.slice 3,1,24,[.slice none 0 0],false⟩
theorem Ym6:TyOk Tryz.prog 236 Yib := .s (by kernel_rfl) Tryz.underlying236
def Yic:TyI:=⟨.slice 242,1,24,[.slice none 0 0],false⟩
theorem Ym7:TyOk Tryz.prog 239 Yic := .s (by kernel_rfl) Tryz.underlying239
theorem Ym8:TyOk Tryz.prog 242 Zlf := .g (by kernel_rfl) ⟨_,Tryz.underlying242,rfl⟩ (fun _=>by unfold EqTy;exact ⟨by kernel_rfl,by kernel_rfl,by kernel_rfl⟩)
theorem Ym9:TyOk Tryz.prog 246 Zzg := .g (by kernel_rfl) ⟨_,Tryz.underlying246,rfl⟩
theorem Yna:TyOk Tryz.prog 247 Zzh := .g (by kernel_rfl) ⟨_,Tryz.underlying247,rfl⟩ (fun _=>by unfold EqTy;exact ⟨by kernel_rfl,by kernel_rfl,by kernel_rfl⟩)
def Z9b:TyI:=⟨.struct [(0,62),(9,3),(10,23)],11,104,[.pointer none,.int .i64 0,.int .i64 0,.int .i64 0,.int .i64 0,.int .i64 0,.int .i64 0,.int .i64 0,.int .i64 0,.int .i64 0,.slice none 0 0],false⟩
theorem Ynb:TyOk Tryz.prog 254 Z9b := .g (by kernel_rfl) ⟨_,Tryz.underlying254,rfl⟩
theorem Ync:TyOk Tryz.prog 255 Z9b := .g (by kernel_rfl) ⟨_,Tryz.underlying255,rfl⟩
def Yid:TyI:=⟨.slice 126,1,24,[.slice none 0 0],false⟩
theorem Ynd:TyOk Tryz.prog 257 Yid := .s (by kernel_rfl) Tryz.underlying257
def Yie:TyI:=⟨.ptr 200,1,8,[.pointer none],false⟩
theorem Yne:TyOk Tryz.prog 267 Yie := .s (by kernel_rfl) Tryz.underlying267
def Yif:TyI:=⟨.ptr 208,1,8,[.pointer none],false⟩
theorem Ynf:TyOk Tryz.prog 275 Yif := .s (by kernel_rfl) Tryz.underlying275
def Yig:TyI:=⟨.ptr 220,1,8,[.pointer none],false⟩
theorem Yng:TyOk Tryz.prog 278 Yig := .s (by kernel_rfl) Tryz.underlying278
def Yih:TyI:=⟨.ptr 330,1,8,[.pointer none],false⟩
theorem Ynh:TyOk Tryz.prog 284 Yih := .s (by kernel_rfl) Tryz.underlying284
def Yii:TyI:=⟨.ptr 225,1,8,[.pointer none],false⟩
theorem Yni:TyOk Tryz.prog 288 Yii := .s (by kernel_rfl) Tryz.underlying288
def Yij:TyI:=⟨.slice 236,1,24,[.slice none 0 0],false⟩
theorem Ynj:TyOk Tryz.prog 295 Yij := .s (by kernel_rfl) Tryz.underlying295
def Yik:TyI:=⟨.slice 300,1,24,[.slice none 0 0],false⟩
theorem Ynk:TyOk Tryz.prog 297 Yik := .s (by kernel_rfl) Tryz.underlying297
theorem Ynl:TyOk Tryz.prog 299 Ztv := .g (by kernel_rfl) ⟨_,Tryz.underlying299,rfl⟩
theorem Ynm:TyOk Tryz.prog 300 Zlf := .g (by kernel_rfl) ⟨_,Tryz.underlying300,rfl⟩ (fun _=>by unfold EqTy;exact ⟨by kernel_rfl,by kernel_rfl,by kernel_rfl⟩)
def Yil:TyI:=⟨.ptr 247,1,8,[.pointer none],false⟩
theorem Ynn:TyOk Tryz.prog 301 Yil := .s (by kernel_rfl) Tryz.underlying301
def Yim:TyI:=⟨.ptr 255,1,8,[.pointer none],false⟩
theorem Yno:TyOk Tryz.prog 304 Yim := .s (by kernel_rfl) Tryz.underlying304
def Yin:TyI:=⟨.arr 7 3,7,56,[.int .i64 0,.int .i64 0,.int .i64 0,.int .i64 0,.int .i64 0,.int .i64 0,.int .i64 0],true⟩
theorem Ynp:TyOk Tryz.prog 309 Yin := .g (by kernel_rfl) Tryz.underlying309 (fun _=>by unfold EqTy;exact ⟨by kernel_rfl,by kernel_rfl,by kernel_rfl⟩)
def Yio:TyI:=⟨.int .u32,1,4,[.int .u32 0],false⟩
theorem Ynq:TyOk Tryz.prog 310 Yio := .s (by kernel_rfl) Tryz.underlying310
def Yip:TyI:=⟨.ptr 349,1,8,[.pointer none],false⟩
theorem Ynr:TyOk Tryz.prog 312 Yip := .s (by kernel_rfl) Tryz.underlying312
def Yiq:TyI:=⟨.slice 317,1,24,[.slice none 0 0],false⟩
theorem Yns:TyOk Tryz.prog 314 Yiq := .s (by kernel_rfl) Tryz.underlying314
theorem Ynt:TyOk Tryz.prog 316 Ztv := .g (by kernel_rfl) ⟨_,Tryz.underlying316,rfl⟩
theorem Ynu:TyOk Tryz.prog 317 Zlf := .g (by kernel_rfl) ⟨_,Tryz.underlying317,rfl⟩ (fun _=>by unfold EqTy;exact ⟨by kernel_rfl,by kernel_rfl,by kernel_rfl⟩)
def Yir:TyI:=⟨.ptr 270,1,8,[.pointer none],false⟩
theorem Ynv:TyOk Tryz.prog 319 Yir := .s (by kernel_rfl) Tryz.underlying319
def Yis:TyI:=⟨.arr 3 3,3,24,[.int .i64 0,.int .i64 0,.int .i64 0],true⟩
theorem Ynw:TyOk Tryz.prog 321 Yis := .g (by kernel_rfl) Tryz.underlying321 (fun _=>by unfold EqTy;exact ⟨by kernel_rfl,by kernel_rfl,by kernel_rfl⟩)
def Yit:TyI:=⟨.slice 325,1,24,[.slice none 0 0],false⟩
theorem Ynx:TyOk Tryz.prog 323 Yit := .s (by kernel_rfl) Tryz.underlying323
theorem Yny:TyOk Tryz.prog 325 Zlf := .g (by kernel_rfl) ⟨_,Tryz.underlying325,rfl⟩ (fun _=>by unfold EqTy;exact ⟨by kernel_rfl,by kernel_rfl,by kernel_rfl⟩)
def Yiu:TyI:=⟨.slice 334,1,24,[.slice none 0 0],false⟩
theorem Ynz:TyOk Tryz.prog 328 Yiu := .s (by kernel_rfl) Tryz.underlying328
def Z9c:TyI:=⟨.struct [(0,328),(1,236)],2,48,[.slice none 0 0,.slice none 0 0],false⟩
theorem Yn0:TyOk Tryz.prog 329 Z9c := .g (by kernel_rfl) ⟨_,Tryz.underlying329,rfl⟩
theorem Yn1:TyOk Tryz.prog 330 Z9c := .g (by kernel_rfl) ⟨_,Tryz.underlying330,rfl⟩
def Z9d:TyI:=⟨.struct [(0,77),(1,62)],10,80,[.int .u64 0,.pointer none,.int .i64 0,.int .i64 0,.int .i64 0,.int .i64 0,.int .i64 0,.int .i64 0,.int .i64 0,.int .i64 0],false⟩
theorem Yn2:TyOk Tryz.prog 333 Z9d := .g (by kernel_rfl) ⟨_,Tryz.underlying333,rfl⟩
theorem Yn3:TyOk Tryz.prog 334 Z9d := .g (by kernel_rfl) ⟨_,Tryz.underlying334,rfl⟩
def Yiv:TyI:=⟨.arr 6 3,6,48,[.int .i64 0,.int .i64 0,.int .i64 0,.int .i64 0,.int .i64 0,.int .i64 0],true⟩
theorem Yn4:TyOk Tryz.prog 346 Yiv := .g (by kernel_rfl) Tryz.underlying346 (fun _=>by unfold EqTy;exact ⟨by kernel_rfl,by kernel_rfl,by kernel_rfl⟩)
def Z9e:TyI:=⟨.struct [(0,236),(1,236),(2,3),(3,295),(4,295),(5,3)],6,112,[.slice none 0 0,.slice none 0 0,.int .i64 0,.slice none 0 0,.slice none 0 0,.int .i64 0],false⟩
theorem Yn5:TyOk Tryz.prog 348 Z9e := .g (by kernel_rfl) ⟨_,Tryz.underlying348,rfl⟩
theorem Yn6:TyOk Tryz.prog 349 Z9e := .g (by kernel_rfl) ⟨_,Tryz.underlying349,rfl⟩
def Yiw:TyI:=⟨.struct [(0,77),(1,3)],2,16,[.int .u64 0,.int .i64 0],false⟩
theorem Yn7:TyOk Tryz.prog 352 Yiw := .g (by kernel_rfl) ⟨_,Tryz.underlying352,rfl⟩
def Yix:TyI:=⟨.struct [(0,77),(1,3)],2,16,[.int .u64 0,.int .i64 0],true⟩
theorem Yn8:TyOk Tryz.prog 353 Yix := .g (by kernel_rfl) ⟨_,Tryz.underlying353,rfl⟩ (fun _=>by unfold EqTy;exact ⟨by kernel_rfl,by kernel_rfl,by kernel_rfl⟩)
def Z9f:TyI:=⟨.slice 364,1,24,[.slice none 0 0],false⟩
theorem Yn9:TyOk Tryz.prog 358 Z9f := .s (by kernel_rfl) Tryz.underlying358
theorem Yoa:TyOk Tryz.prog 359 Z9f := .s (by kernel_rfl) Tryz.underlying359
def Yiy:TyI:=⟨.ptr 359,1,8,[.pointer none],false⟩
theorem Yob:TyOk Tryz.prog 362 Yiy := .s (by kernel_rfl) Tryz.underlying362
def Yiz:TyI:=⟨.struct [(0,325),(2,3)],3,24,[.int .i64 0,.int .i64 0,.int .i64 0],false⟩
theorem Yoc:TyOk Tryz.prog 363 Yiz := .g (by kernel_rfl) ⟨_,Tryz.underlying363,rfl⟩
def Yi0:TyI:=⟨.struct [(0,325),(2,3)],3,24,[.int .i64 0,.int .i64 0,.int .i64 0],true⟩
theorem Yod:TyOk Tryz.prog 364 Yi0 := .g (by kernel_rfl) ⟨_,Tryz.underlying364,rfl⟩ (fun _=>by unfold EqTy;exact ⟨by kernel_rfl,by kernel_rfl,by kernel_rfl⟩)
def Yi1:TyI:=⟨.ptr 353,1,8,[.pointer none],false⟩
theorem Yoe:TyOk Tryz.prog 370 Yi1 := .s (by kernel_rfl) Tryz.underlying370
theorem Yof:TyOk Tryz.prog 383 tE2 := .s (by kernel_rfl) Tryz.underlying383
theorem Yog:TyOk Tryz.prog 390 Z5o := .s (by kernel_rfl) Tryz.underlying390
def Yi2:TyI:=⟨.ptr 3,1,8,[.pointer none],false⟩
theorem Yoh:TyOk Tryz.prog 393 Yi2 := .s (by kernel_rfl) Tryz.underlying393
def Yi3:TyI:=⟨.ptr 390,1,8,[.pointer none],false⟩
theorem Yoi:TyOk Tryz.prog 395 Yi3 := .s (by kernel_rfl) Tryz.underlying395
def Z9g:TyI:=⟨.struct [(0,17),(1,17),(2,17),(3,9)],4,40,[.pointer none,.pointer none,.pointer none,.string ByteArray.empty],false⟩
theorem Yoj:TyOk Tryz.prog 398 Z9g := .g (by kernel_rfl) ⟨_,Tryz.underlying398,rfl⟩
theorem Yok:TyOk Tryz.prog 399 Z9g := .g (by kernel_rfl) ⟨_,Tryz.underlying399,rfl⟩
theorem Yol:TyOk Tryz.prog 403 tE5 := .s (by kernel_rfl) Tryz.underlying403
theorem Yom:TyOk Tryz.prog 404 tE5 := .s (by kernel_rfl) Tryz.underlying404
def Yi4:TyI:=⟨.ptr 5,1,8,[.pointer none],false⟩
theorem Yon:TyOk Tryz.prog 406 Yi4 := .s (by kernel_rfl) Tryz.underlying406
theorem Yoo:TyOk Tryz.prog 407 Ybk := .s (by kernel_rfl) Tryz.underlying407
theorem Yop:TyOk Tryz.prog 408 Ybk := .s (by kernel_rfl) Tryz.underlying408
def tabL:List (Nat×TyI):=[(2,tE2),(3,tE2),(4,tE4),(5,tE5),(6,tE5),(7,tE7),(8,tE7),(9,tE9),(10,tE9),(11,tE9),(12,Z5o),(13,Ygm),(14,Ygm),(15,Ylk),(16,Yll),(17,Ylm),(18,Ygn),(19,Ygn),(21,Ybk),(22,Yln),(23,Ylo),(24,Ygo),(25,Ygo),(26,Ylp),(27,Ylq),(28,Ylr),(29,Ygp),(30,Ygp),(44,tE2),(53,Yls),(54,Ylt),(55,Ylu),(60,Ylv),(61,Ygq),(62,Ygq),(77,Z5o),(81,Z5o),(83,Ylw),(84,Ylx),(85,Ygr),(86,Ygr),(88,Ygs),(89,Ygs),(106,Yht),(107,Yhu),(111,Ztv),(112,Zlf),(116,Yhv),(117,Yhw),(119,Z83),(120,Z83),(123,Z84),(124,Z84),(125,Yhx),(126,Yhy),(139,Z85),(140,Z85),(142,Zzg),(143,Zzh),(146,Z86),(147,Z86),(154,Yhz),(155,Z87),(156,Yh0),(157,Yh1),(164,Yh2),(185,Yh3),(189,Yh4),(190,Yh5),(191,Z87),(197,Yh6),(199,Z88),(200,Z88),(203,Yh7),(207,Z89),(208,Z89),(209,Yh8),(211,Ztv),(212,Zlf),(219,Zzg),(220,Zzh),(224,Z9a),(225,Z9a),(227,Yh9),(228,Yia),(236,Yib),(239,Yic),(242,Zlf),(246,Zzg),(247,Zzh),(254,Z9b),(255,Z9b),(257,Yid),(267,Yie),(275,Yif),(278,Yig),(284,Yih),(288,Yii),(295,Yij),(297,Yik),(299,Ztv),(300,Zlf),(301,Yil),(304,Yim),(309,Yin),(310,Yio),(312,Yip),(314,Yiq),(316,Ztv),(317,Zlf),(319,Yir),(321,Yis),(323,Yit),(325,Zlf),(328,Yiu),(329,Z9c),(330,Z9c),(333,Z9d),(334,Z9d),(346,Yiv),(348,Z9e),(349,Z9e),(352,Yiw),(353,Yix),(358,Z9f),(359,Z9f),(362,Yiy),(363,Yiz),(364,Yi0),(370,Yi1),(383,tE2),(390,Z5o),(393,Yi2),(395,Yi3),(398,Z9g),(399,Z9g),(403,tE5),(404,tE5),(406,Yi4),(407,Ybk),(408,Ybk)]
def Xt:V6:=fun t=>tabL.lookup t
theorem Zs:Jj Tryz.prog Xt:=fun t i h=>by
 have hm:=Zxa _ h
 unfold tabL at hm
 simp only [List.mem_cons,Prod.mk.injEq,List.not_mem_nil,or_false] at hm
 rcases hm with ⟨rfl,rfl⟩ | ⟨rfl,rfl⟩ | ⟨rfl,rfl⟩ | ⟨rfl,rfl⟩ | ⟨rfl,rfl⟩ | ⟨rfl,rfl⟩ | ⟨rfl,rfl⟩ | ⟨rfl,rfl⟩ | ⟨rfl,rfl⟩ | ⟨rfl,rfl⟩ | ⟨rfl,rfl⟩ | ⟨rfl,rfl⟩ | ⟨rfl,rfl⟩ | ⟨rfl,rfl⟩ | ⟨rfl,rfl⟩ | ⟨rfl,rfl⟩ | ⟨rfl,rfl⟩ | ⟨rfl,rfl⟩ | ⟨rfl,rfl⟩ | ⟨rfl,rfl⟩ | ⟨rfl,rfl⟩ | ⟨rfl,rfl⟩ | ⟨rfl,rfl⟩ | ⟨rfl,rfl⟩ | ⟨rfl,rfl⟩ | ⟨rfl,rfl⟩ | ⟨rfl,rfl⟩ | ⟨rfl,rfl⟩ | ⟨rfl,rfl⟩ | ⟨rfl,rfl⟩ | ⟨rfl,rfl⟩ | ⟨rfl,rfl⟩ | ⟨rfl,rfl⟩ | ⟨rfl,rfl⟩ | ⟨rfl,rfl⟩ | ⟨rfl,rfl⟩ | ⟨rfl,rfl⟩ | ⟨rfl,rfl⟩ | ⟨rfl,rfl⟩ | ⟨rfl,rfl⟩ | ⟨rfl,rfl⟩ | ⟨rfl,rfl⟩ | ⟨rfl,rfl⟩ | ⟨rfl,rfl⟩ | ⟨rfl,rfl⟩ | ⟨rfl,rfl⟩ | ⟨rfl,rfl⟩ | ⟨rfl,rfl⟩ | ⟨rfl,rfl⟩ | ⟨rfl,rfl⟩ | ⟨rfl,rfl⟩ | ⟨rfl,rfl⟩ | ⟨rfl,rfl⟩ | ⟨rfl,rfl⟩ | ⟨rfl,rfl⟩ | ⟨rfl,rfl⟩ | ⟨rfl,rfl⟩ | ⟨rfl,rfl⟩ | ⟨rfl,rfl⟩ | ⟨rfl,rfl⟩ | ⟨rfl,rfl⟩ | ⟨rfl,rfl⟩ | ⟨rfl,rfl⟩ | ⟨rfl,rfl⟩ | ⟨rfl,rfl⟩ | ⟨rfl,rfl⟩ | ⟨rfl,rfl⟩ | ⟨rfl,rfl⟩ | ⟨rfl,rfl⟩ | ⟨rfl,rfl⟩ | ⟨rfl,rfl⟩ | ⟨rfl,rfl⟩ | ⟨rfl,rfl⟩ | ⟨rfl,rfl⟩ | ⟨rfl,rfl⟩ | ⟨rfl,rfl⟩ | ⟨rfl,rfl⟩ | ⟨rfl,rfl⟩ | ⟨rfl,rfl⟩ | ⟨rfl,rfl⟩ | ⟨rfl,rfl⟩ | ⟨rfl,rfl⟩ | ⟨rfl,rfl⟩ | ⟨rfl,rfl⟩ | ⟨rfl,rfl⟩ | ⟨rfl,rfl⟩ | ⟨rfl,rfl⟩ | ⟨rfl,rfl⟩ | ⟨rfl,rfl⟩ | ⟨rfl,rfl⟩ | ⟨rfl,rfl⟩ | ⟨rfl,rfl⟩ | ⟨rfl,rfl⟩ | ⟨rfl,rfl⟩ | ⟨rfl,rfl⟩ | ⟨rfl,rfl⟩ | ⟨rfl,rfl⟩ | ⟨rfl,rfl⟩ | ⟨rfl,rfl⟩ | ⟨rfl,rfl⟩ | ⟨rfl,rfl⟩ | ⟨rfl,rfl⟩ | ⟨rfl,rfl⟩ | ⟨rfl,rfl⟩ | ⟨rfl,rfl⟩ | ⟨rfl,rfl⟩ | ⟨rfl,rfl⟩ | ⟨rfl,rfl⟩ | ⟨rfl,rfl⟩ | ⟨rfl,rfl⟩ | ⟨rfl,rfl⟩ | ⟨rfl,rfl⟩ | ⟨rfl,rfl⟩ | ⟨rfl,rfl⟩ | ⟨rfl,rfl⟩ | ⟨rfl,rfl⟩ | ⟨rfl,rfl⟩ | ⟨rfl,rfl⟩ | ⟨rfl,rfl⟩ | ⟨rfl,rfl⟩ | ⟨rfl,rfl⟩ | ⟨rfl,rfl⟩ | ⟨rfl,rfl⟩ | ⟨rfl,rfl⟩ | ⟨rfl,rfl⟩ | ⟨rfl,rfl⟩ | ⟨rfl,rfl⟩ | ⟨rfl,rfl⟩ | ⟨rfl,rfl⟩ | ⟨rfl,rfl⟩ | ⟨rfl,rfl⟩ | ⟨rfl,rfl⟩ | ⟨rfl,rfl⟩ | ⟨rfl,rfl⟩ | ⟨rfl,rfl⟩ | ⟨rfl,rfl⟩ | ⟨rfl,rfl⟩ | ⟨rfl,rfl⟩ | ⟨rfl,rfl⟩ | ⟨rfl,rfl⟩ | ⟨rfl,rfl⟩
 ·exact ty2
 ·exact ty3
 ·exact ty4
 ·exact ty5
 ·exact ty6
 ·exact ty7
 ·exact ty8
 ·exact ty9
 ·exact Ypi
 ·exact Ypj
 ·exact Ypk
 ·exact Ypl
 ·exact Ypm
 ·exact Ypn
 ·exact Ypo
 ·exact Ypp
 ·exact Ypq
 ·exact Ypr
 ·exact Yps
 ·exact Ypt
 ·exact Ypu
 ·exact Ypv
 ·exact Ypw
 ·exact Ypx
 ·exact Ypy
 ·exact Ypz
 ·exact Yp0
 ·exact Yp1
 ·exact Yp2
 ·exact Yp3
 ·exact Yp4
 ·exact Yp5
 ·exact Yp6
 ·exact Yp7
 ·exact Yp8
 ·exact Yp9
 ·exact Yqa
 ·exact Yqb
 ·exact Yqc
 ·exact Yqd
 ·exact Yqe
 ·exact Yqf
 ·exact Yqg
 ·exact Yl0
 ·exact Yl1
 ·exact Yl2
 ·exact Yl3
 ·exact Yl4
 ·exact Yl5
 ·exact Yl6
 ·exact Yl7
 ·exact Yl8
 ·exact Yl9
 ·exact Yma
 ·exact Ymb
 ·exact Ymc
 ·exact Ymd
 ·exact Yme
 ·exact Ymf
 ·exact Ymg
 ·exact Ymh
 ·exact Ymi
 ·exact Ymj
 ·exact Ymk
 ·exact Yml
 ·exact Ymm
 ·exact Ymn
 ·exact Ymo
 ·exact Ymp
 ·exact Ymq
 ·exact Ymr
 ·exact Yms
 ·exact Ymt
 ·exact Ymu
 ·exact Ymv
 ·exact Ymw
 ·exact Ymx
 ·exact Ymy
 ·exact Ymz
 ·exact Ym0
 ·exact Ym1
 ·exact Ym2
 ·exact Ym3
 ·exact Ym4
 ·exact Ym5
 ·exact Ym6
 ·exact Ym7
 ·exact Ym8
 ·exact Ym9
 ·exact Yna
 ·exact Ynb
 ·exact Ync
 ·exact Ynd
 ·exact Yne
 ·exact Ynf
 ·exact Yng
 ·exact Ynh
 ·exact Yni
 ·exact Ynj
 ·exact Ynk
 ·exact Ynl
 ·exact Ynm
 ·exact Ynn
 ·exact Yno
 ·exact Ynp
 ·exact Ynq
 ·exact Ynr
 ·exact Yns
 ·exact Ynt
 ·exact Ynu
 ·exact Ynv
 ·exact Ynw
 ·exact Ynx
 ·exact Yny
 ·exact Ynz
 ·exact Yn0
 ·exact Yn1
 ·exact Yn2
 ·exact Yn3
 ·exact Yn4
 ·exact Yn5
 ·exact Yn6
 ·exact Yn7
 ·exact Yn8
 ·exact Yn9
 ·exact Yoa
 ·exact Yob
 ·exact Yoc
 ·exact Yod
 ·exact Yoe
 ·exact Yof
 ·exact Yog
 ·exact Yoh
 ·exact Yoi
 ·exact Yoj
 ·exact Yok
 ·exact Yol
 ·exact Yom
 ·exact Yon
 ·exact Yoo
 exact Yop
theorem Ygu:Xt 2=some ⟨.int .i64,1,8,[.int .i64 0],false⟩:=rfl
theorem Ztb:Xt 3=some ⟨.int .i64,1,8,[.int .i64 0],false⟩:=rfl
theorem Ygv:Xt 4=some ⟨.bool,1,1,[.bool false],false⟩:=rfl
theorem Z27:Xt 5=some ⟨.int .u8,1,1,[.int .u8 0],false⟩:=rfl
theorem Ygw:Xt 6=some ⟨.int .u8,1,1,[.int .u8 0],false⟩:=rfl
theorem Ygx:Xt 7=some ⟨.struct [(0,2),(1,3),(2,4),(3,6)],4,24,[.int .i64 0,.int .i64 0,.bool false,.int .u8 0],false⟩:=rfl
theorem Ygy:Xt 8=some ⟨.struct [(0,2),(1,3),(2,4),(3,6)],4,24,[.int .i64 0,.int .i64 0,.bool false,.int .u8 0],false⟩:=rfl
theorem Ygz:Xt 9=some ⟨.str,1,16,[.string ByteArray.empty],false⟩:=rfl
theorem Z9h:Xt 10=some ⟨.str,1,16,[.string ByteArray.empty],false⟩:=rfl
theorem Z9i:Xt 11=some ⟨.str,1,16,[.string ByteArray.empty],false⟩:=rfl
theorem Z9j:Xt 12=some ⟨.int .u64,1,8,[.int .u64 0],false⟩:=rfl
theorem Z9k:Xt 13=some ⟨.struct [(0,9),(1,12)],2,24,[.string ByteArray.empty,.int .u64 0],false⟩:=rfl
theorem Z9l:Xt 14=some ⟨.struct [(0,9),(1,12)],2,24,[.string ByteArray.empty,.int .u64 0],false⟩:=rfl
theorem Z9m:Xt 15=some ⟨.ptr 399,1,8,[.pointer none],false⟩:=rfl
theorem Z9n:Xt 16=some ⟨.ptr 402,1,8,[.pointer none],false⟩:=rfl
theorem Z9o:Xt 17=some ⟨.ptr 410,1,8,[.pointer none],false⟩:=rfl
theorem Z9p:Xt 18=some ⟨.struct [(0,17)],1,8,[.pointer none],false⟩:=rfl
theorem Z9q:Xt 19=some ⟨.struct [(0,17)],1,8,[.pointer none],false⟩:=rfl
theorem Z9r:Xt 21=some ⟨.int .i32,1,4,[.int .i32 0],false⟩:=rfl
theorem Zgd:Xt 22=some ⟨.slice 77,1,24,[.slice none 0 0],false⟩:=rfl
theorem Zzi:Xt 23=some ⟨.slice 25,1,24,[.slice none 0 0],false⟩:=rfl
theorem Z9s:Xt 24=some ⟨.struct [(0,3),(1,22),(2,23)],3,56,[.int .i64 0,.slice none 0 0,.slice none 0 0],false⟩:=rfl
theorem Zcc:Xt 25=some ⟨.struct [(0,3),(1,22),(2,23)],3,56,[.int .i64 0,.slice none 0 0,.slice none 0 0],false⟩:=rfl
theorem Z9t:Xt 26=some ⟨.slice 84,1,24,[.slice none 0 0],false⟩:=rfl
theorem Z9u:Xt 27=some ⟨.slice 86,1,24,[.slice none 0 0],false⟩:=rfl
theorem Z9v:Xt 28=some ⟨.slice 89,1,24,[.slice none 0 0],false⟩:=rfl
theorem Z9w:Xt 29=some ⟨.struct [(0,3),(1,25),(4,25),(7,26),(8,27),(9,3),(10,28)],11,200,[.int .i64 0,.int .i64 0,.slice none 0 0,.slice none 0 0,.int .i64 0,.slice none 0 0,.slice none 0 0,.slice none 0 0,.slice none 0 0,.int .i64 0,.slice none 0 0],false⟩:=rfl
theorem Zn2:Xt 30=some ⟨.struct [(0,3),(1,25),(4,25),(7,26),(8,27),(9,3),(10,28)],11,200,[.int .i64 0,.int .i64 0,.slice none 0 0,.slice none 0 0,.int .i64 0,.slice none 0 0,.slice none 0 0,.slice none 0 0,.slice none 0 0,.int .i64 0,.slice none 0 0],false⟩:=rfl
theorem Z9x:Xt 44=some ⟨.int .i64,1,8,[.int .i64 0],false⟩:=rfl
theorem Z9y:Xt 53=some ⟨.slice 22,1,24,[.slice none 0 0],false⟩:=rfl
theorem Z9z:Xt 54=some ⟨.struct [(0,3),(1,3),(2,3),(3,3)],4,32,[.int .i64 0,.int .i64 0,.int .i64 0,.int .i64 0],false⟩:=rfl
theorem Z90:Xt 55=some ⟨.struct [(0,3),(1,3),(2,3),(3,3)],4,32,[.int .i64 0,.int .i64 0,.int .i64 0,.int .i64 0],true⟩:=rfl
theorem Z91:Xt 60=some ⟨.ptr 147,1,8,[.pointer none],false⟩:=rfl
theorem Z92:Xt 61=some ⟨.struct [(0,60),(1,3),(2,3),(3,3),(4,3),(5,3),(6,3),(7,3),(8,3)],9,72,[.pointer none,.int .i64 0,.int .i64 0,.int .i64 0,.int .i64 0,.int .i64 0,.int .i64 0,.int .i64 0,.int .i64 0],false⟩:=rfl
theorem Z93:Xt 62=some ⟨.struct [(0,60),(1,3),(2,3),(3,3),(4,3),(5,3),(6,3),(7,3),(8,3)],9,72,[.pointer none,.int .i64 0,.int .i64 0,.int .i64 0,.int .i64 0,.int .i64 0,.int .i64 0,.int .i64 0,.int .i64 0],false⟩:=rfl
theorem Za6:Xt 77=some ⟨.int .u64,1,8,[.int .u64 0],false⟩:=rfl
theorem Z94:Xt 81=some ⟨.int .u64,1,8,[.int .u64 0],false⟩:=rfl
theorem Z95:Xt 83=some ⟨.struct [(0,3),(1,5),(2,77),(3,77)],4,32,[.int .i64 0,.int .u8 0,.int .u64 0,.int .u64 0],false⟩:=rfl
theorem Zn3:Xt 84=some ⟨.struct [(0,3),(1,5),(2,77),(3,77)],4,32,[.int .i64 0,.int .u8 0,.int .u64 0,.int .u64 0],true⟩:=rfl
theorem Z96:Xt 85=some ⟨.struct [(0,3),(1,30)],12,208,[.int .i64 0,.int .i64 0,.int .i64 0,.slice none 0 0,.slice none 0 0,.int .i64 0,.slice none 0 0,.slice none 0 0,.slice none 0 0,.slice none 0 0,.int .i64 0,.slice none 0 0],false⟩:=rfl
theorem Zh6:Xt 86=some ⟨.struct [(0,3),(1,30)],12,208,[.int .i64 0,.int .i64 0,.int .i64 0,.slice none 0 0,.slice none 0 0,.int .i64 0,.slice none 0 0,.slice none 0 0,.slice none 0 0,.slice none 0 0,.int .i64 0,.slice none 0 0],false⟩:=rfl
theorem Z97:Xt 88=some ⟨.struct [(0,3),(1,3),(2,23),(3,30)],14,240,[.int .i64 0,.int .i64 0,.slice none 0 0,.int .i64 0,.int .i64 0,.slice none 0 0,.slice none 0 0,.int .i64 0,.slice none 0 0,.slice none 0 0,.slice none 0 0,.slice none 0 0,.int .i64 0,.slice none 0 0],false⟩:=rfl
theorem Zlg:Xt 89=some ⟨.struct [(0,3),(1,3),(2,23),(3,30)],14,240,[.int .i64 0,.int .i64 0,.slice none 0 0,.int .i64 0,.int .i64 0,.slice none 0 0,.slice none 0 0,.int .i64 0,.slice none 0 0,.slice none 0 0,.slice none 0 0,.slice none 0 0,.int .i64 0,.slice none 0 0],false⟩:=rfl
theorem Z1m:Xt 106=some ⟨.struct [(0,3),(1,3),(2,3),(3,3),(4,3),(5,3),(6,77)],7,56,[.int .i64 0,.int .i64 0,.int .i64 0,.int .i64 0,.int .i64 0,.int .i64 0,.int .u64 0],false⟩:=rfl
theorem Z1n:Xt 107=some ⟨.struct [(0,3),(1,3),(2,3),(3,3),(4,3),(5,3),(6,77)],7,56,[.int .i64 0,.int .i64 0,.int .i64 0,.int .i64 0,.int .i64 0,.int .i64 0,.int .u64 0],true⟩:=rfl
theorem Z1o:Xt 111=some ⟨.struct [(0,3),(1,3)],2,16,[.int .i64 0,.int .i64 0],false⟩:=rfl
theorem Z1p:Xt 112=some ⟨.struct [(0,3),(1,3)],2,16,[.int .i64 0,.int .i64 0],true⟩:=rfl
theorem Z1q:Xt 116=some ⟨.ptr 120,1,8,[.pointer none],false⟩:=rfl
theorem Z1r:Xt 117=some ⟨.ptr 124,1,8,[.pointer none],false⟩:=rfl
theorem Z1s:Xt 119=some ⟨.struct [(0,117),(1,4)],2,16,[.pointer none,.bool false],false⟩:=rfl
theorem Z1t:Xt 120=some ⟨.struct [(0,117),(1,4)],2,16,[.pointer none,.bool false],false⟩:=rfl
theorem Z1u:Xt 123=some ⟨.struct [(0,53),(1,3),(2,3),(3,3)],4,48,[.slice none 0 0,.int .i64 0,.int .i64 0,.int .i64 0],false⟩:=rfl
theorem Z1v:Xt 124=some ⟨.struct [(0,53),(1,3),(2,3),(3,3)],4,48,[.slice none 0 0,.int .i64 0,.int .i64 0,.int .i64 0],false⟩:=rfl
theorem Z1w:Xt 125=some ⟨.struct [(0,4),(1,3)],2,16,[.bool false,.int .i64 0],false⟩:=rfl
theorem Z1x:Xt 126=some ⟨.struct [(0,4),(1,3)],2,16,[.bool false,.int .i64 0],true⟩:=rfl
theorem Z1y:Xt 139=some ⟨.struct [(0,22),(1,3)],2,32,[.slice none 0 0,.int .i64 0],false⟩:=rfl
theorem Z1z:Xt 140=some ⟨.struct [(0,22),(1,3)],2,32,[.slice none 0 0,.int .i64 0],false⟩:=rfl
theorem Z10:Xt 142=some ⟨.struct [(0,3)],1,8,[.int .i64 0],false⟩:=rfl
theorem Z11:Xt 143=some ⟨.struct [(0,3)],1,8,[.int .i64 0],true⟩:=rfl
theorem Z12:Xt 146=some ⟨.struct [(0,53),(1,3),(2,3)],3,40,[.slice none 0 0,.int .i64 0,.int .i64 0],false⟩:=rfl
theorem Z13:Xt 147=some ⟨.struct [(0,53),(1,3),(2,3)],3,40,[.slice none 0 0,.int .i64 0,.int .i64 0],false⟩:=rfl
theorem Z14:Xt 154=some ⟨.struct [(0,3),(1,3),(2,3),(3,3),(4,3),(5,3),(6,3),(7,4)],8,64,[.int .i64 0,.int .i64 0,.int .i64 0,.int .i64 0,.int .i64 0,.int .i64 0,.int .i64 0,.bool false],false⟩:=rfl
theorem Z15:Xt 155=some ⟨.struct [(0,3),(1,3),(2,3),(3,3),(4,3),(5,3),(6,3),(7,4)],8,64,[.int .i64 0,.int .i64 0,.int .i64 0,.int .i64 0,.int .i64 0,.int .i64 0,.int .i64 0,.bool false],true⟩:=rfl
theorem Z16:Xt 156=some ⟨.struct [(0,155),(8,3),(9,3)],10,80,[.int .i64 0,.int .i64 0,.int .i64 0,.int .i64 0,.int .i64 0,.int .i64 0,.int .i64 0,.bool false,.int .i64 0,.int .i64 0],false⟩:=rfl
theorem Z17:Xt 157=some ⟨.struct [(0,155),(8,3),(9,3)],10,80,[.int .i64 0,.int .i64 0,.int .i64 0,.int .i64 0,.int .i64 0,.int .i64 0,.int .i64 0,.bool false,.int .i64 0,.int .i64 0],true⟩:=rfl
theorem Z18:Xt 164=some ⟨.ptr 112,1,8,[.pointer none],false⟩:=rfl
theorem Zta:Xt 185=some ⟨.arr 8 5,8,8,[.int .u8 0,.int .u8 0,.int .u8 0,.int .u8 0,.int .u8 0,.int .u8 0,.int .u8 0,.int .u8 0],true⟩:=rfl
theorem Z19:Xt 189=some ⟨.slice 5,1,24,[.slice none 0 0],false⟩:=rfl
theorem Z2a:Xt 190=some ⟨.ptr 140,1,8,[.pointer none],false⟩:=rfl
theorem Z2b:Xt 191=some ⟨.struct [(0,3),(1,3),(2,3),(3,3),(4,3),(5,3),(6,3),(7,4)],8,64,[.int .i64 0,.int .i64 0,.int .i64 0,.int .i64 0,.int .i64 0,.int .i64 0,.int .i64 0,.bool false],true⟩:=rfl
theorem Z2c:Xt 197=some ⟨.ptr 143,1,8,[.pointer none],false⟩:=rfl
theorem Z2d:Xt 199=some ⟨.struct [(0,28),(1,3),(2,23),(3,23)],4,80,[.slice none 0 0,.int .i64 0,.slice none 0 0,.slice none 0 0],false⟩:=rfl
theorem Z2e:Xt 200=some ⟨.struct [(0,28),(1,3),(2,23),(3,23)],4,80,[.slice none 0 0,.int .i64 0,.slice none 0 0,.slice none 0 0],false⟩:=rfl
theorem Z2f:Xt 203=some ⟨.ptr 23,1,8,[.pointer none],false⟩:=rfl
theorem Z2g:Xt 207=some ⟨.struct [(0,3),(1,3),(2,23),(3,23),(4,28)],5,88,[.int .i64 0,.int .i64 0,.slice none 0 0,.slice none 0 0,.slice none 0 0],false⟩:=rfl
theorem Z2h:Xt 208=some ⟨.struct [(0,3),(1,3),(2,23),(3,23),(4,28)],5,88,[.int .i64 0,.int .i64 0,.slice none 0 0,.slice none 0 0,.slice none 0 0],false⟩:=rfl
theorem Z2i:Xt 209=some ⟨.slice 212,1,24,[.slice none 0 0],false⟩:=rfl
theorem Z2j:Xt 211=some ⟨.struct [(0,3),(1,3)],2,16,[.int .i64 0,.int .i64 0],false⟩:=rfl
theorem Z2k:Xt 212=some ⟨.struct [(0,3),(1,3)],2,16,[.int .i64 0,.int .i64 0],true⟩:=rfl
theorem Z2l:Xt 224=some ⟨.struct [(0,62),(9,62),(18,3),(19,3),(20,3),(21,3),(22,3),(23,28)],24,208,[.pointer none,.int .i64 0,.int .i64 0,.int .i64 0,.int .i64 0,.int .i64 0,.int .i64 0,.int .i64 0,.int .i64 0,.pointer none,.int .i64 0,.int .i64 0,.int .i64 0,.int .i64 0,.int .i64 0,.int .i64 0,.int .i64 0,.int .i64 0,.int .i64 0,.int .i64 0,.int .i64 0,.int .i64 0,.int .i64 0,.slice none 0 0],false⟩:=rfl
theorem Z2m:Xt 225=some ⟨.struct [(0,62),(9,62),(18,3),(19,3),(20,3),(21,3),(22,3),(23,28)],24,208,[.pointer none,.int .i64 0,.int .i64 0,.int .i64 0,.int .i64 0,.int .i64 0,.int .i64 0,.int .i64 0,.int .i64 0,.pointer none,.int .i64 0,.int .i64 0,.int .i64 0,.int .i64 0,.int .i64 0,.int .i64 0,.int .i64 0,.int .i64 0,.int .i64 0,.int .i64 0,.int .i64 0,.int .i64 0,.int .i64 0,.slice none 0 0],false⟩:=rfl
theorem Z2n:Xt 227=some ⟨.struct [(0,191),(8,3),(9,3)],10,80,[.int .i64 0,.int .i64 0,.int .i64 0,.int .i64 0,.int .i64 0,.int .i64 0,.int .i64 0,.bool false,.int .i64 0,.int .i64 0],false⟩:=rfl
theorem Z2o:Xt 228=some ⟨.struct [(0,191),(8,3),(9,3)],10,80,[.int .i64 0,.int .i64 0,.int .i64 0,.int .i64 0,.int .i64 0,.int .i64 0,.int .i64 0,.bool false,.int .i64 0,.int .i64 0],true⟩:=rfl
theorem Z2p:Xt 236=some ⟨.slice 3,1,24,[.slice none 0 0],false⟩:=rfl
theorem Z2q:Xt 239=some ⟨.slice 242,1,24,[.slice none 0 0],false⟩:=rfl
theorem Z2r:Xt 247=some ⟨.struct [(0,3)],1,8,[.int .i64 0],true⟩:=rfl
theorem Z2s:Xt 255=some ⟨.struct [(0,62),(9,3),(10,23)],11,104,[.pointer none,.int .i64 0,.int .i64 0,.int .i64 0,.int .i64 0,.int .i64 0,.int .i64 0,.int .i64 0,.int .i64 0,.int .i64 0,.slice none 0 0],false⟩:=rfl
theorem Z2t:Xt 257=some ⟨.slice 126,1,24,[.slice none 0 0],false⟩:=rfl
theorem Z2u:Xt 275=some ⟨.ptr 208,1,8,[.pointer none],false⟩:=rfl
theorem Z2v:Xt 284=some ⟨.ptr 330,1,8,[.pointer none],false⟩:=rfl
theorem Z2w:Xt 299=some ⟨.struct [(0,3),(1,3)],2,16,[.int .i64 0,.int .i64 0],false⟩:=rfl
theorem Z2x:Xt 301=some ⟨.ptr 247,1,8,[.pointer none],false⟩:=rfl
theorem Z2y:Xt 304=some ⟨.ptr 255,1,8,[.pointer none],false⟩:=rfl
theorem Z2z:Xt 309=some ⟨.arr 7 3,7,56,[.int .i64 0,.int .i64 0,.int .i64 0,.int .i64 0,.int .i64 0,.int .i64 0,.int .i64 0],true⟩:=rfl
theorem Z20:Xt 310=some ⟨.int .u32,1,4,[.int .u32 0],false⟩:=rfl
theorem Z21:Xt 321=some ⟨.arr 3 3,3,24,[.int .i64 0,.int .i64 0,.int .i64 0],true⟩:=rfl
theorem Z22:Xt 328=some ⟨.slice 334,1,24,[.slice none 0 0],false⟩:=rfl
theorem Z23:Xt 346=some ⟨.arr 6 3,6,48,[.int .i64 0,.int .i64 0,.int .i64 0,.int .i64 0,.int .i64 0,.int .i64 0],true⟩:=rfl
theorem Z24:Xt 358=some ⟨.slice 364,1,24,[.slice none 0 0],false⟩:=rfl
theorem Z25:Xt 362=some ⟨.ptr 359,1,8,[.pointer none],false⟩:=rfl
theorem Z26:Xt 363=some ⟨.struct [(0,325),(2,3)],3,24,[.int .i64 0,.int .i64 0,.int .i64 0],false⟩:=rfl
theorem Z28:Z8 Xt 2=some (.int .i64):=rfl
theorem Z29:Z8 Xt 3=some (.int .i64):=rfl
theorem Z3a:Z8 Xt 4=some (.bool):=rfl
theorem Z3b:Z8 Xt 5=some (.int .u8):=rfl
theorem Z3c:Z8 Xt 6=some (.int .u8):=rfl
theorem Z3d:Z8 Xt 7=some (.struct [(0,2),(1,3),(2,4),(3,6)]):=rfl
theorem Z3e:Z8 Xt 8=some (.struct [(0,2),(1,3),(2,4),(3,6)]):=rfl
theorem Z3f:Z8 Xt 9=some (.str):=rfl
theorem Zvm:Z8 Xt 10=some (.str):=rfl
theorem Zvn:Z8 Xt 11=some (.str):=rfl
theorem Zvo:Z8 Xt 12=some (.int .u64):=rfl
theorem Zvp:Z8 Xt 13=some (.struct [(0,9),(1,12)]):=rfl
theorem Zvq:Z8 Xt 14=some (.struct [(0,9),(1,12)]):=rfl
theorem Zvr:Z8 Xt 15=some (.ptr 399):=rfl
theorem Zvs:Z8 Xt 16=some (.ptr 402):=rfl
theorem Zvt:Z8 Xt 17=some (.ptr 410):=rfl
theorem Zvu:Z8 Xt 18=some (.struct [(0,17)]):=rfl
theorem Zvv:Z8 Xt 19=some (.struct [(0,17)]):=rfl
theorem Zvw:Z8 Xt 21=some (.int .i32):=rfl
theorem Zg0:Z8 Xt 22=some (.slice 77):=rfl
theorem Zk8:Z8 Xt 23=some (.slice 25):=rfl
theorem Zvx:Z8 Xt 24=some (.struct [(0,3),(1,22),(2,23)]):=rfl
theorem Zvy:Z8 Xt 25=some (.struct [(0,3),(1,22),(2,23)]):=rfl
theorem Zvz:Z8 Xt 26=some (.slice 84):=rfl
theorem Zv0:Z8 Xt 27=some (.slice 86):=rfl
theorem Zv1:Z8 Xt 28=some (.slice 89):=rfl
theorem Zv2:Z8 Xt 29=some (.struct [(0,3),(1,25),(4,25),(7,26),(8,27),(9,3),(10,28)]):=rfl
theorem Zv3:Z8 Xt 30=some (.struct [(0,3),(1,25),(4,25),(7,26),(8,27),(9,3),(10,28)]):=rfl
theorem Zv4:Z8 Xt 44=some (.int .i64):=rfl
theorem Zv5:Z8 Xt 53=some (.slice 22):=rfl
theorem Zv6:Z8 Xt 54=some (.struct [(0,3),(1,3),(2,3),(3,3)]):=rfl
theorem Zv7:Z8 Xt 55=some (.struct [(0,3),(1,3),(2,3),(3,3)]):=rfl
theorem Zr8:Z8 Xt 60=some (.ptr 147):=rfl
theorem Zv8:Z8 Xt 61=some (.struct [(0,60),(1,3),(2,3),(3,3),(4,3),(5,3),(6,3),(7,3),(8,3)]):=rfl
theorem Zv9:Z8 Xt 62=some (.struct [(0,60),(1,3),(2,3),(3,3),(4,3),(5,3),(6,3),(7,3),(8,3)]):=rfl
theorem Zwa:Z8 Xt 77=some (.int .u64):=rfl
theorem Zwb:Z8 Xt 81=some (.int .u64):=rfl
theorem Zwc:Z8 Xt 83=some (.struct [(0,3),(1,5),(2,77),(3,77)]):=rfl
theorem Zwd:Z8 Xt 84=some (.struct [(0,3),(1,5),(2,77),(3,77)]):=rfl
theorem Zwe:Z8 Xt 85=some (.struct [(0,3),(1,30)]):=rfl
theorem Zwf:Z8 Xt 86=some (.struct [(0,3),(1,30)]):=rfl
theorem Zwg:Z8 Xt 88=some (.struct [(0,3),(1,3),(2,23),(3,30)]):=rfl
theorem Zwh:Z8 Xt 89=some (.struct [(0,3),(1,3),(2,23),(3,30)]):=rfl
theorem Zqn:Z8 Xt 106=some (.struct [(0,3),(1,3),(2,3),(3,3),(4,3),(5,3),(6,77)]):=rfl
theorem Zqo:Z8 Xt 107=some (.struct [(0,3),(1,3),(2,3),(3,3),(4,3),(5,3),(6,77)]):=rfl
theorem Zqp:Z8 Xt 111=some (.struct [(0,3),(1,3)]):=rfl
theorem Zqq:Z8 Xt 112=some (.struct [(0,3),(1,3)]):=rfl
theorem Zqr:Z8 Xt 116=some (.ptr 120):=rfl
theorem Zqs:Z8 Xt 117=some (.ptr 124):=rfl
theorem Zqt:Z8 Xt 119=some (.struct [(0,117),(1,4)]):=rfl
theorem Zqu:Z8 Xt 120=some (.struct [(0,117),(1,4)]):=rfl
theorem Zqv:Z8 Xt 123=some (.struct [(0,53),(1,3),(2,3),(3,3)]):=rfl
theorem Zqw:Z8 Xt 124=some (.struct [(0,53),(1,3),(2,3),(3,3)]):=rfl
theorem Zqx:Z8 Xt 125=some (.struct [(0,4),(1,3)]):=rfl
theorem Zqy:Z8 Xt 126=some (.struct [(0,4),(1,3)]):=rfl
theorem Zqz:Z8 Xt 139=some (.struct [(0,22),(1,3)]):=rfl
theorem Zq0:Z8 Xt 140=some (.struct [(0,22),(1,3)]):=rfl
theorem Zq1:Z8 Xt 142=some (.struct [(0,3)]):=rfl
theorem Zq2:Z8 Xt 143=some (.struct [(0,3)]):=rfl
theorem Zq3:Z8 Xt 146=some (.struct [(0,53),(1,3),(2,3)]):=rfl
theorem Zq4:Z8 Xt 147=some (.struct [(0,53),(1,3),(2,3)]):=rfl
theorem Zq5:Z8 Xt 154=some (.struct [(0,3),(1,3),(2,3),(3,3),(4,3),(5,3),(6,3),(7,4)]):=rfl
theorem Zq6:Z8 Xt 155=some (.struct [(0,3),(1,3),(2,3),(3,3),(4,3),(5,3),(6,3),(7,4)]):=rfl
theorem Zq7:Z8 Xt 156=some (.struct [(0,155),(8,3),(9,3)]):=rfl
theorem Zq8:Z8 Xt 157=some (.struct [(0,155),(8,3),(9,3)]):=rfl
theorem Zq9:Z8 Xt 164=some (.ptr 112):=rfl
theorem Zmn:Z8 Xt 185=some (.arr 8 5):=rfl
theorem Zra:Z8 Xt 189=some (.slice 5):=rfl
theorem Zrb:Z8 Xt 190=some (.ptr 140):=rfl
theorem Zrc:Z8 Xt 191=some (.struct [(0,3),(1,3),(2,3),(3,3),(4,3),(5,3),(6,3),(7,4)]):=rfl
theorem Zrd:Z8 Xt 197=some (.ptr 143):=rfl
theorem Zre:Z8 Xt 199=some (.struct [(0,28),(1,3),(2,23),(3,23)]):=rfl
theorem Zrf:Z8 Xt 200=some (.struct [(0,28),(1,3),(2,23),(3,23)]):=rfl
theorem Zrg:Z8 Xt 203=some (.ptr 23):=rfl
theorem Zrh:Z8 Xt 207=some (.struct [(0,3),(1,3),(2,23),(3,23),(4,28)]):=rfl
theorem Zri:Z8 Xt 208=some (.struct [(0,3),(1,3),(2,23),(3,23),(4,28)]):=rfl
theorem Zrj:Z8 Xt 209=some (.slice 212):=rfl
theorem Zrk:Z8 Xt 211=some (.struct [(0,3),(1,3)]):=rfl
theorem Zrl:Z8 Xt 212=some (.struct [(0,3),(1,3)]):=rfl
theorem Zrm:Z8 Xt 224=some (.struct [(0,62),(9,62),(18,3),(19,3),(20,3),(21,3),(22,3),(23,28)]):=rfl
theorem Zrn:Z8 Xt 225=some (.struct [(0,62),(9,62),(18,3),(19,3),(20,3),(21,3),(22,3),(23,28)]):=rfl
theorem Zro:Z8 Xt 227=some (.struct [(0,191),(8,3),(9,3)]):=rfl
theorem Zrp:Z8 Xt 228=some (.struct [(0,191),(8,3),(9,3)]):=rfl
theorem Zrq:Z8 Xt 236=some (.slice 3):=rfl
theorem Zrr:Z8 Xt 239=some (.slice 242):=rfl
theorem Zrs:Z8 Xt 247=some (.struct [(0,3)]):=rfl
theorem Zrt:Z8 Xt 255=some (.struct [(0,62),(9,3),(10,23)]):=rfl
theorem Zru:Z8 Xt 257=some (.slice 126):=rfl
theorem Zrv:Z8 Xt 275=some (.ptr 208):=rfl
theorem Zrw:Z8 Xt 284=some (.ptr 330):=rfl
theorem Zrx:Z8 Xt 299=some (.struct [(0,3),(1,3)]):=rfl
theorem Zry:Z8 Xt 301=some (.ptr 247):=rfl
theorem Zrz:Z8 Xt 304=some (.ptr 255):=rfl
theorem Zr0:Z8 Xt 309=some (.arr 7 3):=rfl
theorem Zr1:Z8 Xt 310=some (.int .u32):=rfl
theorem Zr2:Z8 Xt 321=some (.arr 3 3):=rfl
theorem Zr3:Z8 Xt 328=some (.slice 334):=rfl
theorem Zr4:Z8 Xt 346=some (.arr 6 3):=rfl
theorem Zr5:Z8 Xt 358=some (.slice 364):=rfl
theorem Zr6:Z8 Xt 362=some (.ptr 359):=rfl
theorem Zr7:Z8 Xt 363=some (.struct [(0,325),(2,3)]):=rfl
end Go.Proofs.YtmlcnhambfkjaaaGreat
