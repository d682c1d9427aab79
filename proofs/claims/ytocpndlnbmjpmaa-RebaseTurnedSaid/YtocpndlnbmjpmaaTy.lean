/- The types of this seat's program, as its dump has them, in the ghost memory's words; no condition. -/
import Derived.Test.YtocpndlnbmjpmaaRows
import Derived.Test.YtocpndlnbmjpmaaG13
namespace Go.Proofs.Ytocpndlnbmjpmaa
open Go.RowKit
set_option linter.unusedVariables false
set_option linter.unusedSimpArgs false
theorem TyOk.of {P:Program} {t:TypeId} (k:TK) (size bytes:Nat) (zero:List Value) (z:Value) (h:(P.info? t).map (fun i=>(i.zero,i.size,i.bytes))=some (some z,size,bytes)) (hz:z.cells.toList=zero) (hu:k.ok P t) (hl:zero.length=size) (h1:zero.all Value.oneCell'=true) (eq:Bool) (he:eq=true→EqTy P t):TyOk P t ⟨k,size,bytes,zero,eq⟩:=by
 refine ⟨?_,hu,hl,fun v hv=>List.all_eq_true.1 h1 v hv,he⟩
 cases hi:P.info? t with
 | none=>rw [hi] at h;cases h
 | some i =>
  rw [hi] at h
  simp only [Option.map_some,Option.some.injEq,Prod.mk.injEq] at h
  exact ⟨i,z,rfl,h.2.1,h.2.2,h.1,hz⟩
theorem TyOk.g {P:Program} {t:TypeId} {k:TK} {size bytes:Nat} {zero:List Value} {eq:Bool} (h:(P.info? t).map (fun i=>(i.zero,i.size,i.bytes))=some (some (.agg zero.toArray),size,bytes)) (hu:k.ok P t) (he:eq=true→EqTy P t:=by intro h;cases h) (hz:(Value.agg zero.toArray).cells.toList=zero:=by rfl) (hl:zero.length=size:=by rfl) (h1:zero.all Value.oneCell'=true:=by rfl):TyOk P t ⟨k,size,bytes,zero,eq⟩ := .of k size bytes zero _ h hz hu hl h1 eq he
theorem TyOk.s {P:Program} {t:TypeId} {k:TK} {size bytes:Nat} {z:Value} {eq:Bool} (h:(P.info? t).map (fun i=>(i.zero,i.size,i.bytes))=some (some z,size,bytes)) (hu:k.ok P t) (he:eq=true→EqTy P t:=by intro h;cases h) (hz:z.cells.toList=[z]:=by rfl) (hl:[z].length=size:=by rfl) (h1:[z].all Value.oneCell'=true:=by rfl):TyOk P t ⟨k,size,bytes,[z],eq⟩ := .of k size bytes [z] _ h hz hu hl h1 eq he
theorem EqTy.m {P:Program} {t:TypeId} (h:EqTy P t):true=true→EqTy P t:=fun _=>h
theorem Zk6 {α:Type} {t:Nat} {i:α}:∀ (l:List (Nat×α)),l.lookup t=some i→(t,i)∈l
 | [],h=>by simp at h
 | (a,b)::l,h=>by
  rw [List.lookup_cons] at h
  split at h
  ·rename_i he
   injection h with h
   have:t=a:=by simpa using he
   subst h this
   exact .head _
  exact .tail _ (Zk6 l h)
def tE2:TyI:=⟨.int .i64,1,8,[.int .i64 0],false⟩
theorem ty2:TyOk Try.prog 2 tE2 := .s (by kernel_rfl) Try.underlying2
theorem ty3:TyOk Try.prog 3 tE2 := .s (by kernel_rfl) Try.underlying3
def tE4:TyI:=⟨.bool,1,1,[.bool false],false⟩
theorem ty4:TyOk Try.prog 4 tE4 := .s (by kernel_rfl) Try.underlying4
def tE5:TyI:=⟨.int .u8,1,1,[.int .u8 0],false⟩
theorem ty5:TyOk Try.prog 5 tE5 := .s (by kernel_rfl) Try.underlying5
theorem ty6:TyOk Try.prog 6 tE5 := .s (by kernel_rfl) Try.underlying6
def tE7:TyI:=⟨.struct [(0,2),(1,3),(2,4),(3,6)],4,24,[.int .i64 0,.int .i64 0,.bool false,.int .u8 0],false⟩
theorem ty7:TyOk Try.prog 7 tE7 := .g (by kernel_rfl) ⟨_,Try.underlying7,rfl⟩
theorem ty8:TyOk Try.prog 8 tE7 := .g (by kernel_rfl) ⟨_,Try.underlying8,rfl⟩
def tE9:TyI:=⟨.str,1,16,[.string ByteArray.empty],false⟩
theorem ty9:TyOk Try.prog 9 tE9 := .s (by kernel_rfl) Try.underlying9
theorem Yeb:TyOk Try.prog 10 tE9 := .s (by kernel_rfl) Try.underlying10
theorem Yec:TyOk Try.prog 11 tE9 := .s (by kernel_rfl) Try.underlying11
def Z3g:TyI:=⟨.int .u64,1,8,[.int .u64 0],false⟩
theorem Yed:TyOk Try.prog 12 Z3g := .s (by kernel_rfl) Try.underlying12
def Z3h:TyI:=⟨.struct [(0,9),(1,12)],2,24,[.string ByteArray.empty,.int .u64 0],false⟩
theorem Yee:TyOk Try.prog 13 Z3h := .g (by kernel_rfl) ⟨_,Try.underlying13,rfl⟩
theorem Yef:TyOk Try.prog 14 Z3h := .g (by kernel_rfl) ⟨_,Try.underlying14,rfl⟩
def Ybd:TyI:=⟨.ptr 130,1,8,[.pointer none],false⟩
theorem Yeg:TyOk Try.prog 15 Ybd := .s (by kernel_rfl) Try.underlying15
def Ybe:TyI:=⟨.ptr 133,1,8,[.pointer none],false⟩
theorem Yeh:TyOk Try.prog 16 Ybe := .s (by kernel_rfl) Try.underlying16
def Ybf:TyI:=⟨.ptr 143,1,8,[.pointer none],false⟩
theorem Yei:TyOk Try.prog 17 Ybf := .s (by kernel_rfl) Try.underlying17
def Z3i:TyI:=⟨.struct [(0,17)],1,8,[.pointer none],false⟩
theorem Yej:TyOk Try.prog 18 Z3i := .g (by kernel_rfl) ⟨_,Try.underlying18,rfl⟩
theorem Yek:TyOk Try.prog 19 Z3i := .g (by kernel_rfl) ⟨_,Try.underlying19,rfl⟩
def Zx8:TyI:=⟨.int .i32,1,4,[.int .i32 0],false⟩
theorem Yel:TyOk Try.prog 21 Zx8 := .s (by kernel_rfl) Try.underlying21
def Ybg:TyI:=⟨.slice 39,1,24,[.slice none 0 0],false⟩
theorem Yem:TyOk Try.prog 22 Ybg := .s (by kernel_rfl) Try.underlying22
def Ybh:TyI:=⟨.slice 25,1,24,[.slice none 0 0],false⟩
theorem Yen:TyOk Try.prog 23 Ybh := .s (by kernel_rfl) Try.underlying23
def Z3j:TyI:=⟨.struct [(0,3),(1,22),(2,23)],3,56,[.int .i64 0,.slice none 0 0,.slice none 0 0],false⟩
theorem Yeo:TyOk Try.prog 24 Z3j := .g (by kernel_rfl) ⟨_,Try.underlying24,rfl⟩
theorem Yep:TyOk Try.prog 25 Z3j := .g (by kernel_rfl) ⟨_,Try.underlying25,rfl⟩
def Ybi:TyI:=⟨.slice 48,1,24,[.slice none 0 0],false⟩
theorem Yeq:TyOk Try.prog 26 Ybi := .s (by kernel_rfl) Try.underlying26
def Ybj:TyI:=⟨.slice 50,1,24,[.slice none 0 0],false⟩
theorem Yer:TyOk Try.prog 27 Ybj := .s (by kernel_rfl) Try.underlying27
def Ybk:TyI:=⟨.slice 41,1,24,[.slice none 0 0],false⟩
theorem Yes:TyOk Try.prog 28 Ybk := .s (by kernel_rfl) Try.underlying28
def Z3k:TyI:=⟨.struct [(0,3),(1,25),(4,25),(7,26),(8,27),(9,3),(10,28)],11,200,[.int .i64 0,.int .i64 0,.slice none 0 0,.slice none 0 0,.int .i64 0,.slice none 0 0,.slice none 0 0,.slice none 0 0,.slice none 0 0,.int .i64 0,.slice none 0 0],false⟩
theorem Yet:TyOk Try.prog 29 Z3k := .g (by kernel_rfl) ⟨_,Try.underlying29,rfl⟩
theorem Yeu:TyOk Try.prog 30 Z3k := .g (by kernel_rfl) ⟨_,Try.underlying30,rfl⟩
theorem Yev:TyOk Try.prog 33 tE2 := .s (by kernel_rfl) Try.underlying33
theorem Yew:TyOk Try.prog 39 Z3g := .s (by kernel_rfl) Try.underlying39
def Z3l:TyI:=⟨.struct [(0,3),(1,3),(2,23),(3,30)],14,240,[.int .i64 0,.int .i64 0,.slice none 0 0,.int .i64 0,.int .i64 0,.slice none 0 0,.slice none 0 0,.int .i64 0,.slice none 0 0,.slice none 0 0,.slice none 0 0,.slice none 0 0,.int .i64 0,.slice none 0 0],false⟩
theorem Yex:TyOk Try.prog 40 Z3l := .g (by kernel_rfl) ⟨_,Try.underlying40,rfl⟩
theorem Yey:TyOk Try.prog 41 Z3l := .g (by kernel_rfl) ⟨_,Try.underlying41,rfl⟩
def Ybl:TyI:=⟨.struct [(0,4),(1,4)],2,2,[.bool false,.bool false],false⟩
theorem Yez:TyOk Try.prog 42 Ybl := .g (by kernel_rfl) ⟨_,Try.underlying42,rfl⟩
def Ybm:TyI:=⟨.struct [(0,4),(1,4)],2,2,[.bool false,.bool false],true⟩
theorem Ye0:TyOk Try.prog 43 Ybm := .g (by kernel_rfl) ⟨_,Try.underlying43,rfl⟩ (fun _=>by unfold EqTy;exact ⟨by kernel_rfl,by kernel_rfl,by kernel_rfl⟩)
def Ybn:TyI:=⟨.struct [(0,3),(1,5),(2,39),(3,39)],4,32,[.int .i64 0,.int .u8 0,.int .u64 0,.int .u64 0],false⟩
theorem Ye1:TyOk Try.prog 47 Ybn := .g (by kernel_rfl) ⟨_,Try.underlying47,rfl⟩
def Ybo:TyI:=⟨.struct [(0,3),(1,5),(2,39),(3,39)],4,32,[.int .i64 0,.int .u8 0,.int .u64 0,.int .u64 0],true⟩
theorem Ye2:TyOk Try.prog 48 Ybo := .g (by kernel_rfl) ⟨_,Try.underlying48,rfl⟩ (fun _=>by unfold EqTy;exact ⟨by kernel_rfl,by kernel_rfl,by kernel_rfl⟩)
def Z3m:TyI:=⟨.struct [(0,3),(1,30)],12,208,[.int .i64 0,.int .i64 0,.int .i64 0,.slice none 0 0,.slice none 0 0,.int .i64 0,.slice none 0 0,.slice none 0 0,.slice none 0 0,.slice none 0 0,.int .i64 0,.slice none 0 0],false⟩
theorem Ye3:TyOk Try.prog 49 Z3m := .g (by kernel_rfl) ⟨_,Try.underlying49,rfl⟩
theorem Ye4:TyOk Try.prog 50 Z3m := .g (by kernel_rfl) ⟨_,Try.underlying50,rfl⟩
def Ybp:TyI:=⟨.ptr 43,1,8,[.pointer none],false⟩
theorem Ye5:TyOk Try.prog 61 Ybp := .s (by kernel_rfl) Try.underlying61
def Ybq:TyI:=⟨.ptr 85,1,8,[.pointer none],false⟩
theorem Ye6:TyOk Try.prog 74 Ybq := .s (by kernel_rfl) Try.underlying74
def Ybr:TyI:=⟨.slice 83,1,24,[.slice none 0 0],false⟩
theorem Ye7:TyOk Try.prog 79 Ybr := .s (by kernel_rfl) Try.underlying79
def Z3n:TyI:=⟨.struct [(0,3),(1,41),(15,41)],29,488,[.int .i64 0,.int .i64 0,.int .i64 0,.slice none 0 0,.int .i64 0,.int .i64 0,.slice none 0 0,.slice none 0 0,.int .i64 0,.slice none 0 0,.slice none 0 0,.slice none 0 0,.slice none 0 0,.int .i64 0,.slice none 0 0,.int .i64 0,.int .i64 0,.slice none 0 0,.int .i64 0,.int .i64 0,.slice none 0 0,.slice none 0 0,.int .i64 0,.slice none 0 0,.slice none 0 0,.slice none 0 0,.slice none 0 0,.int .i64 0,.slice none 0 0],false⟩
theorem Ye8:TyOk Try.prog 82 Z3n := .g (by kernel_rfl) ⟨_,Try.underlying82,rfl⟩
theorem Ye9:TyOk Try.prog 83 Z3n := .g (by kernel_rfl) ⟨_,Try.underlying83,rfl⟩
def Z3o:TyI:=⟨.struct [(0,61),(1,30),(12,23)],13,232,[.pointer none,.int .i64 0,.int .i64 0,.slice none 0 0,.slice none 0 0,.int .i64 0,.slice none 0 0,.slice none 0 0,.slice none 0 0,.slice none 0 0,.int .i64 0,.slice none 0 0,.slice none 0 0],false⟩
theorem Yfa:TyOk Try.prog 84 Z3o := .g (by kernel_rfl) ⟨_,Try.underlying84,rfl⟩
theorem Yfb:TyOk Try.prog 85 Z3o := .g (by kernel_rfl) ⟨_,Try.underlying85,rfl⟩
def Z3p:TyI:=⟨.struct [(0,28),(1,3),(2,23),(3,23)],4,80,[.slice none 0 0,.int .i64 0,.slice none 0 0,.slice none 0 0],false⟩
theorem Yfc:TyOk Try.prog 89 Z3p := .g (by kernel_rfl) ⟨_,Try.underlying89,rfl⟩
theorem Yfd:TyOk Try.prog 90 Z3p := .g (by kernel_rfl) ⟨_,Try.underlying90,rfl⟩
def Ybs:TyI:=⟨.ptr 23,1,8,[.pointer none],false⟩
theorem Yfe:TyOk Try.prog 93 Ybs := .s (by kernel_rfl) Try.underlying93
def Ybt:TyI:=⟨.arr 8 5,8,8,[.int .u8 0,.int .u8 0,.int .u8 0,.int .u8 0,.int .u8 0,.int .u8 0,.int .u8 0,.int .u8 0],true⟩
theorem Yff:TyOk Try.prog 96 Ybt := .g (by kernel_rfl) Try.underlying96 (fun _=>by unfold EqTy;exact ⟨by kernel_rfl,by kernel_rfl,by kernel_rfl⟩)
def Z48:TyI:=⟨.slice 5,1,24,[.slice none 0 0],false⟩
theorem Yby:TyOk Try.prog 100 Z48 := .s (by kernel_rfl) Try.underlying100
def Z49:TyI:=⟨.ptr 90,1,8,[.pointer none],false⟩
theorem Ybz:TyOk Try.prog 109 Z49 := .s (by kernel_rfl) Try.underlying109
def Zwa:TyI:=⟨.struct [(0,28),(1,3)],2,32,[.slice none 0 0,.int .i64 0],false⟩
theorem Yb0:TyOk Try.prog 112 Zwa := .g (by kernel_rfl) ⟨_,Try.underlying112,rfl⟩
theorem Yb1:TyOk Try.prog 113 Zwa := .g (by kernel_rfl) ⟨_,Try.underlying113,rfl⟩
def Z5a:TyI:=⟨.ptr 25,1,8,[.pointer none],false⟩
theorem Yb2:TyOk Try.prog 120 Z5a := .s (by kernel_rfl) Try.underlying120
def Zwb:TyI:=⟨.struct [(0,23),(1,23)],2,48,[.slice none 0 0,.slice none 0 0],false⟩
theorem Yb3:TyOk Try.prog 123 Zwb := .g (by kernel_rfl) ⟨_,Try.underlying123,rfl⟩
theorem Yb4:TyOk Try.prog 124 Zwb := .g (by kernel_rfl) ⟨_,Try.underlying124,rfl⟩
def Z5b:TyI:=⟨.ptr 113,1,8,[.pointer none],false⟩
theorem Yb5:TyOk Try.prog 125 Z5b := .s (by kernel_rfl) Try.underlying125
def Z5c:TyI:=⟨.ptr 124,1,8,[.pointer none],false⟩
theorem Yb6:TyOk Try.prog 127 Z5c := .s (by kernel_rfl) Try.underlying127
def Zwc:TyI:=⟨.struct [(0,17),(1,17),(2,17),(3,9)],4,40,[.pointer none,.pointer none,.pointer none,.string ByteArray.empty],false⟩
theorem Yb7:TyOk Try.prog 129 Zwc := .g (by kernel_rfl) ⟨_,Try.underlying129,rfl⟩
theorem Yb8:TyOk Try.prog 130 Zwc := .g (by kernel_rfl) ⟨_,Try.underlying130,rfl⟩
def Z5d:TyI:=⟨.int .u32,1,4,[.int .u32 0],false⟩
theorem Yb9:TyOk Try.prog 135 Z5d := .s (by kernel_rfl) Try.underlying135
theorem Yca:TyOk Try.prog 136 tE5 := .s (by kernel_rfl) Try.underlying136
theorem Ycb:TyOk Try.prog 137 tE5 := .s (by kernel_rfl) Try.underlying137
def Z5e:TyI:=⟨.ptr 5,1,8,[.pointer none],false⟩
theorem Ycc:TyOk Try.prog 139 Z5e := .s (by kernel_rfl) Try.underlying139
theorem Ycd:TyOk Try.prog 140 Zx8 := .s (by kernel_rfl) Try.underlying140
theorem Yce:TyOk Try.prog 141 Zx8 := .s (by kernel_rfl) Try.underlying141
def tabL:List (Nat×TyI):=[(2,tE2),(3,tE2),(4,tE4),(5,tE5),(6,tE5),(7,tE7),(8,tE7),(9,tE9),(10,tE9),(11,tE9),(12,Z3g),(13,Z3h),(14,Z3h),(15,Ybd),(16,Ybe),(17,Ybf),(18,Z3i),(19,Z3i),(21,Zx8),(22,Ybg),(23,Ybh),(24,Z3j),(25,Z3j),(26,Ybi),(27,Ybj),(28,Ybk),(29,Z3k),(30,Z3k),(33,tE2),(39,Z3g),(40,Z3l),(41,Z3l),(42,Ybl),(43,Ybm),(47,Ybn),(48,Ybo),(49,Z3m),(50,Z3m),(61,Ybp),(74,Ybq),(79,Ybr),(82,Z3n),(83,Z3n),(84,Z3o),(85,Z3o),(89,Z3p),(90,Z3p),(93,Ybs),(96,Ybt),(100,Z48),(109,Z49),(112,Zwa),(113,Zwa),(120,Z5a),(123,Zwb),(124,Zwb),(125,Z5b),(127,Z5c),(129,Zwc),(130,Zwc),(135,Z5d),(136,tE5),(137,tE5),(139,Z5e),(140,Zx8),(141,Zx8)]
def Ui:gZ:=fun t=>tabL.lookup t
theorem Yd:Vd Try.prog Ui:=fun t i h=>by
 have hm:=Zk6 _ h
 unfold tabL at hm
 simp only [List.mem_cons,Prod.mk.injEq,List.not_mem_nil,or_false] at hm
 rcases hm with ⟨rfl,rfl⟩ | ⟨rfl,rfl⟩ | ⟨rfl,rfl⟩ | ⟨rfl,rfl⟩ | ⟨rfl,rfl⟩ | ⟨rfl,rfl⟩ | ⟨rfl,rfl⟩ | ⟨rfl,rfl⟩ | ⟨rfl,rfl⟩ | ⟨rfl,rfl⟩ | ⟨rfl,rfl⟩ | ⟨rfl,rfl⟩ | ⟨rfl,rfl⟩ | ⟨rfl,rfl⟩ | ⟨rfl,rfl⟩ | ⟨rfl,rfl⟩ | ⟨rfl,rfl⟩ | ⟨rfl,rfl⟩ | ⟨rfl,rfl⟩ | ⟨rfl,rfl⟩ | ⟨rfl,rfl⟩ | ⟨rfl,rfl⟩ | ⟨rfl,rfl⟩ | ⟨rfl,rfl⟩ | ⟨rfl,rfl⟩ | ⟨rfl,rfl⟩ | ⟨rfl,rfl⟩ | ⟨rfl,rfl⟩ | ⟨rfl,rfl⟩ | ⟨rfl,rfl⟩ | ⟨rfl,rfl⟩ | ⟨rfl,rfl⟩ | ⟨rfl,rfl⟩ | ⟨rfl,rfl⟩ | ⟨rfl,rfl⟩ | ⟨rfl,rfl⟩ | ⟨rfl,rfl⟩ | ⟨rfl,rfl⟩ | ⟨rfl,rfl⟩ | ⟨rfl,rfl⟩ | ⟨rfl,rfl⟩ | ⟨rfl,rfl⟩ | ⟨rfl,rfl⟩ | ⟨rfl,rfl⟩ | ⟨rfl,rfl⟩ | ⟨rfl,rfl⟩ | ⟨rfl,rfl⟩ | ⟨rfl,rfl⟩ | ⟨rfl,rfl⟩ | ⟨rfl,rfl⟩ | ⟨rfl,rfl⟩ | ⟨rfl,rfl⟩ | ⟨rfl,rfl⟩ | ⟨rfl,rfl⟩ | ⟨rfl,rfl⟩ | ⟨rfl,rfl⟩ | ⟨rfl,rfl⟩ | ⟨rfl,rfl⟩ | ⟨rfl,rfl⟩ | ⟨rfl,rfl⟩ | ⟨rfl,rfl⟩ | ⟨rfl,rfl⟩ | ⟨rfl,rfl⟩ | ⟨rfl,rfl⟩ | ⟨rfl,rfl⟩ | ⟨rfl,rfl⟩
 ·exact ty2
 ·exact ty3
 ·exact ty4
 ·exact ty5
 ·exact ty6
 ·exact ty7
 ·exact ty8
 ·exact ty9
 ·exact Yeb
 ·exact Yec
 ·exact Yed
 ·exact Yee
 ·exact Yef
 ·exact Yeg
 ·exact Yeh
 ·exact Yei
 ·exact Yej
 ·exact Yek
 ·exact Yel
 ·exact Yem
 ·exact Yen
 ·exact Yeo
 ·exact Yep
 ·exact Yeq
 ·exact Yer
 ·exact Yes
 ·exact Yet
 ·exact Yeu
 ·exact Yev
 ·exact Yew
 ·exact Yex
 ·exact Yey
 ·exact Yez
 ·exact Ye0
 ·exact Ye1
 ·exact Ye2
 ·exact Ye3
 ·exact Ye4
 ·exact Ye5
 ·exact Ye6
 ·exact Ye7
 ·exact Ye8
 ·exact Ye9
 ·exact Yfa
 ·exact Yfb
 ·exact Yfc
 ·exact Yfd
 ·exact Yfe
 ·exact Yff
 ·exact Yby
 ·exact Ybz
 ·exact Yb0
 ·exact Yb1
 ·exact Yb2
 ·exact Yb3
 ·exact Yb4
 ·exact Yb5
 ·exact Yb6
 ·exact Yb7
 ·exact Yb8
 ·exact Yb9
 ·exact Yca
 ·exact Ycb
 ·exact Ycc
 ·exact Ycd
 exact Yce
theorem Z1j:Ui 2=some ⟨.int .i64,1,8,[.int .i64 0],false⟩:=rfl
theorem wP:Ui 3=some ⟨.int .i64,1,8,[.int .i64 0],false⟩:=rfl
theorem Z1k:Ui 4=some ⟨.bool,1,1,[.bool false],false⟩:=rfl
theorem Znu:Ui 5=some ⟨.int .u8,1,1,[.int .u8 0],false⟩:=rfl
theorem Z1l:Ui 6=some ⟨.int .u8,1,1,[.int .u8 0],false⟩:=rfl
theorem Z1m:Ui 7=some ⟨.struct [(0,2),(1,3),(2,4),(3,6)],4,24,[.int .i64 0,.int .i64 0,.bool false,.int .u8 0],false⟩:=rfl
theorem Z1n:Ui 8=some ⟨.struct [(0,2),(1,3),(2,4),(3,6)],4,24,[.int .i64 0,.int .i64 0,.bool false,.int .u8 0],false⟩:=rfl
theorem Z1o:Ui 9=some ⟨.str,1,16,[.string ByteArray.empty],false⟩:=rfl
theorem Zsf:Ui 10=some ⟨.str,1,16,[.string ByteArray.empty],false⟩:=rfl
theorem Zsg:Ui 11=some ⟨.str,1,16,[.string ByteArray.empty],false⟩:=rfl
theorem Zsh:Ui 12=some ⟨.int .u64,1,8,[.int .u64 0],false⟩:=rfl
theorem Zsi:Ui 13=some ⟨.struct [(0,9),(1,12)],2,24,[.string ByteArray.empty,.int .u64 0],false⟩:=rfl
theorem Zsj:Ui 14=some ⟨.struct [(0,9),(1,12)],2,24,[.string ByteArray.empty,.int .u64 0],false⟩:=rfl
theorem Zsk:Ui 15=some ⟨.ptr 130,1,8,[.pointer none],false⟩:=rfl
theorem Zsl:Ui 16=some ⟨.ptr 133,1,8,[.pointer none],false⟩:=rfl
theorem Zsm:Ui 17=some ⟨.ptr 143,1,8,[.pointer none],false⟩:=rfl
theorem Zsn:Ui 18=some ⟨.struct [(0,17)],1,8,[.pointer none],false⟩:=rfl
theorem Zso:Ui 19=some ⟨.struct [(0,17)],1,8,[.pointer none],false⟩:=rfl
theorem Zsp:Ui 21=some ⟨.int .i32,1,4,[.int .i32 0],false⟩:=rfl
theorem Zsq:Ui 22=some ⟨.slice 39,1,24,[.slice none 0 0],false⟩:=rfl
theorem Zmq:Ui 23=some ⟨.slice 25,1,24,[.slice none 0 0],false⟩:=rfl
theorem Zsr:Ui 24=some ⟨.struct [(0,3),(1,22),(2,23)],3,56,[.int .i64 0,.slice none 0 0,.slice none 0 0],false⟩:=rfl
theorem mY:Ui 25=some ⟨.struct [(0,3),(1,22),(2,23)],3,56,[.int .i64 0,.slice none 0 0,.slice none 0 0],false⟩:=rfl
theorem Zss:Ui 26=some ⟨.slice 48,1,24,[.slice none 0 0],false⟩:=rfl
theorem Zst:Ui 27=some ⟨.slice 50,1,24,[.slice none 0 0],false⟩:=rfl
theorem Zsu:Ui 28=some ⟨.slice 41,1,24,[.slice none 0 0],false⟩:=rfl
theorem Zsv:Ui 29=some ⟨.struct [(0,3),(1,25),(4,25),(7,26),(8,27),(9,3),(10,28)],11,200,[.int .i64 0,.int .i64 0,.slice none 0 0,.slice none 0 0,.int .i64 0,.slice none 0 0,.slice none 0 0,.slice none 0 0,.slice none 0 0,.int .i64 0,.slice none 0 0],false⟩:=rfl
theorem xP:Ui 30=some ⟨.struct [(0,3),(1,25),(4,25),(7,26),(8,27),(9,3),(10,28)],11,200,[.int .i64 0,.int .i64 0,.slice none 0 0,.slice none 0 0,.int .i64 0,.slice none 0 0,.slice none 0 0,.slice none 0 0,.slice none 0 0,.int .i64 0,.slice none 0 0],false⟩:=rfl
theorem Zsw:Ui 33=some ⟨.int .i64,1,8,[.int .i64 0],false⟩:=rfl
theorem yP:Ui 39=some ⟨.int .u64,1,8,[.int .u64 0],false⟩:=rfl
theorem Zsx:Ui 40=some ⟨.struct [(0,3),(1,3),(2,23),(3,30)],14,240,[.int .i64 0,.int .i64 0,.slice none 0 0,.int .i64 0,.int .i64 0,.slice none 0 0,.slice none 0 0,.int .i64 0,.slice none 0 0,.slice none 0 0,.slice none 0 0,.slice none 0 0,.int .i64 0,.slice none 0 0],false⟩:=rfl
theorem rJ:Ui 41=some ⟨.struct [(0,3),(1,3),(2,23),(3,30)],14,240,[.int .i64 0,.int .i64 0,.slice none 0 0,.int .i64 0,.int .i64 0,.slice none 0 0,.slice none 0 0,.int .i64 0,.slice none 0 0,.slice none 0 0,.slice none 0 0,.slice none 0 0,.int .i64 0,.slice none 0 0],false⟩:=rfl
theorem Zsy:Ui 42=some ⟨.struct [(0,4),(1,4)],2,2,[.bool false,.bool false],false⟩:=rfl
theorem Zsz:Ui 43=some ⟨.struct [(0,4),(1,4)],2,2,[.bool false,.bool false],true⟩:=rfl
theorem Zs0:Ui 47=some ⟨.struct [(0,3),(1,5),(2,39),(3,39)],4,32,[.int .i64 0,.int .u8 0,.int .u64 0,.int .u64 0],false⟩:=rfl
theorem oS:Ui 48=some ⟨.struct [(0,3),(1,5),(2,39),(3,39)],4,32,[.int .i64 0,.int .u8 0,.int .u64 0,.int .u64 0],true⟩:=rfl
theorem Zs1:Ui 49=some ⟨.struct [(0,3),(1,30)],12,208,[.int .i64 0,.int .i64 0,.int .i64 0,.slice none 0 0,.slice none 0 0,.int .i64 0,.slice none 0 0,.slice none 0 0,.slice none 0 0,.slice none 0 0,.int .i64 0,.slice none 0 0],false⟩:=rfl
theorem aV:Ui 50=some ⟨.struct [(0,3),(1,30)],12,208,[.int .i64 0,.int .i64 0,.int .i64 0,.slice none 0 0,.slice none 0 0,.int .i64 0,.slice none 0 0,.slice none 0 0,.slice none 0 0,.slice none 0 0,.int .i64 0,.slice none 0 0],false⟩:=rfl
theorem Zs2:Ui 61=some ⟨.ptr 43,1,8,[.pointer none],false⟩:=rfl
theorem Zs3:Ui 74=some ⟨.ptr 85,1,8,[.pointer none],false⟩:=rfl
theorem Zs4:Ui 79=some ⟨.slice 83,1,24,[.slice none 0 0],false⟩:=rfl
theorem Zs5:Ui 82=some ⟨.struct [(0,3),(1,41),(15,41)],29,488,[.int .i64 0,.int .i64 0,.int .i64 0,.slice none 0 0,.int .i64 0,.int .i64 0,.slice none 0 0,.slice none 0 0,.int .i64 0,.slice none 0 0,.slice none 0 0,.slice none 0 0,.slice none 0 0,.int .i64 0,.slice none 0 0,.int .i64 0,.int .i64 0,.slice none 0 0,.int .i64 0,.int .i64 0,.slice none 0 0,.slice none 0 0,.int .i64 0,.slice none 0 0,.slice none 0 0,.slice none 0 0,.slice none 0 0,.int .i64 0,.slice none 0 0],false⟩:=rfl
theorem Zoo:Ui 83=some ⟨.struct [(0,3),(1,41),(15,41)],29,488,[.int .i64 0,.int .i64 0,.int .i64 0,.slice none 0 0,.int .i64 0,.int .i64 0,.slice none 0 0,.slice none 0 0,.int .i64 0,.slice none 0 0,.slice none 0 0,.slice none 0 0,.slice none 0 0,.int .i64 0,.slice none 0 0,.int .i64 0,.int .i64 0,.slice none 0 0,.int .i64 0,.int .i64 0,.slice none 0 0,.slice none 0 0,.int .i64 0,.slice none 0 0,.slice none 0 0,.slice none 0 0,.slice none 0 0,.int .i64 0,.slice none 0 0],false⟩:=rfl
theorem Zs6:Ui 84=some ⟨.struct [(0,61),(1,30),(12,23)],13,232,[.pointer none,.int .i64 0,.int .i64 0,.slice none 0 0,.slice none 0 0,.int .i64 0,.slice none 0 0,.slice none 0 0,.slice none 0 0,.slice none 0 0,.int .i64 0,.slice none 0 0,.slice none 0 0],false⟩:=rfl
theorem Zs7:Ui 85=some ⟨.struct [(0,61),(1,30),(12,23)],13,232,[.pointer none,.int .i64 0,.int .i64 0,.slice none 0 0,.slice none 0 0,.int .i64 0,.slice none 0 0,.slice none 0 0,.slice none 0 0,.slice none 0 0,.int .i64 0,.slice none 0 0,.slice none 0 0],false⟩:=rfl
theorem Zs8:Ui 89=some ⟨.struct [(0,28),(1,3),(2,23),(3,23)],4,80,[.slice none 0 0,.int .i64 0,.slice none 0 0,.slice none 0 0],false⟩:=rfl
theorem Zs9:Ui 90=some ⟨.struct [(0,28),(1,3),(2,23),(3,23)],4,80,[.slice none 0 0,.int .i64 0,.slice none 0 0,.slice none 0 0],false⟩:=rfl
theorem Zta:Ui 93=some ⟨.ptr 23,1,8,[.pointer none],false⟩:=rfl
theorem Zmr:Ui 96=some ⟨.arr 8 5,8,8,[.int .u8 0,.int .u8 0,.int .u8 0,.int .u8 0,.int .u8 0,.int .u8 0,.int .u8 0,.int .u8 0],true⟩:=rfl
theorem Zl9:Ui 100=some ⟨.slice 5,1,24,[.slice none 0 0],false⟩:=rfl
theorem Zma:Ui 109=some ⟨.ptr 90,1,8,[.pointer none],false⟩:=rfl
theorem Zmb:Ui 112=some ⟨.struct [(0,28),(1,3)],2,32,[.slice none 0 0,.int .i64 0],false⟩:=rfl
theorem Zmc:Ui 113=some ⟨.struct [(0,28),(1,3)],2,32,[.slice none 0 0,.int .i64 0],false⟩:=rfl
theorem Zmd:Ui 120=some ⟨.ptr 25,1,8,[.pointer none],false⟩:=rfl
theorem Zme:Ui 123=some ⟨.struct [(0,23),(1,23)],2,48,[.slice none 0 0,.slice none 0 0],false⟩:=rfl
theorem Zmf:Ui 124=some ⟨.struct [(0,23),(1,23)],2,48,[.slice none 0 0,.slice none 0 0],false⟩:=rfl
theorem Zmg:Ui 125=some ⟨.ptr 113,1,8,[.pointer none],false⟩:=rfl
theorem Zmh:Ui 127=some ⟨.ptr 124,1,8,[.pointer none],false⟩:=rfl
theorem Zmi:Ui 129=some ⟨.struct [(0,17),(1,17),(2,17),(3,9)],4,40,[.pointer none,.pointer none,.pointer none,.string ByteArray.empty],false⟩:=rfl
theorem Zmj:Ui 130=some ⟨.struct [(0,17),(1,17),(2,17),(3,9)],4,40,[.pointer none,.pointer none,.pointer none,.string ByteArray.empty],false⟩:=rfl
theorem Zmk:Ui 135=some ⟨.int .u32,1,4,[.int .u32 0],false⟩:=rfl
theorem Zml:Ui 136=some ⟨.int .u8,1,1,[.int .u8 0],false⟩:=rfl
theorem Zmm:Ui 137=some ⟨.int .u8,1,1,[.int .u8 0],false⟩:=rfl
theorem Zmn:Ui 139=some ⟨.ptr 5,1,8,[.pointer none],false⟩:=rfl
theorem Zmo:Ui 140=some ⟨.int .i32,1,4,[.int .i32 0],false⟩:=rfl
theorem Zmp:Ui 141=some ⟨.int .i32,1,4,[.int .i32 0],false⟩:=rfl
theorem Zms:Xv Ui 2=some (.int .i64):=rfl
theorem Zmt:Xv Ui 3=some (.int .i64):=rfl
theorem Zmu:Xv Ui 4=some (.bool):=rfl
theorem Zmv:Xv Ui 5=some (.int .u8):=rfl
theorem Zmw:Xv Ui 6=some (.int .u8):=rfl
theorem Zmx:Xv Ui 7=some (.struct [(0,2),(1,3),(2,4),(3,6)]):=rfl
theorem Zmy:Xv Ui 8=some (.struct [(0,2),(1,3),(2,4),(3,6)]):=rfl
theorem Zmz:Xv Ui 9=some (.str):=rfl
theorem Zgj:Xv Ui 10=some (.str):=rfl
theorem Zgk:Xv Ui 11=some (.str):=rfl
theorem Zgl:Xv Ui 12=some (.int .u64):=rfl
theorem Zgm:Xv Ui 13=some (.struct [(0,9),(1,12)]):=rfl
theorem Zgn:Xv Ui 14=some (.struct [(0,9),(1,12)]):=rfl
theorem Zgo:Xv Ui 15=some (.ptr 130):=rfl
theorem Zgp:Xv Ui 16=some (.ptr 133):=rfl
theorem Zgq:Xv Ui 17=some (.ptr 143):=rfl
theorem Zgr:Xv Ui 18=some (.struct [(0,17)]):=rfl
theorem Zgs:Xv Ui 19=some (.struct [(0,17)]):=rfl
theorem Zgt:Xv Ui 21=some (.int .i32):=rfl
theorem Zc4:Xv Ui 22=some (.slice 39):=rfl
theorem zA:Xv Ui 23=some (.slice 25):=rfl
theorem Zgu:Xv Ui 24=some (.struct [(0,3),(1,22),(2,23)]):=rfl
theorem Zgv:Xv Ui 25=some (.struct [(0,3),(1,22),(2,23)]):=rfl
theorem Zc5:Xv Ui 26=some (.slice 48):=rfl
theorem jM:Xv Ui 27=some (.slice 50):=rfl
theorem Zc6:Xv Ui 28=some (.slice 41):=rfl
theorem Zgw:Xv Ui 29=some (.struct [(0,3),(1,25),(4,25),(7,26),(8,27),(9,3),(10,28)]):=rfl
theorem Zgx:Xv Ui 30=some (.struct [(0,3),(1,25),(4,25),(7,26),(8,27),(9,3),(10,28)]):=rfl
theorem Zgy:Xv Ui 33=some (.int .i64):=rfl
theorem Zgz:Xv Ui 39=some (.int .u64):=rfl
theorem Zg0:Xv Ui 40=some (.struct [(0,3),(1,3),(2,23),(3,30)]):=rfl
theorem Zg1:Xv Ui 41=some (.struct [(0,3),(1,3),(2,23),(3,30)]):=rfl
theorem Zg2:Xv Ui 42=some (.struct [(0,4),(1,4)]):=rfl
theorem Zg3:Xv Ui 43=some (.struct [(0,4),(1,4)]):=rfl
theorem Zg4:Xv Ui 47=some (.struct [(0,3),(1,5),(2,39),(3,39)]):=rfl
theorem Zg5:Xv Ui 48=some (.struct [(0,3),(1,5),(2,39),(3,39)]):=rfl
theorem Zg6:Xv Ui 49=some (.struct [(0,3),(1,30)]):=rfl
theorem Zg7:Xv Ui 50=some (.struct [(0,3),(1,30)]):=rfl
theorem Zg8:Xv Ui 61=some (.ptr 43):=rfl
theorem Zg9:Xv Ui 74=some (.ptr 85):=rfl
theorem Zha:Xv Ui 79=some (.slice 83):=rfl
theorem Zhb:Xv Ui 82=some (.struct [(0,3),(1,41),(15,41)]):=rfl
theorem Zhc:Xv Ui 83=some (.struct [(0,3),(1,41),(15,41)]):=rfl
theorem Zhd:Xv Ui 84=some (.struct [(0,61),(1,30),(12,23)]):=rfl
theorem Zhe:Xv Ui 85=some (.struct [(0,61),(1,30),(12,23)]):=rfl
theorem Zhf:Xv Ui 89=some (.struct [(0,28),(1,3),(2,23),(3,23)]):=rfl
theorem Zhg:Xv Ui 90=some (.struct [(0,28),(1,3),(2,23),(3,23)]):=rfl
theorem Zhh:Xv Ui 93=some (.ptr 23):=rfl
theorem Zc7:Xv Ui 96=some (.arr 8 5):=rfl
theorem Zb1:Xv Ui 100=some (.slice 5):=rfl
theorem Zb2:Xv Ui 109=some (.ptr 90):=rfl
theorem Zb3:Xv Ui 112=some (.struct [(0,28),(1,3)]):=rfl
theorem Zb4:Xv Ui 113=some (.struct [(0,28),(1,3)]):=rfl
theorem Zb5:Xv Ui 120=some (.ptr 25):=rfl
theorem Zb6:Xv Ui 123=some (.struct [(0,23),(1,23)]):=rfl
theorem Zb7:Xv Ui 124=some (.struct [(0,23),(1,23)]):=rfl
theorem Zb8:Xv Ui 125=some (.ptr 113):=rfl
theorem Zb9:Xv Ui 127=some (.ptr 124):=rfl
theorem Zca:Xv Ui 129=some (.struct [(0,17),(1,17),(2,17),(3,9)]):=rfl
theorem Zcb:Xv Ui 130=some (.struct [(0,17),(1,17),(2,17),(3,9)]):=rfl
theorem Zcc:Xv Ui 135=some (.int .u32):=rfl
theorem Zcd:Xv Ui 136=some (.int .u8):=rfl
theorem Zce:Xv Ui 137=some (.int .u8):=rfl
theorem Zcf:Xv Ui 139=some (.ptr 5):=rfl
theorem Zcg:Xv Ui 140=some (.int .i32):=rfl
theorem Zch:Xv Ui 141=some (.int .i32):=rfl
end Go.Proofs.Ytocpndlnbmjpmaa
