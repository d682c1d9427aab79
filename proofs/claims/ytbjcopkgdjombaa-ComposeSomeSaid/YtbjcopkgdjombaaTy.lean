/- The types of this seat's program, as its dump has them, in the ghost memory's words; no condition. -/
import Derived.Test.YtbjcopkgdjombaaRows
import Derived.Test.YtbjcopkgdjombaaG13
namespace Go.Proofs.Ytbjcopkgdjombaa
open Go.RowKit
set_option linter.unusedVariables false
set_option linter.unusedSimpArgs false
theorem TyOk.of {P:Program} {t:TypeId} (k:TK) (size bytes:Nat) (zero:List Value) (z:Value) (h:(P.info? t).map (fun i=>(i.zero,i.size,i.bytes))=some (some z,size,bytes)) (hz:z.cells.toList=zero) (hu:k.ok P t) (hl:zero.length=size) (h1:zero.all Value.oneCell'=true) (eq:Bool) (he:eq=true→Yh3 P t):TyOk P t ⟨k,size,bytes,zero,eq⟩:=by
 refine ⟨?_,hu,hl,fun v hv=>List.all_eq_true.1 h1 v hv,he⟩
 cases hi:P.info? t with
 | none=>rw [hi] at h;cases h
 | some i =>
  rw [hi] at h
  simp only [Option.map_some,Option.some.injEq,Prod.mk.injEq] at h
  exact ⟨i,z,rfl,h.2.1,h.2.2,h.1,hz⟩
theorem Zxx {α:Type} {t:Nat} {i:α}:∀ (l:List (Nat×α)),l.lookup t=some i→(t,i)∈l
 | [],h=>by simp at h
 | (a,b)::l,h=>by
  rw [List.lookup_cons] at h
  split at h
  ·rename_i he
   injection h with h
   have:t=a:=by simpa using he
   subst h this
   exact .head _
  exact .tail _ (Zxx l h)
theorem ty2:TyOk Try.prog 2 ⟨.int .i64,1,8,[.int .i64 0],false⟩:=TyOk.of _ _ _ _ (.int .i64 0) (by kernel_rfl) rfl (by exact Try.underlying2) rfl rfl false (fun h=>by cases h)
theorem ty3:TyOk Try.prog 3 ⟨.int .i64,1,8,[.int .i64 0],false⟩:=TyOk.of _ _ _ _ (.int .i64 0) (by kernel_rfl) rfl (by exact Try.underlying3) rfl rfl false (fun h=>by cases h)
theorem ty4:TyOk Try.prog 4 ⟨.bool,1,1,[.bool false],false⟩:=TyOk.of _ _ _ _ (.bool false) (by kernel_rfl) rfl (by exact Try.underlying4) rfl rfl false (fun h=>by cases h)
theorem ty5:TyOk Try.prog 5 ⟨.int .u8,1,1,[.int .u8 0],false⟩:=TyOk.of _ _ _ _ (.int .u8 0) (by kernel_rfl) rfl (by exact Try.underlying5) rfl rfl false (fun h=>by cases h)
theorem ty6:TyOk Try.prog 6 ⟨.int .u8,1,1,[.int .u8 0],false⟩:=TyOk.of _ _ _ _ (.int .u8 0) (by kernel_rfl) rfl (by exact Try.underlying6) rfl rfl false (fun h=>by cases h)
theorem ty7:TyOk Try.prog 7 ⟨.struct [(0,2),(1,3),(2,4),(3,6)],4,24,[.int .i64 0,.int .i64 0,.bool false,.int .u8 0],false⟩:=TyOk.of _ _ _ _ (.agg #[.int .i64 0,.int .i64 0,.bool false,.int .u8 0]) (by kernel_rfl) rfl (by exact ⟨_,Try.underlying7,rfl⟩) rfl rfl false (fun h=>by cases h)
theorem ty8:TyOk Try.prog 8 ⟨.struct [(0,2),(1,3),(2,4),(3,6)],4,24,[.int .i64 0,.int .i64 0,.bool false,.int .u8 0],false⟩:=TyOk.of _ _ _ _ (.agg #[.int .i64 0,.int .i64 0,.bool false,.int .u8 0]) (by kernel_rfl) rfl (by exact ⟨_,Try.underlying8,rfl⟩) rfl rfl false (fun h=>by cases h)
theorem ty9:TyOk Try.prog 9 ⟨.str,1,16,[.string ByteArray.empty],false⟩:=TyOk.of _ _ _ _ (.string ByteArray.empty) (by kernel_rfl) rfl (by exact Try.underlying9) rfl rfl false (fun h=>by cases h)
theorem Yk4:TyOk Try.prog 10 ⟨.str,1,16,[.string ByteArray.empty],false⟩:=TyOk.of _ _ _ _ (.string ByteArray.empty) (by kernel_rfl) rfl (by exact Try.underlying10) rfl rfl false (fun h=>by cases h)
theorem Yk5:TyOk Try.prog 11 ⟨.str,1,16,[.string ByteArray.empty],false⟩:=TyOk.of _ _ _ _ (.string ByteArray.empty) (by kernel_rfl) rfl (by exact Try.underlying11) rfl rfl false (fun h=>by cases h)
theorem Yk6:TyOk Try.prog 12 ⟨.int .u64,1,8,[.int .u64 0],false⟩:=TyOk.of _ _ _ _ (.int .u64 0) (by kernel_rfl) rfl (by exact Try.underlying12) rfl rfl false (fun h=>by cases h)
theorem Yk7:TyOk Try.prog 13 ⟨.struct [(0,9),(1,12)],2,24,[.string ByteArray.empty,.int .u64 0],false⟩:=TyOk.of _ _ _ _ (.agg #[.string ByteArray.empty,.int .u64 0]) (by kernel_rfl) rfl (by exact ⟨_,Try.underlying13,rfl⟩) rfl rfl false (fun h=>by cases h)
theorem Yk8:TyOk Try.prog 14 ⟨.struct [(0,9),(1,12)],2,24,[.string ByteArray.empty,.int .u64 0],false⟩:=TyOk.of _ _ _ _ (.agg #[.string ByteArray.empty,.int .u64 0]) (by kernel_rfl) rfl (by exact ⟨_,Try.underlying14,rfl⟩) rfl rfl false (fun h=>by cases h)
theorem Yk9:TyOk Try.prog 15 ⟨.ptr 151,1,8,[.pointer none],false⟩:=TyOk.of _ _ _ _ (.pointer none) (by kernel_rfl) rfl (by exact Try.underlying15) rfl rfl false (fun h=>by cases h)
theorem Yla:TyOk Try.prog 16 ⟨.ptr 154,1,8,[.pointer none],false⟩:=TyOk.of _ _ _ _ (.pointer none) (by kernel_rfl) rfl (by exact Try.underlying16) rfl rfl false (fun h=>by cases h)
theorem Ylb:TyOk Try.prog 17 ⟨.ptr 164,1,8,[.pointer none],false⟩:=TyOk.of _ _ _ _ (.pointer none) (by kernel_rfl) rfl (by exact Try.underlying17) rfl rfl false (fun h=>by cases h)
theorem Ylc:TyOk Try.prog 18 ⟨.struct [(0,17)],1,8,[.pointer none],false⟩:=TyOk.of _ _ _ _ (.agg #[.pointer none]) (by kernel_rfl) rfl (by exact ⟨_,Try.underlying18,rfl⟩) rfl rfl false (fun h=>by cases h)
theorem Yld:TyOk Try.prog 19 ⟨.struct [(0,17)],1,8,[.pointer none],false⟩:=TyOk.of _ _ _ _ (.agg #[.pointer none]) (by kernel_rfl) rfl (by exact ⟨_,Try.underlying19,rfl⟩) rfl rfl false (fun h=>by cases h)
theorem Yle:TyOk Try.prog 21 ⟨.int .i32,1,4,[.int .i32 0],false⟩:=TyOk.of _ _ _ _ (.int .i32 0) (by kernel_rfl) rfl (by exact Try.underlying21) rfl rfl false (fun h=>by cases h)
theorem Ylf:TyOk Try.prog 22 ⟨.slice 40,1,24,[.slice none 0 0],false⟩:=TyOk.of _ _ _ _ (.slice none 0 0) (by kernel_rfl) rfl (by exact Try.underlying22) rfl rfl false (fun h=>by cases h)
theorem Ylg:TyOk Try.prog 23 ⟨.slice 25,1,24,[.slice none 0 0],false⟩:=TyOk.of _ _ _ _ (.slice none 0 0) (by kernel_rfl) rfl (by exact Try.underlying23) rfl rfl false (fun h=>by cases h)
theorem Ylh:TyOk Try.prog 24 ⟨.struct [(0,3),(1,22),(2,23)],3,56,[.int .i64 0,.slice none 0 0,.slice none 0 0],false⟩:=TyOk.of _ _ _ _ (.agg #[.int .i64 0,.slice none 0 0,.slice none 0 0]) (by kernel_rfl) rfl (by exact ⟨_,Try.underlying24,rfl⟩) rfl rfl false (fun h=>by cases h)
theorem Yli:TyOk Try.prog 25 ⟨.struct [(0,3),(1,22),(2,23)],3,56,[.int .i64 0,.slice none 0 0,.slice none 0 0],false⟩:=TyOk.of _ _ _ _ (.agg #[.int .i64 0,.slice none 0 0,.slice none 0 0]) (by kernel_rfl) rfl (by exact ⟨_,Try.underlying25,rfl⟩) rfl rfl false (fun h=>by cases h)
theorem Ylj:TyOk Try.prog 26 ⟨.slice 42,1,24,[.slice none 0 0],false⟩:=TyOk.of _ _ _ _ (.slice none 0 0) (by kernel_rfl) rfl (by exact Try.underlying26) rfl rfl false (fun h=>by cases h)
theorem Ylk:TyOk Try.prog 27 ⟨.slice 55,1,24,[.slice none 0 0],false⟩:=TyOk.of _ _ _ _ (.slice none 0 0) (by kernel_rfl) rfl (by exact Try.underlying27) rfl rfl false (fun h=>by cases h)
theorem Yll:TyOk Try.prog 28 ⟨.slice 53,1,24,[.slice none 0 0],false⟩:=TyOk.of _ _ _ _ (.slice none 0 0) (by kernel_rfl) rfl (by exact Try.underlying28) rfl rfl false (fun h=>by cases h)
theorem Ylm:TyOk Try.prog 29 ⟨.struct [(0,3),(1,25),(4,25),(7,26),(8,27),(9,3),(10,28)],11,200,[.int .i64 0,.int .i64 0,.slice none 0 0,.slice none 0 0,.int .i64 0,.slice none 0 0,.slice none 0 0,.slice none 0 0,.slice none 0 0,.int .i64 0,.slice none 0 0],false⟩:=TyOk.of _ _ _ _ (.agg #[.int .i64 0,.int .i64 0,.slice none 0 0,.slice none 0 0,.int .i64 0,.slice none 0 0,.slice none 0 0,.slice none 0 0,.slice none 0 0,.int .i64 0,.slice none 0 0]) (by kernel_rfl) rfl (by exact ⟨_,Try.underlying29,rfl⟩) rfl rfl false (fun h=>by cases h)
theorem Yln:TyOk Try.prog 30 ⟨.struct [(0,3),(1,25),(4,25),(7,26),(8,27),(9,3),(10,28)],11,200,[.int .i64 0,.int .i64 0,.slice none 0 0,.slice none 0 0,.int .i64 0,.slice none 0 0,.slice none 0 0,.slice none 0 0,.slice none 0 0,.int .i64 0,.slice none 0 0],false⟩:=TyOk.of _ _ _ _ (.agg #[.int .i64 0,.int .i64 0,.slice none 0 0,.slice none 0 0,.int .i64 0,.slice none 0 0,.slice none 0 0,.slice none 0 0,.slice none 0 0,.int .i64 0,.slice none 0 0]) (by kernel_rfl) rfl (by exact ⟨_,Try.underlying30,rfl⟩) rfl rfl false (fun h=>by cases h)
theorem Ylo:TyOk Try.prog 40 ⟨.int .u64,1,8,[.int .u64 0],false⟩:=TyOk.of _ _ _ _ (.int .u64 0) (by kernel_rfl) rfl (by exact Try.underlying40) rfl rfl false (fun h=>by cases h)
theorem Ylp:TyOk Try.prog 41 ⟨.struct [(0,3),(1,5),(2,40),(3,40)],4,32,[.int .i64 0,.int .u8 0,.int .u64 0,.int .u64 0],false⟩:=TyOk.of _ _ _ _ (.agg #[.int .i64 0,.int .u8 0,.int .u64 0,.int .u64 0]) (by kernel_rfl) rfl (by exact ⟨_,Try.underlying41,rfl⟩) rfl rfl false (fun h=>by cases h)
theorem Ylq:TyOk Try.prog 42 ⟨.struct [(0,3),(1,5),(2,40),(3,40)],4,32,[.int .i64 0,.int .u8 0,.int .u64 0,.int .u64 0],true⟩:=TyOk.of _ _ _ _ (.agg #[.int .i64 0,.int .u8 0,.int .u64 0,.int .u64 0]) (by kernel_rfl) rfl (by exact ⟨_,Try.underlying42,rfl⟩) rfl rfl true (fun _=>by unfold Yh3;exact ⟨by kernel_rfl,by kernel_rfl,by kernel_rfl⟩)
theorem Ylr:TyOk Try.prog 52 ⟨.struct [(0,3),(1,3),(2,23),(3,30)],14,240,[.int .i64 0,.int .i64 0,.slice none 0 0,.int .i64 0,.int .i64 0,.slice none 0 0,.slice none 0 0,.int .i64 0,.slice none 0 0,.slice none 0 0,.slice none 0 0,.slice none 0 0,.int .i64 0,.slice none 0 0],false⟩:=TyOk.of _ _ _ _ (.agg #[.int .i64 0,.int .i64 0,.slice none 0 0,.int .i64 0,.int .i64 0,.slice none 0 0,.slice none 0 0,.int .i64 0,.slice none 0 0,.slice none 0 0,.slice none 0 0,.slice none 0 0,.int .i64 0,.slice none 0 0]) (by kernel_rfl) rfl (by exact ⟨_,Try.underlying52,rfl⟩) rfl rfl false (fun h=>by cases h)
theorem Yls:TyOk Try.prog 53 ⟨.struct [(0,3),(1,3),(2,23),(3,30)],14,240,[.int .i64 0,.int .i64 0,.slice none 0 0,.int .i64 0,.int .i64 0,.slice none 0 0,.slice none 0 0,.int .i64 0,.slice none 0 0,.slice none 0 0,.slice none 0 0,.slice none 0 0,.int .i64 0,.slice none 0 0],false⟩:=TyOk.of _ _ _ _ (.agg #[.int .i64 0,.int .i64 0,.slice none 0 0,.int .i64 0,.int .i64 0,.slice none 0 0,.slice none 0 0,.int .i64 0,.slice none 0 0,.slice none 0 0,.slice none 0 0,.slice none 0 0,.int .i64 0,.slice none 0 0]) (by kernel_rfl) rfl (by exact ⟨_,Try.underlying53,rfl⟩) rfl rfl false (fun h=>by cases h)
theorem Ylt:TyOk Try.prog 54 ⟨.struct [(0,3),(1,30)],12,208,[.int .i64 0,.int .i64 0,.int .i64 0,.slice none 0 0,.slice none 0 0,.int .i64 0,.slice none 0 0,.slice none 0 0,.slice none 0 0,.slice none 0 0,.int .i64 0,.slice none 0 0],false⟩:=TyOk.of _ _ _ _ (.agg #[.int .i64 0,.int .i64 0,.int .i64 0,.slice none 0 0,.slice none 0 0,.int .i64 0,.slice none 0 0,.slice none 0 0,.slice none 0 0,.slice none 0 0,.int .i64 0,.slice none 0 0]) (by kernel_rfl) rfl (by exact ⟨_,Try.underlying54,rfl⟩) rfl rfl false (fun h=>by cases h)
theorem Ylu:TyOk Try.prog 55 ⟨.struct [(0,3),(1,30)],12,208,[.int .i64 0,.int .i64 0,.int .i64 0,.slice none 0 0,.slice none 0 0,.int .i64 0,.slice none 0 0,.slice none 0 0,.slice none 0 0,.slice none 0 0,.int .i64 0,.slice none 0 0],false⟩:=TyOk.of _ _ _ _ (.agg #[.int .i64 0,.int .i64 0,.int .i64 0,.slice none 0 0,.slice none 0 0,.int .i64 0,.slice none 0 0,.slice none 0 0,.slice none 0 0,.slice none 0 0,.int .i64 0,.slice none 0 0]) (by kernel_rfl) rfl (by exact ⟨_,Try.underlying55,rfl⟩) rfl rfl false (fun h=>by cases h)
theorem Ylv:TyOk Try.prog 65 ⟨.arr 8 5,8,8,[.int .u8 0,.int .u8 0,.int .u8 0,.int .u8 0,.int .u8 0,.int .u8 0,.int .u8 0,.int .u8 0],false⟩:=TyOk.of _ _ _ _ (.agg #[.int .u8 0,.int .u8 0,.int .u8 0,.int .u8 0,.int .u8 0,.int .u8 0,.int .u8 0,.int .u8 0]) (by kernel_rfl) rfl (by exact Try.underlying65) rfl rfl false (fun h=>by cases h)
theorem Ylw:TyOk Try.prog 69 ⟨.slice 5,1,24,[.slice none 0 0],false⟩:=TyOk.of _ _ _ _ (.slice none 0 0) (by kernel_rfl) rfl (by exact Try.underlying69) rfl rfl false (fun h=>by cases h)
theorem Ylx:TyOk Try.prog 90 ⟨.slice 94,1,24,[.slice none 0 0],false⟩:=TyOk.of _ _ _ _ (.slice none 0 0) (by kernel_rfl) rfl (by exact Try.underlying90) rfl rfl false (fun h=>by cases h)
theorem Yly:TyOk Try.prog 93 ⟨.struct [(0,3),(1,53),(15,53)],29,488,[.int .i64 0,.int .i64 0,.int .i64 0,.slice none 0 0,.int .i64 0,.int .i64 0,.slice none 0 0,.slice none 0 0,.int .i64 0,.slice none 0 0,.slice none 0 0,.slice none 0 0,.slice none 0 0,.int .i64 0,.slice none 0 0,.int .i64 0,.int .i64 0,.slice none 0 0,.int .i64 0,.int .i64 0,.slice none 0 0,.slice none 0 0,.int .i64 0,.slice none 0 0,.slice none 0 0,.slice none 0 0,.slice none 0 0,.int .i64 0,.slice none 0 0],false⟩:=TyOk.of _ _ _ _ (.agg #[.int .i64 0,.int .i64 0,.int .i64 0,.slice none 0 0,.int .i64 0,.int .i64 0,.slice none 0 0,.slice none 0 0,.int .i64 0,.slice none 0 0,.slice none 0 0,.slice none 0 0,.slice none 0 0,.int .i64 0,.slice none 0 0,.int .i64 0,.int .i64 0,.slice none 0 0,.int .i64 0,.int .i64 0,.slice none 0 0,.slice none 0 0,.int .i64 0,.slice none 0 0,.slice none 0 0,.slice none 0 0,.slice none 0 0,.int .i64 0,.slice none 0 0]) (by kernel_rfl) rfl (by exact ⟨_,Try.underlying93,rfl⟩) rfl rfl false (fun h=>by cases h)
theorem Ylz:TyOk Try.prog 94 ⟨.struct [(0,3),(1,53),(15,53)],29,488,[.int .i64 0,.int .i64 0,.int .i64 0,.slice none 0 0,.int .i64 0,.int .i64 0,.slice none 0 0,.slice none 0 0,.int .i64 0,.slice none 0 0,.slice none 0 0,.slice none 0 0,.slice none 0 0,.int .i64 0,.slice none 0 0,.int .i64 0,.int .i64 0,.slice none 0 0,.int .i64 0,.int .i64 0,.slice none 0 0,.slice none 0 0,.int .i64 0,.slice none 0 0,.slice none 0 0,.slice none 0 0,.slice none 0 0,.int .i64 0,.slice none 0 0],false⟩:=TyOk.of _ _ _ _ (.agg #[.int .i64 0,.int .i64 0,.int .i64 0,.slice none 0 0,.int .i64 0,.int .i64 0,.slice none 0 0,.slice none 0 0,.int .i64 0,.slice none 0 0,.slice none 0 0,.slice none 0 0,.slice none 0 0,.int .i64 0,.slice none 0 0,.int .i64 0,.int .i64 0,.slice none 0 0,.int .i64 0,.int .i64 0,.slice none 0 0,.slice none 0 0,.int .i64 0,.slice none 0 0,.slice none 0 0,.slice none 0 0,.slice none 0 0,.int .i64 0,.slice none 0 0]) (by kernel_rfl) rfl (by exact ⟨_,Try.underlying94,rfl⟩) rfl rfl false (fun h=>by cases h)
theorem Yl0:TyOk Try.prog 97 ⟨.struct [(0,28),(1,3),(2,23),(3,23)],4,80,[.slice none 0 0,.int .i64 0,.slice none 0 0,.slice none 0 0],false⟩:=TyOk.of _ _ _ _ (.agg #[.slice none 0 0,.int .i64 0,.slice none 0 0,.slice none 0 0]) (by kernel_rfl) rfl (by exact ⟨_,Try.underlying97,rfl⟩) rfl rfl false (fun h=>by cases h)
theorem Yl1:TyOk Try.prog 98 ⟨.struct [(0,28),(1,3),(2,23),(3,23)],4,80,[.slice none 0 0,.int .i64 0,.slice none 0 0,.slice none 0 0],false⟩:=TyOk.of _ _ _ _ (.agg #[.slice none 0 0,.int .i64 0,.slice none 0 0,.slice none 0 0]) (by kernel_rfl) rfl (by exact ⟨_,Try.underlying98,rfl⟩) rfl rfl false (fun h=>by cases h)
theorem Yj2:TyOk Try.prog 101 ⟨.ptr 23,1,8,[.pointer none],false⟩:=TyOk.of _ _ _ _ (.pointer none) (by kernel_rfl) rfl (by exact Try.underlying101) rfl rfl false (fun h=>by cases h)
theorem Yj3:TyOk Try.prog 103 ⟨.slice 3,1,24,[.slice none 0 0],false⟩:=TyOk.of _ _ _ _ (.slice none 0 0) (by kernel_rfl) rfl (by exact Try.underlying103) rfl rfl false (fun h=>by cases h)
theorem Yj4:TyOk Try.prog 108 ⟨.slice 116,1,24,[.slice none 0 0],false⟩:=TyOk.of _ _ _ _ (.slice none 0 0) (by kernel_rfl) rfl (by exact Try.underlying108) rfl rfl false (fun h=>by cases h)
theorem Yj5:TyOk Try.prog 111 ⟨.slice 114,1,24,[.slice none 0 0],false⟩:=TyOk.of _ _ _ _ (.slice none 0 0) (by kernel_rfl) rfl (by exact Try.underlying111) rfl rfl false (fun h=>by cases h)
theorem Yj6:TyOk Try.prog 113 ⟨.struct [(0,3),(1,3),(2,25),(5,30),(16,4)],17,280,[.int .i64 0,.int .i64 0,.int .i64 0,.slice none 0 0,.slice none 0 0,.int .i64 0,.int .i64 0,.slice none 0 0,.slice none 0 0,.int .i64 0,.slice none 0 0,.slice none 0 0,.slice none 0 0,.slice none 0 0,.int .i64 0,.slice none 0 0,.bool false],false⟩:=TyOk.of _ _ _ _ (.agg #[.int .i64 0,.int .i64 0,.int .i64 0,.slice none 0 0,.slice none 0 0,.int .i64 0,.int .i64 0,.slice none 0 0,.slice none 0 0,.int .i64 0,.slice none 0 0,.slice none 0 0,.slice none 0 0,.slice none 0 0,.int .i64 0,.slice none 0 0,.bool false]) (by kernel_rfl) rfl (by exact ⟨_,Try.underlying113,rfl⟩) rfl rfl false (fun h=>by cases h)
theorem Yj7:TyOk Try.prog 114 ⟨.struct [(0,3),(1,3),(2,25),(5,30),(16,4)],17,280,[.int .i64 0,.int .i64 0,.int .i64 0,.slice none 0 0,.slice none 0 0,.int .i64 0,.int .i64 0,.slice none 0 0,.slice none 0 0,.int .i64 0,.slice none 0 0,.slice none 0 0,.slice none 0 0,.slice none 0 0,.int .i64 0,.slice none 0 0,.bool false],false⟩:=TyOk.of _ _ _ _ (.agg #[.int .i64 0,.int .i64 0,.int .i64 0,.slice none 0 0,.slice none 0 0,.int .i64 0,.int .i64 0,.slice none 0 0,.slice none 0 0,.int .i64 0,.slice none 0 0,.slice none 0 0,.slice none 0 0,.slice none 0 0,.int .i64 0,.slice none 0 0,.bool false]) (by kernel_rfl) rfl (by exact ⟨_,Try.underlying114,rfl⟩) rfl rfl false (fun h=>by cases h)
theorem Yj8:TyOk Try.prog 115 ⟨.struct [(0,3),(1,114),(18,114)],35,568,[.int .i64 0,.int .i64 0,.int .i64 0,.int .i64 0,.slice none 0 0,.slice none 0 0,.int .i64 0,.int .i64 0,.slice none 0 0,.slice none 0 0,.int .i64 0,.slice none 0 0,.slice none 0 0,.slice none 0 0,.slice none 0 0,.int .i64 0,.slice none 0 0,.bool false,.int .i64 0,.int .i64 0,.int .i64 0,.slice none 0 0,.slice none 0 0,.int .i64 0,.int .i64 0,.slice none 0 0,.slice none 0 0,.int .i64 0,.slice none 0 0,.slice none 0 0,.slice none 0 0,.slice none 0 0,.int .i64 0,.slice none 0 0,.bool false],false⟩:=TyOk.of _ _ _ _ (.agg #[.int .i64 0,.int .i64 0,.int .i64 0,.int .i64 0,.slice none 0 0,.slice none 0 0,.int .i64 0,.int .i64 0,.slice none 0 0,.slice none 0 0,.int .i64 0,.slice none 0 0,.slice none 0 0,.slice none 0 0,.slice none 0 0,.int .i64 0,.slice none 0 0,.bool false,.int .i64 0,.int .i64 0,.int .i64 0,.slice none 0 0,.slice none 0 0,.int .i64 0,.int .i64 0,.slice none 0 0,.slice none 0 0,.int .i64 0,.slice none 0 0,.slice none 0 0,.slice none 0 0,.slice none 0 0,.int .i64 0,.slice none 0 0,.bool false]) (by kernel_rfl) rfl (by exact ⟨_,Try.underlying115,rfl⟩) rfl rfl false (fun h=>by cases h)
theorem Yj9:TyOk Try.prog 116 ⟨.struct [(0,3),(1,114),(18,114)],35,568,[.int .i64 0,.int .i64 0,.int .i64 0,.int .i64 0,.slice none 0 0,.slice none 0 0,.int .i64 0,.int .i64 0,.slice none 0 0,.slice none 0 0,.int .i64 0,.slice none 0 0,.slice none 0 0,.slice none 0 0,.slice none 0 0,.int .i64 0,.slice none 0 0,.bool false,.int .i64 0,.int .i64 0,.int .i64 0,.slice none 0 0,.slice none 0 0,.int .i64 0,.int .i64 0,.slice none 0 0,.slice none 0 0,.int .i64 0,.slice none 0 0,.slice none 0 0,.slice none 0 0,.slice none 0 0,.int .i64 0,.slice none 0 0,.bool false],false⟩:=TyOk.of _ _ _ _ (.agg #[.int .i64 0,.int .i64 0,.int .i64 0,.int .i64 0,.slice none 0 0,.slice none 0 0,.int .i64 0,.int .i64 0,.slice none 0 0,.slice none 0 0,.int .i64 0,.slice none 0 0,.slice none 0 0,.slice none 0 0,.slice none 0 0,.int .i64 0,.slice none 0 0,.bool false,.int .i64 0,.int .i64 0,.int .i64 0,.slice none 0 0,.slice none 0 0,.int .i64 0,.int .i64 0,.slice none 0 0,.slice none 0 0,.int .i64 0,.slice none 0 0,.slice none 0 0,.slice none 0 0,.slice none 0 0,.int .i64 0,.slice none 0 0,.bool false]) (by kernel_rfl) rfl (by exact ⟨_,Try.underlying116,rfl⟩) rfl rfl false (fun h=>by cases h)
theorem Yka:TyOk Try.prog 127 ⟨.ptr 25,1,8,[.pointer none],false⟩:=TyOk.of _ _ _ _ (.pointer none) (by kernel_rfl) rfl (by exact Try.underlying127) rfl rfl false (fun h=>by cases h)
theorem Ykb:TyOk Try.prog 130 ⟨.struct [(0,23),(1,23)],2,48,[.slice none 0 0,.slice none 0 0],false⟩:=TyOk.of _ _ _ _ (.agg #[.slice none 0 0,.slice none 0 0]) (by kernel_rfl) rfl (by exact ⟨_,Try.underlying130,rfl⟩) rfl rfl false (fun h=>by cases h)
theorem Ykc:TyOk Try.prog 131 ⟨.struct [(0,23),(1,23)],2,48,[.slice none 0 0,.slice none 0 0],false⟩:=TyOk.of _ _ _ _ (.agg #[.slice none 0 0,.slice none 0 0]) (by kernel_rfl) rfl (by exact ⟨_,Try.underlying131,rfl⟩) rfl rfl false (fun h=>by cases h)
theorem Ykd:TyOk Try.prog 135 ⟨.ptr 98,1,8,[.pointer none],false⟩:=TyOk.of _ _ _ _ (.pointer none) (by kernel_rfl) rfl (by exact Try.underlying135) rfl rfl false (fun h=>by cases h)
theorem Yke:TyOk Try.prog 138 ⟨.ptr 131,1,8,[.pointer none],false⟩:=TyOk.of _ _ _ _ (.pointer none) (by kernel_rfl) rfl (by exact Try.underlying138) rfl rfl false (fun h=>by cases h)
theorem Ykf:TyOk Try.prog 139 ⟨.struct [(0,28),(1,3)],2,32,[.slice none 0 0,.int .i64 0],false⟩:=TyOk.of _ _ _ _ (.agg #[.slice none 0 0,.int .i64 0]) (by kernel_rfl) rfl (by exact ⟨_,Try.underlying139,rfl⟩) rfl rfl false (fun h=>by cases h)
theorem Ykg:TyOk Try.prog 140 ⟨.struct [(0,28),(1,3)],2,32,[.slice none 0 0,.int .i64 0],false⟩:=TyOk.of _ _ _ _ (.agg #[.slice none 0 0,.int .i64 0]) (by kernel_rfl) rfl (by exact ⟨_,Try.underlying140,rfl⟩) rfl rfl false (fun h=>by cases h)
theorem Ykh:TyOk Try.prog 145 ⟨.ptr 140,1,8,[.pointer none],false⟩:=TyOk.of _ _ _ _ (.pointer none) (by kernel_rfl) rfl (by exact Try.underlying145) rfl rfl false (fun h=>by cases h)
theorem Yki:TyOk Try.prog 148 ⟨.arr 6 3,6,48,[.int .i64 0,.int .i64 0,.int .i64 0,.int .i64 0,.int .i64 0,.int .i64 0],false⟩:=TyOk.of _ _ _ _ (.agg #[.int .i64 0,.int .i64 0,.int .i64 0,.int .i64 0,.int .i64 0,.int .i64 0]) (by kernel_rfl) rfl (by exact Try.underlying148) rfl rfl false (fun h=>by cases h)
theorem Ykj:TyOk Try.prog 150 ⟨.struct [(0,17),(1,17),(2,17),(3,9)],4,40,[.pointer none,.pointer none,.pointer none,.string ByteArray.empty],false⟩:=TyOk.of _ _ _ _ (.agg #[.pointer none,.pointer none,.pointer none,.string ByteArray.empty]) (by kernel_rfl) rfl (by exact ⟨_,Try.underlying150,rfl⟩) rfl rfl false (fun h=>by cases h)
theorem Ykk:TyOk Try.prog 151 ⟨.struct [(0,17),(1,17),(2,17),(3,9)],4,40,[.pointer none,.pointer none,.pointer none,.string ByteArray.empty],false⟩:=TyOk.of _ _ _ _ (.agg #[.pointer none,.pointer none,.pointer none,.string ByteArray.empty]) (by kernel_rfl) rfl (by exact ⟨_,Try.underlying151,rfl⟩) rfl rfl false (fun h=>by cases h)
theorem Ykl:TyOk Try.prog 156 ⟨.int .u32,1,4,[.int .u32 0],false⟩:=TyOk.of _ _ _ _ (.int .u32 0) (by kernel_rfl) rfl (by exact Try.underlying156) rfl rfl false (fun h=>by cases h)
theorem Ykm:TyOk Try.prog 157 ⟨.int .u8,1,1,[.int .u8 0],false⟩:=TyOk.of _ _ _ _ (.int .u8 0) (by kernel_rfl) rfl (by exact Try.underlying157) rfl rfl false (fun h=>by cases h)
theorem Ykn:TyOk Try.prog 158 ⟨.int .u8,1,1,[.int .u8 0],false⟩:=TyOk.of _ _ _ _ (.int .u8 0) (by kernel_rfl) rfl (by exact Try.underlying158) rfl rfl false (fun h=>by cases h)
theorem Yko:TyOk Try.prog 160 ⟨.ptr 5,1,8,[.pointer none],false⟩:=TyOk.of _ _ _ _ (.pointer none) (by kernel_rfl) rfl (by exact Try.underlying160) rfl rfl false (fun h=>by cases h)
theorem Ykp:TyOk Try.prog 161 ⟨.int .i32,1,4,[.int .i32 0],false⟩:=TyOk.of _ _ _ _ (.int .i32 0) (by kernel_rfl) rfl (by exact Try.underlying161) rfl rfl false (fun h=>by cases h)
theorem Ykq:TyOk Try.prog 162 ⟨.int .i32,1,4,[.int .i32 0],false⟩:=TyOk.of _ _ _ _ (.int .i32 0) (by kernel_rfl) rfl (by exact Try.underlying162) rfl rfl false (fun h=>by cases h)
def tabL:List (Nat×TyI):=[(2,⟨.int .i64,1,8,[.int .i64 0],false⟩),
 (3,⟨.int .i64,1,8,[.int .i64 0],false⟩),
 (4,⟨.bool,1,1,[.bool false],false⟩),
 (5,⟨.int .u8,1,1,[.int .u8 0],false⟩),
 (6,⟨.int .u8,1,1,[.int .u8 0],false⟩),
 (7,⟨.struct [(0,2),(1,3),(2,4),(3,6)],4,24,[.int .i64 0,.int .i64 0,.bool false,.int .u8 0],false⟩),
 (8,⟨.struct [(0,2),(1,3),(2,4),(3,6)],4,24,[.int .i64 0,.int .i64 0,.bool false,.int .u8 0],false⟩),
 (9,⟨.str,1,16,[.string ByteArray.empty],false⟩),
 (10,⟨.str,1,16,[.string ByteArray.empty],false⟩),
 (11,⟨.str,1,16,[.string ByteArray.empty],false⟩),
 (12,⟨.int .u64,1,8,[.int .u64 0],false⟩),
 (13,⟨.struct [(0,9),(1,12)],2,24,[.string ByteArray.empty,.int .u64 0],false⟩),
 (14,⟨.struct [(0,9),(1,12)],2,24,[.string ByteArray.empty,.int .u64 0],false⟩),
 (15,⟨.ptr 151,1,8,[.pointer none],false⟩),
 (16,⟨.ptr 154,1,8,[.pointer none],false⟩),
 (17,⟨.ptr 164,1,8,[.pointer none],false⟩),
 (18,⟨.struct [(0,17)],1,8,[.pointer none],false⟩),
 (19,⟨.struct [(0,17)],1,8,[.pointer none],false⟩),
 (21,⟨.int .i32,1,4,[.int .i32 0],false⟩),
 (22,⟨.slice 40,1,24,[.slice none 0 0],false⟩),
 (23,⟨.slice 25,1,24,[.slice none 0 0],false⟩),
 (24,⟨.struct [(0,3),(1,22),(2,23)],3,56,[.int .i64 0,.slice none 0 0,.slice none 0 0],false⟩),
 (25,⟨.struct [(0,3),(1,22),(2,23)],3,56,[.int .i64 0,.slice none 0 0,.slice none 0 0],false⟩),
 (26,⟨.slice 42,1,24,[.slice none 0 0],false⟩),
 (27,⟨.slice 55,1,24,[.slice none 0 0],false⟩),
 (28,⟨.slice 53,1,24,[.slice none 0 0],false⟩),
 (29,⟨.struct [(0,3),(1,25),(4,25),(7,26),(8,27),(9,3),(10,28)],11,200,[.int .i64 0,.int .i64 0,.slice none 0 0,.slice none 0 0,.int .i64 0,.slice none 0 0,.slice none 0 0,.slice none 0 0,.slice none 0 0,.int .i64 0,.slice none 0 0],false⟩),
 (30,⟨.struct [(0,3),(1,25),(4,25),(7,26),(8,27),(9,3),(10,28)],11,200,[.int .i64 0,.int .i64 0,.slice none 0 0,.slice none 0 0,.int .i64 0,.slice none 0 0,.slice none 0 0,.slice none 0 0,.slice none 0 0,.int .i64 0,.slice none 0 0],false⟩),
 (40,⟨.int .u64,1,8,[.int .u64 0],false⟩),
 (41,⟨.struct [(0,3),(1,5),(2,40),(3,40)],4,32,[.int .i64 0,.int .u8 0,.int .u64 0,.int .u64 0],false⟩),
 (42,⟨.struct [(0,3),(1,5),(2,40),(3,40)],4,32,[.int .i64 0,.int .u8 0,.int .u64 0,.int .u64 0],true⟩),
 (52,⟨.struct [(0,3),(1,3),(2,23),(3,30)],14,240,[.int .i64 0,.int .i64 0,.slice none 0 0,.int .i64 0,.int .i64 0,.slice none 0 0,.slice none 0 0,.int .i64 0,.slice none 0 0,.slice none 0 0,.slice none 0 0,.slice none 0 0,.int .i64 0,.slice none 0 0],false⟩),
 (53,⟨.struct [(0,3),(1,3),(2,23),(3,30)],14,240,[.int .i64 0,.int .i64 0,.slice none 0 0,.int .i64 0,.int .i64 0,.slice none 0 0,.slice none 0 0,.int .i64 0,.slice none 0 0,.slice none 0 0,.slice none 0 0,.slice none 0 0,.int .i64 0,.slice none 0 0],false⟩),
 (54,⟨.struct [(0,3),(1,30)],12,208,[.int .i64 0,.int .i64 0,.int .i64 0,.slice none 0 0,.slice none 0 0,.int .i64 0,.slice none 0 0,.slice none 0 0,.slice none 0 0,.slice none 0 0,.int .i64 0,.slice none 0 0],false⟩),
 (55,⟨.struct [(0,3),(1,30)],12,208,[.int .i64 0,.int .i64 0,.int .i64 0,.slice none 0 0,.slice none 0 0,.int .i64 0,.slice none 0 0,.slice none 0 0,.slice none 0 0,.slice none 0 0,.int .i64 0,.slice none 0 0],false⟩),
 (65,⟨.arr 8 5,8,8,[.int .u8 0,.int .u8 0,.int .u8 0,.int .u8 0,.int .u8 0,.int .u8 0,.int .u8 0,.int .u8 0],false⟩),
 (69,⟨.slice 5,1,24,[.slice none 0 0],false⟩),
 (90,⟨.slice 94,1,24,[.slice none 0 0],false⟩),
 (93,⟨.struct [(0,3),(1,53),(15,53)],29,488,[.int .i64 0,.int .i64 0,.int .i64 0,.slice none 0 0,.int .i64 0,.int .i64 0,.slice none 0 0,.slice none 0 0,.int .i64 0,.slice none 0 0,.slice none 0 0,.slice none 0 0,.slice none 0 0,.int .i64 0,.slice none 0 0,.int .i64 0,.int .i64 0,.slice none 0 0,.int .i64 0,.int .i64 0,.slice none 0 0,.slice none 0 0,.int .i64 0,.slice none 0 0,.slice none 0 0,.slice none 0 0,.slice none 0 0,.int .i64 0,.slice none 0 0],false⟩),
 (94,⟨.struct [(0,3),(1,53),(15,53)],29,488,[.int .i64 0,.int .i64 0,.int .i64 0,.slice none 0 0,.int .i64 0,.int .i64 0,.slice none 0 0,.slice none 0 0,.int .i64 0,.slice none 0 0,.slice none 0 0,.slice none 0 0,.slice none 0 0,.int .i64 0,.slice none 0 0,.int .i64 0,.int .i64 0,.slice none 0 0,.int .i64 0,.int .i64 0,.slice none 0 0,.slice none 0 0,.int .i64 0,.slice none 0 0,.slice none 0 0,.slice none 0 0,.slice none 0 0,.int .i64 0,.slice none 0 0],false⟩),
 (97,⟨.struct [(0,28),(1,3),(2,23),(3,23)],4,80,[.slice none 0 0,.int .i64 0,.slice none 0 0,.slice none 0 0],false⟩),
 (98,⟨.struct [(0,28),(1,3),(2,23),(3,23)],4,80,[.slice none 0 0,.int .i64 0,.slice none 0 0,.slice none 0 0],false⟩),
 (101,⟨.ptr 23,1,8,[.pointer none],false⟩),
 (103,⟨.slice 3,1,24,[.slice none 0 0],false⟩),
 (108,⟨.slice 116,1,24,[.slice none 0 0],false⟩),
 (111,⟨.slice 114,1,24,[.slice none 0 0],false⟩),
 (113,⟨.struct [(0,3),(1,3),(2,25),(5,30),(16,4)],17,280,[.int .i64 0,.int .i64 0,.int .i64 0,.slice none 0 0,.slice none 0 0,.int .i64 0,.int .i64 0,.slice none 0 0,.slice none 0 0,.int .i64 0,.slice none 0 0,.slice none 0 0,.slice none 0 0,.slice none 0 0,.int .i64 0,.slice none 0 0,.bool false],false⟩),
 (114,⟨.struct [(0,3),(1,3),(2,25),(5,30),(16,4)],17,280,[.int .i64 0,.int .i64 0,.int .i64 0,.slice none 0 0,.slice none 0 0,.int .i64 0,.int .i64 0,.slice none 0 0,.slice none 0 0,.int .i64 0,.slice none 0 0,.slice none 0 0,.slice none 0 0,.slice none 0 0,.int .i64 0,.slice none 0 0,.bool false],false⟩),
 (115,⟨.struct [(0,3),(1,114),(18,114)],35,568,[.int .i64 0,.int .i64 0,.int .i64 0,.int .i64 0,.slice none 0 0,.slice none 0 0,.int .i64 0,.int .i64 0,.slice none 0 0,.slice none 0 0,.int .i64 0,.slice none 0 0,.slice none 0 0,.slice none 0 0,.slice none 0 0,.int .i64 0,.slice none 0 0,.bool false,.int .i64 0,.int .i64 0,.int .i64 0,.slice none 0 0,.slice none 0 0,.int .i64 0,.int .i64 0,.slice none 0 0,.slice none 0 0,.int .i64 0,.slice none 0 0,.slice none 0 0,.slice none 0 0,.slice none 0 0,.int .i64 0,.slice none 0 0,.bool false],false⟩),
 (116,⟨.struct [(0,3),(1,114),(18,114)],35,568,[.int .i64 0,.int .i64 0,.int .i64 0,.int .i64 0,.slice none 0 0,.slice none 0 0,.int .i64 0,.int .i64 0,.slice none 0 0,.slice none 0 0,.int .i64 0,.slice none 0 0,.slice none 0 0,.slice none 0 0,.slice none 0 0,.int .i64 0,.slice none 0 0,.bool false,.int .i64 0,.int .i64 0,.int .i64 0,.slice none 0 0,.slice none 0 0,.int .i64 0,.int .i64 0,.slice none 0 0,.slice none 0 0,.int .i64 0,.slice none 0 0,.slice none 0 0,.slice none 0 0,.slice none 0 0,.int .i64 0,.slice none 0 0,.bool false],false⟩),
 (127,⟨.ptr 25,1,8,[.pointer none],false⟩),
 (130,⟨.struct [(0,23),(1,23)],2,48,[.slice none 0 0,.slice none 0 0],false⟩),
 (131,⟨.struct [(0,23),(1,23)],2,48,[.slice none 0 0,.slice none 0 0],false⟩),
 (135,⟨.ptr 98,1,8,[.pointer none],false⟩),
 (138,⟨.ptr 131,1,8,[.pointer none],false⟩),
 (139,⟨.struct [(0,28),(1,3)],2,32,[.slice none 0 0,.int .i64 0],false⟩),
 (140,⟨.struct [(0,28),(1,3)],2,32,[.slice none 0 0,.int .i64 0],false⟩),
 (145,⟨.ptr 140,1,8,[.pointer none],false⟩),
 (148,⟨.arr 6 3,6,48,[.int .i64 0,.int .i64 0,.int .i64 0,.int .i64 0,.int .i64 0,.int .i64 0],false⟩),
 (150,⟨.struct [(0,17),(1,17),(2,17),(3,9)],4,40,[.pointer none,.pointer none,.pointer none,.string ByteArray.empty],false⟩),
 (151,⟨.struct [(0,17),(1,17),(2,17),(3,9)],4,40,[.pointer none,.pointer none,.pointer none,.string ByteArray.empty],false⟩),
 (156,⟨.int .u32,1,4,[.int .u32 0],false⟩),
 (157,⟨.int .u8,1,1,[.int .u8 0],false⟩),
 (158,⟨.int .u8,1,1,[.int .u8 0],false⟩),
 (160,⟨.ptr 5,1,8,[.pointer none],false⟩),
 (161,⟨.int .i32,1,4,[.int .i32 0],false⟩),
 (162,⟨.int .i32,1,4,[.int .i32 0],false⟩)]
def Kr:Uw:=fun t=>tabL.lookup t
theorem Z5:Kc Try.prog Kr:=fun t i h=>by
 have hm:=Zxx _ h
 unfold tabL at hm
 simp only [List.mem_cons,Prod.mk.injEq,List.not_mem_nil,or_false] at hm
 rcases hm with ⟨rfl,rfl⟩ | ⟨rfl,rfl⟩ | ⟨rfl,rfl⟩ | ⟨rfl,rfl⟩ | ⟨rfl,rfl⟩ | ⟨rfl,rfl⟩ | ⟨rfl,rfl⟩ | ⟨rfl,rfl⟩ | ⟨rfl,rfl⟩ | ⟨rfl,rfl⟩ | ⟨rfl,rfl⟩ | ⟨rfl,rfl⟩ | ⟨rfl,rfl⟩ | ⟨rfl,rfl⟩ | ⟨rfl,rfl⟩ | ⟨rfl,rfl⟩ | ⟨rfl,rfl⟩ | ⟨rfl,rfl⟩ | ⟨rfl,rfl⟩ | ⟨rfl,rfl⟩ | ⟨rfl,rfl⟩ | ⟨rfl,rfl⟩ | ⟨rfl,rfl⟩ | ⟨rfl,rfl⟩ | ⟨rfl,rfl⟩ | ⟨rfl,rfl⟩ | ⟨rfl,rfl⟩ | ⟨rfl,rfl⟩ | ⟨rfl,rfl⟩ | ⟨rfl,rfl⟩ | ⟨rfl,rfl⟩ | ⟨rfl,rfl⟩ | ⟨rfl,rfl⟩ | ⟨rfl,rfl⟩ | ⟨rfl,rfl⟩ | ⟨rfl,rfl⟩ | ⟨rfl,rfl⟩ | ⟨rfl,rfl⟩ | ⟨rfl,rfl⟩ | ⟨rfl,rfl⟩ | ⟨rfl,rfl⟩ | ⟨rfl,rfl⟩ | ⟨rfl,rfl⟩ | ⟨rfl,rfl⟩ | ⟨rfl,rfl⟩ | ⟨rfl,rfl⟩ | ⟨rfl,rfl⟩ | ⟨rfl,rfl⟩ | ⟨rfl,rfl⟩ | ⟨rfl,rfl⟩ | ⟨rfl,rfl⟩ | ⟨rfl,rfl⟩ | ⟨rfl,rfl⟩ | ⟨rfl,rfl⟩ | ⟨rfl,rfl⟩ | ⟨rfl,rfl⟩ | ⟨rfl,rfl⟩ | ⟨rfl,rfl⟩ | ⟨rfl,rfl⟩ | ⟨rfl,rfl⟩ | ⟨rfl,rfl⟩ | ⟨rfl,rfl⟩ | ⟨rfl,rfl⟩ | ⟨rfl,rfl⟩ | ⟨rfl,rfl⟩ | ⟨rfl,rfl⟩ | ⟨rfl,rfl⟩
 ·exact ty2
 ·exact ty3
 ·exact ty4
 ·exact ty5
 ·exact ty6
 ·exact ty7
 ·exact ty8
 ·exact ty9
 ·exact Yk4
 ·exact Yk5
 ·exact Yk6
 ·exact Yk7
 ·exact Yk8
 ·exact Yk9
 ·exact Yla
 ·exact Ylb
 ·exact Ylc
 ·exact Yld
 ·exact Yle
 ·exact Ylf
 ·exact Ylg
 ·exact Ylh
 ·exact Yli
 ·exact Ylj
 ·exact Ylk
 ·exact Yll
 ·exact Ylm
 ·exact Yln
 ·exact Ylo
 ·exact Ylp
 ·exact Ylq
 ·exact Ylr
 ·exact Yls
 ·exact Ylt
 ·exact Ylu
 ·exact Ylv
 ·exact Ylw
 ·exact Ylx
 ·exact Yly
 ·exact Ylz
 ·exact Yl0
 ·exact Yl1
 ·exact Yj2
 ·exact Yj3
 ·exact Yj4
 ·exact Yj5
 ·exact Yj6
 ·exact Yj7
 ·exact Yj8
 ·exact Yj9
 ·exact Yka
 ·exact Ykb
 ·exact Ykc
 ·exact Ykd
 ·exact Yke
 ·exact Ykf
 ·exact Ykg
 ·exact Ykh
 ·exact Yki
 ·exact Ykj
 ·exact Ykk
 ·exact Ykl
 ·exact Ykm
 ·exact Ykn
 ·exact Yko
 ·exact Ykp
 exact Ykq
theorem Yi2:Kr 2=some ⟨.int .i64,1,8,[.int .i64 0],false⟩:=rfl
theorem Z6p:Kr 3=some ⟨.int .i64,1,8,[.int .i64 0],false⟩:=rfl
theorem Yi3:Kr 4=some ⟨.bool,1,1,[.bool false],false⟩:=rfl
theorem Z6q:Kr 5=some ⟨.int .u8,1,1,[.int .u8 0],false⟩:=rfl
theorem Yi4:Kr 6=some ⟨.int .u8,1,1,[.int .u8 0],false⟩:=rfl
theorem Yi5:Kr 7=some ⟨.struct [(0,2),(1,3),(2,4),(3,6)],4,24,[.int .i64 0,.int .i64 0,.bool false,.int .u8 0],false⟩:=rfl
theorem Yi6:Kr 8=some ⟨.struct [(0,2),(1,3),(2,4),(3,6)],4,24,[.int .i64 0,.int .i64 0,.bool false,.int .u8 0],false⟩:=rfl
theorem Yi7:Kr 9=some ⟨.str,1,16,[.string ByteArray.empty],false⟩:=rfl
theorem Yei:Kr 10=some ⟨.str,1,16,[.string ByteArray.empty],false⟩:=rfl
theorem Yej:Kr 11=some ⟨.str,1,16,[.string ByteArray.empty],false⟩:=rfl
theorem Yek:Kr 12=some ⟨.int .u64,1,8,[.int .u64 0],false⟩:=rfl
theorem Yel:Kr 13=some ⟨.struct [(0,9),(1,12)],2,24,[.string ByteArray.empty,.int .u64 0],false⟩:=rfl
theorem Yem:Kr 14=some ⟨.struct [(0,9),(1,12)],2,24,[.string ByteArray.empty,.int .u64 0],false⟩:=rfl
theorem Yen:Kr 15=some ⟨.ptr 151,1,8,[.pointer none],false⟩:=rfl
theorem Yeo:Kr 16=some ⟨.ptr 154,1,8,[.pointer none],false⟩:=rfl
theorem Yep:Kr 17=some ⟨.ptr 164,1,8,[.pointer none],false⟩:=rfl
theorem Yeq:Kr 18=some ⟨.struct [(0,17)],1,8,[.pointer none],false⟩:=rfl
theorem Yer:Kr 19=some ⟨.struct [(0,17)],1,8,[.pointer none],false⟩:=rfl
theorem Yes:Kr 21=some ⟨.int .i32,1,4,[.int .i32 0],false⟩:=rfl
theorem Yet:Kr 22=some ⟨.slice 40,1,24,[.slice none 0 0],false⟩:=rfl
theorem Z6o:Kr 23=some ⟨.slice 25,1,24,[.slice none 0 0],false⟩:=rfl
theorem Yeu:Kr 24=some ⟨.struct [(0,3),(1,22),(2,23)],3,56,[.int .i64 0,.slice none 0 0,.slice none 0 0],false⟩:=rfl
theorem Zac:Kr 25=some ⟨.struct [(0,3),(1,22),(2,23)],3,56,[.int .i64 0,.slice none 0 0,.slice none 0 0],false⟩:=rfl
theorem Yev:Kr 26=some ⟨.slice 42,1,24,[.slice none 0 0],false⟩:=rfl
theorem Yew:Kr 27=some ⟨.slice 55,1,24,[.slice none 0 0],false⟩:=rfl
theorem Yex:Kr 28=some ⟨.slice 53,1,24,[.slice none 0 0],false⟩:=rfl
theorem Yey:Kr 29=some ⟨.struct [(0,3),(1,25),(4,25),(7,26),(8,27),(9,3),(10,28)],11,200,[.int .i64 0,.int .i64 0,.slice none 0 0,.slice none 0 0,.int .i64 0,.slice none 0 0,.slice none 0 0,.slice none 0 0,.slice none 0 0,.int .i64 0,.slice none 0 0],false⟩:=rfl
theorem Zy7:Kr 30=some ⟨.struct [(0,3),(1,25),(4,25),(7,26),(8,27),(9,3),(10,28)],11,200,[.int .i64 0,.int .i64 0,.slice none 0 0,.slice none 0 0,.int .i64 0,.slice none 0 0,.slice none 0 0,.slice none 0 0,.slice none 0 0,.int .i64 0,.slice none 0 0],false⟩:=rfl
theorem Zny:Kr 40=some ⟨.int .u64,1,8,[.int .u64 0],false⟩:=rfl
theorem Yez:Kr 41=some ⟨.struct [(0,3),(1,5),(2,40),(3,40)],4,32,[.int .i64 0,.int .u8 0,.int .u64 0,.int .u64 0],false⟩:=rfl
theorem Zhk:Kr 42=some ⟨.struct [(0,3),(1,5),(2,40),(3,40)],4,32,[.int .i64 0,.int .u8 0,.int .u64 0,.int .u64 0],true⟩:=rfl
theorem Ye0:Kr 52=some ⟨.struct [(0,3),(1,3),(2,23),(3,30)],14,240,[.int .i64 0,.int .i64 0,.slice none 0 0,.int .i64 0,.int .i64 0,.slice none 0 0,.slice none 0 0,.int .i64 0,.slice none 0 0,.slice none 0 0,.slice none 0 0,.slice none 0 0,.int .i64 0,.slice none 0 0],false⟩:=rfl
theorem Zel:Kr 53=some ⟨.struct [(0,3),(1,3),(2,23),(3,30)],14,240,[.int .i64 0,.int .i64 0,.slice none 0 0,.int .i64 0,.int .i64 0,.slice none 0 0,.slice none 0 0,.int .i64 0,.slice none 0 0,.slice none 0 0,.slice none 0 0,.slice none 0 0,.int .i64 0,.slice none 0 0],false⟩:=rfl
theorem Ye1:Kr 54=some ⟨.struct [(0,3),(1,30)],12,208,[.int .i64 0,.int .i64 0,.int .i64 0,.slice none 0 0,.slice none 0 0,.int .i64 0,.slice none 0 0,.slice none 0 0,.slice none 0 0,.slice none 0 0,.int .i64 0,.slice none 0 0],false⟩:=rfl
theorem Zfm:Kr 55=some ⟨.struct [(0,3),(1,30)],12,208,[.int .i64 0,.int .i64 0,.int .i64 0,.slice none 0 0,.slice none 0 0,.int .i64 0,.slice none 0 0,.slice none 0 0,.slice none 0 0,.slice none 0 0,.int .i64 0,.slice none 0 0],false⟩:=rfl
theorem Z6r:Kr 65=some ⟨.arr 8 5,8,8,[.int .u8 0,.int .u8 0,.int .u8 0,.int .u8 0,.int .u8 0,.int .u8 0,.int .u8 0,.int .u8 0],false⟩:=rfl
theorem Ye2:Kr 69=some ⟨.slice 5,1,24,[.slice none 0 0],false⟩:=rfl
theorem Ye3:Kr 90=some ⟨.slice 94,1,24,[.slice none 0 0],false⟩:=rfl
theorem Ye4:Kr 93=some ⟨.struct [(0,3),(1,53),(15,53)],29,488,[.int .i64 0,.int .i64 0,.int .i64 0,.slice none 0 0,.int .i64 0,.int .i64 0,.slice none 0 0,.slice none 0 0,.int .i64 0,.slice none 0 0,.slice none 0 0,.slice none 0 0,.slice none 0 0,.int .i64 0,.slice none 0 0,.int .i64 0,.int .i64 0,.slice none 0 0,.int .i64 0,.int .i64 0,.slice none 0 0,.slice none 0 0,.int .i64 0,.slice none 0 0,.slice none 0 0,.slice none 0 0,.slice none 0 0,.int .i64 0,.slice none 0 0],false⟩:=rfl
theorem Yay:Kr 94=some ⟨.struct [(0,3),(1,53),(15,53)],29,488,[.int .i64 0,.int .i64 0,.int .i64 0,.slice none 0 0,.int .i64 0,.int .i64 0,.slice none 0 0,.slice none 0 0,.int .i64 0,.slice none 0 0,.slice none 0 0,.slice none 0 0,.slice none 0 0,.int .i64 0,.slice none 0 0,.int .i64 0,.int .i64 0,.slice none 0 0,.int .i64 0,.int .i64 0,.slice none 0 0,.slice none 0 0,.int .i64 0,.slice none 0 0,.slice none 0 0,.slice none 0 0,.slice none 0 0,.int .i64 0,.slice none 0 0],false⟩:=rfl
theorem Ye5:Kr 97=some ⟨.struct [(0,28),(1,3),(2,23),(3,23)],4,80,[.slice none 0 0,.int .i64 0,.slice none 0 0,.slice none 0 0],false⟩:=rfl
theorem Ye6:Kr 98=some ⟨.struct [(0,28),(1,3),(2,23),(3,23)],4,80,[.slice none 0 0,.int .i64 0,.slice none 0 0,.slice none 0 0],false⟩:=rfl
theorem Z8a:Kr 101=some ⟨.ptr 23,1,8,[.pointer none],false⟩:=rfl
theorem Z8b:Kr 103=some ⟨.slice 3,1,24,[.slice none 0 0],false⟩:=rfl
theorem Z8c:Kr 108=some ⟨.slice 116,1,24,[.slice none 0 0],false⟩:=rfl
theorem Z8d:Kr 111=some ⟨.slice 114,1,24,[.slice none 0 0],false⟩:=rfl
theorem Z8e:Kr 113=some ⟨.struct [(0,3),(1,3),(2,25),(5,30),(16,4)],17,280,[.int .i64 0,.int .i64 0,.int .i64 0,.slice none 0 0,.slice none 0 0,.int .i64 0,.int .i64 0,.slice none 0 0,.slice none 0 0,.int .i64 0,.slice none 0 0,.slice none 0 0,.slice none 0 0,.slice none 0 0,.int .i64 0,.slice none 0 0,.bool false],false⟩:=rfl
theorem Z8f:Kr 114=some ⟨.struct [(0,3),(1,3),(2,25),(5,30),(16,4)],17,280,[.int .i64 0,.int .i64 0,.int .i64 0,.slice none 0 0,.slice none 0 0,.int .i64 0,.int .i64 0,.slice none 0 0,.slice none 0 0,.int .i64 0,.slice none 0 0,.slice none 0 0,.slice none 0 0,.slice none 0 0,.int .i64 0,.slice none 0 0,.bool false],false⟩:=rfl
theorem Z8g:Kr 115=some ⟨.struct [(0,3),(1,114),(18,114)],35,568,[.int .i64 0,.int .i64 0,.int .i64 0,.int .i64 0,.slice none 0 0,.slice none 0 0,.int .i64 0,.int .i64 0,.slice none 0 0,.slice none 0 0,.int .i64 0,.slice none 0 0,.slice none 0 0,.slice none 0 0,.slice none 0 0,.int .i64 0,.slice none 0 0,.bool false,.int .i64 0,.int .i64 0,.int .i64 0,.slice none 0 0,.slice none 0 0,.int .i64 0,.int .i64 0,.slice none 0 0,.slice none 0 0,.int .i64 0,.slice none 0 0,.slice none 0 0,.slice none 0 0,.slice none 0 0,.int .i64 0,.slice none 0 0,.bool false],false⟩:=rfl
theorem Z8h:Kr 116=some ⟨.struct [(0,3),(1,114),(18,114)],35,568,[.int .i64 0,.int .i64 0,.int .i64 0,.int .i64 0,.slice none 0 0,.slice none 0 0,.int .i64 0,.int .i64 0,.slice none 0 0,.slice none 0 0,.int .i64 0,.slice none 0 0,.slice none 0 0,.slice none 0 0,.slice none 0 0,.int .i64 0,.slice none 0 0,.bool false,.int .i64 0,.int .i64 0,.int .i64 0,.slice none 0 0,.slice none 0 0,.int .i64 0,.int .i64 0,.slice none 0 0,.slice none 0 0,.int .i64 0,.slice none 0 0,.slice none 0 0,.slice none 0 0,.slice none 0 0,.int .i64 0,.slice none 0 0,.bool false],false⟩:=rfl
theorem Z8i:Kr 127=some ⟨.ptr 25,1,8,[.pointer none],false⟩:=rfl
theorem Z8j:Kr 130=some ⟨.struct [(0,23),(1,23)],2,48,[.slice none 0 0,.slice none 0 0],false⟩:=rfl
theorem Z8k:Kr 131=some ⟨.struct [(0,23),(1,23)],2,48,[.slice none 0 0,.slice none 0 0],false⟩:=rfl
theorem Z8l:Kr 135=some ⟨.ptr 98,1,8,[.pointer none],false⟩:=rfl
theorem Z8m:Kr 138=some ⟨.ptr 131,1,8,[.pointer none],false⟩:=rfl
theorem Z8n:Kr 139=some ⟨.struct [(0,28),(1,3)],2,32,[.slice none 0 0,.int .i64 0],false⟩:=rfl
theorem Z8o:Kr 140=some ⟨.struct [(0,28),(1,3)],2,32,[.slice none 0 0,.int .i64 0],false⟩:=rfl
theorem Z8p:Kr 145=some ⟨.ptr 140,1,8,[.pointer none],false⟩:=rfl
theorem Z8q:Kr 148=some ⟨.arr 6 3,6,48,[.int .i64 0,.int .i64 0,.int .i64 0,.int .i64 0,.int .i64 0,.int .i64 0],false⟩:=rfl
theorem Z8r:Kr 150=some ⟨.struct [(0,17),(1,17),(2,17),(3,9)],4,40,[.pointer none,.pointer none,.pointer none,.string ByteArray.empty],false⟩:=rfl
theorem Z8s:Kr 151=some ⟨.struct [(0,17),(1,17),(2,17),(3,9)],4,40,[.pointer none,.pointer none,.pointer none,.string ByteArray.empty],false⟩:=rfl
theorem Z8t:Kr 156=some ⟨.int .u32,1,4,[.int .u32 0],false⟩:=rfl
theorem Z8u:Kr 157=some ⟨.int .u8,1,1,[.int .u8 0],false⟩:=rfl
theorem Z8v:Kr 158=some ⟨.int .u8,1,1,[.int .u8 0],false⟩:=rfl
theorem Z8w:Kr 160=some ⟨.ptr 5,1,8,[.pointer none],false⟩:=rfl
theorem Z8x:Kr 161=some ⟨.int .i32,1,4,[.int .i32 0],false⟩:=rfl
theorem Z8y:Kr 162=some ⟨.int .i32,1,4,[.int .i32 0],false⟩:=rfl
theorem Z8z:Y8 Kr 2=some (.int .i64):=rfl
theorem Z80:Y8 Kr 3=some (.int .i64):=rfl
theorem Z81:Y8 Kr 4=some (.bool):=rfl
theorem Z82:Y8 Kr 5=some (.int .u8):=rfl
theorem Z83:Y8 Kr 6=some (.int .u8):=rfl
theorem Z84:Y8 Kr 7=some (.struct [(0,2),(1,3),(2,4),(3,6)]):=rfl
theorem Z85:Y8 Kr 8=some (.struct [(0,2),(1,3),(2,4),(3,6)]):=rfl
theorem Z86:Y8 Kr 9=some (.str):=rfl
theorem Z35:Y8 Kr 10=some (.str):=rfl
theorem Z36:Y8 Kr 11=some (.str):=rfl
theorem Z37:Y8 Kr 12=some (.int .u64):=rfl
theorem Z38:Y8 Kr 13=some (.struct [(0,9),(1,12)]):=rfl
theorem Z39:Y8 Kr 14=some (.struct [(0,9),(1,12)]):=rfl
theorem Z4a:Y8 Kr 15=some (.ptr 151):=rfl
theorem Z4b:Y8 Kr 16=some (.ptr 154):=rfl
theorem Z4c:Y8 Kr 17=some (.ptr 164):=rfl
theorem Z4d:Y8 Kr 18=some (.struct [(0,17)]):=rfl
theorem Z4e:Y8 Kr 19=some (.struct [(0,17)]):=rfl
theorem Z4f:Y8 Kr 21=some (.int .i32):=rfl
theorem Zwc:Y8 Kr 22=some (.slice 40):=rfl
theorem Zih:Y8 Kr 23=some (.slice 25):=rfl
theorem Z4g:Y8 Kr 24=some (.struct [(0,3),(1,22),(2,23)]):=rfl
theorem Z4h:Y8 Kr 25=some (.struct [(0,3),(1,22),(2,23)]):=rfl
theorem Znk:Y8 Kr 26=some (.slice 42):=rfl
theorem Znl:Y8 Kr 27=some (.slice 55):=rfl
theorem Zwd:Y8 Kr 28=some (.slice 53):=rfl
theorem Z4i:Y8 Kr 29=some (.struct [(0,3),(1,25),(4,25),(7,26),(8,27),(9,3),(10,28)]):=rfl
theorem Z4j:Y8 Kr 30=some (.struct [(0,3),(1,25),(4,25),(7,26),(8,27),(9,3),(10,28)]):=rfl
theorem Z4k:Y8 Kr 40=some (.int .u64):=rfl
theorem Z4l:Y8 Kr 41=some (.struct [(0,3),(1,5),(2,40),(3,40)]):=rfl
theorem Z4m:Y8 Kr 42=some (.struct [(0,3),(1,5),(2,40),(3,40)]):=rfl
theorem Z4n:Y8 Kr 52=some (.struct [(0,3),(1,3),(2,23),(3,30)]):=rfl
theorem Z4o:Y8 Kr 53=some (.struct [(0,3),(1,3),(2,23),(3,30)]):=rfl
theorem Z4p:Y8 Kr 54=some (.struct [(0,3),(1,30)]):=rfl
theorem Z4q:Y8 Kr 55=some (.struct [(0,3),(1,30)]):=rfl
theorem Zwe:Y8 Kr 65=some (.arr 8 5):=rfl
theorem Z4r:Y8 Kr 69=some (.slice 5):=rfl
theorem Z4s:Y8 Kr 90=some (.slice 94):=rfl
theorem Z4t:Y8 Kr 93=some (.struct [(0,3),(1,53),(15,53)]):=rfl
theorem Z4u:Y8 Kr 94=some (.struct [(0,3),(1,53),(15,53)]):=rfl
theorem Z4v:Y8 Kr 97=some (.struct [(0,28),(1,3),(2,23),(3,23)]):=rfl
theorem Z4w:Y8 Kr 98=some (.struct [(0,28),(1,3),(2,23),(3,23)]):=rfl
theorem Zy9:Y8 Kr 101=some (.ptr 23):=rfl
theorem Zza:Y8 Kr 103=some (.slice 3):=rfl
theorem Zzb:Y8 Kr 108=some (.slice 116):=rfl
theorem Zzc:Y8 Kr 111=some (.slice 114):=rfl
theorem Zzd:Y8 Kr 113=some (.struct [(0,3),(1,3),(2,25),(5,30),(16,4)]):=rfl
theorem Zze:Y8 Kr 114=some (.struct [(0,3),(1,3),(2,25),(5,30),(16,4)]):=rfl
theorem Zzf:Y8 Kr 115=some (.struct [(0,3),(1,114),(18,114)]):=rfl
theorem Zzg:Y8 Kr 116=some (.struct [(0,3),(1,114),(18,114)]):=rfl
theorem Zzh:Y8 Kr 127=some (.ptr 25):=rfl
theorem Zzi:Y8 Kr 130=some (.struct [(0,23),(1,23)]):=rfl
theorem Zzj:Y8 Kr 131=some (.struct [(0,23),(1,23)]):=rfl
theorem Zzk:Y8 Kr 135=some (.ptr 98):=rfl
theorem Zzl:Y8 Kr 138=some (.ptr 131):=rfl
theorem Zzm:Y8 Kr 139=some (.struct [(0,28),(1,3)]):=rfl
theorem Zzn:Y8 Kr 140=some (.struct [(0,28),(1,3)]):=rfl
theorem Zzo:Y8 Kr 145=some (.ptr 140):=rfl
theorem Zzp:Y8 Kr 148=some (.arr 6 3):=rfl
theorem Zzq:Y8 Kr 150=some (.struct [(0,17),(1,17),(2,17),(3,9)]):=rfl
theorem Zzr:Y8 Kr 151=some (.struct [(0,17),(1,17),(2,17),(3,9)]):=rfl
theorem Zzs:Y8 Kr 156=some (.int .u32):=rfl
theorem Zzt:Y8 Kr 157=some (.int .u8):=rfl
theorem Zzu:Y8 Kr 158=some (.int .u8):=rfl
theorem Zzv:Y8 Kr 160=some (.ptr 5):=rfl
theorem Zzw:Y8 Kr 161=some (.int .i32):=rfl
theorem Zzx:Y8 Kr 162=some (.int .i32):=rfl
end Go.Proofs.Ytbjcopkgdjombaa
