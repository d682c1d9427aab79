/- The types of this seat's program, as its dump has them, in the ghost memory's words; no condition. -/
import Derived.Test.YtfjkcekfifobpaaRows
import Derived.Test.YtfjkcekfifobpaaG13
namespace Go.Proofs.Ytfjkcekfifobpaa
open Go.RowKit
set_option linter.unusedVariables false
set_option linter.unusedSimpArgs false
theorem TyOk.of {P:Program} {t:TypeId} (k:TK) (size bytes:Nat) (zero:List Value) (z:Value) (h:(P.info? t).map (fun i=>(i.zero,i.size,i.bytes))=some (some z,size,bytes)) (hz:z.cells.toList=zero) (hu:k.ok P t) (hl:zero.length=size) (h1:zero.all Value.oneCell'=true) (eq:Bool) (he:eq=true→Yci P t):TyOk P t ⟨k,size,bytes,zero,eq⟩:=by
 refine ⟨?_,hu,hl,fun v hv=>List.all_eq_true.1 h1 v hv,he⟩
 cases hi:P.info? t with
 | none=>rw [hi] at h;cases h
 | some i =>
  rw [hi] at h
  simp only [Option.map_some,Option.some.injEq,Prod.mk.injEq] at h
  exact ⟨i,z,rfl,h.2.1,h.2.2,h.1,hz⟩
theorem Z0e {α:Type} {t:Nat} {i:α}:∀ (l:List (Nat×α)),l.lookup t=some i→(t,i)∈l
 | [],h=>by simp at h
 | (a,b)::l,h=>by
  rw [List.lookup_cons] at h
  split at h
  ·rename_i he
   injection h with h
   have:t=a:=by simpa using he
   subst h this
   exact .head _
  exact .tail _ (Z0e l h)
theorem ty2:TyOk Try.prog 2 ⟨.int .i64,1,8,[.int .i64 0],false⟩:=TyOk.of _ _ _ _ (.int .i64 0) (by kernel_rfl) rfl (by exact Try.underlying2) rfl rfl false (fun h=>by cases h)
theorem ty3:TyOk Try.prog 3 ⟨.int .i64,1,8,[.int .i64 0],false⟩:=TyOk.of _ _ _ _ (.int .i64 0) (by kernel_rfl) rfl (by exact Try.underlying3) rfl rfl false (fun h=>by cases h)
theorem ty4:TyOk Try.prog 4 ⟨.bool,1,1,[.bool false],false⟩:=TyOk.of _ _ _ _ (.bool false) (by kernel_rfl) rfl (by exact Try.underlying4) rfl rfl false (fun h=>by cases h)
theorem ty5:TyOk Try.prog 5 ⟨.int .u8,1,1,[.int .u8 0],false⟩:=TyOk.of _ _ _ _ (.int .u8 0) (by kernel_rfl) rfl (by exact Try.underlying5) rfl rfl false (fun h=>by cases h)
theorem ty6:TyOk Try.prog 6 ⟨.int .u8,1,1,[.int .u8 0],false⟩:=TyOk.of _ _ _ _ (.int .u8 0) (by kernel_rfl) rfl (by exact Try.underlying6) rfl rfl false (fun h=>by cases h)
theorem ty7:TyOk Try.prog 7 ⟨.struct [(0,2),(1,3),(2,4),(3,6)],4,24,[.int .i64 0,.int .i64 0,.bool false,.int .u8 0],false⟩:=TyOk.of _ _ _ _ (.agg #[.int .i64 0,.int .i64 0,.bool false,.int .u8 0]) (by kernel_rfl) rfl (by exact ⟨_,Try.underlying7,rfl⟩) rfl rfl false (fun h=>by cases h)
theorem ty8:TyOk Try.prog 8 ⟨.struct [(0,2),(1,3),(2,4),(3,6)],4,24,[.int .i64 0,.int .i64 0,.bool false,.int .u8 0],false⟩:=TyOk.of _ _ _ _ (.agg #[.int .i64 0,.int .i64 0,.bool false,.int .u8 0]) (by kernel_rfl) rfl (by exact ⟨_,Try.underlying8,rfl⟩) rfl rfl false (fun h=>by cases h)
theorem ty9:TyOk Try.prog 9 ⟨.str,1,16,[.string ByteArray.empty],false⟩:=TyOk.of _ _ _ _ (.string ByteArray.empty) (by kernel_rfl) rfl (by exact Try.underlying9) rfl rfl false (fun h=>by cases h)
theorem Ykl:TyOk Try.prog 10 ⟨.str,1,16,[.string ByteArray.empty],false⟩:=TyOk.of _ _ _ _ (.string ByteArray.empty) (by kernel_rfl) rfl (by exact Try.underlying10) rfl rfl false (fun h=>by cases h)
theorem Ykm:TyOk Try.prog 11 ⟨.str,1,16,[.string ByteArray.empty],false⟩:=TyOk.of _ _ _ _ (.string ByteArray.empty) (by kernel_rfl) rfl (by exact Try.underlying11) rfl rfl false (fun h=>by cases h)
theorem Ykn:TyOk Try.prog 12 ⟨.int .u64,1,8,[.int .u64 0],false⟩:=TyOk.of _ _ _ _ (.int .u64 0) (by kernel_rfl) rfl (by exact Try.underlying12) rfl rfl false (fun h=>by cases h)
theorem Yko:TyOk Try.prog 13 ⟨.struct [(0,9),(1,12)],2,24,[.string ByteArray.empty,.int .u64 0],false⟩:=TyOk.of _ _ _ _ (.agg #[.string ByteArray.empty,.int .u64 0]) (by kernel_rfl) rfl (by exact ⟨_,Try.underlying13,rfl⟩) rfl rfl false (fun h=>by cases h)
theorem Ykp:TyOk Try.prog 14 ⟨.struct [(0,9),(1,12)],2,24,[.string ByteArray.empty,.int .u64 0],false⟩:=TyOk.of _ _ _ _ (.agg #[.string ByteArray.empty,.int .u64 0]) (by kernel_rfl) rfl (by exact ⟨_,Try.underlying14,rfl⟩) rfl rfl false (fun h=>by cases h)
theorem Ykq:TyOk Try.prog 15 ⟨.ptr 190,1,8,[.pointer none],false⟩:=TyOk.of _ _ _ _ (.pointer none) (by kernel_rfl) rfl (by exact Try.underlying15) rfl rfl false (fun h=>by cases h)
theorem Ykr:TyOk Try.prog 16 ⟨.ptr 193,1,8,[.pointer none],false⟩:=TyOk.of _ _ _ _ (.pointer none) (by kernel_rfl) rfl (by exact Try.underlying16) rfl rfl false (fun h=>by cases h)
theorem Yks:TyOk Try.prog 17 ⟨.ptr 203,1,8,[.pointer none],false⟩:=TyOk.of _ _ _ _ (.pointer none) (by kernel_rfl) rfl (by exact Try.underlying17) rfl rfl false (fun h=>by cases h)
theorem Ykt:TyOk Try.prog 18 ⟨.struct [(0,17)],1,8,[.pointer none],false⟩:=TyOk.of _ _ _ _ (.agg #[.pointer none]) (by kernel_rfl) rfl (by exact ⟨_,Try.underlying18,rfl⟩) rfl rfl false (fun h=>by cases h)
theorem Yku:TyOk Try.prog 19 ⟨.struct [(0,17)],1,8,[.pointer none],false⟩:=TyOk.of _ _ _ _ (.agg #[.pointer none]) (by kernel_rfl) rfl (by exact ⟨_,Try.underlying19,rfl⟩) rfl rfl false (fun h=>by cases h)
theorem Ykv:TyOk Try.prog 21 ⟨.int .i32,1,4,[.int .i32 0],false⟩:=TyOk.of _ _ _ _ (.int .i32 0) (by kernel_rfl) rfl (by exact Try.underlying21) rfl rfl false (fun h=>by cases h)
theorem Ykw:TyOk Try.prog 22 ⟨.slice 73,1,24,[.slice none 0 0],false⟩:=TyOk.of _ _ _ _ (.slice none 0 0) (by kernel_rfl) rfl (by exact Try.underlying22) rfl rfl false (fun h=>by cases h)
theorem Ykx:TyOk Try.prog 23 ⟨.slice 25,1,24,[.slice none 0 0],false⟩:=TyOk.of _ _ _ _ (.slice none 0 0) (by kernel_rfl) rfl (by exact Try.underlying23) rfl rfl false (fun h=>by cases h)
theorem Yky:TyOk Try.prog 24 ⟨.struct [(0,3),(1,22),(2,23)],3,56,[.int .i64 0,.slice none 0 0,.slice none 0 0],false⟩:=TyOk.of _ _ _ _ (.agg #[.int .i64 0,.slice none 0 0,.slice none 0 0]) (by kernel_rfl) rfl (by exact ⟨_,Try.underlying24,rfl⟩) rfl rfl false (fun h=>by cases h)
theorem Ykz:TyOk Try.prog 25 ⟨.struct [(0,3),(1,22),(2,23)],3,56,[.int .i64 0,.slice none 0 0,.slice none 0 0],false⟩:=TyOk.of _ _ _ _ (.agg #[.int .i64 0,.slice none 0 0,.slice none 0 0]) (by kernel_rfl) rfl (by exact ⟨_,Try.underlying25,rfl⟩) rfl rfl false (fun h=>by cases h)
theorem Yk0:TyOk Try.prog 26 ⟨.slice 82,1,24,[.slice none 0 0],false⟩:=TyOk.of _ _ _ _ (.slice none 0 0) (by kernel_rfl) rfl (by exact Try.underlying26) rfl rfl false (fun h=>by cases h)
theorem Yk1:TyOk Try.prog 27 ⟨.slice 84,1,24,[.slice none 0 0],false⟩:=TyOk.of _ _ _ _ (.slice none 0 0) (by kernel_rfl) rfl (by exact Try.underlying27) rfl rfl false (fun h=>by cases h)
theorem Yk2:TyOk Try.prog 28 ⟨.slice 75,1,24,[.slice none 0 0],false⟩:=TyOk.of _ _ _ _ (.slice none 0 0) (by kernel_rfl) rfl (by exact Try.underlying28) rfl rfl false (fun h=>by cases h)
theorem Yk3:TyOk Try.prog 29 ⟨.struct [(0,3),(1,25),(4,25),(7,26),(8,27),(9,3),(10,28)],11,200,[.int .i64 0,.int .i64 0,.slice none 0 0,.slice none 0 0,.int .i64 0,.slice none 0 0,.slice none 0 0,.slice none 0 0,.slice none 0 0,.int .i64 0,.slice none 0 0],false⟩:=TyOk.of _ _ _ _ (.agg #[.int .i64 0,.int .i64 0,.slice none 0 0,.slice none 0 0,.int .i64 0,.slice none 0 0,.slice none 0 0,.slice none 0 0,.slice none 0 0,.int .i64 0,.slice none 0 0]) (by kernel_rfl) rfl (by exact ⟨_,Try.underlying29,rfl⟩) rfl rfl false (fun h=>by cases h)
theorem Yk4:TyOk Try.prog 30 ⟨.struct [(0,3),(1,25),(4,25),(7,26),(8,27),(9,3),(10,28)],11,200,[.int .i64 0,.int .i64 0,.slice none 0 0,.slice none 0 0,.int .i64 0,.slice none 0 0,.slice none 0 0,.slice none 0 0,.slice none 0 0,.int .i64 0,.slice none 0 0],false⟩:=TyOk.of _ _ _ _ (.agg #[.int .i64 0,.int .i64 0,.slice none 0 0,.slice none 0 0,.int .i64 0,.slice none 0 0,.slice none 0 0,.slice none 0 0,.slice none 0 0,.int .i64 0,.slice none 0 0]) (by kernel_rfl) rfl (by exact ⟨_,Try.underlying30,rfl⟩) rfl rfl false (fun h=>by cases h)
theorem Yk5:TyOk Try.prog 36 ⟨.int .i64,1,8,[.int .i64 0],false⟩:=TyOk.of _ _ _ _ (.int .i64 0) (by kernel_rfl) rfl (by exact Try.underlying36) rfl rfl false (fun h=>by cases h)
theorem Yk6:TyOk Try.prog 43 ⟨.slice 54,1,24,[.slice none 0 0],false⟩:=TyOk.of _ _ _ _ (.slice none 0 0) (by kernel_rfl) rfl (by exact Try.underlying43) rfl rfl false (fun h=>by cases h)
theorem Yk7:TyOk Try.prog 53 ⟨.struct [(0,3),(1,3)],2,16,[.int .i64 0,.int .i64 0],false⟩:=TyOk.of _ _ _ _ (.agg #[.int .i64 0,.int .i64 0]) (by kernel_rfl) rfl (by exact ⟨_,Try.underlying53,rfl⟩) rfl rfl false (fun h=>by cases h)
theorem Yk8:TyOk Try.prog 54 ⟨.struct [(0,3),(1,3)],2,16,[.int .i64 0,.int .i64 0],true⟩:=TyOk.of _ _ _ _ (.agg #[.int .i64 0,.int .i64 0]) (by kernel_rfl) rfl (by exact ⟨_,Try.underlying54,rfl⟩) rfl rfl true (fun _=>by unfold Yci;exact ⟨by kernel_rfl,by kernel_rfl,by kernel_rfl⟩)
theorem Yk9:TyOk Try.prog 57 ⟨.slice 30,1,24,[.slice none 0 0],false⟩:=TyOk.of _ _ _ _ (.slice none 0 0) (by kernel_rfl) rfl (by exact Try.underlying57) rfl rfl false (fun h=>by cases h)
theorem Yla:TyOk Try.prog 62 ⟨.ptr 95,1,8,[.pointer none],false⟩:=TyOk.of _ _ _ _ (.pointer none) (by kernel_rfl) rfl (by exact Try.underlying62) rfl rfl false (fun h=>by cases h)
theorem Ylb:TyOk Try.prog 65 ⟨.struct [(0,3),(1,3),(2,30)],13,216,[.int .i64 0,.int .i64 0,.int .i64 0,.int .i64 0,.slice none 0 0,.slice none 0 0,.int .i64 0,.slice none 0 0,.slice none 0 0,.slice none 0 0,.slice none 0 0,.int .i64 0,.slice none 0 0],false⟩:=TyOk.of _ _ _ _ (.agg #[.int .i64 0,.int .i64 0,.int .i64 0,.int .i64 0,.slice none 0 0,.slice none 0 0,.int .i64 0,.slice none 0 0,.slice none 0 0,.slice none 0 0,.slice none 0 0,.int .i64 0,.slice none 0 0]) (by kernel_rfl) rfl (by exact ⟨_,Try.underlying65,rfl⟩) rfl rfl false (fun h=>by cases h)
theorem Ylc:TyOk Try.prog 66 ⟨.struct [(0,3),(1,3),(2,30)],13,216,[.int .i64 0,.int .i64 0,.int .i64 0,.int .i64 0,.slice none 0 0,.slice none 0 0,.int .i64 0,.slice none 0 0,.slice none 0 0,.slice none 0 0,.slice none 0 0,.int .i64 0,.slice none 0 0],false⟩:=TyOk.of _ _ _ _ (.agg #[.int .i64 0,.int .i64 0,.int .i64 0,.int .i64 0,.slice none 0 0,.slice none 0 0,.int .i64 0,.slice none 0 0,.slice none 0 0,.slice none 0 0,.slice none 0 0,.int .i64 0,.slice none 0 0]) (by kernel_rfl) rfl (by exact ⟨_,Try.underlying66,rfl⟩) rfl rfl false (fun h=>by cases h)
theorem Yld:TyOk Try.prog 73 ⟨.int .u64,1,8,[.int .u64 0],false⟩:=TyOk.of _ _ _ _ (.int .u64 0) (by kernel_rfl) rfl (by exact Try.underlying73) rfl rfl false (fun h=>by cases h)
theorem Yle:TyOk Try.prog 74 ⟨.struct [(0,3),(1,3),(2,23),(3,30)],14,240,[.int .i64 0,.int .i64 0,.slice none 0 0,.int .i64 0,.int .i64 0,.slice none 0 0,.slice none 0 0,.int .i64 0,.slice none 0 0,.slice none 0 0,.slice none 0 0,.slice none 0 0,.int .i64 0,.slice none 0 0],false⟩:=TyOk.of _ _ _ _ (.agg #[.int .i64 0,.int .i64 0,.slice none 0 0,.int .i64 0,.int .i64 0,.slice none 0 0,.slice none 0 0,.int .i64 0,.slice none 0 0,.slice none 0 0,.slice none 0 0,.slice none 0 0,.int .i64 0,.slice none 0 0]) (by kernel_rfl) rfl (by exact ⟨_,Try.underlying74,rfl⟩) rfl rfl false (fun h=>by cases h)
theorem Ylf:TyOk Try.prog 75 ⟨.struct [(0,3),(1,3),(2,23),(3,30)],14,240,[.int .i64 0,.int .i64 0,.slice none 0 0,.int .i64 0,.int .i64 0,.slice none 0 0,.slice none 0 0,.int .i64 0,.slice none 0 0,.slice none 0 0,.slice none 0 0,.slice none 0 0,.int .i64 0,.slice none 0 0],false⟩:=TyOk.of _ _ _ _ (.agg #[.int .i64 0,.int .i64 0,.slice none 0 0,.int .i64 0,.int .i64 0,.slice none 0 0,.slice none 0 0,.int .i64 0,.slice none 0 0,.slice none 0 0,.slice none 0 0,.slice none 0 0,.int .i64 0,.slice none 0 0]) (by kernel_rfl) rfl (by exact ⟨_,Try.underlying75,rfl⟩) rfl rfl false (fun h=>by cases h)
theorem Ylg:TyOk Try.prog 76 ⟨.struct [(0,4),(1,4)],2,2,[.bool false,.bool false],false⟩:=TyOk.of _ _ _ _ (.agg #[.bool false,.bool false]) (by kernel_rfl) rfl (by exact ⟨_,Try.underlying76,rfl⟩) rfl rfl false (fun h=>by cases h)
theorem Ylh:TyOk Try.prog 77 ⟨.struct [(0,4),(1,4)],2,2,[.bool false,.bool false],true⟩:=TyOk.of _ _ _ _ (.agg #[.bool false,.bool false]) (by kernel_rfl) rfl (by exact ⟨_,Try.underlying77,rfl⟩) rfl rfl true (fun _=>by unfold Yci;exact ⟨by kernel_rfl,by kernel_rfl,by kernel_rfl⟩)
theorem Yli:TyOk Try.prog 81 ⟨.struct [(0,3),(1,5),(2,73),(3,73)],4,32,[.int .i64 0,.int .u8 0,.int .u64 0,.int .u64 0],false⟩:=TyOk.of _ _ _ _ (.agg #[.int .i64 0,.int .u8 0,.int .u64 0,.int .u64 0]) (by kernel_rfl) rfl (by exact ⟨_,Try.underlying81,rfl⟩) rfl rfl false (fun h=>by cases h)
theorem Ylj:TyOk Try.prog 82 ⟨.struct [(0,3),(1,5),(2,73),(3,73)],4,32,[.int .i64 0,.int .u8 0,.int .u64 0,.int .u64 0],true⟩:=TyOk.of _ _ _ _ (.agg #[.int .i64 0,.int .u8 0,.int .u64 0,.int .u64 0]) (by kernel_rfl) rfl (by exact ⟨_,Try.underlying82,rfl⟩) rfl rfl true (fun _=>by unfold Yci;exact ⟨by kernel_rfl,by kernel_rfl,by kernel_rfl⟩)
theorem Ylk:TyOk Try.prog 83 ⟨.struct [(0,3),(1,30)],12,208,[.int .i64 0,.int .i64 0,.int .i64 0,.slice none 0 0,.slice none 0 0,.int .i64 0,.slice none 0 0,.slice none 0 0,.slice none 0 0,.slice none 0 0,.int .i64 0,.slice none 0 0],false⟩:=TyOk.of _ _ _ _ (.agg #[.int .i64 0,.int .i64 0,.int .i64 0,.slice none 0 0,.slice none 0 0,.int .i64 0,.slice none 0 0,.slice none 0 0,.slice none 0 0,.slice none 0 0,.int .i64 0,.slice none 0 0]) (by kernel_rfl) rfl (by exact ⟨_,Try.underlying83,rfl⟩) rfl rfl false (fun h=>by cases h)
theorem Yll:TyOk Try.prog 84 ⟨.struct [(0,3),(1,30)],12,208,[.int .i64 0,.int .i64 0,.int .i64 0,.slice none 0 0,.slice none 0 0,.int .i64 0,.slice none 0 0,.slice none 0 0,.slice none 0 0,.slice none 0 0,.int .i64 0,.slice none 0 0],false⟩:=TyOk.of _ _ _ _ (.agg #[.int .i64 0,.int .i64 0,.int .i64 0,.slice none 0 0,.slice none 0 0,.int .i64 0,.slice none 0 0,.slice none 0 0,.slice none 0 0,.slice none 0 0,.int .i64 0,.slice none 0 0]) (by kernel_rfl) rfl (by exact ⟨_,Try.underlying84,rfl⟩) rfl rfl false (fun h=>by cases h)
theorem Ylm:TyOk Try.prog 94 ⟨.struct [(0,25),(3,57),(4,57)],5,104,[.int .i64 0,.slice none 0 0,.slice none 0 0,.slice none 0 0,.slice none 0 0],false⟩:=TyOk.of _ _ _ _ (.agg #[.int .i64 0,.slice none 0 0,.slice none 0 0,.slice none 0 0,.slice none 0 0]) (by kernel_rfl) rfl (by exact ⟨_,Try.underlying94,rfl⟩) rfl rfl false (fun h=>by cases h)
theorem Yln:TyOk Try.prog 95 ⟨.struct [(0,25),(3,57),(4,57)],5,104,[.int .i64 0,.slice none 0 0,.slice none 0 0,.slice none 0 0,.slice none 0 0],false⟩:=TyOk.of _ _ _ _ (.agg #[.int .i64 0,.slice none 0 0,.slice none 0 0,.slice none 0 0,.slice none 0 0]) (by kernel_rfl) rfl (by exact ⟨_,Try.underlying95,rfl⟩) rfl rfl false (fun h=>by cases h)
theorem Yjg:TyOk Try.prog 101 ⟨.ptr 77,1,8,[.pointer none],false⟩:=TyOk.of _ _ _ _ (.pointer none) (by kernel_rfl) rfl (by exact Try.underlying101) rfl rfl false (fun h=>by cases h)
theorem Yjh:TyOk Try.prog 122 ⟨.ptr 25,1,8,[.pointer none],false⟩:=TyOk.of _ _ _ _ (.pointer none) (by kernel_rfl) rfl (by exact Try.underlying122) rfl rfl false (fun h=>by cases h)
theorem Yji:TyOk Try.prog 124 ⟨.struct [(0,23),(1,23)],2,48,[.slice none 0 0,.slice none 0 0],false⟩:=TyOk.of _ _ _ _ (.agg #[.slice none 0 0,.slice none 0 0]) (by kernel_rfl) rfl (by exact ⟨_,Try.underlying124,rfl⟩) rfl rfl false (fun h=>by cases h)
theorem Yjj:TyOk Try.prog 125 ⟨.struct [(0,23),(1,23)],2,48,[.slice none 0 0,.slice none 0 0],false⟩:=TyOk.of _ _ _ _ (.agg #[.slice none 0 0,.slice none 0 0]) (by kernel_rfl) rfl (by exact ⟨_,Try.underlying125,rfl⟩) rfl rfl false (fun h=>by cases h)
theorem Yjk:TyOk Try.prog 127 ⟨.ptr 138,1,8,[.pointer none],false⟩:=TyOk.of _ _ _ _ (.pointer none) (by kernel_rfl) rfl (by exact Try.underlying127) rfl rfl false (fun h=>by cases h)
theorem Yjl:TyOk Try.prog 132 ⟨.slice 136,1,24,[.slice none 0 0],false⟩:=TyOk.of _ _ _ _ (.slice none 0 0) (by kernel_rfl) rfl (by exact Try.underlying132) rfl rfl false (fun h=>by cases h)
theorem Yjm:TyOk Try.prog 135 ⟨.struct [(0,3),(1,75),(15,75)],29,488,[.int .i64 0,.int .i64 0,.int .i64 0,.slice none 0 0,.int .i64 0,.int .i64 0,.slice none 0 0,.slice none 0 0,.int .i64 0,.slice none 0 0,.slice none 0 0,.slice none 0 0,.slice none 0 0,.int .i64 0,.slice none 0 0,.int .i64 0,.int .i64 0,.slice none 0 0,.int .i64 0,.int .i64 0,.slice none 0 0,.slice none 0 0,.int .i64 0,.slice none 0 0,.slice none 0 0,.slice none 0 0,.slice none 0 0,.int .i64 0,.slice none 0 0],false⟩:=TyOk.of _ _ _ _ (.agg #[.int .i64 0,.int .i64 0,.int .i64 0,.slice none 0 0,.int .i64 0,.int .i64 0,.slice none 0 0,.slice none 0 0,.int .i64 0,.slice none 0 0,.slice none 0 0,.slice none 0 0,.slice none 0 0,.int .i64 0,.slice none 0 0,.int .i64 0,.int .i64 0,.slice none 0 0,.int .i64 0,.int .i64 0,.slice none 0 0,.slice none 0 0,.int .i64 0,.slice none 0 0,.slice none 0 0,.slice none 0 0,.slice none 0 0,.int .i64 0,.slice none 0 0]) (by kernel_rfl) rfl (by exact ⟨_,Try.underlying135,rfl⟩) rfl rfl false (fun h=>by cases h)
theorem Yjn:TyOk Try.prog 136 ⟨.struct [(0,3),(1,75),(15,75)],29,488,[.int .i64 0,.int .i64 0,.int .i64 0,.slice none 0 0,.int .i64 0,.int .i64 0,.slice none 0 0,.slice none 0 0,.int .i64 0,.slice none 0 0,.slice none 0 0,.slice none 0 0,.slice none 0 0,.int .i64 0,.slice none 0 0,.int .i64 0,.int .i64 0,.slice none 0 0,.int .i64 0,.int .i64 0,.slice none 0 0,.slice none 0 0,.int .i64 0,.slice none 0 0,.slice none 0 0,.slice none 0 0,.slice none 0 0,.int .i64 0,.slice none 0 0],false⟩:=TyOk.of _ _ _ _ (.agg #[.int .i64 0,.int .i64 0,.int .i64 0,.slice none 0 0,.int .i64 0,.int .i64 0,.slice none 0 0,.slice none 0 0,.int .i64 0,.slice none 0 0,.slice none 0 0,.slice none 0 0,.slice none 0 0,.int .i64 0,.slice none 0 0,.int .i64 0,.int .i64 0,.slice none 0 0,.int .i64 0,.int .i64 0,.slice none 0 0,.slice none 0 0,.int .i64 0,.slice none 0 0,.slice none 0 0,.slice none 0 0,.slice none 0 0,.int .i64 0,.slice none 0 0]) (by kernel_rfl) rfl (by exact ⟨_,Try.underlying136,rfl⟩) rfl rfl false (fun h=>by cases h)
theorem Yjo:TyOk Try.prog 137 ⟨.struct [(0,101),(1,30),(12,23)],13,232,[.pointer none,.int .i64 0,.int .i64 0,.slice none 0 0,.slice none 0 0,.int .i64 0,.slice none 0 0,.slice none 0 0,.slice none 0 0,.slice none 0 0,.int .i64 0,.slice none 0 0,.slice none 0 0],false⟩:=TyOk.of _ _ _ _ (.agg #[.pointer none,.int .i64 0,.int .i64 0,.slice none 0 0,.slice none 0 0,.int .i64 0,.slice none 0 0,.slice none 0 0,.slice none 0 0,.slice none 0 0,.int .i64 0,.slice none 0 0,.slice none 0 0]) (by kernel_rfl) rfl (by exact ⟨_,Try.underlying137,rfl⟩) rfl rfl false (fun h=>by cases h)
theorem Yjp:TyOk Try.prog 138 ⟨.struct [(0,101),(1,30),(12,23)],13,232,[.pointer none,.int .i64 0,.int .i64 0,.slice none 0 0,.slice none 0 0,.int .i64 0,.slice none 0 0,.slice none 0 0,.slice none 0 0,.slice none 0 0,.int .i64 0,.slice none 0 0,.slice none 0 0],false⟩:=TyOk.of _ _ _ _ (.agg #[.pointer none,.int .i64 0,.int .i64 0,.slice none 0 0,.slice none 0 0,.int .i64 0,.slice none 0 0,.slice none 0 0,.slice none 0 0,.slice none 0 0,.int .i64 0,.slice none 0 0,.slice none 0 0]) (by kernel_rfl) rfl (by exact ⟨_,Try.underlying138,rfl⟩) rfl rfl false (fun h=>by cases h)
theorem Yjq:TyOk Try.prog 141 ⟨.struct [(0,28),(1,3),(2,23),(3,23)],4,80,[.slice none 0 0,.int .i64 0,.slice none 0 0,.slice none 0 0],false⟩:=TyOk.of _ _ _ _ (.agg #[.slice none 0 0,.int .i64 0,.slice none 0 0,.slice none 0 0]) (by kernel_rfl) rfl (by exact ⟨_,Try.underlying141,rfl⟩) rfl rfl false (fun h=>by cases h)
theorem Yjr:TyOk Try.prog 142 ⟨.struct [(0,28),(1,3),(2,23),(3,23)],4,80,[.slice none 0 0,.int .i64 0,.slice none 0 0,.slice none 0 0],false⟩:=TyOk.of _ _ _ _ (.agg #[.slice none 0 0,.int .i64 0,.slice none 0 0,.slice none 0 0]) (by kernel_rfl) rfl (by exact ⟨_,Try.underlying142,rfl⟩) rfl rfl false (fun h=>by cases h)
theorem Yjs:TyOk Try.prog 145 ⟨.ptr 23,1,8,[.pointer none],false⟩:=TyOk.of _ _ _ _ (.pointer none) (by kernel_rfl) rfl (by exact Try.underlying145) rfl rfl false (fun h=>by cases h)
theorem Yjt:TyOk Try.prog 154 ⟨.arr 8 5,8,8,[.int .u8 0,.int .u8 0,.int .u8 0,.int .u8 0,.int .u8 0,.int .u8 0,.int .u8 0,.int .u8 0],false⟩:=TyOk.of _ _ _ _ (.agg #[.int .u8 0,.int .u8 0,.int .u8 0,.int .u8 0,.int .u8 0,.int .u8 0,.int .u8 0,.int .u8 0]) (by kernel_rfl) rfl (by exact Try.underlying154) rfl rfl false (fun h=>by cases h)
theorem Yju:TyOk Try.prog 158 ⟨.slice 5,1,24,[.slice none 0 0],false⟩:=TyOk.of _ _ _ _ (.slice none 0 0) (by kernel_rfl) rfl (by exact Try.underlying158) rfl rfl false (fun h=>by cases h)
theorem Yjv:TyOk Try.prog 159 ⟨.ptr 125,1,8,[.pointer none],false⟩:=TyOk.of _ _ _ _ (.pointer none) (by kernel_rfl) rfl (by exact Try.underlying159) rfl rfl false (fun h=>by cases h)
theorem Yjw:TyOk Try.prog 166 ⟨.ptr 142,1,8,[.pointer none],false⟩:=TyOk.of _ _ _ _ (.pointer none) (by kernel_rfl) rfl (by exact Try.underlying166) rfl rfl false (fun h=>by cases h)
theorem Yjx:TyOk Try.prog 169 ⟨.struct [(0,28),(1,3)],2,32,[.slice none 0 0,.int .i64 0],false⟩:=TyOk.of _ _ _ _ (.agg #[.slice none 0 0,.int .i64 0]) (by kernel_rfl) rfl (by exact ⟨_,Try.underlying169,rfl⟩) rfl rfl false (fun h=>by cases h)
theorem Yjy:TyOk Try.prog 170 ⟨.struct [(0,28),(1,3)],2,32,[.slice none 0 0,.int .i64 0],false⟩:=TyOk.of _ _ _ _ (.agg #[.slice none 0 0,.int .i64 0]) (by kernel_rfl) rfl (by exact ⟨_,Try.underlying170,rfl⟩) rfl rfl false (fun h=>by cases h)
theorem Yjz:TyOk Try.prog 184 ⟨.ptr 170,1,8,[.pointer none],false⟩:=TyOk.of _ _ _ _ (.pointer none) (by kernel_rfl) rfl (by exact Try.underlying184) rfl rfl false (fun h=>by cases h)
theorem Yj0:TyOk Try.prog 187 ⟨.arr 6 3,6,48,[.int .i64 0,.int .i64 0,.int .i64 0,.int .i64 0,.int .i64 0,.int .i64 0],false⟩:=TyOk.of _ _ _ _ (.agg #[.int .i64 0,.int .i64 0,.int .i64 0,.int .i64 0,.int .i64 0,.int .i64 0]) (by kernel_rfl) rfl (by exact Try.underlying187) rfl rfl false (fun h=>by cases h)
theorem Yj1:TyOk Try.prog 189 ⟨.struct [(0,17),(1,17),(2,17),(3,9)],4,40,[.pointer none,.pointer none,.pointer none,.string ByteArray.empty],false⟩:=TyOk.of _ _ _ _ (.agg #[.pointer none,.pointer none,.pointer none,.string ByteArray.empty]) (by kernel_rfl) rfl (by exact ⟨_,Try.underlying189,rfl⟩) rfl rfl false (fun h=>by cases h)
theorem Yj2:TyOk Try.prog 190 ⟨.struct [(0,17),(1,17),(2,17),(3,9)],4,40,[.pointer none,.pointer none,.pointer none,.string ByteArray.empty],false⟩:=TyOk.of _ _ _ _ (.agg #[.pointer none,.pointer none,.pointer none,.string ByteArray.empty]) (by kernel_rfl) rfl (by exact ⟨_,Try.underlying190,rfl⟩) rfl rfl false (fun h=>by cases h)
theorem Yj3:TyOk Try.prog 195 ⟨.int .u32,1,4,[.int .u32 0],false⟩:=TyOk.of _ _ _ _ (.int .u32 0) (by kernel_rfl) rfl (by exact Try.underlying195) rfl rfl false (fun h=>by cases h)
theorem Yj4:TyOk Try.prog 196 ⟨.int .u8,1,1,[.int .u8 0],false⟩:=TyOk.of _ _ _ _ (.int .u8 0) (by kernel_rfl) rfl (by exact Try.underlying196) rfl rfl false (fun h=>by cases h)
theorem Yj5:TyOk Try.prog 197 ⟨.int .u8,1,1,[.int .u8 0],false⟩:=TyOk.of _ _ _ _ (.int .u8 0) (by kernel_rfl) rfl (by exact Try.underlying197) rfl rfl false (fun h=>by cases h)
theorem Yj6:TyOk Try.prog 199 ⟨.ptr 5,1,8,[.pointer none],false⟩:=TyOk.of _ _ _ _ (.pointer none) (by kernel_rfl) rfl (by exact Try.underlying199) rfl rfl false (fun h=>by cases h)
theorem Yj7:TyOk Try.prog 200 ⟨.int .i32,1,4,[.int .i32 0],false⟩:=TyOk.of _ _ _ _ (.int .i32 0) (by kernel_rfl) rfl (by exact Try.underlying200) rfl rfl false (fun h=>by cases h)
theorem Yj8:TyOk Try.prog 201 ⟨.int .i32,1,4,[.int .i32 0],false⟩:=TyOk.of _ _ _ _ (.int .i32 0) (by kernel_rfl) rfl (by exact Try.underlying201) rfl rfl false (fun h=>by cases h)
def tabL:List (Nat×TyI):=[(2,⟨.int .i64,1,8,[.int .i64 0],false⟩),
 (3,⟨.int .i64,1,8,[.int .i64 0],false⟩),
 (4,⟨.bool,1,1,[.bool false],false⟩),
 (5,⟨.int .u8,1,1,[.int .u8 0],false⟩),
 (6,⟨.int .u8,1,1,[.int .u8 0],false⟩),
 (7,⟨.struct [(0,2),(1,3),(2,4),(3,6)],4,24,[.int .i64 0,.int .i64 0,.bool false,.int .u8 0],false⟩),
 (8,⟨.struct [(0,2),(1,3),(2,4),(3,6)],4,24,[.int .i64 0,.int .i64 0,.bool false,.int .u8 0],false⟩),
 (9,⟨.str,1,16,[.string ByteArray.empty],false⟩),
 (10,⟨.str,1,16,[.string ByteArray.empty],false⟩),
 (11,⟨.str,1,16,[.string ByteArray.empty],false⟩),
 (12,⟨.int .u64,1,8,[.int .u64 0],false⟩),
 (13,⟨.struct [(0,9),(1,12)],2,24,[.string ByteArray.empty,.int .u64 0],false⟩),
 (14,⟨.struct [(0,9),(1,12)],2,24,[.string ByteArray.empty,.int .u64 0],false⟩),
 (15,⟨.ptr 190,1,8,[.pointer none],false⟩),
 (16,⟨.ptr 193,1,8,[.pointer none],false⟩),
 (17,⟨.ptr 203,1,8,[.pointer none],false⟩),
 (18,⟨.struct [(0,17)],1,8,[.pointer none],false⟩),
 (19,⟨.struct [(0,17)],1,8,[.pointer none],false⟩),
 (21,⟨.int .i32,1,4,[.int .i32 0],false⟩),
 (22,⟨.slice 73,1,24,[.slice none 0 0],false⟩),
 (23,⟨.slice 25,1,24,[.slice none 0 0],false⟩),
 (24,⟨.struct [(0,3),(1,22),(2,23)],3,56,[.int .i64 0,.slice none 0 0,.slice none 0 0],false⟩),
 (25,⟨.struct [(0,3),(1,22),(2,23)],3,56,[.int .i64 0,.slice none 0 0,.slice none 0 0],false⟩),
 (26,⟨.slice 82,1,24,[.slice none 0 0],false⟩),
 (27,⟨.slice 84,1,24,[.slice none 0 0],false⟩),
 (28,⟨.slice 75,1,24,[.slice none 0 0],false⟩),
 (29,⟨.struct [(0,3),(1,25),(4,25),(7,26),(8,27),(9,3),(10,28)],11,200,[.int .i64 0,.int .i64 0,.slice none 0 0,.slice none 0 0,.int .i64 0,.slice none 0 0,.slice none 0 0,.slice none 0 0,.slice none 0 0,.int .i64 0,.slice none 0 0],false⟩),
 (30,⟨.struct [(0,3),(1,25),(4,25),(7,26),(8,27),(9,3),(10,28)],11,200,[.int .i64 0,.int .i64 0,.slice none 0 0,.slice none 0 0,.int .i64 0,.slice none 0 0,.slice none 0 0,.slice none 0 0,.slice none 0 0,.int .i64 0,.slice none 0 0],false⟩),
 (36,⟨.int .i64,1,8,[.int .i64 0],false⟩),
 (43,⟨.slice 54,1,24,[.slice none 0 0],false⟩),
 (53,⟨.struct [(0,3),(1,3)],2,16,[.int .i64 0,.int .i64 0],false⟩),
 (54,⟨.struct [(0,3),(1,3)],2,16,[.int .i64 0,.int .i64 0],true⟩),
 (57,⟨.slice 30,1,24,[.slice none 0 0],false⟩),
 (62,⟨.ptr 95,1,8,[.pointer none],false⟩),
 (65,⟨.struct [(0,3),(1,3),(2,30)],13,216,[.int .i64 0,.int .i64 0,.int .i64 0,.int .i64 0,.slice none 0 0,.slice none 0 0,.int .i64 0,.slice none 0 0,.slice none 0 0,.slice none 0 0,.slice none 0 0,.int .i64 0,.slice none 0 0],false⟩),
 (66,⟨.struct [(0,3),(1,3),(2,30)],13,216,[.int .i64 0,.int .i64 0,.int .i64 0,.int .i64 0,.slice none 0 0,.slice none 0 0,.int .i64 0,.slice none 0 0,.slice none 0 0,.slice none 0 0,.slice none 0 0,.int .i64 0,.slice none 0 0],false⟩),
 (73,⟨.int .u64,1,8,[.int .u64 0],false⟩),
 (74,⟨.struct [(0,3),(1,3),(2,23),(3,30)],14,240,[.int .i64 0,.int .i64 0,.slice none 0 0,.int .i64 0,.int .i64 0,.slice none 0 0,.slice none 0 0,.int .i64 0,.slice none 0 0,.slice none 0 0,.slice none 0 0,.slice none 0 0,.int .i64 0,.slice none 0 0],false⟩),
 (75,⟨.struct [(0,3),(1,3),(2,23),(3,30)],14,240,[.int .i64 0,.int .i64 0,.slice none 0 0,.int .i64 0,.int .i64 0,.slice none 0 0,.slice none 0 0,.int .i64 0,.slice none 0 0,.slice none 0 0,.slice none 0 0,.slice none 0 0,.int .i64 0,.slice none 0 0],false⟩),
 (76,⟨.struct [(0,4),(1,4)],2,2,[.bool false,.bool false],false⟩),
 (77,⟨.struct [(0,4),(1,4)],2,2,[.bool false,.bool false],true⟩),
 (81,⟨.struct [(0,3),(1,5),(2,73),(3,73)],4,32,[.int .i64 0,.int .u8 0,.int .u64 0,.int .u64 0],false⟩),
 (82,⟨.struct [(0,3),(1,5),(2,73),(3,73)],4,32,[.int .i64 0,.int .u8 0,.int .u64 0,.int .u64 0],true⟩),
 (83,⟨.struct [(0,3),(1,30)],12,208,[.int .i64 0,.int .i64 0,.int .i64 0,.slice none 0 0,.slice none 0 0,.int .i64 0,.slice none 0 0,.slice none 0 0,.slice none 0 0,.slice none 0 0,.int .i64 0,.slice none 0 0],false⟩),
 (84,⟨.struct [(0,3),(1,30)],12,208,[.int .i64 0,.int .i64 0,.int .i64 0,.slice none 0 0,.slice none 0 0,.int .i64 0,.slice none 0 0,.slice none 0 0,.slice none 0 0,.slice none 0 0,.int .i64 0,.slice none 0 0],false⟩),
 (94,⟨.struct [(0,25),(3,57),(4,57)],5,104,[.int .i64 0,.slice none 0 0,.slice none 0 0,.slice none 0 0,.slice none 0 0],false⟩),
 (95,⟨.struct [(0,25),(3,57),(4,57)],5,104,[.int .i64 0,.slice none 0 0,.slice none 0 0,.slice none 0 0,.slice none 0 0],false⟩),
 (101,⟨.ptr 77,1,8,[.pointer none],false⟩),
 (122,⟨.ptr 25,1,8,[.pointer none],false⟩),
 (124,⟨.struct [(0,23),(1,23)],2,48,[.slice none 0 0,.slice none 0 0],false⟩),
 (125,⟨.struct [(0,23),(1,23)],2,48,[.slice none 0 0,.slice none 0 0],false⟩),
 (127,⟨.ptr 138,1,8,[.pointer none],false⟩),
 (132,⟨.slice 136,1,24,[.slice none 0 0],false⟩),
 (135,⟨.struct [(0,3),(1,75),(15,75)],29,488,[.int .i64 0,.int .i64 0,.int .i64 0,.slice none 0 0,.int .i64 0,.int .i64 0,.slice none 0 0,.slice none 0 0,.int .i64 0,.slice none 0 0,.slice none 0 0,.slice none 0 0,.slice none 0 0,.int .i64 0,.slice none 0 0,.int .i64 0,.int .i64 0,.slice none 0 0,.int .i64 0,.int .i64 0,.slice none 0 0,.slice none 0 0,.int .i64 0,.slice none 0 0,.slice none 0 0,.slice none 0 0,.slice none 0 0,.int .i64 0,.slice none 0 0],false⟩),
 (136,⟨.struct [(0,3),(1,75),(15,75)],29,488,[.int .i64 0,.int .i64 0,.int .i64 0,.slice none 0 0,.int .i64 0,.int .i64 0,.slice none 0 0,.slice none 0 0,.int .i64 0,.slice none 0 0,.slice none 0 0,.slice none 0 0,.slice none 0 0,.int .i64 0,.slice none 0 0,.int .i64 0,.int .i64 0,.slice none 0 0,.int .i64 0,.int .i64 0,.slice none 0 0,.slice none 0 0,.int .i64 0,.slice none 0 0,.slice none 0 0,.slice none 0 0,.slice none 0 0,.int .i64 0,.slice none 0 0],false⟩),
 (137,⟨.struct [(0,101),(1,30),(12,23)],13,232,[.pointer none,.int .i64 0,.int .i64 0,.slice none 0 0,.slice none 0 0,.int .i64 0,.slice none 0 0,.slice none 0 0,.slice none 0 0,.slice none 0 0,.int .i64 0,.slice none 0 0,.slice none 0 0],false⟩),
 (138,⟨.struct [(0,101),(1,30),(12,23)],13,232,[.pointer none,.int .i64 0,.int .i64 0,.slice none 0 0,.slice none 0 0,.int .i64 0,.slice none 0 0,.slice none 0 0,.slice none 0 0,.slice none 0 0,.int .i64 0,.slice none 0 0,.slice none 0 0],false⟩),
 (141,⟨.struct [(0,28),(1,3),(2,23),(3,23)],4,80,[.slice none 0 0,.int .i64 0,.slice none 0 0,.slice none 0 0],false⟩),
 (142,⟨.struct [(0,28),(1,3),(2,23),(3,23)],4,80,[.slice none 0 0,.int .i64 0,.slice none 0 0,.slice none 0 0],false⟩),
 (145,⟨.ptr 23,1,8,[.pointer none],false⟩),
 (154,⟨.arr 8 5,8,8,[.int .u8 0,.int .u8 0,.int .u8 0,.int .u8 0,.int .u8 0,.int .u8 0,.int .u8 0,.int .u8 0],false⟩),
 (158,⟨.slice 5,1,24,[.slice none 0 0],false⟩),
 (159,⟨.ptr 125,1,8,[.pointer none],false⟩),
 (166,⟨.ptr 142,1,8,[.pointer none],false⟩),
 (169,⟨.struct [(0,28),(1,3)],2,32,[.slice none 0 0,.int .i64 0],false⟩),
 (170,⟨.struct [(0,28),(1,3)],2,32,[.slice none 0 0,.int .i64 0],false⟩),
 (184,⟨.ptr 170,1,8,[.pointer none],false⟩),
 (187,⟨.arr 6 3,6,48,[.int .i64 0,.int .i64 0,.int .i64 0,.int .i64 0,.int .i64 0,.int .i64 0],false⟩),
 (189,⟨.struct [(0,17),(1,17),(2,17),(3,9)],4,40,[.pointer none,.pointer none,.pointer none,.string ByteArray.empty],false⟩),
 (190,⟨.struct [(0,17),(1,17),(2,17),(3,9)],4,40,[.pointer none,.pointer none,.pointer none,.string ByteArray.empty],false⟩),
 (195,⟨.int .u32,1,4,[.int .u32 0],false⟩),
 (196,⟨.int .u8,1,1,[.int .u8 0],false⟩),
 (197,⟨.int .u8,1,1,[.int .u8 0],false⟩),
 (199,⟨.ptr 5,1,8,[.pointer none],false⟩),
 (200,⟨.int .i32,1,4,[.int .i32 0],false⟩),
 (201,⟨.int .i32,1,4,[.int .i32 0],false⟩)]
def Q1:V3:=fun t=>tabL.lookup t
theorem Zz:Jd Try.prog Q1:=fun t i h=>by
 have hm:=Z0e _ h
 unfold tabL at hm
 simp only [List.mem_cons,Prod.mk.injEq,List.not_mem_nil,or_false] at hm
 rcases hm with ⟨rfl,rfl⟩ | ⟨rfl,rfl⟩ | ⟨rfl,rfl⟩ | ⟨rfl,rfl⟩ | ⟨rfl,rfl⟩ | ⟨rfl,rfl⟩ | ⟨rfl,rfl⟩ | ⟨rfl,rfl⟩ | ⟨rfl,rfl⟩ | ⟨rfl,rfl⟩ | ⟨rfl,rfl⟩ | ⟨rfl,rfl⟩ | ⟨rfl,rfl⟩ | ⟨rfl,rfl⟩ | ⟨rfl,rfl⟩ | ⟨rfl,rfl⟩ | ⟨rfl,rfl⟩ | ⟨rfl,rfl⟩ | ⟨rfl,rfl⟩ | ⟨rfl,rfl⟩ | ⟨rfl,rfl⟩ | ⟨rfl,rfl⟩ | ⟨rfl,rfl⟩ | ⟨rfl,rfl⟩ | ⟨rfl,rfl⟩ | ⟨rfl,rfl⟩ | ⟨rfl,rfl⟩ | ⟨rfl,rfl⟩ | ⟨rfl,rfl⟩ | ⟨rfl,rfl⟩ | ⟨rfl,rfl⟩ | ⟨rfl,rfl⟩ | ⟨rfl,rfl⟩ | ⟨rfl,rfl⟩ | ⟨rfl,rfl⟩ | ⟨rfl,rfl⟩ | ⟨rfl,rfl⟩ | ⟨rfl,rfl⟩ | ⟨rfl,rfl⟩ | ⟨rfl,rfl⟩ | ⟨rfl,rfl⟩ | ⟨rfl,rfl⟩ | ⟨rfl,rfl⟩ | ⟨rfl,rfl⟩ | ⟨rfl,rfl⟩ | ⟨rfl,rfl⟩ | ⟨rfl,rfl⟩ | ⟨rfl,rfl⟩ | ⟨rfl,rfl⟩ | ⟨rfl,rfl⟩ | ⟨rfl,rfl⟩ | ⟨rfl,rfl⟩ | ⟨rfl,rfl⟩ | ⟨rfl,rfl⟩ | ⟨rfl,rfl⟩ | ⟨rfl,rfl⟩ | ⟨rfl,rfl⟩ | ⟨rfl,rfl⟩ | ⟨rfl,rfl⟩ | ⟨rfl,rfl⟩ | ⟨rfl,rfl⟩ | ⟨rfl,rfl⟩ | ⟨rfl,rfl⟩ | ⟨rfl,rfl⟩ | ⟨rfl,rfl⟩ | ⟨rfl,rfl⟩ | ⟨rfl,rfl⟩ | ⟨rfl,rfl⟩ | ⟨rfl,rfl⟩ | ⟨rfl,rfl⟩ | ⟨rfl,rfl⟩ | ⟨rfl,rfl⟩ | ⟨rfl,rfl⟩ | ⟨rfl,rfl⟩ | ⟨rfl,rfl⟩ | ⟨rfl,rfl⟩
 ·exact ty2
 ·exact ty3
 ·exact ty4
 ·exact ty5
 ·exact ty6
 ·exact ty7
 ·exact ty8
 ·exact ty9
 ·exact Ykl
 ·exact Ykm
 ·exact Ykn
 ·exact Yko
 ·exact Ykp
 ·exact Ykq
 ·exact Ykr
 ·exact Yks
 ·exact Ykt
 ·exact Yku
 ·exact Ykv
 ·exact Ykw
 ·exact Ykx
 ·exact Yky
 ·exact Ykz
 ·exact Yk0
 ·exact Yk1
 ·exact Yk2
 ·exact Yk3
 ·exact Yk4
 ·exact Yk5
 ·exact Yk6
 ·exact Yk7
 ·exact Yk8
 ·exact Yk9
 ·exact Yla
 ·exact Ylb
 ·exact Ylc
 ·exact Yld
 ·exact Yle
 ·exact Ylf
 ·exact Ylg
 ·exact Ylh
 ·exact Yli
 ·exact Ylj
 ·exact Ylk
 ·exact Yll
 ·exact Ylm
 ·exact Yln
 ·exact Yjg
 ·exact Yjh
 ·exact Yji
 ·exact Yjj
 ·exact Yjk
 ·exact Yjl
 ·exact Yjm
 ·exact Yjn
 ·exact Yjo
 ·exact Yjp
 ·exact Yjq
 ·exact Yjr
 ·exact Yjs
 ·exact Yjt
 ·exact Yju
 ·exact Yjv
 ·exact Yjw
 ·exact Yjx
 ·exact Yjy
 ·exact Yjz
 ·exact Yj0
 ·exact Yj1
 ·exact Yj2
 ·exact Yj3
 ·exact Yj4
 ·exact Yj5
 ·exact Yj6
 ·exact Yj7
 exact Yj8
theorem Ygl:Q1 2=some ⟨.int .i64,1,8,[.int .i64 0],false⟩:=rfl
theorem Zmp:Q1 3=some ⟨.int .i64,1,8,[.int .i64 0],false⟩:=rfl
theorem Ygm:Q1 4=some ⟨.bool,1,1,[.bool false],false⟩:=rfl
theorem Z5o:Q1 5=some ⟨.int .u8,1,1,[.int .u8 0],false⟩:=rfl
theorem Ygn:Q1 6=some ⟨.int .u8,1,1,[.int .u8 0],false⟩:=rfl
theorem Ygo:Q1 7=some ⟨.struct [(0,2),(1,3),(2,4),(3,6)],4,24,[.int .i64 0,.int .i64 0,.bool false,.int .u8 0],false⟩:=rfl
theorem Ygp:Q1 8=some ⟨.struct [(0,2),(1,3),(2,4),(3,6)],4,24,[.int .i64 0,.int .i64 0,.bool false,.int .u8 0],false⟩:=rfl
theorem Ygq:Q1 9=some ⟨.str,1,16,[.string ByteArray.empty],false⟩:=rfl
theorem Yaf:Q1 10=some ⟨.str,1,16,[.string ByteArray.empty],false⟩:=rfl
theorem Yag:Q1 11=some ⟨.str,1,16,[.string ByteArray.empty],false⟩:=rfl
theorem Yah:Q1 12=some ⟨.int .u64,1,8,[.int .u64 0],false⟩:=rfl
theorem Yai:Q1 13=some ⟨.struct [(0,9),(1,12)],2,24,[.string ByteArray.empty,.int .u64 0],false⟩:=rfl
theorem Yaj:Q1 14=some ⟨.struct [(0,9),(1,12)],2,24,[.string ByteArray.empty,.int .u64 0],false⟩:=rfl
theorem Yak:Q1 15=some ⟨.ptr 190,1,8,[.pointer none],false⟩:=rfl
theorem Yal:Q1 16=some ⟨.ptr 193,1,8,[.pointer none],false⟩:=rfl
theorem Yam:Q1 17=some ⟨.ptr 203,1,8,[.pointer none],false⟩:=rfl
theorem Yan:Q1 18=some ⟨.struct [(0,17)],1,8,[.pointer none],false⟩:=rfl
theorem Yao:Q1 19=some ⟨.struct [(0,17)],1,8,[.pointer none],false⟩:=rfl
theorem Yap:Q1 21=some ⟨.int .i32,1,4,[.int .i32 0],false⟩:=rfl
theorem Yaq:Q1 22=some ⟨.slice 73,1,24,[.slice none 0 0],false⟩:=rfl
theorem Z1e:Q1 23=some ⟨.slice 25,1,24,[.slice none 0 0],false⟩:=rfl
theorem Yar:Q1 24=some ⟨.struct [(0,3),(1,22),(2,23)],3,56,[.int .i64 0,.slice none 0 0,.slice none 0 0],false⟩:=rfl
theorem Vh:Q1 25=some ⟨.struct [(0,3),(1,22),(2,23)],3,56,[.int .i64 0,.slice none 0 0,.slice none 0 0],false⟩:=rfl
theorem Yas:Q1 26=some ⟨.slice 82,1,24,[.slice none 0 0],false⟩:=rfl
theorem Yat:Q1 27=some ⟨.slice 84,1,24,[.slice none 0 0],false⟩:=rfl
theorem Yau:Q1 28=some ⟨.slice 75,1,24,[.slice none 0 0],false⟩:=rfl
theorem Yav:Q1 29=some ⟨.struct [(0,3),(1,25),(4,25),(7,26),(8,27),(9,3),(10,28)],11,200,[.int .i64 0,.int .i64 0,.slice none 0 0,.slice none 0 0,.int .i64 0,.slice none 0 0,.slice none 0 0,.slice none 0 0,.slice none 0 0,.int .i64 0,.slice none 0 0],false⟩:=rfl
theorem Zmq:Q1 30=some ⟨.struct [(0,3),(1,25),(4,25),(7,26),(8,27),(9,3),(10,28)],11,200,[.int .i64 0,.int .i64 0,.slice none 0 0,.slice none 0 0,.int .i64 0,.slice none 0 0,.slice none 0 0,.slice none 0 0,.slice none 0 0,.int .i64 0,.slice none 0 0],false⟩:=rfl
theorem Yaw:Q1 36=some ⟨.int .i64,1,8,[.int .i64 0],false⟩:=rfl
theorem Yax:Q1 43=some ⟨.slice 54,1,24,[.slice none 0 0],false⟩:=rfl
theorem Yay:Q1 53=some ⟨.struct [(0,3),(1,3)],2,16,[.int .i64 0,.int .i64 0],false⟩:=rfl
theorem Zja:Q1 54=some ⟨.struct [(0,3),(1,3)],2,16,[.int .i64 0,.int .i64 0],true⟩:=rfl
theorem Yaz:Q1 57=some ⟨.slice 30,1,24,[.slice none 0 0],false⟩:=rfl
theorem Ya0:Q1 62=some ⟨.ptr 95,1,8,[.pointer none],false⟩:=rfl
theorem Ya1:Q1 65=some ⟨.struct [(0,3),(1,3),(2,30)],13,216,[.int .i64 0,.int .i64 0,.int .i64 0,.int .i64 0,.slice none 0 0,.slice none 0 0,.int .i64 0,.slice none 0 0,.slice none 0 0,.slice none 0 0,.slice none 0 0,.int .i64 0,.slice none 0 0],false⟩:=rfl
theorem Ya2:Q1 66=some ⟨.struct [(0,3),(1,3),(2,30)],13,216,[.int .i64 0,.int .i64 0,.int .i64 0,.int .i64 0,.slice none 0 0,.slice none 0 0,.int .i64 0,.slice none 0 0,.slice none 0 0,.slice none 0 0,.slice none 0 0,.int .i64 0,.slice none 0 0],false⟩:=rfl
theorem Zh6:Q1 73=some ⟨.int .u64,1,8,[.int .u64 0],false⟩:=rfl
theorem Ya3:Q1 74=some ⟨.struct [(0,3),(1,3),(2,23),(3,30)],14,240,[.int .i64 0,.int .i64 0,.slice none 0 0,.int .i64 0,.int .i64 0,.slice none 0 0,.slice none 0 0,.int .i64 0,.slice none 0 0,.slice none 0 0,.slice none 0 0,.slice none 0 0,.int .i64 0,.slice none 0 0],false⟩:=rfl
theorem Zbe:Q1 75=some ⟨.struct [(0,3),(1,3),(2,23),(3,30)],14,240,[.int .i64 0,.int .i64 0,.slice none 0 0,.int .i64 0,.int .i64 0,.slice none 0 0,.slice none 0 0,.int .i64 0,.slice none 0 0,.slice none 0 0,.slice none 0 0,.slice none 0 0,.int .i64 0,.slice none 0 0],false⟩:=rfl
theorem Ya4:Q1 76=some ⟨.struct [(0,4),(1,4)],2,2,[.bool false,.bool false],false⟩:=rfl
theorem Ya5:Q1 77=some ⟨.struct [(0,4),(1,4)],2,2,[.bool false,.bool false],true⟩:=rfl
theorem Ya6:Q1 81=some ⟨.struct [(0,3),(1,5),(2,73),(3,73)],4,32,[.int .i64 0,.int .u8 0,.int .u64 0,.int .u64 0],false⟩:=rfl
theorem Zt9:Q1 82=some ⟨.struct [(0,3),(1,5),(2,73),(3,73)],4,32,[.int .i64 0,.int .u8 0,.int .u64 0,.int .u64 0],true⟩:=rfl
theorem Ya7:Q1 83=some ⟨.struct [(0,3),(1,30)],12,208,[.int .i64 0,.int .i64 0,.int .i64 0,.slice none 0 0,.slice none 0 0,.int .i64 0,.slice none 0 0,.slice none 0 0,.slice none 0 0,.slice none 0 0,.int .i64 0,.slice none 0 0],false⟩:=rfl
theorem Zkq:Q1 84=some ⟨.struct [(0,3),(1,30)],12,208,[.int .i64 0,.int .i64 0,.int .i64 0,.slice none 0 0,.slice none 0 0,.int .i64 0,.slice none 0 0,.slice none 0 0,.slice none 0 0,.slice none 0 0,.int .i64 0,.slice none 0 0],false⟩:=rfl
theorem Ya8:Q1 94=some ⟨.struct [(0,25),(3,57),(4,57)],5,104,[.int .i64 0,.slice none 0 0,.slice none 0 0,.slice none 0 0,.slice none 0 0],false⟩:=rfl
theorem Ya9:Q1 95=some ⟨.struct [(0,25),(3,57),(4,57)],5,104,[.int .i64 0,.slice none 0 0,.slice none 0 0,.slice none 0 0,.slice none 0 0],false⟩:=rfl
theorem Z4w:Q1 101=some ⟨.ptr 77,1,8,[.pointer none],false⟩:=rfl
theorem Z4x:Q1 122=some ⟨.ptr 25,1,8,[.pointer none],false⟩:=rfl
theorem Z4y:Q1 124=some ⟨.struct [(0,23),(1,23)],2,48,[.slice none 0 0,.slice none 0 0],false⟩:=rfl
theorem Z4z:Q1 125=some ⟨.struct [(0,23),(1,23)],2,48,[.slice none 0 0,.slice none 0 0],false⟩:=rfl
theorem Z40:Q1 127=some ⟨.ptr 138,1,8,[.pointer none],false⟩:=rfl
theorem Z41:Q1 132=some ⟨.slice 136,1,24,[.slice none 0 0],false⟩:=rfl
theorem Z42:Q1 135=some ⟨.struct [(0,3),(1,75),(15,75)],29,488,[.int .i64 0,.int .i64 0,.int .i64 0,.slice none 0 0,.int .i64 0,.int .i64 0,.slice none 0 0,.slice none 0 0,.int .i64 0,.slice none 0 0,.slice none 0 0,.slice none 0 0,.slice none 0 0,.int .i64 0,.slice none 0 0,.int .i64 0,.int .i64 0,.slice none 0 0,.int .i64 0,.int .i64 0,.slice none 0 0,.slice none 0 0,.int .i64 0,.slice none 0 0,.slice none 0 0,.slice none 0 0,.slice none 0 0,.int .i64 0,.slice none 0 0],false⟩:=rfl
theorem Z43:Q1 136=some ⟨.struct [(0,3),(1,75),(15,75)],29,488,[.int .i64 0,.int .i64 0,.int .i64 0,.slice none 0 0,.int .i64 0,.int .i64 0,.slice none 0 0,.slice none 0 0,.int .i64 0,.slice none 0 0,.slice none 0 0,.slice none 0 0,.slice none 0 0,.int .i64 0,.slice none 0 0,.int .i64 0,.int .i64 0,.slice none 0 0,.int .i64 0,.int .i64 0,.slice none 0 0,.slice none 0 0,.int .i64 0,.slice none 0 0,.slice none 0 0,.slice none 0 0,.slice none 0 0,.int .i64 0,.slice none 0 0],false⟩:=rfl
theorem Z44:Q1 137=some ⟨.struct [(0,101),(1,30),(12,23)],13,232,[.pointer none,.int .i64 0,.int .i64 0,.slice none 0 0,.slice none 0 0,.int .i64 0,.slice none 0 0,.slice none 0 0,.slice none 0 0,.slice none 0 0,.int .i64 0,.slice none 0 0,.slice none 0 0],false⟩:=rfl
theorem Z45:Q1 138=some ⟨.struct [(0,101),(1,30),(12,23)],13,232,[.pointer none,.int .i64 0,.int .i64 0,.slice none 0 0,.slice none 0 0,.int .i64 0,.slice none 0 0,.slice none 0 0,.slice none 0 0,.slice none 0 0,.int .i64 0,.slice none 0 0,.slice none 0 0],false⟩:=rfl
theorem Z46:Q1 141=some ⟨.struct [(0,28),(1,3),(2,23),(3,23)],4,80,[.slice none 0 0,.int .i64 0,.slice none 0 0,.slice none 0 0],false⟩:=rfl
theorem Z47:Q1 142=some ⟨.struct [(0,28),(1,3),(2,23),(3,23)],4,80,[.slice none 0 0,.int .i64 0,.slice none 0 0,.slice none 0 0],false⟩:=rfl
theorem Z48:Q1 145=some ⟨.ptr 23,1,8,[.pointer none],false⟩:=rfl
theorem Zv1:Q1 154=some ⟨.arr 8 5,8,8,[.int .u8 0,.int .u8 0,.int .u8 0,.int .u8 0,.int .u8 0,.int .u8 0,.int .u8 0,.int .u8 0],false⟩:=rfl
theorem Z49:Q1 158=some ⟨.slice 5,1,24,[.slice none 0 0],false⟩:=rfl
theorem Z5a:Q1 159=some ⟨.ptr 125,1,8,[.pointer none],false⟩:=rfl
theorem Z5b:Q1 166=some ⟨.ptr 142,1,8,[.pointer none],false⟩:=rfl
theorem Z5c:Q1 169=some ⟨.struct [(0,28),(1,3)],2,32,[.slice none 0 0,.int .i64 0],false⟩:=rfl
theorem Z5d:Q1 170=some ⟨.struct [(0,28),(1,3)],2,32,[.slice none 0 0,.int .i64 0],false⟩:=rfl
theorem Z5e:Q1 184=some ⟨.ptr 170,1,8,[.pointer none],false⟩:=rfl
theorem Z5f:Q1 187=some ⟨.arr 6 3,6,48,[.int .i64 0,.int .i64 0,.int .i64 0,.int .i64 0,.int .i64 0,.int .i64 0],false⟩:=rfl
theorem Z5g:Q1 189=some ⟨.struct [(0,17),(1,17),(2,17),(3,9)],4,40,[.pointer none,.pointer none,.pointer none,.string ByteArray.empty],false⟩:=rfl
theorem Z5h:Q1 190=some ⟨.struct [(0,17),(1,17),(2,17),(3,9)],4,40,[.pointer none,.pointer none,.pointer none,.string ByteArray.empty],false⟩:=rfl
theorem Z5i:Q1 195=some ⟨.int .u32,1,4,[.int .u32 0],false⟩:=rfl
theorem Z5j:Q1 196=some ⟨.int .u8,1,1,[.int .u8 0],false⟩:=rfl
theorem Z5k:Q1 197=some ⟨.int .u8,1,1,[.int .u8 0],false⟩:=rfl
theorem Z5l:Q1 199=some ⟨.ptr 5,1,8,[.pointer none],false⟩:=rfl
theorem Z5m:Q1 200=some ⟨.int .i32,1,4,[.int .i32 0],false⟩:=rfl
theorem Z5n:Q1 201=some ⟨.int .i32,1,4,[.int .i32 0],false⟩:=rfl
theorem Z5q:Yq Q1 2=some (.int .i64):=rfl
theorem Z5r:Yq Q1 3=some (.int .i64):=rfl
theorem Z5s:Yq Q1 4=some (.bool):=rfl
theorem Z5t:Yq Q1 5=some (.int .u8):=rfl
theorem Z5u:Yq Q1 6=some (.int .u8):=rfl
theorem Z5v:Yq Q1 7=some (.struct [(0,2),(1,3),(2,4),(3,6)]):=rfl
theorem Z5w:Yq Q1 8=some (.struct [(0,2),(1,3),(2,4),(3,6)]):=rfl
theorem Z5x:Yq Q1 9=some (.str):=rfl
theorem Zx9:Yq Q1 10=some (.str):=rfl
theorem Zya:Yq Q1 11=some (.str):=rfl
theorem Zyb:Yq Q1 12=some (.int .u64):=rfl
theorem Zyc:Yq Q1 13=some (.struct [(0,9),(1,12)]):=rfl
theorem Zyd:Yq Q1 14=some (.struct [(0,9),(1,12)]):=rfl
theorem Zye:Yq Q1 15=some (.ptr 190):=rfl
theorem Zyf:Yq Q1 16=some (.ptr 193):=rfl
theorem Zyg:Yq Q1 17=some (.ptr 203):=rfl
theorem Zyh:Yq Q1 18=some (.struct [(0,17)]):=rfl
theorem Zyi:Yq Q1 19=some (.struct [(0,17)]):=rfl
theorem Zyj:Yq Q1 21=some (.int .i32):=rfl
theorem Zqw:Yq Q1 22=some (.slice 73):=rfl
theorem Zgw:Yq Q1 23=some (.slice 25):=rfl
theorem Zyk:Yq Q1 24=some (.struct [(0,3),(1,22),(2,23)]):=rfl
theorem Zyl:Yq Q1 25=some (.struct [(0,3),(1,22),(2,23)]):=rfl
theorem Zym:Yq Q1 26=some (.slice 82):=rfl
theorem Zyn:Yq Q1 27=some (.slice 84):=rfl
theorem Zyo:Yq Q1 28=some (.slice 75):=rfl
theorem Zyp:Yq Q1 29=some (.struct [(0,3),(1,25),(4,25),(7,26),(8,27),(9,3),(10,28)]):=rfl
theorem Zyq:Yq Q1 30=some (.struct [(0,3),(1,25),(4,25),(7,26),(8,27),(9,3),(10,28)]):=rfl
theorem Zyr:Yq Q1 36=some (.int .i64):=rfl
theorem Zn5:Yq Q1 43=some (.slice 54):=rfl
theorem Zys:Yq Q1 53=some (.struct [(0,3),(1,3)]):=rfl
theorem Zyt:Yq Q1 54=some (.struct [(0,3),(1,3)]):=rfl
theorem Zyu:Yq Q1 57=some (.slice 30):=rfl
theorem Zyv:Yq Q1 62=some (.ptr 95):=rfl
theorem Zyw:Yq Q1 65=some (.struct [(0,3),(1,3),(2,30)]):=rfl
theorem Zyx:Yq Q1 66=some (.struct [(0,3),(1,3),(2,30)]):=rfl
theorem Zyy:Yq Q1 73=some (.int .u64):=rfl
theorem Zyz:Yq Q1 74=some (.struct [(0,3),(1,3),(2,23),(3,30)]):=rfl
theorem Zy0:Yq Q1 75=some (.struct [(0,3),(1,3),(2,23),(3,30)]):=rfl
theorem Zy1:Yq Q1 76=some (.struct [(0,4),(1,4)]):=rfl
theorem Zy2:Yq Q1 77=some (.struct [(0,4),(1,4)]):=rfl
theorem Zy3:Yq Q1 81=some (.struct [(0,3),(1,5),(2,73),(3,73)]):=rfl
theorem Zy4:Yq Q1 82=some (.struct [(0,3),(1,5),(2,73),(3,73)]):=rfl
theorem Zy5:Yq Q1 83=some (.struct [(0,3),(1,30)]):=rfl
theorem Zy6:Yq Q1 84=some (.struct [(0,3),(1,30)]):=rfl
theorem Zy7:Yq Q1 94=some (.struct [(0,25),(3,57),(4,57)]):=rfl
theorem Zy8:Yq Q1 95=some (.struct [(0,25),(3,57),(4,57)]):=rfl
theorem Zua:Yq Q1 101=some (.ptr 77):=rfl
theorem Zub:Yq Q1 122=some (.ptr 25):=rfl
theorem Zuc:Yq Q1 124=some (.struct [(0,23),(1,23)]):=rfl
theorem Zud:Yq Q1 125=some (.struct [(0,23),(1,23)]):=rfl
theorem Zue:Yq Q1 127=some (.ptr 138):=rfl
theorem Zuf:Yq Q1 132=some (.slice 136):=rfl
theorem Zug:Yq Q1 135=some (.struct [(0,3),(1,75),(15,75)]):=rfl
theorem Zuh:Yq Q1 136=some (.struct [(0,3),(1,75),(15,75)]):=rfl
theorem Zui:Yq Q1 137=some (.struct [(0,101),(1,30),(12,23)]):=rfl
theorem Zuj:Yq Q1 138=some (.struct [(0,101),(1,30),(12,23)]):=rfl
theorem Zuk:Yq Q1 141=some (.struct [(0,28),(1,3),(2,23),(3,23)]):=rfl
theorem Zul:Yq Q1 142=some (.struct [(0,28),(1,3),(2,23),(3,23)]):=rfl
theorem Zum:Yq Q1 145=some (.ptr 23):=rfl
theorem Zpr:Yq Q1 154=some (.arr 8 5):=rfl
theorem Zun:Yq Q1 158=some (.slice 5):=rfl
theorem Zuo:Yq Q1 159=some (.ptr 125):=rfl
theorem Zup:Yq Q1 166=some (.ptr 142):=rfl
theorem Zuq:Yq Q1 169=some (.struct [(0,28),(1,3)]):=rfl
theorem Zur:Yq Q1 170=some (.struct [(0,28),(1,3)]):=rfl
theorem Zus:Yq Q1 184=some (.ptr 170):=rfl
theorem Zut:Yq Q1 187=some (.arr 6 3):=rfl
theorem Zuu:Yq Q1 189=some (.struct [(0,17),(1,17),(2,17),(3,9)]):=rfl
theorem Zuv:Yq Q1 190=some (.struct [(0,17),(1,17),(2,17),(3,9)]):=rfl
theorem Zuw:Yq Q1 195=some (.int .u32):=rfl
theorem Zux:Yq Q1 196=some (.int .u8):=rfl
theorem Zuy:Yq Q1 197=some (.int .u8):=rfl
theorem Zuz:Yq Q1 199=some (.ptr 5):=rfl
theorem Zu0:Yq Q1 200=some (.int .i32):=rfl
theorem Zu1:Yq Q1 201=some (.int .i32):=rfl
end Go.Proofs.Ytfjkcekfifobpaa
