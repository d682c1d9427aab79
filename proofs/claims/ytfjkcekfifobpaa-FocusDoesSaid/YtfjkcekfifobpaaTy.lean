/- The types of this seat's program, as its dump has them, in the ghost memory's words; no condition. -/
import Derived.Test.YtfjkcekfifobpaaRows
import Derived.Test.YtfjkcekfifobpaaG13
namespace Go.Proofs.Ytfjkcekfifobpaa
open Go.RowKit
set_option linter.unusedVariables false
set_option linter.unusedSimpArgs false
theorem TyOk.of {P:Program} {t:TypeId} (k:TK) (size bytes:Nat) (zero:List Value) (z:Value) (h:(P.info? t).map (fun i=>(i.zero,i.size,i.bytes))=some (some z,size,bytes)) (hz:z.cells.toList=zero) (hu:k.ok P t) (hl:zero.length=size) (h1:zero.all Value.oneCell'=true) (eq:Bool) (he:eq=true→Z9c P t):TyOk P t ⟨k,size,bytes,zero,eq⟩:=by
 refine ⟨?_,hu,hl,fun v hv=>List.all_eq_true.1 h1 v hv,he⟩
 cases hi:P.info? t with
 | none=>rw [hi] at h;cases h
 | some i =>
  rw [hi] at h
  simp only [Option.map_some,Option.some.injEq,Prod.mk.injEq] at h
  exact ⟨i,z,rfl,h.2.1,h.2.2,h.1,hz⟩
theorem Zu0 {α:Type} {t:Nat} {i:α}:∀ (l:List (Nat×α)),l.lookup t=some i→(t,i)∈l
 | [],h=>by simp at h
 | (a,b)::l,h=>by
  rw [List.lookup_cons] at h
  split at h
  ·rename_i he
   injection h with h
   have:t=a:=by simpa using he
   subst h this
   exact .head _
  exact .tail _ (Zu0 l h)
theorem ty2:TyOk Try.prog 2 ⟨.int .i64,1,8,[.int .i64 0],false⟩:=TyOk.of _ _ _ _ (.int .i64 0) (by kernel_rfl) rfl (by exact Try.underlying2) rfl rfl false (fun h=>by cases h)
theorem ty3:TyOk Try.prog 3 ⟨.int .i64,1,8,[.int .i64 0],false⟩:=TyOk.of _ _ _ _ (.int .i64 0) (by kernel_rfl) rfl (by exact Try.underlying3) rfl rfl false (fun h=>by cases h)
theorem ty4:TyOk Try.prog 4 ⟨.bool,1,1,[.bool false],false⟩:=TyOk.of _ _ _ _ (.bool false) (by kernel_rfl) rfl (by exact Try.underlying4) rfl rfl false (fun h=>by cases h)
theorem ty5:TyOk Try.prog 5 ⟨.int .u8,1,1,[.int .u8 0],false⟩:=TyOk.of _ _ _ _ (.int .u8 0) (by kernel_rfl) rfl (by exact Try.underlying5) rfl rfl false (fun h=>by cases h)
theorem ty6:TyOk Try.prog 6 ⟨.int .u8,1,1,[.int .u8 0],false⟩:=TyOk.of _ _ _ _ (.int .u8 0) (by kernel_rfl) rfl (by exact Try.underlying6) rfl rfl false (fun h=>by cases h)
theorem ty7:TyOk Try.prog 7 ⟨.struct [(0,2),(1,3),(2,4),(3,6)],4,24,[.int .i64 0,.int .i64 0,.bool false,.int .u8 0],false⟩:=TyOk.of _ _ _ _ (.agg #[.int .i64 0,.int .i64 0,.bool false,.int .u8 0]) (by kernel_rfl) rfl (by exact ⟨_,Try.underlying7,rfl⟩) rfl rfl false (fun h=>by cases h)
theorem ty8:TyOk Try.prog 8 ⟨.struct [(0,2),(1,3),(2,4),(3,6)],4,24,[.int .i64 0,.int .i64 0,.bool false,.int .u8 0],false⟩:=TyOk.of _ _ _ _ (.agg #[.int .i64 0,.int .i64 0,.bool false,.int .u8 0]) (by kernel_rfl) rfl (by exact ⟨_,Try.underlying8,rfl⟩) rfl rfl false (fun h=>by cases h)
theorem ty9:TyOk Try.prog 9 ⟨.str,1,16,[.string ByteArray.empty],false⟩:=TyOk.of _ _ _ _ (.string ByteArray.empty) (by kernel_rfl) rfl (by exact Try.underlying9) rfl rfl false (fun h=>by cases h)
theorem Yh3:TyOk Try.prog 10 ⟨.str,1,16,[.string ByteArray.empty],false⟩:=TyOk.of _ _ _ _ (.string ByteArray.empty) (by kernel_rfl) rfl (by exact Try.underlying10) rfl rfl false (fun h=>by cases h)
theorem Yh4:TyOk Try.prog 11 ⟨.str,1,16,[.string ByteArray.empty],false⟩:=TyOk.of _ _ _ _ (.string ByteArray.empty) (by kernel_rfl) rfl (by exact Try.underlying11) rfl rfl false (fun h=>by cases h)
theorem Yh5:TyOk Try.prog 12 ⟨.int .u64,1,8,[.int .u64 0],false⟩:=TyOk.of _ _ _ _ (.int .u64 0) (by kernel_rfl) rfl (by exact Try.underlying12) rfl rfl false (fun h=>by cases h)
theorem Yh6:TyOk Try.prog 13 ⟨.struct [(0,9),(1,12)],2,24,[.string ByteArray.empty,.int .u64 0],false⟩:=TyOk.of _ _ _ _ (.agg #[.string ByteArray.empty,.int .u64 0]) (by kernel_rfl) rfl (by exact ⟨_,Try.underlying13,rfl⟩) rfl rfl false (fun h=>by cases h)
theorem Yh7:TyOk Try.prog 14 ⟨.struct [(0,9),(1,12)],2,24,[.string ByteArray.empty,.int .u64 0],false⟩:=TyOk.of _ _ _ _ (.agg #[.string ByteArray.empty,.int .u64 0]) (by kernel_rfl) rfl (by exact ⟨_,Try.underlying14,rfl⟩) rfl rfl false (fun h=>by cases h)
theorem Yh8:TyOk Try.prog 15 ⟨.ptr 190,1,8,[.pointer none],false⟩:=TyOk.of _ _ _ _ (.pointer none) (by kernel_rfl) rfl (by exact Try.underlying15) rfl rfl false (fun h=>by cases h)
theorem Yh9:TyOk Try.prog 16 ⟨.ptr 193,1,8,[.pointer none],false⟩:=TyOk.of _ _ _ _ (.pointer none) (by kernel_rfl) rfl (by exact Try.underlying16) rfl rfl false (fun h=>by cases h)
theorem Yia:TyOk Try.prog 17 ⟨.ptr 203,1,8,[.pointer none],false⟩:=TyOk.of _ _ _ _ (.pointer none) (by kernel_rfl) rfl (by exact Try.underlying17) rfl rfl false (fun h=>by cases h)
theorem Yib:TyOk Try.prog 18 ⟨.struct [(0,17)],1,8,[.pointer none],false⟩:=TyOk.of _ _ _ _ (.agg #[.pointer none]) (by kernel_rfl) rfl (by exact ⟨_,Try.underlying18,rfl⟩) rfl rfl false (fun h=>by cases h)
theorem Yic:TyOk Try.prog 19 ⟨.struct [(0,17)],1,8,[.pointer none],false⟩:=TyOk.of _ _ _ _ (.agg #[.pointer none]) (by kernel_rfl) rfl (by exact ⟨_,Try.underlying19,rfl⟩) rfl rfl false (fun h=>by cases h)
theorem Yid:TyOk Try.prog 21 ⟨.int .i32,1,4,[.int .i32 0],false⟩:=TyOk.of _ _ _ _ (.int .i32 0) (by kernel_rfl) rfl (by exact Try.underlying21) rfl rfl false (fun h=>by cases h)
theorem Yie:TyOk Try.prog 22 ⟨.slice 73,1,24,[.slice none 0 0],false⟩:=TyOk.of _ _ _ _ (.slice none 0 0) (by kernel_rfl) rfl (by exact Try.underlying22) rfl rfl false (fun h=>by cases h)
theorem Yif:TyOk Try.prog 23 ⟨.slice 25,1,24,[.slice none 0 0],false⟩:=TyOk.of _ _ _ _ (.slice none 0 0) (by kernel_rfl) rfl (by exact Try.underlying23) rfl rfl false (fun h=>by cases h)
theorem Yig:TyOk Try.prog 24 ⟨.struct [(0,3),(1,22),(2,23)],3,56,[.int .i64 0,.slice none 0 0,.slice none 0 0],false⟩:=TyOk.of _ _ _ _ (.agg #[.int .i64 0,.slice none 0 0,.slice none 0 0]) (by kernel_rfl) rfl (by exact ⟨_,Try.underlying24,rfl⟩) rfl rfl false (fun h=>by cases h)
theorem Yih:TyOk Try.prog 25 ⟨.struct [(0,3),(1,22),(2,23)],3,56,[.int .i64 0,.slice none 0 0,.slice none 0 0],false⟩:=TyOk.of _ _ _ _ (.agg #[.int .i64 0,.slice none 0 0,.slice none 0 0]) (by kernel_rfl) rfl (by exact ⟨_,Try.underlying25,rfl⟩) rfl rfl false (fun h=>by cases h)
theorem Yii:TyOk Try.prog 26 ⟨.slice 82,1,24,[.slice none 0 0],false⟩:=TyOk.of _ _ _ _ (.slice none 0 0) (by kernel_rfl) rfl (by exact Try.underlying26) rfl rfl false (fun h=>by cases h)
theorem Yij:TyOk Try.prog 27 ⟨.slice 84,1,24,[.slice none 0 0],false⟩:=TyOk.of _ _ _ _ (.slice none 0 0) (by kernel_rfl) rfl (by exact Try.underlying27) rfl rfl false (fun h=>by cases h)
theorem Yik:TyOk Try.prog 28 ⟨.slice 75,1,24,[.slice none 0 0],false⟩:=TyOk.of _ _ _ _ (.slice none 0 0) (by kernel_rfl) rfl (by exact Try.underlying28) rfl rfl false (fun h=>by cases h)
theorem Yil:TyOk Try.prog 29 ⟨.struct [(0,3),(1,25),(4,25),(7,26),(8,27),(9,3),(10,28)],11,200,[.int .i64 0,.int .i64 0,.slice none 0 0,.slice none 0 0,.int .i64 0,.slice none 0 0,.slice none 0 0,.slice none 0 0,.slice none 0 0,.int .i64 0,.slice none 0 0],false⟩:=TyOk.of _ _ _ _ (.agg #[.int .i64 0,.int .i64 0,.slice none 0 0,.slice none 0 0,.int .i64 0,.slice none 0 0,.slice none 0 0,.slice none 0 0,.slice none 0 0,.int .i64 0,.slice none 0 0]) (by kernel_rfl) rfl (by exact ⟨_,Try.underlying29,rfl⟩) rfl rfl false (fun h=>by cases h)
theorem Yim:TyOk Try.prog 30 ⟨.struct [(0,3),(1,25),(4,25),(7,26),(8,27),(9,3),(10,28)],11,200,[.int .i64 0,.int .i64 0,.slice none 0 0,.slice none 0 0,.int .i64 0,.slice none 0 0,.slice none 0 0,.slice none 0 0,.slice none 0 0,.int .i64 0,.slice none 0 0],false⟩:=TyOk.of _ _ _ _ (.agg #[.int .i64 0,.int .i64 0,.slice none 0 0,.slice none 0 0,.int .i64 0,.slice none 0 0,.slice none 0 0,.slice none 0 0,.slice none 0 0,.int .i64 0,.slice none 0 0]) (by kernel_rfl) rfl (by exact ⟨_,Try.underlying30,rfl⟩) rfl rfl false (fun h=>by cases h)
theorem Yin:TyOk Try.prog 36 ⟨.int .i64,1,8,[.int .i64 0],false⟩:=TyOk.of _ _ _ _ (.int .i64 0) (by kernel_rfl) rfl (by exact Try.underlying36) rfl rfl false (fun h=>by cases h)
theorem Yio:TyOk Try.prog 43 ⟨.slice 54,1,24,[.slice none 0 0],false⟩:=TyOk.of _ _ _ _ (.slice none 0 0) (by kernel_rfl) rfl (by exact Try.underlying43) rfl rfl false (fun h=>by cases h)
theorem Yip:TyOk Try.prog 53 ⟨.struct [(0,3),(1,3)],2,16,[.int .i64 0,.int .i64 0],false⟩:=TyOk.of _ _ _ _ (.agg #[.int .i64 0,.int .i64 0]) (by kernel_rfl) rfl (by exact ⟨_,Try.underlying53,rfl⟩) rfl rfl false (fun h=>by cases h)
theorem Yiq:TyOk Try.prog 54 ⟨.struct [(0,3),(1,3)],2,16,[.int .i64 0,.int .i64 0],true⟩:=TyOk.of _ _ _ _ (.agg #[.int .i64 0,.int .i64 0]) (by kernel_rfl) rfl (by exact ⟨_,Try.underlying54,rfl⟩) rfl rfl true (fun _=>by unfold Z9c;exact ⟨by kernel_rfl,by kernel_rfl,by kernel_rfl⟩)
theorem Yir:TyOk Try.prog 57 ⟨.slice 30,1,24,[.slice none 0 0],false⟩:=TyOk.of _ _ _ _ (.slice none 0 0) (by kernel_rfl) rfl (by exact Try.underlying57) rfl rfl false (fun h=>by cases h)
theorem Yis:TyOk Try.prog 62 ⟨.ptr 95,1,8,[.pointer none],false⟩:=TyOk.of _ _ _ _ (.pointer none) (by kernel_rfl) rfl (by exact Try.underlying62) rfl rfl false (fun h=>by cases h)
theorem Yit:TyOk Try.prog 65 ⟨.struct [(0,3),(1,3),(2,30)],13,216,[.int .i64 0,.int .i64 0,.int .i64 0,.int .i64 0,.slice none 0 0,.slice none 0 0,.int .i64 0,.slice none 0 0,.slice none 0 0,.slice none 0 0,.slice none 0 0,.int .i64 0,.slice none 0 0],false⟩:=TyOk.of _ _ _ _ (.agg #[.int .i64 0,.int .i64 0,.int .i64 0,.int .i64 0,.slice none 0 0,.slice none 0 0,.int .i64 0,.slice none 0 0,.slice none 0 0,.slice none 0 0,.slice none 0 0,.int .i64 0,.slice none 0 0]) (by kernel_rfl) rfl (by exact ⟨_,Try.underlying65,rfl⟩) rfl rfl false (fun h=>by cases h)
theorem Yiu:TyOk Try.prog 66 ⟨.struct [(0,3),(1,3),(2,30)],13,216,[.int .i64 0,.int .i64 0,.int .i64 0,.int .i64 0,.slice none 0 0,.slice none 0 0,.int .i64 0,.slice none 0 0,.slice none 0 0,.slice none 0 0,.slice none 0 0,.int .i64 0,.slice none 0 0],false⟩:=TyOk.of _ _ _ _ (.agg #[.int .i64 0,.int .i64 0,.int .i64 0,.int .i64 0,.slice none 0 0,.slice none 0 0,.int .i64 0,.slice none 0 0,.slice none 0 0,.slice none 0 0,.slice none 0 0,.int .i64 0,.slice none 0 0]) (by kernel_rfl) rfl (by exact ⟨_,Try.underlying66,rfl⟩) rfl rfl false (fun h=>by cases h)
theorem Yiv:TyOk Try.prog 73 ⟨.int .u64,1,8,[.int .u64 0],false⟩:=TyOk.of _ _ _ _ (.int .u64 0) (by kernel_rfl) rfl (by exact Try.underlying73) rfl rfl false (fun h=>by cases h)
theorem Yiw:TyOk Try.prog 74 ⟨.struct [(0,3),(1,3),(2,23),(3,30)],14,240,[.int .i64 0,.int .i64 0,.slice none 0 0,.int .i64 0,.int .i64 0,.slice none 0 0,.slice none 0 0,.int .i64 0,.slice none 0 0,.slice none 0 0,.slice none 0 0,.slice none 0 0,.int .i64 0,.slice none 0 0],false⟩:=TyOk.of _ _ _ _ (.agg #[.int .i64 0,.int .i64 0,.slice none 0 0,.int .i64 0,.int .i64 0,.slice none 0 0,.slice none 0 0,.int .i64 0,.slice none 0 0,.slice none 0 0,.slice none 0 0,.slice none 0 0,.int .i64 0,.slice none 0 0]) (by kernel_rfl) rfl (by exact ⟨_,Try.underlying74,rfl⟩) rfl rfl false (fun h=>by cases h)
theorem Yix:TyOk Try.prog 75 ⟨.struct [(0,3),(1,3),(2,23),(3,30)],14,240,[.int .i64 0,.int .i64 0,.slice none 0 0,.int .i64 0,.int .i64 0,.slice none 0 0,.slice none 0 0,.int .i64 0,.slice none 0 0,.slice none 0 0,.slice none 0 0,.slice none 0 0,.int .i64 0,.slice none 0 0],false⟩:=TyOk.of _ _ _ _ (.agg #[.int .i64 0,.int .i64 0,.slice none 0 0,.int .i64 0,.int .i64 0,.slice none 0 0,.slice none 0 0,.int .i64 0,.slice none 0 0,.slice none 0 0,.slice none 0 0,.slice none 0 0,.int .i64 0,.slice none 0 0]) (by kernel_rfl) rfl (by exact ⟨_,Try.underlying75,rfl⟩) rfl rfl false (fun h=>by cases h)
theorem Yiy:TyOk Try.prog 76 ⟨.struct [(0,4),(1,4)],2,2,[.bool false,.bool false],false⟩:=TyOk.of _ _ _ _ (.agg #[.bool false,.bool false]) (by kernel_rfl) rfl (by exact ⟨_,Try.underlying76,rfl⟩) rfl rfl false (fun h=>by cases h)
theorem Yiz:TyOk Try.prog 77 ⟨.struct [(0,4),(1,4)],2,2,[.bool false,.bool false],true⟩:=TyOk.of _ _ _ _ (.agg #[.bool false,.bool false]) (by kernel_rfl) rfl (by exact ⟨_,Try.underlying77,rfl⟩) rfl rfl true (fun _=>by unfold Z9c;exact ⟨by kernel_rfl,by kernel_rfl,by kernel_rfl⟩)
theorem Yi0:TyOk Try.prog 81 ⟨.struct [(0,3),(1,5),(2,73),(3,73)],4,32,[.int .i64 0,.int .u8 0,.int .u64 0,.int .u64 0],false⟩:=TyOk.of _ _ _ _ (.agg #[.int .i64 0,.int .u8 0,.int .u64 0,.int .u64 0]) (by kernel_rfl) rfl (by exact ⟨_,Try.underlying81,rfl⟩) rfl rfl false (fun h=>by cases h)
theorem Yi1:TyOk Try.prog 82 ⟨.struct [(0,3),(1,5),(2,73),(3,73)],4,32,[.int .i64 0,.int .u8 0,.int .u64 0,.int .u64 0],true⟩:=TyOk.of _ _ _ _ (.agg #[.int .i64 0,.int .u8 0,.int .u64 0,.int .u64 0]) (by kernel_rfl) rfl (by exact ⟨_,Try.underlying82,rfl⟩) rfl rfl true (fun _=>by unfold Z9c;exact ⟨by kernel_rfl,by kernel_rfl,by kernel_rfl⟩)
theorem Yi2:TyOk Try.prog 83 ⟨.struct [(0,3),(1,30)],12,208,[.int .i64 0,.int .i64 0,.int .i64 0,.slice none 0 0,.slice none 0 0,.int .i64 0,.slice none 0 0,.slice none 0 0,.slice none 0 0,.slice none 0 0,.int .i64 0,.slice none 0 0],false⟩:=TyOk.of _ _ _ _ (.agg #[.int .i64 0,.int .i64 0,.int .i64 0,.slice none 0 0,.slice none 0 0,.int .i64 0,.slice none 0 0,.slice none 0 0,.slice none 0 0,.slice none 0 0,.int .i64 0,.slice none 0 0]) (by kernel_rfl) rfl (by exact ⟨_,Try.underlying83,rfl⟩) rfl rfl false (fun h=>by cases h)
theorem Yi3:TyOk Try.prog 84 ⟨.struct [(0,3),(1,30)],12,208,[.int .i64 0,.int .i64 0,.int .i64 0,.slice none 0 0,.slice none 0 0,.int .i64 0,.slice none 0 0,.slice none 0 0,.slice none 0 0,.slice none 0 0,.int .i64 0,.slice none 0 0],false⟩:=TyOk.of _ _ _ _ (.agg #[.int .i64 0,.int .i64 0,.int .i64 0,.slice none 0 0,.slice none 0 0,.int .i64 0,.slice none 0 0,.slice none 0 0,.slice none 0 0,.slice none 0 0,.int .i64 0,.slice none 0 0]) (by kernel_rfl) rfl (by exact ⟨_,Try.underlying84,rfl⟩) rfl rfl false (fun h=>by cases h)
theorem Yi4:TyOk Try.prog 94 ⟨.struct [(0,25),(3,57),(4,57)],5,104,[.int .i64 0,.slice none 0 0,.slice none 0 0,.slice none 0 0,.slice none 0 0],false⟩:=TyOk.of _ _ _ _ (.agg #[.int .i64 0,.slice none 0 0,.slice none 0 0,.slice none 0 0,.slice none 0 0]) (by kernel_rfl) rfl (by exact ⟨_,Try.underlying94,rfl⟩) rfl rfl false (fun h=>by cases h)
theorem Yi5:TyOk Try.prog 95 ⟨.struct [(0,25),(3,57),(4,57)],5,104,[.int .i64 0,.slice none 0 0,.slice none 0 0,.slice none 0 0,.slice none 0 0],false⟩:=TyOk.of _ _ _ _ (.agg #[.int .i64 0,.slice none 0 0,.slice none 0 0,.slice none 0 0,.slice none 0 0]) (by kernel_rfl) rfl (by exact ⟨_,Try.underlying95,rfl⟩) rfl rfl false (fun h=>by cases h)
theorem Ygu:TyOk Try.prog 101 ⟨.ptr 77,1,8,[.pointer none],false⟩:=TyOk.of _ _ _ _ (.pointer none) (by kernel_rfl) rfl (by exact Try.underlying101) rfl rfl false (fun h=>by cases h)
theorem Ygv:TyOk Try.prog 122 ⟨.ptr 25,1,8,[.pointer none],false⟩:=TyOk.of _ _ _ _ (.pointer none) (by kernel_rfl) rfl (by exact Try.underlying122) rfl rfl false (fun h=>by cases h)
theorem Ygw:TyOk Try.prog 124 ⟨.struct [(0,23),(1,23)],2,48,[.slice none 0 0,.slice none 0 0],false⟩:=TyOk.of _ _ _ _ (.agg #[.slice none 0 0,.slice none 0 0]) (by kernel_rfl) rfl (by exact ⟨_,Try.underlying124,rfl⟩) rfl rfl false (fun h=>by cases h)
theorem Ygx:TyOk Try.prog 125 ⟨.struct [(0,23),(1,23)],2,48,[.slice none 0 0,.slice none 0 0],false⟩:=TyOk.of _ _ _ _ (.agg #[.slice none 0 0,.slice none 0 0]) (by kernel_rfl) rfl (by exact ⟨_,Try.underlying125,rfl⟩) rfl rfl false (fun h=>by cases h)
theorem Ygy:TyOk Try.prog 127 ⟨.ptr 138,1,8,[.pointer none],false⟩:=TyOk.of _ _ _ _ (.pointer none) (by kernel_rfl) rfl (by exact Try.underlying127) rfl rfl false (fun h=>by cases h)
theorem Ygz:TyOk Try.prog 132 ⟨.slice 136,1,24,[.slice none 0 0],false⟩:=TyOk.of _ _ _ _ (.slice none 0 0) (by kernel_rfl) rfl (by exact Try.underlying132) rfl rfl false (fun h=>by cases h)
theorem Yg0:TyOk Try.prog 135 ⟨.struct [(0,3),(1,75),(15,75)],29,488,[.int .i64 0,.int .i64 0,.int .i64 0,.slice none 0 0,.int .i64 0,.int .i64 0,.slice none 0 0,.slice none 0 0,.int .i64 0,.slice none 0 0,.slice none 0 0,.slice none 0 0,.slice none 0 0,.int .i64 0,.slice none 0 0,.int .i64 0,.int .i64 0,.slice none 0 0,.int .i64 0,.int .i64 0,.slice none 0 0,.slice none 0 0,.int .i64 0,.slice none 0 0,.slice none 0 0,.slice none 0 0,.slice none 0 0,.int .i64 0,.slice none 0 0],false⟩:=TyOk.of _ _ _ _ (.agg #[.int .i64 0,.int .i64 0,.int .i64 0,.slice none 0 0,.int .i64 0,.int .i64 0,.slice none 0 0,.slice none 0 0,.int .i64 0,.slice none 0 0,.slice none 0 0,.slice none 0 0,.slice none 0 0,.int .i64 0,.slice none 0 0,.int .i64 0,.int .i64 0,.slice none 0 0,.int .i64 0,.int .i64 0,.slice none 0 0,.slice none 0 0,.int .i64 0,.slice none 0 0,.slice none 0 0,.slice none 0 0,.slice none 0 0,.int .i64 0,.slice none 0 0]) (by kernel_rfl) rfl (by exact ⟨_,Try.underlying135,rfl⟩) rfl rfl false (fun h=>by cases h)
theorem Yg1:TyOk Try.prog 136 ⟨.struct [(0,3),(1,75),(15,75)],29,488,[.int .i64 0,.int .i64 0,.int .i64 0,.slice none 0 0,.int .i64 0,.int .i64 0,.slice none 0 0,.slice none 0 0,.int .i64 0,.slice none 0 0,.slice none 0 0,.slice none 0 0,.slice none 0 0,.int .i64 0,.slice none 0 0,.int .i64 0,.int .i64 0,.slice none 0 0,.int .i64 0,.int .i64 0,.slice none 0 0,.slice none 0 0,.int .i64 0,.slice none 0 0,.slice none 0 0,.slice none 0 0,.slice none 0 0,.int .i64 0,.slice none 0 0],false⟩:=TyOk.of _ _ _ _ (.agg #[.int .i64 0,.int .i64 0,.int .i64 0,.slice none 0 0,.int .i64 0,.int .i64 0,.slice none 0 0,.slice none 0 0,.int .i64 0,.slice none 0 0,.slice none 0 0,.slice none 0 0,.slice none 0 0,.int .i64 0,.slice none 0 0,.int .i64 0,.int .i64 0,.slice none 0 0,.int .i64 0,.int .i64 0,.slice none 0 0,.slice none 0 0,.int .i64 0,.slice none 0 0,.slice none 0 0,.slice none 0 0,.slice none 0 0,.int .i64 0,.slice none 0 0]) (by kernel_rfl) rfl (by exact ⟨_,Try.underlying136,rfl⟩) rfl rfl false (fun h=>by cases h)
theorem Yg2:TyOk Try.prog 137 ⟨.struct [(0,101),(1,30),(12,23)],13,232,[.pointer none,.int .i64 0,.int .i64 0,.slice none 0 0,.slice none 0 0,.int .i64 0,.slice none 0 0,.slice none 0 0,.slice none 0 0,.slice none 0 0,.int .i64 0,.slice none 0 0,.slice none 0 0],false⟩:=TyOk.of _ _ _ _ (.agg #[.pointer none,.int .i64 0,.int .i64 0,.slice none 0 0,.slice none 0 0,.int .i64 0,.slice none 0 0,.slice none 0 0,.slice none 0 0,.slice none 0 0,.int .i64 0,.slice none 0 0,.slice none 0 0]) (by kernel_rfl) rfl (by exact ⟨_,Try.underlying137,rfl⟩) rfl rfl false (fun h=>by cases h)
theorem Yg3:TyOk Try.prog 138 ⟨.struct [(0,101),(1,30),(12,23)],13,232,[.pointer none,.int .i64 0,.int .i64 0,.slice none 0 0,.slice none 0 0,.int .i64 0,.slice none 0 0,.slice none 0 0,.slice none 0 0,.slice none 0 0,.int .i64 0,.slice none 0 0,.slice none 0 0],false⟩:=TyOk.of _ _ _ _ (.agg #[.pointer none,.int .i64 0,.int .i64 0,.slice none 0 0,.slice none 0 0,.int .i64 0,.slice none 0 0,.slice none 0 0,.slice none 0 0,.slice none 0 0,.int .i64 0,.slice none 0 0,.slice none 0 0]) (by kernel_rfl) rfl (by exact ⟨_,Try.underlying138,rfl⟩) rfl rfl false (fun h=>by cases h)
theorem Yg4:TyOk Try.prog 141 ⟨.struct [(0,28),(1,3),(2,23),(3,23)],4,80,[.slice none 0 0,.int .i64 0,.slice none 0 0,.slice none 0 0],false⟩:=TyOk.of _ _ _ _ (.agg #[.slice none 0 0,.int .i64 0,.slice none 0 0,.slice none 0 0]) (by kernel_rfl) rfl (by exact ⟨_,Try.underlying141,rfl⟩) rfl rfl false (fun h=>by cases h)
theorem Yg5:TyOk Try.prog 142 ⟨.struct [(0,28),(1,3),(2,23),(3,23)],4,80,[.slice none 0 0,.int .i64 0,.slice none 0 0,.slice none 0 0],false⟩:=TyOk.of _ _ _ _ (.agg #[.slice none 0 0,.int .i64 0,.slice none 0 0,.slice none 0 0]) (by kernel_rfl) rfl (by exact ⟨_,Try.underlying142,rfl⟩) rfl rfl false (fun h=>by cases h)
theorem Yg6:TyOk Try.prog 145 ⟨.ptr 23,1,8,[.pointer none],false⟩:=TyOk.of _ _ _ _ (.pointer none) (by kernel_rfl) rfl (by exact Try.underlying145) rfl rfl false (fun h=>by cases h)
theorem Yg7:TyOk Try.prog 154 ⟨.arr 8 5,8,8,[.int .u8 0,.int .u8 0,.int .u8 0,.int .u8 0,.int .u8 0,.int .u8 0,.int .u8 0,.int .u8 0],false⟩:=TyOk.of _ _ _ _ (.agg #[.int .u8 0,.int .u8 0,.int .u8 0,.int .u8 0,.int .u8 0,.int .u8 0,.int .u8 0,.int .u8 0]) (by kernel_rfl) rfl (by exact Try.underlying154) rfl rfl false (fun h=>by cases h)
theorem Yg8:TyOk Try.prog 158 ⟨.slice 5,1,24,[.slice none 0 0],false⟩:=TyOk.of _ _ _ _ (.slice none 0 0) (by kernel_rfl) rfl (by exact Try.underlying158) rfl rfl false (fun h=>by cases h)
theorem Yg9:TyOk Try.prog 159 ⟨.ptr 125,1,8,[.pointer none],false⟩:=TyOk.of _ _ _ _ (.pointer none) (by kernel_rfl) rfl (by exact Try.underlying159) rfl rfl false (fun h=>by cases h)
theorem Yha:TyOk Try.prog 166 ⟨.ptr 142,1,8,[.pointer none],false⟩:=TyOk.of _ _ _ _ (.pointer none) (by kernel_rfl) rfl (by exact Try.underlying166) rfl rfl false (fun h=>by cases h)
theorem Yhb:TyOk Try.prog 169 ⟨.struct [(0,28),(1,3)],2,32,[.slice none 0 0,.int .i64 0],false⟩:=TyOk.of _ _ _ _ (.agg #[.slice none 0 0,.int .i64 0]) (by kernel_rfl) rfl (by exact ⟨_,Try.underlying169,rfl⟩) rfl rfl false (fun h=>by cases h)
theorem Yhc:TyOk Try.prog 170 ⟨.struct [(0,28),(1,3)],2,32,[.slice none 0 0,.int .i64 0],false⟩:=TyOk.of _ _ _ _ (.agg #[.slice none 0 0,.int .i64 0]) (by kernel_rfl) rfl (by exact ⟨_,Try.underlying170,rfl⟩) rfl rfl false (fun h=>by cases h)
theorem Yhd:TyOk Try.prog 184 ⟨.ptr 170,1,8,[.pointer none],false⟩:=TyOk.of _ _ _ _ (.pointer none) (by kernel_rfl) rfl (by exact Try.underlying184) rfl rfl false (fun h=>by cases h)
theorem Yhe:TyOk Try.prog 187 ⟨.arr 6 3,6,48,[.int .i64 0,.int .i64 0,.int .i64 0,.int .i64 0,.int .i64 0,.int .i64 0],false⟩:=TyOk.of _ _ _ _ (.agg #[.int .i64 0,.int .i64 0,.int .i64 0,.int .i64 0,.int .i64 0,.int .i64 0]) (by kernel_rfl) rfl (by exact Try.underlying187) rfl rfl false (fun h=>by cases h)
theorem Yhf:TyOk Try.prog 189 ⟨.struct [(0,17),(1,17),(2,17),(3,9)],4,40,[.pointer none,.pointer none,.pointer none,.string ByteArray.empty],false⟩:=TyOk.of _ _ _ _ (.agg #[.pointer none,.pointer none,.pointer none,.string ByteArray.empty]) (by kernel_rfl) rfl (by exact ⟨_,Try.underlying189,rfl⟩) rfl rfl false (fun h=>by cases h)
theorem Yhg:TyOk Try.prog 190 ⟨.struct [(0,17),(1,17),(2,17),(3,9)],4,40,[.pointer none,.pointer none,.pointer none,.string ByteArray.empty],false⟩:=TyOk.of _ _ _ _ (.agg #[.pointer none,.pointer none,.pointer none,.string ByteArray.empty]) (by kernel_rfl) rfl (by exact ⟨_,Try.underlying190,rfl⟩) rfl rfl false (fun h=>by cases h)
theorem Yhh:TyOk Try.prog 195 ⟨.int .u32,1,4,[.int .u32 0],false⟩:=TyOk.of _ _ _ _ (.int .u32 0) (by kernel_rfl) rfl (by exact Try.underlying195) rfl rfl false (fun h=>by cases h)
theorem Yhi:TyOk Try.prog 196 ⟨.int .u8,1,1,[.int .u8 0],false⟩:=TyOk.of _ _ _ _ (.int .u8 0) (by kernel_rfl) rfl (by exact Try.underlying196) rfl rfl false (fun h=>by cases h)
theorem Yhj:TyOk Try.prog 197 ⟨.int .u8,1,1,[.int .u8 0],false⟩:=TyOk.of _ _ _ _ (.int .u8 0) (by kernel_rfl) rfl (by exact Try.underlying197) rfl rfl false (fun h=>by cases h)
theorem Yhk:TyOk Try.prog 199 ⟨.ptr 5,1,8,[.pointer none],false⟩:=TyOk.of _ _ _ _ (.pointer none) (by kernel_rfl) rfl (by exact Try.underlying199) rfl rfl false (fun h=>by cases h)
theorem Yhl:TyOk Try.prog 200 ⟨.int .i32,1,4,[.int .i32 0],false⟩:=TyOk.of _ _ _ _ (.int .i32 0) (by kernel_rfl) rfl (by exact Try.underlying200) rfl rfl false (fun h=>by cases h)
theorem Yhm:TyOk Try.prog 201 ⟨.int .i32,1,4,[.int .i32 0],false⟩:=TyOk.of _ _ _ _ (.int .i32 0) (by kernel_rfl) rfl (by exact Try.underlying201) rfl rfl false (fun h=>by cases h)
def tabL:List (Nat×TyI):=[(2,⟨.int .i64,1,8,[.int .i64 0],false⟩),
 (3,⟨.int .i64,1,8,[.int .i64 0],false⟩),
 (4,⟨.bool,1,1,[.bool false],false⟩),
 (5,⟨.int .u8,1,1,[.int .u8 0],false⟩),
 (6,⟨.int .u8,1,1,[.int .u8 0],false⟩),
 (7,⟨.struct [(0,2),(1,3),(2,4),(3,6)],4,24,[.int .i64 0,.int .i64 0,.bool false,.int .u8 0],false⟩),
 (8,⟨.struct [(0,2),(1,3),(2,4),(3,6)],4,24,[.int .i64 0,.int .i64 0,.bool false,.int .u8 0],false⟩),
 (9,⟨.str,1,16,[.string ByteArray.empty],false⟩),
 (10,⟨.str,1,16,[.string ByteArray.empty],false⟩),
 (11,⟨.str,1,16,[.string ByteArray.empty],false⟩),
 (12,⟨.int .u64,1,8,[.int .u64 0],false⟩),
 (13,⟨.struct [(0,9),(1,12)],2,24,[.string ByteArray.empty,.int .u64 0],false⟩),
 (14,⟨.struct [(0,9),(1,12)],2,24,[.string ByteArray.empty,.int .u64 0],false⟩),
 (15,⟨.ptr 190,1,8,[.pointer none],false⟩),
 (16,⟨.ptr 193,1,8,[.pointer none],false⟩),
 (17,⟨.ptr 203,1,8,[.pointer none],false⟩),
 (18,⟨.struct [(0,17)],1,8,[.pointer none],false⟩),
 (19,⟨.struct [(0,17)],1,8,[.pointer none],false⟩),
 (21,⟨.int .i32,1,4,[.int .i32 0],false⟩),
 (22,⟨.slice 73,1,24,[.slice none 0 0],false⟩),
 (23,⟨.slice 25,1,24,[.slice none 0 0],false⟩),
 (24,⟨.struct [(0,3),(1,22),(2,23)],3,56,[.int .i64 0,.slice none 0 0,.slice none 0 0],false⟩),
 (25,⟨.struct [(0,3),(1,22),(2,23)],3,56,[.int .i64 0,.slice none 0 0,.slice none 0 0],false⟩),
 (26,⟨.slice 82,1,24,[.slice none 0 0],false⟩),
 (27,⟨.slice 84,1,24,[.slice none 0 0],false⟩),
 (28,⟨.slice 75,1,24,[.slice none 0 0],false⟩),
 (29,⟨.struct [(0,3),(1,25),(4,25),(7,26),(8,27),(9,3),(10,28)],11,200,[.int .i64 0,.int .i64 0,.slice none 0 0,.slice none 0 0,.int .i64 0,.slice none 0 0,.slice none 0 0,.slice none 0 0,.slice none 0 0,.int .i64 0,.slice none 0 0],false⟩),
 (30,⟨.struct [(0,3),(1,25),(4,25),(7,26),(8,27),(9,3),(10,28)],11,200,[.int .i64 0,.int .i64 0,.slice none 0 0,.slice none 0 0,.int .i64 0,.slice none 0 0,.slice none 0 0,.slice none 0 0,.slice none 0 0,.int .i64 0,.slice none 0 0],false⟩),
 (36,⟨.int .i64,1,8,[.int .i64 0],false⟩),
 (43,⟨.slice 54,1,24,[.slice none 0 0],false⟩),
 (53,⟨.struct [(0,3),(1,3)],2,16,[.int .i64 0,.int .i64 0],false⟩),
 (54,⟨.struct [(0,3),(1,3)],2,16,[.int .i64 0,.int .i64 0],true⟩),
 (57,⟨.slice 30,1,24,[.slice none 0 0],false⟩),
 (62,⟨.ptr 95,1,8,[.pointer none],false⟩),
 (65,⟨.struct [(0,3),(1,3),(2,30)],13,216,[.int .i64 0,.int .i64 0,.int .i64 0,.int .i64 0,.slice none 0 0,.slice none 0 0,.int .i64 0,.slice none 0 0,.slice none 0 0,.slice none 0 0,.slice none 0 0,.int .i64 0,.slice none 0 0],false⟩),
 (66,⟨.struct [(0,3),(1,3),(2,30)],13,216,[.int .i64 0,.int .i64 0,.int .i64 0,.int .i64 0,.slice none 0 0,.slice none 0 0,.int .i64 0,.slice none 0 0,.slice none 0 0,.slice none 0 0,.slice none 0 0,.int .i64 0,.slice none 0 0],false⟩),
 (73,⟨.int .u64,1,8,[.int .u64 0],false⟩),
 (74,⟨.struct [(0,3),(1,3),(2,23),(3,30)],14,240,[.int .i64 0,.int .i64 0,.slice none 0 0,.int .i64 0,.int .i64 0,.slice none 0 0,.slice none 0 0,.int .i64 0,.slice none 0 0,.slice none 0 0,.slice none 0 0,.slice none 0 0,.int .i64 0,.slice none 0 0],false⟩),
 (75,⟨.struct [(0,3),(1,3),(2,23),(3,30)],14,240,[.int .i64 0,.int .i64 0,.slice none 0 0,.int .i64 0,.int .i64 0,.slice none 0 0,.slice none 0 0,.int .i64 0,.slice none 0 0,.slice none 0 0,.slice none 0 0,.slice none 0 0,.int .i64 0,.slice none 0 0],false⟩),
 (76,⟨.struct [(0,4),(1,4)],2,2,[.bool false,.bool false],false⟩),
 (77,⟨.struct [(0,4),(1,4)],2,2,[.bool false,.bool false],true⟩),
 (81,⟨.struct [(0,3),(1,5),(2,73),(3,73)],4,32,[.int .i64 0,.int .u8 0,.int .u64 0,.int .u64 0],false⟩),
 (82,⟨.struct [(0,3),(1,5),(2,73),(3,73)],4,32,[.int .i64 0,.int .u8 0,.int .u64 0,.int .u64 0],true⟩),
 (83,⟨.struct [(0,3),(1,30)],12,208,[.int .i64 0,.int .i64 0,.int .i64 0,.slice none 0 0,.slice none 0 0,.int .i64 0,.slice none 0 0,.slice none 0 0,.slice none 0 0,.slice none 0 0,.int .i64 0,.slice none 0 0],false⟩),
 (84,⟨.struct [(0,3),(1,30)],12,208,[.int .i64 0,.int .i64 0,.int .i64 0,.slice none 0 0,.slice none 0 0,.int .i64 0,.slice none 0 0,.slice none 0 0,.slice none 0 0,.slice none 0 0,.int .i64 0,.slice none 0 0],false⟩),
 (94,⟨.struct [(0,25),(3,57),(4,57)],5,104,[.int .i64 0,.slice none 0 0,.slice none 0 0,.slice none 0 0,.slice none 0 0],false⟩),
 (95,⟨.struct [(0,25),(3,57),(4,57)],5,104,[.int .i64 0,.slice none 0 0,.slice none 0 0,.slice none 0 0,.slice none 0 0],false⟩),
 (101,⟨.ptr 77,1,8,[.pointer none],false⟩),
 (122,⟨.ptr 25,1,8,[.pointer none],false⟩),
 (124,⟨.struct [(0,23),(1,23)],2,48,[.slice none 0 0,.slice none 0 0],false⟩),
 (125,⟨.struct [(0,23),(1,23)],2,48,[.slice none 0 0,.slice none 0 0],false⟩),
 (127,⟨.ptr 138,1,8,[.pointer none],false⟩),
 (132,⟨.slice 136,1,24,[.slice none 0 0],false⟩),
 (135,⟨.struct [(0,3),(1,75),(15,75)],29,488,[.int .i64 0,.int .i64 0,.int .i64 0,.slice none 0 0,.int .i64 0,.int .i64 0,.slice none 0 0,.slice none 0 0,.int .i64 0,.slice none 0 0,.slice none 0 0,.slice none 0 0,.slice none 0 0,.int .i64 0,.slice none 0 0,.int .i64 0,.int .i64 0,.slice none 0 0,.int .i64 0,.int .i64 0,.slice none 0 0,.slice none 0 0,.int .i64 0,.slice none 0 0,.slice none 0 0,.slice none 0 0,.slice none 0 0,.int .i64 0,.slice none 0 0],false⟩),
 (136,⟨.struct [(0,3),(1,75),(15,75)],29,488,[.int .i64 0,.int .i64 0,.int .i64 0,.slice none 0 0,.int .i64 0,.int .i64 0,.slice none 0 0,.slice none 0 0,.int .i64 0,.slice none 0 0,.slice none 0 0,.slice none 0 0,.slice none 0 0,.int .i64 0,.slice none 0 0,.int .i64 0,.int .i64 0,.slice none 0 0,.int .i64 0,.int .i64 0,.slice none 0 0,.slice none 0 0,.int .i64 0,.slice none 0 0,.slice none 0 0,.slice none 0 0,.slice none 0 0,.int .i64 0,.slice none 0 0],false⟩),
 (137,⟨.struct [(0,101),(1,30),(12,23)],13,232,[.pointer none,.int .i64 0,.int .i64 0,.slice none 0 0,.slice none 0 0,.int .i64 0,.slice none 0 0,.slice none 0 0,.slice none 0 0,.slice none 0 0,.int .i64 0,.slice none 0 0,.slice none 0 0],false⟩),
 (138,⟨.struct [(0,101),(1,30),(12,23)],13,232,[.pointer none,.int .i64 0,.int .i64 0,.slice none 0 0,.slice none 0 0,.int .i64 0,.slice none 0 0,.slice none 0 0,.slice none 0 0,.slice none 0 0,.int .i64 0,.slice none 0 0,.slice none 0 0],false⟩),
 (141,⟨.struct [(0,28),(1,3),(2,23),(3,23)],4,80,[.slice none 0 0,.int .i64 0,.slice none 0 0,.slice none 0 0],false⟩),
 (142,⟨.struct [(0,28),(1,3),(2,23),(3,23)],4,80,[.slice none 0 0,.int .i64 0,.slice none 0 0,.slice none 0 0],false⟩),
 (145,⟨.ptr 23,1,8,[.pointer none],false⟩),
 (154,⟨.arr 8 5,8,8,[.int .u8 0,.int .u8 0,.int .u8 0,.int .u8 0,.int .u8 0,.int .u8 0,.int .u8 0,.int .u8 0],false⟩),
 (158,⟨.slice 5,1,24,[.slice none 0 0],false⟩),
 (159,⟨.ptr 125,1,8,[.pointer none],false⟩),
 (166,⟨.ptr 142,1,8,[.pointer none],false⟩),
 (169,⟨.struct [(0,28),(1,3)],2,32,[.slice none 0 0,.int .i64 0],false⟩),
 (170,⟨.struct [(0,28),(1,3)],2,32,[.slice none 0 0,.int .i64 0],false⟩),
 (184,⟨.ptr 170,1,8,[.pointer none],false⟩),
 (187,⟨.arr 6 3,6,48,[.int .i64 0,.int .i64 0,.int .i64 0,.int .i64 0,.int .i64 0,.int .i64 0],false⟩),
 (189,⟨.struct [(0,17),(1,17),(2,17),(3,9)],4,40,[.pointer none,.pointer none,.pointer none,.string ByteArray.empty],false⟩),
 (190,⟨.struct [(0,17),(1,17),(2,17),(3,9)],4,40,[.pointer none,.pointer none,.pointer none,.string ByteArray.empty],false⟩),
 (195,⟨.int .u32,1,4,[.int .u32 0],false⟩),
 (196,⟨.int .u8,1,1,[.int .u8 0],false⟩),
 (197,⟨.int .u8,1,1,[.int .u8 0],false⟩),
 (199,⟨.ptr 5,1,8,[.pointer none],false⟩),
 (200,⟨.int .i32,1,4,[.int .i32 0],false⟩),
 (201,⟨.int .i32,1,4,[.int .i32 0],false⟩)]
def Qo:Vr:=fun t=>tabL.lookup t
theorem Z4:Jf Try.prog Qo:=fun t i h=>by
 have hm:=Zu0 _ h
 unfold tabL at hm
 simp only [List.mem_cons,Prod.mk.injEq,List.not_mem_nil,or_false] at hm
 rcases hm with ⟨rfl,rfl⟩ | ⟨rfl,rfl⟩ | ⟨rfl,rfl⟩ | ⟨rfl,rfl⟩ | ⟨rfl,rfl⟩ | ⟨rfl,rfl⟩ | ⟨rfl,rfl⟩ | ⟨rfl,rfl⟩ | ⟨rfl,rfl⟩ | ⟨rfl,rfl⟩ | ⟨rfl,rfl⟩ | ⟨rfl,rfl⟩ | ⟨rfl,rfl⟩ | ⟨rfl,rfl⟩ | ⟨rfl,rfl⟩ | ⟨rfl,rfl⟩ | ⟨rfl,rfl⟩ | ⟨rfl,rfl⟩ | ⟨rfl,rfl⟩ | ⟨rfl,rfl⟩ | ⟨rfl,rfl⟩ | ⟨rfl,rfl⟩ | ⟨rfl,rfl⟩ | ⟨rfl,rfl⟩ | ⟨rfl,rfl⟩ | ⟨rfl,rfl⟩ | ⟨rfl,rfl⟩ | ⟨rfl,rfl⟩ | ⟨rfl,rfl⟩ | ⟨rfl,rfl⟩ | ⟨rfl,rfl⟩ | ⟨rfl,rfl⟩ | ⟨rfl,rfl⟩ | ⟨rfl,rfl⟩ | ⟨rfl,rfl⟩ | ⟨rfl,rfl⟩ | ⟨rfl,rfl⟩ | ⟨rfl,rfl⟩ | ⟨rfl,rfl⟩ | ⟨rfl,rfl⟩ | ⟨rfl,rfl⟩ | ⟨rfl,rfl⟩ | ⟨rfl,rfl⟩ | ⟨rfl,rfl⟩ | ⟨rfl,rfl⟩ | ⟨rfl,rfl⟩ | ⟨rfl,rfl⟩ | ⟨rfl,rfl⟩ | ⟨rfl,rfl⟩ | ⟨rfl,rfl⟩ | ⟨rfl,rfl⟩ | ⟨rfl,rfl⟩ | ⟨rfl,rfl⟩ | ⟨rfl,rfl⟩ | ⟨rfl,rfl⟩ | ⟨rfl,rfl⟩ | ⟨rfl,rfl⟩ | ⟨rfl,rfl⟩ | ⟨rfl,rfl⟩ | ⟨rfl,rfl⟩ | ⟨rfl,rfl⟩ | ⟨rfl,rfl⟩ | ⟨rfl,rfl⟩ | ⟨rfl,rfl⟩ | ⟨rfl,rfl⟩ | ⟨rfl,rfl⟩ | ⟨rfl,rfl⟩ | ⟨rfl,rfl⟩ | ⟨rfl,rfl⟩ | ⟨rfl,rfl⟩ | ⟨rfl,rfl⟩ | ⟨rfl,rfl⟩ | ⟨rfl,rfl⟩ | ⟨rfl,rfl⟩ | ⟨rfl,rfl⟩ | ⟨rfl,rfl⟩
 ·exact ty2
 ·exact ty3
 ·exact ty4
 ·exact ty5
 ·exact ty6
 ·exact ty7
 ·exact ty8
 ·exact ty9
 ·exact Yh3
 ·exact Yh4
 ·exact Yh5
 ·exact Yh6
 ·exact Yh7
 ·exact Yh8
 ·exact Yh9
 ·exact Yia
 ·exact Yib
 ·exact Yic
 ·exact Yid
 ·exact Yie
 ·exact Yif
 ·exact Yig
 ·exact Yih
 ·exact Yii
 ·exact Yij
 ·exact Yik
 ·exact Yil
 ·exact Yim
 ·exact Yin
 ·exact Yio
 ·exact Yip
 ·exact Yiq
 ·exact Yir
 ·exact Yis
 ·exact Yit
 ·exact Yiu
 ·exact Yiv
 ·exact Yiw
 ·exact Yix
 ·exact Yiy
 ·exact Yiz
 ·exact Yi0
 ·exact Yi1
 ·exact Yi2
 ·exact Yi3
 ·exact Yi4
 ·exact Yi5
 ·exact Ygu
 ·exact Ygv
 ·exact Ygw
 ·exact Ygx
 ·exact Ygy
 ·exact Ygz
 ·exact Yg0
 ·exact Yg1
 ·exact Yg2
 ·exact Yg3
 ·exact Yg4
 ·exact Yg5
 ·exact Yg6
 ·exact Yg7
 ·exact Yg8
 ·exact Yg9
 ·exact Yha
 ·exact Yhb
 ·exact Yhc
 ·exact Yhd
 ·exact Yhe
 ·exact Yhf
 ·exact Yhg
 ·exact Yhh
 ·exact Yhi
 ·exact Yhj
 ·exact Yhk
 ·exact Yhl
 exact Yhm
theorem Yfs:Qo 2=some ⟨.int .i64,1,8,[.int .i64 0],false⟩:=rfl
theorem Z4b:Qo 3=some ⟨.int .i64,1,8,[.int .i64 0],false⟩:=rfl
theorem Yft:Qo 4=some ⟨.bool,1,1,[.bool false],false⟩:=rfl
theorem Z4c:Qo 5=some ⟨.int .u8,1,1,[.int .u8 0],false⟩:=rfl
theorem Yfu:Qo 6=some ⟨.int .u8,1,1,[.int .u8 0],false⟩:=rfl
theorem Yfv:Qo 7=some ⟨.struct [(0,2),(1,3),(2,4),(3,6)],4,24,[.int .i64 0,.int .i64 0,.bool false,.int .u8 0],false⟩:=rfl
theorem Yfw:Qo 8=some ⟨.struct [(0,2),(1,3),(2,4),(3,6)],4,24,[.int .i64 0,.int .i64 0,.bool false,.int .u8 0],false⟩:=rfl
theorem Yfx:Qo 9=some ⟨.str,1,16,[.string ByteArray.empty],false⟩:=rfl
theorem Ybj:Qo 10=some ⟨.str,1,16,[.string ByteArray.empty],false⟩:=rfl
theorem Ybk:Qo 11=some ⟨.str,1,16,[.string ByteArray.empty],false⟩:=rfl
theorem Ybl:Qo 12=some ⟨.int .u64,1,8,[.int .u64 0],false⟩:=rfl
theorem Ybm:Qo 13=some ⟨.struct [(0,9),(1,12)],2,24,[.string ByteArray.empty,.int .u64 0],false⟩:=rfl
theorem Ybn:Qo 14=some ⟨.struct [(0,9),(1,12)],2,24,[.string ByteArray.empty,.int .u64 0],false⟩:=rfl
theorem Ybo:Qo 15=some ⟨.ptr 190,1,8,[.pointer none],false⟩:=rfl
theorem Ybp:Qo 16=some ⟨.ptr 193,1,8,[.pointer none],false⟩:=rfl
theorem Ybq:Qo 17=some ⟨.ptr 203,1,8,[.pointer none],false⟩:=rfl
theorem Ybr:Qo 18=some ⟨.struct [(0,17)],1,8,[.pointer none],false⟩:=rfl
theorem Ybs:Qo 19=some ⟨.struct [(0,17)],1,8,[.pointer none],false⟩:=rfl
theorem Ybt:Qo 21=some ⟨.int .i32,1,4,[.int .i32 0],false⟩:=rfl
theorem Ybu:Qo 22=some ⟨.slice 73,1,24,[.slice none 0 0],false⟩:=rfl
theorem Z4a:Qo 23=some ⟨.slice 25,1,24,[.slice none 0 0],false⟩:=rfl
theorem Ybv:Qo 24=some ⟨.struct [(0,3),(1,22),(2,23)],3,56,[.int .i64 0,.slice none 0 0,.slice none 0 0],false⟩:=rfl
theorem V5:Qo 25=some ⟨.struct [(0,3),(1,22),(2,23)],3,56,[.int .i64 0,.slice none 0 0,.slice none 0 0],false⟩:=rfl
theorem Ybw:Qo 26=some ⟨.slice 82,1,24,[.slice none 0 0],false⟩:=rfl
theorem Ybx:Qo 27=some ⟨.slice 84,1,24,[.slice none 0 0],false⟩:=rfl
theorem Yby:Qo 28=some ⟨.slice 75,1,24,[.slice none 0 0],false⟩:=rfl
theorem Ybz:Qo 29=some ⟨.struct [(0,3),(1,25),(4,25),(7,26),(8,27),(9,3),(10,28)],11,200,[.int .i64 0,.int .i64 0,.slice none 0 0,.slice none 0 0,.int .i64 0,.slice none 0 0,.slice none 0 0,.slice none 0 0,.slice none 0 0,.int .i64 0,.slice none 0 0],false⟩:=rfl
theorem Zso:Qo 30=some ⟨.struct [(0,3),(1,25),(4,25),(7,26),(8,27),(9,3),(10,28)],11,200,[.int .i64 0,.int .i64 0,.slice none 0 0,.slice none 0 0,.int .i64 0,.slice none 0 0,.slice none 0 0,.slice none 0 0,.slice none 0 0,.int .i64 0,.slice none 0 0],false⟩:=rfl
theorem Yb0:Qo 36=some ⟨.int .i64,1,8,[.int .i64 0],false⟩:=rfl
theorem Yb1:Qo 43=some ⟨.slice 54,1,24,[.slice none 0 0],false⟩:=rfl
theorem Yb2:Qo 53=some ⟨.struct [(0,3),(1,3)],2,16,[.int .i64 0,.int .i64 0],false⟩:=rfl
theorem Zmw:Qo 54=some ⟨.struct [(0,3),(1,3)],2,16,[.int .i64 0,.int .i64 0],true⟩:=rfl
theorem Yb3:Qo 57=some ⟨.slice 30,1,24,[.slice none 0 0],false⟩:=rfl
theorem Yb4:Qo 62=some ⟨.ptr 95,1,8,[.pointer none],false⟩:=rfl
theorem Yb5:Qo 65=some ⟨.struct [(0,3),(1,3),(2,30)],13,216,[.int .i64 0,.int .i64 0,.int .i64 0,.int .i64 0,.slice none 0 0,.slice none 0 0,.int .i64 0,.slice none 0 0,.slice none 0 0,.slice none 0 0,.slice none 0 0,.int .i64 0,.slice none 0 0],false⟩:=rfl
theorem Yb6:Qo 66=some ⟨.struct [(0,3),(1,3),(2,30)],13,216,[.int .i64 0,.int .i64 0,.int .i64 0,.int .i64 0,.slice none 0 0,.slice none 0 0,.int .i64 0,.slice none 0 0,.slice none 0 0,.slice none 0 0,.slice none 0 0,.int .i64 0,.slice none 0 0],false⟩:=rfl
theorem Zf5:Qo 73=some ⟨.int .u64,1,8,[.int .u64 0],false⟩:=rfl
theorem Yb7:Qo 74=some ⟨.struct [(0,3),(1,3),(2,23),(3,30)],14,240,[.int .i64 0,.int .i64 0,.slice none 0 0,.int .i64 0,.int .i64 0,.slice none 0 0,.slice none 0 0,.int .i64 0,.slice none 0 0,.slice none 0 0,.slice none 0 0,.slice none 0 0,.int .i64 0,.slice none 0 0],false⟩:=rfl
theorem Zfv:Qo 75=some ⟨.struct [(0,3),(1,3),(2,23),(3,30)],14,240,[.int .i64 0,.int .i64 0,.slice none 0 0,.int .i64 0,.int .i64 0,.slice none 0 0,.slice none 0 0,.int .i64 0,.slice none 0 0,.slice none 0 0,.slice none 0 0,.slice none 0 0,.int .i64 0,.slice none 0 0],false⟩:=rfl
theorem Yb8:Qo 76=some ⟨.struct [(0,4),(1,4)],2,2,[.bool false,.bool false],false⟩:=rfl
theorem Yb9:Qo 77=some ⟨.struct [(0,4),(1,4)],2,2,[.bool false,.bool false],true⟩:=rfl
theorem Yca:Qo 81=some ⟨.struct [(0,3),(1,5),(2,73),(3,73)],4,32,[.int .i64 0,.int .u8 0,.int .u64 0,.int .u64 0],false⟩:=rfl
theorem Zyo:Qo 82=some ⟨.struct [(0,3),(1,5),(2,73),(3,73)],4,32,[.int .i64 0,.int .u8 0,.int .u64 0,.int .u64 0],true⟩:=rfl
theorem Ycb:Qo 83=some ⟨.struct [(0,3),(1,30)],12,208,[.int .i64 0,.int .i64 0,.int .i64 0,.slice none 0 0,.slice none 0 0,.int .i64 0,.slice none 0 0,.slice none 0 0,.slice none 0 0,.slice none 0 0,.int .i64 0,.slice none 0 0],false⟩:=rfl
theorem Zmx:Qo 84=some ⟨.struct [(0,3),(1,30)],12,208,[.int .i64 0,.int .i64 0,.int .i64 0,.slice none 0 0,.slice none 0 0,.int .i64 0,.slice none 0 0,.slice none 0 0,.slice none 0 0,.slice none 0 0,.int .i64 0,.slice none 0 0],false⟩:=rfl
theorem Ycc:Qo 94=some ⟨.struct [(0,25),(3,57),(4,57)],5,104,[.int .i64 0,.slice none 0 0,.slice none 0 0,.slice none 0 0,.slice none 0 0],false⟩:=rfl
theorem Ycd:Qo 95=some ⟨.struct [(0,25),(3,57),(4,57)],5,104,[.int .i64 0,.slice none 0 0,.slice none 0 0,.slice none 0 0,.slice none 0 0],false⟩:=rfl
theorem Z5q:Qo 101=some ⟨.ptr 77,1,8,[.pointer none],false⟩:=rfl
theorem Z5r:Qo 122=some ⟨.ptr 25,1,8,[.pointer none],false⟩:=rfl
theorem Z5s:Qo 124=some ⟨.struct [(0,23),(1,23)],2,48,[.slice none 0 0,.slice none 0 0],false⟩:=rfl
theorem Z5t:Qo 125=some ⟨.struct [(0,23),(1,23)],2,48,[.slice none 0 0,.slice none 0 0],false⟩:=rfl
theorem Z5u:Qo 127=some ⟨.ptr 138,1,8,[.pointer none],false⟩:=rfl
theorem Z5v:Qo 132=some ⟨.slice 136,1,24,[.slice none 0 0],false⟩:=rfl
theorem Z5w:Qo 135=some ⟨.struct [(0,3),(1,75),(15,75)],29,488,[.int .i64 0,.int .i64 0,.int .i64 0,.slice none 0 0,.int .i64 0,.int .i64 0,.slice none 0 0,.slice none 0 0,.int .i64 0,.slice none 0 0,.slice none 0 0,.slice none 0 0,.slice none 0 0,.int .i64 0,.slice none 0 0,.int .i64 0,.int .i64 0,.slice none 0 0,.int .i64 0,.int .i64 0,.slice none 0 0,.slice none 0 0,.int .i64 0,.slice none 0 0,.slice none 0 0,.slice none 0 0,.slice none 0 0,.int .i64 0,.slice none 0 0],false⟩:=rfl
theorem Z5x:Qo 136=some ⟨.struct [(0,3),(1,75),(15,75)],29,488,[.int .i64 0,.int .i64 0,.int .i64 0,.slice none 0 0,.int .i64 0,.int .i64 0,.slice none 0 0,.slice none 0 0,.int .i64 0,.slice none 0 0,.slice none 0 0,.slice none 0 0,.slice none 0 0,.int .i64 0,.slice none 0 0,.int .i64 0,.int .i64 0,.slice none 0 0,.int .i64 0,.int .i64 0,.slice none 0 0,.slice none 0 0,.int .i64 0,.slice none 0 0,.slice none 0 0,.slice none 0 0,.slice none 0 0,.int .i64 0,.slice none 0 0],false⟩:=rfl
theorem Z5y:Qo 137=some ⟨.struct [(0,101),(1,30),(12,23)],13,232,[.pointer none,.int .i64 0,.int .i64 0,.slice none 0 0,.slice none 0 0,.int .i64 0,.slice none 0 0,.slice none 0 0,.slice none 0 0,.slice none 0 0,.int .i64 0,.slice none 0 0,.slice none 0 0],false⟩:=rfl
theorem Z5z:Qo 138=some ⟨.struct [(0,101),(1,30),(12,23)],13,232,[.pointer none,.int .i64 0,.int .i64 0,.slice none 0 0,.slice none 0 0,.int .i64 0,.slice none 0 0,.slice none 0 0,.slice none 0 0,.slice none 0 0,.int .i64 0,.slice none 0 0,.slice none 0 0],false⟩:=rfl
theorem Z50:Qo 141=some ⟨.struct [(0,28),(1,3),(2,23),(3,23)],4,80,[.slice none 0 0,.int .i64 0,.slice none 0 0,.slice none 0 0],false⟩:=rfl
theorem Z51:Qo 142=some ⟨.struct [(0,28),(1,3),(2,23),(3,23)],4,80,[.slice none 0 0,.int .i64 0,.slice none 0 0,.slice none 0 0],false⟩:=rfl
theorem Z52:Qo 145=some ⟨.ptr 23,1,8,[.pointer none],false⟩:=rfl
theorem Zwd:Qo 154=some ⟨.arr 8 5,8,8,[.int .u8 0,.int .u8 0,.int .u8 0,.int .u8 0,.int .u8 0,.int .u8 0,.int .u8 0,.int .u8 0],false⟩:=rfl
theorem Z53:Qo 158=some ⟨.slice 5,1,24,[.slice none 0 0],false⟩:=rfl
theorem Z54:Qo 159=some ⟨.ptr 125,1,8,[.pointer none],false⟩:=rfl
theorem Z55:Qo 166=some ⟨.ptr 142,1,8,[.pointer none],false⟩:=rfl
theorem Z56:Qo 169=some ⟨.struct [(0,28),(1,3)],2,32,[.slice none 0 0,.int .i64 0],false⟩:=rfl
theorem Z57:Qo 170=some ⟨.struct [(0,28),(1,3)],2,32,[.slice none 0 0,.int .i64 0],false⟩:=rfl
theorem Z58:Qo 184=some ⟨.ptr 170,1,8,[.pointer none],false⟩:=rfl
theorem Z59:Qo 187=some ⟨.arr 6 3,6,48,[.int .i64 0,.int .i64 0,.int .i64 0,.int .i64 0,.int .i64 0,.int .i64 0],false⟩:=rfl
theorem Z6a:Qo 189=some ⟨.struct [(0,17),(1,17),(2,17),(3,9)],4,40,[.pointer none,.pointer none,.pointer none,.string ByteArray.empty],false⟩:=rfl
theorem Z6b:Qo 190=some ⟨.struct [(0,17),(1,17),(2,17),(3,9)],4,40,[.pointer none,.pointer none,.pointer none,.string ByteArray.empty],false⟩:=rfl
theorem Z6c:Qo 195=some ⟨.int .u32,1,4,[.int .u32 0],false⟩:=rfl
theorem Z6d:Qo 196=some ⟨.int .u8,1,1,[.int .u8 0],false⟩:=rfl
theorem Z6e:Qo 197=some ⟨.int .u8,1,1,[.int .u8 0],false⟩:=rfl
theorem Z6f:Qo 199=some ⟨.ptr 5,1,8,[.pointer none],false⟩:=rfl
theorem Z6g:Qo 200=some ⟨.int .i32,1,4,[.int .i32 0],false⟩:=rfl
theorem Z6h:Qo 201=some ⟨.int .i32,1,4,[.int .i32 0],false⟩:=rfl
theorem Z6i:Yi Qo 2=some (.int .i64):=rfl
theorem Z6j:Yi Qo 3=some (.int .i64):=rfl
theorem Z6k:Yi Qo 4=some (.bool):=rfl
theorem Z6l:Yi Qo 5=some (.int .u8):=rfl
theorem Z6m:Yi Qo 6=some (.int .u8):=rfl
theorem Z6n:Yi Qo 7=some (.struct [(0,2),(1,3),(2,4),(3,6)]):=rfl
theorem Z6o:Yi Qo 8=some (.struct [(0,2),(1,3),(2,4),(3,6)]):=rfl
theorem Z6p:Yi Qo 9=some (.str):=rfl
theorem Z1g:Yi Qo 10=some (.str):=rfl
theorem Z1h:Yi Qo 11=some (.str):=rfl
theorem Z1i:Yi Qo 12=some (.int .u64):=rfl
theorem Z1j:Yi Qo 13=some (.struct [(0,9),(1,12)]):=rfl
theorem Z1k:Yi Qo 14=some (.struct [(0,9),(1,12)]):=rfl
theorem Z1l:Yi Qo 15=some (.ptr 190):=rfl
theorem Z1m:Yi Qo 16=some (.ptr 193):=rfl
theorem Z1n:Yi Qo 17=some (.ptr 203):=rfl
theorem Z1o:Yi Qo 18=some (.struct [(0,17)]):=rfl
theorem Z1p:Yi Qo 19=some (.struct [(0,17)]):=rfl
theorem Z1q:Yi Qo 21=some (.int .i32):=rfl
theorem Zqr:Yi Qo 22=some (.slice 73):=rfl
theorem Zfw:Yi Qo 23=some (.slice 25):=rfl
theorem Z1r:Yi Qo 24=some (.struct [(0,3),(1,22),(2,23)]):=rfl
theorem Z1s:Yi Qo 25=some (.struct [(0,3),(1,22),(2,23)]):=rfl
theorem Z1t:Yi Qo 26=some (.slice 82):=rfl
theorem Z1u:Yi Qo 27=some (.slice 84):=rfl
theorem Z1v:Yi Qo 28=some (.slice 75):=rfl
theorem Z1w:Yi Qo 29=some (.struct [(0,3),(1,25),(4,25),(7,26),(8,27),(9,3),(10,28)]):=rfl
theorem Z1x:Yi Qo 30=some (.struct [(0,3),(1,25),(4,25),(7,26),(8,27),(9,3),(10,28)]):=rfl
theorem Z1y:Yi Qo 36=some (.int .i64):=rfl
theorem Znh:Yi Qo 43=some (.slice 54):=rfl
theorem Z1z:Yi Qo 53=some (.struct [(0,3),(1,3)]):=rfl
theorem Z10:Yi Qo 54=some (.struct [(0,3),(1,3)]):=rfl
theorem Z11:Yi Qo 57=some (.slice 30):=rfl
theorem Z12:Yi Qo 62=some (.ptr 95):=rfl
theorem Z13:Yi Qo 65=some (.struct [(0,3),(1,3),(2,30)]):=rfl
theorem Z14:Yi Qo 66=some (.struct [(0,3),(1,3),(2,30)]):=rfl
theorem Z15:Yi Qo 73=some (.int .u64):=rfl
theorem Z16:Yi Qo 74=some (.struct [(0,3),(1,3),(2,23),(3,30)]):=rfl
theorem Z17:Yi Qo 75=some (.struct [(0,3),(1,3),(2,23),(3,30)]):=rfl
theorem Z18:Yi Qo 76=some (.struct [(0,4),(1,4)]):=rfl
theorem Z19:Yi Qo 77=some (.struct [(0,4),(1,4)]):=rfl
theorem Z2a:Yi Qo 81=some (.struct [(0,3),(1,5),(2,73),(3,73)]):=rfl
theorem Z2b:Yi Qo 82=some (.struct [(0,3),(1,5),(2,73),(3,73)]):=rfl
theorem Z2c:Yi Qo 83=some (.struct [(0,3),(1,30)]):=rfl
theorem Z2d:Yi Qo 84=some (.struct [(0,3),(1,30)]):=rfl
theorem Z2e:Yi Qo 94=some (.struct [(0,25),(3,57),(4,57)]):=rfl
theorem Z2f:Yi Qo 95=some (.struct [(0,25),(3,57),(4,57)]):=rfl
theorem Zwf:Yi Qo 101=some (.ptr 77):=rfl
theorem Zwg:Yi Qo 122=some (.ptr 25):=rfl
theorem Zwh:Yi Qo 124=some (.struct [(0,23),(1,23)]):=rfl
theorem Zwi:Yi Qo 125=some (.struct [(0,23),(1,23)]):=rfl
theorem Zwj:Yi Qo 127=some (.ptr 138):=rfl
theorem Zwk:Yi Qo 132=some (.slice 136):=rfl
theorem Zwl:Yi Qo 135=some (.struct [(0,3),(1,75),(15,75)]):=rfl
theorem Zwm:Yi Qo 136=some (.struct [(0,3),(1,75),(15,75)]):=rfl
theorem Zwn:Yi Qo 137=some (.struct [(0,101),(1,30),(12,23)]):=rfl
theorem Zwo:Yi Qo 138=some (.struct [(0,101),(1,30),(12,23)]):=rfl
theorem Zwp:Yi Qo 141=some (.struct [(0,28),(1,3),(2,23),(3,23)]):=rfl
theorem Zwq:Yi Qo 142=some (.struct [(0,28),(1,3),(2,23),(3,23)]):=rfl
theorem Zwr:Yi Qo 145=some (.ptr 23):=rfl
theorem Zqq:Yi Qo 154=some (.arr 8 5):=rfl
theorem Zws:Yi Qo 158=some (.slice 5):=rfl
theorem Zwt:Yi Qo 159=some (.ptr 125):=rfl
theorem Zwu:Yi Qo 166=some (.ptr 142):=rfl
theorem Zwv:Yi Qo 169=some (.struct [(0,28),(1,3)]):=rfl
theorem Zww:Yi Qo 170=some (.struct [(0,28),(1,3)]):=rfl
theorem Zwx:Yi Qo 184=some (.ptr 170):=rfl
theorem Zwy:Yi Qo 187=some (.arr 6 3):=rfl
theorem Zwz:Yi Qo 189=some (.struct [(0,17),(1,17),(2,17),(3,9)]):=rfl
theorem Zw0:Yi Qo 190=some (.struct [(0,17),(1,17),(2,17),(3,9)]):=rfl
theorem Zw1:Yi Qo 195=some (.int .u32):=rfl
theorem Zw2:Yi Qo 196=some (.int .u8):=rfl
theorem Zw3:Yi Qo 197=some (.int .u8):=rfl
theorem Zw4:Yi Qo 199=some (.ptr 5):=rfl
theorem Zw5:Yi Qo 200=some (.int .i32):=rfl
theorem Zw6:Yi Qo 201=some (.int .i32):=rfl
end Go.Proofs.Ytfjkcekfifobpaa
