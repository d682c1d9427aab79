/- The types of this seat's program, as its dump has them, in the ghost memory's words; no condition. -/
import Derived.Test.YtbjcopkgdjombaaRows
import Derived.Test.YtbjcopkgdjombaaG13
namespace Go.Proofs.Ytbjcopkgdjombaa
open Go.RowKit
set_option linter.unusedVariables false
set_option linter.unusedSimpArgs false
theorem TyOk.of {P:Program} {t:TypeId} (k:TK) (size bytes:Nat) (zero:List Value) (z:Value) (h:(P.info? t).map (fun i=>(i.zero,i.size,i.bytes))=some (some z,size,bytes)) (hz:z.cells.toList=zero) (hu:k.ok P t) (hl:zero.length=size) (h1:zero.all Value.oneCell'=true) (eq:Bool) (he:eq=true→Z55 P t):TyOk P t ⟨k,size,bytes,zero,eq⟩:=by
 refine ⟨?_,hu,hl,fun v hv=>List.all_eq_true.1 h1 v hv,he⟩
 cases hi:P.info? t with
 | none=>rw [hi] at h;cases h
 | some i =>
  rw [hi] at h
  simp only [Option.map_some,Option.some.injEq,Prod.mk.injEq] at h
  exact ⟨i,z,rfl,h.2.1,h.2.2,h.1,hz⟩
theorem Zqb {α:Type} {t:Nat} {i:α}:∀ (l:List (Nat×α)),l.lookup t=some i→(t,i)∈l
 | [],h=>by simp at h
 | (a,b)::l,h=>by
  rw [List.lookup_cons] at h
  split at h
  ·rename_i he
   injection h with h
   have:t=a:=by simpa using he
   subst h this
   exact .head _
  exact .tail _ (Zqb l h)
theorem ty2:TyOk Try.prog 2 ⟨.int .i64,1,8,[.int .i64 0],false⟩:=TyOk.of _ _ _ _ (.int .i64 0) (by kernel_rfl) rfl (by exact Try.underlying2) rfl rfl false (fun h=>by cases h)
theorem ty3:TyOk Try.prog 3 ⟨.int .i64,1,8,[.int .i64 0],false⟩:=TyOk.of _ _ _ _ (.int .i64 0) (by kernel_rfl) rfl (by exact Try.underlying3) rfl rfl false (fun h=>by cases h)
theorem ty4:TyOk Try.prog 4 ⟨.bool,1,1,[.bool false],false⟩:=TyOk.of _ _ _ _ (.bool false) (by kernel_rfl) rfl (by exact Try.underlying4) rfl rfl false (fun h=>by cases h)
theorem ty5:TyOk Try.prog 5 ⟨.int .u8,1,1,[.int .u8 0],false⟩:=TyOk.of _ _ _ _ (.int .u8 0) (by kernel_rfl) rfl (by exact Try.underlying5) rfl rfl false (fun h=>by cases h)
theorem ty6:TyOk Try.prog 6 ⟨.int .u8,1,1,[.int .u8 0],false⟩:=TyOk.of _ _ _ _ (.int .u8 0) (by kernel_rfl) rfl (by exact Try.underlying6) rfl rfl false (fun h=>by cases h)
theorem ty7:TyOk Try.prog 7 ⟨.struct [(0,2),(1,3),(2,4),(3,6)],4,24,[.int .i64 0,.int .i64 0,.bool false,.int .u8 0],false⟩:=TyOk.of _ _ _ _ (.agg #[.int .i64 0,.int .i64 0,.bool false,.int .u8 0]) (by kernel_rfl) rfl (by exact ⟨_,Try.underlying7,rfl⟩) rfl rfl false (fun h=>by cases h)
theorem ty8:TyOk Try.prog 8 ⟨.struct [(0,2),(1,3),(2,4),(3,6)],4,24,[.int .i64 0,.int .i64 0,.bool false,.int .u8 0],false⟩:=TyOk.of _ _ _ _ (.agg #[.int .i64 0,.int .i64 0,.bool false,.int .u8 0]) (by kernel_rfl) rfl (by exact ⟨_,Try.underlying8,rfl⟩) rfl rfl false (fun h=>by cases h)
theorem ty9:TyOk Try.prog 9 ⟨.str,1,16,[.string ByteArray.empty],false⟩:=TyOk.of _ _ _ _ (.string ByteArray.empty) (by kernel_rfl) rfl (by exact Try.underlying9) rfl rfl false (fun h=>by cases h)
theorem Z8s:TyOk Try.prog 10 ⟨.str,1,16,[.string ByteArray.empty],false⟩:=TyOk.of _ _ _ _ (.string ByteArray.empty) (by kernel_rfl) rfl (by exact Try.underlying10) rfl rfl false (fun h=>by cases h)
theorem Z8t:TyOk Try.prog 11 ⟨.str,1,16,[.string ByteArray.empty],false⟩:=TyOk.of _ _ _ _ (.string ByteArray.empty) (by kernel_rfl) rfl (by exact Try.underlying11) rfl rfl false (fun h=>by cases h)
theorem Z8u:TyOk Try.prog 12 ⟨.int .u64,1,8,[.int .u64 0],false⟩:=TyOk.of _ _ _ _ (.int .u64 0) (by kernel_rfl) rfl (by exact Try.underlying12) rfl rfl false (fun h=>by cases h)
theorem Z8v:TyOk Try.prog 13 ⟨.struct [(0,9),(1,12)],2,24,[.string ByteArray.empty,.int .u64 0],false⟩:=TyOk.of _ _ _ _ (.agg #[.string ByteArray.empty,.int .u64 0]) (by kernel_rfl) rfl (by exact ⟨_,Try.underlying13,rfl⟩) rfl rfl false (fun h=>by cases h)
theorem Z8w:TyOk Try.prog 14 ⟨.struct [(0,9),(1,12)],2,24,[.string ByteArray.empty,.int .u64 0],false⟩:=TyOk.of _ _ _ _ (.agg #[.string ByteArray.empty,.int .u64 0]) (by kernel_rfl) rfl (by exact ⟨_,Try.underlying14,rfl⟩) rfl rfl false (fun h=>by cases h)
theorem Z8x:TyOk Try.prog 15 ⟨.ptr 151,1,8,[.pointer none],false⟩:=TyOk.of _ _ _ _ (.pointer none) (by kernel_rfl) rfl (by exact Try.underlying15) rfl rfl false (fun h=>by cases h)
theorem Z8y:TyOk Try.prog 16 ⟨.ptr 154,1,8,[.pointer none],false⟩:=TyOk.of _ _ _ _ (.pointer none) (by kernel_rfl) rfl (by exact Try.underlying16) rfl rfl false (fun h=>by cases h)
theorem Z8z:TyOk Try.prog 17 ⟨.ptr 164,1,8,[.pointer none],false⟩:=TyOk.of _ _ _ _ (.pointer none) (by kernel_rfl) rfl (by exact Try.underlying17) rfl rfl false (fun h=>by cases h)
theorem Z80:TyOk Try.prog 18 ⟨.struct [(0,17)],1,8,[.pointer none],false⟩:=TyOk.of _ _ _ _ (.agg #[.pointer none]) (by kernel_rfl) rfl (by exact ⟨_,Try.underlying18,rfl⟩) rfl rfl false (fun h=>by cases h)
theorem Z81:TyOk Try.prog 19 ⟨.struct [(0,17)],1,8,[.pointer none],false⟩:=TyOk.of _ _ _ _ (.agg #[.pointer none]) (by kernel_rfl) rfl (by exact ⟨_,Try.underlying19,rfl⟩) rfl rfl false (fun h=>by cases h)
theorem Z82:TyOk Try.prog 21 ⟨.int .i32,1,4,[.int .i32 0],false⟩:=TyOk.of _ _ _ _ (.int .i32 0) (by kernel_rfl) rfl (by exact Try.underlying21) rfl rfl false (fun h=>by cases h)
theorem Z83:TyOk Try.prog 22 ⟨.slice 40,1,24,[.slice none 0 0],false⟩:=TyOk.of _ _ _ _ (.slice none 0 0) (by kernel_rfl) rfl (by exact Try.underlying22) rfl rfl false (fun h=>by cases h)
theorem Z84:TyOk Try.prog 23 ⟨.slice 25,1,24,[.slice none 0 0],false⟩:=TyOk.of _ _ _ _ (.slice none 0 0) (by kernel_rfl) rfl (by exact Try.underlying23) rfl rfl false (fun h=>by cases h)
theorem Z85:TyOk Try.prog 24 ⟨.struct [(0,3),(1,22),(2,23)],3,56,[.int .i64 0,.slice none 0 0,.slice none 0 0],false⟩:=TyOk.of _ _ _ _ (.agg #[.int .i64 0,.slice none 0 0,.slice none 0 0]) (by kernel_rfl) rfl (by exact ⟨_,Try.underlying24,rfl⟩) rfl rfl false (fun h=>by cases h)
theorem Z86:TyOk Try.prog 25 ⟨.struct [(0,3),(1,22),(2,23)],3,56,[.int .i64 0,.slice none 0 0,.slice none 0 0],false⟩:=TyOk.of _ _ _ _ (.agg #[.int .i64 0,.slice none 0 0,.slice none 0 0]) (by kernel_rfl) rfl (by exact ⟨_,Try.underlying25,rfl⟩) rfl rfl false (fun h=>by cases h)
theorem Z87:TyOk Try.prog 26 ⟨.slice 42,1,24,[.slice none 0 0],false⟩:=TyOk.of _ _ _ _ (.slice none 0 0) (by kernel_rfl) rfl (by exact Try.underlying26) rfl rfl false (fun h=>by cases h)
theorem Z88:TyOk Try.prog 27 ⟨.slice 55,1,24,[.slice none 0 0],false⟩:=TyOk.of _ _ _ _ (.slice none 0 0) (by kernel_rfl) rfl (by exact Try.underlying27) rfl rfl false (fun h=>by cases h)
theorem Z89:TyOk Try.prog 28 ⟨.slice 53,1,24,[.slice none 0 0],false⟩:=TyOk.of _ _ _ _ (.slice none 0 0) (by kernel_rfl) rfl (by exact Try.underlying28) rfl rfl false (fun h=>by cases h)
theorem Z9a:TyOk Try.prog 29 ⟨.struct [(0,3),(1,25),(4,25),(7,26),(8,27),(9,3),(10,28)],11,200,[.int .i64 0,.int .i64 0,.slice none 0 0,.slice none 0 0,.int .i64 0,.slice none 0 0,.slice none 0 0,.slice none 0 0,.slice none 0 0,.int .i64 0,.slice none 0 0],false⟩:=TyOk.of _ _ _ _ (.agg #[.int .i64 0,.int .i64 0,.slice none 0 0,.slice none 0 0,.int .i64 0,.slice none 0 0,.slice none 0 0,.slice none 0 0,.slice none 0 0,.int .i64 0,.slice none 0 0]) (by kernel_rfl) rfl (by exact ⟨_,Try.underlying29,rfl⟩) rfl rfl false (fun h=>by cases h)
theorem Z9b:TyOk Try.prog 30 ⟨.struct [(0,3),(1,25),(4,25),(7,26),(8,27),(9,3),(10,28)],11,200,[.int .i64 0,.int .i64 0,.slice none 0 0,.slice none 0 0,.int .i64 0,.slice none 0 0,.slice none 0 0,.slice none 0 0,.slice none 0 0,.int .i64 0,.slice none 0 0],false⟩:=TyOk.of _ _ _ _ (.agg #[.int .i64 0,.int .i64 0,.slice none 0 0,.slice none 0 0,.int .i64 0,.slice none 0 0,.slice none 0 0,.slice none 0 0,.slice none 0 0,.int .i64 0,.slice none 0 0]) (by kernel_rfl) rfl (by exact ⟨_,Try.underlying30,rfl⟩) rfl rfl false (fun h=>by cases h)
theorem Z9c:TyOk Try.prog 40 ⟨.int .u64,1,8,[.int .u64 0],false⟩:=TyOk.of _ _ _ _ (.int .u64 0) (by kernel_rfl) rfl (by exact Try.underlying40) rfl rfl false (fun h=>by cases h)
theorem Z9d:TyOk Try.prog 41 ⟨.struct [(0,3),(1,5),(2,40),(3,40)],4,32,[.int .i64 0,.int .u8 0,.int .u64 0,.int .u64 0],false⟩:=TyOk.of _ _ _ _ (.agg #[.int .i64 0,.int .u8 0,.int .u64 0,.int .u64 0]) (by kernel_rfl) rfl (by exact ⟨_,Try.underlying41,rfl⟩) rfl rfl false (fun h=>by cases h)
theorem Z9e:TyOk Try.prog 42 ⟨.struct [(0,3),(1,5),(2,40),(3,40)],4,32,[.int .i64 0,.int .u8 0,.int .u64 0,.int .u64 0],true⟩:=TyOk.of _ _ _ _ (.agg #[.int .i64 0,.int .u8 0,.int .u64 0,.int .u64 0]) (by kernel_rfl) rfl (by exact ⟨_,Try.underlying42,rfl⟩) rfl rfl true (fun _=>by unfold Z55;exact ⟨by kernel_rfl,by kernel_rfl,by kernel_rfl⟩)
theorem Z9f:TyOk Try.prog 52 ⟨.struct [(0,3),(1,3),(2,23),(3,30)],14,240,[.int .i64 0,.int .i64 0,.slice none 0 0,.int .i64 0,.int .i64 0,.slice none 0 0,.slice none 0 0,.int .i64 0,.slice none 0 0,.slice none 0 0,.slice none 0 0,.slice none 0 0,.int .i64 0,.slice none 0 0],false⟩:=TyOk.of _ _ _ _ (.agg #[.int .i64 0,.int .i64 0,.slice none 0 0,.int .i64 0,.int .i64 0,.slice none 0 0,.slice none 0 0,.int .i64 0,.slice none 0 0,.slice none 0 0,.slice none 0 0,.slice none 0 0,.int .i64 0,.slice none 0 0]) (by kernel_rfl) rfl (by exact ⟨_,Try.underlying52,rfl⟩) rfl rfl false (fun h=>by cases h)
theorem Z9g:TyOk Try.prog 53 ⟨.struct [(0,3),(1,3),(2,23),(3,30)],14,240,[.int .i64 0,.int .i64 0,.slice none 0 0,.int .i64 0,.int .i64 0,.slice none 0 0,.slice none 0 0,.int .i64 0,.slice none 0 0,.slice none 0 0,.slice none 0 0,.slice none 0 0,.int .i64 0,.slice none 0 0],false⟩:=TyOk.of _ _ _ _ (.agg #[.int .i64 0,.int .i64 0,.slice none 0 0,.int .i64 0,.int .i64 0,.slice none 0 0,.slice none 0 0,.int .i64 0,.slice none 0 0,.slice none 0 0,.slice none 0 0,.slice none 0 0,.int .i64 0,.slice none 0 0]) (by kernel_rfl) rfl (by exact ⟨_,Try.underlying53,rfl⟩) rfl rfl false (fun h=>by cases h)
theorem Z9h:TyOk Try.prog 54 ⟨.struct [(0,3),(1,30)],12,208,[.int .i64 0,.int .i64 0,.int .i64 0,.slice none 0 0,.slice none 0 0,.int .i64 0,.slice none 0 0,.slice none 0 0,.slice none 0 0,.slice none 0 0,.int .i64 0,.slice none 0 0],false⟩:=TyOk.of _ _ _ _ (.agg #[.int .i64 0,.int .i64 0,.int .i64 0,.slice none 0 0,.slice none 0 0,.int .i64 0,.slice none 0 0,.slice none 0 0,.slice none 0 0,.slice none 0 0,.int .i64 0,.slice none 0 0]) (by kernel_rfl) rfl (by exact ⟨_,Try.underlying54,rfl⟩) rfl rfl false (fun h=>by cases h)
theorem Z9i:TyOk Try.prog 55 ⟨.struct [(0,3),(1,30)],12,208,[.int .i64 0,.int .i64 0,.int .i64 0,.slice none 0 0,.slice none 0 0,.int .i64 0,.slice none 0 0,.slice none 0 0,.slice none 0 0,.slice none 0 0,.int .i64 0,.slice none 0 0],false⟩:=TyOk.of _ _ _ _ (.agg #[.int .i64 0,.int .i64 0,.int .i64 0,.slice none 0 0,.slice none 0 0,.int .i64 0,.slice none 0 0,.slice none 0 0,.slice none 0 0,.slice none 0 0,.int .i64 0,.slice none 0 0]) (by kernel_rfl) rfl (by exact ⟨_,Try.underlying55,rfl⟩) rfl rfl false (fun h=>by cases h)
theorem Z9j:TyOk Try.prog 65 ⟨.arr 8 5,8,8,[.int .u8 0,.int .u8 0,.int .u8 0,.int .u8 0,.int .u8 0,.int .u8 0,.int .u8 0,.int .u8 0],false⟩:=TyOk.of _ _ _ _ (.agg #[.int .u8 0,.int .u8 0,.int .u8 0,.int .u8 0,.int .u8 0,.int .u8 0,.int .u8 0,.int .u8 0]) (by kernel_rfl) rfl (by exact Try.underlying65) rfl rfl false (fun h=>by cases h)
theorem Z9k:TyOk Try.prog 69 ⟨.slice 5,1,24,[.slice none 0 0],false⟩:=TyOk.of _ _ _ _ (.slice none 0 0) (by kernel_rfl) rfl (by exact Try.underlying69) rfl rfl false (fun h=>by cases h)
theorem Z9l:TyOk Try.prog 90 ⟨.slice 94,1,24,[.slice none 0 0],false⟩:=TyOk.of _ _ _ _ (.slice none 0 0) (by kernel_rfl) rfl (by exact Try.underlying90) rfl rfl false (fun h=>by cases h)
theorem Z9m:TyOk Try.prog 93 ⟨.struct [(0,3),(1,53),(15,53)],29,488,[.int .i64 0,.int .i64 0,.int .i64 0,.slice none 0 0,.int .i64 0,.int .i64 0,.slice none 0 0,.slice none 0 0,.int .i64 0,.slice none 0 0,.slice none 0 0,.slice none 0 0,.slice none 0 0,.int .i64 0,.slice none 0 0,.int .i64 0,.int .i64 0,.slice none 0 0,.int .i64 0,.int .i64 0,.slice none 0 0,.slice none 0 0,.int .i64 0,.slice none 0 0,.slice none 0 0,.slice none 0 0,.slice none 0 0,.int .i64 0,.slice none 0 0],false⟩:=TyOk.of _ _ _ _ (.agg #[.int .i64 0,.int .i64 0,.int .i64 0,.slice none 0 0,.int .i64 0,.int .i64 0,.slice none 0 0,.slice none 0 0,.int .i64 0,.slice none 0 0,.slice none 0 0,.slice none 0 0,.slice none 0 0,.int .i64 0,.slice none 0 0,.int .i64 0,.int .i64 0,.slice none 0 0,.int .i64 0,.int .i64 0,.slice none 0 0,.slice none 0 0,.int .i64 0,.slice none 0 0,.slice none 0 0,.slice none 0 0,.slice none 0 0,.int .i64 0,.slice none 0 0]) (by kernel_rfl) rfl (by exact ⟨_,Try.underlying93,rfl⟩) rfl rfl false (fun h=>by cases h)
theorem Z9n:TyOk Try.prog 94 ⟨.struct [(0,3),(1,53),(15,53)],29,488,[.int .i64 0,.int .i64 0,.int .i64 0,.slice none 0 0,.int .i64 0,.int .i64 0,.slice none 0 0,.slice none 0 0,.int .i64 0,.slice none 0 0,.slice none 0 0,.slice none 0 0,.slice none 0 0,.int .i64 0,.slice none 0 0,.int .i64 0,.int .i64 0,.slice none 0 0,.int .i64 0,.int .i64 0,.slice none 0 0,.slice none 0 0,.int .i64 0,.slice none 0 0,.slice none 0 0,.slice none 0 0,.slice none 0 0,.int .i64 0,.slice none 0 0],false⟩:=TyOk.of _ _ _ _ (.agg #[.int .i64 0,.int .i64 0,.int .i64 0,.slice none 0 0,.int .i64 0,.int .i64 0,.slice none 0 0,.slice none 0 0,.int .i64 0,.slice none 0 0,.slice none 0 0,.slice none 0 0,.slice none 0 0,.int .i64 0,.slice none 0 0,.int .i64 0,.int .i64 0,.slice none 0 0,.int .i64 0,.int .i64 0,.slice none 0 0,.slice none 0 0,.int .i64 0,.slice none 0 0,.slice none 0 0,.slice none 0 0,.slice none 0 0,.int .i64 0,.slice none 0 0]) (by kernel_rfl) rfl (by exact ⟨_,Try.underlying94,rfl⟩) rfl rfl false (fun h=>by cases h)
theorem Z9o:TyOk Try.prog 97 ⟨.struct [(0,28),(1,3),(2,23),(3,23)],4,80,[.slice none 0 0,.int .i64 0,.slice none 0 0,.slice none 0 0],false⟩:=TyOk.of _ _ _ _ (.agg #[.slice none 0 0,.int .i64 0,.slice none 0 0,.slice none 0 0]) (by kernel_rfl) rfl (by exact ⟨_,Try.underlying97,rfl⟩) rfl rfl false (fun h=>by cases h)
theorem Z9p:TyOk Try.prog 98 ⟨.struct [(0,28),(1,3),(2,23),(3,23)],4,80,[.slice none 0 0,.int .i64 0,.slice none 0 0,.slice none 0 0],false⟩:=TyOk.of _ _ _ _ (.agg #[.slice none 0 0,.int .i64 0,.slice none 0 0,.slice none 0 0]) (by kernel_rfl) rfl (by exact ⟨_,Try.underlying98,rfl⟩) rfl rfl false (fun h=>by cases h)
theorem Z7n:TyOk Try.prog 101 ⟨.ptr 23,1,8,[.pointer none],false⟩:=TyOk.of _ _ _ _ (.pointer none) (by kernel_rfl) rfl (by exact Try.underlying101) rfl rfl false (fun h=>by cases h)
theorem Z7o:TyOk Try.prog 103 ⟨.slice 3,1,24,[.slice none 0 0],false⟩:=TyOk.of _ _ _ _ (.slice none 0 0) (by kernel_rfl) rfl (by exact Try.underlying103) rfl rfl false (fun h=>by cases h)
theorem Z7p:TyOk Try.prog 108 ⟨.slice 116,1,24,[.slice none 0 0],false⟩:=TyOk.of _ _ _ _ (.slice none 0 0) (by kernel_rfl) rfl (by exact Try.underlying108) rfl rfl false (fun h=>by cases h)
theorem Z7q:TyOk Try.prog 111 ⟨.slice 114,1,24,[.slice none 0 0],false⟩:=TyOk.of _ _ _ _ (.slice none 0 0) (by kernel_rfl) rfl (by exact Try.underlying111) rfl rfl false (fun h=>by cases h)
theorem Z7r:TyOk Try.prog 113 ⟨.struct [(0,3),(1,3),(2,25),(5,30),(16,4)],17,280,[.int .i64 0,.int .i64 0,.int .i64 0,.slice none 0 0,.slice none 0 0,.int .i64 0,.int .i64 0,.slice none 0 0,.slice none 0 0,.int .i64 0,.slice none 0 0,.slice none 0 0,.slice none 0 0,.slice none 0 0,.int .i64 0,.slice none 0 0,.bool false],false⟩:=TyOk.of _ _ _ _ (.agg #[.int .i64 0,.int .i64 0,.int .i64 0,.slice none 0 0,.slice none 0 0,.int .i64 0,.int .i64 0,.slice none 0 0,.slice none 0 0,.int .i64 0,.slice none 0 0,.slice none 0 0,.slice none 0 0,.slice none 0 0,.int .i64 0,.slice none 0 0,.bool false]) (by kernel_rfl) rfl (by exact ⟨_,Try.underlying113,rfl⟩) rfl rfl false (fun h=>by cases h)
theorem Z7s:TyOk Try.prog 114 ⟨.struct [(0,3),(1,3),(2,25),(5,30),(16,4)],17,280,[.int .i64 0,.int .i64 0,.int .i64 0,.slice none 0 0,.slice none 0 0,.int .i64 0,.int .i64 0,.slice none 0 0,.slice none 0 0,.int .i64 0,.slice none 0 0,.slice none 0 0,.slice none 0 0,.slice none 0 0,.int .i64 0,.slice none 0 0,.bool false],false⟩:=TyOk.of _ _ _ _ (.agg #[.int .i64 0,.int .i64 0,.int .i64 0,.slice none 0 0,.slice none 0 0,.int .i64 0,.int .i64 0,.slice none 0 0,.slice none 0 0,.int .i64 0,.slice none 0 0,.slice none 0 0,.slice none 0 0,.slice none 0 0,.int .i64 0,.slice none 0 0,.bool false]) (by kernel_rfl) rfl (by exact ⟨_,Try.underlying114,rfl⟩) rfl rfl false (fun h=>by cases h)
theorem Z7t:TyOk Try.prog 115 ⟨.struct [(0,3),(1,114),(18,114)],35,568,[.int .i64 0,.int .i64 0,.int .i64 0,.int .i64 0,.slice none 0 0,.slice none 0 0,.int .i64 0,.int .i64 0,.slice none 0 0,.slice none 0 0,.int .i64 0,.slice none 0 0,.slice none 0 0,.slice none 0 0,.slice none 0 0,.int .i64 0,.slice none 0 0,.bool false,.int .i64 0,.int .i64 0,.int .i64 0,.slice none 0 0,.slice none 0 0,.int .i64 0,.int .i64 0,.slice none 0 0,.slice none 0 0,.int .i64 0,.slice none 0 0,.slice none 0 0,.slice none 0 0,.slice none 0 0,.int .i64 0,.slice none 0 0,.bool false],false⟩:=TyOk.of _ _ _ _ (.agg #[.int .i64 0,.int .i64 0,.int .i64 0,.int .i64 0,.slice none 0 0,.slice none 0 0,.int .i64 0,.int .i64 0,.slice none 0 0,.slice none 0 0,.int .i64 0,.slice none 0 0,.slice none 0 0,.slice none 0 0,.slice none 0 0,.int .i64 0,.slice none 0 0,.bool false,.int .i64 0,.int .i64 0,.int .i64 0,.slice none 0 0,.slice none 0 0,.int .i64 0,.int .i64 0,.slice none 0 0,.slice none 0 0,.int .i64 0,.slice none 0 0,.slice none 0 0,.slice none 0 0,.slice none 0 0,.int .i64 0,.slice none 0 0,.bool false]) (by kernel_rfl) rfl (by exact ⟨_,Try.underlying115,rfl⟩) rfl rfl false (fun h=>by cases h)
theorem Z7u:TyOk Try.prog 116 ⟨.struct [(0,3),(1,114),(18,114)],35,568,[.int .i64 0,.int .i64 0,.int .i64 0,.int .i64 0,.slice none 0 0,.slice none 0 0,.int .i64 0,.int .i64 0,.slice none 0 0,.slice none 0 0,.int .i64 0,.slice none 0 0,.slice none 0 0,.slice none 0 0,.slice none 0 0,.int .i64 0,.slice none 0 0,.bool false,.int .i64 0,.int .i64 0,.int .i64 0,.slice none 0 0,.slice none 0 0,.int .i64 0,.int .i64 0,.slice none 0 0,.slice none 0 0,.int .i64 0,.slice none 0 0,.slice none 0 0,.slice none 0 0,.slice none 0 0,.int .i64 0,.slice none 0 0,.bool false],false⟩:=TyOk.of _ _ _ _ (.agg #[.int .i64 0,.int .i64 0,.int .i64 0,.int .i64 0,.slice none 0 0,.slice none 0 0,.int .i64 0,.int .i64 0,.slice none 0 0,.slice none 0 0,.int .i64 0,.slice none 0 0,.slice none 0 0,.slice none 0 0,.slice none 0 0,.int .i64 0,.slice none 0 0,.bool false,.int .i64 0,.int .i64 0,.int .i64 0,.slice none 0 0,.slice none 0 0,.int .i64 0,.int .i64 0,.slice none 0 0,.slice none 0 0,.int .i64 0,.slice none 0 0,.slice none 0 0,.slice none 0 0,.slice none 0 0,.int .i64 0,.slice none 0 0,.bool false]) (by kernel_rfl) rfl (by exact ⟨_,Try.underlying116,rfl⟩) rfl rfl false (fun h=>by cases h)
theorem Z7v:TyOk Try.prog 127 ⟨.ptr 25,1,8,[.pointer none],false⟩:=TyOk.of _ _ _ _ (.pointer none) (by kernel_rfl) rfl (by exact Try.underlying127) rfl rfl false (fun h=>by cases h)
theorem Z7w:TyOk Try.prog 130 ⟨.struct [(0,23),(1,23)],2,48,[.slice none 0 0,.slice none 0 0],false⟩:=TyOk.of _ _ _ _ (.agg #[.slice none 0 0,.slice none 0 0]) (by kernel_rfl) rfl (by exact ⟨_,Try.underlying130,rfl⟩) rfl rfl false (fun h=>by cases h)
theorem Z7x:TyOk Try.prog 131 ⟨.struct [(0,23),(1,23)],2,48,[.slice none 0 0,.slice none 0 0],false⟩:=TyOk.of _ _ _ _ (.agg #[.slice none 0 0,.slice none 0 0]) (by kernel_rfl) rfl (by exact ⟨_,Try.underlying131,rfl⟩) rfl rfl false (fun h=>by cases h)
theorem Z7y:TyOk Try.prog 135 ⟨.ptr 98,1,8,[.pointer none],false⟩:=TyOk.of _ _ _ _ (.pointer none) (by kernel_rfl) rfl (by exact Try.underlying135) rfl rfl false (fun h=>by cases h)
theorem Z7z:TyOk Try.prog 138 ⟨.ptr 131,1,8,[.pointer none],false⟩:=TyOk.of _ _ _ _ (.pointer none) (by kernel_rfl) rfl (by exact Try.underlying138) rfl rfl false (fun h=>by cases h)
theorem Z70:TyOk Try.prog 139 ⟨.struct [(0,28),(1,3)],2,32,[.slice none 0 0,.int .i64 0],false⟩:=TyOk.of _ _ _ _ (.agg #[.slice none 0 0,.int .i64 0]) (by kernel_rfl) rfl (by exact ⟨_,Try.underlying139,rfl⟩) rfl rfl false (fun h=>by cases h)
theorem Z71:TyOk Try.prog 140 ⟨.struct [(0,28),(1,3)],2,32,[.slice none 0 0,.int .i64 0],false⟩:=TyOk.of _ _ _ _ (.agg #[.slice none 0 0,.int .i64 0]) (by kernel_rfl) rfl (by exact ⟨_,Try.underlying140,rfl⟩) rfl rfl false (fun h=>by cases h)
theorem Z72:TyOk Try.prog 145 ⟨.ptr 140,1,8,[.pointer none],false⟩:=TyOk.of _ _ _ _ (.pointer none) (by kernel_rfl) rfl (by exact Try.underlying145) rfl rfl false (fun h=>by cases h)
theorem Z73:TyOk Try.prog 148 ⟨.arr 6 3,6,48,[.int .i64 0,.int .i64 0,.int .i64 0,.int .i64 0,.int .i64 0,.int .i64 0],false⟩:=TyOk.of _ _ _ _ (.agg #[.int .i64 0,.int .i64 0,.int .i64 0,.int .i64 0,.int .i64 0,.int .i64 0]) (by kernel_rfl) rfl (by exact Try.underlying148) rfl rfl false (fun h=>by cases h)
theorem Z74:TyOk Try.prog 150 ⟨.struct [(0,17),(1,17),(2,17),(3,9)],4,40,[.pointer none,.pointer none,.pointer none,.string ByteArray.empty],false⟩:=TyOk.of _ _ _ _ (.agg #[.pointer none,.pointer none,.pointer none,.string ByteArray.empty]) (by kernel_rfl) rfl (by exact ⟨_,Try.underlying150,rfl⟩) rfl rfl false (fun h=>by cases h)
theorem Z75:TyOk Try.prog 151 ⟨.struct [(0,17),(1,17),(2,17),(3,9)],4,40,[.pointer none,.pointer none,.pointer none,.string ByteArray.empty],false⟩:=TyOk.of _ _ _ _ (.agg #[.pointer none,.pointer none,.pointer none,.string ByteArray.empty]) (by kernel_rfl) rfl (by exact ⟨_,Try.underlying151,rfl⟩) rfl rfl false (fun h=>by cases h)
theorem Z76:TyOk Try.prog 156 ⟨.int .u32,1,4,[.int .u32 0],false⟩:=TyOk.of _ _ _ _ (.int .u32 0) (by kernel_rfl) rfl (by exact Try.underlying156) rfl rfl false (fun h=>by cases h)
theorem Z77:TyOk Try.prog 157 ⟨.int .u8,1,1,[.int .u8 0],false⟩:=TyOk.of _ _ _ _ (.int .u8 0) (by kernel_rfl) rfl (by exact Try.underlying157) rfl rfl false (fun h=>by cases h)
theorem Z78:TyOk Try.prog 158 ⟨.int .u8,1,1,[.int .u8 0],false⟩:=TyOk.of _ _ _ _ (.int .u8 0) (by kernel_rfl) rfl (by exact Try.underlying158) rfl rfl false (fun h=>by cases h)
theorem Z79:TyOk Try.prog 160 ⟨.ptr 5,1,8,[.pointer none],false⟩:=TyOk.of _ _ _ _ (.pointer none) (by kernel_rfl) rfl (by exact Try.underlying160) rfl rfl false (fun h=>by cases h)
theorem Z8a:TyOk Try.prog 161 ⟨.int .i32,1,4,[.int .i32 0],false⟩:=TyOk.of _ _ _ _ (.int .i32 0) (by kernel_rfl) rfl (by exact Try.underlying161) rfl rfl false (fun h=>by cases h)
theorem Z8b:TyOk Try.prog 162 ⟨.int .i32,1,4,[.int .i32 0],false⟩:=TyOk.of _ _ _ _ (.int .i32 0) (by kernel_rfl) rfl (by exact Try.underlying162) rfl rfl false (fun h=>by cases h)
def tabL:List (Nat×TyI):=[(2,⟨.int .i64,1,8,[.int .i64 0],false⟩),
 (3,⟨.int .i64,1,8,[.int .i64 0],false⟩),
 (4,⟨.bool,1,1,[.bool false],false⟩),
 (5,⟨.int .u8,1,1,[.int .u8 0],false⟩),
 (6,⟨.int .u8,1,1,[.int .u8 0],false⟩),
 (7,⟨.struct [(0,2),(1,3),(2,4),(3,6)],4,24,[.int .i64 0,.int .i64 0,.bool false,.int .u8 0],false⟩),
 (8,⟨.struct [(0,2),(1,3),(2,4),(3,6)],4,24,[.int .i64 0,.int .i64 0,.bool false,.int .u8 0],false⟩),
 (9,⟨.str,1,16,[.string ByteArray.empty],false⟩),
 (10,⟨.str,1,16,[.string ByteArray.empty],false⟩),
 (11,⟨.str,1,16,[.string ByteArray.empty],false⟩),
 (12,⟨.int .u64,1,8,[.int .u64 0],false⟩),
 (13,⟨.struct [(0,9),(1,12)],2,24,[.string ByteArray.empty,.int .u64 0],false⟩),
 (14,⟨.struct [(0,9),(1,12)],2,24,[.string ByteArray.empty,.int .u64 0],false⟩),
 (15,⟨.ptr 151,1,8,[.pointer none],false⟩),
 (16,⟨.ptr 154,1,8,[.pointer none],false⟩),
 (17,⟨.ptr 164,1,8,[.pointer none],false⟩),
 (18,⟨.struct [(0,17)],1,8,[.pointer none],false⟩),
 (19,⟨.struct [(0,17)],1,8,[.pointer none],false⟩),
 (21,⟨.int .i32,1,4,[.int .i32 0],false⟩),
 (22,⟨.slice 40,1,24,[.slice none 0 0],false⟩),
 (23,⟨.slice 25,1,24,[.slice none 0 0],false⟩),
 (24,⟨.struct [(0,3),(1,22),(2,23)],3,56,[.int .i64 0,.slice none 0 0,.slice none 0 0],false⟩),
 (25,⟨.struct [(0,3),(1,22),(2,23)],3,56,[.int .i64 0,.slice none 0 0,.slice none 0 0],false⟩),
 (26,⟨.slice 42,1,24,[.slice none 0 0],false⟩),
 (27,⟨.slice 55,1,24,[.slice none 0 0],false⟩),
 (28,⟨.slice 53,1,24,[.slice none 0 0],false⟩),
 (29,⟨.struct [(0,3),(1,25),(4,25),(7,26),(8,27),(9,3),(10,28)],11,200,[.int .i64 0,.int .i64 0,.slice none 0 0,.slice none 0 0,.int .i64 0,.slice none 0 0,.slice none 0 0,.slice none 0 0,.slice none 0 0,.int .i64 0,.slice none 0 0],false⟩),
 (30,⟨.struct [(0,3),(1,25),(4,25),(7,26),(8,27),(9,3),(10,28)],11,200,[.int .i64 0,.int .i64 0,.slice none 0 0,.slice none 0 0,.int .i64 0,.slice none 0 0,.slice none 0 0,.slice none 0 0,.slice none 0 0,.int .i64 0,.slice none 0 0],false⟩),
 (40,⟨.int .u64,1,8,[.int .u64 0],false⟩),
 (41,⟨.struct [(0,3),(1,5),(2,40),(3,40)],4,32,[.int .i64 0,.int .u8 0,.int .u64 0,.int .u64 0],false⟩),
 (42,⟨.struct [(0,3),(1,5),(2,40),(3,40)],4,32,[.int .i64 0,.int .u8 0,.int .u64 0,.int .u64 0],true⟩),
 (52,⟨.struct [(0,3),(1,3),(2,23),(3,30)],14,240,[.int .i64 0,.int .i64 0,.slice none 0 0,.int .i64 0,.int .i64 0,.slice none 0 0,.slice none 0 0,.int .i64 0,.slice none 0 0,.slice none 0 0,.slice none 0 0,.slice none 0 0,.int .i64 0,.slice none 0 0],false⟩),
 (53,⟨.struct [(0,3),(1,3),(2,23),(3,30)],14,240,[.int .i64 0,.int .i64 0,.slice none 0 0,.int .i64 0,.int .i64 0,.slice none 0 0,.slice none 0 0,.int .i64 0,.slice none 0 0,.slice none 0 0,.slice none 0 0,.slice none 0 0,.int .i64 0,.slice none 0 0],false⟩),
 (54,⟨.struct [(0,3),(1,30)],12,208,[.int .i64 0,.int .i64 0,.int .i64 0,.slice none 0 0,.slice none 0 0,.int .i64 0,.slice none 0 0,.slice none 0 0,.slice none 0 0,.slice none 0 0,.int .i64 0,.slice none 0 0],false⟩),
 (55,⟨.struct [(0,3),(1,30)],12,208,[.int .i64 0,.int .i64 0,.int .i64 0,.slice none 0 0,.slice none 0 0,.int .i64 0,.slice none 0 0,.slice none 0 0,.slice none 0 0,.slice none 0 0,.int .i64 0,.slice none 0 0],false⟩),
 (65,⟨.arr 8 5,8,8,[.int .u8 0,.int .u8 0,.int .u8 0,.int .u8 0,.int .u8 0,.int .u8 0,.int .u8 0,.int .u8 0],false⟩),
 (69,⟨.slice 5,1,24,[.slice none 0 0],false⟩),
 (90,⟨.slice 94,1,24,[.slice none 0 0],false⟩),
 (93,⟨.struct [(0,3),(1,53),(15,53)],29,488,[.int .i64 0,.int .i64 0,.int .i64 0,.slice none 0 0,.int .i64 0,.int .i64 0,.slice none 0 0,.slice none 0 0,.int .i64 0,.slice none 0 0,.slice none 0 0,.slice none 0 0,.slice none 0 0,.int .i64 0,.slice none 0 0,.int .i64 0,.int .i64 0,.slice none 0 0,.int .i64 0,.int .i64 0,.slice none 0 0,.slice none 0 0,.int .i64 0,.slice none 0 0,.slice none 0 0,.slice none 0 0,.slice none 0 0,.int .i64 0,.slice none 0 0],false⟩),
 (94,⟨.struct [(0,3),(1,53),(15,53)],29,488,[.int .i64 0,.int .i64 0,.int .i64 0,.slice none 0 0,.int .i64 0,.int .i64 0,.slice none 0 0,.slice none 0 0,.int .i64 0,.slice none 0 0,.slice none 0 0,.slice none 0 0,.slice none 0 0,.int .i64 0,.slice none 0 0,.int .i64 0,.int .i64 0,.slice none 0 0,.int .i64 0,.int .i64 0,.slice none 0 0,.slice none 0 0,.int .i64 0,.slice none 0 0,.slice none 0 0,.slice none 0 0,.slice none 0 0,.int .i64 0,.slice none 0 0],false⟩),
 (97,⟨.struct [(0,28),(1,3),(2,23),(3,23)],4,80,[.slice none 0 0,.int .i64 0,.slice none 0 0,.slice none 0 0],false⟩),
 (98,⟨.struct [(0,28),(1,3),(2,23),(3,23)],4,80,[.slice none 0 0,.int .i64 0,.slice none 0 0,.slice none 0 0],false⟩),
 (101,⟨.ptr 23,1,8,[.pointer none],false⟩),
 (103,⟨.slice 3,1,24,[.slice none 0 0],false⟩),
 (108,⟨.slice 116,1,24,[.slice none 0 0],false⟩),
 (111,⟨.slice 114,1,24,[.slice none 0 0],false⟩),
 (113,⟨.struct [(0,3),(1,3),(2,25),(5,30),(16,4)],17,280,[.int .i64 0,.int .i64 0,.int .i64 0,.slice none 0 0,.slice none 0 0,.int .i64 0,.int .i64 0,.slice none 0 0,.slice none 0 0,.int .i64 0,.slice none 0 0,.slice none 0 0,.slice none 0 0,.slice none 0 0,.int .i64 0,.slice none 0 0,.bool false],false⟩),
 (114,⟨.struct [(0,3),(1,3),(2,25),(5,30),(16,4)],17,280,[.int .i64 0,.int .i64 0,.int .i64 0,.slice none 0 0,.slice none 0 0,.int .i64 0,.int .i64 0,.slice none 0 0,.slice none 0 0,.int .i64 0,.slice none 0 0,.slice none 0 0,.slice none 0 0,.slice none 0 0,.int .i64 0,.slice none 0 0,.bool false],false⟩),
 (115,⟨.struct [(0,3),(1,114),(18,114)],35,568,[.int .i64 0,.int .i64 0,.int .i64 0,.int .i64 0,.slice none 0 0,.slice none 0 0,.int .i64 0,.int .i64 0,.slice none 0 0,.slice none 0 0,.int .i64 0,.slice none 0 0,.slice none 0 0,.slice none 0 0,.slice none 0 0,.int .i64 0,.slice none 0 0,.bool false,.int .i64 0,.int .i64 0,.int .i64 0,.slice none 0 0,.slice none 0 0,.int .i64 0,.int .i64 0,.slice none 0 0,.slice none 0 0,.int .i64 0,.slice none 0 0,.slice none 0 0,.slice none 0 0,.slice none 0 0,.int .i64 0,.slice none 0 0,.bool false],false⟩),
 (116,⟨.struct [(0,3),(1,114),(18,114)],35,568,[.int .i64 0,.int .i64 0,.int .i64 0,.int .i64 0,.slice none 0 0,.slice none 0 0,.int .i64 0,.int .i64 0,.slice none 0 0,.slice none 0 0,.int .i64 0,.slice none 0 0,.slice none 0 0,.slice none 0 0,.slice none 0 0,.int .i64 0,.slice none 0 0,.bool false,.int .i64 0,.int .i64 0,.int .i64 0,.slice none 0 0,.slice none 0 0,.int .i64 0,.int .i64 0,.slice none 0 0,.slice none 0 0,.int .i64 0,.slice none 0 0,.slice none 0 0,.slice none 0 0,.slice none 0 0,.int .i64 0,.slice none 0 0,.bool false],false⟩),
 (127,⟨.ptr 25,1,8,[.pointer none],false⟩),
 (130,⟨.struct [(0,23),(1,23)],2,48,[.slice none 0 0,.slice none 0 0],false⟩),
 (131,⟨.struct [(0,23),(1,23)],2,48,[.slice none 0 0,.slice none 0 0],false⟩),
 (135,⟨.ptr 98,1,8,[.pointer none],false⟩),
 (138,⟨.ptr 131,1,8,[.pointer none],false⟩),
 (139,⟨.struct [(0,28),(1,3)],2,32,[.slice none 0 0,.int .i64 0],false⟩),
 (140,⟨.struct [(0,28),(1,3)],2,32,[.slice none 0 0,.int .i64 0],false⟩),
 (145,⟨.ptr 140,1,8,[.pointer none],false⟩),
 (148,⟨.arr 6 3,6,48,[.int .i64 0,.int .i64 0,.int .i64 0,.int .i64 0,.int .i64 0,.int .i64 0],false⟩),
 (150,⟨.struct [(0,17),(1,17),(2,17),(3,9)],4,40,[.pointer none,.pointer none,.pointer none,.string ByteArray.empty],false⟩),
 (151,⟨.struct [(0,17),(1,17),(2,17),(3,9)],4,40,[.pointer none,.pointer none,.pointer none,.string ByteArray.empty],false⟩),
 (156,⟨.int .u32,1,4,[.int .u32 0],false⟩),
 (157,⟨.int .u8,1,1,[.int .u8 0],false⟩),
 (158,⟨.int .u8,1,1,[.int .u8 0],false⟩),
 (160,⟨.ptr 5,1,8,[.pointer none],false⟩),
 (161,⟨.int .i32,1,4,[.int .i32 0],false⟩),
 (162,⟨.int .i32,1,4,[.int .i32 0],false⟩)]
def Q1:Kk:=fun t=>tabL.lookup t
theorem Z5:Qq Try.prog Q1:=fun t i h=>by
 have hm:=Zqb _ h
 unfold tabL at hm
 simp only [List.mem_cons,Prod.mk.injEq,List.not_mem_nil,or_false] at hm
 rcases hm with ⟨rfl,rfl⟩ | ⟨rfl,rfl⟩ | ⟨rfl,rfl⟩ | ⟨rfl,rfl⟩ | ⟨rfl,rfl⟩ | ⟨rfl,rfl⟩ | ⟨rfl,rfl⟩ | ⟨rfl,rfl⟩ | ⟨rfl,rfl⟩ | ⟨rfl,rfl⟩ | ⟨rfl,rfl⟩ | ⟨rfl,rfl⟩ | ⟨rfl,rfl⟩ | ⟨rfl,rfl⟩ | ⟨rfl,rfl⟩ | ⟨rfl,rfl⟩ | ⟨rfl,rfl⟩ | ⟨rfl,rfl⟩ | ⟨rfl,rfl⟩ | ⟨rfl,rfl⟩ | ⟨rfl,rfl⟩ | ⟨rfl,rfl⟩ | ⟨rfl,rfl⟩ | ⟨rfl,rfl⟩ | ⟨rfl,rfl⟩ | ⟨rfl,rfl⟩ | ⟨rfl,rfl⟩ | ⟨rfl,rfl⟩ | ⟨rfl,rfl⟩ | ⟨rfl,rfl⟩ | ⟨rfl,rfl⟩ | ⟨rfl,rfl⟩ | ⟨rfl,rfl⟩ | ⟨rfl,rfl⟩ | ⟨rfl,rfl⟩ | ⟨rfl,rfl⟩ | ⟨rfl,rfl⟩ | ⟨rfl,rfl⟩ | ⟨rfl,rfl⟩ | ⟨rfl,rfl⟩ | ⟨rfl,rfl⟩ | ⟨rfl,rfl⟩ | ⟨rfl,rfl⟩ | ⟨rfl,rfl⟩ | ⟨rfl,rfl⟩ | ⟨rfl,rfl⟩ | ⟨rfl,rfl⟩ | ⟨rfl,rfl⟩ | ⟨rfl,rfl⟩ | ⟨rfl,rfl⟩ | ⟨rfl,rfl⟩ | ⟨rfl,rfl⟩ | ⟨rfl,rfl⟩ | ⟨rfl,rfl⟩ | ⟨rfl,rfl⟩ | ⟨rfl,rfl⟩ | ⟨rfl,rfl⟩ | ⟨rfl,rfl⟩ | ⟨rfl,rfl⟩ | ⟨rfl,rfl⟩ | ⟨rfl,rfl⟩ | ⟨rfl,rfl⟩ | ⟨rfl,rfl⟩ | ⟨rfl,rfl⟩ | ⟨rfl,rfl⟩ | ⟨rfl,rfl⟩ | ⟨rfl,rfl⟩
 ·exact ty2
 ·exact ty3
 ·exact ty4
 ·exact ty5
 ·exact ty6
 ·exact ty7
 ·exact ty8
 ·exact ty9
 ·exact Z8s
 ·exact Z8t
 ·exact Z8u
 ·exact Z8v
 ·exact Z8w
 ·exact Z8x
 ·exact Z8y
 ·exact Z8z
 ·exact Z80
 ·exact Z81
 ·exact Z82
 ·exact Z83
 ·exact Z84
 ·exact Z85
 ·exact Z86
 ·exact Z87
 ·exact Z88
 ·exact Z89
 ·exact Z9a
 ·exact Z9b
 ·exact Z9c
 ·exact Z9d
 ·exact Z9e
 ·exact Z9f
 ·exact Z9g
 ·exact Z9h
 ·exact Z9i
 ·exact Z9j
 ·exact Z9k
 ·exact Z9l
 ·exact Z9m
 ·exact Z9n
 ·exact Z9o
 ·exact Z9p
 ·exact Z7n
 ·exact Z7o
 ·exact Z7p
 ·exact Z7q
 ·exact Z7r
 ·exact Z7s
 ·exact Z7t
 ·exact Z7u
 ·exact Z7v
 ·exact Z7w
 ·exact Z7x
 ·exact Z7y
 ·exact Z7z
 ·exact Z70
 ·exact Z71
 ·exact Z72
 ·exact Z73
 ·exact Z74
 ·exact Z75
 ·exact Z76
 ·exact Z77
 ·exact Z78
 ·exact Z79
 ·exact Z8a
 exact Z8b
theorem Z6q:Q1 2=some ⟨.int .i64,1,8,[.int .i64 0],false⟩:=rfl
theorem Zzi:Q1 3=some ⟨.int .i64,1,8,[.int .i64 0],false⟩:=rfl
theorem Z6r:Q1 4=some ⟨.bool,1,1,[.bool false],false⟩:=rfl
theorem Zht:Q1 5=some ⟨.int .u8,1,1,[.int .u8 0],false⟩:=rfl
theorem Z6s:Q1 6=some ⟨.int .u8,1,1,[.int .u8 0],false⟩:=rfl
theorem Z6t:Q1 7=some ⟨.struct [(0,2),(1,3),(2,4),(3,6)],4,24,[.int .i64 0,.int .i64 0,.bool false,.int .u8 0],false⟩:=rfl
theorem Z6u:Q1 8=some ⟨.struct [(0,2),(1,3),(2,4),(3,6)],4,24,[.int .i64 0,.int .i64 0,.bool false,.int .u8 0],false⟩:=rfl
theorem Z6v:Q1 9=some ⟨.str,1,16,[.string ByteArray.empty],false⟩:=rfl
theorem Z3o:Q1 10=some ⟨.str,1,16,[.string ByteArray.empty],false⟩:=rfl
theorem Z3p:Q1 11=some ⟨.str,1,16,[.string ByteArray.empty],false⟩:=rfl
theorem Z3q:Q1 12=some ⟨.int .u64,1,8,[.int .u64 0],false⟩:=rfl
theorem Z3r:Q1 13=some ⟨.struct [(0,9),(1,12)],2,24,[.string ByteArray.empty,.int .u64 0],false⟩:=rfl
theorem Z3s:Q1 14=some ⟨.struct [(0,9),(1,12)],2,24,[.string ByteArray.empty,.int .u64 0],false⟩:=rfl
theorem Z3t:Q1 15=some ⟨.ptr 151,1,8,[.pointer none],false⟩:=rfl
theorem Z3u:Q1 16=some ⟨.ptr 154,1,8,[.pointer none],false⟩:=rfl
theorem Z3v:Q1 17=some ⟨.ptr 164,1,8,[.pointer none],false⟩:=rfl
theorem Z3w:Q1 18=some ⟨.struct [(0,17)],1,8,[.pointer none],false⟩:=rfl
theorem Z3x:Q1 19=some ⟨.struct [(0,17)],1,8,[.pointer none],false⟩:=rfl
theorem Z3y:Q1 21=some ⟨.int .i32,1,4,[.int .i32 0],false⟩:=rfl
theorem Z3z:Q1 22=some ⟨.slice 40,1,24,[.slice none 0 0],false⟩:=rfl
theorem Z30:Q1 23=some ⟨.slice 25,1,24,[.slice none 0 0],false⟩:=rfl
theorem Z31:Q1 24=some ⟨.struct [(0,3),(1,22),(2,23)],3,56,[.int .i64 0,.slice none 0 0,.slice none 0 0],false⟩:=rfl
theorem Uk:Q1 25=some ⟨.struct [(0,3),(1,22),(2,23)],3,56,[.int .i64 0,.slice none 0 0,.slice none 0 0],false⟩:=rfl
theorem Z32:Q1 26=some ⟨.slice 42,1,24,[.slice none 0 0],false⟩:=rfl
theorem Z33:Q1 27=some ⟨.slice 55,1,24,[.slice none 0 0],false⟩:=rfl
theorem Z34:Q1 28=some ⟨.slice 53,1,24,[.slice none 0 0],false⟩:=rfl
theorem Z35:Q1 29=some ⟨.struct [(0,3),(1,25),(4,25),(7,26),(8,27),(9,3),(10,28)],11,200,[.int .i64 0,.int .i64 0,.slice none 0 0,.slice none 0 0,.int .i64 0,.slice none 0 0,.slice none 0 0,.slice none 0 0,.slice none 0 0,.int .i64 0,.slice none 0 0],false⟩:=rfl
theorem Z36:Q1 30=some ⟨.struct [(0,3),(1,25),(4,25),(7,26),(8,27),(9,3),(10,28)],11,200,[.int .i64 0,.int .i64 0,.slice none 0 0,.slice none 0 0,.int .i64 0,.slice none 0 0,.slice none 0 0,.slice none 0 0,.slice none 0 0,.int .i64 0,.slice none 0 0],false⟩:=rfl
theorem Zjp:Q1 40=some ⟨.int .u64,1,8,[.int .u64 0],false⟩:=rfl
theorem Z37:Q1 41=some ⟨.struct [(0,3),(1,5),(2,40),(3,40)],4,32,[.int .i64 0,.int .u8 0,.int .u64 0,.int .u64 0],false⟩:=rfl
theorem Zdw:Q1 42=some ⟨.struct [(0,3),(1,5),(2,40),(3,40)],4,32,[.int .i64 0,.int .u8 0,.int .u64 0,.int .u64 0],true⟩:=rfl
theorem Z38:Q1 52=some ⟨.struct [(0,3),(1,3),(2,23),(3,30)],14,240,[.int .i64 0,.int .i64 0,.slice none 0 0,.int .i64 0,.int .i64 0,.slice none 0 0,.slice none 0 0,.int .i64 0,.slice none 0 0,.slice none 0 0,.slice none 0 0,.slice none 0 0,.int .i64 0,.slice none 0 0],false⟩:=rfl
theorem Ze2:Q1 53=some ⟨.struct [(0,3),(1,3),(2,23),(3,30)],14,240,[.int .i64 0,.int .i64 0,.slice none 0 0,.int .i64 0,.int .i64 0,.slice none 0 0,.slice none 0 0,.int .i64 0,.slice none 0 0,.slice none 0 0,.slice none 0 0,.slice none 0 0,.int .i64 0,.slice none 0 0],false⟩:=rfl
theorem Z39:Q1 54=some ⟨.struct [(0,3),(1,30)],12,208,[.int .i64 0,.int .i64 0,.int .i64 0,.slice none 0 0,.slice none 0 0,.int .i64 0,.slice none 0 0,.slice none 0 0,.slice none 0 0,.slice none 0 0,.int .i64 0,.slice none 0 0],false⟩:=rfl
theorem Zdp:Q1 55=some ⟨.struct [(0,3),(1,30)],12,208,[.int .i64 0,.int .i64 0,.int .i64 0,.slice none 0 0,.slice none 0 0,.int .i64 0,.slice none 0 0,.slice none 0 0,.slice none 0 0,.slice none 0 0,.int .i64 0,.slice none 0 0],false⟩:=rfl
theorem Zxj:Q1 65=some ⟨.arr 8 5,8,8,[.int .u8 0,.int .u8 0,.int .u8 0,.int .u8 0,.int .u8 0,.int .u8 0,.int .u8 0,.int .u8 0],false⟩:=rfl
theorem Z4a:Q1 69=some ⟨.slice 5,1,24,[.slice none 0 0],false⟩:=rfl
theorem Z4b:Q1 90=some ⟨.slice 94,1,24,[.slice none 0 0],false⟩:=rfl
theorem Z4c:Q1 93=some ⟨.struct [(0,3),(1,53),(15,53)],29,488,[.int .i64 0,.int .i64 0,.int .i64 0,.slice none 0 0,.int .i64 0,.int .i64 0,.slice none 0 0,.slice none 0 0,.int .i64 0,.slice none 0 0,.slice none 0 0,.slice none 0 0,.slice none 0 0,.int .i64 0,.slice none 0 0,.int .i64 0,.int .i64 0,.slice none 0 0,.int .i64 0,.int .i64 0,.slice none 0 0,.slice none 0 0,.int .i64 0,.slice none 0 0,.slice none 0 0,.slice none 0 0,.slice none 0 0,.int .i64 0,.slice none 0 0],false⟩:=rfl
theorem Z0y:Q1 94=some ⟨.struct [(0,3),(1,53),(15,53)],29,488,[.int .i64 0,.int .i64 0,.int .i64 0,.slice none 0 0,.int .i64 0,.int .i64 0,.slice none 0 0,.slice none 0 0,.int .i64 0,.slice none 0 0,.slice none 0 0,.slice none 0 0,.slice none 0 0,.int .i64 0,.slice none 0 0,.int .i64 0,.int .i64 0,.slice none 0 0,.int .i64 0,.int .i64 0,.slice none 0 0,.slice none 0 0,.int .i64 0,.slice none 0 0,.slice none 0 0,.slice none 0 0,.slice none 0 0,.int .i64 0,.slice none 0 0],false⟩:=rfl
theorem Z4d:Q1 97=some ⟨.struct [(0,28),(1,3),(2,23),(3,23)],4,80,[.slice none 0 0,.int .i64 0,.slice none 0 0,.slice none 0 0],false⟩:=rfl
theorem Z4e:Q1 98=some ⟨.struct [(0,28),(1,3),(2,23),(3,23)],4,80,[.slice none 0 0,.int .i64 0,.slice none 0 0,.slice none 0 0],false⟩:=rfl
theorem Zyt:Q1 101=some ⟨.ptr 23,1,8,[.pointer none],false⟩:=rfl
theorem Zyu:Q1 103=some ⟨.slice 3,1,24,[.slice none 0 0],false⟩:=rfl
theorem Zyv:Q1 108=some ⟨.slice 116,1,24,[.slice none 0 0],false⟩:=rfl
theorem Zyw:Q1 111=some ⟨.slice 114,1,24,[.slice none 0 0],false⟩:=rfl
theorem Zyx:Q1 113=some ⟨.struct [(0,3),(1,3),(2,25),(5,30),(16,4)],17,280,[.int .i64 0,.int .i64 0,.int .i64 0,.slice none 0 0,.slice none 0 0,.int .i64 0,.int .i64 0,.slice none 0 0,.slice none 0 0,.int .i64 0,.slice none 0 0,.slice none 0 0,.slice none 0 0,.slice none 0 0,.int .i64 0,.slice none 0 0,.bool false],false⟩:=rfl
theorem Zyy:Q1 114=some ⟨.struct [(0,3),(1,3),(2,25),(5,30),(16,4)],17,280,[.int .i64 0,.int .i64 0,.int .i64 0,.slice none 0 0,.slice none 0 0,.int .i64 0,.int .i64 0,.slice none 0 0,.slice none 0 0,.int .i64 0,.slice none 0 0,.slice none 0 0,.slice none 0 0,.slice none 0 0,.int .i64 0,.slice none 0 0,.bool false],false⟩:=rfl
theorem Zyz:Q1 115=some ⟨.struct [(0,3),(1,114),(18,114)],35,568,[.int .i64 0,.int .i64 0,.int .i64 0,.int .i64 0,.slice none 0 0,.slice none 0 0,.int .i64 0,.int .i64 0,.slice none 0 0,.slice none 0 0,.int .i64 0,.slice none 0 0,.slice none 0 0,.slice none 0 0,.slice none 0 0,.int .i64 0,.slice none 0 0,.bool false,.int .i64 0,.int .i64 0,.int .i64 0,.slice none 0 0,.slice none 0 0,.int .i64 0,.int .i64 0,.slice none 0 0,.slice none 0 0,.int .i64 0,.slice none 0 0,.slice none 0 0,.slice none 0 0,.slice none 0 0,.int .i64 0,.slice none 0 0,.bool false],false⟩:=rfl
theorem Zy0:Q1 116=some ⟨.struct [(0,3),(1,114),(18,114)],35,568,[.int .i64 0,.int .i64 0,.int .i64 0,.int .i64 0,.slice none 0 0,.slice none 0 0,.int .i64 0,.int .i64 0,.slice none 0 0,.slice none 0 0,.int .i64 0,.slice none 0 0,.slice none 0 0,.slice none 0 0,.slice none 0 0,.int .i64 0,.slice none 0 0,.bool false,.int .i64 0,.int .i64 0,.int .i64 0,.slice none 0 0,.slice none 0 0,.int .i64 0,.int .i64 0,.slice none 0 0,.slice none 0 0,.int .i64 0,.slice none 0 0,.slice none 0 0,.slice none 0 0,.slice none 0 0,.int .i64 0,.slice none 0 0,.bool false],false⟩:=rfl
theorem Zy1:Q1 127=some ⟨.ptr 25,1,8,[.pointer none],false⟩:=rfl
theorem Zy2:Q1 130=some ⟨.struct [(0,23),(1,23)],2,48,[.slice none 0 0,.slice none 0 0],false⟩:=rfl
theorem Zy3:Q1 131=some ⟨.struct [(0,23),(1,23)],2,48,[.slice none 0 0,.slice none 0 0],false⟩:=rfl
theorem Zy4:Q1 135=some ⟨.ptr 98,1,8,[.pointer none],false⟩:=rfl
theorem Zy5:Q1 138=some ⟨.ptr 131,1,8,[.pointer none],false⟩:=rfl
theorem Zy6:Q1 139=some ⟨.struct [(0,28),(1,3)],2,32,[.slice none 0 0,.int .i64 0],false⟩:=rfl
theorem Zy7:Q1 140=some ⟨.struct [(0,28),(1,3)],2,32,[.slice none 0 0,.int .i64 0],false⟩:=rfl
theorem Zy8:Q1 145=some ⟨.ptr 140,1,8,[.pointer none],false⟩:=rfl
theorem Zy9:Q1 148=some ⟨.arr 6 3,6,48,[.int .i64 0,.int .i64 0,.int .i64 0,.int .i64 0,.int .i64 0,.int .i64 0],false⟩:=rfl
theorem Zza:Q1 150=some ⟨.struct [(0,17),(1,17),(2,17),(3,9)],4,40,[.pointer none,.pointer none,.pointer none,.string ByteArray.empty],false⟩:=rfl
theorem Zzb:Q1 151=some ⟨.struct [(0,17),(1,17),(2,17),(3,9)],4,40,[.pointer none,.pointer none,.pointer none,.string ByteArray.empty],false⟩:=rfl
theorem Zzc:Q1 156=some ⟨.int .u32,1,4,[.int .u32 0],false⟩:=rfl
theorem Zzd:Q1 157=some ⟨.int .u8,1,1,[.int .u8 0],false⟩:=rfl
theorem Zze:Q1 158=some ⟨.int .u8,1,1,[.int .u8 0],false⟩:=rfl
theorem Zzf:Q1 160=some ⟨.ptr 5,1,8,[.pointer none],false⟩:=rfl
theorem Zzg:Q1 161=some ⟨.int .i32,1,4,[.int .i32 0],false⟩:=rfl
theorem Zzh:Q1 162=some ⟨.int .i32,1,4,[.int .i32 0],false⟩:=rfl
theorem Zzk:Yp Q1 2=some (.int .i64):=rfl
theorem Zzl:Yp Q1 3=some (.int .i64):=rfl
theorem Zzm:Yp Q1 4=some (.bool):=rfl
theorem Zzn:Yp Q1 5=some (.int .u8):=rfl
theorem Zzo:Yp Q1 6=some (.int .u8):=rfl
theorem Zzp:Yp Q1 7=some (.struct [(0,2),(1,3),(2,4),(3,6)]):=rfl
theorem Zzq:Yp Q1 8=some (.struct [(0,2),(1,3),(2,4),(3,6)]):=rfl
theorem Zzr:Yp Q1 9=some (.str):=rfl
theorem Zva:Yp Q1 10=some (.str):=rfl
theorem Zvb:Yp Q1 11=some (.str):=rfl
theorem Zvc:Yp Q1 12=some (.int .u64):=rfl
theorem Zvd:Yp Q1 13=some (.struct [(0,9),(1,12)]):=rfl
theorem Zve:Yp Q1 14=some (.struct [(0,9),(1,12)]):=rfl
theorem Zvf:Yp Q1 15=some (.ptr 151):=rfl
theorem Zvg:Yp Q1 16=some (.ptr 154):=rfl
theorem Zvh:Yp Q1 17=some (.ptr 164):=rfl
theorem Zvi:Yp Q1 18=some (.struct [(0,17)]):=rfl
theorem Zvj:Yp Q1 19=some (.struct [(0,17)]):=rfl
theorem Zvk:Yp Q1 21=some (.int .i32):=rfl
theorem Zo2:Yp Q1 22=some (.slice 40):=rfl
theorem Zdq:Yp Q1 23=some (.slice 25):=rfl
theorem Zvl:Yp Q1 24=some (.struct [(0,3),(1,22),(2,23)]):=rfl
theorem Zvm:Yp Q1 25=some (.struct [(0,3),(1,22),(2,23)]):=rfl
theorem Zie:Yp Q1 26=some (.slice 42):=rfl
theorem Zif:Yp Q1 27=some (.slice 55):=rfl
theorem Zo3:Yp Q1 28=some (.slice 53):=rfl
theorem Zvn:Yp Q1 29=some (.struct [(0,3),(1,25),(4,25),(7,26),(8,27),(9,3),(10,28)]):=rfl
theorem Zvo:Yp Q1 30=some (.struct [(0,3),(1,25),(4,25),(7,26),(8,27),(9,3),(10,28)]):=rfl
theorem Zvp:Yp Q1 40=some (.int .u64):=rfl
theorem Zvq:Yp Q1 41=some (.struct [(0,3),(1,5),(2,40),(3,40)]):=rfl
theorem Zvr:Yp Q1 42=some (.struct [(0,3),(1,5),(2,40),(3,40)]):=rfl
theorem Zvs:Yp Q1 52=some (.struct [(0,3),(1,3),(2,23),(3,30)]):=rfl
theorem Zvt:Yp Q1 53=some (.struct [(0,3),(1,3),(2,23),(3,30)]):=rfl
theorem Zvu:Yp Q1 54=some (.struct [(0,3),(1,30)]):=rfl
theorem Zvv:Yp Q1 55=some (.struct [(0,3),(1,30)]):=rfl
theorem Zj4:Yp Q1 65=some (.arr 8 5):=rfl
theorem Zvw:Yp Q1 69=some (.slice 5):=rfl
theorem Zvx:Yp Q1 90=some (.slice 94):=rfl
theorem Zvy:Yp Q1 93=some (.struct [(0,3),(1,53),(15,53)]):=rfl
theorem Zvz:Yp Q1 94=some (.struct [(0,3),(1,53),(15,53)]):=rfl
theorem Zv0:Yp Q1 97=some (.struct [(0,28),(1,3),(2,23),(3,23)]):=rfl
theorem Zv1:Yp Q1 98=some (.struct [(0,28),(1,3),(2,23),(3,23)]):=rfl
theorem Zrd:Yp Q1 101=some (.ptr 23):=rfl
theorem Zre:Yp Q1 103=some (.slice 3):=rfl
theorem Zrf:Yp Q1 108=some (.slice 116):=rfl
theorem Zrg:Yp Q1 111=some (.slice 114):=rfl
theorem Zrh:Yp Q1 113=some (.struct [(0,3),(1,3),(2,25),(5,30),(16,4)]):=rfl
theorem Zri:Yp Q1 114=some (.struct [(0,3),(1,3),(2,25),(5,30),(16,4)]):=rfl
theorem Zrj:Yp Q1 115=some (.struct [(0,3),(1,114),(18,114)]):=rfl
theorem Zrk:Yp Q1 116=some (.struct [(0,3),(1,114),(18,114)]):=rfl
theorem Zrl:Yp Q1 127=some (.ptr 25):=rfl
theorem Zrm:Yp Q1 130=some (.struct [(0,23),(1,23)]):=rfl
theorem Zrn:Yp Q1 131=some (.struct [(0,23),(1,23)]):=rfl
theorem Zro:Yp Q1 135=some (.ptr 98):=rfl
theorem Zrp:Yp Q1 138=some (.ptr 131):=rfl
theorem Zrq:Yp Q1 139=some (.struct [(0,28),(1,3)]):=rfl
theorem Zrr:Yp Q1 140=some (.struct [(0,28),(1,3)]):=rfl
theorem Zrs:Yp Q1 145=some (.ptr 140):=rfl
theorem Zrt:Yp Q1 148=some (.arr 6 3):=rfl
theorem Zru:Yp Q1 150=some (.struct [(0,17),(1,17),(2,17),(3,9)]):=rfl
theorem Zrv:Yp Q1 151=some (.struct [(0,17),(1,17),(2,17),(3,9)]):=rfl
theorem Zrw:Yp Q1 156=some (.int .u32):=rfl
theorem Zrx:Yp Q1 157=some (.int .u8):=rfl
theorem Zry:Yp Q1 158=some (.int .u8):=rfl
theorem Zrz:Yp Q1 160=some (.ptr 5):=rfl
theorem Zr0:Yp Q1 161=some (.int .i32):=rfl
theorem Zr1:Yp Q1 162=some (.int .i32):=rfl
end Go.Proofs.Ytbjcopkgdjombaa
