/- The types of this seat's program, as its dump has them, in the ghost memory's words; no condition. -/
import Derived.Test.YtmpkfolcikhofaaRows
import Derived.Test.YtmpkfolcikhofaaG16
namespace Go.Proofs.Ytmpkfolcikhofaa
open Go.RowKit
set_option linter.unusedVariables false
set_option linter.unusedSimpArgs false
theorem TyOk.of {P:Program} {t:TypeId} (k:TK) (size bytes:Nat) (zero:List Value) (z:Value) (h:(P.info? t).map (fun i=>(i.zero,i.size,i.bytes))=some (some z,size,bytes)) (hz:z.cells.toList=zero) (hu:k.ok P t) (hl:zero.length=size) (h1:zero.all Value.oneCell'=true) (eq:Bool) (he:eq=true→Zxf P t):TyOk P t ⟨k,size,bytes,zero,eq⟩:=by
 refine ⟨?_,hu,hl,fun v hv=>List.all_eq_true.1 h1 v hv,he⟩
 cases hi:P.info? t with
 | none=>rw [hi] at h;cases h
 | some i =>
  rw [hi] at h
  simp only [Option.map_some,Option.some.injEq,Prod.mk.injEq] at h
  exact ⟨i,z,rfl,h.2.1,h.2.2,h.1,hz⟩
theorem Zqg {α:Type} {t:Nat} {i:α}:∀ (l:List (Nat×α)),l.lookup t=some i→(t,i)∈l
 | [],h=>by simp at h
 | (a,b)::l,h=>by
  rw [List.lookup_cons] at h
  split at h
  ·rename_i he
   injection h with h
   have:t=a:=by simpa using he
   subst h this
   exact .head _
  exact .tail _ (Zqg l h)
theorem ty2:TyOk Try.prog 2 ⟨.int .i64,1,8,[.int .i64 0],false⟩:=TyOk.of (P:=Try.prog) (t:=2) (.int .i64) 1 8 [.int .i64 0] (.int .i64 0) (by kernel_rfl) rfl Try.underlying2 rfl rfl false (fun h=>by cases h)
theorem ty3:TyOk Try.prog 3 ⟨.int .i64,1,8,[.int .i64 0],false⟩:=TyOk.of (P:=Try.prog) (t:=3) (.int .i64) 1 8 [.int .i64 0] (.int .i64 0) (by kernel_rfl) rfl Try.underlying3 rfl rfl false (fun h=>by cases h)
theorem ty4:TyOk Try.prog 4 ⟨.bool,1,1,[.bool false],false⟩:=TyOk.of (P:=Try.prog) (t:=4) (.bool) 1 1 [.bool false] (.bool false) (by kernel_rfl) rfl Try.underlying4 rfl rfl false (fun h=>by cases h)
theorem ty5:TyOk Try.prog 5 ⟨.int .u8,1,1,[.int .u8 0],false⟩:=TyOk.of (P:=Try.prog) (t:=5) (.int .u8) 1 1 [.int .u8 0] (.int .u8 0) (by kernel_rfl) rfl Try.underlying5 rfl rfl false (fun h=>by cases h)
theorem ty6:TyOk Try.prog 6 ⟨.int .u8,1,1,[.int .u8 0],false⟩:=TyOk.of (P:=Try.prog) (t:=6) (.int .u8) 1 1 [.int .u8 0] (.int .u8 0) (by kernel_rfl) rfl Try.underlying6 rfl rfl false (fun h=>by cases h)
theorem ty7:TyOk Try.prog 7 ⟨.struct [(0,2),(1,3),(2,4),(3,6)],4,24,[.int .i64 0,.int .i64 0,.bool false,.int .u8 0],false⟩:=TyOk.of (P:=Try.prog) (t:=7) (.struct [(0,2),(1,3),(2,4),(3,6)]) 4 24 [.int .i64 0,.int .i64 0,.bool false,.int .u8 0] (.agg #[.int .i64 0,.int .i64 0,.bool false,.int .u8 0]) (by kernel_rfl) rfl ⟨_,Try.underlying7,rfl⟩ rfl rfl false (fun h=>by cases h)
theorem ty8:TyOk Try.prog 8 ⟨.struct [(0,2),(1,3),(2,4),(3,6)],4,24,[.int .i64 0,.int .i64 0,.bool false,.int .u8 0],false⟩:=TyOk.of (P:=Try.prog) (t:=8) (.struct [(0,2),(1,3),(2,4),(3,6)]) 4 24 [.int .i64 0,.int .i64 0,.bool false,.int .u8 0] (.agg #[.int .i64 0,.int .i64 0,.bool false,.int .u8 0]) (by kernel_rfl) rfl ⟨_,Try.underlying8,rfl⟩ rfl rfl false (fun h=>by cases h)
theorem ty9:TyOk Try.prog 9 ⟨.str,1,16,[.string ByteArray.empty],false⟩:=TyOk.of (P:=Try.prog) (t:=9) (.str) 1 16 [.string ByteArray.empty] (.string ByteArray.empty) (by kernel_rfl) rfl Try.underlying9 rfl rfl false (fun h=>by cases h)
theorem Z58:TyOk Try.prog 10 ⟨.str,1,16,[.string ByteArray.empty],false⟩:=TyOk.of (P:=Try.prog) (t:=10) (.str) 1 16 [.string ByteArray.empty] (.string ByteArray.empty) (by kernel_rfl) rfl Try.underlying10 rfl rfl false (fun h=>by cases h)
theorem Z59:TyOk Try.prog 11 ⟨.str,1,16,[.string ByteArray.empty],false⟩:=TyOk.of (P:=Try.prog) (t:=11) (.str) 1 16 [.string ByteArray.empty] (.string ByteArray.empty) (by kernel_rfl) rfl Try.underlying11 rfl rfl false (fun h=>by cases h)
theorem Z6a:TyOk Try.prog 12 ⟨.int .u64,1,8,[.int .u64 0],false⟩:=TyOk.of (P:=Try.prog) (t:=12) (.int .u64) 1 8 [.int .u64 0] (.int .u64 0) (by kernel_rfl) rfl Try.underlying12 rfl rfl false (fun h=>by cases h)
theorem Z6b:TyOk Try.prog 13 ⟨.struct [(0,9),(1,12)],2,24,[.string ByteArray.empty,.int .u64 0],false⟩:=TyOk.of (P:=Try.prog) (t:=13) (.struct [(0,9),(1,12)]) 2 24 [.string ByteArray.empty,.int .u64 0] (.agg #[.string ByteArray.empty,.int .u64 0]) (by kernel_rfl) rfl ⟨_,Try.underlying13,rfl⟩ rfl rfl false (fun h=>by cases h)
theorem Z6c:TyOk Try.prog 14 ⟨.struct [(0,9),(1,12)],2,24,[.string ByteArray.empty,.int .u64 0],false⟩:=TyOk.of (P:=Try.prog) (t:=14) (.struct [(0,9),(1,12)]) 2 24 [.string ByteArray.empty,.int .u64 0] (.agg #[.string ByteArray.empty,.int .u64 0]) (by kernel_rfl) rfl ⟨_,Try.underlying14,rfl⟩ rfl rfl false (fun h=>by cases h)
theorem Z6d:TyOk Try.prog 15 ⟨.ptr 171,1,8,[.pointer none],false⟩:=TyOk.of (P:=Try.prog) (t:=15) (.ptr 171) 1 8 [.pointer none] (.pointer none) (by kernel_rfl) rfl Try.underlying15 rfl rfl false (fun h=>by cases h)
theorem Z6e:TyOk Try.prog 16 ⟨.ptr 174,1,8,[.pointer none],false⟩:=TyOk.of (P:=Try.prog) (t:=16) (.ptr 174) 1 8 [.pointer none] (.pointer none) (by kernel_rfl) rfl Try.underlying16 rfl rfl false (fun h=>by cases h)
theorem Z6f:TyOk Try.prog 17 ⟨.ptr 182,1,8,[.pointer none],false⟩:=TyOk.of (P:=Try.prog) (t:=17) (.ptr 182) 1 8 [.pointer none] (.pointer none) (by kernel_rfl) rfl Try.underlying17 rfl rfl false (fun h=>by cases h)
theorem Z6g:TyOk Try.prog 18 ⟨.struct [(0,17)],1,8,[.pointer none],false⟩:=TyOk.of (P:=Try.prog) (t:=18) (.struct [(0,17)]) 1 8 [.pointer none] (.agg #[.pointer none]) (by kernel_rfl) rfl ⟨_,Try.underlying18,rfl⟩ rfl rfl false (fun h=>by cases h)
theorem Z6h:TyOk Try.prog 19 ⟨.struct [(0,17)],1,8,[.pointer none],false⟩:=TyOk.of (P:=Try.prog) (t:=19) (.struct [(0,17)]) 1 8 [.pointer none] (.agg #[.pointer none]) (by kernel_rfl) rfl ⟨_,Try.underlying19,rfl⟩ rfl rfl false (fun h=>by cases h)
theorem Z6i:TyOk Try.prog 21 ⟨.int .i32,1,4,[.int .i32 0],false⟩:=TyOk.of (P:=Try.prog) (t:=21) (.int .i32) 1 4 [.int .i32 0] (.int .i32 0) (by kernel_rfl) rfl Try.underlying21 rfl rfl false (fun h=>by cases h)
theorem Z6j:TyOk Try.prog 22 ⟨.slice 71,1,24,[.slice none 0 0],false⟩:=TyOk.of (P:=Try.prog) (t:=22) (.slice 71) 1 24 [.slice none 0 0] (.slice none 0 0) (by kernel_rfl) rfl Try.underlying22 rfl rfl false (fun h=>by cases h)
theorem Z6k:TyOk Try.prog 23 ⟨.slice 25,1,24,[.slice none 0 0],false⟩:=TyOk.of (P:=Try.prog) (t:=23) (.slice 25) 1 24 [.slice none 0 0] (.slice none 0 0) (by kernel_rfl) rfl Try.underlying23 rfl rfl false (fun h=>by cases h)
theorem Z6l:TyOk Try.prog 24 ⟨.struct [(0,3),(1,22),(2,23)],3,56,[.int .i64 0,.slice none 0 0,.slice none 0 0],false⟩:=TyOk.of (P:=Try.prog) (t:=24) (.struct [(0,3),(1,22),(2,23)]) 3 56 [.int .i64 0,.slice none 0 0,.slice none 0 0] (.agg #[.int .i64 0,.slice none 0 0,.slice none 0 0]) (by kernel_rfl) rfl ⟨_,Try.underlying24,rfl⟩ rfl rfl false (fun h=>by cases h)
theorem Z6m:TyOk Try.prog 25 ⟨.struct [(0,3),(1,22),(2,23)],3,56,[.int .i64 0,.slice none 0 0,.slice none 0 0],false⟩:=TyOk.of (P:=Try.prog) (t:=25) (.struct [(0,3),(1,22),(2,23)]) 3 56 [.int .i64 0,.slice none 0 0,.slice none 0 0] (.agg #[.int .i64 0,.slice none 0 0,.slice none 0 0]) (by kernel_rfl) rfl ⟨_,Try.underlying25,rfl⟩ rfl rfl false (fun h=>by cases h)
theorem Z6n:TyOk Try.prog 33 ⟨.slice 43,1,24,[.slice none 0 0],false⟩:=TyOk.of (P:=Try.prog) (t:=33) (.slice 43) 1 24 [.slice none 0 0] (.slice none 0 0) (by kernel_rfl) rfl Try.underlying33 rfl rfl false (fun h=>by cases h)
theorem Z6o:TyOk Try.prog 35 ⟨.slice 77,1,24,[.slice none 0 0],false⟩:=TyOk.of (P:=Try.prog) (t:=35) (.slice 77) 1 24 [.slice none 0 0] (.slice none 0 0) (by kernel_rfl) rfl Try.underlying35 rfl rfl false (fun h=>by cases h)
theorem Z6p:TyOk Try.prog 40 ⟨.arr 3 3,3,24,[.int .i64 0,.int .i64 0,.int .i64 0],false⟩:=TyOk.of (P:=Try.prog) (t:=40) (.arr 3 3) 3 24 [.int .i64 0,.int .i64 0,.int .i64 0] (.agg #[.int .i64 0,.int .i64 0,.int .i64 0]) (by kernel_rfl) rfl Try.underlying40 rfl rfl false (fun h=>by cases h)
theorem Z6q:TyOk Try.prog 42 ⟨.struct [(0,3),(1,3)],2,16,[.int .i64 0,.int .i64 0],false⟩:=TyOk.of (P:=Try.prog) (t:=42) (.struct [(0,3),(1,3)]) 2 16 [.int .i64 0,.int .i64 0] (.agg #[.int .i64 0,.int .i64 0]) (by kernel_rfl) rfl ⟨_,Try.underlying42,rfl⟩ rfl rfl false (fun h=>by cases h)
theorem Z6r:TyOk Try.prog 43 ⟨.struct [(0,3),(1,3)],2,16,[.int .i64 0,.int .i64 0],true⟩:=TyOk.of (P:=Try.prog) (t:=43) (.struct [(0,3),(1,3)]) 2 16 [.int .i64 0,.int .i64 0] (.agg #[.int .i64 0,.int .i64 0]) (by kernel_rfl) rfl ⟨_,Try.underlying43,rfl⟩ rfl rfl true (fun _=>by unfold Zxf;exact ⟨by kernel_rfl,by kernel_rfl,by kernel_rfl⟩)
theorem Z6s:TyOk Try.prog 50 ⟨.slice 91,1,24,[.slice none 0 0],false⟩:=TyOk.of (P:=Try.prog) (t:=50) (.slice 91) 1 24 [.slice none 0 0] (.slice none 0 0) (by kernel_rfl) rfl Try.underlying50 rfl rfl false (fun h=>by cases h)
theorem Z6t:TyOk Try.prog 51 ⟨.slice 62,1,24,[.slice none 0 0],false⟩:=TyOk.of (P:=Try.prog) (t:=51) (.slice 62) 1 24 [.slice none 0 0] (.slice none 0 0) (by kernel_rfl) rfl Try.underlying51 rfl rfl false (fun h=>by cases h)
theorem Z6u:TyOk Try.prog 52 ⟨.slice 64,1,24,[.slice none 0 0],false⟩:=TyOk.of (P:=Try.prog) (t:=52) (.slice 64) 1 24 [.slice none 0 0] (.slice none 0 0) (by kernel_rfl) rfl Try.underlying52 rfl rfl false (fun h=>by cases h)
theorem Z6v:TyOk Try.prog 53 ⟨.struct [(0,3),(1,25),(4,25),(7,50),(8,51),(9,3),(10,52)],11,200,[.int .i64 0,.int .i64 0,.slice none 0 0,.slice none 0 0,.int .i64 0,.slice none 0 0,.slice none 0 0,.slice none 0 0,.slice none 0 0,.int .i64 0,.slice none 0 0],false⟩:=TyOk.of (P:=Try.prog) (t:=53) (.struct [(0,3),(1,25),(4,25),(7,50),(8,51),(9,3),(10,52)]) 11 200 [.int .i64 0,.int .i64 0,.slice none 0 0,.slice none 0 0,.int .i64 0,.slice none 0 0,.slice none 0 0,.slice none 0 0,.slice none 0 0,.int .i64 0,.slice none 0 0] (.agg #[.int .i64 0,.int .i64 0,.slice none 0 0,.slice none 0 0,.int .i64 0,.slice none 0 0,.slice none 0 0,.slice none 0 0,.slice none 0 0,.int .i64 0,.slice none 0 0]) (by kernel_rfl) rfl ⟨_,Try.underlying53,rfl⟩ rfl rfl false (fun h=>by cases h)
theorem Z6w:TyOk Try.prog 54 ⟨.struct [(0,3),(1,25),(4,25),(7,50),(8,51),(9,3),(10,52)],11,200,[.int .i64 0,.int .i64 0,.slice none 0 0,.slice none 0 0,.int .i64 0,.slice none 0 0,.slice none 0 0,.slice none 0 0,.slice none 0 0,.int .i64 0,.slice none 0 0],false⟩:=TyOk.of (P:=Try.prog) (t:=54) (.struct [(0,3),(1,25),(4,25),(7,50),(8,51),(9,3),(10,52)]) 11 200 [.int .i64 0,.int .i64 0,.slice none 0 0,.slice none 0 0,.int .i64 0,.slice none 0 0,.slice none 0 0,.slice none 0 0,.slice none 0 0,.int .i64 0,.slice none 0 0] (.agg #[.int .i64 0,.int .i64 0,.slice none 0 0,.slice none 0 0,.int .i64 0,.slice none 0 0,.slice none 0 0,.slice none 0 0,.slice none 0 0,.int .i64 0,.slice none 0 0]) (by kernel_rfl) rfl ⟨_,Try.underlying54,rfl⟩ rfl rfl false (fun h=>by cases h)
theorem Z6x:TyOk Try.prog 61 ⟨.struct [(0,3),(1,54)],12,208,[.int .i64 0,.int .i64 0,.int .i64 0,.slice none 0 0,.slice none 0 0,.int .i64 0,.slice none 0 0,.slice none 0 0,.slice none 0 0,.slice none 0 0,.int .i64 0,.slice none 0 0],false⟩:=TyOk.of (P:=Try.prog) (t:=61) (.struct [(0,3),(1,54)]) 12 208 [.int .i64 0,.int .i64 0,.int .i64 0,.slice none 0 0,.slice none 0 0,.int .i64 0,.slice none 0 0,.slice none 0 0,.slice none 0 0,.slice none 0 0,.int .i64 0,.slice none 0 0] (.agg #[.int .i64 0,.int .i64 0,.int .i64 0,.slice none 0 0,.slice none 0 0,.int .i64 0,.slice none 0 0,.slice none 0 0,.slice none 0 0,.slice none 0 0,.int .i64 0,.slice none 0 0]) (by kernel_rfl) rfl ⟨_,Try.underlying61,rfl⟩ rfl rfl false (fun h=>by cases h)
theorem Z6y:TyOk Try.prog 62 ⟨.struct [(0,3),(1,54)],12,208,[.int .i64 0,.int .i64 0,.int .i64 0,.slice none 0 0,.slice none 0 0,.int .i64 0,.slice none 0 0,.slice none 0 0,.slice none 0 0,.slice none 0 0,.int .i64 0,.slice none 0 0],false⟩:=TyOk.of (P:=Try.prog) (t:=62) (.struct [(0,3),(1,54)]) 12 208 [.int .i64 0,.int .i64 0,.int .i64 0,.slice none 0 0,.slice none 0 0,.int .i64 0,.slice none 0 0,.slice none 0 0,.slice none 0 0,.slice none 0 0,.int .i64 0,.slice none 0 0] (.agg #[.int .i64 0,.int .i64 0,.int .i64 0,.slice none 0 0,.slice none 0 0,.int .i64 0,.slice none 0 0,.slice none 0 0,.slice none 0 0,.slice none 0 0,.int .i64 0,.slice none 0 0]) (by kernel_rfl) rfl ⟨_,Try.underlying62,rfl⟩ rfl rfl false (fun h=>by cases h)
theorem Z6z:TyOk Try.prog 63 ⟨.struct [(0,3),(1,3),(2,23),(3,54)],14,240,[.int .i64 0,.int .i64 0,.slice none 0 0,.int .i64 0,.int .i64 0,.slice none 0 0,.slice none 0 0,.int .i64 0,.slice none 0 0,.slice none 0 0,.slice none 0 0,.slice none 0 0,.int .i64 0,.slice none 0 0],false⟩:=TyOk.of (P:=Try.prog) (t:=63) (.struct [(0,3),(1,3),(2,23),(3,54)]) 14 240 [.int .i64 0,.int .i64 0,.slice none 0 0,.int .i64 0,.int .i64 0,.slice none 0 0,.slice none 0 0,.int .i64 0,.slice none 0 0,.slice none 0 0,.slice none 0 0,.slice none 0 0,.int .i64 0,.slice none 0 0] (.agg #[.int .i64 0,.int .i64 0,.slice none 0 0,.int .i64 0,.int .i64 0,.slice none 0 0,.slice none 0 0,.int .i64 0,.slice none 0 0,.slice none 0 0,.slice none 0 0,.slice none 0 0,.int .i64 0,.slice none 0 0]) (by kernel_rfl) rfl ⟨_,Try.underlying63,rfl⟩ rfl rfl false (fun h=>by cases h)
theorem Z60:TyOk Try.prog 64 ⟨.struct [(0,3),(1,3),(2,23),(3,54)],14,240,[.int .i64 0,.int .i64 0,.slice none 0 0,.int .i64 0,.int .i64 0,.slice none 0 0,.slice none 0 0,.int .i64 0,.slice none 0 0,.slice none 0 0,.slice none 0 0,.slice none 0 0,.int .i64 0,.slice none 0 0],false⟩:=TyOk.of (P:=Try.prog) (t:=64) (.struct [(0,3),(1,3),(2,23),(3,54)]) 14 240 [.int .i64 0,.int .i64 0,.slice none 0 0,.int .i64 0,.int .i64 0,.slice none 0 0,.slice none 0 0,.int .i64 0,.slice none 0 0,.slice none 0 0,.slice none 0 0,.slice none 0 0,.int .i64 0,.slice none 0 0] (.agg #[.int .i64 0,.int .i64 0,.slice none 0 0,.int .i64 0,.int .i64 0,.slice none 0 0,.slice none 0 0,.int .i64 0,.slice none 0 0,.slice none 0 0,.slice none 0 0,.slice none 0 0,.int .i64 0,.slice none 0 0]) (by kernel_rfl) rfl ⟨_,Try.underlying64,rfl⟩ rfl rfl false (fun h=>by cases h)
theorem Z61:TyOk Try.prog 71 ⟨.int .u64,1,8,[.int .u64 0],false⟩:=TyOk.of (P:=Try.prog) (t:=71) (.int .u64) 1 8 [.int .u64 0] (.int .u64 0) (by kernel_rfl) rfl Try.underlying71 rfl rfl false (fun h=>by cases h)
theorem Z62:TyOk Try.prog 77 ⟨.struct [(0,3),(1,3)],2,16,[.int .i64 0,.int .i64 0],true⟩:=TyOk.of (P:=Try.prog) (t:=77) (.struct [(0,3),(1,3)]) 2 16 [.int .i64 0,.int .i64 0] (.agg #[.int .i64 0,.int .i64 0]) (by kernel_rfl) rfl ⟨_,Try.underlying77,rfl⟩ rfl rfl true (fun _=>by unfold Zxf;exact ⟨by kernel_rfl,by kernel_rfl,by kernel_rfl⟩)
theorem Z63:TyOk Try.prog 78 ⟨.slice 3,1,24,[.slice none 0 0],false⟩:=TyOk.of (P:=Try.prog) (t:=78) (.slice 3) 1 24 [.slice none 0 0] (.slice none 0 0) (by kernel_rfl) rfl Try.underlying78 rfl rfl false (fun h=>by cases h)
theorem Z64:TyOk Try.prog 82 ⟨.slice 86,1,24,[.slice none 0 0],false⟩:=TyOk.of (P:=Try.prog) (t:=82) (.slice 86) 1 24 [.slice none 0 0] (.slice none 0 0) (by kernel_rfl) rfl Try.underlying82 rfl rfl false (fun h=>by cases h)
theorem Z65:TyOk Try.prog 84 ⟨.slice 78,1,24,[.slice none 0 0],false⟩:=TyOk.of (P:=Try.prog) (t:=84) (.slice 78) 1 24 [.slice none 0 0] (.slice none 0 0) (by kernel_rfl) rfl Try.underlying84 rfl rfl false (fun h=>by cases h)
theorem Z66:TyOk Try.prog 85 ⟨.struct [(0,3),(1,3)],2,16,[.int .i64 0,.int .i64 0],false⟩:=TyOk.of (P:=Try.prog) (t:=85) (.struct [(0,3),(1,3)]) 2 16 [.int .i64 0,.int .i64 0] (.agg #[.int .i64 0,.int .i64 0]) (by kernel_rfl) rfl ⟨_,Try.underlying85,rfl⟩ rfl rfl false (fun h=>by cases h)
theorem Z67:TyOk Try.prog 86 ⟨.struct [(0,3),(1,3)],2,16,[.int .i64 0,.int .i64 0],true⟩:=TyOk.of (P:=Try.prog) (t:=86) (.struct [(0,3),(1,3)]) 2 16 [.int .i64 0,.int .i64 0] (.agg #[.int .i64 0,.int .i64 0]) (by kernel_rfl) rfl ⟨_,Try.underlying86,rfl⟩ rfl rfl true (fun _=>by unfold Zxf;exact ⟨by kernel_rfl,by kernel_rfl,by kernel_rfl⟩)
theorem Z68:TyOk Try.prog 90 ⟨.struct [(0,3),(1,5),(2,71),(3,71)],4,32,[.int .i64 0,.int .u8 0,.int .u64 0,.int .u64 0],false⟩:=TyOk.of (P:=Try.prog) (t:=90) (.struct [(0,3),(1,5),(2,71),(3,71)]) 4 32 [.int .i64 0,.int .u8 0,.int .u64 0,.int .u64 0] (.agg #[.int .i64 0,.int .u8 0,.int .u64 0,.int .u64 0]) (by kernel_rfl) rfl ⟨_,Try.underlying90,rfl⟩ rfl rfl false (fun h=>by cases h)
theorem Z69:TyOk Try.prog 91 ⟨.struct [(0,3),(1,5),(2,71),(3,71)],4,32,[.int .i64 0,.int .u8 0,.int .u64 0,.int .u64 0],true⟩:=TyOk.of (P:=Try.prog) (t:=91) (.struct [(0,3),(1,5),(2,71),(3,71)]) 4 32 [.int .i64 0,.int .u8 0,.int .u64 0,.int .u64 0] (.agg #[.int .i64 0,.int .u8 0,.int .u64 0,.int .u64 0]) (by kernel_rfl) rfl ⟨_,Try.underlying91,rfl⟩ rfl rfl true (fun _=>by unfold Zxf;exact ⟨by kernel_rfl,by kernel_rfl,by kernel_rfl⟩)
theorem Z5c:TyOk Try.prog 104 ⟨.slice 111,1,24,[.slice none 0 0],false⟩:=TyOk.of (P:=Try.prog) (t:=104) (.slice 111) 1 24 [.slice none 0 0] (.slice none 0 0) (by kernel_rfl) rfl Try.underlying104 rfl rfl false (fun h=>by cases h)
theorem Z5d:TyOk Try.prog 105 ⟨.slice 111,1,24,[.slice none 0 0],false⟩:=TyOk.of (P:=Try.prog) (t:=105) (.slice 111) 1 24 [.slice none 0 0] (.slice none 0 0) (by kernel_rfl) rfl Try.underlying105 rfl rfl false (fun h=>by cases h)
theorem Z5e:TyOk Try.prog 108 ⟨.ptr 105,1,8,[.pointer none],false⟩:=TyOk.of (P:=Try.prog) (t:=108) (.ptr 105) 1 8 [.pointer none] (.pointer none) (by kernel_rfl) rfl Try.underlying108 rfl rfl false (fun h=>by cases h)
theorem Z5f:TyOk Try.prog 110 ⟨.struct [(0,86),(2,3)],3,24,[.int .i64 0,.int .i64 0,.int .i64 0],false⟩:=TyOk.of (P:=Try.prog) (t:=110) (.struct [(0,86),(2,3)]) 3 24 [.int .i64 0,.int .i64 0,.int .i64 0] (.agg #[.int .i64 0,.int .i64 0,.int .i64 0]) (by kernel_rfl) rfl ⟨_,Try.underlying110,rfl⟩ rfl rfl false (fun h=>by cases h)
theorem Z5g:TyOk Try.prog 111 ⟨.struct [(0,86),(2,3)],3,24,[.int .i64 0,.int .i64 0,.int .i64 0],true⟩:=TyOk.of (P:=Try.prog) (t:=111) (.struct [(0,86),(2,3)]) 3 24 [.int .i64 0,.int .i64 0,.int .i64 0] (.agg #[.int .i64 0,.int .i64 0,.int .i64 0]) (by kernel_rfl) rfl ⟨_,Try.underlying111,rfl⟩ rfl rfl true (fun _=>by unfold Zxf;exact ⟨by kernel_rfl,by kernel_rfl,by kernel_rfl⟩)
theorem Z5h:TyOk Try.prog 132 ⟨.int .u64,1,8,[.int .u64 0],false⟩:=TyOk.of (P:=Try.prog) (t:=132) (.int .u64) 1 8 [.int .u64 0] (.int .u64 0) (by kernel_rfl) rfl Try.underlying132 rfl rfl false (fun h=>by cases h)
theorem Z5i:TyOk Try.prog 134 ⟨.arr 8 5,8,8,[.int .u8 0,.int .u8 0,.int .u8 0,.int .u8 0,.int .u8 0,.int .u8 0,.int .u8 0,.int .u8 0],false⟩:=TyOk.of (P:=Try.prog) (t:=134) (.arr 8 5) 8 8 [.int .u8 0,.int .u8 0,.int .u8 0,.int .u8 0,.int .u8 0,.int .u8 0,.int .u8 0,.int .u8 0] (.agg #[.int .u8 0,.int .u8 0,.int .u8 0,.int .u8 0,.int .u8 0,.int .u8 0,.int .u8 0,.int .u8 0]) (by kernel_rfl) rfl Try.underlying134 rfl rfl false (fun h=>by cases h)
theorem Z5j:TyOk Try.prog 138 ⟨.slice 5,1,24,[.slice none 0 0],false⟩:=TyOk.of (P:=Try.prog) (t:=138) (.slice 5) 1 24 [.slice none 0 0] (.slice none 0 0) (by kernel_rfl) rfl Try.underlying138 rfl rfl false (fun h=>by cases h)
theorem Z5k:TyOk Try.prog 140 ⟨.ptr 25,1,8,[.pointer none],false⟩:=TyOk.of (P:=Try.prog) (t:=140) (.ptr 25) 1 8 [.pointer none] (.pointer none) (by kernel_rfl) rfl Try.underlying140 rfl rfl false (fun h=>by cases h)
theorem Z5l:TyOk Try.prog 142 ⟨.struct [(0,23),(1,23)],2,48,[.slice none 0 0,.slice none 0 0],false⟩:=TyOk.of (P:=Try.prog) (t:=142) (.struct [(0,23),(1,23)]) 2 48 [.slice none 0 0,.slice none 0 0] (.agg #[.slice none 0 0,.slice none 0 0]) (by kernel_rfl) rfl ⟨_,Try.underlying142,rfl⟩ rfl rfl false (fun h=>by cases h)
theorem Z5m:TyOk Try.prog 143 ⟨.struct [(0,23),(1,23)],2,48,[.slice none 0 0,.slice none 0 0],false⟩:=TyOk.of (P:=Try.prog) (t:=143) (.struct [(0,23),(1,23)]) 2 48 [.slice none 0 0,.slice none 0 0] (.agg #[.slice none 0 0,.slice none 0 0]) (by kernel_rfl) rfl ⟨_,Try.underlying143,rfl⟩ rfl rfl false (fun h=>by cases h)
theorem Z5n:TyOk Try.prog 149 ⟨.int .i64,1,8,[.int .i64 0],false⟩:=TyOk.of (P:=Try.prog) (t:=149) (.int .i64) 1 8 [.int .i64 0] (.int .i64 0) (by kernel_rfl) rfl Try.underlying149 rfl rfl false (fun h=>by cases h)
theorem Z5o:TyOk Try.prog 156 ⟨.int .u32,1,4,[.int .u32 0],false⟩:=TyOk.of (P:=Try.prog) (t:=156) (.int .u32) 1 4 [.int .u32 0] (.int .u32 0) (by kernel_rfl) rfl Try.underlying156 rfl rfl false (fun h=>by cases h)
theorem Z5p:TyOk Try.prog 159 ⟨.ptr 143,1,8,[.pointer none],false⟩:=TyOk.of (P:=Try.prog) (t:=159) (.ptr 143) 1 8 [.pointer none] (.pointer none) (by kernel_rfl) rfl Try.underlying159 rfl rfl false (fun h=>by cases h)
theorem Z5q:TyOk Try.prog 160 ⟨.arr 6 3,6,48,[.int .i64 0,.int .i64 0,.int .i64 0,.int .i64 0,.int .i64 0,.int .i64 0],false⟩:=TyOk.of (P:=Try.prog) (t:=160) (.arr 6 3) 6 48 [.int .i64 0,.int .i64 0,.int .i64 0,.int .i64 0,.int .i64 0,.int .i64 0] (.agg #[.int .i64 0,.int .i64 0,.int .i64 0,.int .i64 0,.int .i64 0,.int .i64 0]) (by kernel_rfl) rfl Try.underlying160 rfl rfl false (fun h=>by cases h)
theorem Z5r:TyOk Try.prog 161 ⟨.int .u64,1,8,[.int .u64 0],false⟩:=TyOk.of (P:=Try.prog) (t:=161) (.int .u64) 1 8 [.int .u64 0] (.int .u64 0) (by kernel_rfl) rfl Try.underlying161 rfl rfl false (fun h=>by cases h)
theorem Z5s:TyOk Try.prog 165 ⟨.ptr 3,1,8,[.pointer none],false⟩:=TyOk.of (P:=Try.prog) (t:=165) (.ptr 3) 1 8 [.pointer none] (.pointer none) (by kernel_rfl) rfl Try.underlying165 rfl rfl false (fun h=>by cases h)
theorem Z5t:TyOk Try.prog 167 ⟨.ptr 161,1,8,[.pointer none],false⟩:=TyOk.of (P:=Try.prog) (t:=167) (.ptr 161) 1 8 [.pointer none] (.pointer none) (by kernel_rfl) rfl Try.underlying167 rfl rfl false (fun h=>by cases h)
theorem Z5u:TyOk Try.prog 170 ⟨.struct [(0,17),(1,17),(2,17),(3,9)],4,40,[.pointer none,.pointer none,.pointer none,.string ByteArray.empty],false⟩:=TyOk.of (P:=Try.prog) (t:=170) (.struct [(0,17),(1,17),(2,17),(3,9)]) 4 40 [.pointer none,.pointer none,.pointer none,.string ByteArray.empty] (.agg #[.pointer none,.pointer none,.pointer none,.string ByteArray.empty]) (by kernel_rfl) rfl ⟨_,Try.underlying170,rfl⟩ rfl rfl false (fun h=>by cases h)
theorem Z5v:TyOk Try.prog 171 ⟨.struct [(0,17),(1,17),(2,17),(3,9)],4,40,[.pointer none,.pointer none,.pointer none,.string ByteArray.empty],false⟩:=TyOk.of (P:=Try.prog) (t:=171) (.struct [(0,17),(1,17),(2,17),(3,9)]) 4 40 [.pointer none,.pointer none,.pointer none,.string ByteArray.empty] (.agg #[.pointer none,.pointer none,.pointer none,.string ByteArray.empty]) (by kernel_rfl) rfl ⟨_,Try.underlying171,rfl⟩ rfl rfl false (fun h=>by cases h)
theorem Z5w:TyOk Try.prog 175 ⟨.int .u8,1,1,[.int .u8 0],false⟩:=TyOk.of (P:=Try.prog) (t:=175) (.int .u8) 1 1 [.int .u8 0] (.int .u8 0) (by kernel_rfl) rfl Try.underlying175 rfl rfl false (fun h=>by cases h)
theorem Z5x:TyOk Try.prog 176 ⟨.int .u8,1,1,[.int .u8 0],false⟩:=TyOk.of (P:=Try.prog) (t:=176) (.int .u8) 1 1 [.int .u8 0] (.int .u8 0) (by kernel_rfl) rfl Try.underlying176 rfl rfl false (fun h=>by cases h)
theorem Z5y:TyOk Try.prog 178 ⟨.ptr 5,1,8,[.pointer none],false⟩:=TyOk.of (P:=Try.prog) (t:=178) (.ptr 5) 1 8 [.pointer none] (.pointer none) (by kernel_rfl) rfl Try.underlying178 rfl rfl false (fun h=>by cases h)
theorem Z5z:TyOk Try.prog 179 ⟨.int .i32,1,4,[.int .i32 0],false⟩:=TyOk.of (P:=Try.prog) (t:=179) (.int .i32) 1 4 [.int .i32 0] (.int .i32 0) (by kernel_rfl) rfl Try.underlying179 rfl rfl false (fun h=>by cases h)
theorem Z50:TyOk Try.prog 180 ⟨.int .i32,1,4,[.int .i32 0],false⟩:=TyOk.of (P:=Try.prog) (t:=180) (.int .i32) 1 4 [.int .i32 0] (.int .i32 0) (by kernel_rfl) rfl Try.underlying180 rfl rfl false (fun h=>by cases h)
def tabL:List (Nat×TyI):=[(2,⟨.int .i64,1,8,[.int .i64 0],false⟩),
 (3,⟨.int .i64,1,8,[.int .i64 0],false⟩),
 (4,⟨.bool,1,1,[.bool false],false⟩),
 (5,⟨.int .u8,1,1,[.int .u8 0],false⟩),
 (6,⟨.int .u8,1,1,[.int .u8 0],false⟩),
 (7,⟨.struct [(0,2),(1,3),(2,4),(3,6)],4,24,[.int .i64 0,.int .i64 0,.bool false,.int .u8 0],false⟩),
 (8,⟨.struct [(0,2),(1,3),(2,4),(3,6)],4,24,[.int .i64 0,.int .i64 0,.bool false,.int .u8 0],false⟩),
 (9,⟨.str,1,16,[.string ByteArray.empty],false⟩),
 (10,⟨.str,1,16,[.string ByteArray.empty],false⟩),
 (11,⟨.str,1,16,[.string ByteArray.empty],false⟩),
 (12,⟨.int .u64,1,8,[.int .u64 0],false⟩),
 (13,⟨.struct [(0,9),(1,12)],2,24,[.string ByteArray.empty,.int .u64 0],false⟩),
 (14,⟨.struct [(0,9),(1,12)],2,24,[.string ByteArray.empty,.int .u64 0],false⟩),
 (15,⟨.ptr 171,1,8,[.pointer none],false⟩),
 (16,⟨.ptr 174,1,8,[.pointer none],false⟩),
 (17,⟨.ptr 182,1,8,[.pointer none],false⟩),
 (18,⟨.struct [(0,17)],1,8,[.pointer none],false⟩),
 (19,⟨.struct [(0,17)],1,8,[.pointer none],false⟩),
 (21,⟨.int .i32,1,4,[.int .i32 0],false⟩),
 (22,⟨.slice 71,1,24,[.slice none 0 0],false⟩),
 (23,⟨.slice 25,1,24,[.slice none 0 0],false⟩),
 (24,⟨.struct [(0,3),(1,22),(2,23)],3,56,[.int .i64 0,.slice none 0 0,.slice none 0 0],false⟩),
 (25,⟨.struct [(0,3),(1,22),(2,23)],3,56,[.int .i64 0,.slice none 0 0,.slice none 0 0],false⟩),
 (33,⟨.slice 43,1,24,[.slice none 0 0],false⟩),
 (35,⟨.slice 77,1,24,[.slice none 0 0],false⟩),
 (40,⟨.arr 3 3,3,24,[.int .i64 0,.int .i64 0,.int .i64 0],false⟩),
 (42,⟨.struct [(0,3),(1,3)],2,16,[.int .i64 0,.int .i64 0],false⟩),
 (43,⟨.struct [(0,3),(1,3)],2,16,[.int .i64 0,.int .i64 0],true⟩),
 (50,⟨.slice 91,1,24,[.slice none 0 0],false⟩),
 (51,⟨.slice 62,1,24,[.slice none 0 0],false⟩),
 (52,⟨.slice 64,1,24,[.slice none 0 0],false⟩),
 (53,⟨.struct [(0,3),(1,25),(4,25),(7,50),(8,51),(9,3),(10,52)],11,200,[.int .i64 0,.int .i64 0,.slice none 0 0,.slice none 0 0,.int .i64 0,.slice none 0 0,.slice none 0 0,.slice none 0 0,.slice none 0 0,.int .i64 0,.slice none 0 0],false⟩),
 (54,⟨.struct [(0,3),(1,25),(4,25),(7,50),(8,51),(9,3),(10,52)],11,200,[.int .i64 0,.int .i64 0,.slice none 0 0,.slice none 0 0,.int .i64 0,.slice none 0 0,.slice none 0 0,.slice none 0 0,.slice none 0 0,.int .i64 0,.slice none 0 0],false⟩),
 (61,⟨.struct [(0,3),(1,54)],12,208,[.int .i64 0,.int .i64 0,.int .i64 0,.slice none 0 0,.slice none 0 0,.int .i64 0,.slice none 0 0,.slice none 0 0,.slice none 0 0,.slice none 0 0,.int .i64 0,.slice none 0 0],false⟩),
 (62,⟨.struct [(0,3),(1,54)],12,208,[.int .i64 0,.int .i64 0,.int .i64 0,.slice none 0 0,.slice none 0 0,.int .i64 0,.slice none 0 0,.slice none 0 0,.slice none 0 0,.slice none 0 0,.int .i64 0,.slice none 0 0],false⟩),
 (63,⟨.struct [(0,3),(1,3),(2,23),(3,54)],14,240,[.int .i64 0,.int .i64 0,.slice none 0 0,.int .i64 0,.int .i64 0,.slice none 0 0,.slice none 0 0,.int .i64 0,.slice none 0 0,.slice none 0 0,.slice none 0 0,.slice none 0 0,.int .i64 0,.slice none 0 0],false⟩),
 (64,⟨.struct [(0,3),(1,3),(2,23),(3,54)],14,240,[.int .i64 0,.int .i64 0,.slice none 0 0,.int .i64 0,.int .i64 0,.slice none 0 0,.slice none 0 0,.int .i64 0,.slice none 0 0,.slice none 0 0,.slice none 0 0,.slice none 0 0,.int .i64 0,.slice none 0 0],false⟩),
 (71,⟨.int .u64,1,8,[.int .u64 0],false⟩),
 (77,⟨.struct [(0,3),(1,3)],2,16,[.int .i64 0,.int .i64 0],true⟩),
 (78,⟨.slice 3,1,24,[.slice none 0 0],false⟩),
 (82,⟨.slice 86,1,24,[.slice none 0 0],false⟩),
 (84,⟨.slice 78,1,24,[.slice none 0 0],false⟩),
 (85,⟨.struct [(0,3),(1,3)],2,16,[.int .i64 0,.int .i64 0],false⟩),
 (86,⟨.struct [(0,3),(1,3)],2,16,[.int .i64 0,.int .i64 0],true⟩),
 (90,⟨.struct [(0,3),(1,5),(2,71),(3,71)],4,32,[.int .i64 0,.int .u8 0,.int .u64 0,.int .u64 0],false⟩),
 (91,⟨.struct [(0,3),(1,5),(2,71),(3,71)],4,32,[.int .i64 0,.int .u8 0,.int .u64 0,.int .u64 0],true⟩),
 (104,⟨.slice 111,1,24,[.slice none 0 0],false⟩),
 (105,⟨.slice 111,1,24,[.slice none 0 0],false⟩),
 (108,⟨.ptr 105,1,8,[.pointer none],false⟩),
 (110,⟨.struct [(0,86),(2,3)],3,24,[.int .i64 0,.int .i64 0,.int .i64 0],false⟩),
 (111,⟨.struct [(0,86),(2,3)],3,24,[.int .i64 0,.int .i64 0,.int .i64 0],true⟩),
 (132,⟨.int .u64,1,8,[.int .u64 0],false⟩),
 (134,⟨.arr 8 5,8,8,[.int .u8 0,.int .u8 0,.int .u8 0,.int .u8 0,.int .u8 0,.int .u8 0,.int .u8 0,.int .u8 0],false⟩),
 (138,⟨.slice 5,1,24,[.slice none 0 0],false⟩),
 (140,⟨.ptr 25,1,8,[.pointer none],false⟩),
 (142,⟨.struct [(0,23),(1,23)],2,48,[.slice none 0 0,.slice none 0 0],false⟩),
 (143,⟨.struct [(0,23),(1,23)],2,48,[.slice none 0 0,.slice none 0 0],false⟩),
 (149,⟨.int .i64,1,8,[.int .i64 0],false⟩),
 (156,⟨.int .u32,1,4,[.int .u32 0],false⟩),
 (159,⟨.ptr 143,1,8,[.pointer none],false⟩),
 (160,⟨.arr 6 3,6,48,[.int .i64 0,.int .i64 0,.int .i64 0,.int .i64 0,.int .i64 0,.int .i64 0],false⟩),
 (161,⟨.int .u64,1,8,[.int .u64 0],false⟩),
 (165,⟨.ptr 3,1,8,[.pointer none],false⟩),
 (167,⟨.ptr 161,1,8,[.pointer none],false⟩),
 (170,⟨.struct [(0,17),(1,17),(2,17),(3,9)],4,40,[.pointer none,.pointer none,.pointer none,.string ByteArray.empty],false⟩),
 (171,⟨.struct [(0,17),(1,17),(2,17),(3,9)],4,40,[.pointer none,.pointer none,.pointer none,.string ByteArray.empty],false⟩),
 (175,⟨.int .u8,1,1,[.int .u8 0],false⟩),
 (176,⟨.int .u8,1,1,[.int .u8 0],false⟩),
 (178,⟨.ptr 5,1,8,[.pointer none],false⟩),
 (179,⟨.int .i32,1,4,[.int .i32 0],false⟩),
 (180,⟨.int .i32,1,4,[.int .i32 0],false⟩)]
def X6:Jy:=fun t=>tabL.lookup t
theorem Ze:Qf Try.prog X6:=fun t i h=>by
 have hm:=Zqg _ h
 unfold tabL at hm
 simp only [List.mem_cons,Prod.mk.injEq,List.not_mem_nil,or_false] at hm
 rcases hm with ⟨rfl,rfl⟩ | ⟨rfl,rfl⟩ | ⟨rfl,rfl⟩ | ⟨rfl,rfl⟩ | ⟨rfl,rfl⟩ | ⟨rfl,rfl⟩ | ⟨rfl,rfl⟩ | ⟨rfl,rfl⟩ | ⟨rfl,rfl⟩ | ⟨rfl,rfl⟩ | ⟨rfl,rfl⟩ | ⟨rfl,rfl⟩ | ⟨rfl,rfl⟩ | ⟨rfl,rfl⟩ | ⟨rfl,rfl⟩ | ⟨rfl,rfl⟩ | ⟨rfl,rfl⟩ | ⟨rfl,rfl⟩ | ⟨rfl,rfl⟩ | ⟨rfl,rfl⟩ | ⟨rfl,rfl⟩ | ⟨rfl,rfl⟩ | ⟨rfl,rfl⟩ | ⟨rfl,rfl⟩ | ⟨rfl,rfl⟩ | ⟨rfl,rfl⟩ | ⟨rfl,rfl⟩ | ⟨rfl,rfl⟩ | ⟨rfl,rfl⟩ | ⟨rfl,rfl⟩ | ⟨rfl,rfl⟩ | ⟨rfl,rfl⟩ | ⟨rfl,rfl⟩ | ⟨rfl,rfl⟩ | ⟨rfl,rfl⟩ | ⟨rfl,rfl⟩ | ⟨rfl,rfl⟩ | ⟨rfl,rfl⟩ | ⟨rfl,rfl⟩ | ⟨rfl,rfl⟩ | ⟨rfl,rfl⟩ | ⟨rfl,rfl⟩ | ⟨rfl,rfl⟩ | ⟨rfl,rfl⟩ | ⟨rfl,rfl⟩ | ⟨rfl,rfl⟩ | ⟨rfl,rfl⟩ | ⟨rfl,rfl⟩ | ⟨rfl,rfl⟩ | ⟨rfl,rfl⟩ | ⟨rfl,rfl⟩ | ⟨rfl,rfl⟩ | ⟨rfl,rfl⟩ | ⟨rfl,rfl⟩ | ⟨rfl,rfl⟩ | ⟨rfl,rfl⟩ | ⟨rfl,rfl⟩ | ⟨rfl,rfl⟩ | ⟨rfl,rfl⟩ | ⟨rfl,rfl⟩ | ⟨rfl,rfl⟩ | ⟨rfl,rfl⟩ | ⟨rfl,rfl⟩ | ⟨rfl,rfl⟩ | ⟨rfl,rfl⟩ | ⟨rfl,rfl⟩ | ⟨rfl,rfl⟩ | ⟨rfl,rfl⟩ | ⟨rfl,rfl⟩ | ⟨rfl,rfl⟩ | ⟨rfl,rfl⟩
 ·exact ty2
 ·exact ty3
 ·exact ty4
 ·exact ty5
 ·exact ty6
 ·exact ty7
 ·exact ty8
 ·exact ty9
 ·exact Z58
 ·exact Z59
 ·exact Z6a
 ·exact Z6b
 ·exact Z6c
 ·exact Z6d
 ·exact Z6e
 ·exact Z6f
 ·exact Z6g
 ·exact Z6h
 ·exact Z6i
 ·exact Z6j
 ·exact Z6k
 ·exact Z6l
 ·exact Z6m
 ·exact Z6n
 ·exact Z6o
 ·exact Z6p
 ·exact Z6q
 ·exact Z6r
 ·exact Z6s
 ·exact Z6t
 ·exact Z6u
 ·exact Z6v
 ·exact Z6w
 ·exact Z6x
 ·exact Z6y
 ·exact Z6z
 ·exact Z60
 ·exact Z61
 ·exact Z62
 ·exact Z63
 ·exact Z64
 ·exact Z65
 ·exact Z66
 ·exact Z67
 ·exact Z68
 ·exact Z69
 ·exact Z5c
 ·exact Z5d
 ·exact Z5e
 ·exact Z5f
 ·exact Z5g
 ·exact Z5h
 ·exact Z5i
 ·exact Z5j
 ·exact Z5k
 ·exact Z5l
 ·exact Z5m
 ·exact Z5n
 ·exact Z5o
 ·exact Z5p
 ·exact Z5q
 ·exact Z5r
 ·exact Z5s
 ·exact Z5t
 ·exact Z5u
 ·exact Z5v
 ·exact Z5w
 ·exact Z5x
 ·exact Z5y
 ·exact Z5z
 exact Z50
theorem Z2c:X6 2=some ⟨.int .i64,1,8,[.int .i64 0],false⟩:=rfl
theorem Zo3:X6 3=some ⟨.int .i64,1,8,[.int .i64 0],false⟩:=rfl
theorem Z2d:X6 4=some ⟨.bool,1,1,[.bool false],false⟩:=rfl
theorem Zsm:X6 5=some ⟨.int .u8,1,1,[.int .u8 0],false⟩:=rfl
theorem Z2e:X6 6=some ⟨.int .u8,1,1,[.int .u8 0],false⟩:=rfl
theorem Z2f:X6 7=some ⟨.struct [(0,2),(1,3),(2,4),(3,6)],4,24,[.int .i64 0,.int .i64 0,.bool false,.int .u8 0],false⟩:=rfl
theorem Z2g:X6 8=some ⟨.struct [(0,2),(1,3),(2,4),(3,6)],4,24,[.int .i64 0,.int .i64 0,.bool false,.int .u8 0],false⟩:=rfl
theorem Z2h:X6 9=some ⟨.str,1,16,[.string ByteArray.empty],false⟩:=rfl
theorem Zv7:X6 10=some ⟨.str,1,16,[.string ByteArray.empty],false⟩:=rfl
theorem Zv8:X6 11=some ⟨.str,1,16,[.string ByteArray.empty],false⟩:=rfl
theorem Zv9:X6 12=some ⟨.int .u64,1,8,[.int .u64 0],false⟩:=rfl
theorem Zwa:X6 13=some ⟨.struct [(0,9),(1,12)],2,24,[.string ByteArray.empty,.int .u64 0],false⟩:=rfl
theorem Zwb:X6 14=some ⟨.struct [(0,9),(1,12)],2,24,[.string ByteArray.empty,.int .u64 0],false⟩:=rfl
theorem Zwc:X6 15=some ⟨.ptr 171,1,8,[.pointer none],false⟩:=rfl
theorem Zwd:X6 16=some ⟨.ptr 174,1,8,[.pointer none],false⟩:=rfl
theorem Zwe:X6 17=some ⟨.ptr 182,1,8,[.pointer none],false⟩:=rfl
theorem Zwf:X6 18=some ⟨.struct [(0,17)],1,8,[.pointer none],false⟩:=rfl
theorem Zwg:X6 19=some ⟨.struct [(0,17)],1,8,[.pointer none],false⟩:=rfl
theorem Zwh:X6 21=some ⟨.int .i32,1,4,[.int .i32 0],false⟩:=rfl
theorem Zwi:X6 22=some ⟨.slice 71,1,24,[.slice none 0 0],false⟩:=rfl
theorem Zrp:X6 23=some ⟨.slice 25,1,24,[.slice none 0 0],false⟩:=rfl
theorem Zwj:X6 24=some ⟨.struct [(0,3),(1,22),(2,23)],3,56,[.int .i64 0,.slice none 0 0,.slice none 0 0],false⟩:=rfl
theorem Ki:X6 25=some ⟨.struct [(0,3),(1,22),(2,23)],3,56,[.int .i64 0,.slice none 0 0,.slice none 0 0],false⟩:=rfl
theorem Zwk:X6 33=some ⟨.slice 43,1,24,[.slice none 0 0],false⟩:=rfl
theorem Zwl:X6 35=some ⟨.slice 77,1,24,[.slice none 0 0],false⟩:=rfl
theorem Zwm:X6 40=some ⟨.arr 3 3,3,24,[.int .i64 0,.int .i64 0,.int .i64 0],false⟩:=rfl
theorem Zwn:X6 42=some ⟨.struct [(0,3),(1,3)],2,16,[.int .i64 0,.int .i64 0],false⟩:=rfl
theorem Zwo:X6 43=some ⟨.struct [(0,3),(1,3)],2,16,[.int .i64 0,.int .i64 0],true⟩:=rfl
theorem Zwp:X6 50=some ⟨.slice 91,1,24,[.slice none 0 0],false⟩:=rfl
theorem Zwq:X6 51=some ⟨.slice 62,1,24,[.slice none 0 0],false⟩:=rfl
theorem Zwr:X6 52=some ⟨.slice 64,1,24,[.slice none 0 0],false⟩:=rfl
theorem Zws:X6 53=some ⟨.struct [(0,3),(1,25),(4,25),(7,50),(8,51),(9,3),(10,52)],11,200,[.int .i64 0,.int .i64 0,.slice none 0 0,.slice none 0 0,.int .i64 0,.slice none 0 0,.slice none 0 0,.slice none 0 0,.slice none 0 0,.int .i64 0,.slice none 0 0],false⟩:=rfl
theorem Zkv:X6 54=some ⟨.struct [(0,3),(1,25),(4,25),(7,50),(8,51),(9,3),(10,52)],11,200,[.int .i64 0,.int .i64 0,.slice none 0 0,.slice none 0 0,.int .i64 0,.slice none 0 0,.slice none 0 0,.slice none 0 0,.slice none 0 0,.int .i64 0,.slice none 0 0],false⟩:=rfl
theorem Zwt:X6 61=some ⟨.struct [(0,3),(1,54)],12,208,[.int .i64 0,.int .i64 0,.int .i64 0,.slice none 0 0,.slice none 0 0,.int .i64 0,.slice none 0 0,.slice none 0 0,.slice none 0 0,.slice none 0 0,.int .i64 0,.slice none 0 0],false⟩:=rfl
theorem Zg3:X6 62=some ⟨.struct [(0,3),(1,54)],12,208,[.int .i64 0,.int .i64 0,.int .i64 0,.slice none 0 0,.slice none 0 0,.int .i64 0,.slice none 0 0,.slice none 0 0,.slice none 0 0,.slice none 0 0,.int .i64 0,.slice none 0 0],false⟩:=rfl
theorem Zwu:X6 63=some ⟨.struct [(0,3),(1,3),(2,23),(3,54)],14,240,[.int .i64 0,.int .i64 0,.slice none 0 0,.int .i64 0,.int .i64 0,.slice none 0 0,.slice none 0 0,.int .i64 0,.slice none 0 0,.slice none 0 0,.slice none 0 0,.slice none 0 0,.int .i64 0,.slice none 0 0],false⟩:=rfl
theorem Zg4:X6 64=some ⟨.struct [(0,3),(1,3),(2,23),(3,54)],14,240,[.int .i64 0,.int .i64 0,.slice none 0 0,.int .i64 0,.int .i64 0,.slice none 0 0,.slice none 0 0,.int .i64 0,.slice none 0 0,.slice none 0 0,.slice none 0 0,.slice none 0 0,.int .i64 0,.slice none 0 0],false⟩:=rfl
theorem Zcc:X6 71=some ⟨.int .u64,1,8,[.int .u64 0],false⟩:=rfl
theorem Zwv:X6 77=some ⟨.struct [(0,3),(1,3)],2,16,[.int .i64 0,.int .i64 0],true⟩:=rfl
theorem Zww:X6 78=some ⟨.slice 3,1,24,[.slice none 0 0],false⟩:=rfl
theorem Zwx:X6 82=some ⟨.slice 86,1,24,[.slice none 0 0],false⟩:=rfl
theorem Zwy:X6 84=some ⟨.slice 78,1,24,[.slice none 0 0],false⟩:=rfl
theorem Zwz:X6 85=some ⟨.struct [(0,3),(1,3)],2,16,[.int .i64 0,.int .i64 0],false⟩:=rfl
theorem Zw0:X6 86=some ⟨.struct [(0,3),(1,3)],2,16,[.int .i64 0,.int .i64 0],true⟩:=rfl
theorem Zw1:X6 90=some ⟨.struct [(0,3),(1,5),(2,71),(3,71)],4,32,[.int .i64 0,.int .u8 0,.int .u64 0,.int .u64 0],false⟩:=rfl
theorem Zjg:X6 91=some ⟨.struct [(0,3),(1,5),(2,71),(3,71)],4,32,[.int .i64 0,.int .u8 0,.int .u64 0,.int .u64 0],true⟩:=rfl
theorem Zq1:X6 104=some ⟨.slice 111,1,24,[.slice none 0 0],false⟩:=rfl
theorem Zq2:X6 105=some ⟨.slice 111,1,24,[.slice none 0 0],false⟩:=rfl
theorem Zq3:X6 108=some ⟨.ptr 105,1,8,[.pointer none],false⟩:=rfl
theorem Zq4:X6 110=some ⟨.struct [(0,86),(2,3)],3,24,[.int .i64 0,.int .i64 0,.int .i64 0],false⟩:=rfl
theorem Zq5:X6 111=some ⟨.struct [(0,86),(2,3)],3,24,[.int .i64 0,.int .i64 0,.int .i64 0],true⟩:=rfl
theorem Zq6:X6 132=some ⟨.int .u64,1,8,[.int .u64 0],false⟩:=rfl
theorem Zlf:X6 134=some ⟨.arr 8 5,8,8,[.int .u8 0,.int .u8 0,.int .u8 0,.int .u8 0,.int .u8 0,.int .u8 0,.int .u8 0,.int .u8 0],false⟩:=rfl
theorem Zq7:X6 138=some ⟨.slice 5,1,24,[.slice none 0 0],false⟩:=rfl
theorem Zq8:X6 140=some ⟨.ptr 25,1,8,[.pointer none],false⟩:=rfl
theorem Zq9:X6 142=some ⟨.struct [(0,23),(1,23)],2,48,[.slice none 0 0,.slice none 0 0],false⟩:=rfl
theorem Zra:X6 143=some ⟨.struct [(0,23),(1,23)],2,48,[.slice none 0 0,.slice none 0 0],false⟩:=rfl
theorem Zrb:X6 149=some ⟨.int .i64,1,8,[.int .i64 0],false⟩:=rfl
theorem Zrc:X6 156=some ⟨.int .u32,1,4,[.int .u32 0],false⟩:=rfl
theorem Zrd:X6 159=some ⟨.ptr 143,1,8,[.pointer none],false⟩:=rfl
theorem Zre:X6 160=some ⟨.arr 6 3,6,48,[.int .i64 0,.int .i64 0,.int .i64 0,.int .i64 0,.int .i64 0,.int .i64 0],false⟩:=rfl
theorem Zrf:X6 161=some ⟨.int .u64,1,8,[.int .u64 0],false⟩:=rfl
theorem Zrg:X6 165=some ⟨.ptr 3,1,8,[.pointer none],false⟩:=rfl
theorem Zrh:X6 167=some ⟨.ptr 161,1,8,[.pointer none],false⟩:=rfl
theorem Zri:X6 170=some ⟨.struct [(0,17),(1,17),(2,17),(3,9)],4,40,[.pointer none,.pointer none,.pointer none,.string ByteArray.empty],false⟩:=rfl
theorem Zrj:X6 171=some ⟨.struct [(0,17),(1,17),(2,17),(3,9)],4,40,[.pointer none,.pointer none,.pointer none,.string ByteArray.empty],false⟩:=rfl
theorem Zrk:X6 175=some ⟨.int .u8,1,1,[.int .u8 0],false⟩:=rfl
theorem Zrl:X6 176=some ⟨.int .u8,1,1,[.int .u8 0],false⟩:=rfl
theorem Zrm:X6 178=some ⟨.ptr 5,1,8,[.pointer none],false⟩:=rfl
theorem Zrn:X6 179=some ⟨.int .i32,1,4,[.int .i32 0],false⟩:=rfl
theorem Zro:X6 180=some ⟨.int .i32,1,4,[.int .i32 0],false⟩:=rfl
theorem Zrq:Yg X6 2=some (.int .i64):=rfl
theorem Zrr:Yg X6 3=some (.int .i64):=rfl
theorem Zrs:Yg X6 4=some (.bool):=rfl
theorem Zrt:Yg X6 5=some (.int .u8):=rfl
theorem Zru:Yg X6 6=some (.int .u8):=rfl
theorem Zrv:Yg X6 7=some (.struct [(0,2),(1,3),(2,4),(3,6)]):=rfl
theorem Zrw:Yg X6 8=some (.struct [(0,2),(1,3),(2,4),(3,6)]):=rfl
theorem Zrx:Yg X6 9=some (.str):=rfl
theorem Zmw:Yg X6 10=some (.str):=rfl
theorem Zmx:Yg X6 11=some (.str):=rfl
theorem Zmy:Yg X6 12=some (.int .u64):=rfl
theorem Zmz:Yg X6 13=some (.struct [(0,9),(1,12)]):=rfl
theorem Zm0:Yg X6 14=some (.struct [(0,9),(1,12)]):=rfl
theorem Zm1:Yg X6 15=some (.ptr 171):=rfl
theorem Zm2:Yg X6 16=some (.ptr 174):=rfl
theorem Zm3:Yg X6 17=some (.ptr 182):=rfl
theorem Zm4:Yg X6 18=some (.struct [(0,17)]):=rfl
theorem Zm5:Yg X6 19=some (.struct [(0,17)]):=rfl
theorem Zm6:Yg X6 21=some (.int .i32):=rfl
theorem Zhu:Yg X6 22=some (.slice 71):=rfl
theorem Zax:Yg X6 23=some (.slice 25):=rfl
theorem Zm7:Yg X6 24=some (.struct [(0,3),(1,22),(2,23)]):=rfl
theorem Zm8:Yg X6 25=some (.struct [(0,3),(1,22),(2,23)]):=rfl
theorem Zm9:Yg X6 33=some (.slice 43):=rfl
theorem Zna:Yg X6 35=some (.slice 77):=rfl
theorem Znb:Yg X6 40=some (.arr 3 3):=rfl
theorem Znc:Yg X6 42=some (.struct [(0,3),(1,3)]):=rfl
theorem Znd:Yg X6 43=some (.struct [(0,3),(1,3)]):=rfl
theorem Zne:Yg X6 50=some (.slice 91):=rfl
theorem Znf:Yg X6 51=some (.slice 62):=rfl
theorem Zng:Yg X6 52=some (.slice 64):=rfl
theorem Znh:Yg X6 53=some (.struct [(0,3),(1,25),(4,25),(7,50),(8,51),(9,3),(10,52)]):=rfl
theorem Zni:Yg X6 54=some (.struct [(0,3),(1,25),(4,25),(7,50),(8,51),(9,3),(10,52)]):=rfl
theorem Znj:Yg X6 61=some (.struct [(0,3),(1,54)]):=rfl
theorem Znk:Yg X6 62=some (.struct [(0,3),(1,54)]):=rfl
theorem Znl:Yg X6 63=some (.struct [(0,3),(1,3),(2,23),(3,54)]):=rfl
theorem Znm:Yg X6 64=some (.struct [(0,3),(1,3),(2,23),(3,54)]):=rfl
theorem Znn:Yg X6 71=some (.int .u64):=rfl
theorem Zno:Yg X6 77=some (.struct [(0,3),(1,3)]):=rfl
theorem Znp:Yg X6 78=some (.slice 3):=rfl
theorem Znq:Yg X6 82=some (.slice 86):=rfl
theorem Znr:Yg X6 84=some (.slice 78):=rfl
theorem Zns:Yg X6 85=some (.struct [(0,3),(1,3)]):=rfl
theorem Znt:Yg X6 86=some (.struct [(0,3),(1,3)]):=rfl
theorem Znu:Yg X6 90=some (.struct [(0,3),(1,5),(2,71),(3,71)]):=rfl
theorem Znv:Yg X6 91=some (.struct [(0,3),(1,5),(2,71),(3,71)]):=rfl
theorem Zji:Yg X6 104=some (.slice 111):=rfl
theorem Zjj:Yg X6 105=some (.slice 111):=rfl
theorem Zjk:Yg X6 108=some (.ptr 105):=rfl
theorem Zjl:Yg X6 110=some (.struct [(0,86),(2,3)]):=rfl
theorem Zjm:Yg X6 111=some (.struct [(0,86),(2,3)]):=rfl
theorem Zjn:Yg X6 132=some (.int .u64):=rfl
theorem Zg5:Yg X6 134=some (.arr 8 5):=rfl
theorem Zjo:Yg X6 138=some (.slice 5):=rfl
theorem Zjp:Yg X6 140=some (.ptr 25):=rfl
theorem Zjq:Yg X6 142=some (.struct [(0,23),(1,23)]):=rfl
theorem Zjr:Yg X6 143=some (.struct [(0,23),(1,23)]):=rfl
theorem Zjs:Yg X6 149=some (.int .i64):=rfl
theorem Zjt:Yg X6 156=some (.int .u32):=rfl
theorem Zju:Yg X6 159=some (.ptr 143):=rfl
theorem Zjv:Yg X6 160=some (.arr 6 3):=rfl
theorem Zjw:Yg X6 161=some (.int .u64):=rfl
theorem Zjx:Yg X6 165=some (.ptr 3):=rfl
theorem Zjy:Yg X6 167=some (.ptr 161):=rfl
theorem Zjz:Yg X6 170=some (.struct [(0,17),(1,17),(2,17),(3,9)]):=rfl
theorem Zj0:Yg X6 171=some (.struct [(0,17),(1,17),(2,17),(3,9)]):=rfl
theorem Zj1:Yg X6 175=some (.int .u8):=rfl
theorem Zj2:Yg X6 176=some (.int .u8):=rfl
theorem Zj3:Yg X6 178=some (.ptr 5):=rfl
theorem Zj4:Yg X6 179=some (.int .i32):=rfl
theorem Zj5:Yg X6 180=some (.int .i32):=rfl
end Go.Proofs.Ytmpkfolcikhofaa
