/- The types of this seat's program, as its dump has them, in the ghost memory's words; no condition. -/
import Derived.Test.YtjeakjakgocoaaaRows
import Derived.Test.YtjeakjakgocoaaaG13
namespace Go.Proofs.Ytjeakjakgocoaaa
open Go.RowKit
set_option linter.unusedVariables false
set_option linter.unusedSimpArgs false
theorem TyOk.of {P:Program} {t:TypeId} (k:TK) (size bytes:Nat) (zero:List Value) (z:Value) (h:(P.info? t).map (fun i=>(i.zero,i.size,i.bytes))=some (some z,size,bytes)) (hz:z.cells.toList=zero) (hu:k.ok P t) (hl:zero.length=size) (h1:zero.all Value.oneCell'=true) (eq:Bool) (he:eq=true→Zfw P t):TyOk P t ⟨k,size,bytes,zero,eq⟩:=by
 refine ⟨?_,hu,hl,fun v hv=>List.all_eq_true.1 h1 v hv,he⟩
 cases hi:P.info? t with
 | none=>rw [hi] at h;cases h
 | some i =>
  rw [hi] at h
  simp only [Option.map_some,Option.some.injEq,Prod.mk.injEq] at h
  exact ⟨i,z,rfl,h.2.1,h.2.2,h.1,hz⟩
theorem Zkb {α:Type} {t:Nat} {i:α}:∀ (l:List (Nat×α)),l.lookup t=some i→(t,i)∈l
 | [],h=>by simp at h
 | (a,b)::l,h=>by
  rw [List.lookup_cons] at h
  split at h
  ·rename_i he
   injection h with h
   have:t=a:=by simpa using he
   subst h this
   exact .head _
  exact .tail _ (Zkb l h)
theorem ty2:TyOk Try.prog 2 ⟨.int .i64,1,8,[.int .i64 0],false⟩:=TyOk.of (P:=Try.prog) (t:=2) (.int .i64) 1 8 [.int .i64 0] (.int .i64 0) (by kernel_rfl) rfl Try.underlying2 rfl rfl false (fun h=>by cases h)
theorem ty3:TyOk Try.prog 3 ⟨.int .i64,1,8,[.int .i64 0],false⟩:=TyOk.of (P:=Try.prog) (t:=3) (.int .i64) 1 8 [.int .i64 0] (.int .i64 0) (by kernel_rfl) rfl Try.underlying3 rfl rfl false (fun h=>by cases h)
theorem ty4:TyOk Try.prog 4 ⟨.bool,1,1,[.bool false],false⟩:=TyOk.of (P:=Try.prog) (t:=4) (.bool) 1 1 [.bool false] (.bool false) (by kernel_rfl) rfl Try.underlying4 rfl rfl false (fun h=>by cases h)
theorem ty5:TyOk Try.prog 5 ⟨.int .u8,1,1,[.int .u8 0],false⟩:=TyOk.of (P:=Try.prog) (t:=5) (.int .u8) 1 1 [.int .u8 0] (.int .u8 0) (by kernel_rfl) rfl Try.underlying5 rfl rfl false (fun h=>by cases h)
theorem ty6:TyOk Try.prog 6 ⟨.int .u8,1,1,[.int .u8 0],false⟩:=TyOk.of (P:=Try.prog) (t:=6) (.int .u8) 1 1 [.int .u8 0] (.int .u8 0) (by kernel_rfl) rfl Try.underlying6 rfl rfl false (fun h=>by cases h)
theorem ty7:TyOk Try.prog 7 ⟨.struct [(0,2),(1,3),(2,4),(3,6)],4,24,[.int .i64 0,.int .i64 0,.bool false,.int .u8 0],false⟩:=TyOk.of (P:=Try.prog) (t:=7) (.struct [(0,2),(1,3),(2,4),(3,6)]) 4 24 [.int .i64 0,.int .i64 0,.bool false,.int .u8 0] (.agg #[.int .i64 0,.int .i64 0,.bool false,.int .u8 0]) (by kernel_rfl) rfl ⟨_,Try.underlying7,rfl⟩ rfl rfl false (fun h=>by cases h)
theorem ty8:TyOk Try.prog 8 ⟨.struct [(0,2),(1,3),(2,4),(3,6)],4,24,[.int .i64 0,.int .i64 0,.bool false,.int .u8 0],false⟩:=TyOk.of (P:=Try.prog) (t:=8) (.struct [(0,2),(1,3),(2,4),(3,6)]) 4 24 [.int .i64 0,.int .i64 0,.bool false,.int .u8 0] (.agg #[.int .i64 0,.int .i64 0,.bool false,.int .u8 0]) (by kernel_rfl) rfl ⟨_,Try.underlying8,rfl⟩ rfl rfl false (fun h=>by cases h)
theorem ty9:TyOk Try.prog 9 ⟨.str,1,16,[.string ByteArray.empty],false⟩:=TyOk.of (P:=Try.prog) (t:=9) (.str) 1 16 [.string ByteArray.empty] (.string ByteArray.empty) (by kernel_rfl) rfl Try.underlying9 rfl rfl false (fun h=>by cases h)
theorem Z6n:TyOk Try.prog 10 ⟨.str,1,16,[.string ByteArray.empty],false⟩:=TyOk.of (P:=Try.prog) (t:=10) (.str) 1 16 [.string ByteArray.empty] (.string ByteArray.empty) (by kernel_rfl) rfl Try.underlying10 rfl rfl false (fun h=>by cases h)
theorem Z6o:TyOk Try.prog 11 ⟨.str,1,16,[.string ByteArray.empty],false⟩:=TyOk.of (P:=Try.prog) (t:=11) (.str) 1 16 [.string ByteArray.empty] (.string ByteArray.empty) (by kernel_rfl) rfl Try.underlying11 rfl rfl false (fun h=>by cases h)
theorem Z6p:TyOk Try.prog 12 ⟨.int .u64,1,8,[.int .u64 0],false⟩:=TyOk.of (P:=Try.prog) (t:=12) (.int .u64) 1 8 [.int .u64 0] (.int .u64 0) (by kernel_rfl) rfl Try.underlying12 rfl rfl false (fun h=>by cases h)
theorem Z6q:TyOk Try.prog 13 ⟨.struct [(0,9),(1,12)],2,24,[.string ByteArray.empty,.int .u64 0],false⟩:=TyOk.of (P:=Try.prog) (t:=13) (.struct [(0,9),(1,12)]) 2 24 [.string ByteArray.empty,.int .u64 0] (.agg #[.string ByteArray.empty,.int .u64 0]) (by kernel_rfl) rfl ⟨_,Try.underlying13,rfl⟩ rfl rfl false (fun h=>by cases h)
theorem Z6r:TyOk Try.prog 14 ⟨.struct [(0,9),(1,12)],2,24,[.string ByteArray.empty,.int .u64 0],false⟩:=TyOk.of (P:=Try.prog) (t:=14) (.struct [(0,9),(1,12)]) 2 24 [.string ByteArray.empty,.int .u64 0] (.agg #[.string ByteArray.empty,.int .u64 0]) (by kernel_rfl) rfl ⟨_,Try.underlying14,rfl⟩ rfl rfl false (fun h=>by cases h)
theorem Z6s:TyOk Try.prog 15 ⟨.ptr 263,1,8,[.pointer none],false⟩:=TyOk.of (P:=Try.prog) (t:=15) (.ptr 263) 1 8 [.pointer none] (.pointer none) (by kernel_rfl) rfl Try.underlying15 rfl rfl false (fun h=>by cases h)
theorem Z6t:TyOk Try.prog 16 ⟨.ptr 266,1,8,[.pointer none],false⟩:=TyOk.of (P:=Try.prog) (t:=16) (.ptr 266) 1 8 [.pointer none] (.pointer none) (by kernel_rfl) rfl Try.underlying16 rfl rfl false (fun h=>by cases h)
theorem Z6u:TyOk Try.prog 17 ⟨.ptr 274,1,8,[.pointer none],false⟩:=TyOk.of (P:=Try.prog) (t:=17) (.ptr 274) 1 8 [.pointer none] (.pointer none) (by kernel_rfl) rfl Try.underlying17 rfl rfl false (fun h=>by cases h)
theorem Z6v:TyOk Try.prog 18 ⟨.struct [(0,17)],1,8,[.pointer none],false⟩:=TyOk.of (P:=Try.prog) (t:=18) (.struct [(0,17)]) 1 8 [.pointer none] (.agg #[.pointer none]) (by kernel_rfl) rfl ⟨_,Try.underlying18,rfl⟩ rfl rfl false (fun h=>by cases h)
theorem Z6w:TyOk Try.prog 19 ⟨.struct [(0,17)],1,8,[.pointer none],false⟩:=TyOk.of (P:=Try.prog) (t:=19) (.struct [(0,17)]) 1 8 [.pointer none] (.agg #[.pointer none]) (by kernel_rfl) rfl ⟨_,Try.underlying19,rfl⟩ rfl rfl false (fun h=>by cases h)
theorem Z6x:TyOk Try.prog 21 ⟨.int .i32,1,4,[.int .i32 0],false⟩:=TyOk.of (P:=Try.prog) (t:=21) (.int .i32) 1 4 [.int .i32 0] (.int .i32 0) (by kernel_rfl) rfl Try.underlying21 rfl rfl false (fun h=>by cases h)
theorem Z6y:TyOk Try.prog 22 ⟨.slice 26,1,24,[.slice none 0 0],false⟩:=TyOk.of (P:=Try.prog) (t:=22) (.slice 26) 1 24 [.slice none 0 0] (.slice none 0 0) (by kernel_rfl) rfl Try.underlying22 rfl rfl false (fun h=>by cases h)
theorem Z6z:TyOk Try.prog 23 ⟨.struct [(0,3),(1,3),(2,3),(3,3)],4,32,[.int .i64 0,.int .i64 0,.int .i64 0,.int .i64 0],false⟩:=TyOk.of (P:=Try.prog) (t:=23) (.struct [(0,3),(1,3),(2,3),(3,3)]) 4 32 [.int .i64 0,.int .i64 0,.int .i64 0,.int .i64 0] (.agg #[.int .i64 0,.int .i64 0,.int .i64 0,.int .i64 0]) (by kernel_rfl) rfl ⟨_,Try.underlying23,rfl⟩ rfl rfl false (fun h=>by cases h)
theorem Z60:TyOk Try.prog 24 ⟨.struct [(0,3),(1,3),(2,3),(3,3)],4,32,[.int .i64 0,.int .i64 0,.int .i64 0,.int .i64 0],true⟩:=TyOk.of (P:=Try.prog) (t:=24) (.struct [(0,3),(1,3),(2,3),(3,3)]) 4 32 [.int .i64 0,.int .i64 0,.int .i64 0,.int .i64 0] (.agg #[.int .i64 0,.int .i64 0,.int .i64 0,.int .i64 0]) (by kernel_rfl) rfl ⟨_,Try.underlying24,rfl⟩ rfl rfl true (fun _=>by unfold Zfw;exact ⟨by kernel_rfl,by kernel_rfl,by kernel_rfl⟩)
theorem Z61:TyOk Try.prog 26 ⟨.slice 68,1,24,[.slice none 0 0],false⟩:=TyOk.of (P:=Try.prog) (t:=26) (.slice 68) 1 24 [.slice none 0 0] (.slice none 0 0) (by kernel_rfl) rfl Try.underlying26 rfl rfl false (fun h=>by cases h)
theorem Z62:TyOk Try.prog 27 ⟨.slice 29,1,24,[.slice none 0 0],false⟩:=TyOk.of (P:=Try.prog) (t:=27) (.slice 29) 1 24 [.slice none 0 0] (.slice none 0 0) (by kernel_rfl) rfl Try.underlying27 rfl rfl false (fun h=>by cases h)
theorem Z63:TyOk Try.prog 28 ⟨.struct [(0,3),(1,26),(2,27)],3,56,[.int .i64 0,.slice none 0 0,.slice none 0 0],false⟩:=TyOk.of (P:=Try.prog) (t:=28) (.struct [(0,3),(1,26),(2,27)]) 3 56 [.int .i64 0,.slice none 0 0,.slice none 0 0] (.agg #[.int .i64 0,.slice none 0 0,.slice none 0 0]) (by kernel_rfl) rfl ⟨_,Try.underlying28,rfl⟩ rfl rfl false (fun h=>by cases h)
theorem Z64:TyOk Try.prog 29 ⟨.struct [(0,3),(1,26),(2,27)],3,56,[.int .i64 0,.slice none 0 0,.slice none 0 0],false⟩:=TyOk.of (P:=Try.prog) (t:=29) (.struct [(0,3),(1,26),(2,27)]) 3 56 [.int .i64 0,.slice none 0 0,.slice none 0 0] (.agg #[.int .i64 0,.slice none 0 0,.slice none 0 0]) (by kernel_rfl) rfl ⟨_,Try.underlying29,rfl⟩ rfl rfl false (fun h=>by cases h)
theorem Z65:TyOk Try.prog 30 ⟨.int .i64,1,8,[.int .i64 0],false⟩:=TyOk.of (P:=Try.prog) (t:=30) (.int .i64) 1 8 [.int .i64 0] (.int .i64 0) (by kernel_rfl) rfl Try.underlying30 rfl rfl false (fun h=>by cases h)
theorem Z66:TyOk Try.prog 33 ⟨.ptr 94,1,8,[.pointer none],false⟩:=TyOk.of (P:=Try.prog) (t:=33) (.ptr 94) 1 8 [.pointer none] (.pointer none) (by kernel_rfl) rfl Try.underlying33 rfl rfl false (fun h=>by cases h)
theorem Z67:TyOk Try.prog 53 ⟨.slice 3,1,24,[.slice none 0 0],false⟩:=TyOk.of (P:=Try.prog) (t:=53) (.slice 3) 1 24 [.slice none 0 0] (.slice none 0 0) (by kernel_rfl) rfl Try.underlying53 rfl rfl false (fun h=>by cases h)
theorem Z68:TyOk Try.prog 56 ⟨.struct [(0,33),(1,3),(2,3),(3,3),(4,3),(5,3),(6,3),(7,3),(8,3)],9,72,[.pointer none,.int .i64 0,.int .i64 0,.int .i64 0,.int .i64 0,.int .i64 0,.int .i64 0,.int .i64 0,.int .i64 0],false⟩:=TyOk.of (P:=Try.prog) (t:=56) (.struct [(0,33),(1,3),(2,3),(3,3),(4,3),(5,3),(6,3),(7,3),(8,3)]) 9 72 [.pointer none,.int .i64 0,.int .i64 0,.int .i64 0,.int .i64 0,.int .i64 0,.int .i64 0,.int .i64 0,.int .i64 0] (.agg #[.pointer none,.int .i64 0,.int .i64 0,.int .i64 0,.int .i64 0,.int .i64 0,.int .i64 0,.int .i64 0,.int .i64 0]) (by kernel_rfl) rfl ⟨_,Try.underlying56,rfl⟩ rfl rfl false (fun h=>by cases h)
theorem Z69:TyOk Try.prog 57 ⟨.struct [(0,33),(1,3),(2,3),(3,3),(4,3),(5,3),(6,3),(7,3),(8,3)],9,72,[.pointer none,.int .i64 0,.int .i64 0,.int .i64 0,.int .i64 0,.int .i64 0,.int .i64 0,.int .i64 0,.int .i64 0],false⟩:=TyOk.of (P:=Try.prog) (t:=57) (.struct [(0,33),(1,3),(2,3),(3,3),(4,3),(5,3),(6,3),(7,3),(8,3)]) 9 72 [.pointer none,.int .i64 0,.int .i64 0,.int .i64 0,.int .i64 0,.int .i64 0,.int .i64 0,.int .i64 0,.int .i64 0] (.agg #[.pointer none,.int .i64 0,.int .i64 0,.int .i64 0,.int .i64 0,.int .i64 0,.int .i64 0,.int .i64 0,.int .i64 0]) (by kernel_rfl) rfl ⟨_,Try.underlying57,rfl⟩ rfl rfl false (fun h=>by cases h)
theorem Z7a:TyOk Try.prog 68 ⟨.int .u64,1,8,[.int .u64 0],false⟩:=TyOk.of (P:=Try.prog) (t:=68) (.int .u64) 1 8 [.int .u64 0] (.int .u64 0) (by kernel_rfl) rfl Try.underlying68 rfl rfl false (fun h=>by cases h)
theorem Z7b:TyOk Try.prog 71 ⟨.int .u64,1,8,[.int .u64 0],false⟩:=TyOk.of (P:=Try.prog) (t:=71) (.int .u64) 1 8 [.int .u64 0] (.int .u64 0) (by kernel_rfl) rfl Try.underlying71 rfl rfl false (fun h=>by cases h)
theorem Z7c:TyOk Try.prog 74 ⟨.ptr 137,1,8,[.pointer none],false⟩:=TyOk.of (P:=Try.prog) (t:=74) (.ptr 137) 1 8 [.pointer none] (.pointer none) (by kernel_rfl) rfl Try.underlying74 rfl rfl false (fun h=>by cases h)
theorem Z7d:TyOk Try.prog 82 ⟨.slice 143,1,24,[.slice none 0 0],false⟩:=TyOk.of (P:=Try.prog) (t:=82) (.slice 143) 1 24 [.slice none 0 0] (.slice none 0 0) (by kernel_rfl) rfl Try.underlying82 rfl rfl false (fun h=>by cases h)
theorem Z7e:TyOk Try.prog 83 ⟨.slice 145,1,24,[.slice none 0 0],false⟩:=TyOk.of (P:=Try.prog) (t:=83) (.slice 145) 1 24 [.slice none 0 0] (.slice none 0 0) (by kernel_rfl) rfl Try.underlying83 rfl rfl false (fun h=>by cases h)
theorem Z7f:TyOk Try.prog 84 ⟨.slice 148,1,24,[.slice none 0 0],false⟩:=TyOk.of (P:=Try.prog) (t:=84) (.slice 148) 1 24 [.slice none 0 0] (.slice none 0 0) (by kernel_rfl) rfl Try.underlying84 rfl rfl false (fun h=>by cases h)
theorem Z7g:TyOk Try.prog 85 ⟨.struct [(0,3),(1,29),(4,29),(7,82),(8,83),(9,3),(10,84)],11,200,[.int .i64 0,.int .i64 0,.slice none 0 0,.slice none 0 0,.int .i64 0,.slice none 0 0,.slice none 0 0,.slice none 0 0,.slice none 0 0,.int .i64 0,.slice none 0 0],false⟩:=TyOk.of (P:=Try.prog) (t:=85) (.struct [(0,3),(1,29),(4,29),(7,82),(8,83),(9,3),(10,84)]) 11 200 [.int .i64 0,.int .i64 0,.slice none 0 0,.slice none 0 0,.int .i64 0,.slice none 0 0,.slice none 0 0,.slice none 0 0,.slice none 0 0,.int .i64 0,.slice none 0 0] (.agg #[.int .i64 0,.int .i64 0,.slice none 0 0,.slice none 0 0,.int .i64 0,.slice none 0 0,.slice none 0 0,.slice none 0 0,.slice none 0 0,.int .i64 0,.slice none 0 0]) (by kernel_rfl) rfl ⟨_,Try.underlying85,rfl⟩ rfl rfl false (fun h=>by cases h)
theorem Z7h:TyOk Try.prog 86 ⟨.struct [(0,3),(1,29),(4,29),(7,82),(8,83),(9,3),(10,84)],11,200,[.int .i64 0,.int .i64 0,.slice none 0 0,.slice none 0 0,.int .i64 0,.slice none 0 0,.slice none 0 0,.slice none 0 0,.slice none 0 0,.int .i64 0,.slice none 0 0],false⟩:=TyOk.of (P:=Try.prog) (t:=86) (.struct [(0,3),(1,29),(4,29),(7,82),(8,83),(9,3),(10,84)]) 11 200 [.int .i64 0,.int .i64 0,.slice none 0 0,.slice none 0 0,.int .i64 0,.slice none 0 0,.slice none 0 0,.slice none 0 0,.slice none 0 0,.int .i64 0,.slice none 0 0] (.agg #[.int .i64 0,.int .i64 0,.slice none 0 0,.slice none 0 0,.int .i64 0,.slice none 0 0,.slice none 0 0,.slice none 0 0,.slice none 0 0,.int .i64 0,.slice none 0 0]) (by kernel_rfl) rfl ⟨_,Try.underlying86,rfl⟩ rfl rfl false (fun h=>by cases h)
theorem Z7i:TyOk Try.prog 93 ⟨.struct [(0,22),(1,3),(2,3)],3,40,[.slice none 0 0,.int .i64 0,.int .i64 0],false⟩:=TyOk.of (P:=Try.prog) (t:=93) (.struct [(0,22),(1,3),(2,3)]) 3 40 [.slice none 0 0,.int .i64 0,.int .i64 0] (.agg #[.slice none 0 0,.int .i64 0,.int .i64 0]) (by kernel_rfl) rfl ⟨_,Try.underlying93,rfl⟩ rfl rfl false (fun h=>by cases h)
theorem Z7j:TyOk Try.prog 94 ⟨.struct [(0,22),(1,3),(2,3)],3,40,[.slice none 0 0,.int .i64 0,.int .i64 0],false⟩:=TyOk.of (P:=Try.prog) (t:=94) (.struct [(0,22),(1,3),(2,3)]) 3 40 [.slice none 0 0,.int .i64 0,.int .i64 0] (.agg #[.slice none 0 0,.int .i64 0,.int .i64 0]) (by kernel_rfl) rfl ⟨_,Try.underlying94,rfl⟩ rfl rfl false (fun h=>by cases h)
theorem Z7k:TyOk Try.prog 96 ⟨.struct [(0,26),(1,3)],2,32,[.slice none 0 0,.int .i64 0],false⟩:=TyOk.of (P:=Try.prog) (t:=96) (.struct [(0,26),(1,3)]) 2 32 [.slice none 0 0,.int .i64 0] (.agg #[.slice none 0 0,.int .i64 0]) (by kernel_rfl) rfl ⟨_,Try.underlying96,rfl⟩ rfl rfl false (fun h=>by cases h)
theorem Z7l:TyOk Try.prog 97 ⟨.struct [(0,26),(1,3)],2,32,[.slice none 0 0,.int .i64 0],false⟩:=TyOk.of (P:=Try.prog) (t:=97) (.struct [(0,26),(1,3)]) 2 32 [.slice none 0 0,.int .i64 0] (.agg #[.slice none 0 0,.int .i64 0]) (by kernel_rfl) rfl ⟨_,Try.underlying97,rfl⟩ rfl rfl false (fun h=>by cases h)
theorem Z4j:TyOk Try.prog 105 ⟨.struct [(0,33)],1,8,[.pointer none],false⟩:=TyOk.of (P:=Try.prog) (t:=105) (.struct [(0,33)]) 1 8 [.pointer none] (.agg #[.pointer none]) (by kernel_rfl) rfl ⟨_,Try.underlying105,rfl⟩ rfl rfl false (fun h=>by cases h)
theorem Z4k:TyOk Try.prog 106 ⟨.struct [(0,33)],1,8,[.pointer none],false⟩:=TyOk.of (P:=Try.prog) (t:=106) (.struct [(0,33)]) 1 8 [.pointer none] (.agg #[.pointer none]) (by kernel_rfl) rfl ⟨_,Try.underlying106,rfl⟩ rfl rfl false (fun h=>by cases h)
theorem Z4l:TyOk Try.prog 110 ⟨.ptr 114,1,8,[.pointer none],false⟩:=TyOk.of (P:=Try.prog) (t:=110) (.ptr 114) 1 8 [.pointer none] (.pointer none) (by kernel_rfl) rfl Try.underlying110 rfl rfl false (fun h=>by cases h)
theorem Z4m:TyOk Try.prog 111 ⟨.ptr 118,1,8,[.pointer none],false⟩:=TyOk.of (P:=Try.prog) (t:=111) (.ptr 118) 1 8 [.pointer none] (.pointer none) (by kernel_rfl) rfl Try.underlying111 rfl rfl false (fun h=>by cases h)
theorem Z4n:TyOk Try.prog 113 ⟨.struct [(0,111),(1,4)],2,16,[.pointer none,.bool false],false⟩:=TyOk.of (P:=Try.prog) (t:=113) (.struct [(0,111),(1,4)]) 2 16 [.pointer none,.bool false] (.agg #[.pointer none,.bool false]) (by kernel_rfl) rfl ⟨_,Try.underlying113,rfl⟩ rfl rfl false (fun h=>by cases h)
theorem Z4o:TyOk Try.prog 114 ⟨.struct [(0,111),(1,4)],2,16,[.pointer none,.bool false],false⟩:=TyOk.of (P:=Try.prog) (t:=114) (.struct [(0,111),(1,4)]) 2 16 [.pointer none,.bool false] (.agg #[.pointer none,.bool false]) (by kernel_rfl) rfl ⟨_,Try.underlying114,rfl⟩ rfl rfl false (fun h=>by cases h)
theorem Z4p:TyOk Try.prog 117 ⟨.struct [(0,22),(1,3),(2,3),(3,3)],4,48,[.slice none 0 0,.int .i64 0,.int .i64 0,.int .i64 0],false⟩:=TyOk.of (P:=Try.prog) (t:=117) (.struct [(0,22),(1,3),(2,3),(3,3)]) 4 48 [.slice none 0 0,.int .i64 0,.int .i64 0,.int .i64 0] (.agg #[.slice none 0 0,.int .i64 0,.int .i64 0,.int .i64 0]) (by kernel_rfl) rfl ⟨_,Try.underlying117,rfl⟩ rfl rfl false (fun h=>by cases h)
theorem Z4q:TyOk Try.prog 118 ⟨.struct [(0,22),(1,3),(2,3),(3,3)],4,48,[.slice none 0 0,.int .i64 0,.int .i64 0,.int .i64 0],false⟩:=TyOk.of (P:=Try.prog) (t:=118) (.struct [(0,22),(1,3),(2,3),(3,3)]) 4 48 [.slice none 0 0,.int .i64 0,.int .i64 0,.int .i64 0] (.agg #[.slice none 0 0,.int .i64 0,.int .i64 0,.int .i64 0]) (by kernel_rfl) rfl ⟨_,Try.underlying118,rfl⟩ rfl rfl false (fun h=>by cases h)
theorem Z4r:TyOk Try.prog 119 ⟨.struct [(0,3),(1,3),(2,3),(3,3),(4,3),(5,3),(6,68)],7,56,[.int .i64 0,.int .i64 0,.int .i64 0,.int .i64 0,.int .i64 0,.int .i64 0,.int .u64 0],false⟩:=TyOk.of (P:=Try.prog) (t:=119) (.struct [(0,3),(1,3),(2,3),(3,3),(4,3),(5,3),(6,68)]) 7 56 [.int .i64 0,.int .i64 0,.int .i64 0,.int .i64 0,.int .i64 0,.int .i64 0,.int .u64 0] (.agg #[.int .i64 0,.int .i64 0,.int .i64 0,.int .i64 0,.int .i64 0,.int .i64 0,.int .u64 0]) (by kernel_rfl) rfl ⟨_,Try.underlying119,rfl⟩ rfl rfl false (fun h=>by cases h)
theorem Z4s:TyOk Try.prog 120 ⟨.struct [(0,3),(1,3),(2,3),(3,3),(4,3),(5,3),(6,68)],7,56,[.int .i64 0,.int .i64 0,.int .i64 0,.int .i64 0,.int .i64 0,.int .i64 0,.int .u64 0],true⟩:=TyOk.of (P:=Try.prog) (t:=120) (.struct [(0,3),(1,3),(2,3),(3,3),(4,3),(5,3),(6,68)]) 7 56 [.int .i64 0,.int .i64 0,.int .i64 0,.int .i64 0,.int .i64 0,.int .i64 0,.int .u64 0] (.agg #[.int .i64 0,.int .i64 0,.int .i64 0,.int .i64 0,.int .i64 0,.int .i64 0,.int .u64 0]) (by kernel_rfl) rfl ⟨_,Try.underlying120,rfl⟩ rfl rfl true (fun _=>by unfold Zfw;exact ⟨by kernel_rfl,by kernel_rfl,by kernel_rfl⟩)
theorem Z4t:TyOk Try.prog 128 ⟨.struct [(0,3)],1,8,[.int .i64 0],false⟩:=TyOk.of (P:=Try.prog) (t:=128) (.struct [(0,3)]) 1 8 [.int .i64 0] (.agg #[.int .i64 0]) (by kernel_rfl) rfl ⟨_,Try.underlying128,rfl⟩ rfl rfl false (fun h=>by cases h)
theorem Z4u:TyOk Try.prog 129 ⟨.struct [(0,3)],1,8,[.int .i64 0],true⟩:=TyOk.of (P:=Try.prog) (t:=129) (.struct [(0,3)]) 1 8 [.int .i64 0] (.agg #[.int .i64 0]) (by kernel_rfl) rfl ⟨_,Try.underlying129,rfl⟩ rfl rfl true (fun _=>by unfold Zfw;exact ⟨by kernel_rfl,by kernel_rfl,by kernel_rfl⟩)
theorem Z4v:TyOk Try.prog 130 ⟨.struct [(0,68),(1,3)],2,16,[.int .u64 0,.int .i64 0],false⟩:=TyOk.of (P:=Try.prog) (t:=130) (.struct [(0,68),(1,3)]) 2 16 [.int .u64 0,.int .i64 0] (.agg #[.int .u64 0,.int .i64 0]) (by kernel_rfl) rfl ⟨_,Try.underlying130,rfl⟩ rfl rfl false (fun h=>by cases h)
theorem Z4w:TyOk Try.prog 131 ⟨.struct [(0,68),(1,3)],2,16,[.int .u64 0,.int .i64 0],true⟩:=TyOk.of (P:=Try.prog) (t:=131) (.struct [(0,68),(1,3)]) 2 16 [.int .u64 0,.int .i64 0] (.agg #[.int .u64 0,.int .i64 0]) (by kernel_rfl) rfl ⟨_,Try.underlying131,rfl⟩ rfl rfl true (fun _=>by unfold Zfw;exact ⟨by kernel_rfl,by kernel_rfl,by kernel_rfl⟩)
theorem Z4x:TyOk Try.prog 135 ⟨.slice 139,1,24,[.slice none 0 0],false⟩:=TyOk.of (P:=Try.prog) (t:=135) (.slice 139) 1 24 [.slice none 0 0] (.slice none 0 0) (by kernel_rfl) rfl Try.underlying135 rfl rfl false (fun h=>by cases h)
theorem Z4y:TyOk Try.prog 136 ⟨.struct [(0,135),(1,53)],2,48,[.slice none 0 0,.slice none 0 0],false⟩:=TyOk.of (P:=Try.prog) (t:=136) (.struct [(0,135),(1,53)]) 2 48 [.slice none 0 0,.slice none 0 0] (.agg #[.slice none 0 0,.slice none 0 0]) (by kernel_rfl) rfl ⟨_,Try.underlying136,rfl⟩ rfl rfl false (fun h=>by cases h)
theorem Z4z:TyOk Try.prog 137 ⟨.struct [(0,135),(1,53)],2,48,[.slice none 0 0,.slice none 0 0],false⟩:=TyOk.of (P:=Try.prog) (t:=137) (.struct [(0,135),(1,53)]) 2 48 [.slice none 0 0,.slice none 0 0] (.agg #[.slice none 0 0,.slice none 0 0]) (by kernel_rfl) rfl ⟨_,Try.underlying137,rfl⟩ rfl rfl false (fun h=>by cases h)
theorem Z40:TyOk Try.prog 138 ⟨.struct [(0,68),(1,57)],10,80,[.int .u64 0,.pointer none,.int .i64 0,.int .i64 0,.int .i64 0,.int .i64 0,.int .i64 0,.int .i64 0,.int .i64 0,.int .i64 0],false⟩:=TyOk.of (P:=Try.prog) (t:=138) (.struct [(0,68),(1,57)]) 10 80 [.int .u64 0,.pointer none,.int .i64 0,.int .i64 0,.int .i64 0,.int .i64 0,.int .i64 0,.int .i64 0,.int .i64 0,.int .i64 0] (.agg #[.int .u64 0,.pointer none,.int .i64 0,.int .i64 0,.int .i64 0,.int .i64 0,.int .i64 0,.int .i64 0,.int .i64 0,.int .i64 0]) (by kernel_rfl) rfl ⟨_,Try.underlying138,rfl⟩ rfl rfl false (fun h=>by cases h)
theorem Z41:TyOk Try.prog 139 ⟨.struct [(0,68),(1,57)],10,80,[.int .u64 0,.pointer none,.int .i64 0,.int .i64 0,.int .i64 0,.int .i64 0,.int .i64 0,.int .i64 0,.int .i64 0,.int .i64 0],false⟩:=TyOk.of (P:=Try.prog) (t:=139) (.struct [(0,68),(1,57)]) 10 80 [.int .u64 0,.pointer none,.int .i64 0,.int .i64 0,.int .i64 0,.int .i64 0,.int .i64 0,.int .i64 0,.int .i64 0,.int .i64 0] (.agg #[.int .u64 0,.pointer none,.int .i64 0,.int .i64 0,.int .i64 0,.int .i64 0,.int .i64 0,.int .i64 0,.int .i64 0,.int .i64 0]) (by kernel_rfl) rfl ⟨_,Try.underlying139,rfl⟩ rfl rfl false (fun h=>by cases h)
theorem Z42:TyOk Try.prog 142 ⟨.struct [(0,3),(1,5),(2,68),(3,68)],4,32,[.int .i64 0,.int .u8 0,.int .u64 0,.int .u64 0],false⟩:=TyOk.of (P:=Try.prog) (t:=142) (.struct [(0,3),(1,5),(2,68),(3,68)]) 4 32 [.int .i64 0,.int .u8 0,.int .u64 0,.int .u64 0] (.agg #[.int .i64 0,.int .u8 0,.int .u64 0,.int .u64 0]) (by kernel_rfl) rfl ⟨_,Try.underlying142,rfl⟩ rfl rfl false (fun h=>by cases h)
theorem Z43:TyOk Try.prog 143 ⟨.struct [(0,3),(1,5),(2,68),(3,68)],4,32,[.int .i64 0,.int .u8 0,.int .u64 0,.int .u64 0],true⟩:=TyOk.of (P:=Try.prog) (t:=143) (.struct [(0,3),(1,5),(2,68),(3,68)]) 4 32 [.int .i64 0,.int .u8 0,.int .u64 0,.int .u64 0] (.agg #[.int .i64 0,.int .u8 0,.int .u64 0,.int .u64 0]) (by kernel_rfl) rfl ⟨_,Try.underlying143,rfl⟩ rfl rfl true (fun _=>by unfold Zfw;exact ⟨by kernel_rfl,by kernel_rfl,by kernel_rfl⟩)
theorem Z44:TyOk Try.prog 144 ⟨.struct [(0,3),(1,86)],12,208,[.int .i64 0,.int .i64 0,.int .i64 0,.slice none 0 0,.slice none 0 0,.int .i64 0,.slice none 0 0,.slice none 0 0,.slice none 0 0,.slice none 0 0,.int .i64 0,.slice none 0 0],false⟩:=TyOk.of (P:=Try.prog) (t:=144) (.struct [(0,3),(1,86)]) 12 208 [.int .i64 0,.int .i64 0,.int .i64 0,.slice none 0 0,.slice none 0 0,.int .i64 0,.slice none 0 0,.slice none 0 0,.slice none 0 0,.slice none 0 0,.int .i64 0,.slice none 0 0] (.agg #[.int .i64 0,.int .i64 0,.int .i64 0,.slice none 0 0,.slice none 0 0,.int .i64 0,.slice none 0 0,.slice none 0 0,.slice none 0 0,.slice none 0 0,.int .i64 0,.slice none 0 0]) (by kernel_rfl) rfl ⟨_,Try.underlying144,rfl⟩ rfl rfl false (fun h=>by cases h)
theorem Z45:TyOk Try.prog 145 ⟨.struct [(0,3),(1,86)],12,208,[.int .i64 0,.int .i64 0,.int .i64 0,.slice none 0 0,.slice none 0 0,.int .i64 0,.slice none 0 0,.slice none 0 0,.slice none 0 0,.slice none 0 0,.int .i64 0,.slice none 0 0],false⟩:=TyOk.of (P:=Try.prog) (t:=145) (.struct [(0,3),(1,86)]) 12 208 [.int .i64 0,.int .i64 0,.int .i64 0,.slice none 0 0,.slice none 0 0,.int .i64 0,.slice none 0 0,.slice none 0 0,.slice none 0 0,.slice none 0 0,.int .i64 0,.slice none 0 0] (.agg #[.int .i64 0,.int .i64 0,.int .i64 0,.slice none 0 0,.slice none 0 0,.int .i64 0,.slice none 0 0,.slice none 0 0,.slice none 0 0,.slice none 0 0,.int .i64 0,.slice none 0 0]) (by kernel_rfl) rfl ⟨_,Try.underlying145,rfl⟩ rfl rfl false (fun h=>by cases h)
theorem Z46:TyOk Try.prog 147 ⟨.struct [(0,3),(1,3),(2,27),(3,86)],14,240,[.int .i64 0,.int .i64 0,.slice none 0 0,.int .i64 0,.int .i64 0,.slice none 0 0,.slice none 0 0,.int .i64 0,.slice none 0 0,.slice none 0 0,.slice none 0 0,.slice none 0 0,.int .i64 0,.slice none 0 0],false⟩:=TyOk.of (P:=Try.prog) (t:=147) (.struct [(0,3),(1,3),(2,27),(3,86)]) 14 240 [.int .i64 0,.int .i64 0,.slice none 0 0,.int .i64 0,.int .i64 0,.slice none 0 0,.slice none 0 0,.int .i64 0,.slice none 0 0,.slice none 0 0,.slice none 0 0,.slice none 0 0,.int .i64 0,.slice none 0 0] (.agg #[.int .i64 0,.int .i64 0,.slice none 0 0,.int .i64 0,.int .i64 0,.slice none 0 0,.slice none 0 0,.int .i64 0,.slice none 0 0,.slice none 0 0,.slice none 0 0,.slice none 0 0,.int .i64 0,.slice none 0 0]) (by kernel_rfl) rfl ⟨_,Try.underlying147,rfl⟩ rfl rfl false (fun h=>by cases h)
theorem Z47:TyOk Try.prog 148 ⟨.struct [(0,3),(1,3),(2,27),(3,86)],14,240,[.int .i64 0,.int .i64 0,.slice none 0 0,.int .i64 0,.int .i64 0,.slice none 0 0,.slice none 0 0,.int .i64 0,.slice none 0 0,.slice none 0 0,.slice none 0 0,.slice none 0 0,.int .i64 0,.slice none 0 0],false⟩:=TyOk.of (P:=Try.prog) (t:=148) (.struct [(0,3),(1,3),(2,27),(3,86)]) 14 240 [.int .i64 0,.int .i64 0,.slice none 0 0,.int .i64 0,.int .i64 0,.slice none 0 0,.slice none 0 0,.int .i64 0,.slice none 0 0,.slice none 0 0,.slice none 0 0,.slice none 0 0,.int .i64 0,.slice none 0 0] (.agg #[.int .i64 0,.int .i64 0,.slice none 0 0,.int .i64 0,.int .i64 0,.slice none 0 0,.slice none 0 0,.int .i64 0,.slice none 0 0,.slice none 0 0,.slice none 0 0,.slice none 0 0,.int .i64 0,.slice none 0 0]) (by kernel_rfl) rfl ⟨_,Try.underlying148,rfl⟩ rfl rfl false (fun h=>by cases h)
theorem Z48:TyOk Try.prog 149 ⟨.struct [(0,4),(1,3)],2,16,[.bool false,.int .i64 0],false⟩:=TyOk.of (P:=Try.prog) (t:=149) (.struct [(0,4),(1,3)]) 2 16 [.bool false,.int .i64 0] (.agg #[.bool false,.int .i64 0]) (by kernel_rfl) rfl ⟨_,Try.underlying149,rfl⟩ rfl rfl false (fun h=>by cases h)
theorem Z49:TyOk Try.prog 150 ⟨.struct [(0,4),(1,3)],2,16,[.bool false,.int .i64 0],true⟩:=TyOk.of (P:=Try.prog) (t:=150) (.struct [(0,4),(1,3)]) 2 16 [.bool false,.int .i64 0] (.agg #[.bool false,.int .i64 0]) (by kernel_rfl) rfl ⟨_,Try.underlying150,rfl⟩ rfl rfl true (fun _=>by unfold Zfw;exact ⟨by kernel_rfl,by kernel_rfl,by kernel_rfl⟩)
theorem Z5a:TyOk Try.prog 152 ⟨.struct [(0,3)],1,8,[.int .i64 0],false⟩:=TyOk.of (P:=Try.prog) (t:=152) (.struct [(0,3)]) 1 8 [.int .i64 0] (.agg #[.int .i64 0]) (by kernel_rfl) rfl ⟨_,Try.underlying152,rfl⟩ rfl rfl false (fun h=>by cases h)
theorem Z5b:TyOk Try.prog 153 ⟨.struct [(0,3)],1,8,[.int .i64 0],true⟩:=TyOk.of (P:=Try.prog) (t:=153) (.struct [(0,3)]) 1 8 [.int .i64 0] (.agg #[.int .i64 0]) (by kernel_rfl) rfl ⟨_,Try.underlying153,rfl⟩ rfl rfl true (fun _=>by unfold Zfw;exact ⟨by kernel_rfl,by kernel_rfl,by kernel_rfl⟩)
theorem Z5c:TyOk Try.prog 155 ⟨.struct [(0,3)],1,8,[.int .i64 0],false⟩:=TyOk.of (P:=Try.prog) (t:=155) (.struct [(0,3)]) 1 8 [.int .i64 0] (.agg #[.int .i64 0]) (by kernel_rfl) rfl ⟨_,Try.underlying155,rfl⟩ rfl rfl false (fun h=>by cases h)
theorem Z5d:TyOk Try.prog 156 ⟨.struct [(0,3)],1,8,[.int .i64 0],true⟩:=TyOk.of (P:=Try.prog) (t:=156) (.struct [(0,3)]) 1 8 [.int .i64 0] (.agg #[.int .i64 0]) (by kernel_rfl) rfl ⟨_,Try.underlying156,rfl⟩ rfl rfl true (fun _=>by unfold Zfw;exact ⟨by kernel_rfl,by kernel_rfl,by kernel_rfl⟩)
theorem Z5e:TyOk Try.prog 159 ⟨.ptr 97,1,8,[.pointer none],false⟩:=TyOk.of (P:=Try.prog) (t:=159) (.ptr 97) 1 8 [.pointer none] (.pointer none) (by kernel_rfl) rfl Try.underlying159 rfl rfl false (fun h=>by cases h)
theorem Z5f:TyOk Try.prog 160 ⟨.struct [(0,3),(1,3),(2,3),(3,3),(4,3),(5,3),(6,3),(7,4)],8,64,[.int .i64 0,.int .i64 0,.int .i64 0,.int .i64 0,.int .i64 0,.int .i64 0,.int .i64 0,.bool false],false⟩:=TyOk.of (P:=Try.prog) (t:=160) (.struct [(0,3),(1,3),(2,3),(3,3),(4,3),(5,3),(6,3),(7,4)]) 8 64 [.int .i64 0,.int .i64 0,.int .i64 0,.int .i64 0,.int .i64 0,.int .i64 0,.int .i64 0,.bool false] (.agg #[.int .i64 0,.int .i64 0,.int .i64 0,.int .i64 0,.int .i64 0,.int .i64 0,.int .i64 0,.bool false]) (by kernel_rfl) rfl ⟨_,Try.underlying160,rfl⟩ rfl rfl false (fun h=>by cases h)
theorem Z5g:TyOk Try.prog 161 ⟨.struct [(0,3),(1,3),(2,3),(3,3),(4,3),(5,3),(6,3),(7,4)],8,64,[.int .i64 0,.int .i64 0,.int .i64 0,.int .i64 0,.int .i64 0,.int .i64 0,.int .i64 0,.bool false],true⟩:=TyOk.of (P:=Try.prog) (t:=161) (.struct [(0,3),(1,3),(2,3),(3,3),(4,3),(5,3),(6,3),(7,4)]) 8 64 [.int .i64 0,.int .i64 0,.int .i64 0,.int .i64 0,.int .i64 0,.int .i64 0,.int .i64 0,.bool false] (.agg #[.int .i64 0,.int .i64 0,.int .i64 0,.int .i64 0,.int .i64 0,.int .i64 0,.int .i64 0,.bool false]) (by kernel_rfl) rfl ⟨_,Try.underlying161,rfl⟩ rfl rfl true (fun _=>by unfold Zfw;exact ⟨by kernel_rfl,by kernel_rfl,by kernel_rfl⟩)
theorem Z5h:TyOk Try.prog 177 ⟨.struct [(0,3),(1,3),(2,3),(3,3),(4,3),(5,3),(6,3),(7,4)],8,64,[.int .i64 0,.int .i64 0,.int .i64 0,.int .i64 0,.int .i64 0,.int .i64 0,.int .i64 0,.bool false],true⟩:=TyOk.of (P:=Try.prog) (t:=177) (.struct [(0,3),(1,3),(2,3),(3,3),(4,3),(5,3),(6,3),(7,4)]) 8 64 [.int .i64 0,.int .i64 0,.int .i64 0,.int .i64 0,.int .i64 0,.int .i64 0,.int .i64 0,.bool false] (.agg #[.int .i64 0,.int .i64 0,.int .i64 0,.int .i64 0,.int .i64 0,.int .i64 0,.int .i64 0,.bool false]) (by kernel_rfl) rfl ⟨_,Try.underlying177,rfl⟩ rfl rfl true (fun _=>by unfold Zfw;exact ⟨by kernel_rfl,by kernel_rfl,by kernel_rfl⟩)
theorem Z5i:TyOk Try.prog 178 ⟨.struct [(0,177),(8,3),(9,3)],10,80,[.int .i64 0,.int .i64 0,.int .i64 0,.int .i64 0,.int .i64 0,.int .i64 0,.int .i64 0,.bool false,.int .i64 0,.int .i64 0],false⟩:=TyOk.of (P:=Try.prog) (t:=178) (.struct [(0,177),(8,3),(9,3)]) 10 80 [.int .i64 0,.int .i64 0,.int .i64 0,.int .i64 0,.int .i64 0,.int .i64 0,.int .i64 0,.bool false,.int .i64 0,.int .i64 0] (.agg #[.int .i64 0,.int .i64 0,.int .i64 0,.int .i64 0,.int .i64 0,.int .i64 0,.int .i64 0,.bool false,.int .i64 0,.int .i64 0]) (by kernel_rfl) rfl ⟨_,Try.underlying178,rfl⟩ rfl rfl false (fun h=>by cases h)
theorem Z5j:TyOk Try.prog 179 ⟨.struct [(0,177),(8,3),(9,3)],10,80,[.int .i64 0,.int .i64 0,.int .i64 0,.int .i64 0,.int .i64 0,.int .i64 0,.int .i64 0,.bool false,.int .i64 0,.int .i64 0],true⟩:=TyOk.of (P:=Try.prog) (t:=179) (.struct [(0,177),(8,3),(9,3)]) 10 80 [.int .i64 0,.int .i64 0,.int .i64 0,.int .i64 0,.int .i64 0,.int .i64 0,.int .i64 0,.bool false,.int .i64 0,.int .i64 0] (.agg #[.int .i64 0,.int .i64 0,.int .i64 0,.int .i64 0,.int .i64 0,.int .i64 0,.int .i64 0,.bool false,.int .i64 0,.int .i64 0]) (by kernel_rfl) rfl ⟨_,Try.underlying179,rfl⟩ rfl rfl true (fun _=>by unfold Zfw;exact ⟨by kernel_rfl,by kernel_rfl,by kernel_rfl⟩)
theorem Z5k:TyOk Try.prog 185 ⟨.struct [(0,3)],1,8,[.int .i64 0],false⟩:=TyOk.of (P:=Try.prog) (t:=185) (.struct [(0,3)]) 1 8 [.int .i64 0] (.agg #[.int .i64 0]) (by kernel_rfl) rfl ⟨_,Try.underlying185,rfl⟩ rfl rfl false (fun h=>by cases h)
theorem Z5l:TyOk Try.prog 186 ⟨.struct [(0,3)],1,8,[.int .i64 0],true⟩:=TyOk.of (P:=Try.prog) (t:=186) (.struct [(0,3)]) 1 8 [.int .i64 0] (.agg #[.int .i64 0]) (by kernel_rfl) rfl ⟨_,Try.underlying186,rfl⟩ rfl rfl true (fun _=>by unfold Zfw;exact ⟨by kernel_rfl,by kernel_rfl,by kernel_rfl⟩)
theorem Z5m:TyOk Try.prog 188 ⟨.struct [(0,26),(1,3)],2,32,[.slice none 0 0,.int .i64 0],false⟩:=TyOk.of (P:=Try.prog) (t:=188) (.struct [(0,26),(1,3)]) 2 32 [.slice none 0 0,.int .i64 0] (.agg #[.slice none 0 0,.int .i64 0]) (by kernel_rfl) rfl ⟨_,Try.underlying188,rfl⟩ rfl rfl false (fun h=>by cases h)
theorem Z5n:TyOk Try.prog 189 ⟨.struct [(0,26),(1,3)],2,32,[.slice none 0 0,.int .i64 0],false⟩:=TyOk.of (P:=Try.prog) (t:=189) (.struct [(0,26),(1,3)]) 2 32 [.slice none 0 0,.int .i64 0] (.agg #[.slice none 0 0,.int .i64 0]) (by kernel_rfl) rfl ⟨_,Try.underlying189,rfl⟩ rfl rfl false (fun h=>by cases h)
theorem Z5o:TyOk Try.prog 191 ⟨.struct [(0,161),(8,3),(9,3)],10,80,[.int .i64 0,.int .i64 0,.int .i64 0,.int .i64 0,.int .i64 0,.int .i64 0,.int .i64 0,.bool false,.int .i64 0,.int .i64 0],false⟩:=TyOk.of (P:=Try.prog) (t:=191) (.struct [(0,161),(8,3),(9,3)]) 10 80 [.int .i64 0,.int .i64 0,.int .i64 0,.int .i64 0,.int .i64 0,.int .i64 0,.int .i64 0,.bool false,.int .i64 0,.int .i64 0] (.agg #[.int .i64 0,.int .i64 0,.int .i64 0,.int .i64 0,.int .i64 0,.int .i64 0,.int .i64 0,.bool false,.int .i64 0,.int .i64 0]) (by kernel_rfl) rfl ⟨_,Try.underlying191,rfl⟩ rfl rfl false (fun h=>by cases h)
theorem Z5p:TyOk Try.prog 192 ⟨.struct [(0,161),(8,3),(9,3)],10,80,[.int .i64 0,.int .i64 0,.int .i64 0,.int .i64 0,.int .i64 0,.int .i64 0,.int .i64 0,.bool false,.int .i64 0,.int .i64 0],true⟩:=TyOk.of (P:=Try.prog) (t:=192) (.struct [(0,161),(8,3),(9,3)]) 10 80 [.int .i64 0,.int .i64 0,.int .i64 0,.int .i64 0,.int .i64 0,.int .i64 0,.int .i64 0,.bool false,.int .i64 0,.int .i64 0] (.agg #[.int .i64 0,.int .i64 0,.int .i64 0,.int .i64 0,.int .i64 0,.int .i64 0,.int .i64 0,.bool false,.int .i64 0,.int .i64 0]) (by kernel_rfl) rfl ⟨_,Try.underlying192,rfl⟩ rfl rfl true (fun _=>by unfold Zfw;exact ⟨by kernel_rfl,by kernel_rfl,by kernel_rfl⟩)
theorem Z5q:TyOk Try.prog 198 ⟨.ptr 129,1,8,[.pointer none],false⟩:=TyOk.of (P:=Try.prog) (t:=198) (.ptr 129) 1 8 [.pointer none] (.pointer none) (by kernel_rfl) rfl Try.underlying198 rfl rfl false (fun h=>by cases h)
theorem Z5r:TyOk Try.prog 201 ⟨.ptr 131,1,8,[.pointer none],false⟩:=TyOk.of (P:=Try.prog) (t:=201) (.ptr 131) 1 8 [.pointer none] (.pointer none) (by kernel_rfl) rfl Try.underlying201 rfl rfl false (fun h=>by cases h)
theorem Z5s:TyOk Try.prog 216 ⟨.ptr 153,1,8,[.pointer none],false⟩:=TyOk.of (P:=Try.prog) (t:=216) (.ptr 153) 1 8 [.pointer none] (.pointer none) (by kernel_rfl) rfl Try.underlying216 rfl rfl false (fun h=>by cases h)
theorem Z5t:TyOk Try.prog 217 ⟨.ptr 156,1,8,[.pointer none],false⟩:=TyOk.of (P:=Try.prog) (t:=217) (.ptr 156) 1 8 [.pointer none] (.pointer none) (by kernel_rfl) rfl Try.underlying217 rfl rfl false (fun h=>by cases h)
theorem Z5u:TyOk Try.prog 235 ⟨.ptr 186,1,8,[.pointer none],false⟩:=TyOk.of (P:=Try.prog) (t:=235) (.ptr 186) 1 8 [.pointer none] (.pointer none) (by kernel_rfl) rfl Try.underlying235 rfl rfl false (fun h=>by cases h)
theorem Z5v:TyOk Try.prog 236 ⟨.ptr 189,1,8,[.pointer none],false⟩:=TyOk.of (P:=Try.prog) (t:=236) (.ptr 189) 1 8 [.pointer none] (.pointer none) (by kernel_rfl) rfl Try.underlying236 rfl rfl false (fun h=>by cases h)
theorem Z5w:TyOk Try.prog 243 ⟨.slice 150,1,24,[.slice none 0 0],false⟩:=TyOk.of (P:=Try.prog) (t:=243) (.slice 150) 1 24 [.slice none 0 0] (.slice none 0 0) (by kernel_rfl) rfl Try.underlying243 rfl rfl false (fun h=>by cases h)
theorem Z5x:TyOk Try.prog 246 ⟨.arr 7 3,7,56,[.int .i64 0,.int .i64 0,.int .i64 0,.int .i64 0,.int .i64 0,.int .i64 0,.int .i64 0],false⟩:=TyOk.of (P:=Try.prog) (t:=246) (.arr 7 3) 7 56 [.int .i64 0,.int .i64 0,.int .i64 0,.int .i64 0,.int .i64 0,.int .i64 0,.int .i64 0] (.agg #[.int .i64 0,.int .i64 0,.int .i64 0,.int .i64 0,.int .i64 0,.int .i64 0,.int .i64 0]) (by kernel_rfl) rfl Try.underlying246 rfl rfl false (fun h=>by cases h)
theorem Z5y:TyOk Try.prog 247 ⟨.int .u32,1,4,[.int .u32 0],false⟩:=TyOk.of (P:=Try.prog) (t:=247) (.int .u32) 1 4 [.int .u32 0] (.int .u32 0) (by kernel_rfl) rfl Try.underlying247 rfl rfl false (fun h=>by cases h)
theorem Z5z:TyOk Try.prog 255 ⟨.arr 6 3,6,48,[.int .i64 0,.int .i64 0,.int .i64 0,.int .i64 0,.int .i64 0,.int .i64 0],false⟩:=TyOk.of (P:=Try.prog) (t:=255) (.arr 6 3) 6 48 [.int .i64 0,.int .i64 0,.int .i64 0,.int .i64 0,.int .i64 0,.int .i64 0] (.agg #[.int .i64 0,.int .i64 0,.int .i64 0,.int .i64 0,.int .i64 0,.int .i64 0]) (by kernel_rfl) rfl Try.underlying255 rfl rfl false (fun h=>by cases h)
theorem Z50:TyOk Try.prog 256 ⟨.arr 8 5,8,8,[.int .u8 0,.int .u8 0,.int .u8 0,.int .u8 0,.int .u8 0,.int .u8 0,.int .u8 0,.int .u8 0],false⟩:=TyOk.of (P:=Try.prog) (t:=256) (.arr 8 5) 8 8 [.int .u8 0,.int .u8 0,.int .u8 0,.int .u8 0,.int .u8 0,.int .u8 0,.int .u8 0,.int .u8 0] (.agg #[.int .u8 0,.int .u8 0,.int .u8 0,.int .u8 0,.int .u8 0,.int .u8 0,.int .u8 0,.int .u8 0]) (by kernel_rfl) rfl Try.underlying256 rfl rfl false (fun h=>by cases h)
theorem Z51:TyOk Try.prog 260 ⟨.slice 5,1,24,[.slice none 0 0],false⟩:=TyOk.of (P:=Try.prog) (t:=260) (.slice 5) 1 24 [.slice none 0 0] (.slice none 0 0) (by kernel_rfl) rfl Try.underlying260 rfl rfl false (fun h=>by cases h)
theorem Z52:TyOk Try.prog 262 ⟨.struct [(0,17),(1,17),(2,17),(3,9)],4,40,[.pointer none,.pointer none,.pointer none,.string ByteArray.empty],false⟩:=TyOk.of (P:=Try.prog) (t:=262) (.struct [(0,17),(1,17),(2,17),(3,9)]) 4 40 [.pointer none,.pointer none,.pointer none,.string ByteArray.empty] (.agg #[.pointer none,.pointer none,.pointer none,.string ByteArray.empty]) (by kernel_rfl) rfl ⟨_,Try.underlying262,rfl⟩ rfl rfl false (fun h=>by cases h)
theorem Z53:TyOk Try.prog 263 ⟨.struct [(0,17),(1,17),(2,17),(3,9)],4,40,[.pointer none,.pointer none,.pointer none,.string ByteArray.empty],false⟩:=TyOk.of (P:=Try.prog) (t:=263) (.struct [(0,17),(1,17),(2,17),(3,9)]) 4 40 [.pointer none,.pointer none,.pointer none,.string ByteArray.empty] (.agg #[.pointer none,.pointer none,.pointer none,.string ByteArray.empty]) (by kernel_rfl) rfl ⟨_,Try.underlying263,rfl⟩ rfl rfl false (fun h=>by cases h)
theorem Z54:TyOk Try.prog 267 ⟨.int .u8,1,1,[.int .u8 0],false⟩:=TyOk.of (P:=Try.prog) (t:=267) (.int .u8) 1 1 [.int .u8 0] (.int .u8 0) (by kernel_rfl) rfl Try.underlying267 rfl rfl false (fun h=>by cases h)
theorem Z55:TyOk Try.prog 268 ⟨.int .u8,1,1,[.int .u8 0],false⟩:=TyOk.of (P:=Try.prog) (t:=268) (.int .u8) 1 1 [.int .u8 0] (.int .u8 0) (by kernel_rfl) rfl Try.underlying268 rfl rfl false (fun h=>by cases h)
theorem Z56:TyOk Try.prog 270 ⟨.ptr 5,1,8,[.pointer none],false⟩:=TyOk.of (P:=Try.prog) (t:=270) (.ptr 5) 1 8 [.pointer none] (.pointer none) (by kernel_rfl) rfl Try.underlying270 rfl rfl false (fun h=>by cases h)
theorem Z57:TyOk Try.prog 271 ⟨.int .i32,1,4,[.int .i32 0],false⟩:=TyOk.of (P:=Try.prog) (t:=271) (.int .i32) 1 4 [.int .i32 0] (.int .i32 0) (by kernel_rfl) rfl Try.underlying271 rfl rfl false (fun h=>by cases h)
theorem Z58:TyOk Try.prog 272 ⟨.int .i32,1,4,[.int .i32 0],false⟩:=TyOk.of (P:=Try.prog) (t:=272) (.int .i32) 1 4 [.int .i32 0] (.int .i32 0) (by kernel_rfl) rfl Try.underlying272 rfl rfl false (fun h=>by cases h)
def tabL:List (Nat×TyI):=[(2,⟨.int .i64,1,8,[.int .i64 0],false⟩),
 (3,⟨.int .i64,1,8,[.int .i64 0],false⟩),
 (4,⟨.bool,1,1,[.bool false],false⟩),
 (5,⟨.int .u8,1,1,[.int .u8 0],false⟩),
 (6,⟨.int .u8,1,1,[.int .u8 0],false⟩),
 (7,⟨.struct [(0,2),(1,3),(2,4),(3,6)],4,24,[.int .i64 0,.int .i64 0,.bool false,.int .u8 0],false⟩),
 (8,⟨.struct [(0,2),(1,3),(2,4),(3,6)],4,24,[.int .i64 0,.int .i64 0,.bool false,.int .u8 0],false⟩),
 (9,⟨.str,1,16,[.string ByteArray.empty],false⟩),
 (10,⟨.str,1,16,[.string ByteArray.empty],false⟩),
 (11,⟨.str,1,16,[.string ByteArray.empty],false⟩),
 (12,⟨.int .u64,1,8,[.int .u64 0],false⟩),
 (13,⟨.struct [(0,9),(1,12)],2,24,[.string ByteArray.empty,.int .u64 0],false⟩),
 (14,⟨.struct [(0,9),(1,12)],2,24,[.string ByteArray.empty,.int .u64 0],false⟩),
 (15,⟨.ptr 263,1,8,[.pointer none],false⟩),
 (16,⟨.ptr 266,1,8,[.pointer none],false⟩),
 (17,⟨.ptr 274,1,8,[.pointer none],false⟩),
 (18,⟨.struct [(0,17)],1,8,[.pointer none],false⟩),
 (19,⟨.struct [(0,17)],1,8,[.pointer none],false⟩),
 (21,⟨.int .i32,1,4,[.int .i32 0],false⟩),
 (22,⟨.slice 26,1,24,[.slice none 0 0],false⟩),
 (23,⟨.struct [(0,3),(1,3),(2,3),(3,3)],4,32,[.int .i64 0,.int .i64 0,.int .i64 0,.int .i64 0],false⟩),
 (24,⟨.struct [(0,3),(1,3),(2,3),(3,3)],4,32,[.int .i64 0,.int .i64 0,.int .i64 0,.int .i64 0],true⟩),
 (26,⟨.slice 68,1,24,[.slice none 0 0],false⟩),
 (27,⟨.slice 29,1,24,[.slice none 0 0],false⟩),
 (28,⟨.struct [(0,3),(1,26),(2,27)],3,56,[.int .i64 0,.slice none 0 0,.slice none 0 0],false⟩),
 (29,⟨.struct [(0,3),(1,26),(2,27)],3,56,[.int .i64 0,.slice none 0 0,.slice none 0 0],false⟩),
 (30,⟨.int .i64,1,8,[.int .i64 0],false⟩),
 (33,⟨.ptr 94,1,8,[.pointer none],false⟩),
 (53,⟨.slice 3,1,24,[.slice none 0 0],false⟩),
 (56,⟨.struct [(0,33),(1,3),(2,3),(3,3),(4,3),(5,3),(6,3),(7,3),(8,3)],9,72,[.pointer none,.int .i64 0,.int .i64 0,.int .i64 0,.int .i64 0,.int .i64 0,.int .i64 0,.int .i64 0,.int .i64 0],false⟩),
 (57,⟨.struct [(0,33),(1,3),(2,3),(3,3),(4,3),(5,3),(6,3),(7,3),(8,3)],9,72,[.pointer none,.int .i64 0,.int .i64 0,.int .i64 0,.int .i64 0,.int .i64 0,.int .i64 0,.int .i64 0,.int .i64 0],false⟩),
 (68,⟨.int .u64,1,8,[.int .u64 0],false⟩),
 (71,⟨.int .u64,1,8,[.int .u64 0],false⟩),
 (74,⟨.ptr 137,1,8,[.pointer none],false⟩),
 (82,⟨.slice 143,1,24,[.slice none 0 0],false⟩),
 (83,⟨.slice 145,1,24,[.slice none 0 0],false⟩),
 (84,⟨.slice 148,1,24,[.slice none 0 0],false⟩),
 (85,⟨.struct [(0,3),(1,29),(4,29),(7,82),(8,83),(9,3),(10,84)],11,200,[.int .i64 0,.int .i64 0,.slice none 0 0,.slice none 0 0,.int .i64 0,.slice none 0 0,.slice none 0 0,.slice none 0 0,.slice none 0 0,.int .i64 0,.slice none 0 0],false⟩),
 (86,⟨.struct [(0,3),(1,29),(4,29),(7,82),(8,83),(9,3),(10,84)],11,200,[.int .i64 0,.int .i64 0,.slice none 0 0,.slice none 0 0,.int .i64 0,.slice none 0 0,.slice none 0 0,.slice none 0 0,.slice none 0 0,.int .i64 0,.slice none 0 0],false⟩),
 (93,⟨.struct [(0,22),(1,3),(2,3)],3,40,[.slice none 0 0,.int .i64 0,.int .i64 0],false⟩),
 (94,⟨.struct [(0,22),(1,3),(2,3)],3,40,[.slice none 0 0,.int .i64 0,.int .i64 0],false⟩),
 (96,⟨.struct [(0,26),(1,3)],2,32,[.slice none 0 0,.int .i64 0],false⟩),
 (97,⟨.struct [(0,26),(1,3)],2,32,[.slice none 0 0,.int .i64 0],false⟩),
 (105,⟨.struct [(0,33)],1,8,[.pointer none],false⟩),
 (106,⟨.struct [(0,33)],1,8,[.pointer none],false⟩),
 (110,⟨.ptr 114,1,8,[.pointer none],false⟩),
 (111,⟨.ptr 118,1,8,[.pointer none],false⟩),
 (113,⟨.struct [(0,111),(1,4)],2,16,[.pointer none,.bool false],false⟩),
 (114,⟨.struct [(0,111),(1,4)],2,16,[.pointer none,.bool false],false⟩),
 (117,⟨.struct [(0,22),(1,3),(2,3),(3,3)],4,48,[.slice none 0 0,.int .i64 0,.int .i64 0,.int .i64 0],false⟩),
 (118,⟨.struct [(0,22),(1,3),(2,3),(3,3)],4,48,[.slice none 0 0,.int .i64 0,.int .i64 0,.int .i64 0],false⟩),
 (119,⟨.struct [(0,3),(1,3),(2,3),(3,3),(4,3),(5,3),(6,68)],7,56,[.int .i64 0,.int .i64 0,.int .i64 0,.int .i64 0,.int .i64 0,.int .i64 0,.int .u64 0],false⟩),
 (120,⟨.struct [(0,3),(1,3),(2,3),(3,3),(4,3),(5,3),(6,68)],7,56,[.int .i64 0,.int .i64 0,.int .i64 0,.int .i64 0,.int .i64 0,.int .i64 0,.int .u64 0],true⟩),
 (128,⟨.struct [(0,3)],1,8,[.int .i64 0],false⟩),
 (129,⟨.struct [(0,3)],1,8,[.int .i64 0],true⟩),
 (130,⟨.struct [(0,68),(1,3)],2,16,[.int .u64 0,.int .i64 0],false⟩),
 (131,⟨.struct [(0,68),(1,3)],2,16,[.int .u64 0,.int .i64 0],true⟩),
 (135,⟨.slice 139,1,24,[.slice none 0 0],false⟩),
 (136,⟨.struct [(0,135),(1,53)],2,48,[.slice none 0 0,.slice none 0 0],false⟩),
 (137,⟨.struct [(0,135),(1,53)],2,48,[.slice none 0 0,.slice none 0 0],false⟩),
 (138,⟨.struct [(0,68),(1,57)],10,80,[.int .u64 0,.pointer none,.int .i64 0,.int .i64 0,.int .i64 0,.int .i64 0,.int .i64 0,.int .i64 0,.int .i64 0,.int .i64 0],false⟩),
 (139,⟨.struct [(0,68),(1,57)],10,80,[.int .u64 0,.pointer none,.int .i64 0,.int .i64 0,.int .i64 0,.int .i64 0,.int .i64 0,.int .i64 0,.int .i64 0,.int .i64 0],false⟩),
 (142,⟨.struct [(0,3),(1,5),(2,68),(3,68)],4,32,[.int .i64 0,.int .u8 0,.int .u64 0,.int .u64 0],false⟩),
 (143,⟨.struct [(0,3),(1,5),(2,68),(3,68)],4,32,[.int .i64 0,.int .u8 0,.int .u64 0,.int .u64 0],true⟩),
 (144,⟨.struct [(0,3),(1,86)],12,208,[.int .i64 0,.int .i64 0,.int .i64 0,.slice none 0 0,.slice none 0 0,.int .i64 0,.slice none 0 0,.slice none 0 0,.slice none 0 0,.slice none 0 0,.int .i64 0,.slice none 0 0],false⟩),
 (145,⟨.struct [(0,3),(1,86)],12,208,[.int .i64 0,.int .i64 0,.int .i64 0,.slice none 0 0,.slice none 0 0,.int .i64 0,.slice none 0 0,.slice none 0 0,.slice none 0 0,.slice none 0 0,.int .i64 0,.slice none 0 0],false⟩),
 (147,⟨.struct [(0,3),(1,3),(2,27),(3,86)],14,240,[.int .i64 0,.int .i64 0,.slice none 0 0,.int .i64 0,.int .i64 0,.slice none 0 0,.slice none 0 0,.int .i64 0,.slice none 0 0,.slice none 0 0,.slice none 0 0,.slice none 0 0,.int .i64 0,.slice none 0 0],false⟩),
 (148,⟨.struct [(0,3),(1,3),(2,27),(3,86)],14,240,[.int .i64 0,.int .i64 0,.slice none 0 0,.int .i64 0,.int .i64 0,.slice none 0 0,.slice none 0 0,.int .i64 0,.slice none 0 0,.slice none 0 0,.slice none 0 0,.slice none 0 0,.int .i64 0,.slice none 0 0],false⟩),
 (149,⟨.struct [(0,4),(1,3)],2,16,[.bool false,.int .i64 0],false⟩),
 (150,⟨.struct [(0,4),(1,3)],2,16,[.bool false,.int .i64 0],true⟩),
 (152,⟨.struct [(0,3)],1,8,[.int .i64 0],false⟩),
 (153,⟨.struct [(0,3)],1,8,[.int .i64 0],true⟩),
 (155,⟨.struct [(0,3)],1,8,[.int .i64 0],false⟩),
 (156,⟨.struct [(0,3)],1,8,[.int .i64 0],true⟩),
 (159,⟨.ptr 97,1,8,[.pointer none],false⟩),
 (160,⟨.struct [(0,3),(1,3),(2,3),(3,3),(4,3),(5,3),(6,3),(7,4)],8,64,[.int .i64 0,.int .i64 0,.int .i64 0,.int .i64 0,.int .i64 0,.int .i64 0,.int .i64 0,.bool false],false⟩),
 (161,⟨.struct [(0,3),(1,3),(2,3),(3,3),(4,3),(5,3),(6,3),(7,4)],8,64,[.int .i64 0,.int .i64 0,.int .i64 0,.int .i64 0,.int .i64 0,.int .i64 0,.int .i64 0,.bool false],true⟩),
 (177,⟨.struct [(0,3),(1,3),(2,3),(3,3),(4,3),(5,3),(6,3),(7,4)],8,64,[.int .i64 0,.int .i64 0,.int .i64 0,.int .i64 0,.int .i64 0,.int .i64 0,.int .i64 0,.bool false],true⟩),
 (178,⟨.struct [(0,177),(8,3),(9,3)],10,80,[.int .i64 0,.int .i64 0,.int .i64 0,.int .i64 0,.int .i64 0,.int .i64 0,.int .i64 0,.bool false,.int .i64 0,.int .i64 0],false⟩),
 (179,⟨.struct [(0,177),(8,3),(9,3)],10,80,[.int .i64 0,.int .i64 0,.int .i64 0,.int .i64 0,.int .i64 0,.int .i64 0,.int .i64 0,.bool false,.int .i64 0,.int .i64 0],true⟩),
 (185,⟨.struct [(0,3)],1,8,[.int .i64 0],false⟩),
 (186,⟨.struct [(0,3)],1,8,[.int .i64 0],true⟩),
 (188,⟨.struct [(0,26),(1,3)],2,32,[.slice none 0 0,.int .i64 0],false⟩),
 (189,⟨.struct [(0,26),(1,3)],2,32,[.slice none 0 0,.int .i64 0],false⟩),
 (191,⟨.struct [(0,161),(8,3),(9,3)],10,80,[.int .i64 0,.int .i64 0,.int .i64 0,.int .i64 0,.int .i64 0,.int .i64 0,.int .i64 0,.bool false,.int .i64 0,.int .i64 0],false⟩),
 (192,⟨.struct [(0,161),(8,3),(9,3)],10,80,[.int .i64 0,.int .i64 0,.int .i64 0,.int .i64 0,.int .i64 0,.int .i64 0,.int .i64 0,.bool false,.int .i64 0,.int .i64 0],true⟩),
 (198,⟨.ptr 129,1,8,[.pointer none],false⟩),
 (201,⟨.ptr 131,1,8,[.pointer none],false⟩),
 (216,⟨.ptr 153,1,8,[.pointer none],false⟩),
 (217,⟨.ptr 156,1,8,[.pointer none],false⟩),
 (235,⟨.ptr 186,1,8,[.pointer none],false⟩),
 (236,⟨.ptr 189,1,8,[.pointer none],false⟩),
 (243,⟨.slice 150,1,24,[.slice none 0 0],false⟩),
 (246,⟨.arr 7 3,7,56,[.int .i64 0,.int .i64 0,.int .i64 0,.int .i64 0,.int .i64 0,.int .i64 0,.int .i64 0],false⟩),
 (247,⟨.int .u32,1,4,[.int .u32 0],false⟩),
 (255,⟨.arr 6 3,6,48,[.int .i64 0,.int .i64 0,.int .i64 0,.int .i64 0,.int .i64 0,.int .i64 0],false⟩),
 (256,⟨.arr 8 5,8,8,[.int .u8 0,.int .u8 0,.int .u8 0,.int .u8 0,.int .u8 0,.int .u8 0,.int .u8 0,.int .u8 0],false⟩),
 (260,⟨.slice 5,1,24,[.slice none 0 0],false⟩),
 (262,⟨.struct [(0,17),(1,17),(2,17),(3,9)],4,40,[.pointer none,.pointer none,.pointer none,.string ByteArray.empty],false⟩),
 (263,⟨.struct [(0,17),(1,17),(2,17),(3,9)],4,40,[.pointer none,.pointer none,.pointer none,.string ByteArray.empty],false⟩),
 (267,⟨.int .u8,1,1,[.int .u8 0],false⟩),
 (268,⟨.int .u8,1,1,[.int .u8 0],false⟩),
 (270,⟨.ptr 5,1,8,[.pointer none],false⟩),
 (271,⟨.int .i32,1,4,[.int .i32 0],false⟩),
 (272,⟨.int .i32,1,4,[.int .i32 0],false⟩)]
def Yk:Qy:=fun t=>tabL.lookup t
theorem Yd:X1 Try.prog Yk:=fun t i h=>by
 have hm:=Zkb _ h
 unfold tabL at hm
 simp only [List.mem_cons,Prod.mk.injEq,List.not_mem_nil,or_false] at hm
 rcases hm with ⟨rfl,rfl⟩ | ⟨rfl,rfl⟩ | ⟨rfl,rfl⟩ | ⟨rfl,rfl⟩ | ⟨rfl,rfl⟩ | ⟨rfl,rfl⟩ | ⟨rfl,rfl⟩ | ⟨rfl,rfl⟩ | ⟨rfl,rfl⟩ | ⟨rfl,rfl⟩ | ⟨rfl,rfl⟩ | ⟨rfl,rfl⟩ | ⟨rfl,rfl⟩ | ⟨rfl,rfl⟩ | ⟨rfl,rfl⟩ | ⟨rfl,rfl⟩ | ⟨rfl,rfl⟩ | ⟨rfl,rfl⟩ | ⟨rfl,rfl⟩ | ⟨rfl,rfl⟩ | ⟨rfl,rfl⟩ | ⟨rfl,rfl⟩ | ⟨rfl,rfl⟩ | ⟨rfl,rfl⟩ | ⟨rfl,rfl⟩ | ⟨rfl,rfl⟩ | ⟨rfl,rfl⟩ | ⟨rfl,rfl⟩ | ⟨rfl,rfl⟩ | ⟨rfl,rfl⟩ | ⟨rfl,rfl⟩ | ⟨rfl,rfl⟩ | ⟨rfl,rfl⟩ | ⟨rfl,rfl⟩ | ⟨rfl,rfl⟩ | ⟨rfl,rfl⟩ | ⟨rfl,rfl⟩ | ⟨rfl,rfl⟩ | ⟨rfl,rfl⟩ | ⟨rfl,rfl⟩ | ⟨rfl,rfl⟩ | ⟨rfl,rfl⟩ | ⟨rfl,rfl⟩ | ⟨rfl,rfl⟩ | ⟨rfl,rfl⟩ | ⟨rfl,rfl⟩ | ⟨rfl,rfl⟩ | ⟨rfl,rfl⟩ | ⟨rfl,rfl⟩ | ⟨rfl,rfl⟩ | ⟨rfl,rfl⟩ | ⟨rfl,rfl⟩ | ⟨rfl,rfl⟩ | ⟨rfl,rfl⟩ | ⟨rfl,rfl⟩ | ⟨rfl,rfl⟩ | ⟨rfl,rfl⟩ | ⟨rfl,rfl⟩ | ⟨rfl,rfl⟩ | ⟨rfl,rfl⟩ | ⟨rfl,rfl⟩ | ⟨rfl,rfl⟩ | ⟨rfl,rfl⟩ | ⟨rfl,rfl⟩ | ⟨rfl,rfl⟩ | ⟨rfl,rfl⟩ | ⟨rfl,rfl⟩ | ⟨rfl,rfl⟩ | ⟨rfl,rfl⟩ | ⟨rfl,rfl⟩ | ⟨rfl,rfl⟩ | ⟨rfl,rfl⟩ | ⟨rfl,rfl⟩ | ⟨rfl,rfl⟩ | ⟨rfl,rfl⟩ | ⟨rfl,rfl⟩ | ⟨rfl,rfl⟩ | ⟨rfl,rfl⟩ | ⟨rfl,rfl⟩ | ⟨rfl,rfl⟩ | ⟨rfl,rfl⟩ | ⟨rfl,rfl⟩ | ⟨rfl,rfl⟩ | ⟨rfl,rfl⟩ | ⟨rfl,rfl⟩ | ⟨rfl,rfl⟩ | ⟨rfl,rfl⟩ | ⟨rfl,rfl⟩ | ⟨rfl,rfl⟩ | ⟨rfl,rfl⟩ | ⟨rfl,rfl⟩ | ⟨rfl,rfl⟩ | ⟨rfl,rfl⟩ | ⟨rfl,rfl⟩ | ⟨rfl,rfl⟩ | ⟨rfl,rfl⟩ | ⟨rfl,rfl⟩ | ⟨rfl,rfl⟩ | ⟨rfl,rfl⟩ | ⟨rfl,rfl⟩ | ⟨rfl,rfl⟩ | ⟨rfl,rfl⟩ | ⟨rfl,rfl⟩ | ⟨rfl,rfl⟩ | ⟨rfl,rfl⟩
 ·exact ty2
 ·exact ty3
 ·exact ty4
 ·exact ty5
 ·exact ty6
 ·exact ty7
 ·exact ty8
 ·exact ty9
 ·exact Z6n
 ·exact Z6o
 ·exact Z6p
 ·exact Z6q
 ·exact Z6r
 ·exact Z6s
 ·exact Z6t
 ·exact Z6u
 ·exact Z6v
 ·exact Z6w
 ·exact Z6x
 ·exact Z6y
 ·exact Z6z
 ·exact Z60
 ·exact Z61
 ·exact Z62
 ·exact Z63
 ·exact Z64
 ·exact Z65
 ·exact Z66
 ·exact Z67
 ·exact Z68
 ·exact Z69
 ·exact Z7a
 ·exact Z7b
 ·exact Z7c
 ·exact Z7d
 ·exact Z7e
 ·exact Z7f
 ·exact Z7g
 ·exact Z7h
 ·exact Z7i
 ·exact Z7j
 ·exact Z7k
 ·exact Z7l
 ·exact Z4j
 ·exact Z4k
 ·exact Z4l
 ·exact Z4m
 ·exact Z4n
 ·exact Z4o
 ·exact Z4p
 ·exact Z4q
 ·exact Z4r
 ·exact Z4s
 ·exact Z4t
 ·exact Z4u
 ·exact Z4v
 ·exact Z4w
 ·exact Z4x
 ·exact Z4y
 ·exact Z4z
 ·exact Z40
 ·exact Z41
 ·exact Z42
 ·exact Z43
 ·exact Z44
 ·exact Z45
 ·exact Z46
 ·exact Z47
 ·exact Z48
 ·exact Z49
 ·exact Z5a
 ·exact Z5b
 ·exact Z5c
 ·exact Z5d
 ·exact Z5e
 ·exact Z5f
 ·exact Z5g
 ·exact Z5h
 ·exact Z5i
 ·exact Z5j
 ·exact Z5k
 ·exact Z5l
 ·exact Z5m
 ·exact Z5n
 ·exact Z5o
 ·exact Z5p
 ·exact Z5q
 ·exact Z5r
 ·exact Z5s
 ·exact Z5t
 ·exact Z5u
 ·exact Z5v
 ·exact Z5w
 ·exact Z5x
 ·exact Z5y
 ·exact Z5z
 ·exact Z50
 ·exact Z51
 ·exact Z52
 ·exact Z53
 ·exact Z54
 ·exact Z55
 ·exact Z56
 ·exact Z57
 exact Z58
theorem Z4b:Yk 2=some ⟨.int .i64,1,8,[.int .i64 0],false⟩:=rfl
theorem Zzz:Yk 3=some ⟨.int .i64,1,8,[.int .i64 0],false⟩:=rfl
theorem Z4c:Yk 4=some ⟨.bool,1,1,[.bool false],false⟩:=rfl
theorem Zsu:Yk 5=some ⟨.int .u8,1,1,[.int .u8 0],false⟩:=rfl
theorem Z4d:Yk 6=some ⟨.int .u8,1,1,[.int .u8 0],false⟩:=rfl
theorem Z4e:Yk 7=some ⟨.struct [(0,2),(1,3),(2,4),(3,6)],4,24,[.int .i64 0,.int .i64 0,.bool false,.int .u8 0],false⟩:=rfl
theorem Z4f:Yk 8=some ⟨.struct [(0,2),(1,3),(2,4),(3,6)],4,24,[.int .i64 0,.int .i64 0,.bool false,.int .u8 0],false⟩:=rfl
theorem Z4g:Yk 9=some ⟨.str,1,16,[.string ByteArray.empty],false⟩:=rfl
theorem Z11:Yk 10=some ⟨.str,1,16,[.string ByteArray.empty],false⟩:=rfl
theorem Z12:Yk 11=some ⟨.str,1,16,[.string ByteArray.empty],false⟩:=rfl
theorem Z13:Yk 12=some ⟨.int .u64,1,8,[.int .u64 0],false⟩:=rfl
theorem Z14:Yk 13=some ⟨.struct [(0,9),(1,12)],2,24,[.string ByteArray.empty,.int .u64 0],false⟩:=rfl
theorem Z15:Yk 14=some ⟨.struct [(0,9),(1,12)],2,24,[.string ByteArray.empty,.int .u64 0],false⟩:=rfl
theorem Z16:Yk 15=some ⟨.ptr 263,1,8,[.pointer none],false⟩:=rfl
theorem Z17:Yk 16=some ⟨.ptr 266,1,8,[.pointer none],false⟩:=rfl
theorem Z18:Yk 17=some ⟨.ptr 274,1,8,[.pointer none],false⟩:=rfl
theorem Z19:Yk 18=some ⟨.struct [(0,17)],1,8,[.pointer none],false⟩:=rfl
theorem Z2a:Yk 19=some ⟨.struct [(0,17)],1,8,[.pointer none],false⟩:=rfl
theorem Z2b:Yk 21=some ⟨.int .i32,1,4,[.int .i32 0],false⟩:=rfl
theorem Z2c:Yk 22=some ⟨.slice 26,1,24,[.slice none 0 0],false⟩:=rfl
theorem Z2d:Yk 23=some ⟨.struct [(0,3),(1,3),(2,3),(3,3)],4,32,[.int .i64 0,.int .i64 0,.int .i64 0,.int .i64 0],false⟩:=rfl
theorem Z2e:Yk 24=some ⟨.struct [(0,3),(1,3),(2,3),(3,3)],4,32,[.int .i64 0,.int .i64 0,.int .i64 0,.int .i64 0],true⟩:=rfl
theorem Zuq:Yk 26=some ⟨.slice 68,1,24,[.slice none 0 0],false⟩:=rfl
theorem Ziq:Yk 27=some ⟨.slice 29,1,24,[.slice none 0 0],false⟩:=rfl
theorem Z2f:Yk 28=some ⟨.struct [(0,3),(1,26),(2,27)],3,56,[.int .i64 0,.slice none 0 0,.slice none 0 0],false⟩:=rfl
theorem Vl:Yk 29=some ⟨.struct [(0,3),(1,26),(2,27)],3,56,[.int .i64 0,.slice none 0 0,.slice none 0 0],false⟩:=rfl
theorem Z2g:Yk 30=some ⟨.int .i64,1,8,[.int .i64 0],false⟩:=rfl
theorem Z2h:Yk 33=some ⟨.ptr 94,1,8,[.pointer none],false⟩:=rfl
theorem Z2i:Yk 53=some ⟨.slice 3,1,24,[.slice none 0 0],false⟩:=rfl
theorem Z2j:Yk 56=some ⟨.struct [(0,33),(1,3),(2,3),(3,3),(4,3),(5,3),(6,3),(7,3),(8,3)],9,72,[.pointer none,.int .i64 0,.int .i64 0,.int .i64 0,.int .i64 0,.int .i64 0,.int .i64 0,.int .i64 0,.int .i64 0],false⟩:=rfl
theorem Z2k:Yk 57=some ⟨.struct [(0,33),(1,3),(2,3),(3,3),(4,3),(5,3),(6,3),(7,3),(8,3)],9,72,[.pointer none,.int .i64 0,.int .i64 0,.int .i64 0,.int .i64 0,.int .i64 0,.int .i64 0,.int .i64 0,.int .i64 0],false⟩:=rfl
theorem Zir:Yk 68=some ⟨.int .u64,1,8,[.int .u64 0],false⟩:=rfl
theorem Z2l:Yk 71=some ⟨.int .u64,1,8,[.int .u64 0],false⟩:=rfl
theorem Z2m:Yk 74=some ⟨.ptr 137,1,8,[.pointer none],false⟩:=rfl
theorem Z2n:Yk 82=some ⟨.slice 143,1,24,[.slice none 0 0],false⟩:=rfl
theorem Z2o:Yk 83=some ⟨.slice 145,1,24,[.slice none 0 0],false⟩:=rfl
theorem Z2p:Yk 84=some ⟨.slice 148,1,24,[.slice none 0 0],false⟩:=rfl
theorem Z2q:Yk 85=some ⟨.struct [(0,3),(1,29),(4,29),(7,82),(8,83),(9,3),(10,84)],11,200,[.int .i64 0,.int .i64 0,.slice none 0 0,.slice none 0 0,.int .i64 0,.slice none 0 0,.slice none 0 0,.slice none 0 0,.slice none 0 0,.int .i64 0,.slice none 0 0],false⟩:=rfl
theorem Zk4:Yk 86=some ⟨.struct [(0,3),(1,29),(4,29),(7,82),(8,83),(9,3),(10,84)],11,200,[.int .i64 0,.int .i64 0,.slice none 0 0,.slice none 0 0,.int .i64 0,.slice none 0 0,.slice none 0 0,.slice none 0 0,.slice none 0 0,.int .i64 0,.slice none 0 0],false⟩:=rfl
theorem Z2r:Yk 93=some ⟨.struct [(0,22),(1,3),(2,3)],3,40,[.slice none 0 0,.int .i64 0,.int .i64 0],false⟩:=rfl
theorem Z2s:Yk 94=some ⟨.struct [(0,22),(1,3),(2,3)],3,40,[.slice none 0 0,.int .i64 0,.int .i64 0],false⟩:=rfl
theorem Z2t:Yk 96=some ⟨.struct [(0,26),(1,3)],2,32,[.slice none 0 0,.int .i64 0],false⟩:=rfl
theorem Z2u:Yk 97=some ⟨.struct [(0,26),(1,3)],2,32,[.slice none 0 0,.int .i64 0],false⟩:=rfl
theorem Zyq:Yk 105=some ⟨.struct [(0,33)],1,8,[.pointer none],false⟩:=rfl
theorem Zyr:Yk 106=some ⟨.struct [(0,33)],1,8,[.pointer none],false⟩:=rfl
theorem Zys:Yk 110=some ⟨.ptr 114,1,8,[.pointer none],false⟩:=rfl
theorem Zyt:Yk 111=some ⟨.ptr 118,1,8,[.pointer none],false⟩:=rfl
theorem Zyu:Yk 113=some ⟨.struct [(0,111),(1,4)],2,16,[.pointer none,.bool false],false⟩:=rfl
theorem Zyv:Yk 114=some ⟨.struct [(0,111),(1,4)],2,16,[.pointer none,.bool false],false⟩:=rfl
theorem Zyw:Yk 117=some ⟨.struct [(0,22),(1,3),(2,3),(3,3)],4,48,[.slice none 0 0,.int .i64 0,.int .i64 0,.int .i64 0],false⟩:=rfl
theorem Zyx:Yk 118=some ⟨.struct [(0,22),(1,3),(2,3),(3,3)],4,48,[.slice none 0 0,.int .i64 0,.int .i64 0,.int .i64 0],false⟩:=rfl
theorem Zyy:Yk 119=some ⟨.struct [(0,3),(1,3),(2,3),(3,3),(4,3),(5,3),(6,68)],7,56,[.int .i64 0,.int .i64 0,.int .i64 0,.int .i64 0,.int .i64 0,.int .i64 0,.int .u64 0],false⟩:=rfl
theorem Zyz:Yk 120=some ⟨.struct [(0,3),(1,3),(2,3),(3,3),(4,3),(5,3),(6,68)],7,56,[.int .i64 0,.int .i64 0,.int .i64 0,.int .i64 0,.int .i64 0,.int .i64 0,.int .u64 0],true⟩:=rfl
theorem Zy0:Yk 128=some ⟨.struct [(0,3)],1,8,[.int .i64 0],false⟩:=rfl
theorem Zy1:Yk 129=some ⟨.struct [(0,3)],1,8,[.int .i64 0],true⟩:=rfl
theorem Zy2:Yk 130=some ⟨.struct [(0,68),(1,3)],2,16,[.int .u64 0,.int .i64 0],false⟩:=rfl
theorem Zy3:Yk 131=some ⟨.struct [(0,68),(1,3)],2,16,[.int .u64 0,.int .i64 0],true⟩:=rfl
theorem Zy4:Yk 135=some ⟨.slice 139,1,24,[.slice none 0 0],false⟩:=rfl
theorem Zy5:Yk 136=some ⟨.struct [(0,135),(1,53)],2,48,[.slice none 0 0,.slice none 0 0],false⟩:=rfl
theorem Zy6:Yk 137=some ⟨.struct [(0,135),(1,53)],2,48,[.slice none 0 0,.slice none 0 0],false⟩:=rfl
theorem Zy7:Yk 138=some ⟨.struct [(0,68),(1,57)],10,80,[.int .u64 0,.pointer none,.int .i64 0,.int .i64 0,.int .i64 0,.int .i64 0,.int .i64 0,.int .i64 0,.int .i64 0,.int .i64 0],false⟩:=rfl
theorem Zy8:Yk 139=some ⟨.struct [(0,68),(1,57)],10,80,[.int .u64 0,.pointer none,.int .i64 0,.int .i64 0,.int .i64 0,.int .i64 0,.int .i64 0,.int .i64 0,.int .i64 0,.int .i64 0],false⟩:=rfl
theorem Zy9:Yk 142=some ⟨.struct [(0,3),(1,5),(2,68),(3,68)],4,32,[.int .i64 0,.int .u8 0,.int .u64 0,.int .u64 0],false⟩:=rfl
theorem Zk3:Yk 143=some ⟨.struct [(0,3),(1,5),(2,68),(3,68)],4,32,[.int .i64 0,.int .u8 0,.int .u64 0,.int .u64 0],true⟩:=rfl
theorem Zza:Yk 144=some ⟨.struct [(0,3),(1,86)],12,208,[.int .i64 0,.int .i64 0,.int .i64 0,.slice none 0 0,.slice none 0 0,.int .i64 0,.slice none 0 0,.slice none 0 0,.slice none 0 0,.slice none 0 0,.int .i64 0,.slice none 0 0],false⟩:=rfl
theorem Zgf:Yk 145=some ⟨.struct [(0,3),(1,86)],12,208,[.int .i64 0,.int .i64 0,.int .i64 0,.slice none 0 0,.slice none 0 0,.int .i64 0,.slice none 0 0,.slice none 0 0,.slice none 0 0,.slice none 0 0,.int .i64 0,.slice none 0 0],false⟩:=rfl
theorem Zzb:Yk 147=some ⟨.struct [(0,3),(1,3),(2,27),(3,86)],14,240,[.int .i64 0,.int .i64 0,.slice none 0 0,.int .i64 0,.int .i64 0,.slice none 0 0,.slice none 0 0,.int .i64 0,.slice none 0 0,.slice none 0 0,.slice none 0 0,.slice none 0 0,.int .i64 0,.slice none 0 0],false⟩:=rfl
theorem Zcz:Yk 148=some ⟨.struct [(0,3),(1,3),(2,27),(3,86)],14,240,[.int .i64 0,.int .i64 0,.slice none 0 0,.int .i64 0,.int .i64 0,.slice none 0 0,.slice none 0 0,.int .i64 0,.slice none 0 0,.slice none 0 0,.slice none 0 0,.slice none 0 0,.int .i64 0,.slice none 0 0],false⟩:=rfl
theorem Zzc:Yk 149=some ⟨.struct [(0,4),(1,3)],2,16,[.bool false,.int .i64 0],false⟩:=rfl
theorem Zst:Yk 150=some ⟨.struct [(0,4),(1,3)],2,16,[.bool false,.int .i64 0],true⟩:=rfl
theorem Zzd:Yk 152=some ⟨.struct [(0,3)],1,8,[.int .i64 0],false⟩:=rfl
theorem Zze:Yk 153=some ⟨.struct [(0,3)],1,8,[.int .i64 0],true⟩:=rfl
theorem Zzf:Yk 155=some ⟨.struct [(0,3)],1,8,[.int .i64 0],false⟩:=rfl
theorem Zzg:Yk 156=some ⟨.struct [(0,3)],1,8,[.int .i64 0],true⟩:=rfl
theorem Zzh:Yk 159=some ⟨.ptr 97,1,8,[.pointer none],false⟩:=rfl
theorem Zzi:Yk 160=some ⟨.struct [(0,3),(1,3),(2,3),(3,3),(4,3),(5,3),(6,3),(7,4)],8,64,[.int .i64 0,.int .i64 0,.int .i64 0,.int .i64 0,.int .i64 0,.int .i64 0,.int .i64 0,.bool false],false⟩:=rfl
theorem Zzj:Yk 161=some ⟨.struct [(0,3),(1,3),(2,3),(3,3),(4,3),(5,3),(6,3),(7,4)],8,64,[.int .i64 0,.int .i64 0,.int .i64 0,.int .i64 0,.int .i64 0,.int .i64 0,.int .i64 0,.bool false],true⟩:=rfl
theorem Zzk:Yk 177=some ⟨.struct [(0,3),(1,3),(2,3),(3,3),(4,3),(5,3),(6,3),(7,4)],8,64,[.int .i64 0,.int .i64 0,.int .i64 0,.int .i64 0,.int .i64 0,.int .i64 0,.int .i64 0,.bool false],true⟩:=rfl
theorem Zzl:Yk 178=some ⟨.struct [(0,177),(8,3),(9,3)],10,80,[.int .i64 0,.int .i64 0,.int .i64 0,.int .i64 0,.int .i64 0,.int .i64 0,.int .i64 0,.bool false,.int .i64 0,.int .i64 0],false⟩:=rfl
theorem Zzm:Yk 179=some ⟨.struct [(0,177),(8,3),(9,3)],10,80,[.int .i64 0,.int .i64 0,.int .i64 0,.int .i64 0,.int .i64 0,.int .i64 0,.int .i64 0,.bool false,.int .i64 0,.int .i64 0],true⟩:=rfl
theorem Zzn:Yk 185=some ⟨.struct [(0,3)],1,8,[.int .i64 0],false⟩:=rfl
theorem Zzo:Yk 186=some ⟨.struct [(0,3)],1,8,[.int .i64 0],true⟩:=rfl
theorem Zzp:Yk 188=some ⟨.struct [(0,26),(1,3)],2,32,[.slice none 0 0,.int .i64 0],false⟩:=rfl
theorem Zzq:Yk 189=some ⟨.struct [(0,26),(1,3)],2,32,[.slice none 0 0,.int .i64 0],false⟩:=rfl
theorem Zzr:Yk 191=some ⟨.struct [(0,161),(8,3),(9,3)],10,80,[.int .i64 0,.int .i64 0,.int .i64 0,.int .i64 0,.int .i64 0,.int .i64 0,.int .i64 0,.bool false,.int .i64 0,.int .i64 0],false⟩:=rfl
theorem Zzs:Yk 192=some ⟨.struct [(0,161),(8,3),(9,3)],10,80,[.int .i64 0,.int .i64 0,.int .i64 0,.int .i64 0,.int .i64 0,.int .i64 0,.int .i64 0,.bool false,.int .i64 0,.int .i64 0],true⟩:=rfl
theorem Zzt:Yk 198=some ⟨.ptr 129,1,8,[.pointer none],false⟩:=rfl
theorem Zzu:Yk 201=some ⟨.ptr 131,1,8,[.pointer none],false⟩:=rfl
theorem Zzv:Yk 216=some ⟨.ptr 153,1,8,[.pointer none],false⟩:=rfl
theorem Zzw:Yk 243=some ⟨.slice 150,1,24,[.slice none 0 0],false⟩:=rfl
theorem Zzx:Yk 255=some ⟨.arr 6 3,6,48,[.int .i64 0,.int .i64 0,.int .i64 0,.int .i64 0,.int .i64 0,.int .i64 0],false⟩:=rfl
theorem Zn8:Yk 256=some ⟨.arr 8 5,8,8,[.int .u8 0,.int .u8 0,.int .u8 0,.int .u8 0,.int .u8 0,.int .u8 0,.int .u8 0,.int .u8 0],false⟩:=rfl
theorem Zzy:Yk 260=some ⟨.slice 5,1,24,[.slice none 0 0],false⟩:=rfl
theorem Zz3:Zs Yk 2=some (.int .i64):=rfl
theorem Zz4:Zs Yk 3=some (.int .i64):=rfl
theorem Zz5:Zs Yk 4=some (.bool):=rfl
theorem Zz6:Zs Yk 5=some (.int .u8):=rfl
theorem Zz7:Zs Yk 6=some (.int .u8):=rfl
theorem Zz8:Zs Yk 7=some (.struct [(0,2),(1,3),(2,4),(3,6)]):=rfl
theorem Zz9:Zs Yk 8=some (.struct [(0,2),(1,3),(2,4),(3,6)]):=rfl
theorem Z0a:Zs Yk 9=some (.str):=rfl
theorem Zus:Zs Yk 10=some (.str):=rfl
theorem Zut:Zs Yk 11=some (.str):=rfl
theorem Zuu:Zs Yk 12=some (.int .u64):=rfl
theorem Zuv:Zs Yk 13=some (.struct [(0,9),(1,12)]):=rfl
theorem Zuw:Zs Yk 14=some (.struct [(0,9),(1,12)]):=rfl
theorem Zux:Zs Yk 15=some (.ptr 263):=rfl
theorem Zuy:Zs Yk 16=some (.ptr 266):=rfl
theorem Zuz:Zs Yk 17=some (.ptr 274):=rfl
theorem Zu0:Zs Yk 18=some (.struct [(0,17)]):=rfl
theorem Zu1:Zs Yk 19=some (.struct [(0,17)]):=rfl
theorem Zu2:Zs Yk 21=some (.int .i32):=rfl
theorem Zu3:Zs Yk 22=some (.slice 26):=rfl
theorem Zu4:Zs Yk 23=some (.struct [(0,3),(1,3),(2,3),(3,3)]):=rfl
theorem Zu5:Zs Yk 24=some (.struct [(0,3),(1,3),(2,3),(3,3)]):=rfl
theorem Zjd:Zs Yk 26=some (.slice 68):=rfl
theorem Zhe:Zs Yk 27=some (.slice 29):=rfl
theorem Zu6:Zs Yk 28=some (.struct [(0,3),(1,26),(2,27)]):=rfl
theorem Zu7:Zs Yk 29=some (.struct [(0,3),(1,26),(2,27)]):=rfl
theorem Zu8:Zs Yk 30=some (.int .i64):=rfl
theorem Zu9:Zs Yk 33=some (.ptr 94):=rfl
theorem Zva:Zs Yk 53=some (.slice 3):=rfl
theorem Zvb:Zs Yk 56=some (.struct [(0,33),(1,3),(2,3),(3,3),(4,3),(5,3),(6,3),(7,3),(8,3)]):=rfl
theorem Zvc:Zs Yk 57=some (.struct [(0,33),(1,3),(2,3),(3,3),(4,3),(5,3),(6,3),(7,3),(8,3)]):=rfl
theorem Zvd:Zs Yk 68=some (.int .u64):=rfl
theorem Zve:Zs Yk 71=some (.int .u64):=rfl
theorem Zvf:Zs Yk 74=some (.ptr 137):=rfl
theorem Zvg:Zs Yk 82=some (.slice 143):=rfl
theorem Zvh:Zs Yk 83=some (.slice 145):=rfl
theorem Zvi:Zs Yk 84=some (.slice 148):=rfl
theorem Zvj:Zs Yk 85=some (.struct [(0,3),(1,29),(4,29),(7,82),(8,83),(9,3),(10,84)]):=rfl
theorem Zvk:Zs Yk 86=some (.struct [(0,3),(1,29),(4,29),(7,82),(8,83),(9,3),(10,84)]):=rfl
theorem Zvl:Zs Yk 93=some (.struct [(0,22),(1,3),(2,3)]):=rfl
theorem Zvm:Zs Yk 94=some (.struct [(0,22),(1,3),(2,3)]):=rfl
theorem Zvn:Zs Yk 96=some (.struct [(0,26),(1,3)]):=rfl
theorem Zvo:Zs Yk 97=some (.struct [(0,26),(1,3)]):=rfl
theorem Zqc:Zs Yk 105=some (.struct [(0,33)]):=rfl
theorem Zqd:Zs Yk 106=some (.struct [(0,33)]):=rfl
theorem Zqe:Zs Yk 110=some (.ptr 114):=rfl
theorem Zqf:Zs Yk 111=some (.ptr 118):=rfl
theorem Zqg:Zs Yk 113=some (.struct [(0,111),(1,4)]):=rfl
theorem Zqh:Zs Yk 114=some (.struct [(0,111),(1,4)]):=rfl
theorem Zqi:Zs Yk 117=some (.struct [(0,22),(1,3),(2,3),(3,3)]):=rfl
theorem Zqj:Zs Yk 118=some (.struct [(0,22),(1,3),(2,3),(3,3)]):=rfl
theorem Zqk:Zs Yk 119=some (.struct [(0,3),(1,3),(2,3),(3,3),(4,3),(5,3),(6,68)]):=rfl
theorem Zql:Zs Yk 120=some (.struct [(0,3),(1,3),(2,3),(3,3),(4,3),(5,3),(6,68)]):=rfl
theorem Zqm:Zs Yk 128=some (.struct [(0,3)]):=rfl
theorem Zqn:Zs Yk 129=some (.struct [(0,3)]):=rfl
theorem Zqo:Zs Yk 130=some (.struct [(0,68),(1,3)]):=rfl
theorem Zqp:Zs Yk 131=some (.struct [(0,68),(1,3)]):=rfl
theorem Zqq:Zs Yk 135=some (.slice 139):=rfl
theorem Zqr:Zs Yk 136=some (.struct [(0,135),(1,53)]):=rfl
theorem Zqs:Zs Yk 137=some (.struct [(0,135),(1,53)]):=rfl
theorem Zqt:Zs Yk 138=some (.struct [(0,68),(1,57)]):=rfl
theorem Zqu:Zs Yk 139=some (.struct [(0,68),(1,57)]):=rfl
theorem Zqv:Zs Yk 142=some (.struct [(0,3),(1,5),(2,68),(3,68)]):=rfl
theorem Zqw:Zs Yk 143=some (.struct [(0,3),(1,5),(2,68),(3,68)]):=rfl
theorem Zqx:Zs Yk 144=some (.struct [(0,3),(1,86)]):=rfl
theorem Zqy:Zs Yk 145=some (.struct [(0,3),(1,86)]):=rfl
theorem Zqz:Zs Yk 147=some (.struct [(0,3),(1,3),(2,27),(3,86)]):=rfl
theorem Zq0:Zs Yk 148=some (.struct [(0,3),(1,3),(2,27),(3,86)]):=rfl
theorem Zq1:Zs Yk 149=some (.struct [(0,4),(1,3)]):=rfl
theorem Zq2:Zs Yk 150=some (.struct [(0,4),(1,3)]):=rfl
theorem Zq3:Zs Yk 152=some (.struct [(0,3)]):=rfl
theorem Zq4:Zs Yk 153=some (.struct [(0,3)]):=rfl
theorem Zq5:Zs Yk 155=some (.struct [(0,3)]):=rfl
theorem Zq6:Zs Yk 156=some (.struct [(0,3)]):=rfl
theorem Zq7:Zs Yk 159=some (.ptr 97):=rfl
theorem Zq8:Zs Yk 160=some (.struct [(0,3),(1,3),(2,3),(3,3),(4,3),(5,3),(6,3),(7,4)]):=rfl
theorem Zq9:Zs Yk 161=some (.struct [(0,3),(1,3),(2,3),(3,3),(4,3),(5,3),(6,3),(7,4)]):=rfl
theorem Zra:Zs Yk 177=some (.struct [(0,3),(1,3),(2,3),(3,3),(4,3),(5,3),(6,3),(7,4)]):=rfl
theorem Zrb:Zs Yk 178=some (.struct [(0,177),(8,3),(9,3)]):=rfl
theorem Zrc:Zs Yk 179=some (.struct [(0,177),(8,3),(9,3)]):=rfl
theorem Zrd:Zs Yk 185=some (.struct [(0,3)]):=rfl
theorem Zre:Zs Yk 186=some (.struct [(0,3)]):=rfl
theorem Zrf:Zs Yk 188=some (.struct [(0,26),(1,3)]):=rfl
theorem Zrg:Zs Yk 189=some (.struct [(0,26),(1,3)]):=rfl
theorem Zrh:Zs Yk 191=some (.struct [(0,161),(8,3),(9,3)]):=rfl
theorem Zri:Zs Yk 192=some (.struct [(0,161),(8,3),(9,3)]):=rfl
theorem Zrj:Zs Yk 198=some (.ptr 129):=rfl
theorem Zrk:Zs Yk 201=some (.ptr 131):=rfl
theorem Zrl:Zs Yk 216=some (.ptr 153):=rfl
theorem Zrm:Zs Yk 243=some (.slice 150):=rfl
theorem Zrn:Zs Yk 255=some (.arr 6 3):=rfl
theorem Zk5:Zs Yk 256=some (.arr 8 5):=rfl
theorem Zro:Zs Yk 260=some (.slice 5):=rfl
end Go.Proofs.Ytjeakjakgocoaaa
