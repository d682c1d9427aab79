/- The types of this seat's program, as its dump has them, in the ghost memory's words; no condition. -/
import Derived.Test.YtbjcopkgdjombaaRows
import Derived.Test.YtbjcopkgdjombaaG13
namespace Go.Proofs.Ytbjcopkgdjombaa
open Go.RowKit
set_option linter.unusedVariables false
set_option linter.unusedSimpArgs false
theorem TyOk.of {P:Program} {t:TypeId} (k:TK) (size bytes:Nat) (zero:List Value) (z:Value) (h:(P.info? t).map (fun i=>(i.zero,i.size,i.bytes))=some (some z,size,bytes)) (hz:z.cells.toList=zero) (hu:k.ok P t) (hl:zero.length=size) (h1:zero.all Value.oneCell'=true) (eq:Bool) (he:eq=true→Yed P t):TyOk P t ⟨k,size,bytes,zero,eq⟩:=by
 refine ⟨?_,hu,hl,fun v hv=>List.all_eq_true.1 h1 v hv,he⟩
 cases hi:P.info? t with
 | none=>rw [hi] at h;cases h
 | some i =>
  rw [hi] at h
  simp only [Option.map_some,Option.some.injEq,Prod.mk.injEq] at h
  exact ⟨i,z,rfl,h.2.1,h.2.2,h.1,hz⟩
theorem Z0d {α:Type} {t:Nat} {i:α}:∀ (l:List (Nat×α)),l.lookup t=some i→(t,i)∈l
 | [],h=>by simp at h
 | (a,b)::l,h=>by
  rw [List.lookup_cons] at h
  split at h
  ·rename_i he
   injection h with h
   have:t=a:=by simpa using he
   subst h this
   exact .head _
  exact .tail _ (Z0d l h)
theorem ty2:TyOk Try.prog 2 ⟨.int .i64,1,8,[.int .i64 0],false⟩:=TyOk.of (P:=Try.prog) (t:=2) (.int .i64) 1 8 [.int .i64 0] (.int .i64 0) (by kernel_rfl) rfl Try.underlying2 rfl rfl false (fun h=>by cases h)
theorem ty3:TyOk Try.prog 3 ⟨.int .i64,1,8,[.int .i64 0],false⟩:=TyOk.of (P:=Try.prog) (t:=3) (.int .i64) 1 8 [.int .i64 0] (.int .i64 0) (by kernel_rfl) rfl Try.underlying3 rfl rfl false (fun h=>by cases h)
theorem ty4:TyOk Try.prog 4 ⟨.bool,1,1,[.bool false],false⟩:=TyOk.of (P:=Try.prog) (t:=4) (.bool) 1 1 [.bool false] (.bool false) (by kernel_rfl) rfl Try.underlying4 rfl rfl false (fun h=>by cases h)
theorem ty5:TyOk Try.prog 5 ⟨.int .u8,1,1,[.int .u8 0],false⟩:=TyOk.of (P:=Try.prog) (t:=5) (.int .u8) 1 1 [.int .u8 0] (.int .u8 0) (by kernel_rfl) rfl Try.underlying5 rfl rfl false (fun h=>by cases h)
theorem ty6:TyOk Try.prog 6 ⟨.int .u8,1,1,[.int .u8 0],false⟩:=TyOk.of (P:=Try.prog) (t:=6) (.int .u8) 1 1 [.int .u8 0] (.int .u8 0) (by kernel_rfl) rfl Try.underlying6 rfl rfl false (fun h=>by cases h)
theorem ty7:TyOk Try.prog 7 ⟨.struct [(0,2),(1,3),(2,4),(3,6)],4,24,[.int .i64 0,.int .i64 0,.bool false,.int .u8 0],false⟩:=TyOk.of (P:=Try.prog) (t:=7) (.struct [(0,2),(1,3),(2,4),(3,6)]) 4 24 [.int .i64 0,.int .i64 0,.bool false,.int .u8 0] (.agg #[.int .i64 0,.int .i64 0,.bool false,.int .u8 0]) (by kernel_rfl) rfl ⟨_,Try.underlying7,rfl⟩ rfl rfl false (fun h=>by cases h)
theorem ty8:TyOk Try.prog 8 ⟨.struct [(0,2),(1,3),(2,4),(3,6)],4,24,[.int .i64 0,.int .i64 0,.bool false,.int .u8 0],false⟩:=TyOk.of (P:=Try.prog) (t:=8) (.struct [(0,2),(1,3),(2,4),(3,6)]) 4 24 [.int .i64 0,.int .i64 0,.bool false,.int .u8 0] (.agg #[.int .i64 0,.int .i64 0,.bool false,.int .u8 0]) (by kernel_rfl) rfl ⟨_,Try.underlying8,rfl⟩ rfl rfl false (fun h=>by cases h)
theorem ty9:TyOk Try.prog 9 ⟨.str,1,16,[.string ByteArray.empty],false⟩:=TyOk.of (P:=Try.prog) (t:=9) (.str) 1 16 [.string ByteArray.empty] (.string ByteArray.empty) (by kernel_rfl) rfl Try.underlying9 rfl rfl false (fun h=>by cases h)
theorem Yhb:TyOk Try.prog 10 ⟨.str,1,16,[.string ByteArray.empty],false⟩:=TyOk.of (P:=Try.prog) (t:=10) (.str) 1 16 [.string ByteArray.empty] (.string ByteArray.empty) (by kernel_rfl) rfl Try.underlying10 rfl rfl false (fun h=>by cases h)
theorem Yhc:TyOk Try.prog 11 ⟨.str,1,16,[.string ByteArray.empty],false⟩:=TyOk.of (P:=Try.prog) (t:=11) (.str) 1 16 [.string ByteArray.empty] (.string ByteArray.empty) (by kernel_rfl) rfl Try.underlying11 rfl rfl false (fun h=>by cases h)
theorem Yhd:TyOk Try.prog 12 ⟨.int .u64,1,8,[.int .u64 0],false⟩:=TyOk.of (P:=Try.prog) (t:=12) (.int .u64) 1 8 [.int .u64 0] (.int .u64 0) (by kernel_rfl) rfl Try.underlying12 rfl rfl false (fun h=>by cases h)
theorem Yhe:TyOk Try.prog 13 ⟨.struct [(0,9),(1,12)],2,24,[.string ByteArray.empty,.int .u64 0],false⟩:=TyOk.of (P:=Try.prog) (t:=13) (.struct [(0,9),(1,12)]) 2 24 [.string ByteArray.empty,.int .u64 0] (.agg #[.string ByteArray.empty,.int .u64 0]) (by kernel_rfl) rfl ⟨_,Try.underlying13,rfl⟩ rfl rfl false (fun h=>by cases h)
theorem Yhf:TyOk Try.prog 14 ⟨.struct [(0,9),(1,12)],2,24,[.string ByteArray.empty,.int .u64 0],false⟩:=TyOk.of (P:=Try.prog) (t:=14) (.struct [(0,9),(1,12)]) 2 24 [.string ByteArray.empty,.int .u64 0] (.agg #[.string ByteArray.empty,.int .u64 0]) (by kernel_rfl) rfl ⟨_,Try.underlying14,rfl⟩ rfl rfl false (fun h=>by cases h)
theorem Yhg:TyOk Try.prog 15 ⟨.ptr 151,1,8,[.pointer none],false⟩:=TyOk.of (P:=Try.prog) (t:=15) (.ptr 151) 1 8 [.pointer none] (.pointer none) (by kernel_rfl) rfl Try.underlying15 rfl rfl false (fun h=>by cases h)
theorem Yhh:TyOk Try.prog 16 ⟨.ptr 154,1,8,[.pointer none],false⟩:=TyOk.of (P:=Try.prog) (t:=16) (.ptr 154) 1 8 [.pointer none] (.pointer none) (by kernel_rfl) rfl Try.underlying16 rfl rfl false (fun h=>by cases h)
theorem Yhi:TyOk Try.prog 17 ⟨.ptr 164,1,8,[.pointer none],false⟩:=TyOk.of (P:=Try.prog) (t:=17) (.ptr 164) 1 8 [.pointer none] (.pointer none) (by kernel_rfl) rfl Try.underlying17 rfl rfl false (fun h=>by cases h)
theorem Yhj:TyOk Try.prog 18 ⟨.struct [(0,17)],1,8,[.pointer none],false⟩:=TyOk.of (P:=Try.prog) (t:=18) (.struct [(0,17)]) 1 8 [.pointer none] (.agg #[.pointer none]) (by kernel_rfl) rfl ⟨_,Try.underlying18,rfl⟩ rfl rfl false (fun h=>by cases h)
theorem Yhk:TyOk Try.prog 19 ⟨.struct [(0,17)],1,8,[.pointer none],false⟩:=TyOk.of (P:=Try.prog) (t:=19) (.struct [(0,17)]) 1 8 [.pointer none] (.agg #[.pointer none]) (by kernel_rfl) rfl ⟨_,Try.underlying19,rfl⟩ rfl rfl false (fun h=>by cases h)
theorem Yhl:TyOk Try.prog 21 ⟨.int .i32,1,4,[.int .i32 0],false⟩:=TyOk.of (P:=Try.prog) (t:=21) (.int .i32) 1 4 [.int .i32 0] (.int .i32 0) (by kernel_rfl) rfl Try.underlying21 rfl rfl false (fun h=>by cases h)
theorem Yhm:TyOk Try.prog 22 ⟨.slice 40,1,24,[.slice none 0 0],false⟩:=TyOk.of (P:=Try.prog) (t:=22) (.slice 40) 1 24 [.slice none 0 0] (.slice none 0 0) (by kernel_rfl) rfl Try.underlying22 rfl rfl false (fun h=>by cases h)
theorem Yhn:TyOk Try.prog 23 ⟨.slice 25,1,24,[.slice none 0 0],false⟩:=TyOk.of (P:=Try.prog) (t:=23) (.slice 25) 1 24 [.slice none 0 0] (.slice none 0 0) (by kernel_rfl) rfl Try.underlying23 rfl rfl false (fun h=>by cases h)
theorem Yho:TyOk Try.prog 24 ⟨.struct [(0,3),(1,22),(2,23)],3,56,[.int .i64 0,.slice none 0 0,.slice none 0 0],false⟩:=TyOk.of (P:=Try.prog) (t:=24) (.struct [(0,3),(1,22),(2,23)]) 3 56 [.int .i64 0,.slice none 0 0,.slice none 0 0] (.agg #[.int .i64 0,.slice none 0 0,.slice none 0 0]) (by kernel_rfl) rfl ⟨_,Try.underlying24,rfl⟩ rfl rfl false (fun h=>by cases h)
theorem Yhp:TyOk Try.prog 25 ⟨.struct [(0,3),(1,22),(2,23)],3,56,[.int .i64 0,.slice none 0 0,.slice none 0 0],false⟩:=TyOk.of (P:=Try.prog) (t:=25) (.struct [(0,3),(1,22),(2,23)]) 3 56 [.int .i64 0,.slice none 0 0,.slice none 0 0] (.agg #[.int .i64 0,.slice none 0 0,.slice none 0 0]) (by kernel_rfl) rfl ⟨_,Try.underlying25,rfl⟩ rfl rfl false (fun h=>by cases h)
theorem Yhq:TyOk Try.prog 26 ⟨.slice 42,1,24,[.slice none 0 0],false⟩:=TyOk.of (P:=Try.prog) (t:=26) (.slice 42) 1 24 [.slice none 0 0] (.slice none 0 0) (by kernel_rfl) rfl Try.underlying26 rfl rfl false (fun h=>by cases h)
theorem Yhr:TyOk Try.prog 27 ⟨.slice 55,1,24,[.slice none 0 0],false⟩:=TyOk.of (P:=Try.prog) (t:=27) (.slice 55) 1 24 [.slice none 0 0] (.slice none 0 0) (by kernel_rfl) rfl Try.underlying27 rfl rfl false (fun h=>by cases h)
theorem Yhs:TyOk Try.prog 28 ⟨.slice 53,1,24,[.slice none 0 0],false⟩:=TyOk.of (P:=Try.prog) (t:=28) (.slice 53) 1 24 [.slice none 0 0] (.slice none 0 0) (by kernel_rfl) rfl Try.underlying28 rfl rfl false (fun h=>by cases h)
theorem Yht:TyOk Try.prog 29 ⟨.struct [(0,3),(1,25),(4,25),(7,26),(8,27),(9,3),(10,28)],11,200,[.int .i64 0,.int .i64 0,.slice none 0 0,.slice none 0 0,.int .i64 0,.slice none 0 0,.slice none 0 0,.slice none 0 0,.slice none 0 0,.int .i64 0,.slice none 0 0],false⟩:=TyOk.of (P:=Try.prog) (t:=29) (.struct [(0,3),(1,25),(4,25),(7,26),(8,27),(9,3),(10,28)]) 11 200 [.int .i64 0,.int .i64 0,.slice none 0 0,.slice none 0 0,.int .i64 0,.slice none 0 0,.slice none 0 0,.slice none 0 0,.slice none 0 0,.int .i64 0,.slice none 0 0] (.agg #[.int .i64 0,.int .i64 0,.slice none 0 0,.slice none 0 0,.int .i64 0,.slice none 0 0,.slice none 0 0,.slice none 0 0,.slice none 0 0,.int .i64 0,.slice none 0 0]) (by kernel_rfl) rfl ⟨_,Try.underlying29,rfl⟩ rfl rfl false (fun h=>by cases h)
theorem Yhu:TyOk Try.prog 30 ⟨.struct [(0,3),(1,25),(4,25),(7,26),(8,27),(9,3),(10,28)],11,200,[.int .i64 0,.int .i64 0,.slice none 0 0,.slice none 0 0,.int .i64 0,.slice none 0 0,.slice none 0 0,.slice none 0 0,.slice none 0 0,.int .i64 0,.slice none 0 0],false⟩:=TyOk.of (P:=Try.prog) (t:=30) (.struct [(0,3),(1,25),(4,25),(7,26),(8,27),(9,3),(10,28)]) 11 200 [.int .i64 0,.int .i64 0,.slice none 0 0,.slice none 0 0,.int .i64 0,.slice none 0 0,.slice none 0 0,.slice none 0 0,.slice none 0 0,.int .i64 0,.slice none 0 0] (.agg #[.int .i64 0,.int .i64 0,.slice none 0 0,.slice none 0 0,.int .i64 0,.slice none 0 0,.slice none 0 0,.slice none 0 0,.slice none 0 0,.int .i64 0,.slice none 0 0]) (by kernel_rfl) rfl ⟨_,Try.underlying30,rfl⟩ rfl rfl false (fun h=>by cases h)
theorem Yhv:TyOk Try.prog 40 ⟨.int .u64,1,8,[.int .u64 0],false⟩:=TyOk.of (P:=Try.prog) (t:=40) (.int .u64) 1 8 [.int .u64 0] (.int .u64 0) (by kernel_rfl) rfl Try.underlying40 rfl rfl false (fun h=>by cases h)
theorem Yhw:TyOk Try.prog 41 ⟨.struct [(0,3),(1,5),(2,40),(3,40)],4,32,[.int .i64 0,.int .u8 0,.int .u64 0,.int .u64 0],false⟩:=TyOk.of (P:=Try.prog) (t:=41) (.struct [(0,3),(1,5),(2,40),(3,40)]) 4 32 [.int .i64 0,.int .u8 0,.int .u64 0,.int .u64 0] (.agg #[.int .i64 0,.int .u8 0,.int .u64 0,.int .u64 0]) (by kernel_rfl) rfl ⟨_,Try.underlying41,rfl⟩ rfl rfl false (fun h=>by cases h)
theorem Yhx:TyOk Try.prog 42 ⟨.struct [(0,3),(1,5),(2,40),(3,40)],4,32,[.int .i64 0,.int .u8 0,.int .u64 0,.int .u64 0],true⟩:=TyOk.of (P:=Try.prog) (t:=42) (.struct [(0,3),(1,5),(2,40),(3,40)]) 4 32 [.int .i64 0,.int .u8 0,.int .u64 0,.int .u64 0] (.agg #[.int .i64 0,.int .u8 0,.int .u64 0,.int .u64 0]) (by kernel_rfl) rfl ⟨_,Try.underlying42,rfl⟩ rfl rfl true (fun _=>by unfold Yed;exact ⟨by kernel_rfl,by kernel_rfl,by kernel_rfl⟩)
theorem Yhy:TyOk Try.prog 52 ⟨.struct [(0,3),(1,3),(2,23),(3,30)],14,240,[.int .i64 0,.int .i64 0,.slice none 0 0,.int .i64 0,.int .i64 0,.slice none 0 0,.slice none 0 0,.int .i64 0,.slice none 0 0,.slice none 0 0,.slice none 0 0,.slice none 0 0,.int .i64 0,.slice none 0 0],false⟩:=TyOk.of (P:=Try.prog) (t:=52) (.struct [(0,3),(1,3),(2,23),(3,30)]) 14 240 [.int .i64 0,.int .i64 0,.slice none 0 0,.int .i64 0,.int .i64 0,.slice none 0 0,.slice none 0 0,.int .i64 0,.slice none 0 0,.slice none 0 0,.slice none 0 0,.slice none 0 0,.int .i64 0,.slice none 0 0] (.agg #[.int .i64 0,.int .i64 0,.slice none 0 0,.int .i64 0,.int .i64 0,.slice none 0 0,.slice none 0 0,.int .i64 0,.slice none 0 0,.slice none 0 0,.slice none 0 0,.slice none 0 0,.int .i64 0,.slice none 0 0]) (by kernel_rfl) rfl ⟨_,Try.underlying52,rfl⟩ rfl rfl false (fun h=>by cases h)
theorem Yhz:TyOk Try.prog 53 ⟨.struct [(0,3),(1,3),(2,23),(3,30)],14,240,[.int .i64 0,.int .i64 0,.slice none 0 0,.int .i64 0,.int .i64 0,.slice none 0 0,.slice none 0 0,.int .i64 0,.slice none 0 0,.slice none 0 0,.slice none 0 0,.slice none 0 0,.int .i64 0,.slice none 0 0],false⟩:=TyOk.of (P:=Try.prog) (t:=53) (.struct [(0,3),(1,3),(2,23),(3,30)]) 14 240 [.int .i64 0,.int .i64 0,.slice none 0 0,.int .i64 0,.int .i64 0,.slice none 0 0,.slice none 0 0,.int .i64 0,.slice none 0 0,.slice none 0 0,.slice none 0 0,.slice none 0 0,.int .i64 0,.slice none 0 0] (.agg #[.int .i64 0,.int .i64 0,.slice none 0 0,.int .i64 0,.int .i64 0,.slice none 0 0,.slice none 0 0,.int .i64 0,.slice none 0 0,.slice none 0 0,.slice none 0 0,.slice none 0 0,.int .i64 0,.slice none 0 0]) (by kernel_rfl) rfl ⟨_,Try.underlying53,rfl⟩ rfl rfl false (fun h=>by cases h)
theorem Yh0:TyOk Try.prog 54 ⟨.struct [(0,3),(1,30)],12,208,[.int .i64 0,.int .i64 0,.int .i64 0,.slice none 0 0,.slice none 0 0,.int .i64 0,.slice none 0 0,.slice none 0 0,.slice none 0 0,.slice none 0 0,.int .i64 0,.slice none 0 0],false⟩:=TyOk.of (P:=Try.prog) (t:=54) (.struct [(0,3),(1,30)]) 12 208 [.int .i64 0,.int .i64 0,.int .i64 0,.slice none 0 0,.slice none 0 0,.int .i64 0,.slice none 0 0,.slice none 0 0,.slice none 0 0,.slice none 0 0,.int .i64 0,.slice none 0 0] (.agg #[.int .i64 0,.int .i64 0,.int .i64 0,.slice none 0 0,.slice none 0 0,.int .i64 0,.slice none 0 0,.slice none 0 0,.slice none 0 0,.slice none 0 0,.int .i64 0,.slice none 0 0]) (by kernel_rfl) rfl ⟨_,Try.underlying54,rfl⟩ rfl rfl false (fun h=>by cases h)
theorem Yh1:TyOk Try.prog 55 ⟨.struct [(0,3),(1,30)],12,208,[.int .i64 0,.int .i64 0,.int .i64 0,.slice none 0 0,.slice none 0 0,.int .i64 0,.slice none 0 0,.slice none 0 0,.slice none 0 0,.slice none 0 0,.int .i64 0,.slice none 0 0],false⟩:=TyOk.of (P:=Try.prog) (t:=55) (.struct [(0,3),(1,30)]) 12 208 [.int .i64 0,.int .i64 0,.int .i64 0,.slice none 0 0,.slice none 0 0,.int .i64 0,.slice none 0 0,.slice none 0 0,.slice none 0 0,.slice none 0 0,.int .i64 0,.slice none 0 0] (.agg #[.int .i64 0,.int .i64 0,.int .i64 0,.slice none 0 0,.slice none 0 0,.int .i64 0,.slice none 0 0,.slice none 0 0,.slice none 0 0,.slice none 0 0,.int .i64 0,.slice none 0 0]) (by kernel_rfl) rfl ⟨_,Try.underlying55,rfl⟩ rfl rfl false (fun h=>by cases h)
theorem Yh2:TyOk Try.prog 65 ⟨.arr 8 5,8,8,[.int .u8 0,.int .u8 0,.int .u8 0,.int .u8 0,.int .u8 0,.int .u8 0,.int .u8 0,.int .u8 0],false⟩:=TyOk.of (P:=Try.prog) (t:=65) (.arr 8 5) 8 8 [.int .u8 0,.int .u8 0,.int .u8 0,.int .u8 0,.int .u8 0,.int .u8 0,.int .u8 0,.int .u8 0] (.agg #[.int .u8 0,.int .u8 0,.int .u8 0,.int .u8 0,.int .u8 0,.int .u8 0,.int .u8 0,.int .u8 0]) (by kernel_rfl) rfl Try.underlying65 rfl rfl false (fun h=>by cases h)
theorem Yh3:TyOk Try.prog 69 ⟨.slice 5,1,24,[.slice none 0 0],false⟩:=TyOk.of (P:=Try.prog) (t:=69) (.slice 5) 1 24 [.slice none 0 0] (.slice none 0 0) (by kernel_rfl) rfl Try.underlying69 rfl rfl false (fun h=>by cases h)
theorem Yh4:TyOk Try.prog 90 ⟨.slice 94,1,24,[.slice none 0 0],false⟩:=TyOk.of (P:=Try.prog) (t:=90) (.slice 94) 1 24 [.slice none 0 0] (.slice none 0 0) (by kernel_rfl) rfl Try.underlying90 rfl rfl false (fun h=>by cases h)
theorem Yh5:TyOk Try.prog 93 ⟨.struct [(0,3),(1,53),(15,53)],29,488,[.int .i64 0,.int .i64 0,.int .i64 0,.slice none 0 0,.int .i64 0,.int .i64 0,.slice none 0 0,.slice none 0 0,.int .i64 0,.slice none 0 0,.slice none 0 0,.slice none 0 0,.slice none 0 0,.int .i64 0,.slice none 0 0,.int .i64 0,.int .i64 0,.slice none 0 0,.int .i64 0,.int .i64 0,.slice none 0 0,.slice none 0 0,.int .i64 0,.slice none 0 0,.slice none 0 0,.slice none 0 0,.slice none 0 0,.int .i64 0,.slice none 0 0],false⟩:=TyOk.of (P:=Try.prog) (t:=93) (.struct [(0,3),(1,53),(15,53)]) 29 488 [.int .i64 0,.int .i64 0,.int .i64 0,.slice none 0 0,.int .i64 0,.int .i64 0,.slice none 0 0,.slice none 0 0,.int .i64 0,.slice none 0 0,.slice none 0 0,.slice none 0 0,.slice none 0 0,.int .i64 0,.slice none 0 0,.int .i64 0,.int .i64 0,.slice none 0 0,.int .i64 0,.int .i64 0,.slice none 0 0,.slice none 0 0,.int .i64 0,.slice none 0 0,.slice none 0 0,.slice none 0 0,.slice none 0 0,.int .i64 0,.slice none 0 0] (.agg #[.int .i64 0,.int .i64 0,.int .i64 0,.slice none 0 0,.int .i64 0,.int .i64 0,.slice none 0 0,.slice none 0 0,.int .i64 0,.slice none 0 0,.slice none 0 0,.slice none 0 0,.slice none 0 0,.int .i64 0,.slice none 0 0,.int .i64 0,.int .i64 0,.slice none 0 0,.int .i64 0,.int .i64 0,.slice none 0 0,.slice none 0 0,.int .i64 0,.slice none 0 0,.slice none 0 0,.slice none 0 0,.slice none 0 0,.int .i64 0,.slice none 0 0]) (by kernel_rfl) rfl ⟨_,Try.underlying93,rfl⟩ rfl rfl false (fun h=>by cases h)
theorem Yh6:TyOk Try.prog 94 ⟨.struct [(0,3),(1,53),(15,53)],29,488,[.int .i64 0,.int .i64 0,.int .i64 0,.slice none 0 0,.int .i64 0,.int .i64 0,.slice none 0 0,.slice none 0 0,.int .i64 0,.slice none 0 0,.slice none 0 0,.slice none 0 0,.slice none 0 0,.int .i64 0,.slice none 0 0,.int .i64 0,.int .i64 0,.slice none 0 0,.int .i64 0,.int .i64 0,.slice none 0 0,.slice none 0 0,.int .i64 0,.slice none 0 0,.slice none 0 0,.slice none 0 0,.slice none 0 0,.int .i64 0,.slice none 0 0],false⟩:=TyOk.of (P:=Try.prog) (t:=94) (.struct [(0,3),(1,53),(15,53)]) 29 488 [.int .i64 0,.int .i64 0,.int .i64 0,.slice none 0 0,.int .i64 0,.int .i64 0,.slice none 0 0,.slice none 0 0,.int .i64 0,.slice none 0 0,.slice none 0 0,.slice none 0 0,.slice none 0 0,.int .i64 0,.slice none 0 0,.int .i64 0,.int .i64 0,.slice none 0 0,.int .i64 0,.int .i64 0,.slice none 0 0,.slice none 0 0,.int .i64 0,.slice none 0 0,.slice none 0 0,.slice none 0 0,.slice none 0 0,.int .i64 0,.slice none 0 0] (.agg #[.int .i64 0,.int .i64 0,.int .i64 0,.slice none 0 0,.int .i64 0,.int .i64 0,.slice none 0 0,.slice none 0 0,.int .i64 0,.slice none 0 0,.slice none 0 0,.slice none 0 0,.slice none 0 0,.int .i64 0,.slice none 0 0,.int .i64 0,.int .i64 0,.slice none 0 0,.int .i64 0,.int .i64 0,.slice none 0 0,.slice none 0 0,.int .i64 0,.slice none 0 0,.slice none 0 0,.slice none 0 0,.slice none 0 0,.int .i64 0,.slice none 0 0]) (by kernel_rfl) rfl ⟨_,Try.underlying94,rfl⟩ rfl rfl false (fun h=>by cases h)
theorem Yh7:TyOk Try.prog 97 ⟨.struct [(0,28),(1,3),(2,23),(3,23)],4,80,[.slice none 0 0,.int .i64 0,.slice none 0 0,.slice none 0 0],false⟩:=TyOk.of (P:=Try.prog) (t:=97) (.struct [(0,28),(1,3),(2,23),(3,23)]) 4 80 [.slice none 0 0,.int .i64 0,.slice none 0 0,.slice none 0 0] (.agg #[.slice none 0 0,.int .i64 0,.slice none 0 0,.slice none 0 0]) (by kernel_rfl) rfl ⟨_,Try.underlying97,rfl⟩ rfl rfl false (fun h=>by cases h)
theorem Yh8:TyOk Try.prog 98 ⟨.struct [(0,28),(1,3),(2,23),(3,23)],4,80,[.slice none 0 0,.int .i64 0,.slice none 0 0,.slice none 0 0],false⟩:=TyOk.of (P:=Try.prog) (t:=98) (.struct [(0,28),(1,3),(2,23),(3,23)]) 4 80 [.slice none 0 0,.int .i64 0,.slice none 0 0,.slice none 0 0] (.agg #[.slice none 0 0,.int .i64 0,.slice none 0 0,.slice none 0 0]) (by kernel_rfl) rfl ⟨_,Try.underlying98,rfl⟩ rfl rfl false (fun h=>by cases h)
theorem Yf4:TyOk Try.prog 101 ⟨.ptr 23,1,8,[.pointer none],false⟩:=TyOk.of (P:=Try.prog) (t:=101) (.ptr 23) 1 8 [.pointer none] (.pointer none) (by kernel_rfl) rfl Try.underlying101 rfl rfl false (fun h=>by cases h)
theorem Yf5:TyOk Try.prog 103 ⟨.slice 3,1,24,[.slice none 0 0],false⟩:=TyOk.of (P:=Try.prog) (t:=103) (.slice 3) 1 24 [.slice none 0 0] (.slice none 0 0) (by kernel_rfl) rfl Try.underlying103 rfl rfl false (fun h=>by cases h)
theorem Yf6:TyOk Try.prog 108 ⟨.slice 116,1,24,[.slice none 0 0],false⟩:=TyOk.of (P:=Try.prog) (t:=108) (.slice 116) 1 24 [.slice none 0 0] (.slice none 0 0) (by kernel_rfl) rfl Try.underlying108 rfl rfl false (fun h=>by cases h)
theorem Yf7:TyOk Try.prog 111 ⟨.slice 114,1,24,[.slice none 0 0],false⟩:=TyOk.of (P:=Try.prog) (t:=111) (.slice 114) 1 24 [.slice none 0 0] (.slice none 0 0) (by kernel_rfl) rfl Try.underlying111 rfl rfl false (fun h=>by cases h)
theorem Yf8:TyOk Try.prog 113 ⟨.struct [(0,3),(1,3),(2,25),(5,30),(16,4)],17,280,[.int .i64 0,.int .i64 0,.int .i64 0,.slice none 0 0,.slice none 0 0,.int .i64 0,.int .i64 0,.slice none 0 0,.slice none 0 0,.int .i64 0,.slice none 0 0,.slice none 0 0,.slice none 0 0,.slice none 0 0,.int .i64 0,.slice none 0 0,.bool false],false⟩:=TyOk.of (P:=Try.prog) (t:=113) (.struct [(0,3),(1,3),(2,25),(5,30),(16,4)]) 17 280 [.int .i64 0,.int .i64 0,.int .i64 0,.slice none 0 0,.slice none 0 0,.int .i64 0,.int .i64 0,.slice none 0 0,.slice none 0 0,.int .i64 0,.slice none 0 0,.slice none 0 0,.slice none 0 0,.slice none 0 0,.int .i64 0,.slice none 0 0,.bool false] (.agg #[.int .i64 0,.int .i64 0,.int .i64 0,.slice none 0 0,.slice none 0 0,.int .i64 0,.int .i64 0,.slice none 0 0,.slice none 0 0,.int .i64 0,.slice none 0 0,.slice none 0 0,.slice none 0 0,.slice none 0 0,.int .i64 0,.slice none 0 0,.bool false]) (by kernel_rfl) rfl ⟨_,Try.underlying113,rfl⟩ rfl rfl false (fun h=>by cases h)
theorem Yf9:TyOk Try.prog 114 ⟨.struct [(0,3),(1,3),(2,25),(5,30),(16,4)],17,280,[.int .i64 0,.int .i64 0,.int .i64 0,.slice none 0 0,.slice none 0 0,.int .i64 0,.int .i64 0,.slice none 0 0,.slice none 0 0,.int .i64 0,.slice none 0 0,.slice none 0 0,.slice none 0 0,.slice none 0 0,.int .i64 0,.slice none 0 0,.bool false],false⟩:=TyOk.of (P:=Try.prog) (t:=114) (.struct [(0,3),(1,3),(2,25),(5,30),(16,4)]) 17 280 [.int .i64 0,.int .i64 0,.int .i64 0,.slice none 0 0,.slice none 0 0,.int .i64 0,.int .i64 0,.slice none 0 0,.slice none 0 0,.int .i64 0,.slice none 0 0,.slice none 0 0,.slice none 0 0,.slice none 0 0,.int .i64 0,.slice none 0 0,.bool false] (.agg #[.int .i64 0,.int .i64 0,.int .i64 0,.slice none 0 0,.slice none 0 0,.int .i64 0,.int .i64 0,.slice none 0 0,.slice none 0 0,.int .i64 0,.slice none 0 0,.slice none 0 0,.slice none 0 0,.slice none 0 0,.int .i64 0,.slice none 0 0,.bool false]) (by kernel_rfl) rfl ⟨_,Try.underlying114,rfl⟩ rfl rfl false (fun h=>by cases h)
theorem Yga:TyOk Try.prog 115 ⟨.struct [(0,3),(1,114),(18,114)],35,568,[.int .i64 0,.int .i64 0,.int .i64 0,.int .i64 0,.slice none 0 0,.slice none 0 0,.int .i64 0,.int .i64 0,.slice none 0 0,.slice none 0 0,.int .i64 0,.slice none 0 0,.slice none 0 0,.slice none 0 0,.slice none 0 0,.int .i64 0,.slice none 0 0,.bool false,.int .i64 0,.int .i64 0,.int .i64 0,.slice none 0 0,.slice none 0 0,.int .i64 0,.int .i64 0,.slice none 0 0,.slice none 0 0,.int .i64 0,.slice none 0 0,.slice none 0 0,.slice none 0 0,.slice none 0 0,.int .i64 0,.slice none 0 0,.bool false],false⟩:=TyOk.of (P:=Try.prog) (t:=115) (.struct [(0,3),(1,114),(18,114)]) 35 568 [.int .i64 0,.int .i64 0,.int .i64 0,.int .i64 0,.slice none 0 0,.slice none 0 0,.int .i64 0,.int .i64 0,.slice none 0 0,.slice none 0 0,.int .i64 0,.slice none 0 0,.slice none 0 0,.slice none 0 0,.slice none 0 0,.int .i64 0,.slice none 0 0,.bool false,.int .i64 0,.int .i64 0,.int .i64 0,.slice none 0 0,.slice none 0 0,.int .i64 0,.int .i64 0,.slice none 0 0,.slice none 0 0,.int .i64 0,.slice none 0 0,.slice none 0 0,.slice none 0 0,.slice none 0 0,.int .i64 0,.slice none 0 0,.bool false] (.agg #[.int .i64 0,.int .i64 0,.int .i64 0,.int .i64 0,.slice none 0 0,.slice none 0 0,.int .i64 0,.int .i64 0,.slice none 0 0,.slice none 0 0,.int .i64 0,.slice none 0 0,.slice none 0 0,.slice none 0 0,.slice none 0 0,.int .i64 0,.slice none 0 0,.bool false,.int .i64 0,.int .i64 0,.int .i64 0,.slice none 0 0,.slice none 0 0,.int .i64 0,.int .i64 0,.slice none 0 0,.slice none 0 0,.int .i64 0,.slice none 0 0,.slice none 0 0,.slice none 0 0,.slice none 0 0,.int .i64 0,.slice none 0 0,.bool false]) (by kernel_rfl) rfl ⟨_,Try.underlying115,rfl⟩ rfl rfl false (fun h=>by cases h)
theorem Ygb:TyOk Try.prog 116 ⟨.struct [(0,3),(1,114),(18,114)],35,568,[.int .i64 0,.int .i64 0,.int .i64 0,.int .i64 0,.slice none 0 0,.slice none 0 0,.int .i64 0,.int .i64 0,.slice none 0 0,.slice none 0 0,.int .i64 0,.slice none 0 0,.slice none 0 0,.slice none 0 0,.slice none 0 0,.int .i64 0,.slice none 0 0,.bool false,.int .i64 0,.int .i64 0,.int .i64 0,.slice none 0 0,.slice none 0 0,.int .i64 0,.int .i64 0,.slice none 0 0,.slice none 0 0,.int .i64 0,.slice none 0 0,.slice none 0 0,.slice none 0 0,.slice none 0 0,.int .i64 0,.slice none 0 0,.bool false],false⟩:=TyOk.of (P:=Try.prog) (t:=116) (.struct [(0,3),(1,114),(18,114)]) 35 568 [.int .i64 0,.int .i64 0,.int .i64 0,.int .i64 0,.slice none 0 0,.slice none 0 0,.int .i64 0,.int .i64 0,.slice none 0 0,.slice none 0 0,.int .i64 0,.slice none 0 0,.slice none 0 0,.slice none 0 0,.slice none 0 0,.int .i64 0,.slice none 0 0,.bool false,.int .i64 0,.int .i64 0,.int .i64 0,.slice none 0 0,.slice none 0 0,.int .i64 0,.int .i64 0,.slice none 0 0,.slice none 0 0,.int .i64 0,.slice none 0 0,.slice none 0 0,.slice none 0 0,.slice none 0 0,.int .i64 0,.slice none 0 0,.bool false] (.agg #[.int .i64 0,.int .i64 0,.int .i64 0,.int .i64 0,.slice none 0 0,.slice none 0 0,.int .i64 0,.int .i64 0,.slice none 0 0,.slice none 0 0,.int .i64 0,.slice none 0 0,.slice none 0 0,.slice none 0 0,.slice none 0 0,.int .i64 0,.slice none 0 0,.bool false,.int .i64 0,.int .i64 0,.int .i64 0,.slice none 0 0,.slice none 0 0,.int .i64 0,.int .i64 0,.slice none 0 0,.slice none 0 0,.int .i64 0,.slice none 0 0,.slice none 0 0,.slice none 0 0,.slice none 0 0,.int .i64 0,.slice none 0 0,.bool false]) (by kernel_rfl) rfl ⟨_,Try.underlying116,rfl⟩ rfl rfl false (fun h=>by cases h)
theorem Ygc:TyOk Try.prog 127 ⟨.ptr 25,1,8,[.pointer none],false⟩:=TyOk.of (P:=Try.prog) (t:=127) (.ptr 25) 1 8 [.pointer none] (.pointer none) (by kernel_rfl) rfl Try.underlying127 rfl rfl false (fun h=>by cases h)
theorem Ygd:TyOk Try.prog 130 ⟨.struct [(0,23),(1,23)],2,48,[.slice none 0 0,.slice none 0 0],false⟩:=TyOk.of (P:=Try.prog) (t:=130) (.struct [(0,23),(1,23)]) 2 48 [.slice none 0 0,.slice none 0 0] (.agg #[.slice none 0 0,.slice none 0 0]) (by kernel_rfl) rfl ⟨_,Try.underlying130,rfl⟩ rfl rfl false (fun h=>by cases h)
theorem Yge:TyOk Try.prog 131 ⟨.struct [(0,23),(1,23)],2,48,[.slice none 0 0,.slice none 0 0],false⟩:=TyOk.of (P:=Try.prog) (t:=131) (.struct [(0,23),(1,23)]) 2 48 [.slice none 0 0,.slice none 0 0] (.agg #[.slice none 0 0,.slice none 0 0]) (by kernel_rfl) rfl ⟨_,Try.underlying131,rfl⟩ rfl rfl false (fun h=>by cases h)
theorem Ygf:TyOk Try.prog 135 ⟨.ptr 98,1,8,[.pointer none],false⟩:=TyOk.of (P:=Try.prog) (t:=135) (.ptr 98) 1 8 [.pointer none] (.pointer none) (by kernel_rfl) rfl Try.underlying135 rfl rfl false (fun h=>by cases h)
theorem Ygg:TyOk Try.prog 138 ⟨.ptr 131,1,8,[.pointer none],false⟩:=TyOk.of (P:=Try.prog) (t:=138) (.ptr 131) 1 8 [.pointer none] (.pointer none) (by kernel_rfl) rfl Try.underlying138 rfl rfl false (fun h=>by cases h)
theorem Ygh:TyOk Try.prog 139 ⟨.struct [(0,28),(1,3)],2,32,[.slice none 0 0,.int .i64 0],false⟩:=TyOk.of (P:=Try.prog) (t:=139) (.struct [(0,28),(1,3)]) 2 32 [.slice none 0 0,.int .i64 0] (.agg #[.slice none 0 0,.int .i64 0]) (by kernel_rfl) rfl ⟨_,Try.underlying139,rfl⟩ rfl rfl false (fun h=>by cases h)
theorem Ygi:TyOk Try.prog 140 ⟨.struct [(0,28),(1,3)],2,32,[.slice none 0 0,.int .i64 0],false⟩:=TyOk.of (P:=Try.prog) (t:=140) (.struct [(0,28),(1,3)]) 2 32 [.slice none 0 0,.int .i64 0] (.agg #[.slice none 0 0,.int .i64 0]) (by kernel_rfl) rfl ⟨_,Try.underlying140,rfl⟩ rfl rfl false (fun h=>by cases h)
theorem Ygj:TyOk Try.prog 145 ⟨.ptr 140,1,8,[.pointer none],false⟩:=TyOk.of (P:=Try.prog) (t:=145) (.ptr 140) 1 8 [.pointer none] (.pointer none) (by kernel_rfl) rfl Try.underlying145 rfl rfl false (fun h=>by cases h)
theorem Ygk:TyOk Try.prog 148 ⟨.arr 6 3,6,48,[.int .i64 0,.int .i64 0,.int .i64 0,.int .i64 0,.int .i64 0,.int .i64 0],false⟩:=TyOk.of (P:=Try.prog) (t:=148) (.arr 6 3) 6 48 [.int .i64 0,.int .i64 0,.int .i64 0,.int .i64 0,.int .i64 0,.int .i64 0] (.agg #[.int .i64 0,.int .i64 0,.int .i64 0,.int .i64 0,.int .i64 0,.int .i64 0]) (by kernel_rfl) rfl Try.underlying148 rfl rfl false (fun h=>by cases h)
theorem Ygl:TyOk Try.prog 150 ⟨.struct [(0,17),(1,17),(2,17),(3,9)],4,40,[.pointer none,.pointer none,.pointer none,.string ByteArray.empty],false⟩:=TyOk.of (P:=Try.prog) (t:=150) (.struct [(0,17),(1,17),(2,17),(3,9)]) 4 40 [.pointer none,.pointer none,.pointer none,.string ByteArray.empty] (.agg #[.pointer none,.pointer none,.pointer none,.string ByteArray.empty]) (by kernel_rfl) rfl ⟨_,Try.underlying150,rfl⟩ rfl rfl false (fun h=>by cases h)
theorem Ygm:TyOk Try.prog 151 ⟨.struct [(0,17),(1,17),(2,17),(3,9)],4,40,[.pointer none,.pointer none,.pointer none,.string ByteArray.empty],false⟩:=TyOk.of (P:=Try.prog) (t:=151) (.struct [(0,17),(1,17),(2,17),(3,9)]) 4 40 [.pointer none,.pointer none,.pointer none,.string ByteArray.empty] (.agg #[.pointer none,.pointer none,.pointer none,.string ByteArray.empty]) (by kernel_rfl) rfl ⟨_,Try.underlying151,rfl⟩ rfl rfl false (fun h=>by cases h)
theorem Ygn:TyOk Try.prog 156 ⟨.int .u32,1,4,[.int .u32 0],false⟩:=TyOk.of (P:=Try.prog) (t:=156) (.int .u32) 1 4 [.int .u32 0] (.int .u32 0) (by kernel_rfl) rfl Try.underlying156 rfl rfl false (fun h=>by cases h)
theorem Ygo:TyOk Try.prog 157 ⟨.int .u8,1,1,[.int .u8 0],false⟩:=TyOk.of (P:=Try.prog) (t:=157) (.int .u8) 1 1 [.int .u8 0] (.int .u8 0) (by kernel_rfl) rfl Try.underlying157 rfl rfl false (fun h=>by cases h)
theorem Ygp:TyOk Try.prog 158 ⟨.int .u8,1,1,[.int .u8 0],false⟩:=TyOk.of (P:=Try.prog) (t:=158) (.int .u8) 1 1 [.int .u8 0] (.int .u8 0) (by kernel_rfl) rfl Try.underlying158 rfl rfl false (fun h=>by cases h)
theorem Ygq:TyOk Try.prog 160 ⟨.ptr 5,1,8,[.pointer none],false⟩:=TyOk.of (P:=Try.prog) (t:=160) (.ptr 5) 1 8 [.pointer none] (.pointer none) (by kernel_rfl) rfl Try.underlying160 rfl rfl false (fun h=>by cases h)
theorem Ygr:TyOk Try.prog 161 ⟨.int .i32,1,4,[.int .i32 0],false⟩:=TyOk.of (P:=Try.prog) (t:=161) (.int .i32) 1 4 [.int .i32 0] (.int .i32 0) (by kernel_rfl) rfl Try.underlying161 rfl rfl false (fun h=>by cases h)
theorem Ygs:TyOk Try.prog 162 ⟨.int .i32,1,4,[.int .i32 0],false⟩:=TyOk.of (P:=Try.prog) (t:=162) (.int .i32) 1 4 [.int .i32 0] (.int .i32 0) (by kernel_rfl) rfl Try.underlying162 rfl rfl false (fun h=>by cases h)
def tabL:List (Nat×TyI):=[(2,⟨.int .i64,1,8,[.int .i64 0],false⟩),
 (3,⟨.int .i64,1,8,[.int .i64 0],false⟩),
 (4,⟨.bool,1,1,[.bool false],false⟩),
 (5,⟨.int .u8,1,1,[.int .u8 0],false⟩),
 (6,⟨.int .u8,1,1,[.int .u8 0],false⟩),
 (7,⟨.struct [(0,2),(1,3),(2,4),(3,6)],4,24,[.int .i64 0,.int .i64 0,.bool false,.int .u8 0],false⟩),
 (8,⟨.struct [(0,2),(1,3),(2,4),(3,6)],4,24,[.int .i64 0,.int .i64 0,.bool false,.int .u8 0],false⟩),
 (9,⟨.str,1,16,[.string ByteArray.empty],false⟩),
 (10,⟨.str,1,16,[.string ByteArray.empty],false⟩),
 (11,⟨.str,1,16,[.string ByteArray.empty],false⟩),
 (12,⟨.int .u64,1,8,[.int .u64 0],false⟩),
 (13,⟨.struct [(0,9),(1,12)],2,24,[.string ByteArray.empty,.int .u64 0],false⟩),
 (14,⟨.struct [(0,9),(1,12)],2,24,[.string ByteArray.empty,.int .u64 0],false⟩),
 (15,⟨.ptr 151,1,8,[.pointer none],false⟩),
 (16,⟨.ptr 154,1,8,[.pointer none],false⟩),
 (17,⟨.ptr 164,1,8,[.pointer none],false⟩),
 (18,⟨.struct [(0,17)],1,8,[.pointer none],false⟩),
 (19,⟨.struct [(0,17)],1,8,[.pointer none],false⟩),
 (21,⟨.int .i32,1,4,[.int .i32 0],false⟩),
 (22,⟨.slice 40,1,24,[.slice none 0 0],false⟩),
 (23,⟨.slice 25,1,24,[.slice none 0 0],false⟩),
 (24,⟨.struct [(0,3),(1,22),(2,23)],3,56,[.int .i64 0,.slice none 0 0,.slice none 0 0],false⟩),
 (25,⟨.struct [(0,3),(1,22),(2,23)],3,56,[.int .i64 0,.slice none 0 0,.slice none 0 0],false⟩),
 (26,⟨.slice 42,1,24,[.slice none 0 0],false⟩),
 (27,⟨.slice 55,1,24,[.slice none 0 0],false⟩),
 (28,⟨.slice 53,1,24,[.slice none 0 0],false⟩),
 (29,⟨.struct [(0,3),(1,25),(4,25),(7,26),(8,27),(9,3),(10,28)],11,200,[.int .i64 0,.int .i64 0,.slice none 0 0,.slice none 0 0,.int .i64 0,.slice none 0 0,.slice none 0 0,.slice none 0 0,.slice none 0 0,.int .i64 0,.slice none 0 0],false⟩),
 (30,⟨.struct [(0,3),(1,25),(4,25),(7,26),(8,27),(9,3),(10,28)],11,200,[.int .i64 0,.int .i64 0,.slice none 0 0,.slice none 0 0,.int .i64 0,.slice none 0 0,.slice none 0 0,.slice none 0 0,.slice none 0 0,.int .i64 0,.slice none 0 0],false⟩),
 (40,⟨.int .u64,1,8,[.int .u64 0],false⟩),
 (41,⟨.struct [(0,3),(1,5),(2,40),(3,40)],4,32,[.int .i64 0,.int .u8 0,.int .u64 0,.int .u64 0],false⟩),
 (42,⟨.struct [(0,3),(1,5),(2,40),(3,40)],4,32,[.int .i64 0,.int .u8 0,.int .u64 0,.int .u64 0],true⟩),
 (52,⟨.struct [(0,3),(1,3),(2,23),(3,30)],14,240,[.int .i64 0,.int .i64 0,.slice none 0 0,.int .i64 0,.int .i64 0,.slice none 0 0,.slice none 0 0,.int .i64 0,.slice none 0 0,.slice none 0 0,.slice none 0 0,.slice none 0 0,.int .i64 0,.slice none 0 0],false⟩),
 (53,⟨.struct [(0,3),(1,3),(2,23),(3,30)],14,240,[.int .i64 0,.int .i64 0,.slice none 0 0,.int .i64 0,.int .i64 0,.slice none 0 0,.slice none 0 0,.int .i64 0,.slice none 0 0,.slice none 0 0,.slice none 0 0,.slice none 0 0,.int .i64 0,.slice none 0 0],false⟩),
 (54,⟨.struct [(0,3),(1,30)],12,208,[.int .i64 0,.int .i64 0,.int .i64 0,.slice none 0 0,.slice none 0 0,.int .i64 0,.slice none 0 0,.slice none 0 0,.slice none 0 0,.slice none 0 0,.int .i64 0,.slice none 0 0],false⟩),
 (55,⟨.struct [(0,3),(1,30)],12,208,[.int .i64 0,.int .i64 0,.int .i64 0,.slice none 0 0,.slice none 0 0,.int .i64 0,.slice none 0 0,.slice none 0 0,.slice none 0 0,.slice none 0 0,.int .i64 0,.slice none 0 0],false⟩),
 (65,⟨.arr 8 5,8,8,[.int .u8 0,.int .u8 0,.int .u8 0,.int .u8 0,.int .u8 0,.int .u8 0,.int .u8 0,.int .u8 0],false⟩),
 (69,⟨.slice 5,1,24,[.slice none 0 0],false⟩),
 (90,⟨.slice 94,1,24,[.slice none 0 0],false⟩),
 (93,⟨.struct [(0,3),(1,53),(15,53)],29,488,[.int .i64 0,.int .i64 0,.int .i64 0,.slice none 0 0,.int .i64 0,.int .i64 0,.slice none 0 0,.slice none 0 0,.int .i64 0,.slice none 0 0,.slice none 0 0,.slice none 0 0,.slice none 0 0,.int .i64 0,.slice none 0 0,.int .i64 0,.int .i64 0,.slice none 0 0,.int .i64 0,.int .i64 0,.slice none 0 0,.slice none 0 0,.int .i64 0,.slice none 0 0,.slice none 0 0,.slice none 0 0,.slice none 0 0,.int .i64 0,.slice none 0 0],false⟩),
 (94,⟨.struct [(0,3),(1,53),(15,53)],29,488,[.int .i64 0,.int .i64 0,.int .i64 0,.slice none 0 0,.int .i64 0,.int .i64 0,.slice none 0 0,.slice none 0 0,.int .i64 0,.slice none 0 0,.slice none 0 0,.slice none 0 0,.slice none 0 0,.int .i64 0,.slice none 0 0,.int .i64 0,.int .i64 0,.slice none 0 0,.int .i64 0,.int .i64 0,.slice none 0 0,.slice none 0 0,.int .i64 0,.slice none 0 0,.slice none 0 0,.slice none 0 0,.slice none 0 0,.int .i64 0,.slice none 0 0],false⟩),
 (97,⟨.struct [(0,28),(1,3),(2,23),(3,23)],4,80,[.slice none 0 0,.int .i64 0,.slice none 0 0,.slice none 0 0],false⟩),
 (98,⟨.struct [(0,28),(1,3),(2,23),(3,23)],4,80,[.slice none 0 0,.int .i64 0,.slice none 0 0,.slice none 0 0],false⟩),
 (101,⟨.ptr 23,1,8,[.pointer none],false⟩),
 (103,⟨.slice 3,1,24,[.slice none 0 0],false⟩),
 (108,⟨.slice 116,1,24,[.slice none 0 0],false⟩),
 (111,⟨.slice 114,1,24,[.slice none 0 0],false⟩),
 (113,⟨.struct [(0,3),(1,3),(2,25),(5,30),(16,4)],17,280,[.int .i64 0,.int .i64 0,.int .i64 0,.slice none 0 0,.slice none 0 0,.int .i64 0,.int .i64 0,.slice none 0 0,.slice none 0 0,.int .i64 0,.slice none 0 0,.slice none 0 0,.slice none 0 0,.slice none 0 0,.int .i64 0,.slice none 0 0,.bool false],false⟩),
 (114,⟨.struct [(0,3),(1,3),(2,25),(5,30),(16,4)],17,280,[.int .i64 0,.int .i64 0,.int .i64 0,.slice none 0 0,.slice none 0 0,.int .i64 0,.int .i64 0,.slice none 0 0,.slice none 0 0,.int .i64 0,.slice none 0 0,.slice none 0 0,.slice none 0 0,.slice none 0 0,.int .i64 0,.slice none 0 0,.bool false],false⟩),
 (115,⟨.struct [(0,3),(1,114),(18,114)],35,568,[.int .i64 0,.int .i64 0,.int .i64 0,.int .i64 0,.slice none 0 0,.slice none 0 0,.int .i64 0,.int .i64 0,.slice none 0 0,.slice none 0 0,.int .i64 0,.slice none 0 0,.slice none 0 0,.slice none 0 0,.slice none 0 0,.int .i64 0,.slice none 0 0,.bool false,.int .i64 0,.int .i64 0,.int .i64 0,.slice none 0 0,.slice none 0 0,.int .i64 0,.int .i64 0,.slice none 0 0,.slice none 0 0,.int .i64 0,.slice none 0 0,.slice none 0 0,.slice none 0 0,.slice none 0 0,.int .i64 0,.slice none 0 0,.bool false],false⟩),
 (116,⟨.struct [(0,3),(1,114),(18,114)],35,568,[.int .i64 0,.int .i64 0,.int .i64 0,.int .i64 0,.slice none 0 0,.slice none 0 0,.int .i64 0,.int .i64 0,.slice none 0 0,.slice none 0 0,.int .i64 0,.slice none 0 0,.slice none 0 0,.slice none 0 0,.slice none 0 0,.int .i64 0,.slice none 0 0,.bool false,.int .i64 0,.int .i64 0,.int .i64 0,.slice none 0 0,.slice none 0 0,.int .i64 0,.int .i64 0,.slice none 0 0,.slice none 0 0,.int .i64 0,.slice none 0 0,.slice none 0 0,.slice none 0 0,.slice none 0 0,.int .i64 0,.slice none 0 0,.bool false],false⟩),
 (127,⟨.ptr 25,1,8,[.pointer none],false⟩),
 (130,⟨.struct [(0,23),(1,23)],2,48,[.slice none 0 0,.slice none 0 0],false⟩),
 (131,⟨.struct [(0,23),(1,23)],2,48,[.slice none 0 0,.slice none 0 0],false⟩),
 (135,⟨.ptr 98,1,8,[.pointer none],false⟩),
 (138,⟨.ptr 131,1,8,[.pointer none],false⟩),
 (139,⟨.struct [(0,28),(1,3)],2,32,[.slice none 0 0,.int .i64 0],false⟩),
 (140,⟨.struct [(0,28),(1,3)],2,32,[.slice none 0 0,.int .i64 0],false⟩),
 (145,⟨.ptr 140,1,8,[.pointer none],false⟩),
 (148,⟨.arr 6 3,6,48,[.int .i64 0,.int .i64 0,.int .i64 0,.int .i64 0,.int .i64 0,.int .i64 0],false⟩),
 (150,⟨.struct [(0,17),(1,17),(2,17),(3,9)],4,40,[.pointer none,.pointer none,.pointer none,.string ByteArray.empty],false⟩),
 (151,⟨.struct [(0,17),(1,17),(2,17),(3,9)],4,40,[.pointer none,.pointer none,.pointer none,.string ByteArray.empty],false⟩),
 (156,⟨.int .u32,1,4,[.int .u32 0],false⟩),
 (157,⟨.int .u8,1,1,[.int .u8 0],false⟩),
 (158,⟨.int .u8,1,1,[.int .u8 0],false⟩),
 (160,⟨.ptr 5,1,8,[.pointer none],false⟩),
 (161,⟨.int .i32,1,4,[.int .i32 0],false⟩),
 (162,⟨.int .i32,1,4,[.int .i32 0],false⟩)]
def Vk:Gr:=fun t=>tabL.lookup t
theorem Zy:K9 Try.prog Vk:=fun t i h=>by
 have hm:=Z0d _ h
 unfold tabL at hm
 simp only [List.mem_cons,Prod.mk.injEq,List.not_mem_nil,or_false] at hm
 rcases hm with ⟨rfl,rfl⟩ | ⟨rfl,rfl⟩ | ⟨rfl,rfl⟩ | ⟨rfl,rfl⟩ | ⟨rfl,rfl⟩ | ⟨rfl,rfl⟩ | ⟨rfl,rfl⟩ | ⟨rfl,rfl⟩ | ⟨rfl,rfl⟩ | ⟨rfl,rfl⟩ | ⟨rfl,rfl⟩ | ⟨rfl,rfl⟩ | ⟨rfl,rfl⟩ | ⟨rfl,rfl⟩ | ⟨rfl,rfl⟩ | ⟨rfl,rfl⟩ | ⟨rfl,rfl⟩ | ⟨rfl,rfl⟩ | ⟨rfl,rfl⟩ | ⟨rfl,rfl⟩ | ⟨rfl,rfl⟩ | ⟨rfl,rfl⟩ | ⟨rfl,rfl⟩ | ⟨rfl,rfl⟩ | ⟨rfl,rfl⟩ | ⟨rfl,rfl⟩ | ⟨rfl,rfl⟩ | ⟨rfl,rfl⟩ | ⟨rfl,rfl⟩ | ⟨rfl,rfl⟩ | ⟨rfl,rfl⟩ | ⟨rfl,rfl⟩ | ⟨rfl,rfl⟩ | ⟨rfl,rfl⟩ | ⟨rfl,rfl⟩ | ⟨rfl,rfl⟩ | ⟨rfl,rfl⟩ | ⟨rfl,rfl⟩ | ⟨rfl,rfl⟩ | ⟨rfl,rfl⟩ | ⟨rfl,rfl⟩ | ⟨rfl,rfl⟩ | ⟨rfl,rfl⟩ | ⟨rfl,rfl⟩ | ⟨rfl,rfl⟩ | ⟨rfl,rfl⟩ | ⟨rfl,rfl⟩ | ⟨rfl,rfl⟩ | ⟨rfl,rfl⟩ | ⟨rfl,rfl⟩ | ⟨rfl,rfl⟩ | ⟨rfl,rfl⟩ | ⟨rfl,rfl⟩ | ⟨rfl,rfl⟩ | ⟨rfl,rfl⟩ | ⟨rfl,rfl⟩ | ⟨rfl,rfl⟩ | ⟨rfl,rfl⟩ | ⟨rfl,rfl⟩ | ⟨rfl,rfl⟩ | ⟨rfl,rfl⟩ | ⟨rfl,rfl⟩ | ⟨rfl,rfl⟩ | ⟨rfl,rfl⟩ | ⟨rfl,rfl⟩ | ⟨rfl,rfl⟩ | ⟨rfl,rfl⟩
 ·exact ty2
 ·exact ty3
 ·exact ty4
 ·exact ty5
 ·exact ty6
 ·exact ty7
 ·exact ty8
 ·exact ty9
 ·exact Yhb
 ·exact Yhc
 ·exact Yhd
 ·exact Yhe
 ·exact Yhf
 ·exact Yhg
 ·exact Yhh
 ·exact Yhi
 ·exact Yhj
 ·exact Yhk
 ·exact Yhl
 ·exact Yhm
 ·exact Yhn
 ·exact Yho
 ·exact Yhp
 ·exact Yhq
 ·exact Yhr
 ·exact Yhs
 ·exact Yht
 ·exact Yhu
 ·exact Yhv
 ·exact Yhw
 ·exact Yhx
 ·exact Yhy
 ·exact Yhz
 ·exact Yh0
 ·exact Yh1
 ·exact Yh2
 ·exact Yh3
 ·exact Yh4
 ·exact Yh5
 ·exact Yh6
 ·exact Yh7
 ·exact Yh8
 ·exact Yf4
 ·exact Yf5
 ·exact Yf6
 ·exact Yf7
 ·exact Yf8
 ·exact Yf9
 ·exact Yga
 ·exact Ygb
 ·exact Ygc
 ·exact Ygd
 ·exact Yge
 ·exact Ygf
 ·exact Ygg
 ·exact Ygh
 ·exact Ygi
 ·exact Ygj
 ·exact Ygk
 ·exact Ygl
 ·exact Ygm
 ·exact Ygn
 ·exact Ygo
 ·exact Ygp
 ·exact Ygq
 ·exact Ygr
 exact Ygs
theorem Z5d:Vk 2=some ⟨.int .i64,1,8,[.int .i64 0],false⟩:=rfl
theorem Z02:Vk 3=some ⟨.int .i64,1,8,[.int .i64 0],false⟩:=rfl
theorem Z5e:Vk 4=some ⟨.bool,1,1,[.bool false],false⟩:=rfl
theorem Zxb:Vk 5=some ⟨.int .u8,1,1,[.int .u8 0],false⟩:=rfl
theorem Z5f:Vk 6=some ⟨.int .u8,1,1,[.int .u8 0],false⟩:=rfl
theorem Z5g:Vk 7=some ⟨.struct [(0,2),(1,3),(2,4),(3,6)],4,24,[.int .i64 0,.int .i64 0,.bool false,.int .u8 0],false⟩:=rfl
theorem Z5h:Vk 8=some ⟨.struct [(0,2),(1,3),(2,4),(3,6)],4,24,[.int .i64 0,.int .i64 0,.bool false,.int .u8 0],false⟩:=rfl
theorem Z5i:Vk 9=some ⟨.str,1,16,[.string ByteArray.empty],false⟩:=rfl
theorem Zxt:Vk 10=some ⟨.str,1,16,[.string ByteArray.empty],false⟩:=rfl
theorem Zxu:Vk 11=some ⟨.str,1,16,[.string ByteArray.empty],false⟩:=rfl
theorem Zxv:Vk 12=some ⟨.int .u64,1,8,[.int .u64 0],false⟩:=rfl
theorem Zxw:Vk 13=some ⟨.struct [(0,9),(1,12)],2,24,[.string ByteArray.empty,.int .u64 0],false⟩:=rfl
theorem Zxx:Vk 14=some ⟨.struct [(0,9),(1,12)],2,24,[.string ByteArray.empty,.int .u64 0],false⟩:=rfl
theorem Zxy:Vk 15=some ⟨.ptr 151,1,8,[.pointer none],false⟩:=rfl
theorem Zxz:Vk 16=some ⟨.ptr 154,1,8,[.pointer none],false⟩:=rfl
theorem Zx0:Vk 17=some ⟨.ptr 164,1,8,[.pointer none],false⟩:=rfl
theorem Zx1:Vk 18=some ⟨.struct [(0,17)],1,8,[.pointer none],false⟩:=rfl
theorem Zx2:Vk 19=some ⟨.struct [(0,17)],1,8,[.pointer none],false⟩:=rfl
theorem Zx3:Vk 21=some ⟨.int .i32,1,4,[.int .i32 0],false⟩:=rfl
theorem Zx4:Vk 22=some ⟨.slice 40,1,24,[.slice none 0 0],false⟩:=rfl
theorem Zug:Vk 23=some ⟨.slice 25,1,24,[.slice none 0 0],false⟩:=rfl
theorem Zx5:Vk 24=some ⟨.struct [(0,3),(1,22),(2,23)],3,56,[.int .i64 0,.slice none 0 0,.slice none 0 0],false⟩:=rfl
theorem Gq:Vk 25=some ⟨.struct [(0,3),(1,22),(2,23)],3,56,[.int .i64 0,.slice none 0 0,.slice none 0 0],false⟩:=rfl
theorem Zx6:Vk 26=some ⟨.slice 42,1,24,[.slice none 0 0],false⟩:=rfl
theorem Zx7:Vk 27=some ⟨.slice 55,1,24,[.slice none 0 0],false⟩:=rfl
theorem Zx8:Vk 28=some ⟨.slice 53,1,24,[.slice none 0 0],false⟩:=rfl
theorem Zx9:Vk 29=some ⟨.struct [(0,3),(1,25),(4,25),(7,26),(8,27),(9,3),(10,28)],11,200,[.int .i64 0,.int .i64 0,.slice none 0 0,.slice none 0 0,.int .i64 0,.slice none 0 0,.slice none 0 0,.slice none 0 0,.slice none 0 0,.int .i64 0,.slice none 0 0],false⟩:=rfl
theorem Zq8:Vk 30=some ⟨.struct [(0,3),(1,25),(4,25),(7,26),(8,27),(9,3),(10,28)],11,200,[.int .i64 0,.int .i64 0,.slice none 0 0,.slice none 0 0,.int .i64 0,.slice none 0 0,.slice none 0 0,.slice none 0 0,.slice none 0 0,.int .i64 0,.slice none 0 0],false⟩:=rfl
theorem Zi2:Vk 40=some ⟨.int .u64,1,8,[.int .u64 0],false⟩:=rfl
theorem Zya:Vk 41=some ⟨.struct [(0,3),(1,5),(2,40),(3,40)],4,32,[.int .i64 0,.int .u8 0,.int .u64 0,.int .u64 0],false⟩:=rfl
theorem Zfu:Vk 42=some ⟨.struct [(0,3),(1,5),(2,40),(3,40)],4,32,[.int .i64 0,.int .u8 0,.int .u64 0,.int .u64 0],true⟩:=rfl
theorem Zyb:Vk 52=some ⟨.struct [(0,3),(1,3),(2,23),(3,30)],14,240,[.int .i64 0,.int .i64 0,.slice none 0 0,.int .i64 0,.int .i64 0,.slice none 0 0,.slice none 0 0,.int .i64 0,.slice none 0 0,.slice none 0 0,.slice none 0 0,.slice none 0 0,.int .i64 0,.slice none 0 0],false⟩:=rfl
theorem Zdj:Vk 53=some ⟨.struct [(0,3),(1,3),(2,23),(3,30)],14,240,[.int .i64 0,.int .i64 0,.slice none 0 0,.int .i64 0,.int .i64 0,.slice none 0 0,.slice none 0 0,.int .i64 0,.slice none 0 0,.slice none 0 0,.slice none 0 0,.slice none 0 0,.int .i64 0,.slice none 0 0],false⟩:=rfl
theorem Zyc:Vk 54=some ⟨.struct [(0,3),(1,30)],12,208,[.int .i64 0,.int .i64 0,.int .i64 0,.slice none 0 0,.slice none 0 0,.int .i64 0,.slice none 0 0,.slice none 0 0,.slice none 0 0,.slice none 0 0,.int .i64 0,.slice none 0 0],false⟩:=rfl
theorem Zdk:Vk 55=some ⟨.struct [(0,3),(1,30)],12,208,[.int .i64 0,.int .i64 0,.int .i64 0,.slice none 0 0,.slice none 0 0,.int .i64 0,.slice none 0 0,.slice none 0 0,.slice none 0 0,.slice none 0 0,.int .i64 0,.slice none 0 0],false⟩:=rfl
theorem Zuh:Vk 65=some ⟨.arr 8 5,8,8,[.int .u8 0,.int .u8 0,.int .u8 0,.int .u8 0,.int .u8 0,.int .u8 0,.int .u8 0,.int .u8 0],false⟩:=rfl
theorem Zyd:Vk 69=some ⟨.slice 5,1,24,[.slice none 0 0],false⟩:=rfl
theorem Zye:Vk 90=some ⟨.slice 94,1,24,[.slice none 0 0],false⟩:=rfl
theorem Zyf:Vk 93=some ⟨.struct [(0,3),(1,53),(15,53)],29,488,[.int .i64 0,.int .i64 0,.int .i64 0,.slice none 0 0,.int .i64 0,.int .i64 0,.slice none 0 0,.slice none 0 0,.int .i64 0,.slice none 0 0,.slice none 0 0,.slice none 0 0,.slice none 0 0,.int .i64 0,.slice none 0 0,.int .i64 0,.int .i64 0,.slice none 0 0,.int .i64 0,.int .i64 0,.slice none 0 0,.slice none 0 0,.int .i64 0,.slice none 0 0,.slice none 0 0,.slice none 0 0,.slice none 0 0,.int .i64 0,.slice none 0 0],false⟩:=rfl
theorem Zwe:Vk 94=some ⟨.struct [(0,3),(1,53),(15,53)],29,488,[.int .i64 0,.int .i64 0,.int .i64 0,.slice none 0 0,.int .i64 0,.int .i64 0,.slice none 0 0,.slice none 0 0,.int .i64 0,.slice none 0 0,.slice none 0 0,.slice none 0 0,.slice none 0 0,.int .i64 0,.slice none 0 0,.int .i64 0,.int .i64 0,.slice none 0 0,.int .i64 0,.int .i64 0,.slice none 0 0,.slice none 0 0,.int .i64 0,.slice none 0 0,.slice none 0 0,.slice none 0 0,.slice none 0 0,.int .i64 0,.slice none 0 0],false⟩:=rfl
theorem Zyg:Vk 97=some ⟨.struct [(0,28),(1,3),(2,23),(3,23)],4,80,[.slice none 0 0,.int .i64 0,.slice none 0 0,.slice none 0 0],false⟩:=rfl
theorem Zyh:Vk 98=some ⟨.struct [(0,28),(1,3),(2,23),(3,23)],4,80,[.slice none 0 0,.int .i64 0,.slice none 0 0,.slice none 0 0],false⟩:=rfl
theorem Zsj:Vk 101=some ⟨.ptr 23,1,8,[.pointer none],false⟩:=rfl
theorem Zsk:Vk 103=some ⟨.slice 3,1,24,[.slice none 0 0],false⟩:=rfl
theorem Zsl:Vk 108=some ⟨.slice 116,1,24,[.slice none 0 0],false⟩:=rfl
theorem Zsm:Vk 111=some ⟨.slice 114,1,24,[.slice none 0 0],false⟩:=rfl
theorem Zsn:Vk 113=some ⟨.struct [(0,3),(1,3),(2,25),(5,30),(16,4)],17,280,[.int .i64 0,.int .i64 0,.int .i64 0,.slice none 0 0,.slice none 0 0,.int .i64 0,.int .i64 0,.slice none 0 0,.slice none 0 0,.int .i64 0,.slice none 0 0,.slice none 0 0,.slice none 0 0,.slice none 0 0,.int .i64 0,.slice none 0 0,.bool false],false⟩:=rfl
theorem Zso:Vk 114=some ⟨.struct [(0,3),(1,3),(2,25),(5,30),(16,4)],17,280,[.int .i64 0,.int .i64 0,.int .i64 0,.slice none 0 0,.slice none 0 0,.int .i64 0,.int .i64 0,.slice none 0 0,.slice none 0 0,.int .i64 0,.slice none 0 0,.slice none 0 0,.slice none 0 0,.slice none 0 0,.int .i64 0,.slice none 0 0,.bool false],false⟩:=rfl
theorem Zsp:Vk 115=some ⟨.struct [(0,3),(1,114),(18,114)],35,568,[.int .i64 0,.int .i64 0,.int .i64 0,.int .i64 0,.slice none 0 0,.slice none 0 0,.int .i64 0,.int .i64 0,.slice none 0 0,.slice none 0 0,.int .i64 0,.slice none 0 0,.slice none 0 0,.slice none 0 0,.slice none 0 0,.int .i64 0,.slice none 0 0,.bool false,.int .i64 0,.int .i64 0,.int .i64 0,.slice none 0 0,.slice none 0 0,.int .i64 0,.int .i64 0,.slice none 0 0,.slice none 0 0,.int .i64 0,.slice none 0 0,.slice none 0 0,.slice none 0 0,.slice none 0 0,.int .i64 0,.slice none 0 0,.bool false],false⟩:=rfl
theorem Zsq:Vk 116=some ⟨.struct [(0,3),(1,114),(18,114)],35,568,[.int .i64 0,.int .i64 0,.int .i64 0,.int .i64 0,.slice none 0 0,.slice none 0 0,.int .i64 0,.int .i64 0,.slice none 0 0,.slice none 0 0,.int .i64 0,.slice none 0 0,.slice none 0 0,.slice none 0 0,.slice none 0 0,.int .i64 0,.slice none 0 0,.bool false,.int .i64 0,.int .i64 0,.int .i64 0,.slice none 0 0,.slice none 0 0,.int .i64 0,.int .i64 0,.slice none 0 0,.slice none 0 0,.int .i64 0,.slice none 0 0,.slice none 0 0,.slice none 0 0,.slice none 0 0,.int .i64 0,.slice none 0 0,.bool false],false⟩:=rfl
theorem Zsr:Vk 127=some ⟨.ptr 25,1,8,[.pointer none],false⟩:=rfl
theorem Zss:Vk 130=some ⟨.struct [(0,23),(1,23)],2,48,[.slice none 0 0,.slice none 0 0],false⟩:=rfl
theorem Zst:Vk 131=some ⟨.struct [(0,23),(1,23)],2,48,[.slice none 0 0,.slice none 0 0],false⟩:=rfl
theorem Zsu:Vk 135=some ⟨.ptr 98,1,8,[.pointer none],false⟩:=rfl
theorem Zsv:Vk 138=some ⟨.ptr 131,1,8,[.pointer none],false⟩:=rfl
theorem Zsw:Vk 139=some ⟨.struct [(0,28),(1,3)],2,32,[.slice none 0 0,.int .i64 0],false⟩:=rfl
theorem Zsx:Vk 140=some ⟨.struct [(0,28),(1,3)],2,32,[.slice none 0 0,.int .i64 0],false⟩:=rfl
theorem Zsy:Vk 145=some ⟨.ptr 140,1,8,[.pointer none],false⟩:=rfl
theorem Zsz:Vk 148=some ⟨.arr 6 3,6,48,[.int .i64 0,.int .i64 0,.int .i64 0,.int .i64 0,.int .i64 0,.int .i64 0],false⟩:=rfl
theorem Zs0:Vk 150=some ⟨.struct [(0,17),(1,17),(2,17),(3,9)],4,40,[.pointer none,.pointer none,.pointer none,.string ByteArray.empty],false⟩:=rfl
theorem Zs1:Vk 151=some ⟨.struct [(0,17),(1,17),(2,17),(3,9)],4,40,[.pointer none,.pointer none,.pointer none,.string ByteArray.empty],false⟩:=rfl
theorem Zs2:Vk 156=some ⟨.int .u32,1,4,[.int .u32 0],false⟩:=rfl
theorem Zs3:Vk 157=some ⟨.int .u8,1,1,[.int .u8 0],false⟩:=rfl
theorem Zs4:Vk 158=some ⟨.int .u8,1,1,[.int .u8 0],false⟩:=rfl
theorem Zs5:Vk 160=some ⟨.ptr 5,1,8,[.pointer none],false⟩:=rfl
theorem Zs6:Vk 161=some ⟨.int .i32,1,4,[.int .i32 0],false⟩:=rfl
theorem Zs7:Vk 162=some ⟨.int .i32,1,4,[.int .i32 0],false⟩:=rfl
theorem Zta:Yu Vk 2=some (.int .i64):=rfl
theorem Ztb:Yu Vk 3=some (.int .i64):=rfl
theorem Ztc:Yu Vk 4=some (.bool):=rfl
theorem Ztd:Yu Vk 5=some (.int .u8):=rfl
theorem Zte:Yu Vk 6=some (.int .u8):=rfl
theorem Ztf:Yu Vk 7=some (.struct [(0,2),(1,3),(2,4),(3,6)]):=rfl
theorem Ztg:Yu Vk 8=some (.struct [(0,2),(1,3),(2,4),(3,6)]):=rfl
theorem Zth:Yu Vk 9=some (.str):=rfl
theorem Zoj:Yu Vk 10=some (.str):=rfl
theorem Zok:Yu Vk 11=some (.str):=rfl
theorem Zol:Yu Vk 12=some (.int .u64):=rfl
theorem Zom:Yu Vk 13=some (.struct [(0,9),(1,12)]):=rfl
theorem Zon:Yu Vk 14=some (.struct [(0,9),(1,12)]):=rfl
theorem Zoo:Yu Vk 15=some (.ptr 151):=rfl
theorem Zop:Yu Vk 16=some (.ptr 154):=rfl
theorem Zoq:Yu Vk 17=some (.ptr 164):=rfl
theorem Zor:Yu Vk 18=some (.struct [(0,17)]):=rfl
theorem Zos:Yu Vk 19=some (.struct [(0,17)]):=rfl
theorem Zot:Yu Vk 21=some (.int .i32):=rfl
theorem Zl7:Yu Vk 22=some (.slice 40):=rfl
theorem Zck:Yu Vk 23=some (.slice 25):=rfl
theorem Zou:Yu Vk 24=some (.struct [(0,3),(1,22),(2,23)]):=rfl
theorem Zov:Yu Vk 25=some (.struct [(0,3),(1,22),(2,23)]):=rfl
theorem Zgu:Yu Vk 26=some (.slice 42):=rfl
theorem Zgv:Yu Vk 27=some (.slice 55):=rfl
theorem Zl8:Yu Vk 28=some (.slice 53):=rfl
theorem Zow:Yu Vk 29=some (.struct [(0,3),(1,25),(4,25),(7,26),(8,27),(9,3),(10,28)]):=rfl
theorem Zox:Yu Vk 30=some (.struct [(0,3),(1,25),(4,25),(7,26),(8,27),(9,3),(10,28)]):=rfl
theorem Zoy:Yu Vk 40=some (.int .u64):=rfl
theorem Zoz:Yu Vk 41=some (.struct [(0,3),(1,5),(2,40),(3,40)]):=rfl
theorem Zo0:Yu Vk 42=some (.struct [(0,3),(1,5),(2,40),(3,40)]):=rfl
theorem Zo1:Yu Vk 52=some (.struct [(0,3),(1,3),(2,23),(3,30)]):=rfl
theorem Zo2:Yu Vk 53=some (.struct [(0,3),(1,3),(2,23),(3,30)]):=rfl
theorem Zo3:Yu Vk 54=some (.struct [(0,3),(1,30)]):=rfl
theorem Zo4:Yu Vk 55=some (.struct [(0,3),(1,30)]):=rfl
theorem Zl9:Yu Vk 65=some (.arr 8 5):=rfl
theorem Zo5:Yu Vk 69=some (.slice 5):=rfl
theorem Zo6:Yu Vk 90=some (.slice 94):=rfl
theorem Zo7:Yu Vk 93=some (.struct [(0,3),(1,53),(15,53)]):=rfl
theorem Zo8:Yu Vk 94=some (.struct [(0,3),(1,53),(15,53)]):=rfl
theorem Zo9:Yu Vk 97=some (.struct [(0,28),(1,3),(2,23),(3,23)]):=rfl
theorem Zpa:Yu Vk 98=some (.struct [(0,28),(1,3),(2,23),(3,23)]):=rfl
theorem Zkv:Yu Vk 101=some (.ptr 23):=rfl
theorem Zkw:Yu Vk 103=some (.slice 3):=rfl
theorem Zkx:Yu Vk 108=some (.slice 116):=rfl
theorem Zky:Yu Vk 111=some (.slice 114):=rfl
theorem Zkz:Yu Vk 113=some (.struct [(0,3),(1,3),(2,25),(5,30),(16,4)]):=rfl
theorem Zk0:Yu Vk 114=some (.struct [(0,3),(1,3),(2,25),(5,30),(16,4)]):=rfl
theorem Zk1:Yu Vk 115=some (.struct [(0,3),(1,114),(18,114)]):=rfl
theorem Zk2:Yu Vk 116=some (.struct [(0,3),(1,114),(18,114)]):=rfl
theorem Zk3:Yu Vk 127=some (.ptr 25):=rfl
theorem Zk4:Yu Vk 130=some (.struct [(0,23),(1,23)]):=rfl
theorem Zk5:Yu Vk 131=some (.struct [(0,23),(1,23)]):=rfl
theorem Zk6:Yu Vk 135=some (.ptr 98):=rfl
theorem Zk7:Yu Vk 138=some (.ptr 131):=rfl
theorem Zk8:Yu Vk 139=some (.struct [(0,28),(1,3)]):=rfl
theorem Zk9:Yu Vk 140=some (.struct [(0,28),(1,3)]):=rfl
theorem Zla:Yu Vk 145=some (.ptr 140):=rfl
theorem Zlb:Yu Vk 148=some (.arr 6 3):=rfl
theorem Zlc:Yu Vk 150=some (.struct [(0,17),(1,17),(2,17),(3,9)]):=rfl
theorem Zld:Yu Vk 151=some (.struct [(0,17),(1,17),(2,17),(3,9)]):=rfl
theorem Zle:Yu Vk 156=some (.int .u32):=rfl
theorem Zlf:Yu Vk 157=some (.int .u8):=rfl
theorem Zlg:Yu Vk 158=some (.int .u8):=rfl
theorem Zlh:Yu Vk 160=some (.ptr 5):=rfl
theorem Zli:Yu Vk 161=some (.int .i32):=rfl
theorem Zlj:Yu Vk 162=some (.int .i32):=rfl
end Go.Proofs.Ytbjcopkgdjombaa
