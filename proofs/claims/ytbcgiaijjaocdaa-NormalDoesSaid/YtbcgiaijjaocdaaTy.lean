/- The types of this seat's program, as its dump has them, in the ghost memory's words; no condition. -/
import Derived.Test.YtbcgiaijjaocdaaRows
import Derived.Test.YtbcgiaijjaocdaaG16
namespace Go.Proofs.Ytbcgiaijjaocdaa
open Go.RowKit
set_option linter.unusedVariables false
set_option linter.unusedSimpArgs false
theorem TyOk.of {P:Program} {t:TypeId} (k:TK) (size bytes:Nat) (zero:List Value) (z:Value) (h:(P.info? t).map (fun i=>(i.zero,i.size,i.bytes))=some (some z,size,bytes)) (hz:z.cells.toList=zero) (hu:k.ok P t) (hl:zero.length=size) (h1:zero.all Value.oneCell'=true) (eq:Bool) (he:eq=true→Z51 P t):TyOk P t ⟨k,size,bytes,zero,eq⟩:=by
 refine ⟨?_,hu,hl,fun v hv=>List.all_eq_true.1 h1 v hv,he⟩
 cases hi:P.info? t with
 | none=>rw [hi] at h;cases h
 | some i =>
  rw [hi] at h
  simp only [Option.map_some,Option.some.injEq,Prod.mk.injEq] at h
  exact ⟨i,z,rfl,h.2.1,h.2.2,h.1,hz⟩
theorem Zqe {α:Type} {t:Nat} {i:α}:∀ (l:List (Nat×α)),l.lookup t=some i→(t,i)∈l
 | [],h=>by simp at h
 | (a,b)::l,h=>by
  rw [List.lookup_cons] at h
  split at h
  ·rename_i he
   injection h with h
   have:t=a:=by simpa using he
   subst h this
   exact .head _
  exact .tail _ (Zqe l h)
theorem ty2:TyOk Try.prog 2 ⟨.int .i64,1,8,[.int .i64 0],false⟩:=TyOk.of (P:=Try.prog) (t:=2) (.int .i64) 1 8 [.int .i64 0] (.int .i64 0) (by kernel_rfl) rfl Try.underlying2 rfl rfl false (fun h=>by cases h)
theorem ty3:TyOk Try.prog 3 ⟨.int .i64,1,8,[.int .i64 0],false⟩:=TyOk.of (P:=Try.prog) (t:=3) (.int .i64) 1 8 [.int .i64 0] (.int .i64 0) (by kernel_rfl) rfl Try.underlying3 rfl rfl false (fun h=>by cases h)
theorem ty4:TyOk Try.prog 4 ⟨.bool,1,1,[.bool false],false⟩:=TyOk.of (P:=Try.prog) (t:=4) (.bool) 1 1 [.bool false] (.bool false) (by kernel_rfl) rfl Try.underlying4 rfl rfl false (fun h=>by cases h)
theorem ty5:TyOk Try.prog 5 ⟨.int .u8,1,1,[.int .u8 0],false⟩:=TyOk.of (P:=Try.prog) (t:=5) (.int .u8) 1 1 [.int .u8 0] (.int .u8 0) (by kernel_rfl) rfl Try.underlying5 rfl rfl false (fun h=>by cases h)
theorem ty6:TyOk Try.prog 6 ⟨.int .u8,1,1,[.int .u8 0],false⟩:=TyOk.of (P:=Try.prog) (t:=6) (.int .u8) 1 1 [.int .u8 0] (.int .u8 0) (by kernel_rfl) rfl Try.underlying6 rfl rfl false (fun h=>by cases h)
theorem ty7:TyOk Try.prog 7 ⟨.struct [(0,2),(1,3),(2,4),(3,6)],4,24,[.int .i64 0,.int .i64 0,.bool false,.int .u8 0],false⟩:=TyOk.of (P:=Try.prog) (t:=7) (.struct [(0,2),(1,3),(2,4),(3,6)]) 4 24 [.int .i64 0,.int .i64 0,.bool false,.int .u8 0] (.agg #[.int .i64 0,.int .i64 0,.bool false,.int .u8 0]) (by kernel_rfl) rfl ⟨_,Try.underlying7,rfl⟩ rfl rfl false (fun h=>by cases h)
theorem ty8:TyOk Try.prog 8 ⟨.struct [(0,2),(1,3),(2,4),(3,6)],4,24,[.int .i64 0,.int .i64 0,.bool false,.int .u8 0],false⟩:=TyOk.of (P:=Try.prog) (t:=8) (.struct [(0,2),(1,3),(2,4),(3,6)]) 4 24 [.int .i64 0,.int .i64 0,.bool false,.int .u8 0] (.agg #[.int .i64 0,.int .i64 0,.bool false,.int .u8 0]) (by kernel_rfl) rfl ⟨_,Try.underlying8,rfl⟩ rfl rfl false (fun h=>by cases h)
theorem ty9:TyOk Try.prog 9 ⟨.str,1,16,[.string ByteArray.empty],false⟩:=TyOk.of (P:=Try.prog) (t:=9) (.str) 1 16 [.string ByteArray.empty] (.string ByteArray.empty) (by kernel_rfl) rfl Try.underlying9 rfl rfl false (fun h=>by cases h)
theorem Z9x:TyOk Try.prog 10 ⟨.str,1,16,[.string ByteArray.empty],false⟩:=TyOk.of (P:=Try.prog) (t:=10) (.str) 1 16 [.string ByteArray.empty] (.string ByteArray.empty) (by kernel_rfl) rfl Try.underlying10 rfl rfl false (fun h=>by cases h)
theorem Z9y:TyOk Try.prog 11 ⟨.str,1,16,[.string ByteArray.empty],false⟩:=TyOk.of (P:=Try.prog) (t:=11) (.str) 1 16 [.string ByteArray.empty] (.string ByteArray.empty) (by kernel_rfl) rfl Try.underlying11 rfl rfl false (fun h=>by cases h)
theorem Z9z:TyOk Try.prog 12 ⟨.int .u64,1,8,[.int .u64 0],false⟩:=TyOk.of (P:=Try.prog) (t:=12) (.int .u64) 1 8 [.int .u64 0] (.int .u64 0) (by kernel_rfl) rfl Try.underlying12 rfl rfl false (fun h=>by cases h)
theorem Z90:TyOk Try.prog 13 ⟨.struct [(0,9),(1,12)],2,24,[.string ByteArray.empty,.int .u64 0],false⟩:=TyOk.of (P:=Try.prog) (t:=13) (.struct [(0,9),(1,12)]) 2 24 [.string ByteArray.empty,.int .u64 0] (.agg #[.string ByteArray.empty,.int .u64 0]) (by kernel_rfl) rfl ⟨_,Try.underlying13,rfl⟩ rfl rfl false (fun h=>by cases h)
theorem Z91:TyOk Try.prog 14 ⟨.struct [(0,9),(1,12)],2,24,[.string ByteArray.empty,.int .u64 0],false⟩:=TyOk.of (P:=Try.prog) (t:=14) (.struct [(0,9),(1,12)]) 2 24 [.string ByteArray.empty,.int .u64 0] (.agg #[.string ByteArray.empty,.int .u64 0]) (by kernel_rfl) rfl ⟨_,Try.underlying14,rfl⟩ rfl rfl false (fun h=>by cases h)
theorem Z92:TyOk Try.prog 15 ⟨.ptr 160,1,8,[.pointer none],false⟩:=TyOk.of (P:=Try.prog) (t:=15) (.ptr 160) 1 8 [.pointer none] (.pointer none) (by kernel_rfl) rfl Try.underlying15 rfl rfl false (fun h=>by cases h)
theorem Z93:TyOk Try.prog 16 ⟨.ptr 163,1,8,[.pointer none],false⟩:=TyOk.of (P:=Try.prog) (t:=16) (.ptr 163) 1 8 [.pointer none] (.pointer none) (by kernel_rfl) rfl Try.underlying16 rfl rfl false (fun h=>by cases h)
theorem Z94:TyOk Try.prog 17 ⟨.ptr 173,1,8,[.pointer none],false⟩:=TyOk.of (P:=Try.prog) (t:=17) (.ptr 173) 1 8 [.pointer none] (.pointer none) (by kernel_rfl) rfl Try.underlying17 rfl rfl false (fun h=>by cases h)
theorem Z95:TyOk Try.prog 18 ⟨.struct [(0,17)],1,8,[.pointer none],false⟩:=TyOk.of (P:=Try.prog) (t:=18) (.struct [(0,17)]) 1 8 [.pointer none] (.agg #[.pointer none]) (by kernel_rfl) rfl ⟨_,Try.underlying18,rfl⟩ rfl rfl false (fun h=>by cases h)
theorem Z96:TyOk Try.prog 19 ⟨.struct [(0,17)],1,8,[.pointer none],false⟩:=TyOk.of (P:=Try.prog) (t:=19) (.struct [(0,17)]) 1 8 [.pointer none] (.agg #[.pointer none]) (by kernel_rfl) rfl ⟨_,Try.underlying19,rfl⟩ rfl rfl false (fun h=>by cases h)
theorem Z97:TyOk Try.prog 21 ⟨.int .i32,1,4,[.int .i32 0],false⟩:=TyOk.of (P:=Try.prog) (t:=21) (.int .i32) 1 4 [.int .i32 0] (.int .i32 0) (by kernel_rfl) rfl Try.underlying21 rfl rfl false (fun h=>by cases h)
theorem Z98:TyOk Try.prog 22 ⟨.slice 56,1,24,[.slice none 0 0],false⟩:=TyOk.of (P:=Try.prog) (t:=22) (.slice 56) 1 24 [.slice none 0 0] (.slice none 0 0) (by kernel_rfl) rfl Try.underlying22 rfl rfl false (fun h=>by cases h)
theorem Z99:TyOk Try.prog 23 ⟨.slice 25,1,24,[.slice none 0 0],false⟩:=TyOk.of (P:=Try.prog) (t:=23) (.slice 25) 1 24 [.slice none 0 0] (.slice none 0 0) (by kernel_rfl) rfl Try.underlying23 rfl rfl false (fun h=>by cases h)
theorem Yaa:TyOk Try.prog 24 ⟨.struct [(0,3),(1,22),(2,23)],3,56,[.int .i64 0,.slice none 0 0,.slice none 0 0],false⟩:=TyOk.of (P:=Try.prog) (t:=24) (.struct [(0,3),(1,22),(2,23)]) 3 56 [.int .i64 0,.slice none 0 0,.slice none 0 0] (.agg #[.int .i64 0,.slice none 0 0,.slice none 0 0]) (by kernel_rfl) rfl ⟨_,Try.underlying24,rfl⟩ rfl rfl false (fun h=>by cases h)
theorem Yab:TyOk Try.prog 25 ⟨.struct [(0,3),(1,22),(2,23)],3,56,[.int .i64 0,.slice none 0 0,.slice none 0 0],false⟩:=TyOk.of (P:=Try.prog) (t:=25) (.struct [(0,3),(1,22),(2,23)]) 3 56 [.int .i64 0,.slice none 0 0,.slice none 0 0] (.agg #[.int .i64 0,.slice none 0 0,.slice none 0 0]) (by kernel_rfl) rfl ⟨_,Try.underlying25,rfl⟩ rfl rfl false (fun h=>by cases h)
theorem Yac:TyOk Try.prog 26 ⟨.slice 58,1,24,[.slice none 0 0],false⟩:=TyOk.of (P:=Try.prog) (t:=26) (.slice 58) 1 24 [.slice none 0 0] (.slice none 0 0) (by kernel_rfl) rfl Try.underlying26 rfl rfl false (fun h=>by cases h)
theorem Yad:TyOk Try.prog 27 ⟨.slice 71,1,24,[.slice none 0 0],false⟩:=TyOk.of (P:=Try.prog) (t:=27) (.slice 71) 1 24 [.slice none 0 0] (.slice none 0 0) (by kernel_rfl) rfl Try.underlying27 rfl rfl false (fun h=>by cases h)
theorem Yae:TyOk Try.prog 28 ⟨.slice 69,1,24,[.slice none 0 0],false⟩:=TyOk.of (P:=Try.prog) (t:=28) (.slice 69) 1 24 [.slice none 0 0] (.slice none 0 0) (by kernel_rfl) rfl Try.underlying28 rfl rfl false (fun h=>by cases h)
theorem Yaf:TyOk Try.prog 29 ⟨.struct [(0,3),(1,25),(4,25),(7,26),(8,27),(9,3),(10,28)],11,200,[.int .i64 0,.int .i64 0,.slice none 0 0,.slice none 0 0,.int .i64 0,.slice none 0 0,.slice none 0 0,.slice none 0 0,.slice none 0 0,.int .i64 0,.slice none 0 0],false⟩:=TyOk.of (P:=Try.prog) (t:=29) (.struct [(0,3),(1,25),(4,25),(7,26),(8,27),(9,3),(10,28)]) 11 200 [.int .i64 0,.int .i64 0,.slice none 0 0,.slice none 0 0,.int .i64 0,.slice none 0 0,.slice none 0 0,.slice none 0 0,.slice none 0 0,.int .i64 0,.slice none 0 0] (.agg #[.int .i64 0,.int .i64 0,.slice none 0 0,.slice none 0 0,.int .i64 0,.slice none 0 0,.slice none 0 0,.slice none 0 0,.slice none 0 0,.int .i64 0,.slice none 0 0]) (by kernel_rfl) rfl ⟨_,Try.underlying29,rfl⟩ rfl rfl false (fun h=>by cases h)
theorem Yag:TyOk Try.prog 30 ⟨.struct [(0,3),(1,25),(4,25),(7,26),(8,27),(9,3),(10,28)],11,200,[.int .i64 0,.int .i64 0,.slice none 0 0,.slice none 0 0,.int .i64 0,.slice none 0 0,.slice none 0 0,.slice none 0 0,.slice none 0 0,.int .i64 0,.slice none 0 0],false⟩:=TyOk.of (P:=Try.prog) (t:=30) (.struct [(0,3),(1,25),(4,25),(7,26),(8,27),(9,3),(10,28)]) 11 200 [.int .i64 0,.int .i64 0,.slice none 0 0,.slice none 0 0,.int .i64 0,.slice none 0 0,.slice none 0 0,.slice none 0 0,.slice none 0 0,.int .i64 0,.slice none 0 0] (.agg #[.int .i64 0,.int .i64 0,.slice none 0 0,.slice none 0 0,.int .i64 0,.slice none 0 0,.slice none 0 0,.slice none 0 0,.slice none 0 0,.int .i64 0,.slice none 0 0]) (by kernel_rfl) rfl ⟨_,Try.underlying30,rfl⟩ rfl rfl false (fun h=>by cases h)
theorem Yah:TyOk Try.prog 46 ⟨.slice 79,1,24,[.slice none 0 0],false⟩:=TyOk.of (P:=Try.prog) (t:=46) (.slice 79) 1 24 [.slice none 0 0] (.slice none 0 0) (by kernel_rfl) rfl Try.underlying46 rfl rfl false (fun h=>by cases h)
theorem Yai:TyOk Try.prog 49 ⟨.slice 84,1,24,[.slice none 0 0],false⟩:=TyOk.of (P:=Try.prog) (t:=49) (.slice 84) 1 24 [.slice none 0 0] (.slice none 0 0) (by kernel_rfl) rfl Try.underlying49 rfl rfl false (fun h=>by cases h)
theorem Yaj:TyOk Try.prog 52 ⟨.slice 82,1,24,[.slice none 0 0],false⟩:=TyOk.of (P:=Try.prog) (t:=52) (.slice 82) 1 24 [.slice none 0 0] (.slice none 0 0) (by kernel_rfl) rfl Try.underlying52 rfl rfl false (fun h=>by cases h)
theorem Yak:TyOk Try.prog 56 ⟨.int .u64,1,8,[.int .u64 0],false⟩:=TyOk.of (P:=Try.prog) (t:=56) (.int .u64) 1 8 [.int .u64 0] (.int .u64 0) (by kernel_rfl) rfl Try.underlying56 rfl rfl false (fun h=>by cases h)
theorem Yal:TyOk Try.prog 57 ⟨.struct [(0,3),(1,5),(2,56),(3,56)],4,32,[.int .i64 0,.int .u8 0,.int .u64 0,.int .u64 0],false⟩:=TyOk.of (P:=Try.prog) (t:=57) (.struct [(0,3),(1,5),(2,56),(3,56)]) 4 32 [.int .i64 0,.int .u8 0,.int .u64 0,.int .u64 0] (.agg #[.int .i64 0,.int .u8 0,.int .u64 0,.int .u64 0]) (by kernel_rfl) rfl ⟨_,Try.underlying57,rfl⟩ rfl rfl false (fun h=>by cases h)
theorem Yam:TyOk Try.prog 58 ⟨.struct [(0,3),(1,5),(2,56),(3,56)],4,32,[.int .i64 0,.int .u8 0,.int .u64 0,.int .u64 0],true⟩:=TyOk.of (P:=Try.prog) (t:=58) (.struct [(0,3),(1,5),(2,56),(3,56)]) 4 32 [.int .i64 0,.int .u8 0,.int .u64 0,.int .u64 0] (.agg #[.int .i64 0,.int .u8 0,.int .u64 0,.int .u64 0]) (by kernel_rfl) rfl ⟨_,Try.underlying58,rfl⟩ rfl rfl true (fun _=>by unfold Z51;exact ⟨by kernel_rfl,by kernel_rfl,by kernel_rfl⟩)
theorem Yan:TyOk Try.prog 62 ⟨.slice 102,1,24,[.slice none 0 0],false⟩:=TyOk.of (P:=Try.prog) (t:=62) (.slice 102) 1 24 [.slice none 0 0] (.slice none 0 0) (by kernel_rfl) rfl Try.underlying62 rfl rfl false (fun h=>by cases h)
theorem Yao:TyOk Try.prog 68 ⟨.struct [(0,3),(1,3),(2,23),(3,30)],14,240,[.int .i64 0,.int .i64 0,.slice none 0 0,.int .i64 0,.int .i64 0,.slice none 0 0,.slice none 0 0,.int .i64 0,.slice none 0 0,.slice none 0 0,.slice none 0 0,.slice none 0 0,.int .i64 0,.slice none 0 0],false⟩:=TyOk.of (P:=Try.prog) (t:=68) (.struct [(0,3),(1,3),(2,23),(3,30)]) 14 240 [.int .i64 0,.int .i64 0,.slice none 0 0,.int .i64 0,.int .i64 0,.slice none 0 0,.slice none 0 0,.int .i64 0,.slice none 0 0,.slice none 0 0,.slice none 0 0,.slice none 0 0,.int .i64 0,.slice none 0 0] (.agg #[.int .i64 0,.int .i64 0,.slice none 0 0,.int .i64 0,.int .i64 0,.slice none 0 0,.slice none 0 0,.int .i64 0,.slice none 0 0,.slice none 0 0,.slice none 0 0,.slice none 0 0,.int .i64 0,.slice none 0 0]) (by kernel_rfl) rfl ⟨_,Try.underlying68,rfl⟩ rfl rfl false (fun h=>by cases h)
theorem Yap:TyOk Try.prog 69 ⟨.struct [(0,3),(1,3),(2,23),(3,30)],14,240,[.int .i64 0,.int .i64 0,.slice none 0 0,.int .i64 0,.int .i64 0,.slice none 0 0,.slice none 0 0,.int .i64 0,.slice none 0 0,.slice none 0 0,.slice none 0 0,.slice none 0 0,.int .i64 0,.slice none 0 0],false⟩:=TyOk.of (P:=Try.prog) (t:=69) (.struct [(0,3),(1,3),(2,23),(3,30)]) 14 240 [.int .i64 0,.int .i64 0,.slice none 0 0,.int .i64 0,.int .i64 0,.slice none 0 0,.slice none 0 0,.int .i64 0,.slice none 0 0,.slice none 0 0,.slice none 0 0,.slice none 0 0,.int .i64 0,.slice none 0 0] (.agg #[.int .i64 0,.int .i64 0,.slice none 0 0,.int .i64 0,.int .i64 0,.slice none 0 0,.slice none 0 0,.int .i64 0,.slice none 0 0,.slice none 0 0,.slice none 0 0,.slice none 0 0,.int .i64 0,.slice none 0 0]) (by kernel_rfl) rfl ⟨_,Try.underlying69,rfl⟩ rfl rfl false (fun h=>by cases h)
theorem Yaq:TyOk Try.prog 70 ⟨.struct [(0,3),(1,30)],12,208,[.int .i64 0,.int .i64 0,.int .i64 0,.slice none 0 0,.slice none 0 0,.int .i64 0,.slice none 0 0,.slice none 0 0,.slice none 0 0,.slice none 0 0,.int .i64 0,.slice none 0 0],false⟩:=TyOk.of (P:=Try.prog) (t:=70) (.struct [(0,3),(1,30)]) 12 208 [.int .i64 0,.int .i64 0,.int .i64 0,.slice none 0 0,.slice none 0 0,.int .i64 0,.slice none 0 0,.slice none 0 0,.slice none 0 0,.slice none 0 0,.int .i64 0,.slice none 0 0] (.agg #[.int .i64 0,.int .i64 0,.int .i64 0,.slice none 0 0,.slice none 0 0,.int .i64 0,.slice none 0 0,.slice none 0 0,.slice none 0 0,.slice none 0 0,.int .i64 0,.slice none 0 0]) (by kernel_rfl) rfl ⟨_,Try.underlying70,rfl⟩ rfl rfl false (fun h=>by cases h)
theorem Yar:TyOk Try.prog 71 ⟨.struct [(0,3),(1,30)],12,208,[.int .i64 0,.int .i64 0,.int .i64 0,.slice none 0 0,.slice none 0 0,.int .i64 0,.slice none 0 0,.slice none 0 0,.slice none 0 0,.slice none 0 0,.int .i64 0,.slice none 0 0],false⟩:=TyOk.of (P:=Try.prog) (t:=71) (.struct [(0,3),(1,30)]) 12 208 [.int .i64 0,.int .i64 0,.int .i64 0,.slice none 0 0,.slice none 0 0,.int .i64 0,.slice none 0 0,.slice none 0 0,.slice none 0 0,.slice none 0 0,.int .i64 0,.slice none 0 0] (.agg #[.int .i64 0,.int .i64 0,.int .i64 0,.slice none 0 0,.slice none 0 0,.int .i64 0,.slice none 0 0,.slice none 0 0,.slice none 0 0,.slice none 0 0,.int .i64 0,.slice none 0 0]) (by kernel_rfl) rfl ⟨_,Try.underlying71,rfl⟩ rfl rfl false (fun h=>by cases h)
theorem Yas:TyOk Try.prog 78 ⟨.struct [(0,3),(1,69),(15,69)],29,488,[.int .i64 0,.int .i64 0,.int .i64 0,.slice none 0 0,.int .i64 0,.int .i64 0,.slice none 0 0,.slice none 0 0,.int .i64 0,.slice none 0 0,.slice none 0 0,.slice none 0 0,.slice none 0 0,.int .i64 0,.slice none 0 0,.int .i64 0,.int .i64 0,.slice none 0 0,.int .i64 0,.int .i64 0,.slice none 0 0,.slice none 0 0,.int .i64 0,.slice none 0 0,.slice none 0 0,.slice none 0 0,.slice none 0 0,.int .i64 0,.slice none 0 0],false⟩:=TyOk.of (P:=Try.prog) (t:=78) (.struct [(0,3),(1,69),(15,69)]) 29 488 [.int .i64 0,.int .i64 0,.int .i64 0,.slice none 0 0,.int .i64 0,.int .i64 0,.slice none 0 0,.slice none 0 0,.int .i64 0,.slice none 0 0,.slice none 0 0,.slice none 0 0,.slice none 0 0,.int .i64 0,.slice none 0 0,.int .i64 0,.int .i64 0,.slice none 0 0,.int .i64 0,.int .i64 0,.slice none 0 0,.slice none 0 0,.int .i64 0,.slice none 0 0,.slice none 0 0,.slice none 0 0,.slice none 0 0,.int .i64 0,.slice none 0 0] (.agg #[.int .i64 0,.int .i64 0,.int .i64 0,.slice none 0 0,.int .i64 0,.int .i64 0,.slice none 0 0,.slice none 0 0,.int .i64 0,.slice none 0 0,.slice none 0 0,.slice none 0 0,.slice none 0 0,.int .i64 0,.slice none 0 0,.int .i64 0,.int .i64 0,.slice none 0 0,.int .i64 0,.int .i64 0,.slice none 0 0,.slice none 0 0,.int .i64 0,.slice none 0 0,.slice none 0 0,.slice none 0 0,.slice none 0 0,.int .i64 0,.slice none 0 0]) (by kernel_rfl) rfl ⟨_,Try.underlying78,rfl⟩ rfl rfl false (fun h=>by cases h)
theorem Yat:TyOk Try.prog 79 ⟨.struct [(0,3),(1,69),(15,69)],29,488,[.int .i64 0,.int .i64 0,.int .i64 0,.slice none 0 0,.int .i64 0,.int .i64 0,.slice none 0 0,.slice none 0 0,.int .i64 0,.slice none 0 0,.slice none 0 0,.slice none 0 0,.slice none 0 0,.int .i64 0,.slice none 0 0,.int .i64 0,.int .i64 0,.slice none 0 0,.int .i64 0,.int .i64 0,.slice none 0 0,.slice none 0 0,.int .i64 0,.slice none 0 0,.slice none 0 0,.slice none 0 0,.slice none 0 0,.int .i64 0,.slice none 0 0],false⟩:=TyOk.of (P:=Try.prog) (t:=79) (.struct [(0,3),(1,69),(15,69)]) 29 488 [.int .i64 0,.int .i64 0,.int .i64 0,.slice none 0 0,.int .i64 0,.int .i64 0,.slice none 0 0,.slice none 0 0,.int .i64 0,.slice none 0 0,.slice none 0 0,.slice none 0 0,.slice none 0 0,.int .i64 0,.slice none 0 0,.int .i64 0,.int .i64 0,.slice none 0 0,.int .i64 0,.int .i64 0,.slice none 0 0,.slice none 0 0,.int .i64 0,.slice none 0 0,.slice none 0 0,.slice none 0 0,.slice none 0 0,.int .i64 0,.slice none 0 0] (.agg #[.int .i64 0,.int .i64 0,.int .i64 0,.slice none 0 0,.int .i64 0,.int .i64 0,.slice none 0 0,.slice none 0 0,.int .i64 0,.slice none 0 0,.slice none 0 0,.slice none 0 0,.slice none 0 0,.int .i64 0,.slice none 0 0,.int .i64 0,.int .i64 0,.slice none 0 0,.int .i64 0,.int .i64 0,.slice none 0 0,.slice none 0 0,.int .i64 0,.slice none 0 0,.slice none 0 0,.slice none 0 0,.slice none 0 0,.int .i64 0,.slice none 0 0]) (by kernel_rfl) rfl ⟨_,Try.underlying79,rfl⟩ rfl rfl false (fun h=>by cases h)
theorem Yau:TyOk Try.prog 81 ⟨.struct [(0,3),(1,3),(2,25),(5,30),(16,4)],17,280,[.int .i64 0,.int .i64 0,.int .i64 0,.slice none 0 0,.slice none 0 0,.int .i64 0,.int .i64 0,.slice none 0 0,.slice none 0 0,.int .i64 0,.slice none 0 0,.slice none 0 0,.slice none 0 0,.slice none 0 0,.int .i64 0,.slice none 0 0,.bool false],false⟩:=TyOk.of (P:=Try.prog) (t:=81) (.struct [(0,3),(1,3),(2,25),(5,30),(16,4)]) 17 280 [.int .i64 0,.int .i64 0,.int .i64 0,.slice none 0 0,.slice none 0 0,.int .i64 0,.int .i64 0,.slice none 0 0,.slice none 0 0,.int .i64 0,.slice none 0 0,.slice none 0 0,.slice none 0 0,.slice none 0 0,.int .i64 0,.slice none 0 0,.bool false] (.agg #[.int .i64 0,.int .i64 0,.int .i64 0,.slice none 0 0,.slice none 0 0,.int .i64 0,.int .i64 0,.slice none 0 0,.slice none 0 0,.int .i64 0,.slice none 0 0,.slice none 0 0,.slice none 0 0,.slice none 0 0,.int .i64 0,.slice none 0 0,.bool false]) (by kernel_rfl) rfl ⟨_,Try.underlying81,rfl⟩ rfl rfl false (fun h=>by cases h)
theorem Yav:TyOk Try.prog 82 ⟨.struct [(0,3),(1,3),(2,25),(5,30),(16,4)],17,280,[.int .i64 0,.int .i64 0,.int .i64 0,.slice none 0 0,.slice none 0 0,.int .i64 0,.int .i64 0,.slice none 0 0,.slice none 0 0,.int .i64 0,.slice none 0 0,.slice none 0 0,.slice none 0 0,.slice none 0 0,.int .i64 0,.slice none 0 0,.bool false],false⟩:=TyOk.of (P:=Try.prog) (t:=82) (.struct [(0,3),(1,3),(2,25),(5,30),(16,4)]) 17 280 [.int .i64 0,.int .i64 0,.int .i64 0,.slice none 0 0,.slice none 0 0,.int .i64 0,.int .i64 0,.slice none 0 0,.slice none 0 0,.int .i64 0,.slice none 0 0,.slice none 0 0,.slice none 0 0,.slice none 0 0,.int .i64 0,.slice none 0 0,.bool false] (.agg #[.int .i64 0,.int .i64 0,.int .i64 0,.slice none 0 0,.slice none 0 0,.int .i64 0,.int .i64 0,.slice none 0 0,.slice none 0 0,.int .i64 0,.slice none 0 0,.slice none 0 0,.slice none 0 0,.slice none 0 0,.int .i64 0,.slice none 0 0,.bool false]) (by kernel_rfl) rfl ⟨_,Try.underlying82,rfl⟩ rfl rfl false (fun h=>by cases h)
theorem Yaw:TyOk Try.prog 83 ⟨.struct [(0,3),(1,82),(18,82)],35,568,[.int .i64 0,.int .i64 0,.int .i64 0,.int .i64 0,.slice none 0 0,.slice none 0 0,.int .i64 0,.int .i64 0,.slice none 0 0,.slice none 0 0,.int .i64 0,.slice none 0 0,.slice none 0 0,.slice none 0 0,.slice none 0 0,.int .i64 0,.slice none 0 0,.bool false,.int .i64 0,.int .i64 0,.int .i64 0,.slice none 0 0,.slice none 0 0,.int .i64 0,.int .i64 0,.slice none 0 0,.slice none 0 0,.int .i64 0,.slice none 0 0,.slice none 0 0,.slice none 0 0,.slice none 0 0,.int .i64 0,.slice none 0 0,.bool false],false⟩:=TyOk.of (P:=Try.prog) (t:=83) (.struct [(0,3),(1,82),(18,82)]) 35 568 [.int .i64 0,.int .i64 0,.int .i64 0,.int .i64 0,.slice none 0 0,.slice none 0 0,.int .i64 0,.int .i64 0,.slice none 0 0,.slice none 0 0,.int .i64 0,.slice none 0 0,.slice none 0 0,.slice none 0 0,.slice none 0 0,.int .i64 0,.slice none 0 0,.bool false,.int .i64 0,.int .i64 0,.int .i64 0,.slice none 0 0,.slice none 0 0,.int .i64 0,.int .i64 0,.slice none 0 0,.slice none 0 0,.int .i64 0,.slice none 0 0,.slice none 0 0,.slice none 0 0,.slice none 0 0,.int .i64 0,.slice none 0 0,.bool false] (.agg #[.int .i64 0,.int .i64 0,.int .i64 0,.int .i64 0,.slice none 0 0,.slice none 0 0,.int .i64 0,.int .i64 0,.slice none 0 0,.slice none 0 0,.int .i64 0,.slice none 0 0,.slice none 0 0,.slice none 0 0,.slice none 0 0,.int .i64 0,.slice none 0 0,.bool false,.int .i64 0,.int .i64 0,.int .i64 0,.slice none 0 0,.slice none 0 0,.int .i64 0,.int .i64 0,.slice none 0 0,.slice none 0 0,.int .i64 0,.slice none 0 0,.slice none 0 0,.slice none 0 0,.slice none 0 0,.int .i64 0,.slice none 0 0,.bool false]) (by kernel_rfl) rfl ⟨_,Try.underlying83,rfl⟩ rfl rfl false (fun h=>by cases h)
theorem Yax:TyOk Try.prog 84 ⟨.struct [(0,3),(1,82),(18,82)],35,568,[.int .i64 0,.int .i64 0,.int .i64 0,.int .i64 0,.slice none 0 0,.slice none 0 0,.int .i64 0,.int .i64 0,.slice none 0 0,.slice none 0 0,.int .i64 0,.slice none 0 0,.slice none 0 0,.slice none 0 0,.slice none 0 0,.int .i64 0,.slice none 0 0,.bool false,.int .i64 0,.int .i64 0,.int .i64 0,.slice none 0 0,.slice none 0 0,.int .i64 0,.int .i64 0,.slice none 0 0,.slice none 0 0,.int .i64 0,.slice none 0 0,.slice none 0 0,.slice none 0 0,.slice none 0 0,.int .i64 0,.slice none 0 0,.bool false],false⟩:=TyOk.of (P:=Try.prog) (t:=84) (.struct [(0,3),(1,82),(18,82)]) 35 568 [.int .i64 0,.int .i64 0,.int .i64 0,.int .i64 0,.slice none 0 0,.slice none 0 0,.int .i64 0,.int .i64 0,.slice none 0 0,.slice none 0 0,.int .i64 0,.slice none 0 0,.slice none 0 0,.slice none 0 0,.slice none 0 0,.int .i64 0,.slice none 0 0,.bool false,.int .i64 0,.int .i64 0,.int .i64 0,.slice none 0 0,.slice none 0 0,.int .i64 0,.int .i64 0,.slice none 0 0,.slice none 0 0,.int .i64 0,.slice none 0 0,.slice none 0 0,.slice none 0 0,.slice none 0 0,.int .i64 0,.slice none 0 0,.bool false] (.agg #[.int .i64 0,.int .i64 0,.int .i64 0,.int .i64 0,.slice none 0 0,.slice none 0 0,.int .i64 0,.int .i64 0,.slice none 0 0,.slice none 0 0,.int .i64 0,.slice none 0 0,.slice none 0 0,.slice none 0 0,.slice none 0 0,.int .i64 0,.slice none 0 0,.bool false,.int .i64 0,.int .i64 0,.int .i64 0,.slice none 0 0,.slice none 0 0,.int .i64 0,.int .i64 0,.slice none 0 0,.slice none 0 0,.int .i64 0,.slice none 0 0,.slice none 0 0,.slice none 0 0,.slice none 0 0,.int .i64 0,.slice none 0 0,.bool false]) (by kernel_rfl) rfl ⟨_,Try.underlying84,rfl⟩ rfl rfl false (fun h=>by cases h)
theorem Yay:TyOk Try.prog 95 ⟨.arr 8 5,8,8,[.int .u8 0,.int .u8 0,.int .u8 0,.int .u8 0,.int .u8 0,.int .u8 0,.int .u8 0,.int .u8 0],false⟩:=TyOk.of (P:=Try.prog) (t:=95) (.arr 8 5) 8 8 [.int .u8 0,.int .u8 0,.int .u8 0,.int .u8 0,.int .u8 0,.int .u8 0,.int .u8 0,.int .u8 0] (.agg #[.int .u8 0,.int .u8 0,.int .u8 0,.int .u8 0,.int .u8 0,.int .u8 0,.int .u8 0,.int .u8 0]) (by kernel_rfl) rfl Try.underlying95 rfl rfl false (fun h=>by cases h)
theorem Yaz:TyOk Try.prog 99 ⟨.slice 5,1,24,[.slice none 0 0],false⟩:=TyOk.of (P:=Try.prog) (t:=99) (.slice 5) 1 24 [.slice none 0 0] (.slice none 0 0) (by kernel_rfl) rfl Try.underlying99 rfl rfl false (fun h=>by cases h)
theorem Z85:TyOk Try.prog 101 ⟨.struct [(0,3),(1,3)],2,16,[.int .i64 0,.int .i64 0],false⟩:=TyOk.of (P:=Try.prog) (t:=101) (.struct [(0,3),(1,3)]) 2 16 [.int .i64 0,.int .i64 0] (.agg #[.int .i64 0,.int .i64 0]) (by kernel_rfl) rfl ⟨_,Try.underlying101,rfl⟩ rfl rfl false (fun h=>by cases h)
theorem Z86:TyOk Try.prog 102 ⟨.struct [(0,3),(1,3)],2,16,[.int .i64 0,.int .i64 0],true⟩:=TyOk.of (P:=Try.prog) (t:=102) (.struct [(0,3),(1,3)]) 2 16 [.int .i64 0,.int .i64 0] (.agg #[.int .i64 0,.int .i64 0]) (by kernel_rfl) rfl ⟨_,Try.underlying102,rfl⟩ rfl rfl true (fun _=>by unfold Z51;exact ⟨by kernel_rfl,by kernel_rfl,by kernel_rfl⟩)
theorem Z87:TyOk Try.prog 109 ⟨.struct [(0,28),(1,3),(2,23),(3,23)],4,80,[.slice none 0 0,.int .i64 0,.slice none 0 0,.slice none 0 0],false⟩:=TyOk.of (P:=Try.prog) (t:=109) (.struct [(0,28),(1,3),(2,23),(3,23)]) 4 80 [.slice none 0 0,.int .i64 0,.slice none 0 0,.slice none 0 0] (.agg #[.slice none 0 0,.int .i64 0,.slice none 0 0,.slice none 0 0]) (by kernel_rfl) rfl ⟨_,Try.underlying109,rfl⟩ rfl rfl false (fun h=>by cases h)
theorem Z88:TyOk Try.prog 110 ⟨.struct [(0,28),(1,3),(2,23),(3,23)],4,80,[.slice none 0 0,.int .i64 0,.slice none 0 0,.slice none 0 0],false⟩:=TyOk.of (P:=Try.prog) (t:=110) (.struct [(0,28),(1,3),(2,23),(3,23)]) 4 80 [.slice none 0 0,.int .i64 0,.slice none 0 0,.slice none 0 0] (.agg #[.slice none 0 0,.int .i64 0,.slice none 0 0,.slice none 0 0]) (by kernel_rfl) rfl ⟨_,Try.underlying110,rfl⟩ rfl rfl false (fun h=>by cases h)
theorem Z89:TyOk Try.prog 113 ⟨.ptr 23,1,8,[.pointer none],false⟩:=TyOk.of (P:=Try.prog) (t:=113) (.ptr 23) 1 8 [.pointer none] (.pointer none) (by kernel_rfl) rfl Try.underlying113 rfl rfl false (fun h=>by cases h)
theorem Z9a:TyOk Try.prog 123 ⟨.struct [(0,28),(1,3)],2,32,[.slice none 0 0,.int .i64 0],false⟩:=TyOk.of (P:=Try.prog) (t:=123) (.struct [(0,28),(1,3)]) 2 32 [.slice none 0 0,.int .i64 0] (.agg #[.slice none 0 0,.int .i64 0]) (by kernel_rfl) rfl ⟨_,Try.underlying123,rfl⟩ rfl rfl false (fun h=>by cases h)
theorem Z9b:TyOk Try.prog 124 ⟨.struct [(0,28),(1,3)],2,32,[.slice none 0 0,.int .i64 0],false⟩:=TyOk.of (P:=Try.prog) (t:=124) (.struct [(0,28),(1,3)]) 2 32 [.slice none 0 0,.int .i64 0] (.agg #[.slice none 0 0,.int .i64 0]) (by kernel_rfl) rfl ⟨_,Try.underlying124,rfl⟩ rfl rfl false (fun h=>by cases h)
theorem Z9c:TyOk Try.prog 132 ⟨.slice 3,1,24,[.slice none 0 0],false⟩:=TyOk.of (P:=Try.prog) (t:=132) (.slice 3) 1 24 [.slice none 0 0] (.slice none 0 0) (by kernel_rfl) rfl Try.underlying132 rfl rfl false (fun h=>by cases h)
theorem Z9d:TyOk Try.prog 133 ⟨.ptr 110,1,8,[.pointer none],false⟩:=TyOk.of (P:=Try.prog) (t:=133) (.ptr 110) 1 8 [.pointer none] (.pointer none) (by kernel_rfl) rfl Try.underlying133 rfl rfl false (fun h=>by cases h)
theorem Z9e:TyOk Try.prog 136 ⟨.ptr 25,1,8,[.pointer none],false⟩:=TyOk.of (P:=Try.prog) (t:=136) (.ptr 25) 1 8 [.pointer none] (.pointer none) (by kernel_rfl) rfl Try.underlying136 rfl rfl false (fun h=>by cases h)
theorem Z9f:TyOk Try.prog 138 ⟨.struct [(0,23),(1,23)],2,48,[.slice none 0 0,.slice none 0 0],false⟩:=TyOk.of (P:=Try.prog) (t:=138) (.struct [(0,23),(1,23)]) 2 48 [.slice none 0 0,.slice none 0 0] (.agg #[.slice none 0 0,.slice none 0 0]) (by kernel_rfl) rfl ⟨_,Try.underlying138,rfl⟩ rfl rfl false (fun h=>by cases h)
theorem Z9g:TyOk Try.prog 139 ⟨.struct [(0,23),(1,23)],2,48,[.slice none 0 0,.slice none 0 0],false⟩:=TyOk.of (P:=Try.prog) (t:=139) (.struct [(0,23),(1,23)]) 2 48 [.slice none 0 0,.slice none 0 0] (.agg #[.slice none 0 0,.slice none 0 0]) (by kernel_rfl) rfl ⟨_,Try.underlying139,rfl⟩ rfl rfl false (fun h=>by cases h)
theorem Z9h:TyOk Try.prog 141 ⟨.ptr 124,1,8,[.pointer none],false⟩:=TyOk.of (P:=Try.prog) (t:=141) (.ptr 124) 1 8 [.pointer none] (.pointer none) (by kernel_rfl) rfl Try.underlying141 rfl rfl false (fun h=>by cases h)
theorem Z9i:TyOk Try.prog 142 ⟨.ptr 139,1,8,[.pointer none],false⟩:=TyOk.of (P:=Try.prog) (t:=142) (.ptr 139) 1 8 [.pointer none] (.pointer none) (by kernel_rfl) rfl Try.underlying142 rfl rfl false (fun h=>by cases h)
theorem Z9j:TyOk Try.prog 157 ⟨.arr 6 3,6,48,[.int .i64 0,.int .i64 0,.int .i64 0,.int .i64 0,.int .i64 0,.int .i64 0],false⟩:=TyOk.of (P:=Try.prog) (t:=157) (.arr 6 3) 6 48 [.int .i64 0,.int .i64 0,.int .i64 0,.int .i64 0,.int .i64 0,.int .i64 0] (.agg #[.int .i64 0,.int .i64 0,.int .i64 0,.int .i64 0,.int .i64 0,.int .i64 0]) (by kernel_rfl) rfl Try.underlying157 rfl rfl false (fun h=>by cases h)
theorem Z9k:TyOk Try.prog 159 ⟨.struct [(0,17),(1,17),(2,17),(3,9)],4,40,[.pointer none,.pointer none,.pointer none,.string ByteArray.empty],false⟩:=TyOk.of (P:=Try.prog) (t:=159) (.struct [(0,17),(1,17),(2,17),(3,9)]) 4 40 [.pointer none,.pointer none,.pointer none,.string ByteArray.empty] (.agg #[.pointer none,.pointer none,.pointer none,.string ByteArray.empty]) (by kernel_rfl) rfl ⟨_,Try.underlying159,rfl⟩ rfl rfl false (fun h=>by cases h)
theorem Z9l:TyOk Try.prog 160 ⟨.struct [(0,17),(1,17),(2,17),(3,9)],4,40,[.pointer none,.pointer none,.pointer none,.string ByteArray.empty],false⟩:=TyOk.of (P:=Try.prog) (t:=160) (.struct [(0,17),(1,17),(2,17),(3,9)]) 4 40 [.pointer none,.pointer none,.pointer none,.string ByteArray.empty] (.agg #[.pointer none,.pointer none,.pointer none,.string ByteArray.empty]) (by kernel_rfl) rfl ⟨_,Try.underlying160,rfl⟩ rfl rfl false (fun h=>by cases h)
theorem Z9m:TyOk Try.prog 165 ⟨.int .u32,1,4,[.int .u32 0],false⟩:=TyOk.of (P:=Try.prog) (t:=165) (.int .u32) 1 4 [.int .u32 0] (.int .u32 0) (by kernel_rfl) rfl Try.underlying165 rfl rfl false (fun h=>by cases h)
theorem Z9n:TyOk Try.prog 166 ⟨.int .u8,1,1,[.int .u8 0],false⟩:=TyOk.of (P:=Try.prog) (t:=166) (.int .u8) 1 1 [.int .u8 0] (.int .u8 0) (by kernel_rfl) rfl Try.underlying166 rfl rfl false (fun h=>by cases h)
theorem Z9o:TyOk Try.prog 167 ⟨.int .u8,1,1,[.int .u8 0],false⟩:=TyOk.of (P:=Try.prog) (t:=167) (.int .u8) 1 1 [.int .u8 0] (.int .u8 0) (by kernel_rfl) rfl Try.underlying167 rfl rfl false (fun h=>by cases h)
theorem Z9p:TyOk Try.prog 169 ⟨.ptr 5,1,8,[.pointer none],false⟩:=TyOk.of (P:=Try.prog) (t:=169) (.ptr 5) 1 8 [.pointer none] (.pointer none) (by kernel_rfl) rfl Try.underlying169 rfl rfl false (fun h=>by cases h)
theorem Z9q:TyOk Try.prog 170 ⟨.int .i32,1,4,[.int .i32 0],false⟩:=TyOk.of (P:=Try.prog) (t:=170) (.int .i32) 1 4 [.int .i32 0] (.int .i32 0) (by kernel_rfl) rfl Try.underlying170 rfl rfl false (fun h=>by cases h)
theorem Z9r:TyOk Try.prog 171 ⟨.int .i32,1,4,[.int .i32 0],false⟩:=TyOk.of (P:=Try.prog) (t:=171) (.int .i32) 1 4 [.int .i32 0] (.int .i32 0) (by kernel_rfl) rfl Try.underlying171 rfl rfl false (fun h=>by cases h)
def tabL:List (Nat×TyI):=[(2,⟨.int .i64,1,8,[.int .i64 0],false⟩),
 (3,⟨.int .i64,1,8,[.int .i64 0],false⟩),
 (4,⟨.bool,1,1,[.bool false],false⟩),
 (5,⟨.int .u8,1,1,[.int .u8 0],false⟩),
 (6,⟨.int .u8,1,1,[.int .u8 0],false⟩),
 (7,⟨.struct [(0,2),(1,3),(2,4),(3,6)],4,24,[.int .i64 0,.int .i64 0,.bool false,.int .u8 0],false⟩),
 (8,⟨.struct [(0,2),(1,3),(2,4),(3,6)],4,24,[.int .i64 0,.int .i64 0,.bool false,.int .u8 0],false⟩),
 (9,⟨.str,1,16,[.string ByteArray.empty],false⟩),
 (10,⟨.str,1,16,[.string ByteArray.empty],false⟩),
 (11,⟨.str,1,16,[.string ByteArray.empty],false⟩),
 (12,⟨.int .u64,1,8,[.int .u64 0],false⟩),
 (13,⟨.struct [(0,9),(1,12)],2,24,[.string ByteArray.empty,.int .u64 0],false⟩),
 (14,⟨.struct [(0,9),(1,12)],2,24,[.string ByteArray.empty,.int .u64 0],false⟩),
 (15,⟨.ptr 160,1,8,[.pointer none],false⟩),
 (16,⟨.ptr 163,1,8,[.pointer none],false⟩),
 (17,⟨.ptr 173,1,8,[.pointer none],false⟩),
 (18,⟨.struct [(0,17)],1,8,[.pointer none],false⟩),
 (19,⟨.struct [(0,17)],1,8,[.pointer none],false⟩),
 (21,⟨.int .i32,1,4,[.int .i32 0],false⟩),
 (22,⟨.slice 56,1,24,[.slice none 0 0],false⟩),
 (23,⟨.slice 25,1,24,[.slice none 0 0],false⟩),
 (24,⟨.struct [(0,3),(1,22),(2,23)],3,56,[.int .i64 0,.slice none 0 0,.slice none 0 0],false⟩),
 (25,⟨.struct [(0,3),(1,22),(2,23)],3,56,[.int .i64 0,.slice none 0 0,.slice none 0 0],false⟩),
 (26,⟨.slice 58,1,24,[.slice none 0 0],false⟩),
 (27,⟨.slice 71,1,24,[.slice none 0 0],false⟩),
 (28,⟨.slice 69,1,24,[.slice none 0 0],false⟩),
 (29,⟨.struct [(0,3),(1,25),(4,25),(7,26),(8,27),(9,3),(10,28)],11,200,[.int .i64 0,.int .i64 0,.slice none 0 0,.slice none 0 0,.int .i64 0,.slice none 0 0,.slice none 0 0,.slice none 0 0,.slice none 0 0,.int .i64 0,.slice none 0 0],false⟩),
 (30,⟨.struct [(0,3),(1,25),(4,25),(7,26),(8,27),(9,3),(10,28)],11,200,[.int .i64 0,.int .i64 0,.slice none 0 0,.slice none 0 0,.int .i64 0,.slice none 0 0,.slice none 0 0,.slice none 0 0,.slice none 0 0,.int .i64 0,.slice none 0 0],false⟩),
 (46,⟨.slice 79,1,24,[.slice none 0 0],false⟩),
 (49,⟨.slice 84,1,24,[.slice none 0 0],false⟩),
 (52,⟨.slice 82,1,24,[.slice none 0 0],false⟩),
 (56,⟨.int .u64,1,8,[.int .u64 0],false⟩),
 (57,⟨.struct [(0,3),(1,5),(2,56),(3,56)],4,32,[.int .i64 0,.int .u8 0,.int .u64 0,.int .u64 0],false⟩),
 (58,⟨.struct [(0,3),(1,5),(2,56),(3,56)],4,32,[.int .i64 0,.int .u8 0,.int .u64 0,.int .u64 0],true⟩),
 (62,⟨.slice 102,1,24,[.slice none 0 0],false⟩),
 (68,⟨.struct [(0,3),(1,3),(2,23),(3,30)],14,240,[.int .i64 0,.int .i64 0,.slice none 0 0,.int .i64 0,.int .i64 0,.slice none 0 0,.slice none 0 0,.int .i64 0,.slice none 0 0,.slice none 0 0,.slice none 0 0,.slice none 0 0,.int .i64 0,.slice none 0 0],false⟩),
 (69,⟨.struct [(0,3),(1,3),(2,23),(3,30)],14,240,[.int .i64 0,.int .i64 0,.slice none 0 0,.int .i64 0,.int .i64 0,.slice none 0 0,.slice none 0 0,.int .i64 0,.slice none 0 0,.slice none 0 0,.slice none 0 0,.slice none 0 0,.int .i64 0,.slice none 0 0],false⟩),
 (70,⟨.struct [(0,3),(1,30)],12,208,[.int .i64 0,.int .i64 0,.int .i64 0,.slice none 0 0,.slice none 0 0,.int .i64 0,.slice none 0 0,.slice none 0 0,.slice none 0 0,.slice none 0 0,.int .i64 0,.slice none 0 0],false⟩),
 (71,⟨.struct [(0,3),(1,30)],12,208,[.int .i64 0,.int .i64 0,.int .i64 0,.slice none 0 0,.slice none 0 0,.int .i64 0,.slice none 0 0,.slice none 0 0,.slice none 0 0,.slice none 0 0,.int .i64 0,.slice none 0 0],false⟩),
 (78,⟨.struct [(0,3),(1,69),(15,69)],29,488,[.int .i64 0,.int .i64 0,.int .i64 0,.slice none 0 0,.int .i64 0,.int .i64 0,.slice none 0 0,.slice none 0 0,.int .i64 0,.slice none 0 0,.slice none 0 0,.slice none 0 0,.slice none 0 0,.int .i64 0,.slice none 0 0,.int .i64 0,.int .i64 0,.slice none 0 0,.int .i64 0,.int .i64 0,.slice none 0 0,.slice none 0 0,.int .i64 0,.slice none 0 0,.slice none 0 0,.slice none 0 0,.slice none 0 0,.int .i64 0,.slice none 0 0],false⟩),
 (79,⟨.struct [(0,3),(1,69),(15,69)],29,488,[.int .i64 0,.int .i64 0,.int .i64 0,.slice none 0 0,.int .i64 0,.int .i64 0,.slice none 0 0,.slice none 0 0,.int .i64 0,.slice none 0 0,.slice none 0 0,.slice none 0 0,.slice none 0 0,.int .i64 0,.slice none 0 0,.int .i64 0,.int .i64 0,.slice none 0 0,.int .i64 0,.int .i64 0,.slice none 0 0,.slice none 0 0,.int .i64 0,.slice none 0 0,.slice none 0 0,.slice none 0 0,.slice none 0 0,.int .i64 0,.slice none 0 0],false⟩),
 (81,⟨.struct [(0,3),(1,3),(2,25),(5,30),(16,4)],17,280,[.int .i64 0,.int .i64 0,.int .i64 0,.slice none 0 0,.slice none 0 0,.int .i64 0,.int .i64 0,.slice none 0 0,.slice none 0 0,.int .i64 0,.slice none 0 0,.slice none 0 0,.slice none 0 0,.slice none 0 0,.int .i64 0,.slice none 0 0,.bool false],false⟩),
 (82,⟨.struct [(0,3),(1,3),(2,25),(5,30),(16,4)],17,280,[.int .i64 0,.int .i64 0,.int .i64 0,.slice none 0 0,.slice none 0 0,.int .i64 0,.int .i64 0,.slice none 0 0,.slice none 0 0,.int .i64 0,.slice none 0 0,.slice none 0 0,.slice none 0 0,.slice none 0 0,.int .i64 0,.slice none 0 0,.bool false],false⟩),
 (83,⟨.struct [(0,3),(1,82),(18,82)],35,568,[.int .i64 0,.int .i64 0,.int .i64 0,.int .i64 0,.slice none 0 0,.slice none 0 0,.int .i64 0,.int .i64 0,.slice none 0 0,.slice none 0 0,.int .i64 0,.slice none 0 0,.slice none 0 0,.slice none 0 0,.slice none 0 0,.int .i64 0,.slice none 0 0,.bool false,.int .i64 0,.int .i64 0,.int .i64 0,.slice none 0 0,.slice none 0 0,.int .i64 0,.int .i64 0,.slice none 0 0,.slice none 0 0,.int .i64 0,.slice none 0 0,.slice none 0 0,.slice none 0 0,.slice none 0 0,.int .i64 0,.slice none 0 0,.bool false],false⟩),
 (84,⟨.struct [(0,3),(1,82),(18,82)],35,568,[.int .i64 0,.int .i64 0,.int .i64 0,.int .i64 0,.slice none 0 0,.slice none 0 0,.int .i64 0,.int .i64 0,.slice none 0 0,.slice none 0 0,.int .i64 0,.slice none 0 0,.slice none 0 0,.slice none 0 0,.slice none 0 0,.int .i64 0,.slice none 0 0,.bool false,.int .i64 0,.int .i64 0,.int .i64 0,.slice none 0 0,.slice none 0 0,.int .i64 0,.int .i64 0,.slice none 0 0,.slice none 0 0,.int .i64 0,.slice none 0 0,.slice none 0 0,.slice none 0 0,.slice none 0 0,.int .i64 0,.slice none 0 0,.bool false],false⟩),
 (95,⟨.arr 8 5,8,8,[.int .u8 0,.int .u8 0,.int .u8 0,.int .u8 0,.int .u8 0,.int .u8 0,.int .u8 0,.int .u8 0],false⟩),
 (99,⟨.slice 5,1,24,[.slice none 0 0],false⟩),
 (101,⟨.struct [(0,3),(1,3)],2,16,[.int .i64 0,.int .i64 0],false⟩),
 (102,⟨.struct [(0,3),(1,3)],2,16,[.int .i64 0,.int .i64 0],true⟩),
 (109,⟨.struct [(0,28),(1,3),(2,23),(3,23)],4,80,[.slice none 0 0,.int .i64 0,.slice none 0 0,.slice none 0 0],false⟩),
 (110,⟨.struct [(0,28),(1,3),(2,23),(3,23)],4,80,[.slice none 0 0,.int .i64 0,.slice none 0 0,.slice none 0 0],false⟩),
 (113,⟨.ptr 23,1,8,[.pointer none],false⟩),
 (123,⟨.struct [(0,28),(1,3)],2,32,[.slice none 0 0,.int .i64 0],false⟩),
 (124,⟨.struct [(0,28),(1,3)],2,32,[.slice none 0 0,.int .i64 0],false⟩),
 (132,⟨.slice 3,1,24,[.slice none 0 0],false⟩),
 (133,⟨.ptr 110,1,8,[.pointer none],false⟩),
 (136,⟨.ptr 25,1,8,[.pointer none],false⟩),
 (138,⟨.struct [(0,23),(1,23)],2,48,[.slice none 0 0,.slice none 0 0],false⟩),
 (139,⟨.struct [(0,23),(1,23)],2,48,[.slice none 0 0,.slice none 0 0],false⟩),
 (141,⟨.ptr 124,1,8,[.pointer none],false⟩),
 (142,⟨.ptr 139,1,8,[.pointer none],false⟩),
 (157,⟨.arr 6 3,6,48,[.int .i64 0,.int .i64 0,.int .i64 0,.int .i64 0,.int .i64 0,.int .i64 0],false⟩),
 (159,⟨.struct [(0,17),(1,17),(2,17),(3,9)],4,40,[.pointer none,.pointer none,.pointer none,.string ByteArray.empty],false⟩),
 (160,⟨.struct [(0,17),(1,17),(2,17),(3,9)],4,40,[.pointer none,.pointer none,.pointer none,.string ByteArray.empty],false⟩),
 (165,⟨.int .u32,1,4,[.int .u32 0],false⟩),
 (166,⟨.int .u8,1,1,[.int .u8 0],false⟩),
 (167,⟨.int .u8,1,1,[.int .u8 0],false⟩),
 (169,⟨.ptr 5,1,8,[.pointer none],false⟩),
 (170,⟨.int .i32,1,4,[.int .i32 0],false⟩),
 (171,⟨.int .i32,1,4,[.int .i32 0],false⟩)]
def Qq:Kp:=fun t=>tabL.lookup t
theorem Zd:Qu Try.prog Qq:=fun t i h=>by
 have hm:=Zqe _ h
 unfold tabL at hm
 simp only [List.mem_cons,Prod.mk.injEq,List.not_mem_nil,or_false] at hm
 rcases hm with ⟨rfl,rfl⟩ | ⟨rfl,rfl⟩ | ⟨rfl,rfl⟩ | ⟨rfl,rfl⟩ | ⟨rfl,rfl⟩ | ⟨rfl,rfl⟩ | ⟨rfl,rfl⟩ | ⟨rfl,rfl⟩ | ⟨rfl,rfl⟩ | ⟨rfl,rfl⟩ | ⟨rfl,rfl⟩ | ⟨rfl,rfl⟩ | ⟨rfl,rfl⟩ | ⟨rfl,rfl⟩ | ⟨rfl,rfl⟩ | ⟨rfl,rfl⟩ | ⟨rfl,rfl⟩ | ⟨rfl,rfl⟩ | ⟨rfl,rfl⟩ | ⟨rfl,rfl⟩ | ⟨rfl,rfl⟩ | ⟨rfl,rfl⟩ | ⟨rfl,rfl⟩ | ⟨rfl,rfl⟩ | ⟨rfl,rfl⟩ | ⟨rfl,rfl⟩ | ⟨rfl,rfl⟩ | ⟨rfl,rfl⟩ | ⟨rfl,rfl⟩ | ⟨rfl,rfl⟩ | ⟨rfl,rfl⟩ | ⟨rfl,rfl⟩ | ⟨rfl,rfl⟩ | ⟨rfl,rfl⟩ | ⟨rfl,rfl⟩ | ⟨rfl,rfl⟩ | ⟨rfl,rfl⟩ | ⟨rfl,rfl⟩ | ⟨rfl,rfl⟩ | ⟨rfl,rfl⟩ | ⟨rfl,rfl⟩ | ⟨rfl,rfl⟩ | ⟨rfl,rfl⟩ | ⟨rfl,rfl⟩ | ⟨rfl,rfl⟩ | ⟨rfl,rfl⟩ | ⟨rfl,rfl⟩ | ⟨rfl,rfl⟩ | ⟨rfl,rfl⟩ | ⟨rfl,rfl⟩ | ⟨rfl,rfl⟩ | ⟨rfl,rfl⟩ | ⟨rfl,rfl⟩ | ⟨rfl,rfl⟩ | ⟨rfl,rfl⟩ | ⟨rfl,rfl⟩ | ⟨rfl,rfl⟩ | ⟨rfl,rfl⟩ | ⟨rfl,rfl⟩ | ⟨rfl,rfl⟩ | ⟨rfl,rfl⟩ | ⟨rfl,rfl⟩ | ⟨rfl,rfl⟩ | ⟨rfl,rfl⟩ | ⟨rfl,rfl⟩ | ⟨rfl,rfl⟩ | ⟨rfl,rfl⟩ | ⟨rfl,rfl⟩ | ⟨rfl,rfl⟩ | ⟨rfl,rfl⟩
 ·exact ty2
 ·exact ty3
 ·exact ty4
 ·exact ty5
 ·exact ty6
 ·exact ty7
 ·exact ty8
 ·exact ty9
 ·exact Z9x
 ·exact Z9y
 ·exact Z9z
 ·exact Z90
 ·exact Z91
 ·exact Z92
 ·exact Z93
 ·exact Z94
 ·exact Z95
 ·exact Z96
 ·exact Z97
 ·exact Z98
 ·exact Z99
 ·exact Yaa
 ·exact Yab
 ·exact Yac
 ·exact Yad
 ·exact Yae
 ·exact Yaf
 ·exact Yag
 ·exact Yah
 ·exact Yai
 ·exact Yaj
 ·exact Yak
 ·exact Yal
 ·exact Yam
 ·exact Yan
 ·exact Yao
 ·exact Yap
 ·exact Yaq
 ·exact Yar
 ·exact Yas
 ·exact Yat
 ·exact Yau
 ·exact Yav
 ·exact Yaw
 ·exact Yax
 ·exact Yay
 ·exact Yaz
 ·exact Z85
 ·exact Z86
 ·exact Z87
 ·exact Z88
 ·exact Z89
 ·exact Z9a
 ·exact Z9b
 ·exact Z9c
 ·exact Z9d
 ·exact Z9e
 ·exact Z9f
 ·exact Z9g
 ·exact Z9h
 ·exact Z9i
 ·exact Z9j
 ·exact Z9k
 ·exact Z9l
 ·exact Z9m
 ·exact Z9n
 ·exact Z9o
 ·exact Z9p
 ·exact Z9q
 exact Z9r
theorem Z71:Qq 2=some ⟨.int .i64,1,8,[.int .i64 0],false⟩:=rfl
theorem Zvh:Qq 3=some ⟨.int .i64,1,8,[.int .i64 0],false⟩:=rfl
theorem Z72:Qq 4=some ⟨.bool,1,1,[.bool false],false⟩:=rfl
theorem Zx5:Qq 5=some ⟨.int .u8,1,1,[.int .u8 0],false⟩:=rfl
theorem Z73:Qq 6=some ⟨.int .u8,1,1,[.int .u8 0],false⟩:=rfl
theorem Z74:Qq 7=some ⟨.struct [(0,2),(1,3),(2,4),(3,6)],4,24,[.int .i64 0,.int .i64 0,.bool false,.int .u8 0],false⟩:=rfl
theorem Z75:Qq 8=some ⟨.struct [(0,2),(1,3),(2,4),(3,6)],4,24,[.int .i64 0,.int .i64 0,.bool false,.int .u8 0],false⟩:=rfl
theorem Z76:Qq 9=some ⟨.str,1,16,[.string ByteArray.empty],false⟩:=rfl
theorem Z4q:Qq 10=some ⟨.str,1,16,[.string ByteArray.empty],false⟩:=rfl
theorem Z4r:Qq 11=some ⟨.str,1,16,[.string ByteArray.empty],false⟩:=rfl
theorem Z4s:Qq 12=some ⟨.int .u64,1,8,[.int .u64 0],false⟩:=rfl
theorem Z4t:Qq 13=some ⟨.struct [(0,9),(1,12)],2,24,[.string ByteArray.empty,.int .u64 0],false⟩:=rfl
theorem Z4u:Qq 14=some ⟨.struct [(0,9),(1,12)],2,24,[.string ByteArray.empty,.int .u64 0],false⟩:=rfl
theorem Z4v:Qq 15=some ⟨.ptr 160,1,8,[.pointer none],false⟩:=rfl
theorem Z4w:Qq 16=some ⟨.ptr 163,1,8,[.pointer none],false⟩:=rfl
theorem Z4x:Qq 17=some ⟨.ptr 173,1,8,[.pointer none],false⟩:=rfl
theorem Z4y:Qq 18=some ⟨.struct [(0,17)],1,8,[.pointer none],false⟩:=rfl
theorem Z4z:Qq 19=some ⟨.struct [(0,17)],1,8,[.pointer none],false⟩:=rfl
theorem Z40:Qq 21=some ⟨.int .i32,1,4,[.int .i32 0],false⟩:=rfl
theorem Z41:Qq 22=some ⟨.slice 56,1,24,[.slice none 0 0],false⟩:=rfl
theorem Zx4:Qq 23=some ⟨.slice 25,1,24,[.slice none 0 0],false⟩:=rfl
theorem Z42:Qq 24=some ⟨.struct [(0,3),(1,22),(2,23)],3,56,[.int .i64 0,.slice none 0 0,.slice none 0 0],false⟩:=rfl
theorem Vm:Qq 25=some ⟨.struct [(0,3),(1,22),(2,23)],3,56,[.int .i64 0,.slice none 0 0,.slice none 0 0],false⟩:=rfl
theorem Z43:Qq 26=some ⟨.slice 58,1,24,[.slice none 0 0],false⟩:=rfl
theorem Z44:Qq 27=some ⟨.slice 71,1,24,[.slice none 0 0],false⟩:=rfl
theorem Z45:Qq 28=some ⟨.slice 69,1,24,[.slice none 0 0],false⟩:=rfl
theorem Z46:Qq 29=some ⟨.struct [(0,3),(1,25),(4,25),(7,26),(8,27),(9,3),(10,28)],11,200,[.int .i64 0,.int .i64 0,.slice none 0 0,.slice none 0 0,.int .i64 0,.slice none 0 0,.slice none 0 0,.slice none 0 0,.slice none 0 0,.int .i64 0,.slice none 0 0],false⟩:=rfl
theorem Zrj:Qq 30=some ⟨.struct [(0,3),(1,25),(4,25),(7,26),(8,27),(9,3),(10,28)],11,200,[.int .i64 0,.int .i64 0,.slice none 0 0,.slice none 0 0,.int .i64 0,.slice none 0 0,.slice none 0 0,.slice none 0 0,.slice none 0 0,.int .i64 0,.slice none 0 0],false⟩:=rfl
theorem Z47:Qq 46=some ⟨.slice 79,1,24,[.slice none 0 0],false⟩:=rfl
theorem Z48:Qq 49=some ⟨.slice 84,1,24,[.slice none 0 0],false⟩:=rfl
theorem Z49:Qq 52=some ⟨.slice 82,1,24,[.slice none 0 0],false⟩:=rfl
theorem Zg2:Qq 56=some ⟨.int .u64,1,8,[.int .u64 0],false⟩:=rfl
theorem Z5a:Qq 57=some ⟨.struct [(0,3),(1,5),(2,56),(3,56)],4,32,[.int .i64 0,.int .u8 0,.int .u64 0,.int .u64 0],false⟩:=rfl
theorem Ztl:Qq 58=some ⟨.struct [(0,3),(1,5),(2,56),(3,56)],4,32,[.int .i64 0,.int .u8 0,.int .u64 0,.int .u64 0],true⟩:=rfl
theorem Z5b:Qq 62=some ⟨.slice 102,1,24,[.slice none 0 0],false⟩:=rfl
theorem Z5c:Qq 68=some ⟨.struct [(0,3),(1,3),(2,23),(3,30)],14,240,[.int .i64 0,.int .i64 0,.slice none 0 0,.int .i64 0,.int .i64 0,.slice none 0 0,.slice none 0 0,.int .i64 0,.slice none 0 0,.slice none 0 0,.slice none 0 0,.slice none 0 0,.int .i64 0,.slice none 0 0],false⟩:=rfl
theorem Zda:Qq 69=some ⟨.struct [(0,3),(1,3),(2,23),(3,30)],14,240,[.int .i64 0,.int .i64 0,.slice none 0 0,.int .i64 0,.int .i64 0,.slice none 0 0,.slice none 0 0,.int .i64 0,.slice none 0 0,.slice none 0 0,.slice none 0 0,.slice none 0 0,.int .i64 0,.slice none 0 0],false⟩:=rfl
theorem Z5d:Qq 70=some ⟨.struct [(0,3),(1,30)],12,208,[.int .i64 0,.int .i64 0,.int .i64 0,.slice none 0 0,.slice none 0 0,.int .i64 0,.slice none 0 0,.slice none 0 0,.slice none 0 0,.slice none 0 0,.int .i64 0,.slice none 0 0],false⟩:=rfl
theorem Zmv:Qq 71=some ⟨.struct [(0,3),(1,30)],12,208,[.int .i64 0,.int .i64 0,.int .i64 0,.slice none 0 0,.slice none 0 0,.int .i64 0,.slice none 0 0,.slice none 0 0,.slice none 0 0,.slice none 0 0,.int .i64 0,.slice none 0 0],false⟩:=rfl
theorem Z5e:Qq 78=some ⟨.struct [(0,3),(1,69),(15,69)],29,488,[.int .i64 0,.int .i64 0,.int .i64 0,.slice none 0 0,.int .i64 0,.int .i64 0,.slice none 0 0,.slice none 0 0,.int .i64 0,.slice none 0 0,.slice none 0 0,.slice none 0 0,.slice none 0 0,.int .i64 0,.slice none 0 0,.int .i64 0,.int .i64 0,.slice none 0 0,.int .i64 0,.int .i64 0,.slice none 0 0,.slice none 0 0,.int .i64 0,.slice none 0 0,.slice none 0 0,.slice none 0 0,.slice none 0 0,.int .i64 0,.slice none 0 0],false⟩:=rfl
theorem Z5f:Qq 79=some ⟨.struct [(0,3),(1,69),(15,69)],29,488,[.int .i64 0,.int .i64 0,.int .i64 0,.slice none 0 0,.int .i64 0,.int .i64 0,.slice none 0 0,.slice none 0 0,.int .i64 0,.slice none 0 0,.slice none 0 0,.slice none 0 0,.slice none 0 0,.int .i64 0,.slice none 0 0,.int .i64 0,.int .i64 0,.slice none 0 0,.int .i64 0,.int .i64 0,.slice none 0 0,.slice none 0 0,.int .i64 0,.slice none 0 0,.slice none 0 0,.slice none 0 0,.slice none 0 0,.int .i64 0,.slice none 0 0],false⟩:=rfl
theorem Z5g:Qq 81=some ⟨.struct [(0,3),(1,3),(2,25),(5,30),(16,4)],17,280,[.int .i64 0,.int .i64 0,.int .i64 0,.slice none 0 0,.slice none 0 0,.int .i64 0,.int .i64 0,.slice none 0 0,.slice none 0 0,.int .i64 0,.slice none 0 0,.slice none 0 0,.slice none 0 0,.slice none 0 0,.int .i64 0,.slice none 0 0,.bool false],false⟩:=rfl
theorem Z5h:Qq 82=some ⟨.struct [(0,3),(1,3),(2,25),(5,30),(16,4)],17,280,[.int .i64 0,.int .i64 0,.int .i64 0,.slice none 0 0,.slice none 0 0,.int .i64 0,.int .i64 0,.slice none 0 0,.slice none 0 0,.int .i64 0,.slice none 0 0,.slice none 0 0,.slice none 0 0,.slice none 0 0,.int .i64 0,.slice none 0 0,.bool false],false⟩:=rfl
theorem Z5i:Qq 83=some ⟨.struct [(0,3),(1,82),(18,82)],35,568,[.int .i64 0,.int .i64 0,.int .i64 0,.int .i64 0,.slice none 0 0,.slice none 0 0,.int .i64 0,.int .i64 0,.slice none 0 0,.slice none 0 0,.int .i64 0,.slice none 0 0,.slice none 0 0,.slice none 0 0,.slice none 0 0,.int .i64 0,.slice none 0 0,.bool false,.int .i64 0,.int .i64 0,.int .i64 0,.slice none 0 0,.slice none 0 0,.int .i64 0,.int .i64 0,.slice none 0 0,.slice none 0 0,.int .i64 0,.slice none 0 0,.slice none 0 0,.slice none 0 0,.slice none 0 0,.int .i64 0,.slice none 0 0,.bool false],false⟩:=rfl
theorem Z5j:Qq 84=some ⟨.struct [(0,3),(1,82),(18,82)],35,568,[.int .i64 0,.int .i64 0,.int .i64 0,.int .i64 0,.slice none 0 0,.slice none 0 0,.int .i64 0,.int .i64 0,.slice none 0 0,.slice none 0 0,.int .i64 0,.slice none 0 0,.slice none 0 0,.slice none 0 0,.slice none 0 0,.int .i64 0,.slice none 0 0,.bool false,.int .i64 0,.int .i64 0,.int .i64 0,.slice none 0 0,.slice none 0 0,.int .i64 0,.int .i64 0,.slice none 0 0,.slice none 0 0,.int .i64 0,.slice none 0 0,.slice none 0 0,.slice none 0 0,.slice none 0 0,.int .i64 0,.slice none 0 0,.bool false],false⟩:=rfl
theorem Zx6:Qq 95=some ⟨.arr 8 5,8,8,[.int .u8 0,.int .u8 0,.int .u8 0,.int .u8 0,.int .u8 0,.int .u8 0,.int .u8 0,.int .u8 0],false⟩:=rfl
theorem Z5k:Qq 99=some ⟨.slice 5,1,24,[.slice none 0 0],false⟩:=rfl
theorem Zza:Qq 101=some ⟨.struct [(0,3),(1,3)],2,16,[.int .i64 0,.int .i64 0],false⟩:=rfl
theorem Zzb:Qq 102=some ⟨.struct [(0,3),(1,3)],2,16,[.int .i64 0,.int .i64 0],true⟩:=rfl
theorem Zzc:Qq 109=some ⟨.struct [(0,28),(1,3),(2,23),(3,23)],4,80,[.slice none 0 0,.int .i64 0,.slice none 0 0,.slice none 0 0],false⟩:=rfl
theorem Zzd:Qq 110=some ⟨.struct [(0,28),(1,3),(2,23),(3,23)],4,80,[.slice none 0 0,.int .i64 0,.slice none 0 0,.slice none 0 0],false⟩:=rfl
theorem Zze:Qq 113=some ⟨.ptr 23,1,8,[.pointer none],false⟩:=rfl
theorem Zzf:Qq 123=some ⟨.struct [(0,28),(1,3)],2,32,[.slice none 0 0,.int .i64 0],false⟩:=rfl
theorem Zzg:Qq 124=some ⟨.struct [(0,28),(1,3)],2,32,[.slice none 0 0,.int .i64 0],false⟩:=rfl
theorem Zzh:Qq 132=some ⟨.slice 3,1,24,[.slice none 0 0],false⟩:=rfl
theorem Zzi:Qq 133=some ⟨.ptr 110,1,8,[.pointer none],false⟩:=rfl
theorem Zzj:Qq 136=some ⟨.ptr 25,1,8,[.pointer none],false⟩:=rfl
theorem Zzk:Qq 138=some ⟨.struct [(0,23),(1,23)],2,48,[.slice none 0 0,.slice none 0 0],false⟩:=rfl
theorem Zzl:Qq 139=some ⟨.struct [(0,23),(1,23)],2,48,[.slice none 0 0,.slice none 0 0],false⟩:=rfl
theorem Zzm:Qq 141=some ⟨.ptr 124,1,8,[.pointer none],false⟩:=rfl
theorem Zzn:Qq 142=some ⟨.ptr 139,1,8,[.pointer none],false⟩:=rfl
theorem Zzo:Qq 157=some ⟨.arr 6 3,6,48,[.int .i64 0,.int .i64 0,.int .i64 0,.int .i64 0,.int .i64 0,.int .i64 0],false⟩:=rfl
theorem Zzp:Qq 159=some ⟨.struct [(0,17),(1,17),(2,17),(3,9)],4,40,[.pointer none,.pointer none,.pointer none,.string ByteArray.empty],false⟩:=rfl
theorem Zzq:Qq 160=some ⟨.struct [(0,17),(1,17),(2,17),(3,9)],4,40,[.pointer none,.pointer none,.pointer none,.string ByteArray.empty],false⟩:=rfl
theorem Zzr:Qq 165=some ⟨.int .u32,1,4,[.int .u32 0],false⟩:=rfl
theorem Zzs:Qq 166=some ⟨.int .u8,1,1,[.int .u8 0],false⟩:=rfl
theorem Zzt:Qq 167=some ⟨.int .u8,1,1,[.int .u8 0],false⟩:=rfl
theorem Zzu:Qq 169=some ⟨.ptr 5,1,8,[.pointer none],false⟩:=rfl
theorem Zzv:Qq 170=some ⟨.int .i32,1,4,[.int .i32 0],false⟩:=rfl
theorem Zzw:Qq 171=some ⟨.int .i32,1,4,[.int .i32 0],false⟩:=rfl
theorem Zzx:Yn Qq 2=some (.int .i64):=rfl
theorem Zzy:Yn Qq 3=some (.int .i64):=rfl
theorem Zzz:Yn Qq 4=some (.bool):=rfl
theorem Zz0:Yn Qq 5=some (.int .u8):=rfl
theorem Zz1:Yn Qq 6=some (.int .u8):=rfl
theorem Zz2:Yn Qq 7=some (.struct [(0,2),(1,3),(2,4),(3,6)]):=rfl
theorem Zz3:Yn Qq 8=some (.struct [(0,2),(1,3),(2,4),(3,6)]):=rfl
theorem Zz4:Yn Qq 9=some (.str):=rfl
theorem Zvi:Yn Qq 10=some (.str):=rfl
theorem Zvj:Yn Qq 11=some (.str):=rfl
theorem Zvk:Yn Qq 12=some (.int .u64):=rfl
theorem Zvl:Yn Qq 13=some (.struct [(0,9),(1,12)]):=rfl
theorem Zvm:Yn Qq 14=some (.struct [(0,9),(1,12)]):=rfl
theorem Zvn:Yn Qq 15=some (.ptr 160):=rfl
theorem Zvo:Yn Qq 16=some (.ptr 163):=rfl
theorem Zvp:Yn Qq 17=some (.ptr 173):=rfl
theorem Zvq:Yn Qq 18=some (.struct [(0,17)]):=rfl
theorem Zvr:Yn Qq 19=some (.struct [(0,17)]):=rfl
theorem Zvs:Yn Qq 21=some (.int .i32):=rfl
theorem Zo8:Yn Qq 22=some (.slice 56):=rfl
theorem Zer:Yn Qq 23=some (.slice 25):=rfl
theorem Zvt:Yn Qq 24=some (.struct [(0,3),(1,22),(2,23)]):=rfl
theorem Zvu:Yn Qq 25=some (.struct [(0,3),(1,22),(2,23)]):=rfl
theorem Zvv:Yn Qq 26=some (.slice 58):=rfl
theorem Zvw:Yn Qq 27=some (.slice 71):=rfl
theorem Zvx:Yn Qq 28=some (.slice 69):=rfl
theorem Zvy:Yn Qq 29=some (.struct [(0,3),(1,25),(4,25),(7,26),(8,27),(9,3),(10,28)]):=rfl
theorem Zvz:Yn Qq 30=some (.struct [(0,3),(1,25),(4,25),(7,26),(8,27),(9,3),(10,28)]):=rfl
theorem Zv0:Yn Qq 46=some (.slice 79):=rfl
theorem Zv1:Yn Qq 49=some (.slice 84):=rfl
theorem Zv2:Yn Qq 52=some (.slice 82):=rfl
theorem Zv3:Yn Qq 56=some (.int .u64):=rfl
theorem Zv4:Yn Qq 57=some (.struct [(0,3),(1,5),(2,56),(3,56)]):=rfl
theorem Zv5:Yn Qq 58=some (.struct [(0,3),(1,5),(2,56),(3,56)]):=rfl
theorem Zv6:Yn Qq 62=some (.slice 102):=rfl
theorem Zv7:Yn Qq 68=some (.struct [(0,3),(1,3),(2,23),(3,30)]):=rfl
theorem Zv8:Yn Qq 69=some (.struct [(0,3),(1,3),(2,23),(3,30)]):=rfl
theorem Zv9:Yn Qq 70=some (.struct [(0,3),(1,30)]):=rfl
theorem Zwa:Yn Qq 71=some (.struct [(0,3),(1,30)]):=rfl
theorem Zwb:Yn Qq 78=some (.struct [(0,3),(1,69),(15,69)]):=rfl
theorem Zwc:Yn Qq 79=some (.struct [(0,3),(1,69),(15,69)]):=rfl
theorem Zwd:Yn Qq 81=some (.struct [(0,3),(1,3),(2,25),(5,30),(16,4)]):=rfl
theorem Zwe:Yn Qq 82=some (.struct [(0,3),(1,3),(2,25),(5,30),(16,4)]):=rfl
theorem Zwf:Yn Qq 83=some (.struct [(0,3),(1,82),(18,82)]):=rfl
theorem Zwg:Yn Qq 84=some (.struct [(0,3),(1,82),(18,82)]):=rfl
theorem Zo9:Yn Qq 95=some (.arr 8 5):=rfl
theorem Zwh:Yn Qq 99=some (.slice 5):=rfl
theorem Zrl:Yn Qq 101=some (.struct [(0,3),(1,3)]):=rfl
theorem Zrm:Yn Qq 102=some (.struct [(0,3),(1,3)]):=rfl
theorem Zrn:Yn Qq 109=some (.struct [(0,28),(1,3),(2,23),(3,23)]):=rfl
theorem Zro:Yn Qq 110=some (.struct [(0,28),(1,3),(2,23),(3,23)]):=rfl
theorem Zrp:Yn Qq 113=some (.ptr 23):=rfl
theorem Zrq:Yn Qq 123=some (.struct [(0,28),(1,3)]):=rfl
theorem Zrr:Yn Qq 124=some (.struct [(0,28),(1,3)]):=rfl
theorem Zrs:Yn Qq 132=some (.slice 3):=rfl
theorem Zrt:Yn Qq 133=some (.ptr 110):=rfl
theorem Zru:Yn Qq 136=some (.ptr 25):=rfl
theorem Zrv:Yn Qq 138=some (.struct [(0,23),(1,23)]):=rfl
theorem Zrw:Yn Qq 139=some (.struct [(0,23),(1,23)]):=rfl
theorem Zrx:Yn Qq 141=some (.ptr 124):=rfl
theorem Zry:Yn Qq 142=some (.ptr 139):=rfl
theorem Zrz:Yn Qq 157=some (.arr 6 3):=rfl
theorem Zr0:Yn Qq 159=some (.struct [(0,17),(1,17),(2,17),(3,9)]):=rfl
theorem Zr1:Yn Qq 160=some (.struct [(0,17),(1,17),(2,17),(3,9)]):=rfl
theorem Zr2:Yn Qq 165=some (.int .u32):=rfl
theorem Zr3:Yn Qq 166=some (.int .u8):=rfl
theorem Zr4:Yn Qq 167=some (.int .u8):=rfl
theorem Zr5:Yn Qq 169=some (.ptr 5):=rfl
theorem Zr6:Yn Qq 170=some (.int .i32):=rfl
theorem Zr7:Yn Qq 171=some (.int .i32):=rfl
end Go.Proofs.Ytbcgiaijjaocdaa
