/- The types of this seat's program, as its dump has them, in the ghost memory's words; no condition. -/
import Derived.Test.YtbcgiaijjaocdaaRows
import Derived.Test.YtbcgiaijjaocdaaG16
namespace Go.Proofs.Ytbcgiaijjaocdaa
open Go.RowKit
set_option linter.unusedVariables false
set_option linter.unusedSimpArgs false
theorem TyOk.of {P:Program} {t:TypeId} (k:TK) (size bytes:Nat) (zero:List Value) (z:Value) (h:(P.info? t).map (fun i=>(i.zero,i.size,i.bytes))=some (some z,size,bytes)) (hz:z.cells.toList=zero) (hu:k.ok P t) (hl:zero.length=size) (h1:zero.all Value.oneCell'=true) (eq:Bool) (he:eq=true→Z36 P t):TyOk P t ⟨k,size,bytes,zero,eq⟩:=by
 refine ⟨?_,hu,hl,fun v hv=>List.all_eq_true.1 h1 v hv,he⟩
 cases hi:P.info? t with
 | none=>rw [hi] at h;cases h
 | some i =>
  rw [hi] at h
  simp only [Option.map_some,Option.some.injEq,Prod.mk.injEq] at h
  exact ⟨i,z,rfl,h.2.1,h.2.2,h.1,hz⟩
theorem Zpr {α:Type} {t:Nat} {i:α}:∀ (l:List (Nat×α)),l.lookup t=some i→(t,i)∈l
 | [],h=>by simp at h
 | (a,b)::l,h=>by
  rw [List.lookup_cons] at h
  split at h
  ·rename_i he
   injection h with h
   have:t=a:=by simpa using he
   subst h this
   exact .head _
  exact .tail _ (Zpr l h)
theorem ty2:TyOk Try.prog 2 ⟨.int .i64,1,8,[.int .i64 0],false⟩:=TyOk.of (P:=Try.prog) (t:=2) (.int .i64) 1 8 [.int .i64 0] (.int .i64 0) (by kernel_rfl) rfl Try.underlying2 rfl rfl false (fun h=>by cases h)
theorem ty3:TyOk Try.prog 3 ⟨.int .i64,1,8,[.int .i64 0],false⟩:=TyOk.of (P:=Try.prog) (t:=3) (.int .i64) 1 8 [.int .i64 0] (.int .i64 0) (by kernel_rfl) rfl Try.underlying3 rfl rfl false (fun h=>by cases h)
theorem ty4:TyOk Try.prog 4 ⟨.bool,1,1,[.bool false],false⟩:=TyOk.of (P:=Try.prog) (t:=4) (.bool) 1 1 [.bool false] (.bool false) (by kernel_rfl) rfl Try.underlying4 rfl rfl false (fun h=>by cases h)
theorem ty5:TyOk Try.prog 5 ⟨.int .u8,1,1,[.int .u8 0],false⟩:=TyOk.of (P:=Try.prog) (t:=5) (.int .u8) 1 1 [.int .u8 0] (.int .u8 0) (by kernel_rfl) rfl Try.underlying5 rfl rfl false (fun h=>by cases h)
theorem ty6:TyOk Try.prog 6 ⟨.int .u8,1,1,[.int .u8 0],false⟩:=TyOk.of (P:=Try.prog) (t:=6) (.int .u8) 1 1 [.int .u8 0] (.int .u8 0) (by kernel_rfl) rfl Try.underlying6 rfl rfl false (fun h=>by cases h)
theorem ty7:TyOk Try.prog 7 ⟨.struct [(0,2),(1,3),(2,4),(3,6)],4,24,[.int .i64 0,.int .i64 0,.bool false,.int .u8 0],false⟩:=TyOk.of (P:=Try.prog) (t:=7) (.struct [(0,2),(1,3),(2,4),(3,6)]) 4 24 [.int .i64 0,.int .i64 0,.bool false,.int .u8 0] (.agg #[.int .i64 0,.int .i64 0,.bool false,.int .u8 0]) (by kernel_rfl) rfl ⟨_,Try.underlying7,rfl⟩ rfl rfl false (fun h=>by cases h)
theorem ty8:TyOk Try.prog 8 ⟨.struct [(0,2),(1,3),(2,4),(3,6)],4,24,[.int .i64 0,.int .i64 0,.bool false,.int .u8 0],false⟩:=TyOk.of (P:=Try.prog) (t:=8) (.struct [(0,2),(1,3),(2,4),(3,6)]) 4 24 [.int .i64 0,.int .i64 0,.bool false,.int .u8 0] (.agg #[.int .i64 0,.int .i64 0,.bool false,.int .u8 0]) (by kernel_rfl) rfl ⟨_,Try.underlying8,rfl⟩ rfl rfl false (fun h=>by cases h)
theorem ty9:TyOk Try.prog 9 ⟨.str,1,16,[.string ByteArray.empty],false⟩:=TyOk.of (P:=Try.prog) (t:=9) (.str) 1 16 [.string ByteArray.empty] (.string ByteArray.empty) (by kernel_rfl) rfl Try.underlying9 rfl rfl false (fun h=>by cases h)
theorem Z7u:TyOk Try.prog 10 ⟨.str,1,16,[.string ByteArray.empty],false⟩:=TyOk.of (P:=Try.prog) (t:=10) (.str) 1 16 [.string ByteArray.empty] (.string ByteArray.empty) (by kernel_rfl) rfl Try.underlying10 rfl rfl false (fun h=>by cases h)
theorem Z7v:TyOk Try.prog 11 ⟨.str,1,16,[.string ByteArray.empty],false⟩:=TyOk.of (P:=Try.prog) (t:=11) (.str) 1 16 [.string ByteArray.empty] (.string ByteArray.empty) (by kernel_rfl) rfl Try.underlying11 rfl rfl false (fun h=>by cases h)
theorem Z7w:TyOk Try.prog 12 ⟨.int .u64,1,8,[.int .u64 0],false⟩:=TyOk.of (P:=Try.prog) (t:=12) (.int .u64) 1 8 [.int .u64 0] (.int .u64 0) (by kernel_rfl) rfl Try.underlying12 rfl rfl false (fun h=>by cases h)
theorem Z7x:TyOk Try.prog 13 ⟨.struct [(0,9),(1,12)],2,24,[.string ByteArray.empty,.int .u64 0],false⟩:=TyOk.of (P:=Try.prog) (t:=13) (.struct [(0,9),(1,12)]) 2 24 [.string ByteArray.empty,.int .u64 0] (.agg #[.string ByteArray.empty,.int .u64 0]) (by kernel_rfl) rfl ⟨_,Try.underlying13,rfl⟩ rfl rfl false (fun h=>by cases h)
theorem Z7y:TyOk Try.prog 14 ⟨.struct [(0,9),(1,12)],2,24,[.string ByteArray.empty,.int .u64 0],false⟩:=TyOk.of (P:=Try.prog) (t:=14) (.struct [(0,9),(1,12)]) 2 24 [.string ByteArray.empty,.int .u64 0] (.agg #[.string ByteArray.empty,.int .u64 0]) (by kernel_rfl) rfl ⟨_,Try.underlying14,rfl⟩ rfl rfl false (fun h=>by cases h)
theorem Z7z:TyOk Try.prog 15 ⟨.ptr 160,1,8,[.pointer none],false⟩:=TyOk.of (P:=Try.prog) (t:=15) (.ptr 160) 1 8 [.pointer none] (.pointer none) (by kernel_rfl) rfl Try.underlying15 rfl rfl false (fun h=>by cases h)
theorem Z70:TyOk Try.prog 16 ⟨.ptr 163,1,8,[.pointer none],false⟩:=TyOk.of (P:=Try.prog) (t:=16) (.ptr 163) 1 8 [.pointer none] (.pointer none) (by kernel_rfl) rfl Try.underlying16 rfl rfl false (fun h=>by cases h)
theorem Z71:TyOk Try.prog 17 ⟨.ptr 173,1,8,[.pointer none],false⟩:=TyOk.of (P:=Try.prog) (t:=17) (.ptr 173) 1 8 [.pointer none] (.pointer none) (by kernel_rfl) rfl Try.underlying17 rfl rfl false (fun h=>by cases h)
theorem Z72:TyOk Try.prog 18 ⟨.struct [(0,17)],1,8,[.pointer none],false⟩:=TyOk.of (P:=Try.prog) (t:=18) (.struct [(0,17)]) 1 8 [.pointer none] (.agg #[.pointer none]) (by kernel_rfl) rfl ⟨_,Try.underlying18,rfl⟩ rfl rfl false (fun h=>by cases h)
theorem Z73:TyOk Try.prog 19 ⟨.struct [(0,17)],1,8,[.pointer none],false⟩:=TyOk.of (P:=Try.prog) (t:=19) (.struct [(0,17)]) 1 8 [.pointer none] (.agg #[.pointer none]) (by kernel_rfl) rfl ⟨_,Try.underlying19,rfl⟩ rfl rfl false (fun h=>by cases h)
theorem Z74:TyOk Try.prog 21 ⟨.int .i32,1,4,[.int .i32 0],false⟩:=TyOk.of (P:=Try.prog) (t:=21) (.int .i32) 1 4 [.int .i32 0] (.int .i32 0) (by kernel_rfl) rfl Try.underlying21 rfl rfl false (fun h=>by cases h)
theorem Z75:TyOk Try.prog 22 ⟨.slice 56,1,24,[.slice none 0 0],false⟩:=TyOk.of (P:=Try.prog) (t:=22) (.slice 56) 1 24 [.slice none 0 0] (.slice none 0 0) (by kernel_rfl) rfl Try.underlying22 rfl rfl false (fun h=>by cases h)
theorem Z76:TyOk Try.prog 23 ⟨.slice 25,1,24,[.slice none 0 0],false⟩:=TyOk.of (P:=Try.prog) (t:=23) (.slice 25) 1 24 [.slice none 0 0] (.slice none 0 0) (by kernel_rfl) rfl Try.underlying23 rfl rfl false (fun h=>by cases h)
theorem Z77:TyOk Try.prog 24 ⟨.struct [(0,3),(1,22),(2,23)],3,56,[.int .i64 0,.slice none 0 0,.slice none 0 0],false⟩:=TyOk.of (P:=Try.prog) (t:=24) (.struct [(0,3),(1,22),(2,23)]) 3 56 [.int .i64 0,.slice none 0 0,.slice none 0 0] (.agg #[.int .i64 0,.slice none 0 0,.slice none 0 0]) (by kernel_rfl) rfl ⟨_,Try.underlying24,rfl⟩ rfl rfl false (fun h=>by cases h)
theorem Z78:TyOk Try.prog 25 ⟨.struct [(0,3),(1,22),(2,23)],3,56,[.int .i64 0,.slice none 0 0,.slice none 0 0],false⟩:=TyOk.of (P:=Try.prog) (t:=25) (.struct [(0,3),(1,22),(2,23)]) 3 56 [.int .i64 0,.slice none 0 0,.slice none 0 0] (.agg #[.int .i64 0,.slice none 0 0,.slice none 0 0]) (by kernel_rfl) rfl ⟨_,Try.underlying25,rfl⟩ rfl rfl false (fun h=>by cases h)
theorem Z79:TyOk Try.prog 26 ⟨.slice 58,1,24,[.slice none 0 0],false⟩:=TyOk.of (P:=Try.prog) (t:=26) (.slice 58) 1 24 [.slice none 0 0] (.slice none 0 0) (by kernel_rfl) rfl Try.underlying26 rfl rfl false (fun h=>by cases h)
theorem Z8a:TyOk Try.prog 27 ⟨.slice 71,1,24,[.slice none 0 0],false⟩:=TyOk.of (P:=Try.prog) (t:=27) (.slice 71) 1 24 [.slice none 0 0] (.slice none 0 0) (by kernel_rfl) rfl Try.underlying27 rfl rfl false (fun h=>by cases h)
theorem Z8b:TyOk Try.prog 28 ⟨.slice 69,1,24,[.slice none 0 0],false⟩:=TyOk.of (P:=Try.prog) (t:=28) (.slice 69) 1 24 [.slice none 0 0] (.slice none 0 0) (by kernel_rfl) rfl Try.underlying28 rfl rfl false (fun h=>by cases h)
theorem Z8c:TyOk Try.prog 29 ⟨.struct [(0,3),(1,25),(4,25),(7,26),(8,27),(9,3),(10,28)],11,200,[.int .i64 0,.int .i64 0,.slice none 0 0,.slice none 0 0,.int .i64 0,.slice none 0 0,.slice none 0 0,.slice none 0 0,.slice none 0 0,.int .i64 0,.slice none 0 0],false⟩:=TyOk.of (P:=Try.prog) (t:=29) (.struct [(0,3),(1,25),(4,25),(7,26),(8,27),(9,3),(10,28)]) 11 200 [.int .i64 0,.int .i64 0,.slice none 0 0,.slice none 0 0,.int .i64 0,.slice none 0 0,.slice none 0 0,.slice none 0 0,.slice none 0 0,.int .i64 0,.slice none 0 0] (.agg #[.int .i64 0,.int .i64 0,.slice none 0 0,.slice none 0 0,.int .i64 0,.slice none 0 0,.slice none 0 0,.slice none 0 0,.slice none 0 0,.int .i64 0,.slice none 0 0]) (by kernel_rfl) rfl ⟨_,Try.underlying29,rfl⟩ rfl rfl false (fun h=>by cases h)
theorem Z8d:TyOk Try.prog 30 ⟨.struct [(0,3),(1,25),(4,25),(7,26),(8,27),(9,3),(10,28)],11,200,[.int .i64 0,.int .i64 0,.slice none 0 0,.slice none 0 0,.int .i64 0,.slice none 0 0,.slice none 0 0,.slice none 0 0,.slice none 0 0,.int .i64 0,.slice none 0 0],false⟩:=TyOk.of (P:=Try.prog) (t:=30) (.struct [(0,3),(1,25),(4,25),(7,26),(8,27),(9,3),(10,28)]) 11 200 [.int .i64 0,.int .i64 0,.slice none 0 0,.slice none 0 0,.int .i64 0,.slice none 0 0,.slice none 0 0,.slice none 0 0,.slice none 0 0,.int .i64 0,.slice none 0 0] (.agg #[.int .i64 0,.int .i64 0,.slice none 0 0,.slice none 0 0,.int .i64 0,.slice none 0 0,.slice none 0 0,.slice none 0 0,.slice none 0 0,.int .i64 0,.slice none 0 0]) (by kernel_rfl) rfl ⟨_,Try.underlying30,rfl⟩ rfl rfl false (fun h=>by cases h)
theorem Z8e:TyOk Try.prog 46 ⟨.slice 79,1,24,[.slice none 0 0],false⟩:=TyOk.of (P:=Try.prog) (t:=46) (.slice 79) 1 24 [.slice none 0 0] (.slice none 0 0) (by kernel_rfl) rfl Try.underlying46 rfl rfl false (fun h=>by cases h)
theorem Z8f:TyOk Try.prog 49 ⟨.slice 84,1,24,[.slice none 0 0],false⟩:=TyOk.of (P:=Try.prog) (t:=49) (.slice 84) 1 24 [.slice none 0 0] (.slice none 0 0) (by kernel_rfl) rfl Try.underlying49 rfl rfl false (fun h=>by cases h)
theorem Z8g:TyOk Try.prog 52 ⟨.slice 82,1,24,[.slice none 0 0],false⟩:=TyOk.of (P:=Try.prog) (t:=52) (.slice 82) 1 24 [.slice none 0 0] (.slice none 0 0) (by kernel_rfl) rfl Try.underlying52 rfl rfl false (fun h=>by cases h)
theorem Z8h:TyOk Try.prog 56 ⟨.int .u64,1,8,[.int .u64 0],false⟩:=TyOk.of (P:=Try.prog) (t:=56) (.int .u64) 1 8 [.int .u64 0] (.int .u64 0) (by kernel_rfl) rfl Try.underlying56 rfl rfl false (fun h=>by cases h)
theorem Z8i:TyOk Try.prog 57 ⟨.struct [(0,3),(1,5),(2,56),(3,56)],4,32,[.int .i64 0,.int .u8 0,.int .u64 0,.int .u64 0],false⟩:=TyOk.of (P:=Try.prog) (t:=57) (.struct [(0,3),(1,5),(2,56),(3,56)]) 4 32 [.int .i64 0,.int .u8 0,.int .u64 0,.int .u64 0] (.agg #[.int .i64 0,.int .u8 0,.int .u64 0,.int .u64 0]) (by kernel_rfl) rfl ⟨_,Try.underlying57,rfl⟩ rfl rfl false (fun h=>by cases h)
theorem Z8j:TyOk Try.prog 58 ⟨.struct [(0,3),(1,5),(2,56),(3,56)],4,32,[.int .i64 0,.int .u8 0,.int .u64 0,.int .u64 0],true⟩:=TyOk.of (P:=Try.prog) (t:=58) (.struct [(0,3),(1,5),(2,56),(3,56)]) 4 32 [.int .i64 0,.int .u8 0,.int .u64 0,.int .u64 0] (.agg #[.int .i64 0,.int .u8 0,.int .u64 0,.int .u64 0]) (by kernel_rfl) rfl ⟨_,Try.underlying58,rfl⟩ rfl rfl true (fun _=>by unfold Z36;exact ⟨by kernel_rfl,by kernel_rfl,by kernel_rfl⟩)
theorem Z8k:TyOk Try.prog 62 ⟨.slice 102,1,24,[.slice none 0 0],false⟩:=TyOk.of (P:=Try.prog) (t:=62) (.slice 102) 1 24 [.slice none 0 0] (.slice none 0 0) (by kernel_rfl) rfl Try.underlying62 rfl rfl false (fun h=>by cases h)
theorem Z8l:TyOk Try.prog 68 ⟨.struct [(0,3),(1,3),(2,23),(3,30)],14,240,[.int .i64 0,.int .i64 0,.slice none 0 0,.int .i64 0,.int .i64 0,.slice none 0 0,.slice none 0 0,.int .i64 0,.slice none 0 0,.slice none 0 0,.slice none 0 0,.slice none 0 0,.int .i64 0,.slice none 0 0],false⟩:=TyOk.of (P:=Try.prog) (t:=68) (.struct [(0,3),(1,3),(2,23),(3,30)]) 14 240 [.int .i64 0,.int .i64 0,.slice none 0 0,.int .i64 0,.int .i64 0,.slice none 0 0,.slice none 0 0,.int .i64 0,.slice none 0 0,.slice none 0 0,.slice none 0 0,.slice none 0 0,.int .i64 0,.slice none 0 0] (.agg #[.int .i64 0,.int .i64 0,.slice none 0 0,.int .i64 0,.int .i64 0,.slice none 0 0,.slice none 0 0,.int .i64 0,.slice none 0 0,.slice none 0 0,.slice none 0 0,.slice none 0 0,.int .i64 0,.slice none 0 0]) (by kernel_rfl) rfl ⟨_,Try.underlying68,rfl⟩ rfl rfl false (fun h=>by cases h)
theorem Z8m:TyOk Try.prog 69 ⟨.struct [(0,3),(1,3),(2,23),(3,30)],14,240,[.int .i64 0,.int .i64 0,.slice none 0 0,.int .i64 0,.int .i64 0,.slice none 0 0,.slice none 0 0,.int .i64 0,.slice none 0 0,.slice none 0 0,.slice none 0 0,.slice none 0 0,.int .i64 0,.slice none 0 0],false⟩:=TyOk.of (P:=Try.prog) (t:=69) (.struct [(0,3),(1,3),(2,23),(3,30)]) 14 240 [.int .i64 0,.int .i64 0,.slice none 0 0,.int .i64 0,.int .i64 0,.slice none 0 0,.slice none 0 0,.int .i64 0,.slice none 0 0,.slice none 0 0,.slice none 0 0,.slice none 0 0,.int .i64 0,.slice none 0 0] (.agg #[.int .i64 0,.int .i64 0,.slice none 0 0,.int .i64 0,.int .i64 0,.slice none 0 0,.slice none 0 0,.int .i64 0,.slice none 0 0,.slice none 0 0,.slice none 0 0,.slice none 0 0,.int .i64 0,.slice none 0 0]) (by kernel_rfl) rfl ⟨_,Try.underlying69,rfl⟩ rfl rfl false (fun h=>by cases h)
theorem Z8n:TyOk Try.prog 70 ⟨.struct [(0,3),(1,30)],12,208,[.int .i64 0,.int .i64 0,.int .i64 0,.slice none 0 0,.slice none 0 0,.int .i64 0,.slice none 0 0,.slice none 0 0,.slice none 0 0,.slice none 0 0,.int .i64 0,.slice none 0 0],false⟩:=TyOk.of (P:=Try.prog) (t:=70) (.struct [(0,3),(1,30)]) 12 208 [.int .i64 0,.int .i64 0,.int .i64 0,.slice none 0 0,.slice none 0 0,.int .i64 0,.slice none 0 0,.slice none 0 0,.slice none 0 0,.slice none 0 0,.int .i64 0,.slice none 0 0] (.agg #[.int .i64 0,.int .i64 0,.int .i64 0,.slice none 0 0,.slice none 0 0,.int .i64 0,.slice none 0 0,.slice none 0 0,.slice none 0 0,.slice none 0 0,.int .i64 0,.slice none 0 0]) (by kernel_rfl) rfl ⟨_,Try.underlying70,rfl⟩ rfl rfl false (fun h=>by cases h)
theorem Z8o:TyOk Try.prog 71 ⟨.struct [(0,3),(1,30)],12,208,[.int .i64 0,.int .i64 0,.int .i64 0,.slice none 0 0,.slice none 0 0,.int .i64 0,.slice none 0 0,.slice none 0 0,.slice none 0 0,.slice none 0 0,.int .i64 0,.slice none 0 0],false⟩:=TyOk.of (P:=Try.prog) (t:=71) (.struct [(0,3),(1,30)]) 12 208 [.int .i64 0,.int .i64 0,.int .i64 0,.slice none 0 0,.slice none 0 0,.int .i64 0,.slice none 0 0,.slice none 0 0,.slice none 0 0,.slice none 0 0,.int .i64 0,.slice none 0 0] (.agg #[.int .i64 0,.int .i64 0,.int .i64 0,.slice none 0 0,.slice none 0 0,.int .i64 0,.slice none 0 0,.slice none 0 0,.slice none 0 0,.slice none 0 0,.int .i64 0,.slice none 0 0]) (by kernel_rfl) rfl ⟨_,Try.underlying71,rfl⟩ rfl rfl false (fun h=>by cases h)
theorem Z8p:TyOk Try.prog 78 ⟨.struct [(0,3),(1,69),(15,69)],29,488,[.int .i64 0,.int .i64 0,.int .i64 0,.slice none 0 0,.int .i64 0,.int .i64 0,.slice none 0 0,.slice none 0 0,.int .i64 0,.slice none 0 0,.slice none 0 0,.slice none 0 0,.slice none 0 0,.int .i64 0,.slice none 0 0,.int .i64 0,.int .i64 0,.slice none 0 0,.int .i64 0,.int .i64 0,.slice none 0 0,.slice none 0 0,.int .i64 0,.slice none 0 0,.slice none 0 0,.slice none 0 0,.slice none 0 0,.int .i64 0,.slice none 0 0],false⟩:=TyOk.of (P:=Try.prog) (t:=78) (.struct [(0,3),(1,69),(15,69)]) 29 488 [.int .i64 0,.int .i64 0,.int .i64 0,.slice none 0 0,.int .i64 0,.int .i64 0,.slice none 0 0,.slice none 0 0,.int .i64 0,.slice none 0 0,.slice none 0 0,.slice none 0 0,.slice none 0 0,.int .i64 0,.slice none 0 0,.int .i64 0,.int .i64 0,.slice none 0 0,.int .i64 0,.int .i64 0,.slice none 0 0,.slice none 0 0,.int .i64 0,.slice none 0 0,.slice none 0 0,.slice none 0 0,.slice none 0 0,.int .i64 0,.slice none 0 0] (.agg #[.int .i64 0,.int .i64 0,.int .i64 0,.slice none 0 0,.int .i64 0,.int .i64 0,.slice none 0 0,.slice none 0 0,.int .i64 0,.slice none 0 0,.slice none 0 0,.slice none 0 0,.slice none 0 0,.int .i64 0,.slice none 0 0,.int .i64 0,.int .i64 0,.slice none 0 0,.int .i64 0,.int .i64 0,.slice none 0 0,.slice none 0 0,.int .i64 0,.slice none 0 0,.slice none 0 0,.slice none 0 0,.slice none 0 0,.int .i64 0,.slice none 0 0]) (by kernel_rfl) rfl ⟨_,Try.underlying78,rfl⟩ rfl rfl false (fun h=>by cases h)
theorem Z8q:TyOk Try.prog 79 ⟨.struct [(0,3),(1,69),(15,69)],29,488,[.int .i64 0,.int .i64 0,.int .i64 0,.slice none 0 0,.int .i64 0,.int .i64 0,.slice none 0 0,.slice none 0 0,.int .i64 0,.slice none 0 0,.slice none 0 0,.slice none 0 0,.slice none 0 0,.int .i64 0,.slice none 0 0,.int .i64 0,.int .i64 0,.slice none 0 0,.int .i64 0,.int .i64 0,.slice none 0 0,.slice none 0 0,.int .i64 0,.slice none 0 0,.slice none 0 0,.slice none 0 0,.slice none 0 0,.int .i64 0,.slice none 0 0],false⟩:=TyOk.of (P:=Try.prog) (t:=79) (.struct [(0,3),(1,69),(15,69)]) 29 488 [.int .i64 0,.int .i64 0,.int .i64 0,.slice none 0 0,.int .i64 0,.int .i64 0,.slice none 0 0,.slice none 0 0,.int .i64 0,.slice none 0 0,.slice none 0 0,.slice none 0 0,.slice none 0 0,.int .i64 0,.slice none 0 0,.int .i64 0,.int .i64 0,.slice none 0 0,.int .i64 0,.int .i64 0,.slice none 0 0,.slice none 0 0,.int .i64 0,.slice none 0 0,.slice none 0 0,.slice none 0 0,.slice none 0 0,.int .i64 0,.slice none 0 0] (.agg #[.int .i64 0,.int .i64 0,.int .i64 0,.slice none 0 0,.int .i64 0,.int .i64 0,.slice none 0 0,.slice none 0 0,.int .i64 0,.slice none 0 0,.slice none 0 0,.slice none 0 0,.slice none 0 0,.int .i64 0,.slice none 0 0,.int .i64 0,.int .i64 0,.slice none 0 0,.int .i64 0,.int .i64 0,.slice none 0 0,.slice none 0 0,.int .i64 0,.slice none 0 0,.slice none 0 0,.slice none 0 0,.slice none 0 0,.int .i64 0,.slice none 0 0]) (by kernel_rfl) rfl ⟨_,Try.underlying79,rfl⟩ rfl rfl false (fun h=>by cases h)
theorem Z8r:TyOk Try.prog 81 ⟨.struct [(0,3),(1,3),(2,25),(5,30),(16,4)],17,280,[.int .i64 0,.int .i64 0,.int .i64 0,.slice none 0 0,.slice none 0 0,.int .i64 0,.int .i64 0,.slice none 0 0,.slice none 0 0,.int .i64 0,.slice none 0 0,.slice none 0 0,.slice none 0 0,.slice none 0 0,.int .i64 0,.slice none 0 0,.bool false],false⟩:=TyOk.of (P:=Try.prog) (t:=81) (.struct [(0,3),(1,3),(2,25),(5,30),(16,4)]) 17 280 [.int .i64 0,.int .i64 0,.int .i64 0,.slice none 0 0,.slice none 0 0,.int .i64 0,.int .i64 0,.slice none 0 0,.slice none 0 0,.int .i64 0,.slice none 0 0,.slice none 0 0,.slice none 0 0,.slice none 0 0,.int .i64 0,.slice none 0 0,.bool false] (.agg #[.int .i64 0,.int .i64 0,.int .i64 0,.slice none 0 0,.slice none 0 0,.int .i64 0,.int .i64 0,.slice none 0 0,.slice none 0 0,.int .i64 0,.slice none 0 0,.slice none 0 0,.slice none 0 0,.slice none 0 0,.int .i64 0,.slice none 0 0,.bool false]) (by kernel_rfl) rfl ⟨_,Try.underlying81,rfl⟩ rfl rfl false (fun h=>by cases h)
theorem Z8s:TyOk Try.prog 82 ⟨.struct [(0,3),(1,3),(2,25),(5,30),(16,4)],17,280,[.int .i64 0,.int .i64 0,.int .i64 0,.slice none 0 0,.slice none 0 0,.int .i64 0,.int .i64 0,.slice none 0 0,.slice none 0 0,.int .i64 0,.slice none 0 0,.slice none 0 0,.slice none 0 0,.slice none 0 0,.int .i64 0,.slice none 0 0,.bool false],false⟩:=TyOk.of (P:=Try.prog) (t:=82) (.struct [(0,3),(1,3),(2,25),(5,30),(16,4)]) 17 280 [.int .i64 0,.int .i64 0,.int .i64 0,.slice none 0 0,.slice none 0 0,.int .i64 0,.int .i64 0,.slice none 0 0,.slice none 0 0,.int .i64 0,.slice none 0 0,.slice none 0 0,.slice none 0 0,.slice none 0 0,.int .i64 0,.slice none 0 0,.bool false] (.agg #[.int .i64 0,.int .i64 0,.int .i64 0,.slice none 0 0,.slice none 0 0,.int .i64 0,.int .i64 0,.slice none 0 0,.slice none 0 0,.int .i64 0,.slice none 0 0,.slice none 0 0,.slice none 0 0,.slice none 0 0,.int .i64 0,.slice none 0 0,.bool false]) (by kernel_rfl) rfl ⟨_,Try.underlying82,rfl⟩ rfl rfl false (fun h=>by cases h)
theorem Z8t:TyOk Try.prog 83 ⟨.struct [(0,3),(1,82),(18,82)],35,568,[.int .i64 0,.int .i64 0,.int .i64 0,.int .i64 0,.slice none 0 0,.slice none 0 0,.int .i64 0,.int .i64 0,.slice none 0 0,.slice none 0 0,.int .i64 0,.slice none 0 0,.slice none 0 0,.slice none 0 0,.slice none 0 0,.int .i64 0,.slice none 0 0,.bool false,.int .i64 0,.int .i64 0,.int .i64 0,.slice none 0 0,.slice none 0 0,.int .i64 0,.int .i64 0,.slice none 0 0,.slice none 0 0,.int .i64 0,.slice none 0 0,.slice none 0 0,.slice none 0 0,.slice none 0 0,.int .i64 0,.slice none 0 0,.bool false],false⟩:=TyOk.of (P:=Try.prog) (t:=83) (.struct [(0,3),(1,82),(18,82)]) 35 568 [.int .i64 0,.int .i64 0,.int .i64 0,.int .i64 0,.slice none 0 0,.slice none 0 0,.int .i64 0,.int .i64 0,.slice none 0 0,.slice none 0 0,.int .i64 0,.slice none 0 0,.slice none 0 0,.slice none 0 0,.slice none 0 0,.int .i64 0,.slice none 0 0,.bool false,.int .i64 0,.int .i64 0,.int .i64 0,.slice none 0 0,.slice none 0 0,.int .i64 0,.int .i64 0,.slice none 0 0,.slice none 0 0,.int .i64 0,.slice none 0 0,.slice none 0 0,.slice none 0 0,.slice none 0 0,.int .i64 0,.slice none 0 0,.bool false] (.agg #[.int .i64 0,.int .i64 0,.int .i64 0,.int .i64 0,.slice none 0 0,.slice none 0 0,.int .i64 0,.int .i64 0,.slice none 0 0,.slice none 0 0,.int .i64 0,.slice none 0 0,.slice none 0 0,.slice none 0 0,.slice none 0 0,.int .i64 0,.slice none 0 0,.bool false,.int .i64 0,.int .i64 0,.int .i64 0,.slice none 0 0,.slice none 0 0,.int .i64 0,.int .i64 0,.slice none 0 0,.slice none 0 0,.int .i64 0,.slice none 0 0,.slice none 0 0,.slice none 0 0,.slice none 0 0,.int .i64 0,.slice none 0 0,.bool false]) (by kernel_rfl) rfl ⟨_,Try.underlying83,rfl⟩ rfl rfl false (fun h=>by cases h)
theorem Z8u:TyOk Try.prog 84 ⟨.struct [(0,3),(1,82),(18,82)],35,568,[.int .i64 0,.int .i64 0,.int .i64 0,.int .i64 0,.slice none 0 0,.slice none 0 0,.int .i64 0,.int .i64 0,.slice none 0 0,.slice none 0 0,.int .i64 0,.slice none 0 0,.slice none 0 0,.slice none 0 0,.slice none 0 0,.int .i64 0,.slice none 0 0,.bool false,.int .i64 0,.int .i64 0,.int .i64 0,.slice none 0 0,.slice none 0 0,.int .i64 0,.int .i64 0,.slice none 0 0,.slice none 0 0,.int .i64 0,.slice none 0 0,.slice none 0 0,.slice none 0 0,.slice none 0 0,.int .i64 0,.slice none 0 0,.bool false],false⟩:=TyOk.of (P:=Try.prog) (t:=84) (.struct [(0,3),(1,82),(18,82)]) 35 568 [.int .i64 0,.int .i64 0,.int .i64 0,.int .i64 0,.slice none 0 0,.slice none 0 0,.int .i64 0,.int .i64 0,.slice none 0 0,.slice none 0 0,.int .i64 0,.slice none 0 0,.slice none 0 0,.slice none 0 0,.slice none 0 0,.int .i64 0,.slice none 0 0,.bool false,.int .i64 0,.int .i64 0,.int .i64 0,.slice none 0 0,.slice none 0 0,.int .i64 0,.int .i64 0,.slice none 0 0,.slice none 0 0,.int .i64 0,.slice none 0 0,.slice none 0 0,.slice none 0 0,.slice none 0 0,.int .i64 0,.slice none 0 0,.bool false] (.agg #[.int .i64 0,.int .i64 0,.int .i64 0,.int .i64 0,.slice none 0 0,.slice none 0 0,.int .i64 0,.int .i64 0,.slice none 0 0,.slice none 0 0,.int .i64 0,.slice none 0 0,.slice none 0 0,.slice none 0 0,.slice none 0 0,.int .i64 0,.slice none 0 0,.bool false,.int .i64 0,.int .i64 0,.int .i64 0,.slice none 0 0,.slice none 0 0,.int .i64 0,.int .i64 0,.slice none 0 0,.slice none 0 0,.int .i64 0,.slice none 0 0,.slice none 0 0,.slice none 0 0,.slice none 0 0,.int .i64 0,.slice none 0 0,.bool false]) (by kernel_rfl) rfl ⟨_,Try.underlying84,rfl⟩ rfl rfl false (fun h=>by cases h)
theorem Z8v:TyOk Try.prog 95 ⟨.arr 8 5,8,8,[.int .u8 0,.int .u8 0,.int .u8 0,.int .u8 0,.int .u8 0,.int .u8 0,.int .u8 0,.int .u8 0],false⟩:=TyOk.of (P:=Try.prog) (t:=95) (.arr 8 5) 8 8 [.int .u8 0,.int .u8 0,.int .u8 0,.int .u8 0,.int .u8 0,.int .u8 0,.int .u8 0,.int .u8 0] (.agg #[.int .u8 0,.int .u8 0,.int .u8 0,.int .u8 0,.int .u8 0,.int .u8 0,.int .u8 0,.int .u8 0]) (by kernel_rfl) rfl Try.underlying95 rfl rfl false (fun h=>by cases h)
theorem Z8w:TyOk Try.prog 99 ⟨.slice 5,1,24,[.slice none 0 0],false⟩:=TyOk.of (P:=Try.prog) (t:=99) (.slice 5) 1 24 [.slice none 0 0] (.slice none 0 0) (by kernel_rfl) rfl Try.underlying99 rfl rfl false (fun h=>by cases h)
theorem Z61:TyOk Try.prog 101 ⟨.struct [(0,3),(1,3)],2,16,[.int .i64 0,.int .i64 0],false⟩:=TyOk.of (P:=Try.prog) (t:=101) (.struct [(0,3),(1,3)]) 2 16 [.int .i64 0,.int .i64 0] (.agg #[.int .i64 0,.int .i64 0]) (by kernel_rfl) rfl ⟨_,Try.underlying101,rfl⟩ rfl rfl false (fun h=>by cases h)
theorem Z62:TyOk Try.prog 102 ⟨.struct [(0,3),(1,3)],2,16,[.int .i64 0,.int .i64 0],true⟩:=TyOk.of (P:=Try.prog) (t:=102) (.struct [(0,3),(1,3)]) 2 16 [.int .i64 0,.int .i64 0] (.agg #[.int .i64 0,.int .i64 0]) (by kernel_rfl) rfl ⟨_,Try.underlying102,rfl⟩ rfl rfl true (fun _=>by unfold Z36;exact ⟨by kernel_rfl,by kernel_rfl,by kernel_rfl⟩)
theorem Z63:TyOk Try.prog 109 ⟨.struct [(0,28),(1,3),(2,23),(3,23)],4,80,[.slice none 0 0,.int .i64 0,.slice none 0 0,.slice none 0 0],false⟩:=TyOk.of (P:=Try.prog) (t:=109) (.struct [(0,28),(1,3),(2,23),(3,23)]) 4 80 [.slice none 0 0,.int .i64 0,.slice none 0 0,.slice none 0 0] (.agg #[.slice none 0 0,.int .i64 0,.slice none 0 0,.slice none 0 0]) (by kernel_rfl) rfl ⟨_,Try.underlying109,rfl⟩ rfl rfl false (fun h=>by cases h)
theorem Z64:TyOk Try.prog 110 ⟨.struct [(0,28),(1,3),(2,23),(3,23)],4,80,[.slice none 0 0,.int .i64 0,.slice none 0 0,.slice none 0 0],false⟩:=TyOk.of (P:=Try.prog) (t:=110) (.struct [(0,28),(1,3),(2,23),(3,23)]) 4 80 [.slice none 0 0,.int .i64 0,.slice none 0 0,.slice none 0 0] (.agg #[.slice none 0 0,.int .i64 0,.slice none 0 0,.slice none 0 0]) (by kernel_rfl) rfl ⟨_,Try.underlying110,rfl⟩ rfl rfl false (fun h=>by cases h)
theorem Z65:TyOk Try.prog 113 ⟨.ptr 23,1,8,[.pointer none],false⟩:=TyOk.of (P:=Try.prog) (t:=113) (.ptr 23) 1 8 [.pointer none] (.pointer none) (by kernel_rfl) rfl Try.underlying113 rfl rfl false (fun h=>by cases h)
theorem Z66:TyOk Try.prog 123 ⟨.struct [(0,28),(1,3)],2,32,[.slice none 0 0,.int .i64 0],false⟩:=TyOk.of (P:=Try.prog) (t:=123) (.struct [(0,28),(1,3)]) 2 32 [.slice none 0 0,.int .i64 0] (.agg #[.slice none 0 0,.int .i64 0]) (by kernel_rfl) rfl ⟨_,Try.underlying123,rfl⟩ rfl rfl false (fun h=>by cases h)
theorem Z67:TyOk Try.prog 124 ⟨.struct [(0,28),(1,3)],2,32,[.slice none 0 0,.int .i64 0],false⟩:=TyOk.of (P:=Try.prog) (t:=124) (.struct [(0,28),(1,3)]) 2 32 [.slice none 0 0,.int .i64 0] (.agg #[.slice none 0 0,.int .i64 0]) (by kernel_rfl) rfl ⟨_,Try.underlying124,rfl⟩ rfl rfl false (fun h=>by cases h)
theorem Z68:TyOk Try.prog 132 ⟨.slice 3,1,24,[.slice none 0 0],false⟩:=TyOk.of (P:=Try.prog) (t:=132) (.slice 3) 1 24 [.slice none 0 0] (.slice none 0 0) (by kernel_rfl) rfl Try.underlying132 rfl rfl false (fun h=>by cases h)
theorem Z69:TyOk Try.prog 133 ⟨.ptr 110,1,8,[.pointer none],false⟩:=TyOk.of (P:=Try.prog) (t:=133) (.ptr 110) 1 8 [.pointer none] (.pointer none) (by kernel_rfl) rfl Try.underlying133 rfl rfl false (fun h=>by cases h)
theorem Z7a:TyOk Try.prog 136 ⟨.ptr 25,1,8,[.pointer none],false⟩:=TyOk.of (P:=Try.prog) (t:=136) (.ptr 25) 1 8 [.pointer none] (.pointer none) (by kernel_rfl) rfl Try.underlying136 rfl rfl false (fun h=>by cases h)
theorem Z7b:TyOk Try.prog 138 ⟨.struct [(0,23),(1,23)],2,48,[.slice none 0 0,.slice none 0 0],false⟩:=TyOk.of (P:=Try.prog) (t:=138) (.struct [(0,23),(1,23)]) 2 48 [.slice none 0 0,.slice none 0 0] (.agg #[.slice none 0 0,.slice none 0 0]) (by kernel_rfl) rfl ⟨_,Try.underlying138,rfl⟩ rfl rfl false (fun h=>by cases h)
theorem Z7c:TyOk Try.prog 139 ⟨.struct [(0,23),(1,23)],2,48,[.slice none 0 0,.slice none 0 0],false⟩:=TyOk.of (P:=Try.prog) (t:=139) (.struct [(0,23),(1,23)]) 2 48 [.slice none 0 0,.slice none 0 0] (.agg #[.slice none 0 0,.slice none 0 0]) (by kernel_rfl) rfl ⟨_,Try.underlying139,rfl⟩ rfl rfl false (fun h=>by cases h)
theorem Z7d:TyOk Try.prog 141 ⟨.ptr 124,1,8,[.pointer none],false⟩:=TyOk.of (P:=Try.prog) (t:=141) (.ptr 124) 1 8 [.pointer none] (.pointer none) (by kernel_rfl) rfl Try.underlying141 rfl rfl false (fun h=>by cases h)
theorem Z7e:TyOk Try.prog 142 ⟨.ptr 139,1,8,[.pointer none],false⟩:=TyOk.of (P:=Try.prog) (t:=142) (.ptr 139) 1 8 [.pointer none] (.pointer none) (by kernel_rfl) rfl Try.underlying142 rfl rfl false (fun h=>by cases h)
theorem Z7f:TyOk Try.prog 157 ⟨.arr 6 3,6,48,[.int .i64 0,.int .i64 0,.int .i64 0,.int .i64 0,.int .i64 0,.int .i64 0],false⟩:=TyOk.of (P:=Try.prog) (t:=157) (.arr 6 3) 6 48 [.int .i64 0,.int .i64 0,.int .i64 0,.int .i64 0,.int .i64 0,.int .i64 0] (.agg #[.int .i64 0,.int .i64 0,.int .i64 0,.int .i64 0,.int .i64 0,.int .i64 0]) (by kernel_rfl) rfl Try.underlying157 rfl rfl false (fun h=>by cases h)
theorem Z7g:TyOk Try.prog 159 ⟨.struct [(0,17),(1,17),(2,17),(3,9)],4,40,[.pointer none,.pointer none,.pointer none,.string ByteArray.empty],false⟩:=TyOk.of (P:=Try.prog) (t:=159) (.struct [(0,17),(1,17),(2,17),(3,9)]) 4 40 [.pointer none,.pointer none,.pointer none,.string ByteArray.empty] (.agg #[.pointer none,.pointer none,.pointer none,.string ByteArray.empty]) (by kernel_rfl) rfl ⟨_,Try.underlying159,rfl⟩ rfl rfl false (fun h=>by cases h)
theorem Z7h:TyOk Try.prog 160 ⟨.struct [(0,17),(1,17),(2,17),(3,9)],4,40,[.pointer none,.pointer none,.pointer none,.string ByteArray.empty],false⟩:=TyOk.of (P:=Try.prog) (t:=160) (.struct [(0,17),(1,17),(2,17),(3,9)]) 4 40 [.pointer none,.pointer none,.pointer none,.string ByteArray.empty] (.agg #[.pointer none,.pointer none,.pointer none,.string ByteArray.empty]) (by kernel_rfl) rfl ⟨_,Try.underlying160,rfl⟩ rfl rfl false (fun h=>by cases h)
theorem Z7i:TyOk Try.prog 165 ⟨.int .u32,1,4,[.int .u32 0],false⟩:=TyOk.of (P:=Try.prog) (t:=165) (.int .u32) 1 4 [.int .u32 0] (.int .u32 0) (by kernel_rfl) rfl Try.underlying165 rfl rfl false (fun h=>by cases h)
theorem Z7j:TyOk Try.prog 166 ⟨.int .u8,1,1,[.int .u8 0],false⟩:=TyOk.of (P:=Try.prog) (t:=166) (.int .u8) 1 1 [.int .u8 0] (.int .u8 0) (by kernel_rfl) rfl Try.underlying166 rfl rfl false (fun h=>by cases h)
theorem Z7k:TyOk Try.prog 167 ⟨.int .u8,1,1,[.int .u8 0],false⟩:=TyOk.of (P:=Try.prog) (t:=167) (.int .u8) 1 1 [.int .u8 0] (.int .u8 0) (by kernel_rfl) rfl Try.underlying167 rfl rfl false (fun h=>by cases h)
theorem Z7l:TyOk Try.prog 169 ⟨.ptr 5,1,8,[.pointer none],false⟩:=TyOk.of (P:=Try.prog) (t:=169) (.ptr 5) 1 8 [.pointer none] (.pointer none) (by kernel_rfl) rfl Try.underlying169 rfl rfl false (fun h=>by cases h)
theorem Z7m:TyOk Try.prog 170 ⟨.int .i32,1,4,[.int .i32 0],false⟩:=TyOk.of (P:=Try.prog) (t:=170) (.int .i32) 1 4 [.int .i32 0] (.int .i32 0) (by kernel_rfl) rfl Try.underlying170 rfl rfl false (fun h=>by cases h)
theorem Z7n:TyOk Try.prog 171 ⟨.int .i32,1,4,[.int .i32 0],false⟩:=TyOk.of (P:=Try.prog) (t:=171) (.int .i32) 1 4 [.int .i32 0] (.int .i32 0) (by kernel_rfl) rfl Try.underlying171 rfl rfl false (fun h=>by cases h)
def tabL:List (Nat×TyI):=[(2,⟨.int .i64,1,8,[.int .i64 0],false⟩),
 (3,⟨.int .i64,1,8,[.int .i64 0],false⟩),
 (4,⟨.bool,1,1,[.bool false],false⟩),
 (5,⟨.int .u8,1,1,[.int .u8 0],false⟩),
 (6,⟨.int .u8,1,1,[.int .u8 0],false⟩),
 (7,⟨.struct [(0,2),(1,3),(2,4),(3,6)],4,24,[.int .i64 0,.int .i64 0,.bool false,.int .u8 0],false⟩),
 (8,⟨.struct [(0,2),(1,3),(2,4),(3,6)],4,24,[.int .i64 0,.int .i64 0,.bool false,.int .u8 0],false⟩),
 (9,⟨.str,1,16,[.string ByteArray.empty],false⟩),
 (10,⟨.str,1,16,[.string ByteArray.empty],false⟩),
 (11,⟨.str,1,16,[.string ByteArray.empty],false⟩),
 (12,⟨.int .u64,1,8,[.int .u64 0],false⟩),
 (13,⟨.struct [(0,9),(1,12)],2,24,[.string ByteArray.empty,.int .u64 0],false⟩),
 (14,⟨.struct [(0,9),(1,12)],2,24,[.string ByteArray.empty,.int .u64 0],false⟩),
 (15,⟨.ptr 160,1,8,[.pointer none],false⟩),
 (16,⟨.ptr 163,1,8,[.pointer none],false⟩),
 (17,⟨.ptr 173,1,8,[.pointer none],false⟩),
 (18,⟨.struct [(0,17)],1,8,[.pointer none],false⟩),
 (19,⟨.struct [(0,17)],1,8,[.pointer none],false⟩),
 (21,⟨.int .i32,1,4,[.int .i32 0],false⟩),
 (22,⟨.slice 56,1,24,[.slice none 0 0],false⟩),
 (23,⟨.slice 25,1,24,[.slice none 0 0],false⟩),
 (24,⟨.struct [(0,3),(1,22),(2,23)],3,56,[.int .i64 0,.slice none 0 0,.slice none 0 0],false⟩),
 (25,⟨.struct [(0,3),(1,22),(2,23)],3,56,[.int .i64 0,.slice none 0 0,.slice none 0 0],false⟩),
 (26,⟨.slice 58,1,24,[.slice none 0 0],false⟩),
 (27,⟨.slice 71,1,24,[.slice none 0 0],false⟩),
 (28,⟨.slice 69,1,24,[.slice none 0 0],false⟩),
 (29,⟨.struct [(0,3),(1,25),(4,25),(7,26),(8,27),(9,3),(10,28)],11,200,[.int .i64 0,.int .i64 0,.slice none 0 0,.slice none 0 0,.int .i64 0,.slice none 0 0,.slice none 0 0,.slice none 0 0,.slice none 0 0,.int .i64 0,.slice none 0 0],false⟩),
 (30,⟨.struct [(0,3),(1,25),(4,25),(7,26),(8,27),(9,3),(10,28)],11,200,[.int .i64 0,.int .i64 0,.slice none 0 0,.slice none 0 0,.int .i64 0,.slice none 0 0,.slice none 0 0,.slice none 0 0,.slice none 0 0,.int .i64 0,.slice none 0 0],false⟩),
 (46,⟨.slice 79,1,24,[.slice none 0 0],false⟩),
 (49,⟨.slice 84,1,24,[.slice none 0 0],false⟩),
 (52,⟨.slice 82,1,24,[.slice none 0 0],false⟩),
 (56,⟨.int .u64,1,8,[.int .u64 0],false⟩),
 (57,⟨.struct [(0,3),(1,5),(2,56),(3,56)],4,32,[.int .i64 0,.int .u8 0,.int .u64 0,.int .u64 0],false⟩),
 (58,⟨.struct [(0,3),(1,5),(2,56),(3,56)],4,32,[.int .i64 0,.int .u8 0,.int .u64 0,.int .u64 0],true⟩),
 (62,⟨.slice 102,1,24,[.slice none 0 0],false⟩),
 (68,⟨.struct [(0,3),(1,3),(2,23),(3,30)],14,240,[.int .i64 0,.int .i64 0,.slice none 0 0,.int .i64 0,.int .i64 0,.slice none 0 0,.slice none 0 0,.int .i64 0,.slice none 0 0,.slice none 0 0,.slice none 0 0,.slice none 0 0,.int .i64 0,.slice none 0 0],false⟩),
 (69,⟨.struct [(0,3),(1,3),(2,23),(3,30)],14,240,[.int .i64 0,.int .i64 0,.slice none 0 0,.int .i64 0,.int .i64 0,.slice none 0 0,.slice none 0 0,.int .i64 0,.slice none 0 0,.slice none 0 0,.slice none 0 0,.slice none 0 0,.int .i64 0,.slice none 0 0],false⟩),
 (70,⟨.struct [(0,3),(1,30)],12,208,[.int .i64 0,.int .i64 0,.int .i64 0,.slice none 0 0,.slice none 0 0,.int .i64 0,.slice none 0 0,.slice none 0 0,.slice none 0 0,.slice none 0 0,.int .i64 0,.slice none 0 0],false⟩),
 (71,⟨.struct [(0,3),(1,30)],12,208,[.int .i64 0,.int .i64 0,.int .i64 0,.slice none 0 0,.slice none 0 0,.int .i64 0,.slice none 0 0,.slice none 0 0,.slice none 0 0,.slice none 0 0,.int .i64 0,.slice none 0 0],false⟩),
 (78,⟨.struct [(0,3),(1,69),(15,69)],29,488,[.int .i64 0,.int .i64 0,.int .i64 0,.slice none 0 0,.int .i64 0,.int .i64 0,.slice none 0 0,.slice none 0 0,.int .i64 0,.slice none 0 0,.slice none 0 0,.slice none 0 0,.slice none 0 0,.int .i64 0,.slice none 0 0,.int .i64 0,.int .i64 0,.slice none 0 0,.int .i64 0,.int .i64 0,.slice none 0 0,.slice none 0 0,.int .i64 0,.slice none 0 0,.slice none 0 0,.slice none 0 0,.slice none 0 0,.int .i64 0,.slice none 0 0],false⟩),
 (79,⟨.struct [(0,3),(1,69),(15,69)],29,488,[.int .i64 0,.int .i64 0,.int .i64 0,.slice none 0 0,.int .i64 0,.int .i64 0,.slice none 0 0,.slice none 0 0,.int .i64 0,.slice none 0 0,.slice none 0 0,.slice none 0 0,.slice none 0 0,.int .i64 0,.slice none 0 0,.int .i64 0,.int .i64 0,.slice none 0 0,.int .i64 0,.int .i64 0,.slice none 0 0,.slice none 0 0,.int .i64 0,.slice none 0 0,.slice none 0 0,.slice none 0 0,.slice none 0 0,.int .i64 0,.slice none 0 0],false⟩),
 (81,⟨.struct [(0,3),(1,3),(2,25),(5,30),(16,4)],17,280,[.int .i64 0,.int .i64 0,.int .i64 0,.slice none 0 0,.slice none 0 0,.int .i64 0,.int .i64 0,.slice none 0 0,.slice none 0 0,.int .i64 0,.slice none 0 0,.slice none 0 0,.slice none 0 0,.slice none 0 0,.int .i64 0,.slice none 0 0,.bool false],false⟩),
 (82,⟨.struct [(0,3),(1,3),(2,25),(5,30),(16,4)],17,280,[.int .i64 0,.int .i64 0,.int .i64 0,.slice none 0 0,.slice none 0 0,.int .i64 0,.int .i64 0,.slice none 0 0,.slice none 0 0,.int .i64 0,.slice none 0 0,.slice none 0 0,.slice none 0 0,.slice none 0 0,.int .i64 0,.slice none 0 0,.bool false],false⟩),
 (83,⟨.struct [(0,3),(1,82),(18,82)],35,568,[.int .i64 0,.int .i64 0,.int .i64 0,.int .i64 0,.slice none 0 0,.slice none 0 0,.int .i64 0,.int .i64 0,.slice none 0 0,.slice none 0 0,.int .i64 0,.slice none 0 0,.slice none 0 0,.slice none 0 0,.slice none 0 0,.int .i64 0,.slice none 0 0,.bool false,.int .i64 0,.int .i64 0,.int .i64 0,.slice none 0 0,.slice none 0 0,.int .i64 0,.int .i64 0,.slice none 0 0,.slice none 0 0,.int .i64 0,.slice none 0 0,.slice none 0 0,.slice none 0 0,.slice none 0 0,.int .i64 0,.slice none 0 0,.bool false],false⟩),
 (84,⟨.struct [(0,3),(1,82),(18,82)],35,568,[.int .i64 0,.int .i64 0,.int .i64 0,.int .i64 0,.slice none 0 0,.slice none 0 0,.int .i64 0,.int .i64 0,.slice none 0 0,.slice none 0 0,.int .i64 0,.slice none 0 0,.slice none 0 0,.slice none 0 0,.slice none 0 0,.int .i64 0,.slice none 0 0,.bool false,.int .i64 0,.int .i64 0,.int .i64 0,.slice none 0 0,.slice none 0 0,.int .i64 0,.int .i64 0,.slice none 0 0,.slice none 0 0,.int .i64 0,.slice none 0 0,.slice none 0 0,.slice none 0 0,.slice none 0 0,.int .i64 0,.slice none 0 0,.bool false],false⟩),
 (95,⟨.arr 8 5,8,8,[.int .u8 0,.int .u8 0,.int .u8 0,.int .u8 0,.int .u8 0,.int .u8 0,.int .u8 0,.int .u8 0],false⟩),
 (99,⟨.slice 5,1,24,[.slice none 0 0],false⟩),
 (101,⟨.struct [(0,3),(1,3)],2,16,[.int .i64 0,.int .i64 0],false⟩),
 (102,⟨.struct [(0,3),(1,3)],2,16,[.int .i64 0,.int .i64 0],true⟩),
 (109,⟨.struct [(0,28),(1,3),(2,23),(3,23)],4,80,[.slice none 0 0,.int .i64 0,.slice none 0 0,.slice none 0 0],false⟩),
 (110,⟨.struct [(0,28),(1,3),(2,23),(3,23)],4,80,[.slice none 0 0,.int .i64 0,.slice none 0 0,.slice none 0 0],false⟩),
 (113,⟨.ptr 23,1,8,[.pointer none],false⟩),
 (123,⟨.struct [(0,28),(1,3)],2,32,[.slice none 0 0,.int .i64 0],false⟩),
 (124,⟨.struct [(0,28),(1,3)],2,32,[.slice none 0 0,.int .i64 0],false⟩),
 (132,⟨.slice 3,1,24,[.slice none 0 0],false⟩),
 (133,⟨.ptr 110,1,8,[.pointer none],false⟩),
 (136,⟨.ptr 25,1,8,[.pointer none],false⟩),
 (138,⟨.struct [(0,23),(1,23)],2,48,[.slice none 0 0,.slice none 0 0],false⟩),
 (139,⟨.struct [(0,23),(1,23)],2,48,[.slice none 0 0,.slice none 0 0],false⟩),
 (141,⟨.ptr 124,1,8,[.pointer none],false⟩),
 (142,⟨.ptr 139,1,8,[.pointer none],false⟩),
 (157,⟨.arr 6 3,6,48,[.int .i64 0,.int .i64 0,.int .i64 0,.int .i64 0,.int .i64 0,.int .i64 0],false⟩),
 (159,⟨.struct [(0,17),(1,17),(2,17),(3,9)],4,40,[.pointer none,.pointer none,.pointer none,.string ByteArray.empty],false⟩),
 (160,⟨.struct [(0,17),(1,17),(2,17),(3,9)],4,40,[.pointer none,.pointer none,.pointer none,.string ByteArray.empty],false⟩),
 (165,⟨.int .u32,1,4,[.int .u32 0],false⟩),
 (166,⟨.int .u8,1,1,[.int .u8 0],false⟩),
 (167,⟨.int .u8,1,1,[.int .u8 0],false⟩),
 (169,⟨.ptr 5,1,8,[.pointer none],false⟩),
 (170,⟨.int .i32,1,4,[.int .i32 0],false⟩),
 (171,⟨.int .i32,1,4,[.int .i32 0],false⟩)]
def Qg:Kb:=fun t=>tabL.lookup t
theorem Zd:Qh Try.prog Qg:=fun t i h=>by
 have hm:=Zpr _ h
 unfold tabL at hm
 simp only [List.mem_cons,Prod.mk.injEq,List.not_mem_nil,or_false] at hm
 rcases hm with ⟨rfl,rfl⟩ | ⟨rfl,rfl⟩ | ⟨rfl,rfl⟩ | ⟨rfl,rfl⟩ | ⟨rfl,rfl⟩ | ⟨rfl,rfl⟩ | ⟨rfl,rfl⟩ | ⟨rfl,rfl⟩ | ⟨rfl,rfl⟩ | ⟨rfl,rfl⟩ | ⟨rfl,rfl⟩ | ⟨rfl,rfl⟩ | ⟨rfl,rfl⟩ | ⟨rfl,rfl⟩ | ⟨rfl,rfl⟩ | ⟨rfl,rfl⟩ | ⟨rfl,rfl⟩ | ⟨rfl,rfl⟩ | ⟨rfl,rfl⟩ | ⟨rfl,rfl⟩ | ⟨rfl,rfl⟩ | ⟨rfl,rfl⟩ | ⟨rfl,rfl⟩ | ⟨rfl,rfl⟩ | ⟨rfl,rfl⟩ | ⟨rfl,rfl⟩ | ⟨rfl,rfl⟩ | ⟨rfl,rfl⟩ | ⟨rfl,rfl⟩ | ⟨rfl,rfl⟩ | ⟨rfl,rfl⟩ | ⟨rfl,rfl⟩ | ⟨rfl,rfl⟩ | ⟨rfl,rfl⟩ | ⟨rfl,rfl⟩ | ⟨rfl,rfl⟩ | ⟨rfl,rfl⟩ | ⟨rfl,rfl⟩ | ⟨rfl,rfl⟩ | ⟨rfl,rfl⟩ | ⟨rfl,rfl⟩ | ⟨rfl,rfl⟩ | ⟨rfl,rfl⟩ | ⟨rfl,rfl⟩ | ⟨rfl,rfl⟩ | ⟨rfl,rfl⟩ | ⟨rfl,rfl⟩ | ⟨rfl,rfl⟩ | ⟨rfl,rfl⟩ | ⟨rfl,rfl⟩ | ⟨rfl,rfl⟩ | ⟨rfl,rfl⟩ | ⟨rfl,rfl⟩ | ⟨rfl,rfl⟩ | ⟨rfl,rfl⟩ | ⟨rfl,rfl⟩ | ⟨rfl,rfl⟩ | ⟨rfl,rfl⟩ | ⟨rfl,rfl⟩ | ⟨rfl,rfl⟩ | ⟨rfl,rfl⟩ | ⟨rfl,rfl⟩ | ⟨rfl,rfl⟩ | ⟨rfl,rfl⟩ | ⟨rfl,rfl⟩ | ⟨rfl,rfl⟩ | ⟨rfl,rfl⟩ | ⟨rfl,rfl⟩ | ⟨rfl,rfl⟩ | ⟨rfl,rfl⟩
 ·exact ty2
 ·exact ty3
 ·exact ty4
 ·exact ty5
 ·exact ty6
 ·exact ty7
 ·exact ty8
 ·exact ty9
 ·exact Z7u
 ·exact Z7v
 ·exact Z7w
 ·exact Z7x
 ·exact Z7y
 ·exact Z7z
 ·exact Z70
 ·exact Z71
 ·exact Z72
 ·exact Z73
 ·exact Z74
 ·exact Z75
 ·exact Z76
 ·exact Z77
 ·exact Z78
 ·exact Z79
 ·exact Z8a
 ·exact Z8b
 ·exact Z8c
 ·exact Z8d
 ·exact Z8e
 ·exact Z8f
 ·exact Z8g
 ·exact Z8h
 ·exact Z8i
 ·exact Z8j
 ·exact Z8k
 ·exact Z8l
 ·exact Z8m
 ·exact Z8n
 ·exact Z8o
 ·exact Z8p
 ·exact Z8q
 ·exact Z8r
 ·exact Z8s
 ·exact Z8t
 ·exact Z8u
 ·exact Z8v
 ·exact Z8w
 ·exact Z61
 ·exact Z62
 ·exact Z63
 ·exact Z64
 ·exact Z65
 ·exact Z66
 ·exact Z67
 ·exact Z68
 ·exact Z69
 ·exact Z7a
 ·exact Z7b
 ·exact Z7c
 ·exact Z7d
 ·exact Z7e
 ·exact Z7f
 ·exact Z7g
 ·exact Z7h
 ·exact Z7i
 ·exact Z7j
 ·exact Z7k
 ·exact Z7l
 ·exact Z7m
 exact Z7n
theorem Z54:Qg 2=some ⟨.int .i64,1,8,[.int .i64 0],false⟩:=rfl
theorem Zig:Qg 3=some ⟨.int .i64,1,8,[.int .i64 0],false⟩:=rfl
theorem Z55:Qg 4=some ⟨.bool,1,1,[.bool false],false⟩:=rfl
theorem Zwn:Qg 5=some ⟨.int .u8,1,1,[.int .u8 0],false⟩:=rfl
theorem Z56:Qg 6=some ⟨.int .u8,1,1,[.int .u8 0],false⟩:=rfl
theorem Z57:Qg 7=some ⟨.struct [(0,2),(1,3),(2,4),(3,6)],4,24,[.int .i64 0,.int .i64 0,.bool false,.int .u8 0],false⟩:=rfl
theorem Z58:Qg 8=some ⟨.struct [(0,2),(1,3),(2,4),(3,6)],4,24,[.int .i64 0,.int .i64 0,.bool false,.int .u8 0],false⟩:=rfl
theorem Z59:Qg 9=some ⟨.str,1,16,[.string ByteArray.empty],false⟩:=rfl
theorem Z2w:Qg 10=some ⟨.str,1,16,[.string ByteArray.empty],false⟩:=rfl
theorem Z2x:Qg 11=some ⟨.str,1,16,[.string ByteArray.empty],false⟩:=rfl
theorem Z2y:Qg 12=some ⟨.int .u64,1,8,[.int .u64 0],false⟩:=rfl
theorem Z2z:Qg 13=some ⟨.struct [(0,9),(1,12)],2,24,[.string ByteArray.empty,.int .u64 0],false⟩:=rfl
theorem Z20:Qg 14=some ⟨.struct [(0,9),(1,12)],2,24,[.string ByteArray.empty,.int .u64 0],false⟩:=rfl
theorem Z21:Qg 15=some ⟨.ptr 160,1,8,[.pointer none],false⟩:=rfl
theorem Z22:Qg 16=some ⟨.ptr 163,1,8,[.pointer none],false⟩:=rfl
theorem Z23:Qg 17=some ⟨.ptr 173,1,8,[.pointer none],false⟩:=rfl
theorem Z24:Qg 18=some ⟨.struct [(0,17)],1,8,[.pointer none],false⟩:=rfl
theorem Z25:Qg 19=some ⟨.struct [(0,17)],1,8,[.pointer none],false⟩:=rfl
theorem Z26:Qg 21=some ⟨.int .i32,1,4,[.int .i32 0],false⟩:=rfl
theorem Z27:Qg 22=some ⟨.slice 56,1,24,[.slice none 0 0],false⟩:=rfl
theorem Zsl:Qg 23=some ⟨.slice 25,1,24,[.slice none 0 0],false⟩:=rfl
theorem Z28:Qg 24=some ⟨.struct [(0,3),(1,22),(2,23)],3,56,[.int .i64 0,.slice none 0 0,.slice none 0 0],false⟩:=rfl
theorem Zai:Qg 25=some ⟨.struct [(0,3),(1,22),(2,23)],3,56,[.int .i64 0,.slice none 0 0,.slice none 0 0],false⟩:=rfl
theorem Z29:Qg 26=some ⟨.slice 58,1,24,[.slice none 0 0],false⟩:=rfl
theorem Z3a:Qg 27=some ⟨.slice 71,1,24,[.slice none 0 0],false⟩:=rfl
theorem Z3b:Qg 28=some ⟨.slice 69,1,24,[.slice none 0 0],false⟩:=rfl
theorem Z3c:Qg 29=some ⟨.struct [(0,3),(1,25),(4,25),(7,26),(8,27),(9,3),(10,28)],11,200,[.int .i64 0,.int .i64 0,.slice none 0 0,.slice none 0 0,.int .i64 0,.slice none 0 0,.slice none 0 0,.slice none 0 0,.slice none 0 0,.int .i64 0,.slice none 0 0],false⟩:=rfl
theorem Zh6:Qg 30=some ⟨.struct [(0,3),(1,25),(4,25),(7,26),(8,27),(9,3),(10,28)],11,200,[.int .i64 0,.int .i64 0,.slice none 0 0,.slice none 0 0,.int .i64 0,.slice none 0 0,.slice none 0 0,.slice none 0 0,.slice none 0 0,.int .i64 0,.slice none 0 0],false⟩:=rfl
theorem Z3d:Qg 46=some ⟨.slice 79,1,24,[.slice none 0 0],false⟩:=rfl
theorem Z3e:Qg 49=some ⟨.slice 84,1,24,[.slice none 0 0],false⟩:=rfl
theorem Z3f:Qg 52=some ⟨.slice 82,1,24,[.slice none 0 0],false⟩:=rfl
theorem Zh7:Qg 56=some ⟨.int .u64,1,8,[.int .u64 0],false⟩:=rfl
theorem Z3g:Qg 57=some ⟨.struct [(0,3),(1,5),(2,56),(3,56)],4,32,[.int .i64 0,.int .u8 0,.int .u64 0,.int .u64 0],false⟩:=rfl
theorem Zmj:Qg 58=some ⟨.struct [(0,3),(1,5),(2,56),(3,56)],4,32,[.int .i64 0,.int .u8 0,.int .u64 0,.int .u64 0],true⟩:=rfl
theorem Z3h:Qg 62=some ⟨.slice 102,1,24,[.slice none 0 0],false⟩:=rfl
theorem Z3i:Qg 68=some ⟨.struct [(0,3),(1,3),(2,23),(3,30)],14,240,[.int .i64 0,.int .i64 0,.slice none 0 0,.int .i64 0,.int .i64 0,.slice none 0 0,.slice none 0 0,.int .i64 0,.slice none 0 0,.slice none 0 0,.slice none 0 0,.slice none 0 0,.int .i64 0,.slice none 0 0],false⟩:=rfl
theorem V2:Qg 69=some ⟨.struct [(0,3),(1,3),(2,23),(3,30)],14,240,[.int .i64 0,.int .i64 0,.slice none 0 0,.int .i64 0,.int .i64 0,.slice none 0 0,.slice none 0 0,.int .i64 0,.slice none 0 0,.slice none 0 0,.slice none 0 0,.slice none 0 0,.int .i64 0,.slice none 0 0],false⟩:=rfl
theorem Z3j:Qg 70=some ⟨.struct [(0,3),(1,30)],12,208,[.int .i64 0,.int .i64 0,.int .i64 0,.slice none 0 0,.slice none 0 0,.int .i64 0,.slice none 0 0,.slice none 0 0,.slice none 0 0,.slice none 0 0,.int .i64 0,.slice none 0 0],false⟩:=rfl
theorem Zhd:Qg 71=some ⟨.struct [(0,3),(1,30)],12,208,[.int .i64 0,.int .i64 0,.int .i64 0,.slice none 0 0,.slice none 0 0,.int .i64 0,.slice none 0 0,.slice none 0 0,.slice none 0 0,.slice none 0 0,.int .i64 0,.slice none 0 0],false⟩:=rfl
theorem Z3k:Qg 78=some ⟨.struct [(0,3),(1,69),(15,69)],29,488,[.int .i64 0,.int .i64 0,.int .i64 0,.slice none 0 0,.int .i64 0,.int .i64 0,.slice none 0 0,.slice none 0 0,.int .i64 0,.slice none 0 0,.slice none 0 0,.slice none 0 0,.slice none 0 0,.int .i64 0,.slice none 0 0,.int .i64 0,.int .i64 0,.slice none 0 0,.int .i64 0,.int .i64 0,.slice none 0 0,.slice none 0 0,.int .i64 0,.slice none 0 0,.slice none 0 0,.slice none 0 0,.slice none 0 0,.int .i64 0,.slice none 0 0],false⟩:=rfl
theorem Z3l:Qg 79=some ⟨.struct [(0,3),(1,69),(15,69)],29,488,[.int .i64 0,.int .i64 0,.int .i64 0,.slice none 0 0,.int .i64 0,.int .i64 0,.slice none 0 0,.slice none 0 0,.int .i64 0,.slice none 0 0,.slice none 0 0,.slice none 0 0,.slice none 0 0,.int .i64 0,.slice none 0 0,.int .i64 0,.int .i64 0,.slice none 0 0,.int .i64 0,.int .i64 0,.slice none 0 0,.slice none 0 0,.int .i64 0,.slice none 0 0,.slice none 0 0,.slice none 0 0,.slice none 0 0,.int .i64 0,.slice none 0 0],false⟩:=rfl
theorem Z3m:Qg 81=some ⟨.struct [(0,3),(1,3),(2,25),(5,30),(16,4)],17,280,[.int .i64 0,.int .i64 0,.int .i64 0,.slice none 0 0,.slice none 0 0,.int .i64 0,.int .i64 0,.slice none 0 0,.slice none 0 0,.int .i64 0,.slice none 0 0,.slice none 0 0,.slice none 0 0,.slice none 0 0,.int .i64 0,.slice none 0 0,.bool false],false⟩:=rfl
theorem Z3n:Qg 82=some ⟨.struct [(0,3),(1,3),(2,25),(5,30),(16,4)],17,280,[.int .i64 0,.int .i64 0,.int .i64 0,.slice none 0 0,.slice none 0 0,.int .i64 0,.int .i64 0,.slice none 0 0,.slice none 0 0,.int .i64 0,.slice none 0 0,.slice none 0 0,.slice none 0 0,.slice none 0 0,.int .i64 0,.slice none 0 0,.bool false],false⟩:=rfl
theorem Z3o:Qg 83=some ⟨.struct [(0,3),(1,82),(18,82)],35,568,[.int .i64 0,.int .i64 0,.int .i64 0,.int .i64 0,.slice none 0 0,.slice none 0 0,.int .i64 0,.int .i64 0,.slice none 0 0,.slice none 0 0,.int .i64 0,.slice none 0 0,.slice none 0 0,.slice none 0 0,.slice none 0 0,.int .i64 0,.slice none 0 0,.bool false,.int .i64 0,.int .i64 0,.int .i64 0,.slice none 0 0,.slice none 0 0,.int .i64 0,.int .i64 0,.slice none 0 0,.slice none 0 0,.int .i64 0,.slice none 0 0,.slice none 0 0,.slice none 0 0,.slice none 0 0,.int .i64 0,.slice none 0 0,.bool false],false⟩:=rfl
theorem Z3p:Qg 84=some ⟨.struct [(0,3),(1,82),(18,82)],35,568,[.int .i64 0,.int .i64 0,.int .i64 0,.int .i64 0,.slice none 0 0,.slice none 0 0,.int .i64 0,.int .i64 0,.slice none 0 0,.slice none 0 0,.int .i64 0,.slice none 0 0,.slice none 0 0,.slice none 0 0,.slice none 0 0,.int .i64 0,.slice none 0 0,.bool false,.int .i64 0,.int .i64 0,.int .i64 0,.slice none 0 0,.slice none 0 0,.int .i64 0,.int .i64 0,.slice none 0 0,.slice none 0 0,.int .i64 0,.slice none 0 0,.slice none 0 0,.slice none 0 0,.slice none 0 0,.int .i64 0,.slice none 0 0,.bool false],false⟩:=rfl
theorem Zwo:Qg 95=some ⟨.arr 8 5,8,8,[.int .u8 0,.int .u8 0,.int .u8 0,.int .u8 0,.int .u8 0,.int .u8 0,.int .u8 0,.int .u8 0],false⟩:=rfl
theorem Z3q:Qg 99=some ⟨.slice 5,1,24,[.slice none 0 0],false⟩:=rfl
theorem Zxx:Qg 101=some ⟨.struct [(0,3),(1,3)],2,16,[.int .i64 0,.int .i64 0],false⟩:=rfl
theorem Zxy:Qg 102=some ⟨.struct [(0,3),(1,3)],2,16,[.int .i64 0,.int .i64 0],true⟩:=rfl
theorem Zxz:Qg 109=some ⟨.struct [(0,28),(1,3),(2,23),(3,23)],4,80,[.slice none 0 0,.int .i64 0,.slice none 0 0,.slice none 0 0],false⟩:=rfl
theorem Zx0:Qg 110=some ⟨.struct [(0,28),(1,3),(2,23),(3,23)],4,80,[.slice none 0 0,.int .i64 0,.slice none 0 0,.slice none 0 0],false⟩:=rfl
theorem Zx1:Qg 113=some ⟨.ptr 23,1,8,[.pointer none],false⟩:=rfl
theorem Zx2:Qg 123=some ⟨.struct [(0,28),(1,3)],2,32,[.slice none 0 0,.int .i64 0],false⟩:=rfl
theorem Zx3:Qg 124=some ⟨.struct [(0,28),(1,3)],2,32,[.slice none 0 0,.int .i64 0],false⟩:=rfl
theorem Zx4:Qg 132=some ⟨.slice 3,1,24,[.slice none 0 0],false⟩:=rfl
theorem Zx5:Qg 133=some ⟨.ptr 110,1,8,[.pointer none],false⟩:=rfl
theorem Zx6:Qg 136=some ⟨.ptr 25,1,8,[.pointer none],false⟩:=rfl
theorem Zx7:Qg 138=some ⟨.struct [(0,23),(1,23)],2,48,[.slice none 0 0,.slice none 0 0],false⟩:=rfl
theorem Zx8:Qg 139=some ⟨.struct [(0,23),(1,23)],2,48,[.slice none 0 0,.slice none 0 0],false⟩:=rfl
theorem Zx9:Qg 141=some ⟨.ptr 124,1,8,[.pointer none],false⟩:=rfl
theorem Zya:Qg 142=some ⟨.ptr 139,1,8,[.pointer none],false⟩:=rfl
theorem Zyb:Qg 157=some ⟨.arr 6 3,6,48,[.int .i64 0,.int .i64 0,.int .i64 0,.int .i64 0,.int .i64 0,.int .i64 0],false⟩:=rfl
theorem Zyc:Qg 159=some ⟨.struct [(0,17),(1,17),(2,17),(3,9)],4,40,[.pointer none,.pointer none,.pointer none,.string ByteArray.empty],false⟩:=rfl
theorem Zyd:Qg 160=some ⟨.struct [(0,17),(1,17),(2,17),(3,9)],4,40,[.pointer none,.pointer none,.pointer none,.string ByteArray.empty],false⟩:=rfl
theorem Zye:Qg 165=some ⟨.int .u32,1,4,[.int .u32 0],false⟩:=rfl
theorem Zyf:Qg 166=some ⟨.int .u8,1,1,[.int .u8 0],false⟩:=rfl
theorem Zyg:Qg 167=some ⟨.int .u8,1,1,[.int .u8 0],false⟩:=rfl
theorem Zyh:Qg 169=some ⟨.ptr 5,1,8,[.pointer none],false⟩:=rfl
theorem Zyi:Qg 170=some ⟨.int .i32,1,4,[.int .i32 0],false⟩:=rfl
theorem Zyj:Qg 171=some ⟨.int .i32,1,4,[.int .i32 0],false⟩:=rfl
theorem Zyk:Yd Qg 2=some (.int .i64):=rfl
theorem Zyl:Yd Qg 3=some (.int .i64):=rfl
theorem Zym:Yd Qg 4=some (.bool):=rfl
theorem Zyn:Yd Qg 5=some (.int .u8):=rfl
theorem Zyo:Yd Qg 6=some (.int .u8):=rfl
theorem Zyp:Yd Qg 7=some (.struct [(0,2),(1,3),(2,4),(3,6)]):=rfl
theorem Zyq:Yd Qg 8=some (.struct [(0,2),(1,3),(2,4),(3,6)]):=rfl
theorem Zyr:Yd Qg 9=some (.str):=rfl
theorem Zub:Yd Qg 10=some (.str):=rfl
theorem Zuc:Yd Qg 11=some (.str):=rfl
theorem Zud:Yd Qg 12=some (.int .u64):=rfl
theorem Zue:Yd Qg 13=some (.struct [(0,9),(1,12)]):=rfl
theorem Zuf:Yd Qg 14=some (.struct [(0,9),(1,12)]):=rfl
theorem Zug:Yd Qg 15=some (.ptr 160):=rfl
theorem Zuh:Yd Qg 16=some (.ptr 163):=rfl
theorem Zui:Yd Qg 17=some (.ptr 173):=rfl
theorem Zuj:Yd Qg 18=some (.struct [(0,17)]):=rfl
theorem Zuk:Yd Qg 19=some (.struct [(0,17)]):=rfl
theorem Zul:Yd Qg 21=some (.int .i32):=rfl
theorem Zmk:Yd Qg 22=some (.slice 56):=rfl
theorem Zjp:Yd Qg 23=some (.slice 25):=rfl
theorem Zum:Yd Qg 24=some (.struct [(0,3),(1,22),(2,23)]):=rfl
theorem Zun:Yd Qg 25=some (.struct [(0,3),(1,22),(2,23)]):=rfl
theorem Zuo:Yd Qg 26=some (.slice 58):=rfl
theorem Zup:Yd Qg 27=some (.slice 71):=rfl
theorem Zuq:Yd Qg 28=some (.slice 69):=rfl
theorem Zur:Yd Qg 29=some (.struct [(0,3),(1,25),(4,25),(7,26),(8,27),(9,3),(10,28)]):=rfl
theorem Zus:Yd Qg 30=some (.struct [(0,3),(1,25),(4,25),(7,26),(8,27),(9,3),(10,28)]):=rfl
theorem Zut:Yd Qg 46=some (.slice 79):=rfl
theorem Zuu:Yd Qg 49=some (.slice 84):=rfl
theorem Zuv:Yd Qg 52=some (.slice 82):=rfl
theorem Zuw:Yd Qg 56=some (.int .u64):=rfl
theorem Zux:Yd Qg 57=some (.struct [(0,3),(1,5),(2,56),(3,56)]):=rfl
theorem Zuy:Yd Qg 58=some (.struct [(0,3),(1,5),(2,56),(3,56)]):=rfl
theorem Zuz:Yd Qg 62=some (.slice 102):=rfl
theorem Zu0:Yd Qg 68=some (.struct [(0,3),(1,3),(2,23),(3,30)]):=rfl
theorem Zu1:Yd Qg 69=some (.struct [(0,3),(1,3),(2,23),(3,30)]):=rfl
theorem Zu2:Yd Qg 70=some (.struct [(0,3),(1,30)]):=rfl
theorem Zu3:Yd Qg 71=some (.struct [(0,3),(1,30)]):=rfl
theorem Zu4:Yd Qg 78=some (.struct [(0,3),(1,69),(15,69)]):=rfl
theorem Zu5:Yd Qg 79=some (.struct [(0,3),(1,69),(15,69)]):=rfl
theorem Zu6:Yd Qg 81=some (.struct [(0,3),(1,3),(2,25),(5,30),(16,4)]):=rfl
theorem Zu7:Yd Qg 82=some (.struct [(0,3),(1,3),(2,25),(5,30),(16,4)]):=rfl
theorem Zu8:Yd Qg 83=some (.struct [(0,3),(1,82),(18,82)]):=rfl
theorem Zu9:Yd Qg 84=some (.struct [(0,3),(1,82),(18,82)]):=rfl
theorem Zoq:Yd Qg 95=some (.arr 8 5):=rfl
theorem Zva:Yd Qg 99=some (.slice 5):=rfl
theorem Zqq:Yd Qg 101=some (.struct [(0,3),(1,3)]):=rfl
theorem Zqr:Yd Qg 102=some (.struct [(0,3),(1,3)]):=rfl
theorem Zqs:Yd Qg 109=some (.struct [(0,28),(1,3),(2,23),(3,23)]):=rfl
theorem Zqt:Yd Qg 110=some (.struct [(0,28),(1,3),(2,23),(3,23)]):=rfl
theorem Zqu:Yd Qg 113=some (.ptr 23):=rfl
theorem Zqv:Yd Qg 123=some (.struct [(0,28),(1,3)]):=rfl
theorem Zqw:Yd Qg 124=some (.struct [(0,28),(1,3)]):=rfl
theorem Zqx:Yd Qg 132=some (.slice 3):=rfl
theorem Zqy:Yd Qg 133=some (.ptr 110):=rfl
theorem Zqz:Yd Qg 136=some (.ptr 25):=rfl
theorem Zq0:Yd Qg 138=some (.struct [(0,23),(1,23)]):=rfl
theorem Zq1:Yd Qg 139=some (.struct [(0,23),(1,23)]):=rfl
theorem Zq2:Yd Qg 141=some (.ptr 124):=rfl
theorem Zq3:Yd Qg 142=some (.ptr 139):=rfl
theorem Zq4:Yd Qg 157=some (.arr 6 3):=rfl
theorem Zq5:Yd Qg 159=some (.struct [(0,17),(1,17),(2,17),(3,9)]):=rfl
theorem Zq6:Yd Qg 160=some (.struct [(0,17),(1,17),(2,17),(3,9)]):=rfl
theorem Zq7:Yd Qg 165=some (.int .u32):=rfl
theorem Zq8:Yd Qg 166=some (.int .u8):=rfl
theorem Zq9:Yd Qg 167=some (.int .u8):=rfl
theorem Zra:Yd Qg 169=some (.ptr 5):=rfl
theorem Zrb:Yd Qg 170=some (.int .i32):=rfl
theorem Zrc:Yd Qg 171=some (.int .i32):=rfl
end Go.Proofs.Ytbcgiaijjaocdaa
