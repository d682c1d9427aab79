/- The types of this seat's program, as its dump has them, in the ghost memory's words; no condition. -/
import Derived.Test.YtnapihlnlajlpaaRows
import Derived.Test.YtnapihlnlajlpaaG16
namespace Go.Proofs.Ytnapihlnlajlpaa
open Go.RowKit
set_option linter.unusedVariables false
set_option linter.unusedSimpArgs false
theorem TyOk.of {P:Program} {t:TypeId} (k:TK) (size bytes:Nat) (zero:List Value) (z:Value) (h:(P.info? t).map (fun i=>(i.zero,i.size,i.bytes))=some (some z,size,bytes)) (hz:z.cells.toList=zero) (hu:k.ok P t) (hl:zero.length=size) (h1:zero.all Value.oneCell'=true) (eq:Bool) (he:eq=true→Zvr P t):TyOk P t ⟨k,size,bytes,zero,eq⟩:=by
 refine ⟨?_,hu,hl,fun v hv=>List.all_eq_true.1 h1 v hv,he⟩
 cases hi:P.info? t with
 | none=>rw [hi] at h;cases h
 | some i =>
  rw [hi] at h
  simp only [Option.map_some,Option.some.injEq,Prod.mk.injEq] at h
  exact ⟨i,z,rfl,h.2.1,h.2.2,h.1,hz⟩
theorem Zwh {α:Type} {t:Nat} {i:α}:∀ (l:List (Nat×α)),l.lookup t=some i→(t,i)∈l
 | [],h=>by simp at h
 | (a,b)::l,h=>by
  rw [List.lookup_cons] at h
  split at h
  ·rename_i he
   injection h with h
   have:t=a:=by simpa using he
   subst h this
   exact .head _
  exact .tail _ (Zwh l h)
theorem ty2:TyOk Try.prog 2 ⟨.int .i64,1,8,[.int .i64 0],false⟩:=TyOk.of (P:=Try.prog) (t:=2) (.int .i64) 1 8 [.int .i64 0] (.int .i64 0) (by kernel_rfl) rfl Try.underlying2 rfl rfl false (fun h=>by cases h)
theorem ty3:TyOk Try.prog 3 ⟨.int .i64,1,8,[.int .i64 0],false⟩:=TyOk.of (P:=Try.prog) (t:=3) (.int .i64) 1 8 [.int .i64 0] (.int .i64 0) (by kernel_rfl) rfl Try.underlying3 rfl rfl false (fun h=>by cases h)
theorem ty4:TyOk Try.prog 4 ⟨.bool,1,1,[.bool false],false⟩:=TyOk.of (P:=Try.prog) (t:=4) (.bool) 1 1 [.bool false] (.bool false) (by kernel_rfl) rfl Try.underlying4 rfl rfl false (fun h=>by cases h)
theorem ty5:TyOk Try.prog 5 ⟨.int .u8,1,1,[.int .u8 0],false⟩:=TyOk.of (P:=Try.prog) (t:=5) (.int .u8) 1 1 [.int .u8 0] (.int .u8 0) (by kernel_rfl) rfl Try.underlying5 rfl rfl false (fun h=>by cases h)
theorem ty6:TyOk Try.prog 6 ⟨.int .u8,1,1,[.int .u8 0],false⟩:=TyOk.of (P:=Try.prog) (t:=6) (.int .u8) 1 1 [.int .u8 0] (.int .u8 0) (by kernel_rfl) rfl Try.underlying6 rfl rfl false (fun h=>by cases h)
theorem ty7:TyOk Try.prog 7 ⟨.struct [(0,2),(1,3),(2,4),(3,6)],4,24,[.int .i64 0,.int .i64 0,.bool false,.int .u8 0],false⟩:=TyOk.of (P:=Try.prog) (t:=7) (.struct [(0,2),(1,3),(2,4),(3,6)]) 4 24 [.int .i64 0,.int .i64 0,.bool false,.int .u8 0] (.agg #[.int .i64 0,.int .i64 0,.bool false,.int .u8 0]) (by kernel_rfl) rfl ⟨_,Try.underlying7,rfl⟩ rfl rfl false (fun h=>by cases h)
theorem ty8:TyOk Try.prog 8 ⟨.struct [(0,2),(1,3),(2,4),(3,6)],4,24,[.int .i64 0,.int .i64 0,.bool false,.int .u8 0],false⟩:=TyOk.of (P:=Try.prog) (t:=8) (.struct [(0,2),(1,3),(2,4),(3,6)]) 4 24 [.int .i64 0,.int .i64 0,.bool false,.int .u8 0] (.agg #[.int .i64 0,.int .i64 0,.bool false,.int .u8 0]) (by kernel_rfl) rfl ⟨_,Try.underlying8,rfl⟩ rfl rfl false (fun h=>by cases h)
theorem ty9:TyOk Try.prog 9 ⟨.str,1,16,[.string ByteArray.empty],false⟩:=TyOk.of (P:=Try.prog) (t:=9) (.str) 1 16 [.string ByteArray.empty] (.string ByteArray.empty) (by kernel_rfl) rfl Try.underlying9 rfl rfl false (fun h=>by cases h)
theorem Ydk:TyOk Try.prog 10 ⟨.str,1,16,[.string ByteArray.empty],false⟩:=TyOk.of (P:=Try.prog) (t:=10) (.str) 1 16 [.string ByteArray.empty] (.string ByteArray.empty) (by kernel_rfl) rfl Try.underlying10 rfl rfl false (fun h=>by cases h)
theorem Ydl:TyOk Try.prog 11 ⟨.str,1,16,[.string ByteArray.empty],false⟩:=TyOk.of (P:=Try.prog) (t:=11) (.str) 1 16 [.string ByteArray.empty] (.string ByteArray.empty) (by kernel_rfl) rfl Try.underlying11 rfl rfl false (fun h=>by cases h)
theorem Ydm:TyOk Try.prog 12 ⟨.int .u64,1,8,[.int .u64 0],false⟩:=TyOk.of (P:=Try.prog) (t:=12) (.int .u64) 1 8 [.int .u64 0] (.int .u64 0) (by kernel_rfl) rfl Try.underlying12 rfl rfl false (fun h=>by cases h)
theorem Ydn:TyOk Try.prog 13 ⟨.struct [(0,9),(1,12)],2,24,[.string ByteArray.empty,.int .u64 0],false⟩:=TyOk.of (P:=Try.prog) (t:=13) (.struct [(0,9),(1,12)]) 2 24 [.string ByteArray.empty,.int .u64 0] (.agg #[.string ByteArray.empty,.int .u64 0]) (by kernel_rfl) rfl ⟨_,Try.underlying13,rfl⟩ rfl rfl false (fun h=>by cases h)
theorem Ydo:TyOk Try.prog 14 ⟨.struct [(0,9),(1,12)],2,24,[.string ByteArray.empty,.int .u64 0],false⟩:=TyOk.of (P:=Try.prog) (t:=14) (.struct [(0,9),(1,12)]) 2 24 [.string ByteArray.empty,.int .u64 0] (.agg #[.string ByteArray.empty,.int .u64 0]) (by kernel_rfl) rfl ⟨_,Try.underlying14,rfl⟩ rfl rfl false (fun h=>by cases h)
theorem Ydp:TyOk Try.prog 15 ⟨.ptr 146,1,8,[.pointer none],false⟩:=TyOk.of (P:=Try.prog) (t:=15) (.ptr 146) 1 8 [.pointer none] (.pointer none) (by kernel_rfl) rfl Try.underlying15 rfl rfl false (fun h=>by cases h)
theorem Ydq:TyOk Try.prog 16 ⟨.ptr 149,1,8,[.pointer none],false⟩:=TyOk.of (P:=Try.prog) (t:=16) (.ptr 149) 1 8 [.pointer none] (.pointer none) (by kernel_rfl) rfl Try.underlying16 rfl rfl false (fun h=>by cases h)
theorem Ydr:TyOk Try.prog 17 ⟨.ptr 157,1,8,[.pointer none],false⟩:=TyOk.of (P:=Try.prog) (t:=17) (.ptr 157) 1 8 [.pointer none] (.pointer none) (by kernel_rfl) rfl Try.underlying17 rfl rfl false (fun h=>by cases h)
theorem Yds:TyOk Try.prog 18 ⟨.struct [(0,17)],1,8,[.pointer none],false⟩:=TyOk.of (P:=Try.prog) (t:=18) (.struct [(0,17)]) 1 8 [.pointer none] (.agg #[.pointer none]) (by kernel_rfl) rfl ⟨_,Try.underlying18,rfl⟩ rfl rfl false (fun h=>by cases h)
theorem Ydt:TyOk Try.prog 19 ⟨.struct [(0,17)],1,8,[.pointer none],false⟩:=TyOk.of (P:=Try.prog) (t:=19) (.struct [(0,17)]) 1 8 [.pointer none] (.agg #[.pointer none]) (by kernel_rfl) rfl ⟨_,Try.underlying19,rfl⟩ rfl rfl false (fun h=>by cases h)
theorem Ydu:TyOk Try.prog 21 ⟨.int .i32,1,4,[.int .i32 0],false⟩:=TyOk.of (P:=Try.prog) (t:=21) (.int .i32) 1 4 [.int .i32 0] (.int .i32 0) (by kernel_rfl) rfl Try.underlying21 rfl rfl false (fun h=>by cases h)
theorem Ydv:TyOk Try.prog 22 ⟨.slice 49,1,24,[.slice none 0 0],false⟩:=TyOk.of (P:=Try.prog) (t:=22) (.slice 49) 1 24 [.slice none 0 0] (.slice none 0 0) (by kernel_rfl) rfl Try.underlying22 rfl rfl false (fun h=>by cases h)
theorem Ydw:TyOk Try.prog 23 ⟨.slice 25,1,24,[.slice none 0 0],false⟩:=TyOk.of (P:=Try.prog) (t:=23) (.slice 25) 1 24 [.slice none 0 0] (.slice none 0 0) (by kernel_rfl) rfl Try.underlying23 rfl rfl false (fun h=>by cases h)
theorem Ydx:TyOk Try.prog 24 ⟨.struct [(0,3),(1,22),(2,23)],3,56,[.int .i64 0,.slice none 0 0,.slice none 0 0],false⟩:=TyOk.of (P:=Try.prog) (t:=24) (.struct [(0,3),(1,22),(2,23)]) 3 56 [.int .i64 0,.slice none 0 0,.slice none 0 0] (.agg #[.int .i64 0,.slice none 0 0,.slice none 0 0]) (by kernel_rfl) rfl ⟨_,Try.underlying24,rfl⟩ rfl rfl false (fun h=>by cases h)
theorem Ydy:TyOk Try.prog 25 ⟨.struct [(0,3),(1,22),(2,23)],3,56,[.int .i64 0,.slice none 0 0,.slice none 0 0],false⟩:=TyOk.of (P:=Try.prog) (t:=25) (.struct [(0,3),(1,22),(2,23)]) 3 56 [.int .i64 0,.slice none 0 0,.slice none 0 0] (.agg #[.int .i64 0,.slice none 0 0,.slice none 0 0]) (by kernel_rfl) rfl ⟨_,Try.underlying25,rfl⟩ rfl rfl false (fun h=>by cases h)
theorem Ydz:TyOk Try.prog 32 ⟨.slice 22,1,24,[.slice none 0 0],false⟩:=TyOk.of (P:=Try.prog) (t:=32) (.slice 22) 1 24 [.slice none 0 0] (.slice none 0 0) (by kernel_rfl) rfl Try.underlying32 rfl rfl false (fun h=>by cases h)
theorem Yd0:TyOk Try.prog 33 ⟨.struct [(0,3),(1,3),(2,3),(3,3)],4,32,[.int .i64 0,.int .i64 0,.int .i64 0,.int .i64 0],false⟩:=TyOk.of (P:=Try.prog) (t:=33) (.struct [(0,3),(1,3),(2,3),(3,3)]) 4 32 [.int .i64 0,.int .i64 0,.int .i64 0,.int .i64 0] (.agg #[.int .i64 0,.int .i64 0,.int .i64 0,.int .i64 0]) (by kernel_rfl) rfl ⟨_,Try.underlying33,rfl⟩ rfl rfl false (fun h=>by cases h)
theorem Yd1:TyOk Try.prog 34 ⟨.struct [(0,3),(1,3),(2,3),(3,3)],4,32,[.int .i64 0,.int .i64 0,.int .i64 0,.int .i64 0],true⟩:=TyOk.of (P:=Try.prog) (t:=34) (.struct [(0,3),(1,3),(2,3),(3,3)]) 4 32 [.int .i64 0,.int .i64 0,.int .i64 0,.int .i64 0] (.agg #[.int .i64 0,.int .i64 0,.int .i64 0,.int .i64 0]) (by kernel_rfl) rfl ⟨_,Try.underlying34,rfl⟩ rfl rfl true (fun _=>by unfold Zvr;exact ⟨by kernel_rfl,by kernel_rfl,by kernel_rfl⟩)
theorem Yd2:TyOk Try.prog 38 ⟨.ptr 65,1,8,[.pointer none],false⟩:=TyOk.of (P:=Try.prog) (t:=38) (.ptr 65) 1 8 [.pointer none] (.pointer none) (by kernel_rfl) rfl Try.underlying38 rfl rfl false (fun h=>by cases h)
theorem Yd3:TyOk Try.prog 39 ⟨.struct [(0,38),(1,3),(2,3),(3,3),(4,3),(5,3),(6,3),(7,3),(8,3)],9,72,[.pointer none,.int .i64 0,.int .i64 0,.int .i64 0,.int .i64 0,.int .i64 0,.int .i64 0,.int .i64 0,.int .i64 0],false⟩:=TyOk.of (P:=Try.prog) (t:=39) (.struct [(0,38),(1,3),(2,3),(3,3),(4,3),(5,3),(6,3),(7,3),(8,3)]) 9 72 [.pointer none,.int .i64 0,.int .i64 0,.int .i64 0,.int .i64 0,.int .i64 0,.int .i64 0,.int .i64 0,.int .i64 0] (.agg #[.pointer none,.int .i64 0,.int .i64 0,.int .i64 0,.int .i64 0,.int .i64 0,.int .i64 0,.int .i64 0,.int .i64 0]) (by kernel_rfl) rfl ⟨_,Try.underlying39,rfl⟩ rfl rfl false (fun h=>by cases h)
theorem Yd4:TyOk Try.prog 40 ⟨.struct [(0,38),(1,3),(2,3),(3,3),(4,3),(5,3),(6,3),(7,3),(8,3)],9,72,[.pointer none,.int .i64 0,.int .i64 0,.int .i64 0,.int .i64 0,.int .i64 0,.int .i64 0,.int .i64 0,.int .i64 0],false⟩:=TyOk.of (P:=Try.prog) (t:=40) (.struct [(0,38),(1,3),(2,3),(3,3),(4,3),(5,3),(6,3),(7,3),(8,3)]) 9 72 [.pointer none,.int .i64 0,.int .i64 0,.int .i64 0,.int .i64 0,.int .i64 0,.int .i64 0,.int .i64 0,.int .i64 0] (.agg #[.pointer none,.int .i64 0,.int .i64 0,.int .i64 0,.int .i64 0,.int .i64 0,.int .i64 0,.int .i64 0,.int .i64 0]) (by kernel_rfl) rfl ⟨_,Try.underlying40,rfl⟩ rfl rfl false (fun h=>by cases h)
theorem Yd5:TyOk Try.prog 41 ⟨.int .i64,1,8,[.int .i64 0],false⟩:=TyOk.of (P:=Try.prog) (t:=41) (.int .i64) 1 8 [.int .i64 0] (.int .i64 0) (by kernel_rfl) rfl Try.underlying41 rfl rfl false (fun h=>by cases h)
theorem Yd6:TyOk Try.prog 49 ⟨.int .u64,1,8,[.int .u64 0],false⟩:=TyOk.of (P:=Try.prog) (t:=49) (.int .u64) 1 8 [.int .u64 0] (.int .u64 0) (by kernel_rfl) rfl Try.underlying49 rfl rfl false (fun h=>by cases h)
theorem Yd7:TyOk Try.prog 52 ⟨.struct [(0,22),(1,3)],2,32,[.slice none 0 0,.int .i64 0],false⟩:=TyOk.of (P:=Try.prog) (t:=52) (.struct [(0,22),(1,3)]) 2 32 [.slice none 0 0,.int .i64 0] (.agg #[.slice none 0 0,.int .i64 0]) (by kernel_rfl) rfl ⟨_,Try.underlying52,rfl⟩ rfl rfl false (fun h=>by cases h)
theorem Yd8:TyOk Try.prog 53 ⟨.struct [(0,22),(1,3)],2,32,[.slice none 0 0,.int .i64 0],false⟩:=TyOk.of (P:=Try.prog) (t:=53) (.struct [(0,22),(1,3)]) 2 32 [.slice none 0 0,.int .i64 0] (.agg #[.slice none 0 0,.int .i64 0]) (by kernel_rfl) rfl ⟨_,Try.underlying53,rfl⟩ rfl rfl false (fun h=>by cases h)
theorem Yd9:TyOk Try.prog 56 ⟨.struct [(0,3),(1,3),(2,3),(3,3),(4,3),(5,3),(6,49)],7,56,[.int .i64 0,.int .i64 0,.int .i64 0,.int .i64 0,.int .i64 0,.int .i64 0,.int .u64 0],false⟩:=TyOk.of (P:=Try.prog) (t:=56) (.struct [(0,3),(1,3),(2,3),(3,3),(4,3),(5,3),(6,49)]) 7 56 [.int .i64 0,.int .i64 0,.int .i64 0,.int .i64 0,.int .i64 0,.int .i64 0,.int .u64 0] (.agg #[.int .i64 0,.int .i64 0,.int .i64 0,.int .i64 0,.int .i64 0,.int .i64 0,.int .u64 0]) (by kernel_rfl) rfl ⟨_,Try.underlying56,rfl⟩ rfl rfl false (fun h=>by cases h)
theorem Yea:TyOk Try.prog 57 ⟨.struct [(0,3),(1,3),(2,3),(3,3),(4,3),(5,3),(6,49)],7,56,[.int .i64 0,.int .i64 0,.int .i64 0,.int .i64 0,.int .i64 0,.int .i64 0,.int .u64 0],true⟩:=TyOk.of (P:=Try.prog) (t:=57) (.struct [(0,3),(1,3),(2,3),(3,3),(4,3),(5,3),(6,49)]) 7 56 [.int .i64 0,.int .i64 0,.int .i64 0,.int .i64 0,.int .i64 0,.int .i64 0,.int .u64 0] (.agg #[.int .i64 0,.int .i64 0,.int .i64 0,.int .i64 0,.int .i64 0,.int .i64 0,.int .u64 0]) (by kernel_rfl) rfl ⟨_,Try.underlying57,rfl⟩ rfl rfl true (fun _=>by unfold Zvr;exact ⟨by kernel_rfl,by kernel_rfl,by kernel_rfl⟩)
theorem Yeb:TyOk Try.prog 64 ⟨.struct [(0,32),(1,3),(2,3)],3,40,[.slice none 0 0,.int .i64 0,.int .i64 0],false⟩:=TyOk.of (P:=Try.prog) (t:=64) (.struct [(0,32),(1,3),(2,3)]) 3 40 [.slice none 0 0,.int .i64 0,.int .i64 0] (.agg #[.slice none 0 0,.int .i64 0,.int .i64 0]) (by kernel_rfl) rfl ⟨_,Try.underlying64,rfl⟩ rfl rfl false (fun h=>by cases h)
theorem Yec:TyOk Try.prog 65 ⟨.struct [(0,32),(1,3),(2,3)],3,40,[.slice none 0 0,.int .i64 0,.int .i64 0],false⟩:=TyOk.of (P:=Try.prog) (t:=65) (.struct [(0,32),(1,3),(2,3)]) 3 40 [.slice none 0 0,.int .i64 0,.int .i64 0] (.agg #[.slice none 0 0,.int .i64 0,.int .i64 0]) (by kernel_rfl) rfl ⟨_,Try.underlying65,rfl⟩ rfl rfl false (fun h=>by cases h)
theorem Yed:TyOk Try.prog 67 ⟨.struct [(0,3)],1,8,[.int .i64 0],false⟩:=TyOk.of (P:=Try.prog) (t:=67) (.struct [(0,3)]) 1 8 [.int .i64 0] (.agg #[.int .i64 0]) (by kernel_rfl) rfl ⟨_,Try.underlying67,rfl⟩ rfl rfl false (fun h=>by cases h)
theorem Yee:TyOk Try.prog 68 ⟨.struct [(0,3)],1,8,[.int .i64 0],true⟩:=TyOk.of (P:=Try.prog) (t:=68) (.struct [(0,3)]) 1 8 [.int .i64 0] (.agg #[.int .i64 0]) (by kernel_rfl) rfl ⟨_,Try.underlying68,rfl⟩ rfl rfl true (fun _=>by unfold Zvr;exact ⟨by kernel_rfl,by kernel_rfl,by kernel_rfl⟩)
theorem Yef:TyOk Try.prog 71 ⟨.struct [(0,22),(1,3)],2,32,[.slice none 0 0,.int .i64 0],false⟩:=TyOk.of (P:=Try.prog) (t:=71) (.struct [(0,22),(1,3)]) 2 32 [.slice none 0 0,.int .i64 0] (.agg #[.slice none 0 0,.int .i64 0]) (by kernel_rfl) rfl ⟨_,Try.underlying71,rfl⟩ rfl rfl false (fun h=>by cases h)
theorem Yeg:TyOk Try.prog 72 ⟨.struct [(0,22),(1,3)],2,32,[.slice none 0 0,.int .i64 0],false⟩:=TyOk.of (P:=Try.prog) (t:=72) (.struct [(0,22),(1,3)]) 2 32 [.slice none 0 0,.int .i64 0] (.agg #[.slice none 0 0,.int .i64 0]) (by kernel_rfl) rfl ⟨_,Try.underlying72,rfl⟩ rfl rfl false (fun h=>by cases h)
theorem Yeh:TyOk Try.prog 76 ⟨.ptr 53,1,8,[.pointer none],false⟩:=TyOk.of (P:=Try.prog) (t:=76) (.ptr 53) 1 8 [.pointer none] (.pointer none) (by kernel_rfl) rfl Try.underlying76 rfl rfl false (fun h=>by cases h)
theorem Yei:TyOk Try.prog 77 ⟨.struct [(0,3),(1,3),(2,3),(3,3),(4,3),(5,3),(6,3),(7,4)],8,64,[.int .i64 0,.int .i64 0,.int .i64 0,.int .i64 0,.int .i64 0,.int .i64 0,.int .i64 0,.bool false],false⟩:=TyOk.of (P:=Try.prog) (t:=77) (.struct [(0,3),(1,3),(2,3),(3,3),(4,3),(5,3),(6,3),(7,4)]) 8 64 [.int .i64 0,.int .i64 0,.int .i64 0,.int .i64 0,.int .i64 0,.int .i64 0,.int .i64 0,.bool false] (.agg #[.int .i64 0,.int .i64 0,.int .i64 0,.int .i64 0,.int .i64 0,.int .i64 0,.int .i64 0,.bool false]) (by kernel_rfl) rfl ⟨_,Try.underlying77,rfl⟩ rfl rfl false (fun h=>by cases h)
theorem Yej:TyOk Try.prog 78 ⟨.struct [(0,3),(1,3),(2,3),(3,3),(4,3),(5,3),(6,3),(7,4)],8,64,[.int .i64 0,.int .i64 0,.int .i64 0,.int .i64 0,.int .i64 0,.int .i64 0,.int .i64 0,.bool false],true⟩:=TyOk.of (P:=Try.prog) (t:=78) (.struct [(0,3),(1,3),(2,3),(3,3),(4,3),(5,3),(6,3),(7,4)]) 8 64 [.int .i64 0,.int .i64 0,.int .i64 0,.int .i64 0,.int .i64 0,.int .i64 0,.int .i64 0,.bool false] (.agg #[.int .i64 0,.int .i64 0,.int .i64 0,.int .i64 0,.int .i64 0,.int .i64 0,.int .i64 0,.bool false]) (by kernel_rfl) rfl ⟨_,Try.underlying78,rfl⟩ rfl rfl true (fun _=>by unfold Zvr;exact ⟨by kernel_rfl,by kernel_rfl,by kernel_rfl⟩)
theorem Yek:TyOk Try.prog 92 ⟨.struct [(0,3),(1,3),(2,3),(3,3),(4,3),(5,3),(6,3),(7,4)],8,64,[.int .i64 0,.int .i64 0,.int .i64 0,.int .i64 0,.int .i64 0,.int .i64 0,.int .i64 0,.bool false],true⟩:=TyOk.of (P:=Try.prog) (t:=92) (.struct [(0,3),(1,3),(2,3),(3,3),(4,3),(5,3),(6,3),(7,4)]) 8 64 [.int .i64 0,.int .i64 0,.int .i64 0,.int .i64 0,.int .i64 0,.int .i64 0,.int .i64 0,.bool false] (.agg #[.int .i64 0,.int .i64 0,.int .i64 0,.int .i64 0,.int .i64 0,.int .i64 0,.int .i64 0,.bool false]) (by kernel_rfl) rfl ⟨_,Try.underlying92,rfl⟩ rfl rfl true (fun _=>by unfold Zvr;exact ⟨by kernel_rfl,by kernel_rfl,by kernel_rfl⟩)
theorem Yel:TyOk Try.prog 93 ⟨.struct [(0,92),(8,3),(9,3)],10,80,[.int .i64 0,.int .i64 0,.int .i64 0,.int .i64 0,.int .i64 0,.int .i64 0,.int .i64 0,.bool false,.int .i64 0,.int .i64 0],false⟩:=TyOk.of (P:=Try.prog) (t:=93) (.struct [(0,92),(8,3),(9,3)]) 10 80 [.int .i64 0,.int .i64 0,.int .i64 0,.int .i64 0,.int .i64 0,.int .i64 0,.int .i64 0,.bool false,.int .i64 0,.int .i64 0] (.agg #[.int .i64 0,.int .i64 0,.int .i64 0,.int .i64 0,.int .i64 0,.int .i64 0,.int .i64 0,.bool false,.int .i64 0,.int .i64 0]) (by kernel_rfl) rfl ⟨_,Try.underlying93,rfl⟩ rfl rfl false (fun h=>by cases h)
theorem Yem:TyOk Try.prog 94 ⟨.struct [(0,92),(8,3),(9,3)],10,80,[.int .i64 0,.int .i64 0,.int .i64 0,.int .i64 0,.int .i64 0,.int .i64 0,.int .i64 0,.bool false,.int .i64 0,.int .i64 0],true⟩:=TyOk.of (P:=Try.prog) (t:=94) (.struct [(0,92),(8,3),(9,3)]) 10 80 [.int .i64 0,.int .i64 0,.int .i64 0,.int .i64 0,.int .i64 0,.int .i64 0,.int .i64 0,.bool false,.int .i64 0,.int .i64 0] (.agg #[.int .i64 0,.int .i64 0,.int .i64 0,.int .i64 0,.int .i64 0,.int .i64 0,.int .i64 0,.bool false,.int .i64 0,.int .i64 0]) (by kernel_rfl) rfl ⟨_,Try.underlying94,rfl⟩ rfl rfl true (fun _=>by unfold Zvr;exact ⟨by kernel_rfl,by kernel_rfl,by kernel_rfl⟩)
theorem Ycl:TyOk Try.prog 101 ⟨.struct [(0,78),(8,3),(9,3)],10,80,[.int .i64 0,.int .i64 0,.int .i64 0,.int .i64 0,.int .i64 0,.int .i64 0,.int .i64 0,.bool false,.int .i64 0,.int .i64 0],false⟩:=TyOk.of (P:=Try.prog) (t:=101) (.struct [(0,78),(8,3),(9,3)]) 10 80 [.int .i64 0,.int .i64 0,.int .i64 0,.int .i64 0,.int .i64 0,.int .i64 0,.int .i64 0,.bool false,.int .i64 0,.int .i64 0] (.agg #[.int .i64 0,.int .i64 0,.int .i64 0,.int .i64 0,.int .i64 0,.int .i64 0,.int .i64 0,.bool false,.int .i64 0,.int .i64 0]) (by kernel_rfl) rfl ⟨_,Try.underlying101,rfl⟩ rfl rfl false (fun h=>by cases h)
theorem Ycm:TyOk Try.prog 102 ⟨.struct [(0,78),(8,3),(9,3)],10,80,[.int .i64 0,.int .i64 0,.int .i64 0,.int .i64 0,.int .i64 0,.int .i64 0,.int .i64 0,.bool false,.int .i64 0,.int .i64 0],true⟩:=TyOk.of (P:=Try.prog) (t:=102) (.struct [(0,78),(8,3),(9,3)]) 10 80 [.int .i64 0,.int .i64 0,.int .i64 0,.int .i64 0,.int .i64 0,.int .i64 0,.int .i64 0,.bool false,.int .i64 0,.int .i64 0] (.agg #[.int .i64 0,.int .i64 0,.int .i64 0,.int .i64 0,.int .i64 0,.int .i64 0,.int .i64 0,.bool false,.int .i64 0,.int .i64 0]) (by kernel_rfl) rfl ⟨_,Try.underlying102,rfl⟩ rfl rfl true (fun _=>by unfold Zvr;exact ⟨by kernel_rfl,by kernel_rfl,by kernel_rfl⟩)
theorem Ycn:TyOk Try.prog 106 ⟨.ptr 68,1,8,[.pointer none],false⟩:=TyOk.of (P:=Try.prog) (t:=106) (.ptr 68) 1 8 [.pointer none] (.pointer none) (by kernel_rfl) rfl Try.underlying106 rfl rfl false (fun h=>by cases h)
theorem Yco:TyOk Try.prog 110 ⟨.ptr 72,1,8,[.pointer none],false⟩:=TyOk.of (P:=Try.prog) (t:=110) (.ptr 72) 1 8 [.pointer none] (.pointer none) (by kernel_rfl) rfl Try.underlying110 rfl rfl false (fun h=>by cases h)
theorem Ycp:TyOk Try.prog 134 ⟨.arr 7 3,7,56,[.int .i64 0,.int .i64 0,.int .i64 0,.int .i64 0,.int .i64 0,.int .i64 0,.int .i64 0],true⟩:=TyOk.of (P:=Try.prog) (t:=134) (.arr 7 3) 7 56 [.int .i64 0,.int .i64 0,.int .i64 0,.int .i64 0,.int .i64 0,.int .i64 0,.int .i64 0] (.agg #[.int .i64 0,.int .i64 0,.int .i64 0,.int .i64 0,.int .i64 0,.int .i64 0,.int .i64 0]) (by kernel_rfl) rfl Try.underlying134 rfl rfl true (fun _=>by unfold Zvr;exact ⟨by kernel_rfl,by kernel_rfl,by kernel_rfl⟩)
theorem Ycq:TyOk Try.prog 135 ⟨.int .u32,1,4,[.int .u32 0],false⟩:=TyOk.of (P:=Try.prog) (t:=135) (.int .u32) 1 4 [.int .u32 0] (.int .u32 0) (by kernel_rfl) rfl Try.underlying135 rfl rfl false (fun h=>by cases h)
theorem Ycr:TyOk Try.prog 136 ⟨.int .u64,1,8,[.int .u64 0],false⟩:=TyOk.of (P:=Try.prog) (t:=136) (.int .u64) 1 8 [.int .u64 0] (.int .u64 0) (by kernel_rfl) rfl Try.underlying136 rfl rfl false (fun h=>by cases h)
theorem Ycs:TyOk Try.prog 143 ⟨.arr 6 3,6,48,[.int .i64 0,.int .i64 0,.int .i64 0,.int .i64 0,.int .i64 0,.int .i64 0],true⟩:=TyOk.of (P:=Try.prog) (t:=143) (.arr 6 3) 6 48 [.int .i64 0,.int .i64 0,.int .i64 0,.int .i64 0,.int .i64 0,.int .i64 0] (.agg #[.int .i64 0,.int .i64 0,.int .i64 0,.int .i64 0,.int .i64 0,.int .i64 0]) (by kernel_rfl) rfl Try.underlying143 rfl rfl true (fun _=>by unfold Zvr;exact ⟨by kernel_rfl,by kernel_rfl,by kernel_rfl⟩)
theorem Yct:TyOk Try.prog 145 ⟨.struct [(0,17),(1,17),(2,17),(3,9)],4,40,[.pointer none,.pointer none,.pointer none,.string ByteArray.empty],false⟩:=TyOk.of (P:=Try.prog) (t:=145) (.struct [(0,17),(1,17),(2,17),(3,9)]) 4 40 [.pointer none,.pointer none,.pointer none,.string ByteArray.empty] (.agg #[.pointer none,.pointer none,.pointer none,.string ByteArray.empty]) (by kernel_rfl) rfl ⟨_,Try.underlying145,rfl⟩ rfl rfl false (fun h=>by cases h)
theorem Ycu:TyOk Try.prog 146 ⟨.struct [(0,17),(1,17),(2,17),(3,9)],4,40,[.pointer none,.pointer none,.pointer none,.string ByteArray.empty],false⟩:=TyOk.of (P:=Try.prog) (t:=146) (.struct [(0,17),(1,17),(2,17),(3,9)]) 4 40 [.pointer none,.pointer none,.pointer none,.string ByteArray.empty] (.agg #[.pointer none,.pointer none,.pointer none,.string ByteArray.empty]) (by kernel_rfl) rfl ⟨_,Try.underlying146,rfl⟩ rfl rfl false (fun h=>by cases h)
theorem Ycv:TyOk Try.prog 150 ⟨.int .u8,1,1,[.int .u8 0],false⟩:=TyOk.of (P:=Try.prog) (t:=150) (.int .u8) 1 1 [.int .u8 0] (.int .u8 0) (by kernel_rfl) rfl Try.underlying150 rfl rfl false (fun h=>by cases h)
theorem Ycw:TyOk Try.prog 151 ⟨.int .u8,1,1,[.int .u8 0],false⟩:=TyOk.of (P:=Try.prog) (t:=151) (.int .u8) 1 1 [.int .u8 0] (.int .u8 0) (by kernel_rfl) rfl Try.underlying151 rfl rfl false (fun h=>by cases h)
theorem Ycx:TyOk Try.prog 153 ⟨.ptr 5,1,8,[.pointer none],false⟩:=TyOk.of (P:=Try.prog) (t:=153) (.ptr 5) 1 8 [.pointer none] (.pointer none) (by kernel_rfl) rfl Try.underlying153 rfl rfl false (fun h=>by cases h)
theorem Ycy:TyOk Try.prog 154 ⟨.int .i32,1,4,[.int .i32 0],false⟩:=TyOk.of (P:=Try.prog) (t:=154) (.int .i32) 1 4 [.int .i32 0] (.int .i32 0) (by kernel_rfl) rfl Try.underlying154 rfl rfl false (fun h=>by cases h)
theorem Ycz:TyOk Try.prog 155 ⟨.int .i32,1,4,[.int .i32 0],false⟩:=TyOk.of (P:=Try.prog) (t:=155) (.int .i32) 1 4 [.int .i32 0] (.int .i32 0) (by kernel_rfl) rfl Try.underlying155 rfl rfl false (fun h=>by cases h)
def tabL:List (Nat×TyI):=[(2,⟨.int .i64,1,8,[.int .i64 0],false⟩),
 (3,⟨.int .i64,1,8,[.int .i64 0],false⟩),
 (4,⟨.bool,1,1,[.bool false],false⟩),
 (5,⟨.int .u8,1,1,[.int .u8 0],false⟩),
 (6,⟨.int .u8,1,1,[.int .u8 0],false⟩),
 (7,⟨.struct [(0,2),(1,3),(2,4),(3,6)],4,24,[.int .i64 0,.int .i64 0,.bool false,.int .u8 0],false⟩),
 (8,⟨.struct [(0,2),(1,3),(2,4),(3,6)],4,24,[.int .i64 0,.int .i64 0,.bool false,.int .u8 0],false⟩),
 (9,⟨.str,1,16,[.string ByteArray.empty],false⟩),
 (10,⟨.str,1,16,[.string ByteArray.empty],false⟩),
 (11,⟨.str,1,16,[.string ByteArray.empty],false⟩),
 (12,⟨.int .u64,1,8,[.int .u64 0],false⟩),
 (13,⟨.struct [(0,9),(1,12)],2,24,[.string ByteArray.empty,.int .u64 0],false⟩),
 (14,⟨.struct [(0,9),(1,12)],2,24,[.string ByteArray.empty,.int .u64 0],false⟩),
 (15,⟨.ptr 146,1,8,[.pointer none],false⟩),
 (16,⟨.ptr 149,1,8,[.pointer none],false⟩),
 (17,⟨.ptr 157,1,8,[.pointer none],false⟩),
 (18,⟨.struct [(0,17)],1,8,[.pointer none],false⟩),
 (19,⟨.struct [(0,17)],1,8,[.pointer none],false⟩),
 (21,⟨.int .i32,1,4,[.int .i32 0],false⟩),
 (22,⟨.slice 49,1,24,[.slice none 0 0],false⟩),
 (23,⟨.slice 25,1,24,[.slice none 0 0],false⟩),
 (24,⟨.struct [(0,3),(1,22),(2,23)],3,56,[.int .i64 0,.slice none 0 0,.slice none 0 0],false⟩),
 (25,⟨.struct [(0,3),(1,22),(2,23)],3,56,[.int .i64 0,.slice none 0 0,.slice none 0 0],false⟩),
 (32,⟨.slice 22,1,24,[.slice none 0 0],false⟩),
 (33,⟨.struct [(0,3),(1,3),(2,3),(3,3)],4,32,[.int .i64 0,.int .i64 0,.int .i64 0,.int .i64 0],false⟩),
 (34,⟨.struct [(0,3),(1,3),(2,3),(3,3)],4,32,[.int .i64 0,.int .i64 0,.int .i64 0,.int .i64 0],true⟩),
 (38,⟨.ptr 65,1,8,[.pointer none],false⟩),
 (39,⟨.struct [(0,38),(1,3),(2,3),(3,3),(4,3),(5,3),(6,3),(7,3),(8,3)],9,72,[.pointer none,.int .i64 0,.int .i64 0,.int .i64 0,.int .i64 0,.int .i64 0,.int .i64 0,.int .i64 0,.int .i64 0],false⟩),
 (40,⟨.struct [(0,38),(1,3),(2,3),(3,3),(4,3),(5,3),(6,3),(7,3),(8,3)],9,72,[.pointer none,.int .i64 0,.int .i64 0,.int .i64 0,.int .i64 0,.int .i64 0,.int .i64 0,.int .i64 0,.int .i64 0],false⟩),
 (41,⟨.int .i64,1,8,[.int .i64 0],false⟩),
 (49,⟨.int .u64,1,8,[.int .u64 0],false⟩),
 (52,⟨.struct [(0,22),(1,3)],2,32,[.slice none 0 0,.int .i64 0],false⟩),
 (53,⟨.struct [(0,22),(1,3)],2,32,[.slice none 0 0,.int .i64 0],false⟩),
 (56,⟨.struct [(0,3),(1,3),(2,3),(3,3),(4,3),(5,3),(6,49)],7,56,[.int .i64 0,.int .i64 0,.int .i64 0,.int .i64 0,.int .i64 0,.int .i64 0,.int .u64 0],false⟩),
 (57,⟨.struct [(0,3),(1,3),(2,3),(3,3),(4,3),(5,3),(6,49)],7,56,[.int .i64 0,.int .i64 0,.int .i64 0,.int .i64 0,.int .i64 0,.int .i64 0,.int .u64 0],true⟩),
 (64,⟨.struct [(0,32),(1,3),(2,3)],3,40,[.slice none 0 0,.int .i64 0,.int .i64 0],false⟩),
 (65,⟨.struct [(0,32),(1,3),(2,3)],3,40,[.slice none 0 0,.int .i64 0,.int .i64 0],false⟩),
 (67,⟨.struct [(0,3)],1,8,[.int .i64 0],false⟩),
 (68,⟨.struct [(0,3)],1,8,[.int .i64 0],true⟩),
 (71,⟨.struct [(0,22),(1,3)],2,32,[.slice none 0 0,.int .i64 0],false⟩),
 (72,⟨.struct [(0,22),(1,3)],2,32,[.slice none 0 0,.int .i64 0],false⟩),
 (76,⟨.ptr 53,1,8,[.pointer none],false⟩),
 (77,⟨.struct [(0,3),(1,3),(2,3),(3,3),(4,3),(5,3),(6,3),(7,4)],8,64,[.int .i64 0,.int .i64 0,.int .i64 0,.int .i64 0,.int .i64 0,.int .i64 0,.int .i64 0,.bool false],false⟩),
 (78,⟨.struct [(0,3),(1,3),(2,3),(3,3),(4,3),(5,3),(6,3),(7,4)],8,64,[.int .i64 0,.int .i64 0,.int .i64 0,.int .i64 0,.int .i64 0,.int .i64 0,.int .i64 0,.bool false],true⟩),
 (92,⟨.struct [(0,3),(1,3),(2,3),(3,3),(4,3),(5,3),(6,3),(7,4)],8,64,[.int .i64 0,.int .i64 0,.int .i64 0,.int .i64 0,.int .i64 0,.int .i64 0,.int .i64 0,.bool false],true⟩),
 (93,⟨.struct [(0,92),(8,3),(9,3)],10,80,[.int .i64 0,.int .i64 0,.int .i64 0,.int .i64 0,.int .i64 0,.int .i64 0,.int .i64 0,.bool false,.int .i64 0,.int .i64 0],false⟩),
 (94,⟨.struct [(0,92),(8,3),(9,3)],10,80,[.int .i64 0,.int .i64 0,.int .i64 0,.int .i64 0,.int .i64 0,.int .i64 0,.int .i64 0,.bool false,.int .i64 0,.int .i64 0],true⟩),
 (101,⟨.struct [(0,78),(8,3),(9,3)],10,80,[.int .i64 0,.int .i64 0,.int .i64 0,.int .i64 0,.int .i64 0,.int .i64 0,.int .i64 0,.bool false,.int .i64 0,.int .i64 0],false⟩),
 (102,⟨.struct [(0,78),(8,3),(9,3)],10,80,[.int .i64 0,.int .i64 0,.int .i64 0,.int .i64 0,.int .i64 0,.int .i64 0,.int .i64 0,.bool false,.int .i64 0,.int .i64 0],true⟩),
 (106,⟨.ptr 68,1,8,[.pointer none],false⟩),
 (110,⟨.ptr 72,1,8,[.pointer none],false⟩),
 (134,⟨.arr 7 3,7,56,[.int .i64 0,.int .i64 0,.int .i64 0,.int .i64 0,.int .i64 0,.int .i64 0,.int .i64 0],true⟩),
 (135,⟨.int .u32,1,4,[.int .u32 0],false⟩),
 (136,⟨.int .u64,1,8,[.int .u64 0],false⟩),
 (143,⟨.arr 6 3,6,48,[.int .i64 0,.int .i64 0,.int .i64 0,.int .i64 0,.int .i64 0,.int .i64 0],true⟩),
 (145,⟨.struct [(0,17),(1,17),(2,17),(3,9)],4,40,[.pointer none,.pointer none,.pointer none,.string ByteArray.empty],false⟩),
 (146,⟨.struct [(0,17),(1,17),(2,17),(3,9)],4,40,[.pointer none,.pointer none,.pointer none,.string ByteArray.empty],false⟩),
 (150,⟨.int .u8,1,1,[.int .u8 0],false⟩),
 (151,⟨.int .u8,1,1,[.int .u8 0],false⟩),
 (153,⟨.ptr 5,1,8,[.pointer none],false⟩),
 (154,⟨.int .i32,1,4,[.int .i32 0],false⟩),
 (155,⟨.int .i32,1,4,[.int .i32 0],false⟩)]
def Jm:K2:=fun t=>tabL.lookup t
theorem Zx:Qu Try.prog Jm:=fun t i h=>by
 have hm:=Zwh _ h
 unfold tabL at hm
 simp only [List.mem_cons,Prod.mk.injEq,List.not_mem_nil,or_false] at hm
 rcases hm with ⟨rfl,rfl⟩ | ⟨rfl,rfl⟩ | ⟨rfl,rfl⟩ | ⟨rfl,rfl⟩ | ⟨rfl,rfl⟩ | ⟨rfl,rfl⟩ | ⟨rfl,rfl⟩ | ⟨rfl,rfl⟩ | ⟨rfl,rfl⟩ | ⟨rfl,rfl⟩ | ⟨rfl,rfl⟩ | ⟨rfl,rfl⟩ | ⟨rfl,rfl⟩ | ⟨rfl,rfl⟩ | ⟨rfl,rfl⟩ | ⟨rfl,rfl⟩ | ⟨rfl,rfl⟩ | ⟨rfl,rfl⟩ | ⟨rfl,rfl⟩ | ⟨rfl,rfl⟩ | ⟨rfl,rfl⟩ | ⟨rfl,rfl⟩ | ⟨rfl,rfl⟩ | ⟨rfl,rfl⟩ | ⟨rfl,rfl⟩ | ⟨rfl,rfl⟩ | ⟨rfl,rfl⟩ | ⟨rfl,rfl⟩ | ⟨rfl,rfl⟩ | ⟨rfl,rfl⟩ | ⟨rfl,rfl⟩ | ⟨rfl,rfl⟩ | ⟨rfl,rfl⟩ | ⟨rfl,rfl⟩ | ⟨rfl,rfl⟩ | ⟨rfl,rfl⟩ | ⟨rfl,rfl⟩ | ⟨rfl,rfl⟩ | ⟨rfl,rfl⟩ | ⟨rfl,rfl⟩ | ⟨rfl,rfl⟩ | ⟨rfl,rfl⟩ | ⟨rfl,rfl⟩ | ⟨rfl,rfl⟩ | ⟨rfl,rfl⟩ | ⟨rfl,rfl⟩ | ⟨rfl,rfl⟩ | ⟨rfl,rfl⟩ | ⟨rfl,rfl⟩ | ⟨rfl,rfl⟩ | ⟨rfl,rfl⟩ | ⟨rfl,rfl⟩ | ⟨rfl,rfl⟩ | ⟨rfl,rfl⟩ | ⟨rfl,rfl⟩ | ⟨rfl,rfl⟩ | ⟨rfl,rfl⟩ | ⟨rfl,rfl⟩ | ⟨rfl,rfl⟩ | ⟨rfl,rfl⟩ | ⟨rfl,rfl⟩ | ⟨rfl,rfl⟩
 ·exact ty2
 ·exact ty3
 ·exact ty4
 ·exact ty5
 ·exact ty6
 ·exact ty7
 ·exact ty8
 ·exact ty9
 ·exact Ydk
 ·exact Ydl
 ·exact Ydm
 ·exact Ydn
 ·exact Ydo
 ·exact Ydp
 ·exact Ydq
 ·exact Ydr
 ·exact Yds
 ·exact Ydt
 ·exact Ydu
 ·exact Ydv
 ·exact Ydw
 ·exact Ydx
 ·exact Ydy
 ·exact Ydz
 ·exact Yd0
 ·exact Yd1
 ·exact Yd2
 ·exact Yd3
 ·exact Yd4
 ·exact Yd5
 ·exact Yd6
 ·exact Yd7
 ·exact Yd8
 ·exact Yd9
 ·exact Yea
 ·exact Yeb
 ·exact Yec
 ·exact Yed
 ·exact Yee
 ·exact Yef
 ·exact Yeg
 ·exact Yeh
 ·exact Yei
 ·exact Yej
 ·exact Yek
 ·exact Yel
 ·exact Yem
 ·exact Ycl
 ·exact Ycm
 ·exact Ycn
 ·exact Yco
 ·exact Ycp
 ·exact Ycq
 ·exact Ycr
 ·exact Ycs
 ·exact Yct
 ·exact Ycu
 ·exact Ycv
 ·exact Ycw
 ·exact Ycx
 ·exact Ycy
 exact Ycz
theorem Z6t:Jm 2=some ⟨.int .i64,1,8,[.int .i64 0],false⟩:=rfl
theorem Z2x:Jm 3=some ⟨.int .i64,1,8,[.int .i64 0],false⟩:=rfl
theorem Z6u:Jm 4=some ⟨.bool,1,1,[.bool false],false⟩:=rfl
theorem Z6v:Jm 5=some ⟨.int .u8,1,1,[.int .u8 0],false⟩:=rfl
theorem Z6w:Jm 6=some ⟨.int .u8,1,1,[.int .u8 0],false⟩:=rfl
theorem Z6x:Jm 7=some ⟨.struct [(0,2),(1,3),(2,4),(3,6)],4,24,[.int .i64 0,.int .i64 0,.bool false,.int .u8 0],false⟩:=rfl
theorem Z6y:Jm 8=some ⟨.struct [(0,2),(1,3),(2,4),(3,6)],4,24,[.int .i64 0,.int .i64 0,.bool false,.int .u8 0],false⟩:=rfl
theorem Z6z:Jm 9=some ⟨.str,1,16,[.string ByteArray.empty],false⟩:=rfl
theorem Zym:Jm 10=some ⟨.str,1,16,[.string ByteArray.empty],false⟩:=rfl
theorem Zyn:Jm 11=some ⟨.str,1,16,[.string ByteArray.empty],false⟩:=rfl
theorem Zyo:Jm 12=some ⟨.int .u64,1,8,[.int .u64 0],false⟩:=rfl
theorem Zyp:Jm 13=some ⟨.struct [(0,9),(1,12)],2,24,[.string ByteArray.empty,.int .u64 0],false⟩:=rfl
theorem Zyq:Jm 14=some ⟨.struct [(0,9),(1,12)],2,24,[.string ByteArray.empty,.int .u64 0],false⟩:=rfl
theorem Zyr:Jm 15=some ⟨.ptr 146,1,8,[.pointer none],false⟩:=rfl
theorem Zys:Jm 16=some ⟨.ptr 149,1,8,[.pointer none],false⟩:=rfl
theorem Zyt:Jm 17=some ⟨.ptr 157,1,8,[.pointer none],false⟩:=rfl
theorem Zyu:Jm 18=some ⟨.struct [(0,17)],1,8,[.pointer none],false⟩:=rfl
theorem Zyv:Jm 19=some ⟨.struct [(0,17)],1,8,[.pointer none],false⟩:=rfl
theorem Zyw:Jm 21=some ⟨.int .i32,1,4,[.int .i32 0],false⟩:=rfl
theorem Zco:Jm 22=some ⟨.slice 49,1,24,[.slice none 0 0],false⟩:=rfl
theorem Zmy:Jm 23=some ⟨.slice 25,1,24,[.slice none 0 0],false⟩:=rfl
theorem Zyx:Jm 24=some ⟨.struct [(0,3),(1,22),(2,23)],3,56,[.int .i64 0,.slice none 0 0,.slice none 0 0],false⟩:=rfl
theorem Zb7:Jm 25=some ⟨.struct [(0,3),(1,22),(2,23)],3,56,[.int .i64 0,.slice none 0 0,.slice none 0 0],false⟩:=rfl
theorem Zyy:Jm 32=some ⟨.slice 22,1,24,[.slice none 0 0],false⟩:=rfl
theorem Zyz:Jm 33=some ⟨.struct [(0,3),(1,3),(2,3),(3,3)],4,32,[.int .i64 0,.int .i64 0,.int .i64 0,.int .i64 0],false⟩:=rfl
theorem Zy0:Jm 34=some ⟨.struct [(0,3),(1,3),(2,3),(3,3)],4,32,[.int .i64 0,.int .i64 0,.int .i64 0,.int .i64 0],true⟩:=rfl
theorem Zy1:Jm 38=some ⟨.ptr 65,1,8,[.pointer none],false⟩:=rfl
theorem Zy2:Jm 39=some ⟨.struct [(0,38),(1,3),(2,3),(3,3),(4,3),(5,3),(6,3),(7,3),(8,3)],9,72,[.pointer none,.int .i64 0,.int .i64 0,.int .i64 0,.int .i64 0,.int .i64 0,.int .i64 0,.int .i64 0,.int .i64 0],false⟩:=rfl
theorem Zy3:Jm 40=some ⟨.struct [(0,38),(1,3),(2,3),(3,3),(4,3),(5,3),(6,3),(7,3),(8,3)],9,72,[.pointer none,.int .i64 0,.int .i64 0,.int .i64 0,.int .i64 0,.int .i64 0,.int .i64 0,.int .i64 0,.int .i64 0],false⟩:=rfl
theorem Zy4:Jm 41=some ⟨.int .i64,1,8,[.int .i64 0],false⟩:=rfl
theorem Ke:Jm 49=some ⟨.int .u64,1,8,[.int .u64 0],false⟩:=rfl
theorem Zy5:Jm 52=some ⟨.struct [(0,22),(1,3)],2,32,[.slice none 0 0,.int .i64 0],false⟩:=rfl
theorem Zy6:Jm 53=some ⟨.struct [(0,22),(1,3)],2,32,[.slice none 0 0,.int .i64 0],false⟩:=rfl
theorem Zy7:Jm 56=some ⟨.struct [(0,3),(1,3),(2,3),(3,3),(4,3),(5,3),(6,49)],7,56,[.int .i64 0,.int .i64 0,.int .i64 0,.int .i64 0,.int .i64 0,.int .i64 0,.int .u64 0],false⟩:=rfl
theorem Zy8:Jm 57=some ⟨.struct [(0,3),(1,3),(2,3),(3,3),(4,3),(5,3),(6,49)],7,56,[.int .i64 0,.int .i64 0,.int .i64 0,.int .i64 0,.int .i64 0,.int .i64 0,.int .u64 0],true⟩:=rfl
theorem Zy9:Jm 64=some ⟨.struct [(0,32),(1,3),(2,3)],3,40,[.slice none 0 0,.int .i64 0,.int .i64 0],false⟩:=rfl
theorem Zza:Jm 65=some ⟨.struct [(0,32),(1,3),(2,3)],3,40,[.slice none 0 0,.int .i64 0,.int .i64 0],false⟩:=rfl
theorem Zzb:Jm 67=some ⟨.struct [(0,3)],1,8,[.int .i64 0],false⟩:=rfl
theorem Zzc:Jm 68=some ⟨.struct [(0,3)],1,8,[.int .i64 0],true⟩:=rfl
theorem Zzd:Jm 71=some ⟨.struct [(0,22),(1,3)],2,32,[.slice none 0 0,.int .i64 0],false⟩:=rfl
theorem Zze:Jm 72=some ⟨.struct [(0,22),(1,3)],2,32,[.slice none 0 0,.int .i64 0],false⟩:=rfl
theorem Zzf:Jm 76=some ⟨.ptr 53,1,8,[.pointer none],false⟩:=rfl
theorem Zzg:Jm 77=some ⟨.struct [(0,3),(1,3),(2,3),(3,3),(4,3),(5,3),(6,3),(7,4)],8,64,[.int .i64 0,.int .i64 0,.int .i64 0,.int .i64 0,.int .i64 0,.int .i64 0,.int .i64 0,.bool false],false⟩:=rfl
theorem Zzh:Jm 78=some ⟨.struct [(0,3),(1,3),(2,3),(3,3),(4,3),(5,3),(6,3),(7,4)],8,64,[.int .i64 0,.int .i64 0,.int .i64 0,.int .i64 0,.int .i64 0,.int .i64 0,.int .i64 0,.bool false],true⟩:=rfl
theorem Zzi:Jm 92=some ⟨.struct [(0,3),(1,3),(2,3),(3,3),(4,3),(5,3),(6,3),(7,4)],8,64,[.int .i64 0,.int .i64 0,.int .i64 0,.int .i64 0,.int .i64 0,.int .i64 0,.int .i64 0,.bool false],true⟩:=rfl
theorem Zzj:Jm 93=some ⟨.struct [(0,92),(8,3),(9,3)],10,80,[.int .i64 0,.int .i64 0,.int .i64 0,.int .i64 0,.int .i64 0,.int .i64 0,.int .i64 0,.bool false,.int .i64 0,.int .i64 0],false⟩:=rfl
theorem Zzk:Jm 94=some ⟨.struct [(0,92),(8,3),(9,3)],10,80,[.int .i64 0,.int .i64 0,.int .i64 0,.int .i64 0,.int .i64 0,.int .i64 0,.int .i64 0,.bool false,.int .i64 0,.int .i64 0],true⟩:=rfl
theorem Zts:Jm 101=some ⟨.struct [(0,78),(8,3),(9,3)],10,80,[.int .i64 0,.int .i64 0,.int .i64 0,.int .i64 0,.int .i64 0,.int .i64 0,.int .i64 0,.bool false,.int .i64 0,.int .i64 0],false⟩:=rfl
theorem Ztt:Jm 102=some ⟨.struct [(0,78),(8,3),(9,3)],10,80,[.int .i64 0,.int .i64 0,.int .i64 0,.int .i64 0,.int .i64 0,.int .i64 0,.int .i64 0,.bool false,.int .i64 0,.int .i64 0],true⟩:=rfl
theorem Ztu:Jm 106=some ⟨.ptr 68,1,8,[.pointer none],false⟩:=rfl
theorem Ztv:Jm 110=some ⟨.ptr 72,1,8,[.pointer none],false⟩:=rfl
theorem Ztw:Jm 134=some ⟨.arr 7 3,7,56,[.int .i64 0,.int .i64 0,.int .i64 0,.int .i64 0,.int .i64 0,.int .i64 0,.int .i64 0],true⟩:=rfl
theorem Ztx:Jm 135=some ⟨.int .u32,1,4,[.int .u32 0],false⟩:=rfl
theorem Zty:Jm 136=some ⟨.int .u64,1,8,[.int .u64 0],false⟩:=rfl
theorem Ztz:Jm 143=some ⟨.arr 6 3,6,48,[.int .i64 0,.int .i64 0,.int .i64 0,.int .i64 0,.int .i64 0,.int .i64 0],true⟩:=rfl
theorem Zt0:Jm 145=some ⟨.struct [(0,17),(1,17),(2,17),(3,9)],4,40,[.pointer none,.pointer none,.pointer none,.string ByteArray.empty],false⟩:=rfl
theorem Zt1:Jm 146=some ⟨.struct [(0,17),(1,17),(2,17),(3,9)],4,40,[.pointer none,.pointer none,.pointer none,.string ByteArray.empty],false⟩:=rfl
theorem Zt2:Jm 150=some ⟨.int .u8,1,1,[.int .u8 0],false⟩:=rfl
theorem Zt3:Jm 151=some ⟨.int .u8,1,1,[.int .u8 0],false⟩:=rfl
theorem Zt4:Jm 153=some ⟨.ptr 5,1,8,[.pointer none],false⟩:=rfl
theorem Zt5:Jm 154=some ⟨.int .i32,1,4,[.int .i32 0],false⟩:=rfl
theorem Zt6:Jm 155=some ⟨.int .i32,1,4,[.int .i32 0],false⟩:=rfl
theorem Zt7:Yn Jm 2=some (.int .i64):=rfl
theorem Zt8:Yn Jm 3=some (.int .i64):=rfl
theorem Zt9:Yn Jm 4=some (.bool):=rfl
theorem Zua:Yn Jm 5=some (.int .u8):=rfl
theorem Zub:Yn Jm 6=some (.int .u8):=rfl
theorem Zuc:Yn Jm 7=some (.struct [(0,2),(1,3),(2,4),(3,6)]):=rfl
theorem Zud:Yn Jm 8=some (.struct [(0,2),(1,3),(2,4),(3,6)]):=rfl
theorem Zue:Yn Jm 9=some (.str):=rfl
theorem Zpn:Yn Jm 10=some (.str):=rfl
theorem Zpo:Yn Jm 11=some (.str):=rfl
theorem Zpp:Yn Jm 12=some (.int .u64):=rfl
theorem Zpq:Yn Jm 13=some (.struct [(0,9),(1,12)]):=rfl
theorem Zpr:Yn Jm 14=some (.struct [(0,9),(1,12)]):=rfl
theorem Zps:Yn Jm 15=some (.ptr 146):=rfl
theorem Zpt:Yn Jm 16=some (.ptr 149):=rfl
theorem Zpu:Yn Jm 17=some (.ptr 157):=rfl
theorem Zpv:Yn Jm 18=some (.struct [(0,17)]):=rfl
theorem Zpw:Yn Jm 19=some (.struct [(0,17)]):=rfl
theorem Zpx:Yn Jm 21=some (.int .i32):=rfl
theorem Zfk:Yn Jm 22=some (.slice 49):=rfl
theorem Zms:Yn Jm 23=some (.slice 25):=rfl
theorem Zpy:Yn Jm 24=some (.struct [(0,3),(1,22),(2,23)]):=rfl
theorem Zpz:Yn Jm 25=some (.struct [(0,3),(1,22),(2,23)]):=rfl
theorem Zp0:Yn Jm 32=some (.slice 22):=rfl
theorem Zp1:Yn Jm 33=some (.struct [(0,3),(1,3),(2,3),(3,3)]):=rfl
theorem Zp2:Yn Jm 34=some (.struct [(0,3),(1,3),(2,3),(3,3)]):=rfl
theorem Zmt:Yn Jm 38=some (.ptr 65):=rfl
theorem Zp3:Yn Jm 39=some (.struct [(0,38),(1,3),(2,3),(3,3),(4,3),(5,3),(6,3),(7,3),(8,3)]):=rfl
theorem Zp4:Yn Jm 40=some (.struct [(0,38),(1,3),(2,3),(3,3),(4,3),(5,3),(6,3),(7,3),(8,3)]):=rfl
theorem Zp5:Yn Jm 41=some (.int .i64):=rfl
theorem Zp6:Yn Jm 49=some (.int .u64):=rfl
theorem Zp7:Yn Jm 52=some (.struct [(0,22),(1,3)]):=rfl
theorem Zp8:Yn Jm 53=some (.struct [(0,22),(1,3)]):=rfl
theorem Zp9:Yn Jm 56=some (.struct [(0,3),(1,3),(2,3),(3,3),(4,3),(5,3),(6,49)]):=rfl
theorem Zqa:Yn Jm 57=some (.struct [(0,3),(1,3),(2,3),(3,3),(4,3),(5,3),(6,49)]):=rfl
theorem Zqb:Yn Jm 64=some (.struct [(0,32),(1,3),(2,3)]):=rfl
theorem Zqc:Yn Jm 65=some (.struct [(0,32),(1,3),(2,3)]):=rfl
theorem Zqd:Yn Jm 67=some (.struct [(0,3)]):=rfl
theorem Zqe:Yn Jm 68=some (.struct [(0,3)]):=rfl
theorem Zqf:Yn Jm 71=some (.struct [(0,22),(1,3)]):=rfl
theorem Zqg:Yn Jm 72=some (.struct [(0,22),(1,3)]):=rfl
theorem Zqh:Yn Jm 76=some (.ptr 53):=rfl
theorem Zqi:Yn Jm 77=some (.struct [(0,3),(1,3),(2,3),(3,3),(4,3),(5,3),(6,3),(7,4)]):=rfl
theorem Zqj:Yn Jm 78=some (.struct [(0,3),(1,3),(2,3),(3,3),(4,3),(5,3),(6,3),(7,4)]):=rfl
theorem Zqk:Yn Jm 92=some (.struct [(0,3),(1,3),(2,3),(3,3),(4,3),(5,3),(6,3),(7,4)]):=rfl
theorem Zql:Yn Jm 93=some (.struct [(0,92),(8,3),(9,3)]):=rfl
theorem Zqm:Yn Jm 94=some (.struct [(0,92),(8,3),(9,3)]):=rfl
theorem Zlj:Yn Jm 101=some (.struct [(0,78),(8,3),(9,3)]):=rfl
theorem Zlk:Yn Jm 102=some (.struct [(0,78),(8,3),(9,3)]):=rfl
theorem Zll:Yn Jm 106=some (.ptr 68):=rfl
theorem Zlm:Yn Jm 110=some (.ptr 72):=rfl
theorem Zln:Yn Jm 134=some (.arr 7 3):=rfl
theorem Zlo:Yn Jm 135=some (.int .u32):=rfl
theorem Zlp:Yn Jm 136=some (.int .u64):=rfl
theorem Zlq:Yn Jm 143=some (.arr 6 3):=rfl
theorem Zlr:Yn Jm 145=some (.struct [(0,17),(1,17),(2,17),(3,9)]):=rfl
theorem Zls:Yn Jm 146=some (.struct [(0,17),(1,17),(2,17),(3,9)]):=rfl
theorem Zlt:Yn Jm 150=some (.int .u8):=rfl
theorem Zlu:Yn Jm 151=some (.int .u8):=rfl
theorem Zlv:Yn Jm 153=some (.ptr 5):=rfl
theorem Zlw:Yn Jm 154=some (.int .i32):=rfl
theorem Zlx:Yn Jm 155=some (.int .i32):=rfl
end Go.Proofs.Ytnapihlnlajlpaa
