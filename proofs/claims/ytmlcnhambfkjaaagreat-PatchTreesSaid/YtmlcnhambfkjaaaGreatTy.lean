/- The types of this seat's program, as its dump has them, in the ghost memory's words; no condition. -/
import Derived.Test.YtmlcnhambfkjaaaGreatRows
import Derived.Test.YtmlcnhambfkjaaaGreatG16
namespace Go.Proofs.YtmlcnhambfkjaaaGreat
open Go.RowKit
set_option linter.unusedVariables false
set_option linter.unusedSimpArgs false
theorem TyOk.of {P:Program} {t:TypeId} (k:TK) (size bytes:Nat) (zero:List Value) (z:Value) (h:(P.info? t).map (fun i=>(i.zero,i.size,i.bytes))=some (some z,size,bytes)) (hz:z.cells.toList=zero) (hu:k.ok P t) (hl:zero.length=size) (h1:zero.all Value.oneCell'=true) (eq:Bool) (he:eq=true→Zlc P t):TyOk P t ⟨k,size,bytes,zero,eq⟩:=by
 refine ⟨?_,hu,hl,fun v hv=>List.all_eq_true.1 h1 v hv,he⟩
 cases hi:P.info? t with
 | none=>rw [hi] at h;cases h
 | some i =>
  rw [hi] at h
  simp only [Option.map_some,Option.some.injEq,Prod.mk.injEq] at h
  exact ⟨i,z,rfl,h.2.1,h.2.2,h.1,hz⟩
theorem Z2z {α:Type} {t:Nat} {i:α}:∀ (l:List (Nat×α)),l.lookup t=some i→(t,i)∈l
 | [],h=>by simp at h
 | (a,b)::l,h=>by
  rw [List.lookup_cons] at h
  split at h
  ·rename_i he
   injection h with h
   have:t=a:=by simpa using he
   subst h this
   exact .head _
  exact .tail _ (Z2z l h)
theorem ty2:TyOk Tryz.prog 2 ⟨.int .i64,1,8,[.int .i64 0],false⟩:=TyOk.of (P:=Tryz.prog) (t:=2) (.int .i64) 1 8 [.int .i64 0] (.int .i64 0) (by kernel_rfl) rfl Tryz.underlying2 rfl rfl false (fun h=>by cases h)
theorem ty3:TyOk Tryz.prog 3 ⟨.int .i64,1,8,[.int .i64 0],false⟩:=TyOk.of (P:=Tryz.prog) (t:=3) (.int .i64) 1 8 [.int .i64 0] (.int .i64 0) (by kernel_rfl) rfl Tryz.underlying3 rfl rfl false (fun h=>by cases h)
theorem ty4:TyOk Tryz.prog 4 ⟨.bool,1,1,[.bool false],false⟩:=TyOk.of (P:=Tryz.prog) (t:=4) (.bool) 1 1 [.bool false] (.bool false) (by kernel_rfl) rfl Tryz.underlying4 rfl rfl false (fun h=>by cases h)
theorem ty5:TyOk Tryz.prog 5 ⟨.int .u8,1,1,[.int .u8 0],false⟩:=TyOk.of (P:=Tryz.prog) (t:=5) (.int .u8) 1 1 [.int .u8 0] (.int .u8 0) (by kernel_rfl) rfl Tryz.underlying5 rfl rfl false (fun h=>by cases h)
theorem ty6:TyOk Tryz.prog 6 ⟨.int .u8,1,1,[.int .u8 0],false⟩:=TyOk.of (P:=Tryz.prog) (t:=6) (.int .u8) 1 1 [.int .u8 0] (.int .u8 0) (by kernel_rfl) rfl Tryz.underlying6 rfl rfl false (fun h=>by cases h)
theorem ty7:TyOk Tryz.prog 7 ⟨.struct [(0,2),(1,3),(2,4),(3,6)],4,24,[.int .i64 0,.int .i64 0,.bool false,.int .u8 0],false⟩:=TyOk.of (P:=Tryz.prog) (t:=7) (.struct [(0,2),(1,3),(2,4),(3,6)]) 4 24 [.int .i64 0,.int .i64 0,.bool false,.int .u8 0] (.agg #[.int .i64 0,.int .i64 0,.bool false,.int .u8 0]) (by kernel_rfl) rfl ⟨_,Tryz.underlying7,rfl⟩ rfl rfl false (fun h=>by cases h)
theorem ty8:TyOk Tryz.prog 8 ⟨.struct [(0,2),(1,3),(2,4),(3,6)],4,24,[.int .i64 0,.int .i64 0,.bool false,.int .u8 0],false⟩:=TyOk.of (P:=Tryz.prog) (t:=8) (.struct [(0,2),(1,3),(2,4),(3,6)]) 4 24 [.int .i64 0,.int .i64 0,.bool false,.int .u8 0] (.agg #[.int .i64 0,.int .i64 0,.bool false,.int .u8 0]) (by kernel_rfl) rfl ⟨_,Tryz.underlying8,rfl⟩ rfl rfl false (fun h=>by cases h)
theorem ty9:TyOk Tryz.prog 9 ⟨.str,1,16,[.string ByteArray.empty],false⟩:=TyOk.of (P:=Tryz.prog) (t:=9) (.str) 1 16 [.string ByteArray.empty] (.string ByteArray.empty) (by kernel_rfl) rfl Tryz.underlying9 rfl rfl false (fun h=>by cases h)
theorem Ynp:TyOk Tryz.prog 10 ⟨.str,1,16,[.string ByteArray.empty],false⟩:=TyOk.of (P:=Tryz.prog) (t:=10) (.str) 1 16 [.string ByteArray.empty] (.string ByteArray.empty) (by kernel_rfl) rfl Tryz.underlying10 rfl rfl false (fun h=>by cases h)
theorem Ynq:TyOk Tryz.prog 11 ⟨.str,1,16,[.string ByteArray.empty],false⟩:=TyOk.of (P:=Tryz.prog) (t:=11) (.str) 1 16 [.string ByteArray.empty] (.string ByteArray.empty) (by kernel_rfl) rfl Tryz.underlying11 rfl rfl false (fun h=>by cases h)
theorem Ynr:TyOk Tryz.prog 12 ⟨.int .u64,1,8,[.int .u64 0],false⟩:=TyOk.of (P:=Tryz.prog) (t:=12) (.int .u64) 1 8 [.int .u64 0] (.int .u64 0) (by kernel_rfl) rfl Tryz.underlying12 rfl rfl false (fun h=>by cases h)
theorem Yns:TyOk Tryz.prog 13 ⟨.struct [(0,9),(1,12)],2,24,[.string ByteArray.empty,.int .u64 0],false⟩:=TyOk.of (P:=Tryz.prog) (t:=13) (.struct [(0,9),(1,12)]) 2 24 [.string ByteArray.empty,.int .u64 0] (.agg #[.string ByteArray.empty,.int .u64 0]) (by kernel_rfl) rfl ⟨_,Tryz.underlying13,rfl⟩ rfl rfl false (fun h=>by cases h)
theorem Ynt:TyOk Tryz.prog 14 ⟨.struct [(0,9),(1,12)],2,24,[.string ByteArray.empty,.int .u64 0],false⟩:=TyOk.of (P:=Tryz.prog) (t:=14) (.struct [(0,9),(1,12)]) 2 24 [.string ByteArray.empty,.int .u64 0] (.agg #[.string ByteArray.empty,.int .u64 0]) (by kernel_rfl) rfl ⟨_,Tryz.underlying14,rfl⟩ rfl rfl false (fun h=>by cases h)
theorem Ynu:TyOk Tryz.prog 15 ⟨.ptr 399,1,8,[.pointer none],false⟩:=TyOk.of (P:=Tryz.prog) (t:=15) (.ptr 399) 1 8 [.pointer none] (.pointer none) (by kernel_rfl) rfl Tryz.underlying15 rfl rfl false (fun h=>by cases h)
theorem Ynv:TyOk Tryz.prog 16 ⟨.ptr 402,1,8,[.pointer none],false⟩:=TyOk.of (P:=Tryz.prog) (t:=16) (.ptr 402) 1 8 [.pointer none] (.pointer none) (by kernel_rfl) rfl Tryz.underlying16 rfl rfl false (fun h=>by cases h)
theorem Ynw:TyOk Tryz.prog 17 ⟨.ptr 410,1,8,[.pointer none],false⟩:=TyOk.of (P:=Tryz.prog) (t:=17) (.ptr 410) 1 8 [.pointer none] (.pointer none) (by kernel_rfl) rfl Tryz.underlying17 rfl rfl false (fun h=>by cases h)
theorem Ynx:TyOk Tryz.prog 18 ⟨.struct [(0,17)],1,8,[.pointer none],false⟩:=TyOk.of (P:=Tryz.prog) (t:=18) (.struct [(0,17)]) 1 8 [.pointer none] (.agg #[.pointer none]) (by kernel_rfl) rfl ⟨_,Tryz.underlying18,rfl⟩ rfl rfl false (fun h=>by cases h)
theorem Yny:TyOk Tryz.prog 19 ⟨.struct [(0,17)],1,8,[.pointer none],false⟩:=TyOk.of (P:=Tryz.prog) (t:=19) (.struct [(0,17)]) 1 8 [.pointer none] (.agg #[.pointer none]) (by kernel_rfl) rfl ⟨_,Tryz.underlying19,rfl⟩ rfl rfl false (fun h=>by cases h)
theorem Ynz:TyOk Tryz.prog 21 ⟨.int .i32,1,4,[.int .i32 0],false⟩:=TyOk.of (P:=Tryz.prog) (t:=21) (.int .i32) 1 4 [.int .i32 0] (.int .i32 0) (by kernel_rfl) rfl Tryz.underlying21 rfl rfl false (fun h=>by cases h)
theorem Yn0:TyOk Tryz.prog 22 ⟨.slice 77,1,24,[.slice none 0 0],false⟩:=TyOk.of (P:=Tryz.prog) (t:=22) (.slice 77) 1 24 [.slice none 0 0] (.slice none 0 0) (by kernel_rfl) rfl Tryz.underlying22 rfl rfl false (fun h=>by cases h)
theorem Yn1:TyOk Tryz.prog 23 ⟨.slice 25,1,24,[.slice none 0 0],false⟩:=TyOk.of (P:=Tryz.prog) (t:=23) (.slice 25) 1 24 [.slice none 0 0] (.slice none 0 0) (by kernel_rfl) rfl Tryz.underlying23 rfl rfl false (fun h=>by cases h)
theorem Yn2:TyOk Tryz.prog 24 ⟨.struct [(0,3),(1,22),(2,23)],3,56,[.int .i64 0,.slice none 0 0,.slice none 0 0],false⟩:=TyOk.of (P:=Tryz.prog) (t:=24) (.struct [(0,3),(1,22),(2,23)]) 3 56 [.int .i64 0,.slice none 0 0,.slice none 0 0] (.agg #[.int .i64 0,.slice none 0 0,.slice none 0 0]) (by kernel_rfl) rfl ⟨_,Tryz.underlying24,rfl⟩ rfl rfl false (fun h=>by cases h)
theorem Yn3:TyOk Tryz.prog 25 ⟨.struct [(0,3),(1,22),(2,23)],3,56,[.int .i64 0,.slice none 0 0,.slice none 0 0],false⟩:=TyOk.of (P:=Tryz.prog) (t:=25) (.struct [(0,3),(1,22),(2,23)]) 3 56 [.int .i64 0,.slice none 0 0,.slice none 0 0] (.agg #[.int .i64 0,.slice none 0 0,.slice none 0 0]) (by kernel_rfl) rfl ⟨_,Tryz.underlying25,rfl⟩ rfl rfl false (fun h=>by cases h)
theorem Yn4:TyOk Tryz.prog 26 ⟨.slice 84,1,24,[.slice none 0 0],false⟩:=TyOk.of (P:=Tryz.prog) (t:=26) (.slice 84) 1 24 [.slice none 0 0] (.slice none 0 0) (by kernel_rfl) rfl Tryz.underlying26 rfl rfl false (fun h=>by cases h)
theorem Yn5:TyOk Tryz.prog 27 ⟨.slice 86,1,24,[.slice none 0 0],false⟩:=TyOk.of (P:=Tryz.prog) (t:=27) (.slice 86) 1 24 [.slice none 0 0] (.slice none 0 0) (by kernel_rfl) rfl Tryz.underlying27 rfl rfl false (fun h=>by cases h)
theorem Yn6:TyOk Tryz.prog 28 ⟨.slice 89,1,24,[.slice none 0 0],false⟩:=TyOk.of (P:=Tryz.prog) (t:=28) (.slice 89) 1 24 [.slice none 0 0] (.slice none 0 0) (by kernel_rfl) rfl Tryz.underlying28 rfl rfl false (fun h=>by cases h)
theorem Yn7:TyOk Tryz.prog 29 ⟨.struct [(0,3),(1,25),(4,25),(7,26),(8,27),(9,3),(10,28)],11,200,[.int .i64 0,.int .i64 0,.slice none 0 0,.slice none 0 0,.int .i64 0,.slice none 0 0,.slice none 0 0,.slice none 0 0,.slice none 0 0,.int .i64 0,.slice none 0 0],false⟩:=TyOk.of (P:=Tryz.prog) (t:=29) (.struct [(0,3),(1,25),(4,25),(7,26),(8,27),(9,3),(10,28)]) 11 200 [.int .i64 0,.int .i64 0,.slice none 0 0,.slice none 0 0,.int .i64 0,.slice none 0 0,.slice none 0 0,.slice none 0 0,.slice none 0 0,.int .i64 0,.slice none 0 0] (.agg #[.int .i64 0,.int .i64 0,.slice none 0 0,.slice none 0 0,.int .i64 0,.slice none 0 0,.slice none 0 0,.slice none 0 0,.slice none 0 0,.int .i64 0,.slice none 0 0]) (by kernel_rfl) rfl ⟨_,Tryz.underlying29,rfl⟩ rfl rfl false (fun h=>by cases h)
theorem Yn8:TyOk Tryz.prog 30 ⟨.struct [(0,3),(1,25),(4,25),(7,26),(8,27),(9,3),(10,28)],11,200,[.int .i64 0,.int .i64 0,.slice none 0 0,.slice none 0 0,.int .i64 0,.slice none 0 0,.slice none 0 0,.slice none 0 0,.slice none 0 0,.int .i64 0,.slice none 0 0],false⟩:=TyOk.of (P:=Tryz.prog) (t:=30) (.struct [(0,3),(1,25),(4,25),(7,26),(8,27),(9,3),(10,28)]) 11 200 [.int .i64 0,.int .i64 0,.slice none 0 0,.slice none 0 0,.int .i64 0,.slice none 0 0,.slice none 0 0,.slice none 0 0,.slice none 0 0,.int .i64 0,.slice none 0 0] (.agg #[.int .i64 0,.int .i64 0,.slice none 0 0,.slice none 0 0,.int .i64 0,.slice none 0 0,.slice none 0 0,.slice none 0 0,.slice none 0 0,.int .i64 0,.slice none 0 0]) (by kernel_rfl) rfl ⟨_,Tryz.underlying30,rfl⟩ rfl rfl false (fun h=>by cases h)
theorem Yn9:TyOk Tryz.prog 44 ⟨.int .i64,1,8,[.int .i64 0],false⟩:=TyOk.of (P:=Tryz.prog) (t:=44) (.int .i64) 1 8 [.int .i64 0] (.int .i64 0) (by kernel_rfl) rfl Tryz.underlying44 rfl rfl false (fun h=>by cases h)
theorem Yoa:TyOk Tryz.prog 53 ⟨.slice 22,1,24,[.slice none 0 0],false⟩:=TyOk.of (P:=Tryz.prog) (t:=53) (.slice 22) 1 24 [.slice none 0 0] (.slice none 0 0) (by kernel_rfl) rfl Tryz.underlying53 rfl rfl false (fun h=>by cases h)
theorem Yob:TyOk Tryz.prog 54 ⟨.struct [(0,3),(1,3),(2,3),(3,3)],4,32,[.int .i64 0,.int .i64 0,.int .i64 0,.int .i64 0],false⟩:=TyOk.of (P:=Tryz.prog) (t:=54) (.struct [(0,3),(1,3),(2,3),(3,3)]) 4 32 [.int .i64 0,.int .i64 0,.int .i64 0,.int .i64 0] (.agg #[.int .i64 0,.int .i64 0,.int .i64 0,.int .i64 0]) (by kernel_rfl) rfl ⟨_,Tryz.underlying54,rfl⟩ rfl rfl false (fun h=>by cases h)
theorem Yoc:TyOk Tryz.prog 55 ⟨.struct [(0,3),(1,3),(2,3),(3,3)],4,32,[.int .i64 0,.int .i64 0,.int .i64 0,.int .i64 0],true⟩:=TyOk.of (P:=Tryz.prog) (t:=55) (.struct [(0,3),(1,3),(2,3),(3,3)]) 4 32 [.int .i64 0,.int .i64 0,.int .i64 0,.int .i64 0] (.agg #[.int .i64 0,.int .i64 0,.int .i64 0,.int .i64 0]) (by kernel_rfl) rfl ⟨_,Tryz.underlying55,rfl⟩ rfl rfl true (fun _=>by unfold Zlc;exact ⟨by kernel_rfl,by kernel_rfl,by kernel_rfl⟩)
theorem Yod:TyOk Tryz.prog 60 ⟨.ptr 147,1,8,[.pointer none],false⟩:=TyOk.of (P:=Tryz.prog) (t:=60) (.ptr 147) 1 8 [.pointer none] (.pointer none) (by kernel_rfl) rfl Tryz.underlying60 rfl rfl false (fun h=>by cases h)
theorem Yoe:TyOk Tryz.prog 61 ⟨.struct [(0,60),(1,3),(2,3),(3,3),(4,3),(5,3),(6,3),(7,3),(8,3)],9,72,[.pointer none,.int .i64 0,.int .i64 0,.int .i64 0,.int .i64 0,.int .i64 0,.int .i64 0,.int .i64 0,.int .i64 0],false⟩:=TyOk.of (P:=Tryz.prog) (t:=61) (.struct [(0,60),(1,3),(2,3),(3,3),(4,3),(5,3),(6,3),(7,3),(8,3)]) 9 72 [.pointer none,.int .i64 0,.int .i64 0,.int .i64 0,.int .i64 0,.int .i64 0,.int .i64 0,.int .i64 0,.int .i64 0] (.agg #[.pointer none,.int .i64 0,.int .i64 0,.int .i64 0,.int .i64 0,.int .i64 0,.int .i64 0,.int .i64 0,.int .i64 0]) (by kernel_rfl) rfl ⟨_,Tryz.underlying61,rfl⟩ rfl rfl false (fun h=>by cases h)
theorem Yof:TyOk Tryz.prog 62 ⟨.struct [(0,60),(1,3),(2,3),(3,3),(4,3),(5,3),(6,3),(7,3),(8,3)],9,72,[.pointer none,.int .i64 0,.int .i64 0,.int .i64 0,.int .i64 0,.int .i64 0,.int .i64 0,.int .i64 0,.int .i64 0],false⟩:=TyOk.of (P:=Tryz.prog) (t:=62) (.struct [(0,60),(1,3),(2,3),(3,3),(4,3),(5,3),(6,3),(7,3),(8,3)]) 9 72 [.pointer none,.int .i64 0,.int .i64 0,.int .i64 0,.int .i64 0,.int .i64 0,.int .i64 0,.int .i64 0,.int .i64 0] (.agg #[.pointer none,.int .i64 0,.int .i64 0,.int .i64 0,.int .i64 0,.int .i64 0,.int .i64 0,.int .i64 0,.int .i64 0]) (by kernel_rfl) rfl ⟨_,Tryz.underlying62,rfl⟩ rfl rfl false (fun h=>by cases h)
theorem Yog:TyOk Tryz.prog 77 ⟨.int .u64,1,8,[.int .u64 0],false⟩:=TyOk.of (P:=Tryz.prog) (t:=77) (.int .u64) 1 8 [.int .u64 0] (.int .u64 0) (by kernel_rfl) rfl Tryz.underlying77 rfl rfl false (fun h=>by cases h)
theorem Yoh:TyOk Tryz.prog 81 ⟨.int .u64,1,8,[.int .u64 0],false⟩:=TyOk.of (P:=Tryz.prog) (t:=81) (.int .u64) 1 8 [.int .u64 0] (.int .u64 0) (by kernel_rfl) rfl Tryz.underlying81 rfl rfl false (fun h=>by cases h)
theorem Yoi:TyOk Tryz.prog 83 ⟨.struct [(0,3),(1,5),(2,77),(3,77)],4,32,[.int .i64 0,.int .u8 0,.int .u64 0,.int .u64 0],false⟩:=TyOk.of (P:=Tryz.prog) (t:=83) (.struct [(0,3),(1,5),(2,77),(3,77)]) 4 32 [.int .i64 0,.int .u8 0,.int .u64 0,.int .u64 0] (.agg #[.int .i64 0,.int .u8 0,.int .u64 0,.int .u64 0]) (by kernel_rfl) rfl ⟨_,Tryz.underlying83,rfl⟩ rfl rfl false (fun h=>by cases h)
theorem Yoj:TyOk Tryz.prog 84 ⟨.struct [(0,3),(1,5),(2,77),(3,77)],4,32,[.int .i64 0,.int .u8 0,.int .u64 0,.int .u64 0],true⟩:=TyOk.of (P:=Tryz.prog) (t:=84) (.struct [(0,3),(1,5),(2,77),(3,77)]) 4 32 [.int .i64 0,.int .u8 0,.int .u64 0,.int .u64 0] (.agg #[.int .i64 0,.int .u8 0,.int .u64 0,.int .u64 0]) (by kernel_rfl) rfl ⟨_,Tryz.underlying84,rfl⟩ rfl rfl true (fun _=>by unfold Zlc;exact ⟨by kernel_rfl,by kernel_rfl,by kernel_rfl⟩)
theorem Yok:TyOk Tryz.prog 85 ⟨.struct [(0,3),(1,30)],12,208,[.int .i64 0,.int .i64 0,.int .i64 0,.slice none 0 0,.slice none 0 0,.int .i64 0,.slice none 0 0,.slice none 0 0,.slice none 0 0,.slice none 0 0,.int .i64 0,.slice none 0 0],false⟩:=TyOk.of (P:=Tryz.prog) (t:=85) (.struct [(0,3),(1,30)]) 12 208 [.int .i64 0,.int .i64 0,.int .i64 0,.slice none 0 0,.slice none 0 0,.int .i64 0,.slice none 0 0,.slice none 0 0,.slice none 0 0,.slice none 0 0,.int .i64 0,.slice none 0 0] (.agg #[.int .i64 0,.int .i64 0,.int .i64 0,.slice none 0 0,.slice none 0 0,.int .i64 0,.slice none 0 0,.slice none 0 0,.slice none 0 0,.slice none 0 0,.int .i64 0,.slice none 0 0]) (by kernel_rfl) rfl ⟨_,Tryz.underlying85,rfl⟩ rfl rfl false (fun h=>by cases h)
theorem Yol:TyOk Tryz.prog 86 ⟨.struct [(0,3),(1,30)],12,208,[.int .i64 0,.int .i64 0,.int .i64 0,.slice none 0 0,.slice none 0 0,.int .i64 0,.slice none 0 0,.slice none 0 0,.slice none 0 0,.slice none 0 0,.int .i64 0,.slice none 0 0],false⟩:=TyOk.of (P:=Tryz.prog) (t:=86) (.struct [(0,3),(1,30)]) 12 208 [.int .i64 0,.int .i64 0,.int .i64 0,.slice none 0 0,.slice none 0 0,.int .i64 0,.slice none 0 0,.slice none 0 0,.slice none 0 0,.slice none 0 0,.int .i64 0,.slice none 0 0] (.agg #[.int .i64 0,.int .i64 0,.int .i64 0,.slice none 0 0,.slice none 0 0,.int .i64 0,.slice none 0 0,.slice none 0 0,.slice none 0 0,.slice none 0 0,.int .i64 0,.slice none 0 0]) (by kernel_rfl) rfl ⟨_,Tryz.underlying86,rfl⟩ rfl rfl false (fun h=>by cases h)
theorem Yom:TyOk Tryz.prog 88 ⟨.struct [(0,3),(1,3),(2,23),(3,30)],14,240,[.int .i64 0,.int .i64 0,.slice none 0 0,.int .i64 0,.int .i64 0,.slice none 0 0,.slice none 0 0,.int .i64 0,.slice none 0 0,.slice none 0 0,.slice none 0 0,.slice none 0 0,.int .i64 0,.slice none 0 0],false⟩:=TyOk.of (P:=Tryz.prog) (t:=88) (.struct [(0,3),(1,3),(2,23),(3,30)]) 14 240 [.int .i64 0,.int .i64 0,.slice none 0 0,.int .i64 0,.int .i64 0,.slice none 0 0,.slice none 0 0,.int .i64 0,.slice none 0 0,.slice none 0 0,.slice none 0 0,.slice none 0 0,.int .i64 0,.slice none 0 0] (.agg #[.int .i64 0,.int .i64 0,.slice none 0 0,.int .i64 0,.int .i64 0,.slice none 0 0,.slice none 0 0,.int .i64 0,.slice none 0 0,.slice none 0 0,.slice none 0 0,.slice none 0 0,.int .i64 0,.slice none 0 0]) (by kernel_rfl) rfl ⟨_,Tryz.underlying88,rfl⟩ rfl rfl false (fun h=>by cases h)
theorem Yon:TyOk Tryz.prog 89 ⟨.struct [(0,3),(1,3),(2,23),(3,30)],14,240,[.int .i64 0,.int .i64 0,.slice none 0 0,.int .i64 0,.int .i64 0,.slice none 0 0,.slice none 0 0,.int .i64 0,.slice none 0 0,.slice none 0 0,.slice none 0 0,.slice none 0 0,.int .i64 0,.slice none 0 0],false⟩:=TyOk.of (P:=Tryz.prog) (t:=89) (.struct [(0,3),(1,3),(2,23),(3,30)]) 14 240 [.int .i64 0,.int .i64 0,.slice none 0 0,.int .i64 0,.int .i64 0,.slice none 0 0,.slice none 0 0,.int .i64 0,.slice none 0 0,.slice none 0 0,.slice none 0 0,.slice none 0 0,.int .i64 0,.slice none 0 0] (.agg #[.int .i64 0,.int .i64 0,.slice none 0 0,.int .i64 0,.int .i64 0,.slice none 0 0,.slice none 0 0,.int .i64 0,.slice none 0 0,.slice none 0 0,.slice none 0 0,.slice none 0 0,.int .i64 0,.slice none 0 0]) (by kernel_rfl) rfl ⟨_,Tryz.underlying89,rfl⟩ rfl rfl false (fun h=>by cases h)
theorem Yj1:TyOk Tryz.prog 106 ⟨.struct [(0,3),(1,3),(2,3),(3,3),(4,3),(5,3),(6,77)],7,56,[.int .i64 0,.int .i64 0,.int .i64 0,.int .i64 0,.int .i64 0,.int .i64 0,.int .u64 0],false⟩:=TyOk.of (P:=Tryz.prog) (t:=106) (.struct [(0,3),(1,3),(2,3),(3,3),(4,3),(5,3),(6,77)]) 7 56 [.int .i64 0,.int .i64 0,.int .i64 0,.int .i64 0,.int .i64 0,.int .i64 0,.int .u64 0] (.agg #[.int .i64 0,.int .i64 0,.int .i64 0,.int .i64 0,.int .i64 0,.int .i64 0,.int .u64 0]) (by kernel_rfl) rfl ⟨_,Tryz.underlying106,rfl⟩ rfl rfl false (fun h=>by cases h)
theorem Yj2:TyOk Tryz.prog 107 ⟨.struct [(0,3),(1,3),(2,3),(3,3),(4,3),(5,3),(6,77)],7,56,[.int .i64 0,.int .i64 0,.int .i64 0,.int .i64 0,.int .i64 0,.int .i64 0,.int .u64 0],true⟩:=TyOk.of (P:=Tryz.prog) (t:=107) (.struct [(0,3),(1,3),(2,3),(3,3),(4,3),(5,3),(6,77)]) 7 56 [.int .i64 0,.int .i64 0,.int .i64 0,.int .i64 0,.int .i64 0,.int .i64 0,.int .u64 0] (.agg #[.int .i64 0,.int .i64 0,.int .i64 0,.int .i64 0,.int .i64 0,.int .i64 0,.int .u64 0]) (by kernel_rfl) rfl ⟨_,Tryz.underlying107,rfl⟩ rfl rfl true (fun _=>by unfold Zlc;exact ⟨by kernel_rfl,by kernel_rfl,by kernel_rfl⟩)
theorem Yj3:TyOk Tryz.prog 111 ⟨.struct [(0,3),(1,3)],2,16,[.int .i64 0,.int .i64 0],false⟩:=TyOk.of (P:=Tryz.prog) (t:=111) (.struct [(0,3),(1,3)]) 2 16 [.int .i64 0,.int .i64 0] (.agg #[.int .i64 0,.int .i64 0]) (by kernel_rfl) rfl ⟨_,Tryz.underlying111,rfl⟩ rfl rfl false (fun h=>by cases h)
theorem Yj4:TyOk Tryz.prog 112 ⟨.struct [(0,3),(1,3)],2,16,[.int .i64 0,.int .i64 0],true⟩:=TyOk.of (P:=Tryz.prog) (t:=112) (.struct [(0,3),(1,3)]) 2 16 [.int .i64 0,.int .i64 0] (.agg #[.int .i64 0,.int .i64 0]) (by kernel_rfl) rfl ⟨_,Tryz.underlying112,rfl⟩ rfl rfl true (fun _=>by unfold Zlc;exact ⟨by kernel_rfl,by kernel_rfl,by kernel_rfl⟩)
theorem Yj5:TyOk Tryz.prog 116 ⟨.ptr 120,1,8,[.pointer none],false⟩:=TyOk.of (P:=Tryz.prog) (t:=116) (.ptr 120) 1 8 [.pointer none] (.pointer none) (by kernel_rfl) rfl Tryz.underlying116 rfl rfl false (fun h=>by cases h)
theorem Yj6:TyOk Tryz.prog 117 ⟨.ptr 124,1,8,[.pointer none],false⟩:=TyOk.of (P:=Tryz.prog) (t:=117) (.ptr 124) 1 8 [.pointer none] (.pointer none) (by kernel_rfl) rfl Tryz.underlying117 rfl rfl false (fun h=>by cases h)
theorem Yj7:TyOk Tryz.prog 119 ⟨.struct [(0,117),(1,4)],2,16,[.pointer none,.bool false],false⟩:=TyOk.of (P:=Tryz.prog) (t:=119) (.struct [(0,117),(1,4)]) 2 16 [.pointer none,.bool false] (.agg #[.pointer none,.bool false]) (by kernel_rfl) rfl ⟨_,Tryz.underlying119,rfl⟩ rfl rfl false (fun h=>by cases h)
theorem Yj8:TyOk Tryz.prog 120 ⟨.struct [(0,117),(1,4)],2,16,[.pointer none,.bool false],false⟩:=TyOk.of (P:=Tryz.prog) (t:=120) (.struct [(0,117),(1,4)]) 2 16 [.pointer none,.bool false] (.agg #[.pointer none,.bool false]) (by kernel_rfl) rfl ⟨_,Tryz.underlying120,rfl⟩ rfl rfl false (fun h=>by cases h)
theorem Yj9:TyOk Tryz.prog 123 ⟨.struct [(0,53),(1,3),(2,3),(3,3)],4,48,[.slice none 0 0,.int .i64 0,.int .i64 0,.int .i64 0],false⟩:=TyOk.of (P:=Tryz.prog) (t:=123) (.struct [(0,53),(1,3),(2,3),(3,3)]) 4 48 [.slice none 0 0,.int .i64 0,.int .i64 0,.int .i64 0] (.agg #[.slice none 0 0,.int .i64 0,.int .i64 0,.int .i64 0]) (by kernel_rfl) rfl ⟨_,Tryz.underlying123,rfl⟩ rfl rfl false (fun h=>by cases h)
theorem Yka:TyOk Tryz.prog 124 ⟨.struct [(0,53),(1,3),(2,3),(3,3)],4,48,[.slice none 0 0,.int .i64 0,.int .i64 0,.int .i64 0],false⟩:=TyOk.of (P:=Tryz.prog) (t:=124) (.struct [(0,53),(1,3),(2,3),(3,3)]) 4 48 [.slice none 0 0,.int .i64 0,.int .i64 0,.int .i64 0] (.agg #[.slice none 0 0,.int .i64 0,.int .i64 0,.int .i64 0]) (by kernel_rfl) rfl ⟨_,Tryz.underlying124,rfl⟩ rfl rfl false (fun h=>by cases h)
theorem Ykb:TyOk Tryz.prog 125 ⟨.struct [(0,4),(1,3)],2,16,[.bool false,.int .i64 0],false⟩:=TyOk.of (P:=Tryz.prog) (t:=125) (.struct [(0,4),(1,3)]) 2 16 [.bool false,.int .i64 0] (.agg #[.bool false,.int .i64 0]) (by kernel_rfl) rfl ⟨_,Tryz.underlying125,rfl⟩ rfl rfl false (fun h=>by cases h)
theorem Ykc:TyOk Tryz.prog 126 ⟨.struct [(0,4),(1,3)],2,16,[.bool false,.int .i64 0],true⟩:=TyOk.of (P:=Tryz.prog) (t:=126) (.struct [(0,4),(1,3)]) 2 16 [.bool false,.int .i64 0] (.agg #[.bool false,.int .i64 0]) (by kernel_rfl) rfl ⟨_,Tryz.underlying126,rfl⟩ rfl rfl true (fun _=>by unfold Zlc;exact ⟨by kernel_rfl,by kernel_rfl,by kernel_rfl⟩)
theorem Ykd:TyOk Tryz.prog 139 ⟨.struct [(0,22),(1,3)],2,32,[.slice none 0 0,.int .i64 0],false⟩:=TyOk.of (P:=Tryz.prog) (t:=139) (.struct [(0,22),(1,3)]) 2 32 [.slice none 0 0,.int .i64 0] (.agg #[.slice none 0 0,.int .i64 0]) (by kernel_rfl) rfl ⟨_,Tryz.underlying139,rfl⟩ rfl rfl false (fun h=>by cases h)
theorem Yke:TyOk Tryz.prog 140 ⟨.struct [(0,22),(1,3)],2,32,[.slice none 0 0,.int .i64 0],false⟩:=TyOk.of (P:=Tryz.prog) (t:=140) (.struct [(0,22),(1,3)]) 2 32 [.slice none 0 0,.int .i64 0] (.agg #[.slice none 0 0,.int .i64 0]) (by kernel_rfl) rfl ⟨_,Tryz.underlying140,rfl⟩ rfl rfl false (fun h=>by cases h)
theorem Ykf:TyOk Tryz.prog 142 ⟨.struct [(0,3)],1,8,[.int .i64 0],false⟩:=TyOk.of (P:=Tryz.prog) (t:=142) (.struct [(0,3)]) 1 8 [.int .i64 0] (.agg #[.int .i64 0]) (by kernel_rfl) rfl ⟨_,Tryz.underlying142,rfl⟩ rfl rfl false (fun h=>by cases h)
theorem Ykg:TyOk Tryz.prog 143 ⟨.struct [(0,3)],1,8,[.int .i64 0],true⟩:=TyOk.of (P:=Tryz.prog) (t:=143) (.struct [(0,3)]) 1 8 [.int .i64 0] (.agg #[.int .i64 0]) (by kernel_rfl) rfl ⟨_,Tryz.underlying143,rfl⟩ rfl rfl true (fun _=>by unfold Zlc;exact ⟨by kernel_rfl,by kernel_rfl,by kernel_rfl⟩)
theorem Ykh:TyOk Tryz.prog 146 ⟨.struct [(0,53),(1,3),(2,3)],3,40,[.slice none 0 0,.int .i64 0,.int .i64 0],false⟩:=TyOk.of (P:=Tryz.prog) (t:=146) (.struct [(0,53),(1,3),(2,3)]) 3 40 [.slice none 0 0,.int .i64 0,.int .i64 0] (.agg #[.slice none 0 0,.int .i64 0,.int .i64 0]) (by kernel_rfl) rfl ⟨_,Tryz.underlying146,rfl⟩ rfl rfl false (fun h=>by cases h)
theorem Yki:TyOk Tryz.prog 147 ⟨.struct [(0,53),(1,3),(2,3)],3,40,[.slice none 0 0,.int .i64 0,.int .i64 0],false⟩:=TyOk.of (P:=Tryz.prog) (t:=147) (.struct [(0,53),(1,3),(2,3)]) 3 40 [.slice none 0 0,.int .i64 0,.int .i64 0] (.agg #[.slice none 0 0,.int .i64 0,.int .i64 0]) (by kernel_rfl) rfl ⟨_,Tryz.underlying147,rfl⟩ rfl rfl false (fun h=>by cases h)
theorem Ykj:TyOk Tryz.prog 154 ⟨.struct [(0,3),(1,3),(2,3),(3,3),(4,3),(5,3),(6,3),(7,4)],8,64,[.int .i64 0,.int .i64 0,.int .i64 0,.int .i64 0,.int .i64 0,.int .i64 0,.int .i64 0,.bool false],false⟩:=TyOk.of (P:=Tryz.prog) (t:=154) (.struct [(0,3),(1,3),(2,3),(3,3),(4,3),(5,3),(6,3),(7,4)]) 8 64 [.int .i64 0,.int .i64 0,.int .i64 0,.int .i64 0,.int .i64 0,.int .i64 0,.int .i64 0,.bool false] (.agg #[.int .i64 0,.int .i64 0,.int .i64 0,.int .i64 0,.int .i64 0,.int .i64 0,.int .i64 0,.bool false]) (by kernel_rfl) rfl ⟨_,Tryz.underlying154,rfl⟩ rfl rfl false (fun h=>by cases h)
theorem Ykk:TyOk Tryz.prog 155 ⟨.struct [(0,3),(1,3),(2,3),(3,3),(4,3),(5,3),(6,3),(7,4)],8,64,[.int .i64 0,.int .i64 0,.int .i64 0,.int .i64 0,.int .i64 0,.int .i64 0,.int .i64 0,.bool false],true⟩:=TyOk.of (P:=Tryz.prog) (t:=155) (.struct [(0,3),(1,3),(2,3),(3,3),(4,3),(5,3),(6,3),(7,4)]) 8 64 [.int .i64 0,.int .i64 0,.int .i64 0,.int .i64 0,.int .i64 0,.int .i64 0,.int .i64 0,.bool false] (.agg #[.int .i64 0,.int .i64 0,.int .i64 0,.int .i64 0,.int .i64 0,.int .i64 0,.int .i64 0,.bool false]) (by kernel_rfl) rfl ⟨_,Tryz.underlying155,rfl⟩ rfl rfl true (fun _=>by unfold Zlc;exact ⟨by kernel_rfl,by kernel_rfl,by kernel_rfl⟩)
theorem Ykl:TyOk Tryz.prog 156 ⟨.struct [(0,155),(8,3),(9,3)],10,80,[.int .i64 0,.int .i64 0,.int .i64 0,.int .i64 0,.int .i64 0,.int .i64 0,.int .i64 0,.bool false,.int .i64 0,.int .i64 0],false⟩:=TyOk.of (P:=Tryz.prog) (t:=156) (.struct [(0,155),(8,3),(9,3)]) 10 80 [.int .i64 0,.int .i64 0,.int .i64 0,.int .i64 0,.int .i64 0,.int .i64 0,.int .i64 0,.bool false,.int .i64 0,.int .i64 0] (.agg #[.int .i64 0,.int .i64 0,.int .i64 0,.int .i64 0,.int .i64 0,.int .i64 0,.int .i64 0,.bool false,.int .i64 0,.int .i64 0]) (by kernel_rfl) rfl ⟨_,Tryz.underlying156,rfl⟩ rfl rfl false (fun h=>by cases h)
theorem Ykm:TyOk Tryz.prog 157 ⟨.struct [(0,155),(8,3),(9,3)],10,80,[.int .i64 0,.int .i64 0,.int .i64 0,.int .i64 0,.int .i64 0,.int .i64 0,.int .i64 0,.bool false,.int .i64 0,.int .i64 0],true⟩:=TyOk.of (P:=Tryz.prog) (t:=157) (.struct [(0,155),(8,3),(9,3)]) 10 80 [.int .i64 0,.int .i64 0,.int .i64 0,.int .i64 0,.int .i64 0,.int .i64 0,.int .i64 0,.bool false,.int .i64 0,.int .i64 0] (.agg #[.int .i64 0,.int .i64 0,.int .i64 0,.int .i64 0,.int .i64 0,.int .i64 0,.int .i64 0,.bool false,.int .i64 0,.int .i64 0]) (by kernel_rfl) rfl ⟨_,Tryz.underlying157,rfl⟩ rfl rfl true (fun _=>by unfold Zlc;exact ⟨by kernel_rfl,by kernel_rfl,by kernel_rfl⟩)
theorem Ykn:TyOk Tryz.prog 164 ⟨.ptr 112,1,8,[.pointer none],false⟩:=TyOk.of (P:=Tryz.prog) (t:=164) (.ptr 112) 1 8 [.pointer none] (.pointer none) (by kernel_rfl) rfl Tryz.underlying164 rfl rfl false (fun h=>by cases h)
theorem Yko:TyOk Tryz.prog 185 ⟨.arr 8 5,8,8,[.int .u8 0,.int .u8 0,.int .u8 0,.int .u8 0,.int .u8 0,.int .u8 0,.int .u8 0,.int .u8 0],true⟩:=TyOk.of (P:=Tryz.prog) (t:=185) (.arr 8 5) 8 8 [.int .u8 0,.int .u8 0,.int .u8 0,.int .u8 0,.int .u8 0,.int .u8 0,.int .u8 0,.int .u8 0] (.agg #[.int .u8 0,.int .u8 0,.int .u8 0,.int .u8 0,.int .u8 0,.int .u8 0,.int .u8 0,.int .u8 0]) (by kernel_rfl) rfl Tryz.underlying185 rfl rfl true (fun _=>by unfold Zlc;exact ⟨by kernel_rfl,by kernel_rfl,by kernel_rfl⟩)
theorem Ykp:TyOk Tryz.prog 189 ⟨.slice 5,1,24,[.slice none 0 0],false⟩:=TyOk.of (P:=Tryz.prog) (t:=189) (.slice 5) 1 24 [.slice none 0 0] (.slice none 0 0) (by kernel_rfl) rfl Tryz.underlying189 rfl rfl false (fun h=>by cases h)
theorem Ykq:TyOk Tryz.prog 190 ⟨.ptr 140,1,8,[.pointer none],false⟩:=TyOk.of (P:=Tryz.prog) (t:=190) (.ptr 140) 1 8 [.pointer none] (.pointer none) (by kernel_rfl) rfl Tryz.underlying190 rfl rfl false (fun h=>by cases h)
theorem Ykr:TyOk Tryz.prog 191 ⟨.struct [(0,3),(1,3),(2,3),(3,3),(4,3),(5,3),(6,3),(7,4)],8,64,[.int .i64 0,.int .i64 0,.int .i64 0,.int .i64 0,.int .i64 0,.int .i64 0,.int .i64 0,.bool false],true⟩:=TyOk.of (P:=Tryz.prog) (t:=191) (.struct [(0,3),(1,3),(2,3),(3,3),(4,3),(5,3),(6,3),(7,4)]) 8 64 [.int .i64 0,.int .i64 0,.int .i64 0,.int .i64 0,.int .i64 0,.int .i64 0,.int .i64 0,.bool false] (.agg #[.int .i64 0,.int .i64 0,.int .i64 0,.int .i64 0,.int .i64 0,.int .i64 0,.int .i64 0,.bool false]) (by kernel_rfl) rfl ⟨_,Tryz.underlying191,rfl⟩ rfl rfl true (fun _=>by unfold Zlc;exact ⟨by kernel_rfl,by kernel_rfl,by kernel_rfl⟩)
theorem Yks:TyOk Tryz.prog 197 ⟨.ptr 143,1,8,[.pointer none],false⟩:=TyOk.of (P:=Tryz.prog) (t:=197) (.ptr 143) 1 8 [.pointer none] (.pointer none) (by kernel_rfl) rfl Tryz.underlying197 rfl rfl false (fun h=>by cases h)
theorem Ykt:TyOk Tryz.prog 199 ⟨.struct [(0,28),(1,3),(2,23),(3,23)],4,80,[.slice none 0 0,.int .i64 0,.slice none 0 0,.slice none 0 0],false⟩:=TyOk.of (P:=Tryz.prog) (t:=199) (.struct [(0,28),(1,3),(2,23),(3,23)]) 4 80 [.slice none 0 0,.int .i64 0,.slice none 0 0,.slice none 0 0] (.agg #[.slice none 0 0,.int .i64 0,.slice none 0 0,.slice none 0 0]) (by kernel_rfl) rfl ⟨_,Tryz.underlying199,rfl⟩ rfl rfl false (fun h=>by cases h)
theorem Yku:TyOk Tryz.prog 200 ⟨.struct [(0,28),(1,3),(2,23),(3,23)],4,80,[.slice none 0 0,.int .i64 0,.slice none 0 0,.slice none 0 0],false⟩:=TyOk.of (P:=Tryz.prog) (t:=200) (.struct [(0,28),(1,3),(2,23),(3,23)]) 4 80 [.slice none 0 0,.int .i64 0,.slice none 0 0,.slice none 0 0] (.agg #[.slice none 0 0,.int .i64 0,.slice none 0 0,.slice none 0 0]) (by kernel_rfl) rfl ⟨_,Tryz.underlying200,rfl⟩ rfl rfl false (fun h=>by cases h)
theorem Ykv:TyOk Tryz.prog 203 ⟨.ptr 23,1,8,[.pointer none],false⟩:=TyOk.of (P:=Tryz.prog) (t:=203) (.ptr 23) 1 8 [.pointer none] (.pointer none) (by kernel_rfl) rfl Tryz.underlying203 rfl rfl false (fun h=>by cases h)
theorem Ykw:TyOk Tryz.prog 207 ⟨.struct [(0,3),(1,3),(2,23),(3,23),(4,28)],5,88,[.int .i64 0,.int .i64 0,.slice none 0 0,.slice none 0 0,.slice none 0 0],false⟩:=TyOk.of (P:=Tryz.prog) (t:=207) (.struct [(0,3),(1,3),(2,23),(3,23),(4,28)]) 5 88 [.int .i64 0,.int .i64 0,.slice none 0 0,.slice none 0 0,.slice none 0 0] (.agg #[.int .i64 0,.int .i64 0,.slice none 0 0,.slice none 0 0,.slice none 0 0]) (by kernel_rfl) rfl ⟨_,Tryz.underlying207,rfl⟩ rfl rfl false (fun h=>by cases h)
theorem Ykx:TyOk Tryz.prog 208 ⟨.struct [(0,3),(1,3),(2,23),(3,23),(4,28)],5,88,[.int .i64 0,.int .i64 0,.slice none 0 0,.slice none 0 0,.slice none 0 0],false⟩:=TyOk.of (P:=Tryz.prog) (t:=208) (.struct [(0,3),(1,3),(2,23),(3,23),(4,28)]) 5 88 [.int .i64 0,.int .i64 0,.slice none 0 0,.slice none 0 0,.slice none 0 0] (.agg #[.int .i64 0,.int .i64 0,.slice none 0 0,.slice none 0 0,.slice none 0 0]) (by kernel_rfl) rfl ⟨_,Tryz.underlying208,rfl⟩ rfl rfl false (fun h=>by cases h)
theorem Yky:TyOk Tryz.prog 209 ⟨.slice 212,1,24,[.slice none 0 0],false⟩:=TyOk.of (P:=Tryz.prog) (t:=209) (.slice 212) 1 24 [.slice none 0 0] (.slice none 0 0) (by kernel_rfl) rfl Tryz.underlying209 rfl rfl false (fun h=>by cases h)
theorem Ykz:TyOk Tryz.prog 211 ⟨.struct [(0,3),(1,3)],2,16,[.int .i64 0,.int .i64 0],false⟩:=TyOk.of (P:=Tryz.prog) (t:=211) (.struct [(0,3),(1,3)]) 2 16 [.int .i64 0,.int .i64 0] (.agg #[.int .i64 0,.int .i64 0]) (by kernel_rfl) rfl ⟨_,Tryz.underlying211,rfl⟩ rfl rfl false (fun h=>by cases h)
theorem Yk0:TyOk Tryz.prog 212 ⟨.struct [(0,3),(1,3)],2,16,[.int .i64 0,.int .i64 0],true⟩:=TyOk.of (P:=Tryz.prog) (t:=212) (.struct [(0,3),(1,3)]) 2 16 [.int .i64 0,.int .i64 0] (.agg #[.int .i64 0,.int .i64 0]) (by kernel_rfl) rfl ⟨_,Tryz.underlying212,rfl⟩ rfl rfl true (fun _=>by unfold Zlc;exact ⟨by kernel_rfl,by kernel_rfl,by kernel_rfl⟩)
theorem Yk1:TyOk Tryz.prog 219 ⟨.struct [(0,3)],1,8,[.int .i64 0],false⟩:=TyOk.of (P:=Tryz.prog) (t:=219) (.struct [(0,3)]) 1 8 [.int .i64 0] (.agg #[.int .i64 0]) (by kernel_rfl) rfl ⟨_,Tryz.underlying219,rfl⟩ rfl rfl false (fun h=>by cases h)
theorem Yk2:TyOk Tryz.prog 220 ⟨.struct [(0,3)],1,8,[.int .i64 0],true⟩:=TyOk.of (P:=Tryz.prog) (t:=220) (.struct [(0,3)]) 1 8 [.int .i64 0] (.agg #[.int .i64 0]) (by kernel_rfl) rfl ⟨_,Tryz.underlying220,rfl⟩ rfl rfl true (fun _=>by unfold Zlc;exact ⟨by kernel_rfl,by kernel_rfl,by kernel_rfl⟩)
theorem Yk3:TyOk Tryz.prog 224 ⟨.struct [(0,62),(9,62),(18,3),(19,3),(20,3),(21,3),(22,3),(23,28)],24,208,[.pointer none,.int .i64 0,.int .i64 0,.int .i64 0,.int .i64 0,.int .i64 0,.int .i64 0,.int .i64 0,.int .i64 0,.pointer none,.int .i64 0,.int .i64 0,.int .i64 0,.int .i64 0,.int .i64 0,.int .i64 0,.int .i64 0,.int .i64 0,.int .i64 0,.int .i64 0,.int .i64 0,.int .i64 0,.int .i64 0,.slice none 0 0],false⟩:=TyOk.of (P:=Tryz.prog) (t:=224) (.struct [(0,62),(9,62),(18,3),(19,3),(20,3),(21,3),(22,3),(23,28)]) 24 208 [.pointer none,.int .i64 0,.int .i64 0,.int .i64 0,.int .i64 0,.int .i64 0,.int .i64 0,.int .i64 0,.int .i64 0,.pointer none,.int .i64 0,.int .i64 0,.int .i64 0,.int .i64 0,.int .i64 0,.int .i64 0,.int .i64 0,.int .i64 0,.int .i64 0,.int .i64 0,.int .i64 0,.int .i64 0,.int .i64 0,.slice none 0 0] (.agg #[.pointer none,.int .i64 0,.int .i64 0,.int .i64 0,.int .i64 0,.int .i64 0,.int .i64 0,.int .i64 0,.int .i64 0,.pointer none,.int .i64 0,.int .i64 0,.int .i64 0,.int .i64 0,.int .i64 0,.int .i64 0,.int .i64 0,.int .i64 0,.int .i64 0,.int .i64 0,.int .i64 0,.int .i64 0,.int .i64 0,.slice none 0 0]) (by kernel_rfl) rfl ⟨_,Tryz.underlying224,rfl⟩ rfl rfl false (fun h=>by cases h)
theorem Yk4:TyOk Tryz.prog 225 ⟨.struct [(0,62),(9,62),(18,3),(19,3),(20,3),(21,3),(22,3),(23,28)],24,208,[.pointer none,.int .i64 0,.int .i64 0,.int .i64 0,.int .i64 0,.int .i64 0,.int .i64 0,.int .i64 0,.int .i64 0,.pointer none,.int .i64 0,.int .i64 0,.int .i64 0,.int .i64 0,.int .i64 0,.int .i64 0,.int .i64 0,.int .i64 0,.int .i64 0,.int .i64 0,.int .i64 0,.int .i64 0,.int .i64 0,.slice none 0 0],false⟩:=TyOk.of (P:=Tryz.prog) (t:=225) (.struct [(0,62),(9,62),(18,3),(19,3),(20,3),(21,3),(22,3),(23,28)]) 24 208 [.pointer none,.int .i64 0,.int .i64 0,.int .i64 0,.int .i64 0,.int .i64 0,.int .i64 0,.int .i64 0,.int .i64 0,.pointer none,.int .i64 0,.int .i64 0,.int .i64 0,.int .i64 0,.int .i64 0,.int .i64 0,.int .i64 0,.int .i64 0,.int .i64 0,.int .i64 0,.int .i64 0,.int .i64 0,.int .i64 0,.slice none 0 0] (.agg #[.pointer none,.int .i64 0,.int .i64 0,.int .i64 0,.int .i64 0,.int .i64 0,.int .i64 0,.int .i64 0,.int .i64 0,.pointer none,.int .i64 0,.int .i64 0,.int .i64 0,.int .i64 0,.int .i64 0,.int .i64 0,.int .i64 0,.int .i64 0,.int .i64 0,.int .i64 0,.int .i64 0,.int .i64 0,.int .i64 0,.slice none 0 0]) (by kernel_rfl) rfl ⟨_,Tryz.underlying225,rfl⟩ rfl rfl false (fun h=>by cases h)
theorem Yk5:TyOk Tryz.prog 227 ⟨.struct [(0,191),(8,3),(9,3)],10,80,[.int .i64 0,.int .i64 0,.int .i64 0,.int .i64 0,.int .i64 0,.int .i64 0,.int .i64 0,.bool false,.int .i64 0,.int .i64 0],false⟩:=TyOk.of (P:=Tryz.prog) (t:=227) (.struct [(0,191),(8,3),(9,3)]) 10 80 [.int .i64 0,.int .i64 0,.int .i64 0,.int .i64 0,.int .i64 0,.int .i64 0,.int .i64 0,.bool false,.int .i64 0,.int .i64 0] (.agg #[.int .i64 0,.int .i64 0,.int .i64 0,.int .i64 0,.int .i64 0,.int .i64 0,.int .i64 0,.bool false,.int .i64 0,.int .i64 0]) (by kernel_rfl) rfl ⟨_,Tryz.underlying227,rfl⟩ rfl rfl false (fun h=>by cases h)
theorem Yk6:TyOk Tryz.prog 228 ⟨.struct [(0,191),(8,3),(9,3)],10,80,[.int .i64 0,.int .i64 0,.int .i64 0,.int .i64 0,.int .i64 0,.int .i64 0,.int .i64 0,.bool false,.int .i64 0,.int .i64 0],true⟩:=TyOk.of (P:=Tryz.prog) (t:=228) (.struct [(0,191),(8,3),(9,3)]) 10 80 [.int .i64 0,.int .i64 0,.int .i64 0,.int .i64 0,.int .i64 0,.int .i64 0,.int .i64 0,.bool false,.int .i64 0,.int .i64 0] (.agg #[.int .i64 0,.int .i64 0,.int .i64 0,.int .i64 0,.int .i64 0,.int .i64 0,.int .i64 0,.bool false,.int .i64 0,.int .i64 0]) (by kernel_rfl) rfl ⟨_,Tryz.underlying228,rfl⟩ rfl rfl true (fun _=>by unfold Zlc;exact ⟨by kernel_rfl,by kernel_rfl,by kernel_rfl⟩)
theorem Yk7:TyOk Tryz.prog 236 ⟨.slice 3,1,24,[.slice none 0 0],false⟩:=TyOk.of (P:=Tryz.prog) (t:=236) (.slice 3) 1 24 [.slice none 0 0] (.slice none 0 0) (by kernel_rfl) rfl Tryz.underlying236 rfl rfl false (fun h=>by cases h)
theorem Yk8:TyOk Tryz.prog 239 ⟨.slice 242,1,24,[.slice none 0 0],false⟩:=TyOk.of (P:=Tryz.prog) (t:=239) (.slice 242) 1 24 [.slice none 0 0] (.slice none 0 0) (by kernel_rfl) rfl Tryz.underlying239 rfl rfl false (fun h=>by cases h)
theorem Yk9:TyOk Tryz.prog 242 ⟨.struct [(0,3),(1,3)],2,16,[.int .i64 0,.int .i64 0],true⟩:=TyOk.of (P:=Tryz.prog) (t:=242) (.struct [(0,3),(1,3)]) 2 16 [.int .i64 0,.int .i64 0] (.agg #[.int .i64 0,.int .i64 0]) (by kernel_rfl) rfl ⟨_,Tryz.underlying242,rfl⟩ rfl rfl true (fun _=>by unfold Zlc;exact ⟨by kernel_rfl,by kernel_rfl,by kernel_rfl⟩)
theorem Yla:TyOk Tryz.prog 246 ⟨.struct [(0,3)],1,8,[.int .i64 0],false⟩:=TyOk.of (P:=Tryz.prog) (t:=246) (.struct [(0,3)]) 1 8 [.int .i64 0] (.agg #[.int .i64 0]) (by kernel_rfl) rfl ⟨_,Tryz.underlying246,rfl⟩ rfl rfl false (fun h=>by cases h)
theorem Ylb:TyOk Tryz.prog 247 ⟨.struct [(0,3)],1,8,[.int .i64 0],true⟩:=TyOk.of (P:=Tryz.prog) (t:=247) (.struct [(0,3)]) 1 8 [.int .i64 0] (.agg #[.int .i64 0]) (by kernel_rfl) rfl ⟨_,Tryz.underlying247,rfl⟩ rfl rfl true (fun _=>by unfold Zlc;exact ⟨by kernel_rfl,by kernel_rfl,by kernel_rfl⟩)
theorem Ylc:TyOk Tryz.prog 254 ⟨.struct [(0,62),(9,3),(10,23)],11,104,[.pointer none,.int .i64 0,.int .i64 0,.int .i64 0,.int .i64 0,.int .i64 0,.int .i64 0,.int .i64 0,.int .i64 0,.int .i64 0,.slice none 0 0],false⟩:=TyOk.of (P:=Tryz.prog) (t:=254) (.struct [(0,62),(9,3),(10,23)]) 11 104 [.pointer none,.int .i64 0,.int .i64 0,.int .i64 0,.int .i64 0,.int .i64 0,.int .i64 0,.int .i64 0,.int .i64 0,.int .i64 0,.slice none 0 0] (.agg #[.pointer none,.int .i64 0,.int .i64 0,.int .i64 0,.int .i64 0,.int .i64 0,.int .i64 0,.int .i64 0,.int .i64 0,.int .i64 0,.slice none 0 0]) (by kernel_rfl) rfl ⟨_,Tryz.underlying254,rfl⟩ rfl rfl false (fun h=>by cases h)
theorem Yld:TyOk Tryz.prog 255 ⟨.struct [(0,62),(9,3),(10,23)],11,104,[.pointer none,.int .i64 0,.int .i64 0,.int .i64 0,.int .i64 0,.int .i64 0,.int .i64 0,.int .i64 0,.int .i64 0,.int .i64 0,.slice none 0 0],false⟩:=TyOk.of (P:=Tryz.prog) (t:=255) (.struct [(0,62),(9,3),(10,23)]) 11 104 [.pointer none,.int .i64 0,.int .i64 0,.int .i64 0,.int .i64 0,.int .i64 0,.int .i64 0,.int .i64 0,.int .i64 0,.int .i64 0,.slice none 0 0] (.agg #[.pointer none,.int .i64 0,.int .i64 0,.int .i64 0,.int .i64 0,.int .i64 0,.int .i64 0,.int .i64 0,.int .i64 0,.int .i64 0,.slice none 0 0]) (by kernel_rfl) rfl ⟨_,Tryz.underlying255,rfl⟩ rfl rfl false (fun h=>by cases h)
theorem Yle:TyOk Tryz.prog 257 ⟨.slice 126,1,24,[.slice none 0 0],false⟩:=TyOk.of (P:=Tryz.prog) (t:=257) (.slice 126) 1 24 [.slice none 0 0] (.slice none 0 0) (by kernel_rfl) rfl Tryz.underlying257 rfl rfl false (fun h=>by cases h)
theorem Ylf:TyOk Tryz.prog 267 ⟨.ptr 200,1,8,[.pointer none],false⟩:=TyOk.of (P:=Tryz.prog) (t:=267) (.ptr 200) 1 8 [.pointer none] (.pointer none) (by kernel_rfl) rfl Tryz.underlying267 rfl rfl false (fun h=>by cases h)
theorem Ylg:TyOk Tryz.prog 275 ⟨.ptr 208,1,8,[.pointer none],false⟩:=TyOk.of (P:=Tryz.prog) (t:=275) (.ptr 208) 1 8 [.pointer none] (.pointer none) (by kernel_rfl) rfl Tryz.underlying275 rfl rfl false (fun h=>by cases h)
theorem Ylh:TyOk Tryz.prog 278 ⟨.ptr 220,1,8,[.pointer none],false⟩:=TyOk.of (P:=Tryz.prog) (t:=278) (.ptr 220) 1 8 [.pointer none] (.pointer none) (by kernel_rfl) rfl Tryz.underlying278 rfl rfl false (fun h=>by cases h)
theorem Yli:TyOk Tryz.prog 284 ⟨.ptr 330,1,8,[.pointer none],false⟩:=TyOk.of (P:=Tryz.prog) (t:=284) (.ptr 330) 1 8 [.pointer none] (.pointer none) (by kernel_rfl) rfl Tryz.underlying284 rfl rfl false (fun h=>by cases h)
theorem Ylj:TyOk Tryz.prog 288 ⟨.ptr 225,1,8,[.pointer none],false⟩:=TyOk.of (P:=Tryz.prog) (t:=288) (.ptr 225) 1 8 [.pointer none] (.pointer none) (by kernel_rfl) rfl Tryz.underlying288 rfl rfl false (fun h=>by cases h)
theorem Ylk:TyOk Tryz.prog 295 ⟨.slice 236,1,24,[.slice none 0 0],false⟩:=TyOk.of (P:=Tryz.prog) (t:=295) (.slice 236) 1 24 [.slice none 0 0] (.slice none 0 0) (by kernel_rfl) rfl Tryz.underlying295 rfl rfl false (fun h=>by cases h)
theorem Yll:TyOk Tryz.prog 297 ⟨.slice 300,1,24,[.slice none 0 0],false⟩:=TyOk.of (P:=Tryz.prog) (t:=297) (.slice 300) 1 24 [.slice none 0 0] (.slice none 0 0) (by kernel_rfl) rfl Tryz.underlying297 rfl rfl false (fun h=>by cases h)
theorem Ylm:TyOk Tryz.prog 299 ⟨.struct [(0,3),(1,3)],2,16,[.int .i64 0,.int .i64 0],false⟩:=TyOk.of (P:=Tryz.prog) (t:=299) (.struct [(0,3),(1,3)]) 2 16 [.int .i64 0,.int .i64 0] (.agg #[.int .i64 0,.int .i64 0]) (by kernel_rfl) rfl ⟨_,Tryz.underlying299,rfl⟩ rfl rfl false (fun h=>by cases h)
theorem Yln:TyOk Tryz.prog 300 ⟨.struct [(0,3),(1,3)],2,16,[.int .i64 0,.int .i64 0],true⟩:=TyOk.of (P:=Tryz.prog) (t:=300) (.struct [(0,3),(1,3)]) 2 16 [.int .i64 0,.int .i64 0] (.agg #[.int .i64 0,.int .i64 0]) (by kernel_rfl) rfl ⟨_,Tryz.underlying300,rfl⟩ rfl rfl true (fun _=>by unfold Zlc;exact ⟨by kernel_rfl,by kernel_rfl,by kernel_rfl⟩)
theorem Ylo:TyOk Tryz.prog 301 ⟨.ptr 247,1,8,[.pointer none],false⟩:=TyOk.of (P:=Tryz.prog) (t:=301) (.ptr 247) 1 8 [.pointer none] (.pointer none) (by kernel_rfl) rfl Tryz.underlying301 rfl rfl false (fun h=>by cases h)
theorem Ylp:TyOk Tryz.prog 304 ⟨.ptr 255,1,8,[.pointer none],false⟩:=TyOk.of (P:=Tryz.prog) (t:=304) (.ptr 255) 1 8 [.pointer none] (.pointer none) (by kernel_rfl) rfl Tryz.underlying304 rfl rfl false (fun h=>by cases h)
theorem Ylq:TyOk Tryz.prog 309 ⟨.arr 7 3,7,56,[.int .i64 0,.int .i64 0,.int .i64 0,.int .i64 0,.int .i64 0,.int .i64 0,.int .i64 0],true⟩:=TyOk.of (P:=Tryz.prog) (t:=309) (.arr 7 3) 7 56 [.int .i64 0,.int .i64 0,.int .i64 0,.int .i64 0,.int .i64 0,.int .i64 0,.int .i64 0] (.agg #[.int .i64 0,.int .i64 0,.int .i64 0,.int .i64 0,.int .i64 0,.int .i64 0,.int .i64 0]) (by kernel_rfl) rfl Tryz.underlying309 rfl rfl true (fun _=>by unfold Zlc;exact ⟨by kernel_rfl,by kernel_rfl,by kernel_rfl⟩)
theorem Ylr:TyOk Tryz.prog 310 ⟨.int .u32,1,4,[.int .u32 0],false⟩:=TyOk.of (P:=Tryz.prog) (t:=310) (.int .u32) 1 4 [.int .u32 0] (.int .u32 0) (by kernel_rfl) rfl Tryz.underlying310 rfl rfl false (fun h=>by cases h)
theorem Yls:TyOk Tryz.prog 312 ⟨.ptr 349,1,8,[.pointer none],false⟩:=TyOk.of (P:=Tryz.prog) (t:=312) (.ptr 349) 1 8 [.pointer none] (.pointer none) (by kernel_rfl) rfl Tryz.underlying312 rfl rfl false (fun h=>by cases h)
theorem Ylt:TyOk Tryz.prog 314 ⟨.slice 317,1,24,[.slice none 0 0],false⟩:=TyOk.of (P:=Tryz.prog) (t:=314) (.slice 317) 1 24 [.slice none 0 0] (.slice none 0 0) (by kernel_rfl) rfl Tryz.underlying314 rfl rfl false (fun h=>by cases h)
theorem Ylu:TyOk Tryz.prog 316 ⟨.struct [(0,3),(1,3)],2,16,[.int .i64 0,.int .i64 0],false⟩:=TyOk.of (P:=Tryz.prog) (t:=316) (.struct [(0,3),(1,3)]) 2 16 [.int .i64 0,.int .i64 0] (.agg #[.int .i64 0,.int .i64 0]) (by kernel_rfl) rfl ⟨_,Tryz.underlying316,rfl⟩ rfl rfl false (fun h=>by cases h)
theorem Ylv:TyOk Tryz.prog 317 ⟨.struct [(0,3),(1,3)],2,16,[.int .i64 0,.int .i64 0],true⟩:=TyOk.of (P:=Tryz.prog) (t:=317) (.struct [(0,3),(1,3)]) 2 16 [.int .i64 0,.int .i64 0] (.agg #[.int .i64 0,.int .i64 0]) (by kernel_rfl) rfl ⟨_,Tryz.underlying317,rfl⟩ rfl rfl true (fun _=>by unfold Zlc;exact ⟨by kernel_rfl,by kernel_rfl,by kernel_rfl⟩)
theorem Ylw:TyOk Tryz.prog 319 ⟨.ptr 270,1,8,[.pointer none],false⟩:=TyOk.of (P:=Tryz.prog) (t:=319) (.ptr 270) 1 8 [.pointer none] (.pointer none) (by kernel_rfl) rfl Tryz.underlying319 rfl rfl false (fun h=>by cases h)
theorem Ylx:TyOk Tryz.prog 321 ⟨.arr 3 3,3,24,[.int .i64 0,.int .i64 0,.int .i64 0],true⟩:=TyOk.of (P:=Tryz.prog) (t:=321) (.arr 3 3) 3 24 [.int .i64 0,.int .i64 0,.int .i64 0] (.agg #[.int .i64 0,.int .i64 0,.int .i64 0]) (by kernel_rfl) rfl Tryz.underlying321 rfl rfl true (fun _=>by unfold Zlc;exact ⟨by kernel_rfl,by kernel_rfl,by kernel_rfl⟩)
theorem Yly:TyOk Tryz.prog 323 ⟨.slice 325,1,24,[.slice none 0 0],false⟩:=TyOk.of (P:=Tryz.prog) (t:=323) (.slice 325) 1 24 [.slice none 0 0] (.slice none 0 0) (by kernel_rfl) rfl Tryz.underlying323 rfl rfl false (fun h=>by cases h)
theorem Ylz:TyOk Tryz.prog 325 ⟨.struct [(0,3),(1,3)],2,16,[.int .i64 0,.int .i64 0],true⟩:=TyOk.of (P:=Tryz.prog) (t:=325) (.struct [(0,3),(1,3)]) 2 16 [.int .i64 0,.int .i64 0] (.agg #[.int .i64 0,.int .i64 0]) (by kernel_rfl) rfl ⟨_,Tryz.underlying325,rfl⟩ rfl rfl true (fun _=>by unfold Zlc;exact ⟨by kernel_rfl,by kernel_rfl,by kernel_rfl⟩)
theorem Yl0:TyOk Tryz.prog 328 ⟨.slice 334,1,24,[.slice none 0 0],false⟩:=TyOk.of (P:=Tryz.prog) (t:=328) (.slice 334) 1 24 [.slice none 0 0] (.slice none 0 0) (by kernel_rfl) rfl Tryz.underlying328 rfl rfl false (fun h=>by cases h)
theorem Yl1:TyOk Tryz.prog 329 ⟨.struct [(0,328),(1,236)],2,48,[.slice none 0 0,.slice none 0 0],false⟩:=TyOk.of (P:=Tryz.prog) (t:=329) (.struct [(0,328),(1,236)]) 2 48 [.slice none 0 0,.slice none 0 0] (.agg #[.slice none 0 0,.slice none 0 0]) (by kernel_rfl) rfl ⟨_,Tryz.underlying329,rfl⟩ rfl rfl false (fun h=>by cases h)
theorem Yl2:TyOk Tryz.prog 330 ⟨.struct [(0,328),(1,236)],2,48,[.slice none 0 0,.slice none 0 0],false⟩:=TyOk.of (P:=Tryz.prog) (t:=330) (.struct [(0,328),(1,236)]) 2 48 [.slice none 0 0,.slice none 0 0] (.agg #[.slice none 0 0,.slice none 0 0]) (by kernel_rfl) rfl ⟨_,Tryz.underlying330,rfl⟩ rfl rfl false (fun h=>by cases h)
theorem Yl3:TyOk Tryz.prog 333 ⟨.struct [(0,77),(1,62)],10,80,[.int .u64 0,.pointer none,.int .i64 0,.int .i64 0,.int .i64 0,.int .i64 0,.int .i64 0,.int .i64 0,.int .i64 0,.int .i64 0],false⟩:=TyOk.of (P:=Tryz.prog) (t:=333) (.struct [(0,77),(1,62)]) 10 80 [.int .u64 0,.pointer none,.int .i64 0,.int .i64 0,.int .i64 0,.int .i64 0,.int .i64 0,.int .i64 0,.int .i64 0,.int .i64 0] (.agg #[.int .u64 0,.pointer none,.int .i64 0,.int .i64 0,.int .i64 0,.int .i64 0,.int .i64 0,.int .i64 0,.int .i64 0,.int .i64 0]) (by kernel_rfl) rfl ⟨_,Tryz.underlying333,rfl⟩ rfl rfl false (fun h=>by cases h)
theorem Yl4:TyOk Tryz.prog 334 ⟨.struct [(0,77),(1,62)],10,80,[.int .u64 0,.pointer none,.int .i64 0,.int .i64 0,.int .i64 0,.int .i64 0,.int .i64 0,.int .i64 0,.int .i64 0,.int .i64 0],false⟩:=TyOk.of (P:=Tryz.prog) (t:=334) (.struct [(0,77),(1,62)]) 10 80 [.int .u64 0,.pointer none,.int .i64 0,.int .i64 0,.int .i64 0,.int .i64 0,.int .i64 0,.int .i64 0,.int .i64 0,.int .i64 0] (.agg #[.int .u64 0,.pointer none,.int .i64 0,.int .i64 0,.int .i64 0,.int .i64 0,.int .i64 0,.int .i64 0,.int .i64 0,.int .i64 0]) (by kernel_rfl) rfl ⟨_,Tryz.underlying334,rfl⟩ rfl rfl false (fun h=>by cases h)
theorem Yl5:TyOk Tryz.prog 346 ⟨.arr 6 3,6,48,[.int .i64 0,.int .i64 0,.int .i64 0,.int .i64 0,.int .i64 0,.int .i64 0],true⟩:=TyOk.of (P:=Tryz.prog) (t:=346) (.arr 6 3) 6 48 [.int .i64 0,.int .i64 0,.int .i64 0,.int .i64 0,.int .i64 0,.int .i64 0] (.agg #[.int .i64 0,.int .i64 0,.int .i64 0,.int .i64 0,.int .i64 0,.int .i64 0]) (by kernel_rfl) rfl Tryz.underlying346 rfl rfl true (fun _=>by unfold Zlc;exact ⟨by kernel_rfl,by kernel_rfl,by kernel_rfl⟩)
theorem Yl6:TyOk Tryz.prog 348 ⟨.struct [(0,236),(1,236),(2,3),(3,295),(4,295),(5,3)],6,112,[.slice none 0 0,.slice none 0 0,.int .i64 0,.slice none 0 0,.slice none 0 0,.int .i64 0],false⟩:=TyOk.of (P:=Tryz.prog) (t:=348) (.struct [(0,236),(1,236),(2,3),(3,295),(4,295),(5,3)]) 6 112 [.slice none 0 0,.slice none 0 0,.int .i64 0,.slice none 0 0,.slice none 0 0,.int .i64 0] (.agg #[.slice none 0 0,.slice none 0 0,.int .i64 0,.slice none 0 0,.slice none 0 0,.int .i64 0]) (by kernel_rfl) rfl ⟨_,Tryz.underlying348,rfl⟩ rfl rfl false (fun h=>by cases h)
theorem Yl7:TyOk Tryz.prog 349 ⟨.struct [(0,236),(1,236),(2,3),(3,295),(4,295),(5,3)],6,112,[.slice none 0 0,.slice none 0 0,.int .i64 0,.slice none 0 0,.slice none 0 0,.int .i64 0],false⟩:=TyOk.of (P:=Tryz.prog) (t:=349) (.struct [(0,236),(1,236),(2,3),(3,295),(4,295),(5,3)]) 6 112 [.slice none 0 0,.slice none 0 0,.int .i64 0,.slice none 0 0,.slice none 0 0,.int .i64 0] (.agg #[.slice none 0 0,.slice none 0 0,.int .i64 0,.slice none 0 0,.slice none 0 0,.int .i64 0]) (by kernel_rfl) rfl ⟨_,Tryz.underlying349,rfl⟩ rfl rfl false (fun h=>by cases h)
theorem Yl8:TyOk Tryz.prog 352 ⟨.struct [(0,77),(1,3)],2,16,[.int .u64 0,.int .i64 0],false⟩:=TyOk.of (P:=Tryz.prog) (t:=352) (.struct [(0,77),(1,3)]) 2 16 [.int .u64 0,.int .i64 0] (.agg #[.int .u64 0,.int .i64 0]) (by kernel_rfl) rfl ⟨_,Tryz.underlying352,rfl⟩ rfl rfl false (fun h=>by cases h)
theorem Yl9:TyOk Tryz.prog 353 ⟨.struct [(0,77),(1,3)],2,16,[.int .u64 0,.int .i64 0],true⟩:=TyOk.of (P:=Tryz.prog) (t:=353) (.struct [(0,77),(1,3)]) 2 16 [.int .u64 0,.int .i64 0] (.agg #[.int .u64 0,.int .i64 0]) (by kernel_rfl) rfl ⟨_,Tryz.underlying353,rfl⟩ rfl rfl true (fun _=>by unfold Zlc;exact ⟨by kernel_rfl,by kernel_rfl,by kernel_rfl⟩)
theorem Yma:TyOk Tryz.prog 358 ⟨.slice 364,1,24,[.slice none 0 0],false⟩:=TyOk.of (P:=Tryz.prog) (t:=358) (.slice 364) 1 24 [.slice none 0 0] (.slice none 0 0) (by kernel_rfl) rfl Tryz.underlying358 rfl rfl false (fun h=>by cases h)
theorem Ymb:TyOk Tryz.prog 359 ⟨.slice 364,1,24,[.slice none 0 0],false⟩:=TyOk.of (P:=Tryz.prog) (t:=359) (.slice 364) 1 24 [.slice none 0 0] (.slice none 0 0) (by kernel_rfl) rfl Tryz.underlying359 rfl rfl false (fun h=>by cases h)
theorem Ymc:TyOk Tryz.prog 362 ⟨.ptr 359,1,8,[.pointer none],false⟩:=TyOk.of (P:=Tryz.prog) (t:=362) (.ptr 359) 1 8 [.pointer none] (.pointer none) (by kernel_rfl) rfl Tryz.underlying362 rfl rfl false (fun h=>by cases h)
theorem Ymd:TyOk Tryz.prog 363 ⟨.struct [(0,325),(2,3)],3,24,[.int .i64 0,.int .i64 0,.int .i64 0],false⟩:=TyOk.of (P:=Tryz.prog) (t:=363) (.struct [(0,325),(2,3)]) 3 24 [.int .i64 0,.int .i64 0,.int .i64 0] (.agg #[.int .i64 0,.int .i64 0,.int .i64 0]) (by kernel_rfl) rfl ⟨_,Tryz.underlying363,rfl⟩ rfl rfl false (fun h=>by cases h)
theorem Yme:TyOk Tryz.prog 364 ⟨.struct [(0,325),(2,3)],3,24,[.int .i64 0,.int .i64 0,.int .i64 0],true⟩:=TyOk.of (P:=Tryz.prog) (t:=364) (.struct [(0,325),(2,3)]) 3 24 [.int .i64 0,.int .i64 0,.int .i64 0] (.agg #[.int .i64 0,.int .i64 0,.int .i64 0]) (by kernel_rfl) rfl ⟨_,Tryz.underlying364,rfl⟩ rfl rfl true (fun _=>by unfold Zlc;exact ⟨by kernel_rfl,by kernel_rfl,by kernel_rfl⟩)
theorem Ymf:TyOk Tryz.prog 370 ⟨.ptr 353,1,8,[.pointer none],false⟩:=TyOk.of (P:=Tryz.prog) (t:=370) (.ptr 353) 1 8 [.pointer none] (.pointer none) (by kernel_rfl) rfl Tryz.underlying370 rfl rfl false (fun h=>by cases h)
theorem Ymg:TyOk Tryz.prog 383 ⟨.int .i64,1,8,[.int .i64 0],false⟩:=TyOk.of (P:=Tryz.prog) (t:=383) (.int .i64) 1 8 [.int .i64 0] (.int .i64 0) (by kernel_rfl) rfl Tryz.underlying383 rfl rfl false (fun h=>by cases h)
theorem Ymh:TyOk Tryz.prog 390 ⟨.int .u64,1,8,[.int .u64 0],false⟩:=TyOk.of (P:=Tryz.prog) (t:=390) (.int .u64) 1 8 [.int .u64 0] (.int .u64 0) (by kernel_rfl) rfl Tryz.underlying390 rfl rfl false (fun h=>by cases h)
theorem Ymi:TyOk Tryz.prog 393 ⟨.ptr 3,1,8,[.pointer none],false⟩:=TyOk.of (P:=Tryz.prog) (t:=393) (.ptr 3) 1 8 [.pointer none] (.pointer none) (by kernel_rfl) rfl Tryz.underlying393 rfl rfl false (fun h=>by cases h)
theorem Ymj:TyOk Tryz.prog 395 ⟨.ptr 390,1,8,[.pointer none],false⟩:=TyOk.of (P:=Tryz.prog) (t:=395) (.ptr 390) 1 8 [.pointer none] (.pointer none) (by kernel_rfl) rfl Tryz.underlying395 rfl rfl false (fun h=>by cases h)
theorem Ymk:TyOk Tryz.prog 398 ⟨.struct [(0,17),(1,17),(2,17),(3,9)],4,40,[.pointer none,.pointer none,.pointer none,.string ByteArray.empty],false⟩:=TyOk.of (P:=Tryz.prog) (t:=398) (.struct [(0,17),(1,17),(2,17),(3,9)]) 4 40 [.pointer none,.pointer none,.pointer none,.string ByteArray.empty] (.agg #[.pointer none,.pointer none,.pointer none,.string ByteArray.empty]) (by kernel_rfl) rfl ⟨_,Tryz.underlying398,rfl⟩ rfl rfl false (fun h=>by cases h)
theorem Yml:TyOk Tryz.prog 399 ⟨.struct [(0,17),(1,17),(2,17),(3,9)],4,40,[.pointer none,.pointer none,.pointer none,.string ByteArray.empty],false⟩:=TyOk.of (P:=Tryz.prog) (t:=399) (.struct [(0,17),(1,17),(2,17),(3,9)]) 4 40 [.pointer none,.pointer none,.pointer none,.string ByteArray.empty] (.agg #[.pointer none,.pointer none,.pointer none,.string ByteArray.empty]) (by kernel_rfl) rfl ⟨_,Tryz.underlying399,rfl⟩ rfl rfl false (fun h=>by cases h)
theorem Ymm:TyOk Tryz.prog 403 ⟨.int .u8,1,1,[.int .u8 0],false⟩:=TyOk.of (P:=Tryz.prog) (t:=403) (.int .u8) 1 1 [.int .u8 0] (.int .u8 0) (by kernel_rfl) rfl Tryz.underlying403 rfl rfl false (fun h=>by cases h)
theorem Ymn:TyOk Tryz.prog 404 ⟨.int .u8,1,1,[.int .u8 0],false⟩:=TyOk.of (P:=Tryz.prog) (t:=404) (.int .u8) 1 1 [.int .u8 0] (.int .u8 0) (by kernel_rfl) rfl Tryz.underlying404 rfl rfl false (fun h=>by cases h)
theorem Ymo:TyOk Tryz.prog 406 ⟨.ptr 5,1,8,[.pointer none],false⟩:=TyOk.of (P:=Tryz.prog) (t:=406) (.ptr 5) 1 8 [.pointer none] (.pointer none) (by kernel_rfl) rfl Tryz.underlying406 rfl rfl false (fun h=>by cases h)
theorem Ymp:TyOk Tryz.prog 407 ⟨.int .i32,1,4,[.int .i32 0],false⟩:=TyOk.of (P:=Tryz.prog) (t:=407) (.int .i32) 1 4 [.int .i32 0] (.int .i32 0) (by kernel_rfl) rfl Tryz.underlying407 rfl rfl false (fun h=>by cases h)
theorem Ymq:TyOk Tryz.prog 408 ⟨.int .i32,1,4,[.int .i32 0],false⟩:=TyOk.of (P:=Tryz.prog) (t:=408) (.int .i32) 1 4 [.int .i32 0] (.int .i32 0) (by kernel_rfl) rfl Tryz.underlying408 rfl rfl false (fun h=>by cases h)
def tabL:List (Nat×TyI):=[(2,⟨.int .i64,1,8,[.int .i64 0],false⟩),
 (3,⟨.int .i64,1,8,[.int .i64 0],false⟩),
 (4,⟨.bool,1,1,[.bool false],false⟩),
 (5,⟨.int .u8,1,1,[.int .u8 0],false⟩),
 (6,⟨.int .u8,1,1,[.int .u8 0],false⟩),
 (7,⟨.struct [(0,2),(1,3),(2,4),(3,6)],4,24,[.int .i64 0,.int .i64 0,.bool false,.int .u8 0],false⟩),
 (8,⟨.struct [(0,2),(1,3),(2,4),(3,6)],4,24,[.int .i64 0,.int .i64 0,.bool false,.int .u8 0],false⟩),
 (9,⟨.str,1,16,[.string ByteArray.empty],false⟩),
 (10,⟨.str,1,16,[.string ByteArray.empty],false⟩),
 (11,⟨.str,1,16,[.string ByteArray.empty],false⟩),
 (12,⟨.int .u64,1,8,[.int .u64 0],false⟩),
 (13,⟨.struct [(0,9),(1,12)],2,24,[.string ByteArray.empty,.int .u64 0],false⟩),
 (14,⟨.struct [(0,9),(1,12)],2,24,[.string ByteArray.empty,.int .u64 0],false⟩),
 (15,⟨.ptr 399,1,8,[.pointer none],false⟩),
 (16,⟨.ptr 402,1,8,[.pointer none],false⟩),
 (17,⟨.ptr 410,1,8,[.pointer none],false⟩),
 (18,⟨.struct [(0,17)],1,8,[.pointer none],false⟩),
 (19,⟨.struct [(0,17)],1,8,[.pointer none],false⟩),
 (21,⟨.int .i32,1,4,[.int .i32 0],false⟩),
 (22,⟨.slice 77,1,24,[.slice none 0 0],false⟩),
 (23,⟨.slice 25,1,24,[.slice none 0 0],false⟩),
 (24,⟨.struct [(0,3),(1,22),(2,23)],3,56,[.int .i64 0,.slice none 0 0,.slice none 0 0],false⟩),
 (25,⟨.struct [(0,3),(1,22),(2,23)],3,56,[.int .i64 0,.slice none 0 0,.slice none 0 0],false⟩),
 (26,⟨.slice 84,1,24,[.slice none 0 0],false⟩),
 (27,⟨.slice 86,1,24,[.slice none 0 0],false⟩),
 (28,⟨.slice 89,1,24,[.slice none 0 0],false⟩),
 (29,⟨.struct [(0,3),(1,25),(4,25),(7,26),(8,27),(9,3),(10,28)],11,200,[.int .i64 0,.int .i64 0,.slice none 0 0,.slice none 0 0,.int .i64 0,.slice none 0 0,.slice none 0 0,.slice none 0 0,.slice none 0 0,.int .i64 0,.slice none 0 0],false⟩),
 (30,⟨.struct [(0,3),(1,25),(4,25),(7,26),(8,27),(9,3),(10,28)],11,200,[.int .i64 0,.int .i64 0,.slice none 0 0,.slice none 0 0,.int .i64 0,.slice none 0 0,.slice none 0 0,.slice none 0 0,.slice none 0 0,.int .i64 0,.slice none 0 0],false⟩),
 (44,⟨.int .i64,1,8,[.int .i64 0],false⟩),
 (53,⟨.slice 22,1,24,[.slice none 0 0],false⟩),
 (54,⟨.struct [(0,3),(1,3),(2,3),(3,3)],4,32,[.int .i64 0,.int .i64 0,.int .i64 0,.int .i64 0],false⟩),
 (55,⟨.struct [(0,3),(1,3),(2,3),(3,3)],4,32,[.int .i64 0,.int .i64 0,.int .i64 0,.int .i64 0],true⟩),
 (60,⟨.ptr 147,1,8,[.pointer none],false⟩),
 (61,⟨.struct [(0,60),(1,3),(2,3),(3,3),(4,3),(5,3),(6,3),(7,3),(8,3)],9,72,[.pointer none,.int .i64 0,.int .i64 0,.int .i64 0,.int .i64 0,.int .i64 0,.int .i64 0,.int .i64 0,.int .i64 0],false⟩),
 (62,⟨.struct [(0,60),(1,3),(2,3),(3,3),(4,3),(5,3),(6,3),(7,3),(8,3)],9,72,[.pointer none,.int .i64 0,.int .i64 0,.int .i64 0,.int .i64 0,.int .i64 0,.int .i64 0,.int .i64 0,.int .i64 0],false⟩),
 (77,⟨.int .u64,1,8,[.int .u64 0],false⟩),
 (81,⟨.int .u64,1,8,[.int .u64 0],false⟩),
 (83,⟨.struct [(0,3),(1,5),(2,77),(3,77)],4,32,[.int .i64 0,.int .u8 0,.int .u64 0,.int .u64 0],false⟩),
 (84,⟨.struct [(0,3),(1,5),(2,77),(3,77)],4,32,[.int .i64 0,.int .u8 0,.int .u64 0,.int .u64 0],true⟩),
 (85,⟨.struct [(0,3),(1,30)],12,208,[.int .i64 0,.int .i64 0,.int .i64 0,.slice none 0 0,.slice none 0 0,.int .i64 0,.slice none 0 0,.slice none 0 0,.slice none 0 0,.slice none 0 0,.int .i64 0,.slice none 0 0],false⟩),
 (86,⟨.struct [(0,3),(1,30)],12,208,[.int .i64 0,.int .i64 0,.int .i64 0,.slice none 0 0,.slice none 0 0,.int .i64 0,.slice none 0 0,.slice none 0 0,.slice none 0 0,.slice none 0 0,.int .i64 0,.slice none 0 0],false⟩),
 (88,⟨.struct [(0,3),(1,3),(2,23),(3,30)],14,240,[.int .i64 0,.int .i64 0,.slice none 0 0,.int .i64 0,.int .i64 0,.slice none 0 0,.slice none 0 0,.int .i64 0,.slice none 0 0,.slice none 0 0,.slice none 0 0,.slice none 0 0,.int .i64 0,.slice none 0 0],false⟩),
 (89,⟨.struct [(0,3),(1,3),(2,23),(3,30)],14,240,[.int .i64 0,.int .i64 0,.slice none 0 0,.int .i64 0,.int .i64 0,.slice none 0 0,.slice none 0 0,.int .i64 0,.slice none 0 0,.slice none 0 0,.slice none 0 0,.slice none 0 0,.int .i64 0,.slice none 0 0],false⟩),
 (106,⟨.struct [(0,3),(1,3),(2,3),(3,3),(4,3),(5,3),(6,77)],7,56,[.int .i64 0,.int .i64 0,.int .i64 0,.int .i64 0,.int .i64 0,.int .i64 0,.int .u64 0],false⟩),
 (107,⟨.struct [(0,3),(1,3),(2,3),(3,3),(4,3),(5,3),(6,77)],7,56,[.int .i64 0,.int .i64 0,.int .i64 0,.int .i64 0,.int .i64 0,.int .i64 0,.int .u64 0],true⟩),
 (111,⟨.struct [(0,3),(1,3)],2,16,[.int .i64 0,.int .i64 0],false⟩),
 (112,⟨.struct [(0,3),(1,3)],2,16,[.int .i64 0,.int .i64 0],true⟩),
 (116,⟨.ptr 120,1,8,[.pointer none],false⟩),
 (117,⟨.ptr 124,1,8,[.pointer none],false⟩),
 (119,⟨.struct [(0,117),(1,4)],2,16,[.pointer none,.bool false],false⟩),
 (120,⟨.struct [(0,117),(1,4)],2,16,[.pointer none,.bool false],false⟩),
 (123,⟨.struct [(0,53),(1,3),(2,3),(3,3)],4,48,[.slice none 0 0,.int .i64 0,.int .i64 0,.int .i64 0],false⟩),
 (124,⟨.struct [(0,53),(1,3),(2,3),(3,3)],4,48,[.slice none 0 0,.int .i64 0,.int .i64 0,.int .i64 0],false⟩),
 (125,⟨.struct [(0,4),(1,3)],2,16,[.bool false,.int .i64 0],false⟩),
 (126,⟨.struct [(0,4),(1,3)],2,16,[.bool false,.int .i64 0],true⟩),
 (139,⟨.struct [(0,22),(1,3)],2,32,[.slice none 0 0,.int .i64 0],false⟩),
 (140,⟨.struct [(0,22),(1,3)],2,32,[.slice none 0 0,.int .i64 0],false⟩),
 (142,⟨.struct [(0,3)],1,8,[.int .i64 0],false⟩),
 (143,⟨.struct [(0,3)],1,8,[.int .i64 0],true⟩),
 (146,⟨.struct [(0,53),(1,3),(2,3)],3,40,[.slice none 0 0,.int .i64 0,.int .i64 0],false⟩),
 (147,⟨.struct [(0,53),(1,3),(2,3)],3,40,[.slice none 0 0,.int .i64 0,.int .i64 0],false⟩),
 (154,⟨.struct [(0,3),(1,3),(2,3),(3,3),(4,3),(5,3),(6,3),(7,4)],8,64,[.int .i64 0,.int .i64 0,.int .i64 0,.int .i64 0,.int .i64 0,.int .i64 0,.int .i64 0,.bool false],false⟩),
 (155,⟨.struct [(0,3),(1,3),(2,3),(3,3),(4,3),(5,3),(6,3),(7,4)],8,64,[.int .i64 0,.int .i64 0,.int .i64 0,.int .i64 0,.int .i64 0,.int .i64 0,.int .i64 0,.bool false],true⟩),
 (156,⟨.struct [(0,155),(8,3),(9,3)],10,80,[.int .i64 0,.int .i64 0,.int .i64 0,.int .i64 0,.int .i64 0,.int .i64 0,.int .i64 0,.bool false,.int .i64 0,.int .i64 0],false⟩),
 (157,⟨.struct [(0,155),(8,3),(9,3)],10,80,[.int .i64 0,.int .i64 0,.int .i64 0,.int .i64 0,.int .i64 0,.int .i64 0,.int .i64 0,.bool false,.int .i64 0,.int .i64 0],true⟩),
 (164,⟨.ptr 112,1,8,[.pointer none],false⟩),
 (185,⟨.arr 8 5,8,8,[.int .u8 0,.int .u8 0,.int .u8 0,.int .u8 0,.int .u8 0,.int .u8 0,.int .u8 0,.int .u8 0],true⟩),
 (189,⟨.slice 5,1,24,[.slice none 0 0],false⟩),
 (190,⟨.ptr 140,1,8,[.pointer none],false⟩),
 (191,⟨.struct [(0,3),(1,3),(2,3),(3,3),(4,3),(5,3),(6,3),(7,4)],8,64,[.int .i64 0,.int .i64 0,.int .i64 0,.int .i64 0,.int .i64 0,.int .i64 0,.int .i64 0,.bool false],true⟩),
 (197,⟨.ptr 143,1,8,[.pointer none],false⟩),
 (199,⟨.struct [(0,28),(1,3),(2,23),(3,23)],4,80,[.slice none 0 0,.int .i64 0,.slice none 0 0,.slice none 0 0],false⟩),
 (200,⟨.struct [(0,28),(1,3),(2,23),(3,23)],4,80,[.slice none 0 0,.int .i64 0,.slice none 0 0,.slice none 0 0],false⟩),
 (203,⟨.ptr 23,1,8,[.pointer none],false⟩),
 (207,⟨.struct [(0,3),(1,3),(2,23),(3,23),(4,28)],5,88,[.int .i64 0,.int .i64 0,.slice none 0 0,.slice none 0 0,.slice none 0 0],false⟩),
 (208,⟨.struct [(0,3),(1,3),(2,23),(3,23),(4,28)],5,88,[.int .i64 0,.int .i64 0,.slice none 0 0,.slice none 0 0,.slice none 0 0],false⟩),
 (209,⟨.slice 212,1,24,[.slice none 0 0],false⟩),
 (211,⟨.struct [(0,3),(1,3)],2,16,[.int .i64 0,.int .i64 0],false⟩),
 (212,⟨.struct [(0,3),(1,3)],2,16,[.int .i64 0,.int .i64 0],true⟩),
 (219,⟨.struct [(0,3)],1,8,[.int .i64 0],false⟩),
 (220,⟨.struct [(0,3)],1,8,[.int .i64 0],true⟩),
 (224,⟨.struct [(0,62),(9,62),(18,3),(19,3),(20,3),(21,3),(22,3),(23,28)],24,208,[.pointer none,.int .i64 0,.int .i64 0,.int .i64 0,.int .i64 0,.int .i64 0,.int .i64 0,.int .i64 0,.int .i64 0,.pointer none,.int .i64 0,.int .i64 0,.int .i64 0,.int .i64 0,.int .i64 0,.int .i64 0,.int .i64 0,.int .i64 0,.int .i64 0,.int .i64 0,.int .i64 0,.int .i64 0,.int .i64 0,.slice none 0 0],false⟩),
 (225,⟨.struct [(0,62),(9,62),(18,3),(19,3),(20,3),(21,3),(22,3),(23,28)],24,208,[.pointer none,.int .i64 0,.int .i64 0,.int .i64 0,.int .i64 0,.int .i64 0,.int .i64 0,.int .i64 0,.int .i64 0,.pointer none,.int .i64 0,.int .i64 0,.int .i64 0,.int .i64 0,.int .i64 0,.int .i64 0,.int .i64 0,.int .i64 0,.int .i64 0,.int .i64 0,.int .i64 0,.int .i64 0,.int .i64 0,.slice none 0 0],false⟩),
 (227,⟨.struct [(0,191),(8,3),(9,3)],10,80,[.int .i64 0,.int .i64 0,.int .i64 0,.int .i64 0,.int .i64 0,.int .i64 0,.int .i64 0,.bool false,.int .i64 0,.int .i64 0],false⟩),
 (228,⟨.struct [(0,191),(8,3),(9,3)],10,80,[.int .i64 0,.int .i64 0,.int .i64 0,.int .i64 0,.int .i64 0,.int .i64 0,.int .i64 0,.bool false,.int .i64 0,.int .i64 0],true⟩),
 (236,⟨.slice 3,1,24,[.slice none 0 0],false⟩),
 (239,⟨.slice 242,1,24,[.slice none 0 0],false⟩),
 (242,⟨.struct [(0,3),(1,3)],2,16,[.int .i64 0,.int .i64 0],true⟩),
 (246,⟨.struct [(0,3)],1,8,[.int .i64 0],false⟩),
 (247,⟨.struct [(0,3)],1,8,[.int .i64 0],true⟩),
 (254,⟨.struct [(0,62),(9,3),(10,23)],11,104,[.pointer none,.int .i64 0,.int .i64 0,.int .i64 0,.int .i64 0,.int .i64 0,.int .i64 0,.int .i64 0,.int .i64 0,.int .i64 0,.slice none 0 0],false⟩),
 (255,⟨.struct [(0,62),(9,3),(10,23)],11,104,[.pointer none,.int .i64 0,.int .i64 0,.int .i64 0,.int .i64 0,.int .i64 0,.int .i64 0,.int .i64 0,.int .i64 0,.int .i64 0,.slice none 0 0],false⟩),
 (257,⟨.slice 126,1,24,[.slice none 0 0],false⟩),
 (267,⟨.ptr 200,1,8,[.pointer none],false⟩),
 (275,⟨.ptr 208,1,8,[.pointer none],false⟩),
 (278,⟨.ptr 220,1,8,[.pointer none],false⟩),
 (284,⟨.ptr 330,1,8,[.pointer none],false⟩),
 (288,⟨.ptr 225,1,8,[.pointer none],false⟩),
 (295,⟨.slice 236,1,24,[.slice none 0 0],false⟩),
 (297,⟨.slice 300,1,24,[.slice none 0 0],false⟩),
 (299,⟨.struct [(0,3),(1,3)],2,16,[.int .i64 0,.int .i64 0],false⟩),
 (300,⟨.struct [(0,3),(1,3)],2,16,[.int .i64 0,.int .i64 0],true⟩),
 (301,⟨.ptr 247,1,8,[.pointer none],false⟩),
 (304,⟨.ptr 255,1,8,[.pointer none],false⟩),
 (309,⟨.arr 7 3,7,56,[.int .i64 0,.int .i64 0,.int .i64 0,.int .i64 0,.int .i64 0,.int .i64 0,.int .i64 0],true⟩),
 (310,⟨.int .u32,1,4,[.int .u32 0],false⟩),
 (312,⟨.ptr 349,1,8,[.pointer none],false⟩),
 (314,⟨.slice 317,1,24,[.slice none 0 0],false⟩),
 (316,⟨.struct [(0,3),(1,3)],2,16,[.int .i64 0,.int .i64 0],false⟩),
 (317,⟨.struct [(0,3),(1,3)],2,16,[.int .i64 0,.int .i64 0],true⟩),
 (319,⟨.ptr 270,1,8,[.pointer none],false⟩),
 (321,⟨.arr 3 3,3,24,[.int .i64 0,.int .i64 0,.int .i64 0],true⟩),
 (323,⟨.slice 325,1,24,[.slice none 0 0],false⟩),
 (325,⟨.struct [(0,3),(1,3)],2,16,[.int .i64 0,.int .i64 0],true⟩),
 (328,⟨.slice 334,1,24,[.slice none 0 0],false⟩),
 (329,⟨.struct [(0,328),(1,236)],2,48,[.slice none 0 0,.slice none 0 0],false⟩),
 (330,⟨.struct [(0,328),(1,236)],2,48,[.slice none 0 0,.slice none 0 0],false⟩),
 (333,⟨.struct [(0,77),(1,62)],10,80,[.int .u64 0,.pointer none,.int .i64 0,.int .i64 0,.int .i64 0,.int .i64 0,.int .i64 0,.int .i64 0,.int .i64 0,.int .i64 0],false⟩),
 (334,⟨.struct [(0,77),(1,62)],10,80,[.int .u64 0,.pointer none,.int .i64 0,.int .i64 0,.int .i64 0,.int .i64 0,.int .i64 0,.int .i64 0,.int .i64 0,.int .i64 0],false⟩),
 (346,⟨.arr 6 3,6,48,[.int .i64 0,.int .i64 0,.int .i64 0,.int .i64 0,.int .i64 0,.int .i64 0],true⟩),
 (348,⟨.struct [(0,236),(1,236),(2,3),(3,295),(4,295),(5,3)],6,112,[.slice none 0 0,.slice none 0 0,.int .i64 0,.slice none 0 0,.slice none 0 0,.int .i64 0],false⟩),
 (349,⟨.struct [(0,236),(1,236),(2,3),(3,295),(4,295),(5,3)],6,112,[.slice none 0 0,.slice none 0 0,.int .i64 0,.slice none 0 0,.slice none 0 0,.int .i64 0],false⟩),
 (352,⟨.struct [(0,77),(1,3)],2,16,[.int .u64 0,.int .i64 0],false⟩),
 (353,⟨.struct [(0,77),(1,3)],2,16,[.int .u64 0,.int .i64 0],true⟩),
 (358,⟨.slice 364,1,24,[.slice none 0 0],false⟩),
 (359,⟨.slice 364,1,24,[.slice none 0 0],false⟩),
 (362,⟨.ptr 359,1,8,[.pointer none],false⟩),
 (363,⟨.struct [(0,325),(2,3)],3,24,[.int .i64 0,.int .i64 0,.int .i64 0],false⟩),
 (364,⟨.struct [(0,325),(2,3)],3,24,[.int .i64 0,.int .i64 0,.int .i64 0],true⟩),
 (370,⟨.ptr 353,1,8,[.pointer none],false⟩),
 (383,⟨.int .i64,1,8,[.int .i64 0],false⟩),
 (390,⟨.int .u64,1,8,[.int .u64 0],false⟩),
 (393,⟨.ptr 3,1,8,[.pointer none],false⟩),
 (395,⟨.ptr 390,1,8,[.pointer none],false⟩),
 (398,⟨.struct [(0,17),(1,17),(2,17),(3,9)],4,40,[.pointer none,.pointer none,.pointer none,.string ByteArray.empty],false⟩),
 (399,⟨.struct [(0,17),(1,17),(2,17),(3,9)],4,40,[.pointer none,.pointer none,.pointer none,.string ByteArray.empty],false⟩),
 (403,⟨.int .u8,1,1,[.int .u8 0],false⟩),
 (404,⟨.int .u8,1,1,[.int .u8 0],false⟩),
 (406,⟨.ptr 5,1,8,[.pointer none],false⟩),
 (407,⟨.int .i32,1,4,[.int .i32 0],false⟩),
 (408,⟨.int .i32,1,4,[.int .i32 0],false⟩)]
def Xy:Ue:=fun t=>tabL.lookup t
theorem Zs:Js Tryz.prog Xy:=fun t i h=>by
 have hm:=Z2z _ h
 unfold tabL at hm
 simp only [List.mem_cons,Prod.mk.injEq,List.not_mem_nil,or_false] at hm
 rcases hm with ⟨rfl,rfl⟩ | ⟨rfl,rfl⟩ | ⟨rfl,rfl⟩ | ⟨rfl,rfl⟩ | ⟨rfl,rfl⟩ | ⟨rfl,rfl⟩ | ⟨rfl,rfl⟩ | ⟨rfl,rfl⟩ | ⟨rfl,rfl⟩ | ⟨rfl,rfl⟩ | ⟨rfl,rfl⟩ | ⟨rfl,rfl⟩ | ⟨rfl,rfl⟩ | ⟨rfl,rfl⟩ | ⟨rfl,rfl⟩ | ⟨rfl,rfl⟩ | ⟨rfl,rfl⟩ | ⟨rfl,rfl⟩ | ⟨rfl,rfl⟩ | ⟨rfl,rfl⟩ | ⟨rfl,rfl⟩ | ⟨rfl,rfl⟩ | ⟨rfl,rfl⟩ | ⟨rfl,rfl⟩ | ⟨rfl,rfl⟩ | ⟨rfl,rfl⟩ | ⟨rfl,rfl⟩ | ⟨rfl,rfl⟩ | ⟨rfl,rfl⟩ | ⟨rfl,rfl⟩ | ⟨rfl,rfl⟩ | ⟨rfl,rfl⟩ | ⟨rfl,rfl⟩ | ⟨rfl,rfl⟩ | ⟨rfl,rfl⟩ | ⟨rfl,rfl⟩ | ⟨rfl,rfl⟩ | ⟨rfl,rfl⟩ | ⟨rfl,rfl⟩ | ⟨rfl,rfl⟩ | ⟨rfl,rfl⟩ | ⟨rfl,rfl⟩ | ⟨rfl,rfl⟩ | ⟨rfl,rfl⟩ | ⟨rfl,rfl⟩ | ⟨rfl,rfl⟩ | ⟨rfl,rfl⟩ | ⟨rfl,rfl⟩ | ⟨rfl,rfl⟩ | ⟨rfl,rfl⟩ | ⟨rfl,rfl⟩ | ⟨rfl,rfl⟩ | ⟨rfl,rfl⟩ | ⟨rfl,rfl⟩ | ⟨rfl,rfl⟩ | ⟨rfl,rfl⟩ | ⟨rfl,rfl⟩ | ⟨rfl,rfl⟩ | ⟨rfl,rfl⟩ | ⟨rfl,rfl⟩ | ⟨rfl,rfl⟩ | ⟨rfl,rfl⟩ | ⟨rfl,rfl⟩ | ⟨rfl,rfl⟩ | ⟨rfl,rfl⟩ | ⟨rfl,rfl⟩ | ⟨rfl,rfl⟩ | ⟨rfl,rfl⟩ | ⟨rfl,rfl⟩ | ⟨rfl,rfl⟩ | ⟨rfl,rfl⟩ | ⟨rfl,rfl⟩ | ⟨rfl,rfl⟩ | ⟨rfl,rfl⟩ | ⟨rfl,rfl⟩ | ⟨rfl,rfl⟩ | ⟨rfl,rfl⟩ | ⟨rfl,rfl⟩ | ⟨rfl,rfl⟩ | ⟨rfl,rfl⟩ | ⟨rfl,rfl⟩ | ⟨rfl,rfl⟩ | ⟨rfl,rfl⟩ | ⟨rfl,rfl⟩ | ⟨rfl,rfl⟩ | ⟨rfl,rfl⟩ | ⟨rfl,rfl⟩ | ⟨rfl,rfl⟩ | ⟨rfl,rfl⟩ | ⟨rfl,rfl⟩ | ⟨rfl,rfl⟩ | ⟨rfl,rfl⟩ | ⟨rfl,rfl⟩ | ⟨rfl,rfl⟩ | ⟨rfl,rfl⟩ | ⟨rfl,rfl⟩ | ⟨rfl,rfl⟩ | ⟨rfl,rfl⟩ | ⟨rfl,rfl⟩ | ⟨rfl,rfl⟩ | ⟨rfl,rfl⟩ | ⟨rfl,rfl⟩ | ⟨rfl,rfl⟩ | ⟨rfl,rfl⟩ | ⟨rfl,rfl⟩ | ⟨rfl,rfl⟩ | ⟨rfl,rfl⟩ | ⟨rfl,rfl⟩ | ⟨rfl,rfl⟩ | ⟨rfl,rfl⟩ | ⟨rfl,rfl⟩ | ⟨rfl,rfl⟩ | ⟨rfl,rfl⟩ | ⟨rfl,rfl⟩ | ⟨rfl,rfl⟩ | ⟨rfl,rfl⟩ | ⟨rfl,rfl⟩ | ⟨rfl,rfl⟩ | ⟨rfl,rfl⟩ | ⟨rfl,rfl⟩ | ⟨rfl,rfl⟩ | ⟨rfl,rfl⟩ | ⟨rfl,rfl⟩ | ⟨rfl,rfl⟩ | ⟨rfl,rfl⟩ | ⟨rfl,rfl⟩ | ⟨rfl,rfl⟩ | ⟨rfl,rfl⟩ | ⟨rfl,rfl⟩ | ⟨rfl,rfl⟩ | ⟨rfl,rfl⟩ | ⟨rfl,rfl⟩ | ⟨rfl,rfl⟩ | ⟨rfl,rfl⟩ | ⟨rfl,rfl⟩ | ⟨rfl,rfl⟩ | ⟨rfl,rfl⟩ | ⟨rfl,rfl⟩ | ⟨rfl,rfl⟩ | ⟨rfl,rfl⟩ | ⟨rfl,rfl⟩
 ·exact ty2
 ·exact ty3
 ·exact ty4
 ·exact ty5
 ·exact ty6
 ·exact ty7
 ·exact ty8
 ·exact ty9
 ·exact Ynp
 ·exact Ynq
 ·exact Ynr
 ·exact Yns
 ·exact Ynt
 ·exact Ynu
 ·exact Ynv
 ·exact Ynw
 ·exact Ynx
 ·exact Yny
 ·exact Ynz
 ·exact Yn0
 ·exact Yn1
 ·exact Yn2
 ·exact Yn3
 ·exact Yn4
 ·exact Yn5
 ·exact Yn6
 ·exact Yn7
 ·exact Yn8
 ·exact Yn9
 ·exact Yoa
 ·exact Yob
 ·exact Yoc
 ·exact Yod
 ·exact Yoe
 ·exact Yof
 ·exact Yog
 ·exact Yoh
 ·exact Yoi
 ·exact Yoj
 ·exact Yok
 ·exact Yol
 ·exact Yom
 ·exact Yon
 ·exact Yj1
 ·exact Yj2
 ·exact Yj3
 ·exact Yj4
 ·exact Yj5
 ·exact Yj6
 ·exact Yj7
 ·exact Yj8
 ·exact Yj9
 ·exact Yka
 ·exact Ykb
 ·exact Ykc
 ·exact Ykd
 ·exact Yke
 ·exact Ykf
 ·exact Ykg
 ·exact Ykh
 ·exact Yki
 ·exact Ykj
 ·exact Ykk
 ·exact Ykl
 ·exact Ykm
 ·exact Ykn
 ·exact Yko
 ·exact Ykp
 ·exact Ykq
 ·exact Ykr
 ·exact Yks
 ·exact Ykt
 ·exact Yku
 ·exact Ykv
 ·exact Ykw
 ·exact Ykx
 ·exact Yky
 ·exact Ykz
 ·exact Yk0
 ·exact Yk1
 ·exact Yk2
 ·exact Yk3
 ·exact Yk4
 ·exact Yk5
 ·exact Yk6
 ·exact Yk7
 ·exact Yk8
 ·exact Yk9
 ·exact Yla
 ·exact Ylb
 ·exact Ylc
 ·exact Yld
 ·exact Yle
 ·exact Ylf
 ·exact Ylg
 ·exact Ylh
 ·exact Yli
 ·exact Ylj
 ·exact Ylk
 ·exact Yll
 ·exact Ylm
 ·exact Yln
 ·exact Ylo
 ·exact Ylp
 ·exact Ylq
 ·exact Ylr
 ·exact Yls
 ·exact Ylt
 ·exact Ylu
 ·exact Ylv
 ·exact Ylw
 ·exact Ylx
 ·exact Yly
 ·exact Ylz
 ·exact Yl0
 ·exact Yl1
 ·exact Yl2
 ·exact Yl3
 ·exact Yl4
 ·exact Yl5
 ·exact Yl6
 ·exact Yl7
 ·exact Yl8
 ·exact Yl9
 ·exact Yma
 ·exact Ymb
 ·exact Ymc
 ·exact Ymd
 ·exact Yme
 ·exact Ymf
 ·exact Ymg
 ·exact Ymh
 ·exact Ymi
 ·exact Ymj
 ·exact Ymk
 ·exact Yml
 ·exact Ymm
 ·exact Ymn
 ·exact Ymo
 ·exact Ymp
 exact Ymq
theorem Yfy:Xy 2=some ⟨.int .i64,1,8,[.int .i64 0],false⟩:=rfl
theorem Z5f:Xy 3=some ⟨.int .i64,1,8,[.int .i64 0],false⟩:=rfl
theorem Yfz:Xy 4=some ⟨.bool,1,1,[.bool false],false⟩:=rfl
theorem Z6p:Xy 5=some ⟨.int .u8,1,1,[.int .u8 0],false⟩:=rfl
theorem Yf0:Xy 6=some ⟨.int .u8,1,1,[.int .u8 0],false⟩:=rfl
theorem Yf1:Xy 7=some ⟨.struct [(0,2),(1,3),(2,4),(3,6)],4,24,[.int .i64 0,.int .i64 0,.bool false,.int .u8 0],false⟩:=rfl
theorem Yf2:Xy 8=some ⟨.struct [(0,2),(1,3),(2,4),(3,6)],4,24,[.int .i64 0,.int .i64 0,.bool false,.int .u8 0],false⟩:=rfl
theorem Yf3:Xy 9=some ⟨.str,1,16,[.string ByteArray.empty],false⟩:=rfl
theorem Z95:Xy 10=some ⟨.str,1,16,[.string ByteArray.empty],false⟩:=rfl
theorem Z96:Xy 11=some ⟨.str,1,16,[.string ByteArray.empty],false⟩:=rfl
theorem Z97:Xy 12=some ⟨.int .u64,1,8,[.int .u64 0],false⟩:=rfl
theorem Z98:Xy 13=some ⟨.struct [(0,9),(1,12)],2,24,[.string ByteArray.empty,.int .u64 0],false⟩:=rfl
theorem Z99:Xy 14=some ⟨.struct [(0,9),(1,12)],2,24,[.string ByteArray.empty,.int .u64 0],false⟩:=rfl
theorem Yaa:Xy 15=some ⟨.ptr 399,1,8,[.pointer none],false⟩:=rfl
theorem Yab:Xy 16=some ⟨.ptr 402,1,8,[.pointer none],false⟩:=rfl
theorem Yac:Xy 17=some ⟨.ptr 410,1,8,[.pointer none],false⟩:=rfl
theorem Yad:Xy 18=some ⟨.struct [(0,17)],1,8,[.pointer none],false⟩:=rfl
theorem Yae:Xy 19=some ⟨.struct [(0,17)],1,8,[.pointer none],false⟩:=rfl
theorem Yaf:Xy 21=some ⟨.int .i32,1,4,[.int .i32 0],false⟩:=rfl
theorem Zv0:Xy 22=some ⟨.slice 77,1,24,[.slice none 0 0],false⟩:=rfl
theorem Z44:Xy 23=some ⟨.slice 25,1,24,[.slice none 0 0],false⟩:=rfl
theorem Yag:Xy 24=some ⟨.struct [(0,3),(1,22),(2,23)],3,56,[.int .i64 0,.slice none 0 0,.slice none 0 0],false⟩:=rfl
theorem G7:Xy 25=some ⟨.struct [(0,3),(1,22),(2,23)],3,56,[.int .i64 0,.slice none 0 0,.slice none 0 0],false⟩:=rfl
theorem Yah:Xy 26=some ⟨.slice 84,1,24,[.slice none 0 0],false⟩:=rfl
theorem Yai:Xy 27=some ⟨.slice 86,1,24,[.slice none 0 0],false⟩:=rfl
theorem Yaj:Xy 28=some ⟨.slice 89,1,24,[.slice none 0 0],false⟩:=rfl
theorem Yak:Xy 29=some ⟨.struct [(0,3),(1,25),(4,25),(7,26),(8,27),(9,3),(10,28)],11,200,[.int .i64 0,.int .i64 0,.slice none 0 0,.slice none 0 0,.int .i64 0,.slice none 0 0,.slice none 0 0,.slice none 0 0,.slice none 0 0,.int .i64 0,.slice none 0 0],false⟩:=rfl
theorem Zrk:Xy 30=some ⟨.struct [(0,3),(1,25),(4,25),(7,26),(8,27),(9,3),(10,28)],11,200,[.int .i64 0,.int .i64 0,.slice none 0 0,.slice none 0 0,.int .i64 0,.slice none 0 0,.slice none 0 0,.slice none 0 0,.slice none 0 0,.int .i64 0,.slice none 0 0],false⟩:=rfl
theorem Yal:Xy 44=some ⟨.int .i64,1,8,[.int .i64 0],false⟩:=rfl
theorem Yam:Xy 53=some ⟨.slice 22,1,24,[.slice none 0 0],false⟩:=rfl
theorem Yan:Xy 54=some ⟨.struct [(0,3),(1,3),(2,3),(3,3)],4,32,[.int .i64 0,.int .i64 0,.int .i64 0,.int .i64 0],false⟩:=rfl
theorem Yao:Xy 55=some ⟨.struct [(0,3),(1,3),(2,3),(3,3)],4,32,[.int .i64 0,.int .i64 0,.int .i64 0,.int .i64 0],true⟩:=rfl
theorem Yap:Xy 60=some ⟨.ptr 147,1,8,[.pointer none],false⟩:=rfl
theorem Yaq:Xy 61=some ⟨.struct [(0,60),(1,3),(2,3),(3,3),(4,3),(5,3),(6,3),(7,3),(8,3)],9,72,[.pointer none,.int .i64 0,.int .i64 0,.int .i64 0,.int .i64 0,.int .i64 0,.int .i64 0,.int .i64 0,.int .i64 0],false⟩:=rfl
theorem Yar:Xy 62=some ⟨.struct [(0,60),(1,3),(2,3),(3,3),(4,3),(5,3),(6,3),(7,3),(8,3)],9,72,[.pointer none,.int .i64 0,.int .i64 0,.int .i64 0,.int .i64 0,.int .i64 0,.int .i64 0,.int .i64 0,.int .i64 0],false⟩:=rfl
theorem Zci:Xy 77=some ⟨.int .u64,1,8,[.int .u64 0],false⟩:=rfl
theorem Yas:Xy 81=some ⟨.int .u64,1,8,[.int .u64 0],false⟩:=rfl
theorem Yat:Xy 83=some ⟨.struct [(0,3),(1,5),(2,77),(3,77)],4,32,[.int .i64 0,.int .u8 0,.int .u64 0,.int .u64 0],false⟩:=rfl
theorem Ztb:Xy 84=some ⟨.struct [(0,3),(1,5),(2,77),(3,77)],4,32,[.int .i64 0,.int .u8 0,.int .u64 0,.int .u64 0],true⟩:=rfl
theorem Yau:Xy 85=some ⟨.struct [(0,3),(1,30)],12,208,[.int .i64 0,.int .i64 0,.int .i64 0,.slice none 0 0,.slice none 0 0,.int .i64 0,.slice none 0 0,.slice none 0 0,.slice none 0 0,.slice none 0 0,.int .i64 0,.slice none 0 0],false⟩:=rfl
theorem Zp2:Xy 86=some ⟨.struct [(0,3),(1,30)],12,208,[.int .i64 0,.int .i64 0,.int .i64 0,.slice none 0 0,.slice none 0 0,.int .i64 0,.slice none 0 0,.slice none 0 0,.slice none 0 0,.slice none 0 0,.int .i64 0,.slice none 0 0],false⟩:=rfl
theorem Yav:Xy 88=some ⟨.struct [(0,3),(1,3),(2,23),(3,30)],14,240,[.int .i64 0,.int .i64 0,.slice none 0 0,.int .i64 0,.int .i64 0,.slice none 0 0,.slice none 0 0,.int .i64 0,.slice none 0 0,.slice none 0 0,.slice none 0 0,.slice none 0 0,.int .i64 0,.slice none 0 0],false⟩:=rfl
theorem Zk9:Xy 89=some ⟨.struct [(0,3),(1,3),(2,23),(3,30)],14,240,[.int .i64 0,.int .i64 0,.slice none 0 0,.int .i64 0,.int .i64 0,.slice none 0 0,.slice none 0 0,.int .i64 0,.slice none 0 0,.slice none 0 0,.slice none 0 0,.slice none 0 0,.int .i64 0,.slice none 0 0],false⟩:=rfl
theorem Z3z:Xy 106=some ⟨.struct [(0,3),(1,3),(2,3),(3,3),(4,3),(5,3),(6,77)],7,56,[.int .i64 0,.int .i64 0,.int .i64 0,.int .i64 0,.int .i64 0,.int .i64 0,.int .u64 0],false⟩:=rfl
theorem Z30:Xy 107=some ⟨.struct [(0,3),(1,3),(2,3),(3,3),(4,3),(5,3),(6,77)],7,56,[.int .i64 0,.int .i64 0,.int .i64 0,.int .i64 0,.int .i64 0,.int .i64 0,.int .u64 0],true⟩:=rfl
theorem Z31:Xy 111=some ⟨.struct [(0,3),(1,3)],2,16,[.int .i64 0,.int .i64 0],false⟩:=rfl
theorem Z32:Xy 112=some ⟨.struct [(0,3),(1,3)],2,16,[.int .i64 0,.int .i64 0],true⟩:=rfl
theorem Z33:Xy 116=some ⟨.ptr 120,1,8,[.pointer none],false⟩:=rfl
theorem Z34:Xy 117=some ⟨.ptr 124,1,8,[.pointer none],false⟩:=rfl
theorem Z35:Xy 119=some ⟨.struct [(0,117),(1,4)],2,16,[.pointer none,.bool false],false⟩:=rfl
theorem Z36:Xy 120=some ⟨.struct [(0,117),(1,4)],2,16,[.pointer none,.bool false],false⟩:=rfl
theorem Z37:Xy 123=some ⟨.struct [(0,53),(1,3),(2,3),(3,3)],4,48,[.slice none 0 0,.int .i64 0,.int .i64 0,.int .i64 0],false⟩:=rfl
theorem Z38:Xy 124=some ⟨.struct [(0,53),(1,3),(2,3),(3,3)],4,48,[.slice none 0 0,.int .i64 0,.int .i64 0,.int .i64 0],false⟩:=rfl
theorem Z39:Xy 125=some ⟨.struct [(0,4),(1,3)],2,16,[.bool false,.int .i64 0],false⟩:=rfl
theorem Z4a:Xy 126=some ⟨.struct [(0,4),(1,3)],2,16,[.bool false,.int .i64 0],true⟩:=rfl
theorem Z4b:Xy 139=some ⟨.struct [(0,22),(1,3)],2,32,[.slice none 0 0,.int .i64 0],false⟩:=rfl
theorem Z4c:Xy 140=some ⟨.struct [(0,22),(1,3)],2,32,[.slice none 0 0,.int .i64 0],false⟩:=rfl
theorem Z4d:Xy 142=some ⟨.struct [(0,3)],1,8,[.int .i64 0],false⟩:=rfl
theorem Z4e:Xy 143=some ⟨.struct [(0,3)],1,8,[.int .i64 0],true⟩:=rfl
theorem Z4f:Xy 146=some ⟨.struct [(0,53),(1,3),(2,3)],3,40,[.slice none 0 0,.int .i64 0,.int .i64 0],false⟩:=rfl
theorem Z4g:Xy 147=some ⟨.struct [(0,53),(1,3),(2,3)],3,40,[.slice none 0 0,.int .i64 0,.int .i64 0],false⟩:=rfl
theorem Z4h:Xy 154=some ⟨.struct [(0,3),(1,3),(2,3),(3,3),(4,3),(5,3),(6,3),(7,4)],8,64,[.int .i64 0,.int .i64 0,.int .i64 0,.int .i64 0,.int .i64 0,.int .i64 0,.int .i64 0,.bool false],false⟩:=rfl
theorem Z4i:Xy 155=some ⟨.struct [(0,3),(1,3),(2,3),(3,3),(4,3),(5,3),(6,3),(7,4)],8,64,[.int .i64 0,.int .i64 0,.int .i64 0,.int .i64 0,.int .i64 0,.int .i64 0,.int .i64 0,.bool false],true⟩:=rfl
theorem Z4j:Xy 156=some ⟨.struct [(0,155),(8,3),(9,3)],10,80,[.int .i64 0,.int .i64 0,.int .i64 0,.int .i64 0,.int .i64 0,.int .i64 0,.int .i64 0,.bool false,.int .i64 0,.int .i64 0],false⟩:=rfl
theorem Z4k:Xy 157=some ⟨.struct [(0,155),(8,3),(9,3)],10,80,[.int .i64 0,.int .i64 0,.int .i64 0,.int .i64 0,.int .i64 0,.int .i64 0,.int .i64 0,.bool false,.int .i64 0,.int .i64 0],true⟩:=rfl
theorem Z4l:Xy 164=some ⟨.ptr 112,1,8,[.pointer none],false⟩:=rfl
theorem Zwq:Xy 185=some ⟨.arr 8 5,8,8,[.int .u8 0,.int .u8 0,.int .u8 0,.int .u8 0,.int .u8 0,.int .u8 0,.int .u8 0,.int .u8 0],true⟩:=rfl
theorem Z4m:Xy 189=some ⟨.slice 5,1,24,[.slice none 0 0],false⟩:=rfl
theorem Z4n:Xy 190=some ⟨.ptr 140,1,8,[.pointer none],false⟩:=rfl
theorem Z4o:Xy 191=some ⟨.struct [(0,3),(1,3),(2,3),(3,3),(4,3),(5,3),(6,3),(7,4)],8,64,[.int .i64 0,.int .i64 0,.int .i64 0,.int .i64 0,.int .i64 0,.int .i64 0,.int .i64 0,.bool false],true⟩:=rfl
theorem Z4p:Xy 197=some ⟨.ptr 143,1,8,[.pointer none],false⟩:=rfl
theorem Z4q:Xy 199=some ⟨.struct [(0,28),(1,3),(2,23),(3,23)],4,80,[.slice none 0 0,.int .i64 0,.slice none 0 0,.slice none 0 0],false⟩:=rfl
theorem Z4r:Xy 200=some ⟨.struct [(0,28),(1,3),(2,23),(3,23)],4,80,[.slice none 0 0,.int .i64 0,.slice none 0 0,.slice none 0 0],false⟩:=rfl
theorem Z4s:Xy 203=some ⟨.ptr 23,1,8,[.pointer none],false⟩:=rfl
theorem Z4t:Xy 207=some ⟨.struct [(0,3),(1,3),(2,23),(3,23),(4,28)],5,88,[.int .i64 0,.int .i64 0,.slice none 0 0,.slice none 0 0,.slice none 0 0],false⟩:=rfl
theorem Z4u:Xy 208=some ⟨.struct [(0,3),(1,3),(2,23),(3,23),(4,28)],5,88,[.int .i64 0,.int .i64 0,.slice none 0 0,.slice none 0 0,.slice none 0 0],false⟩:=rfl
theorem Z4v:Xy 209=some ⟨.slice 212,1,24,[.slice none 0 0],false⟩:=rfl
theorem Z4w:Xy 211=some ⟨.struct [(0,3),(1,3)],2,16,[.int .i64 0,.int .i64 0],false⟩:=rfl
theorem Z4x:Xy 212=some ⟨.struct [(0,3),(1,3)],2,16,[.int .i64 0,.int .i64 0],true⟩:=rfl
theorem Z4y:Xy 219=some ⟨.struct [(0,3)],1,8,[.int .i64 0],false⟩:=rfl
theorem Z4z:Xy 220=some ⟨.struct [(0,3)],1,8,[.int .i64 0],true⟩:=rfl
theorem Z40:Xy 224=some ⟨.struct [(0,62),(9,62),(18,3),(19,3),(20,3),(21,3),(22,3),(23,28)],24,208,[.pointer none,.int .i64 0,.int .i64 0,.int .i64 0,.int .i64 0,.int .i64 0,.int .i64 0,.int .i64 0,.int .i64 0,.pointer none,.int .i64 0,.int .i64 0,.int .i64 0,.int .i64 0,.int .i64 0,.int .i64 0,.int .i64 0,.int .i64 0,.int .i64 0,.int .i64 0,.int .i64 0,.int .i64 0,.int .i64 0,.slice none 0 0],false⟩:=rfl
theorem Z41:Xy 225=some ⟨.struct [(0,62),(9,62),(18,3),(19,3),(20,3),(21,3),(22,3),(23,28)],24,208,[.pointer none,.int .i64 0,.int .i64 0,.int .i64 0,.int .i64 0,.int .i64 0,.int .i64 0,.int .i64 0,.int .i64 0,.pointer none,.int .i64 0,.int .i64 0,.int .i64 0,.int .i64 0,.int .i64 0,.int .i64 0,.int .i64 0,.int .i64 0,.int .i64 0,.int .i64 0,.int .i64 0,.int .i64 0,.int .i64 0,.slice none 0 0],false⟩:=rfl
theorem Z42:Xy 227=some ⟨.struct [(0,191),(8,3),(9,3)],10,80,[.int .i64 0,.int .i64 0,.int .i64 0,.int .i64 0,.int .i64 0,.int .i64 0,.int .i64 0,.bool false,.int .i64 0,.int .i64 0],false⟩:=rfl
theorem Z43:Xy 228=some ⟨.struct [(0,191),(8,3),(9,3)],10,80,[.int .i64 0,.int .i64 0,.int .i64 0,.int .i64 0,.int .i64 0,.int .i64 0,.int .i64 0,.bool false,.int .i64 0,.int .i64 0],true⟩:=rfl
theorem Z45:Xy 236=some ⟨.slice 3,1,24,[.slice none 0 0],false⟩:=rfl
theorem Z46:Xy 239=some ⟨.slice 242,1,24,[.slice none 0 0],false⟩:=rfl
theorem Z47:Xy 242=some ⟨.struct [(0,3),(1,3)],2,16,[.int .i64 0,.int .i64 0],true⟩:=rfl
theorem Z48:Xy 246=some ⟨.struct [(0,3)],1,8,[.int .i64 0],false⟩:=rfl
theorem Z49:Xy 247=some ⟨.struct [(0,3)],1,8,[.int .i64 0],true⟩:=rfl
theorem Z5a:Xy 255=some ⟨.struct [(0,62),(9,3),(10,23)],11,104,[.pointer none,.int .i64 0,.int .i64 0,.int .i64 0,.int .i64 0,.int .i64 0,.int .i64 0,.int .i64 0,.int .i64 0,.int .i64 0,.slice none 0 0],false⟩:=rfl
theorem Z5b:Xy 257=some ⟨.slice 126,1,24,[.slice none 0 0],false⟩:=rfl
theorem Z5c:Xy 278=some ⟨.ptr 220,1,8,[.pointer none],false⟩:=rfl
theorem Z5d:Xy 284=some ⟨.ptr 330,1,8,[.pointer none],false⟩:=rfl
theorem Z5e:Xy 299=some ⟨.struct [(0,3),(1,3)],2,16,[.int .i64 0,.int .i64 0],false⟩:=rfl
theorem Z5g:Xy 301=some ⟨.ptr 247,1,8,[.pointer none],false⟩:=rfl
theorem Z5h:Xy 309=some ⟨.arr 7 3,7,56,[.int .i64 0,.int .i64 0,.int .i64 0,.int .i64 0,.int .i64 0,.int .i64 0,.int .i64 0],true⟩:=rfl
theorem Z5i:Xy 310=some ⟨.int .u32,1,4,[.int .u32 0],false⟩:=rfl
theorem Z5j:Xy 321=some ⟨.arr 3 3,3,24,[.int .i64 0,.int .i64 0,.int .i64 0],true⟩:=rfl
theorem Z5k:Xy 346=some ⟨.arr 6 3,6,48,[.int .i64 0,.int .i64 0,.int .i64 0,.int .i64 0,.int .i64 0,.int .i64 0],true⟩:=rfl
theorem Z5l:Xy 358=some ⟨.slice 364,1,24,[.slice none 0 0],false⟩:=rfl
theorem Z5m:Xy 362=some ⟨.ptr 359,1,8,[.pointer none],false⟩:=rfl
theorem Z5n:Xy 363=some ⟨.struct [(0,325),(2,3)],3,24,[.int .i64 0,.int .i64 0,.int .i64 0],false⟩:=rfl
theorem Z5p:Yc Xy 2=some (.int .i64):=rfl
theorem Z5q:Yc Xy 3=some (.int .i64):=rfl
theorem Z5r:Yc Xy 4=some (.bool):=rfl
theorem Z5s:Yc Xy 5=some (.int .u8):=rfl
theorem Z5t:Yc Xy 6=some (.int .u8):=rfl
theorem Z5u:Yc Xy 7=some (.struct [(0,2),(1,3),(2,4),(3,6)]):=rfl
theorem Z5v:Yc Xy 8=some (.struct [(0,2),(1,3),(2,4),(3,6)]):=rfl
theorem Z5w:Yc Xy 9=some (.str):=rfl
theorem Zy5:Yc Xy 10=some (.str):=rfl
theorem Zy6:Yc Xy 11=some (.str):=rfl
theorem Zy7:Yc Xy 12=some (.int .u64):=rfl
theorem Zy8:Yc Xy 13=some (.struct [(0,9),(1,12)]):=rfl
theorem Zy9:Yc Xy 14=some (.struct [(0,9),(1,12)]):=rfl
theorem Zza:Yc Xy 15=some (.ptr 399):=rfl
theorem Zzb:Yc Xy 16=some (.ptr 402):=rfl
theorem Zzc:Yc Xy 17=some (.ptr 410):=rfl
theorem Zzd:Yc Xy 18=some (.struct [(0,17)]):=rfl
theorem Zze:Yc Xy 19=some (.struct [(0,17)]):=rfl
theorem Zzf:Yc Xy 21=some (.int .i32):=rfl
theorem Zjs:Yc Xy 22=some (.slice 77):=rfl
theorem Zn9:Yc Xy 23=some (.slice 25):=rfl
theorem Zzg:Yc Xy 24=some (.struct [(0,3),(1,22),(2,23)]):=rfl
theorem Zzh:Yc Xy 25=some (.struct [(0,3),(1,22),(2,23)]):=rfl
theorem Zzi:Yc Xy 26=some (.slice 84):=rfl
theorem Zzj:Yc Xy 27=some (.slice 86):=rfl
theorem Zzk:Yc Xy 28=some (.slice 89):=rfl
theorem Zzl:Yc Xy 29=some (.struct [(0,3),(1,25),(4,25),(7,26),(8,27),(9,3),(10,28)]):=rfl
theorem Zzm:Yc Xy 30=some (.struct [(0,3),(1,25),(4,25),(7,26),(8,27),(9,3),(10,28)]):=rfl
theorem Zzn:Yc Xy 44=some (.int .i64):=rfl
theorem Zzo:Yc Xy 53=some (.slice 22):=rfl
theorem Zzp:Yc Xy 54=some (.struct [(0,3),(1,3),(2,3),(3,3)]):=rfl
theorem Zzq:Yc Xy 55=some (.struct [(0,3),(1,3),(2,3),(3,3)]):=rfl
theorem Zvi:Yc Xy 60=some (.ptr 147):=rfl
theorem Zzr:Yc Xy 61=some (.struct [(0,60),(1,3),(2,3),(3,3),(4,3),(5,3),(6,3),(7,3),(8,3)]):=rfl
theorem Zzs:Yc Xy 62=some (.struct [(0,60),(1,3),(2,3),(3,3),(4,3),(5,3),(6,3),(7,3),(8,3)]):=rfl
theorem Zzt:Yc Xy 77=some (.int .u64):=rfl
theorem Zzu:Yc Xy 81=some (.int .u64):=rfl
theorem Zzv:Yc Xy 83=some (.struct [(0,3),(1,5),(2,77),(3,77)]):=rfl
theorem Zzw:Yc Xy 84=some (.struct [(0,3),(1,5),(2,77),(3,77)]):=rfl
theorem Zzx:Yc Xy 85=some (.struct [(0,3),(1,30)]):=rfl
theorem Zzy:Yc Xy 86=some (.struct [(0,3),(1,30)]):=rfl
theorem Zzz:Yc Xy 88=some (.struct [(0,3),(1,3),(2,23),(3,30)]):=rfl
theorem Zz0:Yc Xy 89=some (.struct [(0,3),(1,3),(2,23),(3,30)]):=rfl
theorem Ztc:Yc Xy 106=some (.struct [(0,3),(1,3),(2,3),(3,3),(4,3),(5,3),(6,77)]):=rfl
theorem Ztd:Yc Xy 107=some (.struct [(0,3),(1,3),(2,3),(3,3),(4,3),(5,3),(6,77)]):=rfl
theorem Zte:Yc Xy 111=some (.struct [(0,3),(1,3)]):=rfl
theorem Ztf:Yc Xy 112=some (.struct [(0,3),(1,3)]):=rfl
theorem Ztg:Yc Xy 116=some (.ptr 120):=rfl
theorem Zth:Yc Xy 117=some (.ptr 124):=rfl
theorem Zti:Yc Xy 119=some (.struct [(0,117),(1,4)]):=rfl
theorem Ztj:Yc Xy 120=some (.struct [(0,117),(1,4)]):=rfl
theorem Ztk:Yc Xy 123=some (.struct [(0,53),(1,3),(2,3),(3,3)]):=rfl
theorem Ztl:Yc Xy 124=some (.struct [(0,53),(1,3),(2,3),(3,3)]):=rfl
theorem Ztm:Yc Xy 125=some (.struct [(0,4),(1,3)]):=rfl
theorem Ztn:Yc Xy 126=some (.struct [(0,4),(1,3)]):=rfl
theorem Zto:Yc Xy 139=some (.struct [(0,22),(1,3)]):=rfl
theorem Ztp:Yc Xy 140=some (.struct [(0,22),(1,3)]):=rfl
theorem Ztq:Yc Xy 142=some (.struct [(0,3)]):=rfl
theorem Ztr:Yc Xy 143=some (.struct [(0,3)]):=rfl
theorem Zts:Yc Xy 146=some (.struct [(0,53),(1,3),(2,3)]):=rfl
theorem Ztt:Yc Xy 147=some (.struct [(0,53),(1,3),(2,3)]):=rfl
theorem Ztu:Yc Xy 154=some (.struct [(0,3),(1,3),(2,3),(3,3),(4,3),(5,3),(6,3),(7,4)]):=rfl
theorem Ztv:Yc Xy 155=some (.struct [(0,3),(1,3),(2,3),(3,3),(4,3),(5,3),(6,3),(7,4)]):=rfl
theorem Ztw:Yc Xy 156=some (.struct [(0,155),(8,3),(9,3)]):=rfl
theorem Ztx:Yc Xy 157=some (.struct [(0,155),(8,3),(9,3)]):=rfl
theorem Zty:Yc Xy 164=some (.ptr 112):=rfl
theorem Zp3:Yc Xy 185=some (.arr 8 5):=rfl
theorem Ztz:Yc Xy 189=some (.slice 5):=rfl
theorem Zt0:Yc Xy 190=some (.ptr 140):=rfl
theorem Zt1:Yc Xy 191=some (.struct [(0,3),(1,3),(2,3),(3,3),(4,3),(5,3),(6,3),(7,4)]):=rfl
theorem Zt2:Yc Xy 197=some (.ptr 143):=rfl
theorem Zt3:Yc Xy 199=some (.struct [(0,28),(1,3),(2,23),(3,23)]):=rfl
theorem Zt4:Yc Xy 200=some (.struct [(0,28),(1,3),(2,23),(3,23)]):=rfl
theorem Zt5:Yc Xy 203=some (.ptr 23):=rfl
theorem Zt6:Yc Xy 207=some (.struct [(0,3),(1,3),(2,23),(3,23),(4,28)]):=rfl
theorem Zt7:Yc Xy 208=some (.struct [(0,3),(1,3),(2,23),(3,23),(4,28)]):=rfl
theorem Zt8:Yc Xy 209=some (.slice 212):=rfl
theorem Zt9:Yc Xy 211=some (.struct [(0,3),(1,3)]):=rfl
theorem Zua:Yc Xy 212=some (.struct [(0,3),(1,3)]):=rfl
theorem Zub:Yc Xy 219=some (.struct [(0,3)]):=rfl
theorem Zuc:Yc Xy 220=some (.struct [(0,3)]):=rfl
theorem Zud:Yc Xy 224=some (.struct [(0,62),(9,62),(18,3),(19,3),(20,3),(21,3),(22,3),(23,28)]):=rfl
theorem Zue:Yc Xy 225=some (.struct [(0,62),(9,62),(18,3),(19,3),(20,3),(21,3),(22,3),(23,28)]):=rfl
theorem Zuf:Yc Xy 227=some (.struct [(0,191),(8,3),(9,3)]):=rfl
theorem Zug:Yc Xy 228=some (.struct [(0,191),(8,3),(9,3)]):=rfl
theorem Zuh:Yc Xy 236=some (.slice 3):=rfl
theorem Zui:Yc Xy 239=some (.slice 242):=rfl
theorem Zuj:Yc Xy 242=some (.struct [(0,3),(1,3)]):=rfl
theorem Zuk:Yc Xy 246=some (.struct [(0,3)]):=rfl
theorem Zul:Yc Xy 247=some (.struct [(0,3)]):=rfl
theorem Zum:Yc Xy 255=some (.struct [(0,62),(9,3),(10,23)]):=rfl
theorem Zun:Yc Xy 257=some (.slice 126):=rfl
theorem Zuo:Yc Xy 278=some (.ptr 220):=rfl
theorem Zup:Yc Xy 284=some (.ptr 330):=rfl
theorem Zuq:Yc Xy 299=some (.struct [(0,3),(1,3)]):=rfl
theorem Zur:Yc Xy 301=some (.ptr 247):=rfl
theorem Zus:Yc Xy 309=some (.arr 7 3):=rfl
theorem Zut:Yc Xy 310=some (.int .u32):=rfl
theorem Zuu:Yc Xy 321=some (.arr 3 3):=rfl
theorem Zuv:Yc Xy 346=some (.arr 6 3):=rfl
theorem Zuw:Yc Xy 358=some (.slice 364):=rfl
theorem Zux:Yc Xy 362=some (.ptr 359):=rfl
theorem Zuy:Yc Xy 363=some (.struct [(0,325),(2,3)]):=rfl
end Go.Proofs.YtmlcnhambfkjaaaGreat
