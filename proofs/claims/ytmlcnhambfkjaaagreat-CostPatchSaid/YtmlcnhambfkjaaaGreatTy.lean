/- The types of this seat's program, as its dump has them, in the ghost memory's words; no condition. -/
import Derived.Test.YtmlcnhambfkjaaaGreatRows
import Derived.Test.YtmlcnhambfkjaaaGreatG16
namespace Go.Proofs.YtmlcnhambfkjaaaGreat
open Go.RowKit
set_option linter.unusedVariables false
set_option linter.unusedSimpArgs false
theorem TyOk.of {P:Program} {t:TypeId} (k:TK) (size bytes:Nat) (zero:List Value) (z:Value) (h:(P.info? t).map (fun i=>(i.zero,i.size,i.bytes))=some (some z,size,bytes)) (hz:z.cells.toList=zero) (hu:k.ok P t) (hl:zero.length=size) (h1:zero.all Value.oneCell'=true) (eq:Bool) (he:eq=true→Zj4 P t):TyOk P t ⟨k,size,bytes,zero,eq⟩:=by
 refine ⟨?_,hu,hl,fun v hv=>List.all_eq_true.1 h1 v hv,he⟩
 cases hi:P.info? t with
 | none=>rw [hi] at h;cases h
 | some i =>
  rw [hi] at h
  simp only [Option.map_some,Option.some.injEq,Prod.mk.injEq] at h
  exact ⟨i,z,rfl,h.2.1,h.2.2,h.1,hz⟩
theorem Z16 {α:Type} {t:Nat} {i:α}:∀ (l:List (Nat×α)),l.lookup t=some i→(t,i)∈l
 | [],h=>by simp at h
 | (a,b)::l,h=>by
  rw [List.lookup_cons] at h
  split at h
  ·rename_i he
   injection h with h
   have:t=a:=by simpa using he
   subst h this
   exact .head _
  exact .tail _ (Z16 l h)
theorem ty2:TyOk Tryz.prog 2 ⟨.int .i64,1,8,[.int .i64 0],false⟩:=TyOk.of (P:=Tryz.prog) (t:=2) (.int .i64) 1 8 [.int .i64 0] (.int .i64 0) (by kernel_rfl) rfl Tryz.underlying2 rfl rfl false (fun h=>by cases h)
theorem ty3:TyOk Tryz.prog 3 ⟨.int .i64,1,8,[.int .i64 0],false⟩:=TyOk.of (P:=Tryz.prog) (t:=3) (.int .i64) 1 8 [.int .i64 0] (.int .i64 0) (by kernel_rfl) rfl Tryz.underlying3 rfl rfl false (fun h=>by cases h)
theorem ty4:TyOk Tryz.prog 4 ⟨.bool,1,1,[.bool false],false⟩:=TyOk.of (P:=Tryz.prog) (t:=4) (.bool) 1 1 [.bool false] (.bool false) (by kernel_rfl) rfl Tryz.underlying4 rfl rfl false (fun h=>by cases h)
theorem ty5:TyOk Tryz.prog 5 ⟨.int .u8,1,1,[.int .u8 0],false⟩:=TyOk.of (P:=Tryz.prog) (t:=5) (.int .u8) 1 1 [.int .u8 0] (.int .u8 0) (by kernel_rfl) rfl Tryz.underlying5 rfl rfl false (fun h=>by cases h)
theorem ty6:TyOk Tryz.prog 6 ⟨.int .u8,1,1,[.int .u8 0],false⟩:=TyOk.of (P:=Tryz.prog) (t:=6) (.int .u8) 1 1 [.int .u8 0] (.int .u8 0) (by kernel_rfl) rfl Tryz.underlying6 rfl rfl false (fun h=>by cases h)
theorem ty7:TyOk Tryz.prog 7 ⟨.struct [(0,2),(1,3),(2,4),(3,6)],4,24,[.int .i64 0,.int .i64 0,.bool false,.int .u8 0],false⟩:=TyOk.of (P:=Tryz.prog) (t:=7) (.struct [(0,2),(1,3),(2,4),(3,6)]) 4 24 [.int .i64 0,.int .i64 0,.bool false,.int .u8 0] (.agg #[.int .i64 0,.int .i64 0,.bool false,.int .u8 0]) (by kernel_rfl) rfl ⟨_,Tryz.underlying7,rfl⟩ rfl rfl false (fun h=>by cases h)
theorem ty8:TyOk Tryz.prog 8 ⟨.struct [(0,2),(1,3),(2,4),(3,6)],4,24,[.int .i64 0,.int .i64 0,.bool false,.int .u8 0],false⟩:=TyOk.of (P:=Tryz.prog) (t:=8) (.struct [(0,2),(1,3),(2,4),(3,6)]) 4 24 [.int .i64 0,.int .i64 0,.bool false,.int .u8 0] (.agg #[.int .i64 0,.int .i64 0,.bool false,.int .u8 0]) (by kernel_rfl) rfl ⟨_,Tryz.underlying8,rfl⟩ rfl rfl false (fun h=>by cases h)
theorem ty9:TyOk Tryz.prog 9 ⟨.str,1,16,[.string ByteArray.empty],false⟩:=TyOk.of (P:=Tryz.prog) (t:=9) (.str) 1 16 [.string ByteArray.empty] (.string ByteArray.empty) (by kernel_rfl) rfl Tryz.underlying9 rfl rfl false (fun h=>by cases h)
theorem Yp2:TyOk Tryz.prog 10 ⟨.str,1,16,[.string ByteArray.empty],false⟩:=TyOk.of (P:=Tryz.prog) (t:=10) (.str) 1 16 [.string ByteArray.empty] (.string ByteArray.empty) (by kernel_rfl) rfl Tryz.underlying10 rfl rfl false (fun h=>by cases h)
theorem Yp3:TyOk Tryz.prog 11 ⟨.str,1,16,[.string ByteArray.empty],false⟩:=TyOk.of (P:=Tryz.prog) (t:=11) (.str) 1 16 [.string ByteArray.empty] (.string ByteArray.empty) (by kernel_rfl) rfl Tryz.underlying11 rfl rfl false (fun h=>by cases h)
theorem Yp4:TyOk Tryz.prog 12 ⟨.int .u64,1,8,[.int .u64 0],false⟩:=TyOk.of (P:=Tryz.prog) (t:=12) (.int .u64) 1 8 [.int .u64 0] (.int .u64 0) (by kernel_rfl) rfl Tryz.underlying12 rfl rfl false (fun h=>by cases h)
theorem Yp5:TyOk Tryz.prog 13 ⟨.struct [(0,9),(1,12)],2,24,[.string ByteArray.empty,.int .u64 0],false⟩:=TyOk.of (P:=Tryz.prog) (t:=13) (.struct [(0,9),(1,12)]) 2 24 [.string ByteArray.empty,.int .u64 0] (.agg #[.string ByteArray.empty,.int .u64 0]) (by kernel_rfl) rfl ⟨_,Tryz.underlying13,rfl⟩ rfl rfl false (fun h=>by cases h)
theorem Yp6:TyOk Tryz.prog 14 ⟨.struct [(0,9),(1,12)],2,24,[.string ByteArray.empty,.int .u64 0],false⟩:=TyOk.of (P:=Tryz.prog) (t:=14) (.struct [(0,9),(1,12)]) 2 24 [.string ByteArray.empty,.int .u64 0] (.agg #[.string ByteArray.empty,.int .u64 0]) (by kernel_rfl) rfl ⟨_,Tryz.underlying14,rfl⟩ rfl rfl false (fun h=>by cases h)
theorem Yp7:TyOk Tryz.prog 15 ⟨.ptr 399,1,8,[.pointer none],false⟩:=TyOk.of (P:=Tryz.prog) (t:=15) (.ptr 399) 1 8 [.pointer none] (.pointer none) (by kernel_rfl) rfl Tryz.underlying15 rfl rfl false (fun h=>by cases h)
theorem Yp8:TyOk Tryz.prog 16 ⟨.ptr 402,1,8,[.pointer none],false⟩:=TyOk.of (P:=Tryz.prog) (t:=16) (.ptr 402) 1 8 [.pointer none] (.pointer none) (by kernel_rfl) rfl Tryz.underlying16 rfl rfl false (fun h=>by cases h)
theorem Yp9:TyOk Tryz.prog 17 ⟨.ptr 410,1,8,[.pointer none],false⟩:=TyOk.of (P:=Tryz.prog) (t:=17) (.ptr 410) 1 8 [.pointer none] (.pointer none) (by kernel_rfl) rfl Tryz.underlying17 rfl rfl false (fun h=>by cases h)
theorem Yqa:TyOk Tryz.prog 18 ⟨.struct [(0,17)],1,8,[.pointer none],false⟩:=TyOk.of (P:=Tryz.prog) (t:=18) (.struct [(0,17)]) 1 8 [.pointer none] (.agg #[.pointer none]) (by kernel_rfl) rfl ⟨_,Tryz.underlying18,rfl⟩ rfl rfl false (fun h=>by cases h)
theorem Yqb:TyOk Tryz.prog 19 ⟨.struct [(0,17)],1,8,[.pointer none],false⟩:=TyOk.of (P:=Tryz.prog) (t:=19) (.struct [(0,17)]) 1 8 [.pointer none] (.agg #[.pointer none]) (by kernel_rfl) rfl ⟨_,Tryz.underlying19,rfl⟩ rfl rfl false (fun h=>by cases h)
theorem Yqc:TyOk Tryz.prog 21 ⟨.int .i32,1,4,[.int .i32 0],false⟩:=TyOk.of (P:=Tryz.prog) (t:=21) (.int .i32) 1 4 [.int .i32 0] (.int .i32 0) (by kernel_rfl) rfl Tryz.underlying21 rfl rfl false (fun h=>by cases h)
theorem Yqd:TyOk Tryz.prog 22 ⟨.slice 77,1,24,[.slice none 0 0],false⟩:=TyOk.of (P:=Tryz.prog) (t:=22) (.slice 77) 1 24 [.slice none 0 0] (.slice none 0 0) (by kernel_rfl) rfl Tryz.underlying22 rfl rfl false (fun h=>by cases h)
theorem Yqe:TyOk Tryz.prog 23 ⟨.slice 25,1,24,[.slice none 0 0],false⟩:=TyOk.of (P:=Tryz.prog) (t:=23) (.slice 25) 1 24 [.slice none 0 0] (.slice none 0 0) (by kernel_rfl) rfl Tryz.underlying23 rfl rfl false (fun h=>by cases h)
theorem Yqf:TyOk Tryz.prog 24 ⟨.struct [(0,3),(1,22),(2,23)],3,56,[.int .i64 0,.slice none 0 0,.slice none 0 0],false⟩:=TyOk.of (P:=Tryz.prog) (t:=24) (.struct [(0,3),(1,22),(2,23)]) 3 56 [.int .i64 0,.slice none 0 0,.slice none 0 0] (.agg #[.int .i64 0,.slice none 0 0,.slice none 0 0]) (by kernel_rfl) rfl ⟨_,Tryz.underlying24,rfl⟩ rfl rfl false (fun h=>by cases h)
theorem Yqg:TyOk Tryz.prog 25 ⟨.struct [(0,3),(1,22),(2,23)],3,56,[.int .i64 0,.slice none 0 0,.slice none 0 0],false⟩:=TyOk.of (P:=Tryz.prog) (t:=25) (.struct [(0,3),(1,22),(2,23)]) 3 56 [.int .i64 0,.slice none 0 0,.slice none 0 0] (.agg #[.int .i64 0,.slice none 0 0,.slice none 0 0]) (by kernel_rfl) rfl ⟨_,Tryz.underlying25,rfl⟩ rfl rfl false (fun h=>by cases h)
theorem Yqh:TyOk Tryz.prog 26 ⟨.slice 84,1,24,[.slice none 0 0],false⟩:=TyOk.of (P:=Tryz.prog) (t:=26) (.slice 84) 1 24 [.slice none 0 0] (.slice none 0 0) (by kernel_rfl) rfl Tryz.underlying26 rfl rfl false (fun h=>by cases h)
theorem Yqi:TyOk Tryz.prog 27 ⟨.slice 86,1,24,[.slice none 0 0],false⟩:=TyOk.of (P:=Tryz.prog) (t:=27) (.slice 86) 1 24 [.slice none 0 0] (.slice none 0 0) (by kernel_rfl) rfl Tryz.underlying27 rfl rfl false (fun h=>by cases h)
theorem Yqj:TyOk Tryz.prog 28 ⟨.slice 89,1,24,[.slice none 0 0],false⟩:=TyOk.of (P:=Tryz.prog) (t:=28) (.slice 89) 1 24 [.slice none 0 0] (.slice none 0 0) (by kernel_rfl) rfl Tryz.underlying28 rfl rfl false (fun h=>by cases h)
theorem Yqk:TyOk Tryz.prog 29 ⟨.struct [(0,3),(1,25),(4,25),(7,26),(8,27),(9,3),(10,28)],11,200,[.int .i64 0,.int .i64 0,.slice none 0 0,.slice none 0 0,.int .i64 0,.slice none 0 0,.slice none 0 0,.slice none 0 0,.slice none 0 0,.int .i64 0,.slice none 0 0],false⟩:=TyOk.of (P:=Tryz.prog) (t:=29) (.struct [(0,3),(1,25),(4,25),(7,26),(8,27),(9,3),(10,28)]) 11 200 [.int .i64 0,.int .i64 0,.slice none 0 0,.slice none 0 0,.int .i64 0,.slice none 0 0,.slice none 0 0,.slice none 0 0,.slice none 0 0,.int .i64 0,.slice none 0 0] (.agg #[.int .i64 0,.int .i64 0,.slice none 0 0,.slice none 0 0,.int .i64 0,.slice none 0 0,.slice none 0 0,.slice none 0 0,.slice none 0 0,.int .i64 0,.slice none 0 0]) (by kernel_rfl) rfl ⟨_,Tryz.underlying29,rfl⟩ rfl rfl false (fun h=>by cases h)
theorem Yql:TyOk Tryz.prog 30 ⟨.struct [(0,3),(1,25),(4,25),(7,26),(8,27),(9,3),(10,28)],11,200,[.int .i64 0,.int .i64 0,.slice none 0 0,.slice none 0 0,.int .i64 0,.slice none 0 0,.slice none 0 0,.slice none 0 0,.slice none 0 0,.int .i64 0,.slice none 0 0],false⟩:=TyOk.of (P:=Tryz.prog) (t:=30) (.struct [(0,3),(1,25),(4,25),(7,26),(8,27),(9,3),(10,28)]) 11 200 [.int .i64 0,.int .i64 0,.slice none 0 0,.slice none 0 0,.int .i64 0,.slice none 0 0,.slice none 0 0,.slice none 0 0,.slice none 0 0,.int .i64 0,.slice none 0 0] (.agg #[.int .i64 0,.int .i64 0,.slice none 0 0,.slice none 0 0,.int .i64 0,.slice none 0 0,.slice none 0 0,.slice none 0 0,.slice none 0 0,.int .i64 0,.slice none 0 0]) (by kernel_rfl) rfl ⟨_,Tryz.underlying30,rfl⟩ rfl rfl false (fun h=>by cases h)
theorem Yqm:TyOk Tryz.prog 44 ⟨.int .i64,1,8,[.int .i64 0],false⟩:=TyOk.of (P:=Tryz.prog) (t:=44) (.int .i64) 1 8 [.int .i64 0] (.int .i64 0) (by kernel_rfl) rfl Tryz.underlying44 rfl rfl false (fun h=>by cases h)
theorem Yqn:TyOk Tryz.prog 53 ⟨.slice 22,1,24,[.slice none 0 0],false⟩:=TyOk.of (P:=Tryz.prog) (t:=53) (.slice 22) 1 24 [.slice none 0 0] (.slice none 0 0) (by kernel_rfl) rfl Tryz.underlying53 rfl rfl false (fun h=>by cases h)
theorem Yqo:TyOk Tryz.prog 54 ⟨.struct [(0,3),(1,3),(2,3),(3,3)],4,32,[.int .i64 0,.int .i64 0,.int .i64 0,.int .i64 0],false⟩:=TyOk.of (P:=Tryz.prog) (t:=54) (.struct [(0,3),(1,3),(2,3),(3,3)]) 4 32 [.int .i64 0,.int .i64 0,.int .i64 0,.int .i64 0] (.agg #[.int .i64 0,.int .i64 0,.int .i64 0,.int .i64 0]) (by kernel_rfl) rfl ⟨_,Tryz.underlying54,rfl⟩ rfl rfl false (fun h=>by cases h)
theorem Yqp:TyOk Tryz.prog 55 ⟨.struct [(0,3),(1,3),(2,3),(3,3)],4,32,[.int .i64 0,.int .i64 0,.int .i64 0,.int .i64 0],true⟩:=TyOk.of (P:=Tryz.prog) (t:=55) (.struct [(0,3),(1,3),(2,3),(3,3)]) 4 32 [.int .i64 0,.int .i64 0,.int .i64 0,.int .i64 0] (.agg #[.int .i64 0,.int .i64 0,.int .i64 0,.int .i64 0]) (by kernel_rfl) rfl ⟨_,Tryz.underlying55,rfl⟩ rfl rfl true (fun _=>by unfold Zj4;exact ⟨by kernel_rfl,by kernel_rfl,by kernel_rfl⟩)
theorem Yqq:TyOk Tryz.prog 60 ⟨.ptr 147,1,8,[.pointer none],false⟩:=TyOk.of (P:=Tryz.prog) (t:=60) (.ptr 147) 1 8 [.pointer none] (.pointer none) (by kernel_rfl) rfl Tryz.underlying60 rfl rfl false (fun h=>by cases h)
theorem Yqr:TyOk Tryz.prog 61 ⟨.struct [(0,60),(1,3),(2,3),(3,3),(4,3),(5,3),(6,3),(7,3),(8,3)],9,72,[.pointer none,.int .i64 0,.int .i64 0,.int .i64 0,.int .i64 0,.int .i64 0,.int .i64 0,.int .i64 0,.int .i64 0],false⟩:=TyOk.of (P:=Tryz.prog) (t:=61) (.struct [(0,60),(1,3),(2,3),(3,3),(4,3),(5,3),(6,3),(7,3),(8,3)]) 9 72 [.pointer none,.int .i64 0,.int .i64 0,.int .i64 0,.int .i64 0,.int .i64 0,.int .i64 0,.int .i64 0,.int .i64 0] (.agg #[.pointer none,.int .i64 0,.int .i64 0,.int .i64 0,.int .i64 0,.int .i64 0,.int .i64 0,.int .i64 0,.int .i64 0]) (by kernel_rfl) rfl ⟨_,Tryz.underlying61,rfl⟩ rfl rfl false (fun h=>by cases h)
theorem Yqs:TyOk Tryz.prog 62 ⟨.struct [(0,60),(1,3),(2,3),(3,3),(4,3),(5,3),(6,3),(7,3),(8,3)],9,72,[.pointer none,.int .i64 0,.int .i64 0,.int .i64 0,.int .i64 0,.int .i64 0,.int .i64 0,.int .i64 0,.int .i64 0],false⟩:=TyOk.of (P:=Tryz.prog) (t:=62) (.struct [(0,60),(1,3),(2,3),(3,3),(4,3),(5,3),(6,3),(7,3),(8,3)]) 9 72 [.pointer none,.int .i64 0,.int .i64 0,.int .i64 0,.int .i64 0,.int .i64 0,.int .i64 0,.int .i64 0,.int .i64 0] (.agg #[.pointer none,.int .i64 0,.int .i64 0,.int .i64 0,.int .i64 0,.int .i64 0,.int .i64 0,.int .i64 0,.int .i64 0]) (by kernel_rfl) rfl ⟨_,Tryz.underlying62,rfl⟩ rfl rfl false (fun h=>by cases h)
theorem Yqt:TyOk Tryz.prog 77 ⟨.int .u64,1,8,[.int .u64 0],false⟩:=TyOk.of (P:=Tryz.prog) (t:=77) (.int .u64) 1 8 [.int .u64 0] (.int .u64 0) (by kernel_rfl) rfl Tryz.underlying77 rfl rfl false (fun h=>by cases h)
theorem Yqu:TyOk Tryz.prog 81 ⟨.int .u64,1,8,[.int .u64 0],false⟩:=TyOk.of (P:=Tryz.prog) (t:=81) (.int .u64) 1 8 [.int .u64 0] (.int .u64 0) (by kernel_rfl) rfl Tryz.underlying81 rfl rfl false (fun h=>by cases h)
theorem Yqv:TyOk Tryz.prog 83 ⟨.struct [(0,3),(1,5),(2,77),(3,77)],4,32,[.int .i64 0,.int .u8 0,.int .u64 0,.int .u64 0],false⟩:=TyOk.of (P:=Tryz.prog) (t:=83) (.struct [(0,3),(1,5),(2,77),(3,77)]) 4 32 [.int .i64 0,.int .u8 0,.int .u64 0,.int .u64 0] (.agg #[.int .i64 0,.int .u8 0,.int .u64 0,.int .u64 0]) (by kernel_rfl) rfl ⟨_,Tryz.underlying83,rfl⟩ rfl rfl false (fun h=>by cases h)
theorem Yqw:TyOk Tryz.prog 84 ⟨.struct [(0,3),(1,5),(2,77),(3,77)],4,32,[.int .i64 0,.int .u8 0,.int .u64 0,.int .u64 0],true⟩:=TyOk.of (P:=Tryz.prog) (t:=84) (.struct [(0,3),(1,5),(2,77),(3,77)]) 4 32 [.int .i64 0,.int .u8 0,.int .u64 0,.int .u64 0] (.agg #[.int .i64 0,.int .u8 0,.int .u64 0,.int .u64 0]) (by kernel_rfl) rfl ⟨_,Tryz.underlying84,rfl⟩ rfl rfl true (fun _=>by unfold Zj4;exact ⟨by kernel_rfl,by kernel_rfl,by kernel_rfl⟩)
theorem Yqx:TyOk Tryz.prog 85 ⟨.struct [(0,3),(1,30)],12,208,[.int .i64 0,.int .i64 0,.int .i64 0,.slice none 0 0,.slice none 0 0,.int .i64 0,.slice none 0 0,.slice none 0 0,.slice none 0 0,.slice none 0 0,.int .i64 0,.slice none 0 0],false⟩:=TyOk.of (P:=Tryz.prog) (t:=85) (.struct [(0,3),(1,30)]) 12 208 [.int .i64 0,.int .i64 0,.int .i64 0,.slice none 0 0,.slice none 0 0,.int .i64 0,.slice none 0 0,.slice none 0 0,.slice none 0 0,.slice none 0 0,.int .i64 0,.slice none 0 0] (.agg #[.int .i64 0,.int .i64 0,.int .i64 0,.slice none 0 0,.slice none 0 0,.int .i64 0,.slice none 0 0,.slice none 0 0,.slice none 0 0,.slice none 0 0,.int .i64 0,.slice none 0 0]) (by kernel_rfl) rfl ⟨_,Tryz.underlying85,rfl⟩ rfl rfl false (fun h=>by cases h)
theorem Yqy:TyOk Tryz.prog 86 ⟨.struct [(0,3),(1,30)],12,208,[.int .i64 0,.int .i64 0,.int .i64 0,.slice none 0 0,.slice none 0 0,.int .i64 0,.slice none 0 0,.slice none 0 0,.slice none 0 0,.slice none 0 0,.int .i64 0,.slice none 0 0],false⟩:=TyOk.of (P:=Tryz.prog) (t:=86) (.struct [(0,3),(1,30)]) 12 208 [.int .i64 0,.int .i64 0,.int .i64 0,.slice none 0 0,.slice none 0 0,.int .i64 0,.slice none 0 0,.slice none 0 0,.slice none 0 0,.slice none 0 0,.int .i64 0,.slice none 0 0] (.agg #[.int .i64 0,.int .i64 0,.int .i64 0,.slice none 0 0,.slice none 0 0,.int .i64 0,.slice none 0 0,.slice none 0 0,.slice none 0 0,.slice none 0 0,.int .i64 0,.slice none 0 0]) (by kernel_rfl) rfl ⟨_,Tryz.underlying86,rfl⟩ rfl rfl false (fun h=>by cases h)
theorem Yqz:TyOk Tryz.prog 88 ⟨.struct [(0,3),(1,3),(2,23),(3,30)],14,240,[.int .i64 0,.int .i64 0,.slice none 0 0,.int .i64 0,.int .i64 0,.slice none 0 0,.slice none 0 0,.int .i64 0,.slice none 0 0,.slice none 0 0,.slice none 0 0,.slice none 0 0,.int .i64 0,.slice none 0 0],false⟩:=TyOk.of (P:=Tryz.prog) (t:=88) (.struct [(0,3),(1,3),(2,23),(3,30)]) 14 240 [.int .i64 0,.int .i64 0,.slice none 0 0,.int .i64 0,.int .i64 0,.slice none 0 0,.slice none 0 0,.int .i64 0,.slice none 0 0,.slice none 0 0,.slice none 0 0,.slice none 0 0,.int .i64 0,.slice none 0 0] (.agg #[.int .i64 0,.int .i64 0,.slice none 0 0,.int .i64 0,.int .i64 0,.slice none 0 0,.slice none 0 0,.int .i64 0,.slice none 0 0,.slice none 0 0,.slice none 0 0,.slice none 0 0,.int .i64 0,.slice none 0 0]) (by kernel_rfl) rfl ⟨_,Tryz.underlying88,rfl⟩ rfl rfl false (fun h=>by cases h)
theorem Yq0:TyOk Tryz.prog 89 ⟨.struct [(0,3),(1,3),(2,23),(3,30)],14,240,[.int .i64 0,.int .i64 0,.slice none 0 0,.int .i64 0,.int .i64 0,.slice none 0 0,.slice none 0 0,.int .i64 0,.slice none 0 0,.slice none 0 0,.slice none 0 0,.slice none 0 0,.int .i64 0,.slice none 0 0],false⟩:=TyOk.of (P:=Tryz.prog) (t:=89) (.struct [(0,3),(1,3),(2,23),(3,30)]) 14 240 [.int .i64 0,.int .i64 0,.slice none 0 0,.int .i64 0,.int .i64 0,.slice none 0 0,.slice none 0 0,.int .i64 0,.slice none 0 0,.slice none 0 0,.slice none 0 0,.slice none 0 0,.int .i64 0,.slice none 0 0] (.agg #[.int .i64 0,.int .i64 0,.slice none 0 0,.int .i64 0,.int .i64 0,.slice none 0 0,.slice none 0 0,.int .i64 0,.slice none 0 0,.slice none 0 0,.slice none 0 0,.slice none 0 0,.int .i64 0,.slice none 0 0]) (by kernel_rfl) rfl ⟨_,Tryz.underlying89,rfl⟩ rfl rfl false (fun h=>by cases h)
theorem Ymt:TyOk Tryz.prog 106 ⟨.struct [(0,3),(1,3),(2,3),(3,3),(4,3),(5,3),(6,77)],7,56,[.int .i64 0,.int .i64 0,.int .i64 0,.int .i64 0,.int .i64 0,.int .i64 0,.int .u64 0],false⟩:=TyOk.of (P:=Tryz.prog) (t:=106) (.struct [(0,3),(1,3),(2,3),(3,3),(4,3),(5,3),(6,77)]) 7 56 [.int .i64 0,.int .i64 0,.int .i64 0,.int .i64 0,.int .i64 0,.int .i64 0,.int .u64 0] (.agg #[.int .i64 0,.int .i64 0,.int .i64 0,.int .i64 0,.int .i64 0,.int .i64 0,.int .u64 0]) (by kernel_rfl) rfl ⟨_,Tryz.underlying106,rfl⟩ rfl rfl false (fun h=>by cases h)
theorem Ymu:TyOk Tryz.prog 107 ⟨.struct [(0,3),(1,3),(2,3),(3,3),(4,3),(5,3),(6,77)],7,56,[.int .i64 0,.int .i64 0,.int .i64 0,.int .i64 0,.int .i64 0,.int .i64 0,.int .u64 0],true⟩:=TyOk.of (P:=Tryz.prog) (t:=107) (.struct [(0,3),(1,3),(2,3),(3,3),(4,3),(5,3),(6,77)]) 7 56 [.int .i64 0,.int .i64 0,.int .i64 0,.int .i64 0,.int .i64 0,.int .i64 0,.int .u64 0] (.agg #[.int .i64 0,.int .i64 0,.int .i64 0,.int .i64 0,.int .i64 0,.int .i64 0,.int .u64 0]) (by kernel_rfl) rfl ⟨_,Tryz.underlying107,rfl⟩ rfl rfl true (fun _=>by unfold Zj4;exact ⟨by kernel_rfl,by kernel_rfl,by kernel_rfl⟩)
theorem Ymv:TyOk Tryz.prog 111 ⟨.struct [(0,3),(1,3)],2,16,[.int .i64 0,.int .i64 0],false⟩:=TyOk.of (P:=Tryz.prog) (t:=111) (.struct [(0,3),(1,3)]) 2 16 [.int .i64 0,.int .i64 0] (.agg #[.int .i64 0,.int .i64 0]) (by kernel_rfl) rfl ⟨_,Tryz.underlying111,rfl⟩ rfl rfl false (fun h=>by cases h)
theorem Ymw:TyOk Tryz.prog 112 ⟨.struct [(0,3),(1,3)],2,16,[.int .i64 0,.int .i64 0],true⟩:=TyOk.of (P:=Tryz.prog) (t:=112) (.struct [(0,3),(1,3)]) 2 16 [.int .i64 0,.int .i64 0] (.agg #[.int .i64 0,.int .i64 0]) (by kernel_rfl) rfl ⟨_,Tryz.underlying112,rfl⟩ rfl rfl true (fun _=>by unfold Zj4;exact ⟨by kernel_rfl,by kernel_rfl,by kernel_rfl⟩)
theorem Ymx:TyOk Tryz.prog 116 ⟨.ptr 120,1,8,[.pointer none],false⟩:=TyOk.of (P:=Tryz.prog) (t:=116) (.ptr 120) 1 8 [.pointer none] (.pointer none) (by kernel_rfl) rfl Tryz.underlying116 rfl rfl false (fun h=>by cases h)
theorem Ymy:TyOk Tryz.prog 117 ⟨.ptr 124,1,8,[.pointer none],false⟩:=TyOk.of (P:=Tryz.prog) (t:=117) (.ptr 124) 1 8 [.pointer none] (.pointer none) (by kernel_rfl) rfl Tryz.underlying117 rfl rfl false (fun h=>by cases h)
theorem Ymz:TyOk Tryz.prog 119 ⟨.struct [(0,117),(1,4)],2,16,[.pointer none,.bool false],false⟩:=TyOk.of (P:=Tryz.prog) (t:=119) (.struct [(0,117),(1,4)]) 2 16 [.pointer none,.bool false] (.agg #[.pointer none,.bool false]) (by kernel_rfl) rfl ⟨_,Tryz.underlying119,rfl⟩ rfl rfl false (fun h=>by cases h)
theorem Ym0:TyOk Tryz.prog 120 ⟨.struct [(0,117),(1,4)],2,16,[.pointer none,.bool false],false⟩:=TyOk.of (P:=Tryz.prog) (t:=120) (.struct [(0,117),(1,4)]) 2 16 [.pointer none,.bool false] (.agg #[.pointer none,.bool false]) (by kernel_rfl) rfl ⟨_,Tryz.underlying120,rfl⟩ rfl rfl false (fun h=>by cases h)
theorem Ym1:TyOk Tryz.prog 123 ⟨.struct [(0,53),(1,3),(2,3),(3,3)],4,48,[.slice none 0 0,.int .i64 0,.int .i64 0,.int .i64 0],false⟩:=TyOk.of (P:=Tryz.prog) (t:=123) (.struct [(0,53),(1,3),(2,3),(3,3)]) 4 48 [.slice none 0 0,.int .i64 0,.int .i64 0,.int .i64 0] (.agg #[.slice none 0 0,.int .i64 0,.int .i64 0,.int .i64 0]) (by kernel_rfl) rfl ⟨_,Tryz.underlying123,rfl⟩ rfl rfl false (fun h=>by cases h)
theorem Ym2:TyOk Tryz.prog 124 ⟨.struct [(0,53),(1,3),(2,3),(3,3)],4,48,[.slice none 0 0,.int .i64 0,.int .i64 0,.int .i64 0],false⟩:=TyOk.of (P:=Tryz.prog) (t:=124) (.struct [(0,53),(1,3),(2,3),(3,3)]) 4 48 [.slice none 0 0,.int .i64 0,.int .i64 0,.int .i64 0] (.agg #[.slice none 0 0,.int .i64 0,.int .i64 0,.int .i64 0]) (by kernel_rfl) rfl ⟨_,Tryz.underlying124,rfl⟩ rfl rfl false (fun h=>by cases h)
theorem Ym3:TyOk Tryz.prog 125 ⟨.struct [(0,4),(1,3)],2,16,[.bool false,.int .i64 0],false⟩:=TyOk.of (P:=Tryz.prog) (t:=125) (.struct [(0,4),(1,3)]) 2 16 [.bool false,.int .i64 0] (.agg #[.bool false,.int .i64 0]) (by kernel_rfl) rfl ⟨_,Tryz.underlying125,rfl⟩ rfl rfl false (fun h=>by cases h)
theorem Ym4:TyOk Tryz.prog 126 ⟨.struct [(0,4),(1,3)],2,16,[.bool false,.int .i64 0],true⟩:=TyOk.of (P:=Tryz.prog) (t:=126) (.struct [(0,4),(1,3)]) 2 16 [.bool false,.int .i64 0] (.agg #[.bool false,.int .i64 0]) (by kernel_rfl) rfl ⟨_,Tryz.underlying126,rfl⟩ rfl rfl true (fun _=>by unfold Zj4;exact ⟨by kernel_rfl,by kernel_rfl,by kernel_rfl⟩)
theorem Ym5:TyOk Tryz.prog 139 ⟨.struct [(0,22),(1,3)],2,32,[.slice none 0 0,.int .i64 0],false⟩:=TyOk.of (P:=Tryz.prog) (t:=139) (.struct [(0,22),(1,3)]) 2 32 [.slice none 0 0,.int .i64 0] (.agg #[.slice none 0 0,.int .i64 0]) (by kernel_rfl) rfl ⟨_,Tryz.underlying139,rfl⟩ rfl rfl false (fun h=>by cases h)
theorem Ym6:TyOk Tryz.prog 140 ⟨.struct [(0,22),(1,3)],2,32,[.slice none 0 0,.int .i64 0],false⟩:=TyOk.of (P:=Tryz.prog) (t:=140) (.struct [(0,22),(1,3)]) 2 32 [.slice none 0 0,.int .i64 0] (.agg #[.slice none 0 0,.int .i64 0]) (by kernel_rfl) rfl ⟨_,Tryz.underlying140,rfl⟩ rfl rfl false (fun h=>by cases h)
theorem Ym7:TyOk Tryz.prog 142 ⟨.struct [(0,3)],1,8,[.int .i64 0],false⟩:=TyOk.of (P:=Tryz.prog) (t:=142) (.struct [(0,3)]) 1 8 [.int .i64 0] (.agg #[.int .i64 0]) (by kernel_rfl) rfl ⟨_,Tryz.underlying142,rfl⟩ rfl rfl false (fun h=>by cases h)
theorem Ym8:TyOk Tryz.prog 143 ⟨.struct [(0,3)],1,8,[.int .i64 0],true⟩:=TyOk.of (P:=Tryz.prog) (t:=143) (.struct [(0,3)]) 1 8 [.int .i64 0] (.agg #[.int .i64 0]) (by kernel_rfl) rfl ⟨_,Tryz.underlying143,rfl⟩ rfl rfl true (fun _=>by unfold Zj4;exact ⟨by kernel_rfl,by kernel_rfl,by kernel_rfl⟩)
theorem Ym9:TyOk Tryz.prog 146 ⟨.struct [(0,53),(1,3),(2,3)],3,40,[.slice none 0 0,.int .i64 0,.int .i64 0],false⟩:=TyOk.of (P:=Tryz.prog) (t:=146) (.struct [(0,53),(1,3),(2,3)]) 3 40 [.slice none 0 0,.int .i64 0,.int .i64 0] (.agg #[.slice none 0 0,.int .i64 0,.int .i64 0]) (by kernel_rfl) rfl ⟨_,Tryz.underlying146,rfl⟩ rfl rfl false (fun h=>by cases h)
theorem Yna:TyOk Tryz.prog 147 ⟨.struct [(0,53),(1,3),(2,3)],3,40,[.slice none 0 0,.int .i64 0,.int .i64 0],false⟩:=TyOk.of (P:=Tryz.prog) (t:=147) (.struct [(0,53),(1,3),(2,3)]) 3 40 [.slice none 0 0,.int .i64 0,.int .i64 0] (.agg #[.slice none 0 0,.int .i64 0,.int .i64 0]) (by kernel_rfl) rfl ⟨_,Tryz.underlying147,rfl⟩ rfl rfl false (fun h=>by cases h)
theorem Ynb:TyOk Tryz.prog 154 ⟨.struct [(0,3),(1,3),(2,3),(3,3),(4,3),(5,3),(6,3),(7,4)],8,64,[.int .i64 0,.int .i64 0,.int .i64 0,.int .i64 0,.int .i64 0,.int .i64 0,.int .i64 0,.bool false],false⟩:=TyOk.of (P:=Tryz.prog) (t:=154) (.struct [(0,3),(1,3),(2,3),(3,3),(4,3),(5,3),(6,3),(7,4)]) 8 64 [.int .i64 0,.int .i64 0,.int .i64 0,.int .i64 0,.int .i64 0,.int .i64 0,.int .i64 0,.bool false] (.agg #[.int .i64 0,.int .i64 0,.int .i64 0,.int .i64 0,.int .i64 0,.int .i64 0,.int .i64 0,.bool false]) (by kernel_rfl) rfl ⟨_,Tryz.underlying154,rfl⟩ rfl rfl false (fun h=>by cases h)
theorem Ync:TyOk Tryz.prog 155 ⟨.struct [(0,3),(1,3),(2,3),(3,3),(4,3),(5,3),(6,3),(7,4)],8,64,[.int .i64 0,.int .i64 0,.int .i64 0,.int .i64 0,.int .i64 0,.int .i64 0,.int .i64 0,.bool false],true⟩:=TyOk.of (P:=Tryz.prog) (t:=155) (.struct [(0,3),(1,3),(2,3),(3,3),(4,3),(5,3),(6,3),(7,4)]) 8 64 [.int .i64 0,.int .i64 0,.int .i64 0,.int .i64 0,.int .i64 0,.int .i64 0,.int .i64 0,.bool false] (.agg #[.int .i64 0,.int .i64 0,.int .i64 0,.int .i64 0,.int .i64 0,.int .i64 0,.int .i64 0,.bool false]) (by kernel_rfl) rfl ⟨_,Tryz.underlying155,rfl⟩ rfl rfl true (fun _=>by unfold Zj4;exact ⟨by kernel_rfl,by kernel_rfl,by kernel_rfl⟩)
theorem Ynd:TyOk Tryz.prog 156 ⟨.struct [(0,155),(8,3),(9,3)],10,80,[.int .i64 0,.int .i64 0,.int .i64 0,.int .i64 0,.int .i64 0,.int .i64 0,.int .i64 0,.bool false,.int .i64 0,.int .i64 0],false⟩:=TyOk.of (P:=Tryz.prog) (t:=156) (.struct [(0,155),(8,3),(9,3)]) 10 80 [.int .i64 0,.int .i64 0,.int .i64 0,.int .i64 0,.int .i64 0,.int .i64 0,.int .i64 0,.bool false,.int .i64 0,.int .i64 0] (.agg #[.int .i64 0,.int .i64 0,.int .i64 0,.int .i64 0,.int .i64 0,.int .i64 0,.int .i64 0,.bool false,.int .i64 0,.int .i64 0]) (by kernel_rfl) rfl ⟨_,Tryz.underlying156,rfl⟩ rfl rfl false (fun h=>by cases h)
theorem Yne:TyOk Tryz.prog 157 ⟨.struct [(0,155),(8,3),(9,3)],10,80,[.int .i64 0,.int .i64 0,.int .i64 0,.int .i64 0,.int .i64 0,.int .i64 0,.int .i64 0,.bool false,.int .i64 0,.int .i64 0],true⟩:=TyOk.of (P:=Tryz.prog) (t:=157) (.struct [(0,155),(8,3),(9,3)]) 10 80 [.int .i64 0,.int .i64 0,.int .i64 0,.int .i64 0,.int .i64 0,.int .i64 0,.int .i64 0,.bool false,.int .i64 0,.int .i64 0] (.agg #[.int .i64 0,.int .i64 0,.int .i64 0,.int .i64 0,.int .i64 0,.int .i64 0,.int .i64 0,.bool false,.int .i64 0,.int .i64 0]) (by kernel_rfl) rfl ⟨_,Tryz.underlying157,rfl⟩ rfl rfl true (fun _=>by unfold Zj4;exact ⟨by kernel_rfl,by kernel_rfl,by kernel_rfl⟩)
theorem Ynf:TyOk Tryz.prog 164 ⟨.ptr 112,1,8,[.pointer none],false⟩:=TyOk.of (P:=Tryz.prog) (t:=164) (.ptr 112) 1 8 [.pointer none] (.pointer none) (by kernel_rfl) rfl Tryz.underlying164 rfl rfl false (fun h=>by cases h)
theorem Yng:TyOk Tryz.prog 185 ⟨.arr 8 5,8,8,[.int .u8 0,.int .u8 0,.int .u8 0,.int .u8 0,.int .u8 0,.int .u8 0,.int .u8 0,.int .u8 0],true⟩:=TyOk.of (P:=Tryz.prog) (t:=185) (.arr 8 5) 8 8 [.int .u8 0,.int .u8 0,.int .u8 0,.int .u8 0,.int .u8 0,.int .u8 0,.int .u8 0,.int .u8 0] (.agg #[.int .u8 0,.int .u8 0,.int .u8 0,.int .u8 0,.int .u8 0,.int .u8 0,.int .u8 0,.int .u8 0]) (by kernel_rfl) rfl Tryz.underlying185 rfl rfl true (fun _=>by unfold Zj4;exact ⟨by kernel_rfl,by kernel_rfl,by kernel_rfl⟩)
theorem Ynh:TyOk Tryz.prog 189 ⟨.slice 5,1,24,[.slice none 0 0],false⟩:=TyOk.of (P:=Tryz.prog) (t:=189) (.slice 5) 1 24 [.slice none 0 0] (.slice none 0 0) (by kernel_rfl) rfl Tryz.underlying189 rfl rfl false (fun h=>by cases h)
theorem Yni:TyOk Tryz.prog 190 ⟨.ptr 140,1,8,[.pointer none],false⟩:=TyOk.of (P:=Tryz.prog) (t:=190) (.ptr 140) 1 8 [.pointer none] (.pointer none) (by kernel_rfl) rfl Tryz.underlying190 rfl rfl false (fun h=>by cases h)
theorem Ynj:TyOk Tryz.prog 191 ⟨.struct [(0,3),(1,3),(2,3),(3,3),(4,3),(5,3),(6,3),(7,4)],8,64,[.int .i64 0,.int .i64 0,.int .i64 0,.int .i64 0,.int .i64 0,.int .i64 0,.int .i64 0,.bool false],true⟩:=TyOk.of (P:=Tryz.prog) (t:=191) (.struct [(0,3),(1,3),(2,3),(3,3),(4,3),(5,3),(6,3),(7,4)]) 8 64 [.int .i64 0,.int .i64 0,.int .i64 0,.int .i64 0,.int .i64 0,.int .i64 0,.int .i64 0,.bool false] (.agg #[.int .i64 0,.int .i64 0,.int .i64 0,.int .i64 0,.int .i64 0,.int .i64 0,.int .i64 0,.bool false]) (by kernel_rfl) rfl ⟨_,Tryz.underlying191,rfl⟩ rfl rfl true (fun _=>by unfold Zj4;exact ⟨by kernel_rfl,by kernel_rfl,by kernel_rfl⟩)
theorem Ynk:TyOk Tryz.prog 197 ⟨.ptr 143,1,8,[.pointer none],false⟩:=TyOk.of (P:=Tryz.prog) (t:=197) (.ptr 143) 1 8 [.pointer none] (.pointer none) (by kernel_rfl) rfl Tryz.underlying197 rfl rfl false (fun h=>by cases h)
theorem Ynl:TyOk Tryz.prog 199 ⟨.struct [(0,28),(1,3),(2,23),(3,23)],4,80,[.slice none 0 0,.int .i64 0,.slice none 0 0,.slice none 0 0],false⟩:=TyOk.of (P:=Tryz.prog) (t:=199) (.struct [(0,28),(1,3),(2,23),(3,23)]) 4 80 [.slice none 0 0,.int .i64 0,.slice none 0 0,.slice none 0 0] (.agg #[.slice none 0 0,.int .i64 0,.slice none 0 0,.slice none 0 0]) (by kernel_rfl) rfl ⟨_,Tryz.underlying199,rfl⟩ rfl rfl false (fun h=>by cases h)
theorem Ynm:TyOk Tryz.prog 200 ⟨.struct [(0,28),(1,3),(2,23),(3,23)],4,80,[.slice none 0 0,.int .i64 0,.slice none 0 0,.slice none 0 0],false⟩:=TyOk.of (P:=Tryz.prog) (t:=200) (.struct [(0,28),(1,3),(2,23),(3,23)]) 4 80 [.slice none 0 0,.int .i64 0,.slice none 0 0,.slice none 0 0] (.agg #[.slice none 0 0,.int .i64 0,.slice none 0 0,.slice none 0 0]) (by kernel_rfl) rfl ⟨_,Tryz.underlying200,rfl⟩ rfl rfl false (fun h=>by cases h)
theorem Ynn:TyOk Tryz.prog 203 ⟨.ptr 23,1,8,[.pointer none],false⟩:=TyOk.of (P:=Tryz.prog) (t:=203) (.ptr 23) 1 8 [.pointer none] (.pointer none) (by kernel_rfl) rfl Tryz.underlying203 rfl rfl false (fun h=>by cases h)
theorem Yno:TyOk Tryz.prog 207 ⟨.struct [(0,3),(1,3),(2,23),(3,23),(4,28)],5,88,[.int .i64 0,.int .i64 0,.slice none 0 0,.slice none 0 0,.slice none 0 0],false⟩:=TyOk.of (P:=Tryz.prog) (t:=207) (.struct [(0,3),(1,3),(2,23),(3,23),(4,28)]) 5 88 [.int .i64 0,.int .i64 0,.slice none 0 0,.slice none 0 0,.slice none 0 0] (.agg #[.int .i64 0,.int .i64 0,.slice none 0 0,.slice none 0 0,.slice none 0 0]) (by kernel_rfl) rfl ⟨_,Tryz.underlying207,rfl⟩ rfl rfl false (fun h=>by cases h)
theorem Ynp:TyOk Tryz.prog 208 ⟨.struct [(0,3),(1,3),(2,23),(3,23),(4,28)],5,88,[.int .i64 0,.int .i64 0,.slice none 0 0,.slice none 0 0,.slice none 0 0],false⟩:=TyOk.of (P:=Tryz.prog) (t:=208) (.struct [(0,3),(1,3),(2,23),(3,23),(4,28)]) 5 88 [.int .i64 0,.int .i64 0,.slice none 0 0,.slice none 0 0,.slice none 0 0] (.agg #[.int .i64 0,.int .i64 0,.slice none 0 0,.slice none 0 0,.slice none 0 0]) (by kernel_rfl) rfl ⟨_,Tryz.underlying208,rfl⟩ rfl rfl false (fun h=>by cases h)
theorem Ynq:TyOk Tryz.prog 209 ⟨.slice 212,1,24,[.slice none 0 0],false⟩:=TyOk.of (P:=Tryz.prog) (t:=209) (.slice 212) 1 24 [.slice none 0 0] (.slice none 0 0) (by kernel_rfl) rfl Tryz.underlying209 rfl rfl false (fun h=>by cases h)
theorem Ynr:TyOk Tryz.prog 211 ⟨.struct [(0,3),(1,3)],2,16,[.int .i64 0,.int .i64 0],false⟩:=TyOk.of (P:=Tryz.prog) (t:=211) (.struct [(0,3),(1,3)]) 2 16 [.int .i64 0,.int .i64 0] (.agg #[.int .i64 0,.int .i64 0]) (by kernel_rfl) rfl ⟨_,Tryz.underlying211,rfl⟩ rfl rfl false (fun h=>by cases h)
theorem Yns:TyOk Tryz.prog 212 ⟨.struct [(0,3),(1,3)],2,16,[.int .i64 0,.int .i64 0],true⟩:=TyOk.of (P:=Tryz.prog) (t:=212) (.struct [(0,3),(1,3)]) 2 16 [.int .i64 0,.int .i64 0] (.agg #[.int .i64 0,.int .i64 0]) (by kernel_rfl) rfl ⟨_,Tryz.underlying212,rfl⟩ rfl rfl true (fun _=>by unfold Zj4;exact ⟨by kernel_rfl,by kernel_rfl,by kernel_rfl⟩)
theorem Ynt:TyOk Tryz.prog 219 ⟨.struct [(0,3)],1,8,[.int .i64 0],false⟩:=TyOk.of (P:=Tryz.prog) (t:=219) (.struct [(0,3)]) 1 8 [.int .i64 0] (.agg #[.int .i64 0]) (by kernel_rfl) rfl ⟨_,Tryz.underlying219,rfl⟩ rfl rfl false (fun h=>by cases h)
theorem Ynu:TyOk Tryz.prog 220 ⟨.struct [(0,3)],1,8,[.int .i64 0],true⟩:=TyOk.of (P:=Tryz.prog) (t:=220) (.struct [(0,3)]) 1 8 [.int .i64 0] (.agg #[.int .i64 0]) (by kernel_rfl) rfl ⟨_,Tryz.underlying220,rfl⟩ rfl rfl true (fun _=>by unfold Zj4;exact ⟨by kernel_rfl,by kernel_rfl,by kernel_rfl⟩)
theorem Ynv:TyOk Tryz.prog 224 ⟨.struct [(0,62),(9,62),(18,3),(19,3),(20,3),(21,3),(22,3),(23,28)],24,208,[.pointer none,.int .i64 0,.int .i64 0,.int .i64 0,.int .i64 0,.int .i64 0,.int .i64 0,.int .i64 0,.int .i64 0,.pointer none,.int .i64 0,.int .i64 0,.int .i64 0,.int .i64 0,.int .i64 0,.int .i64 0,.int .i64 0,.int .i64 0,.int .i64 0,.int .i64 0,.int .i64 0,.int .i64 0,.int .i64 0,.slice none 0 0],false⟩:=TyOk.of (P:=Tryz.prog) (t:=224) (.struct [(0,62),(9,62),(18,3),(19,3),(20,3),(21,3),(22,3),(23,28)]) 24 208 [.pointer none,.int .i64 0,.int .i64 0,.int .i64 0,.int .i64 0,.int .i64 0,.int .i64 0,.int .i64 0,.int .i64 0,.pointer none,.int .i64 0,.int .i64 0,.int .i64 0,.int .i64 0,.int .i64 0,.int .i64 0,.int .i64 0,.int .i64 0,.int .i64 0,.int .i64 0,.int .i64 0,.int .i64 0,.int .i64 0,.slice none 0 0] (.agg #[.pointer none,.int .i64 0,.int .i64 0,.int .i64 0,.int .i64 0,.int .i64 0,.int .i64 0,.int .i64 0,.int .i64 0,.pointer none,.int .i64 0,.int .i64 0,.int .i64 0,.int .i64 0,.int .i64 0,.int .i64 0,.int .i64 0,.int .i64 0,.int .i64 0,.int .i64 0,.int .i64 0,.int .i64 0,.int .i64 0,.slice none 0 0]) (by kernel_rfl) rfl ⟨_,Tryz.underlying224,rfl⟩ rfl rfl false (fun h=>by cases h)
theorem Ynw:TyOk Tryz.prog 225 ⟨.struct [(0,62),(9,62),(18,3),(19,3),(20,3),(21,3),(22,3),(23,28)],24,208,[.pointer none,.int .i64 0,.int .i64 0,.int .i64 0,.int .i64 0,.int .i64 0,.int .i64 0,.int .i64 0,.int .i64 0,.pointer none,.int .i64 0,.int .i64 0,.int .i64 0,.int .i64 0,.int .i64 0,.int .i64 0,.int .i64 0,.int .i64 0,.int .i64 0,.int .i64 0,.int .i64 0,.int .i64 0,.int .i64 0,.slice none 0 0],false⟩:=TyOk.of (P:=Tryz.prog) (t:=225) (.struct [(0,62),(9,62),(18,3),(19,3),(20,3),(21,3),(22,3),(23,28)]) 24 208 [.pointer none,.int .i64 0,.int .i64 0,.int .i64 0,.int .i64 0,.int .i64 0,.int .i64 0,.int .i64 0,.int .i64 0,.pointer none,.int .i64 0,.int .i64 0,.int .i64 0,.int .i64 0,.int .i64 0,.int .i64 0,.int .i64 0,.int .i64 0,.int .i64 0,.int .i64 0,.int .i64 0,.int .i64 0,.int .i64 0,.slice none 0 0] (.agg #[.pointer none,.int .i64 0,.int .i64 0,.int .i64 0,.int .i64 0,.int .i64 0,.int .i64 0,.int .i64 0,.int .i64 0,.pointer none,.int .i64 0,.int .i64 0,.int .i64 0,.int .i64 0,.int .i64 0,.int .i64 0,.int .i64 0,.int .i64 0,.int .i64 0,.int .i64 0,.int .i64 0,.int .i64 0,.int .i64 0,.slice none 0 0]) (by kernel_rfl) rfl ⟨_,Tryz.underlying225,rfl⟩ rfl rfl false (fun h=>by cases h)
theorem Ynx:TyOk Tryz.prog 227 ⟨.struct [(0,191),(8,3),(9,3)],10,80,[.int .i64 0,.int .i64 0,.int .i64 0,.int .i64 0,.int .i64 0,.int .i64 0,.int .i64 0,.bool false,.int .i64 0,.int .i64 0],false⟩:=TyOk.of (P:=Tryz.prog) (t:=227) (.struct [(0,191),(8,3),(9,3)]) 10 80 [.int .i64 0,.int .i64 0,.int .i64 0,.int .i64 0,.int .i64 0,.int .i64 0,.int .i64 0,.bool false,.int .i64 0,.int .i64 0] (.agg #[.int .i64 0,.int .i64 0,.int .i64 0,.int .i64 0,.int .i64 0,.int .i64 0,.int .i64 0,.bool false,.int .i64 0,.int .i64 0]) (by kernel_rfl) rfl ⟨_,Tryz.underlying227,rfl⟩ rfl rfl false (fun h=>by cases h)
theorem Yny:TyOk Tryz.prog 228 ⟨.struct [(0,191),(8,3),(9,3)],10,80,[.int .i64 0,.int .i64 0,.int .i64 0,.int .i64 0,.int .i64 0,.int .i64 0,.int .i64 0,.bool false,.int .i64 0,.int .i64 0],true⟩:=TyOk.of (P:=Tryz.prog) (t:=228) (.struct [(0,191),(8,3),(9,3)]) 10 80 [.int .i64 0,.int .i64 0,.int .i64 0,.int .i64 0,.int .i64 0,.int .i64 0,.int .i64 0,.bool false,.int .i64 0,.int .i64 0] (.agg #[.int .i64 0,.int .i64 0,.int .i64 0,.int .i64 0,.int .i64 0,.int .i64 0,.int .i64 0,.bool false,.int .i64 0,.int .i64 0]) (by kernel_rfl) rfl ⟨_,Tryz.underlying228,rfl⟩ rfl rfl true (fun _=>by unfold Zj4;exact ⟨by kernel_rfl,by kernel_rfl,by kernel_rfl⟩)
theorem Ynz:TyOk Tryz.prog 236 ⟨.slice 3,1,24,[.slice none 0 0],false⟩:=TyOk.of (P:=Tryz.prog) (t:=236) (.slice 3) 1 24 [.slice none 0 0] (.slice none 0 0) (by kernel_rfl) rfl Tryz.underlying236 rfl rfl false (fun h=>by cases h)
theorem Yn0:TyOk Tryz.prog 239 ⟨.slice 242,1,24,[.slice none 0 0],false⟩:=TyOk.of (P:=Tryz.prog) (t:=239) (.slice 242) 1 24 [.slice none 0 0] (.slice none 0 0) (by kernel_rfl) rfl Tryz.underlying239 rfl rfl false (fun h=>by cases h)
theorem Yn1:TyOk Tryz.prog 242 ⟨.struct [(0,3),(1,3)],2,16,[.int .i64 0,.int .i64 0],true⟩:=TyOk.of (P:=Tryz.prog) (t:=242) (.struct [(0,3),(1,3)]) 2 16 [.int .i64 0,.int .i64 0] (.agg #[.int .i64 0,.int .i64 0]) (by kernel_rfl) rfl ⟨_,Tryz.underlying242,rfl⟩ rfl rfl true (fun _=>by unfold Zj4;exact ⟨by kernel_rfl,by kernel_rfl,by kernel_rfl⟩)
theorem Yn2:TyOk Tryz.prog 246 ⟨.struct [(0,3)],1,8,[.int .i64 0],false⟩:=TyOk.of (P:=Tryz.prog) (t:=246) (.struct [(0,3)]) 1 8 [.int .i64 0] (.agg #[.int .i64 0]) (by kernel_rfl) rfl ⟨_,Tryz.underlying246,rfl⟩ rfl rfl false (fun h=>by cases h)
theorem Yn3:TyOk Tryz.prog 247 ⟨.struct [(0,3)],1,8,[.int .i64 0],true⟩:=TyOk.of (P:=Tryz.prog) (t:=247) (.struct [(0,3)]) 1 8 [.int .i64 0] (.agg #[.int .i64 0]) (by kernel_rfl) rfl ⟨_,Tryz.underlying247,rfl⟩ rfl rfl true (fun _=>by unfold Zj4;exact ⟨by kernel_rfl,by kernel_rfl,by kernel_rfl⟩)
theorem Yn4:TyOk Tryz.prog 254 ⟨.struct [(0,62),(9,3),(10,23)],11,104,[.pointer none,.int .i64 0,.int .i64 0,.int .i64 0,.int .i64 0,.int .i64 0,.int .i64 0,.int .i64 0,.int .i64 0,.int .i64 0,.slice none 0 0],false⟩:=TyOk.of (P:=Tryz.prog) (t:=254) (.struct [(0,62),(9,3),(10,23)]) 11 104 [.pointer none,.int .i64 0,.int .i64 0,.int .i64 0,.int .i64 0,.int .i64 0,.int .i64 0,.int .i64 0,.int .i64 0,.int .i64 0,.slice none 0 0] (.agg #[.pointer none,.int .i64 0,.int .i64 0,.int .i64 0,.int .i64 0,.int .i64 0,.int .i64 0,.int .i64 0,.int .i64 0,.int .i64 0,.slice none 0 0]) (by kernel_rfl) rfl ⟨_,Tryz.underlying254,rfl⟩ rfl rfl false (fun h=>by cases h)
theorem Yn5:TyOk Tryz.prog 255 ⟨.struct [(0,62),(9,3),(10,23)],11,104,[.pointer none,.int .i64 0,.int .i64 0,.int .i64 0,.int .i64 0,.int .i64 0,.int .i64 0,.int .i64 0,.int .i64 0,.int .i64 0,.slice none 0 0],false⟩:=TyOk.of (P:=Tryz.prog) (t:=255) (.struct [(0,62),(9,3),(10,23)]) 11 104 [.pointer none,.int .i64 0,.int .i64 0,.int .i64 0,.int .i64 0,.int .i64 0,.int .i64 0,.int .i64 0,.int .i64 0,.int .i64 0,.slice none 0 0] (.agg #[.pointer none,.int .i64 0,.int .i64 0,.int .i64 0,.int .i64 0,.int .i64 0,.int .i64 0,.int .i64 0,.int .i64 0,.int .i64 0,.slice none 0 0]) (by kernel_rfl) rfl ⟨_,Tryz.underlying255,rfl⟩ rfl rfl false (fun h=>by cases h)
theorem Yn6:TyOk Tryz.prog 257 ⟨.slice 126,1,24,[.slice none 0 0],false⟩:=TyOk.of (P:=Tryz.prog) (t:=257) (.slice 126) 1 24 [.slice none 0 0] (.slice none 0 0) (by kernel_rfl) rfl Tryz.underlying257 rfl rfl false (fun h=>by cases h)
theorem Yn7:TyOk Tryz.prog 267 ⟨.ptr 200,1,8,[.pointer none],false⟩:=TyOk.of (P:=Tryz.prog) (t:=267) (.ptr 200) 1 8 [.pointer none] (.pointer none) (by kernel_rfl) rfl Tryz.underlying267 rfl rfl false (fun h=>by cases h)
theorem Yn8:TyOk Tryz.prog 275 ⟨.ptr 208,1,8,[.pointer none],false⟩:=TyOk.of (P:=Tryz.prog) (t:=275) (.ptr 208) 1 8 [.pointer none] (.pointer none) (by kernel_rfl) rfl Tryz.underlying275 rfl rfl false (fun h=>by cases h)
theorem Yn9:TyOk Tryz.prog 278 ⟨.ptr 220,1,8,[.pointer none],false⟩:=TyOk.of (P:=Tryz.prog) (t:=278) (.ptr 220) 1 8 [.pointer none] (.pointer none) (by kernel_rfl) rfl Tryz.underlying278 rfl rfl false (fun h=>by cases h)
theorem Yoa:TyOk Tryz.prog 284 ⟨.ptr 330,1,8,[.pointer none],false⟩:=TyOk.of (P:=Tryz.prog) (t:=284) (.ptr 330) 1 8 [.pointer none] (.pointer none) (by kernel_rfl) rfl Tryz.underlying284 rfl rfl false (fun h=>by cases h)
theorem Yob:TyOk Tryz.prog 288 ⟨.ptr 225,1,8,[.pointer none],false⟩:=TyOk.of (P:=Tryz.prog) (t:=288) (.ptr 225) 1 8 [.pointer none] (.pointer none) (by kernel_rfl) rfl Tryz.underlying288 rfl rfl false (fun h=>by cases h)
theorem Yoc:TyOk Tryz.prog 295 ⟨.slice 236,1,24,[.slice none 0 0],false⟩:=TyOk.of (P:=Tryz.prog) (t:=295) (.slice 236) 1 24 [.slice none 0 0] (.slice none 0 0) (by kernel_rfl) rfl Tryz.underlying295 rfl rfl false (fun h=>by cases h)
theorem Yod:TyOk Tryz.prog 297 ⟨.slice 300,1,24,[.slice none 0 0],false⟩:=TyOk.of (P:=Tryz.prog) (t:=297) (.slice 300) 1 24 [.slice none 0 0] (.slice none 0 0) (by kernel_rfl) rfl Tryz.underlying297 rfl rfl false (fun h=>by cases h)
theorem Yoe:TyOk Tryz.prog 299 ⟨.struct [(0,3),(1,3)],2,16,[.int .i64 0,.int .i64 0],false⟩:=TyOk.of (P:=Tryz.prog) (t:=299) (.struct [(0,3),(1,3)]) 2 16 [.int .i64 0,.int .i64 0] (.agg #[.int .i64 0,.int .i64 0]) (by kernel_rfl) rfl ⟨_,Tryz.underlying299,rfl⟩ rfl rfl false (fun h=>by cases h)
theorem Yof:TyOk Tryz.prog 300 ⟨.struct [(0,3),(1,3)],2,16,[.int .i64 0,.int .i64 0],true⟩:=TyOk.of (P:=Tryz.prog) (t:=300) (.struct [(0,3),(1,3)]) 2 16 [.int .i64 0,.int .i64 0] (.agg #[.int .i64 0,.int .i64 0]) (by kernel_rfl) rfl ⟨_,Tryz.underlying300,rfl⟩ rfl rfl true (fun _=>by unfold Zj4;exact ⟨by kernel_rfl,by kernel_rfl,by kernel_rfl⟩)
theorem Yog:TyOk Tryz.prog 301 ⟨.ptr 247,1,8,[.pointer none],false⟩:=TyOk.of (P:=Tryz.prog) (t:=301) (.ptr 247) 1 8 [.pointer none] (.pointer none) (by kernel_rfl) rfl Tryz.underlying301 rfl rfl false (fun h=>by cases h)
theorem Yoh:TyOk Tryz.prog 304 ⟨.ptr 255,1,8,[.pointer none],false⟩:=TyOk.of (P:=Tryz.prog) (t:=304) (.ptr 255) 1 8 [.pointer none] (.pointer none) (by kernel_rfl) rfl Tryz.underlying304 rfl rfl false (fun h=>by cases h)
theorem Yoi:TyOk Tryz.prog 309 ⟨.arr 7 3,7,56,[.int .i64 0,.int .i64 0,.int .i64 0,.int .i64 0,.int .i64 0,.int .i64 0,.int .i64 0],true⟩:=TyOk.of (P:=Tryz.prog) (t:=309) (.arr 7 3) 7 56 [.int .i64 0,.int .i64 0,.int .i64 0,.int .i64 0,.int .i64 0,.int .i64 0,.int .i64 0] (.agg #[.int .i64 0,.int .i64 0,.int .i64 0,.int .i64 0,.int .i64 0,.int .i64 0,.int .i64 0]) (by kernel_rfl) rfl Tryz.underlying309 rfl rfl true (fun _=>by unfold Zj4;exact ⟨by kernel_rfl,by kernel_rfl,by kernel_rfl⟩)
theorem Yoj:TyOk Tryz.prog 310 ⟨.int .u32,1,4,[.int .u32 0],false⟩:=TyOk.of (P:=Tryz.prog) (t:=310) (.int .u32) 1 4 [.int .u32 0] (.int .u32 0) (by kernel_rfl) rfl Tryz.underlying310 rfl rfl false (fun h=>by cases h)
theorem Yok:TyOk Tryz.prog 312 ⟨.ptr 349,1,8,[.pointer none],false⟩:=TyOk.of (P:=Tryz.prog) (t:=312) (.ptr 349) 1 8 [.pointer none] (.pointer none) (by kernel_rfl) rfl Tryz.underlying312 rfl rfl false (fun h=>by cases h)
theorem Yol:TyOk Tryz.prog 314 ⟨.slice 317,1,24,[.slice none 0 0],false⟩:=TyOk.of (P:=Tryz.prog) (t:=314) (.slice 317) 1 24 [.slice none 0 0] (.slice none 0 0) (by kernel_rfl) rfl Tryz.underlying314 rfl rfl false (fun h=>by cases h)
theorem Yom:TyOk Tryz.prog 316 ⟨.struct [(0,3),(1,3)],2,16,[.int .i64 0,.int .i64 0],false⟩:=TyOk.of (P:=Tryz.prog) (t:=316) (.struct [(0,3),(1,3)]) 2 16 [.int .i64 0,.int .i64 0] (.agg #[.int .i64 0,.int .i64 0]) (by kernel_rfl) rfl ⟨_,Tryz.underlying316,rfl⟩ rfl rfl false (fun h=>by cases h)
theorem Yon:TyOk Tryz.prog 317 ⟨.struct [(0,3),(1,3)],2,16,[.int .i64 0,.int .i64 0],true⟩:=TyOk.of (P:=Tryz.prog) (t:=317) (.struct [(0,3),(1,3)]) 2 16 [.int .i64 0,.int .i64 0] (.agg #[.int .i64 0,.int .i64 0]) (by kernel_rfl) rfl ⟨_,Tryz.underlying317,rfl⟩ rfl rfl true (fun _=>by unfold Zj4;exact ⟨by kernel_rfl,by kernel_rfl,by kernel_rfl⟩)
theorem Yoo:TyOk Tryz.prog 319 ⟨.ptr 270,1,8,[.pointer none],false⟩:=TyOk.of (P:=Tryz.prog) (t:=319) (.ptr 270) 1 8 [.pointer none] (.pointer none) (by kernel_rfl) rfl Tryz.underlying319 rfl rfl false (fun h=>by cases h)
theorem Yop:TyOk Tryz.prog 321 ⟨.arr 3 3,3,24,[.int .i64 0,.int .i64 0,.int .i64 0],true⟩:=TyOk.of (P:=Tryz.prog) (t:=321) (.arr 3 3) 3 24 [.int .i64 0,.int .i64 0,.int .i64 0] (.agg #[.int .i64 0,.int .i64 0,.int .i64 0]) (by kernel_rfl) rfl Tryz.underlying321 rfl rfl true (fun _=>by unfold Zj4;exact ⟨by kernel_rfl,by kernel_rfl,by kernel_rfl⟩)
theorem Yoq:TyOk Tryz.prog 323 ⟨.slice 325,1,24,[.slice none 0 0],false⟩:=TyOk.of (P:=Tryz.prog) (t:=323) (.slice 325) 1 24 [.slice none 0 0] (.slice none 0 0) (by kernel_rfl) rfl Tryz.underlying323 rfl rfl false (fun h=>by cases h)
theorem Yor:TyOk Tryz.prog 325 ⟨.struct [(0,3),(1,3)],2,16,[.int .i64 0,.int .i64 0],true⟩:=TyOk.of (P:=Tryz.prog) (t:=325) (.struct [(0,3),(1,3)]) 2 16 [.int .i64 0,.int .i64 0] (.agg #[.int .i64 0,.int .i64 0]) (by kernel_rfl) rfl ⟨_,Tryz.underlying325,rfl⟩ rfl rfl true (fun _=>by unfold Zj4;exact ⟨by kernel_rfl,by kernel_rfl,by kernel_rfl⟩)
theorem Yos:TyOk Tryz.prog 328 ⟨.slice 334,1,24,[.slice none 0 0],false⟩:=TyOk.of (P:=Tryz.prog) (t:=328) (.slice 334) 1 24 [.slice none 0 0] (.slice none 0 0) (by kernel_rfl) rfl Tryz.underlying328 rfl rfl false (fun h=>by cases h)
theorem Yot:TyOk Tryz.prog 329 ⟨.struct [(0,328),(1,236)],2,48,[.slice none 0 0,.slice none 0 0],false⟩:=TyOk.of (P:=Tryz.prog) (t:=329) (.struct [(0,328),(1,236)]) 2 48 [.slice none 0 0,.slice none 0 0] (.agg #[.slice none 0 0,.slice none 0 0]) (by kernel_rfl) rfl ⟨_,Tryz.underlying329,rfl⟩ rfl rfl false (fun h=>by cases h)
theorem You:TyOk Tryz.prog 330 ⟨.struct [(0,328),(1,236)],2,48,[.slice none 0 0,.slice none 0 0],false⟩:=TyOk.of (P:=Tryz.prog) (t:=330) (.struct [(0,328),(1,236)]) 2 48 [.slice none 0 0,.slice none 0 0] (.agg #[.slice none 0 0,.slice none 0 0]) (by kernel_rfl) rfl ⟨_,Tryz.underlying330,rfl⟩ rfl rfl false (fun h=>by cases h)
theorem Yov:TyOk Tryz.prog 333 ⟨.struct [(0,77),(1,62)],10,80,[.int .u64 0,.pointer none,.int .i64 0,.int .i64 0,.int .i64 0,.int .i64 0,.int .i64 0,.int .i64 0,.int .i64 0,.int .i64 0],false⟩:=TyOk.of (P:=Tryz.prog) (t:=333) (.struct [(0,77),(1,62)]) 10 80 [.int .u64 0,.pointer none,.int .i64 0,.int .i64 0,.int .i64 0,.int .i64 0,.int .i64 0,.int .i64 0,.int .i64 0,.int .i64 0] (.agg #[.int .u64 0,.pointer none,.int .i64 0,.int .i64 0,.int .i64 0,.int .i64 0,.int .i64 0,.int .i64 0,.int .i64 0,.int .i64 0]) (by kernel_rfl) rfl ⟨_,Tryz.underlying333,rfl⟩ rfl rfl false (fun h=>by cases h)
theorem Yow:TyOk Tryz.prog 334 ⟨.struct [(0,77),(1,62)],10,80,[.int .u64 0,.pointer none,.int .i64 0,.int .i64 0,.int .i64 0,.int .i64 0,.int .i64 0,.int .i64 0,.int .i64 0,.int .i64 0],false⟩:=TyOk.of (P:=Tryz.prog) (t:=334) (.struct [(0,77),(1,62)]) 10 80 [.int .u64 0,.pointer none,.int .i64 0,.int .i64 0,.int .i64 0,.int .i64 0,.int .i64 0,.int .i64 0,.int .i64 0,.int .i64 0] (.agg #[.int .u64 0,.pointer none,.int .i64 0,.int .i64 0,.int .i64 0,.int .i64 0,.int .i64 0,.int .i64 0,.int .i64 0,.int .i64 0]) (by kernel_rfl) rfl ⟨_,Tryz.underlying334,rfl⟩ rfl rfl false (fun h=>by cases h)
theorem Yox:TyOk Tryz.prog 346 ⟨.arr 6 3,6,48,[.int .i64 0,.int .i64 0,.int .i64 0,.int .i64 0,.int .i64 0,.int .i64 0],true⟩:=TyOk.of (P:=Tryz.prog) (t:=346) (.arr 6 3) 6 48 [.int .i64 0,.int .i64 0,.int .i64 0,.int .i64 0,.int .i64 0,.int .i64 0] (.agg #[.int .i64 0,.int .i64 0,.int .i64 0,.int .i64 0,.int .i64 0,.int .i64 0]) (by kernel_rfl) rfl Tryz.underlying346 rfl rfl true (fun _=>by unfold Zj4;exact ⟨by kernel_rfl,by kernel_rfl,by kernel_rfl⟩)
theorem Yoy:TyOk Tryz.prog 348 ⟨.struct [(0,236),(1,236),(2,3),(3,295),(4,295),(5,3)],6,112,[.slice none 0 0,.slice none 0 0,.int .i64 0,.slice none 0 0,.slice none 0 0,.int .i64 0],false⟩:=TyOk.of (P:=Tryz.prog) (t:=348) (.struct [(0,236),(1,236),(2,3),(3,295),(4,295),(5,3)]) 6 112 [.slice none 0 0,.slice none 0 0,.int .i64 0,.slice none 0 0,.slice none 0 0,.int .i64 0] (.agg #[.slice none 0 0,.slice none 0 0,.int .i64 0,.slice none 0 0,.slice none 0 0,.int .i64 0]) (by kernel_rfl) rfl ⟨_,Tryz.underlying348,rfl⟩ rfl rfl false (fun h=>by cases h)
theorem Yoz:TyOk Tryz.prog 349 ⟨.struct [(0,236),(1,236),(2,3),(3,295),(4,295),(5,3)],6,112,[.slice none 0 0,.slice none 0 0,.int .i64 0,.slice none 0 0,.slice none 0 0,.int .i64 0],false⟩:=TyOk.of (P:=Tryz.prog) (t:=349) (.struct [(0,236),(1,236),(2,3),(3,295),(4,295),(5,3)]) 6 112 [.slice none 0 0,.slice none 0 0,.int .i64 0,.slice none 0 0,.slice none 0 0,.int .i64 0] (.agg #[.slice none 0 0,.slice none 0 0,.int .i64 0,.slice none 0 0,.slice none 0 0,.int .i64 0]) (by kernel_rfl) rfl ⟨_,Tryz.underlying349,rfl⟩ rfl rfl false (fun h=>by cases h)
theorem Yo0:TyOk Tryz.prog 352 ⟨.struct [(0,77),(1,3)],2,16,[.int .u64 0,.int .i64 0],false⟩:=TyOk.of (P:=Tryz.prog) (t:=352) (.struct [(0,77),(1,3)]) 2 16 [.int .u64 0,.int .i64 0] (.agg #[.int .u64 0,.int .i64 0]) (by kernel_rfl) rfl ⟨_,Tryz.underlying352,rfl⟩ rfl rfl false (fun h=>by cases h)
theorem Yo1:TyOk Tryz.prog 353 ⟨.struct [(0,77),(1,3)],2,16,[.int .u64 0,.int .i64 0],true⟩:=TyOk.of (P:=Tryz.prog) (t:=353) (.struct [(0,77),(1,3)]) 2 16 [.int .u64 0,.int .i64 0] (.agg #[.int .u64 0,.int .i64 0]) (by kernel_rfl) rfl ⟨_,Tryz.underlying353,rfl⟩ rfl rfl true (fun _=>by unfold Zj4;exact ⟨by kernel_rfl,by kernel_rfl,by kernel_rfl⟩)
theorem Yo2:TyOk Tryz.prog 358 ⟨.slice 364,1,24,[.slice none 0 0],false⟩:=TyOk.of (P:=Tryz.prog) (t:=358) (.slice 364) 1 24 [.slice none 0 0] (.slice none 0 0) (by kernel_rfl) rfl Tryz.underlying358 rfl rfl false (fun h=>by cases h)
theorem Yo3:TyOk Tryz.prog 359 ⟨.slice 364,1,24,[.slice none 0 0],false⟩:=TyOk.of (P:=Tryz.prog) (t:=359) (.slice 364) 1 24 [.slice none 0 0] (.slice none 0 0) (by kernel_rfl) rfl Tryz.underlying359 rfl rfl false (fun h=>by cases h)
theorem Yo4:TyOk Tryz.prog 362 ⟨.ptr 359,1,8,[.pointer none],false⟩:=TyOk.of (P:=Tryz.prog) (t:=362) (.ptr 359) 1 8 [.pointer none] (.pointer none) (by kernel_rfl) rfl Tryz.underlying362 rfl rfl false (fun h=>by cases h)
theorem Yo5:TyOk Tryz.prog 363 ⟨.struct [(0,325),(2,3)],3,24,[.int .i64 0,.int .i64 0,.int .i64 0],false⟩:=TyOk.of (P:=Tryz.prog) (t:=363) (.struct [(0,325),(2,3)]) 3 24 [.int .i64 0,.int .i64 0,.int .i64 0] (.agg #[.int .i64 0,.int .i64 0,.int .i64 0]) (by kernel_rfl) rfl ⟨_,Tryz.underlying363,rfl⟩ rfl rfl false (fun h=>by cases h)
theorem Yo6:TyOk Tryz.prog 364 ⟨.struct [(0,325),(2,3)],3,24,[.int .i64 0,.int .i64 0,.int .i64 0],true⟩:=TyOk.of (P:=Tryz.prog) (t:=364) (.struct [(0,325),(2,3)]) 3 24 [.int .i64 0,.int .i64 0,.int .i64 0] (.agg #[.int .i64 0,.int .i64 0,.int .i64 0]) (by kernel_rfl) rfl ⟨_,Tryz.underlying364,rfl⟩ rfl rfl true (fun _=>by unfold Zj4;exact ⟨by kernel_rfl,by kernel_rfl,by kernel_rfl⟩)
theorem Yo7:TyOk Tryz.prog 370 ⟨.ptr 353,1,8,[.pointer none],false⟩:=TyOk.of (P:=Tryz.prog) (t:=370) (.ptr 353) 1 8 [.pointer none] (.pointer none) (by kernel_rfl) rfl Tryz.underlying370 rfl rfl false (fun h=>by cases h)
theorem Yo8:TyOk Tryz.prog 383 ⟨.int .i64,1,8,[.int .i64 0],false⟩:=TyOk.of (P:=Tryz.prog) (t:=383) (.int .i64) 1 8 [.int .i64 0] (.int .i64 0) (by kernel_rfl) rfl Tryz.underlying383 rfl rfl false (fun h=>by cases h)
theorem Yo9:TyOk Tryz.prog 390 ⟨.int .u64,1,8,[.int .u64 0],false⟩:=TyOk.of (P:=Tryz.prog) (t:=390) (.int .u64) 1 8 [.int .u64 0] (.int .u64 0) (by kernel_rfl) rfl Tryz.underlying390 rfl rfl false (fun h=>by cases h)
theorem Ypa:TyOk Tryz.prog 393 ⟨.ptr 3,1,8,[.pointer none],false⟩:=TyOk.of (P:=Tryz.prog) (t:=393) (.ptr 3) 1 8 [.pointer none] (.pointer none) (by kernel_rfl) rfl Tryz.underlying393 rfl rfl false (fun h=>by cases h)
theorem Ypb:TyOk Tryz.prog 395 ⟨.ptr 390,1,8,[.pointer none],false⟩:=TyOk.of (P:=Tryz.prog) (t:=395) (.ptr 390) 1 8 [.pointer none] (.pointer none) (by kernel_rfl) rfl Tryz.underlying395 rfl rfl false (fun h=>by cases h)
theorem Ypc:TyOk Tryz.prog 398 ⟨.struct [(0,17),(1,17),(2,17),(3,9)],4,40,[.pointer none,.pointer none,.pointer none,.string ByteArray.empty],false⟩:=TyOk.of (P:=Tryz.prog) (t:=398) (.struct [(0,17),(1,17),(2,17),(3,9)]) 4 40 [.pointer none,.pointer none,.pointer none,.string ByteArray.empty] (.agg #[.pointer none,.pointer none,.pointer none,.string ByteArray.empty]) (by kernel_rfl) rfl ⟨_,Tryz.underlying398,rfl⟩ rfl rfl false (fun h=>by cases h)
theorem Ypd:TyOk Tryz.prog 399 ⟨.struct [(0,17),(1,17),(2,17),(3,9)],4,40,[.pointer none,.pointer none,.pointer none,.string ByteArray.empty],false⟩:=TyOk.of (P:=Tryz.prog) (t:=399) (.struct [(0,17),(1,17),(2,17),(3,9)]) 4 40 [.pointer none,.pointer none,.pointer none,.string ByteArray.empty] (.agg #[.pointer none,.pointer none,.pointer none,.string ByteArray.empty]) (by kernel_rfl) rfl ⟨_,Tryz.underlying399,rfl⟩ rfl rfl false (fun h=>by cases h)
theorem Ype:TyOk Tryz.prog 403 ⟨.int .u8,1,1,[.int .u8 0],false⟩:=TyOk.of (P:=Tryz.prog) (t:=403) (.int .u8) 1 1 [.int .u8 0] (.int .u8 0) (by kernel_rfl) rfl Tryz.underlying403 rfl rfl false (fun h=>by cases h)
theorem Ypf:TyOk Tryz.prog 404 ⟨.int .u8,1,1,[.int .u8 0],false⟩:=TyOk.of (P:=Tryz.prog) (t:=404) (.int .u8) 1 1 [.int .u8 0] (.int .u8 0) (by kernel_rfl) rfl Tryz.underlying404 rfl rfl false (fun h=>by cases h)
theorem Ypg:TyOk Tryz.prog 406 ⟨.ptr 5,1,8,[.pointer none],false⟩:=TyOk.of (P:=Tryz.prog) (t:=406) (.ptr 5) 1 8 [.pointer none] (.pointer none) (by kernel_rfl) rfl Tryz.underlying406 rfl rfl false (fun h=>by cases h)
theorem Yph:TyOk Tryz.prog 407 ⟨.int .i32,1,4,[.int .i32 0],false⟩:=TyOk.of (P:=Tryz.prog) (t:=407) (.int .i32) 1 4 [.int .i32 0] (.int .i32 0) (by kernel_rfl) rfl Tryz.underlying407 rfl rfl false (fun h=>by cases h)
theorem Ypi:TyOk Tryz.prog 408 ⟨.int .i32,1,4,[.int .i32 0],false⟩:=TyOk.of (P:=Tryz.prog) (t:=408) (.int .i32) 1 4 [.int .i32 0] (.int .i32 0) (by kernel_rfl) rfl Tryz.underlying408 rfl rfl false (fun h=>by cases h)
def tabL:List (Nat×TyI):=[(2,⟨.int .i64,1,8,[.int .i64 0],false⟩),
 (3,⟨.int .i64,1,8,[.int .i64 0],false⟩),
 (4,⟨.bool,1,1,[.bool false],false⟩),
 (5,⟨.int .u8,1,1,[.int .u8 0],false⟩),
 (6,⟨.int .u8,1,1,[.int .u8 0],false⟩),
 (7,⟨.struct [(0,2),(1,3),(2,4),(3,6)],4,24,[.int .i64 0,.int .i64 0,.bool false,.int .u8 0],false⟩),
 (8,⟨.struct [(0,2),(1,3),(2,4),(3,6)],4,24,[.int .i64 0,.int .i64 0,.bool false,.int .u8 0],false⟩),
 (9,⟨.str,1,16,[.string ByteArray.empty],false⟩),
 (10,⟨.str,1,16,[.string ByteArray.empty],false⟩),
 (11,⟨.str,1,16,[.string ByteArray.empty],false⟩),
 (12,⟨.int .u64,1,8,[.int .u64 0],false⟩),
 (13,⟨.struct [(0,9),(1,12)],2,24,[.string ByteArray.empty,.int .u64 0],false⟩),
 (14,⟨.struct [(0,9),(1,12)],2,24,[.string ByteArray.empty,.int .u64 0],false⟩),
 (15,⟨.ptr 399,1,8,[.pointer none],false⟩),
 (16,⟨.ptr 402,1,8,[.pointer none],false⟩),
 (17,⟨.ptr 410,1,8,[.pointer none],false⟩),
 (18,⟨.struct [(0,17)],1,8,[.pointer none],false⟩),
 (19,⟨.struct [(0,17)],1,8,[.pointer none],false⟩),
 (21,⟨.int .i32,1,4,[.int .i32 0],false⟩),
 (22,⟨.slice 77,1,24,[.slice none 0 0],false⟩),
 (23,⟨.slice 25,1,24,[.slice none 0 0],false⟩),
 (24,⟨.struct [(0,3),(1,22),(2,23)],3,56,[.int .i64 0,.slice none 0 0,.slice none 0 0],false⟩),
 (25,⟨.struct [(0,3),(1,22),(2,23)],3,56,[.int .i64 0,.slice none 0 0,.slice none 0 0],false⟩),
 (26,⟨.slice 84,1,24,[.slice none 0 0],false⟩),
 (27,⟨.slice 86,1,24,[.slice none 0 0],false⟩),
 (28,⟨.slice 89,1,24,[.slice none 0 0],false⟩),
 (29,⟨.struct [(0,3),(1,25),(4,25),(7,26),(8,27),(9,3),(10,28)],11,200,[.int .i64 0,.int .i64 0,.slice none 0 0,.slice none 0 0,.int .i64 0,.slice none 0 0,.slice none 0 0,.slice none 0 0,.slice none 0 0,.int .i64 0,.slice none 0 0],false⟩),
 (30,⟨.struct [(0,3),(1,25),(4,25),(7,26),(8,27),(9,3),(10,28)],11,200,[.int .i64 0,.int .i64 0,.slice none 0 0,.slice none 0 0,.int .i64 0,.slice none 0 0,.slice none 0 0,.slice none 0 0,.slice none 0 0,.int .i64 0,.slice none 0 0],false⟩),
 (44,⟨.int .i64,1,8,[.int .i64 0],false⟩),
 (53,⟨.slice 22,1,24,[.slice none 0 0],false⟩),
 (54,⟨.struct [(0,3),(1,3),(2,3),(3,3)],4,32,[.int .i64 0,.int .i64 0,.int .i64 0,.int .i64 0],false⟩),
 (55,⟨.struct [(0,3),(1,3),(2,3),(3,3)],4,32,[.int .i64 0,.int .i64 0,.int .i64 0,.int .i64 0],true⟩),
 (60,⟨.ptr 147,1,8,[.pointer none],false⟩),
 (61,⟨.struct [(0,60),(1,3),(2,3),(3,3),(4,3),(5,3),(6,3),(7,3),(8,3)],9,72,[.pointer none,.int .i64 0,.int .i64 0,.int .i64 0,.int .i64 0,.int .i64 0,.int .i64 0,.int .i64 0,.int .i64 0],false⟩),
 (62,⟨.struct [(0,60),(1,3),(2,3),(3,3),(4,3),(5,3),(6,3),(7,3),(8,3)],9,72,[.pointer none,.int .i64 0,.int .i64 0,.int .i64 0,.int .i64 0,.int .i64 0,.int .i64 0,.int .i64 0,.int .i64 0],false⟩),
 (77,⟨.int .u64,1,8,[.int .u64 0],false⟩),
 (81,⟨.int .u64,1,8,[.int .u64 0],false⟩),
 (83,⟨.struct [(0,3),(1,5),(2,77),(3,77)],4,32,[.int .i64 0,.int .u8 0,.int .u64 0,.int .u64 0],false⟩),
 (84,⟨.struct [(0,3),(1,5),(2,77),(3,77)],4,32,[.int .i64 0,.int .u8 0,.int .u64 0,.int .u64 0],true⟩),
 (85,⟨.struct [(0,3),(1,30)],12,208,[.int .i64 0,.int .i64 0,.int .i64 0,.slice none 0 0,.slice none 0 0,.int .i64 0,.slice none 0 0,.slice none 0 0,.slice none 0 0,.slice none 0 0,.int .i64 0,.slice none 0 0],false⟩),
 (86,⟨.struct [(0,3),(1,30)],12,208,[.int .i64 0,.int .i64 0,.int .i64 0,.slice none 0 0,.slice none 0 0,.int .i64 0,.slice none 0 0,.slice none 0 0,.slice none 0 0,.slice none 0 0,.int .i64 0,.slice none 0 0],false⟩),
 (88,⟨.struct [(0,3),(1,3),(2,23),(3,30)],14,240,[.int .i64 0,.int .i64 0,.slice none 0 0,.int .i64 0,.int .i64 0,.slice none 0 0,.slice none 0 0,.int .i64 0,.slice none 0 0,.slice none 0 0,.slice none 0 0,.slice none 0 0,.int .i64 0,.slice none 0 0],false⟩),
 (89,⟨.struct [(0,3),(1,3),(2,23),(3,30)],14,240,[.int .i64 0,.int .i64 0,.slice none 0 0,.int .i64 0,.int .i64 0,.slice none 0 0,.slice none 0 0,.int .i64 0,.slice none 0 0,.slice none 0 0,.slice none 0 0,.slice none 0 0,.int .i64 0,.slice none 0 0],false⟩),
 (106,⟨.struct [(0,3),(1,3),(2,3),(3,3),(4,3),(5,3),(6,77)],7,56,[.int .i64 0,.int .i64 0,.int .i64 0,.int .i64 0,.int .i64 0,.int .i64 0,.int .u64 0],false⟩),
 (107,⟨.struct [(0,3),(1,3),(2,3),(3,3),(4,3),(5,3),(6,77)],7,56,[.int .i64 0,.int .i64 0,.int .i64 0,.int .i64 0,.int .i64 0,.int .i64 0,.int .u64 0],true⟩),
 (111,⟨.struct [(0,3),(1,3)],2,16,[.int .i64 0,.int .i64 0],false⟩),
 (112,⟨.struct [(0,3),(1,3)],2,16,[.int .i64 0,.int .i64 0],true⟩),
 (116,⟨.ptr 120,1,8,[.pointer none],false⟩),
 (117,⟨.ptr 124,1,8,[.pointer none],false⟩),
 (119,⟨.struct [(0,117),(1,4)],2,16,[.pointer none,.bool false],false⟩),
 (120,⟨.struct [(0,117),(1,4)],2,16,[.pointer none,.bool false],false⟩),
 (123,⟨.struct [(0,53),(1,3),(2,3),(3,3)],4,48,[.slice none 0 0,.int .i64 0,.int .i64 0,.int .i64 0],false⟩),
 (124,⟨.struct [(0,53),(1,3),(2,3),(3,3)],4,48,[.slice none 0 0,.int .i64 0,.int .i64 0,.int .i64 0],false⟩),
 (125,⟨.struct [(0,4),(1,3)],2,16,[.bool false,.int .i64 0],false⟩),
 (126,⟨.struct [(0,4),(1,3)],2,16,[.bool false,.int .i64 0],true⟩),
 (139,⟨.struct [(0,22),(1,3)],2,32,[.slice none 0 0,.int .i64 0],false⟩),
 (140,⟨.struct [(0,22),(1,3)],2,32,[.slice none 0 0,.int .i64 0],false⟩),
 (142,⟨.struct [(0,3)],1,8,[.int .i64 0],false⟩),
 (143,⟨.struct [(0,3)],1,8,[.int .i64 0],true⟩),
 (146,⟨.struct [(0,53),(1,3),(2,3)],3,40,[.slice none 0 0,.int .i64 0,.int .i64 0],false⟩),
 (147,⟨.struct [(0,53),(1,3),(2,3)],3,40,[.slice none 0 0,.int .i64 0,.int .i64 0],false⟩),
 (154,⟨.struct [(0,3),(1,3),(2,3),(3,3),(4,3),(5,3),(6,3),(7,4)],8,64,[.int .i64 0,.int .i64 0,.int .i64 0,.int .i64 0,.int .i64 0,.int .i64 0,.int .i64 0,.bool false],false⟩),
 (155,⟨.struct [(0,3),(1,3),(2,3),(3,3),(4,3),(5,3),(6,3),(7,4)],8,64,[.int .i64 0,.int .i64 0,.int .i64 0,.int .i64 0,.int .i64 0,.int .i64 0,.int .i64 0,.bool false],true⟩),
 (156,⟨.struct [(0,155),(8,3),(9,3)],10,80,[.int .i64 0,.int .i64 0,.int .i64 0,.int .i64 0,.int .i64 0,.int .i64 0,.int .i64 0,.bool false,.int .i64 0,.int .i64 0],false⟩),
 (157,⟨.struct [(0,155),(8,3),(9,3)],10,80,[.int .i64 0,.int .i64 0,.int .i64 0,.int .i64 0,.int .i64 0,.int .i64 0,.int .i64 0,.bool false,.int .i64 0,.int .i64 0],true⟩),
 (164,⟨.ptr 112,1,8,[.pointer none],false⟩),
 (185,⟨.arr 8 5,8,8,[.int .u8 0,.int .u8 0,.int .u8 0,.int .u8 0,.int .u8 0,.int .u8 0,.int .u8 0,.int .u8 0],true⟩),
 (189,⟨.slice 5,1,24,[.slice none 0 0],false⟩),
 (190,⟨.ptr 140,1,8,[.pointer none],false⟩),
 (191,⟨.struct [(0,3),(1,3),(2,3),(3,3),(4,3),(5,3),(6,3),(7,4)],8,64,[.int .i64 0,.int .i64 0,.int .i64 0,.int .i64 0,.int .i64 0,.int .i64 0,.int .i64 0,.bool false],true⟩),
 (197,⟨.ptr 143,1,8,[.pointer none],false⟩),
 (199,⟨.struct [(0,28),(1,3),(2,23),(3,23)],4,80,[.slice none 0 0,.int .i64 0,.slice none 0 0,.slice none 0 0],false⟩),
 (200,⟨.struct [(0,28),(1,3),(2,23),(3,23)],4,80,[.slice none 0 0,.int .i64 0,.slice none 0 0,.slice none 0 0],false⟩),
 (203,⟨.ptr 23,1,8,[.pointer none],false⟩),
 (207,⟨.struct [(0,3),(1,3),(2,23),(3,23),(4,28)],5,88,[.int .i64 0,.int .i64 0,.slice none 0 0,.slice none 0 0,.slice none 0 0],false⟩),
 (208,⟨.struct [(0,3),(1,3),(2,23),(3,23),(4,28)],5,88,[.int .i64 0,.int .i64 0,.slice none 0 0,.slice none 0 0,.slice none 0 0],false⟩),
 (209,⟨.slice 212,1,24,[.slice none 0 0],false⟩),
 (211,⟨.struct [(0,3),(1,3)],2,16,[.int .i64 0,.int .i64 0],false⟩),
 (212,⟨.struct [(0,3),(1,3)],2,16,[.int .i64 0,.int .i64 0],true⟩),
 (219,⟨.struct [(0,3)],1,8,[.int .i64 0],false⟩),
 (220,⟨.struct [(0,3)],1,8,[.int .i64 0],true⟩),
 (224,⟨.struct [(0,62),(9,62),(18,3),(19,3),(20,3),(21,3),(22,3),(23,28)],24,208,[.pointer none,.int .i64 0,.int .i64 0,.int .i64 0,.int .i64 0,.int .i64 0,.int .i64 0,.int .i64 0,.int .i64 0,.pointer none,.int .i64 0,.int .i64 0,.int .i64 0,.int .i64 0,.int .i64 0,.int .i64 0,.int .i64 0,.int .i64 0,.int .i64 0,.int .i64 0,.int .i64 0,.int .i64 0,.int .i64 0,.slice none 0 0],false⟩),
 (225,⟨.struct [(0,62),(9,62),(18,3),(19,3),(20,3),(21,3),(22,3),(23,28)],24,208,[.pointer none,.int .i64 0,.int .i64 0,.int .i64 0,.int .i64 0,.int .i64 0,.int .i64 0,.int .i64 0,.int .i64 0,.pointer none,.int .i64 0,.int .i64 0,.int .i64 0,.int .i64 0,.int .i64 0,.int .i64 0,.int .i64 0,.int .i64 0,.int .i64 0,.int .i64 0,.int .i64 0,.int .i64 0,.int .i64 0,.slice none 0 0],false⟩),
 (227,⟨.struct [(0,191),(8,3),(9,3)],10,80,[.int .i64 0,.int .i64 0,.int .i64 0,.int .i64 0,.int .i64 0,.int .i64 0,.int .i64 0,.bool false,.int .i64 0,.int .i64 0],false⟩),
 (228,⟨.struct [(0,191),(8,3),(9,3)],10,80,[.int .i64 0,.int .i64 0,.int .i64 0,.int .i64 0,.int .i64 0,.int .i64 0,.int .i64 0,.bool false,.int .i64 0,.int .i64 0],true⟩),
 (236,⟨.slice 3,1,24,[.slice none 0 0],false⟩),
 (239,⟨.slice 242,1,24,[.slice none 0 0],false⟩),
 (242,⟨.struct [(0,3),(1,3)],2,16,[.int .i64 0,.int .i64 0],true⟩),
 (246,⟨.struct [(0,3)],1,8,[.int .i64 0],false⟩),
 (247,⟨.struct [(0,3)],1,8,[.int .i64 0],true⟩),
 (254,⟨.struct [(0,62),(9,3),(10,23)],11,104,[.pointer none,.int .i64 0,.int .i64 0,.int .i64 0,.int .i64 0,.int .i64 0,.int .i64 0,.int .i64 0,.int .i64 0,.int .i64 0,.slice none 0 0],false⟩),
 (255,⟨.struct [(0,62),(9,3),(10,23)],11,104,[.pointer none,.int .i64 0,.int .i64 0,.int .i64 0,.int .i64 0,.int .i64 0,.int .i64 0,.int .i64 0,.int .i64 0,.int .i64 0,.slice none 0 0],false⟩),
 (257,⟨.slice 126,1,24,[.slice none 0 0],false⟩),
 (267,⟨.ptr 200,1,8,[.pointer none],false⟩),
 (275,⟨.ptr 208,1,8,[.pointer none],false⟩),
 (278,⟨.ptr 220,1,8,[.pointer none],false⟩),
 (284,⟨.ptr 330,1,8,[.pointer none],false⟩),
 (288,⟨.ptr 225,1,8,[.pointer none],false⟩),
 (295,⟨.slice 236,1,24,[.slice none 0 0],false⟩),
 (297,⟨.slice 300,1,24,[.slice none 0 0],false⟩),
 (299,⟨.struct [(0,3),(1,3)],2,16,[.int .i64 0,.int .i64 0],false⟩),
 (300,⟨.struct [(0,3),(1,3)],2,16,[.int .i64 0,.int .i64 0],true⟩),
 (301,⟨.ptr 247,1,8,[.pointer none],false⟩),
 (304,⟨.ptr 255,1,8,[.pointer none],false⟩),
 (309,⟨.arr 7 3,7,56,[.int .i64 0,.int .i64 0,.int .i64 0,.int .i64 0,.int .i64 0,.int .i64 0,.int .i64 0],true⟩),
 (310,⟨.int .u32,1,4,[.int .u32 0],false⟩),
 (312,⟨.ptr 349,1,8,[.pointer none],false⟩),
 (314,⟨.slice 317,1,24,[.slice none 0 0],false⟩),
 (316,⟨.struct [(0,3),(1,3)],2,16,[.int .i64 0,.int .i64 0],false⟩),
 (317,⟨.struct [(0,3),(1,3)],2,16,[.int .i64 0,.int .i64 0],true⟩),
 (319,⟨.ptr 270,1,8,[.pointer none],false⟩),
 (321,⟨.arr 3 3,3,24,[.int .i64 0,.int .i64 0,.int .i64 0],true⟩),
 (323,⟨.slice 325,1,24,[.slice none 0 0],false⟩),
 (325,⟨.struct [(0,3),(1,3)],2,16,[.int .i64 0,.int .i64 0],true⟩),
 (328,⟨.slice 334,1,24,[.slice none 0 0],false⟩),
 (329,⟨.struct [(0,328),(1,236)],2,48,[.slice none 0 0,.slice none 0 0],false⟩),
 (330,⟨.struct [(0,328),(1,236)],2,48,[.slice none 0 0,.slice none 0 0],false⟩),
 (333,⟨.struct [(0,77),(1,62)],10,80,[.int .u64 0,.pointer none,.int .i64 0,.int .i64 0,.int .i64 0,.int .i64 0,.int .i64 0,.int .i64 0,.int .i64 0,.int .i64 0],false⟩),
 (334,⟨.struct [(0,77),(1,62)],10,80,[.int .u64 0,.pointer none,.int .i64 0,.int .i64 0,.int .i64 0,.int .i64 0,.int .i64 0,.int .i64 0,.int .i64 0,.int .i64 0],false⟩),
 (346,⟨.arr 6 3,6,48,[.int .i64 0,.int .i64 0,.int .i64 0,.int .i64 0,.int .i64 0,.int .i64 0],true⟩),
 (348,⟨.struct [(0,236),(1,236),(2,3),(3,295),(4,295),(5,3)],6,112,[.slice none 0 0,.slice none 0 0,.int .i64 0,.slice none 0 0,.slice none 0 0,.int .i64 0],false⟩),
 (349,⟨.struct [(0,236),(1,236),(2,3),(3,295),(4,295),(5,3)],6,112,[.slice none 0 0,.slice none 0 0,.int .i64 0,.slice none 0 0,.slice none 0 0,.int .i64 0],false⟩),
 (352,⟨.struct [(0,77),(1,3)],2,16,[.int .u64 0,.int .i64 0],false⟩),
 (353,⟨.struct [(0,77),(1,3)],2,16,[.int .u64 0,.int .i64 0],true⟩),
 (358,⟨.slice 364,1,24,[.slice none 0 0],false⟩),
 (359,⟨.slice 364,1,24,[.slice none 0 0],false⟩),
 (362,⟨.ptr 359,1,8,[.pointer none],false⟩),
 (363,⟨.struct [(0,325),(2,3)],3,24,[.int .i64 0,.int .i64 0,.int .i64 0],false⟩),
 (364,⟨.struct [(0,325),(2,3)],3,24,[.int .i64 0,.int .i64 0,.int .i64 0],true⟩),
 (370,⟨.ptr 353,1,8,[.pointer none],false⟩),
 (383,⟨.int .i64,1,8,[.int .i64 0],false⟩),
 (390,⟨.int .u64,1,8,[.int .u64 0],false⟩),
 (393,⟨.ptr 3,1,8,[.pointer none],false⟩),
 (395,⟨.ptr 390,1,8,[.pointer none],false⟩),
 (398,⟨.struct [(0,17),(1,17),(2,17),(3,9)],4,40,[.pointer none,.pointer none,.pointer none,.string ByteArray.empty],false⟩),
 (399,⟨.struct [(0,17),(1,17),(2,17),(3,9)],4,40,[.pointer none,.pointer none,.pointer none,.string ByteArray.empty],false⟩),
 (403,⟨.int .u8,1,1,[.int .u8 0],false⟩),
 (404,⟨.int .u8,1,1,[.int .u8 0],false⟩),
 (406,⟨.ptr 5,1,8,[.pointer none],false⟩),
 (407,⟨.int .i32,1,4,[.int .i32 0],false⟩),
 (408,⟨.int .i32,1,4,[.int .i32 0],false⟩)]
def Xw:Vv:=fun t=>tabL.lookup t
theorem Zv:Ja Tryz.prog Xw:=fun t i h=>by
 have hm:=Z16 _ h
 unfold tabL at hm
 simp only [List.mem_cons,Prod.mk.injEq,List.not_mem_nil,or_false] at hm
 rcases hm with ⟨rfl,rfl⟩ | ⟨rfl,rfl⟩ | ⟨rfl,rfl⟩ | ⟨rfl,rfl⟩ | ⟨rfl,rfl⟩ | ⟨rfl,rfl⟩ | ⟨rfl,rfl⟩ | ⟨rfl,rfl⟩ | ⟨rfl,rfl⟩ | ⟨rfl,rfl⟩ | ⟨rfl,rfl⟩ | ⟨rfl,rfl⟩ | ⟨rfl,rfl⟩ | ⟨rfl,rfl⟩ | ⟨rfl,rfl⟩ | ⟨rfl,rfl⟩ | ⟨rfl,rfl⟩ | ⟨rfl,rfl⟩ | ⟨rfl,rfl⟩ | ⟨rfl,rfl⟩ | ⟨rfl,rfl⟩ | ⟨rfl,rfl⟩ | ⟨rfl,rfl⟩ | ⟨rfl,rfl⟩ | ⟨rfl,rfl⟩ | ⟨rfl,rfl⟩ | ⟨rfl,rfl⟩ | ⟨rfl,rfl⟩ | ⟨rfl,rfl⟩ | ⟨rfl,rfl⟩ | ⟨rfl,rfl⟩ | ⟨rfl,rfl⟩ | ⟨rfl,rfl⟩ | ⟨rfl,rfl⟩ | ⟨rfl,rfl⟩ | ⟨rfl,rfl⟩ | ⟨rfl,rfl⟩ | ⟨rfl,rfl⟩ | ⟨rfl,rfl⟩ | ⟨rfl,rfl⟩ | ⟨rfl,rfl⟩ | ⟨rfl,rfl⟩ | ⟨rfl,rfl⟩ | ⟨rfl,rfl⟩ | ⟨rfl,rfl⟩ | ⟨rfl,rfl⟩ | ⟨rfl,rfl⟩ | ⟨rfl,rfl⟩ | ⟨rfl,rfl⟩ | ⟨rfl,rfl⟩ | ⟨rfl,rfl⟩ | ⟨rfl,rfl⟩ | ⟨rfl,rfl⟩ | ⟨rfl,rfl⟩ | ⟨rfl,rfl⟩ | ⟨rfl,rfl⟩ | ⟨rfl,rfl⟩ | ⟨rfl,rfl⟩ | ⟨rfl,rfl⟩ | ⟨rfl,rfl⟩ | ⟨rfl,rfl⟩ | ⟨rfl,rfl⟩ | ⟨rfl,rfl⟩ | ⟨rfl,rfl⟩ | ⟨rfl,rfl⟩ | ⟨rfl,rfl⟩ | ⟨rfl,rfl⟩ | ⟨rfl,rfl⟩ | ⟨rfl,rfl⟩ | ⟨rfl,rfl⟩ | ⟨rfl,rfl⟩ | ⟨rfl,rfl⟩ | ⟨rfl,rfl⟩ | ⟨rfl,rfl⟩ | ⟨rfl,rfl⟩ | ⟨rfl,rfl⟩ | ⟨rfl,rfl⟩ | ⟨rfl,rfl⟩ | ⟨rfl,rfl⟩ | ⟨rfl,rfl⟩ | ⟨rfl,rfl⟩ | ⟨rfl,rfl⟩ | ⟨rfl,rfl⟩ | ⟨rfl,rfl⟩ | ⟨rfl,rfl⟩ | ⟨rfl,rfl⟩ | ⟨rfl,rfl⟩ | ⟨rfl,rfl⟩ | ⟨rfl,rfl⟩ | ⟨rfl,rfl⟩ | ⟨rfl,rfl⟩ | ⟨rfl,rfl⟩ | ⟨rfl,rfl⟩ | ⟨rfl,rfl⟩ | ⟨rfl,rfl⟩ | ⟨rfl,rfl⟩ | ⟨rfl,rfl⟩ | ⟨rfl,rfl⟩ | ⟨rfl,rfl⟩ | ⟨rfl,rfl⟩ | ⟨rfl,rfl⟩ | ⟨rfl,rfl⟩ | ⟨rfl,rfl⟩ | ⟨rfl,rfl⟩ | ⟨rfl,rfl⟩ | ⟨rfl,rfl⟩ | ⟨rfl,rfl⟩ | ⟨rfl,rfl⟩ | ⟨rfl,rfl⟩ | ⟨rfl,rfl⟩ | ⟨rfl,rfl⟩ | ⟨rfl,rfl⟩ | ⟨rfl,rfl⟩ | ⟨rfl,rfl⟩ | ⟨rfl,rfl⟩ | ⟨rfl,rfl⟩ | ⟨rfl,rfl⟩ | ⟨rfl,rfl⟩ | ⟨rfl,rfl⟩ | ⟨rfl,rfl⟩ | ⟨rfl,rfl⟩ | ⟨rfl,rfl⟩ | ⟨rfl,rfl⟩ | ⟨rfl,rfl⟩ | ⟨rfl,rfl⟩ | ⟨rfl,rfl⟩ | ⟨rfl,rfl⟩ | ⟨rfl,rfl⟩ | ⟨rfl,rfl⟩ | ⟨rfl,rfl⟩ | ⟨rfl,rfl⟩ | ⟨rfl,rfl⟩ | ⟨rfl,rfl⟩ | ⟨rfl,rfl⟩ | ⟨rfl,rfl⟩ | ⟨rfl,rfl⟩ | ⟨rfl,rfl⟩ | ⟨rfl,rfl⟩ | ⟨rfl,rfl⟩ | ⟨rfl,rfl⟩ | ⟨rfl,rfl⟩
 ·exact ty2
 ·exact ty3
 ·exact ty4
 ·exact ty5
 ·exact ty6
 ·exact ty7
 ·exact ty8
 ·exact ty9
 ·exact Yp2
 ·exact Yp3
 ·exact Yp4
 ·exact Yp5
 ·exact Yp6
 ·exact Yp7
 ·exact Yp8
 ·exact Yp9
 ·exact Yqa
 ·exact Yqb
 ·exact Yqc
 ·exact Yqd
 ·exact Yqe
 ·exact Yqf
 ·exact Yqg
 ·exact Yqh
 ·exact Yqi
 ·exact Yqj
 ·exact Yqk
 ·exact Yql
 ·exact Yqm
 ·exact Yqn
 ·exact Yqo
 ·exact Yqp
 ·exact Yqq
 ·exact Yqr
 ·exact Yqs
 ·exact Yqt
 ·exact Yqu
 ·exact Yqv
 ·exact Yqw
 ·exact Yqx
 ·exact Yqy
 ·exact Yqz
 ·exact Yq0
 ·exact Ymt
 ·exact Ymu
 ·exact Ymv
 ·exact Ymw
 ·exact Ymx
 ·exact Ymy
 ·exact Ymz
 ·exact Ym0
 ·exact Ym1
 ·exact Ym2
 ·exact Ym3
 ·exact Ym4
 ·exact Ym5
 ·exact Ym6
 ·exact Ym7
 ·exact Ym8
 ·exact Ym9
 ·exact Yna
 ·exact Ynb
 ·exact Ync
 ·exact Ynd
 ·exact Yne
 ·exact Ynf
 ·exact Yng
 ·exact Ynh
 ·exact Yni
 ·exact Ynj
 ·exact Ynk
 ·exact Ynl
 ·exact Ynm
 ·exact Ynn
 ·exact Yno
 ·exact Ynp
 ·exact Ynq
 ·exact Ynr
 ·exact Yns
 ·exact Ynt
 ·exact Ynu
 ·exact Ynv
 ·exact Ynw
 ·exact Ynx
 ·exact Yny
 ·exact Ynz
 ·exact Yn0
 ·exact Yn1
 ·exact Yn2
 ·exact Yn3
 ·exact Yn4
 ·exact Yn5
 ·exact Yn6
 ·exact Yn7
 ·exact Yn8
 ·exact Yn9
 ·exact Yoa
 ·exact Yob
 ·exact Yoc
 ·exact Yod
 ·exact Yoe
 ·exact Yof
 ·exact Yog
 ·exact Yoh
 ·exact Yoi
 ·exact Yoj
 ·exact Yok
 ·exact Yol
 ·exact Yom
 ·exact Yon
 ·exact Yoo
 ·exact Yop
 ·exact Yoq
 ·exact Yor
 ·exact Yos
 ·exact Yot
 ·exact You
 ·exact Yov
 ·exact Yow
 ·exact Yox
 ·exact Yoy
 ·exact Yoz
 ·exact Yo0
 ·exact Yo1
 ·exact Yo2
 ·exact Yo3
 ·exact Yo4
 ·exact Yo5
 ·exact Yo6
 ·exact Yo7
 ·exact Yo8
 ·exact Yo9
 ·exact Ypa
 ·exact Ypb
 ·exact Ypc
 ·exact Ypd
 ·exact Ype
 ·exact Ypf
 ·exact Ypg
 ·exact Yph
 exact Ypi
theorem Yjz:Xw 2=some ⟨.int .i64,1,8,[.int .i64 0],false⟩:=rfl
theorem Ybw:Xw 3=some ⟨.int .i64,1,8,[.int .i64 0],false⟩:=rfl
theorem Yj0:Xw 4=some ⟨.bool,1,1,[.bool false],false⟩:=rfl
theorem Z72:Xw 5=some ⟨.int .u8,1,1,[.int .u8 0],false⟩:=rfl
theorem Yj1:Xw 6=some ⟨.int .u8,1,1,[.int .u8 0],false⟩:=rfl
theorem Yj2:Xw 7=some ⟨.struct [(0,2),(1,3),(2,4),(3,6)],4,24,[.int .i64 0,.int .i64 0,.bool false,.int .u8 0],false⟩:=rfl
theorem Yj3:Xw 8=some ⟨.struct [(0,2),(1,3),(2,4),(3,6)],4,24,[.int .i64 0,.int .i64 0,.bool false,.int .u8 0],false⟩:=rfl
theorem Yj4:Xw 9=some ⟨.str,1,16,[.string ByteArray.empty],false⟩:=rfl
theorem Ydc:Xw 10=some ⟨.str,1,16,[.string ByteArray.empty],false⟩:=rfl
theorem Ydd:Xw 11=some ⟨.str,1,16,[.string ByteArray.empty],false⟩:=rfl
theorem Yde:Xw 12=some ⟨.int .u64,1,8,[.int .u64 0],false⟩:=rfl
theorem Ydf:Xw 13=some ⟨.struct [(0,9),(1,12)],2,24,[.string ByteArray.empty,.int .u64 0],false⟩:=rfl
theorem Ydg:Xw 14=some ⟨.struct [(0,9),(1,12)],2,24,[.string ByteArray.empty,.int .u64 0],false⟩:=rfl
theorem Ydh:Xw 15=some ⟨.ptr 399,1,8,[.pointer none],false⟩:=rfl
theorem Ydi:Xw 16=some ⟨.ptr 402,1,8,[.pointer none],false⟩:=rfl
theorem Ydj:Xw 17=some ⟨.ptr 410,1,8,[.pointer none],false⟩:=rfl
theorem Ydk:Xw 18=some ⟨.struct [(0,17)],1,8,[.pointer none],false⟩:=rfl
theorem Ydl:Xw 19=some ⟨.struct [(0,17)],1,8,[.pointer none],false⟩:=rfl
theorem Ydm:Xw 21=some ⟨.int .i32,1,4,[.int .i32 0],false⟩:=rfl
theorem Zu5:Xw 22=some ⟨.slice 77,1,24,[.slice none 0 0],false⟩:=rfl
theorem Z4m:Xw 23=some ⟨.slice 25,1,24,[.slice none 0 0],false⟩:=rfl
theorem Ydn:Xw 24=some ⟨.struct [(0,3),(1,22),(2,23)],3,56,[.int .i64 0,.slice none 0 0,.slice none 0 0],false⟩:=rfl
theorem Zfz:Xw 25=some ⟨.struct [(0,3),(1,22),(2,23)],3,56,[.int .i64 0,.slice none 0 0,.slice none 0 0],false⟩:=rfl
theorem Ydo:Xw 26=some ⟨.slice 84,1,24,[.slice none 0 0],false⟩:=rfl
theorem Ydp:Xw 27=some ⟨.slice 86,1,24,[.slice none 0 0],false⟩:=rfl
theorem Ydq:Xw 28=some ⟨.slice 89,1,24,[.slice none 0 0],false⟩:=rfl
theorem Ydr:Xw 29=some ⟨.struct [(0,3),(1,25),(4,25),(7,26),(8,27),(9,3),(10,28)],11,200,[.int .i64 0,.int .i64 0,.slice none 0 0,.slice none 0 0,.int .i64 0,.slice none 0 0,.slice none 0 0,.slice none 0 0,.slice none 0 0,.int .i64 0,.slice none 0 0],false⟩:=rfl
theorem Zx9:Xw 30=some ⟨.struct [(0,3),(1,25),(4,25),(7,26),(8,27),(9,3),(10,28)],11,200,[.int .i64 0,.int .i64 0,.slice none 0 0,.slice none 0 0,.int .i64 0,.slice none 0 0,.slice none 0 0,.slice none 0 0,.slice none 0 0,.int .i64 0,.slice none 0 0],false⟩:=rfl
theorem Yds:Xw 44=some ⟨.int .i64,1,8,[.int .i64 0],false⟩:=rfl
theorem Ydt:Xw 53=some ⟨.slice 22,1,24,[.slice none 0 0],false⟩:=rfl
theorem Ydu:Xw 54=some ⟨.struct [(0,3),(1,3),(2,3),(3,3)],4,32,[.int .i64 0,.int .i64 0,.int .i64 0,.int .i64 0],false⟩:=rfl
theorem Ydv:Xw 55=some ⟨.struct [(0,3),(1,3),(2,3),(3,3)],4,32,[.int .i64 0,.int .i64 0,.int .i64 0,.int .i64 0],true⟩:=rfl
theorem Ydw:Xw 60=some ⟨.ptr 147,1,8,[.pointer none],false⟩:=rfl
theorem Ydx:Xw 61=some ⟨.struct [(0,60),(1,3),(2,3),(3,3),(4,3),(5,3),(6,3),(7,3),(8,3)],9,72,[.pointer none,.int .i64 0,.int .i64 0,.int .i64 0,.int .i64 0,.int .i64 0,.int .i64 0,.int .i64 0,.int .i64 0],false⟩:=rfl
theorem Ydy:Xw 62=some ⟨.struct [(0,60),(1,3),(2,3),(3,3),(4,3),(5,3),(6,3),(7,3),(8,3)],9,72,[.pointer none,.int .i64 0,.int .i64 0,.int .i64 0,.int .i64 0,.int .i64 0,.int .i64 0,.int .i64 0,.int .i64 0],false⟩:=rfl
theorem Zf0:Xw 77=some ⟨.int .u64,1,8,[.int .u64 0],false⟩:=rfl
theorem Ydz:Xw 81=some ⟨.int .u64,1,8,[.int .u64 0],false⟩:=rfl
theorem Yd0:Xw 83=some ⟨.struct [(0,3),(1,5),(2,77),(3,77)],4,32,[.int .i64 0,.int .u8 0,.int .u64 0,.int .u64 0],false⟩:=rfl
theorem Zya:Xw 84=some ⟨.struct [(0,3),(1,5),(2,77),(3,77)],4,32,[.int .i64 0,.int .u8 0,.int .u64 0,.int .u64 0],true⟩:=rfl
theorem Yd1:Xw 85=some ⟨.struct [(0,3),(1,30)],12,208,[.int .i64 0,.int .i64 0,.int .i64 0,.slice none 0 0,.slice none 0 0,.int .i64 0,.slice none 0 0,.slice none 0 0,.slice none 0 0,.slice none 0 0,.int .i64 0,.slice none 0 0],false⟩:=rfl
theorem Zsd:Xw 86=some ⟨.struct [(0,3),(1,30)],12,208,[.int .i64 0,.int .i64 0,.int .i64 0,.slice none 0 0,.slice none 0 0,.int .i64 0,.slice none 0 0,.slice none 0 0,.slice none 0 0,.slice none 0 0,.int .i64 0,.slice none 0 0],false⟩:=rfl
theorem Yd2:Xw 88=some ⟨.struct [(0,3),(1,3),(2,23),(3,30)],14,240,[.int .i64 0,.int .i64 0,.slice none 0 0,.int .i64 0,.int .i64 0,.slice none 0 0,.slice none 0 0,.int .i64 0,.slice none 0 0,.slice none 0 0,.slice none 0 0,.slice none 0 0,.int .i64 0,.slice none 0 0],false⟩:=rfl
theorem Zmj:Xw 89=some ⟨.struct [(0,3),(1,3),(2,23),(3,30)],14,240,[.int .i64 0,.int .i64 0,.slice none 0 0,.int .i64 0,.int .i64 0,.slice none 0 0,.slice none 0 0,.int .i64 0,.slice none 0 0,.slice none 0 0,.slice none 0 0,.slice none 0 0,.int .i64 0,.slice none 0 0],false⟩:=rfl
theorem Z6h:Xw 106=some ⟨.struct [(0,3),(1,3),(2,3),(3,3),(4,3),(5,3),(6,77)],7,56,[.int .i64 0,.int .i64 0,.int .i64 0,.int .i64 0,.int .i64 0,.int .i64 0,.int .u64 0],false⟩:=rfl
theorem Z6i:Xw 107=some ⟨.struct [(0,3),(1,3),(2,3),(3,3),(4,3),(5,3),(6,77)],7,56,[.int .i64 0,.int .i64 0,.int .i64 0,.int .i64 0,.int .i64 0,.int .i64 0,.int .u64 0],true⟩:=rfl
theorem Z6j:Xw 111=some ⟨.struct [(0,3),(1,3)],2,16,[.int .i64 0,.int .i64 0],false⟩:=rfl
theorem Z6k:Xw 112=some ⟨.struct [(0,3),(1,3)],2,16,[.int .i64 0,.int .i64 0],true⟩:=rfl
theorem Z6l:Xw 116=some ⟨.ptr 120,1,8,[.pointer none],false⟩:=rfl
theorem Z6m:Xw 117=some ⟨.ptr 124,1,8,[.pointer none],false⟩:=rfl
theorem Z6n:Xw 119=some ⟨.struct [(0,117),(1,4)],2,16,[.pointer none,.bool false],false⟩:=rfl
theorem Z6o:Xw 120=some ⟨.struct [(0,117),(1,4)],2,16,[.pointer none,.bool false],false⟩:=rfl
theorem Z6p:Xw 123=some ⟨.struct [(0,53),(1,3),(2,3),(3,3)],4,48,[.slice none 0 0,.int .i64 0,.int .i64 0,.int .i64 0],false⟩:=rfl
theorem Z6q:Xw 124=some ⟨.struct [(0,53),(1,3),(2,3),(3,3)],4,48,[.slice none 0 0,.int .i64 0,.int .i64 0,.int .i64 0],false⟩:=rfl
theorem Z6r:Xw 125=some ⟨.struct [(0,4),(1,3)],2,16,[.bool false,.int .i64 0],false⟩:=rfl
theorem Z28:Xw 126=some ⟨.struct [(0,4),(1,3)],2,16,[.bool false,.int .i64 0],true⟩:=rfl
theorem Z6s:Xw 139=some ⟨.struct [(0,22),(1,3)],2,32,[.slice none 0 0,.int .i64 0],false⟩:=rfl
theorem Z6t:Xw 140=some ⟨.struct [(0,22),(1,3)],2,32,[.slice none 0 0,.int .i64 0],false⟩:=rfl
theorem Z6u:Xw 142=some ⟨.struct [(0,3)],1,8,[.int .i64 0],false⟩:=rfl
theorem Z6v:Xw 143=some ⟨.struct [(0,3)],1,8,[.int .i64 0],true⟩:=rfl
theorem Z6w:Xw 146=some ⟨.struct [(0,53),(1,3),(2,3)],3,40,[.slice none 0 0,.int .i64 0,.int .i64 0],false⟩:=rfl
theorem Z6x:Xw 147=some ⟨.struct [(0,53),(1,3),(2,3)],3,40,[.slice none 0 0,.int .i64 0,.int .i64 0],false⟩:=rfl
theorem Z6y:Xw 154=some ⟨.struct [(0,3),(1,3),(2,3),(3,3),(4,3),(5,3),(6,3),(7,4)],8,64,[.int .i64 0,.int .i64 0,.int .i64 0,.int .i64 0,.int .i64 0,.int .i64 0,.int .i64 0,.bool false],false⟩:=rfl
theorem Z6z:Xw 155=some ⟨.struct [(0,3),(1,3),(2,3),(3,3),(4,3),(5,3),(6,3),(7,4)],8,64,[.int .i64 0,.int .i64 0,.int .i64 0,.int .i64 0,.int .i64 0,.int .i64 0,.int .i64 0,.bool false],true⟩:=rfl
theorem Z60:Xw 156=some ⟨.struct [(0,155),(8,3),(9,3)],10,80,[.int .i64 0,.int .i64 0,.int .i64 0,.int .i64 0,.int .i64 0,.int .i64 0,.int .i64 0,.bool false,.int .i64 0,.int .i64 0],false⟩:=rfl
theorem Z61:Xw 157=some ⟨.struct [(0,155),(8,3),(9,3)],10,80,[.int .i64 0,.int .i64 0,.int .i64 0,.int .i64 0,.int .i64 0,.int .i64 0,.int .i64 0,.bool false,.int .i64 0,.int .i64 0],true⟩:=rfl
theorem Z62:Xw 164=some ⟨.ptr 112,1,8,[.pointer none],false⟩:=rfl
theorem Zxv:Xw 185=some ⟨.arr 8 5,8,8,[.int .u8 0,.int .u8 0,.int .u8 0,.int .u8 0,.int .u8 0,.int .u8 0,.int .u8 0,.int .u8 0],true⟩:=rfl
theorem Z63:Xw 189=some ⟨.slice 5,1,24,[.slice none 0 0],false⟩:=rfl
theorem Z64:Xw 190=some ⟨.ptr 140,1,8,[.pointer none],false⟩:=rfl
theorem Z65:Xw 191=some ⟨.struct [(0,3),(1,3),(2,3),(3,3),(4,3),(5,3),(6,3),(7,4)],8,64,[.int .i64 0,.int .i64 0,.int .i64 0,.int .i64 0,.int .i64 0,.int .i64 0,.int .i64 0,.bool false],true⟩:=rfl
theorem Z66:Xw 197=some ⟨.ptr 143,1,8,[.pointer none],false⟩:=rfl
theorem Z67:Xw 199=some ⟨.struct [(0,28),(1,3),(2,23),(3,23)],4,80,[.slice none 0 0,.int .i64 0,.slice none 0 0,.slice none 0 0],false⟩:=rfl
theorem Z68:Xw 200=some ⟨.struct [(0,28),(1,3),(2,23),(3,23)],4,80,[.slice none 0 0,.int .i64 0,.slice none 0 0,.slice none 0 0],false⟩:=rfl
theorem Z69:Xw 203=some ⟨.ptr 23,1,8,[.pointer none],false⟩:=rfl
theorem Z7a:Xw 207=some ⟨.struct [(0,3),(1,3),(2,23),(3,23),(4,28)],5,88,[.int .i64 0,.int .i64 0,.slice none 0 0,.slice none 0 0,.slice none 0 0],false⟩:=rfl
theorem Z7b:Xw 208=some ⟨.struct [(0,3),(1,3),(2,23),(3,23),(4,28)],5,88,[.int .i64 0,.int .i64 0,.slice none 0 0,.slice none 0 0,.slice none 0 0],false⟩:=rfl
theorem Z7c:Xw 209=some ⟨.slice 212,1,24,[.slice none 0 0],false⟩:=rfl
theorem Z7d:Xw 211=some ⟨.struct [(0,3),(1,3)],2,16,[.int .i64 0,.int .i64 0],false⟩:=rfl
theorem Z7e:Xw 212=some ⟨.struct [(0,3),(1,3)],2,16,[.int .i64 0,.int .i64 0],true⟩:=rfl
theorem Z7f:Xw 219=some ⟨.struct [(0,3)],1,8,[.int .i64 0],false⟩:=rfl
theorem Z7g:Xw 220=some ⟨.struct [(0,3)],1,8,[.int .i64 0],true⟩:=rfl
theorem Z7h:Xw 224=some ⟨.struct [(0,62),(9,62),(18,3),(19,3),(20,3),(21,3),(22,3),(23,28)],24,208,[.pointer none,.int .i64 0,.int .i64 0,.int .i64 0,.int .i64 0,.int .i64 0,.int .i64 0,.int .i64 0,.int .i64 0,.pointer none,.int .i64 0,.int .i64 0,.int .i64 0,.int .i64 0,.int .i64 0,.int .i64 0,.int .i64 0,.int .i64 0,.int .i64 0,.int .i64 0,.int .i64 0,.int .i64 0,.int .i64 0,.slice none 0 0],false⟩:=rfl
theorem Z7i:Xw 225=some ⟨.struct [(0,62),(9,62),(18,3),(19,3),(20,3),(21,3),(22,3),(23,28)],24,208,[.pointer none,.int .i64 0,.int .i64 0,.int .i64 0,.int .i64 0,.int .i64 0,.int .i64 0,.int .i64 0,.int .i64 0,.pointer none,.int .i64 0,.int .i64 0,.int .i64 0,.int .i64 0,.int .i64 0,.int .i64 0,.int .i64 0,.int .i64 0,.int .i64 0,.int .i64 0,.int .i64 0,.int .i64 0,.int .i64 0,.slice none 0 0],false⟩:=rfl
theorem Z7j:Xw 227=some ⟨.struct [(0,191),(8,3),(9,3)],10,80,[.int .i64 0,.int .i64 0,.int .i64 0,.int .i64 0,.int .i64 0,.int .i64 0,.int .i64 0,.bool false,.int .i64 0,.int .i64 0],false⟩:=rfl
theorem Z7k:Xw 228=some ⟨.struct [(0,191),(8,3),(9,3)],10,80,[.int .i64 0,.int .i64 0,.int .i64 0,.int .i64 0,.int .i64 0,.int .i64 0,.int .i64 0,.bool false,.int .i64 0,.int .i64 0],true⟩:=rfl
theorem Z7l:Xw 236=some ⟨.slice 3,1,24,[.slice none 0 0],false⟩:=rfl
theorem Z7m:Xw 239=some ⟨.slice 242,1,24,[.slice none 0 0],false⟩:=rfl
theorem Z7n:Xw 242=some ⟨.struct [(0,3),(1,3)],2,16,[.int .i64 0,.int .i64 0],true⟩:=rfl
theorem Z7o:Xw 246=some ⟨.struct [(0,3)],1,8,[.int .i64 0],false⟩:=rfl
theorem Z7p:Xw 247=some ⟨.struct [(0,3)],1,8,[.int .i64 0],true⟩:=rfl
theorem Z7q:Xw 255=some ⟨.struct [(0,62),(9,3),(10,23)],11,104,[.pointer none,.int .i64 0,.int .i64 0,.int .i64 0,.int .i64 0,.int .i64 0,.int .i64 0,.int .i64 0,.int .i64 0,.int .i64 0,.slice none 0 0],false⟩:=rfl
theorem Z7r:Xw 257=some ⟨.slice 126,1,24,[.slice none 0 0],false⟩:=rfl
theorem Z7s:Xw 278=some ⟨.ptr 220,1,8,[.pointer none],false⟩:=rfl
theorem Z7t:Xw 284=some ⟨.ptr 330,1,8,[.pointer none],false⟩:=rfl
theorem Z7u:Xw 299=some ⟨.struct [(0,3),(1,3)],2,16,[.int .i64 0,.int .i64 0],false⟩:=rfl
theorem Z7v:Xw 309=some ⟨.arr 7 3,7,56,[.int .i64 0,.int .i64 0,.int .i64 0,.int .i64 0,.int .i64 0,.int .i64 0,.int .i64 0],true⟩:=rfl
theorem Z7w:Xw 310=some ⟨.int .u32,1,4,[.int .u32 0],false⟩:=rfl
theorem Z7x:Xw 321=some ⟨.arr 3 3,3,24,[.int .i64 0,.int .i64 0,.int .i64 0],true⟩:=rfl
theorem Z7y:Xw 346=some ⟨.arr 6 3,6,48,[.int .i64 0,.int .i64 0,.int .i64 0,.int .i64 0,.int .i64 0,.int .i64 0],true⟩:=rfl
theorem Z7z:Xw 358=some ⟨.slice 364,1,24,[.slice none 0 0],false⟩:=rfl
theorem Z70:Xw 362=some ⟨.ptr 359,1,8,[.pointer none],false⟩:=rfl
theorem Z71:Xw 363=some ⟨.struct [(0,325),(2,3)],3,24,[.int .i64 0,.int .i64 0,.int .i64 0],false⟩:=rfl
theorem Z73:Z9 Xw 2=some (.int .i64):=rfl
theorem Z74:Z9 Xw 3=some (.int .i64):=rfl
theorem Z75:Z9 Xw 4=some (.bool):=rfl
theorem Z76:Z9 Xw 5=some (.int .u8):=rfl
theorem Z77:Z9 Xw 6=some (.int .u8):=rfl
theorem Z78:Z9 Xw 7=some (.struct [(0,2),(1,3),(2,4),(3,6)]):=rfl
theorem Z79:Z9 Xw 8=some (.struct [(0,2),(1,3),(2,4),(3,6)]):=rfl
theorem Z8a:Z9 Xw 9=some (.str):=rfl
theorem Zz9:Z9 Xw 10=some (.str):=rfl
theorem Z0a:Z9 Xw 11=some (.str):=rfl
theorem Z0b:Z9 Xw 12=some (.int .u64):=rfl
theorem Z0c:Z9 Xw 13=some (.struct [(0,9),(1,12)]):=rfl
theorem Z0d:Z9 Xw 14=some (.struct [(0,9),(1,12)]):=rfl
theorem Z0e:Z9 Xw 15=some (.ptr 399):=rfl
theorem Z0f:Z9 Xw 16=some (.ptr 402):=rfl
theorem Z0g:Z9 Xw 17=some (.ptr 410):=rfl
theorem Z0h:Z9 Xw 18=some (.struct [(0,17)]):=rfl
theorem Z0i:Z9 Xw 19=some (.struct [(0,17)]):=rfl
theorem Z0j:Z9 Xw 21=some (.int .i32):=rfl
theorem Zkn:Z9 Xw 22=some (.slice 77):=rfl
theorem Zrs:Z9 Xw 23=some (.slice 25):=rfl
theorem Z0k:Z9 Xw 24=some (.struct [(0,3),(1,22),(2,23)]):=rfl
theorem Z0l:Z9 Xw 25=some (.struct [(0,3),(1,22),(2,23)]):=rfl
theorem Z0m:Z9 Xw 26=some (.slice 84):=rfl
theorem Z0n:Z9 Xw 27=some (.slice 86):=rfl
theorem Z0o:Z9 Xw 28=some (.slice 89):=rfl
theorem Z0p:Z9 Xw 29=some (.struct [(0,3),(1,25),(4,25),(7,26),(8,27),(9,3),(10,28)]):=rfl
theorem Z0q:Z9 Xw 30=some (.struct [(0,3),(1,25),(4,25),(7,26),(8,27),(9,3),(10,28)]):=rfl
theorem Z0r:Z9 Xw 44=some (.int .i64):=rfl
theorem Z0s:Z9 Xw 53=some (.slice 22):=rfl
theorem Z0t:Z9 Xw 54=some (.struct [(0,3),(1,3),(2,3),(3,3)]):=rfl
theorem Z0u:Z9 Xw 55=some (.struct [(0,3),(1,3),(2,3),(3,3)]):=rfl
theorem Zwt:Z9 Xw 60=some (.ptr 147):=rfl
theorem Z0v:Z9 Xw 61=some (.struct [(0,60),(1,3),(2,3),(3,3),(4,3),(5,3),(6,3),(7,3),(8,3)]):=rfl
theorem Z0w:Z9 Xw 62=some (.struct [(0,60),(1,3),(2,3),(3,3),(4,3),(5,3),(6,3),(7,3),(8,3)]):=rfl
theorem Z0x:Z9 Xw 77=some (.int .u64):=rfl
theorem Z0y:Z9 Xw 81=some (.int .u64):=rfl
theorem Z0z:Z9 Xw 83=some (.struct [(0,3),(1,5),(2,77),(3,77)]):=rfl
theorem Z00:Z9 Xw 84=some (.struct [(0,3),(1,5),(2,77),(3,77)]):=rfl
theorem Z01:Z9 Xw 85=some (.struct [(0,3),(1,30)]):=rfl
theorem Z02:Z9 Xw 86=some (.struct [(0,3),(1,30)]):=rfl
theorem Z03:Z9 Xw 88=some (.struct [(0,3),(1,3),(2,23),(3,30)]):=rfl
theorem Z04:Z9 Xw 89=some (.struct [(0,3),(1,3),(2,23),(3,30)]):=rfl
theorem Zu7:Z9 Xw 106=some (.struct [(0,3),(1,3),(2,3),(3,3),(4,3),(5,3),(6,77)]):=rfl
theorem Zu8:Z9 Xw 107=some (.struct [(0,3),(1,3),(2,3),(3,3),(4,3),(5,3),(6,77)]):=rfl
theorem Zu9:Z9 Xw 111=some (.struct [(0,3),(1,3)]):=rfl
theorem Zva:Z9 Xw 112=some (.struct [(0,3),(1,3)]):=rfl
theorem Zvb:Z9 Xw 116=some (.ptr 120):=rfl
theorem Zvc:Z9 Xw 117=some (.ptr 124):=rfl
theorem Zvd:Z9 Xw 119=some (.struct [(0,117),(1,4)]):=rfl
theorem Zve:Z9 Xw 120=some (.struct [(0,117),(1,4)]):=rfl
theorem Zvf:Z9 Xw 123=some (.struct [(0,53),(1,3),(2,3),(3,3)]):=rfl
theorem Zvg:Z9 Xw 124=some (.struct [(0,53),(1,3),(2,3),(3,3)]):=rfl
theorem Zvh:Z9 Xw 125=some (.struct [(0,4),(1,3)]):=rfl
theorem Zvi:Z9 Xw 126=some (.struct [(0,4),(1,3)]):=rfl
theorem Zvj:Z9 Xw 139=some (.struct [(0,22),(1,3)]):=rfl
theorem Zvk:Z9 Xw 140=some (.struct [(0,22),(1,3)]):=rfl
theorem Zvl:Z9 Xw 142=some (.struct [(0,3)]):=rfl
theorem Zvm:Z9 Xw 143=some (.struct [(0,3)]):=rfl
theorem Zvn:Z9 Xw 146=some (.struct [(0,53),(1,3),(2,3)]):=rfl
theorem Zvo:Z9 Xw 147=some (.struct [(0,53),(1,3),(2,3)]):=rfl
theorem Zvp:Z9 Xw 154=some (.struct [(0,3),(1,3),(2,3),(3,3),(4,3),(5,3),(6,3),(7,4)]):=rfl
theorem Zvq:Z9 Xw 155=some (.struct [(0,3),(1,3),(2,3),(3,3),(4,3),(5,3),(6,3),(7,4)]):=rfl
theorem Zvr:Z9 Xw 156=some (.struct [(0,155),(8,3),(9,3)]):=rfl
theorem Zvs:Z9 Xw 157=some (.struct [(0,155),(8,3),(9,3)]):=rfl
theorem Zvt:Z9 Xw 164=some (.ptr 112):=rfl
theorem Zqn:Z9 Xw 185=some (.arr 8 5):=rfl
theorem Zvu:Z9 Xw 189=some (.slice 5):=rfl
theorem Zvv:Z9 Xw 190=some (.ptr 140):=rfl
theorem Zvw:Z9 Xw 191=some (.struct [(0,3),(1,3),(2,3),(3,3),(4,3),(5,3),(6,3),(7,4)]):=rfl
theorem Zvx:Z9 Xw 197=some (.ptr 143):=rfl
theorem Zvy:Z9 Xw 199=some (.struct [(0,28),(1,3),(2,23),(3,23)]):=rfl
theorem Zvz:Z9 Xw 200=some (.struct [(0,28),(1,3),(2,23),(3,23)]):=rfl
theorem Zv0:Z9 Xw 203=some (.ptr 23):=rfl
theorem Zv1:Z9 Xw 207=some (.struct [(0,3),(1,3),(2,23),(3,23),(4,28)]):=rfl
theorem Zv2:Z9 Xw 208=some (.struct [(0,3),(1,3),(2,23),(3,23),(4,28)]):=rfl
theorem Zv3:Z9 Xw 209=some (.slice 212):=rfl
theorem Zv4:Z9 Xw 211=some (.struct [(0,3),(1,3)]):=rfl
theorem Zv5:Z9 Xw 212=some (.struct [(0,3),(1,3)]):=rfl
theorem Zv6:Z9 Xw 219=some (.struct [(0,3)]):=rfl
theorem Zv7:Z9 Xw 220=some (.struct [(0,3)]):=rfl
theorem Zv8:Z9 Xw 224=some (.struct [(0,62),(9,62),(18,3),(19,3),(20,3),(21,3),(22,3),(23,28)]):=rfl
theorem Zv9:Z9 Xw 225=some (.struct [(0,62),(9,62),(18,3),(19,3),(20,3),(21,3),(22,3),(23,28)]):=rfl
theorem Zwa:Z9 Xw 227=some (.struct [(0,191),(8,3),(9,3)]):=rfl
theorem Zwb:Z9 Xw 228=some (.struct [(0,191),(8,3),(9,3)]):=rfl
theorem Zwc:Z9 Xw 236=some (.slice 3):=rfl
theorem Zwd:Z9 Xw 239=some (.slice 242):=rfl
theorem Zwe:Z9 Xw 242=some (.struct [(0,3),(1,3)]):=rfl
theorem Zwf:Z9 Xw 246=some (.struct [(0,3)]):=rfl
theorem Zwg:Z9 Xw 247=some (.struct [(0,3)]):=rfl
theorem Zwh:Z9 Xw 255=some (.struct [(0,62),(9,3),(10,23)]):=rfl
theorem Zwi:Z9 Xw 257=some (.slice 126):=rfl
theorem Zwj:Z9 Xw 278=some (.ptr 220):=rfl
theorem Zwk:Z9 Xw 284=some (.ptr 330):=rfl
theorem Zwl:Z9 Xw 299=some (.struct [(0,3),(1,3)]):=rfl
theorem Zwm:Z9 Xw 309=some (.arr 7 3):=rfl
theorem Zwn:Z9 Xw 310=some (.int .u32):=rfl
theorem Zwo:Z9 Xw 321=some (.arr 3 3):=rfl
theorem Zwp:Z9 Xw 346=some (.arr 6 3):=rfl
theorem Zwq:Z9 Xw 358=some (.slice 364):=rfl
theorem Zwr:Z9 Xw 362=some (.ptr 359):=rfl
theorem Zws:Z9 Xw 363=some (.struct [(0,325),(2,3)]):=rfl
end Go.Proofs.YtmlcnhambfkjaaaGreat
