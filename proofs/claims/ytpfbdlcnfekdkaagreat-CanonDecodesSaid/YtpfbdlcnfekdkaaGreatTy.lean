/- The types of this seat's program, as its dump has them, in the ghost memory's words; no condition. -/
import Derived.Test.YtpfbdlcnfekdkaaGreatRows
import Derived.Test.YtpfbdlcnfekdkaaGreatG16
namespace Go.Proofs.YtpfbdlcnfekdkaaGreat
open Go.RowKit
set_option linter.unusedVariables false
set_option linter.unusedSimpArgs false
theorem TyOk.of {P:Program} {t:TypeId} (k:TK) (size bytes:Nat) (zero:List Value) (z:Value) (h:(P.info? t).map (fun i=>(i.zero,i.size,i.bytes))=some (some z,size,bytes)) (hz:z.cells.toList=zero) (hu:k.ok P t) (hl:zero.length=size) (h1:zero.all Value.oneCell'=true) (eq:Bool) (he:eq=true→Zvz P t):TyOk P t ⟨k,size,bytes,zero,eq⟩:=by
 refine ⟨?_,hu,hl,fun v hv=>List.all_eq_true.1 h1 v hv,he⟩
 cases hi:P.info? t with
 | none=>rw [hi] at h;cases h
 | some i =>
  rw [hi] at h
  simp only [Option.map_some,Option.some.injEq,Prod.mk.injEq] at h
  exact ⟨i,z,rfl,h.2.1,h.2.2,h.1,hz⟩
theorem Zw8 {α:Type} {t:Nat} {i:α}:∀ (l:List (Nat×α)),l.lookup t=some i→(t,i)∈l
 | [],h=>by simp at h
 | (a,b)::l,h=>by
  rw [List.lookup_cons] at h
  split at h
  ·rename_i he
   injection h with h
   have:t=a:=by simpa using he
   subst h this
   exact .head _
  exact .tail _ (Zw8 l h)
theorem ty2:TyOk Tryz.prog 2 ⟨.int .i64,1,8,[.int .i64 0],false⟩:=TyOk.of (P:=Tryz.prog) (t:=2) (.int .i64) 1 8 [.int .i64 0] (.int .i64 0) (by kernel_rfl) rfl Tryz.underlying2 rfl rfl false (fun h=>by cases h)
theorem ty3:TyOk Tryz.prog 3 ⟨.int .i64,1,8,[.int .i64 0],false⟩:=TyOk.of (P:=Tryz.prog) (t:=3) (.int .i64) 1 8 [.int .i64 0] (.int .i64 0) (by kernel_rfl) rfl Tryz.underlying3 rfl rfl false (fun h=>by cases h)
theorem ty4:TyOk Tryz.prog 4 ⟨.bool,1,1,[.bool false],false⟩:=TyOk.of (P:=Tryz.prog) (t:=4) (.bool) 1 1 [.bool false] (.bool false) (by kernel_rfl) rfl Tryz.underlying4 rfl rfl false (fun h=>by cases h)
theorem ty5:TyOk Tryz.prog 5 ⟨.int .u8,1,1,[.int .u8 0],false⟩:=TyOk.of (P:=Tryz.prog) (t:=5) (.int .u8) 1 1 [.int .u8 0] (.int .u8 0) (by kernel_rfl) rfl Tryz.underlying5 rfl rfl false (fun h=>by cases h)
theorem ty6:TyOk Tryz.prog 6 ⟨.int .u8,1,1,[.int .u8 0],false⟩:=TyOk.of (P:=Tryz.prog) (t:=6) (.int .u8) 1 1 [.int .u8 0] (.int .u8 0) (by kernel_rfl) rfl Tryz.underlying6 rfl rfl false (fun h=>by cases h)
theorem ty7:TyOk Tryz.prog 7 ⟨.struct [(0,2),(1,3),(2,4),(3,6)],4,24,[.int .i64 0,.int .i64 0,.bool false,.int .u8 0],false⟩:=TyOk.of (P:=Tryz.prog) (t:=7) (.struct [(0,2),(1,3),(2,4),(3,6)]) 4 24 [.int .i64 0,.int .i64 0,.bool false,.int .u8 0] (.agg #[.int .i64 0,.int .i64 0,.bool false,.int .u8 0]) (by kernel_rfl) rfl ⟨_,Tryz.underlying7,rfl⟩ rfl rfl false (fun h=>by cases h)
theorem ty8:TyOk Tryz.prog 8 ⟨.struct [(0,2),(1,3),(2,4),(3,6)],4,24,[.int .i64 0,.int .i64 0,.bool false,.int .u8 0],false⟩:=TyOk.of (P:=Tryz.prog) (t:=8) (.struct [(0,2),(1,3),(2,4),(3,6)]) 4 24 [.int .i64 0,.int .i64 0,.bool false,.int .u8 0] (.agg #[.int .i64 0,.int .i64 0,.bool false,.int .u8 0]) (by kernel_rfl) rfl ⟨_,Tryz.underlying8,rfl⟩ rfl rfl false (fun h=>by cases h)
theorem ty9:TyOk Tryz.prog 9 ⟨.str,1,16,[.string ByteArray.empty],false⟩:=TyOk.of (P:=Tryz.prog) (t:=9) (.str) 1 16 [.string ByteArray.empty] (.string ByteArray.empty) (by kernel_rfl) rfl Tryz.underlying9 rfl rfl false (fun h=>by cases h)
theorem Yd8:TyOk Tryz.prog 10 ⟨.str,1,16,[.string ByteArray.empty],false⟩:=TyOk.of (P:=Tryz.prog) (t:=10) (.str) 1 16 [.string ByteArray.empty] (.string ByteArray.empty) (by kernel_rfl) rfl Tryz.underlying10 rfl rfl false (fun h=>by cases h)
theorem Yd9:TyOk Tryz.prog 11 ⟨.str,1,16,[.string ByteArray.empty],false⟩:=TyOk.of (P:=Tryz.prog) (t:=11) (.str) 1 16 [.string ByteArray.empty] (.string ByteArray.empty) (by kernel_rfl) rfl Tryz.underlying11 rfl rfl false (fun h=>by cases h)
theorem Yea:TyOk Tryz.prog 12 ⟨.int .u64,1,8,[.int .u64 0],false⟩:=TyOk.of (P:=Tryz.prog) (t:=12) (.int .u64) 1 8 [.int .u64 0] (.int .u64 0) (by kernel_rfl) rfl Tryz.underlying12 rfl rfl false (fun h=>by cases h)
theorem Yeb:TyOk Tryz.prog 13 ⟨.struct [(0,9),(1,12)],2,24,[.string ByteArray.empty,.int .u64 0],false⟩:=TyOk.of (P:=Tryz.prog) (t:=13) (.struct [(0,9),(1,12)]) 2 24 [.string ByteArray.empty,.int .u64 0] (.agg #[.string ByteArray.empty,.int .u64 0]) (by kernel_rfl) rfl ⟨_,Tryz.underlying13,rfl⟩ rfl rfl false (fun h=>by cases h)
theorem Yec:TyOk Tryz.prog 14 ⟨.struct [(0,9),(1,12)],2,24,[.string ByteArray.empty,.int .u64 0],false⟩:=TyOk.of (P:=Tryz.prog) (t:=14) (.struct [(0,9),(1,12)]) 2 24 [.string ByteArray.empty,.int .u64 0] (.agg #[.string ByteArray.empty,.int .u64 0]) (by kernel_rfl) rfl ⟨_,Tryz.underlying14,rfl⟩ rfl rfl false (fun h=>by cases h)
theorem Yed:TyOk Tryz.prog 15 ⟨.ptr 142,1,8,[.pointer none],false⟩:=TyOk.of (P:=Tryz.prog) (t:=15) (.ptr 142) 1 8 [.pointer none] (.pointer none) (by kernel_rfl) rfl Tryz.underlying15 rfl rfl false (fun h=>by cases h)
theorem Yee:TyOk Tryz.prog 16 ⟨.ptr 145,1,8,[.pointer none],false⟩:=TyOk.of (P:=Tryz.prog) (t:=16) (.ptr 145) 1 8 [.pointer none] (.pointer none) (by kernel_rfl) rfl Tryz.underlying16 rfl rfl false (fun h=>by cases h)
theorem Yef:TyOk Tryz.prog 17 ⟨.ptr 153,1,8,[.pointer none],false⟩:=TyOk.of (P:=Tryz.prog) (t:=17) (.ptr 153) 1 8 [.pointer none] (.pointer none) (by kernel_rfl) rfl Tryz.underlying17 rfl rfl false (fun h=>by cases h)
theorem Yeg:TyOk Tryz.prog 18 ⟨.struct [(0,17)],1,8,[.pointer none],false⟩:=TyOk.of (P:=Tryz.prog) (t:=18) (.struct [(0,17)]) 1 8 [.pointer none] (.agg #[.pointer none]) (by kernel_rfl) rfl ⟨_,Tryz.underlying18,rfl⟩ rfl rfl false (fun h=>by cases h)
theorem Yeh:TyOk Tryz.prog 19 ⟨.struct [(0,17)],1,8,[.pointer none],false⟩:=TyOk.of (P:=Tryz.prog) (t:=19) (.struct [(0,17)]) 1 8 [.pointer none] (.agg #[.pointer none]) (by kernel_rfl) rfl ⟨_,Tryz.underlying19,rfl⟩ rfl rfl false (fun h=>by cases h)
theorem Yei:TyOk Tryz.prog 21 ⟨.int .i32,1,4,[.int .i32 0],false⟩:=TyOk.of (P:=Tryz.prog) (t:=21) (.int .i32) 1 4 [.int .i32 0] (.int .i32 0) (by kernel_rfl) rfl Tryz.underlying21 rfl rfl false (fun h=>by cases h)
theorem Yej:TyOk Tryz.prog 22 ⟨.slice 45,1,24,[.slice none 0 0],false⟩:=TyOk.of (P:=Tryz.prog) (t:=22) (.slice 45) 1 24 [.slice none 0 0] (.slice none 0 0) (by kernel_rfl) rfl Tryz.underlying22 rfl rfl false (fun h=>by cases h)
theorem Yek:TyOk Tryz.prog 23 ⟨.struct [(0,3),(1,3),(2,3),(3,3)],4,32,[.int .i64 0,.int .i64 0,.int .i64 0,.int .i64 0],false⟩:=TyOk.of (P:=Tryz.prog) (t:=23) (.struct [(0,3),(1,3),(2,3),(3,3)]) 4 32 [.int .i64 0,.int .i64 0,.int .i64 0,.int .i64 0] (.agg #[.int .i64 0,.int .i64 0,.int .i64 0,.int .i64 0]) (by kernel_rfl) rfl ⟨_,Tryz.underlying23,rfl⟩ rfl rfl false (fun h=>by cases h)
theorem Yel:TyOk Tryz.prog 24 ⟨.struct [(0,3),(1,3),(2,3),(3,3)],4,32,[.int .i64 0,.int .i64 0,.int .i64 0,.int .i64 0],true⟩:=TyOk.of (P:=Tryz.prog) (t:=24) (.struct [(0,3),(1,3),(2,3),(3,3)]) 4 32 [.int .i64 0,.int .i64 0,.int .i64 0,.int .i64 0] (.agg #[.int .i64 0,.int .i64 0,.int .i64 0,.int .i64 0]) (by kernel_rfl) rfl ⟨_,Tryz.underlying24,rfl⟩ rfl rfl true (fun _=>by unfold Zvz;exact ⟨by kernel_rfl,by kernel_rfl,by kernel_rfl⟩)
theorem Yem:TyOk Tryz.prog 26 ⟨.slice 28,1,24,[.slice none 0 0],false⟩:=TyOk.of (P:=Tryz.prog) (t:=26) (.slice 28) 1 24 [.slice none 0 0] (.slice none 0 0) (by kernel_rfl) rfl Tryz.underlying26 rfl rfl false (fun h=>by cases h)
theorem Yen:TyOk Tryz.prog 27 ⟨.struct [(0,3),(1,22),(2,26)],3,56,[.int .i64 0,.slice none 0 0,.slice none 0 0],false⟩:=TyOk.of (P:=Tryz.prog) (t:=27) (.struct [(0,3),(1,22),(2,26)]) 3 56 [.int .i64 0,.slice none 0 0,.slice none 0 0] (.agg #[.int .i64 0,.slice none 0 0,.slice none 0 0]) (by kernel_rfl) rfl ⟨_,Tryz.underlying27,rfl⟩ rfl rfl false (fun h=>by cases h)
theorem Yeo:TyOk Tryz.prog 28 ⟨.struct [(0,3),(1,22),(2,26)],3,56,[.int .i64 0,.slice none 0 0,.slice none 0 0],false⟩:=TyOk.of (P:=Tryz.prog) (t:=28) (.struct [(0,3),(1,22),(2,26)]) 3 56 [.int .i64 0,.slice none 0 0,.slice none 0 0] (.agg #[.int .i64 0,.slice none 0 0,.slice none 0 0]) (by kernel_rfl) rfl ⟨_,Tryz.underlying28,rfl⟩ rfl rfl false (fun h=>by cases h)
theorem Yep:TyOk Tryz.prog 29 ⟨.int .i64,1,8,[.int .i64 0],false⟩:=TyOk.of (P:=Tryz.prog) (t:=29) (.int .i64) 1 8 [.int .i64 0] (.int .i64 0) (by kernel_rfl) rfl Tryz.underlying29 rfl rfl false (fun h=>by cases h)
theorem Yeq:TyOk Tryz.prog 34 ⟨.slice 22,1,24,[.slice none 0 0],false⟩:=TyOk.of (P:=Tryz.prog) (t:=34) (.slice 22) 1 24 [.slice none 0 0] (.slice none 0 0) (by kernel_rfl) rfl Tryz.underlying34 rfl rfl false (fun h=>by cases h)
theorem Yer:TyOk Tryz.prog 43 ⟨.ptr 64,1,8,[.pointer none],false⟩:=TyOk.of (P:=Tryz.prog) (t:=43) (.ptr 64) 1 8 [.pointer none] (.pointer none) (by kernel_rfl) rfl Tryz.underlying43 rfl rfl false (fun h=>by cases h)
theorem Yes:TyOk Tryz.prog 45 ⟨.int .u64,1,8,[.int .u64 0],false⟩:=TyOk.of (P:=Tryz.prog) (t:=45) (.int .u64) 1 8 [.int .u64 0] (.int .u64 0) (by kernel_rfl) rfl Tryz.underlying45 rfl rfl false (fun h=>by cases h)
theorem Yet:TyOk Tryz.prog 46 ⟨.struct [(0,3),(1,3),(2,3),(3,3),(4,3),(5,3),(6,45)],7,56,[.int .i64 0,.int .i64 0,.int .i64 0,.int .i64 0,.int .i64 0,.int .i64 0,.int .u64 0],false⟩:=TyOk.of (P:=Tryz.prog) (t:=46) (.struct [(0,3),(1,3),(2,3),(3,3),(4,3),(5,3),(6,45)]) 7 56 [.int .i64 0,.int .i64 0,.int .i64 0,.int .i64 0,.int .i64 0,.int .i64 0,.int .u64 0] (.agg #[.int .i64 0,.int .i64 0,.int .i64 0,.int .i64 0,.int .i64 0,.int .i64 0,.int .u64 0]) (by kernel_rfl) rfl ⟨_,Tryz.underlying46,rfl⟩ rfl rfl false (fun h=>by cases h)
theorem Yeu:TyOk Tryz.prog 47 ⟨.struct [(0,3),(1,3),(2,3),(3,3),(4,3),(5,3),(6,45)],7,56,[.int .i64 0,.int .i64 0,.int .i64 0,.int .i64 0,.int .i64 0,.int .i64 0,.int .u64 0],true⟩:=TyOk.of (P:=Tryz.prog) (t:=47) (.struct [(0,3),(1,3),(2,3),(3,3),(4,3),(5,3),(6,45)]) 7 56 [.int .i64 0,.int .i64 0,.int .i64 0,.int .i64 0,.int .i64 0,.int .i64 0,.int .u64 0] (.agg #[.int .i64 0,.int .i64 0,.int .i64 0,.int .i64 0,.int .i64 0,.int .i64 0,.int .u64 0]) (by kernel_rfl) rfl ⟨_,Tryz.underlying47,rfl⟩ rfl rfl true (fun _=>by unfold Zvz;exact ⟨by kernel_rfl,by kernel_rfl,by kernel_rfl⟩)
theorem Yev:TyOk Tryz.prog 57 ⟨.struct [(0,43),(1,3),(2,3),(3,3),(4,3),(5,3),(6,3),(7,3),(8,3)],9,72,[.pointer none,.int .i64 0,.int .i64 0,.int .i64 0,.int .i64 0,.int .i64 0,.int .i64 0,.int .i64 0,.int .i64 0],false⟩:=TyOk.of (P:=Tryz.prog) (t:=57) (.struct [(0,43),(1,3),(2,3),(3,3),(4,3),(5,3),(6,3),(7,3),(8,3)]) 9 72 [.pointer none,.int .i64 0,.int .i64 0,.int .i64 0,.int .i64 0,.int .i64 0,.int .i64 0,.int .i64 0,.int .i64 0] (.agg #[.pointer none,.int .i64 0,.int .i64 0,.int .i64 0,.int .i64 0,.int .i64 0,.int .i64 0,.int .i64 0,.int .i64 0]) (by kernel_rfl) rfl ⟨_,Tryz.underlying57,rfl⟩ rfl rfl false (fun h=>by cases h)
theorem Yew:TyOk Tryz.prog 58 ⟨.struct [(0,43),(1,3),(2,3),(3,3),(4,3),(5,3),(6,3),(7,3),(8,3)],9,72,[.pointer none,.int .i64 0,.int .i64 0,.int .i64 0,.int .i64 0,.int .i64 0,.int .i64 0,.int .i64 0,.int .i64 0],false⟩:=TyOk.of (P:=Tryz.prog) (t:=58) (.struct [(0,43),(1,3),(2,3),(3,3),(4,3),(5,3),(6,3),(7,3),(8,3)]) 9 72 [.pointer none,.int .i64 0,.int .i64 0,.int .i64 0,.int .i64 0,.int .i64 0,.int .i64 0,.int .i64 0,.int .i64 0] (.agg #[.pointer none,.int .i64 0,.int .i64 0,.int .i64 0,.int .i64 0,.int .i64 0,.int .i64 0,.int .i64 0,.int .i64 0]) (by kernel_rfl) rfl ⟨_,Tryz.underlying58,rfl⟩ rfl rfl false (fun h=>by cases h)
theorem Yex:TyOk Tryz.prog 63 ⟨.struct [(0,34),(1,3),(2,3)],3,40,[.slice none 0 0,.int .i64 0,.int .i64 0],false⟩:=TyOk.of (P:=Tryz.prog) (t:=63) (.struct [(0,34),(1,3),(2,3)]) 3 40 [.slice none 0 0,.int .i64 0,.int .i64 0] (.agg #[.slice none 0 0,.int .i64 0,.int .i64 0]) (by kernel_rfl) rfl ⟨_,Tryz.underlying63,rfl⟩ rfl rfl false (fun h=>by cases h)
theorem Yey:TyOk Tryz.prog 64 ⟨.struct [(0,34),(1,3),(2,3)],3,40,[.slice none 0 0,.int .i64 0,.int .i64 0],false⟩:=TyOk.of (P:=Tryz.prog) (t:=64) (.struct [(0,34),(1,3),(2,3)]) 3 40 [.slice none 0 0,.int .i64 0,.int .i64 0] (.agg #[.slice none 0 0,.int .i64 0,.int .i64 0]) (by kernel_rfl) rfl ⟨_,Tryz.underlying64,rfl⟩ rfl rfl false (fun h=>by cases h)
theorem Yez:TyOk Tryz.prog 66 ⟨.struct [(0,22),(1,3)],2,32,[.slice none 0 0,.int .i64 0],false⟩:=TyOk.of (P:=Tryz.prog) (t:=66) (.struct [(0,22),(1,3)]) 2 32 [.slice none 0 0,.int .i64 0] (.agg #[.slice none 0 0,.int .i64 0]) (by kernel_rfl) rfl ⟨_,Tryz.underlying66,rfl⟩ rfl rfl false (fun h=>by cases h)
theorem Ye0:TyOk Tryz.prog 67 ⟨.struct [(0,22),(1,3)],2,32,[.slice none 0 0,.int .i64 0],false⟩:=TyOk.of (P:=Tryz.prog) (t:=67) (.struct [(0,22),(1,3)]) 2 32 [.slice none 0 0,.int .i64 0] (.agg #[.slice none 0 0,.int .i64 0]) (by kernel_rfl) rfl ⟨_,Tryz.underlying67,rfl⟩ rfl rfl false (fun h=>by cases h)
theorem Ye1:TyOk Tryz.prog 70 ⟨.struct [(0,3),(1,3),(2,3),(3,3),(4,3),(5,3),(6,3),(7,4)],8,64,[.int .i64 0,.int .i64 0,.int .i64 0,.int .i64 0,.int .i64 0,.int .i64 0,.int .i64 0,.bool false],false⟩:=TyOk.of (P:=Tryz.prog) (t:=70) (.struct [(0,3),(1,3),(2,3),(3,3),(4,3),(5,3),(6,3),(7,4)]) 8 64 [.int .i64 0,.int .i64 0,.int .i64 0,.int .i64 0,.int .i64 0,.int .i64 0,.int .i64 0,.bool false] (.agg #[.int .i64 0,.int .i64 0,.int .i64 0,.int .i64 0,.int .i64 0,.int .i64 0,.int .i64 0,.bool false]) (by kernel_rfl) rfl ⟨_,Tryz.underlying70,rfl⟩ rfl rfl false (fun h=>by cases h)
theorem Ye2:TyOk Tryz.prog 71 ⟨.struct [(0,3),(1,3),(2,3),(3,3),(4,3),(5,3),(6,3),(7,4)],8,64,[.int .i64 0,.int .i64 0,.int .i64 0,.int .i64 0,.int .i64 0,.int .i64 0,.int .i64 0,.bool false],true⟩:=TyOk.of (P:=Tryz.prog) (t:=71) (.struct [(0,3),(1,3),(2,3),(3,3),(4,3),(5,3),(6,3),(7,4)]) 8 64 [.int .i64 0,.int .i64 0,.int .i64 0,.int .i64 0,.int .i64 0,.int .i64 0,.int .i64 0,.bool false] (.agg #[.int .i64 0,.int .i64 0,.int .i64 0,.int .i64 0,.int .i64 0,.int .i64 0,.int .i64 0,.bool false]) (by kernel_rfl) rfl ⟨_,Tryz.underlying71,rfl⟩ rfl rfl true (fun _=>by unfold Zvz;exact ⟨by kernel_rfl,by kernel_rfl,by kernel_rfl⟩)
theorem Ye3:TyOk Tryz.prog 72 ⟨.struct [(0,71),(8,3),(9,3)],10,80,[.int .i64 0,.int .i64 0,.int .i64 0,.int .i64 0,.int .i64 0,.int .i64 0,.int .i64 0,.bool false,.int .i64 0,.int .i64 0],false⟩:=TyOk.of (P:=Tryz.prog) (t:=72) (.struct [(0,71),(8,3),(9,3)]) 10 80 [.int .i64 0,.int .i64 0,.int .i64 0,.int .i64 0,.int .i64 0,.int .i64 0,.int .i64 0,.bool false,.int .i64 0,.int .i64 0] (.agg #[.int .i64 0,.int .i64 0,.int .i64 0,.int .i64 0,.int .i64 0,.int .i64 0,.int .i64 0,.bool false,.int .i64 0,.int .i64 0]) (by kernel_rfl) rfl ⟨_,Tryz.underlying72,rfl⟩ rfl rfl false (fun h=>by cases h)
theorem Ye4:TyOk Tryz.prog 73 ⟨.struct [(0,71),(8,3),(9,3)],10,80,[.int .i64 0,.int .i64 0,.int .i64 0,.int .i64 0,.int .i64 0,.int .i64 0,.int .i64 0,.bool false,.int .i64 0,.int .i64 0],true⟩:=TyOk.of (P:=Tryz.prog) (t:=73) (.struct [(0,71),(8,3),(9,3)]) 10 80 [.int .i64 0,.int .i64 0,.int .i64 0,.int .i64 0,.int .i64 0,.int .i64 0,.int .i64 0,.bool false,.int .i64 0,.int .i64 0] (.agg #[.int .i64 0,.int .i64 0,.int .i64 0,.int .i64 0,.int .i64 0,.int .i64 0,.int .i64 0,.bool false,.int .i64 0,.int .i64 0]) (by kernel_rfl) rfl ⟨_,Tryz.underlying73,rfl⟩ rfl rfl true (fun _=>by unfold Zvz;exact ⟨by kernel_rfl,by kernel_rfl,by kernel_rfl⟩)
theorem Ye5:TyOk Tryz.prog 87 ⟨.struct [(0,3)],1,8,[.int .i64 0],false⟩:=TyOk.of (P:=Tryz.prog) (t:=87) (.struct [(0,3)]) 1 8 [.int .i64 0] (.agg #[.int .i64 0]) (by kernel_rfl) rfl ⟨_,Tryz.underlying87,rfl⟩ rfl rfl false (fun h=>by cases h)
theorem Ye6:TyOk Tryz.prog 88 ⟨.struct [(0,3)],1,8,[.int .i64 0],true⟩:=TyOk.of (P:=Tryz.prog) (t:=88) (.struct [(0,3)]) 1 8 [.int .i64 0] (.agg #[.int .i64 0]) (by kernel_rfl) rfl ⟨_,Tryz.underlying88,rfl⟩ rfl rfl true (fun _=>by unfold Zvz;exact ⟨by kernel_rfl,by kernel_rfl,by kernel_rfl⟩)
theorem Ye7:TyOk Tryz.prog 91 ⟨.struct [(0,3)],1,8,[.int .i64 0],false⟩:=TyOk.of (P:=Tryz.prog) (t:=91) (.struct [(0,3)]) 1 8 [.int .i64 0] (.agg #[.int .i64 0]) (by kernel_rfl) rfl ⟨_,Tryz.underlying91,rfl⟩ rfl rfl false (fun h=>by cases h)
theorem Ye8:TyOk Tryz.prog 92 ⟨.struct [(0,3)],1,8,[.int .i64 0],true⟩:=TyOk.of (P:=Tryz.prog) (t:=92) (.struct [(0,3)]) 1 8 [.int .i64 0] (.agg #[.int .i64 0]) (by kernel_rfl) rfl ⟨_,Tryz.underlying92,rfl⟩ rfl rfl true (fun _=>by unfold Zvz;exact ⟨by kernel_rfl,by kernel_rfl,by kernel_rfl⟩)
theorem Ye9:TyOk Tryz.prog 95 ⟨.ptr 67,1,8,[.pointer none],false⟩:=TyOk.of (P:=Tryz.prog) (t:=95) (.ptr 67) 1 8 [.pointer none] (.pointer none) (by kernel_rfl) rfl Tryz.underlying95 rfl rfl false (fun h=>by cases h)
theorem Yfa:TyOk Tryz.prog 96 ⟨.struct [(0,3),(1,3),(2,3),(3,3),(4,3),(5,3),(6,3),(7,4)],8,64,[.int .i64 0,.int .i64 0,.int .i64 0,.int .i64 0,.int .i64 0,.int .i64 0,.int .i64 0,.bool false],true⟩:=TyOk.of (P:=Tryz.prog) (t:=96) (.struct [(0,3),(1,3),(2,3),(3,3),(4,3),(5,3),(6,3),(7,4)]) 8 64 [.int .i64 0,.int .i64 0,.int .i64 0,.int .i64 0,.int .i64 0,.int .i64 0,.int .i64 0,.bool false] (.agg #[.int .i64 0,.int .i64 0,.int .i64 0,.int .i64 0,.int .i64 0,.int .i64 0,.int .i64 0,.bool false]) (by kernel_rfl) rfl ⟨_,Tryz.underlying96,rfl⟩ rfl rfl true (fun _=>by unfold Zvz;exact ⟨by kernel_rfl,by kernel_rfl,by kernel_rfl⟩)
theorem Yda:TyOk Tryz.prog 108 ⟨.ptr 88,1,8,[.pointer none],false⟩:=TyOk.of (P:=Tryz.prog) (t:=108) (.ptr 88) 1 8 [.pointer none] (.pointer none) (by kernel_rfl) rfl Tryz.underlying108 rfl rfl false (fun h=>by cases h)
theorem Ydb:TyOk Tryz.prog 110 ⟨.struct [(0,96),(8,3),(9,3)],10,80,[.int .i64 0,.int .i64 0,.int .i64 0,.int .i64 0,.int .i64 0,.int .i64 0,.int .i64 0,.bool false,.int .i64 0,.int .i64 0],false⟩:=TyOk.of (P:=Tryz.prog) (t:=110) (.struct [(0,96),(8,3),(9,3)]) 10 80 [.int .i64 0,.int .i64 0,.int .i64 0,.int .i64 0,.int .i64 0,.int .i64 0,.int .i64 0,.bool false,.int .i64 0,.int .i64 0] (.agg #[.int .i64 0,.int .i64 0,.int .i64 0,.int .i64 0,.int .i64 0,.int .i64 0,.int .i64 0,.bool false,.int .i64 0,.int .i64 0]) (by kernel_rfl) rfl ⟨_,Tryz.underlying110,rfl⟩ rfl rfl false (fun h=>by cases h)
theorem Ydc:TyOk Tryz.prog 111 ⟨.struct [(0,96),(8,3),(9,3)],10,80,[.int .i64 0,.int .i64 0,.int .i64 0,.int .i64 0,.int .i64 0,.int .i64 0,.int .i64 0,.bool false,.int .i64 0,.int .i64 0],true⟩:=TyOk.of (P:=Tryz.prog) (t:=111) (.struct [(0,96),(8,3),(9,3)]) 10 80 [.int .i64 0,.int .i64 0,.int .i64 0,.int .i64 0,.int .i64 0,.int .i64 0,.int .i64 0,.bool false,.int .i64 0,.int .i64 0] (.agg #[.int .i64 0,.int .i64 0,.int .i64 0,.int .i64 0,.int .i64 0,.int .i64 0,.int .i64 0,.bool false,.int .i64 0,.int .i64 0]) (by kernel_rfl) rfl ⟨_,Tryz.underlying111,rfl⟩ rfl rfl true (fun _=>by unfold Zvz;exact ⟨by kernel_rfl,by kernel_rfl,by kernel_rfl⟩)
theorem Ydd:TyOk Tryz.prog 115 ⟨.ptr 92,1,8,[.pointer none],false⟩:=TyOk.of (P:=Tryz.prog) (t:=115) (.ptr 92) 1 8 [.pointer none] (.pointer none) (by kernel_rfl) rfl Tryz.underlying115 rfl rfl false (fun h=>by cases h)
theorem Yde:TyOk Tryz.prog 132 ⟨.arr 7 3,7,56,[.int .i64 0,.int .i64 0,.int .i64 0,.int .i64 0,.int .i64 0,.int .i64 0,.int .i64 0],true⟩:=TyOk.of (P:=Tryz.prog) (t:=132) (.arr 7 3) 7 56 [.int .i64 0,.int .i64 0,.int .i64 0,.int .i64 0,.int .i64 0,.int .i64 0,.int .i64 0] (.agg #[.int .i64 0,.int .i64 0,.int .i64 0,.int .i64 0,.int .i64 0,.int .i64 0,.int .i64 0]) (by kernel_rfl) rfl Tryz.underlying132 rfl rfl true (fun _=>by unfold Zvz;exact ⟨by kernel_rfl,by kernel_rfl,by kernel_rfl⟩)
theorem Ydf:TyOk Tryz.prog 133 ⟨.int .u32,1,4,[.int .u32 0],false⟩:=TyOk.of (P:=Tryz.prog) (t:=133) (.int .u32) 1 4 [.int .u32 0] (.int .u32 0) (by kernel_rfl) rfl Tryz.underlying133 rfl rfl false (fun h=>by cases h)
theorem Ydg:TyOk Tryz.prog 134 ⟨.int .u64,1,8,[.int .u64 0],false⟩:=TyOk.of (P:=Tryz.prog) (t:=134) (.int .u64) 1 8 [.int .u64 0] (.int .u64 0) (by kernel_rfl) rfl Tryz.underlying134 rfl rfl false (fun h=>by cases h)
theorem Ydh:TyOk Tryz.prog 139 ⟨.arr 6 3,6,48,[.int .i64 0,.int .i64 0,.int .i64 0,.int .i64 0,.int .i64 0,.int .i64 0],true⟩:=TyOk.of (P:=Tryz.prog) (t:=139) (.arr 6 3) 6 48 [.int .i64 0,.int .i64 0,.int .i64 0,.int .i64 0,.int .i64 0,.int .i64 0] (.agg #[.int .i64 0,.int .i64 0,.int .i64 0,.int .i64 0,.int .i64 0,.int .i64 0]) (by kernel_rfl) rfl Tryz.underlying139 rfl rfl true (fun _=>by unfold Zvz;exact ⟨by kernel_rfl,by kernel_rfl,by kernel_rfl⟩)
theorem Ydi:TyOk Tryz.prog 141 ⟨.struct [(0,17),(1,17),(2,17),(3,9)],4,40,[.pointer none,.pointer none,.pointer none,.string ByteArray.empty],false⟩:=TyOk.of (P:=Tryz.prog) (t:=141) (.struct [(0,17),(1,17),(2,17),(3,9)]) 4 40 [.pointer none,.pointer none,.pointer none,.string ByteArray.empty] (.agg #[.pointer none,.pointer none,.pointer none,.string ByteArray.empty]) (by kernel_rfl) rfl ⟨_,Tryz.underlying141,rfl⟩ rfl rfl false (fun h=>by cases h)
theorem Ydj:TyOk Tryz.prog 142 ⟨.struct [(0,17),(1,17),(2,17),(3,9)],4,40,[.pointer none,.pointer none,.pointer none,.string ByteArray.empty],false⟩:=TyOk.of (P:=Tryz.prog) (t:=142) (.struct [(0,17),(1,17),(2,17),(3,9)]) 4 40 [.pointer none,.pointer none,.pointer none,.string ByteArray.empty] (.agg #[.pointer none,.pointer none,.pointer none,.string ByteArray.empty]) (by kernel_rfl) rfl ⟨_,Tryz.underlying142,rfl⟩ rfl rfl false (fun h=>by cases h)
theorem Ydk:TyOk Tryz.prog 146 ⟨.int .u8,1,1,[.int .u8 0],false⟩:=TyOk.of (P:=Tryz.prog) (t:=146) (.int .u8) 1 1 [.int .u8 0] (.int .u8 0) (by kernel_rfl) rfl Tryz.underlying146 rfl rfl false (fun h=>by cases h)
theorem Ydl:TyOk Tryz.prog 147 ⟨.int .u8,1,1,[.int .u8 0],false⟩:=TyOk.of (P:=Tryz.prog) (t:=147) (.int .u8) 1 1 [.int .u8 0] (.int .u8 0) (by kernel_rfl) rfl Tryz.underlying147 rfl rfl false (fun h=>by cases h)
theorem Ydm:TyOk Tryz.prog 149 ⟨.ptr 5,1,8,[.pointer none],false⟩:=TyOk.of (P:=Tryz.prog) (t:=149) (.ptr 5) 1 8 [.pointer none] (.pointer none) (by kernel_rfl) rfl Tryz.underlying149 rfl rfl false (fun h=>by cases h)
theorem Ydn:TyOk Tryz.prog 150 ⟨.int .i32,1,4,[.int .i32 0],false⟩:=TyOk.of (P:=Tryz.prog) (t:=150) (.int .i32) 1 4 [.int .i32 0] (.int .i32 0) (by kernel_rfl) rfl Tryz.underlying150 rfl rfl false (fun h=>by cases h)
theorem Ydo:TyOk Tryz.prog 151 ⟨.int .i32,1,4,[.int .i32 0],false⟩:=TyOk.of (P:=Tryz.prog) (t:=151) (.int .i32) 1 4 [.int .i32 0] (.int .i32 0) (by kernel_rfl) rfl Tryz.underlying151 rfl rfl false (fun h=>by cases h)
def tabL:List (Nat×TyI):=[(2,⟨.int .i64,1,8,[.int .i64 0],false⟩),
 (3,⟨.int .i64,1,8,[.int .i64 0],false⟩),
 (4,⟨.bool,1,1,[.bool false],false⟩),
 (5,⟨.int .u8,1,1,[.int .u8 0],false⟩),
 (6,⟨.int .u8,1,1,[.int .u8 0],false⟩),
 (7,⟨.struct [(0,2),(1,3),(2,4),(3,6)],4,24,[.int .i64 0,.int .i64 0,.bool false,.int .u8 0],false⟩),
 (8,⟨.struct [(0,2),(1,3),(2,4),(3,6)],4,24,[.int .i64 0,.int .i64 0,.bool false,.int .u8 0],false⟩),
 (9,⟨.str,1,16,[.string ByteArray.empty],false⟩),
 (10,⟨.str,1,16,[.string ByteArray.empty],false⟩),
 (11,⟨.str,1,16,[.string ByteArray.empty],false⟩),
 (12,⟨.int .u64,1,8,[.int .u64 0],false⟩),
 (13,⟨.struct [(0,9),(1,12)],2,24,[.string ByteArray.empty,.int .u64 0],false⟩),
 (14,⟨.struct [(0,9),(1,12)],2,24,[.string ByteArray.empty,.int .u64 0],false⟩),
 (15,⟨.ptr 142,1,8,[.pointer none],false⟩),
 (16,⟨.ptr 145,1,8,[.pointer none],false⟩),
 (17,⟨.ptr 153,1,8,[.pointer none],false⟩),
 (18,⟨.struct [(0,17)],1,8,[.pointer none],false⟩),
 (19,⟨.struct [(0,17)],1,8,[.pointer none],false⟩),
 (21,⟨.int .i32,1,4,[.int .i32 0],false⟩),
 (22,⟨.slice 45,1,24,[.slice none 0 0],false⟩),
 (23,⟨.struct [(0,3),(1,3),(2,3),(3,3)],4,32,[.int .i64 0,.int .i64 0,.int .i64 0,.int .i64 0],false⟩),
 (24,⟨.struct [(0,3),(1,3),(2,3),(3,3)],4,32,[.int .i64 0,.int .i64 0,.int .i64 0,.int .i64 0],true⟩),
 (26,⟨.slice 28,1,24,[.slice none 0 0],false⟩),
 (27,⟨.struct [(0,3),(1,22),(2,26)],3,56,[.int .i64 0,.slice none 0 0,.slice none 0 0],false⟩),
 (28,⟨.struct [(0,3),(1,22),(2,26)],3,56,[.int .i64 0,.slice none 0 0,.slice none 0 0],false⟩),
 (29,⟨.int .i64,1,8,[.int .i64 0],false⟩),
 (34,⟨.slice 22,1,24,[.slice none 0 0],false⟩),
 (43,⟨.ptr 64,1,8,[.pointer none],false⟩),
 (45,⟨.int .u64,1,8,[.int .u64 0],false⟩),
 (46,⟨.struct [(0,3),(1,3),(2,3),(3,3),(4,3),(5,3),(6,45)],7,56,[.int .i64 0,.int .i64 0,.int .i64 0,.int .i64 0,.int .i64 0,.int .i64 0,.int .u64 0],false⟩),
 (47,⟨.struct [(0,3),(1,3),(2,3),(3,3),(4,3),(5,3),(6,45)],7,56,[.int .i64 0,.int .i64 0,.int .i64 0,.int .i64 0,.int .i64 0,.int .i64 0,.int .u64 0],true⟩),
 (57,⟨.struct [(0,43),(1,3),(2,3),(3,3),(4,3),(5,3),(6,3),(7,3),(8,3)],9,72,[.pointer none,.int .i64 0,.int .i64 0,.int .i64 0,.int .i64 0,.int .i64 0,.int .i64 0,.int .i64 0,.int .i64 0],false⟩),
 (58,⟨.struct [(0,43),(1,3),(2,3),(3,3),(4,3),(5,3),(6,3),(7,3),(8,3)],9,72,[.pointer none,.int .i64 0,.int .i64 0,.int .i64 0,.int .i64 0,.int .i64 0,.int .i64 0,.int .i64 0,.int .i64 0],false⟩),
 (63,⟨.struct [(0,34),(1,3),(2,3)],3,40,[.slice none 0 0,.int .i64 0,.int .i64 0],false⟩),
 (64,⟨.struct [(0,34),(1,3),(2,3)],3,40,[.slice none 0 0,.int .i64 0,.int .i64 0],false⟩),
 (66,⟨.struct [(0,22),(1,3)],2,32,[.slice none 0 0,.int .i64 0],false⟩),
 (67,⟨.struct [(0,22),(1,3)],2,32,[.slice none 0 0,.int .i64 0],false⟩),
 (70,⟨.struct [(0,3),(1,3),(2,3),(3,3),(4,3),(5,3),(6,3),(7,4)],8,64,[.int .i64 0,.int .i64 0,.int .i64 0,.int .i64 0,.int .i64 0,.int .i64 0,.int .i64 0,.bool false],false⟩),
 (71,⟨.struct [(0,3),(1,3),(2,3),(3,3),(4,3),(5,3),(6,3),(7,4)],8,64,[.int .i64 0,.int .i64 0,.int .i64 0,.int .i64 0,.int .i64 0,.int .i64 0,.int .i64 0,.bool false],true⟩),
 (72,⟨.struct [(0,71),(8,3),(9,3)],10,80,[.int .i64 0,.int .i64 0,.int .i64 0,.int .i64 0,.int .i64 0,.int .i64 0,.int .i64 0,.bool false,.int .i64 0,.int .i64 0],false⟩),
 (73,⟨.struct [(0,71),(8,3),(9,3)],10,80,[.int .i64 0,.int .i64 0,.int .i64 0,.int .i64 0,.int .i64 0,.int .i64 0,.int .i64 0,.bool false,.int .i64 0,.int .i64 0],true⟩),
 (87,⟨.struct [(0,3)],1,8,[.int .i64 0],false⟩),
 (88,⟨.struct [(0,3)],1,8,[.int .i64 0],true⟩),
 (91,⟨.struct [(0,3)],1,8,[.int .i64 0],false⟩),
 (92,⟨.struct [(0,3)],1,8,[.int .i64 0],true⟩),
 (95,⟨.ptr 67,1,8,[.pointer none],false⟩),
 (96,⟨.struct [(0,3),(1,3),(2,3),(3,3),(4,3),(5,3),(6,3),(7,4)],8,64,[.int .i64 0,.int .i64 0,.int .i64 0,.int .i64 0,.int .i64 0,.int .i64 0,.int .i64 0,.bool false],true⟩),
 (108,⟨.ptr 88,1,8,[.pointer none],false⟩),
 (110,⟨.struct [(0,96),(8,3),(9,3)],10,80,[.int .i64 0,.int .i64 0,.int .i64 0,.int .i64 0,.int .i64 0,.int .i64 0,.int .i64 0,.bool false,.int .i64 0,.int .i64 0],false⟩),
 (111,⟨.struct [(0,96),(8,3),(9,3)],10,80,[.int .i64 0,.int .i64 0,.int .i64 0,.int .i64 0,.int .i64 0,.int .i64 0,.int .i64 0,.bool false,.int .i64 0,.int .i64 0],true⟩),
 (115,⟨.ptr 92,1,8,[.pointer none],false⟩),
 (132,⟨.arr 7 3,7,56,[.int .i64 0,.int .i64 0,.int .i64 0,.int .i64 0,.int .i64 0,.int .i64 0,.int .i64 0],true⟩),
 (133,⟨.int .u32,1,4,[.int .u32 0],false⟩),
 (134,⟨.int .u64,1,8,[.int .u64 0],false⟩),
 (139,⟨.arr 6 3,6,48,[.int .i64 0,.int .i64 0,.int .i64 0,.int .i64 0,.int .i64 0,.int .i64 0],true⟩),
 (141,⟨.struct [(0,17),(1,17),(2,17),(3,9)],4,40,[.pointer none,.pointer none,.pointer none,.string ByteArray.empty],false⟩),
 (142,⟨.struct [(0,17),(1,17),(2,17),(3,9)],4,40,[.pointer none,.pointer none,.pointer none,.string ByteArray.empty],false⟩),
 (146,⟨.int .u8,1,1,[.int .u8 0],false⟩),
 (147,⟨.int .u8,1,1,[.int .u8 0],false⟩),
 (149,⟨.ptr 5,1,8,[.pointer none],false⟩),
 (150,⟨.int .i32,1,4,[.int .i32 0],false⟩),
 (151,⟨.int .i32,1,4,[.int .i32 0],false⟩)]
def Kh:Vt:=fun t=>tabL.lookup t
theorem Zo:Qs Tryz.prog Kh:=fun t i h=>by
 have hm:=Zw8 _ h
 unfold tabL at hm
 simp only [List.mem_cons,Prod.mk.injEq,List.not_mem_nil,or_false] at hm
 rcases hm with ⟨rfl,rfl⟩ | ⟨rfl,rfl⟩ | ⟨rfl,rfl⟩ | ⟨rfl,rfl⟩ | ⟨rfl,rfl⟩ | ⟨rfl,rfl⟩ | ⟨rfl,rfl⟩ | ⟨rfl,rfl⟩ | ⟨rfl,rfl⟩ | ⟨rfl,rfl⟩ | ⟨rfl,rfl⟩ | ⟨rfl,rfl⟩ | ⟨rfl,rfl⟩ | ⟨rfl,rfl⟩ | ⟨rfl,rfl⟩ | ⟨rfl,rfl⟩ | ⟨rfl,rfl⟩ | ⟨rfl,rfl⟩ | ⟨rfl,rfl⟩ | ⟨rfl,rfl⟩ | ⟨rfl,rfl⟩ | ⟨rfl,rfl⟩ | ⟨rfl,rfl⟩ | ⟨rfl,rfl⟩ | ⟨rfl,rfl⟩ | ⟨rfl,rfl⟩ | ⟨rfl,rfl⟩ | ⟨rfl,rfl⟩ | ⟨rfl,rfl⟩ | ⟨rfl,rfl⟩ | ⟨rfl,rfl⟩ | ⟨rfl,rfl⟩ | ⟨rfl,rfl⟩ | ⟨rfl,rfl⟩ | ⟨rfl,rfl⟩ | ⟨rfl,rfl⟩ | ⟨rfl,rfl⟩ | ⟨rfl,rfl⟩ | ⟨rfl,rfl⟩ | ⟨rfl,rfl⟩ | ⟨rfl,rfl⟩ | ⟨rfl,rfl⟩ | ⟨rfl,rfl⟩ | ⟨rfl,rfl⟩ | ⟨rfl,rfl⟩ | ⟨rfl,rfl⟩ | ⟨rfl,rfl⟩ | ⟨rfl,rfl⟩ | ⟨rfl,rfl⟩ | ⟨rfl,rfl⟩ | ⟨rfl,rfl⟩ | ⟨rfl,rfl⟩ | ⟨rfl,rfl⟩ | ⟨rfl,rfl⟩ | ⟨rfl,rfl⟩ | ⟨rfl,rfl⟩ | ⟨rfl,rfl⟩ | ⟨rfl,rfl⟩ | ⟨rfl,rfl⟩ | ⟨rfl,rfl⟩ | ⟨rfl,rfl⟩ | ⟨rfl,rfl⟩
 ·exact ty2
 ·exact ty3
 ·exact ty4
 ·exact ty5
 ·exact ty6
 ·exact ty7
 ·exact ty8
 ·exact ty9
 ·exact Yd8
 ·exact Yd9
 ·exact Yea
 ·exact Yeb
 ·exact Yec
 ·exact Yed
 ·exact Yee
 ·exact Yef
 ·exact Yeg
 ·exact Yeh
 ·exact Yei
 ·exact Yej
 ·exact Yek
 ·exact Yel
 ·exact Yem
 ·exact Yen
 ·exact Yeo
 ·exact Yep
 ·exact Yeq
 ·exact Yer
 ·exact Yes
 ·exact Yet
 ·exact Yeu
 ·exact Yev
 ·exact Yew
 ·exact Yex
 ·exact Yey
 ·exact Yez
 ·exact Ye0
 ·exact Ye1
 ·exact Ye2
 ·exact Ye3
 ·exact Ye4
 ·exact Ye5
 ·exact Ye6
 ·exact Ye7
 ·exact Ye8
 ·exact Ye9
 ·exact Yfa
 ·exact Yda
 ·exact Ydb
 ·exact Ydc
 ·exact Ydd
 ·exact Yde
 ·exact Ydf
 ·exact Ydg
 ·exact Ydh
 ·exact Ydi
 ·exact Ydj
 ·exact Ydk
 ·exact Ydl
 ·exact Ydm
 ·exact Ydn
 exact Ydo
theorem Z7r:Kh 2=some ⟨.int .i64,1,8,[.int .i64 0],false⟩:=rfl
theorem Z1v:Kh 3=some ⟨.int .i64,1,8,[.int .i64 0],false⟩:=rfl
theorem Z7s:Kh 4=some ⟨.bool,1,1,[.bool false],false⟩:=rfl
theorem Z7t:Kh 5=some ⟨.int .u8,1,1,[.int .u8 0],false⟩:=rfl
theorem Z7u:Kh 6=some ⟨.int .u8,1,1,[.int .u8 0],false⟩:=rfl
theorem Z7v:Kh 7=some ⟨.struct [(0,2),(1,3),(2,4),(3,6)],4,24,[.int .i64 0,.int .i64 0,.bool false,.int .u8 0],false⟩:=rfl
theorem Z7w:Kh 8=some ⟨.struct [(0,2),(1,3),(2,4),(3,6)],4,24,[.int .i64 0,.int .i64 0,.bool false,.int .u8 0],false⟩:=rfl
theorem Z7x:Kh 9=some ⟨.str,1,16,[.string ByteArray.empty],false⟩:=rfl
theorem Zza:Kh 10=some ⟨.str,1,16,[.string ByteArray.empty],false⟩:=rfl
theorem Zzb:Kh 11=some ⟨.str,1,16,[.string ByteArray.empty],false⟩:=rfl
theorem Zzc:Kh 12=some ⟨.int .u64,1,8,[.int .u64 0],false⟩:=rfl
theorem Zzd:Kh 13=some ⟨.struct [(0,9),(1,12)],2,24,[.string ByteArray.empty,.int .u64 0],false⟩:=rfl
theorem Zze:Kh 14=some ⟨.struct [(0,9),(1,12)],2,24,[.string ByteArray.empty,.int .u64 0],false⟩:=rfl
theorem Zzf:Kh 15=some ⟨.ptr 142,1,8,[.pointer none],false⟩:=rfl
theorem Zzg:Kh 16=some ⟨.ptr 145,1,8,[.pointer none],false⟩:=rfl
theorem Zzh:Kh 17=some ⟨.ptr 153,1,8,[.pointer none],false⟩:=rfl
theorem Zzi:Kh 18=some ⟨.struct [(0,17)],1,8,[.pointer none],false⟩:=rfl
theorem Zzj:Kh 19=some ⟨.struct [(0,17)],1,8,[.pointer none],false⟩:=rfl
theorem Zzk:Kh 21=some ⟨.int .i32,1,4,[.int .i32 0],false⟩:=rfl
theorem Zc9:Kh 22=some ⟨.slice 45,1,24,[.slice none 0 0],false⟩:=rfl
theorem Zzl:Kh 23=some ⟨.struct [(0,3),(1,3),(2,3),(3,3)],4,32,[.int .i64 0,.int .i64 0,.int .i64 0,.int .i64 0],false⟩:=rfl
theorem Zzm:Kh 24=some ⟨.struct [(0,3),(1,3),(2,3),(3,3)],4,32,[.int .i64 0,.int .i64 0,.int .i64 0,.int .i64 0],true⟩:=rfl
theorem Zny:Kh 26=some ⟨.slice 28,1,24,[.slice none 0 0],false⟩:=rfl
theorem Zzn:Kh 27=some ⟨.struct [(0,3),(1,22),(2,26)],3,56,[.int .i64 0,.slice none 0 0,.slice none 0 0],false⟩:=rfl
theorem K0:Kh 28=some ⟨.struct [(0,3),(1,22),(2,26)],3,56,[.int .i64 0,.slice none 0 0,.slice none 0 0],false⟩:=rfl
theorem Zzo:Kh 29=some ⟨.int .i64,1,8,[.int .i64 0],false⟩:=rfl
theorem Zzp:Kh 34=some ⟨.slice 22,1,24,[.slice none 0 0],false⟩:=rfl
theorem Zzq:Kh 43=some ⟨.ptr 64,1,8,[.pointer none],false⟩:=rfl
theorem Jd:Kh 45=some ⟨.int .u64,1,8,[.int .u64 0],false⟩:=rfl
theorem Zzr:Kh 46=some ⟨.struct [(0,3),(1,3),(2,3),(3,3),(4,3),(5,3),(6,45)],7,56,[.int .i64 0,.int .i64 0,.int .i64 0,.int .i64 0,.int .i64 0,.int .i64 0,.int .u64 0],false⟩:=rfl
theorem Zzs:Kh 47=some ⟨.struct [(0,3),(1,3),(2,3),(3,3),(4,3),(5,3),(6,45)],7,56,[.int .i64 0,.int .i64 0,.int .i64 0,.int .i64 0,.int .i64 0,.int .i64 0,.int .u64 0],true⟩:=rfl
theorem Zzt:Kh 57=some ⟨.struct [(0,43),(1,3),(2,3),(3,3),(4,3),(5,3),(6,3),(7,3),(8,3)],9,72,[.pointer none,.int .i64 0,.int .i64 0,.int .i64 0,.int .i64 0,.int .i64 0,.int .i64 0,.int .i64 0,.int .i64 0],false⟩:=rfl
theorem Zzu:Kh 58=some ⟨.struct [(0,43),(1,3),(2,3),(3,3),(4,3),(5,3),(6,3),(7,3),(8,3)],9,72,[.pointer none,.int .i64 0,.int .i64 0,.int .i64 0,.int .i64 0,.int .i64 0,.int .i64 0,.int .i64 0,.int .i64 0],false⟩:=rfl
theorem Zzv:Kh 63=some ⟨.struct [(0,34),(1,3),(2,3)],3,40,[.slice none 0 0,.int .i64 0,.int .i64 0],false⟩:=rfl
theorem Zzw:Kh 64=some ⟨.struct [(0,34),(1,3),(2,3)],3,40,[.slice none 0 0,.int .i64 0,.int .i64 0],false⟩:=rfl
theorem Zzx:Kh 66=some ⟨.struct [(0,22),(1,3)],2,32,[.slice none 0 0,.int .i64 0],false⟩:=rfl
theorem Zzy:Kh 67=some ⟨.struct [(0,22),(1,3)],2,32,[.slice none 0 0,.int .i64 0],false⟩:=rfl
theorem Zzz:Kh 70=some ⟨.struct [(0,3),(1,3),(2,3),(3,3),(4,3),(5,3),(6,3),(7,4)],8,64,[.int .i64 0,.int .i64 0,.int .i64 0,.int .i64 0,.int .i64 0,.int .i64 0,.int .i64 0,.bool false],false⟩:=rfl
theorem Zz0:Kh 71=some ⟨.struct [(0,3),(1,3),(2,3),(3,3),(4,3),(5,3),(6,3),(7,4)],8,64,[.int .i64 0,.int .i64 0,.int .i64 0,.int .i64 0,.int .i64 0,.int .i64 0,.int .i64 0,.bool false],true⟩:=rfl
theorem Zz1:Kh 72=some ⟨.struct [(0,71),(8,3),(9,3)],10,80,[.int .i64 0,.int .i64 0,.int .i64 0,.int .i64 0,.int .i64 0,.int .i64 0,.int .i64 0,.bool false,.int .i64 0,.int .i64 0],false⟩:=rfl
theorem Zz2:Kh 73=some ⟨.struct [(0,71),(8,3),(9,3)],10,80,[.int .i64 0,.int .i64 0,.int .i64 0,.int .i64 0,.int .i64 0,.int .i64 0,.int .i64 0,.bool false,.int .i64 0,.int .i64 0],true⟩:=rfl
theorem Zz3:Kh 87=some ⟨.struct [(0,3)],1,8,[.int .i64 0],false⟩:=rfl
theorem Zz4:Kh 88=some ⟨.struct [(0,3)],1,8,[.int .i64 0],true⟩:=rfl
theorem Zz5:Kh 91=some ⟨.struct [(0,3)],1,8,[.int .i64 0],false⟩:=rfl
theorem Zz6:Kh 92=some ⟨.struct [(0,3)],1,8,[.int .i64 0],true⟩:=rfl
theorem Zz7:Kh 95=some ⟨.ptr 67,1,8,[.pointer none],false⟩:=rfl
theorem Zz8:Kh 96=some ⟨.struct [(0,3),(1,3),(2,3),(3,3),(4,3),(5,3),(6,3),(7,4)],8,64,[.int .i64 0,.int .i64 0,.int .i64 0,.int .i64 0,.int .i64 0,.int .i64 0,.int .i64 0,.bool false],true⟩:=rfl
theorem Zup:Kh 108=some ⟨.ptr 88,1,8,[.pointer none],false⟩:=rfl
theorem Zuq:Kh 110=some ⟨.struct [(0,96),(8,3),(9,3)],10,80,[.int .i64 0,.int .i64 0,.int .i64 0,.int .i64 0,.int .i64 0,.int .i64 0,.int .i64 0,.bool false,.int .i64 0,.int .i64 0],false⟩:=rfl
theorem Zur:Kh 111=some ⟨.struct [(0,96),(8,3),(9,3)],10,80,[.int .i64 0,.int .i64 0,.int .i64 0,.int .i64 0,.int .i64 0,.int .i64 0,.int .i64 0,.bool false,.int .i64 0,.int .i64 0],true⟩:=rfl
theorem Zus:Kh 115=some ⟨.ptr 92,1,8,[.pointer none],false⟩:=rfl
theorem Zut:Kh 132=some ⟨.arr 7 3,7,56,[.int .i64 0,.int .i64 0,.int .i64 0,.int .i64 0,.int .i64 0,.int .i64 0,.int .i64 0],true⟩:=rfl
theorem Zuu:Kh 133=some ⟨.int .u32,1,4,[.int .u32 0],false⟩:=rfl
theorem Zuv:Kh 134=some ⟨.int .u64,1,8,[.int .u64 0],false⟩:=rfl
theorem Zuw:Kh 139=some ⟨.arr 6 3,6,48,[.int .i64 0,.int .i64 0,.int .i64 0,.int .i64 0,.int .i64 0,.int .i64 0],true⟩:=rfl
theorem Zux:Kh 141=some ⟨.struct [(0,17),(1,17),(2,17),(3,9)],4,40,[.pointer none,.pointer none,.pointer none,.string ByteArray.empty],false⟩:=rfl
theorem Zuy:Kh 142=some ⟨.struct [(0,17),(1,17),(2,17),(3,9)],4,40,[.pointer none,.pointer none,.pointer none,.string ByteArray.empty],false⟩:=rfl
theorem Zuz:Kh 146=some ⟨.int .u8,1,1,[.int .u8 0],false⟩:=rfl
theorem Zu0:Kh 147=some ⟨.int .u8,1,1,[.int .u8 0],false⟩:=rfl
theorem Zu1:Kh 149=some ⟨.ptr 5,1,8,[.pointer none],false⟩:=rfl
theorem Zu2:Kh 150=some ⟨.int .i32,1,4,[.int .i32 0],false⟩:=rfl
theorem Zu3:Kh 151=some ⟨.int .i32,1,4,[.int .i32 0],false⟩:=rfl
theorem Zu5:Ys Kh 2=some (.int .i64):=rfl
theorem Zu6:Ys Kh 3=some (.int .i64):=rfl
theorem Zu7:Ys Kh 4=some (.bool):=rfl
theorem Zu8:Ys Kh 5=some (.int .u8):=rfl
theorem Zu9:Ys Kh 6=some (.int .u8):=rfl
theorem Zva:Ys Kh 7=some (.struct [(0,2),(1,3),(2,4),(3,6)]):=rfl
theorem Zvb:Ys Kh 8=some (.struct [(0,2),(1,3),(2,4),(3,6)]):=rfl
theorem Zvc:Ys Kh 9=some (.str):=rfl
theorem Zqk:Ys Kh 10=some (.str):=rfl
theorem Zql:Ys Kh 11=some (.str):=rfl
theorem Zqm:Ys Kh 12=some (.int .u64):=rfl
theorem Zqn:Ys Kh 13=some (.struct [(0,9),(1,12)]):=rfl
theorem Zqo:Ys Kh 14=some (.struct [(0,9),(1,12)]):=rfl
theorem Zqp:Ys Kh 15=some (.ptr 142):=rfl
theorem Zqq:Ys Kh 16=some (.ptr 145):=rfl
theorem Zqr:Ys Kh 17=some (.ptr 153):=rfl
theorem Zqs:Ys Kh 18=some (.struct [(0,17)]):=rfl
theorem Zqt:Ys Kh 19=some (.struct [(0,17)]):=rfl
theorem Zqu:Ys Kh 21=some (.int .i32):=rfl
theorem Zda:Ys Kh 22=some (.slice 45):=rfl
theorem Zqv:Ys Kh 23=some (.struct [(0,3),(1,3),(2,3),(3,3)]):=rfl
theorem Zqw:Ys Kh 24=some (.struct [(0,3),(1,3),(2,3),(3,3)]):=rfl
theorem Zks:Ys Kh 26=some (.slice 28):=rfl
theorem Zqx:Ys Kh 27=some (.struct [(0,3),(1,22),(2,26)]):=rfl
theorem Zqy:Ys Kh 28=some (.struct [(0,3),(1,22),(2,26)]):=rfl
theorem Zqz:Ys Kh 29=some (.int .i64):=rfl
theorem Zq0:Ys Kh 34=some (.slice 22):=rfl
theorem Znp:Ys Kh 43=some (.ptr 64):=rfl
theorem Zq1:Ys Kh 45=some (.int .u64):=rfl
theorem Zq2:Ys Kh 46=some (.struct [(0,3),(1,3),(2,3),(3,3),(4,3),(5,3),(6,45)]):=rfl
theorem Zq3:Ys Kh 47=some (.struct [(0,3),(1,3),(2,3),(3,3),(4,3),(5,3),(6,45)]):=rfl
theorem Zq4:Ys Kh 57=some (.struct [(0,43),(1,3),(2,3),(3,3),(4,3),(5,3),(6,3),(7,3),(8,3)]):=rfl
theorem Zq5:Ys Kh 58=some (.struct [(0,43),(1,3),(2,3),(3,3),(4,3),(5,3),(6,3),(7,3),(8,3)]):=rfl
theorem Zq6:Ys Kh 63=some (.struct [(0,34),(1,3),(2,3)]):=rfl
theorem Zq7:Ys Kh 64=some (.struct [(0,34),(1,3),(2,3)]):=rfl
theorem Zq8:Ys Kh 66=some (.struct [(0,22),(1,3)]):=rfl
theorem Zq9:Ys Kh 67=some (.struct [(0,22),(1,3)]):=rfl
theorem Zra:Ys Kh 70=some (.struct [(0,3),(1,3),(2,3),(3,3),(4,3),(5,3),(6,3),(7,4)]):=rfl
theorem Zrb:Ys Kh 71=some (.struct [(0,3),(1,3),(2,3),(3,3),(4,3),(5,3),(6,3),(7,4)]):=rfl
theorem Zrc:Ys Kh 72=some (.struct [(0,71),(8,3),(9,3)]):=rfl
theorem Zrd:Ys Kh 73=some (.struct [(0,71),(8,3),(9,3)]):=rfl
theorem Zre:Ys Kh 87=some (.struct [(0,3)]):=rfl
theorem Zrf:Ys Kh 88=some (.struct [(0,3)]):=rfl
theorem Zrg:Ys Kh 91=some (.struct [(0,3)]):=rfl
theorem Zrh:Ys Kh 92=some (.struct [(0,3)]):=rfl
theorem Zri:Ys Kh 95=some (.ptr 67):=rfl
theorem Zrj:Ys Kh 96=some (.struct [(0,3),(1,3),(2,3),(3,3),(4,3),(5,3),(6,3),(7,4)]):=rfl
theorem Zml:Ys Kh 108=some (.ptr 88):=rfl
theorem Zmm:Ys Kh 110=some (.struct [(0,96),(8,3),(9,3)]):=rfl
theorem Zmn:Ys Kh 111=some (.struct [(0,96),(8,3),(9,3)]):=rfl
theorem Zmo:Ys Kh 115=some (.ptr 92):=rfl
theorem Zmp:Ys Kh 132=some (.arr 7 3):=rfl
theorem Zmq:Ys Kh 133=some (.int .u32):=rfl
theorem Zmr:Ys Kh 134=some (.int .u64):=rfl
theorem Zms:Ys Kh 139=some (.arr 6 3):=rfl
theorem Zmt:Ys Kh 141=some (.struct [(0,17),(1,17),(2,17),(3,9)]):=rfl
theorem Zmu:Ys Kh 142=some (.struct [(0,17),(1,17),(2,17),(3,9)]):=rfl
theorem Zmv:Ys Kh 146=some (.int .u8):=rfl
theorem Zmw:Ys Kh 147=some (.int .u8):=rfl
theorem Zmx:Ys Kh 149=some (.ptr 5):=rfl
theorem Zmy:Ys Kh 150=some (.int .i32):=rfl
theorem Zmz:Ys Kh 151=some (.int .i32):=rfl
end Go.Proofs.YtpfbdlcnfekdkaaGreat
