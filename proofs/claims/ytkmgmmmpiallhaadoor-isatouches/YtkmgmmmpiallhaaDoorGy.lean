import Derived.Test.YtkmgmmmpiallhaaDoorGc
namespace Go.Proofs.YtkmgmmmpiallhaaDoor
open Go.RowKit
set_option linter.unusedVariables false
set_option linter.unusedSimpArgs false
theorem sl_new (w:World) (l:List Int) (h:l.length≤100):Sl (w.alloc (.cells (l.map fun n=>Value.int .i64 n).toArray 3)) w.heap.size l:=⟨Bl.new _ _ _,h⟩
theorem pc_new (w:World) (o:Obj) (a b c d:Int):Calls Tryd.prog 42 #[.slice (some ⟨w.heap.size+1,0,none⟩) 4 4] ((w.alloc o).alloc (.cells #[.int .i64 a,.int .i64 b,.int .i64 c,.int .i64 d] 3)) fun e w'=>e= .returned (.bool (a == 15 || (b == 15 || (c == 15 || d == 15))))∧w'=(w.alloc o).alloc (.cells #[.int .i64 a,.int .i64 b,.int .i64 c,.int .i64 d] 3):=by
  have hs:=sl_new (w.alloc o) [a,b,c,d] (by show 4≤100; decide)
  have e:(w.alloc o).heap.size=w.heap.size+1:=by simp
  rw [e] at hs
  refine (gisPC_any (w.heap.size+1) [a,b,c,d] _ hs).mono ?_
  rintro e w' ⟨rfl,rfl⟩
  refine ⟨?_,rfl⟩
  have h:∀x:Int,((15:Int) == x)=(x == 15):=fun x=>Bool.eq_iff_iff.2 ⟨fun h=>by simpa using (beq_iff_eq.1 h).symm,fun h=>by simpa using (beq_iff_eq.1 h).symm⟩
  simp only [List.contains_cons,List.contains_nil,Bool.or_false,h]
set_option maxRecDepth 100000 in
set_option maxHeartbeats 1000000 in
theorem gmay_1 (i:Ins) (w:World) (h1:i.cond=15):Calls Tryd.prog 22 #[.agg (insA i)] w fun e w'=>e= .returned (.bool false)∧Below w.heap.size w w':=by
  obtain ⟨jc,jo,js,jf,jd,jn,jm,jr,ja,ji,jt,jk,jp,ju,jw,jl,jx,jy,jz,jv⟩:=i
  obtain rfl:jc=15:=h1
  change Calls Tryd.prog 22 #[.agg #[.int .i64 15,.int .i64 jo,.bool js,.int .i64 jf,.int .i64 jd,.int .i64 jn,.int .i64 jm,.int .i64 jr,.int .i64 ja,.int .u32 ji,.int .i64 jt,.int .i64 jk,.bool jp,.bool ju,.bool jw,.int .u16 jl,.int .i64 jx,.int .i64 jy,.int .i64 jz,.int .i64 jv]] w fun e w'=>e= .returned (.bool false)∧Below w.heap.size w w'
  go_enter Tryd.func22,Tryd.ntmps22
  go_wp2
  exact bodyPost_ret (v:= .bool false) (by simp [results,Tryd.results22,go_sem]) rfl ⟨rfl,below_new _ _⟩
set_option maxRecDepth 100000 in
set_option maxHeartbeats 1000000 in
theorem gmay_2 (i:Ins) (w:World) (h1:¬i.cond=15) (h2:i.form=3):Calls Tryd.prog 22 #[.agg (insA i)] w fun e w'=>e= .returned (.bool (!(i.rd == 15 || (i.rn == 15 || (i.rm == 15 || i.rs == 15)))))∧Below w.heap.size w w':=by
  obtain ⟨jc,jo,js,jf,jd,jn,jm,jr,ja,ji,jt,jk,jp,ju,jw,jl,jx,jy,jz,jv⟩:=i
  change ¬jc=15 at h1
  have b1:(jc == 15)=false:=beq_eq_false_iff_ne.2 h1
  clear h1
  change jf=3 at h2
  have b2:(jf == 3)=true:=beq_iff_eq.2 h2
  clear h2
  change Calls Tryd.prog 22 #[.agg #[.int .i64 jc,.int .i64 jo,.bool js,.int .i64 jf,.int .i64 jd,.int .i64 jn,.int .i64 jm,.int .i64 jr,.int .i64 ja,.int .u32 ji,.int .i64 jt,.int .i64 jk,.bool jp,.bool ju,.bool jw,.int .u16 jl,.int .i64 jx,.int .i64 jy,.int .i64 jz,.int .i64 jv]] w fun e w'=>e= .returned (.bool (!(jd == 15 || (jn == 15 || (jm == 15 || jr == 15)))))∧Below w.heap.size w w'
  have HP:Hid _:=pc_new w (.cells ([.int .i64 jc,.int .i64 jo,.bool js,.int .i64 jf,.int .i64 jd,.int .i64 jn,.int .i64 jm,.int .i64 jr,.int .i64 ja,.int .u32 ji,.int .i64 jt,.int .i64 jk,.bool jp,.bool ju,.bool jw,.int .u16 jl,.int .i64 jx,.int .i64 jy,.int .i64 jz,.int .i64 jv]).toArray 28) jd jn jm jr
  generalize (jd == 15 || (jn == 15 || (jm == 15 || jr == 15)))=PC at *
  go_enter Tryd.func22,Tryd.ntmps22
  go_wp2_with (go_at_call 42; refine Calls.mono HP.out ?_; rintro e w1 ⟨rfl,rfl⟩; clear HP)
  exact bodyPost_ret (v:= .bool (!PC)) (by simp [results,Tryd.results22,go_sem]) rfl ⟨rfl,Below.step (below_new _ _) (below_new _ _)⟩
set_option maxRecDepth 100000 in
set_option maxHeartbeats 1000000 in
theorem gmay_3 (i:Ins) (w:World) (h1:¬i.cond=15) (h2:¬i.form=3) (h3:17≤i.op∧i.op≤30):Calls Tryd.prog 22 #[.agg (insA i)] w fun e w'=>e= .returned (.bool (!(i.rd == 15 || (i.rm == 15 || (i.rs == 15 || i.ra == 15))) && !(isLongP i.op && i.rd == i.ra)))∧Below w.heap.size w w':=by
  obtain ⟨jc,jo,js,jf,jd,jn,jm,jr,ja,ji,jt,jk,jp,ju,jw,jl,jx,jy,jz,jv⟩:=i
  change ¬jc=15 at h1
  have b1:(jc == 15)=false:=beq_eq_false_iff_ne.2 h1
  clear h1
  change ¬jf=3 at h2
  have b2:(jf == 3)=false:=beq_eq_false_iff_ne.2 h2
  clear h2
  change 17≤jo∧jo≤30 at h3
  have b3:decide (17≤jo)=true:=decide_eq_true h3.1
  have b4:decide (jo≤30)=true:=decide_eq_true h3.2
  obtain ⟨c3,c4⟩:=h3
  change Calls Tryd.prog 22 #[.agg #[.int .i64 jc,.int .i64 jo,.bool js,.int .i64 jf,.int .i64 jd,.int .i64 jn,.int .i64 jm,.int .i64 jr,.int .i64 ja,.int .u32 ji,.int .i64 jt,.int .i64 jk,.bool jp,.bool ju,.bool jw,.int .u16 jl,.int .i64 jx,.int .i64 jy,.int .i64 jz,.int .i64 jv]] w fun e w'=>e= .returned (.bool (!(jd == 15 || (jm == 15 || (jr == 15 || ja == 15))) && !(isLongP jo && jd == ja)))∧Below w.heap.size w w'
  have HP:Hid _:=pc_new w (.cells ([.int .i64 jc,.int .i64 jo,.bool js,.int .i64 jf,.int .i64 jd,.int .i64 jn,.int .i64 jm,.int .i64 jr,.int .i64 ja,.int .u32 ji,.int .i64 jt,.int .i64 jk,.bool jp,.bool ju,.bool jw,.int .u16 jl,.int .i64 jx,.int .i64 jy,.int .i64 jz,.int .i64 jv]).toArray 28) jd jm jr ja
  have HL:Hid (∀w,Calls Tryd.prog 30 #[.int .i64 jo] w fun e w'=>e= .returned (.bool (isLongP jo))∧w'=w):=fun w=>gisLong_any jo w
  generalize (jd == 15 || (jm == 15 || (jr == 15 || ja == 15)))=PC at *
  generalize isLongP jo=IL at *
  cases PC
  · cases IL
    · go_enter Tryd.func22,Tryd.ntmps22
      go_wp2_with (first|(go_at_call 42; refine Calls.mono HP.out ?_; rintro e w1 ⟨rfl,rfl⟩; clear HP)|(go_at_call 30; refine (HL.out _).mono ?_; rintro e w' ⟨rfl,rfl⟩))
      exact bodyPost_ret (v:= .bool true) (by simp [results,Tryd.results22,go_sem]) rfl ⟨rfl,Below.step (below_new _ _) (below_new _ _)⟩
    · go_enter Tryd.func22,Tryd.ntmps22
      go_wp2_with (first|(go_at_call 42; refine Calls.mono HP.out ?_; rintro e w1 ⟨rfl,rfl⟩; clear HP)|(go_at_call 30; refine (HL.out _).mono ?_; rintro e w' ⟨rfl,rfl⟩))
      exact bodyPost_ret (v:= .bool (!(jd == ja))) (by simp [results,Tryd.results22,go_sem]) rfl ⟨rfl,Below.step (below_new _ _) (below_new _ _)⟩
  · go_enter Tryd.func22,Tryd.ntmps22
    go_wp2_with (go_at_call 42; refine Calls.mono HP.out ?_; rintro e w1 ⟨rfl,rfl⟩; clear HP)
    exact bodyPost_ret (v:= .bool false) (by simp [results,Tryd.results22,go_sem]) rfl ⟨rfl,Below.step (below_new _ _) (below_new _ _)⟩
set_option maxRecDepth 100000 in
set_option maxHeartbeats 1000000 in
theorem gmay_4 (i:Ins) (w:World) (h1:¬i.cond=15) (h2:¬i.form=3) (h3:31≤i.op∧i.op≤38):Calls Tryd.prog 22 #[.agg (insA i)] w fun e w'=>e= .returned (.bool (oneMayP i))∧Below w.heap.size w w':=by
  have HO:Hid (∀w,Calls Tryd.prog 44 #[.agg (insA i)] w fun e w'=>e= .returned (.bool (oneMayP i))∧Below w.heap.size w w'):=fun w=>goneMay_any i w
  have HB:=hidW (ins_bl w i)
  generalize oneMayP i=R at *
  obtain ⟨jc,jo,js,jf,jd,jn,jm,jr,ja,ji,jt,jk,jp,ju,jw,jl,jx,jy,jz,jv⟩:=i
  change ¬jc=15 at h1
  have b1:(jc == 15)=false:=beq_eq_false_iff_ne.2 h1
  clear h1
  change ¬jf=3 at h2
  have b2:(jf == 3)=false:=beq_eq_false_iff_ne.2 h2
  clear h2
  change 31≤jo∧jo≤38 at h3
  have b3:decide (17≤jo)=true:=decide_eq_true (by omega)
  have b4:decide (jo≤30)=false:=decide_eq_false (by omega)
  have e1:isOneP jo=true:=by rw [isOneP]; simp [h3.1,h3.2]
  obtain ⟨c3,c4⟩:=h3
  have c5:17≤jo:=by omega
  have c6:¬jo≤30:=by omega
  have HI:Hid (∀w,Calls Tryd.prog 43 #[.int .i64 jo] w fun e w'=>e= .returned (.bool true)∧w'=w):=fun w=>by rw [←e1]; exact gisOne_any jo w
  clear e1
  change Calls Tryd.prog 22 #[.agg #[.int .i64 jc,.int .i64 jo,.bool js,.int .i64 jf,.int .i64 jd,.int .i64 jn,.int .i64 jm,.int .i64 jr,.int .i64 ja,.int .u32 ji,.int .i64 jt,.int .i64 jk,.bool jp,.bool ju,.bool jw,.int .u16 jl,.int .i64 jx,.int .i64 jy,.int .i64 jz,.int .i64 jv]] w fun e w'=>e= .returned (.bool R)∧Below w.heap.size w w'
  change Hid (∀w,Calls Tryd.prog 44 #[.agg #[.int .i64 jc,.int .i64 jo,.bool js,.int .i64 jf,.int .i64 jd,.int .i64 jn,.int .i64 jm,.int .i64 jr,.int .i64 ja,.int .u32 ji,.int .i64 jt,.int .i64 jk,.bool jp,.bool ju,.bool jw,.int .u16 jl,.int .i64 jx,.int .i64 jy,.int .i64 jz,.int .i64 jv]] w fun e w'=>e= .returned (.bool R)∧Below w.heap.size w w') at HO
  change Hid (Bl (w.alloc (.cells ([.int .i64 jc,.int .i64 jo,.bool js,.int .i64 jf,.int .i64 jd,.int .i64 jn,.int .i64 jm,.int .i64 jr,.int .i64 ja,.int .u32 ji,.int .i64 jt,.int .i64 jk,.bool jp,.bool ju,.bool jw,.int .u16 jl,.int .i64 jx,.int .i64 jy,.int .i64 jz,.int .i64 jv]).toArray 28)) w.heap.size 28 ([.int .i64 jc,.int .i64 jo,.bool js,.int .i64 jf,.int .i64 jd,.int .i64 jn,.int .i64 jm,.int .i64 jr,.int .i64 ja,.int .u32 ji,.int .i64 jt,.int .i64 jk,.bool jp,.bool ju,.bool jw,.int .u16 jl,.int .i64 jx,.int .i64 jy,.int .i64 jz,.int .i64 jv])) at HB
  go_enter Tryd.func22,Tryd.ntmps22
  go_wp2_with (first|(go_at_call 43; refine (HI.out _).mono ?_; rintro e w' ⟨rfl,rfl⟩)|(guard_target =~ wpList _ _ _ (Oper.mk (some 59) _ _ _ _ _::_) _ _; refine wpList_load_mid rfl _ _ rfl w.heap.size 0 rfl _ _ HB.out.range Tryd.underlying28 rfl ins_info ?_))
  go_at_call 44
  refine (HO.out _).mono ?_
  rintro e w1 ⟨rfl,hb⟩
  have HW:=hidW (Below.step (below_new _ _) hb)
  clear HB HO hb
  go_wp2
  exact bodyPost_ret (v:= .bool R) (by simp [results,Tryd.results22,go_sem]) rfl ⟨rfl,HW.out⟩
set_option maxRecDepth 100000 in
set_option maxHeartbeats 1000000 in
theorem gmay_39 (i:Ins) (w:World) (h1:¬i.cond=15) (h2:¬i.form=3) (h3:i.op=39) (hl:0≤i.list∧i.list<65536) (hn:0≤i.rn∧i.rn<16):Calls Tryd.prog 22 #[.agg (insA i)] w fun e w'=>e= .returned (.bool (manyMayP i))∧Below w.heap.size w w':=by
  have HO:Hid (∀w,Calls Tryd.prog 45 #[.agg (insA i)] w fun e w'=>e= .returned (.bool (manyMayP i))∧Below w.heap.size w w'):=fun w=>gmanyMay_any i w hl hn
  have HB:=hidW (ins_bl w i)
  generalize manyMayP i=R at *
  clear hl hn
  obtain ⟨jc,jo,js,jf,jd,jn,jm,jr,ja,ji,jt,jk,jp,ju,jw,jl,jx,jy,jz,jv⟩:=i
  change ¬jc=15 at h1
  have b1:(jc == 15)=false:=beq_eq_false_iff_ne.2 h1
  clear h1
  change ¬jf=3 at h2
  have b2:(jf == 3)=false:=beq_eq_false_iff_ne.2 h2
  clear h2
  obtain rfl:jo=39:=h3
  have HI:Hid (∀w,Calls Tryd.prog 43 #[.int .i64 39] w fun e w'=>e= .returned (.bool false)∧w'=w):=fun w=>gisOne_any 39 w
  change Calls Tryd.prog 22 #[.agg #[.int .i64 jc,.int .i64 39,.bool js,.int .i64 jf,.int .i64 jd,.int .i64 jn,.int .i64 jm,.int .i64 jr,.int .i64 ja,.int .u32 ji,.int .i64 jt,.int .i64 jk,.bool jp,.bool ju,.bool jw,.int .u16 jl,.int .i64 jx,.int .i64 jy,.int .i64 jz,.int .i64 jv]] w fun e w'=>e= .returned (.bool R)∧Below w.heap.size w w'
  change Hid (∀w,Calls Tryd.prog 45 #[.agg #[.int .i64 jc,.int .i64 39,.bool js,.int .i64 jf,.int .i64 jd,.int .i64 jn,.int .i64 jm,.int .i64 jr,.int .i64 ja,.int .u32 ji,.int .i64 jt,.int .i64 jk,.bool jp,.bool ju,.bool jw,.int .u16 jl,.int .i64 jx,.int .i64 jy,.int .i64 jz,.int .i64 jv]] w fun e w'=>e= .returned (.bool R)∧Below w.heap.size w w') at HO
  change Hid (Bl (w.alloc (.cells ([.int .i64 jc,.int .i64 39,.bool js,.int .i64 jf,.int .i64 jd,.int .i64 jn,.int .i64 jm,.int .i64 jr,.int .i64 ja,.int .u32 ji,.int .i64 jt,.int .i64 jk,.bool jp,.bool ju,.bool jw,.int .u16 jl,.int .i64 jx,.int .i64 jy,.int .i64 jz,.int .i64 jv]).toArray 28)) w.heap.size 28 ([.int .i64 jc,.int .i64 39,.bool js,.int .i64 jf,.int .i64 jd,.int .i64 jn,.int .i64 jm,.int .i64 jr,.int .i64 ja,.int .u32 ji,.int .i64 jt,.int .i64 jk,.bool jp,.bool ju,.bool jw,.int .u16 jl,.int .i64 jx,.int .i64 jy,.int .i64 jz,.int .i64 jv])) at HB
  go_enter Tryd.func22,Tryd.ntmps22
  go_wp2_with (first|(go_at_call 43; refine (HI.out _).mono ?_; rintro e w' ⟨rfl,rfl⟩)|(guard_target =~ wpList _ _ _ (Oper.mk (some 66) _ _ _ _ _::_) _ _; refine wpList_load_mid rfl _ _ rfl w.heap.size 0 rfl _ _ HB.out.range Tryd.underlying28 rfl ins_info ?_))
  go_at_call 45
  refine (HO.out _).mono ?_
  rintro e w1 ⟨rfl,hb⟩
  have HW:=hidW (Below.step (below_new _ _) hb)
  clear HB HO hb
  go_wp2
  exact bodyPost_ret (v:= .bool R) (by simp [results,Tryd.results22,go_sem]) rfl ⟨rfl,HW.out⟩
set_option maxRecDepth 100000 in
set_option maxHeartbeats 1000000 in
theorem gmay_40 (i:Ins) (w:World) (h1:¬i.cond=15) (h2:¬i.form=3) (h3:i.op=40) (hl:0≤i.list∧i.list<65536) (hn:0≤i.rn∧i.rn<16):Calls Tryd.prog 22 #[.agg (insA i)] w fun e w'=>e= .returned (.bool (manyMayP i))∧Below w.heap.size w w':=by
  have HO:Hid (∀w,Calls Tryd.prog 45 #[.agg (insA i)] w fun e w'=>e= .returned (.bool (manyMayP i))∧Below w.heap.size w w'):=fun w=>gmanyMay_any i w hl hn
  have HB:=hidW (ins_bl w i)
  generalize manyMayP i=R at *
  clear hl hn
  obtain ⟨jc,jo,js,jf,jd,jn,jm,jr,ja,ji,jt,jk,jp,ju,jw,jl,jx,jy,jz,jv⟩:=i
  change ¬jc=15 at h1
  have b1:(jc == 15)=false:=beq_eq_false_iff_ne.2 h1
  clear h1
  change ¬jf=3 at h2
  have b2:(jf == 3)=false:=beq_eq_false_iff_ne.2 h2
  clear h2
  obtain rfl:jo=40:=h3
  have HI:Hid (∀w,Calls Tryd.prog 43 #[.int .i64 40] w fun e w'=>e= .returned (.bool false)∧w'=w):=fun w=>gisOne_any 40 w
  change Calls Tryd.prog 22 #[.agg #[.int .i64 jc,.int .i64 40,.bool js,.int .i64 jf,.int .i64 jd,.int .i64 jn,.int .i64 jm,.int .i64 jr,.int .i64 ja,.int .u32 ji,.int .i64 jt,.int .i64 jk,.bool jp,.bool ju,.bool jw,.int .u16 jl,.int .i64 jx,.int .i64 jy,.int .i64 jz,.int .i64 jv]] w fun e w'=>e= .returned (.bool R)∧Below w.heap.size w w'
  change Hid (∀w,Calls Tryd.prog 45 #[.agg #[.int .i64 jc,.int .i64 40,.bool js,.int .i64 jf,.int .i64 jd,.int .i64 jn,.int .i64 jm,.int .i64 jr,.int .i64 ja,.int .u32 ji,.int .i64 jt,.int .i64 jk,.bool jp,.bool ju,.bool jw,.int .u16 jl,.int .i64 jx,.int .i64 jy,.int .i64 jz,.int .i64 jv]] w fun e w'=>e= .returned (.bool R)∧Below w.heap.size w w') at HO
  change Hid (Bl (w.alloc (.cells ([.int .i64 jc,.int .i64 40,.bool js,.int .i64 jf,.int .i64 jd,.int .i64 jn,.int .i64 jm,.int .i64 jr,.int .i64 ja,.int .u32 ji,.int .i64 jt,.int .i64 jk,.bool jp,.bool ju,.bool jw,.int .u16 jl,.int .i64 jx,.int .i64 jy,.int .i64 jz,.int .i64 jv]).toArray 28)) w.heap.size 28 ([.int .i64 jc,.int .i64 40,.bool js,.int .i64 jf,.int .i64 jd,.int .i64 jn,.int .i64 jm,.int .i64 jr,.int .i64 ja,.int .u32 ji,.int .i64 jt,.int .i64 jk,.bool jp,.bool ju,.bool jw,.int .u16 jl,.int .i64 jx,.int .i64 jy,.int .i64 jz,.int .i64 jv])) at HB
  go_enter Tryd.func22,Tryd.ntmps22
  go_wp2_with (first|(go_at_call 43; refine (HI.out _).mono ?_; rintro e w' ⟨rfl,rfl⟩)|(guard_target =~ wpList _ _ _ (Oper.mk (some 66) _ _ _ _ _::_) _ _; refine wpList_load_mid rfl _ _ rfl w.heap.size 0 rfl _ _ HB.out.range Tryd.underlying28 rfl ins_info ?_))
  go_at_call 45
  refine (HO.out _).mono ?_
  rintro e w1 ⟨rfl,hb⟩
  have HW:=hidW (Below.step (below_new _ _) hb)
  clear HB HO hb
  go_wp2
  exact bodyPost_ret (v:= .bool R) (by simp [results,Tryd.results22,go_sem]) rfl ⟨rfl,HW.out⟩
set_option maxRecDepth 100000 in
set_option maxHeartbeats 1000000 in
theorem gmay_43 (i:Ins) (w:World) (h1:¬i.cond=15) (h2:¬i.form=3) (h3:i.op=43):Calls Tryd.prog 22 #[.agg (insA i)] w fun e w'=>e= .returned (.bool (!(i.rm == 15)))∧Below w.heap.size w w':=by
  obtain ⟨jc,jo,js,jf,jd,jn,jm,jr,ja,ji,jt,jk,jp,ju,jw,jl,jx,jy,jz,jv⟩:=i
  change ¬jc=15 at h1
  have b1:(jc == 15)=false:=beq_eq_false_iff_ne.2 h1
  clear h1
  change ¬jf=3 at h2
  have b2:(jf == 3)=false:=beq_eq_false_iff_ne.2 h2
  clear h2
  obtain rfl:jo=43:=h3
  change Calls Tryd.prog 22 #[.agg #[.int .i64 jc,.int .i64 43,.bool js,.int .i64 jf,.int .i64 jd,.int .i64 jn,.int .i64 jm,.int .i64 jr,.int .i64 ja,.int .u32 ji,.int .i64 jt,.int .i64 jk,.bool jp,.bool ju,.bool jw,.int .u16 jl,.int .i64 jx,.int .i64 jy,.int .i64 jz,.int .i64 jv]] w fun e w'=>e= .returned (.bool (!(jm == 15)))∧Below w.heap.size w w'
  have HI:Hid (∀w,Calls Tryd.prog 43 #[.int .i64 43] w fun e w'=>e= .returned (.bool false)∧w'=w):=fun w=>gisOne_any 43 w
  go_enter Tryd.func22,Tryd.ntmps22
  go_wp2_with (first|(go_at_call 43; refine (HI.out _).mono ?_; rintro e w' ⟨rfl,rfl⟩))
  exact bodyPost_ret (v:= .bool (!(jm == 15))) (by simp [results,Tryd.results22,go_sem,bne]) rfl ⟨rfl,below_new _ _⟩
set_option maxRecDepth 100000 in
set_option maxHeartbeats 1000000 in
theorem gmay_44 (i:Ins) (w:World) (h1:¬i.cond=15) (h2:¬i.form=3) (h3:i.op=44):Calls Tryd.prog 22 #[.agg (insA i)] w fun e w'=>e= .returned (.bool (!(i.rm == 15)))∧Below w.heap.size w w':=by
  obtain ⟨jc,jo,js,jf,jd,jn,jm,jr,ja,ji,jt,jk,jp,ju,jw,jl,jx,jy,jz,jv⟩:=i
  change ¬jc=15 at h1
  have b1:(jc == 15)=false:=beq_eq_false_iff_ne.2 h1
  clear h1
  change ¬jf=3 at h2
  have b2:(jf == 3)=false:=beq_eq_false_iff_ne.2 h2
  clear h2
  obtain rfl:jo=44:=h3
  change Calls Tryd.prog 22 #[.agg #[.int .i64 jc,.int .i64 44,.bool js,.int .i64 jf,.int .i64 jd,.int .i64 jn,.int .i64 jm,.int .i64 jr,.int .i64 ja,.int .u32 ji,.int .i64 jt,.int .i64 jk,.bool jp,.bool ju,.bool jw,.int .u16 jl,.int .i64 jx,.int .i64 jy,.int .i64 jz,.int .i64 jv]] w fun e w'=>e= .returned (.bool (!(jm == 15)))∧Below w.heap.size w w'
  have HI:Hid (∀w,Calls Tryd.prog 43 #[.int .i64 44] w fun e w'=>e= .returned (.bool false)∧w'=w):=fun w=>gisOne_any 44 w
  go_enter Tryd.func22,Tryd.ntmps22
  go_wp2_with (first|(go_at_call 43; refine (HI.out _).mono ?_; rintro e w' ⟨rfl,rfl⟩))
  exact bodyPost_ret (v:= .bool (!(jm == 15))) (by simp [results,Tryd.results22,go_sem,bne]) rfl ⟨rfl,below_new _ _⟩
set_option maxRecDepth 100000 in
set_option maxHeartbeats 1000000 in
theorem gmay_47 (i:Ins) (w:World) (h1:¬i.cond=15) (h2:¬i.form=3) (h3:i.op=47):Calls Tryd.prog 22 #[.agg (insA i)] w fun e w'=>e= .returned (.bool (!(i.rd == 15)))∧Below w.heap.size w w':=by
  obtain ⟨jc,jo,js,jf,jd,jn,jm,jr,ja,ji,jt,jk,jp,ju,jw,jl,jx,jy,jz,jv⟩:=i
  change ¬jc=15 at h1
  have b1:(jc == 15)=false:=beq_eq_false_iff_ne.2 h1
  clear h1
  change ¬jf=3 at h2
  have b2:(jf == 3)=false:=beq_eq_false_iff_ne.2 h2
  clear h2
  obtain rfl:jo=47:=h3
  change Calls Tryd.prog 22 #[.agg #[.int .i64 jc,.int .i64 47,.bool js,.int .i64 jf,.int .i64 jd,.int .i64 jn,.int .i64 jm,.int .i64 jr,.int .i64 ja,.int .u32 ji,.int .i64 jt,.int .i64 jk,.bool jp,.bool ju,.bool jw,.int .u16 jl,.int .i64 jx,.int .i64 jy,.int .i64 jz,.int .i64 jv]] w fun e w'=>e= .returned (.bool (!(jd == 15)))∧Below w.heap.size w w'
  have HI:Hid (∀w,Calls Tryd.prog 43 #[.int .i64 47] w fun e w'=>e= .returned (.bool false)∧w'=w):=fun w=>gisOne_any 47 w
  go_enter Tryd.func22,Tryd.ntmps22
  go_wp2_with (first|(go_at_call 43; refine (HI.out _).mono ?_; rintro e w' ⟨rfl,rfl⟩))
  exact bodyPost_ret (v:= .bool (!(jd == 15))) (by simp [results,Tryd.results22,go_sem,bne]) rfl ⟨rfl,below_new _ _⟩
set_option maxRecDepth 100000 in
set_option maxHeartbeats 1000000 in
theorem gmay_49 (i:Ins) (w:World) (h1:¬i.cond=15) (h2:¬i.form=3) (h3:i.op=49):Calls Tryd.prog 22 #[.agg (insA i)] w fun e w'=>e= .returned (.bool (!(i.rd == 15)))∧Below w.heap.size w w':=by
  obtain ⟨jc,jo,js,jf,jd,jn,jm,jr,ja,ji,jt,jk,jp,ju,jw,jl,jx,jy,jz,jv⟩:=i
  change ¬jc=15 at h1
  have b1:(jc == 15)=false:=beq_eq_false_iff_ne.2 h1
  clear h1
  change ¬jf=3 at h2
  have b2:(jf == 3)=false:=beq_eq_false_iff_ne.2 h2
  clear h2
  obtain rfl:jo=49:=h3
  change Calls Tryd.prog 22 #[.agg #[.int .i64 jc,.int .i64 49,.bool js,.int .i64 jf,.int .i64 jd,.int .i64 jn,.int .i64 jm,.int .i64 jr,.int .i64 ja,.int .u32 ji,.int .i64 jt,.int .i64 jk,.bool jp,.bool ju,.bool jw,.int .u16 jl,.int .i64 jx,.int .i64 jy,.int .i64 jz,.int .i64 jv]] w fun e w'=>e= .returned (.bool (!(jd == 15)))∧Below w.heap.size w w'
  have HI:Hid (∀w,Calls Tryd.prog 43 #[.int .i64 49] w fun e w'=>e= .returned (.bool false)∧w'=w):=fun w=>gisOne_any 49 w
  go_enter Tryd.func22,Tryd.ntmps22
  go_wp2_with (first|(go_at_call 43; refine (HI.out _).mono ?_; rintro e w' ⟨rfl,rfl⟩))
  exact bodyPost_ret (v:= .bool (!(jd == 15))) (by simp [results,Tryd.results22,go_sem,bne]) rfl ⟨rfl,below_new _ _⟩
set_option maxRecDepth 100000 in
set_option maxHeartbeats 1000000 in
theorem gmay_50 (i:Ins) (w:World) (h1:¬i.cond=15) (h2:¬i.form=3) (h3:i.op=50):Calls Tryd.prog 22 #[.agg (insA i)] w fun e w'=>e= .returned (.bool (!(i.rd == 15)))∧Below w.heap.size w w':=by
  obtain ⟨jc,jo,js,jf,jd,jn,jm,jr,ja,ji,jt,jk,jp,ju,jw,jl,jx,jy,jz,jv⟩:=i
  change ¬jc=15 at h1
  have b1:(jc == 15)=false:=beq_eq_false_iff_ne.2 h1
  clear h1
  change ¬jf=3 at h2
  have b2:(jf == 3)=false:=beq_eq_false_iff_ne.2 h2
  clear h2
  obtain rfl:jo=50:=h3
  change Calls Tryd.prog 22 #[.agg #[.int .i64 jc,.int .i64 50,.bool js,.int .i64 jf,.int .i64 jd,.int .i64 jn,.int .i64 jm,.int .i64 jr,.int .i64 ja,.int .u32 ji,.int .i64 jt,.int .i64 jk,.bool jp,.bool ju,.bool jw,.int .u16 jl,.int .i64 jx,.int .i64 jy,.int .i64 jz,.int .i64 jv]] w fun e w'=>e= .returned (.bool (!(jd == 15)))∧Below w.heap.size w w'
  have HI:Hid (∀w,Calls Tryd.prog 43 #[.int .i64 50] w fun e w'=>e= .returned (.bool false)∧w'=w):=fun w=>gisOne_any 50 w
  go_enter Tryd.func22,Tryd.ntmps22
  go_wp2_with (first|(go_at_call 43; refine (HI.out _).mono ?_; rintro e w' ⟨rfl,rfl⟩))
  exact bodyPost_ret (v:= .bool (!(jd == 15))) (by simp [results,Tryd.results22,go_sem,bne]) rfl ⟨rfl,below_new _ _⟩
set_option maxRecDepth 100000 in
set_option maxHeartbeats 1000000 in
theorem gmay_46 (i:Ins) (w:World) (h1:¬i.cond=15) (h2:¬i.form=3) (h3:i.op=46):Calls Tryd.prog 22 #[.agg (insA i)] w fun e w'=>e= .returned (.bool (i.cond == 14))∧Below w.heap.size w w':=by
  obtain ⟨jc,jo,js,jf,jd,jn,jm,jr,ja,ji,jt,jk,jp,ju,jw,jl,jx,jy,jz,jv⟩:=i
  change ¬jc=15 at h1
  have b1:(jc == 15)=false:=beq_eq_false_iff_ne.2 h1
  clear h1
  change ¬jf=3 at h2
  have b2:(jf == 3)=false:=beq_eq_false_iff_ne.2 h2
  clear h2
  obtain rfl:jo=46:=h3
  change Calls Tryd.prog 22 #[.agg #[.int .i64 jc,.int .i64 46,.bool js,.int .i64 jf,.int .i64 jd,.int .i64 jn,.int .i64 jm,.int .i64 jr,.int .i64 ja,.int .u32 ji,.int .i64 jt,.int .i64 jk,.bool jp,.bool ju,.bool jw,.int .u16 jl,.int .i64 jx,.int .i64 jy,.int .i64 jz,.int .i64 jv]] w fun e w'=>e= .returned (.bool (jc == 14))∧Below w.heap.size w w'
  have HI:Hid (∀w,Calls Tryd.prog 43 #[.int .i64 46] w fun e w'=>e= .returned (.bool false)∧w'=w):=fun w=>gisOne_any 46 w
  go_enter Tryd.func22,Tryd.ntmps22
  go_wp2_with (first|(go_at_call 43; refine (HI.out _).mono ?_; rintro e w' ⟨rfl,rfl⟩))
  exact bodyPost_ret (v:= .bool (jc == 14)) (by simp [results,Tryd.results22,go_sem,bne]) rfl ⟨rfl,below_new _ _⟩
set_option maxRecDepth 100000 in
set_option maxHeartbeats 1000000 in
theorem gmay_48 (i:Ins) (w:World) (h1:¬i.cond=15) (h2:¬i.form=3) (h3:i.op=48):Calls Tryd.prog 22 #[.agg (insA i)] w fun e w'=>e= .returned (.bool (!(i.amount == 0) && !(i.rm == 15)))∧Below w.heap.size w w':=by
  obtain ⟨jc,jo,js,jf,jd,jn,jm,jr,ja,ji,jt,jk,jp,ju,jw,jl,jx,jy,jz,jv⟩:=i
  change ¬jc=15 at h1
  have b1:(jc == 15)=false:=beq_eq_false_iff_ne.2 h1
  clear h1
  change ¬jf=3 at h2
  have b2:(jf == 3)=false:=beq_eq_false_iff_ne.2 h2
  clear h2
  obtain rfl:jo=48:=h3
  change Calls Tryd.prog 22 #[.agg #[.int .i64 jc,.int .i64 48,.bool js,.int .i64 jf,.int .i64 jd,.int .i64 jn,.int .i64 jm,.int .i64 jr,.int .i64 ja,.int .u32 ji,.int .i64 jt,.int .i64 jk,.bool jp,.bool ju,.bool jw,.int .u16 jl,.int .i64 jx,.int .i64 jy,.int .i64 jz,.int .i64 jv]] w fun e w'=>e= .returned (.bool (!(jk == 0) && !(jm == 15)))∧Below w.heap.size w w'
  have HI:Hid (∀w,Calls Tryd.prog 43 #[.int .i64 48] w fun e w'=>e= .returned (.bool false)∧w'=w):=fun w=>gisOne_any 48 w
  cases hk:(jk == 0)
  · have g:(jk !=0)=true:=by rw [bne,hk]; rfl
    go_enter Tryd.func22,Tryd.ntmps22
    go_wp2_with (go_at_call 43; refine (HI.out _).mono ?_; rintro e w' ⟨rfl,rfl⟩)
    exact bodyPost_ret (v:= .bool (!(jm == 15))) (by simp [results,Tryd.results22,go_sem,bne]) rfl ⟨rfl,below_new _ _⟩
  · have g:(jk !=0)=false:=by rw [bne,hk]; rfl
    go_enter Tryd.func22,Tryd.ntmps22
    go_wp2_with (go_at_call 43; refine (HI.out _).mono ?_; rintro e w' ⟨rfl,rfl⟩)
    exact bodyPost_ret (v:= .bool false) (by simp [results,Tryd.results22,go_sem]) rfl ⟨rfl,below_new _ _⟩
set_option maxRecDepth 100000 in
set_option maxHeartbeats 1000000 in
theorem gmay_0 (i:Ins) (w:World) (h1:¬i.cond=15) (h2:¬i.form=3) (h3:¬(17≤i.op∧i.op≤38)) (n39:¬i.op=39) (n40:¬i.op=40) (n43:¬i.op=43) (n44:¬i.op=44) (n47:¬i.op=47) (n49:¬i.op=49) (n50:¬i.op=50) (n48:¬i.op=48) (n46:¬i.op=46):Calls Tryd.prog 22 #[.agg (insA i)] w fun e w'=>e= .returned (.bool true)∧Below w.heap.size w w':=by
  obtain ⟨jc,jo,js,jf,jd,jn,jm,jr,ja,ji,jt,jk,jp,ju,jw,jl,jx,jy,jz,jv⟩:=i
  change ¬jc=15 at h1
  have b1:(jc == 15)=false:=beq_eq_false_iff_ne.2 h1
  clear h1
  change ¬jf=3 at h2
  have b2:(jf == 3)=false:=beq_eq_false_iff_ne.2 h2
  clear h2
  change ¬(17≤jo∧jo≤38) at h3
  change ¬jo=39 at n39
  have m39:(jo == 39)=false:=beq_eq_false_iff_ne.2 n39
  change ¬jo=40 at n40
  have m40:(jo == 40)=false:=beq_eq_false_iff_ne.2 n40
  change ¬jo=43 at n43
  have m43:(jo == 43)=false:=beq_eq_false_iff_ne.2 n43
  change ¬jo=44 at n44
  have m44:(jo == 44)=false:=beq_eq_false_iff_ne.2 n44
  change ¬jo=47 at n47
  have m47:(jo == 47)=false:=beq_eq_false_iff_ne.2 n47
  change ¬jo=49 at n49
  have m49:(jo == 49)=false:=beq_eq_false_iff_ne.2 n49
  change ¬jo=50 at n50
  have m50:(jo == 50)=false:=beq_eq_false_iff_ne.2 n50
  change ¬jo=48 at n48
  have m48:(jo == 48)=false:=beq_eq_false_iff_ne.2 n48
  change ¬jo=46 at n46
  have m46:(jo == 46)=false:=beq_eq_false_iff_ne.2 n46
  have e1:isOneP jo=false:=by rw [isOneP]; by_cases x:31≤jo <;>by_cases y:jo≤38 <;>simp [x,y] <;>omega
  have HI:Hid (∀w,Calls Tryd.prog 43 #[.int .i64 jo] w fun e w'=>e= .returned (.bool false)∧w'=w):=fun w=>by rw [←e1]; exact gisOne_any jo w
  clear e1 n39 n40 n43 n44 n47 n49 n50 n48 n46
  change Calls Tryd.prog 22 #[.agg #[.int .i64 jc,.int .i64 jo,.bool js,.int .i64 jf,.int .i64 jd,.int .i64 jn,.int .i64 jm,.int .i64 jr,.int .i64 ja,.int .u32 ji,.int .i64 jt,.int .i64 jk,.bool jp,.bool ju,.bool jw,.int .u16 jl,.int .i64 jx,.int .i64 jy,.int .i64 jz,.int .i64 jv]] w fun e w'=>e= .returned (.bool true)∧Below w.heap.size w w'
  by_cases h:17≤jo
  · have b3:decide (17≤jo)=true:=decide_eq_true h
    have b4:decide (jo≤30)=false:=decide_eq_false (by omega)
    have c4:¬jo≤30:=by omega
    clear h3
    go_enter Tryd.func22,Tryd.ntmps22
    go_wp2_with (go_at_call 43; refine (HI.out _).mono ?_; rintro e w' ⟨rfl,rfl⟩)
    exact bodyPost_ret (v:= .bool true) (by simp [results,Tryd.results22,go_sem]) rfl ⟨rfl,below_new _ _⟩
  · have b3:decide (17≤jo)=false:=decide_eq_false h
    clear h3
    go_enter Tryd.func22,Tryd.ntmps22
    go_wp2_with (go_at_call 43; refine (HI.out _).mono ?_; rintro e w' ⟨rfl,rfl⟩)
    exact bodyPost_ret (v:= .bool true) (by simp [results,Tryd.results22,go_sem]) rfl ⟨rfl,below_new _ _⟩
theorem gmay_any (i:Ins) (w:World) (hl:0≤i.list∧i.list<65536) (hn:0≤i.rn∧i.rn<16):Calls Tryd.prog 22 #[.agg (insA i)] w fun e w'=>e= .returned (.bool (mayP i))∧Below w.heap.size w w':=by
  unfold mayP
  by_cases h1:i.cond=15
  · rw [if_pos h1]; exact gmay_1 i w h1
  rw [if_neg h1]
  by_cases h2:i.form=3
  · rw [if_pos h2]; exact gmay_2 i w h1 h2
  rw [if_neg h2]
  by_cases h3:17≤i.op∧i.op≤30
  · rw [if_pos h3]; exact gmay_3 i w h1 h2 h3
  rw [if_neg h3]
  by_cases h4:31≤i.op∧i.op≤38
  · rw [if_pos (show isOneP i.op=true by rw [isOneP]; simp [h4.1,h4.2])]; exact gmay_4 i w h1 h2 h4
  rw [if_neg (show ¬isOneP i.op=true by rw [isOneP]; simp; omega)]
  by_cases h5:i.op=39∨i.op=40
  · rw [if_pos h5]
    rcases h5 with h|h
    · exact gmay_39 i w h1 h2 h hl hn
    · exact gmay_40 i w h1 h2 h hl hn
  rw [if_neg h5]
  by_cases h6:i.op=43∨i.op=44
  · rw [if_pos h6]
    rcases h6 with h|h
    · exact gmay_43 i w h1 h2 h
    · exact gmay_44 i w h1 h2 h
  rw [if_neg h6]
  by_cases h7:i.op=47∨i.op=49∨i.op=50
  · rw [if_pos h7]
    rcases h7 with h|h|h
    · exact gmay_47 i w h1 h2 h
    · exact gmay_49 i w h1 h2 h
    · exact gmay_50 i w h1 h2 h
  rw [if_neg h7]
  by_cases h8:i.op=48
  · rw [if_pos h8]; exact gmay_48 i w h1 h2 h8
  rw [if_neg h8]
  by_cases h9:i.op=46
  · rw [if_pos h9]; exact gmay_46 i w h1 h2 h9
  rw [if_neg h9]
  exact gmay_0 i w h1 h2 (by omega) (by omega) (by omega) (by omega) (by omega) (by omega) (by omega) (by omega) (by omega) (by omega)
end Go.Proofs.YtkmgmmmpiallhaaDoor
