import Derived.Test.YtnjlajjjcmhfgaaGreatDoorTA01
import Derived.Test.YtnjlajjjcmhfgaaGreatDoorTA02
namespace Go.Proofs.YtnjlajjjcmhfgaaGreatDoor
open Go.RowKit
set_option linter.unusedVariables false
set_option linter.unusedSimpArgs false
theorem orN1 (b d ap bt:Int) (s g x:Bool):bits .or .u32 (bits .or .u32 (bits .or .u32 1 (b%4294967296 / 1024*1024)) (G (d%4294967296) 5 4)) (G (b2 s) 3 1)=1+b%4294967296 / 1024*1024+G (d%4294967296) 5 4+G (b2 s) 3 1:=by
  have o1:=or32 (in_one 1) (in_base b 10 (by decide)) (by decide) (by decide) (by decide)
  have o2:=or32 o1.2 (in_G (d%4294967296) 5 4) (by decide) (by decide) (by decide)
  have o3:=or32 o2.2 (in_G (b2 s) 3 1) (by decide) (by decide) (by decide)
  exact (congrArg (fun z=>bits .or .u32 (bits .or .u32 z _) _) o1.1).trans ((congrArg (fun z=>bits .or .u32 z _) o2.1).trans o3.1)
set_option maxRecDepth 100000 in
set_option maxHeartbeats 4000000 in
theorem encode_1 (b d ap bt:Int) (s g x:Bool) (w:World) (ht:TE w) (hb:0≤b∧b<18446744073709551616) (hbt:0≤bt∧bt<4294967296) :
    Calls Tryz.prog 141 #[.agg #[.int .i64 1,.int .u64 b,.int .i64 d,.bool s,.int .i64 ap,.int .u32 bt,.bool g,.bool x]] w fun e w'=>e= .returned (.int .u32 (eT ⟨1,b,d,s,ap,bt,g,x⟩))∧Below w.heap.size w w':=by
  have c0:=ht.base 1 10 rfl
  have c1:=ht.tags 1 1 rfl
  have HT:Hid (TE w):=ht
  clear ht
  have HB:Hid (0≤bt∧bt<4294967296):=hbt
  clear hbt
  have HBB:Hid (0≤b∧b<18446744073709551616):=hb
  clear hb
  have hq:∀b:Bool,(if b=true then (1:Int) else 0)=b2 b:=fun b=>rfl
  have HO:Hid (_=_):=orN1 b d ap bt s g x
  have HW:Hid (_=_):=base_lt b 1024 (by decide)
  go_enter Tryz.func141,Tryz.ntmps141
  go_wp2
  go_region_held3 (fun w'=>w'.cell? ⟨1,1,none⟩=some (.int .u8 10)∧w'.cell? ⟨7,1,none⟩=some (.int .u32 1)∧w'.cell? ⟨w.heap.size,0,none⟩=some (.int .i64 1)∧w'.cell? ⟨w.heap.size,1,none⟩=some (.int .u64 b)) (first|go_keep) ((first|fail))
  go_wp2
  go_region_held3 (fun w'=>w'.cell? ⟨w.heap.size,2,none⟩=some (.int .i64 d)∧w'.cell? ⟨w.heap.size,3,none⟩=some (.bool s)) (first|go_keep)
    ((first
      | (go_at_call 182; refine (place_any _ _ _ _ ?_ (by decide) (by decide) (by decide)).mono ?_; (first|exact HB.out|(have:=HB.out; have:=HBB.out; (try simp only [IntKind.wrap_u32]); omega)); rintro e w' ⟨rfl,rfl⟩)
      | (go_at_call 183; refine (placeFlag_any _ _ _ (by decide)).mono ?_; rintro e w' ⟨rfl,rfl⟩)))
  go_wp2
  go_ret
  refine ⟨?_,(by (repeat (first|apply below_drew|refine Below.setCell ?_ (by simp) _|refine Below.alloc ?_ (by simp; try omega) _)); exact Below.refl _ _)⟩
  have ho:=HO.out
  have hw:=HW.out
  simp only [IntKind.wrap_u32,hw,eT]
  rw [←ho]
  rfl
end Go.Proofs.YtnjlajjjcmhfgaaGreatDoor
namespace Go.Proofs.YtnjlajjjcmhfgaaGreatDoor
open Go.RowKit
set_option linter.unusedVariables false
set_option linter.unusedSimpArgs false
theorem orN2 (b d ap bt:Int) (s g x:Bool):bits .or .u32 (bits .or .u32 (bits .or .u32 2 (b%4294967296 / 1048576*1048576)) (bits .or .u32 (G (d%4294967296) 5 4) (G (b2 s) 19 1))) (EL 10 15 12 16 17 4 ap bt g x)=2+b%4294967296 / 1048576*1048576+(G (d%4294967296) 5 4+G (b2 s) 19 1)+EL 10 15 12 16 17 4 ap bt g x:=by
  have o1:=or32 (in_one 2) (in_base b 20 (by decide)) (by decide) (by decide) (by decide)
  have om:=or32 (in_G (d%4294967296) 5 4) (in_G (b2 s) 19 1) (by decide) (by decide) (by decide)
  have o2:=or32 o1.2 om.2 (by decide) (by decide) (by decide)
  have o3:=or32 o2.2 (elA ap bt g x).2 (by decide) (by decide) (by decide)
  rw [om.1]
  exact (congrArg (fun z=>bits .or .u32 (bits .or .u32 z _) _) o1.1).trans ((congrArg (fun z=>bits .or .u32 z _) o2.1).trans o3.1)
set_option maxRecDepth 100000 in
set_option maxHeartbeats 4000000 in
theorem encode_2 (b d ap bt:Int) (s g x:Bool) (w:World) (ht:TE w) (hb:0≤b∧b<18446744073709551616) (hbt:0≤bt∧bt<4294967296) :
    Calls Tryz.prog 141 #[.agg #[.int .i64 2,.int .u64 b,.int .i64 d,.bool s,.int .i64 ap,.int .u32 bt,.bool g,.bool x]] w fun e w'=>e= .returned (.int .u32 (eS ⟨2,b,d,s,ap,bt,g,x⟩))∧Below w.heap.size w w':=by
  have c0:=ht.base 2 20 rfl
  have c1:=ht.tags 2 2 rfl
  have HT:Hid (TE w):=ht
  clear ht
  have HB:Hid (0≤bt∧bt<4294967296):=hbt
  clear hbt
  have HBB:Hid (0≤b∧b<18446744073709551616):=hb
  clear hb
  have hq:∀b:Bool,(if b=true then (1:Int) else 0)=b2 b:=fun b=>rfl
  have HO:Hid (_=_):=orN2 b d ap bt s g x
  have HW:Hid (_=_):=base_lt b 1048576 (by decide)
  go_enter Tryz.func141,Tryz.ntmps141
  go_wp2
  go_region_held3 (fun w'=>w'.cell? ⟨1,2,none⟩=some (.int .u8 20)∧w'.cell? ⟨7,2,none⟩=some (.int .u32 2)∧w'.cell? ⟨w.heap.size,0,none⟩=some (.int .i64 2)∧w'.cell? ⟨w.heap.size,1,none⟩=some (.int .u64 b)) (first|go_keep) ((first|fail))
  go_wp2
  go_region_held3 (fun w'=>w'.cell? ⟨w.heap.size,2,none⟩=some (.int .i64 d)∧w'.cell? ⟨w.heap.size,3,none⟩=some (.bool s)) (first|go_keep)
    ((first
      | (go_at_call 182; refine (place_any _ _ _ _ ?_ (by decide) (by decide) (by decide)).mono ?_; (first|exact HB.out|(have:=HB.out; have:=HBB.out; (try simp only [IntKind.wrap_u32]); omega)); rintro e w' ⟨rfl,rfl⟩)
      | (go_at_call 183; refine (placeFlag_any _ _ _ (by decide)).mono ?_; rintro e w' ⟨rfl,rfl⟩)))
  go_wp2_with (first|(go_at_call 184; refine (encodeLeaf_2 ap bt g x _ (HT.out.toTD.below (by (repeat (first|apply below_drew|refine Below.setCell ?_ (by simp) _|refine Below.alloc ?_ (by simp; try omega) _)); exact Below.refl _ _)) HB.out).mono ?_; rintro e w2 ⟨rfl,o,rfl⟩)|go_in)
  go_ret
  refine ⟨?_,(by (repeat (first|apply below_drew|refine Below.setCell ?_ (by simp) _|refine Below.alloc ?_ (by simp; try omega) _)); exact Below.refl _ _)⟩
  have ho:=HO.out
  have hw:=HW.out
  simp only [IntKind.wrap_u32,hw,eS]
  rw [←ho]
  rfl
end Go.Proofs.YtnjlajjjcmhfgaaGreatDoor
namespace Go.Proofs.YtnjlajjjcmhfgaaGreatDoor
open Go.RowKit
set_option linter.unusedVariables false
set_option linter.unusedSimpArgs false
theorem orN3 (b d ap bt:Int) (s g x:Bool):bits .or .u32 (bits .or .u32 (bits .or .u32 262146 (b%4294967296 / 16777216*16777216)) (bits .or .u32 (bits .or .u32 (G (b / 4294967296%4294967296) 20 4) (G (b / 68719476736%4294967296) 5 4)) (G (b2 s) 19 1))) (EL 10 15 12 16 17 4 ap bt g x)=262146+b%4294967296 / 16777216*16777216+(G (b / 4294967296%4294967296) 20 4+G (b / 68719476736%4294967296) 5 4+G (b2 s) 19 1)+EL 10 15 12 16 17 4 ap bt g x:=by
  have o1:=or32 (in_one 262146) (in_base b 24 (by decide)) (by decide) (by decide) (by decide)
  have oz:=or32 (in_G (b / 4294967296%4294967296) 20 4) (in_G (b / 68719476736%4294967296) 5 4) (by decide) (by decide) (by decide)
  have om:=or32 oz.2 (in_G (b2 s) 19 1) (by decide) (by decide) (by decide)
  have o2:=or32 o1.2 om.2 (by decide) (by decide) (by decide)
  have o3:=or32 o2.2 (elA ap bt g x).2 (by decide) (by decide) (by decide)
  rw [oz.1,om.1]
  exact (congrArg (fun z=>bits .or .u32 (bits .or .u32 z _) _) o1.1).trans ((congrArg (fun z=>bits .or .u32 z _) o2.1).trans o3.1)
set_option maxRecDepth 100000 in
set_option maxHeartbeats 4000000 in
theorem encode_3 (b d ap bt:Int) (s g x:Bool) (w:World) (ht:TE w) (hb:0≤b∧b<18446744073709551616) (hbt:0≤bt∧bt<4294967296) :
    Calls Tryz.prog 141 #[.agg #[.int .i64 3,.int .u64 b,.int .i64 d,.bool s,.int .i64 ap,.int .u32 bt,.bool g,.bool x]] w fun e w'=>e= .returned (.int .u32 (eU ⟨3,b,d,s,ap,bt,g,x⟩))∧Below w.heap.size w w':=by
  have c0:=ht.base 3 24 rfl
  have c1:=ht.tags 3 262146 rfl
  have HT:Hid (TE w):=ht
  clear ht
  have HB:Hid (0≤bt∧bt<4294967296):=hbt
  clear hbt
  have HBB:Hid (0≤b∧b<18446744073709551616):=hb
  clear hb
  have hq:∀b:Bool,(if b=true then (1:Int) else 0)=b2 b:=fun b=>rfl
  have HO:Hid (_=_):=orN3 b d ap bt s g x
  have HW:Hid (_=_):=base_lt b 16777216 (by decide)
  go_enter Tryz.func141,Tryz.ntmps141
  go_wp2
  go_region_held3 (fun w'=>w'.cell? ⟨1,3,none⟩=some (.int .u8 24)∧w'.cell? ⟨7,3,none⟩=some (.int .u32 262146)∧w'.cell? ⟨w.heap.size,0,none⟩=some (.int .i64 3)∧w'.cell? ⟨w.heap.size,1,none⟩=some (.int .u64 b)) (first|go_keep) ((first|fail))
  go_wp2
  go_region_held3 (fun w'=>w'.cell? ⟨w.heap.size,1,none⟩=some (.int .u64 b)∧w'.cell? ⟨w.heap.size,3,none⟩=some (.bool s)) (first|go_keep)
    ((first
      | (go_at_call 182; refine (place_any _ _ _ _ ?_ (by decide) (by decide) (by decide)).mono ?_; (first|exact HB.out|(have:=HB.out; have:=HBB.out; (try simp only [IntKind.wrap_u32]); omega)); rintro e w' ⟨rfl,rfl⟩)
      | (go_at_call 183; refine (placeFlag_any _ _ _ (by decide)).mono ?_; rintro e w' ⟨rfl,rfl⟩)))
  go_wp2_with (first|(go_at_call 184; refine (encodeLeaf_3 ap bt g x _ (HT.out.toTD.below (by (repeat (first|apply below_drew|refine Below.setCell ?_ (by simp) _|refine Below.alloc ?_ (by simp; try omega) _)); exact Below.refl _ _)) HB.out).mono ?_; rintro e w2 ⟨rfl,o,rfl⟩)|go_in)
  go_ret
  refine ⟨?_,(by (repeat (first|apply below_drew|refine Below.setCell ?_ (by simp) _|refine Below.alloc ?_ (by simp; try omega) _)); exact Below.refl _ _)⟩
  have ho:=HO.out
  have hw:=HW.out
  simp only [IntKind.wrap_u32,hw,eU]
  rw [←ho]
  rfl
end Go.Proofs.YtnjlajjjcmhfgaaGreatDoor
namespace Go.Proofs.YtnjlajjjcmhfgaaGreatDoor
open Go.RowKit
set_option linter.unusedVariables false
set_option linter.unusedSimpArgs false
theorem orN4 (b d ap bt:Int) (s g x:Bool):bits .or .u32 (bits .or .u32 1 (b%4294967296 / 65536*65536)) (EL 4 9 12 10 11 15 ap bt g x)=1+b%4294967296 / 65536*65536+EL 4 9 12 10 11 15 ap bt g x:=by
  have o1:=or32 (in_one 1) (in_base b 16 (by decide)) (by decide) (by decide) (by decide)
  have o3:=or32 o1.2 (elB ap bt g x).2 (by decide) (by decide) (by decide)
  exact (congrArg (fun z=>bits .or .u32 z _) o1.1).trans o3.1
set_option maxRecDepth 100000 in
set_option maxHeartbeats 4000000 in
theorem encode_4 (b d ap bt:Int) (s g x:Bool) (w:World) (ht:TE w) (hb:0≤b∧b<18446744073709551616) (hbt:0≤bt∧bt<4294967296) :
    Calls Tryz.prog 141 #[.agg #[.int .i64 4,.int .u64 b,.int .i64 d,.bool s,.int .i64 ap,.int .u32 bt,.bool g,.bool x]] w fun e w'=>e= .returned (.int .u32 (eL ⟨4,b,d,s,ap,bt,g,x⟩))∧Below w.heap.size w w':=by
  have c0:=ht.base 4 16 rfl
  have c1:=ht.tags 4 1 rfl
  have HT:Hid (TE w):=ht
  clear ht
  have HB:Hid (0≤bt∧bt<4294967296):=hbt
  clear hbt
  have HBB:Hid (0≤b∧b<18446744073709551616):=hb
  clear hb
  have hq:∀b:Bool,(if b=true then (1:Int) else 0)=b2 b:=fun b=>rfl
  have HO:Hid (_=_):=orN4 b d ap bt s g x
  have HW:Hid (_=_):=base_lt b 65536 (by decide)
  go_enter Tryz.func141,Tryz.ntmps141
  go_wp2
  go_region_held3 (fun w'=>w'.cell? ⟨1,4,none⟩=some (.int .u8 16)∧w'.cell? ⟨7,4,none⟩=some (.int .u32 1)∧w'.cell? ⟨w.heap.size,0,none⟩=some (.int .i64 4)∧w'.cell? ⟨w.heap.size,1,none⟩=some (.int .u64 b)) (first|go_keep) ((first|fail))
  go_wp2_with (first|(go_at_call 184; refine (encodeLeaf_4 ap bt g x _ (HT.out.toTD.below (by (repeat (first|apply below_drew|refine Below.setCell ?_ (by simp) _|refine Below.alloc ?_ (by simp; try omega) _)); exact Below.refl _ _)) HB.out).mono ?_; rintro e w2 ⟨rfl,o,rfl⟩)|go_in)
  go_ret
  refine ⟨?_,(by (repeat (first|apply below_drew|refine Below.setCell ?_ (by simp) _|refine Below.alloc ?_ (by simp; try omega) _)); exact Below.refl _ _)⟩
  have ho:=HO.out
  have hw:=HW.out
  simp only [IntKind.wrap_u32,hw,eL]
  rw [←ho]
  rfl
end Go.Proofs.YtnjlajjjcmhfgaaGreatDoor
namespace Go.Proofs.YtnjlajjjcmhfgaaGreatDoor
open Go.RowKit
set_option linter.unusedVariables false
set_option linter.unusedSimpArgs false
theorem orN5 (b d ap bt:Int) (s g x:Bool):bits .or .u32 (bits .or .u32 2 (b%4294967296 / 4096*4096)) (EL 4 9 6 10 11 0 ap bt g x)=2+b%4294967296 / 4096*4096+EL 4 9 6 10 11 0 ap bt g x:=by
  have o1:=or32 (in_one 2) (in_base b 12 (by decide)) (by decide) (by decide) (by decide)
  have o3:=or32 o1.2 (elC ap bt g x).2 (by decide) (by decide) (by decide)
  exact (congrArg (fun z=>bits .or .u32 z _) o1.1).trans o3.1
set_option maxRecDepth 100000 in
set_option maxHeartbeats 4000000 in
theorem encode_5 (b d ap bt:Int) (s g x:Bool) (w:World) (ht:TE w) (hb:0≤b∧b<18446744073709551616) (hbt:0≤bt∧bt<4294967296) :
    Calls Tryz.prog 141 #[.agg #[.int .i64 5,.int .u64 b,.int .i64 d,.bool s,.int .i64 ap,.int .u32 bt,.bool g,.bool x]] w fun e w'=>e= .returned (.int .u32 (eM ⟨5,b,d,s,ap,bt,g,x⟩))∧Below w.heap.size w w':=by
  have c0:=ht.base 5 12 rfl
  have c1:=ht.tags 5 2 rfl
  have HT:Hid (TE w):=ht
  clear ht
  have HB:Hid (0≤bt∧bt<4294967296):=hbt
  clear hbt
  have HBB:Hid (0≤b∧b<18446744073709551616):=hb
  clear hb
  have hq:∀b:Bool,(if b=true then (1:Int) else 0)=b2 b:=fun b=>rfl
  have HO:Hid (_=_):=orN5 b d ap bt s g x
  have HW:Hid (_=_):=base_lt b 4096 (by decide)
  go_enter Tryz.func141,Tryz.ntmps141
  go_wp2
  go_region_held3 (fun w'=>w'.cell? ⟨1,5,none⟩=some (.int .u8 12)∧w'.cell? ⟨7,5,none⟩=some (.int .u32 2)∧w'.cell? ⟨w.heap.size,0,none⟩=some (.int .i64 5)∧w'.cell? ⟨w.heap.size,1,none⟩=some (.int .u64 b)) (first|go_keep) ((first|fail))
  go_wp2_with (first|(go_at_call 184; refine (encodeLeaf_5 ap bt g x _ (HT.out.toTD.below (by (repeat (first|apply below_drew|refine Below.setCell ?_ (by simp) _|refine Below.alloc ?_ (by simp; try omega) _)); exact Below.refl _ _)) HB.out).mono ?_; rintro e w2 ⟨rfl,o,rfl⟩)|go_in)
  go_ret
  refine ⟨?_,(by (repeat (first|apply below_drew|refine Below.setCell ?_ (by simp) _|refine Below.alloc ?_ (by simp; try omega) _)); exact Below.refl _ _)⟩
  have ho:=HO.out
  have hw:=HW.out
  simp only [IntKind.wrap_u32,hw,eM]
  rw [←ho]
  rfl
end Go.Proofs.YtnjlajjjcmhfgaaGreatDoor
