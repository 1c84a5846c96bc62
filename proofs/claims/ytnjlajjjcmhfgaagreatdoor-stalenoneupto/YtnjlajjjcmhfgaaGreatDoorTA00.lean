import Derived.Test.YtnjlajjjcmhfgaaGreatDoorTA01
import Derived.Deep.RegionWith
namespace Go.Proofs.YtnjlajjjcmhfgaaGreatDoor
open Go.RowKit
set_option linter.unusedVariables false
set_option maxRecDepth 100000 in
set_option maxHeartbeats 4000000 in
theorem decodeLeaf_2 (x:Int) (w:World) (ht:TD w) (hx:0≤x∧x<4294967296) :
    Calls Tryz.prog 181 #[.int .i64 2,.int .u32 x] w fun e w'=>e= .returned (.agg #[.int .i64 (F x 15 1*4+F x 10 2),.int .u32 (F x 12 3*8+F x 2 2*2+F x 16 1),.bool (F x 17 1 == 1),.bool (F x 4 1 == 1)])∧∃o,w'=(w.alloc o).drew:=by
  have tl:=ht.leaf
  have c0:=tl 12 10 rfl
  have c1:=tl 13 15 rfl
  have c2:=tl 14 12 rfl
  have c3:=tl 15 16 rfl
  have c4:=tl 16 17 rfl
  have c5:=tl 17 4 rfl
  clear tl ht
  go_enter Tryz.func181,Tryz.ntmps181
  go_wp2
  go_region_held3 (fun w'=>w'.cell? ⟨8,12,none⟩=some (.int .u8 10)∧w'.cell? ⟨8,13,none⟩=some (.int .u8 15)∧w'.cell? ⟨8,14,none⟩=some (.int .u8 12)∧w'.cell? ⟨8,15,none⟩=some (.int .u8 16)∧w'.cell? ⟨8,16,none⟩=some (.int .u8 17)∧w'.cell? ⟨8,17,none⟩=some (.int .u8 4)) (first|go_keep)
    ((first
      | (go_at_call 180; refine (field_any x _ _ _ hx (by decide) (by decide)).mono ?_; rintro e w' ⟨rfl,rfl⟩)
      | (go_at_call 139; refine (flag_any x _ _ hx (by decide)).mono ?_; rintro e w' ⟨rfl,rfl⟩)))
  go_wp2
  refine bodyPost_ret (v:= .agg #[.int .i64 (F x 15 1*4+F x 10 2),.int .u32 (F x 12 3*8+F x 2 2*2+F x 16 1),.bool (F x 17 1 == 1),.bool (F x 4 1 == 1)]) (by simp [results,Tryz.results181,leafA,leafB,go_sem]) rfl ⟨rfl,_,rfl⟩
end Go.Proofs.YtnjlajjjcmhfgaaGreatDoor
namespace Go.Proofs.YtnjlajjjcmhfgaaGreatDoor
open Go.RowKit
set_option linter.unusedVariables false
set_option maxRecDepth 100000 in
set_option maxHeartbeats 4000000 in
theorem decode_1 (x:Int) (w:World) (ht:TD w) (hx:0≤x∧x<4294967296) :
    Calls Tryz.prog 140 #[.int .i64 1,.int .u32 x] w fun e w'=>e= .returned (.agg #[.int .i64 (dT x).kind,.int .u64 (dT x).base,.int .i64 (dT x).dom,.bool (dT x).ns,.int .i64 (dT x).ap,.int .u32 (dT x).bits,.bool (dT x).ng,.bool (dT x).xn])∧Below w.heap.size w w':=by
  have c0:=ht.base 1 10 rfl
  have hw:x / 1024*1024%4294967296=x / 1024*1024:=by omega
  have hw2:x / 1024*1024%18446744073709551616=x / 1024*1024:=by omega
  have hd:IntKind.i64.wrap (F x 5 4)=F x 5 4:=by have h1:=F_lo x 5 4; have h2:F x 5 4<16:=F_hi x 5 4; rw [IntKind.wrap_i64]; omega
  have Hx:Hid (0≤x∧x<4294967296):=hx
  clear hx
  have HT:Hid (TD w):=ht
  clear ht
  go_enter Tryz.func140,Tryz.ntmps140
  go_wp2
  go_region_held3 (fun w'=>w'.cell? ⟨1,1,none⟩=some (.int .u8 10)) (first|go_keep) ((first|fail))
  go_wp2_with (first
    | (go_at_call 180; refine (field_any x _ _ _ Hx.out (by decide) (by decide)).mono ?_; rintro e w' ⟨rfl,rfl⟩)
    | (go_at_call 139; refine (flag_any x _ _ Hx.out (by decide)).mono ?_; rintro e w' ⟨rfl,rfl⟩)
    | go_in)
  refine bodyPost_ret (v:= .agg #[.int .i64 (dT x).kind,.int .u64 (dT x).base,.int .i64 (dT x).dom,.bool (dT x).ns,.int .i64 (dT x).ap,.int .u32 (dT x).bits,.bool (dT x).ng,.bool (dT x).xn]) (by simp [results,Tryz.results140,go_sem,dT, *]) rfl ⟨rfl,(by (repeat (first|apply below_drew|refine Below.setCell ?_ (by simp) _|refine Below.alloc ?_ (by simp; try omega) _)); exact Below.refl _ _)⟩
end Go.Proofs.YtnjlajjjcmhfgaaGreatDoor
namespace Go.Proofs.YtnjlajjjcmhfgaaGreatDoor
open Go.RowKit
set_option linter.unusedVariables false
set_option maxRecDepth 100000 in
set_option maxHeartbeats 4000000 in
theorem decode_2 (x:Int) (w:World) (ht:TD w) (hx:0≤x∧x<4294967296) :
    Calls Tryz.prog 140 #[.int .i64 2,.int .u32 x] w fun e w'=>e= .returned (.agg #[.int .i64 (dS x).kind,.int .u64 (dS x).base,.int .i64 (dS x).dom,.bool (dS x).ns,.int .i64 (dS x).ap,.int .u32 (dS x).bits,.bool (dS x).ng,.bool (dS x).xn])∧Below w.heap.size w w':=by
  have c0:=ht.base 2 20 rfl
  have hw:x / 1048576*1048576%4294967296=x / 1048576*1048576:=by omega
  have hw2:x / 1048576*1048576%18446744073709551616=x / 1048576*1048576:=by omega
  have hd:IntKind.i64.wrap (F x 5 4)=F x 5 4:=by have h1:=F_lo x 5 4; have h2:F x 5 4<16:=F_hi x 5 4; rw [IntKind.wrap_i64]; omega
  have Hx:Hid (0≤x∧x<4294967296):=hx
  clear hx
  have HT:Hid (TD w):=ht
  clear ht
  go_enter Tryz.func140,Tryz.ntmps140
  go_wp2
  go_region_held3 (fun w'=>w'.cell? ⟨1,2,none⟩=some (.int .u8 20)) (first|go_keep) ((first|fail))
  go_wp2_with (first
    | (go_at_call 180; refine (field_any x _ _ _ Hx.out (by decide) (by decide)).mono ?_; rintro e w' ⟨rfl,rfl⟩)
    | (go_at_call 139; refine (flag_any x _ _ Hx.out (by decide)).mono ?_; rintro e w' ⟨rfl,rfl⟩)
    | (go_at_call 181; refine (decodeLeaf_2 x _ (HT.out.below (by (repeat (first|apply below_drew|refine Below.setCell ?_ (by simp) _|refine Below.alloc ?_ (by simp; try omega) _)); exact Below.refl _ _)) Hx.out).mono ?_; rintro e w2 ⟨rfl,o,rfl⟩)
    | go_in)
  refine bodyPost_ret (v:= .agg #[.int .i64 (dS x).kind,.int .u64 (dS x).base,.int .i64 (dS x).dom,.bool (dS x).ns,.int .i64 (dS x).ap,.int .u32 (dS x).bits,.bool (dS x).ng,.bool (dS x).xn]) (by simp [results,Tryz.results140,go_sem,dS, *]) rfl ⟨rfl,(by (repeat (first|apply below_drew|refine Below.setCell ?_ (by simp) _|refine Below.alloc ?_ (by simp; try omega) _)); exact Below.refl _ _)⟩
end Go.Proofs.YtnjlajjjcmhfgaaGreatDoor
namespace Go.Proofs.YtnjlajjjcmhfgaaGreatDoor
open Go.RowKit
set_option linter.unusedVariables false
set_option maxRecDepth 100000 in
set_option maxHeartbeats 4000000 in
theorem decodeLeaf_3 (x:Int) (w:World) (ht:TD w) (hx:0≤x∧x<4294967296) :
    Calls Tryz.prog 181 #[.int .i64 3,.int .u32 x] w fun e w'=>e= .returned (.agg #[.int .i64 (F x 15 1*4+F x 10 2),.int .u32 (F x 12 3*8+F x 2 2*2+F x 16 1),.bool (F x 17 1 == 1),.bool (F x 4 1 == 1)])∧∃o,w'=(w.alloc o).drew:=by
  have tl:=ht.leaf
  have c0:=tl 18 10 rfl
  have c1:=tl 19 15 rfl
  have c2:=tl 20 12 rfl
  have c3:=tl 21 16 rfl
  have c4:=tl 22 17 rfl
  have c5:=tl 23 4 rfl
  clear tl ht
  go_enter Tryz.func181,Tryz.ntmps181
  go_wp2
  go_region_held3 (fun w'=>w'.cell? ⟨8,18,none⟩=some (.int .u8 10)∧w'.cell? ⟨8,19,none⟩=some (.int .u8 15)∧w'.cell? ⟨8,20,none⟩=some (.int .u8 12)∧w'.cell? ⟨8,21,none⟩=some (.int .u8 16)∧w'.cell? ⟨8,22,none⟩=some (.int .u8 17)∧w'.cell? ⟨8,23,none⟩=some (.int .u8 4)) (first|go_keep)
    ((first
      | (go_at_call 180; refine (field_any x _ _ _ hx (by decide) (by decide)).mono ?_; rintro e w' ⟨rfl,rfl⟩)
      | (go_at_call 139; refine (flag_any x _ _ hx (by decide)).mono ?_; rintro e w' ⟨rfl,rfl⟩)))
  go_wp2
  refine bodyPost_ret (v:= .agg #[.int .i64 (F x 15 1*4+F x 10 2),.int .u32 (F x 12 3*8+F x 2 2*2+F x 16 1),.bool (F x 17 1 == 1),.bool (F x 4 1 == 1)]) (by simp [results,Tryz.results181,leafA,leafB,go_sem]) rfl ⟨rfl,_,rfl⟩
end Go.Proofs.YtnjlajjjcmhfgaaGreatDoor
namespace Go.Proofs.YtnjlajjjcmhfgaaGreatDoor
open Go.RowKit
set_option linter.unusedVariables false
set_option maxRecDepth 100000 in
set_option maxHeartbeats 4000000 in
theorem decode_3 (x:Int) (w:World) (ht:TD w) (hx:0≤x∧x<4294967296) :
    Calls Tryz.prog 140 #[.int .i64 3,.int .u32 x] w fun e w'=>e= .returned (.agg #[.int .i64 (dU x).kind,.int .u64 (dU x).base,.int .i64 (dU x).dom,.bool (dU x).ns,.int .i64 (dU x).ap,.int .u32 (dU x).bits,.bool (dU x).ng,.bool (dU x).xn])∧Below w.heap.size w w':=by
  have c0:=ht.base 3 24 rfl
  have hw:x / 16777216*16777216%4294967296=x / 16777216*16777216:=by omega
  have hw2:x / 16777216*16777216%18446744073709551616=x / 16777216*16777216:=by omega
  have hd:IntKind.i64.wrap (F x 5 4)=F x 5 4:=by have h1:=F_lo x 5 4; have h2:F x 5 4<16:=F_hi x 5 4; rw [IntKind.wrap_i64]; omega
  have hu:bits .or .u64 (x / 16777216*16777216) (bits .or .u64 (IntKind.u64.wrap (IntKind.u64.wrap (F x 20 4)*4294967296)) (IntKind.u64.wrap (IntKind.u64.wrap (F x 5 4)*68719476736)))=x / 16777216*16777216+(F x 20 4*4294967296+F x 5 4*68719476736):=by
    have h1:=F_lo x 5 4
    have h2:F x 5 4<16:=F_hi x 5 4
    have h3:=F_lo x 20 4
    have h4:F x 20 4<16:=F_hi x 20 4
    have ho:=or64 (m:=15*2^32) (n:=15*2^36) (show In _ (F x 20 4*4294967296) from (in_F x 20 4).shl 32) (show In _ (F x 5 4*68719476736) from (in_F x 5 4).shl 36) (by decide) (by decide) (by decide)
    have hb:=or64 (m:=255*2^24) (show In _ (x / 16777216*16777216) from (in_low (x / 16777216) 8 (by omega) (by omega)).shl 24) ho.2 (by decide) (by decide) (by decide)
    simp only [IntKind.wrap_u64]
    rw [show F x 20 4%18446744073709551616=F x 20 4 by omega,show F x 5 4%18446744073709551616=F x 5 4 by omega,show F x 20 4*4294967296%18446744073709551616=F x 20 4*4294967296 by omega,show F x 5 4*68719476736%18446744073709551616=F x 5 4*68719476736 by omega,ho.1,hb.1]
  have Hx:Hid (0≤x∧x<4294967296):=hx
  clear hx
  have HT:Hid (TD w):=ht
  clear ht
  have HU:Hid (_=_):=hu
  clear hu
  go_enter Tryz.func140,Tryz.ntmps140
  go_wp2
  go_region_held3 (fun w'=>w'.cell? ⟨1,3,none⟩=some (.int .u8 24)) (first|go_keep) ((first|fail))
  go_wp2_with (first
    | (go_at_call 180; refine (field_any x _ _ _ Hx.out (by decide) (by decide)).mono ?_; rintro e w' ⟨rfl,rfl⟩)
    | (go_at_call 139; refine (flag_any x _ _ Hx.out (by decide)).mono ?_; rintro e w' ⟨rfl,rfl⟩)
    | go_in)
  go_region_with (first
    | (go_at_call 180; refine (field_any x _ _ _ Hx.out (by decide) (by decide)).mono ?_; rintro e w' ⟨rfl,rfl⟩)
    )
  all_goals
    have hu:=HU.out
    go_wp2_with (first
    | (go_at_call 139; refine (flag_any x _ _ Hx.out (by decide)).mono ?_; rintro e w' ⟨rfl,rfl⟩)
    | (go_at_call 181; refine (decodeLeaf_3 x _ (HT.out.below (by (repeat (first|apply below_drew|refine Below.setCell ?_ (by simp) _|refine Below.alloc ?_ (by simp; try omega) _)); exact Below.refl _ _)) Hx.out).mono ?_; rintro e w2 ⟨rfl,o,rfl⟩)
    | go_in)
    refine bodyPost_ret (v:= .agg #[.int .i64 (dU x).kind,.int .u64 (dU x).base,.int .i64 (dU x).dom,.bool (dU x).ns,.int .i64 (dU x).ap,.int .u32 (dU x).bits,.bool (dU x).ng,.bool (dU x).xn]) (by simp [results,Tryz.results140,go_sem,dU, *]) rfl ⟨rfl,(by (repeat (first|apply below_drew|refine Below.setCell ?_ (by simp) _|refine Below.alloc ?_ (by simp; try omega) _)); exact Below.refl _ _)⟩
end Go.Proofs.YtnjlajjjcmhfgaaGreatDoor
namespace Go.Proofs.YtnjlajjjcmhfgaaGreatDoor
open Go.RowKit
set_option linter.unusedVariables false
set_option maxRecDepth 100000 in
set_option maxHeartbeats 4000000 in
theorem decodeLeaf_4 (x:Int) (w:World) (ht:TD w) (hx:0≤x∧x<4294967296) :
    Calls Tryz.prog 181 #[.int .i64 4,.int .u32 x] w fun e w'=>e= .returned (.agg #[.int .i64 (F x 9 1*4+F x 4 2),.int .u32 (F x 12 3*8+F x 2 2*2+F x 10 1),.bool (F x 11 1 == 1),.bool (F x 15 1 == 1)])∧∃o,w'=(w.alloc o).drew:=by
  have tl:=ht.leaf
  have c0:=tl 24 4 rfl
  have c1:=tl 25 9 rfl
  have c2:=tl 26 12 rfl
  have c3:=tl 27 10 rfl
  have c4:=tl 28 11 rfl
  have c5:=tl 29 15 rfl
  clear tl ht
  go_enter Tryz.func181,Tryz.ntmps181
  go_wp2
  go_region_held3 (fun w'=>w'.cell? ⟨8,24,none⟩=some (.int .u8 4)∧w'.cell? ⟨8,25,none⟩=some (.int .u8 9)∧w'.cell? ⟨8,26,none⟩=some (.int .u8 12)∧w'.cell? ⟨8,27,none⟩=some (.int .u8 10)∧w'.cell? ⟨8,28,none⟩=some (.int .u8 11)∧w'.cell? ⟨8,29,none⟩=some (.int .u8 15)) (first|go_keep)
    ((first
      | (go_at_call 180; refine (field_any x _ _ _ hx (by decide) (by decide)).mono ?_; rintro e w' ⟨rfl,rfl⟩)
      | (go_at_call 139; refine (flag_any x _ _ hx (by decide)).mono ?_; rintro e w' ⟨rfl,rfl⟩)))
  go_wp2
  refine bodyPost_ret (v:= .agg #[.int .i64 (F x 9 1*4+F x 4 2),.int .u32 (F x 12 3*8+F x 2 2*2+F x 10 1),.bool (F x 11 1 == 1),.bool (F x 15 1 == 1)]) (by simp [results,Tryz.results181,leafA,leafB,go_sem]) rfl ⟨rfl,_,rfl⟩
end Go.Proofs.YtnjlajjjcmhfgaaGreatDoor
namespace Go.Proofs.YtnjlajjjcmhfgaaGreatDoor
open Go.RowKit
set_option linter.unusedVariables false
set_option maxRecDepth 100000 in
set_option maxHeartbeats 4000000 in
theorem decode_4 (x:Int) (w:World) (ht:TD w) (hx:0≤x∧x<4294967296) :
    Calls Tryz.prog 140 #[.int .i64 4,.int .u32 x] w fun e w'=>e= .returned (.agg #[.int .i64 (dL x).kind,.int .u64 (dL x).base,.int .i64 (dL x).dom,.bool (dL x).ns,.int .i64 (dL x).ap,.int .u32 (dL x).bits,.bool (dL x).ng,.bool (dL x).xn])∧Below w.heap.size w w':=by
  have c0:=ht.base 4 16 rfl
  have hw:x / 65536*65536%4294967296=x / 65536*65536:=by omega
  have hw2:x / 65536*65536%18446744073709551616=x / 65536*65536:=by omega
  have Hx:Hid (0≤x∧x<4294967296):=hx
  clear hx
  have HT:Hid (TD w):=ht
  clear ht
  go_enter Tryz.func140,Tryz.ntmps140
  go_wp2
  go_region_held3 (fun w'=>w'.cell? ⟨1,4,none⟩=some (.int .u8 16)) (first|go_keep) ((first|fail))
  go_wp2_with (first
    | (go_at_call 180; refine (field_any x _ _ _ Hx.out (by decide) (by decide)).mono ?_; rintro e w' ⟨rfl,rfl⟩)
    | (go_at_call 139; refine (flag_any x _ _ Hx.out (by decide)).mono ?_; rintro e w' ⟨rfl,rfl⟩)
    | (go_at_call 181; refine (decodeLeaf_4 x _ (HT.out.below (by (repeat (first|apply below_drew|refine Below.setCell ?_ (by simp) _|refine Below.alloc ?_ (by simp; try omega) _)); exact Below.refl _ _)) Hx.out).mono ?_; rintro e w2 ⟨rfl,o,rfl⟩)
    | go_in)
  refine bodyPost_ret (v:= .agg #[.int .i64 (dL x).kind,.int .u64 (dL x).base,.int .i64 (dL x).dom,.bool (dL x).ns,.int .i64 (dL x).ap,.int .u32 (dL x).bits,.bool (dL x).ng,.bool (dL x).xn]) (by simp [results,Tryz.results140,go_sem,dL, *]) rfl ⟨rfl,(by (repeat (first|apply below_drew|refine Below.setCell ?_ (by simp) _|refine Below.alloc ?_ (by simp; try omega) _)); exact Below.refl _ _)⟩
end Go.Proofs.YtnjlajjjcmhfgaaGreatDoor
namespace Go.Proofs.YtnjlajjjcmhfgaaGreatDoor
open Go.RowKit
set_option linter.unusedVariables false
set_option maxRecDepth 100000 in
set_option maxHeartbeats 4000000 in
theorem decodeLeaf_5 (x:Int) (w:World) (ht:TD w) (hx:0≤x∧x<4294967296) :
    Calls Tryz.prog 181 #[.int .i64 5,.int .u32 x] w fun e w'=>e= .returned (.agg #[.int .i64 (F x 9 1*4+F x 4 2),.int .u32 (F x 6 3*8+F x 2 2*2+F x 10 1),.bool (F x 11 1 == 1),.bool (F x 0 1 == 1)])∧∃o,w'=(w.alloc o).drew:=by
  have tl:=ht.leaf
  have c0:=tl 30 4 rfl
  have c1:=tl 31 9 rfl
  have c2:=tl 32 6 rfl
  have c3:=tl 33 10 rfl
  have c4:=tl 34 11 rfl
  have c5:=tl 35 0 rfl
  clear tl ht
  go_enter Tryz.func181,Tryz.ntmps181
  go_wp2
  go_region_held3 (fun w'=>w'.cell? ⟨8,30,none⟩=some (.int .u8 4)∧w'.cell? ⟨8,31,none⟩=some (.int .u8 9)∧w'.cell? ⟨8,32,none⟩=some (.int .u8 6)∧w'.cell? ⟨8,33,none⟩=some (.int .u8 10)∧w'.cell? ⟨8,34,none⟩=some (.int .u8 11)∧w'.cell? ⟨8,35,none⟩=some (.int .u8 0)) (first|go_keep)
    ((first
      | (go_at_call 180; refine (field_any x _ _ _ hx (by decide) (by decide)).mono ?_; rintro e w' ⟨rfl,rfl⟩)
      | (go_at_call 139; refine (flag_any x _ _ hx (by decide)).mono ?_; rintro e w' ⟨rfl,rfl⟩)))
  go_wp2
  refine bodyPost_ret (v:= .agg #[.int .i64 (F x 9 1*4+F x 4 2),.int .u32 (F x 6 3*8+F x 2 2*2+F x 10 1),.bool (F x 11 1 == 1),.bool (F x 0 1 == 1)]) (by simp [results,Tryz.results181,leafA,leafB,go_sem]) rfl ⟨rfl,_,rfl⟩
end Go.Proofs.YtnjlajjjcmhfgaaGreatDoor
namespace Go.Proofs.YtnjlajjjcmhfgaaGreatDoor
open Go.RowKit
set_option linter.unusedVariables false
set_option maxRecDepth 100000 in
set_option maxHeartbeats 4000000 in
theorem decode_5 (x:Int) (w:World) (ht:TD w) (hx:0≤x∧x<4294967296) :
    Calls Tryz.prog 140 #[.int .i64 5,.int .u32 x] w fun e w'=>e= .returned (.agg #[.int .i64 (dM x).kind,.int .u64 (dM x).base,.int .i64 (dM x).dom,.bool (dM x).ns,.int .i64 (dM x).ap,.int .u32 (dM x).bits,.bool (dM x).ng,.bool (dM x).xn])∧Below w.heap.size w w':=by
  have c0:=ht.base 5 12 rfl
  have hw:x / 4096*4096%4294967296=x / 4096*4096:=by omega
  have hw2:x / 4096*4096%18446744073709551616=x / 4096*4096:=by omega
  have Hx:Hid (0≤x∧x<4294967296):=hx
  clear hx
  have HT:Hid (TD w):=ht
  clear ht
  go_enter Tryz.func140,Tryz.ntmps140
  go_wp2
  go_region_held3 (fun w'=>w'.cell? ⟨1,5,none⟩=some (.int .u8 12)) (first|go_keep) ((first|fail))
  go_wp2_with (first
    | (go_at_call 180; refine (field_any x _ _ _ Hx.out (by decide) (by decide)).mono ?_; rintro e w' ⟨rfl,rfl⟩)
    | (go_at_call 139; refine (flag_any x _ _ Hx.out (by decide)).mono ?_; rintro e w' ⟨rfl,rfl⟩)
    | (go_at_call 181; refine (decodeLeaf_5 x _ (HT.out.below (by (repeat (first|apply below_drew|refine Below.setCell ?_ (by simp) _|refine Below.alloc ?_ (by simp; try omega) _)); exact Below.refl _ _)) Hx.out).mono ?_; rintro e w2 ⟨rfl,o,rfl⟩)
    | go_in)
  refine bodyPost_ret (v:= .agg #[.int .i64 (dM x).kind,.int .u64 (dM x).base,.int .i64 (dM x).dom,.bool (dM x).ns,.int .i64 (dM x).ap,.int .u32 (dM x).bits,.bool (dM x).ng,.bool (dM x).xn]) (by simp [results,Tryz.results140,go_sem,dM, *]) rfl ⟨rfl,(by (repeat (first|apply below_drew|refine Below.setCell ?_ (by simp) _|refine Below.alloc ?_ (by simp; try omega) _)); exact Below.refl _ _)⟩
end Go.Proofs.YtnjlajjjcmhfgaaGreatDoor
