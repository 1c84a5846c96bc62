import Derived.Test.YtnjlajjjcmhfgaaGreatDoorTA01
namespace Go.Proofs.YtnjlajjjcmhfgaaGreatDoor
open Go.RowKit
set_option linter.unusedVariables false
set_option linter.unusedSimpArgs false
set_option maxRecDepth 100000 in
set_option maxHeartbeats 4000000 in
theorem encodeLeaf_2 (ap bt:Int) (g x:Bool) (w:World) (ht:TD w) (hb:0≤bt∧bt<4294967296) :
    Calls Tryz.prog 184 #[.int .i64 2,.agg #[.int .i64 ap,.int .u32 bt,.bool g,.bool x]] w fun e w'=>e= .returned (.int .u32 (EL 10 15 12 16 17 4 ap bt g x))∧∃o,w'=(w.alloc o).drew:=by
  have tl:=ht.leaf
  have c0:=tl 12 10 rfl
  have c1:=tl 13 15 rfl
  have c2:=tl 14 12 rfl
  have c3:=tl 15 16 rfl
  have c4:=tl 16 17 rfl
  have c5:=tl 17 4 rfl
  clear tl ht
  have HB:Hid (0≤bt∧bt<4294967296):=hb
  clear hb
  have hq:∀b:Bool,(if b=true then (1:Int) else 0)=b2 b:=fun b=>rfl
  have HO:Hid (_=_):=(elA ap bt g x).1
  go_enter Tryz.func184,Tryz.ntmps184
  go_wp2
  go_region_held3 (fun w'=>w'.cell? ⟨8,12,none⟩=some (.int .u8 10)∧w'.cell? ⟨8,13,none⟩=some (.int .u8 15)∧w'.cell? ⟨8,14,none⟩=some (.int .u8 12)∧w'.cell? ⟨8,15,none⟩=some (.int .u8 16)∧w'.cell? ⟨8,16,none⟩=some (.int .u8 17)∧w'.cell? ⟨8,17,none⟩=some (.int .u8 4)∧w'.cell? ⟨w.heap.size,1,none⟩=some (.int .u32 bt)∧w'.cell? ⟨w.heap.size,2,none⟩=some (.bool g)∧w'.cell? ⟨w.heap.size,3,none⟩=some (.bool x)) (first|go_keep)
    ((first
      | (go_at_call 182; refine (place_any _ _ _ _ ?_ (by decide) (by decide) (by decide)).mono ?_; (first|exact HB.out|(have:=HB.out; (try simp only [IntKind.wrap_u32]); omega)); rintro e w' ⟨rfl,rfl⟩)
      | (go_at_call 183; refine (placeFlag_any _ _ _ (by decide)).mono ?_; rintro e w' ⟨rfl,rfl⟩)))
  go_wp2
  go_ret
  refine ⟨?_,_,rfl⟩
  have ho:=HO.out
  (try simp only [IntKind.wrap_u32])
  rw [←ho]
  rfl
end Go.Proofs.YtnjlajjjcmhfgaaGreatDoor
namespace Go.Proofs.YtnjlajjjcmhfgaaGreatDoor
open Go.RowKit
set_option linter.unusedVariables false
set_option linter.unusedSimpArgs false
set_option maxRecDepth 100000 in
set_option maxHeartbeats 4000000 in
theorem encodeLeaf_3 (ap bt:Int) (g x:Bool) (w:World) (ht:TD w) (hb:0≤bt∧bt<4294967296) :
    Calls Tryz.prog 184 #[.int .i64 3,.agg #[.int .i64 ap,.int .u32 bt,.bool g,.bool x]] w fun e w'=>e= .returned (.int .u32 (EL 10 15 12 16 17 4 ap bt g x))∧∃o,w'=(w.alloc o).drew:=by
  have tl:=ht.leaf
  have c0:=tl 18 10 rfl
  have c1:=tl 19 15 rfl
  have c2:=tl 20 12 rfl
  have c3:=tl 21 16 rfl
  have c4:=tl 22 17 rfl
  have c5:=tl 23 4 rfl
  clear tl ht
  have HB:Hid (0≤bt∧bt<4294967296):=hb
  clear hb
  have hq:∀b:Bool,(if b=true then (1:Int) else 0)=b2 b:=fun b=>rfl
  have HO:Hid (_=_):=(elA ap bt g x).1
  go_enter Tryz.func184,Tryz.ntmps184
  go_wp2
  go_region_held3 (fun w'=>w'.cell? ⟨8,18,none⟩=some (.int .u8 10)∧w'.cell? ⟨8,19,none⟩=some (.int .u8 15)∧w'.cell? ⟨8,20,none⟩=some (.int .u8 12)∧w'.cell? ⟨8,21,none⟩=some (.int .u8 16)∧w'.cell? ⟨8,22,none⟩=some (.int .u8 17)∧w'.cell? ⟨8,23,none⟩=some (.int .u8 4)∧w'.cell? ⟨w.heap.size,1,none⟩=some (.int .u32 bt)∧w'.cell? ⟨w.heap.size,2,none⟩=some (.bool g)∧w'.cell? ⟨w.heap.size,3,none⟩=some (.bool x)) (first|go_keep)
    ((first
      | (go_at_call 182; refine (place_any _ _ _ _ ?_ (by decide) (by decide) (by decide)).mono ?_; (first|exact HB.out|(have:=HB.out; (try simp only [IntKind.wrap_u32]); omega)); rintro e w' ⟨rfl,rfl⟩)
      | (go_at_call 183; refine (placeFlag_any _ _ _ (by decide)).mono ?_; rintro e w' ⟨rfl,rfl⟩)))
  go_wp2
  go_ret
  refine ⟨?_,_,rfl⟩
  have ho:=HO.out
  (try simp only [IntKind.wrap_u32])
  rw [←ho]
  rfl
end Go.Proofs.YtnjlajjjcmhfgaaGreatDoor
namespace Go.Proofs.YtnjlajjjcmhfgaaGreatDoor
open Go.RowKit
set_option linter.unusedVariables false
set_option linter.unusedSimpArgs false
set_option maxRecDepth 100000 in
set_option maxHeartbeats 4000000 in
theorem encodeLeaf_4 (ap bt:Int) (g x:Bool) (w:World) (ht:TD w) (hb:0≤bt∧bt<4294967296) :
    Calls Tryz.prog 184 #[.int .i64 4,.agg #[.int .i64 ap,.int .u32 bt,.bool g,.bool x]] w fun e w'=>e= .returned (.int .u32 (EL 4 9 12 10 11 15 ap bt g x))∧∃o,w'=(w.alloc o).drew:=by
  have tl:=ht.leaf
  have c0:=tl 24 4 rfl
  have c1:=tl 25 9 rfl
  have c2:=tl 26 12 rfl
  have c3:=tl 27 10 rfl
  have c4:=tl 28 11 rfl
  have c5:=tl 29 15 rfl
  clear tl ht
  have HB:Hid (0≤bt∧bt<4294967296):=hb
  clear hb
  have hq:∀b:Bool,(if b=true then (1:Int) else 0)=b2 b:=fun b=>rfl
  have HO:Hid (_=_):=(elB ap bt g x).1
  go_enter Tryz.func184,Tryz.ntmps184
  go_wp2
  go_region_held3 (fun w'=>w'.cell? ⟨8,24,none⟩=some (.int .u8 4)∧w'.cell? ⟨8,25,none⟩=some (.int .u8 9)∧w'.cell? ⟨8,26,none⟩=some (.int .u8 12)∧w'.cell? ⟨8,27,none⟩=some (.int .u8 10)∧w'.cell? ⟨8,28,none⟩=some (.int .u8 11)∧w'.cell? ⟨8,29,none⟩=some (.int .u8 15)∧w'.cell? ⟨w.heap.size,1,none⟩=some (.int .u32 bt)∧w'.cell? ⟨w.heap.size,2,none⟩=some (.bool g)∧w'.cell? ⟨w.heap.size,3,none⟩=some (.bool x)) (first|go_keep)
    ((first
      | (go_at_call 182; refine (place_any _ _ _ _ ?_ (by decide) (by decide) (by decide)).mono ?_; (first|exact HB.out|(have:=HB.out; (try simp only [IntKind.wrap_u32]); omega)); rintro e w' ⟨rfl,rfl⟩)
      | (go_at_call 183; refine (placeFlag_any _ _ _ (by decide)).mono ?_; rintro e w' ⟨rfl,rfl⟩)))
  go_wp2
  go_ret
  refine ⟨?_,_,rfl⟩
  have ho:=HO.out
  (try simp only [IntKind.wrap_u32])
  rw [←ho]
  rfl
end Go.Proofs.YtnjlajjjcmhfgaaGreatDoor
namespace Go.Proofs.YtnjlajjjcmhfgaaGreatDoor
open Go.RowKit
set_option linter.unusedVariables false
set_option linter.unusedSimpArgs false
set_option maxRecDepth 100000 in
set_option maxHeartbeats 4000000 in
theorem encodeLeaf_5 (ap bt:Int) (g x:Bool) (w:World) (ht:TD w) (hb:0≤bt∧bt<4294967296) :
    Calls Tryz.prog 184 #[.int .i64 5,.agg #[.int .i64 ap,.int .u32 bt,.bool g,.bool x]] w fun e w'=>e= .returned (.int .u32 (EL 4 9 6 10 11 0 ap bt g x))∧∃o,w'=(w.alloc o).drew:=by
  have tl:=ht.leaf
  have c0:=tl 30 4 rfl
  have c1:=tl 31 9 rfl
  have c2:=tl 32 6 rfl
  have c3:=tl 33 10 rfl
  have c4:=tl 34 11 rfl
  have c5:=tl 35 0 rfl
  clear tl ht
  have HB:Hid (0≤bt∧bt<4294967296):=hb
  clear hb
  have hq:∀b:Bool,(if b=true then (1:Int) else 0)=b2 b:=fun b=>rfl
  have HO:Hid (_=_):=(elC ap bt g x).1
  go_enter Tryz.func184,Tryz.ntmps184
  go_wp2
  go_region_held3 (fun w'=>w'.cell? ⟨8,30,none⟩=some (.int .u8 4)∧w'.cell? ⟨8,31,none⟩=some (.int .u8 9)∧w'.cell? ⟨8,32,none⟩=some (.int .u8 6)∧w'.cell? ⟨8,33,none⟩=some (.int .u8 10)∧w'.cell? ⟨8,34,none⟩=some (.int .u8 11)∧w'.cell? ⟨8,35,none⟩=some (.int .u8 0)∧w'.cell? ⟨w.heap.size,1,none⟩=some (.int .u32 bt)∧w'.cell? ⟨w.heap.size,2,none⟩=some (.bool g)∧w'.cell? ⟨w.heap.size,3,none⟩=some (.bool x)) (first|go_keep)
    ((first
      | (go_at_call 182; refine (place_any _ _ _ _ ?_ (by decide) (by decide) (by decide)).mono ?_; (first|exact HB.out|(have:=HB.out; (try simp only [IntKind.wrap_u32]); omega)); rintro e w' ⟨rfl,rfl⟩)
      | (go_at_call 183; refine (placeFlag_any _ _ _ (by decide)).mono ?_; rintro e w' ⟨rfl,rfl⟩)))
  go_wp2
  go_ret
  refine ⟨?_,_,rfl⟩
  have ho:=HO.out
  (try simp only [IntKind.wrap_u32])
  rw [←ho]
  rfl
end Go.Proofs.YtnjlajjjcmhfgaaGreatDoor
