import Derived.Test.YtnjlajjjcmhfgaaGreatDoorTA00
import Derived.Test.YtnjlajjjcmhfgaaGreatDoorTA03
import Derived.Test.YtnjlajjjcmhfgaaGreatDoorTA04
namespace Go.Proofs.YtnjlajjjcmhfgaaGreatDoor
open Go.RowKit
set_option linter.unusedVariables false
def Bl (w:World) (b:Nat) (t:TypeId) (l:List Value):Prop:=w.heap[b]? =some (.cells l.toArray t (0,0))
theorem Bl.new (w:World) (t:TypeId) (l:List Value):Bl (w.alloc (.cells l.toArray t)) w.heap.size t l:=heap_alloc_new w (.cells l.toArray t)
theorem Bl.lt {w:World} {b:Nat} {t:TypeId} {l:List Value} (h:Bl w b t l):b<w.heap.size:=(Array.getElem?_eq_some_iff.1 h).1
theorem Bl.below {w w':World} {b:Nat} {t:TypeId} {l:List Value} (h:Bl w b t l) (hb:Below w.heap.size w w'):Bl w' b t l:=(hb.block b h.lt).trans h
theorem Bl.drew {w:World} {b:Nat} {t:TypeId} {l:List Value} (h:Bl w b t l):Bl w.drew b t l:=h
theorem Bl.cell {w:World} {b:Nat} {t:TypeId} {l:List Value} (h:Bl w b t l) (j:Nat):w.cell? ⟨b,j,none⟩=l[j]? :=by
  rw [World.cell?,show w.heap[b]? =_ from h]
  simp
theorem Bl.frozen {w:World} {b:Nat} {t:TypeId} {l:List Value} (h:Bl w b t l) (j:Nat):w.frozen? ⟨b,j,none⟩=false:=by
  simp [World.frozen?,show w.heap[b]? =_ from h]
theorem Below.one {w w':World} {o:Obj} (h:Below (w.alloc o).heap.size (w.alloc o) w'):Below w.heap.size w w' :=
  ((Below.refl _ _).alloc (Nat.le_refl _) o).trans (h.mono (by simp))
theorem and3 (x:Int) (h:0≤x∧x<4294967296):bits BinOp.and IntKind.u32 x 3=x%4:=and_low x 2 h (by decide)
set_option maxRecDepth 100000 in
set_option maxHeartbeats 4000000 in
theorem decode_0 (x:Int) (w:World):Calls Tryz.prog 140 #[.int .i64 0,.int .u32 x] w fun e w'=>e= .returned (.agg #[.int .i64 dZ.kind,.int .u64 dZ.base,.int .i64 dZ.dom,.bool dZ.ns,.int .i64 dZ.ap,.int .u32 dZ.bits,.bool dZ.ng,.bool dZ.xn])∧Below w.heap.size w w':=by
  go_enter Tryz.func140,Tryz.ntmps140
  go_wp2
  refine bodyPost_ret (v:= .agg #[.int .i64 dZ.kind,.int .u64 dZ.base,.int .i64 dZ.dom,.bool dZ.ns,.int .i64 dZ.ap,.int .u32 dZ.bits,.bool dZ.ng,.bool dZ.xn]) (by simp [results,Tryz.results140,go_sem,dZ]) rfl ⟨rfl,(by (repeat (first|apply below_drew|refine Below.setCell ?_ (by simp) _|refine Below.alloc ?_ (by simp) _)); exact Below.refl _ _)⟩
set_option maxRecDepth 100000 in
set_option maxHeartbeats 4000000 in
theorem Decode1_0 (x:Int) (w:World) (ht:TD w) (hx:0≤x∧x<4294967296) (h3:bits BinOp.and IntKind.u32 x 3=0):Calls Tryz.prog 100 #[.int .u32 x] w fun e w'=>e= .returned (.agg #[.int .i64 dZ.kind,.int .u64 dZ.base,.int .i64 dZ.dom,.bool dZ.ns,.int .i64 dZ.ap,.int .u32 dZ.bits,.bool dZ.ng,.bool dZ.xn])∧Below w.heap.size w w':=by
  have c0:=ht.first 0 0 rfl
  have l0:5<w.heap.size:=cell_lt c0
  have n0:¬(5=w.heap.size):=by omega
  have hN:=Bl.new w 140 [.int .i64 0,.int .u64 0,.int .i64 0,.bool false,.int .i64 0,.int .u32 0,.bool false,.bool false]
  have HT:Hid (TD w):=ht
  clear ht
  have Hx:Hid (0≤x∧x<4294967296):=hx
  clear hx
  go_enter Tryz.func100,Tryz.ntmps100
  go_wp2_with (first
    | (go_at_call 139; refine (flag_any x _ _ Hx.out (by decide)).mono ?_; rintro e w' ⟨rfl,rfl⟩)
    | (go_at_call 140; refine (decode_0 x _).mono ?_; rintro e w2 ⟨rfl,hb⟩; have hc:=(hN.below hb).cell; have hf:=(hN.below hb).frozen)
    | go_in)
  refine bodyPost_ret (v:= .agg #[.int .i64 dZ.kind,.int .u64 dZ.base,.int .i64 dZ.dom,.bool dZ.ns,.int .i64 dZ.ap,.int .u32 dZ.bits,.bool dZ.ng,.bool dZ.xn]) (by simp [results,Tryz.results100,go_sem,hc]) rfl ⟨rfl,(by (repeat (refine Below.setCell ?_ (by simp) _)); exact Below.one hb)⟩
set_option maxRecDepth 100000 in
set_option maxHeartbeats 4000000 in
theorem Decode1_1 (x:Int) (w:World) (ht:TD w) (hx:0≤x∧x<4294967296) (h3:bits BinOp.and IntKind.u32 x 3=1):Calls Tryz.prog 100 #[.int .u32 x] w fun e w'=>e= .returned (.agg #[.int .i64 (dT x).kind,.int .u64 (dT x).base,.int .i64 (dT x).dom,.bool (dT x).ns,.int .i64 (dT x).ap,.int .u32 (dT x).bits,.bool (dT x).ng,.bool (dT x).xn])∧Below w.heap.size w w':=by
  have c0:=ht.first 1 1 rfl
  have l0:5<w.heap.size:=cell_lt c0
  have n0:¬(5=w.heap.size):=by omega
  have hN:=Bl.new w 140 [.int .i64 0,.int .u64 0,.int .i64 0,.bool false,.int .i64 0,.int .u32 0,.bool false,.bool false]
  have HT:Hid (TD w):=ht
  clear ht
  have Hx:Hid (0≤x∧x<4294967296):=hx
  clear hx
  go_enter Tryz.func100,Tryz.ntmps100
  go_wp2_with (first
    | (go_at_call 139; refine (flag_any x _ _ Hx.out (by decide)).mono ?_; rintro e w' ⟨rfl,rfl⟩)
    | (go_at_call 140; refine (decode_1 x _ (HT.out.below ((Below.refl _ _).alloc (Nat.le_refl _) _)) Hx.out).mono ?_; rintro e w2 ⟨rfl,hb⟩; have hc:=(hN.below hb).cell; have hf:=(hN.below hb).frozen)
    | go_in)
  refine bodyPost_ret (v:= .agg #[.int .i64 (dT x).kind,.int .u64 (dT x).base,.int .i64 (dT x).dom,.bool (dT x).ns,.int .i64 (dT x).ap,.int .u32 (dT x).bits,.bool (dT x).ng,.bool (dT x).xn]) (by simp [results,Tryz.results100,go_sem,hc]) rfl ⟨rfl,(by (repeat (refine Below.setCell ?_ (by simp) _)); exact Below.one hb)⟩
set_option maxRecDepth 100000 in
set_option maxHeartbeats 4000000 in
theorem Decode1_2n (x:Int) (w:World) (ht:TD w) (hx:0≤x∧x<4294967296) (h3:bits BinOp.and IntKind.u32 x 3=2) (h18:(F x 18 1 == 1)=false):Calls Tryz.prog 100 #[.int .u32 x] w fun e w'=>e= .returned (.agg #[.int .i64 (dS x).kind,.int .u64 (dS x).base,.int .i64 (dS x).dom,.bool (dS x).ns,.int .i64 (dS x).ap,.int .u32 (dS x).bits,.bool (dS x).ng,.bool (dS x).xn])∧Below w.heap.size w w':=by
  have c0:=ht.first 2 2 rfl
  have l0:5<w.heap.size:=cell_lt c0
  have n0:¬(5=w.heap.size):=by omega
  have hN:=Bl.new w 140 [.int .i64 0,.int .u64 0,.int .i64 0,.bool false,.int .i64 0,.int .u32 0,.bool false,.bool false]
  have HT:Hid (TD w):=ht
  clear ht
  have Hx:Hid (0≤x∧x<4294967296):=hx
  clear hx
  go_enter Tryz.func100,Tryz.ntmps100
  go_wp2_with (first
    | (go_at_call 139; refine (flag_any x _ _ Hx.out (by decide)).mono ?_; rintro e w' ⟨rfl,rfl⟩)
    | (go_at_call 140; refine (decode_2 x _ (HT.out.below ((Below.refl _ _).alloc (Nat.le_refl _) _)) Hx.out).mono ?_; rintro e w2 ⟨rfl,hb⟩; have hc:=(hN.below hb).cell; have hf:=(hN.below hb).frozen)
    | go_in)
  refine bodyPost_ret (v:= .agg #[.int .i64 (dS x).kind,.int .u64 (dS x).base,.int .i64 (dS x).dom,.bool (dS x).ns,.int .i64 (dS x).ap,.int .u32 (dS x).bits,.bool (dS x).ng,.bool (dS x).xn]) (by simp [results,Tryz.results100,go_sem,hc]) rfl ⟨rfl,(by (repeat (refine Below.setCell ?_ (by simp) _)); exact Below.one hb)⟩
set_option maxRecDepth 100000 in
set_option maxHeartbeats 4000000 in
theorem Decode1_2y (x:Int) (w:World) (ht:TD w) (hx:0≤x∧x<4294967296) (h3:bits BinOp.and IntKind.u32 x 3=2) (h18:(F x 18 1 == 1)=true):Calls Tryz.prog 100 #[.int .u32 x] w fun e w'=>e= .returned (.agg #[.int .i64 (dU x).kind,.int .u64 (dU x).base,.int .i64 (dU x).dom,.bool (dU x).ns,.int .i64 (dU x).ap,.int .u32 (dU x).bits,.bool (dU x).ng,.bool (dU x).xn])∧Below w.heap.size w w':=by
  have c0:=ht.first 2 2 rfl
  have l0:5<w.heap.size:=cell_lt c0
  have n0:¬(5=w.heap.size):=by omega
  have hN:=Bl.new w 140 [.int .i64 0,.int .u64 0,.int .i64 0,.bool false,.int .i64 0,.int .u32 0,.bool false,.bool false]
  have HT:Hid (TD w):=ht
  clear ht
  have Hx:Hid (0≤x∧x<4294967296):=hx
  clear hx
  go_enter Tryz.func100,Tryz.ntmps100
  go_wp2_with (first
    | (go_at_call 139; refine (flag_any x _ _ Hx.out (by decide)).mono ?_; rintro e w' ⟨rfl,rfl⟩)
    | (go_at_call 140; refine (decode_3 x _ (HT.out.below ((Below.refl _ _).alloc (Nat.le_refl _) _)) Hx.out).mono ?_; rintro e w2 ⟨rfl,hb⟩; have hc:=(hN.below hb).cell; have hf:=(hN.below hb).frozen)
    | go_in)
  refine bodyPost_ret (v:= .agg #[.int .i64 (dU x).kind,.int .u64 (dU x).base,.int .i64 (dU x).dom,.bool (dU x).ns,.int .i64 (dU x).ap,.int .u32 (dU x).bits,.bool (dU x).ng,.bool (dU x).xn]) (by simp [results,Tryz.results100,go_sem,hc]) rfl ⟨rfl,(by (repeat (refine Below.setCell ?_ (by simp) _)); exact Below.one hb)⟩
set_option maxRecDepth 100000 in
set_option maxHeartbeats 4000000 in
theorem Decode1_3 (x:Int) (w:World) (ht:TD w) (hx:0≤x∧x<4294967296) (h3:bits BinOp.and IntKind.u32 x 3=3):Calls Tryz.prog 100 #[.int .u32 x] w fun e w'=>e= .returned (.agg #[.int .i64 dZ.kind,.int .u64 dZ.base,.int .i64 dZ.dom,.bool dZ.ns,.int .i64 dZ.ap,.int .u32 dZ.bits,.bool dZ.ng,.bool dZ.xn])∧Below w.heap.size w w':=by
  have c0:=ht.first 3 0 rfl
  have l0:5<w.heap.size:=cell_lt c0
  have n0:¬(5=w.heap.size):=by omega
  have hN:=Bl.new w 140 [.int .i64 0,.int .u64 0,.int .i64 0,.bool false,.int .i64 0,.int .u32 0,.bool false,.bool false]
  have HT:Hid (TD w):=ht
  clear ht
  have Hx:Hid (0≤x∧x<4294967296):=hx
  clear hx
  go_enter Tryz.func100,Tryz.ntmps100
  go_wp2_with (first
    | (go_at_call 139; refine (flag_any x _ _ Hx.out (by decide)).mono ?_; rintro e w' ⟨rfl,rfl⟩)
    | (go_at_call 140; refine (decode_0 x _).mono ?_; rintro e w2 ⟨rfl,hb⟩; have hc:=(hN.below hb).cell; have hf:=(hN.below hb).frozen)
    | go_in)
  refine bodyPost_ret (v:= .agg #[.int .i64 dZ.kind,.int .u64 dZ.base,.int .i64 dZ.dom,.bool dZ.ns,.int .i64 dZ.ap,.int .u32 dZ.bits,.bool dZ.ng,.bool dZ.xn]) (by simp [results,Tryz.results100,go_sem,hc]) rfl ⟨rfl,(by (repeat (refine Below.setCell ?_ (by simp) _)); exact Below.one hb)⟩
set_option maxRecDepth 100000 in
set_option maxHeartbeats 4000000 in
theorem Decode2_0 (x:Int) (w:World) (ht:TD w) (hx:0≤x∧x<4294967296) (h3:bits BinOp.and IntKind.u32 x 3=0):Calls Tryz.prog 101 #[.int .u32 x] w fun e w'=>e= .returned (.agg #[.int .i64 dZ.kind,.int .u64 dZ.base,.int .i64 dZ.dom,.bool dZ.ns,.int .i64 dZ.ap,.int .u32 dZ.bits,.bool dZ.ng,.bool dZ.xn])∧Below w.heap.size w w':=by
  have c0:=ht.second 0 0 rfl
  have l0:6<w.heap.size:=cell_lt c0
  have n0:¬(6=w.heap.size):=by omega
  have hN:=Bl.new w 140 [.int .i64 0,.int .u64 0,.int .i64 0,.bool false,.int .i64 0,.int .u32 0,.bool false,.bool false]
  have HT:Hid (TD w):=ht
  clear ht
  have Hx:Hid (0≤x∧x<4294967296):=hx
  clear hx
  go_enter Tryz.func101,Tryz.ntmps101
  go_wp2_with (first
    | (go_at_call 139; refine (flag_any x _ _ Hx.out (by decide)).mono ?_; rintro e w' ⟨rfl,rfl⟩)
    | (go_at_call 140; refine (decode_0 x _).mono ?_; rintro e w2 ⟨rfl,hb⟩; have hc:=(hN.below hb).cell; have hf:=(hN.below hb).frozen)
    | go_in)
  refine bodyPost_ret (v:= .agg #[.int .i64 dZ.kind,.int .u64 dZ.base,.int .i64 dZ.dom,.bool dZ.ns,.int .i64 dZ.ap,.int .u32 dZ.bits,.bool dZ.ng,.bool dZ.xn]) (by simp [results,Tryz.results101,go_sem,hc]) rfl ⟨rfl,(by (repeat (refine Below.setCell ?_ (by simp) _)); exact Below.one hb)⟩
set_option maxRecDepth 100000 in
set_option maxHeartbeats 4000000 in
theorem Decode2_1 (x:Int) (w:World) (ht:TD w) (hx:0≤x∧x<4294967296) (h3:bits BinOp.and IntKind.u32 x 3=1):Calls Tryz.prog 101 #[.int .u32 x] w fun e w'=>e= .returned (.agg #[.int .i64 (dL x).kind,.int .u64 (dL x).base,.int .i64 (dL x).dom,.bool (dL x).ns,.int .i64 (dL x).ap,.int .u32 (dL x).bits,.bool (dL x).ng,.bool (dL x).xn])∧Below w.heap.size w w':=by
  have c0:=ht.second 1 4 rfl
  have l0:6<w.heap.size:=cell_lt c0
  have n0:¬(6=w.heap.size):=by omega
  have hN:=Bl.new w 140 [.int .i64 0,.int .u64 0,.int .i64 0,.bool false,.int .i64 0,.int .u32 0,.bool false,.bool false]
  have HT:Hid (TD w):=ht
  clear ht
  have Hx:Hid (0≤x∧x<4294967296):=hx
  clear hx
  go_enter Tryz.func101,Tryz.ntmps101
  go_wp2_with (first
    | (go_at_call 139; refine (flag_any x _ _ Hx.out (by decide)).mono ?_; rintro e w' ⟨rfl,rfl⟩)
    | (go_at_call 140; refine (decode_4 x _ (HT.out.below ((Below.refl _ _).alloc (Nat.le_refl _) _)) Hx.out).mono ?_; rintro e w2 ⟨rfl,hb⟩; have hc:=(hN.below hb).cell; have hf:=(hN.below hb).frozen)
    | go_in)
  refine bodyPost_ret (v:= .agg #[.int .i64 (dL x).kind,.int .u64 (dL x).base,.int .i64 (dL x).dom,.bool (dL x).ns,.int .i64 (dL x).ap,.int .u32 (dL x).bits,.bool (dL x).ng,.bool (dL x).xn]) (by simp [results,Tryz.results101,go_sem,hc]) rfl ⟨rfl,(by (repeat (refine Below.setCell ?_ (by simp) _)); exact Below.one hb)⟩
set_option maxRecDepth 100000 in
set_option maxHeartbeats 4000000 in
theorem Decode2_2 (x:Int) (w:World) (ht:TD w) (hx:0≤x∧x<4294967296) (h3:bits BinOp.and IntKind.u32 x 3=2):Calls Tryz.prog 101 #[.int .u32 x] w fun e w'=>e= .returned (.agg #[.int .i64 (dM x).kind,.int .u64 (dM x).base,.int .i64 (dM x).dom,.bool (dM x).ns,.int .i64 (dM x).ap,.int .u32 (dM x).bits,.bool (dM x).ng,.bool (dM x).xn])∧Below w.heap.size w w':=by
  have c0:=ht.second 2 5 rfl
  have l0:6<w.heap.size:=cell_lt c0
  have n0:¬(6=w.heap.size):=by omega
  have hN:=Bl.new w 140 [.int .i64 0,.int .u64 0,.int .i64 0,.bool false,.int .i64 0,.int .u32 0,.bool false,.bool false]
  have HT:Hid (TD w):=ht
  clear ht
  have Hx:Hid (0≤x∧x<4294967296):=hx
  clear hx
  go_enter Tryz.func101,Tryz.ntmps101
  go_wp2_with (first
    | (go_at_call 139; refine (flag_any x _ _ Hx.out (by decide)).mono ?_; rintro e w' ⟨rfl,rfl⟩)
    | (go_at_call 140; refine (decode_5 x _ (HT.out.below ((Below.refl _ _).alloc (Nat.le_refl _) _)) Hx.out).mono ?_; rintro e w2 ⟨rfl,hb⟩; have hc:=(hN.below hb).cell; have hf:=(hN.below hb).frozen)
    | go_in)
  refine bodyPost_ret (v:= .agg #[.int .i64 (dM x).kind,.int .u64 (dM x).base,.int .i64 (dM x).dom,.bool (dM x).ns,.int .i64 (dM x).ap,.int .u32 (dM x).bits,.bool (dM x).ng,.bool (dM x).xn]) (by simp [results,Tryz.results101,go_sem,hc]) rfl ⟨rfl,(by (repeat (refine Below.setCell ?_ (by simp) _)); exact Below.one hb)⟩
set_option maxRecDepth 100000 in
set_option maxHeartbeats 4000000 in
theorem Decode2_3 (x:Int) (w:World) (ht:TD w) (hx:0≤x∧x<4294967296) (h3:bits BinOp.and IntKind.u32 x 3=3):Calls Tryz.prog 101 #[.int .u32 x] w fun e w'=>e= .returned (.agg #[.int .i64 (dM x).kind,.int .u64 (dM x).base,.int .i64 (dM x).dom,.bool (dM x).ns,.int .i64 (dM x).ap,.int .u32 (dM x).bits,.bool (dM x).ng,.bool (dM x).xn])∧Below w.heap.size w w':=by
  have c0:=ht.second 3 5 rfl
  have l0:6<w.heap.size:=cell_lt c0
  have n0:¬(6=w.heap.size):=by omega
  have hN:=Bl.new w 140 [.int .i64 0,.int .u64 0,.int .i64 0,.bool false,.int .i64 0,.int .u32 0,.bool false,.bool false]
  have HT:Hid (TD w):=ht
  clear ht
  have Hx:Hid (0≤x∧x<4294967296):=hx
  clear hx
  go_enter Tryz.func101,Tryz.ntmps101
  go_wp2_with (first
    | (go_at_call 139; refine (flag_any x _ _ Hx.out (by decide)).mono ?_; rintro e w' ⟨rfl,rfl⟩)
    | (go_at_call 140; refine (decode_5 x _ (HT.out.below ((Below.refl _ _).alloc (Nat.le_refl _) _)) Hx.out).mono ?_; rintro e w2 ⟨rfl,hb⟩; have hc:=(hN.below hb).cell; have hf:=(hN.below hb).frozen)
    | go_in)
  refine bodyPost_ret (v:= .agg #[.int .i64 (dM x).kind,.int .u64 (dM x).base,.int .i64 (dM x).dom,.bool (dM x).ns,.int .i64 (dM x).ap,.int .u32 (dM x).bits,.bool (dM x).ng,.bool (dM x).xn]) (by simp [results,Tryz.results101,go_sem,hc]) rfl ⟨rfl,(by (repeat (refine Below.setCell ?_ (by simp) _)); exact Below.one hb)⟩
theorem Decode1_any (x:Int) (w:World) (ht:TD w) (hx:0≤x∧x<4294967296):Calls Tryz.prog 100 #[.int .u32 x] w fun e w'=>e= .returned (.agg #[.int .i64 (D1 x).kind,.int .u64 (D1 x).base,.int .i64 (D1 x).dom,.bool (D1 x).ns,.int .i64 (D1 x).ap,.int .u32 (D1 x).bits,.bool (D1 x).ng,.bool (D1 x).xn])∧Below w.heap.size w w':=by
  have h3:=and3 x hx
  rcases (show x%4=0∨x%4=1∨x%4=2∨x%4=3 by omega) with h|h|h|h
  · rw [show D1 x=dZ by unfold D1; rw [if_neg (by omega),if_neg (by omega)]]
    exact Decode1_0 x w ht hx (by rw [h3,h])
  · rw [show D1 x=dT x by unfold D1; rw [if_pos h]]
    exact Decode1_1 x w ht hx (by rw [h3,h])
  · by_cases h18:F x 18 1=1
    · rw [show D1 x=dU x by unfold D1; rw [if_neg (by omega),if_pos h,if_pos h18]]
      exact Decode1_2y x w ht hx (by rw [h3,h]) (by simp [h18])
    · rw [show D1 x=dS x by unfold D1; rw [if_neg (by omega),if_pos h,if_neg h18]]
      exact Decode1_2n x w ht hx (by rw [h3,h]) (by simp [h18])
  · rw [show D1 x=dZ by unfold D1; rw [if_neg (by omega),if_neg (by omega)]]
    exact Decode1_3 x w ht hx (by rw [h3,h])
theorem Decode2_any (x:Int) (w:World) (ht:TD w) (hx:0≤x∧x<4294967296):Calls Tryz.prog 101 #[.int .u32 x] w fun e w'=>e= .returned (.agg #[.int .i64 (D2 x).kind,.int .u64 (D2 x).base,.int .i64 (D2 x).dom,.bool (D2 x).ns,.int .i64 (D2 x).ap,.int .u32 (D2 x).bits,.bool (D2 x).ng,.bool (D2 x).xn])∧Below w.heap.size w w':=by
  have h3:=and3 x hx
  rcases (show x%4=0∨x%4=1∨x%4=2∨x%4=3 by omega) with h|h|h|h
  · rw [show D2 x=dZ by unfold D2; rw [if_pos h]]
    exact Decode2_0 x w ht hx (by rw [h3,h])
  · rw [show D2 x=dL x by unfold D2; rw [if_neg (by omega),if_pos h]]
    exact Decode2_1 x w ht hx (by rw [h3,h])
  · rw [show D2 x=dM x by unfold D2; rw [if_neg (by omega),if_neg (by omega)]]
    exact Decode2_2 x w ht hx (by rw [h3,h])
  · rw [show D2 x=dM x by unfold D2; rw [if_neg (by omega),if_neg (by omega)]]
    exact Decode2_3 x w ht hx (by rw [h3,h])
end Go.Proofs.YtnjlajjjcmhfgaaGreatDoor
namespace Go.Proofs.YtnjlajjjcmhfgaaGreatDoor
open Go.RowKit
set_option linter.unusedVariables false
set_option linter.unusedSimpArgs false
set_option maxRecDepth 100000 in
set_option maxHeartbeats 4000000 in
theorem encode_lo (k b d ap bt:Int) (s g x:Bool) (w:World) (h:k≤0) :
    Calls Tryz.prog 141 #[.agg #[.int .i64 k,.int .u64 b,.int .i64 d,.bool s,.int .i64 ap,.int .u32 bt,.bool g,.bool x]] w fun e w'=>e= .returned (.int .u32 0)∧Below w.heap.size w w':=by
  have h1:decide (k≤0)=true:=decide_eq_true h
  go_enter Tryz.func141,Tryz.ntmps141
  go_wp2
  go_ret
  exact ⟨rfl,(by (repeat (first|apply below_drew|refine Below.alloc ?_ (by simp) _)); exact Below.refl _ _)⟩
set_option maxRecDepth 100000 in
set_option maxHeartbeats 4000000 in
theorem encode_hi (k b d ap bt:Int) (s g x:Bool) (w:World) (h:6≤k) :
    Calls Tryz.prog 141 #[.agg #[.int .i64 k,.int .u64 b,.int .i64 d,.bool s,.int .i64 ap,.int .u32 bt,.bool g,.bool x]] w fun e w'=>e= .returned (.int .u32 0)∧Below w.heap.size w w':=by
  have h1:decide (k≤0)=false:=decide_eq_false (by omega)
  have h2:decide (6≤k)=true:=decide_eq_true h
  go_enter Tryz.func141,Tryz.ntmps141
  go_wp2
  go_ret
  exact ⟨rfl,(by (repeat (first|apply below_drew|refine Below.alloc ?_ (by simp) _)); exact Below.refl _ _)⟩
theorem encode_any (e:Ent) (w:World) (ht:TE w) (hO:Ok e):Calls Tryz.prog 141 #[.agg #[.int .i64 e.kind,.int .u64 e.base,.int .i64 e.dom,.bool e.ns,.int .i64 e.ap,.int .u32 e.bits,.bool e.ng,.bool e.xn]] w fun r w'=>r= .returned (.int .u32 (E e))∧Below w.heap.size w w':=by
  obtain ⟨hb,hbt⟩:=hO
  obtain ⟨k,b,d,s,ap,bt,g,x⟩:=e
  simp only at hb hbt
  by_cases h0:k≤0
  · rw [E0 _ (by simp only; omega)]
    exact encode_lo k b d ap bt s g x w h0
  by_cases h6:6≤k
  · rw [E0 _ (by simp only; omega)]
    exact encode_hi k b d ap bt s g x w h6
  rcases (show k=1∨k=2∨k=3∨k=4∨k=5 by omega) with rfl|rfl|rfl|rfl|rfl
  · exact encode_1 b d ap bt s g x w ht hb hbt
  · exact encode_2 b d ap bt s g x w ht hb hbt
  · exact encode_3 b d ap bt s g x w ht hb hbt
  · exact encode_4 b d ap bt s g x w ht hb hbt
  · exact encode_5 b d ap bt s g x w ht hb hbt
theorem Below.step {w w1 w2:World} (h1:Below w.heap.size w w1) (h2:Below w1.heap.size w1 w2):Below w.heap.size w w2:=h1.trans (h2.mono h1.size)
end Go.Proofs.YtnjlajjjcmhfgaaGreatDoor
namespace Go.Proofs.YtnjlajjjcmhfgaaGreatDoor
open Go.RowKit
set_option linter.unusedVariables false
set_option linter.unusedSimpArgs false
def byN (s:Int):Int:=if s=1 then 4096 else if s=2 then 65536 else if s=3 then 1048576 else if s=4 then 16777216 else 0
def reN (s:Int):Int:=if s=1 then 1 else if s=2 then 16 else if s=3 then 1 else if s=4 then 16 else 0
set_option maxRecDepth 100000 in
theorem isSize_any (s:Int) (w:World):Calls Tryz.prog 91 #[.int .i64 s] w fun e w'=>e= .returned (.bool (decide (1≤s) && decide (s≤4)))∧w=w':=by
  by_cases h1:1≤s
  · have q:decide (1≤s)=true:=decide_eq_true h1
    go_enter Tryz.func91,Tryz.ntmps91
    go_wp2
    go_ret
    exact ⟨by simp [h1],rfl⟩
  · have q:decide (1≤s)=false:=decide_eq_false h1
    go_enter Tryz.func91,Tryz.ntmps91
    go_wp2
    go_ret
    exact ⟨by simp [h1],rfl⟩
structure TB (w:World):Prop where
  base:Tb .u8 w 1 lBase
  kind:Tb .u8 w 2 lKind
theorem TB.below {w w':World} (h:TB w) (hb:Below w.heap.size w w'):TB w':=⟨h.base.below hb,h.kind.below hb⟩
theorem TR.tb {w:World} (h:TR w):TB w:=⟨h.base,h.kind⟩
set_option maxRecDepth 100000 in
theorem bytes_any (s:Int) (w:World) (ht:TB w):Calls Tryz.prog 53 #[.int .i64 s] w fun e w'=>e= .returned (.int .u64 (byN s))∧w=w':=by
  by_cases h:1≤s∧s≤4
  · have q:(decide (1≤s) && decide (s≤4))=true:=by simp [h]
    rcases (show s=1∨s=2∨s=3∨s=4 by omega) with rfl|rfl|rfl|rfl
    · have c1:=ht.kind 1 5 rfl
      have c2:=ht.base 5 12 rfl
      go_enter Tryz.func53,Tryz.ntmps53
      go_wp2_with (first|(go_at_call 91; refine (isSize_any _ _).mono ?_; rintro e w' ⟨rfl,rfl⟩)|go_in)
      go_ret
      exact ⟨rfl,rfl⟩
    · have c1:=ht.kind 2 4 rfl
      have c2:=ht.base 4 16 rfl
      go_enter Tryz.func53,Tryz.ntmps53
      go_wp2_with (first|(go_at_call 91; refine (isSize_any _ _).mono ?_; rintro e w' ⟨rfl,rfl⟩)|go_in)
      go_ret
      exact ⟨rfl,rfl⟩
    · have c1:=ht.kind 3 2 rfl
      have c2:=ht.base 2 20 rfl
      go_enter Tryz.func53,Tryz.ntmps53
      go_wp2_with (first|(go_at_call 91; refine (isSize_any _ _).mono ?_; rintro e w' ⟨rfl,rfl⟩)|go_in)
      go_ret
      exact ⟨rfl,rfl⟩
    · have c1:=ht.kind 4 3 rfl
      have c2:=ht.base 3 24 rfl
      go_enter Tryz.func53,Tryz.ntmps53
      go_wp2_with (first|(go_at_call 91; refine (isSize_any _ _).mono ?_; rintro e w' ⟨rfl,rfl⟩)|go_in)
      go_ret
      exact ⟨rfl,rfl⟩
  · have q:(decide (1≤s) && decide (s≤4))=false:=by simp; omega
    have hz:byN s=0:=by unfold byN; rw [if_neg (by omega),if_neg (by omega),if_neg (by omega),if_neg (by omega)]
    rw [hz]
    go_enter Tryz.func53,Tryz.ntmps53
    go_wp2_with (first|(go_at_call 91; refine (isSize_any _ _).mono ?_; rintro e w' ⟨rfl,rfl⟩)|go_in)
    go_ret
    exact ⟨rfl,rfl⟩
end Go.Proofs.YtnjlajjjcmhfgaaGreatDoor
namespace Go.Proofs.YtnjlajjjcmhfgaaGreatDoor
open Go.RowKit
set_option linter.unusedVariables false
set_option linter.unusedSimpArgs false
end Go.Proofs.YtnjlajjjcmhfgaaGreatDoor
namespace Go.Proofs.YtnjlajjjcmhfgaaGreatDoor
open Go.RowKit
set_option linter.unusedVariables false
set_option linter.unusedSimpArgs false
structure TZ (w:World):Prop where
  base:Tb .u8 w 1 lBase
  kind:Tb .u8 w 2 lKind
  rep:Tb .u8 w 0 lRep
set_option maxRecDepth 100000 in
theorem repeats_any (s:Int) (w:World) (ht:TZ w):Calls Tryz.prog 52 #[.int .i64 s] w fun e w'=>e= .returned (.int .i64 (reN s))∧w=w':=by
  by_cases h:1≤s∧s≤4
  · have q:(decide (1≤s) && decide (s≤4))=true:=by simp [h]
    rcases (show s=1∨s=2∨s=3∨s=4 by omega) with rfl|rfl|rfl|rfl
    · have c1:=ht.rep 1 1 rfl
      go_enter Tryz.func52,Tryz.ntmps52
      go_wp2_with (first|(go_at_call 91; refine (isSize_any _ _).mono ?_; rintro e w' ⟨rfl,rfl⟩)|go_in)
      go_ret
      exact ⟨rfl,rfl⟩
    · have c1:=ht.rep 2 16 rfl
      go_enter Tryz.func52,Tryz.ntmps52
      go_wp2_with (first|(go_at_call 91; refine (isSize_any _ _).mono ?_; rintro e w' ⟨rfl,rfl⟩)|go_in)
      go_ret
      exact ⟨rfl,rfl⟩
    · have c1:=ht.rep 3 1 rfl
      go_enter Tryz.func52,Tryz.ntmps52
      go_wp2_with (first|(go_at_call 91; refine (isSize_any _ _).mono ?_; rintro e w' ⟨rfl,rfl⟩)|go_in)
      go_ret
      exact ⟨rfl,rfl⟩
    · have c1:=ht.rep 4 16 rfl
      go_enter Tryz.func52,Tryz.ntmps52
      go_wp2_with (first|(go_at_call 91; refine (isSize_any _ _).mono ?_; rintro e w' ⟨rfl,rfl⟩)|go_in)
      go_ret
      exact ⟨rfl,rfl⟩
  · have q:(decide (1≤s) && decide (s≤4))=false:=by simp; omega
    have hz:reN s=0:=by unfold reN; rw [if_neg (by omega),if_neg (by omega),if_neg (by omega),if_neg (by omega)]
    rw [hz]
    go_enter Tryz.func52,Tryz.ntmps52
    go_wp2_with (first|(go_at_call 91; refine (isSize_any _ _).mono ?_; rintro e w' ⟨rfl,rfl⟩)|go_in)
    go_ret
    exact ⟨rfl,rfl⟩
end Go.Proofs.YtnjlajjjcmhfgaaGreatDoor
