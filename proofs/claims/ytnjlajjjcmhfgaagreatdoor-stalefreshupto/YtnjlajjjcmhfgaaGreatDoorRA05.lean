import Derived.Test.YtnjlajjjcmhfgaaGreatDoorRA00
import Derived.Test.YtnjlajjjcmhfgaaGreatDoorRA01
import Derived.Test.YtnjlajjjcmhfgaaGreatDoorRA03
namespace Go.Proofs.YtnjlajjjcmhfgaaGreatDoor
open Go.RowKit
set_option linter.unusedVariables false
def Bl (w:World) (b:Nat) (t:TypeId) (l:List Value):Prop:=w.heap[b]? =some (.cells l.toArray t (0,0))
theorem Bl.new (w:World) (t:TypeId) (l:List Value):Bl (w.alloc (.cells l.toArray t)) w.heap.size t l:=heap_alloc_new w (.cells l.toArray t)
theorem Bl.lt {w:World} {b:Nat} {t:TypeId} {l:List Value} (h:Bl w b t l):b<w.heap.size:=(Array.getElem?_eq_some_iff.1 h).1
theorem Bl.below {w w':World} {b:Nat} {t:TypeId} {l:List Value} (h:Bl w b t l) (hb:Below w.heap.size w w'):Bl w' b t l:=(hb.block b h.lt).trans h
theorem Bl.drew {w:World} {b:Nat} {t:TypeId} {l:List Value} (h:Bl w b t l):Bl w.drew b t l:=h
theorem Bl.cell {w:World} {b:Nat} {t:TypeId} {l:List Value} (h:Bl w b t l) (j:Nat):w.cell? ⟨b,j,none⟩=l[j]? :=by
  rw [World.cell?,show w.heap[b]? =_ from h]
  simp
theorem Bl.frozen {w:World} {b:Nat} {t:TypeId} {l:List Value} (h:Bl w b t l) (j:Nat):w.frozen? ⟨b,j,none⟩=false:=by
  simp [World.frozen?,show w.heap[b]? =_ from h]
theorem Below.one {w w':World} {o:Obj} (h:Below (w.alloc o).heap.size (w.alloc o) w'):Below w.heap.size w w' :=
  ((Below.refl _ _).alloc (Nat.le_refl _) o).trans (h.mono (by simp))
theorem and3 (x:Int) (h:0≤x∧x<4294967296):bits BinOp.and IntKind.u32 x 3=x%4:=and_low x 2 h (by decide)
set_option maxRecDepth 100000 in
set_option maxHeartbeats 4000000 in
theorem decode_0 (x:Int) (w:World):Calls Tryz.prog 140 #[.int .i64 0,.int .u32 x] w fun e w'=>e= .returned (.agg #[.int .i64 dZ.kind,.int .u64 dZ.base,.int .i64 dZ.dom,.bool dZ.ns,.int .i64 dZ.ap,.int .u32 dZ.bits,.bool dZ.ng,.bool dZ.xn])∧Below w.heap.size w w':=by
  go_enter Tryz.func140,Tryz.ntmps140
  go_wp2
  refine bodyPost_ret (v:= .agg #[.int .i64 dZ.kind,.int .u64 dZ.base,.int .i64 dZ.dom,.bool dZ.ns,.int .i64 dZ.ap,.int .u32 dZ.bits,.bool dZ.ng,.bool dZ.xn]) (by simp [results,Tryz.results140,go_sem,dZ]) rfl ⟨rfl,(by (repeat (first|apply below_drew|refine Below.setCell ?_ (by simp) _|refine Below.alloc ?_ (by simp) _)); exact Below.refl _ _)⟩
set_option maxRecDepth 100000 in
set_option maxHeartbeats 4000000 in
theorem Decode1_0 (x:Int) (w:World) (ht:TD w) (hx:0≤x∧x<4294967296) (h3:bits BinOp.and IntKind.u32 x 3=0):Calls Tryz.prog 100 #[.int .u32 x] w fun e w'=>e= .returned (.agg #[.int .i64 dZ.kind,.int .u64 dZ.base,.int .i64 dZ.dom,.bool dZ.ns,.int .i64 dZ.ap,.int .u32 dZ.bits,.bool dZ.ng,.bool dZ.xn])∧Below w.heap.size w w':=by
  have c0:=ht.first 0 0 rfl
  have l0:5<w.heap.size:=cell_lt c0
  have n0:¬(5=w.heap.size):=by omega
  have hN:=Bl.new w 140 [.int .i64 0,.int .u64 0,.int .i64 0,.bool false,.int .i64 0,.int .u32 0,.bool false,.bool false]
  have HT:Hid (TD w):=ht
  clear ht
  have Hx:Hid (0≤x∧x<4294967296):=hx
  clear hx
  go_enter Tryz.func100,Tryz.ntmps100
  go_wp2_with (first
    | (go_at_call 139; refine (flag_any x _ _ Hx.out (by decide)).mono ?_; rintro e w' ⟨rfl,rfl⟩)
    | (go_at_call 140; refine (decode_0 x _).mono ?_; rintro e w2 ⟨rfl,hb⟩; have hc:=(hN.below hb).cell; have hf:=(hN.below hb).frozen)
    | go_in)
  refine bodyPost_ret (v:= .agg #[.int .i64 dZ.kind,.int .u64 dZ.base,.int .i64 dZ.dom,.bool dZ.ns,.int .i64 dZ.ap,.int .u32 dZ.bits,.bool dZ.ng,.bool dZ.xn]) (by simp [results,Tryz.results100,go_sem,hc]) rfl ⟨rfl,(by (repeat (refine Below.setCell ?_ (by simp) _)); exact Below.one hb)⟩
set_option maxRecDepth 100000 in
set_option maxHeartbeats 4000000 in
theorem Decode1_1 (x:Int) (w:World) (ht:TD w) (hx:0≤x∧x<4294967296) (h3:bits BinOp.and IntKind.u32 x 3=1):Calls Tryz.prog 100 #[.int .u32 x] w fun e w'=>e= .returned (.agg #[.int .i64 (dT x).kind,.int .u64 (dT x).base,.int .i64 (dT x).dom,.bool (dT x).ns,.int .i64 (dT x).ap,.int .u32 (dT x).bits,.bool (dT x).ng,.bool (dT x).xn])∧Below w.heap.size w w':=by
  have c0:=ht.first 1 1 rfl
  have l0:5<w.heap.size:=cell_lt c0
  have n0:¬(5=w.heap.size):=by omega
  have hN:=Bl.new w 140 [.int .i64 0,.int .u64 0,.int .i64 0,.bool false,.int .i64 0,.int .u32 0,.bool false,.bool false]
  have HT:Hid (TD w):=ht
  clear ht
  have Hx:Hid (0≤x∧x<4294967296):=hx
  clear hx
  go_enter Tryz.func100,Tryz.ntmps100
  go_wp2_with (first
    | (go_at_call 139; refine (flag_any x _ _ Hx.out (by decide)).mono ?_; rintro e w' ⟨rfl,rfl⟩)
    | (go_at_call 140; refine (decode_1 x _ (HT.out.below ((Below.refl _ _).alloc (Nat.le_refl _) _)) Hx.out).mono ?_; rintro e w2 ⟨rfl,hb⟩; have hc:=(hN.below hb).cell; have hf:=(hN.below hb).frozen)
    | go_in)
  refine bodyPost_ret (v:= .agg #[.int .i64 (dT x).kind,.int .u64 (dT x).base,.int .i64 (dT x).dom,.bool (dT x).ns,.int .i64 (dT x).ap,.int .u32 (dT x).bits,.bool (dT x).ng,.bool (dT x).xn]) (by simp [results,Tryz.results100,go_sem,hc]) rfl ⟨rfl,(by (repeat (refine Below.setCell ?_ (by simp) _)); exact Below.one hb)⟩
set_option maxRecDepth 100000 in
set_option maxHeartbeats 4000000 in
theorem Decode1_2n (x:Int) (w:World) (ht:TD w) (hx:0≤x∧x<4294967296) (h3:bits BinOp.and IntKind.u32 x 3=2) (h18:(F x 18 1 == 1)=false):Calls Tryz.prog 100 #[.int .u32 x] w fun e w'=>e= .returned (.agg #[.int .i64 (dS x).kind,.int .u64 (dS x).base,.int .i64 (dS x).dom,.bool (dS x).ns,.int .i64 (dS x).ap,.int .u32 (dS x).bits,.bool (dS x).ng,.bool (dS x).xn])∧Below w.heap.size w w':=by
  have c0:=ht.first 2 2 rfl
  have l0:5<w.heap.size:=cell_lt c0
  have n0:¬(5=w.heap.size):=by omega
  have hN:=Bl.new w 140 [.int .i64 0,.int .u64 0,.int .i64 0,.bool false,.int .i64 0,.int .u32 0,.bool false,.bool false]
  have HT:Hid (TD w):=ht
  clear ht
  have Hx:Hid (0≤x∧x<4294967296):=hx
  clear hx
  go_enter Tryz.func100,Tryz.ntmps100
  go_wp2_with (first
    | (go_at_call 139; refine (flag_any x _ _ Hx.out (by decide)).mono ?_; rintro e w' ⟨rfl,rfl⟩)
    | (go_at_call 140; refine (decode_2 x _ (HT.out.below ((Below.refl _ _).alloc (Nat.le_refl _) _)) Hx.out).mono ?_; rintro e w2 ⟨rfl,hb⟩; have hc:=(hN.below hb).cell; have hf:=(hN.below hb).frozen)
    | go_in)
  refine bodyPost_ret (v:= .agg #[.int .i64 (dS x).kind,.int .u64 (dS x).base,.int .i64 (dS x).dom,.bool (dS x).ns,.int .i64 (dS x).ap,.int .u32 (dS x).bits,.bool (dS x).ng,.bool (dS x).xn]) (by simp [results,Tryz.results100,go_sem,hc]) rfl ⟨rfl,(by (repeat (refine Below.setCell ?_ (by simp) _)); exact Below.one hb)⟩
set_option maxRecDepth 100000 in
set_option maxHeartbeats 4000000 in
theorem Decode1_2y (x:Int) (w:World) (ht:TD w) (hx:0≤x∧x<4294967296) (h3:bits BinOp.and IntKind.u32 x 3=2) (h18:(F x 18 1 == 1)=true):Calls Tryz.prog 100 #[.int .u32 x] w fun e w'=>e= .returned (.agg #[.int .i64 (dU x).kind,.int .u64 (dU x).base,.int .i64 (dU x).dom,.bool (dU x).ns,.int .i64 (dU x).ap,.int .u32 (dU x).bits,.bool (dU x).ng,.bool (dU x).xn])∧Below w.heap.size w w':=by
  have c0:=ht.first 2 2 rfl
  have l0:5<w.heap.size:=cell_lt c0
  have n0:¬(5=w.heap.size):=by omega
  have hN:=Bl.new w 140 [.int .i64 0,.int .u64 0,.int .i64 0,.bool false,.int .i64 0,.int .u32 0,.bool false,.bool false]
  have HT:Hid (TD w):=ht
  clear ht
  have Hx:Hid (0≤x∧x<4294967296):=hx
  clear hx
  go_enter Tryz.func100,Tryz.ntmps100
  go_wp2_with (first
    | (go_at_call 139; refine (flag_any x _ _ Hx.out (by decide)).mono ?_; rintro e w' ⟨rfl,rfl⟩)
    | (go_at_call 140; refine (decode_3 x _ (HT.out.below ((Below.refl _ _).alloc (Nat.le_refl _) _)) Hx.out).mono ?_; rintro e w2 ⟨rfl,hb⟩; have hc:=(hN.below hb).cell; have hf:=(hN.below hb).frozen)
    | go_in)
  refine bodyPost_ret (v:= .agg #[.int .i64 (dU x).kind,.int .u64 (dU x).base,.int .i64 (dU x).dom,.bool (dU x).ns,.int .i64 (dU x).ap,.int .u32 (dU x).bits,.bool (dU x).ng,.bool (dU x).xn]) (by simp [results,Tryz.results100,go_sem,hc]) rfl ⟨rfl,(by (repeat (refine Below.setCell ?_ (by simp) _)); exact Below.one hb)⟩
set_option maxRecDepth 100000 in
set_option maxHeartbeats 4000000 in
theorem Decode1_3 (x:Int) (w:World) (ht:TD w) (hx:0≤x∧x<4294967296) (h3:bits BinOp.and IntKind.u32 x 3=3):Calls Tryz.prog 100 #[.int .u32 x] w fun e w'=>e= .returned (.agg #[.int .i64 dZ.kind,.int .u64 dZ.base,.int .i64 dZ.dom,.bool dZ.ns,.int .i64 dZ.ap,.int .u32 dZ.bits,.bool dZ.ng,.bool dZ.xn])∧Below w.heap.size w w':=by
  have c0:=ht.first 3 0 rfl
  have l0:5<w.heap.size:=cell_lt c0
  have n0:¬(5=w.heap.size):=by omega
  have hN:=Bl.new w 140 [.int .i64 0,.int .u64 0,.int .i64 0,.bool false,.int .i64 0,.int .u32 0,.bool false,.bool false]
  have HT:Hid (TD w):=ht
  clear ht
  have Hx:Hid (0≤x∧x<4294967296):=hx
  clear hx
  go_enter Tryz.func100,Tryz.ntmps100
  go_wp2_with (first
    | (go_at_call 139; refine (flag_any x _ _ Hx.out (by decide)).mono ?_; rintro e w' ⟨rfl,rfl⟩)
    | (go_at_call 140; refine (decode_0 x _).mono ?_; rintro e w2 ⟨rfl,hb⟩; have hc:=(hN.below hb).cell; have hf:=(hN.below hb).frozen)
    | go_in)
  refine bodyPost_ret (v:= .agg #[.int .i64 dZ.kind,.int .u64 dZ.base,.int .i64 dZ.dom,.bool dZ.ns,.int .i64 dZ.ap,.int .u32 dZ.bits,.bool dZ.ng,.bool dZ.xn]) (by simp [results,Tryz.results100,go_sem,hc]) rfl ⟨rfl,(by (repeat (refine Below.setCell ?_ (by simp) _)); exact Below.one hb)⟩
set_option maxRecDepth 100000 in
set_option maxHeartbeats 4000000 in
theorem Decode2_0 (x:Int) (w:World) (ht:TD w) (hx:0≤x∧x<4294967296) (h3:bits BinOp.and IntKind.u32 x 3=0):Calls Tryz.prog 101 #[.int .u32 x] w fun e w'=>e= .returned (.agg #[.int .i64 dZ.kind,.int .u64 dZ.base,.int .i64 dZ.dom,.bool dZ.ns,.int .i64 dZ.ap,.int .u32 dZ.bits,.bool dZ.ng,.bool dZ.xn])∧Below w.heap.size w w':=by
  have c0:=ht.second 0 0 rfl
  have l0:6<w.heap.size:=cell_lt c0
  have n0:¬(6=w.heap.size):=by omega
  have hN:=Bl.new w 140 [.int .i64 0,.int .u64 0,.int .i64 0,.bool false,.int .i64 0,.int .u32 0,.bool false,.bool false]
  have HT:Hid (TD w):=ht
  clear ht
  have Hx:Hid (0≤x∧x<4294967296):=hx
  clear hx
  go_enter Tryz.func101,Tryz.ntmps101
  go_wp2_with (first
    | (go_at_call 139; refine (flag_any x _ _ Hx.out (by decide)).mono ?_; rintro e w' ⟨rfl,rfl⟩)
    | (go_at_call 140; refine (decode_0 x _).mono ?_; rintro e w2 ⟨rfl,hb⟩; have hc:=(hN.below hb).cell; have hf:=(hN.below hb).frozen)
    | go_in)
  refine bodyPost_ret (v:= .agg #[.int .i64 dZ.kind,.int .u64 dZ.base,.int .i64 dZ.dom,.bool dZ.ns,.int .i64 dZ.ap,.int .u32 dZ.bits,.bool dZ.ng,.bool dZ.xn]) (by simp [results,Tryz.results101,go_sem,hc]) rfl ⟨rfl,(by (repeat (refine Below.setCell ?_ (by simp) _)); exact Below.one hb)⟩
set_option maxRecDepth 100000 in
set_option maxHeartbeats 4000000 in
theorem Decode2_1 (x:Int) (w:World) (ht:TD w) (hx:0≤x∧x<4294967296) (h3:bits BinOp.and IntKind.u32 x 3=1):Calls Tryz.prog 101 #[.int .u32 x] w fun e w'=>e= .returned (.agg #[.int .i64 (dL x).kind,.int .u64 (dL x).base,.int .i64 (dL x).dom,.bool (dL x).ns,.int .i64 (dL x).ap,.int .u32 (dL x).bits,.bool (dL x).ng,.bool (dL x).xn])∧Below w.heap.size w w':=by
  have c0:=ht.second 1 4 rfl
  have l0:6<w.heap.size:=cell_lt c0
  have n0:¬(6=w.heap.size):=by omega
  have hN:=Bl.new w 140 [.int .i64 0,.int .u64 0,.int .i64 0,.bool false,.int .i64 0,.int .u32 0,.bool false,.bool false]
  have HT:Hid (TD w):=ht
  clear ht
  have Hx:Hid (0≤x∧x<4294967296):=hx
  clear hx
  go_enter Tryz.func101,Tryz.ntmps101
  go_wp2_with (first
    | (go_at_call 139; refine (flag_any x _ _ Hx.out (by decide)).mono ?_; rintro e w' ⟨rfl,rfl⟩)
    | (go_at_call 140; refine (decode_4 x _ (HT.out.below ((Below.refl _ _).alloc (Nat.le_refl _) _)) Hx.out).mono ?_; rintro e w2 ⟨rfl,hb⟩; have hc:=(hN.below hb).cell; have hf:=(hN.below hb).frozen)
    | go_in)
  refine bodyPost_ret (v:= .agg #[.int .i64 (dL x).kind,.int .u64 (dL x).base,.int .i64 (dL x).dom,.bool (dL x).ns,.int .i64 (dL x).ap,.int .u32 (dL x).bits,.bool (dL x).ng,.bool (dL x).xn]) (by simp [results,Tryz.results101,go_sem,hc]) rfl ⟨rfl,(by (repeat (refine Below.setCell ?_ (by simp) _)); exact Below.one hb)⟩
set_option maxRecDepth 100000 in
set_option maxHeartbeats 4000000 in
theorem Decode2_2 (x:Int) (w:World) (ht:TD w) (hx:0≤x∧x<4294967296) (h3:bits BinOp.and IntKind.u32 x 3=2):Calls Tryz.prog 101 #[.int .u32 x] w fun e w'=>e= .returned (.agg #[.int .i64 (dM x).kind,.int .u64 (dM x).base,.int .i64 (dM x).dom,.bool (dM x).ns,.int .i64 (dM x).ap,.int .u32 (dM x).bits,.bool (dM x).ng,.bool (dM x).xn])∧Below w.heap.size w w':=by
  have c0:=ht.second 2 5 rfl
  have l0:6<w.heap.size:=cell_lt c0
  have n0:¬(6=w.heap.size):=by omega
  have hN:=Bl.new w 140 [.int .i64 0,.int .u64 0,.int .i64 0,.bool false,.int .i64 0,.int .u32 0,.bool false,.bool false]
  have HT:Hid (TD w):=ht
  clear ht
  have Hx:Hid (0≤x∧x<4294967296):=hx
  clear hx
  go_enter Tryz.func101,Tryz.ntmps101
  go_wp2_with (first
    | (go_at_call 139; refine (flag_any x _ _ Hx.out (by decide)).mono ?_; rintro e w' ⟨rfl,rfl⟩)
    | (go_at_call 140; refine (decode_5 x _ (HT.out.below ((Below.refl _ _).alloc (Nat.le_refl _) _)) Hx.out).mono ?_; rintro e w2 ⟨rfl,hb⟩; have hc:=(hN.below hb).cell; have hf:=(hN.below hb).frozen)
    | go_in)
  refine bodyPost_ret (v:= .agg #[.int .i64 (dM x).kind,.int .u64 (dM x).base,.int .i64 (dM x).dom,.bool (dM x).ns,.int .i64 (dM x).ap,.int .u32 (dM x).bits,.bool (dM x).ng,.bool (dM x).xn]) (by simp [results,Tryz.results101,go_sem,hc]) rfl ⟨rfl,(by (repeat (refine Below.setCell ?_ (by simp) _)); exact Below.one hb)⟩
set_option maxRecDepth 100000 in
set_option maxHeartbeats 4000000 in
theorem Decode2_3 (x:Int) (w:World) (ht:TD w) (hx:0≤x∧x<4294967296) (h3:bits BinOp.and IntKind.u32 x 3=3):Calls Tryz.prog 101 #[.int .u32 x] w fun e w'=>e= .returned (.agg #[.int .i64 (dM x).kind,.int .u64 (dM x).base,.int .i64 (dM x).dom,.bool (dM x).ns,.int .i64 (dM x).ap,.int .u32 (dM x).bits,.bool (dM x).ng,.bool (dM x).xn])∧Below w.heap.size w w':=by
  have c0:=ht.second 3 5 rfl
  have l0:6<w.heap.size:=cell_lt c0
  have n0:¬(6=w.heap.size):=by omega
  have hN:=Bl.new w 140 [.int .i64 0,.int .u64 0,.int .i64 0,.bool false,.int .i64 0,.int .u32 0,.bool false,.bool false]
  have HT:Hid (TD w):=ht
  clear ht
  have Hx:Hid (0≤x∧x<4294967296):=hx
  clear hx
  go_enter Tryz.func101,Tryz.ntmps101
  go_wp2_with (first
    | (go_at_call 139; refine (flag_any x _ _ Hx.out (by decide)).mono ?_; rintro e w' ⟨rfl,rfl⟩)
    | (go_at_call 140; refine (decode_5 x _ (HT.out.below ((Below.refl _ _).alloc (Nat.le_refl _) _)) Hx.out).mono ?_; rintro e w2 ⟨rfl,hb⟩; have hc:=(hN.below hb).cell; have hf:=(hN.below hb).frozen)
    | go_in)
  refine bodyPost_ret (v:= .agg #[.int .i64 (dM x).kind,.int .u64 (dM x).base,.int .i64 (dM x).dom,.bool (dM x).ns,.int .i64 (dM x).ap,.int .u32 (dM x).bits,.bool (dM x).ng,.bool (dM x).xn]) (by simp [results,Tryz.results101,go_sem,hc]) rfl ⟨rfl,(by (repeat (refine Below.setCell ?_ (by simp) _)); exact Below.one hb)⟩
theorem Decode1_any (x:Int) (w:World) (ht:TD w) (hx:0≤x∧x<4294967296):Calls Tryz.prog 100 #[.int .u32 x] w fun e w'=>e= .returned (.agg #[.int .i64 (D1 x).kind,.int .u64 (D1 x).base,.int .i64 (D1 x).dom,.bool (D1 x).ns,.int .i64 (D1 x).ap,.int .u32 (D1 x).bits,.bool (D1 x).ng,.bool (D1 x).xn])∧Below w.heap.size w w':=by
  have h3:=and3 x hx
  rcases (show x%4=0∨x%4=1∨x%4=2∨x%4=3 by omega) with h|h|h|h
  · rw [show D1 x=dZ by unfold D1; rw [if_neg (by omega),if_neg (by omega)]]
    exact Decode1_0 x w ht hx (by rw [h3,h])
  · rw [show D1 x=dT x by unfold D1; rw [if_pos h]]
    exact Decode1_1 x w ht hx (by rw [h3,h])
  · by_cases h18:F x 18 1=1
    · rw [show D1 x=dU x by unfold D1; rw [if_neg (by omega),if_pos h,if_pos h18]]
      exact Decode1_2y x w ht hx (by rw [h3,h]) (by simp [h18])
    · rw [show D1 x=dS x by unfold D1; rw [if_neg (by omega),if_pos h,if_neg h18]]
      exact Decode1_2n x w ht hx (by rw [h3,h]) (by simp [h18])
  · rw [show D1 x=dZ by unfold D1; rw [if_neg (by omega),if_neg (by omega)]]
    exact Decode1_3 x w ht hx (by rw [h3,h])
theorem Decode2_any (x:Int) (w:World) (ht:TD w) (hx:0≤x∧x<4294967296):Calls Tryz.prog 101 #[.int .u32 x] w fun e w'=>e= .returned (.agg #[.int .i64 (D2 x).kind,.int .u64 (D2 x).base,.int .i64 (D2 x).dom,.bool (D2 x).ns,.int .i64 (D2 x).ap,.int .u32 (D2 x).bits,.bool (D2 x).ng,.bool (D2 x).xn])∧Below w.heap.size w w':=by
  have h3:=and3 x hx
  rcases (show x%4=0∨x%4=1∨x%4=2∨x%4=3 by omega) with h|h|h|h
  · rw [show D2 x=dZ by unfold D2; rw [if_pos h]]
    exact Decode2_0 x w ht hx (by rw [h3,h])
  · rw [show D2 x=dL x by unfold D2; rw [if_neg (by omega),if_pos h]]
    exact Decode2_1 x w ht hx (by rw [h3,h])
  · rw [show D2 x=dM x by unfold D2; rw [if_neg (by omega),if_neg (by omega)]]
    exact Decode2_2 x w ht hx (by rw [h3,h])
  · rw [show D2 x=dM x by unfold D2; rw [if_neg (by omega),if_neg (by omega)]]
    exact Decode2_3 x w ht hx (by rw [h3,h])
end Go.Proofs.YtnjlajjjcmhfgaaGreatDoor
namespace Go.Proofs.YtnjlajjjcmhfgaaGreatDoor
open Go.RowKit
set_option linter.unusedVariables false
set_option linter.unusedSimpArgs false
def Ok (e:Ent):Prop:=(0≤e.base∧e.base<18446744073709551616)∧(0≤e.bits∧e.bits<4294967296)
def leafOk (e:Ent):Prop:=0≤e.ap∧e.ap≤7∧e.bits≤63
def Says1 (e:Ent):Prop :=
  (e=dZ)∨(e.kind=1∧(e.base%1024=0∧e.base<4294967296)∧(0≤e.dom∧e.dom≤15)∧(e.ap=0∧e.bits=0∧e.ng=false∧e.xn=false))∨
  (e.kind=2∧(e.base%1048576=0∧e.base<4294967296)∧(0≤e.dom∧e.dom≤15)∧leafOk e)∨
  (e.kind=3∧(e.base%16777216=0∧e.base<1099511627776)∧e.dom=0∧leafOk e)
def Says2 (e:Ent):Prop :=
  (e=dZ)∨(e.kind=4∧(e.base%65536=0∧e.base<4294967296)∧e.dom=0∧e.ns=false∧leafOk e)∨
  (e.kind=5∧(e.base%4096=0∧e.base<4294967296)∧e.dom=0∧e.ns=false∧leafOk e)
theorem bits64 (t:Int):t / 8%8*8+t / 2%4*2+t%2=t%64:=by omega
theorem ap8 (t:Int):t / 4%2*4+t%4=t%8:=by omega
theorem base3 (b W:Int) (hb:0≤b) (h:W / 1048576=b%4294967296 / 16777216*16+b / 4294967296%16):W / 16777216*16777216+((b%4294967296 / 16777216*16+b / 4294967296%16)%16*4294967296+b / 68719476736%16*68719476736)=b%1099511627776 / 16777216*16777216:=by
  have h1:W / 16777216=b%4294967296 / 16777216:=by omega
  have h2:(b%4294967296 / 16777216*16+b / 4294967296%16)%16=b / 4294967296%16:=by omega
  have h3:b / 68719476736=b / 4294967296 / 16:=by omega
  have h4:b%1099511627776 / 16777216=b%4294967296 / 16777216+b / 4294967296%256*256:=by omega
  have h5:b / 4294967296%256=b / 4294967296%16+b / 4294967296 / 16%16*16:=by omega
  rw [h1,h2,h3,h4,h5]
  omega
theorem b2_rng (b:Bool):0≤b2 b∧b2 b≤1:=by cases b <;>simp [b2]
theorem b2_beq (b:Bool):(b2 b == 1)=b:=by cases b <;>rfl
theorem G_10_2 (v:Int):G v 10 2=v%4*1024:=rfl
theorem G_15_1 (v:Int):G v 15 1=v%2*32768:=rfl
theorem G_16_1 (v:Int):G v 16 1=v%2*65536:=rfl
theorem G_2_2 (v:Int):G v 2 2=v%4*4:=rfl
theorem G_12_3 (v:Int):G v 12 3=v%8*4096:=rfl
theorem G_17_1 (v:Int):G v 17 1=v%2*131072:=rfl
theorem G_4_1 (v:Int):G v 4 1=v%2*16:=rfl
theorem G_4_2 (v:Int):G v 4 2=v%4*16:=rfl
theorem G_9_1 (v:Int):G v 9 1=v%2*512:=rfl
theorem G_10_1 (v:Int):G v 10 1=v%2*1024:=rfl
theorem G_11_1 (v:Int):G v 11 1=v%2*2048:=rfl
theorem G_6_3 (v:Int):G v 6 3=v%8*64:=rfl
theorem G_0_1 (v:Int):G v 0 1=v%2*1:=rfl
theorem G_5_4 (v:Int):G v 5 4=v%16*32:=rfl
theorem G_3_1 (v:Int):G v 3 1=v%2*8:=rfl
theorem G_19_1 (v:Int):G v 19 1=v%2*524288:=rfl
theorem G_20_4 (v:Int):G v 20 4=v%16*1048576:=rfl
theorem F_5_4 (x:Int):F x 5 4=x / 32%16:=rfl
theorem F_3_1 (x:Int):F x 3 1=x / 8%2:=rfl
theorem F_19_1 (x:Int):F x 19 1=x / 524288%2:=rfl
theorem F_15_1 (x:Int):F x 15 1=x / 32768%2:=rfl
theorem F_10_2 (x:Int):F x 10 2=x / 1024%4:=rfl
theorem F_12_3 (x:Int):F x 12 3=x / 4096%8:=rfl
theorem F_2_2 (x:Int):F x 2 2=x / 4%4:=rfl
theorem F_16_1 (x:Int):F x 16 1=x / 65536%2:=rfl
theorem F_17_1 (x:Int):F x 17 1=x / 131072%2:=rfl
theorem F_4_1 (x:Int):F x 4 1=x / 16%2:=rfl
theorem F_20_4 (x:Int):F x 20 4=x / 1048576%16:=rfl
theorem F_9_1 (x:Int):F x 9 1=x / 512%2:=rfl
theorem F_4_2 (x:Int):F x 4 2=x / 16%4:=rfl
theorem F_10_1 (x:Int):F x 10 1=x / 1024%2:=rfl
theorem F_11_1 (x:Int):F x 11 1=x / 2048%2:=rfl
theorem F_6_3 (x:Int):F x 6 3=x / 64%8:=rfl
theorem F_0_1 (x:Int):F x 0 1=x / 1%2:=rfl
theorem F_18_1 (x:Int):F x 18 1=x / 262144%2:=rfl
structure WS (W t d s ap0 ap1 s0 cb tx g x b:Int):Prop where
  eq:W=t*262144+2+4*cb+16*x+32*d+1024*ap0+4096*tx+32768*ap1+65536*s0+131072*g+524288*s+1048576*b
  ht:0≤t∧t≤1
  hcb:0≤cb∧cb≤3
  hx:0≤x∧x≤1
  hd:0≤d∧d≤15
  h0:0≤ap0∧ap0≤3
  htx:0≤tx∧tx≤7
  h1:0≤ap1∧ap1≤1
  hs0:0≤s0∧s0≤1
  hg:0≤g∧g≤1
  hs:0≤s∧s≤1
  hb:0≤b∧b≤4095
theorem WS.get {W t d s ap0 ap1 s0 cb tx g x b:Int} (h:WS W t d s ap0 ap1 s0 cb tx g x b) :
    W%4=2∧W / 4%4=cb∧W / 16%2=x∧W / 32%16=d∧W / 1024%4=ap0∧W / 4096%8=tx∧W / 32768%2=ap1∧W / 65536%2=s0∧W / 131072%2=g∧W / 262144%2=t∧W / 524288%2=s∧W / 1048576=b∧0≤W∧W<4294967296:=by
  obtain ⟨eq,ht,hcb,hx,hd,h0,htx,h1,hs0,hg,hs,hb⟩:=h
  refine ⟨?_,?_,?_,?_,?_,?_,?_,?_,?_,?_,?_,?_,?_,?_⟩ <;>omega
structure WT (W d s b:Int):Prop where
  eq:W=1+8*s+32*d+1024*b
  hs:0≤s∧s≤1
  hd:0≤d∧d≤15
  hb:0≤b∧b<4194304
theorem WT.get {W d s b:Int} (h:WT W d s b):W%4=1∧W / 8%2=s∧W / 32%16=d∧W / 1024=b∧0≤W∧W<4294967296:=by
  obtain ⟨eq,hs,hd,hb⟩:=h
  refine ⟨?_,?_,?_,?_,?_,?_⟩ <;>omega
structure WL (W ap0 ap1 s0 cb tx g x b:Int):Prop where
  eq:W=1+4*cb+16*ap0+512*ap1+1024*s0+2048*g+4096*tx+32768*x+65536*b
  hcb:0≤cb∧cb≤3
  h0:0≤ap0∧ap0≤3
  h1:0≤ap1∧ap1≤1
  hs0:0≤s0∧s0≤1
  hg:0≤g∧g≤1
  htx:0≤tx∧tx≤7
  hx:0≤x∧x≤1
  hb:0≤b∧b≤65535
theorem WL.get {W ap0 ap1 s0 cb tx g x b:Int} (h:WL W ap0 ap1 s0 cb tx g x b) :
    W%4=1∧W / 4%4=cb∧W / 16%4=ap0∧W / 512%2=ap1∧W / 1024%2=s0∧W / 2048%2=g∧W / 4096%8=tx∧W / 32768%2=x∧W / 65536=b∧0≤W∧W<4294967296:=by
  obtain ⟨eq,hcb,h0,h1,hs0,hg,htx,hx,hb⟩:=h
  refine ⟨?_,?_,?_,?_,?_,?_,?_,?_,?_,?_,?_⟩ <;>omega
structure WM (W ap0 ap1 s0 cb tx g x b:Int):Prop where
  eq:W=2+x+4*cb+16*ap0+64*tx+512*ap1+1024*s0+2048*g+4096*b
  hcb:0≤cb∧cb≤3
  h0:0≤ap0∧ap0≤3
  h1:0≤ap1∧ap1≤1
  hs0:0≤s0∧s0≤1
  hg:0≤g∧g≤1
  htx:0≤tx∧tx≤7
  hx:0≤x∧x≤1
  hb:0≤b∧b≤1048575
theorem WM.get {W ap0 ap1 s0 cb tx g x b:Int} (h:WM W ap0 ap1 s0 cb tx g x b) :
    (W%4=2∨W%4=3)∧W / 4%4=cb∧W / 16%4=ap0∧W / 512%2=ap1∧W / 1024%2=s0∧W / 2048%2=g∧W / 64%8=tx∧W%2=x∧W / 4096=b∧0≤W∧W<4294967296:=by
  obtain ⟨eq,hcb,h0,h1,hs0,hg,htx,hx,hb⟩:=h
  refine ⟨?_,?_,?_,?_,?_,?_,?_,?_,?_,?_,?_⟩ <;>omega
theorem E1 (e:Ent) (h:e.kind=1) (hO:Ok e):WT (E e) (e.dom%16) (b2 e.ns) (e.base%4294967296 / 1024):=by
  obtain ⟨⟨_,_⟩,⟨_,_⟩⟩:=hO
  have hs:=b2_rng e.ns
  refine ⟨?_,hs,by omega,by omega⟩
  rw [E,if_pos h]
  simp only [eT,G_10_2,G_15_1,G_16_1,G_2_2,G_12_3,G_17_1,G_4_1,G_4_2,G_9_1,G_10_1,G_11_1,G_6_3,G_0_1,G_5_4,G_3_1,G_19_1,G_20_4]
  omega
theorem E2 (e:Ent) (h:e.kind=2) (hO:Ok e):WS (E e) 0 (e.dom%16) (b2 e.ns) (e.ap%4) (e.ap / 4%2) (e.bits%2) (e.bits / 2%4) (e.bits / 8%8) (b2 e.ng) (b2 e.xn) (e.base%4294967296 / 1048576):=by
  obtain ⟨⟨_,_⟩,⟨_,_⟩⟩:=hO
  have hs:=b2_rng e.ns
  have hg:=b2_rng e.ng
  have hx:=b2_rng e.xn
  refine ⟨?_,by omega,by omega,hx,by omega,by omega,by omega,by omega,by omega,hg,hs,by omega⟩
  rw [E,if_neg (by omega),if_pos h]
  simp only [eS,EL,G_10_2,G_15_1,G_16_1,G_2_2,G_12_3,G_17_1,G_4_1,G_4_2,G_9_1,G_10_1,G_11_1,G_6_3,G_0_1,G_5_4,G_3_1,G_19_1,G_20_4]
  omega
theorem E3 (e:Ent) (h:e.kind=3) (hO:Ok e):WS (E e) 1 (e.base / 68719476736%16) (b2 e.ns) (e.ap%4) (e.ap / 4%2) (e.bits%2) (e.bits / 2%4) (e.bits / 8%8) (b2 e.ng) (b2 e.xn) (e.base%4294967296 / 16777216*16+e.base / 4294967296%16):=by
  obtain ⟨⟨_,_⟩,⟨_,_⟩⟩:=hO
  have hs:=b2_rng e.ns
  have hg:=b2_rng e.ng
  have hx:=b2_rng e.xn
  refine ⟨?_,by omega,by omega,hx,by omega,by omega,by omega,by omega,by omega,hg,hs,by omega⟩
  rw [E,if_neg (by omega),if_neg (by omega),if_pos h]
  simp only [eU,EL,G_10_2,G_15_1,G_16_1,G_2_2,G_12_3,G_17_1,G_4_1,G_4_2,G_9_1,G_10_1,G_11_1,G_6_3,G_0_1,G_5_4,G_3_1,G_19_1,G_20_4]
  omega
theorem E4 (e:Ent) (h:e.kind=4) (hO:Ok e):WL (E e) (e.ap%4) (e.ap / 4%2) (e.bits%2) (e.bits / 2%4) (e.bits / 8%8) (b2 e.ng) (b2 e.xn) (e.base%4294967296 / 65536):=by
  obtain ⟨⟨_,_⟩,⟨_,_⟩⟩:=hO
  have hg:=b2_rng e.ng
  have hx:=b2_rng e.xn
  refine ⟨?_,by omega,by omega,by omega,by omega,hg,by omega,hx,by omega⟩
  rw [E,if_neg (by omega),if_neg (by omega),if_neg (by omega),if_pos h]
  simp only [eL,EL,G_10_2,G_15_1,G_16_1,G_2_2,G_12_3,G_17_1,G_4_1,G_4_2,G_9_1,G_10_1,G_11_1,G_6_3,G_0_1,G_5_4,G_3_1,G_19_1,G_20_4]
  omega
theorem E5 (e:Ent) (h:e.kind=5) (hO:Ok e):WM (E e) (e.ap%4) (e.ap / 4%2) (e.bits%2) (e.bits / 2%4) (e.bits / 8%8) (b2 e.ng) (b2 e.xn) (e.base%4294967296 / 4096):=by
  obtain ⟨⟨_,_⟩,⟨_,_⟩⟩:=hO
  have hg:=b2_rng e.ng
  have hx:=b2_rng e.xn
  refine ⟨?_,by omega,by omega,by omega,by omega,hg,by omega,hx,by omega⟩
  rw [E,if_neg (by omega),if_neg (by omega),if_neg (by omega),if_neg (by omega),if_pos h]
  simp only [eM,EL,G_10_2,G_15_1,G_16_1,G_2_2,G_12_3,G_17_1,G_4_1,G_4_2,G_9_1,G_10_1,G_11_1,G_6_3,G_0_1,G_5_4,G_3_1,G_19_1,G_20_4]
  omega
theorem E0 (e:Ent) (h:¬(1≤e.kind∧e.kind≤5)):E e=0:=by
  rw [E,if_neg (by omega),if_neg (by omega),if_neg (by omega),if_neg (by omega),if_neg (by omega)]
theorem E_rng (e:Ent) (hO:Ok e):0≤E e∧E e<4294967296:=by
  by_cases h1:e.kind=1
  · exact (E1 e h1 hO).get.2.2.2.2
  by_cases h2:e.kind=2
  · have:=(E2 e h2 hO).get
    omega
  by_cases h3:e.kind=3
  · have:=(E3 e h3 hO).get
    omega
  by_cases h4:e.kind=4
  · have:=(E4 e h4 hO).get
    omega
  by_cases h5:e.kind=5
  · have:=(E5 e h5 hO).get
    omega
  rw [E0 e (by omega)]
  omega
theorem DE1 (e:Ent) (h:e.kind=1) (hO:Ok e):D1 (E e)=⟨1,e.base%4294967296 / 1024*1024,e.dom%16,e.ns,0,0,false,false⟩:=by
  obtain ⟨a,b,c,d,f,g⟩:=(E1 e h hO).get
  rw [D1,if_pos a,dT,F_5_4,F_3_1,b,c,d,b2_beq]
theorem DE2 (e:Ent) (h:e.kind=2) (hO:Ok e):D1 (E e)=⟨2,e.base%4294967296 / 1048576*1048576,e.dom%16,e.ns,e.ap%8,e.bits%64,e.ng,e.xn⟩:=by
  obtain ⟨a,b,c,d,f,g,i,j,k,l,m,n,o,p⟩:=(E2 e h hO).get
  rw [D1,if_neg (by omega),if_pos a,if_neg (by rw [F_18_1]; omega),dS,F_5_4,F_19_1,F_15_1,F_10_2,F_12_3,F_2_2,F_16_1,F_17_1,F_4_1,b,c,d,f,g,i,j,k,m,n,b2_beq,b2_beq,b2_beq]
  rw [ap8,bits64]
theorem DE3 (e:Ent) (h:e.kind=3) (hO:Ok e):D1 (E e)=⟨3,e.base%1099511627776 / 16777216*16777216,0,e.ns,e.ap%8,e.bits%64,e.ng,e.xn⟩:=by
  obtain ⟨a,b,c,d,f,g,i,j,k,l,m,n,o,p⟩:=(E3 e h hO).get
  obtain ⟨⟨_,_⟩,⟨_,_⟩⟩:=hO
  rw [D1,if_neg (by omega),if_pos a,if_pos (by rw [F_18_1]; omega),dU,F_5_4,F_19_1,F_15_1,F_10_2,F_12_3,F_2_2,F_16_1,F_17_1,F_4_1,F_20_4,b,c,d,f,g,i,j,k,m,show E e / 1048576%16=(e.base%4294967296 / 16777216*16+e.base / 4294967296%16)%16 by rw [n],b2_beq,b2_beq,b2_beq]
  rw [ap8,bits64,base3 e.base (E e) (by omega) n]
theorem DE4 (e:Ent) (h:e.kind=4) (hO:Ok e):D2 (E e)=⟨4,e.base%4294967296 / 65536*65536,0,false,e.ap%8,e.bits%64,e.ng,e.xn⟩:=by
  obtain ⟨a,b,c,d,f,g,i,j,k,l,m⟩:=(E4 e h hO).get
  rw [D2,if_neg (by omega),if_pos a,dL,F_9_1,F_4_2,F_12_3,F_2_2,F_10_1,F_11_1,F_15_1,b,c,d,f,g,i,j,k,b2_beq,b2_beq]
  rw [ap8,bits64]
theorem DE5 (e:Ent) (h:e.kind=5) (hO:Ok e):D2 (E e)=⟨5,e.base%4294967296 / 4096*4096,0,false,e.ap%8,e.bits%64,e.ng,e.xn⟩:=by
  obtain ⟨a,b,c,d,f,g,i,j,k,l,m⟩:=(E5 e h hO).get
  rw [D2,if_neg (by omega),if_neg (by omega),dM,F_9_1,F_4_2,F_6_3,F_2_2,F_10_1,F_11_1,F_0_1,show E e / 1=E e by omega,b,c,d,f,g,i,j,k,b2_beq,b2_beq]
  rw [ap8,bits64]
theorem D1_kind (x:Int):(D1 x).kind=0∨(D1 x).kind=1∨(D1 x).kind=2∨(D1 x).kind=3:=by
  unfold D1
  split
  · exact .inr (.inl rfl)
  · split
    · split
      · exact .inr (.inr (.inr rfl))
      · exact .inr (.inr (.inl rfl))
    · exact .inl rfl
theorem D2_kind (x:Int):(D2 x).kind=0∨(D2 x).kind=4∨(D2 x).kind=5:=by
  unfold D2
  split
  · exact .inl rfl
  · split
    · exact .inr (.inl rfl)
    · exact .inr (.inr rfl)
theorem D1_0:D1 0=dZ:=by unfold D1; rfl
theorem D2_0:D2 0=dZ:=by unfold D2; rfl
theorem dZ_kind {e:Ent} (h:e=dZ):e.kind=0:=by rw [h]; rfl
theorem says1_iff (e:Ent) (hO:Ok e):D1 (E e)=e↔Says1 e:=by
  have hO':=hO
  obtain ⟨⟨_,_⟩,⟨_,_⟩⟩:=hO
  by_cases h1:e.kind=1
  · rw [DE1 e h1 hO']
    constructor
    · intro h
      refine .inr (.inl ⟨h1,?_⟩)
      have q1:=congrArg Ent.base h
      have q2:=congrArg Ent.dom h
      have q3:=congrArg Ent.ap h
      have q4:=congrArg Ent.bits h
      have q5:=congrArg Ent.ng h
      have q6:=congrArg Ent.xn h
      simp only at q1 q2 q3 q4 q5 q6
      exact ⟨by omega,by omega,q3.symm,q4.symm,q5.symm,q6.symm⟩
    · rintro (h|⟨_,⟨h2,h3⟩,h4,h5,h6,h7,h8⟩|⟨h,_⟩|⟨h,_⟩)
      · have:=dZ_kind h; omega
      · obtain ⟨k,b,d,s,a,t,g,x⟩:=e
        simp only at *
        subst h1 h5 h6 h7 h8
        congr 1 <;>omega
      · omega
      · omega
  by_cases h2:e.kind=2
  · rw [DE2 e h2 hO']
    constructor
    · intro h
      refine .inr (.inr (.inl ⟨h2,?_⟩))
      have q1:=congrArg Ent.base h
      have q2:=congrArg Ent.dom h
      have q3:=congrArg Ent.ap h
      have q4:=congrArg Ent.bits h
      simp only at q1 q2 q3 q4
      exact ⟨by omega,by omega,by unfold leafOk; omega⟩
    · rintro (h|⟨h,_⟩|⟨_,⟨h3,h4⟩,h5,h6,h7,h8⟩|⟨h,_⟩)
      · have:=dZ_kind h; omega
      · omega
      · obtain ⟨k,b,d,s,a,t,g,x⟩:=e
        simp only at *
        subst h2
        congr 1 <;>omega
      · omega
  by_cases h3:e.kind=3
  · rw [DE3 e h3 hO']
    constructor
    · intro h
      refine .inr (.inr (.inr ⟨h3,?_⟩))
      have q1:=congrArg Ent.base h
      have q2:=congrArg Ent.dom h
      have q3:=congrArg Ent.ap h
      have q4:=congrArg Ent.bits h
      simp only at q1 q2 q3 q4
      exact ⟨by omega,by omega,by unfold leafOk; omega⟩
    · rintro (h|⟨h,_⟩|⟨h,_⟩|⟨_,⟨h4,h5⟩,h6,h7,h8,h9⟩)
      · have:=dZ_kind h; omega
      · omega
      · omega
      · obtain ⟨k,b,d,s,a,t,g,x⟩:=e
        simp only at *
        subst h3 h6
        congr 1 <;>omega
  have hn:Says1 e→e=dZ:=by
    rintro (h|⟨h,_⟩|⟨h,_⟩|⟨h,_⟩)
    · exact h
    all_goals omega
  by_cases h4:e.kind=4∨e.kind=5
  · constructor
    · intro h
      have q:=D1_kind (E e)
      rw [h] at q
      omega
    · intro h
      have:=dZ_kind (hn h)
      omega
  rw [E0 e (by omega),D1_0]
  exact ⟨fun h=> .inl h.symm,fun h=>(hn h).symm⟩
theorem says2_iff (e:Ent) (hO:Ok e):D2 (E e)=e↔Says2 e:=by
  have hO':=hO
  obtain ⟨⟨_,_⟩,⟨_,_⟩⟩:=hO
  by_cases h1:e.kind=4
  · rw [DE4 e h1 hO']
    constructor
    · intro h
      refine .inr (.inl ⟨h1,?_⟩)
      have q1:=congrArg Ent.base h
      have q2:=congrArg Ent.dom h
      have q3:=congrArg Ent.ap h
      have q4:=congrArg Ent.bits h
      have q5:=congrArg Ent.ns h
      simp only at q1 q2 q3 q4 q5
      exact ⟨by omega,by omega,q5.symm,by unfold leafOk; omega⟩
    · rintro (h|⟨_,⟨h3,h4⟩,h5,h6,h7,h8,h9⟩|⟨h,_⟩)
      · have:=dZ_kind h; omega
      · obtain ⟨k,b,d,s,a,t,g,x⟩:=e
        simp only at *
        subst h1 h5 h6
        congr 1 <;>omega
      · omega
  by_cases h2:e.kind=5
  · rw [DE5 e h2 hO']
    constructor
    · intro h
      refine .inr (.inr ⟨h2,?_⟩)
      have q1:=congrArg Ent.base h
      have q2:=congrArg Ent.dom h
      have q3:=congrArg Ent.ap h
      have q4:=congrArg Ent.bits h
      have q5:=congrArg Ent.ns h
      simp only at q1 q2 q3 q4 q5
      exact ⟨by omega,by omega,q5.symm,by unfold leafOk; omega⟩
    · rintro (h|⟨h,_⟩|⟨_,⟨h3,h4⟩,h5,h6,h7,h8,h9⟩)
      · have:=dZ_kind h; omega
      · omega
      · obtain ⟨k,b,d,s,a,t,g,x⟩:=e
        simp only at *
        subst h2 h5 h6
        congr 1 <;>omega
  have hn:Says2 e→e=dZ:=by
    rintro (h|⟨h,_⟩|⟨h,_⟩)
    · exact h
    all_goals omega
  by_cases h4:e.kind=1∨e.kind=2∨e.kind=3
  · constructor
    · intro h
      have q:=D2_kind (E e)
      rw [h] at q
      omega
    · intro h
      have:=dZ_kind (hn h)
      omega
  rw [E0 e (by omega),D2_0]
  exact ⟨fun h=> .inl h.symm,fun h=>(hn h).symm⟩
end Go.Proofs.YtnjlajjjcmhfgaaGreatDoor
namespace Go.Proofs.YtnjlajjjcmhfgaaGreatDoor
open Go.RowKit
set_option linter.unusedVariables false
set_option linter.unusedSimpArgs false
set_option maxRecDepth 100000 in
set_option maxHeartbeats 4000000 in
theorem encode_lo (k b d ap bt:Int) (s g x:Bool) (w:World) (h:k≤0) :
    Calls Tryz.prog 141 #[.agg #[.int .i64 k,.int .u64 b,.int .i64 d,.bool s,.int .i64 ap,.int .u32 bt,.bool g,.bool x]] w fun e w'=>e= .returned (.int .u32 0)∧Below w.heap.size w w':=by
  have h1:decide (k≤0)=true:=decide_eq_true h
  go_enter Tryz.func141,Tryz.ntmps141
  go_wp2
  go_ret
  exact ⟨rfl,(by (repeat (first|apply below_drew|refine Below.alloc ?_ (by simp) _)); exact Below.refl _ _)⟩
set_option maxRecDepth 100000 in
set_option maxHeartbeats 4000000 in
theorem encode_hi (k b d ap bt:Int) (s g x:Bool) (w:World) (h:6≤k) :
    Calls Tryz.prog 141 #[.agg #[.int .i64 k,.int .u64 b,.int .i64 d,.bool s,.int .i64 ap,.int .u32 bt,.bool g,.bool x]] w fun e w'=>e= .returned (.int .u32 0)∧Below w.heap.size w w':=by
  have h1:decide (k≤0)=false:=decide_eq_false (by omega)
  have h2:decide (6≤k)=true:=decide_eq_true h
  go_enter Tryz.func141,Tryz.ntmps141
  go_wp2
  go_ret
  exact ⟨rfl,(by (repeat (first|apply below_drew|refine Below.alloc ?_ (by simp) _)); exact Below.refl _ _)⟩
theorem encode_any (e:Ent) (w:World) (ht:TE w) (hO:Ok e):Calls Tryz.prog 141 #[.agg #[.int .i64 e.kind,.int .u64 e.base,.int .i64 e.dom,.bool e.ns,.int .i64 e.ap,.int .u32 e.bits,.bool e.ng,.bool e.xn]] w fun r w'=>r= .returned (.int .u32 (E e))∧Below w.heap.size w w':=by
  obtain ⟨hb,hbt⟩:=hO
  obtain ⟨k,b,d,s,ap,bt,g,x⟩:=e
  simp only at hb hbt
  by_cases h0:k≤0
  · rw [E0 _ (by simp only; omega)]
    exact encode_lo k b d ap bt s g x w h0
  by_cases h6:6≤k
  · rw [E0 _ (by simp only; omega)]
    exact encode_hi k b d ap bt s g x w h6
  rcases (show k=1∨k=2∨k=3∨k=4∨k=5 by omega) with rfl|rfl|rfl|rfl|rfl
  · exact encode_1 b d ap bt s g x w ht hb hbt
  · exact encode_2 b d ap bt s g x w ht hb hbt
  · exact encode_3 b d ap bt s g x w ht hb hbt
  · exact encode_4 b d ap bt s g x w ht hb hbt
  · exact encode_5 b d ap bt s g x w ht hb hbt
theorem Below.step {w w1 w2:World} (h1:Below w.heap.size w w1) (h2:Below w1.heap.size w1 w2):Below w.heap.size w w2:=h1.trans (h2.mono h1.size)
end Go.Proofs.YtnjlajjjcmhfgaaGreatDoor
namespace Go.Proofs.YtnjlajjjcmhfgaaGreatDoor
open Go.RowKit
set_option linter.unusedVariables false
set_option linter.unusedSimpArgs false
def byN (s:Int):Int:=if s=1 then 4096 else if s=2 then 65536 else if s=3 then 1048576 else if s=4 then 16777216 else 0
def reN (s:Int):Int:=if s=1 then 1 else if s=2 then 16 else if s=3 then 1 else if s=4 then 16 else 0
set_option maxRecDepth 100000 in
theorem isSize_any (s:Int) (w:World):Calls Tryz.prog 91 #[.int .i64 s] w fun e w'=>e= .returned (.bool (decide (1≤s) && decide (s≤4)))∧w=w':=by
  by_cases h1:1≤s
  · have q:decide (1≤s)=true:=decide_eq_true h1
    go_enter Tryz.func91,Tryz.ntmps91
    go_wp2
    go_ret
    exact ⟨by simp [h1],rfl⟩
  · have q:decide (1≤s)=false:=decide_eq_false h1
    go_enter Tryz.func91,Tryz.ntmps91
    go_wp2
    go_ret
    exact ⟨by simp [h1],rfl⟩
structure TB (w:World):Prop where
  base:Tb .u8 w 1 lBase
  kind:Tb .u8 w 2 lKind
theorem TB.below {w w':World} (h:TB w) (hb:Below w.heap.size w w'):TB w':=⟨h.base.below hb,h.kind.below hb⟩
theorem TR.tb {w:World} (h:TR w):TB w:=⟨h.base,h.kind⟩
set_option maxRecDepth 100000 in
theorem bytes_any (s:Int) (w:World) (ht:TB w):Calls Tryz.prog 53 #[.int .i64 s] w fun e w'=>e= .returned (.int .u64 (byN s))∧w=w':=by
  by_cases h:1≤s∧s≤4
  · have q:(decide (1≤s) && decide (s≤4))=true:=by simp [h]
    rcases (show s=1∨s=2∨s=3∨s=4 by omega) with rfl|rfl|rfl|rfl
    · have c1:=ht.kind 1 5 rfl
      have c2:=ht.base 5 12 rfl
      go_enter Tryz.func53,Tryz.ntmps53
      go_wp2_with (first|(go_at_call 91; refine (isSize_any _ _).mono ?_; rintro e w' ⟨rfl,rfl⟩)|go_in)
      go_ret
      exact ⟨rfl,rfl⟩
    · have c1:=ht.kind 2 4 rfl
      have c2:=ht.base 4 16 rfl
      go_enter Tryz.func53,Tryz.ntmps53
      go_wp2_with (first|(go_at_call 91; refine (isSize_any _ _).mono ?_; rintro e w' ⟨rfl,rfl⟩)|go_in)
      go_ret
      exact ⟨rfl,rfl⟩
    · have c1:=ht.kind 3 2 rfl
      have c2:=ht.base 2 20 rfl
      go_enter Tryz.func53,Tryz.ntmps53
      go_wp2_with (first|(go_at_call 91; refine (isSize_any _ _).mono ?_; rintro e w' ⟨rfl,rfl⟩)|go_in)
      go_ret
      exact ⟨rfl,rfl⟩
    · have c1:=ht.kind 4 3 rfl
      have c2:=ht.base 3 24 rfl
      go_enter Tryz.func53,Tryz.ntmps53
      go_wp2_with (first|(go_at_call 91; refine (isSize_any _ _).mono ?_; rintro e w' ⟨rfl,rfl⟩)|go_in)
      go_ret
      exact ⟨rfl,rfl⟩
  · have q:(decide (1≤s) && decide (s≤4))=false:=by simp; omega
    have hz:byN s=0:=by unfold byN; rw [if_neg (by omega),if_neg (by omega),if_neg (by omega),if_neg (by omega)]
    rw [hz]
    go_enter Tryz.func53,Tryz.ntmps53
    go_wp2_with (first|(go_at_call 91; refine (isSize_any _ _).mono ?_; rintro e w' ⟨rfl,rfl⟩)|go_in)
    go_ret
    exact ⟨rfl,rfl⟩
end Go.Proofs.YtnjlajjjcmhfgaaGreatDoor
namespace Go.Proofs.YtnjlajjjcmhfgaaGreatDoor
open Go.RowKit
set_option linter.unusedVariables false
set_option linter.unusedSimpArgs false
end Go.Proofs.YtnjlajjjcmhfgaaGreatDoor
namespace Go.Proofs.YtnjlajjjcmhfgaaGreatDoor
open Go.RowKit
set_option linter.unusedVariables false
set_option linter.unusedSimpArgs false
structure TZ (w:World):Prop where
  base:Tb .u8 w 1 lBase
  kind:Tb .u8 w 2 lKind
  rep:Tb .u8 w 0 lRep
set_option maxRecDepth 100000 in
theorem repeats_any (s:Int) (w:World) (ht:TZ w):Calls Tryz.prog 52 #[.int .i64 s] w fun e w'=>e= .returned (.int .i64 (reN s))∧w=w':=by
  by_cases h:1≤s∧s≤4
  · have q:(decide (1≤s) && decide (s≤4))=true:=by simp [h]
    rcases (show s=1∨s=2∨s=3∨s=4 by omega) with rfl|rfl|rfl|rfl
    · have c1:=ht.rep 1 1 rfl
      go_enter Tryz.func52,Tryz.ntmps52
      go_wp2_with (first|(go_at_call 91; refine (isSize_any _ _).mono ?_; rintro e w' ⟨rfl,rfl⟩)|go_in)
      go_ret
      exact ⟨rfl,rfl⟩
    · have c1:=ht.rep 2 16 rfl
      go_enter Tryz.func52,Tryz.ntmps52
      go_wp2_with (first|(go_at_call 91; refine (isSize_any _ _).mono ?_; rintro e w' ⟨rfl,rfl⟩)|go_in)
      go_ret
      exact ⟨rfl,rfl⟩
    · have c1:=ht.rep 3 1 rfl
      go_enter Tryz.func52,Tryz.ntmps52
      go_wp2_with (first|(go_at_call 91; refine (isSize_any _ _).mono ?_; rintro e w' ⟨rfl,rfl⟩)|go_in)
      go_ret
      exact ⟨rfl,rfl⟩
    · have c1:=ht.rep 4 16 rfl
      go_enter Tryz.func52,Tryz.ntmps52
      go_wp2_with (first|(go_at_call 91; refine (isSize_any _ _).mono ?_; rintro e w' ⟨rfl,rfl⟩)|go_in)
      go_ret
      exact ⟨rfl,rfl⟩
  · have q:(decide (1≤s) && decide (s≤4))=false:=by simp; omega
    have hz:reN s=0:=by unfold reN; rw [if_neg (by omega),if_neg (by omega),if_neg (by omega),if_neg (by omega)]
    rw [hz]
    go_enter Tryz.func52,Tryz.ntmps52
    go_wp2_with (first|(go_at_call 91; refine (isSize_any _ _).mono ?_; rintro e w' ⟨rfl,rfl⟩)|go_in)
    go_ret
    exact ⟨rfl,rfl⟩
end Go.Proofs.YtnjlajjjcmhfgaaGreatDoor
