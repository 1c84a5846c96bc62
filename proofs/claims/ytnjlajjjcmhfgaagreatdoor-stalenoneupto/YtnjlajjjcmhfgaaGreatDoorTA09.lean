import Derived.Test.YtnjlajjjcmhfgaaGreatDoorTA07
namespace Go.Proofs.YtnjlajjjcmhfgaaGreatDoor
open Go.RowKit
set_option linter.unusedVariables false
set_option linter.unusedSimpArgs false
theorem cell_drew (w:World) (a:Addr):w.drew.cell? a=w.cell? a:=rfl
theorem Bl.setCell {w:World} {b:Nat} {t:TypeId} {l:List Value} (h:Bl w b t l) (c o:Nat) (hp:c≠b) (v:Value):Bl (w.setCell ⟨c,o,none⟩ v) b t l:=(Below.heap_setCell w ⟨c,o,none⟩ v b (Ne.symm hp)).trans h
theorem far1 {w:World} {a:Addr} {u:Value} (h:w.cell? a=some u) (c o:Nat) (hc:c≠a.block) (v:Value):(w.setCell ⟨c,o,none⟩ v).cell? a=some u:=(World.cell?_setCell_far w ⟨c,o,none⟩ a v hc).trans h
theorem keep8 {w:World} {b:Nat} {t:TypeId} {l:List Value} (h:Bl w b t l) (c:Nat) (hc:c≠b) (v0 v1 v2 v3 v4 v5 v6 v7:Value):Bl ((((((((w.setCell ⟨c,0,none⟩ v0).setCell ⟨c,1,none⟩ v1).setCell ⟨c,2,none⟩ v2).setCell ⟨c,3,none⟩ v3).setCell ⟨c,4,none⟩ v4).setCell ⟨c,5,none⟩ v5).setCell ⟨c,6,none⟩ v6).setCell ⟨c,7,none⟩ v7).drew b t l:=by
  have h:=Bl.setCell h c 0 hc v0
  have h:=Bl.setCell h c 1 hc v1
  have h:=Bl.setCell h c 2 hc v2
  have h:=Bl.setCell h c 3 hc v3
  have h:=Bl.setCell h c 4 hc v4
  have h:=Bl.setCell h c 5 hc v5
  have h:=Bl.setCell h c 6 hc v6
  have h:=Bl.setCell h c 7 hc v7
  exact Bl.drew h
theorem far8 {w:World} {a:Addr} {u:Value} (h:w.cell? a=some u) (c:Nat) (hc:c≠a.block) (v0 v1 v2 v3 v4 v5 v6 v7:Value):((((((((w.setCell ⟨c,0,none⟩ v0).setCell ⟨c,1,none⟩ v1).setCell ⟨c,2,none⟩ v2).setCell ⟨c,3,none⟩ v3).setCell ⟨c,4,none⟩ v4).setCell ⟨c,5,none⟩ v5).setCell ⟨c,6,none⟩ v6).setCell ⟨c,7,none⟩ v7).drew.cell? a=some u:=by
  have h:=far1 h c 0 hc v0
  have h:=far1 h c 1 hc v1
  have h:=far1 h c 2 hc v2
  have h:=far1 h c 3 hc v3
  have h:=far1 h c 4 hc v4
  have h:=far1 h c 5 hc v5
  have h:=far1 h c 6 hc v6
  have h:=far1 h c 7 hc v7
  rw [cell_drew]
  exact h
set_option maxRecDepth 100000 in
set_option maxHeartbeats 4000000 in
theorem trans_no (k1 k2 k3:Int) (k4:Bool) (k5 k6:Int) (k7 k8:Bool) (dm va:Int) (W:World) (ht:TT W)
    (HS:∀ww,TE ww→Calls Tryz.prog 102 #[.agg #[.int .i64 k1,.int .u64 k2,.int .i64 k3,.bool k4,.int .i64 k5,.int .u32 k6,.bool k7,.bool k8]] ww fun r w'=>r= .returned (.bool false)∧Below ww.heap.size ww w') :
    Calls Tryz.prog 63 #[.agg #[.int .i64 k1,.int .u64 k2,.int .i64 k3,.bool k4,.int .i64 k5,.int .u32 k6,.bool k7,.bool k8],.int .i64 dm,.int .u32 va] W fun r w'=>r= .returned (.agg #[.int .i64 0,.int .u32 0,.int .u64 0,.int .i64 0,.int .i64 0,.int .u32 0,.bool false,.bool false])∧Below W.heap.size W w':=by
  have hN:=(Bl.new W 140 [.int .i64 k1,.int .u64 k2,.int .i64 k3,.bool k4,.int .i64 k5,.int .u32 k6,.bool k7,.bool k8])
  have hsz:(W.alloc (.cells ([.int .i64 k1,.int .u64 k2,.int .i64 k3,.bool k4,.int .i64 k5,.int .u32 k6,.bool k7,.bool k8]).toArray 140)).heap.size=W.heap.size+1:=by simp
  have hM:=Bl.new (W.alloc (.cells ([.int .i64 k1,.int .u64 k2,.int .i64 k3,.bool k4,.int .i64 k5,.int .u32 k6,.bool k7,.bool k8]).toArray 140)) 43 [.int .i64 0,.int .u32 0,.int .u64 0,.int .i64 0,.int .i64 0,.int .u32 0,.bool false,.bool false]
  have hN:=hN.below ((Below.refl _ _).alloc (Nat.le_refl _) (.cells ([.int .i64 0,.int .u32 0,.int .u64 0,.int .i64 0,.int .i64 0,.int .u32 0,.bool false,.bool false]).toArray 43))
  rw [hsz] at hM
  have HT:Hid (TE W):=ht.toTE
  clear ht
  go_enter Tryz.func63,Tryz.ntmps63
  go_wp2_with (first|(go_at_call 102; refine (HS _ (HT.out.below (by (repeat (refine Below.alloc ?_ (by simp) _)); exact Below.refl _ _))).mono ?_; rintro e w1 ⟨rfl,hb⟩; have hx1:=hN.below hb; have hy1:=hM.below hb; have HB:Hid (Below W.heap.size W w1):=Below.step (by (repeat (refine Below.alloc ?_ (by simp) _)); exact Below.refl _ _) hb; clear hb hN hM; have hc:=hx1.cell; have hd:=hy1.cell; have hf:=hy1.frozen)|go_in)
  refine bodyPost_ret (v:= .agg #[.int .i64 0,.int .u32 0,.int .u64 0,.int .i64 0,.int .i64 0,.int .u32 0,.bool false,.bool false]) (by simp [results,Tryz.results63,go_sem,hd]) rfl ⟨rfl,(by (repeat (refine Below.setCell ?_ (by simp) _)); exact HB.out)⟩
set_option maxRecDepth 100000 in
set_option maxHeartbeats 4000000 in
theorem trans_2lo (k2 k3:Int) (k4:Bool) (k5 k6:Int) (k7 k8:Bool) (dm va:Int) (W:World) (ht:TT W) (hd1:decide (k3<0)=true)
    (HS:∀ww,TE ww→Calls Tryz.prog 102 #[.agg #[.int .i64 2,.int .u64 k2,.int .i64 k3,.bool k4,.int .i64 k5,.int .u32 k6,.bool k7,.bool k8]] ww fun r w'=>r= .returned (.bool true)∧Below ww.heap.size ww w') :
    Calls Tryz.prog 63 #[.agg #[.int .i64 2,.int .u64 k2,.int .i64 k3,.bool k4,.int .i64 k5,.int .u32 k6,.bool k7,.bool k8],.int .i64 dm,.int .u32 va] W fun r w'=>r= .returned (.agg #[.int .i64 0,.int .u32 0,.int .u64 0,.int .i64 0,.int .i64 0,.int .u32 0,.bool false,.bool false])∧Below W.heap.size W w':=by
  have hN:=(Bl.new W 140 [.int .i64 2,.int .u64 k2,.int .i64 k3,.bool k4,.int .i64 k5,.int .u32 k6,.bool k7,.bool k8])
  have hsz:(W.alloc (.cells ([.int .i64 2,.int .u64 k2,.int .i64 k3,.bool k4,.int .i64 k5,.int .u32 k6,.bool k7,.bool k8]).toArray 140)).heap.size=W.heap.size+1:=by simp
  have hM:=Bl.new (W.alloc (.cells ([.int .i64 2,.int .u64 k2,.int .i64 k3,.bool k4,.int .i64 k5,.int .u32 k6,.bool k7,.bool k8]).toArray 140)) 43 [.int .i64 0,.int .u32 0,.int .u64 0,.int .i64 0,.int .i64 0,.int .u32 0,.bool false,.bool false]
  have hN:=hN.below ((Below.refl _ _).alloc (Nat.le_refl _) (.cells ([.int .i64 0,.int .u32 0,.int .u64 0,.int .i64 0,.int .i64 0,.int .u32 0,.bool false,.bool false]).toArray 43))
  rw [hsz] at hM
  have HT:Hid (TE W):=ht.toTE
  clear ht
  go_enter Tryz.func63,Tryz.ntmps63
  go_wp2_with (first|(go_at_call 102; refine (HS _ (HT.out.below (by (repeat (refine Below.alloc ?_ (by simp) _)); exact Below.refl _ _))).mono ?_; rintro e w1 ⟨rfl,hb⟩; have hx1:=hN.below hb; have hy1:=hM.below hb; have HB:Hid (Below W.heap.size W w1):=Below.step (by (repeat (refine Below.alloc ?_ (by simp) _)); exact Below.refl _ _) hb; clear hb hN hM; have hc:=hx1.cell; have hd:=hy1.cell; have hf:=hy1.frozen)|go_in)
  refine bodyPost_ret (v:= .agg #[.int .i64 0,.int .u32 0,.int .u64 0,.int .i64 0,.int .i64 0,.int .u32 0,.bool false,.bool false]) (by simp [results,Tryz.results63,go_sem,hd]) rfl ⟨rfl,(by (repeat (refine Below.setCell ?_ (by simp) _)); exact HB.out)⟩
set_option maxRecDepth 100000 in
set_option maxHeartbeats 4000000 in
theorem trans_2hi (k2 k3:Int) (k4:Bool) (k5 k6:Int) (k7 k8:Bool) (dm va:Int) (W:World) (ht:TT W) (hd1:decide (k3<0)=false) (hd2:decide (15<k3)=true)
    (HS:∀ww,TE ww→Calls Tryz.prog 102 #[.agg #[.int .i64 2,.int .u64 k2,.int .i64 k3,.bool k4,.int .i64 k5,.int .u32 k6,.bool k7,.bool k8]] ww fun r w'=>r= .returned (.bool true)∧Below ww.heap.size ww w') :
    Calls Tryz.prog 63 #[.agg #[.int .i64 2,.int .u64 k2,.int .i64 k3,.bool k4,.int .i64 k5,.int .u32 k6,.bool k7,.bool k8],.int .i64 dm,.int .u32 va] W fun r w'=>r= .returned (.agg #[.int .i64 0,.int .u32 0,.int .u64 0,.int .i64 0,.int .i64 0,.int .u32 0,.bool false,.bool false])∧Below W.heap.size W w':=by
  have hN:=(Bl.new W 140 [.int .i64 2,.int .u64 k2,.int .i64 k3,.bool k4,.int .i64 k5,.int .u32 k6,.bool k7,.bool k8])
  have hsz:(W.alloc (.cells ([.int .i64 2,.int .u64 k2,.int .i64 k3,.bool k4,.int .i64 k5,.int .u32 k6,.bool k7,.bool k8]).toArray 140)).heap.size=W.heap.size+1:=by simp
  have hM:=Bl.new (W.alloc (.cells ([.int .i64 2,.int .u64 k2,.int .i64 k3,.bool k4,.int .i64 k5,.int .u32 k6,.bool k7,.bool k8]).toArray 140)) 43 [.int .i64 0,.int .u32 0,.int .u64 0,.int .i64 0,.int .i64 0,.int .u32 0,.bool false,.bool false]
  have hN:=hN.below ((Below.refl _ _).alloc (Nat.le_refl _) (.cells ([.int .i64 0,.int .u32 0,.int .u64 0,.int .i64 0,.int .i64 0,.int .u32 0,.bool false,.bool false]).toArray 43))
  rw [hsz] at hM
  have HT:Hid (TE W):=ht.toTE
  clear ht
  go_enter Tryz.func63,Tryz.ntmps63
  go_wp2_with (first|(go_at_call 102; refine (HS _ (HT.out.below (by (repeat (refine Below.alloc ?_ (by simp) _)); exact Below.refl _ _))).mono ?_; rintro e w1 ⟨rfl,hb⟩; have hx1:=hN.below hb; have hy1:=hM.below hb; have HB:Hid (Below W.heap.size W w1):=Below.step (by (repeat (refine Below.alloc ?_ (by simp) _)); exact Below.refl _ _) hb; clear hb hN hM; have hc:=hx1.cell; have hd:=hy1.cell; have hf:=hy1.frozen)|go_in)
  refine bodyPost_ret (v:= .agg #[.int .i64 0,.int .u32 0,.int .u64 0,.int .i64 0,.int .i64 0,.int .u32 0,.bool false,.bool false]) (by simp [results,Tryz.results63,go_sem,hd]) rfl ⟨rfl,(by (repeat (refine Below.setCell ?_ (by simp) _)); exact HB.out)⟩
set_option maxRecDepth 100000 in
set_option maxHeartbeats 4000000 in
theorem trans_2 (k2 k3:Int) (k4:Bool) (k5 k6:Int) (k7 k8:Bool) (dm va:Int) (W:World) (ht:TT W) (hva:0≤va∧va<4294967296) (hd1:decide (k3<0)=false) (hd2:decide (15<k3)=false)
    (HS:∀ww,TE ww→Calls Tryz.prog 102 #[.agg #[.int .i64 2,.int .u64 k2,.int .i64 k3,.bool k4,.int .i64 k5,.int .u32 k6,.bool k7,.bool k8]] ww fun r w'=>r= .returned (.bool true)∧Below ww.heap.size ww w') :
    Calls Tryz.prog 63 #[.agg #[.int .i64 2,.int .u64 k2,.int .i64 k3,.bool k4,.int .i64 k5,.int .u32 k6,.bool k7,.bool k8],.int .i64 dm,.int .u32 va] W fun r w'=>r= .returned (.agg #[.int .i64 3,.int .u32 (va / 1048576*1048576),.int .u64 k2,.int .i64 k3,.int .i64 k5,.int .u32 k6,.bool k7,.bool k8])∧Below W.heap.size W w':=by
  have hN:=(Bl.new W 140 [.int .i64 2,.int .u64 k2,.int .i64 k3,.bool k4,.int .i64 k5,.int .u32 k6,.bool k7,.bool k8])
  have hsz:(W.alloc (.cells ([.int .i64 2,.int .u64 k2,.int .i64 k3,.bool k4,.int .i64 k5,.int .u32 k6,.bool k7,.bool k8]).toArray 140)).heap.size=W.heap.size+1:=by simp
  have hM:=Bl.new (W.alloc (.cells ([.int .i64 2,.int .u64 k2,.int .i64 k3,.bool k4,.int .i64 k5,.int .u32 k6,.bool k7,.bool k8]).toArray 140)) 43 [.int .i64 0,.int .u32 0,.int .u64 0,.int .i64 0,.int .i64 0,.int .u32 0,.bool false,.bool false]
  have hN:=hN.below ((Below.refl _ _).alloc (Nat.le_refl _) (.cells ([.int .i64 0,.int .u32 0,.int .u64 0,.int .i64 0,.int .i64 0,.int .u32 0,.bool false,.bool false]).toArray 43))
  rw [hsz] at hM
  have HT:Hid (TE W):=ht.toTE
  have hw:va / 1048576*1048576%4294967296=va / 1048576*1048576:=by omega
  clear hva
  have g1:=ht.size 2 3 rfl
  have g2:=ht.base 2 20 rfl
  have l1:3<W.heap.size:=cell_lt g1
  have l2:1<W.heap.size:=cell_lt g2
  have HG:Hid (∀w1,Below W.heap.size W w1→w1.cell? ⟨3,2,none⟩=some (.int .u8 3)∧w1.cell? ⟨1,2,none⟩=some (.int .u8 20)):=fun w1 h=>⟨(h.cell (cell_lt g1)).trans g1,(h.cell (cell_lt g2)).trans g2⟩
  have n1:W.heap.size+1≠3:=by omega
  have n2:W.heap.size+1≠1:=by omega
  have m0:W.heap.size+1≠W.heap.size:=by omega
  clear ht g1 g2 l1 l2
  go_enter Tryz.func63,Tryz.ntmps63
  go_wp2_with (first|(go_at_call 102; refine (HS _ (HT.out.below (by (repeat (refine Below.alloc ?_ (by simp) _)); exact Below.refl _ _))).mono ?_; rintro e w1 ⟨rfl,hb⟩; have hx1:=hN.below hb; have hy1:=hM.below hb; have HB:Hid (Below W.heap.size W w1):=Below.step (by (repeat (refine Below.alloc ?_ (by simp) _)); exact Below.refl _ _) hb; clear hb hN hM; have hc:=hx1.cell; have hd:=hy1.cell; have hf:=hy1.frozen)|go_in)
  have g3:=(HG.out _ HB.out).1
  have g4:=(HG.out _ HB.out).2
  refine wp_region_held_drew (S:=fun w'=>w'.cell? ⟨W.heap.size,0,none⟩=some (.int .i64 2)∧w'.cell? ⟨W.heap.size,1,none⟩=some (.int .u64 k2)∧w'.cell? ⟨W.heap.size,4,none⟩=some (.int .i64 k5)∧w'.cell? ⟨W.heap.size,5,none⟩=some (.int .u32 k6)∧w'.cell? ⟨W.heap.size,6,none⟩=some (.bool k7)∧w'.cell? ⟨W.heap.size,7,none⟩=some (.bool k8)∧w'.cell? ⟨3,2,none⟩=some (.int .u8 3)∧w'.cell? ⟨1,2,none⟩=some (.int .u8 20)) (by kernel_rfl) ⟨hx1.drew.cell 0,hx1.drew.cell 1,hx1.drew.cell 4,hx1.drew.cell 5,hx1.drew.cell 6,hx1.drew.cell 7,g3,g4⟩ (fun hHeld=> ?_)
  refine wpAnyH_take (i:=0) (oi:=⟨some 28,.fieldAddr 140 (.tmp 3) 0,0,_,#[],none⟩) (v:=?_) rfl (by kernel_rfl) (by kernel_rfl) (by kernel_rfl) (fun _ _ _ h=>h) (Or.inl ⟨by rfl,?_⟩) (by assumption) ?_
  rotate_left
  · (intro w hSw; (try dsimp only at hSw); go_simp; try with_reducible rfl)
  simp only [Act.put,List.setIfInBounds_toArray,List.set_cons_zero,List.set_cons_succ]
  refine wpAnyH_take (i:=1) (oi:=⟨some 29,.load 3 (.tmp 28),3,_,#[⟨0,.data⟩],none⟩) (v:=?_) rfl (by kernel_rfl) (by kernel_rfl) (by kernel_rfl) (fun _ _ _ h=>h) (Or.inl ⟨by rfl,?_⟩) (by assumption) ?_
  rotate_left
  · (intro w hSw; (try dsimp only at hSw); go_simp; try with_reducible rfl)
  simp only [Act.put,List.setIfInBounds_toArray,List.set_cons_zero,List.set_cons_succ]
  refine wpAnyH_take (i:=2) (oi:=⟨some 30,.indexAddr 170 (.global 3) (.tmp 29),0,_,#[⟨1,.data⟩],none⟩) (v:=?_) rfl (by kernel_rfl) (by kernel_rfl) (by kernel_rfl) (fun _ _ _ h=>h) (Or.inl ⟨by rfl,?_⟩) (by assumption) ?_
  rotate_left
  · (intro w hSw; (try dsimp only at hSw); go_simp; try with_reducible rfl)
  simp only [Act.put,List.setIfInBounds_toArray,List.set_cons_zero,List.set_cons_succ]
  refine wpAnyH_take (i:=3) (oi:=⟨some 31,.load 5 (.tmp 30),5,_,#[⟨2,.data⟩],none⟩) (v:=?_) rfl (by kernel_rfl) (by kernel_rfl) (by kernel_rfl) (fun _ _ _ h=>h) (Or.inl ⟨by rfl,?_⟩) (by assumption) ?_
  rotate_left
  · (intro w hSw; (try dsimp only at hSw); go_simp; try with_reducible rfl)
  simp only [Act.put,List.setIfInBounds_toArray,List.set_cons_zero,List.set_cons_succ]
  refine wpAnyH_take (i:=4) (oi:=⟨some 32,.convert 5 3 (.tmp 31),3,_,#[⟨3,.data⟩],none⟩) (v:=?_) rfl (by kernel_rfl) (by kernel_rfl) (by kernel_rfl) (fun _ _ _ h=>h) (Or.inl ⟨by rfl,?_⟩) (by assumption) ?_
  rotate_left
  · (intro w hSw; (try dsimp only at hSw); go_simp; try with_reducible rfl)
  simp only [Act.put,List.setIfInBounds_toArray,List.set_cons_zero,List.set_cons_succ]
  refine wpAnyH_take (i:=5) (oi:=⟨some 33,.move (.tmp 2),32,_,#[],none⟩) (v:=?_) rfl (by kernel_rfl) (by kernel_rfl) (by kernel_rfl) (fun _ _ _ h=>h) (Or.inl ⟨by rfl,?_⟩) (by assumption) ?_
  rotate_left
  · (intro w hSw; (try dsimp only at hSw); go_simp; try with_reducible rfl)
  simp only [Act.put,List.setIfInBounds_toArray,List.set_cons_zero,List.set_cons_succ]
  refine wpAnyH_take (i:=6) (oi:=⟨some 34,.fieldAddr 140 (.tmp 3) 0,0,_,#[],none⟩) (v:=?_) rfl (by kernel_rfl) (by kernel_rfl) (by kernel_rfl) (fun _ _ _ h=>h) (Or.inl ⟨by rfl,?_⟩) (by assumption) ?_
  rotate_left
  · (intro w hSw; (try dsimp only at hSw); go_simp; try with_reducible rfl)
  simp only [Act.put,List.setIfInBounds_toArray,List.set_cons_zero,List.set_cons_succ]
  refine wpAnyH_take (i:=7) (oi:=⟨some 35,.load 3 (.tmp 34),3,_,#[⟨6,.data⟩],none⟩) (v:=?_) rfl (by kernel_rfl) (by kernel_rfl) (by kernel_rfl) (fun _ _ _ h=>h) (Or.inl ⟨by rfl,?_⟩) (by assumption) ?_
  rotate_left
  · (intro w hSw; (try dsimp only at hSw); go_simp; try with_reducible rfl)
  simp only [Act.put,List.setIfInBounds_toArray,List.set_cons_zero,List.set_cons_succ]
  refine wpAnyH_take (i:=8) (oi:=⟨some 36,.indexAddr 170 (.global 1) (.tmp 35),0,_,#[⟨7,.data⟩],none⟩) (v:=?_) rfl (by kernel_rfl) (by kernel_rfl) (by kernel_rfl) (fun _ _ _ h=>h) (Or.inl ⟨by rfl,?_⟩) (by assumption) ?_
  rotate_left
  · (intro w hSw; (try dsimp only at hSw); go_simp; try with_reducible rfl)
  simp only [Act.put,List.setIfInBounds_toArray,List.set_cons_zero,List.set_cons_succ]
  refine wpAnyH_take (i:=9) (oi:=⟨some 37,.load 5 (.tmp 36),5,_,#[⟨8,.data⟩],none⟩) (v:=?_) rfl (by kernel_rfl) (by kernel_rfl) (by kernel_rfl) (fun _ _ _ h=>h) (Or.inl ⟨by rfl,?_⟩) (by assumption) ?_
  rotate_left
  · (intro w hSw; (try dsimp only at hSw); go_simp; try with_reducible rfl)
  simp only [Act.put,List.setIfInBounds_toArray,List.set_cons_zero,List.set_cons_succ]
  refine wpAnyH_take (i:=10) (oi:=⟨some 38,.binOp BinOp.shr 32 (.tmp 33) (.tmp 37) 5,32,_,#[⟨5,.data⟩,⟨9,.data⟩],none⟩) (v:=?_) rfl (by kernel_rfl) (by kernel_rfl) (by kernel_rfl) (fun _ _ _ h=>h) (Or.inl ⟨by rfl,?_⟩) (by assumption) ?_
  rotate_left
  · (intro w hSw; (try dsimp only at hSw); go_simp; try with_reducible rfl)
  simp only [Act.put,List.setIfInBounds_toArray,List.set_cons_zero,List.set_cons_succ]
  refine wpAnyH_take (i:=11) (oi:=⟨some 39,.fieldAddr 140 (.tmp 3) 0,0,_,#[],none⟩) (v:=?_) rfl (by kernel_rfl) (by kernel_rfl) (by kernel_rfl) (fun _ _ _ h=>h) (Or.inl ⟨by rfl,?_⟩) (by assumption) ?_
  rotate_left
  · (intro w hSw; (try dsimp only at hSw); go_simp; try with_reducible rfl)
  simp only [Act.put,List.setIfInBounds_toArray,List.set_cons_zero,List.set_cons_succ]
  refine wpAnyH_take (i:=12) (oi:=⟨some 40,.load 3 (.tmp 39),3,_,#[⟨11,.data⟩],none⟩) (v:=?_) rfl (by kernel_rfl) (by kernel_rfl) (by kernel_rfl) (fun _ _ _ h=>h) (Or.inl ⟨by rfl,?_⟩) (by assumption) ?_
  rotate_left
  · (intro w hSw; (try dsimp only at hSw); go_simp; try with_reducible rfl)
  simp only [Act.put,List.setIfInBounds_toArray,List.set_cons_zero,List.set_cons_succ]
  refine wpAnyH_take (i:=13) (oi:=⟨some 41,.indexAddr 170 (.global 1) (.tmp 40),0,_,#[⟨12,.data⟩],none⟩) (v:=?_) rfl (by kernel_rfl) (by kernel_rfl) (by kernel_rfl) (fun _ _ _ h=>h) (Or.inl ⟨by rfl,?_⟩) (by assumption) ?_
  rotate_left
  · (intro w hSw; (try dsimp only at hSw); go_simp; try with_reducible rfl)
  simp only [Act.put,List.setIfInBounds_toArray,List.set_cons_zero,List.set_cons_succ]
  refine wpAnyH_take (i:=14) (oi:=⟨some 42,.load 5 (.tmp 41),5,_,#[⟨13,.data⟩],none⟩) (v:=?_) rfl (by kernel_rfl) (by kernel_rfl) (by kernel_rfl) (fun _ _ _ h=>h) (Or.inl ⟨by rfl,?_⟩) (by assumption) ?_
  rotate_left
  · (intro w hSw; (try dsimp only at hSw); go_simp; try with_reducible rfl)
  simp only [Act.put,List.setIfInBounds_toArray,List.set_cons_zero,List.set_cons_succ]
  refine wpAnyH_take (i:=15) (oi:=⟨some 43,.binOp BinOp.shl 32 (.tmp 38) (.tmp 42) 5,32,_,#[⟨10,.data⟩,⟨14,.data⟩],none⟩) (v:=?_) rfl (by kernel_rfl) (by kernel_rfl) (by kernel_rfl) (fun _ _ _ h=>h) (Or.inl ⟨by rfl,?_⟩) (by assumption) ?_
  rotate_left
  · (intro w hSw; (try dsimp only at hSw); go_simp; try with_reducible rfl)
  simp only [Act.put,List.setIfInBounds_toArray,List.set_cons_zero,List.set_cons_succ]
  refine wpAnyH_take (i:=16) (oi:=⟨some 44,.fieldAddr 140 (.tmp 3) 1,0,_,#[],none⟩) (v:=?_) rfl (by kernel_rfl) (by kernel_rfl) (by kernel_rfl) (fun _ _ _ h=>h) (Or.inl ⟨by rfl,?_⟩) (by assumption) ?_
  rotate_left
  · (intro w hSw; (try dsimp only at hSw); go_simp; try with_reducible rfl)
  simp only [Act.put,List.setIfInBounds_toArray,List.set_cons_zero,List.set_cons_succ]
  refine wpAnyH_take (i:=17) (oi:=⟨some 45,.load 35 (.tmp 44),35,_,#[⟨16,.data⟩],none⟩) (v:=?_) rfl (by kernel_rfl) (by kernel_rfl) (by kernel_rfl) (fun _ _ _ h=>h) (Or.inl ⟨by rfl,?_⟩) (by assumption) ?_
  rotate_left
  · (intro w hSw; (try dsimp only at hSw); go_simp; try with_reducible rfl)
  simp only [Act.put,List.setIfInBounds_toArray,List.set_cons_zero,List.set_cons_succ]
  refine wpAnyH_take (i:=18) (oi:=⟨some 46,.move (.tmp 1),3,_,#[],none⟩) (v:=?_) rfl (by kernel_rfl) (by kernel_rfl) (by kernel_rfl) (fun _ _ _ h=>h) (Or.inl ⟨by rfl,?_⟩) (by assumption) ?_
  rotate_left
  · (intro w hSw; (try dsimp only at hSw); go_simp; try with_reducible rfl)
  simp only [Act.put,List.setIfInBounds_toArray,List.set_cons_zero,List.set_cons_succ]
  refine wpAnyH_take (i:=19) (oi:=⟨some 47,.fieldAddr 140 (.tmp 3) 4,0,_,#[],none⟩) (v:=?_) rfl (by kernel_rfl) (by kernel_rfl) (by kernel_rfl) (fun _ _ _ h=>h) (Or.inl ⟨by rfl,?_⟩) (by assumption) ?_
  rotate_left
  · (intro w hSw; (try dsimp only at hSw); go_simp; try with_reducible rfl)
  simp only [Act.put,List.setIfInBounds_toArray,List.set_cons_zero,List.set_cons_succ]
  refine wpAnyH_take (i:=20) (oi:=⟨some 48,.load 41 (.tmp 47),41,_,#[⟨19,.data⟩],none⟩) (v:=?_) rfl (by kernel_rfl) (by kernel_rfl) (by kernel_rfl) (fun _ _ _ h=>h) (Or.inl ⟨by rfl,?_⟩) (by assumption) ?_
  rotate_left
  · (intro w hSw; (try dsimp only at hSw); go_simp; try with_reducible rfl)
  simp only [Act.put,List.setIfInBounds_toArray,List.set_cons_zero,List.set_cons_succ]
  refine wpAnyH_take (i:=21) (oi:=⟨some 49,.build 43 #[(0,.tmp 32),(1,.tmp 43),(2,.tmp 45),(3,.tmp 46),(4,.tmp 48)],43,_,#[⟨4,.data⟩,⟨15,.data⟩,⟨17,.data⟩,⟨18,.data⟩,⟨20,.data⟩],none⟩) (v:=?_) rfl (by kernel_rfl) (by kernel_rfl) (by kernel_rfl) (fun _ _ _ h=>h) (Or.inl ⟨by rfl,?_⟩) (by assumption) ?_
  rotate_left
  · (intro w hSw; (try dsimp only at hSw); go_simp; try with_reducible rfl)
  simp only [Act.put,List.setIfInBounds_toArray,List.set_cons_zero,List.set_cons_succ]
  refine wpAnyH_ready (rs:=[22]) (by kernel_rfl) (by simp) ?_
  refine AllReadyH.cons (o:=⟨none,.store 43 (.tmp 6) (.tmp 49),0,_,#[⟨21,.data⟩,⟨0,.phase⟩,⟨1,.phase⟩,⟨2,.phase⟩,⟨3,.phase⟩,⟨4,.phase⟩,⟨5,.phase⟩,⟨6,.phase⟩,⟨7,.phase⟩,⟨8,.phase⟩,⟨9,.phase⟩,⟨10,.phase⟩,⟨11,.phase⟩,⟨12,.phase⟩,⟨13,.phase⟩,⟨14,.phase⟩,⟨15,.phase⟩,⟨16,.phase⟩,⟨17,.phase⟩,⟨18,.phase⟩,⟨19,.phase⟩,⟨20,.phase⟩,⟨21,.phase⟩],none⟩) rfl (fun K hK=> ?_) AllReadyH.nil
  go_simp
  skip
  refine hK.out _ _ ?_ (fun hHeld=> ?_)
  · (((try dsimp only); exact ⟨(keep8 hx1 _ m0 _ _ _ _ _ _ _ _).cell 0,(keep8 hx1 _ m0 _ _ _ _ _ _ _ _).cell 1,(keep8 hx1 _ m0 _ _ _ _ _ _ _ _).cell 4,(keep8 hx1 _ m0 _ _ _ _ _ _ _ _).cell 5,(keep8 hx1 _ m0 _ _ _ _ _ _ _ _).cell 6,(keep8 hx1 _ m0 _ _ _ _ _ _ _ _).cell 7,far8 g3 _ n1 _ _ _ _ _ _ _ _,far8 g4 _ n2 _ _ _ _ _ _ _ _⟩))
  clear hK K
  try simp only [Act.put,List.setIfInBounds_toArray,List.set_cons_zero,List.set_cons_succ]
  refine wpAnyH_done (by kernel_rfl) ?_ _
  go_wp2
  refine bodyPost_ret (v:= .agg #[.int .i64 3,.int .u32 (va / 1048576*1048576),.int .u64 k2,.int .i64 k3,.int .i64 k5,.int .u32 k6,.bool k7,.bool k8]) (by simp [results,Tryz.results63,go_sem,hd,hw,IntKind.wrap_u32,IntKind.wrap_i64]) rfl ⟨rfl,(by refine below_drew ?_; (repeat (refine Below.setCell ?_ (by simp) _)); exact HB.out)⟩
set_option maxRecDepth 100000 in
set_option maxHeartbeats 4000000 in
theorem trans_3lo (k2 k3:Int) (k4:Bool) (k5 k6:Int) (k7 k8:Bool) (dm va:Int) (W:World) (ht:TT W) (hd1:decide (k3<0)=true)
    (HS:∀ww,TE ww→Calls Tryz.prog 102 #[.agg #[.int .i64 3,.int .u64 k2,.int .i64 k3,.bool k4,.int .i64 k5,.int .u32 k6,.bool k7,.bool k8]] ww fun r w'=>r= .returned (.bool true)∧Below ww.heap.size ww w') :
    Calls Tryz.prog 63 #[.agg #[.int .i64 3,.int .u64 k2,.int .i64 k3,.bool k4,.int .i64 k5,.int .u32 k6,.bool k7,.bool k8],.int .i64 dm,.int .u32 va] W fun r w'=>r= .returned (.agg #[.int .i64 0,.int .u32 0,.int .u64 0,.int .i64 0,.int .i64 0,.int .u32 0,.bool false,.bool false])∧Below W.heap.size W w':=by
  have hN:=(Bl.new W 140 [.int .i64 3,.int .u64 k2,.int .i64 k3,.bool k4,.int .i64 k5,.int .u32 k6,.bool k7,.bool k8])
  have hsz:(W.alloc (.cells ([.int .i64 3,.int .u64 k2,.int .i64 k3,.bool k4,.int .i64 k5,.int .u32 k6,.bool k7,.bool k8]).toArray 140)).heap.size=W.heap.size+1:=by simp
  have hM:=Bl.new (W.alloc (.cells ([.int .i64 3,.int .u64 k2,.int .i64 k3,.bool k4,.int .i64 k5,.int .u32 k6,.bool k7,.bool k8]).toArray 140)) 43 [.int .i64 0,.int .u32 0,.int .u64 0,.int .i64 0,.int .i64 0,.int .u32 0,.bool false,.bool false]
  have hN:=hN.below ((Below.refl _ _).alloc (Nat.le_refl _) (.cells ([.int .i64 0,.int .u32 0,.int .u64 0,.int .i64 0,.int .i64 0,.int .u32 0,.bool false,.bool false]).toArray 43))
  rw [hsz] at hM
  have HT:Hid (TE W):=ht.toTE
  clear ht
  go_enter Tryz.func63,Tryz.ntmps63
  go_wp2_with (first|(go_at_call 102; refine (HS _ (HT.out.below (by (repeat (refine Below.alloc ?_ (by simp) _)); exact Below.refl _ _))).mono ?_; rintro e w1 ⟨rfl,hb⟩; have hx1:=hN.below hb; have hy1:=hM.below hb; have HB:Hid (Below W.heap.size W w1):=Below.step (by (repeat (refine Below.alloc ?_ (by simp) _)); exact Below.refl _ _) hb; clear hb hN hM; have hc:=hx1.cell; have hd:=hy1.cell; have hf:=hy1.frozen)|go_in)
  refine bodyPost_ret (v:= .agg #[.int .i64 0,.int .u32 0,.int .u64 0,.int .i64 0,.int .i64 0,.int .u32 0,.bool false,.bool false]) (by simp [results,Tryz.results63,go_sem,hd]) rfl ⟨rfl,(by (repeat (refine Below.setCell ?_ (by simp) _)); exact HB.out)⟩
set_option maxRecDepth 100000 in
set_option maxHeartbeats 4000000 in
theorem trans_3hi (k2 k3:Int) (k4:Bool) (k5 k6:Int) (k7 k8:Bool) (dm va:Int) (W:World) (ht:TT W) (hd1:decide (k3<0)=false) (hd2:decide (15<k3)=true)
    (HS:∀ww,TE ww→Calls Tryz.prog 102 #[.agg #[.int .i64 3,.int .u64 k2,.int .i64 k3,.bool k4,.int .i64 k5,.int .u32 k6,.bool k7,.bool k8]] ww fun r w'=>r= .returned (.bool true)∧Below ww.heap.size ww w') :
    Calls Tryz.prog 63 #[.agg #[.int .i64 3,.int .u64 k2,.int .i64 k3,.bool k4,.int .i64 k5,.int .u32 k6,.bool k7,.bool k8],.int .i64 dm,.int .u32 va] W fun r w'=>r= .returned (.agg #[.int .i64 0,.int .u32 0,.int .u64 0,.int .i64 0,.int .i64 0,.int .u32 0,.bool false,.bool false])∧Below W.heap.size W w':=by
  have hN:=(Bl.new W 140 [.int .i64 3,.int .u64 k2,.int .i64 k3,.bool k4,.int .i64 k5,.int .u32 k6,.bool k7,.bool k8])
  have hsz:(W.alloc (.cells ([.int .i64 3,.int .u64 k2,.int .i64 k3,.bool k4,.int .i64 k5,.int .u32 k6,.bool k7,.bool k8]).toArray 140)).heap.size=W.heap.size+1:=by simp
  have hM:=Bl.new (W.alloc (.cells ([.int .i64 3,.int .u64 k2,.int .i64 k3,.bool k4,.int .i64 k5,.int .u32 k6,.bool k7,.bool k8]).toArray 140)) 43 [.int .i64 0,.int .u32 0,.int .u64 0,.int .i64 0,.int .i64 0,.int .u32 0,.bool false,.bool false]
  have hN:=hN.below ((Below.refl _ _).alloc (Nat.le_refl _) (.cells ([.int .i64 0,.int .u32 0,.int .u64 0,.int .i64 0,.int .i64 0,.int .u32 0,.bool false,.bool false]).toArray 43))
  rw [hsz] at hM
  have HT:Hid (TE W):=ht.toTE
  clear ht
  go_enter Tryz.func63,Tryz.ntmps63
  go_wp2_with (first|(go_at_call 102; refine (HS _ (HT.out.below (by (repeat (refine Below.alloc ?_ (by simp) _)); exact Below.refl _ _))).mono ?_; rintro e w1 ⟨rfl,hb⟩; have hx1:=hN.below hb; have hy1:=hM.below hb; have HB:Hid (Below W.heap.size W w1):=Below.step (by (repeat (refine Below.alloc ?_ (by simp) _)); exact Below.refl _ _) hb; clear hb hN hM; have hc:=hx1.cell; have hd:=hy1.cell; have hf:=hy1.frozen)|go_in)
  refine bodyPost_ret (v:= .agg #[.int .i64 0,.int .u32 0,.int .u64 0,.int .i64 0,.int .i64 0,.int .u32 0,.bool false,.bool false]) (by simp [results,Tryz.results63,go_sem,hd]) rfl ⟨rfl,(by (repeat (refine Below.setCell ?_ (by simp) _)); exact HB.out)⟩
set_option maxRecDepth 100000 in
set_option maxHeartbeats 4000000 in
theorem trans_3 (k2 k3:Int) (k4:Bool) (k5 k6:Int) (k7 k8:Bool) (dm va:Int) (W:World) (ht:TT W) (hva:0≤va∧va<4294967296) (hd1:decide (k3<0)=false) (hd2:decide (15<k3)=false)
    (HS:∀ww,TE ww→Calls Tryz.prog 102 #[.agg #[.int .i64 3,.int .u64 k2,.int .i64 k3,.bool k4,.int .i64 k5,.int .u32 k6,.bool k7,.bool k8]] ww fun r w'=>r= .returned (.bool true)∧Below ww.heap.size ww w') :
    Calls Tryz.prog 63 #[.agg #[.int .i64 3,.int .u64 k2,.int .i64 k3,.bool k4,.int .i64 k5,.int .u32 k6,.bool k7,.bool k8],.int .i64 dm,.int .u32 va] W fun r w'=>r= .returned (.agg #[.int .i64 4,.int .u32 (va / 16777216*16777216),.int .u64 k2,.int .i64 k3,.int .i64 k5,.int .u32 k6,.bool k7,.bool k8])∧Below W.heap.size W w':=by
  have hN:=(Bl.new W 140 [.int .i64 3,.int .u64 k2,.int .i64 k3,.bool k4,.int .i64 k5,.int .u32 k6,.bool k7,.bool k8])
  have hsz:(W.alloc (.cells ([.int .i64 3,.int .u64 k2,.int .i64 k3,.bool k4,.int .i64 k5,.int .u32 k6,.bool k7,.bool k8]).toArray 140)).heap.size=W.heap.size+1:=by simp
  have hM:=Bl.new (W.alloc (.cells ([.int .i64 3,.int .u64 k2,.int .i64 k3,.bool k4,.int .i64 k5,.int .u32 k6,.bool k7,.bool k8]).toArray 140)) 43 [.int .i64 0,.int .u32 0,.int .u64 0,.int .i64 0,.int .i64 0,.int .u32 0,.bool false,.bool false]
  have hN:=hN.below ((Below.refl _ _).alloc (Nat.le_refl _) (.cells ([.int .i64 0,.int .u32 0,.int .u64 0,.int .i64 0,.int .i64 0,.int .u32 0,.bool false,.bool false]).toArray 43))
  rw [hsz] at hM
  have HT:Hid (TE W):=ht.toTE
  have hw:va / 16777216*16777216%4294967296=va / 16777216*16777216:=by omega
  clear hva
  have g1:=ht.size 3 4 rfl
  have g2:=ht.base 3 24 rfl
  have l1:3<W.heap.size:=cell_lt g1
  have l2:1<W.heap.size:=cell_lt g2
  have HG:Hid (∀w1,Below W.heap.size W w1→w1.cell? ⟨3,3,none⟩=some (.int .u8 4)∧w1.cell? ⟨1,3,none⟩=some (.int .u8 24)):=fun w1 h=>⟨(h.cell (cell_lt g1)).trans g1,(h.cell (cell_lt g2)).trans g2⟩
  have n1:W.heap.size+1≠3:=by omega
  have n2:W.heap.size+1≠1:=by omega
  have m0:W.heap.size+1≠W.heap.size:=by omega
  clear ht g1 g2 l1 l2
  go_enter Tryz.func63,Tryz.ntmps63
  go_wp2_with (first|(go_at_call 102; refine (HS _ (HT.out.below (by (repeat (refine Below.alloc ?_ (by simp) _)); exact Below.refl _ _))).mono ?_; rintro e w1 ⟨rfl,hb⟩; have hx1:=hN.below hb; have hy1:=hM.below hb; have HB:Hid (Below W.heap.size W w1):=Below.step (by (repeat (refine Below.alloc ?_ (by simp) _)); exact Below.refl _ _) hb; clear hb hN hM; have hc:=hx1.cell; have hd:=hy1.cell; have hf:=hy1.frozen)|go_in)
  have g3:=(HG.out _ HB.out).1
  have g4:=(HG.out _ HB.out).2
  refine wp_region_held_drew (S:=fun w'=>w'.cell? ⟨W.heap.size,0,none⟩=some (.int .i64 3)∧w'.cell? ⟨W.heap.size,1,none⟩=some (.int .u64 k2)∧w'.cell? ⟨W.heap.size,4,none⟩=some (.int .i64 k5)∧w'.cell? ⟨W.heap.size,5,none⟩=some (.int .u32 k6)∧w'.cell? ⟨W.heap.size,6,none⟩=some (.bool k7)∧w'.cell? ⟨W.heap.size,7,none⟩=some (.bool k8)∧w'.cell? ⟨3,3,none⟩=some (.int .u8 4)∧w'.cell? ⟨1,3,none⟩=some (.int .u8 24)) (by kernel_rfl) ⟨hx1.drew.cell 0,hx1.drew.cell 1,hx1.drew.cell 4,hx1.drew.cell 5,hx1.drew.cell 6,hx1.drew.cell 7,g3,g4⟩ (fun hHeld=> ?_)
  refine wpAnyH_take (i:=0) (oi:=⟨some 28,.fieldAddr 140 (.tmp 3) 0,0,_,#[],none⟩) (v:=?_) rfl (by kernel_rfl) (by kernel_rfl) (by kernel_rfl) (fun _ _ _ h=>h) (Or.inl ⟨by rfl,?_⟩) (by assumption) ?_
  rotate_left
  · (intro w hSw; (try dsimp only at hSw); go_simp; try with_reducible rfl)
  simp only [Act.put,List.setIfInBounds_toArray,List.set_cons_zero,List.set_cons_succ]
  refine wpAnyH_take (i:=1) (oi:=⟨some 29,.load 3 (.tmp 28),3,_,#[⟨0,.data⟩],none⟩) (v:=?_) rfl (by kernel_rfl) (by kernel_rfl) (by kernel_rfl) (fun _ _ _ h=>h) (Or.inl ⟨by rfl,?_⟩) (by assumption) ?_
  rotate_left
  · (intro w hSw; (try dsimp only at hSw); go_simp; try with_reducible rfl)
  simp only [Act.put,List.setIfInBounds_toArray,List.set_cons_zero,List.set_cons_succ]
  refine wpAnyH_take (i:=2) (oi:=⟨some 30,.indexAddr 170 (.global 3) (.tmp 29),0,_,#[⟨1,.data⟩],none⟩) (v:=?_) rfl (by kernel_rfl) (by kernel_rfl) (by kernel_rfl) (fun _ _ _ h=>h) (Or.inl ⟨by rfl,?_⟩) (by assumption) ?_
  rotate_left
  · (intro w hSw; (try dsimp only at hSw); go_simp; try with_reducible rfl)
  simp only [Act.put,List.setIfInBounds_toArray,List.set_cons_zero,List.set_cons_succ]
  refine wpAnyH_take (i:=3) (oi:=⟨some 31,.load 5 (.tmp 30),5,_,#[⟨2,.data⟩],none⟩) (v:=?_) rfl (by kernel_rfl) (by kernel_rfl) (by kernel_rfl) (fun _ _ _ h=>h) (Or.inl ⟨by rfl,?_⟩) (by assumption) ?_
  rotate_left
  · (intro w hSw; (try dsimp only at hSw); go_simp; try with_reducible rfl)
  simp only [Act.put,List.setIfInBounds_toArray,List.set_cons_zero,List.set_cons_succ]
  refine wpAnyH_take (i:=4) (oi:=⟨some 32,.convert 5 3 (.tmp 31),3,_,#[⟨3,.data⟩],none⟩) (v:=?_) rfl (by kernel_rfl) (by kernel_rfl) (by kernel_rfl) (fun _ _ _ h=>h) (Or.inl ⟨by rfl,?_⟩) (by assumption) ?_
  rotate_left
  · (intro w hSw; (try dsimp only at hSw); go_simp; try with_reducible rfl)
  simp only [Act.put,List.setIfInBounds_toArray,List.set_cons_zero,List.set_cons_succ]
  refine wpAnyH_take (i:=5) (oi:=⟨some 33,.move (.tmp 2),32,_,#[],none⟩) (v:=?_) rfl (by kernel_rfl) (by kernel_rfl) (by kernel_rfl) (fun _ _ _ h=>h) (Or.inl ⟨by rfl,?_⟩) (by assumption) ?_
  rotate_left
  · (intro w hSw; (try dsimp only at hSw); go_simp; try with_reducible rfl)
  simp only [Act.put,List.setIfInBounds_toArray,List.set_cons_zero,List.set_cons_succ]
  refine wpAnyH_take (i:=6) (oi:=⟨some 34,.fieldAddr 140 (.tmp 3) 0,0,_,#[],none⟩) (v:=?_) rfl (by kernel_rfl) (by kernel_rfl) (by kernel_rfl) (fun _ _ _ h=>h) (Or.inl ⟨by rfl,?_⟩) (by assumption) ?_
  rotate_left
  · (intro w hSw; (try dsimp only at hSw); go_simp; try with_reducible rfl)
  simp only [Act.put,List.setIfInBounds_toArray,List.set_cons_zero,List.set_cons_succ]
  refine wpAnyH_take (i:=7) (oi:=⟨some 35,.load 3 (.tmp 34),3,_,#[⟨6,.data⟩],none⟩) (v:=?_) rfl (by kernel_rfl) (by kernel_rfl) (by kernel_rfl) (fun _ _ _ h=>h) (Or.inl ⟨by rfl,?_⟩) (by assumption) ?_
  rotate_left
  · (intro w hSw; (try dsimp only at hSw); go_simp; try with_reducible rfl)
  simp only [Act.put,List.setIfInBounds_toArray,List.set_cons_zero,List.set_cons_succ]
  refine wpAnyH_take (i:=8) (oi:=⟨some 36,.indexAddr 170 (.global 1) (.tmp 35),0,_,#[⟨7,.data⟩],none⟩) (v:=?_) rfl (by kernel_rfl) (by kernel_rfl) (by kernel_rfl) (fun _ _ _ h=>h) (Or.inl ⟨by rfl,?_⟩) (by assumption) ?_
  rotate_left
  · (intro w hSw; (try dsimp only at hSw); go_simp; try with_reducible rfl)
  simp only [Act.put,List.setIfInBounds_toArray,List.set_cons_zero,List.set_cons_succ]
  refine wpAnyH_take (i:=9) (oi:=⟨some 37,.load 5 (.tmp 36),5,_,#[⟨8,.data⟩],none⟩) (v:=?_) rfl (by kernel_rfl) (by kernel_rfl) (by kernel_rfl) (fun _ _ _ h=>h) (Or.inl ⟨by rfl,?_⟩) (by assumption) ?_
  rotate_left
  · (intro w hSw; (try dsimp only at hSw); go_simp; try with_reducible rfl)
  simp only [Act.put,List.setIfInBounds_toArray,List.set_cons_zero,List.set_cons_succ]
  refine wpAnyH_take (i:=10) (oi:=⟨some 38,.binOp BinOp.shr 32 (.tmp 33) (.tmp 37) 5,32,_,#[⟨5,.data⟩,⟨9,.data⟩],none⟩) (v:=?_) rfl (by kernel_rfl) (by kernel_rfl) (by kernel_rfl) (fun _ _ _ h=>h) (Or.inl ⟨by rfl,?_⟩) (by assumption) ?_
  rotate_left
  · (intro w hSw; (try dsimp only at hSw); go_simp; try with_reducible rfl)
  simp only [Act.put,List.setIfInBounds_toArray,List.set_cons_zero,List.set_cons_succ]
  refine wpAnyH_take (i:=11) (oi:=⟨some 39,.fieldAddr 140 (.tmp 3) 0,0,_,#[],none⟩) (v:=?_) rfl (by kernel_rfl) (by kernel_rfl) (by kernel_rfl) (fun _ _ _ h=>h) (Or.inl ⟨by rfl,?_⟩) (by assumption) ?_
  rotate_left
  · (intro w hSw; (try dsimp only at hSw); go_simp; try with_reducible rfl)
  simp only [Act.put,List.setIfInBounds_toArray,List.set_cons_zero,List.set_cons_succ]
  refine wpAnyH_take (i:=12) (oi:=⟨some 40,.load 3 (.tmp 39),3,_,#[⟨11,.data⟩],none⟩) (v:=?_) rfl (by kernel_rfl) (by kernel_rfl) (by kernel_rfl) (fun _ _ _ h=>h) (Or.inl ⟨by rfl,?_⟩) (by assumption) ?_
  rotate_left
  · (intro w hSw; (try dsimp only at hSw); go_simp; try with_reducible rfl)
  simp only [Act.put,List.setIfInBounds_toArray,List.set_cons_zero,List.set_cons_succ]
  refine wpAnyH_take (i:=13) (oi:=⟨some 41,.indexAddr 170 (.global 1) (.tmp 40),0,_,#[⟨12,.data⟩],none⟩) (v:=?_) rfl (by kernel_rfl) (by kernel_rfl) (by kernel_rfl) (fun _ _ _ h=>h) (Or.inl ⟨by rfl,?_⟩) (by assumption) ?_
  rotate_left
  · (intro w hSw; (try dsimp only at hSw); go_simp; try with_reducible rfl)
  simp only [Act.put,List.setIfInBounds_toArray,List.set_cons_zero,List.set_cons_succ]
  refine wpAnyH_take (i:=14) (oi:=⟨some 42,.load 5 (.tmp 41),5,_,#[⟨13,.data⟩],none⟩) (v:=?_) rfl (by kernel_rfl) (by kernel_rfl) (by kernel_rfl) (fun _ _ _ h=>h) (Or.inl ⟨by rfl,?_⟩) (by assumption) ?_
  rotate_left
  · (intro w hSw; (try dsimp only at hSw); go_simp; try with_reducible rfl)
  simp only [Act.put,List.setIfInBounds_toArray,List.set_cons_zero,List.set_cons_succ]
  refine wpAnyH_take (i:=15) (oi:=⟨some 43,.binOp BinOp.shl 32 (.tmp 38) (.tmp 42) 5,32,_,#[⟨10,.data⟩,⟨14,.data⟩],none⟩) (v:=?_) rfl (by kernel_rfl) (by kernel_rfl) (by kernel_rfl) (fun _ _ _ h=>h) (Or.inl ⟨by rfl,?_⟩) (by assumption) ?_
  rotate_left
  · (intro w hSw; (try dsimp only at hSw); go_simp; try with_reducible rfl)
  simp only [Act.put,List.setIfInBounds_toArray,List.set_cons_zero,List.set_cons_succ]
  refine wpAnyH_take (i:=16) (oi:=⟨some 44,.fieldAddr 140 (.tmp 3) 1,0,_,#[],none⟩) (v:=?_) rfl (by kernel_rfl) (by kernel_rfl) (by kernel_rfl) (fun _ _ _ h=>h) (Or.inl ⟨by rfl,?_⟩) (by assumption) ?_
  rotate_left
  · (intro w hSw; (try dsimp only at hSw); go_simp; try with_reducible rfl)
  simp only [Act.put,List.setIfInBounds_toArray,List.set_cons_zero,List.set_cons_succ]
  refine wpAnyH_take (i:=17) (oi:=⟨some 45,.load 35 (.tmp 44),35,_,#[⟨16,.data⟩],none⟩) (v:=?_) rfl (by kernel_rfl) (by kernel_rfl) (by kernel_rfl) (fun _ _ _ h=>h) (Or.inl ⟨by rfl,?_⟩) (by assumption) ?_
  rotate_left
  · (intro w hSw; (try dsimp only at hSw); go_simp; try with_reducible rfl)
  simp only [Act.put,List.setIfInBounds_toArray,List.set_cons_zero,List.set_cons_succ]
  refine wpAnyH_take (i:=18) (oi:=⟨some 46,.move (.tmp 1),3,_,#[],none⟩) (v:=?_) rfl (by kernel_rfl) (by kernel_rfl) (by kernel_rfl) (fun _ _ _ h=>h) (Or.inl ⟨by rfl,?_⟩) (by assumption) ?_
  rotate_left
  · (intro w hSw; (try dsimp only at hSw); go_simp; try with_reducible rfl)
  simp only [Act.put,List.setIfInBounds_toArray,List.set_cons_zero,List.set_cons_succ]
  refine wpAnyH_take (i:=19) (oi:=⟨some 47,.fieldAddr 140 (.tmp 3) 4,0,_,#[],none⟩) (v:=?_) rfl (by kernel_rfl) (by kernel_rfl) (by kernel_rfl) (fun _ _ _ h=>h) (Or.inl ⟨by rfl,?_⟩) (by assumption) ?_
  rotate_left
  · (intro w hSw; (try dsimp only at hSw); go_simp; try with_reducible rfl)
  simp only [Act.put,List.setIfInBounds_toArray,List.set_cons_zero,List.set_cons_succ]
  refine wpAnyH_take (i:=20) (oi:=⟨some 48,.load 41 (.tmp 47),41,_,#[⟨19,.data⟩],none⟩) (v:=?_) rfl (by kernel_rfl) (by kernel_rfl) (by kernel_rfl) (fun _ _ _ h=>h) (Or.inl ⟨by rfl,?_⟩) (by assumption) ?_
  rotate_left
  · (intro w hSw; (try dsimp only at hSw); go_simp; try with_reducible rfl)
  simp only [Act.put,List.setIfInBounds_toArray,List.set_cons_zero,List.set_cons_succ]
  refine wpAnyH_take (i:=21) (oi:=⟨some 49,.build 43 #[(0,.tmp 32),(1,.tmp 43),(2,.tmp 45),(3,.tmp 46),(4,.tmp 48)],43,_,#[⟨4,.data⟩,⟨15,.data⟩,⟨17,.data⟩,⟨18,.data⟩,⟨20,.data⟩],none⟩) (v:=?_) rfl (by kernel_rfl) (by kernel_rfl) (by kernel_rfl) (fun _ _ _ h=>h) (Or.inl ⟨by rfl,?_⟩) (by assumption) ?_
  rotate_left
  · (intro w hSw; (try dsimp only at hSw); go_simp; try with_reducible rfl)
  simp only [Act.put,List.setIfInBounds_toArray,List.set_cons_zero,List.set_cons_succ]
  refine wpAnyH_ready (rs:=[22]) (by kernel_rfl) (by simp) ?_
  refine AllReadyH.cons (o:=⟨none,.store 43 (.tmp 6) (.tmp 49),0,_,#[⟨21,.data⟩,⟨0,.phase⟩,⟨1,.phase⟩,⟨2,.phase⟩,⟨3,.phase⟩,⟨4,.phase⟩,⟨5,.phase⟩,⟨6,.phase⟩,⟨7,.phase⟩,⟨8,.phase⟩,⟨9,.phase⟩,⟨10,.phase⟩,⟨11,.phase⟩,⟨12,.phase⟩,⟨13,.phase⟩,⟨14,.phase⟩,⟨15,.phase⟩,⟨16,.phase⟩,⟨17,.phase⟩,⟨18,.phase⟩,⟨19,.phase⟩,⟨20,.phase⟩,⟨21,.phase⟩],none⟩) rfl (fun K hK=> ?_) AllReadyH.nil
  go_simp
  skip
  refine hK.out _ _ ?_ (fun hHeld=> ?_)
  · (((try dsimp only); exact ⟨(keep8 hx1 _ m0 _ _ _ _ _ _ _ _).cell 0,(keep8 hx1 _ m0 _ _ _ _ _ _ _ _).cell 1,(keep8 hx1 _ m0 _ _ _ _ _ _ _ _).cell 4,(keep8 hx1 _ m0 _ _ _ _ _ _ _ _).cell 5,(keep8 hx1 _ m0 _ _ _ _ _ _ _ _).cell 6,(keep8 hx1 _ m0 _ _ _ _ _ _ _ _).cell 7,far8 g3 _ n1 _ _ _ _ _ _ _ _,far8 g4 _ n2 _ _ _ _ _ _ _ _⟩))
  clear hK K
  try simp only [Act.put,List.setIfInBounds_toArray,List.set_cons_zero,List.set_cons_succ]
  refine wpAnyH_done (by kernel_rfl) ?_ _
  go_wp2
  refine bodyPost_ret (v:= .agg #[.int .i64 4,.int .u32 (va / 16777216*16777216),.int .u64 k2,.int .i64 k3,.int .i64 k5,.int .u32 k6,.bool k7,.bool k8]) (by simp [results,Tryz.results63,go_sem,hd,hw,IntKind.wrap_u32,IntKind.wrap_i64]) rfl ⟨rfl,(by refine below_drew ?_; (repeat (refine Below.setCell ?_ (by simp) _)); exact HB.out)⟩
set_option maxRecDepth 100000 in
set_option maxHeartbeats 4000000 in
theorem trans_4lo (k2 k3:Int) (k4:Bool) (k5 k6:Int) (k7 k8:Bool) (dm va:Int) (W:World) (ht:TT W) (hd1:decide (dm<0)=true)
    (HS:∀ww,TE ww→Calls Tryz.prog 102 #[.agg #[.int .i64 4,.int .u64 k2,.int .i64 k3,.bool k4,.int .i64 k5,.int .u32 k6,.bool k7,.bool k8]] ww fun r w'=>r= .returned (.bool true)∧Below ww.heap.size ww w') :
    Calls Tryz.prog 63 #[.agg #[.int .i64 4,.int .u64 k2,.int .i64 k3,.bool k4,.int .i64 k5,.int .u32 k6,.bool k7,.bool k8],.int .i64 dm,.int .u32 va] W fun r w'=>r= .returned (.agg #[.int .i64 0,.int .u32 0,.int .u64 0,.int .i64 0,.int .i64 0,.int .u32 0,.bool false,.bool false])∧Below W.heap.size W w':=by
  have hN:=(Bl.new W 140 [.int .i64 4,.int .u64 k2,.int .i64 k3,.bool k4,.int .i64 k5,.int .u32 k6,.bool k7,.bool k8])
  have hsz:(W.alloc (.cells ([.int .i64 4,.int .u64 k2,.int .i64 k3,.bool k4,.int .i64 k5,.int .u32 k6,.bool k7,.bool k8]).toArray 140)).heap.size=W.heap.size+1:=by simp
  have hM:=Bl.new (W.alloc (.cells ([.int .i64 4,.int .u64 k2,.int .i64 k3,.bool k4,.int .i64 k5,.int .u32 k6,.bool k7,.bool k8]).toArray 140)) 43 [.int .i64 0,.int .u32 0,.int .u64 0,.int .i64 0,.int .i64 0,.int .u32 0,.bool false,.bool false]
  have hN:=hN.below ((Below.refl _ _).alloc (Nat.le_refl _) (.cells ([.int .i64 0,.int .u32 0,.int .u64 0,.int .i64 0,.int .i64 0,.int .u32 0,.bool false,.bool false]).toArray 43))
  rw [hsz] at hM
  have HT:Hid (TE W):=ht.toTE
  clear ht
  go_enter Tryz.func63,Tryz.ntmps63
  go_wp2_with (first|(go_at_call 102; refine (HS _ (HT.out.below (by (repeat (refine Below.alloc ?_ (by simp) _)); exact Below.refl _ _))).mono ?_; rintro e w1 ⟨rfl,hb⟩; have hx1:=hN.below hb; have hy1:=hM.below hb; have HB:Hid (Below W.heap.size W w1):=Below.step (by (repeat (refine Below.alloc ?_ (by simp) _)); exact Below.refl _ _) hb; clear hb hN hM; have hc:=hx1.cell; have hd:=hy1.cell; have hf:=hy1.frozen)|go_in)
  refine bodyPost_ret (v:= .agg #[.int .i64 0,.int .u32 0,.int .u64 0,.int .i64 0,.int .i64 0,.int .u32 0,.bool false,.bool false]) (by simp [results,Tryz.results63,go_sem,hd]) rfl ⟨rfl,(by (repeat (refine Below.setCell ?_ (by simp) _)); exact HB.out)⟩
set_option maxRecDepth 100000 in
set_option maxHeartbeats 4000000 in
theorem trans_4hi (k2 k3:Int) (k4:Bool) (k5 k6:Int) (k7 k8:Bool) (dm va:Int) (W:World) (ht:TT W) (hd1:decide (dm<0)=false) (hd2:decide (15<dm)=true)
    (HS:∀ww,TE ww→Calls Tryz.prog 102 #[.agg #[.int .i64 4,.int .u64 k2,.int .i64 k3,.bool k4,.int .i64 k5,.int .u32 k6,.bool k7,.bool k8]] ww fun r w'=>r= .returned (.bool true)∧Below ww.heap.size ww w') :
    Calls Tryz.prog 63 #[.agg #[.int .i64 4,.int .u64 k2,.int .i64 k3,.bool k4,.int .i64 k5,.int .u32 k6,.bool k7,.bool k8],.int .i64 dm,.int .u32 va] W fun r w'=>r= .returned (.agg #[.int .i64 0,.int .u32 0,.int .u64 0,.int .i64 0,.int .i64 0,.int .u32 0,.bool false,.bool false])∧Below W.heap.size W w':=by
  have hN:=(Bl.new W 140 [.int .i64 4,.int .u64 k2,.int .i64 k3,.bool k4,.int .i64 k5,.int .u32 k6,.bool k7,.bool k8])
  have hsz:(W.alloc (.cells ([.int .i64 4,.int .u64 k2,.int .i64 k3,.bool k4,.int .i64 k5,.int .u32 k6,.bool k7,.bool k8]).toArray 140)).heap.size=W.heap.size+1:=by simp
  have hM:=Bl.new (W.alloc (.cells ([.int .i64 4,.int .u64 k2,.int .i64 k3,.bool k4,.int .i64 k5,.int .u32 k6,.bool k7,.bool k8]).toArray 140)) 43 [.int .i64 0,.int .u32 0,.int .u64 0,.int .i64 0,.int .i64 0,.int .u32 0,.bool false,.bool false]
  have hN:=hN.below ((Below.refl _ _).alloc (Nat.le_refl _) (.cells ([.int .i64 0,.int .u32 0,.int .u64 0,.int .i64 0,.int .i64 0,.int .u32 0,.bool false,.bool false]).toArray 43))
  rw [hsz] at hM
  have HT:Hid (TE W):=ht.toTE
  clear ht
  go_enter Tryz.func63,Tryz.ntmps63
  go_wp2_with (first|(go_at_call 102; refine (HS _ (HT.out.below (by (repeat (refine Below.alloc ?_ (by simp) _)); exact Below.refl _ _))).mono ?_; rintro e w1 ⟨rfl,hb⟩; have hx1:=hN.below hb; have hy1:=hM.below hb; have HB:Hid (Below W.heap.size W w1):=Below.step (by (repeat (refine Below.alloc ?_ (by simp) _)); exact Below.refl _ _) hb; clear hb hN hM; have hc:=hx1.cell; have hd:=hy1.cell; have hf:=hy1.frozen)|go_in)
  refine bodyPost_ret (v:= .agg #[.int .i64 0,.int .u32 0,.int .u64 0,.int .i64 0,.int .i64 0,.int .u32 0,.bool false,.bool false]) (by simp [results,Tryz.results63,go_sem,hd]) rfl ⟨rfl,(by (repeat (refine Below.setCell ?_ (by simp) _)); exact HB.out)⟩
set_option maxRecDepth 100000 in
set_option maxHeartbeats 4000000 in
theorem trans_4 (k2 k3:Int) (k4:Bool) (k5 k6:Int) (k7 k8:Bool) (dm va:Int) (W:World) (ht:TT W) (hva:0≤va∧va<4294967296) (hd1:decide (dm<0)=false) (hd2:decide (15<dm)=false)
    (HS:∀ww,TE ww→Calls Tryz.prog 102 #[.agg #[.int .i64 4,.int .u64 k2,.int .i64 k3,.bool k4,.int .i64 k5,.int .u32 k6,.bool k7,.bool k8]] ww fun r w'=>r= .returned (.bool true)∧Below ww.heap.size ww w') :
    Calls Tryz.prog 63 #[.agg #[.int .i64 4,.int .u64 k2,.int .i64 k3,.bool k4,.int .i64 k5,.int .u32 k6,.bool k7,.bool k8],.int .i64 dm,.int .u32 va] W fun r w'=>r= .returned (.agg #[.int .i64 2,.int .u32 (va / 65536*65536),.int .u64 k2,.int .i64 dm,.int .i64 k5,.int .u32 k6,.bool k7,.bool k8])∧Below W.heap.size W w':=by
  have hN:=(Bl.new W 140 [.int .i64 4,.int .u64 k2,.int .i64 k3,.bool k4,.int .i64 k5,.int .u32 k6,.bool k7,.bool k8])
  have hsz:(W.alloc (.cells ([.int .i64 4,.int .u64 k2,.int .i64 k3,.bool k4,.int .i64 k5,.int .u32 k6,.bool k7,.bool k8]).toArray 140)).heap.size=W.heap.size+1:=by simp
  have hM:=Bl.new (W.alloc (.cells ([.int .i64 4,.int .u64 k2,.int .i64 k3,.bool k4,.int .i64 k5,.int .u32 k6,.bool k7,.bool k8]).toArray 140)) 43 [.int .i64 0,.int .u32 0,.int .u64 0,.int .i64 0,.int .i64 0,.int .u32 0,.bool false,.bool false]
  have hN:=hN.below ((Below.refl _ _).alloc (Nat.le_refl _) (.cells ([.int .i64 0,.int .u32 0,.int .u64 0,.int .i64 0,.int .i64 0,.int .u32 0,.bool false,.bool false]).toArray 43))
  rw [hsz] at hM
  have HT:Hid (TE W):=ht.toTE
  have hw:va / 65536*65536%4294967296=va / 65536*65536:=by omega
  clear hva
  have g1:=ht.size 4 2 rfl
  have g2:=ht.base 4 16 rfl
  have l1:3<W.heap.size:=cell_lt g1
  have l2:1<W.heap.size:=cell_lt g2
  have HG:Hid (∀w1,Below W.heap.size W w1→w1.cell? ⟨3,4,none⟩=some (.int .u8 2)∧w1.cell? ⟨1,4,none⟩=some (.int .u8 16)):=fun w1 h=>⟨(h.cell (cell_lt g1)).trans g1,(h.cell (cell_lt g2)).trans g2⟩
  have n1:W.heap.size+1≠3:=by omega
  have n2:W.heap.size+1≠1:=by omega
  have m0:W.heap.size+1≠W.heap.size:=by omega
  clear ht g1 g2 l1 l2
  go_enter Tryz.func63,Tryz.ntmps63
  go_wp2_with (first|(go_at_call 102; refine (HS _ (HT.out.below (by (repeat (refine Below.alloc ?_ (by simp) _)); exact Below.refl _ _))).mono ?_; rintro e w1 ⟨rfl,hb⟩; have hx1:=hN.below hb; have hy1:=hM.below hb; have HB:Hid (Below W.heap.size W w1):=Below.step (by (repeat (refine Below.alloc ?_ (by simp) _)); exact Below.refl _ _) hb; clear hb hN hM; have hc:=hx1.cell; have hd:=hy1.cell; have hf:=hy1.frozen)|go_in)
  have g3:=(HG.out _ HB.out).1
  have g4:=(HG.out _ HB.out).2
  refine wp_region_held_drew (S:=fun w'=>w'.cell? ⟨W.heap.size,0,none⟩=some (.int .i64 4)∧w'.cell? ⟨W.heap.size,1,none⟩=some (.int .u64 k2)∧w'.cell? ⟨W.heap.size,4,none⟩=some (.int .i64 k5)∧w'.cell? ⟨W.heap.size,5,none⟩=some (.int .u32 k6)∧w'.cell? ⟨W.heap.size,6,none⟩=some (.bool k7)∧w'.cell? ⟨W.heap.size,7,none⟩=some (.bool k8)∧w'.cell? ⟨3,4,none⟩=some (.int .u8 2)∧w'.cell? ⟨1,4,none⟩=some (.int .u8 16)) (by kernel_rfl) ⟨hx1.drew.cell 0,hx1.drew.cell 1,hx1.drew.cell 4,hx1.drew.cell 5,hx1.drew.cell 6,hx1.drew.cell 7,g3,g4⟩ (fun hHeld=> ?_)
  refine wpAnyH_take (i:=0) (oi:=⟨some 28,.fieldAddr 140 (.tmp 3) 0,0,_,#[],none⟩) (v:=?_) rfl (by kernel_rfl) (by kernel_rfl) (by kernel_rfl) (fun _ _ _ h=>h) (Or.inl ⟨by rfl,?_⟩) (by assumption) ?_
  rotate_left
  · (intro w hSw; (try dsimp only at hSw); go_simp; try with_reducible rfl)
  simp only [Act.put,List.setIfInBounds_toArray,List.set_cons_zero,List.set_cons_succ]
  refine wpAnyH_take (i:=1) (oi:=⟨some 29,.load 3 (.tmp 28),3,_,#[⟨0,.data⟩],none⟩) (v:=?_) rfl (by kernel_rfl) (by kernel_rfl) (by kernel_rfl) (fun _ _ _ h=>h) (Or.inl ⟨by rfl,?_⟩) (by assumption) ?_
  rotate_left
  · (intro w hSw; (try dsimp only at hSw); go_simp; try with_reducible rfl)
  simp only [Act.put,List.setIfInBounds_toArray,List.set_cons_zero,List.set_cons_succ]
  refine wpAnyH_take (i:=2) (oi:=⟨some 30,.indexAddr 170 (.global 3) (.tmp 29),0,_,#[⟨1,.data⟩],none⟩) (v:=?_) rfl (by kernel_rfl) (by kernel_rfl) (by kernel_rfl) (fun _ _ _ h=>h) (Or.inl ⟨by rfl,?_⟩) (by assumption) ?_
  rotate_left
  · (intro w hSw; (try dsimp only at hSw); go_simp; try with_reducible rfl)
  simp only [Act.put,List.setIfInBounds_toArray,List.set_cons_zero,List.set_cons_succ]
  refine wpAnyH_take (i:=3) (oi:=⟨some 31,.load 5 (.tmp 30),5,_,#[⟨2,.data⟩],none⟩) (v:=?_) rfl (by kernel_rfl) (by kernel_rfl) (by kernel_rfl) (fun _ _ _ h=>h) (Or.inl ⟨by rfl,?_⟩) (by assumption) ?_
  rotate_left
  · (intro w hSw; (try dsimp only at hSw); go_simp; try with_reducible rfl)
  simp only [Act.put,List.setIfInBounds_toArray,List.set_cons_zero,List.set_cons_succ]
  refine wpAnyH_take (i:=4) (oi:=⟨some 32,.convert 5 3 (.tmp 31),3,_,#[⟨3,.data⟩],none⟩) (v:=?_) rfl (by kernel_rfl) (by kernel_rfl) (by kernel_rfl) (fun _ _ _ h=>h) (Or.inl ⟨by rfl,?_⟩) (by assumption) ?_
  rotate_left
  · (intro w hSw; (try dsimp only at hSw); go_simp; try with_reducible rfl)
  simp only [Act.put,List.setIfInBounds_toArray,List.set_cons_zero,List.set_cons_succ]
  refine wpAnyH_take (i:=5) (oi:=⟨some 33,.move (.tmp 2),32,_,#[],none⟩) (v:=?_) rfl (by kernel_rfl) (by kernel_rfl) (by kernel_rfl) (fun _ _ _ h=>h) (Or.inl ⟨by rfl,?_⟩) (by assumption) ?_
  rotate_left
  · (intro w hSw; (try dsimp only at hSw); go_simp; try with_reducible rfl)
  simp only [Act.put,List.setIfInBounds_toArray,List.set_cons_zero,List.set_cons_succ]
  refine wpAnyH_take (i:=6) (oi:=⟨some 34,.fieldAddr 140 (.tmp 3) 0,0,_,#[],none⟩) (v:=?_) rfl (by kernel_rfl) (by kernel_rfl) (by kernel_rfl) (fun _ _ _ h=>h) (Or.inl ⟨by rfl,?_⟩) (by assumption) ?_
  rotate_left
  · (intro w hSw; (try dsimp only at hSw); go_simp; try with_reducible rfl)
  simp only [Act.put,List.setIfInBounds_toArray,List.set_cons_zero,List.set_cons_succ]
  refine wpAnyH_take (i:=7) (oi:=⟨some 35,.load 3 (.tmp 34),3,_,#[⟨6,.data⟩],none⟩) (v:=?_) rfl (by kernel_rfl) (by kernel_rfl) (by kernel_rfl) (fun _ _ _ h=>h) (Or.inl ⟨by rfl,?_⟩) (by assumption) ?_
  rotate_left
  · (intro w hSw; (try dsimp only at hSw); go_simp; try with_reducible rfl)
  simp only [Act.put,List.setIfInBounds_toArray,List.set_cons_zero,List.set_cons_succ]
  refine wpAnyH_take (i:=8) (oi:=⟨some 36,.indexAddr 170 (.global 1) (.tmp 35),0,_,#[⟨7,.data⟩],none⟩) (v:=?_) rfl (by kernel_rfl) (by kernel_rfl) (by kernel_rfl) (fun _ _ _ h=>h) (Or.inl ⟨by rfl,?_⟩) (by assumption) ?_
  rotate_left
  · (intro w hSw; (try dsimp only at hSw); go_simp; try with_reducible rfl)
  simp only [Act.put,List.setIfInBounds_toArray,List.set_cons_zero,List.set_cons_succ]
  refine wpAnyH_take (i:=9) (oi:=⟨some 37,.load 5 (.tmp 36),5,_,#[⟨8,.data⟩],none⟩) (v:=?_) rfl (by kernel_rfl) (by kernel_rfl) (by kernel_rfl) (fun _ _ _ h=>h) (Or.inl ⟨by rfl,?_⟩) (by assumption) ?_
  rotate_left
  · (intro w hSw; (try dsimp only at hSw); go_simp; try with_reducible rfl)
  simp only [Act.put,List.setIfInBounds_toArray,List.set_cons_zero,List.set_cons_succ]
  refine wpAnyH_take (i:=10) (oi:=⟨some 38,.binOp BinOp.shr 32 (.tmp 33) (.tmp 37) 5,32,_,#[⟨5,.data⟩,⟨9,.data⟩],none⟩) (v:=?_) rfl (by kernel_rfl) (by kernel_rfl) (by kernel_rfl) (fun _ _ _ h=>h) (Or.inl ⟨by rfl,?_⟩) (by assumption) ?_
  rotate_left
  · (intro w hSw; (try dsimp only at hSw); go_simp; try with_reducible rfl)
  simp only [Act.put,List.setIfInBounds_toArray,List.set_cons_zero,List.set_cons_succ]
  refine wpAnyH_take (i:=11) (oi:=⟨some 39,.fieldAddr 140 (.tmp 3) 0,0,_,#[],none⟩) (v:=?_) rfl (by kernel_rfl) (by kernel_rfl) (by kernel_rfl) (fun _ _ _ h=>h) (Or.inl ⟨by rfl,?_⟩) (by assumption) ?_
  rotate_left
  · (intro w hSw; (try dsimp only at hSw); go_simp; try with_reducible rfl)
  simp only [Act.put,List.setIfInBounds_toArray,List.set_cons_zero,List.set_cons_succ]
  refine wpAnyH_take (i:=12) (oi:=⟨some 40,.load 3 (.tmp 39),3,_,#[⟨11,.data⟩],none⟩) (v:=?_) rfl (by kernel_rfl) (by kernel_rfl) (by kernel_rfl) (fun _ _ _ h=>h) (Or.inl ⟨by rfl,?_⟩) (by assumption) ?_
  rotate_left
  · (intro w hSw; (try dsimp only at hSw); go_simp; try with_reducible rfl)
  simp only [Act.put,List.setIfInBounds_toArray,List.set_cons_zero,List.set_cons_succ]
  refine wpAnyH_take (i:=13) (oi:=⟨some 41,.indexAddr 170 (.global 1) (.tmp 40),0,_,#[⟨12,.data⟩],none⟩) (v:=?_) rfl (by kernel_rfl) (by kernel_rfl) (by kernel_rfl) (fun _ _ _ h=>h) (Or.inl ⟨by rfl,?_⟩) (by assumption) ?_
  rotate_left
  · (intro w hSw; (try dsimp only at hSw); go_simp; try with_reducible rfl)
  simp only [Act.put,List.setIfInBounds_toArray,List.set_cons_zero,List.set_cons_succ]
  refine wpAnyH_take (i:=14) (oi:=⟨some 42,.load 5 (.tmp 41),5,_,#[⟨13,.data⟩],none⟩) (v:=?_) rfl (by kernel_rfl) (by kernel_rfl) (by kernel_rfl) (fun _ _ _ h=>h) (Or.inl ⟨by rfl,?_⟩) (by assumption) ?_
  rotate_left
  · (intro w hSw; (try dsimp only at hSw); go_simp; try with_reducible rfl)
  simp only [Act.put,List.setIfInBounds_toArray,List.set_cons_zero,List.set_cons_succ]
  refine wpAnyH_take (i:=15) (oi:=⟨some 43,.binOp BinOp.shl 32 (.tmp 38) (.tmp 42) 5,32,_,#[⟨10,.data⟩,⟨14,.data⟩],none⟩) (v:=?_) rfl (by kernel_rfl) (by kernel_rfl) (by kernel_rfl) (fun _ _ _ h=>h) (Or.inl ⟨by rfl,?_⟩) (by assumption) ?_
  rotate_left
  · (intro w hSw; (try dsimp only at hSw); go_simp; try with_reducible rfl)
  simp only [Act.put,List.setIfInBounds_toArray,List.set_cons_zero,List.set_cons_succ]
  refine wpAnyH_take (i:=16) (oi:=⟨some 44,.fieldAddr 140 (.tmp 3) 1,0,_,#[],none⟩) (v:=?_) rfl (by kernel_rfl) (by kernel_rfl) (by kernel_rfl) (fun _ _ _ h=>h) (Or.inl ⟨by rfl,?_⟩) (by assumption) ?_
  rotate_left
  · (intro w hSw; (try dsimp only at hSw); go_simp; try with_reducible rfl)
  simp only [Act.put,List.setIfInBounds_toArray,List.set_cons_zero,List.set_cons_succ]
  refine wpAnyH_take (i:=17) (oi:=⟨some 45,.load 35 (.tmp 44),35,_,#[⟨16,.data⟩],none⟩) (v:=?_) rfl (by kernel_rfl) (by kernel_rfl) (by kernel_rfl) (fun _ _ _ h=>h) (Or.inl ⟨by rfl,?_⟩) (by assumption) ?_
  rotate_left
  · (intro w hSw; (try dsimp only at hSw); go_simp; try with_reducible rfl)
  simp only [Act.put,List.setIfInBounds_toArray,List.set_cons_zero,List.set_cons_succ]
  refine wpAnyH_take (i:=18) (oi:=⟨some 46,.move (.tmp 1),3,_,#[],none⟩) (v:=?_) rfl (by kernel_rfl) (by kernel_rfl) (by kernel_rfl) (fun _ _ _ h=>h) (Or.inl ⟨by rfl,?_⟩) (by assumption) ?_
  rotate_left
  · (intro w hSw; (try dsimp only at hSw); go_simp; try with_reducible rfl)
  simp only [Act.put,List.setIfInBounds_toArray,List.set_cons_zero,List.set_cons_succ]
  refine wpAnyH_take (i:=19) (oi:=⟨some 47,.fieldAddr 140 (.tmp 3) 4,0,_,#[],none⟩) (v:=?_) rfl (by kernel_rfl) (by kernel_rfl) (by kernel_rfl) (fun _ _ _ h=>h) (Or.inl ⟨by rfl,?_⟩) (by assumption) ?_
  rotate_left
  · (intro w hSw; (try dsimp only at hSw); go_simp; try with_reducible rfl)
  simp only [Act.put,List.setIfInBounds_toArray,List.set_cons_zero,List.set_cons_succ]
  refine wpAnyH_take (i:=20) (oi:=⟨some 48,.load 41 (.tmp 47),41,_,#[⟨19,.data⟩],none⟩) (v:=?_) rfl (by kernel_rfl) (by kernel_rfl) (by kernel_rfl) (fun _ _ _ h=>h) (Or.inl ⟨by rfl,?_⟩) (by assumption) ?_
  rotate_left
  · (intro w hSw; (try dsimp only at hSw); go_simp; try with_reducible rfl)
  simp only [Act.put,List.setIfInBounds_toArray,List.set_cons_zero,List.set_cons_succ]
  refine wpAnyH_take (i:=21) (oi:=⟨some 49,.build 43 #[(0,.tmp 32),(1,.tmp 43),(2,.tmp 45),(3,.tmp 46),(4,.tmp 48)],43,_,#[⟨4,.data⟩,⟨15,.data⟩,⟨17,.data⟩,⟨18,.data⟩,⟨20,.data⟩],none⟩) (v:=?_) rfl (by kernel_rfl) (by kernel_rfl) (by kernel_rfl) (fun _ _ _ h=>h) (Or.inl ⟨by rfl,?_⟩) (by assumption) ?_
  rotate_left
  · (intro w hSw; (try dsimp only at hSw); go_simp; try with_reducible rfl)
  simp only [Act.put,List.setIfInBounds_toArray,List.set_cons_zero,List.set_cons_succ]
  refine wpAnyH_ready (rs:=[22]) (by kernel_rfl) (by simp) ?_
  refine AllReadyH.cons (o:=⟨none,.store 43 (.tmp 6) (.tmp 49),0,_,#[⟨21,.data⟩,⟨0,.phase⟩,⟨1,.phase⟩,⟨2,.phase⟩,⟨3,.phase⟩,⟨4,.phase⟩,⟨5,.phase⟩,⟨6,.phase⟩,⟨7,.phase⟩,⟨8,.phase⟩,⟨9,.phase⟩,⟨10,.phase⟩,⟨11,.phase⟩,⟨12,.phase⟩,⟨13,.phase⟩,⟨14,.phase⟩,⟨15,.phase⟩,⟨16,.phase⟩,⟨17,.phase⟩,⟨18,.phase⟩,⟨19,.phase⟩,⟨20,.phase⟩,⟨21,.phase⟩],none⟩) rfl (fun K hK=> ?_) AllReadyH.nil
  go_simp
  skip
  refine hK.out _ _ ?_ (fun hHeld=> ?_)
  · (((try dsimp only); exact ⟨(keep8 hx1 _ m0 _ _ _ _ _ _ _ _).cell 0,(keep8 hx1 _ m0 _ _ _ _ _ _ _ _).cell 1,(keep8 hx1 _ m0 _ _ _ _ _ _ _ _).cell 4,(keep8 hx1 _ m0 _ _ _ _ _ _ _ _).cell 5,(keep8 hx1 _ m0 _ _ _ _ _ _ _ _).cell 6,(keep8 hx1 _ m0 _ _ _ _ _ _ _ _).cell 7,far8 g3 _ n1 _ _ _ _ _ _ _ _,far8 g4 _ n2 _ _ _ _ _ _ _ _⟩))
  clear hK K
  try simp only [Act.put,List.setIfInBounds_toArray,List.set_cons_zero,List.set_cons_succ]
  refine wpAnyH_done (by kernel_rfl) ?_ _
  go_wp2
  refine bodyPost_ret (v:= .agg #[.int .i64 2,.int .u32 (va / 65536*65536),.int .u64 k2,.int .i64 dm,.int .i64 k5,.int .u32 k6,.bool k7,.bool k8]) (by simp [results,Tryz.results63,go_sem,hd,hw,IntKind.wrap_u32,IntKind.wrap_i64]) rfl ⟨rfl,(by refine below_drew ?_; (repeat (refine Below.setCell ?_ (by simp) _)); exact HB.out)⟩
set_option maxRecDepth 100000 in
set_option maxHeartbeats 4000000 in
theorem trans_5lo (k2 k3:Int) (k4:Bool) (k5 k6:Int) (k7 k8:Bool) (dm va:Int) (W:World) (ht:TT W) (hd1:decide (dm<0)=true)
    (HS:∀ww,TE ww→Calls Tryz.prog 102 #[.agg #[.int .i64 5,.int .u64 k2,.int .i64 k3,.bool k4,.int .i64 k5,.int .u32 k6,.bool k7,.bool k8]] ww fun r w'=>r= .returned (.bool true)∧Below ww.heap.size ww w') :
    Calls Tryz.prog 63 #[.agg #[.int .i64 5,.int .u64 k2,.int .i64 k3,.bool k4,.int .i64 k5,.int .u32 k6,.bool k7,.bool k8],.int .i64 dm,.int .u32 va] W fun r w'=>r= .returned (.agg #[.int .i64 0,.int .u32 0,.int .u64 0,.int .i64 0,.int .i64 0,.int .u32 0,.bool false,.bool false])∧Below W.heap.size W w':=by
  have hN:=(Bl.new W 140 [.int .i64 5,.int .u64 k2,.int .i64 k3,.bool k4,.int .i64 k5,.int .u32 k6,.bool k7,.bool k8])
  have hsz:(W.alloc (.cells ([.int .i64 5,.int .u64 k2,.int .i64 k3,.bool k4,.int .i64 k5,.int .u32 k6,.bool k7,.bool k8]).toArray 140)).heap.size=W.heap.size+1:=by simp
  have hM:=Bl.new (W.alloc (.cells ([.int .i64 5,.int .u64 k2,.int .i64 k3,.bool k4,.int .i64 k5,.int .u32 k6,.bool k7,.bool k8]).toArray 140)) 43 [.int .i64 0,.int .u32 0,.int .u64 0,.int .i64 0,.int .i64 0,.int .u32 0,.bool false,.bool false]
  have hN:=hN.below ((Below.refl _ _).alloc (Nat.le_refl _) (.cells ([.int .i64 0,.int .u32 0,.int .u64 0,.int .i64 0,.int .i64 0,.int .u32 0,.bool false,.bool false]).toArray 43))
  rw [hsz] at hM
  have HT:Hid (TE W):=ht.toTE
  clear ht
  go_enter Tryz.func63,Tryz.ntmps63
  go_wp2_with (first|(go_at_call 102; refine (HS _ (HT.out.below (by (repeat (refine Below.alloc ?_ (by simp) _)); exact Below.refl _ _))).mono ?_; rintro e w1 ⟨rfl,hb⟩; have hx1:=hN.below hb; have hy1:=hM.below hb; have HB:Hid (Below W.heap.size W w1):=Below.step (by (repeat (refine Below.alloc ?_ (by simp) _)); exact Below.refl _ _) hb; clear hb hN hM; have hc:=hx1.cell; have hd:=hy1.cell; have hf:=hy1.frozen)|go_in)
  refine bodyPost_ret (v:= .agg #[.int .i64 0,.int .u32 0,.int .u64 0,.int .i64 0,.int .i64 0,.int .u32 0,.bool false,.bool false]) (by simp [results,Tryz.results63,go_sem,hd]) rfl ⟨rfl,(by (repeat (refine Below.setCell ?_ (by simp) _)); exact HB.out)⟩
set_option maxRecDepth 100000 in
set_option maxHeartbeats 4000000 in
theorem trans_5hi (k2 k3:Int) (k4:Bool) (k5 k6:Int) (k7 k8:Bool) (dm va:Int) (W:World) (ht:TT W) (hd1:decide (dm<0)=false) (hd2:decide (15<dm)=true)
    (HS:∀ww,TE ww→Calls Tryz.prog 102 #[.agg #[.int .i64 5,.int .u64 k2,.int .i64 k3,.bool k4,.int .i64 k5,.int .u32 k6,.bool k7,.bool k8]] ww fun r w'=>r= .returned (.bool true)∧Below ww.heap.size ww w') :
    Calls Tryz.prog 63 #[.agg #[.int .i64 5,.int .u64 k2,.int .i64 k3,.bool k4,.int .i64 k5,.int .u32 k6,.bool k7,.bool k8],.int .i64 dm,.int .u32 va] W fun r w'=>r= .returned (.agg #[.int .i64 0,.int .u32 0,.int .u64 0,.int .i64 0,.int .i64 0,.int .u32 0,.bool false,.bool false])∧Below W.heap.size W w':=by
  have hN:=(Bl.new W 140 [.int .i64 5,.int .u64 k2,.int .i64 k3,.bool k4,.int .i64 k5,.int .u32 k6,.bool k7,.bool k8])
  have hsz:(W.alloc (.cells ([.int .i64 5,.int .u64 k2,.int .i64 k3,.bool k4,.int .i64 k5,.int .u32 k6,.bool k7,.bool k8]).toArray 140)).heap.size=W.heap.size+1:=by simp
  have hM:=Bl.new (W.alloc (.cells ([.int .i64 5,.int .u64 k2,.int .i64 k3,.bool k4,.int .i64 k5,.int .u32 k6,.bool k7,.bool k8]).toArray 140)) 43 [.int .i64 0,.int .u32 0,.int .u64 0,.int .i64 0,.int .i64 0,.int .u32 0,.bool false,.bool false]
  have hN:=hN.below ((Below.refl _ _).alloc (Nat.le_refl _) (.cells ([.int .i64 0,.int .u32 0,.int .u64 0,.int .i64 0,.int .i64 0,.int .u32 0,.bool false,.bool false]).toArray 43))
  rw [hsz] at hM
  have HT:Hid (TE W):=ht.toTE
  clear ht
  go_enter Tryz.func63,Tryz.ntmps63
  go_wp2_with (first|(go_at_call 102; refine (HS _ (HT.out.below (by (repeat (refine Below.alloc ?_ (by simp) _)); exact Below.refl _ _))).mono ?_; rintro e w1 ⟨rfl,hb⟩; have hx1:=hN.below hb; have hy1:=hM.below hb; have HB:Hid (Below W.heap.size W w1):=Below.step (by (repeat (refine Below.alloc ?_ (by simp) _)); exact Below.refl _ _) hb; clear hb hN hM; have hc:=hx1.cell; have hd:=hy1.cell; have hf:=hy1.frozen)|go_in)
  refine bodyPost_ret (v:= .agg #[.int .i64 0,.int .u32 0,.int .u64 0,.int .i64 0,.int .i64 0,.int .u32 0,.bool false,.bool false]) (by simp [results,Tryz.results63,go_sem,hd]) rfl ⟨rfl,(by (repeat (refine Below.setCell ?_ (by simp) _)); exact HB.out)⟩
set_option maxRecDepth 100000 in
set_option maxHeartbeats 4000000 in
theorem trans_5 (k2 k3:Int) (k4:Bool) (k5 k6:Int) (k7 k8:Bool) (dm va:Int) (W:World) (ht:TT W) (hva:0≤va∧va<4294967296) (hd1:decide (dm<0)=false) (hd2:decide (15<dm)=false)
    (HS:∀ww,TE ww→Calls Tryz.prog 102 #[.agg #[.int .i64 5,.int .u64 k2,.int .i64 k3,.bool k4,.int .i64 k5,.int .u32 k6,.bool k7,.bool k8]] ww fun r w'=>r= .returned (.bool true)∧Below ww.heap.size ww w') :
    Calls Tryz.prog 63 #[.agg #[.int .i64 5,.int .u64 k2,.int .i64 k3,.bool k4,.int .i64 k5,.int .u32 k6,.bool k7,.bool k8],.int .i64 dm,.int .u32 va] W fun r w'=>r= .returned (.agg #[.int .i64 1,.int .u32 (va / 4096*4096),.int .u64 k2,.int .i64 dm,.int .i64 k5,.int .u32 k6,.bool k7,.bool k8])∧Below W.heap.size W w':=by
  have hN:=(Bl.new W 140 [.int .i64 5,.int .u64 k2,.int .i64 k3,.bool k4,.int .i64 k5,.int .u32 k6,.bool k7,.bool k8])
  have hsz:(W.alloc (.cells ([.int .i64 5,.int .u64 k2,.int .i64 k3,.bool k4,.int .i64 k5,.int .u32 k6,.bool k7,.bool k8]).toArray 140)).heap.size=W.heap.size+1:=by simp
  have hM:=Bl.new (W.alloc (.cells ([.int .i64 5,.int .u64 k2,.int .i64 k3,.bool k4,.int .i64 k5,.int .u32 k6,.bool k7,.bool k8]).toArray 140)) 43 [.int .i64 0,.int .u32 0,.int .u64 0,.int .i64 0,.int .i64 0,.int .u32 0,.bool false,.bool false]
  have hN:=hN.below ((Below.refl _ _).alloc (Nat.le_refl _) (.cells ([.int .i64 0,.int .u32 0,.int .u64 0,.int .i64 0,.int .i64 0,.int .u32 0,.bool false,.bool false]).toArray 43))
  rw [hsz] at hM
  have HT:Hid (TE W):=ht.toTE
  have hw:va / 4096*4096%4294967296=va / 4096*4096:=by omega
  clear hva
  have g1:=ht.size 5 1 rfl
  have g2:=ht.base 5 12 rfl
  have l1:3<W.heap.size:=cell_lt g1
  have l2:1<W.heap.size:=cell_lt g2
  have HG:Hid (∀w1,Below W.heap.size W w1→w1.cell? ⟨3,5,none⟩=some (.int .u8 1)∧w1.cell? ⟨1,5,none⟩=some (.int .u8 12)):=fun w1 h=>⟨(h.cell (cell_lt g1)).trans g1,(h.cell (cell_lt g2)).trans g2⟩
  have n1:W.heap.size+1≠3:=by omega
  have n2:W.heap.size+1≠1:=by omega
  have m0:W.heap.size+1≠W.heap.size:=by omega
  clear ht g1 g2 l1 l2
  go_enter Tryz.func63,Tryz.ntmps63
  go_wp2_with (first|(go_at_call 102; refine (HS _ (HT.out.below (by (repeat (refine Below.alloc ?_ (by simp) _)); exact Below.refl _ _))).mono ?_; rintro e w1 ⟨rfl,hb⟩; have hx1:=hN.below hb; have hy1:=hM.below hb; have HB:Hid (Below W.heap.size W w1):=Below.step (by (repeat (refine Below.alloc ?_ (by simp) _)); exact Below.refl _ _) hb; clear hb hN hM; have hc:=hx1.cell; have hd:=hy1.cell; have hf:=hy1.frozen)|go_in)
  have g3:=(HG.out _ HB.out).1
  have g4:=(HG.out _ HB.out).2
  refine wp_region_held_drew (S:=fun w'=>w'.cell? ⟨W.heap.size,0,none⟩=some (.int .i64 5)∧w'.cell? ⟨W.heap.size,1,none⟩=some (.int .u64 k2)∧w'.cell? ⟨W.heap.size,4,none⟩=some (.int .i64 k5)∧w'.cell? ⟨W.heap.size,5,none⟩=some (.int .u32 k6)∧w'.cell? ⟨W.heap.size,6,none⟩=some (.bool k7)∧w'.cell? ⟨W.heap.size,7,none⟩=some (.bool k8)∧w'.cell? ⟨3,5,none⟩=some (.int .u8 1)∧w'.cell? ⟨1,5,none⟩=some (.int .u8 12)) (by kernel_rfl) ⟨hx1.drew.cell 0,hx1.drew.cell 1,hx1.drew.cell 4,hx1.drew.cell 5,hx1.drew.cell 6,hx1.drew.cell 7,g3,g4⟩ (fun hHeld=> ?_)
  refine wpAnyH_take (i:=0) (oi:=⟨some 28,.fieldAddr 140 (.tmp 3) 0,0,_,#[],none⟩) (v:=?_) rfl (by kernel_rfl) (by kernel_rfl) (by kernel_rfl) (fun _ _ _ h=>h) (Or.inl ⟨by rfl,?_⟩) (by assumption) ?_
  rotate_left
  · (intro w hSw; (try dsimp only at hSw); go_simp; try with_reducible rfl)
  simp only [Act.put,List.setIfInBounds_toArray,List.set_cons_zero,List.set_cons_succ]
  refine wpAnyH_take (i:=1) (oi:=⟨some 29,.load 3 (.tmp 28),3,_,#[⟨0,.data⟩],none⟩) (v:=?_) rfl (by kernel_rfl) (by kernel_rfl) (by kernel_rfl) (fun _ _ _ h=>h) (Or.inl ⟨by rfl,?_⟩) (by assumption) ?_
  rotate_left
  · (intro w hSw; (try dsimp only at hSw); go_simp; try with_reducible rfl)
  simp only [Act.put,List.setIfInBounds_toArray,List.set_cons_zero,List.set_cons_succ]
  refine wpAnyH_take (i:=2) (oi:=⟨some 30,.indexAddr 170 (.global 3) (.tmp 29),0,_,#[⟨1,.data⟩],none⟩) (v:=?_) rfl (by kernel_rfl) (by kernel_rfl) (by kernel_rfl) (fun _ _ _ h=>h) (Or.inl ⟨by rfl,?_⟩) (by assumption) ?_
  rotate_left
  · (intro w hSw; (try dsimp only at hSw); go_simp; try with_reducible rfl)
  simp only [Act.put,List.setIfInBounds_toArray,List.set_cons_zero,List.set_cons_succ]
  refine wpAnyH_take (i:=3) (oi:=⟨some 31,.load 5 (.tmp 30),5,_,#[⟨2,.data⟩],none⟩) (v:=?_) rfl (by kernel_rfl) (by kernel_rfl) (by kernel_rfl) (fun _ _ _ h=>h) (Or.inl ⟨by rfl,?_⟩) (by assumption) ?_
  rotate_left
  · (intro w hSw; (try dsimp only at hSw); go_simp; try with_reducible rfl)
  simp only [Act.put,List.setIfInBounds_toArray,List.set_cons_zero,List.set_cons_succ]
  refine wpAnyH_take (i:=4) (oi:=⟨some 32,.convert 5 3 (.tmp 31),3,_,#[⟨3,.data⟩],none⟩) (v:=?_) rfl (by kernel_rfl) (by kernel_rfl) (by kernel_rfl) (fun _ _ _ h=>h) (Or.inl ⟨by rfl,?_⟩) (by assumption) ?_
  rotate_left
  · (intro w hSw; (try dsimp only at hSw); go_simp; try with_reducible rfl)
  simp only [Act.put,List.setIfInBounds_toArray,List.set_cons_zero,List.set_cons_succ]
  refine wpAnyH_take (i:=5) (oi:=⟨some 33,.move (.tmp 2),32,_,#[],none⟩) (v:=?_) rfl (by kernel_rfl) (by kernel_rfl) (by kernel_rfl) (fun _ _ _ h=>h) (Or.inl ⟨by rfl,?_⟩) (by assumption) ?_
  rotate_left
  · (intro w hSw; (try dsimp only at hSw); go_simp; try with_reducible rfl)
  simp only [Act.put,List.setIfInBounds_toArray,List.set_cons_zero,List.set_cons_succ]
  refine wpAnyH_take (i:=6) (oi:=⟨some 34,.fieldAddr 140 (.tmp 3) 0,0,_,#[],none⟩) (v:=?_) rfl (by kernel_rfl) (by kernel_rfl) (by kernel_rfl) (fun _ _ _ h=>h) (Or.inl ⟨by rfl,?_⟩) (by assumption) ?_
  rotate_left
  · (intro w hSw; (try dsimp only at hSw); go_simp; try with_reducible rfl)
  simp only [Act.put,List.setIfInBounds_toArray,List.set_cons_zero,List.set_cons_succ]
  refine wpAnyH_take (i:=7) (oi:=⟨some 35,.load 3 (.tmp 34),3,_,#[⟨6,.data⟩],none⟩) (v:=?_) rfl (by kernel_rfl) (by kernel_rfl) (by kernel_rfl) (fun _ _ _ h=>h) (Or.inl ⟨by rfl,?_⟩) (by assumption) ?_
  rotate_left
  · (intro w hSw; (try dsimp only at hSw); go_simp; try with_reducible rfl)
  simp only [Act.put,List.setIfInBounds_toArray,List.set_cons_zero,List.set_cons_succ]
  refine wpAnyH_take (i:=8) (oi:=⟨some 36,.indexAddr 170 (.global 1) (.tmp 35),0,_,#[⟨7,.data⟩],none⟩) (v:=?_) rfl (by kernel_rfl) (by kernel_rfl) (by kernel_rfl) (fun _ _ _ h=>h) (Or.inl ⟨by rfl,?_⟩) (by assumption) ?_
  rotate_left
  · (intro w hSw; (try dsimp only at hSw); go_simp; try with_reducible rfl)
  simp only [Act.put,List.setIfInBounds_toArray,List.set_cons_zero,List.set_cons_succ]
  refine wpAnyH_take (i:=9) (oi:=⟨some 37,.load 5 (.tmp 36),5,_,#[⟨8,.data⟩],none⟩) (v:=?_) rfl (by kernel_rfl) (by kernel_rfl) (by kernel_rfl) (fun _ _ _ h=>h) (Or.inl ⟨by rfl,?_⟩) (by assumption) ?_
  rotate_left
  · (intro w hSw; (try dsimp only at hSw); go_simp; try with_reducible rfl)
  simp only [Act.put,List.setIfInBounds_toArray,List.set_cons_zero,List.set_cons_succ]
  refine wpAnyH_take (i:=10) (oi:=⟨some 38,.binOp BinOp.shr 32 (.tmp 33) (.tmp 37) 5,32,_,#[⟨5,.data⟩,⟨9,.data⟩],none⟩) (v:=?_) rfl (by kernel_rfl) (by kernel_rfl) (by kernel_rfl) (fun _ _ _ h=>h) (Or.inl ⟨by rfl,?_⟩) (by assumption) ?_
  rotate_left
  · (intro w hSw; (try dsimp only at hSw); go_simp; try with_reducible rfl)
  simp only [Act.put,List.setIfInBounds_toArray,List.set_cons_zero,List.set_cons_succ]
  refine wpAnyH_take (i:=11) (oi:=⟨some 39,.fieldAddr 140 (.tmp 3) 0,0,_,#[],none⟩) (v:=?_) rfl (by kernel_rfl) (by kernel_rfl) (by kernel_rfl) (fun _ _ _ h=>h) (Or.inl ⟨by rfl,?_⟩) (by assumption) ?_
  rotate_left
  · (intro w hSw; (try dsimp only at hSw); go_simp; try with_reducible rfl)
  simp only [Act.put,List.setIfInBounds_toArray,List.set_cons_zero,List.set_cons_succ]
  refine wpAnyH_take (i:=12) (oi:=⟨some 40,.load 3 (.tmp 39),3,_,#[⟨11,.data⟩],none⟩) (v:=?_) rfl (by kernel_rfl) (by kernel_rfl) (by kernel_rfl) (fun _ _ _ h=>h) (Or.inl ⟨by rfl,?_⟩) (by assumption) ?_
  rotate_left
  · (intro w hSw; (try dsimp only at hSw); go_simp; try with_reducible rfl)
  simp only [Act.put,List.setIfInBounds_toArray,List.set_cons_zero,List.set_cons_succ]
  refine wpAnyH_take (i:=13) (oi:=⟨some 41,.indexAddr 170 (.global 1) (.tmp 40),0,_,#[⟨12,.data⟩],none⟩) (v:=?_) rfl (by kernel_rfl) (by kernel_rfl) (by kernel_rfl) (fun _ _ _ h=>h) (Or.inl ⟨by rfl,?_⟩) (by assumption) ?_
  rotate_left
  · (intro w hSw; (try dsimp only at hSw); go_simp; try with_reducible rfl)
  simp only [Act.put,List.setIfInBounds_toArray,List.set_cons_zero,List.set_cons_succ]
  refine wpAnyH_take (i:=14) (oi:=⟨some 42,.load 5 (.tmp 41),5,_,#[⟨13,.data⟩],none⟩) (v:=?_) rfl (by kernel_rfl) (by kernel_rfl) (by kernel_rfl) (fun _ _ _ h=>h) (Or.inl ⟨by rfl,?_⟩) (by assumption) ?_
  rotate_left
  · (intro w hSw; (try dsimp only at hSw); go_simp; try with_reducible rfl)
  simp only [Act.put,List.setIfInBounds_toArray,List.set_cons_zero,List.set_cons_succ]
  refine wpAnyH_take (i:=15) (oi:=⟨some 43,.binOp BinOp.shl 32 (.tmp 38) (.tmp 42) 5,32,_,#[⟨10,.data⟩,⟨14,.data⟩],none⟩) (v:=?_) rfl (by kernel_rfl) (by kernel_rfl) (by kernel_rfl) (fun _ _ _ h=>h) (Or.inl ⟨by rfl,?_⟩) (by assumption) ?_
  rotate_left
  · (intro w hSw; (try dsimp only at hSw); go_simp; try with_reducible rfl)
  simp only [Act.put,List.setIfInBounds_toArray,List.set_cons_zero,List.set_cons_succ]
  refine wpAnyH_take (i:=16) (oi:=⟨some 44,.fieldAddr 140 (.tmp 3) 1,0,_,#[],none⟩) (v:=?_) rfl (by kernel_rfl) (by kernel_rfl) (by kernel_rfl) (fun _ _ _ h=>h) (Or.inl ⟨by rfl,?_⟩) (by assumption) ?_
  rotate_left
  · (intro w hSw; (try dsimp only at hSw); go_simp; try with_reducible rfl)
  simp only [Act.put,List.setIfInBounds_toArray,List.set_cons_zero,List.set_cons_succ]
  refine wpAnyH_take (i:=17) (oi:=⟨some 45,.load 35 (.tmp 44),35,_,#[⟨16,.data⟩],none⟩) (v:=?_) rfl (by kernel_rfl) (by kernel_rfl) (by kernel_rfl) (fun _ _ _ h=>h) (Or.inl ⟨by rfl,?_⟩) (by assumption) ?_
  rotate_left
  · (intro w hSw; (try dsimp only at hSw); go_simp; try with_reducible rfl)
  simp only [Act.put,List.setIfInBounds_toArray,List.set_cons_zero,List.set_cons_succ]
  refine wpAnyH_take (i:=18) (oi:=⟨some 46,.move (.tmp 1),3,_,#[],none⟩) (v:=?_) rfl (by kernel_rfl) (by kernel_rfl) (by kernel_rfl) (fun _ _ _ h=>h) (Or.inl ⟨by rfl,?_⟩) (by assumption) ?_
  rotate_left
  · (intro w hSw; (try dsimp only at hSw); go_simp; try with_reducible rfl)
  simp only [Act.put,List.setIfInBounds_toArray,List.set_cons_zero,List.set_cons_succ]
  refine wpAnyH_take (i:=19) (oi:=⟨some 47,.fieldAddr 140 (.tmp 3) 4,0,_,#[],none⟩) (v:=?_) rfl (by kernel_rfl) (by kernel_rfl) (by kernel_rfl) (fun _ _ _ h=>h) (Or.inl ⟨by rfl,?_⟩) (by assumption) ?_
  rotate_left
  · (intro w hSw; (try dsimp only at hSw); go_simp; try with_reducible rfl)
  simp only [Act.put,List.setIfInBounds_toArray,List.set_cons_zero,List.set_cons_succ]
  refine wpAnyH_take (i:=20) (oi:=⟨some 48,.load 41 (.tmp 47),41,_,#[⟨19,.data⟩],none⟩) (v:=?_) rfl (by kernel_rfl) (by kernel_rfl) (by kernel_rfl) (fun _ _ _ h=>h) (Or.inl ⟨by rfl,?_⟩) (by assumption) ?_
  rotate_left
  · (intro w hSw; (try dsimp only at hSw); go_simp; try with_reducible rfl)
  simp only [Act.put,List.setIfInBounds_toArray,List.set_cons_zero,List.set_cons_succ]
  refine wpAnyH_take (i:=21) (oi:=⟨some 49,.build 43 #[(0,.tmp 32),(1,.tmp 43),(2,.tmp 45),(3,.tmp 46),(4,.tmp 48)],43,_,#[⟨4,.data⟩,⟨15,.data⟩,⟨17,.data⟩,⟨18,.data⟩,⟨20,.data⟩],none⟩) (v:=?_) rfl (by kernel_rfl) (by kernel_rfl) (by kernel_rfl) (fun _ _ _ h=>h) (Or.inl ⟨by rfl,?_⟩) (by assumption) ?_
  rotate_left
  · (intro w hSw; (try dsimp only at hSw); go_simp; try with_reducible rfl)
  simp only [Act.put,List.setIfInBounds_toArray,List.set_cons_zero,List.set_cons_succ]
  refine wpAnyH_ready (rs:=[22]) (by kernel_rfl) (by simp) ?_
  refine AllReadyH.cons (o:=⟨none,.store 43 (.tmp 6) (.tmp 49),0,_,#[⟨21,.data⟩,⟨0,.phase⟩,⟨1,.phase⟩,⟨2,.phase⟩,⟨3,.phase⟩,⟨4,.phase⟩,⟨5,.phase⟩,⟨6,.phase⟩,⟨7,.phase⟩,⟨8,.phase⟩,⟨9,.phase⟩,⟨10,.phase⟩,⟨11,.phase⟩,⟨12,.phase⟩,⟨13,.phase⟩,⟨14,.phase⟩,⟨15,.phase⟩,⟨16,.phase⟩,⟨17,.phase⟩,⟨18,.phase⟩,⟨19,.phase⟩,⟨20,.phase⟩,⟨21,.phase⟩],none⟩) rfl (fun K hK=> ?_) AllReadyH.nil
  go_simp
  skip
  refine hK.out _ _ ?_ (fun hHeld=> ?_)
  · (((try dsimp only); exact ⟨(keep8 hx1 _ m0 _ _ _ _ _ _ _ _).cell 0,(keep8 hx1 _ m0 _ _ _ _ _ _ _ _).cell 1,(keep8 hx1 _ m0 _ _ _ _ _ _ _ _).cell 4,(keep8 hx1 _ m0 _ _ _ _ _ _ _ _).cell 5,(keep8 hx1 _ m0 _ _ _ _ _ _ _ _).cell 6,(keep8 hx1 _ m0 _ _ _ _ _ _ _ _).cell 7,far8 g3 _ n1 _ _ _ _ _ _ _ _,far8 g4 _ n2 _ _ _ _ _ _ _ _⟩))
  clear hK K
  try simp only [Act.put,List.setIfInBounds_toArray,List.set_cons_zero,List.set_cons_succ]
  refine wpAnyH_done (by kernel_rfl) ?_ _
  go_wp2
  refine bodyPost_ret (v:= .agg #[.int .i64 1,.int .u32 (va / 4096*4096),.int .u64 k2,.int .i64 dm,.int .i64 k5,.int .u32 k6,.bool k7,.bool k8]) (by simp [results,Tryz.results63,go_sem,hd,hw,IntKind.wrap_u32,IntKind.wrap_i64]) rfl ⟨rfl,(by refine below_drew ?_; (repeat (refine Below.setCell ?_ (by simp) _)); exact HB.out)⟩
end Go.Proofs.YtnjlajjjcmhfgaaGreatDoor
