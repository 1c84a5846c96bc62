import Derived.Test.YtnjlajjjcmhfgaaGreatDoorTA06
import Derived.Test.YtnjlajjjcmhfgaaGreatDoorTA04
import Derived.Test.YtnjlajjjcmhfgaaGreatDoorTA05
import Derived.Handy
namespace Go.Proofs.YtnjlajjjcmhfgaaGreatDoor
open Go.RowKit
set_option linter.unusedVariables false
set_option linter.unusedSimpArgs false
def sb (e:Ent):Bool:=if e.kind=2∨e.kind=3 then (D1 (E e)).same e else if e.kind=4∨e.kind=5 then (D2 (E e)).same e else false
def szK (k:Int):Int:=if k=2 then 3 else if k=3 then 4 else if k=4 then 2 else if k=5 then 1 else 0
def kdS (s:Int):Int:=if s=1 then 5 else if s=2 then 4 else if s=3 then 2 else if s=4 then 3 else 0
def tZ:Tra:=⟨0,0,0,0,0,0,false,false⟩
def domOf (e:Ent) (d:Int):Int:=if e.kind=2∨e.kind=3 then e.dom else d
def trF (e:Ent) (d va:Int):Tra:=if sb e=true∧0≤domOf e d∧domOf e d≤15 then ⟨szK e.kind,va / byN (szK e.kind)*byN (szK e.kind),e.base,domOf e d,e.ap,e.bits,e.ng,e.xn⟩ else tZ
def enF (t:Tra):Ent:=⟨kdS t.size,t.pa,if t.size=3 then t.dom else 0,false,t.ap,t.bits,t.ng,t.xn⟩
def riF (t:Tra):Bool:=(decide (1≤t.size) && decide (t.size≤4)) && (trF (enF t) t.dom t.va).same t
theorem sb_kind {e:Ent} (h:sb e=true):e.kind=2∨e.kind=3∨e.kind=4∨e.kind=5:=by
  unfold sb at h
  split at h
  · omega
  · split at h
    · omega
    · cases h
set_option maxRecDepth 100000 in
set_option maxHeartbeats 4000000 in
theorem says_2 (k2 k3:Int) (k4:Bool) (k5 k6:Int) (k7 k8:Bool) (v:Int) (d:Ent) (S:Bool) (W:World) (ht:TE W)
    (HE:∀ww,TE ww→Calls Tryz.prog 141 #[.agg #[.int .i64 2,.int .u64 k2,.int .i64 k3,.bool k4,.int .i64 k5,.int .u32 k6,.bool k7,.bool k8]] ww fun r w'=>r= .returned (.int .u32 v)∧Below ww.heap.size ww w')
    (HD:∀ww,TE ww→Calls Tryz.prog 100 #[.int .u32 v] ww fun r w'=>r= .returned (.agg #[.int .i64 d.kind,.int .u64 d.base,.int .i64 d.dom,.bool d.ns,.int .i64 d.ap,.int .u32 d.bits,.bool d.ng,.bool d.xn])∧Below ww.heap.size ww w')
    (heq:∀w,(Op.equalIn 10000 140 (.agg #[.int .i64 d.kind,.int .u64 d.base,.int .i64 d.dom,.bool d.ns,.int .i64 d.ap,.int .u32 d.bits,.bool d.ng,.bool d.xn]) (.agg #[.int .i64 2,.int .u64 k2,.int .i64 k3,.bool k4,.int .i64 k5,.int .u32 k6,.bool k7,.bool k8])).run Tryz.prog w= .ok S w) :
    Calls Tryz.prog 102 #[.agg #[.int .i64 2,.int .u64 k2,.int .i64 k3,.bool k4,.int .i64 k5,.int .u32 k6,.bool k7,.bool k8]] W fun r w'=>r= .returned (.bool S)∧Below W.heap.size W w':=by
  have hx1:=(Bl.new W 140 [.int .i64 2,.int .u64 k2,.int .i64 k3,.bool k4,.int .i64 k5,.int .u32 k6,.bool k7,.bool k8]).drew
  have HT:Hid (TE W):=ht
  clear ht
  have HB:Hid (∀o,Below W.heap.size W (W.alloc o).drew):=fun o=>below_drew ((Below.refl _ _).alloc (Nat.le_refl _) o)
  go_enter Tryz.func102,Tryz.ntmps102
  go_wp2
  refine wp_region_held_drew (S:=fun w'=>w'.cell? ⟨W.heap.size,0,none⟩=some (.int .i64 2)∧w'.cell? ⟨W.heap.size,1,none⟩=some (.int .u64 k2)∧w'.cell? ⟨W.heap.size,2,none⟩=some (.int .i64 k3)∧w'.cell? ⟨W.heap.size,3,none⟩=some (.bool k4)∧w'.cell? ⟨W.heap.size,4,none⟩=some (.int .i64 k5)∧w'.cell? ⟨W.heap.size,5,none⟩=some (.int .u32 k6)∧w'.cell? ⟨W.heap.size,6,none⟩=some (.bool k7)∧w'.cell? ⟨W.heap.size,7,none⟩=some (.bool k8)) (by kernel_rfl) (by (try dsimp only); exact ⟨hx1.cell 0,hx1.cell 1,hx1.cell 2,hx1.cell 3,hx1.cell 4,hx1.cell 5,hx1.cell 6,hx1.cell 7⟩) (fun hHeld=> ?_)
  refine wpAnyH_take (i:=0) (oi:=⟨some 8,.load 140 (.tmp 1),140,_,#[],none⟩) (v:=?_) rfl (by kernel_rfl) (by kernel_rfl) (by kernel_rfl) (fun _ _ _ h=>h) (Or.inl ⟨by rfl,?_⟩) (by assumption) ?_
  rotate_left
  · (intro w hSw; (try dsimp only at hSw); go_simp; try with_reducible rfl)
  simp only [Act.put,List.setIfInBounds_toArray,List.set_cons_zero,List.set_cons_succ]
  refine wpAnyH_take (i:=3) (oi:=⟨some 11,.load 140 (.tmp 1),140,_,#[],none⟩) (v:=?_) rfl (by kernel_rfl) (by kernel_rfl) (by kernel_rfl) (fun _ _ _ h=>h) (Or.inl ⟨by rfl,?_⟩) (by assumption) ?_
  rotate_left
  · (intro w hSw; (try dsimp only at hSw); go_simp; try with_reducible rfl)
  simp only [Act.put,List.setIfInBounds_toArray,List.set_cons_zero,List.set_cons_succ]
  refine wpAnyH_ready (rs:=[1]) (by kernel_rfl) (by simp) ?_
  refine AllReadyH.cons (o:=⟨some 9,.call ⟨.value (.func 141),#[.tmp 8],#[140]⟩,32,_,#[⟨0,.data⟩],none⟩) rfl (fun K hK=> ?_) AllReadyH.nil
  go_simp
  (go_at_call 141; refine (HE _ (HT.out.below (HB.out _))).mono ?_; rintro e w2 ⟨rfl,hb⟩; have hx2:=hx1.below hb; have HB2:Hid (Below W.heap.size W w2):=Below.step (HB.out _) hb; clear hb; go_wp2_with fail)
  refine hK.out _ _ ?_ (fun hHeld=> ?_)
  · ((try dsimp only); (first|(exact ⟨hx3.cell 0,hx3.cell 1,hx3.cell 2,hx3.cell 3,hx3.cell 4,hx3.cell 5,hx3.cell 6,hx3.cell 7⟩)|(exact ⟨hx2.cell 0,hx2.cell 1,hx2.cell 2,hx2.cell 3,hx2.cell 4,hx2.cell 5,hx2.cell 6,hx2.cell 7⟩)))
  clear hK K
  try simp only [Act.put,List.setIfInBounds_toArray,List.set_cons_zero,List.set_cons_succ]
  refine wpAnyH_ready (rs:=[2]) (by kernel_rfl) (by simp) ?_
  refine AllReadyH.cons (o:=⟨some 10,.call ⟨.value (.func 100),#[.tmp 9],#[32]⟩,140,_,#[⟨1,.data⟩,⟨1,.chain⟩],none⟩) rfl (fun K hK=> ?_) AllReadyH.nil
  go_simp
  (go_at_call 100; refine (HD _ (HT.out.below HB2.out)).mono ?_; rintro e w3 ⟨rfl,hb⟩; have hx3:=hx2.below hb; have HB3:Hid (Below W.heap.size W w3):=Below.step HB2.out hb; clear hb; go_wp2_with fail)
  refine hK.out _ _ ?_ (fun hHeld=> ?_)
  · ((try dsimp only); (first|(exact ⟨hx3.cell 0,hx3.cell 1,hx3.cell 2,hx3.cell 3,hx3.cell 4,hx3.cell 5,hx3.cell 6,hx3.cell 7⟩)|(exact ⟨hx2.cell 0,hx2.cell 1,hx2.cell 2,hx2.cell 3,hx2.cell 4,hx2.cell 5,hx2.cell 6,hx2.cell 7⟩)))
  clear hK K
  try simp only [Act.put,List.setIfInBounds_toArray,List.set_cons_zero,List.set_cons_succ]
  refine wpAnyH_take (i:=4) (oi:=⟨some 12,.binOp BinOp.eql 140 (.tmp 10) (.tmp 11) 140,4,_,#[⟨2,.data⟩,⟨3,.data⟩],none⟩) (v:=?_) rfl (by kernel_rfl) (by kernel_rfl) (by kernel_rfl) (fun _ _ _ h=>h) (Or.inl ⟨by rfl,?_⟩) (by assumption) ?_
  rotate_left
  · (intro w hSw; (try dsimp only at hSw); go_simp; try with_reducible rfl)
  simp only [Act.put,List.setIfInBounds_toArray,List.set_cons_zero,List.set_cons_succ]
  refine wpAnyH_take (i:=5) (oi:=⟨some 2,.assign (.tmp 12),4,_,#[⟨4,.data⟩,⟨2,.chain⟩,⟨0,.phase⟩,⟨1,.phase⟩,⟨2,.phase⟩,⟨3,.phase⟩,⟨4,.phase⟩],none⟩) (v:=?_) rfl (by kernel_rfl) (by kernel_rfl) (by kernel_rfl) (fun _ _ _ h=>h) (Or.inl ⟨by rfl,?_⟩) (by assumption) ?_
  rotate_left
  · (intro w hSw; (try dsimp only at hSw); go_simp; try with_reducible rfl)
  simp only [Act.put,List.setIfInBounds_toArray,List.set_cons_zero,List.set_cons_succ]
  refine wpAnyH_done (by kernel_rfl) ?_ _
  go_wp2
  go_ret
  exact ⟨rfl,HB3.out⟩
set_option maxRecDepth 100000 in
set_option maxHeartbeats 4000000 in
theorem says_3 (k2 k3:Int) (k4:Bool) (k5 k6:Int) (k7 k8:Bool) (v:Int) (d:Ent) (S:Bool) (W:World) (ht:TE W)
    (HE:∀ww,TE ww→Calls Tryz.prog 141 #[.agg #[.int .i64 3,.int .u64 k2,.int .i64 k3,.bool k4,.int .i64 k5,.int .u32 k6,.bool k7,.bool k8]] ww fun r w'=>r= .returned (.int .u32 v)∧Below ww.heap.size ww w')
    (HD:∀ww,TE ww→Calls Tryz.prog 100 #[.int .u32 v] ww fun r w'=>r= .returned (.agg #[.int .i64 d.kind,.int .u64 d.base,.int .i64 d.dom,.bool d.ns,.int .i64 d.ap,.int .u32 d.bits,.bool d.ng,.bool d.xn])∧Below ww.heap.size ww w')
    (heq:∀w,(Op.equalIn 10000 140 (.agg #[.int .i64 d.kind,.int .u64 d.base,.int .i64 d.dom,.bool d.ns,.int .i64 d.ap,.int .u32 d.bits,.bool d.ng,.bool d.xn]) (.agg #[.int .i64 3,.int .u64 k2,.int .i64 k3,.bool k4,.int .i64 k5,.int .u32 k6,.bool k7,.bool k8])).run Tryz.prog w= .ok S w) :
    Calls Tryz.prog 102 #[.agg #[.int .i64 3,.int .u64 k2,.int .i64 k3,.bool k4,.int .i64 k5,.int .u32 k6,.bool k7,.bool k8]] W fun r w'=>r= .returned (.bool S)∧Below W.heap.size W w':=by
  have hx1:=(Bl.new W 140 [.int .i64 3,.int .u64 k2,.int .i64 k3,.bool k4,.int .i64 k5,.int .u32 k6,.bool k7,.bool k8]).drew
  have HT:Hid (TE W):=ht
  clear ht
  have HB:Hid (∀o,Below W.heap.size W (W.alloc o).drew):=fun o=>below_drew ((Below.refl _ _).alloc (Nat.le_refl _) o)
  go_enter Tryz.func102,Tryz.ntmps102
  go_wp2
  refine wp_region_held_drew (S:=fun w'=>w'.cell? ⟨W.heap.size,0,none⟩=some (.int .i64 3)∧w'.cell? ⟨W.heap.size,1,none⟩=some (.int .u64 k2)∧w'.cell? ⟨W.heap.size,2,none⟩=some (.int .i64 k3)∧w'.cell? ⟨W.heap.size,3,none⟩=some (.bool k4)∧w'.cell? ⟨W.heap.size,4,none⟩=some (.int .i64 k5)∧w'.cell? ⟨W.heap.size,5,none⟩=some (.int .u32 k6)∧w'.cell? ⟨W.heap.size,6,none⟩=some (.bool k7)∧w'.cell? ⟨W.heap.size,7,none⟩=some (.bool k8)) (by kernel_rfl) (by (try dsimp only); exact ⟨hx1.cell 0,hx1.cell 1,hx1.cell 2,hx1.cell 3,hx1.cell 4,hx1.cell 5,hx1.cell 6,hx1.cell 7⟩) (fun hHeld=> ?_)
  refine wpAnyH_take (i:=0) (oi:=⟨some 8,.load 140 (.tmp 1),140,_,#[],none⟩) (v:=?_) rfl (by kernel_rfl) (by kernel_rfl) (by kernel_rfl) (fun _ _ _ h=>h) (Or.inl ⟨by rfl,?_⟩) (by assumption) ?_
  rotate_left
  · (intro w hSw; (try dsimp only at hSw); go_simp; try with_reducible rfl)
  simp only [Act.put,List.setIfInBounds_toArray,List.set_cons_zero,List.set_cons_succ]
  refine wpAnyH_take (i:=3) (oi:=⟨some 11,.load 140 (.tmp 1),140,_,#[],none⟩) (v:=?_) rfl (by kernel_rfl) (by kernel_rfl) (by kernel_rfl) (fun _ _ _ h=>h) (Or.inl ⟨by rfl,?_⟩) (by assumption) ?_
  rotate_left
  · (intro w hSw; (try dsimp only at hSw); go_simp; try with_reducible rfl)
  simp only [Act.put,List.setIfInBounds_toArray,List.set_cons_zero,List.set_cons_succ]
  refine wpAnyH_ready (rs:=[1]) (by kernel_rfl) (by simp) ?_
  refine AllReadyH.cons (o:=⟨some 9,.call ⟨.value (.func 141),#[.tmp 8],#[140]⟩,32,_,#[⟨0,.data⟩],none⟩) rfl (fun K hK=> ?_) AllReadyH.nil
  go_simp
  (go_at_call 141; refine (HE _ (HT.out.below (HB.out _))).mono ?_; rintro e w2 ⟨rfl,hb⟩; have hx2:=hx1.below hb; have HB2:Hid (Below W.heap.size W w2):=Below.step (HB.out _) hb; clear hb; go_wp2_with fail)
  refine hK.out _ _ ?_ (fun hHeld=> ?_)
  · ((try dsimp only); (first|(exact ⟨hx3.cell 0,hx3.cell 1,hx3.cell 2,hx3.cell 3,hx3.cell 4,hx3.cell 5,hx3.cell 6,hx3.cell 7⟩)|(exact ⟨hx2.cell 0,hx2.cell 1,hx2.cell 2,hx2.cell 3,hx2.cell 4,hx2.cell 5,hx2.cell 6,hx2.cell 7⟩)))
  clear hK K
  try simp only [Act.put,List.setIfInBounds_toArray,List.set_cons_zero,List.set_cons_succ]
  refine wpAnyH_ready (rs:=[2]) (by kernel_rfl) (by simp) ?_
  refine AllReadyH.cons (o:=⟨some 10,.call ⟨.value (.func 100),#[.tmp 9],#[32]⟩,140,_,#[⟨1,.data⟩,⟨1,.chain⟩],none⟩) rfl (fun K hK=> ?_) AllReadyH.nil
  go_simp
  (go_at_call 100; refine (HD _ (HT.out.below HB2.out)).mono ?_; rintro e w3 ⟨rfl,hb⟩; have hx3:=hx2.below hb; have HB3:Hid (Below W.heap.size W w3):=Below.step HB2.out hb; clear hb; go_wp2_with fail)
  refine hK.out _ _ ?_ (fun hHeld=> ?_)
  · ((try dsimp only); (first|(exact ⟨hx3.cell 0,hx3.cell 1,hx3.cell 2,hx3.cell 3,hx3.cell 4,hx3.cell 5,hx3.cell 6,hx3.cell 7⟩)|(exact ⟨hx2.cell 0,hx2.cell 1,hx2.cell 2,hx2.cell 3,hx2.cell 4,hx2.cell 5,hx2.cell 6,hx2.cell 7⟩)))
  clear hK K
  try simp only [Act.put,List.setIfInBounds_toArray,List.set_cons_zero,List.set_cons_succ]
  refine wpAnyH_take (i:=4) (oi:=⟨some 12,.binOp BinOp.eql 140 (.tmp 10) (.tmp 11) 140,4,_,#[⟨2,.data⟩,⟨3,.data⟩],none⟩) (v:=?_) rfl (by kernel_rfl) (by kernel_rfl) (by kernel_rfl) (fun _ _ _ h=>h) (Or.inl ⟨by rfl,?_⟩) (by assumption) ?_
  rotate_left
  · (intro w hSw; (try dsimp only at hSw); go_simp; try with_reducible rfl)
  simp only [Act.put,List.setIfInBounds_toArray,List.set_cons_zero,List.set_cons_succ]
  refine wpAnyH_take (i:=5) (oi:=⟨some 2,.assign (.tmp 12),4,_,#[⟨4,.data⟩,⟨2,.chain⟩,⟨0,.phase⟩,⟨1,.phase⟩,⟨2,.phase⟩,⟨3,.phase⟩,⟨4,.phase⟩],none⟩) (v:=?_) rfl (by kernel_rfl) (by kernel_rfl) (by kernel_rfl) (fun _ _ _ h=>h) (Or.inl ⟨by rfl,?_⟩) (by assumption) ?_
  rotate_left
  · (intro w hSw; (try dsimp only at hSw); go_simp; try with_reducible rfl)
  simp only [Act.put,List.setIfInBounds_toArray,List.set_cons_zero,List.set_cons_succ]
  refine wpAnyH_done (by kernel_rfl) ?_ _
  go_wp2
  go_ret
  exact ⟨rfl,HB3.out⟩
set_option maxRecDepth 100000 in
set_option maxHeartbeats 4000000 in
theorem says_4 (k2 k3:Int) (k4:Bool) (k5 k6:Int) (k7 k8:Bool) (v:Int) (d:Ent) (S:Bool) (W:World) (ht:TE W)
    (HE:∀ww,TE ww→Calls Tryz.prog 141 #[.agg #[.int .i64 4,.int .u64 k2,.int .i64 k3,.bool k4,.int .i64 k5,.int .u32 k6,.bool k7,.bool k8]] ww fun r w'=>r= .returned (.int .u32 v)∧Below ww.heap.size ww w')
    (HD:∀ww,TE ww→Calls Tryz.prog 101 #[.int .u32 v] ww fun r w'=>r= .returned (.agg #[.int .i64 d.kind,.int .u64 d.base,.int .i64 d.dom,.bool d.ns,.int .i64 d.ap,.int .u32 d.bits,.bool d.ng,.bool d.xn])∧Below ww.heap.size ww w')
    (heq:∀w,(Op.equalIn 10000 140 (.agg #[.int .i64 d.kind,.int .u64 d.base,.int .i64 d.dom,.bool d.ns,.int .i64 d.ap,.int .u32 d.bits,.bool d.ng,.bool d.xn]) (.agg #[.int .i64 4,.int .u64 k2,.int .i64 k3,.bool k4,.int .i64 k5,.int .u32 k6,.bool k7,.bool k8])).run Tryz.prog w= .ok S w) :
    Calls Tryz.prog 102 #[.agg #[.int .i64 4,.int .u64 k2,.int .i64 k3,.bool k4,.int .i64 k5,.int .u32 k6,.bool k7,.bool k8]] W fun r w'=>r= .returned (.bool S)∧Below W.heap.size W w':=by
  have hx1:=(Bl.new W 140 [.int .i64 4,.int .u64 k2,.int .i64 k3,.bool k4,.int .i64 k5,.int .u32 k6,.bool k7,.bool k8]).drew
  have HT:Hid (TE W):=ht
  clear ht
  have HB:Hid (∀o,Below W.heap.size W (W.alloc o).drew):=fun o=>below_drew ((Below.refl _ _).alloc (Nat.le_refl _) o)
  go_enter Tryz.func102,Tryz.ntmps102
  go_wp2
  refine wp_region_held_drew (S:=fun w'=>w'.cell? ⟨W.heap.size,0,none⟩=some (.int .i64 4)∧w'.cell? ⟨W.heap.size,1,none⟩=some (.int .u64 k2)∧w'.cell? ⟨W.heap.size,2,none⟩=some (.int .i64 k3)∧w'.cell? ⟨W.heap.size,3,none⟩=some (.bool k4)∧w'.cell? ⟨W.heap.size,4,none⟩=some (.int .i64 k5)∧w'.cell? ⟨W.heap.size,5,none⟩=some (.int .u32 k6)∧w'.cell? ⟨W.heap.size,6,none⟩=some (.bool k7)∧w'.cell? ⟨W.heap.size,7,none⟩=some (.bool k8)) (by kernel_rfl) (by (try dsimp only); exact ⟨hx1.cell 0,hx1.cell 1,hx1.cell 2,hx1.cell 3,hx1.cell 4,hx1.cell 5,hx1.cell 6,hx1.cell 7⟩) (fun hHeld=> ?_)
  refine wpAnyH_take (i:=0) (oi:=⟨some 16,.load 140 (.tmp 1),140,_,#[],none⟩) (v:=?_) rfl (by kernel_rfl) (by kernel_rfl) (by kernel_rfl) (fun _ _ _ h=>h) (Or.inl ⟨by rfl,?_⟩) (by assumption) ?_
  rotate_left
  · (intro w hSw; (try dsimp only at hSw); go_simp; try with_reducible rfl)
  simp only [Act.put,List.setIfInBounds_toArray,List.set_cons_zero,List.set_cons_succ]
  refine wpAnyH_take (i:=3) (oi:=⟨some 19,.load 140 (.tmp 1),140,_,#[],none⟩) (v:=?_) rfl (by kernel_rfl) (by kernel_rfl) (by kernel_rfl) (fun _ _ _ h=>h) (Or.inl ⟨by rfl,?_⟩) (by assumption) ?_
  rotate_left
  · (intro w hSw; (try dsimp only at hSw); go_simp; try with_reducible rfl)
  simp only [Act.put,List.setIfInBounds_toArray,List.set_cons_zero,List.set_cons_succ]
  refine wpAnyH_ready (rs:=[1]) (by kernel_rfl) (by simp) ?_
  refine AllReadyH.cons (o:=⟨some 17,.call ⟨.value (.func 141),#[.tmp 16],#[140]⟩,32,_,#[⟨0,.data⟩],none⟩) rfl (fun K hK=> ?_) AllReadyH.nil
  go_simp
  (go_at_call 141; refine (HE _ (HT.out.below (HB.out _))).mono ?_; rintro e w2 ⟨rfl,hb⟩; have hx2:=hx1.below hb; have HB2:Hid (Below W.heap.size W w2):=Below.step (HB.out _) hb; clear hb; go_wp2_with fail)
  refine hK.out _ _ ?_ (fun hHeld=> ?_)
  · ((try dsimp only); (first|(exact ⟨hx3.cell 0,hx3.cell 1,hx3.cell 2,hx3.cell 3,hx3.cell 4,hx3.cell 5,hx3.cell 6,hx3.cell 7⟩)|(exact ⟨hx2.cell 0,hx2.cell 1,hx2.cell 2,hx2.cell 3,hx2.cell 4,hx2.cell 5,hx2.cell 6,hx2.cell 7⟩)))
  clear hK K
  try simp only [Act.put,List.setIfInBounds_toArray,List.set_cons_zero,List.set_cons_succ]
  refine wpAnyH_ready (rs:=[2]) (by kernel_rfl) (by simp) ?_
  refine AllReadyH.cons (o:=⟨some 18,.call ⟨.value (.func 101),#[.tmp 17],#[32]⟩,140,_,#[⟨1,.data⟩,⟨1,.chain⟩],none⟩) rfl (fun K hK=> ?_) AllReadyH.nil
  go_simp
  (go_at_call 101; refine (HD _ (HT.out.below HB2.out)).mono ?_; rintro e w3 ⟨rfl,hb⟩; have hx3:=hx2.below hb; have HB3:Hid (Below W.heap.size W w3):=Below.step HB2.out hb; clear hb; go_wp2_with fail)
  refine hK.out _ _ ?_ (fun hHeld=> ?_)
  · ((try dsimp only); (first|(exact ⟨hx3.cell 0,hx3.cell 1,hx3.cell 2,hx3.cell 3,hx3.cell 4,hx3.cell 5,hx3.cell 6,hx3.cell 7⟩)|(exact ⟨hx2.cell 0,hx2.cell 1,hx2.cell 2,hx2.cell 3,hx2.cell 4,hx2.cell 5,hx2.cell 6,hx2.cell 7⟩)))
  clear hK K
  try simp only [Act.put,List.setIfInBounds_toArray,List.set_cons_zero,List.set_cons_succ]
  refine wpAnyH_take (i:=4) (oi:=⟨some 20,.binOp BinOp.eql 140 (.tmp 18) (.tmp 19) 140,4,_,#[⟨2,.data⟩,⟨3,.data⟩],none⟩) (v:=?_) rfl (by kernel_rfl) (by kernel_rfl) (by kernel_rfl) (fun _ _ _ h=>h) (Or.inl ⟨by rfl,?_⟩) (by assumption) ?_
  rotate_left
  · (intro w hSw; (try dsimp only at hSw); go_simp; try with_reducible rfl)
  simp only [Act.put,List.setIfInBounds_toArray,List.set_cons_zero,List.set_cons_succ]
  refine wpAnyH_take (i:=5) (oi:=⟨some 2,.assign (.tmp 20),4,_,#[⟨4,.data⟩,⟨2,.chain⟩,⟨0,.phase⟩,⟨1,.phase⟩,⟨2,.phase⟩,⟨3,.phase⟩,⟨4,.phase⟩],none⟩) (v:=?_) rfl (by kernel_rfl) (by kernel_rfl) (by kernel_rfl) (fun _ _ _ h=>h) (Or.inl ⟨by rfl,?_⟩) (by assumption) ?_
  rotate_left
  · (intro w hSw; (try dsimp only at hSw); go_simp; try with_reducible rfl)
  simp only [Act.put,List.setIfInBounds_toArray,List.set_cons_zero,List.set_cons_succ]
  refine wpAnyH_done (by kernel_rfl) ?_ _
  go_wp2
  go_ret
  exact ⟨rfl,HB3.out⟩
set_option maxRecDepth 100000 in
set_option maxHeartbeats 4000000 in
theorem says_5 (k2 k3:Int) (k4:Bool) (k5 k6:Int) (k7 k8:Bool) (v:Int) (d:Ent) (S:Bool) (W:World) (ht:TE W)
    (HE:∀ww,TE ww→Calls Tryz.prog 141 #[.agg #[.int .i64 5,.int .u64 k2,.int .i64 k3,.bool k4,.int .i64 k5,.int .u32 k6,.bool k7,.bool k8]] ww fun r w'=>r= .returned (.int .u32 v)∧Below ww.heap.size ww w')
    (HD:∀ww,TE ww→Calls Tryz.prog 101 #[.int .u32 v] ww fun r w'=>r= .returned (.agg #[.int .i64 d.kind,.int .u64 d.base,.int .i64 d.dom,.bool d.ns,.int .i64 d.ap,.int .u32 d.bits,.bool d.ng,.bool d.xn])∧Below ww.heap.size ww w')
    (heq:∀w,(Op.equalIn 10000 140 (.agg #[.int .i64 d.kind,.int .u64 d.base,.int .i64 d.dom,.bool d.ns,.int .i64 d.ap,.int .u32 d.bits,.bool d.ng,.bool d.xn]) (.agg #[.int .i64 5,.int .u64 k2,.int .i64 k3,.bool k4,.int .i64 k5,.int .u32 k6,.bool k7,.bool k8])).run Tryz.prog w= .ok S w) :
    Calls Tryz.prog 102 #[.agg #[.int .i64 5,.int .u64 k2,.int .i64 k3,.bool k4,.int .i64 k5,.int .u32 k6,.bool k7,.bool k8]] W fun r w'=>r= .returned (.bool S)∧Below W.heap.size W w':=by
  have hx1:=(Bl.new W 140 [.int .i64 5,.int .u64 k2,.int .i64 k3,.bool k4,.int .i64 k5,.int .u32 k6,.bool k7,.bool k8]).drew
  have HT:Hid (TE W):=ht
  clear ht
  have HB:Hid (∀o,Below W.heap.size W (W.alloc o).drew):=fun o=>below_drew ((Below.refl _ _).alloc (Nat.le_refl _) o)
  go_enter Tryz.func102,Tryz.ntmps102
  go_wp2
  refine wp_region_held_drew (S:=fun w'=>w'.cell? ⟨W.heap.size,0,none⟩=some (.int .i64 5)∧w'.cell? ⟨W.heap.size,1,none⟩=some (.int .u64 k2)∧w'.cell? ⟨W.heap.size,2,none⟩=some (.int .i64 k3)∧w'.cell? ⟨W.heap.size,3,none⟩=some (.bool k4)∧w'.cell? ⟨W.heap.size,4,none⟩=some (.int .i64 k5)∧w'.cell? ⟨W.heap.size,5,none⟩=some (.int .u32 k6)∧w'.cell? ⟨W.heap.size,6,none⟩=some (.bool k7)∧w'.cell? ⟨W.heap.size,7,none⟩=some (.bool k8)) (by kernel_rfl) (by (try dsimp only); exact ⟨hx1.cell 0,hx1.cell 1,hx1.cell 2,hx1.cell 3,hx1.cell 4,hx1.cell 5,hx1.cell 6,hx1.cell 7⟩) (fun hHeld=> ?_)
  refine wpAnyH_take (i:=0) (oi:=⟨some 16,.load 140 (.tmp 1),140,_,#[],none⟩) (v:=?_) rfl (by kernel_rfl) (by kernel_rfl) (by kernel_rfl) (fun _ _ _ h=>h) (Or.inl ⟨by rfl,?_⟩) (by assumption) ?_
  rotate_left
  · (intro w hSw; (try dsimp only at hSw); go_simp; try with_reducible rfl)
  simp only [Act.put,List.setIfInBounds_toArray,List.set_cons_zero,List.set_cons_succ]
  refine wpAnyH_take (i:=3) (oi:=⟨some 19,.load 140 (.tmp 1),140,_,#[],none⟩) (v:=?_) rfl (by kernel_rfl) (by kernel_rfl) (by kernel_rfl) (fun _ _ _ h=>h) (Or.inl ⟨by rfl,?_⟩) (by assumption) ?_
  rotate_left
  · (intro w hSw; (try dsimp only at hSw); go_simp; try with_reducible rfl)
  simp only [Act.put,List.setIfInBounds_toArray,List.set_cons_zero,List.set_cons_succ]
  refine wpAnyH_ready (rs:=[1]) (by kernel_rfl) (by simp) ?_
  refine AllReadyH.cons (o:=⟨some 17,.call ⟨.value (.func 141),#[.tmp 16],#[140]⟩,32,_,#[⟨0,.data⟩],none⟩) rfl (fun K hK=> ?_) AllReadyH.nil
  go_simp
  (go_at_call 141; refine (HE _ (HT.out.below (HB.out _))).mono ?_; rintro e w2 ⟨rfl,hb⟩; have hx2:=hx1.below hb; have HB2:Hid (Below W.heap.size W w2):=Below.step (HB.out _) hb; clear hb; go_wp2_with fail)
  refine hK.out _ _ ?_ (fun hHeld=> ?_)
  · ((try dsimp only); (first|(exact ⟨hx3.cell 0,hx3.cell 1,hx3.cell 2,hx3.cell 3,hx3.cell 4,hx3.cell 5,hx3.cell 6,hx3.cell 7⟩)|(exact ⟨hx2.cell 0,hx2.cell 1,hx2.cell 2,hx2.cell 3,hx2.cell 4,hx2.cell 5,hx2.cell 6,hx2.cell 7⟩)))
  clear hK K
  try simp only [Act.put,List.setIfInBounds_toArray,List.set_cons_zero,List.set_cons_succ]
  refine wpAnyH_ready (rs:=[2]) (by kernel_rfl) (by simp) ?_
  refine AllReadyH.cons (o:=⟨some 18,.call ⟨.value (.func 101),#[.tmp 17],#[32]⟩,140,_,#[⟨1,.data⟩,⟨1,.chain⟩],none⟩) rfl (fun K hK=> ?_) AllReadyH.nil
  go_simp
  (go_at_call 101; refine (HD _ (HT.out.below HB2.out)).mono ?_; rintro e w3 ⟨rfl,hb⟩; have hx3:=hx2.below hb; have HB3:Hid (Below W.heap.size W w3):=Below.step HB2.out hb; clear hb; go_wp2_with fail)
  refine hK.out _ _ ?_ (fun hHeld=> ?_)
  · ((try dsimp only); (first|(exact ⟨hx3.cell 0,hx3.cell 1,hx3.cell 2,hx3.cell 3,hx3.cell 4,hx3.cell 5,hx3.cell 6,hx3.cell 7⟩)|(exact ⟨hx2.cell 0,hx2.cell 1,hx2.cell 2,hx2.cell 3,hx2.cell 4,hx2.cell 5,hx2.cell 6,hx2.cell 7⟩)))
  clear hK K
  try simp only [Act.put,List.setIfInBounds_toArray,List.set_cons_zero,List.set_cons_succ]
  refine wpAnyH_take (i:=4) (oi:=⟨some 20,.binOp BinOp.eql 140 (.tmp 18) (.tmp 19) 140,4,_,#[⟨2,.data⟩,⟨3,.data⟩],none⟩) (v:=?_) rfl (by kernel_rfl) (by kernel_rfl) (by kernel_rfl) (fun _ _ _ h=>h) (Or.inl ⟨by rfl,?_⟩) (by assumption) ?_
  rotate_left
  · (intro w hSw; (try dsimp only at hSw); go_simp; try with_reducible rfl)
  simp only [Act.put,List.setIfInBounds_toArray,List.set_cons_zero,List.set_cons_succ]
  refine wpAnyH_take (i:=5) (oi:=⟨some 2,.assign (.tmp 20),4,_,#[⟨4,.data⟩,⟨2,.chain⟩,⟨0,.phase⟩,⟨1,.phase⟩,⟨2,.phase⟩,⟨3,.phase⟩,⟨4,.phase⟩],none⟩) (v:=?_) rfl (by kernel_rfl) (by kernel_rfl) (by kernel_rfl) (fun _ _ _ h=>h) (Or.inl ⟨by rfl,?_⟩) (by assumption) ?_
  rotate_left
  · (intro w hSw; (try dsimp only at hSw); go_simp; try with_reducible rfl)
  simp only [Act.put,List.setIfInBounds_toArray,List.set_cons_zero,List.set_cons_succ]
  refine wpAnyH_done (by kernel_rfl) ?_ _
  go_wp2
  go_ret
  exact ⟨rfl,HB3.out⟩
set_option maxRecDepth 100000 in
set_option maxHeartbeats 4000000 in
theorem says_no (e:Ent) (W:World) (h:¬(e.kind=2∨e.kind=3∨e.kind=4∨e.kind=5)):Calls Tryz.prog 102 #[.agg #[.int .i64 e.kind,.int .u64 e.base,.int .i64 e.dom,.bool e.ns,.int .i64 e.ap,.int .u32 e.bits,.bool e.ng,.bool e.xn]] W fun r w'=>r= .returned (.bool false)∧Below W.heap.size W w':=by
  have h2:(e.kind == 2)=false:=by simp; omega
  have h3:(e.kind == 3)=false:=by simp; omega
  have h4:(e.kind == 4)=false:=by simp; omega
  have h5:(e.kind == 5)=false:=by simp; omega
  have HB:Hid (∀o,Below W.heap.size W (W.alloc o)):=fun o=>((Below.refl _ _).alloc (Nat.le_refl _) o)
  clear h
  go_enter Tryz.func102,Tryz.ntmps102
  go_wp2
  go_ret
  exact ⟨rfl,HB.out _⟩
theorem saysBlock_any (e:Ent) (W:World) (ht:TE W) (hO:Ok e):Calls Tryz.prog 102 #[.agg #[.int .i64 e.kind,.int .u64 e.base,.int .i64 e.dom,.bool e.ns,.int .i64 e.ap,.int .u32 e.bits,.bool e.ng,.bool e.xn]] W fun r w'=>r= .returned (.bool (sb e))∧Below W.heap.size W w':=by
  have HE:=fun ww (hh:TE ww)=>encode_any e ww hh hO
  have H1:=fun ww (hh:TE ww)=>Decode1_any (E e) ww hh.toTD (E_rng e hO)
  have H2:=fun ww (hh:TE ww)=>Decode2_any (E e) ww hh.toTD (E_rng e hO)
  have q1:=eqE (D1 (E e)) e
  have q2:=eqE (D2 (E e)) e
  by_cases h:e.kind=2∨e.kind=3∨e.kind=4∨e.kind=5
  · rcases h with h|h|h|h
    · rw [show sb e=(D1 (E e)).same e by unfold sb; rw [if_pos (.inl h)]]
      generalize (D1 (E e)).same e=S at *
      generalize D1 (E e)=d at *
      generalize E e=v at *
      rw [h] at HE q1 ⊢
      exact says_2 _ _ _ _ _ _ _ v d S W ht HE H1 q1
    · rw [show sb e=(D1 (E e)).same e by unfold sb; rw [if_pos (.inr h)]]
      generalize (D1 (E e)).same e=S at *
      generalize D1 (E e)=d at *
      generalize E e=v at *
      rw [h] at HE q1 ⊢
      exact says_3 _ _ _ _ _ _ _ v d S W ht HE H1 q1
    · rw [show sb e=(D2 (E e)).same e by unfold sb; rw [if_neg (by omega),if_pos (.inl h)]]
      generalize (D2 (E e)).same e=S at *
      generalize D2 (E e)=d at *
      generalize E e=v at *
      rw [h] at HE q2 ⊢
      exact says_4 _ _ _ _ _ _ _ v d S W ht HE H2 q2
    · rw [show sb e=(D2 (E e)).same e by unfold sb; rw [if_neg (by omega),if_pos (.inr h)]]
      generalize (D2 (E e)).same e=S at *
      generalize D2 (E e)=d at *
      generalize E e=v at *
      rw [h] at HE q2 ⊢
      exact says_5 _ _ _ _ _ _ _ v d S W ht HE H2 q2
  · rw [show sb e=false by unfold sb; rw [if_neg (by omega),if_neg (by omega)]]
    exact says_no e W h
end Go.Proofs.YtnjlajjjcmhfgaaGreatDoor
namespace Go.Proofs.YtnjlajjjcmhfgaaGreatDoor
open Go.RowKit
set_option linter.unusedVariables false
theorem below_new (w:World) (o:Obj):Below w.heap.size w (w.alloc o):=(Below.refl _ _).alloc (Nat.le_refl _) o
structure Fa where
  k:Int
  l:Int
  d:Int
def fZ:Fa:=⟨0,0,0⟩
structure Ctx where
  on:Bool
  tre:Bool
  afe:Bool
  n:Int
  pd0:Bool
  pd1:Bool
  b0:Int
  b1:Int
  dacr:Int
  prrr:Int
  nmrr:Int
  asid:Int
end Go.Proofs.YtnjlajjjcmhfgaaGreatDoor
namespace Go.Proofs.YtnjlajjjcmhfgaaGreatDoor
open Go.RowKit
set_option linter.unusedVariables false
set_option linter.unusedSimpArgs false
theorem ok_D1 (x:Int) (h:0≤x∧x<4294967296):Ok (D1 x)∧Says1 (D1 x):=by
  obtain ⟨h0,h1⟩:=h
  unfold D1
  split
  · refine ⟨⟨?_,?_⟩,.inr (.inl ⟨rfl,?_,?_,rfl,rfl,rfl,rfl⟩)⟩ <;>simp only [dT,F_5_4] <;>omega
  · split
    · split
      · refine ⟨⟨?_,?_⟩,.inr (.inr (.inr ⟨rfl,?_,rfl,?_⟩))⟩ <;>simp only [dU,leafOk,F_5_4,F_3_1,F_19_1,F_15_1,F_10_2,F_12_3,F_2_2,F_16_1,F_17_1,F_4_1,F_20_4,F_9_1,F_4_2,F_10_1,F_11_1,F_6_3,F_0_1,F_18_1] <;>omega
      · refine ⟨⟨?_,?_⟩,.inr (.inr (.inl ⟨rfl,?_,?_,?_⟩))⟩ <;>simp only [dS,leafOk,F_5_4,F_3_1,F_19_1,F_15_1,F_10_2,F_12_3,F_2_2,F_16_1,F_17_1,F_4_1,F_20_4,F_9_1,F_4_2,F_10_1,F_11_1,F_6_3,F_0_1,F_18_1] <;>omega
    · exact ⟨⟨by decide,by decide⟩,.inl rfl⟩
theorem ok_D2 (x:Int) (h:0≤x∧x<4294967296):Ok (D2 x)∧Says2 (D2 x):=by
  obtain ⟨h0,h1⟩:=h
  unfold D2
  split
  · exact ⟨⟨by decide,by decide⟩,.inl rfl⟩
  · split
    · refine ⟨⟨?_,?_⟩,.inr (.inl ⟨rfl,?_,rfl,rfl,?_⟩)⟩ <;>simp only [dL,leafOk,F_5_4,F_3_1,F_19_1,F_15_1,F_10_2,F_12_3,F_2_2,F_16_1,F_17_1,F_4_1,F_20_4,F_9_1,F_4_2,F_10_1,F_11_1,F_6_3,F_0_1,F_18_1] <;>omega
    · refine ⟨⟨?_,?_⟩,.inr (.inr ⟨rfl,?_,rfl,rfl,?_⟩)⟩ <;>simp only [dM,leafOk,F_5_4,F_3_1,F_19_1,F_15_1,F_10_2,F_12_3,F_2_2,F_16_1,F_17_1,F_4_1,F_20_4,F_9_1,F_4_2,F_10_1,F_11_1,F_6_3,F_0_1,F_18_1] <;>omega
theorem DED1 (x:Int) (h:0≤x∧x<4294967296):D1 (E (D1 x))=D1 x:=(says1_iff _ (ok_D1 x h).1).2 (ok_D1 x h).2
theorem DED2 (x:Int) (h:0≤x∧x<4294967296):D2 (E (D2 x))=D2 x:=(says2_iff _ (ok_D2 x h).1).2 (ok_D2 x h).2
end Go.Proofs.YtnjlajjjcmhfgaaGreatDoor
namespace Go.Proofs.YtnjlajjjcmhfgaaGreatDoor
open Go.RowKit
open Mm (Turn gr RM)
set_option linter.unusedVariables false
set_option linter.unusedSimpArgs false
structure Mo where
  wd:Int→Int
  er:Int→Int
def Mo.Ok (M:Mo):Prop:=∀a,0≤M.wd a∧M.wd a<4294967296
def nN (c:Ctx):Nat:=(c.n%8).toNat
def lw (c:Ctx) (va:Int):Bool:=va / 2^(32-nN c) == 0
def cl (b:Int) (n:Nat):Int:=b / 2^n*2^n
def fA (c:Ctx) (va:Int):Int:=if lw c va then cl c.b0 (14-nN c)+4*(va / 1048576) else cl c.b1 14+4*(va / 1048576)
def fO (c:Ctx) (va:Int):Bool:=if lw c va then !c.pd0 else !c.pd1
def w1 (M:Mo) (c:Ctx) (va:Int):Ent×Fa :=
  if fO c va then (if M.er (fA c va)=0 then (if (D1 (M.wd (fA c va))).kind=0 then (dZ,⟨3,0,0⟩) else (D1 (M.wd (fA c va)),fZ)) else (dZ,⟨2,0,0⟩)) else (dZ,⟨3,0,0⟩)
def sA (x:Ent) (va:Int):Int:=x.base+4*(va / 4096%256)
def w2 (M:Mo) (x:Ent) (va:Int):Tra×Fa :=
  if M.er (sA x va)=0 then (if (D2 (M.wd (sA x va))).kind=0 then (tZ,⟨5,0,x.dom⟩) else (trF (D2 (M.wd (sA x va))) x.dom va,fZ)) else (tZ,⟨4,0,x.dom⟩)
def itF (va:Int):Tra:=⟨1,va / 4096*4096,va / 4096*4096,0,3,0,false,false⟩
def wk (M:Mo) (c:Ctx) (va:Int):Tra×Fa :=
  if c.on then (if (w1 M c va).2.k=0 then (if (w1 M c va).1.kind=1 then w2 M (w1 M c va).1 va else (trF (w1 M c va).1 0 va,fZ)) else (tZ,(w1 M c va).2)) else (itF va,fZ)
def r1 (c:Ctx) (va:Int):List Int:=if fO c va then [fA c va] else []
def rdL (M:Mo) (c:Ctx) (va:Int):List Int :=
  if c.on then (if (w1 M c va).2.k=0∧(w1 M c va).1.kind=1 then r1 c va++[sA (w1 M c va).1 va] else r1 c va) else []
structure Ctx.Ok (c:Ctx):Prop where
  n: -9223372036854775808≤c.n∧c.n≤9223372036854775807
  b0:0≤c.b0∧c.b0<18446744073709551616
  b1:0≤c.b1∧c.b1<18446744073709551616
  dacr:0≤c.dacr∧c.dacr<4294967296
theorem nN_lt (c:Ctx):nN c≤7:=by unfold nN; omega
theorem pw_split (n:Nat) (h:n≤7):(2:Int)^(32-n)=2^(14-n)*262144:=by
  rw [show 32-n=(14-n)+18 by omega,Int.pow_add]; rfl
theorem pw_mul (n:Nat) (h:n≤14):(2:Int)^n*2^(64-n)=18446744073709551616:=by
  rw [←Int.pow_add,show n+(64-n)=64 by omega]; rfl
theorem cl_le (b:Int) (n:Nat) (h0:0≤b):0≤cl b n∧cl b n≤b:=by
  have h:=pow_pos n
  exact ⟨Int.mul_nonneg (Int.ediv_nonneg h0 (by omega)) (by omega),Int.ediv_mul_le b (by omega)⟩
theorem cl_hi (b:Int) (n:Nat) (hn:n≤14) (h0:0≤b) (h:b<18446744073709551616):cl b n+2^n≤18446744073709551616:=by
  have hp:=pow_pos n
  have hm:=pw_mul n hn
  have h1:b / 2^n<2^(64-n):=by
    refine Int.ediv_lt_of_lt_mul hp ?_
    rw [Int.mul_comm,hm]; exact h
  have h2:(b / 2^n+1)*2^n≤2^(64-n)*2^n:=Int.mul_le_mul_of_nonneg_right (by omega) (by omega)
  rw [Int.add_mul,Int.one_mul,Int.mul_comm (2^(64-n)),hm] at h2
  exact h2
theorem lw_idx {c:Ctx} {va:Int} (h0:0≤va) (h:lw c va=true):4*(va / 1048576)<2^(14-nN c):=by
  have hp:=pow_pos (14-nN c)
  have h1:va / 2^(32-nN c)=0:=by simpa [lw] using h
  have h2:va<2^(32-nN c):=by
    have:=Int.lt_ediv_add_one_mul_self va (pow_pos (32-nN c))
    rw [h1] at this; omega
  rw [pw_split _ (nN_lt c)] at h2
  have h3:va / 262144<2^(14-nN c):=Int.ediv_lt_of_lt_mul (by decide) h2
  omega
theorem fA_rng (c:Ctx) (va:Int) (hc:c.Ok) (hv:0≤va∧va<4294967296):0≤fA c va∧fA c va<18446744073709551616:=by
  unfold fA
  split
  · rename_i h
    have h1:=cl_le c.b0 (14-nN c) hc.b0.1
    have h2:=cl_hi c.b0 (14-nN c) (by omega) hc.b0.1 hc.b0.2
    have h3:=lw_idx hv.1 h
    omega
  · have h1:=cl_le c.b1 14 hc.b1.1
    have h2:=cl_hi c.b1 14 (by omega) hc.b1.1 hc.b1.2
    rw [show (2:Int)^14=16384 from rfl] at h2
    omega
theorem D1_base (x:Int) (h:0≤x∧x<4294967296):(D1 x).kind=1→0≤(D1 x).base∧(D1 x).base≤4294966272∧(D1 x).base%1024=0∧0≤(D1 x).dom∧(D1 x).dom≤15:=by
  intro hk
  unfold D1 at hk ⊢
  split at hk
  · rename_i h1
    rw [if_pos h1]
    simp only [dT,F_5_4]
    omega
  · split at hk
    · split at hk <;>cases hk
    · cases hk
theorem w1_kind {M:Mo} {c:Ctx} {va:Int} (h:(w1 M c va).2.k=0):fO c va=true∧M.er (fA c va)=0∧w1 M c va=(D1 (M.wd (fA c va)),fZ)∧(D1 (M.wd (fA c va))).kind≠0:=by
  unfold w1 at h ⊢
  split at h
  · rename_i h1
    split at h
    · rename_i h2
      split at h
      · cases h
      · rename_i h3
        exact ⟨h1,h2,by rw [if_pos h1,if_pos h2,if_neg h3],h3⟩
    · cases h
  · cases h
theorem sA_rng {x va:Int} (hx:0≤x∧x<4294967296) (hk:(D1 x).kind=1) (hv:0≤va):0≤sA (D1 x) va∧sA (D1 x) va<4294967296∧sA (D1 x) va%4=0:=by
  have:=D1_base x hx hk
  unfold sA
  omega
end Go.Proofs.YtnjlajjjcmhfgaaGreatDoor
namespace Go.Proofs.YtnjlajjjcmhfgaaGreatDoor
open Go.RowKit
open Mm (Turn gr RM)
set_option linter.unusedVariables false
set_option linter.unusedSimpArgs false
theorem hidW {p:Prop} (h:p):Hid p:=h
structure TW (w:World):Prop where
  r:TT w
theorem Tb.turn {k:IntKind} {w w':World} {g:Nat} {l:List Int} {X:Nat→Prop} (h:Tb k w g l) (T:Turn X w w') (hn:¬X g):Tb k w' g l:=fun i v hv=>(T.cell (cell_lt (h i v hv)) hn i).trans (h i v hv)
def tbl (b:Nat):Prop:=b=5∨b=6∨b=1∨b=8∨b=7∨b=3
theorem TW.low {w:World} (h:TW w) {b:Nat} (hb:tbl b):b<w.heap.size:=by
  rcases hb with rfl|rfl|rfl|rfl|rfl|rfl
  · exact cell_lt (h.r.first 0 _ rfl)
  · exact cell_lt (h.r.second 0 _ rfl)
  · exact cell_lt (h.r.base 0 _ rfl)
  · exact cell_lt (h.r.leaf 0 _ rfl)
  · exact cell_lt (h.r.tags 0 _ rfl)
  · exact cell_lt (h.r.size 0 _ rfl)
theorem TW.turn {w w':World} {X:Nat→Prop} (h:TW w) (T:Turn X w w') (hn:∀b,tbl b→¬X b):TW w' :=
  ⟨⟨⟨⟨h.r.first.turn T (hn _ (by simp [tbl])),h.r.second.turn T (hn _ (by simp [tbl])),h.r.base.turn T (hn _ (by simp [tbl])),h.r.leaf.turn T (hn _ (by simp [tbl]))⟩,h.r.tags.turn T (hn _ (by simp [tbl]))⟩,h.r.size.turn T (hn _ (by simp [tbl]))⟩⟩
theorem TW.below {w w':World} (h:TW w) (hb:Below w.heap.size w w'):TW w':=h.turn (X:=fun _=>False) (Turn.below hb) (fun _ _ h=>h)
def hot (H:Nat) (Z:Nat→Prop):Nat→Prop:=fun b=>Z b∧H≤b
structure Asker (H:Nat) (M:Mo) (iv:Value) (St:List Int→(Nat→Prop)→World→Prop):Prop where
  ok:M.Ok
  ask:∀L Z w pa,L.length≤8→0≤pa→pa<18446744073709551616→St L Z w→Calls Tryz.prog 99 #[iv,.int .u64 pa] w fun e w'=>e= .returned (.tuple #[.int .u32 (M.wd pa),.int .i64 (M.er pa)])∧St (L++[pa]) (gr Z w w') w'∧Turn (hot H Z) w w'
  keep:∀ {L Z w X w'},St L Z w→Turn X w w'→(∀b,X b→¬Z b)→St L Z w'
  low:∀ {L Z w},St L Z w→∀b,Z b→b<w.heap.size
  mono:∀ {L Z Z' w},St L Z w→(∀b,Z b→Z' b)→(∀b,Z' b→b<w.heap.size)→St L Z' w
  tab:∀ {L Z w},St L Z w→TW w
structure Fw (H:Nat) (St:List Int→(Nat→Prop)→World→Prop) (w:World) (Z:Nat→Prop) (L:List Int) (wr:World) (Zr:Nat→Prop):Prop where
  st:St L Zr wr
  trn:Turn (hot H Z) w wr
  up:∀b,Z b→Zr b
  old:∀b,Zr b→b<w.heap.size→Z b
section
variable {H:Nat} {M:Mo} {iv:Value} {St:List Int→(Nat→Prop)→World→Prop} {w wr wn:World} {Z Zr:Nat→Prop} {L L':List Int}
theorem Fw.start (h:St L Z w):Fw H St w Z L w Z:=⟨h,Turn.refl _ _,fun _ h=>h,fun _ h _=>h⟩
theorem Fw.below (A:Asker H M iv St) (h:Fw H St w Z L wr Zr) (hb:Below wr.heap.size wr wn):Fw H St w Z L wn Zr :=
  ⟨A.keep h.st (Turn.below (S:=fun _=>False) hb) (fun _ h=>h.elim),h.trn.trans (S':=fun _=>False) (Turn.below hb) (fun _ h=>h.elim),h.up,h.old⟩
theorem Fw.set (A:Asker H M iv St) (h:Fw H St w Z L wr Zr) {b:Nat} (hn:¬Zr b) (hb:w.heap.size≤b) (j:Nat) (v:Value):Fw H St w Z L (wr.setCell ⟨b,j,none⟩ v) Zr :=
  ⟨A.keep (X:=fun x=>x=b) h.st ((Turn.refl (fun x=>x=b) wr).setCell (p:=⟨b,j,none⟩) (.inl rfl) v) (fun x hx=>by subst hx; exact hn),h.trn.setCell (p:=⟨b,j,none⟩) (.inr hb) v,h.up,h.old⟩
theorem Fw.call (h:Fw H St w Z L wr Zr) (hs:St L' (gr Zr wr wn) wn) (T:Turn (hot H Zr) wr wn):Fw H St w Z L' wn (gr Zr wr wn) :=
  ⟨hs,h.trn.trans T (fun x hx=>by
    by_cases hl:x<w.heap.size
    · exact .inl ⟨h.old x hx.1 hl,hx.2⟩
    · exact .inr (by omega)),fun b hb=> .inl (h.up b hb),fun b hb hl=>by
    rcases hb with hb|⟨hb,_⟩
    · exact h.old b hb hl
    · have:=h.trn.size; omega⟩
theorem Fw.fin (A:Asker H M iv St) (h:Fw H St w Z L wr Zr):St L (gr Z w wr) wr∧Turn (hot H Z) w wr :=
  ⟨A.mono h.st (fun b hb=>by
    by_cases hl:b<w.heap.size
    · exact .inl (h.old b hb hl)
    · exact .inr ⟨by omega,A.low h.st b hb⟩) (fun b hb=>by
    rcases hb with hb|⟨_,hb⟩
    · exact A.low h.st b (h.up b hb)
    · exact hb),h.trn⟩
structure Bx (wr:World) (Zr:Nat→Prop) (b:Nat) (t:TypeId) (l:List Value):Prop where
  bl:Bl wr b t l
  nz:¬Zr b
theorem Bx.below {b:Nat} {t:TypeId} {l:List Value} (h:Bx wr Zr b t l) (hb:Below wr.heap.size wr wn):Bx wn Zr b t l:=⟨h.bl.below hb,h.nz⟩
theorem Bx.call {b:Nat} {t:TypeId} {l:List Value} (h:Bx wr Zr b t l) (T:Turn (hot H Zr) wr wn):Bx wn (gr Zr wr wn) b t l :=
  ⟨(T.block b h.bl.lt (fun hh=>h.nz hh.1)).trans h.bl,fun hh=>by
    rcases hh with hh|⟨hh,_⟩
    · exact h.nz hh
    · have:=h.bl.lt; omega⟩
theorem Bx.new (A:Asker H M iv St) (h:Fw H St w Z L wr Zr) (t:TypeId) (l:List Value):Bx (wr.alloc (.cells l.toArray t)) Zr wr.heap.size t l :=
  ⟨Bl.new wr t l,fun hh=>by have:=A.low h.st _ hh; omega⟩
end
end Go.Proofs.YtnjlajjjcmhfgaaGreatDoor
