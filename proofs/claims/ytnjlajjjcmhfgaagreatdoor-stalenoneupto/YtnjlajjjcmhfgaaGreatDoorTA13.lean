import Derived.Test.YtnjlajjjcmhfgaaGreatDoorTA12
import Derived.Test.YtnjlajjjcmhfgaaGreatDoorTA14
import Derived.Test.YtnjlajjjcmhfgaaGreatDoorTA11
import Derived.Deep.CutRange
import Derived.Deep.MidRow
import Derived.Laws.MakeOwn
import Derived.OwnWalk
namespace Go.Proofs.YtnjlajjjcmhfgaaGreatDoor
open Go.RowKit
set_option linter.unusedVariables false
set_option linter.unusedSimpArgs false
set_option maxRecDepth 100000 in
set_option maxHeartbeats 8000000 in
theorem right_no (t1 t2 t3 t4 t5 t6:Int) (t7 t8:Bool) (W:World) (ht:TR W) (HI:∀w,Calls Tryz.prog 91 #[.int .i64 t1] w fun e w'=>e= .returned (.bool false)∧w=w') :
    Calls Tryz.prog 51 #[.agg #[.int .i64 t1,.int .u32 t2,.int .u64 t3,.int .i64 t4,.int .i64 t5,.int .u32 t6,.bool t7,.bool t8]] W fun r w'=>r= .returned (.bool false)∧Below W.heap.size W w':=by
  have hx1:=Bl.new W 43 [.int .i64 t1,.int .u32 t2,.int .u64 t3,.int .i64 t4,.int .i64 t5,.int .u32 t6,.bool t7,.bool t8]
  have HT:Hid (TR W):=ht
  clear ht
  have HB:Hid (∀o,Below W.heap.size W (W.alloc o).drew):=fun o=>below_drew ((Below.refl _ _).alloc (Nat.le_refl _) o)
  go_enter Tryz.func51,Tryz.ntmps51
  go_wp2
  refine wp_region_held_drew (S:=fun w'=>w'.cell? ⟨W.heap.size,0,none⟩=some (.int .i64 t1)∧w'.cell? ⟨W.heap.size,1,none⟩=some (.int .u32 t2)∧w'.cell? ⟨W.heap.size,2,none⟩=some (.int .u64 t3)∧w'.cell? ⟨W.heap.size,3,none⟩=some (.int .i64 t4)∧w'.cell? ⟨W.heap.size,4,none⟩=some (.int .i64 t5)∧w'.cell? ⟨W.heap.size,5,none⟩=some (.int .u32 t6)∧w'.cell? ⟨W.heap.size,6,none⟩=some (.bool t7)∧w'.cell? ⟨W.heap.size,7,none⟩=some (.bool t8)) (by kernel_rfl) (by (try dsimp only); exact ⟨hx1.drew.cell 0,hx1.drew.cell 1,hx1.drew.cell 2,hx1.drew.cell 3,hx1.drew.cell 4,hx1.drew.cell 5,hx1.drew.cell 6,hx1.drew.cell 7⟩) (fun hHeld=> ?_)
  refine wpAnyH_take (i:=0) (oi:=⟨some 3,.fieldAddr 43 (.tmp 1) 0,0,_,#[],none⟩) (v:=?_) rfl (by kernel_rfl) (by kernel_rfl) (by kernel_rfl) (fun _ _ _ h=>h) (Or.inl ⟨by rfl,?_⟩) (by assumption) ?_
  rotate_left
  · (intro w hSw; (try dsimp only at hSw); go_simp; try with_reducible rfl)
  simp only [Act.put,List.setIfInBounds_toArray,List.set_cons_zero,List.set_cons_succ]
  refine wpAnyH_take (i:=1) (oi:=⟨some 4,.load 3 (.tmp 3),3,_,#[⟨0,.data⟩],none⟩) (v:=?_) rfl (by kernel_rfl) (by kernel_rfl) (by kernel_rfl) (fun _ _ _ h=>h) (Or.inl ⟨by rfl,?_⟩) (by assumption) ?_
  rotate_left
  · (intro w hSw; (try dsimp only at hSw); go_simp; try with_reducible rfl)
  simp only [Act.put,List.setIfInBounds_toArray,List.set_cons_zero,List.set_cons_succ]
  refine wpAnyH_ready (rs:=[2]) (by kernel_rfl) (by simp) ?_
  refine AllReadyH.cons (o:=⟨some 5,.call ⟨.value (.func 91),#[.tmp 4],#[3]⟩,4,_,#[⟨1,.data⟩],none⟩) rfl (fun K hK=> ?_) AllReadyH.nil
  go_simp
  (go_at_call 91; refine (HI _).mono ?_; rintro e w' ⟨rfl,rfl⟩; go_wp2_with fail)
  refine hK.out _ _ ?_ (fun hHeld=> ?_)
  · ((try dsimp only); exact ⟨hx1.drew.cell 0,hx1.drew.cell 1,hx1.drew.cell 2,hx1.drew.cell 3,hx1.drew.cell 4,hx1.drew.cell 5,hx1.drew.cell 6,hx1.drew.cell 7⟩)
  clear hK K
  try simp only [Act.put,List.setIfInBounds_toArray,List.set_cons_zero,List.set_cons_succ]
  refine wpAnyH_take (i:=3) (oi:=⟨some 6,.move (.tmp 5),4,_,#[⟨2,.data⟩,⟨2,.chain⟩],none⟩) (v:=?_) rfl (by kernel_rfl) (by kernel_rfl) (by kernel_rfl) (fun _ _ _ h=>h) (Or.inl ⟨by rfl,?_⟩) (by assumption) ?_
  rotate_left
  · (intro w hSw; (try dsimp only at hSw); go_simp; try with_reducible rfl)
  simp only [Act.put,List.setIfInBounds_toArray,List.set_cons_zero,List.set_cons_succ]
  refine wpAnyH_take (i:=4) (oi:=⟨some 7,.load 43 (.tmp 1),43,_,#[⟨3,.guard⟩],some (3,true)⟩) (v:=undef) rfl (by kernel_rfl) (by kernel_rfl) (by kernel_rfl) (fun _ _ _ h=>h) (Or.inr ⟨by rfl,rfl⟩) (by assumption) ?_
  simp only [Act.put,List.setIfInBounds_toArray,List.set_cons_zero,List.set_cons_succ]
  refine wpAnyH_take (i:=5) (oi:=⟨some 8,.call ⟨.value (.func 92),#[.tmp 7],#[43]⟩,140,_,#[⟨4,.data⟩,⟨3,.chain⟩,⟨3,.guard⟩],some (3,true)⟩) (v:=undef) rfl (by kernel_rfl) (by kernel_rfl) (by kernel_rfl) (fun _ _ _ h=>h) (Or.inr ⟨by rfl,rfl⟩) (by assumption) ?_
  simp only [Act.put,List.setIfInBounds_toArray,List.set_cons_zero,List.set_cons_succ]
  refine wpAnyH_take (i:=6) (oi:=⟨some 9,.fieldAddr 43 (.tmp 1) 3,0,_,#[⟨3,.guard⟩],some (3,true)⟩) (v:=undef) rfl (by kernel_rfl) (by kernel_rfl) (by kernel_rfl) (fun _ _ _ h=>h) (Or.inr ⟨by rfl,rfl⟩) (by assumption) ?_
  simp only [Act.put,List.setIfInBounds_toArray,List.set_cons_zero,List.set_cons_succ]
  refine wpAnyH_take (i:=7) (oi:=⟨some 10,.load 3 (.tmp 9),3,_,#[⟨6,.data⟩,⟨3,.guard⟩],some (3,true)⟩) (v:=undef) rfl (by kernel_rfl) (by kernel_rfl) (by kernel_rfl) (fun _ _ _ h=>h) (Or.inr ⟨by rfl,rfl⟩) (by assumption) ?_
  simp only [Act.put,List.setIfInBounds_toArray,List.set_cons_zero,List.set_cons_succ]
  refine wpAnyH_take (i:=8) (oi:=⟨some 11,.fieldAddr 43 (.tmp 1) 1,0,_,#[⟨3,.guard⟩],some (3,true)⟩) (v:=undef) rfl (by kernel_rfl) (by kernel_rfl) (by kernel_rfl) (fun _ _ _ h=>h) (Or.inr ⟨by rfl,rfl⟩) (by assumption) ?_
  simp only [Act.put,List.setIfInBounds_toArray,List.set_cons_zero,List.set_cons_succ]
  refine wpAnyH_take (i:=9) (oi:=⟨some 12,.load 32 (.tmp 11),32,_,#[⟨8,.data⟩,⟨3,.guard⟩],some (3,true)⟩) (v:=undef) rfl (by kernel_rfl) (by kernel_rfl) (by kernel_rfl) (fun _ _ _ h=>h) (Or.inr ⟨by rfl,rfl⟩) (by assumption) ?_
  simp only [Act.put,List.setIfInBounds_toArray,List.set_cons_zero,List.set_cons_succ]
  refine wpAnyH_take (i:=10) (oi:=⟨some 13,.call ⟨.value (.func 63),#[.tmp 8,.tmp 10,.tmp 12],#[140,3,32]⟩,43,_,#[⟨5,.data⟩,⟨7,.data⟩,⟨9,.data⟩,⟨5,.chain⟩,⟨3,.guard⟩],some (3,true)⟩) (v:=undef) rfl (by kernel_rfl) (by kernel_rfl) (by kernel_rfl) (fun _ _ _ h=>h) (Or.inr ⟨by rfl,rfl⟩) (by assumption) ?_
  simp only [Act.put,List.setIfInBounds_toArray,List.set_cons_zero,List.set_cons_succ]
  refine wpAnyH_take (i:=11) (oi:=⟨some 14,.load 43 (.tmp 1),43,_,#[⟨3,.guard⟩],some (3,true)⟩) (v:=undef) rfl (by kernel_rfl) (by kernel_rfl) (by kernel_rfl) (fun _ _ _ h=>h) (Or.inr ⟨by rfl,rfl⟩) (by assumption) ?_
  simp only [Act.put,List.setIfInBounds_toArray,List.set_cons_zero,List.set_cons_succ]
  refine wpAnyH_take (i:=12) (oi:=⟨some 15,.binOp BinOp.eql 43 (.tmp 13) (.tmp 14) 43,4,_,#[⟨10,.data⟩,⟨11,.data⟩,⟨3,.guard⟩],some (3,true)⟩) (v:=undef) rfl (by kernel_rfl) (by kernel_rfl) (by kernel_rfl) (fun _ _ _ h=>h) (Or.inr ⟨by rfl,rfl⟩) (by assumption) ?_
  simp only [Act.put,List.setIfInBounds_toArray,List.set_cons_zero,List.set_cons_succ]
  refine wpAnyH_take (i:=13) (oi:=⟨some 16,.pick (.tmp 6) (.tmp 15) (.const (Value.bool false)),4,_,#[⟨3,.data⟩,⟨12,.data⟩],none⟩) (v:=?_) rfl (by kernel_rfl) (by kernel_rfl) (by kernel_rfl) (fun _ _ _ h=>h) (Or.inl ⟨by rfl,?_⟩) (by assumption) ?_
  rotate_left
  · (intro w hSw; (try dsimp only at hSw); go_simp; try with_reducible rfl)
  simp only [Act.put,List.setIfInBounds_toArray,List.set_cons_zero,List.set_cons_succ]
  refine wpAnyH_take (i:=14) (oi:=⟨some 2,.assign (.tmp 16),4,_,#[⟨13,.data⟩,⟨10,.chain⟩,⟨0,.phase⟩,⟨1,.phase⟩,⟨2,.phase⟩,⟨3,.phase⟩,⟨4,.phase⟩,⟨5,.phase⟩,⟨6,.phase⟩,⟨7,.phase⟩,⟨8,.phase⟩,⟨9,.phase⟩,⟨10,.phase⟩,⟨11,.phase⟩,⟨12,.phase⟩,⟨13,.phase⟩],none⟩) (v:=?_) rfl (by kernel_rfl) (by kernel_rfl) (by kernel_rfl) (fun _ _ _ h=>h) (Or.inl ⟨by rfl,?_⟩) (by assumption) ?_
  rotate_left
  · (intro w hSw; (try dsimp only at hSw); go_simp; try with_reducible rfl)
  simp only [Act.put,List.setIfInBounds_toArray,List.set_cons_zero,List.set_cons_succ]
  refine wpAnyH_done (by kernel_rfl) ?_ _
  go_wp2
  go_ret
  exact ⟨rfl,HB.out _⟩
set_option maxRecDepth 100000 in
set_option maxHeartbeats 8000000 in
theorem right_yes (t1 t2 t3 t4 t5 t6:Int) (t7 t8:Bool) (W:World) (ht:TR W) (f:Ent) (g:Tra) (S:Bool) (HI:∀w,Calls Tryz.prog 91 #[.int .i64 t1] w fun e w'=>e= .returned (.bool true)∧w=w')
    (HE:∀ww,TR ww→Calls Tryz.prog 92 #[.agg #[.int .i64 t1,.int .u32 t2,.int .u64 t3,.int .i64 t4,.int .i64 t5,.int .u32 t6,.bool t7,.bool t8]] ww fun r w'=>r= .returned (.agg #[.int .i64 f.kind,.int .u64 f.base,.int .i64 f.dom,.bool f.ns,.int .i64 f.ap,.int .u32 f.bits,.bool f.ng,.bool f.xn])∧Below ww.heap.size ww w')
    (HR:∀ww,TR ww→Calls Tryz.prog 63 #[.agg #[.int .i64 f.kind,.int .u64 f.base,.int .i64 f.dom,.bool f.ns,.int .i64 f.ap,.int .u32 f.bits,.bool f.ng,.bool f.xn],.int .i64 t4,.int .u32 t2] ww fun r w'=>r= .returned (.agg #[.int .i64 g.size,.int .u32 g.va,.int .u64 g.pa,.int .i64 g.dom,.int .i64 g.ap,.int .u32 g.bits,.bool g.ng,.bool g.xn])∧Below ww.heap.size ww w')
    (heq:∀w,(Op.equalIn 10000 43 (.agg #[.int .i64 g.size,.int .u32 g.va,.int .u64 g.pa,.int .i64 g.dom,.int .i64 g.ap,.int .u32 g.bits,.bool g.ng,.bool g.xn]) (.agg #[.int .i64 t1,.int .u32 t2,.int .u64 t3,.int .i64 t4,.int .i64 t5,.int .u32 t6,.bool t7,.bool t8])).run Tryz.prog w= .ok S w) :
    Calls Tryz.prog 51 #[.agg #[.int .i64 t1,.int .u32 t2,.int .u64 t3,.int .i64 t4,.int .i64 t5,.int .u32 t6,.bool t7,.bool t8]] W fun r w'=>r= .returned (.bool S)∧Below W.heap.size W w':=by
  have hx1:=Bl.new W 43 [.int .i64 t1,.int .u32 t2,.int .u64 t3,.int .i64 t4,.int .i64 t5,.int .u32 t6,.bool t7,.bool t8]
  have HT:Hid (TR W):=ht
  clear ht
  have HB:Hid (∀o,Below W.heap.size W (W.alloc o).drew):=fun o=>below_drew ((Below.refl _ _).alloc (Nat.le_refl _) o)
  go_enter Tryz.func51,Tryz.ntmps51
  go_wp2
  refine wp_region_held_drew (S:=fun w'=>w'.cell? ⟨W.heap.size,0,none⟩=some (.int .i64 t1)∧w'.cell? ⟨W.heap.size,1,none⟩=some (.int .u32 t2)∧w'.cell? ⟨W.heap.size,2,none⟩=some (.int .u64 t3)∧w'.cell? ⟨W.heap.size,3,none⟩=some (.int .i64 t4)∧w'.cell? ⟨W.heap.size,4,none⟩=some (.int .i64 t5)∧w'.cell? ⟨W.heap.size,5,none⟩=some (.int .u32 t6)∧w'.cell? ⟨W.heap.size,6,none⟩=some (.bool t7)∧w'.cell? ⟨W.heap.size,7,none⟩=some (.bool t8)) (by kernel_rfl) (by (try dsimp only); exact ⟨hx1.drew.cell 0,hx1.drew.cell 1,hx1.drew.cell 2,hx1.drew.cell 3,hx1.drew.cell 4,hx1.drew.cell 5,hx1.drew.cell 6,hx1.drew.cell 7⟩) (fun hHeld=> ?_)
  refine wpAnyH_take (i:=0) (oi:=⟨some 3,.fieldAddr 43 (.tmp 1) 0,0,_,#[],none⟩) (v:=?_) rfl (by kernel_rfl) (by kernel_rfl) (by kernel_rfl) (fun _ _ _ h=>h) (Or.inl ⟨by rfl,?_⟩) (by assumption) ?_
  rotate_left
  · (intro w hSw; (try dsimp only at hSw); go_simp; try with_reducible rfl)
  simp only [Act.put,List.setIfInBounds_toArray,List.set_cons_zero,List.set_cons_succ]
  refine wpAnyH_take (i:=1) (oi:=⟨some 4,.load 3 (.tmp 3),3,_,#[⟨0,.data⟩],none⟩) (v:=?_) rfl (by kernel_rfl) (by kernel_rfl) (by kernel_rfl) (fun _ _ _ h=>h) (Or.inl ⟨by rfl,?_⟩) (by assumption) ?_
  rotate_left
  · (intro w hSw; (try dsimp only at hSw); go_simp; try with_reducible rfl)
  simp only [Act.put,List.setIfInBounds_toArray,List.set_cons_zero,List.set_cons_succ]
  refine wpAnyH_ready (rs:=[2]) (by kernel_rfl) (by simp) ?_
  refine AllReadyH.cons (o:=⟨some 5,.call ⟨.value (.func 91),#[.tmp 4],#[3]⟩,4,_,#[⟨1,.data⟩],none⟩) rfl (fun K hK=> ?_) AllReadyH.nil
  go_simp
  (go_at_call 91; refine (HI _).mono ?_; rintro e w' ⟨rfl,rfl⟩; go_wp2_with fail)
  refine hK.out _ _ ?_ (fun hHeld=> ?_)
  · ((try dsimp only); (first|(exact ⟨hx4.cell 0,hx4.cell 1,hx4.cell 2,hx4.cell 3,hx4.cell 4,hx4.cell 5,hx4.cell 6,hx4.cell 7⟩)|(exact ⟨hx3.cell 0,hx3.cell 1,hx3.cell 2,hx3.cell 3,hx3.cell 4,hx3.cell 5,hx3.cell 6,hx3.cell 7⟩)|(exact ⟨hx1.drew.cell 0,hx1.drew.cell 1,hx1.drew.cell 2,hx1.drew.cell 3,hx1.drew.cell 4,hx1.drew.cell 5,hx1.drew.cell 6,hx1.drew.cell 7⟩)))
  clear hK K
  try simp only [Act.put,List.setIfInBounds_toArray,List.set_cons_zero,List.set_cons_succ]
  refine wpAnyH_take (i:=3) (oi:=⟨some 6,.move (.tmp 5),4,_,#[⟨2,.data⟩,⟨2,.chain⟩],none⟩) (v:=?_) rfl (by kernel_rfl) (by kernel_rfl) (by kernel_rfl) (fun _ _ _ h=>h) (Or.inl ⟨by rfl,?_⟩) (by assumption) ?_
  rotate_left
  · (intro w hSw; (try dsimp only at hSw); go_simp; try with_reducible rfl)
  simp only [Act.put,List.setIfInBounds_toArray,List.set_cons_zero,List.set_cons_succ]
  refine wpAnyH_take (i:=4) (oi:=⟨some 7,.load 43 (.tmp 1),43,_,#[⟨3,.guard⟩],some (3,true)⟩) (v:=?_) rfl (by kernel_rfl) (by kernel_rfl) (by kernel_rfl) (fun _ _ _ h=>h) (Or.inl ⟨by rfl,?_⟩) (by assumption) ?_
  rotate_left
  · (intro w hSw; (try dsimp only at hSw); go_simp; try with_reducible rfl)
  simp only [Act.put,List.setIfInBounds_toArray,List.set_cons_zero,List.set_cons_succ]
  refine wpAnyH_take (i:=6) (oi:=⟨some 9,.fieldAddr 43 (.tmp 1) 3,0,_,#[⟨3,.guard⟩],some (3,true)⟩) (v:=?_) rfl (by kernel_rfl) (by kernel_rfl) (by kernel_rfl) (fun _ _ _ h=>h) (Or.inl ⟨by rfl,?_⟩) (by assumption) ?_
  rotate_left
  · (intro w hSw; (try dsimp only at hSw); go_simp; try with_reducible rfl)
  simp only [Act.put,List.setIfInBounds_toArray,List.set_cons_zero,List.set_cons_succ]
  refine wpAnyH_take (i:=7) (oi:=⟨some 10,.load 3 (.tmp 9),3,_,#[⟨6,.data⟩,⟨3,.guard⟩],some (3,true)⟩) (v:=?_) rfl (by kernel_rfl) (by kernel_rfl) (by kernel_rfl) (fun _ _ _ h=>h) (Or.inl ⟨by rfl,?_⟩) (by assumption) ?_
  rotate_left
  · (intro w hSw; (try dsimp only at hSw); go_simp; try with_reducible rfl)
  simp only [Act.put,List.setIfInBounds_toArray,List.set_cons_zero,List.set_cons_succ]
  refine wpAnyH_take (i:=8) (oi:=⟨some 11,.fieldAddr 43 (.tmp 1) 1,0,_,#[⟨3,.guard⟩],some (3,true)⟩) (v:=?_) rfl (by kernel_rfl) (by kernel_rfl) (by kernel_rfl) (fun _ _ _ h=>h) (Or.inl ⟨by rfl,?_⟩) (by assumption) ?_
  rotate_left
  · (intro w hSw; (try dsimp only at hSw); go_simp; try with_reducible rfl)
  simp only [Act.put,List.setIfInBounds_toArray,List.set_cons_zero,List.set_cons_succ]
  refine wpAnyH_take (i:=9) (oi:=⟨some 12,.load 32 (.tmp 11),32,_,#[⟨8,.data⟩,⟨3,.guard⟩],some (3,true)⟩) (v:=?_) rfl (by kernel_rfl) (by kernel_rfl) (by kernel_rfl) (fun _ _ _ h=>h) (Or.inl ⟨by rfl,?_⟩) (by assumption) ?_
  rotate_left
  · (intro w hSw; (try dsimp only at hSw); go_simp; try with_reducible rfl)
  simp only [Act.put,List.setIfInBounds_toArray,List.set_cons_zero,List.set_cons_succ]
  refine wpAnyH_take (i:=11) (oi:=⟨some 14,.load 43 (.tmp 1),43,_,#[⟨3,.guard⟩],some (3,true)⟩) (v:=?_) rfl (by kernel_rfl) (by kernel_rfl) (by kernel_rfl) (fun _ _ _ h=>h) (Or.inl ⟨by rfl,?_⟩) (by assumption) ?_
  rotate_left
  · (intro w hSw; (try dsimp only at hSw); go_simp; try with_reducible rfl)
  simp only [Act.put,List.setIfInBounds_toArray,List.set_cons_zero,List.set_cons_succ]
  refine wpAnyH_ready (rs:=[5]) (by kernel_rfl) (by simp) ?_
  refine AllReadyH.cons (o:=⟨some 8,.call ⟨.value (.func 92),#[.tmp 7],#[43]⟩,140,_,#[⟨4,.data⟩,⟨3,.chain⟩,⟨3,.guard⟩],some (3,true)⟩) rfl (fun K hK=> ?_) AllReadyH.nil
  go_simp
  (go_at_call 92; refine (HE _ (HT.out.below (HB.out _))).mono ?_; rintro e w3 ⟨rfl,hb⟩; have hx3:=hx1.drew.below hb; have HB3:Hid (Below W.heap.size W w3):=Below.step (HB.out _) hb; clear hb; go_wp2_with fail)
  refine hK.out _ _ ?_ (fun hHeld=> ?_)
  · ((try dsimp only); (first|(exact ⟨hx4.cell 0,hx4.cell 1,hx4.cell 2,hx4.cell 3,hx4.cell 4,hx4.cell 5,hx4.cell 6,hx4.cell 7⟩)|(exact ⟨hx3.cell 0,hx3.cell 1,hx3.cell 2,hx3.cell 3,hx3.cell 4,hx3.cell 5,hx3.cell 6,hx3.cell 7⟩)|(exact ⟨hx1.drew.cell 0,hx1.drew.cell 1,hx1.drew.cell 2,hx1.drew.cell 3,hx1.drew.cell 4,hx1.drew.cell 5,hx1.drew.cell 6,hx1.drew.cell 7⟩)))
  clear hK K
  try simp only [Act.put,List.setIfInBounds_toArray,List.set_cons_zero,List.set_cons_succ]
  refine wpAnyH_ready (rs:=[10]) (by kernel_rfl) (by simp) ?_
  refine AllReadyH.cons (o:=⟨some 13,.call ⟨.value (.func 63),#[.tmp 8,.tmp 10,.tmp 12],#[140,3,32]⟩,43,_,#[⟨5,.data⟩,⟨7,.data⟩,⟨9,.data⟩,⟨5,.chain⟩,⟨3,.guard⟩],some (3,true)⟩) rfl (fun K hK=> ?_) AllReadyH.nil
  go_simp
  (go_at_call 63; refine (HR _ (HT.out.below HB3.out)).mono ?_; rintro e w4 ⟨rfl,hb⟩; have hx4:=hx3.below hb; have HB4:Hid (Below W.heap.size W w4):=Below.step HB3.out hb; clear hb; go_wp2_with fail)
  refine hK.out _ _ ?_ (fun hHeld=> ?_)
  · ((try dsimp only); (first|(exact ⟨hx4.cell 0,hx4.cell 1,hx4.cell 2,hx4.cell 3,hx4.cell 4,hx4.cell 5,hx4.cell 6,hx4.cell 7⟩)|(exact ⟨hx3.cell 0,hx3.cell 1,hx3.cell 2,hx3.cell 3,hx3.cell 4,hx3.cell 5,hx3.cell 6,hx3.cell 7⟩)|(exact ⟨hx1.drew.cell 0,hx1.drew.cell 1,hx1.drew.cell 2,hx1.drew.cell 3,hx1.drew.cell 4,hx1.drew.cell 5,hx1.drew.cell 6,hx1.drew.cell 7⟩)))
  clear hK K
  try simp only [Act.put,List.setIfInBounds_toArray,List.set_cons_zero,List.set_cons_succ]
  refine wpAnyH_take (i:=12) (oi:=⟨some 15,.binOp BinOp.eql 43 (.tmp 13) (.tmp 14) 43,4,_,#[⟨10,.data⟩,⟨11,.data⟩,⟨3,.guard⟩],some (3,true)⟩) (v:=?_) rfl (by kernel_rfl) (by kernel_rfl) (by kernel_rfl) (fun _ _ _ h=>h) (Or.inl ⟨by rfl,?_⟩) (by assumption) ?_
  rotate_left
  · (intro w hSw; (try dsimp only at hSw); go_simp; try with_reducible rfl)
  simp only [Act.put,List.setIfInBounds_toArray,List.set_cons_zero,List.set_cons_succ]
  refine wpAnyH_take (i:=13) (oi:=⟨some 16,.pick (.tmp 6) (.tmp 15) (.const (Value.bool false)),4,_,#[⟨3,.data⟩,⟨12,.data⟩],none⟩) (v:=?_) rfl (by kernel_rfl) (by kernel_rfl) (by kernel_rfl) (fun _ _ _ h=>h) (Or.inl ⟨by rfl,?_⟩) (by assumption) ?_
  rotate_left
  · (intro w hSw; (try dsimp only at hSw); go_simp; try with_reducible rfl)
  simp only [Act.put,List.setIfInBounds_toArray,List.set_cons_zero,List.set_cons_succ]
  refine wpAnyH_take (i:=14) (oi:=⟨some 2,.assign (.tmp 16),4,_,#[⟨13,.data⟩,⟨10,.chain⟩,⟨0,.phase⟩,⟨1,.phase⟩,⟨2,.phase⟩,⟨3,.phase⟩,⟨4,.phase⟩,⟨5,.phase⟩,⟨6,.phase⟩,⟨7,.phase⟩,⟨8,.phase⟩,⟨9,.phase⟩,⟨10,.phase⟩,⟨11,.phase⟩,⟨12,.phase⟩,⟨13,.phase⟩],none⟩) (v:=?_) rfl (by kernel_rfl) (by kernel_rfl) (by kernel_rfl) (fun _ _ _ h=>h) (Or.inl ⟨by rfl,?_⟩) (by assumption) ?_
  rotate_left
  · (intro w hSw; (try dsimp only at hSw); go_simp; try with_reducible rfl)
  simp only [Act.put,List.setIfInBounds_toArray,List.set_cons_zero,List.set_cons_succ]
  refine wpAnyH_done (by kernel_rfl) ?_ _
  go_wp2
  go_ret
  exact ⟨rfl,HB4.out⟩
theorem right_any (t:Tra) (W:World) (ht:TR W) (hv:0≤t.va∧t.va<4294967296) (hO:(0≤t.pa∧t.pa<18446744073709551616)∧(0≤t.bits∧t.bits<4294967296)):Calls Tryz.prog 51 #[.agg #[.int .i64 t.size,.int .u32 t.va,.int .u64 t.pa,.int .i64 t.dom,.int .i64 t.ap,.int .u32 t.bits,.bool t.ng,.bool t.xn]] W fun r w'=>r= .returned (.bool (riF t))∧Below W.heap.size W w':=by
  by_cases h:1≤t.size∧t.size≤4
  · have q:(decide (1≤t.size) && decide (t.size≤4))=true:=by simp [h]
    have HI:=fun w=>isSize_any t.size w
    rw [q] at HI
    have hf:riF t=(trF (enF t) t.dom t.va).same t:=by unfold riF; rw [q]; rfl
    rw [hf]
    exact right_yes _ _ _ _ _ _ _ _ W ht (enF t) (trF (enF t) t.dom t.va) _ HI (fun ww hh=>entryOf_any t ww hh h) (fun ww hh=>trans_any (enF t) t.dom t.va ww hh.toTT hO hv) (eqT _ _)
  · have q:(decide (1≤t.size) && decide (t.size≤4))=false:=by simp; omega
    have HI:=fun w=>isSize_any t.size w
    rw [q] at HI
    have hf:riF t=false:=by unfold riF; rw [q]; rfl
    rw [hf]
    exact right_no _ _ _ _ _ _ _ _ W ht HI
end Go.Proofs.YtnjlajjjcmhfgaaGreatDoor
namespace Go.Proofs.YtnjlajjjcmhfgaaGreatDoor
open Go.RowKit
open Mm (Turn gr RM valV errV Byts)
set_option linter.unusedVariables false
set_option linter.unusedSimpArgs false
structure TS (w:World):Prop where
  r:TR w
  z:TZ w
theorem TZ.below {w w':World} (h:TZ w) (hb:Below w.heap.size w w'):TZ w':=⟨h.base.below hb,h.kind.below hb,h.rep.below hb⟩
theorem TS.below {w w':World} (h:TS w) (hb:Below w.heap.size w w'):TS w':=⟨h.r.below hb,h.z.below hb⟩
theorem TS.tw {w:World} (h:TS w):TW w:=⟨h.r.toTT⟩
def stp (s:Int):Int:=if s=1∨s=2 then 4096 else 1048576
def okAt (M:Mo) (c:Ctx) (t:Tra) (i:Nat):Bool:=(wk M c (t.va+i*stp t.size)).1.same t
def allOk (M:Mo) (c:Ctx) (t:Tra) (n:Nat):Bool:=(List.range n).all (okAt M c t)
def smF (M:Mo) (c:Ctx) (t:Tra):Bool:=c.on && (riF t && allOk M c t (reN t.size).toNat)
theorem allOk_step (M:Mo) (c:Ctx) (t:Tra) (n:Nat):allOk M c t (n+1)=(allOk M c t n && okAt M c t n):=by
  unfold allOk
  rw [List.range_succ,List.all_append]
  simp
theorem allOk_no {M:Mo} {c:Ctx} {t:Tra} {k n:Nat} (hk:k<n) (h:okAt M c t k=false):allOk M c t n=false:=by
  unfold allOk
  rw [List.all_eq_false]
  exact ⟨k,List.mem_range.2 hk,by rw [h]; simp⟩
theorem ri_size {t:Tra} (h:riF t=true):t.size=1∨t.size=2∨t.size=3∨t.size=4:=by
  unfold riF at h
  simp at h
  omega
structure Fz (t:Tra):Prop where
  va:0≤t.va∧t.va<4294967296
  pa:0≤t.pa∧t.pa<18446744073709551616
  bt:0≤t.bits∧t.bits<4294967296
theorem ri_rr {t:Tra} (hf:Fz t) (h:riF t=true):RR t:=(ri_iff t ⟨hf.pa,hf.bt⟩ (by have:=ri_size h; omega)).1 h
theorem va_rng {t:Tra} (hf:Fz t) (h:riF t=true) {i:Nat} (hi:i<(reN t.size).toNat):0≤t.va+i*stp t.size∧t.va+i*stp t.size<4294967296∧(i:Int)*stp t.size<4294967296:=by
  have hr:=(ri_rr hf h).1
  have hv:=hf.va
  unfold stp reN byN at *
  rcases ri_size h with h1|h1|h1|h1 <;>simp [h1] at hr hi ⊢ <;>omega
theorem reN_pos {t:Tra} (h:riF t=true):1≤reN t.size∧reN t.size≤16∧byN t.size / reN t.size=stp t.size∧byN t.size=reN t.size*stp t.size∧0<stp t.size∧byN t.size<4294967296∧0≤byN t.size:=by
  rcases ri_size h with h1|h1|h1|h1 <;>simp [h1,reN,byN,stp]
set_option maxRecDepth 100000 in
set_option maxHeartbeats 4000000 in
theorem sameP_no (c:Ctx) (t:Tra) (w:World) (iv:Value) (h:c.on=false∨riF t=false) (hf:Fz t) (ht:TS w) :
    Calls Tryz.prog 17 #[iv,.agg #[.bool c.on,.bool c.tre,.bool c.afe,.int .i64 c.n,.bool c.pd0,.bool c.pd1,.int .u64 c.b0,.int .u64 c.b1,.int .u32 c.dacr,.int .u32 c.prrr,.int .u32 c.nmrr,.int .i64 c.asid],.agg #[.int .i64 t.size,.int .u32 t.va,.int .u64 t.pa,.int .i64 t.dom,.int .i64 t.ap,.int .u32 t.bits,.bool t.ng,.bool t.xn]] w fun e w'=>e= .returned (.bool false)∧Below w.heap.size w w':=by
  have HB:=hidW (Below.step (below_new w (.cells #[.bool c.on,.bool c.tre,.bool c.afe,.int .i64 c.n,.bool c.pd0,.bool c.pd1,.int .u64 c.b0,.int .u64 c.b1,.int .u32 c.dacr,.int .u32 c.prrr,.int .u32 c.nmrr,.int .i64 c.asid] 47)) (below_new _ (.cells #[.int .i64 t.size,.int .u32 t.va,.int .u64 t.pa,.int .i64 t.dom,.int .i64 t.ap,.int .u32 t.bits,.bool t.ng,.bool t.xn] 43)))
  cases hon:c.on
  · clear h
    rw [hon] at HB
    go_enter Tryz.func17,Tryz.ntmps17
    go_wp2
    go_ret
    exact ⟨rfl,HB.out⟩
  · have hr:riF t=false:=by rcases h with h|h; exact absurd h (by rw [hon]; simp); exact h
    have HR:=hidW (fun ww hw=>right_any t ww hw hf.va ⟨hf.pa,hf.bt⟩)
    rw [hr] at HR
    rw [hon] at HB
    have HT:=hidW ht
    clear h ht
    go_enter Tryz.func17,Tryz.ntmps17
    go_wp2_with fail
    go_at_call 51
    refine (HR.out _ (HT.out.below HB.out).r).mono ?_
    rintro e w1 ⟨rfl,hb⟩
    have HE:=hidW (Below.step HB.out hb)
    clear hb HB HR HT
    go_wp2
    go_ret
    exact ⟨rfl,HE.out⟩
structure KS (w wr:World) (c:Ctx) (t:Tra) (x y:Nat):Prop where
  bel:Below w.heap.size w wr
  C:Bl wr x 47 [.bool c.on,.bool c.tre,.bool c.afe,.int .i64 c.n,.bool c.pd0,.bool c.pd1,.int .u64 c.b0,.int .u64 c.b1,.int .u32 c.dacr,.int .u32 c.prrr,.int .u32 c.nmrr,.int .i64 c.asid]
  T:Bl wr y 43 [.int .i64 t.size,.int .u32 t.va,.int .u64 t.pa,.int .i64 t.dom,.int .i64 t.ap,.int .u32 t.bits,.bool t.ng,.bool t.xn]
theorem KS.below {w wr wn:World} {c:Ctx} {t:Tra} {x y:Nat} (h:KS w wr c t x y) (hb:Below wr.heap.size wr wn):KS w wn c t x y:=⟨Below.step h.bel hb,h.C.below hb,h.T.below hb⟩
theorem KS.new (w:World) (c:Ctx) (t:Tra):KS w ((w.alloc (.cells #[.bool c.on,.bool c.tre,.bool c.afe,.int .i64 c.n,.bool c.pd0,.bool c.pd1,.int .u64 c.b0,.int .u64 c.b1,.int .u32 c.dacr,.int .u32 c.prrr,.int .u32 c.nmrr,.int .i64 c.asid] 47)).alloc (.cells #[.int .i64 t.size,.int .u32 t.va,.int .u64 t.pa,.int .i64 t.dom,.int .i64 t.ap,.int .u32 t.bits,.bool t.ng,.bool t.xn] 43)) c t w.heap.size (w.heap.size+1):=by
  have h:=Bl.new (w.alloc (.cells #[.bool c.on,.bool c.tre,.bool c.afe,.int .i64 c.n,.bool c.pd0,.bool c.pd1,.int .u64 c.b0,.int .u64 c.b1,.int .u32 c.dacr,.int .u32 c.prrr,.int .u32 c.nmrr,.int .i64 c.asid] 47)) 43 [.int .i64 t.size,.int .u32 t.va,.int .u64 t.pa,.int .i64 t.dom,.int .i64 t.ap,.int .u32 t.bits,.bool t.ng,.bool t.xn]
  rw [show (w.alloc (.cells #[.bool c.on,.bool c.tre,.bool c.afe,.int .i64 c.n,.bool c.pd0,.bool c.pd1,.int .u64 c.b0,.int .u64 c.b1,.int .u32 c.dacr,.int .u32 c.prrr,.int .u32 c.nmrr,.int .i64 c.asid] 47)).heap.size=w.heap.size+1 by simp] at h
  exact ⟨Below.step (below_new _ _) (below_new _ _),(Bl.new w 47 [.bool c.on,.bool c.tre,.bool c.afe,.int .i64 c.n,.bool c.pd0,.bool c.pd1,.int .u64 c.b0,.int .u64 c.b1,.int .u32 c.dacr,.int .u32 c.prrr,.int .u32 c.nmrr,.int .i64 c.asid]).below (below_new _ _),h⟩
set_option maxRecDepth 100000 in
set_option maxHeartbeats 8000000 in
theorem sameP_yes (c:Ctx) (t:Tra) (w:World) {S:Nat→Prop} {iv:Value} {M:Mo} (hm:MemP w S iv M) (hon:c.on=true) (hri:riF t=true) (hf:Fz t) (ht:TS w) (hc:c.Ok) :
    Calls Tryz.prog 17 #[iv,.agg #[.bool c.on,.bool c.tre,.bool c.afe,.int .i64 c.n,.bool c.pd0,.bool c.pd1,.int .u64 c.b0,.int .u64 c.b1,.int .u32 c.dacr,.int .u32 c.prrr,.int .u32 c.nmrr,.int .i64 c.asid],.agg #[.int .i64 t.size,.int .u32 t.va,.int .u64 t.pa,.int .i64 t.dom,.int .i64 t.ap,.int .u32 t.bits,.bool t.ng,.bool t.xn]] w fun e w'=>e= .returned (.bool (allOk M c t (reN t.size).toNat))∧Below w.heap.size w w':=by
  have hp:=reN_pos hri
  have hvr:=hidW (fun i hi=>va_rng hf hri (i:=i) hi)
  have HR:=hidW (fun ww hw=>right_any t ww hw hf.va ⟨hf.pa,hf.bt⟩)
  rw [hri] at HR
  have HX:=hidW (KS.new w c t)
  have HN:=hidW (fun ww (hw:TZ ww)=>repeats_any t.size ww hw)
  have HY:=hidW (fun ww (hw:TB ww)=>bytes_any t.size ww hw)
  have HT:=hidW ht
  have HM:=hidW (fun ww (hb:Below w.heap.size w ww) va hv=>walk_pure c va ww (hm.below hb) ((ht.below hb).tw) hc hv)
  have HA:=hidW (fun n=>allOk_step M c t n)
  have HZ:=hidW (fun k n (hk:k<n) h=>allOk_no (M:=M) (c:=c) (t:=t) hk h)
  rw [hon] at HX HM ⊢
  obtain ⟨n,hn⟩:∃n:Nat,reN t.size=(n:Int):=⟨(reN t.size).toNat,by omega⟩
  rw [hn] at HN hp hvr ⊢
  have w1:IntKind.u32.wrap (n:Int)=(n:Int):=by rw [IntKind.wrap_u32]; omega
  have w2:IntKind.u32.wrap (byN t.size)=byN t.size:=by rw [IntKind.wrap_u32]; omega
  have td:(byN t.size).tdiv (n:Int)=stp t.size:=by rw [Int.tdiv_eq_ediv_of_nonneg (by omega)]; exact hp.2.2.1
  have hz:¬(n:Int)=0:=by omega
  have h16:(n:Int)≤16:=by omega
  have hst:0<stp t.size:=by omega
  have hby0:0≤byN t.size:=by omega
  have hby1:byN t.size<4294967296:=by omega
  have hdv:byN t.size / (n:Int)=stp t.size:=hp.2.2.1
  have w0:IntKind.u32.wrap (stp t.size)=stp t.size:=by rw [IntKind.wrap_u32]; have:stp t.size≤1048576:=(by unfold stp; split <;>omega); omega
  have hzb:((n:Int) == 0)=false:=by simp; omega
  rw [Int.toNat_natCast] at hvr ⊢
  clear hp hn
  go_enter Tryz.func17,Tryz.ntmps17
  go_wp2_with fail
  go_at_call 51
  refine (HR.out _ (HT.out.below HX.out.bel).r).mono ?_
  rintro e wa ⟨rfl,hb⟩
  have HX1:=hidW (HX.out.below hb)
  clear hb HX HR
  generalize w.heap.size+1=y at *
  have c1:=HX1.out.T.cell
  go_wp2_with fail
  go_at_call 52
  refine (HN.out _ (HT.out.below HX1.out.bel).z).mono ?_
  rintro e wb ⟨rfl,rfl⟩
  go_wp2_with fail
  go_at_call 53
  refine (HY.out _ ⟨(HT.out.below HX1.out.bel).z.base,(HT.out.below HX1.out.bel).z.kind⟩).mono ?_
  rintro e wb ⟨rfl,rfl⟩
  clear c1 HN HY
  go_wp2
  go_loopw [31] (fun i wr=>∃k:Nat,k≤n∧i= .int .u32 k∧allOk M c t k=true∧Hid (KS w wr c t w.heap.size y)) (fun i _=>n-(intOf i).toNat)
  case atStart=>exact ⟨0,Nat.zero_le _,rfl,rfl,HX1.out⟩
  case round =>
    obtain ⟨k,hk,rfl,hall,HK⟩:=hrel
    clear HX1
    by_cases hlt:k<n
    · have hkz:(k:Int)<(n:Int):=by omega
      have hv:=hvr.out k hlt
      have w3:IntKind.u32.wrap ((k:Int)*stp t.size)=(k:Int)*stp t.size:=by rw [IntKind.wrap_u32]; have:=Int.mul_nonneg (Int.natCast_nonneg k) (Int.le_of_lt hst); omega
      have w4:IntKind.u32.wrap (t.va+(k:Int)*stp t.size)=t.va+(k:Int)*stp t.size:=by rw [IntKind.wrap_u32]; omega
      have w5:IntKind.u32.wrap ((k:Int)+1)=(k:Int)+1:=by rw [IntKind.wrap_u32]; omega
      have HC:=hidW (HM.out wr HK.out.bel (t.va+(k:Int)*stp t.size) ⟨hv.1,hv.2.1⟩)
      have ho:okAt M c t k=(wk M c (t.va+(k:Int)*stp t.size)).1.same t:=rfl
      have hs:=HA.out k
      have hno:=hidW (HZ.out k n hlt)
      have c1:=HK.out.T.cell
      have c2:=HK.out.C.cell
      rw [hon] at c2
      have eq:=eqT (wk M c (t.va+(k:Int)*stp t.size)).1 t
      rw [ho] at hs hno
      generalize (wk M c (t.va+(k:Int)*stp t.size)).1=U at *
      generalize (wk M c (t.va+(k:Int)*stp t.size)).2=F at *
      generalize hsb:U.same t=sb at *
      rw [hall] at hs
      clear ho hvr hsb
      go_wp2_with fail
      go_at_call 32
      refine HC.out.mono ?_
      rintro e wb ⟨rfl,hb⟩
      have HK2:=hidW ((HK.out.below hb).below (Below.step (below_new wb (.cells #[.int .i64 U.size,.int .u32 U.va,.int .u64 U.pa,.int .i64 U.dom,.int .i64 U.ap,.int .u32 U.bits,.bool U.ng,.bool U.xn] 43)) (below_new _ (.cells #[.int .i64 F.k,.int .i64 F.l,.int .i64 F.d] 88))))
      have cT:=HK2.out.T.cell
      have hyl:y<wb.heap.size:=Nat.lt_of_lt_of_le HK.out.T.lt hb.size
      have n1:¬y=wb.heap.size:=by omega
      have n2:¬y=wb.heap.size+1:=by omega
      clear hb c1 c2 HC HK hyl
      cases sb
      · have hf:=hidW (hno.out rfl)
        clear hs hno
        go_wp2
        go_ret
        rw [hf.out]
        exact ⟨rfl,HK2.out.bel⟩
      · simp at hs
        clear hno
        go_wp2
        go_roundw
        case rel=>exact ⟨k+1,by omega,by go_num,hs,HK2.out⟩
        case measure=>simp [intOf]; omega
    · obtain rfl:k=n:=by omega
      have HL:=hidW hall
      clear hall
      go_wp2
      go_ret
      rw [HL.out]
      exact ⟨rfl,HK.out.bel⟩
theorem sameP_any (c:Ctx) (t:Tra) (w:World) {S:Nat→Prop} {iv:Value} {M:Mo} (hm:MemP w S iv M) (hf:Fz t) (ht:TS w) (hc:c.Ok) :
    Calls Tryz.prog 17 #[iv,.agg #[.bool c.on,.bool c.tre,.bool c.afe,.int .i64 c.n,.bool c.pd0,.bool c.pd1,.int .u64 c.b0,.int .u64 c.b1,.int .u32 c.dacr,.int .u32 c.prrr,.int .u32 c.nmrr,.int .i64 c.asid],.agg #[.int .i64 t.size,.int .u32 t.va,.int .u64 t.pa,.int .i64 t.dom,.int .i64 t.ap,.int .u32 t.bits,.bool t.ng,.bool t.xn]] w fun e w'=>e= .returned (.bool (smF M c t))∧Below w.heap.size w w':=by
  unfold smF
  cases hon:c.on
  · have h:=sameP_no c t w iv (.inl hon) hf ht
    rw [hon] at h
    exact h
  · cases hri:riF t
    · have h:=sameP_no c t w iv (.inr hri) hf ht
      rw [hon] at h
      exact h
    · have h:=sameP_yes c t w hm hon hri hf ht hc
      rw [hon] at h
      exact h
end Go.Proofs.YtnjlajjjcmhfgaaGreatDoor
namespace Go.Proofs.YtnjlajjjcmhfgaaGreatDoor
open Go.RowKit
set_option linter.unusedVariables false
set_option linter.unusedSimpArgs false
theorem wk_mib {M:Mo} {c:Ctx} {va vb:Int} {U:Tra} {F:Fa} (hM:M.Ok) (hc:c.Ok) (hv:0≤va∧va<4294967296) (hw:wk M c va=(U,F)) (hk:F.k=0) (h3:3≤U.size) (h:va / 1048576=vb / 1048576):wk M c vb=(U,F):=by
  obtain ⟨e1,e2,e3⟩:=w1_sec (M:=M) (c:=c) (va:=va) (vb:=vb) h
  obtain ⟨hF,hf,hh⟩:=found hM hc hv hw hk
  rcases hh with ⟨_,hU,_⟩|⟨hon,hr,he,hu,hs⟩|⟨_,s,_,_,_,_,hs⟩
  · rw [hU] at h3; have h3:(3:Int)≤1:=h3; omega
  · unfold wk at hw ⊢
    rw [if_pos hon] at hw ⊢
    rw [←e1]
    split at hw
    · rename_i h1
      rw [if_pos h1]
      split at hw
      · rename_i h2
        exfalso
        have:rdL M c va=r1 c va++[sA (w1 M c va).1 va]:=by unfold rdL; rw [if_pos hon,if_pos ⟨h1,h2⟩]
        rw [hr] at this
        have hl:=congrArg List.length this
        obtain ⟨hO,_⟩:=w1_kind h1
        simp [r1,hO] at hl
      · rename_i h2
        rw [if_neg h2,←hw,tr_mib (w1_not1 h1 h2) h]
    · rename_i h1
      exfalso
      rw [←(Prod.mk.inj hw).2] at hk
      exact h1 hk
  · omega
theorem riF_ne {x:Tra} (h:riF x=true):x≠tZ:=by
  rintro rfl
  have:=ri_size h
  simp [tZ] at this
theorem same_found {M:Mo} {c:Ctx} {va:Int} {x:Tra} (hM:M.Ok) (hc:c.Ok) (hv:0≤va∧va<4294967296) (hr:riF x=true) (h:((wk M c va).1.same x)=true):wk M c va=(x,fZ):=by
  have h:=(Tra.same_iff _ _).1 h
  obtain ⟨U,F,hq⟩:∃U F,wk M c va=(U,F):=⟨_,_,rfl⟩
  rw [hq] at h ⊢
  have h:U=x:=h
  subst h
  rcases Classical.em (F.k=0) with hk|hk
  · rw [(found hM hc hv hq hk).1]
  · exact absurd (missed hq hk).1 (riF_ne hr)
end Go.Proofs.YtnjlajjjcmhfgaaGreatDoor
namespace Go.Proofs.YtnjlajjjcmhfgaaGreatDoor
open Go.RowKit
set_option linter.unusedVariables false
set_option linter.unusedSimpArgs false
structure Blo where
  asid:Int
  t:Tra
structure Slo where
  full:Bool
  b:Blo
structure Dro where
  kind:Int
  va:Int
  asid:Int
def bZ:Blo:=⟨0,tZ⟩
def Blo.same (a b:Blo):Bool:=a.asid == b.asid && a.t.same b.t
theorem Blo.same_iff (a b:Blo):a.same b=true↔a=b:=by
  obtain ⟨a1,a2⟩:=a
  obtain ⟨b1,b2⟩:=b
  simp [Blo.same,Tra.same_iff]
theorem Blo.same_self (a:Blo):a.same a=true:=(Blo.same_iff a a).2 rfl
def asF (n:Int):Bool:=decide (0≤n) && decide (n≤255)
def bR (b:Blo):Bool:=if riF b.t then (if b.t.ng then asF b.asid else b.asid == -1) else false
def liF (b:Blo) (va:Int):Bool:=decide (b.t.va≤va) && decide (va-b.t.va<byN b.t.size)
def hoF (b:Blo) (asid:Int):Bool:=b.asid == asid || b.asid == -1
def maF (b:Blo) (va asid:Int):Bool:=liF b va && hoF b asid
def ovF (b:Blo) (va asid:Int):Bool:=bR b && maF b va asid
def pkF (d:Dro) (b:Blo):Bool :=
  if (d.kind == 1 && (d.va == 0 && d.asid == 0))=true then true
  else if (d.kind == 2 && asF d.asid)=true then maF b d.va d.asid
  else if (d.kind == 3 && (d.va == 0 && asF d.asid))=true then b.asid == d.asid
  else if (d.kind == 4 && d.asid == 0)=true then liF b d.va
  else false
def tkF (d:Dro) (b:Blo):Bool:=bR b && pkF d b
structure BOk (b:Blo):Prop where
  va:0≤b.t.va∧b.t.va<4294967296
  pa:0≤b.t.pa∧b.t.pa<18446744073709551616
  bits:0≤b.t.bits∧b.t.bits<4294967296
end Go.Proofs.YtnjlajjjcmhfgaaGreatDoor
namespace Go.Proofs.YtnjlajjjcmhfgaaGreatDoor
open Go.RowKit
set_option linter.unusedVariables false
set_option linter.unusedSimpArgs false
section
variable {α:Type} (ky:α→List Int)
def ltK (a b:α):Bool:=decide (lexC (ky a) (ky b)<0)
theorem ltK_irrefl (a:α):ltK ky a a=false:=by simp [ltK,lexC_self]
theorem ltK_trans (a b d:α) (h1:ltK ky a b=true) (h2:ltK ky b d=true):ltK ky a d=true:=by
  simp only [ltK,decide_eq_true_eq] at *
  exact lexC_trans _ _ _ h1 h2
theorem ltK_tot (hl:∀a b,(ky a).length=(ky b).length) (hi:∀a b,ky a=ky b→a=b) (a b:α) (h1:ltK ky a b=false) (h2:ltK ky b a=false):a=b:=by
  simp only [ltK,decide_eq_false_iff_not] at *
  exact hi _ _ (lexC_eq _ _ (hl a b) h1 h2)
theorem ltK_ntrans (hl:∀a b,(ky a).length=(ky b).length) (hi:∀a b,ky a=ky b→a=b) (a b d:α) (h1:ltK ky a b=false) (h2:ltK ky b d=false):ltK ky a d=false:=by
  cases hc:ltK ky a d with
  | false=>rfl
  | true =>
    cases hd:ltK ky b a with
    | false=>rw [ltK_tot ky hl hi a b h1 hd,h2] at hc; cases hc
    | true=>rw [ltK_trans ky _ _ _ hd hc] at h2; cases h2
end
section
variable {α:Type} {lt:α→α→Bool}
theorem so_eq (hi:∀x,lt x x=false) (ht:∀x y z,lt x y=true→lt y z=true→lt x z=true) (hq:∀x y,lt x y=false→lt y x=false→x=y) (hn:∀x y z,lt x y=false→lt y z=false→lt x z=false)
    {l m:List α} (hd:l.Nodup) (hm:m.Pairwise (fun a b=>lt a b=true)) (h:∀a,a∈l↔a∈m):(l.mergeSort fun x y=> !lt y x)=m:=by
  refine rising_unique hi ht _ _ ?_ hm (fun a=>by rw [(List.mergeSort_perm _ _).mem_iff,h])
  have h1:=List.pairwise_mergeSort (le:=fun x y=> !lt y x) (l:=l) (fun a b d h1 h2=>by
      simp only [Bool.not_eq_true'] at *
      exact hn _ _ _ h2 h1) (fun a b=>by
      cases h1:lt b a with
      | false=>rfl
      | true =>
        cases h2:lt a b with
        | false=>rfl
        | true=>have:=ht _ _ _ h1 h2; rw [hi] at this; cases this)
  have h2:(l.mergeSort fun x y=> !lt y x).Nodup:=(List.mergeSort_perm _ _).nodup_iff.2 hd
  refine (h1.and h2).imp ?_
  rintro a b ⟨g1,g2⟩
  cases hc:lt a b with
  | true=>rfl
  | false=>exact absurd (hq a b hc (by simpa using g1)) g2
theorem rising_nodup (hi:∀x,lt x x=false) {m:List α} (hm:m.Pairwise (fun a b=>lt a b=true)):m.Nodup :=
  hm.imp (fun {a b} h e=>by subst e; rw [hi] at h; cases h)
end
def kyB (b:Blo):List Int:=[b.asid,b.t.size,b.t.va,b.t.pa,b.t.dom,b.t.ap,b.t.bits,bI b.t.ng,bI b.t.xn]
def cmB (a b:Blo):Int:=lexC (kyB a) (kyB b)
def ltB (a b:Blo):Bool:=ltK kyB a b
structure Dir where
  asid:Int
  b:Blo
def kyD (d:Dir):List Int:=d.asid::kyB d.b
def cmD (a b:Dir):Int:=lexC (kyD a) (kyD b)
def ltD (a b:Dir):Bool:=ltK kyD a b
theorem bI_inj {a b:Bool} (h:bI a=bI b):a=b:=by revert h; cases a <;>cases b <;>simp [bI]
theorem kyB_inj (a b:Blo) (h:kyB a=kyB b):a=b:=by
  obtain ⟨a0,a1,a2,a3,a4,a5,a6,a7,a8⟩:=a
  obtain ⟨b0,b1,b2,b3,b4,b5,b6,b7,b8⟩:=b
  simp [kyB] at h
  obtain ⟨h0,h1,h2,h3,h4,h5,h6,h7,h8⟩:=h
  have e7:=bI_inj h7
  have e8:=bI_inj h8
  subst h0; subst h1; subst h2; subst h3; subst h4; subst h5; subst h6; subst e7; subst e8
  rfl
theorem kyD_inj (a b:Dir) (h:kyD a=kyD b):a=b:=by
  obtain ⟨a0,a1⟩:=a
  obtain ⟨b0,b1⟩:=b
  injection h with h1 h2
  have:=kyB_inj _ _ h2
  dsimp only at h1 this
  rw [h1,this]
theorem ltB_irrefl (a:Blo):ltB a a=false:=ltK_irrefl _ a
theorem ltB_trans (a b d:Blo) (h1:ltB a b=true) (h2:ltB b d=true):ltB a d=true:=ltK_trans _ _ _ _ h1 h2
theorem ltB_tot (a b:Blo) (h1:ltB a b=false) (h2:ltB b a=false):a=b:=ltK_tot _ (fun _ _=>rfl) kyB_inj _ _ h1 h2
theorem ltB_ntrans (a b d:Blo) (h1:ltB a b=false) (h2:ltB b d=false):ltB a d=false:=ltK_ntrans _ (fun _ _=>rfl) kyB_inj _ _ _ h1 h2
theorem ltD_irrefl (a:Dir):ltD a a=false:=ltK_irrefl _ a
theorem ltD_trans (a b d:Dir) (h1:ltD a b=true) (h2:ltD b d=true):ltD a d=true:=ltK_trans _ _ _ _ h1 h2
theorem ltD_tot (a b:Dir) (h1:ltD a b=false) (h2:ltD b a=false):a=b:=ltK_tot _ (fun _ _=>rfl) kyD_inj _ _ h1 h2
theorem ltD_ntrans (a b d:Dir) (h1:ltD a b=false) (h2:ltD b d=false):ltD a d=false:=ltK_ntrans _ (fun _ _=>rfl) kyD_inj _ _ _ h1 h2
theorem ltD_iff (a b:Dir):ltD a b=true↔a.asid<b.asid∨(a.asid=b.asid∧ltB a.b b.b=true):=by
  simp only [ltD,ltB,ltK,decide_eq_true_eq,kyD,lexC_lt_iff]
abbrev Ri (K:List Blo):Prop:=K.Pairwise fun a b=>ltB a b=true
theorem Ri.nodup {K:List Blo} (h:Ri K):K.Nodup:=rising_nodup ltB_irrefl h
def adB:List Blo→Blo→List Blo
  | [],b=>[b]
  | x::l,b=>if x.same b then x::l else if ltB b x then b::x::l else x::adB l b
theorem mem_adB {x b:Blo}:∀K:List Blo,x∈adB K b↔x=b∨x∈K
  | []=>by simp [adB]
  | y::l=>by
    have ih:=mem_adB (x:=x) (b:=b) l
    unfold adB
    split
    · rename_i h
      have h:=(Blo.same_iff _ _).1 h
      subst h
      simp
    · split
      · simp
      · rw [List.mem_cons,ih,List.mem_cons]
        constructor
        · rintro (h|h|h)
          · exact .inr (.inl h)
          · exact .inl h
          · exact .inr (.inr h)
        · rintro (h|h|h)
          · exact .inr (.inl h)
          · exact .inl h
          · exact .inr (.inr h)
theorem adB_ri {b:Blo}:∀ {K:List Blo},Ri K→Ri (adB K b)
  | [],_=>by simp [adB]
  | y::l,h=>by
    have h1:=List.pairwise_cons.1 h
    have ih:=adB_ri (b:=b) h1.2
    unfold adB
    split
    · exact h
    · rename_i hne
      split
      · rename_i hlt
        refine List.pairwise_cons.2 ⟨fun z hz=> ?_,h⟩
        rcases List.mem_cons.1 hz with rfl|hz
        · exact hlt
        · exact ltB_trans _ _ _ hlt (h1.1 z hz)
      · rename_i hnlt
        refine List.pairwise_cons.2 ⟨fun z hz=> ?_,ih⟩
        rcases (mem_adB l).1 hz with rfl|hz
        · cases hc:ltB y z with
          | true=>rfl
          | false=>exact absurd ((Blo.same_iff _ _).2 (ltB_tot y z hc (by simpa using hnlt))) hne
        · exact h1.1 z hz
theorem adB_len {b:Blo}:∀K:List Blo,(adB K b).length≤K.length+1
  | []=>by simp [adB]
  | y::l=>by
    have ih:=adB_len (b:=b) l
    unfold adB
    split
    · simp
    · split
      · simp
      · simp; exact ih
def tgB (a:Int) (t:Tra):Blo:=⟨if t.ng then a else -1,t⟩
def seL (a:Int) (l:List Tra) (K:List Blo):List Blo:=l.foldl (fun K t=>adB K (tgB a t)) K
theorem seL_snoc (a:Int) (l:List Tra) (t:Tra) (K:List Blo):seL a (l++[t]) K=adB (seL a l K) (tgB a t):=by simp [seL,List.foldl_append]
theorem mem_seL {a:Int} {x:Blo}:∀ {l:List Tra} {K:List Blo},x∈seL a l K↔x∈K∨∃t∈l,x=tgB a t
  | [],K=>by simp [seL]
  | t::l,K=>by
    show x∈seL a l (adB K (tgB a t))↔_
    rw [mem_seL,mem_adB]
    constructor
    · rintro ((h|h)|⟨u,hu,h⟩)
      · exact .inr ⟨t,.head _,h⟩
      · exact .inl h
      · exact .inr ⟨u,.tail _ hu,h⟩
    · rintro (h|⟨u,hu,h⟩)
      · exact .inl (.inr h)
      · rcases List.mem_cons.1 hu with rfl|hu
        · exact .inl (.inl h)
        · exact .inr ⟨u,hu,h⟩
theorem seL_ri {a:Int}:∀ {l:List Tra} {K:List Blo},Ri K→Ri (seL a l K)
  | [],_,h=>h
  | t::l,K,h=>seL_ri (l:=l) (adB_ri h)
theorem seL_len {a:Int}:∀ {l:List Tra} {K:List Blo},(seL a l K).length≤K.length+l.length
  | [],_=>by simp [seL]
  | t::l,K=>by
    have h:=seL_len (a:=a) (l:=l) (K:=adB K (tgB a t))
    have h2:=adB_len (b:=tgB a t) K
    show (seL a l (adB K (tgB a t))).length≤_
    rw [List.length_cons]
    omega
structure KOk (b:Blo):Prop where
  r:bR b=true
  ok:BOk b
  sa: -1≤b.asid∧b.asid≤255
  dom:0≤b.t.dom∧b.t.dom≤15
  ap:0≤b.t.ap∧b.t.ap≤7
  sz:b.t.size=1∨b.t.size=2∨b.t.size=3∨b.t.size=4
theorem KOk.ri {b:Blo} (h:KOk b):riF b.t=true:=by
  have:=h.r
  unfold bR at this
  split at this
  · assumption
  · cases this
theorem KOk.fz {b:Blo} (h:KOk b):Fz b.t:=⟨h.ok.va,h.ok.pa,h.ok.bits⟩
theorem tgB_ok {M:Mo} {c:Ctx} {t:Tra} {va:Int} (hM:M.Ok) (hc:c.Ok) (ha:0≤c.asid∧c.asid≤255) (hv:0≤va∧va<4294967296) (h:wk M c va=(t,fZ)):KOk (tgB c.asid t):=by
  have hf:=(found hM hc hv h rfl).2.1
  have hr:=hf.rr
  have hg:=hf.rng hv
  have hp:=hf.pa
  refine ⟨?_,⟨⟨hg.1,by show t.va<_; omega⟩,⟨hp.1,by show t.pa<_; omega⟩,hf.bt⟩,?_,hr.2.2.1,⟨hr.2.1.1,hr.2.1.2.1⟩,hf.sz⟩
  · unfold bR tgB
    dsimp only
    rw [hf.right]
    cases hn:t.ng with
    | true=>simp [asF]; exact ha
    | false=>simp
  · unfold tgB
    dsimp only
    split <;>omega
end Go.Proofs.YtnjlajjjcmhfgaaGreatDoor
namespace Go.Proofs.YtnjlajjjcmhfgaaGreatDoor
open Go.RowKit
set_option linter.unusedVariables false
set_option linter.unusedSimpArgs false
end Go.Proofs.YtnjlajjjcmhfgaaGreatDoor
namespace Go.Proofs.YtnjlajjjcmhfgaaGreatDoor
open Go.RowKit
open Mm (Turn gr RM RM valV errV Byts setV)
set_option linter.unusedVariables false
set_option linter.unusedSimpArgs false
theorem Bl.new1 (w:World) (o:Obj) (t:TypeId) (l:List Value):Bl ((w.alloc o).alloc (.cells l.toArray t)) (w.heap.size+1) t l:=by
  have h:=Bl.new (w.alloc o) t l
  rw [show (w.alloc o).heap.size=w.heap.size+1 by simp] at h
  exact h
end Go.Proofs.YtnjlajjjcmhfgaaGreatDoor
namespace Go.Proofs.YtnjlajjjcmhfgaaGreatDoor
open Go.RowKit
open Mm (Turn)
set_option linter.unusedVariables false
set_option linter.unusedSimpArgs false
theorem Mm.Turn.then {S:Nat→Prop} {a b c:World} (h:Turn S a b) (k:Turn S b c):Turn S a c:=h.trans k (fun _ hx=> .inl hx)
theorem Bl.turn {S:Nat→Prop} {w w':World} {b:Nat} {t:TypeId} {l:List Value} (h:Bl w b t l) (hb:Turn S w w') (hn:¬S b):Bl w' b t l:=(hb.block b h.lt hn).trans h
theorem Bl.drewN {w:World} {b:Nat} {t:TypeId} {l:List Value} (h:Bl w b t l) (q:Nat):Bl (w.drewN q) b t l:=h
def encS (s:Slo):List Value:=[.bool s.full,.int .i64 s.b.asid,.int .i64 s.b.t.size,.int .u32 s.b.t.va,.int .u64 s.b.t.pa,.int .i64 s.b.t.dom,.int .i64 s.b.t.ap,.int .u32 s.b.t.bits,.bool s.b.t.ng,.bool s.b.t.xn]
section
variable {T:TypeId} {w w':World} {p g:Nat} {L:List Slo} {S:Nat→Prop}
end
end Go.Proofs.YtnjlajjjcmhfgaaGreatDoor
