import Derived.Test.YtnjlajjjcmhfgaaGreatDoorTA10
namespace Go.Proofs.YtnjlajjjcmhfgaaGreatDoor
open Go.RowKit
set_option linter.unusedVariables false
set_option linter.unusedSimpArgs false
set_option maxRecDepth 100000 in
set_option maxHeartbeats 4000000 in
theorem entryOf_1 (t2 t3 t4 t5 t6:Int) (t7 t8:Bool) (W:World) (ht:TR W):Calls Tryz.prog 92 #[.agg #[.int .i64 1,.int .u32 t2,.int .u64 t3,.int .i64 t4,.int .i64 t5,.int .u32 t6,.bool t7,.bool t8]] W fun r w'=>r= .returned (.agg #[.int .i64 5,.int .u64 t3,.int .i64 0,.bool false,.int .i64 t5,.int .u32 t6,.bool t7,.bool t8])∧Below W.heap.size W w':=by
  have c0:=ht.kind 1 5 rfl
  have l0:2<W.heap.size:=cell_lt c0
  have z0:¬(2=W.heap.size):=by omega
  have z1:¬(2=W.heap.size+1):=by omega
  have z2:¬(2=W.heap.size+1+1):=by omega
  have z3:¬(W.heap.size=2):=by omega
  have z4:¬(W.heap.size+1=2):=by omega
  have z5:¬(W.heap.size+1+1=2):=by omega
  have z6:¬(W.heap.size=0):=by omega
  have z7:¬(W.heap.size=2-1):=by omega
  have z8:¬(W.heap.size=2-2):=by omega
  have z9:W.heap.size≠2:=by omega
  simp only [Nat.reduceSub] at z7 z8
  have HC:Hid (∀o1 o2 o3,(((W.alloc o1).alloc o2).alloc o3).drew.cell? ⟨2,1,none⟩=some (.int .u8 5)):=fun o1 o2 o3=>((below_drew ((((Below.refl _ _).alloc (Nat.le_refl _) o1).alloc (by simp) o2).alloc (by simp; omega) o3)).cell (p:=⟨2,1,none⟩) l0).trans c0
  have HX:Hid (∀o2 o3,Bl (((W.alloc (.cells ([.int .i64 1,.int .u32 t2,.int .u64 t3,.int .i64 t4,.int .i64 t5,.int .u32 t6,.bool t7,.bool t8]).toArray 43)).alloc o2).alloc o3).drew W.heap.size 43 [.int .i64 1,.int .u32 t2,.int .u64 t3,.int .i64 t4,.int .i64 t5,.int .u32 t6,.bool t7,.bool t8]):=fun o2 o3=>(((Bl.new W 43 [.int .i64 1,.int .u32 t2,.int .u64 t3,.int .i64 t4,.int .i64 t5,.int .u32 t6,.bool t7,.bool t8]).below ((Below.refl _ _).alloc (Nat.le_refl _) o2)).below ((Below.refl _ _).alloc (Nat.le_refl _) o3)).drew
  clear ht
  go_enter Tryz.func92,Tryz.ntmps92
  go_wp2
  refine wp_region_held_drew (S:=fun w'=>w'.cell? ⟨W.heap.size,0,none⟩=some (.int .i64 1)∧w'.cell? ⟨W.heap.size,2,none⟩=some (.int .u64 t3)∧w'.cell? ⟨W.heap.size,4,none⟩=some (.int .i64 t5)∧w'.cell? ⟨W.heap.size,5,none⟩=some (.int .u32 t6)∧w'.cell? ⟨W.heap.size,6,none⟩=some (.bool t7)∧w'.cell? ⟨W.heap.size,7,none⟩=some (.bool t8)∧w'.cell? ⟨2,1,none⟩=some (.int .u8 5)) (by kernel_rfl) (by (try dsimp only); go_keep) (fun hHeld=> ?_)
  refine wpAnyH_take (i:=0) (oi:=⟨some 4,.fieldAddr 43 (.tmp 1) 0,0,_,#[],none⟩) (v:=?_) rfl (by kernel_rfl) (by kernel_rfl) (by kernel_rfl) (fun _ _ _ h=>h) (Or.inl ⟨by rfl,?_⟩) (by assumption) ?_
  rotate_left
  · (intro w hSw; (try dsimp only at hSw); go_simp; try with_reducible rfl)
  simp only [Act.put,List.setIfInBounds_toArray,List.set_cons_zero,List.set_cons_succ]
  refine wpAnyH_take (i:=1) (oi:=⟨some 5,.load 3 (.tmp 4),3,_,#[⟨0,.data⟩],none⟩) (v:=?_) rfl (by kernel_rfl) (by kernel_rfl) (by kernel_rfl) (fun _ _ _ h=>h) (Or.inl ⟨by rfl,?_⟩) (by assumption) ?_
  rotate_left
  · (intro w hSw; (try dsimp only at hSw); go_simp; try with_reducible rfl)
  simp only [Act.put,List.setIfInBounds_toArray,List.set_cons_zero,List.set_cons_succ]
  refine wpAnyH_take (i:=2) (oi:=⟨some 6,.indexAddr 169 (.global 2) (.tmp 5),0,_,#[⟨1,.data⟩],none⟩) (v:=?_) rfl (by kernel_rfl) (by kernel_rfl) (by kernel_rfl) (fun _ _ _ h=>h) (Or.inl ⟨by rfl,?_⟩) (by assumption) ?_
  rotate_left
  · (intro w hSw; (try dsimp only at hSw); go_simp; try with_reducible rfl)
  simp only [Act.put,List.setIfInBounds_toArray,List.set_cons_zero,List.set_cons_succ]
  refine wpAnyH_take (i:=3) (oi:=⟨some 7,.load 5 (.tmp 6),5,_,#[⟨2,.data⟩],none⟩) (v:=?_) rfl (by kernel_rfl) (by kernel_rfl) (by kernel_rfl) (fun _ _ _ h=>h) (Or.inl ⟨by rfl,?_⟩) (by assumption) ?_
  rotate_left
  · (intro w hSw; (try dsimp only at hSw); go_simp; try with_reducible rfl)
  simp only [Act.put,List.setIfInBounds_toArray,List.set_cons_zero,List.set_cons_succ]
  refine wpAnyH_take (i:=4) (oi:=⟨some 8,.convert 5 3 (.tmp 7),3,_,#[⟨3,.data⟩],none⟩) (v:=?_) rfl (by kernel_rfl) (by kernel_rfl) (by kernel_rfl) (fun _ _ _ h=>h) (Or.inl ⟨by rfl,?_⟩) (by assumption) ?_
  rotate_left
  · (intro w hSw; (try dsimp only at hSw); go_simp; try with_reducible rfl)
  simp only [Act.put,List.setIfInBounds_toArray,List.set_cons_zero,List.set_cons_succ]
  refine wpAnyH_take (i:=5) (oi:=⟨some 9,.fieldAddr 43 (.tmp 1) 2,0,_,#[],none⟩) (v:=?_) rfl (by kernel_rfl) (by kernel_rfl) (by kernel_rfl) (fun _ _ _ h=>h) (Or.inl ⟨by rfl,?_⟩) (by assumption) ?_
  rotate_left
  · (intro w hSw; (try dsimp only at hSw); go_simp; try with_reducible rfl)
  simp only [Act.put,List.setIfInBounds_toArray,List.set_cons_zero,List.set_cons_succ]
  refine wpAnyH_take (i:=6) (oi:=⟨some 10,.load 35 (.tmp 9),35,_,#[⟨5,.data⟩],none⟩) (v:=?_) rfl (by kernel_rfl) (by kernel_rfl) (by kernel_rfl) (fun _ _ _ h=>h) (Or.inl ⟨by rfl,?_⟩) (by assumption) ?_
  rotate_left
  · (intro w hSw; (try dsimp only at hSw); go_simp; try with_reducible rfl)
  simp only [Act.put,List.setIfInBounds_toArray,List.set_cons_zero,List.set_cons_succ]
  refine wpAnyH_take (i:=7) (oi:=⟨some 11,.fieldAddr 43 (.tmp 1) 4,0,_,#[],none⟩) (v:=?_) rfl (by kernel_rfl) (by kernel_rfl) (by kernel_rfl) (fun _ _ _ h=>h) (Or.inl ⟨by rfl,?_⟩) (by assumption) ?_
  rotate_left
  · (intro w hSw; (try dsimp only at hSw); go_simp; try with_reducible rfl)
  simp only [Act.put,List.setIfInBounds_toArray,List.set_cons_zero,List.set_cons_succ]
  refine wpAnyH_take (i:=8) (oi:=⟨some 12,.load 41 (.tmp 11),41,_,#[⟨7,.data⟩],none⟩) (v:=?_) rfl (by kernel_rfl) (by kernel_rfl) (by kernel_rfl) (fun _ _ _ h=>h) (Or.inl ⟨by rfl,?_⟩) (by assumption) ?_
  rotate_left
  · (intro w hSw; (try dsimp only at hSw); go_simp; try with_reducible rfl)
  simp only [Act.put,List.setIfInBounds_toArray,List.set_cons_zero,List.set_cons_succ]
  refine wpAnyH_take (i:=9) (oi:=⟨some 13,.build 140 #[(0,.tmp 8),(1,.tmp 10),(4,.tmp 12)],140,_,#[⟨4,.data⟩,⟨6,.data⟩,⟨8,.data⟩],none⟩) (v:=?_) rfl (by kernel_rfl) (by kernel_rfl) (by kernel_rfl) (fun _ _ _ h=>h) (Or.inl ⟨by rfl,?_⟩) (by assumption) ?_
  rotate_left
  · (intro w hSw; (try dsimp only at hSw); go_simp; try with_reducible rfl)
  simp only [Act.put,List.setIfInBounds_toArray,List.set_cons_zero,List.set_cons_succ]
  refine wpAnyH_ready (rs:=[10]) (by kernel_rfl) (by simp) ?_
  refine AllReadyH.cons (o:=⟨some 3,.alloc 140,0,_,#[],none⟩) rfl (fun K hK=> ?_) AllReadyH.nil
  go_simp
  skip
  refine hK.out _ _ ?_ (fun hHeld=> ?_)
  · ((try dsimp only); exact ⟨(HX.out _ _).cell 0,(HX.out _ _).cell 2,(HX.out _ _).cell 4,(HX.out _ _).cell 5,(HX.out _ _).cell 6,(HX.out _ _).cell 7,HC.out _ _ _⟩)
  clear hK K
  try simp only [Act.put,List.setIfInBounds_toArray,List.set_cons_zero,List.set_cons_succ]
  refine wpAnyH_ready (rs:=[11]) (by kernel_rfl) (by simp) ?_
  refine AllReadyH.cons (o:=⟨none,.store 140 (.tmp 3) (.tmp 13),0,_,#[⟨10,.data⟩,⟨9,.data⟩,⟨0,.phase⟩,⟨1,.phase⟩,⟨2,.phase⟩,⟨3,.phase⟩,⟨4,.phase⟩,⟨5,.phase⟩,⟨6,.phase⟩,⟨7,.phase⟩,⟨8,.phase⟩,⟨9,.phase⟩,⟨10,.phase⟩],none⟩) rfl (fun K hK=> ?_) AllReadyH.nil
  go_simp
  skip
  refine hK.out _ _ ?_ (fun hHeld=> ?_)
  · ((try dsimp only); exact ⟨(HX.out _ _).cell 0,(HX.out _ _).cell 2,(HX.out _ _).cell 4,(HX.out _ _).cell 5,(HX.out _ _).cell 6,(HX.out _ _).cell 7,HC.out _ _ _⟩)
  clear hK K
  try simp only [Act.put,List.setIfInBounds_toArray,List.set_cons_zero,List.set_cons_succ]
  refine wpAnyH_done (by kernel_rfl) ?_ _
  go_wp2
  refine bodyPost_ret (v:= .agg #[.int .i64 5,.int .u64 t3,.int .i64 0,.bool false,.int .i64 t5,.int .u32 t6,.bool t7,.bool t8]) (by simp [results,Tryz.results92,go_sem,IntKind.wrap_i64]) rfl ⟨rfl,(by (repeat (first|refine Below.setCell ?_ (by simp) _|refine below_drew ?_|refine Below.alloc ?_ (by simp; try omega) _)); exact Below.refl _ _)⟩
set_option maxRecDepth 100000 in
set_option maxHeartbeats 4000000 in
theorem entryOf_2 (t2 t3 t4 t5 t6:Int) (t7 t8:Bool) (W:World) (ht:TR W):Calls Tryz.prog 92 #[.agg #[.int .i64 2,.int .u32 t2,.int .u64 t3,.int .i64 t4,.int .i64 t5,.int .u32 t6,.bool t7,.bool t8]] W fun r w'=>r= .returned (.agg #[.int .i64 4,.int .u64 t3,.int .i64 0,.bool false,.int .i64 t5,.int .u32 t6,.bool t7,.bool t8])∧Below W.heap.size W w':=by
  have c0:=ht.kind 2 4 rfl
  have l0:2<W.heap.size:=cell_lt c0
  have z0:¬(2=W.heap.size):=by omega
  have z1:¬(2=W.heap.size+1):=by omega
  have z2:¬(2=W.heap.size+1+1):=by omega
  have z3:¬(W.heap.size=2):=by omega
  have z4:¬(W.heap.size+1=2):=by omega
  have z5:¬(W.heap.size+1+1=2):=by omega
  have z6:¬(W.heap.size=0):=by omega
  have z7:¬(W.heap.size=2-1):=by omega
  have z8:¬(W.heap.size=2-2):=by omega
  have z9:W.heap.size≠2:=by omega
  simp only [Nat.reduceSub] at z7 z8
  have HC:Hid (∀o1 o2 o3,(((W.alloc o1).alloc o2).alloc o3).drew.cell? ⟨2,2,none⟩=some (.int .u8 4)):=fun o1 o2 o3=>((below_drew ((((Below.refl _ _).alloc (Nat.le_refl _) o1).alloc (by simp) o2).alloc (by simp; omega) o3)).cell (p:=⟨2,2,none⟩) l0).trans c0
  have HX:Hid (∀o2 o3,Bl (((W.alloc (.cells ([.int .i64 2,.int .u32 t2,.int .u64 t3,.int .i64 t4,.int .i64 t5,.int .u32 t6,.bool t7,.bool t8]).toArray 43)).alloc o2).alloc o3).drew W.heap.size 43 [.int .i64 2,.int .u32 t2,.int .u64 t3,.int .i64 t4,.int .i64 t5,.int .u32 t6,.bool t7,.bool t8]):=fun o2 o3=>(((Bl.new W 43 [.int .i64 2,.int .u32 t2,.int .u64 t3,.int .i64 t4,.int .i64 t5,.int .u32 t6,.bool t7,.bool t8]).below ((Below.refl _ _).alloc (Nat.le_refl _) o2)).below ((Below.refl _ _).alloc (Nat.le_refl _) o3)).drew
  clear ht
  go_enter Tryz.func92,Tryz.ntmps92
  go_wp2
  refine wp_region_held_drew (S:=fun w'=>w'.cell? ⟨W.heap.size,0,none⟩=some (.int .i64 2)∧w'.cell? ⟨W.heap.size,2,none⟩=some (.int .u64 t3)∧w'.cell? ⟨W.heap.size,4,none⟩=some (.int .i64 t5)∧w'.cell? ⟨W.heap.size,5,none⟩=some (.int .u32 t6)∧w'.cell? ⟨W.heap.size,6,none⟩=some (.bool t7)∧w'.cell? ⟨W.heap.size,7,none⟩=some (.bool t8)∧w'.cell? ⟨2,2,none⟩=some (.int .u8 4)) (by kernel_rfl) (by (try dsimp only); go_keep) (fun hHeld=> ?_)
  refine wpAnyH_take (i:=0) (oi:=⟨some 4,.fieldAddr 43 (.tmp 1) 0,0,_,#[],none⟩) (v:=?_) rfl (by kernel_rfl) (by kernel_rfl) (by kernel_rfl) (fun _ _ _ h=>h) (Or.inl ⟨by rfl,?_⟩) (by assumption) ?_
  rotate_left
  · (intro w hSw; (try dsimp only at hSw); go_simp; try with_reducible rfl)
  simp only [Act.put,List.setIfInBounds_toArray,List.set_cons_zero,List.set_cons_succ]
  refine wpAnyH_take (i:=1) (oi:=⟨some 5,.load 3 (.tmp 4),3,_,#[⟨0,.data⟩],none⟩) (v:=?_) rfl (by kernel_rfl) (by kernel_rfl) (by kernel_rfl) (fun _ _ _ h=>h) (Or.inl ⟨by rfl,?_⟩) (by assumption) ?_
  rotate_left
  · (intro w hSw; (try dsimp only at hSw); go_simp; try with_reducible rfl)
  simp only [Act.put,List.setIfInBounds_toArray,List.set_cons_zero,List.set_cons_succ]
  refine wpAnyH_take (i:=2) (oi:=⟨some 6,.indexAddr 169 (.global 2) (.tmp 5),0,_,#[⟨1,.data⟩],none⟩) (v:=?_) rfl (by kernel_rfl) (by kernel_rfl) (by kernel_rfl) (fun _ _ _ h=>h) (Or.inl ⟨by rfl,?_⟩) (by assumption) ?_
  rotate_left
  · (intro w hSw; (try dsimp only at hSw); go_simp; try with_reducible rfl)
  simp only [Act.put,List.setIfInBounds_toArray,List.set_cons_zero,List.set_cons_succ]
  refine wpAnyH_take (i:=3) (oi:=⟨some 7,.load 5 (.tmp 6),5,_,#[⟨2,.data⟩],none⟩) (v:=?_) rfl (by kernel_rfl) (by kernel_rfl) (by kernel_rfl) (fun _ _ _ h=>h) (Or.inl ⟨by rfl,?_⟩) (by assumption) ?_
  rotate_left
  · (intro w hSw; (try dsimp only at hSw); go_simp; try with_reducible rfl)
  simp only [Act.put,List.setIfInBounds_toArray,List.set_cons_zero,List.set_cons_succ]
  refine wpAnyH_take (i:=4) (oi:=⟨some 8,.convert 5 3 (.tmp 7),3,_,#[⟨3,.data⟩],none⟩) (v:=?_) rfl (by kernel_rfl) (by kernel_rfl) (by kernel_rfl) (fun _ _ _ h=>h) (Or.inl ⟨by rfl,?_⟩) (by assumption) ?_
  rotate_left
  · (intro w hSw; (try dsimp only at hSw); go_simp; try with_reducible rfl)
  simp only [Act.put,List.setIfInBounds_toArray,List.set_cons_zero,List.set_cons_succ]
  refine wpAnyH_take (i:=5) (oi:=⟨some 9,.fieldAddr 43 (.tmp 1) 2,0,_,#[],none⟩) (v:=?_) rfl (by kernel_rfl) (by kernel_rfl) (by kernel_rfl) (fun _ _ _ h=>h) (Or.inl ⟨by rfl,?_⟩) (by assumption) ?_
  rotate_left
  · (intro w hSw; (try dsimp only at hSw); go_simp; try with_reducible rfl)
  simp only [Act.put,List.setIfInBounds_toArray,List.set_cons_zero,List.set_cons_succ]
  refine wpAnyH_take (i:=6) (oi:=⟨some 10,.load 35 (.tmp 9),35,_,#[⟨5,.data⟩],none⟩) (v:=?_) rfl (by kernel_rfl) (by kernel_rfl) (by kernel_rfl) (fun _ _ _ h=>h) (Or.inl ⟨by rfl,?_⟩) (by assumption) ?_
  rotate_left
  · (intro w hSw; (try dsimp only at hSw); go_simp; try with_reducible rfl)
  simp only [Act.put,List.setIfInBounds_toArray,List.set_cons_zero,List.set_cons_succ]
  refine wpAnyH_take (i:=7) (oi:=⟨some 11,.fieldAddr 43 (.tmp 1) 4,0,_,#[],none⟩) (v:=?_) rfl (by kernel_rfl) (by kernel_rfl) (by kernel_rfl) (fun _ _ _ h=>h) (Or.inl ⟨by rfl,?_⟩) (by assumption) ?_
  rotate_left
  · (intro w hSw; (try dsimp only at hSw); go_simp; try with_reducible rfl)
  simp only [Act.put,List.setIfInBounds_toArray,List.set_cons_zero,List.set_cons_succ]
  refine wpAnyH_take (i:=8) (oi:=⟨some 12,.load 41 (.tmp 11),41,_,#[⟨7,.data⟩],none⟩) (v:=?_) rfl (by kernel_rfl) (by kernel_rfl) (by kernel_rfl) (fun _ _ _ h=>h) (Or.inl ⟨by rfl,?_⟩) (by assumption) ?_
  rotate_left
  · (intro w hSw; (try dsimp only at hSw); go_simp; try with_reducible rfl)
  simp only [Act.put,List.setIfInBounds_toArray,List.set_cons_zero,List.set_cons_succ]
  refine wpAnyH_take (i:=9) (oi:=⟨some 13,.build 140 #[(0,.tmp 8),(1,.tmp 10),(4,.tmp 12)],140,_,#[⟨4,.data⟩,⟨6,.data⟩,⟨8,.data⟩],none⟩) (v:=?_) rfl (by kernel_rfl) (by kernel_rfl) (by kernel_rfl) (fun _ _ _ h=>h) (Or.inl ⟨by rfl,?_⟩) (by assumption) ?_
  rotate_left
  · (intro w hSw; (try dsimp only at hSw); go_simp; try with_reducible rfl)
  simp only [Act.put,List.setIfInBounds_toArray,List.set_cons_zero,List.set_cons_succ]
  refine wpAnyH_ready (rs:=[10]) (by kernel_rfl) (by simp) ?_
  refine AllReadyH.cons (o:=⟨some 3,.alloc 140,0,_,#[],none⟩) rfl (fun K hK=> ?_) AllReadyH.nil
  go_simp
  skip
  refine hK.out _ _ ?_ (fun hHeld=> ?_)
  · ((try dsimp only); exact ⟨(HX.out _ _).cell 0,(HX.out _ _).cell 2,(HX.out _ _).cell 4,(HX.out _ _).cell 5,(HX.out _ _).cell 6,(HX.out _ _).cell 7,HC.out _ _ _⟩)
  clear hK K
  try simp only [Act.put,List.setIfInBounds_toArray,List.set_cons_zero,List.set_cons_succ]
  refine wpAnyH_ready (rs:=[11]) (by kernel_rfl) (by simp) ?_
  refine AllReadyH.cons (o:=⟨none,.store 140 (.tmp 3) (.tmp 13),0,_,#[⟨10,.data⟩,⟨9,.data⟩,⟨0,.phase⟩,⟨1,.phase⟩,⟨2,.phase⟩,⟨3,.phase⟩,⟨4,.phase⟩,⟨5,.phase⟩,⟨6,.phase⟩,⟨7,.phase⟩,⟨8,.phase⟩,⟨9,.phase⟩,⟨10,.phase⟩],none⟩) rfl (fun K hK=> ?_) AllReadyH.nil
  go_simp
  skip
  refine hK.out _ _ ?_ (fun hHeld=> ?_)
  · ((try dsimp only); exact ⟨(HX.out _ _).cell 0,(HX.out _ _).cell 2,(HX.out _ _).cell 4,(HX.out _ _).cell 5,(HX.out _ _).cell 6,(HX.out _ _).cell 7,HC.out _ _ _⟩)
  clear hK K
  try simp only [Act.put,List.setIfInBounds_toArray,List.set_cons_zero,List.set_cons_succ]
  refine wpAnyH_done (by kernel_rfl) ?_ _
  go_wp2
  refine bodyPost_ret (v:= .agg #[.int .i64 4,.int .u64 t3,.int .i64 0,.bool false,.int .i64 t5,.int .u32 t6,.bool t7,.bool t8]) (by simp [results,Tryz.results92,go_sem,IntKind.wrap_i64]) rfl ⟨rfl,(by (repeat (first|refine Below.setCell ?_ (by simp) _|refine below_drew ?_|refine Below.alloc ?_ (by simp; try omega) _)); exact Below.refl _ _)⟩
set_option maxRecDepth 100000 in
set_option maxHeartbeats 4000000 in
theorem entryOf_3 (t2 t3 t4 t5 t6:Int) (t7 t8:Bool) (W:World) (ht:TR W):Calls Tryz.prog 92 #[.agg #[.int .i64 3,.int .u32 t2,.int .u64 t3,.int .i64 t4,.int .i64 t5,.int .u32 t6,.bool t7,.bool t8]] W fun r w'=>r= .returned (.agg #[.int .i64 2,.int .u64 t3,.int .i64 t4,.bool false,.int .i64 t5,.int .u32 t6,.bool t7,.bool t8])∧Below W.heap.size W w':=by
  have c0:=ht.kind 3 2 rfl
  have l0:2<W.heap.size:=cell_lt c0
  have z0:¬(2=W.heap.size):=by omega
  have z1:¬(2=W.heap.size+1):=by omega
  have z2:¬(2=W.heap.size+1+1):=by omega
  have z3:¬(W.heap.size=2):=by omega
  have z4:¬(W.heap.size+1=2):=by omega
  have z5:¬(W.heap.size+1+1=2):=by omega
  have z6:¬(W.heap.size=0):=by omega
  have z7:¬(W.heap.size=2-1):=by omega
  have z8:¬(W.heap.size=2-2):=by omega
  have z9:W.heap.size≠2:=by omega
  simp only [Nat.reduceSub] at z7 z8
  have HC:Hid (∀o1 o2 o3,(((W.alloc o1).alloc o2).alloc o3).drew.cell? ⟨2,3,none⟩=some (.int .u8 2)):=fun o1 o2 o3=>((below_drew ((((Below.refl _ _).alloc (Nat.le_refl _) o1).alloc (by simp) o2).alloc (by simp; omega) o3)).cell (p:=⟨2,3,none⟩) l0).trans c0
  have HX:Hid (∀o2 o3,Bl (((W.alloc (.cells ([.int .i64 3,.int .u32 t2,.int .u64 t3,.int .i64 t4,.int .i64 t5,.int .u32 t6,.bool t7,.bool t8]).toArray 43)).alloc o2).alloc o3).drew W.heap.size 43 [.int .i64 3,.int .u32 t2,.int .u64 t3,.int .i64 t4,.int .i64 t5,.int .u32 t6,.bool t7,.bool t8]):=fun o2 o3=>(((Bl.new W 43 [.int .i64 3,.int .u32 t2,.int .u64 t3,.int .i64 t4,.int .i64 t5,.int .u32 t6,.bool t7,.bool t8]).below ((Below.refl _ _).alloc (Nat.le_refl _) o2)).below ((Below.refl _ _).alloc (Nat.le_refl _) o3)).drew
  clear ht
  go_enter Tryz.func92,Tryz.ntmps92
  go_wp2
  refine wp_region_held_drew (S:=fun w'=>w'.cell? ⟨W.heap.size,0,none⟩=some (.int .i64 3)∧w'.cell? ⟨W.heap.size,2,none⟩=some (.int .u64 t3)∧w'.cell? ⟨W.heap.size,4,none⟩=some (.int .i64 t5)∧w'.cell? ⟨W.heap.size,5,none⟩=some (.int .u32 t6)∧w'.cell? ⟨W.heap.size,6,none⟩=some (.bool t7)∧w'.cell? ⟨W.heap.size,7,none⟩=some (.bool t8)∧w'.cell? ⟨2,3,none⟩=some (.int .u8 2)) (by kernel_rfl) (by (try dsimp only); go_keep) (fun hHeld=> ?_)
  refine wpAnyH_take (i:=0) (oi:=⟨some 4,.fieldAddr 43 (.tmp 1) 0,0,_,#[],none⟩) (v:=?_) rfl (by kernel_rfl) (by kernel_rfl) (by kernel_rfl) (fun _ _ _ h=>h) (Or.inl ⟨by rfl,?_⟩) (by assumption) ?_
  rotate_left
  · (intro w hSw; (try dsimp only at hSw); go_simp; try with_reducible rfl)
  simp only [Act.put,List.setIfInBounds_toArray,List.set_cons_zero,List.set_cons_succ]
  refine wpAnyH_take (i:=1) (oi:=⟨some 5,.load 3 (.tmp 4),3,_,#[⟨0,.data⟩],none⟩) (v:=?_) rfl (by kernel_rfl) (by kernel_rfl) (by kernel_rfl) (fun _ _ _ h=>h) (Or.inl ⟨by rfl,?_⟩) (by assumption) ?_
  rotate_left
  · (intro w hSw; (try dsimp only at hSw); go_simp; try with_reducible rfl)
  simp only [Act.put,List.setIfInBounds_toArray,List.set_cons_zero,List.set_cons_succ]
  refine wpAnyH_take (i:=2) (oi:=⟨some 6,.indexAddr 169 (.global 2) (.tmp 5),0,_,#[⟨1,.data⟩],none⟩) (v:=?_) rfl (by kernel_rfl) (by kernel_rfl) (by kernel_rfl) (fun _ _ _ h=>h) (Or.inl ⟨by rfl,?_⟩) (by assumption) ?_
  rotate_left
  · (intro w hSw; (try dsimp only at hSw); go_simp; try with_reducible rfl)
  simp only [Act.put,List.setIfInBounds_toArray,List.set_cons_zero,List.set_cons_succ]
  refine wpAnyH_take (i:=3) (oi:=⟨some 7,.load 5 (.tmp 6),5,_,#[⟨2,.data⟩],none⟩) (v:=?_) rfl (by kernel_rfl) (by kernel_rfl) (by kernel_rfl) (fun _ _ _ h=>h) (Or.inl ⟨by rfl,?_⟩) (by assumption) ?_
  rotate_left
  · (intro w hSw; (try dsimp only at hSw); go_simp; try with_reducible rfl)
  simp only [Act.put,List.setIfInBounds_toArray,List.set_cons_zero,List.set_cons_succ]
  refine wpAnyH_take (i:=4) (oi:=⟨some 8,.convert 5 3 (.tmp 7),3,_,#[⟨3,.data⟩],none⟩) (v:=?_) rfl (by kernel_rfl) (by kernel_rfl) (by kernel_rfl) (fun _ _ _ h=>h) (Or.inl ⟨by rfl,?_⟩) (by assumption) ?_
  rotate_left
  · (intro w hSw; (try dsimp only at hSw); go_simp; try with_reducible rfl)
  simp only [Act.put,List.setIfInBounds_toArray,List.set_cons_zero,List.set_cons_succ]
  refine wpAnyH_take (i:=5) (oi:=⟨some 9,.fieldAddr 43 (.tmp 1) 2,0,_,#[],none⟩) (v:=?_) rfl (by kernel_rfl) (by kernel_rfl) (by kernel_rfl) (fun _ _ _ h=>h) (Or.inl ⟨by rfl,?_⟩) (by assumption) ?_
  rotate_left
  · (intro w hSw; (try dsimp only at hSw); go_simp; try with_reducible rfl)
  simp only [Act.put,List.setIfInBounds_toArray,List.set_cons_zero,List.set_cons_succ]
  refine wpAnyH_take (i:=6) (oi:=⟨some 10,.load 35 (.tmp 9),35,_,#[⟨5,.data⟩],none⟩) (v:=?_) rfl (by kernel_rfl) (by kernel_rfl) (by kernel_rfl) (fun _ _ _ h=>h) (Or.inl ⟨by rfl,?_⟩) (by assumption) ?_
  rotate_left
  · (intro w hSw; (try dsimp only at hSw); go_simp; try with_reducible rfl)
  simp only [Act.put,List.setIfInBounds_toArray,List.set_cons_zero,List.set_cons_succ]
  refine wpAnyH_take (i:=7) (oi:=⟨some 11,.fieldAddr 43 (.tmp 1) 4,0,_,#[],none⟩) (v:=?_) rfl (by kernel_rfl) (by kernel_rfl) (by kernel_rfl) (fun _ _ _ h=>h) (Or.inl ⟨by rfl,?_⟩) (by assumption) ?_
  rotate_left
  · (intro w hSw; (try dsimp only at hSw); go_simp; try with_reducible rfl)
  simp only [Act.put,List.setIfInBounds_toArray,List.set_cons_zero,List.set_cons_succ]
  refine wpAnyH_take (i:=8) (oi:=⟨some 12,.load 41 (.tmp 11),41,_,#[⟨7,.data⟩],none⟩) (v:=?_) rfl (by kernel_rfl) (by kernel_rfl) (by kernel_rfl) (fun _ _ _ h=>h) (Or.inl ⟨by rfl,?_⟩) (by assumption) ?_
  rotate_left
  · (intro w hSw; (try dsimp only at hSw); go_simp; try with_reducible rfl)
  simp only [Act.put,List.setIfInBounds_toArray,List.set_cons_zero,List.set_cons_succ]
  refine wpAnyH_take (i:=9) (oi:=⟨some 13,.build 140 #[(0,.tmp 8),(1,.tmp 10),(4,.tmp 12)],140,_,#[⟨4,.data⟩,⟨6,.data⟩,⟨8,.data⟩],none⟩) (v:=?_) rfl (by kernel_rfl) (by kernel_rfl) (by kernel_rfl) (fun _ _ _ h=>h) (Or.inl ⟨by rfl,?_⟩) (by assumption) ?_
  rotate_left
  · (intro w hSw; (try dsimp only at hSw); go_simp; try with_reducible rfl)
  simp only [Act.put,List.setIfInBounds_toArray,List.set_cons_zero,List.set_cons_succ]
  refine wpAnyH_ready (rs:=[10]) (by kernel_rfl) (by simp) ?_
  refine AllReadyH.cons (o:=⟨some 3,.alloc 140,0,_,#[],none⟩) rfl (fun K hK=> ?_) AllReadyH.nil
  go_simp
  skip
  refine hK.out _ _ ?_ (fun hHeld=> ?_)
  · ((try dsimp only); exact ⟨(HX.out _ _).cell 0,(HX.out _ _).cell 2,(HX.out _ _).cell 4,(HX.out _ _).cell 5,(HX.out _ _).cell 6,(HX.out _ _).cell 7,HC.out _ _ _⟩)
  clear hK K
  try simp only [Act.put,List.setIfInBounds_toArray,List.set_cons_zero,List.set_cons_succ]
  refine wpAnyH_ready (rs:=[11]) (by kernel_rfl) (by simp) ?_
  refine AllReadyH.cons (o:=⟨none,.store 140 (.tmp 3) (.tmp 13),0,_,#[⟨10,.data⟩,⟨9,.data⟩,⟨0,.phase⟩,⟨1,.phase⟩,⟨2,.phase⟩,⟨3,.phase⟩,⟨4,.phase⟩,⟨5,.phase⟩,⟨6,.phase⟩,⟨7,.phase⟩,⟨8,.phase⟩,⟨9,.phase⟩,⟨10,.phase⟩],none⟩) rfl (fun K hK=> ?_) AllReadyH.nil
  go_simp
  skip
  refine hK.out _ _ ?_ (fun hHeld=> ?_)
  · ((try dsimp only); exact ⟨(HX.out _ _).cell 0,(HX.out _ _).cell 2,(HX.out _ _).cell 4,(HX.out _ _).cell 5,(HX.out _ _).cell 6,(HX.out _ _).cell 7,HC.out _ _ _⟩)
  clear hK K
  try simp only [Act.put,List.setIfInBounds_toArray,List.set_cons_zero,List.set_cons_succ]
  refine wpAnyH_done (by kernel_rfl) ?_ _
  go_wp2
  refine bodyPost_ret (v:= .agg #[.int .i64 2,.int .u64 t3,.int .i64 t4,.bool false,.int .i64 t5,.int .u32 t6,.bool t7,.bool t8]) (by simp [results,Tryz.results92,go_sem,IntKind.wrap_i64]) rfl ⟨rfl,(by (repeat (first|refine Below.setCell ?_ (by simp) _|refine below_drew ?_|refine Below.alloc ?_ (by simp; try omega) _)); exact Below.refl _ _)⟩
set_option maxRecDepth 100000 in
set_option maxHeartbeats 4000000 in
theorem entryOf_4 (t2 t3 t4 t5 t6:Int) (t7 t8:Bool) (W:World) (ht:TR W):Calls Tryz.prog 92 #[.agg #[.int .i64 4,.int .u32 t2,.int .u64 t3,.int .i64 t4,.int .i64 t5,.int .u32 t6,.bool t7,.bool t8]] W fun r w'=>r= .returned (.agg #[.int .i64 3,.int .u64 t3,.int .i64 0,.bool false,.int .i64 t5,.int .u32 t6,.bool t7,.bool t8])∧Below W.heap.size W w':=by
  have c0:=ht.kind 4 3 rfl
  have l0:2<W.heap.size:=cell_lt c0
  have z0:¬(2=W.heap.size):=by omega
  have z1:¬(2=W.heap.size+1):=by omega
  have z2:¬(2=W.heap.size+1+1):=by omega
  have z3:¬(W.heap.size=2):=by omega
  have z4:¬(W.heap.size+1=2):=by omega
  have z5:¬(W.heap.size+1+1=2):=by omega
  have z6:¬(W.heap.size=0):=by omega
  have z7:¬(W.heap.size=2-1):=by omega
  have z8:¬(W.heap.size=2-2):=by omega
  have z9:W.heap.size≠2:=by omega
  simp only [Nat.reduceSub] at z7 z8
  have HC:Hid (∀o1 o2 o3,(((W.alloc o1).alloc o2).alloc o3).drew.cell? ⟨2,4,none⟩=some (.int .u8 3)):=fun o1 o2 o3=>((below_drew ((((Below.refl _ _).alloc (Nat.le_refl _) o1).alloc (by simp) o2).alloc (by simp; omega) o3)).cell (p:=⟨2,4,none⟩) l0).trans c0
  have HX:Hid (∀o2 o3,Bl (((W.alloc (.cells ([.int .i64 4,.int .u32 t2,.int .u64 t3,.int .i64 t4,.int .i64 t5,.int .u32 t6,.bool t7,.bool t8]).toArray 43)).alloc o2).alloc o3).drew W.heap.size 43 [.int .i64 4,.int .u32 t2,.int .u64 t3,.int .i64 t4,.int .i64 t5,.int .u32 t6,.bool t7,.bool t8]):=fun o2 o3=>(((Bl.new W 43 [.int .i64 4,.int .u32 t2,.int .u64 t3,.int .i64 t4,.int .i64 t5,.int .u32 t6,.bool t7,.bool t8]).below ((Below.refl _ _).alloc (Nat.le_refl _) o2)).below ((Below.refl _ _).alloc (Nat.le_refl _) o3)).drew
  clear ht
  go_enter Tryz.func92,Tryz.ntmps92
  go_wp2
  refine wp_region_held_drew (S:=fun w'=>w'.cell? ⟨W.heap.size,0,none⟩=some (.int .i64 4)∧w'.cell? ⟨W.heap.size,2,none⟩=some (.int .u64 t3)∧w'.cell? ⟨W.heap.size,4,none⟩=some (.int .i64 t5)∧w'.cell? ⟨W.heap.size,5,none⟩=some (.int .u32 t6)∧w'.cell? ⟨W.heap.size,6,none⟩=some (.bool t7)∧w'.cell? ⟨W.heap.size,7,none⟩=some (.bool t8)∧w'.cell? ⟨2,4,none⟩=some (.int .u8 3)) (by kernel_rfl) (by (try dsimp only); go_keep) (fun hHeld=> ?_)
  refine wpAnyH_take (i:=0) (oi:=⟨some 4,.fieldAddr 43 (.tmp 1) 0,0,_,#[],none⟩) (v:=?_) rfl (by kernel_rfl) (by kernel_rfl) (by kernel_rfl) (fun _ _ _ h=>h) (Or.inl ⟨by rfl,?_⟩) (by assumption) ?_
  rotate_left
  · (intro w hSw; (try dsimp only at hSw); go_simp; try with_reducible rfl)
  simp only [Act.put,List.setIfInBounds_toArray,List.set_cons_zero,List.set_cons_succ]
  refine wpAnyH_take (i:=1) (oi:=⟨some 5,.load 3 (.tmp 4),3,_,#[⟨0,.data⟩],none⟩) (v:=?_) rfl (by kernel_rfl) (by kernel_rfl) (by kernel_rfl) (fun _ _ _ h=>h) (Or.inl ⟨by rfl,?_⟩) (by assumption) ?_
  rotate_left
  · (intro w hSw; (try dsimp only at hSw); go_simp; try with_reducible rfl)
  simp only [Act.put,List.setIfInBounds_toArray,List.set_cons_zero,List.set_cons_succ]
  refine wpAnyH_take (i:=2) (oi:=⟨some 6,.indexAddr 169 (.global 2) (.tmp 5),0,_,#[⟨1,.data⟩],none⟩) (v:=?_) rfl (by kernel_rfl) (by kernel_rfl) (by kernel_rfl) (fun _ _ _ h=>h) (Or.inl ⟨by rfl,?_⟩) (by assumption) ?_
  rotate_left
  · (intro w hSw; (try dsimp only at hSw); go_simp; try with_reducible rfl)
  simp only [Act.put,List.setIfInBounds_toArray,List.set_cons_zero,List.set_cons_succ]
  refine wpAnyH_take (i:=3) (oi:=⟨some 7,.load 5 (.tmp 6),5,_,#[⟨2,.data⟩],none⟩) (v:=?_) rfl (by kernel_rfl) (by kernel_rfl) (by kernel_rfl) (fun _ _ _ h=>h) (Or.inl ⟨by rfl,?_⟩) (by assumption) ?_
  rotate_left
  · (intro w hSw; (try dsimp only at hSw); go_simp; try with_reducible rfl)
  simp only [Act.put,List.setIfInBounds_toArray,List.set_cons_zero,List.set_cons_succ]
  refine wpAnyH_take (i:=4) (oi:=⟨some 8,.convert 5 3 (.tmp 7),3,_,#[⟨3,.data⟩],none⟩) (v:=?_) rfl (by kernel_rfl) (by kernel_rfl) (by kernel_rfl) (fun _ _ _ h=>h) (Or.inl ⟨by rfl,?_⟩) (by assumption) ?_
  rotate_left
  · (intro w hSw; (try dsimp only at hSw); go_simp; try with_reducible rfl)
  simp only [Act.put,List.setIfInBounds_toArray,List.set_cons_zero,List.set_cons_succ]
  refine wpAnyH_take (i:=5) (oi:=⟨some 9,.fieldAddr 43 (.tmp 1) 2,0,_,#[],none⟩) (v:=?_) rfl (by kernel_rfl) (by kernel_rfl) (by kernel_rfl) (fun _ _ _ h=>h) (Or.inl ⟨by rfl,?_⟩) (by assumption) ?_
  rotate_left
  · (intro w hSw; (try dsimp only at hSw); go_simp; try with_reducible rfl)
  simp only [Act.put,List.setIfInBounds_toArray,List.set_cons_zero,List.set_cons_succ]
  refine wpAnyH_take (i:=6) (oi:=⟨some 10,.load 35 (.tmp 9),35,_,#[⟨5,.data⟩],none⟩) (v:=?_) rfl (by kernel_rfl) (by kernel_rfl) (by kernel_rfl) (fun _ _ _ h=>h) (Or.inl ⟨by rfl,?_⟩) (by assumption) ?_
  rotate_left
  · (intro w hSw; (try dsimp only at hSw); go_simp; try with_reducible rfl)
  simp only [Act.put,List.setIfInBounds_toArray,List.set_cons_zero,List.set_cons_succ]
  refine wpAnyH_take (i:=7) (oi:=⟨some 11,.fieldAddr 43 (.tmp 1) 4,0,_,#[],none⟩) (v:=?_) rfl (by kernel_rfl) (by kernel_rfl) (by kernel_rfl) (fun _ _ _ h=>h) (Or.inl ⟨by rfl,?_⟩) (by assumption) ?_
  rotate_left
  · (intro w hSw; (try dsimp only at hSw); go_simp; try with_reducible rfl)
  simp only [Act.put,List.setIfInBounds_toArray,List.set_cons_zero,List.set_cons_succ]
  refine wpAnyH_take (i:=8) (oi:=⟨some 12,.load 41 (.tmp 11),41,_,#[⟨7,.data⟩],none⟩) (v:=?_) rfl (by kernel_rfl) (by kernel_rfl) (by kernel_rfl) (fun _ _ _ h=>h) (Or.inl ⟨by rfl,?_⟩) (by assumption) ?_
  rotate_left
  · (intro w hSw; (try dsimp only at hSw); go_simp; try with_reducible rfl)
  simp only [Act.put,List.setIfInBounds_toArray,List.set_cons_zero,List.set_cons_succ]
  refine wpAnyH_take (i:=9) (oi:=⟨some 13,.build 140 #[(0,.tmp 8),(1,.tmp 10),(4,.tmp 12)],140,_,#[⟨4,.data⟩,⟨6,.data⟩,⟨8,.data⟩],none⟩) (v:=?_) rfl (by kernel_rfl) (by kernel_rfl) (by kernel_rfl) (fun _ _ _ h=>h) (Or.inl ⟨by rfl,?_⟩) (by assumption) ?_
  rotate_left
  · (intro w hSw; (try dsimp only at hSw); go_simp; try with_reducible rfl)
  simp only [Act.put,List.setIfInBounds_toArray,List.set_cons_zero,List.set_cons_succ]
  refine wpAnyH_ready (rs:=[10]) (by kernel_rfl) (by simp) ?_
  refine AllReadyH.cons (o:=⟨some 3,.alloc 140,0,_,#[],none⟩) rfl (fun K hK=> ?_) AllReadyH.nil
  go_simp
  skip
  refine hK.out _ _ ?_ (fun hHeld=> ?_)
  · ((try dsimp only); exact ⟨(HX.out _ _).cell 0,(HX.out _ _).cell 2,(HX.out _ _).cell 4,(HX.out _ _).cell 5,(HX.out _ _).cell 6,(HX.out _ _).cell 7,HC.out _ _ _⟩)
  clear hK K
  try simp only [Act.put,List.setIfInBounds_toArray,List.set_cons_zero,List.set_cons_succ]
  refine wpAnyH_ready (rs:=[11]) (by kernel_rfl) (by simp) ?_
  refine AllReadyH.cons (o:=⟨none,.store 140 (.tmp 3) (.tmp 13),0,_,#[⟨10,.data⟩,⟨9,.data⟩,⟨0,.phase⟩,⟨1,.phase⟩,⟨2,.phase⟩,⟨3,.phase⟩,⟨4,.phase⟩,⟨5,.phase⟩,⟨6,.phase⟩,⟨7,.phase⟩,⟨8,.phase⟩,⟨9,.phase⟩,⟨10,.phase⟩],none⟩) rfl (fun K hK=> ?_) AllReadyH.nil
  go_simp
  skip
  refine hK.out _ _ ?_ (fun hHeld=> ?_)
  · ((try dsimp only); exact ⟨(HX.out _ _).cell 0,(HX.out _ _).cell 2,(HX.out _ _).cell 4,(HX.out _ _).cell 5,(HX.out _ _).cell 6,(HX.out _ _).cell 7,HC.out _ _ _⟩)
  clear hK K
  try simp only [Act.put,List.setIfInBounds_toArray,List.set_cons_zero,List.set_cons_succ]
  refine wpAnyH_done (by kernel_rfl) ?_ _
  go_wp2
  refine bodyPost_ret (v:= .agg #[.int .i64 3,.int .u64 t3,.int .i64 0,.bool false,.int .i64 t5,.int .u32 t6,.bool t7,.bool t8]) (by simp [results,Tryz.results92,go_sem,IntKind.wrap_i64]) rfl ⟨rfl,(by (repeat (first|refine Below.setCell ?_ (by simp) _|refine below_drew ?_|refine Below.alloc ?_ (by simp; try omega) _)); exact Below.refl _ _)⟩
theorem entryOf_any (t:Tra) (W:World) (ht:TR W) (hs:1≤t.size∧t.size≤4):Calls Tryz.prog 92 #[.agg #[.int .i64 t.size,.int .u32 t.va,.int .u64 t.pa,.int .i64 t.dom,.int .i64 t.ap,.int .u32 t.bits,.bool t.ng,.bool t.xn]] W fun r w'=>r= .returned (.agg #[.int .i64 (enF t).kind,.int .u64 (enF t).base,.int .i64 (enF t).dom,.bool (enF t).ns,.int .i64 (enF t).ap,.int .u32 (enF t).bits,.bool (enF t).ng,.bool (enF t).xn])∧Below W.heap.size W w':=by
  obtain ⟨s,t2,t3,t4,t5,t6,t7,t8⟩:=t
  simp only at hs
  rcases (show s=1∨s=2∨s=3∨s=4 by omega) with rfl|rfl|rfl|rfl
  · exact entryOf_1 t2 t3 t4 t5 t6 t7 t8 W ht
  · exact entryOf_2 t2 t3 t4 t5 t6 t7 t8 W ht
  · exact entryOf_3 t2 t3 t4 t5 t6 t7 t8 W ht
  · exact entryOf_4 t2 t3 t4 t5 t6 t7 t8 W ht
end Go.Proofs.YtnjlajjjcmhfgaaGreatDoor
