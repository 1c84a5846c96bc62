import Derived.Test.YtnjlajjjcmhfgaaGreatDoorTA18
namespace Go.Proofs.YtnjlajjjcmhfgaaGreatDoor
open Go.RowKit
open Mm (Turn)
set_option linter.unusedVariables false
set_option linter.unusedSimpArgs false
set_option maxRecDepth 100000 in
set_option maxHeartbeats 4000000 in
theorem takes_no (d:Dro) (b:Blo) (W:World) (ht:TR W) (hO:BOk b) (hd:0≤d.va∧d.va<4294967296) (hr:bR b=false):Calls Tryz.prog 12 #[.agg #[.int .i64 d.kind,.int .u32 d.va,.int .i64 d.asid],.agg #[.int .i64 b.asid,.int .i64 b.t.size,.int .u32 b.t.va,.int .u64 b.t.pa,.int .i64 b.t.dom,.int .i64 b.t.ap,.int .u32 b.t.bits,.bool b.t.ng,.bool b.t.xn]] W fun e w'=>e= .returned (.bool (tkF d b))∧Below W.heap.size W w':=by
  have HR:Hid (∀w,Below W.heap.size W w→Calls Tryz.prog 44 #[.agg #[.int .i64 b.asid,.int .i64 b.t.size,.int .u32 b.t.va,.int .u64 b.t.pa,.int .i64 b.t.dom,.int .i64 b.t.ap,.int .u32 b.t.bits,.bool b.t.ng,.bool b.t.xn]] w fun e w'=>e= .returned (.bool (bR b))∧Below w.heap.size w w'):=fun w h=>tright_any b w (ht.below h) hO
  have HX:=hidW (KX.start W d b)
  have he:tkF d b=false:=by simp [tkF,hr]
  rw [he]
  rw [hr] at HR
  clear ht hO hr he
  go_enter Tryz.func12,Tryz.ntmps12
  go_wp2
  generalize World.alloc _ _=w0 at *
  generalize hA:W.heap.size=A at HX ⊢
  generalize hB:A+1=B at HX ⊢
  clear hA hB
  replace HX:=hidW HX.out.drew
  refine wp_region_held_drew (S:=fun w'=>(w'.cell? ⟨A,0,none⟩=some (.int .i64 d.kind)∧w'.cell? ⟨A,1,none⟩=some (.int .u32 d.va)∧w'.cell? ⟨A,2,none⟩=some (.int .i64 d.asid))∧w'.cell? ⟨B,0,none⟩=some (.int .i64 b.asid)∧w'.cell? ⟨B,1,none⟩=some (.int .i64 b.t.size)∧w'.cell? ⟨B,2,none⟩=some (.int .u32 b.t.va)∧w'.cell? ⟨B,3,none⟩=some (.int .u64 b.t.pa)∧w'.cell? ⟨B,4,none⟩=some (.int .i64 b.t.dom)∧w'.cell? ⟨B,5,none⟩=some (.int .i64 b.t.ap)∧w'.cell? ⟨B,6,none⟩=some (.int .u32 b.t.bits)∧w'.cell? ⟨B,7,none⟩=some (.bool b.t.ng)∧w'.cell? ⟨B,8,none⟩=some (.bool b.t.xn)) (by kernel_rfl) (⟨⟨HX.out.bd.cell 0,HX.out.bd.cell 1,HX.out.bd.cell 2⟩,HX.out.bb.cell 0,HX.out.bb.cell 1,HX.out.bb.cell 2,HX.out.bb.cell 3,HX.out.bb.cell 4,HX.out.bb.cell 5,HX.out.bb.cell 6,HX.out.bb.cell 7,HX.out.bb.cell 8⟩) (fun hHeld=> ?_)
  refine wpAnyH_take (i:=0) (oi:=⟨some 5,.load 45 (.tmp 3),45,_,#[],none⟩) (v:=?_) rfl (by kernel_rfl) (by kernel_rfl) (by kernel_rfl) (fun _ _ _ h=>h) (Or.inl ⟨by rfl,?_⟩) (by assumption) ?_
  rotate_left
  · (intro w hSw; (try dsimp only at hSw); go_simp; try with_reducible rfl)
  simp only [Act.put,List.setIfInBounds_toArray,List.set_cons_zero,List.set_cons_succ]
  refine wpAnyH_ready (rs:=[1]) (by kernel_rfl) (by simp) ?_
  refine AllReadyH.cons (o:=⟨some 6,.call ⟨.value (.func 44),#[.tmp 5],#[45]⟩,4,_,#[⟨0,.data⟩],none⟩) rfl (fun K hK=> ?_) AllReadyH.nil
  go_simp
  (go_at_call 44; refine (HR.out _ HX.out.bel).mono ?_; rintro e w1 ⟨rfl,hb⟩; replace HX:=hidW (HX.out.step hb); clear hb HR; go_wp2_with fail)
  refine hK.out _ _ ?_ (fun hHeld=> ?_)
  · ((try dsimp only); exact ⟨⟨HX.out.bd.cell 0,HX.out.bd.cell 1,HX.out.bd.cell 2⟩,HX.out.bb.cell 0,HX.out.bb.cell 1,HX.out.bb.cell 2,HX.out.bb.cell 3,HX.out.bb.cell 4,HX.out.bb.cell 5,HX.out.bb.cell 6,HX.out.bb.cell 7,HX.out.bb.cell 8⟩)
  clear hK K
  try simp only [Act.put,List.setIfInBounds_toArray,List.set_cons_zero,List.set_cons_succ]
  refine wpAnyH_take (i:=2) (oi:=⟨some 7,.move (.tmp 6),4,_,#[⟨1,.data⟩,⟨1,.chain⟩],none⟩) (v:=?_) rfl (by kernel_rfl) (by kernel_rfl) (by kernel_rfl) (fun _ _ _ h=>h) (Or.inl ⟨by rfl,?_⟩) (by assumption) ?_
  rotate_left
  · (intro w hSw; (try dsimp only at hSw); go_simp; try with_reducible rfl)
  simp only [Act.put,List.setIfInBounds_toArray,List.set_cons_zero,List.set_cons_succ]
  refine wpAnyH_take (i:=3) (oi:=⟨some 8,.load 34 (.tmp 2),34,_,#[⟨2,.guard⟩],some (2,true)⟩) (v:=undef) rfl (by kernel_rfl) (by kernel_rfl) (by kernel_rfl) (fun _ _ _ h=>h) (Or.inr ⟨by rfl,rfl⟩) (by assumption) ?_
  simp only [Act.put,List.setIfInBounds_toArray,List.set_cons_zero,List.set_cons_succ]
  refine wpAnyH_take (i:=4) (oi:=⟨some 9,.call ⟨.value (.func 45),#[.tmp 8],#[34]⟩,113,_,#[⟨3,.data⟩,⟨2,.chain⟩,⟨2,.guard⟩],some (2,true)⟩) (v:=undef) rfl (by kernel_rfl) (by kernel_rfl) (by kernel_rfl) (fun _ _ _ h=>h) (Or.inr ⟨by rfl,rfl⟩) (by assumption) ?_
  simp only [Act.put,List.setIfInBounds_toArray,List.set_cons_zero,List.set_cons_succ]
  refine wpAnyH_take (i:=5) (oi:=⟨some 10,.load 45 (.tmp 3),45,_,#[⟨2,.guard⟩],some (2,true)⟩) (v:=undef) rfl (by kernel_rfl) (by kernel_rfl) (by kernel_rfl) (fun _ _ _ h=>h) (Or.inr ⟨by rfl,rfl⟩) (by assumption) ?_
  simp only [Act.put,List.setIfInBounds_toArray,List.set_cons_zero,List.set_cons_succ]
  refine wpAnyH_take (i:=6) (oi:=⟨some 11,.call ⟨.value (.tmp 9),#[.tmp 10],#[45]⟩,4,_,#[⟨4,.data⟩,⟨5,.data⟩,⟨4,.chain⟩,⟨2,.guard⟩],some (2,true)⟩) (v:=undef) rfl (by kernel_rfl) (by kernel_rfl) (by kernel_rfl) (fun _ _ _ h=>h) (Or.inr ⟨by rfl,rfl⟩) (by assumption) ?_
  simp only [Act.put,List.setIfInBounds_toArray,List.set_cons_zero,List.set_cons_succ]
  refine wpAnyH_take (i:=7) (oi:=⟨some 12,.pick (.tmp 7) (.tmp 11) (.const (Value.bool false)),4,_,#[⟨2,.data⟩,⟨6,.data⟩],none⟩) (v:=?_) rfl (by kernel_rfl) (by kernel_rfl) (by kernel_rfl) (fun _ _ _ h=>h) (Or.inl ⟨by rfl,?_⟩) (by assumption) ?_
  rotate_left
  · (intro w hSw; (try dsimp only at hSw); go_simp; try with_reducible rfl)
  simp only [Act.put,List.setIfInBounds_toArray,List.set_cons_zero,List.set_cons_succ]
  refine wpAnyH_take (i:=8) (oi:=⟨some 4,.assign (.tmp 12),4,_,#[⟨7,.data⟩,⟨6,.chain⟩,⟨0,.phase⟩,⟨1,.phase⟩,⟨2,.phase⟩,⟨3,.phase⟩,⟨4,.phase⟩,⟨5,.phase⟩,⟨6,.phase⟩,⟨7,.phase⟩],none⟩) (v:=?_) rfl (by kernel_rfl) (by kernel_rfl) (by kernel_rfl) (fun _ _ _ h=>h) (Or.inl ⟨by rfl,?_⟩) (by assumption) ?_
  rotate_left
  · (intro w hSw; (try dsimp only at hSw); go_simp; try with_reducible rfl)
  simp only [Act.put,List.setIfInBounds_toArray,List.set_cons_zero,List.set_cons_succ]
  refine wpAnyH_done (by kernel_rfl) ?_ _
  go_wp2
  go_ret
  exact ⟨rfl,HX.out.bel⟩
set_option maxRecDepth 100000 in
set_option maxHeartbeats 4000000 in
theorem takes_1 (d:Dro) (b:Blo) (W:World) (ht:TR W) (hO:BOk b) (hd:0≤d.va∧d.va<4294967296) (hr:bR b=true) (hk:∀b,pkF d b=true) (hP:Pkd d (fun _=> .func (.func 77) #[] #[])):Calls Tryz.prog 12 #[.agg #[.int .i64 d.kind,.int .u32 d.va,.int .i64 d.asid],.agg #[.int .i64 b.asid,.int .i64 b.t.size,.int .u32 b.t.va,.int .u64 b.t.pa,.int .i64 b.t.dom,.int .i64 b.t.ap,.int .u32 b.t.bits,.bool b.t.ng,.bool b.t.xn]] W fun e w'=>e= .returned (.bool (tkF d b))∧Below W.heap.size W w':=by
  have HR:Hid (∀w,Below W.heap.size W w→Calls Tryz.prog 44 #[.agg #[.int .i64 b.asid,.int .i64 b.t.size,.int .u32 b.t.va,.int .u64 b.t.pa,.int .i64 b.t.dom,.int .i64 b.t.ap,.int .u32 b.t.bits,.bool b.t.ng,.bool b.t.xn]] w fun e w'=>e= .returned (.bool (bR b))∧Below w.heap.size w w'):=fun w h=>tright_any b w (ht.below h) hO
  have HX:=hidW (KX.start W d b)
  have he:tkF d b=(true):=by simp [tkF,hr,hk]
  rw [he]
  rw [hr] at HR
  have HP:Hid (∀W,Calls Tryz.prog 45 #[.agg #[.int .i64 d.kind,.int .u32 d.va,.int .i64 d.asid]] W fun e w'=>e= .returned ((fun _=> .func (.func 77) #[] #[]) W.heap.size)∧Bl w' W.heap.size 34 ([.int .i64 d.kind,.int .u32 d.va,.int .i64 d.asid])∧Below W.heap.size W w'):=hP
  dsimp only at HP
  have HT:Hid (∀w,Below W.heap.size W w→TB w):=fun w h=>ht.tb.below h
  have HO:=hidW hO
  clear ht hO hr he hP hk
  go_enter Tryz.func12,Tryz.ntmps12
  go_wp2
  generalize World.alloc _ _=w0 at *
  generalize hA:W.heap.size=A at HX ⊢
  generalize hB:A+1=B at HX ⊢
  clear hA hB
  replace HX:=hidW HX.out.drew
  refine wp_region_held_drew (S:=fun w'=>(w'.cell? ⟨A,0,none⟩=some (.int .i64 d.kind)∧w'.cell? ⟨A,1,none⟩=some (.int .u32 d.va)∧w'.cell? ⟨A,2,none⟩=some (.int .i64 d.asid))∧w'.cell? ⟨B,0,none⟩=some (.int .i64 b.asid)∧w'.cell? ⟨B,1,none⟩=some (.int .i64 b.t.size)∧w'.cell? ⟨B,2,none⟩=some (.int .u32 b.t.va)∧w'.cell? ⟨B,3,none⟩=some (.int .u64 b.t.pa)∧w'.cell? ⟨B,4,none⟩=some (.int .i64 b.t.dom)∧w'.cell? ⟨B,5,none⟩=some (.int .i64 b.t.ap)∧w'.cell? ⟨B,6,none⟩=some (.int .u32 b.t.bits)∧w'.cell? ⟨B,7,none⟩=some (.bool b.t.ng)∧w'.cell? ⟨B,8,none⟩=some (.bool b.t.xn)) (by kernel_rfl) (⟨⟨HX.out.bd.cell 0,HX.out.bd.cell 1,HX.out.bd.cell 2⟩,HX.out.bb.cell 0,HX.out.bb.cell 1,HX.out.bb.cell 2,HX.out.bb.cell 3,HX.out.bb.cell 4,HX.out.bb.cell 5,HX.out.bb.cell 6,HX.out.bb.cell 7,HX.out.bb.cell 8⟩) (fun hHeld=> ?_)
  refine wpAnyH_take (i:=0) (oi:=⟨some 5,.load 45 (.tmp 3),45,_,#[],none⟩) (v:=?_) rfl (by kernel_rfl) (by kernel_rfl) (by kernel_rfl) (fun _ _ _ h=>h) (Or.inl ⟨by rfl,?_⟩) (by assumption) ?_
  rotate_left
  · (intro w hSw; (try dsimp only at hSw); go_simp; try with_reducible rfl)
  simp only [Act.put,List.setIfInBounds_toArray,List.set_cons_zero,List.set_cons_succ]
  refine wpAnyH_ready (rs:=[1]) (by kernel_rfl) (by simp) ?_
  refine AllReadyH.cons (o:=⟨some 6,.call ⟨.value (.func 44),#[.tmp 5],#[45]⟩,4,_,#[⟨0,.data⟩],none⟩) rfl (fun K hK=> ?_) AllReadyH.nil
  go_simp
  (go_at_call 44; refine (HR.out _ HX.out.bel).mono ?_; rintro e w1 ⟨rfl,hb⟩; replace HX:=hidW (HX.out.step hb); clear hb HR; go_wp2_with fail)
  refine hK.out _ _ ?_ (fun hHeld=> ?_)
  · ((try dsimp only); exact ⟨⟨HX.out.bd.cell 0,HX.out.bd.cell 1,HX.out.bd.cell 2⟩,HX.out.bb.cell 0,HX.out.bb.cell 1,HX.out.bb.cell 2,HX.out.bb.cell 3,HX.out.bb.cell 4,HX.out.bb.cell 5,HX.out.bb.cell 6,HX.out.bb.cell 7,HX.out.bb.cell 8⟩)
  clear hK K
  try simp only [Act.put,List.setIfInBounds_toArray,List.set_cons_zero,List.set_cons_succ]
  refine wpAnyH_take (i:=2) (oi:=⟨some 7,.move (.tmp 6),4,_,#[⟨1,.data⟩,⟨1,.chain⟩],none⟩) (v:=?_) rfl (by kernel_rfl) (by kernel_rfl) (by kernel_rfl) (fun _ _ _ h=>h) (Or.inl ⟨by rfl,?_⟩) (by assumption) ?_
  rotate_left
  · (intro w hSw; (try dsimp only at hSw); go_simp; try with_reducible rfl)
  simp only [Act.put,List.setIfInBounds_toArray,List.set_cons_zero,List.set_cons_succ]
  refine wpAnyH_take (i:=3) (oi:=⟨some 8,.load 34 (.tmp 2),34,_,#[⟨2,.guard⟩],some (2,true)⟩) (v:=?_) rfl (by kernel_rfl) (by kernel_rfl) (by kernel_rfl) (fun _ _ _ h=>h) (Or.inl ⟨by rfl,?_⟩) (by assumption) ?_
  rotate_left
  · (intro w hSw; (try dsimp only at hSw); go_simp; try with_reducible rfl)
  simp only [Act.put,List.setIfInBounds_toArray,List.set_cons_zero,List.set_cons_succ]
  refine wpAnyH_take (i:=5) (oi:=⟨some 10,.load 45 (.tmp 3),45,_,#[⟨2,.guard⟩],some (2,true)⟩) (v:=?_) rfl (by kernel_rfl) (by kernel_rfl) (by kernel_rfl) (fun _ _ _ h=>h) (Or.inl ⟨by rfl,?_⟩) (by assumption) ?_
  rotate_left
  · (intro w hSw; (try dsimp only at hSw); go_simp; try with_reducible rfl)
  simp only [Act.put,List.setIfInBounds_toArray,List.set_cons_zero,List.set_cons_succ]
  refine wpAnyH_ready (rs:=[4]) (by kernel_rfl) (by simp) ?_
  refine AllReadyH.cons (o:=⟨some 9,.call ⟨.value (.func 45),#[.tmp 8],#[34]⟩,113,_,#[⟨3,.data⟩,⟨2,.chain⟩,⟨2,.guard⟩],some (2,true)⟩) rfl (fun K hK=> ?_) AllReadyH.nil
  go_simp
  (go_at_call 45; refine (HP.out _).mono ?_; rintro e w2 ⟨rfl,hy,hb⟩; have hle:W.heap.size≤w1.heap.size:=HX.out.bel.size; replace HX:=hidW (HX.out.step hb); have HY:=hidW hy; clear hb hy HP; generalize w1.heap.size=D at *; go_wp2_with fail)
  refine hK.out _ _ ?_ (fun hHeld=> ?_)
  · ((try dsimp only); exact ⟨⟨HX.out.bd.cell 0,HX.out.bd.cell 1,HX.out.bd.cell 2⟩,HX.out.bb.cell 0,HX.out.bb.cell 1,HX.out.bb.cell 2,HX.out.bb.cell 3,HX.out.bb.cell 4,HX.out.bb.cell 5,HX.out.bb.cell 6,HX.out.bb.cell 7,HX.out.bb.cell 8⟩)
  clear hK K
  try simp only [Act.put,List.setIfInBounds_toArray,List.set_cons_zero,List.set_cons_succ]
  refine wpAnyH_ready (rs:=[6]) (by kernel_rfl) (by simp) ?_
  refine AllReadyH.cons (o:=⟨some 11,.call ⟨.value (.tmp 9),#[.tmp 10],#[45]⟩,4,_,#[⟨4,.data⟩,⟨5,.data⟩,⟨4,.chain⟩,⟨2,.guard⟩],some (2,true)⟩) rfl (fun K hK=> ?_) AllReadyH.nil
  go_simp
  (go_at_call 77; refine (pk1_any b _).mono ?_; rintro e w3 ⟨rfl,hb⟩; replace HX:=hidW (HX.out.step hb); clear hb HY; go_wp2_with fail)
  refine hK.out _ _ ?_ (fun hHeld=> ?_)
  · ((try dsimp only); exact ⟨⟨HX.out.bd.cell 0,HX.out.bd.cell 1,HX.out.bd.cell 2⟩,HX.out.bb.cell 0,HX.out.bb.cell 1,HX.out.bb.cell 2,HX.out.bb.cell 3,HX.out.bb.cell 4,HX.out.bb.cell 5,HX.out.bb.cell 6,HX.out.bb.cell 7,HX.out.bb.cell 8⟩)
  clear hK K
  try simp only [Act.put,List.setIfInBounds_toArray,List.set_cons_zero,List.set_cons_succ]
  refine wpAnyH_take (i:=7) (oi:=⟨some 12,.pick (.tmp 7) (.tmp 11) (.const (Value.bool false)),4,_,#[⟨2,.data⟩,⟨6,.data⟩],none⟩) (v:=?_) rfl (by kernel_rfl) (by kernel_rfl) (by kernel_rfl) (fun _ _ _ h=>h) (Or.inl ⟨by rfl,?_⟩) (by assumption) ?_
  rotate_left
  · (intro w hSw; (try dsimp only at hSw); go_simp; try with_reducible rfl)
  simp only [Act.put,List.setIfInBounds_toArray,List.set_cons_zero,List.set_cons_succ]
  refine wpAnyH_take (i:=8) (oi:=⟨some 4,.assign (.tmp 12),4,_,#[⟨7,.data⟩,⟨6,.chain⟩,⟨0,.phase⟩,⟨1,.phase⟩,⟨2,.phase⟩,⟨3,.phase⟩,⟨4,.phase⟩,⟨5,.phase⟩,⟨6,.phase⟩,⟨7,.phase⟩],none⟩) (v:=?_) rfl (by kernel_rfl) (by kernel_rfl) (by kernel_rfl) (fun _ _ _ h=>h) (Or.inl ⟨by rfl,?_⟩) (by assumption) ?_
  rotate_left
  · (intro w hSw; (try dsimp only at hSw); go_simp; try with_reducible rfl)
  simp only [Act.put,List.setIfInBounds_toArray,List.set_cons_zero,List.set_cons_succ]
  refine wpAnyH_done (by kernel_rfl) ?_ _
  go_wp2
  go_ret
  exact ⟨rfl,HX.out.bel⟩
set_option maxRecDepth 100000 in
set_option maxHeartbeats 4000000 in
theorem takes_2 (d:Dro) (b:Blo) (W:World) (ht:TR W) (hO:BOk b) (hd:0≤d.va∧d.va<4294967296) (hr:bR b=true) (hk:∀b,pkF d b=maF b d.va d.asid) (hP:Pkd d (fun x=> .func (.func 78) #[] #[.pointer (some ⟨x,0,none⟩)])):Calls Tryz.prog 12 #[.agg #[.int .i64 d.kind,.int .u32 d.va,.int .i64 d.asid],.agg #[.int .i64 b.asid,.int .i64 b.t.size,.int .u32 b.t.va,.int .u64 b.t.pa,.int .i64 b.t.dom,.int .i64 b.t.ap,.int .u32 b.t.bits,.bool b.t.ng,.bool b.t.xn]] W fun e w'=>e= .returned (.bool (tkF d b))∧Below W.heap.size W w':=by
  have HR:Hid (∀w,Below W.heap.size W w→Calls Tryz.prog 44 #[.agg #[.int .i64 b.asid,.int .i64 b.t.size,.int .u32 b.t.va,.int .u64 b.t.pa,.int .i64 b.t.dom,.int .i64 b.t.ap,.int .u32 b.t.bits,.bool b.t.ng,.bool b.t.xn]] w fun e w'=>e= .returned (.bool (bR b))∧Below w.heap.size w w'):=fun w h=>tright_any b w (ht.below h) hO
  have HX:=hidW (KX.start W d b)
  have he:tkF d b=(maF b d.va d.asid):=by simp [tkF,hr,hk]
  rw [he]
  rw [hr] at HR
  have HP:Hid (∀W,Calls Tryz.prog 45 #[.agg #[.int .i64 d.kind,.int .u32 d.va,.int .i64 d.asid]] W fun e w'=>e= .returned ((fun x=> .func (.func 78) #[] #[.pointer (some ⟨x,0,none⟩)]) W.heap.size)∧Bl w' W.heap.size 34 ([.int .i64 d.kind,.int .u32 d.va,.int .i64 d.asid])∧Below W.heap.size W w'):=hP
  dsimp only at HP
  have HT:Hid (∀w,Below W.heap.size W w→TB w):=fun w h=>ht.tb.below h
  have HO:=hidW hO
  clear ht hO hr he hP hk
  go_enter Tryz.func12,Tryz.ntmps12
  go_wp2
  generalize World.alloc _ _=w0 at *
  generalize hA:W.heap.size=A at HX ⊢
  generalize hB:A+1=B at HX ⊢
  clear hA hB
  replace HX:=hidW HX.out.drew
  refine wp_region_held_drew (S:=fun w'=>(w'.cell? ⟨A,0,none⟩=some (.int .i64 d.kind)∧w'.cell? ⟨A,1,none⟩=some (.int .u32 d.va)∧w'.cell? ⟨A,2,none⟩=some (.int .i64 d.asid))∧w'.cell? ⟨B,0,none⟩=some (.int .i64 b.asid)∧w'.cell? ⟨B,1,none⟩=some (.int .i64 b.t.size)∧w'.cell? ⟨B,2,none⟩=some (.int .u32 b.t.va)∧w'.cell? ⟨B,3,none⟩=some (.int .u64 b.t.pa)∧w'.cell? ⟨B,4,none⟩=some (.int .i64 b.t.dom)∧w'.cell? ⟨B,5,none⟩=some (.int .i64 b.t.ap)∧w'.cell? ⟨B,6,none⟩=some (.int .u32 b.t.bits)∧w'.cell? ⟨B,7,none⟩=some (.bool b.t.ng)∧w'.cell? ⟨B,8,none⟩=some (.bool b.t.xn)) (by kernel_rfl) (⟨⟨HX.out.bd.cell 0,HX.out.bd.cell 1,HX.out.bd.cell 2⟩,HX.out.bb.cell 0,HX.out.bb.cell 1,HX.out.bb.cell 2,HX.out.bb.cell 3,HX.out.bb.cell 4,HX.out.bb.cell 5,HX.out.bb.cell 6,HX.out.bb.cell 7,HX.out.bb.cell 8⟩) (fun hHeld=> ?_)
  refine wpAnyH_take (i:=0) (oi:=⟨some 5,.load 45 (.tmp 3),45,_,#[],none⟩) (v:=?_) rfl (by kernel_rfl) (by kernel_rfl) (by kernel_rfl) (fun _ _ _ h=>h) (Or.inl ⟨by rfl,?_⟩) (by assumption) ?_
  rotate_left
  · (intro w hSw; (try dsimp only at hSw); go_simp; try with_reducible rfl)
  simp only [Act.put,List.setIfInBounds_toArray,List.set_cons_zero,List.set_cons_succ]
  refine wpAnyH_ready (rs:=[1]) (by kernel_rfl) (by simp) ?_
  refine AllReadyH.cons (o:=⟨some 6,.call ⟨.value (.func 44),#[.tmp 5],#[45]⟩,4,_,#[⟨0,.data⟩],none⟩) rfl (fun K hK=> ?_) AllReadyH.nil
  go_simp
  (go_at_call 44; refine (HR.out _ HX.out.bel).mono ?_; rintro e w1 ⟨rfl,hb⟩; replace HX:=hidW (HX.out.step hb); clear hb HR; go_wp2_with fail)
  refine hK.out _ _ ?_ (fun hHeld=> ?_)
  · ((try dsimp only); exact ⟨⟨HX.out.bd.cell 0,HX.out.bd.cell 1,HX.out.bd.cell 2⟩,HX.out.bb.cell 0,HX.out.bb.cell 1,HX.out.bb.cell 2,HX.out.bb.cell 3,HX.out.bb.cell 4,HX.out.bb.cell 5,HX.out.bb.cell 6,HX.out.bb.cell 7,HX.out.bb.cell 8⟩)
  clear hK K
  try simp only [Act.put,List.setIfInBounds_toArray,List.set_cons_zero,List.set_cons_succ]
  refine wpAnyH_take (i:=2) (oi:=⟨some 7,.move (.tmp 6),4,_,#[⟨1,.data⟩,⟨1,.chain⟩],none⟩) (v:=?_) rfl (by kernel_rfl) (by kernel_rfl) (by kernel_rfl) (fun _ _ _ h=>h) (Or.inl ⟨by rfl,?_⟩) (by assumption) ?_
  rotate_left
  · (intro w hSw; (try dsimp only at hSw); go_simp; try with_reducible rfl)
  simp only [Act.put,List.setIfInBounds_toArray,List.set_cons_zero,List.set_cons_succ]
  refine wpAnyH_take (i:=3) (oi:=⟨some 8,.load 34 (.tmp 2),34,_,#[⟨2,.guard⟩],some (2,true)⟩) (v:=?_) rfl (by kernel_rfl) (by kernel_rfl) (by kernel_rfl) (fun _ _ _ h=>h) (Or.inl ⟨by rfl,?_⟩) (by assumption) ?_
  rotate_left
  · (intro w hSw; (try dsimp only at hSw); go_simp; try with_reducible rfl)
  simp only [Act.put,List.setIfInBounds_toArray,List.set_cons_zero,List.set_cons_succ]
  refine wpAnyH_take (i:=5) (oi:=⟨some 10,.load 45 (.tmp 3),45,_,#[⟨2,.guard⟩],some (2,true)⟩) (v:=?_) rfl (by kernel_rfl) (by kernel_rfl) (by kernel_rfl) (fun _ _ _ h=>h) (Or.inl ⟨by rfl,?_⟩) (by assumption) ?_
  rotate_left
  · (intro w hSw; (try dsimp only at hSw); go_simp; try with_reducible rfl)
  simp only [Act.put,List.setIfInBounds_toArray,List.set_cons_zero,List.set_cons_succ]
  refine wpAnyH_ready (rs:=[4]) (by kernel_rfl) (by simp) ?_
  refine AllReadyH.cons (o:=⟨some 9,.call ⟨.value (.func 45),#[.tmp 8],#[34]⟩,113,_,#[⟨3,.data⟩,⟨2,.chain⟩,⟨2,.guard⟩],some (2,true)⟩) rfl (fun K hK=> ?_) AllReadyH.nil
  go_simp
  (go_at_call 45; refine (HP.out _).mono ?_; rintro e w2 ⟨rfl,hy,hb⟩; have hle:W.heap.size≤w1.heap.size:=HX.out.bel.size; replace HX:=hidW (HX.out.step hb); have HY:=hidW hy; clear hb hy HP; generalize w1.heap.size=D at *; go_wp2_with fail)
  refine hK.out _ _ ?_ (fun hHeld=> ?_)
  · ((try dsimp only); exact ⟨⟨HX.out.bd.cell 0,HX.out.bd.cell 1,HX.out.bd.cell 2⟩,HX.out.bb.cell 0,HX.out.bb.cell 1,HX.out.bb.cell 2,HX.out.bb.cell 3,HX.out.bb.cell 4,HX.out.bb.cell 5,HX.out.bb.cell 6,HX.out.bb.cell 7,HX.out.bb.cell 8⟩)
  clear hK K
  try simp only [Act.put,List.setIfInBounds_toArray,List.set_cons_zero,List.set_cons_succ]
  refine wpAnyH_ready (rs:=[6]) (by kernel_rfl) (by simp) ?_
  refine AllReadyH.cons (o:=⟨some 11,.call ⟨.value (.tmp 9),#[.tmp 10],#[45]⟩,4,_,#[⟨4,.data⟩,⟨5,.data⟩,⟨4,.chain⟩,⟨2,.guard⟩],some (2,true)⟩) rfl (fun K hK=> ?_) AllReadyH.nil
  go_simp
  (go_at_call 78; refine (pk2_any b d _ _ HY.out (HT.out _ HX.out.bel) HO.out hd).mono ?_; rintro e w3 ⟨rfl,hb⟩; replace HX:=hidW (HX.out.step hb); clear hb HY; go_wp2_with fail)
  refine hK.out _ _ ?_ (fun hHeld=> ?_)
  · ((try dsimp only); exact ⟨⟨HX.out.bd.cell 0,HX.out.bd.cell 1,HX.out.bd.cell 2⟩,HX.out.bb.cell 0,HX.out.bb.cell 1,HX.out.bb.cell 2,HX.out.bb.cell 3,HX.out.bb.cell 4,HX.out.bb.cell 5,HX.out.bb.cell 6,HX.out.bb.cell 7,HX.out.bb.cell 8⟩)
  clear hK K
  try simp only [Act.put,List.setIfInBounds_toArray,List.set_cons_zero,List.set_cons_succ]
  refine wpAnyH_take (i:=7) (oi:=⟨some 12,.pick (.tmp 7) (.tmp 11) (.const (Value.bool false)),4,_,#[⟨2,.data⟩,⟨6,.data⟩],none⟩) (v:=?_) rfl (by kernel_rfl) (by kernel_rfl) (by kernel_rfl) (fun _ _ _ h=>h) (Or.inl ⟨by rfl,?_⟩) (by assumption) ?_
  rotate_left
  · (intro w hSw; (try dsimp only at hSw); go_simp; try with_reducible rfl)
  simp only [Act.put,List.setIfInBounds_toArray,List.set_cons_zero,List.set_cons_succ]
  refine wpAnyH_take (i:=8) (oi:=⟨some 4,.assign (.tmp 12),4,_,#[⟨7,.data⟩,⟨6,.chain⟩,⟨0,.phase⟩,⟨1,.phase⟩,⟨2,.phase⟩,⟨3,.phase⟩,⟨4,.phase⟩,⟨5,.phase⟩,⟨6,.phase⟩,⟨7,.phase⟩],none⟩) (v:=?_) rfl (by kernel_rfl) (by kernel_rfl) (by kernel_rfl) (fun _ _ _ h=>h) (Or.inl ⟨by rfl,?_⟩) (by assumption) ?_
  rotate_left
  · (intro w hSw; (try dsimp only at hSw); go_simp; try with_reducible rfl)
  simp only [Act.put,List.setIfInBounds_toArray,List.set_cons_zero,List.set_cons_succ]
  refine wpAnyH_done (by kernel_rfl) ?_ _
  go_wp2
  go_ret
  exact ⟨rfl,HX.out.bel⟩
set_option maxRecDepth 100000 in
set_option maxHeartbeats 4000000 in
theorem takes_3 (d:Dro) (b:Blo) (W:World) (ht:TR W) (hO:BOk b) (hd:0≤d.va∧d.va<4294967296) (hr:bR b=true) (hk:∀b,pkF d b=(b.asid == d.asid)) (hP:Pkd d (fun x=> .func (.func 79) #[] #[.pointer (some ⟨x,0,none⟩)])):Calls Tryz.prog 12 #[.agg #[.int .i64 d.kind,.int .u32 d.va,.int .i64 d.asid],.agg #[.int .i64 b.asid,.int .i64 b.t.size,.int .u32 b.t.va,.int .u64 b.t.pa,.int .i64 b.t.dom,.int .i64 b.t.ap,.int .u32 b.t.bits,.bool b.t.ng,.bool b.t.xn]] W fun e w'=>e= .returned (.bool (tkF d b))∧Below W.heap.size W w':=by
  have HR:Hid (∀w,Below W.heap.size W w→Calls Tryz.prog 44 #[.agg #[.int .i64 b.asid,.int .i64 b.t.size,.int .u32 b.t.va,.int .u64 b.t.pa,.int .i64 b.t.dom,.int .i64 b.t.ap,.int .u32 b.t.bits,.bool b.t.ng,.bool b.t.xn]] w fun e w'=>e= .returned (.bool (bR b))∧Below w.heap.size w w'):=fun w h=>tright_any b w (ht.below h) hO
  have HX:=hidW (KX.start W d b)
  have he:tkF d b=(b.asid == d.asid):=by simp [tkF,hr,hk]
  rw [he]
  rw [hr] at HR
  have HP:Hid (∀W,Calls Tryz.prog 45 #[.agg #[.int .i64 d.kind,.int .u32 d.va,.int .i64 d.asid]] W fun e w'=>e= .returned ((fun x=> .func (.func 79) #[] #[.pointer (some ⟨x,0,none⟩)]) W.heap.size)∧Bl w' W.heap.size 34 ([.int .i64 d.kind,.int .u32 d.va,.int .i64 d.asid])∧Below W.heap.size W w'):=hP
  dsimp only at HP
  have HT:Hid (∀w,Below W.heap.size W w→TB w):=fun w h=>ht.tb.below h
  have HO:=hidW hO
  clear ht hO hr he hP hk
  go_enter Tryz.func12,Tryz.ntmps12
  go_wp2
  generalize World.alloc _ _=w0 at *
  generalize hA:W.heap.size=A at HX ⊢
  generalize hB:A+1=B at HX ⊢
  clear hA hB
  replace HX:=hidW HX.out.drew
  refine wp_region_held_drew (S:=fun w'=>(w'.cell? ⟨A,0,none⟩=some (.int .i64 d.kind)∧w'.cell? ⟨A,1,none⟩=some (.int .u32 d.va)∧w'.cell? ⟨A,2,none⟩=some (.int .i64 d.asid))∧w'.cell? ⟨B,0,none⟩=some (.int .i64 b.asid)∧w'.cell? ⟨B,1,none⟩=some (.int .i64 b.t.size)∧w'.cell? ⟨B,2,none⟩=some (.int .u32 b.t.va)∧w'.cell? ⟨B,3,none⟩=some (.int .u64 b.t.pa)∧w'.cell? ⟨B,4,none⟩=some (.int .i64 b.t.dom)∧w'.cell? ⟨B,5,none⟩=some (.int .i64 b.t.ap)∧w'.cell? ⟨B,6,none⟩=some (.int .u32 b.t.bits)∧w'.cell? ⟨B,7,none⟩=some (.bool b.t.ng)∧w'.cell? ⟨B,8,none⟩=some (.bool b.t.xn)) (by kernel_rfl) (⟨⟨HX.out.bd.cell 0,HX.out.bd.cell 1,HX.out.bd.cell 2⟩,HX.out.bb.cell 0,HX.out.bb.cell 1,HX.out.bb.cell 2,HX.out.bb.cell 3,HX.out.bb.cell 4,HX.out.bb.cell 5,HX.out.bb.cell 6,HX.out.bb.cell 7,HX.out.bb.cell 8⟩) (fun hHeld=> ?_)
  refine wpAnyH_take (i:=0) (oi:=⟨some 5,.load 45 (.tmp 3),45,_,#[],none⟩) (v:=?_) rfl (by kernel_rfl) (by kernel_rfl) (by kernel_rfl) (fun _ _ _ h=>h) (Or.inl ⟨by rfl,?_⟩) (by assumption) ?_
  rotate_left
  · (intro w hSw; (try dsimp only at hSw); go_simp; try with_reducible rfl)
  simp only [Act.put,List.setIfInBounds_toArray,List.set_cons_zero,List.set_cons_succ]
  refine wpAnyH_ready (rs:=[1]) (by kernel_rfl) (by simp) ?_
  refine AllReadyH.cons (o:=⟨some 6,.call ⟨.value (.func 44),#[.tmp 5],#[45]⟩,4,_,#[⟨0,.data⟩],none⟩) rfl (fun K hK=> ?_) AllReadyH.nil
  go_simp
  (go_at_call 44; refine (HR.out _ HX.out.bel).mono ?_; rintro e w1 ⟨rfl,hb⟩; replace HX:=hidW (HX.out.step hb); clear hb HR; go_wp2_with fail)
  refine hK.out _ _ ?_ (fun hHeld=> ?_)
  · ((try dsimp only); exact ⟨⟨HX.out.bd.cell 0,HX.out.bd.cell 1,HX.out.bd.cell 2⟩,HX.out.bb.cell 0,HX.out.bb.cell 1,HX.out.bb.cell 2,HX.out.bb.cell 3,HX.out.bb.cell 4,HX.out.bb.cell 5,HX.out.bb.cell 6,HX.out.bb.cell 7,HX.out.bb.cell 8⟩)
  clear hK K
  try simp only [Act.put,List.setIfInBounds_toArray,List.set_cons_zero,List.set_cons_succ]
  refine wpAnyH_take (i:=2) (oi:=⟨some 7,.move (.tmp 6),4,_,#[⟨1,.data⟩,⟨1,.chain⟩],none⟩) (v:=?_) rfl (by kernel_rfl) (by kernel_rfl) (by kernel_rfl) (fun _ _ _ h=>h) (Or.inl ⟨by rfl,?_⟩) (by assumption) ?_
  rotate_left
  · (intro w hSw; (try dsimp only at hSw); go_simp; try with_reducible rfl)
  simp only [Act.put,List.setIfInBounds_toArray,List.set_cons_zero,List.set_cons_succ]
  refine wpAnyH_take (i:=3) (oi:=⟨some 8,.load 34 (.tmp 2),34,_,#[⟨2,.guard⟩],some (2,true)⟩) (v:=?_) rfl (by kernel_rfl) (by kernel_rfl) (by kernel_rfl) (fun _ _ _ h=>h) (Or.inl ⟨by rfl,?_⟩) (by assumption) ?_
  rotate_left
  · (intro w hSw; (try dsimp only at hSw); go_simp; try with_reducible rfl)
  simp only [Act.put,List.setIfInBounds_toArray,List.set_cons_zero,List.set_cons_succ]
  refine wpAnyH_take (i:=5) (oi:=⟨some 10,.load 45 (.tmp 3),45,_,#[⟨2,.guard⟩],some (2,true)⟩) (v:=?_) rfl (by kernel_rfl) (by kernel_rfl) (by kernel_rfl) (fun _ _ _ h=>h) (Or.inl ⟨by rfl,?_⟩) (by assumption) ?_
  rotate_left
  · (intro w hSw; (try dsimp only at hSw); go_simp; try with_reducible rfl)
  simp only [Act.put,List.setIfInBounds_toArray,List.set_cons_zero,List.set_cons_succ]
  refine wpAnyH_ready (rs:=[4]) (by kernel_rfl) (by simp) ?_
  refine AllReadyH.cons (o:=⟨some 9,.call ⟨.value (.func 45),#[.tmp 8],#[34]⟩,113,_,#[⟨3,.data⟩,⟨2,.chain⟩,⟨2,.guard⟩],some (2,true)⟩) rfl (fun K hK=> ?_) AllReadyH.nil
  go_simp
  (go_at_call 45; refine (HP.out _).mono ?_; rintro e w2 ⟨rfl,hy,hb⟩; have hle:W.heap.size≤w1.heap.size:=HX.out.bel.size; replace HX:=hidW (HX.out.step hb); have HY:=hidW hy; clear hb hy HP; generalize w1.heap.size=D at *; go_wp2_with fail)
  refine hK.out _ _ ?_ (fun hHeld=> ?_)
  · ((try dsimp only); exact ⟨⟨HX.out.bd.cell 0,HX.out.bd.cell 1,HX.out.bd.cell 2⟩,HX.out.bb.cell 0,HX.out.bb.cell 1,HX.out.bb.cell 2,HX.out.bb.cell 3,HX.out.bb.cell 4,HX.out.bb.cell 5,HX.out.bb.cell 6,HX.out.bb.cell 7,HX.out.bb.cell 8⟩)
  clear hK K
  try simp only [Act.put,List.setIfInBounds_toArray,List.set_cons_zero,List.set_cons_succ]
  refine wpAnyH_ready (rs:=[6]) (by kernel_rfl) (by simp) ?_
  refine AllReadyH.cons (o:=⟨some 11,.call ⟨.value (.tmp 9),#[.tmp 10],#[45]⟩,4,_,#[⟨4,.data⟩,⟨5,.data⟩,⟨4,.chain⟩,⟨2,.guard⟩],some (2,true)⟩) rfl (fun K hK=> ?_) AllReadyH.nil
  go_simp
  (go_at_call 79; refine (pk3_any b d _ _ HY.out).mono ?_; rintro e w3 ⟨rfl,hb⟩; replace HX:=hidW (HX.out.step hb); clear hb HY; go_wp2_with fail)
  refine hK.out _ _ ?_ (fun hHeld=> ?_)
  · ((try dsimp only); exact ⟨⟨HX.out.bd.cell 0,HX.out.bd.cell 1,HX.out.bd.cell 2⟩,HX.out.bb.cell 0,HX.out.bb.cell 1,HX.out.bb.cell 2,HX.out.bb.cell 3,HX.out.bb.cell 4,HX.out.bb.cell 5,HX.out.bb.cell 6,HX.out.bb.cell 7,HX.out.bb.cell 8⟩)
  clear hK K
  try simp only [Act.put,List.setIfInBounds_toArray,List.set_cons_zero,List.set_cons_succ]
  refine wpAnyH_take (i:=7) (oi:=⟨some 12,.pick (.tmp 7) (.tmp 11) (.const (Value.bool false)),4,_,#[⟨2,.data⟩,⟨6,.data⟩],none⟩) (v:=?_) rfl (by kernel_rfl) (by kernel_rfl) (by kernel_rfl) (fun _ _ _ h=>h) (Or.inl ⟨by rfl,?_⟩) (by assumption) ?_
  rotate_left
  · (intro w hSw; (try dsimp only at hSw); go_simp; try with_reducible rfl)
  simp only [Act.put,List.setIfInBounds_toArray,List.set_cons_zero,List.set_cons_succ]
  refine wpAnyH_take (i:=8) (oi:=⟨some 4,.assign (.tmp 12),4,_,#[⟨7,.data⟩,⟨6,.chain⟩,⟨0,.phase⟩,⟨1,.phase⟩,⟨2,.phase⟩,⟨3,.phase⟩,⟨4,.phase⟩,⟨5,.phase⟩,⟨6,.phase⟩,⟨7,.phase⟩],none⟩) (v:=?_) rfl (by kernel_rfl) (by kernel_rfl) (by kernel_rfl) (fun _ _ _ h=>h) (Or.inl ⟨by rfl,?_⟩) (by assumption) ?_
  rotate_left
  · (intro w hSw; (try dsimp only at hSw); go_simp; try with_reducible rfl)
  simp only [Act.put,List.setIfInBounds_toArray,List.set_cons_zero,List.set_cons_succ]
  refine wpAnyH_done (by kernel_rfl) ?_ _
  go_wp2
  go_ret
  exact ⟨rfl,HX.out.bel⟩
set_option maxRecDepth 100000 in
set_option maxHeartbeats 4000000 in
theorem takes_4 (d:Dro) (b:Blo) (W:World) (ht:TR W) (hO:BOk b) (hd:0≤d.va∧d.va<4294967296) (hr:bR b=true) (hk:∀b,pkF d b=liF b d.va) (hP:Pkd d (fun x=> .func (.func 80) #[] #[.pointer (some ⟨x,0,none⟩)])):Calls Tryz.prog 12 #[.agg #[.int .i64 d.kind,.int .u32 d.va,.int .i64 d.asid],.agg #[.int .i64 b.asid,.int .i64 b.t.size,.int .u32 b.t.va,.int .u64 b.t.pa,.int .i64 b.t.dom,.int .i64 b.t.ap,.int .u32 b.t.bits,.bool b.t.ng,.bool b.t.xn]] W fun e w'=>e= .returned (.bool (tkF d b))∧Below W.heap.size W w':=by
  have HR:Hid (∀w,Below W.heap.size W w→Calls Tryz.prog 44 #[.agg #[.int .i64 b.asid,.int .i64 b.t.size,.int .u32 b.t.va,.int .u64 b.t.pa,.int .i64 b.t.dom,.int .i64 b.t.ap,.int .u32 b.t.bits,.bool b.t.ng,.bool b.t.xn]] w fun e w'=>e= .returned (.bool (bR b))∧Below w.heap.size w w'):=fun w h=>tright_any b w (ht.below h) hO
  have HX:=hidW (KX.start W d b)
  have he:tkF d b=(liF b d.va):=by simp [tkF,hr,hk]
  rw [he]
  rw [hr] at HR
  have HP:Hid (∀W,Calls Tryz.prog 45 #[.agg #[.int .i64 d.kind,.int .u32 d.va,.int .i64 d.asid]] W fun e w'=>e= .returned ((fun x=> .func (.func 80) #[] #[.pointer (some ⟨x,0,none⟩)]) W.heap.size)∧Bl w' W.heap.size 34 ([.int .i64 d.kind,.int .u32 d.va,.int .i64 d.asid])∧Below W.heap.size W w'):=hP
  dsimp only at HP
  have HT:Hid (∀w,Below W.heap.size W w→TB w):=fun w h=>ht.tb.below h
  have HO:=hidW hO
  clear ht hO hr he hP hk
  go_enter Tryz.func12,Tryz.ntmps12
  go_wp2
  generalize World.alloc _ _=w0 at *
  generalize hA:W.heap.size=A at HX ⊢
  generalize hB:A+1=B at HX ⊢
  clear hA hB
  replace HX:=hidW HX.out.drew
  refine wp_region_held_drew (S:=fun w'=>(w'.cell? ⟨A,0,none⟩=some (.int .i64 d.kind)∧w'.cell? ⟨A,1,none⟩=some (.int .u32 d.va)∧w'.cell? ⟨A,2,none⟩=some (.int .i64 d.asid))∧w'.cell? ⟨B,0,none⟩=some (.int .i64 b.asid)∧w'.cell? ⟨B,1,none⟩=some (.int .i64 b.t.size)∧w'.cell? ⟨B,2,none⟩=some (.int .u32 b.t.va)∧w'.cell? ⟨B,3,none⟩=some (.int .u64 b.t.pa)∧w'.cell? ⟨B,4,none⟩=some (.int .i64 b.t.dom)∧w'.cell? ⟨B,5,none⟩=some (.int .i64 b.t.ap)∧w'.cell? ⟨B,6,none⟩=some (.int .u32 b.t.bits)∧w'.cell? ⟨B,7,none⟩=some (.bool b.t.ng)∧w'.cell? ⟨B,8,none⟩=some (.bool b.t.xn)) (by kernel_rfl) (⟨⟨HX.out.bd.cell 0,HX.out.bd.cell 1,HX.out.bd.cell 2⟩,HX.out.bb.cell 0,HX.out.bb.cell 1,HX.out.bb.cell 2,HX.out.bb.cell 3,HX.out.bb.cell 4,HX.out.bb.cell 5,HX.out.bb.cell 6,HX.out.bb.cell 7,HX.out.bb.cell 8⟩) (fun hHeld=> ?_)
  refine wpAnyH_take (i:=0) (oi:=⟨some 5,.load 45 (.tmp 3),45,_,#[],none⟩) (v:=?_) rfl (by kernel_rfl) (by kernel_rfl) (by kernel_rfl) (fun _ _ _ h=>h) (Or.inl ⟨by rfl,?_⟩) (by assumption) ?_
  rotate_left
  · (intro w hSw; (try dsimp only at hSw); go_simp; try with_reducible rfl)
  simp only [Act.put,List.setIfInBounds_toArray,List.set_cons_zero,List.set_cons_succ]
  refine wpAnyH_ready (rs:=[1]) (by kernel_rfl) (by simp) ?_
  refine AllReadyH.cons (o:=⟨some 6,.call ⟨.value (.func 44),#[.tmp 5],#[45]⟩,4,_,#[⟨0,.data⟩],none⟩) rfl (fun K hK=> ?_) AllReadyH.nil
  go_simp
  (go_at_call 44; refine (HR.out _ HX.out.bel).mono ?_; rintro e w1 ⟨rfl,hb⟩; replace HX:=hidW (HX.out.step hb); clear hb HR; go_wp2_with fail)
  refine hK.out _ _ ?_ (fun hHeld=> ?_)
  · ((try dsimp only); exact ⟨⟨HX.out.bd.cell 0,HX.out.bd.cell 1,HX.out.bd.cell 2⟩,HX.out.bb.cell 0,HX.out.bb.cell 1,HX.out.bb.cell 2,HX.out.bb.cell 3,HX.out.bb.cell 4,HX.out.bb.cell 5,HX.out.bb.cell 6,HX.out.bb.cell 7,HX.out.bb.cell 8⟩)
  clear hK K
  try simp only [Act.put,List.setIfInBounds_toArray,List.set_cons_zero,List.set_cons_succ]
  refine wpAnyH_take (i:=2) (oi:=⟨some 7,.move (.tmp 6),4,_,#[⟨1,.data⟩,⟨1,.chain⟩],none⟩) (v:=?_) rfl (by kernel_rfl) (by kernel_rfl) (by kernel_rfl) (fun _ _ _ h=>h) (Or.inl ⟨by rfl,?_⟩) (by assumption) ?_
  rotate_left
  · (intro w hSw; (try dsimp only at hSw); go_simp; try with_reducible rfl)
  simp only [Act.put,List.setIfInBounds_toArray,List.set_cons_zero,List.set_cons_succ]
  refine wpAnyH_take (i:=3) (oi:=⟨some 8,.load 34 (.tmp 2),34,_,#[⟨2,.guard⟩],some (2,true)⟩) (v:=?_) rfl (by kernel_rfl) (by kernel_rfl) (by kernel_rfl) (fun _ _ _ h=>h) (Or.inl ⟨by rfl,?_⟩) (by assumption) ?_
  rotate_left
  · (intro w hSw; (try dsimp only at hSw); go_simp; try with_reducible rfl)
  simp only [Act.put,List.setIfInBounds_toArray,List.set_cons_zero,List.set_cons_succ]
  refine wpAnyH_take (i:=5) (oi:=⟨some 10,.load 45 (.tmp 3),45,_,#[⟨2,.guard⟩],some (2,true)⟩) (v:=?_) rfl (by kernel_rfl) (by kernel_rfl) (by kernel_rfl) (fun _ _ _ h=>h) (Or.inl ⟨by rfl,?_⟩) (by assumption) ?_
  rotate_left
  · (intro w hSw; (try dsimp only at hSw); go_simp; try with_reducible rfl)
  simp only [Act.put,List.setIfInBounds_toArray,List.set_cons_zero,List.set_cons_succ]
  refine wpAnyH_ready (rs:=[4]) (by kernel_rfl) (by simp) ?_
  refine AllReadyH.cons (o:=⟨some 9,.call ⟨.value (.func 45),#[.tmp 8],#[34]⟩,113,_,#[⟨3,.data⟩,⟨2,.chain⟩,⟨2,.guard⟩],some (2,true)⟩) rfl (fun K hK=> ?_) AllReadyH.nil
  go_simp
  (go_at_call 45; refine (HP.out _).mono ?_; rintro e w2 ⟨rfl,hy,hb⟩; have hle:W.heap.size≤w1.heap.size:=HX.out.bel.size; replace HX:=hidW (HX.out.step hb); have HY:=hidW hy; clear hb hy HP; generalize w1.heap.size=D at *; go_wp2_with fail)
  refine hK.out _ _ ?_ (fun hHeld=> ?_)
  · ((try dsimp only); exact ⟨⟨HX.out.bd.cell 0,HX.out.bd.cell 1,HX.out.bd.cell 2⟩,HX.out.bb.cell 0,HX.out.bb.cell 1,HX.out.bb.cell 2,HX.out.bb.cell 3,HX.out.bb.cell 4,HX.out.bb.cell 5,HX.out.bb.cell 6,HX.out.bb.cell 7,HX.out.bb.cell 8⟩)
  clear hK K
  try simp only [Act.put,List.setIfInBounds_toArray,List.set_cons_zero,List.set_cons_succ]
  refine wpAnyH_ready (rs:=[6]) (by kernel_rfl) (by simp) ?_
  refine AllReadyH.cons (o:=⟨some 11,.call ⟨.value (.tmp 9),#[.tmp 10],#[45]⟩,4,_,#[⟨4,.data⟩,⟨5,.data⟩,⟨4,.chain⟩,⟨2,.guard⟩],some (2,true)⟩) rfl (fun K hK=> ?_) AllReadyH.nil
  go_simp
  (go_at_call 80; refine (pk4_any b d _ _ HY.out (HT.out _ HX.out.bel) HO.out hd).mono ?_; rintro e w3 ⟨rfl,hb⟩; replace HX:=hidW (HX.out.step hb); clear hb HY; go_wp2_with fail)
  refine hK.out _ _ ?_ (fun hHeld=> ?_)
  · ((try dsimp only); exact ⟨⟨HX.out.bd.cell 0,HX.out.bd.cell 1,HX.out.bd.cell 2⟩,HX.out.bb.cell 0,HX.out.bb.cell 1,HX.out.bb.cell 2,HX.out.bb.cell 3,HX.out.bb.cell 4,HX.out.bb.cell 5,HX.out.bb.cell 6,HX.out.bb.cell 7,HX.out.bb.cell 8⟩)
  clear hK K
  try simp only [Act.put,List.setIfInBounds_toArray,List.set_cons_zero,List.set_cons_succ]
  refine wpAnyH_take (i:=7) (oi:=⟨some 12,.pick (.tmp 7) (.tmp 11) (.const (Value.bool false)),4,_,#[⟨2,.data⟩,⟨6,.data⟩],none⟩) (v:=?_) rfl (by kernel_rfl) (by kernel_rfl) (by kernel_rfl) (fun _ _ _ h=>h) (Or.inl ⟨by rfl,?_⟩) (by assumption) ?_
  rotate_left
  · (intro w hSw; (try dsimp only at hSw); go_simp; try with_reducible rfl)
  simp only [Act.put,List.setIfInBounds_toArray,List.set_cons_zero,List.set_cons_succ]
  refine wpAnyH_take (i:=8) (oi:=⟨some 4,.assign (.tmp 12),4,_,#[⟨7,.data⟩,⟨6,.chain⟩,⟨0,.phase⟩,⟨1,.phase⟩,⟨2,.phase⟩,⟨3,.phase⟩,⟨4,.phase⟩,⟨5,.phase⟩,⟨6,.phase⟩,⟨7,.phase⟩],none⟩) (v:=?_) rfl (by kernel_rfl) (by kernel_rfl) (by kernel_rfl) (fun _ _ _ h=>h) (Or.inl ⟨by rfl,?_⟩) (by assumption) ?_
  rotate_left
  · (intro w hSw; (try dsimp only at hSw); go_simp; try with_reducible rfl)
  simp only [Act.put,List.setIfInBounds_toArray,List.set_cons_zero,List.set_cons_succ]
  refine wpAnyH_done (by kernel_rfl) ?_ _
  go_wp2
  go_ret
  exact ⟨rfl,HX.out.bel⟩
set_option maxRecDepth 100000 in
set_option maxHeartbeats 4000000 in
theorem takes_5 (d:Dro) (b:Blo) (W:World) (ht:TR W) (hO:BOk b) (hd:0≤d.va∧d.va<4294967296) (hr:bR b=true) (hk:∀b,pkF d b=false) (hP:Pkd d (fun _=> .func (.func 82) #[] #[])):Calls Tryz.prog 12 #[.agg #[.int .i64 d.kind,.int .u32 d.va,.int .i64 d.asid],.agg #[.int .i64 b.asid,.int .i64 b.t.size,.int .u32 b.t.va,.int .u64 b.t.pa,.int .i64 b.t.dom,.int .i64 b.t.ap,.int .u32 b.t.bits,.bool b.t.ng,.bool b.t.xn]] W fun e w'=>e= .returned (.bool (tkF d b))∧Below W.heap.size W w':=by
  have HR:Hid (∀w,Below W.heap.size W w→Calls Tryz.prog 44 #[.agg #[.int .i64 b.asid,.int .i64 b.t.size,.int .u32 b.t.va,.int .u64 b.t.pa,.int .i64 b.t.dom,.int .i64 b.t.ap,.int .u32 b.t.bits,.bool b.t.ng,.bool b.t.xn]] w fun e w'=>e= .returned (.bool (bR b))∧Below w.heap.size w w'):=fun w h=>tright_any b w (ht.below h) hO
  have HX:=hidW (KX.start W d b)
  have he:tkF d b=(false):=by simp [tkF,hr,hk]
  rw [he]
  rw [hr] at HR
  have HP:Hid (∀W,Calls Tryz.prog 45 #[.agg #[.int .i64 d.kind,.int .u32 d.va,.int .i64 d.asid]] W fun e w'=>e= .returned ((fun _=> .func (.func 82) #[] #[]) W.heap.size)∧Bl w' W.heap.size 34 ([.int .i64 d.kind,.int .u32 d.va,.int .i64 d.asid])∧Below W.heap.size W w'):=hP
  dsimp only at HP
  have HT:Hid (∀w,Below W.heap.size W w→TB w):=fun w h=>ht.tb.below h
  have HO:=hidW hO
  clear ht hO hr he hP hk
  go_enter Tryz.func12,Tryz.ntmps12
  go_wp2
  generalize World.alloc _ _=w0 at *
  generalize hA:W.heap.size=A at HX ⊢
  generalize hB:A+1=B at HX ⊢
  clear hA hB
  replace HX:=hidW HX.out.drew
  refine wp_region_held_drew (S:=fun w'=>(w'.cell? ⟨A,0,none⟩=some (.int .i64 d.kind)∧w'.cell? ⟨A,1,none⟩=some (.int .u32 d.va)∧w'.cell? ⟨A,2,none⟩=some (.int .i64 d.asid))∧w'.cell? ⟨B,0,none⟩=some (.int .i64 b.asid)∧w'.cell? ⟨B,1,none⟩=some (.int .i64 b.t.size)∧w'.cell? ⟨B,2,none⟩=some (.int .u32 b.t.va)∧w'.cell? ⟨B,3,none⟩=some (.int .u64 b.t.pa)∧w'.cell? ⟨B,4,none⟩=some (.int .i64 b.t.dom)∧w'.cell? ⟨B,5,none⟩=some (.int .i64 b.t.ap)∧w'.cell? ⟨B,6,none⟩=some (.int .u32 b.t.bits)∧w'.cell? ⟨B,7,none⟩=some (.bool b.t.ng)∧w'.cell? ⟨B,8,none⟩=some (.bool b.t.xn)) (by kernel_rfl) (⟨⟨HX.out.bd.cell 0,HX.out.bd.cell 1,HX.out.bd.cell 2⟩,HX.out.bb.cell 0,HX.out.bb.cell 1,HX.out.bb.cell 2,HX.out.bb.cell 3,HX.out.bb.cell 4,HX.out.bb.cell 5,HX.out.bb.cell 6,HX.out.bb.cell 7,HX.out.bb.cell 8⟩) (fun hHeld=> ?_)
  refine wpAnyH_take (i:=0) (oi:=⟨some 5,.load 45 (.tmp 3),45,_,#[],none⟩) (v:=?_) rfl (by kernel_rfl) (by kernel_rfl) (by kernel_rfl) (fun _ _ _ h=>h) (Or.inl ⟨by rfl,?_⟩) (by assumption) ?_
  rotate_left
  · (intro w hSw; (try dsimp only at hSw); go_simp; try with_reducible rfl)
  simp only [Act.put,List.setIfInBounds_toArray,List.set_cons_zero,List.set_cons_succ]
  refine wpAnyH_ready (rs:=[1]) (by kernel_rfl) (by simp) ?_
  refine AllReadyH.cons (o:=⟨some 6,.call ⟨.value (.func 44),#[.tmp 5],#[45]⟩,4,_,#[⟨0,.data⟩],none⟩) rfl (fun K hK=> ?_) AllReadyH.nil
  go_simp
  (go_at_call 44; refine (HR.out _ HX.out.bel).mono ?_; rintro e w1 ⟨rfl,hb⟩; replace HX:=hidW (HX.out.step hb); clear hb HR; go_wp2_with fail)
  refine hK.out _ _ ?_ (fun hHeld=> ?_)
  · ((try dsimp only); exact ⟨⟨HX.out.bd.cell 0,HX.out.bd.cell 1,HX.out.bd.cell 2⟩,HX.out.bb.cell 0,HX.out.bb.cell 1,HX.out.bb.cell 2,HX.out.bb.cell 3,HX.out.bb.cell 4,HX.out.bb.cell 5,HX.out.bb.cell 6,HX.out.bb.cell 7,HX.out.bb.cell 8⟩)
  clear hK K
  try simp only [Act.put,List.setIfInBounds_toArray,List.set_cons_zero,List.set_cons_succ]
  refine wpAnyH_take (i:=2) (oi:=⟨some 7,.move (.tmp 6),4,_,#[⟨1,.data⟩,⟨1,.chain⟩],none⟩) (v:=?_) rfl (by kernel_rfl) (by kernel_rfl) (by kernel_rfl) (fun _ _ _ h=>h) (Or.inl ⟨by rfl,?_⟩) (by assumption) ?_
  rotate_left
  · (intro w hSw; (try dsimp only at hSw); go_simp; try with_reducible rfl)
  simp only [Act.put,List.setIfInBounds_toArray,List.set_cons_zero,List.set_cons_succ]
  refine wpAnyH_take (i:=3) (oi:=⟨some 8,.load 34 (.tmp 2),34,_,#[⟨2,.guard⟩],some (2,true)⟩) (v:=?_) rfl (by kernel_rfl) (by kernel_rfl) (by kernel_rfl) (fun _ _ _ h=>h) (Or.inl ⟨by rfl,?_⟩) (by assumption) ?_
  rotate_left
  · (intro w hSw; (try dsimp only at hSw); go_simp; try with_reducible rfl)
  simp only [Act.put,List.setIfInBounds_toArray,List.set_cons_zero,List.set_cons_succ]
  refine wpAnyH_take (i:=5) (oi:=⟨some 10,.load 45 (.tmp 3),45,_,#[⟨2,.guard⟩],some (2,true)⟩) (v:=?_) rfl (by kernel_rfl) (by kernel_rfl) (by kernel_rfl) (fun _ _ _ h=>h) (Or.inl ⟨by rfl,?_⟩) (by assumption) ?_
  rotate_left
  · (intro w hSw; (try dsimp only at hSw); go_simp; try with_reducible rfl)
  simp only [Act.put,List.setIfInBounds_toArray,List.set_cons_zero,List.set_cons_succ]
  refine wpAnyH_ready (rs:=[4]) (by kernel_rfl) (by simp) ?_
  refine AllReadyH.cons (o:=⟨some 9,.call ⟨.value (.func 45),#[.tmp 8],#[34]⟩,113,_,#[⟨3,.data⟩,⟨2,.chain⟩,⟨2,.guard⟩],some (2,true)⟩) rfl (fun K hK=> ?_) AllReadyH.nil
  go_simp
  (go_at_call 45; refine (HP.out _).mono ?_; rintro e w2 ⟨rfl,hy,hb⟩; have hle:W.heap.size≤w1.heap.size:=HX.out.bel.size; replace HX:=hidW (HX.out.step hb); have HY:=hidW hy; clear hb hy HP; generalize w1.heap.size=D at *; go_wp2_with fail)
  refine hK.out _ _ ?_ (fun hHeld=> ?_)
  · ((try dsimp only); exact ⟨⟨HX.out.bd.cell 0,HX.out.bd.cell 1,HX.out.bd.cell 2⟩,HX.out.bb.cell 0,HX.out.bb.cell 1,HX.out.bb.cell 2,HX.out.bb.cell 3,HX.out.bb.cell 4,HX.out.bb.cell 5,HX.out.bb.cell 6,HX.out.bb.cell 7,HX.out.bb.cell 8⟩)
  clear hK K
  try simp only [Act.put,List.setIfInBounds_toArray,List.set_cons_zero,List.set_cons_succ]
  refine wpAnyH_ready (rs:=[6]) (by kernel_rfl) (by simp) ?_
  refine AllReadyH.cons (o:=⟨some 11,.call ⟨.value (.tmp 9),#[.tmp 10],#[45]⟩,4,_,#[⟨4,.data⟩,⟨5,.data⟩,⟨4,.chain⟩,⟨2,.guard⟩],some (2,true)⟩) rfl (fun K hK=> ?_) AllReadyH.nil
  go_simp
  (go_at_call 82; refine (pk5_any b _).mono ?_; rintro e w3 ⟨rfl,hb⟩; replace HX:=hidW (HX.out.step hb); clear hb HY; go_wp2_with fail)
  refine hK.out _ _ ?_ (fun hHeld=> ?_)
  · ((try dsimp only); exact ⟨⟨HX.out.bd.cell 0,HX.out.bd.cell 1,HX.out.bd.cell 2⟩,HX.out.bb.cell 0,HX.out.bb.cell 1,HX.out.bb.cell 2,HX.out.bb.cell 3,HX.out.bb.cell 4,HX.out.bb.cell 5,HX.out.bb.cell 6,HX.out.bb.cell 7,HX.out.bb.cell 8⟩)
  clear hK K
  try simp only [Act.put,List.setIfInBounds_toArray,List.set_cons_zero,List.set_cons_succ]
  refine wpAnyH_take (i:=7) (oi:=⟨some 12,.pick (.tmp 7) (.tmp 11) (.const (Value.bool false)),4,_,#[⟨2,.data⟩,⟨6,.data⟩],none⟩) (v:=?_) rfl (by kernel_rfl) (by kernel_rfl) (by kernel_rfl) (fun _ _ _ h=>h) (Or.inl ⟨by rfl,?_⟩) (by assumption) ?_
  rotate_left
  · (intro w hSw; (try dsimp only at hSw); go_simp; try with_reducible rfl)
  simp only [Act.put,List.setIfInBounds_toArray,List.set_cons_zero,List.set_cons_succ]
  refine wpAnyH_take (i:=8) (oi:=⟨some 4,.assign (.tmp 12),4,_,#[⟨7,.data⟩,⟨6,.chain⟩,⟨0,.phase⟩,⟨1,.phase⟩,⟨2,.phase⟩,⟨3,.phase⟩,⟨4,.phase⟩,⟨5,.phase⟩,⟨6,.phase⟩,⟨7,.phase⟩],none⟩) (v:=?_) rfl (by kernel_rfl) (by kernel_rfl) (by kernel_rfl) (fun _ _ _ h=>h) (Or.inl ⟨by rfl,?_⟩) (by assumption) ?_
  rotate_left
  · (intro w hSw; (try dsimp only at hSw); go_simp; try with_reducible rfl)
  simp only [Act.put,List.setIfInBounds_toArray,List.set_cons_zero,List.set_cons_succ]
  refine wpAnyH_done (by kernel_rfl) ?_ _
  go_wp2
  go_ret
  exact ⟨rfl,HX.out.bel⟩
theorem takes_any (d:Dro) (b:Blo) (W:World) (ht:TR W) (hO:BOk b) (hd:0≤d.va∧d.va<4294967296):Calls Tryz.prog 12 #[.agg #[.int .i64 d.kind,.int .u32 d.va,.int .i64 d.asid],.agg #[.int .i64 b.asid,.int .i64 b.t.size,.int .u32 b.t.va,.int .u64 b.t.pa,.int .i64 b.t.dom,.int .i64 b.t.ap,.int .u32 b.t.bits,.bool b.t.ng,.bool b.t.xn]] W fun e w'=>e= .returned (.bool (tkF d b))∧Below W.heap.size W w':=by
  cases hr:bR b
  · exact takes_no d b W ht hO hd hr
  · rcases picked_any d with ⟨h1,h2⟩|⟨h1,h2⟩|⟨h1,h2⟩|⟨h1,h2⟩|⟨h1,h2⟩
    · exact takes_1 d b W ht hO hd hr h1 h2
    · exact takes_2 d b W ht hO hd hr h1 h2
    · exact takes_3 d b W ht hO hd hr h1 h2
    · exact takes_4 d b W ht hO hd hr h1 h2
    · exact takes_5 d b W ht hO hd hr h1 h2
end Go.Proofs.YtnjlajjjcmhfgaaGreatDoor
