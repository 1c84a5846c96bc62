import Derived.Test.YtkmgmmmpiallhaaDoorRh
namespace Go.Proofs.YtkmgmmmpiallhaaDoor
open Go.RowKit
set_option linter.unusedVariables false
set_option linter.unusedSimpArgs false
set_option maxRecDepth 100000 in
set_option maxHeartbeats 1000000 in
theorem say_t5 (b:Nat) (o0 fm:Int) (ol:List Int) (s:ByteArray) (x:Nat) (w:World) (FV CN:Int→Int)
    (HN:Hid (∀(K:Int) w',0≤K→K<256→K≠32→Calls Tryd.prog 59 #[.string s,.int .u8 K,.int .u32 (x:Int)] w' fun e w''=>e= .returned (.int .i64 (FV K))∧w''=w'))
    (HF:Hid (∀(K:Int) w',0≤K→K<256→K≠32→Calls Tryd.prog 57 #[.string s,.int .u8 K,.int .u32 (x:Int)] w' fun e w''=>e= .returned (.tuple #[.int .u32 (FV K),.int .i64 (CN K)])∧w''=w'))
    (hs:Sl w b (41::ol)) (LEN:Nat) (hLN:0<LEN) (hO1:decide (0<CN 111)=false) (hS:(FV 115 == 1)=false) (him:¬33554432≤FV 105*4) (h105:FV 105<16777216) (p105:0≤FV 105) :
    Calls Tryd.prog 51 #[.agg #[.slice (some ⟨b,0,none⟩) LEN LEN,.int .i64 fm,.string s],.int .u32 (x:Int)] w fun e w'=>e= .returned (.agg #[.int .i64 (FV 99),.int .i64 (41),.bool false,.int .i64 fm,.int .i64 (FV 100),.int .i64 (FV 110),.int .i64 (FV 109),.int .i64 (FV 114),.int .i64 (FV 97),.int .u32 (FV 105*4),.int .i64 (FV 116),.int .i64 (FV 107),.bool (FV 112 == 1),.bool (FV 117 == 1),.bool (FV 119 == 1),.int .u16 (IntKind.u16.wrap (FV 108)),.int .i64 (FV 120),.int .i64 (FV 121),.int .i64 (FV 122),.int .i64 (FV 118)])∧Below w.heap.size w w':=by
  have HX0:=hidW (SW.first [.slice (some ⟨b,0,none⟩) LEN LEN,.int .i64 fm,.string s] [.int .i64 0,.int .i64 0,.bool false,.int .i64 0,.int .i64 0,.int .i64 0,.int .i64 0,.int .i64 0,.int .i64 0,.int .u32 0,.int .i64 0,.int .i64 0,.bool false,.bool false,.bool false,.int .u16 0,.int .i64 0,.int .i64 0,.int .i64 0,.int .i64 0] hs)
  clear hs
  go_enter Tryd.func51,Tryd.ntmps51
  go_wp2
  have HD:=hidW HX0.out.drew
  have K1:=HD.out.held
  refine wp_region_held_drew (S:=fun w'=>w'.cell? ⟨w.heap.size,0,none⟩=some (.slice (some ⟨b,0,none⟩) LEN LEN)∧w'.cell? ⟨w.heap.size,1,none⟩=some (.int .i64 fm)∧w'.cell? ⟨b,0,none⟩=some (.int .i64 (41))) (by kernel_rfl) K1 (fun hHeld=> ?_)
  clear hHeld HX0
  generalize World.drew _=wd at HD K1 ⊢
  have K2:=hidW K1
  clear K1
  have hsz:=HD.out.size
  refine tkH 0 ⟨some 11,.move (.tmp 5),9,_,#[],none⟩ ?_ ?_ ?_
  rotate_left
  · (intro w hSw; (try dsimp only at hSw); go_simp; try with_reducible rfl)
  simp only [Act.put,List.setIfInBounds_toArray,List.set_cons_zero,List.set_cons_succ]
  refine tkH 1 ⟨some 12,.move (.tmp 1),22,_,#[],none⟩ ?_ ?_ ?_
  rotate_left
  · (intro w hSw; (try dsimp only at hSw); go_simp; try with_reducible rfl)
  simp only [Act.put,List.setIfInBounds_toArray,List.set_cons_zero,List.set_cons_succ]
  refine tkH 3 ⟨some 14,.fieldAddr 50 (.tmp 2) 0,0,_,#[],none⟩ ?_ ?_ ?_
  rotate_left
  · (intro w hSw; (try dsimp only at hSw); go_simp; try with_reducible rfl)
  simp only [Act.put,List.setIfInBounds_toArray,List.set_cons_zero,List.set_cons_succ]
  refine tkH 4 ⟨some 15,.load 48 (.tmp 14),48,_,#[⟨3,.data⟩],none⟩ ?_ ?_ ?_
  rotate_left
  · (intro w hSw; (try dsimp only at hSw); go_simp; try with_reducible rfl)
  simp only [Act.put,List.setIfInBounds_toArray,List.set_cons_zero,List.set_cons_succ]
  refine tkH 5 ⟨some 16,.indexAddr 48 (.tmp 15) (.const (Value.int IntKind.i64 0)),0,_,#[⟨4,.data⟩],none⟩ ?_ ?_ ?_
  rotate_left
  · (intro w hSw; (try dsimp only at hSw); go_simp; try with_reducible rfl)
  simp only [Act.put,List.setIfInBounds_toArray,List.set_cons_zero,List.set_cons_succ]
  refine tkH 6 ⟨some 17,.load 3 (.tmp 16),3,_,#[⟨5,.data⟩],none⟩ ?_ ?_ ?_
  rotate_left
  · (intro w hSw; (try dsimp only at hSw); go_simp; try with_reducible rfl)
  simp only [Act.put,List.setIfInBounds_toArray,List.set_cons_zero,List.set_cons_succ]
  refine tkH 7 ⟨some 18,.fieldAddr 50 (.tmp 2) 1,0,_,#[],none⟩ ?_ ?_ ?_
  rotate_left
  · (intro w hSw; (try dsimp only at hSw); go_simp; try with_reducible rfl)
  simp only [Act.put,List.setIfInBounds_toArray,List.set_cons_zero,List.set_cons_succ]
  refine tkH 8 ⟨some 19,.load 3 (.tmp 18),3,_,#[⟨7,.data⟩],none⟩ ?_ ?_ ?_
  rotate_left
  · (intro w hSw; (try dsimp only at hSw); go_simp; try with_reducible rfl)
  simp only [Act.put,List.setIfInBounds_toArray,List.set_cons_zero,List.set_cons_succ]
  refine wpAnyH_ready (rs:=[2,10]) (by kernel_rfl) (by simp) ?_
  refine (AllReadyH.cons (o:=⟨some 13,.call ⟨.value (.func 59),#[.tmp 11,.const (Value.int IntKind.u8 99),.tmp 12],#[9,5,22]⟩,3,_,#[⟨0,.data⟩,⟨1,.data⟩],none⟩) rfl (fun K hK=> ?_) (AllReadyH.cons (o:=⟨some 6,.alloc 28,0,_,#[],none⟩) rfl (fun K hK=> ?_) AllReadyH.nil))
  · go_simp
    go_at_call 59; refine (HN.out _ _ (by decide) (by decide) (by decide)).mono ?_; rintro e wx ⟨rfl,rfl⟩
    refine hK.out _ _ ?_ (fun hHeld=> ?_)
    · (first|with_reducible exact K2.out|exact HX.out.held)
    clear hK K
    try simp only [Act.put,List.setIfInBounds_toArray,List.set_cons_zero,List.set_cons_succ]
    refine tkH 9 ⟨some 20,.build 28 #[(0,.tmp 13),(1,.tmp 17),(3,.tmp 19)],28,_,#[⟨2,.data⟩,⟨6,.data⟩,⟨8,.data⟩],none⟩ ?_ ?_ ?_
    rotate_left
    · (intro w hSw; (try dsimp only at hSw); go_simp; try with_reducible rfl)
    simp only [Act.put,List.setIfInBounds_toArray,List.set_cons_zero,List.set_cons_succ]
    refine wpAnyH_ready (rs:=[10]) (by kernel_rfl) (by simp) ?_
    refine (AllReadyH.cons (o:=⟨some 6,.alloc 28,0,_,#[],none⟩) rfl (fun K hK=> ?_) AllReadyH.nil)
    go_simp
    (refine hK.out _ _ (HD.out.box _).held (fun hHeld=> ?_); clear hHeld; have HX:=hidW (HD.out.box [.int .i64 0,.int .i64 0,.bool false,.int .i64 0,.int .i64 0,.int .i64 0,.int .i64 0,.int .i64 0,.int .i64 0,.int .u32 0,.int .i64 0,.int .i64 0,.bool false,.bool false,.bool false,.int .u16 0,.int .i64 0,.int .i64 0,.int .i64 0,.int .i64 0]); generalize World.alloc _ _=wz at HX ⊢)
    clear hK K
    try simp only [Act.put,List.setIfInBounds_toArray,List.set_cons_zero,List.set_cons_succ]
    refine wpAnyH_ready (rs:=[11]) (by kernel_rfl) (by simp) ?_
    refine (AllReadyH.cons (o:=⟨none,.store 28 (.tmp 6) (.tmp 20),0,_,#[⟨10,.data⟩,⟨9,.data⟩,⟨2,.chain⟩,⟨0,.phase⟩,⟨1,.phase⟩,⟨2,.phase⟩,⟨3,.phase⟩,⟨4,.phase⟩,⟨5,.phase⟩,⟨6,.phase⟩,⟨7,.phase⟩,⟨8,.phase⟩,⟨9,.phase⟩,⟨10,.phase⟩],none⟩) rfl (fun K hK=> ?_) AllReadyH.nil)
    (rw [if_pos (by kernel_rfl)]; refine wp_store_mid _ _ _ rfl (w.heap.size+2) 0 _ rfl rfl (HX.out.ins.there 20 rfl) ins_size (by kernel_rfl) ?_; have HX:=hidW (HX.out.sets [.int .i64 (FV 99),.int .i64 (41),.bool false,.int .i64 fm,.int .i64 0,.int .i64 0,.int .i64 0,.int .i64 0,.int .i64 0,.int .u32 0,.int .i64 0,.int .i64 0,.bool false,.bool false,.bool false,.int .u16 0,.int .i64 0,.int .i64 0,.int .i64 0,.int .i64 0] rfl); generalize World.setCells _ _ _ _=wq at HX ⊢; refine hK.out _ _ HX.out.held (fun hHeld=> ?_); clear hHeld)
    clear hK K
    try simp only [Act.put,List.setIfInBounds_toArray,List.set_cons_zero,List.set_cons_succ]
    refine wpAnyH_done (by kernel_rfl) ?_ _
    clear K2 HD hsz
    obtain ⟨k1,k9⟩:=HX.out.cells
    go_wp2_with (first
      | (go_at_call 59; refine (HN.out _ _ (by decide) (by decide) (by decide)).mono ?_; rintro e wx ⟨rfl,rfl⟩)
      | (go_at_call 57; refine (HF.out _ _ (by decide) (by decide) (by decide)).mono ?_; rintro e wx ⟨rfl,rfl⟩)
      | (guard_target =~ wpList _ _ _ (Oper.mk (some 39) _ _ _ _ _::_) _ _; refine wpList_ints_want intsU intI intZ (by rfl) 4 _ rfl [9,10,11,12] (some 39) rfl rfl (by decide) (by decide) rfl ?_; intro b1 wx h1 hb1; have S1:=hidW h1; have HX:=hidW (HX.out.step hb1); clear h1 hb1 k1 k9; obtain ⟨k1,k9⟩:=HX.out.cells)
      | (go_at_call 36; refine (jin_any _ [9,10,11,12] _ _ S1.out).mono ?_; rintro e wx ⟨rfl,rfl⟩; clear S1)
      | (guard_target =~ wpList _ _ _ (Oper.mk none (Op.store 26 _ _) _ _ _ _::_) _ _; refine Hid.out ?_)
      | (guard_target =~ wpList _ _ _ (Oper.mk none (Op.store _ _ _) _ _ _ _::_) _ _; refine wpList_put1 rfl _ _ _ rfl rfl _ _ _ _ _ _ _ rfl rfl HX.out (by kernel_rfl) rfl (by simp) ?_; intro wx hx; simp only [List.set,Act.eval,Array.getD_eq_getD_getElem?,List.getElem?_toArray,List.getElem?_cons_succ,List.getElem?_cons_zero,Option.getD_some] at hx; have HX:=hidW hx; clear hx k1 k9; obtain ⟨k1,k9⟩:=HX.out.cells))
    refine hidW (hidW ?_)
    refine wpList_store_mid rfl _ _ _ rfl (w.heap.size+2) 16 #[.int .i64 (FV 120),.int .i64 (FV 121),.int .i64 (FV 122),.int .i64 (FV 118)] rfl rfl (bl_there HX.out.ins 16 4 (by simp)) tupI (by kernel_rfl) ?_
    have HX:=hidW (HX.out.tup (.int .i64 (FV 120)) (.int .i64 (FV 121)) (.int .i64 (FV 122)) (.int .i64 (FV 118)))
    generalize World.setCells _ _ _ _=wy at HX ⊢
    clear k1 k9
    go_wp2_with (first
      | (guard_target =~ wpList _ _ _ (Oper.mk (some 133) _ _ _ _ _::_) _ _; refine wpList_load_mid rfl _ _ rfl (w.heap.size+2) 0 rfl _ _ HX.out.ins.range Tryd.underlying28 rfl ins_size ?_)
      | (guard_target =~ wpList _ _ _ (Oper.mk none (Op.store 28 _ _) _ _ _ _::_) _ _; refine wpList_ret rfl _ _ rfl rfl _ _ _ _ _ rfl HX.out rfl rfl rfl (by kernel_rfl) ?_; intro wz hz; have HR:=hidW hz; clear hz HX))
    have hl:=ins_load HR.out.2 rfl
    exact bodyPost_ret (by simp [results,Tryd.results51,asAddr,hl,Act.put]) rfl ⟨rfl,HR.out.1⟩
  · go_simp
    (refine hK.out _ _ (HD.out.box _).held (fun hHeld=> ?_); clear hHeld; have HX:=hidW (HD.out.box [.int .i64 0,.int .i64 0,.bool false,.int .i64 0,.int .i64 0,.int .i64 0,.int .i64 0,.int .i64 0,.int .i64 0,.int .u32 0,.int .i64 0,.int .i64 0,.bool false,.bool false,.bool false,.int .u16 0,.int .i64 0,.int .i64 0,.int .i64 0,.int .i64 0]); generalize World.alloc _ _=wz at HX ⊢)
    clear hK K
    try simp only [Act.put,List.setIfInBounds_toArray,List.set_cons_zero,List.set_cons_succ]
    refine wpAnyH_ready (rs:=[2]) (by kernel_rfl) (by simp) ?_
    refine (AllReadyH.cons (o:=⟨some 13,.call ⟨.value (.func 59),#[.tmp 11,.const (Value.int IntKind.u8 99),.tmp 12],#[9,5,22]⟩,3,_,#[⟨0,.data⟩,⟨1,.data⟩],none⟩) rfl (fun K hK=> ?_) AllReadyH.nil)
    go_simp
    go_at_call 59; refine (HN.out _ _ (by decide) (by decide) (by decide)).mono ?_; rintro e wx ⟨rfl,rfl⟩
    refine hK.out _ _ ?_ (fun hHeld=> ?_)
    · (first|with_reducible exact K2.out|exact HX.out.held)
    clear hK K
    try simp only [Act.put,List.setIfInBounds_toArray,List.set_cons_zero,List.set_cons_succ]
    refine tkH 9 ⟨some 20,.build 28 #[(0,.tmp 13),(1,.tmp 17),(3,.tmp 19)],28,_,#[⟨2,.data⟩,⟨6,.data⟩,⟨8,.data⟩],none⟩ ?_ ?_ ?_
    rotate_left
    · (intro w hSw; (try dsimp only at hSw); go_simp; try with_reducible rfl)
    simp only [Act.put,List.setIfInBounds_toArray,List.set_cons_zero,List.set_cons_succ]
    refine wpAnyH_ready (rs:=[11]) (by kernel_rfl) (by simp) ?_
    refine (AllReadyH.cons (o:=⟨none,.store 28 (.tmp 6) (.tmp 20),0,_,#[⟨10,.data⟩,⟨9,.data⟩,⟨2,.chain⟩,⟨0,.phase⟩,⟨1,.phase⟩,⟨2,.phase⟩,⟨3,.phase⟩,⟨4,.phase⟩,⟨5,.phase⟩,⟨6,.phase⟩,⟨7,.phase⟩,⟨8,.phase⟩,⟨9,.phase⟩,⟨10,.phase⟩],none⟩) rfl (fun K hK=> ?_) AllReadyH.nil)
    (rw [if_pos (by kernel_rfl)]; refine wp_store_mid _ _ _ rfl (w.heap.size+2) 0 _ rfl rfl (HX.out.ins.there 20 rfl) ins_size (by kernel_rfl) ?_; have HX:=hidW (HX.out.sets [.int .i64 (FV 99),.int .i64 (41),.bool false,.int .i64 fm,.int .i64 0,.int .i64 0,.int .i64 0,.int .i64 0,.int .i64 0,.int .u32 0,.int .i64 0,.int .i64 0,.bool false,.bool false,.bool false,.int .u16 0,.int .i64 0,.int .i64 0,.int .i64 0,.int .i64 0] rfl); generalize World.setCells _ _ _ _=wq at HX ⊢; refine hK.out _ _ HX.out.held (fun hHeld=> ?_); clear hHeld)
    clear hK K
    try simp only [Act.put,List.setIfInBounds_toArray,List.set_cons_zero,List.set_cons_succ]
    refine wpAnyH_done (by kernel_rfl) ?_ _
    clear K2 HD hsz
    obtain ⟨k1,k9⟩:=HX.out.cells
    go_wp2_with (first
      | (go_at_call 59; refine (HN.out _ _ (by decide) (by decide) (by decide)).mono ?_; rintro e wx ⟨rfl,rfl⟩)
      | (go_at_call 57; refine (HF.out _ _ (by decide) (by decide) (by decide)).mono ?_; rintro e wx ⟨rfl,rfl⟩)
      | (guard_target =~ wpList _ _ _ (Oper.mk (some 39) _ _ _ _ _::_) _ _; refine wpList_ints_want intsU intI intZ (by rfl) 4 _ rfl [9,10,11,12] (some 39) rfl rfl (by decide) (by decide) rfl ?_; intro b1 wx h1 hb1; have S1:=hidW h1; have HX:=hidW (HX.out.step hb1); clear h1 hb1 k1 k9; obtain ⟨k1,k9⟩:=HX.out.cells)
      | (go_at_call 36; refine (jin_any _ [9,10,11,12] _ _ S1.out).mono ?_; rintro e wx ⟨rfl,rfl⟩; clear S1)
      | (guard_target =~ wpList _ _ _ (Oper.mk none (Op.store 26 _ _) _ _ _ _::_) _ _; refine Hid.out ?_)
      | (guard_target =~ wpList _ _ _ (Oper.mk none (Op.store _ _ _) _ _ _ _::_) _ _; refine wpList_put1 rfl _ _ _ rfl rfl _ _ _ _ _ _ _ rfl rfl HX.out (by kernel_rfl) rfl (by simp) ?_; intro wx hx; simp only [List.set,Act.eval,Array.getD_eq_getD_getElem?,List.getElem?_toArray,List.getElem?_cons_succ,List.getElem?_cons_zero,Option.getD_some] at hx; have HX:=hidW hx; clear hx k1 k9; obtain ⟨k1,k9⟩:=HX.out.cells))
    refine hidW (hidW ?_)
    refine wpList_store_mid rfl _ _ _ rfl (w.heap.size+2) 16 #[.int .i64 (FV 120),.int .i64 (FV 121),.int .i64 (FV 122),.int .i64 (FV 118)] rfl rfl (bl_there HX.out.ins 16 4 (by simp)) tupI (by kernel_rfl) ?_
    have HX:=hidW (HX.out.tup (.int .i64 (FV 120)) (.int .i64 (FV 121)) (.int .i64 (FV 122)) (.int .i64 (FV 118)))
    generalize World.setCells _ _ _ _=wy at HX ⊢
    clear k1 k9
    go_wp2_with (first
      | (guard_target =~ wpList _ _ _ (Oper.mk (some 133) _ _ _ _ _::_) _ _; refine wpList_load_mid rfl _ _ rfl (w.heap.size+2) 0 rfl _ _ HX.out.ins.range Tryd.underlying28 rfl ins_size ?_)
      | (guard_target =~ wpList _ _ _ (Oper.mk none (Op.store 28 _ _) _ _ _ _::_) _ _; refine wpList_ret rfl _ _ rfl rfl _ _ _ _ _ rfl HX.out rfl rfl rfl (by kernel_rfl) ?_; intro wz hz; have HR:=hidW hz; clear hz HX))
    have hl:=ins_load HR.out.2 rfl
    exact bodyPost_ret (by simp [results,Tryd.results51,asAddr,hl,Act.put]) rfl ⟨rfl,HR.out.1⟩
set_option maxRecDepth 100000 in
set_option maxHeartbeats 1000000 in
theorem say_t6 (b:Nat) (o0 fm:Int) (ol:List Int) (s:ByteArray) (x:Nat) (w:World) (FV CN:Int→Int)
    (HN:Hid (∀(K:Int) w',0≤K→K<256→K≠32→Calls Tryd.prog 59 #[.string s,.int .u8 K,.int .u32 (x:Int)] w' fun e w''=>e= .returned (.int .i64 (FV K))∧w''=w'))
    (HF:Hid (∀(K:Int) w',0≤K→K<256→K≠32→Calls Tryd.prog 57 #[.string s,.int .u8 K,.int .u32 (x:Int)] w' fun e w''=>e= .returned (.tuple #[.int .u32 (FV K),.int .i64 (CN K)])∧w''=w'))
    (hs:Sl w b (41::ol)) (LEN:Nat) (hLN:0<LEN) (hO1:decide (0<CN 111)=false) (hS:(FV 115 == 1)=false) (him:33554432≤FV 105*4) (h105:FV 105<16777216) (p105:0≤FV 105) (IM:Int) (hIM1:(FV 105*4-67108864)%4294967296=IM) (hIM2:IntKind.u32.wrap (FV 105*4-67108864)=IM) :
    Calls Tryd.prog 51 #[.agg #[.slice (some ⟨b,0,none⟩) LEN LEN,.int .i64 fm,.string s],.int .u32 (x:Int)] w fun e w'=>e= .returned (.agg #[.int .i64 (FV 99),.int .i64 (41),.bool false,.int .i64 fm,.int .i64 (FV 100),.int .i64 (FV 110),.int .i64 (FV 109),.int .i64 (FV 114),.int .i64 (FV 97),.int .u32 (IM),.int .i64 (FV 116),.int .i64 (FV 107),.bool (FV 112 == 1),.bool (FV 117 == 1),.bool (FV 119 == 1),.int .u16 (IntKind.u16.wrap (FV 108)),.int .i64 (FV 120),.int .i64 (FV 121),.int .i64 (FV 122),.int .i64 (FV 118)])∧Below w.heap.size w w':=by
  have HX0:=hidW (SW.first [.slice (some ⟨b,0,none⟩) LEN LEN,.int .i64 fm,.string s] [.int .i64 0,.int .i64 0,.bool false,.int .i64 0,.int .i64 0,.int .i64 0,.int .i64 0,.int .i64 0,.int .i64 0,.int .u32 0,.int .i64 0,.int .i64 0,.bool false,.bool false,.bool false,.int .u16 0,.int .i64 0,.int .i64 0,.int .i64 0,.int .i64 0] hs)
  clear hs
  go_enter Tryd.func51,Tryd.ntmps51
  go_wp2
  have HD:=hidW HX0.out.drew
  have K1:=HD.out.held
  refine wp_region_held_drew (S:=fun w'=>w'.cell? ⟨w.heap.size,0,none⟩=some (.slice (some ⟨b,0,none⟩) LEN LEN)∧w'.cell? ⟨w.heap.size,1,none⟩=some (.int .i64 fm)∧w'.cell? ⟨b,0,none⟩=some (.int .i64 (41))) (by kernel_rfl) K1 (fun hHeld=> ?_)
  clear hHeld HX0
  generalize World.drew _=wd at HD K1 ⊢
  have K2:=hidW K1
  clear K1
  have hsz:=HD.out.size
  refine tkH 0 ⟨some 11,.move (.tmp 5),9,_,#[],none⟩ ?_ ?_ ?_
  rotate_left
  · (intro w hSw; (try dsimp only at hSw); go_simp; try with_reducible rfl)
  simp only [Act.put,List.setIfInBounds_toArray,List.set_cons_zero,List.set_cons_succ]
  refine tkH 1 ⟨some 12,.move (.tmp 1),22,_,#[],none⟩ ?_ ?_ ?_
  rotate_left
  · (intro w hSw; (try dsimp only at hSw); go_simp; try with_reducible rfl)
  simp only [Act.put,List.setIfInBounds_toArray,List.set_cons_zero,List.set_cons_succ]
  refine tkH 3 ⟨some 14,.fieldAddr 50 (.tmp 2) 0,0,_,#[],none⟩ ?_ ?_ ?_
  rotate_left
  · (intro w hSw; (try dsimp only at hSw); go_simp; try with_reducible rfl)
  simp only [Act.put,List.setIfInBounds_toArray,List.set_cons_zero,List.set_cons_succ]
  refine tkH 4 ⟨some 15,.load 48 (.tmp 14),48,_,#[⟨3,.data⟩],none⟩ ?_ ?_ ?_
  rotate_left
  · (intro w hSw; (try dsimp only at hSw); go_simp; try with_reducible rfl)
  simp only [Act.put,List.setIfInBounds_toArray,List.set_cons_zero,List.set_cons_succ]
  refine tkH 5 ⟨some 16,.indexAddr 48 (.tmp 15) (.const (Value.int IntKind.i64 0)),0,_,#[⟨4,.data⟩],none⟩ ?_ ?_ ?_
  rotate_left
  · (intro w hSw; (try dsimp only at hSw); go_simp; try with_reducible rfl)
  simp only [Act.put,List.setIfInBounds_toArray,List.set_cons_zero,List.set_cons_succ]
  refine tkH 6 ⟨some 17,.load 3 (.tmp 16),3,_,#[⟨5,.data⟩],none⟩ ?_ ?_ ?_
  rotate_left
  · (intro w hSw; (try dsimp only at hSw); go_simp; try with_reducible rfl)
  simp only [Act.put,List.setIfInBounds_toArray,List.set_cons_zero,List.set_cons_succ]
  refine tkH 7 ⟨some 18,.fieldAddr 50 (.tmp 2) 1,0,_,#[],none⟩ ?_ ?_ ?_
  rotate_left
  · (intro w hSw; (try dsimp only at hSw); go_simp; try with_reducible rfl)
  simp only [Act.put,List.setIfInBounds_toArray,List.set_cons_zero,List.set_cons_succ]
  refine tkH 8 ⟨some 19,.load 3 (.tmp 18),3,_,#[⟨7,.data⟩],none⟩ ?_ ?_ ?_
  rotate_left
  · (intro w hSw; (try dsimp only at hSw); go_simp; try with_reducible rfl)
  simp only [Act.put,List.setIfInBounds_toArray,List.set_cons_zero,List.set_cons_succ]
  refine wpAnyH_ready (rs:=[2,10]) (by kernel_rfl) (by simp) ?_
  refine (AllReadyH.cons (o:=⟨some 13,.call ⟨.value (.func 59),#[.tmp 11,.const (Value.int IntKind.u8 99),.tmp 12],#[9,5,22]⟩,3,_,#[⟨0,.data⟩,⟨1,.data⟩],none⟩) rfl (fun K hK=> ?_) (AllReadyH.cons (o:=⟨some 6,.alloc 28,0,_,#[],none⟩) rfl (fun K hK=> ?_) AllReadyH.nil))
  · go_simp
    go_at_call 59; refine (HN.out _ _ (by decide) (by decide) (by decide)).mono ?_; rintro e wx ⟨rfl,rfl⟩
    refine hK.out _ _ ?_ (fun hHeld=> ?_)
    · (first|with_reducible exact K2.out|exact HX.out.held)
    clear hK K
    try simp only [Act.put,List.setIfInBounds_toArray,List.set_cons_zero,List.set_cons_succ]
    refine tkH 9 ⟨some 20,.build 28 #[(0,.tmp 13),(1,.tmp 17),(3,.tmp 19)],28,_,#[⟨2,.data⟩,⟨6,.data⟩,⟨8,.data⟩],none⟩ ?_ ?_ ?_
    rotate_left
    · (intro w hSw; (try dsimp only at hSw); go_simp; try with_reducible rfl)
    simp only [Act.put,List.setIfInBounds_toArray,List.set_cons_zero,List.set_cons_succ]
    refine wpAnyH_ready (rs:=[10]) (by kernel_rfl) (by simp) ?_
    refine (AllReadyH.cons (o:=⟨some 6,.alloc 28,0,_,#[],none⟩) rfl (fun K hK=> ?_) AllReadyH.nil)
    go_simp
    (refine hK.out _ _ (HD.out.box _).held (fun hHeld=> ?_); clear hHeld; have HX:=hidW (HD.out.box [.int .i64 0,.int .i64 0,.bool false,.int .i64 0,.int .i64 0,.int .i64 0,.int .i64 0,.int .i64 0,.int .i64 0,.int .u32 0,.int .i64 0,.int .i64 0,.bool false,.bool false,.bool false,.int .u16 0,.int .i64 0,.int .i64 0,.int .i64 0,.int .i64 0]); generalize World.alloc _ _=wz at HX ⊢)
    clear hK K
    try simp only [Act.put,List.setIfInBounds_toArray,List.set_cons_zero,List.set_cons_succ]
    refine wpAnyH_ready (rs:=[11]) (by kernel_rfl) (by simp) ?_
    refine (AllReadyH.cons (o:=⟨none,.store 28 (.tmp 6) (.tmp 20),0,_,#[⟨10,.data⟩,⟨9,.data⟩,⟨2,.chain⟩,⟨0,.phase⟩,⟨1,.phase⟩,⟨2,.phase⟩,⟨3,.phase⟩,⟨4,.phase⟩,⟨5,.phase⟩,⟨6,.phase⟩,⟨7,.phase⟩,⟨8,.phase⟩,⟨9,.phase⟩,⟨10,.phase⟩],none⟩) rfl (fun K hK=> ?_) AllReadyH.nil)
    (rw [if_pos (by kernel_rfl)]; refine wp_store_mid _ _ _ rfl (w.heap.size+2) 0 _ rfl rfl (HX.out.ins.there 20 rfl) ins_size (by kernel_rfl) ?_; have HX:=hidW (HX.out.sets [.int .i64 (FV 99),.int .i64 (41),.bool false,.int .i64 fm,.int .i64 0,.int .i64 0,.int .i64 0,.int .i64 0,.int .i64 0,.int .u32 0,.int .i64 0,.int .i64 0,.bool false,.bool false,.bool false,.int .u16 0,.int .i64 0,.int .i64 0,.int .i64 0,.int .i64 0] rfl); generalize World.setCells _ _ _ _=wq at HX ⊢; refine hK.out _ _ HX.out.held (fun hHeld=> ?_); clear hHeld)
    clear hK K
    try simp only [Act.put,List.setIfInBounds_toArray,List.set_cons_zero,List.set_cons_succ]
    refine wpAnyH_done (by kernel_rfl) ?_ _
    clear K2 HD hsz
    obtain ⟨k1,k9⟩:=HX.out.cells
    go_wp2_with (first
      | (go_at_call 59; refine (HN.out _ _ (by decide) (by decide) (by decide)).mono ?_; rintro e wx ⟨rfl,rfl⟩)
      | (go_at_call 57; refine (HF.out _ _ (by decide) (by decide) (by decide)).mono ?_; rintro e wx ⟨rfl,rfl⟩)
      | (guard_target =~ wpList _ _ _ (Oper.mk (some 39) _ _ _ _ _::_) _ _; refine wpList_ints_want intsU intI intZ (by rfl) 4 _ rfl [9,10,11,12] (some 39) rfl rfl (by decide) (by decide) rfl ?_; intro b1 wx h1 hb1; have S1:=hidW h1; have HX:=hidW (HX.out.step hb1); clear h1 hb1 k1 k9; obtain ⟨k1,k9⟩:=HX.out.cells)
      | (go_at_call 36; refine (jin_any _ [9,10,11,12] _ _ S1.out).mono ?_; rintro e wx ⟨rfl,rfl⟩; clear S1)
      | (guard_target =~ wpList _ _ _ (Oper.mk none (Op.store 26 _ _) _ _ _ _::_) _ _; refine Hid.out ?_)
      | (guard_target =~ wpList _ _ _ (Oper.mk none (Op.store _ _ _) _ _ _ _::_) _ _; refine wpList_put1 rfl _ _ _ rfl rfl _ _ _ _ _ _ _ rfl rfl HX.out (by kernel_rfl) rfl (by simp) ?_; intro wx hx; simp only [List.set,Act.eval,Array.getD_eq_getD_getElem?,List.getElem?_toArray,List.getElem?_cons_succ,List.getElem?_cons_zero,Option.getD_some] at hx; have HX:=hidW hx; clear hx k1 k9; obtain ⟨k1,k9⟩:=HX.out.cells))
    refine hidW (hidW ?_)
    refine wpList_store_mid rfl _ _ _ rfl (w.heap.size+2) 16 #[.int .i64 (FV 120),.int .i64 (FV 121),.int .i64 (FV 122),.int .i64 (FV 118)] rfl rfl (bl_there HX.out.ins 16 4 (by simp)) tupI (by kernel_rfl) ?_
    have HX:=hidW (HX.out.tup (.int .i64 (FV 120)) (.int .i64 (FV 121)) (.int .i64 (FV 122)) (.int .i64 (FV 118)))
    generalize World.setCells _ _ _ _=wy at HX ⊢
    clear k1 k9
    go_wp2_with (first
      | (guard_target =~ wpList _ _ _ (Oper.mk (some 133) _ _ _ _ _::_) _ _; refine wpList_load_mid rfl _ _ rfl (w.heap.size+2) 0 rfl _ _ HX.out.ins.range Tryd.underlying28 rfl ins_size ?_)
      | (guard_target =~ wpList _ _ _ (Oper.mk none (Op.store 28 _ _) _ _ _ _::_) _ _; refine wpList_ret rfl _ _ rfl rfl _ _ _ _ _ rfl HX.out rfl rfl rfl (by kernel_rfl) ?_; intro wz hz; have HR:=hidW hz; clear hz HX))
    have hl:=ins_load HR.out.2 rfl
    exact bodyPost_ret (by simp [results,Tryd.results51,asAddr,hl,Act.put]) rfl ⟨rfl,HR.out.1⟩
  · go_simp
    (refine hK.out _ _ (HD.out.box _).held (fun hHeld=> ?_); clear hHeld; have HX:=hidW (HD.out.box [.int .i64 0,.int .i64 0,.bool false,.int .i64 0,.int .i64 0,.int .i64 0,.int .i64 0,.int .i64 0,.int .i64 0,.int .u32 0,.int .i64 0,.int .i64 0,.bool false,.bool false,.bool false,.int .u16 0,.int .i64 0,.int .i64 0,.int .i64 0,.int .i64 0]); generalize World.alloc _ _=wz at HX ⊢)
    clear hK K
    try simp only [Act.put,List.setIfInBounds_toArray,List.set_cons_zero,List.set_cons_succ]
    refine wpAnyH_ready (rs:=[2]) (by kernel_rfl) (by simp) ?_
    refine (AllReadyH.cons (o:=⟨some 13,.call ⟨.value (.func 59),#[.tmp 11,.const (Value.int IntKind.u8 99),.tmp 12],#[9,5,22]⟩,3,_,#[⟨0,.data⟩,⟨1,.data⟩],none⟩) rfl (fun K hK=> ?_) AllReadyH.nil)
    go_simp
    go_at_call 59; refine (HN.out _ _ (by decide) (by decide) (by decide)).mono ?_; rintro e wx ⟨rfl,rfl⟩
    refine hK.out _ _ ?_ (fun hHeld=> ?_)
    · (first|with_reducible exact K2.out|exact HX.out.held)
    clear hK K
    try simp only [Act.put,List.setIfInBounds_toArray,List.set_cons_zero,List.set_cons_succ]
    refine tkH 9 ⟨some 20,.build 28 #[(0,.tmp 13),(1,.tmp 17),(3,.tmp 19)],28,_,#[⟨2,.data⟩,⟨6,.data⟩,⟨8,.data⟩],none⟩ ?_ ?_ ?_
    rotate_left
    · (intro w hSw; (try dsimp only at hSw); go_simp; try with_reducible rfl)
    simp only [Act.put,List.setIfInBounds_toArray,List.set_cons_zero,List.set_cons_succ]
    refine wpAnyH_ready (rs:=[11]) (by kernel_rfl) (by simp) ?_
    refine (AllReadyH.cons (o:=⟨none,.store 28 (.tmp 6) (.tmp 20),0,_,#[⟨10,.data⟩,⟨9,.data⟩,⟨2,.chain⟩,⟨0,.phase⟩,⟨1,.phase⟩,⟨2,.phase⟩,⟨3,.phase⟩,⟨4,.phase⟩,⟨5,.phase⟩,⟨6,.phase⟩,⟨7,.phase⟩,⟨8,.phase⟩,⟨9,.phase⟩,⟨10,.phase⟩],none⟩) rfl (fun K hK=> ?_) AllReadyH.nil)
    (rw [if_pos (by kernel_rfl)]; refine wp_store_mid _ _ _ rfl (w.heap.size+2) 0 _ rfl rfl (HX.out.ins.there 20 rfl) ins_size (by kernel_rfl) ?_; have HX:=hidW (HX.out.sets [.int .i64 (FV 99),.int .i64 (41),.bool false,.int .i64 fm,.int .i64 0,.int .i64 0,.int .i64 0,.int .i64 0,.int .i64 0,.int .u32 0,.int .i64 0,.int .i64 0,.bool false,.bool false,.bool false,.int .u16 0,.int .i64 0,.int .i64 0,.int .i64 0,.int .i64 0] rfl); generalize World.setCells _ _ _ _=wq at HX ⊢; refine hK.out _ _ HX.out.held (fun hHeld=> ?_); clear hHeld)
    clear hK K
    try simp only [Act.put,List.setIfInBounds_toArray,List.set_cons_zero,List.set_cons_succ]
    refine wpAnyH_done (by kernel_rfl) ?_ _
    clear K2 HD hsz
    obtain ⟨k1,k9⟩:=HX.out.cells
    go_wp2_with (first
      | (go_at_call 59; refine (HN.out _ _ (by decide) (by decide) (by decide)).mono ?_; rintro e wx ⟨rfl,rfl⟩)
      | (go_at_call 57; refine (HF.out _ _ (by decide) (by decide) (by decide)).mono ?_; rintro e wx ⟨rfl,rfl⟩)
      | (guard_target =~ wpList _ _ _ (Oper.mk (some 39) _ _ _ _ _::_) _ _; refine wpList_ints_want intsU intI intZ (by rfl) 4 _ rfl [9,10,11,12] (some 39) rfl rfl (by decide) (by decide) rfl ?_; intro b1 wx h1 hb1; have S1:=hidW h1; have HX:=hidW (HX.out.step hb1); clear h1 hb1 k1 k9; obtain ⟨k1,k9⟩:=HX.out.cells)
      | (go_at_call 36; refine (jin_any _ [9,10,11,12] _ _ S1.out).mono ?_; rintro e wx ⟨rfl,rfl⟩; clear S1)
      | (guard_target =~ wpList _ _ _ (Oper.mk none (Op.store 26 _ _) _ _ _ _::_) _ _; refine Hid.out ?_)
      | (guard_target =~ wpList _ _ _ (Oper.mk none (Op.store _ _ _) _ _ _ _::_) _ _; refine wpList_put1 rfl _ _ _ rfl rfl _ _ _ _ _ _ _ rfl rfl HX.out (by kernel_rfl) rfl (by simp) ?_; intro wx hx; simp only [List.set,Act.eval,Array.getD_eq_getD_getElem?,List.getElem?_toArray,List.getElem?_cons_succ,List.getElem?_cons_zero,Option.getD_some] at hx; have HX:=hidW hx; clear hx k1 k9; obtain ⟨k1,k9⟩:=HX.out.cells))
    refine hidW (hidW ?_)
    refine wpList_store_mid rfl _ _ _ rfl (w.heap.size+2) 16 #[.int .i64 (FV 120),.int .i64 (FV 121),.int .i64 (FV 122),.int .i64 (FV 118)] rfl rfl (bl_there HX.out.ins 16 4 (by simp)) tupI (by kernel_rfl) ?_
    have HX:=hidW (HX.out.tup (.int .i64 (FV 120)) (.int .i64 (FV 121)) (.int .i64 (FV 122)) (.int .i64 (FV 118)))
    generalize World.setCells _ _ _ _=wy at HX ⊢
    clear k1 k9
    go_wp2_with (first
      | (guard_target =~ wpList _ _ _ (Oper.mk (some 133) _ _ _ _ _::_) _ _; refine wpList_load_mid rfl _ _ rfl (w.heap.size+2) 0 rfl _ _ HX.out.ins.range Tryd.underlying28 rfl ins_size ?_)
      | (guard_target =~ wpList _ _ _ (Oper.mk none (Op.store 28 _ _) _ _ _ _::_) _ _; refine wpList_ret rfl _ _ rfl rfl _ _ _ _ _ rfl HX.out rfl rfl rfl (by kernel_rfl) ?_; intro wz hz; have HR:=hidW hz; clear hz HX))
    have hl:=ins_load HR.out.2 rfl
    exact bodyPost_ret (by simp [results,Tryd.results51,asAddr,hl,Act.put]) rfl ⟨rfl,HR.out.1⟩
end Go.Proofs.YtkmgmmmpiallhaaDoor
