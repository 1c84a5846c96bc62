import Derived.Test.YtkmgmmmpiallhaaDoorRs
namespace Go.Proofs.YtkmgmmmpiallhaaDoor
open Go.RowKit
set_option linter.unusedVariables false
set_option linter.unusedSimpArgs false
set_option maxRecDepth 100000 in
set_option maxHeartbeats 8000000 in
theorem writes_g1 (jc jo jf jd jn jm jr ja ji jt jk jl jx jy jz jv Y:Int) (js jp ju jw:Bool) (w:World) (ON:Bool→Int→Int) (C RDF BKF T8 T13 TA TB T38 E39 E40 T21 T24 E42 E44 T41 T44:Bool)
    (HE:Hid (∀w',Calls Tryd.prog 16 #[.agg ([.int .i64 jc,.int .i64 jo,.bool js,.int .i64 jf,.int .i64 jd,.int .i64 jn,.int .i64 jm,.int .i64 jr,.int .i64 ja,.int .u32 ji,.int .i64 jt,.int .i64 jk,.bool jp,.bool ju,.bool jw,.int .u16 jl,.int .i64 jx,.int .i64 jy,.int .i64 jz,.int .i64 jv]).toArray] w' fun e w''=>e= .returned (.tuple #[.int .u32 Y,.int .i64 0])∧Below w'.heap.size w' w''))
    (HO:Hid (∀b (n:Int) w',0≤n∧n<16→Calls Tryd.prog 38 #[.bool b,.int .i64 n] w' fun e w''=>e= .returned (.int .u16 (ON b n))∧w''=w'))
    (H1:Hid (∀b w',Sl w' b [33,35,37,38,47,50]→Calls Tryd.prog 36 #[.slice (some ⟨b,0,none⟩) 6 6,.int .i64 jo] w' fun e w''=>e= .returned (.bool C)∧w''=w'))
    (hn:Hid (0≤jn∧jn<16)) (ha:Hid (0≤ja∧ja<16)) (hd:Hid (0≤jd∧jd<16))
    (d0:decide (jo≤8)=T8) (d1:decide (13≤jo)=T13) (d2:decide (jo≤31)=TA) (d3:decide (31≤jo)=TB) (d4:decide (jo≤38)=T38) (d5:(jo == 39)=E39) (d6:(jo == 40)=E40) (d7:decide (21≤jo)=T21) (d8:decide (jo≤24)=T24) (d9:(jo == 42)=E42) (d10:(jo == 44)=E44) (d11:decide (41≤jo)=T41) (d12:decide (jo≤44)=T44)
    (hcls:(T8=true∧T13=false∧TA=true∧TB=false∧T38=true∧E39=false∧E40=false∧T21=false∧T24=true∧E42=false∧E44=false∧T41=false∧T44=true∧RDF=true∧BKF=false)∨(T8=false∧T13=false∧TA=true∧TB=false∧T38=true∧E39=false∧E40=false∧T21=false∧T24=true∧E42=false∧E44=false∧T41=false∧T44=true∧RDF=C∧BKF=false)∨(T8=false∧T13=true∧TA=true∧TB=false∧T38=true∧E39=false∧E40=false∧T21=false∧T24=true∧E42=false∧E44=false∧T41=false∧T44=true∧RDF=true∧BKF=false)) :
    Calls Tryd.prog 19 #[.agg ([.int .i64 jc,.int .i64 jo,.bool js,.int .i64 jf,.int .i64 jd,.int .i64 jn,.int .i64 jm,.int .i64 jr,.int .i64 ja,.int .u32 ji,.int .i64 jt,.int .i64 jk,.bool jp,.bool ju,.bool jw,.int .u16 jl,.int .i64 jx,.int .i64 jy,.int .i64 jz,.int .i64 jv]).toArray] w fun e w'=>e= .returned (.int .u16 (bif E39 then bits .or .u16 (bits .or .u16 (bits .or .u16 (bits .or .u16 (bits .or .u16 (ON RDF jd) (ON (T21 && T24) ja)) (ON BKF jn)) (ON (E42 || E44) 14)) (ON (T41 && T44) 15)) jl else bits .or .u16 (bits .or .u16 (bits .or .u16 (bits .or .u16 (ON RDF jd) (ON (T21 && T24) ja)) (ON BKF jn)) (ON (E42 || E44) 14)) (ON (T41 && T44) 15)))∧Below w.heap.size w w':=by
  rcases hcls with ⟨rfl,rfl,rfl,rfl,rfl,rfl,rfl,rfl,rfl,rfl,rfl,rfl,rfl,rfl,rfl⟩|⟨rfl,rfl,rfl,rfl,rfl,rfl,rfl,rfl,rfl,rfl,rfl,rfl,rfl,rfl,rfl⟩|⟨rfl,rfl,rfl,rfl,rfl,rfl,rfl,rfl,rfl,rfl,rfl,rfl,rfl,rfl,rfl⟩
  all_goals
    have HB:=hidW (AX.first w ([.int .i64 jc,.int .i64 jo,.bool js,.int .i64 jf,.int .i64 jd,.int .i64 jn,.int .i64 jm,.int .i64 jr,.int .i64 ja,.int .u32 ji,.int .i64 jt,.int .i64 jk,.bool jp,.bool ju,.bool jw,.int .u16 jl,.int .i64 jx,.int .i64 jy,.int .i64 jz,.int .i64 jv]))
    go_enter Tryd.func19,Tryd.ntmps19
    go_wp2_with (first
      | (guard_target =~ wpList _ _ _ (Oper.mk (some 9) _ _ _ _ _::_) _ _; refine wpList_load_mid rfl _ _ rfl w.heap.size 0 rfl _ _ HB.out.res.range Tryd.underlying28 rfl ins_size ?_)
      | (go_at_call 16; refine (HE.out _).mono ?_; rintro e w0 ⟨rfl,hb⟩; have HB:=hidW (HB.out.step hb); clear hb HE; obtain ⟨m1,m4,m5,m8,m12,m14,m15⟩:=ax_cells HB.out)
      | (guard_target =~ wpList _ _ _ (Oper.mk (some 15) _ _ _ _ _::_) _ _; refine Hid.out ?_))
    refine hidW (hidW ?_)
    (try have hjw2:=hjw.out)
    (try have hjp2:=hjp.out)
    go_wp2_with (first
      | (guard_target =~ wpList _ _ _ (Oper.mk (some 29) _ _ _ _ _::_) _ _; refine wpList_ints_want intsU intI intZ (by rfl) 6 _ rfl [33,35,37,38,47,50] (some 29) rfl rfl (by decide) (by decide) rfl ?_; intro b1 wx h1 hb1; have S1:=hidW h1; have HB:=hidW (HB.out.step hb1); clear h1 hb1 m1 m4 m5 m8 m12 m14 m15; obtain ⟨m1,m4,m5,m8,m12,m14,m15⟩:=ax_cells HB.out)
      | (go_at_call 36; refine (H1.out _ _ S1.out).mono ?_; rintro e wi ⟨rfl,rfl⟩; clear S1))
    clear m1 m4 m5 m8 m12 m14 m15
    have HB:=hidW HB.out.drew
    have K1:=ax_cells HB.out
    refine wp_region_held_drew (S:=fun w'=>w'.cell? ⟨w.heap.size,1,none⟩=some (.int .i64 jo)∧w'.cell? ⟨w.heap.size,4,none⟩=some (.int .i64 jd)∧w'.cell? ⟨w.heap.size,5,none⟩=some (.int .i64 jn)∧w'.cell? ⟨w.heap.size,8,none⟩=some (.int .i64 ja)∧w'.cell? ⟨w.heap.size,12,none⟩=some (.bool jp)∧w'.cell? ⟨w.heap.size,14,none⟩=some (.bool jw)∧w'.cell? ⟨w.heap.size,15,none⟩=some (.int .u16 jl)) (by kernel_rfl) K1 (fun hHeld=> ?_)
    clear hHeld
    have K2:=hidW K1
    clear K1
    refine tkH 0 ⟨some 65,.move (.tmp 5),4,_,#[],none⟩ ?_ ?_ ?_
    rotate_left
    · (intro w hSw; (try dsimp only at hSw); go_simp; try with_reducible rfl)
    simp only [Act.put,List.setIfInBounds_toArray,List.set_cons_zero,List.set_cons_succ]
    refine tkH 1 ⟨some 66,.fieldAddr 28 (.tmp 1) 4,0,_,#[],none⟩ ?_ ?_ ?_
    rotate_left
    · (intro w hSw; (try dsimp only at hSw); go_simp; try with_reducible rfl)
    simp only [Act.put,List.setIfInBounds_toArray,List.set_cons_zero,List.set_cons_succ]
    refine tkH 2 ⟨some 67,.load 3 (.tmp 66),3,_,#[⟨1,.data⟩],none⟩ ?_ ?_ ?_
    rotate_left
    · (intro w hSw; (try dsimp only at hSw); go_simp; try with_reducible rfl)
    simp only [Act.put,List.setIfInBounds_toArray,List.set_cons_zero,List.set_cons_succ]
    refine tkH 4 ⟨some 69,.fieldAddr 28 (.tmp 1) 1,0,_,#[],none⟩ ?_ ?_ ?_
    rotate_left
    · (intro w hSw; (try dsimp only at hSw); go_simp; try with_reducible rfl)
    simp only [Act.put,List.setIfInBounds_toArray,List.set_cons_zero,List.set_cons_succ]
    refine tkH 5 ⟨some 70,.load 3 (.tmp 69),3,_,#[⟨4,.data⟩],none⟩ ?_ ?_ ?_
    rotate_left
    · (intro w hSw; (try dsimp only at hSw); go_simp; try with_reducible rfl)
    simp only [Act.put,List.setIfInBounds_toArray,List.set_cons_zero,List.set_cons_succ]
    refine tkH 6 ⟨some 71,.binOp BinOp.geq 3 (.tmp 70) (.const (Value.int IntKind.i64 21)) 3,4,_,#[⟨5,.data⟩],none⟩ ?_ ?_ ?_
    rotate_left
    · (intro w hSw; (try dsimp only at hSw); go_simp; try with_reducible rfl)
    simp only [Act.put,List.setIfInBounds_toArray,List.set_cons_zero,List.set_cons_succ]
    refine tkH 12 ⟨some 77,.fieldAddr 28 (.tmp 1) 8,0,_,#[],none⟩ ?_ ?_ ?_
    rotate_left
    · (intro w hSw; (try dsimp only at hSw); go_simp; try with_reducible rfl)
    simp only [Act.put,List.setIfInBounds_toArray,List.set_cons_zero,List.set_cons_succ]
    refine tkH 13 ⟨some 78,.load 3 (.tmp 77),3,_,#[⟨12,.data⟩],none⟩ ?_ ?_ ?_
    rotate_left
    · (intro w hSw; (try dsimp only at hSw); go_simp; try with_reducible rfl)
    simp only [Act.put,List.setIfInBounds_toArray,List.set_cons_zero,List.set_cons_succ]
    refine tkH 16 ⟨some 81,.move (.tmp 6),4,_,#[],none⟩ ?_ ?_ ?_
    rotate_left
    · (intro w hSw; (try dsimp only at hSw); go_simp; try with_reducible rfl)
    simp only [Act.put,List.setIfInBounds_toArray,List.set_cons_zero,List.set_cons_succ]
    refine tkH 17 ⟨some 82,.fieldAddr 28 (.tmp 1) 5,0,_,#[],none⟩ ?_ ?_ ?_
    rotate_left
    · (intro w hSw; (try dsimp only at hSw); go_simp; try with_reducible rfl)
    simp only [Act.put,List.setIfInBounds_toArray,List.set_cons_zero,List.set_cons_succ]
    refine tkH 18 ⟨some 83,.load 3 (.tmp 82),3,_,#[⟨17,.data⟩],none⟩ ?_ ?_ ?_
    rotate_left
    · (intro w hSw; (try dsimp only at hSw); go_simp; try with_reducible rfl)
    simp only [Act.put,List.setIfInBounds_toArray,List.set_cons_zero,List.set_cons_succ]
    refine wpAnyH_ready (rs:=[3]) (by kernel_rfl) (by simp) ?_
    refine AllReadyH.cons (o:=⟨some 68,.call ⟨.value (.func 38),#[.tmp 65,.tmp 67],#[4,3]⟩,24,_,#[⟨0,.data⟩,⟨2,.data⟩],none⟩) rfl (fun K hK=> ?_) AllReadyH.nil
    go_simp
    go_at_call 38; refine (HO.out _ _ _ (by first|exact hn.out|exact ha.out|exact hd.out)).mono ?_; rintro e wo ⟨rfl,rfl⟩
    refine hK.out _ _ ?_ (fun hHeld=> ?_)
    · with_reducible exact K2.out
    clear hK K
    try simp only [Act.put,List.setIfInBounds_toArray,List.set_cons_zero,List.set_cons_succ]
    refine tkH 7 ⟨some 72,.move (.tmp 71),4,_,#[⟨6,.data⟩,⟨3,.chain⟩],none⟩ ?_ ?_ ?_
    rotate_left
    · (intro w hSw; (try dsimp only at hSw); go_simp; try with_reducible rfl)
    simp only [Act.put,List.setIfInBounds_toArray,List.set_cons_zero,List.set_cons_succ]
    refine wpAnyH_take (i:=8) (oi:=⟨some 73,.fieldAddr 28 (.tmp 1) 1,0,_,#[⟨7,.guard⟩],some (7,true)⟩) (v:=undef) rfl (by kernel_rfl) (by kernel_rfl) (by kernel_rfl) (fun _ _ _ h=>h) (Or.inr ⟨by rfl,rfl⟩) (by assumption) ?_
    simp only [Act.put,List.setIfInBounds_toArray,List.set_cons_zero,List.set_cons_succ]
    refine wpAnyH_take (i:=9) (oi:=⟨some 74,.load 3 (.tmp 73),3,_,#[⟨8,.data⟩,⟨7,.guard⟩],some (7,true)⟩) (v:=undef) rfl (by kernel_rfl) (by kernel_rfl) (by kernel_rfl) (fun _ _ _ h=>h) (Or.inr ⟨by rfl,rfl⟩) (by assumption) ?_
    simp only [Act.put,List.setIfInBounds_toArray,List.set_cons_zero,List.set_cons_succ]
    refine wpAnyH_take (i:=10) (oi:=⟨some 75,.binOp BinOp.leq 3 (.tmp 74) (.const (Value.int IntKind.i64 24)) 3,4,_,#[⟨9,.data⟩,⟨7,.guard⟩],some (7,true)⟩) (v:=undef) rfl (by kernel_rfl) (by kernel_rfl) (by kernel_rfl) (fun _ _ _ h=>h) (Or.inr ⟨by rfl,rfl⟩) (by assumption) ?_
    simp only [Act.put,List.setIfInBounds_toArray,List.set_cons_zero,List.set_cons_succ]
    refine tkH 11 ⟨some 76,.pick (.tmp 72) (.tmp 75) (.const (Value.bool false)),4,_,#[⟨7,.data⟩,⟨10,.data⟩],none⟩ ?_ ?_ ?_
    rotate_left
    · (intro w hSw; (try dsimp only at hSw); go_simp; try with_reducible rfl)
    simp only [Act.put,List.setIfInBounds_toArray,List.set_cons_zero,List.set_cons_succ]
    refine wpAnyH_ready (rs:=[14]) (by kernel_rfl) (by simp) ?_
    refine AllReadyH.cons (o:=⟨some 79,.call ⟨.value (.func 38),#[.tmp 76,.tmp 78],#[4,3]⟩,24,_,#[⟨11,.data⟩,⟨13,.data⟩,⟨7,.chain⟩],none⟩) rfl (fun K hK=> ?_) AllReadyH.nil
    go_simp
    go_at_call 38; refine (HO.out _ _ _ (by first|exact hn.out|exact ha.out|exact hd.out)).mono ?_; rintro e wo ⟨rfl,rfl⟩
    refine hK.out _ _ ?_ (fun hHeld=> ?_)
    · with_reducible exact K2.out
    clear hK K
    try simp only [Act.put,List.setIfInBounds_toArray,List.set_cons_zero,List.set_cons_succ]
    refine tkH 15 ⟨some 80,.binOp BinOp.or 24 (.tmp 68) (.tmp 79) 24,24,_,#[⟨3,.data⟩,⟨14,.data⟩],none⟩ ?_ ?_ ?_
    rotate_left
    · (intro w hSw; (try dsimp only at hSw); go_simp; try with_reducible rfl)
    simp only [Act.put,List.setIfInBounds_toArray,List.set_cons_zero,List.set_cons_succ]
    refine wpAnyH_ready (rs:=[19]) (by kernel_rfl) (by simp) ?_
    refine AllReadyH.cons (o:=⟨some 84,.call ⟨.value (.func 38),#[.tmp 81,.tmp 83],#[4,3]⟩,24,_,#[⟨16,.data⟩,⟨18,.data⟩,⟨14,.chain⟩],none⟩) rfl (fun K hK=> ?_) AllReadyH.nil
    go_simp
    go_at_call 38; refine (HO.out _ _ _ (by first|exact hn.out|exact ha.out|exact hd.out)).mono ?_; rintro e wo ⟨rfl,rfl⟩
    refine hK.out _ _ ?_ (fun hHeld=> ?_)
    · with_reducible exact K2.out
    clear hK K
    try simp only [Act.put,List.setIfInBounds_toArray,List.set_cons_zero,List.set_cons_succ]
    refine tkH 20 ⟨some 85,.binOp BinOp.or 24 (.tmp 80) (.tmp 84) 24,24,_,#[⟨15,.data⟩,⟨19,.data⟩],none⟩ ?_ ?_ ?_
    rotate_left
    · (intro w hSw; (try dsimp only at hSw); go_simp; try with_reducible rfl)
    simp only [Act.put,List.setIfInBounds_toArray,List.set_cons_zero,List.set_cons_succ]
    refine tkH 21 ⟨some 7,.assign (.tmp 85),24,_,#[⟨20,.data⟩,⟨19,.chain⟩,⟨0,.phase⟩,⟨1,.phase⟩,⟨2,.phase⟩,⟨3,.phase⟩,⟨4,.phase⟩,⟨5,.phase⟩,⟨6,.phase⟩,⟨7,.phase⟩,⟨8,.phase⟩,⟨9,.phase⟩,⟨10,.phase⟩,⟨11,.phase⟩,⟨12,.phase⟩,⟨13,.phase⟩,⟨14,.phase⟩,⟨15,.phase⟩,⟨16,.phase⟩,⟨17,.phase⟩,⟨18,.phase⟩,⟨19,.phase⟩,⟨20,.phase⟩],none⟩ ?_ ?_ ?_
    rotate_left
    · (intro w hSw; (try dsimp only at hSw); go_simp; try with_reducible rfl)
    simp only [Act.put,List.setIfInBounds_toArray,List.set_cons_zero,List.set_cons_succ]
    refine wpAnyH_done (by kernel_rfl) ?_ _
    go_wp2
    have HB:=hidW HB.out.drew
    have K1:=ax_cells HB.out
    refine wp_region_held_drew (S:=fun w'=>w'.cell? ⟨w.heap.size,1,none⟩=some (.int .i64 jo)∧w'.cell? ⟨w.heap.size,4,none⟩=some (.int .i64 jd)∧w'.cell? ⟨w.heap.size,5,none⟩=some (.int .i64 jn)∧w'.cell? ⟨w.heap.size,8,none⟩=some (.int .i64 ja)∧w'.cell? ⟨w.heap.size,12,none⟩=some (.bool jp)∧w'.cell? ⟨w.heap.size,14,none⟩=some (.bool jw)∧w'.cell? ⟨w.heap.size,15,none⟩=some (.int .u16 jl)) (by kernel_rfl) K1 (fun hHeld=> ?_)
    clear hHeld
    have K2:=hidW K1
    clear K1
    refine tkH 0 ⟨some 86,.move (.tmp 7),24,_,#[],none⟩ ?_ ?_ ?_
    rotate_left
    · (intro w hSw; (try dsimp only at hSw); go_simp; try with_reducible rfl)
    simp only [Act.put,List.setIfInBounds_toArray,List.set_cons_zero,List.set_cons_succ]
    refine tkH 1 ⟨some 87,.fieldAddr 28 (.tmp 1) 1,0,_,#[],none⟩ ?_ ?_ ?_
    rotate_left
    · (intro w hSw; (try dsimp only at hSw); go_simp; try with_reducible rfl)
    simp only [Act.put,List.setIfInBounds_toArray,List.set_cons_zero,List.set_cons_succ]
    refine tkH 2 ⟨some 88,.load 3 (.tmp 87),3,_,#[⟨1,.data⟩],none⟩ ?_ ?_ ?_
    rotate_left
    · (intro w hSw; (try dsimp only at hSw); go_simp; try with_reducible rfl)
    simp only [Act.put,List.setIfInBounds_toArray,List.set_cons_zero,List.set_cons_succ]
    refine tkH 3 ⟨some 89,.binOp BinOp.eql 3 (.tmp 88) (.const (Value.int IntKind.i64 42)) 3,4,_,#[⟨2,.data⟩],none⟩ ?_ ?_ ?_
    rotate_left
    · (intro w hSw; (try dsimp only at hSw); go_simp; try with_reducible rfl)
    simp only [Act.put,List.setIfInBounds_toArray,List.set_cons_zero,List.set_cons_succ]
    refine tkH 4 ⟨some 90,.move (.tmp 89),4,_,#[⟨3,.data⟩],none⟩ ?_ ?_ ?_
    rotate_left
    · (intro w hSw; (try dsimp only at hSw); go_simp; try with_reducible rfl)
    simp only [Act.put,List.setIfInBounds_toArray,List.set_cons_zero,List.set_cons_succ]
    refine tkH 5 ⟨some 91,.fieldAddr 28 (.tmp 1) 1,0,_,#[⟨4,.guard⟩],some (4,false)⟩ ?_ ?_ ?_
    rotate_left
    · (intro w hSw; (try dsimp only at hSw); go_simp; try with_reducible rfl)
    simp only [Act.put,List.setIfInBounds_toArray,List.set_cons_zero,List.set_cons_succ]
    refine tkH 6 ⟨some 92,.load 3 (.tmp 91),3,_,#[⟨5,.data⟩,⟨4,.guard⟩],some (4,false)⟩ ?_ ?_ ?_
    rotate_left
    · (intro w hSw; (try dsimp only at hSw); go_simp; try with_reducible rfl)
    simp only [Act.put,List.setIfInBounds_toArray,List.set_cons_zero,List.set_cons_succ]
    refine tkH 7 ⟨some 93,.binOp BinOp.eql 3 (.tmp 92) (.const (Value.int IntKind.i64 44)) 3,4,_,#[⟨6,.data⟩,⟨4,.guard⟩],some (4,false)⟩ ?_ ?_ ?_
    rotate_left
    · (intro w hSw; (try dsimp only at hSw); go_simp; try with_reducible rfl)
    simp only [Act.put,List.setIfInBounds_toArray,List.set_cons_zero,List.set_cons_succ]
    refine tkH 8 ⟨some 94,.pick (.tmp 90) (.const (Value.bool true)) (.tmp 93),4,_,#[⟨4,.data⟩,⟨7,.data⟩],none⟩ ?_ ?_ ?_
    rotate_left
    · (intro w hSw; (try dsimp only at hSw); go_simp; try with_reducible rfl)
    simp only [Act.put,List.setIfInBounds_toArray,List.set_cons_zero,List.set_cons_succ]
    refine tkH 11 ⟨some 97,.fieldAddr 28 (.tmp 1) 1,0,_,#[],none⟩ ?_ ?_ ?_
    rotate_left
    · (intro w hSw; (try dsimp only at hSw); go_simp; try with_reducible rfl)
    simp only [Act.put,List.setIfInBounds_toArray,List.set_cons_zero,List.set_cons_succ]
    refine tkH 12 ⟨some 98,.load 3 (.tmp 97),3,_,#[⟨11,.data⟩],none⟩ ?_ ?_ ?_
    rotate_left
    · (intro w hSw; (try dsimp only at hSw); go_simp; try with_reducible rfl)
    simp only [Act.put,List.setIfInBounds_toArray,List.set_cons_zero,List.set_cons_succ]
    refine tkH 13 ⟨some 99,.binOp BinOp.geq 3 (.tmp 98) (.const (Value.int IntKind.i64 41)) 3,4,_,#[⟨12,.data⟩],none⟩ ?_ ?_ ?_
    rotate_left
    · (intro w hSw; (try dsimp only at hSw); go_simp; try with_reducible rfl)
    simp only [Act.put,List.setIfInBounds_toArray,List.set_cons_zero,List.set_cons_succ]
    refine wpAnyH_ready (rs:=[9]) (by kernel_rfl) (by simp) ?_
    refine AllReadyH.cons (o:=⟨some 95,.call ⟨.value (.func 38),#[.tmp 94,.const (Value.int IntKind.i64 14)],#[4,3]⟩,24,_,#[⟨8,.data⟩,⟨4,.chain⟩],none⟩) rfl (fun K hK=> ?_) AllReadyH.nil
    go_simp
    go_at_call 38; refine (HO.out _ _ _ (by decide)).mono ?_; rintro e wo ⟨rfl,rfl⟩
    refine hK.out _ _ ?_ (fun hHeld=> ?_)
    · with_reducible exact K2.out
    clear hK K
    try simp only [Act.put,List.setIfInBounds_toArray,List.set_cons_zero,List.set_cons_succ]
    refine tkH 10 ⟨some 96,.binOp BinOp.or 24 (.tmp 86) (.tmp 95) 24,24,_,#[⟨0,.data⟩,⟨9,.data⟩],none⟩ ?_ ?_ ?_
    rotate_left
    · (intro w hSw; (try dsimp only at hSw); go_simp; try with_reducible rfl)
    simp only [Act.put,List.setIfInBounds_toArray,List.set_cons_zero,List.set_cons_succ]
    refine tkH 14 ⟨some 100,.move (.tmp 99),4,_,#[⟨13,.data⟩,⟨9,.chain⟩],none⟩ ?_ ?_ ?_
    rotate_left
    · (intro w hSw; (try dsimp only at hSw); go_simp; try with_reducible rfl)
    simp only [Act.put,List.setIfInBounds_toArray,List.set_cons_zero,List.set_cons_succ]
    refine wpAnyH_take (i:=15) (oi:=⟨some 101,.fieldAddr 28 (.tmp 1) 1,0,_,#[⟨14,.guard⟩],some (14,true)⟩) (v:=undef) rfl (by kernel_rfl) (by kernel_rfl) (by kernel_rfl) (fun _ _ _ h=>h) (Or.inr ⟨by rfl,rfl⟩) (by assumption) ?_
    simp only [Act.put,List.setIfInBounds_toArray,List.set_cons_zero,List.set_cons_succ]
    refine wpAnyH_take (i:=16) (oi:=⟨some 102,.load 3 (.tmp 101),3,_,#[⟨15,.data⟩,⟨14,.guard⟩],some (14,true)⟩) (v:=undef) rfl (by kernel_rfl) (by kernel_rfl) (by kernel_rfl) (fun _ _ _ h=>h) (Or.inr ⟨by rfl,rfl⟩) (by assumption) ?_
    simp only [Act.put,List.setIfInBounds_toArray,List.set_cons_zero,List.set_cons_succ]
    refine wpAnyH_take (i:=17) (oi:=⟨some 103,.binOp BinOp.leq 3 (.tmp 102) (.const (Value.int IntKind.i64 44)) 3,4,_,#[⟨16,.data⟩,⟨14,.guard⟩],some (14,true)⟩) (v:=undef) rfl (by kernel_rfl) (by kernel_rfl) (by kernel_rfl) (fun _ _ _ h=>h) (Or.inr ⟨by rfl,rfl⟩) (by assumption) ?_
    simp only [Act.put,List.setIfInBounds_toArray,List.set_cons_zero,List.set_cons_succ]
    refine tkH 18 ⟨some 104,.pick (.tmp 100) (.tmp 103) (.const (Value.bool false)),4,_,#[⟨14,.data⟩,⟨17,.data⟩],none⟩ ?_ ?_ ?_
    rotate_left
    · (intro w hSw; (try dsimp only at hSw); go_simp; try with_reducible rfl)
    simp only [Act.put,List.setIfInBounds_toArray,List.set_cons_zero,List.set_cons_succ]
    refine wpAnyH_ready (rs:=[19]) (by kernel_rfl) (by simp) ?_
    refine AllReadyH.cons (o:=⟨some 105,.call ⟨.value (.func 38),#[.tmp 104,.const (Value.int IntKind.i64 15)],#[4,3]⟩,24,_,#[⟨18,.data⟩,⟨14,.chain⟩],none⟩) rfl (fun K hK=> ?_) AllReadyH.nil
    go_simp
    go_at_call 38; refine (HO.out _ _ _ (by decide)).mono ?_; rintro e wo ⟨rfl,rfl⟩
    refine hK.out _ _ ?_ (fun hHeld=> ?_)
    · with_reducible exact K2.out
    clear hK K
    try simp only [Act.put,List.setIfInBounds_toArray,List.set_cons_zero,List.set_cons_succ]
    refine tkH 20 ⟨some 106,.binOp BinOp.or 24 (.tmp 96) (.tmp 105) 24,24,_,#[⟨10,.data⟩,⟨19,.data⟩],none⟩ ?_ ?_ ?_
    rotate_left
    · (intro w hSw; (try dsimp only at hSw); go_simp; try with_reducible rfl)
    simp only [Act.put,List.setIfInBounds_toArray,List.set_cons_zero,List.set_cons_succ]
    refine tkH 21 ⟨some 7,.assign (.tmp 106),24,_,#[⟨20,.data⟩,⟨19,.chain⟩,⟨0,.phase⟩,⟨1,.phase⟩,⟨2,.phase⟩,⟨3,.phase⟩,⟨4,.phase⟩,⟨5,.phase⟩,⟨6,.phase⟩,⟨7,.phase⟩,⟨8,.phase⟩,⟨9,.phase⟩,⟨10,.phase⟩,⟨11,.phase⟩,⟨12,.phase⟩,⟨13,.phase⟩,⟨14,.phase⟩,⟨15,.phase⟩,⟨16,.phase⟩,⟨17,.phase⟩,⟨18,.phase⟩,⟨19,.phase⟩,⟨20,.phase⟩],none⟩ ?_ ?_ ?_
    rotate_left
    · (intro w hSw; (try dsimp only at hSw); go_simp; try with_reducible rfl)
    simp only [Act.put,List.setIfInBounds_toArray,List.set_cons_zero,List.set_cons_succ]
    refine wpAnyH_done (by kernel_rfl) ?_ _
    obtain ⟨m1,m4,m5,m8,m12,m14,m15⟩:=ax_cells HB.out
    go_wp2
    exact bodyPost_ret (by simp [results,Tryd.results19,go_sem,Act.put]) rfl ⟨rfl,HB.out.bel⟩
end Go.Proofs.YtkmgmmmpiallhaaDoor
