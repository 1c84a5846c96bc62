import Derived.Test.YtkmgmmmpiallhaaDoorRz
import Derived.Test.YtkmgmmmpiallhaaDoorGu
namespace Go.Proofs.YtkmgmmmpiallhaaDoor
open Go.RowKit
set_option linter.unusedVariables false
set_option linter.unusedSimpArgs false
theorem BX.drewT {W w:World} {I:List Value} (h:BX W I w):BX W I w.drew:=h.step (below_drew (Below.refl _ _))
set_option maxRecDepth 100000 in
set_option maxHeartbeats 1000000 in
theorem law_touches (i:Ins) (w:World) (ht:TP w) (hi:IOk i):Calls Tryd.prog 8 #[.agg (insA i)] w fun e w'=>e= .returned (.bool true)∧Below w.heap.size w w':=by
  show Calls Tryd.prog 8 #[.agg (insL i).toArray] w fun e w'=>e= .returned (.bool true)∧Below w.heap.size w w'
  have HG:Hid (∀w',TP w'→Calls Tryd.prog 13 #[.agg (insL i).toArray] w' fun e w''=>e= .returned (.int .u16 ((readsJ i:Nat):Int))∧Below w'.heap.size w' w''):=fun w' h=>by
    rw [←reads_eq]; exact greads_any i w' h hi
  have HJ:Hid (∀w',Calls Tryd.prog 18 #[.agg (insL i).toArray] w' fun e w''=>e= .returned (.int .u16 ((readsJ i:Nat):Int))∧Below w'.heap.size w' w''):=fun w'=>jreads_any i w' hi
  have HGW:Hid (∀w',TP w'→Calls Tryd.prog 14 #[.agg (insL i).toArray] w' fun e w''=>e= .returned (.int .u16 ((writesJ i:Nat):Int))∧Below w'.heap.size w' w''):=fun w' h=>by
    rw [←writes_eq]; exact gwrites_any i w' h hi
  have HJW:Hid (∀w',Calls Tryd.prog 19 #[.agg (insL i).toArray] w' fun e w''=>e= .returned (.int .u16 ((writesJ i:Nat):Int))∧Below w'.heap.size w' w''):=fun w'=>jwrites_any i w' hi
  have HB0:=hidW (BX.first ht (insL i))
  have HS1:Hid ((Tryd.prog.info? 28).map (·.size)=some (insL i).length):=ins_size
  clear hi ht
  generalize ((readsJ i:Nat):Int)=X at *
  generalize ((writesJ i:Nat):Int)=Y at *
  generalize insL i=II at *
  go_enter Tryd.func8,Tryd.ntmps8
  go_wp2
  have HB:=hidW HB0.out.drewT
  have K1:=HB.out.ins.range
  refine wp_region_held_drew (S:=fun w'=>w'.rangeAt w.heap.size 0 II) (by kernel_rfl) K1 (fun hHeld=> ?_)
  clear hHeld HB0
  have K2:=hidW K1
  clear K1
  refine wpAnyH_take (i:=0) (oi:=⟨some 3,.load 28 (.tmp 1),28,_,#[],none⟩) (v:=_) rfl (by kernel_rfl) (by kernel_rfl) (by kernel_rfl) (fun _ _ _ h=>h) (yieldsIf_load_mid (by rfl) _ _ rfl w.heap.size 0 rfl _ _ (fun _ h=>h) Tryd.underlying28 rfl HS1.out) (by assumption) ?_
  simp only [Act.put,List.setIfInBounds_toArray,List.set_cons_zero,List.set_cons_succ]
  refine wpAnyH_take (i:=2) (oi:=⟨some 5,.load 28 (.tmp 1),28,_,#[],none⟩) (v:=_) rfl (by kernel_rfl) (by kernel_rfl) (by kernel_rfl) (fun _ _ _ h=>h) (yieldsIf_load_mid (by rfl) _ _ rfl w.heap.size 0 rfl _ _ (fun _ h=>h) Tryd.underlying28 rfl HS1.out) (by assumption) ?_
  simp only [Act.put,List.setIfInBounds_toArray,List.set_cons_zero,List.set_cons_succ]
  refine wpAnyH_ready (rs:=[1]) (by kernel_rfl) (by simp) ?_
  refine AllReadyH.cons (o:=⟨some 4,.call ⟨.value (.func 13),#[.tmp 3],#[28]⟩,24,_,#[⟨0,.data⟩],none⟩) rfl (fun K hK=> ?_) AllReadyH.nil
  go_simp
  go_at_call 13; refine (HG.out _ HB.out.tp).mono ?_; rintro e w1 ⟨rfl,hb⟩; have HB:=hidW (HB.out.step hb); have K2:=hidW HB.out.ins.range; clear hb
  refine hK.out _ _ ?_ (fun hHeld=> ?_)
  · with_reducible exact K2.out
  clear hK K
  try simp only [Act.put,List.setIfInBounds_toArray,List.set_cons_zero,List.set_cons_succ]
  refine wpAnyH_ready (rs:=[3]) (by kernel_rfl) (by simp) ?_
  refine AllReadyH.cons (o:=⟨some 6,.call ⟨.value (.func 18),#[.tmp 5],#[28]⟩,24,_,#[⟨2,.data⟩,⟨1,.chain⟩],none⟩) rfl (fun K hK=> ?_) AllReadyH.nil
  go_simp
  go_at_call 18; refine (HJ.out _).mono ?_; rintro e w2 ⟨rfl,hb⟩; have HB:=hidW (HB.out.step hb); have K2:=hidW HB.out.ins.range; clear hb
  refine hK.out _ _ ?_ (fun hHeld=> ?_)
  · with_reducible exact K2.out
  clear hK K
  try simp only [Act.put,List.setIfInBounds_toArray,List.set_cons_zero,List.set_cons_succ]
  refine tkH 4 ⟨some 7,.binOp BinOp.eql 24 (.tmp 4) (.tmp 6) 24,4,_,#[⟨1,.data⟩,⟨3,.data⟩],none⟩ ?_ ?_ ?_
  rotate_left
  · (intro w hSw; (try dsimp only at hSw); go_simp; try with_reducible rfl)
  simp only [Act.put,List.setIfInBounds_toArray,List.set_cons_zero,List.set_cons_succ]
  refine tkH 5 ⟨some 8,.move (.tmp 7),4,_,#[⟨4,.data⟩,⟨3,.chain⟩],none⟩ ?_ ?_ ?_
  rotate_left
  · (intro w hSw; (try dsimp only at hSw); go_simp; try with_reducible rfl)
  simp only [Act.put,List.setIfInBounds_toArray,List.set_cons_zero,List.set_cons_succ]
  refine wpAnyH_take (i:=6) (oi:=⟨some 9,.load 28 (.tmp 1),28,_,#[⟨5,.guard⟩],some (5,true)⟩) (v:=_) rfl (by kernel_rfl) (by kernel_rfl) (by kernel_rfl) (fun _ _ _ h=>h) (yieldsIf_load_mid (by rfl) _ _ rfl w.heap.size 0 rfl _ _ (fun _ h=>h) Tryd.underlying28 rfl HS1.out) (by assumption) ?_
  simp only [Act.put,List.setIfInBounds_toArray,List.set_cons_zero,List.set_cons_succ]
  refine wpAnyH_take (i:=8) (oi:=⟨some 11,.load 28 (.tmp 1),28,_,#[⟨5,.guard⟩],some (5,true)⟩) (v:=_) rfl (by kernel_rfl) (by kernel_rfl) (by kernel_rfl) (fun _ _ _ h=>h) (yieldsIf_load_mid (by rfl) _ _ rfl w.heap.size 0 rfl _ _ (fun _ h=>h) Tryd.underlying28 rfl HS1.out) (by assumption) ?_
  simp only [Act.put,List.setIfInBounds_toArray,List.set_cons_zero,List.set_cons_succ]
  refine wpAnyH_ready (rs:=[7]) (by kernel_rfl) (by simp) ?_
  refine AllReadyH.cons (o:=⟨some 10,.call ⟨.value (.func 14),#[.tmp 9],#[28]⟩,24,_,#[⟨6,.data⟩,⟨5,.chain⟩,⟨5,.guard⟩],some (5,true)⟩) rfl (fun K hK=> ?_) AllReadyH.nil
  go_simp
  go_at_call 14; refine (HGW.out _ HB.out.tp).mono ?_; rintro e w3 ⟨rfl,hb⟩; have HB:=hidW (HB.out.step hb); have K2:=hidW HB.out.ins.range; clear hb
  refine hK.out _ _ ?_ (fun hHeld=> ?_)
  · with_reducible exact K2.out
  clear hK K
  try simp only [Act.put,List.setIfInBounds_toArray,List.set_cons_zero,List.set_cons_succ]
  refine wpAnyH_ready (rs:=[9]) (by kernel_rfl) (by simp) ?_
  refine AllReadyH.cons (o:=⟨some 12,.call ⟨.value (.func 19),#[.tmp 11],#[28]⟩,24,_,#[⟨8,.data⟩,⟨7,.chain⟩,⟨5,.guard⟩],some (5,true)⟩) rfl (fun K hK=> ?_) AllReadyH.nil
  go_simp
  go_at_call 19; refine (HJW.out _).mono ?_; rintro e w4 ⟨rfl,hb⟩; have HB:=hidW (HB.out.step hb); have K2:=hidW HB.out.ins.range; clear hb
  refine hK.out _ _ ?_ (fun hHeld=> ?_)
  · with_reducible exact K2.out
  clear hK K
  try simp only [Act.put,List.setIfInBounds_toArray,List.set_cons_zero,List.set_cons_succ]
  refine tkH 10 ⟨some 13,.binOp BinOp.eql 24 (.tmp 10) (.tmp 12) 24,4,_,#[⟨7,.data⟩,⟨9,.data⟩,⟨5,.guard⟩],some (5,true)⟩ ?_ ?_ ?_
  rotate_left
  · (intro w hSw; (try dsimp only at hSw); go_simp; try with_reducible rfl)
  simp only [Act.put,List.setIfInBounds_toArray,List.set_cons_zero,List.set_cons_succ]
  refine tkH 11 ⟨some 14,.pick (.tmp 8) (.tmp 13) (.const (Value.bool false)),4,_,#[⟨5,.data⟩,⟨10,.data⟩],none⟩ ?_ ?_ ?_
  rotate_left
  · (intro w hSw; (try dsimp only at hSw); go_simp; try with_reducible rfl)
  simp only [Act.put,List.setIfInBounds_toArray,List.set_cons_zero,List.set_cons_succ]
  refine tkH 12 ⟨some 2,.assign (.tmp 14),4,_,#[⟨11,.data⟩,⟨9,.chain⟩,⟨0,.phase⟩,⟨1,.phase⟩,⟨2,.phase⟩,⟨3,.phase⟩,⟨4,.phase⟩,⟨5,.phase⟩,⟨6,.phase⟩,⟨7,.phase⟩,⟨8,.phase⟩,⟨9,.phase⟩,⟨10,.phase⟩,⟨11,.phase⟩],none⟩ ?_ ?_ ?_
  rotate_left
  · (intro w hSw; (try dsimp only at hSw); go_simp; try with_reducible rfl)
  simp only [Act.put,List.setIfInBounds_toArray,List.set_cons_zero,List.set_cons_succ]
  refine wpAnyH_done (by kernel_rfl) ?_ _
  go_wp2
  exact bodyPost_ret (v:= .bool true) (by simp [results,Tryd.results8,go_sem]) rfl ⟨rfl,HB.out.bel⟩
end Go.Proofs.YtkmgmmmpiallhaaDoor
