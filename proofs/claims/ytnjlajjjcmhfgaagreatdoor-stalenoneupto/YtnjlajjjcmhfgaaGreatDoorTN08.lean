import Derived.Test.YtnjlajjjcmhfgaaGreatDoorTN07
import Derived.Test.YtnjlajjjcmhfgaaGreatDoorTA31
import Derived.Test.YtnjlajjjcmhfgaaGreatDoorTA34
namespace Go.Proofs.YtnjlajjjcmhfgaaGreatDoor
open Go.RowKit
open List (setIfInBounds_toArray set_cons_zero set_cons_succ)
open Mm (Turn gr RM valV errV Byts setV RowAt)
set_option linter.unusedVariables false
set_option linter.unusedSimpArgs false
attribute [local go_sem] Oper.semAt_some
set_option maxRecDepth 1000000 in
set_option maxHeartbeats 16000000 in
theorem law_none (W:World) (hT:TS W) (hD:TSd W) (f:Int) (vp vw vc:Value) (pas ws:List Int) (cs:List Ctx) (hs:Scn W vp vw vc pas ws cs) (vs:Value) (ops:List Oq) (hv:Sli encQ 9 W vs ops) (ho:∀o∈ops,o.Ok) (hbk:pas.length+11*ops.length≤1048576) :
    Calls Tryz.prog 6 #[.agg #[.int .i64 f,vp,vw,vc],vs] W fun e w'=>e= .returned (.bool true)∧Below W.heap.size W w':=by
  have hsm:=hs.small f ho hbk
  have HS:=hidW hsm
  have HKL:Hid (((Pst.first f (pas.zip ws)).run cs ops).K.length≤400000000000):=by
    have:=(hs.cnt f ho).len
    show ((Pst.first f (pas.zip ws)).run cs ops).K.length≤400000000000
    omega
  have hb0:Below W.heap.size W (W.alloc (.cells #[.int .i64 f,vp,vw,vc] 26)):=below_new _ _
  have HSt:=hidW (stage_any _ (hT.below hb0) f vp vw vc pas ws cs (hs.below hb0) vs ops (hv.below hb0) ho (by omega))
  have HB0:=hidW hb0
  have HDs:=hidW (hD.below hb0)
  obtain ⟨ap,cp,rfl⟩:=hs.p.form
  obtain ⟨aw,cw,rfl⟩:=hs.w.form
  obtain ⟨ac,cc,rfl⟩:=hs.c.form
  obtain ⟨av,cv,rfl⟩:=hv.form
  clear hT hD hs hv ho hb0 hbk hsm
  generalize (Pst.first f (pas.zip ws)).run cs ops=σ at *
  go_enter Tryz.func6,Tryz.ntmps6
  go_wp2_with fail
  generalize W.alloc (.cells #[.int .i64 f,.slice ap pas.length cp,.slice aw ws.length cw,.slice ac cs.length cc] 26)=W0 at *
  go_at_call 9
  refine HSt.out.mono ?_
  rintro e w1 ⟨x,p,kb,jb,wv,iv,rfl,hx⟩
  have HX:=hidW hx
  have HLv:=hidW (live_any w1 hx.ts)
  clear hx HSt
  go_wp2_with (first
    | (go_at_call 10; refine HLv.out.mono ?_; rintro e w2 ⟨rfl,gl⟩; have HX2:=hidW (HX.out.below gl); clear gl))
  have HXd:=hidW (HX2.out.below (below_drew (Below.refl _ w2)))
  have HJ:=hidW (And.intro (HXd.out.box.cell 4) (HXd.out.box.cell 5))
  simp only [List.getElem?_cons_succ,List.getElem?_cons_zero] at HJ
  refine wp_region_held_drew (S:=fun ww=>ww.cell? ⟨x,4,none⟩=some (.pointer (some ⟨p,0,none⟩))∧ww.cell? ⟨x,5,none⟩=some iv) (by kernel_rfl) ?_ (fun hHeld=> ?_)
  · exact HJ.out
  refine wpAnyH_take (i:=0) (oi:=⟨some 24,.move (.tmp 5),28,_,#[],none⟩) (v:=?_) rfl (by kernel_rfl) (by kernel_rfl) (by kernel_rfl) (fun _ _ _ h=>h) (Or.inl ⟨by rfl,?_⟩) (by assumption) ?_
  rotate_left
  · (intro w hSw; (try dsimp only at hSw); go_simp; try with_reducible rfl)
  simp only [Act.put,setIfInBounds_toArray,set_cons_zero,set_cons_succ]
  refine wpAnyH_take (i:=1) (oi:=⟨some 25,.nilCheck (.tmp 24),0,_,#[⟨0,.data⟩],none⟩) (v:=?_) rfl (by kernel_rfl) (by kernel_rfl) (by kernel_rfl) (fun _ _ _ h=>h) (Or.inl ⟨by rfl,?_⟩) (by assumption) ?_
  rotate_left
  · (intro w hSw; (try dsimp only at hSw); go_simp; try with_reducible rfl)
  simp only [Act.put,setIfInBounds_toArray,set_cons_zero,set_cons_succ]
  refine wpAnyH_take (i:=2) (oi:=⟨some 26,.fieldAddr 54 (.tmp 25) 1,0,_,#[⟨1,.data⟩],none⟩) (v:=?_) rfl (by kernel_rfl) (by kernel_rfl) (by kernel_rfl) (fun _ _ _ h=>h) (Or.inl ⟨by rfl,?_⟩) (by assumption) ?_
  rotate_left
  · (intro w hSw; (try dsimp only at hSw); go_simp; try with_reducible rfl)
  simp only [Act.put,setIfInBounds_toArray,set_cons_zero,set_cons_succ]
  refine wpAnyH_take (i:=3) (oi:=⟨some 27,.load 49 (.tmp 26),49,_,#[⟨2,.data⟩],none⟩) (v:=?_) rfl (by kernel_rfl) (by kernel_rfl) (by kernel_rfl) (fun _ _ _ h=>h) (Or.inl ⟨by rfl,?_⟩) (by assumption) ?_
  rotate_left
  · (intro w hSw; (try dsimp only at hSw); go_simp; try with_reducible rfl)
  simp only [Act.put,setIfInBounds_toArray,set_cons_zero,set_cons_succ]
  refine wpAnyH_take (i:=4) (oi:=⟨some 28,.move (.tmp 5),28,_,#[],none⟩) (v:=?_) rfl (by kernel_rfl) (by kernel_rfl) (by kernel_rfl) (fun _ _ _ h=>h) (Or.inl ⟨by rfl,?_⟩) (by assumption) ?_
  rotate_left
  · (intro w hSw; (try dsimp only at hSw); go_simp; try with_reducible rfl)
  simp only [Act.put,setIfInBounds_toArray,set_cons_zero,set_cons_succ]
  refine wpAnyH_take (i:=5) (oi:=⟨some 29,.nilCheck (.tmp 28),0,_,#[⟨4,.data⟩],none⟩) (v:=?_) rfl (by kernel_rfl) (by kernel_rfl) (by kernel_rfl) (fun _ _ _ h=>h) (Or.inl ⟨by rfl,?_⟩) (by assumption) ?_
  rotate_left
  · (intro w hSw; (try dsimp only at hSw); go_simp; try with_reducible rfl)
  simp only [Act.put,setIfInBounds_toArray,set_cons_zero,set_cons_succ]
  refine wpAnyH_take (i:=6) (oi:=⟨some 30,.fieldAddr 54 (.tmp 29) 2,0,_,#[⟨5,.data⟩],none⟩) (v:=?_) rfl (by kernel_rfl) (by kernel_rfl) (by kernel_rfl) (fun _ _ _ h=>h) (Or.inl ⟨by rfl,?_⟩) (by assumption) ?_
  rotate_left
  · (intro w hSw; (try dsimp only at hSw); go_simp; try with_reducible rfl)
  simp only [Act.put,setIfInBounds_toArray,set_cons_zero,set_cons_succ]
  refine wpAnyH_take (i:=7) (oi:=⟨some 31,.load 51 (.tmp 30),51,_,#[⟨6,.data⟩],none⟩) (v:=?_) rfl (by kernel_rfl) (by kernel_rfl) (by kernel_rfl) (fun _ _ _ h=>h) (Or.inl ⟨by rfl,?_⟩) (by assumption) ?_
  rotate_left
  · (intro w hSw; (try dsimp only at hSw); go_simp; try with_reducible rfl)
  simp only [Act.put,setIfInBounds_toArray,set_cons_zero,set_cons_succ]
  refine wpAnyH_ready (rs:=[8]) (by kernel_rfl) (by simp) ?_
  refine AllReadyH.cons (o:=⟨some 32,.call ⟨.value (.func 13),#[.tmp 27,.tmp 31],#[49,51]⟩,48,_,#[⟨3,.data⟩,⟨7,.data⟩],none⟩) rfl (fun K hK=> ?_) AllReadyH.nil
  go_simp
  (go_at_call 13; refine (HXd.out.tk.dirty HS.out.dirty).mono ?_; rintro e w3 ⟨vd,rfl,hLd,gd⟩; have HSd:=hidW (Sli.of (k:=10) (fun _=>rfl) hLd); obtain ⟨aD,cD,rfl⟩:=hLd.form; have HX3:=hidW (HXd.out.below gd); have HJ:=hidW (And.intro (HX3.out.box.cell 4) (HX3.out.box.cell 5)); simp only [List.getElem?_cons_succ,List.getElem?_cons_zero] at HJ; clear gd hLd)
  refine hK.out _ _ ?_ (fun hHeld=> ?_)
  · ((try dsimp only); with_reducible exact HJ.out)
  clear hK K
  try simp only [Act.put,setIfInBounds_toArray,set_cons_zero,set_cons_succ]
  refine wpAnyH_take (i:=9) (oi:=⟨some 6,.assign (.tmp 32),48,_,#[⟨8,.data⟩,⟨8,.chain⟩,⟨0,.phase⟩,⟨1,.phase⟩,⟨2,.phase⟩,⟨3,.phase⟩,⟨4,.phase⟩,⟨5,.phase⟩,⟨6,.phase⟩,⟨7,.phase⟩,⟨8,.phase⟩],none⟩) (v:=?_) rfl (by kernel_rfl) (by kernel_rfl) (by kernel_rfl) (fun _ _ _ h=>h) (Or.inl ⟨by rfl,?_⟩) (by assumption) ?_
  rotate_left
  · (intro w hSw; (try dsimp only at hSw); go_simp; try with_reducible rfl)
  simp only [Act.put,setIfInBounds_toArray,set_cons_zero,set_cons_succ]
  refine wpAnyH_done (by kernel_rfl) ?_ _
  have hnd:(diL σ.mem.mo σ.K σ.J).length≤4611686018427387904:=by have:=HS.out.dirty; omega
  clear HJ hHeld HXd HX2 HX HLv
  go_wp2_with fail
  refine no_all W0 w3 x p kb jb wv iv f _ _ _ σ _ cD aD HX3.out HS.out (HDs.out.below HX3.out.bel) HKL.out HSd.out rfl hnd (fun {_ _ d _ _} h=>by cases d <;>exact h) (hidW ?_)
  intros
  rename_i w4 hb4
  have HB4:=hidW (Below.step HB0.out (HX3.out.below hb4).bel)
  clear hb4
  go_wp2
  go_ret
  exact ⟨rfl,HB4.out⟩
end Go.Proofs.YtnjlajjjcmhfgaaGreatDoor
