import Derived.Test.YtnjlajjjcmhfgaaGreatDoorTA32
namespace Go.Proofs.YtnjlajjjcmhfgaaGreatDoor
open Go.RowKit
open Mm (Turn gr RM valV errV Byts setV RowAt)
set_option linter.unusedVariables false
set_option linter.unusedSimpArgs false
attribute [local go_sem] Oper.semAt_some
theorem ex_see:(⟨[],fun _=>none,.ram 16 mE⟩:Pst).see cE=⟨KE,JE,.ram 16 mE⟩:=by
  unfold Pst.see
  rw [if_pos (by decide)]
  show (⟨seK ME cE [],JE,.ram 16 mE⟩:Pst)=_
  rw [ex_seK]
theorem LtG.full {α:Type} {enc:α→List Value} {T:TypeId} {w:World} {lo:Nat} {v:Value} {x:α} {L:List α} (h:LtG enc T w lo v (x::L)):∃g cap rest,v= .slice (some ⟨g,0,none⟩) (L.length+1) cap∧lo≤g∧RowAt w g T (rowG enc (x::L)++rest):=by
  obtain ⟨a,cap,rfl,h⟩:=h
  rcases h with h|⟨g,rest,rfl,h1,h2⟩
  · cases h
  · exact ⟨g,cap,rest,rfl,h1,h2⟩
theorem LtG.nil {α:Type} {enc:α→List Value} {T:TypeId} {w:World} {lo:Nat} {v:Value} (h:LtG enc T w lo v ([]:List α)):∃a cap,v= .slice a 0 cap:=by
  obtain ⟨a,cap,rfl,h⟩:=h
  exact ⟨a,cap,rfl⟩
set_option maxRecDepth 100000 in
set_option maxHeartbeats 8000000 in
theorem live_any (W:World) (hT:TS W):Calls Tryz.prog 10 #[] W fun e w'=>e= .returned (.bool true)∧Below W.heap.size W w':=by
  have HT:=hidW hT
  have HE:=hidW (example_any W)
  have HN:=hidW (fun w=>no_any 0 w)
  have heq:=eqB bS bS
  rw [(Blo.same_iff bS bS).2 rfl] at heq
  simp only [bS,exS] at heq
  clear hT
  simp only [cE] at HE
  go_enter Tryz.func10,Tryz.ntmps10
  go_wp2_with fail
  go_at_call 42
  refine HE.out.mono ?_
  rintro e w1 ⟨r,S,rfl,g1,g2,g3⟩
  have HM:=hidW g1
  have HS:=hidW g2
  have HB:=hidW g3
  clear g1 g2 g3 HE
  go_wp2_with fail
  go_at_call 40
  refine (knew_any _).mono ?_
  rintro e w3 ⟨rfl,g1,g2⟩
  have cc:=(g2.block w1.heap.size (by simp)).trans (MapKept.heap_alloc w1 _).1
  generalize hq:(w1.alloc (.cells #[.bool true,.bool false,.bool false,.int .i64 2,.bool false,.bool false,.int .u64 16384,.int .u64 131072,.int .u32 5,.int .u32 0,.int .u32 0,.int .i64 7] 47)).heap.size=q at *
  have hq':q=w1.heap.size+1:=by rw [←hq]; simp
  have HX:Hid (TkX (fun b=>b=w1.heap.size) W w3 (q+2) q (q+1) (.pointer (some ⟨r,0,none⟩)) (.iface 52 (.pointer (some ⟨r,0,none⟩))) ⟨[],fun _=>none,.ram 16 mE⟩):=by
    have b1:Below w1.heap.size w1 w3:=Below.step (below_new w1 _) (hq.symm▸g2)
    have z1:=HB.out.size
    have z3:=g1.lt
    refine ⟨g1,⟨S,⟨r,rfl,rfl,HM.out.keep (S':=fun _=>False) (Turn.below b1) (fun _ _ h=>h)⟩,fun b hb=> ?_⟩,⟨by omega,by omega,by omega⟩,HT.out.below (Below.step HB.out b1),Below.step HB.out b1,fun b hb=> ?_⟩
    · have l1:=HM.out.low b hb
      have l2:=HS.out b hb
      exact ⟨by omega,by omega,by omega,by omega,by omega⟩
    · subst hb
      exact ⟨by omega,by omega,by omega⟩
  have HBx:Hid (Bl w3 w1.heap.size 47 [.bool true,.bool false,.bool false,.int .i64 2,.bool false,.bool false,.int .u64 16384,.int .u64 131072,.int .u32 5,.int .u32 0,.int .u32 0,.int .i64 7]):=cc
  have HSee:=hidW (HX.out.see cE cE_ok (by show (0:Nat)≤_; omega))
  rw [if_pos (Or.inl (by decide)),ex_see] at HSee
  simp only [cE] at HSee
  have hcell:=HBx.out.cell
  clear g1 g2 cc hq hq' HM HS HB HX HBx
  go_wp2_with (first
    | (go_at_call 22; refine HSee.out.mono ?_; rintro e w4 ⟨rfl,g1,_⟩; have HX4:=hidW g1; clear g1))
  clear hcell HSee
  refine (HX4.out.known (by show (2:Nat)*56≤_; omega)).mono ?_
  rintro e w5 ⟨v,rfl,hL,hb5⟩
  obtain ⟨g,cap,rest,rfl,hg,hr⟩:=LtG.full hL
  have HX5:Hid (TkX (fun b=>b=g) W w5 (q+2) q (q+1) (.pointer (some ⟨r,0,none⟩)) (.iface 52 (.pointer (some ⟨r,0,none⟩))) ⟨KE,JE,.ram 16 mE⟩):=HX4.out.more hb5 (fun b hb=>by subst hb; exact .inr ⟨hg,hr.lt⟩)
  have HR:=hidW hr
  have k0:w5.cell? ⟨g,0,none⟩=some (.int .i64 (-1)):=hr.cell 0
  have k9:w5.cell? ⟨g,9,none⟩=some (.int .i64 7):=hr.cell 9
  have k11:w5.cell? ⟨g,11,none⟩=some (.int .u32 4096):=hr.cell 11
  have HSt:=hidW (HX5.out.stale 7 4096 (by decide) (by decide))
  rw [show stF (Mst.ram 16 mE).mo KE JE 7 4096=false from (stF_some JE_7).trans ex_st1] at HSt
  have HDi:=hidW (fun ww hb=>(HX5.out.below (w':=ww) hb).dirty (by show (diL ME KE JE).length*64≤_; rw [ex_di1]; decide))
  rw [show diL (Mst.ram 16 mE).mo KE JE=[] from ex_di1] at HDi
  have HPu:=hidW (fun ww hb=>(HX5.out.below (w':=ww) hb).put 20484 0 (by decide) (by decide) HT.out)
  rw [show (⟨KE,JE,(Mst.ram 16 mE).put 20484 0⟩:Pst)=⟨KE,JE,.ram 16 mF⟩ from rfl] at HPu
  clear hL hg hb5 HX4
  simp only [List.length_nil,List.length_cons,Nat.reduceAdd]
  go_wp2_with (first
    | (go_at_call 21; refine (HN.out _).mono ?_; rintro e w6 ⟨rfl,rfl⟩)
    | (go_at_call 30; refine HSt.out.mono ?_; rintro e w6 ⟨rfl,g6⟩; have H6:=hidW g6; clear g6)
    | (go_at_call 13; refine (HDi.out _ H6.out).mono ?_; rintro e w7 ⟨v7,rfl,hL7,g7⟩; obtain ⟨a7,cap7,rfl⟩:=LtG.nil hL7; have H7:=hidW (Below.step H6.out g7); clear g7 hL7)
    | (go_at_call 43; refine (HPu.out _ H7.out).mono ?_; rintro e w8 ⟨rfl,g8,q8⟩; have HX8:=hidW g8; have HR8:Hid (RowAt w8 g 45 (rowG encB [bG,bS]++rest)):=((q8 _ rfl).trans ((H7.out.block g HR.out.lt).trans HR.out)); clear g8 q8))
  clear HDi HPu HSt k0 k9 k11 H6 H7
  refine (HX8.out.dirty (by show (diL MF KE JE).length*64≤_; rw [ex_di2]; decide)).mono ?_
  rw [show diL (Mst.ram 16 mF).mo KE JE=[⟨7,bS⟩] from ex_di2]
  rintro e w9 ⟨v9,rfl,hL,hb9⟩
  obtain ⟨gd,capd,restd,rfl,hgd,hrd⟩:=LtG.full hL
  have hr9:RowAt w9 g 45 (rowG encB [bG,bS]++rest):=(hb9.block g HR8.out.lt).trans HR8.out
  have HX9:Hid (TkX (fun b=>b=g∨b=gd) W w9 (q+2) q (q+1) (.pointer (some ⟨r,0,none⟩)) (.iface 52 (.pointer (some ⟨r,0,none⟩))) ⟨KE,JE,.ram 16 mF⟩):=HX8.out.more hb9 (fun b hb=>by
    rcases hb with rfl|rfl
    · exact .inl rfl
    · exact .inr ⟨hgd,hrd.lt⟩)
  have HH:Hid (∀ww:World,ww.heap[g]? =w9.heap[g]?→ww.heap[gd]? =w9.heap[gd]?→ww.cell? ⟨gd,0,none⟩=some (.int .i64 7)∧ww.cell? ⟨gd,1,none⟩=some (.int .i64 7)∧ww.cell? ⟨gd,2,none⟩=some (.int .i64 1)∧ww.cell? ⟨gd,3,none⟩=some (.int .u32 4096)∧ww.cell? ⟨gd,4,none⟩=some (.int .u64 28672)∧ww.cell? ⟨gd,5,none⟩=some (.int .i64 1)∧ww.cell? ⟨gd,6,none⟩=some (.int .i64 3)∧ww.cell? ⟨gd,7,none⟩=some (.int .u32 6)∧ww.cell? ⟨gd,8,none⟩=some (.bool true)∧ww.cell? ⟨gd,9,none⟩=some (.bool false)∧ww.cell? ⟨g,9,none⟩=some (.int .i64 7)∧ww.cell? ⟨g,10,none⟩=some (.int .i64 1)∧ww.cell? ⟨g,11,none⟩=some (.int .u32 4096)∧ww.cell? ⟨g,12,none⟩=some (.int .u64 28672)∧ww.cell? ⟨g,13,none⟩=some (.int .i64 1)∧ww.cell? ⟨g,14,none⟩=some (.int .i64 3)∧ww.cell? ⟨g,15,none⟩=some (.int .u32 6)∧ww.cell? ⟨g,16,none⟩=some (.bool true)∧ww.cell? ⟨g,17,none⟩=some (.bool false)):=by
    intro ww e1 e2
    have h1:RowAt ww gd 74 (rowG encD [⟨7,bS⟩]++restd):=e2.trans hrd
    have h2:RowAt ww g 45 (rowG encB [bG,bS]++rest):=e1.trans hr9
    exact ⟨h1.cell 0,h1.cell 1,h1.cell 2,h1.cell 3,h1.cell 4,h1.cell 5,h1.cell 6,h1.cell 7,h1.cell 8,h1.cell 9,h2.cell 9,h2.cell 10,h2.cell 11,h2.cell 12,h2.cell 13,h2.cell 14,h2.cell 15,h2.cell 16,h2.cell 17⟩
  have hg9:=hr9.lt
  have hgd9:=hrd.lt
  have HXd:=hidW (HX9.out.below (below_drew (Below.refl _ w9)))
  have HJ:=hidW (HH.out w9.drew rfl rfl)
  have HSt:=hidW (HXd.out.stale 7 8191 (by decide) (by decide))
  rw [show stF (Mst.ram 16 mF).mo KE JE 7 8191=true from (stF_some JE_7).trans ex_st2] at HSt
  have HSu:=hidW (fun ww hb=>(HXd.out.below (w':=ww) hb).stale 8 4096 (by decide) (by decide))
  rw [show stF (Mst.ram 16 mF).mo KE JE 8 4096=false from stF_none JE_8] at HSu
  have HDr:=hidW (fun ww hb=>(HXd.out.below (w':=ww) hb).drop ⟨2,4096,7⟩ (by decide) (by show (2:Nat)≤_; omega))
  rw [show KE.countP (tkF ⟨2,4096,7⟩)=1 from ex_cnt,show drK ⟨2,4096,7⟩ KE=[bG] from ex_drK] at HDr
  clear hL hgd hb9 hr9 hrd HX8 HR8 HX9
  simp only [List.length_nil,List.length_cons,Nat.reduceAdd]
  go_wp2_with fail
  refine wp_region_held_drew (S:=fun ww=>ww.cell? ⟨gd,0,none⟩=some (.int .i64 7)∧ww.cell? ⟨gd,1,none⟩=some (.int .i64 7)∧ww.cell? ⟨gd,2,none⟩=some (.int .i64 1)∧ww.cell? ⟨gd,3,none⟩=some (.int .u32 4096)∧ww.cell? ⟨gd,4,none⟩=some (.int .u64 28672)∧ww.cell? ⟨gd,5,none⟩=some (.int .i64 1)∧ww.cell? ⟨gd,6,none⟩=some (.int .i64 3)∧ww.cell? ⟨gd,7,none⟩=some (.int .u32 6)∧ww.cell? ⟨gd,8,none⟩=some (.bool true)∧ww.cell? ⟨gd,9,none⟩=some (.bool false)∧ww.cell? ⟨g,9,none⟩=some (.int .i64 7)∧ww.cell? ⟨g,10,none⟩=some (.int .i64 1)∧ww.cell? ⟨g,11,none⟩=some (.int .u32 4096)∧ww.cell? ⟨g,12,none⟩=some (.int .u64 28672)∧ww.cell? ⟨g,13,none⟩=some (.int .i64 1)∧ww.cell? ⟨g,14,none⟩=some (.int .i64 3)∧ww.cell? ⟨g,15,none⟩=some (.int .u32 6)∧ww.cell? ⟨g,16,none⟩=some (.bool true)∧ww.cell? ⟨g,17,none⟩=some (.bool false)) (by kernel_rfl) ?_ (fun hHeld=> ?_)
  · exact HJ.out
  refine wpAnyH_take (i:=0) (oi:=⟨some 71,.move (.tmp 6),48,_,#[],none⟩) (v:=?_) rfl (by kernel_rfl) (by kernel_rfl) (by kernel_rfl) (fun _ _ _ h=>h) (Or.inl ⟨by rfl,?_⟩) (by assumption) ?_
  rotate_left
  · (intro w hSw; (try dsimp only at hSw); go_simp; try with_reducible rfl)
  simp only [Act.put,List.setIfInBounds_toArray,List.set_cons_zero,List.set_cons_succ]
  refine wpAnyH_take (i:=1) (oi:=⟨some 72,.call ⟨.builtin Builtin.len,#[.tmp 71],#[48]⟩,3,_,#[⟨0,.data⟩],none⟩) (v:=?_) rfl (by kernel_rfl) (by kernel_rfl) (by kernel_rfl) (fun _ _ _ h=>h) (Or.inl ⟨by rfl,?_⟩) (by assumption) ?_
  rotate_left
  · (intro w hSw; (try dsimp only at hSw); go_simp; try with_reducible rfl)
  simp only [Act.put,List.setIfInBounds_toArray,List.set_cons_zero,List.set_cons_succ]
  refine wpAnyH_take (i:=2) (oi:=⟨some 73,.binOp BinOp.eql 3 (.tmp 72) (.const (Value.int IntKind.i64 1)) 3,4,_,#[⟨1,.data⟩],none⟩) (v:=?_) rfl (by kernel_rfl) (by kernel_rfl) (by kernel_rfl) (fun _ _ _ h=>h) (Or.inl ⟨by rfl,?_⟩) (by assumption) ?_
  rotate_left
  · (intro w hSw; (try dsimp only at hSw); go_simp; try with_reducible rfl)
  simp only [Act.put,List.setIfInBounds_toArray,List.set_cons_zero,List.set_cons_succ]
  refine wpAnyH_take (i:=3) (oi:=⟨some 74,.move (.tmp 73),4,_,#[⟨2,.data⟩],none⟩) (v:=?_) rfl (by kernel_rfl) (by kernel_rfl) (by kernel_rfl) (fun _ _ _ h=>h) (Or.inl ⟨by rfl,?_⟩) (by assumption) ?_
  rotate_left
  · (intro w hSw; (try dsimp only at hSw); go_simp; try with_reducible rfl)
  simp only [Act.put,List.setIfInBounds_toArray,List.set_cons_zero,List.set_cons_succ]
  refine wpAnyH_take (i:=4) (oi:=⟨some 75,.move (.tmp 6),48,_,#[⟨3,.guard⟩],some (3,true)⟩) (v:=?_) rfl (by kernel_rfl) (by kernel_rfl) (by kernel_rfl) (fun _ _ _ h=>h) (Or.inl ⟨by rfl,?_⟩) (by assumption) ?_
  rotate_left
  · (intro w hSw; (try dsimp only at hSw); go_simp; try with_reducible rfl)
  simp only [Act.put,List.setIfInBounds_toArray,List.set_cons_zero,List.set_cons_succ]
  refine wpAnyH_take (i:=5) (oi:=⟨some 76,.indexAddr 48 (.tmp 75) (.const (Value.int IntKind.i64 0)),0,_,#[⟨4,.data⟩,⟨3,.guard⟩],some (3,true)⟩) (v:=?_) rfl (by kernel_rfl) (by kernel_rfl) (by kernel_rfl) (fun _ _ _ h=>h) (Or.inl ⟨by rfl,?_⟩) (by assumption) ?_
  rotate_left
  · (intro w hSw; (try dsimp only at hSw); go_simp; try with_reducible rfl)
  simp only [Act.put,List.setIfInBounds_toArray,List.set_cons_zero,List.set_cons_succ]
  refine wpAnyH_take (i:=6) (oi:=⟨some 77,.fieldAddr 74 (.tmp 76) 0,0,_,#[⟨5,.data⟩,⟨3,.guard⟩],some (3,true)⟩) (v:=?_) rfl (by kernel_rfl) (by kernel_rfl) (by kernel_rfl) (fun _ _ _ h=>h) (Or.inl ⟨by rfl,?_⟩) (by assumption) ?_
  rotate_left
  · (intro w hSw; (try dsimp only at hSw); go_simp; try with_reducible rfl)
  simp only [Act.put,List.setIfInBounds_toArray,List.set_cons_zero,List.set_cons_succ]
  refine wpAnyH_take (i:=7) (oi:=⟨some 78,.load 3 (.tmp 77),3,_,#[⟨6,.data⟩,⟨3,.guard⟩],some (3,true)⟩) (v:=?_) rfl (by kernel_rfl) (by kernel_rfl) (by kernel_rfl) (fun _ _ _ h=>h) (Or.inl ⟨by rfl,?_⟩) (by assumption) ?_
  rotate_left
  · (intro w hSw; (try dsimp only at hSw); go_simp; try with_reducible rfl)
  simp only [Act.put,List.setIfInBounds_toArray,List.set_cons_zero,List.set_cons_succ]
  refine wpAnyH_take (i:=8) (oi:=⟨some 79,.binOp BinOp.eql 3 (.tmp 78) (.const (Value.int IntKind.i64 7)) 3,4,_,#[⟨7,.data⟩,⟨3,.guard⟩],some (3,true)⟩) (v:=?_) rfl (by kernel_rfl) (by kernel_rfl) (by kernel_rfl) (fun _ _ _ h=>h) (Or.inl ⟨by rfl,?_⟩) (by assumption) ?_
  rotate_left
  · (intro w hSw; (try dsimp only at hSw); go_simp; try with_reducible rfl)
  simp only [Act.put,List.setIfInBounds_toArray,List.set_cons_zero,List.set_cons_succ]
  refine wpAnyH_take (i:=9) (oi:=⟨some 80,.pick (.tmp 74) (.tmp 79) (.const (Value.bool false)),4,_,#[⟨3,.data⟩,⟨8,.data⟩],none⟩) (v:=?_) rfl (by kernel_rfl) (by kernel_rfl) (by kernel_rfl) (fun _ _ _ h=>h) (Or.inl ⟨by rfl,?_⟩) (by assumption) ?_
  rotate_left
  · (intro w hSw; (try dsimp only at hSw); go_simp; try with_reducible rfl)
  simp only [Act.put,List.setIfInBounds_toArray,List.set_cons_zero,List.set_cons_succ]
  refine wpAnyH_take (i:=10) (oi:=⟨some 81,.move (.tmp 80),4,_,#[⟨9,.data⟩,⟨3,.chain⟩],none⟩) (v:=?_) rfl (by kernel_rfl) (by kernel_rfl) (by kernel_rfl) (fun _ _ _ h=>h) (Or.inl ⟨by rfl,?_⟩) (by assumption) ?_
  rotate_left
  · (intro w hSw; (try dsimp only at hSw); go_simp; try with_reducible rfl)
  simp only [Act.put,List.setIfInBounds_toArray,List.set_cons_zero,List.set_cons_succ]
  refine wpAnyH_take (i:=11) (oi:=⟨some 82,.move (.tmp 6),48,_,#[⟨10,.guard⟩],some (10,true)⟩) (v:=?_) rfl (by kernel_rfl) (by kernel_rfl) (by kernel_rfl) (fun _ _ _ h=>h) (Or.inl ⟨by rfl,?_⟩) (by assumption) ?_
  rotate_left
  · (intro w hSw; (try dsimp only at hSw); go_simp; try with_reducible rfl)
  simp only [Act.put,List.setIfInBounds_toArray,List.set_cons_zero,List.set_cons_succ]
  refine wpAnyH_take (i:=12) (oi:=⟨some 83,.indexAddr 48 (.tmp 82) (.const (Value.int IntKind.i64 0)),0,_,#[⟨11,.data⟩,⟨10,.guard⟩],some (10,true)⟩) (v:=?_) rfl (by kernel_rfl) (by kernel_rfl) (by kernel_rfl) (fun _ _ _ h=>h) (Or.inl ⟨by rfl,?_⟩) (by assumption) ?_
  rotate_left
  · (intro w hSw; (try dsimp only at hSw); go_simp; try with_reducible rfl)
  simp only [Act.put,List.setIfInBounds_toArray,List.set_cons_zero,List.set_cons_succ]
  refine wpAnyH_take (i:=13) (oi:=⟨some 84,.fieldAddr 74 (.tmp 83) 1,0,_,#[⟨12,.data⟩,⟨10,.guard⟩],some (10,true)⟩) (v:=?_) rfl (by kernel_rfl) (by kernel_rfl) (by kernel_rfl) (fun _ _ _ h=>h) (Or.inl ⟨by rfl,?_⟩) (by assumption) ?_
  rotate_left
  · (intro w hSw; (try dsimp only at hSw); go_simp; try with_reducible rfl)
  simp only [Act.put,List.setIfInBounds_toArray,List.set_cons_zero,List.set_cons_succ]
  refine wpAnyH_take (i:=14) (oi:=⟨some 85,.load 45 (.tmp 84),45,_,#[⟨13,.data⟩,⟨10,.guard⟩],some (10,true)⟩) (v:=?_) rfl (by kernel_rfl) (by kernel_rfl) (by kernel_rfl) (fun _ _ _ h=>h) (Or.inl ⟨by rfl,?_⟩) (by assumption) ?_
  rotate_left
  · (intro w hSw; (try dsimp only at hSw); go_simp; try with_reducible rfl)
  simp only [Act.put,List.setIfInBounds_toArray,List.set_cons_zero,List.set_cons_succ]
  refine wpAnyH_take (i:=15) (oi:=⟨some 86,.move (.tmp 5),31,_,#[⟨10,.guard⟩],some (10,true)⟩) (v:=?_) rfl (by kernel_rfl) (by kernel_rfl) (by kernel_rfl) (fun _ _ _ h=>h) (Or.inl ⟨by rfl,?_⟩) (by assumption) ?_
  rotate_left
  · (intro w hSw; (try dsimp only at hSw); go_simp; try with_reducible rfl)
  simp only [Act.put,List.setIfInBounds_toArray,List.set_cons_zero,List.set_cons_succ]
  refine wpAnyH_take (i:=16) (oi:=⟨some 87,.indexAddr 31 (.tmp 86) (.const (Value.int IntKind.i64 1)),0,_,#[⟨15,.data⟩,⟨10,.guard⟩],some (10,true)⟩) (v:=?_) rfl (by kernel_rfl) (by kernel_rfl) (by kernel_rfl) (fun _ _ _ h=>h) (Or.inl ⟨by rfl,?_⟩) (by assumption) ?_
  rotate_left
  · (intro w hSw; (try dsimp only at hSw); go_simp; try with_reducible rfl)
  simp only [Act.put,List.setIfInBounds_toArray,List.set_cons_zero,List.set_cons_succ]
  refine wpAnyH_take (i:=17) (oi:=⟨some 88,.load 45 (.tmp 87),45,_,#[⟨16,.data⟩,⟨10,.guard⟩],some (10,true)⟩) (v:=?_) rfl (by kernel_rfl) (by kernel_rfl) (by kernel_rfl) (fun _ _ _ h=>h) (Or.inl ⟨by rfl,?_⟩) (by assumption) ?_
  rotate_left
  · (intro w hSw; (try dsimp only at hSw); go_simp; try with_reducible rfl)
  simp only [Act.put,List.setIfInBounds_toArray,List.set_cons_zero,List.set_cons_succ]
  refine wpAnyH_take (i:=18) (oi:=⟨some 89,.binOp BinOp.eql 45 (.tmp 85) (.tmp 88) 45,4,_,#[⟨14,.data⟩,⟨17,.data⟩,⟨10,.guard⟩],some (10,true)⟩) (v:=?_) rfl (by kernel_rfl) (by kernel_rfl) (by kernel_rfl) (fun _ _ _ h=>h) (Or.inl ⟨by rfl,?_⟩) (by assumption) ?_
  rotate_left
  · (intro w hSw; (try dsimp only at hSw); go_simp; try with_reducible rfl)
  simp only [Act.put,List.setIfInBounds_toArray,List.set_cons_zero,List.set_cons_succ]
  refine wpAnyH_take (i:=19) (oi:=⟨some 90,.pick (.tmp 81) (.tmp 89) (.const (Value.bool false)),4,_,#[⟨10,.data⟩,⟨18,.data⟩],none⟩) (v:=?_) rfl (by kernel_rfl) (by kernel_rfl) (by kernel_rfl) (fun _ _ _ h=>h) (Or.inl ⟨by rfl,?_⟩) (by assumption) ?_
  rotate_left
  · (intro w hSw; (try dsimp only at hSw); go_simp; try with_reducible rfl)
  simp only [Act.put,List.setIfInBounds_toArray,List.set_cons_zero,List.set_cons_succ]
  refine wpAnyH_take (i:=20) (oi:=⟨some 91,.move (.tmp 90),4,_,#[⟨19,.data⟩,⟨10,.chain⟩],none⟩) (v:=?_) rfl (by kernel_rfl) (by kernel_rfl) (by kernel_rfl) (fun _ _ _ h=>h) (Or.inl ⟨by rfl,?_⟩) (by assumption) ?_
  rotate_left
  · (intro w hSw; (try dsimp only at hSw); go_simp; try with_reducible rfl)
  simp only [Act.put,List.setIfInBounds_toArray,List.set_cons_zero,List.set_cons_succ]
  refine wpAnyH_take (i:=21) (oi:=⟨some 92,.move (.tmp 3),49,_,#[⟨20,.guard⟩],some (20,true)⟩) (v:=?_) rfl (by kernel_rfl) (by kernel_rfl) (by kernel_rfl) (fun _ _ _ h=>h) (Or.inl ⟨by rfl,?_⟩) (by assumption) ?_
  rotate_left
  · (intro w hSw; (try dsimp only at hSw); go_simp; try with_reducible rfl)
  simp only [Act.put,List.setIfInBounds_toArray,List.set_cons_zero,List.set_cons_succ]
  refine wpAnyH_take (i:=22) (oi:=⟨some 93,.move (.tmp 1),52,_,#[⟨20,.guard⟩],some (20,true)⟩) (v:=?_) rfl (by kernel_rfl) (by kernel_rfl) (by kernel_rfl) (fun _ _ _ h=>h) (Or.inl ⟨by rfl,?_⟩) (by assumption) ?_
  rotate_left
  · (intro w hSw; (try dsimp only at hSw); go_simp; try with_reducible rfl)
  simp only [Act.put,List.setIfInBounds_toArray,List.set_cons_zero,List.set_cons_succ]
  refine wpAnyH_take (i:=23) (oi:=⟨some 94,.makeInterface 52 (.tmp 93),51,_,#[⟨22,.data⟩,⟨20,.guard⟩],some (20,true)⟩) (v:=?_) rfl (by kernel_rfl) (by kernel_rfl) (by kernel_rfl) (fun _ _ _ h=>h) (Or.inl ⟨by rfl,?_⟩) (by assumption) ?_
  rotate_left
  · (intro w hSw; (try dsimp only at hSw); go_simp; try with_reducible rfl)
  simp only [Act.put,List.setIfInBounds_toArray,List.set_cons_zero,List.set_cons_succ]
  refine wpAnyH_ready (rs:=[24]) (by kernel_rfl) (by simp) ?_
  refine AllReadyH.cons (o:=⟨some 95,.call ⟨.value (.func 30),#[.tmp 92,.tmp 94,.const (Value.int IntKind.i64 7),.const (Value.int IntKind.u32 8191)],#[49,51,3,32]⟩,4,_,#[⟨21,.data⟩,⟨23,.data⟩,⟨20,.chain⟩,⟨20,.guard⟩],some (20,true)⟩) rfl (fun K hK=> ?_) AllReadyH.nil
  go_simp
  (first|(go_at_call 30; refine (HSu.out _ HA.out).mono ?_; rintro e wb ⟨rfl,gb⟩; have HB:=hidW (Below.step HA.out gb); have HJ:=hidW (HH.out wb (HB.out.block g hg9) (HB.out.block gd hgd9)); clear gb)|(go_at_call 30; refine HSt.out.mono ?_; rintro e wa ⟨rfl,ga⟩; have HA:=hidW ga; have HJ:=hidW (HH.out wa (ga.block g hg9) (ga.block gd hgd9)); clear ga))
  refine hK.out _ _ ?_ (fun hHeld=> ?_)
  · ((try dsimp only); with_reducible exact HJ.out)
  clear hK K
  try simp only [Act.put,List.setIfInBounds_toArray,List.set_cons_zero,List.set_cons_succ]
  refine wpAnyH_take (i:=25) (oi:=⟨some 96,.pick (.tmp 91) (.tmp 95) (.const (Value.bool false)),4,_,#[⟨20,.data⟩,⟨24,.data⟩],none⟩) (v:=?_) rfl (by kernel_rfl) (by kernel_rfl) (by kernel_rfl) (fun _ _ _ h=>h) (Or.inl ⟨by rfl,?_⟩) (by assumption) ?_
  rotate_left
  · (intro w hSw; (try dsimp only at hSw); go_simp; try with_reducible rfl)
  simp only [Act.put,List.setIfInBounds_toArray,List.set_cons_zero,List.set_cons_succ]
  refine wpAnyH_take (i:=26) (oi:=⟨some 97,.move (.tmp 96),4,_,#[⟨25,.data⟩,⟨24,.chain⟩],none⟩) (v:=?_) rfl (by kernel_rfl) (by kernel_rfl) (by kernel_rfl) (fun _ _ _ h=>h) (Or.inl ⟨by rfl,?_⟩) (by assumption) ?_
  rotate_left
  · (intro w hSw; (try dsimp only at hSw); go_simp; try with_reducible rfl)
  simp only [Act.put,List.setIfInBounds_toArray,List.set_cons_zero,List.set_cons_succ]
  refine wpAnyH_take (i:=27) (oi:=⟨some 98,.move (.tmp 3),49,_,#[⟨26,.guard⟩],some (26,true)⟩) (v:=?_) rfl (by kernel_rfl) (by kernel_rfl) (by kernel_rfl) (fun _ _ _ h=>h) (Or.inl ⟨by rfl,?_⟩) (by assumption) ?_
  rotate_left
  · (intro w hSw; (try dsimp only at hSw); go_simp; try with_reducible rfl)
  simp only [Act.put,List.setIfInBounds_toArray,List.set_cons_zero,List.set_cons_succ]
  refine wpAnyH_take (i:=28) (oi:=⟨some 99,.move (.tmp 1),52,_,#[⟨26,.guard⟩],some (26,true)⟩) (v:=?_) rfl (by kernel_rfl) (by kernel_rfl) (by kernel_rfl) (fun _ _ _ h=>h) (Or.inl ⟨by rfl,?_⟩) (by assumption) ?_
  rotate_left
  · (intro w hSw; (try dsimp only at hSw); go_simp; try with_reducible rfl)
  simp only [Act.put,List.setIfInBounds_toArray,List.set_cons_zero,List.set_cons_succ]
  refine wpAnyH_take (i:=29) (oi:=⟨some 100,.makeInterface 52 (.tmp 99),51,_,#[⟨28,.data⟩,⟨26,.guard⟩],some (26,true)⟩) (v:=?_) rfl (by kernel_rfl) (by kernel_rfl) (by kernel_rfl) (fun _ _ _ h=>h) (Or.inl ⟨by rfl,?_⟩) (by assumption) ?_
  rotate_left
  · (intro w hSw; (try dsimp only at hSw); go_simp; try with_reducible rfl)
  simp only [Act.put,List.setIfInBounds_toArray,List.set_cons_zero,List.set_cons_succ]
  refine wpAnyH_ready (rs:=[30]) (by kernel_rfl) (by simp) ?_
  refine AllReadyH.cons (o:=⟨some 101,.call ⟨.value (.func 30),#[.tmp 98,.tmp 100,.const (Value.int IntKind.i64 8),.const (Value.int IntKind.u32 4096)],#[49,51,3,32]⟩,4,_,#[⟨27,.data⟩,⟨29,.data⟩,⟨26,.chain⟩,⟨26,.guard⟩],some (26,true)⟩) rfl (fun K hK=> ?_) AllReadyH.nil
  go_simp
  (first|(go_at_call 30; refine (HSu.out _ HA.out).mono ?_; rintro e wb ⟨rfl,gb⟩; have HB:=hidW (Below.step HA.out gb); have HJ:=hidW (HH.out wb (HB.out.block g hg9) (HB.out.block gd hgd9)); clear gb)|(go_at_call 30; refine HSt.out.mono ?_; rintro e wa ⟨rfl,ga⟩; have HA:=hidW ga; have HJ:=hidW (HH.out wa (ga.block g hg9) (ga.block gd hgd9)); clear ga))
  refine hK.out _ _ ?_ (fun hHeld=> ?_)
  · ((try dsimp only); with_reducible exact HJ.out)
  clear hK K
  try simp only [Act.put,List.setIfInBounds_toArray,List.set_cons_zero,List.set_cons_succ]
  refine wpAnyH_take (i:=31) (oi:=⟨some 102,.unOp UnOp.not 4 (.tmp 101),4,_,#[⟨30,.data⟩,⟨26,.guard⟩],some (26,true)⟩) (v:=?_) rfl (by kernel_rfl) (by kernel_rfl) (by kernel_rfl) (fun _ _ _ h=>h) (Or.inl ⟨by rfl,?_⟩) (by assumption) ?_
  rotate_left
  · (intro w hSw; (try dsimp only at hSw); go_simp; try with_reducible rfl)
  simp only [Act.put,List.setIfInBounds_toArray,List.set_cons_zero,List.set_cons_succ]
  refine wpAnyH_take (i:=32) (oi:=⟨some 103,.pick (.tmp 97) (.tmp 102) (.const (Value.bool false)),4,_,#[⟨26,.data⟩,⟨31,.data⟩],none⟩) (v:=?_) rfl (by kernel_rfl) (by kernel_rfl) (by kernel_rfl) (fun _ _ _ h=>h) (Or.inl ⟨by rfl,?_⟩) (by assumption) ?_
  rotate_left
  · (intro w hSw; (try dsimp only at hSw); go_simp; try with_reducible rfl)
  simp only [Act.put,List.setIfInBounds_toArray,List.set_cons_zero,List.set_cons_succ]
  refine wpAnyH_take (i:=33) (oi:=⟨some 104,.move (.tmp 103),4,_,#[⟨32,.data⟩,⟨30,.chain⟩],none⟩) (v:=?_) rfl (by kernel_rfl) (by kernel_rfl) (by kernel_rfl) (fun _ _ _ h=>h) (Or.inl ⟨by rfl,?_⟩) (by assumption) ?_
  rotate_left
  · (intro w hSw; (try dsimp only at hSw); go_simp; try with_reducible rfl)
  simp only [Act.put,List.setIfInBounds_toArray,List.set_cons_zero,List.set_cons_succ]
  refine wpAnyH_take (i:=34) (oi:=⟨some 105,.move (.tmp 3),49,_,#[⟨33,.guard⟩],some (33,true)⟩) (v:=?_) rfl (by kernel_rfl) (by kernel_rfl) (by kernel_rfl) (fun _ _ _ h=>h) (Or.inl ⟨by rfl,?_⟩) (by assumption) ?_
  rotate_left
  · (intro w hSw; (try dsimp only at hSw); go_simp; try with_reducible rfl)
  simp only [Act.put,List.setIfInBounds_toArray,List.set_cons_zero,List.set_cons_succ]
  refine wpAnyH_take (i:=35) (oi:=⟨some 106,.build 34 #[(0,.const (Value.int IntKind.i64 2)),(1,.const (Value.int IntKind.u32 4096)),(2,.const (Value.int IntKind.i64 7))],34,_,#[⟨33,.guard⟩],some (33,true)⟩) (v:=?_) rfl (by kernel_rfl) (by kernel_rfl) (by kernel_rfl) (fun _ _ _ h=>h) (Or.inl ⟨by rfl,?_⟩) (by assumption) ?_
  rotate_left
  · (intro w hSw; (try dsimp only at hSw); go_simp; try with_reducible rfl)
  simp only [Act.put,List.setIfInBounds_toArray,List.set_cons_zero,List.set_cons_succ]
  refine wpAnyH_ready (rs:=[36]) (by kernel_rfl) (by simp) ?_
  refine AllReadyH.cons (o:=⟨some 107,.call ⟨.value (.func 25),#[.tmp 105,.tmp 106],#[49,34]⟩,3,_,#[⟨34,.data⟩,⟨35,.data⟩,⟨33,.chain⟩,⟨33,.guard⟩],some (33,true)⟩) rfl (fun K hK=> ?_) AllReadyH.nil
  go_simp
  (go_at_call 25; refine (HDr.out _ HB.out).mono ?_; rintro e wc ⟨rfl,gc,qc⟩; have HXc:=hidW gc; have e1:=(qc g (Or.inl rfl)).trans (HB.out.block g hg9); have e2:=(qc gd (Or.inr rfl)).trans (HB.out.block gd hgd9); have HQ:=hidW (And.intro e1 e2); have HJ:=hidW (HH.out wc e1 e2); clear gc qc e1 e2)
  refine hK.out _ _ ?_ (fun hHeld=> ?_)
  · ((try dsimp only); with_reducible exact HJ.out)
  clear hK K
  try simp only [Act.put,List.setIfInBounds_toArray,List.set_cons_zero,List.set_cons_succ]
  refine wpAnyH_take (i:=37) (oi:=⟨some 108,.binOp BinOp.eql 3 (.tmp 107) (.const (Value.int IntKind.i64 1)) 3,4,_,#[⟨36,.data⟩,⟨33,.guard⟩],some (33,true)⟩) (v:=?_) rfl (by kernel_rfl) (by kernel_rfl) (by kernel_rfl) (fun _ _ _ h=>h) (Or.inl ⟨by rfl,?_⟩) (by assumption) ?_
  rotate_left
  · (intro w hSw; (try dsimp only at hSw); go_simp; try with_reducible rfl)
  simp only [Act.put,List.setIfInBounds_toArray,List.set_cons_zero,List.set_cons_succ]
  refine wpAnyH_take (i:=38) (oi:=⟨some 109,.pick (.tmp 104) (.tmp 108) (.const (Value.bool false)),4,_,#[⟨33,.data⟩,⟨37,.data⟩],none⟩) (v:=?_) rfl (by kernel_rfl) (by kernel_rfl) (by kernel_rfl) (fun _ _ _ h=>h) (Or.inl ⟨by rfl,?_⟩) (by assumption) ?_
  rotate_left
  · (intro w hSw; (try dsimp only at hSw); go_simp; try with_reducible rfl)
  simp only [Act.put,List.setIfInBounds_toArray,List.set_cons_zero,List.set_cons_succ]
  refine wpAnyH_take (i:=39) (oi:=⟨some 110,.move (.tmp 109),4,_,#[⟨38,.data⟩,⟨36,.chain⟩],none⟩) (v:=?_) rfl (by kernel_rfl) (by kernel_rfl) (by kernel_rfl) (fun _ _ _ h=>h) (Or.inl ⟨by rfl,?_⟩) (by assumption) ?_
  rotate_left
  · (intro w hSw; (try dsimp only at hSw); go_simp; try with_reducible rfl)
  simp only [Act.put,List.setIfInBounds_toArray,List.set_cons_zero,List.set_cons_succ]
  refine wpAnyH_take (i:=40) (oi:=⟨some 111,.move (.tmp 3),49,_,#[⟨39,.guard⟩],some (39,true)⟩) (v:=?_) rfl (by kernel_rfl) (by kernel_rfl) (by kernel_rfl) (fun _ _ _ h=>h) (Or.inl ⟨by rfl,?_⟩) (by assumption) ?_
  rotate_left
  · (intro w hSw; (try dsimp only at hSw); go_simp; try with_reducible rfl)
  simp only [Act.put,List.setIfInBounds_toArray,List.set_cons_zero,List.set_cons_succ]
  refine wpAnyH_take (i:=41) (oi:=⟨some 112,.move (.tmp 1),52,_,#[⟨39,.guard⟩],some (39,true)⟩) (v:=?_) rfl (by kernel_rfl) (by kernel_rfl) (by kernel_rfl) (fun _ _ _ h=>h) (Or.inl ⟨by rfl,?_⟩) (by assumption) ?_
  rotate_left
  · (intro w hSw; (try dsimp only at hSw); go_simp; try with_reducible rfl)
  simp only [Act.put,List.setIfInBounds_toArray,List.set_cons_zero,List.set_cons_succ]
  refine wpAnyH_take (i:=42) (oi:=⟨some 113,.makeInterface 52 (.tmp 112),51,_,#[⟨41,.data⟩,⟨39,.guard⟩],some (39,true)⟩) (v:=?_) rfl (by kernel_rfl) (by kernel_rfl) (by kernel_rfl) (fun _ _ _ h=>h) (Or.inl ⟨by rfl,?_⟩) (by assumption) ?_
  rotate_left
  · (intro w hSw; (try dsimp only at hSw); go_simp; try with_reducible rfl)
  simp only [Act.put,List.setIfInBounds_toArray,List.set_cons_zero,List.set_cons_succ]
  refine wpAnyH_ready (rs:=[43]) (by kernel_rfl) (by simp) ?_
  refine AllReadyH.cons (o:=⟨some 114,.call ⟨.value (.func 13),#[.tmp 111,.tmp 113],#[49,51]⟩,48,_,#[⟨40,.data⟩,⟨42,.data⟩,⟨39,.chain⟩,⟨39,.guard⟩],some (39,true)⟩) rfl (fun K hK=> ?_) AllReadyH.nil
  go_simp
  (go_at_call 13; refine (HXc.out.dirty (by show (diL MF [bG] JE).length*64≤_; rw [ex_di3]; decide)).mono ?_; rw [show diL (Mst.ram 16 mF).mo [bG] JE=[] from ex_di3]; rintro e wd ⟨vd,rfl,hLd,gd'⟩; obtain ⟨ad,capd,rfl⟩:=LtG.nil hLd; have HF:=hidW (Below.step HXc.out.bel gd'); have z1:gd<wc.heap.size:=(HXc.out.gl gd (Or.inr rfl)).1; have z2:g<wc.heap.size:=(HXc.out.gl g (Or.inl rfl)).1; have HJ:=hidW (HH.out wd ((gd'.block g z2).trans HQ.out.1) ((gd'.block gd z1).trans HQ.out.2)); clear gd' hLd z1 z2)
  refine hK.out _ _ ?_ (fun hHeld=> ?_)
  · ((try dsimp only); with_reducible exact HJ.out)
  clear hK K
  try simp only [Act.put,List.setIfInBounds_toArray,List.set_cons_zero,List.set_cons_succ]
  refine wpAnyH_take (i:=44) (oi:=⟨some 115,.call ⟨.builtin Builtin.len,#[.tmp 114],#[48]⟩,3,_,#[⟨43,.data⟩,⟨39,.guard⟩],some (39,true)⟩) (v:=?_) rfl (by kernel_rfl) (by kernel_rfl) (by kernel_rfl) (fun _ _ _ h=>h) (Or.inl ⟨by rfl,?_⟩) (by assumption) ?_
  rotate_left
  · (intro w hSw; (try dsimp only at hSw); go_simp; try with_reducible rfl)
  simp only [Act.put,List.setIfInBounds_toArray,List.set_cons_zero,List.set_cons_succ]
  refine wpAnyH_take (i:=45) (oi:=⟨some 116,.binOp BinOp.eql 3 (.tmp 115) (.const (Value.int IntKind.i64 0)) 3,4,_,#[⟨44,.data⟩,⟨39,.guard⟩],some (39,true)⟩) (v:=?_) rfl (by kernel_rfl) (by kernel_rfl) (by kernel_rfl) (fun _ _ _ h=>h) (Or.inl ⟨by rfl,?_⟩) (by assumption) ?_
  rotate_left
  · (intro w hSw; (try dsimp only at hSw); go_simp; try with_reducible rfl)
  simp only [Act.put,List.setIfInBounds_toArray,List.set_cons_zero,List.set_cons_succ]
  refine wpAnyH_take (i:=46) (oi:=⟨some 117,.pick (.tmp 110) (.tmp 116) (.const (Value.bool false)),4,_,#[⟨39,.data⟩,⟨45,.data⟩],none⟩) (v:=?_) rfl (by kernel_rfl) (by kernel_rfl) (by kernel_rfl) (fun _ _ _ h=>h) (Or.inl ⟨by rfl,?_⟩) (by assumption) ?_
  rotate_left
  · (intro w hSw; (try dsimp only at hSw); go_simp; try with_reducible rfl)
  simp only [Act.put,List.setIfInBounds_toArray,List.set_cons_zero,List.set_cons_succ]
  refine wpAnyH_take (i:=47) (oi:=⟨some 0,.assign (.tmp 117),4,_,#[⟨46,.data⟩,⟨43,.chain⟩,⟨0,.phase⟩,⟨1,.phase⟩,⟨2,.phase⟩,⟨3,.phase⟩,⟨4,.phase⟩,⟨5,.phase⟩,⟨6,.phase⟩,⟨7,.phase⟩,⟨8,.phase⟩,⟨9,.phase⟩,⟨10,.phase⟩,⟨11,.phase⟩,⟨12,.phase⟩,⟨13,.phase⟩,⟨14,.phase⟩,⟨15,.phase⟩,⟨16,.phase⟩,⟨17,.phase⟩,⟨18,.phase⟩,⟨19,.phase⟩,⟨20,.phase⟩,⟨21,.phase⟩,⟨22,.phase⟩,⟨23,.phase⟩,⟨24,.phase⟩,⟨25,.phase⟩,⟨26,.phase⟩,⟨27,.phase⟩,⟨28,.phase⟩,⟨29,.phase⟩,⟨30,.phase⟩,⟨31,.phase⟩,⟨32,.phase⟩,⟨33,.phase⟩,⟨34,.phase⟩,⟨35,.phase⟩,⟨36,.phase⟩,⟨37,.phase⟩,⟨38,.phase⟩,⟨39,.phase⟩,⟨40,.phase⟩,⟨41,.phase⟩,⟨42,.phase⟩,⟨43,.phase⟩,⟨44,.phase⟩,⟨45,.phase⟩,⟨46,.phase⟩],none⟩) (v:=?_) rfl (by kernel_rfl) (by kernel_rfl) (by kernel_rfl) (fun _ _ _ h=>h) (Or.inl ⟨by rfl,?_⟩) (by assumption) ?_
  rotate_left
  · (intro w hSw; (try dsimp only at hSw); go_simp; try with_reducible rfl)
  simp only [Act.put,List.setIfInBounds_toArray,List.set_cons_zero,List.set_cons_succ]
  refine wpAnyH_done (by kernel_rfl) ?_ _
  go_wp2
  go_ret
  exact ⟨rfl,HF.out⟩
end Go.Proofs.YtnjlajjjcmhfgaaGreatDoor
