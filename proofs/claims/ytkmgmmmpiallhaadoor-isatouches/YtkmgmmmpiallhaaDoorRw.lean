import Derived.Test.YtkmgmmmpiallhaaDoorRx
import Derived.Test.YtkmgmmmpiallhaaDoorQi
namespace Go.Proofs.YtkmgmmmpiallhaaDoor
open Go.RowKit
set_option linter.unusedVariables false
set_option linter.unusedSimpArgs false
theorem wp_ints {P:Program} {w:World} {o:Oper} {a:Act} {K:Act→World→Prop} {Q:Exit→Act→World→Prop} (hu:P.underlying 48=some (.slice 3)) (hsz:(P.info? 3).map (·.size)=some 1) (hz:((P.info? 3).bind (·.zero)).isSome=true)
    (len:Nat) (parts:Array (Nat×Operand)) (ho:o.op= .buildSlice 48 len parts) (zs:List Int) (hlen:len=zs.length) (hpos:0<len) (hs:len≤100)
    (hparts:parts.toList=(zs.zipIdx 0).map fun x=>(x.2,Operand.const (Value.int .i64 x.1)))
    (h:∀b w',Sl w' b zs→Below w.heap.size w w'→K (a.put o.dst (.slice (some ⟨b,0,none⟩) len len)) w'):o.wp P a w K Q:=by
  cases hie:P.info? 3 with
  | none=>simp [hie] at hsz
  | some ie =>
    simp only [hie,Option.map_some,Option.some.injEq,Option.bind_some] at hsz hz
    obtain ⟨z,hzz⟩:=Option.isSome_iff_exists.1 hz
    refine wp_buildSlice 48 3 len parts ho _ ie z hu hie hzz (by rw [hsz]; omega) (by rw [hsz]; omega) ?_ (h w.heap.size _ ⟨Bl.new w 3 _,by omega⟩ (below_new _ _))
    rw [parts_eval a parts .i64 zs hparts,hsz]
    exact Great.fill_flat _ _ (fun v hv=>by obtain ⟨n,_,rfl⟩:=List.mem_map.1 hv; rfl) (by simp [hlen])
structure PX (W:World) (I:List Value) (q:Nat) (R:List Value) (w:World):Prop where
  bel:Below W.heap.size W w
  ins:Bl w W.heap.size 28 I
  row:Bl w q 50 R
theorem PX.step {W w w':World} {I R:List Value} {q:Nat} (h:PX W I q R w) (hb:Below w.heap.size w w'):PX W I q R w':=⟨Below.step h.bel hb,h.ins.below hb,h.row.below hb⟩
theorem PX.drew {W w:World} {I R:List Value} {q:Nat} (h:PX W I q R w):PX W I q R w.drew:=⟨below_drew h.bel,h.ins.drew,h.row.drew⟩
theorem PX.held {W w:World} {x0 x1 x2 x3 x4 x5 x6 x7 x8:Value} {L:List Value} {q:Nat} {r0 r1 r2:Value} (h:PX W (x0::x1::x2::x3::x4::x5::x6::x7::x8::L) q [r0,r1,r2] w) :
    w.cell? ⟨q,0,none⟩=some r0∧w.cell? ⟨q,1,none⟩=some r1∧w.cell? ⟨q,2,none⟩=some r2∧w.cell? ⟨W.heap.size,1,none⟩=some x1∧w.cell? ⟨W.heap.size,4,none⟩=some x4∧w.cell? ⟨W.heap.size,5,none⟩=some x5∧w.cell? ⟨W.heap.size,6,none⟩=some x6∧w.cell? ⟨W.heap.size,7,none⟩=some x7∧w.cell? ⟨W.heap.size,8,none⟩=some x8 :=
  ⟨h.row.cell 0,h.row.cell 1,h.row.cell 2,h.ins.cell 1,h.ins.cell 4,h.ins.cell 5,h.ins.cell 6,h.ins.cell 7,h.ins.cell 8⟩
theorem PX.c15 {W w:World} {x0 x1 x2 x3 x4 x5 x6 x7 x8 x9 x10 x11 x12 x13 x14 x15:Value} {L R:List Value} {q:Nat} (h:PX W (x0::x1::x2::x3::x4::x5::x6::x7::x8::x9::x10::x11::x12::x13::x14::x15::L) q R w):w.cell? ⟨W.heap.size,1,none⟩=some x1∧w.cell? ⟨W.heap.size,15,none⟩=some x15:=⟨h.ins.cell 1,h.ins.cell 15⟩
set_option maxRecDepth 100000 in
set_option maxHeartbeats 2000000 in
theorem reads_no (jc jo jf jd jn jm jr ja ji jt jk jl jx jy jz jv Y:Int) (js jp ju jw:Bool) (w:World) (II:List Value) (FH:Int→Bool) (ON:Bool→Int→Int) (C1 C2 OKf:Bool)
    (HE:Hid (∀w',Calls Tryd.prog 16 #[.agg ([.int .i64 jc,.int .i64 jo,.bool js,.int .i64 jf,.int .i64 jd,.int .i64 jn,.int .i64 jm,.int .i64 jr,.int .i64 ja,.int .u32 ji,.int .i64 jt,.int .i64 jk,.bool jp,.bool ju,.bool jw,.int .u16 jl,.int .i64 jx,.int .i64 jy,.int .i64 jz,.int .i64 jv]).toArray] w' fun e w''=>e= .returned (.tuple #[.int .u32 Y,.int .i64 0])∧Below w'.heap.size w' w''))
    (HFd:Hid (∀w',Calls Tryd.prog 34 #[.int .u32 Y] w' fun e w''=>(∃v0 v1 v2,e= .returned (.tuple #[.agg #[v0,v1,v2],.agg II.toArray,.bool OKf])∧(∀(K:Int) w',0≤K→K<256→K≠32→Calls Tryd.prog 39 #[.agg #[v0,v1,v2],.int .u8 K] w' fun e w''=>e= .returned (.bool (FH K))∧Below w'.heap.size w' w'')∧(#[v0,v1,v2]:Array Value).all (·.oneCell')=true)∧Below w'.heap.size w' w''))
    (HO:Hid (∀b (n:Int) w',0≤n∧n<16→Calls Tryd.prog 38 #[.bool b,.int .i64 n] w' fun e w''=>e= .returned (.int .u16 (ON b n))∧w''=w'))
    (H1:Hid (∀b w',Sl w' b [20,22,24]→Calls Tryd.prog 36 #[.slice (some ⟨b,0,none⟩) 3 3,.int .i64 jo] w' fun e w''=>e= .returned (.bool C1)∧w''=w'))
    (H2:Hid (∀b w',Sl w' b [18,22,24,32,34,36,49]→Calls Tryd.prog 36 #[.slice (some ⟨b,0,none⟩) 7 7,.int .i64 jo] w' fun e w''=>e= .returned (.bool C2)∧w''=w'))
    (HLE:Hid (II.length=20)) (HOI:Hid (II.toArray.all (·.oneCell')=true)) (HS2:Hid ((Tryd.prog.info? 28).map (·.size)=some II.toArray.size))
    (hn:Hid (0≤jn∧jn<16)) (hm:Hid (0≤jm∧jm<16)) (hr:Hid (0≤jr∧jr<16)) (ha:Hid (0≤ja∧ja<16)) (hd:Hid (0≤jd∧jd<16)) (h40:(jo == 40)=false) :
    Calls Tryd.prog 18 #[.agg ([.int .i64 jc,.int .i64 jo,.bool js,.int .i64 jf,.int .i64 jd,.int .i64 jn,.int .i64 jm,.int .i64 jr,.int .i64 ja,.int .u32 ji,.int .i64 jt,.int .i64 jk,.bool jp,.bool ju,.bool jw,.int .u16 jl,.int .i64 jx,.int .i64 jy,.int .i64 jz,.int .i64 jv]).toArray] w fun e w'=>e= .returned (.int .u16 (bits .or .u16 (bits .or .u16 (bits .or .u16 (bits .or .u16 (ON (FH 110) jn) (ON (FH 109) jm)) (ON (FH 114) jr)) (ON C1 ja)) (ON C2 jd)))∧Below w.heap.size w w':=by
  have HB:=hidW (AX.first w ([.int .i64 jc,.int .i64 jo,.bool js,.int .i64 jf,.int .i64 jd,.int .i64 jn,.int .i64 jm,.int .i64 jr,.int .i64 ja,.int .u32 ji,.int .i64 jt,.int .i64 jk,.bool jp,.bool ju,.bool jw,.int .u16 jl,.int .i64 jx,.int .i64 jy,.int .i64 jz,.int .i64 jv]))
  go_enter Tryd.func18,Tryd.ntmps18
  go_wp2_with (first
    | (guard_target =~ wpList _ _ _ (Oper.mk (some 10) _ _ _ _ _::_) _ _; refine wpList_load_mid rfl _ _ rfl w.heap.size 0 rfl _ _ HB.out.res.range Tryd.underlying28 rfl ins_size ?_)
    | (go_at_call 16; refine (HE.out _).mono ?_; rintro e w0 ⟨rfl,hb⟩; have HB:=hidW (HB.out.step hb); clear hb HE)
    | (go_at_call 34; refine (HFd.out _).mono ?_; rintro e w1 ⟨⟨v0,v1,v2,rfl,hh,ho3⟩,hb⟩; have HB:=hidW (HB.out.step hb); have HH:=hidW hh; have HV3:=hidW ho3; clear hb hh ho3 HFd)
    | (guard_target =~ wpList _ _ _ (Oper.mk none (Op.store 50 _ _) _ _ _ _::_) _ _; have HZ:=hidW (ZX.first w1 [.slice none 0 0,.int .i64 0,.string ⟨#[]⟩] (insL insZ)); refine wpList_store_mid rfl _ _ _ rfl w1.heap.size 0 #[v0,v1,v2] rfl rfl (HZ.out.row.there 3 rfl) rowI HV3.out ?_; generalize hW2:World.setCells _ _ _ _=w2; have HZ:=hidW (show ZX w1 [v0,v1,v2] (insL insZ) w2 from hW2▸HZ.out.setRow [v0,v1,v2] rfl); clear hW2)
    | (guard_target =~ wpList _ _ _ (Oper.mk none (Op.store 28 (Operand.tmp 6) _) _ _ _ _::_) _ _; refine wpList_store_mid rfl _ _ _ rfl (w1.heap.size+1) 0 II.toArray rfl rfl (HZ.out.res.there _ (by rw [List.size_toArray]; exact HLE.out)) HS2.out HOI.out ?_; generalize hW3:World.setCells _ _ _ _=w3; have HZ:=hidW (show ZX w1 [v0,v1,v2] II w3 from hW3▸HZ.out.setIns II HLE.out); clear hW3; have HP:=hidW (PX.mk (Below.step HB.out.bel HZ.out.bel) (HB.out.res.below HZ.out.bel) HZ.out.row)))
  clear HZ HB
  generalize w1.heap.size=q at HP ⊢
  have HP:=hidW HP.out.drew
  have K1:=HP.out.held
  refine wp_region_held_drew (S:=fun w'=>w'.cell? ⟨q,0,none⟩=some v0∧w'.cell? ⟨q,1,none⟩=some v1∧w'.cell? ⟨q,2,none⟩=some v2∧w'.cell? ⟨w.heap.size,1,none⟩=some (.int .i64 jo)∧w'.cell? ⟨w.heap.size,4,none⟩=some (.int .i64 jd)∧w'.cell? ⟨w.heap.size,5,none⟩=some (.int .i64 jn)∧w'.cell? ⟨w.heap.size,6,none⟩=some (.int .i64 jm)∧w'.cell? ⟨w.heap.size,7,none⟩=some (.int .i64 jr)∧w'.cell? ⟨w.heap.size,8,none⟩=some (.int .i64 ja)) (by kernel_rfl) K1 (fun hHeld=> ?_)
  clear hHeld
  have K2:=hidW K1
  clear K1
  refine tkH 0 ⟨some 22,.load 50 (.tmp 5),50,_,#[],none⟩ ?_ ?_ ?_
  rotate_left
  · (intro w hSw; (try dsimp only at hSw); go_simp; try with_reducible rfl)
  simp only [Act.put,List.setIfInBounds_toArray,List.set_cons_zero,List.set_cons_succ]
  refine tkH 2 ⟨some 24,.fieldAddr 28 (.tmp 1) 5,0,_,#[],none⟩ ?_ ?_ ?_
  rotate_left
  · (intro w hSw; (try dsimp only at hSw); go_simp; try with_reducible rfl)
  simp only [Act.put,List.setIfInBounds_toArray,List.set_cons_zero,List.set_cons_succ]
  refine tkH 3 ⟨some 25,.load 3 (.tmp 24),3,_,#[⟨2,.data⟩],none⟩ ?_ ?_ ?_
  rotate_left
  · (intro w hSw; (try dsimp only at hSw); go_simp; try with_reducible rfl)
  simp only [Act.put,List.setIfInBounds_toArray,List.set_cons_zero,List.set_cons_succ]
  refine tkH 5 ⟨some 27,.load 50 (.tmp 5),50,_,#[],none⟩ ?_ ?_ ?_
  rotate_left
  · (intro w hSw; (try dsimp only at hSw); go_simp; try with_reducible rfl)
  simp only [Act.put,List.setIfInBounds_toArray,List.set_cons_zero,List.set_cons_succ]
  refine tkH 7 ⟨some 29,.fieldAddr 28 (.tmp 1) 6,0,_,#[],none⟩ ?_ ?_ ?_
  rotate_left
  · (intro w hSw; (try dsimp only at hSw); go_simp; try with_reducible rfl)
  simp only [Act.put,List.setIfInBounds_toArray,List.set_cons_zero,List.set_cons_succ]
  refine tkH 8 ⟨some 30,.load 3 (.tmp 29),3,_,#[⟨7,.data⟩],none⟩ ?_ ?_ ?_
  rotate_left
  · (intro w hSw; (try dsimp only at hSw); go_simp; try with_reducible rfl)
  simp only [Act.put,List.setIfInBounds_toArray,List.set_cons_zero,List.set_cons_succ]
  refine tkH 11 ⟨some 33,.load 50 (.tmp 5),50,_,#[],none⟩ ?_ ?_ ?_
  rotate_left
  · (intro w hSw; (try dsimp only at hSw); go_simp; try with_reducible rfl)
  simp only [Act.put,List.setIfInBounds_toArray,List.set_cons_zero,List.set_cons_succ]
  refine tkH 13 ⟨some 35,.fieldAddr 28 (.tmp 1) 7,0,_,#[],none⟩ ?_ ?_ ?_
  rotate_left
  · (intro w hSw; (try dsimp only at hSw); go_simp; try with_reducible rfl)
  simp only [Act.put,List.setIfInBounds_toArray,List.set_cons_zero,List.set_cons_succ]
  refine tkH 14 ⟨some 36,.load 3 (.tmp 35),3,_,#[⟨13,.data⟩],none⟩ ?_ ?_ ?_
  rotate_left
  · (intro w hSw; (try dsimp only at hSw); go_simp; try with_reducible rfl)
  simp only [Act.put,List.setIfInBounds_toArray,List.set_cons_zero,List.set_cons_succ]
  refine wpAnyH_ready (rs:=[1]) (by kernel_rfl) (by simp) ?_
  refine AllReadyH.cons (o:=⟨some 23,.call ⟨.value (.func 39),#[.tmp 22,.const (Value.int IntKind.u8 110)],#[50,5]⟩,4,_,#[⟨0,.data⟩],none⟩) rfl (fun K hK=> ?_) AllReadyH.nil
  go_simp
  go_at_call 39; refine (HH.out _ _ (by decide) (by decide) (by decide)).mono ?_; rintro e wh ⟨rfl,hb⟩; have HP:=hidW (HP.out.step hb); have K2:=hidW HP.out.held; clear hb
  refine hK.out _ _ ?_ (fun hHeld=> ?_)
  · with_reducible exact K2.out
  clear hK K
  try simp only [Act.put,List.setIfInBounds_toArray,List.set_cons_zero,List.set_cons_succ]
  refine wpAnyH_ready (rs:=[4]) (by kernel_rfl) (by simp) ?_
  refine AllReadyH.cons (o:=⟨some 26,.call ⟨.value (.func 38),#[.tmp 23,.tmp 25],#[4,3]⟩,24,_,#[⟨1,.data⟩,⟨3,.data⟩,⟨1,.chain⟩],none⟩) rfl (fun K hK=> ?_) AllReadyH.nil
  go_simp
  go_at_call 38; refine (HO.out _ _ _ (by first|exact hn.out|exact hm.out|exact hr.out)).mono ?_; rintro e wo ⟨rfl,rfl⟩
  refine hK.out _ _ ?_ (fun hHeld=> ?_)
  · with_reducible exact K2.out
  clear hK K
  try simp only [Act.put,List.setIfInBounds_toArray,List.set_cons_zero,List.set_cons_succ]
  refine wpAnyH_ready (rs:=[6]) (by kernel_rfl) (by simp) ?_
  refine AllReadyH.cons (o:=⟨some 28,.call ⟨.value (.func 39),#[.tmp 27,.const (Value.int IntKind.u8 109)],#[50,5]⟩,4,_,#[⟨5,.data⟩,⟨4,.chain⟩],none⟩) rfl (fun K hK=> ?_) AllReadyH.nil
  go_simp
  go_at_call 39; refine (HH.out _ _ (by decide) (by decide) (by decide)).mono ?_; rintro e wh ⟨rfl,hb⟩; have HP:=hidW (HP.out.step hb); have K2:=hidW HP.out.held; clear hb
  refine hK.out _ _ ?_ (fun hHeld=> ?_)
  · with_reducible exact K2.out
  clear hK K
  try simp only [Act.put,List.setIfInBounds_toArray,List.set_cons_zero,List.set_cons_succ]
  refine wpAnyH_ready (rs:=[9]) (by kernel_rfl) (by simp) ?_
  refine AllReadyH.cons (o:=⟨some 31,.call ⟨.value (.func 38),#[.tmp 28,.tmp 30],#[4,3]⟩,24,_,#[⟨6,.data⟩,⟨8,.data⟩,⟨6,.chain⟩],none⟩) rfl (fun K hK=> ?_) AllReadyH.nil
  go_simp
  go_at_call 38; refine (HO.out _ _ _ (by first|exact hn.out|exact hm.out|exact hr.out)).mono ?_; rintro e wo ⟨rfl,rfl⟩
  refine hK.out _ _ ?_ (fun hHeld=> ?_)
  · with_reducible exact K2.out
  clear hK K
  try simp only [Act.put,List.setIfInBounds_toArray,List.set_cons_zero,List.set_cons_succ]
  refine tkH 10 ⟨some 32,.binOp BinOp.or 24 (.tmp 26) (.tmp 31) 24,24,_,#[⟨4,.data⟩,⟨9,.data⟩],none⟩ ?_ ?_ ?_
  rotate_left
  · (intro w hSw; (try dsimp only at hSw); go_simp; try with_reducible rfl)
  simp only [Act.put,List.setIfInBounds_toArray,List.set_cons_zero,List.set_cons_succ]
  refine wpAnyH_ready (rs:=[12]) (by kernel_rfl) (by simp) ?_
  refine AllReadyH.cons (o:=⟨some 34,.call ⟨.value (.func 39),#[.tmp 33,.const (Value.int IntKind.u8 114)],#[50,5]⟩,4,_,#[⟨11,.data⟩,⟨9,.chain⟩],none⟩) rfl (fun K hK=> ?_) AllReadyH.nil
  go_simp
  go_at_call 39; refine (HH.out _ _ (by decide) (by decide) (by decide)).mono ?_; rintro e wh ⟨rfl,hb⟩; have HP:=hidW (HP.out.step hb); have K2:=hidW HP.out.held; clear hb
  refine hK.out _ _ ?_ (fun hHeld=> ?_)
  · with_reducible exact K2.out
  clear hK K
  try simp only [Act.put,List.setIfInBounds_toArray,List.set_cons_zero,List.set_cons_succ]
  refine wpAnyH_ready (rs:=[15]) (by kernel_rfl) (by simp) ?_
  refine AllReadyH.cons (o:=⟨some 37,.call ⟨.value (.func 38),#[.tmp 34,.tmp 36],#[4,3]⟩,24,_,#[⟨12,.data⟩,⟨14,.data⟩,⟨12,.chain⟩],none⟩) rfl (fun K hK=> ?_) AllReadyH.nil
  go_simp
  go_at_call 38; refine (HO.out _ _ _ (by first|exact hn.out|exact hm.out|exact hr.out)).mono ?_; rintro e wo ⟨rfl,rfl⟩
  refine hK.out _ _ ?_ (fun hHeld=> ?_)
  · with_reducible exact K2.out
  clear hK K
  try simp only [Act.put,List.setIfInBounds_toArray,List.set_cons_zero,List.set_cons_succ]
  refine tkH 16 ⟨some 38,.binOp BinOp.or 24 (.tmp 32) (.tmp 37) 24,24,_,#[⟨10,.data⟩,⟨15,.data⟩],none⟩ ?_ ?_ ?_
  rotate_left
  · (intro w hSw; (try dsimp only at hSw); go_simp; try with_reducible rfl)
  simp only [Act.put,List.setIfInBounds_toArray,List.set_cons_zero,List.set_cons_succ]
  refine tkH 17 ⟨some 8,.assign (.tmp 38),24,_,#[⟨16,.data⟩,⟨15,.chain⟩,⟨0,.phase⟩,⟨1,.phase⟩,⟨2,.phase⟩,⟨3,.phase⟩,⟨4,.phase⟩,⟨5,.phase⟩,⟨6,.phase⟩,⟨7,.phase⟩,⟨8,.phase⟩,⟨9,.phase⟩,⟨10,.phase⟩,⟨11,.phase⟩,⟨12,.phase⟩,⟨13,.phase⟩,⟨14,.phase⟩,⟨15,.phase⟩,⟨16,.phase⟩],none⟩ ?_ ?_ ?_
  rotate_left
  · (intro w hSw; (try dsimp only at hSw); go_simp; try with_reducible rfl)
  simp only [Act.put,List.setIfInBounds_toArray,List.set_cons_zero,List.set_cons_succ]
  refine wpAnyH_done (by kernel_rfl) ?_ _
  go_wp2
  have HP:=hidW HP.out.drew
  have K1:=HP.out.held
  refine wp_region_held_drew (S:=fun w'=>w'.cell? ⟨q,0,none⟩=some v0∧w'.cell? ⟨q,1,none⟩=some v1∧w'.cell? ⟨q,2,none⟩=some v2∧w'.cell? ⟨w.heap.size,1,none⟩=some (.int .i64 jo)∧w'.cell? ⟨w.heap.size,4,none⟩=some (.int .i64 jd)∧w'.cell? ⟨w.heap.size,5,none⟩=some (.int .i64 jn)∧w'.cell? ⟨w.heap.size,6,none⟩=some (.int .i64 jm)∧w'.cell? ⟨w.heap.size,7,none⟩=some (.int .i64 jr)∧w'.cell? ⟨w.heap.size,8,none⟩=some (.int .i64 ja)) (by kernel_rfl) K1 (fun hHeld=> ?_)
  clear hHeld
  have K2:=hidW K1
  clear K1
  refine tkH 0 ⟨some 39,.move (.tmp 8),24,_,#[],none⟩ ?_ ?_ ?_
  rotate_left
  · (intro w hSw; (try dsimp only at hSw); go_simp; try with_reducible rfl)
  simp only [Act.put,List.setIfInBounds_toArray,List.set_cons_zero,List.set_cons_succ]
  refine tkH 2 ⟨some 41,.fieldAddr 28 (.tmp 1) 1,0,_,#[],none⟩ ?_ ?_ ?_
  rotate_left
  · (intro w hSw; (try dsimp only at hSw); go_simp; try with_reducible rfl)
  simp only [Act.put,List.setIfInBounds_toArray,List.set_cons_zero,List.set_cons_succ]
  refine tkH 3 ⟨some 42,.load 3 (.tmp 41),3,_,#[⟨2,.data⟩],none⟩ ?_ ?_ ?_
  rotate_left
  · (intro w hSw; (try dsimp only at hSw); go_simp; try with_reducible rfl)
  simp only [Act.put,List.setIfInBounds_toArray,List.set_cons_zero,List.set_cons_succ]
  refine tkH 5 ⟨some 44,.fieldAddr 28 (.tmp 1) 8,0,_,#[],none⟩ ?_ ?_ ?_
  rotate_left
  · (intro w hSw; (try dsimp only at hSw); go_simp; try with_reducible rfl)
  simp only [Act.put,List.setIfInBounds_toArray,List.set_cons_zero,List.set_cons_succ]
  refine tkH 6 ⟨some 45,.load 3 (.tmp 44),3,_,#[⟨5,.data⟩],none⟩ ?_ ?_ ?_
  rotate_left
  · (intro w hSw; (try dsimp only at hSw); go_simp; try with_reducible rfl)
  simp only [Act.put,List.setIfInBounds_toArray,List.set_cons_zero,List.set_cons_succ]
  refine tkH 10 ⟨some 49,.fieldAddr 28 (.tmp 1) 1,0,_,#[],none⟩ ?_ ?_ ?_
  rotate_left
  · (intro w hSw; (try dsimp only at hSw); go_simp; try with_reducible rfl)
  simp only [Act.put,List.setIfInBounds_toArray,List.set_cons_zero,List.set_cons_succ]
  refine tkH 11 ⟨some 50,.load 3 (.tmp 49),3,_,#[⟨10,.data⟩],none⟩ ?_ ?_ ?_
  rotate_left
  · (intro w hSw; (try dsimp only at hSw); go_simp; try with_reducible rfl)
  simp only [Act.put,List.setIfInBounds_toArray,List.set_cons_zero,List.set_cons_succ]
  refine tkH 13 ⟨some 52,.fieldAddr 28 (.tmp 1) 4,0,_,#[],none⟩ ?_ ?_ ?_
  rotate_left
  · (intro w hSw; (try dsimp only at hSw); go_simp; try with_reducible rfl)
  simp only [Act.put,List.setIfInBounds_toArray,List.set_cons_zero,List.set_cons_succ]
  refine tkH 14 ⟨some 53,.load 3 (.tmp 52),3,_,#[⟨13,.data⟩],none⟩ ?_ ?_ ?_
  rotate_left
  · (intro w hSw; (try dsimp only at hSw); go_simp; try with_reducible rfl)
  simp only [Act.put,List.setIfInBounds_toArray,List.set_cons_zero,List.set_cons_succ]
  refine wpAnyH_ready (rs:=[1,9]) (by kernel_rfl) (by simp) ?_
  refine (AllReadyH.cons (o:=⟨some 40,.buildSlice 48 3 #[(0,.const (Value.int IntKind.i64 20)),(1,.const (Value.int IntKind.i64 22)),(2,.const (Value.int IntKind.i64 24))],48,_,#[],none⟩) rfl (fun K hK=> ?_) (AllReadyH.cons (o:=⟨some 48,.buildSlice 48 7 #[(0,.const (Value.int IntKind.i64 18)),(1,.const (Value.int IntKind.i64 22)),(2,.const (Value.int IntKind.i64 24)),(3,.const (Value.int IntKind.i64 32)),(4,.const (Value.int IntKind.i64 34)),(5,.const (Value.int IntKind.i64 36)),(6,.const (Value.int IntKind.i64 49))],48,_,#[],none⟩) rfl (fun K hK=> ?_) AllReadyH.nil))
  · rw [if_pos (by kernel_rfl)]; first|(refine wp_ints intsU intI intZ 3 _ rfl [20,22,24] rfl (by decide) (by decide) rfl ?_; intro b1 wb hs hb; have HP:=hidW (HP.out.step hb); have K2:=hidW HP.out.held; have S1:=hidW hs; (try (have S2:=hidW (S2.out.below hb))); clear hs hb; refine hK.out _ _ HP.out.held (fun hHeld=> ?_))|(refine wp_ints intsU intI intZ 7 _ rfl [18,22,24,32,34,36,49] rfl (by decide) (by decide) rfl ?_; intro b2 wb hs hb; have HP:=hidW (HP.out.step hb); have K2:=hidW HP.out.held; have S2:=hidW hs; (try (have S1:=hidW (S1.out.below hb))); clear hs hb; refine hK.out _ _ HP.out.held (fun hHeld=> ?_))
    clear hK K
    try simp only [Act.put,List.setIfInBounds_toArray,List.set_cons_zero,List.set_cons_succ]
    refine wpAnyH_ready (rs:=[4,9]) (by kernel_rfl) (by simp) ?_
    refine (AllReadyH.cons (o:=⟨some 43,.call ⟨.value (.func 36),#[.tmp 40,.tmp 42],#[48,3]⟩,4,_,#[⟨1,.data⟩,⟨3,.data⟩],none⟩) rfl (fun K hK=> ?_) (AllReadyH.cons (o:=⟨some 48,.buildSlice 48 7 #[(0,.const (Value.int IntKind.i64 18)),(1,.const (Value.int IntKind.i64 22)),(2,.const (Value.int IntKind.i64 24)),(3,.const (Value.int IntKind.i64 32)),(4,.const (Value.int IntKind.i64 34)),(5,.const (Value.int IntKind.i64 36)),(6,.const (Value.int IntKind.i64 49))],48,_,#[],none⟩) rfl (fun K hK=> ?_) AllReadyH.nil))
    · go_simp
      first|(go_at_call 36; refine (H1.out _ _ S1.out).mono ?_; rintro e wi ⟨rfl,rfl⟩; clear H1)|(go_at_call 36; refine (H2.out _ _ S2.out).mono ?_; rintro e wi ⟨rfl,rfl⟩; clear H2)
      refine hK.out _ _ ?_ (fun hHeld=> ?_)
      · with_reducible exact K2.out
      clear hK K
      try simp only [Act.put,List.setIfInBounds_toArray,List.set_cons_zero,List.set_cons_succ]
      refine wpAnyH_ready (rs:=[7,9]) (by kernel_rfl) (by simp) ?_
      refine (AllReadyH.cons (o:=⟨some 46,.call ⟨.value (.func 38),#[.tmp 43,.tmp 45],#[4,3]⟩,24,_,#[⟨4,.data⟩,⟨6,.data⟩,⟨4,.chain⟩],none⟩) rfl (fun K hK=> ?_) (AllReadyH.cons (o:=⟨some 48,.buildSlice 48 7 #[(0,.const (Value.int IntKind.i64 18)),(1,.const (Value.int IntKind.i64 22)),(2,.const (Value.int IntKind.i64 24)),(3,.const (Value.int IntKind.i64 32)),(4,.const (Value.int IntKind.i64 34)),(5,.const (Value.int IntKind.i64 36)),(6,.const (Value.int IntKind.i64 49))],48,_,#[],none⟩) rfl (fun K hK=> ?_) AllReadyH.nil))
      · go_simp
        go_at_call 38; refine (HO.out _ _ _ (by first|exact ha.out|exact hd.out)).mono ?_; rintro e wo ⟨rfl,rfl⟩
        refine hK.out _ _ ?_ (fun hHeld=> ?_)
        · with_reducible exact K2.out
        clear hK K
        try simp only [Act.put,List.setIfInBounds_toArray,List.set_cons_zero,List.set_cons_succ]
        refine tkH 8 ⟨some 47,.binOp BinOp.or 24 (.tmp 39) (.tmp 46) 24,24,_,#[⟨0,.data⟩,⟨7,.data⟩],none⟩ ?_ ?_ ?_
        rotate_left
        · (intro w hSw; (try dsimp only at hSw); go_simp; try with_reducible rfl)
        simp only [Act.put,List.setIfInBounds_toArray,List.set_cons_zero,List.set_cons_succ]
        refine wpAnyH_ready (rs:=[9]) (by kernel_rfl) (by simp) ?_
        refine (AllReadyH.cons (o:=⟨some 48,.buildSlice 48 7 #[(0,.const (Value.int IntKind.i64 18)),(1,.const (Value.int IntKind.i64 22)),(2,.const (Value.int IntKind.i64 24)),(3,.const (Value.int IntKind.i64 32)),(4,.const (Value.int IntKind.i64 34)),(5,.const (Value.int IntKind.i64 36)),(6,.const (Value.int IntKind.i64 49))],48,_,#[],none⟩) rfl (fun K hK=> ?_) AllReadyH.nil)
        rw [if_pos (by kernel_rfl)]; first|(refine wp_ints intsU intI intZ 3 _ rfl [20,22,24] rfl (by decide) (by decide) rfl ?_; intro b1 wb hs hb; have HP:=hidW (HP.out.step hb); have K2:=hidW HP.out.held; have S1:=hidW hs; (try (have S2:=hidW (S2.out.below hb))); clear hs hb; refine hK.out _ _ HP.out.held (fun hHeld=> ?_))|(refine wp_ints intsU intI intZ 7 _ rfl [18,22,24,32,34,36,49] rfl (by decide) (by decide) rfl ?_; intro b2 wb hs hb; have HP:=hidW (HP.out.step hb); have K2:=hidW HP.out.held; have S2:=hidW hs; (try (have S1:=hidW (S1.out.below hb))); clear hs hb; refine hK.out _ _ HP.out.held (fun hHeld=> ?_))
        clear hK K
        try simp only [Act.put,List.setIfInBounds_toArray,List.set_cons_zero,List.set_cons_succ]
        refine wpAnyH_ready (rs:=[12]) (by kernel_rfl) (by simp) ?_
        refine (AllReadyH.cons (o:=⟨some 51,.call ⟨.value (.func 36),#[.tmp 48,.tmp 50],#[48,3]⟩,4,_,#[⟨9,.data⟩,⟨11,.data⟩,⟨7,.chain⟩],none⟩) rfl (fun K hK=> ?_) AllReadyH.nil)
        go_simp
        first|(go_at_call 36; refine (H1.out _ _ S1.out).mono ?_; rintro e wi ⟨rfl,rfl⟩; clear H1)|(go_at_call 36; refine (H2.out _ _ S2.out).mono ?_; rintro e wi ⟨rfl,rfl⟩; clear H2)
        refine hK.out _ _ ?_ (fun hHeld=> ?_)
        · with_reducible exact K2.out
        clear hK K
        try simp only [Act.put,List.setIfInBounds_toArray,List.set_cons_zero,List.set_cons_succ]
        refine wpAnyH_ready (rs:=[15]) (by kernel_rfl) (by simp) ?_
        refine (AllReadyH.cons (o:=⟨some 54,.call ⟨.value (.func 38),#[.tmp 51,.tmp 53],#[4,3]⟩,24,_,#[⟨12,.data⟩,⟨14,.data⟩,⟨12,.chain⟩],none⟩) rfl (fun K hK=> ?_) AllReadyH.nil)
        go_simp
        go_at_call 38; refine (HO.out _ _ _ (by first|exact ha.out|exact hd.out)).mono ?_; rintro e wo ⟨rfl,rfl⟩
        refine hK.out _ _ ?_ (fun hHeld=> ?_)
        · with_reducible exact K2.out
        clear hK K
        try simp only [Act.put,List.setIfInBounds_toArray,List.set_cons_zero,List.set_cons_succ]
        refine tkH 16 ⟨some 55,.binOp BinOp.or 24 (.tmp 47) (.tmp 54) 24,24,_,#[⟨8,.data⟩,⟨15,.data⟩],none⟩ ?_ ?_ ?_
        rotate_left
        · (intro w hSw; (try dsimp only at hSw); go_simp; try with_reducible rfl)
        simp only [Act.put,List.setIfInBounds_toArray,List.set_cons_zero,List.set_cons_succ]
        refine tkH 17 ⟨some 8,.assign (.tmp 55),24,_,#[⟨16,.data⟩,⟨15,.chain⟩,⟨0,.phase⟩,⟨1,.phase⟩,⟨2,.phase⟩,⟨3,.phase⟩,⟨4,.phase⟩,⟨5,.phase⟩,⟨6,.phase⟩,⟨7,.phase⟩,⟨8,.phase⟩,⟨9,.phase⟩,⟨10,.phase⟩,⟨11,.phase⟩,⟨12,.phase⟩,⟨13,.phase⟩,⟨14,.phase⟩,⟨15,.phase⟩,⟨16,.phase⟩],none⟩ ?_ ?_ ?_
        rotate_left
        · (intro w hSw; (try dsimp only at hSw); go_simp; try with_reducible rfl)
        simp only [Act.put,List.setIfInBounds_toArray,List.set_cons_zero,List.set_cons_succ]
        refine wpAnyH_done (by kernel_rfl) ?_ _
        obtain ⟨c1,c15⟩:=HP.out.c15
        go_wp2
        exact bodyPost_ret (by simp [results,Tryd.results18,go_sem,Act.put]) rfl ⟨rfl,HP.out.bel⟩
      · rw [if_pos (by kernel_rfl)]; first|(refine wp_ints intsU intI intZ 3 _ rfl [20,22,24] rfl (by decide) (by decide) rfl ?_; intro b1 wb hs hb; have HP:=hidW (HP.out.step hb); have K2:=hidW HP.out.held; have S1:=hidW hs; (try (have S2:=hidW (S2.out.below hb))); clear hs hb; refine hK.out _ _ HP.out.held (fun hHeld=> ?_))|(refine wp_ints intsU intI intZ 7 _ rfl [18,22,24,32,34,36,49] rfl (by decide) (by decide) rfl ?_; intro b2 wb hs hb; have HP:=hidW (HP.out.step hb); have K2:=hidW HP.out.held; have S2:=hidW hs; (try (have S1:=hidW (S1.out.below hb))); clear hs hb; refine hK.out _ _ HP.out.held (fun hHeld=> ?_))
        clear hK K
        try simp only [Act.put,List.setIfInBounds_toArray,List.set_cons_zero,List.set_cons_succ]
        refine wpAnyH_ready (rs:=[7]) (by kernel_rfl) (by simp) ?_
        refine (AllReadyH.cons (o:=⟨some 46,.call ⟨.value (.func 38),#[.tmp 43,.tmp 45],#[4,3]⟩,24,_,#[⟨4,.data⟩,⟨6,.data⟩,⟨4,.chain⟩],none⟩) rfl (fun K hK=> ?_) AllReadyH.nil)
        go_simp
        go_at_call 38; refine (HO.out _ _ _ (by first|exact ha.out|exact hd.out)).mono ?_; rintro e wo ⟨rfl,rfl⟩
        refine hK.out _ _ ?_ (fun hHeld=> ?_)
        · with_reducible exact K2.out
        clear hK K
        try simp only [Act.put,List.setIfInBounds_toArray,List.set_cons_zero,List.set_cons_succ]
        refine tkH 8 ⟨some 47,.binOp BinOp.or 24 (.tmp 39) (.tmp 46) 24,24,_,#[⟨0,.data⟩,⟨7,.data⟩],none⟩ ?_ ?_ ?_
        rotate_left
        · (intro w hSw; (try dsimp only at hSw); go_simp; try with_reducible rfl)
        simp only [Act.put,List.setIfInBounds_toArray,List.set_cons_zero,List.set_cons_succ]
        refine wpAnyH_ready (rs:=[12]) (by kernel_rfl) (by simp) ?_
        refine (AllReadyH.cons (o:=⟨some 51,.call ⟨.value (.func 36),#[.tmp 48,.tmp 50],#[48,3]⟩,4,_,#[⟨9,.data⟩,⟨11,.data⟩,⟨7,.chain⟩],none⟩) rfl (fun K hK=> ?_) AllReadyH.nil)
        go_simp
        first|(go_at_call 36; refine (H1.out _ _ S1.out).mono ?_; rintro e wi ⟨rfl,rfl⟩; clear H1)|(go_at_call 36; refine (H2.out _ _ S2.out).mono ?_; rintro e wi ⟨rfl,rfl⟩; clear H2)
        refine hK.out _ _ ?_ (fun hHeld=> ?_)
        · with_reducible exact K2.out
        clear hK K
        try simp only [Act.put,List.setIfInBounds_toArray,List.set_cons_zero,List.set_cons_succ]
        refine wpAnyH_ready (rs:=[15]) (by kernel_rfl) (by simp) ?_
        refine (AllReadyH.cons (o:=⟨some 54,.call ⟨.value (.func 38),#[.tmp 51,.tmp 53],#[4,3]⟩,24,_,#[⟨12,.data⟩,⟨14,.data⟩,⟨12,.chain⟩],none⟩) rfl (fun K hK=> ?_) AllReadyH.nil)
        go_simp
        go_at_call 38; refine (HO.out _ _ _ (by first|exact ha.out|exact hd.out)).mono ?_; rintro e wo ⟨rfl,rfl⟩
        refine hK.out _ _ ?_ (fun hHeld=> ?_)
        · with_reducible exact K2.out
        clear hK K
        try simp only [Act.put,List.setIfInBounds_toArray,List.set_cons_zero,List.set_cons_succ]
        refine tkH 16 ⟨some 55,.binOp BinOp.or 24 (.tmp 47) (.tmp 54) 24,24,_,#[⟨8,.data⟩,⟨15,.data⟩],none⟩ ?_ ?_ ?_
        rotate_left
        · (intro w hSw; (try dsimp only at hSw); go_simp; try with_reducible rfl)
        simp only [Act.put,List.setIfInBounds_toArray,List.set_cons_zero,List.set_cons_succ]
        refine tkH 17 ⟨some 8,.assign (.tmp 55),24,_,#[⟨16,.data⟩,⟨15,.chain⟩,⟨0,.phase⟩,⟨1,.phase⟩,⟨2,.phase⟩,⟨3,.phase⟩,⟨4,.phase⟩,⟨5,.phase⟩,⟨6,.phase⟩,⟨7,.phase⟩,⟨8,.phase⟩,⟨9,.phase⟩,⟨10,.phase⟩,⟨11,.phase⟩,⟨12,.phase⟩,⟨13,.phase⟩,⟨14,.phase⟩,⟨15,.phase⟩,⟨16,.phase⟩],none⟩ ?_ ?_ ?_
        rotate_left
        · (intro w hSw; (try dsimp only at hSw); go_simp; try with_reducible rfl)
        simp only [Act.put,List.setIfInBounds_toArray,List.set_cons_zero,List.set_cons_succ]
        refine wpAnyH_done (by kernel_rfl) ?_ _
        obtain ⟨c1,c15⟩:=HP.out.c15
        go_wp2
        exact bodyPost_ret (by simp [results,Tryd.results18,go_sem,Act.put]) rfl ⟨rfl,HP.out.bel⟩
    · rw [if_pos (by kernel_rfl)]; first|(refine wp_ints intsU intI intZ 3 _ rfl [20,22,24] rfl (by decide) (by decide) rfl ?_; intro b1 wb hs hb; have HP:=hidW (HP.out.step hb); have K2:=hidW HP.out.held; have S1:=hidW hs; (try (have S2:=hidW (S2.out.below hb))); clear hs hb; refine hK.out _ _ HP.out.held (fun hHeld=> ?_))|(refine wp_ints intsU intI intZ 7 _ rfl [18,22,24,32,34,36,49] rfl (by decide) (by decide) rfl ?_; intro b2 wb hs hb; have HP:=hidW (HP.out.step hb); have K2:=hidW HP.out.held; have S2:=hidW hs; (try (have S1:=hidW (S1.out.below hb))); clear hs hb; refine hK.out _ _ HP.out.held (fun hHeld=> ?_))
      clear hK K
      try simp only [Act.put,List.setIfInBounds_toArray,List.set_cons_zero,List.set_cons_succ]
      refine wpAnyH_ready (rs:=[4]) (by kernel_rfl) (by simp) ?_
      refine (AllReadyH.cons (o:=⟨some 43,.call ⟨.value (.func 36),#[.tmp 40,.tmp 42],#[48,3]⟩,4,_,#[⟨1,.data⟩,⟨3,.data⟩],none⟩) rfl (fun K hK=> ?_) AllReadyH.nil)
      go_simp
      first|(go_at_call 36; refine (H1.out _ _ S1.out).mono ?_; rintro e wi ⟨rfl,rfl⟩; clear H1)|(go_at_call 36; refine (H2.out _ _ S2.out).mono ?_; rintro e wi ⟨rfl,rfl⟩; clear H2)
      refine hK.out _ _ ?_ (fun hHeld=> ?_)
      · with_reducible exact K2.out
      clear hK K
      try simp only [Act.put,List.setIfInBounds_toArray,List.set_cons_zero,List.set_cons_succ]
      refine wpAnyH_ready (rs:=[7]) (by kernel_rfl) (by simp) ?_
      refine (AllReadyH.cons (o:=⟨some 46,.call ⟨.value (.func 38),#[.tmp 43,.tmp 45],#[4,3]⟩,24,_,#[⟨4,.data⟩,⟨6,.data⟩,⟨4,.chain⟩],none⟩) rfl (fun K hK=> ?_) AllReadyH.nil)
      go_simp
      go_at_call 38; refine (HO.out _ _ _ (by first|exact ha.out|exact hd.out)).mono ?_; rintro e wo ⟨rfl,rfl⟩
      refine hK.out _ _ ?_ (fun hHeld=> ?_)
      · with_reducible exact K2.out
      clear hK K
      try simp only [Act.put,List.setIfInBounds_toArray,List.set_cons_zero,List.set_cons_succ]
      refine tkH 8 ⟨some 47,.binOp BinOp.or 24 (.tmp 39) (.tmp 46) 24,24,_,#[⟨0,.data⟩,⟨7,.data⟩],none⟩ ?_ ?_ ?_
      rotate_left
      · (intro w hSw; (try dsimp only at hSw); go_simp; try with_reducible rfl)
      simp only [Act.put,List.setIfInBounds_toArray,List.set_cons_zero,List.set_cons_succ]
      refine wpAnyH_ready (rs:=[12]) (by kernel_rfl) (by simp) ?_
      refine (AllReadyH.cons (o:=⟨some 51,.call ⟨.value (.func 36),#[.tmp 48,.tmp 50],#[48,3]⟩,4,_,#[⟨9,.data⟩,⟨11,.data⟩,⟨7,.chain⟩],none⟩) rfl (fun K hK=> ?_) AllReadyH.nil)
      go_simp
      first|(go_at_call 36; refine (H1.out _ _ S1.out).mono ?_; rintro e wi ⟨rfl,rfl⟩; clear H1)|(go_at_call 36; refine (H2.out _ _ S2.out).mono ?_; rintro e wi ⟨rfl,rfl⟩; clear H2)
      refine hK.out _ _ ?_ (fun hHeld=> ?_)
      · with_reducible exact K2.out
      clear hK K
      try simp only [Act.put,List.setIfInBounds_toArray,List.set_cons_zero,List.set_cons_succ]
      refine wpAnyH_ready (rs:=[15]) (by kernel_rfl) (by simp) ?_
      refine (AllReadyH.cons (o:=⟨some 54,.call ⟨.value (.func 38),#[.tmp 51,.tmp 53],#[4,3]⟩,24,_,#[⟨12,.data⟩,⟨14,.data⟩,⟨12,.chain⟩],none⟩) rfl (fun K hK=> ?_) AllReadyH.nil)
      go_simp
      go_at_call 38; refine (HO.out _ _ _ (by first|exact ha.out|exact hd.out)).mono ?_; rintro e wo ⟨rfl,rfl⟩
      refine hK.out _ _ ?_ (fun hHeld=> ?_)
      · with_reducible exact K2.out
      clear hK K
      try simp only [Act.put,List.setIfInBounds_toArray,List.set_cons_zero,List.set_cons_succ]
      refine tkH 16 ⟨some 55,.binOp BinOp.or 24 (.tmp 47) (.tmp 54) 24,24,_,#[⟨8,.data⟩,⟨15,.data⟩],none⟩ ?_ ?_ ?_
      rotate_left
      · (intro w hSw; (try dsimp only at hSw); go_simp; try with_reducible rfl)
      simp only [Act.put,List.setIfInBounds_toArray,List.set_cons_zero,List.set_cons_succ]
      refine tkH 17 ⟨some 8,.assign (.tmp 55),24,_,#[⟨16,.data⟩,⟨15,.chain⟩,⟨0,.phase⟩,⟨1,.phase⟩,⟨2,.phase⟩,⟨3,.phase⟩,⟨4,.phase⟩,⟨5,.phase⟩,⟨6,.phase⟩,⟨7,.phase⟩,⟨8,.phase⟩,⟨9,.phase⟩,⟨10,.phase⟩,⟨11,.phase⟩,⟨12,.phase⟩,⟨13,.phase⟩,⟨14,.phase⟩,⟨15,.phase⟩,⟨16,.phase⟩],none⟩ ?_ ?_ ?_
      rotate_left
      · (intro w hSw; (try dsimp only at hSw); go_simp; try with_reducible rfl)
      simp only [Act.put,List.setIfInBounds_toArray,List.set_cons_zero,List.set_cons_succ]
      refine wpAnyH_done (by kernel_rfl) ?_ _
      obtain ⟨c1,c15⟩:=HP.out.c15
      go_wp2
      exact bodyPost_ret (by simp [results,Tryd.results18,go_sem,Act.put]) rfl ⟨rfl,HP.out.bel⟩
  · rw [if_pos (by kernel_rfl)]; first|(refine wp_ints intsU intI intZ 3 _ rfl [20,22,24] rfl (by decide) (by decide) rfl ?_; intro b1 wb hs hb; have HP:=hidW (HP.out.step hb); have K2:=hidW HP.out.held; have S1:=hidW hs; (try (have S2:=hidW (S2.out.below hb))); clear hs hb; refine hK.out _ _ HP.out.held (fun hHeld=> ?_))|(refine wp_ints intsU intI intZ 7 _ rfl [18,22,24,32,34,36,49] rfl (by decide) (by decide) rfl ?_; intro b2 wb hs hb; have HP:=hidW (HP.out.step hb); have K2:=hidW HP.out.held; have S2:=hidW hs; (try (have S1:=hidW (S1.out.below hb))); clear hs hb; refine hK.out _ _ HP.out.held (fun hHeld=> ?_))
    clear hK K
    try simp only [Act.put,List.setIfInBounds_toArray,List.set_cons_zero,List.set_cons_succ]
    refine wpAnyH_ready (rs:=[1]) (by kernel_rfl) (by simp) ?_
    refine (AllReadyH.cons (o:=⟨some 40,.buildSlice 48 3 #[(0,.const (Value.int IntKind.i64 20)),(1,.const (Value.int IntKind.i64 22)),(2,.const (Value.int IntKind.i64 24))],48,_,#[],none⟩) rfl (fun K hK=> ?_) AllReadyH.nil)
    rw [if_pos (by kernel_rfl)]; first|(refine wp_ints intsU intI intZ 3 _ rfl [20,22,24] rfl (by decide) (by decide) rfl ?_; intro b1 wb hs hb; have HP:=hidW (HP.out.step hb); have K2:=hidW HP.out.held; have S1:=hidW hs; (try (have S2:=hidW (S2.out.below hb))); clear hs hb; refine hK.out _ _ HP.out.held (fun hHeld=> ?_))|(refine wp_ints intsU intI intZ 7 _ rfl [18,22,24,32,34,36,49] rfl (by decide) (by decide) rfl ?_; intro b2 wb hs hb; have HP:=hidW (HP.out.step hb); have K2:=hidW HP.out.held; have S2:=hidW hs; (try (have S1:=hidW (S1.out.below hb))); clear hs hb; refine hK.out _ _ HP.out.held (fun hHeld=> ?_))
    clear hK K
    try simp only [Act.put,List.setIfInBounds_toArray,List.set_cons_zero,List.set_cons_succ]
    refine wpAnyH_ready (rs:=[4]) (by kernel_rfl) (by simp) ?_
    refine (AllReadyH.cons (o:=⟨some 43,.call ⟨.value (.func 36),#[.tmp 40,.tmp 42],#[48,3]⟩,4,_,#[⟨1,.data⟩,⟨3,.data⟩],none⟩) rfl (fun K hK=> ?_) AllReadyH.nil)
    go_simp
    first|(go_at_call 36; refine (H1.out _ _ S1.out).mono ?_; rintro e wi ⟨rfl,rfl⟩; clear H1)|(go_at_call 36; refine (H2.out _ _ S2.out).mono ?_; rintro e wi ⟨rfl,rfl⟩; clear H2)
    refine hK.out _ _ ?_ (fun hHeld=> ?_)
    · with_reducible exact K2.out
    clear hK K
    try simp only [Act.put,List.setIfInBounds_toArray,List.set_cons_zero,List.set_cons_succ]
    refine wpAnyH_ready (rs:=[7]) (by kernel_rfl) (by simp) ?_
    refine (AllReadyH.cons (o:=⟨some 46,.call ⟨.value (.func 38),#[.tmp 43,.tmp 45],#[4,3]⟩,24,_,#[⟨4,.data⟩,⟨6,.data⟩,⟨4,.chain⟩],none⟩) rfl (fun K hK=> ?_) AllReadyH.nil)
    go_simp
    go_at_call 38; refine (HO.out _ _ _ (by first|exact ha.out|exact hd.out)).mono ?_; rintro e wo ⟨rfl,rfl⟩
    refine hK.out _ _ ?_ (fun hHeld=> ?_)
    · with_reducible exact K2.out
    clear hK K
    try simp only [Act.put,List.setIfInBounds_toArray,List.set_cons_zero,List.set_cons_succ]
    refine tkH 8 ⟨some 47,.binOp BinOp.or 24 (.tmp 39) (.tmp 46) 24,24,_,#[⟨0,.data⟩,⟨7,.data⟩],none⟩ ?_ ?_ ?_
    rotate_left
    · (intro w hSw; (try dsimp only at hSw); go_simp; try with_reducible rfl)
    simp only [Act.put,List.setIfInBounds_toArray,List.set_cons_zero,List.set_cons_succ]
    refine wpAnyH_ready (rs:=[12]) (by kernel_rfl) (by simp) ?_
    refine (AllReadyH.cons (o:=⟨some 51,.call ⟨.value (.func 36),#[.tmp 48,.tmp 50],#[48,3]⟩,4,_,#[⟨9,.data⟩,⟨11,.data⟩,⟨7,.chain⟩],none⟩) rfl (fun K hK=> ?_) AllReadyH.nil)
    go_simp
    first|(go_at_call 36; refine (H1.out _ _ S1.out).mono ?_; rintro e wi ⟨rfl,rfl⟩; clear H1)|(go_at_call 36; refine (H2.out _ _ S2.out).mono ?_; rintro e wi ⟨rfl,rfl⟩; clear H2)
    refine hK.out _ _ ?_ (fun hHeld=> ?_)
    · with_reducible exact K2.out
    clear hK K
    try simp only [Act.put,List.setIfInBounds_toArray,List.set_cons_zero,List.set_cons_succ]
    refine wpAnyH_ready (rs:=[15]) (by kernel_rfl) (by simp) ?_
    refine (AllReadyH.cons (o:=⟨some 54,.call ⟨.value (.func 38),#[.tmp 51,.tmp 53],#[4,3]⟩,24,_,#[⟨12,.data⟩,⟨14,.data⟩,⟨12,.chain⟩],none⟩) rfl (fun K hK=> ?_) AllReadyH.nil)
    go_simp
    go_at_call 38; refine (HO.out _ _ _ (by first|exact ha.out|exact hd.out)).mono ?_; rintro e wo ⟨rfl,rfl⟩
    refine hK.out _ _ ?_ (fun hHeld=> ?_)
    · with_reducible exact K2.out
    clear hK K
    try simp only [Act.put,List.setIfInBounds_toArray,List.set_cons_zero,List.set_cons_succ]
    refine tkH 16 ⟨some 55,.binOp BinOp.or 24 (.tmp 47) (.tmp 54) 24,24,_,#[⟨8,.data⟩,⟨15,.data⟩],none⟩ ?_ ?_ ?_
    rotate_left
    · (intro w hSw; (try dsimp only at hSw); go_simp; try with_reducible rfl)
    simp only [Act.put,List.setIfInBounds_toArray,List.set_cons_zero,List.set_cons_succ]
    refine tkH 17 ⟨some 8,.assign (.tmp 55),24,_,#[⟨16,.data⟩,⟨15,.chain⟩,⟨0,.phase⟩,⟨1,.phase⟩,⟨2,.phase⟩,⟨3,.phase⟩,⟨4,.phase⟩,⟨5,.phase⟩,⟨6,.phase⟩,⟨7,.phase⟩,⟨8,.phase⟩,⟨9,.phase⟩,⟨10,.phase⟩,⟨11,.phase⟩,⟨12,.phase⟩,⟨13,.phase⟩,⟨14,.phase⟩,⟨15,.phase⟩,⟨16,.phase⟩],none⟩ ?_ ?_ ?_
    rotate_left
    · (intro w hSw; (try dsimp only at hSw); go_simp; try with_reducible rfl)
    simp only [Act.put,List.setIfInBounds_toArray,List.set_cons_zero,List.set_cons_succ]
    refine wpAnyH_done (by kernel_rfl) ?_ _
    obtain ⟨c1,c15⟩:=HP.out.c15
    go_wp2
    exact bodyPost_ret (by simp [results,Tryd.results18,go_sem,Act.put]) rfl ⟨rfl,HP.out.bel⟩
set_option maxRecDepth 100000 in
set_option maxHeartbeats 2000000 in
theorem reads_forty (jc jo jf jd jn jm jr ja ji jt jk jl jx jy jz jv Y:Int) (js jp ju jw:Bool) (w:World) (II:List Value) (FH:Int→Bool) (ON:Bool→Int→Int) (C1 C2 OKf:Bool)
    (HE:Hid (∀w',Calls Tryd.prog 16 #[.agg ([.int .i64 jc,.int .i64 jo,.bool js,.int .i64 jf,.int .i64 jd,.int .i64 jn,.int .i64 jm,.int .i64 jr,.int .i64 ja,.int .u32 ji,.int .i64 jt,.int .i64 jk,.bool jp,.bool ju,.bool jw,.int .u16 jl,.int .i64 jx,.int .i64 jy,.int .i64 jz,.int .i64 jv]).toArray] w' fun e w''=>e= .returned (.tuple #[.int .u32 Y,.int .i64 0])∧Below w'.heap.size w' w''))
    (HFd:Hid (∀w',Calls Tryd.prog 34 #[.int .u32 Y] w' fun e w''=>(∃v0 v1 v2,e= .returned (.tuple #[.agg #[v0,v1,v2],.agg II.toArray,.bool OKf])∧(∀(K:Int) w',0≤K→K<256→K≠32→Calls Tryd.prog 39 #[.agg #[v0,v1,v2],.int .u8 K] w' fun e w''=>e= .returned (.bool (FH K))∧Below w'.heap.size w' w'')∧(#[v0,v1,v2]:Array Value).all (·.oneCell')=true)∧Below w'.heap.size w' w''))
    (HO:Hid (∀b (n:Int) w',0≤n∧n<16→Calls Tryd.prog 38 #[.bool b,.int .i64 n] w' fun e w''=>e= .returned (.int .u16 (ON b n))∧w''=w'))
    (H1:Hid (∀b w',Sl w' b [20,22,24]→Calls Tryd.prog 36 #[.slice (some ⟨b,0,none⟩) 3 3,.int .i64 jo] w' fun e w''=>e= .returned (.bool C1)∧w''=w'))
    (H2:Hid (∀b w',Sl w' b [18,22,24,32,34,36,49]→Calls Tryd.prog 36 #[.slice (some ⟨b,0,none⟩) 7 7,.int .i64 jo] w' fun e w''=>e= .returned (.bool C2)∧w''=w'))
    (HLE:Hid (II.length=20)) (HOI:Hid (II.toArray.all (·.oneCell')=true)) (HS2:Hid ((Tryd.prog.info? 28).map (·.size)=some II.toArray.size))
    (hn:Hid (0≤jn∧jn<16)) (hm:Hid (0≤jm∧jm<16)) (hr:Hid (0≤jr∧jr<16)) (ha:Hid (0≤ja∧ja<16)) (hd:Hid (0≤jd∧jd<16)) (h40:(jo == 40)=true) :
    Calls Tryd.prog 18 #[.agg ([.int .i64 jc,.int .i64 jo,.bool js,.int .i64 jf,.int .i64 jd,.int .i64 jn,.int .i64 jm,.int .i64 jr,.int .i64 ja,.int .u32 ji,.int .i64 jt,.int .i64 jk,.bool jp,.bool ju,.bool jw,.int .u16 jl,.int .i64 jx,.int .i64 jy,.int .i64 jz,.int .i64 jv]).toArray] w fun e w'=>e= .returned (.int .u16 (bits .or .u16 (bits .or .u16 (bits .or .u16 (bits .or .u16 (bits .or .u16 (ON (FH 110) jn) (ON (FH 109) jm)) (ON (FH 114) jr)) (ON C1 ja)) (ON C2 jd)) jl))∧Below w.heap.size w w':=by
  have HB:=hidW (AX.first w ([.int .i64 jc,.int .i64 jo,.bool js,.int .i64 jf,.int .i64 jd,.int .i64 jn,.int .i64 jm,.int .i64 jr,.int .i64 ja,.int .u32 ji,.int .i64 jt,.int .i64 jk,.bool jp,.bool ju,.bool jw,.int .u16 jl,.int .i64 jx,.int .i64 jy,.int .i64 jz,.int .i64 jv]))
  go_enter Tryd.func18,Tryd.ntmps18
  go_wp2_with (first
    | (guard_target =~ wpList _ _ _ (Oper.mk (some 10) _ _ _ _ _::_) _ _; refine wpList_load_mid rfl _ _ rfl w.heap.size 0 rfl _ _ HB.out.res.range Tryd.underlying28 rfl ins_size ?_)
    | (go_at_call 16; refine (HE.out _).mono ?_; rintro e w0 ⟨rfl,hb⟩; have HB:=hidW (HB.out.step hb); clear hb HE)
    | (go_at_call 34; refine (HFd.out _).mono ?_; rintro e w1 ⟨⟨v0,v1,v2,rfl,hh,ho3⟩,hb⟩; have HB:=hidW (HB.out.step hb); have HH:=hidW hh; have HV3:=hidW ho3; clear hb hh ho3 HFd)
    | (guard_target =~ wpList _ _ _ (Oper.mk none (Op.store 50 _ _) _ _ _ _::_) _ _; have HZ:=hidW (ZX.first w1 [.slice none 0 0,.int .i64 0,.string ⟨#[]⟩] (insL insZ)); refine wpList_store_mid rfl _ _ _ rfl w1.heap.size 0 #[v0,v1,v2] rfl rfl (HZ.out.row.there 3 rfl) rowI HV3.out ?_; generalize hW2:World.setCells _ _ _ _=w2; have HZ:=hidW (show ZX w1 [v0,v1,v2] (insL insZ) w2 from hW2▸HZ.out.setRow [v0,v1,v2] rfl); clear hW2)
    | (guard_target =~ wpList _ _ _ (Oper.mk none (Op.store 28 (Operand.tmp 6) _) _ _ _ _::_) _ _; refine wpList_store_mid rfl _ _ _ rfl (w1.heap.size+1) 0 II.toArray rfl rfl (HZ.out.res.there _ (by rw [List.size_toArray]; exact HLE.out)) HS2.out HOI.out ?_; generalize hW3:World.setCells _ _ _ _=w3; have HZ:=hidW (show ZX w1 [v0,v1,v2] II w3 from hW3▸HZ.out.setIns II HLE.out); clear hW3; have HP:=hidW (PX.mk (Below.step HB.out.bel HZ.out.bel) (HB.out.res.below HZ.out.bel) HZ.out.row)))
  clear HZ HB
  generalize w1.heap.size=q at HP ⊢
  have HP:=hidW HP.out.drew
  have K1:=HP.out.held
  refine wp_region_held_drew (S:=fun w'=>w'.cell? ⟨q,0,none⟩=some v0∧w'.cell? ⟨q,1,none⟩=some v1∧w'.cell? ⟨q,2,none⟩=some v2∧w'.cell? ⟨w.heap.size,1,none⟩=some (.int .i64 jo)∧w'.cell? ⟨w.heap.size,4,none⟩=some (.int .i64 jd)∧w'.cell? ⟨w.heap.size,5,none⟩=some (.int .i64 jn)∧w'.cell? ⟨w.heap.size,6,none⟩=some (.int .i64 jm)∧w'.cell? ⟨w.heap.size,7,none⟩=some (.int .i64 jr)∧w'.cell? ⟨w.heap.size,8,none⟩=some (.int .i64 ja)) (by kernel_rfl) K1 (fun hHeld=> ?_)
  clear hHeld
  have K2:=hidW K1
  clear K1
  refine tkH 0 ⟨some 22,.load 50 (.tmp 5),50,_,#[],none⟩ ?_ ?_ ?_
  rotate_left
  · (intro w hSw; (try dsimp only at hSw); go_simp; try with_reducible rfl)
  simp only [Act.put,List.setIfInBounds_toArray,List.set_cons_zero,List.set_cons_succ]
  refine tkH 2 ⟨some 24,.fieldAddr 28 (.tmp 1) 5,0,_,#[],none⟩ ?_ ?_ ?_
  rotate_left
  · (intro w hSw; (try dsimp only at hSw); go_simp; try with_reducible rfl)
  simp only [Act.put,List.setIfInBounds_toArray,List.set_cons_zero,List.set_cons_succ]
  refine tkH 3 ⟨some 25,.load 3 (.tmp 24),3,_,#[⟨2,.data⟩],none⟩ ?_ ?_ ?_
  rotate_left
  · (intro w hSw; (try dsimp only at hSw); go_simp; try with_reducible rfl)
  simp only [Act.put,List.setIfInBounds_toArray,List.set_cons_zero,List.set_cons_succ]
  refine tkH 5 ⟨some 27,.load 50 (.tmp 5),50,_,#[],none⟩ ?_ ?_ ?_
  rotate_left
  · (intro w hSw; (try dsimp only at hSw); go_simp; try with_reducible rfl)
  simp only [Act.put,List.setIfInBounds_toArray,List.set_cons_zero,List.set_cons_succ]
  refine tkH 7 ⟨some 29,.fieldAddr 28 (.tmp 1) 6,0,_,#[],none⟩ ?_ ?_ ?_
  rotate_left
  · (intro w hSw; (try dsimp only at hSw); go_simp; try with_reducible rfl)
  simp only [Act.put,List.setIfInBounds_toArray,List.set_cons_zero,List.set_cons_succ]
  refine tkH 8 ⟨some 30,.load 3 (.tmp 29),3,_,#[⟨7,.data⟩],none⟩ ?_ ?_ ?_
  rotate_left
  · (intro w hSw; (try dsimp only at hSw); go_simp; try with_reducible rfl)
  simp only [Act.put,List.setIfInBounds_toArray,List.set_cons_zero,List.set_cons_succ]
  refine tkH 11 ⟨some 33,.load 50 (.tmp 5),50,_,#[],none⟩ ?_ ?_ ?_
  rotate_left
  · (intro w hSw; (try dsimp only at hSw); go_simp; try with_reducible rfl)
  simp only [Act.put,List.setIfInBounds_toArray,List.set_cons_zero,List.set_cons_succ]
  refine tkH 13 ⟨some 35,.fieldAddr 28 (.tmp 1) 7,0,_,#[],none⟩ ?_ ?_ ?_
  rotate_left
  · (intro w hSw; (try dsimp only at hSw); go_simp; try with_reducible rfl)
  simp only [Act.put,List.setIfInBounds_toArray,List.set_cons_zero,List.set_cons_succ]
  refine tkH 14 ⟨some 36,.load 3 (.tmp 35),3,_,#[⟨13,.data⟩],none⟩ ?_ ?_ ?_
  rotate_left
  · (intro w hSw; (try dsimp only at hSw); go_simp; try with_reducible rfl)
  simp only [Act.put,List.setIfInBounds_toArray,List.set_cons_zero,List.set_cons_succ]
  refine wpAnyH_ready (rs:=[1]) (by kernel_rfl) (by simp) ?_
  refine AllReadyH.cons (o:=⟨some 23,.call ⟨.value (.func 39),#[.tmp 22,.const (Value.int IntKind.u8 110)],#[50,5]⟩,4,_,#[⟨0,.data⟩],none⟩) rfl (fun K hK=> ?_) AllReadyH.nil
  go_simp
  go_at_call 39; refine (HH.out _ _ (by decide) (by decide) (by decide)).mono ?_; rintro e wh ⟨rfl,hb⟩; have HP:=hidW (HP.out.step hb); have K2:=hidW HP.out.held; clear hb
  refine hK.out _ _ ?_ (fun hHeld=> ?_)
  · with_reducible exact K2.out
  clear hK K
  try simp only [Act.put,List.setIfInBounds_toArray,List.set_cons_zero,List.set_cons_succ]
  refine wpAnyH_ready (rs:=[4]) (by kernel_rfl) (by simp) ?_
  refine AllReadyH.cons (o:=⟨some 26,.call ⟨.value (.func 38),#[.tmp 23,.tmp 25],#[4,3]⟩,24,_,#[⟨1,.data⟩,⟨3,.data⟩,⟨1,.chain⟩],none⟩) rfl (fun K hK=> ?_) AllReadyH.nil
  go_simp
  go_at_call 38; refine (HO.out _ _ _ (by first|exact hn.out|exact hm.out|exact hr.out)).mono ?_; rintro e wo ⟨rfl,rfl⟩
  refine hK.out _ _ ?_ (fun hHeld=> ?_)
  · with_reducible exact K2.out
  clear hK K
  try simp only [Act.put,List.setIfInBounds_toArray,List.set_cons_zero,List.set_cons_succ]
  refine wpAnyH_ready (rs:=[6]) (by kernel_rfl) (by simp) ?_
  refine AllReadyH.cons (o:=⟨some 28,.call ⟨.value (.func 39),#[.tmp 27,.const (Value.int IntKind.u8 109)],#[50,5]⟩,4,_,#[⟨5,.data⟩,⟨4,.chain⟩],none⟩) rfl (fun K hK=> ?_) AllReadyH.nil
  go_simp
  go_at_call 39; refine (HH.out _ _ (by decide) (by decide) (by decide)).mono ?_; rintro e wh ⟨rfl,hb⟩; have HP:=hidW (HP.out.step hb); have K2:=hidW HP.out.held; clear hb
  refine hK.out _ _ ?_ (fun hHeld=> ?_)
  · with_reducible exact K2.out
  clear hK K
  try simp only [Act.put,List.setIfInBounds_toArray,List.set_cons_zero,List.set_cons_succ]
  refine wpAnyH_ready (rs:=[9]) (by kernel_rfl) (by simp) ?_
  refine AllReadyH.cons (o:=⟨some 31,.call ⟨.value (.func 38),#[.tmp 28,.tmp 30],#[4,3]⟩,24,_,#[⟨6,.data⟩,⟨8,.data⟩,⟨6,.chain⟩],none⟩) rfl (fun K hK=> ?_) AllReadyH.nil
  go_simp
  go_at_call 38; refine (HO.out _ _ _ (by first|exact hn.out|exact hm.out|exact hr.out)).mono ?_; rintro e wo ⟨rfl,rfl⟩
  refine hK.out _ _ ?_ (fun hHeld=> ?_)
  · with_reducible exact K2.out
  clear hK K
  try simp only [Act.put,List.setIfInBounds_toArray,List.set_cons_zero,List.set_cons_succ]
  refine tkH 10 ⟨some 32,.binOp BinOp.or 24 (.tmp 26) (.tmp 31) 24,24,_,#[⟨4,.data⟩,⟨9,.data⟩],none⟩ ?_ ?_ ?_
  rotate_left
  · (intro w hSw; (try dsimp only at hSw); go_simp; try with_reducible rfl)
  simp only [Act.put,List.setIfInBounds_toArray,List.set_cons_zero,List.set_cons_succ]
  refine wpAnyH_ready (rs:=[12]) (by kernel_rfl) (by simp) ?_
  refine AllReadyH.cons (o:=⟨some 34,.call ⟨.value (.func 39),#[.tmp 33,.const (Value.int IntKind.u8 114)],#[50,5]⟩,4,_,#[⟨11,.data⟩,⟨9,.chain⟩],none⟩) rfl (fun K hK=> ?_) AllReadyH.nil
  go_simp
  go_at_call 39; refine (HH.out _ _ (by decide) (by decide) (by decide)).mono ?_; rintro e wh ⟨rfl,hb⟩; have HP:=hidW (HP.out.step hb); have K2:=hidW HP.out.held; clear hb
  refine hK.out _ _ ?_ (fun hHeld=> ?_)
  · with_reducible exact K2.out
  clear hK K
  try simp only [Act.put,List.setIfInBounds_toArray,List.set_cons_zero,List.set_cons_succ]
  refine wpAnyH_ready (rs:=[15]) (by kernel_rfl) (by simp) ?_
  refine AllReadyH.cons (o:=⟨some 37,.call ⟨.value (.func 38),#[.tmp 34,.tmp 36],#[4,3]⟩,24,_,#[⟨12,.data⟩,⟨14,.data⟩,⟨12,.chain⟩],none⟩) rfl (fun K hK=> ?_) AllReadyH.nil
  go_simp
  go_at_call 38; refine (HO.out _ _ _ (by first|exact hn.out|exact hm.out|exact hr.out)).mono ?_; rintro e wo ⟨rfl,rfl⟩
  refine hK.out _ _ ?_ (fun hHeld=> ?_)
  · with_reducible exact K2.out
  clear hK K
  try simp only [Act.put,List.setIfInBounds_toArray,List.set_cons_zero,List.set_cons_succ]
  refine tkH 16 ⟨some 38,.binOp BinOp.or 24 (.tmp 32) (.tmp 37) 24,24,_,#[⟨10,.data⟩,⟨15,.data⟩],none⟩ ?_ ?_ ?_
  rotate_left
  · (intro w hSw; (try dsimp only at hSw); go_simp; try with_reducible rfl)
  simp only [Act.put,List.setIfInBounds_toArray,List.set_cons_zero,List.set_cons_succ]
  refine tkH 17 ⟨some 8,.assign (.tmp 38),24,_,#[⟨16,.data⟩,⟨15,.chain⟩,⟨0,.phase⟩,⟨1,.phase⟩,⟨2,.phase⟩,⟨3,.phase⟩,⟨4,.phase⟩,⟨5,.phase⟩,⟨6,.phase⟩,⟨7,.phase⟩,⟨8,.phase⟩,⟨9,.phase⟩,⟨10,.phase⟩,⟨11,.phase⟩,⟨12,.phase⟩,⟨13,.phase⟩,⟨14,.phase⟩,⟨15,.phase⟩,⟨16,.phase⟩],none⟩ ?_ ?_ ?_
  rotate_left
  · (intro w hSw; (try dsimp only at hSw); go_simp; try with_reducible rfl)
  simp only [Act.put,List.setIfInBounds_toArray,List.set_cons_zero,List.set_cons_succ]
  refine wpAnyH_done (by kernel_rfl) ?_ _
  go_wp2
  have HP:=hidW HP.out.drew
  have K1:=HP.out.held
  refine wp_region_held_drew (S:=fun w'=>w'.cell? ⟨q,0,none⟩=some v0∧w'.cell? ⟨q,1,none⟩=some v1∧w'.cell? ⟨q,2,none⟩=some v2∧w'.cell? ⟨w.heap.size,1,none⟩=some (.int .i64 jo)∧w'.cell? ⟨w.heap.size,4,none⟩=some (.int .i64 jd)∧w'.cell? ⟨w.heap.size,5,none⟩=some (.int .i64 jn)∧w'.cell? ⟨w.heap.size,6,none⟩=some (.int .i64 jm)∧w'.cell? ⟨w.heap.size,7,none⟩=some (.int .i64 jr)∧w'.cell? ⟨w.heap.size,8,none⟩=some (.int .i64 ja)) (by kernel_rfl) K1 (fun hHeld=> ?_)
  clear hHeld
  have K2:=hidW K1
  clear K1
  refine tkH 0 ⟨some 39,.move (.tmp 8),24,_,#[],none⟩ ?_ ?_ ?_
  rotate_left
  · (intro w hSw; (try dsimp only at hSw); go_simp; try with_reducible rfl)
  simp only [Act.put,List.setIfInBounds_toArray,List.set_cons_zero,List.set_cons_succ]
  refine tkH 2 ⟨some 41,.fieldAddr 28 (.tmp 1) 1,0,_,#[],none⟩ ?_ ?_ ?_
  rotate_left
  · (intro w hSw; (try dsimp only at hSw); go_simp; try with_reducible rfl)
  simp only [Act.put,List.setIfInBounds_toArray,List.set_cons_zero,List.set_cons_succ]
  refine tkH 3 ⟨some 42,.load 3 (.tmp 41),3,_,#[⟨2,.data⟩],none⟩ ?_ ?_ ?_
  rotate_left
  · (intro w hSw; (try dsimp only at hSw); go_simp; try with_reducible rfl)
  simp only [Act.put,List.setIfInBounds_toArray,List.set_cons_zero,List.set_cons_succ]
  refine tkH 5 ⟨some 44,.fieldAddr 28 (.tmp 1) 8,0,_,#[],none⟩ ?_ ?_ ?_
  rotate_left
  · (intro w hSw; (try dsimp only at hSw); go_simp; try with_reducible rfl)
  simp only [Act.put,List.setIfInBounds_toArray,List.set_cons_zero,List.set_cons_succ]
  refine tkH 6 ⟨some 45,.load 3 (.tmp 44),3,_,#[⟨5,.data⟩],none⟩ ?_ ?_ ?_
  rotate_left
  · (intro w hSw; (try dsimp only at hSw); go_simp; try with_reducible rfl)
  simp only [Act.put,List.setIfInBounds_toArray,List.set_cons_zero,List.set_cons_succ]
  refine tkH 10 ⟨some 49,.fieldAddr 28 (.tmp 1) 1,0,_,#[],none⟩ ?_ ?_ ?_
  rotate_left
  · (intro w hSw; (try dsimp only at hSw); go_simp; try with_reducible rfl)
  simp only [Act.put,List.setIfInBounds_toArray,List.set_cons_zero,List.set_cons_succ]
  refine tkH 11 ⟨some 50,.load 3 (.tmp 49),3,_,#[⟨10,.data⟩],none⟩ ?_ ?_ ?_
  rotate_left
  · (intro w hSw; (try dsimp only at hSw); go_simp; try with_reducible rfl)
  simp only [Act.put,List.setIfInBounds_toArray,List.set_cons_zero,List.set_cons_succ]
  refine tkH 13 ⟨some 52,.fieldAddr 28 (.tmp 1) 4,0,_,#[],none⟩ ?_ ?_ ?_
  rotate_left
  · (intro w hSw; (try dsimp only at hSw); go_simp; try with_reducible rfl)
  simp only [Act.put,List.setIfInBounds_toArray,List.set_cons_zero,List.set_cons_succ]
  refine tkH 14 ⟨some 53,.load 3 (.tmp 52),3,_,#[⟨13,.data⟩],none⟩ ?_ ?_ ?_
  rotate_left
  · (intro w hSw; (try dsimp only at hSw); go_simp; try with_reducible rfl)
  simp only [Act.put,List.setIfInBounds_toArray,List.set_cons_zero,List.set_cons_succ]
  refine wpAnyH_ready (rs:=[1,9]) (by kernel_rfl) (by simp) ?_
  refine (AllReadyH.cons (o:=⟨some 40,.buildSlice 48 3 #[(0,.const (Value.int IntKind.i64 20)),(1,.const (Value.int IntKind.i64 22)),(2,.const (Value.int IntKind.i64 24))],48,_,#[],none⟩) rfl (fun K hK=> ?_) (AllReadyH.cons (o:=⟨some 48,.buildSlice 48 7 #[(0,.const (Value.int IntKind.i64 18)),(1,.const (Value.int IntKind.i64 22)),(2,.const (Value.int IntKind.i64 24)),(3,.const (Value.int IntKind.i64 32)),(4,.const (Value.int IntKind.i64 34)),(5,.const (Value.int IntKind.i64 36)),(6,.const (Value.int IntKind.i64 49))],48,_,#[],none⟩) rfl (fun K hK=> ?_) AllReadyH.nil))
  · rw [if_pos (by kernel_rfl)]; first|(refine wp_ints intsU intI intZ 3 _ rfl [20,22,24] rfl (by decide) (by decide) rfl ?_; intro b1 wb hs hb; have HP:=hidW (HP.out.step hb); have K2:=hidW HP.out.held; have S1:=hidW hs; (try (have S2:=hidW (S2.out.below hb))); clear hs hb; refine hK.out _ _ HP.out.held (fun hHeld=> ?_))|(refine wp_ints intsU intI intZ 7 _ rfl [18,22,24,32,34,36,49] rfl (by decide) (by decide) rfl ?_; intro b2 wb hs hb; have HP:=hidW (HP.out.step hb); have K2:=hidW HP.out.held; have S2:=hidW hs; (try (have S1:=hidW (S1.out.below hb))); clear hs hb; refine hK.out _ _ HP.out.held (fun hHeld=> ?_))
    clear hK K
    try simp only [Act.put,List.setIfInBounds_toArray,List.set_cons_zero,List.set_cons_succ]
    refine wpAnyH_ready (rs:=[4,9]) (by kernel_rfl) (by simp) ?_
    refine (AllReadyH.cons (o:=⟨some 43,.call ⟨.value (.func 36),#[.tmp 40,.tmp 42],#[48,3]⟩,4,_,#[⟨1,.data⟩,⟨3,.data⟩],none⟩) rfl (fun K hK=> ?_) (AllReadyH.cons (o:=⟨some 48,.buildSlice 48 7 #[(0,.const (Value.int IntKind.i64 18)),(1,.const (Value.int IntKind.i64 22)),(2,.const (Value.int IntKind.i64 24)),(3,.const (Value.int IntKind.i64 32)),(4,.const (Value.int IntKind.i64 34)),(5,.const (Value.int IntKind.i64 36)),(6,.const (Value.int IntKind.i64 49))],48,_,#[],none⟩) rfl (fun K hK=> ?_) AllReadyH.nil))
    · go_simp
      first|(go_at_call 36; refine (H1.out _ _ S1.out).mono ?_; rintro e wi ⟨rfl,rfl⟩; clear H1)|(go_at_call 36; refine (H2.out _ _ S2.out).mono ?_; rintro e wi ⟨rfl,rfl⟩; clear H2)
      refine hK.out _ _ ?_ (fun hHeld=> ?_)
      · with_reducible exact K2.out
      clear hK K
      try simp only [Act.put,List.setIfInBounds_toArray,List.set_cons_zero,List.set_cons_succ]
      refine wpAnyH_ready (rs:=[7,9]) (by kernel_rfl) (by simp) ?_
      refine (AllReadyH.cons (o:=⟨some 46,.call ⟨.value (.func 38),#[.tmp 43,.tmp 45],#[4,3]⟩,24,_,#[⟨4,.data⟩,⟨6,.data⟩,⟨4,.chain⟩],none⟩) rfl (fun K hK=> ?_) (AllReadyH.cons (o:=⟨some 48,.buildSlice 48 7 #[(0,.const (Value.int IntKind.i64 18)),(1,.const (Value.int IntKind.i64 22)),(2,.const (Value.int IntKind.i64 24)),(3,.const (Value.int IntKind.i64 32)),(4,.const (Value.int IntKind.i64 34)),(5,.const (Value.int IntKind.i64 36)),(6,.const (Value.int IntKind.i64 49))],48,_,#[],none⟩) rfl (fun K hK=> ?_) AllReadyH.nil))
      · go_simp
        go_at_call 38; refine (HO.out _ _ _ (by first|exact ha.out|exact hd.out)).mono ?_; rintro e wo ⟨rfl,rfl⟩
        refine hK.out _ _ ?_ (fun hHeld=> ?_)
        · with_reducible exact K2.out
        clear hK K
        try simp only [Act.put,List.setIfInBounds_toArray,List.set_cons_zero,List.set_cons_succ]
        refine tkH 8 ⟨some 47,.binOp BinOp.or 24 (.tmp 39) (.tmp 46) 24,24,_,#[⟨0,.data⟩,⟨7,.data⟩],none⟩ ?_ ?_ ?_
        rotate_left
        · (intro w hSw; (try dsimp only at hSw); go_simp; try with_reducible rfl)
        simp only [Act.put,List.setIfInBounds_toArray,List.set_cons_zero,List.set_cons_succ]
        refine wpAnyH_ready (rs:=[9]) (by kernel_rfl) (by simp) ?_
        refine (AllReadyH.cons (o:=⟨some 48,.buildSlice 48 7 #[(0,.const (Value.int IntKind.i64 18)),(1,.const (Value.int IntKind.i64 22)),(2,.const (Value.int IntKind.i64 24)),(3,.const (Value.int IntKind.i64 32)),(4,.const (Value.int IntKind.i64 34)),(5,.const (Value.int IntKind.i64 36)),(6,.const (Value.int IntKind.i64 49))],48,_,#[],none⟩) rfl (fun K hK=> ?_) AllReadyH.nil)
        rw [if_pos (by kernel_rfl)]; first|(refine wp_ints intsU intI intZ 3 _ rfl [20,22,24] rfl (by decide) (by decide) rfl ?_; intro b1 wb hs hb; have HP:=hidW (HP.out.step hb); have K2:=hidW HP.out.held; have S1:=hidW hs; (try (have S2:=hidW (S2.out.below hb))); clear hs hb; refine hK.out _ _ HP.out.held (fun hHeld=> ?_))|(refine wp_ints intsU intI intZ 7 _ rfl [18,22,24,32,34,36,49] rfl (by decide) (by decide) rfl ?_; intro b2 wb hs hb; have HP:=hidW (HP.out.step hb); have K2:=hidW HP.out.held; have S2:=hidW hs; (try (have S1:=hidW (S1.out.below hb))); clear hs hb; refine hK.out _ _ HP.out.held (fun hHeld=> ?_))
        clear hK K
        try simp only [Act.put,List.setIfInBounds_toArray,List.set_cons_zero,List.set_cons_succ]
        refine wpAnyH_ready (rs:=[12]) (by kernel_rfl) (by simp) ?_
        refine (AllReadyH.cons (o:=⟨some 51,.call ⟨.value (.func 36),#[.tmp 48,.tmp 50],#[48,3]⟩,4,_,#[⟨9,.data⟩,⟨11,.data⟩,⟨7,.chain⟩],none⟩) rfl (fun K hK=> ?_) AllReadyH.nil)
        go_simp
        first|(go_at_call 36; refine (H1.out _ _ S1.out).mono ?_; rintro e wi ⟨rfl,rfl⟩; clear H1)|(go_at_call 36; refine (H2.out _ _ S2.out).mono ?_; rintro e wi ⟨rfl,rfl⟩; clear H2)
        refine hK.out _ _ ?_ (fun hHeld=> ?_)
        · with_reducible exact K2.out
        clear hK K
        try simp only [Act.put,List.setIfInBounds_toArray,List.set_cons_zero,List.set_cons_succ]
        refine wpAnyH_ready (rs:=[15]) (by kernel_rfl) (by simp) ?_
        refine (AllReadyH.cons (o:=⟨some 54,.call ⟨.value (.func 38),#[.tmp 51,.tmp 53],#[4,3]⟩,24,_,#[⟨12,.data⟩,⟨14,.data⟩,⟨12,.chain⟩],none⟩) rfl (fun K hK=> ?_) AllReadyH.nil)
        go_simp
        go_at_call 38; refine (HO.out _ _ _ (by first|exact ha.out|exact hd.out)).mono ?_; rintro e wo ⟨rfl,rfl⟩
        refine hK.out _ _ ?_ (fun hHeld=> ?_)
        · with_reducible exact K2.out
        clear hK K
        try simp only [Act.put,List.setIfInBounds_toArray,List.set_cons_zero,List.set_cons_succ]
        refine tkH 16 ⟨some 55,.binOp BinOp.or 24 (.tmp 47) (.tmp 54) 24,24,_,#[⟨8,.data⟩,⟨15,.data⟩],none⟩ ?_ ?_ ?_
        rotate_left
        · (intro w hSw; (try dsimp only at hSw); go_simp; try with_reducible rfl)
        simp only [Act.put,List.setIfInBounds_toArray,List.set_cons_zero,List.set_cons_succ]
        refine tkH 17 ⟨some 8,.assign (.tmp 55),24,_,#[⟨16,.data⟩,⟨15,.chain⟩,⟨0,.phase⟩,⟨1,.phase⟩,⟨2,.phase⟩,⟨3,.phase⟩,⟨4,.phase⟩,⟨5,.phase⟩,⟨6,.phase⟩,⟨7,.phase⟩,⟨8,.phase⟩,⟨9,.phase⟩,⟨10,.phase⟩,⟨11,.phase⟩,⟨12,.phase⟩,⟨13,.phase⟩,⟨14,.phase⟩,⟨15,.phase⟩,⟨16,.phase⟩],none⟩ ?_ ?_ ?_
        rotate_left
        · (intro w hSw; (try dsimp only at hSw); go_simp; try with_reducible rfl)
        simp only [Act.put,List.setIfInBounds_toArray,List.set_cons_zero,List.set_cons_succ]
        refine wpAnyH_done (by kernel_rfl) ?_ _
        obtain ⟨c1,c15⟩:=HP.out.c15
        go_wp2
        exact bodyPost_ret (by simp [results,Tryd.results18,go_sem,Act.put]) rfl ⟨rfl,HP.out.bel⟩
      · rw [if_pos (by kernel_rfl)]; first|(refine wp_ints intsU intI intZ 3 _ rfl [20,22,24] rfl (by decide) (by decide) rfl ?_; intro b1 wb hs hb; have HP:=hidW (HP.out.step hb); have K2:=hidW HP.out.held; have S1:=hidW hs; (try (have S2:=hidW (S2.out.below hb))); clear hs hb; refine hK.out _ _ HP.out.held (fun hHeld=> ?_))|(refine wp_ints intsU intI intZ 7 _ rfl [18,22,24,32,34,36,49] rfl (by decide) (by decide) rfl ?_; intro b2 wb hs hb; have HP:=hidW (HP.out.step hb); have K2:=hidW HP.out.held; have S2:=hidW hs; (try (have S1:=hidW (S1.out.below hb))); clear hs hb; refine hK.out _ _ HP.out.held (fun hHeld=> ?_))
        clear hK K
        try simp only [Act.put,List.setIfInBounds_toArray,List.set_cons_zero,List.set_cons_succ]
        refine wpAnyH_ready (rs:=[7]) (by kernel_rfl) (by simp) ?_
        refine (AllReadyH.cons (o:=⟨some 46,.call ⟨.value (.func 38),#[.tmp 43,.tmp 45],#[4,3]⟩,24,_,#[⟨4,.data⟩,⟨6,.data⟩,⟨4,.chain⟩],none⟩) rfl (fun K hK=> ?_) AllReadyH.nil)
        go_simp
        go_at_call 38; refine (HO.out _ _ _ (by first|exact ha.out|exact hd.out)).mono ?_; rintro e wo ⟨rfl,rfl⟩
        refine hK.out _ _ ?_ (fun hHeld=> ?_)
        · with_reducible exact K2.out
        clear hK K
        try simp only [Act.put,List.setIfInBounds_toArray,List.set_cons_zero,List.set_cons_succ]
        refine tkH 8 ⟨some 47,.binOp BinOp.or 24 (.tmp 39) (.tmp 46) 24,24,_,#[⟨0,.data⟩,⟨7,.data⟩],none⟩ ?_ ?_ ?_
        rotate_left
        · (intro w hSw; (try dsimp only at hSw); go_simp; try with_reducible rfl)
        simp only [Act.put,List.setIfInBounds_toArray,List.set_cons_zero,List.set_cons_succ]
        refine wpAnyH_ready (rs:=[12]) (by kernel_rfl) (by simp) ?_
        refine (AllReadyH.cons (o:=⟨some 51,.call ⟨.value (.func 36),#[.tmp 48,.tmp 50],#[48,3]⟩,4,_,#[⟨9,.data⟩,⟨11,.data⟩,⟨7,.chain⟩],none⟩) rfl (fun K hK=> ?_) AllReadyH.nil)
        go_simp
        first|(go_at_call 36; refine (H1.out _ _ S1.out).mono ?_; rintro e wi ⟨rfl,rfl⟩; clear H1)|(go_at_call 36; refine (H2.out _ _ S2.out).mono ?_; rintro e wi ⟨rfl,rfl⟩; clear H2)
        refine hK.out _ _ ?_ (fun hHeld=> ?_)
        · with_reducible exact K2.out
        clear hK K
        try simp only [Act.put,List.setIfInBounds_toArray,List.set_cons_zero,List.set_cons_succ]
        refine wpAnyH_ready (rs:=[15]) (by kernel_rfl) (by simp) ?_
        refine (AllReadyH.cons (o:=⟨some 54,.call ⟨.value (.func 38),#[.tmp 51,.tmp 53],#[4,3]⟩,24,_,#[⟨12,.data⟩,⟨14,.data⟩,⟨12,.chain⟩],none⟩) rfl (fun K hK=> ?_) AllReadyH.nil)
        go_simp
        go_at_call 38; refine (HO.out _ _ _ (by first|exact ha.out|exact hd.out)).mono ?_; rintro e wo ⟨rfl,rfl⟩
        refine hK.out _ _ ?_ (fun hHeld=> ?_)
        · with_reducible exact K2.out
        clear hK K
        try simp only [Act.put,List.setIfInBounds_toArray,List.set_cons_zero,List.set_cons_succ]
        refine tkH 16 ⟨some 55,.binOp BinOp.or 24 (.tmp 47) (.tmp 54) 24,24,_,#[⟨8,.data⟩,⟨15,.data⟩],none⟩ ?_ ?_ ?_
        rotate_left
        · (intro w hSw; (try dsimp only at hSw); go_simp; try with_reducible rfl)
        simp only [Act.put,List.setIfInBounds_toArray,List.set_cons_zero,List.set_cons_succ]
        refine tkH 17 ⟨some 8,.assign (.tmp 55),24,_,#[⟨16,.data⟩,⟨15,.chain⟩,⟨0,.phase⟩,⟨1,.phase⟩,⟨2,.phase⟩,⟨3,.phase⟩,⟨4,.phase⟩,⟨5,.phase⟩,⟨6,.phase⟩,⟨7,.phase⟩,⟨8,.phase⟩,⟨9,.phase⟩,⟨10,.phase⟩,⟨11,.phase⟩,⟨12,.phase⟩,⟨13,.phase⟩,⟨14,.phase⟩,⟨15,.phase⟩,⟨16,.phase⟩],none⟩ ?_ ?_ ?_
        rotate_left
        · (intro w hSw; (try dsimp only at hSw); go_simp; try with_reducible rfl)
        simp only [Act.put,List.setIfInBounds_toArray,List.set_cons_zero,List.set_cons_succ]
        refine wpAnyH_done (by kernel_rfl) ?_ _
        obtain ⟨c1,c15⟩:=HP.out.c15
        go_wp2
        exact bodyPost_ret (by simp [results,Tryd.results18,go_sem,Act.put]) rfl ⟨rfl,HP.out.bel⟩
    · rw [if_pos (by kernel_rfl)]; first|(refine wp_ints intsU intI intZ 3 _ rfl [20,22,24] rfl (by decide) (by decide) rfl ?_; intro b1 wb hs hb; have HP:=hidW (HP.out.step hb); have K2:=hidW HP.out.held; have S1:=hidW hs; (try (have S2:=hidW (S2.out.below hb))); clear hs hb; refine hK.out _ _ HP.out.held (fun hHeld=> ?_))|(refine wp_ints intsU intI intZ 7 _ rfl [18,22,24,32,34,36,49] rfl (by decide) (by decide) rfl ?_; intro b2 wb hs hb; have HP:=hidW (HP.out.step hb); have K2:=hidW HP.out.held; have S2:=hidW hs; (try (have S1:=hidW (S1.out.below hb))); clear hs hb; refine hK.out _ _ HP.out.held (fun hHeld=> ?_))
      clear hK K
      try simp only [Act.put,List.setIfInBounds_toArray,List.set_cons_zero,List.set_cons_succ]
      refine wpAnyH_ready (rs:=[4]) (by kernel_rfl) (by simp) ?_
      refine (AllReadyH.cons (o:=⟨some 43,.call ⟨.value (.func 36),#[.tmp 40,.tmp 42],#[48,3]⟩,4,_,#[⟨1,.data⟩,⟨3,.data⟩],none⟩) rfl (fun K hK=> ?_) AllReadyH.nil)
      go_simp
      first|(go_at_call 36; refine (H1.out _ _ S1.out).mono ?_; rintro e wi ⟨rfl,rfl⟩; clear H1)|(go_at_call 36; refine (H2.out _ _ S2.out).mono ?_; rintro e wi ⟨rfl,rfl⟩; clear H2)
      refine hK.out _ _ ?_ (fun hHeld=> ?_)
      · with_reducible exact K2.out
      clear hK K
      try simp only [Act.put,List.setIfInBounds_toArray,List.set_cons_zero,List.set_cons_succ]
      refine wpAnyH_ready (rs:=[7]) (by kernel_rfl) (by simp) ?_
      refine (AllReadyH.cons (o:=⟨some 46,.call ⟨.value (.func 38),#[.tmp 43,.tmp 45],#[4,3]⟩,24,_,#[⟨4,.data⟩,⟨6,.data⟩,⟨4,.chain⟩],none⟩) rfl (fun K hK=> ?_) AllReadyH.nil)
      go_simp
      go_at_call 38; refine (HO.out _ _ _ (by first|exact ha.out|exact hd.out)).mono ?_; rintro e wo ⟨rfl,rfl⟩
      refine hK.out _ _ ?_ (fun hHeld=> ?_)
      · with_reducible exact K2.out
      clear hK K
      try simp only [Act.put,List.setIfInBounds_toArray,List.set_cons_zero,List.set_cons_succ]
      refine tkH 8 ⟨some 47,.binOp BinOp.or 24 (.tmp 39) (.tmp 46) 24,24,_,#[⟨0,.data⟩,⟨7,.data⟩],none⟩ ?_ ?_ ?_
      rotate_left
      · (intro w hSw; (try dsimp only at hSw); go_simp; try with_reducible rfl)
      simp only [Act.put,List.setIfInBounds_toArray,List.set_cons_zero,List.set_cons_succ]
      refine wpAnyH_ready (rs:=[12]) (by kernel_rfl) (by simp) ?_
      refine (AllReadyH.cons (o:=⟨some 51,.call ⟨.value (.func 36),#[.tmp 48,.tmp 50],#[48,3]⟩,4,_,#[⟨9,.data⟩,⟨11,.data⟩,⟨7,.chain⟩],none⟩) rfl (fun K hK=> ?_) AllReadyH.nil)
      go_simp
      first|(go_at_call 36; refine (H1.out _ _ S1.out).mono ?_; rintro e wi ⟨rfl,rfl⟩; clear H1)|(go_at_call 36; refine (H2.out _ _ S2.out).mono ?_; rintro e wi ⟨rfl,rfl⟩; clear H2)
      refine hK.out _ _ ?_ (fun hHeld=> ?_)
      · with_reducible exact K2.out
      clear hK K
      try simp only [Act.put,List.setIfInBounds_toArray,List.set_cons_zero,List.set_cons_succ]
      refine wpAnyH_ready (rs:=[15]) (by kernel_rfl) (by simp) ?_
      refine (AllReadyH.cons (o:=⟨some 54,.call ⟨.value (.func 38),#[.tmp 51,.tmp 53],#[4,3]⟩,24,_,#[⟨12,.data⟩,⟨14,.data⟩,⟨12,.chain⟩],none⟩) rfl (fun K hK=> ?_) AllReadyH.nil)
      go_simp
      go_at_call 38; refine (HO.out _ _ _ (by first|exact ha.out|exact hd.out)).mono ?_; rintro e wo ⟨rfl,rfl⟩
      refine hK.out _ _ ?_ (fun hHeld=> ?_)
      · with_reducible exact K2.out
      clear hK K
      try simp only [Act.put,List.setIfInBounds_toArray,List.set_cons_zero,List.set_cons_succ]
      refine tkH 16 ⟨some 55,.binOp BinOp.or 24 (.tmp 47) (.tmp 54) 24,24,_,#[⟨8,.data⟩,⟨15,.data⟩],none⟩ ?_ ?_ ?_
      rotate_left
      · (intro w hSw; (try dsimp only at hSw); go_simp; try with_reducible rfl)
      simp only [Act.put,List.setIfInBounds_toArray,List.set_cons_zero,List.set_cons_succ]
      refine tkH 17 ⟨some 8,.assign (.tmp 55),24,_,#[⟨16,.data⟩,⟨15,.chain⟩,⟨0,.phase⟩,⟨1,.phase⟩,⟨2,.phase⟩,⟨3,.phase⟩,⟨4,.phase⟩,⟨5,.phase⟩,⟨6,.phase⟩,⟨7,.phase⟩,⟨8,.phase⟩,⟨9,.phase⟩,⟨10,.phase⟩,⟨11,.phase⟩,⟨12,.phase⟩,⟨13,.phase⟩,⟨14,.phase⟩,⟨15,.phase⟩,⟨16,.phase⟩],none⟩ ?_ ?_ ?_
      rotate_left
      · (intro w hSw; (try dsimp only at hSw); go_simp; try with_reducible rfl)
      simp only [Act.put,List.setIfInBounds_toArray,List.set_cons_zero,List.set_cons_succ]
      refine wpAnyH_done (by kernel_rfl) ?_ _
      obtain ⟨c1,c15⟩:=HP.out.c15
      go_wp2
      exact bodyPost_ret (by simp [results,Tryd.results18,go_sem,Act.put]) rfl ⟨rfl,HP.out.bel⟩
  · rw [if_pos (by kernel_rfl)]; first|(refine wp_ints intsU intI intZ 3 _ rfl [20,22,24] rfl (by decide) (by decide) rfl ?_; intro b1 wb hs hb; have HP:=hidW (HP.out.step hb); have K2:=hidW HP.out.held; have S1:=hidW hs; (try (have S2:=hidW (S2.out.below hb))); clear hs hb; refine hK.out _ _ HP.out.held (fun hHeld=> ?_))|(refine wp_ints intsU intI intZ 7 _ rfl [18,22,24,32,34,36,49] rfl (by decide) (by decide) rfl ?_; intro b2 wb hs hb; have HP:=hidW (HP.out.step hb); have K2:=hidW HP.out.held; have S2:=hidW hs; (try (have S1:=hidW (S1.out.below hb))); clear hs hb; refine hK.out _ _ HP.out.held (fun hHeld=> ?_))
    clear hK K
    try simp only [Act.put,List.setIfInBounds_toArray,List.set_cons_zero,List.set_cons_succ]
    refine wpAnyH_ready (rs:=[1]) (by kernel_rfl) (by simp) ?_
    refine (AllReadyH.cons (o:=⟨some 40,.buildSlice 48 3 #[(0,.const (Value.int IntKind.i64 20)),(1,.const (Value.int IntKind.i64 22)),(2,.const (Value.int IntKind.i64 24))],48,_,#[],none⟩) rfl (fun K hK=> ?_) AllReadyH.nil)
    rw [if_pos (by kernel_rfl)]; first|(refine wp_ints intsU intI intZ 3 _ rfl [20,22,24] rfl (by decide) (by decide) rfl ?_; intro b1 wb hs hb; have HP:=hidW (HP.out.step hb); have K2:=hidW HP.out.held; have S1:=hidW hs; (try (have S2:=hidW (S2.out.below hb))); clear hs hb; refine hK.out _ _ HP.out.held (fun hHeld=> ?_))|(refine wp_ints intsU intI intZ 7 _ rfl [18,22,24,32,34,36,49] rfl (by decide) (by decide) rfl ?_; intro b2 wb hs hb; have HP:=hidW (HP.out.step hb); have K2:=hidW HP.out.held; have S2:=hidW hs; (try (have S1:=hidW (S1.out.below hb))); clear hs hb; refine hK.out _ _ HP.out.held (fun hHeld=> ?_))
    clear hK K
    try simp only [Act.put,List.setIfInBounds_toArray,List.set_cons_zero,List.set_cons_succ]
    refine wpAnyH_ready (rs:=[4]) (by kernel_rfl) (by simp) ?_
    refine (AllReadyH.cons (o:=⟨some 43,.call ⟨.value (.func 36),#[.tmp 40,.tmp 42],#[48,3]⟩,4,_,#[⟨1,.data⟩,⟨3,.data⟩],none⟩) rfl (fun K hK=> ?_) AllReadyH.nil)
    go_simp
    first|(go_at_call 36; refine (H1.out _ _ S1.out).mono ?_; rintro e wi ⟨rfl,rfl⟩; clear H1)|(go_at_call 36; refine (H2.out _ _ S2.out).mono ?_; rintro e wi ⟨rfl,rfl⟩; clear H2)
    refine hK.out _ _ ?_ (fun hHeld=> ?_)
    · with_reducible exact K2.out
    clear hK K
    try simp only [Act.put,List.setIfInBounds_toArray,List.set_cons_zero,List.set_cons_succ]
    refine wpAnyH_ready (rs:=[7]) (by kernel_rfl) (by simp) ?_
    refine (AllReadyH.cons (o:=⟨some 46,.call ⟨.value (.func 38),#[.tmp 43,.tmp 45],#[4,3]⟩,24,_,#[⟨4,.data⟩,⟨6,.data⟩,⟨4,.chain⟩],none⟩) rfl (fun K hK=> ?_) AllReadyH.nil)
    go_simp
    go_at_call 38; refine (HO.out _ _ _ (by first|exact ha.out|exact hd.out)).mono ?_; rintro e wo ⟨rfl,rfl⟩
    refine hK.out _ _ ?_ (fun hHeld=> ?_)
    · with_reducible exact K2.out
    clear hK K
    try simp only [Act.put,List.setIfInBounds_toArray,List.set_cons_zero,List.set_cons_succ]
    refine tkH 8 ⟨some 47,.binOp BinOp.or 24 (.tmp 39) (.tmp 46) 24,24,_,#[⟨0,.data⟩,⟨7,.data⟩],none⟩ ?_ ?_ ?_
    rotate_left
    · (intro w hSw; (try dsimp only at hSw); go_simp; try with_reducible rfl)
    simp only [Act.put,List.setIfInBounds_toArray,List.set_cons_zero,List.set_cons_succ]
    refine wpAnyH_ready (rs:=[12]) (by kernel_rfl) (by simp) ?_
    refine (AllReadyH.cons (o:=⟨some 51,.call ⟨.value (.func 36),#[.tmp 48,.tmp 50],#[48,3]⟩,4,_,#[⟨9,.data⟩,⟨11,.data⟩,⟨7,.chain⟩],none⟩) rfl (fun K hK=> ?_) AllReadyH.nil)
    go_simp
    first|(go_at_call 36; refine (H1.out _ _ S1.out).mono ?_; rintro e wi ⟨rfl,rfl⟩; clear H1)|(go_at_call 36; refine (H2.out _ _ S2.out).mono ?_; rintro e wi ⟨rfl,rfl⟩; clear H2)
    refine hK.out _ _ ?_ (fun hHeld=> ?_)
    · with_reducible exact K2.out
    clear hK K
    try simp only [Act.put,List.setIfInBounds_toArray,List.set_cons_zero,List.set_cons_succ]
    refine wpAnyH_ready (rs:=[15]) (by kernel_rfl) (by simp) ?_
    refine (AllReadyH.cons (o:=⟨some 54,.call ⟨.value (.func 38),#[.tmp 51,.tmp 53],#[4,3]⟩,24,_,#[⟨12,.data⟩,⟨14,.data⟩,⟨12,.chain⟩],none⟩) rfl (fun K hK=> ?_) AllReadyH.nil)
    go_simp
    go_at_call 38; refine (HO.out _ _ _ (by first|exact ha.out|exact hd.out)).mono ?_; rintro e wo ⟨rfl,rfl⟩
    refine hK.out _ _ ?_ (fun hHeld=> ?_)
    · with_reducible exact K2.out
    clear hK K
    try simp only [Act.put,List.setIfInBounds_toArray,List.set_cons_zero,List.set_cons_succ]
    refine tkH 16 ⟨some 55,.binOp BinOp.or 24 (.tmp 47) (.tmp 54) 24,24,_,#[⟨8,.data⟩,⟨15,.data⟩],none⟩ ?_ ?_ ?_
    rotate_left
    · (intro w hSw; (try dsimp only at hSw); go_simp; try with_reducible rfl)
    simp only [Act.put,List.setIfInBounds_toArray,List.set_cons_zero,List.set_cons_succ]
    refine tkH 17 ⟨some 8,.assign (.tmp 55),24,_,#[⟨16,.data⟩,⟨15,.chain⟩,⟨0,.phase⟩,⟨1,.phase⟩,⟨2,.phase⟩,⟨3,.phase⟩,⟨4,.phase⟩,⟨5,.phase⟩,⟨6,.phase⟩,⟨7,.phase⟩,⟨8,.phase⟩,⟨9,.phase⟩,⟨10,.phase⟩,⟨11,.phase⟩,⟨12,.phase⟩,⟨13,.phase⟩,⟨14,.phase⟩,⟨15,.phase⟩,⟨16,.phase⟩],none⟩ ?_ ?_ ?_
    rotate_left
    · (intro w hSw; (try dsimp only at hSw); go_simp; try with_reducible rfl)
    simp only [Act.put,List.setIfInBounds_toArray,List.set_cons_zero,List.set_cons_succ]
    refine wpAnyH_done (by kernel_rfl) ?_ _
    obtain ⟨c1,c15⟩:=HP.out.c15
    go_wp2
    exact bodyPost_ret (by simp [results,Tryd.results18,go_sem,Act.put]) rfl ⟨rfl,HP.out.bel⟩
set_option maxRecDepth 100000 in
set_option maxHeartbeats 400000 in
theorem reads_none (i:Ins) (w:World) (hi:IOk i) (he:encJ i=none):Calls Tryd.prog 18 #[.agg (insA i)] w fun e w'=>e= .returned (.int .u16 0)∧Below w.heap.size w w':=by
  show Calls Tryd.prog 18 #[.agg (insL i).toArray] w fun e w'=>e= .returned (.int .u16 0)∧Below w.heap.size w w'
  have HE:Hid (∀w',Calls Tryd.prog 16 #[.agg (insL i).toArray] w' fun e w''=>e= .returned (.tuple #[.int .u32 0,.int .i64 190])∧Below w'.heap.size w' w''):=fun w'=>by
    have:=jenc_any i w' hi
    rw [he] at this
    exact this
  have HB:=hidW (AX.first w (insL i))
  have HS1:Hid ((Tryd.prog.info? 28).map (·.size)=some (insL i).length):=ins_size
  clear hi he
  generalize insL i=II at *
  go_enter Tryd.func18,Tryd.ntmps18
  go_wp2_with (first
    | (guard_target =~ wpList _ _ _ (Oper.mk (some 10) _ _ _ _ _::_) _ _; refine wpList_load_mid rfl _ _ rfl w.heap.size 0 rfl _ _ HB.out.res.range Tryd.underlying28 rfl HS1.out ?_)
    | (go_at_call 16; refine (HE.out _).mono ?_; rintro e w0 ⟨rfl,hb⟩; have HB:=hidW (HB.out.step hb); clear hb HE))
  exact bodyPost_ret (v:= .int .u16 0) (by simp [results,Tryd.results18,go_sem]) rfl ⟨rfl,HB.out.bel⟩
theorem on_int (b:Bool) (n:Int):(if b then (2:Int)^n.toNat else 0)=((onlyN b n:Nat):Int):=by
  cases b
  · rfl
  · show (2:Int)^n.toNat=((2^n.toNat:Nat):Int)
    rw [pow_nat]
theorem or16' (a b:Nat) (ha:a<65536) (hb:b<65536):bits .or .u16 (a:Int) (b:Int)=((a ||| b:Nat):Int):=by
  rw [u16_or _ _ (by omega) (by omega) (by omega) (by omega),Int.toNat_natCast,Int.toNat_natCast]
theorem or_lt16' {a b:Nat} (ha:a<65536) (hb:b<65536):a ||| b<65536:=by
  have h3:(2:Nat)^16=65536:=by decide
  rw [←h3] at *
  exact Nat.or_lt_two_pow ha hb
theorem onlyN_lt' (b:Bool) (n:Int) (h0:0≤n) (h1:n<16):onlyN b n<65536:=by
  cases b
  · show (0:Nat)<65536; decide
  · show 2^n.toNat<65536
    have:2^n.toNat<2^16:=Nat.pow_lt_pow_right (by decide) (by omega)
    have h3:(2:Nat)^16=65536:=by decide
    omega
set_option maxRecDepth 100000 in
theorem jreads_any (i:Ins) (w:World) (hi:IOk i):Calls Tryd.prog 18 #[.agg (insA i)] w fun e w'=>e= .returned (.int .u16 ((readsJ i:Nat):Int))∧Below w.heap.size w w':=by
  unfold readsJ
  cases he:encJ i with
  | none=>exact reads_none i w hi he
  | some y =>
    have hep:encP i=some y:=by rw [enc_eq,he]
    obtain ⟨r,q,hn,hp,hf,ho,hiq⟩:=enc_row hep
    have hq:q∈rowsJ:=List.mem_of_find?_eq_some hf
    have hg:=say_regs hq y
    rw [←hiq] at hg
    have hy:=(enc_dec hep).2
    have HE:Hid (∀w',Calls Tryd.prog 16 #[.agg (insL i).toArray] w' fun e w''=>e= .returned (.tuple #[.int .u32 (y:Int),.int .i64 0])∧Below w'.heap.size w' w''):=fun w'=>by
      have:=jenc_any i w' hi
      rw [he] at this
      exact this
    obtain ⟨FH,hFH⟩:∃FH:Int→Bool,FH=fun K=>decide (0<cnt (UInt8.ofNat K.toNat) q.pat):=⟨_,rfl⟩
    have HFd:Hid (∀w',Calls Tryd.prog 34 #[.int .u32 (y:Int)] w' fun e w''=>(∃v0 v1 v2,e= .returned (.tuple #[.agg #[v0,v1,v2],.agg (insL i).toArray,.bool true])∧(∀(K:Int) w',0≤K→K<256→K≠32→Calls Tryd.prog 39 #[.agg #[v0,v1,v2],.int .u8 K] w' fun e w''=>e= .returned (.bool (FH K))∧Below w'.heap.size w' w'')∧(#[v0,v1,v2]:Array Value).all (·.oneCell')=true)∧Below w'.heap.size w' w''):=fun w'=>(jfind_any y w' hy).mono fun e w'' h=>by
      refine ⟨?_,h.2⟩
      have h1:=h.1
      unfold FindPost at h1
      rw [hf] at h1
      obtain ⟨b,s,h2,h3⟩:=h1
      refine ⟨.slice (some ⟨b,0,none⟩) q.ops.length q.ops.length,.int .i64 q.form,.string s,by rw [h2,←hiq]; rfl,?_,by kernel_rfl⟩
      intro K w3 a1 a2 a3
      have:=jhas_any (.slice (some ⟨b,0,none⟩) q.ops.length q.ops.length) q.form s q.pat (UInt8.ofNat K.toNat) w3 h3 (u8_ne a1 a2 a3)
      rw [u8_of a1 a2] at this
      rw [hFH]
      exact this
    have HO:Hid (∀b (n:Int) w',0≤n∧n<16→Calls Tryd.prog 38 #[.bool b,.int .i64 n] w' fun e w''=>e= .returned (.int .u16 ((fun b n=>((onlyN b n:Nat):Int)) b n))∧w''=w'):=fun b n w' h=>by
      have:=jone_any b n w' h.1 h.2
      rw [on_int] at this
      exact this
    have H1:Hid (∀b w',Sl w' b [20,22,24]→Calls Tryd.prog 36 #[.slice (some ⟨b,0,none⟩) 3 3,.int .i64 i.op] w' fun e w''=>e= .returned (.bool (raJ i.op))∧w''=w'):=fun b w' h=>jin_any b [20,22,24] i.op w' h
    have H2:Hid (∀b w',Sl w' b [18,22,24,32,34,36,49]→Calls Tryd.prog 36 #[.slice (some ⟨b,0,none⟩) 7 7,.int .i64 i.op] w' fun e w''=>e= .returned (.bool (rdJ i.op))∧w''=w'):=fun b w' h=>jin_any b [18,22,24,32,34,36,49] i.op w' h
    have f110:FH 110=hasJ q 110:=by rw [hFH]; rfl
    have f109:FH 109=hasJ q 109:=by rw [hFH]; rfl
    have f114:FH 114=hasJ q 114:=by rw [hFH]; rfl
    have l1:=onlyN_lt' (hasJ q 110) i.rn hg.rn.1 hg.rn.2
    have l2:=onlyN_lt' (hasJ q 109) i.rm hg.rm.1 hg.rm.2
    have l3:=onlyN_lt' (hasJ q 114) i.rs hg.rs.1 hg.rs.2
    have l4:=onlyN_lt' (raJ i.op) i.ra hg.ra.1 hg.ra.2
    have l5:=onlyN_lt' (rdJ i.op) i.rd hg.rd.1 hg.rd.2
    have e1:=or16' _ _ l1 l2
    have e2:=or16' _ _ (or_lt16' l1 l2) l3
    have e3:=or16' _ _ (or_lt16' (or_lt16' l1 l2) l3) l4
    have e4:=or16' _ _ (or_lt16' (or_lt16' (or_lt16' l1 l2) l3) l4) l5
    have hll:i.list=((i.list.toNat:Nat):Int):=by have:=hg.list; omega
    have e5:=or16' _ i.list.toNat (or_lt16' (or_lt16' (or_lt16' (or_lt16' l1 l2) l3) l4) l5) (by have:=hg.list; omega)
    have hfq:(findJ y).getD rowJZ=q:=by rw [hf]; rfl
    show Calls Tryd.prog 18 #[.agg (insL i).toArray] w fun e w'=>e= .returned (.int .u16 ((readsQ ((findJ y).getD rowJZ) i:Nat):Int))∧Below w.heap.size w w'
    rw [hfq]
    by_cases h40:i.op=40
    · refine (reads_forty i.cond i.op i.form i.rd i.rn i.rm i.rs i.ra i.imm i.shift i.amount i.list i.crn i.op1 i.crm i.op2 (y:Int) i.s i.pre i.up i.write w (insL i) FH (fun b n=>((onlyN b n:Nat):Int)) (raJ i.op) (rdJ i.op) true HE HFd HO H1 H2 rfl (ins_all i) ins_size hg.rn hg.rm hg.rs hg.ra hg.rd (beq_iff_eq.2 h40)).mono ?_
      rintro e w' ⟨rfl,hb⟩
      refine ⟨?_,hb⟩
      rw [f110,f109,f114]
      simp only [e1,e2,e3,e4]
      rw [hll,e5,readsQ,if_pos h40]
    · refine (reads_no i.cond i.op i.form i.rd i.rn i.rm i.rs i.ra i.imm i.shift i.amount i.list i.crn i.op1 i.crm i.op2 (y:Int) i.s i.pre i.up i.write w (insL i) FH (fun b n=>((onlyN b n:Nat):Int)) (raJ i.op) (rdJ i.op) true HE HFd HO H1 H2 rfl (ins_all i) ins_size hg.rn hg.rm hg.rs hg.ra hg.rd (beq_eq_false_iff_ne.2 h40)).mono ?_
      rintro e w' ⟨rfl,hb⟩
      refine ⟨?_,hb⟩
      rw [f110,f109,f114]
      simp only [e1,e2,e3,e4]
      rw [readsQ,if_neg h40]
end Go.Proofs.YtkmgmmmpiallhaaDoor
