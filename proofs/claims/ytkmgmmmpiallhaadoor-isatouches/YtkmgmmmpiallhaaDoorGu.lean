import Derived.Test.YtkmgmmmpiallhaaDoorGk
namespace Go.Proofs.YtkmgmmmpiallhaaDoor
open Go.RowKit
set_option linter.unusedVariables false
set_option linter.unusedSimpArgs false
theorem held_w5 {W w:World} {q:Nat} {R L:List Value} {a b c d e n m r x:Value} (h:RX2 W (a::b::c::d::e::n::m::r::x::L) q R w):w.cell? ⟨W.heap.size,1,none⟩=some b∧w.cell? ⟨W.heap.size,4,none⟩=some e∧w.cell? ⟨W.heap.size,8,none⟩=some x:=⟨h.ins.cell 1,h.ins.cell 4,h.ins.cell 8⟩
theorem held_w6 {W w:World} {q:Nat} {R L:List Value} {a b c d e n:Value} (h:RX2 W (a::b::c::d::e::n::L) q R w):w.rangeAt W.heap.size 0 (a::b::c::d::e::n::L)∧w.cell? ⟨W.heap.size,1,none⟩=some b∧w.cell? ⟨W.heap.size,5,none⟩=some n:=⟨h.ins.range,h.ins.cell 1,h.ins.cell 5⟩
set_option maxRecDepth 100000 in
set_option maxHeartbeats 1000000 in
theorem gwrites_a (i:Ins) (w:World) (ht:TP w) (hi:IOk i) (x:Nat) (he:encP i=some x) (r:RowP) (hr:rowN i.op i.form=some r) (q3:hasR r 3=true) (h39:¬i.op=39):Calls Tryd.prog 14 #[.agg (insA i)] w fun e w'=>e= .returned (.int .u16 ((writesR r i:Nat):Int))∧Below w.heap.size w w':=by
  have er:writesR r i=(onlyN (!sendsP i.op) i.rd ||| onlyN (isLongP i.op) i.ra) ||| ((onlyN (movesP i) i.rn ||| onlyN (goesP i.op) 15) ||| onlyN (comesP i.op) 14):=by unfold writesR; simp only [if_neg h39,q3,Bool.true_or,Bool.false_or,Bool.or_false,Bool.true_and,Bool.false_and]
  rw [er]
  clear er
  have HRG:=enc_regs he
  obtain ⟨⟨d0,d1⟩,⟨n0,n1⟩,⟨m0,m1⟩,⟨s0,s1⟩,⟨a0,a1⟩,l0,l1⟩:=HRG
  have HE:Hid (∀w',TP w'→Calls Tryd.prog 12 #[.agg (insA i)] w' fun e w''=>e= .returned (.bool true)∧Below w'.heap.size w' w''):=fun w' h=>by
    have:=gright_any i w' h hi
    rw [he] at this
    exact this
  have HN:Hid (∀w',TP w'→Calls Tryd.prog 23 #[.int .i64 i.op,.int .i64 i.form] w' fun e w''=>e= .returned (.tuple #[.agg (rowL r).toArray,.bool true])∧Below w'.heap.size w' w''):=fun w' ht=>by
    have:=growN_any i.op i.form w' ht
    rw [hr] at this
    exact this
  have hok:=(rowN_ok hr).ok.parts
  have HH:Hid (∀(k:Int) w',(0≤k∧k<32)→Calls Tryd.prog 26 #[.agg (rowL r).toArray,.int .i64 k] w' fun e w''=>e= .returned (.bool (hasR r k.toNat))∧Below w'.heap.size w' w''):=fun k w' h=>by
    have:=ghas_any r k.toNat w' (by omega) hok
    rw [show ((k.toNat:Nat):Int)=k by omega] at this
    exact this
  have HSE:Hid (∀w',Calls Tryd.prog 29 #[.int .i64 i.op] w' fun e w''=>e= .returned (.bool (sendsP i.op))∧w''=w'):=fun w'=>gsends_any i.op w'
  have HLO:Hid (∀w',Calls Tryd.prog 30 #[.int .i64 i.op] w' fun e w''=>e= .returned (.bool (isLongP i.op))∧w''=w'):=fun w'=>gisLong_any i.op w'
  have HGO:Hid (∀w',Calls Tryd.prog 32 #[.int .i64 i.op] w' fun e w''=>e= .returned (.bool (goesP i.op))∧w''=w'):=fun w'=>ggoes_any i.op w'
  have HCO:Hid (∀w',Calls Tryd.prog 33 #[.int .i64 i.op] w' fun e w''=>e= .returned (.bool (comesP i.op))∧w''=w'):=fun w'=>gcomes_any i.op w'
  have HMV:Hid (∀w',Calls Tryd.prog 31 #[.agg (insA i)] w' fun e w''=>e= .returned (.bool (movesP i))∧Below w'.heap.size w' w''):=fun w'=>gmoves_any i w'
  have HO:Hid (∀b n w',(0≤n∧n<16)→Calls Tryd.prog 25 #[.bool b,.int .i64 n] w' fun e w''=>e= .returned (.int .u16 ((onlyN b n:Nat):Int))∧w''=w'):=fun b n w' h=>by
    rw [←onlyP_N]; exact gonly_any b n w' h.1 h.2
  have LO:Hid (∀b n,0≤n→n<16→onlyN b n<65536):=onlyN_lt
  have HX0:=hidW (BX.first ht (insL i))
  have HRO:Hid ((rowL r).toArray.all (·.oneCell')=true):=row_all r
  have HRL:Hid ((rowL r).length=5):=rfl
  have HRI:Hid ((Tryd.prog.info? 40).map (·.size)=some (rowL r).length):=row_info
  have HRJ:Hid ((Tryd.prog.info? 40).map (·.size)=some (rowL r).toArray.size):=row_info
  obtain ⟨HF,hHF⟩:∃HF:Int→Bool,HF=fun k=>hasR r k.toNat:=⟨_,rfl⟩
  have f3:HF 3=true:=by rw [hHF]; exact q3
  have HH':Hid (∀(k:Int) w',(0≤k∧k<32)→Calls Tryd.prog 26 #[.agg (rowL r).toArray,.int .i64 k] w' fun e w''=>e= .returned (.bool (HF k))∧Below w'.heap.size w' w''):=by rw [hHF]; exact HH
  clear HH hHF q3
  generalize onlyN=ON at *
  generalize sendsP i.op=hS at *
  generalize isLongP i.op=hL at *
  generalize goesP i.op=hG at *
  generalize comesP i.op=hC at *
  generalize movesP i=hM at *
  have b39:(i.op == 39)=false:=beq_eq_false_iff_ne.2 h39
  have L1:=LO.out (!hS) i.rd d0 d1
  have L2:=LO.out hL i.ra a0 a1
  have L3:=LO.out hM i.rn n0 n1
  have L4:=LO.out hG 15 (by decide) (by decide)
  have L5:=LO.out hC 14 (by decide) (by decide)
  have e1:=or16 (ON (!hS) i.rd) (ON hL i.ra) L1 L2
  have e2:=or16 (ON hM i.rn) (ON hG 15) L3 L4
  have e3:=or16 _ (ON hC 14) (or_lt16 L3 L4) L5
  have e4:=or16 _ _ (or_lt16 L1 L2) (or_lt16 (or_lt16 L3 L4) L5)
  have EV:Hid (Value.int .u16 (bits .or .u16 (bits .or .u16 (ON (!hS) i.rd) (ON hL i.ra)) (bits .or .u16 (bits .or .u16 (ON hM i.rn) (ON hG 15)) (ON hC 14)))= .int .u16 ((((ON (!hS) i.rd) ||| ON hL i.ra) ||| ((ON hM i.rn ||| ON hG 15) ||| ON hC 14):Nat):Int)):=by
    show _=_
    rw [e1,e2,e3,e4]
  rw [←EV.out]
  clear EV e1 e2 e3 e4 L1 L2 L3 L4 L5 LO ht hi he hr h39 hok
  generalize rowL r=RL at *
  obtain ⟨jc,jo,js,jf,jd,jn,jm,jr,ja,ji,jt,jk,jp,ju,jw,jl,jx,jy,jz,jv⟩:=i
  change Hid (BX w ([.int .i64 jc,.int .i64 jo,.bool js,.int .i64 jf,.int .i64 jd,.int .i64 jn,.int .i64 jm,.int .i64 jr,.int .i64 ja,.int .u32 ji,.int .i64 jt,.int .i64 jk,.bool jp,.bool ju,.bool jw,.int .u16 jl,.int .i64 jx,.int .i64 jy,.int .i64 jz,.int .i64 jv]) (w.alloc (.cells ([.int .i64 jc,.int .i64 jo,.bool js,.int .i64 jf,.int .i64 jd,.int .i64 jn,.int .i64 jm,.int .i64 jr,.int .i64 ja,.int .u32 ji,.int .i64 jt,.int .i64 jk,.bool jp,.bool ju,.bool jw,.int .u16 jl,.int .i64 jx,.int .i64 jy,.int .i64 jz,.int .i64 jv]).toArray 28))) at HX0
  change Hid (∀w',TP w'→Calls Tryd.prog 12 #[.agg #[.int .i64 jc,.int .i64 jo,.bool js,.int .i64 jf,.int .i64 jd,.int .i64 jn,.int .i64 jm,.int .i64 jr,.int .i64 ja,.int .u32 ji,.int .i64 jt,.int .i64 jk,.bool jp,.bool ju,.bool jw,.int .u16 jl,.int .i64 jx,.int .i64 jy,.int .i64 jz,.int .i64 jv]] w' fun e w''=>e= .returned (.bool true)∧Below w'.heap.size w' w'') at HE
  change Hid (∀w',Calls Tryd.prog 31 #[.agg #[.int .i64 jc,.int .i64 jo,.bool js,.int .i64 jf,.int .i64 jd,.int .i64 jn,.int .i64 jm,.int .i64 jr,.int .i64 ja,.int .u32 ji,.int .i64 jt,.int .i64 jk,.bool jp,.bool ju,.bool jw,.int .u16 jl,.int .i64 jx,.int .i64 jy,.int .i64 jz,.int .i64 jv]] w' fun e w''=>e= .returned (.bool hM)∧Below w'.heap.size w' w'') at HMV
  dsimp only at *
  change Calls Tryd.prog 14 #[.agg #[.int .i64 jc,.int .i64 jo,.bool js,.int .i64 jf,.int .i64 jd,.int .i64 jn,.int .i64 jm,.int .i64 jr,.int .i64 ja,.int .u32 ji,.int .i64 jt,.int .i64 jk,.bool jp,.bool ju,.bool jw,.int .u16 jl,.int .i64 jx,.int .i64 jy,.int .i64 jz,.int .i64 jv]] w _
  go_enter Tryd.func14,Tryd.ntmps14
  go_wp2_with (first|(guard_target =~ wpList _ _ _ (Oper.mk (some 7) _ _ _ _ _::_) _ _; refine wpList_load_mid rfl _ _ rfl w.heap.size 0 rfl _ _ HX0.out.ins.range Tryd.underlying28 rfl ins_size ?_)|(go_at_call 12; refine (HE.out _ HX0.out.tp).mono ?_; rintro e w1 ⟨rfl,hb⟩; have HX:=hidW (HX0.out.step hb); clear hb HX0; obtain ⟨c1,c3⟩:=bx_cells HX.out)|(go_at_call 23; refine (HN.out _ HX.out.tp).mono ?_; rintro e w2 ⟨rfl,hb⟩; have HY:=hidW (HX.out.step hb); clear hb HX c1 c3)|(guard_target =~ wpList _ _ _ (Oper.mk none (Op.store 40 _ _) _ _ _ _::_) _ _; have HT1:=new_there w2 40 (rowL rowZ) RL.toArray.size (by rw [List.size_toArray,HRL.out]; rfl); refine wpList_store_mid rfl _ _ _ rfl w2.heap.size 0 RL.toArray rfl rfl HT1 HRJ.out HRO.out ?_; clear HT1; generalize hW3:World.setCells _ _ _ _=w3; have HZ:=hidW (show RX2 w _ w2.heap.size RL w3 from hW3▸rx2_fill HY.out RL HRL.out); clear hW3 HY)|(guard_target =~ wpList _ _ _ (Oper.mk (some 18) _ _ _ _ _::_) _ _; refine wpList_load_mid rfl _ _ rfl w2.heap.size 0 rfl RL _ HZ.out.row.range Tryd.underlying40 rfl HRI.out ?_)|(guard_target =~ wpList _ _ _ (Oper.mk (some 21) _ _ _ _ _::_) _ _; refine wpList_load_want (by rfl) _ _ rfl w2.heap.size 0 rfl RL _ HZ.out.row.range Tryd.underlying40 rfl HRI.out ?_)|(go_at_call 26; refine (HH'.out _ _ (by decide)).mono ?_; rintro e w5 ⟨rfl,hb5⟩; have HZ:=hidW (HZ.out.step hb5); clear hb5))
  generalize w2.heap.size=q at HZ ⊢
  have HN:=hidW HZ.out.drew
  have K1:=held_w5 HN.out
  refine wp_region_held_drew (S:=fun w'=>w'.cell? ⟨w.heap.size,1,none⟩=some (.int .i64 jo)∧w'.cell? ⟨w.heap.size,4,none⟩=some (.int .i64 jd)∧w'.cell? ⟨w.heap.size,8,none⟩=some (.int .i64 ja)) (by kernel_rfl) K1 (fun hHeld=> ?_)
  have K2:=hidW K1
  clear K1 HZ
  refine tkH 0 ⟨some 24,.move (.tmp 5),4,_,#[],none⟩ ?_ ?_ ?_
  rotate_left
  · (intro w hSw; (try dsimp only at hSw); go_simp; try with_reducible rfl)
  simp only [Act.put,List.setIfInBounds_toArray,List.set_cons_zero,List.set_cons_succ]
  refine tkH 1 ⟨some 25,.move (.tmp 24),4,_,#[⟨0,.data⟩],none⟩ ?_ ?_ ?_
  rotate_left
  · (intro w hSw; (try dsimp only at hSw); go_simp; try with_reducible rfl)
  simp only [Act.put,List.setIfInBounds_toArray,List.set_cons_zero,List.set_cons_succ]
  refine tkH 2 ⟨some 26,.fieldAddr 28 (.tmp 1) 1,0,_,#[⟨1,.guard⟩],some (1,true)⟩ ?_ ?_ ?_
  rotate_left
  · (intro w hSw; (try dsimp only at hSw); go_simp; try with_reducible rfl)
  simp only [Act.put,List.setIfInBounds_toArray,List.set_cons_zero,List.set_cons_succ]
  refine tkH 3 ⟨some 27,.load 3 (.tmp 26),3,_,#[⟨2,.data⟩,⟨1,.guard⟩],some (1,true)⟩ ?_ ?_ ?_
  rotate_left
  · (intro w hSw; (try dsimp only at hSw); go_simp; try with_reducible rfl)
  simp only [Act.put,List.setIfInBounds_toArray,List.set_cons_zero,List.set_cons_succ]
  refine tkH 7 ⟨some 31,.fieldAddr 28 (.tmp 1) 4,0,_,#[],none⟩ ?_ ?_ ?_
  rotate_left
  · (intro w hSw; (try dsimp only at hSw); go_simp; try with_reducible rfl)
  simp only [Act.put,List.setIfInBounds_toArray,List.set_cons_zero,List.set_cons_succ]
  refine tkH 8 ⟨some 32,.load 3 (.tmp 31),3,_,#[⟨7,.data⟩],none⟩ ?_ ?_ ?_
  rotate_left
  · (intro w hSw; (try dsimp only at hSw); go_simp; try with_reducible rfl)
  simp only [Act.put,List.setIfInBounds_toArray,List.set_cons_zero,List.set_cons_succ]
  refine tkH 10 ⟨some 34,.fieldAddr 28 (.tmp 1) 1,0,_,#[],none⟩ ?_ ?_ ?_
  rotate_left
  · (intro w hSw; (try dsimp only at hSw); go_simp; try with_reducible rfl)
  simp only [Act.put,List.setIfInBounds_toArray,List.set_cons_zero,List.set_cons_succ]
  refine tkH 11 ⟨some 35,.load 3 (.tmp 34),3,_,#[⟨10,.data⟩],none⟩ ?_ ?_ ?_
  rotate_left
  · (intro w hSw; (try dsimp only at hSw); go_simp; try with_reducible rfl)
  simp only [Act.put,List.setIfInBounds_toArray,List.set_cons_zero,List.set_cons_succ]
  refine tkH 13 ⟨some 37,.fieldAddr 28 (.tmp 1) 8,0,_,#[],none⟩ ?_ ?_ ?_
  rotate_left
  · (intro w hSw; (try dsimp only at hSw); go_simp; try with_reducible rfl)
  simp only [Act.put,List.setIfInBounds_toArray,List.set_cons_zero,List.set_cons_succ]
  refine tkH 14 ⟨some 38,.load 3 (.tmp 37),3,_,#[⟨13,.data⟩],none⟩ ?_ ?_ ?_
  rotate_left
  · (intro w hSw; (try dsimp only at hSw); go_simp; try with_reducible rfl)
  simp only [Act.put,List.setIfInBounds_toArray,List.set_cons_zero,List.set_cons_succ]
  refine wpAnyH_ready (rs:=[4]) (by kernel_rfl) (by simp) ?_
  refine AllReadyH.cons (o:=⟨some 28,.call ⟨.value (.func 29),#[.tmp 27],#[3]⟩,4,_,#[⟨3,.data⟩,⟨1,.chain⟩,⟨1,.guard⟩],some (1,true)⟩) rfl (fun K hK=> ?_) AllReadyH.nil
  go_simp
  go_at_call 29; refine (HSE.out _).mono ?_; rintro e w5 ⟨rfl,rfl⟩
  refine hK.out _ _ ?_ (fun hHeld=> ?_)
  · with_reducible exact K2.out
  clear hK K
  try simp only [Act.put,List.setIfInBounds_toArray,List.set_cons_zero,List.set_cons_succ]
  refine tkH 5 ⟨some 29,.unOp UnOp.not 4 (.tmp 28),4,_,#[⟨4,.data⟩,⟨1,.guard⟩],some (1,true)⟩ ?_ ?_ ?_
  rotate_left
  · (intro w hSw; (try dsimp only at hSw); go_simp; try with_reducible rfl)
  simp only [Act.put,List.setIfInBounds_toArray,List.set_cons_zero,List.set_cons_succ]
  refine tkH 6 ⟨some 30,.pick (.tmp 25) (.tmp 29) (.const (Value.bool false)),4,_,#[⟨1,.data⟩,⟨5,.data⟩],none⟩ ?_ ?_ ?_
  rotate_left
  · (intro w hSw; (try dsimp only at hSw); go_simp; try with_reducible rfl)
  simp only [Act.put,List.setIfInBounds_toArray,List.set_cons_zero,List.set_cons_succ]
  refine wpAnyH_ready (rs:=[9]) (by kernel_rfl) (by simp) ?_
  refine AllReadyH.cons (o:=⟨some 33,.call ⟨.value (.func 25),#[.tmp 30,.tmp 32],#[4,3]⟩,24,_,#[⟨6,.data⟩,⟨8,.data⟩,⟨4,.chain⟩],none⟩) rfl (fun K hK=> ?_) AllReadyH.nil
  go_simp
  go_at_call 25; refine (HO.out _ _ _ (by constructor <;>assumption)).mono ?_; rintro e w5 ⟨rfl,rfl⟩
  refine hK.out _ _ ?_ (fun hHeld=> ?_)
  · with_reducible exact K2.out
  clear hK K
  try simp only [Act.put,List.setIfInBounds_toArray,List.set_cons_zero,List.set_cons_succ]
  refine wpAnyH_ready (rs:=[12]) (by kernel_rfl) (by simp) ?_
  refine AllReadyH.cons (o:=⟨some 36,.call ⟨.value (.func 30),#[.tmp 35],#[3]⟩,4,_,#[⟨11,.data⟩,⟨9,.chain⟩],none⟩) rfl (fun K hK=> ?_) AllReadyH.nil
  go_simp
  go_at_call 30; refine (HLO.out _).mono ?_; rintro e w5 ⟨rfl,rfl⟩
  refine hK.out _ _ ?_ (fun hHeld=> ?_)
  · with_reducible exact K2.out
  clear hK K
  try simp only [Act.put,List.setIfInBounds_toArray,List.set_cons_zero,List.set_cons_succ]
  refine wpAnyH_ready (rs:=[15]) (by kernel_rfl) (by simp) ?_
  refine AllReadyH.cons (o:=⟨some 39,.call ⟨.value (.func 25),#[.tmp 36,.tmp 38],#[4,3]⟩,24,_,#[⟨12,.data⟩,⟨14,.data⟩,⟨12,.chain⟩],none⟩) rfl (fun K hK=> ?_) AllReadyH.nil
  go_simp
  go_at_call 25; refine (HO.out _ _ _ (by constructor <;>assumption)).mono ?_; rintro e w5 ⟨rfl,rfl⟩
  refine hK.out _ _ ?_ (fun hHeld=> ?_)
  · with_reducible exact K2.out
  clear hK K
  try simp only [Act.put,List.setIfInBounds_toArray,List.set_cons_zero,List.set_cons_succ]
  refine tkH 16 ⟨some 40,.binOp BinOp.or 24 (.tmp 33) (.tmp 39) 24,24,_,#[⟨9,.data⟩,⟨15,.data⟩],none⟩ ?_ ?_ ?_
  rotate_left
  · (intro w hSw; (try dsimp only at hSw); go_simp; try with_reducible rfl)
  simp only [Act.put,List.setIfInBounds_toArray,List.set_cons_zero,List.set_cons_succ]
  refine tkH 17 ⟨some 6,.assign (.tmp 40),24,_,#[⟨16,.data⟩,⟨15,.chain⟩,⟨0,.phase⟩,⟨1,.phase⟩,⟨2,.phase⟩,⟨3,.phase⟩,⟨4,.phase⟩,⟨5,.phase⟩,⟨6,.phase⟩,⟨7,.phase⟩,⟨8,.phase⟩,⟨9,.phase⟩,⟨10,.phase⟩,⟨11,.phase⟩,⟨12,.phase⟩,⟨13,.phase⟩,⟨14,.phase⟩,⟨15,.phase⟩,⟨16,.phase⟩],none⟩ ?_ ?_ ?_
  rotate_left
  · (intro w hSw; (try dsimp only at hSw); go_simp; try with_reducible rfl)
  simp only [Act.put,List.setIfInBounds_toArray,List.set_cons_zero,List.set_cons_succ]
  refine wpAnyH_done (by kernel_rfl) ?_ _
  go_wp2_with fail
  have HN:=hidW HN.out.drew
  have K1:=held_w6 HN.out
  have hu:=Tryd.underlying28
  refine wp_region_held_drew (S:=fun w'=>w'.rangeAt w.heap.size 0 ([.int .i64 jc,.int .i64 jo,.bool js,.int .i64 jf,.int .i64 jd,.int .i64 jn,.int .i64 jm,.int .i64 jr,.int .i64 ja,.int .u32 ji,.int .i64 jt,.int .i64 jk,.bool jp,.bool ju,.bool jw,.int .u16 jl,.int .i64 jx,.int .i64 jy,.int .i64 jz,.int .i64 jv])∧w'.cell? ⟨w.heap.size,1,none⟩=some (.int .i64 jo)∧w'.cell? ⟨w.heap.size,5,none⟩=some (.int .i64 jn)) (by kernel_rfl) K1 (fun hHeld=> ?_)
  clear K1 K2
  refine tkH 0 ⟨some 41,.move (.tmp 6),24,_,#[],none⟩ ?_ ?_ ?_
  rotate_left
  · (intro w hSw; (try dsimp only at hSw); go_simp; try with_reducible rfl)
  simp only [Act.put,List.setIfInBounds_toArray,List.set_cons_zero,List.set_cons_succ]
  refine wpAnyH_take (i:=1) (oi:=⟨some 42,.load 28 (.tmp 1),28,_,#[],none⟩) (v:=_) rfl (by kernel_rfl) (by kernel_rfl) (by kernel_rfl) (fun _ _ _ h=>h) (yieldsIf_load_mid (by rfl) _ _ rfl w.heap.size 0 rfl _ _ (fun _ h=>h.1) hu rfl ins_size) (by assumption) ?_
  simp only [Act.put,List.setIfInBounds_toArray,List.set_cons_zero,List.set_cons_succ]
  refine tkH 3 ⟨some 44,.fieldAddr 28 (.tmp 1) 5,0,_,#[],none⟩ ?_ ?_ ?_
  rotate_left
  · (intro w hSw; (try dsimp only at hSw); go_simp; try with_reducible rfl)
  simp only [Act.put,List.setIfInBounds_toArray,List.set_cons_zero,List.set_cons_succ]
  refine tkH 4 ⟨some 45,.load 3 (.tmp 44),3,_,#[⟨3,.data⟩],none⟩ ?_ ?_ ?_
  rotate_left
  · (intro w hSw; (try dsimp only at hSw); go_simp; try with_reducible rfl)
  simp only [Act.put,List.setIfInBounds_toArray,List.set_cons_zero,List.set_cons_succ]
  refine tkH 6 ⟨some 47,.fieldAddr 28 (.tmp 1) 1,0,_,#[],none⟩ ?_ ?_ ?_
  rotate_left
  · (intro w hSw; (try dsimp only at hSw); go_simp; try with_reducible rfl)
  simp only [Act.put,List.setIfInBounds_toArray,List.set_cons_zero,List.set_cons_succ]
  refine tkH 7 ⟨some 48,.load 3 (.tmp 47),3,_,#[⟨6,.data⟩],none⟩ ?_ ?_ ?_
  rotate_left
  · (intro w hSw; (try dsimp only at hSw); go_simp; try with_reducible rfl)
  simp only [Act.put,List.setIfInBounds_toArray,List.set_cons_zero,List.set_cons_succ]
  refine tkH 11 ⟨some 52,.fieldAddr 28 (.tmp 1) 1,0,_,#[],none⟩ ?_ ?_ ?_
  rotate_left
  · (intro w hSw; (try dsimp only at hSw); go_simp; try with_reducible rfl)
  simp only [Act.put,List.setIfInBounds_toArray,List.set_cons_zero,List.set_cons_succ]
  refine tkH 12 ⟨some 53,.load 3 (.tmp 52),3,_,#[⟨11,.data⟩],none⟩ ?_ ?_ ?_
  rotate_left
  · (intro w hSw; (try dsimp only at hSw); go_simp; try with_reducible rfl)
  simp only [Act.put,List.setIfInBounds_toArray,List.set_cons_zero,List.set_cons_succ]
  refine wpAnyH_ready (rs:=[2]) (by kernel_rfl) (by simp) ?_
  refine AllReadyH.cons (o:=⟨some 43,.call ⟨.value (.func 31),#[.tmp 42],#[28]⟩,4,_,#[⟨1,.data⟩],none⟩) rfl (fun K hK=> ?_) AllReadyH.nil
  go_simp
  go_at_call 31; refine (HMV.out _).mono ?_; rintro e w5 ⟨rfl,hb5⟩; have HN:=hidW (HN.out.step hb5); have K2:=hidW (held_w6 HN.out); clear hb5
  refine hK.out _ _ ?_ (fun hHeld=> ?_)
  · with_reducible exact K2.out
  clear hK K
  try simp only [Act.put,List.setIfInBounds_toArray,List.set_cons_zero,List.set_cons_succ]
  refine wpAnyH_ready (rs:=[5]) (by kernel_rfl) (by simp) ?_
  refine AllReadyH.cons (o:=⟨some 46,.call ⟨.value (.func 25),#[.tmp 43,.tmp 45],#[4,3]⟩,24,_,#[⟨2,.data⟩,⟨4,.data⟩,⟨2,.chain⟩],none⟩) rfl (fun K hK=> ?_) AllReadyH.nil
  go_simp
  go_at_call 25; refine (HO.out _ _ _ (by first|decide|(constructor <;>assumption))).mono ?_; rintro e w5 ⟨rfl,rfl⟩
  refine hK.out _ _ ?_ (fun hHeld=> ?_)
  · with_reducible exact K2.out
  clear hK K
  try simp only [Act.put,List.setIfInBounds_toArray,List.set_cons_zero,List.set_cons_succ]
  refine wpAnyH_ready (rs:=[8]) (by kernel_rfl) (by simp) ?_
  refine AllReadyH.cons (o:=⟨some 49,.call ⟨.value (.func 32),#[.tmp 48],#[3]⟩,4,_,#[⟨7,.data⟩,⟨5,.chain⟩],none⟩) rfl (fun K hK=> ?_) AllReadyH.nil
  go_simp
  go_at_call 32; refine (HGO.out _).mono ?_; rintro e w5 ⟨rfl,rfl⟩
  refine hK.out _ _ ?_ (fun hHeld=> ?_)
  · with_reducible exact K2.out
  clear hK K
  try simp only [Act.put,List.setIfInBounds_toArray,List.set_cons_zero,List.set_cons_succ]
  refine wpAnyH_ready (rs:=[9]) (by kernel_rfl) (by simp) ?_
  refine AllReadyH.cons (o:=⟨some 50,.call ⟨.value (.func 25),#[.tmp 49,.const (Value.int IntKind.i64 15)],#[4,3]⟩,24,_,#[⟨8,.data⟩,⟨8,.chain⟩],none⟩) rfl (fun K hK=> ?_) AllReadyH.nil
  go_simp
  go_at_call 25; refine (HO.out _ _ _ (by first|decide|(constructor <;>assumption))).mono ?_; rintro e w5 ⟨rfl,rfl⟩
  refine hK.out _ _ ?_ (fun hHeld=> ?_)
  · with_reducible exact K2.out
  clear hK K
  try simp only [Act.put,List.setIfInBounds_toArray,List.set_cons_zero,List.set_cons_succ]
  refine tkH 10 ⟨some 51,.binOp BinOp.or 24 (.tmp 46) (.tmp 50) 24,24,_,#[⟨5,.data⟩,⟨9,.data⟩],none⟩ ?_ ?_ ?_
  rotate_left
  · (intro w hSw; (try dsimp only at hSw); go_simp; try with_reducible rfl)
  simp only [Act.put,List.setIfInBounds_toArray,List.set_cons_zero,List.set_cons_succ]
  refine wpAnyH_ready (rs:=[13]) (by kernel_rfl) (by simp) ?_
  refine AllReadyH.cons (o:=⟨some 54,.call ⟨.value (.func 33),#[.tmp 53],#[3]⟩,4,_,#[⟨12,.data⟩,⟨9,.chain⟩],none⟩) rfl (fun K hK=> ?_) AllReadyH.nil
  go_simp
  go_at_call 33; refine (HCO.out _).mono ?_; rintro e w5 ⟨rfl,rfl⟩
  refine hK.out _ _ ?_ (fun hHeld=> ?_)
  · with_reducible exact K2.out
  clear hK K
  try simp only [Act.put,List.setIfInBounds_toArray,List.set_cons_zero,List.set_cons_succ]
  refine wpAnyH_ready (rs:=[14]) (by kernel_rfl) (by simp) ?_
  refine AllReadyH.cons (o:=⟨some 55,.call ⟨.value (.func 25),#[.tmp 54,.const (Value.int IntKind.i64 14)],#[4,3]⟩,24,_,#[⟨13,.data⟩,⟨13,.chain⟩],none⟩) rfl (fun K hK=> ?_) AllReadyH.nil
  go_simp
  go_at_call 25; refine (HO.out _ _ _ (by first|decide|(constructor <;>assumption))).mono ?_; rintro e w5 ⟨rfl,rfl⟩
  refine hK.out _ _ ?_ (fun hHeld=> ?_)
  · with_reducible exact K2.out
  clear hK K
  try simp only [Act.put,List.setIfInBounds_toArray,List.set_cons_zero,List.set_cons_succ]
  refine tkH 15 ⟨some 56,.binOp BinOp.or 24 (.tmp 51) (.tmp 55) 24,24,_,#[⟨10,.data⟩,⟨14,.data⟩],none⟩ ?_ ?_ ?_
  rotate_left
  · (intro w hSw; (try dsimp only at hSw); go_simp; try with_reducible rfl)
  simp only [Act.put,List.setIfInBounds_toArray,List.set_cons_zero,List.set_cons_succ]
  refine tkH 16 ⟨some 57,.binOp BinOp.or 24 (.tmp 41) (.tmp 56) 24,24,_,#[⟨0,.data⟩,⟨15,.data⟩],none⟩ ?_ ?_ ?_
  rotate_left
  · (intro w hSw; (try dsimp only at hSw); go_simp; try with_reducible rfl)
  simp only [Act.put,List.setIfInBounds_toArray,List.set_cons_zero,List.set_cons_succ]
  refine tkH 17 ⟨some 6,.assign (.tmp 57),24,_,#[⟨16,.data⟩,⟨14,.chain⟩,⟨0,.phase⟩,⟨1,.phase⟩,⟨2,.phase⟩,⟨3,.phase⟩,⟨4,.phase⟩,⟨5,.phase⟩,⟨6,.phase⟩,⟨7,.phase⟩,⟨8,.phase⟩,⟨9,.phase⟩,⟨10,.phase⟩,⟨11,.phase⟩,⟨12,.phase⟩,⟨13,.phase⟩,⟨14,.phase⟩,⟨15,.phase⟩,⟨16,.phase⟩],none⟩ ?_ ?_ ?_
  rotate_left
  · (intro w hSw; (try dsimp only at hSw); go_simp; try with_reducible rfl)
  simp only [Act.put,List.setIfInBounds_toArray,List.set_cons_zero,List.set_cons_succ]
  refine wpAnyH_done (by kernel_rfl) ?_ _
  obtain ⟨c1,c15⟩:=held_r6 HN.out
  go_wp2_with fail
  exact bodyPost_ret (by simp [results,Tryd.results14,go_sem,Act.put]) rfl ⟨rfl,HN.out.bel⟩
set_option maxRecDepth 100000 in
set_option maxHeartbeats 1000000 in
theorem gwrites_am (i:Ins) (w:World) (ht:TP w) (hi:IOk i) (x:Nat) (he:encP i=some x) (r:RowP) (hr:rowN i.op i.form=some r) (q3:hasR r 3=true) (h39:i.op=39):Calls Tryd.prog 14 #[.agg (insA i)] w fun e w'=>e= .returned (.int .u16 ((writesR r i:Nat):Int))∧Below w.heap.size w w':=by
  have er:writesR r i=(onlyN (!sendsP i.op) i.rd ||| onlyN (isLongP i.op) i.ra) ||| ((onlyN (movesP i) i.rn ||| onlyN (goesP i.op) 15) ||| onlyN (comesP i.op) 14) ||| i.list.toNat:=by unfold writesR; simp only [if_pos h39,q3,Bool.true_or,Bool.false_or,Bool.or_false,Bool.true_and,Bool.false_and]
  rw [er]
  clear er
  have HRG:=enc_regs he
  obtain ⟨⟨d0,d1⟩,⟨n0,n1⟩,⟨m0,m1⟩,⟨s0,s1⟩,⟨a0,a1⟩,l0,l1⟩:=HRG
  have HE:Hid (∀w',TP w'→Calls Tryd.prog 12 #[.agg (insA i)] w' fun e w''=>e= .returned (.bool true)∧Below w'.heap.size w' w''):=fun w' h=>by
    have:=gright_any i w' h hi
    rw [he] at this
    exact this
  have HN:Hid (∀w',TP w'→Calls Tryd.prog 23 #[.int .i64 i.op,.int .i64 i.form] w' fun e w''=>e= .returned (.tuple #[.agg (rowL r).toArray,.bool true])∧Below w'.heap.size w' w''):=fun w' ht=>by
    have:=growN_any i.op i.form w' ht
    rw [hr] at this
    exact this
  have hok:=(rowN_ok hr).ok.parts
  have HH:Hid (∀(k:Int) w',(0≤k∧k<32)→Calls Tryd.prog 26 #[.agg (rowL r).toArray,.int .i64 k] w' fun e w''=>e= .returned (.bool (hasR r k.toNat))∧Below w'.heap.size w' w''):=fun k w' h=>by
    have:=ghas_any r k.toNat w' (by omega) hok
    rw [show ((k.toNat:Nat):Int)=k by omega] at this
    exact this
  have HSE:Hid (∀w',Calls Tryd.prog 29 #[.int .i64 i.op] w' fun e w''=>e= .returned (.bool (sendsP i.op))∧w''=w'):=fun w'=>gsends_any i.op w'
  have HLO:Hid (∀w',Calls Tryd.prog 30 #[.int .i64 i.op] w' fun e w''=>e= .returned (.bool (isLongP i.op))∧w''=w'):=fun w'=>gisLong_any i.op w'
  have HGO:Hid (∀w',Calls Tryd.prog 32 #[.int .i64 i.op] w' fun e w''=>e= .returned (.bool (goesP i.op))∧w''=w'):=fun w'=>ggoes_any i.op w'
  have HCO:Hid (∀w',Calls Tryd.prog 33 #[.int .i64 i.op] w' fun e w''=>e= .returned (.bool (comesP i.op))∧w''=w'):=fun w'=>gcomes_any i.op w'
  have HMV:Hid (∀w',Calls Tryd.prog 31 #[.agg (insA i)] w' fun e w''=>e= .returned (.bool (movesP i))∧Below w'.heap.size w' w''):=fun w'=>gmoves_any i w'
  have HO:Hid (∀b n w',(0≤n∧n<16)→Calls Tryd.prog 25 #[.bool b,.int .i64 n] w' fun e w''=>e= .returned (.int .u16 ((onlyN b n:Nat):Int))∧w''=w'):=fun b n w' h=>by
    rw [←onlyP_N]; exact gonly_any b n w' h.1 h.2
  have LO:Hid (∀b n,0≤n→n<16→onlyN b n<65536):=onlyN_lt
  have HX0:=hidW (BX.first ht (insL i))
  have HRO:Hid ((rowL r).toArray.all (·.oneCell')=true):=row_all r
  have HRL:Hid ((rowL r).length=5):=rfl
  have HRI:Hid ((Tryd.prog.info? 40).map (·.size)=some (rowL r).length):=row_info
  have HRJ:Hid ((Tryd.prog.info? 40).map (·.size)=some (rowL r).toArray.size):=row_info
  obtain ⟨HF,hHF⟩:∃HF:Int→Bool,HF=fun k=>hasR r k.toNat:=⟨_,rfl⟩
  have f3:HF 3=true:=by rw [hHF]; exact q3
  have HH':Hid (∀(k:Int) w',(0≤k∧k<32)→Calls Tryd.prog 26 #[.agg (rowL r).toArray,.int .i64 k] w' fun e w''=>e= .returned (.bool (HF k))∧Below w'.heap.size w' w''):=by rw [hHF]; exact HH
  clear HH hHF q3
  generalize onlyN=ON at *
  generalize sendsP i.op=hS at *
  generalize isLongP i.op=hL at *
  generalize goesP i.op=hG at *
  generalize comesP i.op=hC at *
  generalize movesP i=hM at *
  have b39:(i.op == 39)=true:=beq_iff_eq.2 h39
  have L1:=LO.out (!hS) i.rd d0 d1
  have L2:=LO.out hL i.ra a0 a1
  have L3:=LO.out hM i.rn n0 n1
  have L4:=LO.out hG 15 (by decide) (by decide)
  have L5:=LO.out hC 14 (by decide) (by decide)
  have e1:=or16 (ON (!hS) i.rd) (ON hL i.ra) L1 L2
  have e2:=or16 (ON hM i.rn) (ON hG 15) L3 L4
  have e3:=or16 _ (ON hC 14) (or_lt16 L3 L4) L5
  have e4:=or16 _ _ (or_lt16 L1 L2) (or_lt16 (or_lt16 L3 L4) L5)
  have e5:=or16 _ i.list.toNat (or_lt16 (or_lt16 L1 L2) (or_lt16 (or_lt16 L3 L4) L5)) (by omega)
  have el:((i.list.toNat:Nat):Int)=i.list:=by omega
  rw [el] at e5
  have EV:Hid (Value.int .u16 (bits .or .u16 (bits .or .u16 (bits .or .u16 (ON (!hS) i.rd) (ON hL i.ra)) (bits .or .u16 (bits .or .u16 (ON hM i.rn) (ON hG 15)) (ON hC 14))) i.list)= .int .u16 (((((ON (!hS) i.rd) ||| ON hL i.ra) ||| ((ON hM i.rn ||| ON hG 15) ||| ON hC 14)) ||| i.list.toNat:Nat):Int)):=by
    show _=_
    rw [e1,e2,e3,e4,e5]
  rw [←EV.out]
  clear EV e1 e2 e3 e4 e5 el L1 L2 L3 L4 L5 LO ht hi he hr h39 hok
  generalize rowL r=RL at *
  obtain ⟨jc,jo,js,jf,jd,jn,jm,jr,ja,ji,jt,jk,jp,ju,jw,jl,jx,jy,jz,jv⟩:=i
  change Hid (BX w ([.int .i64 jc,.int .i64 jo,.bool js,.int .i64 jf,.int .i64 jd,.int .i64 jn,.int .i64 jm,.int .i64 jr,.int .i64 ja,.int .u32 ji,.int .i64 jt,.int .i64 jk,.bool jp,.bool ju,.bool jw,.int .u16 jl,.int .i64 jx,.int .i64 jy,.int .i64 jz,.int .i64 jv]) (w.alloc (.cells ([.int .i64 jc,.int .i64 jo,.bool js,.int .i64 jf,.int .i64 jd,.int .i64 jn,.int .i64 jm,.int .i64 jr,.int .i64 ja,.int .u32 ji,.int .i64 jt,.int .i64 jk,.bool jp,.bool ju,.bool jw,.int .u16 jl,.int .i64 jx,.int .i64 jy,.int .i64 jz,.int .i64 jv]).toArray 28))) at HX0
  change Hid (∀w',TP w'→Calls Tryd.prog 12 #[.agg #[.int .i64 jc,.int .i64 jo,.bool js,.int .i64 jf,.int .i64 jd,.int .i64 jn,.int .i64 jm,.int .i64 jr,.int .i64 ja,.int .u32 ji,.int .i64 jt,.int .i64 jk,.bool jp,.bool ju,.bool jw,.int .u16 jl,.int .i64 jx,.int .i64 jy,.int .i64 jz,.int .i64 jv]] w' fun e w''=>e= .returned (.bool true)∧Below w'.heap.size w' w'') at HE
  change Hid (∀w',Calls Tryd.prog 31 #[.agg #[.int .i64 jc,.int .i64 jo,.bool js,.int .i64 jf,.int .i64 jd,.int .i64 jn,.int .i64 jm,.int .i64 jr,.int .i64 ja,.int .u32 ji,.int .i64 jt,.int .i64 jk,.bool jp,.bool ju,.bool jw,.int .u16 jl,.int .i64 jx,.int .i64 jy,.int .i64 jz,.int .i64 jv]] w' fun e w''=>e= .returned (.bool hM)∧Below w'.heap.size w' w'') at HMV
  dsimp only at *
  change Calls Tryd.prog 14 #[.agg #[.int .i64 jc,.int .i64 jo,.bool js,.int .i64 jf,.int .i64 jd,.int .i64 jn,.int .i64 jm,.int .i64 jr,.int .i64 ja,.int .u32 ji,.int .i64 jt,.int .i64 jk,.bool jp,.bool ju,.bool jw,.int .u16 jl,.int .i64 jx,.int .i64 jy,.int .i64 jz,.int .i64 jv]] w _
  go_enter Tryd.func14,Tryd.ntmps14
  go_wp2_with (first|(guard_target =~ wpList _ _ _ (Oper.mk (some 7) _ _ _ _ _::_) _ _; refine wpList_load_mid rfl _ _ rfl w.heap.size 0 rfl _ _ HX0.out.ins.range Tryd.underlying28 rfl ins_size ?_)|(go_at_call 12; refine (HE.out _ HX0.out.tp).mono ?_; rintro e w1 ⟨rfl,hb⟩; have HX:=hidW (HX0.out.step hb); clear hb HX0; obtain ⟨c1,c3⟩:=bx_cells HX.out)|(go_at_call 23; refine (HN.out _ HX.out.tp).mono ?_; rintro e w2 ⟨rfl,hb⟩; have HY:=hidW (HX.out.step hb); clear hb HX c1 c3)|(guard_target =~ wpList _ _ _ (Oper.mk none (Op.store 40 _ _) _ _ _ _::_) _ _; have HT1:=new_there w2 40 (rowL rowZ) RL.toArray.size (by rw [List.size_toArray,HRL.out]; rfl); refine wpList_store_mid rfl _ _ _ rfl w2.heap.size 0 RL.toArray rfl rfl HT1 HRJ.out HRO.out ?_; clear HT1; generalize hW3:World.setCells _ _ _ _=w3; have HZ:=hidW (show RX2 w _ w2.heap.size RL w3 from hW3▸rx2_fill HY.out RL HRL.out); clear hW3 HY)|(guard_target =~ wpList _ _ _ (Oper.mk (some 18) _ _ _ _ _::_) _ _; refine wpList_load_mid rfl _ _ rfl w2.heap.size 0 rfl RL _ HZ.out.row.range Tryd.underlying40 rfl HRI.out ?_)|(guard_target =~ wpList _ _ _ (Oper.mk (some 21) _ _ _ _ _::_) _ _; refine wpList_load_want (by rfl) _ _ rfl w2.heap.size 0 rfl RL _ HZ.out.row.range Tryd.underlying40 rfl HRI.out ?_)|(go_at_call 26; refine (HH'.out _ _ (by decide)).mono ?_; rintro e w5 ⟨rfl,hb5⟩; have HZ:=hidW (HZ.out.step hb5); clear hb5))
  generalize w2.heap.size=q at HZ ⊢
  have HN:=hidW HZ.out.drew
  have K1:=held_w5 HN.out
  refine wp_region_held_drew (S:=fun w'=>w'.cell? ⟨w.heap.size,1,none⟩=some (.int .i64 jo)∧w'.cell? ⟨w.heap.size,4,none⟩=some (.int .i64 jd)∧w'.cell? ⟨w.heap.size,8,none⟩=some (.int .i64 ja)) (by kernel_rfl) K1 (fun hHeld=> ?_)
  have K2:=hidW K1
  clear K1 HZ
  refine tkH 0 ⟨some 24,.move (.tmp 5),4,_,#[],none⟩ ?_ ?_ ?_
  rotate_left
  · (intro w hSw; (try dsimp only at hSw); go_simp; try with_reducible rfl)
  simp only [Act.put,List.setIfInBounds_toArray,List.set_cons_zero,List.set_cons_succ]
  refine tkH 1 ⟨some 25,.move (.tmp 24),4,_,#[⟨0,.data⟩],none⟩ ?_ ?_ ?_
  rotate_left
  · (intro w hSw; (try dsimp only at hSw); go_simp; try with_reducible rfl)
  simp only [Act.put,List.setIfInBounds_toArray,List.set_cons_zero,List.set_cons_succ]
  refine tkH 2 ⟨some 26,.fieldAddr 28 (.tmp 1) 1,0,_,#[⟨1,.guard⟩],some (1,true)⟩ ?_ ?_ ?_
  rotate_left
  · (intro w hSw; (try dsimp only at hSw); go_simp; try with_reducible rfl)
  simp only [Act.put,List.setIfInBounds_toArray,List.set_cons_zero,List.set_cons_succ]
  refine tkH 3 ⟨some 27,.load 3 (.tmp 26),3,_,#[⟨2,.data⟩,⟨1,.guard⟩],some (1,true)⟩ ?_ ?_ ?_
  rotate_left
  · (intro w hSw; (try dsimp only at hSw); go_simp; try with_reducible rfl)
  simp only [Act.put,List.setIfInBounds_toArray,List.set_cons_zero,List.set_cons_succ]
  refine tkH 7 ⟨some 31,.fieldAddr 28 (.tmp 1) 4,0,_,#[],none⟩ ?_ ?_ ?_
  rotate_left
  · (intro w hSw; (try dsimp only at hSw); go_simp; try with_reducible rfl)
  simp only [Act.put,List.setIfInBounds_toArray,List.set_cons_zero,List.set_cons_succ]
  refine tkH 8 ⟨some 32,.load 3 (.tmp 31),3,_,#[⟨7,.data⟩],none⟩ ?_ ?_ ?_
  rotate_left
  · (intro w hSw; (try dsimp only at hSw); go_simp; try with_reducible rfl)
  simp only [Act.put,List.setIfInBounds_toArray,List.set_cons_zero,List.set_cons_succ]
  refine tkH 10 ⟨some 34,.fieldAddr 28 (.tmp 1) 1,0,_,#[],none⟩ ?_ ?_ ?_
  rotate_left
  · (intro w hSw; (try dsimp only at hSw); go_simp; try with_reducible rfl)
  simp only [Act.put,List.setIfInBounds_toArray,List.set_cons_zero,List.set_cons_succ]
  refine tkH 11 ⟨some 35,.load 3 (.tmp 34),3,_,#[⟨10,.data⟩],none⟩ ?_ ?_ ?_
  rotate_left
  · (intro w hSw; (try dsimp only at hSw); go_simp; try with_reducible rfl)
  simp only [Act.put,List.setIfInBounds_toArray,List.set_cons_zero,List.set_cons_succ]
  refine tkH 13 ⟨some 37,.fieldAddr 28 (.tmp 1) 8,0,_,#[],none⟩ ?_ ?_ ?_
  rotate_left
  · (intro w hSw; (try dsimp only at hSw); go_simp; try with_reducible rfl)
  simp only [Act.put,List.setIfInBounds_toArray,List.set_cons_zero,List.set_cons_succ]
  refine tkH 14 ⟨some 38,.load 3 (.tmp 37),3,_,#[⟨13,.data⟩],none⟩ ?_ ?_ ?_
  rotate_left
  · (intro w hSw; (try dsimp only at hSw); go_simp; try with_reducible rfl)
  simp only [Act.put,List.setIfInBounds_toArray,List.set_cons_zero,List.set_cons_succ]
  refine wpAnyH_ready (rs:=[4]) (by kernel_rfl) (by simp) ?_
  refine AllReadyH.cons (o:=⟨some 28,.call ⟨.value (.func 29),#[.tmp 27],#[3]⟩,4,_,#[⟨3,.data⟩,⟨1,.chain⟩,⟨1,.guard⟩],some (1,true)⟩) rfl (fun K hK=> ?_) AllReadyH.nil
  go_simp
  go_at_call 29; refine (HSE.out _).mono ?_; rintro e w5 ⟨rfl,rfl⟩
  refine hK.out _ _ ?_ (fun hHeld=> ?_)
  · with_reducible exact K2.out
  clear hK K
  try simp only [Act.put,List.setIfInBounds_toArray,List.set_cons_zero,List.set_cons_succ]
  refine tkH 5 ⟨some 29,.unOp UnOp.not 4 (.tmp 28),4,_,#[⟨4,.data⟩,⟨1,.guard⟩],some (1,true)⟩ ?_ ?_ ?_
  rotate_left
  · (intro w hSw; (try dsimp only at hSw); go_simp; try with_reducible rfl)
  simp only [Act.put,List.setIfInBounds_toArray,List.set_cons_zero,List.set_cons_succ]
  refine tkH 6 ⟨some 30,.pick (.tmp 25) (.tmp 29) (.const (Value.bool false)),4,_,#[⟨1,.data⟩,⟨5,.data⟩],none⟩ ?_ ?_ ?_
  rotate_left
  · (intro w hSw; (try dsimp only at hSw); go_simp; try with_reducible rfl)
  simp only [Act.put,List.setIfInBounds_toArray,List.set_cons_zero,List.set_cons_succ]
  refine wpAnyH_ready (rs:=[9]) (by kernel_rfl) (by simp) ?_
  refine AllReadyH.cons (o:=⟨some 33,.call ⟨.value (.func 25),#[.tmp 30,.tmp 32],#[4,3]⟩,24,_,#[⟨6,.data⟩,⟨8,.data⟩,⟨4,.chain⟩],none⟩) rfl (fun K hK=> ?_) AllReadyH.nil
  go_simp
  go_at_call 25; refine (HO.out _ _ _ (by constructor <;>assumption)).mono ?_; rintro e w5 ⟨rfl,rfl⟩
  refine hK.out _ _ ?_ (fun hHeld=> ?_)
  · with_reducible exact K2.out
  clear hK K
  try simp only [Act.put,List.setIfInBounds_toArray,List.set_cons_zero,List.set_cons_succ]
  refine wpAnyH_ready (rs:=[12]) (by kernel_rfl) (by simp) ?_
  refine AllReadyH.cons (o:=⟨some 36,.call ⟨.value (.func 30),#[.tmp 35],#[3]⟩,4,_,#[⟨11,.data⟩,⟨9,.chain⟩],none⟩) rfl (fun K hK=> ?_) AllReadyH.nil
  go_simp
  go_at_call 30; refine (HLO.out _).mono ?_; rintro e w5 ⟨rfl,rfl⟩
  refine hK.out _ _ ?_ (fun hHeld=> ?_)
  · with_reducible exact K2.out
  clear hK K
  try simp only [Act.put,List.setIfInBounds_toArray,List.set_cons_zero,List.set_cons_succ]
  refine wpAnyH_ready (rs:=[15]) (by kernel_rfl) (by simp) ?_
  refine AllReadyH.cons (o:=⟨some 39,.call ⟨.value (.func 25),#[.tmp 36,.tmp 38],#[4,3]⟩,24,_,#[⟨12,.data⟩,⟨14,.data⟩,⟨12,.chain⟩],none⟩) rfl (fun K hK=> ?_) AllReadyH.nil
  go_simp
  go_at_call 25; refine (HO.out _ _ _ (by constructor <;>assumption)).mono ?_; rintro e w5 ⟨rfl,rfl⟩
  refine hK.out _ _ ?_ (fun hHeld=> ?_)
  · with_reducible exact K2.out
  clear hK K
  try simp only [Act.put,List.setIfInBounds_toArray,List.set_cons_zero,List.set_cons_succ]
  refine tkH 16 ⟨some 40,.binOp BinOp.or 24 (.tmp 33) (.tmp 39) 24,24,_,#[⟨9,.data⟩,⟨15,.data⟩],none⟩ ?_ ?_ ?_
  rotate_left
  · (intro w hSw; (try dsimp only at hSw); go_simp; try with_reducible rfl)
  simp only [Act.put,List.setIfInBounds_toArray,List.set_cons_zero,List.set_cons_succ]
  refine tkH 17 ⟨some 6,.assign (.tmp 40),24,_,#[⟨16,.data⟩,⟨15,.chain⟩,⟨0,.phase⟩,⟨1,.phase⟩,⟨2,.phase⟩,⟨3,.phase⟩,⟨4,.phase⟩,⟨5,.phase⟩,⟨6,.phase⟩,⟨7,.phase⟩,⟨8,.phase⟩,⟨9,.phase⟩,⟨10,.phase⟩,⟨11,.phase⟩,⟨12,.phase⟩,⟨13,.phase⟩,⟨14,.phase⟩,⟨15,.phase⟩,⟨16,.phase⟩],none⟩ ?_ ?_ ?_
  rotate_left
  · (intro w hSw; (try dsimp only at hSw); go_simp; try with_reducible rfl)
  simp only [Act.put,List.setIfInBounds_toArray,List.set_cons_zero,List.set_cons_succ]
  refine wpAnyH_done (by kernel_rfl) ?_ _
  go_wp2_with fail
  have HN:=hidW HN.out.drew
  have K1:=held_w6 HN.out
  have hu:=Tryd.underlying28
  refine wp_region_held_drew (S:=fun w'=>w'.rangeAt w.heap.size 0 ([.int .i64 jc,.int .i64 jo,.bool js,.int .i64 jf,.int .i64 jd,.int .i64 jn,.int .i64 jm,.int .i64 jr,.int .i64 ja,.int .u32 ji,.int .i64 jt,.int .i64 jk,.bool jp,.bool ju,.bool jw,.int .u16 jl,.int .i64 jx,.int .i64 jy,.int .i64 jz,.int .i64 jv])∧w'.cell? ⟨w.heap.size,1,none⟩=some (.int .i64 jo)∧w'.cell? ⟨w.heap.size,5,none⟩=some (.int .i64 jn)) (by kernel_rfl) K1 (fun hHeld=> ?_)
  clear K1 K2
  refine tkH 0 ⟨some 41,.move (.tmp 6),24,_,#[],none⟩ ?_ ?_ ?_
  rotate_left
  · (intro w hSw; (try dsimp only at hSw); go_simp; try with_reducible rfl)
  simp only [Act.put,List.setIfInBounds_toArray,List.set_cons_zero,List.set_cons_succ]
  refine wpAnyH_take (i:=1) (oi:=⟨some 42,.load 28 (.tmp 1),28,_,#[],none⟩) (v:=_) rfl (by kernel_rfl) (by kernel_rfl) (by kernel_rfl) (fun _ _ _ h=>h) (yieldsIf_load_mid (by rfl) _ _ rfl w.heap.size 0 rfl _ _ (fun _ h=>h.1) hu rfl ins_size) (by assumption) ?_
  simp only [Act.put,List.setIfInBounds_toArray,List.set_cons_zero,List.set_cons_succ]
  refine tkH 3 ⟨some 44,.fieldAddr 28 (.tmp 1) 5,0,_,#[],none⟩ ?_ ?_ ?_
  rotate_left
  · (intro w hSw; (try dsimp only at hSw); go_simp; try with_reducible rfl)
  simp only [Act.put,List.setIfInBounds_toArray,List.set_cons_zero,List.set_cons_succ]
  refine tkH 4 ⟨some 45,.load 3 (.tmp 44),3,_,#[⟨3,.data⟩],none⟩ ?_ ?_ ?_
  rotate_left
  · (intro w hSw; (try dsimp only at hSw); go_simp; try with_reducible rfl)
  simp only [Act.put,List.setIfInBounds_toArray,List.set_cons_zero,List.set_cons_succ]
  refine tkH 6 ⟨some 47,.fieldAddr 28 (.tmp 1) 1,0,_,#[],none⟩ ?_ ?_ ?_
  rotate_left
  · (intro w hSw; (try dsimp only at hSw); go_simp; try with_reducible rfl)
  simp only [Act.put,List.setIfInBounds_toArray,List.set_cons_zero,List.set_cons_succ]
  refine tkH 7 ⟨some 48,.load 3 (.tmp 47),3,_,#[⟨6,.data⟩],none⟩ ?_ ?_ ?_
  rotate_left
  · (intro w hSw; (try dsimp only at hSw); go_simp; try with_reducible rfl)
  simp only [Act.put,List.setIfInBounds_toArray,List.set_cons_zero,List.set_cons_succ]
  refine tkH 11 ⟨some 52,.fieldAddr 28 (.tmp 1) 1,0,_,#[],none⟩ ?_ ?_ ?_
  rotate_left
  · (intro w hSw; (try dsimp only at hSw); go_simp; try with_reducible rfl)
  simp only [Act.put,List.setIfInBounds_toArray,List.set_cons_zero,List.set_cons_succ]
  refine tkH 12 ⟨some 53,.load 3 (.tmp 52),3,_,#[⟨11,.data⟩],none⟩ ?_ ?_ ?_
  rotate_left
  · (intro w hSw; (try dsimp only at hSw); go_simp; try with_reducible rfl)
  simp only [Act.put,List.setIfInBounds_toArray,List.set_cons_zero,List.set_cons_succ]
  refine wpAnyH_ready (rs:=[2]) (by kernel_rfl) (by simp) ?_
  refine AllReadyH.cons (o:=⟨some 43,.call ⟨.value (.func 31),#[.tmp 42],#[28]⟩,4,_,#[⟨1,.data⟩],none⟩) rfl (fun K hK=> ?_) AllReadyH.nil
  go_simp
  go_at_call 31; refine (HMV.out _).mono ?_; rintro e w5 ⟨rfl,hb5⟩; have HN:=hidW (HN.out.step hb5); have K2:=hidW (held_w6 HN.out); clear hb5
  refine hK.out _ _ ?_ (fun hHeld=> ?_)
  · with_reducible exact K2.out
  clear hK K
  try simp only [Act.put,List.setIfInBounds_toArray,List.set_cons_zero,List.set_cons_succ]
  refine wpAnyH_ready (rs:=[5]) (by kernel_rfl) (by simp) ?_
  refine AllReadyH.cons (o:=⟨some 46,.call ⟨.value (.func 25),#[.tmp 43,.tmp 45],#[4,3]⟩,24,_,#[⟨2,.data⟩,⟨4,.data⟩,⟨2,.chain⟩],none⟩) rfl (fun K hK=> ?_) AllReadyH.nil
  go_simp
  go_at_call 25; refine (HO.out _ _ _ (by first|decide|(constructor <;>assumption))).mono ?_; rintro e w5 ⟨rfl,rfl⟩
  refine hK.out _ _ ?_ (fun hHeld=> ?_)
  · with_reducible exact K2.out
  clear hK K
  try simp only [Act.put,List.setIfInBounds_toArray,List.set_cons_zero,List.set_cons_succ]
  refine wpAnyH_ready (rs:=[8]) (by kernel_rfl) (by simp) ?_
  refine AllReadyH.cons (o:=⟨some 49,.call ⟨.value (.func 32),#[.tmp 48],#[3]⟩,4,_,#[⟨7,.data⟩,⟨5,.chain⟩],none⟩) rfl (fun K hK=> ?_) AllReadyH.nil
  go_simp
  go_at_call 32; refine (HGO.out _).mono ?_; rintro e w5 ⟨rfl,rfl⟩
  refine hK.out _ _ ?_ (fun hHeld=> ?_)
  · with_reducible exact K2.out
  clear hK K
  try simp only [Act.put,List.setIfInBounds_toArray,List.set_cons_zero,List.set_cons_succ]
  refine wpAnyH_ready (rs:=[9]) (by kernel_rfl) (by simp) ?_
  refine AllReadyH.cons (o:=⟨some 50,.call ⟨.value (.func 25),#[.tmp 49,.const (Value.int IntKind.i64 15)],#[4,3]⟩,24,_,#[⟨8,.data⟩,⟨8,.chain⟩],none⟩) rfl (fun K hK=> ?_) AllReadyH.nil
  go_simp
  go_at_call 25; refine (HO.out _ _ _ (by first|decide|(constructor <;>assumption))).mono ?_; rintro e w5 ⟨rfl,rfl⟩
  refine hK.out _ _ ?_ (fun hHeld=> ?_)
  · with_reducible exact K2.out
  clear hK K
  try simp only [Act.put,List.setIfInBounds_toArray,List.set_cons_zero,List.set_cons_succ]
  refine tkH 10 ⟨some 51,.binOp BinOp.or 24 (.tmp 46) (.tmp 50) 24,24,_,#[⟨5,.data⟩,⟨9,.data⟩],none⟩ ?_ ?_ ?_
  rotate_left
  · (intro w hSw; (try dsimp only at hSw); go_simp; try with_reducible rfl)
  simp only [Act.put,List.setIfInBounds_toArray,List.set_cons_zero,List.set_cons_succ]
  refine wpAnyH_ready (rs:=[13]) (by kernel_rfl) (by simp) ?_
  refine AllReadyH.cons (o:=⟨some 54,.call ⟨.value (.func 33),#[.tmp 53],#[3]⟩,4,_,#[⟨12,.data⟩,⟨9,.chain⟩],none⟩) rfl (fun K hK=> ?_) AllReadyH.nil
  go_simp
  go_at_call 33; refine (HCO.out _).mono ?_; rintro e w5 ⟨rfl,rfl⟩
  refine hK.out _ _ ?_ (fun hHeld=> ?_)
  · with_reducible exact K2.out
  clear hK K
  try simp only [Act.put,List.setIfInBounds_toArray,List.set_cons_zero,List.set_cons_succ]
  refine wpAnyH_ready (rs:=[14]) (by kernel_rfl) (by simp) ?_
  refine AllReadyH.cons (o:=⟨some 55,.call ⟨.value (.func 25),#[.tmp 54,.const (Value.int IntKind.i64 14)],#[4,3]⟩,24,_,#[⟨13,.data⟩,⟨13,.chain⟩],none⟩) rfl (fun K hK=> ?_) AllReadyH.nil
  go_simp
  go_at_call 25; refine (HO.out _ _ _ (by first|decide|(constructor <;>assumption))).mono ?_; rintro e w5 ⟨rfl,rfl⟩
  refine hK.out _ _ ?_ (fun hHeld=> ?_)
  · with_reducible exact K2.out
  clear hK K
  try simp only [Act.put,List.setIfInBounds_toArray,List.set_cons_zero,List.set_cons_succ]
  refine tkH 15 ⟨some 56,.binOp BinOp.or 24 (.tmp 51) (.tmp 55) 24,24,_,#[⟨10,.data⟩,⟨14,.data⟩],none⟩ ?_ ?_ ?_
  rotate_left
  · (intro w hSw; (try dsimp only at hSw); go_simp; try with_reducible rfl)
  simp only [Act.put,List.setIfInBounds_toArray,List.set_cons_zero,List.set_cons_succ]
  refine tkH 16 ⟨some 57,.binOp BinOp.or 24 (.tmp 41) (.tmp 56) 24,24,_,#[⟨0,.data⟩,⟨15,.data⟩],none⟩ ?_ ?_ ?_
  rotate_left
  · (intro w hSw; (try dsimp only at hSw); go_simp; try with_reducible rfl)
  simp only [Act.put,List.setIfInBounds_toArray,List.set_cons_zero,List.set_cons_succ]
  refine tkH 17 ⟨some 6,.assign (.tmp 57),24,_,#[⟨16,.data⟩,⟨14,.chain⟩,⟨0,.phase⟩,⟨1,.phase⟩,⟨2,.phase⟩,⟨3,.phase⟩,⟨4,.phase⟩,⟨5,.phase⟩,⟨6,.phase⟩,⟨7,.phase⟩,⟨8,.phase⟩,⟨9,.phase⟩,⟨10,.phase⟩,⟨11,.phase⟩,⟨12,.phase⟩,⟨13,.phase⟩,⟨14,.phase⟩,⟨15,.phase⟩,⟨16,.phase⟩],none⟩ ?_ ?_ ?_
  rotate_left
  · (intro w hSw; (try dsimp only at hSw); go_simp; try with_reducible rfl)
  simp only [Act.put,List.setIfInBounds_toArray,List.set_cons_zero,List.set_cons_succ]
  refine wpAnyH_done (by kernel_rfl) ?_ _
  obtain ⟨c1,c15⟩:=held_r6 HN.out
  go_wp2_with fail
  exact bodyPost_ret (by simp [results,Tryd.results14,go_sem,Act.put]) rfl ⟨rfl,HN.out.bel⟩
set_option maxRecDepth 100000 in
set_option maxHeartbeats 1000000 in
theorem gwrites_b (i:Ins) (w:World) (ht:TP w) (hi:IOk i) (x:Nat) (he:encP i=some x) (r:RowP) (hr:rowN i.op i.form=some r) (q3:hasR r 3=false) (q4:hasR r 4=true) (h39:¬i.op=39):Calls Tryd.prog 14 #[.agg (insA i)] w fun e w'=>e= .returned (.int .u16 ((writesR r i:Nat):Int))∧Below w.heap.size w w':=by
  have er:writesR r i=(onlyN (!sendsP i.op) i.rd ||| onlyN (isLongP i.op) i.ra) ||| ((onlyN (movesP i) i.rn ||| onlyN (goesP i.op) 15) ||| onlyN (comesP i.op) 14):=by unfold writesR; simp only [if_neg h39,q3,q4,Bool.true_or,Bool.false_or,Bool.or_false,Bool.true_and,Bool.false_and]
  rw [er]
  clear er
  have HRG:=enc_regs he
  obtain ⟨⟨d0,d1⟩,⟨n0,n1⟩,⟨m0,m1⟩,⟨s0,s1⟩,⟨a0,a1⟩,l0,l1⟩:=HRG
  have HE:Hid (∀w',TP w'→Calls Tryd.prog 12 #[.agg (insA i)] w' fun e w''=>e= .returned (.bool true)∧Below w'.heap.size w' w''):=fun w' h=>by
    have:=gright_any i w' h hi
    rw [he] at this
    exact this
  have HN:Hid (∀w',TP w'→Calls Tryd.prog 23 #[.int .i64 i.op,.int .i64 i.form] w' fun e w''=>e= .returned (.tuple #[.agg (rowL r).toArray,.bool true])∧Below w'.heap.size w' w''):=fun w' ht=>by
    have:=growN_any i.op i.form w' ht
    rw [hr] at this
    exact this
  have hok:=(rowN_ok hr).ok.parts
  have HH:Hid (∀(k:Int) w',(0≤k∧k<32)→Calls Tryd.prog 26 #[.agg (rowL r).toArray,.int .i64 k] w' fun e w''=>e= .returned (.bool (hasR r k.toNat))∧Below w'.heap.size w' w''):=fun k w' h=>by
    have:=ghas_any r k.toNat w' (by omega) hok
    rw [show ((k.toNat:Nat):Int)=k by omega] at this
    exact this
  have HSE:Hid (∀w',Calls Tryd.prog 29 #[.int .i64 i.op] w' fun e w''=>e= .returned (.bool (sendsP i.op))∧w''=w'):=fun w'=>gsends_any i.op w'
  have HLO:Hid (∀w',Calls Tryd.prog 30 #[.int .i64 i.op] w' fun e w''=>e= .returned (.bool (isLongP i.op))∧w''=w'):=fun w'=>gisLong_any i.op w'
  have HGO:Hid (∀w',Calls Tryd.prog 32 #[.int .i64 i.op] w' fun e w''=>e= .returned (.bool (goesP i.op))∧w''=w'):=fun w'=>ggoes_any i.op w'
  have HCO:Hid (∀w',Calls Tryd.prog 33 #[.int .i64 i.op] w' fun e w''=>e= .returned (.bool (comesP i.op))∧w''=w'):=fun w'=>gcomes_any i.op w'
  have HMV:Hid (∀w',Calls Tryd.prog 31 #[.agg (insA i)] w' fun e w''=>e= .returned (.bool (movesP i))∧Below w'.heap.size w' w''):=fun w'=>gmoves_any i w'
  have HO:Hid (∀b n w',(0≤n∧n<16)→Calls Tryd.prog 25 #[.bool b,.int .i64 n] w' fun e w''=>e= .returned (.int .u16 ((onlyN b n:Nat):Int))∧w''=w'):=fun b n w' h=>by
    rw [←onlyP_N]; exact gonly_any b n w' h.1 h.2
  have LO:Hid (∀b n,0≤n→n<16→onlyN b n<65536):=onlyN_lt
  have HX0:=hidW (BX.first ht (insL i))
  have HRO:Hid ((rowL r).toArray.all (·.oneCell')=true):=row_all r
  have HRL:Hid ((rowL r).length=5):=rfl
  have HRI:Hid ((Tryd.prog.info? 40).map (·.size)=some (rowL r).length):=row_info
  have HRJ:Hid ((Tryd.prog.info? 40).map (·.size)=some (rowL r).toArray.size):=row_info
  obtain ⟨HF,hHF⟩:∃HF:Int→Bool,HF=fun k=>hasR r k.toNat:=⟨_,rfl⟩
  have f3:HF 3=false:=by rw [hHF]; exact q3
  have f4:HF 4=true:=by rw [hHF]; exact q4
  have HH':Hid (∀(k:Int) w',(0≤k∧k<32)→Calls Tryd.prog 26 #[.agg (rowL r).toArray,.int .i64 k] w' fun e w''=>e= .returned (.bool (HF k))∧Below w'.heap.size w' w''):=by rw [hHF]; exact HH
  clear HH hHF q3 q4
  generalize onlyN=ON at *
  generalize sendsP i.op=hS at *
  generalize isLongP i.op=hL at *
  generalize goesP i.op=hG at *
  generalize comesP i.op=hC at *
  generalize movesP i=hM at *
  have b39:(i.op == 39)=false:=beq_eq_false_iff_ne.2 h39
  have L1:=LO.out (!hS) i.rd d0 d1
  have L2:=LO.out hL i.ra a0 a1
  have L3:=LO.out hM i.rn n0 n1
  have L4:=LO.out hG 15 (by decide) (by decide)
  have L5:=LO.out hC 14 (by decide) (by decide)
  have e1:=or16 (ON (!hS) i.rd) (ON hL i.ra) L1 L2
  have e2:=or16 (ON hM i.rn) (ON hG 15) L3 L4
  have e3:=or16 _ (ON hC 14) (or_lt16 L3 L4) L5
  have e4:=or16 _ _ (or_lt16 L1 L2) (or_lt16 (or_lt16 L3 L4) L5)
  have EV:Hid (Value.int .u16 (bits .or .u16 (bits .or .u16 (ON (!hS) i.rd) (ON hL i.ra)) (bits .or .u16 (bits .or .u16 (ON hM i.rn) (ON hG 15)) (ON hC 14)))= .int .u16 ((((ON (!hS) i.rd) ||| ON hL i.ra) ||| ((ON hM i.rn ||| ON hG 15) ||| ON hC 14):Nat):Int)):=by
    show _=_
    rw [e1,e2,e3,e4]
  rw [←EV.out]
  clear EV e1 e2 e3 e4 L1 L2 L3 L4 L5 LO ht hi he hr h39 hok
  generalize rowL r=RL at *
  obtain ⟨jc,jo,js,jf,jd,jn,jm,jr,ja,ji,jt,jk,jp,ju,jw,jl,jx,jy,jz,jv⟩:=i
  change Hid (BX w ([.int .i64 jc,.int .i64 jo,.bool js,.int .i64 jf,.int .i64 jd,.int .i64 jn,.int .i64 jm,.int .i64 jr,.int .i64 ja,.int .u32 ji,.int .i64 jt,.int .i64 jk,.bool jp,.bool ju,.bool jw,.int .u16 jl,.int .i64 jx,.int .i64 jy,.int .i64 jz,.int .i64 jv]) (w.alloc (.cells ([.int .i64 jc,.int .i64 jo,.bool js,.int .i64 jf,.int .i64 jd,.int .i64 jn,.int .i64 jm,.int .i64 jr,.int .i64 ja,.int .u32 ji,.int .i64 jt,.int .i64 jk,.bool jp,.bool ju,.bool jw,.int .u16 jl,.int .i64 jx,.int .i64 jy,.int .i64 jz,.int .i64 jv]).toArray 28))) at HX0
  change Hid (∀w',TP w'→Calls Tryd.prog 12 #[.agg #[.int .i64 jc,.int .i64 jo,.bool js,.int .i64 jf,.int .i64 jd,.int .i64 jn,.int .i64 jm,.int .i64 jr,.int .i64 ja,.int .u32 ji,.int .i64 jt,.int .i64 jk,.bool jp,.bool ju,.bool jw,.int .u16 jl,.int .i64 jx,.int .i64 jy,.int .i64 jz,.int .i64 jv]] w' fun e w''=>e= .returned (.bool true)∧Below w'.heap.size w' w'') at HE
  change Hid (∀w',Calls Tryd.prog 31 #[.agg #[.int .i64 jc,.int .i64 jo,.bool js,.int .i64 jf,.int .i64 jd,.int .i64 jn,.int .i64 jm,.int .i64 jr,.int .i64 ja,.int .u32 ji,.int .i64 jt,.int .i64 jk,.bool jp,.bool ju,.bool jw,.int .u16 jl,.int .i64 jx,.int .i64 jy,.int .i64 jz,.int .i64 jv]] w' fun e w''=>e= .returned (.bool hM)∧Below w'.heap.size w' w'') at HMV
  dsimp only at *
  change Calls Tryd.prog 14 #[.agg #[.int .i64 jc,.int .i64 jo,.bool js,.int .i64 jf,.int .i64 jd,.int .i64 jn,.int .i64 jm,.int .i64 jr,.int .i64 ja,.int .u32 ji,.int .i64 jt,.int .i64 jk,.bool jp,.bool ju,.bool jw,.int .u16 jl,.int .i64 jx,.int .i64 jy,.int .i64 jz,.int .i64 jv]] w _
  go_enter Tryd.func14,Tryd.ntmps14
  go_wp2_with (first|(guard_target =~ wpList _ _ _ (Oper.mk (some 7) _ _ _ _ _::_) _ _; refine wpList_load_mid rfl _ _ rfl w.heap.size 0 rfl _ _ HX0.out.ins.range Tryd.underlying28 rfl ins_size ?_)|(go_at_call 12; refine (HE.out _ HX0.out.tp).mono ?_; rintro e w1 ⟨rfl,hb⟩; have HX:=hidW (HX0.out.step hb); clear hb HX0; obtain ⟨c1,c3⟩:=bx_cells HX.out)|(go_at_call 23; refine (HN.out _ HX.out.tp).mono ?_; rintro e w2 ⟨rfl,hb⟩; have HY:=hidW (HX.out.step hb); clear hb HX c1 c3)|(guard_target =~ wpList _ _ _ (Oper.mk none (Op.store 40 _ _) _ _ _ _::_) _ _; have HT1:=new_there w2 40 (rowL rowZ) RL.toArray.size (by rw [List.size_toArray,HRL.out]; rfl); refine wpList_store_mid rfl _ _ _ rfl w2.heap.size 0 RL.toArray rfl rfl HT1 HRJ.out HRO.out ?_; clear HT1; generalize hW3:World.setCells _ _ _ _=w3; have HZ:=hidW (show RX2 w _ w2.heap.size RL w3 from hW3▸rx2_fill HY.out RL HRL.out); clear hW3 HY)|(guard_target =~ wpList _ _ _ (Oper.mk (some 18) _ _ _ _ _::_) _ _; refine wpList_load_mid rfl _ _ rfl w2.heap.size 0 rfl RL _ HZ.out.row.range Tryd.underlying40 rfl HRI.out ?_)|(guard_target =~ wpList _ _ _ (Oper.mk (some 21) _ _ _ _ _::_) _ _; refine wpList_load_want (by rfl) _ _ rfl w2.heap.size 0 rfl RL _ HZ.out.row.range Tryd.underlying40 rfl HRI.out ?_)|(go_at_call 26; refine (HH'.out _ _ (by decide)).mono ?_; rintro e w5 ⟨rfl,hb5⟩; have HZ:=hidW (HZ.out.step hb5); clear hb5))
  generalize w2.heap.size=q at HZ ⊢
  have HN:=hidW HZ.out.drew
  have K1:=held_w5 HN.out
  refine wp_region_held_drew (S:=fun w'=>w'.cell? ⟨w.heap.size,1,none⟩=some (.int .i64 jo)∧w'.cell? ⟨w.heap.size,4,none⟩=some (.int .i64 jd)∧w'.cell? ⟨w.heap.size,8,none⟩=some (.int .i64 ja)) (by kernel_rfl) K1 (fun hHeld=> ?_)
  have K2:=hidW K1
  clear K1 HZ
  refine tkH 0 ⟨some 24,.move (.tmp 5),4,_,#[],none⟩ ?_ ?_ ?_
  rotate_left
  · (intro w hSw; (try dsimp only at hSw); go_simp; try with_reducible rfl)
  simp only [Act.put,List.setIfInBounds_toArray,List.set_cons_zero,List.set_cons_succ]
  refine tkH 1 ⟨some 25,.move (.tmp 24),4,_,#[⟨0,.data⟩],none⟩ ?_ ?_ ?_
  rotate_left
  · (intro w hSw; (try dsimp only at hSw); go_simp; try with_reducible rfl)
  simp only [Act.put,List.setIfInBounds_toArray,List.set_cons_zero,List.set_cons_succ]
  refine tkH 2 ⟨some 26,.fieldAddr 28 (.tmp 1) 1,0,_,#[⟨1,.guard⟩],some (1,true)⟩ ?_ ?_ ?_
  rotate_left
  · (intro w hSw; (try dsimp only at hSw); go_simp; try with_reducible rfl)
  simp only [Act.put,List.setIfInBounds_toArray,List.set_cons_zero,List.set_cons_succ]
  refine tkH 3 ⟨some 27,.load 3 (.tmp 26),3,_,#[⟨2,.data⟩,⟨1,.guard⟩],some (1,true)⟩ ?_ ?_ ?_
  rotate_left
  · (intro w hSw; (try dsimp only at hSw); go_simp; try with_reducible rfl)
  simp only [Act.put,List.setIfInBounds_toArray,List.set_cons_zero,List.set_cons_succ]
  refine tkH 7 ⟨some 31,.fieldAddr 28 (.tmp 1) 4,0,_,#[],none⟩ ?_ ?_ ?_
  rotate_left
  · (intro w hSw; (try dsimp only at hSw); go_simp; try with_reducible rfl)
  simp only [Act.put,List.setIfInBounds_toArray,List.set_cons_zero,List.set_cons_succ]
  refine tkH 8 ⟨some 32,.load 3 (.tmp 31),3,_,#[⟨7,.data⟩],none⟩ ?_ ?_ ?_
  rotate_left
  · (intro w hSw; (try dsimp only at hSw); go_simp; try with_reducible rfl)
  simp only [Act.put,List.setIfInBounds_toArray,List.set_cons_zero,List.set_cons_succ]
  refine tkH 10 ⟨some 34,.fieldAddr 28 (.tmp 1) 1,0,_,#[],none⟩ ?_ ?_ ?_
  rotate_left
  · (intro w hSw; (try dsimp only at hSw); go_simp; try with_reducible rfl)
  simp only [Act.put,List.setIfInBounds_toArray,List.set_cons_zero,List.set_cons_succ]
  refine tkH 11 ⟨some 35,.load 3 (.tmp 34),3,_,#[⟨10,.data⟩],none⟩ ?_ ?_ ?_
  rotate_left
  · (intro w hSw; (try dsimp only at hSw); go_simp; try with_reducible rfl)
  simp only [Act.put,List.setIfInBounds_toArray,List.set_cons_zero,List.set_cons_succ]
  refine tkH 13 ⟨some 37,.fieldAddr 28 (.tmp 1) 8,0,_,#[],none⟩ ?_ ?_ ?_
  rotate_left
  · (intro w hSw; (try dsimp only at hSw); go_simp; try with_reducible rfl)
  simp only [Act.put,List.setIfInBounds_toArray,List.set_cons_zero,List.set_cons_succ]
  refine tkH 14 ⟨some 38,.load 3 (.tmp 37),3,_,#[⟨13,.data⟩],none⟩ ?_ ?_ ?_
  rotate_left
  · (intro w hSw; (try dsimp only at hSw); go_simp; try with_reducible rfl)
  simp only [Act.put,List.setIfInBounds_toArray,List.set_cons_zero,List.set_cons_succ]
  refine wpAnyH_ready (rs:=[4]) (by kernel_rfl) (by simp) ?_
  refine AllReadyH.cons (o:=⟨some 28,.call ⟨.value (.func 29),#[.tmp 27],#[3]⟩,4,_,#[⟨3,.data⟩,⟨1,.chain⟩,⟨1,.guard⟩],some (1,true)⟩) rfl (fun K hK=> ?_) AllReadyH.nil
  go_simp
  go_at_call 29; refine (HSE.out _).mono ?_; rintro e w5 ⟨rfl,rfl⟩
  refine hK.out _ _ ?_ (fun hHeld=> ?_)
  · with_reducible exact K2.out
  clear hK K
  try simp only [Act.put,List.setIfInBounds_toArray,List.set_cons_zero,List.set_cons_succ]
  refine tkH 5 ⟨some 29,.unOp UnOp.not 4 (.tmp 28),4,_,#[⟨4,.data⟩,⟨1,.guard⟩],some (1,true)⟩ ?_ ?_ ?_
  rotate_left
  · (intro w hSw; (try dsimp only at hSw); go_simp; try with_reducible rfl)
  simp only [Act.put,List.setIfInBounds_toArray,List.set_cons_zero,List.set_cons_succ]
  refine tkH 6 ⟨some 30,.pick (.tmp 25) (.tmp 29) (.const (Value.bool false)),4,_,#[⟨1,.data⟩,⟨5,.data⟩],none⟩ ?_ ?_ ?_
  rotate_left
  · (intro w hSw; (try dsimp only at hSw); go_simp; try with_reducible rfl)
  simp only [Act.put,List.setIfInBounds_toArray,List.set_cons_zero,List.set_cons_succ]
  refine wpAnyH_ready (rs:=[9]) (by kernel_rfl) (by simp) ?_
  refine AllReadyH.cons (o:=⟨some 33,.call ⟨.value (.func 25),#[.tmp 30,.tmp 32],#[4,3]⟩,24,_,#[⟨6,.data⟩,⟨8,.data⟩,⟨4,.chain⟩],none⟩) rfl (fun K hK=> ?_) AllReadyH.nil
  go_simp
  go_at_call 25; refine (HO.out _ _ _ (by constructor <;>assumption)).mono ?_; rintro e w5 ⟨rfl,rfl⟩
  refine hK.out _ _ ?_ (fun hHeld=> ?_)
  · with_reducible exact K2.out
  clear hK K
  try simp only [Act.put,List.setIfInBounds_toArray,List.set_cons_zero,List.set_cons_succ]
  refine wpAnyH_ready (rs:=[12]) (by kernel_rfl) (by simp) ?_
  refine AllReadyH.cons (o:=⟨some 36,.call ⟨.value (.func 30),#[.tmp 35],#[3]⟩,4,_,#[⟨11,.data⟩,⟨9,.chain⟩],none⟩) rfl (fun K hK=> ?_) AllReadyH.nil
  go_simp
  go_at_call 30; refine (HLO.out _).mono ?_; rintro e w5 ⟨rfl,rfl⟩
  refine hK.out _ _ ?_ (fun hHeld=> ?_)
  · with_reducible exact K2.out
  clear hK K
  try simp only [Act.put,List.setIfInBounds_toArray,List.set_cons_zero,List.set_cons_succ]
  refine wpAnyH_ready (rs:=[15]) (by kernel_rfl) (by simp) ?_
  refine AllReadyH.cons (o:=⟨some 39,.call ⟨.value (.func 25),#[.tmp 36,.tmp 38],#[4,3]⟩,24,_,#[⟨12,.data⟩,⟨14,.data⟩,⟨12,.chain⟩],none⟩) rfl (fun K hK=> ?_) AllReadyH.nil
  go_simp
  go_at_call 25; refine (HO.out _ _ _ (by constructor <;>assumption)).mono ?_; rintro e w5 ⟨rfl,rfl⟩
  refine hK.out _ _ ?_ (fun hHeld=> ?_)
  · with_reducible exact K2.out
  clear hK K
  try simp only [Act.put,List.setIfInBounds_toArray,List.set_cons_zero,List.set_cons_succ]
  refine tkH 16 ⟨some 40,.binOp BinOp.or 24 (.tmp 33) (.tmp 39) 24,24,_,#[⟨9,.data⟩,⟨15,.data⟩],none⟩ ?_ ?_ ?_
  rotate_left
  · (intro w hSw; (try dsimp only at hSw); go_simp; try with_reducible rfl)
  simp only [Act.put,List.setIfInBounds_toArray,List.set_cons_zero,List.set_cons_succ]
  refine tkH 17 ⟨some 6,.assign (.tmp 40),24,_,#[⟨16,.data⟩,⟨15,.chain⟩,⟨0,.phase⟩,⟨1,.phase⟩,⟨2,.phase⟩,⟨3,.phase⟩,⟨4,.phase⟩,⟨5,.phase⟩,⟨6,.phase⟩,⟨7,.phase⟩,⟨8,.phase⟩,⟨9,.phase⟩,⟨10,.phase⟩,⟨11,.phase⟩,⟨12,.phase⟩,⟨13,.phase⟩,⟨14,.phase⟩,⟨15,.phase⟩,⟨16,.phase⟩],none⟩ ?_ ?_ ?_
  rotate_left
  · (intro w hSw; (try dsimp only at hSw); go_simp; try with_reducible rfl)
  simp only [Act.put,List.setIfInBounds_toArray,List.set_cons_zero,List.set_cons_succ]
  refine wpAnyH_done (by kernel_rfl) ?_ _
  go_wp2_with fail
  have HN:=hidW HN.out.drew
  have K1:=held_w6 HN.out
  have hu:=Tryd.underlying28
  refine wp_region_held_drew (S:=fun w'=>w'.rangeAt w.heap.size 0 ([.int .i64 jc,.int .i64 jo,.bool js,.int .i64 jf,.int .i64 jd,.int .i64 jn,.int .i64 jm,.int .i64 jr,.int .i64 ja,.int .u32 ji,.int .i64 jt,.int .i64 jk,.bool jp,.bool ju,.bool jw,.int .u16 jl,.int .i64 jx,.int .i64 jy,.int .i64 jz,.int .i64 jv])∧w'.cell? ⟨w.heap.size,1,none⟩=some (.int .i64 jo)∧w'.cell? ⟨w.heap.size,5,none⟩=some (.int .i64 jn)) (by kernel_rfl) K1 (fun hHeld=> ?_)
  clear K1 K2
  refine tkH 0 ⟨some 41,.move (.tmp 6),24,_,#[],none⟩ ?_ ?_ ?_
  rotate_left
  · (intro w hSw; (try dsimp only at hSw); go_simp; try with_reducible rfl)
  simp only [Act.put,List.setIfInBounds_toArray,List.set_cons_zero,List.set_cons_succ]
  refine wpAnyH_take (i:=1) (oi:=⟨some 42,.load 28 (.tmp 1),28,_,#[],none⟩) (v:=_) rfl (by kernel_rfl) (by kernel_rfl) (by kernel_rfl) (fun _ _ _ h=>h) (yieldsIf_load_mid (by rfl) _ _ rfl w.heap.size 0 rfl _ _ (fun _ h=>h.1) hu rfl ins_size) (by assumption) ?_
  simp only [Act.put,List.setIfInBounds_toArray,List.set_cons_zero,List.set_cons_succ]
  refine tkH 3 ⟨some 44,.fieldAddr 28 (.tmp 1) 5,0,_,#[],none⟩ ?_ ?_ ?_
  rotate_left
  · (intro w hSw; (try dsimp only at hSw); go_simp; try with_reducible rfl)
  simp only [Act.put,List.setIfInBounds_toArray,List.set_cons_zero,List.set_cons_succ]
  refine tkH 4 ⟨some 45,.load 3 (.tmp 44),3,_,#[⟨3,.data⟩],none⟩ ?_ ?_ ?_
  rotate_left
  · (intro w hSw; (try dsimp only at hSw); go_simp; try with_reducible rfl)
  simp only [Act.put,List.setIfInBounds_toArray,List.set_cons_zero,List.set_cons_succ]
  refine tkH 6 ⟨some 47,.fieldAddr 28 (.tmp 1) 1,0,_,#[],none⟩ ?_ ?_ ?_
  rotate_left
  · (intro w hSw; (try dsimp only at hSw); go_simp; try with_reducible rfl)
  simp only [Act.put,List.setIfInBounds_toArray,List.set_cons_zero,List.set_cons_succ]
  refine tkH 7 ⟨some 48,.load 3 (.tmp 47),3,_,#[⟨6,.data⟩],none⟩ ?_ ?_ ?_
  rotate_left
  · (intro w hSw; (try dsimp only at hSw); go_simp; try with_reducible rfl)
  simp only [Act.put,List.setIfInBounds_toArray,List.set_cons_zero,List.set_cons_succ]
  refine tkH 11 ⟨some 52,.fieldAddr 28 (.tmp 1) 1,0,_,#[],none⟩ ?_ ?_ ?_
  rotate_left
  · (intro w hSw; (try dsimp only at hSw); go_simp; try with_reducible rfl)
  simp only [Act.put,List.setIfInBounds_toArray,List.set_cons_zero,List.set_cons_succ]
  refine tkH 12 ⟨some 53,.load 3 (.tmp 52),3,_,#[⟨11,.data⟩],none⟩ ?_ ?_ ?_
  rotate_left
  · (intro w hSw; (try dsimp only at hSw); go_simp; try with_reducible rfl)
  simp only [Act.put,List.setIfInBounds_toArray,List.set_cons_zero,List.set_cons_succ]
  refine wpAnyH_ready (rs:=[2]) (by kernel_rfl) (by simp) ?_
  refine AllReadyH.cons (o:=⟨some 43,.call ⟨.value (.func 31),#[.tmp 42],#[28]⟩,4,_,#[⟨1,.data⟩],none⟩) rfl (fun K hK=> ?_) AllReadyH.nil
  go_simp
  go_at_call 31; refine (HMV.out _).mono ?_; rintro e w5 ⟨rfl,hb5⟩; have HN:=hidW (HN.out.step hb5); have K2:=hidW (held_w6 HN.out); clear hb5
  refine hK.out _ _ ?_ (fun hHeld=> ?_)
  · with_reducible exact K2.out
  clear hK K
  try simp only [Act.put,List.setIfInBounds_toArray,List.set_cons_zero,List.set_cons_succ]
  refine wpAnyH_ready (rs:=[5]) (by kernel_rfl) (by simp) ?_
  refine AllReadyH.cons (o:=⟨some 46,.call ⟨.value (.func 25),#[.tmp 43,.tmp 45],#[4,3]⟩,24,_,#[⟨2,.data⟩,⟨4,.data⟩,⟨2,.chain⟩],none⟩) rfl (fun K hK=> ?_) AllReadyH.nil
  go_simp
  go_at_call 25; refine (HO.out _ _ _ (by first|decide|(constructor <;>assumption))).mono ?_; rintro e w5 ⟨rfl,rfl⟩
  refine hK.out _ _ ?_ (fun hHeld=> ?_)
  · with_reducible exact K2.out
  clear hK K
  try simp only [Act.put,List.setIfInBounds_toArray,List.set_cons_zero,List.set_cons_succ]
  refine wpAnyH_ready (rs:=[8]) (by kernel_rfl) (by simp) ?_
  refine AllReadyH.cons (o:=⟨some 49,.call ⟨.value (.func 32),#[.tmp 48],#[3]⟩,4,_,#[⟨7,.data⟩,⟨5,.chain⟩],none⟩) rfl (fun K hK=> ?_) AllReadyH.nil
  go_simp
  go_at_call 32; refine (HGO.out _).mono ?_; rintro e w5 ⟨rfl,rfl⟩
  refine hK.out _ _ ?_ (fun hHeld=> ?_)
  · with_reducible exact K2.out
  clear hK K
  try simp only [Act.put,List.setIfInBounds_toArray,List.set_cons_zero,List.set_cons_succ]
  refine wpAnyH_ready (rs:=[9]) (by kernel_rfl) (by simp) ?_
  refine AllReadyH.cons (o:=⟨some 50,.call ⟨.value (.func 25),#[.tmp 49,.const (Value.int IntKind.i64 15)],#[4,3]⟩,24,_,#[⟨8,.data⟩,⟨8,.chain⟩],none⟩) rfl (fun K hK=> ?_) AllReadyH.nil
  go_simp
  go_at_call 25; refine (HO.out _ _ _ (by first|decide|(constructor <;>assumption))).mono ?_; rintro e w5 ⟨rfl,rfl⟩
  refine hK.out _ _ ?_ (fun hHeld=> ?_)
  · with_reducible exact K2.out
  clear hK K
  try simp only [Act.put,List.setIfInBounds_toArray,List.set_cons_zero,List.set_cons_succ]
  refine tkH 10 ⟨some 51,.binOp BinOp.or 24 (.tmp 46) (.tmp 50) 24,24,_,#[⟨5,.data⟩,⟨9,.data⟩],none⟩ ?_ ?_ ?_
  rotate_left
  · (intro w hSw; (try dsimp only at hSw); go_simp; try with_reducible rfl)
  simp only [Act.put,List.setIfInBounds_toArray,List.set_cons_zero,List.set_cons_succ]
  refine wpAnyH_ready (rs:=[13]) (by kernel_rfl) (by simp) ?_
  refine AllReadyH.cons (o:=⟨some 54,.call ⟨.value (.func 33),#[.tmp 53],#[3]⟩,4,_,#[⟨12,.data⟩,⟨9,.chain⟩],none⟩) rfl (fun K hK=> ?_) AllReadyH.nil
  go_simp
  go_at_call 33; refine (HCO.out _).mono ?_; rintro e w5 ⟨rfl,rfl⟩
  refine hK.out _ _ ?_ (fun hHeld=> ?_)
  · with_reducible exact K2.out
  clear hK K
  try simp only [Act.put,List.setIfInBounds_toArray,List.set_cons_zero,List.set_cons_succ]
  refine wpAnyH_ready (rs:=[14]) (by kernel_rfl) (by simp) ?_
  refine AllReadyH.cons (o:=⟨some 55,.call ⟨.value (.func 25),#[.tmp 54,.const (Value.int IntKind.i64 14)],#[4,3]⟩,24,_,#[⟨13,.data⟩,⟨13,.chain⟩],none⟩) rfl (fun K hK=> ?_) AllReadyH.nil
  go_simp
  go_at_call 25; refine (HO.out _ _ _ (by first|decide|(constructor <;>assumption))).mono ?_; rintro e w5 ⟨rfl,rfl⟩
  refine hK.out _ _ ?_ (fun hHeld=> ?_)
  · with_reducible exact K2.out
  clear hK K
  try simp only [Act.put,List.setIfInBounds_toArray,List.set_cons_zero,List.set_cons_succ]
  refine tkH 15 ⟨some 56,.binOp BinOp.or 24 (.tmp 51) (.tmp 55) 24,24,_,#[⟨10,.data⟩,⟨14,.data⟩],none⟩ ?_ ?_ ?_
  rotate_left
  · (intro w hSw; (try dsimp only at hSw); go_simp; try with_reducible rfl)
  simp only [Act.put,List.setIfInBounds_toArray,List.set_cons_zero,List.set_cons_succ]
  refine tkH 16 ⟨some 57,.binOp BinOp.or 24 (.tmp 41) (.tmp 56) 24,24,_,#[⟨0,.data⟩,⟨15,.data⟩],none⟩ ?_ ?_ ?_
  rotate_left
  · (intro w hSw; (try dsimp only at hSw); go_simp; try with_reducible rfl)
  simp only [Act.put,List.setIfInBounds_toArray,List.set_cons_zero,List.set_cons_succ]
  refine tkH 17 ⟨some 6,.assign (.tmp 57),24,_,#[⟨16,.data⟩,⟨14,.chain⟩,⟨0,.phase⟩,⟨1,.phase⟩,⟨2,.phase⟩,⟨3,.phase⟩,⟨4,.phase⟩,⟨5,.phase⟩,⟨6,.phase⟩,⟨7,.phase⟩,⟨8,.phase⟩,⟨9,.phase⟩,⟨10,.phase⟩,⟨11,.phase⟩,⟨12,.phase⟩,⟨13,.phase⟩,⟨14,.phase⟩,⟨15,.phase⟩,⟨16,.phase⟩],none⟩ ?_ ?_ ?_
  rotate_left
  · (intro w hSw; (try dsimp only at hSw); go_simp; try with_reducible rfl)
  simp only [Act.put,List.setIfInBounds_toArray,List.set_cons_zero,List.set_cons_succ]
  refine wpAnyH_done (by kernel_rfl) ?_ _
  obtain ⟨c1,c15⟩:=held_r6 HN.out
  go_wp2_with fail
  exact bodyPost_ret (by simp [results,Tryd.results14,go_sem,Act.put]) rfl ⟨rfl,HN.out.bel⟩
set_option maxRecDepth 100000 in
set_option maxHeartbeats 1000000 in
theorem gwrites_bm (i:Ins) (w:World) (ht:TP w) (hi:IOk i) (x:Nat) (he:encP i=some x) (r:RowP) (hr:rowN i.op i.form=some r) (q3:hasR r 3=false) (q4:hasR r 4=true) (h39:i.op=39):Calls Tryd.prog 14 #[.agg (insA i)] w fun e w'=>e= .returned (.int .u16 ((writesR r i:Nat):Int))∧Below w.heap.size w w':=by
  have er:writesR r i=(onlyN (!sendsP i.op) i.rd ||| onlyN (isLongP i.op) i.ra) ||| ((onlyN (movesP i) i.rn ||| onlyN (goesP i.op) 15) ||| onlyN (comesP i.op) 14) ||| i.list.toNat:=by unfold writesR; simp only [if_pos h39,q3,q4,Bool.true_or,Bool.false_or,Bool.or_false,Bool.true_and,Bool.false_and]
  rw [er]
  clear er
  have HRG:=enc_regs he
  obtain ⟨⟨d0,d1⟩,⟨n0,n1⟩,⟨m0,m1⟩,⟨s0,s1⟩,⟨a0,a1⟩,l0,l1⟩:=HRG
  have HE:Hid (∀w',TP w'→Calls Tryd.prog 12 #[.agg (insA i)] w' fun e w''=>e= .returned (.bool true)∧Below w'.heap.size w' w''):=fun w' h=>by
    have:=gright_any i w' h hi
    rw [he] at this
    exact this
  have HN:Hid (∀w',TP w'→Calls Tryd.prog 23 #[.int .i64 i.op,.int .i64 i.form] w' fun e w''=>e= .returned (.tuple #[.agg (rowL r).toArray,.bool true])∧Below w'.heap.size w' w''):=fun w' ht=>by
    have:=growN_any i.op i.form w' ht
    rw [hr] at this
    exact this
  have hok:=(rowN_ok hr).ok.parts
  have HH:Hid (∀(k:Int) w',(0≤k∧k<32)→Calls Tryd.prog 26 #[.agg (rowL r).toArray,.int .i64 k] w' fun e w''=>e= .returned (.bool (hasR r k.toNat))∧Below w'.heap.size w' w''):=fun k w' h=>by
    have:=ghas_any r k.toNat w' (by omega) hok
    rw [show ((k.toNat:Nat):Int)=k by omega] at this
    exact this
  have HSE:Hid (∀w',Calls Tryd.prog 29 #[.int .i64 i.op] w' fun e w''=>e= .returned (.bool (sendsP i.op))∧w''=w'):=fun w'=>gsends_any i.op w'
  have HLO:Hid (∀w',Calls Tryd.prog 30 #[.int .i64 i.op] w' fun e w''=>e= .returned (.bool (isLongP i.op))∧w''=w'):=fun w'=>gisLong_any i.op w'
  have HGO:Hid (∀w',Calls Tryd.prog 32 #[.int .i64 i.op] w' fun e w''=>e= .returned (.bool (goesP i.op))∧w''=w'):=fun w'=>ggoes_any i.op w'
  have HCO:Hid (∀w',Calls Tryd.prog 33 #[.int .i64 i.op] w' fun e w''=>e= .returned (.bool (comesP i.op))∧w''=w'):=fun w'=>gcomes_any i.op w'
  have HMV:Hid (∀w',Calls Tryd.prog 31 #[.agg (insA i)] w' fun e w''=>e= .returned (.bool (movesP i))∧Below w'.heap.size w' w''):=fun w'=>gmoves_any i w'
  have HO:Hid (∀b n w',(0≤n∧n<16)→Calls Tryd.prog 25 #[.bool b,.int .i64 n] w' fun e w''=>e= .returned (.int .u16 ((onlyN b n:Nat):Int))∧w''=w'):=fun b n w' h=>by
    rw [←onlyP_N]; exact gonly_any b n w' h.1 h.2
  have LO:Hid (∀b n,0≤n→n<16→onlyN b n<65536):=onlyN_lt
  have HX0:=hidW (BX.first ht (insL i))
  have HRO:Hid ((rowL r).toArray.all (·.oneCell')=true):=row_all r
  have HRL:Hid ((rowL r).length=5):=rfl
  have HRI:Hid ((Tryd.prog.info? 40).map (·.size)=some (rowL r).length):=row_info
  have HRJ:Hid ((Tryd.prog.info? 40).map (·.size)=some (rowL r).toArray.size):=row_info
  obtain ⟨HF,hHF⟩:∃HF:Int→Bool,HF=fun k=>hasR r k.toNat:=⟨_,rfl⟩
  have f3:HF 3=false:=by rw [hHF]; exact q3
  have f4:HF 4=true:=by rw [hHF]; exact q4
  have HH':Hid (∀(k:Int) w',(0≤k∧k<32)→Calls Tryd.prog 26 #[.agg (rowL r).toArray,.int .i64 k] w' fun e w''=>e= .returned (.bool (HF k))∧Below w'.heap.size w' w''):=by rw [hHF]; exact HH
  clear HH hHF q3 q4
  generalize onlyN=ON at *
  generalize sendsP i.op=hS at *
  generalize isLongP i.op=hL at *
  generalize goesP i.op=hG at *
  generalize comesP i.op=hC at *
  generalize movesP i=hM at *
  have b39:(i.op == 39)=true:=beq_iff_eq.2 h39
  have L1:=LO.out (!hS) i.rd d0 d1
  have L2:=LO.out hL i.ra a0 a1
  have L3:=LO.out hM i.rn n0 n1
  have L4:=LO.out hG 15 (by decide) (by decide)
  have L5:=LO.out hC 14 (by decide) (by decide)
  have e1:=or16 (ON (!hS) i.rd) (ON hL i.ra) L1 L2
  have e2:=or16 (ON hM i.rn) (ON hG 15) L3 L4
  have e3:=or16 _ (ON hC 14) (or_lt16 L3 L4) L5
  have e4:=or16 _ _ (or_lt16 L1 L2) (or_lt16 (or_lt16 L3 L4) L5)
  have e5:=or16 _ i.list.toNat (or_lt16 (or_lt16 L1 L2) (or_lt16 (or_lt16 L3 L4) L5)) (by omega)
  have el:((i.list.toNat:Nat):Int)=i.list:=by omega
  rw [el] at e5
  have EV:Hid (Value.int .u16 (bits .or .u16 (bits .or .u16 (bits .or .u16 (ON (!hS) i.rd) (ON hL i.ra)) (bits .or .u16 (bits .or .u16 (ON hM i.rn) (ON hG 15)) (ON hC 14))) i.list)= .int .u16 (((((ON (!hS) i.rd) ||| ON hL i.ra) ||| ((ON hM i.rn ||| ON hG 15) ||| ON hC 14)) ||| i.list.toNat:Nat):Int)):=by
    show _=_
    rw [e1,e2,e3,e4,e5]
  rw [←EV.out]
  clear EV e1 e2 e3 e4 e5 el L1 L2 L3 L4 L5 LO ht hi he hr h39 hok
  generalize rowL r=RL at *
  obtain ⟨jc,jo,js,jf,jd,jn,jm,jr,ja,ji,jt,jk,jp,ju,jw,jl,jx,jy,jz,jv⟩:=i
  change Hid (BX w ([.int .i64 jc,.int .i64 jo,.bool js,.int .i64 jf,.int .i64 jd,.int .i64 jn,.int .i64 jm,.int .i64 jr,.int .i64 ja,.int .u32 ji,.int .i64 jt,.int .i64 jk,.bool jp,.bool ju,.bool jw,.int .u16 jl,.int .i64 jx,.int .i64 jy,.int .i64 jz,.int .i64 jv]) (w.alloc (.cells ([.int .i64 jc,.int .i64 jo,.bool js,.int .i64 jf,.int .i64 jd,.int .i64 jn,.int .i64 jm,.int .i64 jr,.int .i64 ja,.int .u32 ji,.int .i64 jt,.int .i64 jk,.bool jp,.bool ju,.bool jw,.int .u16 jl,.int .i64 jx,.int .i64 jy,.int .i64 jz,.int .i64 jv]).toArray 28))) at HX0
  change Hid (∀w',TP w'→Calls Tryd.prog 12 #[.agg #[.int .i64 jc,.int .i64 jo,.bool js,.int .i64 jf,.int .i64 jd,.int .i64 jn,.int .i64 jm,.int .i64 jr,.int .i64 ja,.int .u32 ji,.int .i64 jt,.int .i64 jk,.bool jp,.bool ju,.bool jw,.int .u16 jl,.int .i64 jx,.int .i64 jy,.int .i64 jz,.int .i64 jv]] w' fun e w''=>e= .returned (.bool true)∧Below w'.heap.size w' w'') at HE
  change Hid (∀w',Calls Tryd.prog 31 #[.agg #[.int .i64 jc,.int .i64 jo,.bool js,.int .i64 jf,.int .i64 jd,.int .i64 jn,.int .i64 jm,.int .i64 jr,.int .i64 ja,.int .u32 ji,.int .i64 jt,.int .i64 jk,.bool jp,.bool ju,.bool jw,.int .u16 jl,.int .i64 jx,.int .i64 jy,.int .i64 jz,.int .i64 jv]] w' fun e w''=>e= .returned (.bool hM)∧Below w'.heap.size w' w'') at HMV
  dsimp only at *
  change Calls Tryd.prog 14 #[.agg #[.int .i64 jc,.int .i64 jo,.bool js,.int .i64 jf,.int .i64 jd,.int .i64 jn,.int .i64 jm,.int .i64 jr,.int .i64 ja,.int .u32 ji,.int .i64 jt,.int .i64 jk,.bool jp,.bool ju,.bool jw,.int .u16 jl,.int .i64 jx,.int .i64 jy,.int .i64 jz,.int .i64 jv]] w _
  go_enter Tryd.func14,Tryd.ntmps14
  go_wp2_with (first|(guard_target =~ wpList _ _ _ (Oper.mk (some 7) _ _ _ _ _::_) _ _; refine wpList_load_mid rfl _ _ rfl w.heap.size 0 rfl _ _ HX0.out.ins.range Tryd.underlying28 rfl ins_size ?_)|(go_at_call 12; refine (HE.out _ HX0.out.tp).mono ?_; rintro e w1 ⟨rfl,hb⟩; have HX:=hidW (HX0.out.step hb); clear hb HX0; obtain ⟨c1,c3⟩:=bx_cells HX.out)|(go_at_call 23; refine (HN.out _ HX.out.tp).mono ?_; rintro e w2 ⟨rfl,hb⟩; have HY:=hidW (HX.out.step hb); clear hb HX c1 c3)|(guard_target =~ wpList _ _ _ (Oper.mk none (Op.store 40 _ _) _ _ _ _::_) _ _; have HT1:=new_there w2 40 (rowL rowZ) RL.toArray.size (by rw [List.size_toArray,HRL.out]; rfl); refine wpList_store_mid rfl _ _ _ rfl w2.heap.size 0 RL.toArray rfl rfl HT1 HRJ.out HRO.out ?_; clear HT1; generalize hW3:World.setCells _ _ _ _=w3; have HZ:=hidW (show RX2 w _ w2.heap.size RL w3 from hW3▸rx2_fill HY.out RL HRL.out); clear hW3 HY)|(guard_target =~ wpList _ _ _ (Oper.mk (some 18) _ _ _ _ _::_) _ _; refine wpList_load_mid rfl _ _ rfl w2.heap.size 0 rfl RL _ HZ.out.row.range Tryd.underlying40 rfl HRI.out ?_)|(guard_target =~ wpList _ _ _ (Oper.mk (some 21) _ _ _ _ _::_) _ _; refine wpList_load_want (by rfl) _ _ rfl w2.heap.size 0 rfl RL _ HZ.out.row.range Tryd.underlying40 rfl HRI.out ?_)|(go_at_call 26; refine (HH'.out _ _ (by decide)).mono ?_; rintro e w5 ⟨rfl,hb5⟩; have HZ:=hidW (HZ.out.step hb5); clear hb5))
  generalize w2.heap.size=q at HZ ⊢
  have HN:=hidW HZ.out.drew
  have K1:=held_w5 HN.out
  refine wp_region_held_drew (S:=fun w'=>w'.cell? ⟨w.heap.size,1,none⟩=some (.int .i64 jo)∧w'.cell? ⟨w.heap.size,4,none⟩=some (.int .i64 jd)∧w'.cell? ⟨w.heap.size,8,none⟩=some (.int .i64 ja)) (by kernel_rfl) K1 (fun hHeld=> ?_)
  have K2:=hidW K1
  clear K1 HZ
  refine tkH 0 ⟨some 24,.move (.tmp 5),4,_,#[],none⟩ ?_ ?_ ?_
  rotate_left
  · (intro w hSw; (try dsimp only at hSw); go_simp; try with_reducible rfl)
  simp only [Act.put,List.setIfInBounds_toArray,List.set_cons_zero,List.set_cons_succ]
  refine tkH 1 ⟨some 25,.move (.tmp 24),4,_,#[⟨0,.data⟩],none⟩ ?_ ?_ ?_
  rotate_left
  · (intro w hSw; (try dsimp only at hSw); go_simp; try with_reducible rfl)
  simp only [Act.put,List.setIfInBounds_toArray,List.set_cons_zero,List.set_cons_succ]
  refine tkH 2 ⟨some 26,.fieldAddr 28 (.tmp 1) 1,0,_,#[⟨1,.guard⟩],some (1,true)⟩ ?_ ?_ ?_
  rotate_left
  · (intro w hSw; (try dsimp only at hSw); go_simp; try with_reducible rfl)
  simp only [Act.put,List.setIfInBounds_toArray,List.set_cons_zero,List.set_cons_succ]
  refine tkH 3 ⟨some 27,.load 3 (.tmp 26),3,_,#[⟨2,.data⟩,⟨1,.guard⟩],some (1,true)⟩ ?_ ?_ ?_
  rotate_left
  · (intro w hSw; (try dsimp only at hSw); go_simp; try with_reducible rfl)
  simp only [Act.put,List.setIfInBounds_toArray,List.set_cons_zero,List.set_cons_succ]
  refine tkH 7 ⟨some 31,.fieldAddr 28 (.tmp 1) 4,0,_,#[],none⟩ ?_ ?_ ?_
  rotate_left
  · (intro w hSw; (try dsimp only at hSw); go_simp; try with_reducible rfl)
  simp only [Act.put,List.setIfInBounds_toArray,List.set_cons_zero,List.set_cons_succ]
  refine tkH 8 ⟨some 32,.load 3 (.tmp 31),3,_,#[⟨7,.data⟩],none⟩ ?_ ?_ ?_
  rotate_left
  · (intro w hSw; (try dsimp only at hSw); go_simp; try with_reducible rfl)
  simp only [Act.put,List.setIfInBounds_toArray,List.set_cons_zero,List.set_cons_succ]
  refine tkH 10 ⟨some 34,.fieldAddr 28 (.tmp 1) 1,0,_,#[],none⟩ ?_ ?_ ?_
  rotate_left
  · (intro w hSw; (try dsimp only at hSw); go_simp; try with_reducible rfl)
  simp only [Act.put,List.setIfInBounds_toArray,List.set_cons_zero,List.set_cons_succ]
  refine tkH 11 ⟨some 35,.load 3 (.tmp 34),3,_,#[⟨10,.data⟩],none⟩ ?_ ?_ ?_
  rotate_left
  · (intro w hSw; (try dsimp only at hSw); go_simp; try with_reducible rfl)
  simp only [Act.put,List.setIfInBounds_toArray,List.set_cons_zero,List.set_cons_succ]
  refine tkH 13 ⟨some 37,.fieldAddr 28 (.tmp 1) 8,0,_,#[],none⟩ ?_ ?_ ?_
  rotate_left
  · (intro w hSw; (try dsimp only at hSw); go_simp; try with_reducible rfl)
  simp only [Act.put,List.setIfInBounds_toArray,List.set_cons_zero,List.set_cons_succ]
  refine tkH 14 ⟨some 38,.load 3 (.tmp 37),3,_,#[⟨13,.data⟩],none⟩ ?_ ?_ ?_
  rotate_left
  · (intro w hSw; (try dsimp only at hSw); go_simp; try with_reducible rfl)
  simp only [Act.put,List.setIfInBounds_toArray,List.set_cons_zero,List.set_cons_succ]
  refine wpAnyH_ready (rs:=[4]) (by kernel_rfl) (by simp) ?_
  refine AllReadyH.cons (o:=⟨some 28,.call ⟨.value (.func 29),#[.tmp 27],#[3]⟩,4,_,#[⟨3,.data⟩,⟨1,.chain⟩,⟨1,.guard⟩],some (1,true)⟩) rfl (fun K hK=> ?_) AllReadyH.nil
  go_simp
  go_at_call 29; refine (HSE.out _).mono ?_; rintro e w5 ⟨rfl,rfl⟩
  refine hK.out _ _ ?_ (fun hHeld=> ?_)
  · with_reducible exact K2.out
  clear hK K
  try simp only [Act.put,List.setIfInBounds_toArray,List.set_cons_zero,List.set_cons_succ]
  refine tkH 5 ⟨some 29,.unOp UnOp.not 4 (.tmp 28),4,_,#[⟨4,.data⟩,⟨1,.guard⟩],some (1,true)⟩ ?_ ?_ ?_
  rotate_left
  · (intro w hSw; (try dsimp only at hSw); go_simp; try with_reducible rfl)
  simp only [Act.put,List.setIfInBounds_toArray,List.set_cons_zero,List.set_cons_succ]
  refine tkH 6 ⟨some 30,.pick (.tmp 25) (.tmp 29) (.const (Value.bool false)),4,_,#[⟨1,.data⟩,⟨5,.data⟩],none⟩ ?_ ?_ ?_
  rotate_left
  · (intro w hSw; (try dsimp only at hSw); go_simp; try with_reducible rfl)
  simp only [Act.put,List.setIfInBounds_toArray,List.set_cons_zero,List.set_cons_succ]
  refine wpAnyH_ready (rs:=[9]) (by kernel_rfl) (by simp) ?_
  refine AllReadyH.cons (o:=⟨some 33,.call ⟨.value (.func 25),#[.tmp 30,.tmp 32],#[4,3]⟩,24,_,#[⟨6,.data⟩,⟨8,.data⟩,⟨4,.chain⟩],none⟩) rfl (fun K hK=> ?_) AllReadyH.nil
  go_simp
  go_at_call 25; refine (HO.out _ _ _ (by constructor <;>assumption)).mono ?_; rintro e w5 ⟨rfl,rfl⟩
  refine hK.out _ _ ?_ (fun hHeld=> ?_)
  · with_reducible exact K2.out
  clear hK K
  try simp only [Act.put,List.setIfInBounds_toArray,List.set_cons_zero,List.set_cons_succ]
  refine wpAnyH_ready (rs:=[12]) (by kernel_rfl) (by simp) ?_
  refine AllReadyH.cons (o:=⟨some 36,.call ⟨.value (.func 30),#[.tmp 35],#[3]⟩,4,_,#[⟨11,.data⟩,⟨9,.chain⟩],none⟩) rfl (fun K hK=> ?_) AllReadyH.nil
  go_simp
  go_at_call 30; refine (HLO.out _).mono ?_; rintro e w5 ⟨rfl,rfl⟩
  refine hK.out _ _ ?_ (fun hHeld=> ?_)
  · with_reducible exact K2.out
  clear hK K
  try simp only [Act.put,List.setIfInBounds_toArray,List.set_cons_zero,List.set_cons_succ]
  refine wpAnyH_ready (rs:=[15]) (by kernel_rfl) (by simp) ?_
  refine AllReadyH.cons (o:=⟨some 39,.call ⟨.value (.func 25),#[.tmp 36,.tmp 38],#[4,3]⟩,24,_,#[⟨12,.data⟩,⟨14,.data⟩,⟨12,.chain⟩],none⟩) rfl (fun K hK=> ?_) AllReadyH.nil
  go_simp
  go_at_call 25; refine (HO.out _ _ _ (by constructor <;>assumption)).mono ?_; rintro e w5 ⟨rfl,rfl⟩
  refine hK.out _ _ ?_ (fun hHeld=> ?_)
  · with_reducible exact K2.out
  clear hK K
  try simp only [Act.put,List.setIfInBounds_toArray,List.set_cons_zero,List.set_cons_succ]
  refine tkH 16 ⟨some 40,.binOp BinOp.or 24 (.tmp 33) (.tmp 39) 24,24,_,#[⟨9,.data⟩,⟨15,.data⟩],none⟩ ?_ ?_ ?_
  rotate_left
  · (intro w hSw; (try dsimp only at hSw); go_simp; try with_reducible rfl)
  simp only [Act.put,List.setIfInBounds_toArray,List.set_cons_zero,List.set_cons_succ]
  refine tkH 17 ⟨some 6,.assign (.tmp 40),24,_,#[⟨16,.data⟩,⟨15,.chain⟩,⟨0,.phase⟩,⟨1,.phase⟩,⟨2,.phase⟩,⟨3,.phase⟩,⟨4,.phase⟩,⟨5,.phase⟩,⟨6,.phase⟩,⟨7,.phase⟩,⟨8,.phase⟩,⟨9,.phase⟩,⟨10,.phase⟩,⟨11,.phase⟩,⟨12,.phase⟩,⟨13,.phase⟩,⟨14,.phase⟩,⟨15,.phase⟩,⟨16,.phase⟩],none⟩ ?_ ?_ ?_
  rotate_left
  · (intro w hSw; (try dsimp only at hSw); go_simp; try with_reducible rfl)
  simp only [Act.put,List.setIfInBounds_toArray,List.set_cons_zero,List.set_cons_succ]
  refine wpAnyH_done (by kernel_rfl) ?_ _
  go_wp2_with fail
  have HN:=hidW HN.out.drew
  have K1:=held_w6 HN.out
  have hu:=Tryd.underlying28
  refine wp_region_held_drew (S:=fun w'=>w'.rangeAt w.heap.size 0 ([.int .i64 jc,.int .i64 jo,.bool js,.int .i64 jf,.int .i64 jd,.int .i64 jn,.int .i64 jm,.int .i64 jr,.int .i64 ja,.int .u32 ji,.int .i64 jt,.int .i64 jk,.bool jp,.bool ju,.bool jw,.int .u16 jl,.int .i64 jx,.int .i64 jy,.int .i64 jz,.int .i64 jv])∧w'.cell? ⟨w.heap.size,1,none⟩=some (.int .i64 jo)∧w'.cell? ⟨w.heap.size,5,none⟩=some (.int .i64 jn)) (by kernel_rfl) K1 (fun hHeld=> ?_)
  clear K1 K2
  refine tkH 0 ⟨some 41,.move (.tmp 6),24,_,#[],none⟩ ?_ ?_ ?_
  rotate_left
  · (intro w hSw; (try dsimp only at hSw); go_simp; try with_reducible rfl)
  simp only [Act.put,List.setIfInBounds_toArray,List.set_cons_zero,List.set_cons_succ]
  refine wpAnyH_take (i:=1) (oi:=⟨some 42,.load 28 (.tmp 1),28,_,#[],none⟩) (v:=_) rfl (by kernel_rfl) (by kernel_rfl) (by kernel_rfl) (fun _ _ _ h=>h) (yieldsIf_load_mid (by rfl) _ _ rfl w.heap.size 0 rfl _ _ (fun _ h=>h.1) hu rfl ins_size) (by assumption) ?_
  simp only [Act.put,List.setIfInBounds_toArray,List.set_cons_zero,List.set_cons_succ]
  refine tkH 3 ⟨some 44,.fieldAddr 28 (.tmp 1) 5,0,_,#[],none⟩ ?_ ?_ ?_
  rotate_left
  · (intro w hSw; (try dsimp only at hSw); go_simp; try with_reducible rfl)
  simp only [Act.put,List.setIfInBounds_toArray,List.set_cons_zero,List.set_cons_succ]
  refine tkH 4 ⟨some 45,.load 3 (.tmp 44),3,_,#[⟨3,.data⟩],none⟩ ?_ ?_ ?_
  rotate_left
  · (intro w hSw; (try dsimp only at hSw); go_simp; try with_reducible rfl)
  simp only [Act.put,List.setIfInBounds_toArray,List.set_cons_zero,List.set_cons_succ]
  refine tkH 6 ⟨some 47,.fieldAddr 28 (.tmp 1) 1,0,_,#[],none⟩ ?_ ?_ ?_
  rotate_left
  · (intro w hSw; (try dsimp only at hSw); go_simp; try with_reducible rfl)
  simp only [Act.put,List.setIfInBounds_toArray,List.set_cons_zero,List.set_cons_succ]
  refine tkH 7 ⟨some 48,.load 3 (.tmp 47),3,_,#[⟨6,.data⟩],none⟩ ?_ ?_ ?_
  rotate_left
  · (intro w hSw; (try dsimp only at hSw); go_simp; try with_reducible rfl)
  simp only [Act.put,List.setIfInBounds_toArray,List.set_cons_zero,List.set_cons_succ]
  refine tkH 11 ⟨some 52,.fieldAddr 28 (.tmp 1) 1,0,_,#[],none⟩ ?_ ?_ ?_
  rotate_left
  · (intro w hSw; (try dsimp only at hSw); go_simp; try with_reducible rfl)
  simp only [Act.put,List.setIfInBounds_toArray,List.set_cons_zero,List.set_cons_succ]
  refine tkH 12 ⟨some 53,.load 3 (.tmp 52),3,_,#[⟨11,.data⟩],none⟩ ?_ ?_ ?_
  rotate_left
  · (intro w hSw; (try dsimp only at hSw); go_simp; try with_reducible rfl)
  simp only [Act.put,List.setIfInBounds_toArray,List.set_cons_zero,List.set_cons_succ]
  refine wpAnyH_ready (rs:=[2]) (by kernel_rfl) (by simp) ?_
  refine AllReadyH.cons (o:=⟨some 43,.call ⟨.value (.func 31),#[.tmp 42],#[28]⟩,4,_,#[⟨1,.data⟩],none⟩) rfl (fun K hK=> ?_) AllReadyH.nil
  go_simp
  go_at_call 31; refine (HMV.out _).mono ?_; rintro e w5 ⟨rfl,hb5⟩; have HN:=hidW (HN.out.step hb5); have K2:=hidW (held_w6 HN.out); clear hb5
  refine hK.out _ _ ?_ (fun hHeld=> ?_)
  · with_reducible exact K2.out
  clear hK K
  try simp only [Act.put,List.setIfInBounds_toArray,List.set_cons_zero,List.set_cons_succ]
  refine wpAnyH_ready (rs:=[5]) (by kernel_rfl) (by simp) ?_
  refine AllReadyH.cons (o:=⟨some 46,.call ⟨.value (.func 25),#[.tmp 43,.tmp 45],#[4,3]⟩,24,_,#[⟨2,.data⟩,⟨4,.data⟩,⟨2,.chain⟩],none⟩) rfl (fun K hK=> ?_) AllReadyH.nil
  go_simp
  go_at_call 25; refine (HO.out _ _ _ (by first|decide|(constructor <;>assumption))).mono ?_; rintro e w5 ⟨rfl,rfl⟩
  refine hK.out _ _ ?_ (fun hHeld=> ?_)
  · with_reducible exact K2.out
  clear hK K
  try simp only [Act.put,List.setIfInBounds_toArray,List.set_cons_zero,List.set_cons_succ]
  refine wpAnyH_ready (rs:=[8]) (by kernel_rfl) (by simp) ?_
  refine AllReadyH.cons (o:=⟨some 49,.call ⟨.value (.func 32),#[.tmp 48],#[3]⟩,4,_,#[⟨7,.data⟩,⟨5,.chain⟩],none⟩) rfl (fun K hK=> ?_) AllReadyH.nil
  go_simp
  go_at_call 32; refine (HGO.out _).mono ?_; rintro e w5 ⟨rfl,rfl⟩
  refine hK.out _ _ ?_ (fun hHeld=> ?_)
  · with_reducible exact K2.out
  clear hK K
  try simp only [Act.put,List.setIfInBounds_toArray,List.set_cons_zero,List.set_cons_succ]
  refine wpAnyH_ready (rs:=[9]) (by kernel_rfl) (by simp) ?_
  refine AllReadyH.cons (o:=⟨some 50,.call ⟨.value (.func 25),#[.tmp 49,.const (Value.int IntKind.i64 15)],#[4,3]⟩,24,_,#[⟨8,.data⟩,⟨8,.chain⟩],none⟩) rfl (fun K hK=> ?_) AllReadyH.nil
  go_simp
  go_at_call 25; refine (HO.out _ _ _ (by first|decide|(constructor <;>assumption))).mono ?_; rintro e w5 ⟨rfl,rfl⟩
  refine hK.out _ _ ?_ (fun hHeld=> ?_)
  · with_reducible exact K2.out
  clear hK K
  try simp only [Act.put,List.setIfInBounds_toArray,List.set_cons_zero,List.set_cons_succ]
  refine tkH 10 ⟨some 51,.binOp BinOp.or 24 (.tmp 46) (.tmp 50) 24,24,_,#[⟨5,.data⟩,⟨9,.data⟩],none⟩ ?_ ?_ ?_
  rotate_left
  · (intro w hSw; (try dsimp only at hSw); go_simp; try with_reducible rfl)
  simp only [Act.put,List.setIfInBounds_toArray,List.set_cons_zero,List.set_cons_succ]
  refine wpAnyH_ready (rs:=[13]) (by kernel_rfl) (by simp) ?_
  refine AllReadyH.cons (o:=⟨some 54,.call ⟨.value (.func 33),#[.tmp 53],#[3]⟩,4,_,#[⟨12,.data⟩,⟨9,.chain⟩],none⟩) rfl (fun K hK=> ?_) AllReadyH.nil
  go_simp
  go_at_call 33; refine (HCO.out _).mono ?_; rintro e w5 ⟨rfl,rfl⟩
  refine hK.out _ _ ?_ (fun hHeld=> ?_)
  · with_reducible exact K2.out
  clear hK K
  try simp only [Act.put,List.setIfInBounds_toArray,List.set_cons_zero,List.set_cons_succ]
  refine wpAnyH_ready (rs:=[14]) (by kernel_rfl) (by simp) ?_
  refine AllReadyH.cons (o:=⟨some 55,.call ⟨.value (.func 25),#[.tmp 54,.const (Value.int IntKind.i64 14)],#[4,3]⟩,24,_,#[⟨13,.data⟩,⟨13,.chain⟩],none⟩) rfl (fun K hK=> ?_) AllReadyH.nil
  go_simp
  go_at_call 25; refine (HO.out _ _ _ (by first|decide|(constructor <;>assumption))).mono ?_; rintro e w5 ⟨rfl,rfl⟩
  refine hK.out _ _ ?_ (fun hHeld=> ?_)
  · with_reducible exact K2.out
  clear hK K
  try simp only [Act.put,List.setIfInBounds_toArray,List.set_cons_zero,List.set_cons_succ]
  refine tkH 15 ⟨some 56,.binOp BinOp.or 24 (.tmp 51) (.tmp 55) 24,24,_,#[⟨10,.data⟩,⟨14,.data⟩],none⟩ ?_ ?_ ?_
  rotate_left
  · (intro w hSw; (try dsimp only at hSw); go_simp; try with_reducible rfl)
  simp only [Act.put,List.setIfInBounds_toArray,List.set_cons_zero,List.set_cons_succ]
  refine tkH 16 ⟨some 57,.binOp BinOp.or 24 (.tmp 41) (.tmp 56) 24,24,_,#[⟨0,.data⟩,⟨15,.data⟩],none⟩ ?_ ?_ ?_
  rotate_left
  · (intro w hSw; (try dsimp only at hSw); go_simp; try with_reducible rfl)
  simp only [Act.put,List.setIfInBounds_toArray,List.set_cons_zero,List.set_cons_succ]
  refine tkH 17 ⟨some 6,.assign (.tmp 57),24,_,#[⟨16,.data⟩,⟨14,.chain⟩,⟨0,.phase⟩,⟨1,.phase⟩,⟨2,.phase⟩,⟨3,.phase⟩,⟨4,.phase⟩,⟨5,.phase⟩,⟨6,.phase⟩,⟨7,.phase⟩,⟨8,.phase⟩,⟨9,.phase⟩,⟨10,.phase⟩,⟨11,.phase⟩,⟨12,.phase⟩,⟨13,.phase⟩,⟨14,.phase⟩,⟨15,.phase⟩,⟨16,.phase⟩],none⟩ ?_ ?_ ?_
  rotate_left
  · (intro w hSw; (try dsimp only at hSw); go_simp; try with_reducible rfl)
  simp only [Act.put,List.setIfInBounds_toArray,List.set_cons_zero,List.set_cons_succ]
  refine wpAnyH_done (by kernel_rfl) ?_ _
  obtain ⟨c1,c15⟩:=held_r6 HN.out
  go_wp2_with fail
  exact bodyPost_ret (by simp [results,Tryd.results14,go_sem,Act.put]) rfl ⟨rfl,HN.out.bel⟩
set_option maxRecDepth 100000 in
set_option maxHeartbeats 1000000 in
theorem gwrites_c (i:Ins) (w:World) (ht:TP w) (hi:IOk i) (x:Nat) (he:encP i=some x) (r:RowP) (hr:rowN i.op i.form=some r) (q3:hasR r 3=false) (q4:hasR r 4=false) (h39:¬i.op=39):Calls Tryd.prog 14 #[.agg (insA i)] w fun e w'=>e= .returned (.int .u16 ((writesR r i:Nat):Int))∧Below w.heap.size w w':=by
  have er:writesR r i=(onlyN false i.rd ||| onlyN (isLongP i.op) i.ra) ||| ((onlyN (movesP i) i.rn ||| onlyN (goesP i.op) 15) ||| onlyN (comesP i.op) 14):=by unfold writesR; simp only [if_neg h39,q3,q4,Bool.true_or,Bool.false_or,Bool.or_false,Bool.true_and,Bool.false_and]
  rw [er]
  clear er
  have HRG:=enc_regs he
  obtain ⟨⟨d0,d1⟩,⟨n0,n1⟩,⟨m0,m1⟩,⟨s0,s1⟩,⟨a0,a1⟩,l0,l1⟩:=HRG
  have HE:Hid (∀w',TP w'→Calls Tryd.prog 12 #[.agg (insA i)] w' fun e w''=>e= .returned (.bool true)∧Below w'.heap.size w' w''):=fun w' h=>by
    have:=gright_any i w' h hi
    rw [he] at this
    exact this
  have HN:Hid (∀w',TP w'→Calls Tryd.prog 23 #[.int .i64 i.op,.int .i64 i.form] w' fun e w''=>e= .returned (.tuple #[.agg (rowL r).toArray,.bool true])∧Below w'.heap.size w' w''):=fun w' ht=>by
    have:=growN_any i.op i.form w' ht
    rw [hr] at this
    exact this
  have hok:=(rowN_ok hr).ok.parts
  have HH:Hid (∀(k:Int) w',(0≤k∧k<32)→Calls Tryd.prog 26 #[.agg (rowL r).toArray,.int .i64 k] w' fun e w''=>e= .returned (.bool (hasR r k.toNat))∧Below w'.heap.size w' w''):=fun k w' h=>by
    have:=ghas_any r k.toNat w' (by omega) hok
    rw [show ((k.toNat:Nat):Int)=k by omega] at this
    exact this
  have HSE:Hid (∀w',Calls Tryd.prog 29 #[.int .i64 i.op] w' fun e w''=>e= .returned (.bool (sendsP i.op))∧w''=w'):=fun w'=>gsends_any i.op w'
  have HLO:Hid (∀w',Calls Tryd.prog 30 #[.int .i64 i.op] w' fun e w''=>e= .returned (.bool (isLongP i.op))∧w''=w'):=fun w'=>gisLong_any i.op w'
  have HGO:Hid (∀w',Calls Tryd.prog 32 #[.int .i64 i.op] w' fun e w''=>e= .returned (.bool (goesP i.op))∧w''=w'):=fun w'=>ggoes_any i.op w'
  have HCO:Hid (∀w',Calls Tryd.prog 33 #[.int .i64 i.op] w' fun e w''=>e= .returned (.bool (comesP i.op))∧w''=w'):=fun w'=>gcomes_any i.op w'
  have HMV:Hid (∀w',Calls Tryd.prog 31 #[.agg (insA i)] w' fun e w''=>e= .returned (.bool (movesP i))∧Below w'.heap.size w' w''):=fun w'=>gmoves_any i w'
  have HO:Hid (∀b n w',(0≤n∧n<16)→Calls Tryd.prog 25 #[.bool b,.int .i64 n] w' fun e w''=>e= .returned (.int .u16 ((onlyN b n:Nat):Int))∧w''=w'):=fun b n w' h=>by
    rw [←onlyP_N]; exact gonly_any b n w' h.1 h.2
  have LO:Hid (∀b n,0≤n→n<16→onlyN b n<65536):=onlyN_lt
  have HX0:=hidW (BX.first ht (insL i))
  have HRO:Hid ((rowL r).toArray.all (·.oneCell')=true):=row_all r
  have HRL:Hid ((rowL r).length=5):=rfl
  have HRI:Hid ((Tryd.prog.info? 40).map (·.size)=some (rowL r).length):=row_info
  have HRJ:Hid ((Tryd.prog.info? 40).map (·.size)=some (rowL r).toArray.size):=row_info
  obtain ⟨HF,hHF⟩:∃HF:Int→Bool,HF=fun k=>hasR r k.toNat:=⟨_,rfl⟩
  have f3:HF 3=false:=by rw [hHF]; exact q3
  have f4:HF 4=false:=by rw [hHF]; exact q4
  have HH':Hid (∀(k:Int) w',(0≤k∧k<32)→Calls Tryd.prog 26 #[.agg (rowL r).toArray,.int .i64 k] w' fun e w''=>e= .returned (.bool (HF k))∧Below w'.heap.size w' w''):=by rw [hHF]; exact HH
  clear HH hHF q3 q4
  generalize onlyN=ON at *
  generalize sendsP i.op=hS at *
  generalize isLongP i.op=hL at *
  generalize goesP i.op=hG at *
  generalize comesP i.op=hC at *
  generalize movesP i=hM at *
  have b39:(i.op == 39)=false:=beq_eq_false_iff_ne.2 h39
  have L1:=LO.out false i.rd d0 d1
  have L2:=LO.out hL i.ra a0 a1
  have L3:=LO.out hM i.rn n0 n1
  have L4:=LO.out hG 15 (by decide) (by decide)
  have L5:=LO.out hC 14 (by decide) (by decide)
  have e1:=or16 (ON false i.rd) (ON hL i.ra) L1 L2
  have e2:=or16 (ON hM i.rn) (ON hG 15) L3 L4
  have e3:=or16 _ (ON hC 14) (or_lt16 L3 L4) L5
  have e4:=or16 _ _ (or_lt16 L1 L2) (or_lt16 (or_lt16 L3 L4) L5)
  have EV:Hid (Value.int .u16 (bits .or .u16 (bits .or .u16 (ON false i.rd) (ON hL i.ra)) (bits .or .u16 (bits .or .u16 (ON hM i.rn) (ON hG 15)) (ON hC 14)))= .int .u16 ((((ON false i.rd) ||| ON hL i.ra) ||| ((ON hM i.rn ||| ON hG 15) ||| ON hC 14):Nat):Int)):=by
    show _=_
    rw [e1,e2,e3,e4]
  rw [←EV.out]
  clear EV e1 e2 e3 e4 L1 L2 L3 L4 L5 LO ht hi he hr h39 hok
  generalize rowL r=RL at *
  obtain ⟨jc,jo,js,jf,jd,jn,jm,jr,ja,ji,jt,jk,jp,ju,jw,jl,jx,jy,jz,jv⟩:=i
  change Hid (BX w ([.int .i64 jc,.int .i64 jo,.bool js,.int .i64 jf,.int .i64 jd,.int .i64 jn,.int .i64 jm,.int .i64 jr,.int .i64 ja,.int .u32 ji,.int .i64 jt,.int .i64 jk,.bool jp,.bool ju,.bool jw,.int .u16 jl,.int .i64 jx,.int .i64 jy,.int .i64 jz,.int .i64 jv]) (w.alloc (.cells ([.int .i64 jc,.int .i64 jo,.bool js,.int .i64 jf,.int .i64 jd,.int .i64 jn,.int .i64 jm,.int .i64 jr,.int .i64 ja,.int .u32 ji,.int .i64 jt,.int .i64 jk,.bool jp,.bool ju,.bool jw,.int .u16 jl,.int .i64 jx,.int .i64 jy,.int .i64 jz,.int .i64 jv]).toArray 28))) at HX0
  change Hid (∀w',TP w'→Calls Tryd.prog 12 #[.agg #[.int .i64 jc,.int .i64 jo,.bool js,.int .i64 jf,.int .i64 jd,.int .i64 jn,.int .i64 jm,.int .i64 jr,.int .i64 ja,.int .u32 ji,.int .i64 jt,.int .i64 jk,.bool jp,.bool ju,.bool jw,.int .u16 jl,.int .i64 jx,.int .i64 jy,.int .i64 jz,.int .i64 jv]] w' fun e w''=>e= .returned (.bool true)∧Below w'.heap.size w' w'') at HE
  change Hid (∀w',Calls Tryd.prog 31 #[.agg #[.int .i64 jc,.int .i64 jo,.bool js,.int .i64 jf,.int .i64 jd,.int .i64 jn,.int .i64 jm,.int .i64 jr,.int .i64 ja,.int .u32 ji,.int .i64 jt,.int .i64 jk,.bool jp,.bool ju,.bool jw,.int .u16 jl,.int .i64 jx,.int .i64 jy,.int .i64 jz,.int .i64 jv]] w' fun e w''=>e= .returned (.bool hM)∧Below w'.heap.size w' w'') at HMV
  dsimp only at *
  change Calls Tryd.prog 14 #[.agg #[.int .i64 jc,.int .i64 jo,.bool js,.int .i64 jf,.int .i64 jd,.int .i64 jn,.int .i64 jm,.int .i64 jr,.int .i64 ja,.int .u32 ji,.int .i64 jt,.int .i64 jk,.bool jp,.bool ju,.bool jw,.int .u16 jl,.int .i64 jx,.int .i64 jy,.int .i64 jz,.int .i64 jv]] w _
  go_enter Tryd.func14,Tryd.ntmps14
  go_wp2_with (first|(guard_target =~ wpList _ _ _ (Oper.mk (some 7) _ _ _ _ _::_) _ _; refine wpList_load_mid rfl _ _ rfl w.heap.size 0 rfl _ _ HX0.out.ins.range Tryd.underlying28 rfl ins_size ?_)|(go_at_call 12; refine (HE.out _ HX0.out.tp).mono ?_; rintro e w1 ⟨rfl,hb⟩; have HX:=hidW (HX0.out.step hb); clear hb HX0; obtain ⟨c1,c3⟩:=bx_cells HX.out)|(go_at_call 23; refine (HN.out _ HX.out.tp).mono ?_; rintro e w2 ⟨rfl,hb⟩; have HY:=hidW (HX.out.step hb); clear hb HX c1 c3)|(guard_target =~ wpList _ _ _ (Oper.mk none (Op.store 40 _ _) _ _ _ _::_) _ _; have HT1:=new_there w2 40 (rowL rowZ) RL.toArray.size (by rw [List.size_toArray,HRL.out]; rfl); refine wpList_store_mid rfl _ _ _ rfl w2.heap.size 0 RL.toArray rfl rfl HT1 HRJ.out HRO.out ?_; clear HT1; generalize hW3:World.setCells _ _ _ _=w3; have HZ:=hidW (show RX2 w _ w2.heap.size RL w3 from hW3▸rx2_fill HY.out RL HRL.out); clear hW3 HY)|(guard_target =~ wpList _ _ _ (Oper.mk (some 18) _ _ _ _ _::_) _ _; refine wpList_load_mid rfl _ _ rfl w2.heap.size 0 rfl RL _ HZ.out.row.range Tryd.underlying40 rfl HRI.out ?_)|(guard_target =~ wpList _ _ _ (Oper.mk (some 21) _ _ _ _ _::_) _ _; refine wpList_load_want (by rfl) _ _ rfl w2.heap.size 0 rfl RL _ HZ.out.row.range Tryd.underlying40 rfl HRI.out ?_)|(go_at_call 26; refine (HH'.out _ _ (by decide)).mono ?_; rintro e w5 ⟨rfl,hb5⟩; have HZ:=hidW (HZ.out.step hb5); clear hb5))
  generalize w2.heap.size=q at HZ ⊢
  have HN:=hidW HZ.out.drew
  have K1:=held_w5 HN.out
  refine wp_region_held_drew (S:=fun w'=>w'.cell? ⟨w.heap.size,1,none⟩=some (.int .i64 jo)∧w'.cell? ⟨w.heap.size,4,none⟩=some (.int .i64 jd)∧w'.cell? ⟨w.heap.size,8,none⟩=some (.int .i64 ja)) (by kernel_rfl) K1 (fun hHeld=> ?_)
  have K2:=hidW K1
  clear K1 HZ
  refine tkH 0 ⟨some 24,.move (.tmp 5),4,_,#[],none⟩ ?_ ?_ ?_
  rotate_left
  · (intro w hSw; (try dsimp only at hSw); go_simp; try with_reducible rfl)
  simp only [Act.put,List.setIfInBounds_toArray,List.set_cons_zero,List.set_cons_succ]
  refine tkH 1 ⟨some 25,.move (.tmp 24),4,_,#[⟨0,.data⟩],none⟩ ?_ ?_ ?_
  rotate_left
  · (intro w hSw; (try dsimp only at hSw); go_simp; try with_reducible rfl)
  simp only [Act.put,List.setIfInBounds_toArray,List.set_cons_zero,List.set_cons_succ]
  refine wpAnyH_take (i:=2) (oi:=⟨some 26,.fieldAddr 28 (.tmp 1) 1,0,_,#[⟨1,.guard⟩],some (1,true)⟩) (v:=undef) rfl (by kernel_rfl) (by kernel_rfl) (by kernel_rfl) (fun _ _ _ h=>h) (Or.inr ⟨by rfl,rfl⟩) (by assumption) ?_
  simp only [Act.put,List.setIfInBounds_toArray,List.set_cons_zero,List.set_cons_succ]
  refine wpAnyH_take (i:=3) (oi:=⟨some 27,.load 3 (.tmp 26),3,_,#[⟨2,.data⟩,⟨1,.guard⟩],some (1,true)⟩) (v:=undef) rfl (by kernel_rfl) (by kernel_rfl) (by kernel_rfl) (fun _ _ _ h=>h) (Or.inr ⟨by rfl,rfl⟩) (by assumption) ?_
  simp only [Act.put,List.setIfInBounds_toArray,List.set_cons_zero,List.set_cons_succ]
  refine wpAnyH_take (i:=4) (oi:=⟨some 28,.call ⟨.value (.func 29),#[.tmp 27],#[3]⟩,4,_,#[⟨3,.data⟩,⟨1,.chain⟩,⟨1,.guard⟩],some (1,true)⟩) (v:=undef) rfl (by kernel_rfl) (by kernel_rfl) (by kernel_rfl) (fun _ _ _ h=>h) (Or.inr ⟨by rfl,rfl⟩) (by assumption) ?_
  simp only [Act.put,List.setIfInBounds_toArray,List.set_cons_zero,List.set_cons_succ]
  refine wpAnyH_take (i:=5) (oi:=⟨some 29,.unOp UnOp.not 4 (.tmp 28),4,_,#[⟨4,.data⟩,⟨1,.guard⟩],some (1,true)⟩) (v:=undef) rfl (by kernel_rfl) (by kernel_rfl) (by kernel_rfl) (fun _ _ _ h=>h) (Or.inr ⟨by rfl,rfl⟩) (by assumption) ?_
  simp only [Act.put,List.setIfInBounds_toArray,List.set_cons_zero,List.set_cons_succ]
  refine tkH 6 ⟨some 30,.pick (.tmp 25) (.tmp 29) (.const (Value.bool false)),4,_,#[⟨1,.data⟩,⟨5,.data⟩],none⟩ ?_ ?_ ?_
  rotate_left
  · (intro w hSw; (try dsimp only at hSw); go_simp; try with_reducible rfl)
  simp only [Act.put,List.setIfInBounds_toArray,List.set_cons_zero,List.set_cons_succ]
  refine tkH 7 ⟨some 31,.fieldAddr 28 (.tmp 1) 4,0,_,#[],none⟩ ?_ ?_ ?_
  rotate_left
  · (intro w hSw; (try dsimp only at hSw); go_simp; try with_reducible rfl)
  simp only [Act.put,List.setIfInBounds_toArray,List.set_cons_zero,List.set_cons_succ]
  refine tkH 8 ⟨some 32,.load 3 (.tmp 31),3,_,#[⟨7,.data⟩],none⟩ ?_ ?_ ?_
  rotate_left
  · (intro w hSw; (try dsimp only at hSw); go_simp; try with_reducible rfl)
  simp only [Act.put,List.setIfInBounds_toArray,List.set_cons_zero,List.set_cons_succ]
  refine tkH 10 ⟨some 34,.fieldAddr 28 (.tmp 1) 1,0,_,#[],none⟩ ?_ ?_ ?_
  rotate_left
  · (intro w hSw; (try dsimp only at hSw); go_simp; try with_reducible rfl)
  simp only [Act.put,List.setIfInBounds_toArray,List.set_cons_zero,List.set_cons_succ]
  refine tkH 11 ⟨some 35,.load 3 (.tmp 34),3,_,#[⟨10,.data⟩],none⟩ ?_ ?_ ?_
  rotate_left
  · (intro w hSw; (try dsimp only at hSw); go_simp; try with_reducible rfl)
  simp only [Act.put,List.setIfInBounds_toArray,List.set_cons_zero,List.set_cons_succ]
  refine tkH 13 ⟨some 37,.fieldAddr 28 (.tmp 1) 8,0,_,#[],none⟩ ?_ ?_ ?_
  rotate_left
  · (intro w hSw; (try dsimp only at hSw); go_simp; try with_reducible rfl)
  simp only [Act.put,List.setIfInBounds_toArray,List.set_cons_zero,List.set_cons_succ]
  refine tkH 14 ⟨some 38,.load 3 (.tmp 37),3,_,#[⟨13,.data⟩],none⟩ ?_ ?_ ?_
  rotate_left
  · (intro w hSw; (try dsimp only at hSw); go_simp; try with_reducible rfl)
  simp only [Act.put,List.setIfInBounds_toArray,List.set_cons_zero,List.set_cons_succ]
  refine wpAnyH_ready (rs:=[9]) (by kernel_rfl) (by simp) ?_
  refine AllReadyH.cons (o:=⟨some 33,.call ⟨.value (.func 25),#[.tmp 30,.tmp 32],#[4,3]⟩,24,_,#[⟨6,.data⟩,⟨8,.data⟩,⟨4,.chain⟩],none⟩) rfl (fun K hK=> ?_) AllReadyH.nil
  go_simp
  go_at_call 25; refine (HO.out _ _ _ (by constructor <;>assumption)).mono ?_; rintro e w5 ⟨rfl,rfl⟩
  refine hK.out _ _ ?_ (fun hHeld=> ?_)
  · with_reducible exact K2.out
  clear hK K
  try simp only [Act.put,List.setIfInBounds_toArray,List.set_cons_zero,List.set_cons_succ]
  refine wpAnyH_ready (rs:=[12]) (by kernel_rfl) (by simp) ?_
  refine AllReadyH.cons (o:=⟨some 36,.call ⟨.value (.func 30),#[.tmp 35],#[3]⟩,4,_,#[⟨11,.data⟩,⟨9,.chain⟩],none⟩) rfl (fun K hK=> ?_) AllReadyH.nil
  go_simp
  go_at_call 30; refine (HLO.out _).mono ?_; rintro e w5 ⟨rfl,rfl⟩
  refine hK.out _ _ ?_ (fun hHeld=> ?_)
  · with_reducible exact K2.out
  clear hK K
  try simp only [Act.put,List.setIfInBounds_toArray,List.set_cons_zero,List.set_cons_succ]
  refine wpAnyH_ready (rs:=[15]) (by kernel_rfl) (by simp) ?_
  refine AllReadyH.cons (o:=⟨some 39,.call ⟨.value (.func 25),#[.tmp 36,.tmp 38],#[4,3]⟩,24,_,#[⟨12,.data⟩,⟨14,.data⟩,⟨12,.chain⟩],none⟩) rfl (fun K hK=> ?_) AllReadyH.nil
  go_simp
  go_at_call 25; refine (HO.out _ _ _ (by constructor <;>assumption)).mono ?_; rintro e w5 ⟨rfl,rfl⟩
  refine hK.out _ _ ?_ (fun hHeld=> ?_)
  · with_reducible exact K2.out
  clear hK K
  try simp only [Act.put,List.setIfInBounds_toArray,List.set_cons_zero,List.set_cons_succ]
  refine tkH 16 ⟨some 40,.binOp BinOp.or 24 (.tmp 33) (.tmp 39) 24,24,_,#[⟨9,.data⟩,⟨15,.data⟩],none⟩ ?_ ?_ ?_
  rotate_left
  · (intro w hSw; (try dsimp only at hSw); go_simp; try with_reducible rfl)
  simp only [Act.put,List.setIfInBounds_toArray,List.set_cons_zero,List.set_cons_succ]
  refine tkH 17 ⟨some 6,.assign (.tmp 40),24,_,#[⟨16,.data⟩,⟨15,.chain⟩,⟨0,.phase⟩,⟨1,.phase⟩,⟨2,.phase⟩,⟨3,.phase⟩,⟨4,.phase⟩,⟨5,.phase⟩,⟨6,.phase⟩,⟨7,.phase⟩,⟨8,.phase⟩,⟨9,.phase⟩,⟨10,.phase⟩,⟨11,.phase⟩,⟨12,.phase⟩,⟨13,.phase⟩,⟨14,.phase⟩,⟨15,.phase⟩,⟨16,.phase⟩],none⟩ ?_ ?_ ?_
  rotate_left
  · (intro w hSw; (try dsimp only at hSw); go_simp; try with_reducible rfl)
  simp only [Act.put,List.setIfInBounds_toArray,List.set_cons_zero,List.set_cons_succ]
  refine wpAnyH_done (by kernel_rfl) ?_ _
  go_wp2_with fail
  have HN:=hidW HN.out.drew
  have K1:=held_w6 HN.out
  have hu:=Tryd.underlying28
  refine wp_region_held_drew (S:=fun w'=>w'.rangeAt w.heap.size 0 ([.int .i64 jc,.int .i64 jo,.bool js,.int .i64 jf,.int .i64 jd,.int .i64 jn,.int .i64 jm,.int .i64 jr,.int .i64 ja,.int .u32 ji,.int .i64 jt,.int .i64 jk,.bool jp,.bool ju,.bool jw,.int .u16 jl,.int .i64 jx,.int .i64 jy,.int .i64 jz,.int .i64 jv])∧w'.cell? ⟨w.heap.size,1,none⟩=some (.int .i64 jo)∧w'.cell? ⟨w.heap.size,5,none⟩=some (.int .i64 jn)) (by kernel_rfl) K1 (fun hHeld=> ?_)
  clear K1 K2
  refine tkH 0 ⟨some 41,.move (.tmp 6),24,_,#[],none⟩ ?_ ?_ ?_
  rotate_left
  · (intro w hSw; (try dsimp only at hSw); go_simp; try with_reducible rfl)
  simp only [Act.put,List.setIfInBounds_toArray,List.set_cons_zero,List.set_cons_succ]
  refine wpAnyH_take (i:=1) (oi:=⟨some 42,.load 28 (.tmp 1),28,_,#[],none⟩) (v:=_) rfl (by kernel_rfl) (by kernel_rfl) (by kernel_rfl) (fun _ _ _ h=>h) (yieldsIf_load_mid (by rfl) _ _ rfl w.heap.size 0 rfl _ _ (fun _ h=>h.1) hu rfl ins_size) (by assumption) ?_
  simp only [Act.put,List.setIfInBounds_toArray,List.set_cons_zero,List.set_cons_succ]
  refine tkH 3 ⟨some 44,.fieldAddr 28 (.tmp 1) 5,0,_,#[],none⟩ ?_ ?_ ?_
  rotate_left
  · (intro w hSw; (try dsimp only at hSw); go_simp; try with_reducible rfl)
  simp only [Act.put,List.setIfInBounds_toArray,List.set_cons_zero,List.set_cons_succ]
  refine tkH 4 ⟨some 45,.load 3 (.tmp 44),3,_,#[⟨3,.data⟩],none⟩ ?_ ?_ ?_
  rotate_left
  · (intro w hSw; (try dsimp only at hSw); go_simp; try with_reducible rfl)
  simp only [Act.put,List.setIfInBounds_toArray,List.set_cons_zero,List.set_cons_succ]
  refine tkH 6 ⟨some 47,.fieldAddr 28 (.tmp 1) 1,0,_,#[],none⟩ ?_ ?_ ?_
  rotate_left
  · (intro w hSw; (try dsimp only at hSw); go_simp; try with_reducible rfl)
  simp only [Act.put,List.setIfInBounds_toArray,List.set_cons_zero,List.set_cons_succ]
  refine tkH 7 ⟨some 48,.load 3 (.tmp 47),3,_,#[⟨6,.data⟩],none⟩ ?_ ?_ ?_
  rotate_left
  · (intro w hSw; (try dsimp only at hSw); go_simp; try with_reducible rfl)
  simp only [Act.put,List.setIfInBounds_toArray,List.set_cons_zero,List.set_cons_succ]
  refine tkH 11 ⟨some 52,.fieldAddr 28 (.tmp 1) 1,0,_,#[],none⟩ ?_ ?_ ?_
  rotate_left
  · (intro w hSw; (try dsimp only at hSw); go_simp; try with_reducible rfl)
  simp only [Act.put,List.setIfInBounds_toArray,List.set_cons_zero,List.set_cons_succ]
  refine tkH 12 ⟨some 53,.load 3 (.tmp 52),3,_,#[⟨11,.data⟩],none⟩ ?_ ?_ ?_
  rotate_left
  · (intro w hSw; (try dsimp only at hSw); go_simp; try with_reducible rfl)
  simp only [Act.put,List.setIfInBounds_toArray,List.set_cons_zero,List.set_cons_succ]
  refine wpAnyH_ready (rs:=[2]) (by kernel_rfl) (by simp) ?_
  refine AllReadyH.cons (o:=⟨some 43,.call ⟨.value (.func 31),#[.tmp 42],#[28]⟩,4,_,#[⟨1,.data⟩],none⟩) rfl (fun K hK=> ?_) AllReadyH.nil
  go_simp
  go_at_call 31; refine (HMV.out _).mono ?_; rintro e w5 ⟨rfl,hb5⟩; have HN:=hidW (HN.out.step hb5); have K2:=hidW (held_w6 HN.out); clear hb5
  refine hK.out _ _ ?_ (fun hHeld=> ?_)
  · with_reducible exact K2.out
  clear hK K
  try simp only [Act.put,List.setIfInBounds_toArray,List.set_cons_zero,List.set_cons_succ]
  refine wpAnyH_ready (rs:=[5]) (by kernel_rfl) (by simp) ?_
  refine AllReadyH.cons (o:=⟨some 46,.call ⟨.value (.func 25),#[.tmp 43,.tmp 45],#[4,3]⟩,24,_,#[⟨2,.data⟩,⟨4,.data⟩,⟨2,.chain⟩],none⟩) rfl (fun K hK=> ?_) AllReadyH.nil
  go_simp
  go_at_call 25; refine (HO.out _ _ _ (by first|decide|(constructor <;>assumption))).mono ?_; rintro e w5 ⟨rfl,rfl⟩
  refine hK.out _ _ ?_ (fun hHeld=> ?_)
  · with_reducible exact K2.out
  clear hK K
  try simp only [Act.put,List.setIfInBounds_toArray,List.set_cons_zero,List.set_cons_succ]
  refine wpAnyH_ready (rs:=[8]) (by kernel_rfl) (by simp) ?_
  refine AllReadyH.cons (o:=⟨some 49,.call ⟨.value (.func 32),#[.tmp 48],#[3]⟩,4,_,#[⟨7,.data⟩,⟨5,.chain⟩],none⟩) rfl (fun K hK=> ?_) AllReadyH.nil
  go_simp
  go_at_call 32; refine (HGO.out _).mono ?_; rintro e w5 ⟨rfl,rfl⟩
  refine hK.out _ _ ?_ (fun hHeld=> ?_)
  · with_reducible exact K2.out
  clear hK K
  try simp only [Act.put,List.setIfInBounds_toArray,List.set_cons_zero,List.set_cons_succ]
  refine wpAnyH_ready (rs:=[9]) (by kernel_rfl) (by simp) ?_
  refine AllReadyH.cons (o:=⟨some 50,.call ⟨.value (.func 25),#[.tmp 49,.const (Value.int IntKind.i64 15)],#[4,3]⟩,24,_,#[⟨8,.data⟩,⟨8,.chain⟩],none⟩) rfl (fun K hK=> ?_) AllReadyH.nil
  go_simp
  go_at_call 25; refine (HO.out _ _ _ (by first|decide|(constructor <;>assumption))).mono ?_; rintro e w5 ⟨rfl,rfl⟩
  refine hK.out _ _ ?_ (fun hHeld=> ?_)
  · with_reducible exact K2.out
  clear hK K
  try simp only [Act.put,List.setIfInBounds_toArray,List.set_cons_zero,List.set_cons_succ]
  refine tkH 10 ⟨some 51,.binOp BinOp.or 24 (.tmp 46) (.tmp 50) 24,24,_,#[⟨5,.data⟩,⟨9,.data⟩],none⟩ ?_ ?_ ?_
  rotate_left
  · (intro w hSw; (try dsimp only at hSw); go_simp; try with_reducible rfl)
  simp only [Act.put,List.setIfInBounds_toArray,List.set_cons_zero,List.set_cons_succ]
  refine wpAnyH_ready (rs:=[13]) (by kernel_rfl) (by simp) ?_
  refine AllReadyH.cons (o:=⟨some 54,.call ⟨.value (.func 33),#[.tmp 53],#[3]⟩,4,_,#[⟨12,.data⟩,⟨9,.chain⟩],none⟩) rfl (fun K hK=> ?_) AllReadyH.nil
  go_simp
  go_at_call 33; refine (HCO.out _).mono ?_; rintro e w5 ⟨rfl,rfl⟩
  refine hK.out _ _ ?_ (fun hHeld=> ?_)
  · with_reducible exact K2.out
  clear hK K
  try simp only [Act.put,List.setIfInBounds_toArray,List.set_cons_zero,List.set_cons_succ]
  refine wpAnyH_ready (rs:=[14]) (by kernel_rfl) (by simp) ?_
  refine AllReadyH.cons (o:=⟨some 55,.call ⟨.value (.func 25),#[.tmp 54,.const (Value.int IntKind.i64 14)],#[4,3]⟩,24,_,#[⟨13,.data⟩,⟨13,.chain⟩],none⟩) rfl (fun K hK=> ?_) AllReadyH.nil
  go_simp
  go_at_call 25; refine (HO.out _ _ _ (by first|decide|(constructor <;>assumption))).mono ?_; rintro e w5 ⟨rfl,rfl⟩
  refine hK.out _ _ ?_ (fun hHeld=> ?_)
  · with_reducible exact K2.out
  clear hK K
  try simp only [Act.put,List.setIfInBounds_toArray,List.set_cons_zero,List.set_cons_succ]
  refine tkH 15 ⟨some 56,.binOp BinOp.or 24 (.tmp 51) (.tmp 55) 24,24,_,#[⟨10,.data⟩,⟨14,.data⟩],none⟩ ?_ ?_ ?_
  rotate_left
  · (intro w hSw; (try dsimp only at hSw); go_simp; try with_reducible rfl)
  simp only [Act.put,List.setIfInBounds_toArray,List.set_cons_zero,List.set_cons_succ]
  refine tkH 16 ⟨some 57,.binOp BinOp.or 24 (.tmp 41) (.tmp 56) 24,24,_,#[⟨0,.data⟩,⟨15,.data⟩],none⟩ ?_ ?_ ?_
  rotate_left
  · (intro w hSw; (try dsimp only at hSw); go_simp; try with_reducible rfl)
  simp only [Act.put,List.setIfInBounds_toArray,List.set_cons_zero,List.set_cons_succ]
  refine tkH 17 ⟨some 6,.assign (.tmp 57),24,_,#[⟨16,.data⟩,⟨14,.chain⟩,⟨0,.phase⟩,⟨1,.phase⟩,⟨2,.phase⟩,⟨3,.phase⟩,⟨4,.phase⟩,⟨5,.phase⟩,⟨6,.phase⟩,⟨7,.phase⟩,⟨8,.phase⟩,⟨9,.phase⟩,⟨10,.phase⟩,⟨11,.phase⟩,⟨12,.phase⟩,⟨13,.phase⟩,⟨14,.phase⟩,⟨15,.phase⟩,⟨16,.phase⟩],none⟩ ?_ ?_ ?_
  rotate_left
  · (intro w hSw; (try dsimp only at hSw); go_simp; try with_reducible rfl)
  simp only [Act.put,List.setIfInBounds_toArray,List.set_cons_zero,List.set_cons_succ]
  refine wpAnyH_done (by kernel_rfl) ?_ _
  obtain ⟨c1,c15⟩:=held_r6 HN.out
  go_wp2_with fail
  exact bodyPost_ret (by simp [results,Tryd.results14,go_sem,Act.put]) rfl ⟨rfl,HN.out.bel⟩
set_option maxRecDepth 100000 in
set_option maxHeartbeats 1000000 in
theorem gwrites_cm (i:Ins) (w:World) (ht:TP w) (hi:IOk i) (x:Nat) (he:encP i=some x) (r:RowP) (hr:rowN i.op i.form=some r) (q3:hasR r 3=false) (q4:hasR r 4=false) (h39:i.op=39):Calls Tryd.prog 14 #[.agg (insA i)] w fun e w'=>e= .returned (.int .u16 ((writesR r i:Nat):Int))∧Below w.heap.size w w':=by
  have er:writesR r i=(onlyN false i.rd ||| onlyN (isLongP i.op) i.ra) ||| ((onlyN (movesP i) i.rn ||| onlyN (goesP i.op) 15) ||| onlyN (comesP i.op) 14) ||| i.list.toNat:=by unfold writesR; simp only [if_pos h39,q3,q4,Bool.true_or,Bool.false_or,Bool.or_false,Bool.true_and,Bool.false_and]
  rw [er]
  clear er
  have HRG:=enc_regs he
  obtain ⟨⟨d0,d1⟩,⟨n0,n1⟩,⟨m0,m1⟩,⟨s0,s1⟩,⟨a0,a1⟩,l0,l1⟩:=HRG
  have HE:Hid (∀w',TP w'→Calls Tryd.prog 12 #[.agg (insA i)] w' fun e w''=>e= .returned (.bool true)∧Below w'.heap.size w' w''):=fun w' h=>by
    have:=gright_any i w' h hi
    rw [he] at this
    exact this
  have HN:Hid (∀w',TP w'→Calls Tryd.prog 23 #[.int .i64 i.op,.int .i64 i.form] w' fun e w''=>e= .returned (.tuple #[.agg (rowL r).toArray,.bool true])∧Below w'.heap.size w' w''):=fun w' ht=>by
    have:=growN_any i.op i.form w' ht
    rw [hr] at this
    exact this
  have hok:=(rowN_ok hr).ok.parts
  have HH:Hid (∀(k:Int) w',(0≤k∧k<32)→Calls Tryd.prog 26 #[.agg (rowL r).toArray,.int .i64 k] w' fun e w''=>e= .returned (.bool (hasR r k.toNat))∧Below w'.heap.size w' w''):=fun k w' h=>by
    have:=ghas_any r k.toNat w' (by omega) hok
    rw [show ((k.toNat:Nat):Int)=k by omega] at this
    exact this
  have HSE:Hid (∀w',Calls Tryd.prog 29 #[.int .i64 i.op] w' fun e w''=>e= .returned (.bool (sendsP i.op))∧w''=w'):=fun w'=>gsends_any i.op w'
  have HLO:Hid (∀w',Calls Tryd.prog 30 #[.int .i64 i.op] w' fun e w''=>e= .returned (.bool (isLongP i.op))∧w''=w'):=fun w'=>gisLong_any i.op w'
  have HGO:Hid (∀w',Calls Tryd.prog 32 #[.int .i64 i.op] w' fun e w''=>e= .returned (.bool (goesP i.op))∧w''=w'):=fun w'=>ggoes_any i.op w'
  have HCO:Hid (∀w',Calls Tryd.prog 33 #[.int .i64 i.op] w' fun e w''=>e= .returned (.bool (comesP i.op))∧w''=w'):=fun w'=>gcomes_any i.op w'
  have HMV:Hid (∀w',Calls Tryd.prog 31 #[.agg (insA i)] w' fun e w''=>e= .returned (.bool (movesP i))∧Below w'.heap.size w' w''):=fun w'=>gmoves_any i w'
  have HO:Hid (∀b n w',(0≤n∧n<16)→Calls Tryd.prog 25 #[.bool b,.int .i64 n] w' fun e w''=>e= .returned (.int .u16 ((onlyN b n:Nat):Int))∧w''=w'):=fun b n w' h=>by
    rw [←onlyP_N]; exact gonly_any b n w' h.1 h.2
  have LO:Hid (∀b n,0≤n→n<16→onlyN b n<65536):=onlyN_lt
  have HX0:=hidW (BX.first ht (insL i))
  have HRO:Hid ((rowL r).toArray.all (·.oneCell')=true):=row_all r
  have HRL:Hid ((rowL r).length=5):=rfl
  have HRI:Hid ((Tryd.prog.info? 40).map (·.size)=some (rowL r).length):=row_info
  have HRJ:Hid ((Tryd.prog.info? 40).map (·.size)=some (rowL r).toArray.size):=row_info
  obtain ⟨HF,hHF⟩:∃HF:Int→Bool,HF=fun k=>hasR r k.toNat:=⟨_,rfl⟩
  have f3:HF 3=false:=by rw [hHF]; exact q3
  have f4:HF 4=false:=by rw [hHF]; exact q4
  have HH':Hid (∀(k:Int) w',(0≤k∧k<32)→Calls Tryd.prog 26 #[.agg (rowL r).toArray,.int .i64 k] w' fun e w''=>e= .returned (.bool (HF k))∧Below w'.heap.size w' w''):=by rw [hHF]; exact HH
  clear HH hHF q3 q4
  generalize onlyN=ON at *
  generalize sendsP i.op=hS at *
  generalize isLongP i.op=hL at *
  generalize goesP i.op=hG at *
  generalize comesP i.op=hC at *
  generalize movesP i=hM at *
  have b39:(i.op == 39)=true:=beq_iff_eq.2 h39
  have L1:=LO.out false i.rd d0 d1
  have L2:=LO.out hL i.ra a0 a1
  have L3:=LO.out hM i.rn n0 n1
  have L4:=LO.out hG 15 (by decide) (by decide)
  have L5:=LO.out hC 14 (by decide) (by decide)
  have e1:=or16 (ON false i.rd) (ON hL i.ra) L1 L2
  have e2:=or16 (ON hM i.rn) (ON hG 15) L3 L4
  have e3:=or16 _ (ON hC 14) (or_lt16 L3 L4) L5
  have e4:=or16 _ _ (or_lt16 L1 L2) (or_lt16 (or_lt16 L3 L4) L5)
  have e5:=or16 _ i.list.toNat (or_lt16 (or_lt16 L1 L2) (or_lt16 (or_lt16 L3 L4) L5)) (by omega)
  have el:((i.list.toNat:Nat):Int)=i.list:=by omega
  rw [el] at e5
  have EV:Hid (Value.int .u16 (bits .or .u16 (bits .or .u16 (bits .or .u16 (ON false i.rd) (ON hL i.ra)) (bits .or .u16 (bits .or .u16 (ON hM i.rn) (ON hG 15)) (ON hC 14))) i.list)= .int .u16 (((((ON false i.rd) ||| ON hL i.ra) ||| ((ON hM i.rn ||| ON hG 15) ||| ON hC 14)) ||| i.list.toNat:Nat):Int)):=by
    show _=_
    rw [e1,e2,e3,e4,e5]
  rw [←EV.out]
  clear EV e1 e2 e3 e4 e5 el L1 L2 L3 L4 L5 LO ht hi he hr h39 hok
  generalize rowL r=RL at *
  obtain ⟨jc,jo,js,jf,jd,jn,jm,jr,ja,ji,jt,jk,jp,ju,jw,jl,jx,jy,jz,jv⟩:=i
  change Hid (BX w ([.int .i64 jc,.int .i64 jo,.bool js,.int .i64 jf,.int .i64 jd,.int .i64 jn,.int .i64 jm,.int .i64 jr,.int .i64 ja,.int .u32 ji,.int .i64 jt,.int .i64 jk,.bool jp,.bool ju,.bool jw,.int .u16 jl,.int .i64 jx,.int .i64 jy,.int .i64 jz,.int .i64 jv]) (w.alloc (.cells ([.int .i64 jc,.int .i64 jo,.bool js,.int .i64 jf,.int .i64 jd,.int .i64 jn,.int .i64 jm,.int .i64 jr,.int .i64 ja,.int .u32 ji,.int .i64 jt,.int .i64 jk,.bool jp,.bool ju,.bool jw,.int .u16 jl,.int .i64 jx,.int .i64 jy,.int .i64 jz,.int .i64 jv]).toArray 28))) at HX0
  change Hid (∀w',TP w'→Calls Tryd.prog 12 #[.agg #[.int .i64 jc,.int .i64 jo,.bool js,.int .i64 jf,.int .i64 jd,.int .i64 jn,.int .i64 jm,.int .i64 jr,.int .i64 ja,.int .u32 ji,.int .i64 jt,.int .i64 jk,.bool jp,.bool ju,.bool jw,.int .u16 jl,.int .i64 jx,.int .i64 jy,.int .i64 jz,.int .i64 jv]] w' fun e w''=>e= .returned (.bool true)∧Below w'.heap.size w' w'') at HE
  change Hid (∀w',Calls Tryd.prog 31 #[.agg #[.int .i64 jc,.int .i64 jo,.bool js,.int .i64 jf,.int .i64 jd,.int .i64 jn,.int .i64 jm,.int .i64 jr,.int .i64 ja,.int .u32 ji,.int .i64 jt,.int .i64 jk,.bool jp,.bool ju,.bool jw,.int .u16 jl,.int .i64 jx,.int .i64 jy,.int .i64 jz,.int .i64 jv]] w' fun e w''=>e= .returned (.bool hM)∧Below w'.heap.size w' w'') at HMV
  dsimp only at *
  change Calls Tryd.prog 14 #[.agg #[.int .i64 jc,.int .i64 jo,.bool js,.int .i64 jf,.int .i64 jd,.int .i64 jn,.int .i64 jm,.int .i64 jr,.int .i64 ja,.int .u32 ji,.int .i64 jt,.int .i64 jk,.bool jp,.bool ju,.bool jw,.int .u16 jl,.int .i64 jx,.int .i64 jy,.int .i64 jz,.int .i64 jv]] w _
  go_enter Tryd.func14,Tryd.ntmps14
  go_wp2_with (first|(guard_target =~ wpList _ _ _ (Oper.mk (some 7) _ _ _ _ _::_) _ _; refine wpList_load_mid rfl _ _ rfl w.heap.size 0 rfl _ _ HX0.out.ins.range Tryd.underlying28 rfl ins_size ?_)|(go_at_call 12; refine (HE.out _ HX0.out.tp).mono ?_; rintro e w1 ⟨rfl,hb⟩; have HX:=hidW (HX0.out.step hb); clear hb HX0; obtain ⟨c1,c3⟩:=bx_cells HX.out)|(go_at_call 23; refine (HN.out _ HX.out.tp).mono ?_; rintro e w2 ⟨rfl,hb⟩; have HY:=hidW (HX.out.step hb); clear hb HX c1 c3)|(guard_target =~ wpList _ _ _ (Oper.mk none (Op.store 40 _ _) _ _ _ _::_) _ _; have HT1:=new_there w2 40 (rowL rowZ) RL.toArray.size (by rw [List.size_toArray,HRL.out]; rfl); refine wpList_store_mid rfl _ _ _ rfl w2.heap.size 0 RL.toArray rfl rfl HT1 HRJ.out HRO.out ?_; clear HT1; generalize hW3:World.setCells _ _ _ _=w3; have HZ:=hidW (show RX2 w _ w2.heap.size RL w3 from hW3▸rx2_fill HY.out RL HRL.out); clear hW3 HY)|(guard_target =~ wpList _ _ _ (Oper.mk (some 18) _ _ _ _ _::_) _ _; refine wpList_load_mid rfl _ _ rfl w2.heap.size 0 rfl RL _ HZ.out.row.range Tryd.underlying40 rfl HRI.out ?_)|(guard_target =~ wpList _ _ _ (Oper.mk (some 21) _ _ _ _ _::_) _ _; refine wpList_load_want (by rfl) _ _ rfl w2.heap.size 0 rfl RL _ HZ.out.row.range Tryd.underlying40 rfl HRI.out ?_)|(go_at_call 26; refine (HH'.out _ _ (by decide)).mono ?_; rintro e w5 ⟨rfl,hb5⟩; have HZ:=hidW (HZ.out.step hb5); clear hb5))
  generalize w2.heap.size=q at HZ ⊢
  have HN:=hidW HZ.out.drew
  have K1:=held_w5 HN.out
  refine wp_region_held_drew (S:=fun w'=>w'.cell? ⟨w.heap.size,1,none⟩=some (.int .i64 jo)∧w'.cell? ⟨w.heap.size,4,none⟩=some (.int .i64 jd)∧w'.cell? ⟨w.heap.size,8,none⟩=some (.int .i64 ja)) (by kernel_rfl) K1 (fun hHeld=> ?_)
  have K2:=hidW K1
  clear K1 HZ
  refine tkH 0 ⟨some 24,.move (.tmp 5),4,_,#[],none⟩ ?_ ?_ ?_
  rotate_left
  · (intro w hSw; (try dsimp only at hSw); go_simp; try with_reducible rfl)
  simp only [Act.put,List.setIfInBounds_toArray,List.set_cons_zero,List.set_cons_succ]
  refine tkH 1 ⟨some 25,.move (.tmp 24),4,_,#[⟨0,.data⟩],none⟩ ?_ ?_ ?_
  rotate_left
  · (intro w hSw; (try dsimp only at hSw); go_simp; try with_reducible rfl)
  simp only [Act.put,List.setIfInBounds_toArray,List.set_cons_zero,List.set_cons_succ]
  refine wpAnyH_take (i:=2) (oi:=⟨some 26,.fieldAddr 28 (.tmp 1) 1,0,_,#[⟨1,.guard⟩],some (1,true)⟩) (v:=undef) rfl (by kernel_rfl) (by kernel_rfl) (by kernel_rfl) (fun _ _ _ h=>h) (Or.inr ⟨by rfl,rfl⟩) (by assumption) ?_
  simp only [Act.put,List.setIfInBounds_toArray,List.set_cons_zero,List.set_cons_succ]
  refine wpAnyH_take (i:=3) (oi:=⟨some 27,.load 3 (.tmp 26),3,_,#[⟨2,.data⟩,⟨1,.guard⟩],some (1,true)⟩) (v:=undef) rfl (by kernel_rfl) (by kernel_rfl) (by kernel_rfl) (fun _ _ _ h=>h) (Or.inr ⟨by rfl,rfl⟩) (by assumption) ?_
  simp only [Act.put,List.setIfInBounds_toArray,List.set_cons_zero,List.set_cons_succ]
  refine wpAnyH_take (i:=4) (oi:=⟨some 28,.call ⟨.value (.func 29),#[.tmp 27],#[3]⟩,4,_,#[⟨3,.data⟩,⟨1,.chain⟩,⟨1,.guard⟩],some (1,true)⟩) (v:=undef) rfl (by kernel_rfl) (by kernel_rfl) (by kernel_rfl) (fun _ _ _ h=>h) (Or.inr ⟨by rfl,rfl⟩) (by assumption) ?_
  simp only [Act.put,List.setIfInBounds_toArray,List.set_cons_zero,List.set_cons_succ]
  refine wpAnyH_take (i:=5) (oi:=⟨some 29,.unOp UnOp.not 4 (.tmp 28),4,_,#[⟨4,.data⟩,⟨1,.guard⟩],some (1,true)⟩) (v:=undef) rfl (by kernel_rfl) (by kernel_rfl) (by kernel_rfl) (fun _ _ _ h=>h) (Or.inr ⟨by rfl,rfl⟩) (by assumption) ?_
  simp only [Act.put,List.setIfInBounds_toArray,List.set_cons_zero,List.set_cons_succ]
  refine tkH 6 ⟨some 30,.pick (.tmp 25) (.tmp 29) (.const (Value.bool false)),4,_,#[⟨1,.data⟩,⟨5,.data⟩],none⟩ ?_ ?_ ?_
  rotate_left
  · (intro w hSw; (try dsimp only at hSw); go_simp; try with_reducible rfl)
  simp only [Act.put,List.setIfInBounds_toArray,List.set_cons_zero,List.set_cons_succ]
  refine tkH 7 ⟨some 31,.fieldAddr 28 (.tmp 1) 4,0,_,#[],none⟩ ?_ ?_ ?_
  rotate_left
  · (intro w hSw; (try dsimp only at hSw); go_simp; try with_reducible rfl)
  simp only [Act.put,List.setIfInBounds_toArray,List.set_cons_zero,List.set_cons_succ]
  refine tkH 8 ⟨some 32,.load 3 (.tmp 31),3,_,#[⟨7,.data⟩],none⟩ ?_ ?_ ?_
  rotate_left
  · (intro w hSw; (try dsimp only at hSw); go_simp; try with_reducible rfl)
  simp only [Act.put,List.setIfInBounds_toArray,List.set_cons_zero,List.set_cons_succ]
  refine tkH 10 ⟨some 34,.fieldAddr 28 (.tmp 1) 1,0,_,#[],none⟩ ?_ ?_ ?_
  rotate_left
  · (intro w hSw; (try dsimp only at hSw); go_simp; try with_reducible rfl)
  simp only [Act.put,List.setIfInBounds_toArray,List.set_cons_zero,List.set_cons_succ]
  refine tkH 11 ⟨some 35,.load 3 (.tmp 34),3,_,#[⟨10,.data⟩],none⟩ ?_ ?_ ?_
  rotate_left
  · (intro w hSw; (try dsimp only at hSw); go_simp; try with_reducible rfl)
  simp only [Act.put,List.setIfInBounds_toArray,List.set_cons_zero,List.set_cons_succ]
  refine tkH 13 ⟨some 37,.fieldAddr 28 (.tmp 1) 8,0,_,#[],none⟩ ?_ ?_ ?_
  rotate_left
  · (intro w hSw; (try dsimp only at hSw); go_simp; try with_reducible rfl)
  simp only [Act.put,List.setIfInBounds_toArray,List.set_cons_zero,List.set_cons_succ]
  refine tkH 14 ⟨some 38,.load 3 (.tmp 37),3,_,#[⟨13,.data⟩],none⟩ ?_ ?_ ?_
  rotate_left
  · (intro w hSw; (try dsimp only at hSw); go_simp; try with_reducible rfl)
  simp only [Act.put,List.setIfInBounds_toArray,List.set_cons_zero,List.set_cons_succ]
  refine wpAnyH_ready (rs:=[9]) (by kernel_rfl) (by simp) ?_
  refine AllReadyH.cons (o:=⟨some 33,.call ⟨.value (.func 25),#[.tmp 30,.tmp 32],#[4,3]⟩,24,_,#[⟨6,.data⟩,⟨8,.data⟩,⟨4,.chain⟩],none⟩) rfl (fun K hK=> ?_) AllReadyH.nil
  go_simp
  go_at_call 25; refine (HO.out _ _ _ (by constructor <;>assumption)).mono ?_; rintro e w5 ⟨rfl,rfl⟩
  refine hK.out _ _ ?_ (fun hHeld=> ?_)
  · with_reducible exact K2.out
  clear hK K
  try simp only [Act.put,List.setIfInBounds_toArray,List.set_cons_zero,List.set_cons_succ]
  refine wpAnyH_ready (rs:=[12]) (by kernel_rfl) (by simp) ?_
  refine AllReadyH.cons (o:=⟨some 36,.call ⟨.value (.func 30),#[.tmp 35],#[3]⟩,4,_,#[⟨11,.data⟩,⟨9,.chain⟩],none⟩) rfl (fun K hK=> ?_) AllReadyH.nil
  go_simp
  go_at_call 30; refine (HLO.out _).mono ?_; rintro e w5 ⟨rfl,rfl⟩
  refine hK.out _ _ ?_ (fun hHeld=> ?_)
  · with_reducible exact K2.out
  clear hK K
  try simp only [Act.put,List.setIfInBounds_toArray,List.set_cons_zero,List.set_cons_succ]
  refine wpAnyH_ready (rs:=[15]) (by kernel_rfl) (by simp) ?_
  refine AllReadyH.cons (o:=⟨some 39,.call ⟨.value (.func 25),#[.tmp 36,.tmp 38],#[4,3]⟩,24,_,#[⟨12,.data⟩,⟨14,.data⟩,⟨12,.chain⟩],none⟩) rfl (fun K hK=> ?_) AllReadyH.nil
  go_simp
  go_at_call 25; refine (HO.out _ _ _ (by constructor <;>assumption)).mono ?_; rintro e w5 ⟨rfl,rfl⟩
  refine hK.out _ _ ?_ (fun hHeld=> ?_)
  · with_reducible exact K2.out
  clear hK K
  try simp only [Act.put,List.setIfInBounds_toArray,List.set_cons_zero,List.set_cons_succ]
  refine tkH 16 ⟨some 40,.binOp BinOp.or 24 (.tmp 33) (.tmp 39) 24,24,_,#[⟨9,.data⟩,⟨15,.data⟩],none⟩ ?_ ?_ ?_
  rotate_left
  · (intro w hSw; (try dsimp only at hSw); go_simp; try with_reducible rfl)
  simp only [Act.put,List.setIfInBounds_toArray,List.set_cons_zero,List.set_cons_succ]
  refine tkH 17 ⟨some 6,.assign (.tmp 40),24,_,#[⟨16,.data⟩,⟨15,.chain⟩,⟨0,.phase⟩,⟨1,.phase⟩,⟨2,.phase⟩,⟨3,.phase⟩,⟨4,.phase⟩,⟨5,.phase⟩,⟨6,.phase⟩,⟨7,.phase⟩,⟨8,.phase⟩,⟨9,.phase⟩,⟨10,.phase⟩,⟨11,.phase⟩,⟨12,.phase⟩,⟨13,.phase⟩,⟨14,.phase⟩,⟨15,.phase⟩,⟨16,.phase⟩],none⟩ ?_ ?_ ?_
  rotate_left
  · (intro w hSw; (try dsimp only at hSw); go_simp; try with_reducible rfl)
  simp only [Act.put,List.setIfInBounds_toArray,List.set_cons_zero,List.set_cons_succ]
  refine wpAnyH_done (by kernel_rfl) ?_ _
  go_wp2_with fail
  have HN:=hidW HN.out.drew
  have K1:=held_w6 HN.out
  have hu:=Tryd.underlying28
  refine wp_region_held_drew (S:=fun w'=>w'.rangeAt w.heap.size 0 ([.int .i64 jc,.int .i64 jo,.bool js,.int .i64 jf,.int .i64 jd,.int .i64 jn,.int .i64 jm,.int .i64 jr,.int .i64 ja,.int .u32 ji,.int .i64 jt,.int .i64 jk,.bool jp,.bool ju,.bool jw,.int .u16 jl,.int .i64 jx,.int .i64 jy,.int .i64 jz,.int .i64 jv])∧w'.cell? ⟨w.heap.size,1,none⟩=some (.int .i64 jo)∧w'.cell? ⟨w.heap.size,5,none⟩=some (.int .i64 jn)) (by kernel_rfl) K1 (fun hHeld=> ?_)
  clear K1 K2
  refine tkH 0 ⟨some 41,.move (.tmp 6),24,_,#[],none⟩ ?_ ?_ ?_
  rotate_left
  · (intro w hSw; (try dsimp only at hSw); go_simp; try with_reducible rfl)
  simp only [Act.put,List.setIfInBounds_toArray,List.set_cons_zero,List.set_cons_succ]
  refine wpAnyH_take (i:=1) (oi:=⟨some 42,.load 28 (.tmp 1),28,_,#[],none⟩) (v:=_) rfl (by kernel_rfl) (by kernel_rfl) (by kernel_rfl) (fun _ _ _ h=>h) (yieldsIf_load_mid (by rfl) _ _ rfl w.heap.size 0 rfl _ _ (fun _ h=>h.1) hu rfl ins_size) (by assumption) ?_
  simp only [Act.put,List.setIfInBounds_toArray,List.set_cons_zero,List.set_cons_succ]
  refine tkH 3 ⟨some 44,.fieldAddr 28 (.tmp 1) 5,0,_,#[],none⟩ ?_ ?_ ?_
  rotate_left
  · (intro w hSw; (try dsimp only at hSw); go_simp; try with_reducible rfl)
  simp only [Act.put,List.setIfInBounds_toArray,List.set_cons_zero,List.set_cons_succ]
  refine tkH 4 ⟨some 45,.load 3 (.tmp 44),3,_,#[⟨3,.data⟩],none⟩ ?_ ?_ ?_
  rotate_left
  · (intro w hSw; (try dsimp only at hSw); go_simp; try with_reducible rfl)
  simp only [Act.put,List.setIfInBounds_toArray,List.set_cons_zero,List.set_cons_succ]
  refine tkH 6 ⟨some 47,.fieldAddr 28 (.tmp 1) 1,0,_,#[],none⟩ ?_ ?_ ?_
  rotate_left
  · (intro w hSw; (try dsimp only at hSw); go_simp; try with_reducible rfl)
  simp only [Act.put,List.setIfInBounds_toArray,List.set_cons_zero,List.set_cons_succ]
  refine tkH 7 ⟨some 48,.load 3 (.tmp 47),3,_,#[⟨6,.data⟩],none⟩ ?_ ?_ ?_
  rotate_left
  · (intro w hSw; (try dsimp only at hSw); go_simp; try with_reducible rfl)
  simp only [Act.put,List.setIfInBounds_toArray,List.set_cons_zero,List.set_cons_succ]
  refine tkH 11 ⟨some 52,.fieldAddr 28 (.tmp 1) 1,0,_,#[],none⟩ ?_ ?_ ?_
  rotate_left
  · (intro w hSw; (try dsimp only at hSw); go_simp; try with_reducible rfl)
  simp only [Act.put,List.setIfInBounds_toArray,List.set_cons_zero,List.set_cons_succ]
  refine tkH 12 ⟨some 53,.load 3 (.tmp 52),3,_,#[⟨11,.data⟩],none⟩ ?_ ?_ ?_
  rotate_left
  · (intro w hSw; (try dsimp only at hSw); go_simp; try with_reducible rfl)
  simp only [Act.put,List.setIfInBounds_toArray,List.set_cons_zero,List.set_cons_succ]
  refine wpAnyH_ready (rs:=[2]) (by kernel_rfl) (by simp) ?_
  refine AllReadyH.cons (o:=⟨some 43,.call ⟨.value (.func 31),#[.tmp 42],#[28]⟩,4,_,#[⟨1,.data⟩],none⟩) rfl (fun K hK=> ?_) AllReadyH.nil
  go_simp
  go_at_call 31; refine (HMV.out _).mono ?_; rintro e w5 ⟨rfl,hb5⟩; have HN:=hidW (HN.out.step hb5); have K2:=hidW (held_w6 HN.out); clear hb5
  refine hK.out _ _ ?_ (fun hHeld=> ?_)
  · with_reducible exact K2.out
  clear hK K
  try simp only [Act.put,List.setIfInBounds_toArray,List.set_cons_zero,List.set_cons_succ]
  refine wpAnyH_ready (rs:=[5]) (by kernel_rfl) (by simp) ?_
  refine AllReadyH.cons (o:=⟨some 46,.call ⟨.value (.func 25),#[.tmp 43,.tmp 45],#[4,3]⟩,24,_,#[⟨2,.data⟩,⟨4,.data⟩,⟨2,.chain⟩],none⟩) rfl (fun K hK=> ?_) AllReadyH.nil
  go_simp
  go_at_call 25; refine (HO.out _ _ _ (by first|decide|(constructor <;>assumption))).mono ?_; rintro e w5 ⟨rfl,rfl⟩
  refine hK.out _ _ ?_ (fun hHeld=> ?_)
  · with_reducible exact K2.out
  clear hK K
  try simp only [Act.put,List.setIfInBounds_toArray,List.set_cons_zero,List.set_cons_succ]
  refine wpAnyH_ready (rs:=[8]) (by kernel_rfl) (by simp) ?_
  refine AllReadyH.cons (o:=⟨some 49,.call ⟨.value (.func 32),#[.tmp 48],#[3]⟩,4,_,#[⟨7,.data⟩,⟨5,.chain⟩],none⟩) rfl (fun K hK=> ?_) AllReadyH.nil
  go_simp
  go_at_call 32; refine (HGO.out _).mono ?_; rintro e w5 ⟨rfl,rfl⟩
  refine hK.out _ _ ?_ (fun hHeld=> ?_)
  · with_reducible exact K2.out
  clear hK K
  try simp only [Act.put,List.setIfInBounds_toArray,List.set_cons_zero,List.set_cons_succ]
  refine wpAnyH_ready (rs:=[9]) (by kernel_rfl) (by simp) ?_
  refine AllReadyH.cons (o:=⟨some 50,.call ⟨.value (.func 25),#[.tmp 49,.const (Value.int IntKind.i64 15)],#[4,3]⟩,24,_,#[⟨8,.data⟩,⟨8,.chain⟩],none⟩) rfl (fun K hK=> ?_) AllReadyH.nil
  go_simp
  go_at_call 25; refine (HO.out _ _ _ (by first|decide|(constructor <;>assumption))).mono ?_; rintro e w5 ⟨rfl,rfl⟩
  refine hK.out _ _ ?_ (fun hHeld=> ?_)
  · with_reducible exact K2.out
  clear hK K
  try simp only [Act.put,List.setIfInBounds_toArray,List.set_cons_zero,List.set_cons_succ]
  refine tkH 10 ⟨some 51,.binOp BinOp.or 24 (.tmp 46) (.tmp 50) 24,24,_,#[⟨5,.data⟩,⟨9,.data⟩],none⟩ ?_ ?_ ?_
  rotate_left
  · (intro w hSw; (try dsimp only at hSw); go_simp; try with_reducible rfl)
  simp only [Act.put,List.setIfInBounds_toArray,List.set_cons_zero,List.set_cons_succ]
  refine wpAnyH_ready (rs:=[13]) (by kernel_rfl) (by simp) ?_
  refine AllReadyH.cons (o:=⟨some 54,.call ⟨.value (.func 33),#[.tmp 53],#[3]⟩,4,_,#[⟨12,.data⟩,⟨9,.chain⟩],none⟩) rfl (fun K hK=> ?_) AllReadyH.nil
  go_simp
  go_at_call 33; refine (HCO.out _).mono ?_; rintro e w5 ⟨rfl,rfl⟩
  refine hK.out _ _ ?_ (fun hHeld=> ?_)
  · with_reducible exact K2.out
  clear hK K
  try simp only [Act.put,List.setIfInBounds_toArray,List.set_cons_zero,List.set_cons_succ]
  refine wpAnyH_ready (rs:=[14]) (by kernel_rfl) (by simp) ?_
  refine AllReadyH.cons (o:=⟨some 55,.call ⟨.value (.func 25),#[.tmp 54,.const (Value.int IntKind.i64 14)],#[4,3]⟩,24,_,#[⟨13,.data⟩,⟨13,.chain⟩],none⟩) rfl (fun K hK=> ?_) AllReadyH.nil
  go_simp
  go_at_call 25; refine (HO.out _ _ _ (by first|decide|(constructor <;>assumption))).mono ?_; rintro e w5 ⟨rfl,rfl⟩
  refine hK.out _ _ ?_ (fun hHeld=> ?_)
  · with_reducible exact K2.out
  clear hK K
  try simp only [Act.put,List.setIfInBounds_toArray,List.set_cons_zero,List.set_cons_succ]
  refine tkH 15 ⟨some 56,.binOp BinOp.or 24 (.tmp 51) (.tmp 55) 24,24,_,#[⟨10,.data⟩,⟨14,.data⟩],none⟩ ?_ ?_ ?_
  rotate_left
  · (intro w hSw; (try dsimp only at hSw); go_simp; try with_reducible rfl)
  simp only [Act.put,List.setIfInBounds_toArray,List.set_cons_zero,List.set_cons_succ]
  refine tkH 16 ⟨some 57,.binOp BinOp.or 24 (.tmp 41) (.tmp 56) 24,24,_,#[⟨0,.data⟩,⟨15,.data⟩],none⟩ ?_ ?_ ?_
  rotate_left
  · (intro w hSw; (try dsimp only at hSw); go_simp; try with_reducible rfl)
  simp only [Act.put,List.setIfInBounds_toArray,List.set_cons_zero,List.set_cons_succ]
  refine tkH 17 ⟨some 6,.assign (.tmp 57),24,_,#[⟨16,.data⟩,⟨14,.chain⟩,⟨0,.phase⟩,⟨1,.phase⟩,⟨2,.phase⟩,⟨3,.phase⟩,⟨4,.phase⟩,⟨5,.phase⟩,⟨6,.phase⟩,⟨7,.phase⟩,⟨8,.phase⟩,⟨9,.phase⟩,⟨10,.phase⟩,⟨11,.phase⟩,⟨12,.phase⟩,⟨13,.phase⟩,⟨14,.phase⟩,⟨15,.phase⟩,⟨16,.phase⟩],none⟩ ?_ ?_ ?_
  rotate_left
  · (intro w hSw; (try dsimp only at hSw); go_simp; try with_reducible rfl)
  simp only [Act.put,List.setIfInBounds_toArray,List.set_cons_zero,List.set_cons_succ]
  refine wpAnyH_done (by kernel_rfl) ?_ _
  obtain ⟨c1,c15⟩:=held_r6 HN.out
  go_wp2_with fail
  exact bodyPost_ret (by simp [results,Tryd.results14,go_sem,Act.put]) rfl ⟨rfl,HN.out.bel⟩
theorem gwrites_any (i:Ins) (w:World) (ht:TP w) (hi:IOk i):Calls Tryd.prog 14 #[.agg (insA i)] w fun e w'=>e= .returned (.int .u16 ((writesP i:Nat):Int))∧Below w.heap.size w w':=by
  cases he:encP i with
  | none =>
    have e:writesP i=0:=by unfold writesP; rw [he]
    rw [e]; exact gwrites_none i w ht hi he
  | some x =>
    obtain ⟨r,q,hn,_⟩:=enc_row he
    have e:writesP i=writesR r i:=by unfold writesP; rw [he,hn]; rfl
    rw [e]
    by_cases h:i.op=39
    · cases q3:hasR r 3 with
      | true=>exact gwrites_am i w ht hi x he r hn q3 h
      | false =>
        cases q4:hasR r 4 with
        | true=>exact gwrites_bm i w ht hi x he r hn q3 q4 h
        | false=>exact gwrites_cm i w ht hi x he r hn q3 q4 h
    · cases q3:hasR r 3 with
      | true=>exact gwrites_a i w ht hi x he r hn q3 h
      | false =>
        cases q4:hasR r 4 with
        | true=>exact gwrites_b i w ht hi x he r hn q3 q4 h
        | false=>exact gwrites_c i w ht hi x he r hn q3 q4 h
end Go.Proofs.YtkmgmmmpiallhaaDoor
