import Derived.Test.YtkmgmmmpiallhaaDoorGw
import Derived.Test.YtkmgmmmpiallhaaDoorQi
namespace Go.Proofs.YtkmgmmmpiallhaaDoor
open Go.RowKit
set_option linter.unusedVariables false
set_option linter.unusedSimpArgs false
theorem or16 (a b:Nat) (ha:a<65536) (hb:b<65536):bits .or .u16 (a:Int) (b:Int)=((a ||| b:Nat):Int):=by
  rw [u16_or _ _ (by omega) (by omega) (by omega) (by omega),Int.toNat_natCast,Int.toNat_natCast]
theorem or_lt16 {a b:Nat} (ha:a<65536) (hb:b<65536):a ||| b<65536:=by
  have h3:(2:Nat)^16=65536:=by decide
  rw [←h3] at *
  exact Nat.or_lt_two_pow ha hb
theorem onlyN_lt (b:Bool) (n:Int) (h0:0≤n) (h1:n<16):onlyN b n<65536:=by
  cases b
  · show (0:Nat)<65536; decide
  · show 2^n.toNat<65536
    have:2^n.toNat<2^16:=Nat.pow_lt_pow_right (by decide) (by omega)
    have h3:(2:Nat)^16=65536:=by decide
    omega
theorem enc_regs {i:Ins} {x:Nat} (h:encP i=some x):Regs i:=by
  obtain ⟨r,q,hn,hp,hf,ho,hi⟩:=enc_row h
  rw [hi]
  exact say_regs (pair_mem hp) x
structure RX2 (W:World) (I:List Value) (q:Nat) (R:List Value) (w:World):Prop where
  bel:Below W.heap.size W w
  ins:Bl w W.heap.size 28 I
  row:Bl w q 40 R
theorem RX2.step {W w w':World} {I R:List Value} {q:Nat} (h:RX2 W I q R w) (hb:Below w.heap.size w w'):RX2 W I q R w':=⟨Below.step h.bel hb,h.ins.below hb,h.row.below hb⟩
theorem RX2.drew {W w:World} {I R:List Value} {q:Nat} (h:RX2 W I q R w):RX2 W I q R w.drew:=⟨below_drew h.bel,h.ins.drew,h.row.drew⟩
set_option maxRecDepth 100000 in
set_option maxHeartbeats 400000 in
theorem greads_none (i:Ins) (w:World) (ht:TP w) (hi:IOk i) (he:encP i=none):Calls Tryd.prog 13 #[.agg (insA i)] w fun e w'=>e= .returned (.int .u16 0)∧Below w.heap.size w w':=by
  have HB:=hidW (ins_bl w i)
  have HE:Hid (∀w',TP w'→Calls Tryd.prog 12 #[.agg (insL i).toArray] w' fun e w''=>e= .returned (.bool false)∧Below w'.heap.size w' w''):=fun w' h=>by
    have:=gright_any i w' h hi
    rw [he] at this
    exact this
  have HT:Hid (TP (w.alloc (.cells (insL i).toArray 28))):=ht.below (below_new _ _)
  have HS1:Hid ((Tryd.prog.info? 28).map (·.size)=some (insL i).length):=ins_size
  show Calls Tryd.prog 13 #[.agg (insL i).toArray] w fun e w'=>e= .returned (.int .u16 0)∧Below w.heap.size w w'
  change Hid (Bl (w.alloc (.cells (insL i).toArray 28)) w.heap.size 28 (insL i)) at HB
  clear ht hi he
  generalize insL i=II at *
  go_enter Tryd.func13,Tryd.ntmps13
  go_wp2_with (first|(guard_target =~ wpList _ _ _ (Oper.mk (some 6) _ _ _ _ _::_) _ _; refine wpList_load_mid rfl _ _ rfl w.heap.size 0 rfl _ _ HB.out.range Tryd.underlying28 rfl HS1.out ?_)|(go_at_call 12; refine (HE.out _ HT.out).mono ?_; rintro e w1 ⟨rfl,hb⟩; have HW:=hidW (Below.step (below_new _ _) hb); clear hb HT HB))
  exact bodyPost_ret (v:= .int .u16 0) (by simp [results,Tryd.results13,go_sem]) rfl ⟨rfl,HW.out⟩
set_option maxRecDepth 100000 in
set_option maxHeartbeats 400000 in
theorem gwrites_none (i:Ins) (w:World) (ht:TP w) (hi:IOk i) (he:encP i=none):Calls Tryd.prog 14 #[.agg (insA i)] w fun e w'=>e= .returned (.int .u16 0)∧Below w.heap.size w w':=by
  have HB:=hidW (ins_bl w i)
  have HE:Hid (∀w',TP w'→Calls Tryd.prog 12 #[.agg (insL i).toArray] w' fun e w''=>e= .returned (.bool false)∧Below w'.heap.size w' w''):=fun w' h=>by
    have:=gright_any i w' h hi
    rw [he] at this
    exact this
  have HT:Hid (TP (w.alloc (.cells (insL i).toArray 28))):=ht.below (below_new _ _)
  have HS1:Hid ((Tryd.prog.info? 28).map (·.size)=some (insL i).length):=ins_size
  show Calls Tryd.prog 14 #[.agg (insL i).toArray] w fun e w'=>e= .returned (.int .u16 0)∧Below w.heap.size w w'
  change Hid (Bl (w.alloc (.cells (insL i).toArray 28)) w.heap.size 28 (insL i)) at HB
  clear ht hi he
  generalize insL i=II at *
  go_enter Tryd.func14,Tryd.ntmps14
  go_wp2_with (first|(guard_target =~ wpList _ _ _ (Oper.mk (some 7) _ _ _ _ _::_) _ _; refine wpList_load_mid rfl _ _ rfl w.heap.size 0 rfl _ _ HB.out.range Tryd.underlying28 rfl HS1.out ?_)|(go_at_call 12; refine (HE.out _ HT.out).mono ?_; rintro e w1 ⟨rfl,hb⟩; have HW:=hidW (Below.step (below_new _ _) hb); clear hb HT HB))
  exact bodyPost_ret (v:= .int .u16 0) (by simp [results,Tryd.results14,go_sem]) rfl ⟨rfl,HW.out⟩
theorem bx_cells {W w:World} {a b c d:Value} {L:List Value} (h:BX W (a::b::c::d::L) w):w.cell? ⟨W.heap.size,1,none⟩=some b∧w.cell? ⟨W.heap.size,3,none⟩=some d:=⟨h.ins.cell 1,h.ins.cell 3⟩
theorem rx2_fill {W w:World} {I:List Value} (h:BX W I w) (R:List Value) (hl:R.length=5):RX2 W I w.heap.size R ((w.alloc (.cells (rowL rowZ).toArray 40)).setCells w.heap.size 0 R):=by
  have hb:=fill_below w 40 (rowL rowZ) R
  exact ⟨Below.step h.bel hb,h.ins.below hb,fill_box w 40 (rowL rowZ) R (by rw [hl]; rfl)⟩
theorem held_r4 {W w:World} {q:Nat} {R L:List Value} {a b c d e n m r:Value} (h:RX2 W (a::b::c::d::e::n::m::r::L) q R w):w.rangeAt q 0 R∧w.cell? ⟨W.heap.size,5,none⟩=some n∧w.cell? ⟨W.heap.size,6,none⟩=some m∧w.cell? ⟨W.heap.size,7,none⟩=some r:=⟨h.row.range,h.ins.cell 5,h.ins.cell 6,h.ins.cell 7⟩
theorem held_r5 {W w:World} {q:Nat} {R L:List Value} {a b c d e n m r x:Value} (h:RX2 W (a::b::c::d::e::n::m::r::x::L) q R w):w.cell? ⟨W.heap.size,1,none⟩=some b∧w.cell? ⟨W.heap.size,4,none⟩=some e∧w.cell? ⟨W.heap.size,8,none⟩=some x:=⟨h.ins.cell 1,h.ins.cell 4,h.ins.cell 8⟩
theorem held_r6 {W w:World} {q:Nat} {R L:List Value} {a b c d e n m r x b9 b10 b11 b12 b13 b14 b15:Value} (h:RX2 W (a::b::c::d::e::n::m::r::x::b9::b10::b11::b12::b13::b14::b15::L) q R w):w.cell? ⟨W.heap.size,1,none⟩=some b∧w.cell? ⟨W.heap.size,15,none⟩=some b15:=⟨h.ins.cell 1,h.ins.cell 15⟩
set_option maxRecDepth 100000 in
set_option maxHeartbeats 1000000 in
theorem greads_no (i:Ins) (w:World) (ht:TP w) (hi:IOk i) (x:Nat) (he:encP i=some x) (r:RowP) (hr:rowN i.op i.form=some r) (h40:¬i.op=40):Calls Tryd.prog 13 #[.agg (insA i)] w fun e w'=>e= .returned (.int .u16 ((readsR r i:Nat):Int))∧Below w.heap.size w w':=by
  have er:readsR r i=((onlyN (hasR r 5) i.rn ||| onlyN (hasR r 6) i.rm) ||| onlyN (hasR r 7) i.rs) ||| (onlyN (rRaP i.op) i.ra ||| onlyN (rRdP i.op) i.rd):=by unfold readsR; simp only [if_neg h40]
  rw [er]
  clear er
  have HRG:=enc_regs he
  obtain ⟨⟨d0,d1⟩,⟨n0,n1⟩,⟨m0,m1⟩,⟨s0,s1⟩,⟨a0,a1⟩,l0,l1⟩:=HRG
  have HE:Hid (∀w',TP w'→Calls Tryd.prog 12 #[.agg (insA i)] w' fun e w''=>e= .returned (.bool true)∧Below w'.heap.size w' w''):=fun w' h=>by
    have:=gright_any i w' h hi
    rw [he] at this
    exact this
  have HN:Hid (∀w',TP w'→Calls Tryd.prog 23 #[.int .i64 i.op,.int .i64 i.form] w' fun e w''=>e= .returned (.tuple #[.agg (rowL r).toArray,.bool true])∧Below w'.heap.size w' w''):=fun w' ht=>by
    have:=growN_any i.op i.form w' ht
    rw [hr] at this
    exact this
  have hok:=(rowN_ok hr).ok.parts
  have HH:Hid (∀(k:Int) w',(0≤k∧k<32)→Calls Tryd.prog 26 #[.agg (rowL r).toArray,.int .i64 k] w' fun e w''=>e= .returned (.bool (hasR r k.toNat))∧Below w'.heap.size w' w''):=fun k w' h=>by
    have:=ghas_any r k.toNat w' (by omega) hok
    rw [show ((k.toNat:Nat):Int)=k by omega] at this
    exact this
  have HRA:Hid (∀w',Calls Tryd.prog 27 #[.int .i64 i.op] w' fun e w''=>e= .returned (.bool (rRaP i.op))∧w''=w'):=fun w'=>grRa_any i.op w'
  have HRD:Hid (∀w',Calls Tryd.prog 28 #[.int .i64 i.op] w' fun e w''=>e= .returned (.bool (rRdP i.op))∧w''=w'):=fun w'=>grRd_any i.op w'
  have HO:Hid (∀b n w',(0≤n∧n<16)→Calls Tryd.prog 25 #[.bool b,.int .i64 n] w' fun e w''=>e= .returned (.int .u16 ((onlyN b n:Nat):Int))∧w''=w'):=fun b n w' h=>by
    rw [←onlyP_N]; exact gonly_any b n w' h.1 h.2
  have LO:Hid (∀b n,0≤n→n<16→onlyN b n<65536):=onlyN_lt
  have HX0:=hidW (BX.first ht (insL i))
  have HRO:Hid ((rowL r).toArray.all (·.oneCell')=true):=row_all r
  have HRL:Hid ((rowL r).length=5):=rfl
  have HRI:Hid ((Tryd.prog.info? 40).map (·.size)=some (rowL r).length):=row_info
  have HRJ:Hid ((Tryd.prog.info? 40).map (·.size)=some (rowL r).toArray.size):=row_info
  obtain ⟨HF,hHF⟩:∃HF:Int→Bool,HF=fun k=>hasR r k.toNat:=⟨_,rfl⟩
  have e5:hasR r 5=HF 5:=by rw [hHF]; rfl
  have e6:hasR r 6=HF 6:=by rw [hHF]; rfl
  have e7:hasR r 7=HF 7:=by rw [hHF]; rfl
  have HH':Hid (∀(k:Int) w',(0≤k∧k<32)→Calls Tryd.prog 26 #[.agg (rowL r).toArray,.int .i64 k] w' fun e w''=>e= .returned (.bool (HF k))∧Below w'.heap.size w' w''):=by rw [hHF]; exact HH
  rw [e5,e6,e7]
  clear HH hHF e5 e6 e7
  generalize onlyN=ON at *
  generalize rRaP i.op=hA at *
  generalize rRdP i.op=hD at *
  have b40:(i.op == 40)=false:=beq_eq_false_iff_ne.2 h40
  have L5:=LO.out (HF 5) i.rn n0 n1
  have L6:=LO.out (HF 6) i.rm m0 m1
  have L7:=LO.out (HF 7) i.rs s0 s1
  have LA:=LO.out hA i.ra a0 a1
  have LD:=LO.out hD i.rd d0 d1
  have e1:=or16 (ON (HF 5) i.rn) (ON (HF 6) i.rm) L5 L6
  have e2:=or16 _ (ON (HF 7) i.rs) (or_lt16 L5 L6) L7
  have e3:=or16 (ON hA i.ra) (ON hD i.rd) LA LD
  have e4:=or16 _ _ (or_lt16 (or_lt16 L5 L6) L7) (or_lt16 LA LD)
  have EV:Hid (Value.int .u16 (bits .or .u16 (bits .or .u16 (bits .or .u16 (ON (HF 5) i.rn) (ON (HF 6) i.rm)) (ON (HF 7) i.rs)) (bits .or .u16 (ON hA i.ra) (ON hD i.rd)))= .int .u16 ((((ON (HF 5) i.rn ||| ON (HF 6) i.rm) ||| ON (HF 7) i.rs) ||| (ON hA i.ra ||| ON hD i.rd):Nat):Int)):=by
    show _=_
    rw [e1,e2,e3,e4]
  rw [←EV.out]
  clear EV e1 e2 e3 e4 L5 L6 L7 LA LD LO ht hi he hr h40 hok
  generalize rowL r=RL at *
  obtain ⟨jc,jo,js,jf,jd,jn,jm,jr,ja,ji,jt,jk,jp,ju,jw,jl,jx,jy,jz,jv⟩:=i
  change Hid (BX w ([.int .i64 jc,.int .i64 jo,.bool js,.int .i64 jf,.int .i64 jd,.int .i64 jn,.int .i64 jm,.int .i64 jr,.int .i64 ja,.int .u32 ji,.int .i64 jt,.int .i64 jk,.bool jp,.bool ju,.bool jw,.int .u16 jl,.int .i64 jx,.int .i64 jy,.int .i64 jz,.int .i64 jv]) (w.alloc (.cells ([.int .i64 jc,.int .i64 jo,.bool js,.int .i64 jf,.int .i64 jd,.int .i64 jn,.int .i64 jm,.int .i64 jr,.int .i64 ja,.int .u32 ji,.int .i64 jt,.int .i64 jk,.bool jp,.bool ju,.bool jw,.int .u16 jl,.int .i64 jx,.int .i64 jy,.int .i64 jz,.int .i64 jv]).toArray 28))) at HX0
  change Hid (∀w',TP w'→Calls Tryd.prog 12 #[.agg #[.int .i64 jc,.int .i64 jo,.bool js,.int .i64 jf,.int .i64 jd,.int .i64 jn,.int .i64 jm,.int .i64 jr,.int .i64 ja,.int .u32 ji,.int .i64 jt,.int .i64 jk,.bool jp,.bool ju,.bool jw,.int .u16 jl,.int .i64 jx,.int .i64 jy,.int .i64 jz,.int .i64 jv]] w' fun e w''=>e= .returned (.bool true)∧Below w'.heap.size w' w'') at HE
  dsimp only at *
  change Calls Tryd.prog 13 #[.agg #[.int .i64 jc,.int .i64 jo,.bool js,.int .i64 jf,.int .i64 jd,.int .i64 jn,.int .i64 jm,.int .i64 jr,.int .i64 ja,.int .u32 ji,.int .i64 jt,.int .i64 jk,.bool jp,.bool ju,.bool jw,.int .u16 jl,.int .i64 jx,.int .i64 jy,.int .i64 jz,.int .i64 jv]] w _
  go_enter Tryd.func13,Tryd.ntmps13
  go_wp2_with (first|(guard_target =~ wpList _ _ _ (Oper.mk (some 6) _ _ _ _ _::_) _ _; refine wpList_load_mid rfl _ _ rfl w.heap.size 0 rfl _ _ HX0.out.ins.range Tryd.underlying28 rfl ins_size ?_)|(go_at_call 12; refine (HE.out _ HX0.out.tp).mono ?_; rintro e w1 ⟨rfl,hb⟩; have HX:=hidW (HX0.out.step hb); clear hb HX0; obtain ⟨c1,c3⟩:=bx_cells HX.out)|(go_at_call 23; refine (HN.out _ HX.out.tp).mono ?_; rintro e w2 ⟨rfl,hb⟩; have HY:=hidW (HX.out.step hb); clear hb HX c1 c3)|(guard_target =~ wpList _ _ _ (Oper.mk none (Op.store 40 _ _) _ _ _ _::_) _ _; have HT1:=new_there w2 40 (rowL rowZ) RL.toArray.size (by rw [List.size_toArray,HRL.out]; rfl); refine wpList_store_mid rfl _ _ _ rfl w2.heap.size 0 RL.toArray rfl rfl HT1 HRJ.out HRO.out ?_; clear HT1; generalize hW3:World.setCells _ _ _ _=w3; have HZ:=hidW (show RX2 w _ w2.heap.size RL w3 from hW3▸rx2_fill HY.out RL HRL.out); clear hW3 HY))
  generalize w2.heap.size=q at HZ ⊢
  have hi:(Tryd.prog.info? 40).map (·.size)=some RL.length:=HRI.out
  have hu:=Tryd.underlying40
  have HN:=hidW HZ.out.drew
  have K1:=held_r4 HN.out
  refine wp_region_held_drew (S:=fun w'=>w'.rangeAt q 0 RL∧w'.cell? ⟨w.heap.size,5,none⟩=some (.int .i64 jn)∧w'.cell? ⟨w.heap.size,6,none⟩=some (.int .i64 jm)∧w'.cell? ⟨w.heap.size,7,none⟩=some (.int .i64 jr)) (by kernel_rfl) K1 (fun hHeld=> ?_)
  clear HZ K1
  refine wpAnyH_take (i:=0) (oi:=⟨some 17,.load 40 (.tmp 3),40,_,#[],none⟩) (v:=_) rfl (by kernel_rfl) (by kernel_rfl) (by kernel_rfl) (fun _ _ _ h=>h) (yieldsIf_load_mid (by rfl) _ _ rfl q 0 rfl _ _ (fun _ h=>h.1) hu rfl hi) (by assumption) ?_
  simp only [Act.put,List.setIfInBounds_toArray,List.set_cons_zero,List.set_cons_succ]
  refine tkH 2 ⟨some 19,.fieldAddr 28 (.tmp 1) 5,0,_,#[],none⟩ ?_ ?_ ?_
  rotate_left
  · (intro w hSw; (try dsimp only at hSw); go_simp; try with_reducible rfl)
  simp only [Act.put,List.setIfInBounds_toArray,List.set_cons_zero,List.set_cons_succ]
  refine tkH 3 ⟨some 20,.load 3 (.tmp 19),3,_,#[⟨2,.data⟩],none⟩ ?_ ?_ ?_
  rotate_left
  · (intro w hSw; (try dsimp only at hSw); go_simp; try with_reducible rfl)
  simp only [Act.put,List.setIfInBounds_toArray,List.set_cons_zero,List.set_cons_succ]
  refine wpAnyH_take (i:=5) (oi:=⟨some 22,.load 40 (.tmp 3),40,_,#[],none⟩) (v:=_) rfl (by kernel_rfl) (by kernel_rfl) (by kernel_rfl) (fun _ _ _ h=>h) (yieldsIf_load_mid (by rfl) _ _ rfl q 0 rfl _ _ (fun _ h=>h.1) hu rfl hi) (by assumption) ?_
  simp only [Act.put,List.setIfInBounds_toArray,List.set_cons_zero,List.set_cons_succ]
  refine tkH 7 ⟨some 24,.fieldAddr 28 (.tmp 1) 6,0,_,#[],none⟩ ?_ ?_ ?_
  rotate_left
  · (intro w hSw; (try dsimp only at hSw); go_simp; try with_reducible rfl)
  simp only [Act.put,List.setIfInBounds_toArray,List.set_cons_zero,List.set_cons_succ]
  refine tkH 8 ⟨some 25,.load 3 (.tmp 24),3,_,#[⟨7,.data⟩],none⟩ ?_ ?_ ?_
  rotate_left
  · (intro w hSw; (try dsimp only at hSw); go_simp; try with_reducible rfl)
  simp only [Act.put,List.setIfInBounds_toArray,List.set_cons_zero,List.set_cons_succ]
  refine wpAnyH_take (i:=11) (oi:=⟨some 28,.load 40 (.tmp 3),40,_,#[],none⟩) (v:=_) rfl (by kernel_rfl) (by kernel_rfl) (by kernel_rfl) (fun _ _ _ h=>h) (yieldsIf_load_mid (by rfl) _ _ rfl q 0 rfl _ _ (fun _ h=>h.1) hu rfl hi) (by assumption) ?_
  simp only [Act.put,List.setIfInBounds_toArray,List.set_cons_zero,List.set_cons_succ]
  refine tkH 13 ⟨some 30,.fieldAddr 28 (.tmp 1) 7,0,_,#[],none⟩ ?_ ?_ ?_
  rotate_left
  · (intro w hSw; (try dsimp only at hSw); go_simp; try with_reducible rfl)
  simp only [Act.put,List.setIfInBounds_toArray,List.set_cons_zero,List.set_cons_succ]
  refine tkH 14 ⟨some 31,.load 3 (.tmp 30),3,_,#[⟨13,.data⟩],none⟩ ?_ ?_ ?_
  rotate_left
  · (intro w hSw; (try dsimp only at hSw); go_simp; try with_reducible rfl)
  simp only [Act.put,List.setIfInBounds_toArray,List.set_cons_zero,List.set_cons_succ]
  refine wpAnyH_ready (rs:=[1]) (by kernel_rfl) (by simp) ?_
  refine AllReadyH.cons (o:=⟨some 18,.call ⟨.value (.func 26),#[.tmp 17,.const (Value.int IntKind.i64 5)],#[40,3]⟩,4,_,#[⟨0,.data⟩],none⟩) rfl (fun K hK=> ?_) AllReadyH.nil
  go_simp
  go_at_call 26; refine (HH'.out _ _ (by decide)).mono ?_; rintro e w5 ⟨rfl,hb5⟩; have HN:=hidW (HN.out.step hb5); have K2:=hidW (held_r4 HN.out); clear hb5
  refine hK.out _ _ ?_ (fun hHeld=> ?_)
  · with_reducible exact K2.out
  clear hK K
  try simp only [Act.put,List.setIfInBounds_toArray,List.set_cons_zero,List.set_cons_succ]
  refine wpAnyH_ready (rs:=[4]) (by kernel_rfl) (by simp) ?_
  refine AllReadyH.cons (o:=⟨some 21,.call ⟨.value (.func 25),#[.tmp 18,.tmp 20],#[4,3]⟩,24,_,#[⟨1,.data⟩,⟨3,.data⟩,⟨1,.chain⟩],none⟩) rfl (fun K hK=> ?_) AllReadyH.nil
  go_simp
  go_at_call 25; refine (HO.out _ _ _ (by constructor <;>assumption)).mono ?_; rintro e w5 ⟨rfl,rfl⟩
  refine hK.out _ _ ?_ (fun hHeld=> ?_)
  · with_reducible exact K2.out
  clear hK K
  try simp only [Act.put,List.setIfInBounds_toArray,List.set_cons_zero,List.set_cons_succ]
  refine wpAnyH_ready (rs:=[6]) (by kernel_rfl) (by simp) ?_
  refine AllReadyH.cons (o:=⟨some 23,.call ⟨.value (.func 26),#[.tmp 22,.const (Value.int IntKind.i64 6)],#[40,3]⟩,4,_,#[⟨5,.data⟩,⟨4,.chain⟩],none⟩) rfl (fun K hK=> ?_) AllReadyH.nil
  go_simp
  go_at_call 26; refine (HH'.out _ _ (by decide)).mono ?_; rintro e w5 ⟨rfl,hb5⟩; have HN:=hidW (HN.out.step hb5); have K2:=hidW (held_r4 HN.out); clear hb5
  refine hK.out _ _ ?_ (fun hHeld=> ?_)
  · with_reducible exact K2.out
  clear hK K
  try simp only [Act.put,List.setIfInBounds_toArray,List.set_cons_zero,List.set_cons_succ]
  refine wpAnyH_ready (rs:=[9]) (by kernel_rfl) (by simp) ?_
  refine AllReadyH.cons (o:=⟨some 26,.call ⟨.value (.func 25),#[.tmp 23,.tmp 25],#[4,3]⟩,24,_,#[⟨6,.data⟩,⟨8,.data⟩,⟨6,.chain⟩],none⟩) rfl (fun K hK=> ?_) AllReadyH.nil
  go_simp
  go_at_call 25; refine (HO.out _ _ _ (by constructor <;>assumption)).mono ?_; rintro e w5 ⟨rfl,rfl⟩
  refine hK.out _ _ ?_ (fun hHeld=> ?_)
  · with_reducible exact K2.out
  clear hK K
  try simp only [Act.put,List.setIfInBounds_toArray,List.set_cons_zero,List.set_cons_succ]
  refine tkH 10 ⟨some 27,.binOp BinOp.or 24 (.tmp 21) (.tmp 26) 24,24,_,#[⟨4,.data⟩,⟨9,.data⟩],none⟩ ?_ ?_ ?_
  rotate_left
  · (intro w hSw; (try dsimp only at hSw); go_simp; try with_reducible rfl)
  simp only [Act.put,List.setIfInBounds_toArray,List.set_cons_zero,List.set_cons_succ]
  refine wpAnyH_ready (rs:=[12]) (by kernel_rfl) (by simp) ?_
  refine AllReadyH.cons (o:=⟨some 29,.call ⟨.value (.func 26),#[.tmp 28,.const (Value.int IntKind.i64 7)],#[40,3]⟩,4,_,#[⟨11,.data⟩,⟨9,.chain⟩],none⟩) rfl (fun K hK=> ?_) AllReadyH.nil
  go_simp
  go_at_call 26; refine (HH'.out _ _ (by decide)).mono ?_; rintro e w5 ⟨rfl,hb5⟩; have HN:=hidW (HN.out.step hb5); have K2:=hidW (held_r4 HN.out); clear hb5
  refine hK.out _ _ ?_ (fun hHeld=> ?_)
  · with_reducible exact K2.out
  clear hK K
  try simp only [Act.put,List.setIfInBounds_toArray,List.set_cons_zero,List.set_cons_succ]
  refine wpAnyH_ready (rs:=[15]) (by kernel_rfl) (by simp) ?_
  refine AllReadyH.cons (o:=⟨some 32,.call ⟨.value (.func 25),#[.tmp 29,.tmp 31],#[4,3]⟩,24,_,#[⟨12,.data⟩,⟨14,.data⟩,⟨12,.chain⟩],none⟩) rfl (fun K hK=> ?_) AllReadyH.nil
  go_simp
  go_at_call 25; refine (HO.out _ _ _ (by constructor <;>assumption)).mono ?_; rintro e w5 ⟨rfl,rfl⟩
  refine hK.out _ _ ?_ (fun hHeld=> ?_)
  · with_reducible exact K2.out
  clear hK K
  try simp only [Act.put,List.setIfInBounds_toArray,List.set_cons_zero,List.set_cons_succ]
  refine tkH 16 ⟨some 33,.binOp BinOp.or 24 (.tmp 27) (.tmp 32) 24,24,_,#[⟨10,.data⟩,⟨15,.data⟩],none⟩ ?_ ?_ ?_
  rotate_left
  · (intro w hSw; (try dsimp only at hSw); go_simp; try with_reducible rfl)
  simp only [Act.put,List.setIfInBounds_toArray,List.set_cons_zero,List.set_cons_succ]
  refine tkH 17 ⟨some 5,.assign (.tmp 33),24,_,#[⟨16,.data⟩,⟨15,.chain⟩,⟨0,.phase⟩,⟨1,.phase⟩,⟨2,.phase⟩,⟨3,.phase⟩,⟨4,.phase⟩,⟨5,.phase⟩,⟨6,.phase⟩,⟨7,.phase⟩,⟨8,.phase⟩,⟨9,.phase⟩,⟨10,.phase⟩,⟨11,.phase⟩,⟨12,.phase⟩,⟨13,.phase⟩,⟨14,.phase⟩,⟨15,.phase⟩,⟨16,.phase⟩],none⟩ ?_ ?_ ?_
  rotate_left
  · (intro w hSw; (try dsimp only at hSw); go_simp; try with_reducible rfl)
  simp only [Act.put,List.setIfInBounds_toArray,List.set_cons_zero,List.set_cons_succ]
  refine wpAnyH_done (by kernel_rfl) ?_ _
  go_wp2_with fail
  have HN:=hidW HN.out.drew
  have K1:=held_r5 HN.out
  refine wp_region_held_drew (S:=fun w'=>w'.cell? ⟨w.heap.size,1,none⟩=some (.int .i64 jo)∧w'.cell? ⟨w.heap.size,4,none⟩=some (.int .i64 jd)∧w'.cell? ⟨w.heap.size,8,none⟩=some (.int .i64 ja)) (by kernel_rfl) K1 (fun hHeld=> ?_)
  have K2:=hidW K1
  clear K1
  refine tkH 0 ⟨some 34,.move (.tmp 5),24,_,#[],none⟩ ?_ ?_ ?_
  rotate_left
  · (intro w hSw; (try dsimp only at hSw); go_simp; try with_reducible rfl)
  simp only [Act.put,List.setIfInBounds_toArray,List.set_cons_zero,List.set_cons_succ]
  refine tkH 1 ⟨some 35,.fieldAddr 28 (.tmp 1) 1,0,_,#[],none⟩ ?_ ?_ ?_
  rotate_left
  · (intro w hSw; (try dsimp only at hSw); go_simp; try with_reducible rfl)
  simp only [Act.put,List.setIfInBounds_toArray,List.set_cons_zero,List.set_cons_succ]
  refine tkH 2 ⟨some 36,.load 3 (.tmp 35),3,_,#[⟨1,.data⟩],none⟩ ?_ ?_ ?_
  rotate_left
  · (intro w hSw; (try dsimp only at hSw); go_simp; try with_reducible rfl)
  simp only [Act.put,List.setIfInBounds_toArray,List.set_cons_zero,List.set_cons_succ]
  refine tkH 4 ⟨some 38,.fieldAddr 28 (.tmp 1) 8,0,_,#[],none⟩ ?_ ?_ ?_
  rotate_left
  · (intro w hSw; (try dsimp only at hSw); go_simp; try with_reducible rfl)
  simp only [Act.put,List.setIfInBounds_toArray,List.set_cons_zero,List.set_cons_succ]
  refine tkH 5 ⟨some 39,.load 3 (.tmp 38),3,_,#[⟨4,.data⟩],none⟩ ?_ ?_ ?_
  rotate_left
  · (intro w hSw; (try dsimp only at hSw); go_simp; try with_reducible rfl)
  simp only [Act.put,List.setIfInBounds_toArray,List.set_cons_zero,List.set_cons_succ]
  refine tkH 7 ⟨some 41,.fieldAddr 28 (.tmp 1) 1,0,_,#[],none⟩ ?_ ?_ ?_
  rotate_left
  · (intro w hSw; (try dsimp only at hSw); go_simp; try with_reducible rfl)
  simp only [Act.put,List.setIfInBounds_toArray,List.set_cons_zero,List.set_cons_succ]
  refine tkH 8 ⟨some 42,.load 3 (.tmp 41),3,_,#[⟨7,.data⟩],none⟩ ?_ ?_ ?_
  rotate_left
  · (intro w hSw; (try dsimp only at hSw); go_simp; try with_reducible rfl)
  simp only [Act.put,List.setIfInBounds_toArray,List.set_cons_zero,List.set_cons_succ]
  refine tkH 10 ⟨some 44,.fieldAddr 28 (.tmp 1) 4,0,_,#[],none⟩ ?_ ?_ ?_
  rotate_left
  · (intro w hSw; (try dsimp only at hSw); go_simp; try with_reducible rfl)
  simp only [Act.put,List.setIfInBounds_toArray,List.set_cons_zero,List.set_cons_succ]
  refine tkH 11 ⟨some 45,.load 3 (.tmp 44),3,_,#[⟨10,.data⟩],none⟩ ?_ ?_ ?_
  rotate_left
  · (intro w hSw; (try dsimp only at hSw); go_simp; try with_reducible rfl)
  simp only [Act.put,List.setIfInBounds_toArray,List.set_cons_zero,List.set_cons_succ]
  refine wpAnyH_ready (rs:=[3]) (by kernel_rfl) (by simp) ?_
  refine AllReadyH.cons (o:=⟨some 37,.call ⟨.value (.func 27),#[.tmp 36],#[3]⟩,4,_,#[⟨2,.data⟩],none⟩) rfl (fun K hK=> ?_) AllReadyH.nil
  go_simp
  go_at_call 27; refine (HRA.out _).mono ?_; rintro e w5 ⟨rfl,rfl⟩
  refine hK.out _ _ ?_ (fun hHeld=> ?_)
  · with_reducible exact K2.out
  clear hK K
  try simp only [Act.put,List.setIfInBounds_toArray,List.set_cons_zero,List.set_cons_succ]
  refine wpAnyH_ready (rs:=[6]) (by kernel_rfl) (by simp) ?_
  refine AllReadyH.cons (o:=⟨some 40,.call ⟨.value (.func 25),#[.tmp 37,.tmp 39],#[4,3]⟩,24,_,#[⟨3,.data⟩,⟨5,.data⟩,⟨3,.chain⟩],none⟩) rfl (fun K hK=> ?_) AllReadyH.nil
  go_simp
  go_at_call 25; refine (HO.out _ _ _ (by constructor <;>assumption)).mono ?_; rintro e w5 ⟨rfl,rfl⟩
  refine hK.out _ _ ?_ (fun hHeld=> ?_)
  · with_reducible exact K2.out
  clear hK K
  try simp only [Act.put,List.setIfInBounds_toArray,List.set_cons_zero,List.set_cons_succ]
  refine wpAnyH_ready (rs:=[9]) (by kernel_rfl) (by simp) ?_
  refine AllReadyH.cons (o:=⟨some 43,.call ⟨.value (.func 28),#[.tmp 42],#[3]⟩,4,_,#[⟨8,.data⟩,⟨6,.chain⟩],none⟩) rfl (fun K hK=> ?_) AllReadyH.nil
  go_simp
  go_at_call 28; refine (HRD.out _).mono ?_; rintro e w5 ⟨rfl,rfl⟩
  refine hK.out _ _ ?_ (fun hHeld=> ?_)
  · with_reducible exact K2.out
  clear hK K
  try simp only [Act.put,List.setIfInBounds_toArray,List.set_cons_zero,List.set_cons_succ]
  refine wpAnyH_ready (rs:=[12]) (by kernel_rfl) (by simp) ?_
  refine AllReadyH.cons (o:=⟨some 46,.call ⟨.value (.func 25),#[.tmp 43,.tmp 45],#[4,3]⟩,24,_,#[⟨9,.data⟩,⟨11,.data⟩,⟨9,.chain⟩],none⟩) rfl (fun K hK=> ?_) AllReadyH.nil
  go_simp
  go_at_call 25; refine (HO.out _ _ _ (by constructor <;>assumption)).mono ?_; rintro e w5 ⟨rfl,rfl⟩
  refine hK.out _ _ ?_ (fun hHeld=> ?_)
  · with_reducible exact K2.out
  clear hK K
  try simp only [Act.put,List.setIfInBounds_toArray,List.set_cons_zero,List.set_cons_succ]
  refine tkH 13 ⟨some 47,.binOp BinOp.or 24 (.tmp 40) (.tmp 46) 24,24,_,#[⟨6,.data⟩,⟨12,.data⟩],none⟩ ?_ ?_ ?_
  rotate_left
  · (intro w hSw; (try dsimp only at hSw); go_simp; try with_reducible rfl)
  simp only [Act.put,List.setIfInBounds_toArray,List.set_cons_zero,List.set_cons_succ]
  refine tkH 14 ⟨some 48,.binOp BinOp.or 24 (.tmp 34) (.tmp 47) 24,24,_,#[⟨0,.data⟩,⟨13,.data⟩],none⟩ ?_ ?_ ?_
  rotate_left
  · (intro w hSw; (try dsimp only at hSw); go_simp; try with_reducible rfl)
  simp only [Act.put,List.setIfInBounds_toArray,List.set_cons_zero,List.set_cons_succ]
  refine tkH 15 ⟨some 5,.assign (.tmp 48),24,_,#[⟨14,.data⟩,⟨12,.chain⟩,⟨0,.phase⟩,⟨1,.phase⟩,⟨2,.phase⟩,⟨3,.phase⟩,⟨4,.phase⟩,⟨5,.phase⟩,⟨6,.phase⟩,⟨7,.phase⟩,⟨8,.phase⟩,⟨9,.phase⟩,⟨10,.phase⟩,⟨11,.phase⟩,⟨12,.phase⟩,⟨13,.phase⟩,⟨14,.phase⟩],none⟩ ?_ ?_ ?_
  rotate_left
  · (intro w hSw; (try dsimp only at hSw); go_simp; try with_reducible rfl)
  simp only [Act.put,List.setIfInBounds_toArray,List.set_cons_zero,List.set_cons_succ]
  refine wpAnyH_done (by kernel_rfl) ?_ _
  obtain ⟨c1,c15⟩:=held_r6 HN.out
  go_wp2_with fail
  exact bodyPost_ret (by simp [results,Tryd.results13,go_sem,Act.put]) rfl ⟨rfl,HN.out.bel⟩
set_option maxRecDepth 100000 in
set_option maxHeartbeats 1000000 in
theorem greads_40 (i:Ins) (w:World) (ht:TP w) (hi:IOk i) (x:Nat) (he:encP i=some x) (r:RowP) (hr:rowN i.op i.form=some r) (h40:i.op=40):Calls Tryd.prog 13 #[.agg (insA i)] w fun e w'=>e= .returned (.int .u16 ((readsR r i:Nat):Int))∧Below w.heap.size w w':=by
  have er:readsR r i=(((onlyN (hasR r 5) i.rn ||| onlyN (hasR r 6) i.rm) ||| onlyN (hasR r 7) i.rs) ||| (onlyN (rRaP i.op) i.ra ||| onlyN (rRdP i.op) i.rd)) ||| i.list.toNat:=by unfold readsR; simp only [if_pos h40]
  rw [er]
  clear er
  have HRG:=enc_regs he
  obtain ⟨⟨d0,d1⟩,⟨n0,n1⟩,⟨m0,m1⟩,⟨s0,s1⟩,⟨a0,a1⟩,l0,l1⟩:=HRG
  have HE:Hid (∀w',TP w'→Calls Tryd.prog 12 #[.agg (insA i)] w' fun e w''=>e= .returned (.bool true)∧Below w'.heap.size w' w''):=fun w' h=>by
    have:=gright_any i w' h hi
    rw [he] at this
    exact this
  have HN:Hid (∀w',TP w'→Calls Tryd.prog 23 #[.int .i64 i.op,.int .i64 i.form] w' fun e w''=>e= .returned (.tuple #[.agg (rowL r).toArray,.bool true])∧Below w'.heap.size w' w''):=fun w' ht=>by
    have:=growN_any i.op i.form w' ht
    rw [hr] at this
    exact this
  have hok:=(rowN_ok hr).ok.parts
  have HH:Hid (∀(k:Int) w',(0≤k∧k<32)→Calls Tryd.prog 26 #[.agg (rowL r).toArray,.int .i64 k] w' fun e w''=>e= .returned (.bool (hasR r k.toNat))∧Below w'.heap.size w' w''):=fun k w' h=>by
    have:=ghas_any r k.toNat w' (by omega) hok
    rw [show ((k.toNat:Nat):Int)=k by omega] at this
    exact this
  have HRA:Hid (∀w',Calls Tryd.prog 27 #[.int .i64 i.op] w' fun e w''=>e= .returned (.bool (rRaP i.op))∧w''=w'):=fun w'=>grRa_any i.op w'
  have HRD:Hid (∀w',Calls Tryd.prog 28 #[.int .i64 i.op] w' fun e w''=>e= .returned (.bool (rRdP i.op))∧w''=w'):=fun w'=>grRd_any i.op w'
  have HO:Hid (∀b n w',(0≤n∧n<16)→Calls Tryd.prog 25 #[.bool b,.int .i64 n] w' fun e w''=>e= .returned (.int .u16 ((onlyN b n:Nat):Int))∧w''=w'):=fun b n w' h=>by
    rw [←onlyP_N]; exact gonly_any b n w' h.1 h.2
  have LO:Hid (∀b n,0≤n→n<16→onlyN b n<65536):=onlyN_lt
  have HX0:=hidW (BX.first ht (insL i))
  have HRO:Hid ((rowL r).toArray.all (·.oneCell')=true):=row_all r
  have HRL:Hid ((rowL r).length=5):=rfl
  have HRI:Hid ((Tryd.prog.info? 40).map (·.size)=some (rowL r).length):=row_info
  have HRJ:Hid ((Tryd.prog.info? 40).map (·.size)=some (rowL r).toArray.size):=row_info
  obtain ⟨HF,hHF⟩:∃HF:Int→Bool,HF=fun k=>hasR r k.toNat:=⟨_,rfl⟩
  have e5:hasR r 5=HF 5:=by rw [hHF]; rfl
  have e6:hasR r 6=HF 6:=by rw [hHF]; rfl
  have e7:hasR r 7=HF 7:=by rw [hHF]; rfl
  have HH':Hid (∀(k:Int) w',(0≤k∧k<32)→Calls Tryd.prog 26 #[.agg (rowL r).toArray,.int .i64 k] w' fun e w''=>e= .returned (.bool (HF k))∧Below w'.heap.size w' w''):=by rw [hHF]; exact HH
  rw [e5,e6,e7]
  clear HH hHF e5 e6 e7
  generalize onlyN=ON at *
  generalize rRaP i.op=hA at *
  generalize rRdP i.op=hD at *
  have b40:(i.op == 40)=true:=beq_iff_eq.2 h40
  have L5:=LO.out (HF 5) i.rn n0 n1
  have L6:=LO.out (HF 6) i.rm m0 m1
  have L7:=LO.out (HF 7) i.rs s0 s1
  have LA:=LO.out hA i.ra a0 a1
  have LD:=LO.out hD i.rd d0 d1
  have e1:=or16 (ON (HF 5) i.rn) (ON (HF 6) i.rm) L5 L6
  have e2:=or16 _ (ON (HF 7) i.rs) (or_lt16 L5 L6) L7
  have e3:=or16 (ON hA i.ra) (ON hD i.rd) LA LD
  have e4:=or16 _ _ (or_lt16 (or_lt16 L5 L6) L7) (or_lt16 LA LD)
  have e5:=or16 _ i.list.toNat (or_lt16 (or_lt16 (or_lt16 L5 L6) L7) (or_lt16 LA LD)) (by omega)
  have el:((i.list.toNat:Nat):Int)=i.list:=by omega
  rw [el] at e5
  have EV:Hid (Value.int .u16 (bits .or .u16 (bits .or .u16 (bits .or .u16 (bits .or .u16 (ON (HF 5) i.rn) (ON (HF 6) i.rm)) (ON (HF 7) i.rs)) (bits .or .u16 (ON hA i.ra) (ON hD i.rd))) i.list)= .int .u16 (((((ON (HF 5) i.rn ||| ON (HF 6) i.rm) ||| ON (HF 7) i.rs) ||| (ON hA i.ra ||| ON hD i.rd)) ||| i.list.toNat:Nat):Int)):=by
    show _=_
    rw [e1,e2,e3,e4,e5]
  rw [←EV.out]
  clear EV e1 e2 e3 e4 e5 el L5 L6 L7 LA LD LO ht hi he hr h40 hok
  generalize rowL r=RL at *
  obtain ⟨jc,jo,js,jf,jd,jn,jm,jr,ja,ji,jt,jk,jp,ju,jw,jl,jx,jy,jz,jv⟩:=i
  change Hid (BX w ([.int .i64 jc,.int .i64 jo,.bool js,.int .i64 jf,.int .i64 jd,.int .i64 jn,.int .i64 jm,.int .i64 jr,.int .i64 ja,.int .u32 ji,.int .i64 jt,.int .i64 jk,.bool jp,.bool ju,.bool jw,.int .u16 jl,.int .i64 jx,.int .i64 jy,.int .i64 jz,.int .i64 jv]) (w.alloc (.cells ([.int .i64 jc,.int .i64 jo,.bool js,.int .i64 jf,.int .i64 jd,.int .i64 jn,.int .i64 jm,.int .i64 jr,.int .i64 ja,.int .u32 ji,.int .i64 jt,.int .i64 jk,.bool jp,.bool ju,.bool jw,.int .u16 jl,.int .i64 jx,.int .i64 jy,.int .i64 jz,.int .i64 jv]).toArray 28))) at HX0
  change Hid (∀w',TP w'→Calls Tryd.prog 12 #[.agg #[.int .i64 jc,.int .i64 jo,.bool js,.int .i64 jf,.int .i64 jd,.int .i64 jn,.int .i64 jm,.int .i64 jr,.int .i64 ja,.int .u32 ji,.int .i64 jt,.int .i64 jk,.bool jp,.bool ju,.bool jw,.int .u16 jl,.int .i64 jx,.int .i64 jy,.int .i64 jz,.int .i64 jv]] w' fun e w''=>e= .returned (.bool true)∧Below w'.heap.size w' w'') at HE
  dsimp only at *
  change Calls Tryd.prog 13 #[.agg #[.int .i64 jc,.int .i64 jo,.bool js,.int .i64 jf,.int .i64 jd,.int .i64 jn,.int .i64 jm,.int .i64 jr,.int .i64 ja,.int .u32 ji,.int .i64 jt,.int .i64 jk,.bool jp,.bool ju,.bool jw,.int .u16 jl,.int .i64 jx,.int .i64 jy,.int .i64 jz,.int .i64 jv]] w _
  go_enter Tryd.func13,Tryd.ntmps13
  go_wp2_with (first|(guard_target =~ wpList _ _ _ (Oper.mk (some 6) _ _ _ _ _::_) _ _; refine wpList_load_mid rfl _ _ rfl w.heap.size 0 rfl _ _ HX0.out.ins.range Tryd.underlying28 rfl ins_size ?_)|(go_at_call 12; refine (HE.out _ HX0.out.tp).mono ?_; rintro e w1 ⟨rfl,hb⟩; have HX:=hidW (HX0.out.step hb); clear hb HX0; obtain ⟨c1,c3⟩:=bx_cells HX.out)|(go_at_call 23; refine (HN.out _ HX.out.tp).mono ?_; rintro e w2 ⟨rfl,hb⟩; have HY:=hidW (HX.out.step hb); clear hb HX c1 c3)|(guard_target =~ wpList _ _ _ (Oper.mk none (Op.store 40 _ _) _ _ _ _::_) _ _; have HT1:=new_there w2 40 (rowL rowZ) RL.toArray.size (by rw [List.size_toArray,HRL.out]; rfl); refine wpList_store_mid rfl _ _ _ rfl w2.heap.size 0 RL.toArray rfl rfl HT1 HRJ.out HRO.out ?_; clear HT1; generalize hW3:World.setCells _ _ _ _=w3; have HZ:=hidW (show RX2 w _ w2.heap.size RL w3 from hW3▸rx2_fill HY.out RL HRL.out); clear hW3 HY))
  generalize w2.heap.size=q at HZ ⊢
  have hi:(Tryd.prog.info? 40).map (·.size)=some RL.length:=HRI.out
  have hu:=Tryd.underlying40
  have HN:=hidW HZ.out.drew
  have K1:=held_r4 HN.out
  refine wp_region_held_drew (S:=fun w'=>w'.rangeAt q 0 RL∧w'.cell? ⟨w.heap.size,5,none⟩=some (.int .i64 jn)∧w'.cell? ⟨w.heap.size,6,none⟩=some (.int .i64 jm)∧w'.cell? ⟨w.heap.size,7,none⟩=some (.int .i64 jr)) (by kernel_rfl) K1 (fun hHeld=> ?_)
  clear HZ K1
  refine wpAnyH_take (i:=0) (oi:=⟨some 17,.load 40 (.tmp 3),40,_,#[],none⟩) (v:=_) rfl (by kernel_rfl) (by kernel_rfl) (by kernel_rfl) (fun _ _ _ h=>h) (yieldsIf_load_mid (by rfl) _ _ rfl q 0 rfl _ _ (fun _ h=>h.1) hu rfl hi) (by assumption) ?_
  simp only [Act.put,List.setIfInBounds_toArray,List.set_cons_zero,List.set_cons_succ]
  refine tkH 2 ⟨some 19,.fieldAddr 28 (.tmp 1) 5,0,_,#[],none⟩ ?_ ?_ ?_
  rotate_left
  · (intro w hSw; (try dsimp only at hSw); go_simp; try with_reducible rfl)
  simp only [Act.put,List.setIfInBounds_toArray,List.set_cons_zero,List.set_cons_succ]
  refine tkH 3 ⟨some 20,.load 3 (.tmp 19),3,_,#[⟨2,.data⟩],none⟩ ?_ ?_ ?_
  rotate_left
  · (intro w hSw; (try dsimp only at hSw); go_simp; try with_reducible rfl)
  simp only [Act.put,List.setIfInBounds_toArray,List.set_cons_zero,List.set_cons_succ]
  refine wpAnyH_take (i:=5) (oi:=⟨some 22,.load 40 (.tmp 3),40,_,#[],none⟩) (v:=_) rfl (by kernel_rfl) (by kernel_rfl) (by kernel_rfl) (fun _ _ _ h=>h) (yieldsIf_load_mid (by rfl) _ _ rfl q 0 rfl _ _ (fun _ h=>h.1) hu rfl hi) (by assumption) ?_
  simp only [Act.put,List.setIfInBounds_toArray,List.set_cons_zero,List.set_cons_succ]
  refine tkH 7 ⟨some 24,.fieldAddr 28 (.tmp 1) 6,0,_,#[],none⟩ ?_ ?_ ?_
  rotate_left
  · (intro w hSw; (try dsimp only at hSw); go_simp; try with_reducible rfl)
  simp only [Act.put,List.setIfInBounds_toArray,List.set_cons_zero,List.set_cons_succ]
  refine tkH 8 ⟨some 25,.load 3 (.tmp 24),3,_,#[⟨7,.data⟩],none⟩ ?_ ?_ ?_
  rotate_left
  · (intro w hSw; (try dsimp only at hSw); go_simp; try with_reducible rfl)
  simp only [Act.put,List.setIfInBounds_toArray,List.set_cons_zero,List.set_cons_succ]
  refine wpAnyH_take (i:=11) (oi:=⟨some 28,.load 40 (.tmp 3),40,_,#[],none⟩) (v:=_) rfl (by kernel_rfl) (by kernel_rfl) (by kernel_rfl) (fun _ _ _ h=>h) (yieldsIf_load_mid (by rfl) _ _ rfl q 0 rfl _ _ (fun _ h=>h.1) hu rfl hi) (by assumption) ?_
  simp only [Act.put,List.setIfInBounds_toArray,List.set_cons_zero,List.set_cons_succ]
  refine tkH 13 ⟨some 30,.fieldAddr 28 (.tmp 1) 7,0,_,#[],none⟩ ?_ ?_ ?_
  rotate_left
  · (intro w hSw; (try dsimp only at hSw); go_simp; try with_reducible rfl)
  simp only [Act.put,List.setIfInBounds_toArray,List.set_cons_zero,List.set_cons_succ]
  refine tkH 14 ⟨some 31,.load 3 (.tmp 30),3,_,#[⟨13,.data⟩],none⟩ ?_ ?_ ?_
  rotate_left
  · (intro w hSw; (try dsimp only at hSw); go_simp; try with_reducible rfl)
  simp only [Act.put,List.setIfInBounds_toArray,List.set_cons_zero,List.set_cons_succ]
  refine wpAnyH_ready (rs:=[1]) (by kernel_rfl) (by simp) ?_
  refine AllReadyH.cons (o:=⟨some 18,.call ⟨.value (.func 26),#[.tmp 17,.const (Value.int IntKind.i64 5)],#[40,3]⟩,4,_,#[⟨0,.data⟩],none⟩) rfl (fun K hK=> ?_) AllReadyH.nil
  go_simp
  go_at_call 26; refine (HH'.out _ _ (by decide)).mono ?_; rintro e w5 ⟨rfl,hb5⟩; have HN:=hidW (HN.out.step hb5); have K2:=hidW (held_r4 HN.out); clear hb5
  refine hK.out _ _ ?_ (fun hHeld=> ?_)
  · with_reducible exact K2.out
  clear hK K
  try simp only [Act.put,List.setIfInBounds_toArray,List.set_cons_zero,List.set_cons_succ]
  refine wpAnyH_ready (rs:=[4]) (by kernel_rfl) (by simp) ?_
  refine AllReadyH.cons (o:=⟨some 21,.call ⟨.value (.func 25),#[.tmp 18,.tmp 20],#[4,3]⟩,24,_,#[⟨1,.data⟩,⟨3,.data⟩,⟨1,.chain⟩],none⟩) rfl (fun K hK=> ?_) AllReadyH.nil
  go_simp
  go_at_call 25; refine (HO.out _ _ _ (by constructor <;>assumption)).mono ?_; rintro e w5 ⟨rfl,rfl⟩
  refine hK.out _ _ ?_ (fun hHeld=> ?_)
  · with_reducible exact K2.out
  clear hK K
  try simp only [Act.put,List.setIfInBounds_toArray,List.set_cons_zero,List.set_cons_succ]
  refine wpAnyH_ready (rs:=[6]) (by kernel_rfl) (by simp) ?_
  refine AllReadyH.cons (o:=⟨some 23,.call ⟨.value (.func 26),#[.tmp 22,.const (Value.int IntKind.i64 6)],#[40,3]⟩,4,_,#[⟨5,.data⟩,⟨4,.chain⟩],none⟩) rfl (fun K hK=> ?_) AllReadyH.nil
  go_simp
  go_at_call 26; refine (HH'.out _ _ (by decide)).mono ?_; rintro e w5 ⟨rfl,hb5⟩; have HN:=hidW (HN.out.step hb5); have K2:=hidW (held_r4 HN.out); clear hb5
  refine hK.out _ _ ?_ (fun hHeld=> ?_)
  · with_reducible exact K2.out
  clear hK K
  try simp only [Act.put,List.setIfInBounds_toArray,List.set_cons_zero,List.set_cons_succ]
  refine wpAnyH_ready (rs:=[9]) (by kernel_rfl) (by simp) ?_
  refine AllReadyH.cons (o:=⟨some 26,.call ⟨.value (.func 25),#[.tmp 23,.tmp 25],#[4,3]⟩,24,_,#[⟨6,.data⟩,⟨8,.data⟩,⟨6,.chain⟩],none⟩) rfl (fun K hK=> ?_) AllReadyH.nil
  go_simp
  go_at_call 25; refine (HO.out _ _ _ (by constructor <;>assumption)).mono ?_; rintro e w5 ⟨rfl,rfl⟩
  refine hK.out _ _ ?_ (fun hHeld=> ?_)
  · with_reducible exact K2.out
  clear hK K
  try simp only [Act.put,List.setIfInBounds_toArray,List.set_cons_zero,List.set_cons_succ]
  refine tkH 10 ⟨some 27,.binOp BinOp.or 24 (.tmp 21) (.tmp 26) 24,24,_,#[⟨4,.data⟩,⟨9,.data⟩],none⟩ ?_ ?_ ?_
  rotate_left
  · (intro w hSw; (try dsimp only at hSw); go_simp; try with_reducible rfl)
  simp only [Act.put,List.setIfInBounds_toArray,List.set_cons_zero,List.set_cons_succ]
  refine wpAnyH_ready (rs:=[12]) (by kernel_rfl) (by simp) ?_
  refine AllReadyH.cons (o:=⟨some 29,.call ⟨.value (.func 26),#[.tmp 28,.const (Value.int IntKind.i64 7)],#[40,3]⟩,4,_,#[⟨11,.data⟩,⟨9,.chain⟩],none⟩) rfl (fun K hK=> ?_) AllReadyH.nil
  go_simp
  go_at_call 26; refine (HH'.out _ _ (by decide)).mono ?_; rintro e w5 ⟨rfl,hb5⟩; have HN:=hidW (HN.out.step hb5); have K2:=hidW (held_r4 HN.out); clear hb5
  refine hK.out _ _ ?_ (fun hHeld=> ?_)
  · with_reducible exact K2.out
  clear hK K
  try simp only [Act.put,List.setIfInBounds_toArray,List.set_cons_zero,List.set_cons_succ]
  refine wpAnyH_ready (rs:=[15]) (by kernel_rfl) (by simp) ?_
  refine AllReadyH.cons (o:=⟨some 32,.call ⟨.value (.func 25),#[.tmp 29,.tmp 31],#[4,3]⟩,24,_,#[⟨12,.data⟩,⟨14,.data⟩,⟨12,.chain⟩],none⟩) rfl (fun K hK=> ?_) AllReadyH.nil
  go_simp
  go_at_call 25; refine (HO.out _ _ _ (by constructor <;>assumption)).mono ?_; rintro e w5 ⟨rfl,rfl⟩
  refine hK.out _ _ ?_ (fun hHeld=> ?_)
  · with_reducible exact K2.out
  clear hK K
  try simp only [Act.put,List.setIfInBounds_toArray,List.set_cons_zero,List.set_cons_succ]
  refine tkH 16 ⟨some 33,.binOp BinOp.or 24 (.tmp 27) (.tmp 32) 24,24,_,#[⟨10,.data⟩,⟨15,.data⟩],none⟩ ?_ ?_ ?_
  rotate_left
  · (intro w hSw; (try dsimp only at hSw); go_simp; try with_reducible rfl)
  simp only [Act.put,List.setIfInBounds_toArray,List.set_cons_zero,List.set_cons_succ]
  refine tkH 17 ⟨some 5,.assign (.tmp 33),24,_,#[⟨16,.data⟩,⟨15,.chain⟩,⟨0,.phase⟩,⟨1,.phase⟩,⟨2,.phase⟩,⟨3,.phase⟩,⟨4,.phase⟩,⟨5,.phase⟩,⟨6,.phase⟩,⟨7,.phase⟩,⟨8,.phase⟩,⟨9,.phase⟩,⟨10,.phase⟩,⟨11,.phase⟩,⟨12,.phase⟩,⟨13,.phase⟩,⟨14,.phase⟩,⟨15,.phase⟩,⟨16,.phase⟩],none⟩ ?_ ?_ ?_
  rotate_left
  · (intro w hSw; (try dsimp only at hSw); go_simp; try with_reducible rfl)
  simp only [Act.put,List.setIfInBounds_toArray,List.set_cons_zero,List.set_cons_succ]
  refine wpAnyH_done (by kernel_rfl) ?_ _
  go_wp2_with fail
  have HN:=hidW HN.out.drew
  have K1:=held_r5 HN.out
  refine wp_region_held_drew (S:=fun w'=>w'.cell? ⟨w.heap.size,1,none⟩=some (.int .i64 jo)∧w'.cell? ⟨w.heap.size,4,none⟩=some (.int .i64 jd)∧w'.cell? ⟨w.heap.size,8,none⟩=some (.int .i64 ja)) (by kernel_rfl) K1 (fun hHeld=> ?_)
  have K2:=hidW K1
  clear K1
  refine tkH 0 ⟨some 34,.move (.tmp 5),24,_,#[],none⟩ ?_ ?_ ?_
  rotate_left
  · (intro w hSw; (try dsimp only at hSw); go_simp; try with_reducible rfl)
  simp only [Act.put,List.setIfInBounds_toArray,List.set_cons_zero,List.set_cons_succ]
  refine tkH 1 ⟨some 35,.fieldAddr 28 (.tmp 1) 1,0,_,#[],none⟩ ?_ ?_ ?_
  rotate_left
  · (intro w hSw; (try dsimp only at hSw); go_simp; try with_reducible rfl)
  simp only [Act.put,List.setIfInBounds_toArray,List.set_cons_zero,List.set_cons_succ]
  refine tkH 2 ⟨some 36,.load 3 (.tmp 35),3,_,#[⟨1,.data⟩],none⟩ ?_ ?_ ?_
  rotate_left
  · (intro w hSw; (try dsimp only at hSw); go_simp; try with_reducible rfl)
  simp only [Act.put,List.setIfInBounds_toArray,List.set_cons_zero,List.set_cons_succ]
  refine tkH 4 ⟨some 38,.fieldAddr 28 (.tmp 1) 8,0,_,#[],none⟩ ?_ ?_ ?_
  rotate_left
  · (intro w hSw; (try dsimp only at hSw); go_simp; try with_reducible rfl)
  simp only [Act.put,List.setIfInBounds_toArray,List.set_cons_zero,List.set_cons_succ]
  refine tkH 5 ⟨some 39,.load 3 (.tmp 38),3,_,#[⟨4,.data⟩],none⟩ ?_ ?_ ?_
  rotate_left
  · (intro w hSw; (try dsimp only at hSw); go_simp; try with_reducible rfl)
  simp only [Act.put,List.setIfInBounds_toArray,List.set_cons_zero,List.set_cons_succ]
  refine tkH 7 ⟨some 41,.fieldAddr 28 (.tmp 1) 1,0,_,#[],none⟩ ?_ ?_ ?_
  rotate_left
  · (intro w hSw; (try dsimp only at hSw); go_simp; try with_reducible rfl)
  simp only [Act.put,List.setIfInBounds_toArray,List.set_cons_zero,List.set_cons_succ]
  refine tkH 8 ⟨some 42,.load 3 (.tmp 41),3,_,#[⟨7,.data⟩],none⟩ ?_ ?_ ?_
  rotate_left
  · (intro w hSw; (try dsimp only at hSw); go_simp; try with_reducible rfl)
  simp only [Act.put,List.setIfInBounds_toArray,List.set_cons_zero,List.set_cons_succ]
  refine tkH 10 ⟨some 44,.fieldAddr 28 (.tmp 1) 4,0,_,#[],none⟩ ?_ ?_ ?_
  rotate_left
  · (intro w hSw; (try dsimp only at hSw); go_simp; try with_reducible rfl)
  simp only [Act.put,List.setIfInBounds_toArray,List.set_cons_zero,List.set_cons_succ]
  refine tkH 11 ⟨some 45,.load 3 (.tmp 44),3,_,#[⟨10,.data⟩],none⟩ ?_ ?_ ?_
  rotate_left
  · (intro w hSw; (try dsimp only at hSw); go_simp; try with_reducible rfl)
  simp only [Act.put,List.setIfInBounds_toArray,List.set_cons_zero,List.set_cons_succ]
  refine wpAnyH_ready (rs:=[3]) (by kernel_rfl) (by simp) ?_
  refine AllReadyH.cons (o:=⟨some 37,.call ⟨.value (.func 27),#[.tmp 36],#[3]⟩,4,_,#[⟨2,.data⟩],none⟩) rfl (fun K hK=> ?_) AllReadyH.nil
  go_simp
  go_at_call 27; refine (HRA.out _).mono ?_; rintro e w5 ⟨rfl,rfl⟩
  refine hK.out _ _ ?_ (fun hHeld=> ?_)
  · with_reducible exact K2.out
  clear hK K
  try simp only [Act.put,List.setIfInBounds_toArray,List.set_cons_zero,List.set_cons_succ]
  refine wpAnyH_ready (rs:=[6]) (by kernel_rfl) (by simp) ?_
  refine AllReadyH.cons (o:=⟨some 40,.call ⟨.value (.func 25),#[.tmp 37,.tmp 39],#[4,3]⟩,24,_,#[⟨3,.data⟩,⟨5,.data⟩,⟨3,.chain⟩],none⟩) rfl (fun K hK=> ?_) AllReadyH.nil
  go_simp
  go_at_call 25; refine (HO.out _ _ _ (by constructor <;>assumption)).mono ?_; rintro e w5 ⟨rfl,rfl⟩
  refine hK.out _ _ ?_ (fun hHeld=> ?_)
  · with_reducible exact K2.out
  clear hK K
  try simp only [Act.put,List.setIfInBounds_toArray,List.set_cons_zero,List.set_cons_succ]
  refine wpAnyH_ready (rs:=[9]) (by kernel_rfl) (by simp) ?_
  refine AllReadyH.cons (o:=⟨some 43,.call ⟨.value (.func 28),#[.tmp 42],#[3]⟩,4,_,#[⟨8,.data⟩,⟨6,.chain⟩],none⟩) rfl (fun K hK=> ?_) AllReadyH.nil
  go_simp
  go_at_call 28; refine (HRD.out _).mono ?_; rintro e w5 ⟨rfl,rfl⟩
  refine hK.out _ _ ?_ (fun hHeld=> ?_)
  · with_reducible exact K2.out
  clear hK K
  try simp only [Act.put,List.setIfInBounds_toArray,List.set_cons_zero,List.set_cons_succ]
  refine wpAnyH_ready (rs:=[12]) (by kernel_rfl) (by simp) ?_
  refine AllReadyH.cons (o:=⟨some 46,.call ⟨.value (.func 25),#[.tmp 43,.tmp 45],#[4,3]⟩,24,_,#[⟨9,.data⟩,⟨11,.data⟩,⟨9,.chain⟩],none⟩) rfl (fun K hK=> ?_) AllReadyH.nil
  go_simp
  go_at_call 25; refine (HO.out _ _ _ (by constructor <;>assumption)).mono ?_; rintro e w5 ⟨rfl,rfl⟩
  refine hK.out _ _ ?_ (fun hHeld=> ?_)
  · with_reducible exact K2.out
  clear hK K
  try simp only [Act.put,List.setIfInBounds_toArray,List.set_cons_zero,List.set_cons_succ]
  refine tkH 13 ⟨some 47,.binOp BinOp.or 24 (.tmp 40) (.tmp 46) 24,24,_,#[⟨6,.data⟩,⟨12,.data⟩],none⟩ ?_ ?_ ?_
  rotate_left
  · (intro w hSw; (try dsimp only at hSw); go_simp; try with_reducible rfl)
  simp only [Act.put,List.setIfInBounds_toArray,List.set_cons_zero,List.set_cons_succ]
  refine tkH 14 ⟨some 48,.binOp BinOp.or 24 (.tmp 34) (.tmp 47) 24,24,_,#[⟨0,.data⟩,⟨13,.data⟩],none⟩ ?_ ?_ ?_
  rotate_left
  · (intro w hSw; (try dsimp only at hSw); go_simp; try with_reducible rfl)
  simp only [Act.put,List.setIfInBounds_toArray,List.set_cons_zero,List.set_cons_succ]
  refine tkH 15 ⟨some 5,.assign (.tmp 48),24,_,#[⟨14,.data⟩,⟨12,.chain⟩,⟨0,.phase⟩,⟨1,.phase⟩,⟨2,.phase⟩,⟨3,.phase⟩,⟨4,.phase⟩,⟨5,.phase⟩,⟨6,.phase⟩,⟨7,.phase⟩,⟨8,.phase⟩,⟨9,.phase⟩,⟨10,.phase⟩,⟨11,.phase⟩,⟨12,.phase⟩,⟨13,.phase⟩,⟨14,.phase⟩],none⟩ ?_ ?_ ?_
  rotate_left
  · (intro w hSw; (try dsimp only at hSw); go_simp; try with_reducible rfl)
  simp only [Act.put,List.setIfInBounds_toArray,List.set_cons_zero,List.set_cons_succ]
  refine wpAnyH_done (by kernel_rfl) ?_ _
  obtain ⟨c1,c15⟩:=held_r6 HN.out
  go_wp2_with fail
  exact bodyPost_ret (by simp [results,Tryd.results13,go_sem,Act.put]) rfl ⟨rfl,HN.out.bel⟩
theorem greads_any (i:Ins) (w:World) (ht:TP w) (hi:IOk i):Calls Tryd.prog 13 #[.agg (insA i)] w fun e w'=>e= .returned (.int .u16 ((readsP i:Nat):Int))∧Below w.heap.size w w':=by
  cases he:encP i with
  | none =>
    have e:readsP i=0:=by unfold readsP; rw [he]
    rw [e]; exact greads_none i w ht hi he
  | some x =>
    obtain ⟨r,q,hn,_⟩:=enc_row he
    have e:readsP i=readsR r i:=by unfold readsP; rw [he,hn]; rfl
    rw [e]
    by_cases h:i.op=40
    · exact greads_40 i w ht hi x he r hn h
    · exact greads_no i w ht hi x he r hn h
end Go.Proofs.YtkmgmmmpiallhaaDoor
