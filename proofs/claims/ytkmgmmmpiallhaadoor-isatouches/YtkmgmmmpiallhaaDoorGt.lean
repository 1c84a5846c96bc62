import Derived.Test.YtkmgmmmpiallhaaDoorGr
import Derived.Test.YtkmgmmmpiallhaaDoorGv
namespace Go.Proofs.YtkmgmmmpiallhaaDoor
open Go.RowKit
set_option linter.unusedVariables false
set_option linter.unusedSimpArgs false
structure LX (W:World) (II:List Value) (w:World):Prop where
  bel:Below W.heap.size W w
  box:Bl w (W.heap.size+1) 28 II
  tp:TP w
theorem LX.step {W w w':World} {II:List Value} (h:LX W II w) (hb:Below w.heap.size w w'):LX W II w':=⟨Below.step h.bel hb,h.box.below hb,h.tp.below hb⟩
theorem LX.drew {W w:World} {II:List Value} (h:LX W II w):LX W II w.drew:=⟨below_drew h.bel,h.box.drew,⟨h.tp.low,h.tp.high,h.tp.pl,h.tp.db⟩⟩
theorem LX.first {w:World} (ht:TP w) (r:RowP) (i:Ins):LX w (insL i) ((w.alloc (.cells (rowL r).toArray 40)).alloc (.cells (insL i).toArray 28)) :=
  have hb:Below w.heap.size w ((w.alloc (.cells (rowL r).toArray 40)).alloc (.cells (insL i).toArray 28)):=Below.step (below_new _ _) (below_new _ _)
  ⟨hb,bl_at (by rw [size_new]),ht.below hb⟩
theorem or_nat (x y:Nat) (hx:x<4294967296) (hy:y<4294967296):bits .or .u32 (x:Int) (y:Int)=((x ||| y:Nat):Int):=by
  rw [u32_or _ _ (by omega) (by omega) (by omega) (by omega),Int.toNat_natCast,Int.toNat_natCast]
theorem lay_val (i:Ins) (K:Nat) (hK:K<28) (hv:valP i (plP K).fld<4294967296):bits .and .u32 (((valP i (plP K).fld:Nat):Int) / 2^(plP K).frm) ((2^(plP K).wide-1)%4294967296)*2^(plP K).at_%4294967296=((layG i K:Nat):Int):=by
  obtain ⟨p1,p2,p3,p4⟩:=pl_small K hK
  unfold layG
  generalize valP i (plP K).fld=x at *
  generalize (plP K).at_=a at *
  generalize (plP K).wide=d at *
  generalize (plP K).frm=m at *
  have h1:2^d<2^32:=Nat.pow_lt_pow_right (by decide) (by omega)
  have h2:=Nat.two_pow_pos d
  have h3:(2:Nat)^32=4294967296:=by decide
  have e:((2:Int)^d-1)%4294967296=2^d-1:=by
    rw [←pow_nat d]; omega
  rw [e,band_mod d _ _ rfl (by omega) (shr_range _ _ ⟨by omega,by omega⟩)]
  rw [←pow_nat a,←pow_nat d,←pow_nat m,←Int.natCast_ediv,←Int.natCast_emod,←Int.natCast_mul]
  rfl
theorem val_lt (i:Ins) (hi:IOk i) (f:Nat) (hf:f<18):valP i f<4294967296:=by
  obtain ⟨h1,h2⟩:=hi.imm
  obtain ⟨h3,h4⟩:=hi.list
  have hb:∀b:Bool,b.toNat<4294967296:=fun b=>by cases b <;>decide
  have:f=0∨f=1∨f=2∨f=3∨f=4∨f=5∨f=6∨f=7∨f=8∨f=9∨f=10∨f=11∨f=12∨f=13∨f=14∨f=15∨f=16∨f=17:=by omega
  rcases this with rfl|rfl|rfl|rfl|rfl|rfl|rfl|rfl|rfl|rfl|rfl|rfl|rfl|rfl|rfl|rfl|rfl|rfl
  · show ((i.op-1)%4294967296).toNat<4294967296; omega
  · show i.s.toNat<4294967296; exact hb _
  · show (i.rd%4294967296).toNat<4294967296; omega
  · show (i.rn%4294967296).toNat<4294967296; omega
  · show (i.rm%4294967296).toNat<4294967296; omega
  · show (i.rs%4294967296).toNat<4294967296; omega
  · show (i.ra%4294967296).toNat<4294967296; omega
  · show i.imm.toNat<4294967296; omega
  · show (i.shift%4294967296).toNat<4294967296; omega
  · show (i.amount%4294967296).toNat<4294967296; omega
  · show i.pre.toNat<4294967296; exact hb _
  · show i.up.toNat<4294967296; exact hb _
  · show i.write.toNat<4294967296; exact hb _
  · show i.list.toNat<4294967296; omega
  · show (i.crn%4294967296).toNat<4294967296; omega
  · show (i.op1%4294967296).toNat<4294967296; omega
  · show (i.crm%4294967296).toNat<4294967296; omega
  · show (i.op2%4294967296).toNat<4294967296; omega
theorem or_small {a b:Nat} (ha:a<4294967296) (hb:b<4294967296):a ||| b<4294967296:=by
  have h3:(2:Nat)^32=4294967296:=by decide
  rw [←h3] at *
  exact Nat.or_lt_two_pow ha hb
theorem layG_lt (i:Ins) (K:Nat):layG i K<4294967296:=Nat.mod_lt _ (by decide)
theorem cond_val (i:Ins):IntKind.u32.wrap i.cond*268435456%4294967296=(((i.cond%4294967296*268435456%4294967296).toNat:Nat):Int):=by
  rw [IntKind.wrap_u32]; omega
theorem lay_held {W w:World} {II:List Value} {q:Nat} {a b c d:Value} (h:LX W II w) (hb:Bl w q 61 [a,b,c,d]):w.rangeAt (W.heap.size+1) 0 II∧w.cell? ⟨q,0,none⟩=some a∧w.cell? ⟨q,1,none⟩=some b∧w.cell? ⟨q,2,none⟩=some c∧w.cell? ⟨q,3,none⟩=some d:=⟨h.box.range,hb.cell 0,hb.cell 1,hb.cell 2,hb.cell 3⟩
set_option maxRecDepth 100000 in
set_option maxHeartbeats 1000000 in
theorem glay_any (r:RowP) (i:Ins) (w:World) (ht:TP w) (hr:RowOk r) (hi:IOk i) :
    Calls Tryd.prog 24 #[.agg (rowL r).toArray,.agg (insA i)] w fun e w'=>e= .returned (.int .u32 ((layP r i:Nat):Int))∧Below w.heap.size w w':=by
  show Calls Tryd.prog 24 #[.agg #[.int .u8 (r.op:Int),.int .u8 (r.form:Int),.int .u32 (r.mask:Int),.int .u32 (r.bits:Int),.int .u32 (r.parts:Int)],.agg (insL i).toArray] w fun e w'=>e= .returned (.int .u32 ((layP r i:Nat):Int))∧Below w.heap.size w w'
  have HR:=hidW hr
  have HI:=hidW hi
  have HX:=hidW (LX.first ht r i)
  obtain ⟨r1,r2,r3,r4,r5⟩:=hr.ok
  have hcv:=cond_val i
  clear hr hi ht
  obtain ⟨TL,hTL⟩:∃TL,insL i= .int .i64 i.cond::TL:=⟨_,rfl⟩
  have hlen:TL.length=19:=by
    have:=congrArg List.length hTL
    rw [insL_len,List.length_cons] at this
    omega
  have hTL':=hidW hTL
  rw [hTL] at HX ⊢
  clear hTL
  obtain ⟨C,hC⟩:∃C,i.cond=C:=⟨_,rfl⟩
  rw [hC] at HX hcv hTL' ⊢
  have hC:=hidW hC
  go_enter Tryd.func24,Tryd.ntmps24
  go_wp2
  have ew:bits .or .u32 (r.bits:Int) (C%4294967296*268435456%4294967296)=((r.bits ||| (C%4294967296*268435456%4294967296).toNat:Nat):Int):=by
    rw [show C%4294967296*268435456%4294967296=(((C%4294967296*268435456%4294967296).toNat:Nat):Int) by omega,or_nat _ _ r4 (by omega),Int.toNat_natCast]
  have ht0:layF i (r.bits ||| (C%4294967296*268435456%4294967296).toNat) (chainP 32 r.parts)=layP r i:=by rw [←hC.out]; rfl
  rw [ew]
  have hw0:=or_small r4 (show (C%4294967296*268435456%4294967296).toNat<4294967296 by omega)
  generalize (r.bits ||| (C%4294967296*268435456%4294967296).toNat)=W0 at *
  clear ew hcv
  have ht0:=hidW ht0
  go_loopw [5,6] (fun k5 k6 wr=>∃(n left wv:Nat),left<4294967296∧wv<4294967296∧k5= .int .u32 (wv:Int)∧k6= .int .u32 (left:Int)∧cl n left=0∧(∀k∈chainP n left,k<28)∧layF i wv (chainP n left)=layP r i∧LX w (.int .i64 C::TL) wr) (fun _ k6 _=>(intOf k6).toNat)
  case atStart=>exact ⟨32,r.parts,W0,r5,hw0,rfl,rfl,HR.out.ends,HR.out.small,ht0.out,HX.out⟩
  case round =>
    clear HX hw0 ht0
    obtain ⟨n,left,wv,hl,hwv,rfl,rfl,hc,hs,hf,hX⟩:=hrel
    have HX:=hidW hX
    have hf:=hidW hf
    clear hX
    by_cases h0:left=0
    · subst h0
      have ec:chainP n 0=[]:=by cases n <;>rfl
      have HF:Hid (wv=layP r i):=by
        show _=_
        rw [←hf.out,ec]; rfl
      clear hf hs hc ec hl
      have bd:decide ((0:Int)=0)=true:=rfl
      go_wp2
      exact bodyPost_ret (v:= .int .u32 (wv:Int)) (by simp [results,Tryd.results24,go_sem]) rfl ⟨by rw [HF.out],HX.out.bel⟩
    · obtain ⟨m,rfl⟩:∃m,n=m+1:=by
        cases n with
        | zero=>exact absurd hc h0
        | succ m=>exact ⟨m,rfl⟩
      have ec:chainP (m+1) left=tzP left::chainP m (left &&& (left-1)):=by rw [chainP,if_neg h0]
      have hc':cl m (left &&& (left-1))=0:=by rw [cl,if_neg h0] at hc; exact hc
      have hpos:0<left:=Nat.pos_of_ne_zero h0
      have hK:tzP left<28:=hs _ (by rw [ec]; exact List.mem_cons_self ..)
      have hs':∀k∈chainP m (left &&& (left-1)),k<28:=fun k hk=>hs k (by rw [ec]; exact List.mem_cons_of_mem _ hk)
      have e1:=left_step left hpos hl
      have e2:=left_lt left hpos
      have HZ:Hid (∀w',TP w'→Calls Tryd.prog 40 #[.int .u32 (left:Int)] w' fun e w''=>e= .returned (.int .i64 (tzP left:Nat))∧w''=w'):=fun w' ht=>tz_any left w' ht hpos hl
      have HF:Hid (layF i (wv ||| layG i (tzP left)) (chainP m (left &&& (left-1)))=layP r i):=by
        show _=_
        rw [←hf.out,ec,layF]
      clear hf hs hc ec
      generalize tzP left=K at *
      generalize hL:left &&& (left-1)=L2 at *
      obtain ⟨p1,p2,p3,p4⟩:=pl_small K hK
      have HP:=hidW (HX.out.tp.pl K hK)
      have hvl:=val_lt i HI.out (plP K).fld p1
      have HV:Hid (∀w',Calls Tryd.prog 48 #[.agg (.int .i64 C::TL).toArray,.int .u8 ((plP K).fld:Int)] w' fun e w''=>e= .returned (.int .u32 ((valP i (plP K).fld:Nat):Int))∧Below w'.heap.size w' w''):=by
        rw [←hTL'.out]
        exact fun w'=>gvalue_any i (plP K).fld w' HI.out p1
      have EV:=hidW (lay_val i K hK hvl)
      have hgl:=layG_lt i K
      have hor:=or_nat wv (layG i K) hwv hgl
      have hor2:=or_small hwv hgl
      have hor:Hid (Value.int .u32 (bits .or .u32 (wv:Int) (IntKind.u32.wrap (bits .and .u32 (((valP i (plP K).fld:Nat):Int) / 2^(plP K).frm) (IntKind.u32.wrap (IntKind.u32.wrap (2^(plP K).wide)-1))*2^(plP K).at_)))= .int .u32 ((wv ||| layG i K:Nat):Int)):=by
        show _=_
        rw [←hor,←EV.out]
        simp only [IntKind.wrap_u32]
        rw [show ∀z:Int,(z%4294967296-1)%4294967296=(z-1)%4294967296 from fun z=>by omega]
      have hor2:=hidW hor2
      have k1:(K:Int)<28:=by omega
      have k0:(0:Int)≤(K:Int):=by omega
      have b0:decide ((left:Int)=0)=false:=decide_eq_false (by omega)
      generalize layG i K=G at *
      generalize valP i (plP K).fld=V at *
      generalize plP K=P at *
      obtain ⟨F,A,D,M⟩:=P
      dsimp only at HP HV HF p1 p2 p3 p4 hvl EV hor hor2
      clear EV
      go_wp2_with (first|(go_at_call 40; refine (HZ.out _ HX.out.tp).mono ?_; rintro e w' ⟨rfl,rfl⟩)|(guard_target =~ wpList _ _ _ (Oper.mk (some 26) _ _ _ _ _::_) _ _; refine wpList_load_mid rfl _ _ rfl 2 (K*4) rfl _ _ HP.out Tryd.underlying61 rfl part_info ?_))
      have HQ:=hidW (HX.out.step (below_new w' (.cells #[.int .u8 (F:Int),.int .u8 (A:Int),.int .u8 (D:Int),.int .u8 (M:Int)] 61)))
      have HB:=hidW (Bl.new w' 61 [.int .u8 (F:Int),.int .u8 (A:Int),.int .u8 (D:Int),.int .u8 (M:Int)])
      clear HX HP HZ
      change Hid (Bl (w'.alloc (.cells #[.int .u8 (F:Int),.int .u8 (A:Int),.int .u8 (D:Int),.int .u8 (M:Int)] 61)) _ _ _) at HB
      generalize w'.alloc _=w1 at HQ HB ⊢
      generalize w'.heap.size=q at HB ⊢
      have K1:=lay_held HQ.out.drew HB.out.drew
      have hu:=Tryd.underlying28
      have hi:(Tryd.prog.info? 28).map (·.size)=some (Value.int .i64 C::TL).length:=by rw [List.length_cons,hlen]; exact ins_size
      refine wp_region_held_drew (S:=fun w'=>w'.rangeAt (w.heap.size+1) 0 (.int .i64 C::TL)∧w'.cell? ⟨q,0,none⟩=some (.int .u8 (F:Int))∧w'.cell? ⟨q,1,none⟩=some (.int .u8 (A:Int))∧w'.cell? ⟨q,2,none⟩=some (.int .u8 (D:Int))∧w'.cell? ⟨q,3,none⟩=some (.int .u8 (M:Int))) (by kernel_rfl) K1 (fun hHeld=> ?_)
      refine tkH 0 ⟨some 27,.move (.tmp 5),22,_,#[],none⟩ ?_ ?_ ?_
      rotate_left
      · (intro w hSw; (try dsimp only at hSw); go_simp; try with_reducible rfl)
      simp only [Act.put,List.setIfInBounds_toArray,List.set_cons_zero,List.set_cons_succ]
      refine wpAnyH_take (i:=1) (oi:=⟨some 28,.load 28 (.tmp 3),28,_,#[],none⟩) (v:=_) rfl (by kernel_rfl) (by kernel_rfl) (by kernel_rfl) (fun _ _ _ h=>h) (yieldsIf_load_mid (by rfl) _ _ rfl (w.heap.size+1) 0 rfl _ _ (fun _ h=>h.1) hu rfl hi) (by assumption) ?_
      simp only [Act.put,List.setIfInBounds_toArray,List.set_cons_zero,List.set_cons_succ]
      refine tkH 2 ⟨some 29,.fieldAddr 61 (.tmp 7) 0,0,_,#[],none⟩ ?_ ?_ ?_
      rotate_left
      · (intro w hSw; (try dsimp only at hSw); go_simp; try with_reducible rfl)
      simp only [Act.put,List.setIfInBounds_toArray,List.set_cons_zero,List.set_cons_succ]
      refine tkH 3 ⟨some 30,.load 5 (.tmp 29),5,_,#[⟨2,.data⟩],none⟩ ?_ ?_ ?_
      rotate_left
      · (intro w hSw; (try dsimp only at hSw); go_simp; try with_reducible rfl)
      simp only [Act.put,List.setIfInBounds_toArray,List.set_cons_zero,List.set_cons_succ]
      refine tkH 5 ⟨some 32,.fieldAddr 61 (.tmp 7) 3,0,_,#[],none⟩ ?_ ?_ ?_
      rotate_left
      · (intro w hSw; (try dsimp only at hSw); go_simp; try with_reducible rfl)
      simp only [Act.put,List.setIfInBounds_toArray,List.set_cons_zero,List.set_cons_succ]
      refine tkH 6 ⟨some 33,.load 5 (.tmp 32),5,_,#[⟨5,.data⟩],none⟩ ?_ ?_ ?_
      rotate_left
      · (intro w hSw; (try dsimp only at hSw); go_simp; try with_reducible rfl)
      simp only [Act.put,List.setIfInBounds_toArray,List.set_cons_zero,List.set_cons_succ]
      refine tkH 8 ⟨some 35,.fieldAddr 61 (.tmp 7) 2,0,_,#[],none⟩ ?_ ?_ ?_
      rotate_left
      · (intro w hSw; (try dsimp only at hSw); go_simp; try with_reducible rfl)
      simp only [Act.put,List.setIfInBounds_toArray,List.set_cons_zero,List.set_cons_succ]
      refine tkH 9 ⟨some 36,.load 5 (.tmp 35),5,_,#[⟨8,.data⟩],none⟩ ?_ ?_ ?_
      rotate_left
      · (intro w hSw; (try dsimp only at hSw); go_simp; try with_reducible rfl)
      simp only [Act.put,List.setIfInBounds_toArray,List.set_cons_zero,List.set_cons_succ]
      refine tkH 10 ⟨some 37,.binOp BinOp.shl 22 (.const (Value.int IntKind.u32 1)) (.tmp 36) 5,22,_,#[⟨9,.data⟩],none⟩ ?_ ?_ ?_
      rotate_left
      · (intro w hSw; (try dsimp only at hSw); go_simp; try with_reducible rfl)
      simp only [Act.put,List.setIfInBounds_toArray,List.set_cons_zero,List.set_cons_succ]
      refine tkH 11 ⟨some 38,.binOp BinOp.sub 22 (.tmp 37) (.const (Value.int IntKind.u32 1)) 22,22,_,#[⟨10,.data⟩],none⟩ ?_ ?_ ?_
      rotate_left
      · (intro w hSw; (try dsimp only at hSw); go_simp; try with_reducible rfl)
      simp only [Act.put,List.setIfInBounds_toArray,List.set_cons_zero,List.set_cons_succ]
      refine tkH 13 ⟨some 40,.fieldAddr 61 (.tmp 7) 1,0,_,#[],none⟩ ?_ ?_ ?_
      rotate_left
      · (intro w hSw; (try dsimp only at hSw); go_simp; try with_reducible rfl)
      simp only [Act.put,List.setIfInBounds_toArray,List.set_cons_zero,List.set_cons_succ]
      refine tkH 14 ⟨some 41,.load 5 (.tmp 40),5,_,#[⟨13,.data⟩],none⟩ ?_ ?_ ?_
      rotate_left
      · (intro w hSw; (try dsimp only at hSw); go_simp; try with_reducible rfl)
      simp only [Act.put,List.setIfInBounds_toArray,List.set_cons_zero,List.set_cons_succ]
      refine wpAnyH_ready (rs:=[4]) (by kernel_rfl) (by simp) ?_
      refine AllReadyH.cons (o:=⟨some 31,.call ⟨.value (.func 48),#[.tmp 28,.tmp 30],#[28,5]⟩,22,_,#[⟨1,.data⟩,⟨3,.data⟩],none⟩) rfl (fun K hK=> ?_) AllReadyH.nil
      go_simp
      go_at_call 48; refine (HV.out _).mono ?_; rintro e w5 ⟨rfl,hb5⟩; have HN:=hidW (HQ.out.drew.step hb5); have K2:=hidW (lay_held HN.out (HB.out.drew.below hb5)); clear hb5
      refine hK.out _ _ ?_ (fun hHeld=> ?_)
      · with_reducible exact K2.out
      clear hK K
      try simp only [Act.put,List.setIfInBounds_toArray,List.set_cons_zero,List.set_cons_succ]
      refine tkH 7 ⟨some 34,.binOp BinOp.shr 22 (.tmp 31) (.tmp 33) 5,22,_,#[⟨4,.data⟩,⟨6,.data⟩],none⟩ ?_ ?_ ?_
      rotate_left
      · (intro w hSw; (try dsimp only at hSw); go_simp; try with_reducible rfl)
      simp only [Act.put,List.setIfInBounds_toArray,List.set_cons_zero,List.set_cons_succ]
      refine tkH 12 ⟨some 39,.binOp BinOp.and 22 (.tmp 34) (.tmp 38) 22,22,_,#[⟨7,.data⟩,⟨11,.data⟩],none⟩ ?_ ?_ ?_
      rotate_left
      · (intro w hSw; (try dsimp only at hSw); go_simp; try with_reducible rfl)
      simp only [Act.put,List.setIfInBounds_toArray,List.set_cons_zero,List.set_cons_succ]
      refine tkH 15 ⟨some 42,.binOp BinOp.shl 22 (.tmp 39) (.tmp 41) 5,22,_,#[⟨12,.data⟩,⟨14,.data⟩],none⟩ ?_ ?_ ?_
      rotate_left
      · (intro w hSw; (try dsimp only at hSw); go_simp; try with_reducible rfl)
      simp only [Act.put,List.setIfInBounds_toArray,List.set_cons_zero,List.set_cons_succ]
      refine tkH 16 ⟨some 43,.binOp BinOp.or 22 (.tmp 27) (.tmp 42) 22,22,_,#[⟨0,.data⟩,⟨15,.data⟩],none⟩ ?_ ?_ ?_
      rotate_left
      · (intro w hSw; (try dsimp only at hSw); go_simp; try with_reducible rfl)
      simp only [Act.put,List.setIfInBounds_toArray,List.set_cons_zero,List.set_cons_succ]
      refine tkH 17 ⟨some 5,.assign (.tmp 43),22,_,#[⟨16,.data⟩,⟨4,.chain⟩,⟨0,.phase⟩,⟨1,.phase⟩,⟨2,.phase⟩,⟨3,.phase⟩,⟨4,.phase⟩,⟨5,.phase⟩,⟨6,.phase⟩,⟨7,.phase⟩,⟨8,.phase⟩,⟨9,.phase⟩,⟨10,.phase⟩,⟨11,.phase⟩,⟨12,.phase⟩,⟨13,.phase⟩,⟨14,.phase⟩,⟨15,.phase⟩,⟨16,.phase⟩],none⟩ ?_ ?_ ?_
      rotate_left
      · (intro w hSw; (try dsimp only at hSw); go_simp; try with_reducible rfl)
      simp only [Act.put,List.setIfInBounds_toArray,List.set_cons_zero,List.set_cons_succ]
      refine wpAnyH_done (by kernel_rfl) ?_ _
      go_wp2
      go_roundw
      case rel=>exact ⟨m,L2,wv ||| G,by omega,hor2.out,hor.out,rfl,hc',hs',HF.out,HN.out⟩
      case measure=>simp [intOf]; omega
end Go.Proofs.YtkmgmmmpiallhaaDoor
