import Derived.Test.YtnjlajjjcmhfgaaGreatDoorTA30
namespace Go.Proofs.YtnjlajjjcmhfgaaGreatDoor
open Go.RowKit
open Mm (Turn gr RM valV errV Byts setV RowAt)
set_option linter.unusedVariables false
set_option linter.unusedSimpArgs false
attribute [local go_sem] Oper.semAt_some
structure Scn (W:World) (vp vw vc:Value) (pas ws:List Int) (cs:List Ctx):Prop where
  p:Sli e64 1 W vp pas
  w:Sli e32 1 W vw ws
  c:Sli encC 12 W vc cs
  op:∀x∈pas,(0:Int)≤x∧x<18446744073709551616
  ow:∀x∈ws,(0:Int)≤x∧x<4294967296
  oc:∀c∈cs,c.Ok
  lp:pas.length≤1048576
  lw:ws.length≤1048576
  lc:cs.length≤1048576
theorem Scn.below {W w:World} {vp vw vc:Value} {pas ws:List Int} {cs:List Ctx} (h:Scn W vp vw vc pas ws cs) (hb:Below W.heap.size W w):Scn w vp vw vc pas ws cs :=
  ⟨h.p.below hb,h.w.below hb,h.c.below hb,h.op,h.ow,h.oc,h.lp,h.lw,h.lc⟩
def Pst.first (f:Int) (ps:List (Int×Int)):Pst:=⟨[],fun _=>Option.none,memS f ps⟩
theorem Scn.cnt {W:World} {vp vw vc:Value} {pas ws:List Int} {cs:List Ctx} (h:Scn W vp vw vc pas ws cs) (f:Int) {ops:List Oq} (ho:∀o∈ops,o.Ok) :
    Cnt ((Pst.first f (pas.zip ws)).run cs ops) ops.length (2048*(pas.zip ws).length+67584*ops.length):=by
  have h1:Cnt (Pst.first f (pas.zip ws)) 0 (2048*(pas.zip ws).length):=Cnt.first (fun p hp=>(h.op p.1 (List.of_mem_zip hp).1).1)
  have:=h1.run h.oc ho
  rwa [Nat.zero_add] at this
set_option maxRecDepth 100000 in
set_option maxHeartbeats 8000000 in
theorem stage_any (W:World) (hT:TS W) (f:Int) (vp vw vc:Value) (pas ws:List Int) (cs:List Ctx) (hs:Scn W vp vw vc pas ws cs) (vs:Value) (ops:List Oq) (hv:Sli encQ 9 W vs ops) (ho:∀o∈ops,o.Ok) (hl:ops.length≤1048576) :
    Calls Tryz.prog 9 #[.agg #[.int .i64 f,vp,vw,vc],vs] W fun e w'=>∃x p kb jb wv iv,e= .returned (.pointer (some ⟨x,0,none⟩))∧SgX (fun _=>False) W w' x p kb jb wv iv f vp vw vc ((Pst.first f (pas.zip ws)).run cs ops):=by
  obtain ⟨av,cap,rfl⟩:=hv.form
  obtain ⟨ap,cp,rfl⟩:=hs.p.form
  obtain ⟨aw,cw,rfl⟩:=hs.w.form
  obtain ⟨ac,cc,rfl⟩:=hs.c.form
  have HT:=hidW hT
  have HV:=hidW hv
  have HO:=hidW ho
  have HSC:=hidW hs
  have hb0:=below_new W (.cells #[.int .i64 f,.slice ap pas.length cp,.slice aw ws.length cw,.slice ac cs.length cc] 26)
  have hs1:=hs.below hb0
  have HM:=hidW (memory_any _ f (.slice ap pas.length cp) (.slice aw ws.length cw) (.slice ac cs.length cc) pas ws hs1.p hs1.w hs1.op hs1.ow (by have:=hs1.lp; omega) (by have:=hs1.lw; omega))
  have HB0:=hidW (Bl.new W 26 [.int .i64 f,.slice ap pas.length cp,.slice aw ws.length cw,.slice ac cs.length cc])
  have HBel:=hidW hb0
  have hCn:∀k,k≤ops.length→((Pst.first f (pas.zip ws)).run cs (ops.take k)).K.length≤2305843009213693952:=by
    intro k hk
    have:=(hs.cnt f (ops:=ops.take k) (fun o h=>ho o (List.mem_of_mem_take h))).len
    rw [List.length_take] at this
    have h2:min k ops.length≤1048576:=by omega
    have:=Nat.mul_le_mul_right 1048576 h2
    omega
  have HCn:=hidW hCn
  clear hT hv ho hs hb0 hs1 hCn
  generalize hn:ops.length=n at *
  have HLN:=hidW hn
  clear hn
  go_enter Tryz.func9,Tryz.ntmps9
  go_wp2_with fail
  go_at_call 39
  refine HM.out.mono ?_
  rintro e w1 ⟨wv,iv,S,rfl,g1,g2,g3⟩
  have HB1:=hidW (HB0.out.below g3)
  have HG1:=hidW g1
  have HG2:=hidW g2
  have HG3:=hidW (Below.step HBel.out g3)
  have HA:=hidW (fun ww=>asked_any g1 ww)
  have hform:(wv= .pointer none∧iv= .nilIface)∨∃r,wv= .pointer (some ⟨r,0,none⟩)∧iv= .iface 52 (.pointer (some ⟨r,0,none⟩)):=by
    obtain ⟨hs,N,m,hm⟩:∃hs N m,memS f (pas.zip ws)=⟨hs,N,m⟩:=⟨_,_,_,rfl⟩
    cases hs with
    | false=>rw [hm] at g1; exact .inl ⟨g1.1,g1.2.1⟩
    | true=>rw [hm] at g1; obtain ⟨r,e1,e2,_⟩:=g1; exact .inr ⟨r,e1,e2⟩
  clear g1 g2 HM HB0 HBel
  have hz1:W.heap.size<w1.heap.size:=by have:=g3.size; simp at this; omega
  clear g3
  rcases hform with ⟨rfl,rfl⟩|⟨r,rfl,rfl⟩
  · go_wp2
    have HJ:Hid (w1.drew.cell? ⟨W.heap.size,0,none⟩=some (.int .i64 f)∧w1.drew.cell? ⟨W.heap.size,1,none⟩=some (.slice ap pas.length cp)∧w1.drew.cell? ⟨W.heap.size,2,none⟩=some (.slice aw ws.length cw)∧w1.drew.cell? ⟨W.heap.size,3,none⟩=some (.slice ac cs.length cc)):=⟨HB1.out.cell 0,HB1.out.cell 1,HB1.out.cell 2,HB1.out.cell 3⟩
    have HNW:=hidW (knew_any w1.drew)
    have HAK:=hidW (fun ww hb=>((HB1.out.drew.below (w':=ww) hb)))
    go_region_held3 (fun ww=>ww.cell? ⟨W.heap.size,0,none⟩=some (.int .i64 f)∧ww.cell? ⟨W.heap.size,1,none⟩=some (.slice ap pas.length cp)∧ww.cell? ⟨W.heap.size,2,none⟩=some (.slice aw ws.length cw)∧ww.cell? ⟨W.heap.size,3,none⟩=some (.slice ac cs.length cc)) (first|exact HJ.out|exact HJA.out _) (first
      | (go_at_call 40; refine HNW.out.mono ?_; rintro e w2 ⟨rfl,g1,g2⟩; have HP2:=hidW g1; have HP3:=hidW g2; have hh:=HAK.out _ g2; have HJ:=hidW (And.intro (hh.cell 0) (And.intro (hh.cell 1) (And.intro (hh.cell 2) (hh.cell 3)))); have HJA:=hidW (fun o=>And.intro ((hh.below (below_new _ o)).cell 0) (And.intro ((hh.below (below_new _ o)).cell 1) (And.intro ((hh.below (below_new _ o)).cell 2) ((hh.below (below_new _ o)).cell 3)))); clear g1 g2 hh)
      | (go_at_call 41; refine (HA.out _).mono ?_; rintro e w3 ⟨rfl,rfl⟩))
    have HX0:Hid (SgX (fun _=>False) W (w2.alloc (.cells #[.int .i64 f,.slice ap pas.length cp,.slice aw ws.length cw,.slice ac cs.length cc,.pointer (some ⟨w1.heap.size+2,0,none⟩),.nilIface,.pointer none] 54)) w2.heap.size (w1.heap.size+2) w1.heap.size (w1.heap.size+1) (.pointer none) .nilIface f (.slice ap pas.length cp) (.slice aw ws.length cw) (.slice ac cs.length cc) ((Pst.first f (pas.zip ws)).run cs (ops.take 0))):=by
      have b1:Below w1.heap.size w1 w2:=Below.step (below_drew (Below.refl _ w1)) HP3.out
      have b2:=below_new w2 (.cells #[.int .i64 f,.slice ap pas.length cp,.slice aw ws.length cw,.slice ac cs.length cc,.pointer (some ⟨w1.heap.size+2,0,none⟩),.nilIface,.pointer none] 54)
      have hbW:=Below.step (Below.step HG3.out b1) b2
      have z2:=HP2.out.lt
      have z0:=HG3.out.size
      simp only [World.drew] at z2
      refine ⟨Bl.new _ _ _,HP2.out.below b2,⟨S,(HG1.out.below b1).below b2,fun b hb=> ?_⟩,?_,?_,HT.out.below hbW,hbW,fun b hb=>hb.elim⟩
      · have l1:=HG1.out.low b hb
        have l2:=HG2.out b hb
        simp at l2
        refine ⟨by omega,by omega,by omega,by omega,by omega,fun h=>h⟩
      · refine ⟨by omega,by omega,by omega⟩
      · refine ⟨by omega,by omega,by omega,by omega⟩
    clear HJ HJA HP2 HP3 HNW HAK HB1 HG1 HG2 HG3 HA
    go_wp2
    generalize w2.heap.size=x at *
    generalize w1.heap.size+2=p at *
    generalize w1.heap.size=kb at *
    generalize kb+1=jb at *
    go_loopw [7] (fun i wr=>∃k:Nat,k≤n∧i= .int .i64 k∧Hid (SgX (fun _=>False) W wr x p kb jb (.pointer none) .nilIface f (.slice ap pas.length cp) (.slice aw ws.length cw) (.slice ac cs.length cc) ((Pst.first f (pas.zip ws)).run cs (ops.take k)))) (fun i _=>n-(intOf i).toNat)
    case atStart=>exact ⟨0,Nat.zero_le _,rfl,HX0⟩
    case round =>
      obtain ⟨k,hk,rfl,HK⟩:=hrel
      clear HX0
      by_cases hlt:k<n
      · obtain ⟨o,hq⟩:∃o,ops[k]? =some o:=⟨_,List.getElem?_eq_getElem (by rw [HLN.out]; omega)⟩
        have HST:=hidW (Pst.run_step (cs:=cs) (σ:=Pst.first f (pas.zip ws)) hq)
        obtain ⟨b,off,rfl,hb,c0,c1,c2,c3,c4,c5,c6,c7,c8⟩:=HV.out.op HK.out.bel hq
        have hok:=HO.out o (List.mem_of_getElem? hq)
        have hkz:(k:Int)<(n:Int):=by omega
        have HC:=hidW (step_any HK.out HT.out cs HSC.out.c HSC.out.oc (by have:=HSC.out.lc; omega) o hok (HCn.out k hk))
        clear hq HK hok
        go_wp2_with (first
          | (go_at_call 11; refine HC.out.mono ?_; rintro e wa ⟨rfl,hx1,_⟩; have HX1:=hidW hx1; clear hx1))
        have HX2:=HX1
        rw [←HST.out] at HX2
        clear HX1 HST HC
        go_roundw
        case rel=>exact ⟨k+1,by omega,by go_num,HX2⟩
        case measure=>simp [intOf]; omega
      · obtain rfl:k=n:=by omega
        rw [show ops.take k=ops from by rw [←HLN.out,List.take_length]] at HK
        go_wp2
        go_ret
        exact ⟨_,_,_,_,_,_,rfl,HK.out⟩
  · go_wp2
    have HJ:Hid (w1.drew.cell? ⟨W.heap.size,0,none⟩=some (.int .i64 f)∧w1.drew.cell? ⟨W.heap.size,1,none⟩=some (.slice ap pas.length cp)∧w1.drew.cell? ⟨W.heap.size,2,none⟩=some (.slice aw ws.length cw)∧w1.drew.cell? ⟨W.heap.size,3,none⟩=some (.slice ac cs.length cc)):=⟨HB1.out.cell 0,HB1.out.cell 1,HB1.out.cell 2,HB1.out.cell 3⟩
    have HNW:=hidW (knew_any w1.drew)
    have HAK:=hidW (fun ww hb=>((HB1.out.drew.below (w':=ww) hb)))
    go_region_held3 (fun ww=>ww.cell? ⟨W.heap.size,0,none⟩=some (.int .i64 f)∧ww.cell? ⟨W.heap.size,1,none⟩=some (.slice ap pas.length cp)∧ww.cell? ⟨W.heap.size,2,none⟩=some (.slice aw ws.length cw)∧ww.cell? ⟨W.heap.size,3,none⟩=some (.slice ac cs.length cc)) (first|exact HJ.out|exact HJA.out _) (first
      | (go_at_call 40; refine HNW.out.mono ?_; rintro e w2 ⟨rfl,g1,g2⟩; have HP2:=hidW g1; have HP3:=hidW g2; have hh:=HAK.out _ g2; have HJ:=hidW (And.intro (hh.cell 0) (And.intro (hh.cell 1) (And.intro (hh.cell 2) (hh.cell 3)))); have HJA:=hidW (fun o=>And.intro ((hh.below (below_new _ o)).cell 0) (And.intro ((hh.below (below_new _ o)).cell 1) (And.intro ((hh.below (below_new _ o)).cell 2) ((hh.below (below_new _ o)).cell 3)))); clear g1 g2 hh)
      | (go_at_call 41; refine (HA.out _).mono ?_; rintro e w3 ⟨rfl,rfl⟩))
    have HX0:Hid (SgX (fun _=>False) W (w2.alloc (.cells #[.int .i64 f,.slice ap pas.length cp,.slice aw ws.length cw,.slice ac cs.length cc,.pointer (some ⟨w1.heap.size+2,0,none⟩),.iface 52 (.pointer (some ⟨r,0,none⟩)),.pointer (some ⟨r,0,none⟩)] 54)) w2.heap.size (w1.heap.size+2) w1.heap.size (w1.heap.size+1) (.pointer (some ⟨r,0,none⟩)) (.iface 52 (.pointer (some ⟨r,0,none⟩))) f (.slice ap pas.length cp) (.slice aw ws.length cw) (.slice ac cs.length cc) ((Pst.first f (pas.zip ws)).run cs (ops.take 0))):=by
      have b1:Below w1.heap.size w1 w2:=Below.step (below_drew (Below.refl _ w1)) HP3.out
      have b2:=below_new w2 (.cells #[.int .i64 f,.slice ap pas.length cp,.slice aw ws.length cw,.slice ac cs.length cc,.pointer (some ⟨w1.heap.size+2,0,none⟩),.iface 52 (.pointer (some ⟨r,0,none⟩)),.pointer (some ⟨r,0,none⟩)] 54)
      have hbW:=Below.step (Below.step HG3.out b1) b2
      have z2:=HP2.out.lt
      have z0:=HG3.out.size
      simp only [World.drew] at z2
      refine ⟨Bl.new _ _ _,HP2.out.below b2,⟨S,(HG1.out.below b1).below b2,fun b hb=> ?_⟩,?_,?_,HT.out.below hbW,hbW,fun b hb=>hb.elim⟩
      · have l1:=HG1.out.low b hb
        have l2:=HG2.out b hb
        simp at l2
        refine ⟨by omega,by omega,by omega,by omega,by omega,fun h=>h⟩
      · refine ⟨by omega,by omega,by omega⟩
      · refine ⟨by omega,by omega,by omega,by omega⟩
    clear HJ HJA HP2 HP3 HNW HAK HB1 HG1 HG2 HG3 HA
    go_wp2
    generalize w2.heap.size=x at *
    generalize w1.heap.size+2=p at *
    generalize w1.heap.size=kb at *
    generalize kb+1=jb at *
    go_loopw [7] (fun i wr=>∃k:Nat,k≤n∧i= .int .i64 k∧Hid (SgX (fun _=>False) W wr x p kb jb (.pointer (some ⟨r,0,none⟩)) (.iface 52 (.pointer (some ⟨r,0,none⟩))) f (.slice ap pas.length cp) (.slice aw ws.length cw) (.slice ac cs.length cc) ((Pst.first f (pas.zip ws)).run cs (ops.take k)))) (fun i _=>n-(intOf i).toNat)
    case atStart=>exact ⟨0,Nat.zero_le _,rfl,HX0⟩
    case round =>
      obtain ⟨k,hk,rfl,HK⟩:=hrel
      clear HX0
      by_cases hlt:k<n
      · obtain ⟨o,hq⟩:∃o,ops[k]? =some o:=⟨_,List.getElem?_eq_getElem (by rw [HLN.out]; omega)⟩
        have HST:=hidW (Pst.run_step (cs:=cs) (σ:=Pst.first f (pas.zip ws)) hq)
        obtain ⟨b,off,rfl,hb,c0,c1,c2,c3,c4,c5,c6,c7,c8⟩:=HV.out.op HK.out.bel hq
        have hok:=HO.out o (List.mem_of_getElem? hq)
        have hkz:(k:Int)<(n:Int):=by omega
        have HC:=hidW (step_any HK.out HT.out cs HSC.out.c HSC.out.oc (by have:=HSC.out.lc; omega) o hok (HCn.out k hk))
        clear hq HK hok
        go_wp2_with (first
          | (go_at_call 11; refine HC.out.mono ?_; rintro e wa ⟨rfl,hx1,_⟩; have HX1:=hidW hx1; clear hx1))
        have HX2:=HX1
        rw [←HST.out] at HX2
        clear HX1 HST HC
        go_roundw
        case rel=>exact ⟨k+1,by omega,by go_num,HX2⟩
        case measure=>simp [intOf]; omega
      · obtain rfl:k=n:=by omega
        rw [show ops.take k=ops from by rw [←HLN.out,List.take_length]] at HK
        go_wp2
        go_ret
        exact ⟨_,_,_,_,_,_,rfl,HK.out⟩
end Go.Proofs.YtnjlajjjcmhfgaaGreatDoor
namespace Go.Proofs.YtnjlajjjcmhfgaaGreatDoor
open Go.RowKit
open Mm (Turn gr RM valV errV Byts setV RowAt)
set_option linter.unusedVariables false
set_option linter.unusedSimpArgs false
def mE:Nat→Int:=putM 16 (putM 16 (putM 16 (fun _=>0) 16384 20513) 16388 1051662) 20484 30782
def mF:Nat→Int:=putM 16 mE 20484 0
def ME:Mo:=ramMo 16 mE
def MF:Mo:=ramMo 16 mF
def cE:Ctx:=⟨true,false,false,2,false,false,16384,131072,5,0,0,7⟩
def exS:Tra:=⟨1,4096,28672,1,3,6,true,false⟩
def exG:Tra:=⟨3,1048576,1048576,0,3,6,false,false⟩
def bS:Blo:=⟨7,exS⟩
def bG:Blo:=⟨-1,exG⟩
theorem cE_ok:cE.Ok:=⟨by decide,by decide,by decide,by decide⟩
theorem mE_wd {a:Int} (h0:0≤a) (h1:a≠16384) (h2:a≠16388) (h3:a≠20484):ME.wd a=0:=by
  unfold ME mE
  rw [putM_other (by decide) h0 (fun e=>h3 e.symm),putM_other (by decide) h0 (fun e=>h2 e.symm),putM_other (by decide) h0 (fun e=>h1 e.symm)]
  exact zero_wd _ _
theorem wdE0:ME.wd 16384=20513:=by kernel_rfl
theorem wdE1:ME.wd 16388=1051662:=by kernel_rfl
theorem wdE2:ME.wd 20484=30782:=by kernel_rfl
theorem exS_wk:wk ME cE 4096=(exS,fZ):=by kernel_rfl
theorem exG_wk:wk ME cE 1048576=(exG,fZ):=by kernel_rfl
theorem ex_wk {va:Int} {t:Tra} (hv:0≤va∧va<4294967296) (h:wk ME cE va=(t,fZ)):t=exS∨t=exG:=by
  obtain ⟨e,he,hk,hO,hs⟩:=wk_tA rfl h
  have hn:nN cE=2:=by decide
  have hf:fA cE va=if lw cE va then 16384+4*(va / 1048576) else 131072+4*(va / 1048576):=by
    unfold fA
    rw [hn]
    rfl
  have hl:lw cE va=(va / 1073741824 == 0):=by
    unfold lw
    rw [hn]
    rfl
  cases hw:lw cE va with
  | false =>
    rw [hw] at hf
    rw [hf] at he
    have:errV 16 (131072+4*(va / 1048576)) 4=0:=he
    unfold errV at this
    rw [if_neg (by omega),if_pos (by omega)] at this
    exact absurd this (by decide)
  | true =>
    rw [hw] at hf
    simp only [if_true] at hf
    rw [hw] at hl
    have hl':va / 1073741824=0:=by simpa using hl.symm
    rw [hf] at e hk hs
    by_cases i0:va / 1048576=0
    · rw [i0] at e hk hs
      have hd:(16384:Int)+4*0=16384:=rfl
      rw [hd,wdE0] at hs
      have hs:=hs (by kernel_rfl)
      left
      have hb:(D1 20513).base=20480:=by kernel_rfl
      have hdm:(D1 20513).dom=1:=by kernel_rfl
      unfold w2 at hs
      by_cases i1:va / 4096=1
      · rw [show sA (D1 20513) va=20484 from by unfold sA; rw [hb]; omega,wdE2,if_pos (by kernel_rfl),if_neg (by decide:¬(D2 30782).kind=0)] at hs
        have:=(Prod.mk.inj hs).1
        have hx:trF (D2 30782) (D1 20513).dom 4096=exS:=by kernel_rfl
        rw [←this,tr_page (vb:=4096) (by omega)]
        exact hx
      · exfalso
        have hz:ME.wd (sA (D1 20513) va)=0:=by
          refine mE_wd ?_ ?_ ?_ ?_ <;>(unfold sA; rw [hb]; omega)
        rw [hz,if_pos (by decide:(D2 0).kind=0)] at hs
        split at hs
        · have:=(Prod.mk.inj hs).2
          rw [show fZ=⟨0,0,0⟩ from rfl,Fa.mk.injEq] at this
          exact absurd this.1 (by decide)
        · have:=(Prod.mk.inj hs).2
          rw [show fZ=⟨0,0,0⟩ from rfl,Fa.mk.injEq] at this
          exact absurd this.1 (by decide)
    · by_cases i1:va / 1048576=1
      · right
        rw [i1] at e
        rw [e]
        have hd:(16384:Int)+4*1=16388:=rfl
        rw [hd]
        unfold tA
        rw [wdE1,if_neg (by decide:¬(D1 1051662).kind=1)]
        have q1:byN (szK (D1 1051662).kind)=1048576:=by kernel_rfl
        have hx:trF (D1 1051662) 0 1048576=exG:=by kernel_rfl
        rw [←hx]
        unfold trF
        rw [q1,i1]
        rfl
      · exfalso
        have hz:ME.wd (16384+4*(va / 1048576))=0:=by
          refine mE_wd ?_ ?_ ?_ ?_ <;>omega
        rw [hz] at hk
        exact hk (by decide)
theorem ex_blL (t:Tra):t∈blL ME cE↔t=exS∨t=exG:=by
  rw [mem_blL rfl]
  constructor
  · rintro ⟨va,hv,h⟩
    exact ex_wk hv h
  · rintro (rfl|rfl)
    · exact ⟨4096,by decide,exS_wk⟩
    · exact ⟨1048576,by decide,exG_wk⟩
def KE:List Blo:=[bG,bS]
theorem KE_ri:Ri KE:=by
  refine List.pairwise_cons.2 ⟨?_,List.pairwise_cons.2 ⟨fun _ h=>(by cases h),.nil⟩⟩
  intro b hb
  rcases List.mem_singleton.1 hb with rfl
  decide
theorem ex_seK:seK ME cE []=KE:=by
  refine rising_unique ltB_irrefl ltB_trans _ _ (seL_ri .nil) KE_ri (fun b=> ?_)
  unfold seK
  rw [mem_seL]
  constructor
  · rintro (h|⟨t,ht,rfl⟩)
    · cases h
    · rcases (ex_blL t).1 ht with rfl|rfl
      · exact .tail _ (.head _)
      · exact .head _
  · intro h
    rcases List.mem_cons.1 h with rfl|h
    · exact .inr ⟨exG,(ex_blL _).2 (.inr rfl),by kernel_rfl⟩
    · rcases List.mem_singleton.1 h with rfl
      exact .inr ⟨exS,(ex_blL _).2 (.inl rfl),by kernel_rfl⟩
def JE:Jud:=setJ (fun _=>none) 7 cE
theorem JE_7:JE 7=some cE:=rfl
theorem JE_8:JE 8=none:=by unfold JE setJ; rw [if_neg (by decide)]
theorem JE_ok:JOk JE:=JOk.set (J:=fun _=>none) (fun a c h=>by cases h) (c:=cE) (by decide) rfl cE_ok
theorem ex_diF (M:Mo) (a:Int) (b:Blo):diF M JE a b=(decide (a=7) && (hoF b 7 && !smF M cE b.t)):=by
  unfold diF
  by_cases h:a=7
  · subst h
    rw [JE_7]
    simp
  · have:JE a=none:=by unfold JE setJ; rw [if_neg h]
    rw [this]
    simp [h]
theorem diL_eq {M:Mo} {K:List Blo} {L:List Dir} (hK:Ri K) (hL:L.Pairwise fun a b=>ltD a b=true) (h:∀d:Dir,d∈L↔d.b∈K∧diF M JE d.asid d.b=true):diL M K JE=L :=
  rising_unique ltD_irrefl ltD_trans _ _ (diL_rising hK) hL (fun d=>by rw [mem_diL JE_ok,h])
theorem smE_S:smF ME cE exS=true:=by kernel_rfl
theorem smE_G:smF ME cE exG=true:=by kernel_rfl
theorem smF_S:smF MF cE exS=false:=by kernel_rfl
theorem smF_G:smF MF cE exG=true:=by kernel_rfl
theorem ex_di1:diL ME KE JE=[]:=by
  refine diL_eq KE_ri .nil (fun d=>⟨fun h=>(by cases h),?_⟩)
  rintro ⟨h1,h2⟩
  rw [ex_diF] at h2
  rcases List.mem_cons.1 h1 with h|h
  · rw [h] at h2
    rw [show bG.t=exG from rfl,smE_G] at h2
    simp at h2
  · rw [List.mem_singleton.1 h] at h2
    rw [show bS.t=exS from rfl,smE_S] at h2
    simp at h2
theorem ex_di2:diL MF KE JE=[⟨7,bS⟩]:=by
  refine diL_eq KE_ri (List.pairwise_singleton _ _) (fun d=>⟨fun h=> ?_,?_⟩)
  · rw [List.mem_singleton.1 h]
    refine ⟨.tail _ (.head _),?_⟩
    rw [ex_diF,show bS.t=exS from rfl,smF_S]
    rfl
  · rintro ⟨h1,h2⟩
    rw [ex_diF] at h2
    rcases List.mem_cons.1 h1 with h|h
    · rw [h] at h2
      rw [show bG.t=exG from rfl,smF_G] at h2
      simp at h2
    · obtain ⟨a,b⟩:=d
      dsimp only at h2 h
      rw [List.mem_singleton.1 h] at *
      have:a=7:=by
        by_cases e:a=7
        · exact e
        · simp [e] at h2
      rw [this]
      exact .head _
theorem ex_di3:diL MF [bG] JE=[]:=by
  refine diL_eq (List.pairwise_singleton _ _) .nil (fun d=>⟨fun h=>(by cases h),?_⟩)
  rintro ⟨h1,h2⟩
  rw [ex_diF] at h2
  rw [List.mem_singleton.1 h1] at h2
  rw [show bG.t=exG from rfl,smF_G] at h2
  simp at h2
theorem ex_st1:KE.any (stB (wk ME cE 4096).1 7 4096)=false:=by kernel_rfl
theorem ex_st2:KE.any (stB (wk MF cE 8191).1 7 8191)=true:=by kernel_rfl
theorem ex_drK:drK ⟨2,4096,7⟩ KE=[bG]:=by kernel_rfl
theorem ex_cnt:KE.countP (tkF ⟨2,4096,7⟩)=1:=by kernel_rfl
end Go.Proofs.YtnjlajjjcmhfgaaGreatDoor
namespace Go.Proofs.YtnjlajjjcmhfgaaGreatDoor
open Go.RowKit
open Mm (Turn gr RM valV errV Byts setV RowAt)
set_option linter.unusedVariables false
set_option linter.unusedSimpArgs false
attribute [local go_sem] Oper.semAt_some
structure TkX (G:Nat→Prop) (W w:World) (p kb jb:Nat) (wv iv:Value) (σ:Pst):Prop where
  pk:PK w p kb jb σ.K σ.J
  mem:∃S,MemW w S wv iv σ.mem∧∀b,S b→b≠kb∧b≠jb∧b≠p∧W.heap.size≤b∧¬G b
  new:W.heap.size≤p∧W.heap.size≤kb∧W.heap.size≤jb
  ts:TS w
  bel:Below W.heap.size W w
  gl:∀b,G b→b<w.heap.size∧b≠kb∧b≠jb
section
variable {G G':Nat→Prop} {W w w':World} {p kb jb:Nat} {wv iv:Value} {σ:Pst}
theorem TkX.more (h:TkX G W w p kb jb wv iv σ) (hb:Below w.heap.size w w') (hG:∀b,G' b→G b∨(w.heap.size≤b∧b<w'.heap.size)):TkX G' W w' p kb jb wv iv σ:=by
  obtain ⟨S,h1,h2⟩:=h.mem
  have hlt:=h.pk.lt
  refine ⟨h.pk.below hb,⟨S,h1.below hb,fun b hs=> ?_⟩,h.new,h.ts.below hb,Below.step h.bel hb,fun b hg=> ?_⟩
  · obtain ⟨g1,g2,g3,g5,g6⟩:=h2 b hs
    refine ⟨g1,g2,g3,g5,fun hg=> ?_⟩
    rcases hG b hg with hg|hg
    · exact g6 hg
    · have:=h1.low b hs; omega
  · rcases hG b hg with hg|hg
    · obtain ⟨g1,g2,g3⟩:=h.gl b hg
      exact ⟨Nat.lt_of_lt_of_le g1 hb.size,g2,g3⟩
    · exact ⟨hg.2,by omega,by omega⟩
theorem TkX.below (h:TkX G W w p kb jb wv iv σ) (hb:Below w.heap.size w w'):TkX G W w' p kb jb wv iv σ:=h.more hb (fun b hb=> .inl hb)
theorem TkX.track (h:TkX G W w p kb jb wv iv σ) (T:Turn (fun b=>b=kb∨b=jb) w w') (ht:TS w') {τ:Pst} (hk:PK w' p kb jb τ.K τ.J) (he:τ.mem=σ.mem) :
    TkX G W w' p kb jb wv iv τ∧∀b,G b→w'.heap[b]? =w.heap[b]? :=by
  obtain ⟨S,h1,h2⟩:=h.mem
  refine ⟨⟨hk,⟨S,?_,h2⟩,h.new,ht,h.bel.trans (T.to (fun b hb=> ?_) h.bel.size),fun b hb=>⟨Nat.lt_of_lt_of_le (h.gl b hb).1 T.size,(h.gl b hb).2⟩⟩,fun b hb=>T.block b (h.gl b hb).1 (fun hh=>hh.elim (h.gl b hb).2.1 (h.gl b hb).2.2)⟩
  · rw [he]
    exact h1.keep T (fun b hb hh=>hh.elim (h2 b hb).1 (h2 b hb).2.1)
  · rcases hb with rfl|rfl
    · exact h.new.2.1
    · exact h.new.2.2
theorem TkX.see (h:TkX G W w p kb jb wv iv σ) (c:Ctx) (hc:c.Ok) (hl:σ.K.length≤2305843009213693952) :
    Calls Tryz.prog 22 #[.pointer (some ⟨p,0,none⟩),iv,.agg #[.bool c.on,.bool c.tre,.bool c.afe,.int .i64 c.n,.bool c.pd0,.bool c.pd1,.int .u64 c.b0,.int .u64 c.b1,.int .u32 c.dacr,.int .u32 c.prrr,.int .u32 c.nmrr,.int .i64 c.asid]] w fun e w'=>e= .returned (.int .i64 (if seO c=true∨c.on=false then 0 else 1))∧TkX G W w' p kb jb wv iv (σ.see c)∧∀b,G b→w'.heap[b]? =w.heap[b]? :=by
  obtain ⟨S,h1,h2⟩:=h.mem
  refine (see_any w p kb jb σ h.pk S wv iv h1 (fun b hb=>(h2 b hb).1) h.ts c hc hl).mono ?_
  rintro e w' ⟨rfl,g1,g2,g3⟩
  exact ⟨rfl,h.track g2 g3 g1 (by unfold Pst.see; split <;>rfl)⟩
theorem TkX.drop (h:TkX G W w p kb jb wv iv σ) (d:Dro) (hd:0≤d.va∧d.va<4294967296) (hl:σ.K.length≤4611686018427387904) :
    Calls Tryz.prog 25 #[.pointer (some ⟨p,0,none⟩),.agg #[.int .i64 d.kind,.int .u32 d.va,.int .i64 d.asid]] w fun e w'=>e= .returned (.int .i64 (σ.K.countP (tkF d)))∧TkX G W w' p kb jb wv iv ⟨drK d σ.K,σ.J,σ.mem⟩∧∀b,G b→w'.heap[b]? =w.heap[b]? :=by
  refine (drop_any w p kb jb σ.K σ.J d h.pk h.ts.r hd hl).mono ?_
  rintro e w' ⟨rfl,g1,g2,g3⟩
  have T:Turn (fun b=>b=kb∨b=jb) w w':=g2.mono (fun b _ hb=> .inl hb)
  exact ⟨rfl,h.track (τ:=⟨drK d σ.K,σ.J,σ.mem⟩) T (h.ts.turnM g2 (fun b hb _=>by subst hb; exact h.pk.km.nt)) g1 rfl⟩
theorem TkX.put (h:TkX G W w p kb jb wv iv σ) (pa v:Int) (hp:0≤pa∧pa<18446744073709551616) (hv:0≤v∧v<4294967296) (hW:TS W) :
    Calls Tryz.prog 43 #[wv,.int .u64 pa,.int .u32 v] w fun e w'=>e= .returned (.tuple #[])∧TkX G W w' p kb jb wv iv ⟨σ.K,σ.J,σ.mem.put pa v⟩∧∀b,G b→w'.heap[b]? =w.heap[b]? :=by
  obtain ⟨S,h1,h2⟩:=h.mem
  refine (written_any w S wv iv σ.mem h1 pa v hp hv).mono ?_
  rintro e w' ⟨rfl,⟨S',g1,g2⟩,g3⟩
  have hb:Below W.heap.size W w':=h.bel.trans (g3.to (fun b hb=>(h2 b hb).2.2.2.1) h.bel.size)
  have hlt:=h.pk.lt
  refine ⟨rfl,⟨h.pk.turn g3 (fun hh=>(h2 _ hh).2.2.1 rfl) (fun hh=>(h2 _ hh).1 rfl) (fun hh=>(h2 _ hh).2.1 rfl),⟨S',g1,fun b hb=> ?_⟩,h.new,hW.below hb,hb,fun b hb=>⟨Nat.lt_of_lt_of_le (h.gl b hb).1 g3.size,(h.gl b hb).2⟩⟩,fun b hb=>g3.block b (h.gl b hb).1 (fun hh=>(h2 _ hh).2.2.2.2 hb)⟩
  rcases g2 b hb with hb|hb
  · exact h2 b hb
  · have:=h.bel.size
    exact ⟨by omega,by omega,by omega,by omega,fun hg=>by have:=(h.gl b hg).1; omega⟩
end
section
variable {G:Nat→Prop} {W w w':World} {x p kb jb:Nat} {wv iv:Value} {f:Int} {vp vw vc:Value} {σ:Pst}
theorem SgX.tk (h:SgX G W w x p kb jb wv iv f vp vw vc σ):TkX (fun b=>G b∨b=x) W w p kb jb wv iv σ:=by
  obtain ⟨S,h1,h2⟩:=h.mem
  refine ⟨h.pk,⟨S,h1,fun b hb=> ?_⟩,h.new.2,h.ts,h.bel,fun b hb=> ?_⟩
  · obtain ⟨g1,g2,g3,g4,g5,g6⟩:=h2 b hb
    exact ⟨g1,g2,g3,g5,fun hh=>hh.elim g6 g4⟩
  · rcases hb with hb|rfl
    · exact h.gl b hb
    · exact ⟨h.box.lt,h.nx.1,h.nx.2.1⟩
theorem TkX.known (h:TkX G W w p kb jb wv iv σ) (hl:σ.K.length*56≤140737488355328) :
    Calls Tryz.prog 20 #[.pointer (some ⟨p,0,none⟩)] w fun e w'=>∃v,e= .returned v∧LtG encB 45 w' w.heap.size v σ.K∧Below w.heap.size w w':=by
  refine (known_any w p kb jb σ.K σ.J h.pk hl).mono ?_
  rintro e w' ⟨v,rfl,h1,h2⟩
  exact ⟨v,rfl,h1,h2⟩
theorem TkX.dirty (h:TkX G W w p kb jb wv iv σ) (hl:(diL σ.mem.mo σ.K σ.J).length*64≤140737488355328) :
    Calls Tryz.prog 13 #[.pointer (some ⟨p,0,none⟩),iv] w fun e w'=>∃v,e= .returned v∧LtG encD 74 w' w.heap.size v (diL σ.mem.mo σ.K σ.J)∧Below w.heap.size w w':=by
  obtain ⟨S,h1,h2⟩:=h.mem
  refine (dirty_any w p kb jb σ.K σ.J h.pk S iv σ.mem.mo h1.mem h.ts hl).mono ?_
  rintro e w' ⟨v,rfl,h1,h2⟩
  exact ⟨v,rfl,h1,h2⟩
theorem TkX.stale (h:TkX G W w p kb jb wv iv σ) (asid va:Int) (ha: -9223372036854775808≤asid∧asid≤9223372036854775807) (hv:0≤va∧va<4294967296) :
    Calls Tryz.prog 30 #[.pointer (some ⟨p,0,none⟩),iv,.int .i64 asid,.int .u32 va] w fun e w'=>e= .returned (.bool (stF σ.mem.mo σ.K σ.J asid va))∧Below w.heap.size w w':=by
  obtain ⟨S,h1,h2⟩:=h.mem
  cases hj:σ.J asid with
  | none=>rw [stF_none hj]; exact stale_none w p kb jb σ.K σ.J h.pk iv asid va ha hj
  | some c=>rw [stF_some hj]; exact stale_some w p kb jb σ.K σ.J h.pk S iv σ.mem.mo h1.mem h.ts asid va ha hv c hj
end
end Go.Proofs.YtnjlajjjcmhfgaaGreatDoor
namespace Go.Proofs.YtnjlajjjcmhfgaaGreatDoor
open Go.RowKit
open Mm (Turn gr RM valV errV Byts setV RowAt)
set_option linter.unusedVariables false
set_option linter.unusedSimpArgs false
attribute [local go_sem] Oper.semAt_some
structure ExX (W wr:World) (bx r:Nat) (l:List Value) (m:Nat→Int):Prop where
  mem:∃S,RM wr S r 16 m∧∀b,S b→bx<b
  box:Bl wr bx 47 l
  bel:Below W.heap.size W wr
  hx:W.heap.size≤bx
theorem ExX.put {W wr:World} {bx r:Nat} {l:List Value} {m:Nat→Int} (h:ExX W wr bx r l m) (pa v:Int) (hp:0≤pa∧pa<18446744073709551616) (hv:0≤v∧v<4294967296) :
    Calls Tryz.prog 43 #[.pointer (some ⟨r,0,none⟩),.int .u64 pa,.int .u32 v] wr fun x w'=>x= .returned (.tuple #[])∧ExX W w' bx r l (putM 16 m (pa-pa%4) v):=by
  obtain ⟨⟨S,h1,h2⟩,h3,h4,h5⟩:=h
  refine (written_some wr S r 16 m pa v h1 hp hv).mono ?_
  rintro x w' ⟨rfl,h6,h7⟩
  refine ⟨rfl,⟨_,h6,?_⟩,h3.turn h7 (fun hh=>by have:=h2 _ hh; omega),h4.trans (h7.to (fun x hx=>by have:=h2 x hx; omega) h4.size),h5⟩
  rintro b (hb|⟨hb,_⟩)
  · exact h2 b hb
  · have:=h3.lt; omega
set_option maxRecDepth 100000 in
set_option maxHeartbeats 8000000 in
theorem example_any (W:World) :
    Calls Tryz.prog 42 #[] W fun e w'=>∃r S,e= .returned (.tuple #[.pointer (some ⟨r,0,none⟩),.agg #[.bool cE.on,.bool cE.tre,.bool cE.afe,.int .i64 cE.n,.bool cE.pd0,.bool cE.pd1,.int .u64 cE.b0,.int .u64 cE.b1,.int .u32 cE.dacr,.int .u32 cE.prrr,.int .u32 cE.nmrr,.int .i64 cE.asid]])∧RM w' S r 16 mE∧(∀b,S b→W.heap.size≤b)∧Below W.heap.size W w':=by
  have hb0:=below_new W (.cells ([.bool cZ.on,.bool cZ.tre,.bool cZ.afe,.int .i64 cZ.n,.bool cZ.pd0,.bool cZ.pd1,.int .u64 cZ.b0,.int .u64 cZ.b1,.int .u32 cZ.dacr,.int .u32 cZ.prrr,.int .u32 cZ.nmrr,.int .i64 cZ.asid]).toArray 47)
  have HB0:=hidW hb0
  clear hb0
  have hE:mE=putM 16 (putM 16 (putM 16 (fun _=>0) (16384-16384%4) 20513) (16388-16388%4) 1051662) (20484-20484%4) 30782:=rfl
  rw [hE]
  simp only [cZ] at HB0
  simp only [cE]
  clear hE
  go_enter Tryz.func42,Tryz.ntmps42
  go_wp2_with fail
  go_at_call 74
  refine (Mm.rnew_any _ 16 (by omega) (by omega)).mono ?_
  rintro e w1 ⟨rfl,g1,T1⟩
  have HX:Hid (ExX W w1 W.heap.size (W.heap.size+1) ([.bool cZ.on,.bool cZ.tre,.bool cZ.afe,.int .i64 cZ.n,.bool cZ.pd0,.bool cZ.pd1,.int .u64 cZ.b0,.int .u64 cZ.b1,.int .u32 cZ.dacr,.int .u32 cZ.prrr,.int .u32 cZ.nmrr,.int .i64 cZ.asid]) (fun _=>0)):=by
    have hz:(W.alloc (.cells ([.bool cZ.on,.bool cZ.tre,.bool cZ.afe,.int .i64 cZ.n,.bool cZ.pd0,.bool cZ.pd1,.int .u64 cZ.b0,.int .u64 cZ.b1,.int .u32 cZ.dacr,.int .u32 cZ.prrr,.int .u32 cZ.nmrr,.int .i64 cZ.asid]).toArray 47)).heap.size=W.heap.size+1:=by simp
    refine ⟨⟨_,hz▸g1,?_⟩,(Bl.new W 47 ([.bool cZ.on,.bool cZ.tre,.bool cZ.afe,.int .i64 cZ.n,.bool cZ.pd0,.bool cZ.pd1,.int .u64 cZ.b0,.int .u64 cZ.b1,.int .u32 cZ.dacr,.int .u32 cZ.prrr,.int .u32 cZ.nmrr,.int .i64 cZ.asid])).turn T1 (fun h=>h),Below.step HB0.out (T1.to (fun _ h=>h.elim) (Nat.le_refl _)),Nat.le_refl _⟩
    rintro b (hb|⟨hb,_⟩)
    · exact hb.elim
    · simp at hb; omega
  clear g1 T1 HB0
  have HC:=hidW (HX.out.put 16384 20513 (by decide) (by decide))
  clear HX
  go_wp2_with fail
  go_at_call 43
  refine HC.out.mono ?_
  rintro e w2 ⟨rfl,hx⟩
  have HC:=hidW (hx.put 16388 1051662 (by decide) (by decide))
  clear hx
  go_wp2_with fail
  go_at_call 43
  refine HC.out.mono ?_
  rintro e w3 ⟨rfl,hx⟩
  have HC:=hidW (hx.put 20484 30782 (by decide) (by decide))
  clear hx
  go_wp2_with fail
  go_at_call 43
  refine HC.out.mono ?_
  rintro e w4 ⟨rfl,hx⟩
  have HX:=hidW hx
  have f0:=hx.box.frozen 0
  have f1:=hx.box.frozen 1
  have f2:=hx.box.frozen 2
  have f3:=hx.box.frozen 3
  have f4:=hx.box.frozen 4
  have f5:=hx.box.frozen 5
  have f6:=hx.box.frozen 6
  have f7:=hx.box.frozen 7
  have f8:=hx.box.frozen 8
  have f9:=hx.box.frozen 9
  have f10:=hx.box.frozen 10
  have f11:=hx.box.frozen 11
  have c0:w4.cell? ⟨W.heap.size,0,none⟩=some (.bool false):=hx.box.cell 0
  have c1:w4.cell? ⟨W.heap.size,1,none⟩=some (.bool false):=hx.box.cell 1
  have c2:w4.cell? ⟨W.heap.size,2,none⟩=some (.bool false):=hx.box.cell 2
  have c3:w4.cell? ⟨W.heap.size,3,none⟩=some (.int .i64 0):=hx.box.cell 3
  have c4:w4.cell? ⟨W.heap.size,4,none⟩=some (.bool false):=hx.box.cell 4
  have c5:w4.cell? ⟨W.heap.size,5,none⟩=some (.bool false):=hx.box.cell 5
  have c6:w4.cell? ⟨W.heap.size,6,none⟩=some (.int .u64 0):=hx.box.cell 6
  have c7:w4.cell? ⟨W.heap.size,7,none⟩=some (.int .u64 0):=hx.box.cell 7
  have c8:w4.cell? ⟨W.heap.size,8,none⟩=some (.int .u32 0):=hx.box.cell 8
  have c9:w4.cell? ⟨W.heap.size,9,none⟩=some (.int .u32 0):=hx.box.cell 9
  have c10:w4.cell? ⟨W.heap.size,10,none⟩=some (.int .u32 0):=hx.box.cell 10
  have c11:w4.cell? ⟨W.heap.size,11,none⟩=some (.int .i64 0):=hx.box.cell 11
  clear HC hx
  go_wp2
  obtain ⟨⟨S,h1,h2⟩,h3,h4,h5⟩:=HX.out
  refine bodyPost_ret (by simp [results,Tryz.results42,go_sem,c0,c1,c2,c3,c4,c5,c6,c7,c8,c9,c10,c11]) rfl ⟨_,S,rfl,h1.keep (S':=fun x=>x=W.heap.size) ?_ (fun b hb e=>by have:=h2 b hb; omega),fun b hb=>Nat.le_of_lt (h2 b hb),?_⟩
  · iterate 12 refine Turn.setCell ?_ (by exact .inl rfl) _
    exact Turn.refl _ _
  · iterate 12 refine Below.setCell ?_ (by exact Nat.le_refl _) _
    exact h4
end Go.Proofs.YtnjlajjjcmhfgaaGreatDoor
namespace Go.Proofs.YtnjlajjjcmhfgaaGreatDoor
open Go.RowKit
open Mm (Turn gr RM valV errV Byts setV RowAt)
set_option linter.unusedVariables false
set_option linter.unusedSimpArgs false
attribute [local go_sem] Oper.semAt_some
theorem Sli.dir {W w:World} {a:Option Addr} {n cap:Nat} {l:List Dir} (h:Sli encD 10 W (.slice a n cap) l) (hb:Below W.heap.size W w) {k:Nat} {o:Dir} (hc:l[k]? =some o) :
    ∃b off,a=some ⟨b,off,none⟩∧b<W.heap.size∧w.cell? ⟨b,off+k*10,none⟩=some (.int .i64 o.asid)∧w.cell? ⟨b,off+k*10+1,none⟩=some (.int .i64 o.b.asid)∧w.cell? ⟨b,off+k*10+2,none⟩=some (.int .i64 o.b.t.size)∧w.cell? ⟨b,off+k*10+3,none⟩=some (.int .u32 o.b.t.va)∧w.cell? ⟨b,off+k*10+4,none⟩=some (.int .u64 o.b.t.pa)∧w.cell? ⟨b,off+k*10+5,none⟩=some (.int .i64 o.b.t.dom)∧w.cell? ⟨b,off+k*10+6,none⟩=some (.int .i64 o.b.t.ap)∧w.cell? ⟨b,off+k*10+7,none⟩=some (.int .u32 o.b.t.bits)∧w.cell? ⟨b,off+k*10+8,none⟩=some (.bool o.b.t.ng)∧w.cell? ⟨b,off+k*10+9,none⟩=some (.bool o.b.t.xn):=by
  obtain ⟨a',cap',e,h⟩:=h
  cases e
  obtain ⟨b,off,ha,hlt,hh⟩:=h k o hc
  have e:∀j v,(encD o)[j]? =some v→w.cell? ⟨b,off+k*10+j,none⟩=some v:=fun j v hv=>(hb.cell (p:=⟨b,off+k*10+j,none⟩) hlt).trans (hh j v hv)
  exact ⟨b,off,ha,hlt,e 0 _ rfl,e 1 _ rfl,e 2 _ rfl,e 3 _ rfl,e 4 _ rfl,e 5 _ rfl,e 6 _ rfl,e 7 _ rfl,e 8 _ rfl,e 9 _ rfl⟩
end Go.Proofs.YtnjlajjjcmhfgaaGreatDoor
