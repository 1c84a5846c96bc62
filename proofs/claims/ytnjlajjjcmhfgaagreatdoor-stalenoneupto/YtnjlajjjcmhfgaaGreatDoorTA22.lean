import Derived.Test.YtnjlajjjcmhfgaaGreatDoorTA21
namespace Go.Proofs.YtnjlajjjcmhfgaaGreatDoor
open Go.RowKit Go.Sort Go.Shelf Go.Lib
open Mm (Turn gr RowAt)
set_option linter.unusedVariables false
set_option linter.unusedSimpArgs false
def stB (U:Tra) (asid va:Int) (b:Blo):Bool:= !(b.t.same U) && ovF b va asid
theorem stF_some {M:Mo} {K:List Blo} {J:Jud} {asid va:Int} {c:Ctx} (h:J asid=some c):stF M K J asid va=K.any (stB (wk M c va).1 asid va):=by
  unfold stF
  rw [h]
  rfl
theorem stF_none {M:Mo} {K:List Blo} {J:Jud} {asid va:Int} (h:J asid=none):stF M K J asid va=false:=by
  unfold stF
  rw [h]
structure SX (W wr:World) (kb r bf:Nat) (K T:List Blo) (U:Tra) (asid va:Int):Prop where
  bel:Below W.heap.size W wr
  kr:KR wr kb r K T
  bf:Bl wr bf 43 ([.int .i64 U.size,.int .u32 U.va,.int .u64 U.pa,.int .i64 U.dom,.int .i64 U.ap,.int .u32 U.bits,.bool U.ng,.bool U.xn])
  tr:TR wr
  sub:∀b∈T,b∈K
  no:∀b∈K,b∉T→stB U asid va b=false
section
variable {W wr w':World} {kb r bf:Nat} {K T:List Blo} {U:Tra} {asid va:Int}
theorem SX.below (h:SX W wr kb r bf K T U asid va) (hb:Below wr.heap.size wr w'):SX W w' kb r bf K T U asid va :=
  ⟨Below.step h.bel hb,h.kr.turn (X:=fun _=>False) (Turn.below hb) (fun h=>h) (fun h=>h),h.bf.below hb,h.tr.below hb,h.sub,h.no⟩
theorem SX.next {b:Blo} (h:SX W wr kb r bf K T U asid va) (hr:W.heap.size≤r) (hg:wr.grownBy w' (some r)) (hk:KR w' kb r K (rm T b)) (hq:stB U asid va b=false):SX W w' kb r bf K (rm T b) U asid va:=by
  have T1:Turn (· =r) wr w':=Turn.grown hg (fun k e=>by cases e; exact .inl rfl)
  refine ⟨h.bel.trans (T1.to (fun x hx=>by subst hx; exact hr) h.bel.size),hk,h.bf.turn T1 (Bl.nr h.kr h.bf),h.tr.turnM T1 (fun x hx _=>by subst hx; exact h.kr.nt.1),fun x hx=>h.sub x (mem_rm.1 hx).1,fun x hx hn=> ?_⟩
  by_cases e:x=b
  · subst e; exact hq
  · exact h.no x hx (fun hT=>hn (mem_rm.2 ⟨hT,e⟩))
end
set_option maxRecDepth 100000 in
set_option maxHeartbeats 4000000 in
theorem stale_none (W:World) (p kb jb:Nat) (K:List Blo) (J:Jud) (h:PK W p kb jb K J) (iv:Value) (asid va:Int) (ha: -9223372036854775808≤asid∧asid≤9223372036854775807) (hJ:J asid=none) :
    Calls Tryz.prog 30 #[.pointer (some ⟨p,0,none⟩),iv,.int .i64 asid,.int .u32 va] W fun e w'=>e= .returned (.bool false)∧Below W.heap.size W w':=by
  have c1:=h.c1
  have hlk:=h.jm.look ha.1 ha.2
  rw [hJ,jd_none hJ] at hlk
  simp only [Option.isSome_none] at hlk
  have HB:=hidW (below_new W (.cells ([.bool cZ.on,.bool cZ.tre,.bool cZ.afe,.int .i64 cZ.n,.bool cZ.pd0,.bool cZ.pd1,.int .u64 cZ.b0,.int .u64 cZ.b1,.int .u32 cZ.dacr,.int .u32 cZ.prrr,.int .u32 cZ.nmrr,.int .i64 cZ.asid]).toArray 47))
  clear h hJ
  generalize cZ=z at *
  go_enter Tryz.func30,Tryz.ntmps30
  go_wp2
  go_ret
  exact ⟨rfl,HB.out⟩
set_option maxRecDepth 100000 in
set_option maxHeartbeats 8000000 in
theorem stale_some (W:World) (p kb jb:Nat) (K:List Blo) (J:Jud) (h:PK W p kb jb K J) (S:Nat→Prop) (iv:Value) (M:Mo) (hm:MemP W S iv M) (ht:TS W) (asid va:Int) (ha: -9223372036854775808≤asid∧asid≤9223372036854775807) (hv:0≤va∧va<4294967296) (c:Ctx) (hJ:J asid=some c) :
    Calls Tryz.prog 30 #[.pointer (some ⟨p,0,none⟩),iv,.int .i64 asid,.int .u32 va] W fun e w'=>e= .returned (.bool (K.any (stB (wk M c va).1 asid va)))∧Below W.heap.size W w':=by
  have c1:=h.c1
  have hlk:=h.jm.look ha.1 ha.2
  rw [hJ,jd_some hJ] at hlk
  simp only [Option.isSome_some] at hlk
  have hc:=(h.ok.j _ _ hJ).2.2.1
  have hb0:=below_new W (.cells ([.bool c.on,.bool c.tre,.bool c.afe,.int .i64 c.n,.bool c.pd0,.bool c.pd1,.int .u64 c.b0,.int .u64 c.b1,.int .u32 c.dacr,.int .u32 c.prrr,.int .u32 c.nmrr,.int .i64 c.asid]).toArray 47)
  have HW:=hidW (walk_pure c va _ (hm.below hb0) (ht.below hb0).tw hc hv)
  have HP:=hidW (h.below hb0)
  have HT:=hidW (ht.below hb0)
  have HB:=hidW hb0
  have cC:=(Bl.new W 47 ([.bool c.on,.bool c.tre,.bool c.afe,.int .i64 c.n,.bool c.pd0,.bool c.pd1,.int .u64 c.b0,.int .u64 c.b1,.int .u32 c.dacr,.int .u32 c.prrr,.int .u32 c.nmrr,.int .i64 c.asid])).cell
  have HO:=hidW h.ok
  clear h hJ hc hm ht hb0
  generalize (wk M c va).1=U at *
  generalize (wk M c va).2=F at *
  go_enter Tryz.func30,Tryz.ntmps30
  go_wp2_with fail
  go_at_call 32
  refine HW.out.mono ?_
  rintro e w1 ⟨rfl,hb1⟩
  have hb2:Below (W.alloc (.cells ([.bool c.on,.bool c.tre,.bool c.afe,.int .i64 c.n,.bool c.pd0,.bool c.pd1,.int .u64 c.b0,.int .u64 c.b1,.int .u32 c.dacr,.int .u32 c.prrr,.int .u32 c.nmrr,.int .i64 c.asid]).toArray 47)).heap.size (W.alloc (.cells ([.bool c.on,.bool c.tre,.bool c.afe,.int .i64 c.n,.bool c.pd0,.bool c.pd1,.int .u64 c.b0,.int .u64 c.b1,.int .u32 c.dacr,.int .u32 c.prrr,.int .u32 c.nmrr,.int .i64 c.asid]).toArray 47)) ((w1.alloc (.cells ([.int .i64 U.size,.int .u32 U.va,.int .u64 U.pa,.int .i64 U.dom,.int .i64 U.ap,.int .u32 U.bits,.bool U.ng,.bool U.xn]).toArray 43)).alloc (.cells ([.int .i64 F.k,.int .i64 F.l,.int .i64 F.d]).toArray 88)):=Below.step hb1 (Below.step (below_new _ _) (below_new _ _))
  have hP2:=HP.out.below hb2
  obtain ⟨w3,hr3,hk3,hg3,hs3⟩:=hP2.km.range
  have T3:Turn (fun _=>False) ((w1.alloc (.cells ([.int .i64 U.size,.int .u32 U.va,.int .u64 U.pa,.int .i64 U.dom,.int .i64 U.ap,.int .u32 U.bits,.bool U.ng,.bool U.xn]).toArray 43)).alloc (.cells ([.int .i64 F.k,.int .i64 F.l,.int .i64 F.d]).toArray 88)) w3:=Turn.grown hg3 (fun k e=>by cases e)
  have c0:=hP2.c0
  have hBf:Bl ((w1.alloc (.cells ([.int .i64 U.size,.int .u32 U.va,.int .u64 U.pa,.int .i64 U.dom,.int .i64 U.ap,.int .u32 U.bits,.bool U.ng,.bool U.xn]).toArray 43)).alloc (.cells ([.int .i64 F.k,.int .i64 F.l,.int .i64 F.d]).toArray 88)) w1.heap.size 43 ([.int .i64 U.size,.int .u32 U.va,.int .u64 U.pa,.int .i64 U.dom,.int .i64 U.ap,.int .u32 U.bits,.bool U.ng,.bool U.xn]):=(Bl.new w1 _ _).below (below_new _ _)
  have hBW:Below W.heap.size W ((w1.alloc (.cells ([.int .i64 U.size,.int .u32 U.va,.int .u64 U.pa,.int .i64 U.dom,.int .i64 U.ap,.int .u32 U.bits,.bool U.ng,.bool U.xn]).toArray 43)).alloc (.cells ([.int .i64 F.k,.int .i64 F.l,.int .i64 F.d]).toArray 88)):=Below.step HB.out hb2
  have HX:Hid (SX W w3 kb ((w1.alloc (.cells ([.int .i64 U.size,.int .u32 U.va,.int .u64 U.pa,.int .i64 U.dom,.int .i64 U.ap,.int .u32 U.bits,.bool U.ng,.bool U.xn]).toArray 43)).alloc (.cells ([.int .i64 F.k,.int .i64 F.l,.int .i64 F.d]).toArray 88)).heap.size w1.heap.size K K U asid va) :=
    ⟨((Turn.below (S:=fun _=>False) hBW).then T3).to (fun x hx=>hx.elim) (Nat.le_refl _),hk3,hBf.turn T3 (fun h=>h),(HT.out.below hb2).r.turnM T3 (fun x hx=>hx.elim),fun b hb=>hb,fun b hb hn=>absurd hb hn⟩
  have hrW:W.heap.size≤((w1.alloc (.cells ([.int .i64 U.size,.int .u32 U.va,.int .u64 U.pa,.int .i64 U.dom,.int .i64 U.ap,.int .u32 U.bits,.bool U.ng,.bool U.xn]).toArray 43)).alloc (.cells ([.int .i64 F.k,.int .i64 F.l,.int .i64 F.d]).toArray 88)).heap.size:=hBW.size
  clear hb1 hb2 hP2 hk3 hg3 T3 hBf hBW HW HP HT HB hlk cC c1
  generalize hrr:((w1.alloc (.cells ([.int .i64 U.size,.int .u32 U.va,.int .u64 U.pa,.int .i64 U.dom,.int .i64 U.ap,.int .u32 U.bits,.bool U.ng,.bool U.xn]).toArray 43)).alloc (.cells ([.int .i64 F.k,.int .i64 F.l,.int .i64 F.d]).toArray 88)).heap.size=r at *
  go_wp2
  clear hr3 hs3 hrr c0
  generalize w1.heap.size=bf at *
  go_loopw [37] (fun _ wr=>∃(T:List Blo),Hid (SX W wr kb r bf K T U asid va)) (fun _ wr=>wr.rangeLeft kb r)
  case atStart=>exact ⟨K,HX⟩
  case round =>
    obtain ⟨T,HX1⟩:=hrel
    clear HX
    have hTo:∀x∈T,KOk x:=fun x hx=>HO.out.ok x (HX1.out.sub x hx)
    rcases HX1.out.kr.next hTo 0 with ⟨rfl,hnx⟩|⟨b,w4,hb,hnx,hk4,hg4,hs4,hen,hlt⟩
    · go_wp2
      go_ret
      have:K.any (stB U asid va)=false:=List.any_eq_false.2 (fun x hx=>by rw [HX1.out.no x hx (by simp)]; simp)
      rw [this]
      exact ⟨rfl,HX1.out.bel⟩
    · have hbo:=hTo b hb
      have hbK:=HX1.out.sub b hb
      have hbn:=below_new w4 (.cells ([.int .i64 b.asid,.int .i64 b.t.size,.int .u32 b.t.va,.int .u64 b.t.pa,.int .i64 b.t.dom,.int .i64 b.t.ap,.int .u32 b.t.bits,.bool b.t.ng,.bool b.t.xn]).toArray 45)
      have T4:Turn (· =r) wr w4:=Turn.grown hg4 (fun k e=>by cases e; exact .inl rfl)
      have hTR:TR w4:=HX1.out.tr.turnM T4 (fun x hx _=>by subst hx; exact HX1.out.kr.nt.1)
      have hBf4:Bl w4 bf 43 ([.int .i64 U.size,.int .u32 U.va,.int .u64 U.pa,.int .i64 U.dom,.int .i64 U.ap,.int .u32 U.bits,.bool U.ng,.bool U.xn]):=HX1.out.bf.turn T4 (Bl.nr HX1.out.kr HX1.out.bf)
      have hBW4:Below W.heap.size W w4:=HX1.out.bel.trans (T4.to (fun x hx=>by subst hx; exact hrW) HX1.out.bel.size)
      have HB5:Hid (Below W.heap.size W (w4.alloc (.cells ([.int .i64 b.asid,.int .i64 b.t.size,.int .u32 b.t.va,.int .u64 b.t.pa,.int .i64 b.t.dom,.int .i64 b.t.ap,.int .u32 b.t.bits,.bool b.t.ng,.bool b.t.xn]).toArray 45))):=hBW4.alloc hBW4.size _
      have HOv:=hidW (fun ww hw=>over_any b va asid ww hw hbo.ok hv)
      have HT5:=hidW (hTR.below hbn)
      have HN:Hid (stB U asid va b=false→SX W (w4.alloc (.cells ([.int .i64 b.asid,.int .i64 b.t.size,.int .u32 b.t.va,.int .u64 b.t.pa,.int .i64 b.t.dom,.int .i64 b.t.ap,.int .u32 b.t.bits,.bool b.t.ng,.bool b.t.xn]).toArray 45)) kb r bf K (rm T b) U asid va):=fun hq=>(HX1.out.next hrW hg4 hk4 hq).below hbn
      have HL:Hid ((w4.alloc (.cells ([.int .i64 b.asid,.int .i64 b.t.size,.int .u32 b.t.va,.int .u64 b.t.pa,.int .i64 b.t.dom,.int .i64 b.t.ap,.int .u32 b.t.bits,.bool b.t.ng,.bool b.t.xn]).toArray 45)).rangeLeft kb r<wr.rangeLeft kb r):=by
        have e1:(w4.alloc (.cells ([.int .i64 b.asid,.int .i64 b.t.size,.int .u32 b.t.va,.int .u64 b.t.pa,.int .i64 b.t.dom,.int .i64 b.t.ap,.int .u32 b.t.bits,.bool b.t.ng,.bool b.t.xn]).toArray 45)).rangeLeft kb r=w4.rangeLeft kb r:=turn_left (X:=fun _=>False) (Turn.below hbn) hk4.lt.2 hk4.lt.1 (fun h=>h) (fun h=>h)
        exact e1▸hlt
      have hLt:=hk4.lt
      have HY:Hid (stB U asid va b=true→K.any (stB U asid va)=true):=fun hq=>List.any_eq_true.2 ⟨b,hbK,hq⟩
      have cB:=(Bl.new w4 45 ([.int .i64 b.asid,.int .i64 b.t.size,.int .u32 b.t.va,.int .u64 b.t.pa,.int .i64 b.t.dom,.int .i64 b.t.ap,.int .u32 b.t.bits,.bool b.t.ng,.bool b.t.xn])).cell
      have cF:=(hBf4.below hbn).cell
      have hq:stB U asid va b=(!(b.t.same U) && ovF b va asid):=rfl
      have eT:=eqT b.t U
      have n1:¬bf=w4.heap.size:=by have:=hBf4.lt; omega
      have HKR:=hidW (hk4.turn (X:=fun _=>False) (Turn.below hbn) (fun h=>h) (fun h=>h))
      clear hTR hBf4 hBW4 T4 hbn HX1 hk4 hg4 hlt hTo hb hs4 hbK hbo hLt
      generalize b.t.same U=sb at *
      cases sb
      · generalize ovF b va asid=ob at *
        go_wp2_with fail
        go_at_call 34
        refine (HOv.out _ HT5.out).mono ?_
        rintro e w6 ⟨rfl,hb6⟩
        have HB6:=hidW (Below.step HB5.out hb6)
        have HN6:Hid (stB U asid va b=false→SX W w6 kb r bf K (rm T b) U asid va):=fun hq=>(HN.out hq).below hb6
        have HL6:Hid (w6.rangeLeft kb r<wr.rangeLeft kb r):=by
          have e1:w6.rangeLeft kb r=(w4.alloc (.cells ([.int .i64 b.asid,.int .i64 b.t.size,.int .u32 b.t.va,.int .u64 b.t.pa,.int .i64 b.t.dom,.int .i64 b.t.ap,.int .u32 b.t.bits,.bool b.t.ng,.bool b.t.xn]).toArray 45)).rangeLeft kb r:=turn_left (X:=fun _=>False) (Turn.below hb6) HKR.out.lt.2 HKR.out.lt.1 (fun h=>h) (fun h=>h)
          have:=HL.out
          show w6.rangeLeft kb r<wr.rangeLeft kb r
          omega
        clear hb6 HB5 HN HL HT5 HOv HKR cB cF hnx hen
        cases ob
        · simp at hq
          go_wp2
          go_roundw
          case rel=>exact ⟨rm T b,HN6.out hq⟩
          case measure=>exact HL6.out
        · simp at hq
          have HA:=hidW (HY.out hq)
          clear hq HY
          go_wp2
          go_ret
          rw [HA.out]
          exact ⟨rfl,HB6.out⟩
      · rw [show (!true && ovF b va asid)=false by simp] at hq
        go_wp2
        go_roundw
        case rel=>exact ⟨rm T b,HN.out hq⟩
        case measure=>exact HL.out
end Go.Proofs.YtnjlajjjcmhfgaaGreatDoor
namespace Go.Proofs.YtnjlajjjcmhfgaaGreatDoor
open Go.RowKit Go.Sort Go.Shelf Go.Lib
open Mm (Turn gr RowAt)
set_option linter.unusedVariables false
set_option linter.unusedSimpArgs false
def adD (M:Mo) (c:Ctx) (L:List Dir) (asid:Int) (b:Blo):List Dir:=if smF M c b.t=true then L else L++[⟨asid,b⟩]
set_option maxRecDepth 100000 in
set_option maxHeartbeats 4000000 in
theorem kjudge_any (W:World) (p kb jb:Nat) (K:List Blo) (J:Jud) (h:PK W p kb jb K J) (S:Nat→Prop) (iv:Value) (M:Mo) (hm:MemP W S iv M) (ht:TS W) (b:Blo) (hb:KOk b) (asid:Int) (c:Ctx) (hJ:J asid=some c) (lo:Nat) (v:Value) (L:List Dir) (ho:W.ownsRow lo 74 10 v L.length (rowG encD L)) (hlo:lo≤W.heap.size) (hby:smF M c b.t=false→(L.length+1)*64≤140737488355328) :
    Calls Tryz.prog 46 #[.pointer (some ⟨p,0,none⟩),v,iv,.agg #[.int .i64 b.asid,.int .i64 b.t.size,.int .u32 b.t.va,.int .u64 b.t.pa,.int .i64 b.t.dom,.int .i64 b.t.ap,.int .u32 b.t.bits,.bool b.t.ng,.bool b.t.xn],.int .i64 asid] W fun e w'=>∃v',e= .returned v'∧w'.ownsRow lo 74 10 v' (adD M c L asid b).length (rowG encD (adD M c L asid b))∧Turn (fun x=>v.ownBlock=some x) W w':=by
  have hj:=h.ok.j _ _ hJ
  have hb0:=below_new W (.cells ([.int .i64 b.asid,.int .i64 b.t.size,.int .u32 b.t.va,.int .u64 b.t.pa,.int .i64 b.t.dom,.int .i64 b.t.ap,.int .u32 b.t.bits,.bool b.t.ng,.bool b.t.xn]).toArray 45)
  have hP:=h.below hb0
  have HS:=hidW (sameP_any c b.t _ ((hm.below hb0).below (below_drew (Below.refl _ _))) hb.fz ((ht.below hb0).below (below_drew (Below.refl _ _))) hj.2.2.1)
  have hget:∀w',Below (W.alloc (.cells ([.int .i64 b.asid,.int .i64 b.t.size,.int .u32 b.t.va,.int .u64 b.t.pa,.int .i64 b.t.dom,.int .i64 b.t.ap,.int .u32 b.t.bits,.bool b.t.ng,.bool b.t.xn]).toArray 45)).heap.size (W.alloc (.cells ([.int .i64 b.asid,.int .i64 b.t.size,.int .u32 b.t.va,.int .u64 b.t.pa,.int .i64 b.t.dom,.int .i64 b.t.ap,.int .u32 b.t.bits,.bool b.t.ng,.bool b.t.xn]).toArray 45)) w'→(Instr.lookup 116 (.map (some jb)) (.int .i64 asid) false).run Tryz.prog w'= .ok (.agg #[.bool c.on,.bool c.tre,.bool c.afe,.int .i64 c.n,.bool c.pd0,.bool c.pd1,.int .u64 c.b0,.int .u64 c.b1,.int .u32 c.dacr,.int .u32 c.prrr,.int .u32 c.nmrr,.int .i64 c.asid]) w':=fun w' hw=>by
    have:=(hP.below hw).jm.get (a:=asid) (by omega) (by omega)
    rwa [jd_some hJ] at this
  have HK1:Hid (∀w',Below (W.alloc (.cells ([.int .i64 b.asid,.int .i64 b.t.size,.int .u32 b.t.va,.int .u64 b.t.pa,.int .i64 b.t.dom,.int .i64 b.t.ap,.int .u32 b.t.bits,.bool b.t.ng,.bool b.t.xn]).toArray 45)).heap.size (W.alloc (.cells ([.int .i64 b.asid,.int .i64 b.t.size,.int .u32 b.t.va,.int .u64 b.t.pa,.int .i64 b.t.dom,.int .i64 b.t.ap,.int .u32 b.t.bits,.bool b.t.ng,.bool b.t.xn]).toArray 45)) w'→(w'.cell? ⟨p,1,none⟩=some (.map (some jb))∧(Instr.lookup 116 (.map (some jb)) (.int .i64 asid) false).run Tryz.prog w'= .ok (.agg #[.bool c.on,.bool c.tre,.bool c.afe,.int .i64 c.n,.bool c.pd0,.bool c.pd1,.int .u64 c.b0,.int .u64 c.b1,.int .u32 c.dacr,.int .u32 c.prrr,.int .u32 c.nmrr,.int .i64 c.asid]) w'∧w'.cell? ⟨W.heap.size,0,none⟩=some (.int .i64 b.asid)∧w'.cell? ⟨W.heap.size,1,none⟩=some (.int .i64 b.t.size)∧w'.cell? ⟨W.heap.size,2,none⟩=some (.int .u32 b.t.va)∧w'.cell? ⟨W.heap.size,3,none⟩=some (.int .u64 b.t.pa)∧w'.cell? ⟨W.heap.size,4,none⟩=some (.int .i64 b.t.dom)∧w'.cell? ⟨W.heap.size,5,none⟩=some (.int .i64 b.t.ap)∧w'.cell? ⟨W.heap.size,6,none⟩=some (.int .u32 b.t.bits)∧w'.cell? ⟨W.heap.size,7,none⟩=some (.bool b.t.ng)∧w'.cell? ⟨W.heap.size,8,none⟩=some (.bool b.t.xn))):=fun w' hw=>by
    have hc:=((Bl.new W 45 ([.int .i64 b.asid,.int .i64 b.t.size,.int .u32 b.t.va,.int .u64 b.t.pa,.int .i64 b.t.dom,.int .i64 b.t.ap,.int .u32 b.t.bits,.bool b.t.ng,.bool b.t.xn])).below hw).cell
    exact ⟨(hP.below hw).c1,hget w' hw,hc 0,hc 1,hc 2,hc 3,hc 4,hc 5,hc 6,hc 7,hc 8⟩
  have HO:Hid ((W.alloc (.cells ([.int .i64 b.asid,.int .i64 b.t.size,.int .u32 b.t.va,.int .u64 b.t.pa,.int .i64 b.t.dom,.int .i64 b.t.ap,.int .u32 b.t.bits,.bool b.t.ng,.bool b.t.xn]).toArray 45)).ownsRow lo 74 10 v L.length (rowG encD L)):=Mm.own_turn ho (Turn.below (S:=fun _=>False) hb0) (fun _ _ h=>h)
  have HB0:=hidW hb0
  have HBY:=hidW hby
  have HLO:=hidW hlo
  clear h hm ht hb hJ ho hlo hby hj hb0 hP hget
  unfold adD
  obtain ⟨sm,hsm⟩:∃sm,smF M c b.t=sm:=⟨_,rfl⟩
  rw [hsm] at HS HBY ⊢
  clear hsm
  go_enter Tryz.func46,Tryz.ntmps46
  go_wp2_with fail
  generalize hw0:W.alloc (.cells ([.int .i64 b.asid,.int .i64 b.t.size,.int .u32 b.t.va,.int .u64 b.t.pa,.int .i64 b.t.dom,.int .i64 b.t.ap,.int .u32 b.t.bits,.bool b.t.ng,.bool b.t.xn]).toArray 45)=w0 at *
  refine wp_region_held_drew (S:=fun w'=>w'.cell? ⟨p,1,none⟩=some (.map (some jb))∧(Instr.lookup 116 (.map (some jb)) (.int .i64 asid) false).run Tryz.prog w'= .ok (.agg #[.bool c.on,.bool c.tre,.bool c.afe,.int .i64 c.n,.bool c.pd0,.bool c.pd1,.int .u64 c.b0,.int .u64 c.b1,.int .u32 c.dacr,.int .u32 c.prrr,.int .u32 c.nmrr,.int .i64 c.asid]) w'∧w'.cell? ⟨W.heap.size,0,none⟩=some (.int .i64 b.asid)∧w'.cell? ⟨W.heap.size,1,none⟩=some (.int .i64 b.t.size)∧w'.cell? ⟨W.heap.size,2,none⟩=some (.int .u32 b.t.va)∧w'.cell? ⟨W.heap.size,3,none⟩=some (.int .u64 b.t.pa)∧w'.cell? ⟨W.heap.size,4,none⟩=some (.int .i64 b.t.dom)∧w'.cell? ⟨W.heap.size,5,none⟩=some (.int .i64 b.t.ap)∧w'.cell? ⟨W.heap.size,6,none⟩=some (.int .u32 b.t.bits)∧w'.cell? ⟨W.heap.size,7,none⟩=some (.bool b.t.ng)∧w'.cell? ⟨W.heap.size,8,none⟩=some (.bool b.t.xn)) (by kernel_rfl) ?_ (fun hHeld=> ?_)
  · exact HK1.out _ (below_drew (Below.refl _ _))
  refine wpAnyH_take (i:=0) (oi:=⟨some 11,.move (.tmp 2),51,_,#[],none⟩) (v:=?_) rfl (by kernel_rfl) (by kernel_rfl) (by kernel_rfl) (fun _ _ _ h=>h) (Or.inl ⟨by rfl,?_⟩) (by assumption) ?_
  rotate_left
  · (intro w hSw; (try dsimp only at hSw); go_simp; try with_reducible rfl)
  simp only [Act.put,List.setIfInBounds_toArray,List.set_cons_zero,List.set_cons_succ]
  refine wpAnyH_take (i:=1) (oi:=⟨some 12,.move (.tmp 0),49,_,#[],none⟩) (v:=?_) rfl (by kernel_rfl) (by kernel_rfl) (by kernel_rfl) (fun _ _ _ h=>h) (Or.inl ⟨by rfl,?_⟩) (by assumption) ?_
  rotate_left
  · (intro w hSw; (try dsimp only at hSw); go_simp; try with_reducible rfl)
  simp only [Act.put,List.setIfInBounds_toArray,List.set_cons_zero,List.set_cons_succ]
  refine wpAnyH_take (i:=2) (oi:=⟨some 13,.nilCheck (.tmp 12),0,_,#[⟨1,.data⟩],none⟩) (v:=?_) rfl (by kernel_rfl) (by kernel_rfl) (by kernel_rfl) (fun _ _ _ h=>h) (Or.inl ⟨by rfl,?_⟩) (by assumption) ?_
  rotate_left
  · (intro w hSw; (try dsimp only at hSw); go_simp; try with_reducible rfl)
  simp only [Act.put,List.setIfInBounds_toArray,List.set_cons_zero,List.set_cons_succ]
  refine wpAnyH_take (i:=3) (oi:=⟨some 14,.fieldAddr 118 (.tmp 13) 1,0,_,#[⟨2,.data⟩],none⟩) (v:=?_) rfl (by kernel_rfl) (by kernel_rfl) (by kernel_rfl) (fun _ _ _ h=>h) (Or.inl ⟨by rfl,?_⟩) (by assumption) ?_
  rotate_left
  · (intro w hSw; (try dsimp only at hSw); go_simp; try with_reducible rfl)
  simp only [Act.put,List.setIfInBounds_toArray,List.set_cons_zero,List.set_cons_succ]
  refine wpAnyH_take (i:=4) (oi:=⟨some 15,.load 116 (.tmp 14),116,_,#[⟨3,.data⟩],none⟩) (v:=?_) rfl (by kernel_rfl) (by kernel_rfl) (by kernel_rfl) (fun _ _ _ h=>h) (Or.inl ⟨by rfl,?_⟩) (by assumption) ?_
  rotate_left
  · (intro w hSw; (try dsimp only at hSw); go_simp; try with_reducible rfl)
  simp only [Act.put,List.setIfInBounds_toArray,List.set_cons_zero,List.set_cons_succ]
  refine wpAnyH_take (i:=5) (oi:=⟨some 16,.move (.tmp 4),3,_,#[],none⟩) (v:=?_) rfl (by kernel_rfl) (by kernel_rfl) (by kernel_rfl) (fun _ _ _ h=>h) (Or.inl ⟨by rfl,?_⟩) (by assumption) ?_
  rotate_left
  · (intro w hSw; (try dsimp only at hSw); go_simp; try with_reducible rfl)
  simp only [Act.put,List.setIfInBounds_toArray,List.set_cons_zero,List.set_cons_succ]
  refine wpAnyH_take (i:=6) (oi:=⟨some 17,.lookup 116 (.tmp 15) (.tmp 16) false,47,_,#[⟨4,.data⟩,⟨5,.data⟩],none⟩) (v:=?_) rfl (by kernel_rfl) (by kernel_rfl) (by kernel_rfl) (fun _ _ _ h=>h) (Or.inl ⟨by rfl,?_⟩) (by assumption) ?_
  rotate_left
  · (intro w hSw; (try dsimp only at hSw); go_simp; try with_reducible rfl)
  simp only [Act.put,List.setIfInBounds_toArray,List.set_cons_zero,List.set_cons_succ]
  refine wpAnyH_take (i:=7) (oi:=⟨some 18,.fieldAddr 45 (.tmp 8) 1,0,_,#[],none⟩) (v:=?_) rfl (by kernel_rfl) (by kernel_rfl) (by kernel_rfl) (fun _ _ _ h=>h) (Or.inl ⟨by rfl,?_⟩) (by assumption) ?_
  rotate_left
  · (intro w hSw; (try dsimp only at hSw); go_simp; try with_reducible rfl)
  simp only [Act.put,List.setIfInBounds_toArray,List.set_cons_zero,List.set_cons_succ]
  refine wpAnyH_take (i:=8) (oi:=⟨some 19,.load 43 (.tmp 18),43,_,#[⟨7,.data⟩],none⟩) (v:=?_) rfl (by kernel_rfl) (by kernel_rfl) (by kernel_rfl) (fun _ _ _ h=>h) (Or.inl ⟨by rfl,?_⟩) (by assumption) ?_
  rotate_left
  · (intro w hSw; (try dsimp only at hSw); go_simp; try with_reducible rfl)
  simp only [Act.put,List.setIfInBounds_toArray,List.set_cons_zero,List.set_cons_succ]
  refine wpAnyH_ready (rs:=[9]) (by kernel_rfl) (by simp) ?_
  refine AllReadyH.cons (o:=⟨some 20,.call ⟨.value (.func 17),#[.tmp 11,.tmp 17,.tmp 19],#[51,47,43]⟩,4,_,#[⟨0,.data⟩,⟨6,.data⟩,⟨8,.data⟩],none⟩) rfl (fun K hK=> ?_) AllReadyH.nil
  go_simp
  (go_at_call 17; refine HS.out.mono ?_; rintro e w3 ⟨rfl,hb3⟩; have hb4:Below w0.heap.size w0 w3:=Below.step (below_drew (Below.refl _ _)) hb3; have HK3:=hidW (HK1.out w3 hb4); have HB4:=hidW hb4; clear hb3 hb4)
  refine hK.out _ _ ?_ (fun hHeld=> ?_)
  · ((try dsimp only); with_reducible exact HK3.out)
  clear hK K
  try simp only [Act.put,List.setIfInBounds_toArray,List.set_cons_zero,List.set_cons_succ]
  refine wpAnyH_done (by kernel_rfl) ?_ _
  have HO3:Hid (w3.ownsRow lo 74 10 v L.length (rowG encD L)):=Mm.own_turn HO.out (Turn.below (S:=fun _=>False) HB4.out) (fun _ _ h=>h)
  have HT3:Hid (Turn (fun x=>v.ownBlock=some x) W w3):=(Turn.below HB0.out).then (Turn.below HB4.out)
  have hsz3:lo≤w3.heap.size:=Nat.le_trans HLO.out HT3.out.size
  clear HK3 HS HB0 hHeld
  cases sm
  · have hby:=HBY.out rfl
    have cB:=((HK1.out w3 HB4.out).2.2)
    obtain ⟨v',w5,happ,ho5,T5,hg5⟩:=appG (by':=64) encD_len encD_one Tryz.underlying48 infoD rfl w3 lo v L ⟨asid,b⟩ HO3.out hsz3 hby (by omega)
    have HO5:=hidW ho5
    have HT5:=hidW (HT3.out.then T5)
    simp only [encD,encB] at happ
    clear ho5 T5 hg5 hby HK1 HB4 HO HO3 HT3 HBY
    obtain ⟨c0,c1,c2,c3,c4,c5,c6,c7,c8⟩:=cB
    go_wp2_with (at_builtin; refine Lib.wpList_append_run _ rfl _ _ 48 48 rfl _ _ rfl rfl _ _ (happ _) ?_; clear happ)
    go_ret
    exact ⟨_,rfl,by simpa using HO5.out,HT5.out⟩
  · clear HK1 HO HBY
    go_wp2
    go_ret
    exact ⟨_,rfl,by simpa using HO3.out,HT3.out⟩
end Go.Proofs.YtnjlajjjcmhfgaaGreatDoor
namespace Go.Proofs.YtnjlajjjcmhfgaaGreatDoor
open Go.RowKit Go.Sort Go.Shelf Go.Lib
open Mm (Turn gr RowAt)
set_option linter.unusedVariables false
set_option linter.unusedSimpArgs false
theorem mem_adD {M:Mo} {K:List Blo} {J:Jud} {c:Ctx} {L:List Dir} {a:Int} {b:Blo} (hJ:JOk J) (hc:J a=some c) (hb:b∈K) (hh:hoF b a=true) (x:Dir):x∈adD M c L a b↔x∈L∨(x=⟨a,b⟩∧x∈diL M K J):=by
  have hd:(⟨a,b⟩:Dir)∈diL M K J↔smF M c b.t=false:=by
    rw [mem_diL hJ]
    unfold diF
    rw [hc,hh]
    simp [hb]
  unfold adD
  split
  · rename_i h
    constructor
    · exact fun hx=> .inl hx
    · rintro (hx|⟨rfl,hx⟩)
      · exact hx
      · rw [hd,h] at hx; cases hx
  · rename_i h
    rw [List.mem_append,List.mem_singleton]
    constructor
    · rintro (hx|rfl)
      · exact .inl hx
      · exact .inr ⟨rfl,hd.2 (by simpa using h)⟩
    · rintro (hx|⟨hx,_⟩)
      · exact .inl hx
      · exact .inr hx
theorem adD_nodup {M:Mo} {c:Ctx} {L:List Dir} {a:Int} {b:Blo} (h:L.Nodup) (hn:(⟨a,b⟩:Dir)∉L):(adD M c L a b).Nodup:=by
  unfold adD
  split
  · exact h
  · exact List.pairwise_append.2 ⟨h,by simp,fun x hx y hy e=>by
      rw [List.mem_singleton] at hy
      exact hn (hy▸e▸hx)⟩
theorem adD_len {M:Mo} {K:List Blo} {J:Jud} {c:Ctx} {L:List Dir} {a:Int} {b:Blo} (hJ:JOk J) (hc:J a=some c) (hb:b∈K) (hh:hoF b a=true) (h:L.Nodup) (hn:(⟨a,b⟩:Dir)∉L) (hs:∀x∈L,x∈diL M K J) (hl:(diL M K J).length*64≤140737488355328):smF M c b.t=false→(L.length+1)*64≤140737488355328:=by
  intro hf
  have hd:(⟨a,b⟩:Dir)∈diL M K J:=by
    rw [mem_diL hJ]
    unfold diF
    rw [hc,hh]
    simp [hb,hf]
  have:((⟨a,b⟩:Dir)::L).length≤(diL M K J).length:=nodup_len (List.pairwise_cons.2 ⟨fun x hx e=>hn (e▸hx),h⟩) (fun x hx=>by
    rcases List.mem_cons.1 hx with rfl|hx
    · exact hd
    · exact hs x hx)
  rw [List.length_cons] at this
  omega
structure DiX (W wr:World) (kb r:Nat) (K T:List Blo) (Dl L:List Dir) (v:Value):Prop where
  bel:Below W.heap.size W wr
  kr:KR wr kb r K T
  own:wr.ownsRow W.heap.size 74 10 v L.length (rowG encD L)
  nod:L.Nodup
  mem:∀x,x∈L↔x∈Dl∧x.b∉T
  sub:∀b∈T,b∈K
structure DiY (W wr:World) (kb r bb:Nat) (K T:List Blo) (Dl L:List Dir) (v:Value) (b:Blo):Prop where
  bel:Below W.heap.size W wr
  kr:KR wr kb r K (rm T b)
  own:wr.ownsRow W.heap.size 74 10 v L.length (rowG encD L)
  nod:L.Nodup
  mem:∀x,x∈L↔x∈Dl∧x.b∉T
  sub:∀b∈T,b∈K
  hb:b∈T
  bb:Bl wr bb 45 ([.int .i64 b.asid,.int .i64 b.t.size,.int .u32 b.t.va,.int .u64 b.t.pa,.int .i64 b.t.dom,.int .i64 b.t.ap,.int .u32 b.t.bits,.bool b.t.ng,.bool b.t.xn])
structure DjX (W wr:World) (kb jb r rj bb:Nat) (K T:List Blo) (J:Jud) (Tj:List Int) (Dl L:List Dir) (v:Value) (b:Blo):Prop where
  bel:Below W.heap.size W wr
  kr:KR wr kb r K (rm T b)
  jr:JR wr jb rj J Tj
  own:wr.ownsRow W.heap.size 74 10 v L.length (rowG encD L)
  nod:L.Nodup
  mem:∀x,x∈L↔x∈Dl∧(x.b∉T∨(x.b=b∧x.asid∉Tj))
  sub:∀b∈T,b∈K
  hb:b∈T
  bb:Bl wr bb 45 ([.int .i64 b.asid,.int .i64 b.t.size,.int .u32 b.t.va,.int .u64 b.t.pa,.int .i64 b.t.dom,.int .i64 b.t.ap,.int .u32 b.t.bits,.bool b.t.ng,.bool b.t.xn])
  js:∀a∈Tj,∃c,J a=some c
theorem JR.own {w:World} {jb r:Nat} {J:Jud} {T:List Int} (h:JR w jb r J T) {c:Array Value} {e:TypeId} {f:Nat×Nat} {g:Nat} (hg:w.heap[g]? =some (.cells c e f)):g≠jb∧g≠r:=by
  obtain ⟨n,D,left,cnt,⟨es,cl,since,seen,c0,hb,f,s,d,hi,rest⟩,h2⟩:=h
  constructor
  · rintro rfl
    rw [hb] at hg; cases hg
  · rintro rfl
    rw [hi] at hg; cases hg
theorem own_ty {w:World} {lo n k:Nat} {T T':TypeId} {v:Value} {xs:List Value} (h:w.ownsRow lo T k v n xs) {b:Nat} {l:List Value} (hb:Bl w b T' l) (hne:T≠T'):v.ownBlock≠some b:=by
  intro e
  obtain ⟨_,⟨rfl,_⟩|⟨g,cap,cur,rfl,_,hg,_⟩⟩:=h
  · cases e
  · cases e
    rw [show w.heap[g]? =_ from hb] at hg
    injection hg with hg
    injection hg with _ h2 _
    exact hne h2.symm
theorem DiY.one {W wr w':World} {kb r bb:Nat} {K T:List Blo} {J:Jud} {M:Mo} {L:List Dir} {v v':Value} {b:Blo} {c:Ctx} (h:DiY W wr kb r bb K T (diL M K J) L v b) (hJ:JOk J) (hc:J b.asid=some c) (hg:b.asid≠ -1)
    (ho:w'.ownsRow W.heap.size 74 10 v' (adD M c L b.asid b).length (rowG encD (adD M c L b.asid b))) (hT:Turn (fun x=>v.ownBlock=some x) wr w'):DiX W w' kb r K (rm T b) (diL M K J) (adD M c L b.asid b) v'∧w'.rangeLeft kb r=wr.rangeLeft kb r:=by
  have hX:∀x,v.ownBlock=some x→W.heap.size≤x∧x≠kb∧x≠r:=fun x hx=>by
    obtain ⟨c,e,f,hc⟩:=own_ne h.own hx
    exact ⟨(World.ownsRow.lt h.own x hx).1,h.kr.own hc⟩
  have hkr:=h.kr.lt
  have hh:hoF b b.asid=true:=by simp [hoF]
  have hbK:=h.sub b h.hb
  refine ⟨⟨h.bel.trans (hT.to (fun x hx=>(hX x hx).1) h.bel.size),h.kr.turn hT (fun hx=>(hX _ hx).2.1 rfl) (fun hx=>(hX _ hx).2.2 rfl),ho,adD_nodup h.nod (fun hx=>((h.mem _).1 hx).2 h.hb),fun x=> ?_,fun x hx=>h.sub x (mem_rm.1 hx).1⟩,
    turn_left hT hkr.2 hkr.1 (fun hx=>(hX _ hx).2.1 rfl) (fun hx=>(hX _ hx).2.2 rfl)⟩
  rw [mem_adD hJ hc hbK hh,h.mem,mem_rm]
  constructor
  · rintro (⟨h1,h2⟩|⟨rfl,h1⟩)
    · exact ⟨h1,fun h3=>h2 h3.1⟩
    · exact ⟨h1,fun h3=>h3.2 rfl⟩
  · rintro ⟨h1,h2⟩
    by_cases e:x.b=b
    · right
      refine ⟨?_,h1⟩
      have h3:=((mem_diL hJ).1 h1).2
      unfold diF at h3
      split at h3
      · cases h3
      · rw [Bool.and_eq_true] at h3
        have h4:=h3.1
        unfold hoF at h4
        rw [Bool.or_eq_true] at h4
        obtain ⟨xa,xb⟩:=x
        dsimp only at *
        subst e
        rcases h4 with h4|h4
        · rw [eq_of_beq h4]
        · exact absurd (eq_of_beq h4) hg
    · exact .inl ⟨h1,fun h3=>h2 ⟨h3,e⟩⟩
structure DjY (W wr:World) (kb jb r rj bb:Nat) (K T:List Blo) (J:Jud) (Tj:List Int) (Dl L:List Dir) (v:Value) (b:Blo) (a:Int):Prop where
  bel:Below W.heap.size W wr
  kr:KR wr kb r K (rm T b)
  jr:JR wr jb rj J (rmI Tj a)
  own:wr.ownsRow W.heap.size 74 10 v L.length (rowG encD L)
  nod:L.Nodup
  mem:∀x,x∈L↔x∈Dl∧(x.b∉T∨(x.b=b∧x.asid∉Tj))
  sub:∀b∈T,b∈K
  hb:b∈T
  bb:Bl wr bb 45 ([.int .i64 b.asid,.int .i64 b.t.size,.int .u32 b.t.va,.int .u64 b.t.pa,.int .i64 b.t.dom,.int .i64 b.t.ap,.int .u32 b.t.bits,.bool b.t.ng,.bool b.t.xn])
  js:∀a∈Tj,∃c,J a=some c
  ha:a∈Tj
theorem DjY.one {W wr w':World} {kb jb r rj bb:Nat} {K T:List Blo} {J:Jud} {Tj:List Int} {M:Mo} {L:List Dir} {v v':Value} {b:Blo} {c:Ctx} {a:Int} (h:DjY W wr kb jb r rj bb K T J Tj (diL M K J) L v b a) (hJ:JOk J) (hc:J a=some c) (hg:b.asid= -1)
    (ho:w'.ownsRow W.heap.size 74 10 v' (adD M c L a b).length (rowG encD (adD M c L a b))) (hT:Turn (fun x=>v.ownBlock=some x) wr w'):DjX W w' kb jb r rj bb K T J (rmI Tj a) (diL M K J) (adD M c L a b) v' b∧w'.rangeLeft kb r=wr.rangeLeft kb r∧w'.rangeLeft jb rj=wr.rangeLeft jb rj:=by
  have hX:∀x,v.ownBlock=some x→W.heap.size≤x∧(x≠kb∧x≠r)∧(x≠jb∧x≠rj):=fun x hx=>by
    obtain ⟨c,e,f,hc⟩:=own_ne h.own hx
    exact ⟨(World.ownsRow.lt h.own x hx).1,h.kr.own hc,h.jr.own hc⟩
  have hkr:=h.kr.lt
  have hjr:=h.jr.lt
  have hh:hoF b a=true:=by simp [hoF,hg]
  have hbK:=h.sub b h.hb
  refine ⟨⟨h.bel.trans (hT.to (fun x hx=>(hX x hx).1) h.bel.size),h.kr.turn hT (fun hx=>(hX _ hx).2.1.1 rfl) (fun hx=>(hX _ hx).2.1.2 rfl),h.jr.turn hT (fun hx=>(hX _ hx).2.2.1 rfl) (fun hx=>(hX _ hx).2.2.2 rfl),ho,adD_nodup h.nod (fun hx=> ?_),fun x=> ?_,h.sub,h.hb,h.bb.turn hT (own_ty h.own h.bb (by decide)),fun x hx=>h.js x (mem_rmI.1 hx).1⟩,
    turn_left hT hkr.2 hkr.1 (fun hx=>(hX _ hx).2.1.1 rfl) (fun hx=>(hX _ hx).2.1.2 rfl),turn_left hT hjr.2 hjr.1 (fun hx=>(hX _ hx).2.2.1 rfl) (fun hx=>(hX _ hx).2.2.2 rfl)⟩
  · rcases ((h.mem _).1 hx).2 with h1|⟨_,h1⟩
    · exact h1 h.hb
    · exact h1 h.ha
  · rw [mem_adD hJ hc hbK hh,h.mem,mem_rmI]
    constructor
    · rintro (⟨h1,h2|⟨h2,h3⟩⟩|⟨rfl,h1⟩)
      · exact ⟨h1,.inl h2⟩
      · exact ⟨h1,.inr ⟨h2,fun h4=>h3 h4.1⟩⟩
      · exact ⟨h1,.inr ⟨rfl,fun h4=>h4.2 rfl⟩⟩
    · rintro ⟨h1,h2|⟨h2,h3⟩⟩
      · exact .inl ⟨h1,.inl h2⟩
      · by_cases e:x.asid=a
        · right
          refine ⟨?_,h1⟩
          obtain ⟨xa,xb⟩:=x
          dsimp only at *
          rw [e,h2]
        · exact .inl ⟨h1,.inr ⟨h2,fun h4=>h3 ⟨h4,e⟩⟩⟩
theorem DjX.fin {W wr:World} {kb jb r rj bb:Nat} {K T:List Blo} {J:Jud} {Dl L:List Dir} {v:Value} {b:Blo} (h:DjX W wr kb jb r rj bb K T J [] Dl L v b):DiX W wr kb r K (rm T b) Dl L v :=
  ⟨h.bel,h.kr,h.own,h.nod,fun x=>by
    rw [h.mem,mem_rm]
    constructor
    · rintro ⟨h1,h2|⟨h2,_⟩⟩
      · exact ⟨h1,fun h3=>h2 h3.1⟩
      · exact ⟨h1,fun h3=>h3.2 h2⟩
    · rintro ⟨h1,h2⟩
      by_cases e:x.b=b
      · exact ⟨h1,.inr ⟨e,by simp⟩⟩
      · exact ⟨h1,.inl (fun h3=>h2 ⟨h3,e⟩)⟩,fun x hx=>h.sub x (mem_rm.1 hx).1⟩
end Go.Proofs.YtnjlajjjcmhfgaaGreatDoor
namespace Go.Proofs.YtnjlajjjcmhfgaaGreatDoor
open Go.RowKit Go.Sort Go.Shelf Go.Lib
open Mm (Turn gr RowAt)
set_option linter.unusedVariables false
set_option linter.unusedSimpArgs false
theorem JR.nt {w:World} {jb r:Nat} {J:Jud} {T:List Int} (h:JR w jb r J T):(∀c e f,w.heap[r]?≠some (.cells c e f))∧(∀es cl,w.heap[r]?≠some (.map es cl)):=by
  obtain ⟨n,D,left,cnt,⟨es,cl,since,seen,c0,hb,f,s,d,hi,rest⟩,h2⟩:=h
  refine ⟨fun c e f h=> ?_,fun es cl h=> ?_⟩
  · rw [hi] at h; cases h
  · rw [hi] at h; cases h
set_option maxRecDepth 100000 in
set_option maxHeartbeats 8000000 in
theorem dirty_any (W:World) (p kb jb:Nat) (K:List Blo) (J:Jud) (h:PK W p kb jb K J) (S:Nat→Prop) (iv:Value) (M:Mo) (hm:MemP W S iv M) (ht:TS W) (hl:(diL M K J).length*64≤140737488355328) :
    Calls Tryz.prog 13 #[.pointer (some ⟨p,0,none⟩),iv] W fun e w'=>∃v,e= .returned v∧LtG encD 74 w' W.heap.size v (diL M K J)∧Below W.heap.size W w':=by
  have c0:=h.c0
  obtain ⟨w2,hr2,hk2,hg2,hs2⟩:=h.km.range
  have T2:Turn (fun _=>False) W w2:=Turn.grown hg2 (fun k e=>by cases e)
  obtain ⟨r,hrr⟩:∃r,r=W.heap.size:=⟨_,rfl⟩
  rw [←hrr] at hr2 hk2
  have hrW:W.heap.size≤r:=by omega
  have HX:Hid (DiX W w2 kb r K K (diL M K J) [] (.slice none 0 0)) :=
    ⟨T2.to (fun x hx=>hx.elim) (Nat.le_refl _),hk2,World.ownsRow_nil _ _ _ _,.nil,fun x=>⟨(fun h=>by cases h),fun ⟨h1,h2⟩=>absurd ((mem_diL h.ok.j).1 h1).1 h2⟩,fun b hb=>hb⟩
  have HO:=hidW h.ok
  have HP:=hidW h
  have HM:=hidW hm
  have HT:=hidW ht
  have HR:=hidW (diL_rising (M:=M) (J:=J) h.ok.ri)
  clear h hk2 hg2 T2 hm ht hrr
  go_enter Tryz.func13,Tryz.ntmps13
  go_wp2
  clear hr2 c0 hs2
  go_loopw [5] (fun s wr=>∃(T:List Blo) (L:List Dir) (v:Value),v=s∧Hid (DiX W wr kb r K T (diL M K J) L v)) (fun _ wr=>wr.rangeLeft kb r)
  case atStart=>exact ⟨K,[],_,rfl,HX⟩
  case round =>
    obtain ⟨T,L,v,rfl,HX1⟩:=hrel
    clear HX
    have hTo:∀x∈T,KOk x:=fun x hx=>HO.out.ok x (HX1.out.sub x hx)
    rcases HX1.out.kr.next hTo 0 with ⟨rfl,hnx⟩|⟨b,w1,hb,hnx,hk1,hg1,hs1,hen,hlt⟩
    · have hx:=HX1.out
      have hLK:∀b,b∈L↔b∈diL M K J:=fun b=>by rw [hx.mem]; exact ⟨fun h=>h.1,fun h=>⟨h,by simp⟩⟩
      have hso:soD L=diL M K J:=soD_eq hx.nod HR.out hLK
      have hll:L.length=(diL M K J).length:=by rw [←hso]; exact (List.mergeSort_perm _ _).length_eq.symm
      rcases LtG.own encD_len hx.own with ⟨rfl,rfl⟩|⟨g,cap,rest,rfl,hg,hR⟩
      · have hK0:diL M K J=[]:=List.eq_nil_of_length_eq_zero hll.symm
        have HB:=hidW hx.bel
        clear hx HX1 hLK hso hll
        go_wp2_with (go_at_call 47; refine (sortD_none _ _ _).mono ?_; rintro e w3 ⟨rfl,rfl⟩)
        go_ret
        exact ⟨_,rfl,⟨none,0,by rw [hK0]; rfl,.inl hK0⟩,HB.out⟩
      · have HS:=hidW (sortD_row wr g cap L rest hR (by omega))
        rw [hso] at HS
        have HB:=hidW hx.bel
        have HG:=hidW hg
        have HLL:=hidW hll
        clear hx HX1 hLK hso hg hR hll
        go_wp2_with (go_at_call 47; refine HS.out.mono ?_; rintro e w3 ⟨rfl,hR3,T3⟩)
        go_ret
        exact ⟨_,rfl,⟨some ⟨g,0,none⟩,cap,by rw [←HLL.out]; rfl,.inr ⟨g,rest,rfl,HG.out,hR3⟩⟩,HB.out.trans (T3.to (fun x hx=>by subst hx; exact HG.out) HB.out.size)⟩
    · have T1:Turn (· =r) wr w1:=Turn.grown hg1 (fun k e=>by cases e; exact .inl rfl)
      have hx:=HX1.out
      have hbn:=below_new w1 (.cells ([.int .i64 b.asid,.int .i64 b.t.size,.int .u32 b.t.va,.int .u64 b.t.pa,.int .i64 b.t.dom,.int .i64 b.t.ap,.int .u32 b.t.bits,.bool b.t.ng,.bool b.t.xn]).toArray 45)
      have hB1:Below W.heap.size W w1:=hx.bel.trans (T1.to (fun x hx=>by subst hx; exact hrW) hx.bel.size)
      have hO1:w1.ownsRow W.heap.size 74 10 v L.length (rowG encD L):=Mm.own_turn hx.own T1 (fun g hg e=>by
        obtain ⟨c,ee,f,hc⟩:=own_ne hx.own hg
        exact (hx.kr.own hc).2 e)
      have HY:Hid (DiY W (w1.alloc (.cells ([.int .i64 b.asid,.int .i64 b.t.size,.int .u32 b.t.va,.int .u64 b.t.pa,.int .i64 b.t.dom,.int .i64 b.t.ap,.int .u32 b.t.bits,.bool b.t.ng,.bool b.t.xn]).toArray 45)) kb r w1.heap.size K T (diL M K J) L v b):=by
        refine ⟨?_,hk1.turn (X:=fun _=>False) (Turn.below hbn) (fun h=>h) (fun h=>h),?_,hx.nod,hx.mem,hx.sub,hb,Bl.new w1 _ _⟩
        · exact hB1.alloc hB1.size _
        · exact Mm.own_turn hO1 (Turn.below (S:=fun _=>False) hbn) (fun _ _ h=>h)
      have HL:Hid ((w1.alloc (.cells ([.int .i64 b.asid,.int .i64 b.t.size,.int .u32 b.t.va,.int .u64 b.t.pa,.int .i64 b.t.dom,.int .i64 b.t.ap,.int .u32 b.t.bits,.bool b.t.ng,.bool b.t.xn]).toArray 45)).rangeLeft kb r<wr.rangeLeft kb r):=by
        have e1:(w1.alloc (.cells ([.int .i64 b.asid,.int .i64 b.t.size,.int .u32 b.t.va,.int .u64 b.t.pa,.int .i64 b.t.dom,.int .i64 b.t.ap,.int .u32 b.t.bits,.bool b.t.ng,.bool b.t.xn]).toArray 45)).rangeLeft kb r=w1.rangeLeft kb r:=turn_left (X:=fun _=>False) (Turn.below hbn) hk1.lt.2 hk1.lt.1 (fun h=>h) (fun h=>h)
        exact e1▸hlt
      have hbo:=hTo b hb
      have hbK:=hx.sub b hb
      have cB:=HY.out.bb.cell
      clear hO1 hB1 hbn hx T1 HX1 hk1 hg1 hlt hTo hb hs1
      by_cases hgl:b.asid= -1
      · have hq:(b.asid != -1)=false:=by simp [hgl]
        have HGL:=hidW hgl
        clear hgl
        have hP2:=HP.out.below HY.out.bel
        have c1:=hP2.c1
        obtain ⟨w3,hr3,hj3,hg3,hs3⟩:=hP2.jm.range HO.out.j
        have T3:Turn (fun _=>False) (w1.alloc (.cells ([.int .i64 b.asid,.int .i64 b.t.size,.int .u32 b.t.va,.int .u64 b.t.pa,.int .i64 b.t.dom,.int .i64 b.t.ap,.int .u32 b.t.bits,.bool b.t.ng,.bool b.t.xn]).toArray 45)) w3:=Turn.grown hg3 (fun k e=>by cases e)
        obtain ⟨rj,hrj⟩:∃rj,rj=(w1.alloc (.cells ([.int .i64 b.asid,.int .i64 b.t.size,.int .u32 b.t.va,.int .u64 b.t.pa,.int .i64 b.t.dom,.int .i64 b.t.ap,.int .u32 b.t.bits,.bool b.t.ng,.bool b.t.xn]).toArray 45)).heap.size:=⟨_,rfl⟩
        rw [←hrj] at hr3 hj3
        have hrjW:W.heap.size≤rj:=by have:=HY.out.bel.size; omega
        have HJX:Hid (DjX W w3 kb jb r rj w1.heap.size K T J (jdom J) (diL M K J) L v b):=by
          have hy:=HY.out
          refine ⟨hy.bel.trans (T3.to (fun x hx=>hx.elim) hy.bel.size),hy.kr.turn T3 (fun h=>h) (fun h=>h),hj3,Mm.own_turn hy.own T3 (fun _ _ h=>h),hy.nod,fun x=> ?_,hy.sub,hy.hb,hy.bb.turn T3 (fun h=>h),fun a ha=>(mem_jdom HO.out.j a).1 ha⟩
          rw [hy.mem]
          constructor
          · rintro ⟨h1,h2⟩; exact ⟨h1,.inl h2⟩
          · rintro ⟨h1,h2|⟨h2,h3⟩⟩
            · exact ⟨h1,h2⟩
            · exfalso
              refine h3 ((mem_jdom HO.out.j _).2 ?_)
              have h4:=((mem_diL HO.out.j).1 h1).2
              unfold diF at h4
              split at h4
              · cases h4
              · rename_i c hc; exact ⟨c,hc⟩
        have HL3:Hid (w3.rangeLeft kb r<wr.rangeLeft kb r):=by
          have e1:w3.rangeLeft kb r=(w1.alloc (.cells ([.int .i64 b.asid,.int .i64 b.t.size,.int .u32 b.t.va,.int .u64 b.t.pa,.int .i64 b.t.dom,.int .i64 b.t.ap,.int .u32 b.t.bits,.bool b.t.ng,.bool b.t.xn]).toArray 45)).rangeLeft kb r:=turn_left T3 HY.out.kr.lt.2 HY.out.kr.lt.1 (fun h=>h) (fun h=>h)
          have:=HL.out
          show w3.rangeLeft kb r<wr.rangeLeft kb r
          omega
        clear hP2 hj3 hg3 T3 HY HL hrj
        go_wp2
        clear hr3 hs3 c1 hnx hen cB
        generalize hwz:wr=wz at *
        generalize w1.heap.size=bb at *
        go_loopw [5] (fun s wr=>∃(Tj:List Int) (L:List Dir) (v:Value),v=s∧Hid (DjX W wr kb jb r rj bb K T J Tj (diL M K J) L v b)∧Hid (wr.rangeLeft kb r<wz.rangeLeft kb r)) (fun _ wr=>wr.rangeLeft jb rj)
        case atStart=>exact ⟨jdom J,L,_,rfl,HJX,HL3⟩
        case round =>
          clear HJX HL3
          obtain ⟨Tj,L,v,rfl,HJ1,HLz⟩:=hrel
          rcases HJ1.out.jr.next HO.out.j HJ1.out.js 0 with ⟨rfl,hnx⟩|⟨a,w4,ha,hnx,hj4,hg4,hs4,hen,hlt⟩
          · have HF:=hidW HJ1.out.fin
            clear HJ1
            go_wp2
            go_roundw
            case rel=>exact ⟨rm T b,L,_,rfl,HF⟩
            case measure=>rw [hwz]; exact HLz.out
          · have T4:Turn (· =rj) wr w4:=Turn.grown hg4 (fun k e=>by cases e; exact .inl rfl)
            have hx:=HJ1.out
            obtain ⟨c,hc⟩:=hx.js a ha
            have hB4:Below W.heap.size W w4:=hx.bel.trans (T4.to (fun x hx=>by subst hx; exact hrjW) hx.bel.size)
            have hO4:w4.ownsRow W.heap.size 74 10 v L.length (rowG encD L):=Mm.own_turn hx.own T4 (fun g hg e=>by
              obtain ⟨c,ee,f,hc⟩:=own_ne hx.own hg
              exact (hx.jr.own hc).2 e)
            have nk:kb≠rj:=by
              rintro rfl
              obtain ⟨n,D,⟨es,cl,hb,_⟩,_⟩:=hx.kr.km
              exact hx.jr.nt.2 _ _ hb
            have nr:r≠rj:=fun e=>by
              obtain ⟨n,D,left,cnt,⟨es,cl,since,seen,c0,hb,f,s,d,hi,rest⟩,h2⟩:=hx.kr
              obtain ⟨n',D',left',cnt',⟨es',cl',since',seen',c0',hb',f',s',d',hi',rest'⟩,h2'⟩:=hx.jr
              rw [e,hi'] at hi
              injection hi with hi
              injection hi with hi
              injection hi with hi
              exact HP.out.ne hi.symm
            have HY4:Hid (DjY W w4 kb jb r rj bb K T J Tj (diL M K J) L v b a) :=
              ⟨hB4,hx.kr.turn T4 nk nr,hj4,hO4,hx.nod,hx.mem,hx.sub,hx.hb,hx.bb.turn T4 (fun e=>hx.jr.nt.1 _ _ _ (e▸hx.bb)),hx.js,ha⟩
            have hnL:(⟨a,b⟩:Dir)∉L:=fun hx'=>by
              rcases ((hx.mem _).1 hx').2 with h1|⟨_,h1⟩
              · exact h1 hx.hb
              · exact h1 ha
            have hby:=adD_len HO.out.j hc hbK (show hoF b a=true by simp [hoF,HGL.out]) hx.nod hnL (fun y hy=>((hx.mem y).1 hy).1) hl
            have HC:=hidW (kjudge_any w4 p kb jb K J (HP.out.below hB4) S iv M (HM.out.below hB4) (HT.out.below hB4) b hbo a c hc W.heap.size v L hO4 hB4.size hby)
            have HLk:Hid (w4.rangeLeft kb r=wr.rangeLeft kb r):=turn_left T4 hx.kr.lt.2 hx.kr.lt.1 nk nr
            have HLt:=hidW hlt
            have cB:=HY4.out.bb.cell
            have HCC:=hidW hc
            clear hB4 hO4 nk nr T4 hx HJ1 hj4 hg4 hlt hs4 ha hnL hby hc
            go_wp2_with fail
            go_at_call 46
            refine HC.out.mono ?_
            rintro e w5 ⟨v5,rfl,ho5,T5⟩
            obtain ⟨hx5,hl5,hl6⟩:=HY4.out.one HO.out.j HCC.out HGL.out ho5 T5
            have HX5:=hidW hx5
            have HL5:Hid (w5.rangeLeft kb r<wz.rangeLeft kb r):=by
              have h1:=HLk.out
              have h2:=HLz.out
              show w5.rangeLeft kb r<wz.rangeLeft kb r
              omega
            have HL6:Hid (w5.rangeLeft jb rj<wr.rangeLeft jb rj):=by
              have h1:=HLt.out
              show w5.rangeLeft jb rj<wr.rangeLeft jb rj
              omega
            clear hx5 hl5 hl6 ho5 T5 HY4 HC HLk HLz HLt cB hnx hen
            go_wp2
            go_roundw
            case rel=>exact ⟨rmI Tj a,_,_,rfl,HX5,HL5⟩
            case measure=>exact HL6.out
      · have hq:(b.asid != -1)=true:=by simp [hgl]
        have HGL:=hidW hgl
        obtain ⟨c,hc⟩:=HO.out.own b hbK hgl
        have hy:=HY.out
        have hnL:(⟨b.asid,b⟩:Dir)∉L:=fun hx'=>((hy.mem _).1 hx').2 hy.hb
        have hby:=adD_len HO.out.j hc hbK (show hoF b b.asid=true by simp [hoF]) hy.nod hnL (fun y hy'=>((hy.mem y).1 hy').1) hl
        have HC:=hidW (kjudge_any _ p kb jb K J (HP.out.below hy.bel) S iv M (HM.out.below hy.bel) (HT.out.below hy.bel) b hbo b.asid c hc W.heap.size v L hy.own hy.bel.size hby)
        have HCC:=hidW hc
        clear hgl hy hnL hby hc
        go_wp2_with fail
        go_at_call 46
        refine HC.out.mono ?_
        rintro e w5 ⟨v5,rfl,ho5,T5⟩
        obtain ⟨hx5,hl5⟩:=HY.out.one HO.out.j HCC.out HGL.out ho5 T5
        have HX5:=hidW hx5
        have HL5:Hid (w5.rangeLeft kb r<wr.rangeLeft kb r):=by
          have h2:=HL.out
          show w5.rangeLeft kb r<wr.rangeLeft kb r
          omega
        clear hx5 hl5 ho5 T5 HY HC HL cB hnx hen
        go_wp2
        go_roundw
        case rel=>exact ⟨rm T b,_,_,rfl,HX5⟩
        case measure=>exact HL5.out
end Go.Proofs.YtnjlajjjcmhfgaaGreatDoor
