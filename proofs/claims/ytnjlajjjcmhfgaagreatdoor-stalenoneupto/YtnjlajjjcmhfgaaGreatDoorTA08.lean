import Derived.Test.YtnjlajjjcmhfgaaGreatDoorTA07
import Derived.Test.YtnjlajjjcmhfgaaGreatDoorTA05
namespace Go.Proofs.YtnjlajjjcmhfgaaGreatDoor
open Go.RowKit
open Mm (Turn gr RM valV errV)
set_option linter.unusedVariables false
set_option linter.unusedSimpArgs false
theorem ask_ram (w:World) (S:Nat→Prop) (p N:Nat) (m:Nat→Int) (pa:Nat) (h:RM w S p N m) (hp:pa<18446744073709551616) :
    Calls Tryz.prog 99 #[.iface 52 (.pointer (some ⟨p,0,none⟩)),.int .u64 pa] w fun e w'=>e= .returned (.tuple #[.int .u32 (valV N m pa 4),.int .i64 (errV N pa 4)])∧w=w':=by
  have HW:=hidW (Mm.rWord_any w S p N m pa h hp)
  generalize valV N m pa 4=x at *
  generalize errV N pa 4=er at *
  clear h
  go_enter Tryz.func99,Tryz.ntmps99
  go_wp2_with (first
    | (go_at_call 199; refine HW.out.mono ?_; rintro e w1 ⟨rfl,rfl⟩))
  go_ret2
  exact ⟨rfl,rfl⟩
theorem ask_nil (w:World) (pa:Int) :
    Calls Tryz.prog 99 #[.nilIface,.int .u64 pa] w fun e w'=>e= .returned (.tuple #[.int .u32 0,.int .i64 30])∧w=w':=by
  go_enter Tryz.func99,Tryz.ntmps99
  go_wp2
  go_ret2
  exact ⟨rfl,rfl⟩
theorem cleared_any (b:Int) (n:Nat) (w:World) (hb:0≤b∧b<18446744073709551616) (hn:n≤14) :
    Calls Tryz.prog 138 #[.int .u64 b,.int .i64 (n:Int)] w fun e w'=>e= .returned (.int .u64 (cl b n))∧w=w':=by
  have h1:=cl_le b n hb.1
  have hw:IntKind.u64.wrap (b / 2^n*2^n)=cl b n:=by
    unfold cl at *
    simp only [IntKind.wrap_u64]
    omega
  go_enter Tryz.func138,Tryz.ntmps138
  go_wp2
  go_ret
  exact ⟨by simp [cl],rfl⟩
theorem itself_any (va:Int) (w:World) (hv:0≤va∧va<4294967296) :
    Calls Tryz.prog 60 #[.int .u32 va] w fun e w'=>e= .returned (.agg #[.int .i64 (itF va).size,.int .u32 (itF va).va,.int .u64 (itF va).pa,.int .i64 (itF va).dom,.int .i64 (itF va).ap,.int .u32 (itF va).bits,.bool (itF va).ng,.bool (itF va).xn])∧Below w.heap.size w w':=by
  go_enter Tryz.func60,Tryz.ntmps60
  go_wp2
  refine bodyPost_ret (v:= .agg #[.int .i64 (itF va).size,.int .u32 (itF va).va,.int .u64 (itF va).pa,.int .i64 (itF va).dom,.int .i64 (itF va).ap,.int .u32 (itF va).bits,.bool (itF va).ng,.bool (itF va).xn]) (by simp [results,Tryz.results60,go_sem,itF]) rfl ⟨rfl,?_⟩
  (repeat (first|refine Below.setCell ?_ (by simp) _|refine Below.alloc ?_ (by simp) _)); exact Below.refl _ _
end Go.Proofs.YtnjlajjjcmhfgaaGreatDoor
namespace Go.Proofs.YtnjlajjjcmhfgaaGreatDoor
open Go.RowKit
open Mm (Turn gr RM valV errV)
set_option linter.unusedVariables false
set_option linter.unusedSimpArgs false
theorem and7 (n:Int):bits BinOp.and IntKind.i64 n 7=n%8:=by
  have h127:(BitVec.ofInt 64 7).toNat=2^3-1:=by decide
  have key:(BitVec.ofInt 64 n &&& BitVec.ofInt 64 7).toNat=(n%((2^64:Nat):Int)).toNat%2^3:=by
    rw [BitVec.toNat_and,BitVec.toNat_ofInt,h127,Nat.and_two_pow_sub_one_eq_mod]
  show IntKind.i64.wrap ((BitVec.ofInt 64 n &&& BitVec.ofInt 64 7).toNat:Nat)=n%8
  rw [key,IntKind.wrap_i64]
  omega
set_option maxRecDepth 100000 in
set_option maxHeartbeats 2000000 in
theorem firstAt_any (c:Ctx) (va:Int) (w:World) (hc:c.Ok) (hv:0≤va∧va<4294967296) :
    Calls Tryz.prog 98 #[.agg #[.bool c.on,.bool c.tre,.bool c.afe,.int .i64 c.n,.bool c.pd0,.bool c.pd1,.int .u64 c.b0,.int .u64 c.b1,.int .u32 c.dacr,.int .u32 c.prrr,.int .u32 c.nmrr,.int .i64 c.asid],.int .u32 va] w fun e w'=>e= .returned (.tuple #[.int .u64 (fA c va),.bool (fO c va)])∧Below w.heap.size w w':=by
  have HC0:=hidW (fun w=>cleared_any c.b0 (14-nN c) w hc.b0 (by omega))
  have HC1:=hidW (fun w=>cleared_any c.b1 14 w hc.b1 (by omega))
  have HB:Hid (∀o,Below w.heap.size w (w.alloc o)):=fun o=>below_new w o
  have hN:=nN_lt c
  have ha:bits BinOp.and IntKind.i64 c.n 7=(nN c:Int):=by rw [and7]; unfold nN; omega
  have hr:=hidW (fA_rng c va hc hv)
  have hx:=(Bl.new w 47 [.bool c.on,.bool c.tre,.bool c.afe,.int .i64 c.n,.bool c.pd0,.bool c.pd1,.int .u64 c.b0,.int .u64 c.b1,.int .u32 c.dacr,.int .u32 c.prrr,.int .u32 c.nmrr,.int .i64 c.asid]).drew
  have e14:((14-nN c:Nat):Int)=14-(nN c:Int):=by omega
  have e32:(32-(nN c:Int)).toNat=32-nN c:=by omega
  rw [e14] at HC0
  have w14:IntKind.i64.wrap (14-(nN c:Int))=14-(nN c:Int):=by rw [IntKind.wrap_i64]; omega
  have w32:IntKind.i64.wrap (32-(nN c:Int))=32-(nN c:Int):=by rw [IntKind.wrap_i64]; omega
  cases hl:lw c va
  · have hq:(va / 2^(32-nN c) == 0)=false:=hl
    have hfa:fA c va=cl c.b1 14+4*(va / 1048576):=by unfold fA; rw [hl]; rfl
    have hfo:fO c va= !c.pd1:=by unfold fO; rw [hl]; rfl
    rw [hfa] at hr ⊢
    rw [hfo]
    generalize cl c.b1 14=B at *
    go_enter Tryz.func98,Tryz.ntmps98
    go_wp2
    go_region_held3 (fun w'=>w'.cell? ⟨w.heap.size,7,none⟩=some (.int .u64 c.b1)∧w'.cell? ⟨w.heap.size,5,none⟩=some (.bool c.pd1)) (exact ⟨hx.cell 7,hx.cell 5⟩) (first|(go_at_call 138; refine (HC1.out _).mono ?_; rintro e w1 ⟨rfl,rfl⟩))
    go_wp2
    have hr:=hr.out
    go_ret2
    exact ⟨by rw [show IntKind.u64.wrap (4*(va / 1048576))=4*(va / 1048576) by rw [IntKind.wrap_u64]; omega,IntKind.wrap_u64]; simp; omega,below_drew (HB.out _)⟩
  · have hq:(va / 2^(32-nN c) == 0)=true:=hl
    have hfa:fA c va=cl c.b0 (14-nN c)+4*(va / 1048576):=by unfold fA; rw [hl]; rfl
    have hfo:fO c va= !c.pd0:=by unfold fO; rw [hl]; rfl
    rw [hfa] at hr ⊢
    rw [hfo]
    generalize cl c.b0 (14-nN c)=B at *
    go_enter Tryz.func98,Tryz.ntmps98
    go_wp2
    go_region_held3 (fun w'=>w'.cell? ⟨w.heap.size,6,none⟩=some (.int .u64 c.b0)∧w'.cell? ⟨w.heap.size,4,none⟩=some (.bool c.pd0)) (exact ⟨hx.cell 6,hx.cell 4⟩) (first|(go_at_call 138; refine (HC0.out _).mono ?_; rintro e w1 ⟨rfl,rfl⟩))
    go_wp2
    have hr:=hr.out
    go_ret2
    exact ⟨by rw [show IntKind.u64.wrap (4*(va / 1048576))=4*(va / 1048576) by rw [IntKind.wrap_u64]; omega,IntKind.wrap_u64]; simp; omega,below_drew (HB.out _)⟩
end Go.Proofs.YtnjlajjjcmhfgaaGreatDoor
namespace Go.Proofs.YtnjlajjjcmhfgaaGreatDoor
open Go.RowKit
open Mm (Turn gr RM valV errV)
set_option linter.unusedVariables false
set_option linter.unusedSimpArgs false
structure F3 (H:Nat) (St:List Int→(Nat→Prop)→World→Prop) (w:World) (Z:Nat→Prop) (x y z:Nat) (t0 t1 t2:TypeId) (l0 l1 l2:List Value) (L:List Int) (wr:World) (Zr:Nat→Prop):Prop where
  f:Fw H St w Z L wr Zr
  a:Bx wr Zr x t0 l0
  b:Bx wr Zr y t1 l1
  c:Bx wr Zr z t2 l2
  hx:w.heap.size≤x
  hy:x<y
  hz:y<z
section
variable {H:Nat} {M:Mo} {iv:Value} {St:List Int→(Nat→Prop)→World→Prop} {w wr wn:World} {Z Zr:Nat→Prop} {L L':List Int} {x y z:Nat} {t0 t1 t2:TypeId} {l0 l1 l2:List Value}
theorem F3.new (A:Asker H M iv St) (h:St L Z w) (t0 t1 t2:TypeId) (l0 l1 l2:List Value):F3 H St w Z w.heap.size (w.heap.size+1) (w.heap.size+1+1) t0 t1 t2 l0 l1 l2 L (((w.alloc (.cells l0.toArray t0)).alloc (.cells l1.toArray t1)).alloc (.cells l2.toArray t2)) Z:=by
  have f0:Fw H St w Z L w Z:=Fw.start h
  have f1:=f0.below A (below_new w (.cells l0.toArray t0))
  have f2:=f1.below A (below_new _ (.cells l1.toArray t1))
  have f3:=f2.below A (below_new _ (.cells l2.toArray t2))
  have b0:=Bx.new A f0 t0 l0
  have b1:=Bx.new A f1 t1 l1
  have b2:=Bx.new A f2 t2 l2
  rw [show (w.alloc (.cells l0.toArray t0)).heap.size=w.heap.size+1 by simp] at b1
  rw [show ((w.alloc (.cells l0.toArray t0)).alloc (.cells l1.toArray t1)).heap.size=w.heap.size+1+1 by simp] at b2
  exact ⟨f3,(b0.below (below_new _ _)).below (below_new _ _),b1.below (below_new _ _),b2,Nat.le_refl _,by omega,by omega⟩
theorem F3.below (A:Asker H M iv St) (h:F3 H St w Z x y z t0 t1 t2 l0 l1 l2 L wr Zr) (hb:Below wr.heap.size wr wn):F3 H St w Z x y z t0 t1 t2 l0 l1 l2 L wn Zr:=⟨h.f.below A hb,h.a.below hb,h.b.below hb,h.c.below hb,h.hx,h.hy,h.hz⟩
theorem F3.call (h:F3 H St w Z x y z t0 t1 t2 l0 l1 l2 L wr Zr) (hs:St L' (gr Zr wr wn) wn) (T:Turn (hot H Zr) wr wn):F3 H St w Z x y z t0 t1 t2 l0 l1 l2 L' wn (gr Zr wr wn):=⟨h.f.call hs T,h.a.call T,h.b.call T,h.c.call T,h.hx,h.hy,h.hz⟩
def Fin (H:Nat) (St:List Int→(Nat→Prop)→World→Prop) (w:World) (Z:Nat→Prop) (L:List Int) (W:World):Prop:=St L (gr Z w W) W∧Turn (hot H Z) w W
theorem F3.fin11 (A:Asker H M iv St) (h:F3 H St w Z x y z t0 t1 t2 l0 l1 l2 L wr Zr) (v0 v1 v2 v3 v4 v5 v6 v7 u0 u1 u2:Value) :
    Fin H St w Z L (((((((((((wr.setCell ⟨y,0,none⟩ v0).setCell ⟨y,1,none⟩ v1).setCell ⟨y,2,none⟩ v2).setCell ⟨y,3,none⟩ v3).setCell ⟨y,4,none⟩ v4).setCell ⟨y,5,none⟩ v5).setCell ⟨y,6,none⟩ v6).setCell ⟨y,7,none⟩ v7).setCell ⟨z,0,none⟩ u0).setCell ⟨z,1,none⟩ u1).setCell ⟨z,2,none⟩ u2):=by
  have hb:=h.b.nz
  have hc:=h.c.nz
  have k1:w.heap.size≤y:=by have:=h.hx; have:=h.hy; omega
  have k2:w.heap.size≤z:=by have:=h.hz; omega
  exact (((((((((((h.f.set A hb k1 0 v0).set A hb k1 1 v1).set A hb k1 2 v2).set A hb k1 3 v3).set A hb k1 4 v4).set A hb k1 5 v5).set A hb k1 6 v6).set A hb k1 7 v7).set A hc k2 0 u0).set A hc k2 1 u1).set A hc k2 2 u2).fin A
end
set_option maxRecDepth 100000 in
set_option maxHeartbeats 2000000 in
theorem first_shut {H:Nat} {M:Mo} {iv:Value} {St:List Int→(Nat→Prop)→World→Prop} (A:Asker H M iv St) (c:Ctx) (va:Int) (L:List Int) (Z:Nat→Prop) (w:World) (hs:St L Z w) (hL:L.length≤8) (hc:c.Ok) (hv:0≤va∧va<4294967296) (hO:fO c va=false) :
    Calls Tryz.prog 61 #[iv,.agg #[.bool c.on,.bool c.tre,.bool c.afe,.int .i64 c.n,.bool c.pd0,.bool c.pd1,.int .u64 c.b0,.int .u64 c.b1,.int .u32 c.dacr,.int .u32 c.prrr,.int .u32 c.nmrr,.int .i64 c.asid],.int .u32 va] w fun e w'=>e= .returned (.tuple #[.agg #[.int .i64 dZ.kind,.int .u64 dZ.base,.int .i64 dZ.dom,.bool dZ.ns,.int .i64 dZ.ap,.int .u32 dZ.bits,.bool dZ.ng,.bool dZ.xn],.agg #[.int .i64 3,.int .i64 0,.int .i64 0]])∧Fin H St w Z L w':=by
  have HA:=hidW (fun ww=>firstAt_any c va ww hc hv)
  rw [hO] at HA
  have HX:=hidW (F3.new A hs 47 140 88 [.bool c.on,.bool c.tre,.bool c.afe,.int .i64 c.n,.bool c.pd0,.bool c.pd1,.int .u64 c.b0,.int .u64 c.b1,.int .u32 c.dacr,.int .u32 c.prrr,.int .u32 c.nmrr,.int .i64 c.asid] [.int .i64 0,.int .u64 0,.int .i64 0,.bool false,.int .i64 0,.int .u32 0,.bool false,.bool false] [.int .i64 0,.int .i64 0,.int .i64 0])
  clear hs
  go_enter Tryz.func61,Tryz.ntmps61
  go_wp2_with fail
  go_at_call 98
  refine (HA.out _).mono ?_
  rintro e wa ⟨rfl,hb⟩
  have HX1:=hidW (HX.out.below A hb)
  clear hb HX HA
  generalize w.heap.size+1+1=z at *
  generalize w.heap.size+1=y at *
  have c1:=HX1.out.b.bl.cell
  have f1:=HX1.out.b.bl.frozen
  have l1:=HX1.out.b.bl.lt
  have c2:=HX1.out.c.bl.cell
  have f2:=HX1.out.c.bl.frozen
  have l2:=HX1.out.c.bl.lt
  have n1:¬y=z:=by have:=HX1.out.hz; omega
  have n2:¬z=y:=by have:=HX1.out.hz; omega
  go_wp2
  refine bodyPost_ret (v:= .tuple #[.agg #[.int .i64 dZ.kind,.int .u64 dZ.base,.int .i64 dZ.dom,.bool dZ.ns,.int .i64 dZ.ap,.int .u32 dZ.bits,.bool dZ.ng,.bool dZ.xn],.agg #[.int .i64 3,.int .i64 0,.int .i64 0]]) (by simp [results,Tryz.results61,go_sem,c1,f1,l1,c2,f2,l2,dZ]) rfl ⟨rfl,?_⟩
  exact HX1.out.fin11 A _ _ _ _ _ _ _ _ _ _ _
set_option maxRecDepth 100000 in
set_option maxHeartbeats 2000000 in
theorem first_bus {H:Nat} {M:Mo} {iv:Value} {St:List Int→(Nat→Prop)→World→Prop} (A:Asker H M iv St) (c:Ctx) (va:Int) (L:List Int) (Z:Nat→Prop) (w:World) (hs:St L Z w) (hL:L.length≤8) (hc:c.Ok) (hv:0≤va∧va<4294967296) (hO:fO c va=true) (x er:Int) (hx:M.wd (fA c va)=x) (he:M.er (fA c va)=er) (hne:¬er=0) :
    Calls Tryz.prog 61 #[iv,.agg #[.bool c.on,.bool c.tre,.bool c.afe,.int .i64 c.n,.bool c.pd0,.bool c.pd1,.int .u64 c.b0,.int .u64 c.b1,.int .u32 c.dacr,.int .u32 c.prrr,.int .u32 c.nmrr,.int .i64 c.asid],.int .u32 va] w fun e w'=>e= .returned (.tuple #[.agg #[.int .i64 dZ.kind,.int .u64 dZ.base,.int .i64 dZ.dom,.bool dZ.ns,.int .i64 dZ.ap,.int .u32 dZ.bits,.bool dZ.ng,.bool dZ.xn],.agg #[.int .i64 2,.int .i64 0,.int .i64 0]])∧Fin H St w Z (L++[fA c va]) w':=by
  have HA:=hidW (fun ww=>firstAt_any c va ww hc hv)
  rw [hO] at HA
  have HK:Hid (∀(Z:Nat→Prop) (w:World),St L Z w→Calls Tryz.prog 99 #[iv,.int .u64 (fA c va)] w fun e w'=>e= .returned (.tuple #[.int .u32 x,.int .i64 er])∧St (L++[fA c va]) (gr Z w w') w'∧Turn (hot H Z) w w'):=fun Z w h=>by rw [←hx,←he]; exact A.ask L Z w (fA c va) hL (fA_rng c va hc hv).1 (fA_rng c va hc hv).2 h
  have hx0:0≤x∧x<4294967296:=by rw [←hx]; exact A.ok _
  clear hx he
  have hq:(er !=0)=true:=by simp [hne]
  have HX:=hidW (F3.new A hs 47 140 88 [.bool c.on,.bool c.tre,.bool c.afe,.int .i64 c.n,.bool c.pd0,.bool c.pd1,.int .u64 c.b0,.int .u64 c.b1,.int .u32 c.dacr,.int .u32 c.prrr,.int .u32 c.nmrr,.int .i64 c.asid] [.int .i64 0,.int .u64 0,.int .i64 0,.bool false,.int .i64 0,.int .u32 0,.bool false,.bool false] [.int .i64 0,.int .i64 0,.int .i64 0])
  clear hs
  go_enter Tryz.func61,Tryz.ntmps61
  go_wp2_with fail
  go_at_call 98
  refine (HA.out _).mono ?_
  rintro e wa ⟨rfl,hb⟩
  have HX1:=hidW (HX.out.below A hb)
  clear hb HX HA
  generalize w.heap.size+1+1=z at *
  generalize w.heap.size+1=y at *
  go_wp2_with fail
  go_at_call 99
  refine (HK.out _ _ HX1.out.f.st).mono ?_
  rintro e wb ⟨rfl,hs2,T2⟩
  have HX2:=hidW (HX1.out.call hs2 T2)
  clear hs2 T2 HX1 HK
  have c1:=HX2.out.b.bl.cell
  have f1:=HX2.out.b.bl.frozen
  have l1:=HX2.out.b.bl.lt
  have c2:=HX2.out.c.bl.cell
  have f2:=HX2.out.c.bl.frozen
  have l2:=HX2.out.c.bl.lt
  have n1:¬y=z:=by have:=HX2.out.hz; omega
  have n2:¬z=y:=by have:=HX2.out.hz; omega
  go_wp2
  refine bodyPost_ret (v:= .tuple #[.agg #[.int .i64 dZ.kind,.int .u64 dZ.base,.int .i64 dZ.dom,.bool dZ.ns,.int .i64 dZ.ap,.int .u32 dZ.bits,.bool dZ.ng,.bool dZ.xn],.agg #[.int .i64 2,.int .i64 0,.int .i64 0]]) (by simp [results,Tryz.results61,go_sem,c1,f1,l1,c2,f2,l2,dZ]) rfl ⟨rfl,?_⟩
  exact HX2.out.fin11 A _ _ _ _ _ _ _ _ _ _ _
set_option maxRecDepth 100000 in
set_option maxHeartbeats 2000000 in
theorem first_zero {H:Nat} {M:Mo} {iv:Value} {St:List Int→(Nat→Prop)→World→Prop} (A:Asker H M iv St) (c:Ctx) (va:Int) (L:List Int) (Z:Nat→Prop) (w:World) (hs:St L Z w) (hL:L.length≤8) (hc:c.Ok) (hv:0≤va∧va<4294967296) (hO:fO c va=true) (x:Int) (hx:M.wd (fA c va)=x) (er:Int) (he:M.er (fA c va)=er) (h0:er=0) (k1 k2 k3:Int) (k4:Bool) (k5 k6:Int) (k7 k8:Bool) (hd:D1 x=⟨k1,k2,k3,k4,k5,k6,k7,k8⟩) (hk:k1=0) :
    Calls Tryz.prog 61 #[iv,.agg #[.bool c.on,.bool c.tre,.bool c.afe,.int .i64 c.n,.bool c.pd0,.bool c.pd1,.int .u64 c.b0,.int .u64 c.b1,.int .u32 c.dacr,.int .u32 c.prrr,.int .u32 c.nmrr,.int .i64 c.asid],.int .u32 va] w fun e w'=>e= .returned (.tuple #[.agg #[.int .i64 dZ.kind,.int .u64 dZ.base,.int .i64 dZ.dom,.bool dZ.ns,.int .i64 dZ.ap,.int .u32 dZ.bits,.bool dZ.ng,.bool dZ.xn],.agg #[.int .i64 3,.int .i64 0,.int .i64 0]])∧Fin H St w Z (L++[fA c va]) w':=by
  have HA:=hidW (fun ww=>firstAt_any c va ww hc hv)
  rw [hO] at HA
  have HK:Hid (∀(Z:Nat→Prop) (w:World),St L Z w→Calls Tryz.prog 99 #[iv,.int .u64 (fA c va)] w fun e w'=>e= .returned (.tuple #[.int .u32 x,.int .i64 er])∧St (L++[fA c va]) (gr Z w w') w'∧Turn (hot H Z) w w'):=fun Z w h=>by rw [←hx,←he]; exact A.ask L Z w (fA c va) hL (fA_rng c va hc hv).1 (fA_rng c va hc hv).2 h
  have hx0:0≤x∧x<4294967296:=by rw [←hx]; exact A.ok _
  clear hx he
  subst h0
  have HD:=hidW (fun ww ht=>Decode1_any x ww ht hx0)
  rw [hd] at HD
  clear hd
  have HX:=hidW (F3.new A hs 47 140 88 [.bool c.on,.bool c.tre,.bool c.afe,.int .i64 c.n,.bool c.pd0,.bool c.pd1,.int .u64 c.b0,.int .u64 c.b1,.int .u32 c.dacr,.int .u32 c.prrr,.int .u32 c.nmrr,.int .i64 c.asid] [.int .i64 0,.int .u64 0,.int .i64 0,.bool false,.int .i64 0,.int .u32 0,.bool false,.bool false] [.int .i64 0,.int .i64 0,.int .i64 0])
  clear hs
  go_enter Tryz.func61,Tryz.ntmps61
  go_wp2_with fail
  go_at_call 98
  refine (HA.out _).mono ?_
  rintro e wa ⟨rfl,hb⟩
  have HX1:=hidW (HX.out.below A hb)
  clear hb HX HA
  generalize w.heap.size+1+1=z at *
  generalize w.heap.size+1=y at *
  go_wp2_with fail
  go_at_call 99
  refine (HK.out _ _ HX1.out.f.st).mono ?_
  rintro e wb ⟨rfl,hs2,T2⟩
  have HX2:=hidW (HX1.out.call hs2 T2)
  clear hs2 T2 HX1 HK
  go_wp2_with fail
  go_at_call 100
  refine (HD.out _ (A.tab HX2.out.f.st).r.toTD).mono ?_
  rintro e wc ⟨rfl,hb⟩
  have HX3:=hidW (HX2.out.below A hb)
  clear hb HX2 HD
  subst hk
  have HX4:=hidW (HX3.out.below A (below_new wc (.cells #[.int .i64 0,.int .u64 k2,.int .i64 k3,.bool k4,.int .i64 k5,.int .u32 k6,.bool k7,.bool k8] 140)))
  have c1:=HX4.out.b.bl.cell
  have f1:=HX4.out.b.bl.frozen
  have c2:=HX4.out.c.bl.cell
  have f2:=HX4.out.c.bl.frozen
  have n1:¬y=z:=by have:=HX3.out.hz; omega
  have n2:¬z=y:=by have:=HX3.out.hz; omega
  go_wp2
  refine bodyPost_ret (v:= .tuple #[.agg #[.int .i64 dZ.kind,.int .u64 dZ.base,.int .i64 dZ.dom,.bool dZ.ns,.int .i64 dZ.ap,.int .u32 dZ.bits,.bool dZ.ng,.bool dZ.xn],.agg #[.int .i64 3,.int .i64 0,.int .i64 0]]) (by simp [results,Tryz.results61,go_sem,c1,f1,c2,f2,n1,n2,dZ]) rfl ⟨rfl,?_⟩
  exact HX4.out.fin11 A _ _ _ _ _ _ _ _ _ _ _
set_option maxRecDepth 100000 in
set_option maxHeartbeats 2000000 in
theorem first_ok {H:Nat} {M:Mo} {iv:Value} {St:List Int→(Nat→Prop)→World→Prop} (A:Asker H M iv St) (c:Ctx) (va:Int) (L:List Int) (Z:Nat→Prop) (w:World) (hs:St L Z w) (hL:L.length≤8) (hc:c.Ok) (hv:0≤va∧va<4294967296) (hO:fO c va=true) (x:Int) (hx:M.wd (fA c va)=x) (er:Int) (he:M.er (fA c va)=er) (h0:er=0) (k1 k2 k3:Int) (k4:Bool) (k5 k6:Int) (k7 k8:Bool) (hd:D1 x=⟨k1,k2,k3,k4,k5,k6,k7,k8⟩) (hk:¬k1=0) :
    Calls Tryz.prog 61 #[iv,.agg #[.bool c.on,.bool c.tre,.bool c.afe,.int .i64 c.n,.bool c.pd0,.bool c.pd1,.int .u64 c.b0,.int .u64 c.b1,.int .u32 c.dacr,.int .u32 c.prrr,.int .u32 c.nmrr,.int .i64 c.asid],.int .u32 va] w fun e w'=>e= .returned (.tuple #[.agg #[.int .i64 k1,.int .u64 k2,.int .i64 k3,.bool k4,.int .i64 k5,.int .u32 k6,.bool k7,.bool k8],.agg #[.int .i64 0,.int .i64 0,.int .i64 0]])∧Fin H St w Z (L++[fA c va]) w':=by
  have HA:=hidW (fun ww=>firstAt_any c va ww hc hv)
  rw [hO] at HA
  have HK:Hid (∀(Z:Nat→Prop) (w:World),St L Z w→Calls Tryz.prog 99 #[iv,.int .u64 (fA c va)] w fun e w'=>e= .returned (.tuple #[.int .u32 x,.int .i64 er])∧St (L++[fA c va]) (gr Z w w') w'∧Turn (hot H Z) w w'):=fun Z w h=>by rw [←hx,←he]; exact A.ask L Z w (fA c va) hL (fA_rng c va hc hv).1 (fA_rng c va hc hv).2 h
  have hx0:0≤x∧x<4294967296:=by rw [←hx]; exact A.ok _
  clear hx he
  subst h0
  have HD:=hidW (fun ww ht=>Decode1_any x ww ht hx0)
  rw [hd] at HD
  clear hd
  have HX:=hidW (F3.new A hs 47 140 88 [.bool c.on,.bool c.tre,.bool c.afe,.int .i64 c.n,.bool c.pd0,.bool c.pd1,.int .u64 c.b0,.int .u64 c.b1,.int .u32 c.dacr,.int .u32 c.prrr,.int .u32 c.nmrr,.int .i64 c.asid] [.int .i64 0,.int .u64 0,.int .i64 0,.bool false,.int .i64 0,.int .u32 0,.bool false,.bool false] [.int .i64 0,.int .i64 0,.int .i64 0])
  clear hs
  go_enter Tryz.func61,Tryz.ntmps61
  go_wp2_with fail
  go_at_call 98
  refine (HA.out _).mono ?_
  rintro e wa ⟨rfl,hb⟩
  have HX1:=hidW (HX.out.below A hb)
  clear hb HX HA
  generalize w.heap.size+1+1=z at *
  generalize w.heap.size+1=y at *
  go_wp2_with fail
  go_at_call 99
  refine (HK.out _ _ HX1.out.f.st).mono ?_
  rintro e wb ⟨rfl,hs2,T2⟩
  have HX2:=hidW (HX1.out.call hs2 T2)
  clear hs2 T2 HX1 HK
  go_wp2_with fail
  go_at_call 100
  refine (HD.out _ (A.tab HX2.out.f.st).r.toTD).mono ?_
  rintro e wc ⟨rfl,hb⟩
  have HX3:=hidW (HX2.out.below A hb)
  clear hb HX2 HD
  have hq:(k1 == 0)=false:=by simp [hk]
  have HX4:=hidW (HX3.out.below A (below_new wc (.cells #[.int .i64 k1,.int .u64 k2,.int .i64 k3,.bool k4,.int .i64 k5,.int .u32 k6,.bool k7,.bool k8] 140)))
  have c1:=HX4.out.b.bl.cell
  have f1:=HX4.out.b.bl.frozen
  have c2:=HX4.out.c.bl.cell
  have f2:=HX4.out.c.bl.frozen
  have n1:¬y=z:=by have:=HX3.out.hz; omega
  have n2:¬z=y:=by have:=HX3.out.hz; omega
  go_wp2
  refine bodyPost_ret (v:= .tuple #[.agg #[.int .i64 k1,.int .u64 k2,.int .i64 k3,.bool k4,.int .i64 k5,.int .u32 k6,.bool k7,.bool k8],.agg #[.int .i64 0,.int .i64 0,.int .i64 0]]) (by simp [results,Tryz.results61,go_sem,c1,f1,c2,f2,n1,n2,dZ]) rfl ⟨rfl,?_⟩
  exact HX4.out.fin11 A _ _ _ _ _ _ _ _ _ _ _
theorem first_any {H:Nat} {M:Mo} {iv:Value} {St:List Int→(Nat→Prop)→World→Prop} (A:Asker H M iv St) (c:Ctx) (va:Int) (L:List Int) (Z:Nat→Prop) (w:World) (hs:St L Z w) (hL:L.length≤8) (hc:c.Ok) (hv:0≤va∧va<4294967296) :
    Calls Tryz.prog 61 #[iv,.agg #[.bool c.on,.bool c.tre,.bool c.afe,.int .i64 c.n,.bool c.pd0,.bool c.pd1,.int .u64 c.b0,.int .u64 c.b1,.int .u32 c.dacr,.int .u32 c.prrr,.int .u32 c.nmrr,.int .i64 c.asid],.int .u32 va] w fun e w'=>e= .returned (.tuple #[.agg #[.int .i64 ((w1 M c va).1).kind,.int .u64 ((w1 M c va).1).base,.int .i64 ((w1 M c va).1).dom,.bool ((w1 M c va).1).ns,.int .i64 ((w1 M c va).1).ap,.int .u32 ((w1 M c va).1).bits,.bool ((w1 M c va).1).ng,.bool ((w1 M c va).1).xn],.agg #[.int .i64 ((w1 M c va).2).k,.int .i64 ((w1 M c va).2).l,.int .i64 ((w1 M c va).2).d]])∧Fin H St w Z (L++r1 c va) w':=by
  unfold w1 r1
  cases hO:fO c va
  · have h:=first_shut A c va L Z w hs hL hc hv hO
    simpa using h
  · by_cases he:M.er (fA c va)=0
    · by_cases hk:(D1 (M.wd (fA c va))).kind=0
      · have h:=first_zero A c va L Z w hs hL hc hv hO _ rfl _ rfl he (D1 (M.wd (fA c va))).kind (D1 (M.wd (fA c va))).base (D1 (M.wd (fA c va))).dom (D1 (M.wd (fA c va))).ns (D1 (M.wd (fA c va))).ap (D1 (M.wd (fA c va))).bits (D1 (M.wd (fA c va))).ng (D1 (M.wd (fA c va))).xn rfl hk
        simpa [he,hk] using h
      · have h:=first_ok A c va L Z w hs hL hc hv hO _ rfl _ rfl he (D1 (M.wd (fA c va))).kind (D1 (M.wd (fA c va))).base (D1 (M.wd (fA c va))).dom (D1 (M.wd (fA c va))).ns (D1 (M.wd (fA c va))).ap (D1 (M.wd (fA c va))).bits (D1 (M.wd (fA c va))).ng (D1 (M.wd (fA c va))).xn rfl hk
        simpa [he,hk,fZ] using h
    · have h:=first_bus A c va L Z w hs hL hc hv hO _ _ rfl rfl he
      simpa [he] using h
end Go.Proofs.YtnjlajjjcmhfgaaGreatDoor
