import Derived.Test.YtkmgmmmpiallhaaDoorRs
namespace Go.Proofs.YtkmgmmmpiallhaaDoor
open Go.RowKit
set_option linter.unusedVariables false
set_option linter.unusedSimpArgs false
def restW (LY:Int→Nat→Nat→Nat) (ps:List (Int×Nat)) (k acc:Nat):Nat:=(ps.drop k).foldl (fun a p=>LY p.1 a p.2) acc
theorem WX.drew {W w:World} {R I:List Value} (h:WX W R I w):WX W R I w.drew:=⟨below_drew h.bel,h.row.drew,h.ins.drew⟩
theorem ww_cells {W w:World} {a b c x0 x1 x2 x3 x4 x5 x6 x7 x8 x9 x10 x11 x12 x13 x14 x15 x16 x17 x18 x19:Value} (h:WX W [a,b,c] [x0,x1,x2,x3,x4,x5,x6,x7,x8,x9,x10,x11,x12,x13,x14,x15,x16,x17,x18,x19] w) :
    w.cell? ⟨W.heap.size+1,0,none⟩=some x0∧w.cell? ⟨W.heap.size+1,1,none⟩=some x1∧w.cell? ⟨W.heap.size+1,2,none⟩=some x2∧w.cell? ⟨W.heap.size+1,4,none⟩=some x4∧w.cell? ⟨W.heap.size+1,5,none⟩=some x5∧w.cell? ⟨W.heap.size+1,6,none⟩=some x6∧w.cell? ⟨W.heap.size+1,7,none⟩=some x7∧w.cell? ⟨W.heap.size+1,8,none⟩=some x8∧w.cell? ⟨W.heap.size+1,9,none⟩=some x9∧w.cell? ⟨W.heap.size+1,10,none⟩=some x10∧w.cell? ⟨W.heap.size+1,11,none⟩=some x11∧w.cell? ⟨W.heap.size+1,12,none⟩=some x12∧w.cell? ⟨W.heap.size+1,13,none⟩=some x13∧w.cell? ⟨W.heap.size+1,14,none⟩=some x14∧w.cell? ⟨W.heap.size+1,15,none⟩=some x15∧w.cell? ⟨W.heap.size+1,16,none⟩=some x16∧w.cell? ⟨W.heap.size+1,17,none⟩=some x17∧w.cell? ⟨W.heap.size+1,18,none⟩=some x18∧w.cell? ⟨W.heap.size+1,19,none⟩=some x19 :=
  ⟨h.ins.cell 0,h.ins.cell 1,h.ins.cell 2,h.ins.cell 4,h.ins.cell 5,h.ins.cell 6,h.ins.cell 7,h.ins.cell 8,h.ins.cell 9,h.ins.cell 10,h.ins.cell 11,h.ins.cell 12,h.ins.cell 13,h.ins.cell 14,h.ins.cell 15,h.ins.cell 16,h.ins.cell 17,h.ins.cell 18,h.ins.cell 19⟩
theorem ww_cells9 {W w:World} {a b c x0 x1 x2 x3 x4 x5 x6 x7 x8 x9 x10 x11 x12 x13 x14 x15 x16 x17 x18 x19:Value} (h:WX W [a,b,c] [x0,x1,x2,x3,x4,x5,x6,x7,x8,x9,x10,x11,x12,x13,x14,x15,x16,x17,x18,x19] w) :
    w.cell? ⟨W.heap.size+1,0,none⟩=some x0∧w.cell? ⟨W.heap.size+1,1,none⟩=some x1∧w.cell? ⟨W.heap.size+1,2,none⟩=some x2∧w.cell? ⟨W.heap.size+1,4,none⟩=some x4∧w.cell? ⟨W.heap.size+1,5,none⟩=some x5∧w.cell? ⟨W.heap.size+1,6,none⟩=some x6∧w.cell? ⟨W.heap.size+1,7,none⟩=some x7∧w.cell? ⟨W.heap.size+1,8,none⟩=some x8∧w.cell? ⟨W.heap.size+1,10,none⟩=some x10∧w.cell? ⟨W.heap.size+1,11,none⟩=some x11∧w.cell? ⟨W.heap.size+1,12,none⟩=some x12∧w.cell? ⟨W.heap.size+1,13,none⟩=some x13∧w.cell? ⟨W.heap.size+1,14,none⟩=some x14∧w.cell? ⟨W.heap.size+1,15,none⟩=some x15∧w.cell? ⟨W.heap.size+1,16,none⟩=some x16∧w.cell? ⟨W.heap.size+1,17,none⟩=some x17∧w.cell? ⟨W.heap.size+1,18,none⟩=some x18∧w.cell? ⟨W.heap.size+1,19,none⟩=some x19 :=
  ⟨h.ins.cell 0,h.ins.cell 1,h.ins.cell 2,h.ins.cell 4,h.ins.cell 5,h.ins.cell 6,h.ins.cell 7,h.ins.cell 8,h.ins.cell 10,h.ins.cell 11,h.ins.cell 12,h.ins.cell 13,h.ins.cell 14,h.ins.cell 15,h.ins.cell 16,h.ins.cell 17,h.ins.cell 18,h.ins.cell 19⟩
theorem vw_cells {w:World} {p:Nat} {x0 x1 x2 x3 x4 x5 x6 x7 x8 x9 x10 x11 x12 x13 x14 x15 x16 x17 x18:Value} (h:Bl w p 22 [x0,x1,x2,x3,x4,x5,x6,x7,x8,x9,x10,x11,x12,x13,x14,x15,x16,x17,x18]) :
    w.cell? ⟨p,0,none⟩=some x0∧w.cell? ⟨p,1,none⟩=some x1∧w.cell? ⟨p,2,none⟩=some x2∧w.cell? ⟨p,3,none⟩=some x3∧w.cell? ⟨p,4,none⟩=some x4∧w.cell? ⟨p,5,none⟩=some x5∧w.cell? ⟨p,6,none⟩=some x6∧w.cell? ⟨p,7,none⟩=some x7∧w.cell? ⟨p,8,none⟩=some x8∧w.cell? ⟨p,9,none⟩=some x9∧w.cell? ⟨p,10,none⟩=some x10∧w.cell? ⟨p,11,none⟩=some x11∧w.cell? ⟨p,12,none⟩=some x12∧w.cell? ⟨p,13,none⟩=some x13∧w.cell? ⟨p,14,none⟩=some x14∧w.cell? ⟨p,15,none⟩=some x15∧w.cell? ⟨p,16,none⟩=some x16∧w.cell? ⟨p,17,none⟩=some x17∧w.cell? ⟨p,18,none⟩=some x18 :=
  ⟨h.cell 0,h.cell 1,h.cell 2,h.cell 3,h.cell 4,h.cell 5,h.cell 6,h.cell 7,h.cell 8,h.cell 9,h.cell 10,h.cell 11,h.cell 12,h.cell 13,h.cell 14,h.cell 15,h.cell 16,h.cell 17,h.cell 18⟩
set_option maxRecDepth 100000 in
set_option maxHeartbeats 8000000 in
theorem word_core (o:Value) (q:Int) (s:ByteArray) (jc jo jf jd jn jm jr ja ji jt jk jl jx jy jz jv:Int) (js jp ju jw:Bool) (w:World) (LY:Int→Nat→Nat→Nat) (BT:Bool→Nat) (v0 v1 v2 v3 v4 v5 v6 v7 v8 v9 v10 v11 v12 v13 v14 a0 TOT:Nat) (OM:Int)
    (H0:Hid (∀w',Calls Tryd.prog 55 #[.string s,.int .u8 49,.int .u32 0,.int .u32 4294967295] w' fun e w''=>e= .returned (.int .u32 (a0:Int))∧w''=w'))
    (HLY:Hid (∀(K:Int) (acc v:Nat) w',0≤K→K<256→K≠32→acc<4294967296→v<4294967296→Calls Tryd.prog 55 #[.string s,.int .u8 K,.int .u32 (acc:Int),.int .u32 (v:Int)] w' fun e w''=>e= .returned (.int .u32 (LY K acc v:Int))∧w''=w'))
    (HLT:Hid (∀K acc v,LY K acc v<4294967296)) (ha0:Hid (a0<4294967296))
    (HB:Hid (∀b w',Calls Tryd.prog 56 #[.bool b] w' fun e w''=>e= .returned (.int .u32 (BT b:Int))∧w''=w'))
    (e0:IntKind.u32.wrap jc=(v0:Int)) (eo:IntKind.i64.wrap (jo-1)=OM) (eo':wrap64 (jo-1)=OM) (e1:IntKind.u32.wrap OM=(v1:Int)) (e2:IntKind.u32.wrap jd=(v2:Int)) (e3:IntKind.u32.wrap jn=(v3:Int)) (e4:IntKind.u32.wrap jm=(v4:Int)) (e5:IntKind.u32.wrap jr=(v5:Int)) (e6:IntKind.u32.wrap ja=(v6:Int)) (e7:IntKind.u32.wrap jt=(v7:Int)) (e8:IntKind.u32.wrap jk=(v8:Int)) (e9:IntKind.u32.wrap jx=(v9:Int)) (e10:IntKind.u32.wrap jy=(v10:Int)) (e11:IntKind.u32.wrap jz=(v11:Int)) (e12:IntKind.u32.wrap jv=(v12:Int)) (e13:IntKind.u32.wrap jl=(v13:Int))
    (A Bb:Bool) (h41:(jo == 41)=A) (h42:(jo == 42)=Bb) (hAB:(A && Bb)=false) (vi:Nat) (e14:ji=(vi:Int)) (eN:(A || Bb)=false→(vi:Int)=(v14:Int)) (eB:(A || Bb)=true→(vi:Int) / 4=(v14:Int)∧(vi:Int).tdiv 4=(v14:Int)∧(v14:Int)%4294967296=(v14:Int))
    (HV:Hid (∀v∈[v0,v1,v2,v3,v4,v5,v6,v7,v8,v9,v10,v11,v12,v13,v14,BT js,BT jp,BT ju,BT jw],v<4294967296))
    (HT:Hid (restW LY [(99,v0),(111,v1),(100,v2),(110,v3),(109,v4),(114,v5),(97,v6),(116,v7),(107,v8),(120,v9),(121,v10),(122,v11),(118,v12),(108,v13),(105,v14),(115,BT js),(112,BT jp),(117,BT ju),(119,BT jw)] 0 a0=TOT)) :
    Calls Tryd.prog 37 #[.agg #[o,.int .i64 q,.string s],.agg #[.int .i64 jc,.int .i64 jo,.bool js,.int .i64 jf,.int .i64 jd,.int .i64 jn,.int .i64 jm,.int .i64 jr,.int .i64 ja,.int .u32 ji,.int .i64 jt,.int .i64 jk,.bool jp,.bool ju,.bool jw,.int .u16 jl,.int .i64 jx,.int .i64 jy,.int .i64 jz,.int .i64 jv]] w fun e w'=>e= .returned (.int .u32 (TOT:Int))∧Below w.heap.size w w':=by
  have HX:=hidW (WX.first w [o,.int .i64 q,.string s] ([.int .i64 jc,.int .i64 jo,.bool js,.int .i64 jf,.int .i64 jd,.int .i64 jn,.int .i64 jm,.int .i64 jr,.int .i64 ja,.int .u32 ji,.int .i64 jt,.int .i64 jk,.bool jp,.bool ju,.bool jw,.int .u16 jl,.int .i64 jx,.int .i64 jy,.int .i64 jz,.int .i64 jv]))
  obtain ⟨m0,m1,m2,m4,m5,m6,m7,m8,m9,m10,m11,m12,m13,m14,m15,m16,m17,m18,m19⟩:=ww_cells HX.out
  subst e14
  cases A <;>cases Bb
  case true.true=>cases hAB
  all_goals first|(have f0:=eN rfl; obtain rfl:v14=vi:=by omega)|(obtain ⟨f1,f2,f3⟩:=eB rfl)
  all_goals clear eN eB hAB
  all_goals
    go_enter Tryd.func37,Tryd.ntmps37
    go_wp2_with (go_at_call 55; refine (H0.out _).mono ?_; rintro e wx ⟨rfl,rfl⟩)
    have HX:=hidW HX.out.drew
    clear m0 m1 m2 m4 m5 m6 m7 m8 m9 m10 m11 m12 m13 m14 m15 m16 m17 m18 m19
    have K1:=ww_cells9 HX.out
    refine wp_region_held_drew (S:=fun w'=>w'.cell? ⟨w.heap.size+1,0,none⟩=some (.int .i64 jc)∧w'.cell? ⟨w.heap.size+1,1,none⟩=some (.int .i64 jo)∧w'.cell? ⟨w.heap.size+1,2,none⟩=some (.bool js)∧w'.cell? ⟨w.heap.size+1,4,none⟩=some (.int .i64 jd)∧w'.cell? ⟨w.heap.size+1,5,none⟩=some (.int .i64 jn)∧w'.cell? ⟨w.heap.size+1,6,none⟩=some (.int .i64 jm)∧w'.cell? ⟨w.heap.size+1,7,none⟩=some (.int .i64 jr)∧w'.cell? ⟨w.heap.size+1,8,none⟩=some (.int .i64 ja)∧w'.cell? ⟨w.heap.size+1,10,none⟩=some (.int .i64 jt)∧w'.cell? ⟨w.heap.size+1,11,none⟩=some (.int .i64 jk)∧w'.cell? ⟨w.heap.size+1,12,none⟩=some (.bool jp)∧w'.cell? ⟨w.heap.size+1,13,none⟩=some (.bool ju)∧w'.cell? ⟨w.heap.size+1,14,none⟩=some (.bool jw)∧w'.cell? ⟨w.heap.size+1,15,none⟩=some (.int .u16 jl)∧w'.cell? ⟨w.heap.size+1,16,none⟩=some (.int .i64 jx)∧w'.cell? ⟨w.heap.size+1,17,none⟩=some (.int .i64 jy)∧w'.cell? ⟨w.heap.size+1,18,none⟩=some (.int .i64 jz)∧w'.cell? ⟨w.heap.size+1,19,none⟩=some (.int .i64 jv)) (by kernel_rfl) K1 (fun hHeld=> ?_)
    clear hHeld
    generalize World.drew _=wd at HX K1 ⊢
    have K2:=hidW K1
    clear K1
    refine tkH 0 ⟨some 27,.fieldAddr 28 (.tmp 3) 0,0,_,#[],none⟩ ?_ ?_ ?_
    rotate_left
    · (intro w hSw; (try dsimp only at hSw); go_simp; try with_reducible rfl)
    simp only [Act.put,List.setIfInBounds_toArray,List.set_cons_zero,List.set_cons_succ]
    refine tkH 1 ⟨some 28,.load 3 (.tmp 27),3,_,#[⟨0,.data⟩],none⟩ ?_ ?_ ?_
    rotate_left
    · (intro w hSw; (try dsimp only at hSw); go_simp; try with_reducible rfl)
    simp only [Act.put,List.setIfInBounds_toArray,List.set_cons_zero,List.set_cons_succ]
    refine tkH 2 ⟨some 29,.convert 3 22 (.tmp 28),22,_,#[⟨1,.data⟩],none⟩ ?_ ?_ ?_
    rotate_left
    · (intro w hSw; (try dsimp only at hSw); go_simp; try with_reducible rfl)
    simp only [Act.put,List.setIfInBounds_toArray,List.set_cons_zero,List.set_cons_succ]
    refine tkH 3 ⟨some 30,.fieldAddr 28 (.tmp 3) 1,0,_,#[],none⟩ ?_ ?_ ?_
    rotate_left
    · (intro w hSw; (try dsimp only at hSw); go_simp; try with_reducible rfl)
    simp only [Act.put,List.setIfInBounds_toArray,List.set_cons_zero,List.set_cons_succ]
    refine tkH 4 ⟨some 31,.load 3 (.tmp 30),3,_,#[⟨3,.data⟩],none⟩ ?_ ?_ ?_
    rotate_left
    · (intro w hSw; (try dsimp only at hSw); go_simp; try with_reducible rfl)
    simp only [Act.put,List.setIfInBounds_toArray,List.set_cons_zero,List.set_cons_succ]
    refine tkH 5 ⟨some 32,.binOp BinOp.sub 3 (.tmp 31) (.const (Value.int IntKind.i64 1)) 3,3,_,#[⟨4,.data⟩],none⟩ ?_ ?_ ?_
    rotate_left
    · (intro w hSw; (try dsimp only at hSw); go_simp; try with_reducible rfl)
    simp only [Act.put,List.setIfInBounds_toArray,List.set_cons_zero,List.set_cons_succ]
    refine tkH 6 ⟨some 33,.convert 3 22 (.tmp 32),22,_,#[⟨5,.data⟩],none⟩ ?_ ?_ ?_
    rotate_left
    · (intro w hSw; (try dsimp only at hSw); go_simp; try with_reducible rfl)
    simp only [Act.put,List.setIfInBounds_toArray,List.set_cons_zero,List.set_cons_succ]
    refine tkH 7 ⟨some 34,.fieldAddr 28 (.tmp 3) 4,0,_,#[],none⟩ ?_ ?_ ?_
    rotate_left
    · (intro w hSw; (try dsimp only at hSw); go_simp; try with_reducible rfl)
    simp only [Act.put,List.setIfInBounds_toArray,List.set_cons_zero,List.set_cons_succ]
    refine tkH 8 ⟨some 35,.load 3 (.tmp 34),3,_,#[⟨7,.data⟩],none⟩ ?_ ?_ ?_
    rotate_left
    · (intro w hSw; (try dsimp only at hSw); go_simp; try with_reducible rfl)
    simp only [Act.put,List.setIfInBounds_toArray,List.set_cons_zero,List.set_cons_succ]
    refine tkH 9 ⟨some 36,.convert 3 22 (.tmp 35),22,_,#[⟨8,.data⟩],none⟩ ?_ ?_ ?_
    rotate_left
    · (intro w hSw; (try dsimp only at hSw); go_simp; try with_reducible rfl)
    simp only [Act.put,List.setIfInBounds_toArray,List.set_cons_zero,List.set_cons_succ]
    refine tkH 10 ⟨some 37,.fieldAddr 28 (.tmp 3) 5,0,_,#[],none⟩ ?_ ?_ ?_
    rotate_left
    · (intro w hSw; (try dsimp only at hSw); go_simp; try with_reducible rfl)
    simp only [Act.put,List.setIfInBounds_toArray,List.set_cons_zero,List.set_cons_succ]
    refine tkH 11 ⟨some 38,.load 3 (.tmp 37),3,_,#[⟨10,.data⟩],none⟩ ?_ ?_ ?_
    rotate_left
    · (intro w hSw; (try dsimp only at hSw); go_simp; try with_reducible rfl)
    simp only [Act.put,List.setIfInBounds_toArray,List.set_cons_zero,List.set_cons_succ]
    refine tkH 12 ⟨some 39,.convert 3 22 (.tmp 38),22,_,#[⟨11,.data⟩],none⟩ ?_ ?_ ?_
    rotate_left
    · (intro w hSw; (try dsimp only at hSw); go_simp; try with_reducible rfl)
    simp only [Act.put,List.setIfInBounds_toArray,List.set_cons_zero,List.set_cons_succ]
    refine tkH 13 ⟨some 40,.fieldAddr 28 (.tmp 3) 6,0,_,#[],none⟩ ?_ ?_ ?_
    rotate_left
    · (intro w hSw; (try dsimp only at hSw); go_simp; try with_reducible rfl)
    simp only [Act.put,List.setIfInBounds_toArray,List.set_cons_zero,List.set_cons_succ]
    refine tkH 14 ⟨some 41,.load 3 (.tmp 40),3,_,#[⟨13,.data⟩],none⟩ ?_ ?_ ?_
    rotate_left
    · (intro w hSw; (try dsimp only at hSw); go_simp; try with_reducible rfl)
    simp only [Act.put,List.setIfInBounds_toArray,List.set_cons_zero,List.set_cons_succ]
    refine tkH 15 ⟨some 42,.convert 3 22 (.tmp 41),22,_,#[⟨14,.data⟩],none⟩ ?_ ?_ ?_
    rotate_left
    · (intro w hSw; (try dsimp only at hSw); go_simp; try with_reducible rfl)
    simp only [Act.put,List.setIfInBounds_toArray,List.set_cons_zero,List.set_cons_succ]
    refine tkH 16 ⟨some 43,.fieldAddr 28 (.tmp 3) 7,0,_,#[],none⟩ ?_ ?_ ?_
    rotate_left
    · (intro w hSw; (try dsimp only at hSw); go_simp; try with_reducible rfl)
    simp only [Act.put,List.setIfInBounds_toArray,List.set_cons_zero,List.set_cons_succ]
    refine tkH 17 ⟨some 44,.load 3 (.tmp 43),3,_,#[⟨16,.data⟩],none⟩ ?_ ?_ ?_
    rotate_left
    · (intro w hSw; (try dsimp only at hSw); go_simp; try with_reducible rfl)
    simp only [Act.put,List.setIfInBounds_toArray,List.set_cons_zero,List.set_cons_succ]
    refine tkH 18 ⟨some 45,.convert 3 22 (.tmp 44),22,_,#[⟨17,.data⟩],none⟩ ?_ ?_ ?_
    rotate_left
    · (intro w hSw; (try dsimp only at hSw); go_simp; try with_reducible rfl)
    simp only [Act.put,List.setIfInBounds_toArray,List.set_cons_zero,List.set_cons_succ]
    refine tkH 19 ⟨some 46,.fieldAddr 28 (.tmp 3) 8,0,_,#[],none⟩ ?_ ?_ ?_
    rotate_left
    · (intro w hSw; (try dsimp only at hSw); go_simp; try with_reducible rfl)
    simp only [Act.put,List.setIfInBounds_toArray,List.set_cons_zero,List.set_cons_succ]
    refine tkH 20 ⟨some 47,.load 3 (.tmp 46),3,_,#[⟨19,.data⟩],none⟩ ?_ ?_ ?_
    rotate_left
    · (intro w hSw; (try dsimp only at hSw); go_simp; try with_reducible rfl)
    simp only [Act.put,List.setIfInBounds_toArray,List.set_cons_zero,List.set_cons_succ]
    refine tkH 21 ⟨some 48,.convert 3 22 (.tmp 47),22,_,#[⟨20,.data⟩],none⟩ ?_ ?_ ?_
    rotate_left
    · (intro w hSw; (try dsimp only at hSw); go_simp; try with_reducible rfl)
    simp only [Act.put,List.setIfInBounds_toArray,List.set_cons_zero,List.set_cons_succ]
    refine tkH 22 ⟨some 49,.fieldAddr 28 (.tmp 3) 10,0,_,#[],none⟩ ?_ ?_ ?_
    rotate_left
    · (intro w hSw; (try dsimp only at hSw); go_simp; try with_reducible rfl)
    simp only [Act.put,List.setIfInBounds_toArray,List.set_cons_zero,List.set_cons_succ]
    refine tkH 23 ⟨some 50,.load 3 (.tmp 49),3,_,#[⟨22,.data⟩],none⟩ ?_ ?_ ?_
    rotate_left
    · (intro w hSw; (try dsimp only at hSw); go_simp; try with_reducible rfl)
    simp only [Act.put,List.setIfInBounds_toArray,List.set_cons_zero,List.set_cons_succ]
    refine tkH 24 ⟨some 51,.convert 3 22 (.tmp 50),22,_,#[⟨23,.data⟩],none⟩ ?_ ?_ ?_
    rotate_left
    · (intro w hSw; (try dsimp only at hSw); go_simp; try with_reducible rfl)
    simp only [Act.put,List.setIfInBounds_toArray,List.set_cons_zero,List.set_cons_succ]
    refine tkH 25 ⟨some 52,.fieldAddr 28 (.tmp 3) 11,0,_,#[],none⟩ ?_ ?_ ?_
    rotate_left
    · (intro w hSw; (try dsimp only at hSw); go_simp; try with_reducible rfl)
    simp only [Act.put,List.setIfInBounds_toArray,List.set_cons_zero,List.set_cons_succ]
    refine tkH 26 ⟨some 53,.load 3 (.tmp 52),3,_,#[⟨25,.data⟩],none⟩ ?_ ?_ ?_
    rotate_left
    · (intro w hSw; (try dsimp only at hSw); go_simp; try with_reducible rfl)
    simp only [Act.put,List.setIfInBounds_toArray,List.set_cons_zero,List.set_cons_succ]
    refine tkH 27 ⟨some 54,.convert 3 22 (.tmp 53),22,_,#[⟨26,.data⟩],none⟩ ?_ ?_ ?_
    rotate_left
    · (intro w hSw; (try dsimp only at hSw); go_simp; try with_reducible rfl)
    simp only [Act.put,List.setIfInBounds_toArray,List.set_cons_zero,List.set_cons_succ]
    refine tkH 28 ⟨some 55,.fieldAddr 28 (.tmp 3) 16,0,_,#[],none⟩ ?_ ?_ ?_
    rotate_left
    · (intro w hSw; (try dsimp only at hSw); go_simp; try with_reducible rfl)
    simp only [Act.put,List.setIfInBounds_toArray,List.set_cons_zero,List.set_cons_succ]
    refine tkH 29 ⟨some 56,.fieldAddr 26 (.tmp 55) 0,0,_,#[⟨28,.data⟩],none⟩ ?_ ?_ ?_
    rotate_left
    · (intro w hSw; (try dsimp only at hSw); go_simp; try with_reducible rfl)
    simp only [Act.put,List.setIfInBounds_toArray,List.set_cons_zero,List.set_cons_succ]
    refine tkH 30 ⟨some 57,.load 3 (.tmp 56),3,_,#[⟨29,.data⟩],none⟩ ?_ ?_ ?_
    rotate_left
    · (intro w hSw; (try dsimp only at hSw); go_simp; try with_reducible rfl)
    simp only [Act.put,List.setIfInBounds_toArray,List.set_cons_zero,List.set_cons_succ]
    refine tkH 31 ⟨some 58,.convert 3 22 (.tmp 57),22,_,#[⟨30,.data⟩],none⟩ ?_ ?_ ?_
    rotate_left
    · (intro w hSw; (try dsimp only at hSw); go_simp; try with_reducible rfl)
    simp only [Act.put,List.setIfInBounds_toArray,List.set_cons_zero,List.set_cons_succ]
    refine tkH 32 ⟨some 59,.fieldAddr 28 (.tmp 3) 16,0,_,#[],none⟩ ?_ ?_ ?_
    rotate_left
    · (intro w hSw; (try dsimp only at hSw); go_simp; try with_reducible rfl)
    simp only [Act.put,List.setIfInBounds_toArray,List.set_cons_zero,List.set_cons_succ]
    refine tkH 33 ⟨some 60,.fieldAddr 26 (.tmp 59) 1,0,_,#[⟨32,.data⟩],none⟩ ?_ ?_ ?_
    rotate_left
    · (intro w hSw; (try dsimp only at hSw); go_simp; try with_reducible rfl)
    simp only [Act.put,List.setIfInBounds_toArray,List.set_cons_zero,List.set_cons_succ]
    refine tkH 34 ⟨some 61,.load 3 (.tmp 60),3,_,#[⟨33,.data⟩],none⟩ ?_ ?_ ?_
    rotate_left
    · (intro w hSw; (try dsimp only at hSw); go_simp; try with_reducible rfl)
    simp only [Act.put,List.setIfInBounds_toArray,List.set_cons_zero,List.set_cons_succ]
    refine tkH 35 ⟨some 62,.convert 3 22 (.tmp 61),22,_,#[⟨34,.data⟩],none⟩ ?_ ?_ ?_
    rotate_left
    · (intro w hSw; (try dsimp only at hSw); go_simp; try with_reducible rfl)
    simp only [Act.put,List.setIfInBounds_toArray,List.set_cons_zero,List.set_cons_succ]
    refine tkH 36 ⟨some 63,.fieldAddr 28 (.tmp 3) 16,0,_,#[],none⟩ ?_ ?_ ?_
    rotate_left
    · (intro w hSw; (try dsimp only at hSw); go_simp; try with_reducible rfl)
    simp only [Act.put,List.setIfInBounds_toArray,List.set_cons_zero,List.set_cons_succ]
    refine tkH 37 ⟨some 64,.fieldAddr 26 (.tmp 63) 2,0,_,#[⟨36,.data⟩],none⟩ ?_ ?_ ?_
    rotate_left
    · (intro w hSw; (try dsimp only at hSw); go_simp; try with_reducible rfl)
    simp only [Act.put,List.setIfInBounds_toArray,List.set_cons_zero,List.set_cons_succ]
    refine tkH 38 ⟨some 65,.load 3 (.tmp 64),3,_,#[⟨37,.data⟩],none⟩ ?_ ?_ ?_
    rotate_left
    · (intro w hSw; (try dsimp only at hSw); go_simp; try with_reducible rfl)
    simp only [Act.put,List.setIfInBounds_toArray,List.set_cons_zero,List.set_cons_succ]
    refine tkH 39 ⟨some 66,.convert 3 22 (.tmp 65),22,_,#[⟨38,.data⟩],none⟩ ?_ ?_ ?_
    rotate_left
    · (intro w hSw; (try dsimp only at hSw); go_simp; try with_reducible rfl)
    simp only [Act.put,List.setIfInBounds_toArray,List.set_cons_zero,List.set_cons_succ]
    refine tkH 40 ⟨some 67,.fieldAddr 28 (.tmp 3) 16,0,_,#[],none⟩ ?_ ?_ ?_
    rotate_left
    · (intro w hSw; (try dsimp only at hSw); go_simp; try with_reducible rfl)
    simp only [Act.put,List.setIfInBounds_toArray,List.set_cons_zero,List.set_cons_succ]
    refine tkH 41 ⟨some 68,.fieldAddr 26 (.tmp 67) 3,0,_,#[⟨40,.data⟩],none⟩ ?_ ?_ ?_
    rotate_left
    · (intro w hSw; (try dsimp only at hSw); go_simp; try with_reducible rfl)
    simp only [Act.put,List.setIfInBounds_toArray,List.set_cons_zero,List.set_cons_succ]
    refine tkH 42 ⟨some 69,.load 3 (.tmp 68),3,_,#[⟨41,.data⟩],none⟩ ?_ ?_ ?_
    rotate_left
    · (intro w hSw; (try dsimp only at hSw); go_simp; try with_reducible rfl)
    simp only [Act.put,List.setIfInBounds_toArray,List.set_cons_zero,List.set_cons_succ]
    refine tkH 43 ⟨some 70,.convert 3 22 (.tmp 69),22,_,#[⟨42,.data⟩],none⟩ ?_ ?_ ?_
    rotate_left
    · (intro w hSw; (try dsimp only at hSw); go_simp; try with_reducible rfl)
    simp only [Act.put,List.setIfInBounds_toArray,List.set_cons_zero,List.set_cons_succ]
    refine tkH 44 ⟨some 71,.fieldAddr 28 (.tmp 3) 15,0,_,#[],none⟩ ?_ ?_ ?_
    rotate_left
    · (intro w hSw; (try dsimp only at hSw); go_simp; try with_reducible rfl)
    simp only [Act.put,List.setIfInBounds_toArray,List.set_cons_zero,List.set_cons_succ]
    refine tkH 45 ⟨some 72,.load 24 (.tmp 71),24,_,#[⟨44,.data⟩],none⟩ ?_ ?_ ?_
    rotate_left
    · (intro w hSw; (try dsimp only at hSw); go_simp; try with_reducible rfl)
    simp only [Act.put,List.setIfInBounds_toArray,List.set_cons_zero,List.set_cons_succ]
    refine tkH 46 ⟨some 73,.convert 24 22 (.tmp 72),22,_,#[⟨45,.data⟩],none⟩ ?_ ?_ ?_
    rotate_left
    · (intro w hSw; (try dsimp only at hSw); go_simp; try with_reducible rfl)
    simp only [Act.put,List.setIfInBounds_toArray,List.set_cons_zero,List.set_cons_succ]
    refine tkH 47 ⟨some 74,.move (.tmp 7),22,_,#[],none⟩ ?_ ?_ ?_
    rotate_left
    · (intro w hSw; (try dsimp only at hSw); go_simp; try with_reducible rfl)
    simp only [Act.put,List.setIfInBounds_toArray,List.set_cons_zero,List.set_cons_succ]
    refine tkH 48 ⟨some 75,.fieldAddr 28 (.tmp 3) 2,0,_,#[],none⟩ ?_ ?_ ?_
    rotate_left
    · (intro w hSw; (try dsimp only at hSw); go_simp; try with_reducible rfl)
    simp only [Act.put,List.setIfInBounds_toArray,List.set_cons_zero,List.set_cons_succ]
    refine tkH 49 ⟨some 76,.load 4 (.tmp 75),4,_,#[⟨48,.data⟩],none⟩ ?_ ?_ ?_
    rotate_left
    · (intro w hSw; (try dsimp only at hSw); go_simp; try with_reducible rfl)
    simp only [Act.put,List.setIfInBounds_toArray,List.set_cons_zero,List.set_cons_succ]
    refine tkH 51 ⟨some 78,.fieldAddr 28 (.tmp 3) 12,0,_,#[],none⟩ ?_ ?_ ?_
    rotate_left
    · (intro w hSw; (try dsimp only at hSw); go_simp; try with_reducible rfl)
    simp only [Act.put,List.setIfInBounds_toArray,List.set_cons_zero,List.set_cons_succ]
    refine tkH 52 ⟨some 79,.load 4 (.tmp 78),4,_,#[⟨51,.data⟩],none⟩ ?_ ?_ ?_
    rotate_left
    · (intro w hSw; (try dsimp only at hSw); go_simp; try with_reducible rfl)
    simp only [Act.put,List.setIfInBounds_toArray,List.set_cons_zero,List.set_cons_succ]
    refine tkH 54 ⟨some 81,.fieldAddr 28 (.tmp 3) 13,0,_,#[],none⟩ ?_ ?_ ?_
    rotate_left
    · (intro w hSw; (try dsimp only at hSw); go_simp; try with_reducible rfl)
    simp only [Act.put,List.setIfInBounds_toArray,List.set_cons_zero,List.set_cons_succ]
    refine tkH 55 ⟨some 82,.load 4 (.tmp 81),4,_,#[⟨54,.data⟩],none⟩ ?_ ?_ ?_
    rotate_left
    · (intro w hSw; (try dsimp only at hSw); go_simp; try with_reducible rfl)
    simp only [Act.put,List.setIfInBounds_toArray,List.set_cons_zero,List.set_cons_succ]
    refine tkH 57 ⟨some 84,.fieldAddr 28 (.tmp 3) 14,0,_,#[],none⟩ ?_ ?_ ?_
    rotate_left
    · (intro w hSw; (try dsimp only at hSw); go_simp; try with_reducible rfl)
    simp only [Act.put,List.setIfInBounds_toArray,List.set_cons_zero,List.set_cons_succ]
    refine tkH 58 ⟨some 85,.load 4 (.tmp 84),4,_,#[⟨57,.data⟩],none⟩ ?_ ?_ ?_
    rotate_left
    · (intro w hSw; (try dsimp only at hSw); go_simp; try with_reducible rfl)
    simp only [Act.put,List.setIfInBounds_toArray,List.set_cons_zero,List.set_cons_succ]
    refine wpAnyH_ready (rs:=[50]) (by kernel_rfl) (by simp) ?_
    refine AllReadyH.cons (o:=⟨some 77,.call ⟨.value (.func 56),#[.tmp 76],#[4]⟩,22,_,#[⟨49,.data⟩],none⟩) rfl (fun K hK=> ?_) AllReadyH.nil
    go_simp
    go_at_call 56; refine (HB.out _ _).mono ?_; rintro e wx ⟨rfl,rfl⟩
    refine hK.out _ _ ?_ (fun hHeld=> ?_)
    · with_reducible exact K2.out
    clear hK K
    try simp only [Act.put,List.setIfInBounds_toArray,List.set_cons_zero,List.set_cons_succ]
    refine wpAnyH_ready (rs:=[53]) (by kernel_rfl) (by simp) ?_
    refine AllReadyH.cons (o:=⟨some 80,.call ⟨.value (.func 56),#[.tmp 79],#[4]⟩,22,_,#[⟨52,.data⟩,⟨50,.chain⟩],none⟩) rfl (fun K hK=> ?_) AllReadyH.nil
    go_simp
    go_at_call 56; refine (HB.out _ _).mono ?_; rintro e wx ⟨rfl,rfl⟩
    refine hK.out _ _ ?_ (fun hHeld=> ?_)
    · with_reducible exact K2.out
    clear hK K
    try simp only [Act.put,List.setIfInBounds_toArray,List.set_cons_zero,List.set_cons_succ]
    refine wpAnyH_ready (rs:=[56]) (by kernel_rfl) (by simp) ?_
    refine AllReadyH.cons (o:=⟨some 83,.call ⟨.value (.func 56),#[.tmp 82],#[4]⟩,22,_,#[⟨55,.data⟩,⟨53,.chain⟩],none⟩) rfl (fun K hK=> ?_) AllReadyH.nil
    go_simp
    go_at_call 56; refine (HB.out _ _).mono ?_; rintro e wx ⟨rfl,rfl⟩
    refine hK.out _ _ ?_ (fun hHeld=> ?_)
    · with_reducible exact K2.out
    clear hK K
    try simp only [Act.put,List.setIfInBounds_toArray,List.set_cons_zero,List.set_cons_succ]
    refine wpAnyH_ready (rs:=[59]) (by kernel_rfl) (by simp) ?_
    refine AllReadyH.cons (o:=⟨some 86,.call ⟨.value (.func 56),#[.tmp 85],#[4]⟩,22,_,#[⟨58,.data⟩,⟨56,.chain⟩],none⟩) rfl (fun K hK=> ?_) AllReadyH.nil
    go_simp
    go_at_call 56; refine (HB.out _ _).mono ?_; rintro e wx ⟨rfl,rfl⟩
    refine hK.out _ _ ?_ (fun hHeld=> ?_)
    · with_reducible exact K2.out
    clear hK K
    try simp only [Act.put,List.setIfInBounds_toArray,List.set_cons_zero,List.set_cons_succ]
    refine wpAnyH_ready (rs:=[60]) (by kernel_rfl) (by simp) ?_
    refine AllReadyH.cons (o:=⟨some 87,.buildSlice 75 19 #[(0,.tmp 29),(1,.tmp 33),(2,.tmp 36),(3,.tmp 39),(4,.tmp 42),(5,.tmp 45),(6,.tmp 48),(7,.tmp 51),(8,.tmp 54),(9,.tmp 58),(10,.tmp 62),(11,.tmp 66),(12,.tmp 70),(13,.tmp 73),(14,.tmp 74),(15,.tmp 77),(16,.tmp 80),(17,.tmp 83),(18,.tmp 86)],75,_,#[⟨2,.data⟩,⟨6,.data⟩,⟨9,.data⟩,⟨12,.data⟩,⟨15,.data⟩,⟨18,.data⟩,⟨21,.data⟩,⟨24,.data⟩,⟨27,.data⟩,⟨31,.data⟩,⟨35,.data⟩,⟨39,.data⟩,⟨43,.data⟩,⟨46,.data⟩,⟨47,.data⟩,⟨50,.data⟩,⟨53,.data⟩,⟨56,.data⟩,⟨59,.data⟩],none⟩) rfl (fun K hK=> ?_) AllReadyH.nil
    go_simp
    skip
    refine hK.out _ _ ?_ (fun hHeld=> ?_)
    · exact ww_cells9 (HX.out.step (below_new _ _))
    clear hK K
    try simp only [Act.put,List.setIfInBounds_toArray,List.set_cons_zero,List.set_cons_succ]
    refine tkH 61 ⟨some 9,.assign (.tmp 87),75,_,#[⟨60,.data⟩,⟨59,.chain⟩,⟨0,.phase⟩,⟨1,.phase⟩,⟨2,.phase⟩,⟨3,.phase⟩,⟨4,.phase⟩,⟨5,.phase⟩,⟨6,.phase⟩,⟨7,.phase⟩,⟨8,.phase⟩,⟨9,.phase⟩,⟨10,.phase⟩,⟨11,.phase⟩,⟨12,.phase⟩,⟨13,.phase⟩,⟨14,.phase⟩,⟨15,.phase⟩,⟨16,.phase⟩,⟨17,.phase⟩,⟨18,.phase⟩,⟨19,.phase⟩,⟨20,.phase⟩,⟨21,.phase⟩,⟨22,.phase⟩,⟨23,.phase⟩,⟨24,.phase⟩,⟨25,.phase⟩,⟨26,.phase⟩,⟨27,.phase⟩,⟨28,.phase⟩,⟨29,.phase⟩,⟨30,.phase⟩,⟨31,.phase⟩,⟨32,.phase⟩,⟨33,.phase⟩,⟨34,.phase⟩,⟨35,.phase⟩,⟨36,.phase⟩,⟨37,.phase⟩,⟨38,.phase⟩,⟨39,.phase⟩,⟨40,.phase⟩,⟨41,.phase⟩,⟨42,.phase⟩,⟨43,.phase⟩,⟨44,.phase⟩,⟨45,.phase⟩,⟨46,.phase⟩,⟨47,.phase⟩,⟨48,.phase⟩,⟨49,.phase⟩,⟨50,.phase⟩,⟨51,.phase⟩,⟨52,.phase⟩,⟨53,.phase⟩,⟨54,.phase⟩,⟨55,.phase⟩,⟨56,.phase⟩,⟨57,.phase⟩,⟨58,.phase⟩,⟨59,.phase⟩,⟨60,.phase⟩],none⟩ ?_ ?_ ?_
    rotate_left
    · (intro w hSw; (try dsimp only at hSw); go_simp; try with_reducible rfl)
    simp only [Act.put,List.setIfInBounds_toArray,List.set_cons_zero,List.set_cons_succ]
    refine wpAnyH_done (by kernel_rfl) ?_ _
    have HB2:=hidW (Below.step HX.out.bel (below_new wx (.cells #[.int .u32 ((v0:Nat):Int),.int .u32 ((v1:Nat):Int),.int .u32 ((v2:Nat):Int),.int .u32 ((v3:Nat):Int),.int .u32 ((v4:Nat):Int),.int .u32 ((v5:Nat):Int),.int .u32 ((v6:Nat):Int),.int .u32 ((v7:Nat):Int),.int .u32 ((v8:Nat):Int),.int .u32 ((v9:Nat):Int),.int .u32 ((v10:Nat):Int),.int .u32 ((v11:Nat):Int),.int .u32 ((v12:Nat):Int),.int .u32 ((v13:Nat):Int),.int .u32 ((v14:Nat):Int),.int .u32 ((BT js:Nat):Int),.int .u32 ((BT jp:Nat):Int),.int .u32 ((BT ju:Nat):Int),.int .u32 ((BT jw:Nat):Int)] 22)))
    have HP:=hidW (Bl.new wx 22 [.int .u32 ((v0:Nat):Int),.int .u32 ((v1:Nat):Int),.int .u32 ((v2:Nat):Int),.int .u32 ((v3:Nat):Int),.int .u32 ((v4:Nat):Int),.int .u32 ((v5:Nat):Int),.int .u32 ((v6:Nat):Int),.int .u32 ((v7:Nat):Int),.int .u32 ((v8:Nat):Int),.int .u32 ((v9:Nat):Int),.int .u32 ((v10:Nat):Int),.int .u32 ((v11:Nat):Int),.int .u32 ((v12:Nat):Int),.int .u32 ((v13:Nat):Int),.int .u32 ((v14:Nat):Int),.int .u32 ((BT js:Nat):Int),.int .u32 ((BT jp:Nat):Int),.int .u32 ((BT ju:Nat):Int),.int .u32 ((BT jw:Nat):Int)])
    change Hid (Bl (wx.alloc (.cells #[.int .u32 ((v0:Nat):Int),.int .u32 ((v1:Nat):Int),.int .u32 ((v2:Nat):Int),.int .u32 ((v3:Nat):Int),.int .u32 ((v4:Nat):Int),.int .u32 ((v5:Nat):Int),.int .u32 ((v6:Nat):Int),.int .u32 ((v7:Nat):Int),.int .u32 ((v8:Nat):Int),.int .u32 ((v9:Nat):Int),.int .u32 ((v10:Nat):Int),.int .u32 ((v11:Nat):Int),.int .u32 ((v12:Nat):Int),.int .u32 ((v13:Nat):Int),.int .u32 ((v14:Nat):Int),.int .u32 ((BT js:Nat):Int),.int .u32 ((BT jp:Nat):Int),.int .u32 ((BT ju:Nat):Int),.int .u32 ((BT jw:Nat):Int)] 22)) wx.heap.size 22 [.int .u32 ((v0:Nat):Int),.int .u32 ((v1:Nat):Int),.int .u32 ((v2:Nat):Int),.int .u32 ((v3:Nat):Int),.int .u32 ((v4:Nat):Int),.int .u32 ((v5:Nat):Int),.int .u32 ((v6:Nat):Int),.int .u32 ((v7:Nat):Int),.int .u32 ((v8:Nat):Int),.int .u32 ((v9:Nat):Int),.int .u32 ((v10:Nat):Int),.int .u32 ((v11:Nat):Int),.int .u32 ((v12:Nat):Int),.int .u32 ((v13:Nat):Int),.int .u32 ((v14:Nat):Int),.int .u32 ((BT js:Nat):Int),.int .u32 ((BT jp:Nat):Int),.int .u32 ((BT ju:Nat):Int),.int .u32 ((BT jw:Nat):Int)]) at HP
    generalize World.alloc _ _=wy at HB2 HP ⊢
    generalize wx.heap.size=p at HP ⊢
    clear HX K2 HB H0 e0 eo eo' e1 e2 e3 e4 e5 e6 e7 e8 e9 e10 e11 e12 e13
    go_wp2
    go_loopw [6,10] (fun r6 r10 wr=>∃(k acc:Nat),k≤19∧acc<4294967296∧r6= .int .u32 (acc:Int)∧r10= .int .i64 (k:Int)∧restW LY [(99,v0),(111,v1),(100,v2),(110,v3),(109,v4),(114,v5),(97,v6),(116,v7),(107,v8),(120,v9),(121,v10),(122,v11),(118,v12),(108,v13),(105,v14),(115,BT js),(112,BT jp),(117,BT ju),(119,BT jw)] k acc=TOT∧Below w.heap.size w wr∧Bl wr p 22 [.int .u32 ((v0:Nat):Int),.int .u32 ((v1:Nat):Int),.int .u32 ((v2:Nat):Int),.int .u32 ((v3:Nat):Int),.int .u32 ((v4:Nat):Int),.int .u32 ((v5:Nat):Int),.int .u32 ((v6:Nat):Int),.int .u32 ((v7:Nat):Int),.int .u32 ((v8:Nat):Int),.int .u32 ((v9:Nat):Int),.int .u32 ((v10:Nat):Int),.int .u32 ((v11:Nat):Int),.int .u32 ((v12:Nat):Int),.int .u32 ((v13:Nat):Int),.int .u32 ((v14:Nat):Int),.int .u32 ((BT js:Nat):Int),.int .u32 ((BT jp:Nat):Int),.int .u32 ((BT ju:Nat):Int),.int .u32 ((BT jw:Nat):Int)]) (fun _ r10 _=>(19-intOf r10).toNat)
    case atStart=>exact ⟨0,a0,by omega,ha0.out,rfl,rfl,HT.out,HB2.out,HP.out⟩
    case round =>
      clear HB2 HP HT ha0
      obtain ⟨k,acc,h1,hacc,rfl,rfl,hr,hb,hp⟩:=hrel
      have hr:=hidW hr
      have hb:=hidW hb
      have hp:=hidW hp
      by_cases h:k<19
      · have hk:k=0∨k=1∨k=2∨k=3∨k=4∨k=5∨k=6∨k=7∨k=8∨k=9∨k=10∨k=11∨k=12∨k=13∨k=14∨k=15∨k=16∨k=17∨k=18:=by omega
        clear h h1
        rcases hk with rfl|rfl|rfl|rfl|rfl|rfl|rfl|rfl|rfl|rfl|rfl|rfl|rfl|rfl|rfl|rfl|rfl|rfl|rfl
        all_goals
          go_wp2
          have hp:=hidW hp.out.drew
          have hb:=hidW (below_drew hb.out)
          have K1:=vw_cells hp.out
          refine wp_region_held_drew (S:=fun w'=>w'.cell? ⟨p,0,none⟩=some (.int .u32 ((v0:Nat):Int))∧w'.cell? ⟨p,1,none⟩=some (.int .u32 ((v1:Nat):Int))∧w'.cell? ⟨p,2,none⟩=some (.int .u32 ((v2:Nat):Int))∧w'.cell? ⟨p,3,none⟩=some (.int .u32 ((v3:Nat):Int))∧w'.cell? ⟨p,4,none⟩=some (.int .u32 ((v4:Nat):Int))∧w'.cell? ⟨p,5,none⟩=some (.int .u32 ((v5:Nat):Int))∧w'.cell? ⟨p,6,none⟩=some (.int .u32 ((v6:Nat):Int))∧w'.cell? ⟨p,7,none⟩=some (.int .u32 ((v7:Nat):Int))∧w'.cell? ⟨p,8,none⟩=some (.int .u32 ((v8:Nat):Int))∧w'.cell? ⟨p,9,none⟩=some (.int .u32 ((v9:Nat):Int))∧w'.cell? ⟨p,10,none⟩=some (.int .u32 ((v10:Nat):Int))∧w'.cell? ⟨p,11,none⟩=some (.int .u32 ((v11:Nat):Int))∧w'.cell? ⟨p,12,none⟩=some (.int .u32 ((v12:Nat):Int))∧w'.cell? ⟨p,13,none⟩=some (.int .u32 ((v13:Nat):Int))∧w'.cell? ⟨p,14,none⟩=some (.int .u32 ((v14:Nat):Int))∧w'.cell? ⟨p,15,none⟩=some (.int .u32 ((BT js:Nat):Int))∧w'.cell? ⟨p,16,none⟩=some (.int .u32 ((BT jp:Nat):Int))∧w'.cell? ⟨p,17,none⟩=some (.int .u32 ((BT ju:Nat):Int))∧w'.cell? ⟨p,18,none⟩=some (.int .u32 ((BT jw:Nat):Int))) (by kernel_rfl) K1 (fun hHeld=> ?_)
          clear hHeld
          have K2:=hidW K1
          clear K1
          refine tkH 0 ⟨some 94,.move (.tmp 5),9,_,#[],none⟩ ?_ ?_ ?_
          rotate_left
          · (intro w hSw; (try dsimp only at hSw); go_simp; try with_reducible rfl)
          simp only [Act.put,List.setIfInBounds_toArray,List.set_cons_zero,List.set_cons_succ]
          refine tkH 1 ⟨some 95,.move (.tmp 8),9,_,#[],none⟩ ?_ ?_ ?_
          rotate_left
          · (intro w hSw; (try dsimp only at hSw); go_simp; try with_reducible rfl)
          simp only [Act.put,List.setIfInBounds_toArray,List.set_cons_zero,List.set_cons_succ]
          refine tkH 2 ⟨some 96,.move (.tmp 10),3,_,#[],none⟩ ?_ ?_ ?_
          rotate_left
          · (intro w hSw; (try dsimp only at hSw); go_simp; try with_reducible rfl)
          simp only [Act.put,List.setIfInBounds_toArray,List.set_cons_zero,List.set_cons_succ]
          refine tkH 3 ⟨some 97,.index 9 (.tmp 95) (.tmp 96),5,_,#[⟨1,.data⟩,⟨2,.data⟩],none⟩ ?_ ?_ ?_
          rotate_left
          · (intro w hSw; (try dsimp only at hSw); go_simp; try with_reducible rfl)
          simp only [Act.put,List.setIfInBounds_toArray,List.set_cons_zero,List.set_cons_succ]
          refine tkH 4 ⟨some 98,.move (.tmp 6),22,_,#[],none⟩ ?_ ?_ ?_
          rotate_left
          · (intro w hSw; (try dsimp only at hSw); go_simp; try with_reducible rfl)
          simp only [Act.put,List.setIfInBounds_toArray,List.set_cons_zero,List.set_cons_succ]
          refine tkH 5 ⟨some 99,.move (.tmp 9),75,_,#[],none⟩ ?_ ?_ ?_
          rotate_left
          · (intro w hSw; (try dsimp only at hSw); go_simp; try with_reducible rfl)
          simp only [Act.put,List.setIfInBounds_toArray,List.set_cons_zero,List.set_cons_succ]
          refine tkH 6 ⟨some 100,.move (.tmp 10),3,_,#[],none⟩ ?_ ?_ ?_
          rotate_left
          · (intro w hSw; (try dsimp only at hSw); go_simp; try with_reducible rfl)
          simp only [Act.put,List.setIfInBounds_toArray,List.set_cons_zero,List.set_cons_succ]
          refine tkH 7 ⟨some 101,.indexAddr 75 (.tmp 99) (.tmp 100),0,_,#[⟨5,.data⟩,⟨6,.data⟩],none⟩ ?_ ?_ ?_
          rotate_left
          · (intro w hSw; (try dsimp only at hSw); go_simp; try with_reducible rfl)
          simp only [Act.put,List.setIfInBounds_toArray,List.set_cons_zero,List.set_cons_succ]
          refine tkH 8 ⟨some 102,.load 22 (.tmp 101),22,_,#[⟨7,.data⟩],none⟩ ?_ ?_ ?_
          rotate_left
          · (intro w hSw; (try dsimp only at hSw); go_simp; try with_reducible rfl)
          simp only [Act.put,List.setIfInBounds_toArray,List.set_cons_zero,List.set_cons_succ]
          refine wpAnyH_ready (rs:=[9]) (by kernel_rfl) (by simp) ?_
          refine AllReadyH.cons (o:=⟨some 103,.call ⟨.value (.func 55),#[.tmp 94,.tmp 97,.tmp 98,.tmp 102],#[9,5,22,22]⟩,22,_,#[⟨0,.data⟩,⟨3,.data⟩,⟨4,.data⟩,⟨8,.data⟩],none⟩) rfl (fun K hK=> ?_) AllReadyH.nil
          go_simp
          go_at_call 55; refine (HLY.out _ _ _ _ (by decide) (by decide) (by decide) hacc (HV.out _ (by simp))).mono ?_; rintro e wq ⟨rfl,rfl⟩
          refine hK.out _ _ ?_ (fun hHeld=> ?_)
          · with_reducible exact K2.out
          clear hK K
          try simp only [Act.put,List.setIfInBounds_toArray,List.set_cons_zero,List.set_cons_succ]
          refine tkH 10 ⟨some 6,.assign (.tmp 103),22,_,#[⟨9,.data⟩,⟨9,.chain⟩,⟨0,.phase⟩,⟨1,.phase⟩,⟨2,.phase⟩,⟨3,.phase⟩,⟨4,.phase⟩,⟨5,.phase⟩,⟨6,.phase⟩,⟨7,.phase⟩,⟨8,.phase⟩,⟨9,.phase⟩],none⟩ ?_ ?_ ?_
          rotate_left
          · (intro w hSw; (try dsimp only at hSw); go_simp; try with_reducible rfl)
          simp only [Act.put,List.setIfInBounds_toArray,List.set_cons_zero,List.set_cons_succ]
          refine wpAnyH_done (by kernel_rfl) ?_ _
          go_wp2
          refine ⟨⟨_,_,?_,HLT.out _ _ _,rfl,rfl,hr.out,hb.out,hp.out⟩,?_⟩
          · first|omega|decide|exact Nat.le_of_ble_eq_true rfl
          · simp only [intOf]; omega
      · obtain rfl:k=19:=by omega
        have e:acc=TOT:=hr.out
        subst e
        clear h h1 hr
        go_wp2
        exact bodyPost_ret (v:= .int .u32 (acc:Int)) (by simp [results,Tryd.results37,go_sem]) rfl ⟨rfl,hb.out⟩
end Go.Proofs.YtkmgmmmpiallhaaDoor
