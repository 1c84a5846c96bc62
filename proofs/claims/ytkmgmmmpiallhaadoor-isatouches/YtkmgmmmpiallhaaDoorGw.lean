import Derived.Test.YtkmgmmmpiallhaaDoorGz
import Derived.Test.YtkmgmmmpiallhaaDoorGh
import Derived.Test.YtkmgmmmpiallhaaDoorGt
import Derived.Test.YtkmgmmmpiallhaaDoorGn
import Derived.Test.YtkmgmmmpiallhaaDoorEq
import Derived.Test.YtkmgmmmpiallhaaDoorQi
namespace Go.Proofs.YtkmgmmmpiallhaaDoor
open Go.RowKit
set_option linter.unusedVariables false
set_option linter.unusedSimpArgs false
structure BX (W:World) (I:List Value) (w:World):Prop where
  bel:Below W.heap.size W w
  ins:Bl w W.heap.size 28 I
  tp:TP w
theorem BX.step {W w w':World} {I:List Value} (h:BX W I w) (hb:Below w.heap.size w w'):BX W I w':=⟨Below.step h.bel hb,h.ins.below hb,h.tp.below hb⟩
theorem BX.first {W:World} (h:TP W) (I:List Value):BX W I (W.alloc (.cells I.toArray 28)):=⟨below_new _ _,Bl.new _ _ _,h.below (below_new _ _)⟩
theorem lay_lt {i:Ins} {r:RowP} (hr:rowN i.op i.form=some r):layP r i<4294967296:=layP_lt (rows_lt r (rowN_mem hr)) i
theorem rowN_ok {op form:Int} {r:RowP} (h:rowN op form=some r):RowOk r:=by
  rcases List.mem_append.1 (rowN_mem h) with h|h
  · exact low_row r h
  · exact high_row r h
set_option maxRecDepth 100000 in
set_option maxHeartbeats 400000 in
theorem genc_1 (i:Ins) (w:World) (ht:TP w) (hi:IOk i) (hr:rowN i.op i.form=none):Calls Tryd.prog 11 #[.agg (insA i)] w fun e w'=>e= .returned (.tuple #[.int .u32 0,.int .i64 190])∧Below w.heap.size w w':=by
  show Calls Tryd.prog 11 #[.agg (insL i).toArray] w fun e w'=>e= .returned (.tuple #[.int .u32 0,.int .i64 190])∧Below w.heap.size w w'
  have HN:Hid (∀w',TP w'→Calls Tryd.prog 23 #[.int .i64 i.op,.int .i64 i.form] w' fun e w''=>e= .returned (.tuple #[.agg (rowL rowZ).toArray,.bool false])∧Below w'.heap.size w' w''):=fun w' ht=>by
    have:=growN_any i.op i.form w' ht
    rw [hr] at this
    exact this
  have HX0:=hidW (BX.first ht (insL i))
  have HOZ:Hid ((insL insZ).toArray.all (·.oneCell')=true):=ins_all insZ
  have HS1:Hid ((Tryd.prog.info? 28).map (·.size)=some (insL i).length):=ins_size
  have HRO:Hid ((rowL rowZ).toArray.all (·.oneCell')=true):=row_all rowZ
  have HRL:Hid ((rowL rowZ).length=5):=rfl
  have HRI:Hid ((Tryd.prog.info? 40).map (·.size)=some (rowL rowZ).length):=row_info
  have HRJ:Hid ((Tryd.prog.info? 40).map (·.size)=some (rowL rowZ).toArray.size):=row_info
  clear ht hi hr
  obtain ⟨TL,hTL⟩:∃TL,insL i= .int .i64 i.cond:: .int .i64 i.op:: .bool i.s:: .int .i64 i.form::TL:=⟨_,rfl⟩
  have hlen:TL.length=16:=by
    have:=congrArg List.length hTL
    rw [insL_len] at this
    simp only [List.length_cons] at this
    omega
  rw [hTL] at HX0 HS1 ⊢
  clear hTL
  generalize i.cond=C at *
  generalize i.op=OP at *
  generalize i.s=S at *
  generalize i.form=FM at *
  generalize rowL rowZ=RL at *
  go_enter Tryd.func11,Tryd.ntmps11
  go_wp2_with (first|(go_at_call 23; refine (HN.out _ HX0.out.tp).mono ?_; rintro e w1 ⟨rfl,hb⟩; have HX:=hidW (HX0.out.step hb); clear hb HX0)|(guard_target =~ wpList _ _ _ (Oper.mk none (Op.store 40 _ _) _ _ _ _::_) _ _; have HT1:=new_there w1 40 (rowL rowZ) RL.toArray.size (by rw [List.size_toArray,HRL.out]; rfl); refine wpList_store_mid rfl _ _ _ rfl w1.heap.size 0 RL.toArray rfl rfl HT1 HRJ.out HRO.out ?_; clear HT1; generalize hW2:World.setCells _ _ _ _=w2; have HY:=hidW (show BX w _ w2 from hW2▸HX.out.step (fill_below w1 40 (rowL rowZ) RL)); have HYB:=hidW (show Bl w2 w1.heap.size 40 RL from hW2▸fill_box w1 40 (rowL rowZ) RL (by rw [HRL.out]; rfl)); clear hW2 HX))
  exact bodyPost_ret (v:= .tuple #[.int .u32 0,.int .i64 190]) (by simp [results,Tryd.results11,go_sem,Act.put]) rfl ⟨rfl,HY.out.bel⟩
set_option maxRecDepth 100000 in
set_option maxHeartbeats 400000 in
theorem genc_2 (i:Ins) (w:World) (ht:TP w) (hi:IOk i) (r:RowP) (hr:rowN i.op i.form=some r) (hd:decP (layP r i)=none):Calls Tryd.prog 11 #[.agg (insA i)] w fun e w'=>e= .returned (.tuple #[.int .u32 0,.int .i64 190])∧Below w.heap.size w w':=by
  show Calls Tryd.prog 11 #[.agg (insL i).toArray] w fun e w'=>e= .returned (.tuple #[.int .u32 0,.int .i64 190])∧Below w.heap.size w w'
  have HN:Hid (∀w',TP w'→Calls Tryd.prog 23 #[.int .i64 i.op,.int .i64 i.form] w' fun e w''=>e= .returned (.tuple #[.agg (rowL r).toArray,.bool true])∧Below w'.heap.size w' w''):=fun w' ht=>by
    have:=growN_any i.op i.form w' ht
    rw [hr] at this
    exact this
  have HLA:Hid (∀w',TP w'→Calls Tryd.prog 24 #[.agg (rowL r).toArray,.agg (insL i).toArray] w' fun e w''=>e= .returned (.int .u32 ((layP r i:Nat):Int))∧Below w'.heap.size w' w''):=fun w' ht=>glay_any r i w' ht (rowN_ok hr) hi
  have HDE:Hid (∀w',TP w'→Calls Tryd.prog 10 #[.int .u32 ((layP r i:Nat):Int)] w' fun e w''=>e= .returned (.tuple #[.agg (insL insZ).toArray,.bool false])∧Below w'.heap.size w' w''):=fun w' ht=>by
    have:=gdec_any (layP r i) w' ht (lay_lt hr)
    rw [hd] at this
    exact this
  have hlw:=lay_lt hr
  have HX0:=hidW (BX.first ht (insL i))
  have HOZ:Hid ((insL insZ).toArray.all (·.oneCell')=true):=ins_all insZ
  have HS1:Hid ((Tryd.prog.info? 28).map (·.size)=some (insL i).length):=ins_size
  have HRO:Hid ((rowL r).toArray.all (·.oneCell')=true):=row_all r
  have HRL:Hid ((rowL r).length=5):=rfl
  have HRI:Hid ((Tryd.prog.info? 40).map (·.size)=some (rowL r).length):=row_info
  have HRJ:Hid ((Tryd.prog.info? 40).map (·.size)=some (rowL r).toArray.size):=row_info
  clear ht hi hr hd
  obtain ⟨TL,hTL⟩:∃TL,insL i= .int .i64 i.cond:: .int .i64 i.op:: .bool i.s:: .int .i64 i.form::TL:=⟨_,rfl⟩
  have hlen:TL.length=16:=by
    have:=congrArg List.length hTL
    rw [insL_len] at this
    simp only [List.length_cons] at this
    omega
  rw [hTL] at HX0 HS1 HLA ⊢
  clear hTL
  generalize i.cond=C at *
  generalize i.op=OP at *
  generalize i.s=S at *
  generalize i.form=FM at *
  generalize rowL r=RL at *
  generalize layP r i=L at *
  have hL0:(0:Int)≤L∧(L:Int)<4294967296:=by omega
  clear hlw
  go_enter Tryd.func11,Tryd.ntmps11
  go_wp2_with (first|(go_at_call 23; refine (HN.out _ HX0.out.tp).mono ?_; rintro e w1 ⟨rfl,hb⟩; have HX:=hidW (HX0.out.step hb); clear hb HX0)|(guard_target =~ wpList _ _ _ (Oper.mk none (Op.store 40 _ _) _ _ _ _::_) _ _; have HT1:=new_there w1 40 (rowL rowZ) RL.toArray.size (by rw [List.size_toArray,HRL.out]; rfl); refine wpList_store_mid rfl _ _ _ rfl w1.heap.size 0 RL.toArray rfl rfl HT1 HRJ.out HRO.out ?_; clear HT1; generalize hW2:World.setCells _ _ _ _=w2; have HY:=hidW (show BX w _ w2 from hW2▸HX.out.step (fill_below w1 40 (rowL rowZ) RL)); have HYB:=hidW (show Bl w2 w1.heap.size 40 RL from hW2▸fill_box w1 40 (rowL rowZ) RL (by rw [HRL.out]; rfl)); clear hW2 HX)|(guard_target =~ wpList _ _ _ (Oper.mk (some 19) _ _ _ _ _::_) _ _; refine wpList_load_mid rfl _ _ rfl w1.heap.size 0 rfl RL _ HYB.out.range Tryd.underlying40 rfl HRI.out ?_)|(guard_target =~ wpList _ _ _ (Oper.mk (some 20) _ _ _ _ _::_) _ _; refine wpList_load_mid rfl _ _ rfl w.heap.size 0 rfl _ _ HY.out.ins.range Tryd.underlying28 rfl HS1.out ?_)|(go_at_call 24; refine (HLA.out _ HY.out.tp).mono ?_; rintro e w3 ⟨rfl,hb⟩; have HZ:=hidW (HY.out.step hb); clear hb HY HYB)|(go_at_call 10; refine (HDE.out _ HZ.out.tp).mono ?_; rintro e w4 ⟨rfl,hb⟩; have HV:=hidW (HZ.out.step hb); clear hb HZ)|(guard_target =~ wpList _ _ _ (Oper.mk none (Op.store 28 (Operand.tmp 7) _) _ _ _ _::_) _ _; have HT2:=new_there w4 28 (insL insZ) 20 rfl; refine wpList_store_mid rfl _ _ _ rfl w4.heap.size 0 (insL insZ).toArray rfl rfl HT2 ins_size HOZ.out ?_; clear HT2; generalize hW5:World.setCells _ _ _ _=w5; have HU:=hidW (show BX w _ w5 from hW5▸HV.out.step (fill_below w4 28 (insL insZ) (insL insZ))); have HUB:=hidW (show Bl w5 w4.heap.size 28 (insL insZ) from hW5▸fill_box w4 28 (insL insZ) (insL insZ) rfl); clear hW5 HV))
  exact bodyPost_ret (v:= .tuple #[.int .u32 0,.int .i64 190]) (by simp [results,Tryd.results11,go_sem,Act.put]) rfl ⟨rfl,HU.out.bel⟩
set_option maxRecDepth 100000 in
set_option maxHeartbeats 400000 in
theorem genc_3 (i:Ins) (w:World) (ht:TP w) (hi:IOk i) (r:RowP) (j:Ins) (hr:rowN i.op i.form=some r) (hd:decP (layP r i)=some j) (hs:j.same i=false):Calls Tryd.prog 11 #[.agg (insA i)] w fun e w'=>e= .returned (.tuple #[.int .u32 0,.int .i64 190])∧Below w.heap.size w w':=by
  show Calls Tryd.prog 11 #[.agg (insL i).toArray] w fun e w'=>e= .returned (.tuple #[.int .u32 0,.int .i64 190])∧Below w.heap.size w w'
  have HN:Hid (∀w',TP w'→Calls Tryd.prog 23 #[.int .i64 i.op,.int .i64 i.form] w' fun e w''=>e= .returned (.tuple #[.agg (rowL r).toArray,.bool true])∧Below w'.heap.size w' w''):=fun w' ht=>by
    have:=growN_any i.op i.form w' ht
    rw [hr] at this
    exact this
  have HLA:Hid (∀w',TP w'→Calls Tryd.prog 24 #[.agg (rowL r).toArray,.agg (insL i).toArray] w' fun e w''=>e= .returned (.int .u32 ((layP r i:Nat):Int))∧Below w'.heap.size w' w''):=fun w' ht=>glay_any r i w' ht (rowN_ok hr) hi
  have HDE:Hid (∀w',TP w'→Calls Tryd.prog 10 #[.int .u32 ((layP r i:Nat):Int)] w' fun e w''=>e= .returned (.tuple #[.agg (insL j).toArray,.bool true])∧Below w'.heap.size w' w''):=fun w' ht=>by
    have:=gdec_any (layP r i) w' ht (lay_lt hr)
    rw [hd] at this
    exact this
  have HE:∀w,(Op.equalIn 10000 28 (.agg (insL j).toArray) (.agg (insL i).toArray)).run Tryd.prog w= .ok false w:=fun w=>by
    have:=eqI j i w
    rw [hs] at this
    exact this
  have HOJ:Hid ((insL j).toArray.all (·.oneCell')=true):=ins_all j
  have HJ1:Hid ((Tryd.prog.info? 28).map (·.size)=some (insL j).length):=ins_size
  have HJ2:Hid ((Tryd.prog.info? 28).map (·.size)=some (insL j).toArray.size):=ins_size
  have HJL:Hid ((insL j).length=20):=rfl
  have HJF:Hid (j.same i=true→layP r i=layP r i):=fun _=>rfl
  have hlw:=lay_lt hr
  have HX0:=hidW (BX.first ht (insL i))
  have HOZ:Hid ((insL insZ).toArray.all (·.oneCell')=true):=ins_all insZ
  have HS1:Hid ((Tryd.prog.info? 28).map (·.size)=some (insL i).length):=ins_size
  have HRO:Hid ((rowL r).toArray.all (·.oneCell')=true):=row_all r
  have HRL:Hid ((rowL r).length=5):=rfl
  have HRI:Hid ((Tryd.prog.info? 40).map (·.size)=some (rowL r).length):=row_info
  have HRJ:Hid ((Tryd.prog.info? 40).map (·.size)=some (rowL r).toArray.size):=row_info
  clear ht hi hr hd
  clear hs
  obtain ⟨TL,hTL⟩:∃TL,insL i= .int .i64 i.cond:: .int .i64 i.op:: .bool i.s:: .int .i64 i.form::TL:=⟨_,rfl⟩
  have hlen:TL.length=16:=by
    have:=congrArg List.length hTL
    rw [insL_len] at this
    simp only [List.length_cons] at this
    omega
  rw [hTL] at HX0 HS1 HLA ⊢
  simp only [hTL] at HE
  clear hTL
  generalize i.cond=C at *
  generalize i.op=OP at *
  generalize i.s=S at *
  generalize i.form=FM at *
  generalize rowL r=RL at *
  generalize layP r i=L at *
  have hL0:(0:Int)≤L∧(L:Int)<4294967296:=by omega
  clear hlw
  generalize insL j=JJ at *
  go_enter Tryd.func11,Tryd.ntmps11
  go_wp2_with (first|(go_at_call 23; refine (HN.out _ HX0.out.tp).mono ?_; rintro e w1 ⟨rfl,hb⟩; have HX:=hidW (HX0.out.step hb); clear hb HX0)|(guard_target =~ wpList _ _ _ (Oper.mk none (Op.store 40 _ _) _ _ _ _::_) _ _; have HT1:=new_there w1 40 (rowL rowZ) RL.toArray.size (by rw [List.size_toArray,HRL.out]; rfl); refine wpList_store_mid rfl _ _ _ rfl w1.heap.size 0 RL.toArray rfl rfl HT1 HRJ.out HRO.out ?_; clear HT1; generalize hW2:World.setCells _ _ _ _=w2; have HY:=hidW (show BX w _ w2 from hW2▸HX.out.step (fill_below w1 40 (rowL rowZ) RL)); have HYB:=hidW (show Bl w2 w1.heap.size 40 RL from hW2▸fill_box w1 40 (rowL rowZ) RL (by rw [HRL.out]; rfl)); clear hW2 HX)|(guard_target =~ wpList _ _ _ (Oper.mk (some 19) _ _ _ _ _::_) _ _; refine wpList_load_mid rfl _ _ rfl w1.heap.size 0 rfl RL _ HYB.out.range Tryd.underlying40 rfl HRI.out ?_)|(guard_target =~ wpList _ _ _ (Oper.mk (some 20) _ _ _ _ _::_) _ _; refine wpList_load_mid rfl _ _ rfl w.heap.size 0 rfl _ _ HY.out.ins.range Tryd.underlying28 rfl HS1.out ?_)|(go_at_call 24; refine (HLA.out _ HY.out.tp).mono ?_; rintro e w3 ⟨rfl,hb⟩; have HZ:=hidW (HY.out.step hb); clear hb HY HYB)|(go_at_call 10; refine (HDE.out _ HZ.out.tp).mono ?_; rintro e w4 ⟨rfl,hb⟩; have HV:=hidW (HZ.out.step hb); clear hb HZ)|(guard_target =~ wpList _ _ _ (Oper.mk none (Op.store 28 (Operand.tmp 7) _) _ _ _ _::_) _ _; have HT2:=new_there w4 28 (insL insZ) JJ.toArray.size (by rw [List.size_toArray,HJL.out]; rfl); refine wpList_store_mid rfl _ _ _ rfl w4.heap.size 0 JJ.toArray rfl rfl HT2 HJ2.out HOJ.out ?_; clear HT2; generalize hW5:World.setCells _ _ _ _=w5; have HU:=hidW (show BX w _ w5 from hW5▸HV.out.step (fill_below w4 28 (insL insZ) JJ)); have HUB:=hidW (show Bl w5 w4.heap.size 28 JJ from hW5▸fill_box w4 28 (insL insZ) JJ (by rw [HJL.out]; rfl)); clear hW5 HV)|(guard_target =~ wpList _ _ _ (Oper.mk (some 30) _ _ _ _ _::_) _ _; refine wpList_load_want (by rfl) _ _ rfl w4.heap.size 0 rfl JJ _ HUB.out.range Tryd.underlying28 rfl HJ1.out ?_)|(guard_target =~ wpList _ _ _ (Oper.mk (some 31) _ _ _ _ _::_) _ _; refine wpList_load_want (by rfl) _ _ rfl w.heap.size 0 rfl _ _ HU.out.ins.range Tryd.underlying28 rfl HS1.out ?_))
  exact bodyPost_ret (v:= .tuple #[.int .u32 0,.int .i64 190]) (by simp [results,Tryd.results11,go_sem,Act.put]) rfl ⟨rfl,HU.out.bel⟩
set_option maxRecDepth 100000 in
set_option maxHeartbeats 400000 in
theorem genc_4 (i:Ins) (w:World) (ht:TP w) (hi:IOk i) (r:RowP) (j:Ins) (hr:rowN i.op i.form=some r) (hd:decP (layP r i)=some j) (hs:j.same i=true):Calls Tryd.prog 11 #[.agg (insA i)] w fun e w'=>e= .returned (.tuple #[.int .u32 ((layP r i:Nat):Int),.int .i64 0])∧Below w.heap.size w w':=by
  show Calls Tryd.prog 11 #[.agg (insL i).toArray] w fun e w'=>e= .returned (.tuple #[.int .u32 ((layP r i:Nat):Int),.int .i64 0])∧Below w.heap.size w w'
  have HN:Hid (∀w',TP w'→Calls Tryd.prog 23 #[.int .i64 i.op,.int .i64 i.form] w' fun e w''=>e= .returned (.tuple #[.agg (rowL r).toArray,.bool true])∧Below w'.heap.size w' w''):=fun w' ht=>by
    have:=growN_any i.op i.form w' ht
    rw [hr] at this
    exact this
  have HLA:Hid (∀w',TP w'→Calls Tryd.prog 24 #[.agg (rowL r).toArray,.agg (insL i).toArray] w' fun e w''=>e= .returned (.int .u32 ((layP r i:Nat):Int))∧Below w'.heap.size w' w''):=fun w' ht=>glay_any r i w' ht (rowN_ok hr) hi
  have HDE:Hid (∀w',TP w'→Calls Tryd.prog 10 #[.int .u32 ((layP r i:Nat):Int)] w' fun e w''=>e= .returned (.tuple #[.agg (insL j).toArray,.bool true])∧Below w'.heap.size w' w''):=fun w' ht=>by
    have:=gdec_any (layP r i) w' ht (lay_lt hr)
    rw [hd] at this
    exact this
  have HE:∀w,(Op.equalIn 10000 28 (.agg (insL j).toArray) (.agg (insL i).toArray)).run Tryd.prog w= .ok true w:=fun w=>by
    have:=eqI j i w
    rw [hs] at this
    exact this
  have HOJ:Hid ((insL j).toArray.all (·.oneCell')=true):=ins_all j
  have HJ1:Hid ((Tryd.prog.info? 28).map (·.size)=some (insL j).length):=ins_size
  have HJ2:Hid ((Tryd.prog.info? 28).map (·.size)=some (insL j).toArray.size):=ins_size
  have HJL:Hid ((insL j).length=20):=rfl
  have HJF:Hid (j.same i=true→layP r i=layP r i):=fun _=>rfl
  have hlw:=lay_lt hr
  have HX0:=hidW (BX.first ht (insL i))
  have HOZ:Hid ((insL insZ).toArray.all (·.oneCell')=true):=ins_all insZ
  have HS1:Hid ((Tryd.prog.info? 28).map (·.size)=some (insL i).length):=ins_size
  have HRO:Hid ((rowL r).toArray.all (·.oneCell')=true):=row_all r
  have HRL:Hid ((rowL r).length=5):=rfl
  have HRI:Hid ((Tryd.prog.info? 40).map (·.size)=some (rowL r).length):=row_info
  have HRJ:Hid ((Tryd.prog.info? 40).map (·.size)=some (rowL r).toArray.size):=row_info
  clear ht hi hr hd
  clear hs
  obtain ⟨TL,hTL⟩:∃TL,insL i= .int .i64 i.cond:: .int .i64 i.op:: .bool i.s:: .int .i64 i.form::TL:=⟨_,rfl⟩
  have hlen:TL.length=16:=by
    have:=congrArg List.length hTL
    rw [insL_len] at this
    simp only [List.length_cons] at this
    omega
  rw [hTL] at HX0 HS1 HLA ⊢
  simp only [hTL] at HE
  clear hTL
  generalize i.cond=C at *
  generalize i.op=OP at *
  generalize i.s=S at *
  generalize i.form=FM at *
  generalize rowL r=RL at *
  generalize layP r i=L at *
  have hL0:(0:Int)≤L∧(L:Int)<4294967296:=by omega
  clear hlw
  generalize insL j=JJ at *
  go_enter Tryd.func11,Tryd.ntmps11
  go_wp2_with (first|(go_at_call 23; refine (HN.out _ HX0.out.tp).mono ?_; rintro e w1 ⟨rfl,hb⟩; have HX:=hidW (HX0.out.step hb); clear hb HX0)|(guard_target =~ wpList _ _ _ (Oper.mk none (Op.store 40 _ _) _ _ _ _::_) _ _; have HT1:=new_there w1 40 (rowL rowZ) RL.toArray.size (by rw [List.size_toArray,HRL.out]; rfl); refine wpList_store_mid rfl _ _ _ rfl w1.heap.size 0 RL.toArray rfl rfl HT1 HRJ.out HRO.out ?_; clear HT1; generalize hW2:World.setCells _ _ _ _=w2; have HY:=hidW (show BX w _ w2 from hW2▸HX.out.step (fill_below w1 40 (rowL rowZ) RL)); have HYB:=hidW (show Bl w2 w1.heap.size 40 RL from hW2▸fill_box w1 40 (rowL rowZ) RL (by rw [HRL.out]; rfl)); clear hW2 HX)|(guard_target =~ wpList _ _ _ (Oper.mk (some 19) _ _ _ _ _::_) _ _; refine wpList_load_mid rfl _ _ rfl w1.heap.size 0 rfl RL _ HYB.out.range Tryd.underlying40 rfl HRI.out ?_)|(guard_target =~ wpList _ _ _ (Oper.mk (some 20) _ _ _ _ _::_) _ _; refine wpList_load_mid rfl _ _ rfl w.heap.size 0 rfl _ _ HY.out.ins.range Tryd.underlying28 rfl HS1.out ?_)|(go_at_call 24; refine (HLA.out _ HY.out.tp).mono ?_; rintro e w3 ⟨rfl,hb⟩; have HZ:=hidW (HY.out.step hb); clear hb HY HYB)|(go_at_call 10; refine (HDE.out _ HZ.out.tp).mono ?_; rintro e w4 ⟨rfl,hb⟩; have HV:=hidW (HZ.out.step hb); clear hb HZ)|(guard_target =~ wpList _ _ _ (Oper.mk none (Op.store 28 (Operand.tmp 7) _) _ _ _ _::_) _ _; have HT2:=new_there w4 28 (insL insZ) JJ.toArray.size (by rw [List.size_toArray,HJL.out]; rfl); refine wpList_store_mid rfl _ _ _ rfl w4.heap.size 0 JJ.toArray rfl rfl HT2 HJ2.out HOJ.out ?_; clear HT2; generalize hW5:World.setCells _ _ _ _=w5; have HU:=hidW (show BX w _ w5 from hW5▸HV.out.step (fill_below w4 28 (insL insZ) JJ)); have HUB:=hidW (show Bl w5 w4.heap.size 28 JJ from hW5▸fill_box w4 28 (insL insZ) JJ (by rw [HJL.out]; rfl)); clear hW5 HV)|(guard_target =~ wpList _ _ _ (Oper.mk (some 30) _ _ _ _ _::_) _ _; refine wpList_load_want (by rfl) _ _ rfl w4.heap.size 0 rfl JJ _ HUB.out.range Tryd.underlying28 rfl HJ1.out ?_)|(guard_target =~ wpList _ _ _ (Oper.mk (some 31) _ _ _ _ _::_) _ _; refine wpList_load_want (by rfl) _ _ rfl w.heap.size 0 rfl _ _ HU.out.ins.range Tryd.underlying28 rfl HS1.out ?_))
  exact bodyPost_ret (v:= .tuple #[.int .u32 (L:Int),.int .i64 0]) (by simp [results,Tryd.results11,go_sem,Act.put]) rfl ⟨rfl,HU.out.bel⟩
def encW (o:Option Nat):Int:=((o.getD 0:Nat):Int)
def encE (o:Option Nat):Int:=if o.isSome then 0 else 190
theorem genc_any (i:Ins) (w:World) (ht:TP w) (hi:IOk i):Calls Tryd.prog 11 #[.agg (insA i)] w fun e w'=>e= .returned (.tuple #[.int .u32 (encW (encP i)),.int .i64 (encE (encP i))])∧Below w.heap.size w w':=by
  unfold encP
  cases hr:rowN i.op i.form with
  | none=>exact genc_1 i w ht hi hr
  | some r =>
    show Calls Tryd.prog 11 #[.agg (insA i)] w fun e w'=>e= .returned (.tuple #[.int .u32 (encW (match decP (layP r i) with|none=>none|some j=>if j.same i then some (layP r i) else none)),.int .i64 (encE (match decP (layP r i) with|none=>none|some j=>if j.same i then some (layP r i) else none))])∧Below w.heap.size w w'
    cases hd:decP (layP r i) with
    | none=>exact genc_2 i w ht hi r hr hd
    | some j =>
      show Calls Tryd.prog 11 #[.agg (insA i)] w fun e w'=>e= .returned (.tuple #[.int .u32 (encW (if j.same i then some (layP r i) else none)),.int .i64 (encE (if j.same i then some (layP r i) else none))])∧Below w.heap.size w w'
      cases hs:j.same i with
      | false=>exact genc_3 i w ht hi r j hr hd hs
      | true=>exact genc_4 i w ht hi r j hr hd hs
open Go.RowKit
set_option linter.unusedVariables false
set_option linter.unusedSimpArgs false
set_option maxRecDepth 100000 in
set_option maxHeartbeats 400000 in
theorem gright_any (i:Ins) (w:World) (ht:TP w) (hi:IOk i):Calls Tryd.prog 12 #[.agg (insA i)] w fun e w'=>e= .returned (.bool (encP i).isSome)∧Below w.heap.size w w':=by
  have HB:=hidW (ins_bl w i)
  have HE:Hid (∀w',TP w'→Calls Tryd.prog 11 #[.agg (insL i).toArray] w' fun e w''=>e= .returned (.tuple #[.int .u32 (encW (encP i)),.int .i64 (encE (encP i))])∧Below w'.heap.size w' w''):=fun w' h=>genc_any i w' h hi
  have HT:Hid (TP (w.alloc (.cells (insL i).toArray 28))):=ht.below (below_new _ _)
  have HS1:Hid ((Tryd.prog.info? 28).map (·.size)=some (insL i).length):=ins_size
  have hee:(encE (encP i) == 0)=(encP i).isSome:=by cases encP i <;>rfl
  show Calls Tryd.prog 12 #[.agg (insL i).toArray] w fun e w'=>e= .returned (.bool (encP i).isSome)∧Below w.heap.size w w'
  change Hid (Bl (w.alloc (.cells (insL i).toArray 28)) w.heap.size 28 (insL i)) at HB
  rw [←hee]
  clear hee ht hi
  generalize encE (encP i)=E at *
  generalize encW (encP i)=X at *
  generalize insL i=II at *
  go_enter Tryd.func12,Tryd.ntmps12
  go_wp2_with (first|(guard_target =~ wpList _ _ _ (Oper.mk (some 6) _ _ _ _ _::_) _ _; refine wpList_load_mid rfl _ _ rfl w.heap.size 0 rfl _ _ HB.out.range Tryd.underlying28 rfl HS1.out ?_)|(go_at_call 11; refine (HE.out _ HT.out).mono ?_; rintro e w1 ⟨rfl,hb⟩; have HW:=hidW (Below.step (below_new _ _) hb); clear hb HT HB))
  exact bodyPost_ret (v:= .bool (E == 0)) (by simp [results,Tryd.results12,go_sem]) rfl ⟨rfl,HW.out⟩
end Go.Proofs.YtkmgmmmpiallhaaDoor
