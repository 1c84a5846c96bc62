import Derived.Test.YtkmgmmmpiallhaaDoorGr
import Derived.Test.YtkmgmmmpiallhaaDoorGy
import Derived.Test.YtkmgmmmpiallhaaDoorQg
namespace Go.Proofs.YtkmgmmmpiallhaaDoor
open Go.RowKit
set_option linter.unusedVariables false
set_option linter.unusedSimpArgs false
structure EX (W:World) (q:Nat) (t:TypeId) (L:List Value) (w:World):Prop where
  bel:Below W.heap.size W w
  res:Bl w W.heap.size 28 (insL insZ)
  box:Bl w q t L
  far:W.heap.size<q
  tp:TP w
theorem EX.step {W w w':World} {q:Nat} {t:TypeId} {L:List Value} (h:EX W q t L w) (hb:Below w.heap.size w w'):EX W q t L w':=⟨Below.step h.bel hb,h.res.below hb,h.box.below hb,h.far,h.tp.below hb⟩
structure EX0 (W w:World):Prop where
  bel:Below W.heap.size W w
  res:Bl w W.heap.size 28 (insL insZ)
  tp:TP w
theorem EX0.step {W w w':World} (h:EX0 W w) (hb:Below w.heap.size w w'):EX0 W w':=⟨Below.step h.bel hb,h.res.below hb,h.tp.below hb⟩
theorem EX.old {W w:World} {q:Nat} {t:TypeId} {L:List Value} (h:EX W q t L w):EX0 W w:=⟨h.bel,h.res,h.tp⟩
theorem EX0.first {W:World} (h:TP W):EX0 W (W.alloc (.cells (insL insZ).toArray 28)):=⟨below_new _ _,Bl.new _ _ _,h.below (below_new _ _)⟩
theorem EX0.lt {W w:World} (h:EX0 W w):W.heap.size<w.heap.size:=h.res.lt
theorem EX0.fill {W w:World} (h:EX0 W w) (t:TypeId) (Z L:List Value) (hl:L.length=Z.length):EX W w.heap.size t L ((w.alloc (.cells Z.toArray t)).setCells w.heap.size 0 L):=by
  have hb:Below w.heap.size w ((w.alloc (.cells Z.toArray t)).setCells w.heap.size 0 L):=Turn.to (set_turn L 0 w _ (TA.of (below_new _ _))) (fun _ e=>Nat.le_of_eq e.symm) (Nat.le_refl _)
  exact ⟨Below.step h.bel hb,h.res.below hb,set_all (Bl.new w t Z) hl,h.lt,h.tp.below hb⟩
theorem EX0.ret {W w:World} (h:EX0 W w) (L:List Value):Below W.heap.size W (w.setCells W.heap.size 0 L):=Turn.to (set_turn L 0 W _ (TA.of h.bel)) (fun _ e=>Nat.le_of_eq e.symm) (Nat.le_refl _)
theorem EX0.load {W w:World} (h:EX0 W w) (L:List Value) (hl:L.length=20):(loadVar 28 ⟨W.heap.size,0,none⟩).run Tryd.prog (w.setCells W.heap.size 0 L)= .ok (.agg L.toArray) (w.setCells W.heap.size 0 L):=ins_load (set_all h.res (by rw [hl]; rfl)) hl
theorem new_there (w:World) (t:TypeId) (Z:List Value) (n:Nat) (h:n=Z.length):(w.alloc (.cells Z.toArray t)).there w.heap.size 0 n:=(Bl.new w t Z).there n h
set_option maxRecDepth 100000 in
set_option maxHeartbeats 200000 in
theorem gdec_none (x:Nat) (w:World) (ht:TP w) (hx:x<4294967296) (hr:rowW x=none):Calls Tryd.prog 10 #[.int .u32 (x:Int)] w fun e w'=>e= .returned (.tuple #[.agg (insA insZ),.bool false])∧Below w.heap.size w w':=by
  have HW:Hid (∀w',TP w'→Calls Tryd.prog 20 #[.int .u32 (x:Int)] w' fun e w''=>e= .returned (.tuple #[.agg (rowL rowZ).toArray,.bool false])∧Below w'.heap.size w' w''):=fun w' ht=>by
    have:=growW_any x w' ht hx
    rw [hr] at this
    exact this
  have HX0:=hidW (EX0.first ht)
  clear ht hx hr
  have HO:Hid ((insL insZ).toArray.all (·.oneCell')=true):=ins_all insZ
  go_enter Tryd.func10,Tryd.ntmps10
  go_wp2_with (first|(go_at_call 20; refine (HW.out _ HX0.out.tp).mono ?_; rintro e w1 ⟨rfl,hb⟩; have HX:=hidW (HX0.out.step hb); clear hb HX0)|(guard_target =~ wpList _ _ _ (Oper.mk none (Op.store 40 _ _) _ _ _ _::_) _ _; refine wpList_store_mid rfl _ _ _ rfl w1.heap.size 0 (rowL rowZ).toArray rfl rfl (new_there w1 40 (rowL rowZ) 5 rfl) row_info (row_all rowZ) ?_; generalize hW2:World.setCells _ _ _ _=w2; have HY:=hidW (show EX0 w w2 from hW2▸(HX.out.fill 40 (rowL rowZ) (rowL rowZ) rfl).old); clear hW2 HX)|(guard_target =~ wpList _ _ _ (Oper.mk none (Op.store 28 _ _) _ _ _ _::_) _ _; refine wpList_store_mid rfl _ _ _ rfl w.heap.size 0 (insL insZ).toArray rfl rfl (HY.out.res.there 20 rfl) ins_size HO.out ?_; generalize hW3:World.setCells _ _ _ _=w3; have HL:=hidW (show (loadVar 28 ⟨w.heap.size,0,none⟩).run Tryd.prog w3= .ok (.agg (insL insZ).toArray) w3 from hW3▸HY.out.load (insL insZ) rfl); have HF:=hidW (show Below w.heap.size w w3 from hW3▸HY.out.ret (insL insZ)); clear hW3 HY))
  have hl:=HL.out
  exact bodyPost_ret (v:= .tuple #[.agg (insL insZ).toArray,.bool false]) (by simp [results,Tryd.results10,asAddr,hl,Act.put]) rfl ⟨rfl,HF.out⟩
set_option maxRecDepth 100000 in
set_option maxHeartbeats 400000 in
theorem gdec_false (x:Nat) (w:World) (ht:TP w) (hx:x<4294967296) (r:RowP) (hr:rowW x=some r) (hok:RowOk r) (hl:0≤(readP r x).list∧(readP r x).list<65536) (hn:0≤(readP r x).rn∧(readP r x).rn<16) (hm:mayP (readP r x)=false):Calls Tryd.prog 10 #[.int .u32 (x:Int)] w fun e w'=>e= .returned (.tuple #[.agg (insA insZ),.bool false])∧Below w.heap.size w w':=by
  have HW:Hid (∀w',TP w'→Calls Tryd.prog 20 #[.int .u32 (x:Int)] w' fun e w''=>e= .returned (.tuple #[.agg (rowL r).toArray,.bool true])∧Below w'.heap.size w' w''):=fun w' ht=>by
    have:=growW_any x w' ht hx
    rw [hr] at this
    exact this
  have HRD:Hid (∀w',TP w'→Calls Tryd.prog 21 #[.agg (rowL r).toArray,.int .u32 (x:Int)] w' fun e w''=>e= .returned (.agg (insL (readP r x)).toArray)∧Below w'.heap.size w' w''):=fun w' ht=>gread_any r x w' ht hok hx
  have HM:Hid (∀w',Calls Tryd.prog 22 #[.agg (insL (readP r x)).toArray] w' fun e w''=>e= .returned (.bool false)∧Below w'.heap.size w' w''):=fun w'=>by
    have:=gmay_any (readP r x) w' hl hn
    rw [hm] at this
    exact this
  have HX0:=hidW (EX0.first ht)
  have HOI:Hid ((insL (readP r x)).toArray.all (·.oneCell')=true):=ins_all (readP r x)
  have HOZ:Hid ((insL insZ).toArray.all (·.oneCell')=true):=ins_all insZ
  have HS1:Hid ((Tryd.prog.info? 28).map (·.size)=some (insL (readP r x)).length):=ins_size
  have HS2:Hid ((Tryd.prog.info? 28).map (·.size)=some (insL (readP r x)).toArray.size):=ins_size
  have HLE:Hid ((insL (readP r x)).length=20):=rfl
  have HR5:Hid (Value.agg (insL (readP r x)).toArray= .agg (insA (readP r x))):=rfl
  have HRO:Hid ((rowL r).toArray.all (·.oneCell')=true):=row_all r
  have HRL:Hid ((rowL r).length=5):=rfl
  have HRI:Hid ((Tryd.prog.info? 40).map (·.size)=some (rowL r).length):=row_info
  have HRJ:Hid ((Tryd.prog.info? 40).map (·.size)=some (rowL r).toArray.size):=row_info
  clear ht hx hr hl hn hm hok
  generalize insA (readP r x)=IA at *
  generalize insL (readP r x)=II at *
  generalize rowL r=RL at *
  go_enter Tryd.func10,Tryd.ntmps10
  go_wp2_with (first|(go_at_call 20; refine (HW.out _ HX0.out.tp).mono ?_; rintro e w1 ⟨rfl,hb⟩; have HX:=hidW (HX0.out.step hb); clear hb HX0)|(guard_target =~ wpList _ _ _ (Oper.mk none (Op.store 40 _ _) _ _ _ _::_) _ _; have HT1:=new_there w1 40 (rowL rowZ) RL.toArray.size (by rw [List.size_toArray,HRL.out]; rfl); refine wpList_store_mid rfl _ _ _ rfl w1.heap.size 0 RL.toArray rfl rfl HT1 HRJ.out HRO.out ?_; clear HT1; generalize hW2:World.setCells _ _ _ _=w2; have HY:=hidW (show EX w w1.heap.size 40 RL w2 from hW2▸HX.out.fill 40 (rowL rowZ) RL (by rw [HRL.out]; rfl)); clear hW2 HX)|(guard_target =~ wpList _ _ _ (Oper.mk (some 15) _ _ _ _ _::_) _ _; refine wpList_load_mid rfl _ _ rfl w1.heap.size 0 rfl RL _ HY.out.box.range Tryd.underlying40 rfl HRI.out ?_)|(go_at_call 21; refine (HRD.out _ HY.out.tp).mono ?_; rintro e w3 ⟨rfl,hb⟩; have HZ:=hidW (HY.out.old.step hb); clear hb HY)|(guard_target =~ wpList _ _ _ (Oper.mk none (Op.store 28 (Operand.tmp 6) _) _ _ _ _::_) _ _; have HT2:=new_there w3 28 (insL insZ) II.toArray.size (by rw [List.size_toArray,HLE.out]; rfl); refine wpList_store_mid rfl _ _ _ rfl w3.heap.size 0 II.toArray rfl rfl HT2 HS2.out HOI.out ?_; clear HT2; generalize hW4:World.setCells _ _ _ _=w4; have HV:=hidW (show EX w w3.heap.size 28 II w4 from hW4▸HZ.out.fill 28 (insL insZ) II (by rw [HLE.out]; rfl)); clear hW4 HZ)|(guard_target =~ wpList _ _ _ (Oper.mk (some 18) _ _ _ _ _::_) _ _; refine wpList_load_mid rfl _ _ rfl w3.heap.size 0 rfl II _ HV.out.box.range Tryd.underlying28 rfl HS1.out ?_)|(go_at_call 22; refine (HM.out _).mono ?_; rintro e w5 ⟨rfl,hb⟩; have HU:=hidW (HV.out.step hb); clear hb HV)|(guard_target =~ wpList _ _ _ (Oper.mk (some 22) _ _ _ _ _::_) _ _; refine wpList_load_mid rfl _ _ rfl w3.heap.size 0 rfl II _ HU.out.box.range Tryd.underlying28 rfl HS1.out ?_)|(guard_target =~ wpList _ _ _ (Oper.mk none (Op.store 28 (Operand.tmp 2) _) _ _ _ _::_) _ _; refine wpList_store_mid rfl _ _ _ rfl w.heap.size 0 (insL insZ).toArray rfl rfl (HU.out.res.there 20 rfl) ins_size HOZ.out ?_; generalize hW6:World.setCells _ _ _ _=w6; have HL:=hidW (show (loadVar 28 ⟨w.heap.size,0,none⟩).run Tryd.prog w6= .ok (.agg (insL insZ).toArray) w6 from hW6▸HU.out.old.load (insL insZ) rfl); have HF:=hidW (show Below w.heap.size w w6 from hW6▸HU.out.old.ret (insL insZ)); clear hW6 HU))
  have hl:=HL.out
  exact bodyPost_ret (v:= .tuple #[.agg (insL insZ).toArray,.bool false]) (by simp [results,Tryd.results10,asAddr,hl,Act.put]) rfl ⟨rfl,HF.out⟩
set_option maxRecDepth 100000 in
set_option maxHeartbeats 400000 in
theorem gdec_true (x:Nat) (w:World) (ht:TP w) (hx:x<4294967296) (r:RowP) (hr:rowW x=some r) (hok:RowOk r) (hl:0≤(readP r x).list∧(readP r x).list<65536) (hn:0≤(readP r x).rn∧(readP r x).rn<16) (hm:mayP (readP r x)=true):Calls Tryd.prog 10 #[.int .u32 (x:Int)] w fun e w'=>e= .returned (.tuple #[.agg (insA (readP r x)),.bool true])∧Below w.heap.size w w':=by
  have HW:Hid (∀w',TP w'→Calls Tryd.prog 20 #[.int .u32 (x:Int)] w' fun e w''=>e= .returned (.tuple #[.agg (rowL r).toArray,.bool true])∧Below w'.heap.size w' w''):=fun w' ht=>by
    have:=growW_any x w' ht hx
    rw [hr] at this
    exact this
  have HRD:Hid (∀w',TP w'→Calls Tryd.prog 21 #[.agg (rowL r).toArray,.int .u32 (x:Int)] w' fun e w''=>e= .returned (.agg (insL (readP r x)).toArray)∧Below w'.heap.size w' w''):=fun w' ht=>gread_any r x w' ht hok hx
  have HM:Hid (∀w',Calls Tryd.prog 22 #[.agg (insL (readP r x)).toArray] w' fun e w''=>e= .returned (.bool true)∧Below w'.heap.size w' w''):=fun w'=>by
    have:=gmay_any (readP r x) w' hl hn
    rw [hm] at this
    exact this
  have HX0:=hidW (EX0.first ht)
  have HOI:Hid ((insL (readP r x)).toArray.all (·.oneCell')=true):=ins_all (readP r x)
  have HOZ:Hid ((insL insZ).toArray.all (·.oneCell')=true):=ins_all insZ
  have HS1:Hid ((Tryd.prog.info? 28).map (·.size)=some (insL (readP r x)).length):=ins_size
  have HS2:Hid ((Tryd.prog.info? 28).map (·.size)=some (insL (readP r x)).toArray.size):=ins_size
  have HLE:Hid ((insL (readP r x)).length=20):=rfl
  have HR5:Hid (Value.agg (insL (readP r x)).toArray= .agg (insA (readP r x))):=rfl
  have HRO:Hid ((rowL r).toArray.all (·.oneCell')=true):=row_all r
  have HRL:Hid ((rowL r).length=5):=rfl
  have HRI:Hid ((Tryd.prog.info? 40).map (·.size)=some (rowL r).length):=row_info
  have HRJ:Hid ((Tryd.prog.info? 40).map (·.size)=some (rowL r).toArray.size):=row_info
  clear ht hx hr hl hn hm hok
  generalize insA (readP r x)=IA at *
  generalize insL (readP r x)=II at *
  generalize rowL r=RL at *
  go_enter Tryd.func10,Tryd.ntmps10
  go_wp2_with (first|(go_at_call 20; refine (HW.out _ HX0.out.tp).mono ?_; rintro e w1 ⟨rfl,hb⟩; have HX:=hidW (HX0.out.step hb); clear hb HX0)|(guard_target =~ wpList _ _ _ (Oper.mk none (Op.store 40 _ _) _ _ _ _::_) _ _; have HT1:=new_there w1 40 (rowL rowZ) RL.toArray.size (by rw [List.size_toArray,HRL.out]; rfl); refine wpList_store_mid rfl _ _ _ rfl w1.heap.size 0 RL.toArray rfl rfl HT1 HRJ.out HRO.out ?_; clear HT1; generalize hW2:World.setCells _ _ _ _=w2; have HY:=hidW (show EX w w1.heap.size 40 RL w2 from hW2▸HX.out.fill 40 (rowL rowZ) RL (by rw [HRL.out]; rfl)); clear hW2 HX)|(guard_target =~ wpList _ _ _ (Oper.mk (some 15) _ _ _ _ _::_) _ _; refine wpList_load_mid rfl _ _ rfl w1.heap.size 0 rfl RL _ HY.out.box.range Tryd.underlying40 rfl HRI.out ?_)|(go_at_call 21; refine (HRD.out _ HY.out.tp).mono ?_; rintro e w3 ⟨rfl,hb⟩; have HZ:=hidW (HY.out.old.step hb); clear hb HY)|(guard_target =~ wpList _ _ _ (Oper.mk none (Op.store 28 (Operand.tmp 6) _) _ _ _ _::_) _ _; have HT2:=new_there w3 28 (insL insZ) II.toArray.size (by rw [List.size_toArray,HLE.out]; rfl); refine wpList_store_mid rfl _ _ _ rfl w3.heap.size 0 II.toArray rfl rfl HT2 HS2.out HOI.out ?_; clear HT2; generalize hW4:World.setCells _ _ _ _=w4; have HV:=hidW (show EX w w3.heap.size 28 II w4 from hW4▸HZ.out.fill 28 (insL insZ) II (by rw [HLE.out]; rfl)); clear hW4 HZ)|(guard_target =~ wpList _ _ _ (Oper.mk (some 18) _ _ _ _ _::_) _ _; refine wpList_load_mid rfl _ _ rfl w3.heap.size 0 rfl II _ HV.out.box.range Tryd.underlying28 rfl HS1.out ?_)|(go_at_call 22; refine (HM.out _).mono ?_; rintro e w5 ⟨rfl,hb⟩; have HU:=hidW (HV.out.step hb); clear hb HV)|(guard_target =~ wpList _ _ _ (Oper.mk (some 22) _ _ _ _ _::_) _ _; refine wpList_load_mid rfl _ _ rfl w3.heap.size 0 rfl II _ HU.out.box.range Tryd.underlying28 rfl HS1.out ?_)|(guard_target =~ wpList _ _ _ (Oper.mk none (Op.store 28 (Operand.tmp 2) _) _ _ _ _::_) _ _; refine wpList_store_mid rfl _ _ _ rfl w.heap.size 0 II.toArray rfl rfl (HU.out.res.there II.toArray.size (by rw [List.size_toArray,HLE.out]; rfl)) HS2.out HOI.out ?_; generalize hW6:World.setCells _ _ _ _=w6; have HL:=hidW (show (loadVar 28 ⟨w.heap.size,0,none⟩).run Tryd.prog w6= .ok (.agg II.toArray) w6 from hW6▸HU.out.old.load II HLE.out); have HF:=hidW (show Below w.heap.size w w6 from hW6▸HU.out.old.ret II); clear hW6 HU))
  have hl:=HL.out
  exact bodyPost_ret (v:= .tuple #[.agg II.toArray,.bool true]) (by simp [results,Tryd.results10,asAddr,hl,Act.put]) rfl ⟨by rw [HR5.out],HF.out⟩
theorem cnt_rn:∀q∈rowsJ,cnt 110 q.pat≤4:=by
  have:rowsJ.all (fun q=>decide (cnt 110 q.pat≤4))=true:=by decide
  intro q hq
  simpa using List.all_eq_true.1 this q hq
theorem read_small {x:Nat} {r:RowP} (hx:x<4294967296) (hr:rowW x=some r):RowOk r∧(0≤(readP r x).list∧(readP r x).list<65536)∧(0≤(readP r x).rn∧(readP r x).rn<16):=by
  obtain ⟨hf,hl⟩:=row_fit hr
  obtain ⟨q,hp⟩:=low_pair r hl
  have hs:=(pairs _ hp).say x hx hf
  have hq:=cnt_rn q (pair_mem hp)
  refine ⟨?_,?_,?_⟩
  · rcases List.mem_append.1 hl with h|h
    · exact low_row r h
    · exact high_row r h
  · rw [hs]
    show 0≤((fvP 108 x q.pat%65536:Nat):Int)∧((fvP 108 x q.pat%65536:Nat):Int)<65536
    omega
  · rw [hs]
    show 0≤((fvP 110 x q.pat:Nat):Int)∧((fvP 110 x q.pat:Nat):Int)<16
    have h1:=fvP_lt 110 x q.pat
    have h2:2^cnt 110 q.pat≤2^4:=Nat.pow_le_pow_right (by decide) hq
    omega
theorem gdec_any (x:Nat) (w:World) (ht:TP w) (hx:x<4294967296):Calls Tryd.prog 10 #[.int .u32 (x:Int)] w fun e w'=>e= .returned (.tuple #[.agg (insA ((decP x).getD insZ)),.bool (decP x).isSome])∧Below w.heap.size w w':=by
  unfold decP
  cases hr:rowW x with
  | none=>exact gdec_none x w ht hx hr
  | some r =>
    obtain ⟨hok,hl,hn⟩:=read_small hx hr
    show Calls Tryd.prog 10 #[.int .u32 (x:Int)] w fun e w'=>e= .returned (.tuple #[.agg (insA ((if mayP (readP r x) then some (readP r x) else none).getD insZ)),.bool (if mayP (readP r x) then some (readP r x) else none).isSome])∧Below w.heap.size w w'
    cases hm:mayP (readP r x) with
    | false=>exact gdec_false x w ht hx r hr hok hl hn hm
    | true=>exact gdec_true x w ht hx r hr hok hl hn hm
end Go.Proofs.YtkmgmmmpiallhaaDoor
