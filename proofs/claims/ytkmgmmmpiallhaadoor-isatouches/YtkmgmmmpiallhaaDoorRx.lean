import Derived.Test.YtkmgmmmpiallhaaDoorRv
import Derived.Test.YtkmgmmmpiallhaaDoorQi
import Derived.Test.YtkmgmmmpiallhaaDoorGw
namespace Go.Proofs.YtkmgmmmpiallhaaDoor
open Go.RowKit
set_option linter.unusedVariables false
set_option linter.unusedSimpArgs false
theorem u32_nat (x:Int):IntKind.u32.wrap x=(((x%4294967296).toNat:Nat):Int):=by rw [IntKind.wrap_u32]; omega
theorem u32_lt (x:Int):(x%4294967296).toNat<4294967296:=by omega
theorem sum_rest (p:List UInt8) (LY:Int→Nat→Nat→Nat) (hLY:LY=fun K acc v=>(acc+mkP (UInt8.ofNat K.toNat) v p)%4294967296):∀(ps:List (Int×Nat)) (a:Nat),ps.foldl (fun a q=>LY q.1 a q.2) a=sumJ p (ps.map fun q=>UInt8.ofNat q.1.toNat) (ps.map (·.2)) a:=by
  intro ps
  induction ps with
  | nil=>intro a; rfl
  | cons q ps ih=>intro a; rw [List.foldl_cons,ih]; simp only [List.map_cons,sumJ]; rw [hLY]
set_option maxRecDepth 100000 in
theorem jword_any (r:RowJ) (o:Value) (s:ByteArray) (i:Ins) (w:World) (hr:r∈rowsJ) (hp:Pat s r.pat) (hi:IOk i) :
    Calls Tryd.prog 37 #[.agg #[o,.int .i64 r.form,.string s],.agg (insA i)] w fun e w'=>e= .returned (.int .u32 ((wordJ r i:Nat):Int))∧Below w.heap.size w w':=by
  obtain ⟨LY,hLY⟩:∃LY:Int→Nat→Nat→Nat,LY=fun K acc v=>(acc+mkP (UInt8.ofNat K.toNat) v r.pat)%4294967296:=⟨_,rfl⟩
  have HLY:Hid (∀(K:Int) (acc v:Nat) w',0≤K→K<256→K≠32→acc<4294967296→v<4294967296→Calls Tryd.prog 55 #[.string s,.int .u8 K,.int .u32 (acc:Int),.int .u32 (v:Int)] w' fun e w''=>e= .returned (.int .u32 (LY K acc v:Int))∧w''=w'):=fun K acc v w' a1 a2 a3 a4 a5=>by
    have:=jlay_any s r.pat (UInt8.ofNat K.toNat) acc v w' hp (u8_ne a1 a2 a3) a4 a5
    rw [u8_of a1 a2] at this
    rw [hLY]
    exact this
  have HLT:Hid (∀K acc v,LY K acc v<4294967296):=fun K acc v=>by rw [hLY]; exact Nat.mod_lt _ (by decide)
  have hm:mkP 49 4294967295 r.pat<4294967296:=on_lt r hr
  have H0:Hid (∀w',Calls Tryd.prog 55 #[.string s,.int .u8 49,.int .u32 0,.int .u32 4294967295] w' fun e w''=>e= .returned (.int .u32 ((mkP 49 4294967295 r.pat:Nat):Int))∧w''=w'):=fun w'=>by
    have:=jlay_any s r.pat 49 0 4294967295 w' hp (by decide) (by decide) (by decide)
    rw [Nat.zero_add,Nat.mod_eq_of_lt hm] at this
    exact this
  have HB0:Hid (∀b w',Calls Tryd.prog 56 #[.bool b] w' fun e w''=>e= .returned (.int .u32 ((fun b:Bool=>b.toNat) b:Int))∧w''=w'):=fun b w'=>jbit_any b w'
  obtain ⟨BT,hBT⟩:∃BT:Bool→Nat,BT=fun b=>b.toNat:=⟨_,rfl⟩
  have HB:Hid (∀b w',Calls Tryd.prog 56 #[.bool b] w' fun e w''=>e= .returned (.int .u32 (BT b:Int))∧w''=w'):=by rw [hBT]; exact HB0
  have hbl:∀b,BT b<4294967296:=fun b=>by rw [hBT]; cases b <;>decide
  have hT:restW LY [(99,(i.cond%4294967296).toNat),(111,((i.op-1)%4294967296).toNat),(100,(i.rd%4294967296).toNat),(110,(i.rn%4294967296).toNat),(109,(i.rm%4294967296).toNat),(114,(i.rs%4294967296).toNat),(97,(i.ra%4294967296).toNat),(116,(i.shift%4294967296).toNat),(107,(i.amount%4294967296).toNat),(120,(i.crn%4294967296).toNat),(121,(i.op1%4294967296).toNat),(122,(i.crm%4294967296).toNat),(118,(i.op2%4294967296).toNat),(108,i.list.toNat),(105,if isB i.op then i.imm.toNat / 4 else i.imm.toNat),(115,BT i.s),(112,BT i.pre),(117,BT i.up),(119,BT i.write)] 0 (mkP 49 4294967295 r.pat)=wordJ r i:=by
    unfold restW
    rw [List.drop_zero,sum_rest r.pat LY hLY,hBT]
    rfl
  have hw:∀x:Int,wrap64 x=IntKind.i64.wrap x:=fun x=>by rw [IntKind.wrap_i64]; unfold wrap64; omega
  have eo:IntKind.u32.wrap (IntKind.i64.wrap (i.op-1))=((((i.op-1)%4294967296).toNat:Nat):Int):=by rw [IntKind.wrap_i64,IntKind.wrap_u32]; omega
  have himm:=hi.imm
  have hlist:=hi.list
  have el:IntKind.u32.wrap i.list=((i.list.toNat:Nat):Int):=by rw [IntKind.wrap_u32]; omega
  generalize wordJ r i=TOT at *
  generalize mkP 49 4294967295 r.pat=a0 at *
  generalize r.form=q at *
  clear hLY hBT HB0 hp hi hr
  cases h41:(i.op == 41)
  · cases h42:(i.op == 42)
    · have hB:isB i.op=false:=by rw [isB,h41,h42]; rfl
      rw [hB] at hT
      exact word_core o q s i.cond i.op i.form i.rd i.rn i.rm i.rs i.ra i.imm i.shift i.amount i.list i.crn i.op1 i.crm i.op2 i.s i.pre i.up i.write w LY BT _ _ _ _ _ _ _ _ _ _ _ _ _ _ i.imm.toNat a0 TOT _ H0 HLY HLT hm HB (u32_nat _) rfl (hw _) eo (u32_nat _) (u32_nat _) (u32_nat _) (u32_nat _) (u32_nat _) (u32_nat _) (u32_nat _) (u32_nat _) (u32_nat _) (u32_nat _) (u32_nat _) el false false h41 h42 rfl i.imm.toNat (by omega) (fun _=>rfl) (fun h=>by cases h) (hidW (by intro v hv; simp only [List.mem_cons,List.not_mem_nil,or_false] at hv; rcases hv with rfl|rfl|rfl|rfl|rfl|rfl|rfl|rfl|rfl|rfl|rfl|rfl|rfl|rfl|rfl|rfl|rfl|rfl|rfl; all_goals first|exact u32_lt _|exact hbl _|omega)) hT
    · have hB:isB i.op=true:=by rw [isB,h42,Bool.or_true]
      rw [hB] at hT
      exact word_core o q s i.cond i.op i.form i.rd i.rn i.rm i.rs i.ra i.imm i.shift i.amount i.list i.crn i.op1 i.crm i.op2 i.s i.pre i.up i.write w LY BT _ _ _ _ _ _ _ _ _ _ _ _ _ _ (i.imm.toNat / 4) a0 TOT _ H0 HLY HLT hm HB (u32_nat _) rfl (hw _) eo (u32_nat _) (u32_nat _) (u32_nat _) (u32_nat _) (u32_nat _) (u32_nat _) (u32_nat _) (u32_nat _) (u32_nat _) (u32_nat _) (u32_nat _) el false true h41 h42 rfl i.imm.toNat (by omega) (fun h=>by cases h) (fun _=>⟨by omega,by rw [Int.tdiv_eq_ediv_of_nonneg (Int.natCast_nonneg _)]; omega,by omega⟩) (hidW (by intro v hv; simp only [List.mem_cons,List.not_mem_nil,or_false] at hv; rcases hv with rfl|rfl|rfl|rfl|rfl|rfl|rfl|rfl|rfl|rfl|rfl|rfl|rfl|rfl|rfl|rfl|rfl|rfl|rfl; all_goals first|exact u32_lt _|exact hbl _|omega)) hT
  · have hB:isB i.op=true:=by rw [isB,h41,Bool.true_or]
    rw [hB] at hT
    exact word_core o q s i.cond i.op i.form i.rd i.rn i.rm i.rs i.ra i.imm i.shift i.amount i.list i.crn i.op1 i.crm i.op2 i.s i.pre i.up i.write w LY BT _ _ _ _ _ _ _ _ _ _ _ _ _ _ (i.imm.toNat / 4) a0 TOT _ H0 HLY HLT hm HB (u32_nat _) rfl (hw _) eo (u32_nat _) (u32_nat _) (u32_nat _) (u32_nat _) (u32_nat _) (u32_nat _) (u32_nat _) (u32_nat _) (u32_nat _) (u32_nat _) (u32_nat _) el true false h41 (by have:i.op=41:=beq_iff_eq.1 h41; rw [this]; rfl) rfl i.imm.toNat (by omega) (fun h=>by cases h) (fun _=>⟨by omega,by rw [Int.tdiv_eq_ediv_of_nonneg (Int.natCast_nonneg _)]; omega,by omega⟩) (hidW (by intro v hv; simp only [List.mem_cons,List.not_mem_nil,or_false] at hv; rcases hv with rfl|rfl|rfl|rfl|rfl|rfl|rfl|rfl|rfl|rfl|rfl|rfl|rfl|rfl|rfl|rfl|rfl|rfl|rfl; all_goals first|exact u32_lt _|exact hbl _|omega)) hT
structure EX1 (W:World) (I:List Value) (g:Nat) (w:World):Prop where
  bel:Below W.heap.size W w
  ins:Bl w W.heap.size 28 I
  all:AllAt w g
theorem EX1.step {W w w':World} {I:List Value} {g:Nat} (h:EX1 W I g w) (hb:Below w.heap.size w w'):EX1 W I g w':=⟨Below.step h.bel hb,h.ins.below hb,h.all.below hb⟩
theorem enc_yes {i:Ins} {y:Nat} (h:encJ i=some y):encW (encJ i)=(y:Int)∧encE (encJ i)=0:=by rw [h]; exact ⟨rfl,rfl⟩
theorem enc_no {i:Ins} (h:encJ i=none):encW (encJ i)=0∧encE (encJ i)=190:=by rw [h]; exact ⟨rfl,rfl⟩
structure EC (W:World) (g k b:Nat) (r:RowJ) (s:ByteArray) (x1 x3:Value) (w:World):Prop where
  is:w.cell? ⟨g,k*3,none⟩=some (.slice (some ⟨b,0,none⟩) r.ops.length r.ops.length)∧w.cell? ⟨g,k*3+1,none⟩=some (.int .i64 r.form)∧w.cell? ⟨g,k*3+2,none⟩=some (.string s)∧w.cell? ⟨W.heap.size,1,none⟩=some x1∧w.cell? ⟨W.heap.size,3,none⟩=some x3
theorem EX1.held {W w:World} {g k b:Nat} {r:RowJ} {s:ByteArray} {x0 x1 x2 x3:Value} {L:List Value} (h:EX1 W (x0::x1::x2::x3::L) g w) (hc:RowC3 w g k r b s) :
    w.rangeAt W.heap.size 0 (x0::x1::x2::x3::L)∧w.cell? ⟨g,k*3,none⟩=some (.slice (some ⟨b,0,none⟩) r.ops.length r.ops.length)∧w.cell? ⟨g,k*3+1,none⟩=some (.int .i64 r.form)∧w.cell? ⟨g,k*3+2,none⟩=some (.string s)∧w.cell? ⟨W.heap.size,1,none⟩=some x1∧w.cell? ⟨W.heap.size,3,none⟩=some x3:=⟨h.ins.range,hc.c0,hc.c1,hc.c2,h.ins.cell 1,h.ins.cell 3⟩
set_option maxRecDepth 100000 in
set_option maxHeartbeats 2000000 in
theorem jenc_any (i:Ins) (w:World) (hi:IOk i):Calls Tryd.prog 16 #[.agg (insA i)] w fun e w'=>e= .returned (.tuple #[.int .u32 (encW (encJ i)),.int .i64 (encE (encJ i))])∧Below w.heap.size w w':=by
  show Calls Tryd.prog 16 #[.agg (insL i).toArray] w fun e w'=>e= .returned (.tuple #[.int .u32 (encW (encJ i)),.int .i64 (encE (encJ i))])∧Below w.heap.size w w'
  have HR:Hid (∀w',Calls Tryd.prog 35 #[] w' fun e w''=>∃g cap,e= .returned (.slice (some ⟨g,0,none⟩) 54 cap)∧AllAt w'' g∧w'.heap.size≤g∧Below w'.heap.size w' w''):=jrows_any
  have HA0:=hidW (AX.first w (insL i))
  have HIN:Hid (∀b (l:List Int) w',Sl w' b l→Calls Tryd.prog 36 #[.slice (some ⟨b,0,none⟩) l.length l.length,.int .i64 i.op] w' fun e w''=>e= .returned (.bool (l.contains i.op))∧w''=w'):=fun b l w' hs=>jin_any b l i.op w' hs
  have HWD:Hid (∀r,r∈rowsJ→∀b s,Pat s r.pat→∀w',Calls Tryd.prog 37 #[.agg #[.slice (some ⟨b,0,none⟩) r.ops.length r.ops.length,.int .i64 r.form,.string s],.agg (insL i).toArray] w' fun e w''=>e= .returned (.int .u32 ((wordJ r i:Nat):Int))∧Below w'.heap.size w' w''):=fun r hr b s hp w'=>jword_any r _ s i w' hr hp hi
  have HQ:Hid (∀d w,(Op.equalIn 10000 28 (.agg (insL d).toArray) (.agg (insL i).toArray)).run Tryd.prog w= .ok (d.same i) w):=fun d w=>eqI d i w
  have HLI:Hid ((insL i).length=20):=rfl
  have HSI:Hid ((Tryd.prog.info? 28).map (·.size)=some (insL i).length):=ins_size
  obtain ⟨E0,hE0⟩:∃E0,encW (encJ i)=E0:=⟨_,rfl⟩
  obtain ⟨E1,hE1⟩:∃E1,encE (encJ i)=E1:=⟨_,rfl⟩
  have HY:Hid (∀y:Nat,encJ i=some y→(y:Int)=E0∧(0:Int)=E1):=fun y h=>⟨by rw [←hE0,(enc_yes h).1],by rw [←hE1,(enc_yes h).2]⟩
  have HNO:Hid (encJ i=none→(0:Int)=E0∧(190:Int)=E1):=fun h=>⟨by rw [←hE0,(enc_no h).1],by rw [←hE1,(enc_no h).2]⟩
  rw [hE0,hE1]
  clear hE0 hE1 hi
  have HFD:Hid (encJ i=(rowsJ.find? (tryJ i)).map fun r=>wordJ r i):=rfl
  have HTR:Hid (∀r,tryJ i r=(r.ops.contains i.op && (r.form == i.form && (match decJ (wordJ r i) with|none=>false|some j=>j.same i)))):=fun r=>rfl
  obtain ⟨TL,hTL⟩:∃TL,insL i= .int .i64 i.cond:: .int .i64 i.op:: .bool i.s:: .int .i64 i.form::TL:=⟨_,rfl⟩
  rw [hTL] at HA0 HWD HQ HLI HSI ⊢
  clear hTL
  generalize i.cond=C at *
  generalize i.op=OP at *
  generalize i.s=S at *
  generalize i.form=FM at *
  go_enter Tryd.func16,Tryd.ntmps16
  go_wp2_with (go_at_call 35; refine (HR.out _).mono ?_; rintro e w1 ⟨g,cap,rfl,ha,hg,hb⟩; have HG:=hidW (EX1.mk (HA0.out.step hb).bel (HA0.out.step hb).res ha); clear ha hg hb HA0 HR)
  go_loopw [2,3,5] (fun r2 r3 r5 wr=>r2= .int .u32 0∧r3= .int .i64 0∧∃k:Nat,k≤54∧r5= .int .i64 (k:Int)∧EX1 w (Value.int .i64 C:: .int .i64 OP:: .bool S:: .int .i64 FM::TL) g wr∧(rowsJ.drop k).find? (tryJ i)=rowsJ.find? (tryJ i)) (fun _ _ r5 _=>(54-intOf r5).toNat)
  case atStart=>exact ⟨rfl,rfl,0,by omega,rfl,HG.out,rfl⟩
  case round =>
    clear HG
    obtain ⟨rfl,rfl,k,h1,rfl,HG,hv⟩:=hrel
    have HG:=hidW HG
    have hv:=hidW hv
    by_cases h:k<54
    · obtain ⟨b,s,hrc⟩:=HG.out.all.row (k:=k) h
      have hrm:=List.getElem_mem (l:=rowsJ) (n:=k) h
      have hst:=hidW (find_drop (p:=tryJ i) (l:=rowsJ) (k:=k) h)
      generalize rowsJ[k]=r at hrc hrm hst
      have HWD:=hidW (HWD.out r hrm b s hrc.pat)
      have HIN:=hidW (fun w' (hs:Sl w' b r.ops)=>HIN.out b r.ops w' hs)
      have HTR:=hidW (HTR.out r)
      have HAns:Hid (tryJ i r=true→((wordJ r i:Nat):Int)=E0∧(0:Int)=E1):=fun hh=>HY.out _ (by rw [HFD.out,←hv.out,hst.out,if_pos hh]; rfl)
      have HNext:Hid (tryJ i r=false→(rowsJ.drop (k+1)).find? (tryJ i)=rowsJ.find? (tryJ i)):=fun hh=>by rw [←hv.out,hst.out,hh]; rfl
      have hwl:=wordJ_lt hrm i
      have HDE:Hid (∀w',Calls Tryd.prog 15 #[.int .u32 ((wordJ r i:Nat):Int)] w' fun e w''=>e= .returned (.tuple #[.agg (insL ((decJ (wordJ r i)).getD insZ)).toArray,.bool (decJ (wordJ r i)).isSome])∧Below w'.heap.size w' w''):=fun w'=>jdec_any _ w' hwl
      have HQ:=hidW (HQ.out ((decJ (wordJ r i)).getD insZ))
      have HSM:Hid ((match decJ (wordJ r i) with|none=>false|some j=>j.same i)=((decJ (wordJ r i)).isSome && ((decJ (wordJ r i)).getD insZ).same i)):=by show _=_; cases decJ (wordJ r i) <;>rfl
      have HC:=hidW hrc
      have HLE:Hid ((insL ((decJ (wordJ r i)).getD insZ)).length=20):=rfl
      have HOI:Hid ((insL ((decJ (wordJ r i)).getD insZ)).toArray.all (·.oneCell')=true):=ins_all _
      have HS2:Hid ((Tryd.prog.info? 28).map (·.size)=some (insL ((decJ (wordJ r i)).getD insZ)).toArray.size):=ins_size
      have HS1:Hid ((Tryd.prog.info? 28).map (·.size)=some (insL ((decJ (wordJ r i)).getD insZ)).length):=ins_size
      rw [HSM.out] at HTR
      have hx0:(0:Int)≤(wordJ r i:Nat)∧((wordJ r i:Nat):Int)<4294967296:=by omega
      clear hrc hrm hst hv HSM HFD HY hwl
      generalize ((decJ (wordJ r i)).getD insZ).same i=SM at *
      generalize insL ((decJ (wordJ r i)).getD insZ)=DI at *
      generalize (decJ (wordJ r i)).isSome=OK at *
      generalize tryJ i r=TR at *
      generalize ((wordJ r i:Nat):Int)=X at *
      obtain ⟨hx0,hx1⟩:=hx0
      have hk1:IntKind.i64.wrap ((k:Int)+1)=((k+1:Nat):Int):=by rw [IntKind.wrap_i64]; omega
      have z1:decide ((k:Int)<54)=true:=decide_eq_true (by omega)
      have hj:(k:Int)<54:=by omega
      go_wp2
      have hb0:Below wr.heap.size wr wr.drew:=below_drew (Below.refl _ _)
      have HG:=hidW (HG.out.step hb0)
      have HC:=hidW (HC.out.below hb0)
      have K1:=HG.out.held HC.out
      refine wp_region_held_drew (S:=fun w'=>w'.rangeAt w.heap.size 0 (Value.int .i64 C:: .int .i64 OP:: .bool S:: .int .i64 FM::TL)∧w'.cell? ⟨g,k*3,none⟩=some (.slice (some ⟨b,0,none⟩) r.ops.length r.ops.length)∧w'.cell? ⟨g,k*3+1,none⟩=some (.int .i64 r.form)∧w'.cell? ⟨g,k*3+2,none⟩=some (.string s)∧w'.cell? ⟨w.heap.size,1,none⟩=some (.int .i64 OP)∧w'.cell? ⟨w.heap.size,3,none⟩=some (.int .i64 FM)) (by kernel_rfl) K1 (fun hHeld=> ?_)
      clear hHeld
      have K2:=hidW K1
      clear K1
      cases hcon:r.ops.contains OP
      · rw [hcon] at HIN HTR
        refine tkH 0 ⟨some 16,.move (.tmp 4),53,_,#[],none⟩ ?_ ?_ ?_
        rotate_left
        · (intro w hSw; (try dsimp only at hSw); go_simp; try with_reducible rfl)
        simp only [Act.put,List.setIfInBounds_toArray,List.set_cons_zero,List.set_cons_succ]
        refine tkH 1 ⟨some 17,.move (.tmp 5),3,_,#[],none⟩ ?_ ?_ ?_
        rotate_left
        · (intro w hSw; (try dsimp only at hSw); go_simp; try with_reducible rfl)
        simp only [Act.put,List.setIfInBounds_toArray,List.set_cons_zero,List.set_cons_succ]
        refine tkH 2 ⟨some 18,.indexAddr 53 (.tmp 16) (.tmp 17),0,_,#[⟨0,.data⟩,⟨1,.data⟩],none⟩ ?_ ?_ ?_
        rotate_left
        · (intro w hSw; (try dsimp only at hSw); go_simp; try with_reducible rfl)
        simp only [Act.put,List.setIfInBounds_toArray,List.set_cons_zero,List.set_cons_succ]
        refine tkH 3 ⟨some 19,.fieldAddr 50 (.tmp 18) 0,0,_,#[⟨2,.data⟩],none⟩ ?_ ?_ ?_
        rotate_left
        · (intro w hSw; (try dsimp only at hSw); go_simp; try with_reducible rfl)
        simp only [Act.put,List.setIfInBounds_toArray,List.set_cons_zero,List.set_cons_succ]
        refine tkH 4 ⟨some 20,.load 48 (.tmp 19),48,_,#[⟨3,.data⟩],none⟩ ?_ ?_ ?_
        rotate_left
        · (intro w hSw; (try dsimp only at hSw); go_simp; try with_reducible rfl)
        simp only [Act.put,List.setIfInBounds_toArray,List.set_cons_zero,List.set_cons_succ]
        refine tkH 5 ⟨some 21,.fieldAddr 28 (.tmp 1) 1,0,_,#[],none⟩ ?_ ?_ ?_
        rotate_left
        · (intro w hSw; (try dsimp only at hSw); go_simp; try with_reducible rfl)
        simp only [Act.put,List.setIfInBounds_toArray,List.set_cons_zero,List.set_cons_succ]
        refine tkH 6 ⟨some 22,.load 3 (.tmp 21),3,_,#[⟨5,.data⟩],none⟩ ?_ ?_ ?_
        rotate_left
        · (intro w hSw; (try dsimp only at hSw); go_simp; try with_reducible rfl)
        simp only [Act.put,List.setIfInBounds_toArray,List.set_cons_zero,List.set_cons_succ]
        refine wpAnyH_ready (rs:=[7]) (by kernel_rfl) (by simp) ?_
        refine AllReadyH.cons (o:=⟨some 23,.call ⟨.value (.func 36),#[.tmp 20,.tmp 22],#[48,3]⟩,4,_,#[⟨4,.data⟩,⟨6,.data⟩],none⟩) rfl (fun K hK=> ?_) AllReadyH.nil
        go_simp
        go_at_call 36; refine (HIN.out _ HC.out.sl).mono ?_; rintro e w5 ⟨rfl,rfl⟩
        refine hK.out _ _ ?_ (fun hHeld=> ?_)
        · with_reducible exact K2.out
        clear hK K
        try simp only [Act.put,List.setIfInBounds_toArray,List.set_cons_zero,List.set_cons_succ]
        refine tkH 8 ⟨some 24,.unOp UnOp.not 4 (.tmp 23),4,_,#[⟨7,.data⟩],none⟩ ?_ ?_ ?_
        rotate_left
        · (intro w hSw; (try dsimp only at hSw); go_simp; try with_reducible rfl)
        simp only [Act.put,List.setIfInBounds_toArray,List.set_cons_zero,List.set_cons_succ]
        refine tkH 9 ⟨some 25,.move (.tmp 24),4,_,#[⟨8,.data⟩,⟨7,.chain⟩],none⟩ ?_ ?_ ?_
        rotate_left
        · (intro w hSw; (try dsimp only at hSw); go_simp; try with_reducible rfl)
        simp only [Act.put,List.setIfInBounds_toArray,List.set_cons_zero,List.set_cons_succ]
        refine wpAnyH_take (i:=10) (oi:=⟨some 26,.move (.tmp 4),53,_,#[⟨9,.guard⟩],some (9,false)⟩) (v:=undef) rfl (by kernel_rfl) (by kernel_rfl) (by kernel_rfl) (fun _ _ _ h=>h) (Or.inr ⟨by rfl,rfl⟩) (by assumption) ?_
        simp only [Act.put,List.setIfInBounds_toArray,List.set_cons_zero,List.set_cons_succ]
        refine wpAnyH_take (i:=11) (oi:=⟨some 27,.move (.tmp 5),3,_,#[⟨9,.guard⟩],some (9,false)⟩) (v:=undef) rfl (by kernel_rfl) (by kernel_rfl) (by kernel_rfl) (fun _ _ _ h=>h) (Or.inr ⟨by rfl,rfl⟩) (by assumption) ?_
        simp only [Act.put,List.setIfInBounds_toArray,List.set_cons_zero,List.set_cons_succ]
        refine wpAnyH_take (i:=12) (oi:=⟨some 28,.indexAddr 53 (.tmp 26) (.tmp 27),0,_,#[⟨10,.data⟩,⟨11,.data⟩,⟨9,.guard⟩],some (9,false)⟩) (v:=undef) rfl (by kernel_rfl) (by kernel_rfl) (by kernel_rfl) (fun _ _ _ h=>h) (Or.inr ⟨by rfl,rfl⟩) (by assumption) ?_
        simp only [Act.put,List.setIfInBounds_toArray,List.set_cons_zero,List.set_cons_succ]
        refine wpAnyH_take (i:=13) (oi:=⟨some 29,.fieldAddr 50 (.tmp 28) 1,0,_,#[⟨12,.data⟩,⟨9,.guard⟩],some (9,false)⟩) (v:=undef) rfl (by kernel_rfl) (by kernel_rfl) (by kernel_rfl) (fun _ _ _ h=>h) (Or.inr ⟨by rfl,rfl⟩) (by assumption) ?_
        simp only [Act.put,List.setIfInBounds_toArray,List.set_cons_zero,List.set_cons_succ]
        refine wpAnyH_take (i:=14) (oi:=⟨some 30,.load 3 (.tmp 29),3,_,#[⟨13,.data⟩,⟨9,.guard⟩],some (9,false)⟩) (v:=undef) rfl (by kernel_rfl) (by kernel_rfl) (by kernel_rfl) (fun _ _ _ h=>h) (Or.inr ⟨by rfl,rfl⟩) (by assumption) ?_
        simp only [Act.put,List.setIfInBounds_toArray,List.set_cons_zero,List.set_cons_succ]
        refine wpAnyH_take (i:=15) (oi:=⟨some 31,.fieldAddr 28 (.tmp 1) 3,0,_,#[⟨9,.guard⟩],some (9,false)⟩) (v:=undef) rfl (by kernel_rfl) (by kernel_rfl) (by kernel_rfl) (fun _ _ _ h=>h) (Or.inr ⟨by rfl,rfl⟩) (by assumption) ?_
        simp only [Act.put,List.setIfInBounds_toArray,List.set_cons_zero,List.set_cons_succ]
        refine wpAnyH_take (i:=16) (oi:=⟨some 32,.load 3 (.tmp 31),3,_,#[⟨15,.data⟩,⟨9,.guard⟩],some (9,false)⟩) (v:=undef) rfl (by kernel_rfl) (by kernel_rfl) (by kernel_rfl) (fun _ _ _ h=>h) (Or.inr ⟨by rfl,rfl⟩) (by assumption) ?_
        simp only [Act.put,List.setIfInBounds_toArray,List.set_cons_zero,List.set_cons_succ]
        refine wpAnyH_take (i:=17) (oi:=⟨some 33,.binOp BinOp.neq 3 (.tmp 30) (.tmp 32) 3,4,_,#[⟨14,.data⟩,⟨16,.data⟩,⟨9,.guard⟩],some (9,false)⟩) (v:=undef) rfl (by kernel_rfl) (by kernel_rfl) (by kernel_rfl) (fun _ _ _ h=>h) (Or.inr ⟨by rfl,rfl⟩) (by assumption) ?_
        simp only [Act.put,List.setIfInBounds_toArray,List.set_cons_zero,List.set_cons_succ]
        refine tkH 18 ⟨some 34,.pick (.tmp 25) (.const (Value.bool true)) (.tmp 33),4,_,#[⟨9,.data⟩,⟨17,.data⟩],none⟩ ?_ ?_ ?_
        rotate_left
        · (intro w hSw; (try dsimp only at hSw); go_simp; try with_reducible rfl)
        simp only [Act.put,List.setIfInBounds_toArray,List.set_cons_zero,List.set_cons_succ]
        refine wpAnyH_done (by kernel_rfl) ?_ _
        go_wp2
        refine ⟨⟨rfl,rfl,k+1,by omega,rfl,HG.out,HNext.out (by rw [HTR.out]; rfl)⟩,?_⟩
        simp only [intOf]; omega
      · rw [hcon] at HIN HTR
        cases hfm:(r.form !=FM)
        · have hfe:(r.form == FM)=true:=by simpa [bne] using hfm
          rw [hfe] at HTR
          refine tkH 0 ⟨some 16,.move (.tmp 4),53,_,#[],none⟩ ?_ ?_ ?_
          rotate_left
          · (intro w hSw; (try dsimp only at hSw); go_simp; try with_reducible rfl)
          simp only [Act.put,List.setIfInBounds_toArray,List.set_cons_zero,List.set_cons_succ]
          refine tkH 1 ⟨some 17,.move (.tmp 5),3,_,#[],none⟩ ?_ ?_ ?_
          rotate_left
          · (intro w hSw; (try dsimp only at hSw); go_simp; try with_reducible rfl)
          simp only [Act.put,List.setIfInBounds_toArray,List.set_cons_zero,List.set_cons_succ]
          refine tkH 2 ⟨some 18,.indexAddr 53 (.tmp 16) (.tmp 17),0,_,#[⟨0,.data⟩,⟨1,.data⟩],none⟩ ?_ ?_ ?_
          rotate_left
          · (intro w hSw; (try dsimp only at hSw); go_simp; try with_reducible rfl)
          simp only [Act.put,List.setIfInBounds_toArray,List.set_cons_zero,List.set_cons_succ]
          refine tkH 3 ⟨some 19,.fieldAddr 50 (.tmp 18) 0,0,_,#[⟨2,.data⟩],none⟩ ?_ ?_ ?_
          rotate_left
          · (intro w hSw; (try dsimp only at hSw); go_simp; try with_reducible rfl)
          simp only [Act.put,List.setIfInBounds_toArray,List.set_cons_zero,List.set_cons_succ]
          refine tkH 4 ⟨some 20,.load 48 (.tmp 19),48,_,#[⟨3,.data⟩],none⟩ ?_ ?_ ?_
          rotate_left
          · (intro w hSw; (try dsimp only at hSw); go_simp; try with_reducible rfl)
          simp only [Act.put,List.setIfInBounds_toArray,List.set_cons_zero,List.set_cons_succ]
          refine tkH 5 ⟨some 21,.fieldAddr 28 (.tmp 1) 1,0,_,#[],none⟩ ?_ ?_ ?_
          rotate_left
          · (intro w hSw; (try dsimp only at hSw); go_simp; try with_reducible rfl)
          simp only [Act.put,List.setIfInBounds_toArray,List.set_cons_zero,List.set_cons_succ]
          refine tkH 6 ⟨some 22,.load 3 (.tmp 21),3,_,#[⟨5,.data⟩],none⟩ ?_ ?_ ?_
          rotate_left
          · (intro w hSw; (try dsimp only at hSw); go_simp; try with_reducible rfl)
          simp only [Act.put,List.setIfInBounds_toArray,List.set_cons_zero,List.set_cons_succ]
          refine wpAnyH_ready (rs:=[7]) (by kernel_rfl) (by simp) ?_
          refine AllReadyH.cons (o:=⟨some 23,.call ⟨.value (.func 36),#[.tmp 20,.tmp 22],#[48,3]⟩,4,_,#[⟨4,.data⟩,⟨6,.data⟩],none⟩) rfl (fun K hK=> ?_) AllReadyH.nil
          go_simp
          go_at_call 36; refine (HIN.out _ HC.out.sl).mono ?_; rintro e w5 ⟨rfl,rfl⟩
          refine hK.out _ _ ?_ (fun hHeld=> ?_)
          · with_reducible exact K2.out
          clear hK K
          try simp only [Act.put,List.setIfInBounds_toArray,List.set_cons_zero,List.set_cons_succ]
          refine tkH 8 ⟨some 24,.unOp UnOp.not 4 (.tmp 23),4,_,#[⟨7,.data⟩],none⟩ ?_ ?_ ?_
          rotate_left
          · (intro w hSw; (try dsimp only at hSw); go_simp; try with_reducible rfl)
          simp only [Act.put,List.setIfInBounds_toArray,List.set_cons_zero,List.set_cons_succ]
          refine tkH 9 ⟨some 25,.move (.tmp 24),4,_,#[⟨8,.data⟩,⟨7,.chain⟩],none⟩ ?_ ?_ ?_
          rotate_left
          · (intro w hSw; (try dsimp only at hSw); go_simp; try with_reducible rfl)
          simp only [Act.put,List.setIfInBounds_toArray,List.set_cons_zero,List.set_cons_succ]
          refine tkH 10 ⟨some 26,.move (.tmp 4),53,_,#[⟨9,.guard⟩],some (9,false)⟩ ?_ ?_ ?_
          rotate_left
          · (intro w hSw; (try dsimp only at hSw); go_simp; try with_reducible rfl)
          simp only [Act.put,List.setIfInBounds_toArray,List.set_cons_zero,List.set_cons_succ]
          refine tkH 11 ⟨some 27,.move (.tmp 5),3,_,#[⟨9,.guard⟩],some (9,false)⟩ ?_ ?_ ?_
          rotate_left
          · (intro w hSw; (try dsimp only at hSw); go_simp; try with_reducible rfl)
          simp only [Act.put,List.setIfInBounds_toArray,List.set_cons_zero,List.set_cons_succ]
          refine tkH 12 ⟨some 28,.indexAddr 53 (.tmp 26) (.tmp 27),0,_,#[⟨10,.data⟩,⟨11,.data⟩,⟨9,.guard⟩],some (9,false)⟩ ?_ ?_ ?_
          rotate_left
          · (intro w hSw; (try dsimp only at hSw); go_simp; try with_reducible rfl)
          simp only [Act.put,List.setIfInBounds_toArray,List.set_cons_zero,List.set_cons_succ]
          refine tkH 13 ⟨some 29,.fieldAddr 50 (.tmp 28) 1,0,_,#[⟨12,.data⟩,⟨9,.guard⟩],some (9,false)⟩ ?_ ?_ ?_
          rotate_left
          · (intro w hSw; (try dsimp only at hSw); go_simp; try with_reducible rfl)
          simp only [Act.put,List.setIfInBounds_toArray,List.set_cons_zero,List.set_cons_succ]
          refine tkH 14 ⟨some 30,.load 3 (.tmp 29),3,_,#[⟨13,.data⟩,⟨9,.guard⟩],some (9,false)⟩ ?_ ?_ ?_
          rotate_left
          · (intro w hSw; (try dsimp only at hSw); go_simp; try with_reducible rfl)
          simp only [Act.put,List.setIfInBounds_toArray,List.set_cons_zero,List.set_cons_succ]
          refine tkH 15 ⟨some 31,.fieldAddr 28 (.tmp 1) 3,0,_,#[⟨9,.guard⟩],some (9,false)⟩ ?_ ?_ ?_
          rotate_left
          · (intro w hSw; (try dsimp only at hSw); go_simp; try with_reducible rfl)
          simp only [Act.put,List.setIfInBounds_toArray,List.set_cons_zero,List.set_cons_succ]
          refine tkH 16 ⟨some 32,.load 3 (.tmp 31),3,_,#[⟨15,.data⟩,⟨9,.guard⟩],some (9,false)⟩ ?_ ?_ ?_
          rotate_left
          · (intro w hSw; (try dsimp only at hSw); go_simp; try with_reducible rfl)
          simp only [Act.put,List.setIfInBounds_toArray,List.set_cons_zero,List.set_cons_succ]
          refine tkH 17 ⟨some 33,.binOp BinOp.neq 3 (.tmp 30) (.tmp 32) 3,4,_,#[⟨14,.data⟩,⟨16,.data⟩,⟨9,.guard⟩],some (9,false)⟩ ?_ ?_ ?_
          rotate_left
          · (intro w hSw; (try dsimp only at hSw); go_simp; try with_reducible rfl)
          simp only [Act.put,List.setIfInBounds_toArray,List.set_cons_zero,List.set_cons_succ]
          refine tkH 18 ⟨some 34,.pick (.tmp 25) (.const (Value.bool true)) (.tmp 33),4,_,#[⟨9,.data⟩,⟨17,.data⟩],none⟩ ?_ ?_ ?_
          rotate_left
          · (intro w hSw; (try dsimp only at hSw); go_simp; try with_reducible rfl)
          simp only [Act.put,List.setIfInBounds_toArray,List.set_cons_zero,List.set_cons_succ]
          refine wpAnyH_done (by kernel_rfl) ?_ _
          go_wp2
          have HG:=hidW (HG.out.step (below_drew (Below.refl _ _)))
          have HC:=hidW (HC.out.below (below_drew (Below.refl _ _)))
          have K1:=HG.out.held HC.out
          refine wp_region_held_drew (S:=fun w'=>w'.rangeAt w.heap.size 0 (Value.int .i64 C:: .int .i64 OP:: .bool S:: .int .i64 FM::TL)∧w'.cell? ⟨g,k*3,none⟩=some (.slice (some ⟨b,0,none⟩) r.ops.length r.ops.length)∧w'.cell? ⟨g,k*3+1,none⟩=some (.int .i64 r.form)∧w'.cell? ⟨g,k*3+2,none⟩=some (.string s)∧w'.cell? ⟨w.heap.size,1,none⟩=some (.int .i64 OP)∧w'.cell? ⟨w.heap.size,3,none⟩=some (.int .i64 FM)) (by kernel_rfl) K1 (fun hHeld=> ?_)
          clear hHeld K2
          have K2:=hidW K1
          clear K1
          refine tkH 0 ⟨some 35,.move (.tmp 4),53,_,#[],none⟩ ?_ ?_ ?_
          rotate_left
          · (intro w hSw; (try dsimp only at hSw); go_simp; try with_reducible rfl)
          simp only [Act.put,List.setIfInBounds_toArray,List.set_cons_zero,List.set_cons_succ]
          refine tkH 1 ⟨some 36,.move (.tmp 5),3,_,#[],none⟩ ?_ ?_ ?_
          rotate_left
          · (intro w hSw; (try dsimp only at hSw); go_simp; try with_reducible rfl)
          simp only [Act.put,List.setIfInBounds_toArray,List.set_cons_zero,List.set_cons_succ]
          refine tkH 2 ⟨some 37,.indexAddr 53 (.tmp 35) (.tmp 36),0,_,#[⟨0,.data⟩,⟨1,.data⟩],none⟩ ?_ ?_ ?_
          rotate_left
          · (intro w hSw; (try dsimp only at hSw); go_simp; try with_reducible rfl)
          simp only [Act.put,List.setIfInBounds_toArray,List.set_cons_zero,List.set_cons_succ]
          refine tkH 3 ⟨some 38,.load 50 (.tmp 37),50,_,#[⟨2,.data⟩],none⟩ ?_ ?_ ?_
          rotate_left
          · (intro w hSw; (try dsimp only at hSw); go_simp; try with_reducible rfl)
          simp only [Act.put,List.setIfInBounds_toArray,List.set_cons_zero,List.set_cons_succ]
          refine wpAnyH_take (i:=4) (oi:=⟨some 39,.load 28 (.tmp 1),28,_,#[],none⟩) (v:=_) rfl (by kernel_rfl) (by kernel_rfl) (by kernel_rfl) (fun _ _ _ h=>h) (yieldsIf_load_mid (by rfl) _ _ rfl w.heap.size 0 rfl _ _ (fun _ h=>h.1) Tryd.underlying28 rfl HSI.out) (by assumption) ?_
          simp only [Act.put,List.setIfInBounds_toArray,List.set_cons_zero,List.set_cons_succ]
          refine wpAnyH_ready (rs:=[5]) (by kernel_rfl) (by simp) ?_
          refine AllReadyH.cons (o:=⟨some 40,.call ⟨.value (.func 37),#[.tmp 38,.tmp 39],#[50,28]⟩,22,_,#[⟨3,.data⟩,⟨4,.data⟩],none⟩) rfl (fun K hK=> ?_) AllReadyH.nil
          go_simp
          go_at_call 37; refine (HWD.out _).mono ?_; rintro e w6 ⟨rfl,hb⟩; have HG:=hidW (HG.out.step hb); have K2:=hidW (HG.out.held (HC.out.below hb)); clear hb
          refine hK.out _ _ ?_ (fun hHeld=> ?_)
          · with_reducible exact K2.out
          clear hK K
          try simp only [Act.put,List.setIfInBounds_toArray,List.set_cons_zero,List.set_cons_succ]
          refine tkH 6 ⟨some 6,.assign (.tmp 40),22,_,#[⟨5,.data⟩,⟨5,.chain⟩,⟨0,.phase⟩,⟨1,.phase⟩,⟨2,.phase⟩,⟨3,.phase⟩,⟨4,.phase⟩,⟨5,.phase⟩],none⟩ ?_ ?_ ?_
          rotate_left
          · (intro w hSw; (try dsimp only at hSw); go_simp; try with_reducible rfl)
          simp only [Act.put,List.setIfInBounds_toArray,List.set_cons_zero,List.set_cons_succ]
          refine wpAnyH_done (by kernel_rfl) ?_ _
          clear K2 HC
          clear HWD HIN
          cases OK
          · go_wp2_with (first|(go_at_call 15; refine (HDE.out _).mono ?_; rintro e w7 ⟨rfl,hb⟩; have HG:=hidW (HG.out.step hb); clear hb HDE)|(guard_target =~ wpList _ _ _ (Oper.mk none (Op.store 28 _ _) _ _ _ _::_) _ _; have HT2:=new_there w7 28 (insL insZ) DI.toArray.size (by rw [List.size_toArray,HLE.out]; rfl); refine wpList_store_mid rfl _ _ _ rfl w7.heap.size 0 DI.toArray rfl rfl HT2 HS2.out HOI.out ?_; clear HT2; generalize hW4:World.setCells _ _ _ _=w8; have HB8:Hid (Below w7.heap.size w7 w8):=hidW (show Below w7.heap.size w7 w8 from hW4▸fill_below w7 28 (insL insZ) DI); have HJB:Hid (Bl w8 w7.heap.size 28 DI):=hidW (show Bl w8 w7.heap.size 28 DI from hW4▸fill_box w7 28 (insL insZ) DI (by rw [HLE.out]; rfl)); have HG:=hidW (HG.out.step HB8.out); clear hW4 HB8)|(guard_target =~ wpList _ _ _ (Oper.mk (some 46) _ _ _ _ _::_) _ _; refine Hid.out ?_))
            refine hidW (hidW ?_)
            go_wp2
            refine ⟨⟨rfl,rfl,k+1,by omega,rfl,HG.out,HNext.out (by rw [HTR.out]; rfl)⟩,?_⟩
            simp only [intOf]; omega
          · have HQE:=HQ.out
            clear HQ
            cases SM
            · go_wp2_with (first|(go_at_call 15; refine (HDE.out _).mono ?_; rintro e w7 ⟨rfl,hb⟩; have HG:=hidW (HG.out.step hb); clear hb HDE)|(guard_target =~ wpList _ _ _ (Oper.mk none (Op.store 28 _ _) _ _ _ _::_) _ _; have HT2:=new_there w7 28 (insL insZ) DI.toArray.size (by rw [List.size_toArray,HLE.out]; rfl); refine wpList_store_mid rfl _ _ _ rfl w7.heap.size 0 DI.toArray rfl rfl HT2 HS2.out HOI.out ?_; clear HT2; generalize hW4:World.setCells _ _ _ _=w8; have HB8:Hid (Below w7.heap.size w7 w8):=hidW (show Below w7.heap.size w7 w8 from hW4▸fill_below w7 28 (insL insZ) DI); have HJB:Hid (Bl w8 w7.heap.size 28 DI):=hidW (show Bl w8 w7.heap.size 28 DI from hW4▸fill_box w7 28 (insL insZ) DI (by rw [HLE.out]; rfl)); have HG:=hidW (HG.out.step HB8.out); clear hW4 HB8)|(guard_target =~ wpList _ _ _ (Oper.mk (some 48) _ _ _ _ _::_) _ _; refine wpList_load_want (by rfl) _ _ rfl w7.heap.size 0 rfl _ _ HJB.out.range Tryd.underlying28 rfl HS1.out ?_)|(guard_target =~ wpList _ _ _ (Oper.mk (some 49) _ _ _ _ _::_) _ _; refine wpList_load_want (by rfl) _ _ rfl w.heap.size 0 rfl _ _ HG.out.ins.range Tryd.underlying28 rfl HSI.out ?_))
              refine ⟨⟨rfl,rfl,k+1,by omega,rfl,HG.out,HNext.out (by rw [HTR.out]; rfl)⟩,?_⟩
              simp only [intOf]; omega
            · go_wp2_with (first|(go_at_call 15; refine (HDE.out _).mono ?_; rintro e w7 ⟨rfl,hb⟩; have HG:=hidW (HG.out.step hb); clear hb HDE)|(guard_target =~ wpList _ _ _ (Oper.mk none (Op.store 28 _ _) _ _ _ _::_) _ _; have HT2:=new_there w7 28 (insL insZ) DI.toArray.size (by rw [List.size_toArray,HLE.out]; rfl); refine wpList_store_mid rfl _ _ _ rfl w7.heap.size 0 DI.toArray rfl rfl HT2 HS2.out HOI.out ?_; clear HT2; generalize hW4:World.setCells _ _ _ _=w8; have HB8:Hid (Below w7.heap.size w7 w8):=hidW (show Below w7.heap.size w7 w8 from hW4▸fill_below w7 28 (insL insZ) DI); have HJB:Hid (Bl w8 w7.heap.size 28 DI):=hidW (show Bl w8 w7.heap.size 28 DI from hW4▸fill_box w7 28 (insL insZ) DI (by rw [HLE.out]; rfl)); have HG:=hidW (HG.out.step HB8.out); clear hW4 HB8)|(guard_target =~ wpList _ _ _ (Oper.mk (some 48) _ _ _ _ _::_) _ _; refine wpList_load_want (by rfl) _ _ rfl w7.heap.size 0 rfl _ _ HJB.out.range Tryd.underlying28 rfl HS1.out ?_)|(guard_target =~ wpList _ _ _ (Oper.mk (some 49) _ _ _ _ _::_) _ _; refine wpList_load_want (by rfl) _ _ rfl w.heap.size 0 rfl _ _ HG.out.ins.range Tryd.underlying28 rfl HSI.out ?_))
              obtain ⟨rfl,rfl⟩:=HAns.out (by rw [HTR.out]; rfl)
              exact bodyPost_ret (v:= .tuple #[.int .u32 X,.int .i64 0]) (by simp [results,Tryd.results16,go_sem,Act.put]) rfl ⟨rfl,HG.out.bel⟩
        · have hfe:(r.form == FM)=false:=by simpa [bne] using hfm
          rw [hfe] at HTR
          refine tkH 0 ⟨some 16,.move (.tmp 4),53,_,#[],none⟩ ?_ ?_ ?_
          rotate_left
          · (intro w hSw; (try dsimp only at hSw); go_simp; try with_reducible rfl)
          simp only [Act.put,List.setIfInBounds_toArray,List.set_cons_zero,List.set_cons_succ]
          refine tkH 1 ⟨some 17,.move (.tmp 5),3,_,#[],none⟩ ?_ ?_ ?_
          rotate_left
          · (intro w hSw; (try dsimp only at hSw); go_simp; try with_reducible rfl)
          simp only [Act.put,List.setIfInBounds_toArray,List.set_cons_zero,List.set_cons_succ]
          refine tkH 2 ⟨some 18,.indexAddr 53 (.tmp 16) (.tmp 17),0,_,#[⟨0,.data⟩,⟨1,.data⟩],none⟩ ?_ ?_ ?_
          rotate_left
          · (intro w hSw; (try dsimp only at hSw); go_simp; try with_reducible rfl)
          simp only [Act.put,List.setIfInBounds_toArray,List.set_cons_zero,List.set_cons_succ]
          refine tkH 3 ⟨some 19,.fieldAddr 50 (.tmp 18) 0,0,_,#[⟨2,.data⟩],none⟩ ?_ ?_ ?_
          rotate_left
          · (intro w hSw; (try dsimp only at hSw); go_simp; try with_reducible rfl)
          simp only [Act.put,List.setIfInBounds_toArray,List.set_cons_zero,List.set_cons_succ]
          refine tkH 4 ⟨some 20,.load 48 (.tmp 19),48,_,#[⟨3,.data⟩],none⟩ ?_ ?_ ?_
          rotate_left
          · (intro w hSw; (try dsimp only at hSw); go_simp; try with_reducible rfl)
          simp only [Act.put,List.setIfInBounds_toArray,List.set_cons_zero,List.set_cons_succ]
          refine tkH 5 ⟨some 21,.fieldAddr 28 (.tmp 1) 1,0,_,#[],none⟩ ?_ ?_ ?_
          rotate_left
          · (intro w hSw; (try dsimp only at hSw); go_simp; try with_reducible rfl)
          simp only [Act.put,List.setIfInBounds_toArray,List.set_cons_zero,List.set_cons_succ]
          refine tkH 6 ⟨some 22,.load 3 (.tmp 21),3,_,#[⟨5,.data⟩],none⟩ ?_ ?_ ?_
          rotate_left
          · (intro w hSw; (try dsimp only at hSw); go_simp; try with_reducible rfl)
          simp only [Act.put,List.setIfInBounds_toArray,List.set_cons_zero,List.set_cons_succ]
          refine wpAnyH_ready (rs:=[7]) (by kernel_rfl) (by simp) ?_
          refine AllReadyH.cons (o:=⟨some 23,.call ⟨.value (.func 36),#[.tmp 20,.tmp 22],#[48,3]⟩,4,_,#[⟨4,.data⟩,⟨6,.data⟩],none⟩) rfl (fun K hK=> ?_) AllReadyH.nil
          go_simp
          go_at_call 36; refine (HIN.out _ HC.out.sl).mono ?_; rintro e w5 ⟨rfl,rfl⟩
          refine hK.out _ _ ?_ (fun hHeld=> ?_)
          · with_reducible exact K2.out
          clear hK K
          try simp only [Act.put,List.setIfInBounds_toArray,List.set_cons_zero,List.set_cons_succ]
          refine tkH 8 ⟨some 24,.unOp UnOp.not 4 (.tmp 23),4,_,#[⟨7,.data⟩],none⟩ ?_ ?_ ?_
          rotate_left
          · (intro w hSw; (try dsimp only at hSw); go_simp; try with_reducible rfl)
          simp only [Act.put,List.setIfInBounds_toArray,List.set_cons_zero,List.set_cons_succ]
          refine tkH 9 ⟨some 25,.move (.tmp 24),4,_,#[⟨8,.data⟩,⟨7,.chain⟩],none⟩ ?_ ?_ ?_
          rotate_left
          · (intro w hSw; (try dsimp only at hSw); go_simp; try with_reducible rfl)
          simp only [Act.put,List.setIfInBounds_toArray,List.set_cons_zero,List.set_cons_succ]
          refine tkH 10 ⟨some 26,.move (.tmp 4),53,_,#[⟨9,.guard⟩],some (9,false)⟩ ?_ ?_ ?_
          rotate_left
          · (intro w hSw; (try dsimp only at hSw); go_simp; try with_reducible rfl)
          simp only [Act.put,List.setIfInBounds_toArray,List.set_cons_zero,List.set_cons_succ]
          refine tkH 11 ⟨some 27,.move (.tmp 5),3,_,#[⟨9,.guard⟩],some (9,false)⟩ ?_ ?_ ?_
          rotate_left
          · (intro w hSw; (try dsimp only at hSw); go_simp; try with_reducible rfl)
          simp only [Act.put,List.setIfInBounds_toArray,List.set_cons_zero,List.set_cons_succ]
          refine tkH 12 ⟨some 28,.indexAddr 53 (.tmp 26) (.tmp 27),0,_,#[⟨10,.data⟩,⟨11,.data⟩,⟨9,.guard⟩],some (9,false)⟩ ?_ ?_ ?_
          rotate_left
          · (intro w hSw; (try dsimp only at hSw); go_simp; try with_reducible rfl)
          simp only [Act.put,List.setIfInBounds_toArray,List.set_cons_zero,List.set_cons_succ]
          refine tkH 13 ⟨some 29,.fieldAddr 50 (.tmp 28) 1,0,_,#[⟨12,.data⟩,⟨9,.guard⟩],some (9,false)⟩ ?_ ?_ ?_
          rotate_left
          · (intro w hSw; (try dsimp only at hSw); go_simp; try with_reducible rfl)
          simp only [Act.put,List.setIfInBounds_toArray,List.set_cons_zero,List.set_cons_succ]
          refine tkH 14 ⟨some 30,.load 3 (.tmp 29),3,_,#[⟨13,.data⟩,⟨9,.guard⟩],some (9,false)⟩ ?_ ?_ ?_
          rotate_left
          · (intro w hSw; (try dsimp only at hSw); go_simp; try with_reducible rfl)
          simp only [Act.put,List.setIfInBounds_toArray,List.set_cons_zero,List.set_cons_succ]
          refine tkH 15 ⟨some 31,.fieldAddr 28 (.tmp 1) 3,0,_,#[⟨9,.guard⟩],some (9,false)⟩ ?_ ?_ ?_
          rotate_left
          · (intro w hSw; (try dsimp only at hSw); go_simp; try with_reducible rfl)
          simp only [Act.put,List.setIfInBounds_toArray,List.set_cons_zero,List.set_cons_succ]
          refine tkH 16 ⟨some 32,.load 3 (.tmp 31),3,_,#[⟨15,.data⟩,⟨9,.guard⟩],some (9,false)⟩ ?_ ?_ ?_
          rotate_left
          · (intro w hSw; (try dsimp only at hSw); go_simp; try with_reducible rfl)
          simp only [Act.put,List.setIfInBounds_toArray,List.set_cons_zero,List.set_cons_succ]
          refine tkH 17 ⟨some 33,.binOp BinOp.neq 3 (.tmp 30) (.tmp 32) 3,4,_,#[⟨14,.data⟩,⟨16,.data⟩,⟨9,.guard⟩],some (9,false)⟩ ?_ ?_ ?_
          rotate_left
          · (intro w hSw; (try dsimp only at hSw); go_simp; try with_reducible rfl)
          simp only [Act.put,List.setIfInBounds_toArray,List.set_cons_zero,List.set_cons_succ]
          refine tkH 18 ⟨some 34,.pick (.tmp 25) (.const (Value.bool true)) (.tmp 33),4,_,#[⟨9,.data⟩,⟨17,.data⟩],none⟩ ?_ ?_ ?_
          rotate_left
          · (intro w hSw; (try dsimp only at hSw); go_simp; try with_reducible rfl)
          simp only [Act.put,List.setIfInBounds_toArray,List.set_cons_zero,List.set_cons_succ]
          refine wpAnyH_done (by kernel_rfl) ?_ _
          go_wp2
          refine ⟨⟨rfl,rfl,k+1,by omega,rfl,HG.out,HNext.out (by rw [HTR.out]; rfl)⟩,?_⟩
          simp only [intOf]; omega
    · have z1:decide ((k:Int)<54)=false:=decide_eq_false (by omega)
      obtain rfl:k=54:=by omega
      have hn:encJ i=none:=by rw [HFD.out,←hv.out]; rfl
      obtain ⟨rfl,rfl⟩:=HNO.out hn
      clear h hv hn
      go_wp2
      exact bodyPost_ret (v:= .tuple #[.int .u32 0,.int .i64 190]) (by simp [results,Tryd.results16,go_sem]) rfl ⟨rfl,HG.out.bel⟩
theorem encE_some (o:Option Nat):(encE o == 0)=o.isSome:=by cases o <;>rfl
set_option maxRecDepth 100000 in
set_option maxHeartbeats 400000 in
theorem jright_any (i:Ins) (w:World) (hi:IOk i):Calls Tryd.prog 17 #[.agg (insA i)] w fun e w'=>e= .returned (.bool (encJ i).isSome)∧Below w.heap.size w w':=by
  show Calls Tryd.prog 17 #[.agg (insL i).toArray] w fun e w'=>e= .returned (.bool (encJ i).isSome)∧Below w.heap.size w w'
  have HE:Hid (∀w',Calls Tryd.prog 16 #[.agg (insL i).toArray] w' fun e w''=>e= .returned (.tuple #[.int .u32 (encW (encJ i)),.int .i64 (encE (encJ i))])∧Below w'.heap.size w' w''):=fun w'=>jenc_any i w' hi
  have HB:=hidW (AX.first w (insL i))
  have HS1:Hid ((Tryd.prog.info? 28).map (·.size)=some (insL i).length):=ins_size
  rw [←encE_some]
  clear hi
  generalize encE (encJ i)=E at *
  generalize encW (encJ i)=X at *
  generalize insL i=II at *
  go_enter Tryd.func17,Tryd.ntmps17
  go_wp2_with (first|(guard_target =~ wpList _ _ _ (Oper.mk (some 6) _ _ _ _ _::_) _ _; refine wpList_load_mid rfl _ _ rfl w.heap.size 0 rfl _ _ HB.out.res.range Tryd.underlying28 rfl HS1.out ?_)|(go_at_call 16; refine (HE.out _).mono ?_; rintro e w1 ⟨rfl,hb⟩; have HB:=hidW (HB.out.step hb); clear hb HE))
  exact bodyPost_ret (v:= .bool (E == 0)) (by simp [results,Tryd.results17,go_sem]) rfl ⟨rfl,HB.out.bel⟩
end Go.Proofs.YtkmgmmmpiallhaaDoor
