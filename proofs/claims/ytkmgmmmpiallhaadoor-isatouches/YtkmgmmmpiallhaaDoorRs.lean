import Derived.Test.YtkmgmmmpiallhaaDoorRq
namespace Go.Proofs.YtkmgmmmpiallhaaDoor
open Go.RowKit
set_option linter.unusedVariables false
set_option linter.unusedSimpArgs false
theorem RV.turn {c:Nat} {w w':World} (hT:TA c w w') {T:TypeId} {L:List Value} (hc:Bl w c T L) (hn:T≠3):∀ {vs:List Value} {rs:List RowJ},RV w vs rs→RV w' vs rs
  | [],[],_=>trivial
  | _::_,_::_,⟨⟨b,s,h1,h2,h3⟩,h⟩=>⟨⟨b,s,h1,h2.turn hT (fun e=>by
      subst e
      have h4:w.heap[b]? =_:=hc
      have h5:w.heap[b]? =_:=h2.bl
      rw [h4] at h5
      simp only [Option.some.injEq,Obj.cells.injEq] at h5
      exact hn h5.2.1),h3⟩,RV.turn hT hc hn h⟩
  | [],_::_,h=>h.elim
  | _::_,[],h=>h.elim
theorem AllAt.below {w w':World} {g:Nat} (h:AllAt w g) (hb:Below w.heap.size w w'):AllAt w' g:=by
  obtain ⟨vs,h1,h2⟩:=h.is
  exact ⟨vs,fun j u hj=>cell_keep (h1 j u hj) hb,h2.below hb⟩
theorem rows_len:rowsJ.length=54:=rfl
structure RowC3 (w:World) (g k:Nat) (r:RowJ) (b:Nat) (s:ByteArray):Prop where
  c0:w.cell? ⟨g,k*3,none⟩=some (.slice (some ⟨b,0,none⟩) r.ops.length r.ops.length)
  c1:w.cell? ⟨g,k*3+1,none⟩=some (.int .i64 r.form)
  c2:w.cell? ⟨g,k*3+2,none⟩=some (.string s)
  sl:Sl w b r.ops
  pat:Pat s r.pat
theorem AllAt.row {w:World} {g k:Nat} (h:AllAt w g) (hk:k<rowsJ.length):∃b s,RowC3 w g k rowsJ[k] b s:=by
  obtain ⟨vs,h1,h2⟩:=h.is
  obtain ⟨b,s,h3,h4,h5⟩:=h2.get hk
  have hf:∀j,j<3→(vs.flatMap fun v=>v.cells.toList)[k*3+j]? =(#[.slice (some ⟨b,0,none⟩) rowsJ[k].ops.length rowsJ[k].ops.length,.int .i64 rowsJ[k].form,.string s]:Array Value)[j]? :=fun j hj=>by
    rw [Great.flat_get (by decide) vs (RV.size h2),show (k*3+j) / 3=k by omega,show (k*3+j)%3=j by omega,h3]
    rfl
  exact ⟨b,s,h1 _ _ (hf 0 (by decide)),h1 _ _ (hf 1 (by decide)),h1 _ _ (hf 2 (by decide)),h4,h5⟩
theorem RowC3.below {w w':World} {g k b:Nat} {r:RowJ} {s:ByteArray} (h:RowC3 w g k r b s) (hb:Below w.heap.size w w'):RowC3 w' g k r b s:=⟨cell_keep h.c0 hb,cell_keep h.c1 hb,cell_keep h.c2 hb,h.sl.below hb,h.pat⟩
theorem RowC3.range {w:World} {g k b:Nat} {r:RowJ} {s:ByteArray} (h:RowC3 w g k r b s):w.rangeAt g (k*3) [.slice (some ⟨b,0,none⟩) r.ops.length r.ops.length,.int .i64 r.form,.string s]:=fun j v hv=>by
  match j with
  | 0=>rw [Nat.add_zero,h.c0]; exact hv
  | 1=>rw [h.c1]; exact hv
  | 2=>rw [h.c2]; exact hv
  | j+3=>simp at hv
structure GX (W:World) (R Z:List Value) (g:Nat) (w:World):Prop where
  bel:Below W.heap.size W w
  row:Bl w W.heap.size 50 R
  res:Bl w (W.heap.size+1) 28 Z
  all:AllAt w g
  lo:W.heap.size+2≤g
theorem GX.step {W w w':World} {R Z:List Value} {g:Nat} (h:GX W R Z g w) (hb:Below w.heap.size w w'):GX W R Z g w':=⟨Below.step h.bel hb,h.row.below hb,h.res.below hb,h.all.below hb,h.lo⟩
structure GX0 (W:World) (R Z:List Value) (w:World):Prop where
  bel:Below W.heap.size W w
  row:Bl w W.heap.size 50 R
  res:Bl w (W.heap.size+1) 28 Z
  size:W.heap.size+2≤w.heap.size
theorem GX0.first (W:World) (R Z:List Value):GX0 W R Z ((W.alloc (.cells R.toArray 50)).alloc (.cells Z.toArray 28)):=by
  have h2:=below_new (W.alloc (.cells R.toArray 50)) (.cells Z.toArray 28)
  have h3:=Bl.new (W.alloc (.cells R.toArray 50)) 28 Z
  rw [show (W.alloc (.cells R.toArray 50)).heap.size=W.heap.size+1 by simp] at h3
  exact ⟨Below.step (below_new _ _) h2,(Bl.new W 50 R).below h2,h3,by simp⟩
theorem GX0.step {W w w':World} {R Z:List Value} {g:Nat} (h:GX0 W R Z w) (hb:Below w.heap.size w w') (ha:AllAt w' g) (hg:w.heap.size≤g):GX W R Z g w':=⟨Below.step h.bel hb,h.row.below hb,h.res.below hb,ha,Nat.le_trans h.size hg⟩
structure FQ (W:World) (R Z I:List Value) (g q k b:Nat) (r:RowJ) (s:ByteArray) (w:World):Prop where
  gx:GX W R Z g w
  rc:RowC3 w g k r b s
  ins:Bl w q 28 I
  ql:W.heap.size+2≤q
theorem FQ.drew {W w:World} {R Z I:List Value} {g q k b:Nat} {r:RowJ} {s:ByteArray} (h:FQ W R Z I g q k b r s w):FQ W R Z I g q k b r s w.drew:=by
  obtain ⟨vs,h1,h2⟩:=h.gx.all.is
  have hb:Below w.heap.size w w.drew:=below_drew (Below.refl _ _)
  exact ⟨h.gx.step hb,h.rc.below hb,h.ins.drew,h.ql⟩
theorem FQ.step {W w w':World} {R Z I:List Value} {g q k b:Nat} {r:RowJ} {s:ByteArray} (h:FQ W R Z I g q k b r s w) (hb:Below w.heap.size w w'):FQ W R Z I g q k b r s w':=⟨h.gx.step hb,h.rc.below hb,h.ins.below hb,h.ql⟩
theorem FQ.held {W w:World} {R Z L:List Value} {x0 x1:Value} {g q k b:Nat} {r:RowJ} {s:ByteArray} (h:FQ W R Z (x0::x1::L) g q k b r s w) :
    w.rangeAt q 0 (x0::x1::L)∧w.cell? ⟨g,k*3,none⟩=some (.slice (some ⟨b,0,none⟩) r.ops.length r.ops.length)∧w.cell? ⟨g,k*3+1,none⟩=some (.int .i64 r.form)∧w.cell? ⟨g,k*3+2,none⟩=some (.string s)∧w.cell? ⟨q,1,none⟩=some x1:=⟨h.ins.range,h.rc.c0,h.rc.c1,h.rc.c2,h.ins.cell 1⟩
theorem GX.fill {W w:World} {R Z:List Value} {g k b:Nat} {r:RowJ} {s:ByteArray} (h:GX W R Z g w) (hr:RowC3 w g k r b s) (Y I:List Value) (hl:I.length=Y.length):FQ W R Z I g w.heap.size k b r s ((w.alloc (.cells Y.toArray 28)).setCells w.heap.size 0 I):=by
  have hb:Below w.heap.size w ((w.alloc (.cells Y.toArray 28)).setCells w.heap.size 0 I):=fill_below w 28 Y I
  exact ⟨h.step hb,hr.below hb,fill_box w 28 Y I hl,by
    have h1:=h.bel.size
    have h2:=h.res.lt
    omega⟩
structure ZX (W:World) (R Z:List Value) (w:World):Prop where
  bel:Below W.heap.size W w
  row:Bl w W.heap.size 50 R
  res:Bl w (W.heap.size+1) 28 Z
theorem ZX.setRow {W w:World} {R Z:List Value} (h:ZX W R Z w) (R':List Value) (hl:R'.length=R.length):ZX W R' Z (w.setCells W.heap.size 0 R'):=by
  have hT:=set_turn (b:=W.heap.size) R' 0 w w (Turn.refl _ w)
  exact ⟨(Turn.below (S:=fun _=>False) h.bel).trans hT (fun x hx=> .inr (by omega)) |>.to (fun _ hx=>hx.elim) (Nat.le_refl _),set_all h.row hl,h.res.turn hT (by omega)⟩
theorem ZX.setIns {W w:World} {R Z:List Value} (h:ZX W R Z w) (Z':List Value) (hl:Z'.length=Z.length):ZX W R Z' (w.setCells (W.heap.size+1) 0 Z'):=by
  have hT:=set_turn (b:=W.heap.size+1) Z' 0 w w (Turn.refl _ w)
  exact ⟨(Turn.below (S:=fun _=>False) h.bel).trans hT (fun x hx=> .inr (by omega)) |>.to (fun _ hx=>hx.elim) (Nat.le_refl _),h.row.turn hT (by omega),set_all h.res hl⟩
theorem rowJ_load {w:World} {b:Nat} {l:List Value} (h:Bl w b 50 l) (hl:l.length=3):(loadVar 50 ⟨b,0,none⟩).run Tryd.prog w= .ok (.agg l.toArray) w :=
  run_loadVar_mid w b 0 50 l _ h.range Tryd.underlying50 rfl (by rw [hl]; exact rowI)
theorem ZX.loads {W w:World} {R Z:List Value} (h:ZX W R Z w) (h1:R.length=3) (h2:Z.length=20):(loadVar 50 ⟨W.heap.size,0,none⟩).run Tryd.prog w= .ok (.agg R.toArray) w∧(loadVar 28 ⟨W.heap.size+1,0,none⟩).run Tryd.prog w= .ok (.agg Z.toArray) w:=⟨rowJ_load h.row h1,ins_load h.res h2⟩
def rowVal (b:Nat) (r:RowJ) (s:ByteArray):Value:= .agg #[.slice (some ⟨b,0,none⟩) r.ops.length r.ops.length,.int .i64 r.form,.string s]
theorem AllAt.turn {c:Nat} {w w':World} {g:Nat} (h:AllAt w g) (hT:TA c w w') (hn:g≠c) {T:TypeId} {L:List Value} (hc:Bl w c T L) (ht:T≠3):AllAt w' g:=by
  obtain ⟨vs,h1,h2⟩:=h.is
  exact ⟨vs,fun j u hj=>cell_turn (h1 j u hj) hT hn,h2.turn hT hc ht⟩
theorem RowC3.turn {c:Nat} {w w':World} {g k b:Nat} {r:RowJ} {s:ByteArray} (h:RowC3 w g k r b s) (hT:TA c w w') (hn:g≠c) {T:TypeId} {L:List Value} (hc:Bl w c T L) (ht:T≠3):RowC3 w' g k r b s :=
  ⟨cell_turn h.c0 hT hn,cell_turn h.c1 hT hn,cell_turn h.c2 hT hn,h.sl.turn hT (fun e=>by
      subst e
      have h4:w.heap[b]? =_:=hc
      have h5:w.heap[b]? =_:=h.sl.bl
      rw [h4] at h5
      simp only [Option.some.injEq,Obj.cells.injEq] at h5
      exact ht h5.2.1),h.pat⟩
theorem FQ.setRow {W w:World} {R Z I:List Value} {g q k b:Nat} {r:RowJ} {s:ByteArray} (h:FQ W R Z I g q k b r s w) (R':List Value) (hl:R'.length=R.length):FQ W R' Z I g q k b r s (w.setCells W.heap.size 0 R'):=by
  have hT:=set_turn (b:=W.heap.size) R' 0 w w (Turn.refl _ w)
  have hz:=ZX.setRow ⟨h.gx.bel,h.gx.row,h.gx.res⟩ R' hl
  have h1:=h.gx.lo
  have h2:=h.ql
  exact ⟨⟨hz.bel,hz.row,hz.res,h.gx.all.turn hT (by omega) h.gx.row (by decide),h.gx.lo⟩,h.rc.turn hT (by omega) h.gx.row (by decide),h.ins.turn hT (by omega),h.ql⟩
theorem FQ.setIns {W w:World} {R Z I:List Value} {g q k b:Nat} {r:RowJ} {s:ByteArray} (h:FQ W R Z I g q k b r s w) (Z':List Value) (hl:Z'.length=Z.length):FQ W R Z' I g q k b r s (w.setCells (W.heap.size+1) 0 Z'):=by
  have hT:=set_turn (b:=W.heap.size+1) Z' 0 w w (Turn.refl _ w)
  have hz:=ZX.setIns ⟨h.gx.bel,h.gx.row,h.gx.res⟩ Z' hl
  have h1:=h.gx.lo
  have h2:=h.ql
  exact ⟨⟨hz.bel,hz.row,hz.res,h.gx.all.turn hT (by omega) h.gx.res (by decide),h.gx.lo⟩,h.rc.turn hT (by omega) h.gx.res (by decide),h.ins.turn hT (by omega),h.ql⟩
theorem find_drop {p:RowJ→Bool} {l:List RowJ} {k:Nat} (hk:k<l.length):(l.drop k).find? p=if p l[k] then some l[k] else (l.drop (k+1)).find? p:=by
  rw [List.drop_eq_getElem_cons hk,List.find?_cons]
  cases p l[k] <;>rfl
def ZR3:List Value:=[.slice none 0 0,.int .i64 0,.string ⟨#[]⟩]
def FindPost (x:Nat) (e:Ending):Prop :=
  match findJ x with
  | none=>e= .returned (.tuple #[.agg ZR3.toArray,.agg (insA insZ),.bool false])
  | some r=>∃b s,e= .returned (.tuple #[rowVal b r s,.agg (insA (sayJ r x)),.bool true])∧Pat s r.pat
theorem find_some {x:Nat} {r:RowJ} {b:Nat} {s:ByteArray} (h:findJ x=some r) (hp:Pat s r.pat):FindPost x (.returned (.tuple #[rowVal b r s,.agg (insA (sayJ r x)),.bool true])):=by
  unfold FindPost; rw [h]; exact ⟨b,s,rfl,hp⟩
theorem find_none {x:Nat} (h:findJ x=none):FindPost x (.returned (.tuple #[.agg ZR3.toArray,.agg (insA insZ),.bool false])):=by
  unfold FindPost; rw [h]
set_option maxRecDepth 100000 in
set_option maxHeartbeats 2000000 in
theorem jfind_any (x:Nat) (w:World) (hx:x<4294967296):Calls Tryd.prog 34 #[.int .u32 (x:Int)] w fun e w'=>FindPost x e∧Below w.heap.size w w':=by
  have HX0:=hidW (GX0.first w [.slice none 0 0,.int .i64 0,.string ⟨#[]⟩] (insL insZ))
  have HR:Hid (∀w',Calls Tryd.prog 35 #[] w' fun e w''=>∃g cap,e= .returned (.slice (some ⟨g,0,none⟩) 54 cap)∧AllAt w'' g∧w'.heap.size≤g∧Below w'.heap.size w' w''):=jrows_any
  have hx:=hidW hx
  go_enter Tryd.func34,Tryd.ntmps34
  go_wp2_with (go_at_call 35; refine (HR.out _).mono ?_; rintro e w1 ⟨g,cap,rfl,ha,hg,hb⟩; have HG:=hidW (HX0.out.step hb ha hg); clear ha hg hb HX0 HR)
  go_loopw [4,6] (fun r4 r6 wr=>r4= .bool false∧∃k:Nat,k≤54∧r6= .int .i64 (k:Int)∧GX w [.slice none 0 0,.int .i64 0,.string ⟨#[]⟩] (insL insZ) g wr∧(rowsJ.drop k).find? (hitJ x)=findJ x) (fun _ r6 _=>(54-intOf r6).toNat)
  case atStart=>exact ⟨rfl,0,by omega,rfl,HG.out,rfl⟩
  case round =>
    clear HG
    obtain ⟨rfl,k,h1,rfl,HG,hv⟩:=hrel
    have HG:=hidW HG
    have hv:=hidW hv
    by_cases h:k<54
    · obtain ⟨b,s,hrc⟩:=HG.out.all.row (k:=k) h
      have hrm:=List.getElem_mem (l:=rowsJ) (n:=k) h
      have hst:=hidW (find_drop (p:=hitJ x) (l:=rowsJ) (k:=k) h)
      generalize rowsJ[k]=r at hrc hrm hst
      have HFi:Hid (∀w',Calls Tryd.prog 50 #[.string s,.int .u32 (x:Int)] w' fun e w''=>e= .returned (.bool (fiP x r.pat))∧w''=w'):=fun w'=>jfits_any s r.pat x w' hrc.pat hx.out
      have HSay:Hid (∀w',Sl w' b r.ops→Calls Tryd.prog 51 #[.agg #[.slice (some ⟨b,0,none⟩) r.ops.length r.ops.length,.int .i64 r.form,.string s],.int .u32 (x:Int)] w' fun e w''=>e= .returned (.agg (insL (sayJ r x)).toArray)∧Below w'.heap.size w' w''):=fun w' hs=>jsay_any r hrm b s x w' hs hrc.pat hx.out
      have HIn:Hid (∀w',Sl w' b r.ops→Calls Tryd.prog 36 #[.slice (some ⟨b,0,none⟩) r.ops.length r.ops.length,.int .i64 (opJ r x)] w' fun e w''=>e= .returned (.bool (r.ops.contains (opJ r x)))∧w''=w'):=fun w' hs=>jin_any b r.ops _ w' hs
      have HMay:Hid (r.ops.contains (opJ r x)=true→∀w',Calls Tryd.prog 52 #[.agg #[.slice (some ⟨b,0,none⟩) r.ops.length r.ops.length,.int .i64 r.form,.string s],.agg (insL (sayJ r x)).toArray] w' fun e w''=>e= .returned (.bool (mayJ r (sayJ r x)))∧Below w'.heap.size w' w''):=fun ho w'=>jmay_any r hrm _ s (sayJ r x) w' hrc.pat ho (say_regs hrm x).rn (say_regs hrm x).list
      have HAns:Hid (hitJ x r=true→FindPost x (.returned (.tuple #[.agg #[.slice (some ⟨b,0,none⟩) r.ops.length r.ops.length,.int .i64 r.form,.string s],.agg (insL (sayJ r x)).toArray,.bool true]))):=fun hh=>find_some (by rw [←hv.out,hst.out,if_pos hh]) hrc.pat
      have HNext:Hid (hitJ x r=false→(rowsJ.drop (k+1)).find? (hitJ x)=findJ x):=fun hh=>by rw [←hv.out,hst.out,hh]; rfl
      have HHit:Hid (hitJ x r=(fiP x r.pat && (r.ops.contains (opJ r x) && mayJ r (sayJ r x)))):=rfl
      have HC:=hidW hrc
      obtain ⟨TL,hTL⟩:∃TL,insL (sayJ r x)= .int .i64 (sayJ r x).cond:: .int .i64 (opJ r x)::TL:=⟨_,rfl⟩
      have HLE:Hid ((insL (sayJ r x)).length=20):=rfl
      have HOI:Hid ((insL (sayJ r x)).toArray.all (·.oneCell')=true):=ins_all _
      have HS2:Hid ((Tryd.prog.info? 28).map (·.size)=some (insL (sayJ r x)).toArray.size):=ins_size
      have HS1:Hid ((Tryd.prog.info? 28).map (·.size)=some (insL (sayJ r x)).length):=ins_size
      rw [hTL] at HSay HMay HAns HLE HOI HS2 HS1
      clear hTL hrc hrm hst hv
      generalize (sayJ r x).cond=CC at *
      generalize mayJ r (sayJ r x)=MJ at *
      generalize hitJ x r=HJ at *
      generalize opJ r x=OP at *
      generalize fiP x r.pat=FI at *
      have hk1:IntKind.i64.wrap ((k:Int)+1)=((k+1:Nat):Int):=by rw [IntKind.wrap_i64]; omega
      have z1:decide ((k:Int)<54)=true:=decide_eq_true (by omega)
      have hj:(k:Int)<54:=by omega
      have c0:=HC.out.c0
      have c1:=HC.out.c1
      have c2:=HC.out.c2
      cases FI
      · go_wp2_with (go_at_call 50; refine (HFi.out _).mono ?_; rintro e w2 ⟨rfl,rfl⟩)
        refine ⟨⟨rfl,k+1,by omega,rfl,HG.out,HNext.out (by rw [HHit.out]; rfl)⟩,?_⟩
        simp only [intOf]; omega
      · go_wp2_with (first|(go_at_call 50; refine (HFi.out _).mono ?_; rintro e w2 ⟨rfl,rfl⟩; clear HFi)|(go_at_call 51; refine (HSay.out _ HC.out.sl).mono ?_; rintro e w3 ⟨rfl,hb⟩; have HG:=hidW (HG.out.step hb); have HC:=hidW (HC.out.below hb); clear hb c0 c1 c2 HSay)|(guard_target =~ wpList _ _ _ (Oper.mk none (Op.store 28 _ _) _ _ _ _::_) _ _; have HT2:=new_there w3 28 (insL insZ) (Value.int .i64 CC::Value.int .i64 OP::TL).toArray.size (by rw [List.size_toArray,HLE.out]; rfl); refine wpList_store_mid rfl _ _ _ rfl w3.heap.size 0 (Value.int .i64 CC::Value.int .i64 OP::TL).toArray rfl rfl HT2 HS2.out HOI.out ?_; clear HT2; generalize hW4:World.setCells _ _ _ _=w4; have HQ:=hidW (show FQ w _ _ (Value.int .i64 CC::Value.int .i64 OP::TL) g w3.heap.size k b r s w4 from hW4▸HG.out.fill HC.out (insL insZ) _ (by rw [HLE.out]; rfl)); clear hW4 HG HC))
        generalize w3.heap.size=q at HQ ⊢
        have HQ:=hidW HQ.out.drew
        have K1:=HQ.out.held
        refine wp_region_held_drew (S:=fun w'=>w'.rangeAt q 0 (Value.int .i64 CC::Value.int .i64 OP::TL)∧w'.cell? ⟨g,k*3,none⟩=some (.slice (some ⟨b,0,none⟩) r.ops.length r.ops.length)∧w'.cell? ⟨g,k*3+1,none⟩=some (.int .i64 r.form)∧w'.cell? ⟨g,k*3+2,none⟩=some (.string s)∧w'.cell? ⟨q,1,none⟩=some (.int .i64 OP)) (by kernel_rfl) K1 (fun hHeld=> ?_)
        clear hHeld
        have K2:=hidW K1
        clear K1
        cases hcon:r.ops.contains OP
        · rw [hcon] at HIn HHit
          refine tkH 0 ⟨some 29,.move (.tmp 5),53,_,#[],none⟩ ?_ ?_ ?_
          rotate_left
          · (intro w hSw; (try dsimp only at hSw); go_simp; try with_reducible rfl)
          simp only [Act.put,List.setIfInBounds_toArray,List.set_cons_zero,List.set_cons_succ]
          refine tkH 1 ⟨some 30,.move (.tmp 6),3,_,#[],none⟩ ?_ ?_ ?_
          rotate_left
          · (intro w hSw; (try dsimp only at hSw); go_simp; try with_reducible rfl)
          simp only [Act.put,List.setIfInBounds_toArray,List.set_cons_zero,List.set_cons_succ]
          refine tkH 2 ⟨some 31,.indexAddr 53 (.tmp 29) (.tmp 30),0,_,#[⟨0,.data⟩,⟨1,.data⟩],none⟩ ?_ ?_ ?_
          rotate_left
          · (intro w hSw; (try dsimp only at hSw); go_simp; try with_reducible rfl)
          simp only [Act.put,List.setIfInBounds_toArray,List.set_cons_zero,List.set_cons_succ]
          refine tkH 3 ⟨some 32,.fieldAddr 50 (.tmp 31) 0,0,_,#[⟨2,.data⟩],none⟩ ?_ ?_ ?_
          rotate_left
          · (intro w hSw; (try dsimp only at hSw); go_simp; try with_reducible rfl)
          simp only [Act.put,List.setIfInBounds_toArray,List.set_cons_zero,List.set_cons_succ]
          refine tkH 4 ⟨some 33,.load 48 (.tmp 32),48,_,#[⟨3,.data⟩],none⟩ ?_ ?_ ?_
          rotate_left
          · (intro w hSw; (try dsimp only at hSw); go_simp; try with_reducible rfl)
          simp only [Act.put,List.setIfInBounds_toArray,List.set_cons_zero,List.set_cons_succ]
          refine tkH 5 ⟨some 34,.fieldAddr 28 (.tmp 7) 1,0,_,#[],none⟩ ?_ ?_ ?_
          rotate_left
          · (intro w hSw; (try dsimp only at hSw); go_simp; try with_reducible rfl)
          simp only [Act.put,List.setIfInBounds_toArray,List.set_cons_zero,List.set_cons_succ]
          refine tkH 6 ⟨some 35,.load 3 (.tmp 34),3,_,#[⟨5,.data⟩],none⟩ ?_ ?_ ?_
          rotate_left
          · (intro w hSw; (try dsimp only at hSw); go_simp; try with_reducible rfl)
          simp only [Act.put,List.setIfInBounds_toArray,List.set_cons_zero,List.set_cons_succ]
          refine wpAnyH_ready (rs:=[7]) (by kernel_rfl) (by simp) ?_
          refine AllReadyH.cons (o:=⟨some 36,.call ⟨.value (.func 36),#[.tmp 33,.tmp 35],#[48,3]⟩,4,_,#[⟨4,.data⟩,⟨6,.data⟩],none⟩) rfl (fun K hK=> ?_) AllReadyH.nil
          go_simp
          go_at_call 36; refine (HIn.out _ HQ.out.rc.sl).mono ?_; rintro e w5 ⟨rfl,rfl⟩
          refine hK.out _ _ ?_ (fun hHeld=> ?_)
          · with_reducible exact K2.out
          clear hK K
          try simp only [Act.put,List.setIfInBounds_toArray,List.set_cons_zero,List.set_cons_succ]
          refine tkH 8 ⟨some 37,.move (.tmp 36),4,_,#[⟨7,.data⟩,⟨7,.chain⟩],none⟩ ?_ ?_ ?_
          rotate_left
          · (intro w hSw; (try dsimp only at hSw); go_simp; try with_reducible rfl)
          simp only [Act.put,List.setIfInBounds_toArray,List.set_cons_zero,List.set_cons_succ]
          refine wpAnyH_take (i:=9) (oi:=⟨some 38,.move (.tmp 5),53,_,#[⟨8,.guard⟩],some (8,true)⟩) (v:=undef) rfl (by kernel_rfl) (by kernel_rfl) (by kernel_rfl) (fun _ _ _ h=>h) (Or.inr ⟨by rfl,rfl⟩) (by assumption) ?_
          simp only [Act.put,List.setIfInBounds_toArray,List.set_cons_zero,List.set_cons_succ]
          refine wpAnyH_take (i:=10) (oi:=⟨some 39,.move (.tmp 6),3,_,#[⟨8,.guard⟩],some (8,true)⟩) (v:=undef) rfl (by kernel_rfl) (by kernel_rfl) (by kernel_rfl) (fun _ _ _ h=>h) (Or.inr ⟨by rfl,rfl⟩) (by assumption) ?_
          simp only [Act.put,List.setIfInBounds_toArray,List.set_cons_zero,List.set_cons_succ]
          refine wpAnyH_take (i:=11) (oi:=⟨some 40,.indexAddr 53 (.tmp 38) (.tmp 39),0,_,#[⟨9,.data⟩,⟨10,.data⟩,⟨8,.guard⟩],some (8,true)⟩) (v:=undef) rfl (by kernel_rfl) (by kernel_rfl) (by kernel_rfl) (fun _ _ _ h=>h) (Or.inr ⟨by rfl,rfl⟩) (by assumption) ?_
          simp only [Act.put,List.setIfInBounds_toArray,List.set_cons_zero,List.set_cons_succ]
          refine wpAnyH_take (i:=12) (oi:=⟨some 41,.load 50 (.tmp 40),50,_,#[⟨11,.data⟩,⟨8,.guard⟩],some (8,true)⟩) (v:=undef) rfl (by kernel_rfl) (by kernel_rfl) (by kernel_rfl) (fun _ _ _ h=>h) (Or.inr ⟨by rfl,rfl⟩) (by assumption) ?_
          simp only [Act.put,List.setIfInBounds_toArray,List.set_cons_zero,List.set_cons_succ]
          refine wpAnyH_take (i:=13) (oi:=⟨some 42,.load 28 (.tmp 7),28,_,#[⟨8,.guard⟩],some (8,true)⟩) (v:=undef) rfl (by kernel_rfl) (by kernel_rfl) (by kernel_rfl) (fun _ _ _ h=>h) (Or.inr ⟨by rfl,rfl⟩) (by assumption) ?_
          simp only [Act.put,List.setIfInBounds_toArray,List.set_cons_zero,List.set_cons_succ]
          refine wpAnyH_take (i:=14) (oi:=⟨some 43,.call ⟨.value (.func 52),#[.tmp 41,.tmp 42],#[50,28]⟩,4,_,#[⟨12,.data⟩,⟨13,.data⟩,⟨8,.chain⟩,⟨8,.guard⟩],some (8,true)⟩) (v:=undef) rfl (by kernel_rfl) (by kernel_rfl) (by kernel_rfl) (fun _ _ _ h=>h) (Or.inr ⟨by rfl,rfl⟩) (by assumption) ?_
          simp only [Act.put,List.setIfInBounds_toArray,List.set_cons_zero,List.set_cons_succ]
          refine tkH 15 ⟨some 44,.pick (.tmp 37) (.tmp 43) (.const (Value.bool false)),4,_,#[⟨8,.data⟩,⟨14,.data⟩],none⟩ ?_ ?_ ?_
          rotate_left
          · (intro w hSw; (try dsimp only at hSw); go_simp; try with_reducible rfl)
          simp only [Act.put,List.setIfInBounds_toArray,List.set_cons_zero,List.set_cons_succ]
          refine wpAnyH_done (by kernel_rfl) ?_ _
          go_wp2
          refine ⟨⟨rfl,k+1,by omega,rfl,HQ.out.gx,HNext.out (by rw [HHit.out]; rfl)⟩,?_⟩
          simp only [intOf]; omega
        · rw [hcon] at HIn HHit
          have HMay:=hidW (HMay.out hcon)
          cases MJ
          · skip
            refine tkH 0 ⟨some 29,.move (.tmp 5),53,_,#[],none⟩ ?_ ?_ ?_
            rotate_left
            · (intro w hSw; (try dsimp only at hSw); go_simp; try with_reducible rfl)
            simp only [Act.put,List.setIfInBounds_toArray,List.set_cons_zero,List.set_cons_succ]
            refine tkH 1 ⟨some 30,.move (.tmp 6),3,_,#[],none⟩ ?_ ?_ ?_
            rotate_left
            · (intro w hSw; (try dsimp only at hSw); go_simp; try with_reducible rfl)
            simp only [Act.put,List.setIfInBounds_toArray,List.set_cons_zero,List.set_cons_succ]
            refine tkH 2 ⟨some 31,.indexAddr 53 (.tmp 29) (.tmp 30),0,_,#[⟨0,.data⟩,⟨1,.data⟩],none⟩ ?_ ?_ ?_
            rotate_left
            · (intro w hSw; (try dsimp only at hSw); go_simp; try with_reducible rfl)
            simp only [Act.put,List.setIfInBounds_toArray,List.set_cons_zero,List.set_cons_succ]
            refine tkH 3 ⟨some 32,.fieldAddr 50 (.tmp 31) 0,0,_,#[⟨2,.data⟩],none⟩ ?_ ?_ ?_
            rotate_left
            · (intro w hSw; (try dsimp only at hSw); go_simp; try with_reducible rfl)
            simp only [Act.put,List.setIfInBounds_toArray,List.set_cons_zero,List.set_cons_succ]
            refine tkH 4 ⟨some 33,.load 48 (.tmp 32),48,_,#[⟨3,.data⟩],none⟩ ?_ ?_ ?_
            rotate_left
            · (intro w hSw; (try dsimp only at hSw); go_simp; try with_reducible rfl)
            simp only [Act.put,List.setIfInBounds_toArray,List.set_cons_zero,List.set_cons_succ]
            refine tkH 5 ⟨some 34,.fieldAddr 28 (.tmp 7) 1,0,_,#[],none⟩ ?_ ?_ ?_
            rotate_left
            · (intro w hSw; (try dsimp only at hSw); go_simp; try with_reducible rfl)
            simp only [Act.put,List.setIfInBounds_toArray,List.set_cons_zero,List.set_cons_succ]
            refine tkH 6 ⟨some 35,.load 3 (.tmp 34),3,_,#[⟨5,.data⟩],none⟩ ?_ ?_ ?_
            rotate_left
            · (intro w hSw; (try dsimp only at hSw); go_simp; try with_reducible rfl)
            simp only [Act.put,List.setIfInBounds_toArray,List.set_cons_zero,List.set_cons_succ]
            refine wpAnyH_ready (rs:=[7]) (by kernel_rfl) (by simp) ?_
            refine AllReadyH.cons (o:=⟨some 36,.call ⟨.value (.func 36),#[.tmp 33,.tmp 35],#[48,3]⟩,4,_,#[⟨4,.data⟩,⟨6,.data⟩],none⟩) rfl (fun K hK=> ?_) AllReadyH.nil
            go_simp
            go_at_call 36; refine (HIn.out _ HQ.out.rc.sl).mono ?_; rintro e w5 ⟨rfl,rfl⟩
            refine hK.out _ _ ?_ (fun hHeld=> ?_)
            · with_reducible exact K2.out
            clear hK K
            try simp only [Act.put,List.setIfInBounds_toArray,List.set_cons_zero,List.set_cons_succ]
            refine tkH 8 ⟨some 37,.move (.tmp 36),4,_,#[⟨7,.data⟩,⟨7,.chain⟩],none⟩ ?_ ?_ ?_
            rotate_left
            · (intro w hSw; (try dsimp only at hSw); go_simp; try with_reducible rfl)
            simp only [Act.put,List.setIfInBounds_toArray,List.set_cons_zero,List.set_cons_succ]
            refine tkH 9 ⟨some 38,.move (.tmp 5),53,_,#[⟨8,.guard⟩],some (8,true)⟩ ?_ ?_ ?_
            rotate_left
            · (intro w hSw; (try dsimp only at hSw); go_simp; try with_reducible rfl)
            simp only [Act.put,List.setIfInBounds_toArray,List.set_cons_zero,List.set_cons_succ]
            refine tkH 10 ⟨some 39,.move (.tmp 6),3,_,#[⟨8,.guard⟩],some (8,true)⟩ ?_ ?_ ?_
            rotate_left
            · (intro w hSw; (try dsimp only at hSw); go_simp; try with_reducible rfl)
            simp only [Act.put,List.setIfInBounds_toArray,List.set_cons_zero,List.set_cons_succ]
            refine tkH 11 ⟨some 40,.indexAddr 53 (.tmp 38) (.tmp 39),0,_,#[⟨9,.data⟩,⟨10,.data⟩,⟨8,.guard⟩],some (8,true)⟩ ?_ ?_ ?_
            rotate_left
            · (intro w hSw; (try dsimp only at hSw); go_simp; try with_reducible rfl)
            simp only [Act.put,List.setIfInBounds_toArray,List.set_cons_zero,List.set_cons_succ]
            refine tkH 12 ⟨some 41,.load 50 (.tmp 40),50,_,#[⟨11,.data⟩,⟨8,.guard⟩],some (8,true)⟩ ?_ ?_ ?_
            rotate_left
            · (intro w hSw; (try dsimp only at hSw); go_simp; try with_reducible rfl)
            simp only [Act.put,List.setIfInBounds_toArray,List.set_cons_zero,List.set_cons_succ]
            refine wpAnyH_take (i:=13) (oi:=⟨some 42,.load 28 (.tmp 7),28,_,#[⟨8,.guard⟩],some (8,true)⟩) (v:=_) rfl (by kernel_rfl) (by kernel_rfl) (by kernel_rfl) (fun _ _ _ h=>h) (yieldsIf_load_mid (by rfl) _ _ rfl q 0 rfl _ _ (fun _ h=>h.1) Tryd.underlying28 rfl HS1.out) (by assumption) ?_
            simp only [Act.put,List.setIfInBounds_toArray,List.set_cons_zero,List.set_cons_succ]
            refine wpAnyH_ready (rs:=[14]) (by kernel_rfl) (by simp) ?_
            refine AllReadyH.cons (o:=⟨some 43,.call ⟨.value (.func 52),#[.tmp 41,.tmp 42],#[50,28]⟩,4,_,#[⟨12,.data⟩,⟨13,.data⟩,⟨8,.chain⟩,⟨8,.guard⟩],some (8,true)⟩) rfl (fun K hK=> ?_) AllReadyH.nil
            go_simp
            go_at_call 52; refine (HMay.out _).mono ?_; rintro e w6 ⟨rfl,hb⟩; have HQ:=hidW (HQ.out.step hb); have K2:=hidW HQ.out.held; clear hb
            refine hK.out _ _ ?_ (fun hHeld=> ?_)
            · with_reducible exact K2.out
            clear hK K
            try simp only [Act.put,List.setIfInBounds_toArray,List.set_cons_zero,List.set_cons_succ]
            refine tkH 15 ⟨some 44,.pick (.tmp 37) (.tmp 43) (.const (Value.bool false)),4,_,#[⟨8,.data⟩,⟨14,.data⟩],none⟩ ?_ ?_ ?_
            rotate_left
            · (intro w hSw; (try dsimp only at hSw); go_simp; try with_reducible rfl)
            simp only [Act.put,List.setIfInBounds_toArray,List.set_cons_zero,List.set_cons_succ]
            refine wpAnyH_done (by kernel_rfl) ?_ _
            go_wp2
            refine ⟨⟨rfl,k+1,by omega,rfl,HQ.out.gx,HNext.out (by rw [HHit.out]; rfl)⟩,?_⟩
            simp only [intOf]; omega
          · skip
            refine tkH 0 ⟨some 29,.move (.tmp 5),53,_,#[],none⟩ ?_ ?_ ?_
            rotate_left
            · (intro w hSw; (try dsimp only at hSw); go_simp; try with_reducible rfl)
            simp only [Act.put,List.setIfInBounds_toArray,List.set_cons_zero,List.set_cons_succ]
            refine tkH 1 ⟨some 30,.move (.tmp 6),3,_,#[],none⟩ ?_ ?_ ?_
            rotate_left
            · (intro w hSw; (try dsimp only at hSw); go_simp; try with_reducible rfl)
            simp only [Act.put,List.setIfInBounds_toArray,List.set_cons_zero,List.set_cons_succ]
            refine tkH 2 ⟨some 31,.indexAddr 53 (.tmp 29) (.tmp 30),0,_,#[⟨0,.data⟩,⟨1,.data⟩],none⟩ ?_ ?_ ?_
            rotate_left
            · (intro w hSw; (try dsimp only at hSw); go_simp; try with_reducible rfl)
            simp only [Act.put,List.setIfInBounds_toArray,List.set_cons_zero,List.set_cons_succ]
            refine tkH 3 ⟨some 32,.fieldAddr 50 (.tmp 31) 0,0,_,#[⟨2,.data⟩],none⟩ ?_ ?_ ?_
            rotate_left
            · (intro w hSw; (try dsimp only at hSw); go_simp; try with_reducible rfl)
            simp only [Act.put,List.setIfInBounds_toArray,List.set_cons_zero,List.set_cons_succ]
            refine tkH 4 ⟨some 33,.load 48 (.tmp 32),48,_,#[⟨3,.data⟩],none⟩ ?_ ?_ ?_
            rotate_left
            · (intro w hSw; (try dsimp only at hSw); go_simp; try with_reducible rfl)
            simp only [Act.put,List.setIfInBounds_toArray,List.set_cons_zero,List.set_cons_succ]
            refine tkH 5 ⟨some 34,.fieldAddr 28 (.tmp 7) 1,0,_,#[],none⟩ ?_ ?_ ?_
            rotate_left
            · (intro w hSw; (try dsimp only at hSw); go_simp; try with_reducible rfl)
            simp only [Act.put,List.setIfInBounds_toArray,List.set_cons_zero,List.set_cons_succ]
            refine tkH 6 ⟨some 35,.load 3 (.tmp 34),3,_,#[⟨5,.data⟩],none⟩ ?_ ?_ ?_
            rotate_left
            · (intro w hSw; (try dsimp only at hSw); go_simp; try with_reducible rfl)
            simp only [Act.put,List.setIfInBounds_toArray,List.set_cons_zero,List.set_cons_succ]
            refine wpAnyH_ready (rs:=[7]) (by kernel_rfl) (by simp) ?_
            refine AllReadyH.cons (o:=⟨some 36,.call ⟨.value (.func 36),#[.tmp 33,.tmp 35],#[48,3]⟩,4,_,#[⟨4,.data⟩,⟨6,.data⟩],none⟩) rfl (fun K hK=> ?_) AllReadyH.nil
            go_simp
            go_at_call 36; refine (HIn.out _ HQ.out.rc.sl).mono ?_; rintro e w5 ⟨rfl,rfl⟩
            refine hK.out _ _ ?_ (fun hHeld=> ?_)
            · with_reducible exact K2.out
            clear hK K
            try simp only [Act.put,List.setIfInBounds_toArray,List.set_cons_zero,List.set_cons_succ]
            refine tkH 8 ⟨some 37,.move (.tmp 36),4,_,#[⟨7,.data⟩,⟨7,.chain⟩],none⟩ ?_ ?_ ?_
            rotate_left
            · (intro w hSw; (try dsimp only at hSw); go_simp; try with_reducible rfl)
            simp only [Act.put,List.setIfInBounds_toArray,List.set_cons_zero,List.set_cons_succ]
            refine tkH 9 ⟨some 38,.move (.tmp 5),53,_,#[⟨8,.guard⟩],some (8,true)⟩ ?_ ?_ ?_
            rotate_left
            · (intro w hSw; (try dsimp only at hSw); go_simp; try with_reducible rfl)
            simp only [Act.put,List.setIfInBounds_toArray,List.set_cons_zero,List.set_cons_succ]
            refine tkH 10 ⟨some 39,.move (.tmp 6),3,_,#[⟨8,.guard⟩],some (8,true)⟩ ?_ ?_ ?_
            rotate_left
            · (intro w hSw; (try dsimp only at hSw); go_simp; try with_reducible rfl)
            simp only [Act.put,List.setIfInBounds_toArray,List.set_cons_zero,List.set_cons_succ]
            refine tkH 11 ⟨some 40,.indexAddr 53 (.tmp 38) (.tmp 39),0,_,#[⟨9,.data⟩,⟨10,.data⟩,⟨8,.guard⟩],some (8,true)⟩ ?_ ?_ ?_
            rotate_left
            · (intro w hSw; (try dsimp only at hSw); go_simp; try with_reducible rfl)
            simp only [Act.put,List.setIfInBounds_toArray,List.set_cons_zero,List.set_cons_succ]
            refine tkH 12 ⟨some 41,.load 50 (.tmp 40),50,_,#[⟨11,.data⟩,⟨8,.guard⟩],some (8,true)⟩ ?_ ?_ ?_
            rotate_left
            · (intro w hSw; (try dsimp only at hSw); go_simp; try with_reducible rfl)
            simp only [Act.put,List.setIfInBounds_toArray,List.set_cons_zero,List.set_cons_succ]
            refine wpAnyH_take (i:=13) (oi:=⟨some 42,.load 28 (.tmp 7),28,_,#[⟨8,.guard⟩],some (8,true)⟩) (v:=_) rfl (by kernel_rfl) (by kernel_rfl) (by kernel_rfl) (fun _ _ _ h=>h) (yieldsIf_load_mid (by rfl) _ _ rfl q 0 rfl _ _ (fun _ h=>h.1) Tryd.underlying28 rfl HS1.out) (by assumption) ?_
            simp only [Act.put,List.setIfInBounds_toArray,List.set_cons_zero,List.set_cons_succ]
            refine wpAnyH_ready (rs:=[14]) (by kernel_rfl) (by simp) ?_
            refine AllReadyH.cons (o:=⟨some 43,.call ⟨.value (.func 52),#[.tmp 41,.tmp 42],#[50,28]⟩,4,_,#[⟨12,.data⟩,⟨13,.data⟩,⟨8,.chain⟩,⟨8,.guard⟩],some (8,true)⟩) rfl (fun K hK=> ?_) AllReadyH.nil
            go_simp
            go_at_call 52; refine (HMay.out _).mono ?_; rintro e w6 ⟨rfl,hb⟩; have HQ:=hidW (HQ.out.step hb); have K2:=hidW HQ.out.held; clear hb
            refine hK.out _ _ ?_ (fun hHeld=> ?_)
            · with_reducible exact K2.out
            clear hK K
            try simp only [Act.put,List.setIfInBounds_toArray,List.set_cons_zero,List.set_cons_succ]
            refine tkH 15 ⟨some 44,.pick (.tmp 37) (.tmp 43) (.const (Value.bool false)),4,_,#[⟨8,.data⟩,⟨14,.data⟩],none⟩ ?_ ?_ ?_
            rotate_left
            · (intro w hSw; (try dsimp only at hSw); go_simp; try with_reducible rfl)
            simp only [Act.put,List.setIfInBounds_toArray,List.set_cons_zero,List.set_cons_succ]
            refine wpAnyH_done (by kernel_rfl) ?_ _
            go_wp2
            have HQ:=hidW HQ.out.drew
            have K1:=HQ.out.held
            have HLN:Hid ((Value.int .i64 CC::Value.int .i64 OP::TL).length=(insL insZ).length):=by show _=_; rw [HLE.out]; rfl
            refine wp_region_held_drew (S:=fun w'=>w'.rangeAt q 0 (Value.int .i64 CC::Value.int .i64 OP::TL)∧w'.cell? ⟨g,k*3,none⟩=some (.slice (some ⟨b,0,none⟩) r.ops.length r.ops.length)∧w'.cell? ⟨g,k*3+1,none⟩=some (.int .i64 r.form)∧w'.cell? ⟨g,k*3+2,none⟩=some (.string s)∧w'.cell? ⟨q,1,none⟩=some (.int .i64 OP)) (by kernel_rfl) K1 (fun hHeld=> ?_)
            clear hHeld
            have K2:=hidW K1
            clear K1
            refine tkH 0 ⟨some 45,.move (.tmp 5),53,_,#[],none⟩ ?_ ?_ ?_
            rotate_left
            · (intro w hSw; (try dsimp only at hSw); go_simp; try with_reducible rfl)
            simp only [Act.put,List.setIfInBounds_toArray,List.set_cons_zero,List.set_cons_succ]
            refine tkH 1 ⟨some 46,.move (.tmp 6),3,_,#[],none⟩ ?_ ?_ ?_
            rotate_left
            · (intro w hSw; (try dsimp only at hSw); go_simp; try with_reducible rfl)
            simp only [Act.put,List.setIfInBounds_toArray,List.set_cons_zero,List.set_cons_succ]
            refine tkH 2 ⟨some 47,.indexAddr 53 (.tmp 45) (.tmp 46),0,_,#[⟨0,.data⟩,⟨1,.data⟩],none⟩ ?_ ?_ ?_
            rotate_left
            · (intro w hSw; (try dsimp only at hSw); go_simp; try with_reducible rfl)
            simp only [Act.put,List.setIfInBounds_toArray,List.set_cons_zero,List.set_cons_succ]
            refine tkH 3 ⟨some 48,.load 50 (.tmp 47),50,_,#[⟨2,.data⟩],none⟩ ?_ ?_ ?_
            rotate_left
            · (intro w hSw; (try dsimp only at hSw); go_simp; try with_reducible rfl)
            simp only [Act.put,List.setIfInBounds_toArray,List.set_cons_zero,List.set_cons_succ]
            refine wpAnyH_take (i:=4) (oi:=⟨some 49,.load 28 (.tmp 7),28,_,#[{ on:=5,ground:=Ground.gcOnly Departure.lateStores }],none⟩) (v:=_) rfl (by kernel_rfl) (by kernel_rfl) (by kernel_rfl) (fun _ _ _ h=>h) (yieldsIf_load_mid (by rfl) _ _ rfl q 0 rfl _ _ (fun _ h=>h.1) Tryd.underlying28 rfl HS1.out) (by assumption) ?_
            simp only [Act.put,List.setIfInBounds_toArray,List.set_cons_zero,List.set_cons_succ]
            refine wpAnyH_ready (rs:=[5]) (by kernel_rfl) (by simp) ?_
            refine AllReadyH.cons (o:=⟨none,.store 50 (.tmp 2) (.tmp 48),0,_,#[⟨3,.data⟩,⟨0,.phase⟩,⟨1,.phase⟩,⟨2,.phase⟩,⟨3,.phase⟩,{ on:=4,ground:=Ground.textOnly Departure.lateStores }],none⟩) rfl (fun K hK=> ?_) AllReadyH.nil
            rw [if_pos (by kernel_rfl)]; first|(refine wp_store_mid _ _ _ rfl w.heap.size 0 #[.slice (some ⟨b,0,none⟩) r.ops.length r.ops.length,.int .i64 r.form,.string s] rfl rfl (HQ.out.gx.row.there 3 rfl) rowI (by kernel_rfl) ?_; have HQ:=hidW (HQ.out.setRow [.slice (some ⟨b,0,none⟩) r.ops.length r.ops.length,.int .i64 r.form,.string s] rfl); generalize World.setCells _ _ _ _=wa at HQ ⊢; refine hK.out _ _ HQ.out.held (fun hHeld=> ?_))|(refine wp_store_mid _ _ _ rfl (w.heap.size+1) 0 (Value.int .i64 CC::Value.int .i64 OP::TL).toArray rfl rfl (HQ.out.gx.res.there _ (by rw [List.size_toArray]; exact HLN.out)) HS2.out HOI.out ?_; have HQ:=hidW (HQ.out.setIns (Value.int .i64 CC::Value.int .i64 OP::TL) HLN.out); generalize World.setCells _ _ _ _=wa at HQ ⊢; refine hK.out _ _ HQ.out.held (fun hHeld=> ?_))
            clear hK K
            try simp only [Act.put,List.setIfInBounds_toArray,List.set_cons_zero,List.set_cons_succ]
            refine wpAnyH_ready (rs:=[6]) (by kernel_rfl) (by simp) ?_
            refine AllReadyH.cons (o:=⟨none,.store 28 (.tmp 3) (.tmp 49),0,_,#[⟨4,.data⟩,⟨5,.chain⟩,⟨0,.phase⟩,⟨1,.phase⟩,⟨2,.phase⟩,⟨3,.phase⟩,⟨4,.phase⟩,⟨5,.phase⟩],none⟩) rfl (fun K hK=> ?_) AllReadyH.nil
            rw [if_pos (by kernel_rfl)]; first|(refine wp_store_mid _ _ _ rfl w.heap.size 0 #[.slice (some ⟨b,0,none⟩) r.ops.length r.ops.length,.int .i64 r.form,.string s] rfl rfl (HQ.out.gx.row.there 3 rfl) rowI (by kernel_rfl) ?_; have HQ:=hidW (HQ.out.setRow [.slice (some ⟨b,0,none⟩) r.ops.length r.ops.length,.int .i64 r.form,.string s] rfl); generalize World.setCells _ _ _ _=wa at HQ ⊢; refine hK.out _ _ HQ.out.held (fun hHeld=> ?_))|(refine wp_store_mid _ _ _ rfl (w.heap.size+1) 0 (Value.int .i64 CC::Value.int .i64 OP::TL).toArray rfl rfl (HQ.out.gx.res.there _ (by rw [List.size_toArray]; exact HLN.out)) HS2.out HOI.out ?_; have HQ:=hidW (HQ.out.setIns (Value.int .i64 CC::Value.int .i64 OP::TL) HLN.out); generalize World.setCells _ _ _ _=wa at HQ ⊢; refine hK.out _ _ HQ.out.held (fun hHeld=> ?_))
            clear hK K
            try simp only [Act.put,List.setIfInBounds_toArray,List.set_cons_zero,List.set_cons_succ]
            refine tkH 7 ⟨some 4,.assign (.const (Value.bool true)),4,_,#[⟨6,.chain⟩,⟨0,.phase⟩,⟨1,.phase⟩,⟨2,.phase⟩,⟨3,.phase⟩,⟨4,.phase⟩,⟨5,.phase⟩,⟨6,.phase⟩],none⟩ ?_ ?_ ?_
            rotate_left
            · (intro w hSw; (try dsimp only at hSw); go_simp; try with_reducible rfl)
            simp only [Act.put,List.setIfInBounds_toArray,List.set_cons_zero,List.set_cons_succ]
            refine wpAnyH_done (by kernel_rfl) ?_ _
            go_wp2
            have hl:=(ZX.mk HQ.out.gx.bel HQ.out.gx.row HQ.out.gx.res).loads rfl HLE.out
            obtain ⟨hl1,hl2⟩:=hl
            exact bodyPost_ret (v:= .tuple #[.agg #[.slice (some ⟨b,0,none⟩) r.ops.length r.ops.length,.int .i64 r.form,.string s],.agg (Value.int .i64 CC::Value.int .i64 OP::TL).toArray,.bool true]) (by simp [results,Tryd.results34,asAddr,hl1,hl2,Act.put]) rfl ⟨HAns.out (by rw [HHit.out]; rfl),HQ.out.gx.bel⟩
    · have z1:decide ((k:Int)<54)=false:=decide_eq_false (by omega)
      obtain rfl:k=54:=by omega
      have hn:findJ x=none:=by rw [←hv.out]; rfl
      have HF:=hidW (find_none hn)
      have HZ:=hidW (ZX.mk HG.out.bel HG.out.row HG.out.res)
      clear h hv HG hn
      go_wp2_with (first|(guard_target =~ wpList _ _ _ (Oper.mk none (Op.store 50 _ _) _ _ _ _::_) _ _; refine wpList_store_mid rfl _ _ _ rfl w.heap.size 0 #[.slice none 0 0,.int .i64 0,.string ⟨#[]⟩] rfl rfl (HZ.out.row.there 3 rfl) rowI (by kernel_rfl) ?_; have HZ:=hidW (HZ.out.setRow [.slice none 0 0,.int .i64 0,.string ⟨#[]⟩] rfl); generalize World.setCells _ _ _ _=wa at HZ ⊢)|(guard_target =~ wpList _ _ _ (Oper.mk none (Op.store 28 _ _) _ _ _ _::_) _ _; refine wpList_store_mid rfl _ _ _ rfl (w.heap.size+1) 0 (insL insZ).toArray rfl rfl (HZ.out.res.there 20 rfl) ins_size (ins_all insZ) ?_; have HZ:=hidW (HZ.out.setIns (insL insZ) rfl); generalize World.setCells _ _ _ _=wa at HZ ⊢))
      obtain ⟨hl1,hl2⟩:=HZ.out.loads rfl rfl
      exact bodyPost_ret (v:= .tuple #[.agg ZR3.toArray,.agg (insA insZ),.bool false]) (by simp [results,Tryd.results34,asAddr,hl1,hl2,Act.put]; exact ⟨rfl,rfl⟩) rfl ⟨HF.out,HZ.out.bel⟩
theorem find_post {x:Nat} {e:Ending} (h:FindPost x e):∃v0 v1 v2,e= .returned (.tuple #[.agg #[v0,v1,v2],.agg (insL ((decJ x).getD insZ)).toArray,.bool (decJ x).isSome])∧(#[v0,v1,v2]:Array Value).all (·.oneCell')=true:=by
  unfold FindPost at h
  unfold decJ
  cases hf:findJ x with
  | none =>
    rw [hf] at h
    exact ⟨.slice none 0 0,.int .i64 0,.string ⟨#[]⟩,h,by kernel_rfl⟩
  | some r =>
    rw [hf] at h
    obtain ⟨b,s,h,_⟩:=h
    exact ⟨.slice (some ⟨b,0,none⟩) r.ops.length r.ops.length,.int .i64 r.form,.string s,h,by kernel_rfl⟩
structure AX (W:World) (Z:List Value) (w:World):Prop where
  bel:Below W.heap.size W w
  res:Bl w W.heap.size 28 Z
theorem AX.first (W:World) (Z:List Value):AX W Z (W.alloc (.cells Z.toArray 28)):=⟨below_new _ _,Bl.new _ _ _⟩
theorem AX.step {W w w':World} {Z:List Value} (h:AX W Z w) (hb:Below w.heap.size w w'):AX W Z w':=⟨Below.step h.bel hb,h.res.below hb⟩
theorem AX.set {W w:World} {Z:List Value} (h:AX W Z w) (I:List Value) (hl:I.length=Z.length):AX W I (w.setCells W.heap.size 0 I):=by
  have hT:=set_turn (b:=W.heap.size) I 0 w w (Turn.refl _ w)
  exact ⟨(Turn.below (S:=fun _=>False) h.bel).trans hT (fun x hx=> .inr (by omega)) |>.to (fun _ hx=>hx.elim) (Nat.le_refl _),set_all h.res hl⟩
theorem ZX.first (W:World) (R Z:List Value):ZX W R Z ((W.alloc (.cells R.toArray 50)).alloc (.cells Z.toArray 28)):=by
  have h:=GX0.first W R Z
  exact ⟨h.bel,h.row,h.res⟩
set_option maxRecDepth 100000 in
set_option maxHeartbeats 1000000 in
theorem jdec_any (x:Nat) (w:World) (hx:x<4294967296):Calls Tryd.prog 15 #[.int .u32 (x:Int)] w fun e w'=>e= .returned (.tuple #[.agg (insL ((decJ x).getD insZ)).toArray,.bool (decJ x).isSome])∧Below w.heap.size w w':=by
  have HF:Hid (∀w',Calls Tryd.prog 34 #[.int .u32 (x:Int)] w' fun e w''=>(∃v0 v1 v2,e= .returned (.tuple #[.agg #[v0,v1,v2],.agg (insL ((decJ x).getD insZ)).toArray,.bool (decJ x).isSome])∧(#[v0,v1,v2]:Array Value).all (·.oneCell')=true)∧Below w'.heap.size w' w''):=fun w'=>(jfind_any x w' hx).mono fun e w'' h=>⟨find_post h.1,h.2⟩
  have HLE:Hid ((insL ((decJ x).getD insZ)).length=20):=rfl
  have HOI:Hid ((insL ((decJ x).getD insZ)).toArray.all (·.oneCell')=true):=ins_all _
  have HS2:Hid ((Tryd.prog.info? 28).map (·.size)=some (insL ((decJ x).getD insZ)).toArray.size):=ins_size
  have HS1:Hid ((Tryd.prog.info? 28).map (·.size)=some (insL ((decJ x).getD insZ)).length):=ins_size
  generalize insL ((decJ x).getD insZ)=II at *
  generalize (decJ x).isSome=OK at *
  have HX:=hidW (AX.first w (insL insZ))
  clear hx
  go_enter Tryd.func15,Tryd.ntmps15
  go_wp2_with (first
    | (go_at_call 34; refine (HF.out _).mono ?_; rintro e w1 ⟨⟨v0,v1,v2,rfl,ho⟩,hb⟩; have HX:=hidW (HX.out.step hb); have HO:=hidW ho; clear hb ho HF)
    | (guard_target =~ wpList _ _ _ (Oper.mk none (Op.store 50 _ _) _ _ _ _::_) _ _; have HZ:=hidW (ZX.first w1 [.slice none 0 0,.int .i64 0,.string ⟨#[]⟩] (insL insZ)); refine wpList_store_mid rfl _ _ _ rfl w1.heap.size 0 #[v0,v1,v2] rfl rfl (HZ.out.row.there 3 rfl) rowI HO.out ?_; generalize hW2:World.setCells _ _ _ _=w2; have HZ:=hidW (show ZX w1 [v0,v1,v2] (insL insZ) w2 from hW2▸HZ.out.setRow [v0,v1,v2] rfl); clear hW2)
    | (guard_target =~ wpList _ _ _ (Oper.mk none (Op.store 28 (Operand.tmp 5) _) _ _ _ _::_) _ _; refine wpList_store_mid rfl _ _ _ rfl (w1.heap.size+1) 0 II.toArray rfl rfl (HZ.out.res.there _ (by rw [List.size_toArray]; exact HLE.out)) HS2.out HOI.out ?_; generalize hW3:World.setCells _ _ _ _=w3; have HZ:=hidW (show ZX w1 [v0,v1,v2] II w3 from hW3▸HZ.out.setIns II HLE.out); clear hW3; have HX:=hidW (HX.out.step HZ.out.bel))
    | (guard_target =~ wpList _ _ _ (Oper.mk (some 13) _ _ _ _ _::_) _ _; refine wpList_load_mid rfl _ _ rfl (w1.heap.size+1) 0 rfl _ _ HZ.out.res.range Tryd.underlying28 rfl HS1.out ?_)
    | (guard_target =~ wpList _ _ _ (Oper.mk none (Op.store 28 (Operand.tmp 2) _) _ _ _ _::_) _ _; refine wpList_store_mid rfl _ _ _ rfl w.heap.size 0 II.toArray rfl rfl (HX.out.res.there _ (by rw [List.size_toArray]; exact HLE.out)) HS2.out HOI.out ?_; generalize hW4:World.setCells _ _ _ _=w4; have HX:=hidW (show AX w II w4 from hW4▸HX.out.set II HLE.out); clear hW4 HZ))
  have hl:=ins_load HX.out.res HLE.out
  exact bodyPost_ret (v:= .tuple #[.agg II.toArray,.bool OK]) (by simp [results,Tryd.results15,asAddr,hl,Act.put]) rfl ⟨rfl,HX.out.bel⟩
open Go.RowKit
set_option linter.unusedVariables false
set_option linter.unusedSimpArgs false
theorem AX.drew {W w:World} {Z:List Value} (h:AX W Z w):AX W Z w.drew:=h.step (below_drew (Below.refl _ _))
theorem ax_cells {W w:World} {x0 x1 x2 x3 x4 x5 x6 x7 x8 x9 x10 x11 x12 x13 x14 x15:Value} {L:List Value} (h:AX W (x0::x1::x2::x3::x4::x5::x6::x7::x8::x9::x10::x11::x12::x13::x14::x15::L) w) :
    w.cell? ⟨W.heap.size,1,none⟩=some x1∧w.cell? ⟨W.heap.size,4,none⟩=some x4∧w.cell? ⟨W.heap.size,5,none⟩=some x5∧w.cell? ⟨W.heap.size,8,none⟩=some x8∧w.cell? ⟨W.heap.size,12,none⟩=some x12∧w.cell? ⟨W.heap.size,14,none⟩=some x14∧w.cell? ⟨W.heap.size,15,none⟩=some x15 :=
  ⟨h.res.cell 1,h.res.cell 4,h.res.cell 5,h.res.cell 8,h.res.cell 12,h.res.cell 14,h.res.cell 15⟩
end Go.Proofs.YtkmgmmmpiallhaaDoor
