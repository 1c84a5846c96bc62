import Derived.Test.YtnjlajjjcmhfgaaGreatDoorTA22
import Derived.Test.YtnjlajjjcmhfgaaGreatDoorTA26
import Derived.Test.YtnjlajjjcmhfgaaGreatDoorTA27
import Derived.Maps.OwnIn
namespace Go.Proofs.YtnjlajjjcmhfgaaGreatDoor
open Go.RowKit Go.Shelf
open Mm (Turn gr RowAt)
set_option linter.unusedVariables false
set_option linter.unusedSimpArgs false
attribute [local go_sem] Oper.semAt_some
set_option maxRecDepth 100000 in
set_option maxHeartbeats 4000000 in
theorem see_off (W:World) (p:Nat) (iv:Value) (c:Ctx) (hon:c.on=false) :
    Calls Tryz.prog 22 #[.pointer (some ⟨p,0,none⟩),iv,.agg #[.bool c.on,.bool c.tre,.bool c.afe,.int .i64 c.n,.bool c.pd0,.bool c.pd1,.int .u64 c.b0,.int .u64 c.b1,.int .u32 c.dacr,.int .u32 c.prrr,.int .u32 c.nmrr,.int .i64 c.asid]] W fun e w'=>e= .returned (.int .i64 0)∧Below W.heap.size W w':=by
  have HB:Hid (Below W.heap.size W ((W.alloc (.cells #[.pointer (some ⟨p,0,none⟩)] 49)).alloc (.cells ([.bool c.on,.bool c.tre,.bool c.afe,.int .i64 c.n,.bool c.pd0,.bool c.pd1,.int .u64 c.b0,.int .u64 c.b1,.int .u32 c.dacr,.int .u32 c.prrr,.int .u32 c.nmrr,.int .i64 c.asid]).toArray 47))):=Below.step (below_new _ _) (below_new _ _)
  go_enter Tryz.func22,Tryz.ntmps22
  go_wp2
  go_ret
  exact ⟨rfl,Below.step (below_new _ _) (below_new _ _)⟩
set_option maxRecDepth 100000 in
set_option maxHeartbeats 4000000 in
theorem see_bad (W:World) (p:Nat) (iv:Value) (c:Ctx) (hon:c.on=true) (ha:c.asid<0∨255<c.asid) :
    Calls Tryz.prog 22 #[.pointer (some ⟨p,0,none⟩),iv,.agg #[.bool c.on,.bool c.tre,.bool c.afe,.int .i64 c.n,.bool c.pd0,.bool c.pd1,.int .u64 c.b0,.int .u64 c.b1,.int .u32 c.dacr,.int .u32 c.prrr,.int .u32 c.nmrr,.int .i64 c.asid]] W fun e w'=>e= .returned (.int .i64 1)∧Below W.heap.size W w':=by
  have HB:Hid (Below W.heap.size W ((W.alloc (.cells #[.pointer (some ⟨p,0,none⟩)] 49)).alloc (.cells ([.bool c.on,.bool c.tre,.bool c.afe,.int .i64 c.n,.bool c.pd0,.bool c.pd1,.int .u64 c.b0,.int .u64 c.b1,.int .u32 c.dacr,.int .u32 c.prrr,.int .u32 c.nmrr,.int .i64 c.asid]).toArray 47))):=Below.step (below_new _ _) (below_new _ _)
  rcases (show c.asid<0∨(¬c.asid<0∧255<c.asid) by omega) with h1|⟨h1,h2⟩
  · clear ha
    go_enter Tryz.func22,Tryz.ntmps22
    go_wp2
    go_ret
    exact ⟨rfl,Below.step (below_new _ _) (below_new _ _)⟩
  · clear ha
    go_enter Tryz.func22,Tryz.ntmps22
    go_wp2
    go_ret
    exact ⟨rfl,Below.step (below_new _ _) (below_new _ _)⟩
theorem leaves_tmp {fn:Func} {q:Tmp} (h:fn.results=#[.tmp q]) (tmps:Array Value) (R:Ending→World→Prop) (Y:World) (D:Nat) (hK:Y.heap[D]? =some (.deferred (some []))) (hR:R (.returned (tmps.getD q undef)) (Y.putObj D (.deferred none))) :
    LeavesInM Fence.wide 3 Tryz.prog fn tmps R [{ target:= .collected D,args:=#[] }] .returning Y:=by
  refine ⟨by simp,.inl ⟨_,_,rfl,run_takeDeferred hK,?_⟩⟩
  refine ⟨_,results_tmp h _ _ _,?_⟩
  exact hR
theorem tbl_ne {w:World} (h:TW w) {b kb:Nat} {K:List Blo} (hb:tbl b) (hk:KM w kb K):b≠kb:=by
  rintro rfl
  obtain ⟨n,D,⟨es,cl,hh,_⟩,_⟩:=hk
  have hc:∀o v,w.cell? ⟨b,o,none⟩=some v→False:=fun o v hv=>by simp [World.cell?,hh] at hv
  rcases hb with rfl|rfl|rfl|rfl|rfl|rfl
  · exact hc _ _ (h.r.first 0 _ rfl)
  · exact hc _ _ (h.r.second 0 _ rfl)
  · exact hc _ _ (h.r.base 0 _ rfl)
  · exact hc _ _ (h.r.leaf 0 _ rfl)
  · exact hc _ _ (h.r.tags 0 _ rfl)
  · exact hc _ _ (h.r.size 0 _ rfl)
structure SeX (W Y:World) (p kb jb bp bc:Nat) (K:List Blo) (J:Jud) (c:Ctx) (l:List Tra):Prop where
  trn:Turn (· =kb) W Y
  km:KM Y kb (seL c.asid l K)
  jm:JM Y jb J
  box:Bl Y p 118 [.map (some kb),.map (some jb)]
  bp:Bl Y bp 49 [.pointer (some ⟨p,0,none⟩)]
  bc:Bl Y bc 47 ([.bool c.on,.bool c.tre,.bool c.afe,.int .i64 c.n,.bool c.pd0,.bool c.pd1,.int .u64 c.b0,.int .u64 c.b1,.int .u32 c.dacr,.int .u32 c.prrr,.int .u32 c.nmrr,.int .i64 c.asid])
section
variable {W Y Z:World} {p kb jb bp bc:Nat} {K:List Blo} {J:Jud} {c:Ctx} {l:List Tra} {X:Nat→Prop}
theorem SeX.turn (h:SeX W Y p kb jb bp bc K J c l) (T:Turn X Y Z) (hX:∀x,X x→x≠kb∧x≠jb∧x≠p∧x≠bp∧x≠bc∧W.heap.size≤x):SeX W Z p kb jb bp bc K J c l :=
  ⟨h.trn.trans T (fun x hx=> .inr (hX x hx).2.2.2.2.2),h.km.turn T (fun hx=>(hX _ hx).1 rfl),h.jm.turn T (fun hx=>(hX _ hx).2.1 rfl),h.box.turn T (fun hx=>(hX _ hx).2.2.1 rfl),h.bp.turn T (fun hx=>(hX _ hx).2.2.2.1 rfl),h.bc.turn T (fun hx=>(hX _ hx).2.2.2.2.1 rfl)⟩
theorem SeX.below (h:SeX W Y p kb jb bp bc K J c l) (hb:Below Y.heap.size Y Z):SeX W Z p kb jb bp bc K J c l:=h.turn (X:=fun _=>False) (Turn.below hb) (fun _ h=>h.elim)
end
set_option maxRecDepth 100000 in
set_option maxHeartbeats 16000000 in
theorem see_on (W:World) (p kb jb:Nat) (K:List Blo) (J:Jud) (h:PK W p kb jb K J) (S:Nat→Prop) (iv:Value) (M:Mo) (hm:MemP W S iv M) (hS:∀b,S b→solid W b∧b≠kb) (ht:TS W) (c:Ctx) (hc:c.Ok) (hon:c.on=true) (ha:0≤c.asid∧c.asid≤255) (hl:K.length≤2305843009213693952) :
    Calls Tryz.prog 22 #[.pointer (some ⟨p,0,none⟩),iv,.agg #[.bool c.on,.bool c.tre,.bool c.afe,.int .i64 c.n,.bool c.pd0,.bool c.pd1,.int .u64 c.b0,.int .u64 c.b1,.int .u32 c.dacr,.int .u32 c.prrr,.int .u32 c.nmrr,.int .i64 c.asid]] W fun e w'=>e= .returned (.int .i64 0)∧PK w' p kb jb (seK M c K) (setJ J c.asid c)∧Turn (fun x=>x=kb∨x=jb) W w'∧TS w':=by
  refine (callsIn_wide (n:=3)).1 ?_
  refine callsIn_of_wp_marks Tryz.func22 rfl trivial ?_ rfl
  simp only [Tryz.ntmps22,List.size_toArray,List.length_cons,List.length_nil,Nat.reduceAdd,Nat.reduceSub,Array.replicate_succ,Array.replicate_zero,List.push_toArray,List.append_toArray,List.nil_append,List.cons_append]
  have hform:=hm.form
  have hBL:=hidW (fun w=>blocks_any iv hform c w)
  have h1:¬c.asid<0:=by omega
  have h2:¬255<c.asid:=by omega
  have b2:Below W.heap.size W ((W.alloc (.cells #[.pointer (some ⟨p,0,none⟩)] 49)).alloc (.cells ([.bool c.on,.bool c.tre,.bool c.afe,.int .i64 c.n,.bool c.pd0,.bool c.pd1,.int .u64 c.b0,.int .u64 c.b1,.int .u32 c.dacr,.int .u32 c.prrr,.int .u32 c.nmrr,.int .i64 c.asid]).toArray 47)):=Below.step (below_new _ _) (below_new _ _)
  have HX0:Hid (SeX W ((W.alloc (.cells #[.pointer (some ⟨p,0,none⟩)] 49)).alloc (.cells ([.bool c.on,.bool c.tre,.bool c.afe,.int .i64 c.n,.bool c.pd0,.bool c.pd1,.int .u64 c.b0,.int .u64 c.b1,.int .u32 c.dacr,.int .u32 c.prrr,.int .u32 c.nmrr,.int .i64 c.asid]).toArray 47)) p kb jb W.heap.size (W.heap.size+1) K J c []) :=
    ⟨Turn.below b2,(h.below b2).km,(h.below b2).jm,(h.below b2).box,(Bl.new W _ _).below (below_new _ _),Bl.new1 _ _ _ _⟩
  have hn:(!c.on)=false:=by rw [hon]; rfl
  have HON:=hidW hon
  clear hon
  gi_wp2_with fail
  refine ⟨trivial,(callsIn_wide.2 (hBL.out _)).mono ?_⟩
  rintro e w9 ⟨rfl,rfl⟩
  gi_wp2_with fail
  gi_wp2_with fail
  gi_wp2_with fail
  gi_wp2_with fail
  gi_wp2_with fail
  -- from here
  rename_i Q' K' hKK
  have HK:=hidW hKK
  clear hKK
  have HX9:Hid (SeX W (((( W.alloc (.cells #[.pointer (some ⟨p,0,none⟩)] 49)).alloc (.cells ([.bool c.on,.bool c.tre,.bool c.afe,.int .i64 c.n,.bool c.pd0,.bool c.pd1,.int .u64 c.b0,.int .u64 c.b1,.int .u32 c.dacr,.int .u32 c.prrr,.int .u32 c.nmrr,.int .i64 c.asid]).toArray 47)).alloc (.cells #[iv] 51)).alloc (.cells ([.bool c.on,.bool c.tre,.bool c.afe,.int .i64 c.n,.bool c.pd0,.bool c.pd1,.int .u64 c.b0,.int .u64 c.b1,.int .u32 c.dacr,.int .u32 c.prrr,.int .u32 c.nmrr,.int .i64 c.asid]).toArray 47)) p kb jb W.heap.size (W.heap.size+1) K J c []):=(HX0.out.below (below_new _ _)).below (below_new _ _)
  have e2:((W.alloc (.cells #[.pointer (some ⟨p,0,none⟩)] 49)).alloc (.cells ([.bool c.on,.bool c.tre,.bool c.afe,.int .i64 c.n,.bool c.pd0,.bool c.pd1,.int .u64 c.b0,.int .u64 c.b1,.int .u32 c.dacr,.int .u32 c.prrr,.int .u32 c.nmrr,.int .i64 c.asid]).toArray 47)).heap.size=W.heap.size+1+1:=by simp
  have hb1:Bl (((( W.alloc (.cells #[.pointer (some ⟨p,0,none⟩)] 49)).alloc (.cells ([.bool c.on,.bool c.tre,.bool c.afe,.int .i64 c.n,.bool c.pd0,.bool c.pd1,.int .u64 c.b0,.int .u64 c.b1,.int .u32 c.dacr,.int .u32 c.prrr,.int .u32 c.nmrr,.int .i64 c.asid]).toArray 47)).alloc (.cells #[iv] 51)).alloc (.cells ([.bool c.on,.bool c.tre,.bool c.afe,.int .i64 c.n,.bool c.pd0,.bool c.pd1,.int .u64 c.b0,.int .u64 c.b1,.int .u32 c.dacr,.int .u32 c.prrr,.int .u32 c.nmrr,.int .i64 c.asid]).toArray 47)) (W.heap.size+1+1) 51 [iv]:=by
    have:=(Bl.new ((W.alloc (.cells #[.pointer (some ⟨p,0,none⟩)] 49)).alloc (.cells ([.bool c.on,.bool c.tre,.bool c.afe,.int .i64 c.n,.bool c.pd0,.bool c.pd1,.int .u64 c.b0,.int .u64 c.b1,.int .u32 c.dacr,.int .u32 c.prrr,.int .u32 c.nmrr,.int .i64 c.asid]).toArray 47)) 51 [iv]).below (below_new _ (.cells ([.bool c.on,.bool c.tre,.bool c.afe,.int .i64 c.n,.bool c.pd0,.bool c.pd1,.int .u64 c.b0,.int .u64 c.b1,.int .u32 c.dacr,.int .u32 c.prrr,.int .u32 c.nmrr,.int .i64 c.asid]).toArray 47))
    rwa [e2] at this
  have hb2:Bl (((( W.alloc (.cells #[.pointer (some ⟨p,0,none⟩)] 49)).alloc (.cells ([.bool c.on,.bool c.tre,.bool c.afe,.int .i64 c.n,.bool c.pd0,.bool c.pd1,.int .u64 c.b0,.int .u64 c.b1,.int .u32 c.dacr,.int .u32 c.prrr,.int .u32 c.nmrr,.int .i64 c.asid]).toArray 47)).alloc (.cells #[iv] 51)).alloc (.cells ([.bool c.on,.bool c.tre,.bool c.afe,.int .i64 c.n,.bool c.pd0,.bool c.pd1,.int .u64 c.b0,.int .u64 c.b1,.int .u32 c.dacr,.int .u32 c.prrr,.int .u32 c.nmrr,.int .i64 c.asid]).toArray 47)) (W.heap.size+1+1+1) 47 ([.bool c.on,.bool c.tre,.bool c.afe,.int .i64 c.n,.bool c.pd0,.bool c.pd1,.int .u64 c.b0,.int .u64 c.b1,.int .u32 c.dacr,.int .u32 c.prrr,.int .u32 c.nmrr,.int .i64 c.asid]):=by
    have:=Bl.new1 ((W.alloc (.cells #[.pointer (some ⟨p,0,none⟩)] 49)).alloc (.cells ([.bool c.on,.bool c.tre,.bool c.afe,.int .i64 c.n,.bool c.pd0,.bool c.pd1,.int .u64 c.b0,.int .u64 c.b1,.int .u32 c.dacr,.int .u32 c.prrr,.int .u32 c.nmrr,.int .i64 c.asid]).toArray 47)) (.cells #[iv] 51) 47 ([.bool c.on,.bool c.tre,.bool c.afe,.int .i64 c.n,.bool c.pd0,.bool c.pd1,.int .u64 c.b0,.int .u64 c.b1,.int .u32 c.dacr,.int .u32 c.prrr,.int .u32 c.nmrr,.int .i64 c.asid])
    rwa [e2] at this
  have b9:Below W.heap.size W (((( W.alloc (.cells #[.pointer (some ⟨p,0,none⟩)] 49)).alloc (.cells ([.bool c.on,.bool c.tre,.bool c.afe,.int .i64 c.n,.bool c.pd0,.bool c.pd1,.int .u64 c.b0,.int .u64 c.b1,.int .u32 c.dacr,.int .u32 c.prrr,.int .u32 c.nmrr,.int .i64 c.asid]).toArray 47)).alloc (.cells #[iv] 51)).alloc (.cells ([.bool c.on,.bool c.tre,.bool c.afe,.int .i64 c.n,.bool c.pd0,.bool c.pd1,.int .u64 c.b0,.int .u64 c.b1,.int .u32 c.dacr,.int .u32 c.prrr,.int .u32 c.nmrr,.int .i64 c.asid]).toArray 47)):=Below.step (Below.step b2 (below_new _ _)) (below_new _ _)
  have hs9:(((( W.alloc (.cells #[.pointer (some ⟨p,0,none⟩)] 49)).alloc (.cells ([.bool c.on,.bool c.tre,.bool c.afe,.int .i64 c.n,.bool c.pd0,.bool c.pd1,.int .u64 c.b0,.int .u64 c.b1,.int .u32 c.dacr,.int .u32 c.prrr,.int .u32 c.nmrr,.int .i64 c.asid]).toArray 47)).alloc (.cells #[iv] 51)).alloc (.cells ([.bool c.on,.bool c.tre,.bool c.afe,.int .i64 c.n,.bool c.pd0,.bool c.pd1,.int .u64 c.b0,.int .u64 c.b1,.int .u32 c.dacr,.int .u32 c.prrr,.int .u32 c.nmrr,.int .i64 c.asid]).toArray 47)).heap.size=W.heap.size+4:=by simp
  clear hBL HX0 b2 e2
  generalize ((( W.alloc (.cells #[.pointer (some ⟨p,0,none⟩)] 49)).alloc (.cells ([.bool c.on,.bool c.tre,.bool c.afe,.int .i64 c.n,.bool c.pd0,.bool c.pd1,.int .u64 c.b0,.int .u64 c.b1,.int .u32 c.dacr,.int .u32 c.prrr,.int .u32 c.nmrr,.int .i64 c.asid]).toArray 47)).alloc (.cells #[iv] 51)).alloc (.cells ([.bool c.on,.bool c.tre,.bool c.afe,.int .i64 c.n,.bool c.pd0,.bool c.pd1,.int .u64 c.b0,.int .u64 c.b1,.int .u32 c.dacr,.int .u32 c.prrr,.int .u32 c.nmrr,.int .i64 c.asid]).toArray 47)=w9 at *
  have hlt:=h.lt
  have hMO:M.Ok:=hm.ok
  have ts9:=ht.below b9
  have hIt:It (fun x=>x=kb) S iv M c (W.heap.size+1+1+1) (W.heap.size+1+1) w9:=by
    refine ⟨hm.below b9,ts9.tw,?_,hb2,by omega,hb1,by omega⟩
    rintro b (hb|hb)
    · exact ⟨(hS b hb).1.of (b9.block b (hS b hb).1.lt),(hS b hb).2⟩
    · exact ⟨ts9.tw.solid hb,tbl_ne ts9.tw hb HX9.out.km⟩
  have hXl:∀b,b=kb→b<w9.heap.size:=by rintro b rfl; omega
  have hIo:OwnFrom w9.heap.size (fun (pre:List { x:Tra // x∈blL M c }) Y=>SeX W Y p kb jb W.heap.size (W.heap.size+1) K J c (pre.map (·.1))∧w9.heap.size≤Y.heap.size):=by
    rintro pre A Y row ⟨hA,hz⟩ hg hr
    exact ⟨hA.turn (X:=fun b=>row=some b) (Turn.grown hg (fun k hk=> .inl hk)) (fun x hx=>by have:=(hr x hx).1; omega),Nat.le_trans hz hg.size⟩
  refine wpIn_rangeFunc_ownH rfl (by decide) (gf:=49) (lb:=#[.pointer (some ⟨W.heap.size+1+1+1,0,none⟩),.pointer (some ⟨W.heap.size+1+1,0,none⟩)]) rfl trivial (enters_of Tryz.func49 (by kernel_rfl) rfl)
    (blocks_stops 2 (W.heap.size+1+1+1) (W.heap.size+1+1) (fun x=>x=kb) S iv M c w9 hIt hXl hc)
    (fun h k=>h.trans k) (fun W l o o' _ h h1 h2=>KpX.put W l o o' h h1 h2) (Below.refl _ _) (fun _=>rfl)
    (fun pre Y=>SeX W Y p kb jb W.heap.size (W.heap.size+1) K J c (pre.map (·.1))∧w9.heap.size≤Y.heap.size)
    (fun _ _ _=>False)
    hIo (fun c=>ownFrom_pure _ (fun _=>False)) ⟨HX9.out,Nat.le_refl _⟩
    (fun x a' Y=>∃bx,w9.heap.size≤bx∧Bl Y bx 43 [.int .i64 (x.1).size,.int .u32 (x.1).va,.int .u64 (x.1).pa,.int .i64 (x.1).dom,.int .i64 (x.1).ap,.int .u32 (x.1).bits,.bool (x.1).ng,.bool (x.1).xn]∧a'={ tmps:=#[.pointer (some ⟨p,0,none⟩),iv,.agg #[.bool c.on,.bool c.tre,.bool c.afe,.int .i64 c.n,.bool c.pd0,.bool c.pd1,.int .u64 c.b0,.int .u64 c.b1,.int .u32 c.dacr,.int .u32 c.prrr,.int .u32 c.nmrr,.int .i64 c.asid],.pointer (some ⟨W.heap.size,0,none⟩),undef,.pointer (some ⟨W.heap.size+1,0,none⟩),.int .i64 0,.pointer (some ⟨bx,0,none⟩),.pointer (some ⟨W.heap.size+1,0,none⟩),.bool c.on,.bool false,.pointer (some ⟨W.heap.size+1,11,none⟩),.int .i64 c.asid,.bool false,.bool false,.pointer (some ⟨W.heap.size+1,11,none⟩),.int .i64 c.asid,.bool false,.bool false,iv,.agg #[.bool c.on,.bool c.tre,.bool c.afe,.int .i64 c.n,.bool c.pd0,.bool c.pd1,.int .u64 c.b0,.int .u64 c.b1,.int .u32 c.dacr,.int .u32 c.prrr,.int .u32 c.nmrr,.int .i64 c.asid],.func (.func 49) #[] #[.pointer (some ⟨W.heap.size+1+1+1,0,none⟩),.pointer (some ⟨W.heap.size+1+1,0,none⟩)],.agg #[.int .i64 (x.1).size,.int .u32 (x.1).va,.int .u64 (x.1).pa,.int .i64 (x.1).dom,.int .i64 (x.1).ap,.int .u32 (x.1).bits,.bool (x.1).ng,.bool (x.1).xn],undef,undef,undef,undef,undef,undef,undef,undef,undef,undef,undef,undef,undef,undef,undef,undef],defers:=[] })
    (fun x a' _ A Y row hs hg hr=>by
      obtain ⟨bx,h1,h2,h3⟩:=hs
      refine ⟨bx,h1,?_,h3⟩
      exact (hg.block bx h2.lt (fun e=>by obtain ⟨o,ho,hc⟩:=(hr bx e.symm).2; rw [show A.heap[bx]? =_ from h2] at ho; cases ho; cases hc)).trans h2)
    ?assign ?body ?done ?stop
  case assign =>
    rintro l pre x Y K2 ⟨h1,hz⟩ hK2
    gi_wp2
    exact hK2 _ _ ((KeepsOthers.alloc _ _).from _) (KpX.of (Turn.below (below_new _ _))) ⟨h1.below (below_new _ _),by simp; omega⟩ ⟨Y.heap.size,hz,Bl.new Y _ _,rfl⟩
  case body =>
    rintro l pre x a' Y hl' _ ⟨h1,hz⟩ ⟨bx,hbx,hx,rfl⟩ hlt2
    refine wpIn_block ?_
    have hT:=h.ok
    have hRi:Ri (seL c.asid (pre.map (·.1)) K):=seL_ri hT.ri
    have hKo:∀b∈seL c.asid (pre.map (·.1)) K,KOk b:=fun b hb=>by
      rcases mem_seL.1 hb with hb|⟨t,ht,rfl⟩
      · exact hT.ok b hb
      · obtain ⟨y,hy,rfl⟩:=List.mem_map.1 ht
        obtain ⟨va,hv,hw⟩:=(mem_blL HON.out y.1).1 y.2
        exact tgB_ok hMO hc ha hv hw
    have hxo:KOk (tgB c.asid x.1):=by
      obtain ⟨va,hv,hw⟩:=(mem_blL HON.out x.1).1 x.2
      exact tgB_ok hMO hc ha hv hw
    have hln:(seL c.asid (pre.map (·.1)) K).length<4611686018427387904:=by
      have q1:=seL_len (a:=c.asid) (l:=pre.map (·.1)) (K:=K)
      have q2:=blL_len M c
      rw [List.length_map] at q1
      omega
    have hYd:Below Y.heap.size Y Y.drew:=below_drew (Below.refl _ _)
    have HBO:=hidW (blockOf_any x.1 c.asid Y.drew)
    have HK1:Hid (∀w',Bl w' W.heap.size 49 [.pointer (some ⟨p,0,none⟩)]→Bl w' p 118 [.map (some kb),.map (some jb)]→Bl w' (W.heap.size+1) 47 ([.bool c.on,.bool c.tre,.bool c.afe,.int .i64 c.n,.bool c.pd0,.bool c.pd1,.int .u64 c.b0,.int .u64 c.b1,.int .u32 c.dacr,.int .u32 c.prrr,.int .u32 c.nmrr,.int .i64 c.asid])→Bl w' bx 43 ([.int .i64 (x.1).size,.int .u32 (x.1).va,.int .u64 (x.1).pa,.int .i64 (x.1).dom,.int .i64 (x.1).ap,.int .u32 (x.1).bits,.bool (x.1).ng,.bool (x.1).xn])→(w'.cell? ⟨W.heap.size,0,none⟩=some (.pointer (some ⟨p,0,none⟩))∧w'.cell? ⟨p,0,none⟩=some (.map (some kb))∧w'.cell? ⟨W.heap.size+1,11,none⟩=some (.int .i64 c.asid)∧w'.cell? ⟨bx,0,none⟩=some (.int .i64 x.1.size)∧w'.cell? ⟨bx,1,none⟩=some (.int .u32 x.1.va)∧w'.cell? ⟨bx,2,none⟩=some (.int .u64 x.1.pa)∧w'.cell? ⟨bx,3,none⟩=some (.int .i64 x.1.dom)∧w'.cell? ⟨bx,4,none⟩=some (.int .i64 x.1.ap)∧w'.cell? ⟨bx,5,none⟩=some (.int .u32 x.1.bits)∧w'.cell? ⟨bx,6,none⟩=some (.bool x.1.ng)∧w'.cell? ⟨bx,7,none⟩=some (.bool x.1.xn))):=fun w' hs1 hs2 hs3 hb=>⟨hs1.cell 0,hs2.cell 0,hs3.cell 11,hb.cell 0,hb.cell 1,hb.cell 2,hb.cell 3,hb.cell 4,hb.cell 5,hb.cell 6,hb.cell 7⟩
    have HH:=hidW h1
    have HBX:=hidW hx
    have hek:seL c.asid ((pre++[x]).map (·.1)) K=adB (seL c.asid (pre.map (·.1)) K) (tgB c.asid x.1):=by rw [List.map_append]; exact seL_snoc _ _ _ _
    have HEK:=hidW hek
    have HRI:=hidW hRi.nodup
    have HKO:=hidW hKo
    have HXO:=hidW hxo
    have hne2:bx≠kb:=by omega
    have hn1:W.heap.size≠kb:=by omega
    have hn2:W.heap.size+1≠kb:=by omega
    have HPK:=hidW h.nek
    have HNE:=hidW h.ne
    clear hRi hKo hxo h1 hx hek hT hIo hIt hb1 hb2
    obtain ⟨xv,hxp⟩:=x
    dsimp only at *
    refine regionIn_held (k:=10) (fun w'=>w'.cell? ⟨W.heap.size,0,none⟩=some (.pointer (some ⟨p,0,none⟩))∧w'.cell? ⟨p,0,none⟩=some (.map (some kb))∧w'.cell? ⟨W.heap.size+1,11,none⟩=some (.int .i64 c.asid)∧w'.cell? ⟨bx,0,none⟩=some (.int .i64 xv.size)∧w'.cell? ⟨bx,1,none⟩=some (.int .u32 xv.va)∧w'.cell? ⟨bx,2,none⟩=some (.int .u64 xv.pa)∧w'.cell? ⟨bx,3,none⟩=some (.int .i64 xv.dom)∧w'.cell? ⟨bx,4,none⟩=some (.int .i64 xv.ap)∧w'.cell? ⟨bx,5,none⟩=some (.int .u32 xv.bits)∧w'.cell? ⟨bx,6,none⟩=some (.bool xv.ng)∧w'.cell? ⟨bx,7,none⟩=some (.bool xv.xn)) (by rfl) (by kernel_rfl) (no_defer (by kernel_rfl)) (by rintro ⟨a,w,h⟩; exact h) ?_
    have hHeld:=HK1.out Y.drew (HH.out.below hYd).bp (HH.out.below hYd).box (HH.out.below hYd).bc (HBX.out.below hYd)
    refine wpAnyH_take (i:=0) (oi:=⟨some 23,.load 49 (.tmp 3),49,_,#[],none⟩) (v:=?_) rfl (by kernel_rfl) (by kernel_rfl) (by kernel_rfl) (fun _ _ _ h=>h) (Or.inl ⟨by rfl,?_⟩) (by assumption) ?_
    rotate_left
    · (intro w hSw; (try dsimp only at hSw); go_simp; try with_reducible rfl)
    simp only [Act.put,List.setIfInBounds_toArray,List.set_cons_zero,List.set_cons_succ]
    refine wpAnyH_take (i:=1) (oi:=⟨some 24,.nilCheck (.tmp 23),0,_,#[⟨0,.data⟩],none⟩) (v:=?_) rfl (by kernel_rfl) (by kernel_rfl) (by kernel_rfl) (fun _ _ _ h=>h) (Or.inl ⟨by rfl,?_⟩) (by assumption) ?_
    rotate_left
    · (intro w hSw; (try dsimp only at hSw); go_simp; try with_reducible rfl)
    simp only [Act.put,List.setIfInBounds_toArray,List.set_cons_zero,List.set_cons_succ]
    refine wpAnyH_take (i:=2) (oi:=⟨some 25,.fieldAddr 118 (.tmp 24) 0,0,_,#[⟨1,.data⟩],none⟩) (v:=?_) rfl (by kernel_rfl) (by kernel_rfl) (by kernel_rfl) (fun _ _ _ h=>h) (Or.inl ⟨by rfl,?_⟩) (by assumption) ?_
    rotate_left
    · (intro w hSw; (try dsimp only at hSw); go_simp; try with_reducible rfl)
    simp only [Act.put,List.setIfInBounds_toArray,List.set_cons_zero,List.set_cons_succ]
    refine wpAnyH_take (i:=3) (oi:=⟨some 26,.load 115 (.tmp 25),115,_,#[⟨2,.data⟩],none⟩) (v:=?_) rfl (by kernel_rfl) (by kernel_rfl) (by kernel_rfl) (fun _ _ _ h=>h) (Or.inl ⟨by rfl,?_⟩) (by assumption) ?_
    rotate_left
    · (intro w hSw; (try dsimp only at hSw); go_simp; try with_reducible rfl)
    simp only [Act.put,List.setIfInBounds_toArray,List.set_cons_zero,List.set_cons_succ]
    refine wpAnyH_take (i:=4) (oi:=⟨some 27,.load 43 (.tmp 7),43,_,#[],none⟩) (v:=?_) rfl (by kernel_rfl) (by kernel_rfl) (by kernel_rfl) (fun _ _ _ h=>h) (Or.inl ⟨by rfl,?_⟩) (by assumption) ?_
    rotate_left
    · (intro w hSw; (try dsimp only at hSw); go_simp; try with_reducible rfl)
    simp only [Act.put,List.setIfInBounds_toArray,List.set_cons_zero,List.set_cons_succ]
    refine wpAnyH_take (i:=5) (oi:=⟨some 28,.fieldAddr 47 (.tmp 5) 11,0,_,#[],none⟩) (v:=?_) rfl (by kernel_rfl) (by kernel_rfl) (by kernel_rfl) (fun _ _ _ h=>h) (Or.inl ⟨by rfl,?_⟩) (by assumption) ?_
    rotate_left
    · (intro w hSw; (try dsimp only at hSw); go_simp; try with_reducible rfl)
    simp only [Act.put,List.setIfInBounds_toArray,List.set_cons_zero,List.set_cons_succ]
    refine wpAnyH_take (i:=6) (oi:=⟨some 29,.load 3 (.tmp 28),3,_,#[⟨5,.data⟩],none⟩) (v:=?_) rfl (by kernel_rfl) (by kernel_rfl) (by kernel_rfl) (fun _ _ _ h=>h) (Or.inl ⟨by rfl,?_⟩) (by assumption) ?_
    rotate_left
    · (intro w hSw; (try dsimp only at hSw); go_simp; try with_reducible rfl)
    simp only [Act.put,List.setIfInBounds_toArray,List.set_cons_zero,List.set_cons_succ]
    refine wpAnyH_take (i:=8) (oi:=⟨some 31,.build 130 #[],130,_,#[],none⟩) (v:=?_) rfl (by kernel_rfl) (by kernel_rfl) (by kernel_rfl) (fun _ _ _ h=>h) (Or.inl ⟨by rfl,?_⟩) (by assumption) ?_
    rotate_left
    · (intro w hSw; (try dsimp only at hSw); go_simp; try with_reducible rfl)
    simp only [Act.put,List.setIfInBounds_toArray,List.set_cons_zero,List.set_cons_succ]
    refine wpAnyH_ready (rs:=[7]) (by kernel_rfl) (by simp) ?_
    refine AllReadyH.cons (o:=⟨some 30,.call ⟨.value (.func 56),#[.tmp 27,.tmp 29],#[43,3]⟩,45,_,#[⟨4,.data⟩,⟨6,.data⟩],none⟩) rfl (fun K hK=> ?_) AllReadyH.nil
    go_simp
    (go_at_call 56; refine HBO.out.mono ?_; rintro e w3 ⟨rfl,hb3⟩; have HS3:=hidW ((HH.out.below hYd).below hb3); have HB3:=hidW ((HBX.out.below hYd).below hb3); have HK3:=hidW (HK1.out w3 HS3.out.bp HS3.out.box HS3.out.bc HB3.out); obtain ⟨w5,hup,hkm5,hg5⟩:=HS3.out.km.put HRI.out HKO.out HXO.out hln; have HG5:=hidW hg5; have HKM5:=hidW hkm5; have T5:Turn (fun y=>y=kb) w3 w5:=Turn.grown hg5 (fun k e=>by cases e; exact .inl rfl); have HT5:=hidW T5; have HK5:=hidW (HK1.out w5 (HS3.out.bp.turn T5 hn1) (HS3.out.box.turn T5 HPK.out) (HS3.out.bc.turn T5 hn2) (HB3.out.turn T5 hne2)); have HD5:=hidW (Below.step hYd hb3); clear hb3 hg5 hkm5 T5)
    refine hK.out _ _ ?_ (fun hHeld=> ?_)
    · ((try dsimp only); with_reducible exact HK3.out)
    clear hK K
    try simp only [Act.put,List.setIfInBounds_toArray,List.set_cons_zero,List.set_cons_succ]
    refine wpAnyH_ready (rs:=[9]) (by kernel_rfl) (by simp) ?_
    refine AllReadyH.cons (o:=⟨none,.mapUpdate 115 (.tmp 26) (.tmp 30) (.tmp 31),0,_,#[⟨3,.data⟩,⟨7,.data⟩,⟨8,.data⟩,⟨7,.chain⟩,⟨0,.phase⟩,⟨1,.phase⟩,⟨2,.phase⟩,⟨3,.phase⟩,⟨4,.phase⟩,⟨5,.phase⟩,⟨6,.phase⟩,⟨7,.phase⟩,⟨8,.phase⟩],none⟩) rfl (fun K hK=> ?_) AllReadyH.nil
    go_simp
    skip
    refine hK.out _ _ ?_ (fun hHeld=> ?_)
    · ((try dsimp only); with_reducible exact HK5.out)
    clear hK K
    try simp only [Act.put,List.setIfInBounds_toArray,List.set_cons_zero,List.set_cons_succ]
    refine wpAnyH_done (by kernel_rfl) ?_ _
    refine ⟨(keeps_below HD5.out).trans (KeepsFrom.of_grownBy HG5.out (fun j e=>by cases e; omega)),(KpX.of (Turn.below HD5.out)).trans (KpX.of HT5.out),⟨HS3.out.trn.then HT5.out,?_,HS3.out.jm.turn HT5.out (fun e=>HNE.out e.symm),HS3.out.box.turn HT5.out HPK.out,HS3.out.bp.turn HT5.out hn1,HS3.out.bc.turn HT5.out hn2⟩,?_⟩
    · rw [HEK.out]
      exact HKM5.out
    · have:=HD5.out.size
      have:=HT5.out.size
      omega
  case done =>
    rintro D xs Y hD hSx ⟨h1,hz⟩ hK2
    have hE:xs.map (·.1)=blL M c:=hSx
    rw [hE] at h1
    refine HK.out _ _ ?_
    refine wpIn_wide.2 ?_
    have hYd:Below Y.heap.size Y Y.drew:=below_drew (Below.refl _ _)
    have hYD:=h1.below hYd
    obtain ⟨w5,hup,hjm5,hg5⟩:=hYD.jm.put (c:=c) h.ok.j ha
    have T5:Turn (fun y=>y=jb) Y.drew w5:=Turn.grown hg5 (fun k e=>by cases e; exact .inl rfl)
    have hn1:W.heap.size≠jb:=by omega
    have hn2:W.heap.size+1≠jb:=by omega
    have HK1:Hid (∀w',Bl w' W.heap.size 49 [.pointer (some ⟨p,0,none⟩)]→Bl w' p 118 [.map (some kb),.map (some jb)]→Bl w' (W.heap.size+1) 47 ([.bool c.on,.bool c.tre,.bool c.afe,.int .i64 c.n,.bool c.pd0,.bool c.pd1,.int .u64 c.b0,.int .u64 c.b1,.int .u32 c.dacr,.int .u32 c.prrr,.int .u32 c.nmrr,.int .i64 c.asid])→(w'.cell? ⟨W.heap.size,0,none⟩=some (.pointer (some ⟨p,0,none⟩))∧w'.cell? ⟨p,1,none⟩=some (.map (some jb))∧w'.cell? ⟨W.heap.size+1,0,none⟩=some (.bool c.on)∧w'.cell? ⟨W.heap.size+1,1,none⟩=some (.bool c.tre)∧w'.cell? ⟨W.heap.size+1,2,none⟩=some (.bool c.afe)∧w'.cell? ⟨W.heap.size+1,3,none⟩=some (.int .i64 c.n)∧w'.cell? ⟨W.heap.size+1,4,none⟩=some (.bool c.pd0)∧w'.cell? ⟨W.heap.size+1,5,none⟩=some (.bool c.pd1)∧w'.cell? ⟨W.heap.size+1,6,none⟩=some (.int .u64 c.b0)∧w'.cell? ⟨W.heap.size+1,7,none⟩=some (.int .u64 c.b1)∧w'.cell? ⟨W.heap.size+1,8,none⟩=some (.int .u32 c.dacr)∧w'.cell? ⟨W.heap.size+1,9,none⟩=some (.int .u32 c.prrr)∧w'.cell? ⟨W.heap.size+1,10,none⟩=some (.int .u32 c.nmrr)∧w'.cell? ⟨W.heap.size+1,11,none⟩=some (.int .i64 c.asid))):=fun w' hs1 hs2 hs3=>⟨hs1.cell 0,hs2.cell 1,hs3.cell 0,hs3.cell 1,hs3.cell 2,hs3.cell 3,hs3.cell 4,hs3.cell 5,hs3.cell 6,hs3.cell 7,hs3.cell 8,hs3.cell 9,hs3.cell 10,hs3.cell 11⟩
    have HK0:=hidW (HK1.out _ hYD.bp hYD.box hYD.bc)
    have HK5:=hidW (HK1.out w5 (hYD.bp.turn T5 hn1) (hYD.box.turn T5 h.nej) (hYD.bc.turn T5 hn2))
    refine wp_seq_k (fun K3 hK3=> ?_)
    have HK3:=hidW hK3
    refine Code.wp_mono (Q:=Exit.then K3 (fun _ _ _=>False)) (fun e a w h=>by cases e <;>first|exact h|exact h.elim) ?_
    refine wp_region_held_drew (S:=fun w'=>w'.cell? ⟨W.heap.size,0,none⟩=some (.pointer (some ⟨p,0,none⟩))∧w'.cell? ⟨p,1,none⟩=some (.map (some jb))∧w'.cell? ⟨W.heap.size+1,0,none⟩=some (.bool c.on)∧w'.cell? ⟨W.heap.size+1,1,none⟩=some (.bool c.tre)∧w'.cell? ⟨W.heap.size+1,2,none⟩=some (.bool c.afe)∧w'.cell? ⟨W.heap.size+1,3,none⟩=some (.int .i64 c.n)∧w'.cell? ⟨W.heap.size+1,4,none⟩=some (.bool c.pd0)∧w'.cell? ⟨W.heap.size+1,5,none⟩=some (.bool c.pd1)∧w'.cell? ⟨W.heap.size+1,6,none⟩=some (.int .u64 c.b0)∧w'.cell? ⟨W.heap.size+1,7,none⟩=some (.int .u64 c.b1)∧w'.cell? ⟨W.heap.size+1,8,none⟩=some (.int .u32 c.dacr)∧w'.cell? ⟨W.heap.size+1,9,none⟩=some (.int .u32 c.prrr)∧w'.cell? ⟨W.heap.size+1,10,none⟩=some (.int .u32 c.nmrr)∧w'.cell? ⟨W.heap.size+1,11,none⟩=some (.int .i64 c.asid)) (by kernel_rfl) ?_ (fun hHeld=> ?_)
    · exact HK0.out
    clear hK3
    refine wpAnyH_take (i:=0) (oi:=⟨some 32,.load 49 (.tmp 3),49,_,#[],none⟩) (v:=?_) rfl (by kernel_rfl) (by kernel_rfl) (by kernel_rfl) (fun _ _ _ h=>h) (Or.inl ⟨by rfl,?_⟩) (by assumption) ?_
    rotate_left
    · (intro w hSw; (try dsimp only at hSw); go_simp; try with_reducible rfl)
    simp only [Act.put,List.setIfInBounds_toArray,List.set_cons_zero,List.set_cons_succ]
    refine wpAnyH_take (i:=1) (oi:=⟨some 33,.nilCheck (.tmp 32),0,_,#[⟨0,.data⟩],none⟩) (v:=?_) rfl (by kernel_rfl) (by kernel_rfl) (by kernel_rfl) (fun _ _ _ h=>h) (Or.inl ⟨by rfl,?_⟩) (by assumption) ?_
    rotate_left
    · (intro w hSw; (try dsimp only at hSw); go_simp; try with_reducible rfl)
    simp only [Act.put,List.setIfInBounds_toArray,List.set_cons_zero,List.set_cons_succ]
    refine wpAnyH_take (i:=2) (oi:=⟨some 34,.fieldAddr 118 (.tmp 33) 1,0,_,#[⟨1,.data⟩],none⟩) (v:=?_) rfl (by kernel_rfl) (by kernel_rfl) (by kernel_rfl) (fun _ _ _ h=>h) (Or.inl ⟨by rfl,?_⟩) (by assumption) ?_
    rotate_left
    · (intro w hSw; (try dsimp only at hSw); go_simp; try with_reducible rfl)
    simp only [Act.put,List.setIfInBounds_toArray,List.set_cons_zero,List.set_cons_succ]
    refine wpAnyH_take (i:=3) (oi:=⟨some 35,.load 116 (.tmp 34),116,_,#[⟨2,.data⟩],none⟩) (v:=?_) rfl (by kernel_rfl) (by kernel_rfl) (by kernel_rfl) (fun _ _ _ h=>h) (Or.inl ⟨by rfl,?_⟩) (by assumption) ?_
    rotate_left
    · (intro w hSw; (try dsimp only at hSw); go_simp; try with_reducible rfl)
    simp only [Act.put,List.setIfInBounds_toArray,List.set_cons_zero,List.set_cons_succ]
    refine wpAnyH_take (i:=4) (oi:=⟨some 36,.fieldAddr 47 (.tmp 5) 11,0,_,#[],none⟩) (v:=?_) rfl (by kernel_rfl) (by kernel_rfl) (by kernel_rfl) (fun _ _ _ h=>h) (Or.inl ⟨by rfl,?_⟩) (by assumption) ?_
    rotate_left
    · (intro w hSw; (try dsimp only at hSw); go_simp; try with_reducible rfl)
    simp only [Act.put,List.setIfInBounds_toArray,List.set_cons_zero,List.set_cons_succ]
    refine wpAnyH_take (i:=5) (oi:=⟨some 37,.load 3 (.tmp 36),3,_,#[⟨4,.data⟩],none⟩) (v:=?_) rfl (by kernel_rfl) (by kernel_rfl) (by kernel_rfl) (fun _ _ _ h=>h) (Or.inl ⟨by rfl,?_⟩) (by assumption) ?_
    rotate_left
    · (intro w hSw; (try dsimp only at hSw); go_simp; try with_reducible rfl)
    simp only [Act.put,List.setIfInBounds_toArray,List.set_cons_zero,List.set_cons_succ]
    refine wpAnyH_take (i:=6) (oi:=⟨some 38,.load 47 (.tmp 5),47,_,#[],none⟩) (v:=?_) rfl (by kernel_rfl) (by kernel_rfl) (by kernel_rfl) (fun _ _ _ h=>h) (Or.inl ⟨by rfl,?_⟩) (by assumption) ?_
    rotate_left
    · (intro w hSw; (try dsimp only at hSw); go_simp; try with_reducible rfl)
    simp only [Act.put,List.setIfInBounds_toArray,List.set_cons_zero,List.set_cons_succ]
    refine wpAnyH_ready (rs:=[7]) (by kernel_rfl) (by simp) ?_
    refine AllReadyH.cons (o:=⟨none,.mapUpdate 116 (.tmp 35) (.tmp 37) (.tmp 38),0,_,#[⟨3,.data⟩,⟨5,.data⟩,⟨6,.data⟩,⟨0,.phase⟩,⟨1,.phase⟩,⟨2,.phase⟩,⟨3,.phase⟩,⟨4,.phase⟩,⟨5,.phase⟩,⟨6,.phase⟩],none⟩) rfl (fun K hK=> ?_) AllReadyH.nil
    go_simp
    skip
    refine hK.out _ _ ?_ (fun hHeld=> ?_)
    · ((try dsimp only); with_reducible exact HK5.out)
    clear hK K
    try simp only [Act.put,List.setIfInBounds_toArray,List.set_cons_zero,List.set_cons_succ]
    refine wpAnyH_done (by kernel_rfl) ?_ _
    refine HK3.out _ _ ?_
    go_wp2
    have hDl:D<Y.heap.size:=(Array.getElem?_eq_some_iff.1 hK2).1
    have hD5:w5.heap[D]? =some (.deferred (some [])):=(T5.block D hDl (by omega)).trans hK2
    refine leaves_tmp (q:=6) rfl _ _ w5 D hD5 ?_
    have T6:Turn (fun y=>y=D) w5 (w5.putObj D (.deferred none)):=Turn.grown (grownBy_putObj' w5 D _) (fun k e=>by cases e; exact .inl rfl)
    have T7:Turn (fun x=>x=kb∨x=jb) W (w5.putObj D (.deferred none)):=((h1.trn.mono (fun x _ hx=>Or.inl hx)).trans ((Turn.below hYd).then T5) (fun x hx=> .inl (.inr hx))).trans T6 (fun x hx=> .inr (by omega))
    refine ⟨rfl,⟨(hYD.box.turn T5 h.nej).turn T6 (by omega),(hYD.km.turn T5 h.ne).turn T6 (by omega),hjm5.turn T6 (by omega),h.ne,h.ok.see hMO hc ha HON.out⟩,T7,ht.turnM T7 (fun x hx _=> ?_)⟩
    rcases hx with rfl|rfl
    · exact h.km.nt
    · exact h.jm.nt
  case stop =>
    rintro D2 cd pre Z _ _ h _
    exact h.elim
end Go.Proofs.YtnjlajjjcmhfgaaGreatDoor
