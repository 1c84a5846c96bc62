import Derived.Test.YtnjlajjjcmhfgaaGreatDoorRA22
import Derived.Test.YtnjlajjjcmhfgaaGreatDoorRF00
namespace Go.Proofs.YtnjlajjjcmhfgaaGreatDoor
open Go.RowKit Go.Shelf
open Mm (Turn gr RowAt)
set_option linter.unusedVariables false
set_option linter.unusedSimpArgs false
attribute [local go_sem] Oper.semAt_some
def isB:Obj→Bool
  | .cells _ t _=>t == 45
  | _=>false
def solY (N:Nat) (w:World) (b:Nat):Prop:=∃o,w.heap[b]? =some o∧(o.isCells=true∨o.isWalk=true)∧(b<N∨isB o=false)
def airY (N:Nat) (X:Nat→Prop) (W:World) (b:Nat):Prop:=X b∨∃o,W.heap[b]? =some o∧((o.isCells=false∧o.isWalk=false)∨(N≤b∧isB o=true))
def KpY (N:Nat) (X:Nat→Prop) (W W':World):Prop:=Turn (airY N X W) W W'
theorem solY.lt {N:Nat} {w:World} {b:Nat} (h:solY N w b):b<w.heap.size:=by
  obtain ⟨o,ho,_⟩:=h
  exact (Array.getElem?_eq_some_iff.1 ho).1
theorem solY.not {N:Nat} {X:Nat→Prop} {w:World} {b:Nat} (h:solY N w b) (hX:¬X b):¬airY N X w b:=by
  rintro (hx|⟨o,ho,h1⟩)
  · exact hX hx
  · obtain ⟨o',ho',h3,h4⟩:=h
    rw [ho] at ho'
    cases ho'
    rcases h1 with ⟨h1,h2⟩|⟨h1,h2⟩
    · rw [h1,h2] at h3
      simp at h3
    · rcases h4 with h4|h4
      · omega
      · rw [h2] at h4; cases h4
theorem solY.row {N:Nat} {w:World} {b:Nat} {t:TypeId} {l:List Value} (h:RowAt w b t l) (ht:(t == 45)=false):solY N w b:=⟨_,h,.inl rfl,.inr ht⟩
theorem KpY.trans {N:Nat} {X:Nat→Prop} {A B C:World} (h:KpY N X A B) (k:KpY N X B C):KpY N X A C:=by
  refine Turn.trans (S:=airY N X A) h k (fun x hx=> ?_)
  by_cases hl:x<A.heap.size
  · refine .inl ?_
    by_cases ha:airY N X A x
    · exact ha
    · have:=Turn.block h x hl ha
      rcases hx with hx|⟨o,ho,h1⟩
      · exact .inl hx
      · exact .inr ⟨o,by rw [←this]; exact ho,h1⟩
  · exact .inr (by omega)
theorem KpY.put {N:Nat} {X:Nat→Prop} (W:World) (l:Nat) (o o':Obj) (h:W.heap[l]? =some o) (h1:o.isCells=false) (h2:o.isWalk=false):KpY N X W (W.putObj l o') :=
  Turn.grown (grownBy_putObj' W l o') (fun k hk=>by cases hk; exact .inl (.inr ⟨o,h,.inl ⟨h1,h2⟩⟩))
theorem KpY.block {N:Nat} {X:Nat→Prop} {W W':World} (h:KpY N X W W') {b:Nat} (hb:solY N W b) (hX:¬X b):W'.heap[b]? =W.heap[b]? :=Turn.block h b hb.lt (hb.not hX)
theorem solY.of {N:Nat} {w w':World} {b:Nat} (h:solY N w b) (e:w'.heap[b]? =w.heap[b]?):solY N w' b:=by
  obtain ⟨o,ho,h1⟩:=h
  exact ⟨o,e.trans ho,h1⟩
structure ItY (N:Nat) (X S:Nat→Prop) (iv:Value) (M:Mo) (c:Ctx) (bc bm:Nat) (w:World):Prop where
  mem:MemP w S iv M
  tab:TW w
  sol:∀b,S b∨tbl b→solY N w b∧¬X b
  hbc:Bl w bc 47 [.bool c.on,.bool c.tre,.bool c.afe,.int .i64 c.n,.bool c.pd0,.bool c.pd1,.int .u64 c.b0,.int .u64 c.b1,.int .u32 c.dacr,.int .u32 c.prrr,.int .u32 c.nmrr,.int .i64 c.asid]
  nbc:¬X bc
  hbm:Bl w bm 51 [iv]
  nbm:¬X bm
theorem ItY.below {N:Nat} {X S:Nat→Prop} {iv:Value} {M:Mo} {c:Ctx} {bc bm:Nat} {w w':World} (h:ItY N X S iv M c bc bm w) (hb:Below w.heap.size w w'):ItY N X S iv M c bc bm w' :=
  ⟨h.mem.below hb,h.tab.below hb,fun b hh=>⟨(h.sol b hh).1.of (hb.block b (h.sol b hh).1.lt),(h.sol b hh).2⟩,h.hbc.below hb,h.nbc,h.hbm.below hb,h.nbm⟩
theorem ItY.kept {N:Nat} {X S:Nat→Prop} {iv:Value} {M:Mo} {c:Ctx} {bc bm:Nat} {w w':World} (h:ItY N X S iv M c bc bm w) (k:KpY N X w w'):ItY N X S iv M c bc bm w' :=
  ⟨h.mem.keep k (fun b hb=>(h.sol b (.inl hb)).1.not (h.sol b (.inl hb)).2),h.tab.turn k (fun b hb=>(h.sol b (.inr hb)).1.not (h.sol b (.inr hb)).2),fun b hh=>⟨(h.sol b hh).1.of (k.block (h.sol b hh).1 (h.sol b hh).2),(h.sol b hh).2⟩,
    (k.block ⟨_,h.hbc,.inl rfl,.inr rfl⟩ h.nbc).trans h.hbc,h.nbc,(k.block ⟨_,h.hbm,.inl rfl,.inr rfl⟩ h.nbm).trans h.hbm,h.nbm⟩
theorem rowY_kept {N:Nat} {X:Nat→Prop} {w w':World} {g:Nat} {l:List Value} (h:RowAt w g 43 l) (hX:¬X g) (k:KpY N X w w'):RowAt w' g 43 l:=(k.block (solY.row h rfl) hX).trans h
set_option maxRecDepth 100000 in
set_option maxHeartbeats 4000000 in
theorem blocksY_off (N n l bc bm:Nat) (X S:Nat→Prop) (iv:Value) (M:Mo) (c:Ctx) (J:List Tra→World→Prop) (W:World) (hI:ItY N X S iv M c bc bm W) (hon:c.on=false) (h0:J [] W) :
    CallsIn Fence.wide n Tryz.prog 49 #[.func (.yield l) #[] #[],.pointer (some ⟨bc,0,none⟩),.pointer (some ⟨bm,0,none⟩)] W fun e W'=>(∃v,e= .returned v)∧J [] W':=by
  refine callsIn_of_wp Tryz.func49 rfl trivial ?_ rfl
  simp only [Tryz.ntmps49,List.size_toArray,List.length_cons,List.length_nil,Nat.reduceAdd,Nat.reduceSub,Array.replicate_succ,Array.replicate_zero,List.push_toArray,List.append_toArray,List.nil_append,List.cons_append]
  have c0:W.cell? ⟨bc,0,none⟩=some (.bool false):=by rw [hI.hbc.cell 0,hon]; rfl
  clear hI
  gi_wp2
  refine bodyPost_ret (results_none rfl _ _ _) rfl ?_
  exact ⟨⟨_,rfl⟩,h0⟩
set_option maxRecDepth 100000 in
set_option maxHeartbeats 4000000 in
theorem blocksY_on (N n l bc bm:Nat) (X S:Nat→Prop) (iv:Value) (M:Mo) (c:Ctx) (J Jx:List Tra→World→Prop) (W:World)
    (hY:∀pre x W1,J pre W1→pre++[x] <+: blL M c→YieldAt Fence.wide (n-1) Tryz.prog l #[.agg #[.int .i64 x.size,.int .u32 x.va,.int .u64 x.pa,.int .i64 x.dom,.int .i64 x.ap,.int .u32 x.bits,.bool x.ng,.bool x.xn]] W1 fun e W' =>
      (e= .returned (.bool true)∧J (pre++[x]) W'∧KpY N X W1 W')∨(e= .returned (.bool false)∧Jx (pre++[x]) W'))
    (hJ:AbidesFrom W.heap.size J) (hI:ItY N X S iv M c bc bm W) (hX:∀b,X b→b<W.heap.size) (hon:c.on=true) (hc:c.Ok) (h0:J [] W) :
    CallsIn Fence.wide n Tryz.prog 49 #[.func (.yield l) #[] #[],.pointer (some ⟨bc,0,none⟩),.pointer (some ⟨bm,0,none⟩)] W fun e W'=>(∃v,e= .returned v)∧
      ((∃ys,ys=blL M c∧J ys W')∨(∃pre,pre <+: blL M c∧Jx pre W')):=by
  refine callsIn_of_wp Tryz.func49 rfl trivial ?_ rfl
  simp only [Tryz.ntmps49,List.size_toArray,List.length_cons,List.length_nil,Nat.reduceAdd,Nat.reduceSub,Array.replicate_succ,Array.replicate_zero,List.push_toArray,List.append_toArray,List.nil_append,List.cons_append]
  have c0:W.cell? ⟨bc,0,none⟩=some (.bool true):=by rw [hI.hbc.cell 0,hon]; rfl
  have HY:=hidW hY
  have HJ:=hidW hJ
  have HON:=hidW hon
  have HX:=hidW hX
  have HS:Hid (J (blT M c 0) W∧ItY N X S iv M c bc bm W∧W.heap.size≤W.heap.size):=hidW ⟨h0,hI,Nat.le_refl _⟩
  clear hI hY hJ hon hX h0
  gi_wp2
  gi_loopw [10] (fun i wr=>∃s:Nat,s≤256∧i= .int .u32 s∧Hid (J (blT M c s) wr∧ItY N X S iv M c bc bm wr∧W.heap.size≤wr.heap.size)) (fun i _=>256-(intOf i).toNat)
  case atStart=>exact ⟨0,Nat.zero_le _,rfl,HS⟩
  case round =>
    obtain ⟨s,hs,rfl,HS1⟩:=hrel
    clear HS c0
    by_cases hlt:s<256
    · obtain ⟨hJs,hIs,hsz⟩:=HS1.out
      have HW:=hidW (within_any hIs.mem hIs.tab c ((s:Int)*16777216) hc (by omega) (by omega))
      have HB:=hidW (fun k=>bl_next (M:=M) (c:=c) HON.out (s:=s) (k:=k) hlt _ rfl)
      have HZ:=hidW (blT_succ M c s)
      have hwl:=wiL_len M c ((s:Int)*16777216)
      have c1:=hIs.hbc.cell
      have c2:wr.cell? ⟨bm,0,none⟩=some iv:=hIs.hbm.cell 0
      generalize wiL M c ((s:Int)*16777216)=L at *
      have HJs:=hidW hJs
      have HIs:=hidW hIs
      clear hJs hIs HS1
      gi_wp2_with fail
      refine ⟨trivial,fun h=>by simp [Fence.wide] at h,(callsIn_wide.2 HW.out).mono ?_⟩
      rintro e w2 ⟨v,rfl,⟨a,cap,rfl,hLt⟩,hb⟩
      have hsz2:=hb.size
      have HS2:Hid (J (blT M c s++L.take 0) w2∧ItY N X S iv M c bc bm w2∧W.heap.size≤w2.heap.size∧(L=[]∨∃g rest,a=some ⟨g,0,none⟩∧¬X g∧RowAt w2 g 43 (rowT L++rest))):=by
        refine hidW ⟨?_,HIs.out.below hb,by omega,?_⟩
        · rw [List.take_zero,List.append_nil]
          exact HJ.out _ wr w2 none HJs.out (below_grown hb) (fun r e=>by cases e)
        · rcases hLt with h|⟨g,rest,h1,h2,h3⟩
          · exact .inl h
          · exact .inr ⟨g,rest,h1,fun h=>by have:=HX.out g h; omega,h3⟩
      clear hLt hb HW HJs HIs c1 c2
      gi_wp2
      gi_loopw [19] (fun i wq=>∃k:Nat,k≤L.length∧i= .int .i64 k∧Hid (J (blT M c s++L.take k) wq∧ItY N X S iv M c bc bm wq∧W.heap.size≤wq.heap.size∧(L=[]∨∃g rest,a=some ⟨g,0,none⟩∧¬X g∧RowAt wq g 43 (rowT L++rest)))) (fun i _=>L.length-(intOf i).toNat)
      case atStart=>exact ⟨0,Nat.zero_le _,rfl,HS2⟩
      case round =>
        obtain ⟨k,hk,rfl,HS3⟩:=hrel
        clear HS2
        by_cases hlt2:k<L.length
        · obtain ⟨x,hx⟩:∃x,L[k]? =some x:=⟨_,List.getElem?_eq_getElem hlt2⟩
          obtain ⟨hJ3,hI3,hz3,hL3⟩:=HS3.out
          rcases hL3 with h|⟨g,rest,rfl,hXg,hrow⟩
          · rw [h] at hlt2; simp at hlt2
          · obtain ⟨x0,x1,x2,x3,x4,x5,x6,x7⟩:=rowT_cells hrow hx
            have hby:Below wr.heap.size wr (wr.alloc (.cells #[.int .i64 x.size,.int .u32 x.va,.int .u64 x.pa,.int .i64 x.dom,.int .i64 x.ap,.int .u32 x.bits,.bool x.ng,.bool x.xn] 43)):=below_new _ _
            have hTk:L.take (k+1)=L.take k++[x]:=by rw [List.take_add_one,hx]; rfl
            have hJy:=HJ.out _ wr _ none hJ3 (below_grown hby) (fun r e=>by cases e)
            have hpl:(blT M c s++L.take k)++[x] <+: blL M c:=by
              have h1:=HB.out (k+1)
              rwa [hTk,←List.append_assoc] at h1
            have HPL:=hidW hpl
            obtain ⟨fn,tmps,assign,body,hy,hR⟩:=HY.out _ x _ hJy hpl
            have HIy:=hidW (hI3.below hby)
            have HRy:Hid (RowAt (wr.alloc (.cells #[.int .i64 x.size,.int .u32 x.va,.int .u64 x.pa,.int .i64 x.dom,.int .i64 x.ap,.int .u32 x.bits,.bool x.ng,.bool x.xn] 43)) g 43 (rowT L++rest)):=hidW ((hby.block g hrow.lt).trans hrow)
            have HTk:=hidW hTk
            have HXg:=hidW hXg
            have hszy:=hby.size
            have hkz:(k:Int)<(L.length:Int):=by omega
            have hk0:(0:Int)≤k:=by omega
            clear hJ3 hI3 hrow hx HS3 hJy hpl hTk hXg hby
            gi_wp2
            refine ⟨fun h=>by simp [Fence.wide] at h,hR.mono ?_⟩
            rintro e W3 (⟨rfl,hJ3,hk3⟩|⟨rfl,hJx3⟩)
            · have hs3:=Turn.size hk3
              have HS5:Hid (J (blT M c s++L.take (k+1)) W3∧ItY N X S iv M c bc bm W3∧W.heap.size≤W3.heap.size∧(L=[]∨∃g' rest,(some ⟨g,0,none⟩:Option Addr)=some ⟨g',0,none⟩∧¬X g'∧RowAt W3 g' 43 (rowT L++rest))):=by
                refine hidW ⟨?_,HIy.out.kept hk3,by omega,.inr ⟨g,rest,rfl,HXg.out,rowY_kept HRy.out HXg.out hk3⟩⟩
                rw [HTk.out,←List.append_assoc]
                exact hJ3
              clear hR hJ3 hk3 HIy HRy
              gi_wp2
              go_roundw
              case rel=>exact ⟨k+1,by omega,by go_num,HS5⟩
              case measure=>simp [intOf]; omega
            · clear hR
              gi_wp2
              refine bodyPost_ret (results_none rfl _ _ _) rfl ?_
              exact ⟨⟨_,rfl⟩,.inr ⟨_,HPL.out,hJx3⟩⟩
        · obtain rfl:k=L.length:=by omega
          have HS4:Hid (J (blT M c (s+1)) wr∧ItY N X S iv M c bc bm wr∧W.heap.size≤wr.heap.size):=by
            obtain ⟨hJ3,hI3,hz3,hL3⟩:=HS3.out
            rw [List.take_length,←HZ.out] at hJ3
            exact hidW ⟨hJ3,hI3,hz3⟩
          clear HS3
          gi_wp2
          go_roundw
          case rel=>exact ⟨s+1,by omega,by go_num,HS4⟩
          case measure=>simp [intOf]; omega
    · obtain rfl:s=256:=by omega
      gi_wp2
      go_end0
      refine ⟨⟨_,rfl⟩,.inl ⟨_,rfl,?_⟩⟩
      have h2:blL M c=blT M c 256:=by unfold blL; rw [if_pos HON.out]
      rw [h2]
      exact HS1.out.1
theorem blocksY_stops (N n bc bm:Nat) (X S:Nat→Prop) (iv:Value) (M:Mo) (c:Ctx) (w:World) (hI:ItY N X S iv M c bc bm w) (hX:∀b,X b→b<w.heap.size) (hc:c.Ok) :
    SeqStopsK Fence.wide n Tryz.prog 49 #[.pointer (some ⟨bc,0,none⟩),.pointer (some ⟨bm,0,none⟩)] (fun x:{ x:Tra // x∈blL M c }=>#[.agg #[.int .i64 (x.1).size,.int .u32 (x.1).va,.int .u64 (x.1).pa,.int .i64 (x.1).dom,.int .i64 (x.1).ap,.int .u32 (x.1).bits,.bool (x.1).ng,.bool (x.1).xn]]) (KpY N X) (fun ys=>ys.map (·.1)=blL M c) (fun pre=>pre.map (·.1) <+: blL M c) (blL M c).length w:=by
  intro l J Jx W hW hJ hJx hY h0
  have hIW:=hI.below hW
  have hXW:∀b,X b→b<W.heap.size:=fun b hb=>Nat.lt_of_lt_of_le (hX b hb) hW.size
  show CallsIn Fence.wide n Tryz.prog 49 #[.func (.yield l) #[] #[],.pointer (some ⟨bc,0,none⟩),.pointer (some ⟨bm,0,none⟩)] W _
  cases hon:c.on with
  | false =>
    refine (blocksY_off N n l bc bm X S iv M c (fun pre W=>∃q:List { x:Tra // x∈blL M c },q.map (·.1)=pre∧J q W) W hIW hon ⟨[],rfl,h0⟩).mono ?_
    rintro e W' ⟨he,q,hq,hj⟩
    exact ⟨he,.inl ⟨q,hq.trans (by unfold blL; rw [hon]; rfl),hj⟩⟩
  | true =>
    refine (blocksY_on N n l bc bm X S iv M c (fun pre W=>∃q:List { x:Tra // x∈blL M c },q.map (·.1)=pre∧J q W) (fun pre W=>∃q:List { x:Tra // x∈blL M c },q.map (·.1)=pre∧Jx q W) W ?_ ?_ hIW hXW hon hc ⟨[],rfl,h0⟩).mono ?_
    · rintro pre x W1 ⟨q,rfl,hj⟩ hp
      have hx:x∈blL M c:=hp.subset (List.mem_append_right _ (.head _))
      have hl:q.length<(blL M c).length:=by
        have:=hp.length_le
        rw [List.length_append,List.length_map] at this
        simp at this
        omega
      obtain ⟨fn,tmps,assign,body,hy,hR⟩:=hY q ⟨x,hx⟩ W1 hj hl
      refine ⟨fn,tmps,assign,body,hy,hR.mono ?_⟩
      rintro e W' (⟨rfl,h1,h2⟩|⟨rfl,h1⟩)
      · exact .inl ⟨rfl,⟨_,by simp,h1⟩,h2⟩
      · exact .inr ⟨rfl,_,by simp,h1⟩
    · rintro s A B row ⟨q,hq,hj⟩ hg hr
      exact ⟨q,hq,hJ q A B row hj hg hr⟩
    · rintro e W' ⟨he,⟨ys,rfl,q,hq,hj⟩|⟨pre,hp,q,rfl,hj⟩⟩
      · exact ⟨he,.inl ⟨q,hq,hj⟩⟩
      · exact ⟨he,.inr ⟨q,hp,hj⟩⟩
end Go.Proofs.YtnjlajjjcmhfgaaGreatDoor
namespace Go.Proofs.YtnjlajjjcmhfgaaGreatDoor
open Go.RowKit Go.Shelf
open Mm (Turn gr RM valV errV Byts setV RowAt)
set_option linter.unusedVariables false
set_option linter.unusedSimpArgs false
attribute [local go_sem] Oper.semAt_some
theorem KpY.of {N:Nat} {X:Nat→Prop} {W W':World} (h:Turn X W W'):KpY N X W W':=h.mono (fun x _ hx=> .inl hx)
theorem RdX.kp {w Y Y':World} {b6:Nat} {bv0 bv:Value} {B:List Blo} (h:RdX w Y b6 bv0 bv B) (T:Turn (fun g=>g=b6∨bv.ownBlock=some g) Y Y'):KpY w.heap.size (fun g=>g=b6∨bv0.ownBlock=some g) Y Y':=by
  refine Turn.mono T (fun g _ hg=> ?_)
  rcases hg with rfl|hg
  · exact .inl (.inl rfl)
  · rcases h.nb g hg with h1|h1
    · exact .inl (.inr h1)
    · refine .inr ?_
      rcases LtG.own encB_len h.own with ⟨rfl,_⟩|⟨g',cap,rest,rfl,_,hr⟩
      · cases hg
      · cases hg
        exact ⟨_,hr,.inr ⟨h1,rfl⟩⟩
theorem RdX.self {w2 w:World} {b6:Nat} {bv0 bv:Value} {B:List Blo} (h:RdX w2 w b6 bv0 bv B):RdX w w b6 bv bv B:=⟨Turn.refl _ _,h.bb,h.own,fun g hg=> .inl hg⟩
theorem RdX.base {w2 w Y:World} {b6:Nat} {bv0 bv:Value} {B B':List Blo} (h:RdX w2 w b6 bv0 bv0 B) (h':RdX w Y b6 bv0 bv B'):RdX w2 Y b6 bv0 bv B' :=
  ⟨h.T.trans h'.T (fun g hg=> .inl hg),h'.bb,h'.own,fun g hg=>(h'.nb g hg).imp id (fun h1=>Nat.le_trans h.size h1)⟩
set_option maxRecDepth 1000000 in
set_option maxHeartbeats 16000000 in
theorem seen_range {Q:Exit→Act→World→Prop} {v0 v1 v2 v3 v4 v7 v8 v9 v10 v11 v14 v15 v16 v17 v18 v19 v20 v21 v22 v23 v24 v25 v26 v27 v28 v29 v30 v31 v32 v33 v34 v35 v36 v37 v38 v39 v40 v41 v42 v43 v44 v45 v46 v47 v48 v49 v50 v51 v52 v53 v54 v55 v56 v57 v58 v59 v60 v61 v62 v63 v64 v65 v66 v67 v68 v69 v70 v71 v72 v73 v74 v75 v76 v77 v78 v79 v80 v81 v82 v83 v84 v85 v86 v87 v88 v89 v90 v91 v92 v93 v94 v95 v96 v97 v98 v99 v100 v101 v102 v103 v104 v105 v106 v107 v108 v109 v110 v111 v112 v113 v115 v116 v117 v118 v119 v120 v121 v122 v123 v124 v125 v126 v127 v128 v129 v130 v131 v132 v133 v134 v135 v136 v137 v138 v139 v140 v141 v142 v143 v144 v145 v146 v147 v148 v149 v150 v151 v152 v153 v154 v155 v156 v157 v158 v159 v160 v161 v162 v163 v164 v165 v166 v167 v168 v169 v170 v171 v172 v173 v174 v175 v176 v177 v178 v179 v180 v181 v182 v183 v184 v185 v186 v187 v188 v189 v190 v191 v192 v193 v194 v195 v196:Value} (ds:List Deferred) (w:World) (b5 b6 b12 b13 bcx bm xx:Nat) (bv0:Value) (B:List Blo) (sl:List Value) (iv:Value) (c:Ctx) (dv:Value) (dlo:Nat) (D:List Dir) (S:Nat→Prop) (M:Mo) (h:RdX w w b6 bv0 bv0 B) (h5:Bl w b5 28 [.pointer (some ⟨xx,0,none⟩)]) (hx:Bl w xx 54 sl) (hsl:sl[5]? =some iv) (h12:Bl w b12 47 ([.bool c.on,.bool c.tre,.bool c.afe,.int .i64 c.n,.bool c.pd0,.bool c.pd1,.int .u64 c.b0,.int .u64 c.b1,.int .u32 c.dacr,.int .u32 c.prrr,.int .u32 c.nmrr,.int .i64 c.asid])) (h13:Bl w b13 48 [dv]) (hD:LtG encD 74 w dlo dv D) (hbc:Bl w bcx 47 ([.bool c.on,.bool c.tre,.bool c.afe,.int .i64 c.n,.bool c.pd0,.bool c.pd1,.int .u64 c.b0,.int .u64 c.b1,.int .u32 c.dacr,.int .u32 c.prrr,.int .u32 c.nmrr,.int .i64 c.asid])) (hbm:Bl w bm 51 [iv]) (hlB:B.length≤1099511627776) (hlD:D.length≤4611686018427387904) (HMem:Hid (∀ww,Turn (fun g=>g=b6∨bv0.ownBlock=some g) w ww→MemP ww S iv M∧TS ww)) (hSX:∀b,S b∨tbl b→solid w b∧b≠b6∧bv0.ownBlock≠some b) (hc:c.Ok) (hFz:∀t∈blL M c,Fz t) (hDs:∀t∈blL M c,(D.any fun y=>y.asid == c.asid && y.b.same (tgB c.asid t))= !smF M c t)
    (HQ:Hid (∀(D':Nat) (Y:World) (bv:Value),w.heap.size≤D'→Y.heap[D']? =some (.deferred (some []))→RdX w Y b6 bv0 bv (bkA c.asid (blL M c) B)→Q .normal ⟨(v0::v1::v2::v3::v4::(.pointer (some ⟨b5,0,none⟩))::(.pointer (some ⟨b6,0,none⟩))::v7::v8::v9::v10::v11::(.pointer (some ⟨b12,0,none⟩))::(.pointer (some ⟨b13,0,none⟩))::v14::v15::v16::v17::v18::v19::v20::v21::v22::v23::v24::v25::v26::v27::v28::v29::v30::v31::v32::v33::v34::v35::v36::v37::v38::v39::v40::v41::v42::v43::v44::v45::v46::v47::v48::v49::v50::v51::v52::v53::v54::v55::v56::v57::v58::v59::v60::v61::v62::v63::v64::v65::v66::v67::v68::v69::v70::v71::v72::v73::v74::v75::v76::v77::v78::v79::v80::v81::v82::v83::v84::v85::v86::v87::v88::v89::v90::v91::v92::v93::v94::v95::v96::v97::v98::v99::v100::v101::v102::v103::v104::v105::v106::v107::v108::v109::v110::v111::v112::v113::(.func (.func 49) #[] #[.pointer (some ⟨bcx,0,none⟩),.pointer (some ⟨bm,0,none⟩)])::v115::v116::v117::v118::v119::v120::v121::v122::v123::v124::v125::v126::v127::v128::v129::v130::v131::v132::v133::v134::v135::v136::v137::v138::v139::v140::v141::v142::v143::v144::v145::v146::v147::v148::v149::v150::v151::v152::v153::v154::v155::v156::v157::v158::v159::v160::v161::v162::v163::v164::v165::v166::v167::v168::v169::v170::v171::v172::v173::v174::v175::v176::v177::v178::v179::v180::v181::v182::v183::v184::v185::v186::v187::v188::v189::v190::v191::v192::v193::v194::v195::v196::[]).toArray,mk D'::ds⟩ Y)) :
    (seG Tryz.f3).wp Tryz.prog Q ⟨(v0::v1::v2::v3::v4::(.pointer (some ⟨b5,0,none⟩))::(.pointer (some ⟨b6,0,none⟩))::v7::v8::v9::v10::v11::(.pointer (some ⟨b12,0,none⟩))::(.pointer (some ⟨b13,0,none⟩))::v14::v15::v16::v17::v18::v19::v20::v21::v22::v23::v24::v25::v26::v27::v28::v29::v30::v31::v32::v33::v34::v35::v36::v37::v38::v39::v40::v41::v42::v43::v44::v45::v46::v47::v48::v49::v50::v51::v52::v53::v54::v55::v56::v57::v58::v59::v60::v61::v62::v63::v64::v65::v66::v67::v68::v69::v70::v71::v72::v73::v74::v75::v76::v77::v78::v79::v80::v81::v82::v83::v84::v85::v86::v87::v88::v89::v90::v91::v92::v93::v94::v95::v96::v97::v98::v99::v100::v101::v102::v103::v104::v105::v106::v107::v108::v109::v110::v111::v112::v113::(.func (.func 49) #[] #[.pointer (some ⟨bcx,0,none⟩),.pointer (some ⟨bm,0,none⟩)])::v115::v116::v117::v118::v119::v120::v121::v122::v123::v124::v125::v126::v127::v128::v129::v130::v131::v132::v133::v134::v135::v136::v137::v138::v139::v140::v141::v142::v143::v144::v145::v146::v147::v148::v149::v150::v151::v152::v153::v154::v155::v156::v157::v158::v159::v160::v161::v162::v163::v164::v165::v166::v167::v168::v169::v170::v171::v172::v173::v174::v175::v176::v177::v178::v179::v180::v181::v182::v183::v184::v185::v186::v187::v188::v189::v190::v191::v192::v193::v194::v195::v196::[]).toArray,ds⟩ w:=by
  refine (wpIn_wide (n:=3)).1 ?_
  conv=>arg 4; whnf
  have h6:=h.bb.lt
  have hrow:∀g,bv0.ownBlock=some g→g<w.heap.size:=fun g hg=>(h.own.lt g hg).2
  have hIt:ItY w.heap.size (fun g=>g=b6∨bv0.ownBlock=some g) (fun b=>S b) iv M c bcx bm w:=by
    have hm:=HMem.out w (Turn.refl _ _)
    refine ⟨hm.1,hm.2.tw,fun b hb=> ?_,hbc,h.apart hbc (by decide) (by decide),hbm,h.apart hbm (by decide) (by decide)⟩
    obtain ⟨⟨o,ho,h1⟩,h2,h3⟩:=hSX b hb
    exact ⟨⟨o,ho,h1,.inl (Array.getElem?_eq_some_iff.1 ho).1⟩,fun hh=>hh.elim h2 h3⟩
  have hXl:∀b,(b=b6∨bv0.ownBlock=some b)→b<w.heap.size:=fun b hb=>by
    rcases hb with rfl|hb
    · exact h6
    · exact hrow b hb
  have hI0:(fun (pre:List { x:Tra // x∈blL M c }) Y=>∃bv,RdX w Y b6 bv0 bv (bkA c.asid (pre.map (·.1)) B)) ([]:List { x:Tra // x∈blL M c }) w:=⟨bv0,h⟩
  have hIo:OwnFrom w.heap.size (fun (pre:List { x:Tra // x∈blL M c }) Y=>∃bv,RdX w Y b6 bv0 bv (bkA c.asid (pre.map (·.1)) B)):=by
    rintro pre A Y row ⟨bv,hA⟩ hg hr
    refine ⟨bv,hA.turn (Y:=fun b=>row=some b) (Turn.grown hg (fun k hk=> .inl hk)) (fun b hb=> ?_)⟩
    have h1:=(hr b hb).1
    refine ⟨h1,by omega,fun hh=> ?_⟩
    obtain ⟨o,ho,hc'⟩:=(hr b hb).2
    obtain ⟨t,l,hbl⟩:=hA.cells b (.inr hh)
    rw [show A.heap[b]? =_ from hbl] at ho
    cases ho
    cases hc'
  refine wpIn_rangeFunc_ownH rfl (by decide) (gf:=49) (lb:=#[.pointer (some ⟨bcx,0,none⟩),.pointer (some ⟨bm,0,none⟩)]) rfl trivial (enters_of Tryz.func49 (by kernel_rfl) rfl)
    (blocksY_stops w.heap.size 2 bcx bm (fun g=>g=b6∨bv0.ownBlock=some g) (fun b=>S b) iv M c w hIt hXl hc)
    (fun h k=>h.trans k) (fun W l o o' _ h h1 h2=>KpY.put W l o o' h h1 h2) (Below.refl _ _) (fun _=>rfl)
    (fun (pre:List { x:Tra // x∈blL M c }) Y=>∃bv,RdX w Y b6 bv0 bv (bkA c.asid (pre.map (·.1)) B))
    (fun _ _ _=>False)
    hIo (fun c=>ownFrom_pure _ (fun _=>False)) hI0
    (fun x a' Y=>∃bx,w.heap.size≤bx∧Bl Y bx 43 [.int .i64 (x.1).size,.int .u32 (x.1).va,.int .u64 (x.1).pa,.int .i64 (x.1).dom,.int .i64 (x.1).ap,.int .u32 (x.1).bits,.bool (x.1).ng,.bool (x.1).xn]∧a'=⟨(v0::v1::v2::v3::v4::(.pointer (some ⟨b5,0,none⟩))::(.pointer (some ⟨b6,0,none⟩))::v7::v8::v9::v10::v11::(.pointer (some ⟨b12,0,none⟩))::(.pointer (some ⟨b13,0,none⟩))::(.pointer (some ⟨bx,0,none⟩))::v15::v16::v17::v18::v19::v20::v21::v22::v23::v24::v25::v26::v27::v28::v29::v30::v31::v32::v33::v34::v35::v36::v37::v38::v39::v40::v41::v42::v43::v44::v45::v46::v47::v48::v49::v50::v51::v52::v53::v54::v55::v56::v57::v58::v59::v60::v61::v62::v63::v64::v65::v66::v67::v68::v69::v70::v71::v72::v73::v74::v75::v76::v77::v78::v79::v80::v81::v82::v83::v84::v85::v86::v87::v88::v89::v90::v91::v92::v93::v94::v95::v96::v97::v98::v99::v100::v101::v102::v103::v104::v105::v106::v107::v108::v109::v110::v111::v112::v113::(.func (.func 49) #[] #[.pointer (some ⟨bcx,0,none⟩),.pointer (some ⟨bm,0,none⟩)])::(.agg #[.int .i64 (x.1).size,.int .u32 (x.1).va,.int .u64 (x.1).pa,.int .i64 (x.1).dom,.int .i64 (x.1).ap,.int .u32 (x.1).bits,.bool (x.1).ng,.bool (x.1).xn])::v116::v117::v118::v119::v120::v121::v122::v123::v124::v125::v126::v127::v128::v129::v130::v131::v132::v133::v134::v135::v136::v137::v138::v139::v140::v141::v142::v143::v144::v145::v146::v147::v148::v149::v150::v151::v152::v153::v154::v155::v156::v157::v158::v159::v160::v161::v162::v163::v164::v165::v166::v167::v168::v169::v170::v171::v172::v173::v174::v175::v176::v177::v178::v179::v180::v181::v182::v183::v184::v185::v186::v187::v188::v189::v190::v191::v192::v193::v194::v195::v196::[]).toArray,[]⟩)
    (fun x a' _ A Y row hs hg hr=>by
      obtain ⟨bx,h1,h2,h3⟩:=hs
      refine ⟨bx,h1,?_,h3⟩
      exact (hg.block bx h2.lt (fun e=>by obtain ⟨o,ho,hc⟩:=(hr bx e.symm).2; rw [show A.heap[bx]? =_ from h2] at ho; cases ho; cases hc)).trans h2)
    ?assign ?body ?done ?stop
  case assign =>
    rintro l pre x Y K2 ⟨bv,hR⟩ hK2
    gi_wp2
    exact hK2 _ _ ((KeepsOthers.alloc _ _).from _) (KpY.of (Turn.below (below_new _ _))) ⟨bv,hR.below (below_new _ _)⟩ ⟨Y.heap.size,hR.size,Bl.new Y _ _,rfl⟩
  case body =>
    rintro l pre x a' Y hl' _ ⟨bv,hR⟩ ⟨bx,hbx,hx',rfl⟩ hlt
    have hTo:∀ww,Turn (fun g=>g=b6∨bv.ownBlock=some g) Y ww→Turn (fun g=>g=b6∨bv0.ownBlock=some g) w ww:=fun ww T=>hR.T.trans T (fun g hg=>by
      rcases hg with rfl|hg
      · exact .inl (.inl rfl)
      · exact (hR.nb g hg).imp (fun h=> .inr h) id)
    have hln:(bkA c.asid (pre.map (·.1)) B).length≤2199023255552:=by
      have q1:=bkA_len (a:=c.asid) (l:=pre.map (·.1)) (B:=B)
      have q2:=blL_len M c
      rw [List.length_map] at q1
      omega
    have hek:bkA c.asid ((pre++[x]).map (·.1)) B=bk1 c.asid (bkA c.asid (pre.map (·.1)) B) x.1:=by rw [List.map_append]; exact bkA_snoc _ _ _ _
    refine seen_body l _ w Y b5 b6 b12 b13 bx xx bv0 bv _ sl iv c x.1 dv dlo D (smF M c x.1) hR (h5.turn hR.T (h.apart h5 (by decide) (by decide))) (hx.turn hR.T (h.apart hx (by decide) (by decide))) hsl (h12.turn hR.T (h.apart h12 (by decide) (by decide))) (h13.turn hR.T (h.apart h13 (by decide) (by decide))) hx' ?_ hln hlD (hidW fun ww T=> ?_) (hDs x.1 x.2) (fun a w h=>h) (fun h=>h) (hidW fun a w' bv' hR' T=> ?_)
    · obtain ⟨a,cap,e,h0⟩:=hD
      refine ⟨a,cap,e,h0.imp id ?_⟩
      rintro ⟨g,rest,e1,e2,e3⟩
      exact ⟨g,rest,e1,e2,(show Bl Y g 74 _ from Bl.turn (show Bl w g 74 _ from e3) hR.T (h.apart (show Bl w g 74 _ from e3) (by decide) (by decide)))⟩
    · have hm:=HMem.out ww (hTo ww T)
      exact sameP_any c x.1 ww hm.1 (hFz x.1 x.2) hm.2 hc
    · refine ⟨keeps_turn T hR.cells,hR.kp T,bv',?_⟩
      rw [hek]
      exact hR'
  case done =>
    rintro D' xs Y hD' hS ⟨bv,hR⟩ hK
    rw [hS] at hR
    exact HQ.out D' Y bv hD' hK hR
  case stop =>
    rintro D' cd pre Y _ _ hf _
    exact hf.elim
end Go.Proofs.YtnjlajjjcmhfgaaGreatDoor
namespace Go.Proofs.YtnjlajjjcmhfgaaGreatDoor
open Go.RowKit Go.Shelf
open Mm (Turn gr RM valV errV Byts setV RowAt)
set_option linter.unusedVariables false
set_option linter.unusedSimpArgs false
attribute [local go_sem] Oper.semAt_some
structure GotD (w wx:World) (b:Nat) (D:List Dir):Prop where
  bel:Below w.heap.size w wx
  hb:w.heap.size≤b
  box:∃dv,Bl wx b 48 [dv]∧LtG encD 74 wx w.heap.size dv D
theorem gd1 {w w8 w9:World} {v:Value} {D:List Dir} (h:Below w.heap.size w w8) (hL:LtG encD 74 w9 w8.heap.size v D) (hb:Below w8.heap.size w8 w9):GotD w (w9.alloc (.cells #[v] 48)) w9.heap.size D :=
  ⟨Below.step (Below.step h hb) (below_new _ _),(Below.step h hb).size,v,Bl.new w9 48 [v],(hL.below (below_new _ _)).mono h.size⟩
theorem gd2 {w w8 w9:World} {v:Value} {D:List Dir} {b:Nat} (h:Below w.heap.size w w8) (hlt:b<w8.heap.size) (hwb:w.heap.size≤b) (hA:Bl w9 b 48 [.slice none 0 0]) (hL:LtG encD 74 w9 w8.heap.size v D) (hb:Below w8.heap.size w8 w9):GotD w (w9.setCell ⟨b,0,none⟩ v) b D :=
  ⟨(Below.step h hb).setCell hwb _,hwb,v,hA.set 0 v,(hL.turn ((Turn.refl (· =b) w9).setCell (p:=⟨b,0,none⟩) (.inl rfl) v) (fun g hg=>by rw [hg]; exact hlt)).mono h.size⟩
set_option maxRecDepth 1000000 in
set_option maxHeartbeats 16000000 in
theorem seen_D {Q:Exit→Act→World→Prop} {v0 v1 v2 v3 v4 v7 v8 v9 v10 v11 v13 v14 v15 v16 v17 v18 v19 v20 v21 v22 v23 v24 v25 v26 v27 v28 v29 v30 v31 v32 v33 v34 v35 v36 v37 v38 v39 v40 v41 v42 v43 v44 v45 v46 v47 v48 v49 v50 v51 v52 v53 v54 v55 v56 v57 v58 v59 v60 v61 v62 v63 v64 v65 v66 v67 v68 v69 v70 v71 v72 v73 v74 v75 v76 v77 v78 v79 v80 v81 v82 v83 v84 v85 v86 v87 v88 v89 v90 v91 v92 v93 v94 v95 v96 v97 v98 v99 v100 v101 v102 v103 v104 v105 v106 v107 v108 v109 v110 v111 v112 v113 v114 v115 v116 v117 v118 v119 v120 v121 v122 v123 v124 v125 v126 v127 v128 v129 v130 v131 v132 v133 v134 v135 v136 v137 v138 v139 v140 v141 v142 v143 v144 v145 v146 v147 v148 v149 v150 v151 v152 v153 v154 v155 v156 v157 v158 v159 v160 v161 v162 v163 v164 v165 v166 v167 v168 v169 v170 v171 v172 v173 v174 v175 v176 v177 v178 v179 v180 v181 v182 v183 v184 v185 v186 v187 v188 v189 v190 v191 v192 v193 v194 v195 v196:Value} (ds:List Deferred) (W0 w:World) (x p kb jb:Nat) (wv iv:Value) (f:Int) (vp vw vc:Value) (σ:Pst) (G:Nat→Prop) (b5 b6 b12:Nat) (bv0:Value) (B:List Blo) (c:Ctx) (hx:SgX G W0 w x p kb jb wv iv f vp vw vc σ) (hG:∀b,(b=b6∨bv0.ownBlock=some b)→G b∧b≠x∧b≠p∧W0.heap.size≤b) (hW:TS W0) (h:RdX w w b6 bv0 bv0 B) (h5:Bl w b5 28 [.pointer (some ⟨x,0,none⟩)]) (h12:Bl w b12 47 ([.bool c.on,.bool c.tre,.bool c.afe,.int .i64 c.n,.bool c.pd0,.bool c.pd1,.int .u64 c.b0,.int .u64 c.b1,.int .u32 c.dacr,.int .u32 c.prrr,.int .u32 c.nmrr,.int .i64 c.asid])) (hs:Sml σ) (hJ:σ.J c.asid=some c) (hlB:B.length≤1099511627776) (hc:c.Ok) (hca:0≤c.asid∧c.asid≤255) (hFz:∀t∈blL σ.mem.mo c,Fz t) (hDs:∀t∈blL σ.mem.mo c,((diL σ.mem.mo σ.K σ.J).any fun y=>y.asid == c.asid && y.b.same (tgB c.asid t))= !smF σ.mem.mo c t) (hpan:∀ {c:List PanicEntry} {a:Act} {d:Option Tmp} {v:Value} {w:World},Q (.panic c) (a.put d v) w→Q (.panic c) a w)
    (HQ:Hid (∀ {u13 u14 u15 u16 u17 u100 u101 u102 u103 u104 u105 u106 u107 u108 u109 u110 u111 u112 u113 u114 u115 u116 u117 u118 u119 u120 u121 u122 u123 u124 u125 u126 u127 u128 u129 u130 u131 u132 u133 u134 u135 u136 u137 u138 u139 u140 u141 u142 u143 u144 u145 u146 u147 u148 u149 u150 u151 u152 u153 u154 u155 u156 u157:Value} (D':Nat) (Y:World) (bv:Value),w.heap.size≤D'→Y.heap[D']? =some (.deferred (some []))→RdX w Y b6 bv0 bv (bkA c.asid (blL σ.mem.mo c) B)→Q .normal ⟨(v0::v1::v2::v3::v4::(.pointer (some ⟨b5,0,none⟩))::(.pointer (some ⟨b6,0,none⟩))::v7::v8::v9::v10::v11::(.pointer (some ⟨b12,0,none⟩))::u13::u14::u15::u16::u17::v18::v19::v20::v21::v22::v23::v24::v25::v26::v27::v28::v29::v30::v31::v32::v33::v34::v35::v36::v37::v38::v39::v40::v41::v42::v43::v44::v45::v46::v47::v48::v49::v50::v51::v52::v53::v54::v55::v56::v57::v58::v59::v60::v61::v62::v63::v64::v65::v66::v67::v68::v69::v70::v71::v72::v73::v74::v75::v76::v77::v78::v79::v80::v81::v82::v83::v84::v85::v86::v87::v88::v89::v90::v91::v92::v93::v94::v95::v96::v97::v98::v99::u100::u101::u102::u103::u104::u105::u106::u107::u108::u109::u110::u111::u112::u113::u114::u115::u116::u117::u118::u119::u120::u121::u122::u123::u124::u125::u126::u127::u128::u129::u130::u131::u132::u133::u134::u135::u136::u137::u138::u139::u140::u141::u142::u143::u144::u145::u146::u147::u148::u149::u150::u151::u152::u153::u154::u155::u156::u157::v158::v159::v160::v161::v162::v163::v164::v165::v166::v167::v168::v169::v170::v171::v172::v173::v174::v175::v176::v177::v178::v179::v180::v181::v182::v183::v184::v185::v186::v187::v188::v189::v190::v191::v192::v193::v194::v195::v196::[]).toArray,mk D'::ds⟩ Y)) :
    (seD Tryz.f3).wp Tryz.prog Q ⟨(v0::v1::v2::v3::v4::(.pointer (some ⟨b5,0,none⟩))::(.pointer (some ⟨b6,0,none⟩))::v7::v8::v9::v10::v11::(.pointer (some ⟨b12,0,none⟩))::v13::v14::v15::v16::v17::v18::v19::v20::v21::v22::v23::v24::v25::v26::v27::v28::v29::v30::v31::v32::v33::v34::v35::v36::v37::v38::v39::v40::v41::v42::v43::v44::v45::v46::v47::v48::v49::v50::v51::v52::v53::v54::v55::v56::v57::v58::v59::v60::v61::v62::v63::v64::v65::v66::v67::v68::v69::v70::v71::v72::v73::v74::v75::v76::v77::v78::v79::v80::v81::v82::v83::v84::v85::v86::v87::v88::v89::v90::v91::v92::v93::v94::v95::v96::v97::v98::v99::v100::v101::v102::v103::v104::v105::v106::v107::v108::v109::v110::v111::v112::v113::v114::v115::v116::v117::v118::v119::v120::v121::v122::v123::v124::v125::v126::v127::v128::v129::v130::v131::v132::v133::v134::v135::v136::v137::v138::v139::v140::v141::v142::v143::v144::v145::v146::v147::v148::v149::v150::v151::v152::v153::v154::v155::v156::v157::v158::v159::v160::v161::v162::v163::v164::v165::v166::v167::v168::v169::v170::v171::v172::v173::v174::v175::v176::v177::v178::v179::v180::v181::v182::v183::v184::v185::v186::v187::v188::v189::v190::v191::v192::v193::v194::v195::v196::[]).toArray,ds⟩ w:=by
  have HX:=hidW hx
  have HG:=hidW hG
  have HR:=hidW h
  have H5:=hidW h5
  have H12:=hidW h12
  have HSm:=hidW hs
  have HT:Hid (∀ww,Turn (fun g=>g=b6∨bv0.ownBlock=some g) w ww→SgX G W0 ww x p kb jb wv iv f vp vw vc σ∧Bl ww b5 28 [.pointer (some ⟨x,0,none⟩)]∧Bl ww b12 47 ([.bool c.on,.bool c.tre,.bool c.afe,.int .i64 c.n,.bool c.pd0,.bool c.pd1,.int .u64 c.b0,.int .u64 c.b1,.int .u32 c.dacr,.int .u32 c.prrr,.int .u32 c.nmrr,.int .i64 c.asid])):=fun ww T =>
    ⟨hx.turnG hW T hG,h5.turn T (h.apart h5 (by decide) (by decide)),h12.turn T (h.apart h12 (by decide) (by decide))⟩
  have HC:Hid (∀ww,Turn (fun g=>g=b6∨bv0.ownBlock=some g) w ww→ww.cell? ⟨b5,0,none⟩=some (.pointer (some ⟨x,0,none⟩))∧ww.cell? ⟨x,4,none⟩=some (.pointer (some ⟨p,0,none⟩))∧ww.cell? ⟨x,5,none⟩=some iv∧ww.cell? ⟨b12,0,none⟩=some (.bool c.on)∧ww.cell? ⟨b12,1,none⟩=some (.bool c.tre)∧ww.cell? ⟨b12,2,none⟩=some (.bool c.afe)∧ww.cell? ⟨b12,3,none⟩=some (.int .i64 c.n)∧ww.cell? ⟨b12,4,none⟩=some (.bool c.pd0)∧ww.cell? ⟨b12,5,none⟩=some (.bool c.pd1)∧ww.cell? ⟨b12,6,none⟩=some (.int .u64 c.b0)∧ww.cell? ⟨b12,7,none⟩=some (.int .u64 c.b1)∧ww.cell? ⟨b12,8,none⟩=some (.int .u32 c.dacr)∧ww.cell? ⟨b12,9,none⟩=some (.int .u32 c.prrr)∧ww.cell? ⟨b12,10,none⟩=some (.int .u32 c.nmrr)∧ww.cell? ⟨b12,11,none⟩=some (.int .i64 c.asid)):=fun ww T=>by
    obtain ⟨q1,q2,q3⟩:=HT.out ww T
    exact ⟨q2.cell 0,q1.box.cell 4,q1.box.cell 5,q3.cell 0,q3.cell 1,q3.cell 2,q3.cell 3,q3.cell 4,q3.cell 5,q3.cell 6,q3.cell 7,q3.cell 8,q3.cell 9,q3.cell 10,q3.cell 11⟩
  have HJd:=hidW (jd_some hJ)
  have HJs:Hid ((σ.J c.asid).isSome=true):=by rw [hJ]; exact rfl
  have hS1:∀ww,Below w.heap.size w ww→ww.cell? ⟨b5,0,none⟩=some (.pointer (some ⟨x,0,none⟩))∧ww.cell? ⟨x,4,none⟩=some (.pointer (some ⟨p,0,none⟩))∧ww.cell? ⟨x,5,none⟩=some iv∧ww.cell? ⟨b12,0,none⟩=some (.bool c.on)∧ww.cell? ⟨b12,1,none⟩=some (.bool c.tre)∧ww.cell? ⟨b12,2,none⟩=some (.bool c.afe)∧ww.cell? ⟨b12,3,none⟩=some (.int .i64 c.n)∧ww.cell? ⟨b12,4,none⟩=some (.bool c.pd0)∧ww.cell? ⟨b12,5,none⟩=some (.bool c.pd1)∧ww.cell? ⟨b12,6,none⟩=some (.int .u64 c.b0)∧ww.cell? ⟨b12,7,none⟩=some (.int .u64 c.b1)∧ww.cell? ⟨b12,8,none⟩=some (.int .u32 c.dacr)∧ww.cell? ⟨b12,9,none⟩=some (.int .u32 c.prrr)∧ww.cell? ⟨b12,10,none⟩=some (.int .u32 c.nmrr)∧ww.cell? ⟨b12,11,none⟩=some (.int .i64 c.asid):=fun ww hb=>HC.out ww (Turn.below hb)
  have HDi:Hid (∀ww,Below w.heap.size w ww→Calls Tryz.prog 13 #[.pointer (some ⟨p,0,none⟩),iv] ww fun e w'=>∃v,e= .returned v∧LtG encD 74 w' ww.heap.size v (diL σ.mem.mo σ.K σ.J)∧Below ww.heap.size ww w'):=fun ww hb=>(HT.out ww (Turn.below hb)).1.tk.dirty hs.dirty
  clear hx hG h h5 h12 hs hJ
  conv=>arg 2; whnf
  go_wp2_with fail
  have HB1:=hidW (Below.refl w.heap.size w)
  have hs1:=HB1.out.size
  go_cut [13] from 100 to 108 (fun s1 wx=>∃b1,s1= .pointer (some ⟨b1,0,none⟩)∧Hid (GotD w wx b1 (diL σ.mem.mo σ.K σ.J)))
  case first =>
    go_region_held3 (fun w'=>w'.cell? ⟨b5,0,none⟩=some (.pointer (some ⟨x,0,none⟩))∧w'.cell? ⟨x,4,none⟩=some (.pointer (some ⟨p,0,none⟩))∧w'.cell? ⟨x,5,none⟩=some iv∧w'.cell? ⟨b12,0,none⟩=some (.bool c.on)∧w'.cell? ⟨b12,1,none⟩=some (.bool c.tre)∧w'.cell? ⟨b12,2,none⟩=some (.bool c.afe)∧w'.cell? ⟨b12,3,none⟩=some (.int .i64 c.n)∧w'.cell? ⟨b12,4,none⟩=some (.bool c.pd0)∧w'.cell? ⟨b12,5,none⟩=some (.bool c.pd1)∧w'.cell? ⟨b12,6,none⟩=some (.int .u64 c.b0)∧w'.cell? ⟨b12,7,none⟩=some (.int .u64 c.b1)∧w'.cell? ⟨b12,8,none⟩=some (.int .u32 c.dacr)∧w'.cell? ⟨b12,9,none⟩=some (.int .u32 c.prrr)∧w'.cell? ⟨b12,10,none⟩=some (.int .u32 c.nmrr)∧w'.cell? ⟨b12,11,none⟩=some (.int .i64 c.asid)) (exact hS1 _ (by ((repeat (first|(with_reducible refine Below.setCell ?_ (by first|exact Nat.le_refl _|(dsimp only; omega)) _)|(with_reducible refine Below.alloc ?_ (by first|omega|(simp; omega)|simp) _)|(with_reducible refine below_drew ?_))); (first|(with_reducible exact HB1.out)|(with_reducible exact Below.refl _ _))))) (first|(go_at_call 13; refine (HDi.out _ (by ((repeat (first|(with_reducible refine Below.setCell ?_ (by first|exact Nat.le_refl _|(dsimp only; omega)) _)|(with_reducible refine Below.alloc ?_ (by first|omega|(simp; omega)|simp) _)|(with_reducible refine below_drew ?_))); (first|(with_reducible exact HB1.out)|(with_reducible exact Below.refl _ _))))).mono ?_; rintro e w9 ⟨v,rfl,hL,hb⟩; obtain ⟨aD,cD,rfl⟩:=hL.form; (try (have hA:Bl w9 w.heap.size 48 [.slice none 0 0]:=(by first|(with_reducible exact Bl.below ((Bl.new w 48 [.slice none 0 0]).drew) hb)|(with_reducible exact Bl.below (Bl.new w 48 [.slice none 0 0]) hb)); have cA:=hA.cell; have gA:=hA.frozen; have lA:=hA.lt)); have HL9:=hidW hL; have HB9:=hidW hb; have HB2:Hid (Below w.heap.size w w9):=Below.step (by ((repeat (first|(with_reducible refine Below.setCell ?_ (by first|exact Nat.le_refl _|(dsimp only; omega)) _)|(with_reducible refine Below.alloc ?_ (by first|omega|(simp; omega)|simp) _)|(with_reducible refine below_drew ?_))); (first|(with_reducible exact HB1.out)|(with_reducible exact Below.refl _ _)))) hb; have HB1:=HB2; have hs1:=HB1.out.size; clear hb hL))
    all_goals
      go_wp2_with fail
      go_meet
      first
        | (with_reducible exact ⟨_,rfl,hidW (gd1 (by ((repeat (first|(with_reducible refine Below.setCell ?_ (by first|exact Nat.le_refl _|(dsimp only; omega)) _)|(with_reducible refine Below.alloc ?_ (by first|omega|(simp; omega)|simp) _)|(with_reducible refine below_drew ?_))); (first|(with_reducible exact Below.refl _ _)|(with_reducible exact Below.refl _ _)))) HL9.out HB9.out)⟩)
        | (exact ⟨_,rfl,hidW (gd2 (by ((repeat (first|(with_reducible refine Below.setCell ?_ (by first|exact Nat.le_refl _|(dsimp only; omega)) _)|(with_reducible refine Below.alloc ?_ (by first|omega|(simp; omega)|simp) _)|(with_reducible refine below_drew ?_))); (first|(with_reducible exact Below.refl _ _)|(with_reducible exact Below.refl _ _)))) (by simp) (Nat.le_refl _) hA HL9.out HB9.out)⟩)
  case rest =>
    obtain ⟨b13,rfl,HGD⟩:=hcut
    rename World=>w5
    obtain ⟨dv,hbox,hL⟩:=HGD.out.box
    have HB5:=hidW HGD.out.bel
    have H13:=hidW hbox
    have HL5:=hidW hL
    have hform:=(HX.out.mem).elim (fun S h=>h.1.mem.form)
    have hd5:=below_drew (Below.refl w5.heap.size w5)
    have HBl:=hidW (blocks_any iv hform c w5.drew)
    have hbB:Below w5.heap.size w5 ((w5.drew.alloc (.cells #[iv] 51)).alloc (.cells #[.bool c.on,.bool c.tre,.bool c.afe,.int .i64 c.n,.bool c.pd0,.bool c.pd1,.int .u64 c.b0,.int .u64 c.b1,.int .u32 c.dacr,.int .u32 c.prrr,.int .u32 c.nmrr,.int .i64 c.asid] 47)):=Below.step hd5 (Below.step (below_new _ _) (below_new _ _))
    have HJ0:=hidW (hS1 _ (Below.step HB5.out hd5))
    have HJ1:=hidW (hS1 _ (Below.step HB5.out hbB))
    have HBm:Hid (Bl ((w5.drew.alloc (.cells #[iv] 51)).alloc (.cells #[.bool c.on,.bool c.tre,.bool c.afe,.int .i64 c.n,.bool c.pd0,.bool c.pd1,.int .u64 c.b0,.int .u64 c.b1,.int .u32 c.dacr,.int .u32 c.prrr,.int .u32 c.nmrr,.int .i64 c.asid] 47)) w5.heap.size 51 [iv]):=(Bl.new w5.drew 51 [iv]).below (below_new _ _)
    have HBc:Hid (Bl ((w5.drew.alloc (.cells #[iv] 51)).alloc (.cells #[.bool c.on,.bool c.tre,.bool c.afe,.int .i64 c.n,.bool c.pd0,.bool c.pd1,.int .u64 c.b0,.int .u64 c.b1,.int .u32 c.dacr,.int .u32 c.prrr,.int .u32 c.nmrr,.int .i64 c.asid] 47)) (w5.heap.size+1) 47 ([.bool c.on,.bool c.tre,.bool c.afe,.int .i64 c.n,.bool c.pd0,.bool c.pd1,.int .u64 c.b0,.int .u64 c.b1,.int .u32 c.dacr,.int .u32 c.prrr,.int .u32 c.nmrr,.int .i64 c.asid])):=Bl.new1 _ _ _ _
    have HBB:=hidW hbB
    clear hbox hL HGD hd5 hbB HDi
    go_wp2_with fail
    refine wp_region_held_drew (S:=fun ww=>ww.cell? ⟨b5,0,none⟩=some (.pointer (some ⟨x,0,none⟩))∧ww.cell? ⟨x,4,none⟩=some (.pointer (some ⟨p,0,none⟩))∧ww.cell? ⟨x,5,none⟩=some iv∧ww.cell? ⟨b12,0,none⟩=some (.bool c.on)∧ww.cell? ⟨b12,1,none⟩=some (.bool c.tre)∧ww.cell? ⟨b12,2,none⟩=some (.bool c.afe)∧ww.cell? ⟨b12,3,none⟩=some (.int .i64 c.n)∧ww.cell? ⟨b12,4,none⟩=some (.bool c.pd0)∧ww.cell? ⟨b12,5,none⟩=some (.bool c.pd1)∧ww.cell? ⟨b12,6,none⟩=some (.int .u64 c.b0)∧ww.cell? ⟨b12,7,none⟩=some (.int .u64 c.b1)∧ww.cell? ⟨b12,8,none⟩=some (.int .u32 c.dacr)∧ww.cell? ⟨b12,9,none⟩=some (.int .u32 c.prrr)∧ww.cell? ⟨b12,10,none⟩=some (.int .u32 c.nmrr)∧ww.cell? ⟨b12,11,none⟩=some (.int .i64 c.asid)) (by kernel_rfl) ?_ (fun hHeld=> ?_)
    · exact HJ0.out
    refine wpAnyH_take (i:=0) (oi:=⟨some 109,.load 28 (.tmp 5),28,_,#[],none⟩) (v:=?_) rfl (by kernel_rfl) (by kernel_rfl) (by kernel_rfl) (fun _ _ _ h=>hpan h) (Or.inl ⟨by rfl,?_⟩) (by assumption) ?_
    rotate_left
    · (intro w hSw; (try dsimp only at hSw); go_simp; try with_reducible rfl)
    simp only [Act.put,List.setIfInBounds_toArray,List.set_cons_zero,List.set_cons_succ]
    refine wpAnyH_take (i:=1) (oi:=⟨some 110,.nilCheck (.tmp 109),0,_,#[⟨0,.data⟩],none⟩) (v:=?_) rfl (by kernel_rfl) (by kernel_rfl) (by kernel_rfl) (fun _ _ _ h=>hpan h) (Or.inl ⟨by rfl,?_⟩) (by assumption) ?_
    rotate_left
    · (intro w hSw; (try dsimp only at hSw); go_simp; try with_reducible rfl)
    simp only [Act.put,List.setIfInBounds_toArray,List.set_cons_zero,List.set_cons_succ]
    refine wpAnyH_take (i:=2) (oi:=⟨some 111,.fieldAddr 54 (.tmp 110) 2,0,_,#[⟨1,.data⟩],none⟩) (v:=?_) rfl (by kernel_rfl) (by kernel_rfl) (by kernel_rfl) (fun _ _ _ h=>hpan h) (Or.inl ⟨by rfl,?_⟩) (by assumption) ?_
    rotate_left
    · (intro w hSw; (try dsimp only at hSw); go_simp; try with_reducible rfl)
    simp only [Act.put,List.setIfInBounds_toArray,List.set_cons_zero,List.set_cons_succ]
    refine wpAnyH_take (i:=3) (oi:=⟨some 112,.load 51 (.tmp 111),51,_,#[⟨2,.data⟩],none⟩) (v:=?_) rfl (by kernel_rfl) (by kernel_rfl) (by kernel_rfl) (fun _ _ _ h=>hpan h) (Or.inl ⟨by rfl,?_⟩) (by assumption) ?_
    rotate_left
    · (intro w hSw; (try dsimp only at hSw); go_simp; try with_reducible rfl)
    simp only [Act.put,List.setIfInBounds_toArray,List.set_cons_zero,List.set_cons_succ]
    refine wpAnyH_take (i:=4) (oi:=⟨some 113,.load 47 (.tmp 12),47,_,#[],none⟩) (v:=?_) rfl (by kernel_rfl) (by kernel_rfl) (by kernel_rfl) (fun _ _ _ h=>hpan h) (Or.inl ⟨by rfl,?_⟩) (by assumption) ?_
    rotate_left
    · (intro w hSw; (try dsimp only at hSw); go_simp; try with_reducible rfl)
    simp only [Act.put,List.setIfInBounds_toArray,List.set_cons_zero,List.set_cons_succ]
    refine wpAnyH_ready (rs:=[5]) (by kernel_rfl) (by simp) ?_
    refine AllReadyH.cons (o:=⟨some 114,.call ⟨.value (.func 14),#[.tmp 112,.tmp 113],#[51,47]⟩,57,_,#[⟨3,.data⟩,⟨4,.data⟩],none⟩) rfl (fun K hK=> ?_) AllReadyH.nil
    go_simp
    (go_at_call 14; refine HBl.out.mono ?_; rintro e wB ⟨rfl,rfl⟩)
    refine hK.out _ _ ?_ (fun hHeld=> ?_)
    · ((try dsimp only); with_reducible exact HJ1.out)
    clear hK K
    try simp only [Act.put,List.setIfInBounds_toArray,List.set_cons_zero,List.set_cons_succ]
    refine wpAnyH_done (by kernel_rfl) ?_ _
    generalize hwB:(w5.drew.alloc (.cells #[iv] 51)).alloc (.cells #[.bool c.on,.bool c.tre,.bool c.afe,.int .i64 c.n,.bool c.pd0,.bool c.pd1,.int .u64 c.b0,.int .u64 c.b1,.int .u32 c.dacr,.int .u32 c.prrr,.int .u32 c.nmrr,.int .i64 c.asid] 47)=wB at *
    clear hwB HJ0 HJ1 HBl hHeld hform
    have HBw:=hidW (Below.step HB5.out HBB.out)
    have HRB:=hidW (HR.out.below HBw.out)
    obtain ⟨hsB,h5B,h12B⟩:=HT.out wB (Turn.below HBw.out)
    obtain ⟨S,m1,m2⟩:=hsB.mem
    have HM1:=hidW m1
    have HM2:=hidW m2
    have HsB:=hidW hsB
    have H5B:=hidW h5B
    have H12B:=hidW h12B
    clear hsB h5B h12B m1 m2
    go_wp2_with fail
    refine seen_range ds wB b5 b6 b12 b13 (w5.heap.size+1) w5.heap.size x bv0 B [.int .i64 f,vp,vw,vc,.pointer (some ⟨p,0,none⟩),iv,wv] iv c dv w.heap.size (diL σ.mem.mo σ.K σ.J) (fun b=>S b∧solid wB b) σ.mem.mo HRB.out.self H5B.out HsB.out.box rfl H12B.out (H13.out.below HBB.out) (HL5.out.below HBB.out) HBc.out HBm.out hlB (by have:=HSm.out.dirty; omega) (hidW fun ww T=> ?_) ?_ hc hFz hDs (hidW ?_)
    · have hT:Turn (fun g=>g=b6∨bv0.ownBlock=some g) w ww:=(Turn.below (S:=(fun g=>g=b6∨bv0.ownBlock=some g)) HBw.out).trans T (fun g hg=> .inl hg)
      exact ⟨HM1.out.mem.tight.keep T (fun b hb hx=>(HM2.out b hb.1).2.2.2.2.2 (HG.out b hx).1),(HT.out ww hT).1.ts⟩
    · rintro b (hb|hb)
      · refine ⟨hb.2,fun e=>(HM2.out b hb.1).2.2.2.2.2 (HG.out b (.inl e)).1,fun e=>(HM2.out b hb.1).2.2.2.2.2 (HG.out b (.inr e)).1⟩
      · have hlo:=hW.tw.low hb
        refine ⟨HsB.out.ts.tw.solid hb,fun e=> ?_,fun e=> ?_⟩
        · have:=(HG.out b (.inl e)).2.2.2; omega
        · have:=(HG.out b (.inr e)).2.2.2; omega
    · intro D' Y bv hD' hK hR
      have HRY:=hidW (HRB.out.base hR)
      have HKY:=hidW hK
      have HDY:Hid (w.heap.size≤D'):=Nat.le_trans HBw.out.size hD'
      have hTY:Turn (fun g=>g=b6∨bv0.ownBlock=some g) w Y:=HRY.out.T
      have hS3:∀ww,Below Y.heap.size Y ww→ww.cell? ⟨b5,0,none⟩=some (.pointer (some ⟨x,0,none⟩))∧ww.cell? ⟨x,4,none⟩=some (.pointer (some ⟨p,0,none⟩))∧ww.cell? ⟨x,5,none⟩=some iv∧ww.cell? ⟨b12,0,none⟩=some (.bool c.on)∧ww.cell? ⟨b12,1,none⟩=some (.bool c.tre)∧ww.cell? ⟨b12,2,none⟩=some (.bool c.afe)∧ww.cell? ⟨b12,3,none⟩=some (.int .i64 c.n)∧ww.cell? ⟨b12,4,none⟩=some (.bool c.pd0)∧ww.cell? ⟨b12,5,none⟩=some (.bool c.pd1)∧ww.cell? ⟨b12,6,none⟩=some (.int .u64 c.b0)∧ww.cell? ⟨b12,7,none⟩=some (.int .u64 c.b1)∧ww.cell? ⟨b12,8,none⟩=some (.int .u32 c.dacr)∧ww.cell? ⟨b12,9,none⟩=some (.int .u32 c.prrr)∧ww.cell? ⟨b12,10,none⟩=some (.int .u32 c.nmrr)∧ww.cell? ⟨b12,11,none⟩=some (.int .i64 c.asid):=fun ww hb=>HC.out ww (hTY.trans (S':=(fun g=>g=b6∨bv0.ownBlock=some g)) (Turn.below hb) (fun g hg=> .inl hg))
      have HJu:Hid (∀ww,Below Y.heap.size Y ww→Calls Tryz.prog 19 #[.pointer (some ⟨p,0,none⟩),.int .i64 c.asid] ww fun e w'=>e= .returned (.tuple #[.agg #[.bool c.on,.bool c.tre,.bool c.afe,.int .i64 c.n,.bool c.pd0,.bool c.pd1,.int .u64 c.b0,.int .u64 c.b1,.int .u32 c.dacr,.int .u32 c.prrr,.int .u32 c.nmrr,.int .i64 c.asid],.bool true])∧Below ww.heap.size ww w'):=fun ww hb=>by
        have:=(HT.out ww (hTY.trans (S':=(fun g=>g=b6∨bv0.ownBlock=some g)) (Turn.below hb) (fun g hg=> .inl hg))).1.tk.judge c.asid (by omega)
        rw [HJd.out,HJs.out] at this
        exact this
      have HqC:=hidW (fun ww (hb:Below Y.heap.size Y ww)=>(HT.out ww (hTY.trans (S':=(fun g=>g=b6∨bv0.ownBlock=some g)) (Turn.below hb) (fun g hg=> .inl hg))).2.2.cell)
      clear hD' hK hR hTY
      go_wp2_with fail
      have HB1:=hidW (Below.refl Y.heap.size Y)
      have hs1:=HB1.out.size
      go_cut [16,17] from 141 to 150 (fun s1 s2 wx=>∃b1,s1= .pointer (some ⟨b1,0,none⟩)∧s2= .bool true∧Hid (Got1 Y wx b1 47 ([.bool c.on,.bool c.tre,.bool c.afe,.int .i64 c.n,.bool c.pd0,.bool c.pd1,.int .u64 c.b0,.int .u64 c.b1,.int .u32 c.dacr,.int .u32 c.prrr,.int .u32 c.nmrr,.int .i64 c.asid])))
      case first =>
        go_region_held3 (fun w'=>w'.cell? ⟨b5,0,none⟩=some (.pointer (some ⟨x,0,none⟩))∧w'.cell? ⟨x,4,none⟩=some (.pointer (some ⟨p,0,none⟩))∧w'.cell? ⟨x,5,none⟩=some iv∧w'.cell? ⟨b12,0,none⟩=some (.bool c.on)∧w'.cell? ⟨b12,1,none⟩=some (.bool c.tre)∧w'.cell? ⟨b12,2,none⟩=some (.bool c.afe)∧w'.cell? ⟨b12,3,none⟩=some (.int .i64 c.n)∧w'.cell? ⟨b12,4,none⟩=some (.bool c.pd0)∧w'.cell? ⟨b12,5,none⟩=some (.bool c.pd1)∧w'.cell? ⟨b12,6,none⟩=some (.int .u64 c.b0)∧w'.cell? ⟨b12,7,none⟩=some (.int .u64 c.b1)∧w'.cell? ⟨b12,8,none⟩=some (.int .u32 c.dacr)∧w'.cell? ⟨b12,9,none⟩=some (.int .u32 c.prrr)∧w'.cell? ⟨b12,10,none⟩=some (.int .u32 c.nmrr)∧w'.cell? ⟨b12,11,none⟩=some (.int .i64 c.asid)) (exact hS3 _ (by ((repeat (first|(with_reducible refine Below.setCell ?_ (by first|exact Nat.le_refl _|(dsimp only; omega)) _)|(with_reducible refine Below.alloc ?_ (by first|omega|(simp; omega)|simp) _)|(with_reducible refine below_drew ?_))); (first|(with_reducible exact HB1.out)|(with_reducible exact Below.refl _ _))))) (first|(go_at_call 19; refine (HJu.out _ (by ((repeat (first|(with_reducible refine Below.setCell ?_ (by first|exact Nat.le_refl _|(dsimp only; omega)) _)|(with_reducible refine Below.alloc ?_ (by first|omega|(simp; omega)|simp) _)|(with_reducible refine below_drew ?_))); (first|(with_reducible exact HB1.out)|(with_reducible exact Below.refl _ _))))).mono ?_; rintro e w9 ⟨rfl,hb⟩; (try (have hA:Bl w9 (Y.heap.size) 47 zC:=(by first|(with_reducible exact Bl.below ((Bl.new Y 47 zC).drew) hb)|(with_reducible exact Bl.below (Bl.new Y 47 zC) hb)); have cA:=hA.cell; have gA:=hA.frozen; have lA:=hA.lt)); have HB2:Hid (Below Y.heap.size Y w9):=Below.step (by ((repeat (first|(with_reducible refine Below.setCell ?_ (by first|exact Nat.le_refl _|(dsimp only; omega)) _)|(with_reducible refine Below.alloc ?_ (by first|omega|(simp; omega)|simp) _)|(with_reducible refine below_drew ?_))); (first|(with_reducible exact HB1.out)|(with_reducible exact Below.refl _ _)))) hb; have HB1:=HB2; have hs1:=HB1.out.size; clear hb))
        all_goals
          go_wp2_with fail
          go_meet
          first
            | (with_reducible exact ⟨_,rfl,rfl,hidW (gb1 HB1.out _ _)⟩)
            | (with_reducible exact ⟨_,rfl,rfl,hidW (gbC HB1.out _ _ (Nat.le_refl _) hA)⟩)
      case rest =>
        obtain ⟨b16,rfl,rfl,HG16⟩:=hcut
        have q16:=HG16.out.B.cell
        have q12:=HqC.out _ HG16.out.bel
        have qeq:=eqC c
        have HRZ:=hidW (HRY.out.below HG16.out.bel)
        have HKZ:=hidW ((HG16.out.bel.block D' (Array.getElem?_eq_some_iff.1 HKY.out).1).trans HKY.out)
        clear hS3 HJu HG16
        go_wp2
        exact HQ.out D' _ bv HDY.out HKZ.out HRZ.out
end Go.Proofs.YtnjlajjjcmhfgaaGreatDoor
