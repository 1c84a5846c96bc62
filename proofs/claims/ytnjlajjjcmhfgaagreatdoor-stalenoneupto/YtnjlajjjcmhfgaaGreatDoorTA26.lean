import Derived.Test.YtnjlajjjcmhfgaaGreatDoorTA24
import Derived.Test.YtnjlajjjcmhfgaaGreatDoorTA25
import Derived.Shelf.Abstract
import Derived.Shelf.RegionOpen
import Derived.WalkKit
import Derived.OwnWalkIn
import Derived.TacticsInMore
import Derived.LoopNIn
import Derived.LoopIn
import Derived.ControlIn
import Derived.OrdersIn
import Derived.Deep.RegionHeld3
namespace Go.Proofs.YtnjlajjjcmhfgaaGreatDoor
open Go.RowKit Go.Shelf
open Mm (Turn gr RowAt)
set_option linter.unusedVariables false
set_option linter.unusedSimpArgs false
attribute [local go_sem] Oper.semAt_some
theorem below_grown {W W':World} (hb:Below W.heap.size W W'):W.grownBy W' none:=⟨hb.os,hb.tape,hb.output,hb.size,fun k hk _=>hb.block k hk⟩
theorem blT_pre (M:Mo) (c:Ctx) (s n:Nat) (h:s≤n):blT M c s <+: blT M c n:=by
  induction n with
  | zero=>rw [show s=0 by omega]; exact List.prefix_refl _
  | succ n ih =>
    rcases (show s≤n∨s=n+1 by omega) with h|rfl
    · rw [blT_succ]
      exact (ih h).trans (List.prefix_append _ _)
    · exact List.prefix_refl _
theorem bl_next {M:Mo} {c:Ctx} (hon:c.on=true) {s k:Nat} (hs:s<256) (L:List Tra) (hL:wiL M c ((s:Int)*16777216)=L):blT M c s++L.take k <+: blL M c:=by
  have h1:blT M c s++L.take k <+: blT M c (s+1):=by
    rw [blT_succ,hL]
    exact (List.prefix_append_right_inj _).2 (List.take_prefix _ _)
  have h2:blL M c=blT M c 256:=by unfold blL; rw [if_pos hon]
  rw [h2]
  exact h1.trans (blT_pre M c (s+1) 256 (by omega))
set_option maxRecDepth 100000 in
set_option maxHeartbeats 4000000 in
theorem blocks_off (n l bc bm:Nat) (X S:Nat→Prop) (iv:Value) (M:Mo) (c:Ctx) (J:List Tra→World→Prop) (W:World) (hI:It X S iv M c bc bm W) (hon:c.on=false) (h0:J [] W) :
    CallsIn Fence.wide n Tryz.prog 49 #[.func (.yield l) #[] #[],.pointer (some ⟨bc,0,none⟩),.pointer (some ⟨bm,0,none⟩)] W fun e W'=>(∃v,e= .returned v)∧J [] W':=by
  refine callsIn_of_wp Tryz.func49 rfl trivial ?_ rfl
  simp only [Tryz.ntmps49,List.size_toArray,List.length_cons,List.length_nil,Nat.reduceAdd,Nat.reduceSub,Array.replicate_succ,Array.replicate_zero,List.push_toArray,List.append_toArray,List.nil_append,List.cons_append]
  have c0:W.cell? ⟨bc,0,none⟩=some (.bool false):=by rw [hI.hbc.cell 0,hon]; rfl
  clear hI
  gi_wp2
  refine bodyPost_ret (results_none rfl _ _ _) rfl ?_
  exact ⟨⟨_,rfl⟩,h0⟩
set_option maxRecDepth 100000 in
set_option maxHeartbeats 4000000 in
theorem blocks_on (n l bc bm:Nat) (X S:Nat→Prop) (iv:Value) (M:Mo) (c:Ctx) (J Jx:List Tra→World→Prop) (W:World)
    (hY:∀pre x W1,J pre W1→pre++[x] <+: blL M c→YieldAt Fence.wide (n-1) Tryz.prog l #[.agg #[.int .i64 x.size,.int .u32 x.va,.int .u64 x.pa,.int .i64 x.dom,.int .i64 x.ap,.int .u32 x.bits,.bool x.ng,.bool x.xn]] W1 fun e W' =>
      (e= .returned (.bool true)∧J (pre++[x]) W'∧KpX X W1 W')∨(e= .returned (.bool false)∧Jx (pre++[x]) W'))
    (hJ:AbidesFrom W.heap.size J) (hI:It X S iv M c bc bm W) (hX:∀b,X b→b<W.heap.size) (hon:c.on=true) (hc:c.Ok) (h0:J [] W) :
    CallsIn Fence.wide n Tryz.prog 49 #[.func (.yield l) #[] #[],.pointer (some ⟨bc,0,none⟩),.pointer (some ⟨bm,0,none⟩)] W fun e W'=>(∃v,e= .returned v)∧
      ((∃ys,ys=blL M c∧J ys W')∨(∃pre,pre <+: blL M c∧Jx pre W')):=by
  refine callsIn_of_wp Tryz.func49 rfl trivial ?_ rfl
  simp only [Tryz.ntmps49,List.size_toArray,List.length_cons,List.length_nil,Nat.reduceAdd,Nat.reduceSub,Array.replicate_succ,Array.replicate_zero,List.push_toArray,List.append_toArray,List.nil_append,List.cons_append]
  have c0:W.cell? ⟨bc,0,none⟩=some (.bool true):=by rw [hI.hbc.cell 0,hon]; rfl
  have HY:=hidW hY
  have HJ:=hidW hJ
  have HON:=hidW hon
  have HX:=hidW hX
  have HS:Hid (J (blT M c 0) W∧It X S iv M c bc bm W∧W.heap.size≤W.heap.size):=hidW ⟨h0,hI,Nat.le_refl _⟩
  clear hI hY hJ hon hX h0
  gi_wp2
  gi_loopw [10] (fun i wr=>∃s:Nat,s≤256∧i= .int .u32 s∧Hid (J (blT M c s) wr∧It X S iv M c bc bm wr∧W.heap.size≤wr.heap.size)) (fun i _=>256-(intOf i).toNat)
  case atStart=>exact ⟨0,Nat.zero_le _,rfl,HS⟩
  case round =>
    obtain ⟨s,hs,rfl,HS1⟩:=hrel
    clear HS c0
    by_cases hlt:s<256
    · obtain ⟨hJs,hIs,hsz⟩:=HS1.out
      have HW:=hidW (within_any hIs.mem hIs.tab c ((s:Int)*16777216) hc (by omega) (by omega))
      have HB:=hidW (fun k=>bl_next (M:=M) (c:=c) HON.out (s:=s) (k:=k) hlt _ rfl)
      have HZ:=hidW (blT_succ M c s)
      have hwl:=wiL_len M c ((s:Int)*16777216)
      have c1:=hIs.hbc.cell
      have c2:wr.cell? ⟨bm,0,none⟩=some iv:=hIs.hbm.cell 0
      generalize wiL M c ((s:Int)*16777216)=L at *
      have HJs:=hidW hJs
      have HIs:=hidW hIs
      clear hJs hIs HS1
      gi_wp2_with fail
      refine ⟨trivial,fun h=>by simp [Fence.wide] at h,(callsIn_wide.2 HW.out).mono ?_⟩
      rintro e w2 ⟨v,rfl,⟨a,cap,rfl,hLt⟩,hb⟩
      have hsz2:=hb.size
      have HS2:Hid (J (blT M c s++L.take 0) w2∧It X S iv M c bc bm w2∧W.heap.size≤w2.heap.size∧(L=[]∨∃g rest,a=some ⟨g,0,none⟩∧¬X g∧RowAt w2 g 43 (rowT L++rest))):=by
        refine hidW ⟨?_,HIs.out.below hb,by omega,?_⟩
        · rw [List.take_zero,List.append_nil]
          exact HJ.out _ wr w2 none HJs.out (below_grown hb) (fun r e=>by cases e)
        · rcases hLt with h|⟨g,rest,h1,h2,h3⟩
          · exact .inl h
          · exact .inr ⟨g,rest,h1,fun h=>by have:=HX.out g h; omega,h3⟩
      clear hLt hb HW HJs HIs c1 c2
      gi_wp2
      gi_loopw [19] (fun i wq=>∃k:Nat,k≤L.length∧i= .int .i64 k∧Hid (J (blT M c s++L.take k) wq∧It X S iv M c bc bm wq∧W.heap.size≤wq.heap.size∧(L=[]∨∃g rest,a=some ⟨g,0,none⟩∧¬X g∧RowAt wq g 43 (rowT L++rest)))) (fun i _=>L.length-(intOf i).toNat)
      case atStart=>exact ⟨0,Nat.zero_le _,rfl,HS2⟩
      case round =>
        obtain ⟨k,hk,rfl,HS3⟩:=hrel
        clear HS2
        by_cases hlt2:k<L.length
        · obtain ⟨x,hx⟩:∃x,L[k]? =some x:=⟨_,List.getElem?_eq_getElem hlt2⟩
          obtain ⟨hJ3,hI3,hz3,hL3⟩:=HS3.out
          rcases hL3 with h|⟨g,rest,rfl,hXg,hrow⟩
          · rw [h] at hlt2; simp at hlt2
          · obtain ⟨x0,x1,x2,x3,x4,x5,x6,x7⟩:=rowT_cells hrow hx
            have hby:Below wr.heap.size wr (wr.alloc (.cells #[.int .i64 x.size,.int .u32 x.va,.int .u64 x.pa,.int .i64 x.dom,.int .i64 x.ap,.int .u32 x.bits,.bool x.ng,.bool x.xn] 43)):=below_new _ _
            have hTk:L.take (k+1)=L.take k++[x]:=by rw [List.take_add_one,hx]; rfl
            have hJy:=HJ.out _ wr _ none hJ3 (below_grown hby) (fun r e=>by cases e)
            have hpl:(blT M c s++L.take k)++[x] <+: blL M c:=by
              have h1:=HB.out (k+1)
              rwa [hTk,←List.append_assoc] at h1
            have HPL:=hidW hpl
            obtain ⟨fn,tmps,assign,body,hy,hR⟩:=HY.out _ x _ hJy hpl
            have HIy:=hidW (hI3.below hby)
            have HRy:Hid (RowAt (wr.alloc (.cells #[.int .i64 x.size,.int .u32 x.va,.int .u64 x.pa,.int .i64 x.dom,.int .i64 x.ap,.int .u32 x.bits,.bool x.ng,.bool x.xn] 43)) g 43 (rowT L++rest)):=hidW ((hby.block g hrow.lt).trans hrow)
            have HTk:=hidW hTk
            have HXg:=hidW hXg
            have hszy:=hby.size
            have hkz:(k:Int)<(L.length:Int):=by omega
            have hk0:(0:Int)≤k:=by omega
            clear hJ3 hI3 hrow hx HS3 hJy hpl hTk hXg hby
            gi_wp2
            refine ⟨fun h=>by simp [Fence.wide] at h,hR.mono ?_⟩
            rintro e W3 (⟨rfl,hJ3,hk3⟩|⟨rfl,hJx3⟩)
            · have hs3:=Turn.size hk3
              have HS5:Hid (J (blT M c s++L.take (k+1)) W3∧It X S iv M c bc bm W3∧W.heap.size≤W3.heap.size∧(L=[]∨∃g' rest,(some ⟨g,0,none⟩:Option Addr)=some ⟨g',0,none⟩∧¬X g'∧RowAt W3 g' 43 (rowT L++rest))):=by
                refine hidW ⟨?_,HIy.out.kept hk3,by omega,.inr ⟨g,rest,rfl,HXg.out,row_kept HRy.out HXg.out hk3⟩⟩
                rw [HTk.out,←List.append_assoc]
                exact hJ3
              clear hR hJ3 hk3 HIy HRy
              gi_wp2
              go_roundw
              case rel=>exact ⟨k+1,by omega,by go_num,HS5⟩
              case measure=>simp [intOf]; omega
            · clear hR
              gi_wp2
              refine bodyPost_ret (results_none rfl _ _ _) rfl ?_
              exact ⟨⟨_,rfl⟩,.inr ⟨_,HPL.out,hJx3⟩⟩
        · obtain rfl:k=L.length:=by omega
          have HS4:Hid (J (blT M c (s+1)) wr∧It X S iv M c bc bm wr∧W.heap.size≤wr.heap.size):=by
            obtain ⟨hJ3,hI3,hz3,hL3⟩:=HS3.out
            rw [List.take_length,←HZ.out] at hJ3
            exact hidW ⟨hJ3,hI3,hz3⟩
          clear HS3
          gi_wp2
          go_roundw
          case rel=>exact ⟨s+1,by omega,by go_num,HS4⟩
          case measure=>simp [intOf]; omega
    · obtain rfl:s=256:=by omega
      gi_wp2
      go_end0
      refine ⟨⟨_,rfl⟩,.inl ⟨_,rfl,?_⟩⟩
      have h2:blL M c=blT M c 256:=by unfold blL; rw [if_pos HON.out]
      rw [h2]
      exact HS1.out.1
theorem blocks_stops (n bc bm:Nat) (X S:Nat→Prop) (iv:Value) (M:Mo) (c:Ctx) (w:World) (hI:It X S iv M c bc bm w) (hX:∀b,X b→b<w.heap.size) (hc:c.Ok) :
    SeqStopsK Fence.wide n Tryz.prog 49 #[.pointer (some ⟨bc,0,none⟩),.pointer (some ⟨bm,0,none⟩)] (fun x:{ x:Tra // x∈blL M c }=>#[.agg #[.int .i64 (x.1).size,.int .u32 (x.1).va,.int .u64 (x.1).pa,.int .i64 (x.1).dom,.int .i64 (x.1).ap,.int .u32 (x.1).bits,.bool (x.1).ng,.bool (x.1).xn]]) (KpX X) (fun ys=>ys.map (·.1)=blL M c) (fun pre=>pre.map (·.1) <+: blL M c) (blL M c).length w:=by
  intro l J Jx W hW hJ hJx hY h0
  have hIW:=hI.below hW
  have hXW:∀b,X b→b<W.heap.size:=fun b hb=>Nat.lt_of_lt_of_le (hX b hb) hW.size
  show CallsIn Fence.wide n Tryz.prog 49 #[.func (.yield l) #[] #[],.pointer (some ⟨bc,0,none⟩),.pointer (some ⟨bm,0,none⟩)] W _
  cases hon:c.on with
  | false =>
    refine (blocks_off n l bc bm X S iv M c (fun pre W=>∃q:List { x:Tra // x∈blL M c },q.map (·.1)=pre∧J q W) W hIW hon ⟨[],rfl,h0⟩).mono ?_
    rintro e W' ⟨he,q,hq,hj⟩
    exact ⟨he,.inl ⟨q,hq.trans (by unfold blL; rw [hon]; rfl),hj⟩⟩
  | true =>
    refine (blocks_on n l bc bm X S iv M c (fun pre W=>∃q:List { x:Tra // x∈blL M c },q.map (·.1)=pre∧J q W) (fun pre W=>∃q:List { x:Tra // x∈blL M c },q.map (·.1)=pre∧Jx q W) W ?_ ?_ hIW hXW hon hc ⟨[],rfl,h0⟩).mono ?_
    · rintro pre x W1 ⟨q,rfl,hj⟩ hp
      have hx:x∈blL M c:=hp.subset (List.mem_append_right _ (.head _))
      have hl:q.length<(blL M c).length:=by
        have:=hp.length_le
        rw [List.length_append,List.length_map] at this
        simp at this
        omega
      obtain ⟨fn,tmps,assign,body,hy,hR⟩:=hY q ⟨x,hx⟩ W1 hj hl
      refine ⟨fn,tmps,assign,body,hy,hR.mono ?_⟩
      rintro e W' (⟨rfl,h1,h2⟩|⟨rfl,h1⟩)
      · exact .inl ⟨rfl,⟨_,by simp,h1⟩,h2⟩
      · exact .inr ⟨rfl,_,by simp,h1⟩
    · rintro s A B row ⟨q,hq,hj⟩ hg hr
      exact ⟨q,hq,hJ q A B row hj hg hr⟩
    · rintro e W' ⟨he,⟨ys,rfl,q,hq,hj⟩|⟨pre,hp,q,rfl,hj⟩⟩
      · exact ⟨he,.inl ⟨q,hq,hj⟩⟩
      · exact ⟨he,.inr ⟨q,hp,hj⟩⟩
set_option maxHeartbeats 1000000 in
theorem blocks_any (iv:Value) (hiv:(∃T u,iv= .iface T u)∨iv= .nilIface) (c:Ctx) (w:World) :
    Calls Tryz.prog 14 #[iv,.agg #[.bool c.on,.bool c.tre,.bool c.afe,.int .i64 c.n,.bool c.pd0,.bool c.pd1,.int .u64 c.b0,.int .u64 c.b1,.int .u32 c.dacr,.int .u32 c.prrr,.int .u32 c.nmrr,.int .i64 c.asid]] w fun e w'=>e= .returned (.func (.func 49) #[] #[.pointer (some ⟨w.heap.size+1,0,none⟩),.pointer (some ⟨w.heap.size,0,none⟩)])∧w'=(w.alloc (.cells #[iv] 51)).alloc (.cells #[.bool c.on,.bool c.tre,.bool c.afe,.int .i64 c.n,.bool c.pd0,.bool c.pd1,.int .u64 c.b0,.int .u64 c.b1,.int .u32 c.dacr,.int .u32 c.prrr,.int .u32 c.nmrr,.int .i64 c.asid] 47):=by
  have hmf:∀(fn:Fn) (first cap:Array Value) (w:World),(Instr.makeFunc fn first cap).run Tryz.prog w= .ok (.func fn first cap) w:=fun _ _ _ _=>rfl
  rcases hiv with ⟨T,u,rfl⟩|rfl
  all_goals
    go_enter Tryz.func14,Tryz.ntmps14
    go_wp2
    go_ret
    exact ⟨rfl,rfl⟩
theorem MemP.form {w:World} {S:Nat→Prop} {iv:Value} {M:Mo} (h:MemP w S iv M):(∃T u,iv= .iface T u)∨iv= .nilIface:=by
  rcases h with h|⟨rfl,_⟩
  · first
      | exact h.elim
      | (obtain ⟨p,N,m,rfl,_⟩:=h; exact .inl ⟨_,_,rfl⟩)
  · exact .inr rfl
end Go.Proofs.YtnjlajjjcmhfgaaGreatDoor
namespace Go.Proofs.YtnjlajjjcmhfgaaGreatDoor
open Go.RowKit Go.Shelf
open Mm (Turn gr RowAt)
set_option linter.unusedVariables false
set_option linter.unusedSimpArgs false
attribute [local go_sem] Oper.semAt_some
def sq2:Code→Code
  | .seq _ y=>y
  | c=>c
def sq1:Code→Code
  | .seq x _=>x
  | c=>c
def blkC:Code→Code
  | .block _ c=>c
  | c=>c
def lpC:Code→Code
  | .loop c=>c
  | c=>c
theorem rows_in {n l:Nat} {P:Program} {row:String} {args:Array Value} {w:World} {R:Value→World→Prop} (h:Rows P row args w R):RowsIn (Fence.wide.inRound l) n P row args w R :=
  fun c cs _=>let ⟨v,w',r,s⟩:=h c cs; ⟨v,w',r,stepsIn_wide.2 s⟩
theorem oper_in {n l:Nat} {P:Program} {o:Oper} {a:Act} {w:World} {K K':Act→World→Prop} {Q:Exit→Act→World→Prop} (hd:∀c,o.op≠ .defer c) (hQ:¬LetsOut Q) (hK:∀a w,K a w→K' a w) (h:o.wp P a w K Q):o.wpIn (Fence.wide.inRound l) n P a w K' Q:=by
  refine ⟨fun _ _=>trivial,?_⟩
  rw [Fence.inRound_round,Oper.semAt_some l a.eval o hd]
  unfold Oper.wp at h
  cases hr:(execOp a.eval o).run P w with
  | ok nx w' =>
    rw [hr] at h
    cases nx with
    | value v=>exact hK _ _ h
    | skip=>exact hK _ _ h
    | defer d=>exact hK _ _ h
    | enter f args =>
      refine ⟨fun e=>by simp [Fence.wide] at e,CallsIn.inRound l (callsIn_wide.2 (Calls.mono h ?_))⟩
      intro e w' he
      cases e with
      | returned v=>exact hK _ _ he
      | panicked chain=>exact he
      | outgrown=>exact he
    | row r args=>exact ⟨fun e=>by simp [Fence.wide] at e,rows_in (Rows.mono h (fun v w' hv=>hK _ _ hv))⟩
    | _=>exact h.elim
  | halt hl w' =>
    rw [hr] at h
    cases hl with
    | panic v=>exact h
    | _=>exact h.elim
theorem anyIn_of_held {n l:Nat} {P:Program} {md:Region.Mode} {ops:Array Oper} {Q:Exit→Act→World→Prop} {S:World→Prop} (hd:∀(i:Nat) o,ops[i]? =some o→∀c,o.op≠ .defer c) (hQ:¬LetsOut Q) :
    ∀(fuel:Nat) (listed:Array Bool) (a:Act) (w:World),wpAnyH P md ops Q S fuel listed a w→wpAnyIn (Fence.wide.inRound l) n P md ops Q fuel listed a w:=by
  intro fuel
  induction fuel with
  | zero=>intro listed a w h; exact h
  | succ fuel ih =>
    intro listed a w h
    refine ⟨h.1,fun i hi=> ?_⟩
    have h2:=h.2 i hi
    unfold wpOp at h2
    unfold wpOpIn
    cases ho:ops[i]? with
    | none =>
      rw [ho] at h2
      exact ih _ _ _ h2.2
    | some o =>
      rw [ho] at h2
      simp only at h2 ⊢
      split
      · rename_i hw
        rw [if_pos hw] at h2
        rcases h2 with h2|h2
        · exact oper_in (hd i o ho) hQ (fun a w h=>ih _ _ _ h.2) h2
        · exact absurd h2.2 hQ
      · rename_i hw
        rw [if_neg hw] at h2
        exact ⟨fun _ _=>trivial,ih _ _ _ h2.2⟩
theorem regionIn_of_held {n l:Nat} {P:Program} {id:Nat} {ops:Array Oper} {Q:Exit→Act→World→Prop} {S:World→Prop} {a:Act} {w:World} (hm:P.follows .mixedOrders=true) (hd:∀(i:Nat) o,ops[i]? =some o→∀c,o.op≠ .defer c) (hQ:¬LetsOut Q)
    (h:wpAnyH P .any ops Q S ops.size (Array.replicate ops.size false) a w.drew):(Code.region id ops true).wpIn (Fence.wide.inRound l) n P Q a w :=
  wpIn_region_any hm (anyIn_of_held hd hQ _ _ _ _ h)
def isDefer:Op→Bool
  | .defer _=>true
  | _=>false
theorem no_defer {ops:Array Oper} (h:ops.all (fun o=> !isDefer o.op)=true):∀(i:Nat) o,ops[i]? =some o→∀c,o.op≠ .defer c:=by
  intro i o hi c e
  have h1:=Array.all_eq_true.1 h i (Array.getElem?_eq_some_iff.1 hi).1
  rw [(Array.getElem?_eq_some_iff.1 hi).2,e] at h1
  cases h1
theorem regionIn_held {n l k:Nat} {P:Program} {id:Nat} {ops:Array Oper} {Q:Exit→Act→World→Prop} (S:World→Prop) {a:Act} {w:World} (hk:ops.size=k) (hm:P.follows .mixedOrders=true) (hd:∀(i:Nat) o,ops[i]? =some o→∀c,o.op≠ .defer c) (hQ:¬LetsOut Q)
    (h:wpAnyH P .any ops Q S k (Array.replicate k false) a w.drew):(Code.region id ops true).wpIn (Fence.wide.inRound l) n P Q a w:=by
  subst hk
  exact regionIn_of_held hm hd hQ h
theorem keeps_below {B:Nat} {w w':World} (hb:Below w.heap.size w w'):KeepsFrom B w w':=⟨hb.size,fun k o _ hk ho=>(hb.block k (Array.getElem?_eq_some_iff.1 hk).1).trans hk⟩
end Go.Proofs.YtnjlajjjcmhfgaaGreatDoor
