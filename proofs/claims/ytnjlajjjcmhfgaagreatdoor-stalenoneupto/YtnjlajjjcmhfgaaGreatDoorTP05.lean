import Derived.Test.YtnjlajjjcmhfgaaGreatDoorTP04
import Derived.Test.YtnjlajjjcmhfgaaGreatDoorTA20
namespace Go.Proofs.YtnjlajjjcmhfgaaGreatDoor
open Go.RowKit Go.Sort Go.Shelf Go.Lib
open Mm (Turn gr RowAt)
set_option linter.unusedVariables false
set_option linter.unusedSimpArgs false
def paC (M:Mo) (c:Ctx) (K:List Blo) (asid x:Int):Prop:=∃b∈K,ovF b b.t.va asid=true∧cvR (stL M c b.t) x
def IsP (M:Mo) (K:List Blo) (J:Jud) (asid:Int) (R:List Rm):Prop :=
  (J asid=none→R=[])∧∀c,J asid=some c→Bs.Good 0 none R∧∀x,0≤x→x≤18446744073709551615→(Bs.get R x=some ()↔paC M c K asid x)
theorem cvR_append {L L':List Rm} {x:Int}:cvR (L++L') x↔cvR L x∨cvR L' x:=by
  unfold cvR
  constructor
  · rintro ⟨s,hs,h⟩
    exact (List.mem_append.1 hs).imp (fun hs=>⟨s,hs,h⟩) (fun hs=>⟨s,hs,h⟩)
  · rintro (⟨s,hs,h⟩|⟨s,hs,h⟩)
    · exact ⟨s,List.mem_append_left _ hs,h⟩
    · exact ⟨s,List.mem_append_right _ hs,h⟩
theorem RoK.append {L L':List Rm} (h:RoK L) (h':RoK L'):RoK (L++L'):=fun r hr=>(List.mem_append.1 hr).elim (h r) (h' r)
theorem appR (w:World) (lo lo2:Nat) (v v2:Value) (L L2:List Rm) (h:w.ownsRow lo 95 2 v L.length (rowG Bs.encR L)) (h2:w.ownsRow lo2 95 2 v2 L2.length (rowG Bs.encR L2)) (hlo:lo≤w.heap.size) (hl:L.length+L2.length≤8000000000000) :
    ∃v' w',(∀ty,(Builtin.append_ #[92,92] ty #[v,v2]).run Tryz.prog w= .ok v' w')∧w'.ownsRow lo 95 2 v' (L++L2).length (rowG Bs.encR (L++L2))∧Turn (fun x=>v.ownBlock=some x) w w':=by
  obtain ⟨i0,hi,hz0,hz1,hz2⟩:=info_parts infoR
  have hs:Src Tryz.prog 2 92 v2 L2.length (rowG Bs.encR L2) w:=Mm.src_of_own Tryz.underlying92 h2 (fun u hu=>by
    obtain ⟨r,_,hu⟩:=List.mem_flatMap.1 hu
    exact encR_one r u hu)
  obtain ⟨v',w',hr,ho',hg,hb⟩:=Mm.append_any (P:=Tryz.prog) w 92 95 i0 _ Tryz.underlying92 hi hz0 (by rw [hz1]; rfl) lo L.length L2.length v v2 (rowG Bs.encR L) (rowG Bs.encR L2) (by rw [hz1]; exact h) (by rw [hz1]; exact hs) hlo (by unfold maxLen; omega) (by rw [hz2]; omega)
  rw [hz1] at ho'
  refine ⟨v',w',hr,?_,Turn.grown hg (fun x hx=> .inl hx)⟩
  rw [List.length_append,show rowG Bs.encR (L++L2)=rowG Bs.encR L++rowG Bs.encR L2 by simp [rowG]]
  exact ho'
structure PgX (W wr:World) (kb r:Nat) (K T:List Blo) (M:Mo) (c:Ctx) (asid:Int) (L:List Rm) (v:Value):Prop where
  bel:Below W.heap.size W wr
  kr:KR wr kb r K T
  own:wr.ownsRow W.heap.size 95 2 v L.length (rowG Bs.encR L)
  nod:T.Nodup
  sub:∀b∈T,b∈K
  cov:∀x,cvR L x↔∃b∈K,b∉T∧ovF b b.t.va asid=true∧cvR (stL M c b.t) x
  rok:RoK L
  len:L.length+16*T.length≤16*K.length
section
variable {W wr w':World} {kb r:Nat} {K T:List Blo} {M:Mo} {c:Ctx} {asid:Int} {L:List Rm} {v:Value}
theorem rm_len {T:List Blo} {b:Blo} (hn:T.Nodup) (hb:b∈T):(rm T b).length+1=T.length:=by
  have:=(rm_perm hn hb).length_eq
  simp at this
  omega
structure PgY (W wr:World) (kb r:Nat) (K T:List Blo) (M:Mo) (c:Ctx) (asid:Int) (L:List Rm) (v:Value) (b:Blo):Prop where
  bel:Below W.heap.size W wr
  kr:KR wr kb r K (rm T b)
  own:wr.ownsRow W.heap.size 95 2 v L.length (rowG Bs.encR L)
  nod:T.Nodup
  sub:∀b∈T,b∈K
  cov:∀x,cvR L x↔∃b∈K,b∉T∧ovF b b.t.va asid=true∧cvR (stL M c b.t) x
  rok:RoK L
  len:L.length+16*T.length≤16*K.length
  hb:b∈T
variable {b:Blo}
theorem PgX.next (h:PgX W wr kb r K T M c asid L v) (hb:b∈T) (hr:W.heap.size≤r) (hg:wr.grownBy w' (some r)) (hk:KR w' kb r K (rm T b)):PgY W w' kb r K T M c asid L v b:=by
  have T1:Turn (· =r) wr w':=Turn.grown hg (fun k e=>by cases e; exact .inl rfl)
  exact ⟨h.bel.trans (T1.to (fun x hx=>by subst hx; exact hr) h.bel.size),hk,Mm.own_turn h.own T1 (fun g hg e=>by
    obtain ⟨c,ee,f,hc⟩:=own_ne h.own hg
    exact (h.kr.own hc).2 e),h.nod,h.sub,h.cov,h.rok,h.len,hb⟩
theorem PgY.below (h:PgY W wr kb r K T M c asid L v b) (hb:Below wr.heap.size wr w'):PgY W w' kb r K T M c asid L v b :=
  ⟨Below.step h.bel hb,h.kr.turn (X:=fun _=>False) (Turn.below hb) (fun h=>h) (fun h=>h),Mm.own_turn h.own (Turn.below (S:=fun _=>False) hb) (fun _ _ h=>h),h.nod,h.sub,h.cov,h.rok,h.len,h.hb⟩
theorem PgY.left (h:PgY W wr kb r K T M c asid L v b) (hb:Below wr.heap.size wr w'):w'.rangeLeft kb r=wr.rangeLeft kb r:=turn_left (X:=fun _=>False) (Turn.below hb) h.kr.lt.2 h.kr.lt.1 (fun h=>h) (fun h=>h)
theorem PgY.skip (h:PgY W wr kb r K T M c asid L v b) (ho:ovF b b.t.va asid=false):PgX W wr kb r K (rm T b) M c asid L v:=by
  have hl:=rm_len h.nod h.hb
  refine ⟨h.bel,h.kr,h.own,rm_nodup h.nod b,fun x hx=>h.sub x (mem_rm.1 hx).1,fun x=>(h.cov x).trans ?_,h.rok,by have:=h.len; omega⟩
  constructor
  · rintro ⟨y,h1,h2,h3⟩
    exact ⟨y,h1,fun h=>h2 (mem_rm.1 h).1,h3⟩
  · rintro ⟨y,h1,h2,h3,h4⟩
    refine ⟨y,h1,fun hT=>h2 (mem_rm.2 ⟨hT,fun e=> ?_⟩),h3,h4⟩
    subst e
    rw [ho] at h3
    cases h3
theorem PgY.app (h:PgY W wr kb r K T M c asid L v b) (ho:ovF b b.t.va asid=true) (hv:0≤b.t.va∧b.t.va<4294967296) (hK:K.length≤400000000000) {lo2:Nat} {v2:Value} (h2:wr.ownsRow lo2 95 2 v2 (stL M c b.t).length (rowG Bs.encR (stL M c b.t))) :
    ∃v' w',(∀ty,(Builtin.append_ #[92,92] ty #[v,v2]).run Tryz.prog wr= .ok v' w')∧PgX W w' kb r K (rm T b) M c asid (L++stL M c b.t) v'∧w'.rangeLeft kb r=wr.rangeLeft kb r:=by
  have hl:=rm_len h.nod h.hb
  have hl2:=stL_len M c b.t
  have hlen:=h.len
  obtain ⟨v',w',hr,hown,T1⟩:=appR wr W.heap.size lo2 v v2 L (stL M c b.t) h.own h2 h.bel.size (by omega)
  have hX:∀x,v.ownBlock=some x→W.heap.size≤x∧x≠kb∧x≠r:=fun x hx=>by
    obtain ⟨c,e,f,hc⟩:=own_ne h.own hx
    exact ⟨(World.ownsRow.lt h.own x hx).1,h.kr.own hc⟩
  have hkr:=h.kr.lt
  refine ⟨v',w',hr,⟨h.bel.trans (T1.to (fun x hx=>(hX x hx).1) h.bel.size),h.kr.turn T1 (fun hx=>(hX _ hx).2.1 rfl) (fun hx=>(hX _ hx).2.2 rfl),hown,rm_nodup h.nod b,fun x hx=>h.sub x (mem_rm.1 hx).1,fun x=> ?_,h.rok.append (stL_ok M c b.t hv),by rw [List.length_append]; omega⟩,turn_left T1 hkr.2 hkr.1 (fun hx=>(hX _ hx).2.1 rfl) (fun hx=>(hX _ hx).2.2 rfl)⟩
  rw [cvR_append,h.cov x]
  constructor
  · rintro (⟨y,h1,h2,h3⟩|h1)
    · exact ⟨y,h1,fun h=>h2 (mem_rm.1 h).1,h3⟩
    · exact ⟨b,h.sub b h.hb,fun h=>(mem_rm.1 h).2 rfl,ho,h1⟩
  · rintro ⟨y,h1,h2,h3,h4⟩
    by_cases e:y=b
    · subst e; exact .inr h4
    · exact .inl ⟨y,h1,fun hT=>h2 (mem_rm.2 ⟨hT,e⟩),h3,h4⟩
end
end Go.Proofs.YtnjlajjjcmhfgaaGreatDoor
namespace Go.Proofs.YtnjlajjjcmhfgaaGreatDoor
open Go.RowKit Go.Sort Go.Shelf Go.Lib
open Mm (Turn gr RowAt)
set_option linter.unusedVariables false
set_option linter.unusedSimpArgs false
set_option maxRecDepth 100000 in
set_option maxHeartbeats 4000000 in
theorem pages_none (W:World) (p kb jb:Nat) (K:List Blo) (J:Jud) (h:PK W p kb jb K J) (iv:Value) (asid:Int) (ha: -9223372036854775808≤asid∧asid≤9223372036854775807) (hJ:J asid=none) :
    Calls Tryz.prog 33 #[.pointer (some ⟨p,0,none⟩),iv,.int .i64 asid] W fun e w'=>e= .returned (.slice none 0 0)∧Below W.heap.size W w':=by
  have c1:=h.c1
  have hlk:=h.jm.look ha.1 ha.2
  rw [hJ,jd_none hJ] at hlk
  simp only [Option.isSome_none] at hlk
  have HB:=hidW (below_new W (.cells ([.bool cZ.on,.bool cZ.tre,.bool cZ.afe,.int .i64 cZ.n,.bool cZ.pd0,.bool cZ.pd1,.int .u64 cZ.b0,.int .u64 cZ.b1,.int .u32 cZ.dacr,.int .u32 cZ.prrr,.int .u32 cZ.nmrr,.int .i64 cZ.asid]).toArray 47))
  clear h hJ
  generalize cZ=z at *
  go_enter Tryz.func33,Tryz.ntmps33
  go_wp2
  go_ret
  exact ⟨rfl,HB.out⟩
set_option maxRecDepth 100000 in
set_option maxHeartbeats 8000000 in
theorem pages_some (W:World) (p kb jb:Nat) (K:List Blo) (J:Jud) (h:PK W p kb jb K J) (S:Nat→Prop) (iv:Value) (M:Mo) (hm:MemP W S iv M) (ht:TS W) (hd:TSd W) (asid:Int) (ha: -9223372036854775808≤asid∧asid≤9223372036854775807) (c:Ctx) (hJ:J asid=some c) (hKl:K.length≤400000000000) :
    Calls Tryz.prog 33 #[.pointer (some ⟨p,0,none⟩),iv,.int .i64 asid] W fun e w'=>∃v R,e= .returned v∧Bs.Lm w' W.heap.size v R∧IsP M K J asid R∧Below W.heap.size W w':=by
  have c1:=h.c1
  have HJ:=hidW hJ
  have hlk:=h.jm.look ha.1 ha.2
  rw [hJ,jd_some hJ] at hlk
  simp only [Option.isSome_some] at hlk
  have hc:=(h.ok.j _ _ hJ).2.2.1
  have hb0:=below_new W (.cells ([.bool c.on,.bool c.tre,.bool c.afe,.int .i64 c.n,.bool c.pd0,.bool c.pd1,.int .u64 c.b0,.int .u64 c.b1,.int .u32 c.dacr,.int .u32 c.prrr,.int .u32 c.nmrr,.int .i64 c.asid]).toArray 47)
  have hP2:=h.below hb0
  have c0:=hP2.c0
  have HC:Hid (Bl (W.alloc (.cells ([.bool c.on,.bool c.tre,.bool c.afe,.int .i64 c.n,.bool c.pd0,.bool c.pd1,.int .u64 c.b0,.int .u64 c.b1,.int .u32 c.dacr,.int .u32 c.prrr,.int .u32 c.nmrr,.int .i64 c.asid]).toArray 47)) W.heap.size 47 ([.bool c.on,.bool c.tre,.bool c.afe,.int .i64 c.n,.bool c.pd0,.bool c.pd1,.int .u64 c.b0,.int .u64 c.b1,.int .u32 c.dacr,.int .u32 c.prrr,.int .u32 c.nmrr,.int .i64 c.asid])):=Bl.new W 47 ([.bool c.on,.bool c.tre,.bool c.afe,.int .i64 c.n,.bool c.pd0,.bool c.pd1,.int .u64 c.b0,.int .u64 c.b1,.int .u32 c.dacr,.int .u32 c.prrr,.int .u32 c.nmrr,.int .i64 c.asid])
  have HM:=hidW (hm.below hb0)
  have HT:=hidW (ht.below hb0)
  have HD:=hidW (hd.below hb0)
  have HCO:=hidW hc
  have HB:=hidW hb0
  have HO:=hidW h.ok
  obtain ⟨w3,hr3,hk3,hg3,hs3⟩:=hP2.km.range
  have T3:Turn (fun _=>False) (W.alloc (.cells ([.bool c.on,.bool c.tre,.bool c.afe,.int .i64 c.n,.bool c.pd0,.bool c.pd1,.int .u64 c.b0,.int .u64 c.b1,.int .u32 c.dacr,.int .u32 c.prrr,.int .u32 c.nmrr,.int .i64 c.asid]).toArray 47)) w3:=Turn.grown hg3 (fun k e=>by cases e)
  have HX:Hid (PgX (W.alloc (.cells ([.bool c.on,.bool c.tre,.bool c.afe,.int .i64 c.n,.bool c.pd0,.bool c.pd1,.int .u64 c.b0,.int .u64 c.b1,.int .u32 c.dacr,.int .u32 c.prrr,.int .u32 c.nmrr,.int .i64 c.asid]).toArray 47)) w3 kb (W.alloc (.cells ([.bool c.on,.bool c.tre,.bool c.afe,.int .i64 c.n,.bool c.pd0,.bool c.pd1,.int .u64 c.b0,.int .u64 c.b1,.int .u32 c.dacr,.int .u32 c.prrr,.int .u32 c.nmrr,.int .i64 c.asid]).toArray 47)).heap.size K K M c asid [] (.slice none 0 0)) :=
    ⟨T3.to (fun x hx=>hx.elim) (Nat.le_refl _),hk3,World.ownsRow_nil _ _ _ _,h.ok.ri.nodup,fun b hb=>hb,fun x=>⟨fun h=>(by obtain ⟨r,hr,_⟩:=h; simp at hr),fun ⟨b,h1,h2,_⟩=>absurd h1 h2⟩,fun r hr=>by simp at hr,by simp⟩
  clear hP2 hk3 hg3 T3 h hJ hc hm ht hd hb0
  generalize hrr:(W.alloc (.cells ([.bool c.on,.bool c.tre,.bool c.afe,.int .i64 c.n,.bool c.pd0,.bool c.pd1,.int .u64 c.b0,.int .u64 c.b1,.int .u32 c.dacr,.int .u32 c.prrr,.int .u32 c.nmrr,.int .i64 c.asid]).toArray 47)).heap.size=r at hr3 HX
  have hrW:(W.alloc (.cells ([.bool c.on,.bool c.tre,.bool c.afe,.int .i64 c.n,.bool c.pd0,.bool c.pd1,.int .u64 c.b0,.int .u64 c.b1,.int .u32 c.dacr,.int .u32 c.prrr,.int .u32 c.nmrr,.int .i64 c.asid]).toArray 47)).heap.size≤r:=Nat.le_of_eq hrr
  go_enter Tryz.func33,Tryz.ntmps33
  go_wp2
  clear hr3 hs3 hrr c0 c1 hlk
  generalize hWc:W.alloc (.cells ([.bool c.on,.bool c.tre,.bool c.afe,.int .i64 c.n,.bool c.pd0,.bool c.pd1,.int .u64 c.b0,.int .u64 c.b1,.int .u32 c.dacr,.int .u32 c.prrr,.int .u32 c.nmrr,.int .i64 c.asid]).toArray 47)=Wc at *
  clear hWc
  generalize hbc:W.heap.size=bc at *
  go_loopw [9] (fun s wr=>∃(T:List Blo) (L:List Rm) (v:Value),v=s∧Hid (PgX Wc wr kb r K T M c asid L v)) (fun _ wr=>wr.rangeLeft kb r)
  case atStart=>exact ⟨K,[],_,rfl,HX⟩
  case round =>
    obtain ⟨T,L,v,rfl,HX1⟩:=hrel
    clear HX
    have hTo:∀x∈T,KOk x:=fun x hx=>HO.out.ok x (HX1.out.sub x hx)
    rcases HX1.out.kr.next hTo 0 with ⟨rfl,hnx⟩|⟨b,w4,hb,hnx,hk4,hg4,hs4,hen,hlt⟩
    · have hx:=HX1.out
      obtain ⟨a,cap,rfl⟩:∃a cap,v= .slice a L.length cap:=by
        rcases LtG.own encR_len hx.own with ⟨rfl,rfl⟩|⟨g,cap,rest,rfl,_,_⟩
        · exact ⟨none,0,rfl⟩
        · exact ⟨_,_,rfl⟩
      have hlen:=hx.len
      have HQ:=hidW (joined_any wr Wc.heap.size cap a L hx.own (by omega) hx.rok)
      have HXL:=hidW hx
      have HLn:=hidW (rfl:L.length=L.length)
      clear hx HX1 hlen hTo
      generalize hnL:L.length=nL at *
      clear hnL
      go_wp2_with fail
      go_at_call 65
      refine HQ.out.mono ?_
      rintro e w5 ⟨vr,rfl,⟨R,hR,hJR⟩,T5⟩
      have HR:Hid (Bs.Lm w5 bc vr R∧IsP M K J asid R∧Below bc W w5):=by
        have hx:=HXL.out
        have hs:=hx.bel.size
        have hs0:W.heap.size≤Wc.heap.size:=hbc▸HB.out.size
        have hB5:Below Wc.heap.size Wc w5:=hx.bel.trans (T5.to (fun x hx2=>(World.ownsRow.lt hx.own x hx2).1) hs)
        refine ⟨own_lower hR (by omega),⟨fun hn=> ?_,fun c' hc'=> ?_⟩,HB.out.trans (hB5.mono (by omega))⟩
        · rw [HJ.out] at hn; cases hn
        · rw [HJ.out] at hc'
          cases hc'
          refine ⟨hJR.1,fun x h0 h1=>(hJR.2 x h0 h1).trans ((hx.cov x).trans ?_)⟩
          exact ⟨fun ⟨b,h1,_,h2⟩=>⟨b,h1,h2⟩,fun ⟨b,h1,h2⟩=>⟨b,h1,by simp,h2⟩⟩
      clear HQ hR hJR T5 HXL
      subst hbc
      go_wp2
      go_ret
      exact ⟨vr,R,rfl,HR.out⟩
    · have hbo:=hTo b hb
      have hbn:=below_new w4 (.cells ([.int .i64 b.asid,.int .i64 b.t.size,.int .u32 b.t.va,.int .u64 b.t.pa,.int .i64 b.t.dom,.int .i64 b.t.ap,.int .u32 b.t.bits,.bool b.t.ng,.bool b.t.xn]).toArray 45)
      have hY4:=HX1.out.next hb hrW hg4 hk4
      have HY:=hidW (hY4.below hbn)
      have HL:Hid ((w4.alloc (.cells ([.int .i64 b.asid,.int .i64 b.t.size,.int .u32 b.t.va,.int .u64 b.t.pa,.int .i64 b.t.dom,.int .i64 b.t.ap,.int .u32 b.t.bits,.bool b.t.ng,.bool b.t.xn]).toArray 45)).rangeLeft kb r<wr.rangeLeft kb r):=by
        have e1:=hY4.left hbn
        exact e1▸hlt
      have hTR:TR (w4.alloc (.cells ([.int .i64 b.asid,.int .i64 b.t.size,.int .u32 b.t.va,.int .u64 b.t.pa,.int .i64 b.t.dom,.int .i64 b.t.ap,.int .u32 b.t.bits,.bool b.t.ng,.bool b.t.xn]).toArray 45)):=(HT.out.below HY.out.bel).r
      have HOv:=hidW (over_any b b.t.va asid _ hTR hbo.ok hbo.ok.va)
      have cB:=(Bl.new w4 45 ([.int .i64 b.asid,.int .i64 b.t.size,.int .u32 b.t.va,.int .u64 b.t.pa,.int .i64 b.t.dom,.int .i64 b.t.ap,.int .u32 b.t.bits,.bool b.t.ng,.bool b.t.xn])).cell
      have HBB:=hidW (Bl.new w4 45 ([.int .i64 b.asid,.int .i64 b.t.size,.int .u32 b.t.va,.int .u64 b.t.pa,.int .i64 b.t.dom,.int .i64 b.t.ap,.int .u32 b.t.bits,.bool b.t.ng,.bool b.t.xn]))
      have HSZ:=hidW hbo.sz
      have HVA:=hidW hbo.ok.va
      have HS2:Hid (∀w',Below Wc.heap.size Wc w'→Calls Tryz.prog 64 #[iv,.agg #[.bool c.on,.bool c.tre,.bool c.afe,.int .i64 c.n,.bool c.pd0,.bool c.pd1,.int .u64 c.b0,.int .u64 c.b1,.int .u32 c.dacr,.int .u32 c.prrr,.int .u32 c.nmrr,.int .i64 c.asid],.agg #[.int .i64 (b.t).size,.int .u32 (b.t).va,.int .u64 (b.t).pa,.int .i64 (b.t).dom,.int .i64 (b.t).ap,.int .u32 (b.t).bits,.bool (b.t).ng,.bool (b.t).xn]] w' fun e w''=>∃v,e= .returned v∧w''.ownsRow w'.heap.size 95 2 v (stL M c b.t).length (rowG Bs.encR (stL M c b.t))∧Below w'.heap.size w' w''):=fun w' hw'=>strays_any w' c b.t (HM.out.below hw') (HT.out.below hw') (HD.out.below hw') HCO.out hbo.sz hbo.ok.va
      clear hTR hY4 hbn HX1 hk4 hg4 hlt hTo hb hs4 hbo
      have HOb:Hid (∃ob,ovF b b.t.va asid=ob):=⟨_,rfl⟩
      generalize hob:ovF b b.t.va asid=ob at HOv
      have HOB:=hidW hob
      clear hob
      go_wp2_with fail
      go_at_call 34
      refine HOv.out.mono ?_
      rintro e w6 ⟨rfl,hb6⟩
      have HY6:=hidW (HY.out.below hb6)
      have HL6:Hid (w6.rangeLeft kb r<wr.rangeLeft kb r):=by
        have e1:=HY.out.left hb6
        have:=HL.out
        show w6.rangeLeft kb r<wr.rangeLeft kb r
        omega
      have cB6:=(HBB.out.below hb6).cell
      have cC6:=(HC.out.below HY6.out.bel).cell
      clear hb6 HY HL HOv cB hnx hen HBB
      cases ob
      · have HN:=hidW (HY6.out.skip HOB.out)
        clear HY6
        go_wp2
        go_roundw
        case rel=>exact ⟨rm T b,L,_,rfl,HN⟩
        case measure=>exact HL6.out
      · go_wp2_with fail
        go_at_call 64
        refine (HS2.out _ HY6.out.bel).mono ?_
        rintro e w7 ⟨v7,rfl,ho7,hb7⟩
        obtain ⟨v8,w8,happ,hx8,hl8⟩:=(HY6.out.below hb7).app HOB.out HVA.out hKl ho7
        have HX8:=hidW hx8
        have HL8:Hid (w8.rangeLeft kb r<wr.rangeLeft kb r):=by
          have e1:=HY6.out.left hb7
          have:=HL6.out
          show w8.rangeLeft kb r<wr.rangeLeft kb r
          omega
        clear hx8 hl8 hb7 ho7 HY6 HL6 cB6 cC6 HS2
        go_wp2_with (at_builtin; refine Lib.wpList_append_run _ rfl _ _ 92 92 rfl _ _ rfl rfl _ _ (happ _) ?_; clear happ)
        go_roundw
        case rel=>exact ⟨rm T b,_,_,rfl,HX8⟩
        case measure=>exact HL8.out
theorem pages_any (W:World) (p kb jb:Nat) (K:List Blo) (J:Jud) (h:PK W p kb jb K J) (S:Nat→Prop) (iv:Value) (M:Mo) (hm:MemP W S iv M) (ht:TS W) (hd:TSd W) (asid:Int) (ha: -9223372036854775808≤asid∧asid≤9223372036854775807) (hKl:K.length≤400000000000) :
    Calls Tryz.prog 33 #[.pointer (some ⟨p,0,none⟩),iv,.int .i64 asid] W fun e w'=>∃v R,e= .returned v∧Bs.Lm w' W.heap.size v R∧IsP M K J asid R∧Below W.heap.size W w':=by
  cases hJ:J asid with
  | none =>
    refine (pages_none W p kb jb K J h iv asid ha hJ).mono ?_
    rintro e w' ⟨rfl,hb⟩
    exact ⟨_,[],rfl,World.ownsRow_nil _ _ _ _,⟨fun _=>rfl,fun c hc=>by rw [hJ] at hc; cases hc⟩,hb⟩
  | some c=>exact pages_some W p kb jb K J h S iv M hm ht hd asid ha c hJ hKl
end Go.Proofs.YtnjlajjjcmhfgaaGreatDoor
