import Derived.Test.YtnjlajjjcmhfgaaGreatDoorTA29
namespace Go.Proofs.YtnjlajjjcmhfgaaGreatDoor
open Go.RowKit
open Mm (Turn gr RM valV errV Byts setV RowAt)
set_option linter.unusedVariables false
set_option linter.unusedSimpArgs false
attribute [local go_sem] Oper.semAt_some
def encC (c:Ctx):List Value:=[.bool c.on,.bool c.tre,.bool c.afe,.int .i64 c.n,.bool c.pd0,.bool c.pd1,.int .u64 c.b0,.int .u64 c.b1,.int .u32 c.dacr,.int .u32 c.prrr,.int .u32 c.nmrr,.int .i64 c.asid]
def encQ (o:Oq):List Value:=[.int .i64 o.kind,.int .i64 o.nr,.int .i64 o.d.kind,.int .u32 o.d.va,.int .i64 o.d.asid,.int .u64 o.pa,.int .u32 o.w,.int .i64 o.asid,.int .u32 o.va]
structure SgX (G:Nat→Prop) (W w:World) (x p kb jb:Nat) (wv iv:Value) (f:Int) (vp vw vc:Value) (σ:Pst):Prop where
  box:Bl w x 54 [.int .i64 f,vp,vw,vc,.pointer (some ⟨p,0,none⟩),iv,wv]
  pk:PK w p kb jb σ.K σ.J
  mem:∃S,MemW w S wv iv σ.mem∧∀b,S b→b≠kb∧b≠jb∧b≠p∧b≠x∧W.heap.size≤b∧¬G b
  nx:x≠kb∧x≠jb∧x≠p
  new:W.heap.size≤x∧W.heap.size≤p∧W.heap.size≤kb∧W.heap.size≤jb
  ts:TS w
  bel:Below W.heap.size W w
  gl:∀b,G b→b<w.heap.size∧b≠kb∧b≠jb
section
variable {G G':Nat→Prop} {W w w':World} {x p kb jb:Nat} {wv iv:Value} {f:Int} {vp vw vc:Value} {σ:Pst}
theorem SgX.more (h:SgX G W w x p kb jb wv iv f vp vw vc σ) (hb:Below w.heap.size w w') (hG:∀b,G' b→G b∨(w.heap.size≤b∧b<w'.heap.size)):SgX G' W w' x p kb jb wv iv f vp vw vc σ:=by
  obtain ⟨S,h1,h2⟩:=h.mem
  have hlt:=h.pk.lt
  refine ⟨h.box.below hb,h.pk.below hb,⟨S,h1.below hb,fun b hs=> ?_⟩,h.nx,h.new,h.ts.below hb,Below.step h.bel hb,fun b hg=> ?_⟩
  · obtain ⟨g1,g2,g3,g4,g5,g6⟩:=h2 b hs
    refine ⟨g1,g2,g3,g4,g5,fun hg=> ?_⟩
    rcases hG b hg with hg|hg
    · exact g6 hg
    · have:=h1.low b hs; omega
  · rcases hG b hg with hg|hg
    · obtain ⟨g1,g2,g3⟩:=h.gl b hg
      exact ⟨Nat.lt_of_lt_of_le g1 hb.size,g2,g3⟩
    · exact ⟨hg.2,by omega,by omega⟩
theorem SgX.below (h:SgX G W w x p kb jb wv iv f vp vw vc σ) (hb:Below w.heap.size w w'):SgX G W w' x p kb jb wv iv f vp vw vc σ:=h.more hb (fun b hb=> .inl hb)
theorem SgX.track (h:SgX G W w x p kb jb wv iv f vp vw vc σ) (T:Turn (fun b=>b=kb∨b=jb) w w') (ht:TS w') {τ:Pst} (hk:PK w' p kb jb τ.K τ.J) (he:τ.mem=σ.mem) :
    SgX G W w' x p kb jb wv iv f vp vw vc τ∧∀b,G b→w'.heap[b]? =w.heap[b]? :=by
  obtain ⟨S,h1,h2⟩:=h.mem
  refine ⟨⟨h.box.turn T (fun hh=>hh.elim h.nx.1 h.nx.2.1),hk,⟨S,?_,h2⟩,h.nx,h.new,ht,h.bel.trans (T.to (fun b hb=> ?_) h.bel.size),fun b hb=>⟨Nat.lt_of_lt_of_le (h.gl b hb).1 T.size,(h.gl b hb).2⟩⟩,fun b hb=>T.block b (h.gl b hb).1 (fun hh=>hh.elim (h.gl b hb).2.1 (h.gl b hb).2.2)⟩
  · rw [he]
    exact h1.keep T (fun b hb hh=>hh.elim (h2 b hb).1 (h2 b hb).2.1)
  · rcases hb with rfl|rfl
    · exact h.new.2.2.1
    · exact h.new.2.2.2
theorem SgX.see (h:SgX G W w x p kb jb wv iv f vp vw vc σ) (c:Ctx) (hc:c.Ok) (hl:σ.K.length≤2305843009213693952) :
    Calls Tryz.prog 22 #[.pointer (some ⟨p,0,none⟩),iv,.agg #[.bool c.on,.bool c.tre,.bool c.afe,.int .i64 c.n,.bool c.pd0,.bool c.pd1,.int .u64 c.b0,.int .u64 c.b1,.int .u32 c.dacr,.int .u32 c.prrr,.int .u32 c.nmrr,.int .i64 c.asid]] w fun e w'=>e= .returned (.int .i64 (if seO c=true∨c.on=false then 0 else 1))∧SgX G W w' x p kb jb wv iv f vp vw vc (σ.see c)∧∀b,G b→w'.heap[b]? =w.heap[b]? :=by
  obtain ⟨S,h1,h2⟩:=h.mem
  refine (see_any w p kb jb σ h.pk S wv iv h1 (fun b hb=>(h2 b hb).1) h.ts c hc hl).mono ?_
  rintro e w' ⟨rfl,g1,g2,g3⟩
  exact ⟨rfl,h.track g2 g3 g1 (by unfold Pst.see; split <;>rfl)⟩
theorem SgX.drop (h:SgX G W w x p kb jb wv iv f vp vw vc σ) (d:Dro) (hd:0≤d.va∧d.va<4294967296) (hl:σ.K.length≤4611686018427387904) :
    Calls Tryz.prog 25 #[.pointer (some ⟨p,0,none⟩),.agg #[.int .i64 d.kind,.int .u32 d.va,.int .i64 d.asid]] w fun e w'=>e= .returned (.int .i64 (σ.K.countP (tkF d)))∧SgX G W w' x p kb jb wv iv f vp vw vc ⟨drK d σ.K,σ.J,σ.mem⟩∧∀b,G b→w'.heap[b]? =w.heap[b]? :=by
  refine (drop_any w p kb jb σ.K σ.J d h.pk h.ts.r hd hl).mono ?_
  rintro e w' ⟨rfl,g1,g2,g3⟩
  have T:Turn (fun b=>b=kb∨b=jb) w w':=g2.mono (fun b _ hb=> .inl hb)
  exact ⟨rfl,h.track (τ:=⟨drK d σ.K,σ.J,σ.mem⟩) T (h.ts.turnM g2 (fun b hb _=>by subst hb; exact h.pk.km.nt)) g1 rfl⟩
theorem SgX.put (h:SgX G W w x p kb jb wv iv f vp vw vc σ) (pa v:Int) (hp:0≤pa∧pa<18446744073709551616) (hv:0≤v∧v<4294967296) (hW:TS W) :
    Calls Tryz.prog 43 #[wv,.int .u64 pa,.int .u32 v] w fun e w'=>e= .returned (.tuple #[])∧SgX G W w' x p kb jb wv iv f vp vw vc ⟨σ.K,σ.J,σ.mem.put pa v⟩∧∀b,G b→w'.heap[b]? =w.heap[b]? :=by
  obtain ⟨S,h1,h2⟩:=h.mem
  refine (written_any w S wv iv σ.mem h1 pa v hp hv).mono ?_
  rintro e w' ⟨rfl,⟨S',g1,g2⟩,g3⟩
  have hb:Below W.heap.size W w':=h.bel.trans (g3.to (fun b hb=>(h2 b hb).2.2.2.2.1) h.bel.size)
  have hlt:=h.pk.lt
  have hx:=h.box.lt
  refine ⟨rfl,⟨h.box.turn g3 (fun hh=>(h2 _ hh).2.2.2.1 rfl),h.pk.turn g3 (fun hh=>(h2 _ hh).2.2.1 rfl) (fun hh=>(h2 _ hh).1 rfl) (fun hh=>(h2 _ hh).2.1 rfl),⟨S',g1,fun b hb=> ?_⟩,h.nx,h.new,hW.below hb,hb,fun b hb=>⟨Nat.lt_of_lt_of_le (h.gl b hb).1 g3.size,(h.gl b hb).2⟩⟩,fun b hb=>g3.block b (h.gl b hb).1 (fun hh=>(h2 _ hh).2.2.2.2.2 hb)⟩
  rcases g2 b hb with hb|hb
  · exact h2 b hb
  · have:=h.bel.size
    exact ⟨by omega,by omega,by omega,by omega,by omega,fun hg=>by have:=(h.gl b hg).1; omega⟩
end
theorem Sli.ctx {W w:World} {a:Option Addr} {n cap:Nat} {cs:List Ctx} (h:Sli encC 12 W (.slice a n cap) cs) (hb:Below W.heap.size W w) {k:Nat} {c:Ctx} (hc:cs[k]? =some c) :
    ∃b off,a=some ⟨b,off,none⟩∧b<W.heap.size∧w.cell? ⟨b,off+k*12,none⟩=some (.bool c.on)∧w.cell? ⟨b,off+k*12+1,none⟩=some (.bool c.tre)∧w.cell? ⟨b,off+k*12+2,none⟩=some (.bool c.afe)∧w.cell? ⟨b,off+k*12+3,none⟩=some (.int .i64 c.n)∧w.cell? ⟨b,off+k*12+4,none⟩=some (.bool c.pd0)∧w.cell? ⟨b,off+k*12+5,none⟩=some (.bool c.pd1)∧w.cell? ⟨b,off+k*12+6,none⟩=some (.int .u64 c.b0)∧w.cell? ⟨b,off+k*12+7,none⟩=some (.int .u64 c.b1)∧w.cell? ⟨b,off+k*12+8,none⟩=some (.int .u32 c.dacr)∧w.cell? ⟨b,off+k*12+9,none⟩=some (.int .u32 c.prrr)∧w.cell? ⟨b,off+k*12+10,none⟩=some (.int .u32 c.nmrr)∧w.cell? ⟨b,off+k*12+11,none⟩=some (.int .i64 c.asid):=by
  obtain ⟨a',cap',e,h⟩:=h
  cases e
  obtain ⟨b,off,ha,hlt,hh⟩:=h k c hc
  have e:∀j v,(encC c)[j]? =some v→w.cell? ⟨b,off+k*12+j,none⟩=some v:=fun j v hv=>(hb.cell (p:=⟨b,off+k*12+j,none⟩) hlt).trans (hh j v hv)
  exact ⟨b,off,ha,hlt,e 0 _ rfl,e 1 _ rfl,e 2 _ rfl,e 3 _ rfl,e 4 _ rfl,e 5 _ rfl,e 6 _ rfl,e 7 _ rfl,e 8 _ rfl,e 9 _ rfl,e 10 _ rfl,e 11 _ rfl⟩
theorem Sli.op {W w:World} {a:Option Addr} {n cap:Nat} {l:List Oq} (h:Sli encQ 9 W (.slice a n cap) l) (hb:Below W.heap.size W w) {k:Nat} {o:Oq} (hc:l[k]? =some o) :
    ∃b off,a=some ⟨b,off,none⟩∧b<W.heap.size∧w.cell? ⟨b,off+k*9,none⟩=some (.int .i64 o.kind)∧w.cell? ⟨b,off+k*9+1,none⟩=some (.int .i64 o.nr)∧w.cell? ⟨b,off+k*9+2,none⟩=some (.int .i64 o.d.kind)∧w.cell? ⟨b,off+k*9+3,none⟩=some (.int .u32 o.d.va)∧w.cell? ⟨b,off+k*9+4,none⟩=some (.int .i64 o.d.asid)∧w.cell? ⟨b,off+k*9+5,none⟩=some (.int .u64 o.pa)∧w.cell? ⟨b,off+k*9+6,none⟩=some (.int .u32 o.w)∧w.cell? ⟨b,off+k*9+7,none⟩=some (.int .i64 o.asid)∧w.cell? ⟨b,off+k*9+8,none⟩=some (.int .u32 o.va):=by
  obtain ⟨a',cap',e,h⟩:=h
  cases e
  obtain ⟨b,off,ha,hlt,hh⟩:=h k o hc
  have e:∀j v,(encQ o)[j]? =some v→w.cell? ⟨b,off+k*9+j,none⟩=some v:=fun j v hv=>(hb.cell (p:=⟨b,off+k*9+j,none⟩) hlt).trans (hh j v hv)
  exact ⟨b,off,ha,hlt,e 0 _ rfl,e 1 _ rfl,e 2 _ rfl,e 3 _ rfl,e 4 _ rfl,e 5 _ rfl,e 6 _ rfl,e 7 _ rfl,e 8 _ rfl⟩
section
variable {G:Nat→Prop} {W w:World} {x p kb jb:Nat} {wv iv:Value} {f:Int} {vp vw vc:Value} {σ:Pst}
set_option maxRecDepth 100000 in
set_option maxHeartbeats 4000000 in
theorem step_drop (h:SgX G W w x p kb jb wv iv f vp vw vc σ) (nr:Int) (d:Dro) (pa v ai va:Int) (hd:0≤d.va∧d.va<4294967296) (hl:σ.K.length≤4611686018427387904) :
    Calls Tryz.prog 11 #[.pointer (some ⟨x,0,none⟩),.agg #[.int .i64 2,.int .i64 nr,.int .i64 d.kind,.int .u32 d.va,.int .i64 d.asid,.int .u64 pa,.int .u32 v,.int .i64 ai,.int .u32 va]] w fun e w'=>e= .returned (.tuple #[])∧SgX G W w' x p kb jb wv iv f vp vw vc ⟨drK d σ.K,σ.J,σ.mem⟩∧∀b,G b→w'.heap[b]? =w.heap[b]? :=by
  have HS:=hidW (h.more (G':=fun b=>G b∨b=w.heap.size) (below_new w (.cells #[.int .i64 2,.int .i64 nr,.int .i64 d.kind,.int .u32 d.va,.int .i64 d.asid,.int .u64 pa,.int .u32 v,.int .i64 ai,.int .u32 va] 37)) (fun b hb=>hb.imp (fun h=>h) (fun e=>by subst e; exact ⟨Nat.le_refl _,by simp⟩)))
  have HSd:=hidW (HS.out.below (below_drew (Below.refl _ _)))
  have HD:=hidW (HSd.out.drop d hd hl)
  have HB:=hidW (Bl.new w 37 [.int .i64 2,.int .i64 nr,.int .i64 d.kind,.int .u32 d.va,.int .i64 d.asid,.int .u64 pa,.int .u32 v,.int .i64 ai,.int .u32 va])
  have HG:=hidW h.gl
  clear h hd hl
  go_enter Tryz.func11,Tryz.ntmps11
  go_wp2
  have HJ:Hid ((w.alloc (.cells #[.int .i64 2,.int .i64 nr,.int .i64 d.kind,.int .u32 d.va,.int .i64 d.asid,.int .u64 pa,.int .u32 v,.int .i64 ai,.int .u32 va] 37)).drew.cell? ⟨x,4,none⟩=some (.pointer (some ⟨p,0,none⟩))∧(w.alloc (.cells #[.int .i64 2,.int .i64 nr,.int .i64 d.kind,.int .u32 d.va,.int .i64 d.asid,.int .u64 pa,.int .u32 v,.int .i64 ai,.int .u32 va] 37)).drew.cell? ⟨w.heap.size,2,none⟩=some (.int .i64 d.kind)∧(w.alloc (.cells #[.int .i64 2,.int .i64 nr,.int .i64 d.kind,.int .u32 d.va,.int .i64 d.asid,.int .u64 pa,.int .u32 v,.int .i64 ai,.int .u32 va] 37)).drew.cell? ⟨w.heap.size,3,none⟩=some (.int .u32 d.va)∧(w.alloc (.cells #[.int .i64 2,.int .i64 nr,.int .i64 d.kind,.int .u32 d.va,.int .i64 d.asid,.int .u64 pa,.int .u32 v,.int .i64 ai,.int .u32 va] 37)).drew.cell? ⟨w.heap.size,4,none⟩=some (.int .i64 d.asid)) :=
    ⟨HSd.out.box.cell 4,HB.out.drew.cell 2,HB.out.drew.cell 3,HB.out.drew.cell 4⟩
  go_region_held3 (fun w'=>w'.cell? ⟨x,4,none⟩=some (.pointer (some ⟨p,0,none⟩))∧w'.cell? ⟨w.heap.size,2,none⟩=some (.int .i64 d.kind)∧w'.cell? ⟨w.heap.size,3,none⟩=some (.int .u32 d.va)∧w'.cell? ⟨w.heap.size,4,none⟩=some (.int .i64 d.asid)) (exact HJ.out) (first
    | (go_at_call 25; refine HD.out.mono ?_; rintro e w1 ⟨rfl,g1,g2⟩; have HBn:Bl w1 w.heap.size 37 [.int .i64 2,.int .i64 nr,.int .i64 d.kind,.int .u32 d.va,.int .i64 d.asid,.int .u64 pa,.int .u32 v,.int .i64 ai,.int .u32 va]:=(g2 _ (Or.inr rfl)).trans HB.out; have HJ:=hidW (And.intro (g1.box.cell 4) (And.intro (HBn.cell 2) (And.intro (HBn.cell 3) (HBn.cell 4)))); have HX1:=hidW g1; have HX2:=hidW g2; clear g1 g2 HBn))
  go_wp2
  refine bodyPost_end (results_none Tryz.results11 _ _ _) rfl ⟨rfl,HX1.out.more (Below.refl _ _) (fun b hb=> .inl (.inl hb)),fun b hb=>(HX2.out b (.inl hb)).trans ?_⟩
  exact Below.heap_alloc _ _ _ (HG.out b hb).1
set_option maxRecDepth 100000 in
set_option maxHeartbeats 4000000 in
theorem step_put (h:SgX G W w x p kb jb wv iv f vp vw vc σ) (hW:TS W) (nr:Int) (d:Dro) (pa v ai va:Int) (hp:0≤pa∧pa<18446744073709551616) (hv:0≤v∧v<4294967296) :
    Calls Tryz.prog 11 #[.pointer (some ⟨x,0,none⟩),.agg #[.int .i64 3,.int .i64 nr,.int .i64 d.kind,.int .u32 d.va,.int .i64 d.asid,.int .u64 pa,.int .u32 v,.int .i64 ai,.int .u32 va]] w fun e w'=>e= .returned (.tuple #[])∧SgX G W w' x p kb jb wv iv f vp vw vc ⟨σ.K,σ.J,σ.mem.put pa v⟩∧∀b,G b→w'.heap[b]? =w.heap[b]? :=by
  have HS:=hidW (h.more (G':=fun b=>G b∨b=w.heap.size) (below_new w (.cells #[.int .i64 3,.int .i64 nr,.int .i64 d.kind,.int .u32 d.va,.int .i64 d.asid,.int .u64 pa,.int .u32 v,.int .i64 ai,.int .u32 va] 37)) (fun b hb=>hb.imp (fun h=>h) (fun e=>by subst e; exact ⟨Nat.le_refl _,by simp⟩)))
  have HSd:=hidW (HS.out.below (below_drew (Below.refl _ _)))
  have HD:=hidW (HSd.out.put pa v hp hv hW)
  have HB:=hidW (Bl.new w 37 [.int .i64 3,.int .i64 nr,.int .i64 d.kind,.int .u32 d.va,.int .i64 d.asid,.int .u64 pa,.int .u32 v,.int .i64 ai,.int .u32 va])
  have HG:=hidW h.gl
  clear h hp hv
  go_enter Tryz.func11,Tryz.ntmps11
  go_wp2
  have HJ:Hid ((w.alloc (.cells #[.int .i64 3,.int .i64 nr,.int .i64 d.kind,.int .u32 d.va,.int .i64 d.asid,.int .u64 pa,.int .u32 v,.int .i64 ai,.int .u32 va] 37)).drew.cell? ⟨x,6,none⟩=some wv∧(w.alloc (.cells #[.int .i64 3,.int .i64 nr,.int .i64 d.kind,.int .u32 d.va,.int .i64 d.asid,.int .u64 pa,.int .u32 v,.int .i64 ai,.int .u32 va] 37)).drew.cell? ⟨w.heap.size,5,none⟩=some (.int .u64 pa)∧(w.alloc (.cells #[.int .i64 3,.int .i64 nr,.int .i64 d.kind,.int .u32 d.va,.int .i64 d.asid,.int .u64 pa,.int .u32 v,.int .i64 ai,.int .u32 va] 37)).drew.cell? ⟨w.heap.size,6,none⟩=some (.int .u32 v)) :=
    ⟨HSd.out.box.cell 6,HB.out.drew.cell 5,HB.out.drew.cell 6⟩
  go_region_held3 (fun w'=>w'.cell? ⟨x,6,none⟩=some wv∧w'.cell? ⟨w.heap.size,5,none⟩=some (.int .u64 pa)∧w'.cell? ⟨w.heap.size,6,none⟩=some (.int .u32 v)) (exact HJ.out) (first
    | (go_at_call 43; refine HD.out.mono ?_; rintro e w1 ⟨rfl,g1,g2⟩; have HBn:Bl w1 w.heap.size 37 [.int .i64 3,.int .i64 nr,.int .i64 d.kind,.int .u32 d.va,.int .i64 d.asid,.int .u64 pa,.int .u32 v,.int .i64 ai,.int .u32 va]:=(g2 _ (Or.inr rfl)).trans HB.out; have HJ:=hidW (And.intro (g1.box.cell 6) (And.intro (HBn.cell 5) (HBn.cell 6))); have HX1:=hidW g1; have HX2:=hidW g2; clear g1 g2 HBn))
  go_wp2
  refine bodyPost_end (results_none Tryz.results11 _ _ _) rfl ⟨rfl,HX1.out.more (Below.refl _ _) (fun b hb=> .inl (.inl hb)),fun b hb=>(HX2.out b (.inl hb)).trans ?_⟩
  exact Below.heap_alloc _ _ _ (HG.out b hb).1
set_option maxRecDepth 100000 in
set_option maxHeartbeats 4000000 in
theorem step_other (h:SgX G W w x p kb jb wv iv f vp vw vc σ) (kd nr:Int) (d:Dro) (pa v ai va:Int) (h1:kd≠1) (h2:kd≠2) (h3:kd≠3) :
    Calls Tryz.prog 11 #[.pointer (some ⟨x,0,none⟩),.agg #[.int .i64 kd,.int .i64 nr,.int .i64 d.kind,.int .u32 d.va,.int .i64 d.asid,.int .u64 pa,.int .u32 v,.int .i64 ai,.int .u32 va]] w fun e w'=>e= .returned (.tuple #[])∧SgX G W w' x p kb jb wv iv f vp vw vc σ∧∀b,G b→w'.heap[b]? =w.heap[b]? :=by
  have HS:=hidW (h.below (below_new w (.cells #[.int .i64 kd,.int .i64 nr,.int .i64 d.kind,.int .u32 d.va,.int .i64 d.asid,.int .u64 pa,.int .u32 v,.int .i64 ai,.int .u32 va] 37)))
  have HG:=hidW h.gl
  clear h
  go_enter Tryz.func11,Tryz.ntmps11
  go_wp2
  exact bodyPost_end (results_none Tryz.results11 _ _ _) rfl ⟨rfl,HS.out,fun b hb=>Below.heap_alloc _ _ _ (HG.out b hb).1⟩
set_option maxRecDepth 100000 in
set_option maxHeartbeats 4000000 in
theorem step_nosee (a:Option Addr) (n cap:Nat) (hz:n=0) (h:SgX G W w x p kb jb wv iv f vp vw (.slice a n cap) σ) (nr:Int) (d:Dro) (pa v ai va:Int) :
    Calls Tryz.prog 11 #[.pointer (some ⟨x,0,none⟩),.agg #[.int .i64 1,.int .i64 nr,.int .i64 d.kind,.int .u32 d.va,.int .i64 d.asid,.int .u64 pa,.int .u32 v,.int .i64 ai,.int .u32 va]] w fun e w'=>e= .returned (.tuple #[])∧SgX G W w' x p kb jb wv iv f vp vw (.slice a n cap) σ∧∀b,G b→w'.heap[b]? =w.heap[b]? :=by
  subst hz
  have HS:=hidW (h.below (below_new w (.cells #[.int .i64 1,.int .i64 nr,.int .i64 d.kind,.int .u32 d.va,.int .i64 d.asid,.int .u64 pa,.int .u32 v,.int .i64 ai,.int .u32 va] 37)))
  have c3:=HS.out.box.cell 3
  have HG:=hidW h.gl
  clear h
  go_enter Tryz.func11,Tryz.ntmps11
  go_wp2
  exact bodyPost_end (results_none Tryz.results11 _ _ _) rfl ⟨rfl,HS.out,fun b hb=>Below.heap_alloc _ _ _ (HG.out b hb).1⟩
theorem rem_wrap {a n:Int} (h:0<n):(a.tmod n<0→a.tmod n+n=a%n)∧(¬a.tmod n<0→a.tmod n=a%n):=by
  have h1:=Int.tmod_eq_emod (a:=a) (b:=n)
  have h2:=Int.emod_nonneg a (show n≠0 by omega)
  have h3:=Int.emod_lt_of_pos a h
  split at h1
  · constructor
    · intro h; omega
    · intro _; omega
  · have:(n.natAbs:Int)=n:=by omega
    constructor
    · intro h; omega
    · intro h; omega
theorem rem_rng {a n:Int} (h:0<n): -n<a.tmod n∧a.tmod n<n:=by
  have h1:=Int.tmod_eq_emod (a:=a) (b:=n)
  have h2:=Int.emod_nonneg a (show n≠0 by omega)
  have h3:=Int.emod_lt_of_pos a h
  split at h1
  · omega
  · have:(n.natAbs:Int)=n:=by omega
    rename_i hh
    have:¬a%n=0:=fun e=>hh (.inr (Int.dvd_of_emod_eq_zero e))
    omega
set_option maxRecDepth 100000 in
set_option maxHeartbeats 4000000 in
theorem step_see (b0 off cap n:Nat) (h:SgX G W w x p kb jb wv iv f vp vw (.slice (some ⟨b0,off,none⟩) n cap) σ) (nr:Int) (d:Dro) (pa v ai va:Int) (hn:0<n) (hn2:n≤4611686018427387904) (hnr: -9223372036854775808≤nr∧nr≤9223372036854775807) (k:Nat) (hk:(k:Int)=nr%(n:Int)) (c:Ctx) (hc:c.Ok) (hb0:b0<W.heap.size) (hcs:W.cell? ⟨b0,off+k*12,none⟩=some (.bool c.on)∧W.cell? ⟨b0,off+k*12+1,none⟩=some (.bool c.tre)∧W.cell? ⟨b0,off+k*12+2,none⟩=some (.bool c.afe)∧W.cell? ⟨b0,off+k*12+3,none⟩=some (.int .i64 c.n)∧W.cell? ⟨b0,off+k*12+4,none⟩=some (.bool c.pd0)∧W.cell? ⟨b0,off+k*12+5,none⟩=some (.bool c.pd1)∧W.cell? ⟨b0,off+k*12+6,none⟩=some (.int .u64 c.b0)∧W.cell? ⟨b0,off+k*12+7,none⟩=some (.int .u64 c.b1)∧W.cell? ⟨b0,off+k*12+8,none⟩=some (.int .u32 c.dacr)∧W.cell? ⟨b0,off+k*12+9,none⟩=some (.int .u32 c.prrr)∧W.cell? ⟨b0,off+k*12+10,none⟩=some (.int .u32 c.nmrr)∧W.cell? ⟨b0,off+k*12+11,none⟩=some (.int .i64 c.asid)) (hl:σ.K.length≤2305843009213693952) :
    Calls Tryz.prog 11 #[.pointer (some ⟨x,0,none⟩),.agg #[.int .i64 1,.int .i64 nr,.int .i64 d.kind,.int .u32 d.va,.int .i64 d.asid,.int .u64 pa,.int .u32 v,.int .i64 ai,.int .u32 va]] w fun e w'=>e= .returned (.tuple #[])∧SgX G W w' x p kb jb wv iv f vp vw (.slice (some ⟨b0,off,none⟩) n cap) (σ.see c)∧∀b,G b→w'.heap[b]? =w.heap[b]? :=by
  have HS:=hidW (h.below (below_new w (.cells #[.int .i64 1,.int .i64 nr,.int .i64 d.kind,.int .u32 d.va,.int .i64 d.asid,.int .u64 pa,.int .u32 v,.int .i64 ai,.int .u32 va] 37)))
  have HSd:=hidW (HS.out.below (below_drew (Below.refl _ _)))
  have HD:=hidW (HSd.out.see c hc hl)
  have c3:=HS.out.box.cell 3
  have HG:=hidW h.gl
  have hz:(0:Int)<(n:Int):=by omega
  have r1:=rem_wrap (a:=nr) hz
  have r2:=rem_rng (a:=nr) hz
  have hkn:k<n:=by have:=Int.emod_lt_of_pos nr hz; omega
  have hkz:(k:Int)<(n:Int):=by omega
  have HH:Hid (∀ww σ',SgX G W ww x p kb jb wv iv f vp vw (.slice (some ⟨b0,off,none⟩) n cap) σ'→ww.cell? ⟨x,3,none⟩=some (.slice (some ⟨b0,off,none⟩) n cap)∧ww.cell? ⟨x,4,none⟩=some (.pointer (some ⟨p,0,none⟩))∧ww.cell? ⟨x,5,none⟩=some iv∧ww.cell? ⟨b0,off+k*12,none⟩=some (.bool c.on)∧ww.cell? ⟨b0,off+k*12+1,none⟩=some (.bool c.tre)∧ww.cell? ⟨b0,off+k*12+2,none⟩=some (.bool c.afe)∧ww.cell? ⟨b0,off+k*12+3,none⟩=some (.int .i64 c.n)∧ww.cell? ⟨b0,off+k*12+4,none⟩=some (.bool c.pd0)∧ww.cell? ⟨b0,off+k*12+5,none⟩=some (.bool c.pd1)∧ww.cell? ⟨b0,off+k*12+6,none⟩=some (.int .u64 c.b0)∧ww.cell? ⟨b0,off+k*12+7,none⟩=some (.int .u64 c.b1)∧ww.cell? ⟨b0,off+k*12+8,none⟩=some (.int .u32 c.dacr)∧ww.cell? ⟨b0,off+k*12+9,none⟩=some (.int .u32 c.prrr)∧ww.cell? ⟨b0,off+k*12+10,none⟩=some (.int .u32 c.nmrr)∧ww.cell? ⟨b0,off+k*12+11,none⟩=some (.int .i64 c.asid)):=by
    intro ww σ' h
    obtain ⟨e0,e1,e2,e3,e4,e5,e6,e7,e8,e9,e10,e11⟩:=hcs
    have hh:∀o,ww.cell? ⟨b0,o,none⟩=W.cell? ⟨b0,o,none⟩:=fun o=>h.bel.cell (p:=⟨b0,o,none⟩) hb0
    exact ⟨h.box.cell 3,h.box.cell 4,h.box.cell 5,(hh _).trans e0,(hh _).trans e1,(hh _).trans e2,(hh _).trans e3,(hh _).trans e4,(hh _).trans e5,(hh _).trans e6,(hh _).trans e7,(hh _).trans e8,(hh _).trans e9,(hh _).trans e10,(hh _).trans e11⟩
  have HJ:=hidW (HH.out _ _ HSd.out)
  clear h hc hl hcs
  generalize (if seO c=true∨c.on=false then (0:Int) else 1)=rr at HD
  generalize hq:nr.tmod n=q at *
  by_cases hneg:q<0
  · have e1:q+n=k:=by omega
    clear r1 r2 hk
    go_enter Tryz.func11,Tryz.ntmps11
    go_wp2
    go_region_held3 (fun ww=>ww.cell? ⟨x,3,none⟩=some (.slice (some ⟨b0,off,none⟩) n cap)∧ww.cell? ⟨x,4,none⟩=some (.pointer (some ⟨p,0,none⟩))∧ww.cell? ⟨x,5,none⟩=some iv∧ww.cell? ⟨b0,off+k*12,none⟩=some (.bool c.on)∧ww.cell? ⟨b0,off+k*12+1,none⟩=some (.bool c.tre)∧ww.cell? ⟨b0,off+k*12+2,none⟩=some (.bool c.afe)∧ww.cell? ⟨b0,off+k*12+3,none⟩=some (.int .i64 c.n)∧ww.cell? ⟨b0,off+k*12+4,none⟩=some (.bool c.pd0)∧ww.cell? ⟨b0,off+k*12+5,none⟩=some (.bool c.pd1)∧ww.cell? ⟨b0,off+k*12+6,none⟩=some (.int .u64 c.b0)∧ww.cell? ⟨b0,off+k*12+7,none⟩=some (.int .u64 c.b1)∧ww.cell? ⟨b0,off+k*12+8,none⟩=some (.int .u32 c.dacr)∧ww.cell? ⟨b0,off+k*12+9,none⟩=some (.int .u32 c.prrr)∧ww.cell? ⟨b0,off+k*12+10,none⟩=some (.int .u32 c.nmrr)∧ww.cell? ⟨b0,off+k*12+11,none⟩=some (.int .i64 c.asid)) (exact HJ.out) (first
      | (go_at_call 22; refine HD.out.mono ?_; rintro e w1 ⟨rfl,g1,g2⟩; have HJ:=hidW (HH.out _ _ g1); have HX1:=hidW g1; have HX2:=hidW g2; clear g1 g2))
    go_wp2
    refine bodyPost_end (results_none Tryz.results11 _ _ _) rfl ⟨rfl,HX1.out,fun b hb=>(HX2.out b hb).trans ?_⟩
    exact Below.heap_alloc _ _ _ (HG.out b hb).1
  · have e1:q=k:=by omega
    clear r1 r2 hk
    subst e1
    go_enter Tryz.func11,Tryz.ntmps11
    go_wp2
    go_region_held3 (fun ww=>ww.cell? ⟨x,3,none⟩=some (.slice (some ⟨b0,off,none⟩) n cap)∧ww.cell? ⟨x,4,none⟩=some (.pointer (some ⟨p,0,none⟩))∧ww.cell? ⟨x,5,none⟩=some iv∧ww.cell? ⟨b0,off+k*12,none⟩=some (.bool c.on)∧ww.cell? ⟨b0,off+k*12+1,none⟩=some (.bool c.tre)∧ww.cell? ⟨b0,off+k*12+2,none⟩=some (.bool c.afe)∧ww.cell? ⟨b0,off+k*12+3,none⟩=some (.int .i64 c.n)∧ww.cell? ⟨b0,off+k*12+4,none⟩=some (.bool c.pd0)∧ww.cell? ⟨b0,off+k*12+5,none⟩=some (.bool c.pd1)∧ww.cell? ⟨b0,off+k*12+6,none⟩=some (.int .u64 c.b0)∧ww.cell? ⟨b0,off+k*12+7,none⟩=some (.int .u64 c.b1)∧ww.cell? ⟨b0,off+k*12+8,none⟩=some (.int .u32 c.dacr)∧ww.cell? ⟨b0,off+k*12+9,none⟩=some (.int .u32 c.prrr)∧ww.cell? ⟨b0,off+k*12+10,none⟩=some (.int .u32 c.nmrr)∧ww.cell? ⟨b0,off+k*12+11,none⟩=some (.int .i64 c.asid)) (exact HJ.out) (first
      | (go_at_call 22; refine HD.out.mono ?_; rintro e w1 ⟨rfl,g1,g2⟩; have HJ:=hidW (HH.out _ _ g1); have HX1:=hidW g1; have HX2:=hidW g2; clear g1 g2))
    go_wp2
    refine bodyPost_end (results_none Tryz.results11 _ _ _) rfl ⟨rfl,HX1.out,fun b hb=>(HX2.out b hb).trans ?_⟩
    exact Below.heap_alloc _ _ _ (HG.out b hb).1
set_option maxRecDepth 100000 in
theorem step_any (h:SgX G W w x p kb jb wv iv f vp vw vc σ) (hW:TS W) (cs:List Ctx) (hvc:Sli encC 12 W vc cs) (hcs:∀c∈cs,c.Ok) (hln:cs.length≤4611686018427387904) (o:Oq) (ho:o.Ok) (hl:σ.K.length≤2305843009213693952) :
    Calls Tryz.prog 11 #[.pointer (some ⟨x,0,none⟩),.agg #[.int .i64 o.kind,.int .i64 o.nr,.int .i64 o.d.kind,.int .u32 o.d.va,.int .i64 o.d.asid,.int .u64 o.pa,.int .u32 o.w,.int .i64 o.asid,.int .u32 o.va]] w fun e w'=>e= .returned (.tuple #[])∧SgX G W w' x p kb jb wv iv f vp vw vc (σ.step cs o)∧∀b,G b→w'.heap[b]? =w.heap[b]? :=by
  obtain ⟨kd,nr,d,pa,v,ai,va⟩:=o
  unfold Pst.step
  dsimp only
  by_cases h1:kd=1
  · subst h1
    rw [if_pos rfl]
    obtain ⟨a,cap,rfl⟩:=hvc.form
    by_cases hz:cs.length=0
    · have:ctxAt cs nr=Option.none:=by unfold ctxAt; rw [if_pos hz]
      rw [this]
      exact step_nosee a cs.length cap hz h nr d pa v ai va
    · obtain ⟨k,c,hk,hkn,hc,hat⟩:=ctxAt_some (by omega:0<cs.length) nr
      rw [hat]
      obtain ⟨b0,off,rfl,hb0,hcc⟩:=hvc.ctx (Below.refl _ _) hc
      exact step_see b0 off cap cs.length h nr d pa v ai va (by omega) hln ho.nr k hkn c (hcs c (List.mem_of_getElem? hc)) hb0 hcc hl
  · rw [if_neg h1]
    by_cases h2:kd=2
    · subst h2
      rw [if_pos rfl]
      exact step_drop h nr d pa v ai va ho.dv (by omega)
    · rw [if_neg h2]
      by_cases h3:kd=3
      · subst h3
        rw [if_pos rfl]
        exact step_put h hW nr d pa v ai va ho.pa ho.w
      · rw [if_neg h3]
        exact step_other h kd nr d pa v ai va h1 h2 h3
end
end Go.Proofs.YtnjlajjjcmhfgaaGreatDoor
