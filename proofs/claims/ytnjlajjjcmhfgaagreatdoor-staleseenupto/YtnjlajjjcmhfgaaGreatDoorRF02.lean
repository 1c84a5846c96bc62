import Derived.Test.YtnjlajjjcmhfgaaGreatDoorRA28
import Derived.Test.YtnjlajjjcmhfgaaGreatDoorRA16
import Derived.Laws.CopyRow
import Derived.Laws.Externs
import Derived.Deep.Draws
import Derived.Test.YtnjlajjjcmhfgaaGreatDoorRA29
import Derived.OwnWalkIn
namespace Go.Proofs.YtnjlajjjcmhfgaaGreatDoor
open Go.RowKit
open Mm (Turn gr RM valV errV Byts setV RowAt)
set_option linter.unusedVariables false
set_option linter.unusedSimpArgs false
structure Bk (K B:List Blo):Prop where
  nd:B.Nodup
  iff:∀b,b∈B↔b∈K
theorem Bk.nil:Bk [] []:=⟨.nil,fun _=>Iff.rfl⟩
theorem Bk.len {K B:List Blo} (h:Bk K B) (hK:K.Nodup):K.length=B.length:=by
  have h1:=nodup_len hK (m:=B) (fun b hb=>(h.iff b).2 hb)
  have h2:=nodup_len h.nd (m:=K) (fun b hb=>(h.iff b).1 hb)
  omega
theorem Bk.drop {K B:List Blo} (h:Bk K B) (d:Dro):Bk (drK d K) (B.filter fun b=> !tkF d b):=by
  refine ⟨h.nd.filter _,fun b=> ?_⟩
  unfold drK
  rw [List.mem_filter,List.mem_filter,h.iff]
def bk1 (a:Int) (B:List Blo) (t:Tra):List Blo:=if (B.any fun y=>y.same (tgB a t))=true then B else B++[tgB a t]
def bkA (a:Int) (l:List Tra) (B:List Blo):List Blo:=l.foldl (bk1 a) B
theorem any_same {B:List Blo} {x:Blo}:(B.any fun y=>y.same x)=true↔x∈B:=by
  rw [List.any_eq_true]
  constructor
  · rintro ⟨y,hy,h⟩
    rw [←(Blo.same_iff _ _).1 h]
    exact hy
  · exact fun h=>⟨x,h,Blo.same_self x⟩
theorem bk1_nd {a:Int} {B:List Blo} (h:B.Nodup) (t:Tra):(bk1 a B t).Nodup:=by
  unfold bk1
  split
  · exact h
  · rename_i hn
    rw [any_same] at hn
    refine List.nodup_append.2 ⟨h,by simp,fun x hx y hy=> ?_⟩
    simp only [List.mem_singleton] at hy
    subst hy
    intro e
    subst e
    exact hn hx
theorem mem_bk1 {a:Int} {B:List Blo} {t:Tra} {x:Blo}:x∈bk1 a B t↔x∈B∨x=tgB a t:=by
  unfold bk1
  split
  · rename_i h
    rw [any_same] at h
    constructor
    · exact .inl
    · rintro (h1|h1)
      · exact h1
      · rw [h1]; exact h
  · simp
theorem bk1_len {a:Int} {B:List Blo} {t:Tra}:(bk1 a B t).length≤B.length+1:=by
  unfold bk1
  split <;>simp
theorem bkA_snoc (a:Int) (l:List Tra) (t:Tra) (B:List Blo):bkA a (l++[t]) B=bk1 a (bkA a l B) t:=by simp [bkA,List.foldl_append]
theorem bkA_len {a:Int}:∀ {l:List Tra} {B:List Blo},(bkA a l B).length≤B.length+l.length
  | [],_=>by simp [bkA]
  | t::l,B=>by
    have h:=bkA_len (a:=a) (l:=l) (B:=bk1 a B t)
    have h2:=bk1_len (a:=a) (B:=B) (t:=t)
    show (bkA a l (bk1 a B t)).length≤_
    rw [List.length_cons]
    omega
theorem bkA_spec {a:Int}:∀ {l:List Tra} {B:List Blo},B.Nodup→(bkA a l B).Nodup∧∀x,x∈bkA a l B↔x∈B∨∃t∈l,x=tgB a t
  | [],B,h=>⟨h,fun x=>by simp [bkA]⟩
  | t::l,B,h=>by
    obtain ⟨h1,h2⟩:=bkA_spec (a:=a) (l:=l) (bk1_nd h t)
    refine ⟨h1,fun x=> ?_⟩
    show x∈bkA a l (bk1 a B t)↔_
    rw [h2,mem_bk1]
    constructor
    · rintro ((h|h)|⟨u,hu,h⟩)
      · exact .inl h
      · exact .inr ⟨t,.head _,h⟩
      · exact .inr ⟨u,.tail _ hu,h⟩
    · rintro (h|⟨u,hu,h⟩)
      · exact .inl (.inl h)
      · rcases List.mem_cons.1 hu with rfl|hu
        · exact .inl (.inr h)
        · exact .inr ⟨u,hu,h⟩
theorem Bk.see {K B:List Blo} (h:Bk K B) (M:Mo) (c:Ctx):Bk (seK M c K) (bkA c.asid (blL M c) B):=by
  obtain ⟨h1,h2⟩:=bkA_spec (a:=c.asid) (l:=blL M c) h.nd
  refine ⟨h1,fun b=> ?_⟩
  unfold seK
  rw [h2,mem_seL,h.iff]
theorem seen_dirty {σ:Pst} {c:Ctx} (h:Sml (σ.see c)) (hO:seO c=true) {t:Tra} (ht:t∈blL σ.mem.mo c) :
    ((diL σ.mem.mo (σ.see c).K (σ.see c).J).any fun y=>y.asid == c.asid && y.b.same (tgB c.asid t))= !smF σ.mem.mo c t:=by
  have hok:=h.ok
  have eK:(σ.see c).K=seK σ.mem.mo c σ.K:=by unfold Pst.see; rw [if_pos hO]
  have eJ:(σ.see c).J=setJ σ.J c.asid c:=by unfold Pst.see; rw [if_pos hO]
  have hJ:(σ.see c).J c.asid=some c:=by rw [eJ]; unfold setJ; rw [if_pos rfl]
  have hm:tgB c.asid t∈(σ.see c).K:=by rw [eK]; exact mem_seL.2 (.inr ⟨t,ht,rfl⟩)
  have hho:hoF (tgB c.asid t) c.asid=true:=by
    unfold hoF tgB
    cases t.ng <;>simp
  rw [Bool.eq_iff_iff,List.any_eq_true]
  constructor
  · rintro ⟨y,hy,h2⟩
    rw [Bool.and_eq_true] at h2
    obtain ⟨ya,yb⟩:=y
    have e1:ya=c.asid:=by simpa using h2.1
    have e2:yb=tgB c.asid t:=(Blo.same_iff _ _).1 h2.2
    subst e1 e2
    have h3:=((mem_diL hok.j).1 hy).2
    unfold diF at h3
    dsimp only at h3
    rw [hJ] at h3
    dsimp only at h3
    rw [hho,Bool.true_and] at h3
    exact h3
  · intro h3
    refine ⟨⟨c.asid,tgB c.asid t⟩,(mem_diL hok.j).2 ⟨hm,?_⟩,?_⟩
    · unfold diF
      dsimp only
      rw [hJ]
      dsimp only
      rw [hho,Bool.true_and]
      exact h3
    · simp [Blo.same_self]
theorem Pst.see_mem (σ:Pst) (c:Ctx):(σ.see c).mem=σ.mem:=by unfold Pst.see; split <;>rfl
theorem filt_step {p:Blo→Bool} {B:List Blo} {k:Nat} {b:Blo} (h:B[k]? =some b):(B.take (k+1)).filter p=if p b=true then (B.take k).filter p++[b] else (B.take k).filter p:=by
  obtain ⟨hk,rfl⟩:=List.getElem?_eq_some_iff.1 h
  rw [List.take_add_one,List.getElem?_eq_getElem hk,Option.toList_some,List.filter_append]
  split
  · rename_i hp
    simp [hp]
  · rename_i hp
    simp [hp]
theorem ri_next {K:List Blo} (h:Ri K) {k:Nat} {a b:Blo} (ha:K[k]? =some a) (hb:K[k+1]? =some b):b.same a=false:=by
  obtain ⟨h1,rfl⟩:=List.getElem?_eq_some_iff.1 ha
  obtain ⟨h2,rfl⟩:=List.getElem?_eq_some_iff.1 hb
  have h3:=List.pairwise_iff_getElem.1 h.nodup k (k+1) h1 h2 (by omega)
  cases hs:(K[k+1]).same K[k] with
  | false=>rfl
  | true=>exact absurd ((Blo.same_iff _ _).1 hs).symm h3
end Go.Proofs.YtnjlajjjcmhfgaaGreatDoor
namespace Go.Proofs.YtnjlajjjcmhfgaaGreatDoor
open Go.RowKit
open Mm (Turn)
set_option linter.unusedVariables false
set_option linter.unusedSimpArgs false
end Go.Proofs.YtnjlajjjcmhfgaaGreatDoor
namespace Go.Proofs.YtnjlajjjcmhfgaaGreatDoor
open Go.RowKit
open Mm (Turn gr RM valV errV Byts setV RowAt)
set_option linter.unusedVariables false
set_option linter.unusedSimpArgs false
end Go.Proofs.YtnjlajjjcmhfgaaGreatDoor
namespace Go.Proofs.YtnjlajjjcmhfgaaGreatDoor
open Go.RowKit
open Mm (Turn gr RM valV errV Byts setV RowAt)
set_option linter.unusedVariables false
set_option linter.unusedSimpArgs false
attribute [local go_sem] Oper.semAt_some
abbrev zC:List Value:=[.bool false,.bool false,.bool false,.int .i64 0,.bool false,.bool false,.int .u64 0,.int .u64 0,.int .u32 0,.int .u32 0,.int .u32 0,.int .i64 0]
structure Got1 (wr wx:World) (s:Nat) (T:TypeId) (l:List Value):Prop where
  bel:Below wr.heap.size wr wx
  B:Bl wx s T l
  hs:wr.heap.size≤s
theorem gb1 {wr w1:World} (h:Below wr.heap.size wr w1) (T:TypeId) (l:List Value):Got1 wr (w1.alloc (.cells l.toArray T)) w1.heap.size T l:=⟨Below.step h (below_new _ _),Bl.new _ _ _,h.size⟩
theorem gbC {wr w1:World} (h:Below wr.heap.size wr w1) (c:Ctx) (g:Nat) (hg:wr.heap.size≤g) (hB:Bl w1 g 47 zC):Got1 wr ((((((((((((w1.setCell ⟨g,0,none⟩ (.bool c.on)).setCell ⟨g,1,none⟩ (.bool c.tre)).setCell ⟨g,2,none⟩ (.bool c.afe)).setCell ⟨g,3,none⟩ (.int .i64 c.n)).setCell ⟨g,4,none⟩ (.bool c.pd0)).setCell ⟨g,5,none⟩ (.bool c.pd1)).setCell ⟨g,6,none⟩ (.int .u64 c.b0)).setCell ⟨g,7,none⟩ (.int .u64 c.b1)).setCell ⟨g,8,none⟩ (.int .u32 c.dacr)).setCell ⟨g,9,none⟩ (.int .u32 c.prrr)).setCell ⟨g,10,none⟩ (.int .u32 c.nmrr)).setCell ⟨g,11,none⟩ (.int .i64 c.asid)) g 47 ([.bool c.on,.bool c.tre,.bool c.afe,.int .i64 c.n,.bool c.pd0,.bool c.pd1,.int .u64 c.b0,.int .u64 c.b1,.int .u32 c.dacr,.int .u32 c.prrr,.int .u32 c.nmrr,.int .i64 c.asid]):=by
  refine ⟨Below.setCell (Below.setCell (Below.setCell (Below.setCell (Below.setCell (Below.setCell (Below.setCell (Below.setCell (Below.setCell (Below.setCell (Below.setCell (Below.setCell h hg _) hg _) hg _) hg _) hg _) hg _) hg _) hg _) hg _) hg _) hg _) hg _,?_,hg⟩
  have:=(((((((((((hB.set 0 (.bool c.on)).set 1 (.bool c.tre)).set 2 (.bool c.afe)).set 3 (.int .i64 c.n)).set 4 (.bool c.pd0)).set 5 (.bool c.pd1)).set 6 (.int .u64 c.b0)).set 7 (.int .u64 c.b1)).set 8 (.int .u32 c.dacr)).set 9 (.int .u32 c.prrr)).set 10 (.int .u32 c.nmrr)).set 11 (.int .i64 c.asid)
  exact this
end Go.Proofs.YtnjlajjjcmhfgaaGreatDoor
namespace Go.Proofs.YtnjlajjjcmhfgaaGreatDoor
open Go.RowKit Go.Shelf
open Mm (Turn gr RM valV errV Byts setV RowAt)
set_option linter.unusedVariables false
set_option linter.unusedSimpArgs false
attribute [local go_sem] Oper.semAt_some
section
variable {G G' X:Nat→Prop} {W w w':World} {x p kb jb:Nat} {wv iv:Value} {f:Int} {vp vw vc:Value} {σ:Pst}
theorem SgX.grow (h:SgX G W w x p kb jb wv iv f vp vw vc σ) (hW:TS W) (T:Turn X w w') (hX:∀b,X b→(G b∧b≠x∧b≠p∧W.heap.size≤b)) (hG:∀b,G' b→G b∨(w.heap.size≤b∧b<w'.heap.size)):SgX G' W w' x p kb jb wv iv f vp vw vc σ:=by
  obtain ⟨S,h1,h2⟩:=h.mem
  have hlt:=h.pk.lt
  have hb:Below W.heap.size W w':=h.bel.trans (T.to (fun b hb=>(hX b hb).2.2.2) h.bel.size)
  refine ⟨h.box.turn T (fun hx=>(hX _ hx).2.1 rfl),h.pk.turn T (fun hx=>(hX _ hx).2.2.1 rfl) (fun hx=>(h.gl _ (hX _ hx).1).2.1 rfl) (fun hx=>(h.gl _ (hX _ hx).1).2.2 rfl),⟨S,h1.keep T (fun b hb hx=>(h2 b hb).2.2.2.2.2 (hX b hx).1),fun b hb=> ?_⟩,h.nx,h.new,hW.below hb,hb,fun b hg=> ?_⟩
  · obtain ⟨g1,g2,g3,g4,g5,g6⟩:=h2 b hb
    refine ⟨g1,g2,g3,g4,g5,fun hg=> ?_⟩
    rcases hG b hg with hg|hg
    · exact g6 hg
    · have:=h1.low b hb; omega
  · rcases hG b hg with hg|hg
    · exact ⟨Nat.lt_of_lt_of_le (h.gl b hg).1 T.size,(h.gl b hg).2⟩
    · exact ⟨hg.2,by omega,by omega⟩
theorem SgX.turnG (h:SgX G W w x p kb jb wv iv f vp vw vc σ) (hW:TS W) (T:Turn X w w') (hX:∀b,X b→(G b∧b≠x∧b≠p∧W.heap.size≤b)):SgX G W w' x p kb jb wv iv f vp vw vc σ:=h.grow hW T hX (fun b hb=> .inl hb)
end
theorem own_sliB {w:World} {lo:Nat} {v:Value} {L:List Blo} (h:w.ownsRow lo 45 9 v L.length (rowG encB L)):Sli encB 9 w v L:=by
  rcases LtG.own encB_len h with ⟨rfl,rfl⟩|⟨g,cap,rest,rfl,h1,h2⟩
  · exact ⟨none,0,rfl,fun i o ho=>by simp at ho⟩
  · exact Sli.of (T:=45) (lo:=lo) encB_len ⟨_,_,rfl,.inr ⟨g,rest,rfl,h1,h2⟩⟩
structure RdX (w2 w:World) (b6:Nat) (bv0 bv:Value) (B:List Blo):Prop where
  T:Turn (fun b=>b=b6∨bv0.ownBlock=some b) w2 w
  bb:Bl w b6 31 [bv]
  own:w.ownsRow (b6+1) 45 9 bv B.length (rowG encB B)
  nb:∀g,bv.ownBlock=some g→bv0.ownBlock=some g∨w2.heap.size≤g
section
variable {w2 w w':World} {b6:Nat} {bv0 bv:Value} {B:List Blo} {Y:Nat→Prop}
theorem RdX.turn (h:RdX w2 w b6 bv0 bv B) (T:Turn Y w w') (hY:∀b,Y b→w2.heap.size≤b∧b≠b6∧bv.ownBlock≠some b):RdX w2 w' b6 bv0 bv B :=
  ⟨h.T.trans T (fun b hb=> .inr (hY b hb).1),h.bb.turn T (fun hb=>(hY _ hb).2.1 rfl),Mm.own_turn h.own T (fun b hb hy=>(hY b hy).2.2 hb),h.nb⟩
theorem RdX.below (h:RdX w2 w b6 bv0 bv B) (hb:Below w.heap.size w w'):RdX w2 w' b6 bv0 bv B:=h.turn (Y:=fun _=>False) (Turn.below hb) (fun _ h=>h.elim)
theorem RdX.sli (h:RdX w2 w b6 bv0 bv B):Sli encB 9 w bv B:=own_sliB h.own
theorem RdX.size (h:RdX w2 w b6 bv0 bv B):w2.heap.size≤w.heap.size:=h.T.size
theorem RdX.keep (h:RdX w2 w b6 bv0 bv B) {b:Nat} {t:TypeId} {l:List Value} (hb:Bl w2 b t l) (h1:b≠b6) (h2:bv0.ownBlock≠some b):Bl w b t l:=hb.turn h.T (fun hh=>hh.elim h1 h2)
theorem RdX.mark (h:RdX w2 w b6 bv0 bv B) {D:Nat} {o:Obj} (hD:w2.heap[D]? =some o) (h1:D≠b6) (h2:bv0.ownBlock≠some D):w.heap[D]? =some o:=(h.T.block D (Array.getElem?_eq_some_iff.1 hD).1 (fun hh=>hh.elim h1 h2)).trans hD
theorem RdX.app (h:RdX w2 w b6 bv0 bv B) (b:Blo) (hl:B.length≤2199023255552) :
    ∃v' w',(∀ty,(Builtin.append_ #[31,31] ty #[bv,.slice (some ⟨w.heap.size,0,none⟩) 1 1]).run Tryz.prog (w.alloc (.cells ([.int .i64 b.asid,.int .i64 b.t.size,.int .u32 b.t.va,.int .u64 b.t.pa,.int .i64 b.t.dom,.int .i64 b.t.ap,.int .u32 b.t.bits,.bool b.t.ng,.bool b.t.xn]).toArray 45))= .ok v' w')∧Bl w' b6 31 [bv]∧Below (b6+1) w w'∧RdX w2 (w'.setCell ⟨b6,0,none⟩ v') b6 bv0 v' (B++[b])∧Turn (fun g=>g=b6∨bv.ownBlock=some g) w (w'.setCell ⟨b6,0,none⟩ v'):=by
  obtain ⟨v',w',hr,ho,hT,hg⟩:=appG (by':=56) encB_len encB_one Tryz.underlying31 infoB rfl w (b6+1) bv B b h.own h.bb.lt (by omega) (by omega)
  have hne:∀g,bv.ownBlock=some g→b6+1≤g:=fun g hh=>(h.own.lt g hh).1
  have hbb:Bl w' b6 31 [bv]:=h.bb.turn hT (fun hh=>by have:=hne b6 hh; omega)
  have hT2:Turn (fun g=>g=b6∨bv.ownBlock=some g) w (w'.setCell ⟨b6,0,none⟩ v'):=(hT.mono (fun b _ hb=> .inr hb)).setCell (p:=⟨b6,0,none⟩) (.inl (.inl rfl)) v'
  refine ⟨v',w',hr,hbb,hT.to (fun b hb=>hne b hb) h.bb.lt,⟨h.T.trans hT2 (fun g hh=> ?_),?_,?_,fun g hh=> ?_⟩,hT2⟩
  · rcases hh with rfl|hh
    · exact .inl (.inl rfl)
    · rcases h.nb g hh with h1|h1
      · exact .inl (.inr h1)
      · exact .inr h1
  · exact hbb.set 0 v'
  · refine Mm.own_turn ho ((Turn.refl (fun g=>g=b6) w').setCell (p:=⟨b6,0,none⟩) (.inl rfl) v') (fun g hh e=> ?_)
    have:=(ho.lt g hh).1
    omega
  · rcases hg g hh with h1|h1
    · exact h.nb g h1
    · exact .inr (Nat.le_trans h.size h1)
end
theorem RdX.apart {w2 w:World} {b6:Nat} {bv0 bv:Value} {B:List Blo} (h:RdX w2 w b6 bv0 bv B) {b:Nat} {t:TypeId} {l:List Value} (hb:Bl w b t l) (h1:t≠45) (h2:t≠31):¬(b=b6∨bv.ownBlock=some b):=by
  rintro (rfl|hh)
  · exact h2 (hb.ty h.bb)
  · rcases LtG.own encB_len h.own with ⟨rfl,_⟩|⟨g,cap,rest,rfl,_,hr⟩
    · cases hh
    · cases hh
      exact h1 (hb.ty (show Bl w g 45 _ from hr))
theorem RdX.cells {w2 w:World} {b6:Nat} {bv0 bv:Value} {B:List Blo} (h:RdX w2 w b6 bv0 bv B):∀b,(b=b6∨bv.ownBlock=some b)→∃t l,Bl w b t l:=by
  rintro b (rfl|hh)
  · exact ⟨_,_,h.bb⟩
  · rcases LtG.own encB_len h.own with ⟨rfl,_⟩|⟨g,cap,rest,rfl,_,hr⟩
    · cases hh
    · cases hh
      exact ⟨_,_,hr⟩
theorem keeps_turn {N:Nat} {X:Nat→Prop} {w w':World} (T:Turn X w w') (hX:∀b,X b→∃t l,Bl w b t l):KeepsFrom N w w' :=
  ⟨T.size,fun k o _ hk ho=>(T.block k (Array.getElem?_eq_some_iff.1 hk).1 (fun hx=>by
    obtain ⟨t,l,hb⟩:=hX k hx
    rw [show w.heap[k]? =_ from hb] at hk
    cases hk
    cases ho)).trans hk⟩
theorem wpListIn_append_run {F:Fence} {n:Nat} {P:Program} (w:World) {ops:Array Oper} {rest:List Oper} {o:Oper} {a:Act} {Q:Exit→Act→World→Prop} (hg:o.guard=none) (s x:Operand) (t:TypeId)
    (hop:o.op= .call { callee:= .builtin .append,args:=#[s,x],argTypes:=#[t,t] }) (v u:Value) (hs:a.eval s=v) (hx:a.eval x=u) {v':Value} {w':World} (hr:(Builtin.append_ #[t,t] o.type #[v,u]).run P w= .ok v' w')
    (h:wpListIn F n P ops Q rest (a.put o.dst v') w'):wpListIn F n P ops Q (o::rest) a w:=by
  refine wpListIn_plain hg fun K hK'=> ?_
  unfold Oper.wpIn
  refine ⟨?_,?_⟩
  · simp [Oper.about,hop,resolve,Target.leads,Sem.run_pure]
  · rw [Oper.semAt_plain F _ _ (by rw [hop]; intro c hc'; cases hc')]
    simp [execOp,hop,resolve,invoke,builtin,hs,hx,hr,Result.andThen]
    exact hK' _ _ h
set_option maxRecDepth 100000 in
theorem eqC (c:Ctx) (w:World):(Op.equalIn 10000 47 (.agg #[.bool c.on,.bool c.tre,.bool c.afe,.int .i64 c.n,.bool c.pd0,.bool c.pd1,.int .u64 c.b0,.int .u64 c.b1,.int .u32 c.dacr,.int .u32 c.prrr,.int .u32 c.nmrr,.int .i64 c.asid]) (.agg #[.bool c.on,.bool c.tre,.bool c.afe,.int .i64 c.n,.bool c.pd0,.bool c.pd1,.int .u64 c.b0,.int .u64 c.b1,.int .u32 c.dacr,.int .u32 c.prrr,.int .u32 c.nmrr,.int .i64 c.asid])).run Tryz.prog w= .ok true w:=by
  obtain ⟨c1,c2,c3,c4,c5,c6,c7,c8,c9,c10,c11,c12⟩:=c
  go_simp
def mk (D:Nat):Deferred:={ target:= .collected D,args:=#[] }
theorem leaves_rets {fn:Func} {q:Tmp} (h:fn.results=#[.cell q 4]) (tmps:Array Value) (W:World) (b:Nat) (hp:tmps.getD q undef= .pointer (some ⟨b,0,none⟩)) :
    ∀(Ds:List Nat) (Y:World),Ds.Pairwise (fun a b=>a≠b)→(∀D∈Ds,W.heap.size≤D∧Y.heap[D]? =some (.deferred (some [])))→Bl Y b 4 [.bool true]→Below W.heap.size W Y→
    LeavesInM Fence.wide 3 Tryz.prog fn tmps (fun e W'=>e= .returned (.bool true)∧Below W.heap.size W W') (Ds.map mk) .returning Y
  | [],Y,_,_,hb,hbel=>⟨_,results_ret h _ _ b true hp hb,rfl,hbel⟩
  | D::Ds,Y,hd,hm,hb,hbel=>by
    obtain ⟨hD,hK⟩:=hm D (.head _)
    have hd':=List.pairwise_cons.1 hd
    have hne:b≠D:=by
      rintro rfl
      rw [show Y.heap[b]? =_ from hb] at hK
      cases hK
    refine ⟨by simp,.inl ⟨_,_,rfl,run_takeDeferred hK,?_⟩⟩
    refine leaves_rets h tmps W b hp Ds _ hd'.2 (fun E hE=> ?_) ?_ ?_
    · obtain ⟨h1,h2⟩:=hm E (.tail _ hE)
      refine ⟨h1,((grownBy_putObj' Y D _).block E (Array.getElem?_eq_some_iff.1 h2).1 (by intro e; cases e; exact hd'.1 _ hE rfl)).trans h2⟩
    · exact ((grownBy_putObj' Y D _).block b hb.lt (by intro e; cases e; exact hne rfl)).trans hb
    · exact hbel.trans (belowK_b (w:=W) (Nat.le_refl _) _ D _ _ hD hK rfl rfl)
def cnA3:Code→Code
  | .cond _ a _=>a
  | c=>c
def seR (f:Func):Code:=lpC (blkC (sq2 (sq1 (sq2 (sq2 (sq2 (sq2 (f.body.getD .skip))))))))
def seC (f:Func):Code:=blkC (sq1 (sq2 (seR f)))
def seA (f:Func):Code:=cnA3 (sq2 (sq1 (sq2 (sq2 (sq2 (seC f))))))
def seF (f:Func):Code:=lpC (blkC (sq2 (sq1 (sq2 (seA f)))))
def seB (f:Func):Code:=cnA3 (sq2 (sq1 (sq2 (sq2 (sq2 (sq2 (seC f)))))))
def seD (f:Func):Code:=cnA3 (sq2 (sq2 (seB f)))
def seG (f:Func):Code:=blkC (sq2 (sq1 (sq2 (seD f))))
def seN (f:Func):Code:=lpC (blkC (sq2 (sq2 (sq2 (sq2 (sq2 (sq2 (sq2 (sq2 (seC f))))))))))
def seY (f:Func):Code:=rfB (seG f)
end Go.Proofs.YtnjlajjjcmhfgaaGreatDoor
namespace Go.Proofs.YtnjlajjjcmhfgaaGreatDoor
open Go.RowKit Go.Shelf
open Mm (Turn gr RM valV errV Byts setV RowAt)
set_option linter.unusedVariables false
set_option linter.unusedSimpArgs false
attribute [local go_sem] Oper.semAt_some
set_option maxRecDepth 1000000 in
set_option maxHeartbeats 16000000 in
theorem seen_filt {Q:Exit→Act→World→Prop} {v0 v1 v2 v3 v4 v5 v7 v9 v12 v13 v14 v15 v16 v17 v18 v19 v20 v21 v22 v23 v24 v25 v26 v27 v28 v29 v30 v31 v32 v33 v34 v35 v36 v37 v38 v39 v40 v41 v42 v43 v44 v45 v46 v47 v48 v49 v50 v51 v52 v53 v54 v55 v56 v57 v58 v59 v60 v61 v62 v63 v64 v65 v66 v67 v68 v69 v70 v71 v72 v73 v74 v75 v76 v77 v78 v79 v80 v81 v82 v83 v84 v85 v86 v87 v88 v89 v90 v91 v92 v93 v94 v95 v96 v97 v98 v99 v100 v101 v102 v103 v104 v105 v106 v107 v108 v109 v110 v111 v112 v113 v114 v115 v116 v117 v118 v119 v120 v121 v122 v123 v124 v125 v126 v127 v128 v129 v130 v131 v132 v133 v134 v135 v136 v137 v138 v139 v140 v141 v142 v143 v144 v145 v146 v147 v148 v149 v150 v151 v152 v153 v154 v155 v156 v157 v158 v159 v160 v161 v162 v163 v164 v165 v166 v167 v168 v169 v170 v171 v172 v173 v174 v175 v176 v177 v178 v179 v180 v181 v182 v183 v184 v185 v186 v187 v188 v189 v190 v191 v192 v193 v194 v195 v196:Value} (ds:List Deferred) (w:World) (b6 b8:Nat) (bv:Value) (B:List Blo) (d:Dro) (qk qn:Int) (qpa qw qas qva:Int) (hbb:Bl w b6 31 [bv]) (h8:Bl w b8 37 [.int .i64 qk,.int .i64 qn,.int .i64 d.kind,.int .u32 d.va,.int .i64 d.asid,.int .u64 qpa,.int .u32 qw,.int .i64 qas,.int .u32 qva]) (hsl:Sli encB 9 w bv B) (hlen:B.length≤1099511627776) (hO:∀b∈B,BOk b) (hd:0≤d.va∧d.va<4294967296) (ht:TR w) (hpan:∀ {c:List PanicEntry} {a:Act} {d:Option Tmp} {v:Value} {w:World},Q (.panic c) (a.put d v) w→Q (.panic c) a w)
    (HQ:Hid (∀ {v' u11 u47 u48 u49 u50 u51 u52 u53 u54 u55 u56 u57 u58 u59 u60 u61 u62 u63 u64 u65 u66 u67:Value} {w':World},Below w.heap.size w w'→w'.ownsRow w.heap.size 45 9 v' (B.filter fun b=> !tkF d b).length (rowG encB (B.filter fun b=> !tkF d b))→Q (.exit 2) ⟨(v0::v1::v2::v3::v4::v5::(.pointer (some ⟨b6,0,none⟩))::v7::(.pointer (some ⟨b8,0,none⟩))::v9::v'::u11::v12::v13::v14::v15::v16::v17::v18::v19::v20::v21::v22::v23::v24::v25::v26::v27::v28::v29::v30::v31::v32::v33::v34::v35::v36::v37::v38::v39::v40::v41::v42::v43::v44::v45::v46::u47::u48::u49::u50::u51::u52::u53::u54::u55::u56::u57::u58::u59::u60::u61::u62::u63::u64::u65::u66::u67::v68::v69::v70::v71::v72::v73::v74::v75::v76::v77::v78::v79::v80::v81::v82::v83::v84::v85::v86::v87::v88::v89::v90::v91::v92::v93::v94::v95::v96::v97::v98::v99::v100::v101::v102::v103::v104::v105::v106::v107::v108::v109::v110::v111::v112::v113::v114::v115::v116::v117::v118::v119::v120::v121::v122::v123::v124::v125::v126::v127::v128::v129::v130::v131::v132::v133::v134::v135::v136::v137::v138::v139::v140::v141::v142::v143::v144::v145::v146::v147::v148::v149::v150::v151::v152::v153::v154::v155::v156::v157::v158::v159::v160::v161::v162::v163::v164::v165::v166::v167::v168::v169::v170::v171::v172::v173::v174::v175::v176::v177::v178::v179::v180::v181::v182::v183::v184::v185::v186::v187::v188::v189::v190::v191::v192::v193::v194::v195::v196::[]).toArray,ds⟩ w')) :
    (Code.loop (seF Tryz.f3)).wp Tryz.prog Q ⟨(v0::v1::v2::v3::v4::v5::(.pointer (some ⟨b6,0,none⟩))::v7::(.pointer (some ⟨b8,0,none⟩))::v9::(.slice none 0 0)::(.int .i64 0)::v12::v13::v14::v15::v16::v17::v18::v19::v20::v21::v22::v23::v24::v25::v26::v27::v28::v29::v30::v31::v32::v33::v34::v35::v36::v37::v38::v39::v40::v41::v42::v43::v44::v45::v46::v47::v48::v49::v50::v51::v52::v53::v54::v55::v56::v57::v58::v59::v60::v61::v62::v63::v64::v65::v66::v67::v68::v69::v70::v71::v72::v73::v74::v75::v76::v77::v78::v79::v80::v81::v82::v83::v84::v85::v86::v87::v88::v89::v90::v91::v92::v93::v94::v95::v96::v97::v98::v99::v100::v101::v102::v103::v104::v105::v106::v107::v108::v109::v110::v111::v112::v113::v114::v115::v116::v117::v118::v119::v120::v121::v122::v123::v124::v125::v126::v127::v128::v129::v130::v131::v132::v133::v134::v135::v136::v137::v138::v139::v140::v141::v142::v143::v144::v145::v146::v147::v148::v149::v150::v151::v152::v153::v154::v155::v156::v157::v158::v159::v160::v161::v162::v163::v164::v165::v166::v167::v168::v169::v170::v171::v172::v173::v174::v175::v176::v177::v178::v179::v180::v181::v182::v183::v184::v185::v186::v187::v188::v189::v190::v191::v192::v193::v194::v195::v196::[]).toArray,ds⟩ w:=by
  obtain ⟨a,cap,rfl⟩:=hsl.form
  have HBB:=hidW hbb
  have H8:=hidW h8
  have HS:=hidW hsl
  have HO:=hidW hO
  have HT:=hidW ht
  generalize hn:B.length=n at *
  have HLN:=hidW hn
  clear hbb h8 hsl hO ht hn
  conv=>arg 2; arg 1; whnf
  go_loopw [10,11] (fun v i wr=>∃k:Nat,k≤n∧i= .int .i64 k∧Hid (Below w.heap.size w wr)∧Hid (wr.ownsRow w.heap.size 45 9 v ((B.take k).filter fun b=> !tkF d b).length (rowG encB ((B.take k).filter fun b=> !tkF d b)))) (fun _ i _=>n-(intOf i).toNat)
  case atStart=>exact ⟨0,Nat.zero_le _,rfl,Below.refl _ _,World.ownsRow_nil _ _ _ _⟩
  case round =>
    obtain ⟨k,hk,rfl,HB,HR⟩:=hrel
    by_cases hlt:k<n
    · obtain ⟨o,hq⟩:∃o,B[k]? =some o:=⟨_,List.getElem?_eq_getElem (by rw [HLN.out]; omega)⟩
      obtain ⟨lb,lo,rfl,hlb,_⟩:=HS.out.blo (Below.refl _ _) hq
      have HH:Hid (∀ww,Below w.heap.size w ww→ww.cell? ⟨b8,2,none⟩=some (.int .i64 d.kind)∧ww.cell? ⟨b8,3,none⟩=some (.int .u32 d.va)∧ww.cell? ⟨b8,4,none⟩=some (.int .i64 d.asid)∧ww.cell? ⟨b6,0,none⟩=some (.slice (some ⟨lb,lo,none⟩) n cap)∧ww.cell? ⟨lb,lo+k*9,none⟩=some (.int .i64 o.asid)∧ww.cell? ⟨lb,lo+k*9+1,none⟩=some (.int .i64 o.t.size)∧ww.cell? ⟨lb,lo+k*9+2,none⟩=some (.int .u32 o.t.va)∧ww.cell? ⟨lb,lo+k*9+3,none⟩=some (.int .u64 o.t.pa)∧ww.cell? ⟨lb,lo+k*9+4,none⟩=some (.int .i64 o.t.dom)∧ww.cell? ⟨lb,lo+k*9+5,none⟩=some (.int .i64 o.t.ap)∧ww.cell? ⟨lb,lo+k*9+6,none⟩=some (.int .u32 o.t.bits)∧ww.cell? ⟨lb,lo+k*9+7,none⟩=some (.bool o.t.ng)∧ww.cell? ⟨lb,lo+k*9+8,none⟩=some (.bool o.t.xn)):=fun ww hb=>by
        obtain ⟨_,_,e1,_,d1⟩:=HS.out.blo hb hq
        cases e1
        exact ⟨(H8.out.below hb).cell 2,(H8.out.below hb).cell 3,(H8.out.below hb).cell 4,(HBB.out.below hb).cell 0,d1⟩
      have hkz:(k:Int)<(n:Int):=by omega
      have hb0:=(HBB.out.below HB.out).cell 0
      simp only [List.getElem?_cons_zero] at hb0
      have hd0:=Below.step HB.out (below_drew (Below.refl _ wr))
      have HD0:=hidW hd0
      have HJ:=hidW (HH.out _ hd0)
      have HTk:=hidW (takes_any d o wr.drew (HT.out.below hd0) (HO.out o (List.mem_of_getElem? hq)) hd)
      have HST:=hidW (filt_step (p:=fun b=> !tkF d b) hq)
      have hln:((B.take k).filter fun b=> !tkF d b).length≤n:=by
        refine Nat.le_trans (List.length_filter_le _ _) ?_
        rw [List.length_take]
        omega
      have HLe:=hidW hln
      clear hq hln hd0
      go_wp2_with fail
      refine wp_region_held_drew (S:=fun ww=>ww.cell? ⟨b8,2,none⟩=some (.int .i64 d.kind)∧ww.cell? ⟨b8,3,none⟩=some (.int .u32 d.va)∧ww.cell? ⟨b8,4,none⟩=some (.int .i64 d.asid)∧ww.cell? ⟨b6,0,none⟩=some (.slice (some ⟨lb,lo,none⟩) n cap)∧ww.cell? ⟨lb,lo+k*9,none⟩=some (.int .i64 o.asid)∧ww.cell? ⟨lb,lo+k*9+1,none⟩=some (.int .i64 o.t.size)∧ww.cell? ⟨lb,lo+k*9+2,none⟩=some (.int .u32 o.t.va)∧ww.cell? ⟨lb,lo+k*9+3,none⟩=some (.int .u64 o.t.pa)∧ww.cell? ⟨lb,lo+k*9+4,none⟩=some (.int .i64 o.t.dom)∧ww.cell? ⟨lb,lo+k*9+5,none⟩=some (.int .i64 o.t.ap)∧ww.cell? ⟨lb,lo+k*9+6,none⟩=some (.int .u32 o.t.bits)∧ww.cell? ⟨lb,lo+k*9+7,none⟩=some (.bool o.t.ng)∧ww.cell? ⟨lb,lo+k*9+8,none⟩=some (.bool o.t.xn)) (by kernel_rfl) ?_ (fun hHeld=> ?_)
      · exact HJ.out
      refine wpAnyH_take (i:=0) (oi:=⟨some 53,.fieldAddr 37 (.tmp 8) 2,0,_,#[],none⟩) (v:=?_) rfl (by kernel_rfl) (by kernel_rfl) (by kernel_rfl) (fun _ _ _ h=>hpan h) (Or.inl ⟨by rfl,?_⟩) (by assumption) ?_
      rotate_left
      · (intro w hSw; (try dsimp only at hSw); go_simp; try with_reducible rfl)
      simp only [Act.put,List.setIfInBounds_toArray,List.set_cons_zero,List.set_cons_succ]
      refine wpAnyH_take (i:=1) (oi:=⟨some 54,.load 34 (.tmp 53),34,_,#[⟨0,.data⟩],none⟩) (v:=?_) rfl (by kernel_rfl) (by kernel_rfl) (by kernel_rfl) (fun _ _ _ h=>hpan h) (Or.inl ⟨by rfl,?_⟩) (by assumption) ?_
      rotate_left
      · (intro w hSw; (try dsimp only at hSw); go_simp; try with_reducible rfl)
      simp only [Act.put,List.setIfInBounds_toArray,List.set_cons_zero,List.set_cons_succ]
      refine wpAnyH_take (i:=2) (oi:=⟨some 55,.load 31 (.tmp 6),31,_,#[],none⟩) (v:=?_) rfl (by kernel_rfl) (by kernel_rfl) (by kernel_rfl) (fun _ _ _ h=>hpan h) (Or.inl ⟨by rfl,?_⟩) (by assumption) ?_
      rotate_left
      · (intro w hSw; (try dsimp only at hSw); go_simp; try with_reducible rfl)
      simp only [Act.put,List.setIfInBounds_toArray,List.set_cons_zero,List.set_cons_succ]
      refine wpAnyH_take (i:=3) (oi:=⟨some 56,.move (.tmp 11),3,_,#[],none⟩) (v:=?_) rfl (by kernel_rfl) (by kernel_rfl) (by kernel_rfl) (fun _ _ _ h=>hpan h) (Or.inl ⟨by rfl,?_⟩) (by assumption) ?_
      rotate_left
      · (intro w hSw; (try dsimp only at hSw); go_simp; try with_reducible rfl)
      simp only [Act.put,List.setIfInBounds_toArray,List.set_cons_zero,List.set_cons_succ]
      refine wpAnyH_take (i:=4) (oi:=⟨some 57,.indexAddr 31 (.tmp 55) (.tmp 56),0,_,#[⟨2,.data⟩,⟨3,.data⟩],none⟩) (v:=?_) rfl (by kernel_rfl) (by kernel_rfl) (by kernel_rfl) (fun _ _ _ h=>hpan h) (Or.inl ⟨by rfl,?_⟩) (by assumption) ?_
      rotate_left
      · (intro w hSw; (try dsimp only at hSw); go_simp; try with_reducible rfl)
      simp only [Act.put,List.setIfInBounds_toArray,List.set_cons_zero,List.set_cons_succ]
      refine wpAnyH_take (i:=5) (oi:=⟨some 58,.load 45 (.tmp 57),45,_,#[⟨4,.data⟩],none⟩) (v:=?_) rfl (by kernel_rfl) (by kernel_rfl) (by kernel_rfl) (fun _ _ _ h=>hpan h) (Or.inl ⟨by rfl,?_⟩) (by assumption) ?_
      rotate_left
      · (intro w hSw; (try dsimp only at hSw); go_simp; try with_reducible rfl)
      simp only [Act.put,List.setIfInBounds_toArray,List.set_cons_zero,List.set_cons_succ]
      refine wpAnyH_ready (rs:=[6]) (by kernel_rfl) (by simp) ?_
      refine AllReadyH.cons (o:=⟨some 59,.call ⟨.value (.func 12),#[.tmp 54,.tmp 58],#[34,45]⟩,4,_,#[⟨1,.data⟩,⟨5,.data⟩],none⟩) rfl (fun K hK=> ?_) AllReadyH.nil
      go_simp
      (go_at_call 12; refine HTk.out.mono ?_; rintro e w1 ⟨rfl,g1⟩; have HB1:=hidW (Below.step HD0.out g1); have HJ:=hidW (HH.out _ HB1.out); have HR1:=hidW (Mm.own_turn HR.out (Turn.below (S:=fun _=>False) (Below.step (below_drew (Below.refl _ wr)) g1)) (fun _ _ h=>h)); clear g1)
      refine hK.out _ _ ?_ (fun hHeld=> ?_)
      · ((try dsimp only); with_reducible exact HJ.out)
      clear hK K
      try simp only [Act.put,List.setIfInBounds_toArray,List.set_cons_zero,List.set_cons_succ]
      refine wpAnyH_take (i:=7) (oi:=⟨some 60,.unOp UnOp.not 4 (.tmp 59),4,_,#[⟨6,.data⟩],none⟩) (v:=?_) rfl (by kernel_rfl) (by kernel_rfl) (by kernel_rfl) (fun _ _ _ h=>hpan h) (Or.inl ⟨by rfl,?_⟩) (by assumption) ?_
      rotate_left
      · (intro w hSw; (try dsimp only at hSw); go_simp; try with_reducible rfl)
      simp only [Act.put,List.setIfInBounds_toArray,List.set_cons_zero,List.set_cons_succ]
      refine wpAnyH_done (by kernel_rfl) ?_ _
      cases ht:tkF d o with
      | true =>
        have HR2:Hid (w1.ownsRow w.heap.size 45 9 u10 ((B.take (k+1)).filter fun b=> !tkF d b).length (rowG encB ((B.take (k+1)).filter fun b=> !tkF d b))):=by
          rw [HST.out,ht,if_neg (by decide)]
          exact HR1
        clear HST HR HR1 hHeld ht
        go_wp2
        go_roundw
        case rel=>exact ⟨k+1,by omega,by go_num,HB1,HR2⟩
        case measure=>simp [intOf]; omega
      | false =>
        obtain ⟨v2,w2,hr,ho2,hT2,hg2⟩:=appG (by':=56) encB_len encB_one Tryz.underlying31 infoB rfl w1 w.heap.size u10 _ o HR1.out HB1.out.size (by have:=HLe.out; omega) (by have:=HLe.out; omega)
        have HR2:Hid (w2.ownsRow w.heap.size 45 9 v2 ((B.take (k+1)).filter fun b=> !tkF d b).length (rowG encB ((B.take (k+1)).filter fun b=> !tkF d b))):=by
          rw [HST.out,ht,if_pos (by decide)]
          exact ho2
        have HB2:Hid (Below w.heap.size w w2):=HB1.out.trans (hT2.to (fun g hg=>(HR1.out.lt g hg).1) HB1.out.size)
        simp only [encB] at hr
        obtain ⟨k0,k1,k2,k3,k4,k5,k6,k7,k8,k9,k10,k11,k12⟩:=HJ.out
        clear HST HR HR1 hHeld ht ho2 hT2 hg2
        go_wp2_with (at_builtin; refine Lib.wpList_append_run _ rfl _ _ 31 31 rfl _ _ rfl rfl _ _ (hr _) ?_; clear hr)
        go_roundw
        case rel=>exact ⟨k+1,by omega,by go_num,HB2,HR2⟩
        case measure=>simp [intOf]; omega
    · obtain rfl:k=n:=by omega
      have hb0:=(HBB.out.below HB.out).cell 0
      simp only [List.getElem?_cons_zero] at hb0
      rw [show B.take k=B from by rw [←HLN.out,List.take_length]] at HR
      go_wp2
      exact HQ.out HB.out HR.out
end Go.Proofs.YtnjlajjjcmhfgaaGreatDoor
