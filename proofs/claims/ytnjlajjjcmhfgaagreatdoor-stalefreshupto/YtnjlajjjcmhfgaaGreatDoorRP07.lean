import Derived.Test.YtnjlajjjcmhfgaaGreatDoorRP06
import Derived.Test.YtnjlajjjcmhfgaaGreatDoorRA21
namespace Go.Proofs.YtnjlajjjcmhfgaaGreatDoor
open Go.RowKit Go.Sort Go.Shelf Go.Lib
open Mm (Turn gr RowAt)
set_option linter.unusedVariables false
set_option linter.unusedSimpArgs false
def paC (M:Mo) (c:Ctx) (K:List Blo) (asid x:Int):Prop:=∃b∈K,ovF b b.t.va asid=true∧cvR (stL M c b.t) x
def IsP (M:Mo) (K:List Blo) (J:Jud) (asid:Int) (R:List Rm):Prop :=
  (J asid=none→R=[])∧∀c,J asid=some c→Bs.Good 0 none R∧∀x,0≤x→x≤18446744073709551615→(Bs.get R x=some ()↔paC M c K asid x)
theorem IsP.uniq {M:Mo} {K:List Blo} {J:Jud} {asid:Int} {R R':List Rm} (h:IsP M K J asid R) (h':IsP M K J asid R'):R=R':=by
  cases e:J asid with
  | none=>rw [h.1 e,h'.1 e]
  | some c =>
    obtain ⟨g,a⟩:=h.2 c e
    obtain ⟨g',a'⟩:=h'.2 c e
    refine g.uniq g' (fun k h0 h1=> ?_)
    have a:=(a k h0 h1).trans (a' k h0 h1).symm
    cases e:Bs.get R k with
    | none =>
      cases e':Bs.get R' k with
      | none=>rfl
      | some u=>rw [e,e'] at a; exact absurd (a.2 rfl) (by simp)
    | some u=>rw [e] at a; exact (a.1 rfl).symm
theorem cvR_append {L L':List Rm} {x:Int}:cvR (L++L') x↔cvR L x∨cvR L' x:=by
  unfold cvR
  constructor
  · rintro ⟨s,hs,h⟩
    exact (List.mem_append.1 hs).imp (fun hs=>⟨s,hs,h⟩) (fun hs=>⟨s,hs,h⟩)
  · rintro (⟨s,hs,h⟩|⟨s,hs,h⟩)
    · exact ⟨s,List.mem_append_left _ hs,h⟩
    · exact ⟨s,List.mem_append_right _ hs,h⟩
theorem RoK.append {L L':List Rm} (h:RoK L) (h':RoK L'):RoK (L++L'):=fun r hr=>(List.mem_append.1 hr).elim (h r) (h' r)
theorem appR (w:World) (lo lo2:Nat) (v v2:Value) (L L2:List Rm) (h:w.ownsRow lo 95 2 v L.length (rowG Bs.encR L)) (h2:w.ownsRow lo2 95 2 v2 L2.length (rowG Bs.encR L2)) (hlo:lo≤w.heap.size) (hl:L.length+L2.length≤8000000000000) :
    ∃v' w',(∀ty,(Builtin.append_ #[92,92] ty #[v,v2]).run Tryz.prog w= .ok v' w')∧w'.ownsRow lo 95 2 v' (L++L2).length (rowG Bs.encR (L++L2))∧Turn (fun x=>v.ownBlock=some x) w w':=by
  obtain ⟨i0,hi,hz0,hz1,hz2⟩:=info_parts infoR
  have hs:Src Tryz.prog 2 92 v2 L2.length (rowG Bs.encR L2) w:=Mm.src_of_own Tryz.underlying92 h2 (fun u hu=>by
    obtain ⟨r,_,hu⟩:=List.mem_flatMap.1 hu
    exact encR_one r u hu)
  obtain ⟨v',w',hr,ho',hg,hb⟩:=Mm.append_any (P:=Tryz.prog) w 92 95 i0 _ Tryz.underlying92 hi hz0 (by rw [hz1]; rfl) lo L.length L2.length v v2 (rowG Bs.encR L) (rowG Bs.encR L2) (by rw [hz1]; exact h) (by rw [hz1]; exact hs) hlo (by unfold maxLen; omega) (by rw [hz2]; omega)
  rw [hz1] at ho'
  refine ⟨v',w',hr,?_,Turn.grown hg (fun x hx=> .inl hx)⟩
  rw [List.length_append,show rowG Bs.encR (L++L2)=rowG Bs.encR L++rowG Bs.encR L2 by simp [rowG]]
  exact ho'
structure PgX (W wr:World) (kb r:Nat) (K T:List Blo) (M:Mo) (c:Ctx) (asid:Int) (L:List Rm) (v:Value):Prop where
  bel:Below W.heap.size W wr
  kr:KR wr kb r K T
  own:wr.ownsRow W.heap.size 95 2 v L.length (rowG Bs.encR L)
  nod:T.Nodup
  sub:∀b∈T,b∈K
  cov:∀x,cvR L x↔∃b∈K,b∉T∧ovF b b.t.va asid=true∧cvR (stL M c b.t) x
  rok:RoK L
  len:L.length+16*T.length≤16*K.length
section
variable {W wr w':World} {kb r:Nat} {K T:List Blo} {M:Mo} {c:Ctx} {asid:Int} {L:List Rm} {v:Value}
theorem rm_len {T:List Blo} {b:Blo} (hn:T.Nodup) (hb:b∈T):(rm T b).length+1=T.length:=by
  have:=(rm_perm hn hb).length_eq
  simp at this
  omega
structure PgY (W wr:World) (kb r:Nat) (K T:List Blo) (M:Mo) (c:Ctx) (asid:Int) (L:List Rm) (v:Value) (b:Blo):Prop where
  bel:Below W.heap.size W wr
  kr:KR wr kb r K (rm T b)
  own:wr.ownsRow W.heap.size 95 2 v L.length (rowG Bs.encR L)
  nod:T.Nodup
  sub:∀b∈T,b∈K
  cov:∀x,cvR L x↔∃b∈K,b∉T∧ovF b b.t.va asid=true∧cvR (stL M c b.t) x
  rok:RoK L
  len:L.length+16*T.length≤16*K.length
  hb:b∈T
variable {b:Blo}
theorem PgX.next (h:PgX W wr kb r K T M c asid L v) (hb:b∈T) (hr:W.heap.size≤r) (hg:wr.grownBy w' (some r)) (hk:KR w' kb r K (rm T b)):PgY W w' kb r K T M c asid L v b:=by
  have T1:Turn (· =r) wr w':=Turn.grown hg (fun k e=>by cases e; exact .inl rfl)
  exact ⟨h.bel.trans (T1.to (fun x hx=>by subst hx; exact hr) h.bel.size),hk,Mm.own_turn h.own T1 (fun g hg e=>by
    obtain ⟨c,ee,f,hc⟩:=own_ne h.own hg
    exact (h.kr.own hc).2 e),h.nod,h.sub,h.cov,h.rok,h.len,hb⟩
theorem PgY.below (h:PgY W wr kb r K T M c asid L v b) (hb:Below wr.heap.size wr w'):PgY W w' kb r K T M c asid L v b :=
  ⟨Below.step h.bel hb,h.kr.turn (X:=fun _=>False) (Turn.below hb) (fun h=>h) (fun h=>h),Mm.own_turn h.own (Turn.below (S:=fun _=>False) hb) (fun _ _ h=>h),h.nod,h.sub,h.cov,h.rok,h.len,h.hb⟩
theorem PgY.left (h:PgY W wr kb r K T M c asid L v b) (hb:Below wr.heap.size wr w'):w'.rangeLeft kb r=wr.rangeLeft kb r:=turn_left (X:=fun _=>False) (Turn.below hb) h.kr.lt.2 h.kr.lt.1 (fun h=>h) (fun h=>h)
theorem PgY.skip (h:PgY W wr kb r K T M c asid L v b) (ho:ovF b b.t.va asid=false):PgX W wr kb r K (rm T b) M c asid L v:=by
  have hl:=rm_len h.nod h.hb
  refine ⟨h.bel,h.kr,h.own,rm_nodup h.nod b,fun x hx=>h.sub x (mem_rm.1 hx).1,fun x=>(h.cov x).trans ?_,h.rok,by have:=h.len; omega⟩
  constructor
  · rintro ⟨y,h1,h2,h3⟩
    exact ⟨y,h1,fun h=>h2 (mem_rm.1 h).1,h3⟩
  · rintro ⟨y,h1,h2,h3,h4⟩
    refine ⟨y,h1,fun hT=>h2 (mem_rm.2 ⟨hT,fun e=> ?_⟩),h3,h4⟩
    subst e
    rw [ho] at h3
    cases h3
theorem PgY.app (h:PgY W wr kb r K T M c asid L v b) (ho:ovF b b.t.va asid=true) (hv:0≤b.t.va∧b.t.va<4294967296) (hK:K.length≤400000000000) {lo2:Nat} {v2:Value} (h2:wr.ownsRow lo2 95 2 v2 (stL M c b.t).length (rowG Bs.encR (stL M c b.t))) :
    ∃v' w',(∀ty,(Builtin.append_ #[92,92] ty #[v,v2]).run Tryz.prog wr= .ok v' w')∧PgX W w' kb r K (rm T b) M c asid (L++stL M c b.t) v'∧w'.rangeLeft kb r=wr.rangeLeft kb r:=by
  have hl:=rm_len h.nod h.hb
  have hl2:=stL_len M c b.t
  have hlen:=h.len
  obtain ⟨v',w',hr,hown,T1⟩:=appR wr W.heap.size lo2 v v2 L (stL M c b.t) h.own h2 h.bel.size (by omega)
  have hX:∀x,v.ownBlock=some x→W.heap.size≤x∧x≠kb∧x≠r:=fun x hx=>by
    obtain ⟨c,e,f,hc⟩:=own_ne h.own hx
    exact ⟨(World.ownsRow.lt h.own x hx).1,h.kr.own hc⟩
  have hkr:=h.kr.lt
  refine ⟨v',w',hr,⟨h.bel.trans (T1.to (fun x hx=>(hX x hx).1) h.bel.size),h.kr.turn T1 (fun hx=>(hX _ hx).2.1 rfl) (fun hx=>(hX _ hx).2.2 rfl),hown,rm_nodup h.nod b,fun x hx=>h.sub x (mem_rm.1 hx).1,fun x=> ?_,h.rok.append (stL_ok M c b.t hv),by rw [List.length_append]; omega⟩,turn_left T1 hkr.2 hkr.1 (fun hx=>(hX _ hx).2.1 rfl) (fun hx=>(hX _ hx).2.2 rfl)⟩
  rw [cvR_append,h.cov x]
  constructor
  · rintro (⟨y,h1,h2,h3⟩|h1)
    · exact ⟨y,h1,fun h=>h2 (mem_rm.1 h).1,h3⟩
    · exact ⟨b,h.sub b h.hb,fun h=>(mem_rm.1 h).2 rfl,ho,h1⟩
  · rintro ⟨y,h1,h2,h3,h4⟩
    by_cases e:y=b
    · subst e; exact .inr h4
    · exact .inl ⟨y,h1,fun hT=>h2 (mem_rm.2 ⟨hT,e⟩),h3,h4⟩
end
end Go.Proofs.YtnjlajjjcmhfgaaGreatDoor
