import Derived.Test.YtnjlajjjcmhfgaaGreatDoorTA14
import Derived.Test.YtnjlajjjcmhfgaaGreatDoorTA05
import Derived.RangeFuncNested
import Derived.RangeFuncBound
import Derived.RangeFuncCalls
import Derived.RangeFuncLeaves
import Derived.RangeFuncBox
namespace Go.Proofs.YtnjlajjjcmhfgaaGreatDoor
open Go.RowKit
set_option linter.unusedVariables false
set_option linter.unusedSimpArgs false
theorem nd_two (z y:Tra) (l:List Tra):nd (z::y::l)=if z.same y then nd (y::l) else z::nd (y::l):=by
  conv=>lhs; unfold nd
theorem nd_snoc (a b:Tra):∀l:List Tra,nd (l++[a,b])=if a.same b then nd (l++[a]) else nd (l++[a])++[b]
  | []=>by
    by_cases h:a.same b=true
    · have e:=(Tra.same_iff a b).1 h
      subst e; simp [nd,h]
    · simp [nd,h]
  | [x]=>by
    have ih:=nd_snoc a b ([]:List Tra)
    rw [List.nil_append,List.nil_append] at ih
    show nd (x::a::[b])=if a.same b then nd (x::a::[]) else nd (x::a::[])++[b]
    by_cases hx:x.same a=true
    · rw [nd_two x a [b],if_pos hx,ih,nd_two x a [],if_pos hx]
    · rw [nd_two x a [b],if_neg hx,ih,nd_two x a [],if_neg hx]
      split <;>simp
  | x::y::l=>by
    have ih:=nd_snoc a b (y::l)
    rw [List.cons_append,List.cons_append] at ih
    show nd (x::y::(l++[a,b]))=if a.same b then nd (x::y::(l++[a])) else nd (x::y::(l++[a]))++[b]
    by_cases hx:x.same y=true
    · rw [nd_two x y _,if_pos hx,ih,nd_two x y _,if_pos hx]
    · rw [nd_two x y _,if_neg hx,ih,nd_two x y _,if_neg hx]
      split <;>simp
theorem nd_take {l:List Tra} {j:Nat} {a b:Tra} (h1:l[j]? =some a) (h2:l[j+1]? =some b):nd (l.take (j+2))=if a.same b then nd (l.take (j+1)) else nd (l.take (j+1))++[b]:=by
  have e1:l.take (j+1)=l.take j++[a]:=by rw [List.take_add_one,h1]; rfl
  have e2:l.take (j+2)=l.take j++[a,b]:=by
    rw [show j+2=(j+1)+1 from rfl,List.take_add_one,h2,e1,List.append_assoc]; rfl
  rw [e1,e2,nd_snoc]
theorem nd_plain {l:List Tra} {k:Nat} (h:∀j a b,j+1<k→l[j]? =some a→l[j+1]? =some b→a≠b) (hk:k≤l.length):nd (l.take k)=l.take k:=by
  induction k with
  | zero=>rfl
  | succ k ih =>
    cases k with
    | zero =>
      cases l with
      | nil=>rfl
      | cons a l=>rfl
    | succ k =>
      obtain ⟨a,ha⟩:∃a,l[k]? =some a:=⟨_,List.getElem?_eq_getElem (by omega)⟩
      obtain ⟨b,hb⟩:∃b,l[k+1]? =some b:=⟨_,List.getElem?_eq_getElem (by omega)⟩
      rw [nd_take ha hb,if_neg (fun e=>h k a b (by omega) ha hb ((Tra.same_iff a b).1 e)),ih (fun j a b hj=>h j a b (by omega)) (by omega)]
      rw [List.take_add_one (i:=k+1),hb]
      rfl
end Go.Proofs.YtnjlajjjcmhfgaaGreatDoor
namespace Go.Proofs.YtnjlajjjcmhfgaaGreatDoor
open Go.RowKit
open Mm (Turn gr RM valV errV Byts RowAt)
set_option linter.unusedVariables false
set_option linter.unusedSimpArgs false
end Go.Proofs.YtnjlajjjcmhfgaaGreatDoor
namespace Go.Proofs.YtnjlajjjcmhfgaaGreatDoor
open Go.RowKit
open Mm (Turn gr RowAt)
set_option linter.unusedVariables false
set_option linter.unusedSimpArgs false
def encT (t:Tra):List Value:=[.int .i64 t.size,.int .u32 t.va,.int .u64 t.pa,.int .i64 t.dom,.int .i64 t.ap,.int .u32 t.bits,.bool t.ng,.bool t.xn]
def rowT (l:List Tra):List Value:=l.flatMap encT
theorem rowT_cons (x:Tra) (l:List Tra):rowT (x::l)=encT x++rowT l:=rfl
theorem rowT_len (l:List Tra):(rowT l).length=l.length*8:=by
  induction l with
  | nil=>rfl
  | cons x l ih=>rw [rowT_cons,List.length_append,ih,List.length_cons]; show 8+_=_; omega
theorem rowT_at {l:List Tra} {i:Nat} {x:Tra} (h:l[i]? =some x) (j:Nat) (hj:j<8):(rowT l)[i*8+j]? =(encT x)[j]? :=by
  induction l generalizing i with
  | nil=>simp at h
  | cons y l ih =>
    have hy:(encT y).length=8:=rfl
    cases i with
    | zero =>
      simp at h; subst h
      rw [rowT_cons,List.getElem?_append_left (by omega),Nat.zero_mul,Nat.zero_add]
    | succ i =>
      simp at h
      rw [rowT_cons,List.getElem?_append_right (by omega),hy,show (i+1)*8+j-8=i*8+j by omega]
      exact ih h
theorem rowT_take (l:List Tra) (k:Nat):(rowT l).take (k*8)=rowT (l.take k):=by
  induction l generalizing k with
  | nil=>simp [rowT]
  | cons y l ih =>
    have hy:(encT y).length=8:=rfl
    cases k with
    | zero=>simp [rowT]
    | succ k =>
      rw [rowT_cons,List.take_succ_cons,rowT_cons,List.take_append,hy,show (k+1)*8-8=k*8 by omega,ih,List.take_of_length_le (by omega)]
theorem rowT_set (l:List Tra) (k:Nat) (b:Tra) (rest:List Value) (hk:k<l.length) :
    ((((((((rowT l++rest).set (k*8) (.int .i64 b.size)).set (k*8+1) (.int .u32 b.va)).set (k*8+2) (.int .u64 b.pa)).set (k*8+3) (.int .i64 b.dom)).set (k*8+4) (.int .i64 b.ap)).set (k*8+5) (.int .u32 b.bits)).set (k*8+6) (.bool b.ng)).set (k*8+7) (.bool b.xn)=rowT (l.set k b)++rest:=by
  induction l generalizing k with
  | nil=>simp at hk
  | cons y l ih =>
    have hy:(encT y).length=8:=rfl
    cases k with
    | zero=>rfl
    | succ k =>
      have hk':k<l.length:=by simpa using hk
      have hs:∀(X:List Value) (j:Nat) (v:Value),(encT y++X).set ((k+1)*8+j) v=encT y++X.set (k*8+j) v:=fun X j v=>by
        rw [List.set_append_right _ _ (by omega),hy,show (k+1)*8+j-8=k*8+j by omega]
      have hs0:∀(X:List Value) (v:Value),(encT y++X).set ((k+1)*8) v=encT y++X.set (k*8) v:=fun X v=>hs X 0 v
      rw [rowT_cons,List.append_assoc,hs0,hs,hs,hs,hs,hs,hs,hs,ih k hk',List.set_cons_succ,rowT_cons,List.append_assoc]
theorem row_put {w:World} {g:Nat} {t:TypeId} {cur:List Value} (h:RowAt w g t cur) (i:Nat) (v:Value):RowAt (w.setCell ⟨g,i,none⟩ v) g t (cur.set i v):=by
  unfold RowAt at h ⊢
  simp only [World.setCell,Array.getElem?_modify,h,if_true]
  simp
theorem row_put8 {w:World} {g:Nat} {t:TypeId} {l:List Tra} {rest:List Value} (h:RowAt w g t (rowT l++rest)) (k:Nat) (b:Tra) (hk:k<l.length) :
    RowAt ((((((((w.setCell ⟨g,k*8,none⟩ (.int .i64 b.size)).setCell ⟨g,k*8+1,none⟩ (.int .u32 b.va)).setCell ⟨g,k*8+2,none⟩ (.int .u64 b.pa)).setCell ⟨g,k*8+3,none⟩ (.int .i64 b.dom)).setCell ⟨g,k*8+4,none⟩ (.int .i64 b.ap)).setCell ⟨g,k*8+5,none⟩ (.int .u32 b.bits)).setCell ⟨g,k*8+6,none⟩ (.bool b.ng)).setCell ⟨g,k*8+7,none⟩ (.bool b.xn)) g t (rowT (l.set k b)++rest):=by
  rw [←rowT_set l k b rest hk]
  exact row_put (row_put (row_put (row_put (row_put (row_put (row_put (row_put h _ _) _ _) _ _) _ _) _ _) _ _) _ _) _ _
theorem rowT_cells {w:World} {g:Nat} {t:TypeId} {l:List Tra} {rest:List Value} (h:RowAt w g t (rowT l++rest)) {k:Nat} {x:Tra} (hx:l[k]? =some x) :
    w.cell? ⟨g,k*8,none⟩=some (.int .i64 x.size)∧w.cell? ⟨g,k*8+1,none⟩=some (.int .u32 x.va)∧w.cell? ⟨g,k*8+2,none⟩=some (.int .u64 x.pa)∧w.cell? ⟨g,k*8+3,none⟩=some (.int .i64 x.dom)∧w.cell? ⟨g,k*8+4,none⟩=some (.int .i64 x.ap)∧w.cell? ⟨g,k*8+5,none⟩=some (.int .u32 x.bits)∧w.cell? ⟨g,k*8+6,none⟩=some (.bool x.ng)∧w.cell? ⟨g,k*8+7,none⟩=some (.bool x.xn):=by
  have hk:=(List.getElem?_eq_some_iff.1 hx).1
  have hl:=rowT_len l
  have e:∀j,j<8→w.cell? ⟨g,k*8+j,none⟩=(encT x)[j]? :=fun j hj=>by
    rw [h.cell,List.getElem?_append_left (by omega)]
    exact rowT_at hx j hj
  exact ⟨e 0 (by omega),e 1 (by omega),e 2 (by omega),e 3 (by omega),e 4 (by omega),e 5 (by omega),e 6 (by omega),e 7 (by omega)⟩
theorem infoT:(Tryz.prog.info? 43).map (fun i=>(i.zero,i.size,i.bytes))=some (some (.agg #[.int .i64 tZ.size,.int .u32 tZ.va,.int .u64 tZ.pa,.int .i64 tZ.dom,.int .i64 tZ.ap,.int .u32 tZ.bits,.bool tZ.ng,.bool tZ.xn]),8,48):=by kernel_rfl
end Go.Proofs.YtnjlajjjcmhfgaaGreatDoor
namespace Go.Proofs.YtnjlajjjcmhfgaaGreatDoor
open Go.RowKit
open Mm (Turn gr RowAt)
set_option linter.unusedVariables false
set_option linter.unusedSimpArgs false
theorem appT (wr:World) (lo:Nat) (v:Value) (l:List Tra) (b:Tra) (h:wr.ownsRow lo 43 8 v l.length (rowT l)) (hlo:lo≤wr.heap.size) (hk:l.length≤2000000) :
    ∃v' w',(∀ty,(Builtin.append_ #[123,123] ty #[v,.slice (some ⟨wr.heap.size,0,none⟩) 1 1]).run Tryz.prog (wr.alloc (.cells #[.int .i64 b.size,.int .u32 b.va,.int .u64 b.pa,.int .i64 b.dom,.int .i64 b.ap,.int .u32 b.bits,.bool b.ng,.bool b.xn] 43))= .ok v' w')∧w'.ownsRow lo 43 8 v' (l.length+1) (rowT (l++[b]))∧Turn (fun x=>v.ownBlock=some x) wr w'∧(∀g,v'.ownBlock=some g→v.ownBlock=some g∨wr.heap.size≤g):=by
  obtain ⟨i0,hi,hz0,hz1,hz2⟩:=info_parts infoT
  have hB:=Mm.row_new wr [.int .i64 b.size,.int .u32 b.va,.int .u64 b.pa,.int .i64 b.dom,.int .i64 b.ap,.int .u32 b.bits,.bool b.ng,.bool b.xn] 43
  have ho:=Mm.own_turn h (((Turn.refl (fun _=>False) wr).alloc (.cells #[.int .i64 b.size,.int .u32 b.va,.int .u64 b.pa,.int .i64 b.dom,.int .i64 b.ap,.int .u32 b.bits,.bool b.ng,.bool b.xn] 43))) (fun _ _ h=>h)
  obtain ⟨v',w',hr,ho',hg,hb⟩:=Mm.append_any (P:=Tryz.prog) (wr.alloc (.cells #[.int .i64 b.size,.int .u32 b.va,.int .u64 b.pa,.int .i64 b.dom,.int .i64 b.ap,.int .u32 b.bits,.bool b.ng,.bool b.xn] 43)) 123 43 i0 _ Tryz.underlying123 hi hz0 (by rw [hz1]; rfl) lo l.length 1 v (.slice (some ⟨wr.heap.size,0,none⟩) 1 1) (rowT l) [.int .i64 b.size,.int .u32 b.va,.int .u64 b.pa,.int .i64 b.dom,.int .i64 b.ap,.int .u32 b.bits,.bool b.ng,.bool b.xn] (by rw [hz1]; exact ho)
    (by rw [hz1]; exact Src.ofSlice _ Tryz.underlying123 ⟨wr.heap.size,0,none⟩ 1 1 _ rfl (fun j u hj=>by rw [Addr.add_lit,Nat.zero_add]; exact (hB.cell j).trans hj) (fun u hu=>by simp at hu; rcases hu with rfl|rfl|rfl|rfl|rfl|rfl|rfl|rfl <;>rfl)) (by simp; omega) (by unfold maxLen; omega) (by rw [hz2]; omega)
  rw [hz1] at ho'
  refine ⟨v',w',hr,by simpa [rowT,encT] using ho',((Turn.refl _ wr).alloc _).trans (S':=fun x=>v.ownBlock=some x) (Turn.grown hg (fun x hx=> .inl hx)) (fun x hx=> .inl hx),fun g hg=> ?_⟩
  rcases hb g hg with h1|h1
  · exact .inl h1
  · simp at h1; exact .inr (by omega)
end Go.Proofs.YtnjlajjjcmhfgaaGreatDoor
namespace Go.Proofs.YtnjlajjjcmhfgaaGreatDoor
open Go.RowKit
open Mm (Turn gr RowAt)
set_option linter.unusedVariables false
set_option linter.unusedSimpArgs false
theorem turn_of {B:Nat} {w w':World} (h:Below B w w'):Turn (fun b=>B≤b) w w':=⟨h.os,h.tape,h.output,h.size,fun k _ hn=>h.block k (by omega)⟩
structure Gs (lo:Nat) (S:Nat→Prop) (iv:Value) (M:Mo) (l:List Tra) (v:Value) (w0 w:World):Prop where
  mem:MemP w S iv M
  hS:∀b,S b→b<lo
  tab:TW w
  hT:∀b,tbl b→b<lo
  own:w.ownsRow lo 43 8 v l.length (rowT l)
  bel:Below lo w0 w
  low:lo≤w.heap.size
section
variable {lo:Nat} {S:Nat→Prop} {iv:Value} {M:Mo} {l:List Tra} {v:Value} {w0 w w':World}
theorem Gs.below (h:Gs lo S iv M l v w0 w) (hb:Below w.heap.size w w'):Gs lo S iv M l v w0 w' :=
  ⟨h.mem.below hb,h.hS,h.tab.below hb,h.hT,Mm.own_turn h.own (Turn.below (S:=fun _=>False) hb) (fun _ _ h=>h),h.bel.trans (hb.mono h.low),Nat.le_trans h.low hb.size⟩
theorem Gs.app (h:Gs lo S iv M l v w0 w) (b:Tra) (hk:l.length≤100000) :
    ∃v' w',(∀ty,(Builtin.append_ #[123,123] ty #[v,.slice (some ⟨w.heap.size,0,none⟩) 1 1]).run Tryz.prog (w.alloc (.cells #[.int .i64 b.size,.int .u32 b.va,.int .u64 b.pa,.int .i64 b.dom,.int .i64 b.ap,.int .u32 b.bits,.bool b.ng,.bool b.xn] 43))= .ok v' w')∧Gs lo S iv M (l++[b]) v' w0 w'∧Turn (fun x=>v.ownBlock=some x) w w'∧(∀g,v'.ownBlock=some g→v.ownBlock=some g∨w.heap.size≤g):=by
  obtain ⟨v',w',hr,ho,T,hg⟩:=appT w lo v l b h.own h.low (by omega)
  have hB:Below lo w w':=T.to (fun x hx=>(World.ownsRow.lt h.own x hx).1) h.low
  refine ⟨v',w',hr,⟨h.mem.keep (turn_of hB) (fun b hb hx=>by have:=h.hS b hb; omega),h.hS,h.tab.turn (turn_of hB) (fun b hb hx=>by have:=h.hT b hb; omega),h.hT,by simpa using ho,h.bel.trans hB,Nat.le_trans h.low hB.size⟩,T,hg⟩
end
set_option maxRecDepth 100000 in
set_option maxHeartbeats 2000000 in
theorem gather_no {lo:Nat} {S:Nat→Prop} {iv:Value} {M:Mo} {l:List Tra} {v:Value} {w0 w:World} (h:Gs lo S iv M l v w0 w) (c:Ctx) (va:Int) (hc:c.Ok) (hv:0≤va∧va<4294967296) (k1 k2 k3:Int) (k4:Bool) (k5 k6:Int) (k7 k8:Bool) (q1 q2 q3:Int) (hw1:w1 M c va=(⟨k1,k2,k3,k4,k5,k6,k7,k8⟩,⟨q1,q2,q3⟩)) (hk:¬q1=0) :
    Calls Tryz.prog 87 #[v,iv,.agg #[.bool c.on,.bool c.tre,.bool c.afe,.int .i64 c.n,.bool c.pd0,.bool c.pd1,.int .u64 c.b0,.int .u64 c.b1,.int .u32 c.dacr,.int .u32 c.prrr,.int .u32 c.nmrr,.int .i64 c.asid],.int .u32 va] w fun e w'=>e= .returned v∧Gs lo S iv M l v w0 w':=by
  have h1:=h.below (below_new w (.cells #[.bool c.on,.bool c.tre,.bool c.afe,.int .i64 c.n,.bool c.pd0,.bool c.pd1,.int .u64 c.b0,.int .u64 c.b1,.int .u32 c.dacr,.int .u32 c.prrr,.int .u32 c.nmrr,.int .i64 c.asid] 47))
  have HF:=hidW (first_pure c va _ h1.mem h1.tab hc hv)
  rw [hw1] at HF
  clear hw1
  have hq:(q1 !=0)=true:=by simp [hk]
  have HG:=hidW h1
  clear h h1
  go_enter Tryz.func87,Tryz.ntmps87
  go_wp2_with fail
  go_at_call 61
  refine HF.out.mono ?_
  rintro e wa ⟨rfl,hb⟩
  have HG1:=hidW (((HG.out.below hb).below (below_new wa (.cells #[.int .i64 k1,.int .u64 k2,.int .i64 k3,.bool k4,.int .i64 k5,.int .u32 k6,.bool k7,.bool k8] 140))).below (below_new _ (.cells #[.int .i64 q1,.int .i64 q2,.int .i64 q3] 88)))
  clear hb HG HF
  go_wp2
  go_ret
  exact ⟨rfl,HG1.out⟩
set_option maxRecDepth 100000 in
set_option maxHeartbeats 2000000 in
theorem gather_one {lo:Nat} {S:Nat→Prop} {iv:Value} {M:Mo} {l:List Tra} {v:Value} {w0 w:World} (h:Gs lo S iv M l v w0 w) (hl:l.length≤100000) (c:Ctx) (va:Int) (hc:c.Ok) (hv:0≤va∧va<4294967296) (k1 k2 k3:Int) (k4:Bool) (k5 k6:Int) (k7 k8:Bool) (hw1:w1 M c va=(⟨k1,k2,k3,k4,k5,k6,k7,k8⟩,⟨0,0,0⟩)) (hk:¬k1=1) (hO:Ok ⟨k1,k2,k3,k4,k5,k6,k7,k8⟩) (u:Tra) (hu:trF ⟨k1,k2,k3,k4,k5,k6,k7,k8⟩ 0 va=u) :
    Calls Tryz.prog 87 #[v,iv,.agg #[.bool c.on,.bool c.tre,.bool c.afe,.int .i64 c.n,.bool c.pd0,.bool c.pd1,.int .u64 c.b0,.int .u64 c.b1,.int .u32 c.dacr,.int .u32 c.prrr,.int .u32 c.nmrr,.int .i64 c.asid],.int .u32 va] w fun e w'=>∃v',e= .returned v'∧Gs lo S iv M (l++[u]) v' w0 w':=by
  have h1:=h.below (below_new w (.cells #[.bool c.on,.bool c.tre,.bool c.afe,.int .i64 c.n,.bool c.pd0,.bool c.pd1,.int .u64 c.b0,.int .u64 c.b1,.int .u32 c.dacr,.int .u32 c.prrr,.int .u32 c.nmrr,.int .i64 c.asid] 47))
  have HF:=hidW (first_pure c va _ h1.mem h1.tab hc hv)
  rw [hw1] at HF
  clear hw1
  have HT:=hidW (fun ww ht=>trans_any ⟨k1,k2,k3,k4,k5,k6,k7,k8⟩ 0 va ww ht hO hv)
  rw [hu] at HT
  clear hu hO
  have hq:(k1 !=1)=true:=by simp [hk]
  have HG:=hidW h1
  clear h h1
  go_enter Tryz.func87,Tryz.ntmps87
  go_wp2_with fail
  go_at_call 61
  refine HF.out.mono ?_
  rintro e wa ⟨rfl,hb⟩
  have HG1:=hidW (((HG.out.below hb).below (below_new wa (.cells #[.int .i64 k1,.int .u64 k2,.int .i64 k3,.bool k4,.int .i64 k5,.int .u32 k6,.bool k7,.bool k8] 140))).below (below_new _ (.cells #[.int .i64 0,.int .i64 0,.int .i64 0] 88)))
  clear hb HG HF
  go_wp2_with fail
  generalize ((wa.alloc (.cells #[.int .i64 k1,.int .u64 k2,.int .i64 k3,.bool k4,.int .i64 k5,.int .u32 k6,.bool k7,.bool k8] 140)).alloc (.cells #[.int .i64 0,.int .i64 0,.int .i64 0] 88))=wx at *
  go_at_call 63
  refine (HT.out _ HG1.out.tab.r).mono ?_
  rintro e wb ⟨rfl,hb⟩
  obtain ⟨v',wc,hr,hG,_,_⟩:=(HG1.out.below hb).app u hl
  have HG2:=hidW hG
  clear hb HG1 HT hG
  go_wp2_with (at_builtin; refine Lib.wpList_append_run _ rfl _ _ 123 123 rfl _ _ rfl rfl _ _ (hr _) ?_; clear hr)
  go_ret
  exact ⟨_,rfl,HG2.out⟩
set_option maxRecDepth 100000 in
set_option maxHeartbeats 4000000 in
theorem gather_tab {lo:Nat} {S:Nat→Prop} {iv:Value} {M:Mo} {l:List Tra} {v:Value} {w0 w:World} (h:Gs lo S iv M l v w0 w) (hl:l.length≤90000) (c:Ctx) (va:Int) (hc:c.Ok) (hv:0≤va∧va<4294967296) (hm:va%1048576=0) (x:Ent) (hw1:w1 M c va=(x,⟨0,0,0⟩)) (hk:x.kind=1) (hr:0≤x.base∧x.base<4294967296) :
    Calls Tryz.prog 87 #[v,iv,.agg #[.bool c.on,.bool c.tre,.bool c.afe,.int .i64 c.n,.bool c.pd0,.bool c.pd1,.int .u64 c.b0,.int .u64 c.b1,.int .u32 c.dacr,.int .u32 c.prrr,.int .u32 c.nmrr,.int .i64 c.asid],.int .u32 va] w fun e w'=>∃v',e= .returned v'∧Gs lo S iv M (l++gaT M x va 256) v' w0 w':=by
  have h1:=h.below (below_new w (.cells #[.bool c.on,.bool c.tre,.bool c.afe,.int .i64 c.n,.bool c.pd0,.bool c.pd1,.int .u64 c.b0,.int .u64 c.b1,.int .u32 c.dacr,.int .u32 c.prrr,.int .u32 c.nmrr,.int .i64 c.asid] 47))
  have HF:=hidW (first_pure c va _ h1.mem h1.tab hc hv)
  rw [hw1] at HF
  clear hw1
  have HG:=hidW h1
  have HK:=hidW hk
  have hkq:(x.kind !=1)=false:=by simp [hk]
  clear h h1 hk
  go_enter Tryz.func87,Tryz.ntmps87
  go_wp2_with fail
  go_at_call 61
  refine HF.out.mono ?_
  rintro e wa ⟨rfl,hb⟩
  have hGa:=HG.out.below hb
  have HG1:Hid (Gs lo S iv M l v w0 ((wa.alloc (.cells #[.int .i64 x.kind,.int .u64 x.base,.int .i64 x.dom,.bool x.ns,.int .i64 x.ap,.int .u32 x.bits,.bool x.ng,.bool x.xn] 140)).alloc (.cells #[.int .i64 0,.int .i64 0,.int .i64 0] 88))∧Bl ((wa.alloc (.cells #[.int .i64 x.kind,.int .u64 x.base,.int .i64 x.dom,.bool x.ns,.int .i64 x.ap,.int .u32 x.bits,.bool x.ng,.bool x.xn] 140)).alloc (.cells #[.int .i64 0,.int .i64 0,.int .i64 0] 88)) wa.heap.size 140 [.int .i64 x.kind,.int .u64 x.base,.int .i64 x.dom,.bool x.ns,.int .i64 x.ap,.int .u32 x.bits,.bool x.ng,.bool x.xn]∧∀g,v.ownBlock=some g→g≠wa.heap.size) :=
    hidW ⟨(hGa.below (below_new wa _)).below (below_new _ _),(Bl.new wa _ _).below (below_new _ _),fun g hg=>by have:=(World.ownsRow.lt hGa.own g hg).2; omega⟩
  clear hb HG HF hGa
  go_wp2_with fail
  generalize ((wa.alloc (.cells #[.int .i64 x.kind,.int .u64 x.base,.int .i64 x.dom,.bool x.ns,.int .i64 x.ap,.int .u32 x.bits,.bool x.ng,.bool x.xn] 140)).alloc (.cells #[.int .i64 0,.int .i64 0,.int .i64 0] 88))=wx at *
  generalize wa.heap.size=eb at *
  go_loopw [0,34] (fun f i wr=>∃k:Nat,k≤256∧i= .int .u32 k∧Hid (Gs lo S iv M (l++gaT M x va k) f w0 wr∧Bl wr eb 140 [.int .i64 x.kind,.int .u64 x.base,.int .i64 x.dom,.bool x.ns,.int .i64 x.ap,.int .u32 x.bits,.bool x.ng,.bool x.xn]∧∀g,f.ownBlock=some g→g≠eb)) (fun _ i _=>256-(intOf i).toNat)
  case atStart=>exact ⟨0,Nat.zero_le _,rfl,hidW (by simpa [gaT] using HG1.out)⟩
  case round =>
    obtain ⟨k,hk,rfl,HS⟩:=hrel
    by_cases hlt:k<256
    · obtain ⟨hg,he,hn⟩:=HS.out
      have hgl:=gaT_len M x va k
      have hva:va+(k:Int)*4096<4294967296:=by omega
      have HSC:=hidW (second_pure x (va+k*4096) wr hg.mem hg.tab hr (by omega))
      have HGS:=hidW (gaT_succ M x va k)
      obtain ⟨U,F,hq⟩:∃U F,w2 M x (va+k*4096)=(U,F):=⟨_,_,rfl⟩
      rw [hq] at HSC HGS
      clear hq
      have c9:=he.cell
      have HGG:=hidW hg
      have HE:=hidW he
      have HNN:=hidW hn
      clear hg he hn HS HG1
      have hkz:(k:Int)<256:=by omega
      have hk0:(0:Int)≤k:=by omega
      have hsh:IntKind.u32.wrap ((k:Int)*4096)=(k:Int)*4096:=by rw [IntKind.wrap_u32]; omega
      have hsm:IntKind.u32.wrap (va+(k:Int)*4096)=va+(k:Int)*4096:=by rw [IntKind.wrap_u32]; omega
      go_wp2_with fail
      go_at_call 62
      refine HSC.out.mono ?_
      rintro e wb ⟨rfl,hb⟩
      have hG2:=((HGG.out.below hb).below (below_new wb (.cells #[.int .i64 U.size,.int .u32 U.va,.int .u64 U.pa,.int .i64 U.dom,.int .i64 U.ap,.int .u32 U.bits,.bool U.ng,.bool U.xn] 43))).below (below_new _ (.cells #[.int .i64 F.k,.int .i64 F.l,.int .i64 F.d] 88))
      have hE2:=((HE.out.below hb).below (below_new wb (.cells #[.int .i64 U.size,.int .u32 U.va,.int .u64 U.pa,.int .i64 U.dom,.int .i64 U.ap,.int .u32 U.bits,.bool U.ng,.bool U.xn] 43))).below (below_new _ (.cells #[.int .i64 F.k,.int .i64 F.l,.int .i64 F.d] 88))
      have hne:=HNN.out
      have hls:(l++gaT M x va k).length≤100000:=by rw [List.length_append]; omega
      clear hb HGG HE HSC c9
      by_cases hF:F.k=0
      · have hFq:(F.k == 0)=true:=by simp [hF]
        obtain ⟨v',wc,hr2,hG3,T,hg3⟩:=hG2.app U hls
        have HS2:Hid (Gs lo S iv M (l++gaT M x va (k+1)) v' w0 wc∧Bl wc eb 140 [.int .i64 x.kind,.int .u64 x.base,.int .i64 x.dom,.bool x.ns,.int .i64 x.ap,.int .u32 x.bits,.bool x.ng,.bool x.xn]∧∀g,v'.ownBlock=some g→g≠eb):=by
          refine hidW ⟨?_,(T.block eb hE2.lt (fun h=>hne eb h rfl)).trans hE2,fun g hg=> ?_⟩
          · rw [HGS.out,if_pos hF,←List.append_assoc]
            exact hG3
          · rcases hg3 g hg with h|h
            · exact hne g h
            · have:=hE2.lt; omega
        have hsz:((wb.alloc (.cells #[.int .i64 U.size,.int .u32 U.va,.int .u64 U.pa,.int .i64 U.dom,.int .i64 U.ap,.int .u32 U.bits,.bool U.ng,.bool U.xn] 43)).alloc (.cells #[.int .i64 F.k,.int .i64 F.l,.int .i64 F.d] 88)).heap.size=wb.heap.size+1+1:=by simp
        rw [hsz] at hr2
        clear hG2 hE2 hne hG3 T hg3 HGS HNN hF hsz
        go_wp2_with (at_builtin; refine Lib.wpList_append_run _ rfl _ _ 123 123 rfl _ _ rfl rfl _ _ (hr2 _) ?_; clear hr2)
        go_roundw
        case rel=>exact ⟨k+1,by omega,by go_num,HS2⟩
        case measure=>simp [intOf]; omega
      · have hFq:(F.k == 0)=false:=by simp [hF]
        have HS2:Hid (Gs lo S iv M (l++gaT M x va (k+1)) u0 w0 ((wb.alloc (.cells #[.int .i64 U.size,.int .u32 U.va,.int .u64 U.pa,.int .i64 U.dom,.int .i64 U.ap,.int .u32 U.bits,.bool U.ng,.bool U.xn] 43)).alloc (.cells #[.int .i64 F.k,.int .i64 F.l,.int .i64 F.d] 88))∧Bl ((wb.alloc (.cells #[.int .i64 U.size,.int .u32 U.va,.int .u64 U.pa,.int .i64 U.dom,.int .i64 U.ap,.int .u32 U.bits,.bool U.ng,.bool U.xn] 43)).alloc (.cells #[.int .i64 F.k,.int .i64 F.l,.int .i64 F.d] 88)) eb 140 [.int .i64 x.kind,.int .u64 x.base,.int .i64 x.dom,.bool x.ns,.int .i64 x.ap,.int .u32 x.bits,.bool x.ng,.bool x.xn]∧∀g,u0.ownBlock=some g→g≠eb):=by
          refine hidW ⟨?_,hE2,hne⟩
          rw [HGS.out,if_neg hF,List.append_nil]
          exact hG2
        clear hG2 hE2 hne HGS HNN hF
        go_wp2
        go_roundw
        case rel=>exact ⟨k+1,by omega,by go_num,HS2⟩
        case measure=>simp [intOf]; omega
    · obtain rfl:k=256:=by omega
      go_wp2
      go_ret
      exact ⟨_,rfl,HS.out.1⟩
theorem gather_any {lo:Nat} {S:Nat→Prop} {iv:Value} {M:Mo} {l:List Tra} {v:Value} {w0 w:World} (h:Gs lo S iv M l v w0 w) (hl:l.length≤90000) (c:Ctx) (va:Int) (hc:c.Ok) (hv:0≤va∧va<4294967296) (hm:va%1048576=0) :
    Calls Tryz.prog 87 #[v,iv,.agg #[.bool c.on,.bool c.tre,.bool c.afe,.int .i64 c.n,.bool c.pd0,.bool c.pd1,.int .u64 c.b0,.int .u64 c.b1,.int .u32 c.dacr,.int .u32 c.prrr,.int .u32 c.nmrr,.int .i64 c.asid],.int .u32 va] w fun e w'=>∃v',e= .returned v'∧Gs lo S iv M (l++gaL M c va) v' w0 w':=by
  unfold gaL
  by_cases hf:(w1 M c va).2.k=0
  · rw [if_pos hf]
    obtain ⟨ho,he,hw,hk⟩:=w1_kind hf
    have hx:=h.mem.ok (fA c va)
    by_cases h1:(w1 M c va).1.kind=1
    · rw [if_pos h1]
      have hb:0≤(w1 M c va).1.base∧(w1 M c va).1.base<4294967296:=by
        rw [hw] at h1 ⊢
        dsimp only at h1 ⊢
        have:=D1_base _ hx h1
        omega
      exact gather_tab h hl c va hc hv hm (w1 M c va).1 (by rw [hw]; rfl) h1 hb
    · rw [if_neg h1]
      exact gather_one h (by omega) c va hc hv (w1 M c va).1.kind (w1 M c va).1.base (w1 M c va).1.dom (w1 M c va).1.ns (w1 M c va).1.ap (w1 M c va).1.bits (w1 M c va).1.ng (w1 M c va).1.xn (by rw [hw]; rfl) h1 (by rw [hw]; exact (ok_D1 _ hx).1) _ rfl
  · rw [if_neg hf,List.append_nil]
    refine (gather_no h c va hc hv (w1 M c va).1.kind (w1 M c va).1.base (w1 M c va).1.dom (w1 M c va).1.ns (w1 M c va).1.ap (w1 M c va).1.bits (w1 M c va).1.ng (w1 M c va).1.xn (w1 M c va).2.k (w1 M c va).2.l (w1 M c va).2.d rfl hf).mono ?_
    rintro e w' ⟨rfl,hG⟩
    exact ⟨v,rfl,hG⟩
end Go.Proofs.YtnjlajjjcmhfgaaGreatDoor
namespace Go.Proofs.YtnjlajjjcmhfgaaGreatDoor
open Go.RowKit
open Mm (Turn gr RowAt)
set_option linter.unusedVariables false
set_option linter.unusedSimpArgs false
def solid (w:World) (b:Nat):Prop:=∃o,w.heap[b]? =some o∧(o.isCells=true∨o.isWalk=true)
def airy (X:Nat→Prop) (W:World) (b:Nat):Prop:=X b∨∃o,W.heap[b]? =some o∧o.isCells=false∧o.isWalk=false
def KpX (X:Nat→Prop) (W W':World):Prop:=Turn (airy X W) W W'
theorem solid.lt {w:World} {b:Nat} (h:solid w b):b<w.heap.size:=by
  obtain ⟨o,ho,_⟩:=h
  exact (Array.getElem?_eq_some_iff.1 ho).1
theorem solid.not {X:Nat→Prop} {w:World} {b:Nat} (h:solid w b) (hX:¬X b):¬airy X w b:=by
  rintro (hx|⟨o,ho,h1,h2⟩)
  · exact hX hx
  · obtain ⟨o',ho',h3⟩:=h
    rw [ho] at ho'
    cases ho'
    rw [h1,h2] at h3
    simp at h3
theorem solid.cell {w:World} {b o:Nat} {v:Value} (h:w.cell? ⟨b,o,none⟩=some v):solid w b:=by
  unfold World.cell? at h
  split at h
  · rename_i c e f ho
    exact ⟨_,ho,.inl rfl⟩
  · cases h
theorem solid.row {w:World} {b:Nat} {t:TypeId} {l:List Value} (h:RowAt w b t l):solid w b:=⟨_,h,.inl rfl⟩
theorem KpX.trans {X:Nat→Prop} {A B C:World} (h:KpX X A B) (k:KpX X B C):KpX X A C:=by
  refine Turn.trans (S:=airy X A) h k (fun x hx=> ?_)
  by_cases hl:x<A.heap.size
  · refine .inl ?_
    by_cases ha:airy X A x
    · exact ha
    · have:=Turn.block h x hl ha
      rcases hx with hx|⟨o,ho,h1,h2⟩
      · exact .inl hx
      · exact .inr ⟨o,by rw [←this]; exact ho,h1,h2⟩
  · exact .inr (by omega)
theorem KpX.put {X:Nat→Prop} (W:World) (l:Nat) (o o':Obj) (h:W.heap[l]? =some o) (h1:o.isCells=false) (h2:o.isWalk=false):KpX X W (W.putObj l o') :=
  Turn.grown (grownBy_putObj' W l o') (fun k hk=>by cases hk; exact .inl (.inr ⟨o,h,h1,h2⟩))
theorem KpX.of {X:Nat→Prop} {W W':World} (h:Turn X W W'):KpX X W W':=h.mono (fun x _ hx=> .inl hx)
theorem KpX.block {X:Nat→Prop} {W W':World} (h:KpX X W W') {b:Nat} (hb:solid W b) (hX:¬X b):W'.heap[b]? =W.heap[b]? :=Turn.block h b hb.lt (hb.not hX)
theorem solid.of {w w':World} {b:Nat} (h:solid w b) (e:w'.heap[b]? =w.heap[b]?):solid w' b:=by
  obtain ⟨o,ho,h1⟩:=h
  exact ⟨o,e.trans ho,h1⟩
structure It (X S:Nat→Prop) (iv:Value) (M:Mo) (c:Ctx) (bc bm:Nat) (w:World):Prop where
  mem:MemP w S iv M
  tab:TW w
  sol:∀b,S b∨tbl b→solid w b∧¬X b
  hbc:Bl w bc 47 [.bool c.on,.bool c.tre,.bool c.afe,.int .i64 c.n,.bool c.pd0,.bool c.pd1,.int .u64 c.b0,.int .u64 c.b1,.int .u32 c.dacr,.int .u32 c.prrr,.int .u32 c.nmrr,.int .i64 c.asid]
  nbc:¬X bc
  hbm:Bl w bm 51 [iv]
  nbm:¬X bm
theorem It.below {X S:Nat→Prop} {iv:Value} {M:Mo} {c:Ctx} {bc bm:Nat} {w w':World} (h:It X S iv M c bc bm w) (hb:Below w.heap.size w w'):It X S iv M c bc bm w' :=
  ⟨h.mem.below hb,h.tab.below hb,fun b hh=>⟨(h.sol b hh).1.of (hb.block b (h.sol b hh).1.lt),(h.sol b hh).2⟩,h.hbc.below hb,h.nbc,h.hbm.below hb,h.nbm⟩
theorem It.kept {X S:Nat→Prop} {iv:Value} {M:Mo} {c:Ctx} {bc bm:Nat} {w w':World} (h:It X S iv M c bc bm w) (k:KpX X w w'):It X S iv M c bc bm w' :=
  ⟨h.mem.keep k (fun b hb=>(h.sol b (.inl hb)).1.not (h.sol b (.inl hb)).2),h.tab.turn k (fun b hb=>(h.sol b (.inr hb)).1.not (h.sol b (.inr hb)).2),fun b hh=>⟨(h.sol b hh).1.of (k.block (h.sol b hh).1 (h.sol b hh).2),(h.sol b hh).2⟩,
    (k.block ⟨_,h.hbc,.inl rfl⟩ h.nbc).trans h.hbc,h.nbc,(k.block ⟨_,h.hbm,.inl rfl⟩ h.nbm).trans h.hbm,h.nbm⟩
theorem row_kept {X:Nat→Prop} {w w':World} {g:Nat} {t:TypeId} {l:List Value} (h:RowAt w g t l) (hX:¬X g) (k:KpX X w w'):RowAt w' g t l:=(k.block (.row h) hX).trans h
theorem TW.solid {w:World} (h:TW w) {b:Nat} (hb:tbl b):solid w b:=by
  rcases hb with rfl|rfl|rfl|rfl|rfl|rfl
  · exact .cell (h.r.first 0 _ rfl)
  · exact .cell (h.r.second 0 _ rfl)
  · exact .cell (h.r.base 0 _ rfl)
  · exact .cell (h.r.leaf 0 _ rfl)
  · exact .cell (h.r.tags 0 _ rfl)
  · exact .cell (h.r.size 0 _ rfl)
end Go.Proofs.YtnjlajjjcmhfgaaGreatDoor
