import Derived.Laws.AppendOwn
import Derived.Laws.OwnMore
import Derived.Laws.CopyRow
import Derived.Deep.AppendSrc
import Derived.Lib.AppendZeros
import Derived.Lib.Overlaps
import Derived.Laws.Externs
import Derived.Below
import Derived.Deep.Draws
import Derived.Test.YtnjlajjjcmhfgaaGreatDoorChecked
import Derived.WalkKit
import Derived.RegionTactic
import Derived.Deep.RegionLaw
import Derived.OwnWalk
namespace Go.Proofs.YtnjlajjjcmhfgaaGreatDoor.Bs
open Go.RowKit
set_option linter.unusedVariables false
variable {P:Program}
def RowAt (W:World) (g:Nat) (e:TypeId) (cur:List Value):Prop:=W.heap[g]? =some (.cells cur.toArray e (0,0))
theorem RowAt.lt {W:World} {g:Nat} {e:TypeId} {cur:List Value} (h:RowAt W g e cur):g<W.heap.size:=(Array.getElem?_eq_some_iff.1 h).1
theorem RowAt.cell {W:World} {g:Nat} {e:TypeId} {cur:List Value} (h:RowAt W g e cur) (j:Nat):W.cell? ⟨g,j,none⟩=cur[j]? :=by
  rw [cell_of_row W g j cur.toArray e (0,0) h]; simp
theorem RowAt.frozen {W:World} {g:Nat} {e:TypeId} {cur:List Value} (h:RowAt W g e cur) (j:Nat):W.frozen? ⟨g,j,none⟩=false:=by
  simp [World.frozen?,show W.heap[g]? =_ from h]
theorem RowAt.grown {W W':World} {g:Nat} {e:TypeId} {cur:List Value} {row:Option Nat} (h:RowAt W g e cur) (hg:W.grownBy W' row) (hne:some g≠row):RowAt W' g e cur:=by
  show W'.heap[g]? =_
  rw [hg.block g h.lt hne]; exact h
theorem grownBy_refl (W:World) (r:Option Nat):W.grownBy W r:=⟨rfl,rfl,rfl,Nat.le_refl _,fun _ _ _=>rfl⟩
theorem grownBy_trans {W W1 W2:World} {r:Option Nat} (h:W.grownBy W1 r) (h2:W1.grownBy W2 r):W.grownBy W2 r :=
  ⟨h2.os.trans h.os,h2.tape.trans h.tape,h2.output.trans h.output,Nat.le_trans h.size h2.size,fun k hk hne=>(h2.block k (Nat.lt_of_lt_of_le hk h.size) hne).trans (h.block k hk hne)⟩
theorem grownBy_new {W W1 W2:World} {r:Option Nat} {g:Nat} (h:W.grownBy W1 r) (h2:W1.grownBy W2 (some g)) (hg:W.heap.size≤g):W.grownBy W2 r :=
  ⟨h2.os.trans h.os,h2.tape.trans h.tape,h2.output.trans h.output,Nat.le_trans h.size h2.size,fun k hk hne=>(h2.block k (Nat.lt_of_lt_of_le hk h.size) (fun e=>by cases e; omega)).trans (h.block k hk hne)⟩
theorem grownBy_none {W W1:World} (r:Option Nat) (h:W.grownBy W1 none):W.grownBy W1 r :=
  ⟨h.os,h.tape,h.output,h.size,fun k hk _=>h.block k hk (by simp)⟩
theorem grownBy_drew (W:World) (r:Option Nat):W.grownBy W.drew r:=⟨rfl,rfl,rfl,Nat.le_refl _,fun _ _ _=>rfl⟩
theorem grownBy_drewN (W:World) (r:Option Nat) (n:Nat):W.grownBy (W.drewN n) r:=⟨rfl,rfl,rfl,Nat.le_refl _,fun _ _ _=>rfl⟩
theorem grownBy_setRow (W:World) (g:Nat) (c:Array Value):W.grownBy (W.setRow g c) (some g) :=
  ⟨rfl,rfl,rfl,by simp [World.setRow],fun k hk hne=>setRow_other W g k c (fun e=>hne (by rw [e]))⟩
theorem copy_row (w:World) (dT sT elem:TypeId) (i:TypeInfo) (hu:P.underlying dT=some (.slice elem)) (hi:P.info? elem=some i) (g o dLen:Nat) (a:Addr) (sLen:Nat) (cur:List Value) (t:TypeId) (cs:List Value)
    (hg:RowAt w g t cur) (hn:cs.length=Nat.min sLen dLen*i.size)
    (hsrc:∀j v,cs[j]? =some v→w.cell? (a.add j)=some v) (hfit:o+cs.length≤cur.length) (h1:∀v∈cs,v.oneCell'=true) :
    ∃w',(∀ty dc sc,(Builtin.copy_ #[dT,sT] ty #[.slice (some ⟨g,o,none⟩) dLen dc,.slice (some a) sLen sc]).run P w= .ok (goInt (Nat.min sLen dLen)) w')∧
      RowAt w' g t (cur.take o++cs++cur.drop (o+cs.length))∧w.grownBy w' (some g):=by
  have hl:=run_loadCells_list (P:=P) w a cs hsrc
  have hst:=run_storeCells_at P g o t cs 0 cur.toArray w hg (by simpa using hfit) h1
  refine ⟨w.setRow g (cur.take o++cs++cur.drop (o+cs.length)).toArray,?_,setRow_heap w g _ _ t _ hg,grownBy_setRow _ _ _⟩
  intro ty dc sc
  simp [Builtin.copy_,run_underlying hu,Builtin.lenOf,Builtin.firstCells,sizeOf,typeInfo,hi,←hn,hl,hst]
theorem copy_none (w:World) (dT sT elem:TypeId) (i:TypeInfo) (hu:P.underlying dT=some (.slice elem)) (hi:P.info? elem=some i) (a:Addr) (dLen:Nat) :
    ∀ty dc,(Builtin.copy_ #[dT,sT] ty #[.slice (some a) dLen dc,.slice none 0 0]).run P w= .ok (goInt 0) w:=by
  intro ty dc
  simp [Builtin.copy_,run_underlying hu,Builtin.lenOf,Builtin.firstCells,sizeOf,typeInfo,hi,storeCells]
theorem zeroCells_list (z:Array Value) (n:Nat):(Builtin.zeroCells z n).toList.length=n*z.size:=by
  rw [Array.length_toList,size_zeroCells]
theorem clear_row (w:World) (dT elem:TypeId) (i:TypeInfo) (z:Value) (hu:P.underlying dT=some (.slice elem)) (hi:P.info? elem=some i) (hz:i.zero=some z) (g o n:Nat) (cur:List Value) (t:TypeId)
    (hg:RowAt w g t cur) (hfit:o+n*z.cells.size≤cur.length) (h1:∀v∈(Builtin.zeroCells z.cells n).toList,v.oneCell'=true) (h0:0<n) :
    ∃w',(∀ty c,(Builtin.clear_ #[dT] ty #[.slice (some ⟨g,o,none⟩) n c]).run P w= .ok (.tuple #[]) w')∧
      RowAt w' g t (cur.take o++(Builtin.zeroCells z.cells n).toList++cur.drop (o+n*z.cells.size))∧w.grownBy w' (some g):=by
  have hst:=run_storeCells_at P g o t (Builtin.zeroCells z.cells n).toList 0 cur.toArray w hg (by rw [zeroCells_list]; simpa using hfit) h1
  rw [zeroCells_list] at hst
  refine ⟨w.setRow g (cur.take o++(Builtin.zeroCells z.cells n).toList++cur.drop (o+n*z.cells.size)).toArray,?_,setRow_heap w g _ _ t _ hg,grownBy_setRow _ _ _⟩
  intro ty c
  cases n with
  | zero=>omega
  | succ n=>simp [Builtin.clear_,run_underlying hu,zeroValue,typeInfo,hi,hz,hst]
theorem clear_none (w:World) (dT:TypeId) (elem:TypeId) (hu:P.underlying dT=some (.slice elem)) (a:Option Addr) :
    ∀ty c,(Builtin.clear_ #[dT] ty #[.slice a 0 c]).run P w= .ok (.tuple #[]) w:=by
  intro ty c
  cases a <;>simp [Builtin.clear_,run_underlying hu]
theorem append_room (w:World) (t e:TypeId) (i:TypeInfo) (ht:P.underlying t=some (.slice e)) (hi:P.info? e=some i) (g sLen sCap:Nat) (cur:List Value) (hg:RowAt w g e cur)
    (x:Value) (m:Nat) (news:List Value) (hs:Src P i.size t x m news w) (hroom:sLen+m≤sCap) (hfit:sLen*i.size+news.length≤cur.length) :
    ∃w',(∀ty,(Builtin.append_ #[t,t] ty #[.slice (some ⟨g,0,none⟩) sLen sCap,x]).run P w= .ok (.slice (some ⟨g,0,none⟩) (sLen+m) sCap) w')∧
      RowAt w' g e (cur.take (sLen*i.size)++news++cur.drop (sLen*i.size+news.length))∧w.grownBy w' (some g):=by
  have hst:=run_storeCells_at P g (sLen*i.size) e news 0 cur.toArray w hg (by simpa using hfit) hs.one
  simp only [Nat.add_zero] at hst
  refine ⟨w.setRow g (cur.take (sLen*i.size)++news++cur.drop (sLen*i.size+news.length)).toArray,?_,setRow_heap w g _ _ e _ hg,grownBy_setRow _ _ _⟩
  intro ty
  simp [Builtin.append_,run_underlying ht,sizeOf,typeInfo,hi,hs.len,hroom,hs.cells,Addr.add_lit,hst]
theorem append_away (w:World) (t e:TypeId) (i:TypeInfo) (z:Value) (ht:P.underlying t=some (.slice e)) (hi:P.info? e=some i) (hz:i.zero=some z) (hzs:z.cells.size=i.size)
    (base:Option Addr) (sLen sCap:Nat) (olds:List Value) (hol:olds.length=sLen*i.size) (hold:(Builtin.firstCells i.size sLen (.slice base sLen sCap)).run P w.drew= .ok olds.toArray w.drew)
    (x:Value) (m:Nat) (news:List Value) (hs:Src P i.size t x m news w) (hroom:sCap<sLen+m) (h63:sLen+m≤maxLen) (hby:(sLen+m)*i.bytes≤140737488355328) :
    ∃w' cap rest,(∀ty,(Builtin.append_ #[t,t] ty #[.slice base sLen sCap,x]).run P w= .ok (.slice (some ⟨w.heap.size,0,none⟩) (sLen+m) cap) w')∧
      RowAt w' w.heap.size e (olds++news++rest)∧rest.length=(cap-(sLen+m))*i.size∧sLen+m≤cap∧cap≤maxLen∧w.grownBy w' none∧w'.heap.size=w.heap.size+1:=by
  have hr:=fun ty=>run_append_grow_src (P:=P) w t t ty e i z ht hi hz base sLen sCap olds hold x m news hs hroom (by unfold maxLen at h63; omega) (growslice_fits hroom hby)
  refine ⟨_,_,(Builtin.zeroCells z.cells (grownCap w (sLen+m) sCap e-(sLen+m))).toList,hr,?_,?_,grownCap_ge _ _ _ _,grownCap_le_maxLen _ _ _ _ h63,?_,?_⟩
  · show _=_
    have:=heap_alloc_new w.drew (.cells ((olds++news).toArray++Builtin.zeroCells z.cells (grownCap w (sLen+m) sCap e-(sLen+m))) e)
    rw [show w.heap.size=w.drew.heap.size from rfl,this]
    congr 2
    apply Array.ext'
    simp
  · rw [zeroCells_list,hzs]
  · exact grownBy_trans (grownBy_drew w none) (World.grownBy_alloc _ _ _)
  · simp
theorem append_zeros (w:World) (t tn e:TypeId) (i:TypeInfo) (z:Value) (k kn:IntKind) (ht:P.underlying t=some (.slice e)) (htn:P.underlying tn=some (.int kn)) (hi:P.info? e=some i) (hz:i.zero=some z) (hzs:z.cells.size=i.size)
    (hpos:0<i.size) (a:Addr) (sLen sCap:Nat) (olds:List Value) (hol:olds.length=sLen*i.size) (hcell:∀j v,olds[j]? =some v→w.cell? (a.add j)=some v)
    (m:Nat) (h0:0<m) (hroom:sCap<sLen+m) (h63:sLen+m≤maxLen) (hby:(sLen+m)*i.bytes≤140737488355328) (nn:Int) (hnn:nn=(m:Int)) :
    ∃w' cap rest,(∀ty,(Builtin.append_ #[t,tn] ty #[.slice (some a) sLen sCap,.int k nn]).run P w= .ok (.slice (some ⟨w.heap.size,0,none⟩) (sLen+m) cap) w')∧
      RowAt w' w.heap.size e (olds++rest)∧rest.length=(cap-sLen)*i.size∧sLen+m≤cap∧cap≤maxLen∧w.grownBy w' none∧w'.heap.size=w.heap.size+1:=by
  subst hnn
  have h63':sLen+m≤9223372036854775807:=by unfold maxLen at h63; omega
  have hw:IntKind.i64.wrap (m:Int)=m:=by rw [IntKind.wrap_i64]; omega
  have hneg:¬((m:Int)<0):=by omega
  have hmb:m*i.bytes≤140737488355328:=Nat.le_trans (Nat.mul_le_mul_right _ (by omega)) hby
  have h48i:¬(281474976710656<(m:Int)*(i.bytes:Int)):=by rw [←Int.natCast_mul]; omega
  have hns:¬(m*i.size=0):=Nat.mul_ne_zero (by omega) (by omega)
  have hn:¬(sLen+m≤sCap):=by omega
  have h63i:¬(9223372036854775807<((sLen:Int)+(m:Int))):=by omega
  have h48':¬(281474976710656<Builtin.nextslicecap (sLen+m) sCap*i.bytes):=by have:=growslice_fits hroom hby; omega
  have hold:=run_firstCells_some (P:=P) w.drew i.size sLen a sLen sCap olds hol (by simpa using hcell)
  have hgc:=grownCap_ge w (sLen+m) sCap e
  refine ⟨w.drew.alloc (.cells ((olds++((Builtin.zeroCells z.cells m).toList++(Builtin.zeroCells z.cells (grownCap w (sLen+m) sCap e-(sLen+m))).toList)).toArray) e),grownCap w (sLen+m) sCap e,(Builtin.zeroCells z.cells m).toList++(Builtin.zeroCells z.cells (grownCap w (sLen+m) sCap e-(sLen+m))).toList,?_,?_,?_,hgc,grownCap_le_maxLen _ _ _ _ h63,?_,?_⟩
  · intro ty
    simp [Builtin.append_,run_underlying ht,run_underlying htn,sizeOf,typeInfo,zeroValue,hi,hz,asInt,asIntOf,hw,hneg,h48i,hn,h63i,h48',Question.forced,hold,newRow,grownCap]
    rw [if_neg hns]
    congr 3
    apply Array.ext'
    simp
  · show _=_
    have:=heap_alloc_new w.drew (.cells ((olds++((Builtin.zeroCells z.cells m).toList++(Builtin.zeroCells z.cells (grownCap w (sLen+m) sCap e-(sLen+m))).toList)).toArray) e)
    rw [show w.heap.size=w.drew.heap.size from rfl,this]
  · rw [List.length_append,zeroCells_list,zeroCells_list,hzs,←Nat.add_mul]
    congr 1
    omega
  · exact grownBy_trans (grownBy_drew w none) (World.grownBy_alloc _ _ _)
  · simp
theorem wpl_copy (w:World) {ops:Array Oper} {rest:List Oper} {o:Oper} {a:Act} {Q:Exit→Act→World→Prop} (hgd:o.guard=none) (d s:Operand) (t t':TypeId)
    (ho:o.op= .call { callee:= .builtin .copy,args:=#[d,s],argTypes:=#[t,t'] }) (v u:Value) (hd:a.eval d=v) (hs:a.eval s=u) {v':Value} {w':World}
    (hr:(Builtin.copy_ #[t,t'] o.type #[v,u]).run P w= .ok v' w') (h:wpList P ops Q rest (a.put o.dst v') w'):wpList P ops Q (o::rest) a w:=by
  refine wpList_plain hgd fun _ hK=> ?_
  unfold Oper.wp execOp
  simp only [ho,resolve,invoke,builtin,Sem.run_bind,Sem.run_pure,Result.andThen_ok,List.map_toArray,List.map_cons,List.map_nil,hd,hs,hr]
  exact hK _ _ h
theorem step_copy {ops:Array Oper} {o:Oper} {a:Act} {w:World} {K:Act→World→Prop} {Q:Exit→Act→World→Prop} {E:Prop}
    (hg:o.guard=none) (d x:Operand) (dT sT:TypeId) (hop:o.op=Op.call { callee:=Callee.builtin Builtin.copy,args:=#[d,x],argTypes:=#[dT,sT] })
    (v u:Value) (hd:a.eval d=v) (hx:a.eval x=u) {v':Value} {w':World} (hr:(Builtin.copy_ #[dT,sT] o.type #[v,u]).run P w= .ok v' w') (hK:K (a.put o.dst v') w') :
    if Region.wanted o (yielded ops a.tmps)=true then Oper.wp P o a w K Q else E:=by
  have hw:Region.wanted o (yielded ops a.tmps)=true:=by simp [Region.wanted,hg]
  rw [if_pos hw]
  unfold Oper.wp
  simp [execOp,hop,resolve,invoke,builtin,hd,hx,hr,Result.andThen]
  exact hK
theorem wpl_clear (w:World) {ops:Array Oper} {rest:List Oper} {o:Oper} {a:Act} {Q:Exit→Act→World→Prop} (hgd:o.guard=none) (d:Operand) (t:TypeId)
    (ho:o.op= .call { callee:= .builtin .clear,args:=#[d],argTypes:=#[t] }) (v:Value) (hd:a.eval d=v) {v':Value} {w':World}
    (hr:(Builtin.clear_ #[t] o.type #[v]).run P w= .ok v' w') (h:wpList P ops Q rest (a.put o.dst v') w'):wpList P ops Q (o::rest) a w:=by
  refine wpList_plain hgd fun _ hK=> ?_
  unfold Oper.wp execOp
  simp only [ho,resolve,invoke,builtin,Sem.run_bind,Sem.run_pure,Result.andThen_ok,List.map_toArray,List.map_cons,List.map_nil,hd,hr]
  exact hK _ _ h
end Go.Proofs.YtnjlajjjcmhfgaaGreatDoor.Bs
namespace Go.Proofs.YtnjlajjjcmhfgaaGreatDoor.Bs
open Go.RowKit
set_option linter.unusedVariables false
variable {P:Program}
theorem own_of_row {W:World} {lo g n cap size:Nat} {e:TypeId} {cur xs:List Value} (hg:RowAt W g e cur) (hlo:lo≤g) (hn:n≤cap) (hc:cap≤maxLen) (hl:cur.length=cap*size) (hx:cur.take (n*size)=xs) :
    W.ownsRow lo e size (.slice (some ⟨g,0,none⟩) n cap) n xs:=by
  refine ⟨?_,.inr ⟨g,cap,cur.toArray,rfl,hlo,hg,hn,hc,by simpa using hl,by simpa using hx⟩⟩
  rw [←hx,List.length_take,hl,Nat.min_eq_left (Nat.mul_le_mul_right _ hn)]
theorem row_of_own {W:World} {lo n size:Nat} {e:TypeId} {v:Value} {xs:List Value} (h:W.ownsRow lo e size v n xs) :
    (v= .slice none 0 0∧n=0∧xs=[])∨∃g cap cur,v= .slice (some ⟨g,0,none⟩) n cap∧lo≤g∧RowAt W g e cur∧n≤cap∧cap≤maxLen∧cur.length=cap*size∧cur.take (n*size)=xs:=by
  obtain ⟨h1,h2⟩:=h
  rcases h2 with ⟨rfl,rfl⟩|⟨g,cap,cur,rfl,a,b,c,d,e,f⟩
  · exact .inl ⟨rfl,rfl,List.eq_nil_of_length_eq_zero (by simpa using h1)⟩
  · exact .inr ⟨g,cap,cur.toList,rfl,a,by simpa [RowAt] using b,c,d,by simpa using e,f⟩
theorem src_of_own {w:World} {lo m size:Nat} {t e e':TypeId} {v:Value} {vs:List Value} (ht:P.underlying t=some (.slice e')) (h:w.ownsRow lo e size v m vs) (h1:∀u∈vs,u.oneCell'=true):Src P size t v m vs w:=by
  have hlen:=h.1
  rcases row_of_own h with ⟨rfl,rfl,rfl⟩|⟨g,cap,cur,rfl,a,b,c,d,e1,f⟩
  · exact Src.ofNil w ht 0
  · exact Src.ofSlice w ht ⟨g,0,none⟩ m cap vs hlen (fun j u hj=>h.cells rfl j u hj) h1
theorem append_any (w:World) (t e:TypeId) (i:TypeInfo) (z:Value) (ht:P.underlying t=some (.slice e)) (hi:P.info? e=some i) (hz:i.zero=some z) (hzs:z.cells.size=i.size)
    (lo n m:Nat) (s x:Value) (xs news:List Value) (hs:w.ownsRow lo e i.size s n xs) (hx:Src P i.size t x m news w) (hlo:lo≤w.heap.size) (h63:n+m≤maxLen) (hby:(n+m)*i.bytes≤140737488355328) :
    ∃v' w',(∀ty,(Builtin.append_ #[t,t] ty #[s,x]).run P w= .ok v' w')∧w'.ownsRow lo e i.size v' (n+m) (xs++news)∧w.grownBy w' s.ownBlock∧(∀g,v'.ownBlock=some g→s.ownBlock=some g∨w.heap.size≤g):=by
  have hnl:=hx.newsLen
  rcases row_of_own hs with ⟨rfl,rfl,rfl⟩|⟨g,cap,cur,rfl,a,b,c,d,e1,f⟩
  · by_cases h0:m=0
    · subst h0
      obtain rfl:news=[]:=List.eq_nil_of_length_eq_zero (by simpa using hnl)
      refine ⟨.slice none 0 0,w,?_,World.ownsRow_nil _ _ _ _,grownBy_refl _ _,fun g hg=>by cases hg⟩
      intro ty
      simp [Builtin.append_,run_underlying ht,sizeOf,typeInfo,hi,hx.len,hx.cells]
    · obtain ⟨w',cap,rest,h1,h2,h3,h4,h5,h6,h7⟩:=append_away w t e i z ht hi hz hzs none 0 0 [] (by simp) (run_firstCells_none w.drew i.size 0 0 0) x m news hx (by omega) (by omega) hby
      refine ⟨_,w',h1,own_of_row h2 hlo h4 h5 ?_ ?_,grownBy_none _ h6,fun g hg=> .inr (by cases hg; exact Nat.le_refl _)⟩
      · rw [List.length_append,List.length_append,h3,hnl,List.length_nil,Nat.zero_add,←Nat.add_mul]; congr 1; omega
      · rw [List.take_append_of_le_length (by simp [hnl])]
        exact List.take_of_length_le (by simp [hnl])
  · by_cases h0:n+m≤cap
    · have hfit:n*i.size+news.length≤cur.length:=by rw [hnl,e1,←Nat.add_mul]; exact Nat.mul_le_mul_right _ h0
      obtain ⟨w',h1,h2,h3⟩:=append_room w t e i ht hi g n cap cur b x m news hx h0 hfit
      refine ⟨_,w',h1,own_of_row h2 a h0 d ?_ ?_,h3,fun g hg=> .inl hg⟩
      · rw [List.length_append,List.length_append,List.length_take,List.length_drop,←e1]; omega
      · rw [f,List.take_append_of_le_length (by rw [List.length_append,hs.1,hnl,Nat.add_mul]; exact Nat.le_refl _)]
        exact List.take_of_length_le (by rw [List.length_append,hs.1,hnl,Nat.add_mul]; exact Nat.le_refl _)
    · obtain ⟨w',cap',rest,h1,h2,h3,h4,h5,h6,h7⟩:=append_away w t e i z ht hi hz hzs (some ⟨g,0,none⟩) n cap xs hs.1
        (run_firstCells_some w.drew i.size n ⟨g,0,none⟩ n cap xs hs.1 (fun j u hj=>hs.cells rfl j u hj)) x m news hx (by omega) h63 hby
      refine ⟨_,w',h1,own_of_row h2 (by omega) h4 h5 ?_ ?_,grownBy_none _ h6,fun g hg=> .inr (by cases hg; exact Nat.le_refl _)⟩
      · rw [List.length_append,List.length_append,h3,hnl,hs.1,←Nat.add_mul,←Nat.add_mul]; congr 1; omega
      · rw [List.take_append_of_le_length (by rw [List.length_append,hs.1,hnl,Nat.add_mul]; exact Nat.le_refl _)]
        exact List.take_of_length_le (by rw [List.length_append,hs.1,hnl,Nat.add_mul]; exact Nat.le_refl _)
end Go.Proofs.YtnjlajjjcmhfgaaGreatDoor.Bs
namespace Go.Proofs.YtnjlajjjcmhfgaaGreatDoor.Bs
open Go.RowKit
set_option linter.unusedVariables false
theorem infoEL:(Tryz.prog.info? 232).map (fun i=>(i.zero,i.size,i.bytes))=some (some (.agg #[.int .u64 0,.int .u64 0,.bool false]),3,24):=by kernel_rfl
theorem shape_of_row {W:World} {g:Nat} {e:TypeId} {cur:List Value} (h:RowAt W g e cur):W.shape? g=some (e,cur.length):=by
  simp [World.shape?,show W.heap[g]? =_ from h]
theorem overlaps_apart (w:World) (g h ao bo la ca lb cb:Nat) (cg ch:List Value) (e1 e2:TypeId) (hg:RowAt w g e1 cg) (hh:RowAt w h e2 ch) (hne:g≠h) (h0:ch.length≠0) :
    (callFunc 225 #[.slice (some ⟨g,ao,none⟩) la ca,.slice (some ⟨h,bo,none⟩) lb cb]).run Tryz.prog w= .ok (.value (.bool false)) w:=by
  rw [run_callFunc_extern Tryz.func225 (by kernel_rfl) (by kernel_rfl) (by kernel_rfl) (e:=Extern.SlicesOverlaps.overlaps #[225,225] #[4]) (by kernel_rfl),
    Lib.run_overlaps_apart w 225 4 232 Tryz.underlying225 3 Tryz.sizeOf232 ⟨g,ao,none⟩ ⟨h,bo,none⟩ la ca lb cb hne e1 e2 cg.length ch.length (shape_of_row hg) (shape_of_row hh) h0 (hg.frozen _) (hg.frozen _)]
  rfl
theorem shift_list (cur vs:List Value) (i j n m:Nat) {im nm:Nat} (hv:vs.length=m) (hij:i≤j) (hin:j≤n) (hn:i+m+(n-j)≤cur.length) (hnc:n≤cur.length) (him:im=i+m) (hnm:nm=i+m+(n-j)) :
    (((cur.take im++(cur.take n).drop j++cur.drop (im+((cur.take n).drop j).length)).take i++vs++(cur.take im++(cur.take n).drop j++cur.drop (im+((cur.take n).drop j).length)).drop (i+vs.length))).take nm=cur.take i++vs++(cur.take n).drop j:=by
  subst him hnm
  apply List.ext_getElem?
  intro q
  simp only [List.getElem?_take,List.getElem?_append,List.length_append,List.length_take,List.length_drop,List.getElem?_drop,hv]
  have e1:min (i+m) cur.length=i+m:=by omega
  have e2:min n cur.length=n:=by omega
  have e3:min i cur.length=i:=by omega
  simp only [e1,e2,e3]
  have e4:min i (i+m+(n-j)+(cur.length-(i+m+(n-j))))=i:=by omega
  by_cases c1:q<i
  · simp only [show q<i+m+(n-j) by omega,e4,show q<i+m by omega,c1,if_true]
  · by_cases c2:q<i+m
    · simp only [show q<i+m+(n-j) by omega,e4,c1,c2,if_true,if_false]
    · by_cases c3:q<i+m+(n-j)
      · simp only [c3,e4,c1,c2,if_true,if_false,show ¬(i+m+(q-(i+m))<i+m) by omega,show i+m+(q-(i+m))<i+m+(n-j) by omega,show i+m+(q-(i+m))-(i+m)=q-(i+m) by omega]
      · simp only [c3,c1,c2,if_false,show ¬(j+(q-(i+m))<n) by omega]
set_option maxHeartbeats 4000000 in
set_option maxRecDepth 100000 in
theorem insert_away (g cap n m i h vc:Nat) (cur vs:List Value) (w:World) (hg:RowAt w g 232 cur) (hc:cur.length=cap*3) (hnc:n≤cap) (hcm:cap≤maxLen)
    (hvr:∀j u,vs[j]? =some u→w.cell? ⟨h,j,none⟩=some u) (hvl:vs.length=m*3) (hh:h<w.heap.size)
    (hi:i<n) (hm:0<m) (hroom:cap<n+m) (hby:(n+m)*24≤140737488355328) (h1x:∀u∈cur.take (n*3),u.oneCell'=true) (h1v:∀u∈vs,u.oneCell'=true) :
    Calls Tryz.prog 224 #[.slice (some ⟨g,0,none⟩) n cap,.int .i64 i,.slice (some ⟨h,0,none⟩) m vc] w fun e w' =>
      ∃c' cur',e= .returned (.slice (some ⟨w.heap.size,0,none⟩) (n+m) c')∧RowAt w' w.heap.size 232 cur'∧cur'.length=c'*3∧n+m≤c'∧c'≤maxLen∧w.grownBy w' none∧
        cur'.take ((n+m)*3)=cur.take (i*3)++vs++(cur.take (n*3)).drop (i*3):=by
  obtain ⟨inf,hi0,hz0,hzs,hzb⟩:=info_parts infoEL
  have hcut:(cur.take (i*3)).length=i*3:=by rw [List.length_take,hc]; exact Nat.min_eq_left (Nat.mul_le_mul_right _ (by omega))
  obtain ⟨w1,c',rest,hr1,hrow1,hrl,hcc,hcm',hgr1,hsz1⟩:=append_zeros (P:=Tryz.prog) w 225 3 232 inf _ .i64 .i64 Tryz.underlying225 Tryz.underlying3 hi0 hz0 (by rw [hzs]; rfl) (by rw [hzs]; decide) ⟨g,0,none⟩ i cap (cur.take (i*3))
    (by rw [hzs]; exact hcut) (fun j v hj=>by
      rw [Addr.add_lit,hg.cell,Nat.zero_add]
      rw [List.getElem?_take] at hj
      split at hj
      · exact hj
      · cases hj) (n+m-i) (by omega) (by omega) (by unfold maxLen; omega) (by rw [hzb,show i+(n+m-i)=n+m by omega]; exact hby) ((n:Int)+m-i) (by omega)
  rw [show i+(n+m-i)=n+m by omega] at hr1 hcc
  unfold maxLen at hcm
  have hz1:¬((m:Int)=0):=by omega
  have hz2:¬((i:Int)=(n:Int)):=by omega
  have hz3:(cap:Int)<(n:Int)+(m:Int):=by omega
  have hin:(i:Int)≤(n:Int):=by omega
  have hgl:=hg.lt
  have hrl':rest.length=(c'-i)*3:=by rw [hrl,hzs]
  obtain ⟨w2,hr2,hrow2,hgr2⟩:=copy_row (P:=Tryz.prog) w1 225 225 232 inf Tryz.underlying225 hi0 w.heap.size (i*3) (n+m-i) ⟨h,0,none⟩ m _ 232 vs hrow1 (by rw [hzs,hvl,show Nat.min m (n+m-i)=m from Nat.min_eq_left (by omega)])
    (fun j u hj=>by
      rw [Addr.add_lit,Nat.zero_add]
      exact hgr1.cell (hvr j u hj) (by simp)) (by rw [List.length_append,hcut,hvl,hrl']; omega) h1v
  rw [show Nat.min m (n+m-i)=m from Nat.min_eq_left (by omega)] at hr2
  have hgw:RowAt w2 g 232 cur:=(hg.grown hgr1 (by simp)).grown hgr2 (by simp; omega)
  have htl:((cur.take (n*3)).drop (i*3)).length=(n-i)*3:=by rw [List.length_drop,List.length_take,hc,Nat.min_eq_left (Nat.mul_le_mul_right _ hnc),←Nat.sub_mul]
  obtain ⟨w3,hr3,hrow3,hgr3⟩:=copy_row (P:=Tryz.prog) w2.drew 225 225 232 inf Tryz.underlying225 hi0 w.heap.size ((i+m)*3) (n+m-(i+m)) ⟨g,i*3,none⟩ (n-i) _ 232 ((cur.take (n*3)).drop (i*3)) hrow2
    (by rw [hzs,htl,show Nat.min (n-i) (n+m-(i+m))=n-i from Nat.min_eq_left (by omega)])
    (fun j u hj=>by
      rw [Addr.add_lit]
      show w2.cell? _=_
      rw [hgw.cell]
      rw [List.getElem?_drop,List.getElem?_take] at hj
      split at hj
      · exact hj
      · cases hj) (by rw [htl]; simp only [List.length_append,List.length_take,List.length_drop,hcut,hvl,hrl']; omega)
    (fun u hu=>h1x u (List.mem_of_mem_drop hu))
  have hw1:IntKind.i64.wrap ((i:Int)+(m:Int))=(i:Int)+(m:Int):=by rw [IntKind.wrap_i64]; omega
  have hb1:(0:Int)≤(i:Int)+(m:Int):=by omega
  have htn:((i:Int)+(m:Int)).toNat=i+m:=by omega
  have hb2:¬(c'=i+m):=by omega
  have hb4:¬(cap=i):=by omega
  go_enter Tryz.func224,Tryz.ntmps224
  go_wp2_with (first|(at_builtin; refine Lib.wpList_append_run _ rfl _ _ 225 3 rfl _ _ rfl rfl _ _ (hr1 _) ?_)|(at_builtin; refine wpl_copy _ rfl _ _ 225 225 rfl _ _ rfl rfl (hr2 _ _ _) ?_))
  go_region_law (refine step_copy rfl _ _ 225 225 rfl _ _ (by simp [Act.eval,Act.put]) (by simp [Act.eval,Act.put]) (hr3 _ _ _) ?_)
  go_wp2
  go_ret
  refine ⟨c',_,rfl,hrow3,?_,hcc,hcm',?_,?_⟩
  · simp only [List.length_append,List.length_take,List.length_drop,hcut,hvl,hrl',htl]; omega
  · exact grownBy_new (grownBy_new hgr1 hgr2 (Nat.le_refl _)) (grownBy_trans (grownBy_drew _ _) hgr3) (Nat.le_refl _)
  · have e1:(cur.take (i*3)++rest).take (i*3)=cur.take (i*3):=by
      rw [List.take_append_of_le_length (by rw [hcut]; exact Nat.le_refl _),List.take_of_length_le (by rw [hcut]; exact Nat.le_refl _)]
    rw [e1]
    have e2:(cur.take (i*3)++vs).length=(i+m)*3:=by rw [List.length_append,hcut,hvl,Nat.add_mul]
    rw [List.take_append_of_le_length (show (i+m)*3≤(cur.take (i*3)++vs).length by rw [e2]; exact Nat.le_refl _),List.take_of_length_le (show (cur.take (i*3)++vs).length≤(i+m)*3 by rw [e2]; exact Nat.le_refl _)]
    rw [List.take_append_of_le_length (by rw [List.length_append,e2,htl]; omega)]
    exact List.take_of_length_le (by rw [List.length_append,e2,htl]; omega)
set_option maxHeartbeats 4000000 in
set_option maxRecDepth 100000 in
theorem insert_shift (g cap n m i h vc:Nat) (cur cv:List Value) (w:World) (hg:RowAt w g 232 cur) (hc:cur.length=cap*3) (hnc:n≤cap) (hcm:cap≤maxLen)
    (hv:RowAt w h 232 cv) (hvl:m*3≤cv.length) (hne:h≠g)
    (hi:i<n) (hm:0<m) (hroom:n+m≤cap) (h1x:∀u∈cur.take (n*3),u.oneCell'=true) (h1v:∀u∈cv.take (m*3),u.oneCell'=true) :
    Calls Tryz.prog 224 #[.slice (some ⟨g,0,none⟩) n cap,.int .i64 i,.slice (some ⟨h,0,none⟩) m vc] w fun e w' =>
      ∃cur',e= .returned (.slice (some ⟨g,0,none⟩) (n+m) cap)∧RowAt w' g 232 cur'∧cur'.length=cap*3∧w.grownBy w' (some g)∧
        cur'.take ((n+m)*3)=cur.take (i*3)++cv.take (m*3)++(cur.take (n*3)).drop (i*3):=by
  obtain ⟨inf,hi0,hz0,hzs,hzb⟩:=info_parts infoEL
  have hcut:(cur.take (i*3)).length=i*3:=by rw [List.length_take,hc]; exact Nat.min_eq_left (Nat.mul_le_mul_right _ (by omega))
  have hvl':(cv.take (m*3)).length=m*3:=by rw [List.length_take]; exact Nat.min_eq_left hvl
  have htl:((cur.take (n*3)).drop (i*3)).length=(n-i)*3:=by rw [List.length_drop,List.length_take,hc,Nat.min_eq_left (Nat.mul_le_mul_right _ hnc),←Nat.sub_mul]
  obtain ⟨w1,hr1,hrow1,hgr1⟩:=copy_row (P:=Tryz.prog) w.drew 225 225 232 inf Tryz.underlying225 hi0 g ((i+m)*3) (n+m-(i+m)) ⟨g,i*3,none⟩ (n+m-i) cur 232 ((cur.take (n*3)).drop (i*3)) hg
    (by rw [hzs,htl,show Nat.min (n+m-i) (n+m-(i+m))=n-i by simp only [Nat.min_def]; split <;>omega])
    (fun j u hj=>by
      rw [Addr.add_lit]
      show w.cell? _=_
      rw [hg.cell]
      rw [List.getElem?_drop,List.getElem?_take] at hj
      split at hj
      · exact hj
      · cases hj) (by rw [htl,hc]; omega) (fun u hu=>h1x u (List.mem_of_mem_drop hu))
  have hvw:RowAt w1 h 232 cv:=hv.grown (grownBy_trans (grownBy_drew _ _) hgr1) (by simp; exact hne)
  obtain ⟨w2,hr2,hrow2,hgr2⟩:=copy_row (P:=Tryz.prog) w1 225 225 232 inf Tryz.underlying225 hi0 g (i*3) (n+m-i) ⟨h,0,none⟩ m _ 232 (cv.take (m*3)) hrow1 (by rw [hzs,hvl',show Nat.min m (n+m-i)=m from Nat.min_eq_left (by omega)])
    (fun j u hj=>by
      rw [Addr.add_lit,Nat.zero_add,hvw.cell]
      rw [List.getElem?_take] at hj
      split at hj
      · exact hj
      · cases hj) (by rw [hvl']; simp only [List.length_append,List.length_take,List.length_drop,htl,hc]; omega) h1v
  unfold maxLen at hcm
  have hov:∀bo lb cb,(callFunc 225 #[.slice (some ⟨h,0,none⟩) m vc,.slice (some ⟨g,bo,none⟩) lb cb]).run Tryz.prog w= .ok (.value (.bool false)) w:=fun bo lb cb =>
    overlaps_apart w h g 0 bo m vc lb cb cv cur 232 232 hv hg hne (by rw [hc]; omega)
  have hz1:¬((m:Int)=0):=by omega
  have hz2:¬((i:Int)=(n:Int)):=by omega
  have hz3:¬((cap:Int)<(n:Int)+(m:Int)):=by omega
  have hin:(i:Int)≤(n:Int):=by omega
  have hin2:(i:Int)≤(n:Int)+(m:Int):=by omega
  have hw1:IntKind.i64.wrap ((i:Int)+(m:Int))=(i:Int)+(m:Int):=by rw [IntKind.wrap_i64]; omega
  have hb1:(0:Int)≤(i:Int)+(m:Int):=by omega
  have hb0:(0:Int)≤(n:Int)+(m:Int):=by omega
  have hb7:(n:Int)+(m:Int)≤(cap:Int):=by omega
  have htn:((i:Int)+(m:Int)).toNat=i+m:=by omega
  have htn2:((n:Int)+(m:Int)).toNat=n+m:=by omega
  have hb2:¬(cap=i+m):=by omega
  have hb4:¬(cap=i):=by omega
  go_enter Tryz.func224,Tryz.ntmps224
  go_wp2_with (simp only [hov])
  go_region_law (refine step_copy rfl _ _ 225 225 rfl _ _ (by simp [Act.eval,Act.put]) (by simp [Act.eval,Act.put]) (hr1 _ _ _) ?_)
  go_wp2_with (at_builtin; refine wpl_copy _ rfl _ _ 225 225 rfl _ _ rfl rfl (hr2 _ _ _) ?_)
  go_ret
  refine ⟨_,rfl,hrow2,?_,grownBy_trans (grownBy_trans (grownBy_drew _ _) hgr1) hgr2,?_⟩
  · simp only [List.length_append,List.length_take,List.length_drop,hvl',htl,hc]; omega
  · exact shift_list cur (cv.take (m*3)) (i*3) (i*3) (n*3) (m*3) hvl' (Nat.le_refl _) (by omega) (by omega) (by omega) (by omega) (by omega)
theorem cells_take {W:World} {g:Nat} {e:TypeId} {cur:List Value} (h:RowAt W g e cur) (q:Nat):∀j u,(cur.take q)[j]? =some u→W.cell? ⟨g,j,none⟩=some u:=by
  intro j u hj
  rw [h.cell]
  rw [List.getElem?_take] at hj
  split at hj
  · exact hj
  · cases hj
set_option maxHeartbeats 4000000 in
set_option maxRecDepth 100000 in
theorem insert_nothing (s v:Value) (a:Option Addr) (n cap i:Nat) (w:World) (hs:s= .slice a n cap) (ha:a=none∨∃g,a=some ⟨g,0,none⟩) (vc:Nat) (va:Option Addr) (hv:v= .slice va 0 vc) (hi:i≤n) (hnc:n≤cap) (hcm:cap≤maxLen) :
    Calls Tryz.prog 224 #[s,.int .i64 i,v] w fun e w'=>e= .returned s∧w'=w:=by
  subst hs hv
  unfold maxLen at hcm
  have hin:(i:Int)≤(n:Int):=by omega
  rcases ha with rfl|⟨g,rfl⟩
  all_goals
    go_enter Tryz.func224,Tryz.ntmps224
    go_wp2
    all_goals (go_ret; exact ⟨rfl,rfl⟩)
set_option maxHeartbeats 4000000 in
set_option maxRecDepth 100000 in
theorem insert_end (s v v':Value) (a va:Option Addr) (n m cap vc:Nat) (w w':World) (hs:s= .slice a n cap) (ha:a=none∨∃g,a=some ⟨g,0,none⟩) (hv:v= .slice va m vc) (hm:0<m) (hnc:n≤cap) (hcm:cap≤maxLen)
    (hr:∀ty,(Builtin.append_ #[225,225] ty #[s,v]).run Tryz.prog w= .ok v' w') :
    Calls Tryz.prog 224 #[s,.int .i64 n,v] w fun e w2=>e= .returned v'∧w2=w':=by
  subst hs hv
  unfold maxLen at hcm
  have hz1:¬((m:Int)=0):=by omega
  rcases ha with rfl|⟨g,rfl⟩
  all_goals
    go_enter Tryz.func224,Tryz.ntmps224
    go_wp2_with (at_builtin; refine Lib.wpList_append_run _ rfl _ _ 225 225 rfl _ _ rfl rfl _ _ (hr _) ?_)
    all_goals (go_ret; exact ⟨rfl,rfl⟩)
theorem insert_any (lo n m i:Nat) (s v:Value) (xs vs:List Value) (w:World) (hs:w.ownsRow lo 232 3 s n xs) (hv:w.ownsRow lo 232 3 v m vs) (hne:∀g,s.ownBlock=some g→v.ownBlock≠some g)
    (hi:i≤n) (hby:(n+m)*24≤140737488355328) (h1x:∀u∈xs,u.oneCell'=true) (h1v:∀u∈vs,u.oneCell'=true) (hlo:lo≤w.heap.size) :
    Calls Tryz.prog 224 #[s,.int .i64 i,v] w fun e w'=>∃v',e= .returned v'∧w'.ownsRow lo 232 3 v' (n+m) (xs.take (i*3)++vs++xs.drop (i*3))∧w.grownBy w' s.ownBlock∧
      (∀g,v'.ownBlock=some g→s.ownBlock=some g∨w.heap.size≤g):=by
  obtain ⟨inf,hi0,hz0,hzs,hzb⟩:=info_parts infoEL
  have hxl:=hs.1
  have hvl:=hv.1
  have hs0:=hs
  have hv0:=hv
  by_cases hm:m=0
  · subst hm
    obtain rfl:vs=[]:=List.eq_nil_of_length_eq_zero (by simpa using hvl)
    obtain ⟨va,vc,rfl⟩:∃va vc,v= .slice va 0 vc:=by
      rcases row_of_own hv with ⟨rfl,_,_⟩|⟨g,cap,cur,rfl,_⟩
      · exact ⟨_,_,rfl⟩
      · exact ⟨_,_,rfl⟩
    obtain ⟨a,cap,rfl,ha,hnc,hcm⟩:∃a cap,s= .slice a n cap∧(a=none∨∃g,a=some ⟨g,0,none⟩)∧n≤cap∧cap≤maxLen:=by
      rcases row_of_own hs with ⟨rfl,rfl,_⟩|⟨g,cap,cur,rfl,_,_,h1,h2,_⟩
      · exact ⟨_,_,rfl,.inl rfl,Nat.le_refl _,by decide⟩
      · exact ⟨_,_,rfl,.inr ⟨g,rfl⟩,h1,h2⟩
    refine (insert_nothing _ _ a n cap i w rfl ha vc va rfl hi hnc hcm).mono ?_
    rintro e w' ⟨rfl,rfl⟩
    refine ⟨_,rfl,?_,grownBy_refl _ _,fun g hg=> .inl hg⟩
    rw [List.append_nil,List.take_append_drop]
    exact hs0
  · by_cases hin:i=n
    · subst hin
      obtain ⟨v',w',hr,ho,hg,hb⟩:=append_any (P:=Tryz.prog) w 225 232 inf _ Tryz.underlying225 hi0 hz0 (by rw [hzs]; rfl) lo i m s v xs vs (by rw [hzs]; exact hs) (by rw [hzs]; exact src_of_own Tryz.underlying225 hv h1v) hlo (by unfold maxLen; omega) (by rw [hzb]; exact hby)
      rw [hzs] at ho
      obtain ⟨va,vc,rfl⟩:∃va vc,v= .slice va m vc:=by
        rcases row_of_own hv with ⟨rfl,rfl,_⟩|⟨g,cap,cur,rfl,_⟩
        · exact ⟨_,_,rfl⟩
        · exact ⟨_,_,rfl⟩
      obtain ⟨a,cap,rfl,ha,hnc,hcm⟩:∃a cap,s= .slice a i cap∧(a=none∨∃g,a=some ⟨g,0,none⟩)∧i≤cap∧cap≤maxLen:=by
        rcases row_of_own hs with ⟨rfl,rfl,_⟩|⟨g,cap,cur,rfl,_,_,h1,h2,_⟩
        · exact ⟨_,_,rfl,.inl rfl,Nat.le_refl _,by decide⟩
        · exact ⟨_,_,rfl,.inr ⟨g,rfl⟩,h1,h2⟩
      refine (insert_end _ _ v' a va i m cap vc w w' rfl ha rfl (by omega) hnc hcm hr).mono ?_
      rintro e w2 ⟨rfl,rfl⟩
      refine ⟨_,rfl,?_,hg,hb⟩
      rw [List.take_of_length_le (by omega),List.drop_eq_nil_of_le (by omega),List.append_nil]
      exact ho
    · rcases row_of_own hs with ⟨rfl,rfl,_⟩|⟨g,cap,cur,rfl,hlog,hg,hnc,hcm,hcl,hct⟩
      · omega
      rcases row_of_own hv with ⟨rfl,rfl,_⟩|⟨h,vc,cv,rfl,hloh,hh,hmc,hvcm,hcvl,hvt⟩
      · omega
      have hgh:h≠g:=fun e=>hne g rfl (by rw [e]; rfl)
      by_cases hroom:n+m≤cap
      · refine (insert_shift g cap n m i h vc cur cv w hg hcl hnc hcm hh (by omega) hgh (by omega) (by omega) hroom (by rw [hct]; exact h1x) (by rw [hvt]; exact h1v)).mono ?_
        rintro e w' ⟨cur',rfl,hrow,hl,hgr,ht⟩
        refine ⟨_,rfl,own_of_row hrow hlog hroom hcm hl ?_,hgr,fun g hg=> .inl hg⟩
        rw [ht,hvt,hct,←hct,List.take_take,Nat.min_eq_left (by omega)]
      · refine (insert_away g cap n m i h vc cur vs w hg hcl hnc hcm (fun j u hj=>by have:=hv0.cells rfl j u hj; rwa [Addr.add_lit,Nat.zero_add] at this) hvl hh.lt (by omega) (by omega) (by omega) hby (by rw [hct]; exact h1x) h1v).mono ?_
        rintro e w' ⟨c',cur',rfl,hrow,hl,hc1,hc2,hgr,ht⟩
        refine ⟨_,rfl,own_of_row hrow hlo hc1 hc2 hl ?_,grownBy_none _ hgr,fun g hg=> .inr (by cases hg; exact Nat.le_refl _)⟩
        rw [ht,hct,←hct,List.take_take,Nat.min_eq_left (by omega)]
end Go.Proofs.YtnjlajjjcmhfgaaGreatDoor.Bs
namespace Go.Proofs.YtnjlajjjcmhfgaaGreatDoor.Bs
open Go.RowKit
set_option linter.unusedVariables false
theorem zero_one (n:Nat):∀v∈(Builtin.zeroCells ((.agg #[.int .u64 0,.int .u64 0,.bool false]):Value).cells n).toList,v.oneCell'=true:=by
  intro v hv
  rw [Array.mem_toList_iff] at hv
  simp only [Builtin.zeroCells,Array.mem_map] at hv
  obtain ⟨i,hi,rfl⟩:=hv
  have h4:i%((.agg #[.int .u64 0,.int .u64 0,.bool false]):Value).cells.size<3:=Nat.mod_lt _ (by decide)
  have:∀j:Nat,j<3→(((.agg #[.int .u64 0,.int .u64 0,.bool false]):Value).cells[j]!).oneCell'=true:=by decide
  exact this _ h4
set_option maxHeartbeats 4000000 in
set_option maxRecDepth 100000 in
theorem replace_end_room (g cap n m i:Nat) (cur vs:List Value) (v:Value) (va:Option Addr) (vc:Nat) (w:World) (hg:RowAt w g 232 cur) (hc:cur.length=cap*3) (hnc:n≤cap) (hcm:cap≤maxLen)
    (hv:v= .slice va m vc) (hsrc:Src Tryz.prog 3 225 v m vs w) (hi:i<n) (hroom:i+m≤cap) :
    Calls Tryz.prog 196 #[.slice (some ⟨g,0,none⟩) n cap,.int .i64 i,.int .i64 n,v] w fun e w' =>
      e= .returned (.slice (some ⟨g,0,none⟩) (i+m) cap)∧∃cur',RowAt w' g 232 cur'∧cur'.length=cap*3∧w.grownBy w' (some g)∧cur'.take ((i+m)*3)=cur.take (i*3)++vs:=by
  obtain ⟨inf,hi0,hz0,hzs,hzb⟩:=info_parts infoEL
  have hvl:=hsrc.newsLen
  have hcut:(cur.take (i*3)).length=i*3:=by rw [List.length_take,hc]; exact Nat.min_eq_left (Nat.mul_le_mul_right _ (by omega))
  obtain ⟨w1,hr1,hrow1,hgr1⟩:=append_room (P:=Tryz.prog) w 225 232 inf Tryz.underlying225 hi0 g i cap cur hg v m vs (by rw [hzs]; exact hsrc) hroom (by rw [hzs,hvl,hc,←Nat.add_mul]; exact Nat.mul_le_mul_right _ hroom)
  rw [hzs,hvl] at hrow1
  have e2:(cur.take (i*3)++vs).length=(i+m)*3:=by rw [List.length_append,hcut,hvl,Nat.add_mul]
  have hlen1:(cur.take (i*3)++vs++cur.drop (i*3+m*3)).length=cap*3:=by rw [List.length_append,e2,List.length_drop,hc]; omega
  have ht1:(cur.take (i*3)++vs++cur.drop (i*3+m*3)).take ((i+m)*3)=cur.take (i*3)++vs:=by
    rw [List.take_append_of_le_length (by rw [e2]; exact Nat.le_refl _)]
    exact List.take_of_length_le (by rw [e2]; exact Nat.le_refl _)
  subst hv
  unfold maxLen at hcm
  have hz1:¬((i:Int)=(n:Int)):=by omega
  have hin:(i:Int)≤(n:Int):=by omega
  have hinc:(i:Int)≤(cap:Int):=by omega
  have hncc:(n:Int)≤(cap:Int):=by omega
  have hb4:¬(cap=i):=by omega
  by_cases hlt:i+m<n
  · obtain ⟨w2,hr2,hrow2,hgr2⟩:=clear_row (P:=Tryz.prog) w1 225 232 inf _ Tryz.underlying225 hi0 hz0 g ((i+m)*3) (n-(i+m)) _ 232 hrow1 (by rw [hlen1]; show (i+m)*3+(n-(i+m))*3≤cap*3; omega) (zero_one _) (by omega)
    have hlt':(i:Int)+(m:Int)<(n:Int):=by omega
    have hb1:(0:Int)≤(i:Int)+(m:Int):=by omega
    have hb3:(i:Int)+(m:Int)≤(n:Int):=by omega
    have htn:((i:Int)+(m:Int)).toNat=i+m:=by omega
    have hb2:¬(cap=i+m):=by omega
    go_enter Tryz.func196,Tryz.ntmps196
    go_wp2_with (first|(at_builtin; refine Lib.wpList_append_run _ rfl _ _ 225 225 rfl _ _ rfl rfl _ _ (hr1 _) ?_)|(at_builtin; refine wpl_clear _ rfl _ 225 rfl _ rfl (hr2 _ _) ?_))
    go_ret
    refine ⟨rfl,_,hrow2,?_,grownBy_trans hgr1 hgr2,?_⟩
    · rw [List.length_append,List.length_append,List.length_take,List.length_drop,zeroCells_list,hlen1]; show _+(n-(i+m))*3+(cap*3-((i+m)*3+(n-(i+m))*3))=_; omega
    · rw [ht1,List.append_assoc,List.take_append_of_le_length (by rw [e2]; exact Nat.le_refl _)]
      exact List.take_of_length_le (by rw [e2]; exact Nat.le_refl _)
  · have hlt':¬((i:Int)+(m:Int)<(n:Int)):=by omega
    go_enter Tryz.func196,Tryz.ntmps196
    go_wp2_with (at_builtin; refine Lib.wpList_append_run _ rfl _ _ 225 225 rfl _ _ rfl rfl _ _ (hr1 _) ?_)
    go_ret
    exact ⟨rfl,_,hrow1,hlen1,hgr1,ht1⟩
set_option maxHeartbeats 4000000 in
set_option maxRecDepth 100000 in
theorem replace_end_away (g cap n m i:Nat) (cur vs:List Value) (v:Value) (va:Option Addr) (vc:Nat) (w:World) (hg:RowAt w g 232 cur) (hc:cur.length=cap*3) (hnc:n≤cap) (hcm:cap≤maxLen)
    (hv:v= .slice va m vc) (hsrc:Src Tryz.prog 3 225 v m vs w) (hi:i<n) (hroom:cap<i+m) (hby:(n+m)*24≤140737488355328) :
    Calls Tryz.prog 196 #[.slice (some ⟨g,0,none⟩) n cap,.int .i64 i,.int .i64 n,v] w fun e w' =>
      ∃c',e= .returned (.slice (some ⟨w.heap.size,0,none⟩) (i+m) c')∧∃cur',RowAt w' w.heap.size 232 cur'∧cur'.length=c'*3∧i+m≤c'∧c'≤maxLen∧w.grownBy w' none∧cur'.take ((i+m)*3)=cur.take (i*3)++vs:=by
  obtain ⟨inf,hi0,hz0,hzs,hzb⟩:=info_parts infoEL
  have hvl:=hsrc.newsLen
  have hcut:(cur.take (i*3)).length=i*3:=by rw [List.length_take,hc]; exact Nat.min_eq_left (Nat.mul_le_mul_right _ (by omega))
  obtain ⟨w1,c',rest,hr1,hrow1,hrl,hcc,hcm',hgr1,hsz1⟩:=append_away (P:=Tryz.prog) w 225 232 inf _ Tryz.underlying225 hi0 hz0 (by rw [hzs]; rfl) (some ⟨g,0,none⟩) i cap (cur.take (i*3)) (by rw [hzs]; exact hcut)
    (by rw [hzs]; exact run_firstCells_some w.drew 3 i ⟨g,0,none⟩ i cap _ hcut (fun j u hj=>by rw [Addr.add_lit,Nat.zero_add]; exact cells_take hg _ j u hj)) v m vs (by rw [hzs]; exact hsrc) hroom (by unfold maxLen; omega) (by rw [hzb]; exact Nat.le_trans (Nat.mul_le_mul_right _ (by omega)) hby)
  rw [hzs] at hrl
  have e2:(cur.take (i*3)++vs).length=(i+m)*3:=by rw [List.length_append,hcut,hvl,Nat.add_mul]
  subst hv
  unfold maxLen at hcm
  have hz1:¬((i:Int)=(n:Int)):=by omega
  have hin:(i:Int)≤(n:Int):=by omega
  have hinc:(i:Int)≤(cap:Int):=by omega
  have hncc:(n:Int)≤(cap:Int):=by omega
  have hb4:¬(cap=i):=by omega
  have hlt':¬((i:Int)+(m:Int)<(n:Int)):=by omega
  go_enter Tryz.func196,Tryz.ntmps196
  go_wp2_with (at_builtin; refine Lib.wpList_append_run _ rfl _ _ 225 225 rfl _ _ rfl rfl _ _ (hr1 _) ?_)
  go_ret
  refine ⟨c',rfl,_,hrow1,?_,hcc,hcm',hgr1,?_⟩
  · rw [List.length_append,e2,hrl,←Nat.add_mul]; congr 1; omega
  · rw [List.take_append_of_le_length (by rw [e2]; exact Nat.le_refl _)]
    exact List.take_of_length_le (by rw [e2]; exact Nat.le_refl _)
theorem drop_cells {W:World} {g:Nat} {e:TypeId} {cur:List Value} (h:RowAt W g e cur) (n o:Nat):∀j u,((cur.take n).drop o)[j]? =some u→W.cell? ((⟨g,o,none⟩:Addr).add j)=some u:=by
  intro j u hj
  rw [Addr.add_lit,h.cell]
  rw [List.getElem?_drop,List.getElem?_take] at hj
  split at hj
  · exact hj
  · cases hj
set_option maxHeartbeats 4000000 in
set_option maxRecDepth 100000 in
theorem replace_away (g cap n m i j h vc:Nat) (cur vs:List Value) (w:World) (hg:RowAt w g 232 cur) (hc:cur.length=cap*3) (hnc:n≤cap) (hcm:cap≤maxLen)
    (hvr:∀j u,vs[j]? =some u→w.cell? ⟨h,j,none⟩=some u) (hvl:vs.length=m*3)
    (hij:i<j) (hj:j<n) (hroom:cap<i+m+(n-j)) (hby:(n+m)*24≤140737488355328) (h1x:∀u∈cur.take (n*3),u.oneCell'=true) (h1v:∀u∈vs,u.oneCell'=true) :
    Calls Tryz.prog 196 #[.slice (some ⟨g,0,none⟩) n cap,.int .i64 i,.int .i64 j,.slice (some ⟨h,0,none⟩) m vc] w fun e w' =>
      ∃c',e= .returned (.slice (some ⟨w.heap.size,0,none⟩) (i+m+(n-j)) c')∧∃cur',RowAt w' w.heap.size 232 cur'∧cur'.length=c'*3∧i+m+(n-j)≤c'∧c'≤maxLen∧w.grownBy w' none∧
        cur'.take ((i+m+(n-j))*3)=cur.take (i*3)++vs++(cur.take (n*3)).drop (j*3):=by
  obtain ⟨inf,hi0,hz0,hzs,hzb⟩:=info_parts infoEL
  have hcut:(cur.take (i*3)).length=i*3:=by rw [List.length_take,hc]; exact Nat.min_eq_left (Nat.mul_le_mul_right _ (by omega))
  have hgl:=hg.lt
  obtain ⟨w1,c',rest,hr1,hrow1,hrl,hcc,hcm',hgr1,hsz1⟩:=append_zeros (P:=Tryz.prog) w.drew 225 3 232 inf _ .i64 .i64 Tryz.underlying225 Tryz.underlying3 hi0 hz0 (by rw [hzs]; rfl) (by rw [hzs]; decide) ⟨g,0,none⟩ i cap (cur.take (i*3))
    (by rw [hzs]; exact hcut) (fun q u hq=>by rw [Addr.add_lit,Nat.zero_add]; exact cells_take hg _ q u hq) (m+(n-j)) (by omega) (by omega) (by unfold maxLen; omega) (by rw [hzb]; exact Nat.le_trans (Nat.mul_le_mul_right _ (by omega)) hby) ((i:Int)+m+((n-j:Nat):Int)-i) (by omega)
  rw [show i+(m+(n-j))=i+m+(n-j) by omega] at hr1 hcc
  have hrl':rest.length=(c'-i)*3:=by rw [hrl,hzs]
  have hgr1:w.grownBy w1 none:=grownBy_trans (grownBy_drew _ _) hgr1
  obtain ⟨w2,hr2,hrow2,hgr2⟩:=copy_row (P:=Tryz.prog) w1 225 225 232 inf Tryz.underlying225 hi0 w.heap.size (i*3) (i+m+(n-j)-i) ⟨h,0,none⟩ m _ 232 vs hrow1 (by rw [hzs,hvl,show Nat.min m (i+m+(n-j)-i)=m from Nat.min_eq_left (by omega)])
    (fun j u hj=>by
      rw [Addr.add_lit,Nat.zero_add]
      exact hgr1.cell (hvr j u hj) (by simp)) (by rw [List.length_append,hcut,hvl,hrl']; omega) h1v
  rw [show Nat.min m (i+m+(n-j)-i)=m from Nat.min_eq_left (by omega)] at hr2
  have hgw:RowAt w2 g 232 cur:=(hg.grown hgr1 (by simp)).grown hgr2 (by simp; omega)
  have htl:((cur.take (n*3)).drop (j*3)).length=(n-j)*3:=by rw [List.length_drop,List.length_take,hc,Nat.min_eq_left (Nat.mul_le_mul_right _ hnc),←Nat.sub_mul]
  obtain ⟨w3,hr3,hrow3,hgr3⟩:=copy_row (P:=Tryz.prog) w2.drew 225 225 232 inf Tryz.underlying225 hi0 w.heap.size ((i+m)*3) (n-j) ⟨g,j*3,none⟩ (n-j) _ 232 ((cur.take (n*3)).drop (j*3)) hrow2
    (by rw [hzs,htl,show Nat.min (n-j) (n-j)=n-j from Nat.min_self _])
    (fun q u hq=>drop_cells hgw _ _ q u hq) (by rw [htl]; simp only [List.length_append,List.length_take,List.length_drop,hcut,hvl,hrl']; omega)
    (fun u hu=>h1x u (List.mem_of_mem_drop hu))
  unfold maxLen at hcm
  have hz1:¬((i:Int)=(j:Int)):=by omega
  have hz2:¬((j:Int)=(n:Int)):=by omega
  have hijz:(i:Int)≤(j:Int):=by omega
  have hinz:(i:Int)≤(n:Int):=by omega
  have hjnz:(j:Int)≤(n:Int):=by omega
  have hjc:(j:Int)≤(cap:Int):=by omega
  have hic:(i:Int)≤(cap:Int):=by omega
  have hz3:(cap:Int)<(i:Int)+(m:Int)+((n-j:Nat):Int):=by omega
  have hw1:IntKind.i64.wrap ((i:Int)+(m:Int))=(i:Int)+(m:Int):=by rw [IntKind.wrap_i64]; omega
  have hw2:IntKind.i64.wrap ((i:Int)+(m:Int)+((n-j:Nat):Int))=(i:Int)+(m:Int)+((n-j:Nat):Int):=by rw [IntKind.wrap_i64]; omega
  have hb1:(0:Int)≤(i:Int)+(m:Int):=by omega
  have htn:((i:Int)+(m:Int)).toNat=i+m:=by omega
  have hb6:(i:Int)+(m:Int)≤(i:Int)+(m:Int)+((n-j:Nat):Int):=by omega
  have hb2:¬(c'=i+m):=by omega
  have hb3:¬(c'=i):=by omega
  have hb4:¬(cap=i):=by omega
  have hb5:¬(cap=j):=by omega
  go_enter Tryz.func196,Tryz.ntmps196
  go_wp2
  go_region
  go_wp2_with (first|(at_builtin; refine Lib.wpList_append_run _ rfl _ _ 225 3 rfl _ _ rfl rfl _ _ (hr1 _) ?_)|(at_builtin; refine wpl_copy _ rfl _ _ 225 225 rfl _ _ rfl rfl (hr2 _ _ _) ?_))
  go_region_law (refine step_copy rfl _ _ 225 225 rfl _ _ (by simp [Act.eval,Act.put]) (by simp [Act.eval,Act.put]) (hr3 _ _ _) ?_)
  go_wp2
  go_ret
  refine ⟨c',rfl,_,hrow3,?_,hcc,hcm',?_,?_⟩
  · simp only [List.length_append,List.length_take,List.length_drop,hcut,hvl,hrl',htl]; omega
  · exact grownBy_new (grownBy_new hgr1 hgr2 (Nat.le_refl _)) (grownBy_trans (grownBy_drew _ _) hgr3) (Nat.le_refl _)
  · have e1:(cur.take (i*3)++rest).take (i*3)=cur.take (i*3):=by
      rw [List.take_append_of_le_length (by rw [hcut]; exact Nat.le_refl _),List.take_of_length_le (by rw [hcut]; exact Nat.le_refl _)]
    rw [e1]
    have e2:(cur.take (i*3)++vs).length=(i+m)*3:=by rw [List.length_append,hcut,hvl,Nat.add_mul]
    rw [List.take_append_of_le_length (show (i+m)*3≤(cur.take (i*3)++vs).length by rw [e2]; exact Nat.le_refl _),List.take_of_length_le (show (cur.take (i*3)++vs).length≤(i+m)*3 by rw [e2]; exact Nat.le_refl _)]
    rw [List.take_append_of_le_length (by rw [List.length_append,e2,htl]; omega)]
    exact List.take_of_length_le (by rw [List.length_append,e2,htl]; omega)
set_option maxHeartbeats 4000000 in
set_option maxRecDepth 100000 in
theorem replace_more (g cap n m i j h vc:Nat) (cur cv:List Value) (w:World) (hg:RowAt w g 232 cur) (hc:cur.length=cap*3) (hnc:n≤cap) (hcm:cap≤maxLen)
    (hv:RowAt w h 232 cv) (hvl:m*3≤cv.length) (hne:h≠g)
    (hij:i<j) (hj:j<n) (hroom:i+m+(n-j)≤cap) (hmore:j<i+m) (h1x:∀u∈cur.take (n*3),u.oneCell'=true) (h1v:∀u∈cv.take (m*3),u.oneCell'=true) :
    Calls Tryz.prog 196 #[.slice (some ⟨g,0,none⟩) n cap,.int .i64 i,.int .i64 j,.slice (some ⟨h,0,none⟩) m vc] w fun e w' =>
      e= .returned (.slice (some ⟨g,0,none⟩) (i+m+(n-j)) cap)∧∃cur',RowAt w' g 232 cur'∧cur'.length=cap*3∧w.grownBy w' (some g)∧
        cur'.take ((i+m+(n-j))*3)=cur.take (i*3)++cv.take (m*3)++(cur.take (n*3)).drop (j*3):=by
  obtain ⟨inf,hi0,hz0,hzs,hzb⟩:=info_parts infoEL
  have hvl':(cv.take (m*3)).length=m*3:=by rw [List.length_take]; exact Nat.min_eq_left hvl
  have htl:((cur.take (n*3)).drop (j*3)).length=(n-j)*3:=by rw [List.length_drop,List.length_take,hc,Nat.min_eq_left (Nat.mul_le_mul_right _ hnc),←Nat.sub_mul]
  obtain ⟨w1,hr1,hrow1,hgr1⟩:=copy_row (P:=Tryz.prog) w.drew.drew 225 225 232 inf Tryz.underlying225 hi0 g ((i+m)*3) (n-j) ⟨g,j*3,none⟩ (n-j) cur 232 ((cur.take (n*3)).drop (j*3)) hg
    (by rw [hzs,htl,show Nat.min (n-j) (n-j)=n-j from Nat.min_self _])
    (fun q u hq=>drop_cells (W:=w) hg _ _ q u hq) (by rw [htl,hc]; omega) (fun u hu=>h1x u (List.mem_of_mem_drop hu))
  have hvw:RowAt w1 h 232 cv:=hv.grown (grownBy_trans (grownBy_drew _ _) (grownBy_trans (grownBy_drew _ _) hgr1)) (by simp; exact hne)
  obtain ⟨w2,hr2,hrow2,hgr2⟩:=copy_row (P:=Tryz.prog) w1 225 225 232 inf Tryz.underlying225 hi0 g (i*3) (i+m+(n-j)-i) ⟨h,0,none⟩ m _ 232 (cv.take (m*3)) hrow1 (by rw [hzs,hvl',show Nat.min m (i+m+(n-j)-i)=m from Nat.min_eq_left (by omega)])
    (fun q u hq=>by rw [Addr.add_lit,Nat.zero_add]; exact cells_take hvw _ q u hq) (by rw [hvl']; simp only [List.length_append,List.length_take,List.length_drop,htl,hc]; omega) h1v
  unfold maxLen at hcm
  have hov:∀bo lb cb,(callFunc 225 #[.slice (some ⟨g,bo,none⟩) lb cb,.slice (some ⟨h,0,none⟩) m vc]).run Tryz.prog w.drew= .ok (.value (.bool false)) w.drew:=fun bo lb cb =>
    overlaps_apart w.drew g h bo 0 lb cb m vc cur cv 232 232 hg hv (fun e=>hne e.symm) (by omega)
  have hz1:¬((i:Int)=(j:Int)):=by omega
  have hz2:¬((j:Int)=(n:Int)):=by omega
  have hijz:(i:Int)≤(j:Int):=by omega
  have hinz:(i:Int)≤(n:Int):=by omega
  have hjnz:(j:Int)≤(n:Int):=by omega
  have hjc:(j:Int)≤(cap:Int):=by omega
  have hic:(i:Int)≤(cap:Int):=by omega
  have hz3:¬((cap:Int)<(i:Int)+(m:Int)+((n-j:Nat):Int)):=by omega
  have hz4:(i:Int)+(m:Int)+((n-j:Nat):Int)≤(cap:Int):=by omega
  have hz5:¬((i:Int)+(m:Int)≤(j:Int)):=by omega
  have hw1:IntKind.i64.wrap ((i:Int)+(m:Int))=(i:Int)+(m:Int):=by rw [IntKind.wrap_i64]; omega
  have hw2:IntKind.i64.wrap ((i:Int)+(m:Int)+((n-j:Nat):Int))=(i:Int)+(m:Int)+((n-j:Nat):Int):=by rw [IntKind.wrap_i64]; omega
  have hb1:(0:Int)≤(i:Int)+(m:Int):=by omega
  have hb0:(0:Int)≤(i:Int)+(m:Int)+((n-j:Nat):Int):=by omega
  have htn:((i:Int)+(m:Int)).toNat=i+m:=by omega
  have htn2:((i:Int)+(m:Int)+((n-j:Nat):Int)).toNat=i+m+(n-j):=by omega
  have hb6:(i:Int)+(m:Int)≤(i:Int)+(m:Int)+((n-j:Nat):Int):=by omega
  have hb7:(i:Int)≤(i:Int)+(m:Int)+((n-j:Nat):Int):=by omega
  have hb2:¬(cap=i+m):=by omega
  have hb4:¬(cap=i):=by omega
  have hb5:¬(cap=j):=by omega
  go_enter Tryz.func196,Tryz.ntmps196
  go_wp2
  go_region
  go_wp2_with (simp only [hov])
  go_region_law (refine step_copy rfl _ _ 225 225 rfl _ _ (by simp [Act.eval,Act.put]) (by simp [Act.eval,Act.put]) (hr1 _ _ _) ?_)
  go_wp2_with (at_builtin; refine wpl_copy _ rfl _ _ 225 225 rfl _ _ rfl rfl (hr2 _ _ _) ?_)
  go_ret
  refine ⟨rfl,_,hrow2,?_,grownBy_trans (grownBy_trans (grownBy_drew _ _) (grownBy_trans (grownBy_drew _ _) hgr1)) hgr2,?_⟩
  · simp only [List.length_append,List.length_take,List.length_drop,hvl',htl,hc]; omega
  · exact shift_list cur (cv.take (m*3)) (i*3) (j*3) (n*3) (m*3) hvl' (by omega) (by omega) (by omega) (by omega) (by omega) (by omega)
set_option maxHeartbeats 4000000 in
set_option maxRecDepth 100000 in
theorem replace_less (g cap n m i j:Nat) (cur vs:List Value) (v:Value) (va:Option Addr) (vc:Nat) (w:World) (hg:RowAt w g 232 cur) (hc:cur.length=cap*3) (hnc:n≤cap) (hcm:cap≤maxLen)
    (hv:v= .slice va m vc) (hva:(va=none∧m=0∧vc=0)∨∃h,va=some ⟨h,0,none⟩∧∀j u,vs[j]? =some u→w.cell? ⟨h,j,none⟩=some u) (hvl:vs.length=m*3)
    (hij:i<j) (hj:j<n) (hless:i+m≤j) (h1x:∀u∈cur.take (n*3),u.oneCell'=true) (h1v:∀u∈vs,u.oneCell'=true) :
    Calls Tryz.prog 196 #[.slice (some ⟨g,0,none⟩) n cap,.int .i64 i,.int .i64 j,v] w fun e w' =>
      e= .returned (.slice (some ⟨g,0,none⟩) (i+m+(n-j)) cap)∧∃cur',RowAt w' g 232 cur'∧cur'.length=cap*3∧w.grownBy w' (some g)∧
        cur'.take ((i+m+(n-j))*3)=cur.take (i*3)++vs++(cur.take (n*3)).drop (j*3):=by
  obtain ⟨inf,hi0,hz0,hzs,hzb⟩:=info_parts infoEL
  have hcut:(cur.take (i*3)).length=i*3:=by rw [List.length_take,hc]; exact Nat.min_eq_left (Nat.mul_le_mul_right _ (by omega))
  have htl:((cur.take (n*3)).drop (j*3)).length=(n-j)*3:=by rw [List.length_drop,List.length_take,hc,Nat.min_eq_left (Nat.mul_le_mul_right _ hnc),←Nat.sub_mul]
  have e2:(cur.take (i*3)++vs).length=(i+m)*3:=by rw [List.length_append,hcut,hvl,Nat.add_mul]
  obtain ⟨w1,hr1,hrow1,hgr1⟩:∃w1,(∀ty dc,∃k,(Builtin.copy_ #[225,225] ty #[.slice (some ⟨g,i*3,none⟩) (i+m+(n-j)-i) dc,v]).run Tryz.prog w.drew= .ok (goInt k) w1)∧RowAt w1 g 232 (cur.take (i*3)++vs++cur.drop (i*3+vs.length))∧w.grownBy w1 (some g):=by
    subst hv
    rcases hva with ⟨rfl,rfl,rfl⟩|⟨h,rfl,hvr⟩
    · obtain rfl:vs=[]:=List.eq_nil_of_length_eq_zero (by simpa using hvl)
      exact ⟨w.drew,fun ty dc=>⟨0,copy_none (P:=Tryz.prog) w.drew 225 225 232 inf Tryz.underlying225 hi0 _ _ ty dc⟩,by show RowAt w g _ _; simpa using hg,grownBy_drew _ _⟩
    · obtain ⟨w1,h1,h2,h3⟩:=copy_row (P:=Tryz.prog) w.drew 225 225 232 inf Tryz.underlying225 hi0 g (i*3) (i+m+(n-j)-i) ⟨h,0,none⟩ m cur 232 vs hg (by rw [hzs,hvl,show Nat.min m (i+m+(n-j)-i)=m from Nat.min_eq_left (by omega)])
        (fun q u hq=>by rw [Addr.add_lit,Nat.zero_add]; exact hvr q u hq) (by rw [hvl,hc]; omega) h1v
      exact ⟨w1,fun ty dc=>⟨_,h1 ty dc _⟩,h2,grownBy_trans (grownBy_drew _ _) h3⟩
  rw [hvl] at hrow1
  have hlen1:(cur.take (i*3)++vs++cur.drop (i*3+m*3)).length=cap*3:=by rw [List.length_append,e2,List.length_drop,hc]; omega
  obtain ⟨w2,hr2,hrow2,hgr2⟩:=copy_row (P:=Tryz.prog) w1.drew 225 225 232 inf Tryz.underlying225 hi0 g ((i+m)*3) (n-j) ⟨g,j*3,none⟩ (n-j) _ 232 ((cur.take (n*3)).drop (j*3)) hrow1
    (by rw [hzs,htl,show Nat.min (n-j) (n-j)=n-j from Nat.min_self _])
    (fun q u hq=>by
      rw [Addr.add_lit]
      show w1.cell? _=_
      rw [hrow1.cell,List.getElem?_append_right (by rw [e2]; omega),List.getElem?_drop,e2,show i*3+m*3+(j*3+q-(i+m)*3)=j*3+q by omega]
      rw [List.getElem?_drop,List.getElem?_take] at hq
      split at hq
      · exact hq
      · cases hq) (by rw [htl,hlen1]; omega) (fun u hu=>h1x u (List.mem_of_mem_drop hu))
  have ht1:(cur.take (i*3)++vs++cur.drop (i*3+m*3)).take ((i+m)*3)=cur.take (i*3)++vs:=by
    rw [List.take_append_of_le_length (by rw [e2]; exact Nat.le_refl _)]
    exact List.take_of_length_le (by rw [e2]; exact Nat.le_refl _)
  rw [ht1,htl] at hrow2
  generalize hR:cur.take (i*3)++vs++(cur.take (n*3)).drop (j*3)++List.drop ((i+m)*3+(n-j)*3) (cur.take (i*3)++vs++cur.drop (i*3+m*3))=R at hrow2
  have hRl:R.length=cap*3:=by rw [←hR,List.length_append,List.length_append,e2,htl,List.length_drop,hlen1]; omega
  have hRt:R.take ((i+m+(n-j))*3)=cur.take (i*3)++vs++(cur.take (n*3)).drop (j*3):=by
    rw [←hR,List.take_append_of_le_length (by rw [List.length_append,e2,htl]; omega)]
    exact List.take_of_length_le (by rw [List.length_append,e2,htl]; omega)
  have HR:Hid (R.take ((i+m+(n-j))*3)=cur.take (i*3)++vs++(cur.take (n*3)).drop (j*3)):=hRt
  clear hRt hR
  subst hv
  unfold maxLen at hcm
  have hz1:¬((i:Int)=(j:Int)):=by omega
  have hz2:¬((j:Int)=(n:Int)):=by omega
  have hijz:(i:Int)≤(j:Int):=by omega
  have hinz:(i:Int)≤(n:Int):=by omega
  have hjnz:(j:Int)≤(n:Int):=by omega
  have hjc:(j:Int)≤(cap:Int):=by omega
  have hic:(i:Int)≤(cap:Int):=by omega
  have hz3:¬((cap:Int)<(i:Int)+(m:Int)+((n-j:Nat):Int)):=by omega
  have hz4:(i:Int)+(m:Int)+((n-j:Nat):Int)≤(cap:Int):=by omega
  have hz5:(i:Int)+(m:Int)≤(j:Int):=by omega
  have hw1:IntKind.i64.wrap ((i:Int)+(m:Int))=(i:Int)+(m:Int):=by rw [IntKind.wrap_i64]; omega
  have hw2:IntKind.i64.wrap ((i:Int)+(m:Int)+((n-j:Nat):Int))=(i:Int)+(m:Int)+((n-j:Nat):Int):=by rw [IntKind.wrap_i64]; omega
  have hb1:(0:Int)≤(i:Int)+(m:Int):=by omega
  have hb0:(0:Int)≤(i:Int)+(m:Int)+((n-j:Nat):Int):=by omega
  have htn:((i:Int)+(m:Int)).toNat=i+m:=by omega
  have htn2:((i:Int)+(m:Int)+((n-j:Nat):Int)).toNat=i+m+(n-j):=by omega
  have hb6:(i:Int)+(m:Int)≤(i:Int)+(m:Int)+((n-j:Nat):Int):=by omega
  have hb7:(i:Int)≤(i:Int)+(m:Int)+((n-j:Nat):Int):=by omega
  have hb8:(i:Int)+(m:Int)+((n-j:Nat):Int)≤(n:Int):=by omega
  have hb2:¬(cap=i+m):=by omega
  have hb4:¬(cap=i):=by omega
  have hb5:¬(cap=j):=by omega
  obtain ⟨k1,hr1⟩:∃k:TypeId→Nat→Int,∀ty dc,(Builtin.copy_ #[225,225] ty #[.slice (some ⟨g,i*3,none⟩) (i+m+(n-j)-i) dc,.slice va m vc]).run Tryz.prog w.drew= .ok (goInt (k ty dc)) w1:=⟨fun ty dc=>(hr1 ty dc).choose,fun ty dc=>(hr1 ty dc).choose_spec⟩
  by_cases hlt:i+m+(n-j)<n
  · obtain ⟨w3,hr3,hrow3,hgr3⟩:=clear_row (P:=Tryz.prog) w2 225 232 inf _ Tryz.underlying225 hi0 hz0 g ((i+m+(n-j))*3) (n-(i+m+(n-j))) R 232 hrow2 (by rw [hRl]; show (i+m+(n-j))*3+(n-(i+m+(n-j)))*3≤cap*3; omega) (zero_one _) (by omega)
    have hb9:¬(cap=i+m+(n-j)):=by omega
    go_enter Tryz.func196,Tryz.ntmps196
    go_wp2
    go_region
    go_wp2_with (at_builtin; refine wpl_copy _ rfl _ _ 225 225 rfl _ _ rfl rfl (hr1 _ _) ?_)
    go_region_law (refine step_copy rfl _ _ 225 225 rfl _ _ (by simp [Act.eval,Act.put]) (by simp [Act.eval,Act.put]) (hr2 _ _ _) ?_)
    go_wp2_with (at_builtin; refine wpl_clear _ rfl _ 225 rfl _ rfl (hr3 _ _) ?_)
    go_ret
    refine ⟨rfl,_,hrow3,?_,grownBy_trans (grownBy_trans hgr1 (grownBy_trans (grownBy_drew _ _) hgr2)) hgr3,?_⟩
    · rw [List.length_append,List.length_append,List.length_take,List.length_drop,zeroCells_list,hRl]; show _+(n-(i+m+(n-j)))*3+(cap*3-((i+m+(n-j))*3+(n-(i+m+(n-j)))*3))=_; omega
    · rw [HR.out,List.append_assoc _ (Builtin.zeroCells _ _).toList,List.take_append_of_le_length (by rw [List.length_append,e2,htl]; omega)]
      exact List.take_of_length_le (by rw [List.length_append,e2,htl]; omega)
  · have hr3:=clear_none (P:=Tryz.prog) w2 225 232 Tryz.underlying225
    have htn3:n-(i+m+(n-j))=0:=by omega
    go_enter Tryz.func196,Tryz.ntmps196
    go_wp2
    go_region
    go_wp2_with (at_builtin; refine wpl_copy _ rfl _ _ 225 225 rfl _ _ rfl rfl (hr1 _ _) ?_)
    go_region_law (refine step_copy rfl _ _ 225 225 rfl _ _ (by simp [Act.eval,Act.put]) (by simp [Act.eval,Act.put]) (hr2 _ _ _) ?_)
    go_wp2_with (at_builtin; refine wpl_clear _ rfl _ 225 rfl _ rfl (hr3 _ _ _) ?_)
    all_goals
      go_ret
      exact ⟨rfl,_,hrow2,by omega,grownBy_trans hgr1 (grownBy_trans (grownBy_drew _ _) hgr2),by first|exact HR.out|rw [HR.out,List.append_assoc]⟩
set_option maxHeartbeats 4000000 in
set_option maxRecDepth 100000 in
theorem replace_none (s v:Value) (a:Option Addr) (n cap i:Nat) (w:World) (hs:s= .slice a n cap) (ha:a=none∨∃g,a=some ⟨g,0,none⟩) (hi:i≤n) (hnc:n≤cap) (hcm:cap≤maxLen) (Q:Ending→World→Prop)
    (hI:Calls Tryz.prog 224 #[s,.int .i64 i,v] w fun e w'=>∃v',e= .returned v'∧Q (.returned v') w') :
    Calls Tryz.prog 196 #[s,.int .i64 i,.int .i64 i,v] w Q:=by
  subst hs
  unfold maxLen at hcm
  have hin:(i:Int)≤(n:Int):=by omega
  have hic:(i:Int)≤(cap:Int):=by omega
  rcases ha with rfl|⟨g,rfl⟩
  all_goals
    go_enter Tryz.func196,Tryz.ntmps196
    go_wp2_with (go_at_call 224; refine hI.mono ?_; rintro e w' ⟨v',rfl,hq⟩)
    all_goals first|exact hq|(go_ret; exact hq)
theorem replace_any (lo n m i j:Nat) (s v:Value) (xs vs:List Value) (w:World) (hs:w.ownsRow lo 232 3 s n xs) (hv:w.ownsRow lo 232 3 v m vs) (hne:∀g,s.ownBlock=some g→v.ownBlock≠some g)
    (hij:i≤j) (hj:j≤n) (hby:(n+m)*24≤140737488355328) (h1x:∀u∈xs,u.oneCell'=true) (h1v:∀u∈vs,u.oneCell'=true) (hlo:lo≤w.heap.size) :
    Calls Tryz.prog 196 #[s,.int .i64 i,.int .i64 j,v] w fun e w'=>∃v',e= .returned v'∧w'.ownsRow lo 232 3 v' (i+m+(n-j)) (xs.take (i*3)++vs++xs.drop (j*3))∧w.grownBy w' s.ownBlock∧
      (∀g,v'.ownBlock=some g→s.ownBlock=some g∨w.heap.size≤g):=by
  have hxl:=hs.1
  have hvl:=hv.1
  have hs0:=hs
  have hv0:=hv
  by_cases e:i=j
  · subst e
    obtain ⟨a,cap,rfl,ha,hnc,hcm⟩:∃a cap,s= .slice a n cap∧(a=none∨∃g,a=some ⟨g,0,none⟩)∧n≤cap∧cap≤maxLen:=by
      rcases row_of_own hs with ⟨rfl,rfl,_⟩|⟨g,cap,cur,rfl,_,_,h1,h2,_⟩
      · exact ⟨_,_,rfl,.inl rfl,Nat.le_refl _,by decide⟩
      · exact ⟨_,_,rfl,.inr ⟨g,rfl⟩,h1,h2⟩
    refine replace_none _ v a n cap i w rfl ha hj hnc hcm _ ((insert_any lo n m i _ v xs vs w hs hv hne hj hby h1x h1v hlo).mono ?_)
    rintro e w' ⟨v',rfl,h1,h2,h3⟩
    exact ⟨v',rfl,v',rfl,by rw [show i+m+(n-i)=n+m by omega]; exact h1,h2,h3⟩
  · rcases row_of_own hs with ⟨rfl,rfl,_⟩|⟨g,cap,cur,rfl,hlog,hg,hnc,hcm,hcl,hct⟩
    · omega
    obtain ⟨va,vc,rfl,hva⟩:∃va vc,v= .slice va m vc∧((va=none∧m=0∧vc=0)∨∃h,va=some ⟨h,0,none⟩∧∀j u,vs[j]? =some u→w.cell? ⟨h,j,none⟩=some u):=by
      rcases row_of_own hv with ⟨rfl,rfl,_⟩|⟨h,vc,cv,rfl,_⟩
      · exact ⟨_,_,rfl,.inl ⟨rfl,rfl,rfl⟩⟩
      · exact ⟨_,_,rfl,.inr ⟨h,rfl,fun j u hj=>by have:=hv0.cells rfl j u hj; rwa [Addr.add_lit,Nat.zero_add] at this⟩⟩
    have etake:cur.take (i*3)=xs.take (i*3):=by rw [←hct,List.take_take,Nat.min_eq_left (by omega)]
    by_cases ej:j=n
    · subst ej
      have hsrc:=src_of_own (P:=Tryz.prog) Tryz.underlying225 hv h1v
      by_cases hroom:i+m≤cap
      · refine (replace_end_room g cap j m i cur vs _ va vc w hg hcl hnc hcm rfl hsrc (by omega) hroom).mono ?_
        rintro e w' ⟨rfl,cur',hrow,hl,hgr,ht⟩
        refine ⟨_,rfl,?_,hgr,fun g hg=> .inl hg⟩
        rw [Nat.sub_self,Nat.add_zero]
        refine own_of_row hrow hlog hroom hcm hl ?_
        rw [ht,etake,List.drop_eq_nil_of_le (by omega),List.append_nil]
      · refine (replace_end_away g cap j m i cur vs _ va vc w hg hcl hnc hcm rfl hsrc (by omega) (by omega) hby).mono ?_
        rintro e w' ⟨c',rfl,cur',hrow,hl,hc1,hc2,hgr,ht⟩
        refine ⟨_,rfl,?_,grownBy_none _ hgr,fun g hg=> .inr (by cases hg; exact Nat.le_refl _)⟩
        rw [Nat.sub_self,Nat.add_zero]
        refine own_of_row hrow hlo hc1 hc2 hl ?_
        rw [ht,etake,List.drop_eq_nil_of_le (by omega),List.append_nil]
    · by_cases hless:i+m≤j
      · refine (replace_less g cap n m i j cur vs _ va vc w hg hcl hnc hcm rfl hva hvl (by omega) (by omega) hless (by rw [hct]; exact h1x) h1v).mono ?_
        rintro e w' ⟨rfl,cur',hrow,hl,hgr,ht⟩
        refine ⟨_,rfl,own_of_row hrow hlog (by omega) hcm hl ?_,hgr,fun g hg=> .inl hg⟩
        rw [ht,etake,hct]
      · rcases row_of_own hv with ⟨hh,hm0,_⟩|⟨h,vc',cv,hh,hloh,hrh,hmc,hvcm,hcvl,hvt⟩
        · omega
        cases hh
        have hgh:h≠g:=fun e=>hne g rfl (by rw [e]; rfl)
        by_cases hroom:i+m+(n-j)≤cap
        · refine (replace_more g cap n m i j h vc cur cv w hg hcl hnc hcm hrh (by omega) hgh (by omega) (by omega) hroom (by omega) (by rw [hct]; exact h1x) (by rw [hvt]; exact h1v)).mono ?_
          rintro e w' ⟨rfl,cur',hrow,hl,hgr,ht⟩
          refine ⟨_,rfl,own_of_row hrow hlog hroom hcm hl ?_,hgr,fun g hg=> .inl hg⟩
          rw [ht,etake,hct,hvt]
        · refine (replace_away g cap n m i j h vc cur vs w hg hcl hnc hcm (fun j u hj=>by have:=hv0.cells rfl j u hj; rwa [Addr.add_lit,Nat.zero_add] at this) hvl (by omega) (by omega) (by omega) hby (by rw [hct]; exact h1x) h1v).mono ?_
          rintro e w' ⟨c',rfl,cur',hrow,hl,hc1,hc2,hgr,ht⟩
          refine ⟨_,rfl,own_of_row hrow hlo hc1 hc2 hl ?_,grownBy_none _ hgr,fun g hg=> .inr (by cases hg; exact Nat.le_refl _)⟩
          rw [ht,etake,hct]
end Go.Proofs.YtnjlajjjcmhfgaaGreatDoor.Bs
