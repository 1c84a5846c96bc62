import Derived.Test.YtnjlajjjcmhfgaaGreatDoorRP00
namespace Go.Proofs.YtnjlajjjcmhfgaaGreatDoor.Bs
open Go.RowKit
set_option linter.unusedVariables false
theorem zero_one (n:Nat):∀v∈(Builtin.zeroCells ((.agg #[.int .u64 0,.int .u64 0,.bool false]):Value).cells n).toList,v.oneCell'=true:=by
  intro v hv
  rw [Array.mem_toList_iff] at hv
  simp only [Builtin.zeroCells,Array.mem_map] at hv
  obtain ⟨i,hi,rfl⟩:=hv
  have h4:i%((.agg #[.int .u64 0,.int .u64 0,.bool false]):Value).cells.size<3:=Nat.mod_lt _ (by decide)
  have:∀j:Nat,j<3→(((.agg #[.int .u64 0,.int .u64 0,.bool false]):Value).cells[j]!).oneCell'=true:=by decide
  exact this _ h4
set_option maxHeartbeats 4000000 in
set_option maxRecDepth 100000 in
theorem replace_end_room (g cap n m i:Nat) (cur vs:List Value) (v:Value) (va:Option Addr) (vc:Nat) (w:World) (hg:RowAt w g 232 cur) (hc:cur.length=cap*3) (hnc:n≤cap) (hcm:cap≤maxLen)
    (hv:v= .slice va m vc) (hsrc:Src Tryz.prog 3 225 v m vs w) (hi:i<n) (hroom:i+m≤cap) :
    Calls Tryz.prog 196 #[.slice (some ⟨g,0,none⟩) n cap,.int .i64 i,.int .i64 n,v] w fun e w' =>
      e= .returned (.slice (some ⟨g,0,none⟩) (i+m) cap)∧∃cur',RowAt w' g 232 cur'∧cur'.length=cap*3∧w.grownBy w' (some g)∧cur'.take ((i+m)*3)=cur.take (i*3)++vs:=by
  obtain ⟨inf,hi0,hz0,hzs,hzb⟩:=info_parts infoEL
  have hvl:=hsrc.newsLen
  have hcut:(cur.take (i*3)).length=i*3:=by rw [List.length_take,hc]; exact Nat.min_eq_left (Nat.mul_le_mul_right _ (by omega))
  obtain ⟨w1,hr1,hrow1,hgr1⟩:=append_room (P:=Tryz.prog) w 225 232 inf Tryz.underlying225 hi0 g i cap cur hg v m vs (by rw [hzs]; exact hsrc) hroom (by rw [hzs,hvl,hc,←Nat.add_mul]; exact Nat.mul_le_mul_right _ hroom)
  rw [hzs,hvl] at hrow1
  have e2:(cur.take (i*3)++vs).length=(i+m)*3:=by rw [List.length_append,hcut,hvl,Nat.add_mul]
  have hlen1:(cur.take (i*3)++vs++cur.drop (i*3+m*3)).length=cap*3:=by rw [List.length_append,e2,List.length_drop,hc]; omega
  have ht1:(cur.take (i*3)++vs++cur.drop (i*3+m*3)).take ((i+m)*3)=cur.take (i*3)++vs:=by
    rw [List.take_append_of_le_length (by rw [e2]; exact Nat.le_refl _)]
    exact List.take_of_length_le (by rw [e2]; exact Nat.le_refl _)
  subst hv
  unfold maxLen at hcm
  have hz1:¬((i:Int)=(n:Int)):=by omega
  have hin:(i:Int)≤(n:Int):=by omega
  have hinc:(i:Int)≤(cap:Int):=by omega
  have hncc:(n:Int)≤(cap:Int):=by omega
  have hb4:¬(cap=i):=by omega
  by_cases hlt:i+m<n
  · obtain ⟨w2,hr2,hrow2,hgr2⟩:=clear_row (P:=Tryz.prog) w1 225 232 inf _ Tryz.underlying225 hi0 hz0 g ((i+m)*3) (n-(i+m)) _ 232 hrow1 (by rw [hlen1]; show (i+m)*3+(n-(i+m))*3≤cap*3; omega) (zero_one _) (by omega)
    have hlt':(i:Int)+(m:Int)<(n:Int):=by omega
    have hb1:(0:Int)≤(i:Int)+(m:Int):=by omega
    have hb3:(i:Int)+(m:Int)≤(n:Int):=by omega
    have htn:((i:Int)+(m:Int)).toNat=i+m:=by omega
    have hb2:¬(cap=i+m):=by omega
    go_enter Tryz.func196,Tryz.ntmps196
    go_wp2_with (first|(at_builtin; refine Lib.wpList_append_run _ rfl _ _ 225 225 rfl _ _ rfl rfl _ _ (hr1 _) ?_)|(at_builtin; refine wpl_clear _ rfl _ 225 rfl _ rfl (hr2 _ _) ?_))
    go_ret
    refine ⟨rfl,_,hrow2,?_,grownBy_trans hgr1 hgr2,?_⟩
    · rw [List.length_append,List.length_append,List.length_take,List.length_drop,zeroCells_list,hlen1]; show _+(n-(i+m))*3+(cap*3-((i+m)*3+(n-(i+m))*3))=_; omega
    · rw [ht1,List.append_assoc,List.take_append_of_le_length (by rw [e2]; exact Nat.le_refl _)]
      exact List.take_of_length_le (by rw [e2]; exact Nat.le_refl _)
  · have hlt':¬((i:Int)+(m:Int)<(n:Int)):=by omega
    go_enter Tryz.func196,Tryz.ntmps196
    go_wp2_with (at_builtin; refine Lib.wpList_append_run _ rfl _ _ 225 225 rfl _ _ rfl rfl _ _ (hr1 _) ?_)
    go_ret
    exact ⟨rfl,_,hrow1,hlen1,hgr1,ht1⟩
set_option maxHeartbeats 4000000 in
set_option maxRecDepth 100000 in
theorem replace_end_away (g cap n m i:Nat) (cur vs:List Value) (v:Value) (va:Option Addr) (vc:Nat) (w:World) (hg:RowAt w g 232 cur) (hc:cur.length=cap*3) (hnc:n≤cap) (hcm:cap≤maxLen)
    (hv:v= .slice va m vc) (hsrc:Src Tryz.prog 3 225 v m vs w) (hi:i<n) (hroom:cap<i+m) (hby:(n+m)*24≤140737488355328) :
    Calls Tryz.prog 196 #[.slice (some ⟨g,0,none⟩) n cap,.int .i64 i,.int .i64 n,v] w fun e w' =>
      ∃c',e= .returned (.slice (some ⟨w.heap.size,0,none⟩) (i+m) c')∧∃cur',RowAt w' w.heap.size 232 cur'∧cur'.length=c'*3∧i+m≤c'∧c'≤maxLen∧w.grownBy w' none∧cur'.take ((i+m)*3)=cur.take (i*3)++vs:=by
  obtain ⟨inf,hi0,hz0,hzs,hzb⟩:=info_parts infoEL
  have hvl:=hsrc.newsLen
  have hcut:(cur.take (i*3)).length=i*3:=by rw [List.length_take,hc]; exact Nat.min_eq_left (Nat.mul_le_mul_right _ (by omega))
  obtain ⟨w1,c',rest,hr1,hrow1,hrl,hcc,hcm',hgr1,hsz1⟩:=append_away (P:=Tryz.prog) w 225 232 inf _ Tryz.underlying225 hi0 hz0 (by rw [hzs]; rfl) (some ⟨g,0,none⟩) i cap (cur.take (i*3)) (by rw [hzs]; exact hcut)
    (by rw [hzs]; exact run_firstCells_some w.drew 3 i ⟨g,0,none⟩ i cap _ hcut (fun j u hj=>by rw [Addr.add_lit,Nat.zero_add]; exact cells_take hg _ j u hj)) v m vs (by rw [hzs]; exact hsrc) hroom (by unfold maxLen; omega) (by rw [hzb]; exact Nat.le_trans (Nat.mul_le_mul_right _ (by omega)) hby)
  rw [hzs] at hrl
  have e2:(cur.take (i*3)++vs).length=(i+m)*3:=by rw [List.length_append,hcut,hvl,Nat.add_mul]
  subst hv
  unfold maxLen at hcm
  have hz1:¬((i:Int)=(n:Int)):=by omega
  have hin:(i:Int)≤(n:Int):=by omega
  have hinc:(i:Int)≤(cap:Int):=by omega
  have hncc:(n:Int)≤(cap:Int):=by omega
  have hb4:¬(cap=i):=by omega
  have hlt':¬((i:Int)+(m:Int)<(n:Int)):=by omega
  go_enter Tryz.func196,Tryz.ntmps196
  go_wp2_with (at_builtin; refine Lib.wpList_append_run _ rfl _ _ 225 225 rfl _ _ rfl rfl _ _ (hr1 _) ?_)
  go_ret
  refine ⟨c',rfl,_,hrow1,?_,hcc,hcm',hgr1,?_⟩
  · rw [List.length_append,e2,hrl,←Nat.add_mul]; congr 1; omega
  · rw [List.take_append_of_le_length (by rw [e2]; exact Nat.le_refl _)]
    exact List.take_of_length_le (by rw [e2]; exact Nat.le_refl _)
theorem drop_cells {W:World} {g:Nat} {e:TypeId} {cur:List Value} (h:RowAt W g e cur) (n o:Nat):∀j u,((cur.take n).drop o)[j]? =some u→W.cell? ((⟨g,o,none⟩:Addr).add j)=some u:=by
  intro j u hj
  rw [Addr.add_lit,h.cell]
  rw [List.getElem?_drop,List.getElem?_take] at hj
  split at hj
  · exact hj
  · cases hj
set_option maxHeartbeats 4000000 in
set_option maxRecDepth 100000 in
theorem replace_away (g cap n m i j h vc:Nat) (cur vs:List Value) (w:World) (hg:RowAt w g 232 cur) (hc:cur.length=cap*3) (hnc:n≤cap) (hcm:cap≤maxLen)
    (hvr:∀j u,vs[j]? =some u→w.cell? ⟨h,j,none⟩=some u) (hvl:vs.length=m*3)
    (hij:i<j) (hj:j<n) (hroom:cap<i+m+(n-j)) (hby:(n+m)*24≤140737488355328) (h1x:∀u∈cur.take (n*3),u.oneCell'=true) (h1v:∀u∈vs,u.oneCell'=true) :
    Calls Tryz.prog 196 #[.slice (some ⟨g,0,none⟩) n cap,.int .i64 i,.int .i64 j,.slice (some ⟨h,0,none⟩) m vc] w fun e w' =>
      ∃c',e= .returned (.slice (some ⟨w.heap.size,0,none⟩) (i+m+(n-j)) c')∧∃cur',RowAt w' w.heap.size 232 cur'∧cur'.length=c'*3∧i+m+(n-j)≤c'∧c'≤maxLen∧w.grownBy w' none∧
        cur'.take ((i+m+(n-j))*3)=cur.take (i*3)++vs++(cur.take (n*3)).drop (j*3):=by
  obtain ⟨inf,hi0,hz0,hzs,hzb⟩:=info_parts infoEL
  have hcut:(cur.take (i*3)).length=i*3:=by rw [List.length_take,hc]; exact Nat.min_eq_left (Nat.mul_le_mul_right _ (by omega))
  have hgl:=hg.lt
  obtain ⟨w1,c',rest,hr1,hrow1,hrl,hcc,hcm',hgr1,hsz1⟩:=append_zeros (P:=Tryz.prog) w.drew 225 3 232 inf _ .i64 .i64 Tryz.underlying225 Tryz.underlying3 hi0 hz0 (by rw [hzs]; rfl) (by rw [hzs]; decide) ⟨g,0,none⟩ i cap (cur.take (i*3))
    (by rw [hzs]; exact hcut) (fun q u hq=>by rw [Addr.add_lit,Nat.zero_add]; exact cells_take hg _ q u hq) (m+(n-j)) (by omega) (by omega) (by unfold maxLen; omega) (by rw [hzb]; exact Nat.le_trans (Nat.mul_le_mul_right _ (by omega)) hby) ((i:Int)+m+((n-j:Nat):Int)-i) (by omega)
  rw [show i+(m+(n-j))=i+m+(n-j) by omega] at hr1 hcc
  have hrl':rest.length=(c'-i)*3:=by rw [hrl,hzs]
  have hgr1:w.grownBy w1 none:=grownBy_trans (grownBy_drew _ _) hgr1
  obtain ⟨w2,hr2,hrow2,hgr2⟩:=copy_row (P:=Tryz.prog) w1 225 225 232 inf Tryz.underlying225 hi0 w.heap.size (i*3) (i+m+(n-j)-i) ⟨h,0,none⟩ m _ 232 vs hrow1 (by rw [hzs,hvl,show Nat.min m (i+m+(n-j)-i)=m from Nat.min_eq_left (by omega)])
    (fun j u hj=>by
      rw [Addr.add_lit,Nat.zero_add]
      exact hgr1.cell (hvr j u hj) (by simp)) (by rw [List.length_append,hcut,hvl,hrl']; omega) h1v
  rw [show Nat.min m (i+m+(n-j)-i)=m from Nat.min_eq_left (by omega)] at hr2
  have hgw:RowAt w2 g 232 cur:=(hg.grown hgr1 (by simp)).grown hgr2 (by simp; omega)
  have htl:((cur.take (n*3)).drop (j*3)).length=(n-j)*3:=by rw [List.length_drop,List.length_take,hc,Nat.min_eq_left (Nat.mul_le_mul_right _ hnc),←Nat.sub_mul]
  obtain ⟨w3,hr3,hrow3,hgr3⟩:=copy_row (P:=Tryz.prog) w2.drew 225 225 232 inf Tryz.underlying225 hi0 w.heap.size ((i+m)*3) (n-j) ⟨g,j*3,none⟩ (n-j) _ 232 ((cur.take (n*3)).drop (j*3)) hrow2
    (by rw [hzs,htl,show Nat.min (n-j) (n-j)=n-j from Nat.min_self _])
    (fun q u hq=>drop_cells hgw _ _ q u hq) (by rw [htl]; simp only [List.length_append,List.length_take,List.length_drop,hcut,hvl,hrl']; omega)
    (fun u hu=>h1x u (List.mem_of_mem_drop hu))
  unfold maxLen at hcm
  have hz1:¬((i:Int)=(j:Int)):=by omega
  have hz2:¬((j:Int)=(n:Int)):=by omega
  have hijz:(i:Int)≤(j:Int):=by omega
  have hinz:(i:Int)≤(n:Int):=by omega
  have hjnz:(j:Int)≤(n:Int):=by omega
  have hjc:(j:Int)≤(cap:Int):=by omega
  have hic:(i:Int)≤(cap:Int):=by omega
  have hz3:(cap:Int)<(i:Int)+(m:Int)+((n-j:Nat):Int):=by omega
  have hw1:IntKind.i64.wrap ((i:Int)+(m:Int))=(i:Int)+(m:Int):=by rw [IntKind.wrap_i64]; omega
  have hw2:IntKind.i64.wrap ((i:Int)+(m:Int)+((n-j:Nat):Int))=(i:Int)+(m:Int)+((n-j:Nat):Int):=by rw [IntKind.wrap_i64]; omega
  have hb1:(0:Int)≤(i:Int)+(m:Int):=by omega
  have htn:((i:Int)+(m:Int)).toNat=i+m:=by omega
  have hb6:(i:Int)+(m:Int)≤(i:Int)+(m:Int)+((n-j:Nat):Int):=by omega
  have hb2:¬(c'=i+m):=by omega
  have hb3:¬(c'=i):=by omega
  have hb4:¬(cap=i):=by omega
  have hb5:¬(cap=j):=by omega
  go_enter Tryz.func196,Tryz.ntmps196
  go_wp2
  go_region
  go_wp2_with (first|(at_builtin; refine Lib.wpList_append_run _ rfl _ _ 225 3 rfl _ _ rfl rfl _ _ (hr1 _) ?_)|(at_builtin; refine wpl_copy _ rfl _ _ 225 225 rfl _ _ rfl rfl (hr2 _ _ _) ?_))
  go_region_law (refine step_copy rfl _ _ 225 225 rfl _ _ (by simp [Act.eval,Act.put]) (by simp [Act.eval,Act.put]) (hr3 _ _ _) ?_)
  go_wp2
  go_ret
  refine ⟨c',rfl,_,hrow3,?_,hcc,hcm',?_,?_⟩
  · simp only [List.length_append,List.length_take,List.length_drop,hcut,hvl,hrl',htl]; omega
  · exact grownBy_new (grownBy_new hgr1 hgr2 (Nat.le_refl _)) (grownBy_trans (grownBy_drew _ _) hgr3) (Nat.le_refl _)
  · have e1:(cur.take (i*3)++rest).take (i*3)=cur.take (i*3):=by
      rw [List.take_append_of_le_length (by rw [hcut]; exact Nat.le_refl _),List.take_of_length_le (by rw [hcut]; exact Nat.le_refl _)]
    rw [e1]
    have e2:(cur.take (i*3)++vs).length=(i+m)*3:=by rw [List.length_append,hcut,hvl,Nat.add_mul]
    rw [List.take_append_of_le_length (show (i+m)*3≤(cur.take (i*3)++vs).length by rw [e2]; exact Nat.le_refl _),List.take_of_length_le (show (cur.take (i*3)++vs).length≤(i+m)*3 by rw [e2]; exact Nat.le_refl _)]
    rw [List.take_append_of_le_length (by rw [List.length_append,e2,htl]; omega)]
    exact List.take_of_length_le (by rw [List.length_append,e2,htl]; omega)
set_option maxHeartbeats 4000000 in
set_option maxRecDepth 100000 in
theorem replace_more (g cap n m i j h vc:Nat) (cur cv:List Value) (w:World) (hg:RowAt w g 232 cur) (hc:cur.length=cap*3) (hnc:n≤cap) (hcm:cap≤maxLen)
    (hv:RowAt w h 232 cv) (hvl:m*3≤cv.length) (hne:h≠g)
    (hij:i<j) (hj:j<n) (hroom:i+m+(n-j)≤cap) (hmore:j<i+m) (h1x:∀u∈cur.take (n*3),u.oneCell'=true) (h1v:∀u∈cv.take (m*3),u.oneCell'=true) :
    Calls Tryz.prog 196 #[.slice (some ⟨g,0,none⟩) n cap,.int .i64 i,.int .i64 j,.slice (some ⟨h,0,none⟩) m vc] w fun e w' =>
      e= .returned (.slice (some ⟨g,0,none⟩) (i+m+(n-j)) cap)∧∃cur',RowAt w' g 232 cur'∧cur'.length=cap*3∧w.grownBy w' (some g)∧
        cur'.take ((i+m+(n-j))*3)=cur.take (i*3)++cv.take (m*3)++(cur.take (n*3)).drop (j*3):=by
  obtain ⟨inf,hi0,hz0,hzs,hzb⟩:=info_parts infoEL
  have hvl':(cv.take (m*3)).length=m*3:=by rw [List.length_take]; exact Nat.min_eq_left hvl
  have htl:((cur.take (n*3)).drop (j*3)).length=(n-j)*3:=by rw [List.length_drop,List.length_take,hc,Nat.min_eq_left (Nat.mul_le_mul_right _ hnc),←Nat.sub_mul]
  obtain ⟨w1,hr1,hrow1,hgr1⟩:=copy_row (P:=Tryz.prog) w.drew.drew 225 225 232 inf Tryz.underlying225 hi0 g ((i+m)*3) (n-j) ⟨g,j*3,none⟩ (n-j) cur 232 ((cur.take (n*3)).drop (j*3)) hg
    (by rw [hzs,htl,show Nat.min (n-j) (n-j)=n-j from Nat.min_self _])
    (fun q u hq=>drop_cells (W:=w) hg _ _ q u hq) (by rw [htl,hc]; omega) (fun u hu=>h1x u (List.mem_of_mem_drop hu))
  have hvw:RowAt w1 h 232 cv:=hv.grown (grownBy_trans (grownBy_drew _ _) (grownBy_trans (grownBy_drew _ _) hgr1)) (by simp; exact hne)
  obtain ⟨w2,hr2,hrow2,hgr2⟩:=copy_row (P:=Tryz.prog) w1 225 225 232 inf Tryz.underlying225 hi0 g (i*3) (i+m+(n-j)-i) ⟨h,0,none⟩ m _ 232 (cv.take (m*3)) hrow1 (by rw [hzs,hvl',show Nat.min m (i+m+(n-j)-i)=m from Nat.min_eq_left (by omega)])
    (fun q u hq=>by rw [Addr.add_lit,Nat.zero_add]; exact cells_take hvw _ q u hq) (by rw [hvl']; simp only [List.length_append,List.length_take,List.length_drop,htl,hc]; omega) h1v
  unfold maxLen at hcm
  have hov:∀bo lb cb,(callFunc 225 #[.slice (some ⟨g,bo,none⟩) lb cb,.slice (some ⟨h,0,none⟩) m vc]).run Tryz.prog w.drew= .ok (.value (.bool false)) w.drew:=fun bo lb cb =>
    overlaps_apart w.drew g h bo 0 lb cb m vc cur cv 232 232 hg hv (fun e=>hne e.symm) (by omega)
  have hz1:¬((i:Int)=(j:Int)):=by omega
  have hz2:¬((j:Int)=(n:Int)):=by omega
  have hijz:(i:Int)≤(j:Int):=by omega
  have hinz:(i:Int)≤(n:Int):=by omega
  have hjnz:(j:Int)≤(n:Int):=by omega
  have hjc:(j:Int)≤(cap:Int):=by omega
  have hic:(i:Int)≤(cap:Int):=by omega
  have hz3:¬((cap:Int)<(i:Int)+(m:Int)+((n-j:Nat):Int)):=by omega
  have hz4:(i:Int)+(m:Int)+((n-j:Nat):Int)≤(cap:Int):=by omega
  have hz5:¬((i:Int)+(m:Int)≤(j:Int)):=by omega
  have hw1:IntKind.i64.wrap ((i:Int)+(m:Int))=(i:Int)+(m:Int):=by rw [IntKind.wrap_i64]; omega
  have hw2:IntKind.i64.wrap ((i:Int)+(m:Int)+((n-j:Nat):Int))=(i:Int)+(m:Int)+((n-j:Nat):Int):=by rw [IntKind.wrap_i64]; omega
  have hb1:(0:Int)≤(i:Int)+(m:Int):=by omega
  have hb0:(0:Int)≤(i:Int)+(m:Int)+((n-j:Nat):Int):=by omega
  have htn:((i:Int)+(m:Int)).toNat=i+m:=by omega
  have htn2:((i:Int)+(m:Int)+((n-j:Nat):Int)).toNat=i+m+(n-j):=by omega
  have hb6:(i:Int)+(m:Int)≤(i:Int)+(m:Int)+((n-j:Nat):Int):=by omega
  have hb7:(i:Int)≤(i:Int)+(m:Int)+((n-j:Nat):Int):=by omega
  have hb2:¬(cap=i+m):=by omega
  have hb4:¬(cap=i):=by omega
  have hb5:¬(cap=j):=by omega
  go_enter Tryz.func196,Tryz.ntmps196
  go_wp2
  go_region
  go_wp2_with (simp only [hov])
  go_region_law (refine step_copy rfl _ _ 225 225 rfl _ _ (by simp [Act.eval,Act.put]) (by simp [Act.eval,Act.put]) (hr1 _ _ _) ?_)
  go_wp2_with (at_builtin; refine wpl_copy _ rfl _ _ 225 225 rfl _ _ rfl rfl (hr2 _ _ _) ?_)
  go_ret
  refine ⟨rfl,_,hrow2,?_,grownBy_trans (grownBy_trans (grownBy_drew _ _) (grownBy_trans (grownBy_drew _ _) hgr1)) hgr2,?_⟩
  · simp only [List.length_append,List.length_take,List.length_drop,hvl',htl,hc]; omega
  · exact shift_list cur (cv.take (m*3)) (i*3) (j*3) (n*3) (m*3) hvl' (by omega) (by omega) (by omega) (by omega) (by omega) (by omega)
set_option maxHeartbeats 4000000 in
set_option maxRecDepth 100000 in
theorem replace_less (g cap n m i j:Nat) (cur vs:List Value) (v:Value) (va:Option Addr) (vc:Nat) (w:World) (hg:RowAt w g 232 cur) (hc:cur.length=cap*3) (hnc:n≤cap) (hcm:cap≤maxLen)
    (hv:v= .slice va m vc) (hva:(va=none∧m=0∧vc=0)∨∃h,va=some ⟨h,0,none⟩∧∀j u,vs[j]? =some u→w.cell? ⟨h,j,none⟩=some u) (hvl:vs.length=m*3)
    (hij:i<j) (hj:j<n) (hless:i+m≤j) (h1x:∀u∈cur.take (n*3),u.oneCell'=true) (h1v:∀u∈vs,u.oneCell'=true) :
    Calls Tryz.prog 196 #[.slice (some ⟨g,0,none⟩) n cap,.int .i64 i,.int .i64 j,v] w fun e w' =>
      e= .returned (.slice (some ⟨g,0,none⟩) (i+m+(n-j)) cap)∧∃cur',RowAt w' g 232 cur'∧cur'.length=cap*3∧w.grownBy w' (some g)∧
        cur'.take ((i+m+(n-j))*3)=cur.take (i*3)++vs++(cur.take (n*3)).drop (j*3):=by
  obtain ⟨inf,hi0,hz0,hzs,hzb⟩:=info_parts infoEL
  have hcut:(cur.take (i*3)).length=i*3:=by rw [List.length_take,hc]; exact Nat.min_eq_left (Nat.mul_le_mul_right _ (by omega))
  have htl:((cur.take (n*3)).drop (j*3)).length=(n-j)*3:=by rw [List.length_drop,List.length_take,hc,Nat.min_eq_left (Nat.mul_le_mul_right _ hnc),←Nat.sub_mul]
  have e2:(cur.take (i*3)++vs).length=(i+m)*3:=by rw [List.length_append,hcut,hvl,Nat.add_mul]
  obtain ⟨w1,hr1,hrow1,hgr1⟩:∃w1,(∀ty dc,∃k,(Builtin.copy_ #[225,225] ty #[.slice (some ⟨g,i*3,none⟩) (i+m+(n-j)-i) dc,v]).run Tryz.prog w.drew= .ok (goInt k) w1)∧RowAt w1 g 232 (cur.take (i*3)++vs++cur.drop (i*3+vs.length))∧w.grownBy w1 (some g):=by
    subst hv
    rcases hva with ⟨rfl,rfl,rfl⟩|⟨h,rfl,hvr⟩
    · obtain rfl:vs=[]:=List.eq_nil_of_length_eq_zero (by simpa using hvl)
      exact ⟨w.drew,fun ty dc=>⟨0,copy_none (P:=Tryz.prog) w.drew 225 225 232 inf Tryz.underlying225 hi0 _ _ ty dc⟩,by show RowAt w g _ _; simpa using hg,grownBy_drew _ _⟩
    · obtain ⟨w1,h1,h2,h3⟩:=copy_row (P:=Tryz.prog) w.drew 225 225 232 inf Tryz.underlying225 hi0 g (i*3) (i+m+(n-j)-i) ⟨h,0,none⟩ m cur 232 vs hg (by rw [hzs,hvl,show Nat.min m (i+m+(n-j)-i)=m from Nat.min_eq_left (by omega)])
        (fun q u hq=>by rw [Addr.add_lit,Nat.zero_add]; exact hvr q u hq) (by rw [hvl,hc]; omega) h1v
      exact ⟨w1,fun ty dc=>⟨_,h1 ty dc _⟩,h2,grownBy_trans (grownBy_drew _ _) h3⟩
  rw [hvl] at hrow1
  have hlen1:(cur.take (i*3)++vs++cur.drop (i*3+m*3)).length=cap*3:=by rw [List.length_append,e2,List.length_drop,hc]; omega
  obtain ⟨w2,hr2,hrow2,hgr2⟩:=copy_row (P:=Tryz.prog) w1.drew 225 225 232 inf Tryz.underlying225 hi0 g ((i+m)*3) (n-j) ⟨g,j*3,none⟩ (n-j) _ 232 ((cur.take (n*3)).drop (j*3)) hrow1
    (by rw [hzs,htl,show Nat.min (n-j) (n-j)=n-j from Nat.min_self _])
    (fun q u hq=>by
      rw [Addr.add_lit]
      show w1.cell? _=_
      rw [hrow1.cell,List.getElem?_append_right (by rw [e2]; omega),List.getElem?_drop,e2,show i*3+m*3+(j*3+q-(i+m)*3)=j*3+q by omega]
      rw [List.getElem?_drop,List.getElem?_take] at hq
      split at hq
      · exact hq
      · cases hq) (by rw [htl,hlen1]; omega) (fun u hu=>h1x u (List.mem_of_mem_drop hu))
  have ht1:(cur.take (i*3)++vs++cur.drop (i*3+m*3)).take ((i+m)*3)=cur.take (i*3)++vs:=by
    rw [List.take_append_of_le_length (by rw [e2]; exact Nat.le_refl _)]
    exact List.take_of_length_le (by rw [e2]; exact Nat.le_refl _)
  rw [ht1,htl] at hrow2
  generalize hR:cur.take (i*3)++vs++(cur.take (n*3)).drop (j*3)++List.drop ((i+m)*3+(n-j)*3) (cur.take (i*3)++vs++cur.drop (i*3+m*3))=R at hrow2
  have hRl:R.length=cap*3:=by rw [←hR,List.length_append,List.length_append,e2,htl,List.length_drop,hlen1]; omega
  have hRt:R.take ((i+m+(n-j))*3)=cur.take (i*3)++vs++(cur.take (n*3)).drop (j*3):=by
    rw [←hR,List.take_append_of_le_length (by rw [List.length_append,e2,htl]; omega)]
    exact List.take_of_length_le (by rw [List.length_append,e2,htl]; omega)
  have HR:Hid (R.take ((i+m+(n-j))*3)=cur.take (i*3)++vs++(cur.take (n*3)).drop (j*3)):=hRt
  clear hRt hR
  subst hv
  unfold maxLen at hcm
  have hz1:¬((i:Int)=(j:Int)):=by omega
  have hz2:¬((j:Int)=(n:Int)):=by omega
  have hijz:(i:Int)≤(j:Int):=by omega
  have hinz:(i:Int)≤(n:Int):=by omega
  have hjnz:(j:Int)≤(n:Int):=by omega
  have hjc:(j:Int)≤(cap:Int):=by omega
  have hic:(i:Int)≤(cap:Int):=by omega
  have hz3:¬((cap:Int)<(i:Int)+(m:Int)+((n-j:Nat):Int)):=by omega
  have hz4:(i:Int)+(m:Int)+((n-j:Nat):Int)≤(cap:Int):=by omega
  have hz5:(i:Int)+(m:Int)≤(j:Int):=by omega
  have hw1:IntKind.i64.wrap ((i:Int)+(m:Int))=(i:Int)+(m:Int):=by rw [IntKind.wrap_i64]; omega
  have hw2:IntKind.i64.wrap ((i:Int)+(m:Int)+((n-j:Nat):Int))=(i:Int)+(m:Int)+((n-j:Nat):Int):=by rw [IntKind.wrap_i64]; omega
  have hb1:(0:Int)≤(i:Int)+(m:Int):=by omega
  have hb0:(0:Int)≤(i:Int)+(m:Int)+((n-j:Nat):Int):=by omega
  have htn:((i:Int)+(m:Int)).toNat=i+m:=by omega
  have htn2:((i:Int)+(m:Int)+((n-j:Nat):Int)).toNat=i+m+(n-j):=by omega
  have hb6:(i:Int)+(m:Int)≤(i:Int)+(m:Int)+((n-j:Nat):Int):=by omega
  have hb7:(i:Int)≤(i:Int)+(m:Int)+((n-j:Nat):Int):=by omega
  have hb8:(i:Int)+(m:Int)+((n-j:Nat):Int)≤(n:Int):=by omega
  have hb2:¬(cap=i+m):=by omega
  have hb4:¬(cap=i):=by omega
  have hb5:¬(cap=j):=by omega
  obtain ⟨k1,hr1⟩:∃k:TypeId→Nat→Int,∀ty dc,(Builtin.copy_ #[225,225] ty #[.slice (some ⟨g,i*3,none⟩) (i+m+(n-j)-i) dc,.slice va m vc]).run Tryz.prog w.drew= .ok (goInt (k ty dc)) w1:=⟨fun ty dc=>(hr1 ty dc).choose,fun ty dc=>(hr1 ty dc).choose_spec⟩
  by_cases hlt:i+m+(n-j)<n
  · obtain ⟨w3,hr3,hrow3,hgr3⟩:=clear_row (P:=Tryz.prog) w2 225 232 inf _ Tryz.underlying225 hi0 hz0 g ((i+m+(n-j))*3) (n-(i+m+(n-j))) R 232 hrow2 (by rw [hRl]; show (i+m+(n-j))*3+(n-(i+m+(n-j)))*3≤cap*3; omega) (zero_one _) (by omega)
    have hb9:¬(cap=i+m+(n-j)):=by omega
    go_enter Tryz.func196,Tryz.ntmps196
    go_wp2
    go_region
    go_wp2_with (at_builtin; refine wpl_copy _ rfl _ _ 225 225 rfl _ _ rfl rfl (hr1 _ _) ?_)
    go_region_law (refine step_copy rfl _ _ 225 225 rfl _ _ (by simp [Act.eval,Act.put]) (by simp [Act.eval,Act.put]) (hr2 _ _ _) ?_)
    go_wp2_with (at_builtin; refine wpl_clear _ rfl _ 225 rfl _ rfl (hr3 _ _) ?_)
    go_ret
    refine ⟨rfl,_,hrow3,?_,grownBy_trans (grownBy_trans hgr1 (grownBy_trans (grownBy_drew _ _) hgr2)) hgr3,?_⟩
    · rw [List.length_append,List.length_append,List.length_take,List.length_drop,zeroCells_list,hRl]; show _+(n-(i+m+(n-j)))*3+(cap*3-((i+m+(n-j))*3+(n-(i+m+(n-j)))*3))=_; omega
    · rw [HR.out,List.append_assoc _ (Builtin.zeroCells _ _).toList,List.take_append_of_le_length (by rw [List.length_append,e2,htl]; omega)]
      exact List.take_of_length_le (by rw [List.length_append,e2,htl]; omega)
  · have hr3:=clear_none (P:=Tryz.prog) w2 225 232 Tryz.underlying225
    have htn3:n-(i+m+(n-j))=0:=by omega
    go_enter Tryz.func196,Tryz.ntmps196
    go_wp2
    go_region
    go_wp2_with (at_builtin; refine wpl_copy _ rfl _ _ 225 225 rfl _ _ rfl rfl (hr1 _ _) ?_)
    go_region_law (refine step_copy rfl _ _ 225 225 rfl _ _ (by simp [Act.eval,Act.put]) (by simp [Act.eval,Act.put]) (hr2 _ _ _) ?_)
    go_wp2_with (at_builtin; refine wpl_clear _ rfl _ 225 rfl _ rfl (hr3 _ _ _) ?_)
    all_goals
      go_ret
      exact ⟨rfl,_,hrow2,by omega,grownBy_trans hgr1 (grownBy_trans (grownBy_drew _ _) hgr2),by first|exact HR.out|rw [HR.out,List.append_assoc]⟩
set_option maxHeartbeats 4000000 in
set_option maxRecDepth 100000 in
theorem replace_none (s v:Value) (a:Option Addr) (n cap i:Nat) (w:World) (hs:s= .slice a n cap) (ha:a=none∨∃g,a=some ⟨g,0,none⟩) (hi:i≤n) (hnc:n≤cap) (hcm:cap≤maxLen) (Q:Ending→World→Prop)
    (hI:Calls Tryz.prog 224 #[s,.int .i64 i,v] w fun e w'=>∃v',e= .returned v'∧Q (.returned v') w') :
    Calls Tryz.prog 196 #[s,.int .i64 i,.int .i64 i,v] w Q:=by
  subst hs
  unfold maxLen at hcm
  have hin:(i:Int)≤(n:Int):=by omega
  have hic:(i:Int)≤(cap:Int):=by omega
  rcases ha with rfl|⟨g,rfl⟩
  all_goals
    go_enter Tryz.func196,Tryz.ntmps196
    go_wp2_with (go_at_call 224; refine hI.mono ?_; rintro e w' ⟨v',rfl,hq⟩)
    all_goals first|exact hq|(go_ret; exact hq)
theorem replace_any (lo n m i j:Nat) (s v:Value) (xs vs:List Value) (w:World) (hs:w.ownsRow lo 232 3 s n xs) (hv:w.ownsRow lo 232 3 v m vs) (hne:∀g,s.ownBlock=some g→v.ownBlock≠some g)
    (hij:i≤j) (hj:j≤n) (hby:(n+m)*24≤140737488355328) (h1x:∀u∈xs,u.oneCell'=true) (h1v:∀u∈vs,u.oneCell'=true) (hlo:lo≤w.heap.size) :
    Calls Tryz.prog 196 #[s,.int .i64 i,.int .i64 j,v] w fun e w'=>∃v',e= .returned v'∧w'.ownsRow lo 232 3 v' (i+m+(n-j)) (xs.take (i*3)++vs++xs.drop (j*3))∧w.grownBy w' s.ownBlock∧
      (∀g,v'.ownBlock=some g→s.ownBlock=some g∨w.heap.size≤g):=by
  have hxl:=hs.1
  have hvl:=hv.1
  have hs0:=hs
  have hv0:=hv
  by_cases e:i=j
  · subst e
    obtain ⟨a,cap,rfl,ha,hnc,hcm⟩:∃a cap,s= .slice a n cap∧(a=none∨∃g,a=some ⟨g,0,none⟩)∧n≤cap∧cap≤maxLen:=by
      rcases row_of_own hs with ⟨rfl,rfl,_⟩|⟨g,cap,cur,rfl,_,_,h1,h2,_⟩
      · exact ⟨_,_,rfl,.inl rfl,Nat.le_refl _,by decide⟩
      · exact ⟨_,_,rfl,.inr ⟨g,rfl⟩,h1,h2⟩
    refine replace_none _ v a n cap i w rfl ha hj hnc hcm _ ((insert_any lo n m i _ v xs vs w hs hv hne hj hby h1x h1v hlo).mono ?_)
    rintro e w' ⟨v',rfl,h1,h2,h3⟩
    exact ⟨v',rfl,v',rfl,by rw [show i+m+(n-i)=n+m by omega]; exact h1,h2,h3⟩
  · rcases row_of_own hs with ⟨rfl,rfl,_⟩|⟨g,cap,cur,rfl,hlog,hg,hnc,hcm,hcl,hct⟩
    · omega
    obtain ⟨va,vc,rfl,hva⟩:∃va vc,v= .slice va m vc∧((va=none∧m=0∧vc=0)∨∃h,va=some ⟨h,0,none⟩∧∀j u,vs[j]? =some u→w.cell? ⟨h,j,none⟩=some u):=by
      rcases row_of_own hv with ⟨rfl,rfl,_⟩|⟨h,vc,cv,rfl,_⟩
      · exact ⟨_,_,rfl,.inl ⟨rfl,rfl,rfl⟩⟩
      · exact ⟨_,_,rfl,.inr ⟨h,rfl,fun j u hj=>by have:=hv0.cells rfl j u hj; rwa [Addr.add_lit,Nat.zero_add] at this⟩⟩
    have etake:cur.take (i*3)=xs.take (i*3):=by rw [←hct,List.take_take,Nat.min_eq_left (by omega)]
    by_cases ej:j=n
    · subst ej
      have hsrc:=src_of_own (P:=Tryz.prog) Tryz.underlying225 hv h1v
      by_cases hroom:i+m≤cap
      · refine (replace_end_room g cap j m i cur vs _ va vc w hg hcl hnc hcm rfl hsrc (by omega) hroom).mono ?_
        rintro e w' ⟨rfl,cur',hrow,hl,hgr,ht⟩
        refine ⟨_,rfl,?_,hgr,fun g hg=> .inl hg⟩
        rw [Nat.sub_self,Nat.add_zero]
        refine own_of_row hrow hlog hroom hcm hl ?_
        rw [ht,etake,List.drop_eq_nil_of_le (by omega),List.append_nil]
      · refine (replace_end_away g cap j m i cur vs _ va vc w hg hcl hnc hcm rfl hsrc (by omega) (by omega) hby).mono ?_
        rintro e w' ⟨c',rfl,cur',hrow,hl,hc1,hc2,hgr,ht⟩
        refine ⟨_,rfl,?_,grownBy_none _ hgr,fun g hg=> .inr (by cases hg; exact Nat.le_refl _)⟩
        rw [Nat.sub_self,Nat.add_zero]
        refine own_of_row hrow hlo hc1 hc2 hl ?_
        rw [ht,etake,List.drop_eq_nil_of_le (by omega),List.append_nil]
    · by_cases hless:i+m≤j
      · refine (replace_less g cap n m i j cur vs _ va vc w hg hcl hnc hcm rfl hva hvl (by omega) (by omega) hless (by rw [hct]; exact h1x) h1v).mono ?_
        rintro e w' ⟨rfl,cur',hrow,hl,hgr,ht⟩
        refine ⟨_,rfl,own_of_row hrow hlog (by omega) hcm hl ?_,hgr,fun g hg=> .inl hg⟩
        rw [ht,etake,hct]
      · rcases row_of_own hv with ⟨hh,hm0,_⟩|⟨h,vc',cv,hh,hloh,hrh,hmc,hvcm,hcvl,hvt⟩
        · omega
        cases hh
        have hgh:h≠g:=fun e=>hne g rfl (by rw [e]; rfl)
        by_cases hroom:i+m+(n-j)≤cap
        · refine (replace_more g cap n m i j h vc cur cv w hg hcl hnc hcm hrh (by omega) hgh (by omega) (by omega) hroom (by omega) (by rw [hct]; exact h1x) (by rw [hvt]; exact h1v)).mono ?_
          rintro e w' ⟨rfl,cur',hrow,hl,hgr,ht⟩
          refine ⟨_,rfl,own_of_row hrow hlog hroom hcm hl ?_,hgr,fun g hg=> .inl hg⟩
          rw [ht,etake,hct,hvt]
        · refine (replace_away g cap n m i j h vc cur vs w hg hcl hnc hcm (fun j u hj=>by have:=hv0.cells rfl j u hj; rwa [Addr.add_lit,Nat.zero_add] at this) hvl (by omega) (by omega) (by omega) hby (by rw [hct]; exact h1x) h1v).mono ?_
          rintro e w' ⟨c',rfl,cur',hrow,hl,hc1,hc2,hgr,ht⟩
          refine ⟨_,rfl,own_of_row hrow hlo hc1 hc2 hl ?_,grownBy_none _ hgr,fun g hg=> .inr (by cases hg; exact Nat.le_refl _)⟩
          rw [ht,etake,hct]
end Go.Proofs.YtnjlajjjcmhfgaaGreatDoor.Bs
