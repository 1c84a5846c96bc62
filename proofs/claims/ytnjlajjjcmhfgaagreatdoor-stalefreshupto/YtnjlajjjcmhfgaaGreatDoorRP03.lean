import Derived.Test.YtnjlajjjcmhfgaaGreatDoorRP02
import Derived.BigRegion
import Derived.Deep.RegionHeld3
namespace Go.Proofs.YtnjlajjjcmhfgaaGreatDoor.Bs
open Go.RowKit
set_option linter.unusedVariables false
theorem own_mono {W:World} {lo lo' n size:Nat} {e:TypeId} {v:Value} {xs:List Value} (h:W.ownsRow lo e size v n xs) (hl:lo'≤lo):W.ownsRow lo' e size v n xs:=by
  rcases row_of_own h with ⟨rfl,rfl,rfl⟩|⟨g,cap,cur,rfl,a,b,c,d,e1,f⟩
  · exact World.ownsRow_nil _ _ _ _
  · exact own_of_row b (by omega) c d e1 f
theorem step_append {P:Program} {ops:Array Oper} {o:Oper} {a:Act} {w:World} {K:Act→World→Prop} {Q:Exit→Act→World→Prop} {E:Prop}
    (hg:o.guard=none) (d x:Operand) (dT sT:TypeId) (hop:o.op=Op.call { callee:=Callee.builtin Builtin.append,args:=#[d,x],argTypes:=#[dT,sT] })
    (v u:Value) (hd:a.eval d=v) (hx:a.eval x=u) {v':Value} {w':World} (hr:(Builtin.append_ #[dT,sT] o.type #[v,u]).run P w= .ok v' w') (hK:K (a.put o.dst v') w') :
    if Region.wanted o (yielded ops a.tmps)=true then Oper.wp P o a w K Q else E:=by
  have hw:Region.wanted o (yielded ops a.tmps)=true:=by simp [Region.wanted,hg]
  rw [if_pos hw]
  unfold Oper.wp
  simp [execOp,hop,resolve,invoke,builtin,hd,hx,hr,Result.andThen]
  exact hK
theorem lists_append (w:World) (B:Nat) (lo2:Nat) (pv xv:Value) (A M:List (Sp Bool)) (h:Ls w B pv A) (hx:Ls w lo2 xv M) (hB:B≤w.heap.size) (hby:(A.length+M.length)*24≤140737488355328) :
    ∃v' w',(∀ty,(Builtin.append_ #[225,225] ty #[pv,xv]).run Tryz.prog w= .ok v' w')∧Ls w' B v' (A++M)∧w.grownBy w' pv.ownBlock:=by
  obtain ⟨inf,hi0,hz0,hzs,hzb⟩:=info_parts infoEL
  obtain ⟨v',w',hr,ho,hg,hb⟩:=append_any (P:=Tryz.prog) w 225 232 inf _ Tryz.underlying225 hi0 hz0 (by rw [hzs]; rfl) B A.length M.length pv xv (cellsL A) (cellsL M)
    (by rw [hzs]; exact h) (by rw [hzs]; exact src_of_own Tryz.underlying225 hx (cellsL_one M)) hB (by unfold maxLen; omega) (by rw [hzb]; exact hby)
  refine ⟨v',w',hr,?_,hg⟩
  rw [Ls,List.length_append,cellsL_append]
  rw [hzs] at ho
  exact ho
theorem one_list (w:World) (t:Sp Bool) (lo:Nat) (hlo:lo≤w.heap.size):Ls (w.alloc (.cells #[.int .u64 t.lo,.int .u64 t.hi,.bool t.val] 232)) lo (.slice (some ⟨w.heap.size,0,none⟩) 1 1) [t]:=by
  refine own_of_row (cur:=encS t) (heap_alloc_new w _) hlo (Nat.le_refl _) (by decide) rfl ?_
  simp [cellsL,encS]
theorem piece_append (w:World) (B:Nat) (pv:Value) (A:List (Sp Bool)) (t:Sp Bool) (h:Ls w B pv A) (hB:B≤w.heap.size) (hby:(A.length+1)*24≤140737488355328) :
    ∃v' w',(∀ty,(Builtin.append_ #[225,225] ty #[pv,.slice (some ⟨w.heap.size,0,none⟩) 1 1]).run Tryz.prog (w.alloc (.cells #[.int .u64 t.lo,.int .u64 t.hi,.bool t.val] 232)).drew= .ok v' w')∧Ls w' B v' (A++[t])∧w.grownBy w' pv.ownBlock:=by
  have h1:Below w.heap.size w (w.drew.alloc (.cells #[.int .u64 t.lo,.int .u64 t.hi,.bool t.val] 232)):=(below_alloc (W0:=w) (Below.refl _ w).drew _)
  obtain ⟨v',w',hr,ho,hg⟩:=lists_append (w.drew.alloc (.cells #[.int .u64 t.lo,.int .u64 t.hi,.bool t.val] 232)) B 0 pv (.slice (some ⟨w.heap.size,0,none⟩) 1 1) A [t] (h.keep h1 (fun g hg=>(h.lt g hg).2)) (one_list w.drew t 0 (Nat.zero_le _)) (by simp; omega) hby
  exact ⟨v',w',hr,ho,grownBy_trans (grownBy_none _ (below_grown h1)) hg⟩
theorem below_own {W0 w w':World} {v:Value} {A:List (Sp Bool)} (h:Below W0.heap.size W0 w) (hl:Ls w W0.heap.size v A) (hg:w.grownBy w' v.ownBlock):Below W0.heap.size W0 w' :=
  h.grown hg h.size (fun k hk=>(hl.lt k hk).1)
structure Turn (W W':World) (p:Nat) (v:Value):Prop where
  os:W'.os=W.os
  tape:W'.tape=W.tape
  output:W'.output=W.output
  size:W.heap.size≤W'.heap.size
  block:∀k,k<W.heap.size→k≠p→some k≠v.ownBlock→W'.heap[k]? =W.heap[k]?
theorem map_ne {W:World} {lo p:Nat} {v:Value} {L:List (Sp Bool)} (h:MapAt W lo p v L):∀g,v.ownBlock=some g→p≠g:=by
  intro g hg e
  rcases row_of_own h.own with ⟨rfl,_,_⟩|⟨g',cap,cur,rfl,a,b,_⟩
  · cases hg
  · cases hg
    have h1:=h.box
    have h2:W.heap[g']? =_:=b
    rw [show g'=p from e.symm,h1] at h2
    cases h2
theorem slice_form {W:World} {lo n size:Nat} {e:TypeId} {v:Value} {xs:List Value} (h:W.ownsRow lo e size v n xs):∃a c,v= .slice a n c:=by
  rcases row_of_own h with ⟨rfl,rfl,_⟩|⟨g,cap,cur,rfl,_⟩
  · exact ⟨_,_,rfl⟩
  · exact ⟨_,_,rfl⟩
theorem after_rep {W w5 w6:World} {lo p:Nat} {v v':Value} {L R:List (Sp Bool)} (h:MapAt W lo p v L) (hb5:Below W.heap.size W w5) (ho:Ls w6 lo v' R) (hg:w5.grownBy w6 v.ownBlock) (hb:∀g,v'.ownBlock=some g→v.ownBlock=some g∨w5.heap.size≤g) :
    w6.cell? ⟨p,0,none⟩=some v∧w6.frozen? ⟨p,0,none⟩=false∧(∃v'',(w6.setCell ⟨p,0,none⟩ v').heap[p]? =some (.cells #[v''] 227 (0,0))∧Ls (w6.setCell ⟨p,0,none⟩ v') lo v'' R∧Turn W (w6.setCell ⟨p,0,none⟩ v') p v∧(∀g,v''.ownBlock=some g→v.ownBlock=some g∨W.heap.size≤g)):=by
  have hlt:=h.lt
  have hne:=map_ne h
  have hbox:w6.heap[p]? =some (.cells #[v] 227 (0,0)):=by
    rw [hg.block p (by have:=hb5.size; omega) (fun e=>hne p e.symm rfl),hb5.block p hlt]; exact h.box
  refine ⟨by simp [World.cell?,hbox],by simp [World.frozen?,hbox],v',?_,?_,?_,fun g hg=> ?_⟩
  · rw [setCell_eq_setRow w6 p 0 #[v] 227 (0,0) v' hbox]
    exact setRow_heap w6 p _ _ 227 (0,0) hbox
  · have hnp:v'.ownBlock≠some p:=by
      intro e
      rcases hb p e with e2|e2
      · exact hne p e2 rfl
      · have:=hb5.size; omega
    rcases row_of_own ho with ⟨rfl,h1,h2⟩|⟨g,cap,cur,rfl,a,b,c,d,e,f⟩
    · rw [Ls,h1,h2]; exact World.ownsRow_nil _ _ _ _
    · refine own_of_row (g:=g) (cur:=cur) ?_ a c d e f
      show (w6.setCell _ _).heap[g]? =_
      rw [Below.heap_setCell _ _ _ _ (fun e=>hnp (by show some g=some p; rw [e]))]; exact b
  · refine ⟨hg.os.trans hb5.os,hg.tape.trans hb5.tape,hg.output.trans hb5.output,?_,fun k hk hkp hkv=> ?_⟩
    · have h1:=hb5.size
      have h2:=hg.size
      simp [World.setCell]; omega
    · rw [Below.heap_setCell _ _ _ _ hkp,hg.block k (by have:=hb5.size; omega) hkv,hb5.block k hk]
  · rcases hb g hg with e|e
    · exact .inl e
    · exact .inr (by have:=hb5.size; omega)
set_option maxHeartbeats 4000000 in
set_option maxRecDepth 100000 in
theorem replace_NN (W:World) (lo p:Nat) (v:Value) (L M:List (Sp Bool)) (a b:Int) (mv:Value) (h:MapAt W lo p v L) (hm:Ls W lo mv M)
    (hsz:(L.length+M.length+3)*24≤140737488355328) (ha:0≤a) (hab:a≤b) (hb:b≤18446744073709551615) (i j:Nat) (hi:ei L a=i) (hj:sa L b=j) (hij:i<j) (s t:Sp Bool) (hs:L[i]? =some s) (ht:L[j-1]? =some t) (hsl:¬s.lo<a) (htl:¬b<t.hi) :
    Calls Tryz.prog 144 #[.pointer (some ⟨p,0,none⟩),.int .u64 a,.int .u64 b,mv] W fun e W'=>e= .returned (.tuple #[])∧∃v',W'.heap[p]? =some (.cells #[v'] 227 (0,0))∧Ls W' lo v' (L.take i++([]++M)++L.drop j)∧Turn W W' p v∧(∀g,v'.ownBlock=some g→v.ownBlock=some g∨W.heap.size≤g):=by
  have hj2:j≤L.length:=by rw [←hj]; exact sa_le L b
  have hlt:=h.lt
  have hlo:lo≤W.heap.size:=by have:=h.low; omega
  have hC1:=ends_any W lo p _ L a h (by omega)
  rw [hi] at hC1
  have hC2:∀w1,Below W.heap.size W w1→Calls Tryz.prog 195 #[.pointer (some ⟨p,0,none⟩),.int .u64 b] w1 fun e W'=>e= .returned (.int .i64 j)∧Below W.heap.size W W':=fun w1 hb1=>(starts_any w1 lo p _ L b (h.keep hb1) (by omega)).mono (by rintro e w2 ⟨rfl,hb2⟩; exact ⟨by rw [hj],below_go hb1 hb2⟩)
  have hijn:i≤j:=by omega
  have hbyA:(([]:List (Sp Bool)).length+1)*24≤140737488355328:=by simp
  have hbyM:(([]:List (Sp Bool)).length+M.length)*24≤140737488355328:=Nat.le_trans (Nat.mul_le_mul_right _ (by simp only [List.length_nil]; omega)) hsz
  have hbyR:(([]++M:List (Sp Bool)).length+1)*24≤140737488355328:=Nat.le_trans (Nat.mul_le_mul_right _ (by simp only [List.length_append,List.length_nil]; omega)) hsz
  have hbyF:(L.length+([]++M:List (Sp Bool)).length)*24≤140737488355328:=Nat.le_trans (Nat.mul_le_mul_right _ (by simp only [List.length_append,List.length_nil]; omega)) hsz
  have hRl:i+([]++M:List (Sp Bool)).length+(L.length-j)=(L.take i++([]++M)++L.drop j).length:=by simp only [List.length_append,List.length_take,List.length_drop]; omega
  rcases h.own.view with ⟨_,rfl⟩|⟨g,cap,rfl,hg1,hg2,hcap,hcap2,hcell⟩
  · simp at hs
  have hcW:W.cell? ⟨p,0,none⟩=some (.slice (some ⟨g,0,none⟩) L.length cap):=h.cell
  have q0:=hcell i s hs 0 (by omega)
  have q2:=hcell i s hs 2 (by omega)
  simp only [encS,Nat.add_zero,List.getElem?_cons_zero,List.getElem?_cons_succ] at q0 q2
  have r1:=hcell (j-1) t ht 1 (by omega)
  have r2:=hcell (j-1) t ht 2 (by omega)
  simp only [encS,List.getElem?_cons_zero,List.getElem?_cons_succ] at r1 r2
  have hijz:(i:Int)<(j:Int):=by omega
  have hiL:(i:Int)<(L.length:Int):=by omega
  have hLg:=good_lo h.good s (List.mem_of_getElem? hs)
  have hLt:=good_lo h.good t (List.mem_of_getElem? ht)
  have hjL:(j:Int)-1<(L.length:Int):=by omega
  have hj0:(0:Int)≤(j:Int)-1:=by omega
  have hjn:((j:Int)-1).toNat=j-1:=by omega
  have hi0z:(0:Int)≤(i:Int):=by omega
  clear hcell
  generalize hRR:L.take i++([]++M)++L.drop j=RR at hRl ⊢
  have HRl:Hid (i+([]++M:List (Sp Bool)).length+(L.length-j)=RR.length):=hRl
  have HRR:Hid (L.take i++([]++M)++L.drop j=RR):=hRR
  clear hRl hRR
  go_enter Tryz.func144,Tryz.ntmps144
  go_wp2_with (first
    | (go_at_call 194; refine hC1.mono ?_; rintro e w1 ⟨rfl,hb1⟩)
    | (go_at_call 195; refine (hC2 _ hb1).mono ?_; rintro e w2 ⟨rfl,hb2⟩; obtain ⟨hcc,hff⟩:=bcell hb2)
    | (at_builtin; refine Hid.out ?_))
  obtain ⟨pv2,w4,hr4,hl4,hg4⟩:=lists_append w2 W.heap.size lo (.slice none 0 0) mv [] M (World.ownsRow_nil _ _ _ _) (hm.keep hb2 (fun g hg=>(hm.lt g hg).2)) hb2.size hbyM
  have hb4:Below W.heap.size W w4:=below_own hb2 (A:=[]) (World.ownsRow_nil _ _ _ _) hg4
  clear hcc hff
  obtain ⟨hcc,hff⟩:=bcell hb4
  refine Lib.wpList_append_run _ rfl _ _ 225 225 rfl _ _ (by rfl) (by rfl) _ _ (hr4 _) ?_
  have hown:w4.ownsRow lo 232 3 (.slice (some ⟨g,0,none⟩) L.length cap) L.length (cellsL L):=h.own.keep hb4 (fun g hg=>(h.own.lt g hg).2)
  have hC3:=replace_any lo L.length ([]++M:List (Sp Bool)).length i j _ pv2 _ _ w4 hown (own_mono hl4 hlo) (fun g1 e1 e2=>absurd (h.own.lt g1 e1).2 (Nat.not_lt_of_le (Ls.lt hl4 g1 e2).1)) hijn hj2 hbyF (cellsL_one L) (cellsL_one _) (Nat.le_trans hlo hb4.size)
  rw [HRl.out,cellsL_take,cellsL_drop,←cellsL_append,←cellsL_append,HRR.out] at hC3
  go_wp2_with (go_at_call 196; refine hC3.mono ?_; rintro e w6 ⟨v',rfl,ho,hg6,hb6⟩; obtain ⟨hx1,hx2,hx3⟩:=after_rep (R:=RR) h hb4 ho hg6 hb6; obtain ⟨va',vc',rfl⟩:=slice_form ho)
  go_end0
  exact ⟨rfl,hx3⟩
set_option maxHeartbeats 4000000 in
set_option maxRecDepth 100000 in
theorem replace_EE (W:World) (lo p:Nat) (v:Value) (L M:List (Sp Bool)) (a b:Int) (mv:Value) (h:MapAt W lo p v L) (hm:Ls W lo mv M)
    (hsz:(L.length+M.length+3)*24≤140737488355328) (ha:0≤a) (hab:a≤b) (hb:b≤18446744073709551615) (i j:Nat) (hi:ei L a=i) (hj:sa L b=j) (hij:i=j) :
    Calls Tryz.prog 144 #[.pointer (some ⟨p,0,none⟩),.int .u64 a,.int .u64 b,mv] W fun e W'=>e= .returned (.tuple #[])∧∃v',W'.heap[p]? =some (.cells #[v'] 227 (0,0))∧Ls W' lo v' (L.take i++([]++M)++L.drop i)∧Turn W W' p v∧(∀g,v'.ownBlock=some g→v.ownBlock=some g∨W.heap.size≤g):=by
  subst hij
  have hj2:i≤L.length:=by rw [←hj]; exact sa_le L b
  have hlt:=h.lt
  have hlo:lo≤W.heap.size:=by have:=h.low; omega
  have hC1:=ends_any W lo p _ L a h (by omega)
  rw [hi] at hC1
  have hC2:∀w1,Below W.heap.size W w1→Calls Tryz.prog 195 #[.pointer (some ⟨p,0,none⟩),.int .u64 b] w1 fun e W'=>e= .returned (.int .i64 i)∧Below W.heap.size W W':=fun w1 hb1=>(starts_any w1 lo p _ L b (h.keep hb1) (by omega)).mono (by rintro e w2 ⟨rfl,hb2⟩; exact ⟨by rw [hj],below_go hb1 hb2⟩)
  have hijn:i≤i:=Nat.le_refl _
  have hbyA:(([]:List (Sp Bool)).length+1)*24≤140737488355328:=by simp
  have hbyM:(([]:List (Sp Bool)).length+M.length)*24≤140737488355328:=Nat.le_trans (Nat.mul_le_mul_right _ (by simp only [List.length_nil]; omega)) hsz
  have hbyR:(([]++M:List (Sp Bool)).length+1)*24≤140737488355328:=Nat.le_trans (Nat.mul_le_mul_right _ (by simp only [List.length_append,List.length_nil]; omega)) hsz
  have hbyF:(L.length+([]++M:List (Sp Bool)).length)*24≤140737488355328:=Nat.le_trans (Nat.mul_le_mul_right _ (by simp only [List.length_append,List.length_nil]; omega)) hsz
  have hRl:i+([]++M:List (Sp Bool)).length+(L.length-i)=(L.take i++([]++M)++L.drop i).length:=by simp only [List.length_append,List.length_take,List.length_drop]; omega
  obtain ⟨va,vc,hv⟩:=slice_form h.own
  subst hv
  have hcW:W.cell? ⟨p,0,none⟩=some (.slice va L.length vc):=h.cell
  generalize hRR:L.take i++([]++M)++L.drop i=RR at hRl ⊢
  have HRl:Hid (i+([]++M:List (Sp Bool)).length+(L.length-i)=RR.length):=hRl
  have HRR:Hid (L.take i++([]++M)++L.drop i=RR):=hRR
  clear hRl hRR
  go_enter Tryz.func144,Tryz.ntmps144
  go_wp2_with (first
    | (go_at_call 194; refine hC1.mono ?_; rintro e w1 ⟨rfl,hb1⟩)
    | (go_at_call 195; refine (hC2 _ hb1).mono ?_; rintro e w2 ⟨rfl,hb2⟩; obtain ⟨hcc,hff⟩:=bcell hb2)
    | (at_builtin; refine Hid.out ?_))
  obtain ⟨pv2,w4,hr4,hl4,hg4⟩:=lists_append w2 W.heap.size lo (.slice none 0 0) mv [] M (World.ownsRow_nil _ _ _ _) (hm.keep hb2 (fun g hg=>(hm.lt g hg).2)) hb2.size hbyM
  have hb4:Below W.heap.size W w4:=below_own hb2 (A:=[]) (World.ownsRow_nil _ _ _ _) hg4
  clear hcc hff
  obtain ⟨hcc,hff⟩:=bcell hb4
  refine Lib.wpList_append_run _ rfl _ _ 225 225 rfl _ _ (by rfl) (by rfl) _ _ (hr4 _) ?_
  have hown:w4.ownsRow lo 232 3 (.slice va L.length vc) L.length (cellsL L):=h.own.keep hb4 (fun g hg=>(h.own.lt g hg).2)
  have hC3:=replace_any lo L.length ([]++M:List (Sp Bool)).length i i _ pv2 _ _ w4 hown (own_mono hl4 hlo) (fun g1 e1 e2=>absurd (h.own.lt g1 e1).2 (Nat.not_lt_of_le (Ls.lt hl4 g1 e2).1)) hijn hj2 hbyF (cellsL_one L) (cellsL_one _) (Nat.le_trans hlo hb4.size)
  rw [HRl.out,cellsL_take,cellsL_drop,←cellsL_append,←cellsL_append,HRR.out] at hC3
  go_wp2_with (go_at_call 196; refine hC3.mono ?_; rintro e w6 ⟨v',rfl,ho,hg6,hb6⟩; obtain ⟨hx1,hx2,hx3⟩:=after_rep (R:=RR) h hb4 ho hg6 hb6; obtain ⟨va',vc',rfl⟩:=slice_form ho)
  go_end0
  exact ⟨rfl,hx3⟩
end Go.Proofs.YtnjlajjjcmhfgaaGreatDoor.Bs
namespace Go.Proofs.YtnjlajjjcmhfgaaGreatDoor.Bs
open Go.RowKit
set_option linter.unusedVariables false
set_option maxHeartbeats 4000000 in
set_option maxRecDepth 100000 in
theorem replace_LL (W:World) (lo p:Nat) (v:Value) (L M:List (Sp Bool)) (a b:Int) (mv:Value) (h:MapAt W lo p v L) (hm:Ls W lo mv M)
    (hsz:(L.length+M.length+3)*24≤140737488355328) (ha:0≤a) (hab:a≤b) (hb:b≤18446744073709551615) (i jj:Nat) (hi:ei L a=i) (hj:sa L b=jj+1) (hij:i<jj+1) (s t:Sp Bool) (hs:L[i]? =some s) (ht:L[jj]? =some t) (hsl:s.lo<a) (htl:b<t.hi) :
    Calls Tryz.prog 144 #[.pointer (some ⟨p,0,none⟩),.int .u64 a,.int .u64 b,mv] W fun e W'=>e= .returned (.tuple #[])∧∃v',W'.heap[p]? =some (.cells #[v'] 227 (0,0))∧Ls W' lo v' (L.take i++([Sp.mk s.lo (a-1) s.val]++M++[Sp.mk (b+1) t.hi t.val])++L.drop (jj+1))∧Turn W W' p v∧(∀g,v'.ownBlock=some g→v.ownBlock=some g∨W.heap.size≤g):=by
  have hj2:jj+1≤L.length:=by rw [←hj]; exact sa_le L b
  have hlt:=h.lt
  have hlo:lo≤W.heap.size:=by have:=h.low; omega
  have hC1:=ends_any W lo p _ L a h (by omega)
  rw [hi] at hC1
  have hC2:∀w1,Below W.heap.size W w1→Calls Tryz.prog 195 #[.pointer (some ⟨p,0,none⟩),.int .u64 b] w1 fun e W'=>e= .returned (.int .i64 ((jj:Int)+1))∧Below W.heap.size W W':=fun w1 hb1=>(starts_any w1 lo p _ L b (h.keep hb1) (by omega)).mono (by rintro e w2 ⟨rfl,hb2⟩; exact ⟨by rw [hj,Int.natCast_succ],below_go hb1 hb2⟩)
  have hijn:i≤jj+1:=by omega
  have hbyA:(([]:List (Sp Bool)).length+1)*24≤140737488355328:=by simp
  have hbyM:(([Sp.mk s.lo (a-1) s.val]:List (Sp Bool)).length+M.length)*24≤140737488355328:=Nat.le_trans (Nat.mul_le_mul_right _ (by simp only [List.length_cons,List.length_nil]; omega)) hsz
  have hbyR:(([Sp.mk s.lo (a-1) s.val]++M:List (Sp Bool)).length+1)*24≤140737488355328:=Nat.le_trans (Nat.mul_le_mul_right _ (by simp only [List.length_append,List.length_cons,List.length_nil]; omega)) hsz
  have hbyF:(L.length+([Sp.mk s.lo (a-1) s.val]++M++[Sp.mk (b+1) t.hi t.val]:List (Sp Bool)).length)*24≤140737488355328:=Nat.le_trans (Nat.mul_le_mul_right _ (by simp only [List.length_append,List.length_cons,List.length_nil]; omega)) hsz
  have hRl:i+([Sp.mk s.lo (a-1) s.val]++M++[Sp.mk (b+1) t.hi t.val]:List (Sp Bool)).length+(L.length-(jj+1))=(L.take i++([Sp.mk s.lo (a-1) s.val]++M++[Sp.mk (b+1) t.hi t.val])++L.drop (jj+1)).length:=by simp only [List.length_append,List.length_take,List.length_drop]; omega
  rcases h.own.view with ⟨_,rfl⟩|⟨g,cap,rfl,hg1,hg2,hcap,hcap2,hcell⟩
  · simp at hs
  have hcW:W.cell? ⟨p,0,none⟩=some (.slice (some ⟨g,0,none⟩) L.length cap):=h.cell
  have q0:=hcell i s hs 0 (by omega)
  have q2:=hcell i s hs 2 (by omega)
  simp only [encS,Nat.add_zero,List.getElem?_cons_zero,List.getElem?_cons_succ] at q0 q2
  have r1:=hcell jj t ht 1 (by omega)
  have r2:=hcell jj t ht 2 (by omega)
  simp only [encS,List.getElem?_cons_zero,List.getElem?_cons_succ] at r1 r2
  have hijz:(i:Int)<(jj:Int)+1:=by omega
  have hiL:(i:Int)<(L.length:Int):=by omega
  have hLg:=good_lo h.good s (List.mem_of_getElem? hs)
  have hLt:=good_lo h.good t (List.mem_of_getElem? ht)
  have hjL:(jj:Int)<(L.length:Int):=by omega
  have hj0:(0:Int)≤(jj:Int):=by omega
  have hjs:(jj:Int)+1-1=(jj:Int):=by omega
  have hi0z:(0:Int)≤(i:Int):=by omega
  clear hcell
  have hwb:IntKind.u64.wrap (b+1)=b+1:=by rw [IntKind.wrap_u64]; omega
  have hwa:IntKind.u64.wrap (a-1)=a-1:=by rw [IntKind.wrap_u64]; omega
  have hwj:IntKind.i64.wrap (jj:Int)=(jj:Int):=by rw [IntKind.wrap_i64]; clear hwa hwb; omega
  generalize hRR:L.take i++([Sp.mk s.lo (a-1) s.val]++M++[Sp.mk (b+1) t.hi t.val])++L.drop (jj+1)=RR at hRl ⊢
  have HRl:Hid (i+([Sp.mk s.lo (a-1) s.val]++M++[Sp.mk (b+1) t.hi t.val]:List (Sp Bool)).length+(L.length-(jj+1))=RR.length):=hRl
  have HRR:Hid (L.take i++([Sp.mk s.lo (a-1) s.val]++M++[Sp.mk (b+1) t.hi t.val])++L.drop (jj+1)=RR):=hRR
  clear hRl hRR
  go_enter Tryz.func144,Tryz.ntmps144
  go_wp2_with (first
    | (go_at_call 194; refine hC1.mono ?_; rintro e w1 ⟨rfl,hb1⟩)
    | (go_at_call 195; refine (hC2 _ hb1).mono ?_; rintro e w2 ⟨rfl,hb2⟩; obtain ⟨hcc,hff⟩:=bcell hb2)
    | (at_builtin; refine Hid.out ?_))
  obtain ⟨pv1,w3,hr3,hl3,hg3⟩:=piece_append w2 W.heap.size (.slice none 0 0) [] (Sp.mk s.lo (a-1) s.val) (World.ownsRow_nil _ _ _ _) hb2.size hbyA
  have hb3:Below W.heap.size W w3:=below_own hb2 (A:=[]) (World.ownsRow_nil _ _ _ _) hg3
  dsimp only at hr3
  obtain ⟨hccn,hffn⟩:=bcell hb3
  have k0:w2.cell? ⟨p,0,none⟩=some (.slice (some ⟨g,0,none⟩) L.length cap):=by rw [hcc p 0 hlt]; exact hcW
  have k1:w2.cell? ⟨g,i*3,none⟩=some (.int .u64 s.lo):=by rw [hcc g _ hg2]; exact q0
  have k2:w2.cell? ⟨g,i*3+2,none⟩=some (.bool s.val):=by rw [hcc g _ hg2]; exact q2
  have m0:w3.cell? ⟨p,0,none⟩=some (.slice (some ⟨g,0,none⟩) L.length cap):=by rw [hccn p 0 hlt]; exact hcW
  have m1:w3.cell? ⟨g,i*3,none⟩=some (.int .u64 s.lo):=by rw [hccn g _ hg2]; exact q0
  have m2:w3.cell? ⟨g,i*3+2,none⟩=some (.bool s.val):=by rw [hccn g _ hg2]; exact q2
  have n0:=World.new_ne w2 _ k0
  have n1:=World.new_ne w2 _ k1
  have n2:=World.new_ne w2 _ k2
  clear hcc hff
  go_region_held3 (fun w'=>w'.cell? ⟨p,0,none⟩=some (.slice (some ⟨g,0,none⟩) L.length cap)∧w'.cell? ⟨g,i*3,none⟩=some (.int .u64 s.lo)∧w'.cell? ⟨g,i*3+2,none⟩=some (.bool s.val)) (first|go_keep|exact ⟨m0,m1,m2⟩)
    (refine step_append (by rfl) _ _ 225 225 (by rfl) _ _ (by simp [Act.eval]) (by simp [Act.eval]) (hr3 _) ?_)
  clear k0 n0 m0 k1 n1 m1 k2 n2 m2
  go_wp2_with (at_builtin; refine Hid.out ?_)
  obtain ⟨pv2,w4,hr4,hl4,hg4⟩:=lists_append w3 W.heap.size lo pv1 mv [Sp.mk s.lo (a-1) s.val] M hl3 (hm.keep hb3 (fun g hg=>(hm.lt g hg).2)) hb3.size hbyM
  have hb4:Below W.heap.size W w4:=below_own hb3 (A:=[Sp.mk s.lo (a-1) s.val]) hl3 hg4
  clear hccn hffn
  obtain ⟨hcc,hff⟩:=bcell hb4
  refine Lib.wpList_append_run _ rfl _ _ 225 225 rfl _ _ (by rfl) (by rfl) _ _ (hr4 _) ?_
  go_wp2
  obtain ⟨pv3,w5,hr5,hl5,hg5⟩:=piece_append w4 W.heap.size pv2 ([Sp.mk s.lo (a-1) s.val]++M) (Sp.mk (b+1) t.hi t.val) hl4 hb4.size hbyR
  have hb5:Below W.heap.size W w5:=below_own hb4 hl4 hg5
  dsimp only at hr5
  obtain ⟨hccn,hffn⟩:=bcell hb5
  have k0:w4.cell? ⟨p,0,none⟩=some (.slice (some ⟨g,0,none⟩) L.length cap):=by rw [hcc p 0 hlt]; exact hcW
  have k1:w4.cell? ⟨g,jj*3+1,none⟩=some (.int .u64 t.hi):=by rw [hcc g _ hg2]; exact r1
  have k2:w4.cell? ⟨g,jj*3+2,none⟩=some (.bool t.val):=by rw [hcc g _ hg2]; exact r2
  have m0:w5.cell? ⟨p,0,none⟩=some (.slice (some ⟨g,0,none⟩) L.length cap):=by rw [hccn p 0 hlt]; exact hcW
  have m1:w5.cell? ⟨g,jj*3+1,none⟩=some (.int .u64 t.hi):=by rw [hccn g _ hg2]; exact r1
  have m2:w5.cell? ⟨g,jj*3+2,none⟩=some (.bool t.val):=by rw [hccn g _ hg2]; exact r2
  have n0:=World.new_ne w4 _ k0
  have n1:=World.new_ne w4 _ k1
  have n2:=World.new_ne w4 _ k2
  clear hcc hff
  go_region_held3 (fun w'=>w'.cell? ⟨p,0,none⟩=some (.slice (some ⟨g,0,none⟩) L.length cap)∧w'.cell? ⟨g,jj*3+1,none⟩=some (.int .u64 t.hi)∧w'.cell? ⟨g,jj*3+2,none⟩=some (.bool t.val)) (first|go_keep|exact ⟨m0,m1,m2⟩)
    (refine step_append (by rfl) _ _ 225 225 (by rfl) _ _ (by simp [Act.eval]) (by simp [Act.eval]) (hr5 _) ?_)
  all_goals clear k0 n0 m0 k1 n1 m1 k2 n2 m2
  all_goals have hcc:=hccn
  all_goals
    have hown:w5.ownsRow lo 232 3 (.slice (some ⟨g,0,none⟩) L.length cap) L.length (cellsL L):=h.own.keep hb5 (fun g hg=>(h.own.lt g hg).2)
    have hC3:=replace_any lo L.length ([Sp.mk s.lo (a-1) s.val]++M++[Sp.mk (b+1) t.hi t.val]:List (Sp Bool)).length i (jj+1) _ pv3 _ _ w5 hown (own_mono hl5 hlo) (fun g1 e1 e2=>absurd (h.own.lt g1 e1).2 (Nat.not_lt_of_le (Ls.lt hl5 g1 e2).1)) hijn hj2 hbyF (cellsL_one L) (cellsL_one _) (Nat.le_trans hlo hb5.size)
    rw [HRl.out,Int.natCast_succ,cellsL_take,cellsL_drop,←cellsL_append,←cellsL_append,HRR.out] at hC3
    go_wp2_with (go_at_call 196; refine hC3.mono ?_; rintro e w6 ⟨v',rfl,ho,hg6,hb6⟩; obtain ⟨hx1,hx2,hx3⟩:=after_rep (R:=RR) h hb5 ho hg6 hb6; obtain ⟨va',vc',rfl⟩:=slice_form ho)
    go_end0
    exact ⟨rfl,hx3⟩
end Go.Proofs.YtnjlajjjcmhfgaaGreatDoor.Bs
