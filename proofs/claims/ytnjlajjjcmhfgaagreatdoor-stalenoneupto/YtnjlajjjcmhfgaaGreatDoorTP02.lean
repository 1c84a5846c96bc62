import Derived.Test.YtnjlajjjcmhfgaaGreatDoorTP01
import Derived.BigRegion
import Derived.Deep.RegionHeld3
import Derived.BigQuiet
namespace Go.Proofs.YtnjlajjjcmhfgaaGreatDoor.Bs
set_option linter.unusedVariables false
def partF (f g:Int→Option Bool) (k:Int):Option Unit:=if f k=g k then none else some ()
def stretchL:List (Sp Bool)→Int→Option Bool×Int
  | [],_=>(none,18446744073709551615)
  | s::_,k=>if k<s.lo then (none,s.lo-1) else (some s.val,s.hi)
def afterL:List (Sp Bool)→Int→List (Sp Bool)
  | [],_=>[]
  | s::r,k=>if s.hi≤k then r else s::r
def Rest (A:List (Sp Bool)) (k:Int) (A':List (Sp Bool)):Prop:=(∃c u,Good c u A')∧(∀s∈A',k≤s.hi)∧∀x,k≤x→get A' x=get A x
theorem Rest.start {A:List (Sp Bool)} (h:Good 0 none A):Rest A 0 A:=⟨⟨0,none,h⟩,fun s hs=>by have:=good_lo h s hs; omega,fun _ _=>rfl⟩
theorem stretch_rng {A A':List (Sp Bool)} {k:Int} (hk:k≤18446744073709551615) (h:Rest A k A'):k≤(stretchL A' k).2∧(stretchL A' k).2≤18446744073709551615:=by
  obtain ⟨⟨c,u,hg⟩,h2,h3⟩:=h
  cases A' with
  | nil=>exact ⟨hk,Int.le_refl _⟩
  | cons s r =>
    have:=good_lo hg s (by simp)
    have:=h2 s (by simp)
    rw [stretchL]
    split
    · exact ⟨by show k≤s.lo-1; omega,by show s.lo-1≤_; omega⟩
    · exact ⟨by show k≤s.hi; omega,by show s.hi≤_; omega⟩
theorem stretch_get {A A':List (Sp Bool)} {k x:Int} (h:Rest A k A') (h1:k≤x) (h2:x≤(stretchL A' k).2):get A x=(stretchL A' k).1:=by
  obtain ⟨⟨c,u,hg⟩,h4,h3⟩:=h
  rw [←h3 x h1]
  cases A' with
  | nil=>rfl
  | cons s r =>
    have hs:=good_lo hg s (by simp)
    have hs2:=h4 s (by simp)
    rw [stretchL] at h2 ⊢
    split
    · rename_i hlt
      rw [if_pos hlt] at h2
      have h2:x≤s.lo-1:=h2
      rw [get,if_neg (by omega)]
      exact get_low hg.2.2.2.2 (by omega)
    · rename_i hlt
      rw [if_neg hlt] at h2
      have h2:x≤s.hi:=h2
      rw [get,if_pos ⟨by omega,h2⟩]
theorem Rest.after {A A':List (Sp Bool)} {k e:Int} (h:Rest A k A') (h1:k≤e) (h2:e≤(stretchL A' k).2):Rest A (e+1) (afterL A' e):=by
  obtain ⟨⟨c,u,hg⟩,h4,h3⟩:=h
  cases A' with
  | nil=>exact ⟨⟨c,u,trivial⟩,(fun s hs=>by cases hs),fun x hx=>h3 x (by omega)⟩
  | cons s r =>
    have hs:=good_lo hg s (by simp)
    have hs2:=h4 s (by simp)
    have hr:=good_lo hg.2.2.2.2
    rw [afterL]
    split
    · rename_i hle
      have hes:e≤s.hi:=by
        rw [stretchL] at h2
        split at h2
        · have h2:e≤s.lo-1:=h2
          omega
        · exact h2
      refine ⟨⟨_,_,hg.2.2.2.2⟩,(fun t ht=>by have:=hr t ht; omega),fun x hx=> ?_⟩
      rw [←h3 x (by omega),get,if_neg (by omega)]
    · rename_i hle
      refine ⟨⟨_,_,hg⟩,fun t ht=> ?_,fun x hx=>h3 x (by omega)⟩
      rcases List.mem_cons.1 ht with rfl|ht
      · omega
      · have:=hr t ht
        omega
def Told (A B:List (Sp Bool)) (k:Int) (R:List (Sp Unit)):Prop:=Good 0 none R∧(∀s∈R,s.hi<k)∧∀x,0≤x→x<k→get R x=partF (get A) (get B) x
theorem Told.start {A B:List (Sp Bool)}:Told A B 0 []:=⟨trivial,(fun s hs=>by cases hs),fun x h0 h1=>by omega⟩
theorem Told.step {A B A' B':List (Sp Bool)} {k e:Int} {R:List (Sp Unit)} (h:Told A B k R) (h0:0≤k) (hA:Rest A k A') (hB:Rest B k B') (hke:k≤e) (he:e≤18446744073709551615) (eA:e≤(stretchL A' k).2) (eB:e≤(stretchL B' k).2):Told A B (e+1) (step R k e (if (stretchL A' k).1=(stretchL B' k).1 then none else some ())):=by
  obtain ⟨g1,g2,g3⟩:=h
  obtain ⟨s1,s2,s3⟩:=step_good g1 h0 hke he g2 (if (stretchL A' k).1=(stretchL B' k).1 then none else some ())
  refine ⟨s1,s2,fun x hx hx2=> ?_⟩
  rw [s3]
  by_cases hc:k≤x
  · rw [if_pos ⟨hc,by omega⟩,partF,stretch_get hA hc (by omega),stretch_get hB hc (by omega)]
  · rw [if_neg (by omega)]
    exact g3 x hx (by omega)
def DiffIs (A B:List (Sp Bool)) (R:List (Sp Unit)):Prop:=Good 0 none R∧∀x,0≤x→x≤18446744073709551615→get R x=partF (get A) (get B) x
end Go.Proofs.YtnjlajjjcmhfgaaGreatDoor.Bs
namespace Go.Proofs.YtnjlajjjcmhfgaaGreatDoor.Bs
open Go.RowKit
set_option linter.unusedVariables false
theorem own_mono {W:World} {lo lo' n size:Nat} {e:TypeId} {v:Value} {xs:List Value} (h:W.ownsRow lo e size v n xs) (hl:lo'≤lo):W.ownsRow lo' e size v n xs:=by
  rcases row_of_own h with ⟨rfl,rfl,rfl⟩|⟨g,cap,cur,rfl,a,b,c,d,e1,f⟩
  · exact World.ownsRow_nil _ _ _ _
  · exact own_of_row b (by omega) c d e1 f
theorem step_append {P:Program} {ops:Array Oper} {o:Oper} {a:Act} {w:World} {K:Act→World→Prop} {Q:Exit→Act→World→Prop} {E:Prop}
    (hg:o.guard=none) (d x:Operand) (dT sT:TypeId) (hop:o.op=Op.call { callee:=Callee.builtin Builtin.append,args:=#[d,x],argTypes:=#[dT,sT] })
    (v u:Value) (hd:a.eval d=v) (hx:a.eval x=u) {v':Value} {w':World} (hr:(Builtin.append_ #[dT,sT] o.type #[v,u]).run P w= .ok v' w') (hK:K (a.put o.dst v') w') :
    if Region.wanted o (yielded ops a.tmps)=true then Oper.wp P o a w K Q else E:=by
  have hw:Region.wanted o (yielded ops a.tmps)=true:=by simp [Region.wanted,hg]
  rw [if_pos hw]
  unfold Oper.wp
  simp [execOp,hop,resolve,invoke,builtin,hd,hx,hr,Result.andThen]
  exact hK
theorem lists_append (w:World) (B:Nat) (lo2:Nat) (pv xv:Value) (A M:List (Sp Bool)) (h:Ls w B pv A) (hx:Ls w lo2 xv M) (hB:B≤w.heap.size) (hby:(A.length+M.length)*24≤140737488355328) :
    ∃v' w',(∀ty,(Builtin.append_ #[225,225] ty #[pv,xv]).run Tryz.prog w= .ok v' w')∧Ls w' B v' (A++M)∧w.grownBy w' pv.ownBlock:=by
  obtain ⟨inf,hi0,hz0,hzs,hzb⟩:=info_parts infoEL
  obtain ⟨v',w',hr,ho,hg,hb⟩:=append_any (P:=Tryz.prog) w 225 232 inf _ Tryz.underlying225 hi0 hz0 (by rw [hzs]; rfl) B A.length M.length pv xv (cellsL A) (cellsL M)
    (by rw [hzs]; exact h) (by rw [hzs]; exact src_of_own Tryz.underlying225 hx (cellsL_one M)) hB (by unfold maxLen; omega) (by rw [hzb]; exact hby)
  refine ⟨v',w',hr,?_,hg⟩
  rw [Ls,List.length_append,cellsL_append]
  rw [hzs] at ho
  exact ho
theorem one_list (w:World) (t:Sp Bool) (lo:Nat) (hlo:lo≤w.heap.size):Ls (w.alloc (.cells #[.int .u64 t.lo,.int .u64 t.hi,.bool t.val] 232)) lo (.slice (some ⟨w.heap.size,0,none⟩) 1 1) [t]:=by
  refine own_of_row (cur:=encS t) (heap_alloc_new w _) hlo (Nat.le_refl _) (by decide) rfl ?_
  simp [cellsL,encS]
theorem piece_append (w:World) (B:Nat) (pv:Value) (A:List (Sp Bool)) (t:Sp Bool) (h:Ls w B pv A) (hB:B≤w.heap.size) (hby:(A.length+1)*24≤140737488355328) :
    ∃v' w',(∀ty,(Builtin.append_ #[225,225] ty #[pv,.slice (some ⟨w.heap.size,0,none⟩) 1 1]).run Tryz.prog (w.alloc (.cells #[.int .u64 t.lo,.int .u64 t.hi,.bool t.val] 232)).drew= .ok v' w')∧Ls w' B v' (A++[t])∧w.grownBy w' pv.ownBlock:=by
  have h1:Below w.heap.size w (w.drew.alloc (.cells #[.int .u64 t.lo,.int .u64 t.hi,.bool t.val] 232)):=(below_alloc (W0:=w) (Below.refl _ w).drew _)
  obtain ⟨v',w',hr,ho,hg⟩:=lists_append (w.drew.alloc (.cells #[.int .u64 t.lo,.int .u64 t.hi,.bool t.val] 232)) B 0 pv (.slice (some ⟨w.heap.size,0,none⟩) 1 1) A [t] (h.keep h1 (fun g hg=>(h.lt g hg).2)) (one_list w.drew t 0 (Nat.zero_le _)) (by simp; omega) hby
  exact ⟨v',w',hr,ho,grownBy_trans (grownBy_none _ (below_grown h1)) hg⟩
theorem below_own {W0 w w':World} {v:Value} {A:List (Sp Bool)} (h:Below W0.heap.size W0 w) (hl:Ls w W0.heap.size v A) (hg:w.grownBy w' v.ownBlock):Below W0.heap.size W0 w' :=
  h.grown hg h.size (fun k hk=>(hl.lt k hk).1)
structure Turn (W W':World) (p:Nat) (v:Value):Prop where
  os:W'.os=W.os
  tape:W'.tape=W.tape
  output:W'.output=W.output
  size:W.heap.size≤W'.heap.size
  block:∀k,k<W.heap.size→k≠p→some k≠v.ownBlock→W'.heap[k]? =W.heap[k]?
theorem map_ne {W:World} {lo p:Nat} {v:Value} {L:List (Sp Bool)} (h:MapAt W lo p v L):∀g,v.ownBlock=some g→p≠g:=by
  intro g hg e
  rcases row_of_own h.own with ⟨rfl,_,_⟩|⟨g',cap,cur,rfl,a,b,_⟩
  · cases hg
  · cases hg
    have h1:=h.box
    have h2:W.heap[g']? =_:=b
    rw [show g'=p from e.symm,h1] at h2
    cases h2
theorem slice_form {W:World} {lo n size:Nat} {e:TypeId} {v:Value} {xs:List Value} (h:W.ownsRow lo e size v n xs):∃a c,v= .slice a n c:=by
  rcases row_of_own h with ⟨rfl,rfl,_⟩|⟨g,cap,cur,rfl,_⟩
  · exact ⟨_,_,rfl⟩
  · exact ⟨_,_,rfl⟩
theorem after_rep {W w5 w6:World} {lo p:Nat} {v v':Value} {L R:List (Sp Bool)} (h:MapAt W lo p v L) (hb5:Below W.heap.size W w5) (ho:Ls w6 lo v' R) (hg:w5.grownBy w6 v.ownBlock) (hb:∀g,v'.ownBlock=some g→v.ownBlock=some g∨w5.heap.size≤g) :
    w6.cell? ⟨p,0,none⟩=some v∧w6.frozen? ⟨p,0,none⟩=false∧(∃v'',(w6.setCell ⟨p,0,none⟩ v').heap[p]? =some (.cells #[v''] 227 (0,0))∧Ls (w6.setCell ⟨p,0,none⟩ v') lo v'' R∧Turn W (w6.setCell ⟨p,0,none⟩ v') p v∧(∀g,v''.ownBlock=some g→v.ownBlock=some g∨W.heap.size≤g)):=by
  have hlt:=h.lt
  have hne:=map_ne h
  have hbox:w6.heap[p]? =some (.cells #[v] 227 (0,0)):=by
    rw [hg.block p (by have:=hb5.size; omega) (fun e=>hne p e.symm rfl),hb5.block p hlt]; exact h.box
  refine ⟨by simp [World.cell?,hbox],by simp [World.frozen?,hbox],v',?_,?_,?_,fun g hg=> ?_⟩
  · rw [setCell_eq_setRow w6 p 0 #[v] 227 (0,0) v' hbox]
    exact setRow_heap w6 p _ _ 227 (0,0) hbox
  · have hnp:v'.ownBlock≠some p:=by
      intro e
      rcases hb p e with e2|e2
      · exact hne p e2 rfl
      · have:=hb5.size; omega
    rcases row_of_own ho with ⟨rfl,h1,h2⟩|⟨g,cap,cur,rfl,a,b,c,d,e,f⟩
    · rw [Ls,h1,h2]; exact World.ownsRow_nil _ _ _ _
    · refine own_of_row (g:=g) (cur:=cur) ?_ a c d e f
      show (w6.setCell _ _).heap[g]? =_
      rw [Below.heap_setCell _ _ _ _ (fun e=>hnp (by show some g=some p; rw [e]))]; exact b
  · refine ⟨hg.os.trans hb5.os,hg.tape.trans hb5.tape,hg.output.trans hb5.output,?_,fun k hk hkp hkv=> ?_⟩
    · have h1:=hb5.size
      have h2:=hg.size
      simp [World.setCell]; omega
    · rw [Below.heap_setCell _ _ _ _ hkp,hg.block k (by have:=hb5.size; omega) hkv,hb5.block k hk]
  · rcases hb g hg with e|e
    · exact .inl e
    · exact .inr (by have:=hb5.size; omega)
set_option maxHeartbeats 4000000 in
set_option maxRecDepth 100000 in
theorem replace_NN (W:World) (lo p:Nat) (v:Value) (L M:List (Sp Bool)) (a b:Int) (mv:Value) (h:MapAt W lo p v L) (hm:Ls W lo mv M)
    (hsz:(L.length+M.length+3)*24≤140737488355328) (ha:0≤a) (hab:a≤b) (hb:b≤18446744073709551615) (i j:Nat) (hi:ei L a=i) (hj:sa L b=j) (hij:i<j) (s t:Sp Bool) (hs:L[i]? =some s) (ht:L[j-1]? =some t) (hsl:¬s.lo<a) (htl:¬b<t.hi) :
    Calls Tryz.prog 144 #[.pointer (some ⟨p,0,none⟩),.int .u64 a,.int .u64 b,mv] W fun e W'=>e= .returned (.tuple #[])∧∃v',W'.heap[p]? =some (.cells #[v'] 227 (0,0))∧Ls W' lo v' (L.take i++([]++M)++L.drop j)∧Turn W W' p v∧(∀g,v'.ownBlock=some g→v.ownBlock=some g∨W.heap.size≤g):=by
  have hj2:j≤L.length:=by rw [←hj]; exact sa_le L b
  have hlt:=h.lt
  have hlo:lo≤W.heap.size:=by have:=h.low; omega
  have hC1:=ends_any W lo p _ L a h (by omega)
  rw [hi] at hC1
  have hC2:∀w1,Below W.heap.size W w1→Calls Tryz.prog 195 #[.pointer (some ⟨p,0,none⟩),.int .u64 b] w1 fun e W'=>e= .returned (.int .i64 j)∧Below W.heap.size W W':=fun w1 hb1=>(starts_any w1 lo p _ L b (h.keep hb1) (by omega)).mono (by rintro e w2 ⟨rfl,hb2⟩; exact ⟨by rw [hj],below_go hb1 hb2⟩)
  have hijn:i≤j:=by omega
  have hbyA:(([]:List (Sp Bool)).length+1)*24≤140737488355328:=by simp
  have hbyM:(([]:List (Sp Bool)).length+M.length)*24≤140737488355328:=Nat.le_trans (Nat.mul_le_mul_right _ (by simp only [List.length_nil]; omega)) hsz
  have hbyR:(([]++M:List (Sp Bool)).length+1)*24≤140737488355328:=Nat.le_trans (Nat.mul_le_mul_right _ (by simp only [List.length_append,List.length_nil]; omega)) hsz
  have hbyF:(L.length+([]++M:List (Sp Bool)).length)*24≤140737488355328:=Nat.le_trans (Nat.mul_le_mul_right _ (by simp only [List.length_append,List.length_nil]; omega)) hsz
  have hRl:i+([]++M:List (Sp Bool)).length+(L.length-j)=(L.take i++([]++M)++L.drop j).length:=by simp only [List.length_append,List.length_take,List.length_drop]; omega
  rcases h.own.view with ⟨_,rfl⟩|⟨g,cap,rfl,hg1,hg2,hcap,hcap2,hcell⟩
  · simp at hs
  have hcW:W.cell? ⟨p,0,none⟩=some (.slice (some ⟨g,0,none⟩) L.length cap):=h.cell
  have q0:=hcell i s hs 0 (by omega)
  have q2:=hcell i s hs 2 (by omega)
  simp only [encS,Nat.add_zero,List.getElem?_cons_zero,List.getElem?_cons_succ] at q0 q2
  have r1:=hcell (j-1) t ht 1 (by omega)
  have r2:=hcell (j-1) t ht 2 (by omega)
  simp only [encS,List.getElem?_cons_zero,List.getElem?_cons_succ] at r1 r2
  have hijz:(i:Int)<(j:Int):=by omega
  have hiL:(i:Int)<(L.length:Int):=by omega
  have hLg:=good_lo h.good s (List.mem_of_getElem? hs)
  have hLt:=good_lo h.good t (List.mem_of_getElem? ht)
  have hjL:(j:Int)-1<(L.length:Int):=by omega
  have hj0:(0:Int)≤(j:Int)-1:=by omega
  have hjn:((j:Int)-1).toNat=j-1:=by omega
  have hi0z:(0:Int)≤(i:Int):=by omega
  clear hcell
  generalize hRR:L.take i++([]++M)++L.drop j=RR at hRl ⊢
  have HRl:Hid (i+([]++M:List (Sp Bool)).length+(L.length-j)=RR.length):=hRl
  have HRR:Hid (L.take i++([]++M)++L.drop j=RR):=hRR
  clear hRl hRR
  go_enter Tryz.func144,Tryz.ntmps144
  go_wp2_with (first
    | (go_at_call 194; refine hC1.mono ?_; rintro e w1 ⟨rfl,hb1⟩)
    | (go_at_call 195; refine (hC2 _ hb1).mono ?_; rintro e w2 ⟨rfl,hb2⟩; obtain ⟨hcc,hff⟩:=bcell hb2)
    | (at_builtin; refine Hid.out ?_))
  obtain ⟨pv2,w4,hr4,hl4,hg4⟩:=lists_append w2 W.heap.size lo (.slice none 0 0) mv [] M (World.ownsRow_nil _ _ _ _) (hm.keep hb2 (fun g hg=>(hm.lt g hg).2)) hb2.size hbyM
  have hb4:Below W.heap.size W w4:=below_own hb2 (A:=[]) (World.ownsRow_nil _ _ _ _) hg4
  clear hcc hff
  obtain ⟨hcc,hff⟩:=bcell hb4
  refine Lib.wpList_append_run _ rfl _ _ 225 225 rfl _ _ (by rfl) (by rfl) _ _ (hr4 _) ?_
  have hown:w4.ownsRow lo 232 3 (.slice (some ⟨g,0,none⟩) L.length cap) L.length (cellsL L):=h.own.keep hb4 (fun g hg=>(h.own.lt g hg).2)
  have hC3:=replace_any lo L.length ([]++M:List (Sp Bool)).length i j _ pv2 _ _ w4 hown (own_mono hl4 hlo) (fun g1 e1 e2=>absurd (h.own.lt g1 e1).2 (Nat.not_lt_of_le (Ls.lt hl4 g1 e2).1)) hijn hj2 hbyF (cellsL_one L) (cellsL_one _) (Nat.le_trans hlo hb4.size)
  rw [HRl.out,cellsL_take,cellsL_drop,←cellsL_append,←cellsL_append,HRR.out] at hC3
  go_wp2_with (go_at_call 196; refine hC3.mono ?_; rintro e w6 ⟨v',rfl,ho,hg6,hb6⟩; obtain ⟨hx1,hx2,hx3⟩:=after_rep (R:=RR) h hb4 ho hg6 hb6; obtain ⟨va',vc',rfl⟩:=slice_form ho)
  go_end0
  exact ⟨rfl,hx3⟩
set_option maxHeartbeats 4000000 in
set_option maxRecDepth 100000 in
theorem replace_EE (W:World) (lo p:Nat) (v:Value) (L M:List (Sp Bool)) (a b:Int) (mv:Value) (h:MapAt W lo p v L) (hm:Ls W lo mv M)
    (hsz:(L.length+M.length+3)*24≤140737488355328) (ha:0≤a) (hab:a≤b) (hb:b≤18446744073709551615) (i j:Nat) (hi:ei L a=i) (hj:sa L b=j) (hij:i=j) :
    Calls Tryz.prog 144 #[.pointer (some ⟨p,0,none⟩),.int .u64 a,.int .u64 b,mv] W fun e W'=>e= .returned (.tuple #[])∧∃v',W'.heap[p]? =some (.cells #[v'] 227 (0,0))∧Ls W' lo v' (L.take i++([]++M)++L.drop i)∧Turn W W' p v∧(∀g,v'.ownBlock=some g→v.ownBlock=some g∨W.heap.size≤g):=by
  subst hij
  have hj2:i≤L.length:=by rw [←hj]; exact sa_le L b
  have hlt:=h.lt
  have hlo:lo≤W.heap.size:=by have:=h.low; omega
  have hC1:=ends_any W lo p _ L a h (by omega)
  rw [hi] at hC1
  have hC2:∀w1,Below W.heap.size W w1→Calls Tryz.prog 195 #[.pointer (some ⟨p,0,none⟩),.int .u64 b] w1 fun e W'=>e= .returned (.int .i64 i)∧Below W.heap.size W W':=fun w1 hb1=>(starts_any w1 lo p _ L b (h.keep hb1) (by omega)).mono (by rintro e w2 ⟨rfl,hb2⟩; exact ⟨by rw [hj],below_go hb1 hb2⟩)
  have hijn:i≤i:=Nat.le_refl _
  have hbyA:(([]:List (Sp Bool)).length+1)*24≤140737488355328:=by simp
  have hbyM:(([]:List (Sp Bool)).length+M.length)*24≤140737488355328:=Nat.le_trans (Nat.mul_le_mul_right _ (by simp only [List.length_nil]; omega)) hsz
  have hbyR:(([]++M:List (Sp Bool)).length+1)*24≤140737488355328:=Nat.le_trans (Nat.mul_le_mul_right _ (by simp only [List.length_append,List.length_nil]; omega)) hsz
  have hbyF:(L.length+([]++M:List (Sp Bool)).length)*24≤140737488355328:=Nat.le_trans (Nat.mul_le_mul_right _ (by simp only [List.length_append,List.length_nil]; omega)) hsz
  have hRl:i+([]++M:List (Sp Bool)).length+(L.length-i)=(L.take i++([]++M)++L.drop i).length:=by simp only [List.length_append,List.length_take,List.length_drop]; omega
  obtain ⟨va,vc,hv⟩:=slice_form h.own
  subst hv
  have hcW:W.cell? ⟨p,0,none⟩=some (.slice va L.length vc):=h.cell
  generalize hRR:L.take i++([]++M)++L.drop i=RR at hRl ⊢
  have HRl:Hid (i+([]++M:List (Sp Bool)).length+(L.length-i)=RR.length):=hRl
  have HRR:Hid (L.take i++([]++M)++L.drop i=RR):=hRR
  clear hRl hRR
  go_enter Tryz.func144,Tryz.ntmps144
  go_wp2_with (first
    | (go_at_call 194; refine hC1.mono ?_; rintro e w1 ⟨rfl,hb1⟩)
    | (go_at_call 195; refine (hC2 _ hb1).mono ?_; rintro e w2 ⟨rfl,hb2⟩; obtain ⟨hcc,hff⟩:=bcell hb2)
    | (at_builtin; refine Hid.out ?_))
  obtain ⟨pv2,w4,hr4,hl4,hg4⟩:=lists_append w2 W.heap.size lo (.slice none 0 0) mv [] M (World.ownsRow_nil _ _ _ _) (hm.keep hb2 (fun g hg=>(hm.lt g hg).2)) hb2.size hbyM
  have hb4:Below W.heap.size W w4:=below_own hb2 (A:=[]) (World.ownsRow_nil _ _ _ _) hg4
  clear hcc hff
  obtain ⟨hcc,hff⟩:=bcell hb4
  refine Lib.wpList_append_run _ rfl _ _ 225 225 rfl _ _ (by rfl) (by rfl) _ _ (hr4 _) ?_
  have hown:w4.ownsRow lo 232 3 (.slice va L.length vc) L.length (cellsL L):=h.own.keep hb4 (fun g hg=>(h.own.lt g hg).2)
  have hC3:=replace_any lo L.length ([]++M:List (Sp Bool)).length i i _ pv2 _ _ w4 hown (own_mono hl4 hlo) (fun g1 e1 e2=>absurd (h.own.lt g1 e1).2 (Nat.not_lt_of_le (Ls.lt hl4 g1 e2).1)) hijn hj2 hbyF (cellsL_one L) (cellsL_one _) (Nat.le_trans hlo hb4.size)
  rw [HRl.out,cellsL_take,cellsL_drop,←cellsL_append,←cellsL_append,HRR.out] at hC3
  go_wp2_with (go_at_call 196; refine hC3.mono ?_; rintro e w6 ⟨v',rfl,ho,hg6,hb6⟩; obtain ⟨hx1,hx2,hx3⟩:=after_rep (R:=RR) h hb4 ho hg6 hb6; obtain ⟨va',vc',rfl⟩:=slice_form ho)
  go_end0
  exact ⟨rfl,hx3⟩
end Go.Proofs.YtnjlajjjcmhfgaaGreatDoor.Bs
namespace Go.Proofs.YtnjlajjjcmhfgaaGreatDoor.Bs
open Go.RowKit
set_option linter.unusedVariables false
set_option maxHeartbeats 4000000 in
set_option maxRecDepth 100000 in
theorem replace_LL (W:World) (lo p:Nat) (v:Value) (L M:List (Sp Bool)) (a b:Int) (mv:Value) (h:MapAt W lo p v L) (hm:Ls W lo mv M)
    (hsz:(L.length+M.length+3)*24≤140737488355328) (ha:0≤a) (hab:a≤b) (hb:b≤18446744073709551615) (i jj:Nat) (hi:ei L a=i) (hj:sa L b=jj+1) (hij:i<jj+1) (s t:Sp Bool) (hs:L[i]? =some s) (ht:L[jj]? =some t) (hsl:s.lo<a) (htl:b<t.hi) :
    Calls Tryz.prog 144 #[.pointer (some ⟨p,0,none⟩),.int .u64 a,.int .u64 b,mv] W fun e W'=>e= .returned (.tuple #[])∧∃v',W'.heap[p]? =some (.cells #[v'] 227 (0,0))∧Ls W' lo v' (L.take i++([Sp.mk s.lo (a-1) s.val]++M++[Sp.mk (b+1) t.hi t.val])++L.drop (jj+1))∧Turn W W' p v∧(∀g,v'.ownBlock=some g→v.ownBlock=some g∨W.heap.size≤g):=by
  have hj2:jj+1≤L.length:=by rw [←hj]; exact sa_le L b
  have hlt:=h.lt
  have hlo:lo≤W.heap.size:=by have:=h.low; omega
  have hC1:=ends_any W lo p _ L a h (by omega)
  rw [hi] at hC1
  have hC2:∀w1,Below W.heap.size W w1→Calls Tryz.prog 195 #[.pointer (some ⟨p,0,none⟩),.int .u64 b] w1 fun e W'=>e= .returned (.int .i64 ((jj:Int)+1))∧Below W.heap.size W W':=fun w1 hb1=>(starts_any w1 lo p _ L b (h.keep hb1) (by omega)).mono (by rintro e w2 ⟨rfl,hb2⟩; exact ⟨by rw [hj,Int.natCast_succ],below_go hb1 hb2⟩)
  have hijn:i≤jj+1:=by omega
  have hbyA:(([]:List (Sp Bool)).length+1)*24≤140737488355328:=by simp
  have hbyM:(([Sp.mk s.lo (a-1) s.val]:List (Sp Bool)).length+M.length)*24≤140737488355328:=Nat.le_trans (Nat.mul_le_mul_right _ (by simp only [List.length_cons,List.length_nil]; omega)) hsz
  have hbyR:(([Sp.mk s.lo (a-1) s.val]++M:List (Sp Bool)).length+1)*24≤140737488355328:=Nat.le_trans (Nat.mul_le_mul_right _ (by simp only [List.length_append,List.length_cons,List.length_nil]; omega)) hsz
  have hbyF:(L.length+([Sp.mk s.lo (a-1) s.val]++M++[Sp.mk (b+1) t.hi t.val]:List (Sp Bool)).length)*24≤140737488355328:=Nat.le_trans (Nat.mul_le_mul_right _ (by simp only [List.length_append,List.length_cons,List.length_nil]; omega)) hsz
  have hRl:i+([Sp.mk s.lo (a-1) s.val]++M++[Sp.mk (b+1) t.hi t.val]:List (Sp Bool)).length+(L.length-(jj+1))=(L.take i++([Sp.mk s.lo (a-1) s.val]++M++[Sp.mk (b+1) t.hi t.val])++L.drop (jj+1)).length:=by simp only [List.length_append,List.length_take,List.length_drop]; omega
  rcases h.own.view with ⟨_,rfl⟩|⟨g,cap,rfl,hg1,hg2,hcap,hcap2,hcell⟩
  · simp at hs
  have hcW:W.cell? ⟨p,0,none⟩=some (.slice (some ⟨g,0,none⟩) L.length cap):=h.cell
  have q0:=hcell i s hs 0 (by omega)
  have q2:=hcell i s hs 2 (by omega)
  simp only [encS,Nat.add_zero,List.getElem?_cons_zero,List.getElem?_cons_succ] at q0 q2
  have r1:=hcell jj t ht 1 (by omega)
  have r2:=hcell jj t ht 2 (by omega)
  simp only [encS,List.getElem?_cons_zero,List.getElem?_cons_succ] at r1 r2
  have hijz:(i:Int)<(jj:Int)+1:=by omega
  have hiL:(i:Int)<(L.length:Int):=by omega
  have hLg:=good_lo h.good s (List.mem_of_getElem? hs)
  have hLt:=good_lo h.good t (List.mem_of_getElem? ht)
  have hjL:(jj:Int)<(L.length:Int):=by omega
  have hj0:(0:Int)≤(jj:Int):=by omega
  have hjs:(jj:Int)+1-1=(jj:Int):=by omega
  have hi0z:(0:Int)≤(i:Int):=by omega
  clear hcell
  have hwb:IntKind.u64.wrap (b+1)=b+1:=by rw [IntKind.wrap_u64]; omega
  have hwa:IntKind.u64.wrap (a-1)=a-1:=by rw [IntKind.wrap_u64]; omega
  have hwj:IntKind.i64.wrap (jj:Int)=(jj:Int):=by rw [IntKind.wrap_i64]; clear hwa hwb; omega
  generalize hRR:L.take i++([Sp.mk s.lo (a-1) s.val]++M++[Sp.mk (b+1) t.hi t.val])++L.drop (jj+1)=RR at hRl ⊢
  have HRl:Hid (i+([Sp.mk s.lo (a-1) s.val]++M++[Sp.mk (b+1) t.hi t.val]:List (Sp Bool)).length+(L.length-(jj+1))=RR.length):=hRl
  have HRR:Hid (L.take i++([Sp.mk s.lo (a-1) s.val]++M++[Sp.mk (b+1) t.hi t.val])++L.drop (jj+1)=RR):=hRR
  clear hRl hRR
  go_enter Tryz.func144,Tryz.ntmps144
  go_wp2_with (first
    | (go_at_call 194; refine hC1.mono ?_; rintro e w1 ⟨rfl,hb1⟩)
    | (go_at_call 195; refine (hC2 _ hb1).mono ?_; rintro e w2 ⟨rfl,hb2⟩; obtain ⟨hcc,hff⟩:=bcell hb2)
    | (at_builtin; refine Hid.out ?_))
  obtain ⟨pv1,w3,hr3,hl3,hg3⟩:=piece_append w2 W.heap.size (.slice none 0 0) [] (Sp.mk s.lo (a-1) s.val) (World.ownsRow_nil _ _ _ _) hb2.size hbyA
  have hb3:Below W.heap.size W w3:=below_own hb2 (A:=[]) (World.ownsRow_nil _ _ _ _) hg3
  dsimp only at hr3
  obtain ⟨hccn,hffn⟩:=bcell hb3
  have k0:w2.cell? ⟨p,0,none⟩=some (.slice (some ⟨g,0,none⟩) L.length cap):=by rw [hcc p 0 hlt]; exact hcW
  have k1:w2.cell? ⟨g,i*3,none⟩=some (.int .u64 s.lo):=by rw [hcc g _ hg2]; exact q0
  have k2:w2.cell? ⟨g,i*3+2,none⟩=some (.bool s.val):=by rw [hcc g _ hg2]; exact q2
  have m0:w3.cell? ⟨p,0,none⟩=some (.slice (some ⟨g,0,none⟩) L.length cap):=by rw [hccn p 0 hlt]; exact hcW
  have m1:w3.cell? ⟨g,i*3,none⟩=some (.int .u64 s.lo):=by rw [hccn g _ hg2]; exact q0
  have m2:w3.cell? ⟨g,i*3+2,none⟩=some (.bool s.val):=by rw [hccn g _ hg2]; exact q2
  have n0:=World.new_ne w2 _ k0
  have n1:=World.new_ne w2 _ k1
  have n2:=World.new_ne w2 _ k2
  clear hcc hff
  go_region_held3 (fun w'=>w'.cell? ⟨p,0,none⟩=some (.slice (some ⟨g,0,none⟩) L.length cap)∧w'.cell? ⟨g,i*3,none⟩=some (.int .u64 s.lo)∧w'.cell? ⟨g,i*3+2,none⟩=some (.bool s.val)) (first|go_keep|exact ⟨m0,m1,m2⟩)
    (refine step_append (by rfl) _ _ 225 225 (by rfl) _ _ (by simp [Act.eval]) (by simp [Act.eval]) (hr3 _) ?_)
  clear k0 n0 m0 k1 n1 m1 k2 n2 m2
  go_wp2_with (at_builtin; refine Hid.out ?_)
  obtain ⟨pv2,w4,hr4,hl4,hg4⟩:=lists_append w3 W.heap.size lo pv1 mv [Sp.mk s.lo (a-1) s.val] M hl3 (hm.keep hb3 (fun g hg=>(hm.lt g hg).2)) hb3.size hbyM
  have hb4:Below W.heap.size W w4:=below_own hb3 (A:=[Sp.mk s.lo (a-1) s.val]) hl3 hg4
  clear hccn hffn
  obtain ⟨hcc,hff⟩:=bcell hb4
  refine Lib.wpList_append_run _ rfl _ _ 225 225 rfl _ _ (by rfl) (by rfl) _ _ (hr4 _) ?_
  go_wp2
  obtain ⟨pv3,w5,hr5,hl5,hg5⟩:=piece_append w4 W.heap.size pv2 ([Sp.mk s.lo (a-1) s.val]++M) (Sp.mk (b+1) t.hi t.val) hl4 hb4.size hbyR
  have hb5:Below W.heap.size W w5:=below_own hb4 hl4 hg5
  dsimp only at hr5
  obtain ⟨hccn,hffn⟩:=bcell hb5
  have k0:w4.cell? ⟨p,0,none⟩=some (.slice (some ⟨g,0,none⟩) L.length cap):=by rw [hcc p 0 hlt]; exact hcW
  have k1:w4.cell? ⟨g,jj*3+1,none⟩=some (.int .u64 t.hi):=by rw [hcc g _ hg2]; exact r1
  have k2:w4.cell? ⟨g,jj*3+2,none⟩=some (.bool t.val):=by rw [hcc g _ hg2]; exact r2
  have m0:w5.cell? ⟨p,0,none⟩=some (.slice (some ⟨g,0,none⟩) L.length cap):=by rw [hccn p 0 hlt]; exact hcW
  have m1:w5.cell? ⟨g,jj*3+1,none⟩=some (.int .u64 t.hi):=by rw [hccn g _ hg2]; exact r1
  have m2:w5.cell? ⟨g,jj*3+2,none⟩=some (.bool t.val):=by rw [hccn g _ hg2]; exact r2
  have n0:=World.new_ne w4 _ k0
  have n1:=World.new_ne w4 _ k1
  have n2:=World.new_ne w4 _ k2
  clear hcc hff
  go_region_held3 (fun w'=>w'.cell? ⟨p,0,none⟩=some (.slice (some ⟨g,0,none⟩) L.length cap)∧w'.cell? ⟨g,jj*3+1,none⟩=some (.int .u64 t.hi)∧w'.cell? ⟨g,jj*3+2,none⟩=some (.bool t.val)) (first|go_keep|exact ⟨m0,m1,m2⟩)
    (refine step_append (by rfl) _ _ 225 225 (by rfl) _ _ (by simp [Act.eval]) (by simp [Act.eval]) (hr5 _) ?_)
  all_goals clear k0 n0 m0 k1 n1 m1 k2 n2 m2
  all_goals have hcc:=hccn
  all_goals
    have hown:w5.ownsRow lo 232 3 (.slice (some ⟨g,0,none⟩) L.length cap) L.length (cellsL L):=h.own.keep hb5 (fun g hg=>(h.own.lt g hg).2)
    have hC3:=replace_any lo L.length ([Sp.mk s.lo (a-1) s.val]++M++[Sp.mk (b+1) t.hi t.val]:List (Sp Bool)).length i (jj+1) _ pv3 _ _ w5 hown (own_mono hl5 hlo) (fun g1 e1 e2=>absurd (h.own.lt g1 e1).2 (Nat.not_lt_of_le (Ls.lt hl5 g1 e2).1)) hijn hj2 hbyF (cellsL_one L) (cellsL_one _) (Nat.le_trans hlo hb5.size)
    rw [HRl.out,Int.natCast_succ,cellsL_take,cellsL_drop,←cellsL_append,←cellsL_append,HRR.out] at hC3
    go_wp2_with (go_at_call 196; refine hC3.mono ?_; rintro e w6 ⟨v',rfl,ho,hg6,hb6⟩; obtain ⟨hx1,hx2,hx3⟩:=after_rep (R:=RR) h hb5 ho hg6 hb6; obtain ⟨va',vc',rfl⟩:=slice_form ho)
    go_end0
    exact ⟨rfl,hx3⟩
end Go.Proofs.YtnjlajjjcmhfgaaGreatDoor.Bs
namespace Go.Proofs.YtnjlajjjcmhfgaaGreatDoor.Bs
open Go.RowKit
set_option linter.unusedVariables false
set_option maxHeartbeats 4000000 in
set_option maxRecDepth 100000 in
theorem replace_LN (W:World) (lo p:Nat) (v:Value) (L M:List (Sp Bool)) (a b:Int) (mv:Value) (h:MapAt W lo p v L) (hm:Ls W lo mv M)
    (hsz:(L.length+M.length+3)*24≤140737488355328) (ha:0≤a) (hab:a≤b) (hb:b≤18446744073709551615) (i j:Nat) (hi:ei L a=i) (hj:sa L b=j) (hij:i<j) (s t:Sp Bool) (hs:L[i]? =some s) (ht:L[j-1]? =some t) (hsl:s.lo<a) (htl:¬b<t.hi) :
    Calls Tryz.prog 144 #[.pointer (some ⟨p,0,none⟩),.int .u64 a,.int .u64 b,mv] W fun e W'=>e= .returned (.tuple #[])∧∃v',W'.heap[p]? =some (.cells #[v'] 227 (0,0))∧Ls W' lo v' (L.take i++([Sp.mk s.lo (a-1) s.val]++M)++L.drop j)∧Turn W W' p v∧(∀g,v'.ownBlock=some g→v.ownBlock=some g∨W.heap.size≤g):=by
  have hj2:j≤L.length:=by rw [←hj]; exact sa_le L b
  have hlt:=h.lt
  have hlo:lo≤W.heap.size:=by have:=h.low; omega
  have hC1:=ends_any W lo p _ L a h (by omega)
  rw [hi] at hC1
  have hC2:∀w1,Below W.heap.size W w1→Calls Tryz.prog 195 #[.pointer (some ⟨p,0,none⟩),.int .u64 b] w1 fun e W'=>e= .returned (.int .i64 j)∧Below W.heap.size W W':=fun w1 hb1=>(starts_any w1 lo p _ L b (h.keep hb1) (by omega)).mono (by rintro e w2 ⟨rfl,hb2⟩; exact ⟨by rw [hj],below_go hb1 hb2⟩)
  have hijn:i≤j:=by omega
  have hbyA:(([]:List (Sp Bool)).length+1)*24≤140737488355328:=by simp
  have hbyM:(([Sp.mk s.lo (a-1) s.val]:List (Sp Bool)).length+M.length)*24≤140737488355328:=Nat.le_trans (Nat.mul_le_mul_right _ (by simp only [List.length_cons,List.length_nil]; omega)) hsz
  have hbyR:(([Sp.mk s.lo (a-1) s.val]++M:List (Sp Bool)).length+1)*24≤140737488355328:=Nat.le_trans (Nat.mul_le_mul_right _ (by simp only [List.length_append,List.length_cons,List.length_nil]; omega)) hsz
  have hbyF:(L.length+([Sp.mk s.lo (a-1) s.val]++M:List (Sp Bool)).length)*24≤140737488355328:=Nat.le_trans (Nat.mul_le_mul_right _ (by simp only [List.length_append,List.length_cons,List.length_nil]; omega)) hsz
  have hRl:i+([Sp.mk s.lo (a-1) s.val]++M:List (Sp Bool)).length+(L.length-j)=(L.take i++([Sp.mk s.lo (a-1) s.val]++M)++L.drop j).length:=by simp only [List.length_append,List.length_take,List.length_drop]; omega
  rcases h.own.view with ⟨_,rfl⟩|⟨g,cap,rfl,hg1,hg2,hcap,hcap2,hcell⟩
  · simp at hs
  have hcW:W.cell? ⟨p,0,none⟩=some (.slice (some ⟨g,0,none⟩) L.length cap):=h.cell
  have q0:=hcell i s hs 0 (by omega)
  have q2:=hcell i s hs 2 (by omega)
  simp only [encS,Nat.add_zero,List.getElem?_cons_zero,List.getElem?_cons_succ] at q0 q2
  have r1:=hcell (j-1) t ht 1 (by omega)
  have r2:=hcell (j-1) t ht 2 (by omega)
  simp only [encS,List.getElem?_cons_zero,List.getElem?_cons_succ] at r1 r2
  have hijz:(i:Int)<(j:Int):=by omega
  have hiL:(i:Int)<(L.length:Int):=by omega
  have hLg:=good_lo h.good s (List.mem_of_getElem? hs)
  have hLt:=good_lo h.good t (List.mem_of_getElem? ht)
  have hjL:(j:Int)-1<(L.length:Int):=by omega
  have hj0:(0:Int)≤(j:Int)-1:=by omega
  have hjn:((j:Int)-1).toNat=j-1:=by omega
  have hi0z:(0:Int)≤(i:Int):=by omega
  clear hcell
  have hwa:IntKind.u64.wrap (a-1)=a-1:=by rw [IntKind.wrap_u64]; omega
  generalize hRR:L.take i++([Sp.mk s.lo (a-1) s.val]++M)++L.drop j=RR at hRl ⊢
  have HRl:Hid (i+([Sp.mk s.lo (a-1) s.val]++M:List (Sp Bool)).length+(L.length-j)=RR.length):=hRl
  have HRR:Hid (L.take i++([Sp.mk s.lo (a-1) s.val]++M)++L.drop j=RR):=hRR
  clear hRl hRR
  go_enter Tryz.func144,Tryz.ntmps144
  go_wp2_with (first
    | (go_at_call 194; refine hC1.mono ?_; rintro e w1 ⟨rfl,hb1⟩)
    | (go_at_call 195; refine (hC2 _ hb1).mono ?_; rintro e w2 ⟨rfl,hb2⟩; obtain ⟨hcc,hff⟩:=bcell hb2)
    | (at_builtin; refine Hid.out ?_))
  obtain ⟨pv1,w3,hr3,hl3,hg3⟩:=piece_append w2 W.heap.size (.slice none 0 0) [] (Sp.mk s.lo (a-1) s.val) (World.ownsRow_nil _ _ _ _) hb2.size hbyA
  have hb3:Below W.heap.size W w3:=below_own hb2 (A:=[]) (World.ownsRow_nil _ _ _ _) hg3
  dsimp only at hr3
  obtain ⟨hccn,hffn⟩:=bcell hb3
  have k0:w2.cell? ⟨p,0,none⟩=some (.slice (some ⟨g,0,none⟩) L.length cap):=by rw [hcc p 0 hlt]; exact hcW
  have k1:w2.cell? ⟨g,i*3,none⟩=some (.int .u64 s.lo):=by rw [hcc g _ hg2]; exact q0
  have k2:w2.cell? ⟨g,i*3+2,none⟩=some (.bool s.val):=by rw [hcc g _ hg2]; exact q2
  have m0:w3.cell? ⟨p,0,none⟩=some (.slice (some ⟨g,0,none⟩) L.length cap):=by rw [hccn p 0 hlt]; exact hcW
  have m1:w3.cell? ⟨g,i*3,none⟩=some (.int .u64 s.lo):=by rw [hccn g _ hg2]; exact q0
  have m2:w3.cell? ⟨g,i*3+2,none⟩=some (.bool s.val):=by rw [hccn g _ hg2]; exact q2
  have n0:=World.new_ne w2 _ k0
  have n1:=World.new_ne w2 _ k1
  have n2:=World.new_ne w2 _ k2
  clear hcc hff
  go_region_held3 (fun w'=>w'.cell? ⟨p,0,none⟩=some (.slice (some ⟨g,0,none⟩) L.length cap)∧w'.cell? ⟨g,i*3,none⟩=some (.int .u64 s.lo)∧w'.cell? ⟨g,i*3+2,none⟩=some (.bool s.val)) (first|go_keep|exact ⟨m0,m1,m2⟩)
    (refine step_append (by rfl) _ _ 225 225 (by rfl) _ _ (by simp [Act.eval]) (by simp [Act.eval]) (hr3 _) ?_)
  clear k0 n0 m0 k1 n1 m1 k2 n2 m2
  go_wp2_with (at_builtin; refine Hid.out ?_)
  obtain ⟨pv2,w4,hr4,hl4,hg4⟩:=lists_append w3 W.heap.size lo pv1 mv [Sp.mk s.lo (a-1) s.val] M hl3 (hm.keep hb3 (fun g hg=>(hm.lt g hg).2)) hb3.size hbyM
  have hb4:Below W.heap.size W w4:=below_own hb3 (A:=[Sp.mk s.lo (a-1) s.val]) hl3 hg4
  clear hccn hffn
  obtain ⟨hcc,hff⟩:=bcell hb4
  refine Lib.wpList_append_run _ rfl _ _ 225 225 rfl _ _ (by rfl) (by rfl) _ _ (hr4 _) ?_
  have hown:w4.ownsRow lo 232 3 (.slice (some ⟨g,0,none⟩) L.length cap) L.length (cellsL L):=h.own.keep hb4 (fun g hg=>(h.own.lt g hg).2)
  have hC3:=replace_any lo L.length ([Sp.mk s.lo (a-1) s.val]++M:List (Sp Bool)).length i j _ pv2 _ _ w4 hown (own_mono hl4 hlo) (fun g1 e1 e2=>absurd (h.own.lt g1 e1).2 (Nat.not_lt_of_le (Ls.lt hl4 g1 e2).1)) hijn hj2 hbyF (cellsL_one L) (cellsL_one _) (Nat.le_trans hlo hb4.size)
  rw [HRl.out,cellsL_take,cellsL_drop,←cellsL_append,←cellsL_append,HRR.out] at hC3
  go_wp2_with (go_at_call 196; refine hC3.mono ?_; rintro e w6 ⟨v',rfl,ho,hg6,hb6⟩; obtain ⟨hx1,hx2,hx3⟩:=after_rep (R:=RR) h hb4 ho hg6 hb6; obtain ⟨va',vc',rfl⟩:=slice_form ho)
  go_end0
  exact ⟨rfl,hx3⟩
set_option maxHeartbeats 4000000 in
set_option maxRecDepth 100000 in
theorem replace_NL (W:World) (lo p:Nat) (v:Value) (L M:List (Sp Bool)) (a b:Int) (mv:Value) (h:MapAt W lo p v L) (hm:Ls W lo mv M)
    (hsz:(L.length+M.length+3)*24≤140737488355328) (ha:0≤a) (hab:a≤b) (hb:b≤18446744073709551615) (i jj:Nat) (hi:ei L a=i) (hj:sa L b=jj+1) (hij:i<jj+1) (s t:Sp Bool) (hs:L[i]? =some s) (ht:L[jj]? =some t) (hsl:¬s.lo<a) (htl:b<t.hi) :
    Calls Tryz.prog 144 #[.pointer (some ⟨p,0,none⟩),.int .u64 a,.int .u64 b,mv] W fun e W'=>e= .returned (.tuple #[])∧∃v',W'.heap[p]? =some (.cells #[v'] 227 (0,0))∧Ls W' lo v' (L.take i++([]++M++[Sp.mk (b+1) t.hi t.val])++L.drop (jj+1))∧Turn W W' p v∧(∀g,v'.ownBlock=some g→v.ownBlock=some g∨W.heap.size≤g):=by
  have hj2:jj+1≤L.length:=by rw [←hj]; exact sa_le L b
  have hlt:=h.lt
  have hlo:lo≤W.heap.size:=by have:=h.low; omega
  have hC1:=ends_any W lo p _ L a h (by omega)
  rw [hi] at hC1
  have hC2:∀w1,Below W.heap.size W w1→Calls Tryz.prog 195 #[.pointer (some ⟨p,0,none⟩),.int .u64 b] w1 fun e W'=>e= .returned (.int .i64 ((jj:Int)+1))∧Below W.heap.size W W':=fun w1 hb1=>(starts_any w1 lo p _ L b (h.keep hb1) (by omega)).mono (by rintro e w2 ⟨rfl,hb2⟩; exact ⟨by rw [hj,Int.natCast_succ],below_go hb1 hb2⟩)
  have hijn:i≤jj+1:=by omega
  have hbyA:(([]:List (Sp Bool)).length+1)*24≤140737488355328:=by simp
  have hbyM:(([]:List (Sp Bool)).length+M.length)*24≤140737488355328:=Nat.le_trans (Nat.mul_le_mul_right _ (by simp only [List.length_nil]; omega)) hsz
  have hbyR:(([]++M:List (Sp Bool)).length+1)*24≤140737488355328:=Nat.le_trans (Nat.mul_le_mul_right _ (by simp only [List.length_append,List.length_nil]; omega)) hsz
  have hbyF:(L.length+([]++M++[Sp.mk (b+1) t.hi t.val]:List (Sp Bool)).length)*24≤140737488355328:=Nat.le_trans (Nat.mul_le_mul_right _ (by simp only [List.length_append,List.length_cons,List.length_nil]; omega)) hsz
  have hRl:i+([]++M++[Sp.mk (b+1) t.hi t.val]:List (Sp Bool)).length+(L.length-(jj+1))=(L.take i++([]++M++[Sp.mk (b+1) t.hi t.val])++L.drop (jj+1)).length:=by simp only [List.length_append,List.length_take,List.length_drop]; omega
  rcases h.own.view with ⟨_,rfl⟩|⟨g,cap,rfl,hg1,hg2,hcap,hcap2,hcell⟩
  · simp at hs
  have hcW:W.cell? ⟨p,0,none⟩=some (.slice (some ⟨g,0,none⟩) L.length cap):=h.cell
  have q0:=hcell i s hs 0 (by omega)
  have q2:=hcell i s hs 2 (by omega)
  simp only [encS,Nat.add_zero,List.getElem?_cons_zero,List.getElem?_cons_succ] at q0 q2
  have r1:=hcell jj t ht 1 (by omega)
  have r2:=hcell jj t ht 2 (by omega)
  simp only [encS,List.getElem?_cons_zero,List.getElem?_cons_succ] at r1 r2
  have hijz:(i:Int)<(jj:Int)+1:=by omega
  have hiL:(i:Int)<(L.length:Int):=by omega
  have hLg:=good_lo h.good s (List.mem_of_getElem? hs)
  have hLt:=good_lo h.good t (List.mem_of_getElem? ht)
  have hjL:(jj:Int)<(L.length:Int):=by omega
  have hj0:(0:Int)≤(jj:Int):=by omega
  have hjs:(jj:Int)+1-1=(jj:Int):=by omega
  have hi0z:(0:Int)≤(i:Int):=by omega
  clear hcell
  have hwb:IntKind.u64.wrap (b+1)=b+1:=by rw [IntKind.wrap_u64]; omega
  have hwj:IntKind.i64.wrap (jj:Int)=(jj:Int):=by rw [IntKind.wrap_i64]; clear hwb; omega
  generalize hRR:L.take i++([]++M++[Sp.mk (b+1) t.hi t.val])++L.drop (jj+1)=RR at hRl ⊢
  have HRl:Hid (i+([]++M++[Sp.mk (b+1) t.hi t.val]:List (Sp Bool)).length+(L.length-(jj+1))=RR.length):=hRl
  have HRR:Hid (L.take i++([]++M++[Sp.mk (b+1) t.hi t.val])++L.drop (jj+1)=RR):=hRR
  clear hRl hRR
  go_enter Tryz.func144,Tryz.ntmps144
  go_wp2_with (first
    | (go_at_call 194; refine hC1.mono ?_; rintro e w1 ⟨rfl,hb1⟩)
    | (go_at_call 195; refine (hC2 _ hb1).mono ?_; rintro e w2 ⟨rfl,hb2⟩; obtain ⟨hcc,hff⟩:=bcell hb2)
    | (at_builtin; refine Hid.out ?_))
  obtain ⟨pv2,w4,hr4,hl4,hg4⟩:=lists_append w2 W.heap.size lo (.slice none 0 0) mv [] M (World.ownsRow_nil _ _ _ _) (hm.keep hb2 (fun g hg=>(hm.lt g hg).2)) hb2.size hbyM
  have hb4:Below W.heap.size W w4:=below_own hb2 (A:=[]) (World.ownsRow_nil _ _ _ _) hg4
  clear hcc hff
  obtain ⟨hcc,hff⟩:=bcell hb4
  refine Lib.wpList_append_run _ rfl _ _ 225 225 rfl _ _ (by rfl) (by rfl) _ _ (hr4 _) ?_
  go_wp2
  obtain ⟨pv3,w5,hr5,hl5,hg5⟩:=piece_append w4 W.heap.size pv2 ([]++M) (Sp.mk (b+1) t.hi t.val) hl4 hb4.size hbyR
  have hb5:Below W.heap.size W w5:=below_own hb4 hl4 hg5
  dsimp only at hr5
  obtain ⟨hccn,hffn⟩:=bcell hb5
  have k0:w4.cell? ⟨p,0,none⟩=some (.slice (some ⟨g,0,none⟩) L.length cap):=by rw [hcc p 0 hlt]; exact hcW
  have k1:w4.cell? ⟨g,jj*3+1,none⟩=some (.int .u64 t.hi):=by rw [hcc g _ hg2]; exact r1
  have k2:w4.cell? ⟨g,jj*3+2,none⟩=some (.bool t.val):=by rw [hcc g _ hg2]; exact r2
  have m0:w5.cell? ⟨p,0,none⟩=some (.slice (some ⟨g,0,none⟩) L.length cap):=by rw [hccn p 0 hlt]; exact hcW
  have m1:w5.cell? ⟨g,jj*3+1,none⟩=some (.int .u64 t.hi):=by rw [hccn g _ hg2]; exact r1
  have m2:w5.cell? ⟨g,jj*3+2,none⟩=some (.bool t.val):=by rw [hccn g _ hg2]; exact r2
  have n0:=World.new_ne w4 _ k0
  have n1:=World.new_ne w4 _ k1
  have n2:=World.new_ne w4 _ k2
  clear hcc hff
  go_region_held3 (fun w'=>w'.cell? ⟨p,0,none⟩=some (.slice (some ⟨g,0,none⟩) L.length cap)∧w'.cell? ⟨g,jj*3+1,none⟩=some (.int .u64 t.hi)∧w'.cell? ⟨g,jj*3+2,none⟩=some (.bool t.val)) (first|go_keep|exact ⟨m0,m1,m2⟩)
    (refine step_append (by rfl) _ _ 225 225 (by rfl) _ _ (by simp [Act.eval]) (by simp [Act.eval]) (hr5 _) ?_)
  all_goals clear k0 n0 m0 k1 n1 m1 k2 n2 m2
  all_goals have hcc:=hccn
  all_goals
    have hown:w5.ownsRow lo 232 3 (.slice (some ⟨g,0,none⟩) L.length cap) L.length (cellsL L):=h.own.keep hb5 (fun g hg=>(h.own.lt g hg).2)
    have hC3:=replace_any lo L.length ([]++M++[Sp.mk (b+1) t.hi t.val]:List (Sp Bool)).length i (jj+1) _ pv3 _ _ w5 hown (own_mono hl5 hlo) (fun g1 e1 e2=>absurd (h.own.lt g1 e1).2 (Nat.not_lt_of_le (Ls.lt hl5 g1 e2).1)) hijn hj2 hbyF (cellsL_one L) (cellsL_one _) (Nat.le_trans hlo hb5.size)
    rw [HRl.out,Int.natCast_succ,cellsL_take,cellsL_drop,←cellsL_append,←cellsL_append,HRR.out] at hC3
    go_wp2_with (go_at_call 196; refine hC3.mono ?_; rintro e w6 ⟨v',rfl,ho,hg6,hb6⟩; obtain ⟨hx1,hx2,hx3⟩:=after_rep (R:=RR) h hb5 ho hg6 hb6; obtain ⟨va',vc',rfl⟩:=slice_form ho)
    go_end0
    exact ⟨rfl,hx3⟩
end Go.Proofs.YtnjlajjjcmhfgaaGreatDoor.Bs
namespace Go.Proofs.YtnjlajjjcmhfgaaGreatDoor.Bs
open Go.RowKit
set_option linter.unusedVariables false
theorem Turn.after {W w W':World} {p:Nat} {v:Value} (h:Below W.heap.size W w) (t:Turn w W' p v):Turn W W' p v :=
  ⟨t.os.trans h.os,t.tape.trans h.tape,t.output.trans h.output,Nat.le_trans h.size t.size,fun k hk h1 h2=>(t.block k (Nat.lt_of_lt_of_le hk h.size) h1 h2).trans (h.block k hk)⟩
theorem Turn.refl (W:World) (p:Nat) (v:Value):Turn W W p v:=⟨rfl,rfl,rfl,Nat.le_refl _,fun _ _ _ _=>rfl⟩
theorem repl_any (W:World) (lo p:Nat) (v:Value) (L M:List (Sp Bool)) (a b:Int) (mv:Value) (h:MapAt W lo p v L) (hm:Ls W lo mv M)
    (hsz:(L.length+M.length+3)*24≤140737488355328) (ha:0≤a) (hab:a≤b) (hb:b≤18446744073709551615) :
    Calls Tryz.prog 144 #[.pointer (some ⟨p,0,none⟩),.int .u64 a,.int .u64 b,mv] W fun e W'=>e= .returned (.tuple #[])∧∃v',W'.heap[p]? =some (.cells #[v'] 227 (0,0))∧Ls W' lo v' (below L a++M++above L b)∧Turn W W' p v∧(∀g,v'.ownBlock=some g→v.ownBlock=some g∨W.heap.size≤g):=by
  have hg:=h.good
  have hB:=below_take hg a
  have hA:=above_drop hg b
  have hle:=ei_le_sa hg (lo:=a) (hi:=b) (by omega)
  have hjl:=sa_le L b
  rcases Nat.lt_or_ge (ei L a) (sa L b) with hij|hij
  · obtain ⟨s,hs⟩:∃s,L[ei L a]? =some s:=⟨_,List.getElem?_eq_getElem (by omega)⟩
    obtain ⟨t,ht⟩:∃t,L[sa L b-1]? =some t:=⟨_,List.getElem?_eq_getElem (by omega)⟩
    have eA:cutHi L (sa L b) b=if b<t.hi then [⟨b+1,t.hi,t.val⟩] else []:=by
      obtain ⟨q,hq⟩:∃q,sa L b=q+1:=⟨sa L b-1,by omega⟩
      rw [hq] at ht ⊢
      simp only [Nat.add_sub_cancel] at ht
      simp only [cutHi,ht]
    have eB:cutLo L (ei L a) a=if s.lo<a then [⟨s.lo,a-1,s.val⟩] else []:=by simp only [cutLo,hs]
    rw [eA] at hA
    rw [eB] at hB
    by_cases hsl:s.lo<a <;>by_cases htl:b<t.hi
    · rw [if_pos hsl] at hB
      rw [if_pos htl] at hA
      rw [←hB,←hA]
      refine (replace_LL W lo p v L M a b mv h hm hsz ha hab hb _ (sa L b-1) rfl (by omega) (by omega) s t hs ht hsl htl).mono ?_
      rintro e W' ⟨rfl,v',h1,h2,h3,h4⟩
      rw [show sa L b-1+1=sa L b by omega] at h2
      exact ⟨rfl,v',h1,by simpa using h2,h3,h4⟩
    · rw [if_pos hsl] at hB
      rw [if_neg htl] at hA
      rw [←hB,←hA]
      refine (replace_LN W lo p v L M a b mv h hm hsz ha hab hb _ _ rfl rfl hij s t hs ht hsl htl).mono ?_
      rintro e W' ⟨rfl,v',h1,h2,h3,h4⟩
      exact ⟨rfl,v',h1,by simpa using h2,h3,h4⟩
    · rw [if_neg hsl] at hB
      rw [if_pos htl] at hA
      rw [←hB,←hA]
      refine (replace_NL W lo p v L M a b mv h hm hsz ha hab hb _ (sa L b-1) rfl (by omega) (by omega) s t hs ht hsl htl).mono ?_
      rintro e W' ⟨rfl,v',h1,h2,h3,h4⟩
      rw [show sa L b-1+1=sa L b by omega] at h2
      exact ⟨rfl,v',h1,by simpa using h2,h3,h4⟩
    · rw [if_neg hsl] at hB
      rw [if_neg htl] at hA
      rw [←hB,←hA]
      refine (replace_NN W lo p v L M a b mv h hm hsz ha hab hb _ _ rfl rfl hij s t hs ht hsl htl).mono ?_
      rintro e W' ⟨rfl,v',h1,h2,h3,h4⟩
      exact ⟨rfl,v',h1,by simpa using h2,h3,h4⟩
  · have hij:ei L a=sa L b:=by omega
    have eB:cutLo L (ei L a) a=[]:=by
      cases hs:L[ei L a]? with
      | none=>simp only [cutLo,hs]
      | some s =>
        by_cases hsl:s.lo<a
        · have:=cutLo_prog hg hab hs hsl
          omega
        · simp only [cutLo,hs,if_neg hsl]
    have eA:cutHi L (sa L b) b=[]:=by
      cases hq:sa L b with
      | zero=>rfl
      | succ q =>
        cases ht:L[q]? with
        | none=>simp only [cutHi,ht]
        | some t =>
          by_cases htl:b<t.hi
          · have:=cutHi_prog hg hab hq ht htl
            omega
          · simp only [cutHi,ht,if_neg htl]
    rw [eB] at hB
    rw [eA] at hA
    rw [←hB,←hA]
    refine (replace_EE W lo p v L M a b mv h hm hsz ha hab hb _ _ rfl rfl hij).mono ?_
    rintro e W' ⟨rfl,v',h1,h2,h3,h4⟩
    exact ⟨rfl,v',h1,by rw [←hij]; simpa using h2,h3,h4⟩
def errC (a b:Int):Int:=if a≤b then 0 else 20
def setR (L:List (Sp Bool)) (a b:Int) (x:Bool):List (Sp Bool):=if a≤b then setL L a b x else L
set_option maxHeartbeats 4000000 in
set_option maxRecDepth 100000 in
theorem set_any (W:World) (lo p:Nat) (v:Value) (L:List (Sp Bool)) (a b:Int) (x:Bool) (h:MapAt W lo p v L) (hsz:(L.length+4)*24≤140737488355328) (ha:0≤a) (hb:b≤18446744073709551615) :
    Calls Tryz.prog 106 #[.pointer (some ⟨p,0,none⟩),.int .u64 a,.int .u64 b,.bool x] W fun e W'=>e= .returned (.int .i64 (errC a b))∧∃v',MapAt W' lo p v' (setR L a b x)∧Turn W W' p v∧(∀g,v'.ownBlock=some g→v.ownBlock=some g∨W.heap.size≤g):=by
  by_cases hab:a≤b
  · rw [errC,if_pos hab,setR,if_pos hab]
    have hsz':L.length<4611686018427387904:=by omega
    have hC1:=widen_any W lo p v L a b x h hsz' ha hb (by omega) (by omega)
    have hgo:=setL_good h.good ha hab hb x
    obtain ⟨a1,a2,a3,a4⟩:=widLo_spec h.good ha x
    obtain ⟨b1,b2,b3,b4⟩:=widHi_spec h.good hb x
    clear a3 a4 b3 b4
    have hww:widLo L a x≤widHi L b x:=by omega
    have hlow:=h.low
    have hlt:=h.lt
    have hlo:lo≤W.heap.size:=by omega
    have hszm:(L.length+([Sp.mk (widLo L a x) (widHi L b x) x]:List (Sp Bool)).length+3)*24≤140737488355328:=Nat.le_trans (Nat.mul_le_mul_right _ (by simp only [List.length_cons,List.length_nil]; omega)) hsz
    have hab':¬(b<a):=by omega
    have hC2:∀w1,Below W.heap.size W w1→Calls Tryz.prog 144 #[.pointer (some ⟨p,0,none⟩),.int .u64 (widLo L a x),.int .u64 (widHi L b x),.slice (some ⟨w1.heap.size,0,none⟩) 1 1] (w1.alloc (.cells #[.int .u64 (widLo L a x),.int .u64 (widHi L b x),.bool x] 232)) fun e W'=>e= .returned (.tuple #[])∧∃v',MapAt W' lo p v' (setL L a b x)∧Turn W W' p v∧(∀g,v'.ownBlock=some g→v.ownBlock=some g∨W.heap.size≤g):=by
      intro w1 hb1
      have hb2:=below_alloc hb1 (.cells #[.int .u64 (widLo L a x),.int .u64 (widHi L b x),.bool x] 232)
      refine (repl_any _ lo p v L [⟨widLo L a x,widHi L b x,x⟩] _ _ _ (h.keep hb2) (one_list w1 ⟨widLo L a x,widHi L b x,x⟩ lo (Nat.le_trans hlo hb1.size)) hszm a1 hww b1).mono ?_
      rintro e w2 ⟨rfl,v',h1,h2,h3,h4⟩
      refine ⟨rfl,v',⟨h1,by simpa [setL,putL] using h2,hlow,hgo⟩,h3.after hb2,fun g hg=> ?_⟩
      rcases h4 g hg with e|e
      · exact .inl e
      · exact .inr (Nat.le_trans hb2.size e)
    generalize widLo L a x=wl at *
    generalize widHi L b x=wh at *
    go_enter Tryz.func106,Tryz.ntmps106
    go_wp2_with (first
      | (go_at_call 143; refine hC1.mono ?_; rintro e w1 ⟨rfl,hb1⟩)
      | (go_at_call 144; refine (hC2 _ hb1).mono ?_; rintro e w2 ⟨rfl,hq⟩))
    go_ret
    exact ⟨rfl,hq⟩
  · rw [errC,if_neg hab,setR,if_neg hab]
    have hab':b<a:=by omega
    go_enter Tryz.func106,Tryz.ntmps106
    go_wp2
    go_ret
    exact ⟨rfl,v,h,Turn.refl _ _ _,fun g hg=> .inl hg⟩
end Go.Proofs.YtnjlajjjcmhfgaaGreatDoor.Bs
namespace Go.Proofs.YtnjlajjjcmhfgaaGreatDoor.Bs
open Go.RowKit
set_option linter.unusedVariables false
theorem cat_len {α:Type} (enc:α→List Value) (K:Nat) (hK:∀x,(enc x).length=K) (L:List α):(L.flatMap enc).length=L.length*K:=by
  induction L with
  | nil=>simp
  | cons s r ih=>rw [List.flatMap_cons,List.length_append,hK,ih,List.length_cons,Nat.add_mul,Nat.one_mul,Nat.add_comm]
theorem cat_at {α:Type} (enc:α→List Value) (K:Nat) (hK:∀x,(enc x).length=K) {L:List α} {i:Nat} {s:α} (h:L[i]? =some s) (j:Nat) (hj:j<K):(L.flatMap enc)[i*K+j]? =(enc s)[j]? :=by
  induction L generalizing i with
  | nil=>simp at h
  | cons t r ih =>
    rw [List.flatMap_cons]
    cases i with
    | zero =>
      simp at h
      subst h
      rw [Nat.zero_mul,Nat.zero_add,List.getElem?_append_left (by rw [hK]; exact hj)]
    | succ i =>
      rw [List.getElem?_append_right (by rw [hK,Nat.add_mul]; omega),hK,show (i+1)*K+j-K=i*K+j by rw [Nat.add_mul]; omega]
      exact ih (by simpa using h)
theorem row_keep {W W':World} {lo n size:Nat} {e:TypeId} {v:Value} {xs:List Value} (h:W.ownsRow lo e size v n xs) (hB:Below W.heap.size W W'):W'.ownsRow lo e size v n xs:=by
  rcases row_of_own h with ⟨rfl,rfl,rfl⟩|⟨g,cap,cur,rfl,a,b,c,d,e1,f⟩
  · exact World.ownsRow_nil _ _ _ _
  · refine own_of_row (g:=g) (cur:=cur) ?_ a c d e1 f
    show W'.heap[g]? =_
    rw [hB.block g b.lt]; exact b
def encR (s:Sp Unit):List Value:=[.int .u64 s.lo,.int .u64 s.hi]
def cellsR (L:List (Sp Unit)):List Value:=L.flatMap encR
theorem cellsR_append (A B:List (Sp Unit)):cellsR (A++B)=cellsR A++cellsR B:=by simp [cellsR]
theorem infoRoom:(Tryz.prog.info? 95).map (fun i=>(i.zero,i.size,i.bytes))=some (some (.agg #[.int .u64 0,.int .u64 0]),2,16):=by kernel_rfl
def Lm (W:World) (lo:Nat) (v:Value) (L:List (Sp Unit)):Prop:=W.ownsRow lo 95 2 v L.length (cellsR L)
theorem lm_append (w:World) (q B:Nat) (pv:Value) (A:List (Sp Unit)) (t:Sp Unit) (h:Lm w B pv A) (hB:B≤w.heap.size) (hby:A.length≤9000000) :
    ∃v' w',(∀ty,(Builtin.append_ #[92,92] ty #[pv,.slice (some ⟨w.heap.size,0,none⟩) 1 1]).run Tryz.prog ((w.alloc (.cells #[.int .u64 t.lo,.int .u64 t.hi] 95)).drewN q)= .ok v' w')∧Lm w' B v' (A++[t])∧w.grownBy w' pv.ownBlock:=by
  obtain ⟨inf,hi0,hz0,hzs,hzb⟩:=info_parts infoRoom
  have h1:Below w.heap.size w ((w.alloc (.cells #[.int .u64 t.lo,.int .u64 t.hi] 95)).drewN q):=below_go (below_alloc (Below.refl _ w) _) (grown_below (grownBy_drewN _ none q))
  have ho1:((w.alloc (.cells #[.int .u64 t.lo,.int .u64 t.hi] 95)).drewN q).ownsRow 0 95 2 (.slice (some ⟨w.heap.size,0,none⟩) 1 1) 1 (encR t) :=
    own_of_row (cur:=encR t) (heap_alloc_new w _) (Nat.zero_le _) (Nat.le_refl _) (by decide) rfl rfl
  obtain ⟨v',w',hr,ho,hg,hb⟩:=append_any (P:=Tryz.prog) ((w.alloc (.cells #[.int .u64 t.lo,.int .u64 t.hi] 95)).drewN q) 92 95 inf _ Tryz.underlying92 hi0 hz0 (by rw [hzs]; rfl) B A.length 1 pv (.slice (some ⟨w.heap.size,0,none⟩) 1 1) (cellsR A) (encR t)
    (by rw [hzs]; exact row_keep h h1) (by rw [hzs]; exact src_of_own Tryz.underlying92 ho1 (by intro u hu; simp [encR] at hu; rcases hu with rfl|rfl <;>rfl)) (Nat.le_trans hB h1.size) (by unfold maxLen; omega) (by rw [hzb]; omega)
  refine ⟨v',w',hr,?_,grownBy_trans (grownBy_none _ (below_grown h1)) hg⟩
  rw [hzs] at ho
  rw [Lm,List.length_append,cellsR_append]
  simpa [cellsR] using ho
theorem Lm.view {W:World} {lo:Nat} {v:Value} {L:List (Sp Unit)} (h:Lm W lo v L):∃a cap,v= .slice a L.length cap∧∀i s,L[i]? =some s→∃g,a=some ⟨g,0,none⟩∧lo≤g∧g<W.heap.size∧W.cell? ⟨g,i*2,none⟩=some (.int .u64 s.lo)∧W.cell? ⟨g,i*2+1,none⟩=some (.int .u64 s.hi)∧W.frozen? ⟨g,i*2+1,none⟩=false:=by
  rcases row_of_own h with ⟨rfl,h1,h2⟩|⟨g,cap,cur,rfl,a,b,c,d,e,f⟩
  · refine ⟨none,0,by rw [h1],fun i x hx=> ?_⟩
    have:L=[]:=List.eq_nil_of_length_eq_zero h1
    rw [this] at hx
    simp at hx
  · refine ⟨some ⟨g,0,none⟩,cap,rfl,fun i x hx=>⟨g,rfl,a,b.lt,?_⟩⟩
    have hlt:i<L.length:=(List.getElem?_eq_some_iff.1 hx).1
    have hc:∀j,j<2→W.cell? ⟨g,i*2+j,none⟩=(encR x)[j]? :=fun j hj=>by
      rw [World.ownsRow.cellAt h (i*2+j) (by omega)]
      exact cat_at encR 2 (fun _=>rfl) hx j hj
    exact ⟨hc 0 (by omega),hc 1 (by omega),b.frozen _⟩
theorem Lm.set {W:World} {lo g cap:Nat} {A:List (Sp Unit)} {t:Sp Unit} (h:Lm W lo (.slice (some ⟨g,0,none⟩) (A++[t]).length cap) (A++[t])) (e:Int) :
    Lm (W.setCell ⟨g,A.length*2+1,none⟩ (.int .u64 e)) lo (.slice (some ⟨g,0,none⟩) (A++[t]).length cap) (A++[⟨t.lo,e,t.val⟩]):=by
  have h1:=(World.ownsRow.stored h (A.length*2+1) (.int .u64 e)).1
  have hl:(A++[⟨t.lo,e,t.val⟩]:List (Sp Unit)).length=(A++[t]).length:=by simp
  rw [Lm,hl]
  have hc:cellsR (A++[⟨t.lo,e,t.val⟩])=(cellsR (A++[t])).set (A.length*2+1) (.int .u64 e):=by
    rw [cellsR_append,cellsR_append,List.set_append_right _ _ (by rw [show (cellsR A).length=A.length*2 from cat_len encR 2 (fun _=>rfl) A]; omega),show (cellsR A).length=A.length*2 from cat_len encR 2 (fun _=>rfl) A,show A.length*2+1-A.length*2=1 by omega]
    simp [cellsR,encR]
  rw [hc]
  exact h1
end Go.Proofs.YtnjlajjjcmhfgaaGreatDoor.Bs
namespace Go.Proofs.YtnjlajjjcmhfgaaGreatDoor.Bs
open Go.RowKit
set_option linter.unusedVariables false
def Tl (W:World) (v:Value) (L:List (Sp Bool)):Prop:=∃a cap,v= .slice a L.length cap∧L.length≤cap∧cap≤9223372036854775807∧∀i s,L[i]? =some s→∃g off,a=some ⟨g,off,none⟩∧g<W.heap.size∧W.cell? ⟨g,off+i*3,none⟩=some (.int .u64 s.lo)∧W.cell? ⟨g,off+i*3+1,none⟩=some (.int .u64 s.hi)∧W.cell? ⟨g,off+i*3+2,none⟩=some (.bool s.val)
theorem Tl.keep {W W':World} {v:Value} {L:List (Sp Bool)} (h:Tl W v L) (hb:Below W.heap.size W W'):Tl W' v L:=by
  obtain ⟨a,cap,h1,h2,h3,h4⟩:=h
  refine ⟨a,cap,h1,h2,h3,fun i s hs=> ?_⟩
  obtain ⟨g,off,q1,q2,q3,q4,q5⟩:=h4 i s hs
  obtain ⟨hc,_⟩:=bcell hb
  exact ⟨g,off,q1,Nat.lt_of_lt_of_le q2 hb.size,by rw [hc _ _ q2]; exact q3,by rw [hc _ _ q2]; exact q4,by rw [hc _ _ q2]; exact q5⟩
theorem Ls.tl {W:World} {lo:Nat} {v:Value} {L:List (Sp Bool)} (h:Ls W lo v L):Tl W v L:=by
  rcases h.view with ⟨h1,h2⟩|⟨g,cap,h1,h2,h3,h4,h5,h6⟩
  · subst h1 h2
    exact ⟨none,0,rfl,Nat.le_refl _,by decide,fun i s hs=>by simp at hs⟩
  · refine ⟨_,cap,h1,h4,by omega,fun i s hs=>⟨g,0,rfl,h3,?_⟩⟩
    have q0:=h6 i s hs 0 (by omega)
    have q1:=h6 i s hs 1 (by omega)
    have q2:=h6 i s hs 2 (by omega)
    simp only [encS,Nat.add_zero,List.getElem?_cons_zero,List.getElem?_cons_succ] at q0 q1 q2
    simp only [Nat.zero_add]
    exact ⟨q0,q1,q2⟩
def PM (W:World) (x:Option Addr) (L:List (Sp Bool)):Prop:=(x=none∧L=[])∨∃lo p v,x=some ⟨p,0,none⟩∧MapAt W lo p v L
theorem MapAt.pm {W:World} {lo p:Nat} {v:Value} {L:List (Sp Bool)} (h:MapAt W lo p v L):PM W (some ⟨p,0,none⟩) L:= .inr ⟨lo,p,v,rfl,h⟩
theorem PM.good {W:World} {x:Option Addr} {L:List (Sp Bool)} (h:PM W x L):Good 0 none L:=by
  rcases h with ⟨_,rfl⟩|⟨lo,p,v,e,h⟩
  · trivial
  · exact h.good
set_option maxHeartbeats 1000000 in
theorem list_any (W:World) (x:Option Addr) (L:List (Sp Bool)) (h:PM W x L) :
    Calls Tryz.prog 145 #[.pointer x] W fun e W'=>∃v,e= .returned v∧Tl W v L∧W=W':=by
  rcases h with ⟨rfl,rfl⟩|⟨lo,p,v,rfl,h⟩
  · go_enter Tryz.func145,Tryz.ntmps145
    go_wp2
    go_ret
    exact ⟨_,rfl,⟨none,0,rfl,Nat.le_refl _,by decide,fun i s hs=>by simp at hs⟩,rfl⟩
  · have hc:=h.cell
    have ht:=h.own.tl
    obtain ⟨a,cap,rfl⟩:=slice_form h.own
    clear h
    go_enter Tryz.func145,Tryz.ntmps145
    go_wp2
    go_ret
    exact ⟨_,rfl,ht,rfl⟩
def strV (r:Option Bool×Int):Value:= .tuple #[.bool (r.1.getD false),.bool r.1.isSome,.int .u64 r.2]
set_option maxHeartbeats 2000000 in
theorem stretch_any (W:World) (v:Value) (L:List (Sp Bool)) (k:Int) (h:Tl W v L) (hk:0≤k) (hg:∃c u,Good c u L) :
    Calls Tryz.prog 146 #[v,.int .u64 k] W fun e W'=>e= .returned (strV (stretchL L k))∧Below W.heap.size W W':=by
  obtain ⟨a,cap,rfl,h2,h3,h4⟩:=h
  cases L with
  | nil =>
    simp only [List.length_nil] at *
    clear h4
    go_enter Tryz.func146,Tryz.ntmps146
    go_wp2
    refine bodyPost_ret (v:= .tuple #[.bool false,.bool false,.int .u64 18446744073709551615]) (by simp [results,Tryz.results146,go_sem]) rfl ⟨rfl,Below.refl _ _⟩
  | cons s r =>
    obtain ⟨g,off,rfl,q1,q2,q3,q4⟩:=h4 0 s rfl
    obtain ⟨c,u,hg⟩:=hg
    have hs:=good_lo hg s (by simp)
    have hl0:¬(((s::r).length:Int)=0):=by simp; omega
    have hl1:(0:Int)<((s::r).length:Int):=by simp
    simp only [Nat.zero_mul,Nat.add_zero] at q2 q3 q4
    clear h4
    generalize (s::r).length=n at *
    rw [stretchL]
    by_cases hlt:k<s.lo
    · rw [if_pos hlt]
      have hs1:0≤s.lo-1:=by omega
      have hs2:s.lo-1≤18446744073709551615:=by omega
      have hwt:IntKind.u64.wrap (s.lo-1)=s.lo-1:=by rw [IntKind.wrap_u64]; omega
      clear hg
      go_enter Tryz.func146,Tryz.ntmps146
      go_wp2
      go_quiet (fail)
      go_wp2
      refine bodyPost_ret (v:= .tuple #[.bool false,.bool false,.int .u64 (s.lo-1)]) (by simp [results,Tryz.results146,go_sem]) rfl ⟨rfl,grown_below (grownBy_drewN W none _)⟩
    · rw [if_neg hlt]
      clear hg
      go_enter Tryz.func146,Tryz.ntmps146
      go_wp2
      go_quiet (fail)
      go_wp2
      refine bodyPost_ret (v:= .tuple #[.bool s.val,.bool true,.int .u64 s.hi]) (by simp [results,Tryz.results146,go_sem]) rfl ⟨rfl,grown_below (grownBy_drewN W none _)⟩
set_option maxHeartbeats 2000000 in
theorem after_any (W0 W:World) (v:Value) (L:List (Sp Bool)) (k:Int) (h:Tl W0 v L) (hb:Below W0.heap.size W0 W) :
    Calls Tryz.prog 149 #[v,.int .u64 k] W fun e W'=>∃v',e= .returned v'∧Tl W0 v' (afterL L k)∧W=W':=by
  have ht:=h
  obtain ⟨a,cap,rfl,h2,h3,h4⟩:=h
  cases L with
  | nil =>
    simp only [List.length_nil] at *
    clear h4
    go_enter Tryz.func149,Tryz.ntmps149
    go_wp2
    go_ret
    exact ⟨_,rfl,ht,rfl⟩
  | cons s r =>
    obtain ⟨g,off,rfl,q1,q2,q3,q4⟩:=h4 0 s rfl
    have hl0:¬(((s::r).length:Int)=0):=by simp; omega
    have hl1:(0:Int)<((s::r).length:Int):=by simp
    simp only [Nat.zero_mul,Nat.add_zero] at q2 q3 q4
    rw [←(bcell hb).1 _ _ q1] at q2 q3 q4
    rw [afterL]
    have HT:Hid (Tl W0 (.slice (some ⟨g,off,none⟩) (s::r).length cap) (s::r)):=ht
    have H4:Hid (∀i t,(s::r)[i]? =some t→∃g' off',(some ⟨g,off,none⟩:Option Addr)=some ⟨g',off',none⟩∧g'<W0.heap.size∧W0.cell? ⟨g',off'+i*3,none⟩=some (.int .u64 t.lo)∧W0.cell? ⟨g',off'+i*3+1,none⟩=some (.int .u64 t.hi)∧W0.cell? ⟨g',off'+i*3+2,none⟩=some (.bool t.val)):=h4
    clear h4 ht
    have hlen:(s::r).length=r.length+1:=by simp
    rw [hlen] at hl0 hl1 h2 ⊢
    have hc1:1≤cap:=by omega
    by_cases hle:s.hi≤k
    · rw [if_pos hle]
      go_enter Tryz.func149,Tryz.ntmps149
      go_wp2
      all_goals go_ret
      · refine ⟨_,rfl,⟨_,_,rfl,by omega,by omega,fun i t ht=> ?_⟩,rfl⟩
        have:=(List.getElem?_eq_some_iff.1 ht).1
        omega
      · refine ⟨_,rfl,⟨_,_,rfl,by omega,by omega,fun i t ht=> ?_⟩,rfl⟩
        obtain ⟨g',off',h1,h5,h6,h7,h8⟩:=H4.out (i+1) t (by simpa using ht)
        cases h1
        refine ⟨g,off+3,rfl,h5,?_,?_,?_⟩
        · rw [show off+3+i*3=off+(i+1)*3 by omega]; exact h6
        · rw [show off+3+i*3+1=off+(i+1)*3+1 by omega]; exact h7
        · rw [show off+3+i*3+2=off+(i+1)*3+2 by omega]; exact h8
    · rw [if_neg hle]
      go_enter Tryz.func149,Tryz.ntmps149
      go_wp2
      go_ret
      exact ⟨_,rfl,HT,rfl⟩
end Go.Proofs.YtnjlajjjcmhfgaaGreatDoor.Bs
namespace Go.Proofs.YtnjlajjjcmhfgaaGreatDoor.Bs
open Go.RowKit
set_option linter.unusedVariables false
theorem stepU_nil (c e:Int):step ([]:List (Sp Unit)) c e (some ())=[]++[⟨c,e,()⟩]:=rfl
theorem stepU_join (A:List (Sp Unit)) (t:Sp Unit) (c e:Int) (h:t.hi+1=c):step (A++[t]) c e (some ())=A++[⟨t.lo,e,t.val⟩]:=by
  rw [step,List.getLast?_concat]
  simp [h]
theorem stepU_more (A:List (Sp Unit)) (t:Sp Unit) (c e:Int) (h:¬t.hi+1=c):step (A++[t]) c e (some ())=(A++[t])++[⟨c,e,()⟩]:=by
  rw [step,List.getLast?_concat]
  simp [h]
theorem lm_append0 (w:World) (B:Nat) (pv:Value) (A:List (Sp Unit)) (t:Sp Unit) (h:Lm w B pv A) (hB:B≤w.heap.size) (hby:A.length≤9000000) :
    ∃v' w',(∀ty,(Builtin.append_ #[92,92] ty #[pv,.slice (some ⟨w.heap.size,0,none⟩) 1 1]).run Tryz.prog (w.alloc (.cells #[.int .u64 t.lo,.int .u64 t.hi] 95))= .ok v' w')∧Lm w' B v' (A++[t])∧w.grownBy w' pv.ownBlock :=
  lm_append w 0 B pv A t h hB hby
set_option maxHeartbeats 4000000 in
set_option maxRecDepth 100000 in
theorem join_any (W:World) (B:Nat) (v:Value) (R:List (Sp Unit)) (c e:Int) (h:Lm W B v R) (hB:B≤W.heap.size) (hl:R.length≤8900000) (hr:∀s∈R,0≤s.hi∧s.hi<c) (hc:c≤18446744073709551615) :
    Calls Tryz.prog 148 #[v,.agg #[.int .u64 c,.int .u64 e]] W fun x W'=>∃v',x= .returned v'∧Lm W' B v' (step R c e (some ()))∧Below B W W':=by
  have hb0:=below_alloc (Below.refl W.heap.size W) (.cells #[.int .u64 c,.int .u64 e] 95)
  rcases List.eq_nil_or_concat R with rfl|⟨A,t,hA⟩
  · rw [stepU_nil]
    obtain ⟨va,vc,hv,_⟩:=Lm.view h
    subst hv
    simp only [List.length_nil] at *
    go_enter Tryz.func148,Tryz.ntmps148
    go_wp2
    go_quiet (fail)
    obtain ⟨w4,hw4⟩:∃w4,w4=(W.alloc (.cells #[.int .u64 c,.int .u64 e] 95)).drewN nq:=⟨_,rfl⟩
    rw [←hw4]
    have hb4:Below W.heap.size W w4:=by rw [hw4]; exact below_go hb0 (grown_below (grownBy_drewN _ none nq))
    have y0:w4.cell? ⟨W.heap.size,0,none⟩=some (.int .u64 c):=by rw [hw4]; simp [go_sem]
    have y1:w4.cell? ⟨W.heap.size,1,none⟩=some (.int .u64 e):=by rw [hw4]; simp [go_sem]
    have hB4:B≤w4.heap.size:=Nat.le_trans hB hb4.size
    have h4:Lm w4 B (.slice va 0 vc) ([]:List (Sp Unit)):=row_keep h hb4
    clear hw4
    obtain ⟨v1,w1,hr1,hk1,hg1⟩:=lm_append0 w4 B _ ([]:List (Sp Unit)) ⟨c,e,()⟩ h4 hB4 (by simp)
    have hB1:Below B W w1:=(hb4.mono hB).grown hg1 hB4 (fun g hg=>(World.ownsRow.lt h4 g hg).1)
    obtain ⟨va3,vc3,hv3⟩:=slice_form hk1
    subst hv3
    dsimp only at hr1
    have HK:Hid (Lm w1 B (.slice va3 (([]:List (Sp Unit))++[(⟨c,e,()⟩:Sp Unit)]).length vc3) (([]:List (Sp Unit))++[⟨c,e,()⟩])):=hk1
    clear hk1 hg1 h4
    go_wp2_with (at_builtin; refine Lib.wpList_append_run _ rfl _ _ 92 92 rfl _ _ (by rfl) (by rfl) _ _ (hr1 _) ?_)
    go_ret
    exact ⟨_,rfl,HK.out,hB1⟩
  · rw [List.concat_eq_append] at hA
    subst hA
    have hti:(A++[t])[A.length]? =some t:=by simp
    obtain ⟨va',vc',hveq,hvc⟩:=Lm.view h
    obtain ⟨g,rfl,hg1,hg2,z0,z1,z2⟩:=hvc A.length t hti
    subst hveq
    obtain ⟨hr1,hr2⟩:=hr t (by simp)
    have hal:(A++[t]).length=A.length+1:=by simp
    have hz1:(0:Int)≤(A.length:Int):=by omega
    have hz2:(A.length:Int)<(A.length:Int)+1:=by omega
    have hz4:A.length≤9000000:=by omega
    have hgn:g≠W.heap.size:=by omega
    have hwt:IntKind.u64.wrap (c-1)=c-1:=by rw [IntKind.wrap_u64]; omega
    clear hvc hti hr
    by_cases h2:t.hi+1=c
    · rw [stepU_join A t c e h2]
      have e2:(t.hi == c-1)=true:=by simp; omega
      clear h2
      have hN:(A++[t]).length=A.length+1:=by simp
      have HH:Hid (Lm W B (.slice (some ⟨g,0,none⟩) (A++[t]).length vc') (A++[t])):=h
      clear h
      rw [hN]
      go_enter Tryz.func148,Tryz.ntmps148
      go_wp2
      go_quiet (fail)
      obtain ⟨w4,hw4⟩:∃w4,w4=(W.alloc (.cells #[.int .u64 c,.int .u64 e] 95)).drewN nq:=⟨_,rfl⟩
      rw [←hw4]
      have hb4:Below W.heap.size W w4:=by rw [hw4]; exact below_go hb0 (grown_below (grownBy_drewN _ none nq))
      have y0:w4.cell? ⟨W.heap.size,0,none⟩=some (.int .u64 c):=by rw [hw4]; simp [go_sem]
      have y1:w4.cell? ⟨W.heap.size,1,none⟩=some (.int .u64 e):=by rw [hw4]; simp [go_sem]
      have p4:w4.cell? ⟨g,A.length*2+1,none⟩=some (.int .u64 t.hi):=((bcell hb4).1 g _ hg2).trans z1
      have p5:w4.frozen? ⟨g,A.length*2+1,none⟩=false:=((bcell hb4).2 g _ hg2).trans z2
      have HK3:Hid (Lm (w4.setCell ⟨g,A.length*2+1,none⟩ (.int .u64 e)) B (.slice (some ⟨g,0,none⟩) (A.length+1) vc') (A++[⟨t.lo,e,t.val⟩])):=by
        have hq:=Lm.set (row_keep HH.out hb4) e
        rw [hN] at hq
        exact hq
      clear hw4
      go_wp2
      go_ret
      exact ⟨_,rfl,HK3.out,(hb4.mono hB).setCell hg1 _⟩
    · rw [stepU_more A t c e h2]
      have e2:(t.hi == c-1)=false:=by simp; omega
      clear h2
      have hN:(A++[t]).length=A.length+1:=by simp
      go_enter Tryz.func148,Tryz.ntmps148
      go_wp2
      go_quiet (fail)
      obtain ⟨w4,hw4⟩:∃w4,w4=(W.alloc (.cells #[.int .u64 c,.int .u64 e] 95)).drewN nq:=⟨_,rfl⟩
      rw [←hw4]
      have hb4:Below W.heap.size W w4:=by rw [hw4]; exact below_go hb0 (grown_below (grownBy_drewN _ none nq))
      have y0:w4.cell? ⟨W.heap.size,0,none⟩=some (.int .u64 c):=by rw [hw4]; simp [go_sem]
      have y1:w4.cell? ⟨W.heap.size,1,none⟩=some (.int .u64 e):=by rw [hw4]; simp [go_sem]
      have hB4:B≤w4.heap.size:=Nat.le_trans hB hb4.size
      have h4:Lm w4 B (.slice (some ⟨g,0,none⟩) (A++[t]).length vc') (A++[t]):=row_keep h hb4
      clear hw4
      obtain ⟨v1,w1,hr1,hk1,hg1⟩:=lm_append0 w4 B _ (A++[t]) ⟨c,e,()⟩ h4 hB4 (by omega)
      have hB1:Below B W w1:=(hb4.mono hB).grown hg1 hB4 (fun g hg=>(World.ownsRow.lt h4 g hg).1)
      obtain ⟨va3,vc3,hv3⟩:=slice_form hk1
      subst hv3
      dsimp only at hr1
      have HK:Hid (Lm w1 B (.slice va3 ((A++[t])++[(⟨c,e,()⟩:Sp Unit)]).length vc3) ((A++[t])++[⟨c,e,()⟩])):=hk1
      clear hk1 hg1 h4
      go_wp2_with (at_builtin; refine Lib.wpList_append_run _ rfl _ _ 92 92 rfl _ _ (by rfl) (by rfl) _ _ (hr1 _) ?_)
      go_ret
      have hq:=HK.out
      rw [show (A++[t]++[(⟨c,e,()⟩:Sp Unit)]).length=A.length+2 by simp] at hq
      exact ⟨_,rfl,hq,hB1⟩
end Go.Proofs.YtnjlajjjcmhfgaaGreatDoor.Bs
