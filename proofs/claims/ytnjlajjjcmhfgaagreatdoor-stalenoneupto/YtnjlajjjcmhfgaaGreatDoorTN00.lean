import Derived.Test.YtnjlajjjcmhfgaaGreatDoorTP05
import Derived.Test.YtnjlajjjcmhfgaaGreatDoorTA34
import Derived.Test.YtnjlajjjcmhfgaaGreatDoorTA13
import Derived.Test.YtnjlajjjcmhfgaaGreatDoorTA22
namespace Go.Proofs.YtnjlajjjcmhfgaaGreatDoor
open Go.RowKit
set_option linter.unusedVariables false
set_option linter.unusedSimpArgs false
theorem same_part {M:Mo} {c:Ctx} {t:Tra} (hM:M.Ok) (hc:c.Ok) (hr:riF t=true) {va vb:Int} (ha:0≤va∧va<4294967296) (h:va / stp t.size=vb / stp t.size) (hq:(wk M c va).1.same t=true):(wk M c vb).1.same t=true:=by
  have e:=same_found hM hc ha hr hq
  unfold stp at h
  split at h
  · rw [←wk_page h]; exact hq
  · rename_i hs
    have h3:=ri_size hr
    rw [wk_mib hM hc ha e rfl (by omega) h]
    exact Tra.same_self t
theorem part_nums {s:Int} (h:s=1∨s=2∨s=3∨s=4):(pgN s=1∧wdN s=1∧byN s=4096∧stp s=4096∧reN s=1)∨(pgN s=1∧wdN s=16∧byN s=65536∧stp s=4096∧reN s=16)∨(pgN s=256∧wdN s=1∧byN s=1048576∧stp s=1048576∧reN s=1)∨(pgN s=256∧wdN s=16∧byN s=16777216∧stp s=1048576∧reN s=16):=by
  rcases h with rfl|rfl|rfl|rfl <;>simp [pgN,wdN,byN,stp,reN]
theorem liF_iff {b:Blo} {va:Int}:liF b va=true↔b.t.va≤va∧va-b.t.va<byN b.t.size:=by
  unfold liF
  rw [Bool.and_eq_true,decide_eq_true_eq,decide_eq_true_eq]
theorem stray_iff {M:Mo} {c:Ctx} {b:Blo} {x:Int} (hM:M.Ok) (hc:c.Ok) (hK:KOk b):cvR (stL M c b.t) x↔liF b (x*4096)=true∧(wk M c (x*4096)).1.same b.t=false:=by
  have hv:=hK.ok.va
  have hr:=hK.ri
  have hm:=ri_va hr
  have ht:=ri_top hr hv
  have hP:=fun va vb ha h hq=>same_part (M:=M) (c:=c) hM hc hr (va:=va) (vb:=vb) ha h hq
  rw [liF_iff]
  unfold stL stT cvR
  constructor
  · rintro ⟨r,hq,h1,h2⟩
    obtain ⟨i,hi,ho⟩:=List.mem_filterMap.1 hq
    rw [List.mem_range] at hi
    unfold stO at ho
    split at ho
    · cases ho
    · rename_i hn
      have e:=Option.some.inj ho
      subst e
      dsimp only at h1 h2
      have hno:∀y:Int,(b.t.va / 4096+ ↑i* ↑(pgN b.t.size))*4096%4294967296=y→(0≤x*4096∧x*4096<4294967296)→x*4096 / stp b.t.size=y / stp b.t.size→(wk M c (x*4096)).1.same b.t=false:=fun y hy h0 hd=>by
        cases hs:(wk M c (x*4096)).1.same b.t with
        | false=>rfl
        | true=>exact absurd (by rw [hy]; exact hP _ _ h0 hd hs) hn
      rcases part_nums hK.sz with ⟨e1,e2,e3,e4,_⟩|⟨e1,e2,e3,e4,_⟩|⟨e1,e2,e3,e4,_⟩|⟨e1,e2,e3,e4,_⟩ <;>rw [e1] at h1 h2 hno <;>rw [e2] at hi <;>rw [e3] at hm ht ⊢ <;>rw [e4] at hno <;>refine ⟨by omega,hno _ rfl (by omega) (by omega)⟩
  · rintro ⟨⟨h1,h2⟩,hn⟩
    have hno:∀i:Nat,i<wdN b.t.size→(0≤(b.t.va / 4096+ ↑i* ↑(pgN b.t.size))*4096%4294967296∧(b.t.va / 4096+ ↑i* ↑(pgN b.t.size))*4096%4294967296<4294967296)→(b.t.va / 4096+ ↑i* ↑(pgN b.t.size))*4096%4294967296 / stp b.t.size=x*4096 / stp b.t.size→b.t.va / 4096+ ↑i* ↑(pgN b.t.size)≤x∧x≤b.t.va / 4096+ ↑i* ↑(pgN b.t.size)+ ↑(pgN b.t.size)-1→∃r,r∈List.filterMap (stO M c b.t (pgN b.t.size)) (List.range (wdN b.t.size))∧r.lo≤x∧x≤r.hi:=fun i hi h0 hd hx=>by
      refine ⟨⟨b.t.va / 4096+ ↑i* ↑(pgN b.t.size),b.t.va / 4096+ ↑i* ↑(pgN b.t.size)+ ↑(pgN b.t.size)-1,()⟩,List.mem_filterMap.2 ⟨i,List.mem_range.2 hi,?_⟩,hx.1,hx.2⟩
      unfold stO
      rw [if_neg]
      intro hs
      rw [hP _ _ h0 hd hs] at hn
      cases hn
    rcases part_nums hK.sz with ⟨e1,e2,e3,e4,_⟩|⟨e1,e2,e3,e4,_⟩|⟨e1,e2,e3,e4,_⟩|⟨e1,e2,e3,e4,_⟩ <;>rw [e1,e2,e4] at hno <;>rw [e1,e2] <;>rw [e3] at hm ht h2
    · exact hno 0 (by omega) (by omega) (by omega) (by omega)
    · exact hno (x-b.t.va / 4096).toNat (by omega) (by omega) (by omega) (by omega)
    · exact hno 0 (by omega) (by omega) (by omega) (by omega)
    · exact hno ((x-b.t.va / 4096) / 256).toNat (by omega) (by omega) (by omega) (by omega)
theorem ov_own {b:Blo} (hK:KOk b) {asid:Int}:ovF b b.t.va asid=hoF b asid:=by
  unfold ovF maF
  rw [hK.r,liF_iff.2,Bool.true_and,Bool.true_and]
  rcases part_nums hK.sz with ⟨_,_,e,_⟩|⟨_,_,e,_⟩|⟨_,_,e,_⟩|⟨_,_,e,_⟩ <;>rw [e] <;>omega
theorem same_comm (a b:Tra):a.same b=b.same a:=by
  rw [Bool.eq_iff_iff,Tra.same_iff,Tra.same_iff]
  exact ⟨Eq.symm,Eq.symm⟩
theorem stale_page {M:Mo} {K:List Blo} {J:Jud} {asid va:Int} {c:Ctx} (hM:M.Ok) (hc:c.Ok) (hK:∀b∈K,KOk b) (hJ:J asid=some c):stF M K J asid va=true↔paC M c K asid (va / 4096):=by
  rw [stF_some hJ,List.any_eq_true]
  unfold paC
  refine exists_congr fun b=>and_congr_right fun hb=> ?_
  have hk:=hK b hb
  rw [ov_own hk,stray_iff hM hc hk,wk_page (va:=va / 4096*4096) (vb:=va) (by omega),liF_iff]
  unfold stB ovF maF
  rw [hk.r,same_comm b.t,Bool.true_and,Bool.and_eq_true,Bool.and_eq_true,liF_iff,Bool.not_eq_true']
  have hm:=ri_va hk.ri
  have:(b.t.va≤va∧va-b.t.va<byN b.t.size)↔(b.t.va≤va / 4096*4096∧va / 4096*4096-b.t.va<byN b.t.size):=by
    rcases part_nums hk.sz with ⟨_,_,e,_⟩|⟨_,_,e,_⟩|⟨_,_,e,_⟩|⟨_,_,e,_⟩ <;>rw [e] at hm ⊢ <;>omega
  rw [this]
  exact ⟨fun h=>⟨h.2.2,h.2.1,h.1⟩,fun h=>⟨h.2.2,h.2.1,h.1⟩⟩
theorem dirty_page {M:Mo} {J:Jud} {a:Int} {c:Ctx} {b:Blo} (hM:M.Ok) (hc:c.Ok) (hon:c.on=true) (hK:KOk b) (hJ:J a=some c):diF M J a b=true↔hoF b a=true∧∃x,0≤x∧cvR (stL M c b.t) x:=by
  have hv:=hK.ok.va
  have hr:=hK.ri
  have hm:=ri_va hr
  have ht:=ri_top hr hv
  have hP:=fun va vb ha h hq=>same_part (M:=M) (c:=c) hM hc hr (va:=va) (vb:=vb) ha h hq
  unfold diF
  rw [hJ]
  dsimp only
  rw [Bool.and_eq_true]
  refine and_congr_right fun _=> ?_
  unfold smF
  rw [hon,hr,Bool.true_and,Bool.true_and,Bool.not_eq_true']
  unfold allOk
  rw [List.all_eq_false]
  constructor
  · rintro ⟨i,hi,ho⟩
    rw [List.mem_range] at hi
    unfold okAt at ho
    have hf:(wk M c (b.t.va+ ↑i*stp b.t.size)).1.same b.t=false:=by simpa using ho
    have hq:(b.t.va+ ↑i*stp b.t.size) / 4096*4096=b.t.va+ ↑i*stp b.t.size∧0≤b.t.va+ ↑i*stp b.t.size∧b.t.va+ ↑i*stp b.t.size-b.t.va<byN b.t.size∧b.t.va≤b.t.va+ ↑i*stp b.t.size:=by
      rcases part_nums hK.sz with ⟨e1,e2,e3,e4,e5⟩|⟨e1,e2,e3,e4,e5⟩|⟨e1,e2,e3,e4,e5⟩|⟨e1,e2,e3,e4,e5⟩ <;>rw [e5] at hi <;>rw [e3] at hm ⊢ <;>rw [e4] <;>omega
    refine ⟨(b.t.va+ ↑i*stp b.t.size) / 4096,by omega,(stray_iff hM hc hK).2 ⟨liF_iff.2 ?_,?_⟩⟩
    · rw [hq.1]; exact ⟨hq.2.2.2,hq.2.2.1⟩
    · rw [hq.1]; exact hf
  · rintro ⟨x,hx,hs⟩
    obtain ⟨h1,h2⟩:=(stray_iff hM hc hK).1 hs
    obtain ⟨h3,h4⟩:=liF_iff.1 h1
    have hno:∀i:Nat,(0≤b.t.va+ ↑i*stp b.t.size∧b.t.va+ ↑i*stp b.t.size<4294967296)→(b.t.va+ ↑i*stp b.t.size) / stp b.t.size=x*4096 / stp b.t.size→¬okAt M c b.t i=true:=fun i h0 hd hs=>by
      rw [hP _ _ h0 hd hs] at h2
      cases h2
    rcases part_nums hK.sz with ⟨e1,e2,e3,e4,e5⟩|⟨e1,e2,e3,e4,e5⟩|⟨e1,e2,e3,e4,e5⟩|⟨e1,e2,e3,e4,e5⟩ <;>rw [e5] <;>rw [e4] at hno <;>rw [e3] at hm ht h4
    · exact ⟨0,List.mem_range.2 (by omega),hno 0 (by omega) (by omega)⟩
    · exact ⟨((x*4096-b.t.va) / 4096).toNat,List.mem_range.2 (by omega),hno _ (by omega) (by omega)⟩
    · exact ⟨0,List.mem_range.2 (by omega),hno 0 (by omega) (by omega)⟩
    · exact ⟨((x*4096-b.t.va) / 1048576).toNat,List.mem_range.2 (by omega),hno _ (by omega) (by omega)⟩
theorem good_up {c:Int}:∀ {R:List Rm},Bs.Good c (some ()) R→Bs.Good (c+1) none R
  | [],_=>trivial
  | t::q,h=>by
    obtain ⟨h1,h2,h3,h4,h5⟩:=h
    have:t.lo≠c:=fun e=>h4 e rfl
    exact ⟨by omega,h2,h3,(fun _ hh=>by cases hh),h5⟩
theorem good_at:∀ {R:List Rm} {c:Int} {u:Option Unit},Bs.Good c u R→∀r∈R,c≤r.lo∧(u=some ()→c<r.lo)∧r.lo≤r.hi∧(∀x,r.lo≤x→x≤r.hi→Bs.get R x=some ())∧Bs.get R (r.lo-1)=none∧Bs.get R (r.hi+1)=none
  | [],_,_,_,r,hr=>by cases hr
  | t::q,c,u,h,r,hr=>by
    obtain ⟨h1,h2,h3,h4,h5⟩:=h
    rcases List.mem_cons.1 hr with rfl|hr
    · refine ⟨h1,fun e=> ?_,h2,fun x hx hy=> ?_,?_,?_⟩
      · have:r.lo≠c:=fun e'=>h4 e' e
        omega
      · rw [Bs.get,if_pos ⟨hx,hy⟩]
      · rw [Bs.get,if_neg (by omega)]
        exact Bs.get_low h5 (by omega)
      · rw [Bs.get,if_neg (by omega)]
        exact Bs.get_low (good_up h5) (by omega)
    · obtain ⟨g1,g2,g3,g4,g5,g6⟩:=good_at h5 r hr
      have g2:=g2 rfl
      refine ⟨by omega,fun _=>by omega,g3,fun x hx hy=> ?_,?_,?_⟩
      · rw [Bs.get,if_neg (by omega)]; exact g4 x hx hy
      · rw [Bs.get,if_neg (by omega)]; exact g5
      · rw [Bs.get,if_neg (by omega)]; exact g6
theorem good_hi:∀ {R:List Rm} {c:Int} {u:Option Unit},Bs.Good c u R→∀r∈R,r.hi≤18446744073709551615
  | [],_,_,_,r,hr=>by cases hr
  | t::q,c,u,h,r,hr=>by
    obtain ⟨h1,h2,h3,h4,h5⟩:=h
    rcases List.mem_cons.1 hr with rfl|hr
    · exact h3
    · exact good_hi h5 r hr
theorem get_in:∀ {R:List Rm} {x:Int},Bs.get R x=some ()→∃r∈R,r.lo≤x∧x≤r.hi
  | [],x,h=>by cases h
  | t::q,x,h=>by
    rw [Bs.get] at h
    split at h
    · rename_i hq
      exact ⟨t,.head _,hq⟩
    · obtain ⟨r,hr,hx⟩:=get_in h
      exact ⟨r,.tail _ hr,hx⟩
theorem good_next:∀ {R:List Rm} {c:Int} {u:Option Unit},Bs.Good c u R→∀ {k:Nat} {s r:Rm},R[k]? =some s→R[k+1]? =some r→s.hi+1<r.lo
  | [],_,_,_,k,s,r,h1,_=>by simp at h1
  | t::q,c,u,h,0,s,r,h1,h2=>by
    obtain ⟨_,_,_,_,h5⟩:=h
    have e:t=s:=by simpa using h1
    subst e
    have h2:q[0]? =some r:=by simpa using h2
    exact (good_at h5 r (List.mem_of_getElem? h2)).2.1 rfl
  | t::q,c,u,h,k+1,s,r,h1,h2=>by
    obtain ⟨_,_,_,_,h5⟩:=h
    exact good_next h5 (k:=k) (by simpa using h1) (by simpa using h2)
theorem IsP.facts {M:Mo} {K:List Blo} {J:Jud} {a:Int} {R:List Rm} (h:IsP M K J a R) (hM:M.Ok) (hT:TrOk K J) {r:Rm} (hr:r∈R) :
    0≤r.lo∧r.lo≤r.hi∧r.hi<1048576∧(∀x,r.lo≤x→x≤r.hi→(∃d∈diL M K J,d.asid=a∧ovF d.b (x*4096) a=true)∧∀v,v / 4096=x→stF M K J a v=true)∧(∀v,v / 4096=r.lo-1→0<r.lo→stF M K J a v=false)∧(∀v,v / 4096=r.hi+1→stF M K J a v=false):=by
  cases e:J a with
  | none=>rw [h.1 e] at hr; cases hr
  | some c =>
    obtain ⟨g,hx⟩:=h.2 c e
    obtain ⟨i1,_,i3,i4,i5,i6⟩:=good_at g r hr
    obtain ⟨ha,hon,hc,_⟩:=hT.j a c e
    have i7:=(good_hi g r hr)
    have hin:∀x,r.lo≤x→x≤r.hi→∃b∈K,KOk b∧hoF b a=true∧cvR (stL M c b.t) x∧liF b (x*4096)=true:=fun x h1 h2=>by
      obtain ⟨b,hb,ho,hs⟩:=(hx x (by omega) (by omega)).1 (i4 x h1 h2)
      have hk:=hT.ok b hb
      exact ⟨b,hb,hk,by rw [←ov_own hk]; exact ho,hs,((stray_iff hM hc hk).1 hs).1⟩
    have i8:r.hi<1048576:=by
      obtain ⟨b,hb,hk,_,_,hl⟩:=hin r.hi (by omega) (by omega)
      have:=ri_top hk.ri hk.ok.va
      have:=liF_iff.1 hl
      omega
    refine ⟨i1,i3,i8,fun x h1 h2=>⟨?_,fun v hv=> ?_⟩,fun v hv h0=> ?_,fun v hv=> ?_⟩
    · obtain ⟨b,hb,hk,ho,hs,hl⟩:=hin x h1 h2
      refine ⟨⟨a,b⟩,(mem_diL hT.j).2 ⟨hb,(dirty_page hM hc hon hk e).2 ⟨ho,x,by omega,hs⟩⟩,rfl,?_⟩
      unfold ovF maF
      rw [hk.r,hl,ho]
      rfl
    · rw [stale_page hM hc hT.ok e,hv]
      exact (hx x (by omega) (by omega)).1 (i4 x h1 h2)
    · rw [←Bool.not_eq_true,stale_page hM hc hT.ok e,hv,←hx _ (by omega) (by omega),i5]
      simp
    · rw [←Bool.not_eq_true,stale_page hM hc hT.ok e,hv,←hx _ (by omega) (by omega),i6]
      simp
theorem IsP.meets {M:Mo} {K:List Blo} {J:Jud} {R:List Rm} {d:Dir} (h:IsP M K J d.asid R) (hM:M.Ok) (hT:TrOk K J) (hd:d∈diL M K J) :
    (∃r∈R,r.lo≤d.b.t.va / 4096+byN d.b.t.size / 4096-1∧d.b.t.va / 4096≤r.hi)∧ovF d.b d.b.t.va d.asid=true∧KOk d.b:=by
  obtain ⟨hb,hdi⟩:=(mem_diL hT.j).1 hd
  have hk:=hT.ok d.b hb
  cases e:J d.asid with
  | none=>unfold diF at hdi; rw [e] at hdi; cases hdi
  | some c =>
    obtain ⟨g,hx⟩:=h.2 c e
    obtain ⟨ha,hon,hc,_⟩:=hT.j _ c e
    obtain ⟨ho,x,h0,hs⟩:=(dirty_page hM hc hon hk e).1 hdi
    have hl:=liF_iff.1 ((stray_iff hM hc hk).1 hs).1
    have ht:=ri_top hk.ri hk.ok.va
    have hm:=ri_va hk.ri
    have hv:=hk.ok.va
    refine ⟨?_,by rw [ov_own hk]; exact ho,hk⟩
    obtain ⟨r,hr,h1,h2⟩:=get_in ((hx x h0 (by omega)).2 ⟨d.b,hb,by rw [ov_own hk]; exact ho,hs⟩)
    refine ⟨r,hr,?_,?_⟩
    · rcases part_nums hk.sz with ⟨_,_,e,_⟩|⟨_,_,e,_⟩|⟨_,_,e,_⟩|⟨_,_,e,_⟩ <;>rw [e] at hl hm ⊢ <;>omega
    · omega
theorem good_cnt {H:Int}:∀ {R:List Rm} {c:Int} {u:Option Unit},Bs.Good c u R→(∀r∈R,r.hi≤H)→c≤H+1→(R.length:Int)≤H+1-c
  | [],c,_,_,_,hc=>by simp; omega
  | t::q,c,u,h,hH,hc=>by
    obtain ⟨h1,h2,h3,h4,h5⟩:=h
    have a:=hH t (.head _)
    have:=good_cnt h5 (fun s hs=>hH s (.tail _ hs)) (by omega)
    rw [List.length_cons]
    omega
theorem IsP.cnt {M:Mo} {K:List Blo} {J:Jud} {a:Int} {R:List Rm} (h:IsP M K J a R) (hM:M.Ok) (hT:TrOk K J):R.length≤1048576:=by
  have hf:=fun r hr=>(h.facts hM hT (r:=r) hr).2.2.1
  cases e:J a with
  | none=>rw [h.1 e]; simp
  | some c =>
    have:=good_cnt (H:=1048575) (h.2 c e).1 (fun r hr=>by have:=hf r hr; omega) (by omega)
    omega
theorem IsP.next {M:Mo} {K:List Blo} {J:Jud} {a:Int} {R:List Rm} (h:IsP M K J a R) {k:Nat} {s r:Rm} (h1:R[k]? =some s) (h2:R[k+1]? =some r):s.hi+1<r.lo:=by
  cases e:J a with
  | none=>rw [h.1 e] at h1; simp at h1
  | some c=>exact good_next (h.2 c e).1 h1 h2
end Go.Proofs.YtnjlajjjcmhfgaaGreatDoor
