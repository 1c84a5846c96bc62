import Derived.Test.YtnjlajjjcmhfgaaGreatDoorRJ00
import Derived.Test.YtnjlajjjcmhfgaaGreatDoorRA26
namespace Go.Proofs.YtnjlajjjcmhfgaaGreatDoor
open Go.RowKit Go.Sort Go.Shelf Go.Lib
open Mm (Turn gr RowAt)
set_option linter.unusedVariables false
set_option linter.unusedSimpArgs false
theorem TkX.pages {G:Nat→Prop} {W w:World} {p kb jb:Nat} {wv iv:Value} {σ:Pst} (h:TkX G W w p kb jb wv iv σ) (hd:TSd w) (asid:Int) (ha: -9223372036854775808≤asid∧asid≤9223372036854775807) (hl:σ.K.length≤400000000000) :
    Calls Tryz.prog 33 #[.pointer (some ⟨p,0,none⟩),iv,.int .i64 asid] w fun e w'=>∃v R,e= .returned v∧Bs.Lm w' w.heap.size v R∧IsP σ.mem.mo σ.K σ.J asid R∧Below w.heap.size w w':=by
  obtain ⟨S,h1,h2⟩:=h.mem
  exact pages_any w p kb jb σ.K σ.J h.pk S iv σ.mem.mo h1.mem h.ts hd asid ha hl
theorem append_both {P:Program} (w:World) (t e:TypeId) (i:TypeInfo) (z:Value) (ht:P.underlying t=some (.slice e)) (hi:P.info? e=some i) (hz:i.zero=some z) (hzs:z.cells.size=i.size)
    (lo n m:Nat) (s x:Value) (xs news:List Value) (hs:w.ownsRow lo e i.size s n xs) (hx:Src P i.size t x m news w) (hlo:lo≤w.heap.size) (h63:n+m≤maxLen) (hby:(n+m)*i.bytes≤140737488355328) :
    ∃v' w',(∀ty,(Builtin.append_ #[t,t] ty #[s,x]).run P w= .ok v' w')∧w'.ownsRow lo e i.size v' (n+m) (xs++news)∧w'.ownsRow lo e i.size s n xs∧w.grownBy w' s.ownBlock∧(∀g,v'.ownBlock=some g→s.ownBlock=some g∨w.heap.size≤g):=by
  have hnl:=hx.newsLen
  rcases Mm.row_of_own hs with ⟨rfl,rfl,rfl⟩|⟨g,cap,cur,rfl,a,b,c,d,e1,f⟩
  · obtain ⟨v',w',h1,h2,h3,h4⟩:=Mm.append_any w t e i z ht hi hz hzs lo 0 m _ x [] news hs hx hlo h63 hby
    exact ⟨v',w',h1,h2,World.ownsRow_nil _ _ _ _,h3,h4⟩
  · by_cases h0:n+m≤cap
    · have hfit:n*i.size+news.length≤cur.length:=by rw [hnl,e1,←Nat.add_mul]; exact Nat.mul_le_mul_right _ h0
      have hxl:xs.length=n*i.size:=hs.1
      obtain ⟨w',h1,h2,h3⟩:=Mm.append_room w t e i ht hi g n cap cur b x m news hx h0 hfit
      have hle:(cur.take (n*i.size)++news++cur.drop (n*i.size+news.length)).length=cap*i.size:=by
        rw [List.length_append,List.length_append,List.length_take,List.length_drop,←e1]; omega
      refine ⟨_,w',h1,Mm.own_of_row h2 a h0 d hle ?_,Mm.own_of_row h2 a (by omega) d hle ?_,h3,fun g hg=> .inl hg⟩
      · rw [f,List.take_append_of_le_length (by rw [List.length_append,hs.1,hnl,Nat.add_mul]; exact Nat.le_refl _)]
        exact List.take_of_length_le (by rw [List.length_append,hs.1,hnl,Nat.add_mul]; exact Nat.le_refl _)
      · rw [f,List.append_assoc,List.take_append_of_le_length (by rw [hxl]; exact Nat.le_refl _)]
        exact List.take_of_length_le (by rw [hxl]; exact Nat.le_refl _)
    · obtain ⟨w',cap',rest,h1,h2,h3,h4,h5,h6,h7⟩:=Mm.append_away w t e i z ht hi hz hzs (some ⟨g,0,none⟩) n cap xs hs.1
        (run_firstCells_some w.drew i.size n ⟨g,0,none⟩ n cap xs hs.1 (fun j u hj=>hs.cells rfl j u hj)) x m news hx (by omega) h63 hby
      refine ⟨_,w',h1,Mm.own_of_row h2 (by omega) h4 h5 ?_ ?_,Mm.own_turn hs (Turn.grown (S:=fun _=>False) h6 (fun k e=>by cases e)) (fun _ _ h=>h),Mm.grownBy_none _ h6,fun g hg=> .inr (by cases hg; exact Nat.le_refl _)⟩
      · rw [List.length_append,List.length_append,h3,hnl,hs.1,←Nat.add_mul,←Nat.add_mul]; congr 1; omega
      · rw [List.take_append_of_le_length (by rw [List.length_append,hs.1,hnl,Nat.add_mul]; exact Nat.le_refl _)]
        exact List.take_of_length_le (by rw [List.length_append,hs.1,hnl,Nat.add_mul]; exact Nat.le_refl _)
set_option maxRecDepth 100000 in
set_option maxHeartbeats 4000000 in
theorem known_own (W:World) (p kb jb:Nat) (K:List Blo) (J:Jud) (h:PK W p kb jb K J) (hl:K.length*56≤140737488355328) :
    Calls Tryz.prog 20 #[.pointer (some ⟨p,0,none⟩)] W fun e w'=>∃v,e= .returned v∧w'.ownsRow W.heap.size 45 9 v K.length (rowG encB K)∧Below W.heap.size W w':=by
  have hnd:=h.ok.ri.nodup
  have hlen:=fun ty=>h.km.len hnd h.ok.ok ty
  obtain ⟨cur,hmk,hcs⟩:=makeB W K.length hl
  have c0:=h.c0
  have hb0:=below_new W (.cells cur 45)
  have h0:=h.below hb0
  have d0:=h0.c0
  obtain ⟨w2,hr2,hk2,hg2,hs2⟩:=h0.km.range
  have T2:Turn (fun _=>False) (W.alloc (.cells cur 45)) w2:=Turn.grown hg2 (fun k e=>by cases e)
  have hB2:Below W.heap.size W w2:=((Turn.below (S:=fun _=>False) hb0).then T2).to (fun x hx=>hx.elim) (Nat.le_refl _)
  have hrow:Bl (W.alloc (.cells cur 45)) W.heap.size 45 cur.toList:=by
    have:=Bl.new W 45 cur.toList
    rwa [Array.toArray_toList] at this
  have HX:Hid (KnX W w2 p kb jb (W.alloc (.cells cur 45)).heap.size K K [] (.slice (some ⟨W.heap.size,0,none⟩) 0 K.length)):=by
    refine ⟨hB2,hk2,⟨rfl,.inr ⟨W.heap.size,K.length,cur,rfl,Nat.le_refl _,?_,Nat.zero_le _,by unfold maxLen; omega,hcs,rfl⟩⟩,.nil,fun b=>⟨(fun h=>by cases h),fun ⟨h1,h2⟩=>absurd h1 h2⟩,fun b hb=>hb⟩
    have:=hrow.turn T2 (fun h=>h)
    rwa [show Bl w2 W.heap.size 45 cur.toList=(w2.heap[W.heap.size]? =some (.cells cur.toList.toArray 45 (0,0))) from rfl,Array.toArray_toList] at this
  have HO:=hidW h.ok
  have HP:=hidW (h.below hb0)
  clear h h0 hk2 hg2 hb0 T2 hB2 hrow
  generalize hrr:(W.alloc (.cells cur 45)).heap.size=r at *
  have hrW:W.heap.size≤r:=by rw [←hrr]; simp
  go_enter Tryz.func20,Tryz.ntmps20
  go_wp2
  clear hr2 c0 d0 hs2 hrr hlen hmk hcs
  go_loopw [3] (fun s wr=>∃(T L:List Blo) (v:Value),v=s∧Hid (KnX W wr p kb jb r K T L v)) (fun _ wr=>wr.rangeLeft kb r)
  case atStart=>exact ⟨K,[],_,rfl,HX⟩
  case round =>
    obtain ⟨T,L,v,rfl,HX1⟩:=hrel
    clear HX
    have hTo:∀x∈T,KOk x:=fun x hx=>HO.out.ok x (HX1.out.sub x hx)
    rcases HX1.out.kr.next hTo 0 with ⟨rfl,hnx⟩|⟨b,w1,hb,hnx,hk1,hg1,hs1,hen,hlt⟩
    · have hx:=HX1.out
      have hLK:∀b,b∈L↔b∈K:=fun b=>by rw [hx.mem]; exact ⟨fun h=>h.1,fun h=>⟨h,by simp⟩⟩
      have hso:soB L=K:=soB_eq hx.nod HO.out.ri hLK
      have hll:L.length=K.length:=by rw [←hso]; exact (List.mergeSort_perm _ _).length_eq.symm
      rcases Mm.row_of_own hx.own with ⟨rfl,h0,_⟩|⟨g,cap,cur,rfl,hg,hcur,hcc,hmx,hcl,htk⟩
      · have hK0:K=[]:=List.eq_nil_of_length_eq_zero (by omega)
        have hL0:L=[]:=List.eq_nil_of_length_eq_zero h0
        have HB:=hidW hx.bel
        clear hx HX1 hLK hso hll h0
        go_wp2_with (go_at_call 54; refine (sortB_none _ _ _).mono ?_; rintro e w3 ⟨rfl,rfl⟩)
        go_ret
        exact ⟨_,rfl,by rw [hK0]; exact World.ownsRow_nil _ _ _ _,HB.out⟩
      · have hR:RowAt wr g 45 (rowG encB L++cur.drop (L.length*9)):=by
          have:cur=rowG encB L++cur.drop (L.length*9):=by rw [←htk]; exact (List.take_append_drop _ _).symm
          rw [←this]
          exact hcur
        have HS:=hidW (sortB_row wr g cap L (cur.drop (L.length*9)) hR (by omega))
        rw [hso] at HS
        have HB:=hidW hx.bel
        have HG:=hidW hg
        have HLL:=hidW hll
        have HF:Hid (∀ww,RowAt ww g 45 (rowG encB K++cur.drop (L.length*9))→ww.ownsRow W.heap.size 45 9 (.slice (some ⟨g,0,none⟩) K.length cap) K.length (rowG encB K)):=fun ww h =>
          Mm.own_of_row h hg (by omega) hmx (by rw [List.length_append,rowG_len encB_len,List.length_drop,hcl,←hll]; have:=Nat.mul_le_mul_right 9 hcc; omega) (by rw [List.take_append_of_le_length (by rw [rowG_len encB_len]; exact Nat.le_refl _)]; exact List.take_of_length_le (by rw [rowG_len encB_len]; exact Nat.le_refl _))
        clear hx HX1 hLK hso hg hR hll hcur hcc hmx hcl htk
        go_wp2_with (go_at_call 54; refine HS.out.mono ?_; rintro e w3 ⟨rfl,hR3,T3⟩)
        go_ret
        exact ⟨_,rfl,by have:=HF.out w3 hR3; rw [←HLL.out] at this ⊢; exact this,HB.out.trans (T3.to (fun x hx=>by subst hx; exact HG.out) HB.out.size)⟩
    · have T1:Turn (· =r) wr w1:=Turn.grown hg1 (fun k e=>by cases e; exact .inl rfl)
      have hx:=HX1.out
      have hbn:=below_new w1 (.cells (encB b).toArray 45)
      have hB1:Below W.heap.size W w1:=hx.bel.trans (T1.to (fun x hx=>by subst hx; exact hrW) hx.bel.size)
      have hO1:w1.ownsRow W.heap.size 45 9 v L.length (rowG encB L):=Mm.own_turn hx.own T1 (fun g hg e=>by
        obtain ⟨c,ee,f,hc⟩:=own_ne hx.own hg
        exact (hx.kr.own hc).2 e)
      have HY:Hid (KnY W (w1.alloc (.cells (encB b).toArray 45)) kb r w1.heap.size K T L v b) :=
        ⟨hB1.alloc hB1.size _,hk1.turn (X:=fun _=>False) (Turn.below hbn) (fun h=>h) (fun h=>h),Mm.own_turn hO1 (Turn.below (S:=fun _=>False) hbn) (fun _ _ h=>h),hx.nod,hx.mem,hx.sub,hb,Bl.new w1 _ _⟩
      obtain ⟨v',w4,happ,hx4,hl4⟩:=HY.out.app (p:=p) (jb:=jb) hnd hl
      have HL:Hid (w4.rangeLeft kb r<wr.rangeLeft kb r):=by
        have e1:(w1.alloc (.cells (encB b).toArray 45)).rangeLeft kb r=w1.rangeLeft kb r:=turn_left (X:=fun _=>False) (Turn.below hbn) hk1.lt.2 hk1.lt.1 (fun h=>h) (fun h=>h)
        show w4.rangeLeft kb r<wr.rangeLeft kb r
        omega
      have HX4:=hidW hx4
      have cB:=HY.out.bb.cell
      have hsz:(w1.alloc (.cells (encB b).toArray 45)).heap.size=w1.heap.size+1:=by simp
      rw [hsz] at happ
      simp only [encB] at happ cB
      clear HY hx4 hl4 hO1 hB1 hbn hx T1 HX1 hk1 hg1 hlt hTo hb hs1 hsz
      go_wp2_with (at_builtin; refine Lib.wpList_append_run _ rfl _ _ 31 31 rfl _ _ rfl rfl _ _ (happ _) ?_; clear happ)
      go_roundw
      case rel=>exact ⟨rm T b,L++[b],_,rfl,HX4⟩
      case measure=>exact HL.out
end Go.Proofs.YtnjlajjjcmhfgaaGreatDoor
