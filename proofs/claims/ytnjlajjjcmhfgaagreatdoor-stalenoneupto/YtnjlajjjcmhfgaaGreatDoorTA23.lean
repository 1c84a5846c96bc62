import Derived.Test.YtnjlajjjcmhfgaaGreatDoorTA25
import Derived.Deep.QuietTactic
import Derived.BigQuiet
namespace Go.Proofs.YtnjlajjjcmhfgaaGreatDoor
open Go.RowKit
open Mm (Turn gr RowAt)
set_option linter.unusedVariables false
set_option linter.unusedSimpArgs false
theorem nd_short {l:List Tra} (h:l.length<2):nd l=l:=by
  match l,h with
  | [],_=>rfl
  | [x],_=>rfl
structure Co1 (g:Nat) (l:List Tra) (rest:List Value) (w:World) (j:Nat) (wr:World):Prop where
  row:RowAt wr g 43 (rowT l++rest)
  trn:Turn (fun x=>x=g) w wr
  ne:∀i a b,i+1<j+1→l[i]? =some a→l[i+1]? =some b→a≠b
theorem Co1.drewN {g:Nat} {l:List Tra} {rest:List Value} {w wr:World} {j:Nat} (h:Co1 g l rest w j wr) (q:Nat):Co1 g l rest w j (wr.drewN q):=⟨h.row,h.trn.drewN q,h.ne⟩
structure Co2 (g:Nat) (l:List Tra) (rest:List Value) (w:World) (m k:Nat) (wr:World):Prop where
  ex:∃A:List Tra,A.length=l.length∧RowAt wr g 43 (rowT A++rest)∧A.take k=nd (l.take m)∧∀i,m≤i+1→A[i]? =l[i]?
  len:(nd (l.take m)).length=k
  trn:Turn (fun x=>x=g) w wr
theorem Co2.drewN {g:Nat} {l:List Tra} {rest:List Value} {w wr:World} {m k:Nat} (h:Co2 g l rest w m k wr) (q:Nat):Co2 g l rest w m k (wr.drewN q):=⟨h.ex,h.len,h.trn.drewN q⟩
theorem Co1.to2 {g:Nat} {l:List Tra} {rest:List Value} {w wr:World} {j:Nat} {x y:Tra} (h:Co1 g l rest w j wr) (hj:j+1<l.length) (hy:l[j]? =some y) (hx:l[j+1]? =some x) (hxy:x.same y=true):Co2 g l rest w (j+2) (j+1) wr:=by
  have e:y.same x=true:=(Tra.same_iff _ _).2 ((Tra.same_iff _ _).1 hxy).symm
  have h1:nd (l.take (j+2))=l.take (j+1):=by rw [nd_take hy hx,if_pos e,nd_plain h.ne (by omega)]
  refine ⟨⟨l,rfl,h.row,h1.symm,fun i _=>rfl⟩,?_,h.trn⟩
  rw [h1,List.length_take]; omega
theorem Co2.skip {g:Nat} {l:List Tra} {rest:List Value} {w wr:World} {m k:Nat} {x y:Tra} (h:Co2 g l rest w (m+1) k wr) (hy:l[m]? =some y) (hx:l[m+1]? =some x) (hxy:x.same y=true):Co2 g l rest w (m+2) k wr:=by
  have e:y.same x=true:=(Tra.same_iff _ _).2 ((Tra.same_iff _ _).1 hxy).symm
  have h1:nd (l.take (m+2))=nd (l.take (m+1)):=by rw [nd_take hy hx,if_pos e]
  obtain ⟨A,a1,a2,a3,a4⟩:=h.ex
  exact ⟨⟨A,a1,a2,by rw [h1]; exact a3,fun i hi=>a4 i (by omega)⟩,by rw [h1]; exact h.len,h.trn⟩
theorem Co2.put {g:Nat} {l:List Tra} {rest:List Value} {w wr:World} {m k:Nat} {x y:Tra} (h:Co2 g l rest w (m+1) k wr) (hy:l[m]? =some y) (hx:l[m+1]? =some x) (hxy:¬x.same y=true) (hk:k≤m) :
    Co2 g l rest w (m+2) (k+1) ((((((((wr.setCell ⟨g,k*8,none⟩ (.int .i64 x.size)).setCell ⟨g,k*8+1,none⟩ (.int .u32 x.va)).setCell ⟨g,k*8+2,none⟩ (.int .u64 x.pa)).setCell ⟨g,k*8+3,none⟩ (.int .i64 x.dom)).setCell ⟨g,k*8+4,none⟩ (.int .i64 x.ap)).setCell ⟨g,k*8+5,none⟩ (.int .u32 x.bits)).setCell ⟨g,k*8+6,none⟩ (.bool x.ng)).setCell ⟨g,k*8+7,none⟩ (.bool x.xn)):=by
  have e:¬y.same x=true:=fun hh=>hxy ((Tra.same_iff _ _).2 ((Tra.same_iff _ _).1 hh).symm)
  have h1:nd (l.take (m+2))=nd (l.take (m+1))++[x]:=by rw [nd_take hy hx,if_neg e]
  obtain ⟨A,a1,a2,a3,a4⟩:=h.ex
  have hm:=(List.getElem?_eq_some_iff.1 hx).1
  refine ⟨⟨A.set k x,by simpa using a1,row_put8 a2 k x (by omega),?_,fun i hi=> ?_⟩,by rw [h1,List.length_append,h.len]; rfl,?_⟩
  · rw [h1,←a3,List.take_add_one,List.take_set_of_le (Nat.le_refl _),List.getElem?_set_self (by omega)]
    rfl
  · rw [List.getElem?_set_ne (by omega)]
    exact a4 i (by omega)
  · exact (((((((h.trn.setCell (p:=⟨g,k*8,none⟩) (.inl rfl) _).setCell (p:=⟨g,k*8+1,none⟩) (.inl rfl) _).setCell (p:=⟨g,k*8+2,none⟩) (.inl rfl) _).setCell (p:=⟨g,k*8+3,none⟩) (.inl rfl) _).setCell (p:=⟨g,k*8+4,none⟩) (.inl rfl) _).setCell (p:=⟨g,k*8+5,none⟩) (.inl rfl) _).setCell (p:=⟨g,k*8+6,none⟩) (.inl rfl) _).setCell (p:=⟨g,k*8+7,none⟩) (.inl rfl) _
theorem Co2.reads {g:Nat} {l:List Tra} {rest:List Value} {w wr:World} {m k i:Nat} {x:Tra} (h:Co2 g l rest w m k wr) (hi:m≤i+1) (hx:l[i]? =some x) :
    wr.cell? ⟨g,i*8,none⟩=some (.int .i64 x.size)∧wr.cell? ⟨g,i*8+1,none⟩=some (.int .u32 x.va)∧wr.cell? ⟨g,i*8+2,none⟩=some (.int .u64 x.pa)∧wr.cell? ⟨g,i*8+3,none⟩=some (.int .i64 x.dom)∧wr.cell? ⟨g,i*8+4,none⟩=some (.int .i64 x.ap)∧wr.cell? ⟨g,i*8+5,none⟩=some (.int .u32 x.bits)∧wr.cell? ⟨g,i*8+6,none⟩=some (.bool x.ng)∧wr.cell? ⟨g,i*8+7,none⟩=some (.bool x.xn):=by
  obtain ⟨A,a1,a2,a3,a4⟩:=h.ex
  exact rowT_cells a2 (by rw [a4 i hi]; exact hx)
theorem Co2.writes {g:Nat} {l:List Tra} {rest:List Value} {w wr:World} {m k:Nat} (h:Co2 g l rest w m k wr) (i:Nat) (hi:i<l.length*8):wr.frozen? ⟨g,i,none⟩=false∧∃v,wr.cell? ⟨g,i,none⟩=some v:=by
  obtain ⟨A,a1,a2,a3,a4⟩:=h.ex
  refine ⟨a2.frozen i,?_⟩
  rw [a2.cell]
  exact ⟨_,List.getElem?_eq_getElem (by rw [List.length_append,rowT_len,a1]; omega)⟩
theorem zero_one (n:Nat):∀v∈(Builtin.zeroCells (Value.agg #[.int .i64 tZ.size,.int .u32 tZ.va,.int .u64 tZ.pa,.int .i64 tZ.dom,.int .i64 tZ.ap,.int .u32 tZ.bits,.bool tZ.ng,.bool tZ.xn]).cells n).toList,v.oneCell'=true:=by
  intro v hv
  rw [Array.mem_toList_iff] at hv
  simp only [Builtin.zeroCells,Array.mem_map] at hv
  obtain ⟨i,hi,rfl⟩:=hv
  have h4:i%(Value.agg #[.int .i64 tZ.size,.int .u32 tZ.va,.int .u64 tZ.pa,.int .i64 tZ.dom,.int .i64 tZ.ap,.int .u32 tZ.bits,.bool tZ.ng,.bool tZ.xn]).cells.size<8:=Nat.mod_lt _ (by decide)
  have:∀j:Nat,j<8→((Value.agg #[.int .i64 tZ.size,.int .u32 tZ.va,.int .u64 tZ.pa,.int .i64 tZ.dom,.int .i64 tZ.ap,.int .u32 tZ.bits,.bool tZ.ng,.bool tZ.xn]).cells[j]!).oneCell'=true:=by decide
  exact this _ h4
theorem compact_short (w:World) (a:Option Addr) (n cap:Nat) (hn:n<2) :
    Calls Tryz.prog 90 #[.slice a n cap] w fun e w'=>e= .returned (.slice a n cap)∧w=w':=by
  have hz:(n:Int)<2:=by omega
  go_enter Tryz.func90,Tryz.ntmps90
  go_wp2
  go_ret
  exact ⟨rfl,rfl⟩
set_option maxRecDepth 100000 in
set_option maxHeartbeats 4000000 in
theorem compact_long (w:World) (g cap n:Nat) (l:List Tra) (rest:List Value) (hR:RowAt w g 43 (rowT l++rest)) (hn:l.length=n) (hcap:n≤cap) (hcm:cap≤maxLen) (hrl:rest.length=(cap-n)*8) (hb:n≤1000000) (h2:¬n<2) :
    Calls Tryz.prog 90 #[.slice (some ⟨g,0,none⟩) n cap] w fun e w'=>e= .returned (.slice (some ⟨g,0,none⟩) (nd l).length cap)∧(∃rest',RowAt w' g 43 (rowT (nd l)++rest'))∧Turn (fun x=>x=g) w w':=by
  have hz:¬(n:Int)<2:=by omega
  have HN:=hidW hn
  have HR:=hidW hrl
  have HS:Hid (Co1 g l rest w 0 w):=hidW ⟨hR,Turn.refl _ _,fun i a b hi=>by omega⟩
  clear hR hn hrl
  go_enter Tryz.func90,Tryz.ntmps90
  go_wp2
  go_loopw [3] (fun i wr=>∃j:Nat,j+1≤n∧i= .int .i64 ((j:Int)+1)∧Hid (Co1 g l rest w j wr)) (fun i _=>n-(intOf i).toNat)
  case atStart=>exact ⟨0,by omega,rfl,HS⟩
  case round =>
    obtain ⟨j,hj,rfl,HS1⟩:=hrel
    clear HS
    by_cases hlt:j+1<n
    · obtain ⟨x,hx⟩:∃x,l[j+1]? =some x:=⟨_,List.getElem?_eq_getElem (by rw [HN.out]; exact hlt)⟩
      obtain ⟨y,hy⟩:∃y,l[j]? =some y:=⟨_,List.getElem?_eq_getElem (by rw [HN.out]; omega)⟩
      obtain ⟨x0,x1,x2,x3,x4,x5,x6,x7⟩:=rowT_cells HS1.out.row hx
      obtain ⟨y0,y1,y2,y3,y4,y5,y6,y7⟩:=rowT_cells HS1.out.row hy
      have HX:=hidW hx
      have HY:=hidW hy
      have eT:=eqT x y
      have z1:(j:Int)+1<n:=by omega
      have z2:(0:Int)≤j:=by omega
      clear hx hy
      by_cases hxy:x.same y=true
      · rw [hxy] at eT
        have HS2:=hidW (HS1.out.to2 (by rw [HN.out]; exact hlt) HY.out HX.out hxy)
        clear HS1 hxy
        go_wp2
        go_quiet (fail)
        have HS3:=hidW (HS2.out.drewN nq)
        clear HS2 x0 x1 x2 x3 x4 x5 x6 x7 y0 y1 y2 y3 y4 y5 y6 y7 eT HX HY
        go_wp2
        generalize wr.drewN nq=wz at *
        go_loopw [3,5] (fun k i wq=>∃k0 p:Nat,j+1+(p+1)≤n∧i= .int .i64 ((p:Int)+1)∧k= .int .i64 (k0:Int)∧1≤k0∧k0≤j+1+p∧Hid (Co2 g l rest w (j+1+p+1) k0 wq)) (fun _ i _=>n-(intOf i).toNat)
        case atStart=>exact ⟨j+1,0,by omega,rfl,by go_num,by omega,by omega,HS3⟩
        case round =>
          obtain ⟨k0,p,hp,rfl,rfl,hk1,hk2,HS4⟩:=hrel
          clear HS3
          by_cases hl2:j+1+(p+1)<n
          · obtain ⟨x',hx'⟩:∃x',l[j+1+p+1]? =some x':=⟨_,List.getElem?_eq_getElem (by rw [HN.out]; omega)⟩
            obtain ⟨y',hy'⟩:∃y',l[j+1+p]? =some y':=⟨_,List.getElem?_eq_getElem (by rw [HN.out]; omega)⟩
            obtain ⟨x0,x1,x2,x3,x4,x5,x6,x7⟩:=HS4.out.reads (by omega) hx'
            obtain ⟨y0,y1,y2,y3,y4,y5,y6,y7⟩:=HS4.out.reads (by omega) hy'
            rw [show (j+1+p+1)*8=(j+1)*8+(p+1)*8 by omega] at x0 x1 x2 x3 x4 x5 x6 x7
            rw [show (j+1+p)*8=(j+1)*8+p*8 by omega] at y0 y1 y2 y3 y4 y5 y6 y7
            have eT:=eqT x' y'
            have z3:((p:Int)+1)<((n-(j+1):Nat):Int):=by omega
            have z4:(0:Int)≤p:=by omega
            have z5:(p:Int)<((n-(j+1):Nat):Int):=by omega
            by_cases hxy:x'.same y'=true
            · rw [hxy] at eT
              have HS5:=hidW (HS4.out.skip (m:=j+1+p) hy' hx' hxy)
              clear HS4 hx' hy' hxy
              go_wp2
              go_quiet (fail)
              have HS6:=hidW (HS5.out.drewN nq)
              clear HS5
              go_wp2
              go_roundw
              case rel=>exact ⟨k0,p+1,by omega,by go_num,rfl,hk1,by omega,HS6⟩
              case measure=>simp [intOf]; omega
            · have hxy':x'.same y'=false:=by simpa using hxy
              rw [hxy'] at eT
              have hfr:∀i,wr.frozen? ⟨g,i,none⟩=false:=fun i=>by
                obtain ⟨A,_,a2,_⟩:=HS4.out.ex
                exact a2.frozen i
              obtain ⟨v0,hv0⟩:=(HS4.out.writes (k0*8) (by rw [HN.out]; omega)).2
              obtain ⟨v1,hv1⟩:=(HS4.out.writes (k0*8+1) (by rw [HN.out]; omega)).2
              obtain ⟨v2,hv2⟩:=(HS4.out.writes (k0*8+2) (by rw [HN.out]; omega)).2
              obtain ⟨v3,hv3⟩:=(HS4.out.writes (k0*8+3) (by rw [HN.out]; omega)).2
              obtain ⟨v4,hv4⟩:=(HS4.out.writes (k0*8+4) (by rw [HN.out]; omega)).2
              obtain ⟨v5,hv5⟩:=(HS4.out.writes (k0*8+5) (by rw [HN.out]; omega)).2
              obtain ⟨v6,hv6⟩:=(HS4.out.writes (k0*8+6) (by rw [HN.out]; omega)).2
              obtain ⟨v7,hv7⟩:=(HS4.out.writes (k0*8+7) (by rw [HN.out]; omega)).2
              have HS5:=hidW (fun q=>(HS4.out.drewN q).put (m:=j+1+p) hy' hx' hxy hk2)
              have z6:(k0:Int)<n:=by omega
              have z7:(0:Int)≤k0:=by omega
              clear HS4 hx' hy' hxy
              go_wp2
              go_quiet (fail)
              have HS6:=hidW (HS5.out nq)
              clear HS5
              go_wp2
              go_roundw
              case rel=>exact ⟨k0+1,p+1,by omega,by go_num,by go_num,by omega,by omega,HS6⟩
              case measure=>simp [intOf]; omega
          · have hpe:j+1+(p+1)=n:=by omega
            have HE:Hid (nd (l.take (j+1+p+1))=nd l):=hidW (by rw [List.take_of_length_le (by rw [HN.out]; omega)])
            obtain ⟨A,a1,a2,a3,a4⟩:=HS4.out.ex
            have HL:=hidW HS4.out.len
            obtain ⟨i0,hi,hz0,hz1,hz2⟩:=info_parts infoT
            have hA:(rowT A++rest).length=cap*8:=by rw [List.length_append,rowT_len,a1,HN.out,HR.out]; omega
            obtain ⟨wc,hr,hrow,hgr⟩:=Mm.clear_row (P:=Tryz.prog) wr 123 43 i0 _ Tryz.underlying123 hi hz0 g (k0*8) (n-k0) (rowT A++rest) 43 a2 (by rw [hA]; show k0*8+(n-k0)*8≤_; omega) (zero_one _) (by omega)
            have HF:Hid (RowAt wc g 43 (rowT (nd l)++((Builtin.zeroCells (Value.agg #[.int .i64 tZ.size,.int .u32 tZ.va,.int .u64 tZ.pa,.int .i64 tZ.dom,.int .i64 tZ.ap,.int .u32 tZ.bits,.bool tZ.ng,.bool tZ.xn]).cells (n-k0)).toList++(rowT A++rest).drop (k0*8+(n-k0)*(Value.agg #[.int .i64 tZ.size,.int .u32 tZ.va,.int .u64 tZ.pa,.int .i64 tZ.dom,.int .i64 tZ.ap,.int .u32 tZ.bits,.bool tZ.ng,.bool tZ.xn]).cells.size)))∧Turn (fun x=>x=g) w wc):=by
              refine hidW ⟨?_,HS4.out.trn.trans (S':=fun x=>x=g) (Turn.grown hgr (fun k hk=>by cases hk; exact .inl rfl)) (fun x hx=> .inl hx)⟩
              rw [List.take_append_of_le_length (by rw [rowT_len,a1,HN.out]; omega),rowT_take,a3,HE.out,List.append_assoc] at hrow
              exact hrow
            have HQ:Hid ((nd l).length=k0):=hidW (by rw [←HE.out]; exact HL.out)
            have z3:¬((p:Int)+1)<((n-(j+1):Nat):Int):=by omega
            have z6:(k0:Int)<n:=by omega
            have z7:(0:Int)≤k0:=by omega
            have z8:k0<cap:=by omega
            have z9:(k0:Int)<cap:=by omega
            clear HS4 a1 a2 a3 a4 hi hz0 hz1 hz2 hA hrow hgr HL HE
            go_wp2_with (at_builtin; refine Mm.wpl_clear _ rfl _ 123 rfl _ rfl (hr _ _) ?_; clear hr)
            go_ret
            exact ⟨by rw [HQ.out]; rfl,⟨_,HF.out.1⟩,HF.out.2⟩
      · have hxy':x.same y=false:=by simpa using hxy
        rw [hxy'] at eT
        have HS2:Hid (Co1 g l rest w (j+1) wr):=hidW ⟨HS1.out.row,HS1.out.trn,fun i a b hi ha hb=>by
          rcases (show i+1<j+1∨i=j by omega) with h|rfl
          · exact HS1.out.ne i a b h ha hb
          · rw [HY.out] at ha; rw [HX.out] at hb
            cases ha; cases hb
            exact fun e=>hxy ((Tra.same_iff _ _).2 e.symm)⟩
        clear HS1 hxy
        go_wp2
        go_quiet (fail)
        have HS3:=hidW (HS2.out.drewN nq)
        clear HS2
        go_wp2
        go_roundw
        case rel=>exact ⟨j+1,by omega,by go_num,HS3⟩
        case measure=>simp [intOf]; omega
    · obtain rfl:j+1=n:=by omega
      have HE:Hid (nd l=l):=hidW (by
        have:=nd_plain (k:=j+1) HS1.out.ne (by rw [HN.out]; exact Nat.le_refl _)
        rwa [List.take_of_length_le (by rw [HN.out]; exact Nat.le_refl _)] at this)
      go_wp2
      go_ret
      exact ⟨by rw [HE.out,HN.out]; rfl,⟨rest,by rw [HE.out]; exact HS1.out.row⟩,HS1.out.trn⟩
end Go.Proofs.YtnjlajjjcmhfgaaGreatDoor
