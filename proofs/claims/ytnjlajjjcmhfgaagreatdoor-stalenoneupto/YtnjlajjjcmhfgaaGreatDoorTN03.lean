import Derived.Test.YtnjlajjjcmhfgaaGreatDoorTA33
import Derived.Test.YtnjlajjjcmhfgaaGreatDoorTN00
import Derived.Test.YtnjlajjjcmhfgaaGreatDoorTP02
import Derived.Test.YtnjlajjjcmhfgaaGreatDoorTA26
namespace Go.Proofs.YtnjlajjjcmhfgaaGreatDoor
open Go.RowKit
open Mm (Turn gr RM valV errV Byts setV RowAt)
set_option linter.unusedVariables false
set_option linter.unusedSimpArgs false
attribute [local go_sem] Oper.semAt_some
theorem lm_sli {W:World} {lo:Nat} {v:Value} {L:List Rm} (h:Bs.Lm W lo v L):Sli Bs.encR 2 W v L:=by
  obtain ⟨a,cap,e,hv⟩:=h.view
  refine ⟨a,cap,e,fun i o ho=> ?_⟩
  obtain ⟨g,ha,_,hlt,c1,c2,_⟩:=hv i o ho
  refine ⟨g,0,ha,hlt,fun j c hj=> ?_⟩
  match j with
  | 0=>cases hj; simpa using c1
  | 1=>cases hj; simpa using c2
  | j+2=>simp [Bs.encR] at hj
theorem Sli.room {W w:World} {a:Option Addr} {n cap:Nat} {l:List Rm} (h:Sli Bs.encR 2 W (.slice a n cap) l) (hb:Below W.heap.size W w) {k:Nat} {o:Rm} (hc:l[k]? =some o) :
    ∃b off,a=some ⟨b,off,none⟩∧b<W.heap.size∧w.cell? ⟨b,off+k*2,none⟩=some (.int .u64 o.lo)∧w.cell? ⟨b,off+k*2+1,none⟩=some (.int .u64 o.hi):=by
  obtain ⟨a',cap',e,h⟩:=h
  cases e
  obtain ⟨b,off,ha,hlt,hh⟩:=h k o hc
  have e:∀j v,(Bs.encR o)[j]? =some v→w.cell? ⟨b,off+k*2+j,none⟩=some v:=fun j v hv=>(hb.cell (p:=⟨b,off+k*2+j,none⟩) hlt).trans (hh j v hv)
  exact ⟨b,off,ha,hlt,e 0 _ rfl,e 1 _ rfl⟩
theorem any_take {α:Type} {g:α→Bool} {R:List α} {k:Nat} {r:α} (h:R[k]? =some r):(R.take (k+1)).any g=((R.take k).any g || g r):=by
  rw [List.take_add_one,h,Option.toList_some,List.any_append]
  simp
set_option maxRecDepth 1000000 in
set_option maxHeartbeats 16000000 in
theorem inside_any (W:World) (u:Value) (L:List Dir) (hu:Sli encD 10 W u L) (hl:L.length≤4611686018427387904) (hO:∀d∈L,BOk d.b) (ht:TR W) (a pg:Int) (hp:0≤pg∧pg<1048576) :
    Calls Tryz.prog 35 #[u,.int .i64 a,.int .u64 pg] W fun e w'=>e= .returned (.bool (L.any fun y=>y.asid == a && ovF y.b (pg*4096) a))∧Below W.heap.size W w':=by
  obtain ⟨ad,ca,rfl⟩:=hu.form
  have HU:=hidW hu
  have HO:=hidW hO
  have HT:=hidW ht
  clear hu hO ht
  obtain ⟨r,hr⟩:∃r,(L.any fun y=>y.asid == a && ovF y.b (pg*4096) a)=r:=⟨_,rfl⟩
  rw [hr]
  have HR:=hidW hr
  clear hr
  generalize hn:L.length=n at *
  have HLN:=hidW hn
  clear hn
  obtain ⟨va,hva⟩:∃va,pg*4096=va:=⟨_,rfl⟩
  have w1:IntKind.u64.wrap (pg*4096)=va:=by rw [IntKind.wrap_u64,←hva]; omega
  have w2:IntKind.u32.wrap va=va:=by rw [IntKind.wrap_u32,←hva]; omega
  have hv:0≤va∧va<4294967296:=by omega
  rw [hva] at HR
  clear hp hva
  go_enter Tryz.func35,Tryz.ntmps35
  go_wp2
  go_loopw [7] (fun i wr=>∃k:Nat,k≤n∧i= .int .i64 k∧Hid (Below W.heap.size W wr)∧Hid (∀j y,j<k→L[j]? =some y→(y.asid == a && ovF y.b va a)=false)) (fun i _=>n-(intOf i).toNat)
  case atStart=>exact ⟨0,Nat.zero_le _,rfl,Below.refl _ _,fun j y hj=>by omega⟩
  case round =>
    obtain ⟨k,hk,rfl,HK,HQ⟩:=hrel
    by_cases hlt:k<n
    · obtain ⟨o,hq⟩:∃o,L[k]? =some o:=⟨_,List.getElem?_eq_getElem (by rw [HLN.out]; omega)⟩
      obtain ⟨b1,o1,rfl,_,x0,x1,x2,x3,x4,x5,x6,x7,x8,x9⟩:=HU.out.dir HK.out hq
      have hkz:(k:Int)<(n:Int):=by omega
      have HC:=hidW (over_any o.b va a wr (HT.out.below HK.out) (HO.out o (List.mem_of_getElem? hq)) hv)
      have hstep:∀r,(o.asid == a && ovF o.b va a)=r→r=false→∀j y,j<k+1→L[j]? =some y→(y.asid == a && ovF y.b va a)=false:=fun r h1 h2 j y hj hy=>by
        rcases Nat.lt_or_ge j k with h|h
        · exact HQ.out j y h hy
        · obtain rfl:j=k:=by omega
          rw [hq] at hy; cases hy; rw [h1,h2]
      by_cases ha:o.asid=a
      · have hab:(o.asid == a)=true:=by simp [ha]
        cases hs:ovF o.b va a with
        | true =>
          have hrt:r=true:=by rw [←HR.out]; exact List.any_eq_true.2 ⟨o,List.mem_of_getElem? hq,by rw [hab,hs]; rfl⟩
          subst hrt
          subst ha
          rw [hs] at HC
          clear hq HQ hs hab hstep
          go_wp2_with fail
          go_at_call 34
          refine HC.out.mono ?_
          rintro e w9 ⟨rfl,g9⟩
          have HB9:=hidW (Below.step HK.out g9)
          clear g9 HC
          go_wp2
          go_ret
          exact ⟨rfl,HB9.out⟩
        | false =>
          have HQ2:=hidW (hstep false (by rw [hab,hs]; rfl) rfl)
          subst ha
          rw [hs] at HC
          clear hq HQ hs hab hstep
          go_wp2_with fail
          go_at_call 34
          refine HC.out.mono ?_
          rintro e w9 ⟨rfl,g9⟩
          have HB9:=hidW (Below.step HK.out g9)
          clear g9 HC
          go_wp2
          go_roundw
          case rel=>exact ⟨k+1,by omega,by go_num,HB9,HQ2⟩
          case measure=>simp [intOf]; omega
      · have hab:(o.asid == a)=false:=by simp [ha]
        have HQ2:=hidW (hstep false (by rw [hab]; rfl) rfl)
        clear hq HQ hstep HC
        go_wp2
        go_roundw
        case rel=>exact ⟨k+1,by omega,by go_num,HK,HQ2⟩
        case measure=>simp [intOf]; omega
    · obtain rfl:k=n:=by omega
      have hrf:r=false:=by
        rw [←HR.out]
        refine List.any_eq_false.2 (fun y hy=> ?_)
        obtain ⟨j,hj⟩:=List.getElem?_of_mem hy
        have:=(List.getElem?_eq_some_iff.1 hj).1
        rw [HQ.out j y (by rw [←HLN.out]; exact this) hj]
        decide
      subst hrf
      go_wp2
      go_ret
      exact ⟨rfl,HK.out⟩
end Go.Proofs.YtnjlajjjcmhfgaaGreatDoor
namespace Go.Proofs.YtnjlajjjcmhfgaaGreatDoor
open Go.RowKit
open Mm (Turn gr RM valV errV Byts setV RowAt)
set_option linter.unusedVariables false
set_option linter.unusedSimpArgs false
attribute [local go_sem] Oper.semAt_some
def noR (f:Func):Code:=lpC (blkC (sq2 (sq2 (sq2 (blkC (sq1 (sq2 (lpC (blkC (sq2 (sq1 (sq2 (sq2 (sq2 (sq2 (f.body.getD .skip))))))))))))))))
def noX (f:Func):Code:=blkC (sq1 (sq2 (noR f)))
def noB (f:Func):Code:=sq1 (sq1 (sq2 (noX f)))
def noE (f:Func):Code:=sq1 (sq2 (sq2 (noX f)))
theorem wp_at {C:Code} {P:Program} {Q:Exit→Act→World→Prop} {a:Act} {w w2:World} (hb:Below w.heap.size w w2) (h:∀ww,Below w.heap.size w ww→C.wp P Q a ww):C.wp P Q a w2:=h w2 hb
end Go.Proofs.YtnjlajjjcmhfgaaGreatDoor
