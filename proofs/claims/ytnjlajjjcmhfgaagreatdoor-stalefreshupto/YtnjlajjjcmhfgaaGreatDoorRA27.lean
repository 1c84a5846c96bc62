import Derived.Test.YtnjlajjjcmhfgaaGreatDoorRA26
namespace Go.Proofs.YtnjlajjjcmhfgaaGreatDoor
open Go.RowKit
open Mm (Turn gr RM valV errV Byts setV RowAt)
set_option linter.unusedVariables false
set_option linter.unusedSimpArgs false
attribute [local go_sem] Oper.semAt_some
set_option maxRecDepth 100000 in
set_option maxHeartbeats 4000000 in
theorem isDirty_any (W:World) (u:Value) (L:List Dir) (hu:Sli encD 10 W u L) (hl:L.length≤4611686018427387904) (ai:Int) (x:Blo) :
    Calls Tryz.prog 18 #[u,.int .i64 ai,.agg #[.int .i64 x.asid,.int .i64 x.t.size,.int .u32 x.t.va,.int .u64 x.t.pa,.int .i64 x.t.dom,.int .i64 x.t.ap,.int .u32 x.t.bits,.bool x.t.ng,.bool x.t.xn]] W fun e w'=>e= .returned (.bool (L.any fun y=>y.asid == ai && y.b.same x))∧Below W.heap.size W w':=by
  obtain ⟨a,ca,rfl⟩:=hu.form
  have HU:=hidW (hu.below (below_new W (.cells ([.int .i64 x.asid,.int .i64 x.t.size,.int .u32 x.t.va,.int .u64 x.t.pa,.int .i64 x.t.dom,.int .i64 x.t.ap,.int .u32 x.t.bits,.bool x.t.ng,.bool x.t.xn]).toArray 45)))
  have HB0:=hidW (below_new W (.cells ([.int .i64 x.asid,.int .i64 x.t.size,.int .u32 x.t.va,.int .u64 x.t.pa,.int .i64 x.t.dom,.int .i64 x.t.ap,.int .u32 x.t.bits,.bool x.t.ng,.bool x.t.xn]).toArray 45))
  have HX0:=hidW (Bl.new W 45 ([.int .i64 x.asid,.int .i64 x.t.size,.int .u32 x.t.va,.int .u64 x.t.pa,.int .i64 x.t.dom,.int .i64 x.t.ap,.int .u32 x.t.bits,.bool x.t.ng,.bool x.t.xn]))
  clear hu
  obtain ⟨r,hr⟩:∃r,(L.any fun y=>y.asid == ai && y.b.same x)=r:=⟨_,rfl⟩
  rw [hr]
  have HR:=hidW hr
  clear hr
  generalize hn:L.length=n at *
  have HLN:=hidW hn
  clear hn
  go_enter Tryz.func18,Tryz.ntmps18
  go_wp2
  generalize hw0:W.alloc (.cells #[.int .i64 x.asid,.int .i64 x.t.size,.int .u32 x.t.va,.int .u64 x.t.pa,.int .i64 x.t.dom,.int .i64 x.t.ap,.int .u32 x.t.bits,.bool x.t.ng,.bool x.t.xn] 45)=w0 at *
  clear hw0
  go_loopw [7] (fun i wr=>∃k:Nat,k≤n∧i= .int .i64 k∧Hid (Below w0.heap.size w0 wr)∧Hid (∀j y,j<k→L[j]? =some y→(y.asid == ai && y.b.same x)=false)) (fun i _=>n-(intOf i).toNat)
  case atStart=>exact ⟨0,Nat.zero_le _,rfl,Below.refl _ _,fun j y hj=>by omega⟩
  case round =>
    obtain ⟨k,hk,rfl,HK,HQ⟩:=hrel
    have hB:=HX0.out.below HK.out
    by_cases hlt:k<n
    · obtain ⟨o,hq⟩:∃o,L[k]? =some o:=⟨_,List.getElem?_eq_getElem (by rw [HLN.out]; omega)⟩
      obtain ⟨b1,o1,rfl,_,x0,x1,x2,x3,x4,x5,x6,x7,x8,x9⟩:=HU.out.dir HK.out hq
      have hkz:(k:Int)<(n:Int):=by omega
      have heq:=eqB o.b x
      have hcell:=hB.cell
      have HK2:Hid (∀q,Below w0.heap.size w0 (wr.drewN q)):=fun q=>below_drewN HK.out q
      by_cases ha:o.asid=ai
      · have hs0:(o.asid == ai && o.b.same x)=o.b.same x:=by simp [ha]
        have hab:(o.asid == ai)=true:=by simp [ha]
        cases hs:o.b.same x with
        | true =>
          rw [hs] at heq
          have hs0:=hs0.trans hs
          have hrt:r=true:=by rw [←HR.out]; exact List.any_eq_true.2 ⟨o,List.mem_of_getElem? hq,hs0⟩
          subst hrt
          subst ha
          clear hq HK HQ hs hs0 hab
          go_wp2
          go_quiet (fail)
          go_wp2
          go_ret
          exact ⟨rfl,Below.step HB0.out (HK2.out _)⟩
        | false =>
          rw [hs] at heq
          have hs0:=hs0.trans hs
          have HQ2:Hid (∀j y,j<k+1→L[j]? =some y→(y.asid == ai && y.b.same x)=false):=fun j y hj hy=>by
            rcases Nat.lt_or_ge j k with h|h
            · exact HQ.out j y h hy
            · obtain rfl:j=k:=by omega
              rw [hq] at hy; cases hy; exact hs0
          subst ha
          clear hq HK HQ hs hs0 hab
          go_wp2
          go_quiet (fail)
          go_wp2
          go_roundw
          case rel=>exact ⟨k+1,by omega,by go_num,HK2.out _,HQ2⟩
          case measure=>simp [intOf]; omega
      · have hab:(o.asid == ai)=false:=by simp [ha]
        have HQ2:Hid (∀j y,j<k+1→L[j]? =some y→(y.asid == ai && y.b.same x)=false):=fun j y hj hy=>by
          rcases Nat.lt_or_ge j k with h|h
          · exact HQ.out j y h hy
          · obtain rfl:j=k:=by omega
            rw [hq] at hy; cases hy; rw [hab]; rfl
        clear hq HK HQ
        go_wp2
        go_quiet (fail)
        go_wp2
        go_roundw
        case rel=>exact ⟨k+1,by omega,by go_num,HK2.out _,HQ2⟩
        case measure=>simp [intOf]; omega
    · obtain rfl:k=n:=by omega
      have hrf:r=false:=by
        rw [←HR.out]
        refine List.any_eq_false.2 (fun y hy=> ?_)
        obtain ⟨j,hj⟩:=List.getElem?_of_mem hy
        have:=(List.getElem?_eq_some_iff.1 hj).1
        rw [HQ.out j y (by rw [←HLN.out]; exact this) hj]
        decide
      subst hrf
      go_wp2
      go_ret
      exact ⟨rfl,Below.step HB0.out HK.out⟩
set_option maxHeartbeats 4000000 in
theorem lbytes_any (W:World) (b:Blo) (hs:1≤b.t.size∧b.t.size≤4) :
    Calls Tryz.prog 26 #[.agg #[.int .i64 b.asid,.int .i64 b.t.size,.int .u32 b.t.va,.int .u64 b.t.pa,.int .i64 b.t.dom,.int .i64 b.t.ap,.int .u32 b.t.bits,.bool b.t.ng,.bool b.t.xn]] W fun e w'=>e= .returned (.int .u64 (byN b.t.size))∧Below W.heap.size W w':=by
  obtain ⟨a,s,t2,t3,t4,t5,t6,t7,t8⟩:=b
  dsimp only at *
  rcases (show s=1∨s=2∨s=3∨s=4 by omega) with rfl|rfl|rfl|rfl
  all_goals
    go_enter Tryz.func26,Tryz.ntmps26
    go_wp2
    go_ret
    exact ⟨rfl,below_new _ _⟩
set_option maxHeartbeats 1000000 in
theorem tagged_any (t:Tra) (a:Int) (w:World):Calls Tryz.prog 15 #[.agg #[.int .i64 t.size,.int .u32 t.va,.int .u64 t.pa,.int .i64 t.dom,.int .i64 t.ap,.int .u32 t.bits,.bool t.ng,.bool t.xn],.int .i64 a] w fun e w'=>e= .returned (.agg #[.int .i64 ((tgB a t)).asid,.int .i64 ((tgB a t)).t.size,.int .u32 ((tgB a t)).t.va,.int .u64 ((tgB a t)).t.pa,.int .i64 ((tgB a t)).t.dom,.int .i64 ((tgB a t)).t.ap,.int .u32 ((tgB a t)).t.bits,.bool ((tgB a t)).t.ng,.bool ((tgB a t)).t.xn])∧Below w.heap.size w w':=by
  obtain ⟨t1,t2,t3,t4,t5,t6,t7,t8⟩:=t
  cases t7
  all_goals
    go_enter Tryz.func15,Tryz.ntmps15
    go_wp2
    refine bodyPost_ret (by simp [results,Tryz.results15,go_sem]; rfl) rfl ⟨by simp [tgB],?_⟩
    (repeat (first|refine Below.setCell ?_ (by simp) _|refine Below.alloc ?_ (by simp) _)); exact Below.refl _ _
end Go.Proofs.YtnjlajjjcmhfgaaGreatDoor
