import Derived.Test.YtnjlajjjcmhfgaaGreatDoorTA13
namespace Go.Proofs.YtnjlajjjcmhfgaaGreatDoor
open Go.RowKit
open Mm (Turn)
set_option linter.unusedVariables false
set_option linter.unusedSimpArgs false
set_option maxRecDepth 100000 in
theorem isAsid_any (n:Int) (w:World):Calls Tryz.prog 76 #[.int .i64 n] w fun e w'=>e= .returned (.bool (asF n))∧w=w':=by
  unfold asF
  by_cases h1:0≤n
  · have q:decide (0≤n)=true:=decide_eq_true h1
    go_enter Tryz.func76,Tryz.ntmps76
    go_wp2
    go_ret
    exact ⟨by simp [h1],rfl⟩
  · have q:decide (0≤n)=false:=decide_eq_false h1
    go_enter Tryz.func76,Tryz.ntmps76
    go_wp2
    go_ret
    exact ⟨by simp [h1],rfl⟩
structure BX1 (W w:World) (b:Blo):Prop where
  bel:Below W.heap.size W w
  box:Bl w W.heap.size 45 ([.int .i64 b.asid,.int .i64 b.t.size,.int .u32 b.t.va,.int .u64 b.t.pa,.int .i64 b.t.dom,.int .i64 b.t.ap,.int .u32 b.t.bits,.bool b.t.ng,.bool b.t.xn])
theorem BX1.new (W:World) (b:Blo):BX1 W (W.alloc (.cells ([.int .i64 b.asid,.int .i64 b.t.size,.int .u32 b.t.va,.int .u64 b.t.pa,.int .i64 b.t.dom,.int .i64 b.t.ap,.int .u32 b.t.bits,.bool b.t.ng,.bool b.t.xn]).toArray 45)) b:=⟨below_new _ _,Bl.new _ _ _⟩
theorem BX1.step {W w w':World} {b:Blo} (h:BX1 W w b) (hb:Below w.heap.size w w'):BX1 W w' b:=⟨Below.step h.bel hb,h.box.below hb⟩
theorem BX1.drewN {W w:World} {b:Blo} (h:BX1 W w b) (q:Nat):BX1 W (w.drewN q) b:=⟨below_drewN h.bel q,h.box.drewN q⟩
set_option maxRecDepth 100000 in
set_option maxHeartbeats 4000000 in
theorem tright_any (b:Blo) (W:World) (ht:TR W) (hO:BOk b):Calls Tryz.prog 44 #[.agg #[.int .i64 b.asid,.int .i64 b.t.size,.int .u32 b.t.va,.int .u64 b.t.pa,.int .i64 b.t.dom,.int .i64 b.t.ap,.int .u32 b.t.bits,.bool b.t.ng,.bool b.t.xn]] W fun e w'=>e= .returned (.bool (bR b))∧Below W.heap.size W w':=by
  have HR:Hid (∀w,Below W.heap.size W w→Calls Tryz.prog 51 #[.agg #[.int .i64 (b.t).size,.int .u32 (b.t).va,.int .u64 (b.t).pa,.int .i64 (b.t).dom,.int .i64 (b.t).ap,.int .u32 (b.t).bits,.bool (b.t).ng,.bool (b.t).xn]] w fun r w'=>r= .returned (.bool (riF b.t))∧Below w.heap.size w w'):=fun w h=>right_any b.t w (ht.below h) hO.va ⟨hO.pa,hO.bits⟩
  have HX:Hid (BX1 W (W.alloc (.cells ([.int .i64 b.asid,.int .i64 b.t.size,.int .u32 b.t.va,.int .u64 b.t.pa,.int .i64 b.t.dom,.int .i64 b.t.ap,.int .u32 b.t.bits,.bool b.t.ng,.bool b.t.xn]).toArray 45)) b):=BX1.new W b
  have HA:=isAsid_any
  clear ht hO
  obtain ⟨aid,sz,va,pa,dm,ap,bi,ng,xn⟩:=b
  cases hr:riF ⟨sz,va,pa,dm,ap,bi,ng,xn⟩
  · have hf:bR ⟨aid,⟨sz,va,pa,dm,ap,bi,ng,xn⟩⟩=false:=by simp [bR,hr]
    rw [hf]
    rw [hr] at HR
    clear hr hf
    go_enter Tryz.func44,Tryz.ntmps44
    go_wp2_with (fail)
    go_at_call 51
    refine (HR.out _ HX.out.bel).mono ?_
    rintro e w1 ⟨rfl,hb⟩
    have HX1:=hidW (HX.out.step hb)
    clear hb HX HR
    go_wp2
    go_ret
    exact ⟨rfl,HX1.out.bel⟩
  · rw [hr] at HR
    cases ng
    · have hf:bR ⟨aid,⟨sz,va,pa,dm,ap,bi,false,xn⟩⟩=(aid == -1):=by simp [bR,hr]
      rw [hf]
      clear hr hf
      go_enter Tryz.func44,Tryz.ntmps44
      go_wp2_with (fail)
      go_at_call 51
      refine (HR.out _ HX.out.bel).mono ?_
      rintro e w1 ⟨rfl,hb⟩
      have HX1:=hidW (HX.out.step hb)
      clear hb HX HR
      have c0:=HX1.out.box.cell
      go_wp2
      go_ret
      exact ⟨rfl,HX1.out.bel⟩
    · have hf:bR ⟨aid,⟨sz,va,pa,dm,ap,bi,true,xn⟩⟩=asF aid:=by simp [bR,hr]
      rw [hf]
      clear hr hf
      go_enter Tryz.func44,Tryz.ntmps44
      go_wp2_with (fail)
      go_at_call 51
      refine (HR.out _ HX.out.bel).mono ?_
      rintro e w1 ⟨rfl,hb⟩
      have HX1:=hidW (HX.out.step hb)
      clear hb HX HR
      have c0:=HX1.out.box.cell
      go_wp2_with (go_at_call 76; refine (HA _ _).mono ?_; rintro e w' ⟨rfl,rfl⟩)
      go_ret
      exact ⟨rfl,HX1.out.bel⟩
set_option maxRecDepth 100000 in
set_option maxHeartbeats 4000000 in
theorem holds_any (b:Blo) (asid:Int) (W:World):Calls Tryz.prog 97 #[.agg #[.int .i64 b.asid,.int .i64 b.t.size,.int .u32 b.t.va,.int .u64 b.t.pa,.int .i64 b.t.dom,.int .i64 b.t.ap,.int .u32 b.t.bits,.bool b.t.ng,.bool b.t.xn],.int .i64 asid] W fun e w'=>e= .returned (.bool (hoF b asid))∧Below W.heap.size W w':=by
  obtain ⟨aid,sz,va,pa,dm,ap,bi,ng,xn⟩:=b
  unfold hoF
  by_cases h:aid=asid
  · have q:(aid == asid)=true:=by simp [h]
    subst h
    go_enter Tryz.func97,Tryz.ntmps97
    go_wp2
    go_ret
    exact ⟨by simp,below_new _ _⟩
  · have q:(aid == asid)=false:=by simp [h]
    go_enter Tryz.func97,Tryz.ntmps97
    go_wp2
    go_ret
    exact ⟨by simp [h],below_new _ _⟩
set_option maxRecDepth 100000 in
set_option maxHeartbeats 4000000 in
theorem lies_any (b:Blo) (va:Int) (W:World) (ht:TB W) (hO:BOk b) (hv:0≤va∧va<4294967296):Calls Tryz.prog 81 #[.agg #[.int .i64 b.asid,.int .i64 b.t.size,.int .u32 b.t.va,.int .u64 b.t.pa,.int .i64 b.t.dom,.int .i64 b.t.ap,.int .u32 b.t.bits,.bool b.t.ng,.bool b.t.xn],.int .u32 va] W fun e w'=>e= .returned (.bool (liF b va))∧Below W.heap.size W w':=by
  have HY:Hid (∀w,Below W.heap.size W w→Calls Tryz.prog 53 #[.int .i64 b.t.size] w fun r w'=>r= .returned (.int .u64 (byN b.t.size))∧w'=w):=fun w h=>(bytes_any _ _ (ht.below h)).mono fun _ _ h=>⟨h.1,h.2.symm⟩
  have HX:Hid (BX1 W (W.alloc (.cells ([.int .i64 b.asid,.int .i64 b.t.size,.int .u32 b.t.va,.int .u64 b.t.pa,.int .i64 b.t.dom,.int .i64 b.t.ap,.int .u32 b.t.bits,.bool b.t.ng,.bool b.t.xn]).toArray 45)) b):=BX1.new W b
  have h0:=hO.va
  clear ht hO
  obtain ⟨aid,sz,v0,pa,dm,ap,bi,ng,xn⟩:=b
  unfold liF
  dsimp only at *
  by_cases h:v0≤va
  · have q:decide (v0≤va)=true:=by simp [h]
    rw [q]
    go_enter Tryz.func81,Tryz.ntmps81
    go_wp2
    generalize W.alloc _=wr at *
    have c0:=HX.out.box.cell
    have HZ:=fun q=>hidW (HX.out.drewN q)
    clear HX
    go_quiet ((go_at_call 53; exact Calls.quiet_of_same (HY.out _ (HZ _).out.bel)))
    go_wp2
    go_ret
    exact ⟨by simp,(HZ _).out.bel⟩
  · have q:decide (v0≤va)=false:=by simp [h]
    rw [q]
    go_enter Tryz.func81,Tryz.ntmps81
    go_wp2
    generalize W.alloc _=wr at *
    have c0:=HX.out.box.cell
    have HZ:=fun q=>hidW (HX.out.drewN q)
    clear HX
    go_quiet ((go_at_call 53; exact Calls.quiet_of_same (HY.out _ (HZ _).out.bel)))
    go_wp2
    go_ret
    exact ⟨by simp,(HZ _).out.bel⟩
set_option maxRecDepth 100000 in
set_option maxHeartbeats 4000000 in
theorem match_any (b:Blo) (va asid:Int) (W:World) (ht:TB W) (hO:BOk b) (hv:0≤va∧va<4294967296):Calls Tryz.prog 59 #[.agg #[.int .i64 b.asid,.int .i64 b.t.size,.int .u32 b.t.va,.int .u64 b.t.pa,.int .i64 b.t.dom,.int .i64 b.t.ap,.int .u32 b.t.bits,.bool b.t.ng,.bool b.t.xn],.int .u32 va,.int .i64 asid] W fun e w'=>e= .returned (.bool (maF b va asid))∧Below W.heap.size W w':=by
  have HL:Hid (∀w,Below W.heap.size W w→Calls Tryz.prog 81 #[.agg #[.int .i64 b.asid,.int .i64 b.t.size,.int .u32 b.t.va,.int .u64 b.t.pa,.int .i64 b.t.dom,.int .i64 b.t.ap,.int .u32 b.t.bits,.bool b.t.ng,.bool b.t.xn],.int .u32 va] w fun e w'=>e= .returned (.bool (liF b va))∧Below w.heap.size w w'):=fun w h=>lies_any b va w (ht.below h) hO hv
  have HH:Hid (∀w,Calls Tryz.prog 97 #[.agg #[.int .i64 b.asid,.int .i64 b.t.size,.int .u32 b.t.va,.int .u64 b.t.pa,.int .i64 b.t.dom,.int .i64 b.t.ap,.int .u32 b.t.bits,.bool b.t.ng,.bool b.t.xn],.int .i64 asid] w fun e w'=>e= .returned (.bool (hoF b asid))∧Below w.heap.size w w'):=fun w=>holds_any b asid w
  have HX:Hid (BX1 W (W.alloc (.cells ([.int .i64 b.asid,.int .i64 b.t.size,.int .u32 b.t.va,.int .u64 b.t.pa,.int .i64 b.t.dom,.int .i64 b.t.ap,.int .u32 b.t.bits,.bool b.t.ng,.bool b.t.xn]).toArray 45)) b):=BX1.new W b
  unfold maF
  generalize liF b va=l at *
  generalize hoF b asid=h at *
  clear ht hO
  obtain ⟨aid,sz,v0,pa,dm,ap,bi,ng,xn⟩:=b
  cases l
  · go_enter Tryz.func59,Tryz.ntmps59
    go_wp2_with (fail)
    go_at_call 81
    refine (HL.out _ HX.out.bel).mono ?_
    rintro e w1 ⟨rfl,hb⟩
    have HX1:=hidW (HX.out.step hb)
    clear hb HX HL
    go_wp2
    go_ret
    exact ⟨rfl,HX1.out.bel⟩
  · go_enter Tryz.func59,Tryz.ntmps59
    go_wp2_with (fail)
    go_at_call 81
    refine (HL.out _ HX.out.bel).mono ?_
    rintro e w1 ⟨rfl,hb⟩
    have HX1:=hidW (HX.out.step hb)
    clear hb HX HL
    have c0:=HX1.out.box.cell
    go_wp2_with (fail)
    go_at_call 97
    refine (HH.out _).mono ?_
    rintro e w2 ⟨rfl,hb⟩
    have HX2:=hidW (HX1.out.step hb)
    clear hb HX1 HH c0
    go_wp2
    go_ret
    exact ⟨by simp,HX2.out.bel⟩
set_option maxRecDepth 100000 in
set_option maxHeartbeats 4000000 in
theorem over_any (b:Blo) (va asid:Int) (W:World) (ht:TR W) (hO:BOk b) (hv:0≤va∧va<4294967296):Calls Tryz.prog 34 #[.agg #[.int .i64 b.asid,.int .i64 b.t.size,.int .u32 b.t.va,.int .u64 b.t.pa,.int .i64 b.t.dom,.int .i64 b.t.ap,.int .u32 b.t.bits,.bool b.t.ng,.bool b.t.xn],.int .u32 va,.int .i64 asid] W fun e w'=>e= .returned (.bool (ovF b va asid))∧Below W.heap.size W w':=by
  have HL:Hid (∀w,Below W.heap.size W w→Calls Tryz.prog 44 #[.agg #[.int .i64 b.asid,.int .i64 b.t.size,.int .u32 b.t.va,.int .u64 b.t.pa,.int .i64 b.t.dom,.int .i64 b.t.ap,.int .u32 b.t.bits,.bool b.t.ng,.bool b.t.xn]] w fun e w'=>e= .returned (.bool (bR b))∧Below w.heap.size w w'):=fun w h=>tright_any b w (ht.below h) hO
  have HH:Hid (∀w,Below W.heap.size W w→Calls Tryz.prog 59 #[.agg #[.int .i64 b.asid,.int .i64 b.t.size,.int .u32 b.t.va,.int .u64 b.t.pa,.int .i64 b.t.dom,.int .i64 b.t.ap,.int .u32 b.t.bits,.bool b.t.ng,.bool b.t.xn],.int .u32 va,.int .i64 asid] w fun e w'=>e= .returned (.bool (maF b va asid))∧Below w.heap.size w w'):=fun w h=>match_any b va asid w (ht.tb.below h) hO hv
  have HX:Hid (BX1 W (W.alloc (.cells ([.int .i64 b.asid,.int .i64 b.t.size,.int .u32 b.t.va,.int .u64 b.t.pa,.int .i64 b.t.dom,.int .i64 b.t.ap,.int .u32 b.t.bits,.bool b.t.ng,.bool b.t.xn]).toArray 45)) b):=BX1.new W b
  unfold ovF
  generalize bR b=l at *
  generalize maF b va asid=h at *
  clear ht hO
  obtain ⟨aid,sz,v0,pa,dm,ap,bi,ng,xn⟩:=b
  cases l
  · go_enter Tryz.func34,Tryz.ntmps34
    go_wp2_with (fail)
    go_at_call 44
    refine (HL.out _ HX.out.bel).mono ?_
    rintro e w1 ⟨rfl,hb⟩
    have HX1:=hidW (HX.out.step hb)
    clear hb HX HL
    go_wp2
    go_ret
    exact ⟨rfl,HX1.out.bel⟩
  · go_enter Tryz.func34,Tryz.ntmps34
    go_wp2_with (fail)
    go_at_call 44
    refine (HL.out _ HX.out.bel).mono ?_
    rintro e w1 ⟨rfl,hb⟩
    have HX1:=hidW (HX.out.step hb)
    clear hb HX HL
    have c0:=HX1.out.box.cell
    go_wp2_with (fail)
    go_at_call 59
    refine (HH.out _ HX1.out.bel).mono ?_
    rintro e w2 ⟨rfl,hb⟩
    have HX2:=hidW (HX1.out.step hb)
    clear hb HX1 HH c0
    go_wp2
    go_ret
    exact ⟨by simp,HX2.out.bel⟩
end Go.Proofs.YtnjlajjjcmhfgaaGreatDoor
namespace Go.Proofs.YtnjlajjjcmhfgaaGreatDoor
open Go.RowKit
open Mm (Turn)
set_option linter.unusedVariables false
set_option linter.unusedSimpArgs false
section
variable {T:TypeId} {W wr w':World} {p g:Nat} {L:List Slo}
end
end Go.Proofs.YtnjlajjjcmhfgaaGreatDoor
namespace Go.Proofs.YtnjlajjjcmhfgaaGreatDoor
open Go.RowKit
open Mm (Turn)
set_option linter.unusedVariables false
set_option linter.unusedSimpArgs false
section
variable {W wr w':World} {A B p g:Nat} {L:List Slo} {b:Blo}
end
end Go.Proofs.YtnjlajjjcmhfgaaGreatDoor
