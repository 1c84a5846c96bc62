import Derived.Test.YtkmgmmmpiallhaaDoorRm
namespace Go.Proofs.YtkmgmmmpiallhaaDoor
open Go.RowKit
set_option linter.unusedVariables false
set_option linter.unusedSimpArgs false
set_option maxRecDepth 100000 in
set_option maxHeartbeats 2000000 in
theorem may_c15 (o:Value) (q:Int) (s:ByteArray) (jc jo jf jd jn jm jr ja ji jt jk jl jx jy jz jv:Int) (js jp ju jw:Bool) (w:World) (ANY L1 L15:Bool)
    (HA:Hid (∀w',Calls Tryd.prog 60 #[.agg #[o,.int .i64 q,.string s],.agg #[.int .i64 jc,.int .i64 jo,.bool js,.int .i64 jf,.int .i64 jd,.int .i64 jn,.int .i64 jm,.int .i64 jr,.int .i64 ja,.int .u32 ji,.int .i64 jt,.int .i64 jk,.bool jp,.bool ju,.bool jw,.int .u16 jl,.int .i64 jx,.int .i64 jy,.int .i64 jz,.int .i64 jv]] w' fun e w''=>e= .returned (.bool ANY)∧Below w'.heap.size w' w''))
    (HL:Hid (∀w',Calls Tryd.prog 61 #[.int .u16 jl,.int .i64 jn] w' fun e w''=>e= .returned (.bool L1)∧w''=w'))
    (HM:Hid (∀w',Calls Tryd.prog 61 #[.int .u16 jl,.int .i64 15] w' fun e w''=>e= .returned (.bool L15)∧w''=w')) (e15:(jc == 15)=true) :
    Calls Tryd.prog 52 #[.agg #[o,.int .i64 q,.string s],.agg #[.int .i64 jc,.int .i64 jo,.bool js,.int .i64 jf,.int .i64 jd,.int .i64 jn,.int .i64 jm,.int .i64 jr,.int .i64 ja,.int .u32 ji,.int .i64 jt,.int .i64 jk,.bool jp,.bool ju,.bool jw,.int .u16 jl,.int .i64 jx,.int .i64 jy,.int .i64 jz,.int .i64 jv]] w fun e w'=>e= .returned (.bool (mayL ANY L1 L15 q jc jo jd jn jm ja jk jl jp jw))∧Below w.heap.size w w':=by
  have HX:=hidW (WX.first w [o,.int .i64 q,.string s] [.int .i64 jc,.int .i64 jo,.bool js,.int .i64 jf,.int .i64 jd,.int .i64 jn,.int .i64 jm,.int .i64 jr,.int .i64 ja,.int .u32 ji,.int .i64 jt,.int .i64 jk,.bool jp,.bool ju,.bool jw,.int .u16 jl,.int .i64 jx,.int .i64 jy,.int .i64 jz,.int .i64 jv])
  obtain ⟨k0,k1,k2,m0,m1,m4,m5,m6,m8,m11,m12,m14,m15⟩:=wm_cells HX.out
  go_enter Tryd.func52,Tryd.ntmps52
  go_wp2
  refine bodyPost_ret (by simp [results,Tryd.results52,go_sem]; rfl) rfl ⟨?_,HX.out.bel⟩
  congr 2
  first|rfl|simp [mayL, *]
set_option maxRecDepth 100000 in
set_option maxHeartbeats 2000000 in
theorem may_r3 (o:Value) (q:Int) (s:ByteArray) (jc jo jf jd jn jm jr ja ji jt jk jl jx jy jz jv:Int) (js jp ju jw:Bool) (w:World) (ANY L1 L15:Bool)
    (HA:Hid (∀w',Calls Tryd.prog 60 #[.agg #[o,.int .i64 q,.string s],.agg #[.int .i64 jc,.int .i64 jo,.bool js,.int .i64 jf,.int .i64 jd,.int .i64 jn,.int .i64 jm,.int .i64 jr,.int .i64 ja,.int .u32 ji,.int .i64 jt,.int .i64 jk,.bool jp,.bool ju,.bool jw,.int .u16 jl,.int .i64 jx,.int .i64 jy,.int .i64 jz,.int .i64 jv]] w' fun e w''=>e= .returned (.bool ANY)∧Below w'.heap.size w' w''))
    (HL:Hid (∀w',Calls Tryd.prog 61 #[.int .u16 jl,.int .i64 jn] w' fun e w''=>e= .returned (.bool L1)∧w''=w'))
    (HM:Hid (∀w',Calls Tryd.prog 61 #[.int .u16 jl,.int .i64 15] w' fun e w''=>e= .returned (.bool L15)∧w''=w')) (e15:(jc == 15)=false) (e3:(q == 3)=true) (c0:1≤jo) (c1:jo≤16) :
    Calls Tryd.prog 52 #[.agg #[o,.int .i64 q,.string s],.agg #[.int .i64 jc,.int .i64 jo,.bool js,.int .i64 jf,.int .i64 jd,.int .i64 jn,.int .i64 jm,.int .i64 jr,.int .i64 ja,.int .u32 ji,.int .i64 jt,.int .i64 jk,.bool jp,.bool ju,.bool jw,.int .u16 jl,.int .i64 jx,.int .i64 jy,.int .i64 jz,.int .i64 jv]] w fun e w'=>e= .returned (.bool (mayL ANY L1 L15 q jc jo jd jn jm ja jk jl jp jw))∧Below w.heap.size w w':=by
  have HX:=hidW (WX.first w [o,.int .i64 q,.string s] [.int .i64 jc,.int .i64 jo,.bool js,.int .i64 jf,.int .i64 jd,.int .i64 jn,.int .i64 jm,.int .i64 jr,.int .i64 ja,.int .u32 ji,.int .i64 jt,.int .i64 jk,.bool jp,.bool ju,.bool jw,.int .u16 jl,.int .i64 jx,.int .i64 jy,.int .i64 jz,.int .i64 jv])
  have f0:decide (17≤jo)=false:=decide_eq_false (by omega)
  have f1:decide (jo≤30)=true:=decide_eq_true (by omega)
  have f2:decide (31≤jo)=false:=decide_eq_false (by omega)
  have f3:decide (jo≤38)=true:=decide_eq_true (by omega)
  have f4:(jo == 39)=false:=beq_eq_false_iff_ne.2 (by omega)
  have f5:(jo == 40)=false:=beq_eq_false_iff_ne.2 (by omega)
  have f6:(jo == 43)=false:=beq_eq_false_iff_ne.2 (by omega)
  have f7:(jo == 44)=false:=beq_eq_false_iff_ne.2 (by omega)
  have f8:(jo == 46)=false:=beq_eq_false_iff_ne.2 (by omega)
  have f9:(jo == 47)=false:=beq_eq_false_iff_ne.2 (by omega)
  have f10:(jo == 49)=false:=beq_eq_false_iff_ne.2 (by omega)
  have f11:(jo == 50)=false:=beq_eq_false_iff_ne.2 (by omega)
  have f12:(jo == 48)=false:=beq_eq_false_iff_ne.2 (by omega)
  cases ANY
  · obtain ⟨k0,k1,k2,m0,m1,m4,m5,m6,m8,m11,m12,m14,m15⟩:=wm_cells HX.out
    go_enter Tryd.func52,Tryd.ntmps52
    go_wp2_with (first|(guard_target =~ wpList _ _ _ (Oper.mk (some 14) _ _ _ _ _::_) _ _; refine wpList_load_want (by rfl) _ _ rfl (w.heap.size+1) 0 rfl _ _ HX.out.ins.range Tryd.underlying28 rfl ins_size ?_)|(go_at_call 60; refine (HA.out _).mono ?_; rintro e wx ⟨rfl,hb⟩; have HX:=hidW (HX.out.step hb); clear hb k0 k1 k2 m0 m1 m4 m5 m6 m8 m11 m12 m14 m15; obtain ⟨k0,k1,k2,m0,m1,m4,m5,m6,m8,m11,m12,m14,m15⟩:=wm_cells HX.out; refine Hid.out ?_))
    refine hidW (hidW ?_)
    go_wp2
    refine bodyPost_ret (by simp [results,Tryd.results52,go_sem]; rfl) rfl ⟨?_,HX.out.bel⟩
    congr 2
    first|rfl|simp [mayL, *]
  · obtain ⟨k0,k1,k2,m0,m1,m4,m5,m6,m8,m11,m12,m14,m15⟩:=wm_cells HX.out
    go_enter Tryd.func52,Tryd.ntmps52
    go_wp2_with (first|(guard_target =~ wpList _ _ _ (Oper.mk (some 14) _ _ _ _ _::_) _ _; refine wpList_load_want (by rfl) _ _ rfl (w.heap.size+1) 0 rfl _ _ HX.out.ins.range Tryd.underlying28 rfl ins_size ?_)|(go_at_call 60; refine (HA.out _).mono ?_; rintro e wx ⟨rfl,hb⟩; have HX:=hidW (HX.out.step hb); clear hb k0 k1 k2 m0 m1 m4 m5 m6 m8 m11 m12 m14 m15; obtain ⟨k0,k1,k2,m0,m1,m4,m5,m6,m8,m11,m12,m14,m15⟩:=wm_cells HX.out; refine Hid.out ?_))
    refine hidW (hidW ?_)
    go_wp2
    refine bodyPost_ret (by simp [results,Tryd.results52,go_sem]; rfl) rfl ⟨?_,HX.out.bel⟩
    congr 2
    first|rfl|simp [mayL, *]
set_option maxRecDepth 100000 in
set_option maxHeartbeats 2000000 in
theorem may_k1 (o:Value) (q:Int) (s:ByteArray) (jc jo jf jd jn jm jr ja ji jt jk jl jx jy jz jv:Int) (js jp ju jw:Bool) (w:World) (ANY L1 L15:Bool)
    (HA:Hid (∀w',Calls Tryd.prog 60 #[.agg #[o,.int .i64 q,.string s],.agg #[.int .i64 jc,.int .i64 jo,.bool js,.int .i64 jf,.int .i64 jd,.int .i64 jn,.int .i64 jm,.int .i64 jr,.int .i64 ja,.int .u32 ji,.int .i64 jt,.int .i64 jk,.bool jp,.bool ju,.bool jw,.int .u16 jl,.int .i64 jx,.int .i64 jy,.int .i64 jz,.int .i64 jv]] w' fun e w''=>e= .returned (.bool ANY)∧Below w'.heap.size w' w''))
    (HL:Hid (∀w',Calls Tryd.prog 61 #[.int .u16 jl,.int .i64 jn] w' fun e w''=>e= .returned (.bool L1)∧w''=w'))
    (HM:Hid (∀w',Calls Tryd.prog 61 #[.int .u16 jl,.int .i64 15] w' fun e w''=>e= .returned (.bool L15)∧w''=w')) (e15:(jc == 15)=false) (e3:(q == 3)=false) (c0:1≤jo) (c1:jo≤16) :
    Calls Tryd.prog 52 #[.agg #[o,.int .i64 q,.string s],.agg #[.int .i64 jc,.int .i64 jo,.bool js,.int .i64 jf,.int .i64 jd,.int .i64 jn,.int .i64 jm,.int .i64 jr,.int .i64 ja,.int .u32 ji,.int .i64 jt,.int .i64 jk,.bool jp,.bool ju,.bool jw,.int .u16 jl,.int .i64 jx,.int .i64 jy,.int .i64 jz,.int .i64 jv]] w fun e w'=>e= .returned (.bool (mayL ANY L1 L15 q jc jo jd jn jm ja jk jl jp jw))∧Below w.heap.size w w':=by
  have HX:=hidW (WX.first w [o,.int .i64 q,.string s] [.int .i64 jc,.int .i64 jo,.bool js,.int .i64 jf,.int .i64 jd,.int .i64 jn,.int .i64 jm,.int .i64 jr,.int .i64 ja,.int .u32 ji,.int .i64 jt,.int .i64 jk,.bool jp,.bool ju,.bool jw,.int .u16 jl,.int .i64 jx,.int .i64 jy,.int .i64 jz,.int .i64 jv])
  have f0:decide (17≤jo)=false:=decide_eq_false (by omega)
  have f1:decide (jo≤30)=true:=decide_eq_true (by omega)
  have f2:decide (31≤jo)=false:=decide_eq_false (by omega)
  have f3:decide (jo≤38)=true:=decide_eq_true (by omega)
  have f4:(jo == 39)=false:=beq_eq_false_iff_ne.2 (by omega)
  have f5:(jo == 40)=false:=beq_eq_false_iff_ne.2 (by omega)
  have f6:(jo == 43)=false:=beq_eq_false_iff_ne.2 (by omega)
  have f7:(jo == 44)=false:=beq_eq_false_iff_ne.2 (by omega)
  have f8:(jo == 46)=false:=beq_eq_false_iff_ne.2 (by omega)
  have f9:(jo == 47)=false:=beq_eq_false_iff_ne.2 (by omega)
  have f10:(jo == 49)=false:=beq_eq_false_iff_ne.2 (by omega)
  have f11:(jo == 50)=false:=beq_eq_false_iff_ne.2 (by omega)
  have f12:(jo == 48)=false:=beq_eq_false_iff_ne.2 (by omega)
  obtain ⟨k0,k1,k2,m0,m1,m4,m5,m6,m8,m11,m12,m14,m15⟩:=wm_cells HX.out
  go_enter Tryd.func52,Tryd.ntmps52
  go_wp2
  refine bodyPost_ret (by simp [results,Tryd.results52,go_sem]; rfl) rfl ⟨?_,HX.out.bel⟩
  congr 2
  first|rfl|simp [mayL, *]
set_option maxRecDepth 100000 in
set_option maxHeartbeats 2000000 in
theorem may_k2 (o:Value) (q:Int) (s:ByteArray) (jc jo jf jd jn jm jr ja ji jt jk jl jx jy jz jv:Int) (js jp ju jw:Bool) (w:World) (ANY L1 L15:Bool)
    (HA:Hid (∀w',Calls Tryd.prog 60 #[.agg #[o,.int .i64 q,.string s],.agg #[.int .i64 jc,.int .i64 jo,.bool js,.int .i64 jf,.int .i64 jd,.int .i64 jn,.int .i64 jm,.int .i64 jr,.int .i64 ja,.int .u32 ji,.int .i64 jt,.int .i64 jk,.bool jp,.bool ju,.bool jw,.int .u16 jl,.int .i64 jx,.int .i64 jy,.int .i64 jz,.int .i64 jv]] w' fun e w''=>e= .returned (.bool ANY)∧Below w'.heap.size w' w''))
    (HL:Hid (∀w',Calls Tryd.prog 61 #[.int .u16 jl,.int .i64 jn] w' fun e w''=>e= .returned (.bool L1)∧w''=w'))
    (HM:Hid (∀w',Calls Tryd.prog 61 #[.int .u16 jl,.int .i64 15] w' fun e w''=>e= .returned (.bool L15)∧w''=w')) (e15:(jc == 15)=false) (e3:(q == 3)=false) (c0:17≤jo) (c1:jo≤30) :
    Calls Tryd.prog 52 #[.agg #[o,.int .i64 q,.string s],.agg #[.int .i64 jc,.int .i64 jo,.bool js,.int .i64 jf,.int .i64 jd,.int .i64 jn,.int .i64 jm,.int .i64 jr,.int .i64 ja,.int .u32 ji,.int .i64 jt,.int .i64 jk,.bool jp,.bool ju,.bool jw,.int .u16 jl,.int .i64 jx,.int .i64 jy,.int .i64 jz,.int .i64 jv]] w fun e w'=>e= .returned (.bool (mayL ANY L1 L15 q jc jo jd jn jm ja jk jl jp jw))∧Below w.heap.size w w':=by
  have HX:=hidW (WX.first w [o,.int .i64 q,.string s] [.int .i64 jc,.int .i64 jo,.bool js,.int .i64 jf,.int .i64 jd,.int .i64 jn,.int .i64 jm,.int .i64 jr,.int .i64 ja,.int .u32 ji,.int .i64 jt,.int .i64 jk,.bool jp,.bool ju,.bool jw,.int .u16 jl,.int .i64 jx,.int .i64 jy,.int .i64 jz,.int .i64 jv])
  have f0:decide (17≤jo)=true:=decide_eq_true (by omega)
  have f1:decide (jo≤30)=true:=decide_eq_true (by omega)
  have f2:decide (31≤jo)=false:=decide_eq_false (by omega)
  have f3:decide (jo≤38)=true:=decide_eq_true (by omega)
  have f4:(jo == 39)=false:=beq_eq_false_iff_ne.2 (by omega)
  have f5:(jo == 40)=false:=beq_eq_false_iff_ne.2 (by omega)
  have f6:(jo == 43)=false:=beq_eq_false_iff_ne.2 (by omega)
  have f7:(jo == 44)=false:=beq_eq_false_iff_ne.2 (by omega)
  have f8:(jo == 46)=false:=beq_eq_false_iff_ne.2 (by omega)
  have f9:(jo == 47)=false:=beq_eq_false_iff_ne.2 (by omega)
  have f10:(jo == 49)=false:=beq_eq_false_iff_ne.2 (by omega)
  have f11:(jo == 50)=false:=beq_eq_false_iff_ne.2 (by omega)
  have f12:(jo == 48)=false:=beq_eq_false_iff_ne.2 (by omega)
  cases ANY
  · cases g0:decide (jo<21)
    · cases g1:decide (24<jo)
      · obtain ⟨k0,k1,k2,m0,m1,m4,m5,m6,m8,m11,m12,m14,m15⟩:=wm_cells HX.out
        go_enter Tryd.func52,Tryd.ntmps52
        go_wp2_with (first|(guard_target =~ wpList _ _ _ (Oper.mk (some 28) _ _ _ _ _::_) _ _; refine wpList_load_mid rfl _ _ rfl (w.heap.size+1) 0 rfl _ _ HX.out.ins.range Tryd.underlying28 rfl ins_size ?_)|(go_at_call 60; refine (HA.out _).mono ?_; rintro e wx ⟨rfl,hb⟩; have HX:=hidW (HX.out.step hb); clear hb k0 k1 k2 m0 m1 m4 m5 m6 m8 m11 m12 m14 m15; obtain ⟨k0,k1,k2,m0,m1,m4,m5,m6,m8,m11,m12,m14,m15⟩:=wm_cells HX.out; refine Hid.out ?_))
        refine hidW (hidW ?_)
        go_wp2
        refine bodyPost_ret (by simp [results,Tryd.results52,go_sem]; rfl) rfl ⟨?_,HX.out.bel⟩
        congr 2
        first|rfl|simp [mayL, *]
      · obtain ⟨k0,k1,k2,m0,m1,m4,m5,m6,m8,m11,m12,m14,m15⟩:=wm_cells HX.out
        go_enter Tryd.func52,Tryd.ntmps52
        go_wp2_with (first|(guard_target =~ wpList _ _ _ (Oper.mk (some 28) _ _ _ _ _::_) _ _; refine wpList_load_mid rfl _ _ rfl (w.heap.size+1) 0 rfl _ _ HX.out.ins.range Tryd.underlying28 rfl ins_size ?_)|(go_at_call 60; refine (HA.out _).mono ?_; rintro e wx ⟨rfl,hb⟩; have HX:=hidW (HX.out.step hb); clear hb k0 k1 k2 m0 m1 m4 m5 m6 m8 m11 m12 m14 m15; obtain ⟨k0,k1,k2,m0,m1,m4,m5,m6,m8,m11,m12,m14,m15⟩:=wm_cells HX.out; refine Hid.out ?_))
        refine hidW (hidW ?_)
        go_wp2
        refine bodyPost_ret (by simp [results,Tryd.results52,go_sem]; rfl) rfl ⟨?_,HX.out.bel⟩
        congr 2
        first|rfl|simp [mayL, *]
    · obtain ⟨k0,k1,k2,m0,m1,m4,m5,m6,m8,m11,m12,m14,m15⟩:=wm_cells HX.out
      go_enter Tryd.func52,Tryd.ntmps52
      go_wp2_with (first|(guard_target =~ wpList _ _ _ (Oper.mk (some 28) _ _ _ _ _::_) _ _; refine wpList_load_mid rfl _ _ rfl (w.heap.size+1) 0 rfl _ _ HX.out.ins.range Tryd.underlying28 rfl ins_size ?_)|(go_at_call 60; refine (HA.out _).mono ?_; rintro e wx ⟨rfl,hb⟩; have HX:=hidW (HX.out.step hb); clear hb k0 k1 k2 m0 m1 m4 m5 m6 m8 m11 m12 m14 m15; obtain ⟨k0,k1,k2,m0,m1,m4,m5,m6,m8,m11,m12,m14,m15⟩:=wm_cells HX.out; refine Hid.out ?_))
      refine hidW (hidW ?_)
      go_wp2
      refine bodyPost_ret (by simp [results,Tryd.results52,go_sem]; rfl) rfl ⟨?_,HX.out.bel⟩
      congr 2
      first|rfl|simp [mayL, *]
  · obtain ⟨k0,k1,k2,m0,m1,m4,m5,m6,m8,m11,m12,m14,m15⟩:=wm_cells HX.out
    go_enter Tryd.func52,Tryd.ntmps52
    go_wp2_with (first|(guard_target =~ wpList _ _ _ (Oper.mk (some 28) _ _ _ _ _::_) _ _; refine wpList_load_mid rfl _ _ rfl (w.heap.size+1) 0 rfl _ _ HX.out.ins.range Tryd.underlying28 rfl ins_size ?_)|(go_at_call 60; refine (HA.out _).mono ?_; rintro e wx ⟨rfl,hb⟩; have HX:=hidW (HX.out.step hb); clear hb k0 k1 k2 m0 m1 m4 m5 m6 m8 m11 m12 m14 m15; obtain ⟨k0,k1,k2,m0,m1,m4,m5,m6,m8,m11,m12,m14,m15⟩:=wm_cells HX.out; refine Hid.out ?_))
    refine hidW (hidW ?_)
    go_wp2
    refine bodyPost_ret (by simp [results,Tryd.results52,go_sem]; rfl) rfl ⟨?_,HX.out.bel⟩
    congr 2
    first|rfl|simp [mayL, *]
end Go.Proofs.YtkmgmmmpiallhaaDoor
