import Derived.Test.YtkmgmmmpiallhaaDoorRm
namespace Go.Proofs.YtkmgmmmpiallhaaDoor
open Go.RowKit
set_option linter.unusedVariables false
set_option linter.unusedSimpArgs false
set_option maxRecDepth 100000 in
set_option maxHeartbeats 2000000 in
theorem may_k39 (o:Value) (q:Int) (s:ByteArray) (jc jf jd jn jm jr ja ji jt jk jl jx jy jz jv:Int) (js jp ju jw:Bool) (w:World) (ANY L1 L15:Bool)
    (HA:Hid (∀w',Calls Tryd.prog 60 #[.agg #[o,.int .i64 q,.string s],.agg #[.int .i64 jc,.int .i64 39,.bool js,.int .i64 jf,.int .i64 jd,.int .i64 jn,.int .i64 jm,.int .i64 jr,.int .i64 ja,.int .u32 ji,.int .i64 jt,.int .i64 jk,.bool jp,.bool ju,.bool jw,.int .u16 jl,.int .i64 jx,.int .i64 jy,.int .i64 jz,.int .i64 jv]] w' fun e w''=>e= .returned (.bool ANY)∧Below w'.heap.size w' w''))
    (HL:Hid (∀w',Calls Tryd.prog 61 #[.int .u16 jl,.int .i64 jn] w' fun e w''=>e= .returned (.bool L1)∧w''=w'))
    (HM:Hid (∀w',Calls Tryd.prog 61 #[.int .u16 jl,.int .i64 15] w' fun e w''=>e= .returned (.bool L15)∧w''=w')) (e15:(jc == 15)=false) (e3:(q == 3)=false) :
    Calls Tryd.prog 52 #[.agg #[o,.int .i64 q,.string s],.agg #[.int .i64 jc,.int .i64 39,.bool js,.int .i64 jf,.int .i64 jd,.int .i64 jn,.int .i64 jm,.int .i64 jr,.int .i64 ja,.int .u32 ji,.int .i64 jt,.int .i64 jk,.bool jp,.bool ju,.bool jw,.int .u16 jl,.int .i64 jx,.int .i64 jy,.int .i64 jz,.int .i64 jv]] w fun e w'=>e= .returned (.bool (mayL ANY L1 L15 q jc 39 jd jn jm ja jk jl jp jw))∧Below w.heap.size w w':=by
  have HX:=hidW (WX.first w [o,.int .i64 q,.string s] [.int .i64 jc,.int .i64 39,.bool js,.int .i64 jf,.int .i64 jd,.int .i64 jn,.int .i64 jm,.int .i64 jr,.int .i64 ja,.int .u32 ji,.int .i64 jt,.int .i64 jk,.bool jp,.bool ju,.bool jw,.int .u16 jl,.int .i64 jx,.int .i64 jy,.int .i64 jz,.int .i64 jv])
  cases g0:(jl == 0)
  · cases g1:(jn == 15)
    · cases jw
      · obtain ⟨k0,k1,k2,m0,m1,m4,m5,m6,m8,m11,m12,m14,m15⟩:=wm_cells HX.out
        go_enter Tryd.func52,Tryd.ntmps52
        go_wp2
        refine bodyPost_ret (by simp [results,Tryd.results52,go_sem]; rfl) rfl ⟨?_,HX.out.bel⟩
        congr 2
        first|rfl|simp [mayL, *]
      · cases L1
        · obtain ⟨k0,k1,k2,m0,m1,m4,m5,m6,m8,m11,m12,m14,m15⟩:=wm_cells HX.out
          go_enter Tryd.func52,Tryd.ntmps52
          go_wp2_with (first|(go_at_call 61; refine (HL.out _).mono ?_; rintro e wx ⟨rfl,rfl⟩; clear HL; refine Hid.out ?_))
          refine hidW (hidW ?_)
          go_wp2
          refine bodyPost_ret (by simp [results,Tryd.results52,go_sem]; rfl) rfl ⟨?_,HX.out.bel⟩
          congr 2
          first|rfl|simp [mayL, *]
        · obtain ⟨k0,k1,k2,m0,m1,m4,m5,m6,m8,m11,m12,m14,m15⟩:=wm_cells HX.out
          go_enter Tryd.func52,Tryd.ntmps52
          go_wp2_with (first|(go_at_call 61; refine (HL.out _).mono ?_; rintro e wx ⟨rfl,rfl⟩; clear HL; refine Hid.out ?_))
          refine hidW (hidW ?_)
          go_wp2
          refine bodyPost_ret (by simp [results,Tryd.results52,go_sem]; rfl) rfl ⟨?_,HX.out.bel⟩
          congr 2
          first|rfl|simp [mayL, *]
    · obtain ⟨k0,k1,k2,m0,m1,m4,m5,m6,m8,m11,m12,m14,m15⟩:=wm_cells HX.out
      go_enter Tryd.func52,Tryd.ntmps52
      go_wp2
      refine bodyPost_ret (by simp [results,Tryd.results52,go_sem]; rfl) rfl ⟨?_,HX.out.bel⟩
      congr 2
      first|rfl|simp [mayL, *]
  · obtain ⟨k0,k1,k2,m0,m1,m4,m5,m6,m8,m11,m12,m14,m15⟩:=wm_cells HX.out
    go_enter Tryd.func52,Tryd.ntmps52
    go_wp2
    refine bodyPost_ret (by simp [results,Tryd.results52,go_sem]; rfl) rfl ⟨?_,HX.out.bel⟩
    congr 2
    first|rfl|simp [mayL, *]
set_option maxRecDepth 100000 in
set_option maxHeartbeats 2000000 in
theorem may_k40 (o:Value) (q:Int) (s:ByteArray) (jc jf jd jn jm jr ja ji jt jk jl jx jy jz jv:Int) (js jp ju jw:Bool) (w:World) (ANY L1 L15:Bool)
    (HA:Hid (∀w',Calls Tryd.prog 60 #[.agg #[o,.int .i64 q,.string s],.agg #[.int .i64 jc,.int .i64 40,.bool js,.int .i64 jf,.int .i64 jd,.int .i64 jn,.int .i64 jm,.int .i64 jr,.int .i64 ja,.int .u32 ji,.int .i64 jt,.int .i64 jk,.bool jp,.bool ju,.bool jw,.int .u16 jl,.int .i64 jx,.int .i64 jy,.int .i64 jz,.int .i64 jv]] w' fun e w''=>e= .returned (.bool ANY)∧Below w'.heap.size w' w''))
    (HL:Hid (∀w',Calls Tryd.prog 61 #[.int .u16 jl,.int .i64 jn] w' fun e w''=>e= .returned (.bool L1)∧w''=w'))
    (HM:Hid (∀w',Calls Tryd.prog 61 #[.int .u16 jl,.int .i64 15] w' fun e w''=>e= .returned (.bool L15)∧w''=w')) (e15:(jc == 15)=false) (e3:(q == 3)=false) :
    Calls Tryd.prog 52 #[.agg #[o,.int .i64 q,.string s],.agg #[.int .i64 jc,.int .i64 40,.bool js,.int .i64 jf,.int .i64 jd,.int .i64 jn,.int .i64 jm,.int .i64 jr,.int .i64 ja,.int .u32 ji,.int .i64 jt,.int .i64 jk,.bool jp,.bool ju,.bool jw,.int .u16 jl,.int .i64 jx,.int .i64 jy,.int .i64 jz,.int .i64 jv]] w fun e w'=>e= .returned (.bool (mayL ANY L1 L15 q jc 40 jd jn jm ja jk jl jp jw))∧Below w.heap.size w w':=by
  have HX:=hidW (WX.first w [o,.int .i64 q,.string s] [.int .i64 jc,.int .i64 40,.bool js,.int .i64 jf,.int .i64 jd,.int .i64 jn,.int .i64 jm,.int .i64 jr,.int .i64 ja,.int .u32 ji,.int .i64 jt,.int .i64 jk,.bool jp,.bool ju,.bool jw,.int .u16 jl,.int .i64 jx,.int .i64 jy,.int .i64 jz,.int .i64 jv])
  cases g0:(jl == 0)
  · cases g1:(jn == 15)
    · cases jw
      · obtain ⟨k0,k1,k2,m0,m1,m4,m5,m6,m8,m11,m12,m14,m15⟩:=wm_cells HX.out
        go_enter Tryd.func52,Tryd.ntmps52
        go_wp2_with (first|(go_at_call 61; refine (HM.out _).mono ?_; rintro e wx ⟨rfl,rfl⟩; clear HM; refine Hid.out ?_))
        refine hidW (hidW ?_)
        go_wp2
        refine bodyPost_ret (by simp [results,Tryd.results52,go_sem]; rfl) rfl ⟨?_,HX.out.bel⟩
        congr 2
        first|rfl|simp [mayL, *]
      · cases L1
        · obtain ⟨k0,k1,k2,m0,m1,m4,m5,m6,m8,m11,m12,m14,m15⟩:=wm_cells HX.out
          go_enter Tryd.func52,Tryd.ntmps52
          go_wp2_with (first|(go_at_call 61; refine (HL.out _).mono ?_; rintro e wx ⟨rfl,rfl⟩; clear HL; refine Hid.out ?_))
          refine hidW (hidW ?_)
          go_wp2_with (first|(go_at_call 61; refine (HM.out _).mono ?_; rintro e wx ⟨rfl,rfl⟩; clear HM; refine Hid.out ?_))
          refine hidW (hidW ?_)
          go_wp2
          refine bodyPost_ret (by simp [results,Tryd.results52,go_sem]; rfl) rfl ⟨?_,HX.out.bel⟩
          congr 2
          first|rfl|simp [mayL, *]
        · obtain ⟨k0,k1,k2,m0,m1,m4,m5,m6,m8,m11,m12,m14,m15⟩:=wm_cells HX.out
          go_enter Tryd.func52,Tryd.ntmps52
          go_wp2_with (first|(go_at_call 61; refine (HL.out _).mono ?_; rintro e wx ⟨rfl,rfl⟩; clear HL; refine Hid.out ?_))
          refine hidW (hidW ?_)
          go_wp2
          refine bodyPost_ret (by simp [results,Tryd.results52,go_sem]; rfl) rfl ⟨?_,HX.out.bel⟩
          congr 2
          first|rfl|simp [mayL, *]
    · obtain ⟨k0,k1,k2,m0,m1,m4,m5,m6,m8,m11,m12,m14,m15⟩:=wm_cells HX.out
      go_enter Tryd.func52,Tryd.ntmps52
      go_wp2
      refine bodyPost_ret (by simp [results,Tryd.results52,go_sem]; rfl) rfl ⟨?_,HX.out.bel⟩
      congr 2
      first|rfl|simp [mayL, *]
  · obtain ⟨k0,k1,k2,m0,m1,m4,m5,m6,m8,m11,m12,m14,m15⟩:=wm_cells HX.out
    go_enter Tryd.func52,Tryd.ntmps52
    go_wp2
    refine bodyPost_ret (by simp [results,Tryd.results52,go_sem]; rfl) rfl ⟨?_,HX.out.bel⟩
    congr 2
    first|rfl|simp [mayL, *]
set_option maxRecDepth 100000 in
set_option maxHeartbeats 2000000 in
theorem may_k43 (o:Value) (q:Int) (s:ByteArray) (jc jf jd jn jm jr ja ji jt jk jl jx jy jz jv:Int) (js jp ju jw:Bool) (w:World) (ANY L1 L15:Bool)
    (HA:Hid (∀w',Calls Tryd.prog 60 #[.agg #[o,.int .i64 q,.string s],.agg #[.int .i64 jc,.int .i64 43,.bool js,.int .i64 jf,.int .i64 jd,.int .i64 jn,.int .i64 jm,.int .i64 jr,.int .i64 ja,.int .u32 ji,.int .i64 jt,.int .i64 jk,.bool jp,.bool ju,.bool jw,.int .u16 jl,.int .i64 jx,.int .i64 jy,.int .i64 jz,.int .i64 jv]] w' fun e w''=>e= .returned (.bool ANY)∧Below w'.heap.size w' w''))
    (HL:Hid (∀w',Calls Tryd.prog 61 #[.int .u16 jl,.int .i64 jn] w' fun e w''=>e= .returned (.bool L1)∧w''=w'))
    (HM:Hid (∀w',Calls Tryd.prog 61 #[.int .u16 jl,.int .i64 15] w' fun e w''=>e= .returned (.bool L15)∧w''=w')) (e15:(jc == 15)=false) (e3:(q == 3)=false) :
    Calls Tryd.prog 52 #[.agg #[o,.int .i64 q,.string s],.agg #[.int .i64 jc,.int .i64 43,.bool js,.int .i64 jf,.int .i64 jd,.int .i64 jn,.int .i64 jm,.int .i64 jr,.int .i64 ja,.int .u32 ji,.int .i64 jt,.int .i64 jk,.bool jp,.bool ju,.bool jw,.int .u16 jl,.int .i64 jx,.int .i64 jy,.int .i64 jz,.int .i64 jv]] w fun e w'=>e= .returned (.bool (mayL ANY L1 L15 q jc 43 jd jn jm ja jk jl jp jw))∧Below w.heap.size w w':=by
  have HX:=hidW (WX.first w [o,.int .i64 q,.string s] [.int .i64 jc,.int .i64 43,.bool js,.int .i64 jf,.int .i64 jd,.int .i64 jn,.int .i64 jm,.int .i64 jr,.int .i64 ja,.int .u32 ji,.int .i64 jt,.int .i64 jk,.bool jp,.bool ju,.bool jw,.int .u16 jl,.int .i64 jx,.int .i64 jy,.int .i64 jz,.int .i64 jv])
  obtain ⟨k0,k1,k2,m0,m1,m4,m5,m6,m8,m11,m12,m14,m15⟩:=wm_cells HX.out
  go_enter Tryd.func52,Tryd.ntmps52
  go_wp2
  refine bodyPost_ret (by simp [results,Tryd.results52,go_sem]; rfl) rfl ⟨?_,HX.out.bel⟩
  congr 2
  first|rfl|simp [mayL, *]
set_option maxRecDepth 100000 in
set_option maxHeartbeats 2000000 in
theorem may_k44 (o:Value) (q:Int) (s:ByteArray) (jc jf jd jn jm jr ja ji jt jk jl jx jy jz jv:Int) (js jp ju jw:Bool) (w:World) (ANY L1 L15:Bool)
    (HA:Hid (∀w',Calls Tryd.prog 60 #[.agg #[o,.int .i64 q,.string s],.agg #[.int .i64 jc,.int .i64 44,.bool js,.int .i64 jf,.int .i64 jd,.int .i64 jn,.int .i64 jm,.int .i64 jr,.int .i64 ja,.int .u32 ji,.int .i64 jt,.int .i64 jk,.bool jp,.bool ju,.bool jw,.int .u16 jl,.int .i64 jx,.int .i64 jy,.int .i64 jz,.int .i64 jv]] w' fun e w''=>e= .returned (.bool ANY)∧Below w'.heap.size w' w''))
    (HL:Hid (∀w',Calls Tryd.prog 61 #[.int .u16 jl,.int .i64 jn] w' fun e w''=>e= .returned (.bool L1)∧w''=w'))
    (HM:Hid (∀w',Calls Tryd.prog 61 #[.int .u16 jl,.int .i64 15] w' fun e w''=>e= .returned (.bool L15)∧w''=w')) (e15:(jc == 15)=false) (e3:(q == 3)=false) :
    Calls Tryd.prog 52 #[.agg #[o,.int .i64 q,.string s],.agg #[.int .i64 jc,.int .i64 44,.bool js,.int .i64 jf,.int .i64 jd,.int .i64 jn,.int .i64 jm,.int .i64 jr,.int .i64 ja,.int .u32 ji,.int .i64 jt,.int .i64 jk,.bool jp,.bool ju,.bool jw,.int .u16 jl,.int .i64 jx,.int .i64 jy,.int .i64 jz,.int .i64 jv]] w fun e w'=>e= .returned (.bool (mayL ANY L1 L15 q jc 44 jd jn jm ja jk jl jp jw))∧Below w.heap.size w w':=by
  have HX:=hidW (WX.first w [o,.int .i64 q,.string s] [.int .i64 jc,.int .i64 44,.bool js,.int .i64 jf,.int .i64 jd,.int .i64 jn,.int .i64 jm,.int .i64 jr,.int .i64 ja,.int .u32 ji,.int .i64 jt,.int .i64 jk,.bool jp,.bool ju,.bool jw,.int .u16 jl,.int .i64 jx,.int .i64 jy,.int .i64 jz,.int .i64 jv])
  obtain ⟨k0,k1,k2,m0,m1,m4,m5,m6,m8,m11,m12,m14,m15⟩:=wm_cells HX.out
  go_enter Tryd.func52,Tryd.ntmps52
  go_wp2
  refine bodyPost_ret (by simp [results,Tryd.results52,go_sem]; rfl) rfl ⟨?_,HX.out.bel⟩
  congr 2
  first|rfl|simp [mayL, *]
set_option maxRecDepth 100000 in
set_option maxHeartbeats 2000000 in
theorem may_k46 (o:Value) (q:Int) (s:ByteArray) (jc jf jd jn jm jr ja ji jt jk jl jx jy jz jv:Int) (js jp ju jw:Bool) (w:World) (ANY L1 L15:Bool)
    (HA:Hid (∀w',Calls Tryd.prog 60 #[.agg #[o,.int .i64 q,.string s],.agg #[.int .i64 jc,.int .i64 46,.bool js,.int .i64 jf,.int .i64 jd,.int .i64 jn,.int .i64 jm,.int .i64 jr,.int .i64 ja,.int .u32 ji,.int .i64 jt,.int .i64 jk,.bool jp,.bool ju,.bool jw,.int .u16 jl,.int .i64 jx,.int .i64 jy,.int .i64 jz,.int .i64 jv]] w' fun e w''=>e= .returned (.bool ANY)∧Below w'.heap.size w' w''))
    (HL:Hid (∀w',Calls Tryd.prog 61 #[.int .u16 jl,.int .i64 jn] w' fun e w''=>e= .returned (.bool L1)∧w''=w'))
    (HM:Hid (∀w',Calls Tryd.prog 61 #[.int .u16 jl,.int .i64 15] w' fun e w''=>e= .returned (.bool L15)∧w''=w')) (e15:(jc == 15)=false) (e3:(q == 3)=false) :
    Calls Tryd.prog 52 #[.agg #[o,.int .i64 q,.string s],.agg #[.int .i64 jc,.int .i64 46,.bool js,.int .i64 jf,.int .i64 jd,.int .i64 jn,.int .i64 jm,.int .i64 jr,.int .i64 ja,.int .u32 ji,.int .i64 jt,.int .i64 jk,.bool jp,.bool ju,.bool jw,.int .u16 jl,.int .i64 jx,.int .i64 jy,.int .i64 jz,.int .i64 jv]] w fun e w'=>e= .returned (.bool (mayL ANY L1 L15 q jc 46 jd jn jm ja jk jl jp jw))∧Below w.heap.size w w':=by
  have HX:=hidW (WX.first w [o,.int .i64 q,.string s] [.int .i64 jc,.int .i64 46,.bool js,.int .i64 jf,.int .i64 jd,.int .i64 jn,.int .i64 jm,.int .i64 jr,.int .i64 ja,.int .u32 ji,.int .i64 jt,.int .i64 jk,.bool jp,.bool ju,.bool jw,.int .u16 jl,.int .i64 jx,.int .i64 jy,.int .i64 jz,.int .i64 jv])
  obtain ⟨k0,k1,k2,m0,m1,m4,m5,m6,m8,m11,m12,m14,m15⟩:=wm_cells HX.out
  go_enter Tryd.func52,Tryd.ntmps52
  go_wp2
  refine bodyPost_ret (by simp [results,Tryd.results52,go_sem]; rfl) rfl ⟨?_,HX.out.bel⟩
  congr 2
  first|rfl|simp [mayL, *]
set_option maxRecDepth 100000 in
set_option maxHeartbeats 2000000 in
theorem may_k47 (o:Value) (q:Int) (s:ByteArray) (jc jf jd jn jm jr ja ji jt jk jl jx jy jz jv:Int) (js jp ju jw:Bool) (w:World) (ANY L1 L15:Bool)
    (HA:Hid (∀w',Calls Tryd.prog 60 #[.agg #[o,.int .i64 q,.string s],.agg #[.int .i64 jc,.int .i64 47,.bool js,.int .i64 jf,.int .i64 jd,.int .i64 jn,.int .i64 jm,.int .i64 jr,.int .i64 ja,.int .u32 ji,.int .i64 jt,.int .i64 jk,.bool jp,.bool ju,.bool jw,.int .u16 jl,.int .i64 jx,.int .i64 jy,.int .i64 jz,.int .i64 jv]] w' fun e w''=>e= .returned (.bool ANY)∧Below w'.heap.size w' w''))
    (HL:Hid (∀w',Calls Tryd.prog 61 #[.int .u16 jl,.int .i64 jn] w' fun e w''=>e= .returned (.bool L1)∧w''=w'))
    (HM:Hid (∀w',Calls Tryd.prog 61 #[.int .u16 jl,.int .i64 15] w' fun e w''=>e= .returned (.bool L15)∧w''=w')) (e15:(jc == 15)=false) (e3:(q == 3)=false) :
    Calls Tryd.prog 52 #[.agg #[o,.int .i64 q,.string s],.agg #[.int .i64 jc,.int .i64 47,.bool js,.int .i64 jf,.int .i64 jd,.int .i64 jn,.int .i64 jm,.int .i64 jr,.int .i64 ja,.int .u32 ji,.int .i64 jt,.int .i64 jk,.bool jp,.bool ju,.bool jw,.int .u16 jl,.int .i64 jx,.int .i64 jy,.int .i64 jz,.int .i64 jv]] w fun e w'=>e= .returned (.bool (mayL ANY L1 L15 q jc 47 jd jn jm ja jk jl jp jw))∧Below w.heap.size w w':=by
  have HX:=hidW (WX.first w [o,.int .i64 q,.string s] [.int .i64 jc,.int .i64 47,.bool js,.int .i64 jf,.int .i64 jd,.int .i64 jn,.int .i64 jm,.int .i64 jr,.int .i64 ja,.int .u32 ji,.int .i64 jt,.int .i64 jk,.bool jp,.bool ju,.bool jw,.int .u16 jl,.int .i64 jx,.int .i64 jy,.int .i64 jz,.int .i64 jv])
  obtain ⟨k0,k1,k2,m0,m1,m4,m5,m6,m8,m11,m12,m14,m15⟩:=wm_cells HX.out
  go_enter Tryd.func52,Tryd.ntmps52
  go_wp2
  refine bodyPost_ret (by simp [results,Tryd.results52,go_sem]; rfl) rfl ⟨?_,HX.out.bel⟩
  congr 2
  first|rfl|simp [mayL, *]
set_option maxRecDepth 100000 in
set_option maxHeartbeats 2000000 in
theorem may_k49 (o:Value) (q:Int) (s:ByteArray) (jc jf jd jn jm jr ja ji jt jk jl jx jy jz jv:Int) (js jp ju jw:Bool) (w:World) (ANY L1 L15:Bool)
    (HA:Hid (∀w',Calls Tryd.prog 60 #[.agg #[o,.int .i64 q,.string s],.agg #[.int .i64 jc,.int .i64 49,.bool js,.int .i64 jf,.int .i64 jd,.int .i64 jn,.int .i64 jm,.int .i64 jr,.int .i64 ja,.int .u32 ji,.int .i64 jt,.int .i64 jk,.bool jp,.bool ju,.bool jw,.int .u16 jl,.int .i64 jx,.int .i64 jy,.int .i64 jz,.int .i64 jv]] w' fun e w''=>e= .returned (.bool ANY)∧Below w'.heap.size w' w''))
    (HL:Hid (∀w',Calls Tryd.prog 61 #[.int .u16 jl,.int .i64 jn] w' fun e w''=>e= .returned (.bool L1)∧w''=w'))
    (HM:Hid (∀w',Calls Tryd.prog 61 #[.int .u16 jl,.int .i64 15] w' fun e w''=>e= .returned (.bool L15)∧w''=w')) (e15:(jc == 15)=false) (e3:(q == 3)=false) :
    Calls Tryd.prog 52 #[.agg #[o,.int .i64 q,.string s],.agg #[.int .i64 jc,.int .i64 49,.bool js,.int .i64 jf,.int .i64 jd,.int .i64 jn,.int .i64 jm,.int .i64 jr,.int .i64 ja,.int .u32 ji,.int .i64 jt,.int .i64 jk,.bool jp,.bool ju,.bool jw,.int .u16 jl,.int .i64 jx,.int .i64 jy,.int .i64 jz,.int .i64 jv]] w fun e w'=>e= .returned (.bool (mayL ANY L1 L15 q jc 49 jd jn jm ja jk jl jp jw))∧Below w.heap.size w w':=by
  have HX:=hidW (WX.first w [o,.int .i64 q,.string s] [.int .i64 jc,.int .i64 49,.bool js,.int .i64 jf,.int .i64 jd,.int .i64 jn,.int .i64 jm,.int .i64 jr,.int .i64 ja,.int .u32 ji,.int .i64 jt,.int .i64 jk,.bool jp,.bool ju,.bool jw,.int .u16 jl,.int .i64 jx,.int .i64 jy,.int .i64 jz,.int .i64 jv])
  obtain ⟨k0,k1,k2,m0,m1,m4,m5,m6,m8,m11,m12,m14,m15⟩:=wm_cells HX.out
  go_enter Tryd.func52,Tryd.ntmps52
  go_wp2
  refine bodyPost_ret (by simp [results,Tryd.results52,go_sem]; rfl) rfl ⟨?_,HX.out.bel⟩
  congr 2
  first|rfl|simp [mayL, *]
set_option maxRecDepth 100000 in
set_option maxHeartbeats 2000000 in
theorem may_k50 (o:Value) (q:Int) (s:ByteArray) (jc jf jd jn jm jr ja ji jt jk jl jx jy jz jv:Int) (js jp ju jw:Bool) (w:World) (ANY L1 L15:Bool)
    (HA:Hid (∀w',Calls Tryd.prog 60 #[.agg #[o,.int .i64 q,.string s],.agg #[.int .i64 jc,.int .i64 50,.bool js,.int .i64 jf,.int .i64 jd,.int .i64 jn,.int .i64 jm,.int .i64 jr,.int .i64 ja,.int .u32 ji,.int .i64 jt,.int .i64 jk,.bool jp,.bool ju,.bool jw,.int .u16 jl,.int .i64 jx,.int .i64 jy,.int .i64 jz,.int .i64 jv]] w' fun e w''=>e= .returned (.bool ANY)∧Below w'.heap.size w' w''))
    (HL:Hid (∀w',Calls Tryd.prog 61 #[.int .u16 jl,.int .i64 jn] w' fun e w''=>e= .returned (.bool L1)∧w''=w'))
    (HM:Hid (∀w',Calls Tryd.prog 61 #[.int .u16 jl,.int .i64 15] w' fun e w''=>e= .returned (.bool L15)∧w''=w')) (e15:(jc == 15)=false) (e3:(q == 3)=false) :
    Calls Tryd.prog 52 #[.agg #[o,.int .i64 q,.string s],.agg #[.int .i64 jc,.int .i64 50,.bool js,.int .i64 jf,.int .i64 jd,.int .i64 jn,.int .i64 jm,.int .i64 jr,.int .i64 ja,.int .u32 ji,.int .i64 jt,.int .i64 jk,.bool jp,.bool ju,.bool jw,.int .u16 jl,.int .i64 jx,.int .i64 jy,.int .i64 jz,.int .i64 jv]] w fun e w'=>e= .returned (.bool (mayL ANY L1 L15 q jc 50 jd jn jm ja jk jl jp jw))∧Below w.heap.size w w':=by
  have HX:=hidW (WX.first w [o,.int .i64 q,.string s] [.int .i64 jc,.int .i64 50,.bool js,.int .i64 jf,.int .i64 jd,.int .i64 jn,.int .i64 jm,.int .i64 jr,.int .i64 ja,.int .u32 ji,.int .i64 jt,.int .i64 jk,.bool jp,.bool ju,.bool jw,.int .u16 jl,.int .i64 jx,.int .i64 jy,.int .i64 jz,.int .i64 jv])
  obtain ⟨k0,k1,k2,m0,m1,m4,m5,m6,m8,m11,m12,m14,m15⟩:=wm_cells HX.out
  go_enter Tryd.func52,Tryd.ntmps52
  go_wp2
  refine bodyPost_ret (by simp [results,Tryd.results52,go_sem]; rfl) rfl ⟨?_,HX.out.bel⟩
  congr 2
  first|rfl|simp [mayL, *]
set_option maxRecDepth 100000 in
set_option maxHeartbeats 2000000 in
theorem may_k41 (o:Value) (q:Int) (s:ByteArray) (jc jf jd jn jm jr ja ji jt jk jl jx jy jz jv:Int) (js jp ju jw:Bool) (w:World) (ANY L1 L15:Bool)
    (HA:Hid (∀w',Calls Tryd.prog 60 #[.agg #[o,.int .i64 q,.string s],.agg #[.int .i64 jc,.int .i64 41,.bool js,.int .i64 jf,.int .i64 jd,.int .i64 jn,.int .i64 jm,.int .i64 jr,.int .i64 ja,.int .u32 ji,.int .i64 jt,.int .i64 jk,.bool jp,.bool ju,.bool jw,.int .u16 jl,.int .i64 jx,.int .i64 jy,.int .i64 jz,.int .i64 jv]] w' fun e w''=>e= .returned (.bool ANY)∧Below w'.heap.size w' w''))
    (HL:Hid (∀w',Calls Tryd.prog 61 #[.int .u16 jl,.int .i64 jn] w' fun e w''=>e= .returned (.bool L1)∧w''=w'))
    (HM:Hid (∀w',Calls Tryd.prog 61 #[.int .u16 jl,.int .i64 15] w' fun e w''=>e= .returned (.bool L15)∧w''=w')) (e15:(jc == 15)=false) (e3:(q == 3)=false) :
    Calls Tryd.prog 52 #[.agg #[o,.int .i64 q,.string s],.agg #[.int .i64 jc,.int .i64 41,.bool js,.int .i64 jf,.int .i64 jd,.int .i64 jn,.int .i64 jm,.int .i64 jr,.int .i64 ja,.int .u32 ji,.int .i64 jt,.int .i64 jk,.bool jp,.bool ju,.bool jw,.int .u16 jl,.int .i64 jx,.int .i64 jy,.int .i64 jz,.int .i64 jv]] w fun e w'=>e= .returned (.bool (mayL ANY L1 L15 q jc 41 jd jn jm ja jk jl jp jw))∧Below w.heap.size w w':=by
  have HX:=hidW (WX.first w [o,.int .i64 q,.string s] [.int .i64 jc,.int .i64 41,.bool js,.int .i64 jf,.int .i64 jd,.int .i64 jn,.int .i64 jm,.int .i64 jr,.int .i64 ja,.int .u32 ji,.int .i64 jt,.int .i64 jk,.bool jp,.bool ju,.bool jw,.int .u16 jl,.int .i64 jx,.int .i64 jy,.int .i64 jz,.int .i64 jv])
  obtain ⟨k0,k1,k2,m0,m1,m4,m5,m6,m8,m11,m12,m14,m15⟩:=wm_cells HX.out
  go_enter Tryd.func52,Tryd.ntmps52
  go_wp2
  refine bodyPost_ret (by simp [results,Tryd.results52,go_sem]; rfl) rfl ⟨?_,HX.out.bel⟩
  congr 2
  first|rfl|simp [mayL, *]
set_option maxRecDepth 100000 in
set_option maxHeartbeats 2000000 in
theorem may_k42 (o:Value) (q:Int) (s:ByteArray) (jc jf jd jn jm jr ja ji jt jk jl jx jy jz jv:Int) (js jp ju jw:Bool) (w:World) (ANY L1 L15:Bool)
    (HA:Hid (∀w',Calls Tryd.prog 60 #[.agg #[o,.int .i64 q,.string s],.agg #[.int .i64 jc,.int .i64 42,.bool js,.int .i64 jf,.int .i64 jd,.int .i64 jn,.int .i64 jm,.int .i64 jr,.int .i64 ja,.int .u32 ji,.int .i64 jt,.int .i64 jk,.bool jp,.bool ju,.bool jw,.int .u16 jl,.int .i64 jx,.int .i64 jy,.int .i64 jz,.int .i64 jv]] w' fun e w''=>e= .returned (.bool ANY)∧Below w'.heap.size w' w''))
    (HL:Hid (∀w',Calls Tryd.prog 61 #[.int .u16 jl,.int .i64 jn] w' fun e w''=>e= .returned (.bool L1)∧w''=w'))
    (HM:Hid (∀w',Calls Tryd.prog 61 #[.int .u16 jl,.int .i64 15] w' fun e w''=>e= .returned (.bool L15)∧w''=w')) (e15:(jc == 15)=false) (e3:(q == 3)=false) :
    Calls Tryd.prog 52 #[.agg #[o,.int .i64 q,.string s],.agg #[.int .i64 jc,.int .i64 42,.bool js,.int .i64 jf,.int .i64 jd,.int .i64 jn,.int .i64 jm,.int .i64 jr,.int .i64 ja,.int .u32 ji,.int .i64 jt,.int .i64 jk,.bool jp,.bool ju,.bool jw,.int .u16 jl,.int .i64 jx,.int .i64 jy,.int .i64 jz,.int .i64 jv]] w fun e w'=>e= .returned (.bool (mayL ANY L1 L15 q jc 42 jd jn jm ja jk jl jp jw))∧Below w.heap.size w w':=by
  have HX:=hidW (WX.first w [o,.int .i64 q,.string s] [.int .i64 jc,.int .i64 42,.bool js,.int .i64 jf,.int .i64 jd,.int .i64 jn,.int .i64 jm,.int .i64 jr,.int .i64 ja,.int .u32 ji,.int .i64 jt,.int .i64 jk,.bool jp,.bool ju,.bool jw,.int .u16 jl,.int .i64 jx,.int .i64 jy,.int .i64 jz,.int .i64 jv])
  obtain ⟨k0,k1,k2,m0,m1,m4,m5,m6,m8,m11,m12,m14,m15⟩:=wm_cells HX.out
  go_enter Tryd.func52,Tryd.ntmps52
  go_wp2
  refine bodyPost_ret (by simp [results,Tryd.results52,go_sem]; rfl) rfl ⟨?_,HX.out.bel⟩
  congr 2
  first|rfl|simp [mayL, *]
set_option maxRecDepth 100000 in
set_option maxHeartbeats 2000000 in
theorem may_k45 (o:Value) (q:Int) (s:ByteArray) (jc jf jd jn jm jr ja ji jt jk jl jx jy jz jv:Int) (js jp ju jw:Bool) (w:World) (ANY L1 L15:Bool)
    (HA:Hid (∀w',Calls Tryd.prog 60 #[.agg #[o,.int .i64 q,.string s],.agg #[.int .i64 jc,.int .i64 45,.bool js,.int .i64 jf,.int .i64 jd,.int .i64 jn,.int .i64 jm,.int .i64 jr,.int .i64 ja,.int .u32 ji,.int .i64 jt,.int .i64 jk,.bool jp,.bool ju,.bool jw,.int .u16 jl,.int .i64 jx,.int .i64 jy,.int .i64 jz,.int .i64 jv]] w' fun e w''=>e= .returned (.bool ANY)∧Below w'.heap.size w' w''))
    (HL:Hid (∀w',Calls Tryd.prog 61 #[.int .u16 jl,.int .i64 jn] w' fun e w''=>e= .returned (.bool L1)∧w''=w'))
    (HM:Hid (∀w',Calls Tryd.prog 61 #[.int .u16 jl,.int .i64 15] w' fun e w''=>e= .returned (.bool L15)∧w''=w')) (e15:(jc == 15)=false) (e3:(q == 3)=false) :
    Calls Tryd.prog 52 #[.agg #[o,.int .i64 q,.string s],.agg #[.int .i64 jc,.int .i64 45,.bool js,.int .i64 jf,.int .i64 jd,.int .i64 jn,.int .i64 jm,.int .i64 jr,.int .i64 ja,.int .u32 ji,.int .i64 jt,.int .i64 jk,.bool jp,.bool ju,.bool jw,.int .u16 jl,.int .i64 jx,.int .i64 jy,.int .i64 jz,.int .i64 jv]] w fun e w'=>e= .returned (.bool (mayL ANY L1 L15 q jc 45 jd jn jm ja jk jl jp jw))∧Below w.heap.size w w':=by
  have HX:=hidW (WX.first w [o,.int .i64 q,.string s] [.int .i64 jc,.int .i64 45,.bool js,.int .i64 jf,.int .i64 jd,.int .i64 jn,.int .i64 jm,.int .i64 jr,.int .i64 ja,.int .u32 ji,.int .i64 jt,.int .i64 jk,.bool jp,.bool ju,.bool jw,.int .u16 jl,.int .i64 jx,.int .i64 jy,.int .i64 jz,.int .i64 jv])
  obtain ⟨k0,k1,k2,m0,m1,m4,m5,m6,m8,m11,m12,m14,m15⟩:=wm_cells HX.out
  go_enter Tryd.func52,Tryd.ntmps52
  go_wp2
  refine bodyPost_ret (by simp [results,Tryd.results52,go_sem]; rfl) rfl ⟨?_,HX.out.bel⟩
  congr 2
  first|rfl|simp [mayL, *]
set_option maxRecDepth 100000 in
set_option maxHeartbeats 2000000 in
theorem may_k51 (o:Value) (q:Int) (s:ByteArray) (jc jf jd jn jm jr ja ji jt jk jl jx jy jz jv:Int) (js jp ju jw:Bool) (w:World) (ANY L1 L15:Bool)
    (HA:Hid (∀w',Calls Tryd.prog 60 #[.agg #[o,.int .i64 q,.string s],.agg #[.int .i64 jc,.int .i64 51,.bool js,.int .i64 jf,.int .i64 jd,.int .i64 jn,.int .i64 jm,.int .i64 jr,.int .i64 ja,.int .u32 ji,.int .i64 jt,.int .i64 jk,.bool jp,.bool ju,.bool jw,.int .u16 jl,.int .i64 jx,.int .i64 jy,.int .i64 jz,.int .i64 jv]] w' fun e w''=>e= .returned (.bool ANY)∧Below w'.heap.size w' w''))
    (HL:Hid (∀w',Calls Tryd.prog 61 #[.int .u16 jl,.int .i64 jn] w' fun e w''=>e= .returned (.bool L1)∧w''=w'))
    (HM:Hid (∀w',Calls Tryd.prog 61 #[.int .u16 jl,.int .i64 15] w' fun e w''=>e= .returned (.bool L15)∧w''=w')) (e15:(jc == 15)=false) (e3:(q == 3)=false) :
    Calls Tryd.prog 52 #[.agg #[o,.int .i64 q,.string s],.agg #[.int .i64 jc,.int .i64 51,.bool js,.int .i64 jf,.int .i64 jd,.int .i64 jn,.int .i64 jm,.int .i64 jr,.int .i64 ja,.int .u32 ji,.int .i64 jt,.int .i64 jk,.bool jp,.bool ju,.bool jw,.int .u16 jl,.int .i64 jx,.int .i64 jy,.int .i64 jz,.int .i64 jv]] w fun e w'=>e= .returned (.bool (mayL ANY L1 L15 q jc 51 jd jn jm ja jk jl jp jw))∧Below w.heap.size w w':=by
  have HX:=hidW (WX.first w [o,.int .i64 q,.string s] [.int .i64 jc,.int .i64 51,.bool js,.int .i64 jf,.int .i64 jd,.int .i64 jn,.int .i64 jm,.int .i64 jr,.int .i64 ja,.int .u32 ji,.int .i64 jt,.int .i64 jk,.bool jp,.bool ju,.bool jw,.int .u16 jl,.int .i64 jx,.int .i64 jy,.int .i64 jz,.int .i64 jv])
  obtain ⟨k0,k1,k2,m0,m1,m4,m5,m6,m8,m11,m12,m14,m15⟩:=wm_cells HX.out
  go_enter Tryd.func52,Tryd.ntmps52
  go_wp2
  refine bodyPost_ret (by simp [results,Tryd.results52,go_sem]; rfl) rfl ⟨?_,HX.out.bel⟩
  congr 2
  first|rfl|simp [mayL, *]
set_option maxRecDepth 100000 in
set_option maxHeartbeats 2000000 in
theorem may_k52 (o:Value) (q:Int) (s:ByteArray) (jc jf jd jn jm jr ja ji jt jk jl jx jy jz jv:Int) (js jp ju jw:Bool) (w:World) (ANY L1 L15:Bool)
    (HA:Hid (∀w',Calls Tryd.prog 60 #[.agg #[o,.int .i64 q,.string s],.agg #[.int .i64 jc,.int .i64 52,.bool js,.int .i64 jf,.int .i64 jd,.int .i64 jn,.int .i64 jm,.int .i64 jr,.int .i64 ja,.int .u32 ji,.int .i64 jt,.int .i64 jk,.bool jp,.bool ju,.bool jw,.int .u16 jl,.int .i64 jx,.int .i64 jy,.int .i64 jz,.int .i64 jv]] w' fun e w''=>e= .returned (.bool ANY)∧Below w'.heap.size w' w''))
    (HL:Hid (∀w',Calls Tryd.prog 61 #[.int .u16 jl,.int .i64 jn] w' fun e w''=>e= .returned (.bool L1)∧w''=w'))
    (HM:Hid (∀w',Calls Tryd.prog 61 #[.int .u16 jl,.int .i64 15] w' fun e w''=>e= .returned (.bool L15)∧w''=w')) (e15:(jc == 15)=false) (e3:(q == 3)=false) :
    Calls Tryd.prog 52 #[.agg #[o,.int .i64 q,.string s],.agg #[.int .i64 jc,.int .i64 52,.bool js,.int .i64 jf,.int .i64 jd,.int .i64 jn,.int .i64 jm,.int .i64 jr,.int .i64 ja,.int .u32 ji,.int .i64 jt,.int .i64 jk,.bool jp,.bool ju,.bool jw,.int .u16 jl,.int .i64 jx,.int .i64 jy,.int .i64 jz,.int .i64 jv]] w fun e w'=>e= .returned (.bool (mayL ANY L1 L15 q jc 52 jd jn jm ja jk jl jp jw))∧Below w.heap.size w w':=by
  have HX:=hidW (WX.first w [o,.int .i64 q,.string s] [.int .i64 jc,.int .i64 52,.bool js,.int .i64 jf,.int .i64 jd,.int .i64 jn,.int .i64 jm,.int .i64 jr,.int .i64 ja,.int .u32 ji,.int .i64 jt,.int .i64 jk,.bool jp,.bool ju,.bool jw,.int .u16 jl,.int .i64 jx,.int .i64 jy,.int .i64 jz,.int .i64 jv])
  obtain ⟨k0,k1,k2,m0,m1,m4,m5,m6,m8,m11,m12,m14,m15⟩:=wm_cells HX.out
  go_enter Tryd.func52,Tryd.ntmps52
  go_wp2
  refine bodyPost_ret (by simp [results,Tryd.results52,go_sem]; rfl) rfl ⟨?_,HX.out.bel⟩
  congr 2
  first|rfl|simp [mayL, *]
set_option maxRecDepth 100000 in
set_option maxHeartbeats 2000000 in
theorem may_k48 (o:Value) (q:Int) (s:ByteArray) (jc jf jd jn jm jr ja ji jt jk jl jx jy jz jv:Int) (js jp ju jw:Bool) (w:World) (ANY L1 L15:Bool)
    (HA:Hid (∀w',Calls Tryd.prog 60 #[.agg #[o,.int .i64 q,.string s],.agg #[.int .i64 jc,.int .i64 48,.bool js,.int .i64 jf,.int .i64 jd,.int .i64 jn,.int .i64 jm,.int .i64 jr,.int .i64 ja,.int .u32 ji,.int .i64 jt,.int .i64 jk,.bool jp,.bool ju,.bool jw,.int .u16 jl,.int .i64 jx,.int .i64 jy,.int .i64 jz,.int .i64 jv]] w' fun e w''=>e= .returned (.bool ANY)∧Below w'.heap.size w' w''))
    (HL:Hid (∀w',Calls Tryd.prog 61 #[.int .u16 jl,.int .i64 jn] w' fun e w''=>e= .returned (.bool L1)∧w''=w'))
    (HM:Hid (∀w',Calls Tryd.prog 61 #[.int .u16 jl,.int .i64 15] w' fun e w''=>e= .returned (.bool L15)∧w''=w')) (e15:(jc == 15)=false) (e3:(q == 3)=false) :
    Calls Tryd.prog 52 #[.agg #[o,.int .i64 q,.string s],.agg #[.int .i64 jc,.int .i64 48,.bool js,.int .i64 jf,.int .i64 jd,.int .i64 jn,.int .i64 jm,.int .i64 jr,.int .i64 ja,.int .u32 ji,.int .i64 jt,.int .i64 jk,.bool jp,.bool ju,.bool jw,.int .u16 jl,.int .i64 jx,.int .i64 jy,.int .i64 jz,.int .i64 jv]] w fun e w'=>e= .returned (.bool (mayL ANY L1 L15 q jc 48 jd jn jm ja jk jl jp jw))∧Below w.heap.size w w':=by
  have HX:=hidW (WX.first w [o,.int .i64 q,.string s] [.int .i64 jc,.int .i64 48,.bool js,.int .i64 jf,.int .i64 jd,.int .i64 jn,.int .i64 jm,.int .i64 jr,.int .i64 ja,.int .u32 ji,.int .i64 jt,.int .i64 jk,.bool jp,.bool ju,.bool jw,.int .u16 jl,.int .i64 jx,.int .i64 jy,.int .i64 jz,.int .i64 jv])
  cases g0:(jk !=0)
  · obtain ⟨k0,k1,k2,m0,m1,m4,m5,m6,m8,m11,m12,m14,m15⟩:=wm_cells HX.out
    go_enter Tryd.func52,Tryd.ntmps52
    go_wp2
    refine bodyPost_ret (by simp [results,Tryd.results52,go_sem]; rfl) rfl ⟨?_,HX.out.bel⟩
    congr 2
    first|rfl|simp [mayL, *]
  · cases g1:(q == 1)
    · obtain ⟨k0,k1,k2,m0,m1,m4,m5,m6,m8,m11,m12,m14,m15⟩:=wm_cells HX.out
      go_enter Tryd.func52,Tryd.ntmps52
      go_wp2
      refine bodyPost_ret (by simp [results,Tryd.results52,go_sem]; rfl) rfl ⟨?_,HX.out.bel⟩
      congr 2
      first|rfl|simp [mayL, *]
    · obtain ⟨k0,k1,k2,m0,m1,m4,m5,m6,m8,m11,m12,m14,m15⟩:=wm_cells HX.out
      go_enter Tryd.func52,Tryd.ntmps52
      go_wp2
      refine bodyPost_ret (by simp [results,Tryd.results52,go_sem]; rfl) rfl ⟨?_,HX.out.bel⟩
      congr 2
      first|rfl|simp [mayL, *]
end Go.Proofs.YtkmgmmmpiallhaaDoor
