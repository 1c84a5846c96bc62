import Derived.Test.YtkmgmmmpiallhaaDoorGb
namespace Go.Proofs.YtkmgmmmpiallhaaDoor
open Go.RowKit
set_option linter.unusedVariables false
set_option linter.unusedSimpArgs false
theorem u32_of (x:Int):IntKind.u32.wrap x=(((x%4294967296).toNat:Nat):Int):=by rw [IntKind.wrap_u32]; omega
set_option maxRecDepth 100000 in
theorem gvalue_0 (i:Ins) (w:World) (hi:IOk i):Calls Tryd.prog 48 #[.agg (insA i),.int .u8 0] w fun e w'=>e= .returned (.int .u32 ((valP i 0:Nat):Int))∧Below w.heap.size w w':=by
  obtain ⟨jc,jo,js,jf,jd,jn,jm,jr,ja,ji,jt,jk,jp,ju,jw,jl,jx,jy,jz,jv⟩:=i
  show Calls Tryd.prog 48 #[.agg #[.int .i64 jc,.int .i64 jo,.bool js,.int .i64 jf,.int .i64 jd,.int .i64 jn,.int .i64 jm,.int .i64 jr,.int .i64 ja,.int .u32 ji,.int .i64 jt,.int .i64 jk,.bool jp,.bool ju,.bool jw,.int .u16 jl,.int .i64 jx,.int .i64 jy,.int .i64 jz,.int .i64 jv],.int .u8 0] w fun e w'=>e= .returned (.int .u32 ((((jo-1)%4294967296).toNat:Nat):Int))∧Below w.heap.size w w'
  have hw:IntKind.u32.wrap (IntKind.i64.wrap (jo-1))=((((jo-1)%4294967296).toNat:Nat):Int):=by rw [IntKind.wrap_u32,IntKind.wrap_i64]; omega
  have hw2:IntKind.u32.wrap (wrap64 (jo-1))=((((jo-1)%4294967296).toNat:Nat):Int):=by rw [IntKind.wrap_u32]; unfold wrap64; omega
  generalize ((jo-1)%4294967296).toNat=N at *
  clear hi
  go_enter Tryd.func48,Tryd.ntmps48
  go_wp2
  exact bodyPost_ret (v:= .int .u32 ((N:Nat):Int)) (by simp [results,Tryd.results48,go_sem]) rfl ⟨rfl,below_new _ _⟩
set_option maxRecDepth 100000 in
theorem gvalue_1 (i:Ins) (w:World) (hi:IOk i):Calls Tryd.prog 48 #[.agg (insA i),.int .u8 1] w fun e w'=>e= .returned (.int .u32 ((valP i 1:Nat):Int))∧Below w.heap.size w w':=by
  obtain ⟨jc,jo,js,jf,jd,jn,jm,jr,ja,ji,jt,jk,jp,ju,jw,jl,jx,jy,jz,jv⟩:=i
  show Calls Tryd.prog 48 #[.agg #[.int .i64 jc,.int .i64 jo,.bool js,.int .i64 jf,.int .i64 jd,.int .i64 jn,.int .i64 jm,.int .i64 jr,.int .i64 ja,.int .u32 ji,.int .i64 jt,.int .i64 jk,.bool jp,.bool ju,.bool jw,.int .u16 jl,.int .i64 jx,.int .i64 jy,.int .i64 jz,.int .i64 jv],.int .u8 1] w fun e w'=>e= .returned (.int .u32 ((js.toNat:Nat):Int))∧Below w.heap.size w w'
  clear hi
  go_enter Tryd.func48,Tryd.ntmps48
  go_wp2_with (go_at_call 58; refine (gbit_any _ _).mono ?_; rintro e w1 ⟨rfl,rfl⟩)
  exact bodyPost_ret (v:= .int .u32 ((js.toNat:Nat):Int)) (by simp [results,Tryd.results48,go_sem]) rfl ⟨rfl,below_new _ _⟩
set_option maxRecDepth 100000 in
theorem gvalue_2 (i:Ins) (w:World) (hi:IOk i):Calls Tryd.prog 48 #[.agg (insA i),.int .u8 2] w fun e w'=>e= .returned (.int .u32 ((valP i 2:Nat):Int))∧Below w.heap.size w w':=by
  obtain ⟨jc,jo,js,jf,jd,jn,jm,jr,ja,ji,jt,jk,jp,ju,jw,jl,jx,jy,jz,jv⟩:=i
  show Calls Tryd.prog 48 #[.agg #[.int .i64 jc,.int .i64 jo,.bool js,.int .i64 jf,.int .i64 jd,.int .i64 jn,.int .i64 jm,.int .i64 jr,.int .i64 ja,.int .u32 ji,.int .i64 jt,.int .i64 jk,.bool jp,.bool ju,.bool jw,.int .u16 jl,.int .i64 jx,.int .i64 jy,.int .i64 jz,.int .i64 jv],.int .u8 2] w fun e w'=>e= .returned (.int .u32 (((jd%4294967296).toNat:Nat):Int))∧Below w.heap.size w w'
  have hw:=u32_of jd
  generalize (jd%4294967296).toNat=N at *
  clear hi
  go_enter Tryd.func48,Tryd.ntmps48
  go_wp2
  exact bodyPost_ret (v:= .int .u32 ((N:Nat):Int)) (by simp [results,Tryd.results48,go_sem]) rfl ⟨rfl,below_new _ _⟩
set_option maxRecDepth 100000 in
theorem gvalue_3 (i:Ins) (w:World) (hi:IOk i):Calls Tryd.prog 48 #[.agg (insA i),.int .u8 3] w fun e w'=>e= .returned (.int .u32 ((valP i 3:Nat):Int))∧Below w.heap.size w w':=by
  obtain ⟨jc,jo,js,jf,jd,jn,jm,jr,ja,ji,jt,jk,jp,ju,jw,jl,jx,jy,jz,jv⟩:=i
  show Calls Tryd.prog 48 #[.agg #[.int .i64 jc,.int .i64 jo,.bool js,.int .i64 jf,.int .i64 jd,.int .i64 jn,.int .i64 jm,.int .i64 jr,.int .i64 ja,.int .u32 ji,.int .i64 jt,.int .i64 jk,.bool jp,.bool ju,.bool jw,.int .u16 jl,.int .i64 jx,.int .i64 jy,.int .i64 jz,.int .i64 jv],.int .u8 3] w fun e w'=>e= .returned (.int .u32 (((jn%4294967296).toNat:Nat):Int))∧Below w.heap.size w w'
  have hw:=u32_of jn
  generalize (jn%4294967296).toNat=N at *
  clear hi
  go_enter Tryd.func48,Tryd.ntmps48
  go_wp2
  exact bodyPost_ret (v:= .int .u32 ((N:Nat):Int)) (by simp [results,Tryd.results48,go_sem]) rfl ⟨rfl,below_new _ _⟩
set_option maxRecDepth 100000 in
theorem gvalue_4 (i:Ins) (w:World) (hi:IOk i):Calls Tryd.prog 48 #[.agg (insA i),.int .u8 4] w fun e w'=>e= .returned (.int .u32 ((valP i 4:Nat):Int))∧Below w.heap.size w w':=by
  obtain ⟨jc,jo,js,jf,jd,jn,jm,jr,ja,ji,jt,jk,jp,ju,jw,jl,jx,jy,jz,jv⟩:=i
  show Calls Tryd.prog 48 #[.agg #[.int .i64 jc,.int .i64 jo,.bool js,.int .i64 jf,.int .i64 jd,.int .i64 jn,.int .i64 jm,.int .i64 jr,.int .i64 ja,.int .u32 ji,.int .i64 jt,.int .i64 jk,.bool jp,.bool ju,.bool jw,.int .u16 jl,.int .i64 jx,.int .i64 jy,.int .i64 jz,.int .i64 jv],.int .u8 4] w fun e w'=>e= .returned (.int .u32 (((jm%4294967296).toNat:Nat):Int))∧Below w.heap.size w w'
  have hw:=u32_of jm
  generalize (jm%4294967296).toNat=N at *
  clear hi
  go_enter Tryd.func48,Tryd.ntmps48
  go_wp2
  exact bodyPost_ret (v:= .int .u32 ((N:Nat):Int)) (by simp [results,Tryd.results48,go_sem]) rfl ⟨rfl,below_new _ _⟩
set_option maxRecDepth 100000 in
theorem gvalue_5 (i:Ins) (w:World) (hi:IOk i):Calls Tryd.prog 48 #[.agg (insA i),.int .u8 5] w fun e w'=>e= .returned (.int .u32 ((valP i 5:Nat):Int))∧Below w.heap.size w w':=by
  obtain ⟨jc,jo,js,jf,jd,jn,jm,jr,ja,ji,jt,jk,jp,ju,jw,jl,jx,jy,jz,jv⟩:=i
  show Calls Tryd.prog 48 #[.agg #[.int .i64 jc,.int .i64 jo,.bool js,.int .i64 jf,.int .i64 jd,.int .i64 jn,.int .i64 jm,.int .i64 jr,.int .i64 ja,.int .u32 ji,.int .i64 jt,.int .i64 jk,.bool jp,.bool ju,.bool jw,.int .u16 jl,.int .i64 jx,.int .i64 jy,.int .i64 jz,.int .i64 jv],.int .u8 5] w fun e w'=>e= .returned (.int .u32 (((jr%4294967296).toNat:Nat):Int))∧Below w.heap.size w w'
  have hw:=u32_of jr
  generalize (jr%4294967296).toNat=N at *
  clear hi
  go_enter Tryd.func48,Tryd.ntmps48
  go_wp2
  exact bodyPost_ret (v:= .int .u32 ((N:Nat):Int)) (by simp [results,Tryd.results48,go_sem]) rfl ⟨rfl,below_new _ _⟩
set_option maxRecDepth 100000 in
theorem gvalue_6 (i:Ins) (w:World) (hi:IOk i):Calls Tryd.prog 48 #[.agg (insA i),.int .u8 6] w fun e w'=>e= .returned (.int .u32 ((valP i 6:Nat):Int))∧Below w.heap.size w w':=by
  obtain ⟨jc,jo,js,jf,jd,jn,jm,jr,ja,ji,jt,jk,jp,ju,jw,jl,jx,jy,jz,jv⟩:=i
  show Calls Tryd.prog 48 #[.agg #[.int .i64 jc,.int .i64 jo,.bool js,.int .i64 jf,.int .i64 jd,.int .i64 jn,.int .i64 jm,.int .i64 jr,.int .i64 ja,.int .u32 ji,.int .i64 jt,.int .i64 jk,.bool jp,.bool ju,.bool jw,.int .u16 jl,.int .i64 jx,.int .i64 jy,.int .i64 jz,.int .i64 jv],.int .u8 6] w fun e w'=>e= .returned (.int .u32 (((ja%4294967296).toNat:Nat):Int))∧Below w.heap.size w w'
  have hw:=u32_of ja
  generalize (ja%4294967296).toNat=N at *
  clear hi
  go_enter Tryd.func48,Tryd.ntmps48
  go_wp2
  exact bodyPost_ret (v:= .int .u32 ((N:Nat):Int)) (by simp [results,Tryd.results48,go_sem]) rfl ⟨rfl,below_new _ _⟩
set_option maxRecDepth 100000 in
theorem gvalue_7 (i:Ins) (w:World) (hi:IOk i):Calls Tryd.prog 48 #[.agg (insA i),.int .u8 7] w fun e w'=>e= .returned (.int .u32 ((valP i 7:Nat):Int))∧Below w.heap.size w w':=by
  obtain ⟨jc,jo,js,jf,jd,jn,jm,jr,ja,ji,jt,jk,jp,ju,jw,jl,jx,jy,jz,jv⟩:=i
  show Calls Tryd.prog 48 #[.agg #[.int .i64 jc,.int .i64 jo,.bool js,.int .i64 jf,.int .i64 jd,.int .i64 jn,.int .i64 jm,.int .i64 jr,.int .i64 ja,.int .u32 ji,.int .i64 jt,.int .i64 jk,.bool jp,.bool ju,.bool jw,.int .u16 jl,.int .i64 jx,.int .i64 jy,.int .i64 jz,.int .i64 jv],.int .u8 7] w fun e w'=>e= .returned (.int .u32 ((ji.toNat:Nat):Int))∧Below w.heap.size w w'
  have hw:ji=((ji.toNat:Nat):Int):=by have:=hi.imm; dsimp only at this; omega
  have HW:Hid _:=hw
  clear hw
  clear hi
  go_enter Tryd.func48,Tryd.ntmps48
  go_wp2
  exact bodyPost_ret (v:= .int .u32 ji) (by simp [results,Tryd.results48,go_sem]) rfl ⟨by rw [←HW.out],below_new _ _⟩
set_option maxRecDepth 100000 in
theorem gvalue_8 (i:Ins) (w:World) (hi:IOk i):Calls Tryd.prog 48 #[.agg (insA i),.int .u8 8] w fun e w'=>e= .returned (.int .u32 ((valP i 8:Nat):Int))∧Below w.heap.size w w':=by
  obtain ⟨jc,jo,js,jf,jd,jn,jm,jr,ja,ji,jt,jk,jp,ju,jw,jl,jx,jy,jz,jv⟩:=i
  show Calls Tryd.prog 48 #[.agg #[.int .i64 jc,.int .i64 jo,.bool js,.int .i64 jf,.int .i64 jd,.int .i64 jn,.int .i64 jm,.int .i64 jr,.int .i64 ja,.int .u32 ji,.int .i64 jt,.int .i64 jk,.bool jp,.bool ju,.bool jw,.int .u16 jl,.int .i64 jx,.int .i64 jy,.int .i64 jz,.int .i64 jv],.int .u8 8] w fun e w'=>e= .returned (.int .u32 (((jt%4294967296).toNat:Nat):Int))∧Below w.heap.size w w'
  have hw:=u32_of jt
  generalize (jt%4294967296).toNat=N at *
  clear hi
  go_enter Tryd.func48,Tryd.ntmps48
  go_wp2
  exact bodyPost_ret (v:= .int .u32 ((N:Nat):Int)) (by simp [results,Tryd.results48,go_sem]) rfl ⟨rfl,below_new _ _⟩
set_option maxRecDepth 100000 in
theorem gvalue_9 (i:Ins) (w:World) (hi:IOk i):Calls Tryd.prog 48 #[.agg (insA i),.int .u8 9] w fun e w'=>e= .returned (.int .u32 ((valP i 9:Nat):Int))∧Below w.heap.size w w':=by
  obtain ⟨jc,jo,js,jf,jd,jn,jm,jr,ja,ji,jt,jk,jp,ju,jw,jl,jx,jy,jz,jv⟩:=i
  show Calls Tryd.prog 48 #[.agg #[.int .i64 jc,.int .i64 jo,.bool js,.int .i64 jf,.int .i64 jd,.int .i64 jn,.int .i64 jm,.int .i64 jr,.int .i64 ja,.int .u32 ji,.int .i64 jt,.int .i64 jk,.bool jp,.bool ju,.bool jw,.int .u16 jl,.int .i64 jx,.int .i64 jy,.int .i64 jz,.int .i64 jv],.int .u8 9] w fun e w'=>e= .returned (.int .u32 (((jk%4294967296).toNat:Nat):Int))∧Below w.heap.size w w'
  have hw:=u32_of jk
  generalize (jk%4294967296).toNat=N at *
  clear hi
  go_enter Tryd.func48,Tryd.ntmps48
  go_wp2
  exact bodyPost_ret (v:= .int .u32 ((N:Nat):Int)) (by simp [results,Tryd.results48,go_sem]) rfl ⟨rfl,below_new _ _⟩
set_option maxRecDepth 100000 in
theorem gvalue_10 (i:Ins) (w:World) (hi:IOk i):Calls Tryd.prog 48 #[.agg (insA i),.int .u8 10] w fun e w'=>e= .returned (.int .u32 ((valP i 10:Nat):Int))∧Below w.heap.size w w':=by
  obtain ⟨jc,jo,js,jf,jd,jn,jm,jr,ja,ji,jt,jk,jp,ju,jw,jl,jx,jy,jz,jv⟩:=i
  show Calls Tryd.prog 48 #[.agg #[.int .i64 jc,.int .i64 jo,.bool js,.int .i64 jf,.int .i64 jd,.int .i64 jn,.int .i64 jm,.int .i64 jr,.int .i64 ja,.int .u32 ji,.int .i64 jt,.int .i64 jk,.bool jp,.bool ju,.bool jw,.int .u16 jl,.int .i64 jx,.int .i64 jy,.int .i64 jz,.int .i64 jv],.int .u8 10] w fun e w'=>e= .returned (.int .u32 ((jp.toNat:Nat):Int))∧Below w.heap.size w w'
  clear hi
  go_enter Tryd.func48,Tryd.ntmps48
  go_wp2_with (go_at_call 58; refine (gbit_any _ _).mono ?_; rintro e w1 ⟨rfl,rfl⟩)
  exact bodyPost_ret (v:= .int .u32 ((jp.toNat:Nat):Int)) (by simp [results,Tryd.results48,go_sem]) rfl ⟨rfl,below_new _ _⟩
set_option maxRecDepth 100000 in
theorem gvalue_11 (i:Ins) (w:World) (hi:IOk i):Calls Tryd.prog 48 #[.agg (insA i),.int .u8 11] w fun e w'=>e= .returned (.int .u32 ((valP i 11:Nat):Int))∧Below w.heap.size w w':=by
  obtain ⟨jc,jo,js,jf,jd,jn,jm,jr,ja,ji,jt,jk,jp,ju,jw,jl,jx,jy,jz,jv⟩:=i
  show Calls Tryd.prog 48 #[.agg #[.int .i64 jc,.int .i64 jo,.bool js,.int .i64 jf,.int .i64 jd,.int .i64 jn,.int .i64 jm,.int .i64 jr,.int .i64 ja,.int .u32 ji,.int .i64 jt,.int .i64 jk,.bool jp,.bool ju,.bool jw,.int .u16 jl,.int .i64 jx,.int .i64 jy,.int .i64 jz,.int .i64 jv],.int .u8 11] w fun e w'=>e= .returned (.int .u32 ((ju.toNat:Nat):Int))∧Below w.heap.size w w'
  clear hi
  go_enter Tryd.func48,Tryd.ntmps48
  go_wp2_with (go_at_call 58; refine (gbit_any _ _).mono ?_; rintro e w1 ⟨rfl,rfl⟩)
  exact bodyPost_ret (v:= .int .u32 ((ju.toNat:Nat):Int)) (by simp [results,Tryd.results48,go_sem]) rfl ⟨rfl,below_new _ _⟩
set_option maxRecDepth 100000 in
theorem gvalue_12 (i:Ins) (w:World) (hi:IOk i):Calls Tryd.prog 48 #[.agg (insA i),.int .u8 12] w fun e w'=>e= .returned (.int .u32 ((valP i 12:Nat):Int))∧Below w.heap.size w w':=by
  obtain ⟨jc,jo,js,jf,jd,jn,jm,jr,ja,ji,jt,jk,jp,ju,jw,jl,jx,jy,jz,jv⟩:=i
  show Calls Tryd.prog 48 #[.agg #[.int .i64 jc,.int .i64 jo,.bool js,.int .i64 jf,.int .i64 jd,.int .i64 jn,.int .i64 jm,.int .i64 jr,.int .i64 ja,.int .u32 ji,.int .i64 jt,.int .i64 jk,.bool jp,.bool ju,.bool jw,.int .u16 jl,.int .i64 jx,.int .i64 jy,.int .i64 jz,.int .i64 jv],.int .u8 12] w fun e w'=>e= .returned (.int .u32 ((jw.toNat:Nat):Int))∧Below w.heap.size w w'
  clear hi
  go_enter Tryd.func48,Tryd.ntmps48
  go_wp2_with (go_at_call 58; refine (gbit_any _ _).mono ?_; rintro e w1 ⟨rfl,rfl⟩)
  exact bodyPost_ret (v:= .int .u32 ((jw.toNat:Nat):Int)) (by simp [results,Tryd.results48,go_sem]) rfl ⟨rfl,below_new _ _⟩
set_option maxRecDepth 100000 in
theorem gvalue_13 (i:Ins) (w:World) (hi:IOk i):Calls Tryd.prog 48 #[.agg (insA i),.int .u8 13] w fun e w'=>e= .returned (.int .u32 ((valP i 13:Nat):Int))∧Below w.heap.size w w':=by
  obtain ⟨jc,jo,js,jf,jd,jn,jm,jr,ja,ji,jt,jk,jp,ju,jw,jl,jx,jy,jz,jv⟩:=i
  show Calls Tryd.prog 48 #[.agg #[.int .i64 jc,.int .i64 jo,.bool js,.int .i64 jf,.int .i64 jd,.int .i64 jn,.int .i64 jm,.int .i64 jr,.int .i64 ja,.int .u32 ji,.int .i64 jt,.int .i64 jk,.bool jp,.bool ju,.bool jw,.int .u16 jl,.int .i64 jx,.int .i64 jy,.int .i64 jz,.int .i64 jv],.int .u8 13] w fun e w'=>e= .returned (.int .u32 ((jl.toNat:Nat):Int))∧Below w.heap.size w w'
  have hl:=hi.list
  dsimp only at hl
  have hw:IntKind.u32.wrap jl=((jl.toNat:Nat):Int):=by rw [IntKind.wrap_u32]; omega
  obtain ⟨hl1,hl2⟩:=hl
  generalize jl.toNat=N at *
  clear hi
  go_enter Tryd.func48,Tryd.ntmps48
  go_wp2
  exact bodyPost_ret (v:= .int .u32 ((N:Nat):Int)) (by simp [results,Tryd.results48,go_sem]) rfl ⟨rfl,below_new _ _⟩
set_option maxRecDepth 100000 in
theorem gvalue_14 (i:Ins) (w:World) (hi:IOk i):Calls Tryd.prog 48 #[.agg (insA i),.int .u8 14] w fun e w'=>e= .returned (.int .u32 ((valP i 14:Nat):Int))∧Below w.heap.size w w':=by
  obtain ⟨jc,jo,js,jf,jd,jn,jm,jr,ja,ji,jt,jk,jp,ju,jw,jl,jx,jy,jz,jv⟩:=i
  show Calls Tryd.prog 48 #[.agg #[.int .i64 jc,.int .i64 jo,.bool js,.int .i64 jf,.int .i64 jd,.int .i64 jn,.int .i64 jm,.int .i64 jr,.int .i64 ja,.int .u32 ji,.int .i64 jt,.int .i64 jk,.bool jp,.bool ju,.bool jw,.int .u16 jl,.int .i64 jx,.int .i64 jy,.int .i64 jz,.int .i64 jv],.int .u8 14] w fun e w'=>e= .returned (.int .u32 (((jx%4294967296).toNat:Nat):Int))∧Below w.heap.size w w'
  have hw:=u32_of jx
  generalize (jx%4294967296).toNat=N at *
  clear hi
  go_enter Tryd.func48,Tryd.ntmps48
  go_wp2
  exact bodyPost_ret (v:= .int .u32 ((N:Nat):Int)) (by simp [results,Tryd.results48,go_sem]) rfl ⟨rfl,below_new _ _⟩
set_option maxRecDepth 100000 in
theorem gvalue_15 (i:Ins) (w:World) (hi:IOk i):Calls Tryd.prog 48 #[.agg (insA i),.int .u8 15] w fun e w'=>e= .returned (.int .u32 ((valP i 15:Nat):Int))∧Below w.heap.size w w':=by
  obtain ⟨jc,jo,js,jf,jd,jn,jm,jr,ja,ji,jt,jk,jp,ju,jw,jl,jx,jy,jz,jv⟩:=i
  show Calls Tryd.prog 48 #[.agg #[.int .i64 jc,.int .i64 jo,.bool js,.int .i64 jf,.int .i64 jd,.int .i64 jn,.int .i64 jm,.int .i64 jr,.int .i64 ja,.int .u32 ji,.int .i64 jt,.int .i64 jk,.bool jp,.bool ju,.bool jw,.int .u16 jl,.int .i64 jx,.int .i64 jy,.int .i64 jz,.int .i64 jv],.int .u8 15] w fun e w'=>e= .returned (.int .u32 (((jy%4294967296).toNat:Nat):Int))∧Below w.heap.size w w'
  have hw:=u32_of jy
  generalize (jy%4294967296).toNat=N at *
  clear hi
  go_enter Tryd.func48,Tryd.ntmps48
  go_wp2
  exact bodyPost_ret (v:= .int .u32 ((N:Nat):Int)) (by simp [results,Tryd.results48,go_sem]) rfl ⟨rfl,below_new _ _⟩
set_option maxRecDepth 100000 in
theorem gvalue_16 (i:Ins) (w:World) (hi:IOk i):Calls Tryd.prog 48 #[.agg (insA i),.int .u8 16] w fun e w'=>e= .returned (.int .u32 ((valP i 16:Nat):Int))∧Below w.heap.size w w':=by
  obtain ⟨jc,jo,js,jf,jd,jn,jm,jr,ja,ji,jt,jk,jp,ju,jw,jl,jx,jy,jz,jv⟩:=i
  show Calls Tryd.prog 48 #[.agg #[.int .i64 jc,.int .i64 jo,.bool js,.int .i64 jf,.int .i64 jd,.int .i64 jn,.int .i64 jm,.int .i64 jr,.int .i64 ja,.int .u32 ji,.int .i64 jt,.int .i64 jk,.bool jp,.bool ju,.bool jw,.int .u16 jl,.int .i64 jx,.int .i64 jy,.int .i64 jz,.int .i64 jv],.int .u8 16] w fun e w'=>e= .returned (.int .u32 (((jz%4294967296).toNat:Nat):Int))∧Below w.heap.size w w'
  have hw:=u32_of jz
  generalize (jz%4294967296).toNat=N at *
  clear hi
  go_enter Tryd.func48,Tryd.ntmps48
  go_wp2
  exact bodyPost_ret (v:= .int .u32 ((N:Nat):Int)) (by simp [results,Tryd.results48,go_sem]) rfl ⟨rfl,below_new _ _⟩
set_option maxRecDepth 100000 in
theorem gvalue_17 (i:Ins) (w:World) (hi:IOk i):Calls Tryd.prog 48 #[.agg (insA i),.int .u8 17] w fun e w'=>e= .returned (.int .u32 ((valP i 17:Nat):Int))∧Below w.heap.size w w':=by
  obtain ⟨jc,jo,js,jf,jd,jn,jm,jr,ja,ji,jt,jk,jp,ju,jw,jl,jx,jy,jz,jv⟩:=i
  show Calls Tryd.prog 48 #[.agg #[.int .i64 jc,.int .i64 jo,.bool js,.int .i64 jf,.int .i64 jd,.int .i64 jn,.int .i64 jm,.int .i64 jr,.int .i64 ja,.int .u32 ji,.int .i64 jt,.int .i64 jk,.bool jp,.bool ju,.bool jw,.int .u16 jl,.int .i64 jx,.int .i64 jy,.int .i64 jz,.int .i64 jv],.int .u8 17] w fun e w'=>e= .returned (.int .u32 (((jv%4294967296).toNat:Nat):Int))∧Below w.heap.size w w'
  have hw:=u32_of jv
  generalize (jv%4294967296).toNat=N at *
  clear hi
  go_enter Tryd.func48,Tryd.ntmps48
  go_wp2
  exact bodyPost_ret (v:= .int .u32 ((N:Nat):Int)) (by simp [results,Tryd.results48,go_sem]) rfl ⟨rfl,below_new _ _⟩
theorem gvalue_any (i:Ins) (f:Nat) (w:World) (hi:IOk i) (hf:f<18):Calls Tryd.prog 48 #[.agg (insA i),.int .u8 (f:Int)] w fun e w'=>e= .returned (.int .u32 ((valP i f:Nat):Int))∧Below w.heap.size w w':=by
  have:f=0∨f=1∨f=2∨f=3∨f=4∨f=5∨f=6∨f=7∨f=8∨f=9∨f=10∨f=11∨f=12∨f=13∨f=14∨f=15∨f=16∨f=17:=by omega
  rcases this with rfl|rfl|rfl|rfl|rfl|rfl|rfl|rfl|rfl|rfl|rfl|rfl|rfl|rfl|rfl|rfl|rfl|rfl
  · exact gvalue_0 i w hi
  · exact gvalue_1 i w hi
  · exact gvalue_2 i w hi
  · exact gvalue_3 i w hi
  · exact gvalue_4 i w hi
  · exact gvalue_5 i w hi
  · exact gvalue_6 i w hi
  · exact gvalue_7 i w hi
  · exact gvalue_8 i w hi
  · exact gvalue_9 i w hi
  · exact gvalue_10 i w hi
  · exact gvalue_11 i w hi
  · exact gvalue_12 i w hi
  · exact gvalue_13 i w hi
  · exact gvalue_14 i w hi
  · exact gvalue_15 i w hi
  · exact gvalue_16 i w hi
  · exact gvalue_17 i w hi
end Go.Proofs.YtkmgmmmpiallhaaDoor
