import Derived.Test.YtmmocnejacflmabDoorTb
namespace Go.Proofs.YtmmocnejacflmabDoor
open Go.RowKit
set_option linter.unusedVariables false
set_option linter.unusedSimpArgs false
set_option maxRecDepth 100000 in
set_option maxHeartbeats 1000000 in
theorem rtext_1_0 (d : Int) (w : World) (hd : 0 ≤ d ∧ d ≤ 15) (HR0 : ∀ w, Calls Tryd.prog 27 #[.agg #[.int .i64 1, .int .i64 0, .int .i64 d]] w fun e w' => e = .returned (.bool true) ∧ Below w.heap.size w w') :
    Calls Tryd.prog 16 #[.agg #[.int .i64 1, .int .i64 0, .int .i64 d]] w fun e w' => e = .returned (.string (txR 1 0 d)) ∧ Below w.heap.size w w' := by
  have HI : Hid (∀ w, Calls Tryd.prog 26 #[.int .i64 d] w fun e w' => e = .returned (.string (itS d)) ∧ w = w') := fun w => itoa_any d w (by omega)
  have HJ : Hid (∀ w, Calls Tryd.prog 26 #[.int .i64 0] w fun e w' => e = .returned (.string ⟨#[48]⟩) ∧ w = w') := fun w => itoa_any 0 w (by omega)
  have hsz := itS_size d (by omega)
  have HR : Hid (∀ w, Calls Tryd.prog 27 #[.agg #[.int .i64 1, .int .i64 0, .int .i64 d]] w fun e w' => e = .returned (.bool true) ∧ Below w.heap.size w w') := HR0
  have HW0 : Hid (Below w.heap.size w (w.alloc (.cells #[.int .i64 1, .int .i64 0, .int .i64 d] 39))) := below_new _ _
  have HB0 : Hid (Bl (w.alloc (.cells #[.int .i64 1, .int .i64 0, .int .i64 d] 39)) w.heap.size 39 [.int .i64 1, .int .i64 0, .int .i64 d]) := Bl.new _ _ _
  have eZ := eqF ⟨1, 0, d⟩ fZ
  have hz : Fa.same ⟨1, 0, d⟩ fZ = false := by simp [Fa.same, fZ]
  rw [hz] at eZ
  simp only [fZ] at eZ
  generalize hD : itS d = D at *
  have hV : txR 1 0 d = (⟨#[97, 108, 105, 103, 110, 109, 101, 110, 116]⟩ : ByteArray) := by first | rfl | (rw [← hD]; rfl)
  have HV : Hid (txR 1 0 d = (⟨#[97, 108, 105, 103, 110, 109, 101, 110, 116]⟩ : ByteArray)) := hV
  clear hV HR0 hd hz hD
  go_enter Tryd.func16, Tryd.ntmps16
  go_wp2_with (fail)
  go_at_call 27
  refine (HR.out _).mono ?_
  rintro e w1 ⟨rfl, hb⟩
  have HW1 : Hid (Below w.heap.size w w1) := Below.step HW0.out hb
  have c0 := (HB0.out.below hb).cell
  clear hb HW0 HB0 HR
  go_wp2_with (first | (go_at_call_of 26 (Value.int IntKind.i64 d); refine (HI.out _).mono ?_; rintro e w' ⟨rfl, rfl⟩) | (go_at_call 26; refine (HJ.out _).mono ?_; rintro e w' ⟨rfl, rfl⟩) | go_in)
  go_ret
  exact ⟨by rw [HV.out]; rfl, HW1.out⟩
set_option maxRecDepth 100000 in
set_option maxHeartbeats 1000000 in
theorem rtext_2_0 (d : Int) (w : World) (hd : 0 ≤ d ∧ d ≤ 15) (HR0 : ∀ w, Calls Tryd.prog 27 #[.agg #[.int .i64 2, .int .i64 0, .int .i64 d]] w fun e w' => e = .returned (.bool true) ∧ Below w.heap.size w w') :
    Calls Tryd.prog 16 #[.agg #[.int .i64 2, .int .i64 0, .int .i64 d]] w fun e w' => e = .returned (.string (txR 2 0 d)) ∧ Below w.heap.size w w' := by
  have HI : Hid (∀ w, Calls Tryd.prog 26 #[.int .i64 d] w fun e w' => e = .returned (.string (itS d)) ∧ w = w') := fun w => itoa_any d w (by omega)
  have HJ : Hid (∀ w, Calls Tryd.prog 26 #[.int .i64 0] w fun e w' => e = .returned (.string ⟨#[48]⟩) ∧ w = w') := fun w => itoa_any 0 w (by omega)
  have hsz := itS_size d (by omega)
  have HR : Hid (∀ w, Calls Tryd.prog 27 #[.agg #[.int .i64 2, .int .i64 0, .int .i64 d]] w fun e w' => e = .returned (.bool true) ∧ Below w.heap.size w w') := HR0
  have HW0 : Hid (Below w.heap.size w (w.alloc (.cells #[.int .i64 2, .int .i64 0, .int .i64 d] 39))) := below_new _ _
  have HB0 : Hid (Bl (w.alloc (.cells #[.int .i64 2, .int .i64 0, .int .i64 d] 39)) w.heap.size 39 [.int .i64 2, .int .i64 0, .int .i64 d]) := Bl.new _ _ _
  have eZ := eqF ⟨2, 0, d⟩ fZ
  have hz : Fa.same ⟨2, 0, d⟩ fZ = false := by simp [Fa.same, fZ]
  rw [hz] at eZ
  simp only [fZ] at eZ
  generalize hD : itS d = D at *
  have hV : txR 2 0 d = (⟨#[119, 97, 108, 107, 32, 49]⟩ : ByteArray) := by first | rfl | (rw [← hD]; rfl)
  have HV : Hid (txR 2 0 d = (⟨#[119, 97, 108, 107, 32, 49]⟩ : ByteArray)) := hV
  clear hV HR0 hd hz hD
  go_enter Tryd.func16, Tryd.ntmps16
  go_wp2_with (fail)
  go_at_call 27
  refine (HR.out _).mono ?_
  rintro e w1 ⟨rfl, hb⟩
  have HW1 : Hid (Below w.heap.size w w1) := Below.step HW0.out hb
  have c0 := (HB0.out.below hb).cell
  clear hb HW0 HB0 HR
  go_wp2_with (first | (go_at_call_of 26 (Value.int IntKind.i64 d); refine (HI.out _).mono ?_; rintro e w' ⟨rfl, rfl⟩) | (go_at_call 26; refine (HJ.out _).mono ?_; rintro e w' ⟨rfl, rfl⟩) | go_in)
  go_ret
  exact ⟨by rw [HV.out]; rfl, HW1.out⟩
set_option maxRecDepth 100000 in
set_option maxHeartbeats 1000000 in
theorem rtext_3_0 (d : Int) (w : World) (hd : 0 ≤ d ∧ d ≤ 15) (HR0 : ∀ w, Calls Tryd.prog 27 #[.agg #[.int .i64 3, .int .i64 0, .int .i64 d]] w fun e w' => e = .returned (.bool true) ∧ Below w.heap.size w w') :
    Calls Tryd.prog 16 #[.agg #[.int .i64 3, .int .i64 0, .int .i64 d]] w fun e w' => e = .returned (.string (txR 3 0 d)) ∧ Below w.heap.size w w' := by
  have HI : Hid (∀ w, Calls Tryd.prog 26 #[.int .i64 d] w fun e w' => e = .returned (.string (itS d)) ∧ w = w') := fun w => itoa_any d w (by omega)
  have HJ : Hid (∀ w, Calls Tryd.prog 26 #[.int .i64 0] w fun e w' => e = .returned (.string ⟨#[48]⟩) ∧ w = w') := fun w => itoa_any 0 w (by omega)
  have hsz := itS_size d (by omega)
  have HR : Hid (∀ w, Calls Tryd.prog 27 #[.agg #[.int .i64 3, .int .i64 0, .int .i64 d]] w fun e w' => e = .returned (.bool true) ∧ Below w.heap.size w w') := HR0
  have HW0 : Hid (Below w.heap.size w (w.alloc (.cells #[.int .i64 3, .int .i64 0, .int .i64 d] 39))) := below_new _ _
  have HB0 : Hid (Bl (w.alloc (.cells #[.int .i64 3, .int .i64 0, .int .i64 d] 39)) w.heap.size 39 [.int .i64 3, .int .i64 0, .int .i64 d]) := Bl.new _ _ _
  have eZ := eqF ⟨3, 0, d⟩ fZ
  have hz : Fa.same ⟨3, 0, d⟩ fZ = false := by simp [Fa.same, fZ]
  rw [hz] at eZ
  simp only [fZ] at eZ
  generalize hD : itS d = D at *
  have hV : txR 3 0 d = (⟨#[116, 114, 97, 110, 115, 108, 97, 116, 105, 111, 110, 32, 49]⟩ : ByteArray) := by first | rfl | (rw [← hD]; rfl)
  have HV : Hid (txR 3 0 d = (⟨#[116, 114, 97, 110, 115, 108, 97, 116, 105, 111, 110, 32, 49]⟩ : ByteArray)) := hV
  clear hV HR0 hd hz hD
  go_enter Tryd.func16, Tryd.ntmps16
  go_wp2_with (fail)
  go_at_call 27
  refine (HR.out _).mono ?_
  rintro e w1 ⟨rfl, hb⟩
  have HW1 : Hid (Below w.heap.size w w1) := Below.step HW0.out hb
  have c0 := (HB0.out.below hb).cell
  clear hb HW0 HB0 HR
  go_wp2_with (first | (go_at_call_of 26 (Value.int IntKind.i64 d); refine (HI.out _).mono ?_; rintro e w' ⟨rfl, rfl⟩) | (go_at_call 26; refine (HJ.out _).mono ?_; rintro e w' ⟨rfl, rfl⟩) | go_in)
  go_ret
  exact ⟨by rw [HV.out]; rfl, HW1.out⟩
set_option maxRecDepth 100000 in
set_option maxHeartbeats 1000000 in
theorem rtext_4_0 (d : Int) (w : World) (hd : 0 ≤ d ∧ d ≤ 15) (HR0 : ∀ w, Calls Tryd.prog 27 #[.agg #[.int .i64 4, .int .i64 0, .int .i64 d]] w fun e w' => e = .returned (.bool true) ∧ Below w.heap.size w w') :
    Calls Tryd.prog 16 #[.agg #[.int .i64 4, .int .i64 0, .int .i64 d]] w fun e w' => e = .returned (.string (txR 4 0 d)) ∧ Below w.heap.size w w' := by
  have HI : Hid (∀ w, Calls Tryd.prog 26 #[.int .i64 d] w fun e w' => e = .returned (.string (itS d)) ∧ w = w') := fun w => itoa_any d w (by omega)
  have HJ : Hid (∀ w, Calls Tryd.prog 26 #[.int .i64 0] w fun e w' => e = .returned (.string ⟨#[48]⟩) ∧ w = w') := fun w => itoa_any 0 w (by omega)
  have hsz := itS_size d (by omega)
  have HR : Hid (∀ w, Calls Tryd.prog 27 #[.agg #[.int .i64 4, .int .i64 0, .int .i64 d]] w fun e w' => e = .returned (.bool true) ∧ Below w.heap.size w w') := HR0
  have HW0 : Hid (Below w.heap.size w (w.alloc (.cells #[.int .i64 4, .int .i64 0, .int .i64 d] 39))) := below_new _ _
  have HB0 : Hid (Bl (w.alloc (.cells #[.int .i64 4, .int .i64 0, .int .i64 d] 39)) w.heap.size 39 [.int .i64 4, .int .i64 0, .int .i64 d]) := Bl.new _ _ _
  have eZ := eqF ⟨4, 0, d⟩ fZ
  have hz : Fa.same ⟨4, 0, d⟩ fZ = false := by simp [Fa.same, fZ]
  rw [hz] at eZ
  simp only [fZ] at eZ
  generalize hD : itS d = D at *
  have hV : txR 4 0 d = (⟨#[119, 97, 108, 107, 32, 50]⟩ : ByteArray) ++ ((⟨#[32, 100, 111, 109, 97, 105, 110, 32]⟩ : ByteArray) ++ D) := by first | rfl | (rw [← hD]; rfl)
  have HV : Hid (txR 4 0 d = (⟨#[119, 97, 108, 107, 32, 50]⟩ : ByteArray) ++ ((⟨#[32, 100, 111, 109, 97, 105, 110, 32]⟩ : ByteArray) ++ D)) := hV
  clear hV HR0 hd hz hD
  go_enter Tryd.func16, Tryd.ntmps16
  go_wp2_with (fail)
  go_at_call 27
  refine (HR.out _).mono ?_
  rintro e w1 ⟨rfl, hb⟩
  have HW1 : Hid (Below w.heap.size w w1) := Below.step HW0.out hb
  have c0 := (HB0.out.below hb).cell
  clear hb HW0 HB0 HR
  go_wp2_with (first | (go_at_call_of 26 (Value.int IntKind.i64 d); refine (HI.out _).mono ?_; rintro e w' ⟨rfl, rfl⟩) | (go_at_call 26; refine (HJ.out _).mono ?_; rintro e w' ⟨rfl, rfl⟩) | go_in)
  go_ret
  exact ⟨by rw [HV.out]; rfl, HW1.out⟩
set_option maxRecDepth 100000 in
set_option maxHeartbeats 1000000 in
theorem rtext_5_0 (d : Int) (w : World) (hd : 0 ≤ d ∧ d ≤ 15) (HR0 : ∀ w, Calls Tryd.prog 27 #[.agg #[.int .i64 5, .int .i64 0, .int .i64 d]] w fun e w' => e = .returned (.bool true) ∧ Below w.heap.size w w') :
    Calls Tryd.prog 16 #[.agg #[.int .i64 5, .int .i64 0, .int .i64 d]] w fun e w' => e = .returned (.string (txR 5 0 d)) ∧ Below w.heap.size w w' := by
  have HI : Hid (∀ w, Calls Tryd.prog 26 #[.int .i64 d] w fun e w' => e = .returned (.string (itS d)) ∧ w = w') := fun w => itoa_any d w (by omega)
  have HJ : Hid (∀ w, Calls Tryd.prog 26 #[.int .i64 0] w fun e w' => e = .returned (.string ⟨#[48]⟩) ∧ w = w') := fun w => itoa_any 0 w (by omega)
  have hsz := itS_size d (by omega)
  have HR : Hid (∀ w, Calls Tryd.prog 27 #[.agg #[.int .i64 5, .int .i64 0, .int .i64 d]] w fun e w' => e = .returned (.bool true) ∧ Below w.heap.size w w') := HR0
  have HW0 : Hid (Below w.heap.size w (w.alloc (.cells #[.int .i64 5, .int .i64 0, .int .i64 d] 39))) := below_new _ _
  have HB0 : Hid (Bl (w.alloc (.cells #[.int .i64 5, .int .i64 0, .int .i64 d] 39)) w.heap.size 39 [.int .i64 5, .int .i64 0, .int .i64 d]) := Bl.new _ _ _
  have eZ := eqF ⟨5, 0, d⟩ fZ
  have hz : Fa.same ⟨5, 0, d⟩ fZ = false := by simp [Fa.same, fZ]
  rw [hz] at eZ
  simp only [fZ] at eZ
  generalize hD : itS d = D at *
  have hV : txR 5 0 d = (⟨#[116, 114, 97, 110, 115, 108, 97, 116, 105, 111, 110, 32, 50]⟩ : ByteArray) ++ ((⟨#[32, 100, 111, 109, 97, 105, 110, 32]⟩ : ByteArray) ++ D) := by first | rfl | (rw [← hD]; rfl)
  have HV : Hid (txR 5 0 d = (⟨#[116, 114, 97, 110, 115, 108, 97, 116, 105, 111, 110, 32, 50]⟩ : ByteArray) ++ ((⟨#[32, 100, 111, 109, 97, 105, 110, 32]⟩ : ByteArray) ++ D)) := hV
  clear hV HR0 hd hz hD
  go_enter Tryd.func16, Tryd.ntmps16
  go_wp2_with (fail)
  go_at_call 27
  refine (HR.out _).mono ?_
  rintro e w1 ⟨rfl, hb⟩
  have HW1 : Hid (Below w.heap.size w w1) := Below.step HW0.out hb
  have c0 := (HB0.out.below hb).cell
  clear hb HW0 HB0 HR
  go_wp2_with (first | (go_at_call_of 26 (Value.int IntKind.i64 d); refine (HI.out _).mono ?_; rintro e w' ⟨rfl, rfl⟩) | (go_at_call 26; refine (HJ.out _).mono ?_; rintro e w' ⟨rfl, rfl⟩) | go_in)
  go_ret
  exact ⟨by rw [HV.out]; rfl, HW1.out⟩
set_option maxRecDepth 100000 in
set_option maxHeartbeats 1000000 in
theorem rtext_6_0 (d : Int) (w : World) (hd : 0 ≤ d ∧ d ≤ 15) (HR0 : ∀ w, Calls Tryd.prog 27 #[.agg #[.int .i64 6, .int .i64 0, .int .i64 d]] w fun e w' => e = .returned (.bool true) ∧ Below w.heap.size w w') :
    Calls Tryd.prog 16 #[.agg #[.int .i64 6, .int .i64 0, .int .i64 d]] w fun e w' => e = .returned (.string (txR 6 0 d)) ∧ Below w.heap.size w w' := by
  have HI : Hid (∀ w, Calls Tryd.prog 26 #[.int .i64 d] w fun e w' => e = .returned (.string (itS d)) ∧ w = w') := fun w => itoa_any d w (by omega)
  have HJ : Hid (∀ w, Calls Tryd.prog 26 #[.int .i64 0] w fun e w' => e = .returned (.string ⟨#[48]⟩) ∧ w = w') := fun w => itoa_any 0 w (by omega)
  have hsz := itS_size d (by omega)
  have HR : Hid (∀ w, Calls Tryd.prog 27 #[.agg #[.int .i64 6, .int .i64 0, .int .i64 d]] w fun e w' => e = .returned (.bool true) ∧ Below w.heap.size w w') := HR0
  have HW0 : Hid (Below w.heap.size w (w.alloc (.cells #[.int .i64 6, .int .i64 0, .int .i64 d] 39))) := below_new _ _
  have HB0 : Hid (Bl (w.alloc (.cells #[.int .i64 6, .int .i64 0, .int .i64 d] 39)) w.heap.size 39 [.int .i64 6, .int .i64 0, .int .i64 d]) := Bl.new _ _ _
  have eZ := eqF ⟨6, 0, d⟩ fZ
  have hz : Fa.same ⟨6, 0, d⟩ fZ = false := by simp [Fa.same, fZ]
  rw [hz] at eZ
  simp only [fZ] at eZ
  generalize hD : itS d = D at *
  have hV : txR 6 0 d = (⟨#[99, 111, 110, 102, 108, 105, 99, 116]⟩ : ByteArray) := by first | rfl | (rw [← hD]; rfl)
  have HV : Hid (txR 6 0 d = (⟨#[99, 111, 110, 102, 108, 105, 99, 116]⟩ : ByteArray)) := hV
  clear hV HR0 hd hz hD
  go_enter Tryd.func16, Tryd.ntmps16
  go_wp2_with (fail)
  go_at_call 27
  refine (HR.out _).mono ?_
  rintro e w1 ⟨rfl, hb⟩
  have HW1 : Hid (Below w.heap.size w w1) := Below.step HW0.out hb
  have c0 := (HB0.out.below hb).cell
  clear hb HW0 HB0 HR
  go_wp2_with (first | (go_at_call_of 26 (Value.int IntKind.i64 d); refine (HI.out _).mono ?_; rintro e w' ⟨rfl, rfl⟩) | (go_at_call 26; refine (HJ.out _).mono ?_; rintro e w' ⟨rfl, rfl⟩) | go_in)
  go_ret
  exact ⟨by rw [HV.out]; rfl, HW1.out⟩
set_option maxRecDepth 100000 in
set_option maxHeartbeats 1000000 in
theorem rtext_10_0 (d : Int) (w : World) (hd : 0 ≤ d ∧ d ≤ 15) (HR0 : ∀ w, Calls Tryd.prog 27 #[.agg #[.int .i64 10, .int .i64 0, .int .i64 d]] w fun e w' => e = .returned (.bool true) ∧ Below w.heap.size w w') :
    Calls Tryd.prog 16 #[.agg #[.int .i64 10, .int .i64 0, .int .i64 d]] w fun e w' => e = .returned (.string (txR 10 0 d)) ∧ Below w.heap.size w w' := by
  have HI : Hid (∀ w, Calls Tryd.prog 26 #[.int .i64 d] w fun e w' => e = .returned (.string (itS d)) ∧ w = w') := fun w => itoa_any d w (by omega)
  have HJ : Hid (∀ w, Calls Tryd.prog 26 #[.int .i64 0] w fun e w' => e = .returned (.string ⟨#[48]⟩) ∧ w = w') := fun w => itoa_any 0 w (by omega)
  have hsz := itS_size d (by omega)
  have HR : Hid (∀ w, Calls Tryd.prog 27 #[.agg #[.int .i64 10, .int .i64 0, .int .i64 d]] w fun e w' => e = .returned (.bool true) ∧ Below w.heap.size w w') := HR0
  have HW0 : Hid (Below w.heap.size w (w.alloc (.cells #[.int .i64 10, .int .i64 0, .int .i64 d] 39))) := below_new _ _
  have HB0 : Hid (Bl (w.alloc (.cells #[.int .i64 10, .int .i64 0, .int .i64 d] 39)) w.heap.size 39 [.int .i64 10, .int .i64 0, .int .i64 d]) := Bl.new _ _ _
  have eZ := eqF ⟨10, 0, d⟩ fZ
  have hz : Fa.same ⟨10, 0, d⟩ fZ = false := by simp [Fa.same, fZ]
  rw [hz] at eZ
  simp only [fZ] at eZ
  generalize hD : itS d = D at *
  have hV : txR 10 0 d = (⟨#[98, 117, 115]⟩ : ByteArray) := by first | rfl | (rw [← hD]; rfl)
  have HV : Hid (txR 10 0 d = (⟨#[98, 117, 115]⟩ : ByteArray)) := hV
  clear hV HR0 hd hz hD
  go_enter Tryd.func16, Tryd.ntmps16
  go_wp2_with (fail)
  go_at_call 27
  refine (HR.out _).mono ?_
  rintro e w1 ⟨rfl, hb⟩
  have HW1 : Hid (Below w.heap.size w w1) := Below.step HW0.out hb
  have c0 := (HB0.out.below hb).cell
  clear hb HW0 HB0 HR
  go_wp2_with (first | (go_at_call_of 26 (Value.int IntKind.i64 d); refine (HI.out _).mono ?_; rintro e w' ⟨rfl, rfl⟩) | (go_at_call 26; refine (HJ.out _).mono ?_; rintro e w' ⟨rfl, rfl⟩) | go_in)
  go_ret
  exact ⟨by rw [HV.out]; rfl, HW1.out⟩
set_option maxRecDepth 100000 in
set_option maxHeartbeats 1000000 in
theorem rtext_7_1 (d : Int) (w : World) (hd : 0 ≤ d ∧ d ≤ 15) (HR0 : ∀ w, Calls Tryd.prog 27 #[.agg #[.int .i64 7, .int .i64 1, .int .i64 d]] w fun e w' => e = .returned (.bool true) ∧ Below w.heap.size w w') :
    Calls Tryd.prog 16 #[.agg #[.int .i64 7, .int .i64 1, .int .i64 d]] w fun e w' => e = .returned (.string (txR 7 1 d)) ∧ Below w.heap.size w w' := by
  have HI : Hid (∀ w, Calls Tryd.prog 26 #[.int .i64 d] w fun e w' => e = .returned (.string (itS d)) ∧ w = w') := fun w => itoa_any d w (by omega)
  have HJ : Hid (∀ w, Calls Tryd.prog 26 #[.int .i64 1] w fun e w' => e = .returned (.string ⟨#[49]⟩) ∧ w = w') := fun w => itoa_any 1 w (by omega)
  have hsz := itS_size d (by omega)
  have HR : Hid (∀ w, Calls Tryd.prog 27 #[.agg #[.int .i64 7, .int .i64 1, .int .i64 d]] w fun e w' => e = .returned (.bool true) ∧ Below w.heap.size w w') := HR0
  have HW0 : Hid (Below w.heap.size w (w.alloc (.cells #[.int .i64 7, .int .i64 1, .int .i64 d] 39))) := below_new _ _
  have HB0 : Hid (Bl (w.alloc (.cells #[.int .i64 7, .int .i64 1, .int .i64 d] 39)) w.heap.size 39 [.int .i64 7, .int .i64 1, .int .i64 d]) := Bl.new _ _ _
  have eZ := eqF ⟨7, 1, d⟩ fZ
  have hz : Fa.same ⟨7, 1, d⟩ fZ = false := by simp [Fa.same, fZ]
  rw [hz] at eZ
  simp only [fZ] at eZ
  generalize hD : itS d = D at *
  have hV : txR 7 1 d = ((⟨#[97, 99, 99, 101, 115, 115]⟩ : ByteArray) ++ ((⟨#[32]⟩ : ByteArray) ++ (⟨#[49]⟩ : ByteArray))) ++ ((⟨#[32, 100, 111, 109, 97, 105, 110, 32]⟩ : ByteArray) ++ D) := by first | rfl | (rw [← hD]; rfl)
  have HV : Hid (txR 7 1 d = ((⟨#[97, 99, 99, 101, 115, 115]⟩ : ByteArray) ++ ((⟨#[32]⟩ : ByteArray) ++ (⟨#[49]⟩ : ByteArray))) ++ ((⟨#[32, 100, 111, 109, 97, 105, 110, 32]⟩ : ByteArray) ++ D)) := hV
  clear hV HR0 hd hz hD
  go_enter Tryd.func16, Tryd.ntmps16
  go_wp2_with (fail)
  go_at_call 27
  refine (HR.out _).mono ?_
  rintro e w1 ⟨rfl, hb⟩
  have HW1 : Hid (Below w.heap.size w w1) := Below.step HW0.out hb
  have c0 := (HB0.out.below hb).cell
  clear hb HW0 HB0 HR
  go_wp2_with (first | (go_at_call_of 26 (Value.int IntKind.i64 d); refine (HI.out _).mono ?_; rintro e w' ⟨rfl, rfl⟩) | (go_at_call 26; refine (HJ.out _).mono ?_; rintro e w' ⟨rfl, rfl⟩) | go_in)
  go_ret
  exact ⟨by rw [HV.out]; rfl, HW1.out⟩
set_option maxRecDepth 100000 in
set_option maxHeartbeats 1000000 in
theorem rtext_8_1 (d : Int) (w : World) (hd : 0 ≤ d ∧ d ≤ 15) (HR0 : ∀ w, Calls Tryd.prog 27 #[.agg #[.int .i64 8, .int .i64 1, .int .i64 d]] w fun e w' => e = .returned (.bool true) ∧ Below w.heap.size w w') :
    Calls Tryd.prog 16 #[.agg #[.int .i64 8, .int .i64 1, .int .i64 d]] w fun e w' => e = .returned (.string (txR 8 1 d)) ∧ Below w.heap.size w w' := by
  have HI : Hid (∀ w, Calls Tryd.prog 26 #[.int .i64 d] w fun e w' => e = .returned (.string (itS d)) ∧ w = w') := fun w => itoa_any d w (by omega)
  have HJ : Hid (∀ w, Calls Tryd.prog 26 #[.int .i64 1] w fun e w' => e = .returned (.string ⟨#[49]⟩) ∧ w = w') := fun w => itoa_any 1 w (by omega)
  have hsz := itS_size d (by omega)
  have HR : Hid (∀ w, Calls Tryd.prog 27 #[.agg #[.int .i64 8, .int .i64 1, .int .i64 d]] w fun e w' => e = .returned (.bool true) ∧ Below w.heap.size w w') := HR0
  have HW0 : Hid (Below w.heap.size w (w.alloc (.cells #[.int .i64 8, .int .i64 1, .int .i64 d] 39))) := below_new _ _
  have HB0 : Hid (Bl (w.alloc (.cells #[.int .i64 8, .int .i64 1, .int .i64 d] 39)) w.heap.size 39 [.int .i64 8, .int .i64 1, .int .i64 d]) := Bl.new _ _ _
  have eZ := eqF ⟨8, 1, d⟩ fZ
  have hz : Fa.same ⟨8, 1, d⟩ fZ = false := by simp [Fa.same, fZ]
  rw [hz] at eZ
  simp only [fZ] at eZ
  generalize hD : itS d = D at *
  have hV : txR 8 1 d = ((⟨#[100, 111, 109, 97, 105, 110]⟩ : ByteArray) ++ ((⟨#[32]⟩ : ByteArray) ++ (⟨#[49]⟩ : ByteArray))) ++ ((⟨#[32, 100, 111, 109, 97, 105, 110, 32]⟩ : ByteArray) ++ D) := by first | rfl | (rw [← hD]; rfl)
  have HV : Hid (txR 8 1 d = ((⟨#[100, 111, 109, 97, 105, 110]⟩ : ByteArray) ++ ((⟨#[32]⟩ : ByteArray) ++ (⟨#[49]⟩ : ByteArray))) ++ ((⟨#[32, 100, 111, 109, 97, 105, 110, 32]⟩ : ByteArray) ++ D)) := hV
  clear hV HR0 hd hz hD
  go_enter Tryd.func16, Tryd.ntmps16
  go_wp2_with (fail)
  go_at_call 27
  refine (HR.out _).mono ?_
  rintro e w1 ⟨rfl, hb⟩
  have HW1 : Hid (Below w.heap.size w w1) := Below.step HW0.out hb
  have c0 := (HB0.out.below hb).cell
  clear hb HW0 HB0 HR
  go_wp2_with (first | (go_at_call_of 26 (Value.int IntKind.i64 d); refine (HI.out _).mono ?_; rintro e w' ⟨rfl, rfl⟩) | (go_at_call 26; refine (HJ.out _).mono ?_; rintro e w' ⟨rfl, rfl⟩) | go_in)
  go_ret
  exact ⟨by rw [HV.out]; rfl, HW1.out⟩
set_option maxRecDepth 100000 in
set_option maxHeartbeats 1000000 in
theorem rtext_9_1 (d : Int) (w : World) (hd : 0 ≤ d ∧ d ≤ 15) (HR0 : ∀ w, Calls Tryd.prog 27 #[.agg #[.int .i64 9, .int .i64 1, .int .i64 d]] w fun e w' => e = .returned (.bool true) ∧ Below w.heap.size w w') :
    Calls Tryd.prog 16 #[.agg #[.int .i64 9, .int .i64 1, .int .i64 d]] w fun e w' => e = .returned (.string (txR 9 1 d)) ∧ Below w.heap.size w w' := by
  have HI : Hid (∀ w, Calls Tryd.prog 26 #[.int .i64 d] w fun e w' => e = .returned (.string (itS d)) ∧ w = w') := fun w => itoa_any d w (by omega)
  have HJ : Hid (∀ w, Calls Tryd.prog 26 #[.int .i64 1] w fun e w' => e = .returned (.string ⟨#[49]⟩) ∧ w = w') := fun w => itoa_any 1 w (by omega)
  have hsz := itS_size d (by omega)
  have HR : Hid (∀ w, Calls Tryd.prog 27 #[.agg #[.int .i64 9, .int .i64 1, .int .i64 d]] w fun e w' => e = .returned (.bool true) ∧ Below w.heap.size w w') := HR0
  have HW0 : Hid (Below w.heap.size w (w.alloc (.cells #[.int .i64 9, .int .i64 1, .int .i64 d] 39))) := below_new _ _
  have HB0 : Hid (Bl (w.alloc (.cells #[.int .i64 9, .int .i64 1, .int .i64 d] 39)) w.heap.size 39 [.int .i64 9, .int .i64 1, .int .i64 d]) := Bl.new _ _ _
  have eZ := eqF ⟨9, 1, d⟩ fZ
  have hz : Fa.same ⟨9, 1, d⟩ fZ = false := by simp [Fa.same, fZ]
  rw [hz] at eZ
  simp only [fZ] at eZ
  generalize hD : itS d = D at *
  have hV : txR 9 1 d = ((⟨#[112, 101, 114, 109, 105, 115, 115, 105, 111, 110]⟩ : ByteArray) ++ ((⟨#[32]⟩ : ByteArray) ++ (⟨#[49]⟩ : ByteArray))) ++ ((⟨#[32, 100, 111, 109, 97, 105, 110, 32]⟩ : ByteArray) ++ D) := by first | rfl | (rw [← hD]; rfl)
  have HV : Hid (txR 9 1 d = ((⟨#[112, 101, 114, 109, 105, 115, 115, 105, 111, 110]⟩ : ByteArray) ++ ((⟨#[32]⟩ : ByteArray) ++ (⟨#[49]⟩ : ByteArray))) ++ ((⟨#[32, 100, 111, 109, 97, 105, 110, 32]⟩ : ByteArray) ++ D)) := hV
  clear hV HR0 hd hz hD
  go_enter Tryd.func16, Tryd.ntmps16
  go_wp2_with (fail)
  go_at_call 27
  refine (HR.out _).mono ?_
  rintro e w1 ⟨rfl, hb⟩
  have HW1 : Hid (Below w.heap.size w w1) := Below.step HW0.out hb
  have c0 := (HB0.out.below hb).cell
  clear hb HW0 HB0 HR
  go_wp2_with (first | (go_at_call_of 26 (Value.int IntKind.i64 d); refine (HI.out _).mono ?_; rintro e w' ⟨rfl, rfl⟩) | (go_at_call 26; refine (HJ.out _).mono ?_; rintro e w' ⟨rfl, rfl⟩) | go_in)
  go_ret
  exact ⟨by rw [HV.out]; rfl, HW1.out⟩
set_option maxRecDepth 100000 in
set_option maxHeartbeats 1000000 in
theorem rtext_7_2 (d : Int) (w : World) (hd : 0 ≤ d ∧ d ≤ 15) (HR0 : ∀ w, Calls Tryd.prog 27 #[.agg #[.int .i64 7, .int .i64 2, .int .i64 d]] w fun e w' => e = .returned (.bool true) ∧ Below w.heap.size w w') :
    Calls Tryd.prog 16 #[.agg #[.int .i64 7, .int .i64 2, .int .i64 d]] w fun e w' => e = .returned (.string (txR 7 2 d)) ∧ Below w.heap.size w w' := by
  have HI : Hid (∀ w, Calls Tryd.prog 26 #[.int .i64 d] w fun e w' => e = .returned (.string (itS d)) ∧ w = w') := fun w => itoa_any d w (by omega)
  have HJ : Hid (∀ w, Calls Tryd.prog 26 #[.int .i64 2] w fun e w' => e = .returned (.string ⟨#[50]⟩) ∧ w = w') := fun w => itoa_any 2 w (by omega)
  have hsz := itS_size d (by omega)
  have HR : Hid (∀ w, Calls Tryd.prog 27 #[.agg #[.int .i64 7, .int .i64 2, .int .i64 d]] w fun e w' => e = .returned (.bool true) ∧ Below w.heap.size w w') := HR0
  have HW0 : Hid (Below w.heap.size w (w.alloc (.cells #[.int .i64 7, .int .i64 2, .int .i64 d] 39))) := below_new _ _
  have HB0 : Hid (Bl (w.alloc (.cells #[.int .i64 7, .int .i64 2, .int .i64 d] 39)) w.heap.size 39 [.int .i64 7, .int .i64 2, .int .i64 d]) := Bl.new _ _ _
  have eZ := eqF ⟨7, 2, d⟩ fZ
  have hz : Fa.same ⟨7, 2, d⟩ fZ = false := by simp [Fa.same, fZ]
  rw [hz] at eZ
  simp only [fZ] at eZ
  generalize hD : itS d = D at *
  have hV : txR 7 2 d = ((⟨#[97, 99, 99, 101, 115, 115]⟩ : ByteArray) ++ ((⟨#[32]⟩ : ByteArray) ++ (⟨#[50]⟩ : ByteArray))) ++ ((⟨#[32, 100, 111, 109, 97, 105, 110, 32]⟩ : ByteArray) ++ D) := by first | rfl | (rw [← hD]; rfl)
  have HV : Hid (txR 7 2 d = ((⟨#[97, 99, 99, 101, 115, 115]⟩ : ByteArray) ++ ((⟨#[32]⟩ : ByteArray) ++ (⟨#[50]⟩ : ByteArray))) ++ ((⟨#[32, 100, 111, 109, 97, 105, 110, 32]⟩ : ByteArray) ++ D)) := hV
  clear hV HR0 hd hz hD
  go_enter Tryd.func16, Tryd.ntmps16
  go_wp2_with (fail)
  go_at_call 27
  refine (HR.out _).mono ?_
  rintro e w1 ⟨rfl, hb⟩
  have HW1 : Hid (Below w.heap.size w w1) := Below.step HW0.out hb
  have c0 := (HB0.out.below hb).cell
  clear hb HW0 HB0 HR
  go_wp2_with (first | (go_at_call_of 26 (Value.int IntKind.i64 d); refine (HI.out _).mono ?_; rintro e w' ⟨rfl, rfl⟩) | (go_at_call 26; refine (HJ.out _).mono ?_; rintro e w' ⟨rfl, rfl⟩) | go_in)
  go_ret
  exact ⟨by rw [HV.out]; rfl, HW1.out⟩
set_option maxRecDepth 100000 in
set_option maxHeartbeats 1000000 in
theorem rtext_8_2 (d : Int) (w : World) (hd : 0 ≤ d ∧ d ≤ 15) (HR0 : ∀ w, Calls Tryd.prog 27 #[.agg #[.int .i64 8, .int .i64 2, .int .i64 d]] w fun e w' => e = .returned (.bool true) ∧ Below w.heap.size w w') :
    Calls Tryd.prog 16 #[.agg #[.int .i64 8, .int .i64 2, .int .i64 d]] w fun e w' => e = .returned (.string (txR 8 2 d)) ∧ Below w.heap.size w w' := by
  have HI : Hid (∀ w, Calls Tryd.prog 26 #[.int .i64 d] w fun e w' => e = .returned (.string (itS d)) ∧ w = w') := fun w => itoa_any d w (by omega)
  have HJ : Hid (∀ w, Calls Tryd.prog 26 #[.int .i64 2] w fun e w' => e = .returned (.string ⟨#[50]⟩) ∧ w = w') := fun w => itoa_any 2 w (by omega)
  have hsz := itS_size d (by omega)
  have HR : Hid (∀ w, Calls Tryd.prog 27 #[.agg #[.int .i64 8, .int .i64 2, .int .i64 d]] w fun e w' => e = .returned (.bool true) ∧ Below w.heap.size w w') := HR0
  have HW0 : Hid (Below w.heap.size w (w.alloc (.cells #[.int .i64 8, .int .i64 2, .int .i64 d] 39))) := below_new _ _
  have HB0 : Hid (Bl (w.alloc (.cells #[.int .i64 8, .int .i64 2, .int .i64 d] 39)) w.heap.size 39 [.int .i64 8, .int .i64 2, .int .i64 d]) := Bl.new _ _ _
  have eZ := eqF ⟨8, 2, d⟩ fZ
  have hz : Fa.same ⟨8, 2, d⟩ fZ = false := by simp [Fa.same, fZ]
  rw [hz] at eZ
  simp only [fZ] at eZ
  generalize hD : itS d = D at *
  have hV : txR 8 2 d = ((⟨#[100, 111, 109, 97, 105, 110]⟩ : ByteArray) ++ ((⟨#[32]⟩ : ByteArray) ++ (⟨#[50]⟩ : ByteArray))) ++ ((⟨#[32, 100, 111, 109, 97, 105, 110, 32]⟩ : ByteArray) ++ D) := by first | rfl | (rw [← hD]; rfl)
  have HV : Hid (txR 8 2 d = ((⟨#[100, 111, 109, 97, 105, 110]⟩ : ByteArray) ++ ((⟨#[32]⟩ : ByteArray) ++ (⟨#[50]⟩ : ByteArray))) ++ ((⟨#[32, 100, 111, 109, 97, 105, 110, 32]⟩ : ByteArray) ++ D)) := hV
  clear hV HR0 hd hz hD
  go_enter Tryd.func16, Tryd.ntmps16
  go_wp2_with (fail)
  go_at_call 27
  refine (HR.out _).mono ?_
  rintro e w1 ⟨rfl, hb⟩
  have HW1 : Hid (Below w.heap.size w w1) := Below.step HW0.out hb
  have c0 := (HB0.out.below hb).cell
  clear hb HW0 HB0 HR
  go_wp2_with (first | (go_at_call_of 26 (Value.int IntKind.i64 d); refine (HI.out _).mono ?_; rintro e w' ⟨rfl, rfl⟩) | (go_at_call 26; refine (HJ.out _).mono ?_; rintro e w' ⟨rfl, rfl⟩) | go_in)
  go_ret
  exact ⟨by rw [HV.out]; rfl, HW1.out⟩
set_option maxRecDepth 100000 in
set_option maxHeartbeats 1000000 in
theorem rtext_9_2 (d : Int) (w : World) (hd : 0 ≤ d ∧ d ≤ 15) (HR0 : ∀ w, Calls Tryd.prog 27 #[.agg #[.int .i64 9, .int .i64 2, .int .i64 d]] w fun e w' => e = .returned (.bool true) ∧ Below w.heap.size w w') :
    Calls Tryd.prog 16 #[.agg #[.int .i64 9, .int .i64 2, .int .i64 d]] w fun e w' => e = .returned (.string (txR 9 2 d)) ∧ Below w.heap.size w w' := by
  have HI : Hid (∀ w, Calls Tryd.prog 26 #[.int .i64 d] w fun e w' => e = .returned (.string (itS d)) ∧ w = w') := fun w => itoa_any d w (by omega)
  have HJ : Hid (∀ w, Calls Tryd.prog 26 #[.int .i64 2] w fun e w' => e = .returned (.string ⟨#[50]⟩) ∧ w = w') := fun w => itoa_any 2 w (by omega)
  have hsz := itS_size d (by omega)
  have HR : Hid (∀ w, Calls Tryd.prog 27 #[.agg #[.int .i64 9, .int .i64 2, .int .i64 d]] w fun e w' => e = .returned (.bool true) ∧ Below w.heap.size w w') := HR0
  have HW0 : Hid (Below w.heap.size w (w.alloc (.cells #[.int .i64 9, .int .i64 2, .int .i64 d] 39))) := below_new _ _
  have HB0 : Hid (Bl (w.alloc (.cells #[.int .i64 9, .int .i64 2, .int .i64 d] 39)) w.heap.size 39 [.int .i64 9, .int .i64 2, .int .i64 d]) := Bl.new _ _ _
  have eZ := eqF ⟨9, 2, d⟩ fZ
  have hz : Fa.same ⟨9, 2, d⟩ fZ = false := by simp [Fa.same, fZ]
  rw [hz] at eZ
  simp only [fZ] at eZ
  generalize hD : itS d = D at *
  have hV : txR 9 2 d = ((⟨#[112, 101, 114, 109, 105, 115, 115, 105, 111, 110]⟩ : ByteArray) ++ ((⟨#[32]⟩ : ByteArray) ++ (⟨#[50]⟩ : ByteArray))) ++ ((⟨#[32, 100, 111, 109, 97, 105, 110, 32]⟩ : ByteArray) ++ D) := by first | rfl | (rw [← hD]; rfl)
  have HV : Hid (txR 9 2 d = ((⟨#[112, 101, 114, 109, 105, 115, 115, 105, 111, 110]⟩ : ByteArray) ++ ((⟨#[32]⟩ : ByteArray) ++ (⟨#[50]⟩ : ByteArray))) ++ ((⟨#[32, 100, 111, 109, 97, 105, 110, 32]⟩ : ByteArray) ++ D)) := hV
  clear hV HR0 hd hz hD
  go_enter Tryd.func16, Tryd.ntmps16
  go_wp2_with (fail)
  go_at_call 27
  refine (HR.out _).mono ?_
  rintro e w1 ⟨rfl, hb⟩
  have HW1 : Hid (Below w.heap.size w w1) := Below.step HW0.out hb
  have c0 := (HB0.out.below hb).cell
  clear hb HW0 HB0 HR
  go_wp2_with (first | (go_at_call_of 26 (Value.int IntKind.i64 d); refine (HI.out _).mono ?_; rintro e w' ⟨rfl, rfl⟩) | (go_at_call 26; refine (HJ.out _).mono ?_; rintro e w' ⟨rfl, rfl⟩) | go_in)
  go_ret
  exact ⟨by rw [HV.out]; rfl, HW1.out⟩
end Go.Proofs.YtmmocnejacflmabDoor
