import Derived.Test.YtmmocnejacflmabDoorTx
import Derived.Test.YtmmocnejacflmabDoorTy
namespace Go.Proofs.YtmmocnejacflmabDoor
open Go.RowKit
set_option linter.unusedVariables false
set_option linter.unusedSimpArgs false
set_option maxRecDepth 100000 in
set_option maxHeartbeats 1000000 in
theorem text_zero (w : World) (hT : TX w) : Calls Tryd.prog 15 #[.agg #[.int .i64 0, .int .i64 0, .int .i64 0]] w fun e w' => e = .returned (.string ⟨#[110, 111, 110, 101]⟩) ∧ Below w.heap.size w w' := by
  have eZ := eqF fZ fZ
  rw [Fa.same_self] at eZ
  simp only [fZ] at eZ
  have t0 := hT.t 0 _ rfl
  have l0 := cell_lt t0
  simp only at l0
  have n0 : ¬ (0 = w.heap.size) := by omega
  have HN : Hid (∀ o, Below w.heap.size w (w.alloc o)) := below_new w
  clear hT
  go_enter Tryd.func15, Tryd.ntmps15
  go_wp2
  go_ret
  exact ⟨rfl, HN.out _⟩
set_option maxRecDepth 100000 in
set_option maxHeartbeats 1000000 in
theorem rtext_zero (w : World) : Calls Tryd.prog 16 #[.agg #[.int .i64 0, .int .i64 0, .int .i64 0]] w fun e w' => e = .returned (.string ⟨#[110, 111, 110, 101]⟩) ∧ Below w.heap.size w w' := by
  have eZ := eqF fZ fZ
  rw [Fa.same_self] at eZ
  simp only [fZ] at eZ
  have HN : Hid (∀ o, Below w.heap.size w (w.alloc o)) := below_new w
  go_enter Tryd.func16, Tryd.ntmps16
  go_wp2
  go_ret
  exact ⟨rfl, HN.out _⟩
set_option maxRecDepth 100000 in
set_option maxHeartbeats 1000000 in
theorem text_no (f : Fa) (w : World) (hT : TX w) (hz : f.same fZ = false) (HR0 : ∀ w, TF w → Calls Tryd.prog 25 #[.agg #[.int .i64 f.k, .int .i64 f.l, .int .i64 f.d]] w fun e w' => e = .returned (.bool false) ∧ Below w.heap.size w w') :
    Calls Tryd.prog 15 #[.agg #[.int .i64 f.k, .int .i64 f.l, .int .i64 f.d]] w fun e w' => e = .returned (.string ⟨#[]⟩) ∧ Below w.heap.size w w' := by
  have eZ := eqF f fZ
  rw [hz] at eZ
  simp only [fZ] at eZ
  have HR : Hid (∀ w, TF w → Calls Tryd.prog 25 #[.agg #[.int .i64 f.k, .int .i64 f.l, .int .i64 f.d]] w fun e w' => e = .returned (.bool false) ∧ Below w.heap.size w w') := HR0
  have HT : Hid (TX w) := hT
  have HW0 : Hid (Below w.heap.size w (w.alloc (.cells #[.int .i64 f.k, .int .i64 f.l, .int .i64 f.d] 39))) := below_new _ _
  clear hT hz HR0
  go_enter Tryd.func15, Tryd.ntmps15
  go_wp2_with (fail)
  go_at_call 25
  refine (HR.out _ (HT.out.below HW0.out).f).mono ?_
  rintro e w1 ⟨rfl, hb⟩
  have HW1 : Hid (Below w.heap.size w w1) := Below.step HW0.out hb
  clear hb HW0 HR
  go_wp2
  go_ret
  exact ⟨rfl, HW1.out⟩
set_option maxRecDepth 100000 in
set_option maxHeartbeats 1000000 in
theorem rtext_no (f : Fa) (w : World) (hz : f.same fZ = false) (HR0 : ∀ w, Calls Tryd.prog 27 #[.agg #[.int .i64 f.k, .int .i64 f.l, .int .i64 f.d]] w fun e w' => e = .returned (.bool false) ∧ Below w.heap.size w w') :
    Calls Tryd.prog 16 #[.agg #[.int .i64 f.k, .int .i64 f.l, .int .i64 f.d]] w fun e w' => e = .returned (.string ⟨#[]⟩) ∧ Below w.heap.size w w' := by
  have eZ := eqF f fZ
  rw [hz] at eZ
  simp only [fZ] at eZ
  have HR : Hid (∀ w, Calls Tryd.prog 27 #[.agg #[.int .i64 f.k, .int .i64 f.l, .int .i64 f.d]] w fun e w' => e = .returned (.bool false) ∧ Below w.heap.size w w') := HR0
  have HW0 : Hid (Below w.heap.size w (w.alloc (.cells #[.int .i64 f.k, .int .i64 f.l, .int .i64 f.d] 39))) := below_new _ _
  clear hz HR0
  go_enter Tryd.func16, Tryd.ntmps16
  go_wp2_with (fail)
  go_at_call 27
  refine (HR.out _).mono ?_
  rintro e w1 ⟨rfl, hb⟩
  have HW1 : Hid (Below w.heap.size w w1) := Below.step HW0.out hb
  clear hb HW0 HR
  go_wp2
  go_ret
  exact ⟨rfl, HW1.out⟩
theorem text_any (f : Fa) (w : World) (hT : TX w) : Calls Tryd.prog 15 #[.agg #[.int .i64 f.k, .int .i64 f.l, .int .i64 f.d]] w fun e w' => e = .returned (.string (txF f)) ∧ Below w.heap.size w w' := by
  unfold txF
  cases hz : f.same fZ with
  | true =>
    obtain rfl := (Fa.same_iff _ _).1 hz
    exact text_zero w hT
  | false =>
    have HR := fun w hw => isRight_any f w hw
    cases hr : rtF f with
    | false =>
      rw [hr] at HR
      exact text_no f w hT hz HR
    | true =>
      rw [hr] at HR
      have hk := rt_kinds hr
      have hd := (rt_range hr).2
      obtain ⟨k, l, d⟩ := f
      simp only at hk hd HR ⊢
      rcases hk with ⟨rfl, rfl | rfl | rfl | rfl | rfl | rfl | rfl⟩ | ⟨rfl | rfl, rfl | rfl | rfl⟩
      · exact text_1_0 d w hT hd HR
      · exact text_2_0 d w hT hd HR
      · exact text_3_0 d w hT hd HR
      · exact text_4_0 d w hT hd HR
      · exact text_5_0 d w hT hd HR
      · exact text_6_0 d w hT hd HR
      · exact text_10_0 d w hT hd HR
      · exact text_7_1 d w hT hd HR
      · exact text_8_1 d w hT hd HR
      · exact text_9_1 d w hT hd HR
      · exact text_7_2 d w hT hd HR
      · exact text_8_2 d w hT hd HR
      · exact text_9_2 d w hT hd HR
theorem rtext_any (f : Fa) (w : World) : Calls Tryd.prog 16 #[.agg #[.int .i64 f.k, .int .i64 f.l, .int .i64 f.d]] w fun e w' => e = .returned (.string (txF f)) ∧ Below w.heap.size w w' := by
  unfold txF
  cases hz : f.same fZ with
  | true =>
    obtain rfl := (Fa.same_iff _ _).1 hz
    exact rtext_zero w
  | false =>
    have HR := fun w => qright_any f w
    cases hr : rtF f with
    | false =>
      rw [hr] at HR
      exact rtext_no f w hz HR
    | true =>
      rw [hr] at HR
      have hk := rt_kinds hr
      have hd := (rt_range hr).2
      obtain ⟨k, l, d⟩ := f
      simp only at hk hd HR ⊢
      rcases hk with ⟨rfl, rfl | rfl | rfl | rfl | rfl | rfl | rfl⟩ | ⟨rfl | rfl, rfl | rfl | rfl⟩
      · exact rtext_1_0 d w hd HR
      · exact rtext_2_0 d w hd HR
      · exact rtext_3_0 d w hd HR
      · exact rtext_4_0 d w hd HR
      · exact rtext_5_0 d w hd HR
      · exact rtext_6_0 d w hd HR
      · exact rtext_10_0 d w hd HR
      · exact rtext_7_1 d w hd HR
      · exact rtext_8_1 d w hd HR
      · exact rtext_9_1 d w hd HR
      · exact rtext_7_2 d w hd HR
      · exact rtext_8_2 d w hd HR
      · exact rtext_9_2 d w hd HR
/-- The fault that a text tells. -/
def gT (l : List UInt8) : Fa :=
  let b := fun i => ((l.getD i 0).toNat : Int)
  let d : Int := b (l.length - 1) - 48 + if b (l.length - 2) = 49 then 10 else 0
  if b 0 = 110 then fZ
  else if b 0 = 97 then (if b 1 = 108 then ⟨1, 0, 0⟩ else ⟨7, b 7 - 48, d⟩)
  else if b 0 = 119 then (if b 5 = 49 then ⟨2, 0, 0⟩ else ⟨4, 0, d⟩)
  else if b 0 = 116 then (if b 12 = 49 then ⟨3, 0, 0⟩ else ⟨5, 0, d⟩)
  else if b 0 = 99 then ⟨6, 0, 0⟩
  else if b 0 = 100 then ⟨8, b 7 - 48, d⟩
  else if b 0 = 112 then ⟨9, b 11 - 48, d⟩
  else ⟨10, 0, 0⟩
def told (f : Fa) : Bool := f.same fZ || rtF f
def oneT (f : Fa) : Bool := !told f || ((gT (txF f).data.toList).same f && !(txF f).data.toList.isEmpty)
theorem allT : allF oneT = true := by decide +kernel
theorem told_at {f : Fa} (h : told f = true) : gT (txF f).data.toList = f ∧ txF f ≠ ⟨#[]⟩ := by
  have h1 : oneT f = true := by
    have h2 := h
    simp only [told, Bool.or_eq_true] at h2
    rcases h2 with h2 | h2
    · obtain rfl := (Fa.same_iff _ _).1 h2
      exact allF_at allT fZ (by simp [Rg, fZ]) (by simp [fZ])
    · exact allF_at allT f (rt_range h2).1 (rt_range h2).2
  simp only [oneT, h, Bool.not_true, Bool.false_or, Bool.and_eq_true, Fa.same_iff] at h1
  refine ⟨h1.1, fun e => ?_⟩
  rw [e] at h1
  exact absurd h1.2 (by decide)
theorem not_told {f : Fa} (h : told f = false) : txF f = ⟨#[]⟩ := by
  simp only [told, Bool.or_eq_false_iff] at h
  simp [txF, h.1, h.2]
/-- Unlike faults have unlike texts. -/
theorem tx_same {f g : Fa} (hf : told f = true) (hg : told g = true) : txF f = txF g ↔ f = g := by
  constructor
  · intro h
    rw [← (told_at hf).1, ← (told_at hg).1, h]
  · intro h
    rw [h]
end Go.Proofs.YtmmocnejacflmabDoor
