import Derived.Test.YtilhceajhlaojaaGreatDoorZ15
namespace Go.Proofs.YtilhceajhlaojaaGreatDoor.Al
open Go.RowKit
set_option linter.unusedVariables false
set_option linter.unusedSimpArgs false
set_option maxRecDepth 100000 in
set_option maxHeartbeats 1000000 in
theorem gof_any (W : Int) (b0 b1 b3 : Nat) (sh fn fz fc fv : Bool) (w : World) (h0 : 0 ≤ W) (h1 : W < 4294967296) (hS : OpS w b0 b1 b3 sh fn fz fc fv) :
    Calls Tryz.prog 116 #[.int .u32 W, .pointer (some ⟨b0, 0, none⟩), .pointer (some ⟨b1, 0, none⟩)] w fun e w' => e = .returned (.tuple #[.int .u32 W, .agg #[.bool (decide (2147483648 ≤ W)), .bool (W == 0), .bool sh, .bool fv]]) ∧ Below w.heap.size w w' := by
  have HF : Hid (∀ w, Calls Tryz.prog 117 #[.int .u32 W, .bool sh, .bool fv] w fun e w' => e = .returned (.agg #[.bool (decide (2147483648 ≤ W)), .bool (W == 0), .bool sh, .bool fv]) ∧ Below w.heap.size w w') := fun w => gflagsof_any W sh fv w h0 h1
  have c0 := hS.1.cell 0
  have c3 := hS.2.1.cell 3
  have k0 := (hS.1.alloc (.cells #[.bool false, .bool false, .bool false, .bool false] 40)).cell 0
  have k3 := (hS.2.1.alloc (.cells #[.bool false, .bool false, .bool false, .bool false] 40)).cell 3
  have l0 := hS.1.lt
  have l1 := hS.2.1.lt
  have n0 : ¬ b0 = w.heap.size := by omega
  have n1 : ¬ b1 = w.heap.size := by omega
  clear hS h0 h1
  simp only [List.getElem?_cons_zero, List.getElem?_cons_succ] at c0 c3 k0 k3
  go_enter Tryz.func116, Tryz.ntmps116
  go_wp2_with (go_at_call 117; refine Hid.out ?_)
  show Calls _ _ _ _ _
  refine (HF.out _).mono ?_
  rintro e w' ⟨rfl, hb⟩
  have B := (Bl.new _ _ _).below hb
  have HW : Hid (Below w.heap.size w w') := Below.step (below_new _ _) hb
  obtain ⟨⟨m0, m1, m2, m3⟩, d0, d1, d2, d3⟩ := B.four
  clear B hb c0 c3 k0 k3
  go_wp2_with fail
  refine bodyPost_ret (v := .tuple #[.int .u32 W, .agg #[.bool (decide (2147483648 ≤ W)), .bool (W == 0), .bool sh, .bool fv]]) (by simp [results, Tryz.results116, go_sem, m0, m1, m2, m3]) rfl ⟨rfl, ?_⟩
  iterate 4 refine Below.setCell ?_ (by simp) _
  exact HW.out
set_option maxRecDepth 100000 in
set_option maxHeartbeats 1000000 in
theorem gcl_4 (a b : Int) (w : World) (a0 : 0 ≤ a) (a1 : a < 4294967296) (b0 : 0 ≤ b) (b1 : b < 4294967296) :
    Calls Tryz.prog 120 #[.int .u32 a, .int .u32 b] w fun e w' => e = .returned (.tuple #[.int .u32 (suW a b false), .agg #[.bool (suF a b false).n, .bool (suF a b false).z, .bool (suF a b false).c, .bool (suF a b false).v]]) ∧ Below w.heap.size w w' := by
  have HS : Hid (∀ w, Calls Tryz.prog 121 #[.int .u32 (a), .int .u32 (b), .bool false] w fun e w' => e = .returned (.tuple #[.int .u32 (suW a b false), .agg #[.bool (suF a b false).n, .bool (suF a b false).z, .bool (suF a b false).c, .bool (suF a b false).v]]) ∧ Below w.heap.size w w') := fun w => gsum_any _ _ _ w (by (try unfold nt); omega) (by (try unfold nt); omega) (by (try unfold nt); omega) (by (try unfold nt); omega)
  have hna := xor_nt a a0 a1
  have hnb := xor_nt b b0 b1
  generalize suW a b false = W at *
  generalize suF a b false = F at *
  obtain ⟨gn, gz, gc, gv⟩ := F
  simp only at *
  clear a0 a1 b0 b1
  go_enter Tryz.func120, Tryz.ntmps120
  go_wp2_with (go_at_call 121; refine Hid.out ?_)
  show Calls _ _ _ _ _
  refine (HS.out _).mono ?_
  rintro e w' ⟨rfl, hb⟩
  have B := (Bl.new _ _ _).below hb
  have HW : Hid (Below w.heap.size w w') := Below.step (below_new _ _) hb
  obtain ⟨⟨m0, m1, m2, m3⟩, d0, d1, d2, d3⟩ := B.four
  clear B hb
  go_wp2_with fail
  refine bodyPost_ret (v := .tuple #[.int .u32 W, .agg #[.bool gn, .bool gz, .bool gc, .bool gv]]) (by simp [results, Tryz.results120, go_sem, m0, m1, m2, m3]) rfl ⟨rfl, ?_⟩
  iterate 4 refine Below.setCell ?_ (by simp) _
  exact HW.out
set_option maxRecDepth 100000 in
set_option maxHeartbeats 1000000 in
theorem gcl_5 (a b : Int) (w : World) (a0 : 0 ≤ a) (a1 : a < 4294967296) (b0 : 0 ≤ b) (b1 : b < 4294967296) :
    Calls Tryz.prog 122 #[.int .u32 a, .int .u32 b] w fun e w' => e = .returned (.tuple #[.int .u32 (suW a (nt b) true), .agg #[.bool (suF a (nt b) true).n, .bool (suF a (nt b) true).z, .bool (suF a (nt b) true).c, .bool (suF a (nt b) true).v]]) ∧ Below w.heap.size w w' := by
  have HS : Hid (∀ w, Calls Tryz.prog 121 #[.int .u32 (a), .int .u32 ((nt b)), .bool true] w fun e w' => e = .returned (.tuple #[.int .u32 (suW a (nt b) true), .agg #[.bool (suF a (nt b) true).n, .bool (suF a (nt b) true).z, .bool (suF a (nt b) true).c, .bool (suF a (nt b) true).v]]) ∧ Below w.heap.size w w') := fun w => gsum_any _ _ _ w (by (try unfold nt); omega) (by (try unfold nt); omega) (by (try unfold nt); omega) (by (try unfold nt); omega)
  have hna := xor_nt a a0 a1
  have hnb := xor_nt b b0 b1
  generalize suW a (nt b) true = W at *
  generalize suF a (nt b) true = F at *
  obtain ⟨gn, gz, gc, gv⟩ := F
  simp only at *
  clear a0 a1 b0 b1
  go_enter Tryz.func122, Tryz.ntmps122
  go_wp2_with (go_at_call 121; refine Hid.out ?_)
  show Calls _ _ _ _ _
  refine (HS.out _).mono ?_
  rintro e w' ⟨rfl, hb⟩
  have B := (Bl.new _ _ _).below hb
  have HW : Hid (Below w.heap.size w w') := Below.step (below_new _ _) hb
  obtain ⟨⟨m0, m1, m2, m3⟩, d0, d1, d2, d3⟩ := B.four
  clear B hb
  go_wp2_with fail
  refine bodyPost_ret (v := .tuple #[.int .u32 W, .agg #[.bool gn, .bool gz, .bool gc, .bool gv]]) (by simp [results, Tryz.results122, go_sem, m0, m1, m2, m3]) rfl ⟨rfl, ?_⟩
  iterate 4 refine Below.setCell ?_ (by simp) _
  exact HW.out
set_option maxRecDepth 100000 in
set_option maxHeartbeats 1000000 in
theorem gcl_6 (a b : Int) (w : World) (a0 : 0 ≤ a) (a1 : a < 4294967296) (b0 : 0 ≤ b) (b1 : b < 4294967296) :
    Calls Tryz.prog 123 #[.int .u32 a, .int .u32 b] w fun e w' => e = .returned (.tuple #[.int .u32 (suW (nt a) b true), .agg #[.bool (suF (nt a) b true).n, .bool (suF (nt a) b true).z, .bool (suF (nt a) b true).c, .bool (suF (nt a) b true).v]]) ∧ Below w.heap.size w w' := by
  have HS : Hid (∀ w, Calls Tryz.prog 121 #[.int .u32 ((nt a)), .int .u32 (b), .bool true] w fun e w' => e = .returned (.tuple #[.int .u32 (suW (nt a) b true), .agg #[.bool (suF (nt a) b true).n, .bool (suF (nt a) b true).z, .bool (suF (nt a) b true).c, .bool (suF (nt a) b true).v]]) ∧ Below w.heap.size w w') := fun w => gsum_any _ _ _ w (by (try unfold nt); omega) (by (try unfold nt); omega) (by (try unfold nt); omega) (by (try unfold nt); omega)
  have hna := xor_nt a a0 a1
  have hnb := xor_nt b b0 b1
  generalize suW (nt a) b true = W at *
  generalize suF (nt a) b true = F at *
  obtain ⟨gn, gz, gc, gv⟩ := F
  simp only at *
  clear a0 a1 b0 b1
  go_enter Tryz.func123, Tryz.ntmps123
  go_wp2_with (go_at_call 121; refine Hid.out ?_)
  show Calls _ _ _ _ _
  refine (HS.out _).mono ?_
  rintro e w' ⟨rfl, hb⟩
  have B := (Bl.new _ _ _).below hb
  have HW : Hid (Below w.heap.size w w') := Below.step (below_new _ _) hb
  obtain ⟨⟨m0, m1, m2, m3⟩, d0, d1, d2, d3⟩ := B.four
  clear B hb
  go_wp2_with fail
  refine bodyPost_ret (v := .tuple #[.int .u32 W, .agg #[.bool gn, .bool gz, .bool gc, .bool gv]]) (by simp [results, Tryz.results123, go_sem, m0, m1, m2, m3]) rfl ⟨rfl, ?_⟩
  iterate 4 refine Below.setCell ?_ (by simp) _
  exact HW.out
set_option maxRecDepth 100000 in
set_option maxHeartbeats 1000000 in
theorem gcl_7 (a b : Int) (x0 x1 x3 : Nat) (sh fn fz fc fv : Bool) (w : World) (a0 : 0 ≤ a) (a1 : a < 4294967296) (b0 : 0 ≤ b) (b1 : b < 4294967296) (hS : OpS w x0 x1 x3 sh fn fz fc fv) :
    Calls Tryz.prog 124 #[.int .u32 a, .int .u32 b, .pointer (some ⟨x1, 0, none⟩)] w fun e w' => e = .returned (.tuple #[.int .u32 (suW a b fc), .agg #[.bool (suF a b fc).n, .bool (suF a b fc).z, .bool (suF a b fc).c, .bool (suF a b fc).v]]) ∧ Below w.heap.size w w' := by
  have HS : Hid (∀ w, Calls Tryz.prog 121 #[.int .u32 (a), .int .u32 (b), .bool fc] w fun e w' => e = .returned (.tuple #[.int .u32 (suW a b fc), .agg #[.bool (suF a b fc).n, .bool (suF a b fc).z, .bool (suF a b fc).c, .bool (suF a b fc).v]]) ∧ Below w.heap.size w w') := fun w => gsum_any _ _ _ w (by (try unfold nt); omega) (by (try unfold nt); omega) (by (try unfold nt); omega) (by (try unfold nt); omega)
  have hna := xor_nt a a0 a1
  have hnb := xor_nt b b0 b1
  generalize suW a b fc = W at *
  generalize suF a b fc = F at *
  obtain ⟨gn, gz, gc, gv⟩ := F
  simp only at *
  clear a0 a1 b0 b1
  have c2 := hS.2.1.cell 2
  have k2 := (hS.2.1.alloc (.cells #[.bool false, .bool false, .bool false, .bool false] 40)).cell 2
  have l1 := hS.2.1.lt
  have n1 : ¬ x1 = w.heap.size := by omega
  clear hS
  simp only [List.getElem?_cons_zero, List.getElem?_cons_succ] at c2 k2
  go_enter Tryz.func124, Tryz.ntmps124
  go_wp2_with (go_at_call 121; refine Hid.out ?_)
  show Calls _ _ _ _ _
  refine (HS.out _).mono ?_
  rintro e w' ⟨rfl, hb⟩
  have B := (Bl.new _ _ _).below hb
  have HW : Hid (Below w.heap.size w w') := Below.step (below_new _ _) hb
  obtain ⟨⟨m0, m1, m2, m3⟩, d0, d1, d2, d3⟩ := B.four
  clear B hb c2 k2
  go_wp2_with fail
  refine bodyPost_ret (v := .tuple #[.int .u32 W, .agg #[.bool gn, .bool gz, .bool gc, .bool gv]]) (by simp [results, Tryz.results124, go_sem, m0, m1, m2, m3]) rfl ⟨rfl, ?_⟩
  iterate 4 refine Below.setCell ?_ (by simp) _
  exact HW.out
set_option maxRecDepth 100000 in
set_option maxHeartbeats 1000000 in
theorem gcl_8 (a b : Int) (x0 x1 x3 : Nat) (sh fn fz fc fv : Bool) (w : World) (a0 : 0 ≤ a) (a1 : a < 4294967296) (b0 : 0 ≤ b) (b1 : b < 4294967296) (hS : OpS w x0 x1 x3 sh fn fz fc fv) :
    Calls Tryz.prog 125 #[.int .u32 a, .int .u32 b, .pointer (some ⟨x1, 0, none⟩)] w fun e w' => e = .returned (.tuple #[.int .u32 (suW a (nt b) fc), .agg #[.bool (suF a (nt b) fc).n, .bool (suF a (nt b) fc).z, .bool (suF a (nt b) fc).c, .bool (suF a (nt b) fc).v]]) ∧ Below w.heap.size w w' := by
  have HS : Hid (∀ w, Calls Tryz.prog 121 #[.int .u32 (a), .int .u32 ((nt b)), .bool fc] w fun e w' => e = .returned (.tuple #[.int .u32 (suW a (nt b) fc), .agg #[.bool (suF a (nt b) fc).n, .bool (suF a (nt b) fc).z, .bool (suF a (nt b) fc).c, .bool (suF a (nt b) fc).v]]) ∧ Below w.heap.size w w') := fun w => gsum_any _ _ _ w (by (try unfold nt); omega) (by (try unfold nt); omega) (by (try unfold nt); omega) (by (try unfold nt); omega)
  have hna := xor_nt a a0 a1
  have hnb := xor_nt b b0 b1
  generalize suW a (nt b) fc = W at *
  generalize suF a (nt b) fc = F at *
  obtain ⟨gn, gz, gc, gv⟩ := F
  simp only at *
  clear a0 a1 b0 b1
  have c2 := hS.2.1.cell 2
  have k2 := (hS.2.1.alloc (.cells #[.bool false, .bool false, .bool false, .bool false] 40)).cell 2
  have l1 := hS.2.1.lt
  have n1 : ¬ x1 = w.heap.size := by omega
  clear hS
  simp only [List.getElem?_cons_zero, List.getElem?_cons_succ] at c2 k2
  go_enter Tryz.func125, Tryz.ntmps125
  go_wp2_with (go_at_call 121; refine Hid.out ?_)
  show Calls _ _ _ _ _
  refine (HS.out _).mono ?_
  rintro e w' ⟨rfl, hb⟩
  have B := (Bl.new _ _ _).below hb
  have HW : Hid (Below w.heap.size w w') := Below.step (below_new _ _) hb
  obtain ⟨⟨m0, m1, m2, m3⟩, d0, d1, d2, d3⟩ := B.four
  clear B hb c2 k2
  go_wp2_with fail
  refine bodyPost_ret (v := .tuple #[.int .u32 W, .agg #[.bool gn, .bool gz, .bool gc, .bool gv]]) (by simp [results, Tryz.results125, go_sem, m0, m1, m2, m3]) rfl ⟨rfl, ?_⟩
  iterate 4 refine Below.setCell ?_ (by simp) _
  exact HW.out
set_option maxRecDepth 100000 in
set_option maxHeartbeats 1000000 in
theorem gcl_9 (a b : Int) (x0 x1 x3 : Nat) (sh fn fz fc fv : Bool) (w : World) (a0 : 0 ≤ a) (a1 : a < 4294967296) (b0 : 0 ≤ b) (b1 : b < 4294967296) (hS : OpS w x0 x1 x3 sh fn fz fc fv) :
    Calls Tryz.prog 126 #[.int .u32 a, .int .u32 b, .pointer (some ⟨x1, 0, none⟩)] w fun e w' => e = .returned (.tuple #[.int .u32 (suW (nt a) b fc), .agg #[.bool (suF (nt a) b fc).n, .bool (suF (nt a) b fc).z, .bool (suF (nt a) b fc).c, .bool (suF (nt a) b fc).v]]) ∧ Below w.heap.size w w' := by
  have HS : Hid (∀ w, Calls Tryz.prog 121 #[.int .u32 ((nt a)), .int .u32 (b), .bool fc] w fun e w' => e = .returned (.tuple #[.int .u32 (suW (nt a) b fc), .agg #[.bool (suF (nt a) b fc).n, .bool (suF (nt a) b fc).z, .bool (suF (nt a) b fc).c, .bool (suF (nt a) b fc).v]]) ∧ Below w.heap.size w w') := fun w => gsum_any _ _ _ w (by (try unfold nt); omega) (by (try unfold nt); omega) (by (try unfold nt); omega) (by (try unfold nt); omega)
  have hna := xor_nt a a0 a1
  have hnb := xor_nt b b0 b1
  generalize suW (nt a) b fc = W at *
  generalize suF (nt a) b fc = F at *
  obtain ⟨gn, gz, gc, gv⟩ := F
  simp only at *
  clear a0 a1 b0 b1
  have c2 := hS.2.1.cell 2
  have k2 := (hS.2.1.alloc (.cells #[.bool false, .bool false, .bool false, .bool false] 40)).cell 2
  have l1 := hS.2.1.lt
  have n1 : ¬ x1 = w.heap.size := by omega
  clear hS
  simp only [List.getElem?_cons_zero, List.getElem?_cons_succ] at c2 k2
  go_enter Tryz.func126, Tryz.ntmps126
  go_wp2_with (go_at_call 121; refine Hid.out ?_)
  show Calls _ _ _ _ _
  refine (HS.out _).mono ?_
  rintro e w' ⟨rfl, hb⟩
  have B := (Bl.new _ _ _).below hb
  have HW : Hid (Below w.heap.size w w') := Below.step (below_new _ _) hb
  obtain ⟨⟨m0, m1, m2, m3⟩, d0, d1, d2, d3⟩ := B.four
  clear B hb c2 k2
  go_wp2_with fail
  refine bodyPost_ret (v := .tuple #[.int .u32 W, .agg #[.bool gn, .bool gz, .bool gc, .bool gv]]) (by simp [results, Tryz.results126, go_sem, m0, m1, m2, m3]) rfl ⟨rfl, ?_⟩
  iterate 4 refine Below.setCell ?_ (by simp) _
  exact HW.out
/-- The flags of a word that no sum made. -/
def lgF (W : Int) (sh fv : Bool) : Fl := ⟨decide (2147483648 ≤ W), W == 0, sh, fv⟩
set_option maxRecDepth 100000 in
set_option maxHeartbeats 1000000 in
theorem gcl_2 (a b : Int) (x0 x1 x3 : Nat) (sh fn fz fc fv : Bool) (w : World) (a0 : 0 ≤ a) (a1 : a < 4294967296) (b0 : 0 ≤ b) (b1 : b < 4294967296) (hS : OpS w x0 x1 x3 sh fn fz fc fv) :
    Calls Tryz.prog 118 #[.int .u32 a, .int .u32 b, .pointer (some ⟨x3, 0, none⟩)] w fun e w' => e = .returned (.tuple #[.int .u32 (bits .and .u32 a b), .agg #[.bool (lgF (bits .and .u32 a b) sh fv).n, .bool (lgF (bits .and .u32 a b) sh fv).z, .bool (lgF (bits .and .u32 a b) sh fv).c, .bool (lgF (bits .and .u32 a b) sh fv).v]]) ∧ Below w.heap.size w w' := by
  have hr : 0 ≤ bits .and .u32 a b ∧ bits .and .u32 a b < 4294967296 := and_range a b a0 a1 b0 b1
  have HS : Hid (∀ w, OpS w x0 x1 x3 sh fn fz fc fv → Calls Tryz.prog 116 #[.int .u32 (bits .and .u32 a b), .pointer (some ⟨x0, 0, none⟩), .pointer (some ⟨x1, 0, none⟩)] w fun e w' => e = .returned (.tuple #[.int .u32 (bits .and .u32 a b), .agg #[.bool (lgF (bits .and .u32 a b) sh fv).n, .bool (lgF (bits .and .u32 a b) sh fv).z, .bool (lgF (bits .and .u32 a b) sh fv).c, .bool (lgF (bits .and .u32 a b) sh fv).v]]) ∧ Below w.heap.size w w') := fun w h => gof_any (bits .and .u32 a b) x0 x1 x3 sh fn fz fc fv w hr.1 hr.2 h
  have hnb := xor_nt b b0 b1
  generalize hW : bits .and .u32 a b = W at *
  generalize lgF W sh fv = F at *
  obtain ⟨gn, gz, gc, gv⟩ := F
  simp only at *
  clear a0 a1 b0 b1 hr
  have c0 := hS.2.2.cell 0
  have k0 := (hS.2.2.alloc (.cells #[.bool false, .bool false, .bool false, .bool false] 40)).cell 0
  have l3 := hS.2.2.lt
  have n3 : ¬ x3 = w.heap.size := by omega
  have hS : Hid _ := hS
  simp only [List.getElem?_cons_zero, List.getElem?_cons_succ] at c0 k0
  go_enter Tryz.func118, Tryz.ntmps118
  go_wp2_with (go_at_call 116; refine Hid.out ?_)
  show Calls _ _ _ _ _
  refine (HS.out _ (OpS.below hS.out (below_new _ _))).mono ?_
  rintro e w' ⟨rfl, hb⟩
  have B := (Bl.new _ _ _).below hb
  have HW : Hid (Below w.heap.size w w') := Below.step (below_new _ _) hb
  obtain ⟨⟨m0, m1, m2, m3⟩, d0, d1, d2, d3⟩ := B.four
  clear B hb c0 k0
  go_wp2_with fail
  refine bodyPost_ret (v := .tuple #[.int .u32 W, .agg #[.bool gn, .bool gz, .bool gc, .bool gv]]) (by simp [results, Tryz.results118, go_sem, m0, m1, m2, m3]) rfl ⟨rfl, ?_⟩
  iterate 4 refine Below.setCell ?_ (by simp) _
  exact HW.out
set_option maxRecDepth 100000 in
set_option maxHeartbeats 1000000 in
theorem gcl_3 (a b : Int) (x0 x1 x3 : Nat) (sh fn fz fc fv : Bool) (w : World) (a0 : 0 ≤ a) (a1 : a < 4294967296) (b0 : 0 ≤ b) (b1 : b < 4294967296) (hS : OpS w x0 x1 x3 sh fn fz fc fv) :
    Calls Tryz.prog 119 #[.int .u32 a, .int .u32 b, .pointer (some ⟨x3, 0, none⟩)] w fun e w' => e = .returned (.tuple #[.int .u32 (bits .xor .u32 a b), .agg #[.bool (lgF (bits .xor .u32 a b) sh fv).n, .bool (lgF (bits .xor .u32 a b) sh fv).z, .bool (lgF (bits .xor .u32 a b) sh fv).c, .bool (lgF (bits .xor .u32 a b) sh fv).v]]) ∧ Below w.heap.size w w' := by
  have hr : 0 ≤ bits .xor .u32 a b ∧ bits .xor .u32 a b < 4294967296 := xor_range a b a0 a1 b0 b1
  have HS : Hid (∀ w, OpS w x0 x1 x3 sh fn fz fc fv → Calls Tryz.prog 116 #[.int .u32 (bits .xor .u32 a b), .pointer (some ⟨x0, 0, none⟩), .pointer (some ⟨x1, 0, none⟩)] w fun e w' => e = .returned (.tuple #[.int .u32 (bits .xor .u32 a b), .agg #[.bool (lgF (bits .xor .u32 a b) sh fv).n, .bool (lgF (bits .xor .u32 a b) sh fv).z, .bool (lgF (bits .xor .u32 a b) sh fv).c, .bool (lgF (bits .xor .u32 a b) sh fv).v]]) ∧ Below w.heap.size w w') := fun w h => gof_any (bits .xor .u32 a b) x0 x1 x3 sh fn fz fc fv w hr.1 hr.2 h
  have hnb := xor_nt b b0 b1
  generalize hW : bits .xor .u32 a b = W at *
  generalize lgF W sh fv = F at *
  obtain ⟨gn, gz, gc, gv⟩ := F
  simp only at *
  clear a0 a1 b0 b1 hr
  have c0 := hS.2.2.cell 0
  have k0 := (hS.2.2.alloc (.cells #[.bool false, .bool false, .bool false, .bool false] 40)).cell 0
  have l3 := hS.2.2.lt
  have n3 : ¬ x3 = w.heap.size := by omega
  have hS : Hid _ := hS
  simp only [List.getElem?_cons_zero, List.getElem?_cons_succ] at c0 k0
  go_enter Tryz.func119, Tryz.ntmps119
  go_wp2_with (go_at_call 116; refine Hid.out ?_)
  show Calls _ _ _ _ _
  refine (HS.out _ (OpS.below hS.out (below_new _ _))).mono ?_
  rintro e w' ⟨rfl, hb⟩
  have B := (Bl.new _ _ _).below hb
  have HW : Hid (Below w.heap.size w w') := Below.step (below_new _ _) hb
  obtain ⟨⟨m0, m1, m2, m3⟩, d0, d1, d2, d3⟩ := B.four
  clear B hb c0 k0
  go_wp2_with fail
  refine bodyPost_ret (v := .tuple #[.int .u32 W, .agg #[.bool gn, .bool gz, .bool gc, .bool gv]]) (by simp [results, Tryz.results119, go_sem, m0, m1, m2, m3]) rfl ⟨rfl, ?_⟩
  iterate 4 refine Below.setCell ?_ (by simp) _
  exact HW.out
set_option maxRecDepth 100000 in
set_option maxHeartbeats 1000000 in
theorem gcl_10 (a b : Int) (x0 x1 x3 : Nat) (sh fn fz fc fv : Bool) (w : World) (a0 : 0 ≤ a) (a1 : a < 4294967296) (b0 : 0 ≤ b) (b1 : b < 4294967296) (hS : OpS w x0 x1 x3 sh fn fz fc fv) :
    Calls Tryz.prog 127 #[.int .u32 a, .int .u32 b, .pointer (some ⟨x3, 0, none⟩)] w fun e w' => e = .returned (.tuple #[.int .u32 (bits .or .u32 a b), .agg #[.bool (lgF (bits .or .u32 a b) sh fv).n, .bool (lgF (bits .or .u32 a b) sh fv).z, .bool (lgF (bits .or .u32 a b) sh fv).c, .bool (lgF (bits .or .u32 a b) sh fv).v]]) ∧ Below w.heap.size w w' := by
  have hr : 0 ≤ bits .or .u32 a b ∧ bits .or .u32 a b < 4294967296 := or_range a b a0 a1 b0 b1
  have HS : Hid (∀ w, OpS w x0 x1 x3 sh fn fz fc fv → Calls Tryz.prog 116 #[.int .u32 (bits .or .u32 a b), .pointer (some ⟨x0, 0, none⟩), .pointer (some ⟨x1, 0, none⟩)] w fun e w' => e = .returned (.tuple #[.int .u32 (bits .or .u32 a b), .agg #[.bool (lgF (bits .or .u32 a b) sh fv).n, .bool (lgF (bits .or .u32 a b) sh fv).z, .bool (lgF (bits .or .u32 a b) sh fv).c, .bool (lgF (bits .or .u32 a b) sh fv).v]]) ∧ Below w.heap.size w w') := fun w h => gof_any (bits .or .u32 a b) x0 x1 x3 sh fn fz fc fv w hr.1 hr.2 h
  have hnb := xor_nt b b0 b1
  generalize hW : bits .or .u32 a b = W at *
  generalize lgF W sh fv = F at *
  obtain ⟨gn, gz, gc, gv⟩ := F
  simp only at *
  clear a0 a1 b0 b1 hr
  have c0 := hS.2.2.cell 0
  have k0 := (hS.2.2.alloc (.cells #[.bool false, .bool false, .bool false, .bool false] 40)).cell 0
  have l3 := hS.2.2.lt
  have n3 : ¬ x3 = w.heap.size := by omega
  have hS : Hid _ := hS
  simp only [List.getElem?_cons_zero, List.getElem?_cons_succ] at c0 k0
  go_enter Tryz.func127, Tryz.ntmps127
  go_wp2_with (go_at_call 116; refine Hid.out ?_)
  show Calls _ _ _ _ _
  refine (HS.out _ (OpS.below hS.out (below_new _ _))).mono ?_
  rintro e w' ⟨rfl, hb⟩
  have B := (Bl.new _ _ _).below hb
  have HW : Hid (Below w.heap.size w w') := Below.step (below_new _ _) hb
  obtain ⟨⟨m0, m1, m2, m3⟩, d0, d1, d2, d3⟩ := B.four
  clear B hb c0 k0
  go_wp2_with fail
  refine bodyPost_ret (v := .tuple #[.int .u32 W, .agg #[.bool gn, .bool gz, .bool gc, .bool gv]]) (by simp [results, Tryz.results127, go_sem, m0, m1, m2, m3]) rfl ⟨rfl, ?_⟩
  iterate 4 refine Below.setCell ?_ (by simp) _
  exact HW.out
set_option maxRecDepth 100000 in
set_option maxHeartbeats 1000000 in
theorem gcl_11 (a b : Int) (x0 x1 x3 : Nat) (sh fn fz fc fv : Bool) (w : World) (a0 : 0 ≤ a) (a1 : a < 4294967296) (b0 : 0 ≤ b) (b1 : b < 4294967296) (hS : OpS w x0 x1 x3 sh fn fz fc fv) :
    Calls Tryz.prog 128 #[.int .u32 a, .int .u32 b, .pointer (some ⟨x3, 0, none⟩)] w fun e w' => e = .returned (.tuple #[.int .u32 (b), .agg #[.bool (lgF (b) sh fv).n, .bool (lgF (b) sh fv).z, .bool (lgF (b) sh fv).c, .bool (lgF (b) sh fv).v]]) ∧ Below w.heap.size w w' := by
  have hr : 0 ≤ b ∧ b < 4294967296 := ⟨b0, b1⟩
  have HS : Hid (∀ w, OpS w x0 x1 x3 sh fn fz fc fv → Calls Tryz.prog 116 #[.int .u32 (b), .pointer (some ⟨x0, 0, none⟩), .pointer (some ⟨x1, 0, none⟩)] w fun e w' => e = .returned (.tuple #[.int .u32 (b), .agg #[.bool (lgF (b) sh fv).n, .bool (lgF (b) sh fv).z, .bool (lgF (b) sh fv).c, .bool (lgF (b) sh fv).v]]) ∧ Below w.heap.size w w') := fun w h => gof_any (b) x0 x1 x3 sh fn fz fc fv w hr.1 hr.2 h
  have hnb := xor_nt b b0 b1
  generalize lgF b sh fv = F at *
  obtain ⟨gn, gz, gc, gv⟩ := F
  simp only at *
  clear a0 a1 b0 b1 hr
  have c0 := hS.2.2.cell 0
  have k0 := (hS.2.2.alloc (.cells #[.bool false, .bool false, .bool false, .bool false] 40)).cell 0
  have l3 := hS.2.2.lt
  have n3 : ¬ x3 = w.heap.size := by omega
  have hS : Hid _ := hS
  simp only [List.getElem?_cons_zero, List.getElem?_cons_succ] at c0 k0
  go_enter Tryz.func128, Tryz.ntmps128
  go_wp2_with (go_at_call 116; refine Hid.out ?_)
  show Calls _ _ _ _ _
  refine (HS.out _ (OpS.below hS.out (below_new _ _))).mono ?_
  rintro e w' ⟨rfl, hb⟩
  have B := (Bl.new _ _ _).below hb
  have HW : Hid (Below w.heap.size w w') := Below.step (below_new _ _) hb
  obtain ⟨⟨m0, m1, m2, m3⟩, d0, d1, d2, d3⟩ := B.four
  clear B hb c0 k0
  go_wp2_with fail
  refine bodyPost_ret (v := .tuple #[.int .u32 b, .agg #[.bool gn, .bool gz, .bool gc, .bool gv]]) (by simp [results, Tryz.results128, go_sem, m0, m1, m2, m3]) rfl ⟨rfl, ?_⟩
  iterate 4 refine Below.setCell ?_ (by simp) _
  exact HW.out
set_option maxRecDepth 100000 in
set_option maxHeartbeats 1000000 in
theorem gcl_12 (a b : Int) (x0 x1 x3 : Nat) (sh fn fz fc fv : Bool) (w : World) (a0 : 0 ≤ a) (a1 : a < 4294967296) (b0 : 0 ≤ b) (b1 : b < 4294967296) (hS : OpS w x0 x1 x3 sh fn fz fc fv) :
    Calls Tryz.prog 129 #[.int .u32 a, .int .u32 b, .pointer (some ⟨x3, 0, none⟩)] w fun e w' => e = .returned (.tuple #[.int .u32 (bits .andNot .u32 a b), .agg #[.bool (lgF (bits .andNot .u32 a b) sh fv).n, .bool (lgF (bits .andNot .u32 a b) sh fv).z, .bool (lgF (bits .andNot .u32 a b) sh fv).c, .bool (lgF (bits .andNot .u32 a b) sh fv).v]]) ∧ Below w.heap.size w w' := by
  have hr : 0 ≤ bits .andNot .u32 a b ∧ bits .andNot .u32 a b < 4294967296 := andNot_range a b a0 a1 b0 b1
  have HS : Hid (∀ w, OpS w x0 x1 x3 sh fn fz fc fv → Calls Tryz.prog 116 #[.int .u32 (bits .andNot .u32 a b), .pointer (some ⟨x0, 0, none⟩), .pointer (some ⟨x1, 0, none⟩)] w fun e w' => e = .returned (.tuple #[.int .u32 (bits .andNot .u32 a b), .agg #[.bool (lgF (bits .andNot .u32 a b) sh fv).n, .bool (lgF (bits .andNot .u32 a b) sh fv).z, .bool (lgF (bits .andNot .u32 a b) sh fv).c, .bool (lgF (bits .andNot .u32 a b) sh fv).v]]) ∧ Below w.heap.size w w') := fun w h => gof_any (bits .andNot .u32 a b) x0 x1 x3 sh fn fz fc fv w hr.1 hr.2 h
  have hnb := xor_nt b b0 b1
  generalize hW : bits .andNot .u32 a b = W at *
  generalize lgF W sh fv = F at *
  obtain ⟨gn, gz, gc, gv⟩ := F
  simp only at *
  clear a0 a1 b0 b1 hr
  have c0 := hS.2.2.cell 0
  have k0 := (hS.2.2.alloc (.cells #[.bool false, .bool false, .bool false, .bool false] 40)).cell 0
  have l3 := hS.2.2.lt
  have n3 : ¬ x3 = w.heap.size := by omega
  have hS : Hid _ := hS
  simp only [List.getElem?_cons_zero, List.getElem?_cons_succ] at c0 k0
  go_enter Tryz.func129, Tryz.ntmps129
  go_wp2_with (go_at_call 116; refine Hid.out ?_)
  show Calls _ _ _ _ _
  refine (HS.out _ (OpS.below hS.out (below_new _ _))).mono ?_
  rintro e w' ⟨rfl, hb⟩
  have B := (Bl.new _ _ _).below hb
  have HW : Hid (Below w.heap.size w w') := Below.step (below_new _ _) hb
  obtain ⟨⟨m0, m1, m2, m3⟩, d0, d1, d2, d3⟩ := B.four
  clear B hb c0 k0
  go_wp2_with fail
  refine bodyPost_ret (v := .tuple #[.int .u32 W, .agg #[.bool gn, .bool gz, .bool gc, .bool gv]]) (by simp [results, Tryz.results129, go_sem, m0, m1, m2, m3]) rfl ⟨rfl, ?_⟩
  iterate 4 refine Below.setCell ?_ (by simp) _
  exact HW.out
set_option maxRecDepth 100000 in
set_option maxHeartbeats 1000000 in
theorem gcl_13 (a b : Int) (x0 x1 x3 : Nat) (sh fn fz fc fv : Bool) (w : World) (a0 : 0 ≤ a) (a1 : a < 4294967296) (b0 : 0 ≤ b) (b1 : b < 4294967296) (hS : OpS w x0 x1 x3 sh fn fz fc fv) :
    Calls Tryz.prog 130 #[.int .u32 a, .int .u32 b, .pointer (some ⟨x3, 0, none⟩)] w fun e w' => e = .returned (.tuple #[.int .u32 (nt b), .agg #[.bool (lgF (nt b) sh fv).n, .bool (lgF (nt b) sh fv).z, .bool (lgF (nt b) sh fv).c, .bool (lgF (nt b) sh fv).v]]) ∧ Below w.heap.size w w' := by
  have hr : 0 ≤ nt b ∧ nt b < 4294967296 := nt_range b b0 b1
  have HS : Hid (∀ w, OpS w x0 x1 x3 sh fn fz fc fv → Calls Tryz.prog 116 #[.int .u32 (nt b), .pointer (some ⟨x0, 0, none⟩), .pointer (some ⟨x1, 0, none⟩)] w fun e w' => e = .returned (.tuple #[.int .u32 (nt b), .agg #[.bool (lgF (nt b) sh fv).n, .bool (lgF (nt b) sh fv).z, .bool (lgF (nt b) sh fv).c, .bool (lgF (nt b) sh fv).v]]) ∧ Below w.heap.size w w') := fun w h => gof_any (nt b) x0 x1 x3 sh fn fz fc fv w hr.1 hr.2 h
  have hnb := xor_nt b b0 b1
  generalize nt b = W at *
  generalize lgF W sh fv = F at *
  obtain ⟨gn, gz, gc, gv⟩ := F
  simp only at *
  clear a0 a1 b0 b1 hr
  have c0 := hS.2.2.cell 0
  have k0 := (hS.2.2.alloc (.cells #[.bool false, .bool false, .bool false, .bool false] 40)).cell 0
  have l3 := hS.2.2.lt
  have n3 : ¬ x3 = w.heap.size := by omega
  have hS : Hid _ := hS
  simp only [List.getElem?_cons_zero, List.getElem?_cons_succ] at c0 k0
  go_enter Tryz.func130, Tryz.ntmps130
  go_wp2_with (go_at_call 116; refine Hid.out ?_)
  show Calls _ _ _ _ _
  refine (HS.out _ (OpS.below hS.out (below_new _ _))).mono ?_
  rintro e w' ⟨rfl, hb⟩
  have B := (Bl.new _ _ _).below hb
  have HW : Hid (Below w.heap.size w w') := Below.step (below_new _ _) hb
  obtain ⟨⟨m0, m1, m2, m3⟩, d0, d1, d2, d3⟩ := B.four
  clear B hb c0 k0
  go_wp2_with fail
  refine bodyPost_ret (v := .tuple #[.int .u32 W, .agg #[.bool gn, .bool gz, .bool gc, .bool gv]]) (by simp [results, Tryz.results130, go_sem, m0, m1, m2, m3]) rfl ⟨rfl, ?_⟩
  iterate 4 refine Below.setCell ?_ (by simp) _
  exact HW.out
end Go.Proofs.YtilhceajhlaojaaGreatDoor.Al
