import Derived.Test.YtdelcknpaldngabRh
namespace Go.Proofs.Ytdelcknpaldngab
open Go.RowKit
set_option linter.unusedVariables false
set_option linter.unusedSimpArgs false
set_option maxRecDepth 100000 in
set_option maxHeartbeats 1000000 in
theorem jdo_3 (a b : Int) (sh : Bool) (f : Fl) (w : World) (a0 : 0 ≤ a) (a1 : a < 4294967296) (b0 : 0 ≤ b) (b1 : b < 4294967296) :
    Calls Try.prog 22 #[.int .i64 3, .int .u32 a, .int .u32 b, .bool sh, .agg #[.bool f.n, .bool f.z, .bool f.c, .bool f.v]] w fun e w' => e = .returned (.tuple #[.int .u32 (suW a (nt b) true), .bool true, .agg #[.bool (suF a (nt b) true).n, .bool (suF a (nt b) true).z, .bool (suF a (nt b) true).c, .bool (suF a (nt b) true).v]]) ∧ Below w.heap.size w w' := by
  have HL : Hid (∀ w, Calls Try.prog 39 #[.int .i64 3, .int .u32 a, .int .u32 b] w fun e w' => e = .returned (.tuple #[.int .u32 (0), .bool false]) ∧ w' = w) := fun w => jlogic_3 a b w b0 b1
  have HS : Hid (∀ w, Calls Try.prog 13 #[.int .u32 (a), .int .u32 (nt b), .bool true] w fun e w' => e = .returned (.tuple #[.int .u32 (suW a (nt b) true), .agg #[.bool (suF a (nt b) true).n, .bool (suF a (nt b) true).z, .bool (suF a (nt b) true).c, .bool (suF a (nt b) true).v]]) ∧ Below w.heap.size w w') := fun w => jsum_any _ _ _ w (by (try unfold nt); omega) (by (try unfold nt); omega) (by (try unfold nt); omega) (by (try unfold nt); omega)
  have hna := xor_nt a a0 a1
  have hnb := xor_nt b b0 b1
  generalize suW a (nt b) true = W at *
  generalize suF a (nt b) true = F at *
  obtain ⟨fn, fz, fc, fv⟩ := f
  obtain ⟨gn, gz, gc, gv⟩ := F
  simp only at *
  clear a0 a1 b0 b1
  go_enter Try.func22, Try.ntmps22
  go_wp2_with (first | (go_at_call 39; refine (HL.out _).mono ?_; rintro e w' ⟨rfl, rfl⟩) | (go_at_call 13; refine Hid.out ?_))
  show Calls _ _ _ _ _
  refine (HS.out _).mono ?_
  rintro e w' ⟨rfl, hB⟩
  have B2 := (Bl.new _ _ _).below hB
  have B1 := ((Bl.new _ _ _).alloc _).below hB
  simp at B1 B2
  have hB' : Hid (Below w.heap.size w w') := (((((Below.refl _ w).alloc (Nat.le_refl _) _).alloc (by simp) _).alloc (by simp; omega) _)).trans (hB.mono (by simp; omega))
  obtain ⟨S2, S1, S0⟩ := put4 B2 B1 (by omega) (.bool gn) (.bool gz) (.bool gc) (.bool gv)
  have hB2 := S0 w.heap.size w (by omega) hB'.out
  obtain ⟨⟨c0, c1, c2, c3⟩, d0, d1, d2, d3⟩ := B1.four
  obtain ⟨⟨k0, k1, k2, k3⟩, l0, l1, l2, l3⟩ := B2.four
  clear B1 B2 hB hB' S0
  have S1 : Hid (Bl _ _ _ _) := S1
  have S2 : Hid (Bl _ _ _ _) := S2
  have hB2 : Hid (Below _ _ _) := hB2
  go_wp2_with fail
  clear c0 c1 c2 c3 d0 d1 d2 d3 k0 k1 k2 k3 l0 l1 l2 l3
  generalize ((((w'.setCell _ _).setCell _ _).setCell _ _).setCell _ _) = w2 at S1 S2 hB2 ⊢
  obtain ⟨T1, T2, T0⟩ := put4 S1.out S2.out (by omega) (.bool gn) (.bool gz) (.bool gc) (.bool gv)
  have T3 : Hid (Below _ _ _) := T0 w.heap.size w (by omega) hB2.out
  have T2 : Hid (Bl _ _ _ _) := T2.drew
  clear T0 T1
  obtain ⟨⟨c0, c1, c2, c3⟩, d0, d1, d2, d3⟩ := S1.out.four
  obtain ⟨⟨k0, k1, k2, k3⟩, l0, l1, l2, l3⟩ := S2.out.drew.four
  go_region_held3 (fun w' => w'.cell? ⟨w.heap.size + 1 + 1, 0, none⟩ = some (.bool gn) ∧ w'.cell? ⟨w.heap.size + 1 + 1, 1, none⟩ = some (.bool gz) ∧ w'.cell? ⟨w.heap.size + 1 + 1, 2, none⟩ = some (.bool gc) ∧ w'.cell? ⟨w.heap.size + 1 + 1, 3, none⟩ = some (.bool gv)) (first | (with_reducible exact ⟨k0, k1, k2, k3⟩) | (with_reducible exact T2.out.four.1)) ((first | fail))
  go_wp2_with fail
  exact bodyPost_ret (v := .tuple #[.int .u32 W, .bool true, .agg #[.bool gn, .bool gz, .bool gc, .bool gv]]) (by simp [results, Try.results22, go_sem, c0, c1, c2, c3]) rfl ⟨rfl, below_drew T3.out⟩
set_option maxRecDepth 100000 in
set_option maxHeartbeats 1000000 in
theorem jdo_4 (a b : Int) (sh : Bool) (f : Fl) (w : World) (a0 : 0 ≤ a) (a1 : a < 4294967296) (b0 : 0 ≤ b) (b1 : b < 4294967296) :
    Calls Try.prog 22 #[.int .i64 4, .int .u32 a, .int .u32 b, .bool sh, .agg #[.bool f.n, .bool f.z, .bool f.c, .bool f.v]] w fun e w' => e = .returned (.tuple #[.int .u32 (suW (nt a) b true), .bool true, .agg #[.bool (suF (nt a) b true).n, .bool (suF (nt a) b true).z, .bool (suF (nt a) b true).c, .bool (suF (nt a) b true).v]]) ∧ Below w.heap.size w w' := by
  have HL : Hid (∀ w, Calls Try.prog 39 #[.int .i64 4, .int .u32 a, .int .u32 b] w fun e w' => e = .returned (.tuple #[.int .u32 (0), .bool false]) ∧ w' = w) := fun w => jlogic_4 a b w b0 b1
  have HS : Hid (∀ w, Calls Try.prog 13 #[.int .u32 (nt a), .int .u32 (b), .bool true] w fun e w' => e = .returned (.tuple #[.int .u32 (suW (nt a) b true), .agg #[.bool (suF (nt a) b true).n, .bool (suF (nt a) b true).z, .bool (suF (nt a) b true).c, .bool (suF (nt a) b true).v]]) ∧ Below w.heap.size w w') := fun w => jsum_any _ _ _ w (by (try unfold nt); omega) (by (try unfold nt); omega) (by (try unfold nt); omega) (by (try unfold nt); omega)
  have hna := xor_nt a a0 a1
  have hnb := xor_nt b b0 b1
  generalize suW (nt a) b true = W at *
  generalize suF (nt a) b true = F at *
  obtain ⟨fn, fz, fc, fv⟩ := f
  obtain ⟨gn, gz, gc, gv⟩ := F
  simp only at *
  clear a0 a1 b0 b1
  go_enter Try.func22, Try.ntmps22
  go_wp2_with (first | (go_at_call 39; refine (HL.out _).mono ?_; rintro e w' ⟨rfl, rfl⟩) | (go_at_call 13; refine Hid.out ?_))
  show Calls _ _ _ _ _
  refine (HS.out _).mono ?_
  rintro e w' ⟨rfl, hB⟩
  have B2 := (Bl.new _ _ _).below hB
  have B1 := ((Bl.new _ _ _).alloc _).below hB
  simp at B1 B2
  have hB' : Hid (Below w.heap.size w w') := (((((Below.refl _ w).alloc (Nat.le_refl _) _).alloc (by simp) _).alloc (by simp; omega) _)).trans (hB.mono (by simp; omega))
  obtain ⟨S2, S1, S0⟩ := put4 B2 B1 (by omega) (.bool gn) (.bool gz) (.bool gc) (.bool gv)
  have hB2 := S0 w.heap.size w (by omega) hB'.out
  obtain ⟨⟨c0, c1, c2, c3⟩, d0, d1, d2, d3⟩ := B1.four
  obtain ⟨⟨k0, k1, k2, k3⟩, l0, l1, l2, l3⟩ := B2.four
  clear B1 B2 hB hB' S0
  have S1 : Hid (Bl _ _ _ _) := S1
  have S2 : Hid (Bl _ _ _ _) := S2
  have hB2 : Hid (Below _ _ _) := hB2
  go_wp2_with fail
  clear c0 c1 c2 c3 d0 d1 d2 d3 k0 k1 k2 k3 l0 l1 l2 l3
  generalize ((((w'.setCell _ _).setCell _ _).setCell _ _).setCell _ _) = w2 at S1 S2 hB2 ⊢
  obtain ⟨T1, T2, T0⟩ := put4 S1.out S2.out (by omega) (.bool gn) (.bool gz) (.bool gc) (.bool gv)
  have T3 : Hid (Below _ _ _) := T0 w.heap.size w (by omega) hB2.out
  have T2 : Hid (Bl _ _ _ _) := T2.drew
  clear T0 T1
  obtain ⟨⟨c0, c1, c2, c3⟩, d0, d1, d2, d3⟩ := S1.out.four
  obtain ⟨⟨k0, k1, k2, k3⟩, l0, l1, l2, l3⟩ := S2.out.drew.four
  go_region_held3 (fun w' => w'.cell? ⟨w.heap.size + 1 + 1, 0, none⟩ = some (.bool gn) ∧ w'.cell? ⟨w.heap.size + 1 + 1, 1, none⟩ = some (.bool gz) ∧ w'.cell? ⟨w.heap.size + 1 + 1, 2, none⟩ = some (.bool gc) ∧ w'.cell? ⟨w.heap.size + 1 + 1, 3, none⟩ = some (.bool gv)) (first | (with_reducible exact ⟨k0, k1, k2, k3⟩) | (with_reducible exact T2.out.four.1)) ((first | fail))
  go_wp2_with fail
  exact bodyPost_ret (v := .tuple #[.int .u32 W, .bool true, .agg #[.bool gn, .bool gz, .bool gc, .bool gv]]) (by simp [results, Try.results22, go_sem, c0, c1, c2, c3]) rfl ⟨rfl, below_drew T3.out⟩
set_option maxRecDepth 100000 in
set_option maxHeartbeats 1000000 in
theorem jdo_5 (a b : Int) (sh : Bool) (f : Fl) (w : World) (a0 : 0 ≤ a) (a1 : a < 4294967296) (b0 : 0 ≤ b) (b1 : b < 4294967296) :
    Calls Try.prog 22 #[.int .i64 5, .int .u32 a, .int .u32 b, .bool sh, .agg #[.bool f.n, .bool f.z, .bool f.c, .bool f.v]] w fun e w' => e = .returned (.tuple #[.int .u32 (suW a b false), .bool true, .agg #[.bool (suF a b false).n, .bool (suF a b false).z, .bool (suF a b false).c, .bool (suF a b false).v]]) ∧ Below w.heap.size w w' := by
  have HL : Hid (∀ w, Calls Try.prog 39 #[.int .i64 5, .int .u32 a, .int .u32 b] w fun e w' => e = .returned (.tuple #[.int .u32 (0), .bool false]) ∧ w' = w) := fun w => jlogic_5 a b w b0 b1
  have HS : Hid (∀ w, Calls Try.prog 13 #[.int .u32 (a), .int .u32 (b), .bool false] w fun e w' => e = .returned (.tuple #[.int .u32 (suW a b false), .agg #[.bool (suF a b false).n, .bool (suF a b false).z, .bool (suF a b false).c, .bool (suF a b false).v]]) ∧ Below w.heap.size w w') := fun w => jsum_any _ _ _ w (by (try unfold nt); omega) (by (try unfold nt); omega) (by (try unfold nt); omega) (by (try unfold nt); omega)
  have hna := xor_nt a a0 a1
  have hnb := xor_nt b b0 b1
  generalize suW a b false = W at *
  generalize suF a b false = F at *
  obtain ⟨fn, fz, fc, fv⟩ := f
  obtain ⟨gn, gz, gc, gv⟩ := F
  simp only at *
  clear a0 a1 b0 b1
  go_enter Try.func22, Try.ntmps22
  go_wp2_with (first | (go_at_call 39; refine (HL.out _).mono ?_; rintro e w' ⟨rfl, rfl⟩) | (go_at_call 13; refine Hid.out ?_))
  show Calls _ _ _ _ _
  refine (HS.out _).mono ?_
  rintro e w' ⟨rfl, hB⟩
  have B2 := (Bl.new _ _ _).below hB
  have B1 := ((Bl.new _ _ _).alloc _).below hB
  simp at B1 B2
  have hB' : Hid (Below w.heap.size w w') := (((((Below.refl _ w).alloc (Nat.le_refl _) _).alloc (by simp) _).alloc (by simp; omega) _)).trans (hB.mono (by simp; omega))
  obtain ⟨S2, S1, S0⟩ := put4 B2 B1 (by omega) (.bool gn) (.bool gz) (.bool gc) (.bool gv)
  have hB2 := S0 w.heap.size w (by omega) hB'.out
  obtain ⟨⟨c0, c1, c2, c3⟩, d0, d1, d2, d3⟩ := B1.four
  obtain ⟨⟨k0, k1, k2, k3⟩, l0, l1, l2, l3⟩ := B2.four
  clear B1 B2 hB hB' S0
  have S1 : Hid (Bl _ _ _ _) := S1
  have S2 : Hid (Bl _ _ _ _) := S2
  have hB2 : Hid (Below _ _ _) := hB2
  go_wp2_with fail
  clear c0 c1 c2 c3 d0 d1 d2 d3 k0 k1 k2 k3 l0 l1 l2 l3
  generalize ((((w'.setCell _ _).setCell _ _).setCell _ _).setCell _ _) = w2 at S1 S2 hB2 ⊢
  obtain ⟨T1, T2, T0⟩ := put4 S1.out S2.out (by omega) (.bool gn) (.bool gz) (.bool gc) (.bool gv)
  have T3 : Hid (Below _ _ _) := T0 w.heap.size w (by omega) hB2.out
  have T2 : Hid (Bl _ _ _ _) := T2.drew
  clear T0 T1
  obtain ⟨⟨c0, c1, c2, c3⟩, d0, d1, d2, d3⟩ := S1.out.four
  obtain ⟨⟨k0, k1, k2, k3⟩, l0, l1, l2, l3⟩ := S2.out.drew.four
  go_region_held3 (fun w' => w'.cell? ⟨w.heap.size + 1 + 1, 0, none⟩ = some (.bool gn) ∧ w'.cell? ⟨w.heap.size + 1 + 1, 1, none⟩ = some (.bool gz) ∧ w'.cell? ⟨w.heap.size + 1 + 1, 2, none⟩ = some (.bool gc) ∧ w'.cell? ⟨w.heap.size + 1 + 1, 3, none⟩ = some (.bool gv)) (first | (with_reducible exact ⟨k0, k1, k2, k3⟩) | (with_reducible exact T2.out.four.1)) ((first | fail))
  go_wp2_with fail
  exact bodyPost_ret (v := .tuple #[.int .u32 W, .bool true, .agg #[.bool gn, .bool gz, .bool gc, .bool gv]]) (by simp [results, Try.results22, go_sem, c0, c1, c2, c3]) rfl ⟨rfl, below_drew T3.out⟩
set_option maxRecDepth 100000 in
set_option maxHeartbeats 1000000 in
theorem jdo_6 (a b : Int) (sh : Bool) (f : Fl) (w : World) (a0 : 0 ≤ a) (a1 : a < 4294967296) (b0 : 0 ≤ b) (b1 : b < 4294967296) :
    Calls Try.prog 22 #[.int .i64 6, .int .u32 a, .int .u32 b, .bool sh, .agg #[.bool f.n, .bool f.z, .bool f.c, .bool f.v]] w fun e w' => e = .returned (.tuple #[.int .u32 (suW a b f.c), .bool true, .agg #[.bool (suF a b f.c).n, .bool (suF a b f.c).z, .bool (suF a b f.c).c, .bool (suF a b f.c).v]]) ∧ Below w.heap.size w w' := by
  have HL : Hid (∀ w, Calls Try.prog 39 #[.int .i64 6, .int .u32 a, .int .u32 b] w fun e w' => e = .returned (.tuple #[.int .u32 (0), .bool false]) ∧ w' = w) := fun w => jlogic_6 a b w b0 b1
  have HS : Hid (∀ w, Calls Try.prog 13 #[.int .u32 (a), .int .u32 (b), .bool f.c] w fun e w' => e = .returned (.tuple #[.int .u32 (suW a b f.c), .agg #[.bool (suF a b f.c).n, .bool (suF a b f.c).z, .bool (suF a b f.c).c, .bool (suF a b f.c).v]]) ∧ Below w.heap.size w w') := fun w => jsum_any _ _ _ w (by (try unfold nt); omega) (by (try unfold nt); omega) (by (try unfold nt); omega) (by (try unfold nt); omega)
  have hna := xor_nt a a0 a1
  have hnb := xor_nt b b0 b1
  generalize suW a b f.c = W at *
  generalize suF a b f.c = F at *
  obtain ⟨fn, fz, fc, fv⟩ := f
  obtain ⟨gn, gz, gc, gv⟩ := F
  simp only at *
  clear a0 a1 b0 b1
  go_enter Try.func22, Try.ntmps22
  go_wp2_with (first | (go_at_call 39; refine (HL.out _).mono ?_; rintro e w' ⟨rfl, rfl⟩) | (go_at_call 13; refine Hid.out ?_))
  show Calls _ _ _ _ _
  refine (HS.out _).mono ?_
  rintro e w' ⟨rfl, hB⟩
  have B2 := (Bl.new _ _ _).below hB
  have B1 := ((Bl.new _ _ _).alloc _).below hB
  simp at B1 B2
  have hB' : Hid (Below w.heap.size w w') := (((((Below.refl _ w).alloc (Nat.le_refl _) _).alloc (by simp) _).alloc (by simp; omega) _)).trans (hB.mono (by simp; omega))
  obtain ⟨S2, S1, S0⟩ := put4 B2 B1 (by omega) (.bool gn) (.bool gz) (.bool gc) (.bool gv)
  have hB2 := S0 w.heap.size w (by omega) hB'.out
  obtain ⟨⟨c0, c1, c2, c3⟩, d0, d1, d2, d3⟩ := B1.four
  obtain ⟨⟨k0, k1, k2, k3⟩, l0, l1, l2, l3⟩ := B2.four
  clear B1 B2 hB hB' S0
  have S1 : Hid (Bl _ _ _ _) := S1
  have S2 : Hid (Bl _ _ _ _) := S2
  have hB2 : Hid (Below _ _ _) := hB2
  go_wp2_with fail
  clear c0 c1 c2 c3 d0 d1 d2 d3 k0 k1 k2 k3 l0 l1 l2 l3
  generalize ((((w'.setCell _ _).setCell _ _).setCell _ _).setCell _ _) = w2 at S1 S2 hB2 ⊢
  obtain ⟨T1, T2, T0⟩ := put4 S1.out S2.out (by omega) (.bool gn) (.bool gz) (.bool gc) (.bool gv)
  have T3 : Hid (Below _ _ _) := T0 w.heap.size w (by omega) hB2.out
  have T2 : Hid (Bl _ _ _ _) := T2.drew
  clear T0 T1
  obtain ⟨⟨c0, c1, c2, c3⟩, d0, d1, d2, d3⟩ := S1.out.four
  obtain ⟨⟨k0, k1, k2, k3⟩, l0, l1, l2, l3⟩ := S2.out.drew.four
  go_region_held3 (fun w' => w'.cell? ⟨w.heap.size + 1 + 1, 0, none⟩ = some (.bool gn) ∧ w'.cell? ⟨w.heap.size + 1 + 1, 1, none⟩ = some (.bool gz) ∧ w'.cell? ⟨w.heap.size + 1 + 1, 2, none⟩ = some (.bool gc) ∧ w'.cell? ⟨w.heap.size + 1 + 1, 3, none⟩ = some (.bool gv)) (first | (with_reducible exact ⟨k0, k1, k2, k3⟩) | (with_reducible exact T2.out.four.1)) ((first | fail))
  go_wp2_with fail
  exact bodyPost_ret (v := .tuple #[.int .u32 W, .bool true, .agg #[.bool gn, .bool gz, .bool gc, .bool gv]]) (by simp [results, Try.results22, go_sem, c0, c1, c2, c3]) rfl ⟨rfl, below_drew T3.out⟩
set_option maxRecDepth 100000 in
set_option maxHeartbeats 1000000 in
theorem jdo_7 (a b : Int) (sh : Bool) (f : Fl) (w : World) (a0 : 0 ≤ a) (a1 : a < 4294967296) (b0 : 0 ≤ b) (b1 : b < 4294967296) :
    Calls Try.prog 22 #[.int .i64 7, .int .u32 a, .int .u32 b, .bool sh, .agg #[.bool f.n, .bool f.z, .bool f.c, .bool f.v]] w fun e w' => e = .returned (.tuple #[.int .u32 (suW a (nt b) f.c), .bool true, .agg #[.bool (suF a (nt b) f.c).n, .bool (suF a (nt b) f.c).z, .bool (suF a (nt b) f.c).c, .bool (suF a (nt b) f.c).v]]) ∧ Below w.heap.size w w' := by
  have HL : Hid (∀ w, Calls Try.prog 39 #[.int .i64 7, .int .u32 a, .int .u32 b] w fun e w' => e = .returned (.tuple #[.int .u32 (0), .bool false]) ∧ w' = w) := fun w => jlogic_7 a b w b0 b1
  have HS : Hid (∀ w, Calls Try.prog 13 #[.int .u32 (a), .int .u32 (nt b), .bool f.c] w fun e w' => e = .returned (.tuple #[.int .u32 (suW a (nt b) f.c), .agg #[.bool (suF a (nt b) f.c).n, .bool (suF a (nt b) f.c).z, .bool (suF a (nt b) f.c).c, .bool (suF a (nt b) f.c).v]]) ∧ Below w.heap.size w w') := fun w => jsum_any _ _ _ w (by (try unfold nt); omega) (by (try unfold nt); omega) (by (try unfold nt); omega) (by (try unfold nt); omega)
  have hna := xor_nt a a0 a1
  have hnb := xor_nt b b0 b1
  generalize suW a (nt b) f.c = W at *
  generalize suF a (nt b) f.c = F at *
  obtain ⟨fn, fz, fc, fv⟩ := f
  obtain ⟨gn, gz, gc, gv⟩ := F
  simp only at *
  clear a0 a1 b0 b1
  go_enter Try.func22, Try.ntmps22
  go_wp2_with (first | (go_at_call 39; refine (HL.out _).mono ?_; rintro e w' ⟨rfl, rfl⟩) | (go_at_call 13; refine Hid.out ?_))
  show Calls _ _ _ _ _
  refine (HS.out _).mono ?_
  rintro e w' ⟨rfl, hB⟩
  have B2 := (Bl.new _ _ _).below hB
  have B1 := ((Bl.new _ _ _).alloc _).below hB
  simp at B1 B2
  have hB' : Hid (Below w.heap.size w w') := (((((Below.refl _ w).alloc (Nat.le_refl _) _).alloc (by simp) _).alloc (by simp; omega) _)).trans (hB.mono (by simp; omega))
  obtain ⟨S2, S1, S0⟩ := put4 B2 B1 (by omega) (.bool gn) (.bool gz) (.bool gc) (.bool gv)
  have hB2 := S0 w.heap.size w (by omega) hB'.out
  obtain ⟨⟨c0, c1, c2, c3⟩, d0, d1, d2, d3⟩ := B1.four
  obtain ⟨⟨k0, k1, k2, k3⟩, l0, l1, l2, l3⟩ := B2.four
  clear B1 B2 hB hB' S0
  have S1 : Hid (Bl _ _ _ _) := S1
  have S2 : Hid (Bl _ _ _ _) := S2
  have hB2 : Hid (Below _ _ _) := hB2
  go_wp2_with fail
  clear c0 c1 c2 c3 d0 d1 d2 d3 k0 k1 k2 k3 l0 l1 l2 l3
  generalize ((((w'.setCell _ _).setCell _ _).setCell _ _).setCell _ _) = w2 at S1 S2 hB2 ⊢
  obtain ⟨T1, T2, T0⟩ := put4 S1.out S2.out (by omega) (.bool gn) (.bool gz) (.bool gc) (.bool gv)
  have T3 : Hid (Below _ _ _) := T0 w.heap.size w (by omega) hB2.out
  have T2 : Hid (Bl _ _ _ _) := T2.drew
  clear T0 T1
  obtain ⟨⟨c0, c1, c2, c3⟩, d0, d1, d2, d3⟩ := S1.out.four
  obtain ⟨⟨k0, k1, k2, k3⟩, l0, l1, l2, l3⟩ := S2.out.drew.four
  go_region_held3 (fun w' => w'.cell? ⟨w.heap.size + 1 + 1, 0, none⟩ = some (.bool gn) ∧ w'.cell? ⟨w.heap.size + 1 + 1, 1, none⟩ = some (.bool gz) ∧ w'.cell? ⟨w.heap.size + 1 + 1, 2, none⟩ = some (.bool gc) ∧ w'.cell? ⟨w.heap.size + 1 + 1, 3, none⟩ = some (.bool gv)) (first | (with_reducible exact ⟨k0, k1, k2, k3⟩) | (with_reducible exact T2.out.four.1)) ((first | fail))
  go_wp2_with fail
  exact bodyPost_ret (v := .tuple #[.int .u32 W, .bool true, .agg #[.bool gn, .bool gz, .bool gc, .bool gv]]) (by simp [results, Try.results22, go_sem, c0, c1, c2, c3]) rfl ⟨rfl, below_drew T3.out⟩
set_option maxRecDepth 100000 in
set_option maxHeartbeats 1000000 in
theorem jdo_8 (a b : Int) (sh : Bool) (f : Fl) (w : World) (a0 : 0 ≤ a) (a1 : a < 4294967296) (b0 : 0 ≤ b) (b1 : b < 4294967296) :
    Calls Try.prog 22 #[.int .i64 8, .int .u32 a, .int .u32 b, .bool sh, .agg #[.bool f.n, .bool f.z, .bool f.c, .bool f.v]] w fun e w' => e = .returned (.tuple #[.int .u32 (suW (nt a) b f.c), .bool true, .agg #[.bool (suF (nt a) b f.c).n, .bool (suF (nt a) b f.c).z, .bool (suF (nt a) b f.c).c, .bool (suF (nt a) b f.c).v]]) ∧ Below w.heap.size w w' := by
  have HL : Hid (∀ w, Calls Try.prog 39 #[.int .i64 8, .int .u32 a, .int .u32 b] w fun e w' => e = .returned (.tuple #[.int .u32 (0), .bool false]) ∧ w' = w) := fun w => jlogic_8 a b w b0 b1
  have HS : Hid (∀ w, Calls Try.prog 13 #[.int .u32 (nt a), .int .u32 (b), .bool f.c] w fun e w' => e = .returned (.tuple #[.int .u32 (suW (nt a) b f.c), .agg #[.bool (suF (nt a) b f.c).n, .bool (suF (nt a) b f.c).z, .bool (suF (nt a) b f.c).c, .bool (suF (nt a) b f.c).v]]) ∧ Below w.heap.size w w') := fun w => jsum_any _ _ _ w (by (try unfold nt); omega) (by (try unfold nt); omega) (by (try unfold nt); omega) (by (try unfold nt); omega)
  have hna := xor_nt a a0 a1
  have hnb := xor_nt b b0 b1
  generalize suW (nt a) b f.c = W at *
  generalize suF (nt a) b f.c = F at *
  obtain ⟨fn, fz, fc, fv⟩ := f
  obtain ⟨gn, gz, gc, gv⟩ := F
  simp only at *
  clear a0 a1 b0 b1
  go_enter Try.func22, Try.ntmps22
  go_wp2_with (first | (go_at_call 39; refine (HL.out _).mono ?_; rintro e w' ⟨rfl, rfl⟩) | (go_at_call 13; refine Hid.out ?_))
  show Calls _ _ _ _ _
  refine (HS.out _).mono ?_
  rintro e w' ⟨rfl, hB⟩
  have B2 := (Bl.new _ _ _).below hB
  have B1 := ((Bl.new _ _ _).alloc _).below hB
  simp at B1 B2
  have hB' : Hid (Below w.heap.size w w') := (((((Below.refl _ w).alloc (Nat.le_refl _) _).alloc (by simp) _).alloc (by simp; omega) _)).trans (hB.mono (by simp; omega))
  obtain ⟨S2, S1, S0⟩ := put4 B2 B1 (by omega) (.bool gn) (.bool gz) (.bool gc) (.bool gv)
  have hB2 := S0 w.heap.size w (by omega) hB'.out
  obtain ⟨⟨c0, c1, c2, c3⟩, d0, d1, d2, d3⟩ := B1.four
  obtain ⟨⟨k0, k1, k2, k3⟩, l0, l1, l2, l3⟩ := B2.four
  clear B1 B2 hB hB' S0
  have S1 : Hid (Bl _ _ _ _) := S1
  have S2 : Hid (Bl _ _ _ _) := S2
  have hB2 : Hid (Below _ _ _) := hB2
  go_wp2_with fail
  clear c0 c1 c2 c3 d0 d1 d2 d3 k0 k1 k2 k3 l0 l1 l2 l3
  generalize ((((w'.setCell _ _).setCell _ _).setCell _ _).setCell _ _) = w2 at S1 S2 hB2 ⊢
  obtain ⟨T1, T2, T0⟩ := put4 S1.out S2.out (by omega) (.bool gn) (.bool gz) (.bool gc) (.bool gv)
  have T3 : Hid (Below _ _ _) := T0 w.heap.size w (by omega) hB2.out
  have T2 : Hid (Bl _ _ _ _) := T2.drew
  clear T0 T1
  obtain ⟨⟨c0, c1, c2, c3⟩, d0, d1, d2, d3⟩ := S1.out.four
  obtain ⟨⟨k0, k1, k2, k3⟩, l0, l1, l2, l3⟩ := S2.out.drew.four
  go_region_held3 (fun w' => w'.cell? ⟨w.heap.size + 1 + 1, 0, none⟩ = some (.bool gn) ∧ w'.cell? ⟨w.heap.size + 1 + 1, 1, none⟩ = some (.bool gz) ∧ w'.cell? ⟨w.heap.size + 1 + 1, 2, none⟩ = some (.bool gc) ∧ w'.cell? ⟨w.heap.size + 1 + 1, 3, none⟩ = some (.bool gv)) (first | (with_reducible exact ⟨k0, k1, k2, k3⟩) | (with_reducible exact T2.out.four.1)) ((first | fail))
  go_wp2_with fail
  exact bodyPost_ret (v := .tuple #[.int .u32 W, .bool true, .agg #[.bool gn, .bool gz, .bool gc, .bool gv]]) (by simp [results, Try.results22, go_sem, c0, c1, c2, c3]) rfl ⟨rfl, below_drew T3.out⟩
set_option maxRecDepth 100000 in
set_option maxHeartbeats 1000000 in
theorem jdo_11 (a b : Int) (sh : Bool) (f : Fl) (w : World) (a0 : 0 ≤ a) (a1 : a < 4294967296) (b0 : 0 ≤ b) (b1 : b < 4294967296) :
    Calls Try.prog 22 #[.int .i64 11, .int .u32 a, .int .u32 b, .bool sh, .agg #[.bool f.n, .bool f.z, .bool f.c, .bool f.v]] w fun e w' => e = .returned (.tuple #[.int .u32 (suW a (nt b) true), .bool false, .agg #[.bool (suF a (nt b) true).n, .bool (suF a (nt b) true).z, .bool (suF a (nt b) true).c, .bool (suF a (nt b) true).v]]) ∧ Below w.heap.size w w' := by
  have HL : Hid (∀ w, Calls Try.prog 39 #[.int .i64 11, .int .u32 a, .int .u32 b] w fun e w' => e = .returned (.tuple #[.int .u32 (0), .bool false]) ∧ w' = w) := fun w => jlogic_11 a b w b0 b1
  have HS : Hid (∀ w, Calls Try.prog 13 #[.int .u32 (a), .int .u32 (nt b), .bool true] w fun e w' => e = .returned (.tuple #[.int .u32 (suW a (nt b) true), .agg #[.bool (suF a (nt b) true).n, .bool (suF a (nt b) true).z, .bool (suF a (nt b) true).c, .bool (suF a (nt b) true).v]]) ∧ Below w.heap.size w w') := fun w => jsum_any _ _ _ w (by (try unfold nt); omega) (by (try unfold nt); omega) (by (try unfold nt); omega) (by (try unfold nt); omega)
  have hna := xor_nt a a0 a1
  have hnb := xor_nt b b0 b1
  generalize suW a (nt b) true = W at *
  generalize suF a (nt b) true = F at *
  obtain ⟨fn, fz, fc, fv⟩ := f
  obtain ⟨gn, gz, gc, gv⟩ := F
  simp only at *
  clear a0 a1 b0 b1
  go_enter Try.func22, Try.ntmps22
  go_wp2_with (first | (go_at_call 39; refine (HL.out _).mono ?_; rintro e w' ⟨rfl, rfl⟩) | (go_at_call 13; refine Hid.out ?_))
  show Calls _ _ _ _ _
  refine (HS.out _).mono ?_
  rintro e w' ⟨rfl, hB⟩
  have B2 := (Bl.new _ _ _).below hB
  have B1 := ((Bl.new _ _ _).alloc _).below hB
  simp at B1 B2
  have hB' : Hid (Below w.heap.size w w') := (((((Below.refl _ w).alloc (Nat.le_refl _) _).alloc (by simp) _).alloc (by simp; omega) _)).trans (hB.mono (by simp; omega))
  obtain ⟨S2, S1, S0⟩ := put4 B2 B1 (by omega) (.bool gn) (.bool gz) (.bool gc) (.bool gv)
  have hB2 := S0 w.heap.size w (by omega) hB'.out
  obtain ⟨⟨c0, c1, c2, c3⟩, d0, d1, d2, d3⟩ := B1.four
  obtain ⟨⟨k0, k1, k2, k3⟩, l0, l1, l2, l3⟩ := B2.four
  clear B1 B2 hB hB' S0
  have S1 : Hid (Bl _ _ _ _) := S1
  have S2 : Hid (Bl _ _ _ _) := S2
  have hB2 : Hid (Below _ _ _) := hB2
  go_wp2_with fail
  clear c0 c1 c2 c3 d0 d1 d2 d3 k0 k1 k2 k3 l0 l1 l2 l3
  generalize ((((w'.setCell _ _).setCell _ _).setCell _ _).setCell _ _) = w2 at S1 S2 hB2 ⊢
  obtain ⟨T1, T2, T0⟩ := put4 S1.out S2.out (by omega) (.bool gn) (.bool gz) (.bool gc) (.bool gv)
  have T3 : Hid (Below _ _ _) := T0 w.heap.size w (by omega) hB2.out
  have T2 : Hid (Bl _ _ _ _) := T2.drew
  clear T0 T1
  obtain ⟨⟨c0, c1, c2, c3⟩, d0, d1, d2, d3⟩ := S1.out.four
  obtain ⟨⟨k0, k1, k2, k3⟩, l0, l1, l2, l3⟩ := S2.out.drew.four
  go_region_held3 (fun w' => w'.cell? ⟨w.heap.size + 1 + 1, 0, none⟩ = some (.bool gn) ∧ w'.cell? ⟨w.heap.size + 1 + 1, 1, none⟩ = some (.bool gz) ∧ w'.cell? ⟨w.heap.size + 1 + 1, 2, none⟩ = some (.bool gc) ∧ w'.cell? ⟨w.heap.size + 1 + 1, 3, none⟩ = some (.bool gv)) (first | (with_reducible exact ⟨k0, k1, k2, k3⟩) | (with_reducible exact T2.out.four.1)) ((first | fail))
  go_wp2_with fail
  exact bodyPost_ret (v := .tuple #[.int .u32 W, .bool false, .agg #[.bool gn, .bool gz, .bool gc, .bool gv]]) (by simp [results, Try.results22, go_sem, c0, c1, c2, c3]) rfl ⟨rfl, below_drew T3.out⟩
set_option maxRecDepth 100000 in
set_option maxHeartbeats 1000000 in
theorem jdo_12 (a b : Int) (sh : Bool) (f : Fl) (w : World) (a0 : 0 ≤ a) (a1 : a < 4294967296) (b0 : 0 ≤ b) (b1 : b < 4294967296) :
    Calls Try.prog 22 #[.int .i64 12, .int .u32 a, .int .u32 b, .bool sh, .agg #[.bool f.n, .bool f.z, .bool f.c, .bool f.v]] w fun e w' => e = .returned (.tuple #[.int .u32 (suW a b false), .bool false, .agg #[.bool (suF a b false).n, .bool (suF a b false).z, .bool (suF a b false).c, .bool (suF a b false).v]]) ∧ Below w.heap.size w w' := by
  have HL : Hid (∀ w, Calls Try.prog 39 #[.int .i64 12, .int .u32 a, .int .u32 b] w fun e w' => e = .returned (.tuple #[.int .u32 (0), .bool false]) ∧ w' = w) := fun w => jlogic_12 a b w b0 b1
  have HS : Hid (∀ w, Calls Try.prog 13 #[.int .u32 (a), .int .u32 (b), .bool false] w fun e w' => e = .returned (.tuple #[.int .u32 (suW a b false), .agg #[.bool (suF a b false).n, .bool (suF a b false).z, .bool (suF a b false).c, .bool (suF a b false).v]]) ∧ Below w.heap.size w w') := fun w => jsum_any _ _ _ w (by (try unfold nt); omega) (by (try unfold nt); omega) (by (try unfold nt); omega) (by (try unfold nt); omega)
  have hna := xor_nt a a0 a1
  have hnb := xor_nt b b0 b1
  generalize suW a b false = W at *
  generalize suF a b false = F at *
  obtain ⟨fn, fz, fc, fv⟩ := f
  obtain ⟨gn, gz, gc, gv⟩ := F
  simp only at *
  clear a0 a1 b0 b1
  go_enter Try.func22, Try.ntmps22
  go_wp2_with (first | (go_at_call 39; refine (HL.out _).mono ?_; rintro e w' ⟨rfl, rfl⟩) | (go_at_call 13; refine Hid.out ?_))
  show Calls _ _ _ _ _
  refine (HS.out _).mono ?_
  rintro e w' ⟨rfl, hB⟩
  have B2 := (Bl.new _ _ _).below hB
  have B1 := ((Bl.new _ _ _).alloc _).below hB
  simp at B1 B2
  have hB' : Hid (Below w.heap.size w w') := (((((Below.refl _ w).alloc (Nat.le_refl _) _).alloc (by simp) _).alloc (by simp; omega) _)).trans (hB.mono (by simp; omega))
  obtain ⟨S2, S1, S0⟩ := put4 B2 B1 (by omega) (.bool gn) (.bool gz) (.bool gc) (.bool gv)
  have hB2 := S0 w.heap.size w (by omega) hB'.out
  obtain ⟨⟨c0, c1, c2, c3⟩, d0, d1, d2, d3⟩ := B1.four
  obtain ⟨⟨k0, k1, k2, k3⟩, l0, l1, l2, l3⟩ := B2.four
  clear B1 B2 hB hB' S0
  have S1 : Hid (Bl _ _ _ _) := S1
  have S2 : Hid (Bl _ _ _ _) := S2
  have hB2 : Hid (Below _ _ _) := hB2
  go_wp2_with fail
  clear c0 c1 c2 c3 d0 d1 d2 d3 k0 k1 k2 k3 l0 l1 l2 l3
  generalize ((((w'.setCell _ _).setCell _ _).setCell _ _).setCell _ _) = w2 at S1 S2 hB2 ⊢
  obtain ⟨T1, T2, T0⟩ := put4 S1.out S2.out (by omega) (.bool gn) (.bool gz) (.bool gc) (.bool gv)
  have T3 : Hid (Below _ _ _) := T0 w.heap.size w (by omega) hB2.out
  have T2 : Hid (Bl _ _ _ _) := T2.drew
  clear T0 T1
  obtain ⟨⟨c0, c1, c2, c3⟩, d0, d1, d2, d3⟩ := S1.out.four
  obtain ⟨⟨k0, k1, k2, k3⟩, l0, l1, l2, l3⟩ := S2.out.drew.four
  go_region_held3 (fun w' => w'.cell? ⟨w.heap.size + 1 + 1, 0, none⟩ = some (.bool gn) ∧ w'.cell? ⟨w.heap.size + 1 + 1, 1, none⟩ = some (.bool gz) ∧ w'.cell? ⟨w.heap.size + 1 + 1, 2, none⟩ = some (.bool gc) ∧ w'.cell? ⟨w.heap.size + 1 + 1, 3, none⟩ = some (.bool gv)) (first | (with_reducible exact ⟨k0, k1, k2, k3⟩) | (with_reducible exact T2.out.four.1)) ((first | fail))
  go_wp2_with fail
  exact bodyPost_ret (v := .tuple #[.int .u32 W, .bool false, .agg #[.bool gn, .bool gz, .bool gc, .bool gv]]) (by simp [results, Try.results22, go_sem, c0, c1, c2, c3]) rfl ⟨rfl, below_drew T3.out⟩
set_option maxRecDepth 100000 in
set_option maxHeartbeats 1000000 in
theorem jdo_1 (a b : Int) (sh : Bool) (f : Fl) (w : World) (a0 : 0 ≤ a) (a1 : a < 4294967296) (b0 : 0 ≤ b) (b1 : b < 4294967296) :
    Calls Try.prog 22 #[.int .i64 1, .int .u32 a, .int .u32 b, .bool sh, .agg #[.bool f.n, .bool f.z, .bool f.c, .bool f.v]] w fun e w' => e = .returned (.tuple #[.int .u32 (bits .and .u32 a b), .bool true, .agg #[.bool (decide (2147483648 ≤ (bits .and .u32 a b))), .bool ((bits .and .u32 a b) == 0), .bool sh, .bool f.v]]) ∧ Below w.heap.size w w' := by
  have HL : Hid (∀ w, Calls Try.prog 39 #[.int .i64 1, .int .u32 a, .int .u32 b] w fun e w' => e = .returned (.tuple #[.int .u32 (bits .and .u32 a b), .bool true]) ∧ w' = w) := fun w => jlogic_1 a b w b0 b1
  have hr : 0 ≤ (bits .and .u32 a b) ∧ (bits .and .u32 a b) < 4294967296 := and_range a b a0 a1 b0 b1
  generalize hW : bits .and .u32 a b = W at *
  clear hW
  obtain ⟨r0, r1⟩ := hr
  obtain ⟨fn, fz, fc, fv⟩ := f
  simp only at *
  clear a0 a1 b0 b1
  have T3 : Hid (∀ o1 o2, Below w.heap.size w ((w.alloc o1).alloc o2)) := fun o1 o2 => ((Below.refl _ w).alloc (Nat.le_refl _) _).alloc (by simp) _
  have HS : Hid (∀ o l t, Bl ((w.alloc (.cells (l : List Value).toArray t)).alloc o) w.heap.size t l) := fun o l t => (Bl.new w t l).alloc o
  have HT : Hid (∀ o (l : List Value) t, Bl ((w.alloc o).alloc (.cells l.toArray t)) (w.heap.size + 1) t l) := fun o l t => by simpa using Bl.new (w.alloc o) t l
  go_enter Try.func22, Try.ntmps22
  go_wp2_with (first | (go_at_call 39; refine (HL.out _).mono ?_; rintro e w' ⟨rfl, rfl⟩))
  have S0 := HS.out (.cells #[.bool false, .bool false, .bool false, .bool false] 28) [.bool fn, .bool fz, .bool fc, .bool fv] 28
  have S1 := HT.out (.cells #[.bool fn, .bool fz, .bool fc, .bool fv] 28) [.bool false, .bool false, .bool false, .bool false] 28
  have S3 := T3.out (.cells #[.bool fn, .bool fz, .bool fc, .bool fv] 28) (.cells #[.bool false, .bool false, .bool false, .bool false] 28)
  clear T3 HS HT
  generalize ((w.alloc _).alloc _) = w2 at S0 S1 S3 ⊢
  obtain ⟨T1, T2, T0⟩ := put4 S1 S0 (by omega) (.bool (decide (2147483648 ≤ W))) (.bool (W == 0)) (.bool sh) (.bool fv)
  have T3 : Hid (Below _ _ _) := T0 w.heap.size w (by omega) S3
  have T2 : Hid (Bl _ _ _ _) := T2.drew
  obtain ⟨⟨c0, c1, c2, c3⟩, d0, d1, d2, d3⟩ := S1.four
  have k3 : Hid (w2.drew.cell? ⟨w.heap.size, 3, none⟩ = some (.bool fv)) := S0.drew.four.1.2.2.2
  clear T0 T1 S0 S1 S3
  go_region_held3 (fun w' => w'.cell? ⟨w.heap.size, 3, none⟩ = some (.bool fv)) (first | (with_reducible exact k3.out) | (with_reducible exact T2.out.four.1.2.2.2)) ((first | fail))
  go_wp2_with fail
  exact bodyPost_ret (v := .tuple #[.int .u32 W, .bool true, .agg #[.bool (decide (2147483648 ≤ W)), .bool (W == 0), .bool sh, .bool fv]]) (by simp [results, Try.results22, go_sem, c0, c1, c2, c3]) rfl ⟨rfl, below_drew T3.out⟩
set_option maxRecDepth 100000 in
set_option maxHeartbeats 1000000 in
theorem jdo_2 (a b : Int) (sh : Bool) (f : Fl) (w : World) (a0 : 0 ≤ a) (a1 : a < 4294967296) (b0 : 0 ≤ b) (b1 : b < 4294967296) :
    Calls Try.prog 22 #[.int .i64 2, .int .u32 a, .int .u32 b, .bool sh, .agg #[.bool f.n, .bool f.z, .bool f.c, .bool f.v]] w fun e w' => e = .returned (.tuple #[.int .u32 (bits .xor .u32 a b), .bool true, .agg #[.bool (decide (2147483648 ≤ (bits .xor .u32 a b))), .bool ((bits .xor .u32 a b) == 0), .bool sh, .bool f.v]]) ∧ Below w.heap.size w w' := by
  have HL : Hid (∀ w, Calls Try.prog 39 #[.int .i64 2, .int .u32 a, .int .u32 b] w fun e w' => e = .returned (.tuple #[.int .u32 (bits .xor .u32 a b), .bool true]) ∧ w' = w) := fun w => jlogic_2 a b w b0 b1
  have hr : 0 ≤ (bits .xor .u32 a b) ∧ (bits .xor .u32 a b) < 4294967296 := xor_range a b a0 a1 b0 b1
  generalize hW : bits .xor .u32 a b = W at *
  clear hW
  obtain ⟨r0, r1⟩ := hr
  obtain ⟨fn, fz, fc, fv⟩ := f
  simp only at *
  clear a0 a1 b0 b1
  have T3 : Hid (∀ o1 o2, Below w.heap.size w ((w.alloc o1).alloc o2)) := fun o1 o2 => ((Below.refl _ w).alloc (Nat.le_refl _) _).alloc (by simp) _
  have HS : Hid (∀ o l t, Bl ((w.alloc (.cells (l : List Value).toArray t)).alloc o) w.heap.size t l) := fun o l t => (Bl.new w t l).alloc o
  have HT : Hid (∀ o (l : List Value) t, Bl ((w.alloc o).alloc (.cells l.toArray t)) (w.heap.size + 1) t l) := fun o l t => by simpa using Bl.new (w.alloc o) t l
  go_enter Try.func22, Try.ntmps22
  go_wp2_with (first | (go_at_call 39; refine (HL.out _).mono ?_; rintro e w' ⟨rfl, rfl⟩))
  have S0 := HS.out (.cells #[.bool false, .bool false, .bool false, .bool false] 28) [.bool fn, .bool fz, .bool fc, .bool fv] 28
  have S1 := HT.out (.cells #[.bool fn, .bool fz, .bool fc, .bool fv] 28) [.bool false, .bool false, .bool false, .bool false] 28
  have S3 := T3.out (.cells #[.bool fn, .bool fz, .bool fc, .bool fv] 28) (.cells #[.bool false, .bool false, .bool false, .bool false] 28)
  clear T3 HS HT
  generalize ((w.alloc _).alloc _) = w2 at S0 S1 S3 ⊢
  obtain ⟨T1, T2, T0⟩ := put4 S1 S0 (by omega) (.bool (decide (2147483648 ≤ W))) (.bool (W == 0)) (.bool sh) (.bool fv)
  have T3 : Hid (Below _ _ _) := T0 w.heap.size w (by omega) S3
  have T2 : Hid (Bl _ _ _ _) := T2.drew
  obtain ⟨⟨c0, c1, c2, c3⟩, d0, d1, d2, d3⟩ := S1.four
  have k3 : Hid (w2.drew.cell? ⟨w.heap.size, 3, none⟩ = some (.bool fv)) := S0.drew.four.1.2.2.2
  clear T0 T1 S0 S1 S3
  go_region_held3 (fun w' => w'.cell? ⟨w.heap.size, 3, none⟩ = some (.bool fv)) (first | (with_reducible exact k3.out) | (with_reducible exact T2.out.four.1.2.2.2)) ((first | fail))
  go_wp2_with fail
  exact bodyPost_ret (v := .tuple #[.int .u32 W, .bool true, .agg #[.bool (decide (2147483648 ≤ W)), .bool (W == 0), .bool sh, .bool fv]]) (by simp [results, Try.results22, go_sem, c0, c1, c2, c3]) rfl ⟨rfl, below_drew T3.out⟩
set_option maxRecDepth 100000 in
set_option maxHeartbeats 1000000 in
theorem jdo_9 (a b : Int) (sh : Bool) (f : Fl) (w : World) (a0 : 0 ≤ a) (a1 : a < 4294967296) (b0 : 0 ≤ b) (b1 : b < 4294967296) :
    Calls Try.prog 22 #[.int .i64 9, .int .u32 a, .int .u32 b, .bool sh, .agg #[.bool f.n, .bool f.z, .bool f.c, .bool f.v]] w fun e w' => e = .returned (.tuple #[.int .u32 (bits .and .u32 a b), .bool false, .agg #[.bool (decide (2147483648 ≤ (bits .and .u32 a b))), .bool ((bits .and .u32 a b) == 0), .bool sh, .bool f.v]]) ∧ Below w.heap.size w w' := by
  have HL : Hid (∀ w, Calls Try.prog 39 #[.int .i64 9, .int .u32 a, .int .u32 b] w fun e w' => e = .returned (.tuple #[.int .u32 (bits .and .u32 a b), .bool true]) ∧ w' = w) := fun w => jlogic_9 a b w b0 b1
  have hr : 0 ≤ (bits .and .u32 a b) ∧ (bits .and .u32 a b) < 4294967296 := and_range a b a0 a1 b0 b1
  generalize hW : bits .and .u32 a b = W at *
  clear hW
  obtain ⟨r0, r1⟩ := hr
  obtain ⟨fn, fz, fc, fv⟩ := f
  simp only at *
  clear a0 a1 b0 b1
  have T3 : Hid (∀ o1 o2, Below w.heap.size w ((w.alloc o1).alloc o2)) := fun o1 o2 => ((Below.refl _ w).alloc (Nat.le_refl _) _).alloc (by simp) _
  have HS : Hid (∀ o l t, Bl ((w.alloc (.cells (l : List Value).toArray t)).alloc o) w.heap.size t l) := fun o l t => (Bl.new w t l).alloc o
  have HT : Hid (∀ o (l : List Value) t, Bl ((w.alloc o).alloc (.cells l.toArray t)) (w.heap.size + 1) t l) := fun o l t => by simpa using Bl.new (w.alloc o) t l
  go_enter Try.func22, Try.ntmps22
  go_wp2_with (first | (go_at_call 39; refine (HL.out _).mono ?_; rintro e w' ⟨rfl, rfl⟩))
  have S0 := HS.out (.cells #[.bool false, .bool false, .bool false, .bool false] 28) [.bool fn, .bool fz, .bool fc, .bool fv] 28
  have S1 := HT.out (.cells #[.bool fn, .bool fz, .bool fc, .bool fv] 28) [.bool false, .bool false, .bool false, .bool false] 28
  have S3 := T3.out (.cells #[.bool fn, .bool fz, .bool fc, .bool fv] 28) (.cells #[.bool false, .bool false, .bool false, .bool false] 28)
  clear T3 HS HT
  generalize ((w.alloc _).alloc _) = w2 at S0 S1 S3 ⊢
  obtain ⟨T1, T2, T0⟩ := put4 S1 S0 (by omega) (.bool (decide (2147483648 ≤ W))) (.bool (W == 0)) (.bool sh) (.bool fv)
  have T3 : Hid (Below _ _ _) := T0 w.heap.size w (by omega) S3
  have T2 : Hid (Bl _ _ _ _) := T2.drew
  obtain ⟨⟨c0, c1, c2, c3⟩, d0, d1, d2, d3⟩ := S1.four
  have k3 : Hid (w2.drew.cell? ⟨w.heap.size, 3, none⟩ = some (.bool fv)) := S0.drew.four.1.2.2.2
  clear T0 T1 S0 S1 S3
  go_region_held3 (fun w' => w'.cell? ⟨w.heap.size, 3, none⟩ = some (.bool fv)) (first | (with_reducible exact k3.out) | (with_reducible exact T2.out.four.1.2.2.2)) ((first | fail))
  go_wp2_with fail
  exact bodyPost_ret (v := .tuple #[.int .u32 W, .bool false, .agg #[.bool (decide (2147483648 ≤ W)), .bool (W == 0), .bool sh, .bool fv]]) (by simp [results, Try.results22, go_sem, c0, c1, c2, c3]) rfl ⟨rfl, below_drew T3.out⟩
set_option maxRecDepth 100000 in
set_option maxHeartbeats 1000000 in
theorem jdo_10 (a b : Int) (sh : Bool) (f : Fl) (w : World) (a0 : 0 ≤ a) (a1 : a < 4294967296) (b0 : 0 ≤ b) (b1 : b < 4294967296) :
    Calls Try.prog 22 #[.int .i64 10, .int .u32 a, .int .u32 b, .bool sh, .agg #[.bool f.n, .bool f.z, .bool f.c, .bool f.v]] w fun e w' => e = .returned (.tuple #[.int .u32 (bits .xor .u32 a b), .bool false, .agg #[.bool (decide (2147483648 ≤ (bits .xor .u32 a b))), .bool ((bits .xor .u32 a b) == 0), .bool sh, .bool f.v]]) ∧ Below w.heap.size w w' := by
  have HL : Hid (∀ w, Calls Try.prog 39 #[.int .i64 10, .int .u32 a, .int .u32 b] w fun e w' => e = .returned (.tuple #[.int .u32 (bits .xor .u32 a b), .bool true]) ∧ w' = w) := fun w => jlogic_10 a b w b0 b1
  have hr : 0 ≤ (bits .xor .u32 a b) ∧ (bits .xor .u32 a b) < 4294967296 := xor_range a b a0 a1 b0 b1
  generalize hW : bits .xor .u32 a b = W at *
  clear hW
  obtain ⟨r0, r1⟩ := hr
  obtain ⟨fn, fz, fc, fv⟩ := f
  simp only at *
  clear a0 a1 b0 b1
  have T3 : Hid (∀ o1 o2, Below w.heap.size w ((w.alloc o1).alloc o2)) := fun o1 o2 => ((Below.refl _ w).alloc (Nat.le_refl _) _).alloc (by simp) _
  have HS : Hid (∀ o l t, Bl ((w.alloc (.cells (l : List Value).toArray t)).alloc o) w.heap.size t l) := fun o l t => (Bl.new w t l).alloc o
  have HT : Hid (∀ o (l : List Value) t, Bl ((w.alloc o).alloc (.cells l.toArray t)) (w.heap.size + 1) t l) := fun o l t => by simpa using Bl.new (w.alloc o) t l
  go_enter Try.func22, Try.ntmps22
  go_wp2_with (first | (go_at_call 39; refine (HL.out _).mono ?_; rintro e w' ⟨rfl, rfl⟩))
  have S0 := HS.out (.cells #[.bool false, .bool false, .bool false, .bool false] 28) [.bool fn, .bool fz, .bool fc, .bool fv] 28
  have S1 := HT.out (.cells #[.bool fn, .bool fz, .bool fc, .bool fv] 28) [.bool false, .bool false, .bool false, .bool false] 28
  have S3 := T3.out (.cells #[.bool fn, .bool fz, .bool fc, .bool fv] 28) (.cells #[.bool false, .bool false, .bool false, .bool false] 28)
  clear T3 HS HT
  generalize ((w.alloc _).alloc _) = w2 at S0 S1 S3 ⊢
  obtain ⟨T1, T2, T0⟩ := put4 S1 S0 (by omega) (.bool (decide (2147483648 ≤ W))) (.bool (W == 0)) (.bool sh) (.bool fv)
  have T3 : Hid (Below _ _ _) := T0 w.heap.size w (by omega) S3
  have T2 : Hid (Bl _ _ _ _) := T2.drew
  obtain ⟨⟨c0, c1, c2, c3⟩, d0, d1, d2, d3⟩ := S1.four
  have k3 : Hid (w2.drew.cell? ⟨w.heap.size, 3, none⟩ = some (.bool fv)) := S0.drew.four.1.2.2.2
  clear T0 T1 S0 S1 S3
  go_region_held3 (fun w' => w'.cell? ⟨w.heap.size, 3, none⟩ = some (.bool fv)) (first | (with_reducible exact k3.out) | (with_reducible exact T2.out.four.1.2.2.2)) ((first | fail))
  go_wp2_with fail
  exact bodyPost_ret (v := .tuple #[.int .u32 W, .bool false, .agg #[.bool (decide (2147483648 ≤ W)), .bool (W == 0), .bool sh, .bool fv]]) (by simp [results, Try.results22, go_sem, c0, c1, c2, c3]) rfl ⟨rfl, below_drew T3.out⟩
set_option maxRecDepth 100000 in
set_option maxHeartbeats 1000000 in
theorem jdo_13 (a b : Int) (sh : Bool) (f : Fl) (w : World) (a0 : 0 ≤ a) (a1 : a < 4294967296) (b0 : 0 ≤ b) (b1 : b < 4294967296) :
    Calls Try.prog 22 #[.int .i64 13, .int .u32 a, .int .u32 b, .bool sh, .agg #[.bool f.n, .bool f.z, .bool f.c, .bool f.v]] w fun e w' => e = .returned (.tuple #[.int .u32 (bits .or .u32 a b), .bool true, .agg #[.bool (decide (2147483648 ≤ (bits .or .u32 a b))), .bool ((bits .or .u32 a b) == 0), .bool sh, .bool f.v]]) ∧ Below w.heap.size w w' := by
  have HL : Hid (∀ w, Calls Try.prog 39 #[.int .i64 13, .int .u32 a, .int .u32 b] w fun e w' => e = .returned (.tuple #[.int .u32 (bits .or .u32 a b), .bool true]) ∧ w' = w) := fun w => jlogic_13 a b w b0 b1
  have hr : 0 ≤ (bits .or .u32 a b) ∧ (bits .or .u32 a b) < 4294967296 := or_range a b a0 a1 b0 b1
  generalize hW : bits .or .u32 a b = W at *
  clear hW
  obtain ⟨r0, r1⟩ := hr
  obtain ⟨fn, fz, fc, fv⟩ := f
  simp only at *
  clear a0 a1 b0 b1
  have T3 : Hid (∀ o1 o2, Below w.heap.size w ((w.alloc o1).alloc o2)) := fun o1 o2 => ((Below.refl _ w).alloc (Nat.le_refl _) _).alloc (by simp) _
  have HS : Hid (∀ o l t, Bl ((w.alloc (.cells (l : List Value).toArray t)).alloc o) w.heap.size t l) := fun o l t => (Bl.new w t l).alloc o
  have HT : Hid (∀ o (l : List Value) t, Bl ((w.alloc o).alloc (.cells l.toArray t)) (w.heap.size + 1) t l) := fun o l t => by simpa using Bl.new (w.alloc o) t l
  go_enter Try.func22, Try.ntmps22
  go_wp2_with (first | (go_at_call 39; refine (HL.out _).mono ?_; rintro e w' ⟨rfl, rfl⟩))
  have S0 := HS.out (.cells #[.bool false, .bool false, .bool false, .bool false] 28) [.bool fn, .bool fz, .bool fc, .bool fv] 28
  have S1 := HT.out (.cells #[.bool fn, .bool fz, .bool fc, .bool fv] 28) [.bool false, .bool false, .bool false, .bool false] 28
  have S3 := T3.out (.cells #[.bool fn, .bool fz, .bool fc, .bool fv] 28) (.cells #[.bool false, .bool false, .bool false, .bool false] 28)
  clear T3 HS HT
  generalize ((w.alloc _).alloc _) = w2 at S0 S1 S3 ⊢
  obtain ⟨T1, T2, T0⟩ := put4 S1 S0 (by omega) (.bool (decide (2147483648 ≤ W))) (.bool (W == 0)) (.bool sh) (.bool fv)
  have T3 : Hid (Below _ _ _) := T0 w.heap.size w (by omega) S3
  have T2 : Hid (Bl _ _ _ _) := T2.drew
  obtain ⟨⟨c0, c1, c2, c3⟩, d0, d1, d2, d3⟩ := S1.four
  have k3 : Hid (w2.drew.cell? ⟨w.heap.size, 3, none⟩ = some (.bool fv)) := S0.drew.four.1.2.2.2
  clear T0 T1 S0 S1 S3
  go_region_held3 (fun w' => w'.cell? ⟨w.heap.size, 3, none⟩ = some (.bool fv)) (first | (with_reducible exact k3.out) | (with_reducible exact T2.out.four.1.2.2.2)) ((first | fail))
  go_wp2_with fail
  exact bodyPost_ret (v := .tuple #[.int .u32 W, .bool true, .agg #[.bool (decide (2147483648 ≤ W)), .bool (W == 0), .bool sh, .bool fv]]) (by simp [results, Try.results22, go_sem, c0, c1, c2, c3]) rfl ⟨rfl, below_drew T3.out⟩
set_option maxRecDepth 100000 in
set_option maxHeartbeats 1000000 in
theorem jdo_14 (a b : Int) (sh : Bool) (f : Fl) (w : World) (a0 : 0 ≤ a) (a1 : a < 4294967296) (b0 : 0 ≤ b) (b1 : b < 4294967296) :
    Calls Try.prog 22 #[.int .i64 14, .int .u32 a, .int .u32 b, .bool sh, .agg #[.bool f.n, .bool f.z, .bool f.c, .bool f.v]] w fun e w' => e = .returned (.tuple #[.int .u32 (b), .bool true, .agg #[.bool (decide (2147483648 ≤ b)), .bool (b == 0), .bool sh, .bool f.v]]) ∧ Below w.heap.size w w' := by
  have HL : Hid (∀ w, Calls Try.prog 39 #[.int .i64 14, .int .u32 a, .int .u32 b] w fun e w' => e = .returned (.tuple #[.int .u32 (b), .bool true]) ∧ w' = w) := fun w => jlogic_14 a b w b0 b1
  have hr : 0 ≤ b ∧ b < 4294967296 := ⟨b0, b1⟩
  obtain ⟨W, hW⟩ : ∃ W, W = b := ⟨b, rfl⟩
  subst hW
  obtain ⟨r0, r1⟩ := hr
  obtain ⟨fn, fz, fc, fv⟩ := f
  simp only at *
  clear a0 a1 b0 b1
  have T3 : Hid (∀ o1 o2, Below w.heap.size w ((w.alloc o1).alloc o2)) := fun o1 o2 => ((Below.refl _ w).alloc (Nat.le_refl _) _).alloc (by simp) _
  have HS : Hid (∀ o l t, Bl ((w.alloc (.cells (l : List Value).toArray t)).alloc o) w.heap.size t l) := fun o l t => (Bl.new w t l).alloc o
  have HT : Hid (∀ o (l : List Value) t, Bl ((w.alloc o).alloc (.cells l.toArray t)) (w.heap.size + 1) t l) := fun o l t => by simpa using Bl.new (w.alloc o) t l
  go_enter Try.func22, Try.ntmps22
  go_wp2_with (first | (go_at_call 39; refine (HL.out _).mono ?_; rintro e w' ⟨rfl, rfl⟩))
  have S0 := HS.out (.cells #[.bool false, .bool false, .bool false, .bool false] 28) [.bool fn, .bool fz, .bool fc, .bool fv] 28
  have S1 := HT.out (.cells #[.bool fn, .bool fz, .bool fc, .bool fv] 28) [.bool false, .bool false, .bool false, .bool false] 28
  have S3 := T3.out (.cells #[.bool fn, .bool fz, .bool fc, .bool fv] 28) (.cells #[.bool false, .bool false, .bool false, .bool false] 28)
  clear T3 HS HT
  generalize ((w.alloc _).alloc _) = w2 at S0 S1 S3 ⊢
  obtain ⟨T1, T2, T0⟩ := put4 S1 S0 (by omega) (.bool (decide (2147483648 ≤ W))) (.bool (W == 0)) (.bool sh) (.bool fv)
  have T3 : Hid (Below _ _ _) := T0 w.heap.size w (by omega) S3
  have T2 : Hid (Bl _ _ _ _) := T2.drew
  obtain ⟨⟨c0, c1, c2, c3⟩, d0, d1, d2, d3⟩ := S1.four
  have k3 : Hid (w2.drew.cell? ⟨w.heap.size, 3, none⟩ = some (.bool fv)) := S0.drew.four.1.2.2.2
  clear T0 T1 S0 S1 S3
  go_region_held3 (fun w' => w'.cell? ⟨w.heap.size, 3, none⟩ = some (.bool fv)) (first | (with_reducible exact k3.out) | (with_reducible exact T2.out.four.1.2.2.2)) ((first | fail))
  go_wp2_with fail
  exact bodyPost_ret (v := .tuple #[.int .u32 W, .bool true, .agg #[.bool (decide (2147483648 ≤ W)), .bool (W == 0), .bool sh, .bool fv]]) (by simp [results, Try.results22, go_sem, c0, c1, c2, c3]) rfl ⟨rfl, below_drew T3.out⟩
set_option maxRecDepth 100000 in
set_option maxHeartbeats 1000000 in
theorem jdo_15 (a b : Int) (sh : Bool) (f : Fl) (w : World) (a0 : 0 ≤ a) (a1 : a < 4294967296) (b0 : 0 ≤ b) (b1 : b < 4294967296) :
    Calls Try.prog 22 #[.int .i64 15, .int .u32 a, .int .u32 b, .bool sh, .agg #[.bool f.n, .bool f.z, .bool f.c, .bool f.v]] w fun e w' => e = .returned (.tuple #[.int .u32 (bits .andNot .u32 a b), .bool true, .agg #[.bool (decide (2147483648 ≤ (bits .andNot .u32 a b))), .bool ((bits .andNot .u32 a b) == 0), .bool sh, .bool f.v]]) ∧ Below w.heap.size w w' := by
  have HL : Hid (∀ w, Calls Try.prog 39 #[.int .i64 15, .int .u32 a, .int .u32 b] w fun e w' => e = .returned (.tuple #[.int .u32 (bits .andNot .u32 a b), .bool true]) ∧ w' = w) := fun w => jlogic_15 a b w b0 b1
  have hr : 0 ≤ (bits .andNot .u32 a b) ∧ (bits .andNot .u32 a b) < 4294967296 := andNot_range a b a0 a1 b0 b1
  generalize hW : bits .andNot .u32 a b = W at *
  clear hW
  obtain ⟨r0, r1⟩ := hr
  obtain ⟨fn, fz, fc, fv⟩ := f
  simp only at *
  clear a0 a1 b0 b1
  have T3 : Hid (∀ o1 o2, Below w.heap.size w ((w.alloc o1).alloc o2)) := fun o1 o2 => ((Below.refl _ w).alloc (Nat.le_refl _) _).alloc (by simp) _
  have HS : Hid (∀ o l t, Bl ((w.alloc (.cells (l : List Value).toArray t)).alloc o) w.heap.size t l) := fun o l t => (Bl.new w t l).alloc o
  have HT : Hid (∀ o (l : List Value) t, Bl ((w.alloc o).alloc (.cells l.toArray t)) (w.heap.size + 1) t l) := fun o l t => by simpa using Bl.new (w.alloc o) t l
  go_enter Try.func22, Try.ntmps22
  go_wp2_with (first | (go_at_call 39; refine (HL.out _).mono ?_; rintro e w' ⟨rfl, rfl⟩))
  have S0 := HS.out (.cells #[.bool false, .bool false, .bool false, .bool false] 28) [.bool fn, .bool fz, .bool fc, .bool fv] 28
  have S1 := HT.out (.cells #[.bool fn, .bool fz, .bool fc, .bool fv] 28) [.bool false, .bool false, .bool false, .bool false] 28
  have S3 := T3.out (.cells #[.bool fn, .bool fz, .bool fc, .bool fv] 28) (.cells #[.bool false, .bool false, .bool false, .bool false] 28)
  clear T3 HS HT
  generalize ((w.alloc _).alloc _) = w2 at S0 S1 S3 ⊢
  obtain ⟨T1, T2, T0⟩ := put4 S1 S0 (by omega) (.bool (decide (2147483648 ≤ W))) (.bool (W == 0)) (.bool sh) (.bool fv)
  have T3 : Hid (Below _ _ _) := T0 w.heap.size w (by omega) S3
  have T2 : Hid (Bl _ _ _ _) := T2.drew
  obtain ⟨⟨c0, c1, c2, c3⟩, d0, d1, d2, d3⟩ := S1.four
  have k3 : Hid (w2.drew.cell? ⟨w.heap.size, 3, none⟩ = some (.bool fv)) := S0.drew.four.1.2.2.2
  clear T0 T1 S0 S1 S3
  go_region_held3 (fun w' => w'.cell? ⟨w.heap.size, 3, none⟩ = some (.bool fv)) (first | (with_reducible exact k3.out) | (with_reducible exact T2.out.four.1.2.2.2)) ((first | fail))
  go_wp2_with fail
  exact bodyPost_ret (v := .tuple #[.int .u32 W, .bool true, .agg #[.bool (decide (2147483648 ≤ W)), .bool (W == 0), .bool sh, .bool fv]]) (by simp [results, Try.results22, go_sem, c0, c1, c2, c3]) rfl ⟨rfl, below_drew T3.out⟩
set_option maxRecDepth 100000 in
set_option maxHeartbeats 1000000 in
theorem jdo_16 (a b : Int) (sh : Bool) (f : Fl) (w : World) (a0 : 0 ≤ a) (a1 : a < 4294967296) (b0 : 0 ≤ b) (b1 : b < 4294967296) :
    Calls Try.prog 22 #[.int .i64 16, .int .u32 a, .int .u32 b, .bool sh, .agg #[.bool f.n, .bool f.z, .bool f.c, .bool f.v]] w fun e w' => e = .returned (.tuple #[.int .u32 (nt b), .bool true, .agg #[.bool (decide (2147483648 ≤ (nt b))), .bool ((nt b) == 0), .bool sh, .bool f.v]]) ∧ Below w.heap.size w w' := by
  have HL : Hid (∀ w, Calls Try.prog 39 #[.int .i64 16, .int .u32 a, .int .u32 b] w fun e w' => e = .returned (.tuple #[.int .u32 (nt b), .bool true]) ∧ w' = w) := fun w => jlogic_16 a b w b0 b1
  have hr : 0 ≤ (nt b) ∧ (nt b) < 4294967296 := nt_range b b0 b1
  generalize hW : nt b = W at *
  clear hW
  obtain ⟨r0, r1⟩ := hr
  obtain ⟨fn, fz, fc, fv⟩ := f
  simp only at *
  clear a0 a1 b0 b1
  have T3 : Hid (∀ o1 o2, Below w.heap.size w ((w.alloc o1).alloc o2)) := fun o1 o2 => ((Below.refl _ w).alloc (Nat.le_refl _) _).alloc (by simp) _
  have HS : Hid (∀ o l t, Bl ((w.alloc (.cells (l : List Value).toArray t)).alloc o) w.heap.size t l) := fun o l t => (Bl.new w t l).alloc o
  have HT : Hid (∀ o (l : List Value) t, Bl ((w.alloc o).alloc (.cells l.toArray t)) (w.heap.size + 1) t l) := fun o l t => by simpa using Bl.new (w.alloc o) t l
  go_enter Try.func22, Try.ntmps22
  go_wp2_with (first | (go_at_call 39; refine (HL.out _).mono ?_; rintro e w' ⟨rfl, rfl⟩))
  have S0 := HS.out (.cells #[.bool false, .bool false, .bool false, .bool false] 28) [.bool fn, .bool fz, .bool fc, .bool fv] 28
  have S1 := HT.out (.cells #[.bool fn, .bool fz, .bool fc, .bool fv] 28) [.bool false, .bool false, .bool false, .bool false] 28
  have S3 := T3.out (.cells #[.bool fn, .bool fz, .bool fc, .bool fv] 28) (.cells #[.bool false, .bool false, .bool false, .bool false] 28)
  clear T3 HS HT
  generalize ((w.alloc _).alloc _) = w2 at S0 S1 S3 ⊢
  obtain ⟨T1, T2, T0⟩ := put4 S1 S0 (by omega) (.bool (decide (2147483648 ≤ W))) (.bool (W == 0)) (.bool sh) (.bool fv)
  have T3 : Hid (Below _ _ _) := T0 w.heap.size w (by omega) S3
  have T2 : Hid (Bl _ _ _ _) := T2.drew
  obtain ⟨⟨c0, c1, c2, c3⟩, d0, d1, d2, d3⟩ := S1.four
  have k3 : Hid (w2.drew.cell? ⟨w.heap.size, 3, none⟩ = some (.bool fv)) := S0.drew.four.1.2.2.2
  clear T0 T1 S0 S1 S3
  go_region_held3 (fun w' => w'.cell? ⟨w.heap.size, 3, none⟩ = some (.bool fv)) (first | (with_reducible exact k3.out) | (with_reducible exact T2.out.four.1.2.2.2)) ((first | fail))
  go_wp2_with fail
  exact bodyPost_ret (v := .tuple #[.int .u32 W, .bool true, .agg #[.bool (decide (2147483648 ≤ W)), .bool (W == 0), .bool sh, .bool fv]]) (by simp [results, Try.results22, go_sem, c0, c1, c2, c3]) rfl ⟨rfl, below_drew T3.out⟩
end Go.Proofs.Ytdelcknpaldngab
