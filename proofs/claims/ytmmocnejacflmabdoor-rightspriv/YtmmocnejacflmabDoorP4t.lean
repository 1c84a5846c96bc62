import Derived.Test.YtmmocnejacflmabDoorPb
namespace Go.Proofs.YtmmocnejacflmabDoor
open Go.RowKit
set_option linter.unusedVariables false
set_option linter.unusedSimpArgs false
set_option maxRecDepth 100000 in
set_option maxHeartbeats 16000000 in
theorem priv_4t (ap bt sz dom P B d0 R : Int) (ng xn : Bool) (w : World) (hT : TV w) (kd : Nat → Bool → Int → Int) (X : Bool → Int → Bool) 
    (hP : bits .and .i64 ap 7 = P) (hB : bits .and .u32 bt 63 = B) (hs : IntKind.i64.wrap (1 + bits .and .i64 sz 3) = 4) (hd0 : bits .and .i64 dom 15 = d0)
    (b1 : bits .and .i64 P 1 = R) (q1 : (R == 0) = false)
    (HC0 : ∀ (n : Nat), n < 4 → ∀ (priv : Bool) (k : Int), ∃ ul ud : Int, ∀ w, TC w → Calls Tryd.prog 12 #[.agg #[.int .i64 4, .int .u32 0, .int .u64 0, .int .i64 0, .int .i64 P, .int .u32 B, .bool ng, .bool xn], .agg #[.bool true, .bool false, .bool true, .int .i64 0, .bool false, .bool false, .int .u64 0, .int .u64 0, .int .u32 (n : Int), .int .u32 0, .int .u32 0, .int .i64 0], .bool priv, .int .i64 k] w fun e w' => e = .returned (.agg #[.int .i64 (kd n priv k), .int .i64 ul, .int .i64 ud]) ∧ Below w.heap.size w w')
    (HA0 : ∀ (priv : Bool) (k : Int) w, TP w → Calls Tryd.prog 13 #[.agg #[.int .i64 P, .int .u32 B, .bool ng, .bool xn], .bool true, .bool priv, .int .i64 k] w fun e w' => e = .returned (.bool (X priv k)) ∧ Below w.heap.size w w')
    (hkn : ∀ priv k, kd 0 priv k = 8 ∧ kd 2 priv k = 8 ∧ kd 3 priv k = 0 ∧ kd 1 priv k = if X priv k then 0 else 9) (hle : ∀ k, X false k = true → X true k = true)
    : Calls Tryd.prog 4 #[.agg #[.int .i64 ap, .int .u32 bt, .bool ng, .bool xn], .int .i64 sz, .int .i64 dom, .bool true] w fun e w' => e = .returned (.bool true) ∧ Below w.heap.size w w' := by
  have HC := hidZ HC0
  have HA := hidZ HA0
  have Hkn := hidZ hkn
  have Hle := hidZ hle
  have HT := hidZ hT
  have HW0 := hidZ (below_new w (.cells #[.int .i64 ap, .int .u32 bt, .bool ng, .bool xn] 24))
  have HL0 := hidZ (Bl.new w 24 [.int .i64 ap, .int .u32 bt, .bool ng, .bool xn])
  clear HC0 HA0 hT  hkn hle
  go_enter Tryd.func4, Tryd.ntmps4
  go_wp2_with (fail)
  go_at_call 11
  refine (alive_any _ ⟨(HT.out.below HW0.out).p, (HT.out.below HW0.out).f⟩).mono ?_
  rintro e w1 ⟨rfl, hb⟩
  have HW1 := hidZ (Below.step HW0.out hb)
  have HL1 := hidZ (HL0.out.below hb)
  clear hb HW0 HL0
  have c0 := HL1.out.cell
  have f0 := HL1.out.frozen
  have l0 := HL1.out.lt
  have n0 : ¬ (w.heap.size = w1.heap.size) := by omega
  have HX0 : Hid (PX w (((w1.setCell ⟨w.heap.size, 0, none⟩ (.int .i64 P)).setCell ⟨w.heap.size, 1, none⟩ (.int .u32 B)).alloc (.cells #[.int .i64 4, .int .u32 0, .int .u64 0, .int .i64 0, .int .i64 P, .int .u32 B, .bool ng, .bool xn] 35)) w1.heap.size [.int .i64 P, .int .u32 B, .bool ng, .bool xn] [.int .i64 4, .int .u32 0, .int .u64 0, .int .i64 0, .int .i64 P, .int .u32 B, .bool ng, .bool xn]) := by
    have h := Bl.new ((w1.setCell ⟨w.heap.size, 0, none⟩ (.int .i64 P)).setCell ⟨w.heap.size, 1, none⟩ (.int .u32 B)) 35 [.int .i64 4, .int .u32 0, .int .u64 0, .int .i64 0, .int .i64 P, .int .u32 B, .bool ng, .bool xn]
    rw [show ((w1.setCell ⟨w.heap.size, 0, none⟩ (.int .i64 P)).setCell ⟨w.heap.size, 1, none⟩ (.int .u32 B)).heap.size = w1.heap.size by simp] at h
    have hB2 : Below w.heap.size w ((w1.setCell ⟨w.heap.size, 0, none⟩ (.int .i64 P)).setCell ⟨w.heap.size, 1, none⟩ (.int .u32 B)) := Below.setCell (Below.setCell HW1.out (Nat.le_refl _) _) (Nat.le_refl _) _
    exact ⟨Below.alloc hB2 hB2.size _, (Bl.setP (Bl.setP HL1.out 0 _) 1 _).below (below_new _ _), h⟩
  go_wp2
  generalize w1.heap.size = p1 at *
  clear c0 f0 l0 n0 HW1 HL1
  go_loopw [10] (fun i wr => ∃ (n : Nat), n ≤ 4 ∧ i = .int .u32 n ∧ PX w wr p1 [.int .i64 P, .int .u32 B, .bool ng, .bool xn] [.int .i64 4, .int .u32 0, .int .u64 0, .int .i64 0, .int .i64 P, .int .u32 B, .bool ng, .bool xn]) (fun i _ => 4 - (intOf i).toNat)
  case atStart => exact ⟨0, by omega, rfl, HX0.out⟩
  case round =>
    obtain ⟨n, hn, rfl, hX⟩ := hrel
    have HX1 := hidZ hX
    clear hX HX0
    by_cases h : n < 4
    · have hi : (n : Int) < 4 := by omega
      have hwn : IntKind.u32.wrap ((n : Int) + 1) = ((n + 1 : Nat) : Int) := by rw [IntKind.wrap_u32]; omega
      have hsh : (n : Int) % 4294967296 = (n : Int) := by omega
      have HY0 : Hid (PC w (wr.alloc (.cells #[.bool true, .bool false, .bool true, .int .i64 0, .bool false, .bool false, .int .u64 0, .int .u64 0, .int .u32 (n : Int), .int .u32 0, .int .u32 0, .int .i64 0] 37)) p1 wr.heap.size [.int .i64 P, .int .u32 B, .bool ng, .bool xn] [.int .i64 4, .int .u32 0, .int .u64 0, .int .i64 0, .int .i64 P, .int .u32 B, .bool ng, .bool xn] [.bool true, .bool false, .bool true, .int .i64 0, .bool false, .bool false, .int .u64 0, .int .u64 0, .int .u32 (n : Int), .int .u32 0, .int .u32 0, .int .i64 0]) := ⟨HX1.out.step (below_new _ _), Bl.new _ _ _⟩
      clear hn HX1
      go_wp2
      try rw [hsh]
      clear hsh
      generalize wr.heap.size = p2 at *
      go_loopw [12] (fun i wq => ∃ (k : Nat), 1 ≤ k ∧ k ≤ 4 ∧ i = .int .i64 k ∧ PC w wq p1 p2 [.int .i64 P, .int .u32 B, .bool ng, .bool xn] [.int .i64 4, .int .u32 0, .int .u64 0, .int .i64 0, .int .i64 P, .int .u32 B, .bool ng, .bool xn] [.bool true, .bool false, .bool true, .int .i64 0, .bool false, .bool false, .int .u64 0, .int .u64 0, .int .u32 (n : Int), .int .u32 0, .int .u32 0, .int .i64 0]) (fun i _ => 4 - (intOf i).toNat)
      case atStart => exact ⟨1, by omega, by omega, rfl, HY0.out⟩
      case round =>
        obtain ⟨k, hk1, hk, rfl, hY⟩ := hrel
        have HY1 := hidZ hY
        clear hY HY0
        by_cases h2 : k < 4
        · have hi2 : (k : Int) ≤ 3 := by omega
          have hwk : IntKind.i64.wrap ((k : Int) + 1) = ((k + 1 : Nat) : Int) := by rw [IntKind.wrap_i64]; omega
          clear hk
          obtain ⟨ul, ud, HU0⟩ := HC.out n h false k
          obtain ⟨vl, vd, HV0⟩ := HC.out n h true k
          have en := Hkn.out
          clear Hkn
          rcases (show n = 0 ∨ n = 1 ∨ n = 2 ∨ n = 3 by omega) with hn | hn | hn | hn
          · have e8 : ∀ priv k, kd n priv k = 8 := fun priv k => by rw [hn]; exact (en _ _).1
            rw [e8] at HU0 HV0
            have z0 : ((n : Int) == 0) = true := by simp; omega
            have z1 : ((n : Int) == 1) = false := by simp; omega
            have z2 : ((n : Int) == 2) = false := by simp; omega
            have z3 : ((n : Int) == 3) = false := by simp; omega
            clear en e8 Hle HA hn hi h
            have HU := hidZ HU0
            have HV := hidZ HV0
            clear HU0 HV0 HC
            have c1 := HY1.out.t.cell
            have c2 := HY1.out.c.cell
            go_wp2_with (fail)
            go_at_call 12
            refine (HU.out _ (HT.out.below HY1.out.bel).toTC).mono ?_
            rintro e w2 ⟨rfl, hb⟩
            have HY2 := hidZ (HY1.out.step hb)
            clear hb HY1 c1 c2
            have HZ2 := hidZ (HY2.out.step (below_new w2 (.cells #[.int .i64 8, .int .i64 ul, .int .i64 ud] 39)))
            have HE2 := hidZ (Bl.new w2 39 [.int .i64 8, .int .i64 ul, .int .i64 ud])
            have c1 := HY2.out.t.cell
            have l1 : p1 < w2.heap.size := HY2.out.t.lt
            have c2 := HY2.out.c.cell
            have l2 : p2 < w2.heap.size := HY2.out.c.lt
            have m1 : ¬ (p1 = w2.heap.size) := by omega
            have m2 : ¬ (p2 = w2.heap.size) := by omega
            go_wp2_with (fail)
            go_at_call 12
            refine (HV.out _ (HT.out.below HZ2.out.bel).toTC).mono ?_
            rintro e w3 ⟨rfl, hb⟩
            have HZ3 := hidZ (HZ2.out.step hb)
            have HE3 := hidZ (HE2.out.below hb)
            clear hb HZ2 HE2 HY2 c1 c2 l1 l2 m1 m2 HU HV
            have HS3 : Hid (PU w (w3.alloc (.cells #[.int .i64 8, .int .i64 vl, .int .i64 vd] 39)) p1 p2 w2.heap.size w3.heap.size [.int .i64 P, .int .u32 B, .bool ng, .bool xn] [.int .i64 4, .int .u32 0, .int .u64 0, .int .i64 0, .int .i64 P, .int .u32 B, .bool ng, .bool xn] [.bool true, .bool false, .bool true, .int .i64 0, .bool false, .bool false, .int .u64 0, .int .u64 0, .int .u32 (n : Int), .int .u32 0, .int .u32 0, .int .i64 0] [.int .i64 8, .int .i64 ul, .int .i64 ud] [.int .i64 8, .int .i64 vl, .int .i64 vd]) := ⟨HZ3.out.step (below_new _ _), HE3.out.below (below_new _ _), Bl.new _ _ _⟩
            have c0 := HZ3.out.l.cell
            have l0 : w.heap.size < w3.heap.size := HZ3.out.l.lt
            have c1 := HE3.out.cell
            have l1 : w2.heap.size < w3.heap.size := HE3.out.lt
            have m0 : ¬ (w.heap.size = w3.heap.size) := by omega
            have m1 : ¬ (w2.heap.size = w3.heap.size) := by omega
            have HS := hidZ HS3.out.drew
            go_wp2
            clear c0 l0 c1 l1 m0 m1 HS3 HZ3 HE3
            refine wp_region_held_drew (S := fun w' => w'.cell? ⟨w.heap.size, 0, none⟩ = some (.int .i64 P) ∧ w'.cell? ⟨w.heap.size, 1, none⟩ = some (.int .u32 B) ∧ w'.cell? ⟨w.heap.size, 2, none⟩ = some (.bool ng) ∧ w'.cell? ⟨w.heap.size, 3, none⟩ = some (.bool xn) ∧ w'.cell? ⟨w2.heap.size, 0, none⟩ = some (.int .i64 8) ∧ w'.cell? ⟨w3.heap.size, 0, none⟩ = some (.int .i64 8)) (by kernel_rfl) (by (try dsimp only); exact ⟨HS.out.l.cell 0, HS.out.l.cell 1, HS.out.l.cell 2, HS.out.l.cell 3, HS.out.u.cell 0, HS.out.v.cell 0⟩) (fun hHeld => ?_)
            refine wpAnyH_take (i := 0) (oi := { dst := some 122, op := Op.move (Operand.tmp 10), type := 22, pos := _, after := #[], guard := none }) (v := ?_) rfl (by kernel_rfl) (by kernel_rfl) (by kernel_rfl) (fun _ _ _ h => h) (Or.inl ⟨by rfl, ?_⟩) (by assumption) ?_
            rotate_left
            · (intro w hSw; (try dsimp only at hSw); go_simp; try with_reducible rfl)
            simp only [Act.put, List.setIfInBounds_toArray, List.set_cons_zero, List.set_cons_succ]
            refine wpAnyH_take (i := 1) (oi := { dst := some 123, op := Op.binOp BinOp.eql 22 (Operand.tmp 122) (Operand.const (Value.int IntKind.u32 1)) 22, type := 4, pos := _, after := #[{ on := 0, ground := Ground.data }], guard := none }) (v := ?_) rfl (by kernel_rfl) (by kernel_rfl) (by kernel_rfl) (fun _ _ _ h => h) (Or.inl ⟨by rfl, ?_⟩) (by assumption) ?_
            rotate_left
            · (intro w hSw; (try dsimp only at hSw); go_simp; try with_reducible rfl)
            simp only [Act.put, List.setIfInBounds_toArray, List.set_cons_zero, List.set_cons_succ]
            refine wpAnyH_take (i := 2) (oi := { dst := some 124, op := Op.move (Operand.tmp 123), type := 4, pos := _, after := #[{ on := 1, ground := Ground.data }], guard := none }) (v := ?_) rfl (by kernel_rfl) (by kernel_rfl) (by kernel_rfl) (fun _ _ _ h => h) (Or.inl ⟨by rfl, ?_⟩) (by assumption) ?_
            rotate_left
            · (intro w hSw; (try dsimp only at hSw); go_simp; try with_reducible rfl)
            simp only [Act.put, List.setIfInBounds_toArray, List.set_cons_zero, List.set_cons_succ]
            refine wpAnyH_take (i := 3) (oi := { dst := some 125, op := Op.fieldAddr 39 (Operand.tmp 13) 0, type := 0, pos := _, after := #[{ on := 2, ground := Ground.guard }], guard := some (2, true) }) (v := undef) rfl (by kernel_rfl) (by kernel_rfl) (by kernel_rfl) (fun _ _ _ h => h) (Or.inr ⟨by rfl, rfl⟩) (by assumption) ?_
            simp only [Act.put, List.setIfInBounds_toArray, List.set_cons_zero, List.set_cons_succ]
            refine wpAnyH_take (i := 4) (oi := { dst := some 126, op := Op.load 3 (Operand.tmp 125), type := 3, pos := _, after := #[{ on := 3, ground := Ground.data }, { on := 2, ground := Ground.guard }], guard := some (2, true) }) (v := undef) rfl (by kernel_rfl) (by kernel_rfl) (by kernel_rfl) (fun _ _ _ h => h) (Or.inr ⟨by rfl, rfl⟩) (by assumption) ?_
            simp only [Act.put, List.setIfInBounds_toArray, List.set_cons_zero, List.set_cons_succ]
            refine wpAnyH_take (i := 5) (oi := { dst := some 127, op := Op.binOp BinOp.eql 3 (Operand.tmp 126) (Operand.const (Value.int IntKind.i64 0)) 3, type := 4, pos := _, after := #[{ on := 4, ground := Ground.data }, { on := 2, ground := Ground.guard }], guard := some (2, true) }) (v := undef) rfl (by kernel_rfl) (by kernel_rfl) (by kernel_rfl) (fun _ _ _ h => h) (Or.inr ⟨by rfl, rfl⟩) (by assumption) ?_
            simp only [Act.put, List.setIfInBounds_toArray, List.set_cons_zero, List.set_cons_succ]
            refine wpAnyH_take (i := 6) (oi := { dst := some 128, op := Op.load 24 (Operand.tmp 4), type := 24, pos := _, after := #[{ on := 2, ground := Ground.guard }], guard := some (2, true) }) (v := undef) rfl (by kernel_rfl) (by kernel_rfl) (by kernel_rfl) (fun _ _ _ h => h) (Or.inr ⟨by rfl, rfl⟩) (by assumption) ?_
            simp only [Act.put, List.setIfInBounds_toArray, List.set_cons_zero, List.set_cons_succ]
            refine wpAnyH_take (i := 7) (oi := { dst := some 129, op := Op.move (Operand.tmp 3), type := 4, pos := _, after := #[{ on := 2, ground := Ground.guard }], guard := some (2, true) }) (v := undef) rfl (by kernel_rfl) (by kernel_rfl) (by kernel_rfl) (fun _ _ _ h => h) (Or.inr ⟨by rfl, rfl⟩) (by assumption) ?_
            simp only [Act.put, List.setIfInBounds_toArray, List.set_cons_zero, List.set_cons_succ]
            refine wpAnyH_take (i := 8) (oi := { dst := some 130, op := Op.move (Operand.tmp 12), type := 3, pos := _, after := #[{ on := 2, ground := Ground.guard }], guard := some (2, true) }) (v := undef) rfl (by kernel_rfl) (by kernel_rfl) (by kernel_rfl) (fun _ _ _ h => h) (Or.inr ⟨by rfl, rfl⟩) (by assumption) ?_
            simp only [Act.put, List.setIfInBounds_toArray, List.set_cons_zero, List.set_cons_succ]
            refine wpAnyH_take (i := 9) (oi := { dst := some 131, op := Op.call { callee := Callee.value (Operand.func 13), args := #[Operand.tmp 128, Operand.tmp 129, Operand.const (Value.bool false), Operand.tmp 130], argTypes := #[24, 4, 4, 3] }, type := 4, pos := _, after := #[{ on := 6, ground := Ground.data }, { on := 7, ground := Ground.data }, { on := 8, ground := Ground.data }, { on := 2, ground := Ground.chain }, { on := 2, ground := Ground.guard }], guard := some (2, true) }) (v := undef) rfl (by kernel_rfl) (by kernel_rfl) (by kernel_rfl) (fun _ _ _ h => h) (Or.inr ⟨by rfl, rfl⟩) (by assumption) ?_
            simp only [Act.put, List.setIfInBounds_toArray, List.set_cons_zero, List.set_cons_succ]
            refine wpAnyH_take (i := 10) (oi := { dst := some 132, op := Op.binOp BinOp.neq 4 (Operand.tmp 127) (Operand.tmp 131) 4, type := 4, pos := _, after := #[{ on := 5, ground := Ground.data }, { on := 9, ground := Ground.data }, { on := 2, ground := Ground.guard }], guard := some (2, true) }) (v := undef) rfl (by kernel_rfl) (by kernel_rfl) (by kernel_rfl) (fun _ _ _ h => h) (Or.inr ⟨by rfl, rfl⟩) (by assumption) ?_
            simp only [Act.put, List.setIfInBounds_toArray, List.set_cons_zero, List.set_cons_succ]
            refine wpAnyH_take (i := 11) (oi := { dst := some 133, op := Op.move (Operand.tmp 132), type := 4, pos := _, after := #[{ on := 10, ground := Ground.data }, { on := 9, ground := Ground.chain }, { on := 2, ground := Ground.guard }], guard := some (2, true) }) (v := undef) rfl (by kernel_rfl) (by kernel_rfl) (by kernel_rfl) (fun _ _ _ h => h) (Or.inr ⟨by rfl, rfl⟩) (by assumption) ?_
            simp only [Act.put, List.setIfInBounds_toArray, List.set_cons_zero, List.set_cons_succ]
            refine wpAnyH_take (i := 12) (oi := { dst := some 134, op := Op.fieldAddr 39 (Operand.tmp 14) 0, type := 0, pos := _, after := #[{ on := 11, ground := Ground.guard }], guard := some (11, false) }) (v := undef) rfl (by kernel_rfl) (by kernel_rfl) (by kernel_rfl) (fun _ _ _ h => h) (Or.inr ⟨by rfl, rfl⟩) (by assumption) ?_
            simp only [Act.put, List.setIfInBounds_toArray, List.set_cons_zero, List.set_cons_succ]
            refine wpAnyH_take (i := 13) (oi := { dst := some 135, op := Op.load 3 (Operand.tmp 134), type := 3, pos := _, after := #[{ on := 12, ground := Ground.data }, { on := 11, ground := Ground.guard }], guard := some (11, false) }) (v := undef) rfl (by kernel_rfl) (by kernel_rfl) (by kernel_rfl) (fun _ _ _ h => h) (Or.inr ⟨by rfl, rfl⟩) (by assumption) ?_
            simp only [Act.put, List.setIfInBounds_toArray, List.set_cons_zero, List.set_cons_succ]
            refine wpAnyH_take (i := 14) (oi := { dst := some 136, op := Op.binOp BinOp.eql 3 (Operand.tmp 135) (Operand.const (Value.int IntKind.i64 0)) 3, type := 4, pos := _, after := #[{ on := 13, ground := Ground.data }, { on := 11, ground := Ground.guard }], guard := some (11, false) }) (v := undef) rfl (by kernel_rfl) (by kernel_rfl) (by kernel_rfl) (fun _ _ _ h => h) (Or.inr ⟨by rfl, rfl⟩) (by assumption) ?_
            simp only [Act.put, List.setIfInBounds_toArray, List.set_cons_zero, List.set_cons_succ]
            refine wpAnyH_take (i := 15) (oi := { dst := some 137, op := Op.load 24 (Operand.tmp 4), type := 24, pos := _, after := #[{ on := 11, ground := Ground.guard }], guard := some (11, false) }) (v := undef) rfl (by kernel_rfl) (by kernel_rfl) (by kernel_rfl) (fun _ _ _ h => h) (Or.inr ⟨by rfl, rfl⟩) (by assumption) ?_
            simp only [Act.put, List.setIfInBounds_toArray, List.set_cons_zero, List.set_cons_succ]
            refine wpAnyH_take (i := 16) (oi := { dst := some 138, op := Op.move (Operand.tmp 3), type := 4, pos := _, after := #[{ on := 11, ground := Ground.guard }], guard := some (11, false) }) (v := undef) rfl (by kernel_rfl) (by kernel_rfl) (by kernel_rfl) (fun _ _ _ h => h) (Or.inr ⟨by rfl, rfl⟩) (by assumption) ?_
            simp only [Act.put, List.setIfInBounds_toArray, List.set_cons_zero, List.set_cons_succ]
            refine wpAnyH_take (i := 17) (oi := { dst := some 139, op := Op.move (Operand.tmp 12), type := 3, pos := _, after := #[{ on := 11, ground := Ground.guard }], guard := some (11, false) }) (v := undef) rfl (by kernel_rfl) (by kernel_rfl) (by kernel_rfl) (fun _ _ _ h => h) (Or.inr ⟨by rfl, rfl⟩) (by assumption) ?_
            simp only [Act.put, List.setIfInBounds_toArray, List.set_cons_zero, List.set_cons_succ]
            refine wpAnyH_take (i := 18) (oi := { dst := some 140, op := Op.call { callee := Callee.value (Operand.func 13), args := #[Operand.tmp 137, Operand.tmp 138, Operand.const (Value.bool true), Operand.tmp 139], argTypes := #[24, 4, 4, 3] }, type := 4, pos := _, after := #[{ on := 15, ground := Ground.data }, { on := 16, ground := Ground.data }, { on := 17, ground := Ground.data }, { on := 11, ground := Ground.chain }, { on := 11, ground := Ground.guard }], guard := some (11, false) }) (v := undef) rfl (by kernel_rfl) (by kernel_rfl) (by kernel_rfl) (fun _ _ _ h => h) (Or.inr ⟨by rfl, rfl⟩) (by assumption) ?_
            simp only [Act.put, List.setIfInBounds_toArray, List.set_cons_zero, List.set_cons_succ]
            refine wpAnyH_take (i := 19) (oi := { dst := some 141, op := Op.binOp BinOp.neq 4 (Operand.tmp 136) (Operand.tmp 140) 4, type := 4, pos := _, after := #[{ on := 14, ground := Ground.data }, { on := 18, ground := Ground.data }, { on := 11, ground := Ground.guard }], guard := some (11, false) }) (v := undef) rfl (by kernel_rfl) (by kernel_rfl) (by kernel_rfl) (fun _ _ _ h => h) (Or.inr ⟨by rfl, rfl⟩) (by assumption) ?_
            simp only [Act.put, List.setIfInBounds_toArray, List.set_cons_zero, List.set_cons_succ]
            refine wpAnyH_take (i := 20) (oi := { dst := some 142, op := Op.pick (Operand.tmp 133) (Operand.const (Value.bool true)) (Operand.tmp 141), type := 4, pos := _, after := #[{ on := 11, ground := Ground.data }, { on := 19, ground := Ground.data }, { on := 2, ground := Ground.guard }], guard := some (2, true) }) (v := undef) rfl (by kernel_rfl) (by kernel_rfl) (by kernel_rfl) (fun _ _ _ h => h) (Or.inr ⟨by rfl, rfl⟩) (by assumption) ?_
            simp only [Act.put, List.setIfInBounds_toArray, List.set_cons_zero, List.set_cons_succ]
            refine wpAnyH_take (i := 21) (oi := { dst := some 143, op := Op.pick (Operand.tmp 124) (Operand.tmp 142) (Operand.const (Value.bool false)), type := 4, pos := _, after := #[{ on := 2, ground := Ground.data }, { on := 20, ground := Ground.data }], guard := none }) (v := ?_) rfl (by kernel_rfl) (by kernel_rfl) (by kernel_rfl) (fun _ _ _ h => h) (Or.inl ⟨by rfl, ?_⟩) (by assumption) ?_
            rotate_left
            · (intro w hSw; (try dsimp only at hSw); go_simp; try with_reducible rfl)
            simp only [Act.put, List.setIfInBounds_toArray, List.set_cons_zero, List.set_cons_succ]
            refine wpAnyH_done (by kernel_rfl) ?_ _
            (go_wp2; go_roundw; (case rel => exact ⟨k + 1, by omega, by omega, rfl, HS.out.toPC⟩); (case measure => simp [intOf]; omega))
          · have e8 : ∀ priv k, kd n priv k = if X priv k then 0 else 9 := fun priv k => by rw [hn]; exact (en _ _).2.2.2
            rw [e8] at HU0 HV0
            have z0 : ((n : Int) == 0) = false := by simp; omega
            have z1 : ((n : Int) == 1) = true := by simp; omega
            have z2 : ((n : Int) == 2) = false := by simp; omega
            have z3 : ((n : Int) == 3) = false := by simp; omega
            have HAu0 := HA.out false k
            have HAv0 := HA.out true k
            have hxy := Hle.out k
            clear en e8 Hle HA hn hi h
            generalize X false k = x at *
            generalize X true k = y at *
            have HAu := hidZ HAu0
            have HAv := hidZ HAv0
            clear HAu0 HAv0
            cases x <;> cases y
            case true.false => exact absurd (hxy rfl) (by decide)
            · simp only [if_true, if_false, Bool.false_eq_true] at HU0 HV0
              clear hxy
              have HU := hidZ HU0
              have HV := hidZ HV0
              clear HU0 HV0 HC
              have c1 := HY1.out.t.cell
              have c2 := HY1.out.c.cell
              go_wp2_with (fail)
              go_at_call 12
              refine (HU.out _ (HT.out.below HY1.out.bel).toTC).mono ?_
              rintro e w2 ⟨rfl, hb⟩
              have HY2 := hidZ (HY1.out.step hb)
              clear hb HY1 c1 c2
              have HZ2 := hidZ (HY2.out.step (below_new w2 (.cells #[.int .i64 9, .int .i64 ul, .int .i64 ud] 39)))
              have HE2 := hidZ (Bl.new w2 39 [.int .i64 9, .int .i64 ul, .int .i64 ud])
              have c1 := HY2.out.t.cell
              have l1 : p1 < w2.heap.size := HY2.out.t.lt
              have c2 := HY2.out.c.cell
              have l2 : p2 < w2.heap.size := HY2.out.c.lt
              have m1 : ¬ (p1 = w2.heap.size) := by omega
              have m2 : ¬ (p2 = w2.heap.size) := by omega
              go_wp2_with (fail)
              go_at_call 12
              refine (HV.out _ (HT.out.below HZ2.out.bel).toTC).mono ?_
              rintro e w3 ⟨rfl, hb⟩
              have HZ3 := hidZ (HZ2.out.step hb)
              have HE3 := hidZ (HE2.out.below hb)
              clear hb HZ2 HE2 HY2 c1 c2 l1 l2 m1 m2 HU HV
              have HS3 : Hid (PU w (w3.alloc (.cells #[.int .i64 9, .int .i64 vl, .int .i64 vd] 39)) p1 p2 w2.heap.size w3.heap.size [.int .i64 P, .int .u32 B, .bool ng, .bool xn] [.int .i64 4, .int .u32 0, .int .u64 0, .int .i64 0, .int .i64 P, .int .u32 B, .bool ng, .bool xn] [.bool true, .bool false, .bool true, .int .i64 0, .bool false, .bool false, .int .u64 0, .int .u64 0, .int .u32 (n : Int), .int .u32 0, .int .u32 0, .int .i64 0] [.int .i64 9, .int .i64 ul, .int .i64 ud] [.int .i64 9, .int .i64 vl, .int .i64 vd]) := ⟨HZ3.out.step (below_new _ _), HE3.out.below (below_new _ _), Bl.new _ _ _⟩
              have c0 := HZ3.out.l.cell
              have l0 : w.heap.size < w3.heap.size := HZ3.out.l.lt
              have c1 := HE3.out.cell
              have l1 : w2.heap.size < w3.heap.size := HE3.out.lt
              have m0 : ¬ (w.heap.size = w3.heap.size) := by omega
              have m1 : ¬ (w2.heap.size = w3.heap.size) := by omega
              have HS := hidZ HS3.out.drew
              go_wp2
              clear c0 l0 c1 l1 m0 m1 HS3 HZ3 HE3
              refine wp_region_held_drew (S := fun w' => w'.cell? ⟨w.heap.size, 0, none⟩ = some (.int .i64 P) ∧ w'.cell? ⟨w.heap.size, 1, none⟩ = some (.int .u32 B) ∧ w'.cell? ⟨w.heap.size, 2, none⟩ = some (.bool ng) ∧ w'.cell? ⟨w.heap.size, 3, none⟩ = some (.bool xn) ∧ w'.cell? ⟨w2.heap.size, 0, none⟩ = some (.int .i64 9) ∧ w'.cell? ⟨w3.heap.size, 0, none⟩ = some (.int .i64 9)) (by kernel_rfl) (by (try dsimp only); exact ⟨HS.out.l.cell 0, HS.out.l.cell 1, HS.out.l.cell 2, HS.out.l.cell 3, HS.out.u.cell 0, HS.out.v.cell 0⟩) (fun hHeld => ?_)
              refine wpAnyH_take (i := 0) (oi := { dst := some 122, op := Op.move (Operand.tmp 10), type := 22, pos := _, after := #[], guard := none }) (v := ?_) rfl (by kernel_rfl) (by kernel_rfl) (by kernel_rfl) (fun _ _ _ h => h) (Or.inl ⟨by rfl, ?_⟩) (by assumption) ?_
              rotate_left
              · (intro w hSw; (try dsimp only at hSw); go_simp; try with_reducible rfl)
              simp only [Act.put, List.setIfInBounds_toArray, List.set_cons_zero, List.set_cons_succ]
              refine wpAnyH_take (i := 1) (oi := { dst := some 123, op := Op.binOp BinOp.eql 22 (Operand.tmp 122) (Operand.const (Value.int IntKind.u32 1)) 22, type := 4, pos := _, after := #[{ on := 0, ground := Ground.data }], guard := none }) (v := ?_) rfl (by kernel_rfl) (by kernel_rfl) (by kernel_rfl) (fun _ _ _ h => h) (Or.inl ⟨by rfl, ?_⟩) (by assumption) ?_
              rotate_left
              · (intro w hSw; (try dsimp only at hSw); go_simp; try with_reducible rfl)
              simp only [Act.put, List.setIfInBounds_toArray, List.set_cons_zero, List.set_cons_succ]
              refine wpAnyH_take (i := 2) (oi := { dst := some 124, op := Op.move (Operand.tmp 123), type := 4, pos := _, after := #[{ on := 1, ground := Ground.data }], guard := none }) (v := ?_) rfl (by kernel_rfl) (by kernel_rfl) (by kernel_rfl) (fun _ _ _ h => h) (Or.inl ⟨by rfl, ?_⟩) (by assumption) ?_
              rotate_left
              · (intro w hSw; (try dsimp only at hSw); go_simp; try with_reducible rfl)
              simp only [Act.put, List.setIfInBounds_toArray, List.set_cons_zero, List.set_cons_succ]
              refine wpAnyH_take (i := 3) (oi := { dst := some 125, op := Op.fieldAddr 39 (Operand.tmp 13) 0, type := 0, pos := _, after := #[{ on := 2, ground := Ground.guard }], guard := some (2, true) }) (v := ?_) rfl (by kernel_rfl) (by kernel_rfl) (by kernel_rfl) (fun _ _ _ h => h) (Or.inl ⟨by rfl, ?_⟩) (by assumption) ?_
              rotate_left
              · (intro w hSw; (try dsimp only at hSw); go_simp; try with_reducible rfl)
              simp only [Act.put, List.setIfInBounds_toArray, List.set_cons_zero, List.set_cons_succ]
              refine wpAnyH_take (i := 4) (oi := { dst := some 126, op := Op.load 3 (Operand.tmp 125), type := 3, pos := _, after := #[{ on := 3, ground := Ground.data }, { on := 2, ground := Ground.guard }], guard := some (2, true) }) (v := ?_) rfl (by kernel_rfl) (by kernel_rfl) (by kernel_rfl) (fun _ _ _ h => h) (Or.inl ⟨by rfl, ?_⟩) (by assumption) ?_
              rotate_left
              · (intro w hSw; (try dsimp only at hSw); go_simp; try with_reducible rfl)
              simp only [Act.put, List.setIfInBounds_toArray, List.set_cons_zero, List.set_cons_succ]
              refine wpAnyH_take (i := 5) (oi := { dst := some 127, op := Op.binOp BinOp.eql 3 (Operand.tmp 126) (Operand.const (Value.int IntKind.i64 0)) 3, type := 4, pos := _, after := #[{ on := 4, ground := Ground.data }, { on := 2, ground := Ground.guard }], guard := some (2, true) }) (v := ?_) rfl (by kernel_rfl) (by kernel_rfl) (by kernel_rfl) (fun _ _ _ h => h) (Or.inl ⟨by rfl, ?_⟩) (by assumption) ?_
              rotate_left
              · (intro w hSw; (try dsimp only at hSw); go_simp; try with_reducible rfl)
              simp only [Act.put, List.setIfInBounds_toArray, List.set_cons_zero, List.set_cons_succ]
              refine wpAnyH_take (i := 6) (oi := { dst := some 128, op := Op.load 24 (Operand.tmp 4), type := 24, pos := _, after := #[{ on := 2, ground := Ground.guard }], guard := some (2, true) }) (v := ?_) rfl (by kernel_rfl) (by kernel_rfl) (by kernel_rfl) (fun _ _ _ h => h) (Or.inl ⟨by rfl, ?_⟩) (by assumption) ?_
              rotate_left
              · (intro w hSw; (try dsimp only at hSw); go_simp; try with_reducible rfl)
              simp only [Act.put, List.setIfInBounds_toArray, List.set_cons_zero, List.set_cons_succ]
              refine wpAnyH_take (i := 7) (oi := { dst := some 129, op := Op.move (Operand.tmp 3), type := 4, pos := _, after := #[{ on := 2, ground := Ground.guard }], guard := some (2, true) }) (v := ?_) rfl (by kernel_rfl) (by kernel_rfl) (by kernel_rfl) (fun _ _ _ h => h) (Or.inl ⟨by rfl, ?_⟩) (by assumption) ?_
              rotate_left
              · (intro w hSw; (try dsimp only at hSw); go_simp; try with_reducible rfl)
              simp only [Act.put, List.setIfInBounds_toArray, List.set_cons_zero, List.set_cons_succ]
              refine wpAnyH_take (i := 8) (oi := { dst := some 130, op := Op.move (Operand.tmp 12), type := 3, pos := _, after := #[{ on := 2, ground := Ground.guard }], guard := some (2, true) }) (v := ?_) rfl (by kernel_rfl) (by kernel_rfl) (by kernel_rfl) (fun _ _ _ h => h) (Or.inl ⟨by rfl, ?_⟩) (by assumption) ?_
              rotate_left
              · (intro w hSw; (try dsimp only at hSw); go_simp; try with_reducible rfl)
              simp only [Act.put, List.setIfInBounds_toArray, List.set_cons_zero, List.set_cons_succ]
              refine wpAnyH_ready (rs := [9]) (by kernel_rfl) (by simp) ?_
              refine (AllReadyH.cons (o := { dst := some 131, op := Op.call { callee := Callee.value (Operand.func 13), args := #[Operand.tmp 128, Operand.tmp 129, Operand.const (Value.bool false), Operand.tmp 130], argTypes := #[24, 4, 4, 3] }, type := 4, pos := _, after := #[{ on := 6, ground := Ground.data }, { on := 7, ground := Ground.data }, { on := 8, ground := Ground.data }, { on := 2, ground := Ground.chain }, { on := 2, ground := Ground.guard }], guard := some (2, true) }) rfl (fun K hK => ?_) AllReadyH.nil)
              go_simp
              (go_at_call 13; (first | (with_reducible refine (HAu.out _ (HT.out.below HS.out.bel).p).mono ?_) | (with_reducible refine (HAv.out _ (HT.out.below HS.out.bel).p).mono ?_)); rintro e w5 ⟨rfl, hb⟩; replace HS := hidZ (HS.out.step hb); clear hb)
              refine hK.out _ _ ?_ (fun hHeld => ?_)
              · ((try dsimp only); exact ⟨HS.out.l.cell 0, HS.out.l.cell 1, HS.out.l.cell 2, HS.out.l.cell 3, HS.out.u.cell 0, HS.out.v.cell 0⟩)
              clear hK K
              try simp only [Act.put, List.setIfInBounds_toArray, List.set_cons_zero, List.set_cons_succ]
              refine wpAnyH_take (i := 10) (oi := { dst := some 132, op := Op.binOp BinOp.neq 4 (Operand.tmp 127) (Operand.tmp 131) 4, type := 4, pos := _, after := #[{ on := 5, ground := Ground.data }, { on := 9, ground := Ground.data }, { on := 2, ground := Ground.guard }], guard := some (2, true) }) (v := ?_) rfl (by kernel_rfl) (by kernel_rfl) (by kernel_rfl) (fun _ _ _ h => h) (Or.inl ⟨by rfl, ?_⟩) (by assumption) ?_
              rotate_left
              · (intro w hSw; (try dsimp only at hSw); go_simp; try with_reducible rfl)
              simp only [Act.put, List.setIfInBounds_toArray, List.set_cons_zero, List.set_cons_succ]
              refine wpAnyH_take (i := 11) (oi := { dst := some 133, op := Op.move (Operand.tmp 132), type := 4, pos := _, after := #[{ on := 10, ground := Ground.data }, { on := 9, ground := Ground.chain }, { on := 2, ground := Ground.guard }], guard := some (2, true) }) (v := ?_) rfl (by kernel_rfl) (by kernel_rfl) (by kernel_rfl) (fun _ _ _ h => h) (Or.inl ⟨by rfl, ?_⟩) (by assumption) ?_
              rotate_left
              · (intro w hSw; (try dsimp only at hSw); go_simp; try with_reducible rfl)
              simp only [Act.put, List.setIfInBounds_toArray, List.set_cons_zero, List.set_cons_succ]
              refine wpAnyH_take (i := 12) (oi := { dst := some 134, op := Op.fieldAddr 39 (Operand.tmp 14) 0, type := 0, pos := _, after := #[{ on := 11, ground := Ground.guard }], guard := some (11, false) }) (v := ?_) rfl (by kernel_rfl) (by kernel_rfl) (by kernel_rfl) (fun _ _ _ h => h) (Or.inl ⟨by rfl, ?_⟩) (by assumption) ?_
              rotate_left
              · (intro w hSw; (try dsimp only at hSw); go_simp; try with_reducible rfl)
              simp only [Act.put, List.setIfInBounds_toArray, List.set_cons_zero, List.set_cons_succ]
              refine wpAnyH_take (i := 13) (oi := { dst := some 135, op := Op.load 3 (Operand.tmp 134), type := 3, pos := _, after := #[{ on := 12, ground := Ground.data }, { on := 11, ground := Ground.guard }], guard := some (11, false) }) (v := ?_) rfl (by kernel_rfl) (by kernel_rfl) (by kernel_rfl) (fun _ _ _ h => h) (Or.inl ⟨by rfl, ?_⟩) (by assumption) ?_
              rotate_left
              · (intro w hSw; (try dsimp only at hSw); go_simp; try with_reducible rfl)
              simp only [Act.put, List.setIfInBounds_toArray, List.set_cons_zero, List.set_cons_succ]
              refine wpAnyH_take (i := 14) (oi := { dst := some 136, op := Op.binOp BinOp.eql 3 (Operand.tmp 135) (Operand.const (Value.int IntKind.i64 0)) 3, type := 4, pos := _, after := #[{ on := 13, ground := Ground.data }, { on := 11, ground := Ground.guard }], guard := some (11, false) }) (v := ?_) rfl (by kernel_rfl) (by kernel_rfl) (by kernel_rfl) (fun _ _ _ h => h) (Or.inl ⟨by rfl, ?_⟩) (by assumption) ?_
              rotate_left
              · (intro w hSw; (try dsimp only at hSw); go_simp; try with_reducible rfl)
              simp only [Act.put, List.setIfInBounds_toArray, List.set_cons_zero, List.set_cons_succ]
              refine wpAnyH_take (i := 15) (oi := { dst := some 137, op := Op.load 24 (Operand.tmp 4), type := 24, pos := _, after := #[{ on := 11, ground := Ground.guard }], guard := some (11, false) }) (v := ?_) rfl (by kernel_rfl) (by kernel_rfl) (by kernel_rfl) (fun _ _ _ h => h) (Or.inl ⟨by rfl, ?_⟩) (by assumption) ?_
              rotate_left
              · (intro w hSw; (try dsimp only at hSw); go_simp; try with_reducible rfl)
              simp only [Act.put, List.setIfInBounds_toArray, List.set_cons_zero, List.set_cons_succ]
              refine wpAnyH_take (i := 16) (oi := { dst := some 138, op := Op.move (Operand.tmp 3), type := 4, pos := _, after := #[{ on := 11, ground := Ground.guard }], guard := some (11, false) }) (v := ?_) rfl (by kernel_rfl) (by kernel_rfl) (by kernel_rfl) (fun _ _ _ h => h) (Or.inl ⟨by rfl, ?_⟩) (by assumption) ?_
              rotate_left
              · (intro w hSw; (try dsimp only at hSw); go_simp; try with_reducible rfl)
              simp only [Act.put, List.setIfInBounds_toArray, List.set_cons_zero, List.set_cons_succ]
              refine wpAnyH_take (i := 17) (oi := { dst := some 139, op := Op.move (Operand.tmp 12), type := 3, pos := _, after := #[{ on := 11, ground := Ground.guard }], guard := some (11, false) }) (v := ?_) rfl (by kernel_rfl) (by kernel_rfl) (by kernel_rfl) (fun _ _ _ h => h) (Or.inl ⟨by rfl, ?_⟩) (by assumption) ?_
              rotate_left
              · (intro w hSw; (try dsimp only at hSw); go_simp; try with_reducible rfl)
              simp only [Act.put, List.setIfInBounds_toArray, List.set_cons_zero, List.set_cons_succ]
              refine wpAnyH_ready (rs := [18]) (by kernel_rfl) (by simp) ?_
              refine (AllReadyH.cons (o := { dst := some 140, op := Op.call { callee := Callee.value (Operand.func 13), args := #[Operand.tmp 137, Operand.tmp 138, Operand.const (Value.bool true), Operand.tmp 139], argTypes := #[24, 4, 4, 3] }, type := 4, pos := _, after := #[{ on := 15, ground := Ground.data }, { on := 16, ground := Ground.data }, { on := 17, ground := Ground.data }, { on := 11, ground := Ground.chain }, { on := 11, ground := Ground.guard }], guard := some (11, false) }) rfl (fun K hK => ?_) AllReadyH.nil)
              go_simp
              (go_at_call 13; (first | (with_reducible refine (HAu.out _ (HT.out.below HS.out.bel).p).mono ?_) | (with_reducible refine (HAv.out _ (HT.out.below HS.out.bel).p).mono ?_)); rintro e w5 ⟨rfl, hb⟩; replace HS := hidZ (HS.out.step hb); clear hb)
              refine hK.out _ _ ?_ (fun hHeld => ?_)
              · ((try dsimp only); exact ⟨HS.out.l.cell 0, HS.out.l.cell 1, HS.out.l.cell 2, HS.out.l.cell 3, HS.out.u.cell 0, HS.out.v.cell 0⟩)
              clear hK K
              try simp only [Act.put, List.setIfInBounds_toArray, List.set_cons_zero, List.set_cons_succ]
              refine wpAnyH_take (i := 19) (oi := { dst := some 141, op := Op.binOp BinOp.neq 4 (Operand.tmp 136) (Operand.tmp 140) 4, type := 4, pos := _, after := #[{ on := 14, ground := Ground.data }, { on := 18, ground := Ground.data }, { on := 11, ground := Ground.guard }], guard := some (11, false) }) (v := ?_) rfl (by kernel_rfl) (by kernel_rfl) (by kernel_rfl) (fun _ _ _ h => h) (Or.inl ⟨by rfl, ?_⟩) (by assumption) ?_
              rotate_left
              · (intro w hSw; (try dsimp only at hSw); go_simp; try with_reducible rfl)
              simp only [Act.put, List.setIfInBounds_toArray, List.set_cons_zero, List.set_cons_succ]
              refine wpAnyH_take (i := 20) (oi := { dst := some 142, op := Op.pick (Operand.tmp 133) (Operand.const (Value.bool true)) (Operand.tmp 141), type := 4, pos := _, after := #[{ on := 11, ground := Ground.data }, { on := 19, ground := Ground.data }, { on := 2, ground := Ground.guard }], guard := some (2, true) }) (v := ?_) rfl (by kernel_rfl) (by kernel_rfl) (by kernel_rfl) (fun _ _ _ h => h) (Or.inl ⟨by rfl, ?_⟩) (by assumption) ?_
              rotate_left
              · (intro w hSw; (try dsimp only at hSw); go_simp; try with_reducible rfl)
              simp only [Act.put, List.setIfInBounds_toArray, List.set_cons_zero, List.set_cons_succ]
              refine wpAnyH_take (i := 21) (oi := { dst := some 143, op := Op.pick (Operand.tmp 124) (Operand.tmp 142) (Operand.const (Value.bool false)), type := 4, pos := _, after := #[{ on := 2, ground := Ground.data }, { on := 20, ground := Ground.data }], guard := none }) (v := ?_) rfl (by kernel_rfl) (by kernel_rfl) (by kernel_rfl) (fun _ _ _ h => h) (Or.inl ⟨by rfl, ?_⟩) (by assumption) ?_
              rotate_left
              · (intro w hSw; (try dsimp only at hSw); go_simp; try with_reducible rfl)
              simp only [Act.put, List.setIfInBounds_toArray, List.set_cons_zero, List.set_cons_succ]
              refine wpAnyH_done (by kernel_rfl) ?_ _
              (go_wp2; go_roundw; (case rel => exact ⟨k + 1, by omega, by omega, rfl, HS.out.toPC⟩); (case measure => simp [intOf]; omega))
            · simp only [if_true, if_false, Bool.false_eq_true] at HU0 HV0
              clear hxy
              have HU := hidZ HU0
              have HV := hidZ HV0
              clear HU0 HV0 HC
              have c1 := HY1.out.t.cell
              have c2 := HY1.out.c.cell
              go_wp2_with (fail)
              go_at_call 12
              refine (HU.out _ (HT.out.below HY1.out.bel).toTC).mono ?_
              rintro e w2 ⟨rfl, hb⟩
              have HY2 := hidZ (HY1.out.step hb)
              clear hb HY1 c1 c2
              have HZ2 := hidZ (HY2.out.step (below_new w2 (.cells #[.int .i64 9, .int .i64 ul, .int .i64 ud] 39)))
              have HE2 := hidZ (Bl.new w2 39 [.int .i64 9, .int .i64 ul, .int .i64 ud])
              have c1 := HY2.out.t.cell
              have l1 : p1 < w2.heap.size := HY2.out.t.lt
              have c2 := HY2.out.c.cell
              have l2 : p2 < w2.heap.size := HY2.out.c.lt
              have m1 : ¬ (p1 = w2.heap.size) := by omega
              have m2 : ¬ (p2 = w2.heap.size) := by omega
              go_wp2_with (fail)
              go_at_call 12
              refine (HV.out _ (HT.out.below HZ2.out.bel).toTC).mono ?_
              rintro e w3 ⟨rfl, hb⟩
              have HZ3 := hidZ (HZ2.out.step hb)
              have HE3 := hidZ (HE2.out.below hb)
              clear hb HZ2 HE2 HY2 c1 c2 l1 l2 m1 m2 HU HV
              have HS3 : Hid (PU w (w3.alloc (.cells #[.int .i64 0, .int .i64 vl, .int .i64 vd] 39)) p1 p2 w2.heap.size w3.heap.size [.int .i64 P, .int .u32 B, .bool ng, .bool xn] [.int .i64 4, .int .u32 0, .int .u64 0, .int .i64 0, .int .i64 P, .int .u32 B, .bool ng, .bool xn] [.bool true, .bool false, .bool true, .int .i64 0, .bool false, .bool false, .int .u64 0, .int .u64 0, .int .u32 (n : Int), .int .u32 0, .int .u32 0, .int .i64 0] [.int .i64 9, .int .i64 ul, .int .i64 ud] [.int .i64 0, .int .i64 vl, .int .i64 vd]) := ⟨HZ3.out.step (below_new _ _), HE3.out.below (below_new _ _), Bl.new _ _ _⟩
              have c0 := HZ3.out.l.cell
              have l0 : w.heap.size < w3.heap.size := HZ3.out.l.lt
              have c1 := HE3.out.cell
              have l1 : w2.heap.size < w3.heap.size := HE3.out.lt
              have m0 : ¬ (w.heap.size = w3.heap.size) := by omega
              have m1 : ¬ (w2.heap.size = w3.heap.size) := by omega
              have HS := hidZ HS3.out.drew
              go_wp2
              clear c0 l0 c1 l1 m0 m1 HS3 HZ3 HE3
              refine wp_region_held_drew (S := fun w' => w'.cell? ⟨w.heap.size, 0, none⟩ = some (.int .i64 P) ∧ w'.cell? ⟨w.heap.size, 1, none⟩ = some (.int .u32 B) ∧ w'.cell? ⟨w.heap.size, 2, none⟩ = some (.bool ng) ∧ w'.cell? ⟨w.heap.size, 3, none⟩ = some (.bool xn) ∧ w'.cell? ⟨w2.heap.size, 0, none⟩ = some (.int .i64 9) ∧ w'.cell? ⟨w3.heap.size, 0, none⟩ = some (.int .i64 0)) (by kernel_rfl) (by (try dsimp only); exact ⟨HS.out.l.cell 0, HS.out.l.cell 1, HS.out.l.cell 2, HS.out.l.cell 3, HS.out.u.cell 0, HS.out.v.cell 0⟩) (fun hHeld => ?_)
              refine wpAnyH_take (i := 0) (oi := { dst := some 122, op := Op.move (Operand.tmp 10), type := 22, pos := _, after := #[], guard := none }) (v := ?_) rfl (by kernel_rfl) (by kernel_rfl) (by kernel_rfl) (fun _ _ _ h => h) (Or.inl ⟨by rfl, ?_⟩) (by assumption) ?_
              rotate_left
              · (intro w hSw; (try dsimp only at hSw); go_simp; try with_reducible rfl)
              simp only [Act.put, List.setIfInBounds_toArray, List.set_cons_zero, List.set_cons_succ]
              refine wpAnyH_take (i := 1) (oi := { dst := some 123, op := Op.binOp BinOp.eql 22 (Operand.tmp 122) (Operand.const (Value.int IntKind.u32 1)) 22, type := 4, pos := _, after := #[{ on := 0, ground := Ground.data }], guard := none }) (v := ?_) rfl (by kernel_rfl) (by kernel_rfl) (by kernel_rfl) (fun _ _ _ h => h) (Or.inl ⟨by rfl, ?_⟩) (by assumption) ?_
              rotate_left
              · (intro w hSw; (try dsimp only at hSw); go_simp; try with_reducible rfl)
              simp only [Act.put, List.setIfInBounds_toArray, List.set_cons_zero, List.set_cons_succ]
              refine wpAnyH_take (i := 2) (oi := { dst := some 124, op := Op.move (Operand.tmp 123), type := 4, pos := _, after := #[{ on := 1, ground := Ground.data }], guard := none }) (v := ?_) rfl (by kernel_rfl) (by kernel_rfl) (by kernel_rfl) (fun _ _ _ h => h) (Or.inl ⟨by rfl, ?_⟩) (by assumption) ?_
              rotate_left
              · (intro w hSw; (try dsimp only at hSw); go_simp; try with_reducible rfl)
              simp only [Act.put, List.setIfInBounds_toArray, List.set_cons_zero, List.set_cons_succ]
              refine wpAnyH_take (i := 3) (oi := { dst := some 125, op := Op.fieldAddr 39 (Operand.tmp 13) 0, type := 0, pos := _, after := #[{ on := 2, ground := Ground.guard }], guard := some (2, true) }) (v := ?_) rfl (by kernel_rfl) (by kernel_rfl) (by kernel_rfl) (fun _ _ _ h => h) (Or.inl ⟨by rfl, ?_⟩) (by assumption) ?_
              rotate_left
              · (intro w hSw; (try dsimp only at hSw); go_simp; try with_reducible rfl)
              simp only [Act.put, List.setIfInBounds_toArray, List.set_cons_zero, List.set_cons_succ]
              refine wpAnyH_take (i := 4) (oi := { dst := some 126, op := Op.load 3 (Operand.tmp 125), type := 3, pos := _, after := #[{ on := 3, ground := Ground.data }, { on := 2, ground := Ground.guard }], guard := some (2, true) }) (v := ?_) rfl (by kernel_rfl) (by kernel_rfl) (by kernel_rfl) (fun _ _ _ h => h) (Or.inl ⟨by rfl, ?_⟩) (by assumption) ?_
              rotate_left
              · (intro w hSw; (try dsimp only at hSw); go_simp; try with_reducible rfl)
              simp only [Act.put, List.setIfInBounds_toArray, List.set_cons_zero, List.set_cons_succ]
              refine wpAnyH_take (i := 5) (oi := { dst := some 127, op := Op.binOp BinOp.eql 3 (Operand.tmp 126) (Operand.const (Value.int IntKind.i64 0)) 3, type := 4, pos := _, after := #[{ on := 4, ground := Ground.data }, { on := 2, ground := Ground.guard }], guard := some (2, true) }) (v := ?_) rfl (by kernel_rfl) (by kernel_rfl) (by kernel_rfl) (fun _ _ _ h => h) (Or.inl ⟨by rfl, ?_⟩) (by assumption) ?_
              rotate_left
              · (intro w hSw; (try dsimp only at hSw); go_simp; try with_reducible rfl)
              simp only [Act.put, List.setIfInBounds_toArray, List.set_cons_zero, List.set_cons_succ]
              refine wpAnyH_take (i := 6) (oi := { dst := some 128, op := Op.load 24 (Operand.tmp 4), type := 24, pos := _, after := #[{ on := 2, ground := Ground.guard }], guard := some (2, true) }) (v := ?_) rfl (by kernel_rfl) (by kernel_rfl) (by kernel_rfl) (fun _ _ _ h => h) (Or.inl ⟨by rfl, ?_⟩) (by assumption) ?_
              rotate_left
              · (intro w hSw; (try dsimp only at hSw); go_simp; try with_reducible rfl)
              simp only [Act.put, List.setIfInBounds_toArray, List.set_cons_zero, List.set_cons_succ]
              refine wpAnyH_take (i := 7) (oi := { dst := some 129, op := Op.move (Operand.tmp 3), type := 4, pos := _, after := #[{ on := 2, ground := Ground.guard }], guard := some (2, true) }) (v := ?_) rfl (by kernel_rfl) (by kernel_rfl) (by kernel_rfl) (fun _ _ _ h => h) (Or.inl ⟨by rfl, ?_⟩) (by assumption) ?_
              rotate_left
              · (intro w hSw; (try dsimp only at hSw); go_simp; try with_reducible rfl)
              simp only [Act.put, List.setIfInBounds_toArray, List.set_cons_zero, List.set_cons_succ]
              refine wpAnyH_take (i := 8) (oi := { dst := some 130, op := Op.move (Operand.tmp 12), type := 3, pos := _, after := #[{ on := 2, ground := Ground.guard }], guard := some (2, true) }) (v := ?_) rfl (by kernel_rfl) (by kernel_rfl) (by kernel_rfl) (fun _ _ _ h => h) (Or.inl ⟨by rfl, ?_⟩) (by assumption) ?_
              rotate_left
              · (intro w hSw; (try dsimp only at hSw); go_simp; try with_reducible rfl)
              simp only [Act.put, List.setIfInBounds_toArray, List.set_cons_zero, List.set_cons_succ]
              refine wpAnyH_ready (rs := [9]) (by kernel_rfl) (by simp) ?_
              refine (AllReadyH.cons (o := { dst := some 131, op := Op.call { callee := Callee.value (Operand.func 13), args := #[Operand.tmp 128, Operand.tmp 129, Operand.const (Value.bool false), Operand.tmp 130], argTypes := #[24, 4, 4, 3] }, type := 4, pos := _, after := #[{ on := 6, ground := Ground.data }, { on := 7, ground := Ground.data }, { on := 8, ground := Ground.data }, { on := 2, ground := Ground.chain }, { on := 2, ground := Ground.guard }], guard := some (2, true) }) rfl (fun K hK => ?_) AllReadyH.nil)
              go_simp
              (go_at_call 13; (first | (with_reducible refine (HAu.out _ (HT.out.below HS.out.bel).p).mono ?_) | (with_reducible refine (HAv.out _ (HT.out.below HS.out.bel).p).mono ?_)); rintro e w5 ⟨rfl, hb⟩; replace HS := hidZ (HS.out.step hb); clear hb)
              refine hK.out _ _ ?_ (fun hHeld => ?_)
              · ((try dsimp only); exact ⟨HS.out.l.cell 0, HS.out.l.cell 1, HS.out.l.cell 2, HS.out.l.cell 3, HS.out.u.cell 0, HS.out.v.cell 0⟩)
              clear hK K
              try simp only [Act.put, List.setIfInBounds_toArray, List.set_cons_zero, List.set_cons_succ]
              refine wpAnyH_take (i := 10) (oi := { dst := some 132, op := Op.binOp BinOp.neq 4 (Operand.tmp 127) (Operand.tmp 131) 4, type := 4, pos := _, after := #[{ on := 5, ground := Ground.data }, { on := 9, ground := Ground.data }, { on := 2, ground := Ground.guard }], guard := some (2, true) }) (v := ?_) rfl (by kernel_rfl) (by kernel_rfl) (by kernel_rfl) (fun _ _ _ h => h) (Or.inl ⟨by rfl, ?_⟩) (by assumption) ?_
              rotate_left
              · (intro w hSw; (try dsimp only at hSw); go_simp; try with_reducible rfl)
              simp only [Act.put, List.setIfInBounds_toArray, List.set_cons_zero, List.set_cons_succ]
              refine wpAnyH_take (i := 11) (oi := { dst := some 133, op := Op.move (Operand.tmp 132), type := 4, pos := _, after := #[{ on := 10, ground := Ground.data }, { on := 9, ground := Ground.chain }, { on := 2, ground := Ground.guard }], guard := some (2, true) }) (v := ?_) rfl (by kernel_rfl) (by kernel_rfl) (by kernel_rfl) (fun _ _ _ h => h) (Or.inl ⟨by rfl, ?_⟩) (by assumption) ?_
              rotate_left
              · (intro w hSw; (try dsimp only at hSw); go_simp; try with_reducible rfl)
              simp only [Act.put, List.setIfInBounds_toArray, List.set_cons_zero, List.set_cons_succ]
              refine wpAnyH_take (i := 12) (oi := { dst := some 134, op := Op.fieldAddr 39 (Operand.tmp 14) 0, type := 0, pos := _, after := #[{ on := 11, ground := Ground.guard }], guard := some (11, false) }) (v := ?_) rfl (by kernel_rfl) (by kernel_rfl) (by kernel_rfl) (fun _ _ _ h => h) (Or.inl ⟨by rfl, ?_⟩) (by assumption) ?_
              rotate_left
              · (intro w hSw; (try dsimp only at hSw); go_simp; try with_reducible rfl)
              simp only [Act.put, List.setIfInBounds_toArray, List.set_cons_zero, List.set_cons_succ]
              refine wpAnyH_take (i := 13) (oi := { dst := some 135, op := Op.load 3 (Operand.tmp 134), type := 3, pos := _, after := #[{ on := 12, ground := Ground.data }, { on := 11, ground := Ground.guard }], guard := some (11, false) }) (v := ?_) rfl (by kernel_rfl) (by kernel_rfl) (by kernel_rfl) (fun _ _ _ h => h) (Or.inl ⟨by rfl, ?_⟩) (by assumption) ?_
              rotate_left
              · (intro w hSw; (try dsimp only at hSw); go_simp; try with_reducible rfl)
              simp only [Act.put, List.setIfInBounds_toArray, List.set_cons_zero, List.set_cons_succ]
              refine wpAnyH_take (i := 14) (oi := { dst := some 136, op := Op.binOp BinOp.eql 3 (Operand.tmp 135) (Operand.const (Value.int IntKind.i64 0)) 3, type := 4, pos := _, after := #[{ on := 13, ground := Ground.data }, { on := 11, ground := Ground.guard }], guard := some (11, false) }) (v := ?_) rfl (by kernel_rfl) (by kernel_rfl) (by kernel_rfl) (fun _ _ _ h => h) (Or.inl ⟨by rfl, ?_⟩) (by assumption) ?_
              rotate_left
              · (intro w hSw; (try dsimp only at hSw); go_simp; try with_reducible rfl)
              simp only [Act.put, List.setIfInBounds_toArray, List.set_cons_zero, List.set_cons_succ]
              refine wpAnyH_take (i := 15) (oi := { dst := some 137, op := Op.load 24 (Operand.tmp 4), type := 24, pos := _, after := #[{ on := 11, ground := Ground.guard }], guard := some (11, false) }) (v := ?_) rfl (by kernel_rfl) (by kernel_rfl) (by kernel_rfl) (fun _ _ _ h => h) (Or.inl ⟨by rfl, ?_⟩) (by assumption) ?_
              rotate_left
              · (intro w hSw; (try dsimp only at hSw); go_simp; try with_reducible rfl)
              simp only [Act.put, List.setIfInBounds_toArray, List.set_cons_zero, List.set_cons_succ]
              refine wpAnyH_take (i := 16) (oi := { dst := some 138, op := Op.move (Operand.tmp 3), type := 4, pos := _, after := #[{ on := 11, ground := Ground.guard }], guard := some (11, false) }) (v := ?_) rfl (by kernel_rfl) (by kernel_rfl) (by kernel_rfl) (fun _ _ _ h => h) (Or.inl ⟨by rfl, ?_⟩) (by assumption) ?_
              rotate_left
              · (intro w hSw; (try dsimp only at hSw); go_simp; try with_reducible rfl)
              simp only [Act.put, List.setIfInBounds_toArray, List.set_cons_zero, List.set_cons_succ]
              refine wpAnyH_take (i := 17) (oi := { dst := some 139, op := Op.move (Operand.tmp 12), type := 3, pos := _, after := #[{ on := 11, ground := Ground.guard }], guard := some (11, false) }) (v := ?_) rfl (by kernel_rfl) (by kernel_rfl) (by kernel_rfl) (fun _ _ _ h => h) (Or.inl ⟨by rfl, ?_⟩) (by assumption) ?_
              rotate_left
              · (intro w hSw; (try dsimp only at hSw); go_simp; try with_reducible rfl)
              simp only [Act.put, List.setIfInBounds_toArray, List.set_cons_zero, List.set_cons_succ]
              refine wpAnyH_ready (rs := [18]) (by kernel_rfl) (by simp) ?_
              refine (AllReadyH.cons (o := { dst := some 140, op := Op.call { callee := Callee.value (Operand.func 13), args := #[Operand.tmp 137, Operand.tmp 138, Operand.const (Value.bool true), Operand.tmp 139], argTypes := #[24, 4, 4, 3] }, type := 4, pos := _, after := #[{ on := 15, ground := Ground.data }, { on := 16, ground := Ground.data }, { on := 17, ground := Ground.data }, { on := 11, ground := Ground.chain }, { on := 11, ground := Ground.guard }], guard := some (11, false) }) rfl (fun K hK => ?_) AllReadyH.nil)
              go_simp
              (go_at_call 13; (first | (with_reducible refine (HAu.out _ (HT.out.below HS.out.bel).p).mono ?_) | (with_reducible refine (HAv.out _ (HT.out.below HS.out.bel).p).mono ?_)); rintro e w5 ⟨rfl, hb⟩; replace HS := hidZ (HS.out.step hb); clear hb)
              refine hK.out _ _ ?_ (fun hHeld => ?_)
              · ((try dsimp only); exact ⟨HS.out.l.cell 0, HS.out.l.cell 1, HS.out.l.cell 2, HS.out.l.cell 3, HS.out.u.cell 0, HS.out.v.cell 0⟩)
              clear hK K
              try simp only [Act.put, List.setIfInBounds_toArray, List.set_cons_zero, List.set_cons_succ]
              refine wpAnyH_take (i := 19) (oi := { dst := some 141, op := Op.binOp BinOp.neq 4 (Operand.tmp 136) (Operand.tmp 140) 4, type := 4, pos := _, after := #[{ on := 14, ground := Ground.data }, { on := 18, ground := Ground.data }, { on := 11, ground := Ground.guard }], guard := some (11, false) }) (v := ?_) rfl (by kernel_rfl) (by kernel_rfl) (by kernel_rfl) (fun _ _ _ h => h) (Or.inl ⟨by rfl, ?_⟩) (by assumption) ?_
              rotate_left
              · (intro w hSw; (try dsimp only at hSw); go_simp; try with_reducible rfl)
              simp only [Act.put, List.setIfInBounds_toArray, List.set_cons_zero, List.set_cons_succ]
              refine wpAnyH_take (i := 20) (oi := { dst := some 142, op := Op.pick (Operand.tmp 133) (Operand.const (Value.bool true)) (Operand.tmp 141), type := 4, pos := _, after := #[{ on := 11, ground := Ground.data }, { on := 19, ground := Ground.data }, { on := 2, ground := Ground.guard }], guard := some (2, true) }) (v := ?_) rfl (by kernel_rfl) (by kernel_rfl) (by kernel_rfl) (fun _ _ _ h => h) (Or.inl ⟨by rfl, ?_⟩) (by assumption) ?_
              rotate_left
              · (intro w hSw; (try dsimp only at hSw); go_simp; try with_reducible rfl)
              simp only [Act.put, List.setIfInBounds_toArray, List.set_cons_zero, List.set_cons_succ]
              refine wpAnyH_take (i := 21) (oi := { dst := some 143, op := Op.pick (Operand.tmp 124) (Operand.tmp 142) (Operand.const (Value.bool false)), type := 4, pos := _, after := #[{ on := 2, ground := Ground.data }, { on := 20, ground := Ground.data }], guard := none }) (v := ?_) rfl (by kernel_rfl) (by kernel_rfl) (by kernel_rfl) (fun _ _ _ h => h) (Or.inl ⟨by rfl, ?_⟩) (by assumption) ?_
              rotate_left
              · (intro w hSw; (try dsimp only at hSw); go_simp; try with_reducible rfl)
              simp only [Act.put, List.setIfInBounds_toArray, List.set_cons_zero, List.set_cons_succ]
              refine wpAnyH_done (by kernel_rfl) ?_ _
              (go_wp2; go_roundw; (case rel => exact ⟨k + 1, by omega, by omega, rfl, HS.out.toPC⟩); (case measure => simp [intOf]; omega))
            · simp only [if_true, if_false, Bool.false_eq_true] at HU0 HV0
              clear hxy
              have HU := hidZ HU0
              have HV := hidZ HV0
              clear HU0 HV0 HC
              have c1 := HY1.out.t.cell
              have c2 := HY1.out.c.cell
              go_wp2_with (fail)
              go_at_call 12
              refine (HU.out _ (HT.out.below HY1.out.bel).toTC).mono ?_
              rintro e w2 ⟨rfl, hb⟩
              have HY2 := hidZ (HY1.out.step hb)
              clear hb HY1 c1 c2
              have HZ2 := hidZ (HY2.out.step (below_new w2 (.cells #[.int .i64 0, .int .i64 ul, .int .i64 ud] 39)))
              have HE2 := hidZ (Bl.new w2 39 [.int .i64 0, .int .i64 ul, .int .i64 ud])
              have c1 := HY2.out.t.cell
              have l1 : p1 < w2.heap.size := HY2.out.t.lt
              have c2 := HY2.out.c.cell
              have l2 : p2 < w2.heap.size := HY2.out.c.lt
              have m1 : ¬ (p1 = w2.heap.size) := by omega
              have m2 : ¬ (p2 = w2.heap.size) := by omega
              go_wp2_with (fail)
              go_at_call 12
              refine (HV.out _ (HT.out.below HZ2.out.bel).toTC).mono ?_
              rintro e w3 ⟨rfl, hb⟩
              have HZ3 := hidZ (HZ2.out.step hb)
              have HE3 := hidZ (HE2.out.below hb)
              clear hb HZ2 HE2 HY2 c1 c2 l1 l2 m1 m2 HU HV
              have HS3 : Hid (PU w (w3.alloc (.cells #[.int .i64 0, .int .i64 vl, .int .i64 vd] 39)) p1 p2 w2.heap.size w3.heap.size [.int .i64 P, .int .u32 B, .bool ng, .bool xn] [.int .i64 4, .int .u32 0, .int .u64 0, .int .i64 0, .int .i64 P, .int .u32 B, .bool ng, .bool xn] [.bool true, .bool false, .bool true, .int .i64 0, .bool false, .bool false, .int .u64 0, .int .u64 0, .int .u32 (n : Int), .int .u32 0, .int .u32 0, .int .i64 0] [.int .i64 0, .int .i64 ul, .int .i64 ud] [.int .i64 0, .int .i64 vl, .int .i64 vd]) := ⟨HZ3.out.step (below_new _ _), HE3.out.below (below_new _ _), Bl.new _ _ _⟩
              have c0 := HZ3.out.l.cell
              have l0 : w.heap.size < w3.heap.size := HZ3.out.l.lt
              have c1 := HE3.out.cell
              have l1 : w2.heap.size < w3.heap.size := HE3.out.lt
              have m0 : ¬ (w.heap.size = w3.heap.size) := by omega
              have m1 : ¬ (w2.heap.size = w3.heap.size) := by omega
              have HS := hidZ HS3.out.drew
              go_wp2
              clear c0 l0 c1 l1 m0 m1 HS3 HZ3 HE3
              refine wp_region_held_drew (S := fun w' => w'.cell? ⟨w.heap.size, 0, none⟩ = some (.int .i64 P) ∧ w'.cell? ⟨w.heap.size, 1, none⟩ = some (.int .u32 B) ∧ w'.cell? ⟨w.heap.size, 2, none⟩ = some (.bool ng) ∧ w'.cell? ⟨w.heap.size, 3, none⟩ = some (.bool xn) ∧ w'.cell? ⟨w2.heap.size, 0, none⟩ = some (.int .i64 0) ∧ w'.cell? ⟨w3.heap.size, 0, none⟩ = some (.int .i64 0)) (by kernel_rfl) (by (try dsimp only); exact ⟨HS.out.l.cell 0, HS.out.l.cell 1, HS.out.l.cell 2, HS.out.l.cell 3, HS.out.u.cell 0, HS.out.v.cell 0⟩) (fun hHeld => ?_)
              refine wpAnyH_take (i := 0) (oi := { dst := some 122, op := Op.move (Operand.tmp 10), type := 22, pos := _, after := #[], guard := none }) (v := ?_) rfl (by kernel_rfl) (by kernel_rfl) (by kernel_rfl) (fun _ _ _ h => h) (Or.inl ⟨by rfl, ?_⟩) (by assumption) ?_
              rotate_left
              · (intro w hSw; (try dsimp only at hSw); go_simp; try with_reducible rfl)
              simp only [Act.put, List.setIfInBounds_toArray, List.set_cons_zero, List.set_cons_succ]
              refine wpAnyH_take (i := 1) (oi := { dst := some 123, op := Op.binOp BinOp.eql 22 (Operand.tmp 122) (Operand.const (Value.int IntKind.u32 1)) 22, type := 4, pos := _, after := #[{ on := 0, ground := Ground.data }], guard := none }) (v := ?_) rfl (by kernel_rfl) (by kernel_rfl) (by kernel_rfl) (fun _ _ _ h => h) (Or.inl ⟨by rfl, ?_⟩) (by assumption) ?_
              rotate_left
              · (intro w hSw; (try dsimp only at hSw); go_simp; try with_reducible rfl)
              simp only [Act.put, List.setIfInBounds_toArray, List.set_cons_zero, List.set_cons_succ]
              refine wpAnyH_take (i := 2) (oi := { dst := some 124, op := Op.move (Operand.tmp 123), type := 4, pos := _, after := #[{ on := 1, ground := Ground.data }], guard := none }) (v := ?_) rfl (by kernel_rfl) (by kernel_rfl) (by kernel_rfl) (fun _ _ _ h => h) (Or.inl ⟨by rfl, ?_⟩) (by assumption) ?_
              rotate_left
              · (intro w hSw; (try dsimp only at hSw); go_simp; try with_reducible rfl)
              simp only [Act.put, List.setIfInBounds_toArray, List.set_cons_zero, List.set_cons_succ]
              refine wpAnyH_take (i := 3) (oi := { dst := some 125, op := Op.fieldAddr 39 (Operand.tmp 13) 0, type := 0, pos := _, after := #[{ on := 2, ground := Ground.guard }], guard := some (2, true) }) (v := ?_) rfl (by kernel_rfl) (by kernel_rfl) (by kernel_rfl) (fun _ _ _ h => h) (Or.inl ⟨by rfl, ?_⟩) (by assumption) ?_
              rotate_left
              · (intro w hSw; (try dsimp only at hSw); go_simp; try with_reducible rfl)
              simp only [Act.put, List.setIfInBounds_toArray, List.set_cons_zero, List.set_cons_succ]
              refine wpAnyH_take (i := 4) (oi := { dst := some 126, op := Op.load 3 (Operand.tmp 125), type := 3, pos := _, after := #[{ on := 3, ground := Ground.data }, { on := 2, ground := Ground.guard }], guard := some (2, true) }) (v := ?_) rfl (by kernel_rfl) (by kernel_rfl) (by kernel_rfl) (fun _ _ _ h => h) (Or.inl ⟨by rfl, ?_⟩) (by assumption) ?_
              rotate_left
              · (intro w hSw; (try dsimp only at hSw); go_simp; try with_reducible rfl)
              simp only [Act.put, List.setIfInBounds_toArray, List.set_cons_zero, List.set_cons_succ]
              refine wpAnyH_take (i := 5) (oi := { dst := some 127, op := Op.binOp BinOp.eql 3 (Operand.tmp 126) (Operand.const (Value.int IntKind.i64 0)) 3, type := 4, pos := _, after := #[{ on := 4, ground := Ground.data }, { on := 2, ground := Ground.guard }], guard := some (2, true) }) (v := ?_) rfl (by kernel_rfl) (by kernel_rfl) (by kernel_rfl) (fun _ _ _ h => h) (Or.inl ⟨by rfl, ?_⟩) (by assumption) ?_
              rotate_left
              · (intro w hSw; (try dsimp only at hSw); go_simp; try with_reducible rfl)
              simp only [Act.put, List.setIfInBounds_toArray, List.set_cons_zero, List.set_cons_succ]
              refine wpAnyH_take (i := 6) (oi := { dst := some 128, op := Op.load 24 (Operand.tmp 4), type := 24, pos := _, after := #[{ on := 2, ground := Ground.guard }], guard := some (2, true) }) (v := ?_) rfl (by kernel_rfl) (by kernel_rfl) (by kernel_rfl) (fun _ _ _ h => h) (Or.inl ⟨by rfl, ?_⟩) (by assumption) ?_
              rotate_left
              · (intro w hSw; (try dsimp only at hSw); go_simp; try with_reducible rfl)
              simp only [Act.put, List.setIfInBounds_toArray, List.set_cons_zero, List.set_cons_succ]
              refine wpAnyH_take (i := 7) (oi := { dst := some 129, op := Op.move (Operand.tmp 3), type := 4, pos := _, after := #[{ on := 2, ground := Ground.guard }], guard := some (2, true) }) (v := ?_) rfl (by kernel_rfl) (by kernel_rfl) (by kernel_rfl) (fun _ _ _ h => h) (Or.inl ⟨by rfl, ?_⟩) (by assumption) ?_
              rotate_left
              · (intro w hSw; (try dsimp only at hSw); go_simp; try with_reducible rfl)
              simp only [Act.put, List.setIfInBounds_toArray, List.set_cons_zero, List.set_cons_succ]
              refine wpAnyH_take (i := 8) (oi := { dst := some 130, op := Op.move (Operand.tmp 12), type := 3, pos := _, after := #[{ on := 2, ground := Ground.guard }], guard := some (2, true) }) (v := ?_) rfl (by kernel_rfl) (by kernel_rfl) (by kernel_rfl) (fun _ _ _ h => h) (Or.inl ⟨by rfl, ?_⟩) (by assumption) ?_
              rotate_left
              · (intro w hSw; (try dsimp only at hSw); go_simp; try with_reducible rfl)
              simp only [Act.put, List.setIfInBounds_toArray, List.set_cons_zero, List.set_cons_succ]
              refine wpAnyH_ready (rs := [9]) (by kernel_rfl) (by simp) ?_
              refine (AllReadyH.cons (o := { dst := some 131, op := Op.call { callee := Callee.value (Operand.func 13), args := #[Operand.tmp 128, Operand.tmp 129, Operand.const (Value.bool false), Operand.tmp 130], argTypes := #[24, 4, 4, 3] }, type := 4, pos := _, after := #[{ on := 6, ground := Ground.data }, { on := 7, ground := Ground.data }, { on := 8, ground := Ground.data }, { on := 2, ground := Ground.chain }, { on := 2, ground := Ground.guard }], guard := some (2, true) }) rfl (fun K hK => ?_) AllReadyH.nil)
              go_simp
              (go_at_call 13; (first | (with_reducible refine (HAu.out _ (HT.out.below HS.out.bel).p).mono ?_) | (with_reducible refine (HAv.out _ (HT.out.below HS.out.bel).p).mono ?_)); rintro e w5 ⟨rfl, hb⟩; replace HS := hidZ (HS.out.step hb); clear hb)
              refine hK.out _ _ ?_ (fun hHeld => ?_)
              · ((try dsimp only); exact ⟨HS.out.l.cell 0, HS.out.l.cell 1, HS.out.l.cell 2, HS.out.l.cell 3, HS.out.u.cell 0, HS.out.v.cell 0⟩)
              clear hK K
              try simp only [Act.put, List.setIfInBounds_toArray, List.set_cons_zero, List.set_cons_succ]
              refine wpAnyH_take (i := 10) (oi := { dst := some 132, op := Op.binOp BinOp.neq 4 (Operand.tmp 127) (Operand.tmp 131) 4, type := 4, pos := _, after := #[{ on := 5, ground := Ground.data }, { on := 9, ground := Ground.data }, { on := 2, ground := Ground.guard }], guard := some (2, true) }) (v := ?_) rfl (by kernel_rfl) (by kernel_rfl) (by kernel_rfl) (fun _ _ _ h => h) (Or.inl ⟨by rfl, ?_⟩) (by assumption) ?_
              rotate_left
              · (intro w hSw; (try dsimp only at hSw); go_simp; try with_reducible rfl)
              simp only [Act.put, List.setIfInBounds_toArray, List.set_cons_zero, List.set_cons_succ]
              refine wpAnyH_take (i := 11) (oi := { dst := some 133, op := Op.move (Operand.tmp 132), type := 4, pos := _, after := #[{ on := 10, ground := Ground.data }, { on := 9, ground := Ground.chain }, { on := 2, ground := Ground.guard }], guard := some (2, true) }) (v := ?_) rfl (by kernel_rfl) (by kernel_rfl) (by kernel_rfl) (fun _ _ _ h => h) (Or.inl ⟨by rfl, ?_⟩) (by assumption) ?_
              rotate_left
              · (intro w hSw; (try dsimp only at hSw); go_simp; try with_reducible rfl)
              simp only [Act.put, List.setIfInBounds_toArray, List.set_cons_zero, List.set_cons_succ]
              refine wpAnyH_take (i := 12) (oi := { dst := some 134, op := Op.fieldAddr 39 (Operand.tmp 14) 0, type := 0, pos := _, after := #[{ on := 11, ground := Ground.guard }], guard := some (11, false) }) (v := ?_) rfl (by kernel_rfl) (by kernel_rfl) (by kernel_rfl) (fun _ _ _ h => h) (Or.inl ⟨by rfl, ?_⟩) (by assumption) ?_
              rotate_left
              · (intro w hSw; (try dsimp only at hSw); go_simp; try with_reducible rfl)
              simp only [Act.put, List.setIfInBounds_toArray, List.set_cons_zero, List.set_cons_succ]
              refine wpAnyH_take (i := 13) (oi := { dst := some 135, op := Op.load 3 (Operand.tmp 134), type := 3, pos := _, after := #[{ on := 12, ground := Ground.data }, { on := 11, ground := Ground.guard }], guard := some (11, false) }) (v := ?_) rfl (by kernel_rfl) (by kernel_rfl) (by kernel_rfl) (fun _ _ _ h => h) (Or.inl ⟨by rfl, ?_⟩) (by assumption) ?_
              rotate_left
              · (intro w hSw; (try dsimp only at hSw); go_simp; try with_reducible rfl)
              simp only [Act.put, List.setIfInBounds_toArray, List.set_cons_zero, List.set_cons_succ]
              refine wpAnyH_take (i := 14) (oi := { dst := some 136, op := Op.binOp BinOp.eql 3 (Operand.tmp 135) (Operand.const (Value.int IntKind.i64 0)) 3, type := 4, pos := _, after := #[{ on := 13, ground := Ground.data }, { on := 11, ground := Ground.guard }], guard := some (11, false) }) (v := ?_) rfl (by kernel_rfl) (by kernel_rfl) (by kernel_rfl) (fun _ _ _ h => h) (Or.inl ⟨by rfl, ?_⟩) (by assumption) ?_
              rotate_left
              · (intro w hSw; (try dsimp only at hSw); go_simp; try with_reducible rfl)
              simp only [Act.put, List.setIfInBounds_toArray, List.set_cons_zero, List.set_cons_succ]
              refine wpAnyH_take (i := 15) (oi := { dst := some 137, op := Op.load 24 (Operand.tmp 4), type := 24, pos := _, after := #[{ on := 11, ground := Ground.guard }], guard := some (11, false) }) (v := ?_) rfl (by kernel_rfl) (by kernel_rfl) (by kernel_rfl) (fun _ _ _ h => h) (Or.inl ⟨by rfl, ?_⟩) (by assumption) ?_
              rotate_left
              · (intro w hSw; (try dsimp only at hSw); go_simp; try with_reducible rfl)
              simp only [Act.put, List.setIfInBounds_toArray, List.set_cons_zero, List.set_cons_succ]
              refine wpAnyH_take (i := 16) (oi := { dst := some 138, op := Op.move (Operand.tmp 3), type := 4, pos := _, after := #[{ on := 11, ground := Ground.guard }], guard := some (11, false) }) (v := ?_) rfl (by kernel_rfl) (by kernel_rfl) (by kernel_rfl) (fun _ _ _ h => h) (Or.inl ⟨by rfl, ?_⟩) (by assumption) ?_
              rotate_left
              · (intro w hSw; (try dsimp only at hSw); go_simp; try with_reducible rfl)
              simp only [Act.put, List.setIfInBounds_toArray, List.set_cons_zero, List.set_cons_succ]
              refine wpAnyH_take (i := 17) (oi := { dst := some 139, op := Op.move (Operand.tmp 12), type := 3, pos := _, after := #[{ on := 11, ground := Ground.guard }], guard := some (11, false) }) (v := ?_) rfl (by kernel_rfl) (by kernel_rfl) (by kernel_rfl) (fun _ _ _ h => h) (Or.inl ⟨by rfl, ?_⟩) (by assumption) ?_
              rotate_left
              · (intro w hSw; (try dsimp only at hSw); go_simp; try with_reducible rfl)
              simp only [Act.put, List.setIfInBounds_toArray, List.set_cons_zero, List.set_cons_succ]
              refine wpAnyH_ready (rs := [18]) (by kernel_rfl) (by simp) ?_
              refine (AllReadyH.cons (o := { dst := some 140, op := Op.call { callee := Callee.value (Operand.func 13), args := #[Operand.tmp 137, Operand.tmp 138, Operand.const (Value.bool true), Operand.tmp 139], argTypes := #[24, 4, 4, 3] }, type := 4, pos := _, after := #[{ on := 15, ground := Ground.data }, { on := 16, ground := Ground.data }, { on := 17, ground := Ground.data }, { on := 11, ground := Ground.chain }, { on := 11, ground := Ground.guard }], guard := some (11, false) }) rfl (fun K hK => ?_) AllReadyH.nil)
              go_simp
              (go_at_call 13; (first | (with_reducible refine (HAu.out _ (HT.out.below HS.out.bel).p).mono ?_) | (with_reducible refine (HAv.out _ (HT.out.below HS.out.bel).p).mono ?_)); rintro e w5 ⟨rfl, hb⟩; replace HS := hidZ (HS.out.step hb); clear hb)
              refine hK.out _ _ ?_ (fun hHeld => ?_)
              · ((try dsimp only); exact ⟨HS.out.l.cell 0, HS.out.l.cell 1, HS.out.l.cell 2, HS.out.l.cell 3, HS.out.u.cell 0, HS.out.v.cell 0⟩)
              clear hK K
              try simp only [Act.put, List.setIfInBounds_toArray, List.set_cons_zero, List.set_cons_succ]
              refine wpAnyH_take (i := 19) (oi := { dst := some 141, op := Op.binOp BinOp.neq 4 (Operand.tmp 136) (Operand.tmp 140) 4, type := 4, pos := _, after := #[{ on := 14, ground := Ground.data }, { on := 18, ground := Ground.data }, { on := 11, ground := Ground.guard }], guard := some (11, false) }) (v := ?_) rfl (by kernel_rfl) (by kernel_rfl) (by kernel_rfl) (fun _ _ _ h => h) (Or.inl ⟨by rfl, ?_⟩) (by assumption) ?_
              rotate_left
              · (intro w hSw; (try dsimp only at hSw); go_simp; try with_reducible rfl)
              simp only [Act.put, List.setIfInBounds_toArray, List.set_cons_zero, List.set_cons_succ]
              refine wpAnyH_take (i := 20) (oi := { dst := some 142, op := Op.pick (Operand.tmp 133) (Operand.const (Value.bool true)) (Operand.tmp 141), type := 4, pos := _, after := #[{ on := 11, ground := Ground.data }, { on := 19, ground := Ground.data }, { on := 2, ground := Ground.guard }], guard := some (2, true) }) (v := ?_) rfl (by kernel_rfl) (by kernel_rfl) (by kernel_rfl) (fun _ _ _ h => h) (Or.inl ⟨by rfl, ?_⟩) (by assumption) ?_
              rotate_left
              · (intro w hSw; (try dsimp only at hSw); go_simp; try with_reducible rfl)
              simp only [Act.put, List.setIfInBounds_toArray, List.set_cons_zero, List.set_cons_succ]
              refine wpAnyH_take (i := 21) (oi := { dst := some 143, op := Op.pick (Operand.tmp 124) (Operand.tmp 142) (Operand.const (Value.bool false)), type := 4, pos := _, after := #[{ on := 2, ground := Ground.data }, { on := 20, ground := Ground.data }], guard := none }) (v := ?_) rfl (by kernel_rfl) (by kernel_rfl) (by kernel_rfl) (fun _ _ _ h => h) (Or.inl ⟨by rfl, ?_⟩) (by assumption) ?_
              rotate_left
              · (intro w hSw; (try dsimp only at hSw); go_simp; try with_reducible rfl)
              simp only [Act.put, List.setIfInBounds_toArray, List.set_cons_zero, List.set_cons_succ]
              refine wpAnyH_done (by kernel_rfl) ?_ _
              (go_wp2; go_roundw; (case rel => exact ⟨k + 1, by omega, by omega, rfl, HS.out.toPC⟩); (case measure => simp [intOf]; omega))
          · have e8 : ∀ priv k, kd n priv k = 8 := fun priv k => by rw [hn]; exact (en _ _).2.1
            rw [e8] at HU0 HV0
            have z0 : ((n : Int) == 0) = false := by simp; omega
            have z1 : ((n : Int) == 1) = false := by simp; omega
            have z2 : ((n : Int) == 2) = true := by simp; omega
            have z3 : ((n : Int) == 3) = false := by simp; omega
            clear en e8 Hle HA hn hi h
            have HU := hidZ HU0
            have HV := hidZ HV0
            clear HU0 HV0 HC
            have c1 := HY1.out.t.cell
            have c2 := HY1.out.c.cell
            go_wp2_with (fail)
            go_at_call 12
            refine (HU.out _ (HT.out.below HY1.out.bel).toTC).mono ?_
            rintro e w2 ⟨rfl, hb⟩
            have HY2 := hidZ (HY1.out.step hb)
            clear hb HY1 c1 c2
            have HZ2 := hidZ (HY2.out.step (below_new w2 (.cells #[.int .i64 8, .int .i64 ul, .int .i64 ud] 39)))
            have HE2 := hidZ (Bl.new w2 39 [.int .i64 8, .int .i64 ul, .int .i64 ud])
            have c1 := HY2.out.t.cell
            have l1 : p1 < w2.heap.size := HY2.out.t.lt
            have c2 := HY2.out.c.cell
            have l2 : p2 < w2.heap.size := HY2.out.c.lt
            have m1 : ¬ (p1 = w2.heap.size) := by omega
            have m2 : ¬ (p2 = w2.heap.size) := by omega
            go_wp2_with (fail)
            go_at_call 12
            refine (HV.out _ (HT.out.below HZ2.out.bel).toTC).mono ?_
            rintro e w3 ⟨rfl, hb⟩
            have HZ3 := hidZ (HZ2.out.step hb)
            have HE3 := hidZ (HE2.out.below hb)
            clear hb HZ2 HE2 HY2 c1 c2 l1 l2 m1 m2 HU HV
            have HS3 : Hid (PU w (w3.alloc (.cells #[.int .i64 8, .int .i64 vl, .int .i64 vd] 39)) p1 p2 w2.heap.size w3.heap.size [.int .i64 P, .int .u32 B, .bool ng, .bool xn] [.int .i64 4, .int .u32 0, .int .u64 0, .int .i64 0, .int .i64 P, .int .u32 B, .bool ng, .bool xn] [.bool true, .bool false, .bool true, .int .i64 0, .bool false, .bool false, .int .u64 0, .int .u64 0, .int .u32 (n : Int), .int .u32 0, .int .u32 0, .int .i64 0] [.int .i64 8, .int .i64 ul, .int .i64 ud] [.int .i64 8, .int .i64 vl, .int .i64 vd]) := ⟨HZ3.out.step (below_new _ _), HE3.out.below (below_new _ _), Bl.new _ _ _⟩
            have c0 := HZ3.out.l.cell
            have l0 : w.heap.size < w3.heap.size := HZ3.out.l.lt
            have c1 := HE3.out.cell
            have l1 : w2.heap.size < w3.heap.size := HE3.out.lt
            have m0 : ¬ (w.heap.size = w3.heap.size) := by omega
            have m1 : ¬ (w2.heap.size = w3.heap.size) := by omega
            have HS := hidZ HS3.out.drew
            go_wp2
            clear c0 l0 c1 l1 m0 m1 HS3 HZ3 HE3
            refine wp_region_held_drew (S := fun w' => w'.cell? ⟨w.heap.size, 0, none⟩ = some (.int .i64 P) ∧ w'.cell? ⟨w.heap.size, 1, none⟩ = some (.int .u32 B) ∧ w'.cell? ⟨w.heap.size, 2, none⟩ = some (.bool ng) ∧ w'.cell? ⟨w.heap.size, 3, none⟩ = some (.bool xn) ∧ w'.cell? ⟨w2.heap.size, 0, none⟩ = some (.int .i64 8) ∧ w'.cell? ⟨w3.heap.size, 0, none⟩ = some (.int .i64 8)) (by kernel_rfl) (by (try dsimp only); exact ⟨HS.out.l.cell 0, HS.out.l.cell 1, HS.out.l.cell 2, HS.out.l.cell 3, HS.out.u.cell 0, HS.out.v.cell 0⟩) (fun hHeld => ?_)
            refine wpAnyH_take (i := 0) (oi := { dst := some 122, op := Op.move (Operand.tmp 10), type := 22, pos := _, after := #[], guard := none }) (v := ?_) rfl (by kernel_rfl) (by kernel_rfl) (by kernel_rfl) (fun _ _ _ h => h) (Or.inl ⟨by rfl, ?_⟩) (by assumption) ?_
            rotate_left
            · (intro w hSw; (try dsimp only at hSw); go_simp; try with_reducible rfl)
            simp only [Act.put, List.setIfInBounds_toArray, List.set_cons_zero, List.set_cons_succ]
            refine wpAnyH_take (i := 1) (oi := { dst := some 123, op := Op.binOp BinOp.eql 22 (Operand.tmp 122) (Operand.const (Value.int IntKind.u32 1)) 22, type := 4, pos := _, after := #[{ on := 0, ground := Ground.data }], guard := none }) (v := ?_) rfl (by kernel_rfl) (by kernel_rfl) (by kernel_rfl) (fun _ _ _ h => h) (Or.inl ⟨by rfl, ?_⟩) (by assumption) ?_
            rotate_left
            · (intro w hSw; (try dsimp only at hSw); go_simp; try with_reducible rfl)
            simp only [Act.put, List.setIfInBounds_toArray, List.set_cons_zero, List.set_cons_succ]
            refine wpAnyH_take (i := 2) (oi := { dst := some 124, op := Op.move (Operand.tmp 123), type := 4, pos := _, after := #[{ on := 1, ground := Ground.data }], guard := none }) (v := ?_) rfl (by kernel_rfl) (by kernel_rfl) (by kernel_rfl) (fun _ _ _ h => h) (Or.inl ⟨by rfl, ?_⟩) (by assumption) ?_
            rotate_left
            · (intro w hSw; (try dsimp only at hSw); go_simp; try with_reducible rfl)
            simp only [Act.put, List.setIfInBounds_toArray, List.set_cons_zero, List.set_cons_succ]
            refine wpAnyH_take (i := 3) (oi := { dst := some 125, op := Op.fieldAddr 39 (Operand.tmp 13) 0, type := 0, pos := _, after := #[{ on := 2, ground := Ground.guard }], guard := some (2, true) }) (v := undef) rfl (by kernel_rfl) (by kernel_rfl) (by kernel_rfl) (fun _ _ _ h => h) (Or.inr ⟨by rfl, rfl⟩) (by assumption) ?_
            simp only [Act.put, List.setIfInBounds_toArray, List.set_cons_zero, List.set_cons_succ]
            refine wpAnyH_take (i := 4) (oi := { dst := some 126, op := Op.load 3 (Operand.tmp 125), type := 3, pos := _, after := #[{ on := 3, ground := Ground.data }, { on := 2, ground := Ground.guard }], guard := some (2, true) }) (v := undef) rfl (by kernel_rfl) (by kernel_rfl) (by kernel_rfl) (fun _ _ _ h => h) (Or.inr ⟨by rfl, rfl⟩) (by assumption) ?_
            simp only [Act.put, List.setIfInBounds_toArray, List.set_cons_zero, List.set_cons_succ]
            refine wpAnyH_take (i := 5) (oi := { dst := some 127, op := Op.binOp BinOp.eql 3 (Operand.tmp 126) (Operand.const (Value.int IntKind.i64 0)) 3, type := 4, pos := _, after := #[{ on := 4, ground := Ground.data }, { on := 2, ground := Ground.guard }], guard := some (2, true) }) (v := undef) rfl (by kernel_rfl) (by kernel_rfl) (by kernel_rfl) (fun _ _ _ h => h) (Or.inr ⟨by rfl, rfl⟩) (by assumption) ?_
            simp only [Act.put, List.setIfInBounds_toArray, List.set_cons_zero, List.set_cons_succ]
            refine wpAnyH_take (i := 6) (oi := { dst := some 128, op := Op.load 24 (Operand.tmp 4), type := 24, pos := _, after := #[{ on := 2, ground := Ground.guard }], guard := some (2, true) }) (v := undef) rfl (by kernel_rfl) (by kernel_rfl) (by kernel_rfl) (fun _ _ _ h => h) (Or.inr ⟨by rfl, rfl⟩) (by assumption) ?_
            simp only [Act.put, List.setIfInBounds_toArray, List.set_cons_zero, List.set_cons_succ]
            refine wpAnyH_take (i := 7) (oi := { dst := some 129, op := Op.move (Operand.tmp 3), type := 4, pos := _, after := #[{ on := 2, ground := Ground.guard }], guard := some (2, true) }) (v := undef) rfl (by kernel_rfl) (by kernel_rfl) (by kernel_rfl) (fun _ _ _ h => h) (Or.inr ⟨by rfl, rfl⟩) (by assumption) ?_
            simp only [Act.put, List.setIfInBounds_toArray, List.set_cons_zero, List.set_cons_succ]
            refine wpAnyH_take (i := 8) (oi := { dst := some 130, op := Op.move (Operand.tmp 12), type := 3, pos := _, after := #[{ on := 2, ground := Ground.guard }], guard := some (2, true) }) (v := undef) rfl (by kernel_rfl) (by kernel_rfl) (by kernel_rfl) (fun _ _ _ h => h) (Or.inr ⟨by rfl, rfl⟩) (by assumption) ?_
            simp only [Act.put, List.setIfInBounds_toArray, List.set_cons_zero, List.set_cons_succ]
            refine wpAnyH_take (i := 9) (oi := { dst := some 131, op := Op.call { callee := Callee.value (Operand.func 13), args := #[Operand.tmp 128, Operand.tmp 129, Operand.const (Value.bool false), Operand.tmp 130], argTypes := #[24, 4, 4, 3] }, type := 4, pos := _, after := #[{ on := 6, ground := Ground.data }, { on := 7, ground := Ground.data }, { on := 8, ground := Ground.data }, { on := 2, ground := Ground.chain }, { on := 2, ground := Ground.guard }], guard := some (2, true) }) (v := undef) rfl (by kernel_rfl) (by kernel_rfl) (by kernel_rfl) (fun _ _ _ h => h) (Or.inr ⟨by rfl, rfl⟩) (by assumption) ?_
            simp only [Act.put, List.setIfInBounds_toArray, List.set_cons_zero, List.set_cons_succ]
            refine wpAnyH_take (i := 10) (oi := { dst := some 132, op := Op.binOp BinOp.neq 4 (Operand.tmp 127) (Operand.tmp 131) 4, type := 4, pos := _, after := #[{ on := 5, ground := Ground.data }, { on := 9, ground := Ground.data }, { on := 2, ground := Ground.guard }], guard := some (2, true) }) (v := undef) rfl (by kernel_rfl) (by kernel_rfl) (by kernel_rfl) (fun _ _ _ h => h) (Or.inr ⟨by rfl, rfl⟩) (by assumption) ?_
            simp only [Act.put, List.setIfInBounds_toArray, List.set_cons_zero, List.set_cons_succ]
            refine wpAnyH_take (i := 11) (oi := { dst := some 133, op := Op.move (Operand.tmp 132), type := 4, pos := _, after := #[{ on := 10, ground := Ground.data }, { on := 9, ground := Ground.chain }, { on := 2, ground := Ground.guard }], guard := some (2, true) }) (v := undef) rfl (by kernel_rfl) (by kernel_rfl) (by kernel_rfl) (fun _ _ _ h => h) (Or.inr ⟨by rfl, rfl⟩) (by assumption) ?_
            simp only [Act.put, List.setIfInBounds_toArray, List.set_cons_zero, List.set_cons_succ]
            refine wpAnyH_take (i := 12) (oi := { dst := some 134, op := Op.fieldAddr 39 (Operand.tmp 14) 0, type := 0, pos := _, after := #[{ on := 11, ground := Ground.guard }], guard := some (11, false) }) (v := undef) rfl (by kernel_rfl) (by kernel_rfl) (by kernel_rfl) (fun _ _ _ h => h) (Or.inr ⟨by rfl, rfl⟩) (by assumption) ?_
            simp only [Act.put, List.setIfInBounds_toArray, List.set_cons_zero, List.set_cons_succ]
            refine wpAnyH_take (i := 13) (oi := { dst := some 135, op := Op.load 3 (Operand.tmp 134), type := 3, pos := _, after := #[{ on := 12, ground := Ground.data }, { on := 11, ground := Ground.guard }], guard := some (11, false) }) (v := undef) rfl (by kernel_rfl) (by kernel_rfl) (by kernel_rfl) (fun _ _ _ h => h) (Or.inr ⟨by rfl, rfl⟩) (by assumption) ?_
            simp only [Act.put, List.setIfInBounds_toArray, List.set_cons_zero, List.set_cons_succ]
            refine wpAnyH_take (i := 14) (oi := { dst := some 136, op := Op.binOp BinOp.eql 3 (Operand.tmp 135) (Operand.const (Value.int IntKind.i64 0)) 3, type := 4, pos := _, after := #[{ on := 13, ground := Ground.data }, { on := 11, ground := Ground.guard }], guard := some (11, false) }) (v := undef) rfl (by kernel_rfl) (by kernel_rfl) (by kernel_rfl) (fun _ _ _ h => h) (Or.inr ⟨by rfl, rfl⟩) (by assumption) ?_
            simp only [Act.put, List.setIfInBounds_toArray, List.set_cons_zero, List.set_cons_succ]
            refine wpAnyH_take (i := 15) (oi := { dst := some 137, op := Op.load 24 (Operand.tmp 4), type := 24, pos := _, after := #[{ on := 11, ground := Ground.guard }], guard := some (11, false) }) (v := undef) rfl (by kernel_rfl) (by kernel_rfl) (by kernel_rfl) (fun _ _ _ h => h) (Or.inr ⟨by rfl, rfl⟩) (by assumption) ?_
            simp only [Act.put, List.setIfInBounds_toArray, List.set_cons_zero, List.set_cons_succ]
            refine wpAnyH_take (i := 16) (oi := { dst := some 138, op := Op.move (Operand.tmp 3), type := 4, pos := _, after := #[{ on := 11, ground := Ground.guard }], guard := some (11, false) }) (v := undef) rfl (by kernel_rfl) (by kernel_rfl) (by kernel_rfl) (fun _ _ _ h => h) (Or.inr ⟨by rfl, rfl⟩) (by assumption) ?_
            simp only [Act.put, List.setIfInBounds_toArray, List.set_cons_zero, List.set_cons_succ]
            refine wpAnyH_take (i := 17) (oi := { dst := some 139, op := Op.move (Operand.tmp 12), type := 3, pos := _, after := #[{ on := 11, ground := Ground.guard }], guard := some (11, false) }) (v := undef) rfl (by kernel_rfl) (by kernel_rfl) (by kernel_rfl) (fun _ _ _ h => h) (Or.inr ⟨by rfl, rfl⟩) (by assumption) ?_
            simp only [Act.put, List.setIfInBounds_toArray, List.set_cons_zero, List.set_cons_succ]
            refine wpAnyH_take (i := 18) (oi := { dst := some 140, op := Op.call { callee := Callee.value (Operand.func 13), args := #[Operand.tmp 137, Operand.tmp 138, Operand.const (Value.bool true), Operand.tmp 139], argTypes := #[24, 4, 4, 3] }, type := 4, pos := _, after := #[{ on := 15, ground := Ground.data }, { on := 16, ground := Ground.data }, { on := 17, ground := Ground.data }, { on := 11, ground := Ground.chain }, { on := 11, ground := Ground.guard }], guard := some (11, false) }) (v := undef) rfl (by kernel_rfl) (by kernel_rfl) (by kernel_rfl) (fun _ _ _ h => h) (Or.inr ⟨by rfl, rfl⟩) (by assumption) ?_
            simp only [Act.put, List.setIfInBounds_toArray, List.set_cons_zero, List.set_cons_succ]
            refine wpAnyH_take (i := 19) (oi := { dst := some 141, op := Op.binOp BinOp.neq 4 (Operand.tmp 136) (Operand.tmp 140) 4, type := 4, pos := _, after := #[{ on := 14, ground := Ground.data }, { on := 18, ground := Ground.data }, { on := 11, ground := Ground.guard }], guard := some (11, false) }) (v := undef) rfl (by kernel_rfl) (by kernel_rfl) (by kernel_rfl) (fun _ _ _ h => h) (Or.inr ⟨by rfl, rfl⟩) (by assumption) ?_
            simp only [Act.put, List.setIfInBounds_toArray, List.set_cons_zero, List.set_cons_succ]
            refine wpAnyH_take (i := 20) (oi := { dst := some 142, op := Op.pick (Operand.tmp 133) (Operand.const (Value.bool true)) (Operand.tmp 141), type := 4, pos := _, after := #[{ on := 11, ground := Ground.data }, { on := 19, ground := Ground.data }, { on := 2, ground := Ground.guard }], guard := some (2, true) }) (v := undef) rfl (by kernel_rfl) (by kernel_rfl) (by kernel_rfl) (fun _ _ _ h => h) (Or.inr ⟨by rfl, rfl⟩) (by assumption) ?_
            simp only [Act.put, List.setIfInBounds_toArray, List.set_cons_zero, List.set_cons_succ]
            refine wpAnyH_take (i := 21) (oi := { dst := some 143, op := Op.pick (Operand.tmp 124) (Operand.tmp 142) (Operand.const (Value.bool false)), type := 4, pos := _, after := #[{ on := 2, ground := Ground.data }, { on := 20, ground := Ground.data }], guard := none }) (v := ?_) rfl (by kernel_rfl) (by kernel_rfl) (by kernel_rfl) (fun _ _ _ h => h) (Or.inl ⟨by rfl, ?_⟩) (by assumption) ?_
            rotate_left
            · (intro w hSw; (try dsimp only at hSw); go_simp; try with_reducible rfl)
            simp only [Act.put, List.setIfInBounds_toArray, List.set_cons_zero, List.set_cons_succ]
            refine wpAnyH_done (by kernel_rfl) ?_ _
            (go_wp2; go_roundw; (case rel => exact ⟨k + 1, by omega, by omega, rfl, HS.out.toPC⟩); (case measure => simp [intOf]; omega))
          · have e8 : ∀ priv k, kd n priv k = 0 := fun priv k => by rw [hn]; exact (en _ _).2.2.1
            rw [e8] at HU0 HV0
            have z0 : ((n : Int) == 0) = false := by simp; omega
            have z1 : ((n : Int) == 1) = false := by simp; omega
            have z2 : ((n : Int) == 2) = false := by simp; omega
            have z3 : ((n : Int) == 3) = true := by simp; omega
            clear en e8 Hle HA hn hi h
            have HU := hidZ HU0
            have HV := hidZ HV0
            clear HU0 HV0 HC
            have c1 := HY1.out.t.cell
            have c2 := HY1.out.c.cell
            go_wp2_with (fail)
            go_at_call 12
            refine (HU.out _ (HT.out.below HY1.out.bel).toTC).mono ?_
            rintro e w2 ⟨rfl, hb⟩
            have HY2 := hidZ (HY1.out.step hb)
            clear hb HY1 c1 c2
            have HZ2 := hidZ (HY2.out.step (below_new w2 (.cells #[.int .i64 0, .int .i64 ul, .int .i64 ud] 39)))
            have HE2 := hidZ (Bl.new w2 39 [.int .i64 0, .int .i64 ul, .int .i64 ud])
            have c1 := HY2.out.t.cell
            have l1 : p1 < w2.heap.size := HY2.out.t.lt
            have c2 := HY2.out.c.cell
            have l2 : p2 < w2.heap.size := HY2.out.c.lt
            have m1 : ¬ (p1 = w2.heap.size) := by omega
            have m2 : ¬ (p2 = w2.heap.size) := by omega
            go_wp2_with (fail)
            go_at_call 12
            refine (HV.out _ (HT.out.below HZ2.out.bel).toTC).mono ?_
            rintro e w3 ⟨rfl, hb⟩
            have HZ3 := hidZ (HZ2.out.step hb)
            have HE3 := hidZ (HE2.out.below hb)
            clear hb HZ2 HE2 HY2 c1 c2 l1 l2 m1 m2 HU HV
            have HS3 : Hid (PU w (w3.alloc (.cells #[.int .i64 0, .int .i64 vl, .int .i64 vd] 39)) p1 p2 w2.heap.size w3.heap.size [.int .i64 P, .int .u32 B, .bool ng, .bool xn] [.int .i64 4, .int .u32 0, .int .u64 0, .int .i64 0, .int .i64 P, .int .u32 B, .bool ng, .bool xn] [.bool true, .bool false, .bool true, .int .i64 0, .bool false, .bool false, .int .u64 0, .int .u64 0, .int .u32 (n : Int), .int .u32 0, .int .u32 0, .int .i64 0] [.int .i64 0, .int .i64 ul, .int .i64 ud] [.int .i64 0, .int .i64 vl, .int .i64 vd]) := ⟨HZ3.out.step (below_new _ _), HE3.out.below (below_new _ _), Bl.new _ _ _⟩
            have c0 := HZ3.out.l.cell
            have l0 : w.heap.size < w3.heap.size := HZ3.out.l.lt
            have c1 := HE3.out.cell
            have l1 : w2.heap.size < w3.heap.size := HE3.out.lt
            have m0 : ¬ (w.heap.size = w3.heap.size) := by omega
            have m1 : ¬ (w2.heap.size = w3.heap.size) := by omega
            have HS := hidZ HS3.out.drew
            go_wp2
            clear c0 l0 c1 l1 m0 m1 HS3 HZ3 HE3
            refine wp_region_held_drew (S := fun w' => w'.cell? ⟨w.heap.size, 0, none⟩ = some (.int .i64 P) ∧ w'.cell? ⟨w.heap.size, 1, none⟩ = some (.int .u32 B) ∧ w'.cell? ⟨w.heap.size, 2, none⟩ = some (.bool ng) ∧ w'.cell? ⟨w.heap.size, 3, none⟩ = some (.bool xn) ∧ w'.cell? ⟨w2.heap.size, 0, none⟩ = some (.int .i64 0) ∧ w'.cell? ⟨w3.heap.size, 0, none⟩ = some (.int .i64 0)) (by kernel_rfl) (by (try dsimp only); exact ⟨HS.out.l.cell 0, HS.out.l.cell 1, HS.out.l.cell 2, HS.out.l.cell 3, HS.out.u.cell 0, HS.out.v.cell 0⟩) (fun hHeld => ?_)
            refine wpAnyH_take (i := 0) (oi := { dst := some 122, op := Op.move (Operand.tmp 10), type := 22, pos := _, after := #[], guard := none }) (v := ?_) rfl (by kernel_rfl) (by kernel_rfl) (by kernel_rfl) (fun _ _ _ h => h) (Or.inl ⟨by rfl, ?_⟩) (by assumption) ?_
            rotate_left
            · (intro w hSw; (try dsimp only at hSw); go_simp; try with_reducible rfl)
            simp only [Act.put, List.setIfInBounds_toArray, List.set_cons_zero, List.set_cons_succ]
            refine wpAnyH_take (i := 1) (oi := { dst := some 123, op := Op.binOp BinOp.eql 22 (Operand.tmp 122) (Operand.const (Value.int IntKind.u32 1)) 22, type := 4, pos := _, after := #[{ on := 0, ground := Ground.data }], guard := none }) (v := ?_) rfl (by kernel_rfl) (by kernel_rfl) (by kernel_rfl) (fun _ _ _ h => h) (Or.inl ⟨by rfl, ?_⟩) (by assumption) ?_
            rotate_left
            · (intro w hSw; (try dsimp only at hSw); go_simp; try with_reducible rfl)
            simp only [Act.put, List.setIfInBounds_toArray, List.set_cons_zero, List.set_cons_succ]
            refine wpAnyH_take (i := 2) (oi := { dst := some 124, op := Op.move (Operand.tmp 123), type := 4, pos := _, after := #[{ on := 1, ground := Ground.data }], guard := none }) (v := ?_) rfl (by kernel_rfl) (by kernel_rfl) (by kernel_rfl) (fun _ _ _ h => h) (Or.inl ⟨by rfl, ?_⟩) (by assumption) ?_
            rotate_left
            · (intro w hSw; (try dsimp only at hSw); go_simp; try with_reducible rfl)
            simp only [Act.put, List.setIfInBounds_toArray, List.set_cons_zero, List.set_cons_succ]
            refine wpAnyH_take (i := 3) (oi := { dst := some 125, op := Op.fieldAddr 39 (Operand.tmp 13) 0, type := 0, pos := _, after := #[{ on := 2, ground := Ground.guard }], guard := some (2, true) }) (v := undef) rfl (by kernel_rfl) (by kernel_rfl) (by kernel_rfl) (fun _ _ _ h => h) (Or.inr ⟨by rfl, rfl⟩) (by assumption) ?_
            simp only [Act.put, List.setIfInBounds_toArray, List.set_cons_zero, List.set_cons_succ]
            refine wpAnyH_take (i := 4) (oi := { dst := some 126, op := Op.load 3 (Operand.tmp 125), type := 3, pos := _, after := #[{ on := 3, ground := Ground.data }, { on := 2, ground := Ground.guard }], guard := some (2, true) }) (v := undef) rfl (by kernel_rfl) (by kernel_rfl) (by kernel_rfl) (fun _ _ _ h => h) (Or.inr ⟨by rfl, rfl⟩) (by assumption) ?_
            simp only [Act.put, List.setIfInBounds_toArray, List.set_cons_zero, List.set_cons_succ]
            refine wpAnyH_take (i := 5) (oi := { dst := some 127, op := Op.binOp BinOp.eql 3 (Operand.tmp 126) (Operand.const (Value.int IntKind.i64 0)) 3, type := 4, pos := _, after := #[{ on := 4, ground := Ground.data }, { on := 2, ground := Ground.guard }], guard := some (2, true) }) (v := undef) rfl (by kernel_rfl) (by kernel_rfl) (by kernel_rfl) (fun _ _ _ h => h) (Or.inr ⟨by rfl, rfl⟩) (by assumption) ?_
            simp only [Act.put, List.setIfInBounds_toArray, List.set_cons_zero, List.set_cons_succ]
            refine wpAnyH_take (i := 6) (oi := { dst := some 128, op := Op.load 24 (Operand.tmp 4), type := 24, pos := _, after := #[{ on := 2, ground := Ground.guard }], guard := some (2, true) }) (v := undef) rfl (by kernel_rfl) (by kernel_rfl) (by kernel_rfl) (fun _ _ _ h => h) (Or.inr ⟨by rfl, rfl⟩) (by assumption) ?_
            simp only [Act.put, List.setIfInBounds_toArray, List.set_cons_zero, List.set_cons_succ]
            refine wpAnyH_take (i := 7) (oi := { dst := some 129, op := Op.move (Operand.tmp 3), type := 4, pos := _, after := #[{ on := 2, ground := Ground.guard }], guard := some (2, true) }) (v := undef) rfl (by kernel_rfl) (by kernel_rfl) (by kernel_rfl) (fun _ _ _ h => h) (Or.inr ⟨by rfl, rfl⟩) (by assumption) ?_
            simp only [Act.put, List.setIfInBounds_toArray, List.set_cons_zero, List.set_cons_succ]
            refine wpAnyH_take (i := 8) (oi := { dst := some 130, op := Op.move (Operand.tmp 12), type := 3, pos := _, after := #[{ on := 2, ground := Ground.guard }], guard := some (2, true) }) (v := undef) rfl (by kernel_rfl) (by kernel_rfl) (by kernel_rfl) (fun _ _ _ h => h) (Or.inr ⟨by rfl, rfl⟩) (by assumption) ?_
            simp only [Act.put, List.setIfInBounds_toArray, List.set_cons_zero, List.set_cons_succ]
            refine wpAnyH_take (i := 9) (oi := { dst := some 131, op := Op.call { callee := Callee.value (Operand.func 13), args := #[Operand.tmp 128, Operand.tmp 129, Operand.const (Value.bool false), Operand.tmp 130], argTypes := #[24, 4, 4, 3] }, type := 4, pos := _, after := #[{ on := 6, ground := Ground.data }, { on := 7, ground := Ground.data }, { on := 8, ground := Ground.data }, { on := 2, ground := Ground.chain }, { on := 2, ground := Ground.guard }], guard := some (2, true) }) (v := undef) rfl (by kernel_rfl) (by kernel_rfl) (by kernel_rfl) (fun _ _ _ h => h) (Or.inr ⟨by rfl, rfl⟩) (by assumption) ?_
            simp only [Act.put, List.setIfInBounds_toArray, List.set_cons_zero, List.set_cons_succ]
            refine wpAnyH_take (i := 10) (oi := { dst := some 132, op := Op.binOp BinOp.neq 4 (Operand.tmp 127) (Operand.tmp 131) 4, type := 4, pos := _, after := #[{ on := 5, ground := Ground.data }, { on := 9, ground := Ground.data }, { on := 2, ground := Ground.guard }], guard := some (2, true) }) (v := undef) rfl (by kernel_rfl) (by kernel_rfl) (by kernel_rfl) (fun _ _ _ h => h) (Or.inr ⟨by rfl, rfl⟩) (by assumption) ?_
            simp only [Act.put, List.setIfInBounds_toArray, List.set_cons_zero, List.set_cons_succ]
            refine wpAnyH_take (i := 11) (oi := { dst := some 133, op := Op.move (Operand.tmp 132), type := 4, pos := _, after := #[{ on := 10, ground := Ground.data }, { on := 9, ground := Ground.chain }, { on := 2, ground := Ground.guard }], guard := some (2, true) }) (v := undef) rfl (by kernel_rfl) (by kernel_rfl) (by kernel_rfl) (fun _ _ _ h => h) (Or.inr ⟨by rfl, rfl⟩) (by assumption) ?_
            simp only [Act.put, List.setIfInBounds_toArray, List.set_cons_zero, List.set_cons_succ]
            refine wpAnyH_take (i := 12) (oi := { dst := some 134, op := Op.fieldAddr 39 (Operand.tmp 14) 0, type := 0, pos := _, after := #[{ on := 11, ground := Ground.guard }], guard := some (11, false) }) (v := undef) rfl (by kernel_rfl) (by kernel_rfl) (by kernel_rfl) (fun _ _ _ h => h) (Or.inr ⟨by rfl, rfl⟩) (by assumption) ?_
            simp only [Act.put, List.setIfInBounds_toArray, List.set_cons_zero, List.set_cons_succ]
            refine wpAnyH_take (i := 13) (oi := { dst := some 135, op := Op.load 3 (Operand.tmp 134), type := 3, pos := _, after := #[{ on := 12, ground := Ground.data }, { on := 11, ground := Ground.guard }], guard := some (11, false) }) (v := undef) rfl (by kernel_rfl) (by kernel_rfl) (by kernel_rfl) (fun _ _ _ h => h) (Or.inr ⟨by rfl, rfl⟩) (by assumption) ?_
            simp only [Act.put, List.setIfInBounds_toArray, List.set_cons_zero, List.set_cons_succ]
            refine wpAnyH_take (i := 14) (oi := { dst := some 136, op := Op.binOp BinOp.eql 3 (Operand.tmp 135) (Operand.const (Value.int IntKind.i64 0)) 3, type := 4, pos := _, after := #[{ on := 13, ground := Ground.data }, { on := 11, ground := Ground.guard }], guard := some (11, false) }) (v := undef) rfl (by kernel_rfl) (by kernel_rfl) (by kernel_rfl) (fun _ _ _ h => h) (Or.inr ⟨by rfl, rfl⟩) (by assumption) ?_
            simp only [Act.put, List.setIfInBounds_toArray, List.set_cons_zero, List.set_cons_succ]
            refine wpAnyH_take (i := 15) (oi := { dst := some 137, op := Op.load 24 (Operand.tmp 4), type := 24, pos := _, after := #[{ on := 11, ground := Ground.guard }], guard := some (11, false) }) (v := undef) rfl (by kernel_rfl) (by kernel_rfl) (by kernel_rfl) (fun _ _ _ h => h) (Or.inr ⟨by rfl, rfl⟩) (by assumption) ?_
            simp only [Act.put, List.setIfInBounds_toArray, List.set_cons_zero, List.set_cons_succ]
            refine wpAnyH_take (i := 16) (oi := { dst := some 138, op := Op.move (Operand.tmp 3), type := 4, pos := _, after := #[{ on := 11, ground := Ground.guard }], guard := some (11, false) }) (v := undef) rfl (by kernel_rfl) (by kernel_rfl) (by kernel_rfl) (fun _ _ _ h => h) (Or.inr ⟨by rfl, rfl⟩) (by assumption) ?_
            simp only [Act.put, List.setIfInBounds_toArray, List.set_cons_zero, List.set_cons_succ]
            refine wpAnyH_take (i := 17) (oi := { dst := some 139, op := Op.move (Operand.tmp 12), type := 3, pos := _, after := #[{ on := 11, ground := Ground.guard }], guard := some (11, false) }) (v := undef) rfl (by kernel_rfl) (by kernel_rfl) (by kernel_rfl) (fun _ _ _ h => h) (Or.inr ⟨by rfl, rfl⟩) (by assumption) ?_
            simp only [Act.put, List.setIfInBounds_toArray, List.set_cons_zero, List.set_cons_succ]
            refine wpAnyH_take (i := 18) (oi := { dst := some 140, op := Op.call { callee := Callee.value (Operand.func 13), args := #[Operand.tmp 137, Operand.tmp 138, Operand.const (Value.bool true), Operand.tmp 139], argTypes := #[24, 4, 4, 3] }, type := 4, pos := _, after := #[{ on := 15, ground := Ground.data }, { on := 16, ground := Ground.data }, { on := 17, ground := Ground.data }, { on := 11, ground := Ground.chain }, { on := 11, ground := Ground.guard }], guard := some (11, false) }) (v := undef) rfl (by kernel_rfl) (by kernel_rfl) (by kernel_rfl) (fun _ _ _ h => h) (Or.inr ⟨by rfl, rfl⟩) (by assumption) ?_
            simp only [Act.put, List.setIfInBounds_toArray, List.set_cons_zero, List.set_cons_succ]
            refine wpAnyH_take (i := 19) (oi := { dst := some 141, op := Op.binOp BinOp.neq 4 (Operand.tmp 136) (Operand.tmp 140) 4, type := 4, pos := _, after := #[{ on := 14, ground := Ground.data }, { on := 18, ground := Ground.data }, { on := 11, ground := Ground.guard }], guard := some (11, false) }) (v := undef) rfl (by kernel_rfl) (by kernel_rfl) (by kernel_rfl) (fun _ _ _ h => h) (Or.inr ⟨by rfl, rfl⟩) (by assumption) ?_
            simp only [Act.put, List.setIfInBounds_toArray, List.set_cons_zero, List.set_cons_succ]
            refine wpAnyH_take (i := 20) (oi := { dst := some 142, op := Op.pick (Operand.tmp 133) (Operand.const (Value.bool true)) (Operand.tmp 141), type := 4, pos := _, after := #[{ on := 11, ground := Ground.data }, { on := 19, ground := Ground.data }, { on := 2, ground := Ground.guard }], guard := some (2, true) }) (v := undef) rfl (by kernel_rfl) (by kernel_rfl) (by kernel_rfl) (fun _ _ _ h => h) (Or.inr ⟨by rfl, rfl⟩) (by assumption) ?_
            simp only [Act.put, List.setIfInBounds_toArray, List.set_cons_zero, List.set_cons_succ]
            refine wpAnyH_take (i := 21) (oi := { dst := some 143, op := Op.pick (Operand.tmp 124) (Operand.tmp 142) (Operand.const (Value.bool false)), type := 4, pos := _, after := #[{ on := 2, ground := Ground.data }, { on := 20, ground := Ground.data }], guard := none }) (v := ?_) rfl (by kernel_rfl) (by kernel_rfl) (by kernel_rfl) (fun _ _ _ h => h) (Or.inl ⟨by rfl, ?_⟩) (by assumption) ?_
            rotate_left
            · (intro w hSw; (try dsimp only at hSw); go_simp; try with_reducible rfl)
            simp only [Act.put, List.setIfInBounds_toArray, List.set_cons_zero, List.set_cons_succ]
            refine wpAnyH_done (by kernel_rfl) ?_ _
            (go_wp2; go_roundw; (case rel => exact ⟨k + 1, by omega, by omega, rfl, HS.out.toPC⟩); (case measure => simp [intOf]; omega))
        · obtain rfl : k = 4 := by omega
          clear h2 hk hk1
          go_wp2
          go_roundw
          case rel => exact ⟨n + 1, by omega, rfl, HY1.out.toPX⟩
          case measure => simp [intOf]; omega
    · obtain rfl : n = 4 := by omega
      go_wp2
      go_ret
      exact ⟨rfl, HX1.out.bel⟩
end Go.Proofs.YtmmocnejacflmabDoor
