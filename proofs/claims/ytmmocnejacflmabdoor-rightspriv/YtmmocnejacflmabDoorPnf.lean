import Derived.Test.YtmmocnejacflmabDoorPb
namespace Go.Proofs.YtmmocnejacflmabDoor
open Go.RowKit
set_option linter.unusedVariables false
set_option linter.unusedSimpArgs false
set_option maxRecDepth 100000 in
set_option maxHeartbeats 16000000 in
theorem priv_nf (ap bt sz dom P B s d R : Int) (ng xn : Bool) (w : World) (hT : TV w) (kd : Nat → Bool → Int → Int) (X : Bool → Int → Bool) (dA : Nat → Int)
    (hP : bits .and .i64 ap 7 = P) (hB : bits .and .u32 bt 63 = B) (hs : IntKind.i64.wrap (1 + bits .and .i64 sz 3) = s) (hd0 : bits .and .i64 dom 15 = d) (q4 : (s == 4) = false) (hdr : 0 ≤ d ∧ d ≤ 15) (hA : ∀ n : Nat, n < 4 → (n : Int) * 2 ^ (2 * d).toNat % 4294967296 = dA n)
    (b1 : bits .and .i64 P 1 = 0)
    (HC0 : ∀ (n : Nat), n < 4 → ∀ (priv : Bool) (k : Int), ∃ ul ud : Int, ∀ w, TC w → Calls Tryd.prog 12 #[.agg #[.int .i64 s, .int .u32 0, .int .u64 0, .int .i64 d, .int .i64 P, .int .u32 B, .bool ng, .bool xn], .agg #[.bool true, .bool false, .bool true, .int .i64 0, .bool false, .bool false, .int .u64 0, .int .u64 0, .int .u32 (dA n), .int .u32 0, .int .u32 0, .int .i64 0], .bool priv, .int .i64 k] w fun e w' => e = .returned (.agg #[.int .i64 (kd n priv k), .int .i64 ul, .int .i64 ud]) ∧ Below w.heap.size w w')
    (HA0 : ∀ (priv : Bool) (k : Int) w, TP w → Calls Tryd.prog 13 #[.agg #[.int .i64 P, .int .u32 B, .bool ng, .bool xn], .bool true, .bool priv, .int .i64 k] w fun e w' => e = .returned (.bool (X priv k)) ∧ Below w.heap.size w w')
    (hk7 : ∀ n priv k, kd n priv k = 7)
    : Calls Tryd.prog 4 #[.agg #[.int .i64 ap, .int .u32 bt, .bool ng, .bool xn], .int .i64 sz, .int .i64 dom, .bool true] w fun e w' => e = .returned (.bool true) ∧ Below w.heap.size w w' := by
  have HC := hidZ HC0
  have HA := hidZ HA0
  have HD := hidZ hA
  have Hk7 := hidZ hk7
  have HT := hidZ hT
  have hw0 : IntKind.i64.wrap (2 * d) = 2 * d := by rw [IntKind.wrap_i64]; omega
  have hm : 0 ≤ 2 * d := by omega
  have hm2 : 2 * d < 32 := by omega
  have HW0 := hidZ (below_new w (.cells #[.int .i64 ap, .int .u32 bt, .bool ng, .bool xn] 24))
  have HL0 := hidZ (Bl.new w 24 [.int .i64 ap, .int .u32 bt, .bool ng, .bool xn])
  clear HC0 HA0 hT hA hdr hk7
  go_enter Tryd.func4, Tryd.ntmps4
  go_wp2_with (fail)
  go_at_call 11
  refine (alive_any _ ⟨(HT.out.below HW0.out).p, (HT.out.below HW0.out).f⟩).mono ?_
  rintro e w1 ⟨rfl, hb⟩
  have HW1 := hidZ (Below.step HW0.out hb)
  have HL1 := hidZ (HL0.out.below hb)
  clear hb HW0 HL0
  have c0 := HL1.out.cell
  have f0 := HL1.out.frozen
  have l0 := HL1.out.lt
  have n0 : ¬ (w.heap.size = w1.heap.size) := by omega
  have HX0 : Hid (PX w (((w1.setCell ⟨w.heap.size, 0, none⟩ (.int .i64 P)).setCell ⟨w.heap.size, 1, none⟩ (.int .u32 B)).alloc (.cells #[.int .i64 s, .int .u32 0, .int .u64 0, .int .i64 d, .int .i64 P, .int .u32 B, .bool ng, .bool xn] 35)) w1.heap.size [.int .i64 P, .int .u32 B, .bool ng, .bool xn] [.int .i64 s, .int .u32 0, .int .u64 0, .int .i64 d, .int .i64 P, .int .u32 B, .bool ng, .bool xn]) := by
    have h := Bl.new ((w1.setCell ⟨w.heap.size, 0, none⟩ (.int .i64 P)).setCell ⟨w.heap.size, 1, none⟩ (.int .u32 B)) 35 [.int .i64 s, .int .u32 0, .int .u64 0, .int .i64 d, .int .i64 P, .int .u32 B, .bool ng, .bool xn]
    rw [show ((w1.setCell ⟨w.heap.size, 0, none⟩ (.int .i64 P)).setCell ⟨w.heap.size, 1, none⟩ (.int .u32 B)).heap.size = w1.heap.size by simp] at h
    have hB2 : Below w.heap.size w ((w1.setCell ⟨w.heap.size, 0, none⟩ (.int .i64 P)).setCell ⟨w.heap.size, 1, none⟩ (.int .u32 B)) := Below.setCell (Below.setCell HW1.out (Nat.le_refl _) _) (Nat.le_refl _) _
    exact ⟨Below.alloc hB2 hB2.size _, (Bl.setP (Bl.setP HL1.out 0 _) 1 _).below (below_new _ _), h⟩
  go_wp2
  generalize w1.heap.size = p1 at *
  clear c0 f0 l0 n0 HW1 HL1
  go_loopw [10] (fun i wr => ∃ (n : Nat), n ≤ 4 ∧ i = .int .u32 n ∧ PX w wr p1 [.int .i64 P, .int .u32 B, .bool ng, .bool xn] [.int .i64 s, .int .u32 0, .int .u64 0, .int .i64 d, .int .i64 P, .int .u32 B, .bool ng, .bool xn]) (fun i _ => 4 - (intOf i).toNat)
  case atStart => exact ⟨0, by omega, rfl, HX0.out⟩
  case round =>
    obtain ⟨n, hn, rfl, hX⟩ := hrel
    have HX1 := hidZ hX
    clear hX HX0
    by_cases h : n < 4
    · have hi : (n : Int) < 4 := by omega
      have hwn : IntKind.u32.wrap ((n : Int) + 1) = ((n + 1 : Nat) : Int) := by rw [IntKind.wrap_u32]; omega
      have hsh := HD.out n h
      have HY0 : Hid (PC w (wr.alloc (.cells #[.bool true, .bool false, .bool true, .int .i64 0, .bool false, .bool false, .int .u64 0, .int .u64 0, .int .u32 (dA n), .int .u32 0, .int .u32 0, .int .i64 0] 37)) p1 wr.heap.size [.int .i64 P, .int .u32 B, .bool ng, .bool xn] [.int .i64 s, .int .u32 0, .int .u64 0, .int .i64 d, .int .i64 P, .int .u32 B, .bool ng, .bool xn] [.bool true, .bool false, .bool true, .int .i64 0, .bool false, .bool false, .int .u64 0, .int .u64 0, .int .u32 (dA n), .int .u32 0, .int .u32 0, .int .i64 0]) := ⟨HX1.out.step (below_new _ _), Bl.new _ _ _⟩
      clear hn HX1
      go_wp2
      try rw [hsh]
      clear hsh
      generalize wr.heap.size = p2 at *
      go_loopw [12] (fun i wq => ∃ (k : Nat), 1 ≤ k ∧ k ≤ 4 ∧ i = .int .i64 k ∧ PC w wq p1 p2 [.int .i64 P, .int .u32 B, .bool ng, .bool xn] [.int .i64 s, .int .u32 0, .int .u64 0, .int .i64 d, .int .i64 P, .int .u32 B, .bool ng, .bool xn] [.bool true, .bool false, .bool true, .int .i64 0, .bool false, .bool false, .int .u64 0, .int .u64 0, .int .u32 (dA n), .int .u32 0, .int .u32 0, .int .i64 0]) (fun i _ => 4 - (intOf i).toNat)
      case atStart => exact ⟨1, by omega, by omega, rfl, HY0.out⟩
      case round =>
        obtain ⟨k, hk1, hk, rfl, hY⟩ := hrel
        have HY1 := hidZ hY
        clear hY HY0
        by_cases h2 : k < 4
        · have hi2 : (k : Int) ≤ 3 := by omega
          have hwk : IntKind.i64.wrap ((k : Int) + 1) = ((k + 1 : Nat) : Int) := by rw [IntKind.wrap_i64]; omega
          clear hk
          obtain ⟨ul, ud, HU0⟩ := HC.out n h false k
          obtain ⟨vl, vd, HV0⟩ := HC.out n h true k
          rw [Hk7.out] at HU0 HV0
          clear Hk7 HA
          have HU := hidZ HU0
          have HV := hidZ HV0
          clear HU0 HV0 HC
          have c1 := HY1.out.t.cell
          have c2 := HY1.out.c.cell
          go_wp2_with (fail)
          go_at_call 12
          refine (HU.out _ (HT.out.below HY1.out.bel).toTC).mono ?_
          rintro e w2 ⟨rfl, hb⟩
          have HY2 := hidZ (HY1.out.step hb)
          clear hb HY1 c1 c2
          have HZ2 := hidZ (HY2.out.step (below_new w2 (.cells #[.int .i64 7, .int .i64 ul, .int .i64 ud] 39)))
          have HE2 := hidZ (Bl.new w2 39 [.int .i64 7, .int .i64 ul, .int .i64 ud])
          have c1 := HY2.out.t.cell
          have l1 : p1 < w2.heap.size := HY2.out.t.lt
          have c2 := HY2.out.c.cell
          have l2 : p2 < w2.heap.size := HY2.out.c.lt
          have m1 : ¬ (p1 = w2.heap.size) := by omega
          have m2 : ¬ (p2 = w2.heap.size) := by omega
          go_wp2_with (fail)
          go_at_call 12
          refine (HV.out _ (HT.out.below HZ2.out.bel).toTC).mono ?_
          rintro e w3 ⟨rfl, hb⟩
          have HZ3 := hidZ (HZ2.out.step hb)
          have HE3 := hidZ (HE2.out.below hb)
          clear hb HZ2 HE2 HY2 c1 c2 l1 l2 m1 m2 HU HV
          have HS3 : Hid (PU w (w3.alloc (.cells #[.int .i64 7, .int .i64 vl, .int .i64 vd] 39)) p1 p2 w2.heap.size w3.heap.size [.int .i64 P, .int .u32 B, .bool ng, .bool xn] [.int .i64 s, .int .u32 0, .int .u64 0, .int .i64 d, .int .i64 P, .int .u32 B, .bool ng, .bool xn] [.bool true, .bool false, .bool true, .int .i64 0, .bool false, .bool false, .int .u64 0, .int .u64 0, .int .u32 (dA n), .int .u32 0, .int .u32 0, .int .i64 0] [.int .i64 7, .int .i64 ul, .int .i64 ud] [.int .i64 7, .int .i64 vl, .int .i64 vd]) := ⟨HZ3.out.step (below_new _ _), HE3.out.below (below_new _ _), Bl.new _ _ _⟩
          have c0 := HZ3.out.l.cell
          have l0 : w.heap.size < w3.heap.size := HZ3.out.l.lt
          have c1 := HE3.out.cell
          have l1 : w2.heap.size < w3.heap.size := HE3.out.lt
          have m0 : ¬ (w.heap.size = w3.heap.size) := by omega
          have m1 : ¬ (w2.heap.size = w3.heap.size) := by omega
          go_wp2
          go_roundw
          case rel => exact ⟨k + 1, by omega, by omega, rfl, HS3.out.toPC⟩
          case measure => simp [intOf]; omega
        · obtain rfl : k = 4 := by omega
          clear h2 hk hk1
          go_wp2
          go_roundw
          case rel => exact ⟨n + 1, by omega, rfl, HY1.out.toPX⟩
          case measure => simp [intOf]; omega
    · obtain rfl : n = 4 := by omega
      go_wp2
      go_ret
      exact ⟨rfl, HX1.out.bel⟩
end Go.Proofs.YtmmocnejacflmabDoor
