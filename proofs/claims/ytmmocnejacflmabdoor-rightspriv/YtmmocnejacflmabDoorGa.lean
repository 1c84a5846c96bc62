import Derived.Test.YtmmocnejacflmabDoorGt
namespace Go.Proofs.YtmmocnejacflmabDoor
open Go.RowKit
set_option linter.unusedVariables false
set_option linter.unusedSimpArgs false
set_option maxRecDepth 100000 in
set_option maxHeartbeats 1000000 in
theorem allowed_off (ap : Nat) (priv a b c d : Bool) (w : World) (h : ap < 8) (hR : RoB w 2 (ap * 4) ⟨a, b, c, d⟩) :
    Calls Tryd.prog 22 #[.int .i64 ap, .bool false, .bool priv] w fun e w' => e = .returned (.agg #[.bool (if priv then a else c), .bool (if priv then b else d)]) ∧ Below w.heap.size w w' := by
  obtain ⟨c0, c1, c2, c3⟩ := hR
  have l0 := cell_lt c0
  simp only at c0 c1 c2 c3 l0
  have hg : ¬ (2 = w.heap.size) := by omega
  have hi : (ap : Int) < 8 := by omega
  cases priv
  · go_enter Tryd.func22, Tryd.ntmps22
    go_wp2
    refine bodyPost_ret (v := .agg #[.bool c, .bool d]) (by simp [results, Tryd.results22, go_sem]) rfl ⟨rfl, (by (repeat (first | apply below_drew | refine Below.setCell ?_ (by simp) _ | refine Below.alloc ?_ (by simp) _)); exact Below.refl _ _)⟩
  · go_enter Tryd.func22, Tryd.ntmps22
    go_wp2
    refine bodyPost_ret (v := .agg #[.bool a, .bool b]) (by simp [results, Tryd.results22, go_sem]) rfl ⟨rfl, (by (repeat (first | apply below_drew | refine Below.setCell ?_ (by simp) _ | refine Below.alloc ?_ (by simp) _)); exact Below.refl _ _)⟩
set_option maxRecDepth 100000 in
set_option maxHeartbeats 1000000 in
theorem allowed_on (ap : Nat) (priv a b c d a' b' c' d' : Bool) (w : World) (h : ap < 8) (hR0 : RoB w 2 (ap * 4) ⟨a', b', c', d'⟩) (hR : RoB w 3 (ap / 2 * 4) ⟨a, b, c, d⟩) :
    Calls Tryd.prog 22 #[.int .i64 ap, .bool true, .bool priv] w fun e w' => e = .returned (.agg #[.bool (if priv then a else c), .bool (if priv then b else d)]) ∧ Below w.heap.size w w' := by
  obtain ⟨k0, k1, k2, k3⟩ := hR0
  have l1 := cell_lt k0
  obtain ⟨c0, c1, c2, c3⟩ := hR
  have l0 := cell_lt c0
  simp only at c0 c1 c2 c3 l0 k0 k1 k2 k3 l1
  have hg : ¬ (3 = w.heap.size) := by omega
  have hg2 : ¬ (3 = w.heap.size + 1) := by omega
  have hg3 : ¬ (2 = w.heap.size) := by omega
  have hi : (ap : Int) < 8 := by omega
  have hd : (ap : Int) / 2 < 4 := by omega
  have hd0 : 0 ≤ (ap : Int) / 2 := by omega
  have ht : ((ap : Int) / 2).toNat = ap / 2 := by omega
  have hq : (ap : Int).tdiv 2 = (ap : Int) / 2 := Int.tdiv_eq_ediv_of_nonneg (by omega)
  cases priv
  · go_enter Tryd.func22, Tryd.ntmps22
    go_wp2
    refine bodyPost_ret (v := .agg #[.bool c, .bool d]) (by simp [results, Tryd.results22, go_sem]) rfl ⟨rfl, (by (repeat (first | apply below_drew | refine Below.setCell ?_ (by simp) _ | refine Below.alloc ?_ (by simp) _)); exact Below.refl _ _)⟩
  · go_enter Tryd.func22, Tryd.ntmps22
    go_wp2
    refine bodyPost_ret (v := .agg #[.bool a, .bool b]) (by simp [results, Tryd.results22, go_sem]) rfl ⟨rfl, (by (repeat (first | apply below_drew | refine Below.setCell ?_ (by simp) _ | refine Below.alloc ?_ (by simp) _)); exact Below.refl _ _)⟩
theorem lAP_at (ap : Nat) (h : ap < 8) : lAP[ap]? = some (lAP.getD ap ⟨false, false, false, false⟩) := by
  have : ap < lAP.length := h
  simp [List.getD, this]
theorem lHalf_at (q : Nat) (h : q < 4) : lHalf[q]? = some (lHalf.getD q ⟨false, false, false, false⟩) := by
  have : q < lHalf.length := h
  simp [List.getD, this]
theorem allowed_any (ap : Nat) (afe priv : Bool) (w : World) (h : ap < 8) (hT : TP w) :
    Calls Tryd.prog 22 #[.int .i64 ap, .bool afe, .bool priv] w fun e w' => e = .returned (.agg #[.bool (maR ap afe priv), .bool (maW ap afe priv)]) ∧ Below w.heap.size w w' := by
  cases afe
  · exact allowed_off ap priv _ _ _ _ w h (hT.ap _ _ (lAP_at ap h))
  · exact allowed_on ap priv _ _ _ _ _ _ _ _ w h (hT.ap _ _ (lAP_at ap h)) (hT.half _ _ (lHalf_at (ap / 2) (by omega)))
set_option maxRecDepth 100000 in
set_option maxHeartbeats 1000000 in
theorem allows_no (ap bt : Int) (ng xn afe priv : Bool) (k : Int) (w : World) (h : ¬ (0 ≤ ap ∧ ap < 8)) :
    Calls Tryd.prog 13 #[.agg #[.int .i64 ap, .int .u32 bt, .bool ng, .bool xn], .bool afe, .bool priv, .int .i64 k] w fun e w' => e = .returned (.bool false) ∧ Below w.heap.size w w' := by
  have HN : Hid (∀ o, Below w.heap.size w (w.alloc o)) := below_new w
  by_cases h1 : ap < 0
  · have q1 : decide (ap < 0) = true := by simp [h1]
    clear h
    go_enter Tryd.func13, Tryd.ntmps13
    go_wp2
    go_ret
    exact ⟨rfl, HN.out _⟩
  · have q1 : decide (ap < 0) = false := by simp; omega
    have q2 : decide (8 ≤ ap) = true := by simp; omega
    clear h
    go_enter Tryd.func13, Tryd.ntmps13
    go_wp2
    go_ret
    exact ⟨rfl, HN.out _⟩
set_option maxRecDepth 100000 in
set_option maxHeartbeats 2000000 in
theorem allows_yes (ap bt : Int) (ng xn afe priv r s : Bool) (k : Int) (w : World) (h1 : 0 ≤ ap) (h2 : ap < 8) (hT : TP w)
    (HA : ∀ w, TP w → Calls Tryd.prog 22 #[.int .i64 ap, .bool afe, .bool priv] w fun e w' => e = .returned (.agg #[.bool r, .bool s]) ∧ Below w.heap.size w w') :
    Calls Tryd.prog 13 #[.agg #[.int .i64 ap, .int .u32 bt, .bool ng, .bool xn], .bool afe, .bool priv, .int .i64 k] w fun e w' => e = .returned (.bool (if k = 1 then r && !xn else if k = 2 then r else if k = 3 then s else false)) ∧ Below w.heap.size w w' := by
  have q1 : decide (ap < 0) = false := by simp; omega
  have q2 : decide (8 ≤ ap) = false := by simp; omega
  have HT : Hid (TP (w.alloc (.cells #[.int .i64 ap, .int .u32 bt, .bool ng, .bool xn] 24))) := hT.below (below_new w _)
  have HB0 : Hid (Below w.heap.size w (w.alloc (.cells #[.int .i64 ap, .int .u32 bt, .bool ng, .bool xn] 24))) := below_new w _
  have HL0 : Hid (Bl (w.alloc (.cells #[.int .i64 ap, .int .u32 bt, .bool ng, .bool xn] 24)) w.heap.size 24 [.int .i64 ap, .int .u32 bt, .bool ng, .bool xn]) := Bl.new _ _ _
  have HA' : Hid (∀ w, TP w → Calls Tryd.prog 22 #[.int .i64 ap, .bool afe, .bool priv] w fun e w' => e = .returned (.agg #[.bool r, .bool s]) ∧ Below w.heap.size w w') := HA
  clear hT HA h1 h2
  have ek : (k = 1 ∨ k = 2 ∨ k = 3 ∨ (¬ (k = 1) ∧ ¬ (k = 2) ∧ ¬ (k = 3))) := by omega
  go_enter Tryd.func13, Tryd.ntmps13
  go_wp2_with (fail)
  go_at_call 22
  refine (HA'.out _ HT.out).mono ?_
  rintro e w1 ⟨rfl, hb⟩
  have HL1 : Hid (Bl w1 w.heap.size 24 [.int .i64 ap, .int .u32 bt, .bool ng, .bool xn]) := HL0.out.below hb
  have HB1 : Hid (Below w.heap.size w w1) := Below.step HB0.out hb
  clear hb HL0 HB0 HT HA'
  have c0 := HL1.out.cell
  have l0 := HL1.out.lt
  have HN : Hid (∀ o, Below w.heap.size w (w1.alloc o)) := fun o => HB1.out.alloc HB1.out.size o
  have hne : ¬ (w.heap.size = w1.heap.size) := by omega
  rcases ek with rfl | rfl | rfl | ⟨k1, k2, k3⟩
  · cases r
    · go_wp2
      go_ret
      exact ⟨by simp, HN.out _⟩
    · go_wp2
      go_ret
      exact ⟨by simp, HN.out _⟩
  · go_wp2
    go_ret
    exact ⟨by simp, HN.out _⟩
  · go_wp2
    go_ret
    exact ⟨by simp, HN.out _⟩
  · have z1 : (k == 1) = false := by simp [k1]
    have z2 : (k == 2) = false := by simp [k2]
    have z3 : (k == 3) = false := by simp [k3]
    go_wp2
    go_ret
    exact ⟨by simp [k1, k2, k3], HN.out _⟩
theorem allows_any (ap bt : Int) (ng xn afe priv : Bool) (k : Int) (w : World) (hT : TP w) :
    Calls Tryd.prog 13 #[.agg #[.int .i64 ap, .int .u32 bt, .bool ng, .bool xn], .bool afe, .bool priv, .int .i64 k] w fun e w' => e = .returned (.bool (alF ap xn afe priv k)) ∧ Below w.heap.size w w' := by
  unfold alF
  by_cases h : 0 ≤ ap ∧ ap < 8
  · rw [if_pos h]
    obtain ⟨n, rfl⟩ := Int.eq_ofNat_of_zero_le h.1
    exact allows_yes n bt ng xn afe priv _ _ k w h.1 h.2 hT (fun w hw => allowed_any n afe priv w (by omega) hw)
  · rw [if_neg h]
    exact allows_no ap bt ng xn afe priv k w h
end Go.Proofs.YtmmocnejacflmabDoor
