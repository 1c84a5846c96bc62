import Derived.Test.YtmcloaonpkfibaaDoorSw
namespace Go.Proofs.YtmcloaonpkfibaaDoor
open Go.RowKit
set_option linter.unusedVariables false
set_option linter.unusedSimpArgs false
/-- What words say. -/
def kW : List ByteArray → Mem
  | [a] => if a = wStrong then ⟨0, 0, 0, 2⟩ else mZ
  | [a, b] => if a = wDevice then ⟨1, 0, 0, nO lShares 0 b⟩ else mZ
  | [a, b, c, d] => if a = wNormal then ⟨2, nO lCaches 0 b, nO lCaches 0 c, nO lShares 0 d⟩ else mZ
  | _ => mZ
set_option maxRecDepth 100000 in
set_option maxHeartbeats 4000000 in
theorem kind_1y (g cp : Nat) (a : ByteArray) (w : World) (hT : TA w) (x0 : w.cell? ⟨g, 0, none⟩ = some (.string a)) (q : (a.toList == wStrong.toList) = true) :
    Calls Tryd.prog 21 #[.slice (some ⟨g, 0, none⟩) 1 cp] w fun e w' => e = .returned (.agg #[.int .i64 0, .int .i64 0, .int .i64 0, .int .i64 2]) ∧ Below w.heap.size w w' := by
  have t0 := hT.types 0 _ rfl
  have t1 := hT.types 1 _ rfl
  have t2 := hT.types 2 _ rfl
  have l0 := cell_lt t0
  have l1 := cell_lt x0
  simp only at l0 l1
  have HT : Hid (TA w) := hT
  clear hT
  go_enter Tryd.func21, Tryd.ntmps21
  go_wp2
  go_quiet (fail)
  go_wp2
  refine bodyPost_ret (v := .agg #[.int .i64 0, .int .i64 0, .int .i64 0, .int .i64 2]) (by simp [results, Tryd.results21, go_sem]) rfl ⟨rfl, (by (repeat (with_reducible first | refine Below.setCell ?_ (by simp) _ | refine below_drew ?_ | refine below_drewN ?_ _)); exact below_new _ _)⟩
set_option maxRecDepth 100000 in
set_option maxHeartbeats 4000000 in
theorem kind_1n (g cp : Nat) (a : ByteArray) (w : World) (hT : TA w) (x0 : w.cell? ⟨g, 0, none⟩ = some (.string a)) (q : (a.toList == wStrong.toList) = false) :
    Calls Tryd.prog 21 #[.slice (some ⟨g, 0, none⟩) 1 cp] w fun e w' => e = .returned (.agg #[.int .i64 0, .int .i64 0, .int .i64 0, .int .i64 0]) ∧ Below w.heap.size w w' := by
  have t0 := hT.types 0 _ rfl
  have t1 := hT.types 1 _ rfl
  have t2 := hT.types 2 _ rfl
  have l0 := cell_lt t0
  have l1 := cell_lt x0
  simp only at l0 l1
  have HT : Hid (TA w) := hT
  clear hT
  go_enter Tryd.func21, Tryd.ntmps21
  go_wp2
  go_quiet (fail)
  go_wp2
  go_quiet (fail)
  go_wp2
  go_quiet (fail)
  go_wp2
  refine bodyPost_ret (v := .agg #[.int .i64 0, .int .i64 0, .int .i64 0, .int .i64 0]) (by simp [results, Tryd.results21, go_sem]) rfl ⟨rfl, (by (repeat (with_reducible first | refine Below.setCell ?_ (by simp) _ | refine below_drew ?_ | refine below_drewN ?_ _)); exact below_new _ _)⟩
set_option maxRecDepth 100000 in
set_option maxHeartbeats 4000000 in
theorem kind_2n (g cp : Nat) (a b : ByteArray) (w : World) (hT : TA w) (x0 : w.cell? ⟨g, 0, none⟩ = some (.string a)) (x1 : w.cell? ⟨g, 1, none⟩ = some (.string b)) (q : (a.toList == wDevice.toList) = false) :
    Calls Tryd.prog 21 #[.slice (some ⟨g, 0, none⟩) 2 cp] w fun e w' => e = .returned (.agg #[.int .i64 0, .int .i64 0, .int .i64 0, .int .i64 0]) ∧ Below w.heap.size w w' := by
  have t0 := hT.types 0 _ rfl
  have t1 := hT.types 1 _ rfl
  have t2 := hT.types 2 _ rfl
  have l0 := cell_lt t0
  have l1 := cell_lt x0
  simp only at l0 l1
  have HT : Hid (TA w) := hT
  clear hT
  go_enter Tryd.func21, Tryd.ntmps21
  go_wp2
  go_quiet (fail)
  go_wp2
  go_quiet (fail)
  go_wp2
  go_quiet (fail)
  go_wp2
  refine bodyPost_ret (v := .agg #[.int .i64 0, .int .i64 0, .int .i64 0, .int .i64 0]) (by simp [results, Tryd.results21, go_sem]) rfl ⟨rfl, (by (repeat (with_reducible first | refine Below.setCell ?_ (by simp) _ | refine below_drew ?_ | refine below_drewN ?_ _)); exact below_new _ _)⟩
set_option maxRecDepth 100000 in
set_option maxHeartbeats 4000000 in
theorem kind_3n (g cp : Nat) (a b c : ByteArray) (w : World) (hT : TA w) (x0 : w.cell? ⟨g, 0, none⟩ = some (.string a)) (x1 : w.cell? ⟨g, 1, none⟩ = some (.string b)) (x2 : w.cell? ⟨g, 2, none⟩ = some (.string c)) :
    Calls Tryd.prog 21 #[.slice (some ⟨g, 0, none⟩) 3 cp] w fun e w' => e = .returned (.agg #[.int .i64 0, .int .i64 0, .int .i64 0, .int .i64 0]) ∧ Below w.heap.size w w' := by
  have t0 := hT.types 0 _ rfl
  have t1 := hT.types 1 _ rfl
  have t2 := hT.types 2 _ rfl
  have l0 := cell_lt t0
  have l1 := cell_lt x0
  simp only at l0 l1
  have HT : Hid (TA w) := hT
  clear hT
  go_enter Tryd.func21, Tryd.ntmps21
  go_wp2
  go_quiet (fail)
  go_wp2
  go_quiet (fail)
  go_wp2
  go_quiet (fail)
  go_wp2
  refine bodyPost_ret (v := .agg #[.int .i64 0, .int .i64 0, .int .i64 0, .int .i64 0]) (by simp [results, Tryd.results21, go_sem]) rfl ⟨rfl, (by (repeat (with_reducible first | refine Below.setCell ?_ (by simp) _ | refine below_drew ?_ | refine below_drewN ?_ _)); exact below_new _ _)⟩
set_option maxRecDepth 100000 in
set_option maxHeartbeats 4000000 in
theorem kind_4n (g cp : Nat) (a b c d : ByteArray) (w : World) (hT : TA w) (x0 : w.cell? ⟨g, 0, none⟩ = some (.string a)) (x1 : w.cell? ⟨g, 1, none⟩ = some (.string b)) (x2 : w.cell? ⟨g, 2, none⟩ = some (.string c)) (x3 : w.cell? ⟨g, 3, none⟩ = some (.string d)) (q : (a.toList == wNormal.toList) = false) :
    Calls Tryd.prog 21 #[.slice (some ⟨g, 0, none⟩) 4 cp] w fun e w' => e = .returned (.agg #[.int .i64 0, .int .i64 0, .int .i64 0, .int .i64 0]) ∧ Below w.heap.size w w' := by
  have t0 := hT.types 0 _ rfl
  have t1 := hT.types 1 _ rfl
  have t2 := hT.types 2 _ rfl
  have l0 := cell_lt t0
  have l1 := cell_lt x0
  simp only at l0 l1
  have HT : Hid (TA w) := hT
  clear hT
  go_enter Tryd.func21, Tryd.ntmps21
  go_wp2
  go_quiet (fail)
  go_wp2
  go_quiet (fail)
  go_wp2
  go_quiet (fail)
  go_wp2
  refine bodyPost_ret (v := .agg #[.int .i64 0, .int .i64 0, .int .i64 0, .int .i64 0]) (by simp [results, Tryd.results21, go_sem]) rfl ⟨rfl, (by (repeat (with_reducible first | refine Below.setCell ?_ (by simp) _ | refine below_drew ?_ | refine below_drewN ?_ _)); exact below_new _ _)⟩
set_option maxRecDepth 100000 in
set_option maxHeartbeats 4000000 in
theorem kind_5n (g cp : Nat) (a b c d e : ByteArray) (w : World) (hT : TA w) (x0 : w.cell? ⟨g, 0, none⟩ = some (.string a)) (x1 : w.cell? ⟨g, 1, none⟩ = some (.string b)) (x2 : w.cell? ⟨g, 2, none⟩ = some (.string c)) (x3 : w.cell? ⟨g, 3, none⟩ = some (.string d)) (x4 : w.cell? ⟨g, 4, none⟩ = some (.string e)) :
    Calls Tryd.prog 21 #[.slice (some ⟨g, 0, none⟩) 5 cp] w fun e w' => e = .returned (.agg #[.int .i64 0, .int .i64 0, .int .i64 0, .int .i64 0]) ∧ Below w.heap.size w w' := by
  have t0 := hT.types 0 _ rfl
  have t1 := hT.types 1 _ rfl
  have t2 := hT.types 2 _ rfl
  have l0 := cell_lt t0
  have l1 := cell_lt x0
  simp only at l0 l1
  have HT : Hid (TA w) := hT
  clear hT
  go_enter Tryd.func21, Tryd.ntmps21
  go_wp2
  go_quiet (fail)
  go_wp2
  go_quiet (fail)
  go_wp2
  go_quiet (fail)
  go_wp2
  refine bodyPost_ret (v := .agg #[.int .i64 0, .int .i64 0, .int .i64 0, .int .i64 0]) (by simp [results, Tryd.results21, go_sem]) rfl ⟨rfl, (by (repeat (with_reducible first | refine Below.setCell ?_ (by simp) _ | refine below_drew ?_ | refine below_drewN ?_ _)); exact below_new _ _)⟩
set_option maxRecDepth 100000 in
set_option maxHeartbeats 4000000 in
theorem kind_2y (g cp : Nat) (a b : ByteArray) (w : World) (hT : TA w) (x0 : w.cell? ⟨g, 0, none⟩ = some (.string a)) (x1 : w.cell? ⟨g, 1, none⟩ = some (.string b)) (q : (a.toList == wDevice.toList) = true) :
    Calls Tryd.prog 21 #[.slice (some ⟨g, 0, none⟩) 2 cp] w fun e w' => e = .returned (.agg #[.int .i64 1, .int .i64 0, .int .i64 0, .int .i64 (nO lShares 0 b)]) ∧ Below w.heap.size w w' := by
  have t0 := hT.types 0 _ rfl
  have t1 := hT.types 1 _ rfl
  have t2 := hT.types 2 _ rfl
  have l0 := cell_lt t0
  have l1 := cell_lt x0
  simp only at l0 l1
  have HT : Hid (TA w) := hT
  clear hT
  go_enter Tryd.func21, Tryd.ntmps21
  go_wp2
  go_quiet (fail)
  go_wp2
  go_quiet (fail)
  go_wp2_with (first | (go_at_call 31; refine (shareOf_any b _ (HT.out.below (by (repeat (with_reducible first | refine below_drewN ?_ _ | refine below_drew ?_)); exact below_new _ _))).mono ?_; rintro e w1 ⟨rfl, rfl⟩) | go_in)
  refine bodyPost_ret (v := .agg #[.int .i64 1, .int .i64 0, .int .i64 0, .int .i64 (nO lShares 0 b)]) (by simp [results, Tryd.results21, go_sem]) rfl ⟨rfl, (by (repeat (with_reducible first | refine Below.setCell ?_ (by simp) _ | refine below_drew ?_ | refine below_drewN ?_ _)); exact below_new _ _)⟩
set_option maxRecDepth 100000 in
set_option maxHeartbeats 4000000 in
theorem kind_4y (g cp : Nat) (a b c d : ByteArray) (w : World) (hT : TA w) (x0 : w.cell? ⟨g, 0, none⟩ = some (.string a)) (x1 : w.cell? ⟨g, 1, none⟩ = some (.string b)) (x2 : w.cell? ⟨g, 2, none⟩ = some (.string c)) (x3 : w.cell? ⟨g, 3, none⟩ = some (.string d)) (q : (a.toList == wNormal.toList) = true) :
    Calls Tryd.prog 21 #[.slice (some ⟨g, 0, none⟩) 4 cp] w fun e w' => e = .returned (.agg #[.int .i64 2, .int .i64 (nO lCaches 0 b), .int .i64 (nO lCaches 0 c), .int .i64 (nO lShares 0 d)]) ∧ Below w.heap.size w w' := by
  have t0 := hT.types 0 _ rfl
  have t1 := hT.types 1 _ rfl
  have t2 := hT.types 2 _ rfl
  have l0 := cell_lt t0
  have l1 := cell_lt x0
  simp only at l0 l1
  have HC : Hid (∀ wn, Below w.heap.size w wn → wn.cell? ⟨g, 1, none⟩ = some (.string b) ∧ wn.cell? ⟨g, 2, none⟩ = some (.string c) ∧ wn.cell? ⟨g, 3, none⟩ = some (.string d)) := fun wn hn => ⟨(hn.cell (cell_lt x1)).trans x1, (hn.cell (cell_lt x2)).trans x2, (hn.cell (cell_lt x3)).trans x3⟩
  have HT : Hid (TA w) := hT
  clear hT
  go_enter Tryd.func21, Tryd.ntmps21
  go_wp2
  go_quiet (fail)
  go_wp2
  go_quiet (fail)
  go_wp2
  go_quiet (fail)
  go_wp2
  refine wp_region_held_drew (S := fun wn => wn.cell? ⟨g, 1, none⟩ = some (.string b) ∧ wn.cell? ⟨g, 2, none⟩ = some (.string c) ∧ wn.cell? ⟨g, 3, none⟩ = some (.string d)) (by kernel_rfl) (by (try dsimp only); exact HC.out _ (by (repeat (with_reducible first | refine Below.setCell ?_ (by simp) _ | refine below_drew ?_ | refine below_drewN ?_ _)); exact below_new _ _)) (fun hHeld => ?_)
  clear x0 x1 x2 x3 t0 t1 t2
  refine wpAnyH_take (i := 0) (oi := { dst := some 45, op := Op.move (Operand.tmp 0), type := 47, pos := _, after := #[], guard := none }) (v := ?_) rfl (by kernel_rfl) (by kernel_rfl) (by kernel_rfl) (fun _ _ _ h => h) (Or.inl ⟨by rfl, ?_⟩) (by assumption) ?_
  rotate_left
  · (intro w hSw; (try dsimp only at hSw); go_simp; try with_reducible rfl)
  simp only [Act.put, List.setIfInBounds_toArray, List.set_cons_zero, List.set_cons_succ]
  refine wpAnyH_take (i := 1) (oi := { dst := some 46, op := Op.indexAddr 47 (Operand.tmp 45) (Operand.const (Value.int IntKind.i64 1)), type := 0, pos := _, after := #[{ on := 0, ground := Ground.data }], guard := none }) (v := ?_) rfl (by kernel_rfl) (by kernel_rfl) (by kernel_rfl) (fun _ _ _ h => h) (Or.inl ⟨by rfl, ?_⟩) (by assumption) ?_
  rotate_left
  · (intro w hSw; (try dsimp only at hSw); go_simp; try with_reducible rfl)
  simp only [Act.put, List.setIfInBounds_toArray, List.set_cons_zero, List.set_cons_succ]
  refine wpAnyH_take (i := 2) (oi := { dst := some 47, op := Op.load 9 (Operand.tmp 46), type := 9, pos := _, after := #[{ on := 1, ground := Ground.data }], guard := none }) (v := ?_) rfl (by kernel_rfl) (by kernel_rfl) (by kernel_rfl) (fun _ _ _ h => h) (Or.inl ⟨by rfl, ?_⟩) (by assumption) ?_
  rotate_left
  · (intro w hSw; (try dsimp only at hSw); go_simp; try with_reducible rfl)
  simp only [Act.put, List.setIfInBounds_toArray, List.set_cons_zero, List.set_cons_succ]
  refine wpAnyH_take (i := 4) (oi := { dst := some 49, op := Op.move (Operand.tmp 0), type := 47, pos := _, after := #[], guard := none }) (v := ?_) rfl (by kernel_rfl) (by kernel_rfl) (by kernel_rfl) (fun _ _ _ h => h) (Or.inl ⟨by rfl, ?_⟩) (by assumption) ?_
  rotate_left
  · (intro w hSw; (try dsimp only at hSw); go_simp; try with_reducible rfl)
  simp only [Act.put, List.setIfInBounds_toArray, List.set_cons_zero, List.set_cons_succ]
  refine wpAnyH_take (i := 5) (oi := { dst := some 50, op := Op.indexAddr 47 (Operand.tmp 49) (Operand.const (Value.int IntKind.i64 2)), type := 0, pos := _, after := #[{ on := 4, ground := Ground.data }], guard := none }) (v := ?_) rfl (by kernel_rfl) (by kernel_rfl) (by kernel_rfl) (fun _ _ _ h => h) (Or.inl ⟨by rfl, ?_⟩) (by assumption) ?_
  rotate_left
  · (intro w hSw; (try dsimp only at hSw); go_simp; try with_reducible rfl)
  simp only [Act.put, List.setIfInBounds_toArray, List.set_cons_zero, List.set_cons_succ]
  refine wpAnyH_take (i := 6) (oi := { dst := some 51, op := Op.load 9 (Operand.tmp 50), type := 9, pos := _, after := #[{ on := 5, ground := Ground.data }], guard := none }) (v := ?_) rfl (by kernel_rfl) (by kernel_rfl) (by kernel_rfl) (fun _ _ _ h => h) (Or.inl ⟨by rfl, ?_⟩) (by assumption) ?_
  rotate_left
  · (intro w hSw; (try dsimp only at hSw); go_simp; try with_reducible rfl)
  simp only [Act.put, List.setIfInBounds_toArray, List.set_cons_zero, List.set_cons_succ]
  refine wpAnyH_take (i := 8) (oi := { dst := some 53, op := Op.move (Operand.tmp 0), type := 47, pos := _, after := #[], guard := none }) (v := ?_) rfl (by kernel_rfl) (by kernel_rfl) (by kernel_rfl) (fun _ _ _ h => h) (Or.inl ⟨by rfl, ?_⟩) (by assumption) ?_
  rotate_left
  · (intro w hSw; (try dsimp only at hSw); go_simp; try with_reducible rfl)
  simp only [Act.put, List.setIfInBounds_toArray, List.set_cons_zero, List.set_cons_succ]
  refine wpAnyH_take (i := 9) (oi := { dst := some 54, op := Op.indexAddr 47 (Operand.tmp 53) (Operand.const (Value.int IntKind.i64 3)), type := 0, pos := _, after := #[{ on := 8, ground := Ground.data }], guard := none }) (v := ?_) rfl (by kernel_rfl) (by kernel_rfl) (by kernel_rfl) (fun _ _ _ h => h) (Or.inl ⟨by rfl, ?_⟩) (by assumption) ?_
  rotate_left
  · (intro w hSw; (try dsimp only at hSw); go_simp; try with_reducible rfl)
  simp only [Act.put, List.setIfInBounds_toArray, List.set_cons_zero, List.set_cons_succ]
  refine wpAnyH_take (i := 10) (oi := { dst := some 55, op := Op.load 9 (Operand.tmp 54), type := 9, pos := _, after := #[{ on := 9, ground := Ground.data }], guard := none }) (v := ?_) rfl (by kernel_rfl) (by kernel_rfl) (by kernel_rfl) (fun _ _ _ h => h) (Or.inl ⟨by rfl, ?_⟩) (by assumption) ?_
  rotate_left
  · (intro w hSw; (try dsimp only at hSw); go_simp; try with_reducible rfl)
  simp only [Act.put, List.setIfInBounds_toArray, List.set_cons_zero, List.set_cons_succ]
  refine wpAnyH_ready (rs := [3]) (by kernel_rfl) (by simp) ?_
  refine AllReadyH.cons (o := { dst := some 48, op := Op.call { callee := Callee.value (Operand.func 32), args := #[Operand.tmp 47], argTypes := #[9] }, type := 3, pos := _, after := #[{ on := 2, ground := Ground.data }], guard := none }) rfl (fun K hK => ?_) AllReadyH.nil
  go_simp
  (go_at_call 32; refine (cacheOf_any _ _ (HT.out.below (by (repeat (with_reducible first | refine Below.setCell ?_ (by simp) _ | refine below_drew ?_ | refine below_drewN ?_ _)); exact below_new _ _))).mono ?_; rintro e w1 ⟨rfl, rfl⟩; go_simp)
  refine hK.out _ _ ?_ (fun hHeld => ?_)
  · ((try dsimp only); exact HC.out _ (by (repeat (with_reducible first | refine Below.setCell ?_ (by simp) _ | refine below_drew ?_ | refine below_drewN ?_ _)); exact below_new _ _))
  clear hK K
  try simp only [Act.put, List.setIfInBounds_toArray, List.set_cons_zero, List.set_cons_succ]
  refine wpAnyH_ready (rs := [7]) (by kernel_rfl) (by simp) ?_
  refine AllReadyH.cons (o := { dst := some 52, op := Op.call { callee := Callee.value (Operand.func 32), args := #[Operand.tmp 51], argTypes := #[9] }, type := 3, pos := _, after := #[{ on := 6, ground := Ground.data }, { on := 3, ground := Ground.chain }], guard := none }) rfl (fun K hK => ?_) AllReadyH.nil
  go_simp
  (go_at_call 32; refine (cacheOf_any _ _ (HT.out.below (by (repeat (with_reducible first | refine Below.setCell ?_ (by simp) _ | refine below_drew ?_ | refine below_drewN ?_ _)); exact below_new _ _))).mono ?_; rintro e w1 ⟨rfl, rfl⟩; go_simp)
  refine hK.out _ _ ?_ (fun hHeld => ?_)
  · ((try dsimp only); exact HC.out _ (by (repeat (with_reducible first | refine Below.setCell ?_ (by simp) _ | refine below_drew ?_ | refine below_drewN ?_ _)); exact below_new _ _))
  clear hK K
  try simp only [Act.put, List.setIfInBounds_toArray, List.set_cons_zero, List.set_cons_succ]
  refine wpAnyH_ready (rs := [11]) (by kernel_rfl) (by simp) ?_
  refine AllReadyH.cons (o := { dst := some 56, op := Op.call { callee := Callee.value (Operand.func 31), args := #[Operand.tmp 55], argTypes := #[9] }, type := 3, pos := _, after := #[{ on := 10, ground := Ground.data }, { on := 7, ground := Ground.chain }], guard := none }) rfl (fun K hK => ?_) AllReadyH.nil
  go_simp
  (go_at_call 31; refine (shareOf_any _ _ (HT.out.below (by (repeat (with_reducible first | refine Below.setCell ?_ (by simp) _ | refine below_drew ?_ | refine below_drewN ?_ _)); exact below_new _ _))).mono ?_; rintro e w1 ⟨rfl, rfl⟩; go_simp)
  refine hK.out _ _ ?_ (fun hHeld => ?_)
  · ((try dsimp only); exact HC.out _ (by (repeat (with_reducible first | refine Below.setCell ?_ (by simp) _ | refine below_drew ?_ | refine below_drewN ?_ _)); exact below_new _ _))
  clear hK K
  try simp only [Act.put, List.setIfInBounds_toArray, List.set_cons_zero, List.set_cons_succ]
  refine wpAnyH_take (i := 12) (oi := { dst := some 57, op := Op.build 24 #[(0, Operand.const (Value.int IntKind.i64 2)), (1, Operand.tmp 48), (2, Operand.tmp 52), (3, Operand.tmp 56)], type := 24, pos := _, after := #[{ on := 3, ground := Ground.data }, { on := 7, ground := Ground.data }, { on := 11, ground := Ground.data }], guard := none }) (v := ?_) rfl (by kernel_rfl) (by kernel_rfl) (by kernel_rfl) (fun _ _ _ h => h) (Or.inl ⟨by rfl, ?_⟩) (by assumption) ?_
  rotate_left
  · (intro w hSw; (try dsimp only at hSw); go_simp; try with_reducible rfl)
  simp only [Act.put, List.setIfInBounds_toArray, List.set_cons_zero, List.set_cons_succ]
  refine wpAnyH_ready (rs := [13]) (by kernel_rfl) (by simp) ?_
  refine AllReadyH.cons (o := { dst := none, op := Op.store 24 (Operand.tmp 2) (Operand.tmp 57), type := 0, pos := _, after := #[{ on := 12, ground := Ground.data }, { on := 11, ground := Ground.chain }, { on := 0, ground := Ground.phase }, { on := 1, ground := Ground.phase }, { on := 2, ground := Ground.phase }, { on := 3, ground := Ground.phase }, { on := 4, ground := Ground.phase }, { on := 5, ground := Ground.phase }, { on := 6, ground := Ground.phase }, { on := 7, ground := Ground.phase }, { on := 8, ground := Ground.phase }, { on := 9, ground := Ground.phase }, { on := 10, ground := Ground.phase }, { on := 11, ground := Ground.phase }, { on := 12, ground := Ground.phase }], guard := none }) rfl (fun K hK => ?_) AllReadyH.nil
  go_simp
  skip
  refine hK.out _ _ ?_ (fun hHeld => ?_)
  · ((try dsimp only); exact HC.out _ (by (repeat (with_reducible first | refine Below.setCell ?_ (by simp) _ | refine below_drew ?_ | refine below_drewN ?_ _)); exact below_new _ _))
  clear hK K
  try simp only [Act.put, List.setIfInBounds_toArray, List.set_cons_zero, List.set_cons_succ]
  refine wpAnyH_done (by kernel_rfl) ?_ _
  go_wp2
  refine bodyPost_ret (v := .agg #[.int .i64 2, .int .i64 (nO lCaches 0 b), .int .i64 (nO lCaches 0 c), .int .i64 (nO lShares 0 d)]) (by simp [results, Tryd.results21, go_sem]) rfl ⟨rfl, (by (repeat (with_reducible first | refine Below.setCell ?_ (by simp) _ | refine below_drew ?_ | refine below_drewN ?_ _)); exact below_new _ _)⟩
end Go.Proofs.YtmcloaonpkfibaaDoor
