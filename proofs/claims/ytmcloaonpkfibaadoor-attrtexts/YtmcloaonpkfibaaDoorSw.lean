import Derived.Test.YtmcloaonpkfibaaDoorSv
namespace Go.Proofs.YtmcloaonpkfibaaDoor
open Go.RowKit
set_option linter.unusedVariables false
set_option linter.unusedSimpArgs false
set_option maxRecDepth 100000 in
set_option maxHeartbeats 4000000 in
theorem show_no (m : Mem) (w : World) (hm : ¬ K m) :
    Calls Tryd.prog 9 #[.agg #[.int .i64 m.t, .int .i64 m.i, .int .i64 m.o, .int .i64 m.s]] w fun e w' => e = .returned (.tuple #[.string ⟨#[]⟩, .int .i64 62]) ∧ Below w.heap.size w w' := by
  have HK : Hid (∀ w, Calls Tryd.prog 17 #[.agg #[.int .i64 m.t, .int .i64 m.i, .int .i64 m.o, .int .i64 m.s]] w fun e w' => e = .returned (.bool false) ∧ Below w.heap.size w w') := fun w => by
    have := isKind_any m w
    rw [decide_eq_false hm] at this
    exact this
  clear hm
  obtain ⟨t, i, o, s⟩ := m
  simp only at *
  go_enter Tryd.func9, Tryd.ntmps9
  go_wp2_with (first | (go_at_call 17; refine (HK.out _).mono ?_; rintro e w1 ⟨rfl, hb⟩) | go_in)
  go_ret2
  exact ⟨rfl, Below.one hb⟩
set_option maxRecDepth 100000 in
set_option maxHeartbeats 4000000 in
theorem show_0 (w : World) (hT : TA w) :
    Calls Tryd.prog 9 #[.agg #[.int .i64 0, .int .i64 0, .int .i64 0, .int .i64 2]] w fun e w' => e = .returned (.tuple #[.string (jn [wStrong]), .int .i64 0]) ∧ Below w.heap.size w w' := by
  have HK : Hid (∀ w, Calls Tryd.prog 17 #[.agg #[.int .i64 0, .int .i64 0, .int .i64 0, .int .i64 2]] w fun e w' => e = .returned (.bool true) ∧ Below w.heap.size w w') := HK_yes (m := ⟨0, 0, 0, 2⟩) K_str
  have HX : Hid _ := GX.new w ⟨0, 0, 0, 2⟩ hT
  have HJ : Hid (∀ (w1 : World), Calls Tryd.prog 18 #[.slice (some ⟨w1.heap.size, 0, none⟩) 1 1, .string ⟨#[32]⟩] (w1.alloc (.cells #[.string wStrong] 9)) fun e w' => e = .returned (.string (jn [wStrong])) ∧ Below (w1.alloc (.cells #[.string wStrong] 9)).heap.size (w1.alloc (.cells #[.string wStrong] 9)) w') := fun w1 => join_call [wStrong] 1 _ 1 _ rfl (by simp) (by omega) (one_cells w1 _) (by omega) (wd_len ⟨0, 0, 0, 2⟩)
  clear hT
  go_enter Tryd.func9, Tryd.ntmps9
  go_wp2_with (first | (go_at_call 17; refine (HK.out _).mono ?_; rintro e w1 ⟨rfl, hb⟩; have HX1 : Hid (GX w w1 ⟨0, 0, 0, 2⟩) := HX.out.step hb; clear hb; have hc := HX1.out.box.cell; have hl := HX1.out.lt; have c0 := HX1.out.tab.types 0 _ rfl; have l0 := cell_lt c0) | (go_at_call 18; refine (HJ.out _).mono ?_; rintro e w2 ⟨rfl, hb2⟩) | go_in)
  go_ret2
  exact ⟨rfl, Below.step HX1.out.bel (Below.one hb2)⟩
set_option maxRecDepth 100000 in
set_option maxHeartbeats 4000000 in
theorem show_1 (s : Int) (w : World) (hT : TA w) (h0 : 0 ≤ s) (h2 : s ≤ 2) :
    Calls Tryd.prog 9 #[.agg #[.int .i64 1, .int .i64 0, .int .i64 0, .int .i64 s]] w fun e w' => e = .returned (.tuple #[.string (jn [wDevice, sw s]), .int .i64 0]) ∧ Below w.heap.size w w' := by
  have HK : Hid (∀ w, Calls Tryd.prog 17 #[.agg #[.int .i64 1, .int .i64 0, .int .i64 0, .int .i64 s]] w fun e w' => e = .returned (.bool true) ∧ Below w.heap.size w w') := HK_yes (m := ⟨1, 0, 0, s⟩) (K_dev h0 h2)
  have HX : Hid _ := GX.new w ⟨1, 0, 0, s⟩ hT
  have HJ : Hid (∀ g c w1, g < w1.heap.size → 2 ≤ c → (∀ (j : Nat) z, [wDevice, sw s][j]? = some z → w1.cell? ⟨g, 0 + j, none⟩ = some (.string z)) → Calls Tryd.prog 18 #[.slice (some ⟨g, 0, none⟩) 2 c, .string ⟨#[32]⟩] w1 fun e w' => e = .returned (.string (jn [wDevice, sw s])) ∧ Below w1.heap.size w1 w') := fun g c w1 a1 a2 a3 => join_call [wDevice, sw s] 2 g c w1 rfl a1 a2 a3 (by omega) (wd_len ⟨1, 0, 0, s⟩)
  have h3 : s < 3 := by omega
  clear hT
  go_enter Tryd.func9, Tryd.ntmps9
  go_wp2_with (first | (go_at_call 17; refine (HK.out _).mono ?_; rintro e w1 ⟨rfl, hb⟩; have HX1 : Hid (GX w w1 ⟨1, 0, 0, s⟩) := HX.out.step hb; clear hb; have hc := HX1.out.box.cell; have hl := HX1.out.lt; have c0 := HX1.out.tab.types 1 _ rfl; have l0 := cell_lt c0; have c1 := sw_at HX1.out.tab h0 h2; have l1 := cell_lt c1; obtain ⟨g, c, w2, hr, q1, q2, q3, q4⟩ := dev_ap w1 wDevice (sw s); have Q : Hid _ := And.intro q1 (And.intro q2 (And.intro q3 q4)); clear q1 q2 q3 q4; have HR : Hid _ := hr; clear hr) | (at_builtin; refine wpList_app rfl _ _ 47 rfl _ _ _ _ rfl rfl HR.out ?_) | (go_at_call 18; refine (HJ.out _ _ _ Q.out.1 Q.out.2.1 Q.out.2.2.1).mono ?_; rintro e w3 ⟨rfl, hb2⟩) | go_in)
  go_ret2
  exact ⟨rfl, Below.step (Below.step HX1.out.bel Q.out.2.2.2) hb2⟩
set_option maxRecDepth 100000 in
set_option maxHeartbeats 4000000 in
theorem show_2 (i o s : Int) (w : World) (hT : TA w) (i0 : 0 ≤ i) (i3 : i ≤ 3) (o0 : 0 ≤ o) (o3 : o ≤ 3) (h0 : 0 ≤ s) (h2 : s ≤ 2) :
    Calls Tryd.prog 9 #[.agg #[.int .i64 2, .int .i64 i, .int .i64 o, .int .i64 s]] w fun e w' => e = .returned (.tuple #[.string (jn [wNormal, cw i, cw o, sw s]), .int .i64 0]) ∧ Below w.heap.size w w' := by
  have HK : Hid (∀ w, Calls Tryd.prog 17 #[.agg #[.int .i64 2, .int .i64 i, .int .i64 o, .int .i64 s]] w fun e w' => e = .returned (.bool true) ∧ Below w.heap.size w w') := HK_yes (m := ⟨2, i, o, s⟩) (K_nor i0 i3 o0 o3 h0 h2)
  have HX : Hid _ := GX.new w ⟨2, i, o, s⟩ hT
  have HJ : Hid (∀ g c w1, g < w1.heap.size → 4 ≤ c → (∀ (j : Nat) z, [wNormal, cw i, cw o, sw s][j]? = some z → w1.cell? ⟨g, 0 + j, none⟩ = some (.string z)) → Calls Tryd.prog 18 #[.slice (some ⟨g, 0, none⟩) 4 c, .string ⟨#[32]⟩] w1 fun e w' => e = .returned (.string (jn [wNormal, cw i, cw o, sw s])) ∧ Below w1.heap.size w1 w') := fun g c w1 a1 a2 a3 => join_call [wNormal, cw i, cw o, sw s] 4 g c w1 rfl a1 a2 a3 (by omega) (wd_len ⟨2, i, o, s⟩)
  have h3 : s < 3 := by omega
  have i4 : i < 4 := by omega
  have o4 : o < 4 := by omega
  clear hT
  go_enter Tryd.func9, Tryd.ntmps9
  go_wp2_with (first | (go_at_call 17; refine (HK.out _).mono ?_; rintro e w1 ⟨rfl, hb⟩; have HX1 : Hid (GX w w1 ⟨2, i, o, s⟩) := HX.out.step hb; clear hb; have hc := HX1.out.box.cell; have hl := HX1.out.lt; have c0 := HX1.out.tab.types 2 _ rfl; have l0 := cell_lt c0) | go_in)
  obtain ⟨v2, w2, g, c, w3, hr1, hr2, hb2, q1, q2, q3, q4⟩ := nor_ap w1 wNormal (cw i) (cw o) (sw s)
  have Q : Hid _ := And.intro q1 (And.intro q2 (And.intro q3 q4))
  clear q1 q2 q3 q4
  have c1 := cw_at HX1.out.tab i0 i3
  have c2 := cw_at HX1.out.tab o0 o3
  have l1 := cell_lt c1
  simp only at l1
  have HS : Hid (∀ wn, Below w1.heap.size w1 wn → wn.cell? ⟨w.heap.size, 1, none⟩ = some (.int .i64 i) ∧ wn.cell? ⟨w.heap.size, 2, none⟩ = some (.int .i64 o) ∧ wn.cell? ⟨1, i.toNat, none⟩ = some (.string (cw i)) ∧ wn.cell? ⟨1, o.toNat, none⟩ = some (.string (cw o))) := fun wn hn => ⟨(HX1.out.box.below hn).cell 1, (HX1.out.box.below hn).cell 2, (hn.cell (cell_lt c1)).trans c1, (hn.cell (cell_lt c2)).trans c2⟩
  refine wp_region_held_drew (S := fun wn => wn.cell? ⟨w.heap.size, 1, none⟩ = some (.int .i64 i) ∧ wn.cell? ⟨w.heap.size, 2, none⟩ = some (.int .i64 o) ∧ wn.cell? ⟨1, i.toNat, none⟩ = some (.string (cw i)) ∧ wn.cell? ⟨1, o.toNat, none⟩ = some (.string (cw o))) (by kernel_rfl) (by (try dsimp only); exact HS.out _ (below_drew (below_new _ _))) (fun hHeld => ?_)
  clear c0 l0 l1 c1 c2
  have HR1 : Hid _ := hr1
  clear hr1
  have HR2 : Hid _ := hr2
  clear hr2
  have HB2 : Hid _ := hb2
  clear hb2
  refine wpAnyH_take (i := 0) (oi := { dst := some 16, op := Op.move (Operand.tmp 4), type := 47, pos := _, after := #[], guard := none }) (v := ?_) rfl (by kernel_rfl) (by kernel_rfl) (by kernel_rfl) (fun _ _ _ h => h) (Or.inl ⟨by rfl, ?_⟩) (by assumption) ?_
  rotate_left
  · (intro w hSw; (try dsimp only at hSw); go_simp; try with_reducible rfl)
  simp only [Act.put, List.setIfInBounds_toArray, List.set_cons_zero, List.set_cons_succ]
  refine wpAnyH_take (i := 1) (oi := { dst := some 17, op := Op.fieldAddr 24 (Operand.tmp 1) 1, type := 0, pos := _, after := #[], guard := none }) (v := ?_) rfl (by kernel_rfl) (by kernel_rfl) (by kernel_rfl) (fun _ _ _ h => h) (Or.inl ⟨by rfl, ?_⟩) (by assumption) ?_
  rotate_left
  · (intro w hSw; (try dsimp only at hSw); go_simp; try with_reducible rfl)
  simp only [Act.put, List.setIfInBounds_toArray, List.set_cons_zero, List.set_cons_succ]
  refine wpAnyH_take (i := 2) (oi := { dst := some 18, op := Op.load 3 (Operand.tmp 17), type := 3, pos := _, after := #[{ on := 1, ground := Ground.data }], guard := none }) (v := ?_) rfl (by kernel_rfl) (by kernel_rfl) (by kernel_rfl) (fun _ _ _ h => h) (Or.inl ⟨by rfl, ?_⟩) (by assumption) ?_
  rotate_left
  · (intro w hSw; (try dsimp only at hSw); go_simp; try with_reducible rfl)
  simp only [Act.put, List.setIfInBounds_toArray, List.set_cons_zero, List.set_cons_succ]
  refine wpAnyH_take (i := 3) (oi := { dst := some 19, op := Op.indexAddr 48 (Operand.global 1) (Operand.tmp 18), type := 0, pos := _, after := #[{ on := 2, ground := Ground.data }], guard := none }) (v := ?_) rfl (by kernel_rfl) (by kernel_rfl) (by kernel_rfl) (fun _ _ _ h => h) (Or.inl ⟨by rfl, ?_⟩) (by assumption) ?_
  rotate_left
  · (intro w hSw; (try dsimp only at hSw); go_simp; try with_reducible rfl)
  simp only [Act.put, List.setIfInBounds_toArray, List.set_cons_zero, List.set_cons_succ]
  refine wpAnyH_take (i := 4) (oi := { dst := some 20, op := Op.load 9 (Operand.tmp 19), type := 9, pos := _, after := #[{ on := 3, ground := Ground.data }], guard := none }) (v := ?_) rfl (by kernel_rfl) (by kernel_rfl) (by kernel_rfl) (fun _ _ _ h => h) (Or.inl ⟨by rfl, ?_⟩) (by assumption) ?_
  rotate_left
  · (intro w hSw; (try dsimp only at hSw); go_simp; try with_reducible rfl)
  simp only [Act.put, List.setIfInBounds_toArray, List.set_cons_zero, List.set_cons_succ]
  refine wpAnyH_take (i := 5) (oi := { dst := some 21, op := Op.fieldAddr 24 (Operand.tmp 1) 2, type := 0, pos := _, after := #[], guard := none }) (v := ?_) rfl (by kernel_rfl) (by kernel_rfl) (by kernel_rfl) (fun _ _ _ h => h) (Or.inl ⟨by rfl, ?_⟩) (by assumption) ?_
  rotate_left
  · (intro w hSw; (try dsimp only at hSw); go_simp; try with_reducible rfl)
  simp only [Act.put, List.setIfInBounds_toArray, List.set_cons_zero, List.set_cons_succ]
  refine wpAnyH_take (i := 6) (oi := { dst := some 22, op := Op.load 3 (Operand.tmp 21), type := 3, pos := _, after := #[{ on := 5, ground := Ground.data }], guard := none }) (v := ?_) rfl (by kernel_rfl) (by kernel_rfl) (by kernel_rfl) (fun _ _ _ h => h) (Or.inl ⟨by rfl, ?_⟩) (by assumption) ?_
  rotate_left
  · (intro w hSw; (try dsimp only at hSw); go_simp; try with_reducible rfl)
  simp only [Act.put, List.setIfInBounds_toArray, List.set_cons_zero, List.set_cons_succ]
  refine wpAnyH_take (i := 7) (oi := { dst := some 23, op := Op.indexAddr 48 (Operand.global 1) (Operand.tmp 22), type := 0, pos := _, after := #[{ on := 6, ground := Ground.data }], guard := none }) (v := ?_) rfl (by kernel_rfl) (by kernel_rfl) (by kernel_rfl) (fun _ _ _ h => h) (Or.inl ⟨by rfl, ?_⟩) (by assumption) ?_
  rotate_left
  · (intro w hSw; (try dsimp only at hSw); go_simp; try with_reducible rfl)
  simp only [Act.put, List.setIfInBounds_toArray, List.set_cons_zero, List.set_cons_succ]
  refine wpAnyH_take (i := 8) (oi := { dst := some 24, op := Op.load 9 (Operand.tmp 23), type := 9, pos := _, after := #[{ on := 7, ground := Ground.data }], guard := none }) (v := ?_) rfl (by kernel_rfl) (by kernel_rfl) (by kernel_rfl) (fun _ _ _ h => h) (Or.inl ⟨by rfl, ?_⟩) (by assumption) ?_
  rotate_left
  · (intro w hSw; (try dsimp only at hSw); go_simp; try with_reducible rfl)
  simp only [Act.put, List.setIfInBounds_toArray, List.set_cons_zero, List.set_cons_succ]
  refine wpAnyH_ready (rs := [9]) (by kernel_rfl) (by simp) ?_
  refine AllReadyH.cons (o := { dst := some 25, op := Op.buildSlice 47 2 #[(0, Operand.tmp 20), (1, Operand.tmp 24)], type := 47, pos := _, after := #[{ on := 4, ground := Ground.data }, { on := 8, ground := Ground.data }], guard := none }) rfl (fun K hK => ?_) AllReadyH.nil
  go_simp
  skip
  refine hK.out _ _ ?_ (fun hHeld => ?_)
  · ((try dsimp only); exact HS.out _ ((below_drew (below_new _ _)).alloc (by simp) _))
  clear hK K
  try simp only [Act.put, List.setIfInBounds_toArray, List.set_cons_zero, List.set_cons_succ]
  refine wpAnyH_ready (rs := [10]) (by kernel_rfl) (by simp) ?_
  refine AllReadyH.cons (o := { dst := some 26, op := Op.call { callee := Callee.builtin Builtin.append, args := #[Operand.tmp 16, Operand.tmp 25], argTypes := #[47, 47] }, type := 47, pos := _, after := #[{ on := 0, ground := Ground.data }, { on := 9, ground := Ground.data }], guard := none }) rfl (fun K hK => ?_) AllReadyH.nil
  refine wp_app _ _ 47 rfl _ _ _ _ rfl rfl HR1.out ?_
  refine hK.out _ _ ?_ (fun hHeld => ?_)
  · ((try dsimp only); exact HS.out _ HB2.out)
  clear hK K
  try simp only [Act.put, List.setIfInBounds_toArray, List.set_cons_zero, List.set_cons_succ]
  refine wpAnyH_take (i := 11) (oi := { dst := some 4, op := Op.assign (Operand.tmp 26), type := 47, pos := _, after := #[{ on := 10, ground := Ground.data }, { on := 10, ground := Ground.chain }, { on := 0, ground := Ground.phase }, { on := 1, ground := Ground.phase }, { on := 2, ground := Ground.phase }, { on := 3, ground := Ground.phase }, { on := 4, ground := Ground.phase }, { on := 5, ground := Ground.phase }, { on := 6, ground := Ground.phase }, { on := 7, ground := Ground.phase }, { on := 8, ground := Ground.phase }, { on := 9, ground := Ground.phase }, { on := 10, ground := Ground.phase }], guard := none }) (v := ?_) rfl (by kernel_rfl) (by kernel_rfl) (by kernel_rfl) (fun _ _ _ h => h) (Or.inl ⟨by rfl, ?_⟩) (by assumption) ?_
  rotate_left
  · (intro w hSw; (try dsimp only at hSw); go_simp; try with_reducible rfl)
  simp only [Act.put, List.setIfInBounds_toArray, List.set_cons_zero, List.set_cons_succ]
  refine wpAnyH_done (by kernel_rfl) ?_ _
  clear hc hl hHeld
  have hc := (HX1.out.box.below HB2.out).cell
  have hl := (HX1.out.box.below HB2.out).lt
  have c3 := sw_at (HX1.out.tab.below HB2.out) h0 h2
  have l3 := cell_lt c3
  go_wp2_with (first | (at_builtin; refine wpList_app rfl _ _ 47 rfl _ _ _ _ rfl rfl HR2.out ?_) | (go_at_call 18; refine (HJ.out _ _ _ Q.out.1 Q.out.2.1 Q.out.2.2.1).mono ?_; rintro e w4 ⟨rfl, hb4⟩) | go_in)
  go_ret2
  exact ⟨rfl, Below.step (Below.step HX1.out.bel Q.out.2.2.2) hb4⟩
theorem show_any (m : Mem) (w : World) (hT : TA w) :
    Calls Tryd.prog 9 #[.agg #[.int .i64 m.t, .int .i64 m.i, .int .i64 m.o, .int .i64 m.s]] w fun e w' => e = .returned (.tuple #[.string (if K m then tx m else ⟨#[]⟩), .int .i64 (if K m then 0 else 62)]) ∧ Below w.heap.size w w' := by
  by_cases h : K m
  · rw [if_pos h, if_pos h]
    unfold tx wd
    obtain ⟨t, i, o, s⟩ := m
    rcases h with ⟨rfl, rfl, rfl, rfl⟩ | ⟨rfl, rfl, rfl, a, b⟩ | ⟨rfl, a, b, c, d, e, f⟩
    · exact show_0 w hT
    · exact show_1 s w hT a b
    · exact show_2 i o s w hT a b c d e f
  · rw [if_neg h, if_neg h]
    exact show_no m w h
end Go.Proofs.YtmcloaonpkfibaaDoor
