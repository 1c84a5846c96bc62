import Derived.Test.YtilhceajhlaojaaGreatDoorZ2
import Derived.Test.YtilhceajhlaojaaGreatDoorZ1
namespace Go.Proofs.YtilhceajhlaojaaGreatDoor
open Go.RowKit
set_option linter.unusedVariables false
set_option linter.unusedSimpArgs false
theorem RB.drew {w : World} {b : Nat} {t : TypeId} {R : List Int} {E : List Value} (h : RB w b t R E) : RB w.drew b t R E := ⟨h.ok, h.bl⟩
set_option maxRecDepth 100000 in
theorem gleave_no (w : World) (b : Nat) (R : List Int) (to : Int) (h : RS w b R) (hO : (bkO (rg R (23 + bkR R) % 32)).isSome = false) : Calls Tryz.prog 35 #[.pointer (some ⟨b, 0, none⟩), .int .u32 to] w fun e w' => e = .returned (.bool false) ∧ Below w.heap.size w w' := by
  have HB : Hid (∀ w, RS w b R → Calls Tryz.prog 52 #[.pointer (some ⟨b, 0, none⟩)] w fun e w' => e = .returned (.int .i64 (bkR R : Nat)) ∧ w' = w) := fun w h => grbank w b R h
  have k0 := bkR_lt R
  have hs := h.ok.rng (23 + bkR R)
  have HM : Hid (∀ w, Calls Tryz.prog 53 #[.int .u32 (rg R (23 + bkR R))] w fun e w' => e = .returned (.int .i64 (rg R (23 + bkR R) % 32)) ∧ w' = w) := fun w => gmode _ w hs
  have HK : Hid (∀ w, Calls Tryz.prog 40 #[.int .i64 (rg R (23 + bkR R) % 32)] w fun e w' => e = .returned (.tuple #[.int .i64 (bkN (rg R (23 + bkR R) % 32) : Nat), .bool false]) ∧ w' = w) := fun w => by
    have := gBank_at (rg R (23 + bkR R) % 32) w
    rw [hO] at this
    exact this
  have c0 := h.cell (23 + bkR R) (by omega)
  have HS := hidW h
  generalize rg R (23 + bkR R) % 32 = m at *
  generalize rg R (23 + bkR R) = s at *
  generalize bkR R = k at *
  generalize bkN m = j at *
  have k1 : (k : Int) < 5 := by omega
  clear h hO hs
  go_enter Tryz.func35, Tryz.ntmps35
  go_wp2
  go_region_held3 (fun w' => w'.cell? ⟨b, 23 + k, none⟩ = some (.int .u32 s)) (first | exact c0) ((first | (go_at_call 52; refine (HB.out _ (by first | exact HS.out | exact HS.out.drew | exact HS.out.drewN _)).mono ?_; rintro e w' ⟨rfl, rfl⟩)))
  go_wp2_with (first | (go_at_call 53; refine (HM.out _).mono ?_; rintro e w' ⟨rfl, rfl⟩) | (go_at_call 40; refine (HK.out _).mono ?_; rintro e w' ⟨rfl, rfl⟩))
  exact bodyPost_ret (v := .bool false) (by simp [results, Tryz.results35, go_sem]) rfl ⟨rfl, by first | exact below_drew (Below.refl _ _) | exact below_drewN (Below.refl _ _) _⟩
set_option maxRecDepth 100000 in
theorem gleave_yes (w : World) (b : Nat) (t : TypeId) (R : List Int) (E : List Value) (to : Int) (hv : 0 ≤ to ∧ to < 4294967296) (h : RB w b t R E) (hO : (bkO (rg R (23 + bkR R) % 32)).isSome = true) : Calls Tryz.prog 35 #[.pointer (some ⟨b, 0, none⟩), .int .u32 to] w fun e w' => e = .returned (.bool true) ∧ TA b w w' ∧ RB w' b t ((R.set 29 (rg R (23 + bkR R))).set 28 (alW to)) E := by
  have HB : Hid (∀ w, RS w b R → Calls Tryz.prog 52 #[.pointer (some ⟨b, 0, none⟩)] w fun e w' => e = .returned (.int .i64 (bkR R : Nat)) ∧ w' = w) := fun w h => grbank w b R h
  have k0 := bkR_lt R
  have hs := h.ok.rng (23 + bkR R)
  have HM : Hid (∀ w, Calls Tryz.prog 53 #[.int .u32 (rg R (23 + bkR R))] w fun e w' => e = .returned (.int .i64 (rg R (23 + bkR R) % 32)) ∧ w' = w) := fun w => gmode _ w hs
  have HA : Hid (∀ w, Calls Tryz.prog 54 #[.int .u32 to] w fun e w' => e = .returned (.int .u32 (alW to)) ∧ w' = w) := fun w => galign to w hv
  have HK : Hid (∀ w, Calls Tryz.prog 40 #[.int .i64 (rg R (23 + bkR R) % 32)] w fun e w' => e = .returned (.tuple #[.int .i64 (bkN (rg R (23 + bkR R) % 32) : Nat), .bool true]) ∧ w' = w) := fun w => by
    have := gBank_at (rg R (23 + bkR R) % 32) w
    rw [hO] at this
    exact this
  have c0 := h.rs.cell (23 + bkR R) (by omega)
  have c28 := h.rs.cell 28 (by decide)
  have c29 := h.rs.cell 29 (by decide)
  have f28 := h.rs.frz 28
  have f29 := h.rs.frz 29
  have HS := hidW h.rs
  have HE : Hid (TA b w ((w.setCell ⟨b, 29, none⟩ (.int .u32 (rg R (23 + bkR R)))).setCell ⟨b, 28, none⟩ (.int .u32 (alW to))) ∧ RB ((w.setCell ⟨b, 29, none⟩ (.int .u32 (rg R (23 + bkR R)))).setCell ⟨b, 28, none⟩ (.int .u32 (alW to))) b t ((R.set 29 (rg R (23 + bkR R))).set 28 (alW to)) E) :=
    ⟨(ta_put (Below.refl _ _)).set 28 _, (h.put (k := 29) (by decide) hs).put (k := 28) (by decide) (alW_range hv)⟩
  generalize (R.set 29 (rg R (23 + bkR R))).set 28 (alW to) = R' at *
  generalize rg R (23 + bkR R) % 32 = m at *
  generalize rg R (23 + bkR R) = s at *
  generalize bkR R = k at *
  generalize bkN m = j at *
  generalize alW to = a at *
  generalize rg R 28 = y28 at *
  generalize rg R 29 = y29 at *
  have k1 : (k : Int) < 5 := by omega
  clear h hO hs hv
  go_enter Tryz.func35, Tryz.ntmps35
  go_wp2
  go_region_held3 (fun w' => w'.cell? ⟨b, 23 + k, none⟩ = some (.int .u32 s)) (first | exact c0) ((first | (go_at_call 52; refine (HB.out _ (by first | exact HS.out | exact HS.out.drew | exact HS.out.drewN _)).mono ?_; rintro e w' ⟨rfl, rfl⟩)))
  go_wp2_with (first | (go_at_call 53; refine (HM.out _).mono ?_; rintro e w' ⟨rfl, rfl⟩) | (go_at_call 40; refine (HK.out _).mono ?_; rintro e w' ⟨rfl, rfl⟩) | (go_at_call 54; refine (HA.out _).mono ?_; rintro e w' ⟨rfl, rfl⟩))
  exact bodyPost_ret (v := .bool true) (by simp [results, Tryz.results35, go_sem]) rfl ⟨rfl, HE.out.1.drew, HE.out.2.drew⟩
/-- The way of an exception. -/
def enW (x mode : Int) : Int := bits .or .u32 (bits .or .u32 (x - x % 32) mode) 128
theorem enW_eq (x : Int) (hx : 0 ≤ x ∧ x < 4294967296) (hk : x % 268435456 / 32 % 4 = 0 ∧ x % 268435456 / 256 = 0) (m : Int) (hm : 0 ≤ m ∧ m < 32) : True := trivial
theorem or_rangeI (x y : Int) (x0 : 0 ≤ x) (x1 : x < 4294967296) (y0 : 0 ≤ y) (y1 : y < 4294967296) : 0 ≤ bits .or .u32 x y ∧ bits .or .u32 x y < 4294967296 := by
  obtain ⟨X, rfl⟩ := Int.eq_ofNat_of_zero_le x0
  obtain ⟨Y, rfl⟩ := Int.eq_ofNat_of_zero_le y0
  rw [u32_or_nat X Y (by omega) (by omega)]
  have : X ||| Y < 2 ^ 32 := Nat.or_lt_two_pow (by omega) (by omega)
  omega
theorem enW_range (x m : Int) (hx : 0 ≤ x ∧ x < 4294967296) (hm : 0 ≤ m ∧ m < 32) : 0 ≤ enW x m ∧ enW x m < 4294967296 := by
  have h1 := or_rangeI (x - x % 32) m (by omega) (by omega) hm.1 (by omega)
  exact or_rangeI _ 128 h1.1 h1.2 (by decide) (by decide)
def enP (R : List Int) (mode back vec : Int) : List Int :=
  (((R.set (23 + bkN mode) (rg R 29)).set (18 + bkN mode) ((rg R 28 + back) % 4294967296)).set 29 (enW (rg R 29) mode)).set 28 vec
theorem cell_far {w : World} {b i j : Nat} {x : Option Value} {u : Value} (h : w.cell? ⟨b, i, none⟩ = x) (hn : i ≠ j) : (w.setCell ⟨b, j, none⟩ u).cell? ⟨b, i, none⟩ = x := by
  rw [World.cell?_setCell_other]
  · exact h
  · intro e
    have := congrArg Addr.off e
    exact hn this.symm
theorem cell_farB {w : World} {b c i j : Nat} {x : Option Value} {u : Value} (h : w.cell? ⟨b, i, none⟩ = x) (hn : b ≠ c) : (w.setCell ⟨c, j, none⟩ u).cell? ⟨b, i, none⟩ = x := by
  rw [World.cell?_setCell_other]
  · exact h
  · intro e
    have := congrArg Addr.block e
    exact hn this.symm
/-- The state while an exception is entered. -/
structure NX (W v : World) (q b : Nat) (t : TypeId) (R : List Int) (E L : List Value) : Prop where
  turn : TA b W v
  box : Bl v q 115 L
  rb : RB v b t R E
theorem NX.drew {W v : World} {q b : Nat} {t : TypeId} {R : List Int} {E L : List Value} (h : NX W v q b t R E L) : NX W v.drew q b t R E L := ⟨h.turn.drew, h.box.drew, h.rb.drew⟩
theorem NX.put {W v : World} {q b : Nat} {t : TypeId} {R : List Int} {E L : List Value} (h : NX W v q b t R E L) (hq : q ≠ b) {k : Nat} (hk : k < 30) {u : Int} (hu : 0 ≤ u ∧ u < 4294967296) : NX W (v.setCell ⟨b, k, none⟩ (.int .u32 u)) q b t (R.set k u) E L :=
  ⟨h.turn.set k _, h.box.set_ne hq k _, h.rb.put hk hu⟩
theorem NX.first {w : World} {b : Nat} {t : TypeId} {R : List Int} {E : List Value} (h : RB w b t R E) (L : List Value) : NX w (w.alloc (.cells L.toArray 115)) w.heap.size b t R E L :=
  ⟨TA.of (below_new _ _), Bl.new _ _ _, h.below (below_new _ _)⟩
theorem bl3 {w : World} {q : Nat} {t : TypeId} {x0 x1 x2 : Value} (h : Bl w q t [x0, x1, x2]) : w.cell? ⟨q, 0, none⟩ = some x0 ∧ w.cell? ⟨q, 1, none⟩ = some x1 ∧ w.cell? ⟨q, 2, none⟩ = some x2 := ⟨h.cell 0, h.cell 1, h.cell 2⟩
set_option maxRecDepth 100000 in
theorem genter (w : World) (b : Nat) (t : TypeId) (R : List Int) (E : List Value) (mode back vec : Int) (h : RB w b t R E) (hm : 0 ≤ mode ∧ mode < 32) (hk : 0 ≤ back ∧ back < 4294967296) (hv : 0 ≤ vec ∧ vec < 4294967296) : Calls Tryz.prog 49 #[.pointer (some ⟨b, 0, none⟩), .agg #[.int .i64 mode, .int .u32 back, .int .u32 vec]] w fun e w' => e = .returned (.tuple #[]) ∧ TA b w w' ∧ RB w' b t (enP R mode back vec) E := by
  have HB : Hid (∀ w, Calls Tryz.prog 40 #[.int .i64 mode] w fun e w' => e = .returned (.tuple #[.int .i64 (bkN mode : Nat), .bool (bkO mode).isSome]) ∧ w' = w) := fun w => gBank_at mode w
  have k0 := bkN_lt mode
  have r28 := h.ok.rng 28
  have r29 := h.ok.rng 29
  have HX := hidW (NX.first h [.int .i64 mode, .int .u32 back, .int .u32 vec])
  have hqb : Hid (w.heap.size ≠ b) := hidW (by have := h.bl.lt; omega)
  have e28 : IntKind.u32.wrap (rg R 28 + back) = (rg R 28 + back) % 4294967296 := by rw [IntKind.wrap_u32']
  have em : IntKind.u32.wrap mode = mode := by rw [IntKind.wrap_u32']; omega
  have ex : bits .andNot .u32 (rg R 29) 31 = rg R 29 - rg R 29 % 32 := andNot31 _ r29
  have ey : bits .or .u32 (bits .or .u32 (rg R 29 - rg R 29 % 32) mode) 128 = enW (rg R 29) mode := rfl
  have rz : 0 ≤ (rg R 28 + back) % 4294967296 ∧ (rg R 28 + back) % 4294967296 < 4294967296 := by omega
  have ry := enW_range (rg R 29) mode r29 hm
  have c29 : rg (((R.set (23 + bkN mode) (rg R 29))).set (18 + bkN mode) ((rg R 28 + back) % 4294967296)) 29 = rg R 29 := by
    rw [rg_set _ _ _ _ (by rw [List.length_set, h.ok.len]; omega), if_neg (by omega), rg_set _ _ _ _ (by rw [h.ok.len]; omega), if_neg (by omega)]
  have c28 : rg (R.set (23 + bkN mode) (rg R 29)) 28 = rg R 28 := by
    rw [rg_set _ _ _ _ (by rw [h.ok.len]; omega), if_neg (by omega)]
  have hX2 : Hid (∀ v q, q ≠ b → NX w v q b t R E [.int .i64 mode, .int .u32 back, .int .u32 vec] → NX w (v.setCell ⟨b, 23 + bkN mode, none⟩ (.int .u32 (rg R 29))) q b t (R.set (23 + bkN mode) (rg R 29)) E [.int .i64 mode, .int .u32 back, .int .u32 vec]) := fun v q hn h => h.put hn (by omega) r29
  have hX3 : Hid (∀ v q, q ≠ b → NX w v q b t (R.set (23 + bkN mode) (rg R 29)) E [.int .i64 mode, .int .u32 back, .int .u32 vec] → NX w (v.setCell ⟨b, 18 + bkN mode, none⟩ (.int .u32 ((rg R 28 + back) % 4294967296))) q b t ((R.set (23 + bkN mode) (rg R 29)).set (18 + bkN mode) ((rg R 28 + back) % 4294967296)) E [.int .i64 mode, .int .u32 back, .int .u32 vec]) := fun v q hn h => h.put hn (by omega) rz
  have hX4 : Hid (∀ v q, q ≠ b → NX w v q b t ((R.set (23 + bkN mode) (rg R 29)).set (18 + bkN mode) ((rg R 28 + back) % 4294967296)) E [.int .i64 mode, .int .u32 back, .int .u32 vec] → NX w ((v.setCell ⟨b, 29, none⟩ (.int .u32 (enW (rg R 29) mode)))) q b t (((R.set (23 + bkN mode) (rg R 29)).set (18 + bkN mode) ((rg R 28 + back) % 4294967296)).set 29 (enW (rg R 29) mode)) E [.int .i64 mode, .int .u32 back, .int .u32 vec]) := fun v q hn h => h.put hn (by decide) ry
  have hX5 : Hid (∀ v q, q ≠ b → NX w v q b t (((R.set (23 + bkN mode) (rg R 29)).set (18 + bkN mode) ((rg R 28 + back) % 4294967296)).set 29 (enW (rg R 29) mode)) E [.int .i64 mode, .int .u32 back, .int .u32 vec] → NX w ((v.setCell ⟨b, 28, none⟩ (.int .u32 vec))) q b t (enP R mode back vec) E [.int .i64 mode, .int .u32 back, .int .u32 vec]) := fun v q hn h => h.put hn (by decide) hv
  generalize enP R mode back vec = R' at *
  go_enter Tryz.func49, Tryz.ntmps49
  go_wp2_with (first | (go_at_call 40; refine (HB.out _).mono ?_; rintro e w' ⟨rfl, rfl⟩))
  clear h r28 r29 hm hk hv rz ry
  change Hid (NX w (w.alloc (.cells #[.int .i64 mode, .int .u32 back, .int .u32 vec] 115)) _ _ _ _ _ _) at HX
  generalize w.heap.size = q at HX hqb ⊢
  generalize w.alloc (.cells #[.int .i64 mode, .int .u32 back, .int .u32 vec] 115) = w1 at HX ⊢
  generalize (bkO mode).isSome = o at *
  generalize bkN mode = k at *
  have k1 : (k : Int) < 5 := by omega
  have HX := hidW HX.out.drew
  have d29 := HX.out.rb.rs.cell 29 (by decide)
  have dS := HX.out.rb.rs.cell (23 + k) (by omega)
  have fS := HX.out.rb.rs.frz (23 + k)
  go_region_held3 (fun w' => w'.cell? ⟨b, 29, none⟩ = some (.int .u32 (rg R 29))) (first | exact d29 | exact cell_far d29 (by omega)) ((first | fail))
  have HX := hidW (hX2.out _ _ hqb.out HX.out)
  go_wp2
  change Hid (NX w (w1.setCell ⟨b, 23 + k, none⟩ (.int .u32 (rg R 29))).drew q b t _ E _) at HX
  generalize (w1.setCell ⟨b, 23 + k, none⟩ (.int .u32 (rg R 29))).drew = w2 at HX ⊢
  clear d29 dS fS
  have HX := hidW HX.out.drew
  have d28 := HX.out.rb.rs.cell 28 (by decide)
  rw [c28] at d28
  have dS := HX.out.rb.rs.cell (18 + k) (by omega)
  have fS := HX.out.rb.rs.frz (18 + k)
  obtain ⟨x0, x1, x2⟩ := bl3 HX.out.box
  generalize (rg R 28 + back) % 4294967296 = z at *
  go_region_held3 (fun w' => w'.cell? ⟨b, 28, none⟩ = some (.int .u32 (rg R 28)) ∧ w'.cell? ⟨q, 1, none⟩ = some (.int .u32 back)) (first | exact ⟨d28, x1⟩ | exact ⟨cell_far d28 (by omega), cell_farB x1 hqb.out⟩) ((first | fail))
  have HX := hidW (hX3.out _ _ hqb.out HX.out)
  go_wp2
  change Hid (NX w (w2.setCell ⟨b, 18 + k, none⟩ (.int .u32 z)).drew q b t _ E _) at HX
  generalize (w2.setCell ⟨b, 18 + k, none⟩ (.int .u32 z)).drew = w3 at HX ⊢
  clear d28 dS fS x0 x1 x2
  have HX := hidW HX.out.drew
  have d29 := HX.out.rb.rs.cell 29 (by decide)
  rw [c29] at d29
  have f29 := HX.out.rb.rs.frz 29
  obtain ⟨x0, x1, x2⟩ := bl3 HX.out.box
  generalize enW (rg R 29) mode = y at *
  generalize rg R 29 = x at *
  refine wp_region_held_drew (S := fun w' => w'.cell? ⟨q, 0, none⟩ = some (.int .i64 mode)) (by kernel_rfl) x0 (fun hHeld => ?_)
  refine wpAnyH_take (i := 0) (oi := { dst := some 33, op := Op.move (Operand.tmp 0), type := 125, pos := _, after := #[], guard := none }) (v := ?_) rfl (by kernel_rfl) (by kernel_rfl) (by kernel_rfl) (fun _ _ _ h => h) (Or.inl ⟨by rfl, ?_⟩) (by assumption) ?_
  rotate_left
  · (intro w hSw; (try dsimp only at hSw); go_simp; try with_reducible rfl)
  simp only [Act.put, List.setIfInBounds_toArray, List.set_cons_zero, List.set_cons_succ]
  refine wpAnyH_take (i := 1) (oi := { dst := some 34, op := Op.move (Operand.tmp 0), type := 125, pos := _, after := #[], guard := none }) (v := ?_) rfl (by kernel_rfl) (by kernel_rfl) (by kernel_rfl) (fun _ _ _ h => h) (Or.inl ⟨by rfl, ?_⟩) (by assumption) ?_
  rotate_left
  · (intro w hSw; (try dsimp only at hSw); go_simp; try with_reducible rfl)
  simp only [Act.put, List.setIfInBounds_toArray, List.set_cons_zero, List.set_cons_succ]
  refine wpAnyH_take (i := 2) (oi := { dst := some 35, op := Op.nilCheck (Operand.tmp 34), type := 0, pos := _, after := #[{ on := 1, ground := Ground.data }], guard := none }) (v := ?_) rfl (by kernel_rfl) (by kernel_rfl) (by kernel_rfl) (fun _ _ _ h => h) (Or.inl ⟨by rfl, ?_⟩) (by assumption) ?_
  rotate_left
  · (intro w hSw; (try dsimp only at hSw); go_simp; try with_reducible rfl)
  simp only [Act.put, List.setIfInBounds_toArray, List.set_cons_zero, List.set_cons_succ]
  refine wpAnyH_take (i := 3) (oi := { dst := some 36, op := Op.fieldAddr 84 (Operand.tmp 35) 5, type := 0, pos := _, after := #[{ on := 2, ground := Ground.data }], guard := none }) (v := ?_) rfl (by kernel_rfl) (by kernel_rfl) (by kernel_rfl) (fun _ _ _ h => h) (Or.inl ⟨by rfl, ?_⟩) (by assumption) ?_
  rotate_left
  · (intro w hSw; (try dsimp only at hSw); go_simp; try with_reducible rfl)
  simp only [Act.put, List.setIfInBounds_toArray, List.set_cons_zero, List.set_cons_succ]
  refine wpAnyH_take (i := 6) (oi := { dst := some 39, op := Op.fieldAddr 115 (Operand.tmp 3) 0, type := 0, pos := _, after := #[], guard := none }) (v := ?_) rfl (by kernel_rfl) (by kernel_rfl) (by kernel_rfl) (fun _ _ _ h => h) (Or.inl ⟨by rfl, ?_⟩) (by assumption) ?_
  rotate_left
  · (intro w hSw; (try dsimp only at hSw); go_simp; try with_reducible rfl)
  simp only [Act.put, List.setIfInBounds_toArray, List.set_cons_zero, List.set_cons_succ]
  refine wpAnyH_take (i := 7) (oi := { dst := some 40, op := Op.load 3 (Operand.tmp 39), type := 3, pos := _, after := #[{ on := 6, ground := Ground.data }], guard := none }) (v := ?_) rfl (by kernel_rfl) (by kernel_rfl) (by kernel_rfl) (fun _ _ _ h => h) (Or.inl ⟨by rfl, ?_⟩) (by assumption) ?_
  rotate_left
  · (intro w hSw; (try dsimp only at hSw); go_simp; try with_reducible rfl)
  simp only [Act.put, List.setIfInBounds_toArray, List.set_cons_zero, List.set_cons_succ]
  refine wpAnyH_take (i := 8) (oi := { dst := some 41, op := Op.convert 3 22 (Operand.tmp 40), type := 22, pos := _, after := #[{ on := 7, ground := Ground.data }], guard := none }) (v := ?_) rfl (by kernel_rfl) (by kernel_rfl) (by kernel_rfl) (fun _ _ _ h => h) (Or.inl ⟨by rfl, ?_⟩) (by assumption) ?_
  rotate_left
  · (intro w hSw; (try dsimp only at hSw); go_simp; try with_reducible rfl)
  simp only [Act.put, List.setIfInBounds_toArray, List.set_cons_zero, List.set_cons_succ]
  refine wpAnyH_ready (rs := [4]) (by kernel_rfl) (by simp) ?_
  refine (AllReadyH.cons (o := { dst := some 37, op := Op.load 22 (Operand.tmp 36), type := 22, pos := _, after := #[{ on := 3, ground := Ground.data }], guard := none }) rfl (fun K hK => ?_) AllReadyH.nil)
  go_simp
  skip
  refine hK.out _ _ ?_ (fun hHeld => ?_)
  · ((try dsimp only); exact x0)
  clear hK K
  try simp only [Act.put, List.setIfInBounds_toArray, List.set_cons_zero, List.set_cons_succ]
  refine wpAnyH_take (i := 5) (oi := { dst := some 38, op := Op.binOp BinOp.andNot 22 (Operand.tmp 37) (Operand.const (Value.int IntKind.u32 31)) 22, type := 22, pos := _, after := #[{ on := 4, ground := Ground.data }], guard := none }) (v := ?_) rfl (by kernel_rfl) (by kernel_rfl) (by kernel_rfl) (fun _ _ _ h => h) (Or.inl ⟨by rfl, ?_⟩) (by assumption) ?_
  rotate_left
  · (intro w hSw; (try dsimp only at hSw); go_simp; try with_reducible rfl)
  simp only [Act.put, List.setIfInBounds_toArray, List.set_cons_zero, List.set_cons_succ]
  refine wpAnyH_take (i := 9) (oi := { dst := some 42, op := Op.binOp BinOp.or 22 (Operand.tmp 38) (Operand.tmp 41) 22, type := 22, pos := _, after := #[{ on := 5, ground := Ground.data }, { on := 8, ground := Ground.data }], guard := none }) (v := ?_) rfl (by kernel_rfl) (by kernel_rfl) (by kernel_rfl) (fun _ _ _ h => h) (Or.inl ⟨by rfl, ?_⟩) (by assumption) ?_
  rotate_left
  · (intro w hSw; (try dsimp only at hSw); go_simp; try with_reducible rfl)
  simp only [Act.put, List.setIfInBounds_toArray, List.set_cons_zero, List.set_cons_succ]
  refine wpAnyH_take (i := 10) (oi := { dst := some 43, op := Op.binOp BinOp.or 22 (Operand.tmp 42) (Operand.const (Value.int IntKind.u32 128)) 22, type := 22, pos := _, after := #[{ on := 9, ground := Ground.data }], guard := none }) (v := ?_) rfl (by kernel_rfl) (by kernel_rfl) (by kernel_rfl) (fun _ _ _ h => h) (Or.inl ⟨by rfl, ?_⟩) (by assumption) ?_
  rotate_left
  · (intro w hSw; (try dsimp only at hSw); go_simp; try with_reducible rfl)
  simp only [Act.put, List.setIfInBounds_toArray, List.set_cons_zero, List.set_cons_succ]
  refine wpAnyH_take (i := 11) (oi := { dst := some 44, op := Op.nilCheck (Operand.tmp 33), type := 0, pos := _, after := #[{ on := 0, ground := Ground.data }, { on := 0, ground := Ground.phase }, { on := 1, ground := Ground.phase }, { on := 2, ground := Ground.phase }, { on := 3, ground := Ground.phase }, { on := 4, ground := Ground.phase }, { on := 5, ground := Ground.phase }, { on := 6, ground := Ground.phase }, { on := 7, ground := Ground.phase }, { on := 8, ground := Ground.phase }, { on := 9, ground := Ground.phase }, { on := 10, ground := Ground.phase }], guard := none }) (v := ?_) rfl (by kernel_rfl) (by kernel_rfl) (by kernel_rfl) (fun _ _ _ h => h) (Or.inl ⟨by rfl, ?_⟩) (by assumption) ?_
  rotate_left
  · (intro w hSw; (try dsimp only at hSw); go_simp; try with_reducible rfl)
  simp only [Act.put, List.setIfInBounds_toArray, List.set_cons_zero, List.set_cons_succ]
  refine wpAnyH_take (i := 12) (oi := { dst := some 45, op := Op.fieldAddr 84 (Operand.tmp 44) 5, type := 0, pos := _, after := #[{ on := 11, ground := Ground.data }, { on := 0, ground := Ground.phase }, { on := 1, ground := Ground.phase }, { on := 2, ground := Ground.phase }, { on := 3, ground := Ground.phase }, { on := 4, ground := Ground.phase }, { on := 5, ground := Ground.phase }, { on := 6, ground := Ground.phase }, { on := 7, ground := Ground.phase }, { on := 8, ground := Ground.phase }, { on := 9, ground := Ground.phase }, { on := 10, ground := Ground.phase }], guard := none }) (v := ?_) rfl (by kernel_rfl) (by kernel_rfl) (by kernel_rfl) (fun _ _ _ h => h) (Or.inl ⟨by rfl, ?_⟩) (by assumption) ?_
  rotate_left
  · (intro w hSw; (try dsimp only at hSw); go_simp; try with_reducible rfl)
  simp only [Act.put, List.setIfInBounds_toArray, List.set_cons_zero, List.set_cons_succ]
  refine wpAnyH_ready (rs := [13]) (by kernel_rfl) (by simp) ?_
  refine (AllReadyH.cons (o := { dst := none, op := Op.store 22 (Operand.tmp 45) (Operand.tmp 43), type := 0, pos := _, after := #[{ on := 12, ground := Ground.data }, { on := 10, ground := Ground.data }, { on := 0, ground := Ground.phase }, { on := 1, ground := Ground.phase }, { on := 2, ground := Ground.phase }, { on := 3, ground := Ground.phase }, { on := 4, ground := Ground.phase }, { on := 5, ground := Ground.phase }, { on := 6, ground := Ground.phase }, { on := 7, ground := Ground.phase }, { on := 8, ground := Ground.phase }, { on := 9, ground := Ground.phase }, { on := 10, ground := Ground.phase }], guard := none }) rfl (fun K hK => ?_) AllReadyH.nil)
  go_simp
  skip
  refine hK.out _ _ ?_ (fun hHeld => ?_)
  · ((try dsimp only); exact cell_farB x0 hqb.out)
  clear hK K
  try simp only [Act.put, List.setIfInBounds_toArray, List.set_cons_zero, List.set_cons_succ]
  refine wpAnyH_done (by kernel_rfl) ?_ _
  have HX := hidW (hX4.out _ _ hqb.out HX.out)
  change Hid (NX w (w3.setCell ⟨b, 29, none⟩ (.int .u32 y)).drew q b t _ E _) at HX
  generalize (w3.setCell ⟨b, 29, none⟩ (.int .u32 y)).drew = w4 at HX ⊢
  clear d29 f29 x0 x1 x2
  obtain ⟨x0, x1, x2⟩ := bl3 HX.out.box
  have d28 := HX.out.rb.rs.cell 28 (by decide)
  have f28 := HX.out.rb.rs.frz 28
  go_wp2_with fail
  have HX := hidW (hX5.out _ _ hqb.out HX.out)
  exact bodyPost_end (v := .tuple #[]) (by simp [results, Tryz.results49, go_sem]) rfl ⟨rfl, HX.out.turn, HX.out.rb⟩
end Go.Proofs.YtilhceajhlaojaaGreatDoor
namespace Go.Proofs.YtilhceajhlaojaaGreatDoor.Is
open Go.RowKit
set_option linter.unusedVariables false
set_option linter.unusedSimpArgs false
/-- The program's tables. -/
structure TP (w : World) : Prop where
  low : ∀ (j : Nat) r, lowL[j]? = some r → w.rangeAt 0 (j * 5) (rowL r)
  high : ∀ (j : Nat) r, highL[j]? = some r → w.rangeAt 1 (j * 5) (rowL r)
  pl : ∀ k, k < 28 → w.rangeAt 2 (k * 4) [.int .u8 ((plP k).fld : Int), .int .u8 ((plP k).at_ : Int), .int .u8 ((plP k).wide : Int), .int .u8 ((plP k).frm : Int)]
  db : ∀ k, k < 32 → w.cell? ⟨4, k, none⟩ = some (.int .u8 ((dbL.getD k 0 : Nat) : Int))
theorem range_keep {w w' : World} {b o : Nat} {l : List Value} (h : w.rangeAt b o l) (hb : Below w.heap.size w w') : w'.rangeAt b o l := fun j v hv => cell_keep (h j v hv) hb
theorem TP.below {w w' : World} (h : TP w) (hb : Below w.heap.size w w') : TP w' := ⟨fun j r hr => range_keep (h.low j r hr) hb, fun j r hr => range_keep (h.high j r hr) hb, fun k hk => range_keep (h.pl k hk) hb, fun k hk => cell_keep (h.db k hk) hb⟩
theorem TP.size {w : World} (h : TP w) : 4 < w.heap.size := cell_lt (h.db 0 (by decide))
set_option maxRecDepth 100000 in
theorem ghas_any (r : RowP) (k : Nat) (w : World) (hk : k < 32) (hp : r.parts < 4294967296) : Calls Tryz.prog 43 #[.agg #[.int .u8 (r.op : Int), .int .u8 (r.form : Int), .int .u32 (r.mask : Int), .int .u32 (r.bits : Int), .int .u32 (r.parts : Int)], .int .i64 (k : Int)] w fun e w' => e = .returned (.bool (hasR r k)) ∧ Below w.heap.size w w' := by
  have e : (bits .and .u32 ((r.parts : Int) / 2 ^ k) 1 == 1) = hasR r k := by
    rw [band1 _ (shr_range _ _ ⟨by omega, by omega⟩), ← pow_nat, ← Int.natCast_ediv, hasR]
    generalize r.parts / 2 ^ k = q
    rcases Nat.mod_two_eq_zero_or_one q with h | h
    · rw [h, show (q : Int) % 2 = 0 by omega]; rfl
    · rw [h, show (q : Int) % 2 = 1 by omega]; rfl
  go_enter Tryz.func43, Tryz.ntmps43
  go_wp2
  exact bodyPost_ret (v := .bool (hasR r k)) (by simp [results, Tryz.results43, go_sem]) rfl ⟨rfl, below_new _ _⟩
theorem neg_wrap (x : Nat) (h0 : 0 < x) (hx : x < 4294967296) : IntKind.u32.wrap (-(x : Int)) = ((4294967296 - x : Nat) : Int) := by
  rw [IntKind.wrap_u32]; omega
theorem tz_and (x : Nat) (h0 : 0 < x) (hx : x < 4294967296) : bits .and .u32 (x : Int) ((4294967296 - x : Nat) : Int) = ((x &&& (4294967296 - x) : Nat) : Int) := by
  rw [u32_and _ _ (by omega) (by omega) (by omega) (by omega), Int.toNat_natCast, Int.toNat_natCast]
set_option maxRecDepth 100000 in
theorem tz_any (x : Nat) (w : World) (ht : TP w) (h0 : 0 < x) (hx : x < 4294967296) : Calls Tryz.prog 41 #[.int .u32 (x : Int)] w fun e w' => e = .returned (.int .i64 (tzP x : Nat)) ∧ w' = w := by
  have e1 := neg_wrap x h0 hx
  have e2 := tz_and x h0 hx
  have ez : ((x : Int) == 0) = false := by rw [beq_eq_false_iff_ne]; omega
  have hd : ∀ k : Fin 32, dbL.getD k.1 0 ≤ 31 := by decide
  obtain ⟨k, hk⟩ : ∃ k, (x &&& (4294967296 - x)) * 125613361 % 4294967296 / 134217728 = k := ⟨_, rfl⟩
  have hk32 : k < 32 := by omega
  have hc := ht.db k hk32
  have hv : dbL.getD k 0 ≤ 31 := hd ⟨k, hk32⟩
  have et : tzP x = dbL.getD k 0 := by rw [tzP, hk]
  rw [et]
  have e3 : ((x &&& (4294967296 - x) : Nat) : Int) * 125613361 % 4294967296 / 134217728 = (k : Nat) := by rw [← hk, Int.natCast_ediv, Int.natCast_emod, Int.natCast_mul]; rfl
  generalize hA : x &&& (4294967296 - x) = A at *
  generalize dbL.getD k 0 = D at *
  have hw : IntKind.i64.wrap (D : Int) = (D : Int) := by
    clear e1 e2 e3 ez hc
    rw [IntKind.wrap_i64]; omega
  clear et hd ht hA hk
  generalize hB : 4294967296 - x = B at *
  clear hB
  go_enter Tryz.func41, Tryz.ntmps41
  go_wp2
  exact bodyPost_ret (v := .int .i64 (D : Int)) (by simp [results, Tryz.results41, go_sem]) rfl ⟨rfl, rfl⟩
end Go.Proofs.YtilhceajhlaojaaGreatDoor.Is
namespace Go.Proofs.YtilhceajhlaojaaGreatDoor.Is
open Go.RowKit
set_option linter.unusedVariables false
set_option linter.unusedSimpArgs false
def addsP (op : Int) : Bool := op == 22 || op == 24
def sendsP (op : Int) : Bool := op == 32 || (op == 34 || (op == 36 || op == 49))
def rRdP (op : Int) : Bool := sendsP op || (addsP op || op == 18)
def rRaP (op : Int) : Bool := addsP op || op == 20
def comesP (op : Int) : Bool := op == 42 || op == 44
def goesP (op : Int) : Bool := comesP op || (op == 41 || op == 43)
def onlyP (b : Bool) (n : Int) : Int := if b then 2 ^ n.toNat else 0
set_option maxRecDepth 100000 in
theorem gisLong_any (op : Int) (w : World) : Calls Tryz.prog 45 #[.int .i64 op] w fun e w' => e = .returned (.bool (isLongP op)) ∧ w' = w := by
  by_cases h : 21 ≤ op
  · have e : isLongP op = decide (op ≤ 24) := by rw [isLongP, decide_eq_true h, Bool.true_and]
    rw [e]
    clear e
    go_enter Tryz.func45, Tryz.ntmps45
    go_wp2
    exact bodyPost_ret (v := .bool (decide (op ≤ 24))) (by simp [results, Tryz.results45, go_sem]) rfl ⟨rfl, rfl⟩
  · have e : isLongP op = false := by rw [isLongP, decide_eq_false h, Bool.false_and]
    rw [e]
    clear e
    go_enter Tryz.func45, Tryz.ntmps45
    go_wp2
    exact bodyPost_ret (v := .bool false) (by simp [results, Tryz.results45, go_sem]) rfl ⟨rfl, rfl⟩
set_option maxRecDepth 100000 in
theorem gisOne_any (op : Int) (w : World) : Calls Tryz.prog 46 #[.int .i64 op] w fun e w' => e = .returned (.bool (isOneP op)) ∧ w' = w := by
  by_cases h : 31 ≤ op
  · have e : isOneP op = decide (op ≤ 38) := by rw [isOneP, decide_eq_true h, Bool.true_and]
    rw [e]
    clear e
    go_enter Tryz.func46, Tryz.ntmps46
    go_wp2
    exact bodyPost_ret (v := .bool (decide (op ≤ 38))) (by simp [results, Tryz.results46, go_sem]) rfl ⟨rfl, rfl⟩
  · have e : isOneP op = false := by rw [isOneP, decide_eq_false h, Bool.false_and]
    rw [e]
    clear e
    go_enter Tryz.func46, Tryz.ntmps46
    go_wp2
    exact bodyPost_ret (v := .bool false) (by simp [results, Tryz.results46, go_sem]) rfl ⟨rfl, rfl⟩
end Go.Proofs.YtilhceajhlaojaaGreatDoor.Is
namespace Go.Proofs.YtilhceajhlaojaaGreatDoor.Is
open Go.RowKit
set_option linter.unusedVariables false
set_option linter.unusedSimpArgs false
structure ROk (r : RowP) : Prop where
  op : r.op < 256
  form : r.form < 256
  mask : r.mask < 4294967296
  bits : r.bits < 4294967296
  parts : r.parts < 4294967296
theorem low_ok : ∀ r ∈ lowL, ROk r := by
  have h : lowL.all (fun r => decide (r.op < 256) && decide (r.form < 256) && decide (r.mask < 4294967296) && decide (r.bits < 4294967296) && decide (r.parts < 4294967296)) = true := by decide
  intro r hr
  have := List.all_eq_true.1 h r hr
  simp only [Bool.and_eq_true, decide_eq_true_eq] at this
  obtain ⟨⟨⟨⟨a, b⟩, c⟩, d⟩, e⟩ := this
  exact ⟨a, b, c, d, e⟩
theorem high_ok : ∀ r ∈ highL, ROk r := by
  have h : highL.all (fun r => decide (r.op < 256) && decide (r.form < 256) && decide (r.mask < 4294967296) && decide (r.bits < 4294967296) && decide (r.parts < 4294967296)) = true := by decide
  intro r hr
  have := List.all_eq_true.1 h r hr
  simp only [Bool.and_eq_true, decide_eq_true_eq] at this
  obtain ⟨⟨⟨⟨a, b⟩, c⟩, d⟩, e⟩ := this
  exact ⟨a, b, c, d, e⟩
theorem fit_bits (x : Nat) (r : RowP) (hx : x < 4294967296) (hr : ROk r) : (bits .and .u32 (x : Int) (r.mask : Int) == (r.bits : Int)) = fitR x r := by
  have h1 := hr.mask
  rw [u32_and _ _ (by omega) (by omega) (by omega) (by omega), Int.toNat_natCast, Int.toNat_natCast, fitR]
  by_cases h : x &&& r.mask = r.bits
  · rw [h]; simp
  · rw [beq_eq_false_iff_ne.2 h, beq_eq_false_iff_ne]; omega
theorem low_len : lowL.length = 37 := rfl
theorem high_len : highL.length = 20 := rfl
theorem top_bits (x : Nat) (hx : x < 4294967296) : (bits .and .u32 ((x : Int) / 67108864) 3 == 0) = decide (x / 67108864 % 4 = 0) := by
  rw [band_mod 2 3 _ (by decide) (by decide) ⟨by omega, by omega⟩, show (2 : Int) ^ 2 = 4 from rfl]
  by_cases h : x / 67108864 % 4 = 0
  · rw [decide_eq_true h]; simp; omega
  · rw [decide_eq_false h, beq_eq_false_iff_ne]; simp; omega
theorem find_at {p : RowP → Bool} {l : List RowP} {n : Nat} {r : RowP} (h : l[n]? = some r) : (l.drop n).find? p = if p r then some r else (l.drop (n + 1)).find? p := by
  obtain ⟨hn, rfl⟩ := List.getElem?_eq_some_iff.1 h
  rw [List.drop_eq_getElem_cons hn, List.find?_cons]
  cases p l[n] <;> rfl
theorem range_row {w : World} {b o : Nat} {r : RowP} (h : w.rangeAt b o (rowL r)) : w.cell? ⟨b, o, none⟩ = some (.int .u8 (r.op : Int)) ∧ w.cell? ⟨b, o + 1, none⟩ = some (.int .u8 (r.form : Int)) ∧ w.cell? ⟨b, o + 2, none⟩ = some (.int .u32 (r.mask : Int)) ∧ w.cell? ⟨b, o + 3, none⟩ = some (.int .u32 (r.bits : Int)) ∧ w.cell? ⟨b, o + 4, none⟩ = some (.int .u32 (r.parts : Int)) :=
  ⟨h 0 _ rfl, h 1 _ rfl, h 2 _ rfl, h 3 _ rfl, h 4 _ rfl⟩
theorem row_info : (Tryz.prog.info? 88).map (·.size) = some 5 := by kernel_rfl
theorem row_load {w : World} {b : Nat} {l : List Value} (h : Bl w b 88 l) (hl : l.length = 5) : (loadVar 88 ⟨b, 0, none⟩).run Tryz.prog w = .ok (.agg l.toArray) w :=
  run_loadVar_mid w b 0 88 l _ h.range Tryz.underlying88 rfl (by rw [hl]; exact row_info)
theorem row_all (r : RowP) : (rowL r).toArray.all (·.oneCell') = true := all_oneCell_toArray fun v hv => by
  simp only [rowL, List.mem_cons, List.not_mem_nil, or_false] at hv
  rcases hv with rfl | rfl | rfl | rfl | rfl <;> rfl
/-- The state while rows are looked for. -/
structure RX (W w : World) : Prop where
  bel : Below W.heap.size W w
  box : Bl w W.heap.size 88 (rowL rowZ)
  tp : TP w
theorem RX.drew {W w : World} (h : RX W w) : RX W w.drew := ⟨below_drew h.bel, h.box.drew, ⟨h.tp.low, h.tp.high, h.tp.pl, h.tp.db⟩⟩
theorem RX.drewN {W w : World} (h : RX W w) (q : Nat) : RX W (w.drewN q) := ⟨below_drewN h.bel q, h.box.drewN q, ⟨h.tp.low, h.tp.high, h.tp.pl, h.tp.db⟩⟩
theorem RX.step {W w w' : World} (h : RX W w) (hb : Below w.heap.size w w') : RX W w' := ⟨Below.step h.bel hb, h.box.below hb, h.tp.below hb⟩
theorem RX.put {W w : World} (h : RX W w) (r : RowP) : Bl (w.setCells W.heap.size 0 (rowL r)) W.heap.size 88 (rowL r) ∧ Below W.heap.size W (w.setCells W.heap.size 0 (rowL r)) :=
  ⟨set_all h.box rfl, Turn.to (set_turn _ 0 W w (TA.of h.bel)) (fun _ e => Nat.le_of_eq e.symm) (Nat.le_refl _)⟩
theorem RX.first {W : World} (h : TP W) : RX W (W.alloc (.cells (rowL rowZ).toArray 88)) := ⟨below_new _ _, Bl.new _ _ _, h.below (below_new _ _)⟩

set_option maxRecDepth 100000 in
set_option maxHeartbeats 1000000 in
theorem growW_low (x : Nat) (w : World) (ht : TP w) (hx : x < 4294967296) (h0 : x / 67108864 % 4 = 0) : Calls Tryz.prog 28 #[.int .u32 (x : Int)] w fun e w' => e = .returned (.tuple #[.agg (rowL ((lowL.find? (fitR x)).getD rowZ)).toArray, .bool (lowL.find? (fitR x)).isSome]) ∧ Below w.heap.size w w' := by
  have ht0 := top_bits x hx
  rw [decide_eq_true h0] at ht0
  have HX := hidW (RX.first ht)
  clear h0 ht
  have hx : Hid _ := hx
  go_enter Tryz.func28, Tryz.ntmps28
  go_wp2
  go_loopw [10] (fun k wr => ∃ (n : Nat), n ≤ 37 ∧ k = .int .i64 (n : Int) ∧ (lowL.drop n).find? (fitR x) = lowL.find? (fitR x) ∧ RX w wr) (fun k _ => (37 - intOf k).toNat)
  case atStart => exact ⟨0, by omega, rfl, rfl, HX.out⟩
  case round =>
    clear HX
    obtain ⟨n, h1, rfl, hf, hX⟩ := hrel
    have HX := hidW hX
    have hf : Hid _ := hf
    clear hX
    by_cases h : n < 37
    · obtain ⟨r, hr⟩ : ∃ r, lowL[n]? = some r := ⟨_, List.getElem?_eq_getElem (by rw [low_len]; exact h)⟩
      have hok := low_ok r (List.mem_of_getElem? hr)
      have HR := hidW (HX.out.tp.low n r hr)
      obtain ⟨c0, c1, c2, c3, c4⟩ := range_row HR.out
      have hfit := fit_bits x r hx.out hok
      have hm1 := hok.mask
      have hm2 := hok.bits
      have HF : Hid ((lowL.drop n).find? (fitR x) = if fitR x r then some r else (lowL.drop (n + 1)).find? (fitR x)) := find_at hr
      clear hok hr
      have b1 : (n : Int) < 37 := by omega
      have b0 : (0 : Int) ≤ (n : Int) := by omega
      have b2 : decide ((n : Int) < 37) = true := decide_eq_true b1
      have HD := fun q => hidW (HX.out.drewN q)
      clear HX
      cases hq : fitR x r
      · rw [hq] at hfit
        have HG : Hid ((lowL.drop (n + 1)).find? (fitR x) = lowL.find? (fitR x)) := by show _ = _; rw [← hf.out, HF.out, hq]; rfl
        clear hf HF hq HR
        go_wp2
        go_quiet (fail)
        go_wp2
        go_roundw
        case rel => exact ⟨n + 1, by omega, by go_num, HG.out, (HD _).out⟩
        case measure => simp [intOf]; omega
      · rw [hq] at hfit
        have HG : Hid (lowL.find? (fitR x) = some r) := by show _ = _; rw [← hf.out, HF.out, hq]; rfl
        clear hf HF hq
        go_wp2
        go_quiet (fail)
        go_wp2_with (first | (guard_target =~ wpList _ _ _ (Oper.mk (some 26) _ _ _ _ _ :: _) _ _; refine wpList_load_mid rfl _ _ rfl 0 (n * 5) rfl (rowL r) _ (HR.out : World.rangeAt (World.drewN _ _) _ _ _) Tryz.underlying88 rfl row_info ?_) | (guard_target =~ wpList _ _ _ (Oper.mk none _ _ _ _ _ :: _) _ _; refine wpList_store_mid rfl _ _ _ rfl w.heap.size 0 (rowL r).toArray rfl rfl ((HD _).out.box.there _ rfl) row_info (row_all r) ?_))
        have hl := fun q => row_load ((HD q).out.put r).1 rfl
        rw [HG.out]
        exact bodyPost_ret (v := .tuple #[.agg (rowL r).toArray, .bool true]) (by simp [results, Tryz.results28, asAddr, hl]) rfl ⟨rfl, ((HD _).out.put r).2⟩
    · obtain rfl : n = 37 := by omega
      have HG : Hid (lowL.find? (fitR x) = none) := by show _ = _; rw [← hf.out]; rfl
      clear h1 hf h
      go_wp2_with (first | (guard_target =~ wpList _ _ _ (Oper.mk none _ _ _ _ _ :: _) _ _; refine wpList_store_mid rfl _ _ _ rfl w.heap.size 0 (rowL rowZ).toArray rfl rfl (HX.out.box.there _ rfl) row_info (row_all rowZ) ?_))
      have hl := row_load (HX.out.put rowZ).1 rfl
      rw [HG.out]
      exact bodyPost_ret (v := .tuple #[.agg (rowL rowZ).toArray, .bool false]) (by simp [results, Tryz.results28, asAddr, hl]) rfl ⟨rfl, (HX.out.put rowZ).2⟩
set_option maxRecDepth 100000 in
set_option maxHeartbeats 1000000 in
theorem growW_high (x : Nat) (w : World) (ht : TP w) (hx : x < 4294967296) (h0 : ¬ x / 67108864 % 4 = 0) : Calls Tryz.prog 28 #[.int .u32 (x : Int)] w fun e w' => e = .returned (.tuple #[.agg (rowL ((highL.find? (fitR x)).getD rowZ)).toArray, .bool (highL.find? (fitR x)).isSome]) ∧ Below w.heap.size w w' := by
  have ht0 := top_bits x hx
  rw [decide_eq_false h0] at ht0
  have HX := hidW (RX.first ht)
  clear h0 ht
  have hx : Hid _ := hx
  go_enter Tryz.func28, Tryz.ntmps28
  go_wp2
  go_loopw [29] (fun k wr => ∃ (n : Nat), n ≤ 20 ∧ k = .int .i64 (n : Int) ∧ (highL.drop n).find? (fitR x) = highL.find? (fitR x) ∧ RX w wr) (fun k _ => (20 - intOf k).toNat)
  case atStart => exact ⟨0, by omega, rfl, rfl, HX.out⟩
  case round =>
    clear HX
    obtain ⟨n, h1, rfl, hf, hX⟩ := hrel
    have HX := hidW hX
    have hf : Hid _ := hf
    clear hX
    by_cases h : n < 20
    · obtain ⟨r, hr⟩ : ∃ r, highL[n]? = some r := ⟨_, List.getElem?_eq_getElem (by rw [high_len]; exact h)⟩
      have hok := high_ok r (List.mem_of_getElem? hr)
      have HR := hidW (HX.out.tp.high n r hr)
      obtain ⟨c0, c1, c2, c3, c4⟩ := range_row HR.out
      have hfit := fit_bits x r hx.out hok
      have hm1 := hok.mask
      have hm2 := hok.bits
      have HF : Hid ((highL.drop n).find? (fitR x) = if fitR x r then some r else (highL.drop (n + 1)).find? (fitR x)) := find_at hr
      clear hok hr
      have b1 : (n : Int) < 20 := by omega
      have b0 : (0 : Int) ≤ (n : Int) := by omega
      have b2 : decide ((n : Int) < 20) = true := decide_eq_true b1
      have HD := fun q => hidW (HX.out.drewN q)
      clear HX
      cases hq : fitR x r
      · rw [hq] at hfit
        have HG : Hid ((highL.drop (n + 1)).find? (fitR x) = highL.find? (fitR x)) := by show _ = _; rw [← hf.out, HF.out, hq]; rfl
        clear hf HF hq HR
        go_wp2
        go_quiet (fail)
        go_wp2
        go_roundw
        case rel => exact ⟨n + 1, by omega, by go_num, HG.out, (HD _).out⟩
        case measure => simp [intOf]; omega
      · rw [hq] at hfit
        have HG : Hid (highL.find? (fitR x) = some r) := by show _ = _; rw [← hf.out, HF.out, hq]; rfl
        clear hf HF hq
        go_wp2
        go_quiet (fail)
        go_wp2_with (first | (guard_target =~ wpList _ _ _ (Oper.mk (some 45) _ _ _ _ _ :: _) _ _; refine wpList_load_mid rfl _ _ rfl 1 (n * 5) rfl (rowL r) _ (HR.out : World.rangeAt (World.drewN _ _) _ _ _) Tryz.underlying88 rfl row_info ?_) | (guard_target =~ wpList _ _ _ (Oper.mk none _ _ _ _ _ :: _) _ _; refine wpList_store_mid rfl _ _ _ rfl w.heap.size 0 (rowL r).toArray rfl rfl ((HD _).out.box.there _ rfl) row_info (row_all r) ?_))
        have hl := fun q => row_load ((HD q).out.put r).1 rfl
        rw [HG.out]
        exact bodyPost_ret (v := .tuple #[.agg (rowL r).toArray, .bool true]) (by simp [results, Tryz.results28, asAddr, hl]) rfl ⟨rfl, ((HD _).out.put r).2⟩
    · obtain rfl : n = 20 := by omega
      have HG : Hid (highL.find? (fitR x) = none) := by show _ = _; rw [← hf.out]; rfl
      clear h1 hf h
      go_wp2_with (first | (guard_target =~ wpList _ _ _ (Oper.mk none _ _ _ _ _ :: _) _ _; refine wpList_store_mid rfl _ _ _ rfl w.heap.size 0 (rowL rowZ).toArray rfl rfl (HX.out.box.there _ rfl) row_info (row_all rowZ) ?_))
      have hl := row_load (HX.out.put rowZ).1 rfl
      rw [HG.out]
      exact bodyPost_ret (v := .tuple #[.agg (rowL rowZ).toArray, .bool false]) (by simp [results, Tryz.results28, asAddr, hl]) rfl ⟨rfl, (HX.out.put rowZ).2⟩
theorem growW_any (x : Nat) (w : World) (ht : TP w) (hx : x < 4294967296) : Calls Tryz.prog 28 #[.int .u32 (x : Int)] w fun e w' => e = .returned (.tuple #[.agg (rowL ((rowW x).getD rowZ)).toArray, .bool (rowW x).isSome]) ∧ Below w.heap.size w w' := by
  by_cases h : x / 67108864 % 4 = 0
  · have := growW_low x w ht hx h
    rw [rowW, if_pos h]
    exact this
  · have := growW_high x w ht hx h
    rw [rowW, if_neg h]
    exact this
end Go.Proofs.YtilhceajhlaojaaGreatDoor.Is
