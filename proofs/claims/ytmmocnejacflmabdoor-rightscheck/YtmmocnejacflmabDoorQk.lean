import Derived.Test.YtmmocnejacflmabDoorGz
import Derived.Test.YtmmocnejacflmabDoorQa
import Derived.Test.YtmmocnejacflmabDoorRe
namespace Go.Proofs.YtmmocnejacflmabDoor
open Go.RowKit
set_option linter.unusedVariables false
set_option linter.unusedSimpArgs false
/-- Besides, the box of the fault that is made. -/
structure FK (w wr : World) (t : Tra) (c : Ctx) (b : Nat) : Prop extends CK w wr t c where
  F : Bl wr b 39 [.int .i64 0, .int .i64 (lvF t.size), .int .i64 t.dom]
  ne : w.heap.size + 1 + 1 < b
theorem FK.new {w wr : World} {t : Tra} {c : Ctx} (h : CK w wr t c) : FK w (wr.alloc (.cells #[.int .i64 0, .int .i64 (lvF t.size), .int .i64 t.dom] 39)) t c wr.heap.size := ⟨h.step (below_new _ _), Bl.new _ _ _, h.R.lt⟩
theorem FK.step {w wr wn : World} {t : Tra} {c : Ctx} {b : Nat} (h : FK w wr t c b) (hb : Below wr.heap.size wr wn) : FK w wn t c b := ⟨h.toCK.step hb, h.F.below hb, h.ne⟩
theorem FK.drew {w wr : World} {t : Tra} {c : Ctx} {b : Nat} (h : FK w wr t c b) : FK w wr.drew t c b := ⟨h.toCK.drew, h.F.drew, h.ne⟩
theorem pow4 (a : Int) (n : Nat) : a / 2 ^ (2 * n) / 4 = a / 2 ^ (2 * (n + 1)) := by
  rw [Int.ediv_ediv_of_nonneg (Int.le_of_lt (pow_pos _)), show 2 * (n + 1) = 2 * n + 2 by omega, Int.pow_add]
  rfl
set_option maxRecDepth 100000 in
set_option maxHeartbeats 8000000 in
theorem rcheck_core (t : Tra) (on tre afe : Bool) (cn : Int) (pd0 pd1 : Bool) (q0 q1 dacr prrr nmrr asid : Int) (priv : Bool) (k : Int) (ri X : Bool) (ba : Int) (w : World) (ha : 0 ≤ dacr ∧ dacr < 4294967296)
    (hX : alF t.ap t.xn afe priv k = X) (hba : baF t afe dacr priv k = ba) (hri : ri = true → (0 ≤ t.dom ∧ t.dom ≤ 15) ∧ (0 ≤ t.ap ∧ t.ap ≤ 7))
    (HR : ∀ w, Calls Tryd.prog 23 #[.agg #[.int .i64 t.size, .int .u32 t.va, .int .u64 t.pa, .int .i64 t.dom, .int .i64 t.ap, .int .u32 t.bits, .bool t.ng, .bool t.xn]] w fun e w' => e = .returned (.bool ri) ∧ Below w.heap.size w w') :
    Calls Tryd.prog 14 #[.agg #[.int .i64 t.size, .int .u32 t.va, .int .u64 t.pa, .int .i64 t.dom, .int .i64 t.ap, .int .u32 t.bits, .bool t.ng, .bool t.xn], .agg #[.bool on, .bool tre, .bool afe, .int .i64 cn, .bool pd0, .bool pd1, .int .u64 q0, .int .u64 q1, .int .u32 dacr, .int .u32 prrr, .int .u32 nmrr, .int .i64 asid], .bool priv, .int .i64 k] w fun e w' => e = .returned (if on && ri then (if ba = 0 then .agg #[.int .i64 0, .int .i64 0, .int .i64 0] else .agg #[.int .i64 ba, .int .i64 (lvF t.size), .int .i64 t.dom]) else .agg #[.int .i64 0, .int .i64 0, .int .i64 0]) ∧ Below w.heap.size w w' := by
  have HL : Hid (∀ s w, Calls Tryd.prog 24 #[.int .i64 s] w fun e w' => e = .returned (.int .i64 (lvF s)) ∧ w = w') := rlevel_any
  have HA : Hid (∀ w, Calls Tryd.prog 17 #[.agg #[.int .i64 t.ap, .int .u32 t.bits, .bool t.ng, .bool t.xn], .bool afe, .bool priv, .int .i64 k] w fun e w' => e = .returned (.bool X) ∧ Below w.heap.size w w') := fun w => by rw [← hX]; exact rallows_any t.ap t.bits t.ng t.xn afe priv k w
  have HX0 := hidZ (CK.new w t ⟨on, tre, afe, cn, pd0, pd1, q0, q1, dacr, prrr, nmrr, asid⟩)
  have HR1 := hidZ HR
  clear HR
  cases on
  · go_enter Tryd.func14, Tryd.ntmps14
    go_wp2
    refine bodyPost_ret (v := .agg #[.int .i64 0, .int .i64 0, .int .i64 0]) (by simp [results, Tryd.results14, go_sem]) rfl ⟨by simp, ?_⟩
    exact HX0.out.bel
  cases ri
  · go_enter Tryd.func14, Tryd.ntmps14
    go_wp2_with (fail)
    go_at_call 23
    refine (HR1.out _).mono ?_
    rintro e w1 ⟨rfl, hb⟩
    have HX1 := hidZ (HX0.out.step hb)
    clear hb HX0
    have c0 := HX1.out.R.cell
    have f0 := HX1.out.R.frozen
    have l0 := HX1.out.R.lt
    go_wp2
    refine bodyPost_ret (v := .agg #[.int .i64 0, .int .i64 0, .int .i64 0]) (by simp [results, Tryd.results14, go_sem, c0, f0, l0]) rfl ⟨by simp, HX1.out.end3 _ _ _⟩
  obtain ⟨hd, hp⟩ := hri rfl
  have Hba := hidZ hba
  have Hd := hidZ hd
  have Ha := hidZ ha
  have Hp := hidZ hp
  have HX' := hidZ hX
  clear hba hd ha hp hri hX
  go_enter Tryd.func14, Tryd.ntmps14
  go_wp2_with (fail)
  go_at_call 23
  refine (HR1.out _).mono ?_
  rintro e w1 ⟨rfl, hb⟩
  have HS2 := hidZ (HX0.out.step hb)
  have HS := hidZ (HS2.out.drew)
  have K0 : Hid (w1.drew.cell? ⟨w.heap.size, 0, none⟩ = some (.int .i64 t.size) ∧ w1.drew.cell? ⟨w.heap.size, 3, none⟩ = some (.int .i64 t.dom)) := ⟨HS.out.T.cell 0, HS.out.T.cell 3⟩
  have KA : Hid (∀ o, (w1.alloc o).drew.cell? ⟨w.heap.size, 0, none⟩ = some (.int .i64 t.size) ∧ (w1.alloc o).drew.cell? ⟨w.heap.size, 3, none⟩ = some (.int .i64 t.dom)) := fun o => ⟨(HS2.out.step (below_new _ o)).drew.T.cell 0, (HS2.out.step (below_new _ o)).drew.T.cell 3⟩
  have HF0 := hidZ (FK.new HS2.out).drew
  clear hb HX0
  go_wp2
  refine wp_region_held_drew (S := fun w' => w'.cell? ⟨w.heap.size, 0, none⟩ = some (.int .i64 t.size) ∧ w'.cell? ⟨w.heap.size, 3, none⟩ = some (.int .i64 t.dom)) (by kernel_rfl) (by (try dsimp only); exact K0.out) (fun hHeld => ?_)
  refine wpAnyH_take (i := 0) (oi := { dst := some 21, op := Op.fieldAddr 35 (Operand.tmp 4) 0, type := 0, pos := _, after := #[], guard := none }) (v := ?_) rfl (by kernel_rfl) (by kernel_rfl) (by kernel_rfl) (fun _ _ _ h => h) (Or.inl ⟨by rfl, ?_⟩) (by assumption) ?_
  rotate_left
  · (intro w hSw; (try dsimp only at hSw); go_simp; try with_reducible rfl)
  simp only [Act.put, List.setIfInBounds_toArray, List.set_cons_zero, List.set_cons_succ]
  refine wpAnyH_take (i := 1) (oi := { dst := some 22, op := Op.load 3 (Operand.tmp 21), type := 3, pos := _, after := #[{ on := 0, ground := Ground.data }], guard := none }) (v := ?_) rfl (by kernel_rfl) (by kernel_rfl) (by kernel_rfl) (fun _ _ _ h => h) (Or.inl ⟨by rfl, ?_⟩) (by assumption) ?_
  rotate_left
  · (intro w hSw; (try dsimp only at hSw); go_simp; try with_reducible rfl)
  simp only [Act.put, List.setIfInBounds_toArray, List.set_cons_zero, List.set_cons_succ]
  refine wpAnyH_take (i := 3) (oi := { dst := some 24, op := Op.fieldAddr 35 (Operand.tmp 4) 3, type := 0, pos := _, after := #[], guard := none }) (v := ?_) rfl (by kernel_rfl) (by kernel_rfl) (by kernel_rfl) (fun _ _ _ h => h) (Or.inl ⟨by rfl, ?_⟩) (by assumption) ?_
  rotate_left
  · (intro w hSw; (try dsimp only at hSw); go_simp; try with_reducible rfl)
  simp only [Act.put, List.setIfInBounds_toArray, List.set_cons_zero, List.set_cons_succ]
  refine wpAnyH_take (i := 4) (oi := { dst := some 25, op := Op.load 3 (Operand.tmp 24), type := 3, pos := _, after := #[{ on := 3, ground := Ground.data }], guard := none }) (v := ?_) rfl (by kernel_rfl) (by kernel_rfl) (by kernel_rfl) (fun _ _ _ h => h) (Or.inl ⟨by rfl, ?_⟩) (by assumption) ?_
  rotate_left
  · (intro w hSw; (try dsimp only at hSw); go_simp; try with_reducible rfl)
  simp only [Act.put, List.setIfInBounds_toArray, List.set_cons_zero, List.set_cons_succ]
  refine wpAnyH_ready (rs := [2, 6]) (by kernel_rfl) (by simp) ?_
  refine (AllReadyH.cons (o := { dst := some 23, op := Op.call { callee := Callee.value (Operand.func 24), args := #[Operand.tmp 22], argTypes := #[3] }, type := 3, pos := _, after := #[{ on := 1, ground := Ground.data }], guard := none }) rfl (fun K hK => ?_) (AllReadyH.cons (o := { dst := some 9, op := Op.alloc 39, type := 0, pos := _, after := #[], guard := none }) rfl (fun K hK => ?_) AllReadyH.nil))
  · go_simp
    (go_at_call 24; refine (HL.out _ _).mono ?_; rintro e w3 ⟨rfl, rfl⟩)
    refine hK.out _ _ ?_ (fun hHeld => ?_)
    · ((try dsimp only); first | with_reducible exact K0.out | with_reducible exact KA.out _)
    clear hK K
    try simp only [Act.put, List.setIfInBounds_toArray, List.set_cons_zero, List.set_cons_succ]
    refine wpAnyH_take (i := 5) (oi := { dst := some 26, op := Op.build 39 #[(1, Operand.tmp 23), (2, Operand.tmp 25)], type := 39, pos := _, after := #[{ on := 2, ground := Ground.data }, { on := 4, ground := Ground.data }], guard := none }) (v := ?_) rfl (by kernel_rfl) (by kernel_rfl) (by kernel_rfl) (fun _ _ _ h => h) (Or.inl ⟨by rfl, ?_⟩) (by assumption) ?_
    rotate_left
    · (intro w hSw; (try dsimp only at hSw); go_simp; try with_reducible rfl)
    simp only [Act.put, List.setIfInBounds_toArray, List.set_cons_zero, List.set_cons_succ]
    refine wpAnyH_ready (rs := [6]) (by kernel_rfl) (by simp) ?_
    refine (AllReadyH.cons (o := { dst := some 9, op := Op.alloc 39, type := 0, pos := _, after := #[], guard := none }) rfl (fun K hK => ?_) AllReadyH.nil)
    go_simp
    skip
    refine hK.out _ _ ?_ (fun hHeld => ?_)
    · ((try dsimp only); first | with_reducible exact K0.out | with_reducible exact KA.out _)
    clear hK K
    try simp only [Act.put, List.setIfInBounds_toArray, List.set_cons_zero, List.set_cons_succ]
    refine wpAnyH_ready (rs := [7]) (by kernel_rfl) (by simp) ?_
    refine (AllReadyH.cons (o := { dst := none, op := Op.store 39 (Operand.tmp 9) (Operand.tmp 26), type := 0, pos := _, after := #[{ on := 6, ground := Ground.data }, { on := 5, ground := Ground.data }, { on := 2, ground := Ground.chain }, { on := 0, ground := Ground.phase }, { on := 1, ground := Ground.phase }, { on := 2, ground := Ground.phase }, { on := 3, ground := Ground.phase }, { on := 4, ground := Ground.phase }, { on := 5, ground := Ground.phase }, { on := 6, ground := Ground.phase }], guard := none }) rfl (fun K hK => ?_) AllReadyH.nil)
    go_simp
    skip
    refine hK.out _ _ ?_ (fun hHeld => ?_)
    · ((try dsimp only); first | with_reducible exact K0.out | with_reducible exact KA.out _)
    clear hK K
    try simp only [Act.put, List.setIfInBounds_toArray, List.set_cons_zero, List.set_cons_succ]
    refine wpAnyH_done (by kernel_rfl) ?_ _
    have cc := HS2.out.C.cell
    simp only at cc
    have lc : w.heap.size + 1 < w1.heap.size := HS2.out.C.lt
    have nc : ¬ (w.heap.size + 1 = w1.heap.size) := by omega
    clear hHeld K0 KA HS HS2 HR1 HL
    go_wp2
    generalize w1.heap.size = b at *
    clear cc lc nc
    go_loopw [10, 11] (fun v i wr => ∃ n : Nat, (n : Int) ≤ t.dom ∧ v = .int .u32 (dacr / 2 ^ (2 * n)) ∧ i = .int .i64 n ∧ FK w wr t ⟨true, tre, afe, cn, pd0, pd1, q0, q1, dacr, prrr, nmrr, asid⟩ b) (fun _ i _ => (t.dom - intOf i).toNat)
    case atStart => exact ⟨0, Hd.out.1, by simp, rfl, HF0.out⟩
    case round =>
      obtain ⟨n, hn, rfl, rfl, hF⟩ := hrel
      have HF1 := hidZ hF
      have c0 := hF.T.cell
      have c1 := hF.C.cell
      simp only at c1
      clear hF HF0
      have hv0 : 0 ≤ dacr / 2 ^ (2 * n) := (shr_range dacr (2 * n) Ha.out).1
      by_cases h : (n : Int) < t.dom
      · have hw : IntKind.i64.wrap ((n : Int) + 1) = ((n + 1 : Nat) : Int) := by have := Hd.out; rw [IntKind.wrap_i64]; omega
        have hq : (dacr / 2 ^ (2 * n)).tdiv 4 = dacr / 2 ^ (2 * (n + 1)) := by rw [Int.tdiv_eq_ediv_of_nonneg hv0, pow4]
        clear hn
        go_wp2
        go_roundw
        case rel => exact ⟨n + 1, by omega, by rw [Int.emod_eq_of_lt (shr_range dacr (2 * (n + 1)) Ha.out).1 (shr_range dacr (2 * (n + 1)) Ha.out).2], rfl, HF1.out⟩
        case measure => simp [intOf]; omega
      · have he : t.dom = n := by omega
        have hfd : fdF dacr t.dom = dacr / 2 ^ (2 * n) % 4 := by
          unfold fdF
          rw [he, show (2 * (n : Int)).toNat = 2 * n by omega]
        have m2 : (dacr / 2 ^ (2 * n)).tmod 2 = dacr / 2 ^ (2 * n) % 2 := Int.tmod_eq_emod_of_nonneg hv0
        have m4 : (dacr / 2 ^ (2 * n)).tmod 4 = dacr / 2 ^ (2 * n) % 4 := Int.tmod_eq_emod_of_nonneg hv0
        have ma : t.ap.tmod 2 = t.ap % 2 := Int.tmod_eq_emod_of_nonneg Hp.out.1
        have HE := hidZ Hba.out
        unfold baF at HE
        rw [hfd] at HE
        clear he hfd hn Hba
        generalize dacr / 2 ^ (2 * n) = v at *
        have c2 := HF1.out.R.cell
        have f2 := HF1.out.R.frozen
        have l2 := HF1.out.R.lt
        have c3 := HF1.out.F.cell
        have f3 := HF1.out.F.frozen
        have l3 := HF1.out.F.lt
        have ne := HF1.out.ne
        have n1 : ¬ (w.heap.size + 1 + 1 = b) := by omega
        have n2 : ¬ (b = w.heap.size + 1 + 1) := by omega
        have n3 : ¬ (w.heap.size = b) := by omega
        have n4 : ¬ (w.heap.size + 1 = b) := by omega
        have HG : Hid (w.heap.size ≤ b) := by have h5 : w.heap.size ≤ b := by omega
                                              exact h5
        by_cases h1 : afe = true ∧ t.ap % 2 = 0
        · rw [if_pos h1] at HE
          obtain ⟨rfl, h1⟩ := h1
          rw [h1] at ma
          obtain rfl : 7 = ba := HE.out
          clear h1
          go_wp2
          refine bodyPost_ret (v := .agg #[.int .i64 7, .int .i64 (lvF t.size), .int .i64 t.dom]) (by simp [results, Tryd.results14, go_sem, c2, f2, l2, n1, n2]) rfl ⟨by simp, (by (repeat (with_reducible refine Below.setCell ?_ (by first | exact HG.out | (simp; omega)) _)); exact HF1.out.bel)⟩
        · rw [if_neg h1] at HE
          have hg : afe = false ∨ (afe = true ∧ (t.ap % 2 == 0) = false) := by
            cases afe
            · exact Or.inl rfl
            · right
              refine ⟨rfl, ?_⟩
              simpa using h1
          clear h1
          by_cases h2 : v % 2 = 0
          · rw [if_neg (by omega), if_neg (by omega)] at HE
            obtain rfl : 8 = ba := HE.out
            rw [h2] at m2
            clear h2
            rcases hg with rfl | ⟨rfl, q1⟩
            all_goals
              go_wp2
              refine bodyPost_ret (v := .agg #[.int .i64 8, .int .i64 (lvF t.size), .int .i64 t.dom]) (by simp [results, Tryd.results14, go_sem, c2, f2, l2, n1, n2]) rfl ⟨by simp, (by (repeat (with_reducible refine Below.setCell ?_ (by first | exact HG.out | (simp; omega)) _)); exact HF1.out.bel)⟩
          · have q2 : v % 2 = 1 := by omega
            rw [q2] at m2
            by_cases h3 : v % 4 = 3
            · rw [if_pos h3] at HE
              obtain rfl : 0 = ba := HE.out
              rw [h3] at m4
              clear h2 q2 h3
              rcases hg with rfl | ⟨rfl, q1⟩
              all_goals
                go_wp2
                refine bodyPost_ret (v := .agg #[.int .i64 0, .int .i64 0, .int .i64 0]) (by simp [results, Tryd.results14, go_sem, c2, f2, l2, n1, n2]) rfl ⟨by simp, HF1.out.end3 _ _ _⟩
            · have q3 : v % 4 = 1 := by omega
              rw [if_neg h3, if_pos q3] at HE
              rw [q3] at m4
              clear h2 q2 h3 q3
              obtain ⟨X, hX⟩ : ∃ X, alF t.ap t.xn afe priv k = X := ⟨_, rfl⟩
              rw [hX] at HE
              rw [hX] at HX'
              obtain rfl : X = _ := HX'.out
              clear hX HX'
              rcases hg with rfl | ⟨rfl, q1⟩
              all_goals
                cases X
                all_goals
                  simp only [if_true, if_false, Bool.false_eq_true] at HE
                  go_wp2_with (fail)
                  go_at_call 17
                  refine (HA.out _).mono ?_
                  rintro e w5 ⟨rfl, hb⟩
                  have HF2 := hidZ (HF1.out.step hb)
                  clear hb HF1 c0 c1 c2 f2 l2 c3 f3 l3
                  have c2 := HF2.out.R.cell
                  have f2 := HF2.out.R.frozen
                  have l2 := HF2.out.R.lt
                  have c3 := HF2.out.F.cell
                  have f3 := HF2.out.F.frozen
                  have l3 := HF2.out.F.lt
                  first
                  | (obtain rfl : 9 = ba := HE.out
                     go_wp2
                     refine bodyPost_ret (v := .agg #[.int .i64 9, .int .i64 (lvF t.size), .int .i64 t.dom]) (by simp [results, Tryd.results14, go_sem, c2, f2, l2, n1, n2]) rfl ⟨by simp, (by (repeat (with_reducible refine Below.setCell ?_ (by first | exact HG.out | (simp; omega)) _)); exact HF2.out.bel)⟩)
                  | (obtain rfl : 0 = ba := HE.out
                     go_wp2
                     refine bodyPost_ret (v := .agg #[.int .i64 0, .int .i64 0, .int .i64 0]) (by simp [results, Tryd.results14, go_sem, c2, f2, l2, n1, n2]) rfl ⟨by simp, HF2.out.end3 _ _ _⟩)
  · go_simp
    skip
    refine hK.out _ _ ?_ (fun hHeld => ?_)
    · ((try dsimp only); first | with_reducible exact K0.out | with_reducible exact KA.out _)
    clear hK K
    try simp only [Act.put, List.setIfInBounds_toArray, List.set_cons_zero, List.set_cons_succ]
    refine wpAnyH_ready (rs := [2]) (by kernel_rfl) (by simp) ?_
    refine (AllReadyH.cons (o := { dst := some 23, op := Op.call { callee := Callee.value (Operand.func 24), args := #[Operand.tmp 22], argTypes := #[3] }, type := 3, pos := _, after := #[{ on := 1, ground := Ground.data }], guard := none }) rfl (fun K hK => ?_) AllReadyH.nil)
    go_simp
    (go_at_call 24; refine (HL.out _ _).mono ?_; rintro e w3 ⟨rfl, rfl⟩)
    refine hK.out _ _ ?_ (fun hHeld => ?_)
    · ((try dsimp only); first | with_reducible exact K0.out | with_reducible exact KA.out _)
    clear hK K
    try simp only [Act.put, List.setIfInBounds_toArray, List.set_cons_zero, List.set_cons_succ]
    refine wpAnyH_take (i := 5) (oi := { dst := some 26, op := Op.build 39 #[(1, Operand.tmp 23), (2, Operand.tmp 25)], type := 39, pos := _, after := #[{ on := 2, ground := Ground.data }, { on := 4, ground := Ground.data }], guard := none }) (v := ?_) rfl (by kernel_rfl) (by kernel_rfl) (by kernel_rfl) (fun _ _ _ h => h) (Or.inl ⟨by rfl, ?_⟩) (by assumption) ?_
    rotate_left
    · (intro w hSw; (try dsimp only at hSw); go_simp; try with_reducible rfl)
    simp only [Act.put, List.setIfInBounds_toArray, List.set_cons_zero, List.set_cons_succ]
    refine wpAnyH_ready (rs := [7]) (by kernel_rfl) (by simp) ?_
    refine (AllReadyH.cons (o := { dst := none, op := Op.store 39 (Operand.tmp 9) (Operand.tmp 26), type := 0, pos := _, after := #[{ on := 6, ground := Ground.data }, { on := 5, ground := Ground.data }, { on := 2, ground := Ground.chain }, { on := 0, ground := Ground.phase }, { on := 1, ground := Ground.phase }, { on := 2, ground := Ground.phase }, { on := 3, ground := Ground.phase }, { on := 4, ground := Ground.phase }, { on := 5, ground := Ground.phase }, { on := 6, ground := Ground.phase }], guard := none }) rfl (fun K hK => ?_) AllReadyH.nil)
    go_simp
    skip
    refine hK.out _ _ ?_ (fun hHeld => ?_)
    · ((try dsimp only); first | with_reducible exact K0.out | with_reducible exact KA.out _)
    clear hK K
    try simp only [Act.put, List.setIfInBounds_toArray, List.set_cons_zero, List.set_cons_succ]
    refine wpAnyH_done (by kernel_rfl) ?_ _
    have cc := HS2.out.C.cell
    simp only at cc
    have lc : w.heap.size + 1 < w1.heap.size := HS2.out.C.lt
    have nc : ¬ (w.heap.size + 1 = w1.heap.size) := by omega
    clear hHeld K0 KA HS HS2 HR1 HL
    go_wp2
    generalize w1.heap.size = b at *
    clear cc lc nc
    go_loopw [10, 11] (fun v i wr => ∃ n : Nat, (n : Int) ≤ t.dom ∧ v = .int .u32 (dacr / 2 ^ (2 * n)) ∧ i = .int .i64 n ∧ FK w wr t ⟨true, tre, afe, cn, pd0, pd1, q0, q1, dacr, prrr, nmrr, asid⟩ b) (fun _ i _ => (t.dom - intOf i).toNat)
    case atStart => exact ⟨0, Hd.out.1, by simp, rfl, HF0.out⟩
    case round =>
      obtain ⟨n, hn, rfl, rfl, hF⟩ := hrel
      have HF1 := hidZ hF
      have c0 := hF.T.cell
      have c1 := hF.C.cell
      simp only at c1
      clear hF HF0
      have hv0 : 0 ≤ dacr / 2 ^ (2 * n) := (shr_range dacr (2 * n) Ha.out).1
      by_cases h : (n : Int) < t.dom
      · have hw : IntKind.i64.wrap ((n : Int) + 1) = ((n + 1 : Nat) : Int) := by have := Hd.out; rw [IntKind.wrap_i64]; omega
        have hq : (dacr / 2 ^ (2 * n)).tdiv 4 = dacr / 2 ^ (2 * (n + 1)) := by rw [Int.tdiv_eq_ediv_of_nonneg hv0, pow4]
        clear hn
        go_wp2
        go_roundw
        case rel => exact ⟨n + 1, by omega, by rw [Int.emod_eq_of_lt (shr_range dacr (2 * (n + 1)) Ha.out).1 (shr_range dacr (2 * (n + 1)) Ha.out).2], rfl, HF1.out⟩
        case measure => simp [intOf]; omega
      · have he : t.dom = n := by omega
        have hfd : fdF dacr t.dom = dacr / 2 ^ (2 * n) % 4 := by
          unfold fdF
          rw [he, show (2 * (n : Int)).toNat = 2 * n by omega]
        have m2 : (dacr / 2 ^ (2 * n)).tmod 2 = dacr / 2 ^ (2 * n) % 2 := Int.tmod_eq_emod_of_nonneg hv0
        have m4 : (dacr / 2 ^ (2 * n)).tmod 4 = dacr / 2 ^ (2 * n) % 4 := Int.tmod_eq_emod_of_nonneg hv0
        have ma : t.ap.tmod 2 = t.ap % 2 := Int.tmod_eq_emod_of_nonneg Hp.out.1
        have HE := hidZ Hba.out
        unfold baF at HE
        rw [hfd] at HE
        clear he hfd hn Hba
        generalize dacr / 2 ^ (2 * n) = v at *
        have c2 := HF1.out.R.cell
        have f2 := HF1.out.R.frozen
        have l2 := HF1.out.R.lt
        have c3 := HF1.out.F.cell
        have f3 := HF1.out.F.frozen
        have l3 := HF1.out.F.lt
        have ne := HF1.out.ne
        have n1 : ¬ (w.heap.size + 1 + 1 = b) := by omega
        have n2 : ¬ (b = w.heap.size + 1 + 1) := by omega
        have n3 : ¬ (w.heap.size = b) := by omega
        have n4 : ¬ (w.heap.size + 1 = b) := by omega
        have HG : Hid (w.heap.size ≤ b) := by have h5 : w.heap.size ≤ b := by omega
                                              exact h5
        by_cases h1 : afe = true ∧ t.ap % 2 = 0
        · rw [if_pos h1] at HE
          obtain ⟨rfl, h1⟩ := h1
          rw [h1] at ma
          obtain rfl : 7 = ba := HE.out
          clear h1
          go_wp2
          refine bodyPost_ret (v := .agg #[.int .i64 7, .int .i64 (lvF t.size), .int .i64 t.dom]) (by simp [results, Tryd.results14, go_sem, c2, f2, l2, n1, n2]) rfl ⟨by simp, (by (repeat (with_reducible refine Below.setCell ?_ (by first | exact HG.out | (simp; omega)) _)); exact HF1.out.bel)⟩
        · rw [if_neg h1] at HE
          have hg : afe = false ∨ (afe = true ∧ (t.ap % 2 == 0) = false) := by
            cases afe
            · exact Or.inl rfl
            · right
              refine ⟨rfl, ?_⟩
              simpa using h1
          clear h1
          by_cases h2 : v % 2 = 0
          · rw [if_neg (by omega), if_neg (by omega)] at HE
            obtain rfl : 8 = ba := HE.out
            rw [h2] at m2
            clear h2
            rcases hg with rfl | ⟨rfl, q1⟩
            all_goals
              go_wp2
              refine bodyPost_ret (v := .agg #[.int .i64 8, .int .i64 (lvF t.size), .int .i64 t.dom]) (by simp [results, Tryd.results14, go_sem, c2, f2, l2, n1, n2]) rfl ⟨by simp, (by (repeat (with_reducible refine Below.setCell ?_ (by first | exact HG.out | (simp; omega)) _)); exact HF1.out.bel)⟩
          · have q2 : v % 2 = 1 := by omega
            rw [q2] at m2
            by_cases h3 : v % 4 = 3
            · rw [if_pos h3] at HE
              obtain rfl : 0 = ba := HE.out
              rw [h3] at m4
              clear h2 q2 h3
              rcases hg with rfl | ⟨rfl, q1⟩
              all_goals
                go_wp2
                refine bodyPost_ret (v := .agg #[.int .i64 0, .int .i64 0, .int .i64 0]) (by simp [results, Tryd.results14, go_sem, c2, f2, l2, n1, n2]) rfl ⟨by simp, HF1.out.end3 _ _ _⟩
            · have q3 : v % 4 = 1 := by omega
              rw [if_neg h3, if_pos q3] at HE
              rw [q3] at m4
              clear h2 q2 h3 q3
              obtain ⟨X, hX⟩ : ∃ X, alF t.ap t.xn afe priv k = X := ⟨_, rfl⟩
              rw [hX] at HE
              rw [hX] at HX'
              obtain rfl : X = _ := HX'.out
              clear hX HX'
              rcases hg with rfl | ⟨rfl, q1⟩
              all_goals
                cases X
                all_goals
                  simp only [if_true, if_false, Bool.false_eq_true] at HE
                  go_wp2_with (fail)
                  go_at_call 17
                  refine (HA.out _).mono ?_
                  rintro e w5 ⟨rfl, hb⟩
                  have HF2 := hidZ (HF1.out.step hb)
                  clear hb HF1 c0 c1 c2 f2 l2 c3 f3 l3
                  have c2 := HF2.out.R.cell
                  have f2 := HF2.out.R.frozen
                  have l2 := HF2.out.R.lt
                  have c3 := HF2.out.F.cell
                  have f3 := HF2.out.F.frozen
                  have l3 := HF2.out.F.lt
                  first
                  | (obtain rfl : 9 = ba := HE.out
                     go_wp2
                     refine bodyPost_ret (v := .agg #[.int .i64 9, .int .i64 (lvF t.size), .int .i64 t.dom]) (by simp [results, Tryd.results14, go_sem, c2, f2, l2, n1, n2]) rfl ⟨by simp, (by (repeat (with_reducible refine Below.setCell ?_ (by first | exact HG.out | (simp; omega)) _)); exact HF2.out.bel)⟩)
                  | (obtain rfl : 0 = ba := HE.out
                     go_wp2
                     refine bodyPost_ret (v := .agg #[.int .i64 0, .int .i64 0, .int .i64 0]) (by simp [results, Tryd.results14, go_sem, c2, f2, l2, n1, n2]) rfl ⟨by simp, HF2.out.end3 _ _ _⟩)
theorem rcheck_any (t : Tra) (c : Ctx) (priv : Bool) (k : Int) (w : World) (hf : Ft t) (ha : 0 ≤ c.dacr ∧ c.dacr < 4294967296) :
    Calls Tryd.prog 14 #[.agg #[.int .i64 t.size, .int .u32 t.va, .int .u64 t.pa, .int .i64 t.dom, .int .i64 t.ap, .int .u32 t.bits, .bool t.ng, .bool t.xn], .agg #[.bool c.on, .bool c.tre, .bool c.afe, .int .i64 c.n, .bool c.pd0, .bool c.pd1, .int .u64 c.b0, .int .u64 c.b1, .int .u32 c.dacr, .int .u32 c.prrr, .int .u32 c.nmrr, .int .i64 c.asid], .bool priv, .int .i64 k] w fun e w' => e = .returned (.agg #[.int .i64 (chF t c priv k).k, .int .i64 (chF t c priv k).l, .int .i64 (chF t c priv k).d]) ∧ Below w.heap.size w w' := by
  have h := rcheck_core t c.on c.tre c.afe c.n c.pd0 c.pd1 c.b0 c.b1 c.dacr c.prrr c.nmrr c.asid priv k (riF t) _ (baF t c.afe c.dacr priv k) w ha rfl rfl (fun hr => ri_range hf hr)
    (fun w => rright_any t w hf.va ⟨hf.pa, hf.bt⟩)
  refine h.mono ?_
  rintro e w' ⟨rfl, hb⟩
  refine ⟨?_, hb⟩
  unfold chF
  cases hq : (c.on && riF t) with
  | false => rfl
  | true =>
    rw [if_pos rfl, if_pos rfl]
    by_cases hz : baF t c.afe c.dacr priv k = 0
    · rw [if_pos hz, if_pos hz]
      rfl
    · rw [if_neg hz, if_neg hz]
end Go.Proofs.YtmmocnejacflmabDoor
