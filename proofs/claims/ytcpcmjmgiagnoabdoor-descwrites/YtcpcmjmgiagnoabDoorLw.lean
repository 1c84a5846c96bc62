import Derived.Test.YtcpcmjmgiagnoabDoorRw1
import Derived.Test.YtcpcmjmgiagnoabDoorRw2
import Derived.Test.YtcpcmjmgiagnoabDoorAq
import Derived.Test.YtcpcmjmgiagnoabDoorOe
namespace Go.Proofs.YtcpcmjmgiagnoabDoor
open Go.RowKit
set_option linter.unusedVariables false
set_option linter.unusedSimpArgs false
theorem enc_T (e : Ent) (w : World) (hO : Ok e) (hk : e.kind = 1) (hb : e.base % 1024 = 0 ∧ e.base < 4294967296) (hd : 0 ≤ e.dom ∧ e.dom ≤ 15) (hl : e.ap = 0 ∧ e.bits = 0)
    (HSY : ∀ w, Calls Tryd.prog 25 #[.agg #[.int .i64 1, .int .u64 e.base, .int .i64 e.dom, .bool e.ns, .int .i64 e.ap, .int .u32 e.bits, .bool e.ng, .bool e.xn]] w fun r w' => r = .returned (.bool true) ∧ Below w.heap.size w w') :
    Calls Tryd.prog 17 #[.agg #[.int .i64 1, .int .u64 e.base, .int .i64 e.dom, .bool e.ns, .int .i64 e.ap, .int .u32 e.bits, .bool e.ng, .bool e.xn]] w fun r w' => r = .returned (.tuple #[.int .u32 (E e), .int .i64 0]) ∧ Below w.heap.size w w' := by
  obtain ⟨⟨o1, o2⟩, o3, o4⟩ := hO
  obtain ⟨l1, l2⟩ := hl
  have ck4 := b2_rng e.ns
  obtain ⟨f1, h1⟩ : ∃ f, laid (fun _ => 0) 10 31 (e.base / 1024) = f := ⟨_, rfl⟩
  obtain ⟨f2, h2⟩ : ∃ f, laid f1 5 8 e.dom = f := ⟨_, rfl⟩
  obtain ⟨f3, h3⟩ : ∃ f, laid f2 3 3 (b2 e.ns) = f := ⟨_, rfl⟩
  obtain ⟨f4, h4⟩ : ∃ f, laid f3 0 1 1 = f := ⟨_, rfl⟩
  have r0 : ∀ j : Nat, (0 : Int) ≤ (fun _ : Nat => (0 : Int)) j ∧ (fun _ : Nat => (0 : Int)) j ≤ 1 := fun _ => ⟨Int.le_refl _, (by decide : (0 : Int) ≤ 1)⟩
  have r1 : ∀ j, 0 ≤ f1 j ∧ f1 j ≤ 1 := h1 ▸ laid_rng _ _ _ _ r0
  have r2 : ∀ j, 0 ≤ f2 j ∧ f2 j ≤ 1 := h2 ▸ laid_rng _ _ _ _ r1
  have r3 : ∀ j, 0 ≤ f3 j ∧ f3 j ≤ 1 := h3 ▸ laid_rng _ _ _ _ r2
  have r4 : ∀ j, 0 ≤ f4 j ∧ f4 j ≤ 1 := h4 ▸ laid_rng _ _ _ _ r3
  have hv := val_T (e.base / 1024) e.dom (b2 e.ns) f1 f2 f3 f4 h1 h2 h3 h4
  have hE : E e = eT e := by unfold E; rw [if_pos hk]
  have hq : val f4 0 32 = E e := by
    rw [hv, hE]
    simp only [eT, EL, G, Int.reduceToNat, Int.reducePow]
    generalize b2 e.ns = y4 at *
    generalize b2 e.ng = y7 at *
    generalize b2 e.xn = y8 at *
    clear h1 r1 HSY hv hE
    omega
  have HW := fun w => word_any f4 w r4
  rw [hq] at HW
  exact rw1_T e.base e.dom e.ns e.ap e.bits e.ng e.xn (fun _ => 0) f1 f2 f3 f4 (E e) (e.base / 1024) e.dom (b2 e.ns) w HSY zeroB
    (lay_l _ 31 10 (e.base / 1024) 31 10 rfl rfl (by decide) (by decide) (by omega) f1 h1)
    (lay_l _ 8 5 e.dom 8 5 rfl rfl (by decide) (by decide) (by omega) f2 h2)
    (lay_l _ 3 3 (b2 e.ns) 3 3 rfl rfl (by decide) (by decide) (by omega) f3 h3)
    (lay_l _ 1 0 1 1 0 rfl rfl (by decide) (by decide) (by omega) f4 h4)
    (fun w => one_any e.ns w)
    HW
    (Int.tdiv_eq_ediv_of_nonneg (by omega))
    (by rw [IntKind.wrap_u64]; omega)
    (by rw [IntKind.wrap_u64]; omega)
    (by rw [IntKind.wrap_u64]; omega)
theorem enc_S (e : Ent) (w : World) (hO : Ok e) (hk : e.kind = 2) (hb : e.base % 1048576 = 0 ∧ e.base < 4294967296) (hd : 0 ≤ e.dom ∧ e.dom ≤ 15) (hl : leafOk e)
    (HSY : ∀ w, Calls Tryd.prog 25 #[.agg #[.int .i64 2, .int .u64 e.base, .int .i64 e.dom, .bool e.ns, .int .i64 e.ap, .int .u32 e.bits, .bool e.ng, .bool e.xn]] w fun r w' => r = .returned (.bool true) ∧ Below w.heap.size w w') :
    Calls Tryd.prog 17 #[.agg #[.int .i64 2, .int .u64 e.base, .int .i64 e.dom, .bool e.ns, .int .i64 e.ap, .int .u32 e.bits, .bool e.ng, .bool e.xn]] w fun r w' => r = .returned (.tuple #[.int .u32 (E e), .int .i64 0]) ∧ Below w.heap.size w w' := by
  obtain ⟨⟨o1, o2⟩, o3, o4⟩ := hO
  obtain ⟨l1, l2, l3⟩ := hl
  have ck4 := b2_rng e.ns
  have ck7 := b2_rng e.ng
  have ck8 := b2_rng e.xn
  obtain ⟨f1, h1⟩ : ∃ f, laid (fun _ => 0) 20 31 (e.base / 1048576) = f := ⟨_, rfl⟩
  obtain ⟨f2, h2⟩ : ∃ f, laid f1 5 8 e.dom = f := ⟨_, rfl⟩
  obtain ⟨f3, h3⟩ : ∃ f, laid f2 19 19 (b2 e.ns) = f := ⟨_, rfl⟩
  obtain ⟨f4, h4⟩ : ∃ f, laid f3 17 17 (b2 e.ng) = f := ⟨_, rfl⟩
  obtain ⟨f5, h5⟩ : ∃ f, laid f4 16 16 e.bits = f := ⟨_, rfl⟩
  obtain ⟨f6, h6⟩ : ∃ f, laid f5 15 15 (e.ap / 4) = f := ⟨_, rfl⟩
  obtain ⟨f7, h7⟩ : ∃ f, laid f6 12 14 (e.bits / 8) = f := ⟨_, rfl⟩
  obtain ⟨f8, h8⟩ : ∃ f, laid f7 10 11 e.ap = f := ⟨_, rfl⟩
  obtain ⟨f9, h9⟩ : ∃ f, laid f8 4 4 (b2 e.xn) = f := ⟨_, rfl⟩
  obtain ⟨f10, h10⟩ : ∃ f, laid f9 2 3 (e.bits / 2) = f := ⟨_, rfl⟩
  obtain ⟨f11, h11⟩ : ∃ f, laid f10 0 1 2 = f := ⟨_, rfl⟩
  have r0 : ∀ j : Nat, (0 : Int) ≤ (fun _ : Nat => (0 : Int)) j ∧ (fun _ : Nat => (0 : Int)) j ≤ 1 := fun _ => ⟨Int.le_refl _, (by decide : (0 : Int) ≤ 1)⟩
  have r1 : ∀ j, 0 ≤ f1 j ∧ f1 j ≤ 1 := h1 ▸ laid_rng _ _ _ _ r0
  have r2 : ∀ j, 0 ≤ f2 j ∧ f2 j ≤ 1 := h2 ▸ laid_rng _ _ _ _ r1
  have r3 : ∀ j, 0 ≤ f3 j ∧ f3 j ≤ 1 := h3 ▸ laid_rng _ _ _ _ r2
  have r4 : ∀ j, 0 ≤ f4 j ∧ f4 j ≤ 1 := h4 ▸ laid_rng _ _ _ _ r3
  have r5 : ∀ j, 0 ≤ f5 j ∧ f5 j ≤ 1 := h5 ▸ laid_rng _ _ _ _ r4
  have r6 : ∀ j, 0 ≤ f6 j ∧ f6 j ≤ 1 := h6 ▸ laid_rng _ _ _ _ r5
  have r7 : ∀ j, 0 ≤ f7 j ∧ f7 j ≤ 1 := h7 ▸ laid_rng _ _ _ _ r6
  have r8 : ∀ j, 0 ≤ f8 j ∧ f8 j ≤ 1 := h8 ▸ laid_rng _ _ _ _ r7
  have r9 : ∀ j, 0 ≤ f9 j ∧ f9 j ≤ 1 := h9 ▸ laid_rng _ _ _ _ r8
  have r10 : ∀ j, 0 ≤ f10 j ∧ f10 j ≤ 1 := h10 ▸ laid_rng _ _ _ _ r9
  have r11 : ∀ j, 0 ≤ f11 j ∧ f11 j ≤ 1 := h11 ▸ laid_rng _ _ _ _ r10
  have hv := val_S (e.base / 1048576) e.dom (b2 e.ns) (b2 e.ng) e.bits (e.ap / 4) (e.bits / 8) e.ap (b2 e.xn) (e.bits / 2) f1 f2 f3 f4 f5 f6 f7 f8 f9 f10 f11 h1 h2 h3 h4 h5 h6 h7 h8 h9 h10 h11
  have hE : E e = eS e := by unfold E; rw [if_neg (by omega), if_pos hk]
  have hq : val f11 0 32 = E e := by
    rw [hv, hE]
    simp only [eS, EL, G, Int.reduceToNat, Int.reducePow]
    generalize b2 e.ns = y4 at *
    generalize b2 e.ng = y7 at *
    generalize b2 e.xn = y8 at *
    clear h1 r1 HSY hv hE
    omega
  have HW := fun w => word_any f11 w r11
  rw [hq] at HW
  exact rw1_S e.base e.dom e.ns e.ap e.bits e.ng e.xn (fun _ => 0) f1 f2 f3 f4 f5 f6 f7 f8 f9 f10 f11 (E e) (e.base / 1048576) e.dom (b2 e.ns) (b2 e.ng) (e.ap / 4) (e.bits / 8) e.ap (b2 e.xn) (e.bits / 2) w HSY zeroB
    (lay_l _ 31 20 (e.base / 1048576) 31 20 rfl rfl (by decide) (by decide) (by omega) f1 h1)
    (lay_l _ 8 5 e.dom 8 5 rfl rfl (by decide) (by decide) (by omega) f2 h2)
    (lay_l _ 19 19 (b2 e.ns) 19 19 rfl rfl (by decide) (by decide) (by omega) f3 h3)
    (lay_l _ 17 17 (b2 e.ng) 17 17 rfl rfl (by decide) (by decide) (by omega) f4 h4)
    (lay_l _ 16 16 e.bits 16 16 rfl rfl (by decide) (by decide) (by omega) f5 h5)
    (lay_l _ 15 15 (e.ap / 4) 15 15 rfl rfl (by decide) (by decide) (by omega) f6 h6)
    (lay_l _ 14 12 (e.bits / 8) 14 12 rfl rfl (by decide) (by decide) (by omega) f7 h7)
    (lay_l _ 11 10 e.ap 11 10 rfl rfl (by decide) (by decide) (by omega) f8 h8)
    (lay_l _ 4 4 (b2 e.xn) 4 4 rfl rfl (by decide) (by decide) (by omega) f9 h9)
    (lay_l _ 3 2 (e.bits / 2) 3 2 rfl rfl (by decide) (by decide) (by omega) f10 h10)
    (lay_l _ 1 0 2 1 0 rfl rfl (by decide) (by decide) (by omega) f11 h11)
    (fun w => one_any e.ns w)
    (fun w => one_any e.ng w)
    (fun w => one_any e.xn w)
    HW
    (Int.tdiv_eq_ediv_of_nonneg (by omega))
    (by rw [IntKind.wrap_u64]; omega)
    (by rw [IntKind.wrap_u64]; omega)
    (by rw [IntKind.wrap_u64]; omega)
    (Int.tdiv_eq_ediv_of_nonneg (by omega))
    (by rw [IntKind.wrap_u64]; omega)
    (by rw [IntKind.wrap_u64]; omega)
    (Int.tdiv_eq_ediv_of_nonneg (by omega))
    (by rw [IntKind.wrap_u64]; omega)
    (Int.tdiv_eq_ediv_of_nonneg (by omega))
    (by rw [IntKind.wrap_u64]; omega)
theorem enc_U (e : Ent) (w : World) (hO : Ok e) (hk : e.kind = 3) (hb : e.base % 16777216 = 0 ∧ e.base < 1099511627776) (hd : e.dom = 0) (hl : leafOk e)
    (HSY : ∀ w, Calls Tryd.prog 25 #[.agg #[.int .i64 3, .int .u64 e.base, .int .i64 e.dom, .bool e.ns, .int .i64 e.ap, .int .u32 e.bits, .bool e.ng, .bool e.xn]] w fun r w' => r = .returned (.bool true) ∧ Below w.heap.size w w') :
    Calls Tryd.prog 17 #[.agg #[.int .i64 3, .int .u64 e.base, .int .i64 e.dom, .bool e.ns, .int .i64 e.ap, .int .u32 e.bits, .bool e.ng, .bool e.xn]] w fun r w' => r = .returned (.tuple #[.int .u32 (E e), .int .i64 0]) ∧ Below w.heap.size w w' := by
  obtain ⟨⟨o1, o2⟩, o3, o4⟩ := hO
  obtain ⟨l1, l2, l3⟩ := hl
  have ck4 := b2_rng e.ns
  have ck7 := b2_rng e.ng
  have ck8 := b2_rng e.xn
  obtain ⟨f1, h1⟩ : ∃ f, laid (fun _ => 0) 24 31 (e.base / 16777216) = f := ⟨_, rfl⟩
  obtain ⟨f2, h2⟩ : ∃ f, laid f1 20 23 (e.base / 4294967296) = f := ⟨_, rfl⟩
  obtain ⟨f3, h3⟩ : ∃ f, laid f2 5 8 (e.base / 68719476736) = f := ⟨_, rfl⟩
  obtain ⟨f4, h4⟩ : ∃ f, laid f3 18 18 1 = f := ⟨_, rfl⟩
  obtain ⟨f5, h5⟩ : ∃ f, laid f4 19 19 (b2 e.ns) = f := ⟨_, rfl⟩
  obtain ⟨f6, h6⟩ : ∃ f, laid f5 17 17 (b2 e.ng) = f := ⟨_, rfl⟩
  obtain ⟨f7, h7⟩ : ∃ f, laid f6 16 16 e.bits = f := ⟨_, rfl⟩
  obtain ⟨f8, h8⟩ : ∃ f, laid f7 15 15 (e.ap / 4) = f := ⟨_, rfl⟩
  obtain ⟨f9, h9⟩ : ∃ f, laid f8 12 14 (e.bits / 8) = f := ⟨_, rfl⟩
  obtain ⟨f10, h10⟩ : ∃ f, laid f9 10 11 e.ap = f := ⟨_, rfl⟩
  obtain ⟨f11, h11⟩ : ∃ f, laid f10 4 4 (b2 e.xn) = f := ⟨_, rfl⟩
  obtain ⟨f12, h12⟩ : ∃ f, laid f11 2 3 (e.bits / 2) = f := ⟨_, rfl⟩
  obtain ⟨f13, h13⟩ : ∃ f, laid f12 0 1 2 = f := ⟨_, rfl⟩
  have r0 : ∀ j : Nat, (0 : Int) ≤ (fun _ : Nat => (0 : Int)) j ∧ (fun _ : Nat => (0 : Int)) j ≤ 1 := fun _ => ⟨Int.le_refl _, (by decide : (0 : Int) ≤ 1)⟩
  have r1 : ∀ j, 0 ≤ f1 j ∧ f1 j ≤ 1 := h1 ▸ laid_rng _ _ _ _ r0
  have r2 : ∀ j, 0 ≤ f2 j ∧ f2 j ≤ 1 := h2 ▸ laid_rng _ _ _ _ r1
  have r3 : ∀ j, 0 ≤ f3 j ∧ f3 j ≤ 1 := h3 ▸ laid_rng _ _ _ _ r2
  have r4 : ∀ j, 0 ≤ f4 j ∧ f4 j ≤ 1 := h4 ▸ laid_rng _ _ _ _ r3
  have r5 : ∀ j, 0 ≤ f5 j ∧ f5 j ≤ 1 := h5 ▸ laid_rng _ _ _ _ r4
  have r6 : ∀ j, 0 ≤ f6 j ∧ f6 j ≤ 1 := h6 ▸ laid_rng _ _ _ _ r5
  have r7 : ∀ j, 0 ≤ f7 j ∧ f7 j ≤ 1 := h7 ▸ laid_rng _ _ _ _ r6
  have r8 : ∀ j, 0 ≤ f8 j ∧ f8 j ≤ 1 := h8 ▸ laid_rng _ _ _ _ r7
  have r9 : ∀ j, 0 ≤ f9 j ∧ f9 j ≤ 1 := h9 ▸ laid_rng _ _ _ _ r8
  have r10 : ∀ j, 0 ≤ f10 j ∧ f10 j ≤ 1 := h10 ▸ laid_rng _ _ _ _ r9
  have r11 : ∀ j, 0 ≤ f11 j ∧ f11 j ≤ 1 := h11 ▸ laid_rng _ _ _ _ r10
  have r12 : ∀ j, 0 ≤ f12 j ∧ f12 j ≤ 1 := h12 ▸ laid_rng _ _ _ _ r11
  have r13 : ∀ j, 0 ≤ f13 j ∧ f13 j ≤ 1 := h13 ▸ laid_rng _ _ _ _ r12
  have hv := val_U (e.base / 16777216) (e.base / 4294967296) (e.base / 68719476736) (b2 e.ns) (b2 e.ng) e.bits (e.ap / 4) (e.bits / 8) e.ap (b2 e.xn) (e.bits / 2) f1 f2 f3 f4 f5 f6 f7 f8 f9 f10 f11 f12 f13 h1 h2 h3 h4 h5 h6 h7 h8 h9 h10 h11 h12 h13
  have hE : E e = eU e := by unfold E; rw [if_neg (by omega), if_neg (by omega), if_pos hk]
  have hq : val f13 0 32 = E e := by
    rw [hv, hE]
    simp only [eU, EL, G, Int.reduceToNat, Int.reducePow]
    generalize b2 e.ns = y4 at *
    generalize b2 e.ng = y7 at *
    generalize b2 e.xn = y8 at *
    clear h1 r1 HSY hv hE
    omega
  have HW := fun w => word_any f13 w r13
  rw [hq] at HW
  exact rw1_U e.base e.dom e.ns e.ap e.bits e.ng e.xn (fun _ => 0) f1 f2 f3 f4 f5 f6 f7 f8 f9 f10 f11 f12 f13 (E e) (e.base / 16777216) (e.base / 4294967296) (e.base / 68719476736) (b2 e.ns) (b2 e.ng) (e.ap / 4) (e.bits / 8) e.ap (b2 e.xn) (e.bits / 2) w HSY zeroB
    (lay_l _ 31 24 (e.base / 16777216) 31 24 rfl rfl (by decide) (by decide) (by omega) f1 h1)
    (lay_l _ 23 20 (e.base / 4294967296) 23 20 rfl rfl (by decide) (by decide) (by omega) f2 h2)
    (lay_l _ 8 5 (e.base / 68719476736) 8 5 rfl rfl (by decide) (by decide) (by omega) f3 h3)
    (lay_l _ 18 18 1 18 18 rfl rfl (by decide) (by decide) (by omega) f4 h4)
    (lay_l _ 19 19 (b2 e.ns) 19 19 rfl rfl (by decide) (by decide) (by omega) f5 h5)
    (lay_l _ 17 17 (b2 e.ng) 17 17 rfl rfl (by decide) (by decide) (by omega) f6 h6)
    (lay_l _ 16 16 e.bits 16 16 rfl rfl (by decide) (by decide) (by omega) f7 h7)
    (lay_l _ 15 15 (e.ap / 4) 15 15 rfl rfl (by decide) (by decide) (by omega) f8 h8)
    (lay_l _ 14 12 (e.bits / 8) 14 12 rfl rfl (by decide) (by decide) (by omega) f9 h9)
    (lay_l _ 11 10 e.ap 11 10 rfl rfl (by decide) (by decide) (by omega) f10 h10)
    (lay_l _ 4 4 (b2 e.xn) 4 4 rfl rfl (by decide) (by decide) (by omega) f11 h11)
    (lay_l _ 3 2 (e.bits / 2) 3 2 rfl rfl (by decide) (by decide) (by omega) f12 h12)
    (lay_l _ 1 0 2 1 0 rfl rfl (by decide) (by decide) (by omega) f13 h13)
    (fun w => one_any e.ns w)
    (fun w => one_any e.ng w)
    (fun w => one_any e.xn w)
    HW
    (Int.tdiv_eq_ediv_of_nonneg (by omega))
    (by rw [IntKind.wrap_u64]; omega)
    (Int.tdiv_eq_ediv_of_nonneg (by omega))
    (by rw [IntKind.wrap_u64]; omega)
    (Int.tdiv_eq_ediv_of_nonneg (by omega))
    (by rw [IntKind.wrap_u64]; omega)
    (by rw [IntKind.wrap_u64]; omega)
    (Int.tdiv_eq_ediv_of_nonneg (by omega))
    (by rw [IntKind.wrap_u64]; omega)
    (by rw [IntKind.wrap_u64]; omega)
    (Int.tdiv_eq_ediv_of_nonneg (by omega))
    (by rw [IntKind.wrap_u64]; omega)
    (Int.tdiv_eq_ediv_of_nonneg (by omega))
    (by rw [IntKind.wrap_u64]; omega)
theorem enc_L (e : Ent) (w : World) (hO : Ok e) (hk : e.kind = 4) (hb : e.base % 65536 = 0 ∧ e.base < 4294967296) (hd : e.dom = 0) (hl : leafOk e)
    (HSY : ∀ w, Calls Tryd.prog 30 #[.agg #[.int .i64 4, .int .u64 e.base, .int .i64 e.dom, .bool e.ns, .int .i64 e.ap, .int .u32 e.bits, .bool e.ng, .bool e.xn]] w fun r w' => r = .returned (.bool true) ∧ Below w.heap.size w w') :
    Calls Tryd.prog 18 #[.agg #[.int .i64 4, .int .u64 e.base, .int .i64 e.dom, .bool e.ns, .int .i64 e.ap, .int .u32 e.bits, .bool e.ng, .bool e.xn]] w fun r w' => r = .returned (.tuple #[.int .u32 (E e), .int .i64 0]) ∧ Below w.heap.size w w' := by
  obtain ⟨⟨o1, o2⟩, o3, o4⟩ := hO
  obtain ⟨l1, l2, l3⟩ := hl
  have ck7 := b2_rng e.ng
  have ck8 := b2_rng e.xn
  obtain ⟨f1, h1⟩ : ∃ f, laid (fun _ => 0) 16 31 (e.base / 65536) = f := ⟨_, rfl⟩
  obtain ⟨f2, h2⟩ : ∃ f, laid f1 15 15 (b2 e.xn) = f := ⟨_, rfl⟩
  obtain ⟨f3, h3⟩ : ∃ f, laid f2 12 14 (e.bits / 8) = f := ⟨_, rfl⟩
  obtain ⟨f4, h4⟩ : ∃ f, laid f3 0 1 1 = f := ⟨_, rfl⟩
  obtain ⟨f5, h5⟩ : ∃ f, laid f4 11 11 (b2 e.ng) = f := ⟨_, rfl⟩
  obtain ⟨f6, h6⟩ : ∃ f, laid f5 10 10 e.bits = f := ⟨_, rfl⟩
  obtain ⟨f7, h7⟩ : ∃ f, laid f6 9 9 (e.ap / 4) = f := ⟨_, rfl⟩
  obtain ⟨f8, h8⟩ : ∃ f, laid f7 4 5 e.ap = f := ⟨_, rfl⟩
  obtain ⟨f9, h9⟩ : ∃ f, laid f8 2 3 (e.bits / 2) = f := ⟨_, rfl⟩
  have r0 : ∀ j : Nat, (0 : Int) ≤ (fun _ : Nat => (0 : Int)) j ∧ (fun _ : Nat => (0 : Int)) j ≤ 1 := fun _ => ⟨Int.le_refl _, (by decide : (0 : Int) ≤ 1)⟩
  have r1 : ∀ j, 0 ≤ f1 j ∧ f1 j ≤ 1 := h1 ▸ laid_rng _ _ _ _ r0
  have r2 : ∀ j, 0 ≤ f2 j ∧ f2 j ≤ 1 := h2 ▸ laid_rng _ _ _ _ r1
  have r3 : ∀ j, 0 ≤ f3 j ∧ f3 j ≤ 1 := h3 ▸ laid_rng _ _ _ _ r2
  have r4 : ∀ j, 0 ≤ f4 j ∧ f4 j ≤ 1 := h4 ▸ laid_rng _ _ _ _ r3
  have r5 : ∀ j, 0 ≤ f5 j ∧ f5 j ≤ 1 := h5 ▸ laid_rng _ _ _ _ r4
  have r6 : ∀ j, 0 ≤ f6 j ∧ f6 j ≤ 1 := h6 ▸ laid_rng _ _ _ _ r5
  have r7 : ∀ j, 0 ≤ f7 j ∧ f7 j ≤ 1 := h7 ▸ laid_rng _ _ _ _ r6
  have r8 : ∀ j, 0 ≤ f8 j ∧ f8 j ≤ 1 := h8 ▸ laid_rng _ _ _ _ r7
  have r9 : ∀ j, 0 ≤ f9 j ∧ f9 j ≤ 1 := h9 ▸ laid_rng _ _ _ _ r8
  have hv := val_L (e.base / 65536) (b2 e.xn) (e.bits / 8) (b2 e.ng) e.bits (e.ap / 4) e.ap (e.bits / 2) f1 f2 f3 f4 f5 f6 f7 f8 f9 h1 h2 h3 h4 h5 h6 h7 h8 h9
  have hE : E e = eL e := by unfold E; rw [if_neg (by omega), if_neg (by omega), if_neg (by omega), if_pos hk]
  have hq : val f9 0 32 = E e := by
    rw [hv, hE]
    simp only [eL, EL, G, Int.reduceToNat, Int.reducePow]
    generalize b2 e.ns = y4 at *
    generalize b2 e.ng = y7 at *
    generalize b2 e.xn = y8 at *
    clear h1 r1 HSY hv hE
    omega
  have HW := fun w => word_any f9 w r9
  rw [hq] at HW
  exact rw2_L e.base e.dom e.ns e.ap e.bits e.ng e.xn (fun _ => 0) f1 f2 f3 f4 f5 f6 f7 f8 f9 (E e) (e.base / 65536) (b2 e.xn) (e.bits / 8) (b2 e.ng) (e.ap / 4) e.ap (e.bits / 2) w HSY zeroB
    (lay_l _ 31 16 (e.base / 65536) 31 16 rfl rfl (by decide) (by decide) (by omega) f1 h1)
    (lay_l _ 15 15 (b2 e.xn) 15 15 rfl rfl (by decide) (by decide) (by omega) f2 h2)
    (lay_l _ 14 12 (e.bits / 8) 14 12 rfl rfl (by decide) (by decide) (by omega) f3 h3)
    (lay_l _ 1 0 1 1 0 rfl rfl (by decide) (by decide) (by omega) f4 h4)
    (lay_l _ 11 11 (b2 e.ng) 11 11 rfl rfl (by decide) (by decide) (by omega) f5 h5)
    (lay_l _ 10 10 e.bits 10 10 rfl rfl (by decide) (by decide) (by omega) f6 h6)
    (lay_l _ 9 9 (e.ap / 4) 9 9 rfl rfl (by decide) (by decide) (by omega) f7 h7)
    (lay_l _ 5 4 e.ap 5 4 rfl rfl (by decide) (by decide) (by omega) f8 h8)
    (lay_l _ 3 2 (e.bits / 2) 3 2 rfl rfl (by decide) (by decide) (by omega) f9 h9)
    (fun w => one_any e.ng w)
    (fun w => one_any e.xn w)
    HW
    (Int.tdiv_eq_ediv_of_nonneg (by omega))
    (by rw [IntKind.wrap_u64]; omega)
    (by rw [IntKind.wrap_u64]; omega)
    (Int.tdiv_eq_ediv_of_nonneg (by omega))
    (by rw [IntKind.wrap_u64]; omega)
    (by rw [IntKind.wrap_u64]; omega)
    (Int.tdiv_eq_ediv_of_nonneg (by omega))
    (by rw [IntKind.wrap_u64]; omega)
    (Int.tdiv_eq_ediv_of_nonneg (by omega))
    (by rw [IntKind.wrap_u64]; omega)
theorem enc_M (e : Ent) (w : World) (hO : Ok e) (hk : e.kind = 5) (hb : e.base % 4096 = 0 ∧ e.base < 4294967296) (hd : e.dom = 0) (hl : leafOk e)
    (HSY : ∀ w, Calls Tryd.prog 30 #[.agg #[.int .i64 5, .int .u64 e.base, .int .i64 e.dom, .bool e.ns, .int .i64 e.ap, .int .u32 e.bits, .bool e.ng, .bool e.xn]] w fun r w' => r = .returned (.bool true) ∧ Below w.heap.size w w') :
    Calls Tryd.prog 18 #[.agg #[.int .i64 5, .int .u64 e.base, .int .i64 e.dom, .bool e.ns, .int .i64 e.ap, .int .u32 e.bits, .bool e.ng, .bool e.xn]] w fun r w' => r = .returned (.tuple #[.int .u32 (E e), .int .i64 0]) ∧ Below w.heap.size w w' := by
  obtain ⟨⟨o1, o2⟩, o3, o4⟩ := hO
  obtain ⟨l1, l2, l3⟩ := hl
  have ck7 := b2_rng e.ng
  have ck8 := b2_rng e.xn
  obtain ⟨f1, h1⟩ : ∃ f, laid (fun _ => 0) 12 31 (e.base / 4096) = f := ⟨_, rfl⟩
  obtain ⟨f2, h2⟩ : ∃ f, laid f1 6 8 (e.bits / 8) = f := ⟨_, rfl⟩
  obtain ⟨f3, h3⟩ : ∃ f, laid f2 1 1 1 = f := ⟨_, rfl⟩
  obtain ⟨f4, h4⟩ : ∃ f, laid f3 0 0 (b2 e.xn) = f := ⟨_, rfl⟩
  obtain ⟨f5, h5⟩ : ∃ f, laid f4 11 11 (b2 e.ng) = f := ⟨_, rfl⟩
  obtain ⟨f6, h6⟩ : ∃ f, laid f5 10 10 e.bits = f := ⟨_, rfl⟩
  obtain ⟨f7, h7⟩ : ∃ f, laid f6 9 9 (e.ap / 4) = f := ⟨_, rfl⟩
  obtain ⟨f8, h8⟩ : ∃ f, laid f7 4 5 e.ap = f := ⟨_, rfl⟩
  obtain ⟨f9, h9⟩ : ∃ f, laid f8 2 3 (e.bits / 2) = f := ⟨_, rfl⟩
  have r0 : ∀ j : Nat, (0 : Int) ≤ (fun _ : Nat => (0 : Int)) j ∧ (fun _ : Nat => (0 : Int)) j ≤ 1 := fun _ => ⟨Int.le_refl _, (by decide : (0 : Int) ≤ 1)⟩
  have r1 : ∀ j, 0 ≤ f1 j ∧ f1 j ≤ 1 := h1 ▸ laid_rng _ _ _ _ r0
  have r2 : ∀ j, 0 ≤ f2 j ∧ f2 j ≤ 1 := h2 ▸ laid_rng _ _ _ _ r1
  have r3 : ∀ j, 0 ≤ f3 j ∧ f3 j ≤ 1 := h3 ▸ laid_rng _ _ _ _ r2
  have r4 : ∀ j, 0 ≤ f4 j ∧ f4 j ≤ 1 := h4 ▸ laid_rng _ _ _ _ r3
  have r5 : ∀ j, 0 ≤ f5 j ∧ f5 j ≤ 1 := h5 ▸ laid_rng _ _ _ _ r4
  have r6 : ∀ j, 0 ≤ f6 j ∧ f6 j ≤ 1 := h6 ▸ laid_rng _ _ _ _ r5
  have r7 : ∀ j, 0 ≤ f7 j ∧ f7 j ≤ 1 := h7 ▸ laid_rng _ _ _ _ r6
  have r8 : ∀ j, 0 ≤ f8 j ∧ f8 j ≤ 1 := h8 ▸ laid_rng _ _ _ _ r7
  have r9 : ∀ j, 0 ≤ f9 j ∧ f9 j ≤ 1 := h9 ▸ laid_rng _ _ _ _ r8
  have hv := val_M (e.base / 4096) (e.bits / 8) (b2 e.xn) (b2 e.ng) e.bits (e.ap / 4) e.ap (e.bits / 2) f1 f2 f3 f4 f5 f6 f7 f8 f9 h1 h2 h3 h4 h5 h6 h7 h8 h9
  have hE : E e = eM e := by unfold E; rw [if_neg (by omega), if_neg (by omega), if_neg (by omega), if_neg (by omega), if_pos hk]
  have hq : val f9 0 32 = E e := by
    rw [hv, hE]
    simp only [eM, EL, G, Int.reduceToNat, Int.reducePow]
    generalize b2 e.ns = y4 at *
    generalize b2 e.ng = y7 at *
    generalize b2 e.xn = y8 at *
    clear h1 r1 HSY hv hE
    omega
  have HW := fun w => word_any f9 w r9
  rw [hq] at HW
  exact rw2_M e.base e.dom e.ns e.ap e.bits e.ng e.xn (fun _ => 0) f1 f2 f3 f4 f5 f6 f7 f8 f9 (E e) (e.base / 4096) (e.bits / 8) (b2 e.xn) (b2 e.ng) (e.ap / 4) e.ap (e.bits / 2) w HSY zeroB
    (lay_l _ 31 12 (e.base / 4096) 31 12 rfl rfl (by decide) (by decide) (by omega) f1 h1)
    (lay_l _ 8 6 (e.bits / 8) 8 6 rfl rfl (by decide) (by decide) (by omega) f2 h2)
    (lay_l _ 1 1 1 1 1 rfl rfl (by decide) (by decide) (by omega) f3 h3)
    (lay_l _ 0 0 (b2 e.xn) 0 0 rfl rfl (by decide) (by decide) (by omega) f4 h4)
    (lay_l _ 11 11 (b2 e.ng) 11 11 rfl rfl (by decide) (by decide) (by omega) f5 h5)
    (lay_l _ 10 10 e.bits 10 10 rfl rfl (by decide) (by decide) (by omega) f6 h6)
    (lay_l _ 9 9 (e.ap / 4) 9 9 rfl rfl (by decide) (by decide) (by omega) f7 h7)
    (lay_l _ 5 4 e.ap 5 4 rfl rfl (by decide) (by decide) (by omega) f8 h8)
    (lay_l _ 3 2 (e.bits / 2) 3 2 rfl rfl (by decide) (by decide) (by omega) f9 h9)
    (fun w => one_any e.ng w)
    (fun w => one_any e.xn w)
    HW
    (Int.tdiv_eq_ediv_of_nonneg (by omega))
    (by rw [IntKind.wrap_u64]; omega)
    (by rw [IntKind.wrap_u64]; omega)
    (Int.tdiv_eq_ediv_of_nonneg (by omega))
    (by rw [IntKind.wrap_u64]; omega)
    (by rw [IntKind.wrap_u64]; omega)
    (Int.tdiv_eq_ediv_of_nonneg (by omega))
    (by rw [IntKind.wrap_u64]; omega)
    (Int.tdiv_eq_ediv_of_nonneg (by omega))
    (by rw [IntKind.wrap_u64]; omega)
theorem rencode1_any (e : Ent) (w : World) (hO : Ok e) : Calls Tryd.prog 17 #[.agg #[.int .i64 e.kind, .int .u64 e.base, .int .i64 e.dom, .bool e.ns, .int .i64 e.ap, .int .u32 e.bits, .bool e.ng, .bool e.xn]] w fun r w' => r = .returned (if (D1 (E e)).same e then .tuple #[.int .u32 (E e), .int .i64 0] else .tuple #[.int .u32 0, .int .i64 50]) ∧ Below w.heap.size w w' := by
  have HS := fun w => says1_ref e w hO
  cases hs : (D1 (E e)).same e with
  | false =>
    rw [hs] at HS
    rw [if_neg (by decide)]
    exact rw1_no e.kind e.base e.dom e.ns e.ap e.bits e.ng e.xn w HS
  | true =>
    rw [hs] at HS
    rw [if_pos rfl]
    have hO' := hO
    obtain ⟨⟨o1, o2⟩, o3, o4⟩ := hO'
    rcases (says1_iff e hO).1 ((Ent.same_iff _ _).1 hs) with h | ⟨hk, hb, hd, hl⟩ | ⟨hk, hb, hd, hl⟩ | ⟨hk, hb, hd, hl⟩
    · have hk : e.kind = 0 := dZ_kind h
      rw [E0 e (by omega)]
      rw [hk] at HS ⊢
      exact rw1_Z e.base e.dom e.ns e.ap e.bits e.ng e.xn w HS _ zeroB (by rw [IntKind.wrap_u64]; omega)
    · have := enc_T e w hO hk hb hd ⟨hl.1, hl.2.1⟩ (by rw [← hk]; exact HS)
      rw [← hk] at this
      exact this
    · have := enc_S e w hO hk hb hd hl (by rw [← hk]; exact HS)
      rw [← hk] at this
      exact this
    · have := enc_U e w hO hk hb hd hl (by rw [← hk]; exact HS)
      rw [← hk] at this
      exact this
theorem rencode2_any (e : Ent) (w : World) (hO : Ok e) : Calls Tryd.prog 18 #[.agg #[.int .i64 e.kind, .int .u64 e.base, .int .i64 e.dom, .bool e.ns, .int .i64 e.ap, .int .u32 e.bits, .bool e.ng, .bool e.xn]] w fun r w' => r = .returned (if (D2 (E e)).same e then .tuple #[.int .u32 (E e), .int .i64 0] else .tuple #[.int .u32 0, .int .i64 50]) ∧ Below w.heap.size w w' := by
  have HS := fun w => says2_ref e w hO
  cases hs : (D2 (E e)).same e with
  | false =>
    rw [hs] at HS
    rw [if_neg (by decide)]
    exact rw2_no e.kind e.base e.dom e.ns e.ap e.bits e.ng e.xn w HS
  | true =>
    rw [hs] at HS
    rw [if_pos rfl]
    have hO' := hO
    obtain ⟨⟨o1, o2⟩, o3, o4⟩ := hO'
    rcases (says2_iff e hO).1 ((Ent.same_iff _ _).1 hs) with h | ⟨hk, hb, hd, hn, hl⟩ | ⟨hk, hb, hd, hn, hl⟩
    · have hk : e.kind = 0 := dZ_kind h
      rw [E0 e (by omega)]
      rw [hk] at HS ⊢
      exact rw2_Z e.base e.dom e.ns e.ap e.bits e.ng e.xn w HS _ zeroB (by rw [IntKind.wrap_u64]; omega)
    · have := enc_L e w hO hk hb hd hl (by rw [← hk]; exact HS)
      rw [← hk] at this
      exact this
    · have := enc_M e w hO hk hb hd hl (by rw [← hk]; exact HS)
      rw [← hk] at this
      exact this
set_option maxRecDepth 100000 in
set_option maxHeartbeats 4000000 in
theorem law_writes_w (k1 k2 k3 : Int) (k4 : Bool) (k5 k6 : Int) (k7 k8 : Bool) (a1 a2 c1 c2 : Int) (W : World) (ht : TE W)
    (HD1 : ∀ ww, TE ww → Calls Tryd.prog 8 #[.agg #[.int .i64 k1, .int .u64 k2, .int .i64 k3, .bool k4, .int .i64 k5, .int .u32 k6, .bool k7, .bool k8]] ww fun r w' => r = .returned (.tuple #[.int .u32 a1, .int .i64 a2]) ∧ Below ww.heap.size ww w')
    (HR1 : ∀ ww, Calls Tryd.prog 17 #[.agg #[.int .i64 k1, .int .u64 k2, .int .i64 k3, .bool k4, .int .i64 k5, .int .u32 k6, .bool k7, .bool k8]] ww fun r w' => r = .returned (.tuple #[.int .u32 a1, .int .i64 a2]) ∧ Below ww.heap.size ww w')
    (HD2 : ∀ ww, TE ww → Calls Tryd.prog 10 #[.agg #[.int .i64 k1, .int .u64 k2, .int .i64 k3, .bool k4, .int .i64 k5, .int .u32 k6, .bool k7, .bool k8]] ww fun r w' => r = .returned (.tuple #[.int .u32 c1, .int .i64 c2]) ∧ Below ww.heap.size ww w')
    (HR2 : ∀ ww, Calls Tryd.prog 18 #[.agg #[.int .i64 k1, .int .u64 k2, .int .i64 k3, .bool k4, .int .i64 k5, .int .u32 k6, .bool k7, .bool k8]] ww fun r w' => r = .returned (.tuple #[.int .u32 c1, .int .i64 c2]) ∧ Below ww.heap.size ww w') :
    Calls Tryd.prog 5 #[.agg #[.int .i64 k1, .int .u64 k2, .int .i64 k3, .bool k4, .int .i64 k5, .int .u32 k6, .bool k7, .bool k8]] W fun r w' => r = .returned (.bool true) ∧ Below W.heap.size W w' := by
  have HN : Hid (Bl (W.alloc (.cells ([.int .i64 k1, .int .u64 k2, .int .i64 k3, .bool k4, .int .i64 k5, .int .u32 k6, .bool k7, .bool k8] : List Value).toArray 28)) W.heap.size 28 [.int .i64 k1, .int .u64 k2, .int .i64 k3, .bool k4, .int .i64 k5, .int .u32 k6, .bool k7, .bool k8]) := Bl.new W 28 [.int .i64 k1, .int .u64 k2, .int .i64 k3, .bool k4, .int .i64 k5, .int .u32 k6, .bool k7, .bool k8]
  have HB : Hid (Below W.heap.size W (W.alloc (.cells ([.int .i64 k1, .int .u64 k2, .int .i64 k3, .bool k4, .int .i64 k5, .int .u32 k6, .bool k7, .bool k8] : List Value).toArray 28))) := belA W _
  have HT : Hid (TE W) := ht
  clear ht
  have hc := HN.out.cell
  go_enter Tryd.func5, Tryd.ntmps5
  go_wp2_with (first
    | (go_at_call 8; refine (HD1 _ (HT.out.below HB.out)).mono ?_; rintro e w1 ⟨rfl, hb⟩; clear hc; replace HN := hidIn (HN.out.below hb); replace HB := hidIn (Below.step HB.out hb); clear hb; have hc := HN.out.cell)
    | (go_at_call 17; refine (HR1 _).mono ?_; rintro e w2 ⟨rfl, hb⟩; clear hc; replace HN := hidIn (HN.out.below hb); replace HB := hidIn (Below.step HB.out hb); clear hb; have hc := HN.out.cell)
    | (go_at_call 10; refine (HD2 _ (HT.out.below HB.out)).mono ?_; rintro e w3 ⟨rfl, hb⟩; clear hc; replace HN := hidIn (HN.out.below hb); replace HB := hidIn (Below.step HB.out hb); clear hb; have hc := HN.out.cell)
    | (go_at_call 18; refine (HR2 _).mono ?_; rintro e w4 ⟨rfl, hb⟩; clear hc; replace HN := hidIn (HN.out.below hb); replace HB := hidIn (Below.step HB.out hb); clear hb; have hc := HN.out.cell)
    | go_in)
  go_ret
  exact ⟨rfl, HB.out⟩
theorem tup (b : Bool) (x y u v : Int) : (if b then Value.tuple #[.int .u32 x, .int .i64 y] else .tuple #[.int .u32 u, .int .i64 v]) = .tuple #[.int .u32 (if b then x else u), .int .i64 (if b then y else v)] := by cases b <;> rfl
theorem law_writes (e : Ent) (W : World) (ht : TE W) (hw : EntWf e) : Calls Tryd.prog 5 #[.agg #[.int .i64 e.kind, .int .u64 e.base, .int .i64 e.dom, .bool e.ns, .int .i64 e.ap, .int .u32 e.bits, .bool e.ng, .bool e.xn]] W fun r w' => r = .returned (.bool true) ∧ Below W.heap.size W w' := by
  have hO := hw.ok
  have h1 := fun ww (h : TE ww) => Encode1_any e ww h hO
  have h2 := fun ww => rencode1_any e ww hO
  have h3 := fun ww (h : TE ww) => Encode2_any e ww h hO
  have h4 := fun ww => rencode2_any e ww hO
  simp only [tup] at h1 h2 h3 h4
  exact law_writes_w e.kind e.base e.dom e.ns e.ap e.bits e.ng e.xn _ _ _ _ W ht h1 h2 h3 h4
end Go.Proofs.YtcpcmjmgiagnoabDoor
