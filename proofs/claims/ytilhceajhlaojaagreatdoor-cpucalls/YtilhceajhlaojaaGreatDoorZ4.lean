import Derived.Test.YtilhceajhlaojaaGreatDoorZ3
import Derived.Test.YtilhceajhlaojaaGreatDoorZ0
namespace Go.Proofs.YtilhceajhlaojaaGreatDoor.Is
open Go.RowKit
set_option linter.unusedVariables false
set_option linter.unusedSimpArgs false
theorem put_step {w : World} {b : Nat} {i j : Ins} (h : Bl w b 35 (insL i)) (k : Nat) (v : Value) (e : (insL i).set k v = insL j) : Bl (w.setCell ⟨b, k, none⟩ v) b 35 (insL j) ∧ TA b w (w.setCell ⟨b, k, none⟩ v) := by
  refine ⟨?_, TA.set (Turn.refl _ _) k v⟩
  have := h.set k v
  rw [e] at this
  exact this
theorem v_is_one (v : Nat) : ((v : Int) == 1) = (v == 1) := by
  by_cases h : v = 1
  · subst h; rfl
  · rw [beq_eq_false_iff_ne.2 h, beq_eq_false_iff_ne]; omega
set_option maxRecDepth 100000 in
theorem gput_0 (i : Ins) (v b : Nat) (w : World) (hb : Bl w b 35 (insL i)) (hv : v < 4294967296) (hi : 0 ≤ i.imm ∧ i.imm < 4294967296) : Calls Tryz.prog 42 #[.pointer (some ⟨b, 0, none⟩), .int .u8 0, .int .u32 (v : Int)] w fun e w' => e = .returned (.tuple #[]) ∧ Bl w' b 35 (insL (putP i 0 v)) ∧ TA b w w' := by
  have HB := hidW (put_step (j := putP i 0 v) hb 1 (.int .i64 ((v : Int) + 1)) rfl)
  have c := hb.cell 1
  have f := hb.frozen 1
  dsimp only [insL, List.getElem?_cons_zero, List.getElem?_cons_succ] at c
  generalize insL (putP i 0 v) = L at *
  clear hb
  go_enter Tryz.func42, Tryz.ntmps42
  go_wp2
  exact bodyPost_end (v := .tuple #[]) (by simp [results, Tryz.results42, go_sem]) rfl ⟨rfl, HB.out⟩
set_option maxRecDepth 100000 in
theorem gput_1 (i : Ins) (v b : Nat) (w : World) (hb : Bl w b 35 (insL i)) (hv : v < 4294967296) (hi : 0 ≤ i.imm ∧ i.imm < 4294967296) : Calls Tryz.prog 42 #[.pointer (some ⟨b, 0, none⟩), .int .u8 1, .int .u32 (v : Int)] w fun e w' => e = .returned (.tuple #[]) ∧ Bl w' b 35 (insL (putP i 1 v)) ∧ TA b w w' := by
  have HB := hidW (put_step (j := putP i 1 v) hb 2 (.bool (v == 1)) rfl)
  have c := hb.cell 2
  have f := hb.frozen 2
  dsimp only [insL, List.getElem?_cons_zero, List.getElem?_cons_succ] at c
  have hv1 := v_is_one v
  generalize hq : (v == 1) = q at *
  have hq : Hid _ := hq
  generalize insL (putP i 1 v) = L at *
  clear hb
  go_enter Tryz.func42, Tryz.ntmps42
  go_wp2
  exact bodyPost_end (v := .tuple #[]) (by simp [results, Tryz.results42, go_sem]) rfl ⟨rfl, HB.out⟩
set_option maxRecDepth 100000 in
theorem gput_2 (i : Ins) (v b : Nat) (w : World) (hb : Bl w b 35 (insL i)) (hv : v < 4294967296) (hi : 0 ≤ i.imm ∧ i.imm < 4294967296) : Calls Tryz.prog 42 #[.pointer (some ⟨b, 0, none⟩), .int .u8 2, .int .u32 (v : Int)] w fun e w' => e = .returned (.tuple #[]) ∧ Bl w' b 35 (insL (putP i 2 v)) ∧ TA b w w' := by
  have HB := hidW (put_step (j := putP i 2 v) hb 4 (.int .i64 (v : Int)) rfl)
  have c := hb.cell 4
  have f := hb.frozen 4
  dsimp only [insL, List.getElem?_cons_zero, List.getElem?_cons_succ] at c
  generalize insL (putP i 2 v) = L at *
  clear hb
  go_enter Tryz.func42, Tryz.ntmps42
  go_wp2
  exact bodyPost_end (v := .tuple #[]) (by simp [results, Tryz.results42, go_sem]) rfl ⟨rfl, HB.out⟩
set_option maxRecDepth 100000 in
theorem gput_3 (i : Ins) (v b : Nat) (w : World) (hb : Bl w b 35 (insL i)) (hv : v < 4294967296) (hi : 0 ≤ i.imm ∧ i.imm < 4294967296) : Calls Tryz.prog 42 #[.pointer (some ⟨b, 0, none⟩), .int .u8 3, .int .u32 (v : Int)] w fun e w' => e = .returned (.tuple #[]) ∧ Bl w' b 35 (insL (putP i 3 v)) ∧ TA b w w' := by
  have HB := hidW (put_step (j := putP i 3 v) hb 5 (.int .i64 (v : Int)) rfl)
  have c := hb.cell 5
  have f := hb.frozen 5
  dsimp only [insL, List.getElem?_cons_zero, List.getElem?_cons_succ] at c
  generalize insL (putP i 3 v) = L at *
  clear hb
  go_enter Tryz.func42, Tryz.ntmps42
  go_wp2
  exact bodyPost_end (v := .tuple #[]) (by simp [results, Tryz.results42, go_sem]) rfl ⟨rfl, HB.out⟩
set_option maxRecDepth 100000 in
theorem gput_4 (i : Ins) (v b : Nat) (w : World) (hb : Bl w b 35 (insL i)) (hv : v < 4294967296) (hi : 0 ≤ i.imm ∧ i.imm < 4294967296) : Calls Tryz.prog 42 #[.pointer (some ⟨b, 0, none⟩), .int .u8 4, .int .u32 (v : Int)] w fun e w' => e = .returned (.tuple #[]) ∧ Bl w' b 35 (insL (putP i 4 v)) ∧ TA b w w' := by
  have HB := hidW (put_step (j := putP i 4 v) hb 6 (.int .i64 (v : Int)) rfl)
  have c := hb.cell 6
  have f := hb.frozen 6
  dsimp only [insL, List.getElem?_cons_zero, List.getElem?_cons_succ] at c
  generalize insL (putP i 4 v) = L at *
  clear hb
  go_enter Tryz.func42, Tryz.ntmps42
  go_wp2
  exact bodyPost_end (v := .tuple #[]) (by simp [results, Tryz.results42, go_sem]) rfl ⟨rfl, HB.out⟩
set_option maxRecDepth 100000 in
theorem gput_5 (i : Ins) (v b : Nat) (w : World) (hb : Bl w b 35 (insL i)) (hv : v < 4294967296) (hi : 0 ≤ i.imm ∧ i.imm < 4294967296) : Calls Tryz.prog 42 #[.pointer (some ⟨b, 0, none⟩), .int .u8 5, .int .u32 (v : Int)] w fun e w' => e = .returned (.tuple #[]) ∧ Bl w' b 35 (insL (putP i 5 v)) ∧ TA b w w' := by
  have HB := hidW (put_step (j := putP i 5 v) hb 7 (.int .i64 (v : Int)) rfl)
  have c := hb.cell 7
  have f := hb.frozen 7
  dsimp only [insL, List.getElem?_cons_zero, List.getElem?_cons_succ] at c
  generalize insL (putP i 5 v) = L at *
  clear hb
  go_enter Tryz.func42, Tryz.ntmps42
  go_wp2
  exact bodyPost_end (v := .tuple #[]) (by simp [results, Tryz.results42, go_sem]) rfl ⟨rfl, HB.out⟩
set_option maxRecDepth 100000 in
theorem gput_6 (i : Ins) (v b : Nat) (w : World) (hb : Bl w b 35 (insL i)) (hv : v < 4294967296) (hi : 0 ≤ i.imm ∧ i.imm < 4294967296) : Calls Tryz.prog 42 #[.pointer (some ⟨b, 0, none⟩), .int .u8 6, .int .u32 (v : Int)] w fun e w' => e = .returned (.tuple #[]) ∧ Bl w' b 35 (insL (putP i 6 v)) ∧ TA b w w' := by
  have HB := hidW (put_step (j := putP i 6 v) hb 8 (.int .i64 (v : Int)) rfl)
  have c := hb.cell 8
  have f := hb.frozen 8
  dsimp only [insL, List.getElem?_cons_zero, List.getElem?_cons_succ] at c
  generalize insL (putP i 6 v) = L at *
  clear hb
  go_enter Tryz.func42, Tryz.ntmps42
  go_wp2
  exact bodyPost_end (v := .tuple #[]) (by simp [results, Tryz.results42, go_sem]) rfl ⟨rfl, HB.out⟩
set_option maxRecDepth 100000 in
theorem gput_7 (i : Ins) (v b : Nat) (w : World) (hb : Bl w b 35 (insL i)) (hv : v < 4294967296) (hi : 0 ≤ i.imm ∧ i.imm < 4294967296) : Calls Tryz.prog 42 #[.pointer (some ⟨b, 0, none⟩), .int .u8 7, .int .u32 (v : Int)] w fun e w' => e = .returned (.tuple #[]) ∧ Bl w' b 35 (insL (putP i 7 v)) ∧ TA b w w' := by
  have HB := hidW (put_step (j := putP i 7 v) hb 9 (.int .u32 ((i.imm.toNat ||| v : Nat) : Int)) rfl)
  have c := hb.cell 9
  have f := hb.frozen 9
  dsimp only [insL, List.getElem?_cons_zero, List.getElem?_cons_succ] at c
  have hor : bits .or .u32 i.imm (v : Int) = ((i.imm.toNat ||| v : Nat) : Int) := by rw [u32_or _ _ hi.1 hi.2 (by omega) (by omega), Int.toNat_natCast]
  generalize insL (putP i 7 v) = L at *
  clear hb
  go_enter Tryz.func42, Tryz.ntmps42
  go_wp2
  exact bodyPost_end (v := .tuple #[]) (by simp [results, Tryz.results42, go_sem]) rfl ⟨rfl, HB.out⟩
set_option maxRecDepth 100000 in
theorem gput_8 (i : Ins) (v b : Nat) (w : World) (hb : Bl w b 35 (insL i)) (hv : v < 4294967296) (hi : 0 ≤ i.imm ∧ i.imm < 4294967296) : Calls Tryz.prog 42 #[.pointer (some ⟨b, 0, none⟩), .int .u8 8, .int .u32 (v : Int)] w fun e w' => e = .returned (.tuple #[]) ∧ Bl w' b 35 (insL (putP i 8 v)) ∧ TA b w w' := by
  have HB := hidW (put_step (j := putP i 8 v) hb 10 (.int .i64 (v : Int)) rfl)
  have c := hb.cell 10
  have f := hb.frozen 10
  dsimp only [insL, List.getElem?_cons_zero, List.getElem?_cons_succ] at c
  generalize insL (putP i 8 v) = L at *
  clear hb
  go_enter Tryz.func42, Tryz.ntmps42
  go_wp2
  exact bodyPost_end (v := .tuple #[]) (by simp [results, Tryz.results42, go_sem]) rfl ⟨rfl, HB.out⟩
set_option maxRecDepth 100000 in
theorem gput_9 (i : Ins) (v b : Nat) (w : World) (hb : Bl w b 35 (insL i)) (hv : v < 4294967296) (hi : 0 ≤ i.imm ∧ i.imm < 4294967296) : Calls Tryz.prog 42 #[.pointer (some ⟨b, 0, none⟩), .int .u8 9, .int .u32 (v : Int)] w fun e w' => e = .returned (.tuple #[]) ∧ Bl w' b 35 (insL (putP i 9 v)) ∧ TA b w w' := by
  have HB := hidW (put_step (j := putP i 9 v) hb 11 (.int .i64 (v : Int)) rfl)
  have c := hb.cell 11
  have f := hb.frozen 11
  dsimp only [insL, List.getElem?_cons_zero, List.getElem?_cons_succ] at c
  generalize insL (putP i 9 v) = L at *
  clear hb
  go_enter Tryz.func42, Tryz.ntmps42
  go_wp2
  exact bodyPost_end (v := .tuple #[]) (by simp [results, Tryz.results42, go_sem]) rfl ⟨rfl, HB.out⟩
set_option maxRecDepth 100000 in
theorem gput_10 (i : Ins) (v b : Nat) (w : World) (hb : Bl w b 35 (insL i)) (hv : v < 4294967296) (hi : 0 ≤ i.imm ∧ i.imm < 4294967296) : Calls Tryz.prog 42 #[.pointer (some ⟨b, 0, none⟩), .int .u8 10, .int .u32 (v : Int)] w fun e w' => e = .returned (.tuple #[]) ∧ Bl w' b 35 (insL (putP i 10 v)) ∧ TA b w w' := by
  have HB := hidW (put_step (j := putP i 10 v) hb 12 (.bool (v == 1)) rfl)
  have c := hb.cell 12
  have f := hb.frozen 12
  dsimp only [insL, List.getElem?_cons_zero, List.getElem?_cons_succ] at c
  have hv1 := v_is_one v
  generalize hq : (v == 1) = q at *
  have hq : Hid _ := hq
  generalize insL (putP i 10 v) = L at *
  clear hb
  go_enter Tryz.func42, Tryz.ntmps42
  go_wp2
  exact bodyPost_end (v := .tuple #[]) (by simp [results, Tryz.results42, go_sem]) rfl ⟨rfl, HB.out⟩
set_option maxRecDepth 100000 in
theorem gput_11 (i : Ins) (v b : Nat) (w : World) (hb : Bl w b 35 (insL i)) (hv : v < 4294967296) (hi : 0 ≤ i.imm ∧ i.imm < 4294967296) : Calls Tryz.prog 42 #[.pointer (some ⟨b, 0, none⟩), .int .u8 11, .int .u32 (v : Int)] w fun e w' => e = .returned (.tuple #[]) ∧ Bl w' b 35 (insL (putP i 11 v)) ∧ TA b w w' := by
  have HB := hidW (put_step (j := putP i 11 v) hb 13 (.bool (v == 1)) rfl)
  have c := hb.cell 13
  have f := hb.frozen 13
  dsimp only [insL, List.getElem?_cons_zero, List.getElem?_cons_succ] at c
  have hv1 := v_is_one v
  generalize hq : (v == 1) = q at *
  have hq : Hid _ := hq
  generalize insL (putP i 11 v) = L at *
  clear hb
  go_enter Tryz.func42, Tryz.ntmps42
  go_wp2
  exact bodyPost_end (v := .tuple #[]) (by simp [results, Tryz.results42, go_sem]) rfl ⟨rfl, HB.out⟩
set_option maxRecDepth 100000 in
theorem gput_12 (i : Ins) (v b : Nat) (w : World) (hb : Bl w b 35 (insL i)) (hv : v < 4294967296) (hi : 0 ≤ i.imm ∧ i.imm < 4294967296) : Calls Tryz.prog 42 #[.pointer (some ⟨b, 0, none⟩), .int .u8 12, .int .u32 (v : Int)] w fun e w' => e = .returned (.tuple #[]) ∧ Bl w' b 35 (insL (putP i 12 v)) ∧ TA b w w' := by
  have HB := hidW (put_step (j := putP i 12 v) hb 14 (.bool (v == 1)) rfl)
  have c := hb.cell 14
  have f := hb.frozen 14
  dsimp only [insL, List.getElem?_cons_zero, List.getElem?_cons_succ] at c
  have hv1 := v_is_one v
  generalize hq : (v == 1) = q at *
  have hq : Hid _ := hq
  generalize insL (putP i 12 v) = L at *
  clear hb
  go_enter Tryz.func42, Tryz.ntmps42
  go_wp2
  exact bodyPost_end (v := .tuple #[]) (by simp [results, Tryz.results42, go_sem]) rfl ⟨rfl, HB.out⟩
set_option maxRecDepth 100000 in
theorem gput_13 (i : Ins) (v b : Nat) (w : World) (hb : Bl w b 35 (insL i)) (hv : v < 4294967296) (hi : 0 ≤ i.imm ∧ i.imm < 4294967296) : Calls Tryz.prog 42 #[.pointer (some ⟨b, 0, none⟩), .int .u8 13, .int .u32 (v : Int)] w fun e w' => e = .returned (.tuple #[]) ∧ Bl w' b 35 (insL (putP i 13 v)) ∧ TA b w w' := by
  have HB := hidW (put_step (j := putP i 13 v) hb 15 (.int .u16 ((v % 65536 : Nat) : Int)) rfl)
  have c := hb.cell 15
  have f := hb.frozen 15
  dsimp only [insL, List.getElem?_cons_zero, List.getElem?_cons_succ] at c
  have hw : IntKind.u16.wrap (v : Int) = ((v % 65536 : Nat) : Int) := by rw [IntKind.wrap_u16]; omega
  generalize insL (putP i 13 v) = L at *
  clear hb
  go_enter Tryz.func42, Tryz.ntmps42
  go_wp2
  exact bodyPost_end (v := .tuple #[]) (by simp [results, Tryz.results42, go_sem]) rfl ⟨rfl, HB.out⟩
set_option maxRecDepth 100000 in
theorem gput_14 (i : Ins) (v b : Nat) (w : World) (hb : Bl w b 35 (insL i)) (hv : v < 4294967296) (hi : 0 ≤ i.imm ∧ i.imm < 4294967296) : Calls Tryz.prog 42 #[.pointer (some ⟨b, 0, none⟩), .int .u8 14, .int .u32 (v : Int)] w fun e w' => e = .returned (.tuple #[]) ∧ Bl w' b 35 (insL (putP i 14 v)) ∧ TA b w w' := by
  have HB := hidW (put_step (j := putP i 14 v) hb 16 (.int .i64 (v : Int)) rfl)
  have c := hb.cell 16
  have f := hb.frozen 16
  dsimp only [insL, List.getElem?_cons_zero, List.getElem?_cons_succ] at c
  generalize insL (putP i 14 v) = L at *
  clear hb
  go_enter Tryz.func42, Tryz.ntmps42
  go_wp2
  exact bodyPost_end (v := .tuple #[]) (by simp [results, Tryz.results42, go_sem]) rfl ⟨rfl, HB.out⟩
set_option maxRecDepth 100000 in
theorem gput_15 (i : Ins) (v b : Nat) (w : World) (hb : Bl w b 35 (insL i)) (hv : v < 4294967296) (hi : 0 ≤ i.imm ∧ i.imm < 4294967296) : Calls Tryz.prog 42 #[.pointer (some ⟨b, 0, none⟩), .int .u8 15, .int .u32 (v : Int)] w fun e w' => e = .returned (.tuple #[]) ∧ Bl w' b 35 (insL (putP i 15 v)) ∧ TA b w w' := by
  have HB := hidW (put_step (j := putP i 15 v) hb 17 (.int .i64 (v : Int)) rfl)
  have c := hb.cell 17
  have f := hb.frozen 17
  dsimp only [insL, List.getElem?_cons_zero, List.getElem?_cons_succ] at c
  generalize insL (putP i 15 v) = L at *
  clear hb
  go_enter Tryz.func42, Tryz.ntmps42
  go_wp2
  exact bodyPost_end (v := .tuple #[]) (by simp [results, Tryz.results42, go_sem]) rfl ⟨rfl, HB.out⟩
set_option maxRecDepth 100000 in
theorem gput_16 (i : Ins) (v b : Nat) (w : World) (hb : Bl w b 35 (insL i)) (hv : v < 4294967296) (hi : 0 ≤ i.imm ∧ i.imm < 4294967296) : Calls Tryz.prog 42 #[.pointer (some ⟨b, 0, none⟩), .int .u8 16, .int .u32 (v : Int)] w fun e w' => e = .returned (.tuple #[]) ∧ Bl w' b 35 (insL (putP i 16 v)) ∧ TA b w w' := by
  have HB := hidW (put_step (j := putP i 16 v) hb 18 (.int .i64 (v : Int)) rfl)
  have c := hb.cell 18
  have f := hb.frozen 18
  dsimp only [insL, List.getElem?_cons_zero, List.getElem?_cons_succ] at c
  generalize insL (putP i 16 v) = L at *
  clear hb
  go_enter Tryz.func42, Tryz.ntmps42
  go_wp2
  exact bodyPost_end (v := .tuple #[]) (by simp [results, Tryz.results42, go_sem]) rfl ⟨rfl, HB.out⟩
set_option maxRecDepth 100000 in
theorem gput_17 (i : Ins) (v b : Nat) (w : World) (hb : Bl w b 35 (insL i)) (hv : v < 4294967296) (hi : 0 ≤ i.imm ∧ i.imm < 4294967296) : Calls Tryz.prog 42 #[.pointer (some ⟨b, 0, none⟩), .int .u8 17, .int .u32 (v : Int)] w fun e w' => e = .returned (.tuple #[]) ∧ Bl w' b 35 (insL (putP i 17 v)) ∧ TA b w w' := by
  have HB := hidW (put_step (j := putP i 17 v) hb 19 (.int .i64 (v : Int)) rfl)
  have c := hb.cell 19
  have f := hb.frozen 19
  dsimp only [insL, List.getElem?_cons_zero, List.getElem?_cons_succ] at c
  generalize insL (putP i 17 v) = L at *
  clear hb
  go_enter Tryz.func42, Tryz.ntmps42
  go_wp2
  exact bodyPost_end (v := .tuple #[]) (by simp [results, Tryz.results42, go_sem]) rfl ⟨rfl, HB.out⟩
theorem gput_any (i : Ins) (f v b : Nat) (w : World) (hb : Bl w b 35 (insL i)) (hv : v < 4294967296) (hi : 0 ≤ i.imm ∧ i.imm < 4294967296) (hf : f < 18) : Calls Tryz.prog 42 #[.pointer (some ⟨b, 0, none⟩), .int .u8 (f : Int), .int .u32 (v : Int)] w fun e w' => e = .returned (.tuple #[]) ∧ Bl w' b 35 (insL (putP i f v)) ∧ TA b w w' := by
  have : f = 0 ∨ f = 1 ∨ f = 2 ∨ f = 3 ∨ f = 4 ∨ f = 5 ∨ f = 6 ∨ f = 7 ∨ f = 8 ∨ f = 9 ∨ f = 10 ∨ f = 11 ∨ f = 12 ∨ f = 13 ∨ f = 14 ∨ f = 15 ∨ f = 16 ∨ f = 17 := by omega
  rcases this with rfl | rfl | rfl | rfl | rfl | rfl | rfl | rfl | rfl | rfl | rfl | rfl | rfl | rfl | rfl | rfl | rfl | rfl
  · exact gput_0 i v b w hb hv hi
  · exact gput_1 i v b w hb hv hi
  · exact gput_2 i v b w hb hv hi
  · exact gput_3 i v b w hb hv hi
  · exact gput_4 i v b w hb hv hi
  · exact gput_5 i v b w hb hv hi
  · exact gput_6 i v b w hb hv hi
  · exact gput_7 i v b w hb hv hi
  · exact gput_8 i v b w hb hv hi
  · exact gput_9 i v b w hb hv hi
  · exact gput_10 i v b w hb hv hi
  · exact gput_11 i v b w hb hv hi
  · exact gput_12 i v b w hb hv hi
  · exact gput_13 i v b w hb hv hi
  · exact gput_14 i v b w hb hv hi
  · exact gput_15 i v b w hb hv hi
  · exact gput_16 i v b w hb hv hi
  · exact gput_17 i v b w hb hv hi
end Go.Proofs.YtilhceajhlaojaaGreatDoor.Is
namespace Go.Proofs.YtilhceajhlaojaaGreatDoor.Is
open Go.RowKit
set_option linter.unusedVariables false
set_option linter.unusedSimpArgs false
/-- The parts of a row come to an end. -/
def cl : Nat → Nat → Nat
  | 0, x => x
  | n + 1, x => if x = 0 then 0 else cl n (x &&& (x - 1))
structure RowOk (r : RowP) : Prop where
  ok : ROk r
  ends : cl 32 r.parts = 0
  small : ∀ k ∈ chainP 32 r.parts, k < 28
theorem low_row : ∀ r ∈ lowL, RowOk r := by
  have h : lowL.all (fun r => cl 32 r.parts == 0 && (chainP 32 r.parts).all (fun k => decide (k < 28))) = true := by decide
  intro r hr
  have := List.all_eq_true.1 h r hr
  rw [Bool.and_eq_true] at this
  exact ⟨low_ok r hr, by simpa using this.1, fun k hk => by simpa using List.all_eq_true.1 this.2 k hk⟩
theorem high_row : ∀ r ∈ highL, RowOk r := by
  have h : highL.all (fun r => cl 32 r.parts == 0 && (chainP 32 r.parts).all (fun k => decide (k < 28))) = true := by decide
  intro r hr
  have := List.all_eq_true.1 h r hr
  rw [Bool.and_eq_true] at this
  exact ⟨high_ok r hr, by simpa using this.1, fun k hk => by simpa using List.all_eq_true.1 this.2 k hk⟩
/-- The state while a row is read. -/
structure RdX (W : World) (r : RowP) (i : Ins) (w : World) : Prop where
  bel : Below W.heap.size W w
  row : Bl w W.heap.size 88 (rowL r)
  res : Bl w (W.heap.size + 1) 35 (insL insZ)
  box : Bl w (W.heap.size + 2) 35 (insL i)
  tp : TP w
  imm : 0 ≤ i.imm ∧ i.imm < 4294967296
theorem RdX.drewN {W w : World} {r : RowP} {i : Ins} (h : RdX W r i w) (q : Nat) : RdX W r i (w.drewN q) := ⟨below_drewN h.bel q, h.row.drewN q, h.res.drewN q, h.box.drewN q, ⟨h.tp.low, h.tp.high, h.tp.pl, h.tp.db⟩, h.imm⟩
theorem RdX.step {W w w' : World} {r : RowP} {i : Ins} (h : RdX W r i w) (hb : Below w.heap.size w w') : RdX W r i w' := ⟨Below.step h.bel hb, h.row.below hb, h.res.below hb, h.box.below hb, h.tp.below hb, h.imm⟩
theorem pl_small : ∀ k, k < 28 → (plP k).fld < 18 ∧ (plP k).at_ < 25 ∧ (plP k).wide < 25 ∧ (plP k).frm < 13 := by
  intro k h
  have : ∀ k : Fin 28, (plP k.1).fld < 18 ∧ (plP k.1).at_ < 25 ∧ (plP k.1).wide < 25 ∧ (plP k.1).frm < 13 := by decide
  exact this ⟨k, h⟩
theorem part_info : (Tryz.prog.info? 108).map (·.size) = some 4 := by kernel_rfl
def partL (k : Nat) : List Value := [.int .u8 ((plP k).fld : Int), .int .u8 ((plP k).at_ : Int), .int .u8 ((plP k).wide : Int), .int .u8 ((plP k).frm : Int)]
theorem part_all (k : Nat) : (partL k).toArray.all (·.oneCell') = true := all_oneCell_toArray fun v hv => by
  simp only [partL, List.mem_cons, List.not_mem_nil, or_false] at hv
  rcases hv with rfl | rfl | rfl | rfl <;> rfl
theorem left_step (x : Nat) (h0 : 0 < x) (hx : x < 4294967296) : bits .and .u32 (x : Int) ((x : Int) - 1) = ((x &&& (x - 1) : Nat) : Int) := by
  rw [show (x : Int) - 1 = ((x - 1 : Nat) : Int) by omega, u32_and _ _ (by omega) (by omega) (by omega) (by omega), Int.toNat_natCast, Int.toNat_natCast]
theorem left_lt (x : Nat) (h0 : 0 < x) : x &&& (x - 1) < x := Nat.lt_of_le_of_lt Nat.and_le_right (by omega)
theorem put_other (i : Ins) (f v : Nat) (h : f ≠ 7) : (putP i f v).imm = i.imm := by
  by_cases h18 : 18 ≤ f
  · unfold putP
    repeat rw [if_neg (by omega)]
  · have : f = 0 ∨ f = 1 ∨ f = 2 ∨ f = 3 ∨ f = 4 ∨ f = 5 ∨ f = 6 ∨ f = 8 ∨ f = 9 ∨ f = 10 ∨ f = 11 ∨ f = 12 ∨ f = 13 ∨ f = 14 ∨ f = 15 ∨ f = 16 ∨ f = 17 := by omega
    rcases this with rfl | rfl | rfl | rfl | rfl | rfl | rfl | rfl | rfl | rfl | rfl | rfl | rfl | rfl | rfl | rfl | rfl <;> rfl
theorem put_imm (i : Ins) (f v : Nat) (hv : v < 4294967296) (h : 0 ≤ i.imm ∧ i.imm < 4294967296) : 0 ≤ (putP i f v).imm ∧ (putP i f v).imm < 4294967296 := by
  by_cases hf : f = 7
  · subst hf
    have e : (putP i 7 v).imm = ((i.imm.toNat ||| v : Nat) : Int) := rfl
    rw [e]
    have h3 : (2 : Nat) ^ 32 = 4294967296 := by decide
    have := Nat.or_lt_two_pow (x := i.imm.toNat) (y := v) (n := 32) (by omega) (by omega)
    rw [h3] at this
    omega
  · rw [put_other i f v hf]; exact h
theorem size_new (w : World) (o : Obj) : (w.alloc o).heap.size = w.heap.size + 1 := by simp
theorem bl_at {w : World} {n : Nat} {t : TypeId} {l : List Value} (h : n = w.heap.size) : Bl (w.alloc (.cells l.toArray t)) n t l := by subst h; exact Bl.new w t l
/-- The world when the first store is made. -/
def w3 (w : World) (r : RowP) : World := ((w.alloc (.cells (rowL r).toArray 88)).alloc (.cells (insL insZ).toArray 35)).alloc (.cells (insL insZ).toArray 35)
theorem w3_box (w : World) (r : RowP) : Bl (w3 w r) (w.heap.size + 1 + 1) 35 (insL insZ) := bl_at (by rw [size_new, size_new])
theorem w3_res (w : World) (r : RowP) : Bl (w3 w r) (w.heap.size + 1) 35 (insL insZ) := Bl.alloc (bl_at (by rw [size_new])) _
theorem w3_row (w : World) (r : RowP) : Bl (w3 w r) w.heap.size 88 (rowL r) := Bl.alloc (Bl.alloc (bl_at rfl) _) _
theorem w3_below (w : World) (r : RowP) : Below w.heap.size w (w3 w r) := Below.step (Below.step (below_new _ _) (below_new _ _)) (below_new _ _)
theorem bl_set_ne {w : World} {b b' : Nat} {t : TypeId} {l : List Value} (h : Bl w b t l) (hn : b ≠ b') (new : List Value) : Bl (w.setCells b' 0 new) b t l := h.turn (set_turn new 0 w w (Turn.refl _ _)) hn
theorem RdX.first {w : World} (ht : TP w) (r : RowP) (i : Ins) (hi : 0 ≤ i.imm ∧ i.imm < 4294967296) : RdX w r i ((w3 w r).setCells (w.heap.size + 1 + 1) 0 (insL i)) := by
  have hb : Below w.heap.size w ((w3 w r).setCells (w.heap.size + 1 + 1) 0 (insL i)) := Turn.to (set_turn (insL i) 0 w _ (TA.of (w3_below w r))) (fun _ e => by omega) (Nat.le_refl _)
  exact ⟨hb, bl_set_ne (w3_row w r) (by omega) _, bl_set_ne (w3_res w r) (by omega) _, set_all (w3_box w r) rfl, ht.below hb, hi⟩
theorem ins_all (i : Ins) : (insL i).toArray.all (·.oneCell') = true := all_oneCell_toArray fun v hv => by
  simp only [insL, List.mem_cons, List.not_mem_nil, or_false] at hv
  rcases hv with rfl | rfl | rfl | rfl | rfl | rfl | rfl | rfl | rfl | rfl | rfl | rfl | rfl | rfl | rfl | rfl | rfl | rfl | rfl | rfl <;> rfl
def startI (X : Int) (r : RowP) : Ins := ⟨X / 268435456, r.op, false, r.form, 0, 0, 0, 0, 0, 0, 0, 0, false, false, false, 0, 0, 0, 0, 0⟩
theorem RdX.parts {W w : World} {r : RowP} {i : Ins} (h : RdX W r i w) : w.cell? ⟨W.heap.size, 4, none⟩ = some (.int .u32 (r.parts : Int)) := h.row.cell 4
theorem cell_turn {b : Nat} {w w' : World} {p : Addr} {v : Value} (h : w.cell? p = some v) (ht : TA b w w') (hn : p.block ≠ b) : w'.cell? p = some v := by
  have e := ht.block p.block (cell_lt h) hn
  rw [← h]
  unfold World.cell?
  rw [e]
theorem TP.turn {b : Nat} {w w' : World} (h : TP w) (ht : TA b w w') (hb : 4 < b) : TP w' :=
  ⟨fun j r hr k v hv => cell_turn (h.low j r hr k v hv) ht (show 0 ≠ b by omega), fun j r hr k v hv => cell_turn (h.high j r hr k v hv) ht (show 1 ≠ b by omega), fun k hk j v hv => cell_turn (h.pl k hk j v hv) ht (show 2 ≠ b by omega), fun k hk => cell_turn (h.db k hk) ht (show 4 ≠ b by omega)⟩
theorem RdX.put {W w w' : World} {r : RowP} {i j : Ins} (h : RdX W r i w) (hW : 4 < W.heap.size) (hb : Bl w' (W.heap.size + 1 + 1) 35 (insL j)) (ht : TA (W.heap.size + 1 + 1) w w') (hj : 0 ≤ j.imm ∧ j.imm < 4294967296) : RdX W r j w' :=
  ⟨Turn.to ((TA.of h.bel : TA (W.heap.size + 1 + 1) W w).then ht) (fun _ e => by omega) (Nat.le_refl _), h.row.turn ht (by omega), h.res.turn ht (by omega), hb, h.tp.turn ht (by omega), hj⟩
set_option maxRecDepth 100000 in
theorem ins_load {w : World} {b : Nat} {l : List Value} (h : Bl w b 35 l) (hl : l.length = 20) : (loadVar 35 ⟨b, 0, none⟩).run Tryz.prog w = .ok (.agg l.toArray) w :=
  run_loadVar_mid w b 0 35 l _ h.range Tryz.underlying35 rfl (by rw [hl]; exact (by kernel_rfl : (Tryz.prog.info? 35).map (·.size) = some 20))
theorem RdX.ret {W w : World} {r : RowP} {i : Ins} (h : RdX W r i w) (j : Ins) : Below W.heap.size W (w.setCells (W.heap.size + 1) 0 (insL j)) :=
  Turn.to (set_turn (insL j) 0 W _ (TA.of h.bel)) (fun _ e => by omega) (Nat.le_refl _)
theorem get_lt' (w k : Nat) : getP w k < 4294967296 := Nat.mod_lt _ (by decide)
theorem get_val (x K : Nat) (X : Int) (hX : (x : Int) = X) (hx : x < 4294967296) (hK : K < 28) : bits .and .u32 (X / 2 ^ (plP K).at_) ((2 ^ (plP K).wide - 1) % 4294967296) * 2 ^ (plP K).frm % 4294967296 = ((getP x K : Nat) : Int) := by
  subst hX
  obtain ⟨p1, p2, p3, p4⟩ := pl_small K hK
  unfold getP
  generalize (plP K).at_ = a at *
  generalize (plP K).wide = d at *
  generalize (plP K).frm = m at *
  have h1 : 2 ^ d < 2 ^ 32 := Nat.pow_lt_pow_right (by decide) (by omega)
  have h2 := Nat.two_pow_pos d
  have h3 : (2 : Nat) ^ 32 = 4294967296 := by decide
  have e : ((2 : Int) ^ d - 1) % 4294967296 = 2 ^ d - 1 := by
    rw [← pow_nat d]; omega
  rw [e, band_mod d _ _ rfl (by omega) (shr_range _ _ ⟨by omega, by omega⟩)]
  rw [← pow_nat a, ← pow_nat d, ← pow_nat m, ← Int.natCast_ediv, ← Int.natCast_emod, ← Int.natCast_mul]
  rfl
theorem sign_lt (n : Nat) : signP n < 4294967296 := by
  unfold signP
  split <;> omega
theorem sign_val (I : Int) (h : 0 ≤ I ∧ I < 4294967296) : wrap32 (I * 64 % 4294967296) / 64 % 4294967296 = ((signP I.toNat : Nat) : Int) := by
  obtain ⟨n, rfl⟩ := Int.eq_ofNat_of_zero_le h.1
  rw [Int.toNat_natCast, signP]
  unfold wrap32
  by_cases hb : n / 33554432 % 2 = 1
  · rw [if_pos hb]; omega
  · rw [if_neg hb]; omega
theorem rowOk_parts {r : RowP} (h : RowOk r) : r.parts < 4294967296 := h.ok.parts
theorem ins_size : (Tryz.prog.info? 35).map (·.size) = some 20 := by kernel_rfl
set_option maxRecDepth 100000 in
set_option maxHeartbeats 2000000 in
theorem gread_any (r : RowP) (x : Nat) (w : World) (ht : TP w) (hr : RowOk r) (hx : x < 4294967296) :
    Calls Tryz.prog 29 #[.agg (rowL r).toArray, .int .u32 (x : Int)] w fun e w' => e = .returned (.agg (insA (readP r x))) ∧ Below w.heap.size w w' := by
  show Calls Tryz.prog 29 #[.agg #[.int .u8 (r.op : Int), .int .u8 (r.form : Int), .int .u32 (r.mask : Int), .int .u32 (r.bits : Int), .int .u32 (r.parts : Int)], .int .u32 (x : Int)] w fun e w' => e = .returned (.agg (insA (readP r x))) ∧ Below w.heap.size w w'
  have HR := hidW hr
  have HT := hidW ht
  have HW : 4 < w.heap.size := ht.size
  obtain ⟨r1, r2, r3, r4, r5⟩ := hr.ok
  have x1 : 0 ≤ (x : Int) / 268435456 := by omega
  have x2 : (x : Int) / 268435456 < 16 := by omega
  obtain ⟨X, hX⟩ : ∃ X : Int, (x : Int) = X := ⟨_, rfl⟩
  have hX1 : 0 ≤ X ∧ X < 4294967296 := by omega
  rw [hX] at x1 x2 ⊢
  have hX := hidW hX
  have hx : Hid _ := hx
  clear hr ht
  go_enter Tryz.func29, Tryz.ntmps29
  have HX := hidW (RdX.first HT.out r (startI X r) ⟨Int.le_refl 0, show (0 : Int) < 4294967296 by decide⟩)
  have HA := hidW ((w3_box w r).there 20 rfl)
  have HO := hidW (ins_all (startI X r))
  go_wp2_with (guard_target =~ wpList _ _ _ (Oper.mk none _ _ _ _ _ :: _) _ _; refine wpList_store_mid rfl _ _ _ rfl (w.heap.size + 1 + 1) 0 (insL (startI X r)).toArray rfl rfl HA.out ins_size HO.out ?_; generalize hW : World.setCells _ _ _ _ = W4; have HY := hidW (show RdX w r (startI X r) W4 from hW ▸ HX.out); clear HX HA HO hW; have c4 := HY.out.parts)
  clear hX1
  have hst : Hid (startI X r = { insZ with cond := ((x / 268435456 : Nat) : Int), op := r.op, form := r.form }) := by
    show _ = _
    rw [← hX.out]; rfl
  go_loopw [6] (fun k wr => ∃ (n left : Nat) (i : Ins), left < 4294967296 ∧ k = .int .u32 (left : Int) ∧ cl n left = 0 ∧ (∀ k ∈ chainP n left, k < 28) ∧ readF x i (chainP n left) = readF x (startI X r) (chainP 32 r.parts) ∧ RdX w r i wr) (fun k _ => (intOf k).toNat)
  case atStart => exact ⟨32, r.parts, startI X r, r5, rfl, HR.out.ends, HR.out.small, rfl, HY.out⟩
  case round =>
    clear HY HT c4
    obtain ⟨n, left, i, hl, rfl, hc, hs, hf, hY⟩ := hrel
    have HY := hidW hY
    have hf := hidW hf
    clear hY
    by_cases h0 : left = 0
    · subst h0
      have ec : chainP n 0 = [] := by cases n <;> rfl
      have HF : Hid (i = readF x (startI X r) (chainP 32 r.parts)) := by
        show _ = _
        rw [← hf.out, ec]; rfl
      clear hf hs hc ec hl
      have HH : Hid (∀ w', Calls Tryz.prog 43 #[.agg (rowL r).toArray, .int .i64 11] w' fun e w'' => e = .returned (.bool (hasR r 11)) ∧ Below w'.heap.size w' w'') := fun w' => ghas_any r 11 w' (by decide) r5
      have HR1 := hidW HY.out.row.range
      have eF : Hid (readP r x = if hasR r 11 then { i with imm := (signP i.imm.toNat : Nat) } else i) := by
        show _ = _
        rw [readP, ← hst.out, ← HF.out]
      clear HF
      have bd : decide ((0 : Int) = 0) = true := rfl
      cases hh : hasR r 11
      · have EE : Hid (readP r x = i) := by show _ = _; rw [eF.out, hh]; rfl
        clear eF
        go_wp2_with (guard_target =~ wpList _ _ _ (Oper.mk (some 45) _ _ _ _ _ :: _) _ _; refine wpList_load_mid rfl _ _ rfl w.heap.size 0 rfl (rowL r) _ HR1.out Tryz.underlying88 rfl row_info ?_)
        go_at_call 43
        refine (HH.out _).mono ?_
        rintro e w1 ⟨rfl, hb⟩
        have HY1 := hidW (HY.out.step hb)
        clear hb HY HH HR1
        rw [hh]
        clear hh
        have HYY := HY1
        clear HY1
        have HB : Hid (w1.rangeAt (w.heap.size + 1 + 1) 0 (insL i)) := HYY.out.box.range
        have HT2 : Hid (w1.there (w.heap.size + 1) 0 (insL i).toArray.size) := HYY.out.res.there 20 rfl
        have HO : Hid ((insL i).toArray.all (·.oneCell') = true) := ins_all i
        have HS1 : Hid ((Tryz.prog.info? 35).map (·.size) = some (insL i).length) := ins_size
        have HS2 : Hid ((Tryz.prog.info? 35).map (·.size) = some (insL i).toArray.size) := ins_size
        have HL : Hid ((loadVar 35 ⟨w.heap.size + 1, 0, none⟩).run Tryz.prog (w1.setCells (w.heap.size + 1) 0 (insL i)) = .ok (.agg (insL i).toArray) (w1.setCells (w.heap.size + 1) 0 (insL i))) := ins_load (set_all (new := insL i) HYY.out.res rfl) rfl
        have HE : Hid (Below w.heap.size w (w1.setCells (w.heap.size + 1) 0 (insL i)) ∧ (Value.agg (insL i).toArray = .agg (insA (readP r x)))) := ⟨HYY.out.ret i, by rw [EE.out]; rfl⟩
        clear EE HYY
        generalize insL i = II at *
        go_wp2_with (first | (guard_target =~ wpList _ _ _ (Oper.mk (some 54) _ _ _ _ _ :: _) _ _; refine wpList_load_mid rfl _ _ rfl (w.heap.size + 1 + 1) 0 rfl II _ HB.out Tryz.underlying35 rfl HS1.out ?_) | (guard_target =~ wpList _ _ _ (Oper.mk none _ _ _ _ _ :: _) _ _; refine wpList_store_mid rfl _ _ _ rfl (w.heap.size + 1) 0 II.toArray rfl rfl HT2.out HS2.out HO.out ?_))
        have hl := HL.out
        exact bodyPost_ret (v := .agg II.toArray) (by simp [results, Tryz.results29, asAddr, hl, Act.put]) rfl ⟨by rw [HE.out.2], HE.out.1⟩
      · have EE : Hid (readP r x = { i with imm := (signP i.imm.toNat : Nat) }) := by show _ = _; rw [eF.out, hh]; rfl
        clear eF
        go_wp2_with (guard_target =~ wpList _ _ _ (Oper.mk (some 45) _ _ _ _ _ :: _) _ _; refine wpList_load_mid rfl _ _ rfl w.heap.size 0 rfl (rowL r) _ HR1.out Tryz.underlying88 rfl row_info ?_)
        go_at_call 43
        refine (HH.out _).mono ?_
        rintro e w1 ⟨rfl, hb⟩
        have HY1 := hidW (HY.out.step hb)
        clear hb HY HH HR1
        rw [hh]
        clear hh
        have c9 : w1.cell? ⟨w.heap.size + 1 + 1, 9, none⟩ = some (.int .u32 i.imm) := HY1.out.box.cell 9
        have c9f : w1.frozen? ⟨w.heap.size + 1 + 1, 9, none⟩ = false := HY1.out.box.frozen 9
        have im := HY1.out.imm
        have sv := sign_val i.imm HY1.out.imm
        obtain ⟨jj, hjj⟩ : ∃ jj : Ins, jj = { i with imm := (signP i.imm.toNat : Nat) } := ⟨_, rfl⟩
        have hset : (insL i).set 9 (.int .u32 ((signP i.imm.toNat : Nat) : Int)) = insL jj := by rw [hjj]; rfl
        have hst5 := put_step HY1.out.box 9 (.int .u32 ((signP i.imm.toNat : Nat) : Int)) hset
        have hsl := sign_lt i.imm.toNat
        obtain ⟨W5, hW5⟩ : ∃ W5, w1.setCell ⟨w.heap.size + 1 + 1, 9, none⟩ (.int .u32 ((signP i.imm.toNat : Nat) : Int)) = W5 := ⟨_, rfl⟩
        have HYY : Hid (RdX w r jj W5) := hidW (by rw [← hW5]; exact HY1.out.put HW hst5.1 hst5.2 (by rw [hjj]; exact ⟨Int.natCast_nonneg _, by show ((signP i.imm.toNat : Nat) : Int) < 4294967296; omega⟩))
        have EJ : Hid (readP r x = jj) := by show _ = _; rw [EE.out, hjj]
        replace EE := EJ
        clear EJ hst5 hset hjj hsl HY1
        generalize i.imm = IM at *
        generalize signP IM.toNat = SG at *
        have hW5 := hidW hW5
        have HB : Hid (W5.rangeAt (w.heap.size + 1 + 1) 0 (insL jj)) := HYY.out.box.range
        have HT2 : Hid (W5.there (w.heap.size + 1) 0 (insL jj).toArray.size) := HYY.out.res.there 20 rfl
        have HO : Hid ((insL jj).toArray.all (·.oneCell') = true) := ins_all jj
        have HS1 : Hid ((Tryz.prog.info? 35).map (·.size) = some (insL jj).length) := ins_size
        have HS2 : Hid ((Tryz.prog.info? 35).map (·.size) = some (insL jj).toArray.size) := ins_size
        have HL : Hid ((loadVar 35 ⟨w.heap.size + 1, 0, none⟩).run Tryz.prog (W5.setCells (w.heap.size + 1) 0 (insL jj)) = .ok (.agg (insL jj).toArray) (W5.setCells (w.heap.size + 1) 0 (insL jj))) := ins_load (set_all (new := insL jj) HYY.out.res rfl) rfl
        have HE : Hid (Below w.heap.size w (W5.setCells (w.heap.size + 1) 0 (insL jj)) ∧ (Value.agg (insL jj).toArray = .agg (insA (readP r x)))) := ⟨HYY.out.ret jj, by rw [EE.out]; rfl⟩
        clear EE HYY
        generalize insL jj = II at *
        go_wp2_with (first | (guard_target =~ wpList _ _ _ (Oper.mk (some 54) _ _ _ _ _ :: _) _ _; (try rw [hW5.out]); refine wpList_load_mid rfl _ _ rfl (w.heap.size + 1 + 1) 0 rfl II _ HB.out Tryz.underlying35 rfl HS1.out ?_) | (guard_target =~ wpList _ _ _ (Oper.mk none _ _ _ _ _ :: _) _ _; refine wpList_store_mid rfl _ _ _ rfl (w.heap.size + 1) 0 II.toArray rfl rfl HT2.out HS2.out HO.out ?_))
        have hl := HL.out
        exact bodyPost_ret (v := .agg II.toArray) (by simp [results, Tryz.results29, asAddr, hl, Act.put]) rfl ⟨by rw [HE.out.2], HE.out.1⟩
    · obtain ⟨m, rfl⟩ : ∃ m, n = m + 1 := by
        cases n with
        | zero => exact absurd hc h0
        | succ m => exact ⟨m, rfl⟩
      have ec : chainP (m + 1) left = tzP left :: chainP m (left &&& (left - 1)) := by rw [chainP, if_neg h0]
      have hc' : cl m (left &&& (left - 1)) = 0 := by rw [cl, if_neg h0] at hc; exact hc
      have hpos : 0 < left := Nat.pos_of_ne_zero h0
      have hK : tzP left < 28 := hs _ (by rw [ec]; exact List.mem_cons_self ..)
      have hs' : ∀ k ∈ chainP m (left &&& (left - 1)), k < 28 := fun k hk => hs k (by rw [ec]; exact List.mem_cons_of_mem _ hk)
      have e1 := left_step left hpos hl
      have e2 := left_lt left hpos
      have HZ : Hid (∀ w', TP w' → Calls Tryz.prog 41 #[.int .u32 (left : Int)] w' fun e w'' => e = .returned (.int .i64 (tzP left : Nat)) ∧ w'' = w') := fun w' ht => tz_any left w' ht hpos hl
      have HF : Hid (readF x (putP i (plP (tzP left)).fld (getP x (tzP left))) (chainP m (left &&& (left - 1))) = readF x (startI X r) (chainP 32 r.parts)) := by
        show _ = _
        rw [← hf.out, ec, readF]
      clear hf hs hc ec
      generalize tzP left = K at *
      generalize hL : left &&& (left - 1) = L2 at *
      obtain ⟨p1, p2, p3, p4⟩ := pl_small K hK
      have HP := hidW (HY.out.tp.pl K hK)
      have HG : Hid (∀ w', RdX w r i w' → Calls Tryz.prog 42 #[.pointer (some ⟨w.heap.size + 1 + 1, 0, none⟩), .int .u8 ((plP K).fld : Int), .int .u32 (bits .and .u32 (X / 2 ^ (plP K).at_) ((2 ^ (plP K).wide - 1) % 4294967296) * 2 ^ (plP K).frm % 4294967296)] w' fun e w'' => e = .returned (.tuple #[]) ∧ RdX w r (putP i (plP K).fld (getP x K)) w'') := by
        intro w' hw'
        rw [get_val x K X hX.out hx.out hK]
        refine (gput_any i (plP K).fld (getP x K) _ w' hw'.box (get_lt' x K) hw'.imm p1).mono ?_
        rintro e w'' ⟨rfl, hb, ht⟩
        exact ⟨rfl, hw'.put HW hb ht (put_imm _ _ _ (get_lt' x K) hw'.imm)⟩
      have k1 : (K : Int) < 28 := by omega
      have k0 : (0 : Int) ≤ (K : Int) := by omega
      have b0 : decide ((left : Int) = 0) = false := decide_eq_false (by omega)
      generalize plP K = P at *
      obtain ⟨F, A, D, M⟩ := P
      dsimp only at HP HG HF p1 p2 p3 p4
      generalize getP x K = V at *
      go_wp2_with (first | (go_at_call 41; refine (HZ.out _ HY.out.tp).mono ?_; rintro e w' ⟨rfl, rfl⟩) | (guard_target =~ wpList _ _ _ (Oper.mk (some 29) _ _ _ _ _ :: _) _ _; refine wpList_load_mid rfl _ _ rfl 2 (K * 4) rfl _ _ HP.out Tryz.underlying108 rfl part_info ?_))
      go_at_call 42
      refine (HG.out _ (HY.out.step (below_new _ _))).mono ?_
      rintro e w2 ⟨rfl, hN⟩
      have HN := hidW hN
      clear hN HG HY HP
      go_wp2
      go_roundw
      case rel => exact ⟨m, L2, _, by omega, rfl, hc', hs', HF.out, HN.out⟩
      case measure => simp [intOf]; omega
end Go.Proofs.YtilhceajhlaojaaGreatDoor.Is
namespace Go.Proofs.YtilhceajhlaojaaGreatDoor.Is
open Go.RowKit
set_option linter.unusedVariables false
/-- A list of numbers in memory. -/
structure Sl (w : World) (b : Nat) (l : List Int) : Prop where
  bl : Bl w b 3 (l.map fun n => .int .i64 n)
  len : l.length ≤ 100
theorem Sl.below {w w' : World} {b : Nat} {l : List Int} (h : Sl w b l) (hb : Below w.heap.size w w') : Sl w' b l := ⟨h.bl.below hb, h.len⟩
theorem Sl.cell {w : World} {b : Nat} {l : List Int} (h : Sl w b l) {j : Nat} (hj : j < l.length) : w.cell? ⟨b, j, none⟩ = some (.int .i64 l[j]) := by
  rw [h.bl.cell j]; simp [hj]
theorem any_drop {l : List Int} {n : Int} {j : Nat} (hj : j < l.length) : (l.drop j).contains n = (l[j] == n || (l.drop (j + 1)).contains n) := by
  rw [List.drop_eq_getElem_cons hj, List.contains_cons]
  congr 1
  exact Bool.eq_iff_iff.2 ⟨fun h => by simpa using (beq_iff_eq.1 h).symm, fun h => by simpa using (beq_iff_eq.1 h).symm⟩
end Go.Proofs.YtilhceajhlaojaaGreatDoor.Is
