import Derived.Test.YtliiblaodhcjhaaLaw1
import Derived.Deep.RegionHeld3
namespace Go.Proofs.Ytliiblaodhcjhaa
open Go.RowKit
set_option linter.unusedVariables false

/-- A map of these calls. -/
def layS (L : List (Sp Int)) (o : Op4) : List (Sp Int) := if o.kind = 1 then setR L o.lo o.hi o.val else if o.kind = 2 then clearR L o.lo o.hi else L
def layL (ops : List Op4) : List (Sp Int) := ops.foldl layS []

theorem layL_take_succ (ops : List Op4) (k : Nat) (o : Op4) (h : ops[k]? = some o) : layL (ops.take (k + 1)) = layS (layL (ops.take k)) o := by
  have hk : k < ops.length := (List.getElem?_eq_some_iff.1 h).1
  have ho : ops[k] = o := (List.getElem?_eq_some_iff.1 h).2
  rw [layL, List.take_succ_eq_append_getElem hk, List.foldl_append, ho]
  rfl

set_option maxHeartbeats 4000000 in
set_option maxRecDepth 100000 in
theorem laid_any (W : World) (a : Option Addr) (cap : Nat) (ops : List Op4) (S : Script W a ops) (hs : ops.length ≤ 2097152) :
    Calls Try.prog 17 #[.slice a ops.length cap] W fun e W' => e = .returned (.pointer (some ⟨W.heap.size, 0, none⟩)) ∧ (∃ v, MapAt W' W.heap.size W.heap.size v (layL ops) ∧ (layL ops).length ≤ 2 * ops.length) ∧ Below W.heap.size W W' := by
  have hB := Below.refl W.heap.size W
  have hM0 := MapAt.new W W.heap.size (Nat.le_refl _)
  have hB0 := below_alloc hB (.cells #[.slice none 0 0] 84)
  have HS : Hid (Script W a ops) := S
  clear S
  generalize hn : ops.length = n at *
  have HN : Hid (ops.length = n) := hn
  clear hn
  go_enter Try.func17, Try.ntmps17
  go_wp2_with (go_at_call 9; refine (new_any _).mono ?_; rintro e w' ⟨rfl, rfl⟩)
  go_loopw [4] (fun i wr => ∃ (k : Nat), k ≤ n ∧ i = .int .i64 k ∧ Hid (∃ v, MapAt wr W.heap.size W.heap.size v (layL (ops.take k)) ∧ (layL (ops.take k)).length ≤ 2 * k) ∧ Hid (Below W.heap.size W wr)) (fun i _ => n - (intOf i).toNat)
  case atStart => exact ⟨0, Nat.zero_le _, rfl, ⟨_, hM0, Nat.zero_le _⟩, hB0⟩
  case round =>
    obtain ⟨k, hk, rfl, HL, HB⟩ := hrel
    clear hM0 hB0
    by_cases hlt : k < n
    · obtain ⟨o, ho⟩ : ∃ o, ops[k]? = some o := ⟨_, List.getElem?_eq_getElem (by rw [HN.out]; exact hlt)⟩
      obtain ⟨b, off, rfl, hbl, e0, e1, e2, e3⟩ := HS.out.lies k o ho
      obtain ⟨⟨r1, r2⟩, ⟨r3, r4⟩, ⟨r5, r6⟩, ⟨r7, r8⟩⟩ := HS.out.rng o (List.mem_of_getElem? ho)
      obtain ⟨hcc, _⟩ := bcell HB.out
      have f0 : wr.cell? ⟨b, off + k * 4, none⟩ = some (.int .i64 o.kind) := by rw [hcc b _ hbl]; exact e0
      have f1 : wr.cell? ⟨b, off + k * 4 + 1, none⟩ = some (.int .u64 o.lo) := by rw [hcc b _ hbl]; exact e1
      have f2 : wr.cell? ⟨b, off + k * 4 + 2, none⟩ = some (.int .u64 o.hi) := by rw [hcc b _ hbl]; exact e2
      have f3 : wr.cell? ⟨b, off + k * 4 + 3, none⟩ = some (.int .i64 o.val) := by rw [hcc b _ hbl]; exact e3
      have hst := layL_take_succ ops k o ho
      have HT : Hid (layL (ops.take (k + 1)) = layS (layL (ops.take k)) o) := hst
      clear hcc ho hst
      obtain ⟨v, hM, hLl⟩ := HL.out
      clear HL
      generalize layL (ops.take k) = L at *
      have hltz : (k : Int) < (n : Int) := by omega
      have hk0 : (0 : Int) ≤ (k : Int) := by omega
      have hszL : (L.length + 4) * 24 ≤ 140737488355328 := by omega
      have hg0 := hM.good
      have hMd : MapAt wr.drew W.heap.size W.heap.size v L := hM.drewN 1
      have HBd : Below W.heap.size W wr.drew := HB.out.drew
      by_cases hk1 : o.kind = 1
      · have hk2 : (o.kind == 1) = true := by simp [hk1]
        have hk3 : (o.kind == 2) = false := by simp [hk1]
        have hl2 := setR_len hg0 r1 r4 o.val
        have HT2 : Hid (layL (ops.take (k + 1)) = setR L o.lo o.hi o.val) := by show _ = _; rw [HT.out, layS, if_pos hk1]
        have hC := set_at W wr.drew HBd _ _ v L o.lo o.hi o.val hMd (Nat.le_refl _) hszL r1 r4
        clear hk1 HT
        go_wp2_with (fail)
        go_region_held3 (fun w' => w'.cell? ⟨b, off + k * 4, none⟩ = some (.int .i64 o.kind) ∧ w'.cell? ⟨b, off + k * 4 + 1, none⟩ = some (.int .u64 o.lo) ∧ w'.cell? ⟨b, off + k * 4 + 2, none⟩ = some (.int .u64 o.hi) ∧ w'.cell? ⟨b, off + k * 4 + 3, none⟩ = some (.int .i64 o.val)) (first | go_keep | exact ⟨z0, z1, z2, z3⟩)
          ((go_at_call 11; refine hC.mono ?_; rintro e w1 ⟨rfl, v1, hM2, hB2⟩; have z0 : w1.cell? ⟨b, off + k * 4, none⟩ = some (.int .i64 o.kind) := (bcell hB2).1 b _ hbl |>.trans e0; have z1 : w1.cell? ⟨b, off + k * 4 + 1, none⟩ = some (.int .u64 o.lo) := (bcell hB2).1 b _ hbl |>.trans e1; have z2 : w1.cell? ⟨b, off + k * 4 + 2, none⟩ = some (.int .u64 o.hi) := (bcell hB2).1 b _ hbl |>.trans e2; have z3 : w1.cell? ⟨b, off + k * 4 + 3, none⟩ = some (.int .i64 o.val) := (bcell hB2).1 b _ hbl |>.trans e3))
        go_wp2
        go_roundw
        case rel => exact ⟨k + 1, by omega, by go_num, ⟨v1, by rw [HT2.out]; exact hM2, by rw [HT2.out]; omega⟩, hB2⟩
        case measure => simp [intOf]; omega
      · by_cases hk4 : o.kind = 2
        · have hk2 : (o.kind == 1) = false := by simp [hk1]
          have hk3 : (o.kind == 2) = true := by simp [hk4]
          have hl2 := clearR_len hg0 (a := o.lo) (b := o.hi)
          have HT2 : Hid (layL (ops.take (k + 1)) = clearR L o.lo o.hi) := by show _ = _; rw [HT.out, layS, if_neg hk1, if_pos hk4]
          have hC := clear_at W wr.drew HBd _ _ v L o.lo o.hi hMd (Nat.le_refl _) hszL r1 r4
          clear hk1 hk4 HT
          go_wp2_with (fail)
          go_region_held3 (fun w' => w'.cell? ⟨b, off + k * 4 + 1, none⟩ = some (.int .u64 o.lo) ∧ w'.cell? ⟨b, off + k * 4 + 2, none⟩ = some (.int .u64 o.hi)) (first | go_keep | exact ⟨z1, z2⟩)
            ((go_at_call 12; refine hC.mono ?_; rintro e w1 ⟨rfl, v1, hM2, hB2⟩; have z1 : w1.cell? ⟨b, off + k * 4 + 1, none⟩ = some (.int .u64 o.lo) := (bcell hB2).1 b _ hbl |>.trans e1; have z2 : w1.cell? ⟨b, off + k * 4 + 2, none⟩ = some (.int .u64 o.hi) := (bcell hB2).1 b _ hbl |>.trans e2))
          go_wp2
          go_roundw
          case rel => exact ⟨k + 1, by omega, by go_num, ⟨v1, by rw [HT2.out]; exact hM2, by rw [HT2.out]; omega⟩, hB2⟩
          case measure => simp [intOf]; omega
        · have hk2 : (o.kind == 1) = false := by simp [hk1]
          have hk3 : (o.kind == 2) = false := by simp [hk4]
          have HT2 : Hid (layL (ops.take (k + 1)) = L) := by show _ = _; rw [HT.out, layS, if_neg hk1, if_neg hk4]
          clear hk1 hk4 HT
          go_wp2
          go_roundw
          case rel => exact ⟨k + 1, by omega, by go_num, ⟨v, by rw [HT2.out]; exact hM, by rw [HT2.out]; omega⟩, HB.out⟩
          case measure => simp [intOf]; omega
    · obtain rfl : k = n := by omega
      have HE : Hid (ops.take k = ops) := by show _ = _; rw [← HN.out]; exact List.take_length
      go_wp2
      go_ret
      have h1 := HL.out
      rw [HE.out] at h1
      exact ⟨rfl, h1, HB.out⟩
end Go.Proofs.Ytliiblaodhcjhaa
