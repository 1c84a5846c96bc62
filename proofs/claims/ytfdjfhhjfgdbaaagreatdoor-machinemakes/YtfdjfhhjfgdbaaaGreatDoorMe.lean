import Derived.Test.YtfdjfhhjfgdbaaaGreatDoorMd
namespace Go.Proofs.YtfdjfhhjfgdbaaaGreatDoor
open Go.RowKit
set_option linter.unusedVariables false
set_option linter.unusedSimpArgs false
theorem reg_ix (k : Nat) (hk : k < 13) (w : World) : (Instr.index 150 (.agg rgL.toArray) (.int .i64 k)).run Tryz.prog w = .ok (.agg #[.int .i64 (rg k).t.a, .int .i64 (rg k).t.b, .int .i64 (rg k).t.c, .int .i64 (rg k).t.d, .int .u32 ((rg k).kept : Nat), .int .u32 ((rg k).start : Nat), .bool (rg k).ctx]) w := by
  rcases upto13 k hk with rfl | rfl | rfl | rfl | rfl | rfl | rfl | rfl | rfl | rfl | rfl | rfl | rfl <;> simp [Instr.index, run_underlying Tryz.underlying150, asIntOf, go_sem, rgL, lRg, rgV, rg]
def stG (k : Nat) : List Nat := (fZ.take k) ++ List.replicate (13 - k) 0
theorem stG_set (k : Nat) (h : k < 13) : (stG k).set k (rg k).start = stG (k + 1) := by
  rcases upto13 k h with rfl | rfl | rfl | rfl | rfl | rfl | rfl | rfl | rfl | rfl | rfl | rfl | rfl <;> rfl
theorem fZ_le : ∀ x ∈ fZ, x < 4294967296 := by
  simp [fZ, lRg]
/-- The file that is made, all else new. -/
structure CMX (w wr : World) (F : List Nat) : Prop where
  bel : Below w.heap.size w wr
  fi : Fi 147 wr w.heap.size F
theorem CMX.alloc {w wr : World} {F : List Nat} (h : CMX w wr F) (o : Obj) : CMX w (wr.alloc o) F := ⟨h.bel.alloc h.bel.size o, h.fi.below (below_new _ _)⟩
theorem CMX.set {w wr : World} {F : List Nat} (h : CMX w wr F) (r x : Nat) (hx : x < 4294967296) : CMX w (wr.setCell ⟨w.heap.size, r, none⟩ (.int .u32 (x : Int))) (F.set r x) := ⟨h.bel.setCell (Nat.le_refl _) _, h.fi.set r x hx⟩
theorem CMX.drew {w wr : World} {F : List Nat} (h : CMX w wr F) : CMX w wr.drew F := ⟨below_drew h.bel, h.fi.drew⟩
theorem CMX.start (w : World) : CMX w (w.alloc (.cells (encF (stG 0)).toArray 147)) (stG 0) := ⟨below_new _ _, Bl.new _ _ _, rfl, by simp [stG]⟩
set_option maxRecDepth 100000 in
set_option maxHeartbeats 4000000 in
theorem cnew_any (w : World) (hT : TR w) : Calls Tryz.prog 33 #[] w fun e w' => e = .returned (.pointer (some ⟨w.heap.size, 0, none⟩)) ∧ Fi 147 w' w.heap.size fZ ∧ Below w.heap.size w w' := by
  have HR : Hid ((w.alloc (.cells (encF (stG 0)).toArray 147)).rangeAt 0 0 rgL) := hT.below (below_new _ _)
  have HX0 : Hid (CMX w (w.alloc (.cells (encF (stG 0)).toArray 147)) (stG 0)) := CMX.start w
  have HI : Hid (∀ (k : Nat) (hk : k < 13) (w : World), (Instr.index 150 (.agg rgL.toArray) (.int .i64 k)).run Tryz.prog w = .ok (.agg #[.int .i64 (rg k).t.a, .int .i64 (rg k).t.b, .int .i64 (rg k).t.c, .int .i64 (rg k).t.d, .int .u32 ((rg k).kept : Nat), .int .u32 ((rg k).start : Nat), .bool (rg k).ctx]) w) := reg_ix
  have hz : ∀ w, (zeroValue 147).run Tryz.prog w = .ok (.agg (encF (stG 0)).toArray) w := fun w => by kernel_rfl
  have hbd : ∀ w, (Instr.build 147 #[]).run Tryz.prog w = .ok (.agg (encF (stG 0)).toArray) w := fun w => by kernel_rfl
  clear hT
  generalize hZ0 : encF (stG 0) = Z0 at *
  clear hZ0
  go_enter Tryz.func33, Tryz.ntmps33
  go_wp2_with (first
    | (guard_target =~ wpList _ _ _ (Oper.mk (some 6) _ _ _ _ _ :: _) _ _; refine wpList_load_mid rfl _ _ rfl 0 0 rfl rgL _ HR.out Tryz.underlying150 rfl (by kernel_rfl) ?_)
    | go_in)
  clear HR
  generalize hFA : rgL.toArray = FA at *
  clear hFA hz hbd
  go_loopw [7] (fun i wr => ∃ (k : Nat), k ≤ 13 ∧ i = .int .i64 k ∧ CMX w wr (stG k)) (fun i _ => 13 - (intOf i).toNat)
  case atStart => exact ⟨0, by omega, rfl, HX0.out⟩
  case round =>
    obtain ⟨k, hk, rfl, hX⟩ := hrel
    have HX : Hid (CMX w wr (stG k)) := hX
    clear hX HX0
    by_cases h : k < 13
    · have hi : (k : Int) < 13 := by omega
      have ix := HI.out k h
      have hw : IntKind.i64.wrap ((k : Int) + 1) = ((k + 1 : Nat) : Int) := by rw [IntKind.wrap_i64]; omega
      have c0 := HX.out.fi.cell h
      have f0 := HX.out.fi.frozen k
      have l0 := HX.out.fi.lt
      have hne : ¬ w.heap.size = wr.heap.size := by omega
      have HS : Hid (∀ o, CMX w ((wr.setCell ⟨w.heap.size, k, none⟩ (.int .u32 ((rg k).start : Int))).alloc o).drew (stG (k + 1))) := fun o => by rw [← stG_set k h]; exact ((HX.out.set k _ (rg_start k)).alloc o).drew
      clear HI HX hk
      generalize (rg k).start = S at *
      generalize (stG k).getD k 0 = V at *
      go_wp2
      go_region
      go_wp2
      go_roundw
      case rel => exact ⟨k + 1, by omega, rfl, HS.out _⟩
      case measure => simp [intOf]; omega
    · obtain rfl : k = 13 := by omega
      clear HI h hk
      go_wp2
      go_ret
      exact ⟨rfl, HX.out.fi, HX.out.bel⟩
end Go.Proofs.YtfdjfhhjfgdbaaaGreatDoor
