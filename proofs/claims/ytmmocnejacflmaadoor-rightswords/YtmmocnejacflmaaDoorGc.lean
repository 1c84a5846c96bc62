import Derived.Test.YtmmocnejacflmaaDoorGs
import Derived.Test.YtmmocnejacflmaaDoorGq
import Derived.Deep.MidRow
namespace Go.Proofs.YtmmocnejacflmaaDoor
open Go.RowKit
set_option linter.unusedVariables false
set_option linter.unusedSimpArgs false
/-- The forms as they lie. -/
def foV (r : Fo) : List Value := [.int .u32 r.c0, .int .u32 r.c1, .int .u32 r.c2, .bool r.dm]
def fmL : List Value := lForm.flatMap foV
theorem fmL_at (j : Nat) (h : j < 44) : ∃ r, lForm[j / 4]? = some r ∧ fmL[j]? = (foV r)[j % 4]? := by
  have key : ∀ k, k < 11 → ∀ l, l < 4 → ∃ r, lForm[k]? = some r ∧ fmL[k * 4 + l]? = (foV r)[l]? := by
    intro k hk l hl
    rcases (show k = 0 ∨ k = 1 ∨ k = 2 ∨ k = 3 ∨ k = 4 ∨ k = 5 ∨ k = 6 ∨ k = 7 ∨ k = 8 ∨ k = 9 ∨ k = 10 by omega) with rfl | rfl | rfl | rfl | rfl | rfl | rfl | rfl | rfl | rfl | rfl <;> rcases (show l = 0 ∨ l = 1 ∨ l = 2 ∨ l = 3 by omega) with rfl | rfl | rfl | rfl <;> exact ⟨_, rfl, rfl⟩
  have := key (j / 4) (by omega) (j % 4) (by omega)
  rwa [show j / 4 * 4 + j % 4 = j by omega] at this
theorem TF.range {w : World} (h : TF w) : w.rangeAt 0 0 fmL := by
  intro j v hv
  have hj : j < 44 := (List.getElem?_eq_some_iff.1 hv).1
  obtain ⟨r, h1, h2⟩ := fmL_at j hj
  rw [h2] at hv
  have hr := h _ _ h1
  rw [Nat.zero_add]
  have e : j / 4 * 4 + j % 4 = j := by omega
  rcases (show j % 4 = 0 ∨ j % 4 = 1 ∨ j % 4 = 2 ∨ j % 4 = 3 by omega) with q | q | q | q
  · rw [q] at hv e
    obtain rfl : .int .u32 r.c0 = v := by simpa [foV] using hv
    rw [← e]
    exact hr.c0
  · rw [q] at hv e
    obtain rfl : .int .u32 r.c1 = v := by simpa [foV] using hv
    rw [← e]
    exact hr.c1
  · rw [q] at hv e
    obtain rfl : .int .u32 r.c2 = v := by simpa [foV] using hv
    rw [← e]
    exact hr.c2
  · rw [q] at hv e
    obtain rfl : .bool r.dm = v := by simpa [foV] using hv
    rw [← e]
    exact hr.c3
theorem form_ix (k : Nat) (hk : k < 11) (w : World) : (Instr.index 52 (.agg fmL.toArray) (.int .i64 k)).run Tryd.prog w = .ok (.agg #[.int .u32 (foF k).c0, .int .u32 (foF k).c1, .int .u32 (foF k).c2, .bool (foF k).dm]) w := by
  rcases (show k = 0 ∨ k = 1 ∨ k = 2 ∨ k = 3 ∨ k = 4 ∨ k = 5 ∨ k = 6 ∨ k = 7 ∨ k = 8 ∨ k = 9 ∨ k = 10 by omega) with rfl | rfl | rfl | rfl | rfl | rfl | rfl | rfl | rfl | rfl | rfl <;> simp [Instr.index, run_underlying Tryd.underlying52, asIntOf, go_sem, fmL, lForm, foV, foF]
theorem code_ix0 (a b c : Int) (w : World) : (Instr.index 49 (.agg #[.int .u32 a, .int .u32 b, .int .u32 c]) (.int .i64 0)).run Tryd.prog w = .ok (.int .u32 a) w := by
  simp [Instr.index, run_underlying Tryd.underlying49, asIntOf, go_sem]
theorem code_ix1 (a b c : Int) (w : World) : (Instr.index 49 (.agg #[.int .u32 a, .int .u32 b, .int .u32 c]) (.int .i64 1)).run Tryd.prog w = .ok (.int .u32 b) w := by
  simp [Instr.index, run_underlying Tryd.underlying49, asIntOf, go_sem]
theorem code_ix2 (a b c : Int) (w : World) : (Instr.index 49 (.agg #[.int .u32 a, .int .u32 b, .int .u32 c]) (.int .i64 2)).run Tryd.prog w = .ok (.int .u32 c) w := by
  simp [Instr.index, run_underlying Tryd.underlying49, asIntOf, go_sem]
/-- The first form with that code. -/
def nC : List Fo → Int → Int → Fa
  | [], _, _ => fZ
  | a :: r, k, x => if a.c0 = x then ⟨k, 0, 0⟩ else if a.c1 = x then ⟨k, 1, 0⟩ else if a.c2 = x then ⟨k, 2, 0⟩ else nC r (k + 1) x
theorem nC_at (k : Nat) (hk : k < 11) (x : Int) : nC (lForm.drop k) k x = if (foF k).c0 = x then ⟨k, 0, 0⟩ else if (foF k).c1 = x then ⟨k, 1, 0⟩ else if (foF k).c2 = x then ⟨k, 2, 0⟩ else nC (lForm.drop (k + 1)) ((k + 1 : Nat) : Int) x := by
  have h1 : k < lForm.length := hk
  have h2 : lForm[k] = foF k := by
    have := lForm_at k hk
    simpa [h1] using this
  rw [List.drop_eq_getElem_cons h1, h2, nC]
  rfl
theorem nC_coF (x : Int) (h : 0 ≤ x ∧ x < 32) : nC lForm 0 x = coF x := by
  have key : ∀ n : Nat, n < 32 → (nC lForm 0 (n : Int)).same (coF n) = true := by decide +kernel
  obtain ⟨n, rfl⟩ := Int.eq_ofNat_of_zero_le h.1
  exact (Fa.same_iff _ _).1 (key n (by omega))
/-- The result's cells still zero, all else new. -/
structure CX (w wr : World) : Prop where
  bel : Below w.heap.size w wr
  res : Bl wr w.heap.size 28 [.int .i64 0, .int .i64 0, .int .i64 0]
theorem CX.new (w : World) : CX w (w.alloc (.cells #[.int .i64 0, .int .i64 0, .int .i64 0] 28)) := ⟨below_new _ _, Bl.new _ _ _⟩
theorem CX.alloc {w wr : World} (h : CX w wr) (o : Obj) : CX w (wr.alloc o) := ⟨h.bel.alloc h.bel.size o, h.res.below (below_new _ _)⟩
set_option maxRecDepth 100000 in
set_option maxHeartbeats 4000000 in
theorem coded_raw (x : Int) (w : World) (hT : TF w) :
    Calls Tryd.prog 21 #[.int .u32 x] w fun e w' => e = .returned (.agg #[.int .i64 (nC lForm 0 x).k, .int .i64 (nC lForm 0 x).l, .int .i64 (nC lForm 0 x).d]) ∧ Below w.heap.size w w' := by
  have HR : Hid ((w.alloc (.cells #[.int .i64 0, .int .i64 0, .int .i64 0] 28)).rangeAt 0 0 fmL) := (hT.below (below_new _ _)).range
  have HX0 : Hid (CX w (w.alloc (.cells #[.int .i64 0, .int .i64 0, .int .i64 0] 28))) := CX.new w
  have HI : Hid (∀ (k : Nat) (hk : k < 11) (w : World), (Instr.index 52 (.agg fmL.toArray) (.int .i64 k)).run Tryd.prog w = .ok (.agg #[.int .u32 (foF k).c0, .int .u32 (foF k).c1, .int .u32 (foF k).c2, .bool (foF k).dm]) w) := form_ix
  have i0 := code_ix0
  have i1 := code_ix1
  have i2 := code_ix2
  clear hT
  go_enter Tryd.func21, Tryd.ntmps21
  go_wp2_with (first
    | (guard_target =~ wpList _ _ _ (Oper.mk (some 7) _ _ _ _ _ :: _) _ _; refine wpList_load_mid rfl _ _ rfl 0 0 rfl fmL _ HR.out Tryd.underlying52 rfl (by kernel_rfl) ?_)
    | go_in)
  clear HR
  generalize hFA : fmL.toArray = FA at *
  clear hFA
  go_loopw [8] (fun i wr => ∃ (k : Nat), k ≤ 11 ∧ i = .int .i64 k ∧ nC lForm 0 x = nC (lForm.drop k) k x ∧ CX w wr) (fun i _ => 11 - (intOf i).toNat)
  case atStart => exact ⟨0, by omega, rfl, rfl, HX0.out⟩
  case round =>
    obtain ⟨k, hk, rfl, hS, hX⟩ := hrel
    have HS : Hid (nC lForm 0 x = nC (lForm.drop k) k x) := hS
    have HX : Hid (CX w wr) := hX
    clear hS hX HX0
    by_cases h : k < 11
    · have hi : (k : Int) < 11 := by omega
      have HQ : Hid _ := HS.out.trans (nC_at k h x)
      have ix := HI.out k h
      clear HS HI
      generalize (foF k).c0 = A at *
      generalize (foF k).c1 = B at *
      generalize (foF k).c2 = C at *
      generalize (foF k).dm = D at *
      have hsz : ¬ (w.heap.size = wr.heap.size) := by have := HX.out.res.lt; omega
      have HX2 : Hid (CX w (wr.alloc (.cells #[.int .u32 A, .int .u32 B, .int .u32 C, .bool D] 51))) := HX.out.alloc _
      have hw : IntKind.i64.wrap ((k : Int) + 1) = ((k + 1 : Nat) : Int) := by rw [IntKind.wrap_i64]; omega
      clear HX hk
      go_wp2
      go_loopw [14] (fun j wq => ∃ (l : Nat), l ≤ 3 ∧ j = .int .i64 l ∧ (1 ≤ l → ¬ A = x) ∧ (2 ≤ l → ¬ B = x) ∧ (3 ≤ l → ¬ C = x) ∧ CX w wq) (fun j _ => 3 - (intOf j).toNat)
      case atStart => exact ⟨0, by omega, rfl, fun h => by omega, fun h => by omega, fun h => by omega, HX2.out⟩
      case round =>
        obtain ⟨l, hl, rfl, n0, n1, n2, hX⟩ := hrel
        have HX3 : Hid (CX w wr) := hX
        have c0 := hX.res.cell
        have f0 := hX.res.frozen
        have l0 := hX.res.lt
        clear hX HX2
        rcases (show l = 0 ∨ l = 1 ∨ l = 2 ∨ l = 3 by omega) with rfl | rfl | rfl | rfl
        · by_cases h : A = x
          · have q : (A == x) = true := by simp [h]
            have hv : nC lForm 0 x = ⟨k, 0, 0⟩ := by rw [HQ.out, if_pos h]
            have HV : Hid (nC lForm 0 x = ⟨k, 0, 0⟩) := hv
            clear hv
            clear h HQ n0 n1 n2 hl
            go_wp2
            refine bodyPost_ret (v := .agg #[.int .i64 k, .int .i64 0, .int .i64 0]) (by simp [results, Tryd.results21, go_sem, c0, f0, l0]) rfl ⟨by rw [HV.out], (by (repeat (with_reducible refine Below.setCell ?_ (by simp) _)); exact HX3.out.bel)⟩
          · have q : (A == x) = false := by simp [h]
            have Hh : Hid (¬ A = x) := h
            have HN : Hid ((1 ≤ 1 → ¬ A = x) ∧ (2 ≤ 1 → ¬ B = x) ∧ (3 ≤ 1 → ¬ C = x)) := by
              refine ⟨fun _ => ?_, fun _ => ?_, fun _ => ?_⟩ <;> first | exact h | exact n0 (by omega) | exact n1 (by omega) | omega
            clear h HQ n0 n1 n2 hl
            go_wp2
            go_roundw
            case rel => exact ⟨1, by omega, rfl, HN.out.1, HN.out.2.1, HN.out.2.2, HX3.out⟩
            case measure => simp [intOf]
        · by_cases h : B = x
          · have q : (B == x) = true := by simp [h]
            have hv : nC lForm 0 x = ⟨k, 1, 0⟩ := by rw [HQ.out, if_neg (n0 (by omega)), if_pos h]
            have HV : Hid (nC lForm 0 x = ⟨k, 1, 0⟩) := hv
            clear hv
            clear h HQ n0 n1 n2 hl
            go_wp2
            refine bodyPost_ret (v := .agg #[.int .i64 k, .int .i64 1, .int .i64 0]) (by simp [results, Tryd.results21, go_sem, c0, f0, l0]) rfl ⟨by rw [HV.out], (by (repeat (with_reducible refine Below.setCell ?_ (by simp) _)); exact HX3.out.bel)⟩
          · have q : (B == x) = false := by simp [h]
            have Hh : Hid (¬ B = x) := h
            have HN : Hid ((1 ≤ 2 → ¬ A = x) ∧ (2 ≤ 2 → ¬ B = x) ∧ (3 ≤ 2 → ¬ C = x)) := by
              refine ⟨fun _ => ?_, fun _ => ?_, fun _ => ?_⟩ <;> first | exact h | exact n0 (by omega) | exact n1 (by omega) | omega
            clear h HQ n0 n1 n2 hl
            go_wp2
            go_roundw
            case rel => exact ⟨2, by omega, rfl, HN.out.1, HN.out.2.1, HN.out.2.2, HX3.out⟩
            case measure => simp [intOf]
        · by_cases h : C = x
          · have q : (C == x) = true := by simp [h]
            have hv : nC lForm 0 x = ⟨k, 2, 0⟩ := by rw [HQ.out, if_neg (n0 (by omega)), if_neg (n1 (by omega)), if_pos h]
            have HV : Hid (nC lForm 0 x = ⟨k, 2, 0⟩) := hv
            clear hv
            clear h HQ n0 n1 n2 hl
            go_wp2
            refine bodyPost_ret (v := .agg #[.int .i64 k, .int .i64 2, .int .i64 0]) (by simp [results, Tryd.results21, go_sem, c0, f0, l0]) rfl ⟨by rw [HV.out], (by (repeat (with_reducible refine Below.setCell ?_ (by simp) _)); exact HX3.out.bel)⟩
          · have q : (C == x) = false := by simp [h]
            have Hh : Hid (¬ C = x) := h
            have HN : Hid ((1 ≤ 3 → ¬ A = x) ∧ (2 ≤ 3 → ¬ B = x) ∧ (3 ≤ 3 → ¬ C = x)) := by
              refine ⟨fun _ => ?_, fun _ => ?_, fun _ => ?_⟩ <;> first | exact h | exact n0 (by omega) | exact n1 (by omega) | omega
            clear h HQ n0 n1 n2 hl
            go_wp2
            go_roundw
            case rel => exact ⟨3, by omega, rfl, HN.out.1, HN.out.2.1, HN.out.2.2, HX3.out⟩
            case measure => simp [intOf]
        · have hv : nC lForm 0 x = nC (lForm.drop (k + 1)) ((k + 1 : Nat) : Int) x := by rw [HQ.out, if_neg (n0 (by omega)), if_neg (n1 (by omega)), if_neg (n2 (by omega))]
          have HV : Hid (nC lForm 0 x = nC (lForm.drop (k + 1)) ((k + 1 : Nat) : Int) x) := hv
          clear hv
          clear HQ n0 n1 n2 hl
          go_wp2
          go_roundw
          case rel => exact ⟨k + 1, by omega, rfl, HV.out, HX3.out⟩
          case measure => simp [intOf]; omega
    · obtain rfl : k = 11 := by omega
      have HV : Hid (nC lForm 0 x = ⟨0, 0, 0⟩) := HS.out
      have c0 := HX.out.res.cell
      have f0 := HX.out.res.frozen
      have l0 := HX.out.res.lt
      clear HS HI h hk
      go_wp2
      refine bodyPost_ret (v := .agg #[.int .i64 0, .int .i64 0, .int .i64 0]) (by simp [results, Tryd.results21, go_sem, c0, f0, l0]) rfl ⟨by rw [HV.out], (by (repeat (with_reducible refine Below.setCell ?_ (by simp) _)); exact HX.out.bel)⟩
end Go.Proofs.YtmmocnejacflmaaDoor
