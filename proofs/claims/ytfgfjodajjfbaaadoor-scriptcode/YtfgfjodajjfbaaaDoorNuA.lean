import Derived.Test.YtfgfjodajjfbaaaDoorNa
import Derived.Test.YtfgfjodajjfbaaaDoorPlC
namespace Go.Proofs.YtfgfjodajjfbaaaDoor
open Go.RowKit
set_option linter.unusedVariables false

set_option maxRecDepth 100000 in
set_option maxHeartbeats 400000 in
/-- words.digitValue. -/
theorem digitValue_any (r : Int) (w : World) (h0 : -2147483648 ≤ r) (h1 : r ≤ 2147483647) : Calls Tryd.prog 127 #[.int .i32 r] w fun e w' => e = .returned (.int .u64 (dg r)) ∧ w' = w := by
  go_enter Tryd.func127, Tryd.ntmps127
  go_wp2
  all_goals
    go_ret
    exact ⟨ret_int (by unfold dg; (repeat' split) <;> omega), rfl⟩

set_option maxRecDepth 100000 in
set_option maxHeartbeats 400000 in
/-- atlasref01.worth. -/
theorem worth_any (c base : Int) (w : World) (h0 : 0 ≤ c) (h1 : c < 256) (hb : base = 10 ∨ base = 16) : Calls Tryd.prog 72 #[.int .u8 c, .int .i64 base] w fun e w' => e = .returned (.int .i64 (wo c base)) ∧ w' = w := by
  rcases hb with rfl | rfl
  all_goals
    go_enter Tryd.func72, Tryd.ntmps72
    go_wp2
    all_goals
      go_ret
      exact ⟨ret_int (by unfold wo dg; (repeat' split) <;> omega), rfl⟩

theorem ret_num {o : Option Int} {a b : Int} (h : a = numV o) (g : b = numE o) : Ending.returned (.tuple #[.int .u64 a, .int .i64 b]) = .returned (.tuple #[.int .u64 (numV o), .int .i64 (numE o)]) := by rw [h, g]

set_option maxRecDepth 100000 in
set_option maxHeartbeats 1000000 in
/-- words.readDigits, base 10. -/
theorem readDigits_10 (s : ByteArray) (w : World) (hs : s.size ≤ 4611686018427387904) :
    Calls Tryd.prog 124 #[.string s, .int .u64 10] w fun e w' => e = .returned (.tuple #[.int .u64 (numV (numB s 10)), .int .i64 (numE (numB s 10))]) ∧ Below w.heap.size w w' := by
  go_enter Tryd.func124, Tryd.ntmps124
  go_wp2
  go_loopw [6, 7, 9, 10] (fun x y _ _ w' => ∃ (pos f : Nat) (v : Int) (b : Bool), w' = w.iter s pos ∧ x = .int .u64 v ∧ y = .bool b ∧ numFrom s 10 f pos v b = numB s 10 ∧ s.size ≤ pos + f ∧ 0 ≤ v ∧ v < 1099511627776) (fun _ _ _ _ w' => s.size - w'.iterPos w.heap.size)
  case atStart => exact ⟨0, s.size, 0, false, rfl, rfl, rfl, rfl, by omega, by omega, by omega⟩
  case round =>
    obtain ⟨pos, f, v, b, rfl, rfl, rfl, hc, hf, hv0, hv1⟩ := hrel
    have HC : Hid (_ = _) := hc
    clear hc
    by_cases hp : pos < s.size
    · by_cases ha : bt s pos < 128
      · have hbt := bt_get s pos hp
        have hnx : ∀ ty, (Instr.next (.pointer (some ⟨w.heap.size, 0, none⟩)) true ty).run Tryd.prog (w.iter s pos) = _ := fun ty => run_next_ascii w s pos ty hp (by rw [hbt]; exact ha)
        simp only [hbt] at hnx
        clear hbt
        have hdb := dg_bd (bt s pos)
        by_cases h95 : bt s pos = 95
        · have h9 : ((bt s pos : Int) == 95) = true := by simp; omega
          have H95 : Hid (_ = _) := h95
          clear h95
          cases b
          · have hbig : ¬ dg (bt s pos) < 16 := by rw [H95.out]; decide
            go_wp2_with (go_at_call 127; refine (digitValue_any _ _ (by omega) (by omega)).mono ?_; rintro e w' ⟨rfl, rfl⟩)
            go_ret2
            have hn := numFrom_bad (v := v) (base := 10) (b := false) hp hf (by simp) (by omega)
            exact ⟨ret_num (by rw [← HC.out, hn]; rfl) (by rw [← HC.out, hn]; rfl), (Below.refl _ _).alloc (Nat.le_refl _) _⟩
          · go_wp2_with (go_at_call 127; refine (digitValue_any _ _ (by omega) (by omega)).mono ?_; rintro e w' ⟨rfl, rfl⟩)
            go_roundw
            case rel =>
              obtain ⟨g, rfl, hg⟩ := numFrom_under (v := v) (base := 10) hp hf H95.out
              exact ⟨_, g, v, false, rfl, rfl, rfl, by rw [← hg]; exact HC.out, by omega, hv0, hv1⟩
            case measure =>
              simp
              omega
        · have h9 : ((bt s pos : Int) == 95) = false := by simp; omega
          by_cases hd : 10 ≤ dg (bt s pos)
          · have hn := numFrom_bad (v := v) (base := 10) (b := b) hp hf (fun x => h95 x.1) hd
            have HN : Hid (_ = _) := hn
            clear hn
            go_wp2_with (go_at_call 127; refine (digitValue_any _ _ (by omega) (by omega)).mono ?_; rintro e w' ⟨rfl, rfl⟩)
            go_ret2
            exact ⟨ret_num (by rw [← HC.out, HN.out]; rfl) (by rw [← HC.out, HN.out]; rfl), (Below.refl _ _).alloc (Nat.le_refl _) _⟩
          · by_cases hv : 1099511627776 ≤ v * 10 + dg (bt s pos)
            · have hn := numFrom_big (v := v) (base := 10) (b := b) hp hf h95 hd hv
              have HN : Hid (_ = _) := hn
              clear hn
              go_wp2_with (go_at_call 127; refine (digitValue_any _ _ (by omega) (by omega)).mono ?_; rintro e w' ⟨rfl, rfl⟩)
              go_ret2
              exact ⟨ret_num (by rw [← HC.out, HN.out]; rfl) (by rw [← HC.out, HN.out]; rfl), (Below.refl _ _).alloc (Nat.le_refl _) _⟩
            · go_wp2_with (go_at_call 127; refine (digitValue_any _ _ (by omega) (by omega)).mono ?_; rintro e w' ⟨rfl, rfl⟩)
              go_roundw
              case rel =>
                obtain ⟨g, rfl, hg⟩ := numFrom_step (v := v) (base := 10) (b := b) hp hf h95 (by omega) (by omega)
                exact ⟨_, g, _, true, rfl, rfl, rfl, by rw [← hg]; exact HC.out, by omega, by omega, by omega⟩
              case measure =>
                simp
                omega
      · have hbt := bt_get s pos hp
        have hnx : ∀ ty, (Instr.next (.pointer (some ⟨w.heap.size, 0, none⟩)) true ty).run Tryd.prog (w.iter s pos) = _ := fun ty => run_next_any w s pos ty hp
        have hhi := (decode_high s pos hp (by rw [hbt]; omega)).1
        have hle := decode_le s pos
        have hn := numFrom_bad (v := v) (base := 10) (b := b) hp hf (by omega) (by rw [dg_high (by omega)]; decide)
        have HN : Hid (_ = _) := hn
        clear hn hbt
        have h9 : (((Utf8.decode s pos).1 : Int) == 95) = false := by simp; omega
        have hd16 : ¬ dg ((Utf8.decode s pos).1 : Int) < 16 := by rw [dg_high (by omega)]; decide
        have hdb := dg_bd ((Utf8.decode s pos).1 : Int)
        go_wp2_with (go_at_call 127; refine (digitValue_any _ _ (by omega) (by omega)).mono ?_; rintro e w' ⟨rfl, rfl⟩)
        go_ret2
        exact ⟨ret_num (by rw [← HC.out, HN.out]; rfl) (by rw [← HC.out, HN.out]; rfl), (Below.refl _ _).alloc (Nat.le_refl _) _⟩
    · have hnx : ∀ ty, (Instr.next (.pointer (some ⟨w.heap.size, 0, none⟩)) true ty).run Tryd.prog (w.iter s pos) = _ := fun ty => run_next_end w s pos ty hp
      have hn := numFrom_end s 10 f pos v b hp
      have HN : Hid (_ = _) := hn
      clear hn
      cases b
      all_goals
        go_wp2
        go_ret2
        exact ⟨ret_num (by rw [← HC.out, HN.out]; rfl) (by rw [← HC.out, HN.out]; rfl), (Below.refl _ _).alloc (Nat.le_refl _) _⟩

set_option maxRecDepth 100000 in
set_option maxHeartbeats 1000000 in
/-- words.readDigits, base 16. -/
theorem readDigits_16 (s : ByteArray) (w : World) (hs : s.size ≤ 4611686018427387904) :
    Calls Tryd.prog 124 #[.string s, .int .u64 16] w fun e w' => e = .returned (.tuple #[.int .u64 (numV (numB s 16)), .int .i64 (numE (numB s 16))]) ∧ Below w.heap.size w w' := by
  go_enter Tryd.func124, Tryd.ntmps124
  go_wp2
  go_loopw [6, 7, 9, 10] (fun x y _ _ w' => ∃ (pos f : Nat) (v : Int) (b : Bool), w' = w.iter s pos ∧ x = .int .u64 v ∧ y = .bool b ∧ numFrom s 16 f pos v b = numB s 16 ∧ s.size ≤ pos + f ∧ 0 ≤ v ∧ v < 1099511627776) (fun _ _ _ _ w' => s.size - w'.iterPos w.heap.size)
  case atStart => exact ⟨0, s.size, 0, false, rfl, rfl, rfl, rfl, by omega, by omega, by omega⟩
  case round =>
    obtain ⟨pos, f, v, b, rfl, rfl, rfl, hc, hf, hv0, hv1⟩ := hrel
    have HC : Hid (_ = _) := hc
    clear hc
    by_cases hp : pos < s.size
    · by_cases ha : bt s pos < 128
      · have hbt := bt_get s pos hp
        have hnx : ∀ ty, (Instr.next (.pointer (some ⟨w.heap.size, 0, none⟩)) true ty).run Tryd.prog (w.iter s pos) = _ := fun ty => run_next_ascii w s pos ty hp (by rw [hbt]; exact ha)
        simp only [hbt] at hnx
        clear hbt
        have hdb := dg_bd (bt s pos)
        by_cases h95 : bt s pos = 95
        · have h9 : ((bt s pos : Int) == 95) = true := by simp; omega
          have H95 : Hid (_ = _) := h95
          clear h95
          cases b
          · have hbig : ¬ dg (bt s pos) < 16 := by rw [H95.out]; decide
            go_wp2_with (go_at_call 127; refine (digitValue_any _ _ (by omega) (by omega)).mono ?_; rintro e w' ⟨rfl, rfl⟩)
            go_ret2
            have hn := numFrom_bad (v := v) (base := 16) (b := false) hp hf (by simp) (by omega)
            exact ⟨ret_num (by rw [← HC.out, hn]; rfl) (by rw [← HC.out, hn]; rfl), (Below.refl _ _).alloc (Nat.le_refl _) _⟩
          · go_wp2_with (go_at_call 127; refine (digitValue_any _ _ (by omega) (by omega)).mono ?_; rintro e w' ⟨rfl, rfl⟩)
            go_roundw
            case rel =>
              obtain ⟨g, rfl, hg⟩ := numFrom_under (v := v) (base := 16) hp hf H95.out
              exact ⟨_, g, v, false, rfl, rfl, rfl, by rw [← hg]; exact HC.out, by omega, hv0, hv1⟩
            case measure =>
              simp
              omega
        · have h9 : ((bt s pos : Int) == 95) = false := by simp; omega
          by_cases hd : 16 ≤ dg (bt s pos)
          · have hn := numFrom_bad (v := v) (base := 16) (b := b) hp hf (fun x => h95 x.1) hd
            have HN : Hid (_ = _) := hn
            clear hn
            go_wp2_with (go_at_call 127; refine (digitValue_any _ _ (by omega) (by omega)).mono ?_; rintro e w' ⟨rfl, rfl⟩)
            go_ret2
            exact ⟨ret_num (by rw [← HC.out, HN.out]; rfl) (by rw [← HC.out, HN.out]; rfl), (Below.refl _ _).alloc (Nat.le_refl _) _⟩
          · by_cases hv : 1099511627776 ≤ v * 16 + dg (bt s pos)
            · have hn := numFrom_big (v := v) (base := 16) (b := b) hp hf h95 hd hv
              have HN : Hid (_ = _) := hn
              clear hn
              go_wp2_with (go_at_call 127; refine (digitValue_any _ _ (by omega) (by omega)).mono ?_; rintro e w' ⟨rfl, rfl⟩)
              go_ret2
              exact ⟨ret_num (by rw [← HC.out, HN.out]; rfl) (by rw [← HC.out, HN.out]; rfl), (Below.refl _ _).alloc (Nat.le_refl _) _⟩
            · go_wp2_with (go_at_call 127; refine (digitValue_any _ _ (by omega) (by omega)).mono ?_; rintro e w' ⟨rfl, rfl⟩)
              go_roundw
              case rel =>
                obtain ⟨g, rfl, hg⟩ := numFrom_step (v := v) (base := 16) (b := b) hp hf h95 (by omega) (by omega)
                exact ⟨_, g, _, true, rfl, rfl, rfl, by rw [← hg]; exact HC.out, by omega, by omega, by omega⟩
              case measure =>
                simp
                omega
      · have hbt := bt_get s pos hp
        have hnx : ∀ ty, (Instr.next (.pointer (some ⟨w.heap.size, 0, none⟩)) true ty).run Tryd.prog (w.iter s pos) = _ := fun ty => run_next_any w s pos ty hp
        have hhi := (decode_high s pos hp (by rw [hbt]; omega)).1
        have hle := decode_le s pos
        have hn := numFrom_bad (v := v) (base := 16) (b := b) hp hf (by omega) (by rw [dg_high (by omega)]; decide)
        have HN : Hid (_ = _) := hn
        clear hn hbt
        have h9 : (((Utf8.decode s pos).1 : Int) == 95) = false := by simp; omega
        have hd16 : ¬ dg ((Utf8.decode s pos).1 : Int) < 16 := by rw [dg_high (by omega)]; decide
        have hdb := dg_bd ((Utf8.decode s pos).1 : Int)
        go_wp2_with (go_at_call 127; refine (digitValue_any _ _ (by omega) (by omega)).mono ?_; rintro e w' ⟨rfl, rfl⟩)
        go_ret2
        exact ⟨ret_num (by rw [← HC.out, HN.out]; rfl) (by rw [← HC.out, HN.out]; rfl), (Below.refl _ _).alloc (Nat.le_refl _) _⟩
    · have hnx : ∀ ty, (Instr.next (.pointer (some ⟨w.heap.size, 0, none⟩)) true ty).run Tryd.prog (w.iter s pos) = _ := fun ty => run_next_end w s pos ty hp
      have hn := numFrom_end s 16 f pos v b hp
      have HN : Hid (_ = _) := hn
      clear hn
      cases b
      all_goals
        go_wp2
        go_ret2
        exact ⟨ret_num (by rw [← HC.out, HN.out]; rfl) (by rw [← HC.out, HN.out]; rfl), (Below.refl _ _).alloc (Nat.le_refl _) _⟩

end Go.Proofs.YtfgfjodajjfbaaaDoor
