import Derived.Test.YtaahbklganhfkabDoorHexB
import Derived.Test.YtaahbklganhfkabDoorTxD
import Derived.RegionTactic
namespace Go.Proofs.YtaahbklganhfkabDoor
open Go.RowKit
set_option linter.unusedVariables false

theorem ret_int {k : IntKind} {a b : Int} (h : a = b) : Ending.returned (.int k a) = .returned (.int k b) := by rw [h]

theorem ret_ints {k l : IntKind} {a b c d : Int} (h : a = b) (g : c = d) : Ending.returned (.tuple #[.int k a, .int l c]) = .returned (.tuple #[.int k b, .int l d]) := by rw [h, g]

set_option maxRecDepth 100000 in
set_option maxHeartbeats 400000 in
/-- words.Width: the runes of a text. -/
theorem width_any (s : ByteArray) (w : World) (hs : s.size ≤ 4611686018427387904) :
    Calls Tryd.prog 11 #[.string s] w fun e w' => e = .returned (.int .i64 (Lib.runeCount s)) ∧ Below w.heap.size w w' := by
  go_enter Tryd.func11, Tryd.ntmps11
  go_wp2
  go_loopw [3] (fun n w' => ∃ (pos b acc : Nat), w' = w.iter s pos ∧ n = .int .i64 acc ∧ acc + Lib.runeCountFrom s b pos = Lib.runeCount s ∧ s.size ≤ pos + b ∧ acc ≤ pos) (fun _ w' => s.size - w'.iterPos w.heap.size)
  case atStart => exact ⟨0, s.size, 0, rfl, rfl, by simp [Lib.runeCount], by omega, Nat.le_refl _⟩
  case round =>
    obtain ⟨pos, b, acc, rfl, rfl, hc, hb, ha⟩ := hrel
    by_cases hp : pos < s.size
    · have hnx : ∀ ty, (Instr.next (.pointer (some ⟨w.heap.size, 0, none⟩)) true ty).run Tryd.prog (w.iter s pos) = _ := fun ty => run_next_any w s pos ty hp
      have hwd := Lib.decode_width_pos s pos hp
      go_wp2
      go_roundw
      case rel =>
        cases b with
        | zero => omega
        | succ b =>
          refine ⟨pos + (Utf8.decode s pos).2, b, acc + 1, rfl, by go_num, ?_, by omega, by omega⟩
          rw [← hc]
          simp [Lib.runeCountFrom, hp]
          omega
      case measure =>
        simp
        omega
    · have hnx : ∀ ty, (Instr.next (.pointer (some ⟨w.heap.size, 0, none⟩)) true ty).run Tryd.prog (w.iter s pos) = _ := fun ty => run_next_end w s pos ty hp
      go_wp2
      go_ret
      rw [Lib.runeCountFrom_end s b pos hp, Nat.add_zero] at hc
      subst hc
      exact ⟨rfl, (Below.refl _ _).alloc (Nat.le_refl _) _⟩

set_option maxRecDepth 100000 in
set_option maxHeartbeats 400000 in
/-- words.isLetter. -/
theorem isLetter_any (r : Int) (w : World) : Calls Tryd.prog 26 #[.int .i32 r] w fun e w' => e = .returned (.bool (ltr r)) ∧ w' = w := by
  go_enter Tryd.func26, Tryd.ntmps26
  go_wp2
  all_goals
    go_ret
    exact ⟨ret_bool (by rw [Bool.eq_iff_iff]; simp_all [ltr]; try omega), rfl⟩

set_option maxRecDepth 100000 in
set_option maxHeartbeats 400000 in
/-- words.inName. -/
theorem inName_any (r : Int) (f : Bool) (w : World) : Calls Tryd.prog 18 #[.int .i32 r, .bool f] w fun e w' => e = .returned (.bool (inN r f)) ∧ w' = w := by
  cases hl : ltr r
  all_goals
    have HL : Hid (_ = _) := hl
    clear hl
    go_enter Tryd.func18, Tryd.ntmps18
    go_wp2_with (go_at_call 26; refine (isLetter_any _ _).mono ?_; rintro e w' ⟨rfl, rfl⟩; rw [HL.out])
    all_goals
      go_ret
      exact ⟨ret_bool (by have hl := HL.out; clear HL; unfold inN dgt; rw [hl]; simp_all; try omega), rfl⟩

set_option maxRecDepth 100000 in
set_option maxHeartbeats 400000 in
/-- words.Name. -/
theorem name_any (s : ByteArray) (w : World) (hs : s.size ≤ 4611686018427387904) :
    Calls Tryd.prog 12 #[.string s] w fun e w' => e = .returned (.bool (nameB s)) ∧ Below w.heap.size w w' := by
  go_enter Tryd.func12, Tryd.ntmps12
  go_wp2
  go_loopw [3, 5] (fun n _ w' => ∃ (pos b acc : Nat), w' = w.iter s pos ∧ n = .int .i64 acc ∧ nameFrom s b pos acc = nameB s ∧ s.size ≤ pos + b ∧ acc ≤ 16) (fun _ _ w' => s.size - w'.iterPos w.heap.size)
  case atStart => exact ⟨0, s.size, 0, rfl, rfl, rfl, by omega, by omega⟩
  case round =>
    obtain ⟨pos, b, acc, rfl, rfl, hc, hb, ha⟩ := hrel
    have HC : Hid (_ = _) := hc
    clear hc
    by_cases hp : pos < s.size
    · have hnx : ∀ ty, (Instr.next (.pointer (some ⟨w.heap.size, 0, none⟩)) true ty).run Tryd.prog (w.iter s pos) = _ := fun ty => run_next_any w s pos ty hp
      have hwd := Lib.decode_width_pos s pos hp
      cases hx : inN ((Utf8.decode s pos).1 : Int) ((acc : Int) == 0)
      · have HX : Hid (_ = _) := hx
        clear hx
        go_wp2_with (go_at_call 18; refine (inName_any _ _ _).mono ?_; rintro e w' ⟨rfl, rfl⟩; rw [HX.out])
        go_ret
        exact ⟨ret_bool (by rw [← HC.out, nameFrom_no hp hb HX.out]), (Below.refl _ _).alloc (Nat.le_refl _) _⟩
      · have HX : Hid (_ = _) := hx
        clear hx
        by_cases h16 : acc < 16
        · go_wp2_with (go_at_call 18; refine (inName_any _ _ _).mono ?_; rintro e w' ⟨rfl, rfl⟩; rw [HX.out])
          go_roundw
          case rel =>
            obtain ⟨g, rfl, hg⟩ := nameFrom_yes hp hb HX.out
            exact ⟨_, g, acc + 1, rfl, by go_num, by rw [← hg]; exact HC.out, by omega, by omega⟩
          case measure =>
            simp
            omega
        · go_wp2_with (go_at_call 18; refine (inName_any _ _ _).mono ?_; rintro e w' ⟨rfl, rfl⟩; rw [HX.out])
          go_ret
          obtain ⟨g, rfl, hg⟩ := nameFrom_yes hp hb HX.out
          exact ⟨ret_bool (by rw [← HC.out, hg, nameFrom_big _ _ _ _ (by omega)]), (Below.refl _ _).alloc (Nat.le_refl _) _⟩
    · have hnx : ∀ ty, (Instr.next (.pointer (some ⟨w.heap.size, 0, none⟩)) true ty).run Tryd.prog (w.iter s pos) = _ := fun ty => run_next_end w s pos ty hp
      go_wp2
      go_ret
      exact ⟨ret_bool (by rw [← HC.out, nameFrom_end _ _ _ _ hp, Bool.eq_iff_iff]; simp; omega), (Below.refl _ _).alloc (Nat.le_refl _) _⟩

set_option maxRecDepth 100000 in
set_option maxHeartbeats 400000 in
/-- words.digitValue. -/
theorem digitValue_any (r : Int) (w : World) (h0 : -2147483648 ≤ r) (h1 : r ≤ 2147483647) : Calls Tryd.prog 20 #[.int .i32 r] w fun e w' => e = .returned (.int .u64 (dg r)) ∧ w' = w := by
  go_enter Tryd.func20, Tryd.ntmps20
  go_wp2
  all_goals
    go_ret
    exact ⟨ret_int (by unfold dg; (repeat' split) <;> omega), rfl⟩

theorem ret_num {o : Option Int} {a b : Int} (h : a = numV o) (g : b = numE o) : Ending.returned (.tuple #[.int .u64 a, .int .i64 b]) = .returned (.tuple #[.int .u64 (numV o), .int .i64 (numE o)]) := by rw [h, g]

set_option maxRecDepth 100000 in
set_option maxHeartbeats 1000000 in
/-- words.readDigits, base 10. -/
theorem readDigits_10 (s : ByteArray) (w : World) (hs : s.size ≤ 4611686018427387904) :
    Calls Tryd.prog 14 #[.string s, .int .u64 10] w fun e w' => e = .returned (.tuple #[.int .u64 (numV (numB s 10)), .int .i64 (numE (numB s 10))]) ∧ Below w.heap.size w w' := by
  go_enter Tryd.func14, Tryd.ntmps14
  go_wp2
  go_loopw [6, 7, 9, 10] (fun x y _ _ w' => ∃ (pos f : Nat) (v : Int) (b : Bool), w' = w.iter s pos ∧ x = .int .u64 v ∧ y = .bool b ∧ numFrom s 10 f pos v b = numB s 10 ∧ s.size ≤ pos + f ∧ 0 ≤ v ∧ v < 1099511627776) (fun _ _ _ _ w' => s.size - w'.iterPos w.heap.size)
  case atStart => exact ⟨0, s.size, 0, false, rfl, rfl, rfl, rfl, by omega, by omega, by omega⟩
  case round =>
    obtain ⟨pos, f, v, b, rfl, rfl, rfl, hc, hf, hv0, hv1⟩ := hrel
    have HC : Hid (_ = _) := hc
    clear hc
    by_cases hp : pos < s.size
    · by_cases ha : bt s pos < 128
      · have hbt := bt_get s pos hp
        have hnx : ∀ ty, (Instr.next (.pointer (some ⟨w.heap.size, 0, none⟩)) true ty).run Tryd.prog (w.iter s pos) = _ := fun ty => run_next_ascii w s pos ty hp (by rw [hbt]; exact ha)
        simp only [hbt] at hnx
        clear hbt
        have hdb := dg_bd (bt s pos)
        by_cases h95 : bt s pos = 95
        · have h9 : ((bt s pos : Int) == 95) = true := by simp; omega
          have H95 : Hid (_ = _) := h95
          clear h95
          cases b
          · have hbig : ¬ dg (bt s pos) < 16 := by rw [H95.out]; decide
            go_wp2_with (go_at_call 20; refine (digitValue_any _ _ (by omega) (by omega)).mono ?_; rintro e w' ⟨rfl, rfl⟩)
            go_ret2
            have hn := numFrom_bad (v := v) (base := 10) (b := false) hp hf (by simp) (by omega)
            exact ⟨ret_num (by rw [← HC.out, hn]; rfl) (by rw [← HC.out, hn]; rfl), (Below.refl _ _).alloc (Nat.le_refl _) _⟩
          · go_wp2_with (go_at_call 20; refine (digitValue_any _ _ (by omega) (by omega)).mono ?_; rintro e w' ⟨rfl, rfl⟩)
            go_roundw
            case rel =>
              obtain ⟨g, rfl, hg⟩ := numFrom_under (v := v) (base := 10) hp hf H95.out
              exact ⟨_, g, v, false, rfl, rfl, rfl, by rw [← hg]; exact HC.out, by omega, hv0, hv1⟩
            case measure =>
              simp
              omega
        · have h9 : ((bt s pos : Int) == 95) = false := by simp; omega
          by_cases hd : 10 ≤ dg (bt s pos)
          · have hn := numFrom_bad (v := v) (base := 10) (b := b) hp hf (fun x => h95 x.1) hd
            have HN : Hid (_ = _) := hn
            clear hn
            go_wp2_with (go_at_call 20; refine (digitValue_any _ _ (by omega) (by omega)).mono ?_; rintro e w' ⟨rfl, rfl⟩)
            go_ret2
            exact ⟨ret_num (by rw [← HC.out, HN.out]; rfl) (by rw [← HC.out, HN.out]; rfl), (Below.refl _ _).alloc (Nat.le_refl _) _⟩
          · by_cases hv : 1099511627776 ≤ v * 10 + dg (bt s pos)
            · have hn := numFrom_big (v := v) (base := 10) (b := b) hp hf h95 hd hv
              have HN : Hid (_ = _) := hn
              clear hn
              go_wp2_with (go_at_call 20; refine (digitValue_any _ _ (by omega) (by omega)).mono ?_; rintro e w' ⟨rfl, rfl⟩)
              go_ret2
              exact ⟨ret_num (by rw [← HC.out, HN.out]; rfl) (by rw [← HC.out, HN.out]; rfl), (Below.refl _ _).alloc (Nat.le_refl _) _⟩
            · go_wp2_with (go_at_call 20; refine (digitValue_any _ _ (by omega) (by omega)).mono ?_; rintro e w' ⟨rfl, rfl⟩)
              go_roundw
              case rel =>
                obtain ⟨g, rfl, hg⟩ := numFrom_step (v := v) (base := 10) (b := b) hp hf h95 (by omega) (by omega)
                exact ⟨_, g, _, true, rfl, rfl, rfl, by rw [← hg]; exact HC.out, by omega, by omega, by omega⟩
              case measure =>
                simp
                omega
      · have hbt := bt_get s pos hp
        have hnx : ∀ ty, (Instr.next (.pointer (some ⟨w.heap.size, 0, none⟩)) true ty).run Tryd.prog (w.iter s pos) = _ := fun ty => run_next_any w s pos ty hp
        have hhi := (decode_high s pos hp (by rw [hbt]; omega)).1
        have hle := decode_le s pos
        have hn := numFrom_bad (v := v) (base := 10) (b := b) hp hf (by omega) (by rw [dg_high (by omega)]; decide)
        have HN : Hid (_ = _) := hn
        clear hn hbt
        have h9 : (((Utf8.decode s pos).1 : Int) == 95) = false := by simp; omega
        have hd16 : ¬ dg ((Utf8.decode s pos).1 : Int) < 16 := by rw [dg_high (by omega)]; decide
        have hdb := dg_bd ((Utf8.decode s pos).1 : Int)
        go_wp2_with (go_at_call 20; refine (digitValue_any _ _ (by omega) (by omega)).mono ?_; rintro e w' ⟨rfl, rfl⟩)
        go_ret2
        exact ⟨ret_num (by rw [← HC.out, HN.out]; rfl) (by rw [← HC.out, HN.out]; rfl), (Below.refl _ _).alloc (Nat.le_refl _) _⟩
    · have hnx : ∀ ty, (Instr.next (.pointer (some ⟨w.heap.size, 0, none⟩)) true ty).run Tryd.prog (w.iter s pos) = _ := fun ty => run_next_end w s pos ty hp
      have hn := numFrom_end s 10 f pos v b hp
      have HN : Hid (_ = _) := hn
      clear hn
      cases b
      all_goals
        go_wp2
        go_ret2
        exact ⟨ret_num (by rw [← HC.out, HN.out]; rfl) (by rw [← HC.out, HN.out]; rfl), (Below.refl _ _).alloc (Nat.le_refl _) _⟩

set_option maxRecDepth 100000 in
set_option maxHeartbeats 1000000 in
/-- words.readDigits, base 16. -/
theorem readDigits_16 (s : ByteArray) (w : World) (hs : s.size ≤ 4611686018427387904) :
    Calls Tryd.prog 14 #[.string s, .int .u64 16] w fun e w' => e = .returned (.tuple #[.int .u64 (numV (numB s 16)), .int .i64 (numE (numB s 16))]) ∧ Below w.heap.size w w' := by
  go_enter Tryd.func14, Tryd.ntmps14
  go_wp2
  go_loopw [6, 7, 9, 10] (fun x y _ _ w' => ∃ (pos f : Nat) (v : Int) (b : Bool), w' = w.iter s pos ∧ x = .int .u64 v ∧ y = .bool b ∧ numFrom s 16 f pos v b = numB s 16 ∧ s.size ≤ pos + f ∧ 0 ≤ v ∧ v < 1099511627776) (fun _ _ _ _ w' => s.size - w'.iterPos w.heap.size)
  case atStart => exact ⟨0, s.size, 0, false, rfl, rfl, rfl, rfl, by omega, by omega, by omega⟩
  case round =>
    obtain ⟨pos, f, v, b, rfl, rfl, rfl, hc, hf, hv0, hv1⟩ := hrel
    have HC : Hid (_ = _) := hc
    clear hc
    by_cases hp : pos < s.size
    · by_cases ha : bt s pos < 128
      · have hbt := bt_get s pos hp
        have hnx : ∀ ty, (Instr.next (.pointer (some ⟨w.heap.size, 0, none⟩)) true ty).run Tryd.prog (w.iter s pos) = _ := fun ty => run_next_ascii w s pos ty hp (by rw [hbt]; exact ha)
        simp only [hbt] at hnx
        clear hbt
        have hdb := dg_bd (bt s pos)
        by_cases h95 : bt s pos = 95
        · have h9 : ((bt s pos : Int) == 95) = true := by simp; omega
          have H95 : Hid (_ = _) := h95
          clear h95
          cases b
          · have hbig : ¬ dg (bt s pos) < 16 := by rw [H95.out]; decide
            go_wp2_with (go_at_call 20; refine (digitValue_any _ _ (by omega) (by omega)).mono ?_; rintro e w' ⟨rfl, rfl⟩)
            go_ret2
            have hn := numFrom_bad (v := v) (base := 16) (b := false) hp hf (by simp) (by omega)
            exact ⟨ret_num (by rw [← HC.out, hn]; rfl) (by rw [← HC.out, hn]; rfl), (Below.refl _ _).alloc (Nat.le_refl _) _⟩
          · go_wp2_with (go_at_call 20; refine (digitValue_any _ _ (by omega) (by omega)).mono ?_; rintro e w' ⟨rfl, rfl⟩)
            go_roundw
            case rel =>
              obtain ⟨g, rfl, hg⟩ := numFrom_under (v := v) (base := 16) hp hf H95.out
              exact ⟨_, g, v, false, rfl, rfl, rfl, by rw [← hg]; exact HC.out, by omega, hv0, hv1⟩
            case measure =>
              simp
              omega
        · have h9 : ((bt s pos : Int) == 95) = false := by simp; omega
          by_cases hd : 16 ≤ dg (bt s pos)
          · have hn := numFrom_bad (v := v) (base := 16) (b := b) hp hf (fun x => h95 x.1) hd
            have HN : Hid (_ = _) := hn
            clear hn
            go_wp2_with (go_at_call 20; refine (digitValue_any _ _ (by omega) (by omega)).mono ?_; rintro e w' ⟨rfl, rfl⟩)
            go_ret2
            exact ⟨ret_num (by rw [← HC.out, HN.out]; rfl) (by rw [← HC.out, HN.out]; rfl), (Below.refl _ _).alloc (Nat.le_refl _) _⟩
          · by_cases hv : 1099511627776 ≤ v * 16 + dg (bt s pos)
            · have hn := numFrom_big (v := v) (base := 16) (b := b) hp hf h95 hd hv
              have HN : Hid (_ = _) := hn
              clear hn
              go_wp2_with (go_at_call 20; refine (digitValue_any _ _ (by omega) (by omega)).mono ?_; rintro e w' ⟨rfl, rfl⟩)
              go_ret2
              exact ⟨ret_num (by rw [← HC.out, HN.out]; rfl) (by rw [← HC.out, HN.out]; rfl), (Below.refl _ _).alloc (Nat.le_refl _) _⟩
            · go_wp2_with (go_at_call 20; refine (digitValue_any _ _ (by omega) (by omega)).mono ?_; rintro e w' ⟨rfl, rfl⟩)
              go_roundw
              case rel =>
                obtain ⟨g, rfl, hg⟩ := numFrom_step (v := v) (base := 16) (b := b) hp hf h95 (by omega) (by omega)
                exact ⟨_, g, _, true, rfl, rfl, rfl, by rw [← hg]; exact HC.out, by omega, by omega, by omega⟩
              case measure =>
                simp
                omega
      · have hbt := bt_get s pos hp
        have hnx : ∀ ty, (Instr.next (.pointer (some ⟨w.heap.size, 0, none⟩)) true ty).run Tryd.prog (w.iter s pos) = _ := fun ty => run_next_any w s pos ty hp
        have hhi := (decode_high s pos hp (by rw [hbt]; omega)).1
        have hle := decode_le s pos
        have hn := numFrom_bad (v := v) (base := 16) (b := b) hp hf (by omega) (by rw [dg_high (by omega)]; decide)
        have HN : Hid (_ = _) := hn
        clear hn hbt
        have h9 : (((Utf8.decode s pos).1 : Int) == 95) = false := by simp; omega
        have hd16 : ¬ dg ((Utf8.decode s pos).1 : Int) < 16 := by rw [dg_high (by omega)]; decide
        have hdb := dg_bd ((Utf8.decode s pos).1 : Int)
        go_wp2_with (go_at_call 20; refine (digitValue_any _ _ (by omega) (by omega)).mono ?_; rintro e w' ⟨rfl, rfl⟩)
        go_ret2
        exact ⟨ret_num (by rw [← HC.out, HN.out]; rfl) (by rw [← HC.out, HN.out]; rfl), (Below.refl _ _).alloc (Nat.le_refl _) _⟩
    · have hnx : ∀ ty, (Instr.next (.pointer (some ⟨w.heap.size, 0, none⟩)) true ty).run Tryd.prog (w.iter s pos) = _ := fun ty => run_next_end w s pos ty hp
      have hn := numFrom_end s 16 f pos v b hp
      have HN : Hid (_ = _) := hn
      clear hn
      cases b
      all_goals
        go_wp2
        go_ret2
        exact ⟨ret_num (by rw [← HC.out, HN.out]; rfl) (by rw [← HC.out, HN.out]; rfl), (Below.refl _ _).alloc (Nat.le_refl _) _⟩

set_option maxRecDepth 100000 in
set_option maxHeartbeats 400000 in
/-- words.Number. -/
theorem number_any (s : ByteArray) (w : World) (hs : s.size ≤ 4611686018427387904) :
    Calls Tryd.prog 8 #[.string s] w fun e w' => e = .returned (.tuple #[.int .u64 (numV (numAll s)), .int .i64 (numE (numAll s))]) ∧ Below w.heap.size w w' := by
  by_cases h2 : 2 ≤ s.size
  · have hq := pre_eq s h2
    by_cases hx : bt s 0 = 48 ∧ bt s 1 = 120
    · have hy : ((s.extract 0 2).toList == [48, 120]) = true := by rw [hq]; simpa using hx
      have ha : numAll s = numB (s.extract 2 s.size) 16 := by unfold numAll is0x; rw [if_pos (by simp; exact ⟨h2, hx⟩)]
      rw [ha]
      clear hq hx ha
      have hsz : (s.extract 2 s.size).size ≤ 4611686018427387904 := by simp; omega
      go_enter Tryd.func8, Tryd.ntmps8
      go_wp2_with (first | (go_at_call 14; refine (readDigits_16 _ _ hsz).mono ?_; rintro e w' ⟨rfl, hb⟩) | go_in)
      go_ret2
      exact ⟨rfl, hb⟩
    · have hy : ((s.extract 0 2).toList == [48, 120]) = false := by rw [hq]; simpa using hx
      have ha : numAll s = numB s 10 := by unfold numAll is0x; rw [if_neg (by simp; intro _ a; exact fun b => hx ⟨a, b⟩)]
      rw [ha]
      clear hq hx ha
      go_enter Tryd.func8, Tryd.ntmps8
      go_wp2_with (first | (go_at_call 14; refine (readDigits_10 _ _ hs).mono ?_; rintro e w' ⟨rfl, hb⟩) | go_in)
      go_ret2
      exact ⟨rfl, hb⟩
  · have ha : numAll s = numB s 10 := by unfold numAll is0x; rw [if_neg (by simp; omega)]
    rw [ha]
    clear ha
    have hd : decide ((2 : Int) ≤ (s.size : Int)) = false := by simp; omega
    go_enter Tryd.func8, Tryd.ntmps8
    go_wp2_with (first | (go_at_call 14; refine (readDigits_10 _ _ hs).mono ?_; rintro e w' ⟨rfl, hb⟩) | go_in)
    go_ret2
    exact ⟨rfl, hb⟩

end Go.Proofs.YtaahbklganhfkabDoor
