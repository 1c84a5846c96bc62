import Derived.Test.YtfgfjodajjfbaaaDoorWi
import Derived.Test.YtfgfjodajjfbaaaDoorPlB
namespace Go.Proofs.YtfgfjodajjfbaaaDoor
open Go.RowKit
set_option linter.unusedVariables false

set_option maxRecDepth 100000 in
set_option maxHeartbeats 400000 in
/-- words.isLetter. -/
theorem isLetter_any (r : Int) (w : World) : Calls Tryd.prog 114 #[.int .i32 r] w fun e w' => e = .returned (.bool (ltr r)) ∧ w' = w := by
  go_enter Tryd.func114, Tryd.ntmps114
  go_wp2
  all_goals
    go_ret
    exact ⟨ret_bool (by rw [Bool.eq_iff_iff]; simp_all [ltr]; try omega), rfl⟩

set_option maxRecDepth 100000 in
set_option maxHeartbeats 400000 in
/-- atlasref01.letter. -/
theorem letter_any (r : Int) (w : World) : Calls Tryd.prog 61 #[.int .i64 r] w fun e w' => e = .returned (.bool (ltr r)) ∧ w' = w := by
  go_enter Tryd.func61, Tryd.ntmps61
  go_wp2
  all_goals
    go_ret
    exact ⟨ret_bool (by rw [Bool.eq_iff_iff]; simp_all [ltr]; try omega), rfl⟩

set_option maxRecDepth 100000 in
set_option maxHeartbeats 400000 in
/-- atlasref01.digit. -/
theorem digit_any (r : Int) (w : World) : Calls Tryd.prog 62 #[.int .i64 r] w fun e w' => e = .returned (.bool (dgt r)) ∧ w' = w := by
  go_enter Tryd.func62, Tryd.ntmps62
  go_wp2
  all_goals
    go_ret
    exact ⟨ret_bool (by rw [Bool.eq_iff_iff]; simp_all [dgt]; try omega), rfl⟩

set_option maxRecDepth 100000 in
set_option maxHeartbeats 400000 in
/-- words.inName. -/
theorem inName_any (r : Int) (f : Bool) (w : World) : Calls Tryd.prog 113 #[.int .i32 r, .bool f] w fun e w' => e = .returned (.bool (inN r f)) ∧ w' = w := by
  cases hl : ltr r
  all_goals
    have HL : Hid (_ = _) := hl
    clear hl
    go_enter Tryd.func113, Tryd.ntmps113
    go_wp2_with (go_at_call 114; refine (isLetter_any _ _).mono ?_; rintro e w' ⟨rfl, rfl⟩; rw [HL.out])
    all_goals
      go_ret
      exact ⟨ret_bool (by have hl := HL.out; clear HL; unfold inN dgt; rw [hl]; simp_all; try omega), rfl⟩

set_option maxRecDepth 100000 in
set_option maxHeartbeats 400000 in
/-- words.Name. -/
theorem name_any (s : ByteArray) (w : World) (hs : s.size ≤ 4611686018427387904) :
    Calls Tryd.prog 112 #[.string s] w fun e w' => e = .returned (.bool (nameB s)) ∧ Below w.heap.size w w' := by
  go_enter Tryd.func112, Tryd.ntmps112
  go_wp2
  go_loopw [3, 5] (fun n _ w' => ∃ (pos b acc : Nat), w' = w.iter s pos ∧ n = .int .i64 acc ∧ nameFrom s b pos acc = nameB s ∧ s.size ≤ pos + b ∧ acc ≤ 16) (fun _ _ w' => s.size - w'.iterPos w.heap.size)
  case atStart => exact ⟨0, s.size, 0, rfl, rfl, rfl, by omega, by omega⟩
  case round =>
    obtain ⟨pos, b, acc, rfl, rfl, hc, hb, ha⟩ := hrel
    have HC : Hid (_ = _) := hc
    clear hc
    by_cases hp : pos < s.size
    · have hnx : ∀ ty, (Instr.next (.pointer (some ⟨w.heap.size, 0, none⟩)) true ty).run Tryd.prog (w.iter s pos) = _ := fun ty => run_next_any w s pos ty hp
      have hwd := Lib.decode_width_pos s pos hp
      cases hx : inN ((Utf8.decode s pos).1 : Int) ((acc : Int) == 0)
      · have HX : Hid (_ = _) := hx
        clear hx
        go_wp2_with (go_at_call 113; refine (inName_any _ _ _).mono ?_; rintro e w' ⟨rfl, rfl⟩; rw [HX.out])
        go_ret
        exact ⟨ret_bool (by rw [← HC.out, nameFrom_no hp hb HX.out]), (Below.refl _ _).alloc (Nat.le_refl _) _⟩
      · have HX : Hid (_ = _) := hx
        clear hx
        by_cases h16 : acc < 16
        · go_wp2_with (go_at_call 113; refine (inName_any _ _ _).mono ?_; rintro e w' ⟨rfl, rfl⟩; rw [HX.out])
          go_roundw
          case rel =>
            obtain ⟨g, rfl, hg⟩ := nameFrom_yes hp hb HX.out
            exact ⟨_, g, acc + 1, rfl, by go_num, by rw [← hg]; exact HC.out, by omega, by omega⟩
          case measure =>
            simp
            omega
        · go_wp2_with (go_at_call 113; refine (inName_any _ _ _).mono ?_; rintro e w' ⟨rfl, rfl⟩; rw [HX.out])
          go_ret
          obtain ⟨g, rfl, hg⟩ := nameFrom_yes hp hb HX.out
          exact ⟨ret_bool (by rw [← HC.out, hg, nameFrom_big _ _ _ _ (by omega)]), (Below.refl _ _).alloc (Nat.le_refl _) _⟩
    · have hnx : ∀ ty, (Instr.next (.pointer (some ⟨w.heap.size, 0, none⟩)) true ty).run Tryd.prog (w.iter s pos) = _ := fun ty => run_next_end w s pos ty hp
      go_wp2
      go_ret
      exact ⟨ret_bool (by rw [← HC.out, nameFrom_end _ _ _ _ hp, Bool.eq_iff_iff]; simp; omega), (Below.refl _ _).alloc (Nat.le_refl _) _⟩

set_option maxRecDepth 100000 in
set_option maxHeartbeats 800000 in
/-- atlasref01.Name. -/
theorem refName_any (s : ByteArray) (w : World) (hs : s.size ≤ 4611686018427387904) :
    Calls Tryd.prog 50 #[.string s] w fun e w' => e = .returned (.bool (nameB s)) ∧ Below w.heap.size w w' := by
  go_enter Tryd.func50, Tryd.ntmps50
  go_wp2
  go_loopw [3, 4, 5, 6] (fun n i _ _ w' => ∃ (pos b acc : Nat), Below w.heap.size w w' ∧ n = .int .i64 acc ∧ i = .int .i64 pos ∧ nameFrom s b pos acc = nameB s ∧ s.size ≤ pos + b ∧ acc ≤ pos ∧ pos ≤ s.size) (fun _ i _ _ _ => s.size - (intOf i).toNat)
  case atStart => exact ⟨0, s.size, 0, Below.refl _ _, rfl, rfl, rfl, by omega, by omega, by omega⟩
  case round =>
    obtain ⟨pos, b, acc, hB, rfl, rfl, hc, hb, ha, hle⟩ := hrel
    have HC : Hid (_ = _) := hc
    clear hc
    by_cases hp : pos < s.size
    · have hd := rl_bd s pos
      have hin := rl_in s pos hp
      have HY : Hid (inN (rr s pos) ((acc : Int) == 0) = true → ∃ g, b = g + 1 ∧ nameFrom s b pos acc = nameFrom s g (pos + rl s pos) (acc + 1)) := fun hx => nameFrom_yes hp hb (by rw [← inN_rr]; exact hx)
      have HN : Hid (inN (rr s pos) ((acc : Int) == 0) = false → nameFrom s b pos acc = false) := fun hx => nameFrom_no hp hb (by rw [← inN_rr]; exact hx)
      have HR : Hid (∀ W, RuneSaid s pos W) := fun W => rune_any s pos W hp hs
      unfold RuneSaid at HR
      generalize rr s pos = r at HY HN HR
      cases hl : ltr r
      · have HL : Hid (_ = _) := hl
        clear hl
        by_cases hz : acc = 0
        · subst hz
          go_wp2_with (first | (go_at_call 31; refine (HR.out _).mono ?_; rintro e w' ⟨rfl, q, rfl⟩) | (go_at_call 61; refine (letter_any _ _).mono ?_; rintro e w' ⟨rfl, rfl⟩; rw [HL.out]))
          go_ret
          exact ⟨ret_bool (by rw [← HC.out, HN.out (by simp [inN, HL.out])]), below_drewN hB _⟩
        · have hz' : ((acc : Int) == 0) = false := by simp; omega
          cases hd : dgt r
          · have HD : Hid (_ = _) := hd
            clear hd
            by_cases h95 : r = 95
            · have h9 : (r != 95) = false := by simp [h95]
              have H95 : Hid (_ = _) := h95
              clear h95
              go_wp2_with (first | (go_at_call 31; refine (HR.out _).mono ?_; rintro e w' ⟨rfl, q, rfl⟩) | (go_at_call 61; refine (letter_any _ _).mono ?_; rintro e w' ⟨rfl, rfl⟩; rw [HL.out]) | (go_at_call 62; refine (digit_any _ _).mono ?_; rintro e w' ⟨rfl, rfl⟩; rw [HD.out]))
              go_roundw
              case rel =>
                obtain ⟨g, rfl, hg⟩ := HY.out (by rw [hz']; simp [inN, H95.out])
                exact ⟨_, g, acc + 1, below_drewN hB _, by go_num, by go_num, by rw [← hg]; exact HC.out, by omega, by omega, hin⟩
              case measure =>
                simp [intOf]
                omega
            · have h9 : (r != 95) = true := by simp [h95]
              go_wp2_with (first | (go_at_call 31; refine (HR.out _).mono ?_; rintro e w' ⟨rfl, q, rfl⟩) | (go_at_call 61; refine (letter_any _ _).mono ?_; rintro e w' ⟨rfl, rfl⟩; rw [HL.out]) | (go_at_call 62; refine (digit_any _ _).mono ?_; rintro e w' ⟨rfl, rfl⟩; rw [HD.out]))
              go_ret
              exact ⟨ret_bool (by rw [← HC.out, HN.out (by simp [inN, HL.out, HD.out, h95])]), below_drewN hB _⟩
          · have HD : Hid (_ = _) := hd
            clear hd
            go_wp2_with (first | (go_at_call 31; refine (HR.out _).mono ?_; rintro e w' ⟨rfl, q, rfl⟩) | (go_at_call 61; refine (letter_any _ _).mono ?_; rintro e w' ⟨rfl, rfl⟩; rw [HL.out]) | (go_at_call 62; refine (digit_any _ _).mono ?_; rintro e w' ⟨rfl, rfl⟩; rw [HD.out]))
            go_roundw
            case rel =>
              obtain ⟨g, rfl, hg⟩ := HY.out (by rw [hz']; simp [inN, HD.out])
              exact ⟨_, g, acc + 1, below_drewN hB _, by go_num, by go_num, by rw [← hg]; exact HC.out, by omega, by omega, hin⟩
            case measure =>
              simp [intOf]
              omega
      · have HL : Hid (_ = _) := hl
        clear hl
        go_wp2_with (first | (go_at_call 31; refine (HR.out _).mono ?_; rintro e w' ⟨rfl, q, rfl⟩) | (go_at_call 61; refine (letter_any _ _).mono ?_; rintro e w' ⟨rfl, rfl⟩; rw [HL.out]))
        go_roundw
        case rel =>
          obtain ⟨g, rfl, hg⟩ := HY.out (by simp [inN, HL.out])
          exact ⟨_, g, acc + 1, below_drewN hB _, by go_num, by go_num, by rw [← hg]; exact HC.out, by omega, by omega, hin⟩
        case measure =>
          simp [intOf]
          omega
    · by_cases h1 : 1 ≤ acc
      all_goals
        go_wp2
        go_ret
        exact ⟨ret_bool (by rw [← HC.out, nameFrom_end _ _ _ _ hp, Bool.eq_iff_iff]; simp; omega), hB⟩

end Go.Proofs.YtfgfjodajjfbaaaDoor
