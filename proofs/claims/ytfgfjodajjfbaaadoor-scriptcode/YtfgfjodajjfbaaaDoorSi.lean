import Derived.Test.YtfgfjodajjfbaaaDoorNa
import Derived.WalkKit
import Derived.ProofKit
import Derived.Outline
import Derived.Deep.QuietTactic
import Derived.BigQuiet
import Derived.LoopTactic
namespace Go.Proofs.YtfgfjodajjfbaaaDoor
open Go.RowKit
set_option linter.unusedVariables false

theorem ret_str {a b : ByteArray} (h : a = b) : Ending.returned (.string a) = .returned (.string b) := by rw [h]
/-- The word of a size. -/
def szT (n : Int) : ByteArray := if n = 1 then ⟨#[52, 107]⟩ else if n = 2 then ⟨#[54, 52, 107]⟩ else if n = 3 then ⟨#[49, 109]⟩ else if n = 4 then ⟨#[49, 54, 109]⟩ else ⟨#[]⟩
/-- The size of a word, and the error. -/
def szN (s : ByteArray) : Int := if s.toList = [52, 107] then 1 else if s.toList = [54, 52, 107] then 2 else if s.toList = [49, 109] then 3 else if s.toList = [49, 54, 109] then 4 else 0
def szE (s : ByteArray) : Int := if szN s = 0 then 12 else 0

/-- The table. -/
structure Tab (w : World) : Prop where
  c1 : w.cell? ⟨8, 1, none⟩ = some (.string ⟨#[52, 107]⟩)
  c2 : w.cell? ⟨8, 2, none⟩ = some (.string ⟨#[54, 52, 107]⟩)
  c3 : w.cell? ⟨8, 3, none⟩ = some (.string ⟨#[49, 109]⟩)
  c4 : w.cell? ⟨8, 4, none⟩ = some (.string ⟨#[49, 54, 109]⟩)

set_option maxRecDepth 100000 in
set_option maxHeartbeats 400000 in
/-- words.SizeText. -/
theorem sizeText_any (n : Int) (w : World) (ht : Tab w) : Calls Tryd.prog 143 #[.int .i64 n] w fun e w' => e = .returned (.string (szT n)) ∧ w = w' := by
  obtain ⟨c1, c2, c3, c4⟩ := ht
  by_cases h : n < 1 ∨ 4 < n
  · have hz : szT n = ⟨#[]⟩ := by unfold szT; rw [if_neg (by omega), if_neg (by omega), if_neg (by omega), if_neg (by omega)]
    rw [hz]
    clear hz
    rcases h with h | h
    all_goals
      go_enter Tryd.func143, Tryd.ntmps143
      go_wp2
      go_ret
      exact ⟨rfl, rfl⟩
  · rcases (show n = 1 ∨ n = 2 ∨ n = 3 ∨ n = 4 by omega) with rfl | rfl | rfl | rfl
    all_goals
      clear h
      go_enter Tryd.func143, Tryd.ntmps143
      go_wp2
      go_ret
      exact ⟨rfl, rfl⟩

set_option maxRecDepth 100000 in
set_option maxHeartbeats 400000 in
/-- atlasref01.SizeText. -/
theorem refSizeText_any (n : Int) (w : World) : Calls Tryd.prog 63 #[.int .i64 n] w fun e w' => e = .returned (.string (szT n)) ∧ w = w' := by
  go_enter Tryd.func63, Tryd.ntmps63
  go_wp2
  all_goals
    go_ret
    exact ⟨ret_str (by unfold szT; simp_all), rfl⟩

set_option maxRecDepth 100000 in
set_option maxHeartbeats 800000 in
/-- words.Size. -/
theorem size_any (s : ByteArray) (w : World) (ht : Tab w) : Calls Tryd.prog 142 #[.string s] w fun e w' => e = .returned (.tuple #[.int .i64 (szN s), .int .i64 (szE s)]) ∧ w = w' := by
  obtain ⟨c1, c2, c3, c4⟩ := ht
  go_enter Tryd.func142, Tryd.ntmps142
  go_wp2
  go_loop [4] (fun i => ∃ k : Nat, 1 ≤ k ∧ k ≤ 5 ∧ i = .int .i64 k ∧ Hid ((2 ≤ k → s.toList ≠ [52, 107]) ∧ (3 ≤ k → s.toList ≠ [54, 52, 107]) ∧ (4 ≤ k → s.toList ≠ [49, 109]) ∧ (5 ≤ k → s.toList ≠ [49, 54, 109]))) (fun i => 5 - (intOf i).toNat)
  case atStart => exact ⟨1, by omega, by omega, rfl, by unfold Hid; simp⟩
  case round =>
    obtain ⟨k, h1, h5, rfl, hh⟩ := hrel
    rcases (show k = 1 ∨ k = 2 ∨ k = 3 ∨ k = 4 ∨ k = 5 by omega) with rfl | rfl | rfl | rfl | rfl
    · cases hq : ([52, 107] == s.toList)
      · go_wp2
        go_round
        case rel => exact ⟨2, by omega, by omega, rfl, by
          have h' : s.toList ≠ [52, 107] := fun h => by rw [h] at hq; exact absurd hq (by decide)
          obtain ⟨a1, a2, a3, a4⟩ := hh.out
          exact ⟨fun _ => h', fun h => absurd h (by omega), fun h => absurd h (by omega), fun h => absurd h (by omega)⟩⟩
        case measure => simp [intOf]
      · go_wp2
        go_ret2
        have hs : s.toList = [52, 107] := (beq_iff_eq.1 hq).symm
        exact ⟨ret_ints (by simp [szN, hs]) (by simp [szE, szN, hs]), rfl⟩
    · cases hq : ([54, 52, 107] == s.toList)
      · go_wp2
        go_round
        case rel => exact ⟨3, by omega, by omega, rfl, by
          have h' : s.toList ≠ [54, 52, 107] := fun h => by rw [h] at hq; exact absurd hq (by decide)
          obtain ⟨a1, a2, a3, a4⟩ := hh.out
          exact ⟨fun _ => a1 (by omega), fun _ => h', fun h => absurd h (by omega), fun h => absurd h (by omega)⟩⟩
        case measure => simp [intOf]
      · go_wp2
        go_ret2
        have hs : s.toList = [54, 52, 107] := (beq_iff_eq.1 hq).symm
        exact ⟨ret_ints (by simp [szN, hs]) (by simp [szE, szN, hs]), rfl⟩
    · cases hq : ([49, 109] == s.toList)
      · go_wp2
        go_round
        case rel => exact ⟨4, by omega, by omega, rfl, by
          have h' : s.toList ≠ [49, 109] := fun h => by rw [h] at hq; exact absurd hq (by decide)
          obtain ⟨a1, a2, a3, a4⟩ := hh.out
          exact ⟨fun _ => a1 (by omega), fun _ => a2 (by omega), fun _ => h', fun h => absurd h (by omega)⟩⟩
        case measure => simp [intOf]
      · go_wp2
        go_ret2
        have hs : s.toList = [49, 109] := (beq_iff_eq.1 hq).symm
        exact ⟨ret_ints (by simp [szN, hs]) (by simp [szE, szN, hs]), rfl⟩
    · cases hq : ([49, 54, 109] == s.toList)
      · go_wp2
        go_round
        case rel => exact ⟨5, by omega, by omega, rfl, by
          have h' : s.toList ≠ [49, 54, 109] := fun h => by rw [h] at hq; exact absurd hq (by decide)
          obtain ⟨a1, a2, a3, a4⟩ := hh.out
          exact ⟨fun _ => a1 (by omega), fun _ => a2 (by omega), fun _ => a3 (by omega), fun _ => h'⟩⟩
        case measure => simp [intOf]
      · go_wp2
        go_ret2
        have hs : s.toList = [49, 54, 109] := (beq_iff_eq.1 hq).symm
        exact ⟨ret_ints (by simp [szN, hs]) (by simp [szE, szN, hs]), rfl⟩
    · have HN : Hid (szN s = 0) := by
        obtain ⟨a1, a2, a3, a4⟩ := hh.out
        show szN s = 0
        unfold szN
        rw [if_neg (a1 (by omega)), if_neg (a2 (by omega)), if_neg (a3 (by omega)), if_neg (a4 (by omega))]
      go_wp2
      go_ret2
      exact ⟨ret_ints HN.out.symm (by unfold szE; rw [HN.out]; rfl), rfl⟩

set_option maxRecDepth 100000 in
set_option maxHeartbeats 800000 in
/-- atlasref01.Size. -/
theorem refSize_any (s : ByteArray) (w : World) : Calls Tryd.prog 51 #[.string s] w fun e w' => e = .returned (.tuple #[.int .i64 (szN s), .int .i64 (szE s)]) ∧ w = w' := by
  go_enter Tryd.func51, Tryd.ntmps51
  go_wp2
  go_loopw [4] (fun i w' => ∃ k : Nat, 1 ≤ k ∧ k ≤ 5 ∧ i = .int .i64 k ∧ w = w' ∧ Hid ((2 ≤ k → s.toList ≠ [52, 107]) ∧ (3 ≤ k → s.toList ≠ [54, 52, 107]) ∧ (4 ≤ k → s.toList ≠ [49, 109]) ∧ (5 ≤ k → s.toList ≠ [49, 54, 109]))) (fun i _ => 5 - (intOf i).toNat)
  case atStart => exact ⟨1, by omega, by omega, rfl, rfl, by unfold Hid; simp⟩
  case round =>
    obtain ⟨k, h1, h5, rfl, rfl, hh⟩ := hrel
    rcases (show k = 1 ∨ k = 2 ∨ k = 3 ∨ k = 4 ∨ k = 5 by omega) with rfl | rfl | rfl | rfl | rfl
    · cases hq : ([52, 107] == s.toList)
      · go_wp2_with (go_at_call 63; refine (refSizeText_any _ _).mono ?_; rintro e w2 ⟨rfl, rfl⟩; rw [show szT 1 = ⟨#[52, 107]⟩ from by decide])
        go_roundw
        case rel => exact ⟨2, by omega, by omega, rfl, trivial, by
          have h' : s.toList ≠ [52, 107] := fun h => by rw [h] at hq; exact absurd hq (by decide)
          obtain ⟨a1, a2, a3, a4⟩ := hh.out
          exact ⟨fun _ => h', fun h => absurd h (by omega), fun h => absurd h (by omega), fun h => absurd h (by omega)⟩⟩
        case measure => simp [intOf]
      · go_wp2_with (go_at_call 63; refine (refSizeText_any _ _).mono ?_; rintro e w2 ⟨rfl, rfl⟩; rw [show szT 1 = ⟨#[52, 107]⟩ from by decide])
        go_ret2
        have hs : s.toList = [52, 107] := (beq_iff_eq.1 hq).symm
        exact ⟨ret_ints (by simp [szN, hs]) (by simp [szE, szN, hs]), rfl⟩
    · cases hq : ([54, 52, 107] == s.toList)
      · go_wp2_with (go_at_call 63; refine (refSizeText_any _ _).mono ?_; rintro e w2 ⟨rfl, rfl⟩; rw [show szT 2 = ⟨#[54, 52, 107]⟩ from by decide])
        go_roundw
        case rel => exact ⟨3, by omega, by omega, rfl, trivial, by
          have h' : s.toList ≠ [54, 52, 107] := fun h => by rw [h] at hq; exact absurd hq (by decide)
          obtain ⟨a1, a2, a3, a4⟩ := hh.out
          exact ⟨fun _ => a1 (by omega), fun _ => h', fun h => absurd h (by omega), fun h => absurd h (by omega)⟩⟩
        case measure => simp [intOf]
      · go_wp2_with (go_at_call 63; refine (refSizeText_any _ _).mono ?_; rintro e w2 ⟨rfl, rfl⟩; rw [show szT 2 = ⟨#[54, 52, 107]⟩ from by decide])
        go_ret2
        have hs : s.toList = [54, 52, 107] := (beq_iff_eq.1 hq).symm
        exact ⟨ret_ints (by simp [szN, hs]) (by simp [szE, szN, hs]), rfl⟩
    · cases hq : ([49, 109] == s.toList)
      · go_wp2_with (go_at_call 63; refine (refSizeText_any _ _).mono ?_; rintro e w2 ⟨rfl, rfl⟩; rw [show szT 3 = ⟨#[49, 109]⟩ from by decide])
        go_roundw
        case rel => exact ⟨4, by omega, by omega, rfl, trivial, by
          have h' : s.toList ≠ [49, 109] := fun h => by rw [h] at hq; exact absurd hq (by decide)
          obtain ⟨a1, a2, a3, a4⟩ := hh.out
          exact ⟨fun _ => a1 (by omega), fun _ => a2 (by omega), fun _ => h', fun h => absurd h (by omega)⟩⟩
        case measure => simp [intOf]
      · go_wp2_with (go_at_call 63; refine (refSizeText_any _ _).mono ?_; rintro e w2 ⟨rfl, rfl⟩; rw [show szT 3 = ⟨#[49, 109]⟩ from by decide])
        go_ret2
        have hs : s.toList = [49, 109] := (beq_iff_eq.1 hq).symm
        exact ⟨ret_ints (by simp [szN, hs]) (by simp [szE, szN, hs]), rfl⟩
    · cases hq : ([49, 54, 109] == s.toList)
      · go_wp2_with (go_at_call 63; refine (refSizeText_any _ _).mono ?_; rintro e w2 ⟨rfl, rfl⟩; rw [show szT 4 = ⟨#[49, 54, 109]⟩ from by decide])
        go_roundw
        case rel => exact ⟨5, by omega, by omega, rfl, trivial, by
          have h' : s.toList ≠ [49, 54, 109] := fun h => by rw [h] at hq; exact absurd hq (by decide)
          obtain ⟨a1, a2, a3, a4⟩ := hh.out
          exact ⟨fun _ => a1 (by omega), fun _ => a2 (by omega), fun _ => a3 (by omega), fun _ => h'⟩⟩
        case measure => simp [intOf]
      · go_wp2_with (go_at_call 63; refine (refSizeText_any _ _).mono ?_; rintro e w2 ⟨rfl, rfl⟩; rw [show szT 4 = ⟨#[49, 54, 109]⟩ from by decide])
        go_ret2
        have hs : s.toList = [49, 54, 109] := (beq_iff_eq.1 hq).symm
        exact ⟨ret_ints (by simp [szN, hs]) (by simp [szE, szN, hs]), rfl⟩
    · have HN : Hid (szN s = 0) := by
        obtain ⟨a1, a2, a3, a4⟩ := hh.out
        show szN s = 0
        unfold szN
        rw [if_neg (a1 (by omega)), if_neg (a2 (by omega)), if_neg (a3 (by omega)), if_neg (a4 (by omega))]
      go_wp2
      go_ret2
      exact ⟨ret_ints HN.out.symm (by unfold szE; rw [HN.out]; rfl), rfl⟩

/-- The text of rights. -/
def rtx (a b c : Bool) : ByteArray := ⟨#[if a then 114 else 45, if b then 119 else 45, if c then 120 else 45]⟩

set_option maxRecDepth 100000 in
set_option maxHeartbeats 800000 in
/-- atlasref01.RightsText. -/
theorem refText_any (a b c : Bool) (w : World) : Calls Tryd.prog 64 #[.agg #[.bool a, .bool b, .bool c]] w fun e w' => e = .returned (.string (rtx a b c)) ∧ Below w.heap.size w w' := by
  cases a <;> cases b <;> cases c
  all_goals
    go_enter Tryd.func64, Tryd.ntmps64
    go_wp2
    go_ret
    exact ⟨ret_str (by kernel_rfl), (Below.refl _ _).alloc (Nat.le_refl _) _⟩

set_option maxRecDepth 100000 in
set_option maxHeartbeats 400000 in
/-- words.rightText. -/
theorem right_any (a : Bool) (l : ByteArray) (w : World) : Calls Tryd.prog 149 #[.bool a, .string l] w fun e w' => e = .returned (.string (if a then l else ⟨#[45]⟩)) ∧ w' = w := by
  cases a
  all_goals
    go_enter Tryd.func149, Tryd.ntmps149
    go_wp2
    go_ret
    exact ⟨rfl, rfl⟩

set_option maxRecDepth 100000 in
set_option maxHeartbeats 800000 in
/-- words.RightsText. -/
theorem text_any (a b c : Bool) (w : World) : Calls Tryd.prog 147 #[.agg #[.bool a, .bool b, .bool c]] w fun e w' => e = .returned (.string (rtx a b c)) ∧ Below w.heap.size w w' := by
  cases a <;> cases b <;> cases c
  all_goals
    go_enter Tryd.func147, Tryd.ntmps147
    go_wp2_with fail
    go_quiet ((go_at_call 149; exact Calls.quiet_of_same (right_any _ _ _)))
    go_wp2
    go_ret
    exact ⟨ret_str (by kernel_rfl), below_drewN ((Below.refl _ _).alloc (Nat.le_refl _) _) _⟩
end Go.Proofs.YtfgfjodajjfbaaaDoor
