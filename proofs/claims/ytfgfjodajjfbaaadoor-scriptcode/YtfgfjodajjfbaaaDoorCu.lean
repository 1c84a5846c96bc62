import Derived.Test.YtfgfjodajjfbaaaDoorWa
import Derived.WalkSmall
import Derived.Lib.OthersKept
import Derived.RegionTactic
namespace Go.Proofs.YtfgfjodajjfbaaaDoor
open Go.RowKit
set_option linter.unusedVariables false

set_option maxRecDepth 100000 in
set_option maxHeartbeats 400000 in
/-- internal/stringslite.IndexByte. -/
theorem indexByte_any (s : ByteArray) (c : Int) (w : World) :
    Calls Tryd.prog 66 #[.string s, .int .u8 c] w fun e w' => e = .returned (.int .i64 (Lib.indexByte s.data.toList c.toNat.toUInt8)) ∧ w' = w := by
  go_enter Tryd.func66, Tryd.ntmps66
  go_wp2
  rw [run_callFunc_extern Tryd.func73 (by kernel_rfl) (by kernel_rfl) (by kernel_rfl) (e := Extern.BytealgIndexByte.indexByte) (by kernel_rfl), Lib.run_indexByteString]
  simp only [Result.andThen]
  rw [Oper.upon_value]
  go_wp2
  go_ret
  exact ⟨rfl, rfl⟩

set_option maxRecDepth 100000 in
set_option maxHeartbeats 2000000 in
/-- internal/stringslite.Index at one #. -/
theorem index_any (s : ByteArray) (w : World) :
    Calls Tryd.prog 58 #[.string s, .string ⟨#[35]⟩] w fun e w' => e = .returned (.int .i64 (Lib.indexByte s.data.toList 35)) ∧ w' = w := by
  go_enter Tryd.func58, Tryd.ntmps58
  go_wp2_with (go_at_call 66; refine (indexByte_any _ _ _).mono ?_; rintro e w' ⟨rfl, rfl⟩)
  · have h : ([35] == s.toList) = true := by assumption
    go_ret
    refine ⟨?_, rfl⟩
    have e : s.data.toList = [35] := by rw [← Lib.toList_data]; exact (beq_iff_eq.1 h).symm
    rw [e]
    simp [Lib.indexByte]
  · go_ret
    exact ⟨rfl, rfl⟩

set_option maxRecDepth 100000 in
set_option maxHeartbeats 2000000 in
/-- internal/stringslite.Cut at one #. -/
theorem cutIn_any (s : ByteArray) (w : World) (hs : s.size ≤ 4611686018427387904) :
    Calls Tryd.prog 40 #[.string s, .string ⟨#[35]⟩] w fun e w' => ∃ a b, e = .returned (.tuple #[.string (ahead s), .string a, .bool b]) ∧ ∃ q, w' = w.drewN q := by
  by_cases h : Lib.indexByte s.data.toList 35 = -1
  · have HI : Hid (_ = _) := h
    rw [ahead_miss s h]
    clear h
    go_enter Tryd.func40, Tryd.ntmps40
    go_wp2_with (go_at_call 58; refine (index_any _ _).mono ?_; rintro e w' ⟨rfl, rfl⟩; rw [HI.out])
    go_ret3
    exact ⟨_, _, rfl, 0, rfl⟩
  · have hge := Lib.indexByte_ge s.data.toList 35
    obtain ⟨i, hi⟩ : ∃ i : Nat, Lib.indexByte s.data.toList 35 = i := ⟨(Lib.indexByte s.data.toList 35).toNat, by omega⟩
    obtain ⟨ha, hlt⟩ := ahead_hit s i hi
    have HI : Hid (_ = _) := hi
    rw [ha]
    clear h hge hi ha
    have c1 : (0 : Int) ≤ (i : Int) := by omega
    have c2 : (i : Int) ≤ (s.size : Int) := by omega
    have c3 : (0 : Int) ≤ (i : Int) + 1 := by omega
    have c4 : (i : Int) + 1 ≤ (s.size : Int) := by omega
    go_enter Tryd.func40, Tryd.ntmps40
    go_wp2_with (go_at_call 58; refine (index_any _ _).mono ?_; rintro e w' ⟨rfl, rfl⟩; rw [HI.out])
    go_quiet (fail)
    go_wp2
    go_ret3
    exact ⟨_, _, rfl, _, rfl⟩

set_option maxRecDepth 100000 in
set_option maxHeartbeats 2000000 in
/-- strings.Cut at one #. -/
theorem cut_any (s : ByteArray) (w : World) (hs : s.size ≤ 4611686018427387904) :
    Calls Tryd.prog 25 #[.string s, .string ⟨#[35]⟩] w fun e w' => ∃ a b, e = .returned (.tuple #[.string (ahead s), .string a, .bool b]) ∧ ∃ q, w' = w.drewN q := by
  go_enter Tryd.func25, Tryd.ntmps25
  go_wp2_with (go_at_call 40; refine (cutIn_any _ _ hs).mono ?_; rintro e w' ⟨a, b, rfl, q, rfl⟩)
  go_ret3
  exact ⟨_, _, rfl, _, rfl⟩

set_option maxRecDepth 100000 in
set_option maxHeartbeats 400000 in
/-- words.isBlank. -/
theorem isBlank_any (r : Int) (w : World) : Calls Tryd.prog 26 #[.int .i32 r] w fun e w' => e = .returned (.bool (blk r)) ∧ w = w' := by
  go_enter Tryd.func26, Tryd.ntmps26
  go_wp2
  all_goals
    go_ret
    exact ⟨ret_bool (by rw [Bool.eq_iff_iff]; simp_all [blk]), rfl⟩

set_option maxRecDepth 100000 in
set_option maxHeartbeats 400000 in
/-- atlasref01.Blank. -/
theorem blank_any (r : Int) (w : World) : Calls Tryd.prog 32 #[.int .i64 r] w fun e w' => e = .returned (.bool (blk r)) ∧ w = w' := by
  go_enter Tryd.func32, Tryd.ntmps32
  go_wp2
  all_goals
    go_ret
    exact ⟨ret_bool (by rw [Bool.eq_iff_iff]; simp_all [blk]), rfl⟩
end Go.Proofs.YtfgfjodajjfbaaaDoor
