import Derived.Test.YtfgfjodajjfbaaaDoorSi
import Derived.Laws.RangeAny
import Derived.Lib.Strings
import Derived.Lib.IndexBytes
namespace Go.Proofs.YtfgfjodajjfbaaaDoor
open Go.RowKit
set_option linter.unusedVariables false

set_option maxRecDepth 100000 in
set_option maxHeartbeats 1600000 in
/-- words.readRight. -/
theorem readRight_any (b l : Int) (w : World) : Calls Tryd.prog 148 #[.int .u8 b, .int .u8 l] w fun e w' => e = .returned (.tuple #[.bool (b == l), .bool (b == l || b == 45)]) ∧ w = w' := by
  go_enter Tryd.func148, Tryd.ntmps148
  go_wp2
  all_goals
    go_ret2
    exact ⟨by simp_all, rfl⟩

set_option maxRecDepth 100000 in
set_option maxHeartbeats 1600000 in
theorem rights_t (s : ByteArray) (w : World) (h3 : s.size = 3) (gx gy gz : Bool) (GX : Hid (((bt s 0 : Int) == 114) = gx)) (GY : Hid (((bt s 1 : Int) == 119) = gy)) (GZ : Hid (((bt s 2 : Int) == 120) = gz))
    (OX : Hid ((gx || ((bt s 0 : Int) == 45)) = true)) (OY : Hid ((gy || ((bt s 1 : Int) == 45)) = true)) (OZ : Hid ((gz || ((bt s 2 : Int) == 45)) = true)) :
    Calls Tryd.prog 146 #[.string s] w fun e w' => e = .returned (.tuple #[.agg #[.bool gx, .bool gy, .bool gz], .int .i64 0]) ∧ Below w.heap.size w w' := by
  have b0 := bt_get s 0 (by omega)
  have b1 := bt_get s 1 (by omega)
  have b2 := bt_get s 2 (by omega)
  go_enter Tryd.func146, Tryd.ntmps146
  go_wp2_with fail
  refine (readRight_any _ _ _).mono ?_
  rintro e w2 ⟨rfl, rfl⟩
  rw [GX.out, OX.out]
  go_wp2_with fail
  refine (readRight_any _ _ _).mono ?_
  rintro e w2 ⟨rfl, rfl⟩
  rw [GY.out, OY.out]
  go_wp2_with fail
  refine (readRight_any _ _ _).mono ?_
  rintro e w2 ⟨rfl, rfl⟩
  rw [GZ.out, OZ.out]
  go_wp2
  exact bodyPost_ret (v := .tuple #[.agg #[.bool gx, .bool gy, .bool gz], .int .i64 0]) (by simp [results, Tryd.results146, go_sem]) rfl ⟨rfl, (Below.refl _ _).alloc (Nat.le_refl _) _⟩

set_option maxRecDepth 100000 in
set_option maxHeartbeats 1600000 in
theorem rights_n0 (s : ByteArray) (w : World) (h3 : s.size = 3) (gx gy gz : Bool) (GX : Hid (((bt s 0 : Int) == 114) = gx)) (GY : Hid (((bt s 1 : Int) == 119) = gy)) (GZ : Hid (((bt s 2 : Int) == 120) = gz))
    (OX : Hid ((gx || ((bt s 0 : Int) == 45)) = true)) (OY : Hid ((gy || ((bt s 1 : Int) == 45)) = true)) (OZ : Hid ((gz || ((bt s 2 : Int) == 45)) = false)) :
    Calls Tryd.prog 146 #[.string s] w fun e w' => e = .returned (.tuple #[.agg #[.bool false, .bool false, .bool false], .int .i64 12]) ∧ Below w.heap.size w w' := by
  have b0 := bt_get s 0 (by omega)
  have b1 := bt_get s 1 (by omega)
  have b2 := bt_get s 2 (by omega)
  go_enter Tryd.func146, Tryd.ntmps146
  go_wp2_with fail
  refine (readRight_any _ _ _).mono ?_
  rintro e w2 ⟨rfl, rfl⟩
  rw [GX.out, OX.out]
  go_wp2_with fail
  refine (readRight_any _ _ _).mono ?_
  rintro e w2 ⟨rfl, rfl⟩
  rw [GY.out, OY.out]
  go_wp2_with fail
  refine (readRight_any _ _ _).mono ?_
  rintro e w2 ⟨rfl, rfl⟩
  rw [GZ.out, OZ.out]
  go_wp2
  exact bodyPost_ret (v := .tuple #[.agg #[.bool false, .bool false, .bool false], .int .i64 12]) (by simp [results, Tryd.results146, go_sem]) rfl ⟨rfl, (Below.refl _ _).alloc (Nat.le_refl _) _⟩

set_option maxRecDepth 100000 in
set_option maxHeartbeats 1600000 in
theorem rights_n1 (s : ByteArray) (w : World) (h3 : s.size = 3) (gx gy gz : Bool) (GX : Hid (((bt s 0 : Int) == 114) = gx)) (GY : Hid (((bt s 1 : Int) == 119) = gy)) (GZ : Hid (((bt s 2 : Int) == 120) = gz))
    (OX : Hid ((gx || ((bt s 0 : Int) == 45)) = true)) (OY : Hid ((gy || ((bt s 1 : Int) == 45)) = false)) (OZ : Hid ((gz || ((bt s 2 : Int) == 45)) = true)) :
    Calls Tryd.prog 146 #[.string s] w fun e w' => e = .returned (.tuple #[.agg #[.bool false, .bool false, .bool false], .int .i64 12]) ∧ Below w.heap.size w w' := by
  have b0 := bt_get s 0 (by omega)
  have b1 := bt_get s 1 (by omega)
  have b2 := bt_get s 2 (by omega)
  go_enter Tryd.func146, Tryd.ntmps146
  go_wp2_with fail
  refine (readRight_any _ _ _).mono ?_
  rintro e w2 ⟨rfl, rfl⟩
  rw [GX.out, OX.out]
  go_wp2_with fail
  refine (readRight_any _ _ _).mono ?_
  rintro e w2 ⟨rfl, rfl⟩
  rw [GY.out, OY.out]
  go_wp2_with fail
  refine (readRight_any _ _ _).mono ?_
  rintro e w2 ⟨rfl, rfl⟩
  rw [GZ.out, OZ.out]
  go_wp2
  exact bodyPost_ret (v := .tuple #[.agg #[.bool false, .bool false, .bool false], .int .i64 12]) (by simp [results, Tryd.results146, go_sem]) rfl ⟨rfl, (Below.refl _ _).alloc (Nat.le_refl _) _⟩

set_option maxRecDepth 100000 in
set_option maxHeartbeats 1600000 in
theorem rights_n2 (s : ByteArray) (w : World) (h3 : s.size = 3) (gx gy gz : Bool) (GX : Hid (((bt s 0 : Int) == 114) = gx)) (GY : Hid (((bt s 1 : Int) == 119) = gy)) (GZ : Hid (((bt s 2 : Int) == 120) = gz))
    (OX : Hid ((gx || ((bt s 0 : Int) == 45)) = true)) (OY : Hid ((gy || ((bt s 1 : Int) == 45)) = false)) (OZ : Hid ((gz || ((bt s 2 : Int) == 45)) = false)) :
    Calls Tryd.prog 146 #[.string s] w fun e w' => e = .returned (.tuple #[.agg #[.bool false, .bool false, .bool false], .int .i64 12]) ∧ Below w.heap.size w w' := by
  have b0 := bt_get s 0 (by omega)
  have b1 := bt_get s 1 (by omega)
  have b2 := bt_get s 2 (by omega)
  go_enter Tryd.func146, Tryd.ntmps146
  go_wp2_with fail
  refine (readRight_any _ _ _).mono ?_
  rintro e w2 ⟨rfl, rfl⟩
  rw [GX.out, OX.out]
  go_wp2_with fail
  refine (readRight_any _ _ _).mono ?_
  rintro e w2 ⟨rfl, rfl⟩
  rw [GY.out, OY.out]
  go_wp2_with fail
  refine (readRight_any _ _ _).mono ?_
  rintro e w2 ⟨rfl, rfl⟩
  rw [GZ.out, OZ.out]
  go_wp2
  exact bodyPost_ret (v := .tuple #[.agg #[.bool false, .bool false, .bool false], .int .i64 12]) (by simp [results, Tryd.results146, go_sem]) rfl ⟨rfl, (Below.refl _ _).alloc (Nat.le_refl _) _⟩

set_option maxRecDepth 100000 in
set_option maxHeartbeats 1600000 in
theorem rights_n3 (s : ByteArray) (w : World) (h3 : s.size = 3) (gx gy gz : Bool) (GX : Hid (((bt s 0 : Int) == 114) = gx)) (GY : Hid (((bt s 1 : Int) == 119) = gy)) (GZ : Hid (((bt s 2 : Int) == 120) = gz))
    (OX : Hid ((gx || ((bt s 0 : Int) == 45)) = false)) (OY : Hid ((gy || ((bt s 1 : Int) == 45)) = true)) (OZ : Hid ((gz || ((bt s 2 : Int) == 45)) = true)) :
    Calls Tryd.prog 146 #[.string s] w fun e w' => e = .returned (.tuple #[.agg #[.bool false, .bool false, .bool false], .int .i64 12]) ∧ Below w.heap.size w w' := by
  have b0 := bt_get s 0 (by omega)
  have b1 := bt_get s 1 (by omega)
  have b2 := bt_get s 2 (by omega)
  go_enter Tryd.func146, Tryd.ntmps146
  go_wp2_with fail
  refine (readRight_any _ _ _).mono ?_
  rintro e w2 ⟨rfl, rfl⟩
  rw [GX.out, OX.out]
  go_wp2_with fail
  refine (readRight_any _ _ _).mono ?_
  rintro e w2 ⟨rfl, rfl⟩
  rw [GY.out, OY.out]
  go_wp2_with fail
  refine (readRight_any _ _ _).mono ?_
  rintro e w2 ⟨rfl, rfl⟩
  rw [GZ.out, OZ.out]
  go_wp2
  exact bodyPost_ret (v := .tuple #[.agg #[.bool false, .bool false, .bool false], .int .i64 12]) (by simp [results, Tryd.results146, go_sem]) rfl ⟨rfl, (Below.refl _ _).alloc (Nat.le_refl _) _⟩

set_option maxRecDepth 100000 in
set_option maxHeartbeats 1600000 in
theorem rights_n4 (s : ByteArray) (w : World) (h3 : s.size = 3) (gx gy gz : Bool) (GX : Hid (((bt s 0 : Int) == 114) = gx)) (GY : Hid (((bt s 1 : Int) == 119) = gy)) (GZ : Hid (((bt s 2 : Int) == 120) = gz))
    (OX : Hid ((gx || ((bt s 0 : Int) == 45)) = false)) (OY : Hid ((gy || ((bt s 1 : Int) == 45)) = true)) (OZ : Hid ((gz || ((bt s 2 : Int) == 45)) = false)) :
    Calls Tryd.prog 146 #[.string s] w fun e w' => e = .returned (.tuple #[.agg #[.bool false, .bool false, .bool false], .int .i64 12]) ∧ Below w.heap.size w w' := by
  have b0 := bt_get s 0 (by omega)
  have b1 := bt_get s 1 (by omega)
  have b2 := bt_get s 2 (by omega)
  go_enter Tryd.func146, Tryd.ntmps146
  go_wp2_with fail
  refine (readRight_any _ _ _).mono ?_
  rintro e w2 ⟨rfl, rfl⟩
  rw [GX.out, OX.out]
  go_wp2_with fail
  refine (readRight_any _ _ _).mono ?_
  rintro e w2 ⟨rfl, rfl⟩
  rw [GY.out, OY.out]
  go_wp2_with fail
  refine (readRight_any _ _ _).mono ?_
  rintro e w2 ⟨rfl, rfl⟩
  rw [GZ.out, OZ.out]
  go_wp2
  exact bodyPost_ret (v := .tuple #[.agg #[.bool false, .bool false, .bool false], .int .i64 12]) (by simp [results, Tryd.results146, go_sem]) rfl ⟨rfl, (Below.refl _ _).alloc (Nat.le_refl _) _⟩

set_option maxRecDepth 100000 in
set_option maxHeartbeats 1600000 in
theorem rights_n5 (s : ByteArray) (w : World) (h3 : s.size = 3) (gx gy gz : Bool) (GX : Hid (((bt s 0 : Int) == 114) = gx)) (GY : Hid (((bt s 1 : Int) == 119) = gy)) (GZ : Hid (((bt s 2 : Int) == 120) = gz))
    (OX : Hid ((gx || ((bt s 0 : Int) == 45)) = false)) (OY : Hid ((gy || ((bt s 1 : Int) == 45)) = false)) (OZ : Hid ((gz || ((bt s 2 : Int) == 45)) = true)) :
    Calls Tryd.prog 146 #[.string s] w fun e w' => e = .returned (.tuple #[.agg #[.bool false, .bool false, .bool false], .int .i64 12]) ∧ Below w.heap.size w w' := by
  have b0 := bt_get s 0 (by omega)
  have b1 := bt_get s 1 (by omega)
  have b2 := bt_get s 2 (by omega)
  go_enter Tryd.func146, Tryd.ntmps146
  go_wp2_with fail
  refine (readRight_any _ _ _).mono ?_
  rintro e w2 ⟨rfl, rfl⟩
  rw [GX.out, OX.out]
  go_wp2_with fail
  refine (readRight_any _ _ _).mono ?_
  rintro e w2 ⟨rfl, rfl⟩
  rw [GY.out, OY.out]
  go_wp2_with fail
  refine (readRight_any _ _ _).mono ?_
  rintro e w2 ⟨rfl, rfl⟩
  rw [GZ.out, OZ.out]
  go_wp2
  exact bodyPost_ret (v := .tuple #[.agg #[.bool false, .bool false, .bool false], .int .i64 12]) (by simp [results, Tryd.results146, go_sem]) rfl ⟨rfl, (Below.refl _ _).alloc (Nat.le_refl _) _⟩

set_option maxRecDepth 100000 in
set_option maxHeartbeats 1600000 in
theorem rights_n6 (s : ByteArray) (w : World) (h3 : s.size = 3) (gx gy gz : Bool) (GX : Hid (((bt s 0 : Int) == 114) = gx)) (GY : Hid (((bt s 1 : Int) == 119) = gy)) (GZ : Hid (((bt s 2 : Int) == 120) = gz))
    (OX : Hid ((gx || ((bt s 0 : Int) == 45)) = false)) (OY : Hid ((gy || ((bt s 1 : Int) == 45)) = false)) (OZ : Hid ((gz || ((bt s 2 : Int) == 45)) = false)) :
    Calls Tryd.prog 146 #[.string s] w fun e w' => e = .returned (.tuple #[.agg #[.bool false, .bool false, .bool false], .int .i64 12]) ∧ Below w.heap.size w w' := by
  have b0 := bt_get s 0 (by omega)
  have b1 := bt_get s 1 (by omega)
  have b2 := bt_get s 2 (by omega)
  go_enter Tryd.func146, Tryd.ntmps146
  go_wp2_with fail
  refine (readRight_any _ _ _).mono ?_
  rintro e w2 ⟨rfl, rfl⟩
  rw [GX.out, OX.out]
  go_wp2_with fail
  refine (readRight_any _ _ _).mono ?_
  rintro e w2 ⟨rfl, rfl⟩
  rw [GY.out, OY.out]
  go_wp2_with fail
  refine (readRight_any _ _ _).mono ?_
  rintro e w2 ⟨rfl, rfl⟩
  rw [GZ.out, OZ.out]
  go_wp2
  exact bodyPost_ret (v := .tuple #[.agg #[.bool false, .bool false, .bool false], .int .i64 12]) (by simp [results, Tryd.results146, go_sem]) rfl ⟨rfl, (Below.refl _ _).alloc (Nat.le_refl _) _⟩

set_option maxRecDepth 100000 in
set_option maxHeartbeats 1600000 in
theorem rights_short (s : ByteArray) (w : World) (h3 : ¬ s.size = 3) :
    Calls Tryd.prog 146 #[.string s] w fun e w' => e = .returned (.tuple #[.agg #[.bool false, .bool false, .bool false], .int .i64 12]) ∧ Below w.heap.size w w' := by
  have hne : ((s.size : Int) != 3) = true := by rw [bne_iff_ne]; omega
  go_enter Tryd.func146, Tryd.ntmps146
  go_wp2
  exact bodyPost_ret (v := .tuple #[.agg #[.bool false, .bool false, .bool false], .int .i64 12]) (by simp [results, Tryd.results146, go_sem]) rfl ⟨rfl, (Below.refl _ _).alloc (Nat.le_refl _) _⟩

theorem three (s : ByteArray) (h : s.size = 3) : s.data.toList = [s[0]'(by omega), s[1]'(by omega), s[2]'(by omega)] := by
  apply List.ext_getElem?
  intro i
  by_cases hi : i < 3
  · rcases (show i = 0 ∨ i = 1 ∨ i = 2 by omega) with rfl | rfl | rfl
    · rw [Lib.data_getElem? s 0 (by omega)]; rfl
    · rw [Lib.data_getElem? s 1 (by omega)]; rfl
    · rw [Lib.data_getElem? s 2 (by omega)]; rfl
  · have hl : s.data.toList.length = 3 := by rw [← Lib.size_eq]; exact h
    rw [List.getElem?_eq_none (by omega), List.getElem?_eq_none (by simp; omega)]

theorem u8_eq {a : UInt8} {n : Nat} (hn : n < 256) : a = UInt8.ofNat n ↔ a.toNat = n := by
  constructor
  · rintro rfl
    simp
    omega
  · intro h
    apply UInt8.toNat_inj.1
    rw [h]
    simp
    omega

theorem is_rtx (s : ByteArray) (a b c : Bool) (h3 : s.size = 3) (h0 : bt s 0 = if a then 114 else 45) (h1 : bt s 1 = if b then 119 else 45) (h2 : bt s 2 = if c then 120 else 45) : s = rtx a b c := by
  have hl := three s h3
  have e0 : s[0]'(by omega) = if a then 114 else 45 := by
    apply UInt8.toNat_inj.1
    rw [bt_get, h0]
    cases a <;> rfl
  have e1 : s[1]'(by omega) = if b then 119 else 45 := by
    apply UInt8.toNat_inj.1
    rw [bt_get, h1]
    cases b <;> rfl
  have e2 : s[2]'(by omega) = if c then 120 else 45 := by
    apply UInt8.toNat_inj.1
    rw [bt_get, h2]
    cases c <;> rfl
  rw [e0, e1, e2] at hl
  rw [← Lib.mk_data s, hl]
  rfl

/-- What words.Rights tells. -/
def RightsSaid (s : ByteArray) (a b c : Bool) (e : Int) : Prop := (s = rtx a b c ∧ e = 0) ∨ ((∀ a b c, s ≠ rtx a b c) ∧ a = false ∧ b = false ∧ c = false ∧ e = 12)

theorem said_one {s : ByteArray} {a b c a' b' c' : Bool} {e e' : Int} (h : RightsSaid s a b c e) (h' : RightsSaid s a' b' c' e') : a = a' ∧ b = b' ∧ c = c' ∧ e = e' := by
  rcases h with ⟨h1, h2⟩ | ⟨h1, rfl, rfl, rfl, rfl⟩
  · rcases h' with ⟨g1, g2⟩ | ⟨g1, _⟩
    · rw [h1] at g1
      have : ∀ a b c a' b' c' : Bool, rtx a b c = rtx a' b' c' → a = a' ∧ b = b' ∧ c = c' := by decide
      obtain ⟨x, y, z⟩ := this _ _ _ _ _ _ g1
      exact ⟨x, y, z, h2.trans g2.symm⟩
    · exact absurd h1 (g1 _ _ _)
  · rcases h' with ⟨g1, _⟩ | ⟨_, rfl, rfl, rfl, rfl⟩
    · exact absurd g1 (h1 _ _ _)
    · exact ⟨rfl, rfl, rfl, rfl⟩

theorem bt_rtx (a b c : Bool) : bt (rtx a b c) 0 = (if a then 114 else 45) ∧ bt (rtx a b c) 1 = (if b then 119 else 45) ∧ bt (rtx a b c) 2 = (if c then 120 else 45) := by
  revert a b c
  decide

/-- words.Rights. -/
theorem rights_any (s : ByteArray) (w : World) :
    Calls Tryd.prog 146 #[.string s] w fun e w' => ∃ a b c r, RightsSaid s a b c r ∧ e = .returned (.tuple #[.agg #[.bool a, .bool b, .bool c], .int .i64 r]) ∧ Below w.heap.size w w' := by
  by_cases h3 : s.size = 3
  · by_cases hall : (bt s 0 = 114 ∨ bt s 0 = 45) ∧ (bt s 1 = 119 ∨ bt s 1 = 45) ∧ (bt s 2 = 120 ∨ bt s 2 = 45)
    · obtain ⟨hx, hy, hz⟩ := hall
      have hs : s = rtx ((bt s 0 : Int) == 114) ((bt s 1 : Int) == 119) ((bt s 2 : Int) == 120) := by
        refine is_rtx s _ _ _ h3 ?_ ?_ ?_
        · rcases hx with h | h <;> rw [h] <;> rfl
        · rcases hy with h | h <;> rw [h] <;> rfl
        · rcases hz with h | h <;> rw [h] <;> rfl
      refine (rights_t s w h3 _ _ _ rfl rfl rfl ?_ ?_ ?_).mono fun e w' ⟨he, hb⟩ => ⟨_, _, _, _, .inl ⟨hs, rfl⟩, he, hb⟩
      · show _ = true
        rcases hx with h | h <;> rw [h] <;> rfl
      · show _ = true
        rcases hy with h | h <;> rw [h] <;> rfl
      · show _ = true
        rcases hz with h | h <;> rw [h] <;> rfl
    · have hno : ∀ a b c, s ≠ rtx a b c := by
        rintro a b c hs
        obtain ⟨k0, k1, k2⟩ := bt_rtx a b c
        rw [← hs] at k0 k1 k2
        refine hall ⟨?_, ?_, ?_⟩
        · cases a <;> simp at k0 <;> omega
        · cases b <;> simp at k1 <;> omega
        · cases c <;> simp at k2 <;> omega
      have hend : ∀ (e : Ending) (w' : World), (e = .returned (.tuple #[.agg #[.bool false, .bool false, .bool false], .int .i64 12]) ∧ Below w.heap.size w w') →
          ∃ a b c r, RightsSaid s a b c r ∧ e = .returned (.tuple #[.agg #[.bool a, .bool b, .bool c], .int .i64 r]) ∧ Below w.heap.size w w' :=
        fun e w' ⟨he, hb⟩ => ⟨false, false, false, 12, .inr ⟨hno, rfl, rfl, rfl, rfl⟩, he, hb⟩
      cases ox : (((bt s 0 : Int) == 114) || ((bt s 0 : Int) == 45)) <;> cases oy : (((bt s 1 : Int) == 119) || ((bt s 1 : Int) == 45)) <;> cases oz : (((bt s 2 : Int) == 120) || ((bt s 2 : Int) == 45))
      · exact (rights_n6 s w h3 _ _ _ rfl rfl rfl ox oy oz).mono hend
      · exact (rights_n5 s w h3 _ _ _ rfl rfl rfl ox oy oz).mono hend
      · exact (rights_n4 s w h3 _ _ _ rfl rfl rfl ox oy oz).mono hend
      · exact (rights_n3 s w h3 _ _ _ rfl rfl rfl ox oy oz).mono hend
      · exact (rights_n2 s w h3 _ _ _ rfl rfl rfl ox oy oz).mono hend
      · exact (rights_n1 s w h3 _ _ _ rfl rfl rfl ox oy oz).mono hend
      · exact (rights_n0 s w h3 _ _ _ rfl rfl rfl ox oy oz).mono hend
      · exfalso
        simp at ox oy oz
        omega
  · refine (rights_short s w h3).mono fun e w' ⟨he, hb⟩ => ⟨false, false, false, 12, .inr ⟨?_, rfl, rfl, rfl, rfl⟩, he, hb⟩
    rintro a b c hs
    rw [hs] at h3
    exact h3 rfl
end Go.Proofs.YtfgfjodajjfbaaaDoor
