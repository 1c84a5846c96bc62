import Derived.Test.YtkmgmmmpiallhaaDoorRa
namespace Go.Proofs.YtkmgmmmpiallhaaDoor
open Go.RowKit
set_option linter.unusedVariables false
set_option linter.unusedSimpArgs false
set_option maxRecDepth 100000 in
theorem jnum_any (s : ByteArray) (l : List UInt8) (c : UInt8) (x : Nat) (w : World) (hp : Pat s l) (hc : c ≠ 32) (hx : x < 4294967296) :
    Calls Tryd.prog 59 #[.string s, .int .u8 (c.toNat : Int), .int .u32 x] w fun e w' => e = .returned (.int .i64 (fvP c x l : Nat)) ∧ w' = w := by
  have H : Hid (∀ w, Calls Tryd.prog 57 #[.string s, .int .u8 (c.toNat : Int), .int .u32 x] w fun e w' => e = .returned (.tuple #[.int .u32 (fvP c x l : Nat), .int .i64 (cnt c l : Nat)]) ∧ w' = w) := fun w => jfield_any s l c x w hp hc hx
  have hb : fvP c x l < 4294967296 := by
    have h1 := fvP_lt c x l
    have h2 := cnt_le c hc l
    have h3 : 2 ^ cnt c l ≤ 2 ^ 32 := Nat.pow_le_pow_right (by decide) (by have := hp.places; omega)
    have h4 : (2 : Nat) ^ 32 = 4294967296 := by decide
    omega
  clear hp hc hx
  generalize fvP c x l = V at *
  generalize cnt c l = M at *
  generalize c.toNat = C at *
  have hw : IntKind.i64.wrap (V : Int) = (V : Int) := by rw [IntKind.wrap_i64]; omega
  go_enter Tryd.func59, Tryd.ntmps59
  go_wp2_with (go_at_call 57; refine (H.out _).mono ?_; rintro e w' ⟨rfl, rfl⟩)
  exact bodyPost_ret (v := .int .i64 (V : Int)) (by simp [results, Tryd.results59, go_sem]) rfl ⟨rfl, rfl⟩
theorem bit_ne {b : Nat} (h : b < 2) : ((b : Int) == 0) = decide (b = 0) ∧ ((b : Int) == 1) = decide (b = 1) := by
  rcases (by omega : b = 0 ∨ b = 1) with rfl | rfl <;> decide
theorem fi_at (x : Nat) (y : UInt8) (t : List UInt8) : fiP x (y :: t) = (!(y == 48 && bN x (nb t) != 0 || y == 49 && bN x (nb t) != 1) && fiP x t) := rfl
set_option maxRecDepth 100000 in
set_option maxHeartbeats 1000000 in
theorem jfits_any (s : ByteArray) (l : List UInt8) (x : Nat) (w : World) (hp : Pat s l) (hx : x < 4294967296) :
    Calls Tryd.prog 50 #[.string s, .int .u32 x] w fun e w' => e = .returned (.bool (fiP x l)) ∧ w' = w := by
  have hsz := hp.size
  have hp : Hid _ := hp
  have hlen := hp.out.len
  have hpl : Hid _ := hp.out.places
  go_enter Tryd.func50, Tryd.ntmps50
  go_wp2
  go_loopw [5, 6] (fun a k wr => ∃ (j : Nat), j ≤ l.length ∧ a = .int .i64 (nb (l.drop j) : Int) ∧ k = .int .i64 (j : Int) ∧ fiP x (l.drop j) = fiP x l ∧ wr = w) (fun _ k _ => (l.length - intOf k).toNat)
  case atStart => exact ⟨0, by omega, by rw [List.drop_zero, hpl.out]; rfl, rfl, by simp, rfl⟩
  case round =>
    obtain ⟨j, h1, rfl, rfl, hv, rfl⟩ := hrel
    have hv : Hid _ := hv
    by_cases h : j < l.length
    · have hj1 : IntKind.i64.wrap ((j : Int) + 1) = ((j + 1 : Nat) : Int) := by rw [IntKind.wrap_i64]; omega
      have z1 : decide ((j : Int) < (l.length : Nat)) = true := decide_eq_true (by omega)
      have hg := hp.out.get h (by omega)
      have ed : Hid (l.drop j = l[j] :: l.drop (j + 1)) := drop_at h
      have hpl2 := hpl.out
      have hn := nb_drop l j
      by_cases hb : l[j] = 32
      · have e := ed.out
        have e1 : nb (l.drop j) = nb (l.drop (j + 1)) := by rw [e, hb]; simp [nb]
        have e2 : Hid (fiP x (l.drop j) = fiP x (l.drop (j + 1))) := by show _ = _; rw [e, hb, fi_at]; rfl
        rw [hb] at hg
        clear e hb hpl2 hn
        have e1 : Hid _ := e1
        go_wp2
        refine ⟨⟨j + 1, by omega, by rw [e1.out], rfl, by rw [← e2.out]; exact hv.out, trivial⟩, ?_⟩
        simp only [intOf]; omega
      · have e := ed.out
        have e3 : nb (l.drop j) = nb (l.drop (j + 1)) + 1 := by rw [e]; simp only [nb, if_neg hb]
        have hbit : ((x : Int) / 2 ^ min (IntKind.u64.wrap (nb (l.drop (j + 1)) : Int)).toNat 32).tmod 2 = (bN x (nb (l.drop (j + 1))) : Nat) := bit_at _ _ (by omega)
        have hat : wrap64 ((nb (l.drop j) : Int) - 1) = (nb (l.drop (j + 1)) : Nat) := by rw [wrap_pred _ (by omega) (by omega), e3, Nat.add_sub_cancel]
        have e2 : Hid (fiP x (l.drop j) = (!(l[j] == 48 && bN x (nb (l.drop (j + 1))) != 0 || l[j] == 49 && bN x (nb (l.drop (j + 1))) != 1) && fiP x (l.drop (j + 1)))) := by show _ = _; rw [e, fi_at]
        have hlt := bN_lt x (nb (l.drop (j + 1)))
        have y0 : ((l[j].toNat : Int) == 32) = false := by rw [nat_u8k (y := 32) (k := 32) rfl]; exact decide_eq_false hb
        have y1 : ((l[j].toNat : Int) == 48) = decide (l[j] = 48) := nat_u8k (y := 48) (k := 48) rfl
        have y2 : ((l[j].toNat : Int) == 49) = decide (l[j] = 49) := nat_u8k (y := 49) (k := 49) rfl
        clear e hpl2 hn e3 hb
        generalize bN x (nb (l.drop (j + 1))) = B at *
        generalize l[j] = Y at *
        by_cases hy : Y = 48
        · subst hy
          rcases (by omega : B = 0 ∨ B = 1) with rfl | rfl
          · clear hlt
            go_wp2
            refine ⟨⟨j + 1, by omega, (by first | rfl | rw [hat]), rfl, by rw [← hv.out, e2.out]; rfl, trivial⟩, ?_⟩
            simp only [intOf]; omega
          · clear hlt
            go_wp2
            exact bodyPost_ret (v := .bool false) (by simp [results, Tryd.results50, go_sem]) rfl ⟨by rw [← hv.out, e2.out]; rfl, rfl⟩
        · by_cases hz : Y = 49
          · subst hz
            rcases (by omega : B = 0 ∨ B = 1) with rfl | rfl
            · clear hlt
              go_wp2
              exact bodyPost_ret (v := .bool false) (by simp [results, Tryd.results50, go_sem]) rfl ⟨by rw [← hv.out, e2.out]; rfl, rfl⟩
            · clear hlt
              go_wp2
              refine ⟨⟨j + 1, by omega, (by first | rfl | rw [hat]), rfl, by rw [← hv.out, e2.out]; rfl, trivial⟩, ?_⟩
              simp only [intOf]; omega
          · rw [decide_eq_false hy] at y1
            rw [decide_eq_false hz] at y2
            have e4 : Hid (fiP x (l.drop j) = fiP x (l.drop (j + 1))) := by
              have b1 : (Y == 48) = false := by simpa using hy
              have b2 : (Y == 49) = false := by simpa using hz
              show _ = _
              rw [e2.out, b1, b2]; rfl
            clear e2 hy hz hlt
            go_wp2
            refine ⟨⟨j + 1, by omega, (by first | rfl | rw [hat]), rfl, by rw [← hv.out, e4.out], trivial⟩, ?_⟩
            simp only [intOf]; omega
    · have z1 : decide ((j : Int) < (l.length : Nat)) = false := decide_eq_false (by omega)
      have e : l.drop j = [] := List.drop_eq_nil_of_le (by omega)
      have hv := hv.out
      rw [e] at hv
      have hv : Hid _ := hv
      clear e
      go_wp2
      exact bodyPost_ret (v := .bool true) (by simp [results, Tryd.results50, go_sem]) rfl ⟨by rw [← hv.out]; rfl, rfl⟩
end Go.Proofs.YtkmgmmmpiallhaaDoor
