import Derived.Test.YtdinmhjdnnhhjaaDoorPa
namespace Go.Proofs.YtdinmhjdnnhhjaaDoor
open Go.RowKit
set_option linter.unusedVariables false
set_option linter.unusedSimpArgs false
set_option maxRecDepth 100000 in
set_option maxHeartbeats 1000000 in
theorem keep_any (b r x : Nat) (F : List Nat) (w : World) (hF : Fi 63 w b F) (hT : TR w) (hr : r < 13) (hx : x < 4294967296) :
    Calls Tryd.prog 24 #[.pointer (some ⟨b, 0, none⟩), .int .i64 (r : Int), .int .u32 (x : Int)] w fun e w' => e = .returned (.tuple #[]) ∧ Fi 63 w' b (F.set r (keepW r x)) ∧ Turn (· = b) w w' := by
  have h1 : (r : Int) < 13 := by omega
  have hlt := hF.lt
  have hv := hF.cell hr
  have hfz := hF.frozen r
  have hc : w.cell? ⟨0, r * 7 + 4, none⟩ = some (.int .u32 ((rg r).kept : Nat)) := hT.cell hr (by omega)
  have hb := hT.ne hF
  have hy := and_kept_u r x hx
  have HF : Hid (Fi 63 w b F) := hF
  have HY : Hid (keepW r x < 4294967296) := keepW_lt r x hx
  have HZ : Hid (Turn (· = b) w ((w.setCell ⟨b, r, none⟩ (.int .u32 (keepW r x : Int))).drew) ∧ Fi 63 ((w.setCell ⟨b, r, none⟩ (.int .u32 (keepW r x : Int))).drew) b (F.set r (keepW r x))) :=
    ⟨((Turn.refl _ _).setCell (S := (· = b)) (p := ⟨b, r, none⟩) (.inl rfl) _).drew, (hF.set r _ HY.out).drew⟩
  clear hF hT HF HY
  generalize keepW r x = y at *
  generalize (rg r).kept = k at *
  generalize F.getD r 0 = z at *
  go_enter Tryd.func24, Tryd.ntmps24
  go_wp2
  go_region
  exact bodyPost_end (v := .tuple #[]) (by simp [results, Tryd.results24, go_sem]) rfl ⟨rfl, HZ.out.2, HZ.out.1⟩
theorem pt_yes (F : List Nat) (r x : Nat) (h : r < 13) : ptE (r : Int) = 0 ∧ ptF F (r : Int) x = F.set r (keepW r x) := by
  have : isR (r : Int) = true := (isR_iff _).2 ⟨by omega, by omega⟩
  simp [ptE, ptF, this]
theorem pt_no (F : List Nat) (r : Int) (x : Nat) (h : isR r = false) : ptE r = 1 ∧ ptF F r x = F := by simp [ptE, ptF, h]
set_option maxRecDepth 100000 in
theorem put_any (b : Nat) (F : List Nat) (r : Int) (x : Nat) (w : World) (hF : Fi 63 w b F) (hT : TR w) (hx : x < 4294967296) : Calls Tryd.prog 14 #[.pointer (some ⟨b, 0, none⟩), .int .i64 r, .int .u32 (x : Int)] w fun e w' => e = .returned (.int .i64 (ptE r : Nat)) ∧ Fi 63 w' b (ptF F r x) ∧ Turn (· = b) w w' := by
  have hr := isReg_any r
  cases h : isR r
  · rw [h] at hr
    rw [(pt_no F r x h).1, (pt_no F r x h).2]
    have HF : Hid (Fi 63 w b F) := hF
    clear hF hT
    go_enter Tryd.func14, Tryd.ntmps14
    go_wp2_with (go_at_call 23; refine (hr _).mono ?_; rintro e w' ⟨rfl, rfl⟩)
    go_ret
    exact ⟨rfl, HF.out, Turn.refl _ _⟩
  · rw [h] at hr
    obtain ⟨h1, h2⟩ := (isR_iff r).1 h
    obtain ⟨k, rfl⟩ := Int.eq_ofNat_of_zero_le h1
    have hk : k < 13 := by omega
    rw [(pt_yes F k x hk).1, (pt_yes F k x hk).2]
    have hkp := keep_any b k x F w hF hT hk hx
    clear hF hT h h1
    go_enter Tryd.func14, Tryd.ntmps14
    go_wp2_with (first | (go_at_call 23; refine (hr _).mono ?_; rintro e w' ⟨rfl, rfl⟩) | (go_at_call 24; refine hkp.mono ?_; rintro e w' ⟨rfl, hA, hB⟩; have HA : Hid _ := hA; have HB : Hid _ := hB; clear hA hB))
    go_ret
    exact ⟨rfl, HA.out, HB.out⟩
end Go.Proofs.YtdinmhjdnnhhjaaDoor
