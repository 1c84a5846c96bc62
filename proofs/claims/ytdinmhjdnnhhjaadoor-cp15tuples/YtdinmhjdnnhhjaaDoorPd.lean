import Derived.Test.YtdinmhjdnnhhjaaDoorPb
namespace Go.Proofs.YtdinmhjdnnhhjaaDoor
open Go.RowKit
set_option linter.unusedVariables false
set_option linter.unusedSimpArgs false
set_option maxRecDepth 100000 in
set_option maxHeartbeats 1000000 in
theorem set_any (b r x : Nat) (priv : Bool) (F : List Nat) (w : World) (hF : Fi 63 w b F) (hT : TR w) (hr : r < 13) (hx : x < 4294967296) :
    Calls Tryd.prog 25 #[.pointer (some ⟨b, 0, none⟩), .int .i64 (r : Int), .bool priv, .int .u32 (x : Int)] w fun e w' => e = .returned (.tuple #[.agg #[.int .i64 ((setF F r priv x).1).k, .int .i64 ((setF F r priv x).1).tk, .int .u32 (((setF F r priv x).1).tva : Nat), .int .i64 (((setF F r priv x).1).tas : Nat), .int .u32 (((setF F r priv x).1).va : Nat), .bool ((setF F r priv x).1).us, .bool ((setF F r priv x).1).st], .int .i64 ((setF F r priv x).2.1 : Nat)]) ∧ Fi 63 w' b (setF F r priv x).2.2 ∧ Turn (· = b) w w' := by
  cases priv
  · have HF : Hid (Fi 63 w b F) := hF
    clear hF hT
    go_enter Tryd.func25, Tryd.ntmps25
    go_wp2
    refine bodyPost_ret (v := .tuple #[.agg #[.int .i64 aZ.k, .int .i64 aZ.tk, .int .u32 (aZ.tva : Nat), .int .i64 (aZ.tas : Nat), .int .u32 (aZ.va : Nat), .bool aZ.us, .bool aZ.st], .int .i64 81]) (by simp [results, Tryd.results25, go_sem, aZ]) rfl ⟨by simp [setF], ?_, ?_⟩
    · (repeat (with_reducible refine Fi.setO ?_ (Nat.ne_of_lt HF.out.lt) _ _)); exact HF.out.below (below_new _ _)
    · (repeat (with_reducible refine Turn.setCell ?_ (.inr (by simp)) _)); exact (Turn.refl _ _).alloc _
  · have HF2 : Hid (Fi 63 (w.alloc (.cells ([.int .i64 aZ.k, .int .i64 aZ.tk, .int .u32 (aZ.tva : Nat), .int .i64 (aZ.tas : Nat), .int .u32 (aZ.va : Nat), .bool aZ.us, .bool aZ.st]).toArray 36)) b F) := hF.below (below_new _ _)
    have HT2 : Hid (TR (w.alloc (.cells ([.int .i64 aZ.k, .int .i64 aZ.tk, .int .u32 (aZ.tva : Nat), .int .i64 (aZ.tas : Nat), .int .u32 (aZ.va : Nat), .bool aZ.us, .bool aZ.st]).toArray 36))) := hT.below (below_new _ _)
    have hk := keep_any b r x F _ HF2.out HT2.out hr hx
    have hlt := hF.lt
    have hb := hT.ne hF
    have h1 : (r : Int) < 13 := by omega
    have HN : Hid (Bl (w.alloc (.cells ([.int .i64 aZ.k, .int .i64 aZ.tk, .int .u32 (aZ.tva : Nat), .int .i64 (aZ.tas : Nat), .int .u32 (aZ.va : Nat), .bool aZ.us, .bool aZ.st]).toArray 36)) w.heap.size 36 ([.int .i64 aZ.k, .int .i64 aZ.tk, .int .u32 (aZ.tva : Nat), .int .i64 (aZ.tas : Nat), .int .u32 (aZ.va : Nat), .bool aZ.us, .bool aZ.st])) := Bl.new _ _ _
    clear hF hT
    have HS : Hid (setF F r true x = (if (rg r).ctx then aReg else aZ, 0, F.set r (keepW r x))) := rfl
    generalize F.set r (keepW r x) = G at *
    have HC : Hid (∀ w, TR w → w.cell? ⟨0, r * 7 + 6, none⟩ = some (.bool (rg r).ctx)) := fun w h => h.cell hr (by omega)
    cases hcx : (rg r).ctx
    all_goals
      rw [hcx] at HC HS
      go_enter Tryd.func25, Tryd.ntmps25
      go_wp2_with (go_at_call 24; refine hk.mono ?_; clear hk; rintro e w1 ⟨rfl, hA, hB⟩; have hc := HC.out w1 (HT2.out.turn hB (Ne.symm hb)); have hN := HN.out.turn hB (by omega); have HA : Hid (Fi 63 w1 b G) := hA; have HB : Hid (Turn (· = b) w w1) := ((Turn.refl _ w).alloc _).then hB; have n0 := hN.cell; have n1 := hN.frozen; have n2 := hN.lt; clear hA hB hN)
      rw [HS.out]
    · refine bodyPost_ret (v := .tuple #[.agg #[.int .i64 aZ.k, .int .i64 aZ.tk, .int .u32 (aZ.tva : Nat), .int .i64 (aZ.tas : Nat), .int .u32 (aZ.va : Nat), .bool aZ.us, .bool aZ.st], .int .i64 0]) (by simp [results, Tryd.results25, go_sem, aZ, n0, n1, n2]) rfl ⟨by simp, ?_, ?_⟩
      · (repeat (with_reducible refine Fi.setO ?_ (Nat.ne_of_lt hlt) _ _)); exact HA.out
      · (repeat (with_reducible refine Turn.setCell ?_ (.inr (by simp)) _)); exact HB.out
    · refine bodyPost_ret (v := .tuple #[.agg #[.int .i64 aReg.k, .int .i64 aReg.tk, .int .u32 (aReg.tva : Nat), .int .i64 (aReg.tas : Nat), .int .u32 (aReg.va : Nat), .bool aReg.us, .bool aReg.st], .int .i64 0]) (by simp [results, Tryd.results25, go_sem, aReg, aZ, n0, n1, n2]) rfl ⟨by simp, ?_, ?_⟩
      · (repeat (with_reducible refine Fi.setO ?_ (Nat.ne_of_lt hlt) _ _)); exact HA.out
      · (repeat (with_reducible refine Turn.setCell ?_ (.inr (by simp)) _)); exact HB.out
end Go.Proofs.YtdinmhjdnnhhjaaDoor
