import Derived.Test.YtbbnodhpafiplaaDoorLd
namespace Go.Proofs.YtbbnodhpafiplaaDoor
open Go.RowKit
set_option linter.unusedVariables false
set_option linter.unusedSimpArgs false
/-- What is asked of both behind a call. -/
theorem pair_hp {W w : World} {A B : Ad} {X : Hi} (k : Int) (h : T2 W w A B X) : Calls Tryd.prog 19 #[.pointer (some ⟨A.h, 0, none⟩), .int .i64 k] w fun e w' => ∃ a, e = .returned (.slice a (plH X k).length (plH X k).length) ∧ Rv w' a (plH X k) ∧ Below w.heap.size w w' :=
  (hplaces_any w A X k h.pa).mono fun e w' ⟨a, h1, h2, h3⟩ => ⟨a, h1, h2.rv, h3⟩
theorem pair_vp {W w : World} {A B : Ad} {X : Hi} (k : Int) (h : T2 W w A B X) : Calls Tryd.prog 23 #[.pointer (some ⟨B.h, 0, none⟩), .int .i64 k] w fun e w' => ∃ a cap, e = .returned (.slice a (plH X k).length cap) ∧ Rv w' a (plH X k) ∧ Below w.heap.size w w' :=
  (vplaces_any w B X k h.pb).mono fun e w' ⟨a, cap, h1, h2, h3⟩ => ⟨a, cap, h1, h2.rv, h3⟩
set_option maxRecDepth 100000 in
set_option maxHeartbeats 8000000 in
theorem all_no (W : World) (i d m : Int) (sa : Option Addr) (len cap : Nat) (h : ¬ (Okn i ∧ Okn d ∧ Okn m)) :
    Calls Tryd.prog 5 #[.int .i64 i, .int .i64 d, .int .i64 m, .slice sa len cap] W fun e w' => e = .returned (.bool true) ∧ Below W.heap.size W w' := by
  have HB := hidW (both_no i d m W h)
  clear h
  go_enter Tryd.func5, Tryd.ntmps5
  go_wp2_with (fail)
  go_at_call 20
  refine HB.out.mono ?_
  rintro e w1 ⟨rfl, hb⟩
  have HX := hidW hb
  clear hb HB
  go_wp2
  go_ret
  exact ⟨rfl, HX.out⟩
set_option maxRecDepth 100000 in
set_option maxHeartbeats 16000000 in
theorem all_yes (W : World) (i d m : Int) (sa : Option Addr) (cap : Nat) (ops : List Opr) (hS : Scr W sa ops) (hT : TR W) (hl : ops.length ≤ maxLen) (h : Okn i ∧ Okn d ∧ Okn m) :
    Calls Tryd.prog 5 #[.int .i64 i, .int .i64 d, .int .i64 m, .slice sa ops.length cap] W fun e w' => e = .returned (.bool true) ∧ Below W.heap.size W w' := by
  unfold maxLen at hl
  have HT : Hid (∀ w, Below W.heap.size W w → TR w) := hidW (fun w hb => hT.below hb)
  have HS0 : Hid (Scr W sa ops) := hS
  have HB := hidW (both_yes i d m W h)
  have HQ : Hid (∀ (w : World) (a b : Option Addr) (ca cb : Nat) (L : List Slo), Rv w a L → Rv w b L → L.length ≤ 64 → Calls Tryd.prog 22 #[.slice a L.length ca, .slice b L.length cb] w fun e w' => e = .returned (.bool true) ∧ Below w.heap.size w w') := fun w a b ca cb L k1 k2 k3 => slots_yes w a b ca cb L k1 k2 k3
  have HN : Hid (∀ (w : World) (a b : Option Addr) (ca cb : Nat), Calls Tryd.prog 22 #[.slice a 0 ca, .slice b 0 cb] w fun e w' => e = .returned (.bool true) ∧ Below w.heap.size w w') := slots_nil
  generalize hn : ops.length = n at *
  have HM : Hid (ops.length = n) := hn
  clear hT hS hn h
  go_enter Tryd.func5, Tryd.ntmps5
  go_wp2_with (fail)
  go_at_call 20
  refine HB.out.mono ?_
  rintro e w1 ⟨A, B, rfl, hX⟩
  have HX := hidW hX
  clear hX HB
  go_wp2
  go_loopw [12] (fun i wr => ∃ (k : Nat) (X : Hi), k ≤ n ∧ i = .int .i64 k ∧ T2 W wr A B X) (fun i _ => n - (intOf i).toNat)
  case atStart => exact ⟨0, _, by omega, rfl, HX.out⟩
  case round =>
    clear HX
    obtain ⟨k, X, hk, rfl, hX⟩ := hrel
    have HX := hidW hX
    clear hX
    by_cases hlt : k < n
    · obtain ⟨o, b, off, hok, rfl, hoo, hr⟩ := HS0.out.rng HX.out.bel (k := k) (by rw [HM.out]; exact hlt)
      have HR := hidW hr
      have HD : Hid (∀ w, T2 W w A B X → Calls Tryd.prog 21 #[.pointer (some ⟨A.h, 0, none⟩), .pointer (some ⟨B.h, 0, none⟩), .agg #[.int .i64 o.kind, .int .i64 o.asid, .int .i64 o.pick, .int .i64 o.which, .int .u32 o.va, .bool o.fetch, .bool o.mfirst, .int .i64 o.b.asid, .int .i64 o.b.t.size, .int .u32 o.b.t.va, .int .u64 o.b.t.pa, .int .i64 o.b.t.dom, .int .i64 o.b.t.ap, .int .u32 o.b.t.bits, .bool o.b.t.ng, .bool o.b.t.xn, .int .i64 o.d.kind, .int .u32 o.d.va, .int .i64 o.d.asid]] w fun e w' => e = .returned (.bool true) ∧ PH 73 95 [] w' A (stF X o) ∧ PH 93 89 [.pointer none] w' B (stF X o) ∧ Turn (fun x => A.S x ∨ B.S x) w w') := fun w h1 => step_any w A B X o h1.pa h1.pb (HT.out _ h1.bel) h1.dis hoo
      clear hok hoo hr
      generalize stF X o = Y at *
      go_wp2_with (guard_target =~ wpList _ _ _ (Oper.mk (some 36) _ _ _ _ _ :: _) _ _; refine wpList_load_mid rfl _ _ rfl b (off + k * 19) rfl ([.int .i64 o.kind, .int .i64 o.asid, .int .i64 o.pick, .int .i64 o.which, .int .u32 o.va, .bool o.fetch, .bool o.mfirst, .int .i64 o.b.asid, .int .i64 o.b.t.size, .int .u32 o.b.t.va, .int .u64 o.b.t.pa, .int .i64 o.b.t.dom, .int .i64 o.b.t.ap, .int .u32 o.b.t.bits, .bool o.b.t.ng, .bool o.b.t.xn, .int .i64 o.d.kind, .int .u32 o.d.va, .int .i64 o.d.asid]) _ HR.out Tryd.underlying44 rfl (by kernel_rfl) ?_; clear HR)
      go_at_call 21
      refine (HD.out _ HX.out).mono ?_
      rintro e w3 ⟨rfl, hp, hq, hT⟩
      replace HX := hidW (HX.out.turn hp hq hT)
      clear hp hq hT HD HS0
      go_wp2
      generalize wr = wz at *
      go_loopw [13] (fun i wr => T2 W wr A B Y ∧ (i = .int .i64 1 ∨ i = .int .i64 2 ∨ i = .int .i64 3 ∨ i = .int .i64 4)) (fun i _ => (4 - intOf i).toNat)
      case atStart => exact ⟨HX.out, .inl rfl⟩
      case round =>
        clear HX
        obtain ⟨hX, hj⟩ := hrel
        have HX := hidW hX
        clear hX
        rcases hj with rfl | rfl | rfl | rfl
        · have H1 := hidW (fun w => pair_hp (W := W) (w := w) (A := A) (B := B) (X := Y) 1)
          have H2 := hidW (fun w => pair_vp (W := W) (w := w) (A := A) (B := B) (X := Y) 1)
          have HL := hidW (plH_le HX.out.pa 1)
          generalize plH Y 1 = L at *
          have HQL := hidW (fun w a b ca cb k1 k2 => HQ.out w a b ca cb L k1 k2 HL.out)
          clear HL
          generalize L.length = l at *
          go_wp2_with (fail)
          go_at_call 19
          refine (H1.out _ HX.out).mono ?_
          rintro e w4 ⟨a4, rfl, hv, hb⟩
          replace HX := hidW (HX.out.step hb)
          have HV := hidW hv
          clear hb hv H1
          go_wp2_with (fail)
          go_at_call 23
          refine (H2.out _ HX.out).mono ?_
          rintro e w5 ⟨a5, cap5, rfl, hv, hb⟩
          replace HX := hidW (HX.out.step hb)
          replace HV := hidW (HV.out.below hb)
          have HU := hidW hv
          clear hb hv H2
          go_wp2_with (fail)
          go_at_call 22
          refine (HQL.out _ _ _ _ _ HV.out HU.out).mono ?_
          rintro e w6 ⟨rfl, hb⟩
          replace HX := hidW (HX.out.step hb)
          clear hb HV HU HQL
          go_wp2
          go_roundw
          case rel => exact ⟨HX.out, by simp⟩
          case measure => simp [intOf]
        · have H1 := hidW (fun w => pair_hp (W := W) (w := w) (A := A) (B := B) (X := Y) 2)
          have H2 := hidW (fun w => pair_vp (W := W) (w := w) (A := A) (B := B) (X := Y) 2)
          have HL := hidW (plH_le HX.out.pa 2)
          generalize plH Y 2 = L at *
          have HQL := hidW (fun w a b ca cb k1 k2 => HQ.out w a b ca cb L k1 k2 HL.out)
          clear HL
          generalize L.length = l at *
          go_wp2_with (fail)
          go_at_call 19
          refine (H1.out _ HX.out).mono ?_
          rintro e w4 ⟨a4, rfl, hv, hb⟩
          replace HX := hidW (HX.out.step hb)
          have HV := hidW hv
          clear hb hv H1
          go_wp2_with (fail)
          go_at_call 23
          refine (H2.out _ HX.out).mono ?_
          rintro e w5 ⟨a5, cap5, rfl, hv, hb⟩
          replace HX := hidW (HX.out.step hb)
          replace HV := hidW (HV.out.below hb)
          have HU := hidW hv
          clear hb hv H2
          go_wp2_with (fail)
          go_at_call 22
          refine (HQL.out _ _ _ _ _ HV.out HU.out).mono ?_
          rintro e w6 ⟨rfl, hb⟩
          replace HX := hidW (HX.out.step hb)
          clear hb HV HU HQL
          go_wp2
          go_roundw
          case rel => exact ⟨HX.out, by simp⟩
          case measure => simp [intOf]
        · have H1 := hidW (fun w => pair_hp (W := W) (w := w) (A := A) (B := B) (X := Y) 3)
          have H2 := hidW (fun w => pair_vp (W := W) (w := w) (A := A) (B := B) (X := Y) 3)
          have HL := hidW (plH_le HX.out.pa 3)
          generalize plH Y 3 = L at *
          have HQL := hidW (fun w a b ca cb k1 k2 => HQ.out w a b ca cb L k1 k2 HL.out)
          clear HL
          generalize L.length = l at *
          go_wp2_with (fail)
          go_at_call 19
          refine (H1.out _ HX.out).mono ?_
          rintro e w4 ⟨a4, rfl, hv, hb⟩
          replace HX := hidW (HX.out.step hb)
          have HV := hidW hv
          clear hb hv H1
          go_wp2_with (fail)
          go_at_call 23
          refine (H2.out _ HX.out).mono ?_
          rintro e w5 ⟨a5, cap5, rfl, hv, hb⟩
          replace HX := hidW (HX.out.step hb)
          replace HV := hidW (HV.out.below hb)
          have HU := hidW hv
          clear hb hv H2
          go_wp2_with (fail)
          go_at_call 22
          refine (HQL.out _ _ _ _ _ HV.out HU.out).mono ?_
          rintro e w6 ⟨rfl, hb⟩
          replace HX := hidW (HX.out.step hb)
          clear hb HV HU HQL
          go_wp2
          go_roundw
          case rel => exact ⟨HX.out, by simp⟩
          case measure => simp [intOf]
        · go_wp2
          go_roundw
          case rel => exact ⟨k + 1, _, by omega, by go_num, HX.out⟩
          case measure => simp [intOf]; omega
    · obtain rfl : k = n := by omega
      have H0 : ∀ kk : Int, (kk < 1 ∨ 3 < kk) → plH X kk = [] := fun kk hk => by
        unfold plH
        rw [if_neg (by omega), if_neg (by omega), if_neg (by omega)]
      have H1 : Hid (∀ w, T2 W w A B X → Calls Tryd.prog 19 #[.pointer (some ⟨A.h, 0, none⟩), .int .i64 0] w fun e w' => ∃ a, e = .returned (.slice a 0 0) ∧ Below w.heap.size w w') := fun w h => (pair_hp 0 h).mono fun e w' ⟨a, h1, h2, h3⟩ => ⟨a, by rw [H0 0 (by omega)] at h1; exact h1, h3⟩
      have H2 : Hid (∀ w, T2 W w A B X → Calls Tryd.prog 19 #[.pointer (some ⟨A.h, 0, none⟩), .int .i64 4] w fun e w' => ∃ a, e = .returned (.slice a 0 0) ∧ Below w.heap.size w w') := fun w h => (pair_hp 4 h).mono fun e w' ⟨a, h1, h2, h3⟩ => ⟨a, by rw [H0 4 (by omega)] at h1; exact h1, h3⟩
      have H3 : Hid (∀ w, T2 W w A B X → Calls Tryd.prog 19 #[.pointer (some ⟨A.h, 0, none⟩), .int .i64 (-1)] w fun e w' => ∃ a, e = .returned (.slice a 0 0) ∧ Below w.heap.size w w') := fun w h => (pair_hp (-1) h).mono fun e w' ⟨a, h1, h2, h3⟩ => ⟨a, by rw [H0 (-1) (by omega)] at h1; exact h1, h3⟩
      clear H0
      go_wp2_with (fail)
      go_at_call 19
      refine (H1.out _ HX.out).mono ?_
      rintro e w3 ⟨a3, rfl, hb⟩
      replace HX := hidW (HX.out.step hb)
      clear hb
      go_wp2_with (fail)
      go_at_call 22
      refine (HN.out _ _ _ _ _).mono ?_
      rintro e w4 ⟨rfl, hb⟩
      replace HX := hidW (HX.out.step hb)
      clear hb
      go_wp2_with (fail)
      go_at_call 19
      refine (H2.out _ HX.out).mono ?_
      rintro e w5 ⟨a5, rfl, hb⟩
      replace HX := hidW (HX.out.step hb)
      clear hb
      go_wp2_with (fail)
      go_at_call 22
      refine (HN.out _ _ _ _ _).mono ?_
      rintro e w6 ⟨rfl, hb⟩
      replace HX := hidW (HX.out.step hb)
      clear hb
      go_wp2_with (fail)
      go_at_call 19
      refine (H3.out _ HX.out).mono ?_
      rintro e w7 ⟨a7, rfl, hb⟩
      replace HX := hidW (HX.out.step hb)
      clear hb
      go_wp2_with (fail)
      go_at_call 22
      refine (HN.out _ _ _ _ _).mono ?_
      rintro e w8 ⟨rfl, hb⟩
      replace HX := hidW (HX.out.step hb)
      clear hb
      go_wp2
      go_ret
      exact ⟨rfl, HX.out.bel⟩
theorem law_all (W : World) (i d m : Int) (sa : Option Addr) (cap : Nat) (ops : List Opr) (hS : Scr W sa ops) (hT : TR W) (hl : ops.length ≤ maxLen) :
    Calls Tryd.prog 5 #[.int .i64 i, .int .i64 d, .int .i64 m, .slice sa ops.length cap] W fun e w' => e = .returned (.bool true) ∧ Below W.heap.size W w' := by
  by_cases h : Okn i ∧ Okn d ∧ Okn m
  · exact all_yes W i d m sa cap ops hS hT hl h
  · exact all_no W i d m sa ops.length cap h
end Go.Proofs.YtbbnodhpafiplaaDoor
