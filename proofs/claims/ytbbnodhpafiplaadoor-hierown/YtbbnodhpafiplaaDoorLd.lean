import Derived.Test.YtbbnodhpafiplaaDoorLc
import Derived.Test.YtbbnodhpafiplaaDoorOa
namespace Go.Proofs.YtbbnodhpafiplaaDoor
open Go.RowKit
set_option linter.unusedVariables false
set_option linter.unusedSimpArgs false
theorem Scr.rng {W w : World} {a : Option Addr} {ops : List Opr} (h : Scr W a ops) (hb : Below W.heap.size W w) {k : Nat} (hk : k < ops.length) :
    ∃ o b off, ops[k]? = some o ∧ a = some ⟨b, off, none⟩ ∧ OOk o ∧ w.rangeAt b (off + k * 19) ([.int .i64 o.kind, .int .i64 o.asid, .int .i64 o.pick, .int .i64 o.which, .int .u32 o.va, .bool o.fetch, .bool o.mfirst, .int .i64 o.b.asid, .int .i64 o.b.t.size, .int .u32 o.b.t.va, .int .u64 o.b.t.pa, .int .i64 o.b.t.dom, .int .i64 o.b.t.ap, .int .u32 o.b.t.bits, .bool o.b.t.ng, .bool o.b.t.xn, .int .i64 o.d.kind, .int .u32 o.d.va, .int .i64 o.d.asid]) := by
  obtain ⟨b, off, ha, hlt, hc⟩ := h.1 k ops[k] (List.getElem?_eq_getElem hk)
  refine ⟨ops[k], b, off, List.getElem?_eq_getElem hk, ha, h.2 _ (List.getElem_mem _), fun j v hv => ?_⟩
  rw [← hc j v hv]
  exact hb.cell (p := ⟨b, off + k * 19 + j, none⟩) hlt
set_option maxRecDepth 100000 in
set_option maxHeartbeats 8000000 in
theorem play_no (W : World) (i d m : Int) (sa : Option Addr) (len cap : Nat) (kd : Int) (h : ¬ (Okn i ∧ Okn d ∧ Okn m)) :
    Calls Tryd.prog 24 #[.int .i64 i, .int .i64 d, .int .i64 m, .slice sa len cap, .int .i64 kd] W fun e w' => e = .returned (.bool true) ∧ Below W.heap.size W w' := by
  have HB := hidW (both_no i d m W h)
  clear h
  go_enter Tryd.func24, Tryd.ntmps24
  go_wp2_with (fail)
  go_at_call 20
  refine HB.out.mono ?_
  rintro e w1 ⟨rfl, hb⟩
  have HX := hidW hb
  clear hb HB
  go_wp2
  go_ret
  exact ⟨rfl, HX.out⟩
set_option maxRecDepth 100000 in
set_option maxHeartbeats 8000000 in
theorem play_yes (W : World) (i d m : Int) (sa : Option Addr) (cap : Nat) (ops : List Opr) (kd : Int) (hS : Scr W sa ops) (hT : TR W) (hl : ops.length ≤ maxLen) (h : Okn i ∧ Okn d ∧ Okn m) :
    Calls Tryd.prog 24 #[.int .i64 i, .int .i64 d, .int .i64 m, .slice sa ops.length cap, .int .i64 kd] W fun e w' => e = .returned (.bool true) ∧ Below W.heap.size W w' := by
  unfold maxLen at hl
  have HT : Hid (∀ w, Below W.heap.size W w → TR w) := hidW (fun w hb => hT.below hb)
  have HS0 : Hid (Scr W sa ops) := hS
  have HB := hidW (both_yes i d m W h)
  generalize hn : ops.length = n at *
  have HM : Hid (ops.length = n) := hn
  clear hT hS hn h
  go_enter Tryd.func24, Tryd.ntmps24
  go_wp2_with (fail)
  go_at_call 20
  refine HB.out.mono ?_
  rintro e w1 ⟨A, B, rfl, hX⟩
  have HX := hidW hX
  clear hX HB
  go_wp2
  go_loopw [14] (fun i wr => ∃ (k : Nat) (X : Hi), k ≤ n ∧ i = .int .i64 k ∧ T2 W wr A B X) (fun i _ => n - (intOf i).toNat)
  case atStart => exact ⟨0, _, by omega, rfl, HX.out⟩
  case round =>
    clear HX
    obtain ⟨k, X, hk, rfl, hX⟩ := hrel
    have HX := hidW hX
    clear hX
    by_cases hlt : k < n
    · obtain ⟨o, b, off, hok, rfl, hoo, hr⟩ := HS0.out.rng HX.out.bel (k := k) (by rw [HM.out]; exact hlt)
      have HR := hidW hr
      have HD : Hid (∀ w, T2 W w A B X → Calls Tryd.prog 21 #[.pointer (some ⟨A.h, 0, none⟩), .pointer (some ⟨B.h, 0, none⟩), .agg #[.int .i64 o.kind, .int .i64 o.asid, .int .i64 o.pick, .int .i64 o.which, .int .u32 o.va, .bool o.fetch, .bool o.mfirst, .int .i64 o.b.asid, .int .i64 o.b.t.size, .int .u32 o.b.t.va, .int .u64 o.b.t.pa, .int .i64 o.b.t.dom, .int .i64 o.b.t.ap, .int .u32 o.b.t.bits, .bool o.b.t.ng, .bool o.b.t.xn, .int .i64 o.d.kind, .int .u32 o.d.va, .int .i64 o.d.asid]] w fun e w' => e = .returned (.bool true) ∧ PH 73 95 [] w' A (stF X o) ∧ PH 93 89 [.pointer none] w' B (stF X o) ∧ Turn (fun x => A.S x ∨ B.S x) w w') := fun w h1 => step_any w A B X o h1.pa h1.pb (HT.out _ h1.bel) h1.dis hoo
      clear hok hoo hr
      generalize stF X o = Y at *
      go_wp2_with (guard_target =~ wpList _ _ _ (Oper.mk (some 37) _ _ _ _ _ :: _) _ _; refine wpList_load_mid rfl _ _ rfl b (off + k * 19) rfl ([.int .i64 o.kind, .int .i64 o.asid, .int .i64 o.pick, .int .i64 o.which, .int .u32 o.va, .bool o.fetch, .bool o.mfirst, .int .i64 o.b.asid, .int .i64 o.b.t.size, .int .u32 o.b.t.va, .int .u64 o.b.t.pa, .int .i64 o.b.t.dom, .int .i64 o.b.t.ap, .int .u32 o.b.t.bits, .bool o.b.t.ng, .bool o.b.t.xn, .int .i64 o.d.kind, .int .u32 o.d.va, .int .i64 o.d.asid]) _ HR.out Tryd.underlying44 rfl (by kernel_rfl) ?_; clear HR)
      go_at_call 21
      refine (HD.out _ HX.out).mono ?_
      rintro e w3 ⟨rfl, hp, hq, hT⟩
      replace HX := hidW (HX.out.turn hp hq hT)
      clear hp hq hT HD
      go_wp2
      go_roundw
      case rel => exact ⟨k + 1, _, by omega, by go_num, HX.out⟩
      case measure => simp [intOf]; omega
    · obtain rfl : k = n := by omega
      go_wp2
      go_ret
      exact ⟨rfl, HX.out.bel⟩
theorem play_any (W : World) (i d m : Int) (sa : Option Addr) (cap : Nat) (ops : List Opr) (kd : Int) (hS : Scr W sa ops) (hT : TR W) (hl : ops.length ≤ maxLen) :
    Calls Tryd.prog 24 #[.int .i64 i, .int .i64 d, .int .i64 m, .slice sa ops.length cap, .int .i64 kd] W fun e w' => e = .returned (.bool true) ∧ Below W.heap.size W w' := by
  by_cases h : Okn i ∧ Okn d ∧ Okn m
  · exact play_yes W i d m sa cap ops kd hS hT hl h
  · exact play_no W i d m sa ops.length cap kd h
end Go.Proofs.YtbbnodhpafiplaaDoor
