import Derived.Test.YtmodcbdgnmjkoaaDoorLf
import Derived.Test.YtmodcbdgnmjkoaaDoorEb
import Derived.Test.YtmodcbdgnmjkoaaDoorWk
namespace Go.Proofs.YtmodcbdgnmjkoaaDoor
open Go.RowKit
open Mm (Turn gr PM RM valV errV Byts setV)
set_option linter.unusedVariables false
set_option linter.unusedSimpArgs false
def alP : List Pt := [⟨16384, 20513⟩, ⟨16388, 1051662⟩, ⟨20484, 30782⟩]
def alC : Ctx := ⟨true, false, false, 2, false, false, 16384, 131072, 5, 0, 0, 0⟩
def alM : Mo := ramMo 16 (pm 16 alP 3)
theorem alC_ok : alC.Ok := ⟨by decide, by decide, by decide, by decide⟩
theorem al1 : (wk alM alC 4660).1.size = 1 ∧ (wk alM alC 4660).1.pa = 28672 ∧ (wk alM alC 4660).2.k = 0 := by decide +kernel
theorem al2 : (wk alM alC 1048576).1.size = 3 ∧ (wk alM alC 1048576).2.k = 0 := by decide +kernel
theorem al3 : (wk alM alC 8192).2.k = 5 ∧ (wk alM alC 8192).2.l = 0 ∧ (wk alM alC 8192).2.d = 1 := by decide +kernel
/-- The rows of the script in a block. -/
theorem alP_at (w : World) : PutsAt (w.alloc (.cells #[.int .u64 16384, .int .u32 20513, .int .u64 16388, .int .u32 1051662, .int .u64 20484, .int .u32 30782] 28)) (some ⟨w.heap.size, 0, none⟩) alP := by
  have h := Bl.new w 28 [.int .u64 16384, .int .u32 20513, .int .u64 16388, .int .u32 1051662, .int .u64 20484, .int .u32 30782]
  refine ⟨fun k p hp => ⟨w.heap.size, 0, rfl, h.lt, ?_, ?_⟩, fun p hp => ?_⟩
  · rw [Nat.zero_add]
    refine (h.cell (k * 2)).trans ?_
    match k, hp with
    | 0, hp => simp [alP] at hp; subst hp; rfl
    | 1, hp => simp [alP] at hp; subst hp; rfl
    | 2, hp => simp [alP] at hp; subst hp; rfl
  · rw [Nat.zero_add]
    refine (h.cell (k * 2 + 1)).trans ?_
    match k, hp with
    | 0, hp => simp [alP] at hp; subst hp; rfl
    | 1, hp => simp [alP] at hp; subst hp; rfl
    | 2, hp => simp [alP] at hp; subst hp; rfl
  · simp [alP] at hp
    rcases hp with rfl | rfl | rfl <;> decide
/-- A memory, a context's box, the tables. -/
structure AK (w wr : World) (c : Ctx) (x p N : Nat) (m : Nat → Int) : Prop where
  bel : Below w.heap.size w wr
  C : Bl wr x 26 [.bool c.on, .bool c.tre, .bool c.afe, .int .i64 c.n, .bool c.pd0, .bool c.pd1, .int .u64 c.b0, .int .u64 c.b1, .int .u32 c.dacr, .int .u32 c.prrr, .int .u32 c.nmrr, .int .i64 c.asid]
  mem : ∃ S1, PM wr S1 p N m
  tab : TW wr
theorem AK.below {w wr wn : World} {c : Ctx} {x p N : Nat} {m : Nat → Int} (h : AK w wr c x p N m) (hb : Below wr.heap.size wr wn) : AK w wn c x p N m := by
  obtain ⟨S1, h1⟩ := h.mem
  exact ⟨Below.step h.bel hb, h.C.below hb, ⟨S1, h1.keep (S' := fun _ => False) (Turn.below hb) (fun _ _ h => h)⟩, h.tab.below hb⟩
theorem AK.walk {w wr : World} {c : Ctx} {x p N : Nat} {m : Nat → Int} (h : AK w wr c x p N m) (hc : c.Ok) (va : Int) (hv : 0 ≤ va ∧ va < 4294967296) :
    Calls Tryd.prog 11 #[.iface 30 (.pointer (some ⟨p, 0, none⟩)), .agg #[.bool c.on, .bool c.tre, .bool c.afe, .int .i64 c.n, .bool c.pd0, .bool c.pd1, .int .u64 c.b0, .int .u64 c.b1, .int .u32 c.dacr, .int .u32 c.prrr, .int .u32 c.nmrr, .int .i64 c.asid], .int .u32 va] wr fun e w' => e = .returned (.tuple #[.agg #[.int .i64 ((wk (ramMo N m) c va).1).size, .int .u32 ((wk (ramMo N m) c va).1).va, .int .u64 ((wk (ramMo N m) c va).1).pa, .int .i64 ((wk (ramMo N m) c va).1).dom, .int .i64 ((wk (ramMo N m) c va).1).ap, .int .u32 ((wk (ramMo N m) c va).1).bits, .bool ((wk (ramMo N m) c va).1).ng, .bool ((wk (ramMo N m) c va).1).xn], .agg #[.int .i64 ((wk (ramMo N m) c va).2).k, .int .i64 ((wk (ramMo N m) c va).2).l, .int .i64 ((wk (ramMo N m) c va).2).d]]) ∧ Below wr.heap.size wr w' := by
  obtain ⟨S1, h1⟩ := h.mem
  exact walk_pure c va wr (.inl ⟨p, N, m, rfl, rfl, h1⟩) h.tab hc hv
set_option maxRecDepth 100000 in
set_option maxHeartbeats 8000000 in
theorem alive_any (w : World) (ht : TW w) : Calls Tryd.prog 9 #[] w fun e w' => e = .returned (.bool true) ∧ Below w.heap.size w w' := by
  have HT := hidW ht
  have HB0 := hidW (below_new w (.cells #[.int .u64 16384, .int .u32 20513, .int .u64 16388, .int .u32 1051662, .int .u64 20484, .int .u32 30782] 28))
  have HP := hidW (made_ok (w.alloc (.cells #[.int .u64 16384, .int .u32 20513, .int .u64 16388, .int .u32 1051662, .int .u64 20484, .int .u32 30782] 28)) 16 (by omega) (by omega) (some ⟨w.heap.size, 0, none⟩) 3 alP (alP_at w) (by decide))
  have k1 := hidW al1
  have k2 := hidW al2
  have k3 := hidW al3
  have HW1 := hidW (fun wr x p (h : AK w wr alC x p 16 (pm 16 alP 3)) => h.walk alC_ok 4660 (by decide))
  have HW2 := hidW (fun wr x p (h : AK w wr alC x p 16 (pm 16 alP 3)) => h.walk alC_ok 1048576 (by decide))
  have HW3 := hidW (fun wr x p (h : AK w wr alC x p 16 (pm 16 alP 3)) => h.walk alC_ok 8192 (by decide))
  unfold alM at k1 k2 k3
  generalize (wk (ramMo 16 (pm 16 alP 3)) alC 4660).1 = U1 at *
  generalize (wk (ramMo 16 (pm 16 alP 3)) alC 4660).2 = F1 at *
  generalize (wk (ramMo 16 (pm 16 alP 3)) alC 1048576).1 = U2 at *
  generalize (wk (ramMo 16 (pm 16 alP 3)) alC 1048576).2 = F2 at *
  generalize (wk (ramMo 16 (pm 16 alP 3)) alC 8192).1 = U3 at *
  generalize (wk (ramMo 16 (pm 16 alP 3)) alC 8192).2 = F3 at *
  clear ht
  go_enter Tryd.func9, Tryd.ntmps9
  go_wp2_with fail
  go_at_call 10
  refine HP.out.mono ?_
  rintro e wa ⟨p, rfl, hO⟩
  have HK : Hid (AK w (wa.alloc (.cells #[.bool true, .bool false, .bool false, .int .i64 2, .bool false, .bool false, .int .u64 16384, .int .u64 131072, .int .u32 5, .int .u32 0, .int .u32 0, .int .i64 0] 26)) alC wa.heap.size p 16 (pm 16 alP 3)) := by
    have b1 : Below w.heap.size w wa := Below.step HB0.out hO.bel
    obtain ⟨⟨S1, h1, _⟩, _⟩ := hO
    exact ⟨Below.step b1 (below_new _ _), Bl.new wa 26 [.bool true, .bool false, .bool false, .int .i64 2, .bool false, .bool false, .int .u64 16384, .int .u64 131072, .int .u32 5, .int .u32 0, .int .u32 0, .int .i64 0], ⟨S1, h1.keep (S' := fun _ => False) (Turn.below (below_new _ _)) (fun _ _ h => h)⟩, (HT.out.below b1).below (below_new _ _)⟩
  clear HP HB0 hO HT
  go_wp2_with fail
  generalize wa.alloc (.cells #[.bool true, .bool false, .bool false, .int .i64 2, .bool false, .bool false, .int .u64 16384, .int .u64 131072, .int .u32 5, .int .u32 0, .int .u32 0, .int .i64 0] 26) = wx at *
  generalize wa.heap.size = x at *
  go_at_call 11
  refine (HW1.out _ _ _ HK.out).mono ?_
  rintro e v1 ⟨rfl, hb⟩
  have HK1 := hidW ((HK.out.below hb).below (Below.step (below_new v1 (.cells #[.int .i64 U1.size, .int .u32 U1.va, .int .u64 U1.pa, .int .i64 U1.dom, .int .i64 U1.ap, .int .u32 U1.bits, .bool U1.ng, .bool U1.xn] 35)) (below_new _ (.cells #[.int .i64 F1.k, .int .i64 F1.l, .int .i64 F1.d] 37))))
  have HT1 := hidW ((Bl.new v1 35 [.int .i64 U1.size, .int .u32 U1.va, .int .u64 U1.pa, .int .i64 U1.dom, .int .i64 U1.ap, .int .u32 U1.bits, .bool U1.ng, .bool U1.xn]).below (below_new _ (.cells #[.int .i64 F1.k, .int .i64 F1.l, .int .i64 F1.d] 37)))
  have HF1 := hidW (Bl.new1 v1 (.cells #[.int .i64 U1.size, .int .u32 U1.va, .int .u64 U1.pa, .int .i64 U1.dom, .int .i64 U1.ap, .int .u32 U1.bits, .bool U1.ng, .bool U1.xn] 35) 37 [.int .i64 F1.k, .int .i64 F1.l, .int .i64 F1.d])
  clear hb HK HW1
  have cx := HK1.out.C.cell
  go_wp2_with fail
  generalize (v1.alloc (.cells #[.int .i64 U1.size, .int .u32 U1.va, .int .u64 U1.pa, .int .i64 U1.dom, .int .i64 U1.ap, .int .u32 U1.bits, .bool U1.ng, .bool U1.xn] 35)).alloc (.cells #[.int .i64 F1.k, .int .i64 F1.l, .int .i64 F1.d] 37) = y1 at *
  clear cx
  go_at_call 11
  refine (HW2.out _ _ _ HK1.out).mono ?_
  rintro e v2 ⟨rfl, hb⟩
  have HK2 := hidW ((HK1.out.below hb).below (Below.step (below_new v2 (.cells #[.int .i64 U2.size, .int .u32 U2.va, .int .u64 U2.pa, .int .i64 U2.dom, .int .i64 U2.ap, .int .u32 U2.bits, .bool U2.ng, .bool U2.xn] 35)) (below_new _ (.cells #[.int .i64 F2.k, .int .i64 F2.l, .int .i64 F2.d] 37))))
  have HT2 := hidW ((Bl.new v2 35 [.int .i64 U2.size, .int .u32 U2.va, .int .u64 U2.pa, .int .i64 U2.dom, .int .i64 U2.ap, .int .u32 U2.bits, .bool U2.ng, .bool U2.xn]).below (below_new _ (.cells #[.int .i64 F2.k, .int .i64 F2.l, .int .i64 F2.d] 37)))
  have HF2 := hidW (Bl.new1 v2 (.cells #[.int .i64 U2.size, .int .u32 U2.va, .int .u64 U2.pa, .int .i64 U2.dom, .int .i64 U2.ap, .int .u32 U2.bits, .bool U2.ng, .bool U2.xn] 35) 37 [.int .i64 F2.k, .int .i64 F2.l, .int .i64 F2.d])
  have HT1_2 := hidW ((HT1.out.below hb).below (Below.step (below_new v2 (.cells #[.int .i64 U2.size, .int .u32 U2.va, .int .u64 U2.pa, .int .i64 U2.dom, .int .i64 U2.ap, .int .u32 U2.bits, .bool U2.ng, .bool U2.xn] 35)) (below_new _ (.cells #[.int .i64 F2.k, .int .i64 F2.l, .int .i64 F2.d] 37))))
  have HF1_2 := hidW ((HF1.out.below hb).below (Below.step (below_new v2 (.cells #[.int .i64 U2.size, .int .u32 U2.va, .int .u64 U2.pa, .int .i64 U2.dom, .int .i64 U2.ap, .int .u32 U2.bits, .bool U2.ng, .bool U2.xn] 35)) (below_new _ (.cells #[.int .i64 F2.k, .int .i64 F2.l, .int .i64 F2.d] 37))))
  clear hb HK1 HW2 HT1 HF1
  have cx := HK2.out.C.cell
  go_wp2_with fail
  generalize (v2.alloc (.cells #[.int .i64 U2.size, .int .u32 U2.va, .int .u64 U2.pa, .int .i64 U2.dom, .int .i64 U2.ap, .int .u32 U2.bits, .bool U2.ng, .bool U2.xn] 35)).alloc (.cells #[.int .i64 F2.k, .int .i64 F2.l, .int .i64 F2.d] 37) = y2 at *
  clear cx
  go_at_call 11
  refine (HW3.out _ _ _ HK2.out).mono ?_
  rintro e v3 ⟨rfl, hb⟩
  have HK3 := hidW ((HK2.out.below hb).below (Below.step (below_new v3 (.cells #[.int .i64 U3.size, .int .u32 U3.va, .int .u64 U3.pa, .int .i64 U3.dom, .int .i64 U3.ap, .int .u32 U3.bits, .bool U3.ng, .bool U3.xn] 35)) (below_new _ (.cells #[.int .i64 F3.k, .int .i64 F3.l, .int .i64 F3.d] 37))))
  have HT3 := hidW ((Bl.new v3 35 [.int .i64 U3.size, .int .u32 U3.va, .int .u64 U3.pa, .int .i64 U3.dom, .int .i64 U3.ap, .int .u32 U3.bits, .bool U3.ng, .bool U3.xn]).below (below_new _ (.cells #[.int .i64 F3.k, .int .i64 F3.l, .int .i64 F3.d] 37)))
  have HF3 := hidW (Bl.new1 v3 (.cells #[.int .i64 U3.size, .int .u32 U3.va, .int .u64 U3.pa, .int .i64 U3.dom, .int .i64 U3.ap, .int .u32 U3.bits, .bool U3.ng, .bool U3.xn] 35) 37 [.int .i64 F3.k, .int .i64 F3.l, .int .i64 F3.d])
  have HT1_3 := hidW ((HT1_2.out.below hb).below (Below.step (below_new v3 (.cells #[.int .i64 U3.size, .int .u32 U3.va, .int .u64 U3.pa, .int .i64 U3.dom, .int .i64 U3.ap, .int .u32 U3.bits, .bool U3.ng, .bool U3.xn] 35)) (below_new _ (.cells #[.int .i64 F3.k, .int .i64 F3.l, .int .i64 F3.d] 37))))
  have HF1_3 := hidW ((HF1_2.out.below hb).below (Below.step (below_new v3 (.cells #[.int .i64 U3.size, .int .u32 U3.va, .int .u64 U3.pa, .int .i64 U3.dom, .int .i64 U3.ap, .int .u32 U3.bits, .bool U3.ng, .bool U3.xn] 35)) (below_new _ (.cells #[.int .i64 F3.k, .int .i64 F3.l, .int .i64 F3.d] 37))))
  have HT2_3 := hidW ((HT2.out.below hb).below (Below.step (below_new v3 (.cells #[.int .i64 U3.size, .int .u32 U3.va, .int .u64 U3.pa, .int .i64 U3.dom, .int .i64 U3.ap, .int .u32 U3.bits, .bool U3.ng, .bool U3.xn] 35)) (below_new _ (.cells #[.int .i64 F3.k, .int .i64 F3.l, .int .i64 F3.d] 37))))
  have HF2_3 := hidW ((HF2.out.below hb).below (Below.step (below_new v3 (.cells #[.int .i64 U3.size, .int .u32 U3.va, .int .u64 U3.pa, .int .i64 U3.dom, .int .i64 U3.ap, .int .u32 U3.bits, .bool U3.ng, .bool U3.xn] 35)) (below_new _ (.cells #[.int .i64 F3.k, .int .i64 F3.l, .int .i64 F3.d] 37))))
  clear hb HK2 HW3 HT1_2 HF1_2 HT2 HF2
  have c0 := HT1_3.out.cell
  have c1 := HF1_3.out.cell
  have c2 := HT2_3.out.cell
  have c3 := HF2_3.out.cell
  have c4 := HT3.out.cell
  have c5 := HF3.out.cell
  obtain ⟨k1a, k1b, k1c⟩ := k1.out
  obtain ⟨k2a, k2b⟩ := k2.out
  obtain ⟨k3a, k3b, k3c⟩ := k3.out
  have q1 : (U1.size == 1) = true := by rw [k1a]; rfl
  have q2 : (U1.pa == 28672) = true := by rw [k1b]; rfl
  have q3 : (F1.k == 0) = true := by rw [k1c]; rfl
  have q4 : (U2.size == 3) = true := by rw [k2a]; rfl
  have q5 : (F2.k == 0) = true := by rw [k2b]; rfl
  have q6 : ∀ w, (Op.equalIn 10000 37 (.agg #[.int .i64 F3.k, .int .i64 F3.l, .int .i64 F3.d]) (.agg #[.int .i64 5, .int .i64 0, .int .i64 1])).run Tryd.prog w = .ok true w := by
    intro w
    have h := eqF F3 ⟨5, 0, 1⟩ w
    rw [show F3.same ⟨5, 0, 1⟩ = true by unfold Fa.same; rw [k3a, k3b, k3c]; rfl] at h
    exact h
  clear k1a k1b k1c k2a k2b k3a k3b k3c k1 k2 k3
  have HE := hidW HK3.out.bel
  go_wp2
  go_ret
  exact ⟨rfl, HE.out⟩
end Go.Proofs.YtmodcbdgnmjkoaaDoor
