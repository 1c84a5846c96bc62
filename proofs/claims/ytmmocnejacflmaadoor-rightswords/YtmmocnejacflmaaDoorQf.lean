import Derived.Test.YtmmocnejacflmaaDoorQs
import Derived.Test.YtmmocnejacflmaaDoorGf
namespace Go.Proofs.YtmmocnejacflmaaDoor
open Go.RowKit
set_option linter.unusedVariables false
set_option linter.unusedSimpArgs false
/-- The fault leaves that word. -/
def Mt (x : Int) (f : Fa) : Prop := rtF f = true ∧ (stW f false = x ∨ stW f false + 2048 = x)
/-- None ahead of that place does. -/
def NB (x k l d : Int) : Prop := ∀ f : Fa, 1 ≤ f.k → Rg f → 0 ≤ f.d → f.d ≤ 15 → (f.k < k ∨ (f.k = k ∧ (f.l < l ∨ (f.l = l ∧ f.d < d)))) → ¬ Mt x f
theorem NB.start (x : Int) : NB x 1 0 0 := fun f h1 h2 h3 h4 h5 => by
  simp only [Rg] at h2
  omega
theorem NB.next {x k l d : Int} (h : NB x k l d) (hm : ¬ Mt x ⟨k, l, d⟩) : NB x k l (d + 1) := fun f h1 h2 h3 h4 h5 => by
  by_cases he : f.k = k ∧ f.l = l ∧ f.d = d
  · obtain ⟨rfl, rfl, rfl⟩ := he
    exact hm
  · exact h f h1 h2 h3 h4 (by omega)
theorem NB.level {x k l : Int} (h : NB x k l 16) : NB x k (l + 1) 0 := fun f h1 h2 h3 h4 h5 => h f h1 h2 h3 h4 (by omega)
theorem NB.kind {x k : Int} (h : NB x k 3 0) : NB x (k + 1) 0 0 := fun f h1 h2 h3 h4 h5 => h f h1 h2 h3 h4 (by simp only [Rg] at h2; omega)
theorem NB.done {x : Int} (h : NB x 11 0 0) : fF x = fZ ∧ fB x = false ∧ fE x = 70 := none_found x (fun f h1 h2 h3 h4 hr => by
  have := h f h1 h2 h3 h4 (by simp only [Rg] at h2; omega)
  refine ⟨fun e => this ⟨hr, Or.inl e⟩, fun e => this ⟨hr, Or.inr e⟩⟩)
set_option maxRecDepth 100000 in
set_option maxHeartbeats 4000000 in
theorem rfault_any (x : Int) (w : World) (hx : 0 ≤ x ∧ x < 4294967296) :
    Calls Tryd.prog 15 #[.int .u32 x] w fun r w' => r = .returned (.tuple #[.agg #[.int .i64 (fF x).k, .int .i64 (fF x).l, .int .i64 (fF x).d], .bool (fB x), .int .i64 (fE x)]) ∧ Below w.heap.size w w' := by
  have HX0 : Hid (CX w (w.alloc (.cells #[.int .i64 0, .int .i64 0, .int .i64 0] 28))) := CX.new w
  have HD : Hid (NB x 11 0 0 → fF x = ⟨0, 0, 0⟩ ∧ fB x = false ∧ fE x = 70) := NB.done
  have HF : Hid (∀ f : Fa, rtF f = true → stW f false = x → fF x = f ∧ fB x = false ∧ fE x = 0) := fun f h1 h2 => by
    have := fault_of false h1
    rwa [h2] at this
  have HG : Hid (∀ f : Fa, rtF f = true → stW f false + 2048 = x → fF x = f ∧ fB x = true ∧ fE x = 0) := fun f h1 h2 => by
    have := fault_of true h1
    rwa [(st_fa false h1).2.2.2.2.2.2, h2] at this
  generalize fF x = FF at *
  generalize fB x = FB at *
  generalize fE x = FE at *
  clear hx
  go_enter Tryd.func15, Tryd.ntmps15
  go_wp2
  go_loopw [5] (fun i wr => ∃ (k : Nat), 1 ≤ k ∧ k ≤ 11 ∧ i = .int .i64 k ∧ NB x k 0 0 ∧ CX w wr) (fun i _ => 11 - (intOf i).toNat)
  case atStart => exact ⟨1, by omega, by omega, rfl, NB.start x, HX0.out⟩
  case round =>
    obtain ⟨k, hk1, hk, rfl, hS, hX⟩ := hrel
    have HS : Hid (NB x k 0 0) := hS
    have HX : Hid (CX w wr) := hX
    clear hS hX HX0
    by_cases h : k < 11
    · have hi : (k : Int) ≤ 10 := by omega
      have hw : IntKind.i64.wrap ((k : Int) + 1) = ((k + 1 : Nat) : Int) := by rw [IntKind.wrap_i64]; omega
      clear hk HD
      go_wp2
      go_loopw [6] (fun i wr => ∃ (l : Nat), l ≤ 3 ∧ i = .int .i64 l ∧ NB x k l 0 ∧ CX w wr) (fun i _ => 3 - (intOf i).toNat)
      case atStart => exact ⟨0, by omega, rfl, HS.out, HX.out⟩
      case round =>
        obtain ⟨l, hl, rfl, hS, hX⟩ := hrel
        clear HS HX
        have HS : Hid (NB x k l 0) := hS
        have HX : Hid (CX w wr) := hX
        clear hS hX
        by_cases h2 : l < 3
        · have hi2 : (l : Int) < 3 := by omega
          have hw2 : IntKind.i64.wrap ((l : Int) + 1) = ((l + 1 : Nat) : Int) := by rw [IntKind.wrap_i64]; omega
          clear hl
          go_wp2
          go_loopw [7] (fun i wr => ∃ (d : Nat), d ≤ 16 ∧ i = .int .i64 d ∧ NB x k l d ∧ CX w wr) (fun i _ => 16 - (intOf i).toNat)
          case atStart => exact ⟨0, by omega, rfl, HS.out, HX.out⟩
          case round =>
            obtain ⟨d, hd, rfl, hS, hX⟩ := hrel
            clear HS HX
            have HS : Hid (NB x k l d) := hS
            have HX : Hid (CX w wr) := hX
            clear hS hX
            by_cases h3 : d < 16
            · have hi3 : (d : Int) < 16 := by omega
              have hw3 : IntKind.i64.wrap ((d : Int) + 1) = ((d + 1 : Nat) : Int) := by rw [IntKind.wrap_i64]; omega
              have HY : Hid (CX w (wr.alloc (.cells #[.int .i64 k, .int .i64 l, .int .i64 d] 28))) := HX.out.alloc _
              have HL : Hid (Bl (wr.alloc (.cells #[.int .i64 k, .int .i64 l, .int .i64 d] 28)) wr.heap.size 28 [.int .i64 k, .int .i64 l, .int .i64 d]) := Bl.new _ _ _
              have hne : ¬ (w.heap.size = wr.heap.size) := by have := HX.out.res.lt; omega
              clear hd HX
              cases hr : rtF ⟨k, l, d⟩ with
              | false =>
                have HC : Hid (∀ w, Calls Tryd.prog 11 #[.agg #[.int .i64 k, .int .i64 l, .int .i64 d], .bool false] w fun e w' => e = .returned (.tuple #[.int .u32 0, .int .i64 70]) ∧ Below w.heap.size w w') := fun w => by
                  have := rstatus_any ⟨k, l, d⟩ false w
                  simpa [stF, hr] using this
                have HN : Hid (NB x k l (d + 1)) := HS.out.next (fun hm => by rw [hm.1] at hr; cases hr)
                clear HS hr
                go_wp2_with (fail)
                go_at_call 11
                refine (HC.out _).mono ?_
                rintro e w1 ⟨rfl, hb⟩
                have HY1 : Hid (CX w w1) := ⟨Below.step HY.out.bel hb, HY.out.res.below hb⟩
                clear hb HY HL HC
                go_wp2
                go_roundw
                case rel => exact ⟨d + 1, by omega, rfl, HN.out, HY1.out⟩
                case measure => simp [intOf]; omega
              | true =>
                have HC : Hid (∀ w, Calls Tryd.prog 11 #[.agg #[.int .i64 k, .int .i64 l, .int .i64 d], .bool false] w fun e w' => e = .returned (.tuple #[.int .u32 (stW ⟨k, l, d⟩ false), .int .i64 0]) ∧ Below w.heap.size w w') := fun w => by
                  have := rstatus_any ⟨k, l, d⟩ false w
                  simpa [stF, hr] using this
                have HV1 : Hid (stW ⟨k, l, d⟩ false = x → FF = ⟨k, l, d⟩ ∧ FB = false ∧ FE = 0) := HF.out _ hr
                have HV2 : Hid (stW ⟨k, l, d⟩ false + 2048 = x → FF = ⟨k, l, d⟩ ∧ FB = true ∧ FE = 0) := HG.out _ hr
                have HN : Hid (¬ stW ⟨k, l, d⟩ false = x → ¬ stW ⟨k, l, d⟩ false + 2048 = x → NB x k l (d + 1)) := fun n1 n2 => HS.out.next (fun hm => by rcases hm.2 with e | e; exact n1 e; exact n2 e)
                have hs := st_fa false hr
                have hm : (stW ⟨k, l, d⟩ false + 2048) % 4294967296 = stW ⟨k, l, d⟩ false + 2048 := by omega
                generalize stW ⟨k, l, d⟩ false = A at *
                clear HS hr hs
                go_wp2_with (fail)
                go_at_call 11
                refine (HC.out _).mono ?_
                rintro e w1 ⟨rfl, hb⟩
                have HY1 : Hid (CX w w1) := ⟨Below.step HY.out.bel hb, HY.out.res.below hb⟩
                have HL1 : Hid (Bl w1 wr.heap.size 28 [.int .i64 k, .int .i64 l, .int .i64 d]) := HL.out.below hb
                clear hb HY HL HC
                have c0 := HY1.out.res.cell
                have f0 := HY1.out.res.frozen
                have l0 := HY1.out.res.lt
                have c1 := HL1.out.cell
                by_cases g1 : A = x
                · have q1 : (A == x) = true := by simp [g1]
                  have HV := HV1.out g1
                  have HV' : Hid (FF = ⟨k, l, d⟩ ∧ FB = false ∧ FE = 0) := HV
                  clear HV g1 HV1 HV2 HN HF HG
                  go_wp2
                  refine bodyPost_ret (v := .tuple #[.agg #[.int .i64 k, .int .i64 l, .int .i64 d], .bool false, .int .i64 0]) (by simp [results, Tryd.results15, go_sem, c0, f0, l0]) rfl ⟨by rw [HV'.out.1, HV'.out.2.1, HV'.out.2.2], (by (repeat (with_reducible refine Below.setCell ?_ (by simp) _)); exact HY1.out.bel)⟩
                · have q1 : (A == x) = false := by simp [g1]
                  by_cases g2 : A + 2048 = x
                  · have q2 : (A + 2048 == x) = true := by simp [g2]
                    have HV := HV2.out g2
                    have HV' : Hid (FF = ⟨k, l, d⟩ ∧ FB = true ∧ FE = 0) := HV
                    clear HV g1 g2 HV1 HV2 HN HF HG
                    go_wp2
                    refine bodyPost_ret (v := .tuple #[.agg #[.int .i64 k, .int .i64 l, .int .i64 d], .bool true, .int .i64 0]) (by simp [results, Tryd.results15, go_sem, c0, f0, l0]) rfl ⟨by rw [HV'.out.1, HV'.out.2.1, HV'.out.2.2], (by (repeat (with_reducible refine Below.setCell ?_ (by simp) _)); exact HY1.out.bel)⟩
                  · have q2 : (A + 2048 == x) = false := by simp [g2]
                    have HN' : Hid (NB x k l (d + 1)) := HN.out g1 g2
                    clear g1 g2 HV1 HV2 HN HF HG
                    go_wp2
                    go_roundw
                    case rel => exact ⟨d + 1, by omega, rfl, HN'.out, HY1.out⟩
                    case measure => simp [intOf]; omega
            · obtain rfl : d = 16 := by omega
              have HN : Hid (NB x k (l + 1) 0) := HS.out.level
              clear HS h3 hd
              go_wp2
              go_roundw
              case rel => exact ⟨l + 1, by omega, rfl, HN.out, HX.out⟩
              case measure => simp [intOf]; omega
        · obtain rfl : l = 3 := by omega
          have HN : Hid (NB x (k + 1) 0 0) := HS.out.kind
          clear HS h2 hl
          go_wp2
          go_roundw
          case rel => exact ⟨k + 1, by omega, by omega, rfl, HN.out, HX.out⟩
          case measure => simp [intOf]; omega
    · obtain rfl : k = 11 := by omega
      have HV := HD.out HS.out
      have HV' : Hid (FF = ⟨0, 0, 0⟩ ∧ FB = false ∧ FE = 70) := HV
      have c0 := HX.out.res.cell
      have f0 := HX.out.res.frozen
      have l0 := HX.out.res.lt
      clear HV HS h hk HF HG HD
      go_wp2
      refine bodyPost_ret (v := .tuple #[.agg #[.int .i64 0, .int .i64 0, .int .i64 0], .bool false, .int .i64 70]) (by simp [results, Tryd.results15, go_sem, c0, f0, l0]) rfl ⟨by rw [HV'.out.1, HV'.out.2.1, HV'.out.2.2], (by (repeat (with_reducible refine Below.setCell ?_ (by simp) _)); exact HX.out.bel)⟩
end Go.Proofs.YtmmocnejacflmaaDoor
