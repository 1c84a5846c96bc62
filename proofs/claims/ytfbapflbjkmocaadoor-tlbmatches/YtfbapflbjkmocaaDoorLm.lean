import Derived.Test.YtfbapflbjkmocaaDoorLl
namespace Go.Proofs.YtfbapflbjkmocaaDoor
open Go.RowKit
set_option linter.unusedVariables false
set_option linter.unusedSimpArgs false
set_option maxRecDepth 100000 in
set_option maxHeartbeats 16000000 in
theorem law_matches (W : World) (x : Int) (sa : Option Addr) (cap : Nat) (ops : List Opr) (va asid : Int) (hS : Scr W sa ops) (hT : TR W) (hl : ops.length ≤ maxLen) (hv : 0 ≤ va ∧ va < 4294967296) :
    Calls Tryd.prog 4 #[.int .i64 x, .slice sa ops.length cap, .int .u32 va, .int .i64 asid] W fun e w' => e = .returned (.bool true) ∧ Below W.heap.size W w' := by
  unfold maxLen at hl
  have HT : Hid (TR W) := hT
  have HS0 : Hid (Scr W sa ops) := hS
  have HV := hidW hv
  have HP := hidW (pressed_any x W)
  have hpn := prN_le x
  generalize hn : ops.length = m at *
  have HM : Hid (ops.length = m) := hn
  clear hT hS hn hv
  generalize prN x = n at *
  go_enter Tryd.func4, Tryd.ntmps4
  go_wp2_with (fail)
  go_at_call 13
  refine HP.out.mono ?_
  rintro e w1 ⟨rfl, hp, hb⟩
  have HX : Hid (LV W w1 (W.heap.size + 1) W.heap.size (List.replicate n sZ)) := hidW ⟨hb, hp, HT.out.below hb, Nat.le_refl _⟩
  clear hp hb HP
  generalize hPp : W.heap.size + 1 = p at HX ⊢
  generalize hG : W.heap.size = g at HX ⊢
  clear hPp hG
  go_wp2_with (fail)
  go_at_call 9
  refine (live_any _ HX.out.tr).mono ?_
  rintro e w2 ⟨rfl, hb⟩
  replace HX := hidW (HX.out.step hb)
  clear hb
  go_wp2
  go_loopw [11] (fun i wr => ∃ (k : Nat) (L : List Slo), k ≤ m ∧ i = .int .i64 k ∧ L.length = n ∧ LV W wr p g L) (fun i _ => m - (intOf i).toNat)
  case atStart => exact ⟨0, _, by omega, rfl, zeros_len n, HX.out⟩
  case round =>
    clear HX
    obtain ⟨k, L, hk, rfl, hln, hX⟩ := hrel
    have HX := hidW hX
    have HN := hidW hln
    clear hX hln
    by_cases hlt : k < m
    · obtain ⟨o, b, off, hok, rfl, hoo, e0, e1, e2, e3, e4, e5, e6, e7, e8, e9, e10, e11, e12, e13, e14⟩ := HS0.out.at HX.out.bel (k := k) (by rw [HM.out]; exact hlt)
      have HD : Hid (∀ w, PT 77 w p g L → TR w → Calls Tryd.prog 14 #[.pointer (some ⟨p, 0, none⟩), .agg #[.int .i64 o.kind, .int .u32 o.va, .int .i64 o.n, .int .i64 o.b.asid, .int .i64 o.b.t.size, .int .u32 o.b.t.va, .int .u64 o.b.t.pa, .int .i64 o.b.t.dom, .int .i64 o.b.t.ap, .int .u32 o.b.t.bits, .bool o.b.t.ng, .bool o.b.t.xn, .int .i64 o.d.kind, .int .u32 o.d.va, .int .i64 o.d.asid]] w fun e w' => e = .returned (.tuple #[.int .i64 (dsI L o : Nat), .bool (dsB L o)]) ∧ PT 77 w' p g (opF L o) ∧ Turn (· = g) w w') := fun w h1 h2 => does_any w p g L o h1 h2 hoo
      clear hok hoo
      obtain ⟨ok, ova, on, ob, od⟩ := o
      dsimp only at *
      go_wp2_with (fail)
      go_at_call 14
      refine (HD.out _ HX.out.pt HX.out.tr).mono ?_
      rintro e w3 ⟨rfl, hp, hT⟩
      replace HX := hidW (HX.out.turn hp hT)
      have HN2 := hidW ((opF_len L ⟨ok, ova, on, ob, od⟩).trans HN.out)
      clear hp hT HD
      go_wp2
      go_roundw
      case rel => exact ⟨k + 1, _, by omega, by go_num, HN2.out, HX.out⟩
      case measure => simp [intOf]; omega
    · obtain rfl : k = m := by omega
      clear HS0 HM hlt
      go_wp2_with (fail)
      go_at_call 15
      refine (places_any _ _ _ _ HX.out.pt).mono ?_
      rintro e w3 ⟨rfl, hrow, hb⟩
      rw [HN.out]
      replace HX := hidW (HX.out.step hb)
      have HRw := hidW hrow
      have hle : W.heap.size ≤ w3.heap.size := HX.out.bel.size
      have HM0 : Hid (MX W (w3.alloc (.cells ([.int .i64 0, .int .i64 0, .int .u32 0, .int .u64 0, .int .i64 0, .int .i64 0, .int .u32 0, .bool false, .bool false]).toArray 29)) p g wr.heap.size w3.heap.size L bZ) := hidW ⟨HX.out.step (below_new _ _), HRw.out.below (below_new _ _), Bl.new _ _ _, hle, HT.out⟩
      clear hb hrow HRw HX HT
      generalize wr.heap.size = P at *
      go_wp2
      generalize World.alloc _ _ = w4 at *
      generalize w3.heap.size = B at *
      clear hle
      generalize wr = wz at *
      go_loopw [13, 15] (fun c i wr => ∃ k : Nat, k ≤ n ∧ c = .int .i64 (((lkP (L.take k) va asid).2 : Nat) : Int) ∧ i = .int .i64 k ∧ MX W wr p g P B L (lkP (L.take k) va asid).1) (fun _ i _ => n - (intOf i).toNat)
      case atStart => exact ⟨0, by omega, rfl, rfl, HM0.out⟩
      case round =>
        clear HM0
        obtain ⟨j, hj, rfl, rfl, hX⟩ := hrel
        have HX := hidW hX
        clear hX
        have hc : (lkP (L.take j) va asid).2 ≤ j := by
          have h1 := lkP_le va asid (L.take j)
          rw [List.length_take] at h1
          omega
        by_cases hlj : j < n
        · obtain ⟨s, hs⟩ : ∃ s, L[j]? = some s := ⟨_, List.getElem?_eq_getElem (by rw [HN.out]; exact hlj)⟩
          obtain ⟨e0, e1, e2, e3, e4, e5, e6, e7, e8, e9⟩ := rowS_cells HX.out.row hs
          have HL := hidW hs
          have HQ := hidW (lkP_take hs va asid)
          have HO := hidW (HX.out.lv.pt.ok.at hs).ok
          clear hs
          generalize lkP (L.take j) va asid = r at *
          obtain ⟨rb, rn⟩ := r
          obtain ⟨fu, sb⟩ := s
          dsimp only at *
          cases fu
          · have HQ2 : Hid (lkP (L.take (j + 1)) va asid = (rb, rn)) := HQ.out
            clear HQ HL HO
            go_wp2
            go_roundw
            case rel => exact ⟨j + 1, by omega, by rw [HQ2.out], by go_num, by rw [HQ2.out]; exact HX.out⟩
            case measure => simp [intOf]; omega
          · have HQ1 : Hid (lkP (L.take (j + 1)) va asid = if ovF sb va asid = true then (sb, rn + 1) else (rb, rn)) := by
              have := HQ.out
              simp only [lkS, Bool.true_and] at this
              exact this
            have HOv := hidW (over_any sb va asid _ HX.out.lv.tr HO.out HV.out)
            clear HQ
            go_wp2_with (fail)
            go_at_call 12
            refine HOv.out.mono ?_
            rintro e w6 ⟨rfl, hb⟩
            replace HX := hidW (HX.out.step hb)
            clear hb HOv e0 e1 e2 e3 e4 e5 e6 e7 e8 e9
            cases hm : ovF sb va asid
            · have HQ2 : Hid (lkP (L.take (j + 1)) va asid = (rb, rn)) := by rw [hm] at HQ1; exact HQ1.out
              clear HQ1 hm HL HO
              go_wp2
              go_roundw
              case rel => exact ⟨j + 1, by omega, by rw [HQ2.out], by go_num, by rw [HQ2.out]; exact HX.out⟩
              case measure => simp [intOf]; omega
            · have HQ2 : Hid (lkP (L.take (j + 1)) va asid = (sb, rn + 1)) := by rw [hm] at HQ1; exact HQ1.out
              obtain ⟨e0, e1, e2, e3, e4, e5, e6, e7, e8, e9⟩ := rowS_cells HX.out.row HL.out
              dsimp only at *
              have c2 := HX.out.box.cell
              have f2 := HX.out.box.frozen
              have l2 := HX.out.box.lt
              clear HQ1 hm HL HO
              go_wp2
              go_roundw
              case rel => exact ⟨j + 1, by omega, by rw [HQ2.out]; go_num, by go_num, by rw [HQ2.out]; exact HX.out.put sb⟩
              case measure => simp [intOf]; omega
        · obtain rfl : j = n := by omega
          have HR : Hid (lkF L va asid = if (lkP (L.take j) va asid).2 = 1 then lkP (L.take j) va asid else (bZ, (lkP (L.take j) va asid).2)) := by
            rw [← HN.out, List.take_length]
            exact hidW rfl
          have HLk : Hid (∀ w, LV W w p g L → Calls Tryd.prog 16 #[.pointer (some ⟨p, 0, none⟩), .int .u32 va, .int .i64 asid] w fun e w' => e = .returned (.tuple #[.agg #[.int .i64 ((lkF L va asid).1).asid, .int .i64 ((lkF L va asid).1).t.size, .int .u32 ((lkF L va asid).1).t.va, .int .u64 ((lkF L va asid).1).t.pa, .int .i64 ((lkF L va asid).1).t.dom, .int .i64 ((lkF L va asid).1).t.ap, .int .u32 ((lkF L va asid).1).t.bits, .bool ((lkF L va asid).1).t.ng, .bool ((lkF L va asid).1).t.xn], .int .i64 ((lkF L va asid).2 : Nat)]) ∧ Below w.heap.size w w') := fun w h => look_any w p g L va asid h.pt h.tr.tb HV.out
          generalize lkP (L.take j) va asid = r at *
          generalize lkF L va asid = q at *
          obtain ⟨rb, rn⟩ := r
          have r1 := HX.out.box.cell
          have r2 := HX.out.box.frozen
          have r3 := HX.out.box.lt
          dsimp only at *
          by_cases h1 : rn = 1
          · have HR2 : Hid (q = (rb, rn)) := by rw [if_pos h1] at HR; exact HR.out
            have he := eqB rb rb
            rw [Blo.same_self] at he
            rw [HR2.out] at HLk
            clear HR HR2
            subst h1
            dsimp only at HLk
            go_wp2_with (fail)
            go_at_call 16
            refine (HLk.out _ HX.out.lv).mono ?_
            rintro e w7 ⟨rfl, hb⟩
            replace HX := hidW ((HX.out.step hb).step (below_new _ (.cells ([.int .i64 rb.asid, .int .i64 rb.t.size, .int .u32 rb.t.va, .int .u64 rb.t.pa, .int .i64 rb.t.dom, .int .i64 rb.t.ap, .int .u32 rb.t.bits, .bool rb.t.ng, .bool rb.t.xn]).toArray 29)))
            have HY := hidW (Bl.new w7 29 ([.int .i64 rb.asid, .int .i64 rb.t.size, .int .u32 rb.t.va, .int .u64 rb.t.pa, .int .i64 rb.t.dom, .int .i64 rb.t.ap, .int .u32 rb.t.bits, .bool rb.t.ng, .bool rb.t.xn]))
            clear hb HLk r1 r2 r3
            have c1 := HX.out.box.cell
            have c2 := HY.out.cell
            go_wp2
            go_ret
            exact ⟨by simp, HX.out.lv.bel⟩
          · have HR2 : Hid (q = (bZ, rn)) := by rw [if_neg h1] at HR; exact HR.out
            have he : ∀ w, (Op.equalIn 10000 29 (.agg #[.int .i64 0, .int .i64 0, .int .u32 0, .int .u64 0, .int .i64 0, .int .i64 0, .int .u32 0, .bool false, .bool false]) (.agg #[.int .i64 0, .int .i64 0, .int .u32 0, .int .u64 0, .int .i64 0, .int .i64 0, .int .u32 0, .bool false, .bool false])).run Tryd.prog w = .ok true w := fun w => eqB bZ bZ w
            rw [HR2.out] at HLk
            have hz : ¬ (rn : Int) = 1 := by omega
            have HX2 : Hid (MX W (((((((((wr.setCell ⟨B, 0, none⟩ (.int .i64 0)).setCell ⟨B, 1, none⟩ (.int .i64 0)).setCell ⟨B, 2, none⟩ (.int .u32 0)).setCell ⟨B, 3, none⟩ (.int .u64 0)).setCell ⟨B, 4, none⟩ (.int .i64 0)).setCell ⟨B, 5, none⟩ (.int .i64 0)).setCell ⟨B, 6, none⟩ (.int .u32 0)).setCell ⟨B, 7, none⟩ (.bool false)).setCell ⟨B, 8, none⟩ (.bool false)) p g P B L bZ) := hidW (HX.out.put bZ)
            have HLk2 : Hid (∀ w, LV W w p g L → Calls Tryd.prog 16 #[.pointer (some ⟨p, 0, none⟩), .int .u32 va, .int .i64 asid] w fun e w' => e = .returned (.tuple #[.agg #[.int .i64 0, .int .i64 0, .int .u32 0, .int .u64 0, .int .i64 0, .int .i64 0, .int .u32 0, .bool false, .bool false], .int .i64 (rn : Int)]) ∧ Below w.heap.size w w') := HLk
            clear HR HR2 HX HLk
            go_wp2_with (fail)
            go_at_call 16
            refine (HLk2.out _ HX2.out.lv).mono ?_
            rintro e w7 ⟨rfl, hb⟩
            have HX3 : Hid _ := hidW ((HX2.out.step hb).step (below_new _ (.cells ([.int .i64 0, .int .i64 0, .int .u32 0, .int .u64 0, .int .i64 0, .int .i64 0, .int .u32 0, .bool false, .bool false]).toArray 29)))
            have HY := hidW (Bl.new w7 29 [.int .i64 0, .int .i64 0, .int .u32 0, .int .u64 0, .int .i64 0, .int .i64 0, .int .u32 0, .bool false, .bool false])
            clear hb HLk2 r1 r2 r3 HX2
            have HBz : Hid (Bl (w7.alloc (.cells ([.int .i64 0, .int .i64 0, .int .u32 0, .int .u64 0, .int .i64 0, .int .i64 0, .int .u32 0, .bool false, .bool false]).toArray 29)) B 29 [.int .i64 0, .int .i64 0, .int .u32 0, .int .u64 0, .int .i64 0, .int .i64 0, .int .u32 0, .bool false, .bool false]) := hidW HX3.out.box
            have c1 := HBz.out.cell
            have c2 := HY.out.cell
            go_wp2
            go_ret
            exact ⟨by simp, HX3.out.lv.bel⟩
end Go.Proofs.YtfbapflbjkmocaaDoor
