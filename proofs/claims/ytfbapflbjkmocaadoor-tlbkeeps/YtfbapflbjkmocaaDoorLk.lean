import Derived.Test.YtfbapflbjkmocaaDoorLkD
import Derived.Test.YtfbapflbjkmocaaDoorLkB
import Derived.Test.YtfbapflbjkmocaaDoorLkC
import Derived.Test.YtfbapflbjkmocaaDoorLkA0
import Derived.Test.YtfbapflbjkmocaaDoorLkA1
namespace Go.Proofs.YtfbapflbjkmocaaDoor
open Go.RowKit
set_option linter.unusedVariables false
set_option linter.unusedSimpArgs false
set_option maxRecDepth 1000000 in
set_option maxHeartbeats 64000000 in
theorem law_keeps (W : World) (x : Int) (sa : Option Addr) (cap : Nat) (ops : List Opr) (hS : Scr W sa ops) (hT : TR W) (hl : ops.length ≤ maxLen) :
    Calls Tryd.prog 5 #[.int .i64 x, .slice sa ops.length cap] W fun e w' => e = .returned (.bool true) ∧ Below W.heap.size W w' := by
  unfold maxLen at hl
  have HT : Hid (TR W) := hT
  have HS0 : Hid (Scr W sa ops) := hS
  have HP := hidW (pressed_any x W)
  have hpn := prN_le x
  generalize hn : ops.length = m at *
  have HM : Hid (ops.length = m) := hn
  clear hT hS hn
  generalize prN x = n at *
  go_enter Tryd.func5, Tryd.ntmps5
  go_wp2_with (fail)
  go_at_call 13
  refine HP.out.mono ?_
  rintro e w1 ⟨rfl, hp, hb⟩
  have HX : Hid (LV W w1 (W.heap.size + 1) W.heap.size (List.replicate n sZ)) := hidW ⟨hb, hp, HT.out.below hb, Nat.le_refl _⟩
  clear hp hb HP HT
  generalize hPp : W.heap.size + 1 = p at HX ⊢
  generalize hG : W.heap.size = g at HX ⊢
  clear hPp hG
  go_wp2_with (fail)
  go_at_call 9
  refine (live_any _ HX.out.tr).mono ?_
  rintro e w2 ⟨rfl, hb⟩
  replace HX := hidW (HX.out.step hb)
  clear hb
  go_wp2
  go_loopw [7] (fun i wr => ∃ (k : Nat) (L : List Slo), k ≤ m ∧ i = .int .i64 k ∧ L.length = n ∧ Uni L ∧ LV W wr p g L) (fun i _ => m - (intOf i).toNat)
  case atStart => exact ⟨0, _, by omega, rfl, zeros_len n, Uni.zeros n, HX.out⟩
  case round =>
    clear HX
    obtain ⟨k, L, hk, rfl, hln, hu, hX⟩ := hrel
    have HX := hidW hX
    have HN := hidW hln
    have HU0 := hidW hu
    have HLok := hidW HX.out.pt.ok
    clear hX hln hu
    by_cases hlt : k < m
    · obtain ⟨o, ba, off, hok, rfl, hoo, e0, e1, e2, e3, e4, e5, e6, e7, e8, e9, e10, e11, e12, e13, e14⟩ := HS0.out.at HX.out.bel (k := k) (by rw [HM.out]; exact hlt)
      have HD : Hid (∀ w, PT 77 w p g L → TR w → Calls Tryd.prog 14 #[.pointer (some ⟨p, 0, none⟩), .agg #[.int .i64 o.kind, .int .u32 o.va, .int .i64 o.n, .int .i64 o.b.asid, .int .i64 o.b.t.size, .int .u32 o.b.t.va, .int .u64 o.b.t.pa, .int .i64 o.b.t.dom, .int .i64 o.b.t.ap, .int .u32 o.b.t.bits, .bool o.b.t.ng, .bool o.b.t.xn, .int .i64 o.d.kind, .int .u32 o.d.va, .int .i64 o.d.asid]] w fun e w' => e = .returned (.tuple #[.int .i64 (dsI L o : Nat), .bool (dsB L o)]) ∧ PT 77 w' p g (opF L o) ∧ Turn (· = g) w w') := fun w h1 h2 => does_any w p g L o h1 h2 hoo
      have HOb := hidW hoo.b
      have HDv := hidW hoo.dva
      have HU := hidW (HU0.out.op o)
      have HMl := hidW ((opF_len L o).trans HN.out)
      clear hok hoo HS0 HM
      obtain ⟨ok, ova, on, ob, od⟩ := o
      dsimp only at HOb HDv e0 e1 e2 e3 e4 e5 e6 e7 e8 e9 e10 e11 e12 e13 e14 HD
      have HBx : Hid (Bl (wr.alloc (.cells ([.int .i64 ok, .int .u32 ova, .int .i64 on, .int .i64 ob.asid, .int .i64 ob.t.size, .int .u32 ob.t.va, .int .u64 ob.t.pa, .int .i64 ob.t.dom, .int .i64 ob.t.ap, .int .u32 ob.t.bits, .bool ob.t.ng, .bool ob.t.xn, .int .i64 od.kind, .int .u32 od.va, .int .i64 od.asid]).toArray 45)) wr.heap.size 45 ([.int .i64 ok, .int .u32 ova, .int .i64 on, .int .i64 ob.asid, .int .i64 ob.t.size, .int .u32 ob.t.va, .int .u64 ob.t.pa, .int .i64 ob.t.dom, .int .i64 ob.t.ap, .int .u32 ob.t.bits, .bool ob.t.ng, .bool ob.t.xn, .int .i64 od.kind, .int .u32 od.va, .int .i64 od.asid])) := hidW (Bl.new _ _ _)
      replace HX := hidW (HX.out.step (below_new _ (.cells ([.int .i64 ok, .int .u32 ova, .int .i64 on, .int .i64 ob.asid, .int .i64 ob.t.size, .int .u32 ob.t.va, .int .u64 ob.t.pa, .int .i64 ob.t.dom, .int .i64 ob.t.ap, .int .u32 ob.t.bits, .bool ob.t.ng, .bool ob.t.xn, .int .i64 od.kind, .int .u32 od.va, .int .i64 od.asid]).toArray 45)))
      go_wp2_with (fail)
      go_at_call 15
      clear e0 e1 e2 e3 e4 e5 e6 e7 e8 e9 e10 e11 e12 e13 e14
      generalize World.alloc _ _ = w3 at *
      generalize wr.heap.size = c at *
      refine (places_any _ _ _ _ HX.out.pt).mono ?_
      rintro e w4 ⟨rfl, hrow, hb⟩
      rw [HN.out]
      have hga : g < w3.heap.size := HX.out.pt.row.lt
      replace HX := hidW (HX.out.step hb)
      replace HBx := hidW (HBx.out.below hb)
      have HA := hidW hrow
      clear hb hrow
      generalize w3.heap.size = a at *
      have c0 := HBx.out.cell
      go_wp2_with (fail)
      go_at_call 14
      refine (HD.out _ HX.out.pt HX.out.tr).mono ?_
      rintro e w5 ⟨rfl, hp, hT⟩
      replace HBx := hidW (HBx.out.turn hT (HBx.out.ne HX.out.pt.row (by decide)))
      replace HA := hidW (HA.out.turn hT (fun e => by have e : a = g := e; omega))
      replace HX := hidW (HX.out.turn hp hT)
      clear hp hT HD c0
      generalize hMM : opF L ⟨ok, ova, on, ob, od⟩ = M at HX HU HMl
      have HMeq0 : Hid (opF L ⟨ok, ova, on, ob, od⟩ = M) := hMM
      clear hMM
      go_wp2_with (fail)
      go_at_call 15
      refine (places_any _ _ _ _ HX.out.pt).mono ?_
      rintro e w6 ⟨rfl, hrow, hb⟩
      rw [HMl.out]
      have HZ : Hid (KZ W w6 p g a w5.heap.size c L M ⟨ok, ova, on, ob, od⟩) := hidW ⟨HX.out.step hb, HA.out.below hb, hrow, HBx.out.below hb⟩
      clear hb hrow HX HA HBx hga
      have HX := HZ
      clear HZ
      generalize w5.heap.size = b at *
      by_cases h3 : ok = 3
      · subst h3
        have HDS : Hid (dsB L ⟨3, ova, on, ob, od⟩ = false) := hidW (dsB_no (show ¬ (3 : Int) = 2 by decide))
        rw [HDS.out]
        have HMeq : Hid (M = opF L ⟨3, ova, on, ob, od⟩) := hidW HMeq0.out.symm
        generalize dsI L ⟨3, ova, on, ob, od⟩ = at0
        clear HMeq0 HDS HU0
        go_wp2
        refine keeps_B W _ p g a b c n at0 L M ova on ob od hpn HN HMl HU HLok HMeq HX (fun {_ _ d _ _} h => by cases d <;> exact h) ?_
        refine hidW ?_
        intros
        rename_i t0 wq hrel0 hX
        have HX := hidW hX
        clear hX
        have c0 := HX.out.box.cell
        go_wp2
        go_roundw
        case rel => exact ⟨k + 1, M, by omega, by go_num, HMl.out, HU.out, HX.out.lv⟩
        case measure => simp [intOf]; omega
      by_cases h4 : ok = 4
      · subst h4
        have HDS : Hid (dsB L ⟨4, ova, on, ob, od⟩ = false) := hidW (dsB_no (show ¬ (4 : Int) = 2 by decide))
        rw [HDS.out]
        have HMeq : Hid (M = opF L ⟨4, ova, on, ob, od⟩) := hidW HMeq0.out.symm
        generalize dsI L ⟨4, ova, on, ob, od⟩ = at0
        clear HMeq0 HDS HU0
        go_wp2
        refine keeps_C W _ p g a b c n at0 L M ova on ob od hpn HN HMl HU HLok HMeq HDv HX (fun {_ _ d _ _} h => by cases d <;> exact h) ?_
        refine hidW ?_
        intros
        rename_i t0 wq hrel0 hX
        have HX := hidW hX
        clear hX
        have c0 := HX.out.box.cell
        go_wp2
        go_roundw
        case rel => exact ⟨k + 1, M, by omega, by go_num, HMl.out, HU.out, HX.out.lv⟩
        case measure => simp [intOf]; omega
      cases hds : dsB L ⟨ok, ova, on, ob, od⟩
      · have HDS := hidW hds
        have HMeq : Hid (M = L) := hidW (HMeq0.out.symm.trans (view_rest hds h3 h4))
        generalize dsI L ⟨ok, ova, on, ob, od⟩ = at0
        clear HMeq0 hds HU0
        go_wp2
        refine keeps_D W _ p g a b c n at0 L M ok ova on ob od hpn HN HMl HU HLok h3 h4 HMeq HX (fun {_ _ d _ _} h => by cases d <;> exact h) ?_
        refine hidW ?_
        intros
        rename_i t0 wq hrel0 hX
        have HX := hidW hX
        clear hX
        have c0 := HX.out.box.cell
        by_cases h2 : ok = 2
        · subst h2
          go_wp2_with (fail)
          go_at_call 11
          refine (tright_any ob _ HX.out.lv.tr HOb.out).mono ?_
          rintro e wa ⟨rfl, hb⟩
          rw [(show bR ob = false from (dsB_two (L := L) (o := ⟨2, ova, on, ob, od⟩) rfl).symm.trans HDS.out)]
          replace HX := hidW (HX.out.step hb)
          clear hb c0
          go_wp2
          go_roundw
          case rel => exact ⟨k + 1, M, by omega, by go_num, HMl.out, HU.out, HX.out.lv⟩
          case measure => simp [intOf]; omega
        · go_wp2
          go_roundw
          case rel => exact ⟨k + 1, M, by omega, by go_num, HMl.out, HU.out, HX.out.lv⟩
          case measure => simp [intOf]; omega
      · have h2 : ok = 2 := by
          by_cases h2 : ok = 2
          · exact h2
          · rw [dsB_no (o := ⟨ok, ova, on, ob, od⟩) h2] at hds; cases hds
        subst h2
        have HBr : Hid (bR ob = true) := hidW ((dsB_two (L := L) (o := ⟨2, ova, on, ob, od⟩) rfl).symm.trans hds)
        have hvw := view_put HU0.out (o := ⟨2, ova, on, ob, od⟩) (by rw [HN.out]; omega) rfl HBr.out
        rw [HMeq0.out] at hvw
        dsimp only at hvw
        have HWo : Hid ((wiN M ob : Int) = 1) := hidW (by have := hvw.1; omega)
        have hv2 := hvw.2
        clear hvw hds h3 h4
        generalize dsI L ⟨2, ova, on, ob, od⟩ = at0 at hv2 ⊢
        rcases hv2 with hv2 | ⟨hat, hv2, hwz⟩
        · have HMeq : Hid (M = L) := hv2
          clear HMeq0 hv2 HU0
          go_wp2
          refine keeps_A0 W _ p g a b c n at0 L M ova on ob od hpn HN HMl HU HLok HMeq HX (fun {_ _ d _ _} h => by cases d <;> exact h) ?_
          refine hidW ?_
          intros
          rename_i t0 wq hrel0 hX
          have HX := hidW hX
          clear hX
          have ht1 : ¬ (1 : Int) < (t0 : Int) := by omega
          have c0 := HX.out.box.cell
          go_wp2_with (fail)
          go_at_call 11
          refine (tright_any ob _ HX.out.lv.tr HOb.out).mono ?_
          rintro e wa ⟨rfl, hb⟩
          rw [HBr.out]
          replace HX := hidW (HX.out.step hb)
          clear hb c0
          have c0 := HX.out.box.cell
          go_wp2_with (fail)
          go_at_call 17
          refine (within_any _ _ _ _ _ ob HX.out.rb.rs0 (by omega) HMl.out).mono ?_
          rintro e wb ⟨rfl, hb⟩
          rw [HWo.out]
          replace HX := hidW (HX.out.step hb)
          clear hb c0
          go_wp2
          go_roundw
          case rel => exact ⟨k + 1, M, by omega, by go_num, HMl.out, HU.out, HX.out.lv⟩
          case measure => simp [intOf]; omega
        · have HMeq : Hid (M = L.set at0 ⟨true, ob⟩) := hv2
          have HWn : Hid (wiN L ob = 0) := hwz
          have HWz : Hid ((wiN L ob : Int) = 0) := hidW (by omega)
          have hat2 : at0 < n := by rw [HN.out] at hat; exact hat
          clear HMeq0 hv2 HU0 hwz hat
          go_wp2
          refine keeps_A1 W _ p g a b c n at0 L M ova on ob od hpn HN HMl HU HLok HMeq HWn HWz hat2 HX (fun {_ _ d _ _} h => by cases d <;> exact h) ?_
          refine hidW ?_
          intros
          rename_i t0 wq hrel0 hX
          have HX := hidW hX
          clear hX
          have ht1 : ¬ (1 : Int) < (t0 : Int) := by rw [hrel0]; split <;> omega
          clear hrel0
          have c0 := HX.out.box.cell
          go_wp2_with (fail)
          go_at_call 11
          refine (tright_any ob _ HX.out.lv.tr HOb.out).mono ?_
          rintro e wa ⟨rfl, hb⟩
          rw [HBr.out]
          replace HX := hidW (HX.out.step hb)
          clear hb c0
          have c0 := HX.out.box.cell
          go_wp2_with (fail)
          go_at_call 17
          refine (within_any _ _ _ _ _ ob HX.out.rb.rs0 (by omega) HMl.out).mono ?_
          rintro e wb ⟨rfl, hb⟩
          rw [HWo.out]
          replace HX := hidW (HX.out.step hb)
          clear hb c0
          go_wp2
          go_roundw
          case rel => exact ⟨k + 1, M, by omega, by go_num, HMl.out, HU.out, HX.out.lv⟩
          case measure => simp [intOf]; omega
    · obtain rfl : k = m := by omega
      go_wp2
      go_ret
      exact ⟨rfl, HX.out.bel⟩
end Go.Proofs.YtfbapflbjkmocaaDoor
